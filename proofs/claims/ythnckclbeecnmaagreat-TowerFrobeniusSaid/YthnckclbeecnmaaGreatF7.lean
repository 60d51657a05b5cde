/- What (*Field).lessOnce comes to. (Cut to what is reached, written closely: Downs · Not · Refs · Cmp · FFld · FLess.) -/
import Derived.Test.YthnckclbeecnmaaGreatF6
import Derived.Laws.Bits64
import Derived.Test.YthnckclbeecnmaaGreatF1
import Derived.Test.YthnckclbeecnmaaGreatF5
import Derived.Deep.RegionWith
import Derived.Deep.QuietTactic
import Derived.BigQuiet
import Derived.Test.YthnckclbeecnmaaGreatF4
import Derived.Test.YthnckclbeecnmaaGreatF3
set_option linter.all false
set_option maxRecDepth 100000
set_option maxHeartbeats 8000000
namespace Go.Proofs.YthnckclbeecnmaaGreat
open Go.RowKit
theorem down_lt{p q s t:Nat}(hp:p<18446744073709551616)(h:s+t=64):p / 2^s+q*2^t%18446744073709551616<18446744073709551616:=by
 have hD:=pow_split h;have hS:0<2^s:=Nat.two_pow_pos s;have hps:p / 2^s<2^t:=by rw[Nat.div_lt_iff_lt_mul hS,Nat.mul_comm,hD];exact hp
 have e:q*2^t%18446744073709551616=2^t*(q%2^s):=by
  rw[<- hD,Nat.mul_comm (2^s),Nat.mul_comm q,Nat.mul_mod_mul_left]
 have hr:=Nat.mod_lt q hS;have:2^t*(q%2^s)+2^t<=2^s*2^t:=by
  rw[<- Nat.mul_succ,Nat.mul_comm (2^s)];exact Nat.mul_le_mul_left _ hr
 omega
theorem down_parts(k0 k1 k2 k3 a0 a1 a2 a3 f p0 p1 p2 p3 p4 s t:Nat)(wh j0 j1 j2 j3 j4:Int)(hst:s+t=64)(hs:s<64)
  (u0:p0<18446744073709551616) (u1:p1<18446744073709551616) (u2:p2<18446744073709551616) (u3:p3<18446744073709551616)
  (e0:IntKind.i64.wrap wh=j0) (e1:IntKind.i64.wrap (1+wh)=j1) (e2:IntKind.i64.wrap (2+wh)=j2) (e3:IntKind.i64.wrap (3+wh)=j3)
  (g0:IntKind.i64.wrap (j0+1)=j1) (g1:IntKind.i64.wrap (j1+1)=j2) (g2:IntKind.i64.wrap (j2+1)=j3) (g3:IntKind.i64.wrap (j3+1)=j4) (w:World)
  (hC:∀(b c:Nat) (W:World),W.cell? ⟨b,0,none⟩=some (.int .u64 a0)->W.cell? ⟨b,1,none⟩=some (.int .u64 a1)->W.cell? ⟨b,2,none⟩=some (.int .u64 a2)->W.cell? ⟨b,3,none⟩=some (.int .u64 a3)->W.cell? ⟨c,0,none⟩=some (.int .u64 f) ->
   (Calls Tryz.prog 137 #[.int .i64 j0,.pointer (some ⟨b,0,none⟩),.pointer (some ⟨c,0,none⟩)] W fun e w'=>e=.returned (.int .u64 p0)/\w'=W) /\
   (Calls Tryz.prog 137 #[.int .i64 j1,.pointer (some ⟨b,0,none⟩),.pointer (some ⟨c,0,none⟩)] W fun e w'=>e=.returned (.int .u64 p1)/\w'=W) /\
   (Calls Tryz.prog 137 #[.int .i64 j2,.pointer (some ⟨b,0,none⟩),.pointer (some ⟨c,0,none⟩)] W fun e w'=>e=.returned (.int .u64 p2)/\w'=W) /\
   (Calls Tryz.prog 137 #[.int .i64 j3,.pointer (some ⟨b,0,none⟩),.pointer (some ⟨c,0,none⟩)] W fun e w'=>e=.returned (.int .u64 p3)/\w'=W) /\
   (Calls Tryz.prog 137 #[.int .i64 j4,.pointer (some ⟨b,0,none⟩),.pointer (some ⟨c,0,none⟩)] W fun e w'=>e=.returned (.int .u64 p4)/\w'=W))
  (hS:∀ w,Calls Tryz.prog 129 #[.agg #[.int .u64 k0,.int .u64 k1,.int .u64 k2,.int .u64 k3]] w fun e w'=>e=.returned (.tuple #[.int .i64 wh,.int .i64 s])/\Below w.heap.size w w') :
  Calls Tryz.prog 134 #[.agg #[.int .u64 k0,.int .u64 k1,.int .u64 k2,.int .u64 k3],.agg #[.int .u64 a0,.int .u64 a1,.int .u64 a2,.int .u64 a3],.int .u64 f] w fun e w' =>
   e=.returned (wv (n4 (p0 / 2^s+p1*2^t%18446744073709551616) (p1 / 2^s+p2*2^t%18446744073709551616) (p2 / 2^s+p3*2^t%18446744073709551616) (p3 / 2^s+p4*2^t%18446744073709551616)))/\Below w.heap.size w w':=by
 have ht:IntKind.i64.wrap (64 - (s:Int))=(t:Int):=by rw[IntKind.wrap_i64];omega
 have h:=down_walk k0 k1 k2 k3 a0 a1 a2 a3 f p0 p1 p2 p3 p4 s t wh j0 j1 j2 j3 j4 (by omega) (by omega) ht (by omega) e0 e1 e2 e3 g0 g1 g2 g3 w hC hS;rw[cmb_down (p:=p0) (q:=p1) u0 hst,cmb_down (p:=p1) (q:=p2) u1 hst,cmb_down (p:=p2) (q:=p3) u2 hst,cmb_down (p:=p3) (q:=p4) u3 hst,
  <- wv_n4 (down_lt u0 hst) (down_lt u1 hst) (down_lt u2 hst) (down_lt u3 hst)]at h
 exact h
def sel(a0 a1 a2 a3 f:Nat)(i:Nat):Nat:=match i with | 0=>a0 | 1=>a1 | 2=>a2 | 3=>a3 | _=>f
theorem down_sel(k x m f:Nat)(a0 a1 a2 a3:Nat)(hf:f<18446744073709551616)(u0:a0<18446744073709551616)(u1:a1<18446744073709551616)(u2:a2<18446744073709551616)(u3:a3<18446744073709551616)(hm:m<=256)
  (ea:wv x=.agg #[.int .u64 a0,.int .u64 a1,.int .u64 a2,.int .u64 a3])
  (hS:∀ w,Calls Tryz.prog 129 #[wv k] w fun e w'=>e=.returned (.tuple #[.int .i64 ((m / 64:Nat):Int),.int .i64 ((m%64:Nat):Int)])/\Below w.heap.size w w') (w:World) :
  Calls Tryz.prog 134 #[wv k,wv x,.int .u64 f] w fun e w' =>
   e=.returned (wv (n4 (sel a0 a1 a2 a3 f (m / 64) / 2^(m%64)+sel a0 a1 a2 a3 f (m / 64+1)*2^(64 - m%64)%18446744073709551616) (sel a0 a1 a2 a3 f (m / 64+1) / 2^(m%64)+sel a0 a1 a2 a3 f (m / 64+2)*2^(64 - m%64)%18446744073709551616)
    (sel a0 a1 a2 a3 f (m / 64+2) / 2^(m%64)+sel a0 a1 a2 a3 f (m / 64+3)*2^(64 - m%64)%18446744073709551616) (sel a0 a1 a2 a3 f (m / 64+3) / 2^(m%64)+f*2^(64 - m%64)%18446744073709551616)))/\Below w.heap.size w w':=by
 obtain⟨k0,k1,k2,k3,-,-,-,-,ek,-⟩:=wv_parts k;rw[ek]at hS;rw[ek,ea];have hst:m%64+(64 - m%64)=64:=by omega
 have hs:m%64<64:=by omega
 have hw:m / 64=0\/m / 64=1\/m / 64=2\/m / 64=3\/m / 64=4:=by omega
 have past:=fun(i:Int) (hi:4<=i) (b c:Nat) (W:World) (h:W.cell? ⟨c,0,none⟩=some (.int .u64 f))=>down_past i b c _ hi W h;rcases hw with h | h | h | h | h
 all_goals rw[h]at hS |-
 ·exact down_parts k0 k1 k2 k3 a0 a1 a2 a3 f a0 a1 a2 a3 f (m%64) (64 - m%64) 0 0 1 2 3 4 hst hs u0 u1 u2 u3 (by decide) (by decide) (by decide) (by decide) (by decide) (by decide) (by decide) (by decide) w
   (fun b c W c0 c1 c2 c3 cf=>⟨down_at 0 b c _ (by omega) (by omega) W c0,down_at 1 b c _ (by omega) (by omega) W c1,down_at 2 b c _ (by omega) (by omega) W c2,down_at 3 b c _ (by omega) (by omega) W c3,past 4 (by omega) b c W cf⟩) hS
 ·exact down_parts k0 k1 k2 k3 a0 a1 a2 a3 f a1 a2 a3 f f (m%64) (64 - m%64) 1 1 2 3 4 5 hst hs u1 u2 u3 hf (by decide) (by decide) (by decide) (by decide) (by decide) (by decide) (by decide) (by decide) w
   (fun b c W c0 c1 c2 c3 cf=>⟨down_at 1 b c _ (by omega) (by omega) W c1,down_at 2 b c _ (by omega) (by omega) W c2,down_at 3 b c _ (by omega) (by omega) W c3,past 4 (by omega) b c W cf,past 5 (by omega) b c W cf⟩) hS
 ·exact down_parts k0 k1 k2 k3 a0 a1 a2 a3 f a2 a3 f f f (m%64) (64 - m%64) 2 2 3 4 5 6 hst hs u2 u3 hf hf (by decide) (by decide) (by decide) (by decide) (by decide) (by decide) (by decide) (by decide) w
   (fun b c W c0 c1 c2 c3 cf=>⟨down_at 2 b c _ (by omega) (by omega) W c2,down_at 3 b c _ (by omega) (by omega) W c3,past 4 (by omega) b c W cf,past 5 (by omega) b c W cf,past 6 (by omega) b c W cf⟩) hS
 ·exact down_parts k0 k1 k2 k3 a0 a1 a2 a3 f a3 f f f f (m%64) (64 - m%64) 3 3 4 5 6 7 hst hs u3 hf hf hf (by decide) (by decide) (by decide) (by decide) (by decide) (by decide) (by decide) (by decide) w
   (fun b c W c0 c1 c2 c3 cf=>⟨down_at 3 b c _ (by omega) (by omega) W c3,past 4 (by omega) b c W cf,past 5 (by omega) b c W cf,past 6 (by omega) b c W cf,past 7 (by omega) b c W cf⟩) hS
 ·exact down_parts k0 k1 k2 k3 a0 a1 a2 a3 f f f f f f (m%64) (64 - m%64) 4 4 5 6 7 8 hst hs hf hf hf hf (by decide) (by decide) (by decide) (by decide) (by decide) (by decide) (by decide) (by decide) w
   (fun b c W c0 c1 c2 c3 cf=>⟨past 4 (by omega) b c W cf,past 5 (by omega) b c W cf,past 6 (by omega) b c W cf,past 7 (by omega) b c W cf,past 8 (by omega) b c W cf⟩) hS
theorem n4_sel(a0 a1 a2 a3:Nat)(u0:a0<18446744073709551616)(u1:a1<18446744073709551616)(u2:a2<18446744073709551616)(u3:a3<18446744073709551616)(i:Nat)(hi:i<=4) :
  n4 (sel a0 a1 a2 a3 0 i) (sel a0 a1 a2 a3 0 (i+1)) (sel a0 a1 a2 a3 0 (i+2)) (sel a0 a1 a2 a3 0 (i+3))=n4 a0 a1 a2 a3 / 2^(64*i):=by
 have hw:i=0\/i=1\/i=2\/i=3\/i=4:=by omega
 rcases hw with rfl | rfl | rfl | rfl | rfl <;> simp only[sel,Nat.reduceMul,Nat.reducePow,Nat.reduceAdd] <;> unfold n4 <;> omega
-- WHAT shiftDown COMES TO,noughts from above.
theorem down0_any(k x:Nat)(w:World) :
  Calls Tryz.prog 134 #[wv k,wv x,.int .u64 0] w fun e w'=>e=.returned (wv (x%2^256 / 2^min (k%2^256) 256))/\Below w.heap.size w w':=by
 have hS:=fun w=>steps_any k w;obtain⟨a0,a1,a2,a3,u0,u1,u2,u3,ea,na⟩:=wv_parts x;generalize hm:min (k%2^256) 256=m at *;have hm256:m<=256:=by omega
 clear hm;have h:=down_sel k x m 0 a0 a1 a2 a3 (by omega) u0 u1 u2 u3 hm256 ea hS w;rw[n4_down _ _ _ _ 0 (show m%64+(64 - m%64)=64 by omega),n4_sel a0 a1 a2 a3 u0 u1 u2 u3 _ (by omega),na,Nat.div_div_eq_div_mul,<- Nat.pow_add,show 64*(m / 64)+m%64=m by omega,Nat.zero_mul]at h;exact h
theorem n4_comp{c0 c1 c2 c3 d0 d1 d2 d3:Nat}(h0:c0+d0=18446744073709551615)(h1:c1+d1=18446744073709551615)(h2:c2+d2=18446744073709551615)(h3:c3+d3=18446744073709551615):n4 c0 c1 c2 c3=115792089237316195423570985008687907853269984665640564039457584007913129639935 - n4 d0 d1 d2 d3:=by unfold n4;omega
open Go.RowKit
theorem xor_ones{a:Nat}(h:a<18446744073709551616):bits .xor .u64 IntKind.u64.max (a:Int)=((18446744073709551615 - a:Nat):Int):=by
 have e:(18446744073709551615:Nat) ^^^ a=18446744073709551615 - a:=by
  apply Nat.eq_of_testBit_eq;intro i;rw[Nat.testBit_xor,show 18446744073709551615 - a=2^64 - (a+1) by omega,Nat.testBit_two_pow_sub_succ (by omega),show(18446744073709551615:Nat)=2^64 - 1 by decide,Nat.testBit_two_pow_sub_one];by_cases hi:i<64
  ·simp[hi]
  ·have:a.testBit i=false:=Nat.testBit_lt_two_pow (Nat.lt_of_lt_of_le h (by have:=Nat.pow_le_pow_right (n:=2) (by omega) (show 64<=i by omega);omega))
   simp[hi,this]
 have:=bits_xor_u64_nat 18446744073709551615 a (by omega) h;rw[e]at this;exact this
theorem not_walk(a0 a1 a2 a3:Nat)(w:World) :
  Calls Tryz.prog 104 #[.agg #[.int .u64 a0,.int .u64 a1,.int .u64 a2,.int .u64 a3]] w fun e w'=>e=.returned (.agg #[.int .u64 (bits .xor .u64 IntKind.u64.max (a0:Int)),.int .u64 (bits .xor .u64 IntKind.u64.max (a1:Int)),.int .u64 (bits .xor .u64 IntKind.u64.max (a2:Int)),.int .u64 (bits .xor .u64 IntKind.u64.max (a3:Int))])/\Below w.heap.size w w':=by
 go_enter Tryz.func104,Tryz.ntmps104;go_wp2;refine wp_loop_rounds 5 ?_
 iterate 4 (rw[rounds_succ];go_wp2)
 rw[rounds_succ];go_wp2
 go_returns
 exact⟨rfl,by go_grown⟩
-- WHAT Not COMES TO.
theorem not_any(x:Nat)(w:World) :
  Calls Tryz.prog 104 #[wv x] w fun e w'=>e=.returned (wv (115792089237316195423570985008687907853269984665640564039457584007913129639935 - x%2^256))/\Below w.heap.size w w':=by
 obtain⟨a0,a1,a2,a3,u0,u1,u2,u3,ea,na⟩:=wv_parts x;rw[ea,<- na,<- n4_comp (c0:=18446744073709551615 - a0) (c1:=18446744073709551615 - a1) (c2:=18446744073709551615 - a2) (c3:=18446744073709551615 - a3) (by omega) (by omega) (by omega) (by omega),wv_n4 (by omega) (by omega) (by omega) (by omega),<- xor_ones u0,<- xor_ones u1,<- xor_ones u2,<- xor_ones u3];exact not_walk a0 a1 a2 a3 w
theorem shr_walk(a0 a1 a2 a3 b0 b1 b2 b3 p0 p1 p2 p3:Nat)(w:World)
  (hP:∀ w,Calls Tryz.prog 134 #[.agg #[.int .u64 a0,.int .u64 a1,.int .u64 a2,.int .u64 a3],.agg #[.int .u64 b0,.int .u64 b1,.int .u64 b2,.int .u64 b3],.int .u64 0] w fun e w' =>
   e=.returned (.agg #[.int .u64 p0,.int .u64 p1,.int .u64 p2,.int .u64 p3])/\Below w.heap.size w w') :
  Calls Tryz.prog 126 #[.agg #[.int .u64 a0,.int .u64 a1,.int .u64 a2,.int .u64 a3],.agg #[.int .u64 b0,.int .u64 b1,.int .u64 b2,.int .u64 b3]] w fun e w' =>
   e=.returned (.agg #[.int .u64 p0,.int .u64 p1,.int .u64 p2,.int .u64 p3])/\Below w.heap.size w w':=by
 go_enter Tryz.func126,Tryz.ntmps126
 go_wp2_with fail
 refine(hP _).mono ?_;rintro e w1 ⟨rfl,hb⟩;obtain⟨⟨q0,q1,q2,q3⟩,⟨f0,f1,f2,f3⟩,hz,hb'⟩:=after4 (w:=w) (B:=w.heap.size) (w.heap.size+1+1) hb (by go_grown) (by simp;omega) (by simp) (by go_cell) (by go_cell) (by go_cell) (by go_cell) (by go_cell) (by go_cell) (by go_cell) (by go_cell);clear hb;go_wp2;refine bodyPost_ret (by simp[results,Tryz.results126,go_sem,q0,q1,q2,q3];try rfl) rfl ⟨rfl,?_⟩;go_grown
-- WHAT Shr COMES TO.
theorem shr_any(k x:Nat)(w:World) :
  Calls Tryz.prog 126 #[wv k,wv x] w fun e w'=>e=.returned (wv (x%2^256 / 2^min (k%2^256) 256))/\Below w.heap.size w w':=by
 have hP:=fun w=>down0_any k x w;obtain⟨k0,k1,k2,k3,-,-,-,-,ek,-⟩:=wv_parts k;obtain⟨a0,a1,a2,a3,-,-,-,-,ea,-⟩:=wv_parts x;obtain⟨p0,p1,p2,p3,-,-,-,-,ep,-⟩:=wv_parts (x%2^256 / 2^min (k%2^256) 256);rw[ek,ea,ep]at hP;rw[ek,ea,ep];exact shr_walk k0 k1 k2 k3 a0 a1 a2 a3 p0 p1 p2 p3 w hP
open Go.RowKit
theorem wv_pw(x:Nat):wv x=.agg (pw x):=rfl
theorem pw_size(x:Nat):(pw x).size=4:=rfl
theorem pw_one(x:Nat):(pw x).all (·.oneCell')=true:=by simp[pw,Value.oneCell']
theorem infoWord:(Tryz.prog.info? 24).map (·.size)=some 4:=by kernel_rfl
theorem load_pw{g x:Nat}{w:World}(hg:w.heap[g]?=some (.cells (pw x) 24 (0,0))):(Instr.loadAt 24 (.pointer (some ⟨g,0,none⟩))).run Tryz.prog w=.ok (wv x) w:=by
 simp only[Instr.loadAt,Instr.sureAddr,Sem.run_bind,Sem.run_pure,Result.andThen_ok,run_loadVar_row w g 24 24 (pw x) (0,0) _ hg Tryz.underlying24 rfl infoWord];rfl
theorem store_pw{g x:Nat}{w:World}{cs:Array Value}(hs:cs.size=4)(hg:w.heap[g]?=some (.cells cs 24 (0,0))):(Instr.storeAt 24 (.pointer (some ⟨g,0,none⟩)) (wv x)).run Tryz.prog w=.ok () (w.setRow g (pw x)):=by
 rw[wv_pw];simp only[Instr.storeAt,Instr.sureAddr,Sem.run_bind,Sem.run_pure,Result.andThen_ok,run_storeVar_row w g 24 24 cs (pw x) hg infoWord hs (pw_one x)]
theorem run_store{P:Program}{a:Act}{o:Oper}{w w':World}(t:TypeId)(p q:Operand)(u v:Value)(ho:o.op=.store t p q)(hp:a.eval p=u)(hq:a.eval q=v)(h:(Instr.storeAt t u v).run P w=.ok () w'):(execOp a.eval o).run P w=.ok .skip w':=by
 unfold execOp;rw[ho];simp only[hp,hq,Sem.run_bind,h,Result.andThen_ok,Sem.run_pure]
open Go.RowKit
theorem nan_any(x:Nat)(w:World):Calls Tryz.prog 119 #[.int .u64 x] w fun e w'=>e=.returned (.bool false)/\w=w':=by
 go_enter Tryz.func119,Tryz.ntmps119;go_wp2;go_ret;exact⟨rfl,rfl⟩
theorem compare_lt(x y:Nat)(h:(x:Int)<y)(w:World):Calls Tryz.prog 112 #[.int .u64 x,.int .u64 y] w fun e w'=>e=.returned (.int .i64 (-1))/\w=w':=by
 go_enter Tryz.func112,Tryz.ntmps112
 go_wp2_with (go_at_call 119;refine(nan_any _ _).mono ?_;rintro e w' ⟨rfl,rfl⟩)
 go_ret;exact⟨rfl,rfl⟩
theorem compare_gt(x y:Nat)(h:(y:Int)<x)(w:World):Calls Tryz.prog 112 #[.int .u64 x,.int .u64 y] w fun e w'=>e=.returned (.int .i64 1)/\w=w':=by
 have h':¬(x:Int)<y:=by omega
 go_enter Tryz.func112,Tryz.ntmps112
 go_wp2_with (go_at_call 119;refine(nan_any _ _).mono ?_;rintro e w' ⟨rfl,rfl⟩)
 go_ret;exact⟨rfl,rfl⟩
theorem cmp_3(a0 a1 a2 a3 b0 b1 b2 b3:Nat)(r:Int)(hn:((a3:Int) != b3)=true)(w:World)
  (hc:∀ w,Calls Tryz.prog 112 #[.int .u64 a3,.int .u64 b3] w fun e w'=>e=.returned (.int .i64 r)/\w=w') :
  Calls Tryz.prog 94 #[.agg #[.int .u64 a0,.int .u64 a1,.int .u64 a2,.int .u64 a3],.agg #[.int .u64 b0,.int .u64 b1,.int .u64 b2,.int .u64 b3]] w fun e w'=>e=.returned (.int .i64 r)/\Below w.heap.size w w':=by
 go_enter Tryz.func94,Tryz.ntmps94;go_wp2;refine wp_loop_rounds 5 ?_;rw[rounds_succ];go_wp2;go_region;go_wp2
 go_region_with (go_at_call 112;refine(hc _).mono ?_;rintro e w' ⟨rfl,rfl⟩)
 all_goals (go_wp2;go_ret;exact⟨rfl,by go_grown⟩)
theorem cmp_2(a0 a1 a2 a3 b0 b1 b2:Nat)(r:Int)(hn:((a2:Int) != b2)=true)(w:World)
  (hc:∀ w,Calls Tryz.prog 112 #[.int .u64 a2,.int .u64 b2] w fun e w'=>e=.returned (.int .i64 r)/\w=w') :
  Calls Tryz.prog 94 #[.agg #[.int .u64 a0,.int .u64 a1,.int .u64 a2,.int .u64 a3],.agg #[.int .u64 b0,.int .u64 b1,.int .u64 b2,.int .u64 a3]] w fun e w'=>e=.returned (.int .i64 r)/\Below w.heap.size w w':=by
 go_enter Tryz.func94,Tryz.ntmps94;go_wp2;refine wp_loop_rounds 5 ?_;rw[rounds_succ];go_wp2;go_region;go_wp2;rw[rounds_succ];go_wp2;go_region;go_wp2
 go_region_with (go_at_call 112;refine(hc _).mono ?_;rintro e w' ⟨rfl,rfl⟩)
 all_goals (go_wp2;go_ret;exact⟨rfl,by go_grown⟩)
theorem cmp_1(a0 a1 a2 a3 b0 b1:Nat)(r:Int)(hn:((a1:Int) != b1)=true)(w:World)
  (hc:∀ w,Calls Tryz.prog 112 #[.int .u64 a1,.int .u64 b1] w fun e w'=>e=.returned (.int .i64 r)/\w=w') :
  Calls Tryz.prog 94 #[.agg #[.int .u64 a0,.int .u64 a1,.int .u64 a2,.int .u64 a3],.agg #[.int .u64 b0,.int .u64 b1,.int .u64 a2,.int .u64 a3]] w fun e w'=>e=.returned (.int .i64 r)/\Below w.heap.size w w':=by
 go_enter Tryz.func94,Tryz.ntmps94;go_wp2;refine wp_loop_rounds 5 ?_;rw[rounds_succ];go_wp2;go_region;go_wp2;rw[rounds_succ];go_wp2;go_region;go_wp2;rw[rounds_succ];go_wp2;go_region;go_wp2
 go_region_with (go_at_call 112;refine(hc _).mono ?_;rintro e w' ⟨rfl,rfl⟩)
 all_goals (go_wp2;go_ret;exact⟨rfl,by go_grown⟩)
theorem cmp_0(a0 a1 a2 a3 b0:Nat)(r:Int)(hn:((a0:Int) != b0)=true)(w:World)
  (hc:∀ w,Calls Tryz.prog 112 #[.int .u64 a0,.int .u64 b0] w fun e w'=>e=.returned (.int .i64 r)/\w=w') :
  Calls Tryz.prog 94 #[.agg #[.int .u64 a0,.int .u64 a1,.int .u64 a2,.int .u64 a3],.agg #[.int .u64 b0,.int .u64 a1,.int .u64 a2,.int .u64 a3]] w fun e w'=>e=.returned (.int .i64 r)/\Below w.heap.size w w':=by
 go_enter Tryz.func94,Tryz.ntmps94;go_wp2;refine wp_loop_rounds 5 ?_;rw[rounds_succ];go_wp2;go_region;go_wp2;rw[rounds_succ];go_wp2;go_region;go_wp2;rw[rounds_succ];go_wp2;go_region;go_wp2;rw[rounds_succ];go_wp2;go_region;go_wp2
 go_region_with (go_at_call 112;refine(hc _).mono ?_;rintro e w' ⟨rfl,rfl⟩)
 all_goals (go_wp2;go_ret;exact⟨rfl,by go_grown⟩)
theorem cmp_e(a0 a1 a2 a3:Nat)(w:World) :
  Calls Tryz.prog 94 #[.agg #[.int .u64 a0,.int .u64 a1,.int .u64 a2,.int .u64 a3],.agg #[.int .u64 a0,.int .u64 a1,.int .u64 a2,.int .u64 a3]] w fun e w'=>e=.returned (.int .i64 0)/\Below w.heap.size w w':=by
 go_enter Tryz.func94,Tryz.ntmps94;go_wp2;refine wp_loop_rounds 5 ?_
 iterate 4 (rw[rounds_succ];go_wp2;go_region;go_wp2)
 rw[rounds_succ];go_wp2;go_ret;exact⟨rfl,by go_grown⟩
theorem compare_any(x y:Nat)(h:x≠y)(w:World):Calls Tryz.prog 112 #[.int .u64 x,.int .u64 y] w fun e w'=>e=.returned (.int .i64 (if x<y then -1 else 1))/\w=w':=by
 by_cases hlt:x<y
 ·rw[if_pos hlt];exact compare_lt x y (by omega) w
 ·rw[if_neg hlt];exact compare_gt x y (by omega) w
def ord(x y:Nat):Int:=if x<y then -1 else if y<x then 1 else 0
theorem neB{x y:Nat}(h:x≠y):((x:Int) != (y:Int))=true:=by rw[bne_iff_ne];omega
-- WHAT Cmp COMES TO.
theorem cmp_any(x y:Nat)(w:World) :
  Calls Tryz.prog 94 #[wv x,wv y] w fun e w'=>e=.returned (.int .i64 (ord (x%115792089237316195423570985008687907853269984665640564039457584007913129639936) (y%115792089237316195423570985008687907853269984665640564039457584007913129639936)))/\Below w.heap.size w w':=by
 obtain⟨a0,a1,a2,a3,u0,u1,u2,u3,ea,na⟩:=wv_parts x;obtain⟨b0,b1,b2,b3,v0,v1,v2,v3,eb,nb⟩:=wv_parts y;rw[ea,eb,<- na,<- nb];have key:∀ p q:Nat,p≠q->(p<q↔n4 a0 a1 a2 a3<n4 b0 b1 b2 b3)->n4 a0 a1 a2 a3≠n4 b0 b1 b2 b3->(if p<q then (-1:Int)else 1)=ord (n4 a0 a1 a2 a3) (n4 b0 b1 b2 b3):=by
  intro p q hpq hi hn;unfold ord;by_cases h:p<q
  ·rw[if_pos h,if_pos (hi.1 h)]
  ·rw[if_neg h,if_neg (fun h'=>h (hi.2 h')),if_pos (by have:¬n4 a0 a1 a2 a3<n4 b0 b1 b2 b3:=fun h'=>h (hi.2 h');omega)]
 by_cases h3:a3=b3
 ·by_cases h2:a2=b2
  ·by_cases h1:a1=b1
   ·by_cases h0:a0=b0
    ·subst h0 h1 h2 h3
     have:ord (n4 a0 a1 a2 a3) (n4 a0 a1 a2 a3)=0:=by unfold ord;simp
     rw[this];exact cmp_e a0 a1 a2 a3 w
    ·subst h1 h2 h3
     rw[<- key a0 b0 h0 (by unfold n4;omega) (by unfold n4;omega)];exact cmp_0 _ _ _ _ _ _ (neB h0) w (compare_any a0 b0 h0)
   ·subst h2 h3
    rw[<- key a1 b1 h1 (by unfold n4;omega) (by unfold n4;omega)];exact cmp_1 _ _ _ _ _ _ _ (neB h1) w (compare_any a1 b1 h1)
  ·subst h3
   rw[<- key a2 b2 h2 (by unfold n4;omega) (by unfold n4;omega)];exact cmp_2 _ _ _ _ _ _ _ _ (neB h2) w (compare_any a2 b2 h2)
 ·rw[<- key a3 b3 h3 (by unfold n4;omega) (by unfold n4;omega)]
  exact cmp_3 _ _ _ _ _ _ _ _ _ (neB h3) w (compare_any a3 b3 h3)
open Go.RowKit
theorem pw_ar(x:Nat):pw x=ar .u64 4 fun j=>((pN x j:Nat):Int):=by
 have e:ar .u64 4 (fun j=>((pN x j:Nat):Int))=#[.int .u64 ((pN x 0:Nat):Int),.int .u64 ((pN x 1:Nat):Int),.int .u64 ((pN x 2:Nat):Int),.int .u64 ((pN x 3:Nat):Int)]:=by kernel_rfl
 rw[e];unfold pw;have e0:pN x 0=x%18446744073709551616:=by unfold pN;simp
 have e1:pN x 1=x / 18446744073709551616%18446744073709551616:=by unfold pN;simp;omega
 have e2:pN x 2=x / 340282366920938463463374607431768211456%18446744073709551616:=by unfold pN;simp;omega
 have e3:pN x 3=x / 6277101735386680763835789423207666416102355444464034512896%18446744073709551616:=by unfold pN;simp;omega
 rw[e0,e1,e2,e3]
theorem val_pN(x:Nat):val (pN x) 4=x%2^256:=by
 have e0:pN x 0=x%18446744073709551616:=by unfold pN;simp
 have e1:pN x 1=x / 18446744073709551616%18446744073709551616:=by unfold pN;simp;omega
 have e2:pN x 2=x / 340282366920938463463374607431768211456%18446744073709551616:=by unfold pN;simp;omega
 have e3:pN x 3=x / 6277101735386680763835789423207666416102355444464034512896%18446744073709551616:=by unfold pN;simp;omega
 simp only[val,e0,e1,e2,e3];omega
def sqr(m:Nat):Nat:=2^256*2^256%m
def frw(m j:Nat):Nat:=if j<4 then pN m j else if j=4 then nin m else pN (sqr m) (j - 5)
structure FldAt (w:World) (F m:Nat):Prop where
 row:w.heap[F]?=some (.cells (ar .u64 9 fun j=>((frw m j:Nat):Int)) 102 (0,0))
 odd:m%2=1
 big:1<m
 lt:m<2^256
theorem FldAt.below{w w':World}{F m:Nat}(h:FldAt w F m)(hb:Below w.heap.size w w'):FldAt w' F m :=
 ⟨(hb.block _ (Array.getElem?_eq_some_iff.1 h.row).1).trans h.row,h.odd,h.big,h.lt⟩
theorem FldAt.less{w:World}{F m:Nat}(h:FldAt w F m):F<w.heap.size:=(Array.getElem?_eq_some_iff.1 h.row).1
theorem FldAt.cell{w:World}{F m:Nat}(h:FldAt w F m)(j:Nat)(hj:j<9):w.cell? ⟨F,j,none⟩=some (.int .u64 (frw m j:Nat)):=(cell_of_row _ _ j _ _ _ h.row).trans (ar_at _ _ _ _ hj)
theorem infoW4:(Tryz.prog.info? 24).map (·.size)=some 4:=by kernel_rfl
theorem ld_m{w:World}{F m:Nat}(h:FldAt w F m):(Instr.loadAt 24 (.pointer (some ⟨F,0,none⟩))).run Tryz.prog w=.ok (.agg (pw m)) w:=by
 rw[pw_ar];simp only[Instr.loadAt,Instr.sureAddr,Sem.run_bind,Sem.run_pure,Result.andThen_ok,run_loadVar_part w F 0 4 24 .u64 (fun j=>((pN m j:Nat):Int)) _ (fun j hj=>by
  rw[Nat.zero_add,h.cell j (by omega)];unfold frw;rw[if_pos hj]) Tryz.underlying24 rfl infoW4]
theorem ld_pw{g x:Nat}{w:World}(hg:w.heap[g]?=some (.cells (pw x) 24 (0,0))):(Instr.loadAt 24 (.pointer (some ⟨g,0,none⟩))).run Tryz.prog w=.ok (.agg (pw x)) w:=load_pw hg
theorem ld_sq{w:World}{F m:Nat}(h:FldAt w F m):(Instr.loadAt 24 (.pointer (some ⟨F,5,none⟩))).run Tryz.prog w=.ok (.agg (pw (sqr m))) w:=by
 rw[pw_ar];simp only[Instr.loadAt,Instr.sureAddr,Sem.run_bind,Sem.run_pure,Result.andThen_ok,run_loadVar_part w F 5 4 24 .u64 (fun j=>((pN (sqr m) j:Nat):Int)) _ (fun j hj=>by
  rw[h.cell (5+j) (by omega)];unfold frw;rw[if_neg (by omega),if_neg (by omega),show 5+j - 5=j by omega]) Tryz.underlying24 rfl infoW4]
theorem ld_inv{w:World}{F m:Nat}(h:FldAt w F m):(Instr.loadAt 22 (.pointer (some ⟨F,4,none⟩))).run Tryz.prog w=.ok (.int .u64 (nin m:Nat)) w :=
 load_u64 _ _ _ _ (h.cell 4 (by omega))
theorem fld_at(F:Nat)(w:World):(Instr.fieldAt 102 (.pointer (some ⟨F,0,none⟩)) 0).run Tryz.prog w=.ok (.pointer (some ⟨F,0,none⟩)) w:=by kernel_rfl
theorem fld_inv(F:Nat)(w:World):(Instr.fieldAt 102 (.pointer (some ⟨F,0,none⟩)) 1).run Tryz.prog w=.ok (.pointer (some ⟨F,4,none⟩)) w:=by kernel_rfl
theorem fld_sq(F:Nat)(w:World):(Instr.fieldAt 102 (.pointer (some ⟨F,0,none⟩)) 2).run Tryz.prog w=.ok (.pointer (some ⟨F,5,none⟩)) w:=by kernel_rfl
open Go.RowKit
structure C1 (w:World) (F m x:Nat) (wx:World):Prop where
 old:Below w.heap.size w wx
 fld:FldAt wx F m
 r0:wx.heap[w.heap.size]?=some (.cells (pw x) 24 (0,0))
 r1:wx.heap[w.heap.size+1]?=some (.cells #[.int .u64 0,.int .u64 0,.int .u64 0,.int .u64 0] 24 (0,0))
theorem C1.below{w wx w':World}{F m x:Nat}(c:C1 w F m x wx)(hb:Below wx.heap.size wx w'):C1 w F m x w' :=
 ⟨c.old.trans (hb.mono c.old.size),c.fld.below hb,(hb.block _ (Array.getElem?_eq_some_iff.1 c.r0).1).trans c.r0,(hb.block _ (Array.getElem?_eq_some_iff.1 c.r1).1).trans c.r1⟩
theorem C1.start{w:World}{F m x:Nat}(h:FldAt w F m):C1 w F m x ((w.alloc (.cells (pw x) 24)).alloc (.cells #[.int .u64 0,.int .u64 0,.int .u64 0,.int .u64 0] 24)) :=
 ⟨by go_grown,(h.below ((Below.refl _ _).alloc (Nat.le_refl _) _)).below ((Below.refl _ _).alloc (Nat.le_refl _) _),heap_alloc2_old _ _ _,heap_alloc2_new _ _ _⟩
theorem C1.drew{w wx:World}{F m x:Nat}(c:C1 w F m x wx):C1 w F m x wx.drew:=c.below (Below.drew (Below.refl _ _))
theorem C1.done{w wx:World}{F m x y:Nat}(c:C1 w F m x wx):Below w.heap.size w (wx.setRow (w.heap.size+1) (pw y)):=below_setRow c.old (by omega) _
theorem geq_ord(a b:Nat)(w:World):(binOp BinOp.geq 3 (.int .i64 (ord a b)) (.int .i64 0)).run Tryz.prog w=.ok (.bool (decide (b<=a))) w:=by
 unfold ord;by_cases h1:a<b
 ·rw[if_pos h1,decide_eq_false (by omega)];kernel_rfl
 ·rw[if_neg h1,decide_eq_true (show b<=a by omega)]
  by_cases h2:b<a
  ·rw[if_pos h2];kernel_rfl
  ·rw[if_neg h2];kernel_rfl
theorem lss_ord(a b:Nat)(w:World):(binOp BinOp.lss 3 (.int .i64 (ord a b)) (.int .i64 0)).run Tryz.prog w=.ok (.bool (decide (a<b))) w:=by
 unfold ord;by_cases h1:a<b
 ·rw[if_pos h1,decide_eq_true h1];kernel_rfl
 ·rw[if_neg h1,decide_eq_false h1]
  by_cases h2:b<a
  ·rw[if_pos h2];kernel_rfl
  ·rw[if_neg h2];kernel_rfl
theorem mod_self_lt{m:Nat}(h:m<2^256):m%2^256=m:=Nat.mod_eq_of_lt h
def lessV(m x:Nat)(be:Bool):Nat:=if be=true\/m<=x%2^256 then x+(2^256 - m)else x
-- WHAT lessOnce COMES TO.
theorem lessOnce_any(F m x:Nat)(be:Bool)(w:World)(hF:FldAt w F m):Calls Tryz.prog 93 #[.pointer (some ⟨F,0,none⟩),.agg (pw x),.bool be] w fun e w'=>e=.returned (.agg (pw (lessV m x be)))/\Below w.heap.size w w':=by
 have H0:=Lib.hid (C1.start (x:=x) hF);have HS:=Lib.hid (show ∀ wx,C1 w F m x wx->Calls Tryz.prog 91 #[.agg (pw x),.agg (pw m)] wx (fun e w'=>e=.returned (.agg (pw (x+(2^256 - m))))/\C1 w F m x w') from fun wx c=>(sub_any x m wx).mono fun e w' hh=>⟨by rw[hh.1,mod_self_lt hF.lt];rfl,c.below hh.2⟩);have HCM:=Lib.hid (show ∀ wx,C1 w F m x wx->Calls Tryz.prog 94 #[.agg (pw x),.agg (pw m)] wx (fun e w'=>e=.returned (.int .i64 (ord (x%2^256) m))/\C1 w F m x w') from fun wx c=>(cmp_any x m wx).mono fun e w' hh=>⟨by rw[hh.1,mod_self_lt hF.lt],c.below hh.2⟩);clear hF;unfold lessV;obtain⟨X,hX⟩:∃ X,x%2^256=X:=⟨_,rfl⟩
 rw[hX]at HCM |-
 clear hX;cases be with
 | true =>
  rw[if_pos (.inl rfl)];obtain⟨y,hy⟩:∃ y,x+(2^256 - m)=y:=⟨_,rfl⟩
  rw[hy]at HS |-
  clear hy;go_enter Tryz.func93,Tryz.ntmps93
  go_wp2_with fail
  refine wp_region_quiet (C:=C1 w F m x) (by kernel_rfl) (by kernel_rfl) (H0.out.drew) ?_;simp only
  with_reducible refine q_val (.bool true) (by kernel_rfl) (fun _ _=>by kernel_rfl) ?_
  with_reducible refine q_val (.bool true) (by kernel_rfl) (fun _ _=>by kernel_rfl) ?_
  with_reducible refine q_skip (by kernel_rfl) ?_
  with_reducible refine q_skip (by kernel_rfl) ?_
  with_reducible refine q_skip (by kernel_rfl) ?_
  with_reducible refine q_skip (by kernel_rfl) ?_
  with_reducible refine q_skip (by kernel_rfl) ?_
  with_reducible refine q_skip (by kernel_rfl) ?_
  with_reducible refine q_skip (by kernel_rfl) ?_
  with_reducible refine q_val (.bool true) (by kernel_rfl) (fun _ _=>by kernel_rfl) ?_
  with_reducible refine wpQuiet_nil ?_
  intro wx hC;have HC:=Lib.hid hC;clear hC;simp only[Act.put,List.setIfInBounds_toArray,List.set_cons_succ,List.set_cons_zero]
  go_wp2_with fail
  refine region_quiet_tail 6 (C1 w F m x) (by kernel_rfl) (by kernel_rfl) (HC.out.drew) ?_;simp only[List.take_succ_cons,List.take_zero,List.drop_succ_cons,List.drop_zero]
  with_reducible refine q_load 24 (.tmp 4) (.pointer (some ⟨w.heap.size,0,none⟩)) (.agg (pw x)) rfl (by kernel_rfl) (by kernel_rfl) (fun _ c=>ld_pw c.r0) ?_
  with_reducible refine q_val (.pointer (some ⟨F,0,none⟩)) (by kernel_rfl) (fun _ _=>by kernel_rfl) ?_
  with_reducible refine q_val (.pointer (some ⟨F,0,none⟩)) (by kernel_rfl) (fun _ _=>run_nil (.tmp 18) _ rfl (by kernel_rfl)) ?_
  with_reducible refine q_sem2 (Instr.fieldAt 102 (.pointer (some ⟨F,0,none⟩)) 0) (.pointer (some ⟨F,0,none⟩)) (by kernel_rfl) (by kernel_rfl) (fun w' _=>fld_at F w') ?_
  with_reducible refine q_load 24 (.tmp 20) (.pointer (some ⟨F,0,none⟩)) (.agg (pw m)) rfl (by kernel_rfl) (by kernel_rfl) (fun _ c=>ld_m c.fld) ?_
  with_reducible refine q_call 91 #[.agg (pw x),.agg (pw m)] (.agg (pw y)) (by kernel_rfl) (fun _=>by kernel_rfl) (HS.out) ?_
  with_reducible refine wpQuiet_nil ?_
  intro wx hC;have HC2:=Lib.hid hC;clear hC;simp only[Act.put,List.setIfInBounds_toArray,List.set_cons_succ,List.set_cons_zero]
  go_wp2_with (refine wpList_store_row rfl 24 _ _ rfl (w.heap.size+1) (pw y) rfl rfl 24 #[.int .u64 0,.int .u64 0,.int .u64 0,.int .u64 0] (by exact HC2.out.r1) (by rw[pw_size];exact infoW4) (by rw[pw_size];rfl) (pw_one _) ?_)
  (try simp only[Act.put])
  exact bodyPost_ret (v:=.agg (pw y)) (results_cell_row (p:=6) rfl _ _ (w.heap.size+1) 24 (pw y) (0,0) _ rfl (setRow_heap _ _ _ _ _ _ HC2.out.r1) Tryz.underlying24 rfl (by rw[pw_size];exact infoW4)) rfl ⟨rfl,HC2.out.done⟩
 | false =>
  by_cases hle:m<=X
  ·rw[if_pos (.inr hle)]
   obtain⟨y,hy⟩:∃ y,x+(2^256 - m)=y:=⟨_,rfl⟩
   rw[hy]at HS |-
   clear hy;go_enter Tryz.func93,Tryz.ntmps93
   go_wp2_with fail
   refine wp_region_quiet (C:=C1 w F m x) (by kernel_rfl) (by kernel_rfl) (H0.out.drew) ?_;simp only
   with_reducible refine q_val (.bool false) (by kernel_rfl) (fun _ _=>by kernel_rfl) ?_
   with_reducible refine q_val (.bool false) (by kernel_rfl) (fun _ _=>by kernel_rfl) ?_
   with_reducible refine q_load 24 (.tmp 4) (.pointer (some ⟨w.heap.size,0,none⟩)) (.agg (pw x)) rfl (by kernel_rfl) (by kernel_rfl) (fun _ c=>ld_pw c.r0) ?_
   with_reducible refine q_val (.pointer (some ⟨F,0,none⟩)) (by kernel_rfl) (fun _ _=>by kernel_rfl) ?_
   with_reducible refine q_val (.pointer (some ⟨F,0,none⟩)) (by kernel_rfl) (fun _ _=>run_nil (.tmp 10) _ rfl (by kernel_rfl)) ?_
   with_reducible refine q_sem2 (Instr.fieldAt 102 (.pointer (some ⟨F,0,none⟩)) 0) (.pointer (some ⟨F,0,none⟩)) (by kernel_rfl) (by kernel_rfl) (fun w' _=>fld_at F w') ?_
   with_reducible refine q_load 24 (.tmp 12) (.pointer (some ⟨F,0,none⟩)) (.agg (pw m)) rfl (by kernel_rfl) (by kernel_rfl) (fun _ c=>ld_m c.fld) ?_
   with_reducible refine q_call 94 #[.agg (pw x),.agg (pw m)] (.int .i64 (ord X m)) (by kernel_rfl) (fun _=>by kernel_rfl) (HCM.out) ?_
   with_reducible refine q_bin .geq 3 _ _ 3 (.int .i64 (ord X m)) (.int .i64 0) (.bool true) rfl (by kernel_rfl) (by kernel_rfl) (by kernel_rfl) (fun _=>by kernel_rfl) (fun w'=>(geq_ord X m w').trans (by rw[decide_eq_true hle])) ?_
   with_reducible refine q_val (.bool true) (by kernel_rfl) (fun _ _=>by kernel_rfl) ?_
   with_reducible refine wpQuiet_nil ?_
   intro wx hC;have HC:=Lib.hid hC;clear hC;simp only[Act.put,List.setIfInBounds_toArray,List.set_cons_succ,List.set_cons_zero]
   go_wp2_with fail
   refine region_quiet_tail 6 (C1 w F m x) (by kernel_rfl) (by kernel_rfl) (HC.out.drew) ?_;simp only[List.take_succ_cons,List.take_zero,List.drop_succ_cons,List.drop_zero]
   with_reducible refine q_load 24 (.tmp 4) (.pointer (some ⟨w.heap.size,0,none⟩)) (.agg (pw x)) rfl (by kernel_rfl) (by kernel_rfl) (fun _ c=>ld_pw c.r0) ?_
   with_reducible refine q_val (.pointer (some ⟨F,0,none⟩)) (by kernel_rfl) (fun _ _=>by kernel_rfl) ?_
   with_reducible refine q_val (.pointer (some ⟨F,0,none⟩)) (by kernel_rfl) (fun _ _=>run_nil (.tmp 18) _ rfl (by kernel_rfl)) ?_
   with_reducible refine q_sem2 (Instr.fieldAt 102 (.pointer (some ⟨F,0,none⟩)) 0) (.pointer (some ⟨F,0,none⟩)) (by kernel_rfl) (by kernel_rfl) (fun w' _=>fld_at F w') ?_
   with_reducible refine q_load 24 (.tmp 20) (.pointer (some ⟨F,0,none⟩)) (.agg (pw m)) rfl (by kernel_rfl) (by kernel_rfl) (fun _ c=>ld_m c.fld) ?_
   with_reducible refine q_call 91 #[.agg (pw x),.agg (pw m)] (.agg (pw y)) (by kernel_rfl) (fun _=>by kernel_rfl) (HS.out) ?_
   with_reducible refine wpQuiet_nil ?_
   intro wx hC;have HC2:=Lib.hid hC;clear hC;simp only[Act.put,List.setIfInBounds_toArray,List.set_cons_succ,List.set_cons_zero]
   go_wp2_with (refine wpList_store_row rfl 24 _ _ rfl (w.heap.size+1) (pw y) rfl rfl 24 #[.int .u64 0,.int .u64 0,.int .u64 0,.int .u64 0] (by exact HC2.out.r1) (by rw[pw_size];exact infoW4) (by rw[pw_size];rfl) (pw_one _) ?_)
   (try simp only[Act.put])
   exact bodyPost_ret (v:=.agg (pw y)) (results_cell_row (p:=6) rfl _ _ (w.heap.size+1) 24 (pw y) (0,0) _ rfl (setRow_heap _ _ _ _ _ _ HC2.out.r1) Tryz.underlying24 rfl (by rw[pw_size];exact infoW4)) rfl ⟨rfl,HC2.out.done⟩
  ·rw[if_neg (by simp[hle])]
   go_enter Tryz.func93,Tryz.ntmps93
   go_wp2_with fail
   refine wp_region_quiet (C:=C1 w F m x) (by kernel_rfl) (by kernel_rfl) (H0.out.drew) ?_;simp only
   with_reducible refine q_val (.bool false) (by kernel_rfl) (fun _ _=>by kernel_rfl) ?_
   with_reducible refine q_val (.bool false) (by kernel_rfl) (fun _ _=>by kernel_rfl) ?_
   with_reducible refine q_load 24 (.tmp 4) (.pointer (some ⟨w.heap.size,0,none⟩)) (.agg (pw x)) rfl (by kernel_rfl) (by kernel_rfl) (fun _ c=>ld_pw c.r0) ?_
   with_reducible refine q_val (.pointer (some ⟨F,0,none⟩)) (by kernel_rfl) (fun _ _=>by kernel_rfl) ?_
   with_reducible refine q_val (.pointer (some ⟨F,0,none⟩)) (by kernel_rfl) (fun _ _=>run_nil (.tmp 10) _ rfl (by kernel_rfl)) ?_
   with_reducible refine q_sem2 (Instr.fieldAt 102 (.pointer (some ⟨F,0,none⟩)) 0) (.pointer (some ⟨F,0,none⟩)) (by kernel_rfl) (by kernel_rfl) (fun w' _=>fld_at F w') ?_
   with_reducible refine q_load 24 (.tmp 12) (.pointer (some ⟨F,0,none⟩)) (.agg (pw m)) rfl (by kernel_rfl) (by kernel_rfl) (fun _ c=>ld_m c.fld) ?_
   with_reducible refine q_call 94 #[.agg (pw x),.agg (pw m)] (.int .i64 (ord X m)) (by kernel_rfl) (fun _=>by kernel_rfl) (HCM.out) ?_
   with_reducible refine q_bin .geq 3 _ _ 3 (.int .i64 (ord X m)) (.int .i64 0) (.bool false) rfl (by kernel_rfl) (by kernel_rfl) (by kernel_rfl) (fun _=>by kernel_rfl) (fun w'=>(geq_ord X m w').trans (by rw[decide_eq_false hle])) ?_
   with_reducible refine q_val (.bool false) (by kernel_rfl) (fun _ _=>by kernel_rfl) ?_
   with_reducible refine wpQuiet_nil ?_
   intro wx hC;have HC:=Lib.hid hC;clear hC;simp only[Act.put,List.setIfInBounds_toArray,List.set_cons_succ,List.set_cons_zero]
   go_wp2_with (first | (refine wpList_load_row rfl 24 _ rfl w.heap.size rfl 24 (pw x) (0,0) _ (by exact HC.out.r0) Tryz.underlying24 rfl (by rw[pw_size];exact infoW4) ?_) | (refine wpList_store_row rfl 24 _ _ rfl (w.heap.size+1) (pw x) rfl rfl 24 #[.int .u64 0,.int .u64 0,.int .u64 0,.int .u64 0] (by exact HC.out.r1) (by rw[pw_size];exact infoW4) (by rw[pw_size];rfl) (pw_one _) ?_))
   (try simp only[Act.put])
   exact bodyPost_ret (v:=.agg (pw x)) (results_cell_row (p:=6) rfl _ _ (w.heap.size+1) 24 (pw x) (0,0) _ rfl (setRow_heap _ _ _ _ _ _ HC.out.r1) Tryz.underlying24 rfl (by rw[pw_size];exact infoW4)) rfl ⟨rfl,HC.out.done⟩
end Go.Proofs.YthnckclbeecnmaaGreat
