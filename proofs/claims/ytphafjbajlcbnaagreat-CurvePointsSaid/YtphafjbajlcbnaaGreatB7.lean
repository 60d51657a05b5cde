/- What (*Field).lessOnce comes to. (Cut to what is reached, written closely: Downs · Not · Refs · Cmp · FFld · FLess.) -/
import Derived.Test.YtphafjbajlcbnaaGreatB6
import Derived.Laws.Bits64
import Derived.Test.YtphafjbajlcbnaaGreatB1
import Derived.Test.YtphafjbajlcbnaaGreatB5
import Derived.Deep.RegionWith
import Derived.Deep.QuietTactic
import Derived.BigQuiet
import Derived.Test.YtphafjbajlcbnaaGreatB4
import Derived.Test.YtphafjbajlcbnaaGreatB2
set_option linter.all false
set_option maxRecDepth 100000
set_option maxHeartbeats 8000000
namespace Go.Proofs.YtphafjbajlcbnaaGreat
open Go.RowKit
theorem IY{p q s t:Nat}(hp:p<18446744073709551616)(h:s+t=64):p / 2^s+q*2^t%18446744073709551616<18446744073709551616:=by
 have hD:=CQ h;have hS:0<2^s:=Nat.two_pow_pos s;have hps:p / 2^s<2^t:=by rw[Nat.div_lt_iff_lt_mul hS,Nat.mul_comm,hD];exact hp
 have e:q*2^t%18446744073709551616=2^t*(q%2^s):=by
  rw[<- hD,Nat.mul_comm (2^s),Nat.mul_comm q,Nat.mul_mod_mul_left]
 have hr:=Nat.mod_lt q hS;have:2^t*(q%2^s)+2^t<=2^s*2^t:=by
  rw[<- Nat.mul_succ,Nat.mul_comm (2^s)];exact Nat.mul_le_mul_left _ hr
 omega
theorem Dw(k0 k1 k2 k3 a0 a1 a2 a3 f p0 p1 p2 p3 p4 s t:Nat)(wh j0 j1 j2 j3 j4:Int)(hst:s+t=64)(hs:s<64)
  (u0:p0<18446744073709551616) (u1:p1<18446744073709551616) (u2:p2<18446744073709551616) (u3:p3<18446744073709551616)
  (e0:IntKind.i64.wrap wh=j0) (e1:IntKind.i64.wrap (1+wh)=j1) (e2:IntKind.i64.wrap (2+wh)=j2) (e3:IntKind.i64.wrap (3+wh)=j3)
  (g0:IntKind.i64.wrap (j0+1)=j1) (g1:IntKind.i64.wrap (j1+1)=j2) (g2:IntKind.i64.wrap (j2+1)=j3) (g3:IntKind.i64.wrap (j3+1)=j4) (w:World)
  (hC:∀(b c:Nat) (W:World),W.cell? ⟨b,0,none⟩=some (.int .u64 a0)->W.cell? ⟨b,1,none⟩=some (.int .u64 a1)->W.cell? ⟨b,2,none⟩=some (.int .u64 a2)->W.cell? ⟨b,3,none⟩=some (.int .u64 a3)->W.cell? ⟨c,0,none⟩=some (.int .u64 f) ->
   (Calls Tryz.prog 102 #[.int .i64 j0,.pointer (some ⟨b,0,none⟩),.pointer (some ⟨c,0,none⟩)] W fun e w'=>e=.returned (.int .u64 p0)/\w'=W) /\
   (Calls Tryz.prog 102 #[.int .i64 j1,.pointer (some ⟨b,0,none⟩),.pointer (some ⟨c,0,none⟩)] W fun e w'=>e=.returned (.int .u64 p1)/\w'=W) /\
   (Calls Tryz.prog 102 #[.int .i64 j2,.pointer (some ⟨b,0,none⟩),.pointer (some ⟨c,0,none⟩)] W fun e w'=>e=.returned (.int .u64 p2)/\w'=W) /\
   (Calls Tryz.prog 102 #[.int .i64 j3,.pointer (some ⟨b,0,none⟩),.pointer (some ⟨c,0,none⟩)] W fun e w'=>e=.returned (.int .u64 p3)/\w'=W) /\
   (Calls Tryz.prog 102 #[.int .i64 j4,.pointer (some ⟨b,0,none⟩),.pointer (some ⟨c,0,none⟩)] W fun e w'=>e=.returned (.int .u64 p4)/\w'=W))
  (hS:∀ w,Calls Tryz.prog 101 #[.agg #[.int .u64 k0,.int .u64 k1,.int .u64 k2,.int .u64 k3]] w fun e w'=>e=.returned (.tuple #[.int .i64 wh,.int .i64 s])/\Below w.heap.size w w') :
  Calls Tryz.prog 84 #[.agg #[.int .u64 k0,.int .u64 k1,.int .u64 k2,.int .u64 k3],.agg #[.int .u64 a0,.int .u64 a1,.int .u64 a2,.int .u64 a3],.int .u64 f] w fun e w' =>
   e=.returned (wv (n4 (p0 / 2^s+p1*2^t%18446744073709551616) (p1 / 2^s+p2*2^t%18446744073709551616) (p2 / 2^s+p3*2^t%18446744073709551616) (p3 / 2^s+p4*2^t%18446744073709551616)))/\Below w.heap.size w w':=by
 have ht:IntKind.i64.wrap (64 - (s:Int))=(t:Int):=by rw[IntKind.wrap_i64];omega
 have h:=Sd k0 k1 k2 k3 a0 a1 a2 a3 f p0 p1 p2 p3 p4 s t wh j0 j1 j2 j3 j4 τ τ ht τ e0 e1 e2 e3 g0 g1 g2 g3 w hC hS;rw[Eb (p:=p0) (q:=p1) u0 hst,Eb (p:=p1) (q:=p2) u1 hst,Eb (p:=p2) (q:=p3) u2 hst,Eb (p:=p3) (q:=p4) u3 hst,
  <- Gm (IY u0 hst) (IY u1 hst) (IY u2 hst) (IY u3 hst)]at h
 exact h
def sel(a0 a1 a2 a3 f:Nat)(i:Nat):Nat:=match i with | 0=>a0 | 1=>a1 | 2=>a2 | 3=>a3 | _=>f
theorem Uw(k x m f:Nat)(a0 a1 a2 a3:Nat)(hf:f<18446744073709551616)(u0:a0<18446744073709551616)(u1:a1<18446744073709551616)(u2:a2<18446744073709551616)(u3:a3<18446744073709551616)(hm:m<=256)
  (ea:wv x=.agg #[.int .u64 a0,.int .u64 a1,.int .u64 a2,.int .u64 a3])
  (hS:∀ w,Calls Tryz.prog 101 #[wv k] w fun e w'=>e=.returned (.tuple #[.int .i64 ((m / 64:Nat):Int),.int .i64 ((m%64:Nat):Int)])/\Below w.heap.size w w') (w:World) :
  Calls Tryz.prog 84 #[wv k,wv x,.int .u64 f] w fun e w' =>
   e=.returned (wv (n4 (sel a0 a1 a2 a3 f (m / 64) / 2^(m%64)+sel a0 a1 a2 a3 f (m / 64+1)*2^(64 - m%64)%18446744073709551616) (sel a0 a1 a2 a3 f (m / 64+1) / 2^(m%64)+sel a0 a1 a2 a3 f (m / 64+2)*2^(64 - m%64)%18446744073709551616)
    (sel a0 a1 a2 a3 f (m / 64+2) / 2^(m%64)+sel a0 a1 a2 a3 f (m / 64+3)*2^(64 - m%64)%18446744073709551616) (sel a0 a1 a2 a3 f (m / 64+3) / 2^(m%64)+f*2^(64 - m%64)%18446744073709551616)))/\Below w.heap.size w w':=by
 obtain⟨k0,k1,k2,k3,-,-,-,-,ek,-⟩:=Ai k;rw[ek]at hS;rw[ek,ea];have hst:m%64+(64 - m%64)=64:=by omega
 have hs:m%64<64:=by omega
 have hw:m / 64=0\/m / 64=1\/m / 64=2\/m / 64=3\/m / 64=4:=by omega
 have past:=fun(i:Int) (hi:4<=i) (b c:Nat) (W:World) (h:W.cell? ⟨c,0,none⟩=some (.int .u64 f))=>Sc i b c _ hi W h;rcases hw with h | h | h | h | h
 all_goals rw[h]at hS |-
 ·exact Dw k0 k1 k2 k3 a0 a1 a2 a3 f a0 a1 a2 a3 f (m%64) (64 - m%64) 0 0 1 2 3 4 hst hs u0 u1 u2 u3 (by decide) (by decide) (by decide) (by decide) (by decide) (by decide) (by decide) (by decide) w
   (fun b c W c0 c1 c2 c3 cf=>⟨Da 0 b c _ τ τ W c0,Da 1 b c _ τ τ W c1,Da 2 b c _ τ τ W c2,Da 3 b c _ τ τ W c3,past 4 τ b c W cf⟩) hS
 ·exact Dw k0 k1 k2 k3 a0 a1 a2 a3 f a1 a2 a3 f f (m%64) (64 - m%64) 1 1 2 3 4 5 hst hs u1 u2 u3 hf (by decide) (by decide) (by decide) (by decide) (by decide) (by decide) (by decide) (by decide) w
   (fun b c W c0 c1 c2 c3 cf=>⟨Da 1 b c _ τ τ W c1,Da 2 b c _ τ τ W c2,Da 3 b c _ τ τ W c3,past 4 τ b c W cf,past 5 τ b c W cf⟩) hS
 ·exact Dw k0 k1 k2 k3 a0 a1 a2 a3 f a2 a3 f f f (m%64) (64 - m%64) 2 2 3 4 5 6 hst hs u2 u3 hf hf (by decide) (by decide) (by decide) (by decide) (by decide) (by decide) (by decide) (by decide) w
   (fun b c W c0 c1 c2 c3 cf=>⟨Da 2 b c _ τ τ W c2,Da 3 b c _ τ τ W c3,past 4 τ b c W cf,past 5 τ b c W cf,past 6 τ b c W cf⟩) hS
 ·exact Dw k0 k1 k2 k3 a0 a1 a2 a3 f a3 f f f f (m%64) (64 - m%64) 3 3 4 5 6 7 hst hs u3 hf hf hf (by decide) (by decide) (by decide) (by decide) (by decide) (by decide) (by decide) (by decide) w
   (fun b c W c0 c1 c2 c3 cf=>⟨Da 3 b c _ τ τ W c3,past 4 τ b c W cf,past 5 τ b c W cf,past 6 τ b c W cf,past 7 τ b c W cf⟩) hS
 ·exact Dw k0 k1 k2 k3 a0 a1 a2 a3 f f f f f f (m%64) (64 - m%64) 4 4 5 6 7 8 hst hs hf hf hf hf (by decide) (by decide) (by decide) (by decide) (by decide) (by decide) (by decide) (by decide) w
   (fun b c W c0 c1 c2 c3 cf=>⟨past 4 τ b c W cf,past 5 τ b c W cf,past 6 τ b c W cf,past 7 τ b c W cf,past 8 τ b c W cf⟩) hS
theorem A1a(a0 a1 a2 a3:Nat)(u0:a0<18446744073709551616)(u1:a1<18446744073709551616)(u2:a2<18446744073709551616)(u3:a3<18446744073709551616)(i:Nat)(hi:i<=4) :
  n4 (sel a0 a1 a2 a3 0 i) (sel a0 a1 a2 a3 0 (i+1)) (sel a0 a1 a2 a3 0 (i+2)) (sel a0 a1 a2 a3 0 (i+3))=n4 a0 a1 a2 a3 / 2^(64*i):=by
 have hw:i=0\/i=1\/i=2\/i=3\/i=4:=by omega
 rcases hw with rfl | rfl | rfl | rfl | rfl <;> simp only[sel,Nat.reduceMul,Nat.reducePow,Nat.reduceAdd] <;> unfold n4 <;> omega
-- WHAT shiftDown COMES TO,noughts from above.
theorem Sg(k x:Nat)(w:World) :
  Calls Tryz.prog 84 #[wv k,wv x,.int .u64 0] w fun e w'=>e=.returned (wv (x%2^256 / 2^min (k%2^256) 256))/\Below w.heap.size w w':=by
 have hS:=fun w=>Kz k w;obtain⟨a0,a1,a2,a3,u0,u1,u2,u3,ea,na⟩:=Ai x;generalize hm:min (k%2^256) 256=m at *;have hm256:m<=256:=by omega
 clear hm;have h:=Uw k x m 0 a0 a1 a2 a3 τ u0 u1 u2 u3 hm256 ea hS w;rw[XY _ _ _ _ 0 (show m%64+(64 - m%64)=64 by omega),A1a a0 a1 a2 a3 u0 u1 u2 u3 _ τ,na,Nat.div_div_eq_div_mul,<- Nat.pow_add,show 64*(m / 64)+m%64=m by omega,Nat.zero_mul]at h;exact h
theorem Y4{c0 c1 c2 c3 d0 d1 d2 d3:Nat}(h0:c0+d0=18446744073709551615)(h1:c1+d1=18446744073709551615)(h2:c2+d2=18446744073709551615)(h3:c3+d3=18446744073709551615):n4 c0 c1 c2 c3=115792089237316195423570985008687907853269984665640564039457584007913129639935 - n4 d0 d1 d2 d3:=by unfold n4;omega
open Go.RowKit
theorem EQ{a:Nat}(h:a<18446744073709551616):bits .xor .u64 IntKind.u64.max (a:Int)=((18446744073709551615 - a:Nat):Int):=by
 have e:(18446744073709551615:Nat) ^^^ a=18446744073709551615 - a:=by
  apply Nat.eq_of_testBit_eq;intro i;rw[Nat.testBit_xor,show 18446744073709551615 - a=2^64 - (a+1) by omega,Nat.testBit_two_pow_sub_succ τ,show(18446744073709551615:Nat)=2^64 - 1 by decide,Nat.testBit_two_pow_sub_one];by_cases hi:i<64
  ·simp[hi]
  ·have:a.testBit i=false:=Nat.testBit_lt_two_pow (Nat.lt_of_lt_of_le h (by have:=Nat.pow_le_pow_right (n:=2) τ (show 64<=i by omega);omega))
   simp[hi,this]
 have:=bits_xor_u64_nat 18446744073709551615 a τ h;rw[e]at this;exact this
theorem Ux(a0 a1 a2 a3:Nat)(w:World) :
  Calls Tryz.prog 94 #[.agg #[.int .u64 a0,.int .u64 a1,.int .u64 a2,.int .u64 a3]] w fun e w'=>e=.returned (.agg #[.int .u64 (bits .xor .u64 IntKind.u64.max (a0:Int)),.int .u64 (bits .xor .u64 IntKind.u64.max (a1:Int)),.int .u64 (bits .xor .u64 IntKind.u64.max (a2:Int)),.int .u64 (bits .xor .u64 IntKind.u64.max (a3:Int))])/\Below w.heap.size w w':=by
 go_enter Tryz.func94,Tryz.ntmps94;go_wp2;refine wp_loop_rounds 5 ?_
 iterate 4 (rw[rounds_succ];go_wp2)
 rw[rounds_succ];go_wp2
 go_returns
 exact⟨rfl,by go_grown⟩
-- WHAT Not COMES TO.
theorem Y5(x:Nat)(w:World) :
  Calls Tryz.prog 94 #[wv x] w fun e w'=>e=.returned (wv (115792089237316195423570985008687907853269984665640564039457584007913129639935 - x%2^256))/\Below w.heap.size w w':=by
 obtain⟨a0,a1,a2,a3,u0,u1,u2,u3,ea,na⟩:=Ai x;rw[ea,<- na,<- Y4 (c0:=18446744073709551615 - a0) (c1:=18446744073709551615 - a1) (c2:=18446744073709551615 - a2) (c3:=18446744073709551615 - a3) τ τ τ τ,Gm τ τ τ τ,<- EQ u0,<- EQ u1,<- EQ u2,<- EQ u3];exact Ux a0 a1 a2 a3 w
theorem Uy(a0 a1 a2 a3 b0 b1 b2 b3 p0 p1 p2 p3:Nat)(w:World)
  (hP:∀ w,Calls Tryz.prog 84 #[.agg #[.int .u64 a0,.int .u64 a1,.int .u64 a2,.int .u64 a3],.agg #[.int .u64 b0,.int .u64 b1,.int .u64 b2,.int .u64 b3],.int .u64 0] w fun e w' =>
   e=.returned (.agg #[.int .u64 p0,.int .u64 p1,.int .u64 p2,.int .u64 p3])/\Below w.heap.size w w') :
  Calls Tryz.prog 69 #[.agg #[.int .u64 a0,.int .u64 a1,.int .u64 a2,.int .u64 a3],.agg #[.int .u64 b0,.int .u64 b1,.int .u64 b2,.int .u64 b3]] w fun e w' =>
   e=.returned (.agg #[.int .u64 p0,.int .u64 p1,.int .u64 p2,.int .u64 p3])/\Below w.heap.size w w':=by
 go_enter Tryz.func69,Tryz.ntmps69
 go_wp2_with fail
 refine(hP _).mono ?_;rintro e w1 ⟨rfl,hb⟩;obtain⟨⟨q0,q1,q2,q3⟩,⟨f0,f1,f2,f3⟩,hz,hb'⟩:=Jm (w:=w) (B:=w.heap.size) (w.heap.size+1+1) hb (by go_grown) (by simp;omega) υ χ χ χ χ χ χ χ χ;clear hb;go_wp2;refine bodyPost_ret (by simp[results,Tryz.results69,go_sem,q0,q1,q2,q3];try rfl) rfl ⟨rfl,?_⟩;go_grown
-- WHAT Shr COMES TO.
theorem Ql(k x:Nat)(w:World) :
  Calls Tryz.prog 69 #[wv k,wv x] w fun e w'=>e=.returned (wv (x%2^256 / 2^min (k%2^256) 256))/\Below w.heap.size w w':=by
 have hP:=fun w=>Sg k x w;obtain⟨k0,k1,k2,k3,-,-,-,-,ek,-⟩:=Ai k;obtain⟨a0,a1,a2,a3,-,-,-,-,ea,-⟩:=Ai x;obtain⟨p0,p1,p2,p3,-,-,-,-,ep,-⟩:=Ai (x%2^256 / 2^min (k%2^256) 256);rw[ek,ea,ep]at hP;rw[ek,ea,ep];exact Uy k0 k1 k2 k3 a0 a1 a2 a3 p0 p1 p2 p3 w hP
open Go.RowKit
theorem BR(x:Nat):wv x=.agg (pw x):=rfl
theorem A7(x:Nat):(pw x).size=4:=rfl
theorem Ag(x:Nat):(pw x).all (·.oneCell')=true:=by simp[pw,Value.oneCell']
theorem Aq:(Tryz.prog.info? 24).map (·.size)=some 4:=by kernel_rfl
def Rb(S:Nat)(w w':World):Prop:=w.heap.size<=w'.heap.size/\∀ k,k<w.heap.size->k≠S->w'.heap[k]?=w.heap[k]?
theorem Rb.refl(S:Nat)(w:World):Rb S w w:=⟨Nat.le_refl _,fun _ _ _=>rfl⟩
theorem Rb.of{S:Nat}{w w':World}(h:Below w.heap.size w w'):Rb S w w':=⟨h.size,fun _ hk _=>h.block _ hk⟩
theorem Rb.row{S g:Nat}{w:World}(cs:Array Value)(hg:g=S):Rb S w (w.setRow g cs):=by
 subst hg;exact⟨υ,fun k _ hk=>setRow_other _ _ _ _ hk⟩
def DgS(S n V:Nat)(v:Value)(w:World):Prop:=∃(b cap:Nat) (d:Nat->Nat),v=.slice (some ⟨b,0,none⟩) n cap/\b≠S/\Dg w b n d/\(∀ j,j<n->d j<65536)/\vd d n=V
theorem DgS.keep{S n V:Nat}{v:Value}{w w':World}(hR:Rb S w w')(h:DgS S n V v w):DgS S n V v w':=by
 obtain⟨b,cap,d,rfl,hne,hD,h1,h2⟩:=h;exact⟨b,cap,d,rfl,hne,⟨Nat.lt_of_lt_of_le hD.1 hR.1,fun j hj=>(World.cell?_of_block (w:=w) (a:=⟨b,j,none⟩) (hR.2 b hD.1 hne)).trans (hD.2 j hj)⟩,h1,h2⟩
def Rs(S V:Nat)(w w':World):Prop:=Rb S w w'/\(w.heap[S]?=some (.cells (pw V) 24 (0,0))->w'.heap[S]?=some (.cells (pw V) 24 (0,0)))
theorem Rs.refl(S V:Nat)(w:World):Rs S V w w:=⟨Rb.refl _ _,id⟩
theorem Rs.of{S V:Nat}{w w':World}(hS:S<w.heap.size)(h:Below w.heap.size w w'):Rs S V w w':=⟨Rb.of h,fun e=>(h.block _ hS).trans e⟩
theorem Rs.row{S V:Nat}{w:World}{cs:Array Value}(hg:w.heap[S]?=some (.cells cs 24 (0,0))):Rs S V w (w.setRow S (pw V)):=⟨Rb.row _ rfl,fun _=>setRow_heap _ _ _ _ _ _ hg⟩
theorem Fj{S n V:Nat}{w w':World}{e:Ending}(hS:S<w.heap.size)(h:Na n V w e w'):∃ v,e=.returned v/\Below w.heap.size w w'/\DgS S n V v w':=by
 obtain⟨b,cap,d,rfl,hb,hD,h1,h2,hB⟩:=h;exact⟨_,rfl,hB,b,cap,d,rfl,τ,hD,h1,h2⟩
def CB(w:World)(x y:Nat)(wx:World):Prop :=
 Below w.heap.size w wx/\wx.heap[w.heap.size]?=some (.cells (pw x) 24 (0,0))/\wx.heap[w.heap.size+1]?=some (.cells (pw y) 24 (0,0))/\∃ cs:Array Value,cs.size=4/\wx.heap[w.heap.size+1+1]?=some (.cells cs 24 (0,0))
theorem CB.lt{w wx:World}{x y:Nat}(h:CB w x y wx):w.heap.size+1+1<wx.heap.size:=by
 obtain⟨-,-,-,cs,-,hc⟩:=h;exact(Array.getElem?_eq_some_iff.1 hc).1
theorem CB.below{w wx w':World}{x y:Nat}(h:CB w x y wx)(hb:Below wx.heap.size wx w'):CB w x y w':=by
 have hl:=h.lt;obtain⟨h0,h1,h2,cs,hs,hc⟩:=h;exact⟨h0.trans (hb.mono h0.size),(hb.block _ τ).trans h1,(hb.block _ τ).trans h2,cs,hs,(hb.block _ hl).trans hc⟩
theorem CB.row{w wx:World}{x y:Nat}(h:CB w x y wx)(cs:Array Value)(hs:cs.size=4):CB w x y (wx.setRow (w.heap.size+1+1) cs):=by
 obtain⟨h0,h1,h2,cs0,hs0,hc⟩:=h;exact⟨below_setRow h0 τ _,(setRow_other _ _ _ _ τ).trans h1,(setRow_other _ _ _ _ τ).trans h2,cs,hs,setRow_heap _ _ _ _ _ _ hc⟩
theorem Bq{g x:Nat}{w:World}(hg:w.heap[g]?=some (.cells (pw x) 24 (0,0))):(Instr.loadAt 24 (.pointer (some ⟨g,0,none⟩))).run Tryz.prog w=.ok (wv x) w:=by
 simp only[Instr.loadAt,Instr.sureAddr,Sem.run_bind,Sem.run_pure,Result.andThen_ok,run_loadVar_row w g 24 24 (pw x) (0,0) _ hg Tryz.underlying24 rfl Aq];rfl
theorem Ed{g x:Nat}{w:World}{cs:Array Value}(hs:cs.size=4)(hg:w.heap[g]?=some (.cells cs 24 (0,0))):(Instr.storeAt 24 (.pointer (some ⟨g,0,none⟩)) (wv x)).run Tryz.prog w=.ok () (w.setRow g (pw x)):=by
 rw[BR];simp only[Instr.storeAt,Instr.sureAddr,Sem.run_bind,Sem.run_pure,Result.andThen_ok,run_storeVar_row w g 24 24 cs (pw x) hg Aq hs (Ag x)]
theorem run_store{P:Program}{a:Act}{o:Oper}{w w':World}(t:TypeId)(p q:Operand)(u v:Value)(ho:o.op=.store t p q)(hp:a.eval p=u)(hq:a.eval q=v)(h:(Instr.storeAt t u v).run P w=.ok () w'):(execOp a.eval o).run P w=.ok .skip w':=by
 unfold execOp;rw[ho];simp only[hp,hq,Sem.run_bind,h,Result.andThen_ok,Sem.run_pure]
open Go.RowKit
theorem Qm(x:Nat)(w:World):Calls Tryz.prog 114 #[.int .u64 x] w fun e w'=>e=.returned (.bool false)/\w=w':=by
 go_enter Tryz.func114,Tryz.ntmps114;go_wp2;go_ret;exact⟨rfl,rfl⟩
theorem OW(x y:Nat)(h:(x:Int)<y)(w:World):Calls Tryz.prog 105 #[.int .u64 x,.int .u64 y] w fun e w'=>e=.returned (.int .i64 (-1))/\w=w':=by
 go_enter Tryz.func105,Tryz.ntmps105
 go_wp2_with (go_at_call 114;refine(Qm _ _).mono ?_;rintro e w' ⟨rfl,rfl⟩)
 go_ret;exact⟨rfl,rfl⟩
theorem OX(x y:Nat)(h:(y:Int)<x)(w:World):Calls Tryz.prog 105 #[.int .u64 x,.int .u64 y] w fun e w'=>e=.returned (.int .i64 1)/\w=w':=by
 have h':¬(x:Int)<y:=by omega
 go_enter Tryz.func105,Tryz.ntmps105
 go_wp2_with (go_at_call 114;refine(Qm _ _).mono ?_;rintro e w' ⟨rfl,rfl⟩)
 go_ret;exact⟨rfl,rfl⟩
theorem A2S(a0 a1 a2 a3 b0 b1 b2 b3:Nat)(r:Int)(hn:((a3:Int) != b3)=true)(w:World)
  (hc:∀ w,Calls Tryz.prog 105 #[.int .u64 a3,.int .u64 b3] w fun e w'=>e=.returned (.int .i64 r)/\w=w') :
  Calls Tryz.prog 89 #[.agg #[.int .u64 a0,.int .u64 a1,.int .u64 a2,.int .u64 a3],.agg #[.int .u64 b0,.int .u64 b1,.int .u64 b2,.int .u64 b3]] w fun e w'=>e=.returned (.int .i64 r)/\Below w.heap.size w w':=by
 go_enter Tryz.func89,Tryz.ntmps89;go_wp2;refine wp_loop_rounds 5 ?_;rw[rounds_succ];go_wp2;go_region;go_wp2
 go_region_with (go_at_call 105;refine(hc _).mono ?_;rintro e w' ⟨rfl,rfl⟩)
 all_goals (go_wp2;go_ret;exact⟨rfl,by go_grown⟩)
theorem A2T(a0 a1 a2 a3 b0 b1 b2:Nat)(r:Int)(hn:((a2:Int) != b2)=true)(w:World)
  (hc:∀ w,Calls Tryz.prog 105 #[.int .u64 a2,.int .u64 b2] w fun e w'=>e=.returned (.int .i64 r)/\w=w') :
  Calls Tryz.prog 89 #[.agg #[.int .u64 a0,.int .u64 a1,.int .u64 a2,.int .u64 a3],.agg #[.int .u64 b0,.int .u64 b1,.int .u64 b2,.int .u64 a3]] w fun e w'=>e=.returned (.int .i64 r)/\Below w.heap.size w w':=by
 go_enter Tryz.func89,Tryz.ntmps89;go_wp2;refine wp_loop_rounds 5 ?_;rw[rounds_succ];go_wp2;go_region;go_wp2;rw[rounds_succ];go_wp2;go_region;go_wp2
 go_region_with (go_at_call 105;refine(hc _).mono ?_;rintro e w' ⟨rfl,rfl⟩)
 all_goals (go_wp2;go_ret;exact⟨rfl,by go_grown⟩)
theorem A2U(a0 a1 a2 a3 b0 b1:Nat)(r:Int)(hn:((a1:Int) != b1)=true)(w:World)
  (hc:∀ w,Calls Tryz.prog 105 #[.int .u64 a1,.int .u64 b1] w fun e w'=>e=.returned (.int .i64 r)/\w=w') :
  Calls Tryz.prog 89 #[.agg #[.int .u64 a0,.int .u64 a1,.int .u64 a2,.int .u64 a3],.agg #[.int .u64 b0,.int .u64 b1,.int .u64 a2,.int .u64 a3]] w fun e w'=>e=.returned (.int .i64 r)/\Below w.heap.size w w':=by
 go_enter Tryz.func89,Tryz.ntmps89;go_wp2;refine wp_loop_rounds 5 ?_;rw[rounds_succ];go_wp2;go_region;go_wp2;rw[rounds_succ];go_wp2;go_region;go_wp2;rw[rounds_succ];go_wp2;go_region;go_wp2
 go_region_with (go_at_call 105;refine(hc _).mono ?_;rintro e w' ⟨rfl,rfl⟩)
 all_goals (go_wp2;go_ret;exact⟨rfl,by go_grown⟩)
theorem A2V(a0 a1 a2 a3 b0:Nat)(r:Int)(hn:((a0:Int) != b0)=true)(w:World)
  (hc:∀ w,Calls Tryz.prog 105 #[.int .u64 a0,.int .u64 b0] w fun e w'=>e=.returned (.int .i64 r)/\w=w') :
  Calls Tryz.prog 89 #[.agg #[.int .u64 a0,.int .u64 a1,.int .u64 a2,.int .u64 a3],.agg #[.int .u64 b0,.int .u64 a1,.int .u64 a2,.int .u64 a3]] w fun e w'=>e=.returned (.int .i64 r)/\Below w.heap.size w w':=by
 go_enter Tryz.func89,Tryz.ntmps89;go_wp2;refine wp_loop_rounds 5 ?_;rw[rounds_succ];go_wp2;go_region;go_wp2;rw[rounds_succ];go_wp2;go_region;go_wp2;rw[rounds_succ];go_wp2;go_region;go_wp2;rw[rounds_succ];go_wp2;go_region;go_wp2
 go_region_with (go_at_call 105;refine(hc _).mono ?_;rintro e w' ⟨rfl,rfl⟩)
 all_goals (go_wp2;go_ret;exact⟨rfl,by go_grown⟩)
theorem A2W(a0 a1 a2 a3:Nat)(w:World) :
  Calls Tryz.prog 89 #[.agg #[.int .u64 a0,.int .u64 a1,.int .u64 a2,.int .u64 a3],.agg #[.int .u64 a0,.int .u64 a1,.int .u64 a2,.int .u64 a3]] w fun e w'=>e=.returned (.int .i64 0)/\Below w.heap.size w w':=by
 go_enter Tryz.func89,Tryz.ntmps89;go_wp2;refine wp_loop_rounds 5 ?_
 iterate 4 (rw[rounds_succ];go_wp2;go_region;go_wp2)
 rw[rounds_succ];go_wp2;go_ret;exact⟨rfl,by go_grown⟩
theorem DN(x y:Nat)(h:x≠y)(w:World):Calls Tryz.prog 105 #[.int .u64 x,.int .u64 y] w fun e w'=>e=.returned (.int .i64 (if x<y then -1 else 1))/\w=w':=by
 by_cases hlt:x<y
 ·rw[if_pos hlt];exact OW x y τ w
 ·rw[if_neg hlt];exact OX x y τ w
def ord(x y:Nat):Int:=if x<y then -1 else if y<x then 1 else 0
theorem neB{x y:Nat}(h:x≠y):((x:Int) != (y:Int))=true:=by rw[bne_iff_ne];omega
-- WHAT Cmp COMES TO.
theorem Qn(x y:Nat)(w:World) :
  Calls Tryz.prog 89 #[wv x,wv y] w fun e w'=>e=.returned (.int .i64 (ord (x%115792089237316195423570985008687907853269984665640564039457584007913129639936) (y%115792089237316195423570985008687907853269984665640564039457584007913129639936)))/\Below w.heap.size w w':=by
 obtain⟨a0,a1,a2,a3,u0,u1,u2,u3,ea,na⟩:=Ai x;obtain⟨b0,b1,b2,b3,v0,v1,v2,v3,eb,nb⟩:=Ai y;rw[ea,eb,<- na,<- nb];have key:∀ p q:Nat,p≠q->(p<q↔n4 a0 a1 a2 a3<n4 b0 b1 b2 b3)->n4 a0 a1 a2 a3≠n4 b0 b1 b2 b3->(if p<q then (-1:Int)else 1)=ord (n4 a0 a1 a2 a3) (n4 b0 b1 b2 b3):=by
  intro p q hpq hi hn;unfold ord;by_cases h:p<q
  ·rw[if_pos h,if_pos (hi.1 h)]
  ·rw[if_neg h,if_neg (fun h'=>h (hi.2 h')),if_pos (by have:¬n4 a0 a1 a2 a3<n4 b0 b1 b2 b3:=fun h'=>h (hi.2 h');omega)]
 by_cases h3:a3=b3
 ·by_cases h2:a2=b2
  ·by_cases h1:a1=b1
   ·by_cases h0:a0=b0
    ·subst h0 h1 h2 h3
     have:ord (n4 a0 a1 a2 a3) (n4 a0 a1 a2 a3)=0:=by unfold ord;simp
     rw[this];exact A2W a0 a1 a2 a3 w
    ·subst h1 h2 h3
     rw[<- key a0 b0 h0 (by unfold n4;omega) (by unfold n4;omega)];exact A2V _ _ _ _ _ _ (neB h0) w (DN a0 b0 h0)
   ·subst h2 h3
    rw[<- key a1 b1 h1 (by unfold n4;omega) (by unfold n4;omega)];exact A2U _ _ _ _ _ _ _ (neB h1) w (DN a1 b1 h1)
  ·subst h3
   rw[<- key a2 b2 h2 (by unfold n4;omega) (by unfold n4;omega)];exact A2T _ _ _ _ _ _ _ _ (neB h2) w (DN a2 b2 h2)
 ·rw[<- key a3 b3 h3 (by unfold n4;omega) (by unfold n4;omega)]
  exact A2S _ _ _ _ _ _ _ _ _ (neB h3) w (DN a3 b3 h3)
open Go.RowKit
theorem Dh(x:Nat):pw x=ar .u64 4 fun j=>((pN x j:Nat):Int):=by
 have e:ar .u64 4 (fun j=>((pN x j:Nat):Int))=#[.int .u64 ((pN x 0:Nat):Int),.int .u64 ((pN x 1:Nat):Int),.int .u64 ((pN x 2:Nat):Int),.int .u64 ((pN x 3:Nat):Int)]:=by kernel_rfl
 rw[e];unfold pw;have e0:pN x 0=x%18446744073709551616:=by unfold pN;simp
 have e1:pN x 1=x / 18446744073709551616%18446744073709551616:=by unfold pN;simp;omega
 have e2:pN x 2=x / 340282366920938463463374607431768211456%18446744073709551616:=by unfold pN;simp;omega
 have e3:pN x 3=x / 6277101735386680763835789423207666416102355444464034512896%18446744073709551616:=by unfold pN;simp;omega
 rw[e0,e1,e2,e3]
theorem OY(x:Nat):val (pN x) 4=x%2^256:=by
 have e0:pN x 0=x%18446744073709551616:=by unfold pN;simp
 have e1:pN x 1=x / 18446744073709551616%18446744073709551616:=by unfold pN;simp;omega
 have e2:pN x 2=x / 340282366920938463463374607431768211456%18446744073709551616:=by unfold pN;simp;omega
 have e3:pN x 3=x / 6277101735386680763835789423207666416102355444464034512896%18446744073709551616:=by unfold pN;simp;omega
 simp only[val,e0,e1,e2,e3];omega
def sqr(m:Nat):Nat:=2^256*2^256%m
def frw(m j:Nat):Nat:=if j<4 then pN m j else if j=4 then nin m else pN (sqr m) (j - 5)
structure FldAt (w:World) (F m:Nat):Prop where
 row:w.heap[F]?=some (.cells (ar .u64 9 fun j=>((frw m j:Nat):Int)) 103 (0,0))
 odd:m%2=1
 big:1<m
 lt:m<2^256
theorem FldAt.below{w w':World}{F m:Nat}(h:FldAt w F m)(hb:Below w.heap.size w w'):FldAt w' F m :=
 ⟨(hb.block _ (Array.getElem?_eq_some_iff.1 h.row).1).trans h.row,h.odd,h.big,h.lt⟩
theorem FldAt.less{w:World}{F m:Nat}(h:FldAt w F m):F<w.heap.size:=(Array.getElem?_eq_some_iff.1 h.row).1
theorem FldAt.cell{w:World}{F m:Nat}(h:FldAt w F m)(j:Nat)(hj:j<9):w.cell? ⟨F,j,none⟩=some (.int .u64 (frw m j:Nat)):=(cell_of_row _ _ j _ _ _ h.row).trans (Cr _ _ _ _ hj)
theorem Ab:(Tryz.prog.info? 24).map (·.size)=some 4:=by kernel_rfl
theorem Lv{w:World}{F m:Nat}(h:FldAt w F m):(Instr.loadAt 24 (.pointer (some ⟨F,0,none⟩))).run Tryz.prog w=.ok (.agg (pw m)) w:=by
 rw[Dh];simp only[Instr.loadAt,Instr.sureAddr,Sem.run_bind,Sem.run_pure,Result.andThen_ok,AR w F 0 4 24 .u64 (fun j=>((pN m j:Nat):Int)) _ (fun j hj=>by
  rw[Nat.zero_add,h.cell j τ];unfold frw;rw[if_pos hj]) Tryz.underlying24 rfl Ab]
theorem Ad{g x:Nat}{w:World}(hg:w.heap[g]?=some (.cells (pw x) 24 (0,0))):(Instr.loadAt 24 (.pointer (some ⟨g,0,none⟩))).run Tryz.prog w=.ok (.agg (pw x)) w:=Bq hg
theorem A2X{w:World}{F m:Nat}(h:FldAt w F m):(Instr.loadAt 24 (.pointer (some ⟨F,5,none⟩))).run Tryz.prog w=.ok (.agg (pw (sqr m))) w:=by
 rw[Dh];simp only[Instr.loadAt,Instr.sureAddr,Sem.run_bind,Sem.run_pure,Result.andThen_ok,AR w F 5 4 24 .u64 (fun j=>((pN (sqr m) j:Nat):Int)) _ (fun j hj=>by
  rw[h.cell (5+j) τ];unfold frw;rw[if_neg τ,if_neg τ,show 5+j - 5=j by omega]) Tryz.underlying24 rfl Ab]
theorem A1b{w:World}{F m:Nat}(h:FldAt w F m):(Instr.loadAt 22 (.pointer (some ⟨F,4,none⟩))).run Tryz.prog w=.ok (.int .u64 (nin m:Nat)) w :=
 Dr _ _ _ _ (h.cell 4 τ)
theorem DX(F:Nat)(w:World):(Instr.fieldAt 103 (.pointer (some ⟨F,0,none⟩)) 0).run Tryz.prog w=.ok (.pointer (some ⟨F,0,none⟩)) w:=by kernel_rfl
theorem Y6(F:Nat)(w:World):(Instr.fieldAt 103 (.pointer (some ⟨F,0,none⟩)) 1).run Tryz.prog w=.ok (.pointer (some ⟨F,4,none⟩)) w:=by kernel_rfl
theorem A1c(F:Nat)(w:World):(Instr.fieldAt 103 (.pointer (some ⟨F,0,none⟩)) 2).run Tryz.prog w=.ok (.pointer (some ⟨F,5,none⟩)) w:=by kernel_rfl
open Go.RowKit
structure C1 (w:World) (F m x:Nat) (wx:World):Prop where
 old:Below w.heap.size w wx
 fld:FldAt wx F m
 r0:wx.heap[w.heap.size]?=some (.cells (pw x) 24 (0,0))
 r1:wx.heap[w.heap.size+1]?=some (.cells #[.int .u64 0,.int .u64 0,.int .u64 0,.int .u64 0] 24 (0,0))
theorem C1.below{w wx w':World}{F m x:Nat}(c:C1 w F m x wx)(hb:Below wx.heap.size wx w'):C1 w F m x w' :=
 ⟨c.old.trans (hb.mono c.old.size),c.fld.below hb,(hb.block _ (Array.getElem?_eq_some_iff.1 c.r0).1).trans c.r0,(hb.block _ (Array.getElem?_eq_some_iff.1 c.r1).1).trans c.r1⟩
theorem C1.start{w:World}{F m x:Nat}(h:FldAt w F m):C1 w F m x ((w.alloc (.cells (pw x) 24)).alloc (.cells #[.int .u64 0,.int .u64 0,.int .u64 0,.int .u64 0] 24)) :=
 ⟨by go_grown,(h.below ((Below.refl _ _).alloc (Nat.le_refl _) _)).below ((Below.refl _ _).alloc (Nat.le_refl _) _),heap_alloc2_old _ _ _,heap_alloc2_new _ _ _⟩
theorem C1.drew{w wx:World}{F m x:Nat}(c:C1 w F m x wx):C1 w F m x wx.drew:=c.below (Below.drew (Below.refl _ _))
theorem C1.done{w wx:World}{F m x y:Nat}(c:C1 w F m x wx):Below w.heap.size w (wx.setRow (w.heap.size+1) (pw y)):=below_setRow c.old τ _
theorem Qo(a b:Nat)(w:World):(binOp BinOp.geq 3 (.int .i64 (ord a b)) (.int .i64 0)).run Tryz.prog w=.ok (.bool (decide (b<=a))) w:=by
 unfold ord;by_cases h1:a<b
 ·rw[if_pos h1,decide_eq_false τ];kernel_rfl
 ·rw[if_neg h1,decide_eq_true (show b<=a by omega)]
  by_cases h2:b<a
  ·rw[if_pos h2];kernel_rfl
  ·rw[if_neg h2];kernel_rfl
theorem Lx(a b:Nat)(w:World):(binOp BinOp.lss 3 (.int .i64 (ord a b)) (.int .i64 0)).run Tryz.prog w=.ok (.bool (decide (a<b))) w:=by
 unfold ord;by_cases h1:a<b
 ·rw[if_pos h1,decide_eq_true h1];kernel_rfl
 ·rw[if_neg h1,decide_eq_false h1]
  by_cases h2:b<a
  ·rw[if_pos h2];kernel_rfl
  ·rw[if_neg h2];kernel_rfl
theorem IE{m:Nat}(h:m<2^256):m%2^256=m:=Nat.mod_eq_of_lt h
def Gx(m x:Nat)(be:Bool):Nat:=if be=true\/m<=x%2^256 then x+(2^256 - m)else x
-- WHAT lessOnce COMES TO.
theorem Gy(F m x:Nat)(be:Bool)(w:World)(hF:FldAt w F m):Calls Tryz.prog 91 #[.pointer (some ⟨F,0,none⟩),.agg (pw x),.bool be] w fun e w'=>e=.returned (.agg (pw (Gx m x be)))/\Below w.heap.size w w':=by
 have H0:=Lib.hid (C1.start (x:=x) hF);have HS:=Lib.hid (show ∀ wx,C1 w F m x wx->Calls Tryz.prog 98 #[.agg (pw x),.agg (pw m)] wx (fun e w'=>e=.returned (.agg (pw (x+(2^256 - m))))/\C1 w F m x w') from fun wx c=>(Qh x m wx).mono fun e w' hh=>⟨by rw[hh.1,IE hF.lt];rfl,c.below hh.2⟩);have HCM:=Lib.hid (show ∀ wx,C1 w F m x wx->Calls Tryz.prog 89 #[.agg (pw x),.agg (pw m)] wx (fun e w'=>e=.returned (.int .i64 (ord (x%2^256) m))/\C1 w F m x w') from fun wx c=>(Qn x m wx).mono fun e w' hh=>⟨by rw[hh.1,IE hF.lt],c.below hh.2⟩);clear hF;unfold Gx;obtain⟨X,hX⟩:∃ X,x%2^256=X:=⟨_,rfl⟩
 rw[hX]at HCM |-
 clear hX;cases be with
 | true =>
  rw[if_pos (.inl rfl)];obtain⟨y,hy⟩:∃ y,x+(2^256 - m)=y:=⟨_,rfl⟩
  rw[hy]at HS |-
  clear hy;go_enter Tryz.func91,Tryz.ntmps91
  go_wp2_with fail
  refine wp_region_quiet (C:=C1 w F m x) ω ω (H0.out.drew) ?_;simp only
  with_reducible refine q_val (.bool true) ω (fun _ _=>by kernel_rfl) ?_
  with_reducible refine q_val (.bool true) ω (fun _ _=>by kernel_rfl) ?_
  with_reducible refine q_skip ω ?_
  with_reducible refine q_skip ω ?_
  with_reducible refine q_skip ω ?_
  with_reducible refine q_skip ω ?_
  with_reducible refine q_skip ω ?_
  with_reducible refine q_skip ω ?_
  with_reducible refine q_skip ω ?_
  with_reducible refine q_val (.bool true) ω (fun _ _=>by kernel_rfl) ?_
  with_reducible refine wpQuiet_nil ?_
  intro wx hC;have HC:=Lib.hid hC;clear hC;simp only[Act.put,List.setIfInBounds_toArray,List.set_cons_succ,List.set_cons_zero]
  go_wp2_with fail
  refine Aa 6 (C1 w F m x) ω ω (HC.out.drew) ?_;simp only[List.take_succ_cons,List.take_zero,List.drop_succ_cons,List.drop_zero]
  with_reducible refine Ac 24 (.tmp 4) (.pointer (some ⟨w.heap.size,0,none⟩)) (.agg (pw x)) rfl ω ω (fun _ c=>Ad c.r0) ?_
  with_reducible refine q_val (.pointer (some ⟨F,0,none⟩)) ω (fun _ _=>by kernel_rfl) ?_
  with_reducible refine q_val (.pointer (some ⟨F,0,none⟩)) ω (fun _ _=>Ao (.tmp 18) _ rfl ω) ?_
  with_reducible refine Am (Instr.fieldAt 103 (.pointer (some ⟨F,0,none⟩)) 0) (.pointer (some ⟨F,0,none⟩)) ω ω (fun w' _=>DX F w') ?_
  with_reducible refine Ac 24 (.tmp 20) (.pointer (some ⟨F,0,none⟩)) (.agg (pw m)) rfl ω ω (fun _ c=>Lv c.fld) ?_
  with_reducible refine Ah 98 #[.agg (pw x),.agg (pw m)] (.agg (pw y)) ω (fun _=>by kernel_rfl) (HS.out) ?_
  with_reducible refine wpQuiet_nil ?_
  intro wx hC;have HC2:=Lib.hid hC;clear hC;simp only[Act.put,List.setIfInBounds_toArray,List.set_cons_succ,List.set_cons_zero]
  go_wp2_with (refine wpList_store_row rfl 24 _ _ rfl (w.heap.size+1) (pw y) rfl rfl 24 #[.int .u64 0,.int .u64 0,.int .u64 0,.int .u64 0] (by exact HC2.out.r1) (by rw[A7];exact Ab) (by rw[A7];rfl) (Ag _) ?_)
  (try simp only[Act.put])
  exact bodyPost_ret (v:=.agg (pw y)) (results_cell_row (p:=6) rfl _ _ (w.heap.size+1) 24 (pw y) (0,0) _ rfl (setRow_heap _ _ _ _ _ _ HC2.out.r1) Tryz.underlying24 rfl (by rw[A7];exact Ab)) rfl ⟨rfl,HC2.out.done⟩
 | false =>
  by_cases hle:m<=X
  ·rw[if_pos (.inr hle)]
   obtain⟨y,hy⟩:∃ y,x+(2^256 - m)=y:=⟨_,rfl⟩
   rw[hy]at HS |-
   clear hy;go_enter Tryz.func91,Tryz.ntmps91
   go_wp2_with fail
   refine wp_region_quiet (C:=C1 w F m x) ω ω (H0.out.drew) ?_;simp only
   with_reducible refine q_val (.bool false) ω (fun _ _=>by kernel_rfl) ?_
   with_reducible refine q_val (.bool false) ω (fun _ _=>by kernel_rfl) ?_
   with_reducible refine Ac 24 (.tmp 4) (.pointer (some ⟨w.heap.size,0,none⟩)) (.agg (pw x)) rfl ω ω (fun _ c=>Ad c.r0) ?_
   with_reducible refine q_val (.pointer (some ⟨F,0,none⟩)) ω (fun _ _=>by kernel_rfl) ?_
   with_reducible refine q_val (.pointer (some ⟨F,0,none⟩)) ω (fun _ _=>Ao (.tmp 10) _ rfl ω) ?_
   with_reducible refine Am (Instr.fieldAt 103 (.pointer (some ⟨F,0,none⟩)) 0) (.pointer (some ⟨F,0,none⟩)) ω ω (fun w' _=>DX F w') ?_
   with_reducible refine Ac 24 (.tmp 12) (.pointer (some ⟨F,0,none⟩)) (.agg (pw m)) rfl ω ω (fun _ c=>Lv c.fld) ?_
   with_reducible refine Ah 89 #[.agg (pw x),.agg (pw m)] (.int .i64 (ord X m)) ω (fun _=>by kernel_rfl) (HCM.out) ?_
   with_reducible refine Ce .geq 3 _ _ 3 (.int .i64 (ord X m)) (.int .i64 0) (.bool true) rfl ω ω ω (fun _=>by kernel_rfl) (fun w'=>(Qo X m w').trans (by rw[decide_eq_true hle])) ?_
   with_reducible refine q_val (.bool true) ω (fun _ _=>by kernel_rfl) ?_
   with_reducible refine wpQuiet_nil ?_
   intro wx hC;have HC:=Lib.hid hC;clear hC;simp only[Act.put,List.setIfInBounds_toArray,List.set_cons_succ,List.set_cons_zero]
   go_wp2_with fail
   refine Aa 6 (C1 w F m x) ω ω (HC.out.drew) ?_;simp only[List.take_succ_cons,List.take_zero,List.drop_succ_cons,List.drop_zero]
   with_reducible refine Ac 24 (.tmp 4) (.pointer (some ⟨w.heap.size,0,none⟩)) (.agg (pw x)) rfl ω ω (fun _ c=>Ad c.r0) ?_
   with_reducible refine q_val (.pointer (some ⟨F,0,none⟩)) ω (fun _ _=>by kernel_rfl) ?_
   with_reducible refine q_val (.pointer (some ⟨F,0,none⟩)) ω (fun _ _=>Ao (.tmp 18) _ rfl ω) ?_
   with_reducible refine Am (Instr.fieldAt 103 (.pointer (some ⟨F,0,none⟩)) 0) (.pointer (some ⟨F,0,none⟩)) ω ω (fun w' _=>DX F w') ?_
   with_reducible refine Ac 24 (.tmp 20) (.pointer (some ⟨F,0,none⟩)) (.agg (pw m)) rfl ω ω (fun _ c=>Lv c.fld) ?_
   with_reducible refine Ah 98 #[.agg (pw x),.agg (pw m)] (.agg (pw y)) ω (fun _=>by kernel_rfl) (HS.out) ?_
   with_reducible refine wpQuiet_nil ?_
   intro wx hC;have HC2:=Lib.hid hC;clear hC;simp only[Act.put,List.setIfInBounds_toArray,List.set_cons_succ,List.set_cons_zero]
   go_wp2_with (refine wpList_store_row rfl 24 _ _ rfl (w.heap.size+1) (pw y) rfl rfl 24 #[.int .u64 0,.int .u64 0,.int .u64 0,.int .u64 0] (by exact HC2.out.r1) (by rw[A7];exact Ab) (by rw[A7];rfl) (Ag _) ?_)
   (try simp only[Act.put])
   exact bodyPost_ret (v:=.agg (pw y)) (results_cell_row (p:=6) rfl _ _ (w.heap.size+1) 24 (pw y) (0,0) _ rfl (setRow_heap _ _ _ _ _ _ HC2.out.r1) Tryz.underlying24 rfl (by rw[A7];exact Ab)) rfl ⟨rfl,HC2.out.done⟩
  ·rw[if_neg (by simp[hle])]
   go_enter Tryz.func91,Tryz.ntmps91
   go_wp2_with fail
   refine wp_region_quiet (C:=C1 w F m x) ω ω (H0.out.drew) ?_;simp only
   with_reducible refine q_val (.bool false) ω (fun _ _=>by kernel_rfl) ?_
   with_reducible refine q_val (.bool false) ω (fun _ _=>by kernel_rfl) ?_
   with_reducible refine Ac 24 (.tmp 4) (.pointer (some ⟨w.heap.size,0,none⟩)) (.agg (pw x)) rfl ω ω (fun _ c=>Ad c.r0) ?_
   with_reducible refine q_val (.pointer (some ⟨F,0,none⟩)) ω (fun _ _=>by kernel_rfl) ?_
   with_reducible refine q_val (.pointer (some ⟨F,0,none⟩)) ω (fun _ _=>Ao (.tmp 10) _ rfl ω) ?_
   with_reducible refine Am (Instr.fieldAt 103 (.pointer (some ⟨F,0,none⟩)) 0) (.pointer (some ⟨F,0,none⟩)) ω ω (fun w' _=>DX F w') ?_
   with_reducible refine Ac 24 (.tmp 12) (.pointer (some ⟨F,0,none⟩)) (.agg (pw m)) rfl ω ω (fun _ c=>Lv c.fld) ?_
   with_reducible refine Ah 89 #[.agg (pw x),.agg (pw m)] (.int .i64 (ord X m)) ω (fun _=>by kernel_rfl) (HCM.out) ?_
   with_reducible refine Ce .geq 3 _ _ 3 (.int .i64 (ord X m)) (.int .i64 0) (.bool false) rfl ω ω ω (fun _=>by kernel_rfl) (fun w'=>(Qo X m w').trans (by rw[decide_eq_false hle])) ?_
   with_reducible refine q_val (.bool false) ω (fun _ _=>by kernel_rfl) ?_
   with_reducible refine wpQuiet_nil ?_
   intro wx hC;have HC:=Lib.hid hC;clear hC;simp only[Act.put,List.setIfInBounds_toArray,List.set_cons_succ,List.set_cons_zero]
   go_wp2_with (first | (refine wpList_load_row rfl 24 _ rfl w.heap.size rfl 24 (pw x) (0,0) _ (by exact HC.out.r0) Tryz.underlying24 rfl (by rw[A7];exact Ab) ?_) | (refine wpList_store_row rfl 24 _ _ rfl (w.heap.size+1) (pw x) rfl rfl 24 #[.int .u64 0,.int .u64 0,.int .u64 0,.int .u64 0] (by exact HC.out.r1) (by rw[A7];exact Ab) (by rw[A7];rfl) (Ag _) ?_))
   (try simp only[Act.put])
   exact bodyPost_ret (v:=.agg (pw x)) (results_cell_row (p:=6) rfl _ _ (w.heap.size+1) 24 (pw x) (0,0) _ rfl (setRow_heap _ _ _ _ _ _ HC.out.r1) Tryz.underlying24 rfl (by rw[A7];exact Ab)) rfl ⟨rfl,HC.out.done⟩
end Go.Proofs.YtphafjbajlcbnaaGreat
