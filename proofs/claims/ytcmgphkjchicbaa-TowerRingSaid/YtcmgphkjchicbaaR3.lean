/- What the whole product of two words comes to (word.product), and the product (word.narrow, word.Mul), called with any words in any world. (Cut to what is reached, written closely: Num · Add · Mul · Adds · Product.) -/
import Derived.WalkKit
import Derived.Laws.Externs
import Derived.WalkSpells
import Derived.WalkLawsBesides
import Derived.LoopN
import Derived.Handy
import Derived.Outline
import Derived.RegionTactic
import Derived.BigRegion
import Derived.BigQuiet
import Derived.WalkSmall
import Derived.OwnWalk
import Derived.Lib.Hide
import Derived.Laws.Rows
import Derived.Laws.Tables
import Derived.Laws.CopyOwn
import Derived.Maps.AppendAt
import Derived.Deep.LoopGhost
import Derived.Laws.Bits64b
import Derived.Laws.OwnMore
import Derived.Deep.AppendLies
import Derived.Deep.RegionWith
import Derived.Deep.QuietTactic
import Derived.Test.YtcmgphkjchicbaaProg
import Derived.Test.YtcmgphkjchicbaaR2
set_option linter.all false
set_option maxRecDepth 100000
set_option maxHeartbeats 8000000
namespace Go.Proofs.Ytcmgphkjchicbaa
open Go.RowKit
def wv(x:Nat):Value:=.agg #[.int .u64 ((x%18446744073709551616:Nat):Int),.int .u64 ((x / 18446744073709551616%18446744073709551616:Nat):Int),.int .u64 ((x / 340282366920938463463374607431768211456%18446744073709551616:Nat):Int),.int .u64 ((x / 6277101735386680763835789423207666416102355444464034512896%18446744073709551616:Nat):Int)]
def n4(a0 a1 a2 a3:Nat):Nat:=a0+18446744073709551616*a1+340282366920938463463374607431768211456*a2+6277101735386680763835789423207666416102355444464034512896*a3
theorem wv_n4{a0 a1 a2 a3:Nat}(h0:a0<18446744073709551616)(h1:a1<18446744073709551616)(h2:a2<18446744073709551616)(h3:a3<18446744073709551616) :
  wv (n4 a0 a1 a2 a3)=.agg #[.int .u64 a0,.int .u64 a1,.int .u64 a2,.int .u64 a3]:=by
 unfold wv n4;have e0:(a0+18446744073709551616*a1+340282366920938463463374607431768211456*a2+6277101735386680763835789423207666416102355444464034512896*a3)%18446744073709551616=a0:=by omega
 have e1:(a0+18446744073709551616*a1+340282366920938463463374607431768211456*a2+6277101735386680763835789423207666416102355444464034512896*a3) / 18446744073709551616%18446744073709551616=a1:=by omega
 have e2:(a0+18446744073709551616*a1+340282366920938463463374607431768211456*a2+6277101735386680763835789423207666416102355444464034512896*a3) / 340282366920938463463374607431768211456%18446744073709551616=a2:=by omega
 have e3:(a0+18446744073709551616*a1+340282366920938463463374607431768211456*a2+6277101735386680763835789423207666416102355444464034512896*a3) / 6277101735386680763835789423207666416102355444464034512896%18446744073709551616=a3:=by omega
 rw[e0,e1,e2,e3]
theorem wv_parts(x:Nat):∃ a0 a1 a2 a3:Nat,a0<18446744073709551616/\a1<18446744073709551616/\a2<18446744073709551616/\a3<18446744073709551616 /\
  wv x=.agg #[.int .u64 a0,.int .u64 a1,.int .u64 a2,.int .u64 a3]/\n4 a0 a1 a2 a3=x%2^256 :=
 ⟨_,_,_,_,by omega,by omega,by omega,by omega,rfl,by unfold n4;omega⟩
theorem wv_congr{x y:Nat}(h:x%2^256=y%2^256):wv x=wv y:=by
 unfold wv;have e0:x%18446744073709551616=y%18446744073709551616:=by omega
 have e1:x / 18446744073709551616%18446744073709551616=y / 18446744073709551616%18446744073709551616:=by omega
 have e2:x / 340282366920938463463374607431768211456%18446744073709551616=y / 340282366920938463463374607431768211456%18446744073709551616:=by omega
 have e3:x / 6277101735386680763835789423207666416102355444464034512896%18446744073709551616=y / 6277101735386680763835789423207666416102355444464034512896%18446744073709551616:=by omega
 rw[e0,e1,e2,e3]
theorem n4_lt{a0 a1 a2 a3:Nat}(h0:a0<18446744073709551616)(h1:a1<18446744073709551616)(h2:a2<18446744073709551616)(h3:a3<18446744073709551616) :
  n4 a0 a1 a2 a3<2^256:=by unfold n4;omega
theorem after4{w W w1:World}{B:Nat}(b:Nat)(hb:Below W.heap.size W w1)(h0:Below B w W)(hB0:B<=W.heap.size)(hB:b<W.heap.size)
  (c0:W.cell? ⟨b,0,none⟩=some (.int .u64 0)) (c1:W.cell? ⟨b,1,none⟩=some (.int .u64 0)) (c2:W.cell? ⟨b,2,none⟩=some (.int .u64 0)) (c3:W.cell? ⟨b,3,none⟩=some (.int .u64 0))
  (f0:W.frozen? ⟨b,0,none⟩=false) (f1:W.frozen? ⟨b,1,none⟩=false) (f2:W.frozen? ⟨b,2,none⟩=false) (f3:W.frozen? ⟨b,3,none⟩=false) :
  (w1.cell? ⟨b,0,none⟩=some (.int .u64 0)/\w1.cell? ⟨b,1,none⟩=some (.int .u64 0)/\w1.cell? ⟨b,2,none⟩=some (.int .u64 0)/\w1.cell? ⟨b,3,none⟩=some (.int .u64 0)) /\
  (w1.frozen? ⟨b,0,none⟩=false/\w1.frozen? ⟨b,1,none⟩=false/\w1.frozen? ⟨b,2,none⟩=false/\w1.frozen? ⟨b,3,none⟩=false)/\b<w1.heap.size/\Below B w w1 :=
 ⟨⟨(hb.cell hB).trans c0,(hb.cell hB).trans c1,(hb.cell hB).trans c2,(hb.cell hB).trans c3⟩,⟨(hb.frozen hB).trans f0,(hb.frozen hB).trans f1,(hb.frozen hB).trans f2,(hb.frozen hB).trans f3⟩,Nat.lt_of_lt_of_le hB hb.size,h0.trans (hb.mono hB0)⟩
theorem after1{W w1:World}{b i:Nat}{v:Value}(hb:Below W.heap.size W w1)(hB:b<W.heap.size)(c0:W.cell? ⟨b,i,none⟩=some v)(f0:W.frozen? ⟨b,i,none⟩=false) :
  w1.cell? ⟨b,i,none⟩=some v/\w1.frozen? ⟨b,i,none⟩=false/\b<w1.heap.size :=
 ⟨(hb.cell hB).trans c0,(hb.frozen hB).trans f0,Nat.lt_of_lt_of_le hB hb.size⟩
open Go.RowKit
def sub64E:Array Value->Sem Value:=fun args=>do
 let (x, y, b) ← Extern.MathBitsCarry.three "Sub64" args
 pure (Extern.MathBitsCarry.pair ((x+Extern.MathBitsCarry.m64 - y - b)%Extern.MathBitsCarry.m64) (if x<y+b then 1 else 0))
theorem run_sub64E(x y b:Nat)(hb:b<=1)(w:World) :
  (sub64E #[.int .u64 x,.int .u64 y,.int .u64 b]).run Try.prog w =
   .ok (.tuple #[.int .u64 (((x+18446744073709551616 - y - b)%18446744073709551616:Nat):Int),.int .u64 ((if x<y+b then 1 else 0:Nat):Int)]) w:=by
 have:b=0\/b=1:=by omega
 rcases this with rfl | rfl <;> rfl
theorem add64_run(x y c:Nat)(hc:c<=1)(w:World) :
  (callFunc 80 #[.int .u64 x,.int .u64 y,.int .u64 c]).run Try.prog w =
   .ok (.value (.tuple #[.int .u64 (((x+y+c)%18446744073709551616:Nat):Int),.int .u64 (((x+y+c) / 18446744073709551616:Nat):Int)])) w:=by
 rw[run_callFunc_extern Try.func80 (by kernel_rfl) (by kernel_rfl) (by kernel_rfl) (e:=add64Entry) (by kernel_rfl),run_add64 x y c (by omega) (by omega) (by omega) (by omega)];simp only[Result.andThen];congr 5 <;> omega
theorem sub64_run(x y b:Nat)(hb:b<=1)(w:World) :
  (callFunc 81 #[.int .u64 x,.int .u64 y,.int .u64 b]).run Try.prog w =
   .ok (.value (.tuple #[.int .u64 (((x+18446744073709551616 - y - b)%18446744073709551616:Nat):Int),.int .u64 ((if x<y+b then 1 else 0:Nat):Int)])) w:=by
 rw[run_callFunc_extern Try.func81 (by kernel_rfl) (by kernel_rfl) (by kernel_rfl) (e:=sub64E) (by kernel_rfl),run_sub64E x y b hb];rfl
theorem add64_ex(x y c:Nat)(hx:x<18446744073709551616)(hy:y<18446744073709551616)(hc:c<=1) :
  ∃ s d:Nat,d<=1/\s<18446744073709551616/\s+18446744073709551616*d=x+y+c /\
  ∀ w,(callFunc 80 #[.int .u64 x,.int .u64 y,.int .u64 c]).run Try.prog w=.ok (.value (.tuple #[.int .u64 s,.int .u64 d])) w :=
 ⟨_,_,by omega,by omega,by omega,fun w=>add64_run x y c hc w⟩
theorem add64_ex0(x y:Nat)(hx:x<18446744073709551616)(hy:y<18446744073709551616) :
  ∃ s d:Nat,d<=1/\s<18446744073709551616/\s+18446744073709551616*d=x+y /\
  ∀ w,(callFunc 80 #[.int .u64 x,.int .u64 y,.int .u64 0]).run Try.prog w=.ok (.value (.tuple #[.int .u64 s,.int .u64 d])) w :=
 add64_ex x y 0 hx hy (by omega)
theorem sub64_ex(x y b:Nat)(hx:x<18446744073709551616)(hy:y<18446744073709551616)(hb:b<=1) :
  ∃ s d:Nat,d<=1/\s<18446744073709551616/\s+y+b=x+18446744073709551616*d /\
  ∀ w,(callFunc 81 #[.int .u64 x,.int .u64 y,.int .u64 b]).run Try.prog w=.ok (.value (.tuple #[.int .u64 s,.int .u64 d])) w:=by
 refine⟨_,_,?_,?_,?_,fun w=>sub64_run x y b hb w⟩
 ·split <;> omega
 ·omega
 ·split <;> omega
theorem sub64_ex0(x y:Nat)(hx:x<18446744073709551616)(hy:y<18446744073709551616) :
  ∃ s d:Nat,d<=1/\s<18446744073709551616/\s+y=x+18446744073709551616*d /\
  ∀ w,(callFunc 81 #[.int .u64 x,.int .u64 y,.int .u64 0]).run Try.prog w=.ok (.value (.tuple #[.int .u64 s,.int .u64 d])) w :=
 sub64_ex x y 0 hx hy (by omega)
theorem addCarry_walk(a0 a1 a2 a3 b0 b1 b2 b3 s0 c1 s1 c2 s2 c3 s3 c4:Nat)(w:World)
 (h0:∀ w,(callFunc 80 #[.int .u64 a0,.int .u64 b0,.int .u64 0]).run Try.prog w=.ok (.value (.tuple #[.int .u64 s0,.int .u64 c1])) w)
 (h1:∀ w,(callFunc 80 #[.int .u64 a1,.int .u64 b1,.int .u64 c1]).run Try.prog w=.ok (.value (.tuple #[.int .u64 s1,.int .u64 c2])) w)
 (h2:∀ w,(callFunc 80 #[.int .u64 a2,.int .u64 b2,.int .u64 c2]).run Try.prog w=.ok (.value (.tuple #[.int .u64 s2,.int .u64 c3])) w)
 (h3:∀ w,(callFunc 80 #[.int .u64 a3,.int .u64 b3,.int .u64 c3]).run Try.prog w=.ok (.value (.tuple #[.int .u64 s3,.int .u64 c4])) w) :
  Calls Try.prog 78 #[.agg #[.int .u64 a0,.int .u64 a1,.int .u64 a2,.int .u64 a3],.agg #[.int .u64 b0,.int .u64 b1,.int .u64 b2,.int .u64 b3]] w fun e w' =>
   e=.returned (.tuple #[.agg #[.int .u64 s0,.int .u64 s1,.int .u64 s2,.int .u64 s3],.int .u64 c4])/\Below w.heap.size w w':=by
 go_enter Try.func78,Try.ntmps78;go_wp2;refine wp_loop_rounds 5 ?_
 iterate 4 (rw[rounds_succ];go_wp2;go_region;go_wp2)
 rw[rounds_succ];go_wp2
 go_returns
 exact⟨rfl,by go_grown⟩
theorem addCarry_any(x y:Nat)(w:World) :
  Calls Try.prog 78 #[wv x,wv y] w fun e w' =>
   e=.returned (.tuple #[wv (x+y),.int .u64 (((x%2^256+y%2^256) / 2^256:Nat):Int)])/\Below w.heap.size w w':=by
 obtain⟨a0,a1,a2,a3,u0,u1,u2,u3,ea,na⟩:=wv_parts x;obtain⟨b0,b1,b2,b3,v0,v1,v2,v3,eb,nb⟩:=wv_parts y;obtain⟨s0,c1,k1,l0,e0,h0⟩:=add64_ex0 a0 b0 u0 v0;obtain⟨s1,c2,k2,l1,e1,h1⟩:=add64_ex a1 b1 c1 u1 v1 k1;obtain⟨s2,c3,k3,l2,e2,h2⟩:=add64_ex a2 b2 c2 u2 v2 k2;obtain⟨s3,c4,k4,l3,e3,h3⟩:=add64_ex a3 b3 c3 u3 v3 k3;have hs:n4 s0 s1 s2 s3+2^256*c4=x%2^256+y%2^256:=by rw[<- na,<- nb];unfold n4;omega
 have hl:=n4_lt l0 l1 l2 l3;rw[ea,eb];refine(addCarry_walk a0 a1 a2 a3 b0 b1 b2 b3 s0 c1 s1 c2 s2 c3 s3 c4 w h0 h1 h2 h3).mono fun e w' ⟨he,hb⟩=>⟨?_,hb⟩
 rw[he,<- hs,<- wv_n4 l0 l1 l2 l3];rw[wv_congr (x:=n4 s0 s1 s2 s3) (y:=x+y) (by omega)];rw[show(n4 s0 s1 s2 s3+2^256*c4) / 2^256=c4 by omega]
theorem sub_walk(a0 a1 a2 a3 b0 b1 b2 b3 s0 c1 s1 c2 s2 c3 s3 c4:Nat)(w:World)
 (h0:∀ w,(callFunc 81 #[.int .u64 a0,.int .u64 b0,.int .u64 0]).run Try.prog w=.ok (.value (.tuple #[.int .u64 s0,.int .u64 c1])) w)
 (h1:∀ w,(callFunc 81 #[.int .u64 a1,.int .u64 b1,.int .u64 c1]).run Try.prog w=.ok (.value (.tuple #[.int .u64 s1,.int .u64 c2])) w)
 (h2:∀ w,(callFunc 81 #[.int .u64 a2,.int .u64 b2,.int .u64 c2]).run Try.prog w=.ok (.value (.tuple #[.int .u64 s2,.int .u64 c3])) w)
 (h3:∀ w,(callFunc 81 #[.int .u64 a3,.int .u64 b3,.int .u64 c3]).run Try.prog w=.ok (.value (.tuple #[.int .u64 s3,.int .u64 c4])) w) :
  Calls Try.prog 52 #[.agg #[.int .u64 a0,.int .u64 a1,.int .u64 a2,.int .u64 a3],.agg #[.int .u64 b0,.int .u64 b1,.int .u64 b2,.int .u64 b3]] w fun e w' =>
   e=.returned (.agg #[.int .u64 s0,.int .u64 s1,.int .u64 s2,.int .u64 s3])/\Below w.heap.size w w':=by
 go_enter Try.func52,Try.ntmps52;go_wp2;refine wp_loop_rounds 5 ?_
 iterate 4 (rw[rounds_succ];go_wp2;go_region;go_wp2)
 rw[rounds_succ];go_wp2
 go_returns
 exact⟨rfl,by go_grown⟩
theorem sub_any(x y:Nat)(w:World) :
  Calls Try.prog 52 #[wv x,wv y] w fun e w' =>
   e=.returned (wv (x+(2^256 - y%2^256)))/\Below w.heap.size w w':=by
 obtain⟨a0,a1,a2,a3,u0,u1,u2,u3,ea,na⟩:=wv_parts x;obtain⟨b0,b1,b2,b3,v0,v1,v2,v3,eb,nb⟩:=wv_parts y;obtain⟨s0,c1,k1,l0,e0,h0⟩:=sub64_ex0 a0 b0 u0 v0;obtain⟨s1,c2,k2,l1,e1,h1⟩:=sub64_ex a1 b1 c1 u1 v1 k1;obtain⟨s2,c3,k3,l2,e2,h2⟩:=sub64_ex a2 b2 c2 u2 v2 k2;obtain⟨s3,c4,k4,l3,e3,h3⟩:=sub64_ex a3 b3 c3 u3 v3 k3;have hs:n4 s0 s1 s2 s3+y%2^256=x%2^256+2^256*c4:=by rw[<- na,<- nb];unfold n4;omega
 rw[ea,eb];refine(sub_walk a0 a1 a2 a3 b0 b1 b2 b3 s0 c1 s1 c2 s2 c3 s3 c4 w h0 h1 h2 h3).mono fun e w' ⟨he,hb⟩=>⟨?_,hb⟩
 rw[he,<- wv_n4 l0 l1 l2 l3];rw[wv_congr (x:=n4 s0 s1 s2 s3) (y:=x+(2^256 - y%2^256)) (by omega)]
open Go.RowKit
theorem index4_0(v0 v1 v2 v3:Value)(w:World):(Instr.index 24 (.agg #[v0,v1,v2,v3]) (.int .i64 0)).run Try.prog w=.ok v0 w:=by kernel_rfl
theorem index4_1(v0 v1 v2 v3:Value)(w:World):(Instr.index 24 (.agg #[v0,v1,v2,v3]) (.int .i64 1)).run Try.prog w=.ok v1 w:=by kernel_rfl
theorem index4_2(v0 v1 v2 v3:Value)(w:World):(Instr.index 24 (.agg #[v0,v1,v2,v3]) (.int .i64 2)).run Try.prog w=.ok v2 w:=by kernel_rfl
theorem index4_3(v0 v1 v2 v3:Value)(w:World):(Instr.index 24 (.agg #[v0,v1,v2,v3]) (.int .i64 3)).run Try.prog w=.ok v3 w:=by kernel_rfl
theorem mul64_ex(x y:Nat)(hx:x<18446744073709551616)(hy:y<18446744073709551616) :
  ∃ h l:Nat,h<18446744073709551615/\l<18446744073709551616/\l+18446744073709551616*h=x*y /\
  ∀ w,Calls Try.prog 111 #[.int .u64 x,.int .u64 y] w fun e w'=>e=.returned (.tuple #[.int .u64 h,.int .u64 l])/\w=w':=by
 have hm:x*y<=18446744073709551615*18446744073709551615:=Nat.mul_le_mul (by omega) (by omega);refine⟨x*y / 18446744073709551616,x*y%18446744073709551616,by omega,by omega,by omega,fun w=>(Try.bits_Mul64 x y hx hy w).mono fun e w' ⟨he,hw⟩=>⟨he,hw.symm⟩⟩
theorem mulAdd_walk(x y m c h l s0 d0 s1 d1:Nat)(w:World)
  (hM:∀ w,Calls Try.prog 111 #[.int .u64 x,.int .u64 y] w fun e w'=>e=.returned (.tuple #[.int .u64 h,.int .u64 l])/\w=w')
  (h0:∀ w,(callFunc 80 #[.int .u64 l,.int .u64 m,.int .u64 0]).run Try.prog w=.ok (.value (.tuple #[.int .u64 s0,.int .u64 d0])) w)
  (h1:∀ w,(callFunc 80 #[.int .u64 s0,.int .u64 c,.int .u64 0]).run Try.prog w=.ok (.value (.tuple #[.int .u64 s1,.int .u64 d1])) w)
  (b1:(h:Int)+d0<=18446744073709551615) (b2:(h:Int)+d0+d1<=18446744073709551615) :
  Calls Try.prog 106 #[.int .u64 x,.int .u64 y,.int .u64 m,.int .u64 c] w fun e w'=>e=.returned (.tuple #[.int .u64 s1,.int .u64 ((h+d0+d1:Nat):Int)])/\w=w':=by
 go_enter Try.func106,Try.ntmps106
 go_wp2_with fail
 refine(hM _).mono ?_;rintro e w' ⟨rfl,rfl⟩;go_wp2
 go_ret2
 exact⟨by simp,rfl⟩
theorem mulAdd_ex(x y m c:Nat)(hx:x<18446744073709551616)(hy:y<18446744073709551616)(hm:m<18446744073709551616)(hc:c<18446744073709551616) :
  ∃ l h:Nat,l<18446744073709551616/\h<18446744073709551616/\l+18446744073709551616*h=x*y+m+c /\
   ∀ w,Calls Try.prog 106 #[.int .u64 x,.int .u64 y,.int .u64 m,.int .u64 c] w fun e w'=>e=.returned (.tuple #[.int .u64 l,.int .u64 h])/\w=w':=by
 obtain⟨h,l,lh,ll,e,hM⟩:=mul64_ex x y hx hy;obtain⟨s0,d0,k0,l0,e0,h0⟩:=add64_ex0 l m ll hm;obtain⟨s1,d1,k1,l1,e1,h1⟩:=add64_ex0 s0 c l0 hc;have hb:x*y<=18446744073709551615*18446744073709551615:=Nat.mul_le_mul (by omega) (by omega);have ht:s1+18446744073709551616*(h+d0+d1)=x*y+m+c:=by omega
 have hh:h+d0+d1<18446744073709551616:=by omega
 exact⟨s1,h+d0+d1,l1,hh,ht,fun w=>mulAdd_walk x y m c h l s0 d0 s1 d1 w hM h0 h1 (by omega) (by omega)⟩
open Go.RowKit
theorem add_any(x y:Nat)(w:World) :
  Calls Try.prog 42 #[wv x,wv y] w fun e w'=>e=.returned (wv (x+y))/\Below w.heap.size w w':=by
 obtain⟨a0,a1,a2,a3,u0,u1,u2,u3,ea,na⟩:=wv_parts x;obtain⟨b0,b1,b2,b3,v0,v1,v2,v3,eb,nb⟩:=wv_parts y;obtain⟨s0,s1,s2,s3,l0,l1,l2,l3,es,ns⟩:=wv_parts (x+y);have hc:=fun w=>addCarry_any x y w;rw[ea,eb,es]at hc;rw[ea,eb,es];clear ea eb es;generalize ((x%2^256+y%2^256) / 2^256)=c at hc;clear na nb ns;go_enter Try.func42,Try.ntmps42
 go_wp2_with fail
 refine(hc _).mono ?_;rintro e w' ⟨rfl,hb⟩;obtain⟨⟨q0,q1,q2,q3⟩,⟨f0,f1,f2,f3⟩,hz,hb'⟩:=after4 (w:=w) (B:=w.heap.size) (w.heap.size+1+1) hb (by go_grown) (by simp;omega) (by simp) (by go_cell) (by go_cell) (by go_cell) (by go_cell) (by go_cell) (by go_cell) (by go_cell) (by go_cell);clear hb;go_wp2;refine bodyPost_ret (by simp[results,Try.results42,go_sem,hz,q0,q1,q2,q3];try rfl) rfl ⟨rfl,?_⟩;go_grown
open Go.RowKit
theorem product_walk(a0 a1 a2 a3 b0 b1 b2 b3 p00 c00 p01 c01 p02 c02 p03 c03 p10 c10 p11 c11 p12 c12 p13 c13 p20 c20 p21 c21 p22 c22 p23 c23 p30 c30 p31 c31 p32 c32 p33 c33:Nat)(w:World)
  (h00:∀ w,Calls Try.prog 106 #[.int .u64 a0,.int .u64 b0,.int .u64 0,.int .u64 0] w fun e w'=>e=.returned (.tuple #[.int .u64 p00,.int .u64 c00])/\w=w')
  (h01:∀ w,Calls Try.prog 106 #[.int .u64 a0,.int .u64 b1,.int .u64 0,.int .u64 c00] w fun e w'=>e=.returned (.tuple #[.int .u64 p01,.int .u64 c01])/\w=w')
  (h02:∀ w,Calls Try.prog 106 #[.int .u64 a0,.int .u64 b2,.int .u64 0,.int .u64 c01] w fun e w'=>e=.returned (.tuple #[.int .u64 p02,.int .u64 c02])/\w=w')
  (h03:∀ w,Calls Try.prog 106 #[.int .u64 a0,.int .u64 b3,.int .u64 0,.int .u64 c02] w fun e w'=>e=.returned (.tuple #[.int .u64 p03,.int .u64 c03])/\w=w')
  (h10:∀ w,Calls Try.prog 106 #[.int .u64 a1,.int .u64 b0,.int .u64 p01,.int .u64 0] w fun e w'=>e=.returned (.tuple #[.int .u64 p10,.int .u64 c10])/\w=w')
  (h11:∀ w,Calls Try.prog 106 #[.int .u64 a1,.int .u64 b1,.int .u64 p02,.int .u64 c10] w fun e w'=>e=.returned (.tuple #[.int .u64 p11,.int .u64 c11])/\w=w')
  (h12:∀ w,Calls Try.prog 106 #[.int .u64 a1,.int .u64 b2,.int .u64 p03,.int .u64 c11] w fun e w'=>e=.returned (.tuple #[.int .u64 p12,.int .u64 c12])/\w=w')
  (h13:∀ w,Calls Try.prog 106 #[.int .u64 a1,.int .u64 b3,.int .u64 c03,.int .u64 c12] w fun e w'=>e=.returned (.tuple #[.int .u64 p13,.int .u64 c13])/\w=w')
  (h20:∀ w,Calls Try.prog 106 #[.int .u64 a2,.int .u64 b0,.int .u64 p11,.int .u64 0] w fun e w'=>e=.returned (.tuple #[.int .u64 p20,.int .u64 c20])/\w=w')
  (h21:∀ w,Calls Try.prog 106 #[.int .u64 a2,.int .u64 b1,.int .u64 p12,.int .u64 c20] w fun e w'=>e=.returned (.tuple #[.int .u64 p21,.int .u64 c21])/\w=w')
  (h22:∀ w,Calls Try.prog 106 #[.int .u64 a2,.int .u64 b2,.int .u64 p13,.int .u64 c21] w fun e w'=>e=.returned (.tuple #[.int .u64 p22,.int .u64 c22])/\w=w')
  (h23:∀ w,Calls Try.prog 106 #[.int .u64 a2,.int .u64 b3,.int .u64 c13,.int .u64 c22] w fun e w'=>e=.returned (.tuple #[.int .u64 p23,.int .u64 c23])/\w=w')
  (h30:∀ w,Calls Try.prog 106 #[.int .u64 a3,.int .u64 b0,.int .u64 p21,.int .u64 0] w fun e w'=>e=.returned (.tuple #[.int .u64 p30,.int .u64 c30])/\w=w')
  (h31:∀ w,Calls Try.prog 106 #[.int .u64 a3,.int .u64 b1,.int .u64 p22,.int .u64 c30] w fun e w'=>e=.returned (.tuple #[.int .u64 p31,.int .u64 c31])/\w=w')
  (h32:∀ w,Calls Try.prog 106 #[.int .u64 a3,.int .u64 b2,.int .u64 p23,.int .u64 c31] w fun e w'=>e=.returned (.tuple #[.int .u64 p32,.int .u64 c32])/\w=w')
  (h33:∀ w,Calls Try.prog 106 #[.int .u64 a3,.int .u64 b3,.int .u64 c23,.int .u64 c32] w fun e w'=>e=.returned (.tuple #[.int .u64 p33,.int .u64 c33])/\w=w') :
  Calls Try.prog 93 #[.agg #[.int .u64 a0,.int .u64 a1,.int .u64 a2,.int .u64 a3],.agg #[.int .u64 b0,.int .u64 b1,.int .u64 b2,.int .u64 b3]] w fun e w' =>
   e=.returned (.agg #[.int .u64 p00,.int .u64 p10,.int .u64 p20,.int .u64 p30,.int .u64 p31,.int .u64 p32,.int .u64 p33,.int .u64 c33])/\Below w.heap.size w w':=by
 have ia0:=index4_0;have ia1:=index4_1;have ia2:=index4_2;have ia3:=index4_3;go_enter Try.func93,Try.ntmps93;go_wp2;refine wp_loop_rounds 5 ?_;rw[rounds_succ];go_wp2;refine wp_loop_rounds 5 ?_;rw[rounds_succ];go_wp2_with fail;refine(h00 _).mono ?_;rintro e w' ⟨rfl,rfl⟩;go_wp2;rw[rounds_succ];go_wp2_with fail;refine(h01 _).mono ?_;rintro e w' ⟨rfl,rfl⟩;go_wp2;rw[rounds_succ];go_wp2_with fail;refine(h02 _).mono ?_;rintro e w' ⟨rfl,rfl⟩;go_wp2;rw[rounds_succ];go_wp2_with fail;refine(h03 _).mono ?_;rintro e w' ⟨rfl,rfl⟩;go_wp2;rw[rounds_succ];go_wp2;rw[rounds_succ];go_wp2;refine wp_loop_rounds 5 ?_;rw[rounds_succ];go_wp2_with fail;refine(h10 _).mono ?_;rintro e w' ⟨rfl,rfl⟩;go_wp2;rw[rounds_succ];go_wp2_with fail;refine(h11 _).mono ?_;rintro e w' ⟨rfl,rfl⟩;go_wp2;rw[rounds_succ];go_wp2_with fail;refine(h12 _).mono ?_;rintro e w' ⟨rfl,rfl⟩;go_wp2;rw[rounds_succ];go_wp2_with fail;refine(h13 _).mono ?_;rintro e w' ⟨rfl,rfl⟩;go_wp2;rw[rounds_succ];go_wp2;rw[rounds_succ];go_wp2;refine wp_loop_rounds 5 ?_;rw[rounds_succ];go_wp2_with fail;refine(h20 _).mono ?_;rintro e w' ⟨rfl,rfl⟩;go_wp2;rw[rounds_succ];go_wp2_with fail;refine(h21 _).mono ?_;rintro e w' ⟨rfl,rfl⟩;go_wp2;rw[rounds_succ];go_wp2_with fail;refine(h22 _).mono ?_;rintro e w' ⟨rfl,rfl⟩;go_wp2;rw[rounds_succ];go_wp2_with fail;refine(h23 _).mono ?_;rintro e w' ⟨rfl,rfl⟩;go_wp2;rw[rounds_succ];go_wp2;rw[rounds_succ];go_wp2;refine wp_loop_rounds 5 ?_;rw[rounds_succ];go_wp2_with fail;refine(h30 _).mono ?_;rintro e w' ⟨rfl,rfl⟩;go_wp2;rw[rounds_succ];go_wp2_with fail;refine(h31 _).mono ?_;rintro e w' ⟨rfl,rfl⟩;go_wp2;rw[rounds_succ];go_wp2_with fail;refine(h32 _).mono ?_;rintro e w' ⟨rfl,rfl⟩;go_wp2;rw[rounds_succ];go_wp2_with fail;refine(h33 _).mono ?_;rintro e w' ⟨rfl,rfl⟩;go_wp2;rw[rounds_succ];go_wp2;rw[rounds_succ];go_wp2
 go_returns
 exact⟨rfl,by go_grown⟩
end Go.Proofs.Ytcmgphkjchicbaa
