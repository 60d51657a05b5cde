/- What word.Shl comes to, called with any words in any world: the word times a power of two. (Cut to what is reached, written closely: Bytes · Dg · Sum · ShiftNum · Shl · Word · Prod · Down · Shls.) -/
import Derived.Test.YtcmgphkjchicbaaR4
import Derived.Test.YtcmgphkjchicbaaR6
import Derived.Laws.Rows
import Derived.Laws.Tables
import Derived.Laws.CopyOwn
import Derived.Laws.Bits64b
import Derived.Laws.OwnMore
import Derived.Deep.AppendLies
import Derived.Test.YtcmgphkjchicbaaR3
import Derived.StillTailTactics
import Derived.Test.YtcmgphkjchicbaaR2
import Derived.BigQuiet
import Derived.WalkSmall
import Derived.OwnWalk
set_option linter.all false
set_option maxRecDepth 100000
set_option maxHeartbeats 8000000
namespace Go.Proofs.Ytcmgphkjchicbaa
open Go.RowKit
def pN(x p:Nat):Nat:=x%2^256 / 2^(64*p)%18446744073709551616
theorem pN_le(x p:Nat):pN x p<18446744073709551616:=by unfold pN;omega
theorem heap3(w:World)(A B C:Obj):(((w.alloc A).alloc B).alloc C).heap[w.heap.size]?=some A/\(((w.alloc A).alloc B).alloc C).heap[w.heap.size+1]?=some B/\(((w.alloc A).alloc B).alloc C).heap[w.heap.size+1+1]?=some C:=by
 show(((w.heap.push A).push B).push C)[w.heap.size]?=_/\(((w.heap.push A).push B).push C)[w.heap.size+1]?=_/\(((w.heap.push A).push B).push C)[w.heap.size+1+1]?=_;refine⟨?_,?_,?_⟩
 ·simp[Array.getElem?_push]
  omega
 ·have h:w.heap.size+1≠(((w.heap.push A).push B)).size:=by simp
  rw[Array.getElem?_push,if_neg h,Array.getElem?_push,if_pos (by simp)]
 ·rw[Array.getElem?_push,if_pos (by simp)]
theorem wpList_store_row{P:Program}{ops:Array Oper}{rest:List Oper}{o:Oper}{a:Act}{w:World}{Q:Exit->Act->World->Prop}(hgd:o.guard=none)(ty:TypeId)(x y:Operand)(ho:o.op=.store ty x y)
  (g:Nat) (cells:Array Value) (hx:a.eval x=.pointer (some ⟨g,0,none⟩)) (hy:a.eval y=.agg cells)
  (t:TypeId) (old:Array Value) (hg:w.heap[g]?=some (.cells old t (0,0))) (hi:(P.info? ty).map (·.size)=some cells.size)
  (hold:old.size=cells.size) (h1:cells.all (·.oneCell')=true)
  (h:wpList P ops Q rest (a.put o.dst undef) (w.setRow g cells)):wpList P ops Q (o::rest) a w :=
 wpList_plain hgd fun _ hK=>wp_store_row ty x y ho g cells hx hy t old hg hi hold h1 (hK _ _ h)
open Go.RowKit
theorem pow_split{s t:Nat}(h:s+t=64):2^s*2^t=18446744073709551616:=by rw[<- Nat.pow_add,h]
theorem cmb_up{p q s t:Nat}(hq:q<18446744073709551616)(h:s+t=64) :
  bits .or .u64 (IntKind.u64.wrap ((p:Int)*2^s)) ((q:Int) / 2^t)=((p*2^s%18446744073709551616+q / 2^t:Nat):Int):=by
 have hD:=pow_split h;have hT:0<2^t:=Nat.two_pow_pos t;have hqs:q / 2^t<2^s:=by rw[Nat.div_lt_iff_lt_mul hT,hD];exact hq
 have e1:IntKind.u64.wrap ((p:Int)*2^s)=((p*2^s%18446744073709551616:Nat):Int):=by
  rw[IntKind.wrap_u64];have:((p:Int)*2^s)=((p*2^s:Nat):Int):=by simp
  rw[this];omega
 have e2:((q:Int) / 2^t)=((q / 2^t:Nat):Int):=by simp
 have e3:p*2^s%18446744073709551616=2^s*(p%2^t):=by
  rw[<- hD,Nat.mul_comm p,Nat.mul_mod_mul_left]
 have hl:p*2^s%18446744073709551616<18446744073709551616:=Nat.mod_lt _ (by omega);have hr:q / 2^t<18446744073709551616:=Nat.lt_of_le_of_lt (Nat.div_le_self _ _) hq;rw[e1,e2,bits_or_u64_nat _ _ hl hr,e3,<- Nat.two_pow_add_eq_or_of_lt hqs]
theorem cmb_down{p q s t:Nat}(hp:p<18446744073709551616)(h:s+t=64) :
  bits .or .u64 ((p:Int) / 2^s) (IntKind.u64.wrap ((q:Int)*2^t))=((p / 2^s+q*2^t%18446744073709551616:Nat):Int):=by
 have hD:=pow_split h;have hS:0<2^s:=Nat.two_pow_pos s;have hps:p / 2^s<2^t:=by rw[Nat.div_lt_iff_lt_mul hS,Nat.mul_comm,hD];exact hp
 have e1:IntKind.u64.wrap ((q:Int)*2^t)=((q*2^t%18446744073709551616:Nat):Int):=by
  rw[IntKind.wrap_u64];have:((q:Int)*2^t)=((q*2^t:Nat):Int):=by simp
  rw[this];omega
 have e2:((p:Int) / 2^s)=((p / 2^s:Nat):Int):=by simp
 have e3:q*2^t%18446744073709551616=2^t*(q%2^s):=by
  rw[<- hD,Nat.mul_comm (2^s),Nat.mul_comm q,Nat.mul_mod_mul_left]
 have hl:q*2^t%18446744073709551616<18446744073709551616:=Nat.mod_lt _ (by omega);have hr:p / 2^s<18446744073709551616:=Nat.lt_of_le_of_lt (Nat.div_le_self _ _) hp;rw[e1,e2,bits_or_u64_nat _ _ hr hl,e3,Nat.or_comm,<- Nat.two_pow_add_eq_or_of_lt hps,Nat.add_comm]
theorem up_split{p s t:Nat}(h:s+t=64):p*2^s=p*2^s%18446744073709551616+18446744073709551616*(p / 2^t):=by
 have hD:=pow_split h;have hS:0<2^s:=Nat.two_pow_pos s;have e:p*2^s / 18446744073709551616=p / 2^t:=by
  rw[<- hD,Nat.mul_comm p,Nat.mul_div_mul_left _ _ hS]
 have:=Nat.div_add_mod (p*2^s) 18446744073709551616;rw[e]at this;omega
theorem cmb_lt{p q s t:Nat}(hq:q<18446744073709551616)(h:s+t=64):p*2^s%18446744073709551616+q / 2^t<18446744073709551616:=by
 have hD:=pow_split h;have hT:0<2^t:=Nat.two_pow_pos t;have hqs:q / 2^t<2^s:=by rw[Nat.div_lt_iff_lt_mul hT,hD];exact hq
 have e3:p*2^s%18446744073709551616=2^s*(p%2^t):=by
  rw[<- hD,Nat.mul_comm p,Nat.mul_mod_mul_left]
 have hm:p%2^t<2^t:=Nat.mod_lt _ hT;have:2^s*(p%2^t)+2^s<=2^s*2^t:=by
  rw[<- Nat.mul_succ];exact Nat.mul_le_mul_left _ hm
 omega
theorem n4_up(p0 p1 p2 p3:Nat){s t:Nat}(h:s+t=64) :
  n4 (p0*2^s%18446744073709551616+0 / 2^t) (p1*2^s%18446744073709551616+p0 / 2^t) (p2*2^s%18446744073709551616+p1 / 2^t) (p3*2^s%18446744073709551616+p2 / 2^t)
   + 115792089237316195423570985008687907853269984665640564039457584007913129639936*(p3 / 2^t)=n4 p0 p1 p2 p3*2^s:=by
 have h0:=up_split (p:=p0) h;have h1:=up_split (p:=p1) h;have h2:=up_split (p:=p2) h;have h3:=up_split (p:=p3) h;have e:n4 p0 p1 p2 p3*2^s=n4 (p0*2^s) (p1*2^s) (p2*2^s) (p3*2^s):=by unfold n4;grind
 rw[e,Nat.zero_div];unfold n4;generalize p0*2^s=c0 at *;generalize p1*2^s=c1 at *;generalize p2*2^s=c2 at *;generalize p3*2^s=c3 at *;omega
theorem n4_down(p0 p1 p2 p3 p4:Nat){s t:Nat}(h:s+t=64) :
  n4 (p0 / 2^s+p1*2^t%18446744073709551616) (p1 / 2^s+p2*2^t%18446744073709551616) (p2 / 2^s+p3*2^t%18446744073709551616) (p3 / 2^s+p4*2^t%18446744073709551616)
   = n4 p0 p1 p2 p3 / 2^s+6277101735386680763835789423207666416102355444464034512896*(p4*2^t%18446744073709551616):=by
 have hD:=pow_split h;have hS:0<2^s:=Nat.two_pow_pos s;have h1:=up_split (p:=p1) (s:=t) (t:=s) (by omega);have h2:=up_split (p:=p2) (s:=t) (t:=s) (by omega);have h3:=up_split (p:=p3) (s:=t) (t:=s) (by omega)
 -- the whole times 2^t,by parts
 have e:n4 p0 p1 p2 p3=p0+2^s*(p1*2^t+18446744073709551616*(p2*2^t)+340282366920938463463374607431768211456*(p3*2^t)):=by
  unfold n4;have:∀ p,18446744073709551616*p=2^s*(p*2^t):=fun p=>by rw[<- hD];grind
  have a1:=this p1;have a2:=this (18446744073709551616*p2);have a3:=this (340282366920938463463374607431768211456*p3);have b2:18446744073709551616*p2*2^t=18446744073709551616*(p2*2^t):=by grind
  have b3:340282366920938463463374607431768211456*p3*2^t=340282366920938463463374607431768211456*(p3*2^t):=by grind
  rw[b2]at a2;rw[b3]at a3;rw[Nat.mul_add,Nat.mul_add,<- a1,<- a2,<- a3];omega
 rw[e,Nat.add_mul_div_left _ _ hS];unfold n4;generalize p1*2^t=c1 at *;generalize p2*2^t=c2 at *;generalize p3*2^t=c3 at *;generalize p4*2^t=c4 at *;omega
open Go.RowKit
theorem part_neg(i:Int)(b:Nat)(h:i<0)(w:World):Calls Try.prog 107 #[.int .i64 i,.pointer (some ⟨b,0,none⟩)] w fun e w'=>e=.returned (.int .u64 0)/\w'=w:=by
 go_enter Try.func107,Try.ntmps107;go_wp2;go_ret;exact⟨rfl,rfl⟩
theorem part_at(i b:Nat)(v:Value)(h0:(0:Int)<=i)(h:(i:Int)<4)(w:World)(hc:w.cell? ⟨b,i,none⟩=some v):Calls Try.prog 107 #[.int .i64 i,.pointer (some ⟨b,0,none⟩)] w fun e w'=>e=.returned v/\w'=w:=by
 go_enter Try.func107,Try.ntmps107;go_wp2;go_ret;exact⟨rfl,rfl⟩
theorem region_still{P:Program}{id:Nat}{Q:Exit->Act->World->Prop}{a:Act}{w:World}{l:List Oper}(n:Nat)(hm:P.follows .mixedOrders=true)(hB:Region.lexTailB .any l.toArray n=true)
  (h:wpStill P l.toArray w.drew (fun a'=>wpList P l.toArray Q (l.drop n) a' w.drew) (l.take n) a):(Code.region id l.toArray true).wp P Q a w:=wp_region_still_tail n hm hB h
theorem shl_walk(k0 k1 k2 k3 a0 a1 a2 a3 pm p0 p1 p2 p3 s t:Nat)(wh jm j0 j1 j2 j3:Int)(h0:(0:Int)<=s)(h64:(s:Int)<64)
  (ht:IntKind.i64.wrap (64 - (s:Int))=(t:Int)) (ht64:(t:Int)<=64)
  (e0:IntKind.i64.wrap (-wh)=j0) (e1:IntKind.i64.wrap (1 - wh)=j1) (e2:IntKind.i64.wrap (2 - wh)=j2) (e3:IntKind.i64.wrap (3 - wh)=j3)
  (g0:IntKind.i64.wrap (j0 - 1)=jm) (g1:IntKind.i64.wrap (j1 - 1)=j0) (g2:IntKind.i64.wrap (j2 - 1)=j1) (g3:IntKind.i64.wrap (j3 - 1)=j2) (w:World)
  (hC:∀(b:Nat) (W:World),W.cell? ⟨b,0,none⟩=some (.int .u64 a0)->W.cell? ⟨b,1,none⟩=some (.int .u64 a1)->W.cell? ⟨b,2,none⟩=some (.int .u64 a2)->W.cell? ⟨b,3,none⟩=some (.int .u64 a3) ->
   (Calls Try.prog 107 #[.int .i64 jm,.pointer (some ⟨b,0,none⟩)] W fun e w'=>e=.returned (.int .u64 pm)/\w'=W) /\
   (Calls Try.prog 107 #[.int .i64 j0,.pointer (some ⟨b,0,none⟩)] W fun e w'=>e=.returned (.int .u64 p0)/\w'=W) /\
   (Calls Try.prog 107 #[.int .i64 j1,.pointer (some ⟨b,0,none⟩)] W fun e w'=>e=.returned (.int .u64 p1)/\w'=W) /\
   (Calls Try.prog 107 #[.int .i64 j2,.pointer (some ⟨b,0,none⟩)] W fun e w'=>e=.returned (.int .u64 p2)/\w'=W) /\
   (Calls Try.prog 107 #[.int .i64 j3,.pointer (some ⟨b,0,none⟩)] W fun e w'=>e=.returned (.int .u64 p3)/\w'=W))
  (hS:∀ w,Calls Try.prog 101 #[.agg #[.int .u64 k0,.int .u64 k1,.int .u64 k2,.int .u64 k3]] w fun e w'=>e=.returned (.tuple #[.int .i64 wh,.int .i64 s])/\Below w.heap.size w w') :
  Calls Try.prog 97 #[.agg #[.int .u64 k0,.int .u64 k1,.int .u64 k2,.int .u64 k3],.agg #[.int .u64 a0,.int .u64 a1,.int .u64 a2,.int .u64 a3]] w fun e w' =>
   e=.returned (.agg #[.int .u64 (bits .or .u64 (IntKind.u64.wrap ((p0:Int)*2^s)) ((pm:Int) / 2^t)),.int .u64 (bits .or .u64 (IntKind.u64.wrap ((p1:Int)*2^s)) ((p0:Int) / 2^t)),.int .u64 (bits .or .u64 (IntKind.u64.wrap ((p2:Int)*2^s)) ((p1:Int) / 2^t)),.int .u64 (bits .or .u64 (IntKind.u64.wrap ((p3:Int)*2^s)) ((p2:Int) / 2^t))])/\Below w.heap.size w w':=by
 have HC:=Lib.hid hC;clear hC;have G0:=Lib.hid g0;clear g0;have G1:=Lib.hid g1;clear g1;have G2:=Lib.hid g2;clear g2;have G3:=Lib.hid g3;clear g3;go_enter Try.func97,Try.ntmps97
 go_wp2_with fail
 refine(hS _).mono ?_;rintro e w1 ⟨rfl,hb⟩;obtain⟨x0,-,-⟩:=after1 (b:=w.heap.size+1) (i:=0) (v:=.int .u64 a0) hb (by simp) (by go_cell) (by go_cell);obtain⟨x1,-,-⟩:=after1 (b:=w.heap.size+1) (i:=1) (v:=.int .u64 a1) hb (by simp) (by go_cell) (by go_cell);obtain⟨x2,-,-⟩:=after1 (b:=w.heap.size+1) (i:=2) (v:=.int .u64 a2) hb (by simp) (by go_cell) (by go_cell);obtain⟨x3,-,-⟩:=after1 (b:=w.heap.size+1) (i:=3) (v:=.int .u64 a3) hb (by simp) (by go_cell) (by go_cell);obtain⟨⟨q0,q1,q2,q3⟩,⟨f0,f1,f2,f3⟩,hz,hb'⟩:=after4 (w:=w) (B:=w.heap.size) (w.heap.size+1+1) hb (by go_grown) (by simp;omega) (by simp) (by go_cell) (by go_cell) (by go_cell) (by go_cell) (by go_cell) (by go_cell) (by go_cell) (by go_cell);clear hb;have hz1:w.heap.size+1<w1.heap.size:=by omega
 go_wp2;refine wp_loop_rounds 5 ?_;rw[rounds_succ];go_wp2;refine region_still 19 (by kernel_rfl) (by kernel_rfl) ?_;simp only[List.take_succ_cons,List.take_zero,List.drop_succ_cons,List.drop_zero]
 repeat still_step
 still_call (HC.out (w.heap.size+1) _ (by go_cell) (by go_cell) (by go_cell) (by go_cell)).2.1
 have g:=G0.out
 repeat still_step
 clear g
 still_call (HC.out (w.heap.size+1) _ (by go_cell) (by go_cell) (by go_cell) (by go_cell)).1
 repeat still_step
 refine wpStill_nil ?_;go_wp2;rw[rounds_succ];go_wp2;refine region_still 19 (by kernel_rfl) (by kernel_rfl) ?_;simp only[List.take_succ_cons,List.take_zero,List.drop_succ_cons,List.drop_zero]
 repeat still_step
 still_call (HC.out (w.heap.size+1) _ (by go_cell) (by go_cell) (by go_cell) (by go_cell)).2.2.1
 have g:=G1.out
 repeat still_step
 clear g
 still_call (HC.out (w.heap.size+1) _ (by go_cell) (by go_cell) (by go_cell) (by go_cell)).2.1
 repeat still_step
 refine wpStill_nil ?_;go_wp2;rw[rounds_succ];go_wp2;refine region_still 19 (by kernel_rfl) (by kernel_rfl) ?_;simp only[List.take_succ_cons,List.take_zero,List.drop_succ_cons,List.drop_zero]
 repeat still_step
 still_call (HC.out (w.heap.size+1) _ (by go_cell) (by go_cell) (by go_cell) (by go_cell)).2.2.2.1
 have g:=G2.out
 repeat still_step
 clear g
 still_call (HC.out (w.heap.size+1) _ (by go_cell) (by go_cell) (by go_cell) (by go_cell)).2.2.1
 repeat still_step
 refine wpStill_nil ?_;go_wp2;rw[rounds_succ];go_wp2;refine region_still 19 (by kernel_rfl) (by kernel_rfl) ?_;simp only[List.take_succ_cons,List.take_zero,List.drop_succ_cons,List.drop_zero]
 repeat still_step
 still_call (HC.out (w.heap.size+1) _ (by go_cell) (by go_cell) (by go_cell) (by go_cell)).2.2.2.2
 have g:=G3.out
 repeat still_step
 clear g
 still_call (HC.out (w.heap.size+1) _ (by go_cell) (by go_cell) (by go_cell) (by go_cell)).2.2.2.1
 repeat still_step
 refine wpStill_nil ?_;go_wp2;rw[rounds_succ];go_wp2;refine bodyPost_ret (by simp[results,Try.results97,go_sem,hz,q0,q1,q2,q3];try rfl) rfl ⟨rfl,?_⟩;go_grown
open Go.RowKit
theorem down_at(i b c:Nat)(v:Value)(h0:(0:Int)<=i)(h:(i:Int)<4)(w:World)(hc:w.cell? ⟨b,i,none⟩=some v):Calls Try.prog 102 #[.int .i64 i,.pointer (some ⟨b,0,none⟩),.pointer (some ⟨c,0,none⟩)] w fun e w'=>e=.returned v/\w'=w:=by
 go_enter Try.func102,Try.ntmps102;go_wp2;go_ret;exact⟨rfl,rfl⟩
theorem down_past(i:Int)(b c:Nat)(v:Value)(h:4<=i)(w:World)(hc:w.cell? ⟨c,0,none⟩=some v):Calls Try.prog 102 #[.int .i64 i,.pointer (some ⟨b,0,none⟩),.pointer (some ⟨c,0,none⟩)] w fun e w'=>e=.returned v/\w'=w:=by
 have h':¬i<4:=by omega
 go_enter Try.func102,Try.ntmps102;go_wp2;go_ret;exact⟨rfl,rfl⟩
theorem down_walk(k0 k1 k2 k3 a0 a1 a2 a3 f p0 p1 p2 p3 p4 s t:Nat)(wh j0 j1 j2 j3 j4:Int)(h0:(0:Int)<=s)(h64:(s:Int)<64)
  (ht:IntKind.i64.wrap (64 - (s:Int))=(t:Int)) (ht64:(t:Int)<=64)
  (e0:IntKind.i64.wrap wh=j0) (e1:IntKind.i64.wrap (1+wh)=j1) (e2:IntKind.i64.wrap (2+wh)=j2) (e3:IntKind.i64.wrap (3+wh)=j3)
  (g0:IntKind.i64.wrap (j0+1)=j1) (g1:IntKind.i64.wrap (j1+1)=j2) (g2:IntKind.i64.wrap (j2+1)=j3) (g3:IntKind.i64.wrap (j3+1)=j4) (w:World)
  (hC:∀(b c:Nat) (W:World),W.cell? ⟨b,0,none⟩=some (.int .u64 a0)->W.cell? ⟨b,1,none⟩=some (.int .u64 a1)->W.cell? ⟨b,2,none⟩=some (.int .u64 a2)->W.cell? ⟨b,3,none⟩=some (.int .u64 a3)->W.cell? ⟨c,0,none⟩=some (.int .u64 f) ->
   (Calls Try.prog 102 #[.int .i64 j0,.pointer (some ⟨b,0,none⟩),.pointer (some ⟨c,0,none⟩)] W fun e w'=>e=.returned (.int .u64 p0)/\w'=W) /\
   (Calls Try.prog 102 #[.int .i64 j1,.pointer (some ⟨b,0,none⟩),.pointer (some ⟨c,0,none⟩)] W fun e w'=>e=.returned (.int .u64 p1)/\w'=W) /\
   (Calls Try.prog 102 #[.int .i64 j2,.pointer (some ⟨b,0,none⟩),.pointer (some ⟨c,0,none⟩)] W fun e w'=>e=.returned (.int .u64 p2)/\w'=W) /\
   (Calls Try.prog 102 #[.int .i64 j3,.pointer (some ⟨b,0,none⟩),.pointer (some ⟨c,0,none⟩)] W fun e w'=>e=.returned (.int .u64 p3)/\w'=W) /\
   (Calls Try.prog 102 #[.int .i64 j4,.pointer (some ⟨b,0,none⟩),.pointer (some ⟨c,0,none⟩)] W fun e w'=>e=.returned (.int .u64 p4)/\w'=W))
  (hS:∀ w,Calls Try.prog 101 #[.agg #[.int .u64 k0,.int .u64 k1,.int .u64 k2,.int .u64 k3]] w fun e w'=>e=.returned (.tuple #[.int .i64 wh,.int .i64 s])/\Below w.heap.size w w') :
  Calls Try.prog 83 #[.agg #[.int .u64 k0,.int .u64 k1,.int .u64 k2,.int .u64 k3],.agg #[.int .u64 a0,.int .u64 a1,.int .u64 a2,.int .u64 a3],.int .u64 f] w fun e w' =>
   e=.returned (.agg #[.int .u64 (bits .or .u64 ((p0:Int) / 2^s) (IntKind.u64.wrap ((p1:Int)*2^t))),.int .u64 (bits .or .u64 ((p1:Int) / 2^s) (IntKind.u64.wrap ((p2:Int)*2^t))),.int .u64 (bits .or .u64 ((p2:Int) / 2^s) (IntKind.u64.wrap ((p3:Int)*2^t))),.int .u64 (bits .or .u64 ((p3:Int) / 2^s) (IntKind.u64.wrap ((p4:Int)*2^t)))])/\Below w.heap.size w w':=by
 have HC:=Lib.hid hC;clear hC;have E0:=Lib.hid e0;clear e0;have G0:=Lib.hid g0;clear g0;have G1:=Lib.hid g1;clear g1;have G2:=Lib.hid g2;clear g2;have G3:=Lib.hid g3;clear g3;go_enter Try.func83,Try.ntmps83
 go_wp2_with fail
 refine(hS _).mono ?_;rintro e w1 ⟨rfl,hb⟩;obtain⟨x0,-,-⟩:=after1 (b:=w.heap.size+1) (i:=0) (v:=.int .u64 a0) hb (by simp) (by go_cell) (by go_cell);obtain⟨x1,-,-⟩:=after1 (b:=w.heap.size+1) (i:=1) (v:=.int .u64 a1) hb (by simp) (by go_cell) (by go_cell);obtain⟨x2,-,-⟩:=after1 (b:=w.heap.size+1) (i:=2) (v:=.int .u64 a2) hb (by simp) (by go_cell) (by go_cell);obtain⟨x3,-,-⟩:=after1 (b:=w.heap.size+1) (i:=3) (v:=.int .u64 a3) hb (by simp) (by go_cell) (by go_cell);obtain⟨x4,-,-⟩:=after1 (b:=w.heap.size+1+1) (i:=0) (v:=.int .u64 f) hb (by simp) (by go_cell) (by go_cell);obtain⟨⟨q0,q1,q2,q3⟩,⟨f0,f1,f2,f3⟩,hz,hb'⟩:=after4 (w:=w) (B:=w.heap.size) (w.heap.size+1+1+1) hb (by go_grown) (by simp;omega) (by simp) (by go_cell) (by go_cell) (by go_cell) (by go_cell) (by go_cell) (by go_cell) (by go_cell) (by go_cell);clear hb;have hz1:w.heap.size+1<w1.heap.size:=by omega
 have hz2:w.heap.size+1+1<w1.heap.size:=by omega
 go_wp2;refine wp_loop_rounds 5 ?_;rw[rounds_succ];go_wp2;refine region_still 19 (by kernel_rfl) (by kernel_rfl) ?_;simp only[List.take_succ_cons,List.take_zero,List.drop_succ_cons,List.drop_zero];have e0:=E0.out
 repeat still_step
 still_call (HC.out (w.heap.size+1) (w.heap.size+1+1) _ (by go_cell) (by go_cell) (by go_cell) (by go_cell) (by go_cell)).1
 have g:=G0.out
 repeat still_step
 clear g;clear e0
 still_call (HC.out (w.heap.size+1) (w.heap.size+1+1) _ (by go_cell) (by go_cell) (by go_cell) (by go_cell) (by go_cell)).2.1
 repeat still_step
 refine wpStill_nil ?_;go_wp2;rw[rounds_succ];go_wp2;refine region_still 19 (by kernel_rfl) (by kernel_rfl) ?_;simp only[List.take_succ_cons,List.take_zero,List.drop_succ_cons,List.drop_zero]
 repeat still_step
 still_call (HC.out (w.heap.size+1) (w.heap.size+1+1) _ (by go_cell) (by go_cell) (by go_cell) (by go_cell) (by go_cell)).2.1
 have g:=G1.out
 repeat still_step
 clear g
 still_call (HC.out (w.heap.size+1) (w.heap.size+1+1) _ (by go_cell) (by go_cell) (by go_cell) (by go_cell) (by go_cell)).2.2.1
 repeat still_step
 refine wpStill_nil ?_;go_wp2;rw[rounds_succ];go_wp2;refine region_still 19 (by kernel_rfl) (by kernel_rfl) ?_;simp only[List.take_succ_cons,List.take_zero,List.drop_succ_cons,List.drop_zero]
 repeat still_step
 still_call (HC.out (w.heap.size+1) (w.heap.size+1+1) _ (by go_cell) (by go_cell) (by go_cell) (by go_cell) (by go_cell)).2.2.1
 have g:=G2.out
 repeat still_step
 clear g
 still_call (HC.out (w.heap.size+1) (w.heap.size+1+1) _ (by go_cell) (by go_cell) (by go_cell) (by go_cell) (by go_cell)).2.2.2.1
 repeat still_step
 refine wpStill_nil ?_;go_wp2;rw[rounds_succ];go_wp2;refine region_still 19 (by kernel_rfl) (by kernel_rfl) ?_;simp only[List.take_succ_cons,List.take_zero,List.drop_succ_cons,List.drop_zero]
 repeat still_step
 still_call (HC.out (w.heap.size+1) (w.heap.size+1+1) _ (by go_cell) (by go_cell) (by go_cell) (by go_cell) (by go_cell)).2.2.2.1
 have g:=G3.out
 repeat still_step
 clear g
 still_call (HC.out (w.heap.size+1) (w.heap.size+1+1) _ (by go_cell) (by go_cell) (by go_cell) (by go_cell) (by go_cell)).2.2.2.2
 repeat still_step
 refine wpStill_nil ?_;go_wp2;rw[rounds_succ];go_wp2;refine bodyPost_ret (by simp[results,Try.results83,go_sem,hz,q0,q1,q2,q3];try rfl) rfl ⟨rfl,?_⟩;go_grown
open Go.RowKit
theorem shl_parts(k0 k1 k2 k3 a0 a1 a2 a3 p0 p1 p2 p3 s t:Nat)(wh jm j0 j1 j2 j3:Int)(hst:s+t=64)(hs:s<64)
  (u0:p0<18446744073709551616) (u1:p1<18446744073709551616) (u2:p2<18446744073709551616)
  (e0:IntKind.i64.wrap (-wh)=j0) (e1:IntKind.i64.wrap (1 - wh)=j1) (e2:IntKind.i64.wrap (2 - wh)=j2) (e3:IntKind.i64.wrap (3 - wh)=j3)
  (g0:IntKind.i64.wrap (j0 - 1)=jm) (g1:IntKind.i64.wrap (j1 - 1)=j0) (g2:IntKind.i64.wrap (j2 - 1)=j1) (g3:IntKind.i64.wrap (j3 - 1)=j2) (w:World)
  (hC:∀(b:Nat) (W:World),W.cell? ⟨b,0,none⟩=some (.int .u64 a0)->W.cell? ⟨b,1,none⟩=some (.int .u64 a1)->W.cell? ⟨b,2,none⟩=some (.int .u64 a2)->W.cell? ⟨b,3,none⟩=some (.int .u64 a3) ->
   (Calls Try.prog 107 #[.int .i64 jm,.pointer (some ⟨b,0,none⟩)] W fun e w'=>e=.returned (.int .u64 0)/\w'=W) /\
   (Calls Try.prog 107 #[.int .i64 j0,.pointer (some ⟨b,0,none⟩)] W fun e w'=>e=.returned (.int .u64 p0)/\w'=W) /\
   (Calls Try.prog 107 #[.int .i64 j1,.pointer (some ⟨b,0,none⟩)] W fun e w'=>e=.returned (.int .u64 p1)/\w'=W) /\
   (Calls Try.prog 107 #[.int .i64 j2,.pointer (some ⟨b,0,none⟩)] W fun e w'=>e=.returned (.int .u64 p2)/\w'=W) /\
   (Calls Try.prog 107 #[.int .i64 j3,.pointer (some ⟨b,0,none⟩)] W fun e w'=>e=.returned (.int .u64 p3)/\w'=W))
  (hS:∀ w,Calls Try.prog 101 #[.agg #[.int .u64 k0,.int .u64 k1,.int .u64 k2,.int .u64 k3]] w fun e w'=>e=.returned (.tuple #[.int .i64 wh,.int .i64 s])/\Below w.heap.size w w') :
  Calls Try.prog 97 #[.agg #[.int .u64 k0,.int .u64 k1,.int .u64 k2,.int .u64 k3],.agg #[.int .u64 a0,.int .u64 a1,.int .u64 a2,.int .u64 a3]] w fun e w' =>
   e=.returned (wv (n4 p0 p1 p2 p3*2^s))/\Below w.heap.size w w':=by
 have ht:IntKind.i64.wrap (64 - (s:Int))=(t:Int):=by rw[IntKind.wrap_i64];omega
 have h:=shl_walk k0 k1 k2 k3 a0 a1 a2 a3 0 p0 p1 p2 p3 s t wh jm j0 j1 j2 j3 (by omega) (by omega) ht (by omega) e0 e1 e2 e3 g0 g1 g2 g3 w hC hS;rw[cmb_up (p:=p0) (q:=0) (by omega) hst,cmb_up (p:=p1) (q:=p0) u0 hst,cmb_up (p:=p2) (q:=p1) u1 hst,cmb_up (p:=p3) (q:=p2) u2 hst,
  <- wv_n4 (cmb_lt (by omega) hst) (cmb_lt u0 hst) (cmb_lt u1 hst) (cmb_lt u2 hst),wv_congr (y:=n4 p0 p1 p2 p3*2^s)]at h
 ·exact h
 ·rw[<- n4_up p0 p1 p2 p3 hst,Nat.add_mul_mod_self_left]
-- WHAT Shl COMES TO.
theorem shl_any(k x:Nat)(w:World) :
  Calls Try.prog 97 #[wv k,wv x] w fun e w'=>e=.returned (wv (x*2^min (k%2^256) 256))/\Below w.heap.size w w':=by
 have hS:=fun w=>steps_any k w;obtain⟨k0,k1,k2,k3,-,-,-,-,ek,-⟩:=wv_parts k;obtain⟨a0,a1,a2,a3,u0,u1,u2,u3,ea,na⟩:=wv_parts x;generalize hm:min (k%2^256) 256=m at *;have hm256:m<=256:=by omega
 clear hm;have hx:∀ y z:Nat,y%2^256=n4 a0 a1 a2 a3*z%2^256->z=2^m->wv y=wv (x*2^m):=by
  intro y z h hz;refine wv_congr ?_;rw[h,hz,na,Nat.mod_mul_mod]
 rw[ek]at hS;rw[ek,ea];have hst:m%64+(64 - m%64)=64:=by omega
 have hs:m%64<64:=by omega
 have hw:m / 64=0\/m / 64=1\/m / 64=2\/m / 64=3\/m / 64=4:=by omega
 have neg:=fun(i:Int) (hi:i<0) (b:Nat) (W:World)=>part_neg i b hi W;rcases hw with h | h | h | h | h
 all_goals rw[h]at hS
 ·rw[<- hx (n4 a0 a1 a2 a3*2^(m%64)) (2^(m%64)) rfl (by congr 1;omega)]
  exact shl_parts k0 k1 k2 k3 a0 a1 a2 a3 a0 a1 a2 a3 (m%64) (64 - m%64) 0 (-1) 0 1 2 3 hst hs u0 u1 u2 (by decide) (by decide) (by decide) (by decide) (by decide) (by decide) (by decide) (by decide) w
   (fun b W c0 c1 c2 c3=>⟨neg _ (by omega) b W,part_at 0 b _ (by omega) (by omega) W c0,part_at 1 b _ (by omega) (by omega) W c1,part_at 2 b _ (by omega) (by omega) W c2,part_at 3 b _ (by omega) (by omega) W c3⟩) hS
 ·rw[<- hx (n4 0 a0 a1 a2*2^(m%64)) (18446744073709551616*2^(m%64)) (by rw[<- Nat.mul_assoc,<- Nat.mod_mul_mod,<- Nat.mod_mul_mod (n4 a0 a1 a2 a3*_)];congr 2;unfold n4;omega) (by rw[show(18446744073709551616:Nat)=2^64 by decide,<- Nat.pow_add];congr 1;omega)]
  exact shl_parts k0 k1 k2 k3 a0 a1 a2 a3 0 a0 a1 a2 (m%64) (64 - m%64) 1 (-2) (-1) 0 1 2 hst hs (by omega) u0 u1 (by decide) (by decide) (by decide) (by decide) (by decide) (by decide) (by decide) (by decide) w
   (fun b W c0 c1 c2 c3=>⟨neg _ (by omega) b W,neg _ (by omega) b W,part_at 0 b _ (by omega) (by omega) W c0,part_at 1 b _ (by omega) (by omega) W c1,part_at 2 b _ (by omega) (by omega) W c2⟩) hS
 ·rw[<- hx (n4 0 0 a0 a1*2^(m%64)) (340282366920938463463374607431768211456*2^(m%64)) (by rw[<- Nat.mul_assoc,<- Nat.mod_mul_mod,<- Nat.mod_mul_mod (n4 a0 a1 a2 a3*_)];congr 2;unfold n4;omega) (by rw[show(340282366920938463463374607431768211456:Nat)=2^128 by decide,<- Nat.pow_add];congr 1;omega)]
  exact shl_parts k0 k1 k2 k3 a0 a1 a2 a3 0 0 a0 a1 (m%64) (64 - m%64) 2 (-3) (-2) (-1) 0 1 hst hs (by omega) (by omega) u0 (by decide) (by decide) (by decide) (by decide) (by decide) (by decide) (by decide) (by decide) w
   (fun b W c0 c1 c2 c3=>⟨neg _ (by omega) b W,neg _ (by omega) b W,neg _ (by omega) b W,part_at 0 b _ (by omega) (by omega) W c0,part_at 1 b _ (by omega) (by omega) W c1⟩) hS
 ·rw[<- hx (n4 0 0 0 a0*2^(m%64)) (6277101735386680763835789423207666416102355444464034512896*2^(m%64)) (by rw[<- Nat.mul_assoc,<- Nat.mod_mul_mod,<- Nat.mod_mul_mod (n4 a0 a1 a2 a3*_)];congr 2;unfold n4;omega) (by rw[show(6277101735386680763835789423207666416102355444464034512896:Nat)=2^192 by decide,<- Nat.pow_add];congr 1;omega)]
  exact shl_parts k0 k1 k2 k3 a0 a1 a2 a3 0 0 0 a0 (m%64) (64 - m%64) 3 (-4) (-3) (-2) (-1) 0 hst hs (by omega) (by omega) (by omega) (by decide) (by decide) (by decide) (by decide) (by decide) (by decide) (by decide) (by decide) w
   (fun b W c0 c1 c2 c3=>⟨neg _ (by omega) b W,neg _ (by omega) b W,neg _ (by omega) b W,neg _ (by omega) b W,part_at 0 b _ (by omega) (by omega) W c0⟩) hS
 ·have hm0:m%64=0:=by omega
  rw[<- hx (n4 0 0 0 0*2^(m%64)) (2^256*2^(m%64)) (by rw[<- Nat.mul_assoc,<- Nat.mod_mul_mod,<- Nat.mod_mul_mod (n4 a0 a1 a2 a3*_)];congr 2;unfold n4;omega) (by rw[show(2^256:Nat)=2^256 by decide,<- Nat.pow_add];congr 1;omega)];exact shl_parts k0 k1 k2 k3 a0 a1 a2 a3 0 0 0 0 (m%64) (64 - m%64) 4 (-5) (-4) (-3) (-2) (-1) hst hs (by omega) (by omega) (by omega) (by decide) (by decide) (by decide) (by decide) (by decide) (by decide) (by decide) (by decide) w
   (fun b W c0 c1 c2 c3=>⟨neg _ (by omega) b W,neg _ (by omega) b W,neg _ (by omega) b W,neg _ (by omega) b W,neg _ (by omega) b W⟩) hS
end Go.Proofs.Ytcmgphkjchicbaa
