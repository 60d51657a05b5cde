/- What the rows of times come to, in numbers. (Cut to what is reached, written closely: Not · Refs · Cmp · FFld · FLess · FVal.) -/
import Derived.Test.YtadfjjfklihaaaaGreatP6
import Derived.Laws.Bits64
import Derived.Test.YtadfjjfklihaaaaGreatP1
import Derived.Test.YtadfjjfklihaaaaGreatP4
import Derived.Test.YtadfjjfklihaaaaGreatP5
import Derived.Deep.RegionWith
import Derived.Deep.QuietTactic
import Derived.BigQuiet
import Derived.Test.YtadfjjfklihaaaaGreatP3
set_option linter.all false
set_option maxRecDepth 100000
set_option maxHeartbeats 8000000
namespace Go.Proofs.YtadfjjfklihaaaaGreat
open Go.RowKit
theorem xor_ones{a:Nat}(h:a<18446744073709551616):bits .xor .u64 IntKind.u64.max (a:Int)=((18446744073709551615 - a:Nat):Int):=by
 have e:(18446744073709551615:Nat) ^^^ a=18446744073709551615 - a:=by
  apply Nat.eq_of_testBit_eq;intro i;rw[Nat.testBit_xor,show 18446744073709551615 - a=2^64 - (a+1) by omega,Nat.testBit_two_pow_sub_succ (by omega),show(18446744073709551615:Nat)=2^64 - 1 by decide,Nat.testBit_two_pow_sub_one];by_cases hi:i<64
  ·simp[hi]
  ·have:a.testBit i=false:=Nat.testBit_lt_two_pow (Nat.lt_of_lt_of_le h (by have:=Nat.pow_le_pow_right (n:=2) (by omega) (show 64<=i by omega);omega))
   simp[hi,this]
 have:=bits_xor_u64_nat 18446744073709551615 a (by omega) h;rw[e]at this;exact this
theorem not_walk(a0 a1 a2 a3:Nat)(w:World) :
  Calls Tryz.prog 124 #[.agg #[.int .u64 a0,.int .u64 a1,.int .u64 a2,.int .u64 a3]] w fun e w'=>e=.returned (.agg #[.int .u64 (bits .xor .u64 IntKind.u64.max (a0:Int)),.int .u64 (bits .xor .u64 IntKind.u64.max (a1:Int)),.int .u64 (bits .xor .u64 IntKind.u64.max (a2:Int)),.int .u64 (bits .xor .u64 IntKind.u64.max (a3:Int))])/\Below w.heap.size w w':=by
 go_enter Tryz.func124,Tryz.ntmps124;go_wp2;refine wp_loop_rounds 5 ?_
 iterate 4 (rw[rounds_succ];go_wp2)
 rw[rounds_succ];go_wp2
 go_returns
 exact⟨rfl,by go_grown⟩
-- WHAT Not COMES TO.
theorem not_any(x:Nat)(w:World) :
  Calls Tryz.prog 124 #[wv x] w fun e w'=>e=.returned (wv (115792089237316195423570985008687907853269984665640564039457584007913129639935 - x%2^256))/\Below w.heap.size w w':=by
 obtain⟨a0,a1,a2,a3,u0,u1,u2,u3,ea,na⟩:=wv_parts x;rw[ea,<- na,<- n4_comp (c0:=18446744073709551615 - a0) (c1:=18446744073709551615 - a1) (c2:=18446744073709551615 - a2) (c3:=18446744073709551615 - a3) (by omega) (by omega) (by omega) (by omega),wv_n4 (by omega) (by omega) (by omega) (by omega),<- xor_ones u0,<- xor_ones u1,<- xor_ones u2,<- xor_ones u3];exact not_walk a0 a1 a2 a3 w
theorem shr_walk(a0 a1 a2 a3 b0 b1 b2 b3 p0 p1 p2 p3:Nat)(w:World)
  (hP:∀ w,Calls Tryz.prog 159 #[.agg #[.int .u64 a0,.int .u64 a1,.int .u64 a2,.int .u64 a3],.agg #[.int .u64 b0,.int .u64 b1,.int .u64 b2,.int .u64 b3],.int .u64 0] w fun e w' =>
   e=.returned (.agg #[.int .u64 p0,.int .u64 p1,.int .u64 p2,.int .u64 p3])/\Below w.heap.size w w') :
  Calls Tryz.prog 150 #[.agg #[.int .u64 a0,.int .u64 a1,.int .u64 a2,.int .u64 a3],.agg #[.int .u64 b0,.int .u64 b1,.int .u64 b2,.int .u64 b3]] w fun e w' =>
   e=.returned (.agg #[.int .u64 p0,.int .u64 p1,.int .u64 p2,.int .u64 p3])/\Below w.heap.size w w':=by
 go_enter Tryz.func150,Tryz.ntmps150
 go_wp2_with fail
 refine(hP _).mono ?_;rintro e w1 ⟨rfl,hb⟩;obtain⟨⟨q0,q1,q2,q3⟩,⟨f0,f1,f2,f3⟩,hz,hb'⟩:=after4 (w:=w) (B:=w.heap.size) (w.heap.size+1+1) hb (by go_grown) (by simp;omega) (by simp) (by go_cell) (by go_cell) (by go_cell) (by go_cell) (by go_cell) (by go_cell) (by go_cell) (by go_cell);clear hb;go_wp2;refine bodyPost_ret (by simp[results,Tryz.results150,go_sem,q0,q1,q2,q3];try rfl) rfl ⟨rfl,?_⟩;go_grown
-- WHAT Shr COMES TO.
theorem shr_any(k x:Nat)(w:World) :
  Calls Tryz.prog 150 #[wv k,wv x] w fun e w'=>e=.returned (wv (x%2^256 / 2^min (k%2^256) 256))/\Below w.heap.size w w':=by
 have hP:=fun w=>down0_any k x w;obtain⟨k0,k1,k2,k3,-,-,-,-,ek,-⟩:=wv_parts k;obtain⟨a0,a1,a2,a3,-,-,-,-,ea,-⟩:=wv_parts x;obtain⟨p0,p1,p2,p3,-,-,-,-,ep,-⟩:=wv_parts (x%2^256 / 2^min (k%2^256) 256);rw[ek,ea,ep]at hP;rw[ek,ea,ep];exact shr_walk k0 k1 k2 k3 a0 a1 a2 a3 p0 p1 p2 p3 w hP
open Go.RowKit
theorem wv_pw(x:Nat):wv x=.agg (pw x):=rfl
theorem pw_size(x:Nat):(pw x).size=4:=rfl
theorem pw_one(x:Nat):(pw x).all (·.oneCell')=true:=by simp[pw,Value.oneCell']
theorem infoWord:(Tryz.prog.info? 24).map (·.size)=some 4:=by kernel_rfl
def Rb(S:Nat)(w w':World):Prop:=w.heap.size<=w'.heap.size/\∀ k,k<w.heap.size->k≠S->w'.heap[k]?=w.heap[k]?
theorem Rb.refl(S:Nat)(w:World):Rb S w w:=⟨Nat.le_refl _,fun _ _ _=>rfl⟩
theorem Rb.of{S:Nat}{w w':World}(h:Below w.heap.size w w'):Rb S w w':=⟨h.size,fun _ hk _=>h.block _ hk⟩
def DgS(S n V:Nat)(v:Value)(w:World):Prop:=∃(b cap:Nat) (d:Nat->Nat),v=.slice (some ⟨b,0,none⟩) n cap/\b≠S/\Dg w b n d/\(∀ j,j<n->d j<65536)/\vd d n=V
theorem DgS.keep{S n V:Nat}{v:Value}{w w':World}(hR:Rb S w w')(h:DgS S n V v w):DgS S n V v w':=by
 obtain⟨b,cap,d,rfl,hne,hD,h1,h2⟩:=h;exact⟨b,cap,d,rfl,hne,⟨Nat.lt_of_lt_of_le hD.1 hR.1,fun j hj=>(World.cell?_of_block (w:=w) (a:=⟨b,j,none⟩) (hR.2 b hD.1 hne)).trans (hD.2 j hj)⟩,h1,h2⟩
theorem mk_step{S n V:Nat}{w w':World}{e:Ending}(hS:S<w.heap.size)(h:MkDg n V w e w'):∃ v,e=.returned v/\Below w.heap.size w w'/\DgS S n V v w':=by
 obtain⟨b,cap,d,rfl,hb,hD,h1,h2,hB⟩:=h;exact⟨_,rfl,hB,b,cap,d,rfl,by omega,hD,h1,h2⟩
theorem load_pw{g x:Nat}{w:World}(hg:w.heap[g]?=some (.cells (pw x) 24 (0,0))):(Instr.loadAt 24 (.pointer (some ⟨g,0,none⟩))).run Tryz.prog w=.ok (wv x) w:=by
 simp only[Instr.loadAt,Instr.sureAddr,Sem.run_bind,Sem.run_pure,Result.andThen_ok,run_loadVar_row w g 24 24 (pw x) (0,0) _ hg Tryz.underlying24 rfl infoWord];rfl
theorem store_pw{g x:Nat}{w:World}{cs:Array Value}(hs:cs.size=4)(hg:w.heap[g]?=some (.cells cs 24 (0,0))):(Instr.storeAt 24 (.pointer (some ⟨g,0,none⟩)) (wv x)).run Tryz.prog w=.ok () (w.setRow g (pw x)):=by
 rw[wv_pw];simp only[Instr.storeAt,Instr.sureAddr,Sem.run_bind,Sem.run_pure,Result.andThen_ok,run_storeVar_row w g 24 24 cs (pw x) hg infoWord hs (pw_one x)]
theorem run_store{P:Program}{a:Act}{o:Oper}{w w':World}(t:TypeId)(p q:Operand)(u v:Value)(ho:o.op=.store t p q)(hp:a.eval p=u)(hq:a.eval q=v)(h:(Instr.storeAt t u v).run P w=.ok () w'):(execOp a.eval o).run P w=.ok .skip w':=by
 unfold execOp;rw[ho];simp only[hp,hq,Sem.run_bind,h,Result.andThen_ok,Sem.run_pure]
open Go.RowKit
theorem nan_any(x:Nat)(w:World):Calls Tryz.prog 142 #[.int .u64 x] w fun e w'=>e=.returned (.bool false)/\w=w':=by
 go_enter Tryz.func142,Tryz.ntmps142;go_wp2;go_ret;exact⟨rfl,rfl⟩
theorem compare_lt(x y:Nat)(h:(x:Int)<y)(w:World):Calls Tryz.prog 130 #[.int .u64 x,.int .u64 y] w fun e w'=>e=.returned (.int .i64 (-1))/\w=w':=by
 go_enter Tryz.func130,Tryz.ntmps130
 go_wp2_with (go_at_call 142;refine(nan_any _ _).mono ?_;rintro e w' ⟨rfl,rfl⟩)
 go_ret;exact⟨rfl,rfl⟩
theorem compare_gt(x y:Nat)(h:(y:Int)<x)(w:World):Calls Tryz.prog 130 #[.int .u64 x,.int .u64 y] w fun e w'=>e=.returned (.int .i64 1)/\w=w':=by
 have h':¬(x:Int)<y:=by omega
 go_enter Tryz.func130,Tryz.ntmps130
 go_wp2_with (go_at_call 142;refine(nan_any _ _).mono ?_;rintro e w' ⟨rfl,rfl⟩)
 go_ret;exact⟨rfl,rfl⟩
theorem cmp_3(a0 a1 a2 a3 b0 b1 b2 b3:Nat)(r:Int)(hn:((a3:Int) != b3)=true)(w:World)
  (hc:∀ w,Calls Tryz.prog 130 #[.int .u64 a3,.int .u64 b3] w fun e w'=>e=.returned (.int .i64 r)/\w=w') :
  Calls Tryz.prog 106 #[.agg #[.int .u64 a0,.int .u64 a1,.int .u64 a2,.int .u64 a3],.agg #[.int .u64 b0,.int .u64 b1,.int .u64 b2,.int .u64 b3]] w fun e w'=>e=.returned (.int .i64 r)/\Below w.heap.size w w':=by
 go_enter Tryz.func106,Tryz.ntmps106;go_wp2;refine wp_loop_rounds 5 ?_;rw[rounds_succ];go_wp2;go_region;go_wp2
 go_region_with (go_at_call 130;refine(hc _).mono ?_;rintro e w' ⟨rfl,rfl⟩)
 all_goals (go_wp2;go_ret;exact⟨rfl,by go_grown⟩)
theorem cmp_2(a0 a1 a2 a3 b0 b1 b2:Nat)(r:Int)(hn:((a2:Int) != b2)=true)(w:World)
  (hc:∀ w,Calls Tryz.prog 130 #[.int .u64 a2,.int .u64 b2] w fun e w'=>e=.returned (.int .i64 r)/\w=w') :
  Calls Tryz.prog 106 #[.agg #[.int .u64 a0,.int .u64 a1,.int .u64 a2,.int .u64 a3],.agg #[.int .u64 b0,.int .u64 b1,.int .u64 b2,.int .u64 a3]] w fun e w'=>e=.returned (.int .i64 r)/\Below w.heap.size w w':=by
 go_enter Tryz.func106,Tryz.ntmps106;go_wp2;refine wp_loop_rounds 5 ?_;rw[rounds_succ];go_wp2;go_region;go_wp2;rw[rounds_succ];go_wp2;go_region;go_wp2
 go_region_with (go_at_call 130;refine(hc _).mono ?_;rintro e w' ⟨rfl,rfl⟩)
 all_goals (go_wp2;go_ret;exact⟨rfl,by go_grown⟩)
theorem cmp_1(a0 a1 a2 a3 b0 b1:Nat)(r:Int)(hn:((a1:Int) != b1)=true)(w:World)
  (hc:∀ w,Calls Tryz.prog 130 #[.int .u64 a1,.int .u64 b1] w fun e w'=>e=.returned (.int .i64 r)/\w=w') :
  Calls Tryz.prog 106 #[.agg #[.int .u64 a0,.int .u64 a1,.int .u64 a2,.int .u64 a3],.agg #[.int .u64 b0,.int .u64 b1,.int .u64 a2,.int .u64 a3]] w fun e w'=>e=.returned (.int .i64 r)/\Below w.heap.size w w':=by
 go_enter Tryz.func106,Tryz.ntmps106;go_wp2;refine wp_loop_rounds 5 ?_;rw[rounds_succ];go_wp2;go_region;go_wp2;rw[rounds_succ];go_wp2;go_region;go_wp2;rw[rounds_succ];go_wp2;go_region;go_wp2
 go_region_with (go_at_call 130;refine(hc _).mono ?_;rintro e w' ⟨rfl,rfl⟩)
 all_goals (go_wp2;go_ret;exact⟨rfl,by go_grown⟩)
theorem cmp_0(a0 a1 a2 a3 b0:Nat)(r:Int)(hn:((a0:Int) != b0)=true)(w:World)
  (hc:∀ w,Calls Tryz.prog 130 #[.int .u64 a0,.int .u64 b0] w fun e w'=>e=.returned (.int .i64 r)/\w=w') :
  Calls Tryz.prog 106 #[.agg #[.int .u64 a0,.int .u64 a1,.int .u64 a2,.int .u64 a3],.agg #[.int .u64 b0,.int .u64 a1,.int .u64 a2,.int .u64 a3]] w fun e w'=>e=.returned (.int .i64 r)/\Below w.heap.size w w':=by
 go_enter Tryz.func106,Tryz.ntmps106;go_wp2;refine wp_loop_rounds 5 ?_;rw[rounds_succ];go_wp2;go_region;go_wp2;rw[rounds_succ];go_wp2;go_region;go_wp2;rw[rounds_succ];go_wp2;go_region;go_wp2;rw[rounds_succ];go_wp2;go_region;go_wp2
 go_region_with (go_at_call 130;refine(hc _).mono ?_;rintro e w' ⟨rfl,rfl⟩)
 all_goals (go_wp2;go_ret;exact⟨rfl,by go_grown⟩)
theorem cmp_e(a0 a1 a2 a3:Nat)(w:World) :
  Calls Tryz.prog 106 #[.agg #[.int .u64 a0,.int .u64 a1,.int .u64 a2,.int .u64 a3],.agg #[.int .u64 a0,.int .u64 a1,.int .u64 a2,.int .u64 a3]] w fun e w'=>e=.returned (.int .i64 0)/\Below w.heap.size w w':=by
 go_enter Tryz.func106,Tryz.ntmps106;go_wp2;refine wp_loop_rounds 5 ?_
 iterate 4 (rw[rounds_succ];go_wp2;go_region;go_wp2)
 rw[rounds_succ];go_wp2;go_ret;exact⟨rfl,by go_grown⟩
theorem compare_any(x y:Nat)(h:x≠y)(w:World):Calls Tryz.prog 130 #[.int .u64 x,.int .u64 y] w fun e w'=>e=.returned (.int .i64 (if x<y then -1 else 1))/\w=w':=by
 by_cases hlt:x<y
 ·rw[if_pos hlt];exact compare_lt x y (by omega) w
 ·rw[if_neg hlt];exact compare_gt x y (by omega) w
def ord(x y:Nat):Int:=if x<y then -1 else if y<x then 1 else 0
theorem neB{x y:Nat}(h:x≠y):((x:Int) != (y:Int))=true:=by rw[bne_iff_ne];omega
-- WHAT Cmp COMES TO.
theorem cmp_any(x y:Nat)(w:World) :
  Calls Tryz.prog 106 #[wv x,wv y] w fun e w'=>e=.returned (.int .i64 (ord (x%115792089237316195423570985008687907853269984665640564039457584007913129639936) (y%115792089237316195423570985008687907853269984665640564039457584007913129639936)))/\Below w.heap.size w w':=by
 obtain⟨a0,a1,a2,a3,u0,u1,u2,u3,ea,na⟩:=wv_parts x;obtain⟨b0,b1,b2,b3,v0,v1,v2,v3,eb,nb⟩:=wv_parts y;rw[ea,eb,<- na,<- nb];have key:∀ p q:Nat,p≠q->(p<q↔n4 a0 a1 a2 a3<n4 b0 b1 b2 b3)->n4 a0 a1 a2 a3≠n4 b0 b1 b2 b3->(if p<q then (-1:Int)else 1)=ord (n4 a0 a1 a2 a3) (n4 b0 b1 b2 b3):=by
  intro p q hpq hi hn;unfold ord;by_cases h:p<q
  ·rw[if_pos h,if_pos (hi.1 h)]
  ·rw[if_neg h,if_neg (fun h'=>h (hi.2 h')),if_pos (by have:¬n4 a0 a1 a2 a3<n4 b0 b1 b2 b3:=fun h'=>h (hi.2 h');omega)]
 by_cases h3:a3=b3
 ·by_cases h2:a2=b2
  ·by_cases h1:a1=b1
   ·by_cases h0:a0=b0
    ·subst h0 h1 h2 h3
     have:ord (n4 a0 a1 a2 a3) (n4 a0 a1 a2 a3)=0:=by unfold ord;simp
     rw[this];exact cmp_e a0 a1 a2 a3 w
    ·subst h1 h2 h3
     rw[<- key a0 b0 h0 (by unfold n4;omega) (by unfold n4;omega)];exact cmp_0 _ _ _ _ _ _ (neB h0) w (compare_any a0 b0 h0)
   ·subst h2 h3
    rw[<- key a1 b1 h1 (by unfold n4;omega) (by unfold n4;omega)];exact cmp_1 _ _ _ _ _ _ _ (neB h1) w (compare_any a1 b1 h1)
  ·subst h3
   rw[<- key a2 b2 h2 (by unfold n4;omega) (by unfold n4;omega)];exact cmp_2 _ _ _ _ _ _ _ _ (neB h2) w (compare_any a2 b2 h2)
 ·rw[<- key a3 b3 h3 (by unfold n4;omega) (by unfold n4;omega)]
  exact cmp_3 _ _ _ _ _ _ _ _ _ (neB h3) w (compare_any a3 b3 h3)
open Go.RowKit
theorem pw_ar(x:Nat):pw x=ar .u64 4 fun j=>((pN x j:Nat):Int):=by
 have e:ar .u64 4 (fun j=>((pN x j:Nat):Int))=#[.int .u64 ((pN x 0:Nat):Int),.int .u64 ((pN x 1:Nat):Int),.int .u64 ((pN x 2:Nat):Int),.int .u64 ((pN x 3:Nat):Int)]:=by kernel_rfl
 rw[e];unfold pw;have e0:pN x 0=x%18446744073709551616:=by unfold pN;simp
 have e1:pN x 1=x / 18446744073709551616%18446744073709551616:=by unfold pN;simp;omega
 have e2:pN x 2=x / 340282366920938463463374607431768211456%18446744073709551616:=by unfold pN;simp;omega
 have e3:pN x 3=x / 6277101735386680763835789423207666416102355444464034512896%18446744073709551616:=by unfold pN;simp;omega
 rw[e0,e1,e2,e3]
theorem val_pN(x:Nat):val (pN x) 4=x%2^256:=by
 have e0:pN x 0=x%18446744073709551616:=by unfold pN;simp
 have e1:pN x 1=x / 18446744073709551616%18446744073709551616:=by unfold pN;simp;omega
 have e2:pN x 2=x / 340282366920938463463374607431768211456%18446744073709551616:=by unfold pN;simp;omega
 have e3:pN x 3=x / 6277101735386680763835789423207666416102355444464034512896%18446744073709551616:=by unfold pN;simp;omega
 simp only[val,e0,e1,e2,e3];omega
def sqr(m:Nat):Nat:=2^256*2^256%m
def frw(m j:Nat):Nat:=if j<4 then pN m j else if j=4 then nin m else pN (sqr m) (j - 5)
structure FldAt (w:World) (F m:Nat):Prop where
 row:w.heap[F]?=some (.cells (ar .u64 9 fun j=>((frw m j:Nat):Int)) 145 (0,0))
 odd:m%2=1
 big:1<m
 lt:m<2^256
theorem FldAt.below{w w':World}{F m:Nat}(h:FldAt w F m)(hb:Below w.heap.size w w'):FldAt w' F m :=
 ⟨(hb.block _ (Array.getElem?_eq_some_iff.1 h.row).1).trans h.row,h.odd,h.big,h.lt⟩
theorem FldAt.less{w:World}{F m:Nat}(h:FldAt w F m):F<w.heap.size:=(Array.getElem?_eq_some_iff.1 h.row).1
theorem FldAt.cell{w:World}{F m:Nat}(h:FldAt w F m)(j:Nat)(hj:j<9):w.cell? ⟨F,j,none⟩=some (.int .u64 (frw m j:Nat)):=(cell_of_row _ _ j _ _ _ h.row).trans (ar_at _ _ _ _ hj)
theorem infoW4:(Tryz.prog.info? 24).map (·.size)=some 4:=by kernel_rfl
theorem ld_m{w:World}{F m:Nat}(h:FldAt w F m):(Instr.loadAt 24 (.pointer (some ⟨F,0,none⟩))).run Tryz.prog w=.ok (.agg (pw m)) w:=by
 rw[pw_ar];simp only[Instr.loadAt,Instr.sureAddr,Sem.run_bind,Sem.run_pure,Result.andThen_ok,run_loadVar_part w F 0 4 24 .u64 (fun j=>((pN m j:Nat):Int)) _ (fun j hj=>by
  rw[Nat.zero_add,h.cell j (by omega)];unfold frw;rw[if_pos hj]) Tryz.underlying24 rfl infoW4]
theorem ld_pw{g x:Nat}{w:World}(hg:w.heap[g]?=some (.cells (pw x) 24 (0,0))):(Instr.loadAt 24 (.pointer (some ⟨g,0,none⟩))).run Tryz.prog w=.ok (.agg (pw x)) w:=load_pw hg
theorem ld_sq{w:World}{F m:Nat}(h:FldAt w F m):(Instr.loadAt 24 (.pointer (some ⟨F,5,none⟩))).run Tryz.prog w=.ok (.agg (pw (sqr m))) w:=by
 rw[pw_ar];simp only[Instr.loadAt,Instr.sureAddr,Sem.run_bind,Sem.run_pure,Result.andThen_ok,run_loadVar_part w F 5 4 24 .u64 (fun j=>((pN (sqr m) j:Nat):Int)) _ (fun j hj=>by
  rw[h.cell (5+j) (by omega)];unfold frw;rw[if_neg (by omega),if_neg (by omega),show 5+j - 5=j by omega]) Tryz.underlying24 rfl infoW4]
theorem ld_inv{w:World}{F m:Nat}(h:FldAt w F m):(Instr.loadAt 22 (.pointer (some ⟨F,4,none⟩))).run Tryz.prog w=.ok (.int .u64 (nin m:Nat)) w :=
 load_u64 _ _ _ _ (h.cell 4 (by omega))
theorem fld_at(F:Nat)(w:World):(Instr.fieldAt 145 (.pointer (some ⟨F,0,none⟩)) 0).run Tryz.prog w=.ok (.pointer (some ⟨F,0,none⟩)) w:=by kernel_rfl
theorem fld_inv(F:Nat)(w:World):(Instr.fieldAt 145 (.pointer (some ⟨F,0,none⟩)) 1).run Tryz.prog w=.ok (.pointer (some ⟨F,4,none⟩)) w:=by kernel_rfl
theorem fld_sq(F:Nat)(w:World):(Instr.fieldAt 145 (.pointer (some ⟨F,0,none⟩)) 2).run Tryz.prog w=.ok (.pointer (some ⟨F,5,none⟩)) w:=by kernel_rfl
open Go.RowKit
structure C1 (w:World) (F m x:Nat) (wx:World):Prop where
 old:Below w.heap.size w wx
 fld:FldAt wx F m
 r0:wx.heap[w.heap.size]?=some (.cells (pw x) 24 (0,0))
 r1:wx.heap[w.heap.size+1]?=some (.cells #[.int .u64 0,.int .u64 0,.int .u64 0,.int .u64 0] 24 (0,0))
theorem C1.below{w wx w':World}{F m x:Nat}(c:C1 w F m x wx)(hb:Below wx.heap.size wx w'):C1 w F m x w' :=
 ⟨c.old.trans (hb.mono c.old.size),c.fld.below hb,(hb.block _ (Array.getElem?_eq_some_iff.1 c.r0).1).trans c.r0,(hb.block _ (Array.getElem?_eq_some_iff.1 c.r1).1).trans c.r1⟩
theorem C1.start{w:World}{F m x:Nat}(h:FldAt w F m):C1 w F m x ((w.alloc (.cells (pw x) 24)).alloc (.cells #[.int .u64 0,.int .u64 0,.int .u64 0,.int .u64 0] 24)) :=
 ⟨by go_grown,(h.below ((Below.refl _ _).alloc (Nat.le_refl _) _)).below ((Below.refl _ _).alloc (Nat.le_refl _) _),heap_alloc2_old _ _ _,heap_alloc2_new _ _ _⟩
theorem C1.drew{w wx:World}{F m x:Nat}(c:C1 w F m x wx):C1 w F m x wx.drew:=c.below (Below.drew (Below.refl _ _))
theorem C1.done{w wx:World}{F m x y:Nat}(c:C1 w F m x wx):Below w.heap.size w (wx.setRow (w.heap.size+1) (pw y)):=below_setRow c.old (by omega) _
theorem geq_ord(a b:Nat)(w:World):(binOp BinOp.geq 3 (.int .i64 (ord a b)) (.int .i64 0)).run Tryz.prog w=.ok (.bool (decide (b<=a))) w:=by
 unfold ord;by_cases h1:a<b
 ·rw[if_pos h1,decide_eq_false (by omega)];kernel_rfl
 ·rw[if_neg h1,decide_eq_true (show b<=a by omega)]
  by_cases h2:b<a
  ·rw[if_pos h2];kernel_rfl
  ·rw[if_neg h2];kernel_rfl
theorem lss_ord(a b:Nat)(w:World):(binOp BinOp.lss 3 (.int .i64 (ord a b)) (.int .i64 0)).run Tryz.prog w=.ok (.bool (decide (a<b))) w:=by
 unfold ord;by_cases h1:a<b
 ·rw[if_pos h1,decide_eq_true h1];kernel_rfl
 ·rw[if_neg h1,decide_eq_false h1]
  by_cases h2:b<a
  ·rw[if_pos h2];kernel_rfl
  ·rw[if_neg h2];kernel_rfl
theorem mod_self_lt{m:Nat}(h:m<2^256):m%2^256=m:=Nat.mod_eq_of_lt h
def lessV(m x:Nat)(be:Bool):Nat:=if be=true\/m<=x%2^256 then x+(2^256 - m)else x
-- WHAT lessOnce COMES TO.
theorem lessOnce_any(F m x:Nat)(be:Bool)(w:World)(hF:FldAt w F m):Calls Tryz.prog 105 #[.pointer (some ⟨F,0,none⟩),.agg (pw x),.bool be] w fun e w'=>e=.returned (.agg (pw (lessV m x be)))/\Below w.heap.size w w':=by
 have H0:=Lib.hid (C1.start (x:=x) hF);have HS:=Lib.hid (show ∀ wx,C1 w F m x wx->Calls Tryz.prog 107 #[.agg (pw x),.agg (pw m)] wx (fun e w'=>e=.returned (.agg (pw (x+(2^256 - m))))/\C1 w F m x w') from fun wx c=>(sub_any x m wx).mono fun e w' hh=>⟨by rw[hh.1,mod_self_lt hF.lt];rfl,c.below hh.2⟩);have HCM:=Lib.hid (show ∀ wx,C1 w F m x wx->Calls Tryz.prog 106 #[.agg (pw x),.agg (pw m)] wx (fun e w'=>e=.returned (.int .i64 (ord (x%2^256) m))/\C1 w F m x w') from fun wx c=>(cmp_any x m wx).mono fun e w' hh=>⟨by rw[hh.1,mod_self_lt hF.lt],c.below hh.2⟩);clear hF;unfold lessV;obtain⟨X,hX⟩:∃ X,x%2^256=X:=⟨_,rfl⟩
 rw[hX]at HCM |-
 clear hX;cases be with
 | true =>
  rw[if_pos (.inl rfl)];obtain⟨y,hy⟩:∃ y,x+(2^256 - m)=y:=⟨_,rfl⟩
  rw[hy]at HS |-
  clear hy;go_enter Tryz.func105,Tryz.ntmps105
  go_wp2_with fail
  refine wp_region_quiet (C:=C1 w F m x) (by kernel_rfl) (by kernel_rfl) (H0.out.drew) ?_;simp only
  with_reducible refine q_val (.bool true) (by kernel_rfl) (fun _ _=>by kernel_rfl) ?_
  with_reducible refine q_val (.bool true) (by kernel_rfl) (fun _ _=>by kernel_rfl) ?_
  with_reducible refine q_skip (by kernel_rfl) ?_
  with_reducible refine q_skip (by kernel_rfl) ?_
  with_reducible refine q_skip (by kernel_rfl) ?_
  with_reducible refine q_skip (by kernel_rfl) ?_
  with_reducible refine q_skip (by kernel_rfl) ?_
  with_reducible refine q_skip (by kernel_rfl) ?_
  with_reducible refine q_skip (by kernel_rfl) ?_
  with_reducible refine q_val (.bool true) (by kernel_rfl) (fun _ _=>by kernel_rfl) ?_
  with_reducible refine wpQuiet_nil ?_
  intro wx hC;have HC:=Lib.hid hC;clear hC;simp only[Act.put,List.setIfInBounds_toArray,List.set_cons_succ,List.set_cons_zero]
  go_wp2_with fail
  refine region_quiet_tail 6 (C1 w F m x) (by kernel_rfl) (by kernel_rfl) (HC.out.drew) ?_;simp only[List.take_succ_cons,List.take_zero,List.drop_succ_cons,List.drop_zero]
  with_reducible refine q_load 24 (.tmp 4) (.pointer (some ⟨w.heap.size,0,none⟩)) (.agg (pw x)) rfl (by kernel_rfl) (by kernel_rfl) (fun _ c=>ld_pw c.r0) ?_
  with_reducible refine q_val (.pointer (some ⟨F,0,none⟩)) (by kernel_rfl) (fun _ _=>by kernel_rfl) ?_
  with_reducible refine q_val (.pointer (some ⟨F,0,none⟩)) (by kernel_rfl) (fun _ _=>run_nil (.tmp 18) _ rfl (by kernel_rfl)) ?_
  with_reducible refine q_sem2 (Instr.fieldAt 145 (.pointer (some ⟨F,0,none⟩)) 0) (.pointer (some ⟨F,0,none⟩)) (by kernel_rfl) (by kernel_rfl) (fun w' _=>fld_at F w') ?_
  with_reducible refine q_load 24 (.tmp 20) (.pointer (some ⟨F,0,none⟩)) (.agg (pw m)) rfl (by kernel_rfl) (by kernel_rfl) (fun _ c=>ld_m c.fld) ?_
  with_reducible refine q_call 107 #[.agg (pw x),.agg (pw m)] (.agg (pw y)) (by kernel_rfl) (fun _=>by kernel_rfl) (HS.out) ?_
  with_reducible refine wpQuiet_nil ?_
  intro wx hC;have HC2:=Lib.hid hC;clear hC;simp only[Act.put,List.setIfInBounds_toArray,List.set_cons_succ,List.set_cons_zero]
  go_wp2_with (refine wpList_store_row rfl 24 _ _ rfl (w.heap.size+1) (pw y) rfl rfl 24 #[.int .u64 0,.int .u64 0,.int .u64 0,.int .u64 0] (by exact HC2.out.r1) (by rw[pw_size];exact infoW4) (by rw[pw_size];rfl) (pw_one _) ?_)
  (try simp only[Act.put])
  exact bodyPost_ret (v:=.agg (pw y)) (results_cell_row (p:=6) rfl _ _ (w.heap.size+1) 24 (pw y) (0,0) _ rfl (setRow_heap _ _ _ _ _ _ HC2.out.r1) Tryz.underlying24 rfl (by rw[pw_size];exact infoW4)) rfl ⟨rfl,HC2.out.done⟩
 | false =>
  by_cases hle:m<=X
  ·rw[if_pos (.inr hle)]
   obtain⟨y,hy⟩:∃ y,x+(2^256 - m)=y:=⟨_,rfl⟩
   rw[hy]at HS |-
   clear hy;go_enter Tryz.func105,Tryz.ntmps105
   go_wp2_with fail
   refine wp_region_quiet (C:=C1 w F m x) (by kernel_rfl) (by kernel_rfl) (H0.out.drew) ?_;simp only
   with_reducible refine q_val (.bool false) (by kernel_rfl) (fun _ _=>by kernel_rfl) ?_
   with_reducible refine q_val (.bool false) (by kernel_rfl) (fun _ _=>by kernel_rfl) ?_
   with_reducible refine q_load 24 (.tmp 4) (.pointer (some ⟨w.heap.size,0,none⟩)) (.agg (pw x)) rfl (by kernel_rfl) (by kernel_rfl) (fun _ c=>ld_pw c.r0) ?_
   with_reducible refine q_val (.pointer (some ⟨F,0,none⟩)) (by kernel_rfl) (fun _ _=>by kernel_rfl) ?_
   with_reducible refine q_val (.pointer (some ⟨F,0,none⟩)) (by kernel_rfl) (fun _ _=>run_nil (.tmp 10) _ rfl (by kernel_rfl)) ?_
   with_reducible refine q_sem2 (Instr.fieldAt 145 (.pointer (some ⟨F,0,none⟩)) 0) (.pointer (some ⟨F,0,none⟩)) (by kernel_rfl) (by kernel_rfl) (fun w' _=>fld_at F w') ?_
   with_reducible refine q_load 24 (.tmp 12) (.pointer (some ⟨F,0,none⟩)) (.agg (pw m)) rfl (by kernel_rfl) (by kernel_rfl) (fun _ c=>ld_m c.fld) ?_
   with_reducible refine q_call 106 #[.agg (pw x),.agg (pw m)] (.int .i64 (ord X m)) (by kernel_rfl) (fun _=>by kernel_rfl) (HCM.out) ?_
   with_reducible refine q_bin .geq 3 _ _ 3 (.int .i64 (ord X m)) (.int .i64 0) (.bool true) rfl (by kernel_rfl) (by kernel_rfl) (by kernel_rfl) (fun _=>by kernel_rfl) (fun w'=>(geq_ord X m w').trans (by rw[decide_eq_true hle])) ?_
   with_reducible refine q_val (.bool true) (by kernel_rfl) (fun _ _=>by kernel_rfl) ?_
   with_reducible refine wpQuiet_nil ?_
   intro wx hC;have HC:=Lib.hid hC;clear hC;simp only[Act.put,List.setIfInBounds_toArray,List.set_cons_succ,List.set_cons_zero]
   go_wp2_with fail
   refine region_quiet_tail 6 (C1 w F m x) (by kernel_rfl) (by kernel_rfl) (HC.out.drew) ?_;simp only[List.take_succ_cons,List.take_zero,List.drop_succ_cons,List.drop_zero]
   with_reducible refine q_load 24 (.tmp 4) (.pointer (some ⟨w.heap.size,0,none⟩)) (.agg (pw x)) rfl (by kernel_rfl) (by kernel_rfl) (fun _ c=>ld_pw c.r0) ?_
   with_reducible refine q_val (.pointer (some ⟨F,0,none⟩)) (by kernel_rfl) (fun _ _=>by kernel_rfl) ?_
   with_reducible refine q_val (.pointer (some ⟨F,0,none⟩)) (by kernel_rfl) (fun _ _=>run_nil (.tmp 18) _ rfl (by kernel_rfl)) ?_
   with_reducible refine q_sem2 (Instr.fieldAt 145 (.pointer (some ⟨F,0,none⟩)) 0) (.pointer (some ⟨F,0,none⟩)) (by kernel_rfl) (by kernel_rfl) (fun w' _=>fld_at F w') ?_
   with_reducible refine q_load 24 (.tmp 20) (.pointer (some ⟨F,0,none⟩)) (.agg (pw m)) rfl (by kernel_rfl) (by kernel_rfl) (fun _ c=>ld_m c.fld) ?_
   with_reducible refine q_call 107 #[.agg (pw x),.agg (pw m)] (.agg (pw y)) (by kernel_rfl) (fun _=>by kernel_rfl) (HS.out) ?_
   with_reducible refine wpQuiet_nil ?_
   intro wx hC;have HC2:=Lib.hid hC;clear hC;simp only[Act.put,List.setIfInBounds_toArray,List.set_cons_succ,List.set_cons_zero]
   go_wp2_with (refine wpList_store_row rfl 24 _ _ rfl (w.heap.size+1) (pw y) rfl rfl 24 #[.int .u64 0,.int .u64 0,.int .u64 0,.int .u64 0] (by exact HC2.out.r1) (by rw[pw_size];exact infoW4) (by rw[pw_size];rfl) (pw_one _) ?_)
   (try simp only[Act.put])
   exact bodyPost_ret (v:=.agg (pw y)) (results_cell_row (p:=6) rfl _ _ (w.heap.size+1) 24 (pw y) (0,0) _ rfl (setRow_heap _ _ _ _ _ _ HC2.out.r1) Tryz.underlying24 rfl (by rw[pw_size];exact infoW4)) rfl ⟨rfl,HC2.out.done⟩
  ·rw[if_neg (by simp[hle])]
   go_enter Tryz.func105,Tryz.ntmps105
   go_wp2_with fail
   refine wp_region_quiet (C:=C1 w F m x) (by kernel_rfl) (by kernel_rfl) (H0.out.drew) ?_;simp only
   with_reducible refine q_val (.bool false) (by kernel_rfl) (fun _ _=>by kernel_rfl) ?_
   with_reducible refine q_val (.bool false) (by kernel_rfl) (fun _ _=>by kernel_rfl) ?_
   with_reducible refine q_load 24 (.tmp 4) (.pointer (some ⟨w.heap.size,0,none⟩)) (.agg (pw x)) rfl (by kernel_rfl) (by kernel_rfl) (fun _ c=>ld_pw c.r0) ?_
   with_reducible refine q_val (.pointer (some ⟨F,0,none⟩)) (by kernel_rfl) (fun _ _=>by kernel_rfl) ?_
   with_reducible refine q_val (.pointer (some ⟨F,0,none⟩)) (by kernel_rfl) (fun _ _=>run_nil (.tmp 10) _ rfl (by kernel_rfl)) ?_
   with_reducible refine q_sem2 (Instr.fieldAt 145 (.pointer (some ⟨F,0,none⟩)) 0) (.pointer (some ⟨F,0,none⟩)) (by kernel_rfl) (by kernel_rfl) (fun w' _=>fld_at F w') ?_
   with_reducible refine q_load 24 (.tmp 12) (.pointer (some ⟨F,0,none⟩)) (.agg (pw m)) rfl (by kernel_rfl) (by kernel_rfl) (fun _ c=>ld_m c.fld) ?_
   with_reducible refine q_call 106 #[.agg (pw x),.agg (pw m)] (.int .i64 (ord X m)) (by kernel_rfl) (fun _=>by kernel_rfl) (HCM.out) ?_
   with_reducible refine q_bin .geq 3 _ _ 3 (.int .i64 (ord X m)) (.int .i64 0) (.bool false) rfl (by kernel_rfl) (by kernel_rfl) (by kernel_rfl) (fun _=>by kernel_rfl) (fun w'=>(geq_ord X m w').trans (by rw[decide_eq_false hle])) ?_
   with_reducible refine q_val (.bool false) (by kernel_rfl) (fun _ _=>by kernel_rfl) ?_
   with_reducible refine wpQuiet_nil ?_
   intro wx hC;have HC:=Lib.hid hC;clear hC;simp only[Act.put,List.setIfInBounds_toArray,List.set_cons_succ,List.set_cons_zero]
   go_wp2_with (first | (refine wpList_load_row rfl 24 _ rfl w.heap.size rfl 24 (pw x) (0,0) _ (by exact HC.out.r0) Tryz.underlying24 rfl (by rw[pw_size];exact infoW4) ?_) | (refine wpList_store_row rfl 24 _ _ rfl (w.heap.size+1) (pw x) rfl rfl 24 #[.int .u64 0,.int .u64 0,.int .u64 0,.int .u64 0] (by exact HC.out.r1) (by rw[pw_size];exact infoW4) (by rw[pw_size];rfl) (pw_one _) ?_))
   (try simp only[Act.put])
   exact bodyPost_ret (v:=.agg (pw x)) (results_cell_row (p:=6) rfl _ _ (w.heap.size+1) 24 (pw x) (0,0) _ rfl (setRow_heap _ _ _ _ _ _ HC.out.r1) Tryz.underlying24 rfl (by rw[pw_size];exact infoW4)) rfl ⟨rfl,HC.out.done⟩
open Go.RowKit
theorem vl_split(f:Nat->Nat)(k:Nat):∀ n,val f (k+n)=val f k+18446744073709551616^k*val (fun j=>f (k+j)) n
 | 0=>by simp[val]
 | n+1=>by
  show val f (k+n)+18446744073709551616^(k+n)*f (k+n)=_;rw[vl_split f k n];simp only[val];rw[Nat.pow_add,Nat.mul_add,Nat.mul_assoc,Nat.add_assoc]
theorem val_setN(f:Nat->Nat)(p y:Nat):∀ L,p<L->val (updN f p y) L+18446744073709551616^p*f p=val f L+18446744073709551616^p*y
 | 0,h=>by omega
 | L+1,h=>by
  simp only[val];by_cases e:p=L
  ·subst e
   rw[val_congr (f:=updN f p y) (g:=f) (fun j hj=>by unfold updN;rw[if_neg (by omega)]),show updN f p y p=y from if_pos rfl];omega
  ·have:=val_setN f p y L (by omega)
   rw[show updN f p y L=f L from if_neg (by omega)];omega
theorem val_four(f:Nat->Nat):val f 4=f 0+18446744073709551616*(f 1+18446744073709551616*(f 2+18446744073709551616*f 3)):=by
 simp only[val];omega
theorem rowI_val{s a s':Nat->Nat}{u x c:Nat}(H:RowI s a u x 4 c s')(hu:u<=4):val s' 8+18446744073709551616^(u+4)*c=val s 8+18446744073709551616^u*(x*val a 4):=by
 obtain⟨n,hn⟩:∃ n,4 - u=n:=⟨_,rfl⟩
 have e8:8=u+(4+n):=by omega
 have h1:∀ f:Nat->Nat,val f 8=val f u+18446744073709551616^u*(val (fun j=>f (u+j)) 4+18446744073709551616^4*val (fun j=>f (u+(4+j))) n):=fun f=>by
  rw[e8,vl_split f u,vl_split (fun j=>f (u+j)) 4 n]
 have h2:val s' u=val s u:=val_congr fun j hj=>H.out j (.inl hj);have h3:val (fun j=>s' (u+(4+j))) n=val (fun j=>s (u+(4+j))) n:=val_congr fun j hj=>H.out _ (.inr (by omega));have h4:=H.sum;rw[h1 s',h1 s,h2,h3,Nat.pow_add];obtain⟨P,hP⟩:∃ P,18446744073709551616^u=P:=⟨_,rfl⟩
 obtain⟨Q,hQ⟩:∃ Q:Nat,18446744073709551616^4=Q:=⟨_,rfl⟩
 rw[hP,hQ];rw[hQ]at h4;have h5:P*(val (fun j=>s' (u+j)) 4+Q*c)=P*(val (fun j=>s (u+j)) 4+x*val a 4):=by rw[h4]
 rw[Nat.mul_add,Nat.mul_add]at h5;rw[Nat.mul_add,Nat.mul_add,Nat.mul_assoc];omega
structure T1 (x y k:Nat) (s:Nat->Nat):Prop where
 lt:∀ t,s t<18446744073709551616
 top:∀ t,4+k<=t->s t=0
 sum:val s 8=val (pN x) k*val (pN y) 4
theorem T1.next{x y k c:Nat}{s s':Nat->Nat}(h:T1 x y k s)(hk:k<4)(H:RowI s (pN y) k (pN x k) 4 c s'):T1 x y (k+1) (updN s' (k+4) c):=by
 refine⟨fun t=>?_,fun t ht=>?_,?_⟩
 ·unfold updN;split
  ·exact H.clt
  ·exact H.lt t
 ·unfold updN
  rw[if_neg (by omega),H.out t (.inr (by omega)),h.top t (by omega)]
 ·have h1:=val_setN s' (k+4) c 8 (by omega)
  have h2:=rowI_val H (by omega);have h3:s' (k+4)=0:=by rw[H.out _ (.inr (by omega)),h.top _ (by omega)]
  have h4:=h.sum;rw[show val (pN x) (k+1)=val (pN x) k+18446744073709551616^k*pN x k from rfl,Nat.add_mul,<- h4,Nat.mul_assoc];rw[h3,Nat.mul_zero]at h1;omega
structure T2 (m N k be:Nat) (s:Nat->Nat):Prop where
 lt:∀ t,s t<18446744073709551616
 one:be<=1
 low:∀ t,t<k->s t=0
 sum:∃ Q,Q<18446744073709551616^k/\val s 8+18446744073709551616^(k+4)*be=N+Q*m
theorem T2.next{m N k be c d be':Nat}{s s':Nat->Nat}(h:T2 m N k be s)(ho:m%2=1)(hm:m<2^256)(hk:k<4)(H:RowI s (pN m) k (s k*nin m%18446744073709551616) 4 c s')(hd:d<18446744073709551616)(hb:be'<=1)(he:d+18446744073709551616*be'=s' (k+4)+c+be):T2 m N (k+1) be' (updN s' (k+4) d):=by
 have hv:val (pN m) 4=m:=by rw[val_pN,Nat.mod_eq_of_lt hm]
 refine⟨fun t=>?_,hb,fun t ht=>?_,?_⟩
 ·unfold updN;split
  ·exact hd
  ·exact H.lt t
 ·unfold updN
  rw[if_neg (by omega)];by_cases e:t=k
  ·subst e
   have h1:=H.sum;rw[hv,val_four,val_four]at h1;have h2:=nin_ok ho (s t);have h3:(s t*nin m%18446744073709551616*(m%18446744073709551616))%18446744073709551616=(s t*nin m%18446744073709551616*m)%18446744073709551616:=mul_mod_r _ _ _;have h4:=H.lt t;simp only[Nat.add_zero]at h1;obtain⟨q,hq⟩:∃ q,s t*nin m%18446744073709551616*m=q:=⟨_,rfl⟩
   obtain⟨q2,hq2⟩:∃ q2,s t*nin m%18446744073709551616*(m%18446744073709551616)=q2:=⟨_,rfl⟩
   rw[hq]at h1 h3;rw[hq2]at h2 h3;have h5:(18446744073709551616^4:Nat)*c=18446744073709551616*(18446744073709551616^3*c):=by rw[<- Nat.mul_assoc,<- Nat.pow_succ']
   rw[h5]at h1;generalize (18446744073709551616^3:Nat)*c=z at h1;omega
  ·rw[H.out t (.inl (by omega)),h.low t (by omega)]
 ·obtain⟨Q,hQ,hs⟩:=h.sum
  have h1:=val_setN s' (k+4) d 8 (by omega);have h2:=rowI_val H (by omega);rw[hv]at h2;obtain⟨q,hq⟩:∃ q,s k*nin m%18446744073709551616=q:=⟨_,rfl⟩
  have hql:q<18446744073709551616:=by rw[<- hq];exact Nat.mod_lt _ (by omega)
  rw[hq]at h2;refine⟨Q+18446744073709551616^k*q,?_,?_⟩
  ·rw[Nat.pow_succ]
   have:18446744073709551616^k*q<=18446744073709551616^k*(18446744073709551616 - 1):=Nat.mul_le_mul_left _ (by omega);have h3:18446744073709551616^k*(18446744073709551616 - 1)+18446744073709551616^k=18446744073709551616^k*18446744073709551616:=by rw[<- Nat.mul_succ]
   omega
  ·rw[show k+1+4=(k+4)+1 by omega,Nat.pow_succ,Nat.add_mul,Nat.mul_assoc]
   obtain⟨P,hP⟩:∃ P,18446744073709551616^(k+4)=P:=⟨_,rfl⟩
   rw[hP]at h1 h2 hs |-
   have h3:P*(d+18446744073709551616*be')=P*(s' (k+4)+c+be):=by rw[he]
   rw[Nat.mul_add,Nat.mul_add,Nat.mul_add]at h3;rw[Nat.mul_assoc];omega
theorem T2.done{m x y be:Nat}{s:Nat->Nat}(h:T2 m (x*y) 4 be s)(ho:m%2=1)(h1:1<m)(hm:m<2^256)(hb:x*y<2^256*m):wv (lessV m (val (fun j=>s (4+j)) 4) (decide (be=1)))=wv (mnt m x y):=by
 obtain⟨Q,hQ,hs⟩:=h.sum;have e8:val s 8=2^256*val (fun j=>s (4+j)) 4:=by
  rw[show 8=4+4 from rfl,vl_split];have:val s 4=0:=by rw[val_four,h.low 0 (by omega),h.low 1 (by omega),h.low 2 (by omega),h.low 3 (by omega)]
  rw[this,Nat.zero_add]
 obtain⟨u,hu⟩:∃ u,val (fun j=>s (4+j)) 4=u:=⟨_,rfl⟩
 have hul:u<2^256:=by
  rw[<- hu,val_four];have a0:=h.lt 4;have a1:=h.lt 5;have a2:=h.lt 6;have a3:=h.lt 7;show s 4+18446744073709551616*(s 5+18446744073709551616*(s 6+18446744073709551616*s 7))<_;omega
 rw[hu]at e8 |-
 rw[e8,show(18446744073709551616:Nat)^(4+4)=2^256*2^256 by decide]at hs;have hQ2:Q<2^256:=hQ;have hone:=h.one;obtain⟨N,hN⟩:∃ N,x*y=N:=⟨_,rfl⟩
 -- T*R=N+Q*m,T=u+be*R
 obtain⟨T,hT⟩:∃ T,u+2^256*be=T:=⟨_,rfl⟩
 have hTR:T*2^256=x*y+Q*m:=by rw[<- hs,<- hT,Nat.add_mul,Nat.mul_comm u,Nat.mul_assoc,Nat.mul_comm be,<- Nat.mul_assoc]
 have hT2:T<m+m:=by
  have h2:Q*m<=2^256*m:=Nat.mul_le_mul_right m (by omega);have h3:T*2^256<(m+m)*2^256:=by rw[hTR,Nat.add_mul,Nat.mul_comm m];omega
  exact Nat.lt_of_mul_lt_mul_right h3
 have key:∀ r,r<m->(r=T\/r+m=T)->r=mnt m x y:=fun r hr h2=>by
  refine mnt_uniq ho h1 hr ?_;have h3:T*2^256%m=x*y%m:=by rw[hTR,Nat.add_mul_mod_self_right]
  rcases h2 with rfl | h2
  ·exact h3
  ·rw[<- h3,<- h2,Nat.add_mul,Nat.mul_comm m,Nat.add_mul_mod_self_right]
 unfold lessV;by_cases hc:be=1\/m<=u
 ·rw[if_pos (by rw[Nat.mod_eq_of_lt hul];simpa using hc)]
  have h2:T - m=mnt m x y:=key _ (by omega) (.inr (by rcases hc with hc | hc <;> omega));rw[<- h2];apply wv_congr;rcases hc with hc | hc
  ·subst hc
   congr 1;omega
  ·have hb0:be=0\/be=1:=by omega
   rcases hb0 with hb0 | hb0
   ·subst hb0
    rw[show u+(2^256 - m)=(T - m)+2^256 by omega,Nat.add_mod_right]
   ·subst hb0
    congr 1;omega
 ·rw[if_neg (by rw[Nat.mod_eq_of_lt hul];simpa using hc)]
  have hb0:be=0:=by omega
  subst hb0;have h2:T=mnt m x y:=key _ (by omega) (.inl rfl);rw[<- h2,<- hT,Nat.mul_zero,Nat.add_zero]
end Go.Proofs.YtadfjjfklihaaaaGreat
