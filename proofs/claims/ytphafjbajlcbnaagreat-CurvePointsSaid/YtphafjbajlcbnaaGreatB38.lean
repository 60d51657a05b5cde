/- What the program's digits comes to. (Cut to what is reached, written closely: EcDig · Gd · Gq · GDg.) -/
import Derived.Test.YtphafjbajlcbnaaGreatB37
import Derived.Test.YtphafjbajlcbnaaGreatB18
import Derived.Test.YtphafjbajlcbnaaGreatB16
import Derived.Test.YtphafjbajlcbnaaGreatB15
set_option linter.all false
set_option maxRecDepth 100000
set_option maxHeartbeats 8000000
namespace Go.Proofs.YtphafjbajlcbnaaGreat
section
variable {K:Type} {F:CField K} {b:K}
theorem Q8[DecidableEq K](h:Curve F b){p:Pt K}(hp:p.On F b)(n:Nat):DJ F (2*n) p=Ba F (DJ F n p) (DJ F n p):=by
 rw[Nat.two_mul,Oh h hp]
def sdg(k:Nat):Nat:=if k%4=1 then 1 else if k%4=3 then 2 else 0
def snx(k:Nat):Nat:=k / 2+(if k%4=3 then 1 else 0)
def sth(k:Nat):Nat->Nat
 | 0=>k
 | i+1=>snx (sth k i)
theorem A2m(k:Nat):sdg k<3:=by
 unfold sdg
 split
 ·decide
 ·split <;> decide
theorem A2n{k n:Nat}(h:k<=2^(n+1)):snx k<=2^n:=by
 unfold snx;rw[Nat.pow_succ]at h
 split
 ·rename_i h3
  cases n with
  | zero=>rw[Nat.pow_zero]at h;omega
  | succ n =>
   rw[Nat.pow_succ]at h |-
   generalize 2^n=m at h |-
   omega
 ·omega
theorem WS{k n:Nat}(h:k<=2^n):∀ i,i<=n->sth k i<=2^(n - i)
 | 0,_=>h
 | i+1,hi=>by
  have:=WS h i τ;rw[show n - i=n - (i+1)+1 by omega]at this;exact A2n this
theorem A06{k:Nat}(h:k<2^256):sth k 257=0:=by
 have:=WS (Nat.le_of_lt h) 256 (Nat.le_refl _);rw[Nat.sub_self,Nat.pow_zero]at this;show snx (sth k 256)=0;generalize sth k 256=m at this;have e:m=0\/m=1:=by omega
 rcases e with e | e <;> rw[e] <;> rfl
def dpt(F:CField K)(P:Pt K)(d:Nat):Pt K:=if d=1 then P else if d=2 then ME F P else .none
theorem Kj{P:Pt K}(hP:P.On F b)(d:Nat):(dpt F P d).On F b:=by
 unfold dpt
 split
 ·exact hP
 ·split
  ·exact WQ hP
  ·trivial
theorem WT[DecidableEq K](h:Curve F b){P:Pt K}(hP:P.On F b)(k:Nat):DJ F k P=Ba F (Ba F (DJ F (snx k) P) (DJ F (snx k) P)) (dpt F P (sdg k)):=by
 rw[<- Q8 h hP];by_cases h1:k%4=1
 ·have hs:sdg k=1:=by unfold sdg;rw[if_pos h1]
  have hn:snx k=k / 2:=by unfold snx;rw[if_neg τ];rfl
  rw[hs,hn];have:k=2*(k / 2)+1:=by omega
  exact(congrArg (fun n=>DJ F n P) this).trans rfl
 ·by_cases h3:k%4=3
  ·have hs:sdg k=2:=by unfold sdg;rw[if_neg h1,if_pos h3]
   have hn:2*snx k=k+1:=by unfold snx;rw[if_pos h3];omega
   rw[hs,hn];exact(TJ h (FE h hP k) hP).symm
  ·have hs:sdg k=0:=by unfold sdg;rw[if_neg h1,if_neg h3]
   have hn:2*snx k=k:=by unfold snx;rw[if_neg h3];omega
   rw[hs,hn];exact(Cw _).symm
def tot[DecidableEq K](F:CField K):List (Nat × Pt K)->Pt K
 | []=>.none
 | t::l=>Ba F (DJ F t.1 t.2) (tot F l)
def TK[DecidableEq K](F:CField K):List (Nat × Pt K)->Pt K
 | []=>.none
 | t::l=>Ba F (dpt F t.2 (sdg t.1)) (TK F l)
def OnL(F:CField K)(b:K)(l:List (Nat × Pt K)):Prop:=∀ t,t∈l->t.2.On F b
theorem OnL.tail{t:Nat × Pt K}{l:List (Nat × Pt K)}(h:OnL F b (t::l)):OnL F b l:=fun u hu=>h u (List.mem_cons_of_mem _ hu)
theorem OnL.head{t:Nat × Pt K}{l:List (Nat × Pt K)}(h:OnL F b (t::l)):t.2.On F b:=h t (List.mem_cons_self ..)
theorem MF[DecidableEq K](h:Curve F b):∀ {l:List (Nat × Pt K)},OnL F b l->(tot F l).On F b
 | [],_=>trivial
 | _::_,hl=>CJ h (FE h hl.head _) (MF h hl.tail)
theorem MG[DecidableEq K](h:Curve F b):∀ {l:List (Nat × Pt K)},OnL F b l->(TK F l).On F b
 | [],_=>trivial
 | _::_,hl=>CJ h (Kj hl.head _) (MG h hl.tail)
def nexts(l:List (Nat × Pt K)):List (Nat × Pt K):=l.map fun t=>(snx t.1,t.2)
def ths(l:List (Nat × Pt K))(i:Nat):List (Nat × Pt K):=l.map fun t=>(sth t.1 i,t.2)
theorem WU(l:List (Nat × Pt K))(i:Nat):ths l (i+1)=nexts (ths l i):=by
 unfold ths nexts;rw[List.map_map];rfl
theorem WV(l:List (Nat × Pt K)):ths l 0=l:=by
 unfold ths;exact List.map_id' l
theorem MH{l:List (Nat × Pt K)}(h:OnL F b l)(i:Nat):OnL F b (ths l i):=fun t ht=>by
 obtain⟨u,hu,e⟩:=List.mem_map.1 ht;rw[<- e];exact h u hu
theorem WW{l:List (Nat × Pt K)}(h:OnL F b l):OnL F b (nexts l):=fun t ht=>by
 obtain⟨u,hu,e⟩:=List.mem_map.1 ht;rw[<- e];exact h u hu
theorem Oi[DecidableEq K](h:Curve F b):∀ {l:List (Nat × Pt K)},OnL F b l->tot F l=Ba F (Ba F (tot F (nexts l)) (tot F (nexts l))) (TK F l)
 | [],_=>rfl
 | t::l,hl=>by
  have hA:=FE h hl.head (snx t.1);have hB:=MF h (WW hl.tail);show Ba F (DJ F t.1 t.2) (tot F l)=Ba F (Ba F (Ba F (DJ F (snx t.1) t.2) (tot F (nexts l))) (Ba F (DJ F (snx t.1) t.2) (tot F (nexts l)))) (Ba F (dpt F t.2 (sdg t.1)) (TK F l));rw[Lc h hA hB hA hB,Lc h (CJ h hA hA) (CJ h hB hB) (Kj hl.head _) (MG h hl.tail),<- WT h hl.head,<- Oi h hl.tail]
theorem Ld[DecidableEq K](h:Curve F b):∀ {l:List (Nat × Pt K)},OnL F b l->∀ a:Pt K,a.On F b->l.foldl (fun a t=>Ba F a (dpt F t.2 (sdg t.1))) a=Ba F a (TK F l)
 | [],_,a,_=>(Cw a).symm
 | t::l,hl,a,ha=>by
  show l.foldl _ (Ba F a (dpt F t.2 (sdg t.1)))=Ba F a (Ba F (dpt F t.2 (sdg t.1)) (TK F l));rw[Ld h hl.tail _ (CJ h ha (Kj hl.head _)),Cq h.root h.two ha (Kj hl.head _) (MG h hl.tail)]
theorem Oj[DecidableEq K]:∀ l:List (Nat × Pt K),(∀ t,t∈l->t.1=0)->tot F l=.none
 | [],_=>rfl
 | t::l,hl=>by
  show Ba F (DJ F t.1 t.2) (tot F l)=.none;rw[hl t (List.mem_cons_self ..),Oj l fun u hu=>hl u (List.mem_cons_of_mem _ hu)];rfl
theorem A07[DecidableEq K]{l:List (Nat × Pt K)}(hl:∀ t,t∈l->t.1<2^256):tot F (ths l 257)=.none :=
 Oj _ fun t ht=>by
  obtain⟨u,hu,e⟩:=List.mem_map.1 ht;rw[<- e];exact A06 (hl u hu)
theorem TL[DecidableEq K](h:Curve F b){l:List (Nat × Pt K)}(hl:OnL F b l)(i:Nat):(ths l i).foldl (fun a t=>Ba F a (dpt F t.2 (sdg t.1))) (Ba F (tot F (ths l (i+1))) (tot F (ths l (i+1))))=tot F (ths l i):=by
 have ho:=MF h (MH hl (i+1));rw[Ld h (MH hl i) _ (CJ h ho ho),Oi h (MH hl i),WU]
end
open Go.RowKit
theorem A47(x:Nat):(pw x)[0]?=some (.int .u64 ((x%18446744073709551616:Nat):Int)):=rfl
theorem A2o{w:World}{g o:Nat}{cs:Array Value}{t:TypeId}{b:Int}(hg:w.heap[g]?=some (.cells cs t (0,0)))(hc:cs[o]?=some (.int .u64 b)):(Instr.loadAt 22 (.pointer (some ⟨g,o,none⟩))).run Tryz.prog w=.ok (.int .u64 b) w:=by
 have c0:w.cell? ⟨g,o,none⟩=some (.int .u64 b):=(cell_of_row _ _ o _ _ _ hg).trans hc
 go_simp
theorem WX(x:Nat)(w:World):(binOp BinOp.rem 22 (.int .u64 ((x%18446744073709551616:Nat):Int)) (.int .u64 4)).run Tryz.prog w=.ok (.int .u64 ((x%4:Nat):Int)) w:=by
 have h:((x:Int)%18446744073709551616).tmod 4=(x:Int)%4:=by
  rw[Int.tmod_eq_emod_of_nonneg τ];omega
 have h2:IntKind.u64.wrap ((x%4:Nat):Int)=((x%4:Nat):Int):=by
  rw[IntKind.wrap_u64];omega
 go_simp
theorem Rn(x y:Int)(w:World):(binOp BinOp.eql 22 (.int .u64 x) (.int .u64 y)).run Tryz.prog w=.ok (.bool (x == y)) w:=by kernel_rfl
theorem Ro{x:Nat}{y:Int}(h:(x:Int)=y)(w:World):(binOp BinOp.eql 22 (.int .u64 (x:Nat)) (.int .u64 y)).run Tryz.prog w=.ok (.bool true) w:=by
 rw[Rn,h];simp
theorem WY{x:Nat}{y:Int}(h:¬(x:Int)=y)(w:World):(binOp BinOp.eql 22 (.int .u64 (x:Nat)) (.int .u64 y)).run Tryz.prog w=.ok (.bool false) w:=by
 rw[Rn];simp[h]
section
variable {P:Program} {ops:Array Oper} {Q:Exit->Act->World->Prop} {rest:List Oper} {o:Oper} {a:Act} {w:World}
theorem WZ{T:TypeId}{x y:Operand}{u v:Value}{w':World}(hgd:o.guard=none)(hd:o.dst=none)(ho:o.op=.store T x y)(hx:a.eval x=u)(hy:a.eval y=v)(hr:(Instr.storeAt T u v).run P w=.ok () w')(h:wpList P ops Q rest a w'):wpList P ops Q (o::rest) a w :=
 wpList_plain hgd fun K hK=>by
  unfold Oper.wp execOp;rw[ho];simp only[hx,hy,Sem.run_bind,hr,Result.andThen_ok,Sem.run_pure];show K (a.put o.dst undef) w';rw[hd];exact hK _ _ h
end
theorem X3{w:World}{g j:Nat}{cs:Array Value}{t:TypeId}{v:Int}(hg:w.heap[g]?=some (.cells cs t (0,0)))(hj:j<cs.size):(Instr.storeAt 3 (.pointer (some ⟨g,j,none⟩)) (.int .i64 v)).run Tryz.prog w=.ok () (w.setCell ⟨g,j,none⟩ (.int .i64 v)):=by
 have hc:w.cell? ⟨g,j,none⟩=some cs[j]:=(cell_of_row _ _ j _ _ _ hg).trans (Array.getElem?_eq_getElem hj);have hf:w.frozen? ⟨g,j,none⟩=false:=frozen_of_row w g j cs t hg;obtain⟨u,hu⟩:∃ u,cs[j]=u:=⟨_,rfl⟩
 rw[hu]at hc;clear hg hu hj
 go_simp
theorem HC.cell{w wx:World}{g:Nat}{c0:Array Value}{T:TypeId}(A B:List (Nat × Array Value × TypeId))(c:HC w (A++(g,c0,T)::B) wx)(j:Nat)(v:Value):HC w (A++(g,c0.setIfInBounds j v,T)::B) (wx.setCell ⟨g,j,none⟩ v):=by
 have h:=HC.set A B c (c0.setIfInBounds j v);have hg:=(c.rows (g,c0,T) υ).2;rwa [setCell_eq_setRow wx g j c0 T (0,0) v hg]
def dgt(k i j:Nat):Int:=if j<i then ((sdg (sth k j):Nat):Int)else 0
theorem Ol{k i:Nat}{d:Int}(hi:i<257)(h:((sdg (sth k i):Nat):Int)=d):(ar .i64 257 (dgt k i)).setIfInBounds (0+i*1) (.int .i64 d)=ar .i64 257 (dgt k (i+1)):=by
 rw[show 0+i*1=i by omega,Cg _ _ _ _ _ hi];refine Ch fun j _=>?_;unfold Es dgt;by_cases e:j=i
 ·subst e;rw[if_pos rfl,if_pos τ,h]
 ·rw[if_neg e]
  by_cases h2:j<i
  ·rw[if_pos h2,if_pos τ]
  ·rw[if_neg h2,if_neg τ]
theorem X4{k i:Nat}(h:sdg (sth k i)=0):ar .i64 257 (dgt k i)=ar .i64 257 (dgt k (i+1)):=by
 refine Ch fun j _=>?_;unfold dgt;by_cases e:j=i
 ·subst e;rw[if_neg τ,if_pos τ,h];rfl
 ·by_cases h2:j<i
  ·rw[if_pos h2,if_pos τ]
  ·rw[if_neg h2,if_neg τ]
theorem tq{a b:Act}{l:List Oper}(e:∀ t,Bd l t=false->b.tmps.getD t undef=a.tmps.getD t undef){t:Nat}{v:Value}(k:a.tmps.getD t undef=v)(h:Bd l t=false:=by kernel_rfl):b.tmps.getD t undef=v:=(e t h).trans k
theorem tp{a b:Act}{d:Nat}(e:∀ t,t≠d->b.tmps.getD t undef=a.tmps.getD t undef){t:Nat}{v:Value}(k:a.tmps.getD t undef=v)(h:t≠d:=by decide):b.tmps.getD t undef=v:=(e t h).trans k
open Go.RowKit
theorem Om(k:Nat)(hk:k<2^256)(w:World):Calls Tryz.prog 82 #[.agg (pw k)] w fun r w'=>r=.returned (.agg (ar .i64 257 (dgt k 257)))/\Below w.heap.size w w':=by
 refine enter Tryz.func82 rfl ?_;intro a0 z0 D0 e0;have z0:a0.tmps.size=29:=z0;have k0_0:a0.tmps.getD 0 undef=.agg (pw k):=e0 0;have H0:HC w [] w:=HC.start w;refine wp_seq ?_;refine wp_region_list ?_;refine Eu (z:=pw k) (T:=24) rfl rfl (by rw[z0];decide) (Fx rfl k0_0 rfl) ?_;intro a1 y1 d1 e1 k1_1;have z1:=y1.trans z0;have D1:=d1.trans D0;have k0_1:=tp e1 k0_0;obtain⟨g1_1,hg1⟩:∃ g,w.heap.size=g:=⟨_,rfl⟩
 have H1:HC w [(g1_1,pw k,24)] (w.alloc (.cells (pw k) 24)):=hg1 ▸ H0.new (pw k) 24;rw[hg1]at k1_1;generalize w.alloc (.cells (pw k) 24)=w1 at H1 |-
 clear hg1 e1 y1 d1 H0 k0_0 z0 D0;refine Eu (z:=ar .i64 257 (dgt k 0)) (T:=96) rfl rfl (by rw[z1];decide) ω ?_;intro a2 y2 d2 e2 k2_2;have z2:=y2.trans z1;have D2:=d2.trans D1;have k0_2:=tp e2 k0_1;have k1_2:=tp e2 k1_1;obtain⟨g2_2,hg2⟩:∃ g,w1.heap.size=g:=⟨_,rfl⟩
 have H2:HC w [(g2_2,ar .i64 257 (dgt k 0),96),(g1_1,pw k,24)] (w1.alloc (.cells (ar .i64 257 (dgt k 0)) 96)):=hg2 ▸ H1.new (ar .i64 257 (dgt k 0)) 96;rw[hg2]at k2_2;generalize w1.alloc (.cells (ar .i64 257 (dgt k 0)) 96)=w2 at H2 |-
 clear hg2 e2 y2 d2 H1 k0_1 k1_1 z1 D1;refine wpList_nil ?_;refine A9 ?_;refine wp_seq ?_;refine wp_region_list ?_;refine Eu (z:=ar .i64 257 (dgt k 0)) (T:=96) rfl rfl (by rw[z2];decide) ω ?_;intro a3 y3 d3 e3 k3_3;have z3:=y3.trans z2;have D3:=d3.trans D2;have k0_3:=tp e3 k0_2;have k1_3:=tp e3 k1_2;have k2_3:=tp e3 k2_2;obtain⟨g3_3,hg3⟩:∃ g,w2.heap.size=g:=⟨_,rfl⟩
 have H3:HC w [(g3_3,ar .i64 257 (dgt k 0),96),(g2_2,ar .i64 257 (dgt k 0),96),(g1_1,pw k,24)] (w2.alloc (.cells (ar .i64 257 (dgt k 0)) 96)):=hg3 ▸ H2.new (ar .i64 257 (dgt k 0)) 96;rw[hg3]at k3_3;generalize w2.alloc (.cells (ar .i64 257 (dgt k 0)) 96)=w3 at H3 |-
 clear hg3 e3 y3 d3 H2 k0_2 k1_2 k2_2 z2 D2;refine wpList_nil ?_;refine A9 ?_;refine wp_seq ?_;refine wp_seq ?_;refine Av 1 [.val 6 (.int .i64 0)] [] (fun _=>#[]) ω (by exact⟨trivial,trivial⟩) (fun p hp=>by cases hp) ?_ ?_
 ·refine⟨?_,trivial⟩
  ·intro ac wx hC hsz hK
   exact Ap (.int .i64 0) rfl ω (run_assign (.inr rfl) rfl) hC ω (by rw[hsz,z3];decide) rfl
 intro a4 w4 y4 d4 e4 b4 n4 f4;have z4:=y4.trans z3;have D4:=d4.trans D3;have k0_4:=tq e4 k0_3;have k1_4:=tq e4 k1_3;have k2_4:=tq e4 k2_3;have k3_4:=tq e4 k3_3;have k6_4:a4.tmps.getD 6 undef=.int .i64 0:=f4 0 (by decide);have H4:=H3.below b4;clear f4 e4 n4 y4 d4 b4 H3 k0_3 k1_3 k2_3 k3_3 z3 D3;refine wpList_nil ?_;refine A9 ?_;refine wp_block ?_;refine wp_loop (fun a wr=>∃ i:Nat,∃ kk:Nat,(i<=257/\sth k i=kk/\kk<2^256)/\a.tmps.size=29/\a.defers=[]/\a.tmps.getD 0 undef=.agg (pw k)/\a.tmps.getD 1 undef=.pointer (some ⟨g1_1,0,none⟩)/\a.tmps.getD 2 undef=.pointer (some ⟨g2_2,0,none⟩)/\a.tmps.getD 3 undef=.pointer (some ⟨g3_3,0,none⟩)/\a.tmps.getD 6 undef=.int .i64 ((i:Nat))/\HC w [(g3_3,ar .i64 257 (dgt k i),96),(g2_2,ar .i64 257 (dgt k 0),96),(g1_1,pw kk,24)] wr) (fun a _=>257 - (intOf (a.tmps.getD 6 undef)).toNat) ⟨0,k,⟨Nat.zero_le _,rfl,hk⟩,z4,D4,k0_4,k1_4,k2_4,k3_4,k6_4,H4⟩ ?_;clear z4 D4 H4 k0_4 k1_4 k2_4 k3_4 k6_4;rintro a5 w5 ⟨i,kk,hP5,z5,D5,k0_5,k1_5,k2_5,k3_5,k6_5,H5⟩;have m5:(intOf (a5.tmps.getD 6 undef)).toNat=i:=by rw[k6_5];rfl
 rename i<=257/\_=>hP
 have hi0:=hP.1;have hkk:=hP.2.2;refine wp_seq ?_;by_cases hc7:((i:Nat):Int)<(257:Int)
 ·refine Av 1 [.val 7 (.bool true)] [] (fun _=>#[]) ω (by exact⟨trivial,trivial⟩) (fun p hp=>by cases hp) ?_ ?_
  ·refine⟨?_,trivial⟩
   ·intro ac wx hC hsz hK
    have h0:ac.tmps.getD 6 undef=.int .i64 ((i:Nat)):=(hK.1 6 ω).trans k6_5;exact CS .lss 3 (.tmp 6) (.const (.int .i64 257)) 3 (.int .i64 ((i:Nat))) (.int .i64 257) (.bool true) rfl rfl ω h0 rfl ω (LV hc7 wx) hC ω (by rw[hsz,z5];decide) rfl
  intro a8 w8 y8 d8 e8 b8 n8 f8;have z8:=y8.trans z5;have D8:=d8.trans D5;have k0_8:=tq e8 k0_5;have k1_8:=tq e8 k1_5;have k2_8:=tq e8 k2_5;have k3_8:=tq e8 k3_5;have k6_8:=tq e8 k6_5;have k7_8:a8.tmps.getD 7 undef=.bool true:=f8 0 (by decide);have H8:=H5.below b8;clear f8 e8 n8 y8 d8 b8 H5 k0_5 k1_5 k2_5 k3_5 k6_5 z5 D5;refine wpList_nil ?_;refine A9 ?_;refine wp_seq ?_;refine wp_cond_true k7_8 ?_;refine wp_skip ?_;refine A9 ?_;refine wp_seq ?_;refine wp_block ?_;refine wp_seq ?_;refine Av 2 [.val 8 (.int .i64 ((i:Nat))),.val 4 (.int .i64 ((i:Nat)))] [] (fun _=>#[]) ω (by exact⟨trivial,trivial,trivial⟩) (fun p hp=>by cases hp) ?_ ?_
  ·refine⟨?_,?_,trivial⟩
   ·intro ac wx hC hsz hK
    have h0:ac.tmps.getD 6 undef=.int .i64 ((i:Nat)):=(hK.1 6 ω).trans k6_8;exact Ap (.int .i64 ((i:Nat))) rfl ω (run_assign (.inr rfl) h0) hC ω (by rw[hsz,z8];decide) rfl
   ·intro ac wx hC hsz hK
    have h0:ac.tmps.getD 8 undef=.int .i64 ((i:Nat)):=hK.2 ⟨0,.data⟩ υ rfl _ rfl;exact Ap (.int .i64 ((i:Nat))) rfl ω (run_assign (.inl rfl) h0) hC ω (by rw[hsz,z8];decide) rfl
  intro a9 w9 y9 d9 e9 b9 n9 f9;have z9:=y9.trans z8;have D9:=d9.trans D8;have k0_9:=tq e9 k0_8;have k1_9:=tq e9 k1_8;have k2_9:=tq e9 k2_8;have k3_9:=tq e9 k3_8;have k6_9:=tq e9 k6_8;have k7_9:=tq e9 k7_8;have k4_9:a9.tmps.getD 4 undef=.int .i64 ((i:Nat)):=f9 1 (by decide);have H9:=H8.below b9;clear f9 e9 n9 y9 d9 b9 H8 k0_8 k1_8 k2_8 k3_8 k6_8 k7_8 z8 D8;refine wpList_nil ?_;refine A9 ?_;refine wp_seq ?_;obtain⟨x0,qx0⟩:∃ v,kk / 2^1=v:=⟨_,rfl⟩
  have bx0:x0<2^256:=by rw[<- qx0];exact Nat.lt_of_le_of_lt (Nat.div_le_self _ _) hkk
  refine J3 5 [.val 9 (.agg (pw 1)),.val 10 (.agg (pw kk)),.val 11 (.agg (pw x0)),.blk 5 24,.laid 5 24] [5] (fun _=>pw x0) ω ω (by exact⟨trivial,trivial,trivial,(by simp[Sp.ok]),(by simp[Sp.ok]),trivial⟩) (by intro p hp q hq hne;simp only[List.mem_cons,List.not_mem_nil,or_false]at hp hq;exact absurd (hp.trans hq.symm) hne) ?_ ?_
  ·refine⟨?_,?_,?_,?_,?_,trivial⟩
   ·intro ac wx hC hsz hK
    refine Bb 70 #[(.int .u64 1)] (.agg (pw 1)) rfl ω ω ?_ hC ω (by rw[hsz,z9];decide) rfl;exact FL 1 τ wx
   ·intro ac wx hC hsz hK
    have h0:ac.tmps.getD 1 undef=.pointer (some ⟨g1_1,0,none⟩):=(hK.1 1 ω).trans k1_9;exact Ak 24 (.tmp 1) (.pointer (some ⟨g1_1,0,none⟩)) (.agg (pw kk)) rfl rfl ω h0 (BV ((H9.below hC.1).is (.tail _ (.tail _ (.head _)))) Tryz.underlying24 rfl ω) hC ω (by rw[hsz,z9];decide) rfl
   ·intro ac wx hC hsz hK
    have h0:ac.tmps.getD 9 undef=.agg (pw 1):=hK.2 ⟨0,.data⟩ υ rfl _ rfl;have h1:ac.tmps.getD 10 undef=.agg (pw kk):=hK.2 ⟨1,.data⟩ υ rfl _ rfl;refine Bb 69 #[ac.tmps.getD 9 undef,ac.tmps.getD 10 undef] (.agg (pw x0)) rfl ω ω ?_ hC ω (by rw[hsz,z9];decide) rfl;rw[h0,h1];exact(by have h:=A1u 1 kk τ hkk wx;rw[qx0]at h;exact h)
   ·intro ac wx hC hsz hK
    exact Cx 24 (pw 0) rfl ω ω hC ω (by rw[hsz,z9];decide) rfl
   ·intro ac wx hC hsz hK
    have h0:ac.tmps.getD 11 undef=.agg (pw x0):=hK.2 ⟨2,.data⟩ υ rfl _ rfl;exact Br (p:=5) 24 (.tmp 5) (.tmp 11) _ rfl rfl ω rfl h0 υ (hK.2 ⟨3,.data⟩ υ rfl _ rfl) (fun D cs h3 h4=>Po h3 ω h4 ω) hC rfl
  intro a10 w10 y10 d10 e10 b10 n10 f10;have z10:=y10.trans z9;have D10:=d10.trans D9;have k0_10:=tq e10 k0_9;have k1_10:=tq e10 k1_9;have k2_10:=tq e10 k2_9;have k3_10:=tq e10 k3_9;have k4_10:=tq e10 k4_9;have k6_10:=tq e10 k6_9;have k7_10:=tq e10 k7_9;obtain⟨g5_10,k5_10,ge5_10,r5_10⟩:=f10 4 (by decide);have k5_10:a10.tmps.getD 5 undef=.pointer (some ⟨g5_10,0,none⟩):=k5_10;have H10:HC w [(g5_10,pw x0,24),(g3_3,ar .i64 257 (dgt k i),96),(g2_2,ar .i64 257 (dgt k 0),96),(g1_1,pw kk,24)] w10:=H9.cons b10 ge5_10 r5_10;clear f10 e10 n10 y10 d10 b10 ge5_10 r5_10 H9 k0_9 k1_9 k2_9 k3_9 k4_9 k6_9 k7_9 z9 D9;refine wpList_nil ?_;refine A9 ?_;refine wp_seq ?_;refine wp_seq ?_;refine Av 3 [.val 12 (.pointer (some ⟨g1_1,0,none⟩)),.val 13 (.int .u64 ((kk%18446744073709551616:Nat))),.val 14 (.int .u64 ((kk%4:Nat)))] [] (fun _=>#[]) ω (by exact⟨trivial,trivial,trivial,trivial⟩) (fun p hp=>by cases hp) ?_ ?_
  ·refine⟨?_,?_,?_,trivial⟩
   ·intro ac wx hC hsz hK
    have h0:ac.tmps.getD 1 undef=.pointer (some ⟨g1_1,0,none⟩):=(hK.1 1 ω).trans k1_10;refine Be (Instr.indexAt 24 (ac.tmps.getD 1 undef) ((.int .i64 0))) (.pointer (some ⟨g1_1,0,none⟩)) rfl ω ω ?_ hC ω (by rw[hsz,z10];decide) rfl;rw[h0];exact Eg (sz:=1) (g:=g1_1) (o:=0) (i:=0) Tryz.underlying24 ω τ wx
   ·intro ac wx hC hsz hK
    have h0:ac.tmps.getD 12 undef=.pointer (some ⟨g1_1,0,none⟩):=hK.2 ⟨0,.data⟩ υ rfl _ rfl;exact Ak 22 (.tmp 12) (.pointer (some ⟨g1_1,0,none⟩)) (.int .u64 ((kk%18446744073709551616:Nat))) rfl rfl ω h0 (A2o ((H10.below hC.1).is (.tail _ (.tail _ (.tail _ (.head _))))) (A47 kk)) hC ω (by rw[hsz,z10];decide) rfl
   ·intro ac wx hC hsz hK
    have h0:ac.tmps.getD 13 undef=.int .u64 ((kk%18446744073709551616:Nat)):=hK.2 ⟨1,.data⟩ υ rfl _ rfl;exact CS .rem 22 (.tmp 13) (.const (.int .u64 4)) 22 (.int .u64 ((kk%18446744073709551616:Nat))) (.int .u64 4) (.int .u64 ((kk%4:Nat))) rfl rfl ω h0 rfl ω (WX kk wx) hC ω (by rw[hsz,z10];decide) rfl
  intro a11 w11 y11 d11 e11 b11 n11 f11;have z11:=y11.trans z10;have D11:=d11.trans D10;have k0_11:=tq e11 k0_10;have k1_11:=tq e11 k1_10;have k2_11:=tq e11 k2_10;have k3_11:=tq e11 k3_10;have k4_11:=tq e11 k4_10;have k5_11:=tq e11 k5_10;have k6_11:=tq e11 k6_10;have k7_11:=tq e11 k7_10;have k14_11:a11.tmps.getD 14 undef=.int .u64 ((kk%4:Nat)):=f11 2 (by decide);have H11:=H10.below b11;clear f11 e11 n11 y11 d11 b11 H10 k0_10 k1_10 k2_10 k3_10 k4_10 k5_10 k6_10 k7_10 z10 D10;refine wpList_nil ?_;refine A9 ?_;refine wp_block ?_;refine wp_seq ?_;by_cases hc13:kk%4=1
  ·refine Av 2 [.val 16 (.bool true),.val 15 (.bool true)] [] (fun _=>#[]) ω (by exact⟨trivial,trivial,trivial⟩) (fun p hp=>by cases hp) ?_ ?_
   ·refine⟨?_,?_,trivial⟩
    ·intro ac wx hC hsz hK
     have h0:ac.tmps.getD 14 undef=.int .u64 ((kk%4:Nat)):=(hK.1 14 ω).trans k14_11;exact CS .eql 22 (.tmp 14) (.const (.int .u64 1)) 22 (.int .u64 ((kk%4:Nat))) (.int .u64 1) (.bool true) rfl rfl ω h0 rfl ω (Ro τ wx) hC ω (by rw[hsz,z11];decide) rfl
    ·intro ac wx hC hsz hK
     have h0:ac.tmps.getD 16 undef=.bool true:=hK.2 ⟨0,.data⟩ υ rfl _ rfl;exact Ap (.bool true) rfl ω (run_assign (.inl rfl) h0) hC ω (by rw[hsz,z11];decide) rfl
   intro a14 w14 y14 d14 e14 b14 n14 f14;have z14:=y14.trans z11;have D14:=d14.trans D11;have k0_14:=tq e14 k0_11;have k1_14:=tq e14 k1_11;have k2_14:=tq e14 k2_11;have k3_14:=tq e14 k3_11;have k4_14:=tq e14 k4_11;have k5_14:=tq e14 k5_11;have k6_14:=tq e14 k6_11;have k7_14:=tq e14 k7_11;have k14_14:=tq e14 k14_11;have k15_14:a14.tmps.getD 15 undef=.bool true:=f14 1 (by decide);have H14:=H11.below b14;clear f14 e14 n14 y14 d14 b14 H11 k0_11 k1_11 k2_11 k3_11 k4_11 k5_11 k6_11 k7_11 k14_11 z11 D11;refine wpList_nil ?_;refine A9 ?_;refine wp_cond_true k15_14 ?_;refine Av 2 [.val 17 (.int .i64 ((i:Nat))),.val 18 (.pointer (some ⟨g3_3,0+i*1,none⟩))] [] (fun _=>#[]) ω (by exact⟨trivial,trivial,trivial⟩) (fun p hp=>by cases hp) ?_ ?_
   ·refine⟨?_,?_,trivial⟩
    ·intro ac wx hC hsz hK
     have h0:ac.tmps.getD 4 undef=.int .i64 ((i:Nat)):=(hK.1 4 ω).trans k4_14;exact Ap (.int .i64 ((i:Nat))) rfl ω (run_assign (.inr rfl) h0) hC ω (by rw[hsz,z14];decide) rfl
    ·intro ac wx hC hsz hK
     have h0:ac.tmps.getD 3 undef=.pointer (some ⟨g3_3,0,none⟩):=(hK.1 3 ω).trans k3_14;have h1:ac.tmps.getD 17 undef=.int .i64 ((i:Nat)):=hK.2 ⟨0,.data⟩ υ rfl _ rfl;refine Be (Instr.indexAt 96 (ac.tmps.getD 3 undef) (ac.tmps.getD 17 undef)) (.pointer (some ⟨g3_3,0+i*1,none⟩)) rfl ω ω ?_ hC ω (by rw[hsz,z14];decide) rfl;rw[h0,h1];exact Eg (sz:=1) (g:=g3_3) (o:=0) (i:=i) Tryz.underlying96 ω τ wx
   intro a15 w15 y15 d15 e15 b15 n15 f15;have z15:=y15.trans z14;have D15:=d15.trans D14;have k0_15:=tq e15 k0_14;have k1_15:=tq e15 k1_14;have k2_15:=tq e15 k2_14;have k3_15:=tq e15 k3_14;have k4_15:=tq e15 k4_14;have k5_15:=tq e15 k5_14;have k6_15:=tq e15 k6_14;have k7_15:=tq e15 k7_14;have k14_15:=tq e15 k14_14;have k15_15:=tq e15 k15_14;have k18_15:a15.tmps.getD 18 undef=.pointer (some ⟨g3_3,0+i*1,none⟩):=f15 1 (by decide);have H15:=H14.below b15;clear f15 e15 n15 y15 d15 b15 H14 k0_14 k1_14 k2_14 k3_14 k4_14 k5_14 k6_14 k7_14 k14_14 k15_14 z14 D14;refine WZ rfl rfl rfl k18_15 rfl (X3 (H15.is (.tail _ (.head _))) (by rw[AO];omega)) ?_;have H16:HC w [(g5_10,pw x0,24),(g3_3,(ar .i64 257 (dgt k i)).setIfInBounds (0+i*1) (.int .i64 1),96),(g2_2,ar .i64 257 (dgt k 0),96),(g1_1,pw kk,24)] (w15.setCell ⟨g3_3,0+i*1,none⟩ (.int .i64 1)):=HC.cell [(g5_10,pw x0,24)] [(g2_2,ar .i64 257 (dgt k 0),96),(g1_1,pw kk,24)] H15 _ _;generalize w15.setCell ⟨g3_3,0+i*1,none⟩ (.int .i64 1)=w16 at H16 |-
   clear H15;refine wpList_nil ?_;refine BL ?_;refine A9 ?_;refine Av 1 [.val 26 (.agg (pw x0))] [] (fun _=>#[]) ω (by exact⟨trivial,trivial⟩) (fun p hp=>by cases hp) ?_ ?_
   ·refine⟨?_,trivial⟩
    ·intro ac wx hC hsz hK
     have h0:ac.tmps.getD 5 undef=.pointer (some ⟨g5_10,0,none⟩):=(hK.1 5 ω).trans k5_15;exact Ak 24 (.tmp 5) (.pointer (some ⟨g5_10,0,none⟩)) (.agg (pw x0)) rfl rfl ω h0 (BV ((H16.below hC.1).is (.head _)) Tryz.underlying24 rfl ω) hC ω (by rw[hsz,z15];decide) rfl
   intro a17 w17 y17 d17 e17 b17 n17 f17;have z17:=y17.trans z15;have D17:=d17.trans D15;have k0_17:=tq e17 k0_15;have k1_17:=tq e17 k1_15;have k2_17:=tq e17 k2_15;have k3_17:=tq e17 k3_15;have k4_17:=tq e17 k4_15;have k5_17:=tq e17 k5_15;have k6_17:=tq e17 k6_15;have k7_17:=tq e17 k7_15;have k14_17:=tq e17 k14_15;have k15_17:=tq e17 k15_15;have k18_17:=tq e17 k18_15;have k26_17:a17.tmps.getD 26 undef=.agg (pw x0):=f17 0 (by decide);have H17:=H16.below b17;clear f17 e17 n17 y17 d17 b17 H16 k0_15 k1_15 k2_15 k3_15 k4_15 k5_15 k6_15 k7_15 k14_15 k15_15 k18_15 z15 D15;refine Cj rfl rfl rfl k1_17 k26_17 (H17.is (.tail _ (.tail _ (.tail _ (.head _))))) ω ω ω ?_;have H18:HC w [(g5_10,pw x0,24),(g3_3,(ar .i64 257 (dgt k i)).setIfInBounds (0+i*1) (.int .i64 1),96),(g2_2,ar .i64 257 (dgt k 0),96),(g1_1,pw x0,24)] (w17.setRow g1_1 (pw x0)):=HC.set [(g5_10,pw x0,24),(g3_3,(ar .i64 257 (dgt k i)).setIfInBounds (0+i*1) (.int .i64 1),96),(g2_2,ar .i64 257 (dgt k 0),96)] [] H17 (pw x0);generalize w17.setRow g1_1 (pw x0)=w18 at H18 |-
   clear H17;refine wpList_nil ?_;refine BL ?_;refine A9 ?_;refine wp_region_list ?_;refine AZ (v:=.int .i64 ((i+1:Nat))) rfl rfl (by rw[z17];decide) (Ev (u:=.int .i64 ((i:Nat))) (v:=.int .i64 1) rfl k6_17 rfl ω (JH τ τ τ w18)) ?_;intro a19 y19 d19 e19 k27_19;have z19:=y19.trans z17;have D19:=d19.trans D17;have k0_19:=tp e19 k0_17;have k1_19:=tp e19 k1_17;have k2_19:=tp e19 k2_17;have k3_19:=tp e19 k3_17;have k4_19:=tp e19 k4_17;have k5_19:=tp e19 k5_17;have k6_19:=tp e19 k6_17;have k7_19:=tp e19 k7_17;have k14_19:=tp e19 k14_17;have k15_19:=tp e19 k15_17;have k18_19:=tp e19 k18_17;have k26_19:=tp e19 k26_17;clear e19 y19 d19 k0_17 k1_17 k2_17 k3_17 k4_17 k5_17 k6_17 k7_17 k14_17 k15_17 k18_17 k26_17 z17 D17;refine AZ (v:=.int .i64 ((i+1:Nat))) rfl rfl (by rw[z19];decide) (run_assign (.inr rfl) k27_19) ?_;intro a20 y20 d20 e20 k6_20;have z20:=y20.trans z19;have D20:=d20.trans D19;have k0_20:=tp e20 k0_19;have k1_20:=tp e20 k1_19;have k2_20:=tp e20 k2_19;have k3_20:=tp e20 k3_19;have k4_20:=tp e20 k4_19;have k5_20:=tp e20 k5_19;have k7_20:=tp e20 k7_19;have k14_20:=tp e20 k14_19;have k15_20:=tp e20 k15_19;have k18_20:=tp e20 k18_19;have k26_20:=tp e20 k26_19;have k27_20:=tp e20 k27_19;clear e20 y20 d20 k0_19 k1_19 k2_19 k3_19 k4_19 k5_19 k6_19 k7_19 k14_19 k15_19 k18_19 k26_19 k27_19 z19 D19;refine wpList_nil ?_;have H21:HC w [(g3_3,(ar .i64 257 (dgt k i)).setIfInBounds (0+i*1) (.int .i64 1),96),(g2_2,ar .i64 257 (dgt k 0),96),(g1_1,pw x0,24)] w18:=H18.drop1;have H22:HC w [(g3_3,ar .i64 257 (dgt k (i+1)),96),(g2_2,ar .i64 257 (dgt k 0),96),(g1_1,pw x0,24)] w18:=by rw[show ar .i64 257 (dgt k (i+1))=(ar .i64 257 (dgt k i)).setIfInBounds (0+i*1) (.int .i64 1) from(Ol τ (by rw[hP.2.1];unfold sdg;rw[if_pos hc13];rfl)).symm];exact H21
   clear H21;refine A9 ⟨⟨(i+1),x0,⟨τ,by show snx (sth k i)=x0;rw[hP.2.1];unfold snx;rw[if_neg τ];omega,bx0⟩,z20,D20,k0_20,k1_20,k2_20,k3_20,k6_20,H22⟩,?_⟩;show 257 - (intOf (a20.tmps.getD 6 undef)).toNat<257 - (intOf (a5.tmps.getD 6 undef)).toNat;rw[k6_20,m5];simp[intOf];omega
  ·refine Av 2 [.val 16 (.bool false),.val 15 (.bool false)] [] (fun _=>#[]) ω (by exact⟨trivial,trivial,trivial⟩) (fun p hp=>by cases hp) ?_ ?_
   ·refine⟨?_,?_,trivial⟩
    ·intro ac wx hC hsz hK
     have h0:ac.tmps.getD 14 undef=.int .u64 ((kk%4:Nat)):=(hK.1 14 ω).trans k14_11;exact CS .eql 22 (.tmp 14) (.const (.int .u64 1)) 22 (.int .u64 ((kk%4:Nat))) (.int .u64 1) (.bool false) rfl rfl ω h0 rfl ω (WY τ wx) hC ω (by rw[hsz,z11];decide) rfl
    ·intro ac wx hC hsz hK
     have h0:ac.tmps.getD 16 undef=.bool false:=hK.2 ⟨0,.data⟩ υ rfl _ rfl;exact Ap (.bool false) rfl ω (run_assign (.inl rfl) h0) hC ω (by rw[hsz,z11];decide) rfl
   intro a23 w23 y23 d23 e23 b23 n23 f23;have z23:=y23.trans z11;have D23:=d23.trans D11;have k0_23:=tq e23 k0_11;have k1_23:=tq e23 k1_11;have k2_23:=tq e23 k2_11;have k3_23:=tq e23 k3_11;have k4_23:=tq e23 k4_11;have k5_23:=tq e23 k5_11;have k6_23:=tq e23 k6_11;have k7_23:=tq e23 k7_11;have k14_23:=tq e23 k14_11;have k15_23:a23.tmps.getD 15 undef=.bool false:=f23 1 (by decide);have H23:=H11.below b23;clear f23 e23 n23 y23 d23 b23 H11 k0_11 k1_11 k2_11 k3_11 k4_11 k5_11 k6_11 k7_11 k14_11 z11 D11;refine wpList_nil ?_;refine A9 ?_;refine wp_cond_false k15_23 ?_;refine wp_seq ?_;by_cases hc25:kk%4=3
   ·refine Av 2 [.val 20 (.bool true),.val 19 (.bool true)] [] (fun _=>#[]) ω (by exact⟨trivial,trivial,trivial⟩) (fun p hp=>by cases hp) ?_ ?_
    ·refine⟨?_,?_,trivial⟩
     ·intro ac wx hC hsz hK
      have h0:ac.tmps.getD 14 undef=.int .u64 ((kk%4:Nat)):=(hK.1 14 ω).trans k14_23;exact CS .eql 22 (.tmp 14) (.const (.int .u64 3)) 22 (.int .u64 ((kk%4:Nat))) (.int .u64 3) (.bool true) rfl rfl ω h0 rfl ω (Ro τ wx) hC ω (by rw[hsz,z23];decide) rfl
     ·intro ac wx hC hsz hK
      have h0:ac.tmps.getD 20 undef=.bool true:=hK.2 ⟨0,.data⟩ υ rfl _ rfl;exact Ap (.bool true) rfl ω (run_assign (.inl rfl) h0) hC ω (by rw[hsz,z23];decide) rfl
    intro a26 w26 y26 d26 e26 b26 n26 f26;have z26:=y26.trans z23;have D26:=d26.trans D23;have k0_26:=tq e26 k0_23;have k1_26:=tq e26 k1_23;have k2_26:=tq e26 k2_23;have k3_26:=tq e26 k3_23;have k4_26:=tq e26 k4_23;have k5_26:=tq e26 k5_23;have k6_26:=tq e26 k6_23;have k7_26:=tq e26 k7_23;have k14_26:=tq e26 k14_23;have k15_26:=tq e26 k15_23;have k19_26:a26.tmps.getD 19 undef=.bool true:=f26 1 (by decide);have H26:=H23.below b26;clear f26 e26 n26 y26 d26 b26 H23 k0_23 k1_23 k2_23 k3_23 k4_23 k5_23 k6_23 k7_23 k14_23 k15_23 z23 D23;refine wpList_nil ?_;refine A9 ?_;refine wp_cond_true k19_26 ?_;refine wp_seq ?_;refine Av 2 [.val 21 (.int .i64 ((i:Nat))),.val 22 (.pointer (some ⟨g3_3,0+i*1,none⟩))] [] (fun _=>#[]) ω (by exact⟨trivial,trivial,trivial⟩) (fun p hp=>by cases hp) ?_ ?_
    ·refine⟨?_,?_,trivial⟩
     ·intro ac wx hC hsz hK
      have h0:ac.tmps.getD 4 undef=.int .i64 ((i:Nat)):=(hK.1 4 ω).trans k4_26;exact Ap (.int .i64 ((i:Nat))) rfl ω (run_assign (.inr rfl) h0) hC ω (by rw[hsz,z26];decide) rfl
     ·intro ac wx hC hsz hK
      have h0:ac.tmps.getD 3 undef=.pointer (some ⟨g3_3,0,none⟩):=(hK.1 3 ω).trans k3_26;have h1:ac.tmps.getD 21 undef=.int .i64 ((i:Nat)):=hK.2 ⟨0,.data⟩ υ rfl _ rfl;refine Be (Instr.indexAt 96 (ac.tmps.getD 3 undef) (ac.tmps.getD 21 undef)) (.pointer (some ⟨g3_3,0+i*1,none⟩)) rfl ω ω ?_ hC ω (by rw[hsz,z26];decide) rfl;rw[h0,h1];exact Eg (sz:=1) (g:=g3_3) (o:=0) (i:=i) Tryz.underlying96 ω τ wx
    intro a27 w27 y27 d27 e27 b27 n27 f27;have z27:=y27.trans z26;have D27:=d27.trans D26;have k0_27:=tq e27 k0_26;have k1_27:=tq e27 k1_26;have k2_27:=tq e27 k2_26;have k3_27:=tq e27 k3_26;have k4_27:=tq e27 k4_26;have k5_27:=tq e27 k5_26;have k6_27:=tq e27 k6_26;have k7_27:=tq e27 k7_26;have k14_27:=tq e27 k14_26;have k15_27:=tq e27 k15_26;have k19_27:=tq e27 k19_26;have k22_27:a27.tmps.getD 22 undef=.pointer (some ⟨g3_3,0+i*1,none⟩):=f27 1 (by decide);have H27:=H26.below b27;clear f27 e27 n27 y27 d27 b27 H26 k0_26 k1_26 k2_26 k3_26 k4_26 k5_26 k6_26 k7_26 k14_26 k15_26 k19_26 z26 D26;refine WZ rfl rfl rfl k22_27 rfl (X3 (H27.is (.tail _ (.head _))) (by rw[AO];omega)) ?_;have H28:HC w [(g5_10,pw x0,24),(g3_3,(ar .i64 257 (dgt k i)).setIfInBounds (0+i*1) (.int .i64 2),96),(g2_2,ar .i64 257 (dgt k 0),96),(g1_1,pw kk,24)] (w27.setCell ⟨g3_3,0+i*1,none⟩ (.int .i64 2)):=HC.cell [(g5_10,pw x0,24)] [(g2_2,ar .i64 257 (dgt k 0),96),(g1_1,pw kk,24)] H27 _ _;generalize w27.setCell ⟨g3_3,0+i*1,none⟩ (.int .i64 2)=w28 at H28 |-
    clear H27;refine wpList_nil ?_;refine A9 ?_;obtain⟨x1,qx1⟩:∃ v,x0+1=v:=⟨_,rfl⟩
    have bx1:x1<2^256:=by rw[<- qx1];exact τ
    refine J3 3 [.val 23 (.agg (pw x0)),.val 24 (.agg (pw 1)),.val 25 (.agg (pw x1))] [] (fun _=>#[]) ω ω (by exact⟨trivial,trivial,trivial,trivial⟩) (fun p hp=>by cases hp) ?_ ?_
    ·refine⟨?_,?_,?_,trivial⟩
     ·intro ac wx hC hsz hK
      have h0:ac.tmps.getD 5 undef=.pointer (some ⟨g5_10,0,none⟩):=(hK.1 5 ω).trans k5_27;exact Ak 24 (.tmp 5) (.pointer (some ⟨g5_10,0,none⟩)) (.agg (pw x0)) rfl rfl ω h0 (BV ((H28.below hC.1).is (.head _)) Tryz.underlying24 rfl ω) hC ω (by rw[hsz,z27];decide) rfl
     ·intro ac wx hC hsz hK
      refine Bb 70 #[(.int .u64 1)] (.agg (pw 1)) rfl ω ω ?_ hC ω (by rw[hsz,z27];decide) rfl;exact FL 1 τ wx
     ·intro ac wx hC hsz hK
      have h0:ac.tmps.getD 23 undef=.agg (pw x0):=hK.2 ⟨0,.data⟩ υ rfl _ rfl;have h1:ac.tmps.getD 24 undef=.agg (pw 1):=hK.2 ⟨1,.data⟩ υ rfl _ rfl;refine Bb 68 #[ac.tmps.getD 23 undef,ac.tmps.getD 24 undef] (.agg (pw x1)) rfl ω ω ?_ hC ω (by rw[hsz,z27];decide) rfl;rw[h0,h1];exact(by have h:=Pn x0 1 wx;rw[qx1]at h;exact h)
    intro a29 w29 y29 d29 e29 b29 n29 f29;have z29:=y29.trans z27;have D29:=d29.trans D27;have k0_29:=tq e29 k0_27;have k1_29:=tq e29 k1_27;have k2_29:=tq e29 k2_27;have k3_29:=tq e29 k3_27;have k4_29:=tq e29 k4_27;have k5_29:=tq e29 k5_27;have k6_29:=tq e29 k6_27;have k7_29:=tq e29 k7_27;have k14_29:=tq e29 k14_27;have k15_29:=tq e29 k15_27;have k19_29:=tq e29 k19_27;have k22_29:=tq e29 k22_27;have k25_29:a29.tmps.getD 25 undef=.agg (pw x1):=f29 2 (by decide);have H29:=H28.below b29;clear f29 e29 n29 y29 d29 b29 H28 k0_27 k1_27 k2_27 k3_27 k4_27 k5_27 k6_27 k7_27 k14_27 k15_27 k19_27 k22_27 z27 D27;refine Cj rfl rfl rfl k5_29 k25_29 (H29.is (.head _)) ω ω ω ?_;have H30:HC w [(g5_10,pw x1,24),(g3_3,(ar .i64 257 (dgt k i)).setIfInBounds (0+i*1) (.int .i64 2),96),(g2_2,ar .i64 257 (dgt k 0),96),(g1_1,pw kk,24)] (w29.setRow g5_10 (pw x1)):=HC.set [] [(g3_3,(ar .i64 257 (dgt k i)).setIfInBounds (0+i*1) (.int .i64 2),96),(g2_2,ar .i64 257 (dgt k 0),96),(g1_1,pw kk,24)] H29 (pw x1);generalize w29.setRow g5_10 (pw x1)=w30 at H30 |-
    clear H29;refine wpList_nil ?_;refine BL ?_;refine A9 ?_;refine Av 1 [.val 26 (.agg (pw x1))] [] (fun _=>#[]) ω (by exact⟨trivial,trivial⟩) (fun p hp=>by cases hp) ?_ ?_
    ·refine⟨?_,trivial⟩
     ·intro ac wx hC hsz hK
      have h0:ac.tmps.getD 5 undef=.pointer (some ⟨g5_10,0,none⟩):=(hK.1 5 ω).trans k5_29;exact Ak 24 (.tmp 5) (.pointer (some ⟨g5_10,0,none⟩)) (.agg (pw x1)) rfl rfl ω h0 (BV ((H30.below hC.1).is (.head _)) Tryz.underlying24 rfl ω) hC ω (by rw[hsz,z29];decide) rfl
    intro a31 w31 y31 d31 e31 b31 n31 f31;have z31:=y31.trans z29;have D31:=d31.trans D29;have k0_31:=tq e31 k0_29;have k1_31:=tq e31 k1_29;have k2_31:=tq e31 k2_29;have k3_31:=tq e31 k3_29;have k4_31:=tq e31 k4_29;have k5_31:=tq e31 k5_29;have k6_31:=tq e31 k6_29;have k7_31:=tq e31 k7_29;have k14_31:=tq e31 k14_29;have k15_31:=tq e31 k15_29;have k19_31:=tq e31 k19_29;have k22_31:=tq e31 k22_29;have k25_31:=tq e31 k25_29;have k26_31:a31.tmps.getD 26 undef=.agg (pw x1):=f31 0 (by decide);have H31:=H30.below b31;clear f31 e31 n31 y31 d31 b31 H30 k0_29 k1_29 k2_29 k3_29 k4_29 k5_29 k6_29 k7_29 k14_29 k15_29 k19_29 k22_29 k25_29 z29 D29;refine Cj rfl rfl rfl k1_31 k26_31 (H31.is (.tail _ (.tail _ (.tail _ (.head _))))) ω ω ω ?_;have H32:HC w [(g5_10,pw x1,24),(g3_3,(ar .i64 257 (dgt k i)).setIfInBounds (0+i*1) (.int .i64 2),96),(g2_2,ar .i64 257 (dgt k 0),96),(g1_1,pw x1,24)] (w31.setRow g1_1 (pw x1)):=HC.set [(g5_10,pw x1,24),(g3_3,(ar .i64 257 (dgt k i)).setIfInBounds (0+i*1) (.int .i64 2),96),(g2_2,ar .i64 257 (dgt k 0),96)] [] H31 (pw x1);generalize w31.setRow g1_1 (pw x1)=w32 at H32 |-
    clear H31;refine wpList_nil ?_;refine BL ?_;refine A9 ?_;refine wp_region_list ?_;refine AZ (v:=.int .i64 ((i+1:Nat))) rfl rfl (by rw[z31];decide) (Ev (u:=.int .i64 ((i:Nat))) (v:=.int .i64 1) rfl k6_31 rfl ω (JH τ τ τ w32)) ?_;intro a33 y33 d33 e33 k27_33;have z33:=y33.trans z31;have D33:=d33.trans D31;have k0_33:=tp e33 k0_31;have k1_33:=tp e33 k1_31;have k2_33:=tp e33 k2_31;have k3_33:=tp e33 k3_31;have k4_33:=tp e33 k4_31;have k5_33:=tp e33 k5_31;have k6_33:=tp e33 k6_31;have k7_33:=tp e33 k7_31;have k14_33:=tp e33 k14_31;have k15_33:=tp e33 k15_31;have k19_33:=tp e33 k19_31;have k22_33:=tp e33 k22_31;have k25_33:=tp e33 k25_31;have k26_33:=tp e33 k26_31;clear e33 y33 d33 k0_31 k1_31 k2_31 k3_31 k4_31 k5_31 k6_31 k7_31 k14_31 k15_31 k19_31 k22_31 k25_31 k26_31 z31 D31;refine AZ (v:=.int .i64 ((i+1:Nat))) rfl rfl (by rw[z33];decide) (run_assign (.inr rfl) k27_33) ?_;intro a34 y34 d34 e34 k6_34;have z34:=y34.trans z33;have D34:=d34.trans D33;have k0_34:=tp e34 k0_33;have k1_34:=tp e34 k1_33;have k2_34:=tp e34 k2_33;have k3_34:=tp e34 k3_33;have k4_34:=tp e34 k4_33;have k5_34:=tp e34 k5_33;have k7_34:=tp e34 k7_33;have k14_34:=tp e34 k14_33;have k15_34:=tp e34 k15_33;have k19_34:=tp e34 k19_33;have k22_34:=tp e34 k22_33;have k25_34:=tp e34 k25_33;have k26_34:=tp e34 k26_33;have k27_34:=tp e34 k27_33;clear e34 y34 d34 k0_33 k1_33 k2_33 k3_33 k4_33 k5_33 k6_33 k7_33 k14_33 k15_33 k19_33 k22_33 k25_33 k26_33 k27_33 z33 D33;refine wpList_nil ?_;have H35:HC w [(g3_3,(ar .i64 257 (dgt k i)).setIfInBounds (0+i*1) (.int .i64 2),96),(g2_2,ar .i64 257 (dgt k 0),96),(g1_1,pw x1,24)] w32:=H32.drop1;have H36:HC w [(g3_3,ar .i64 257 (dgt k (i+1)),96),(g2_2,ar .i64 257 (dgt k 0),96),(g1_1,pw x1,24)] w32:=by rw[show ar .i64 257 (dgt k (i+1))=(ar .i64 257 (dgt k i)).setIfInBounds (0+i*1) (.int .i64 2) from(Ol τ (by rw[hP.2.1];unfold sdg;rw[if_neg hc13,if_pos hc25];rfl)).symm];exact H35
    clear H35;refine A9 ⟨⟨(i+1),x1,⟨τ,by show snx (sth k i)=x1;rw[hP.2.1];unfold snx;rw[if_pos hc25];omega,bx1⟩,z34,D34,k0_34,k1_34,k2_34,k3_34,k6_34,H36⟩,?_⟩;show 257 - (intOf (a34.tmps.getD 6 undef)).toNat<257 - (intOf (a5.tmps.getD 6 undef)).toNat;rw[k6_34,m5];simp[intOf];omega
   ·refine Av 2 [.val 20 (.bool false),.val 19 (.bool false)] [] (fun _=>#[]) ω (by exact⟨trivial,trivial,trivial⟩) (fun p hp=>by cases hp) ?_ ?_
    ·refine⟨?_,?_,trivial⟩
     ·intro ac wx hC hsz hK
      have h0:ac.tmps.getD 14 undef=.int .u64 ((kk%4:Nat)):=(hK.1 14 ω).trans k14_23;exact CS .eql 22 (.tmp 14) (.const (.int .u64 3)) 22 (.int .u64 ((kk%4:Nat))) (.int .u64 3) (.bool false) rfl rfl ω h0 rfl ω (WY τ wx) hC ω (by rw[hsz,z23];decide) rfl
     ·intro ac wx hC hsz hK
      have h0:ac.tmps.getD 20 undef=.bool false:=hK.2 ⟨0,.data⟩ υ rfl _ rfl;exact Ap (.bool false) rfl ω (run_assign (.inl rfl) h0) hC ω (by rw[hsz,z23];decide) rfl
    intro a37 w37 y37 d37 e37 b37 n37 f37;have z37:=y37.trans z23;have D37:=d37.trans D23;have k0_37:=tq e37 k0_23;have k1_37:=tq e37 k1_23;have k2_37:=tq e37 k2_23;have k3_37:=tq e37 k3_23;have k4_37:=tq e37 k4_23;have k5_37:=tq e37 k5_23;have k6_37:=tq e37 k6_23;have k7_37:=tq e37 k7_23;have k14_37:=tq e37 k14_23;have k15_37:=tq e37 k15_23;have k19_37:a37.tmps.getD 19 undef=.bool false:=f37 1 (by decide);have H37:=H23.below b37;clear f37 e37 n37 y37 d37 b37 H23 k0_23 k1_23 k2_23 k3_23 k4_23 k5_23 k6_23 k7_23 k14_23 k15_23 z23 D23;refine wpList_nil ?_;refine A9 ?_;refine wp_cond_false k19_37 ?_;refine wp_skip ?_;refine BL ?_;refine A9 ?_;refine Av 1 [.val 26 (.agg (pw x0))] [] (fun _=>#[]) ω (by exact⟨trivial,trivial⟩) (fun p hp=>by cases hp) ?_ ?_
    ·refine⟨?_,trivial⟩
     ·intro ac wx hC hsz hK
      have h0:ac.tmps.getD 5 undef=.pointer (some ⟨g5_10,0,none⟩):=(hK.1 5 ω).trans k5_37;exact Ak 24 (.tmp 5) (.pointer (some ⟨g5_10,0,none⟩)) (.agg (pw x0)) rfl rfl ω h0 (BV ((H37.below hC.1).is (.head _)) Tryz.underlying24 rfl ω) hC ω (by rw[hsz,z37];decide) rfl
    intro a38 w38 y38 d38 e38 b38 n38 f38;have z38:=y38.trans z37;have D38:=d38.trans D37;have k0_38:=tq e38 k0_37;have k1_38:=tq e38 k1_37;have k2_38:=tq e38 k2_37;have k3_38:=tq e38 k3_37;have k4_38:=tq e38 k4_37;have k5_38:=tq e38 k5_37;have k6_38:=tq e38 k6_37;have k7_38:=tq e38 k7_37;have k14_38:=tq e38 k14_37;have k15_38:=tq e38 k15_37;have k19_38:=tq e38 k19_37;have k26_38:a38.tmps.getD 26 undef=.agg (pw x0):=f38 0 (by decide);have H38:=H37.below b38;clear f38 e38 n38 y38 d38 b38 H37 k0_37 k1_37 k2_37 k3_37 k4_37 k5_37 k6_37 k7_37 k14_37 k15_37 k19_37 z37 D37;refine Cj rfl rfl rfl k1_38 k26_38 (H38.is (.tail _ (.tail _ (.tail _ (.head _))))) ω ω ω ?_;have H39:HC w [(g5_10,pw x0,24),(g3_3,ar .i64 257 (dgt k i),96),(g2_2,ar .i64 257 (dgt k 0),96),(g1_1,pw x0,24)] (w38.setRow g1_1 (pw x0)):=HC.set [(g5_10,pw x0,24),(g3_3,ar .i64 257 (dgt k i),96),(g2_2,ar .i64 257 (dgt k 0),96)] [] H38 (pw x0);generalize w38.setRow g1_1 (pw x0)=w39 at H39 |-
    clear H38;refine wpList_nil ?_;refine BL ?_;refine A9 ?_;refine wp_region_list ?_;refine AZ (v:=.int .i64 ((i+1:Nat))) rfl rfl (by rw[z38];decide) (Ev (u:=.int .i64 ((i:Nat))) (v:=.int .i64 1) rfl k6_38 rfl ω (JH τ τ τ w39)) ?_;intro a40 y40 d40 e40 k27_40;have z40:=y40.trans z38;have D40:=d40.trans D38;have k0_40:=tp e40 k0_38;have k1_40:=tp e40 k1_38;have k2_40:=tp e40 k2_38;have k3_40:=tp e40 k3_38;have k4_40:=tp e40 k4_38;have k5_40:=tp e40 k5_38;have k6_40:=tp e40 k6_38;have k7_40:=tp e40 k7_38;have k14_40:=tp e40 k14_38;have k15_40:=tp e40 k15_38;have k19_40:=tp e40 k19_38;have k26_40:=tp e40 k26_38;clear e40 y40 d40 k0_38 k1_38 k2_38 k3_38 k4_38 k5_38 k6_38 k7_38 k14_38 k15_38 k19_38 k26_38 z38 D38;refine AZ (v:=.int .i64 ((i+1:Nat))) rfl rfl (by rw[z40];decide) (run_assign (.inr rfl) k27_40) ?_;intro a41 y41 d41 e41 k6_41;have z41:=y41.trans z40;have D41:=d41.trans D40;have k0_41:=tp e41 k0_40;have k1_41:=tp e41 k1_40;have k2_41:=tp e41 k2_40;have k3_41:=tp e41 k3_40;have k4_41:=tp e41 k4_40;have k5_41:=tp e41 k5_40;have k7_41:=tp e41 k7_40;have k14_41:=tp e41 k14_40;have k15_41:=tp e41 k15_40;have k19_41:=tp e41 k19_40;have k26_41:=tp e41 k26_40;have k27_41:=tp e41 k27_40;clear e41 y41 d41 k0_40 k1_40 k2_40 k3_40 k4_40 k5_40 k6_40 k7_40 k14_40 k15_40 k19_40 k26_40 k27_40 z40 D40;refine wpList_nil ?_;have H42:HC w [(g3_3,ar .i64 257 (dgt k i),96),(g2_2,ar .i64 257 (dgt k 0),96),(g1_1,pw x0,24)] w39:=H39.drop1;have H43:HC w [(g3_3,ar .i64 257 (dgt k (i+1)),96),(g2_2,ar .i64 257 (dgt k 0),96),(g1_1,pw x0,24)] w39:=by rw[show ar .i64 257 (dgt k (i+1))=ar .i64 257 (dgt k i) from(X4 (by rw[hP.2.1];unfold sdg;rw[if_neg hc13,if_neg hc25])).symm];exact H42
    clear H42;refine A9 ⟨⟨(i+1),x0,⟨τ,by show snx (sth k i)=x0;rw[hP.2.1];unfold snx;rw[if_neg τ];omega,bx0⟩,z41,D41,k0_41,k1_41,k2_41,k3_41,k6_41,H43⟩,?_⟩;show 257 - (intOf (a41.tmps.getD 6 undef)).toNat<257 - (intOf (a5.tmps.getD 6 undef)).toNat;rw[k6_41,m5];simp[intOf];omega
 ·refine Av 1 [.val 7 (.bool false)] [] (fun _=>#[]) ω (by exact⟨trivial,trivial⟩) (fun p hp=>by cases hp) ?_ ?_
  ·refine⟨?_,trivial⟩
   ·intro ac wx hC hsz hK
    have h0:ac.tmps.getD 6 undef=.int .i64 ((i:Nat)):=(hK.1 6 ω).trans k6_5;exact CS .lss 3 (.tmp 6) (.const (.int .i64 257)) 3 (.int .i64 ((i:Nat))) (.int .i64 257) (.bool false) rfl rfl ω h0 rfl ω (Px hc7 wx) hC ω (by rw[hsz,z5];decide) rfl
  intro a44 w44 y44 d44 e44 b44 n44 f44;have z44:=y44.trans z5;have D44:=d44.trans D5;have k0_44:=tq e44 k0_5;have k1_44:=tq e44 k1_5;have k2_44:=tq e44 k2_5;have k3_44:=tq e44 k3_5;have k6_44:=tq e44 k6_5;have k7_44:a44.tmps.getD 7 undef=.bool false:=f44 0 (by decide);have H44:=H5.below b44;clear f44 e44 n44 y44 d44 b44 H5 k0_5 k1_5 k2_5 k3_5 k6_5 z5 D5;refine wpList_nil ?_;refine A9 ?_;refine wp_seq ?_;refine wp_cond_false k7_44 ?_;refine wp_exit ?_;refine Cu ?_;refine Cu ?_;refine GQ ?_;refine A9 ?_;refine wp_seq ?_;refine Av 1 [.val 28 (.agg (ar .i64 257 (dgt k i)))] [] (fun _=>#[]) ω (by exact⟨trivial,trivial⟩) (fun p hp=>by cases hp) ?_ ?_
  ·refine⟨?_,trivial⟩
   ·intro ac wx hC hsz hK
    have h0:ac.tmps.getD 3 undef=.pointer (some ⟨g3_3,0,none⟩):=(hK.1 3 ω).trans k3_44;exact Ak 96 (.tmp 3) (.pointer (some ⟨g3_3,0,none⟩)) (.agg (ar .i64 257 (dgt k i))) rfl rfl ω h0 (BV ((H44.below hC.1).is (.head _)) Tryz.underlying96 rfl ω) hC ω (by rw[hsz,z44];decide) rfl
  intro a45 w45 y45 d45 e45 b45 n45 f45;have z45:=y45.trans z44;have D45:=d45.trans D44;have k0_45:=tq e45 k0_44;have k1_45:=tq e45 k1_44;have k2_45:=tq e45 k2_44;have k3_45:=tq e45 k3_44;have k6_45:=tq e45 k6_44;have k7_45:=tq e45 k7_44;have k28_45:a45.tmps.getD 28 undef=.agg (ar .i64 257 (dgt k i)):=f45 0 (by decide);have H45:=H44.below b45;clear f45 e45 n45 y45 d45 b45 H44 k0_44 k1_44 k2_44 k3_44 k6_44 k7_44 z44 D44;refine Cj rfl rfl rfl k2_45 k28_45 (H45.is (.tail _ (.head _))) ω ω ω ?_;have H46:HC w [(g3_3,ar .i64 257 (dgt k i),96),(g2_2,ar .i64 257 (dgt k i),96),(g1_1,pw kk,24)] (w45.setRow g2_2 (ar .i64 257 (dgt k i))):=HC.set [(g3_3,ar .i64 257 (dgt k i),96)] [(g1_1,pw kk,24)] H45 (ar .i64 257 (dgt k i));generalize w45.setRow g2_2 (ar .i64 257 (dgt k i))=w46 at H46 |-
  clear H45;refine wpList_nil ?_;refine A9 ?_;refine wp_ret ?_;refine bodyPost_ret (v:=.agg (ar .i64 257 (dgt k i))) (results_cell_row rfl _ _ g2_2 _ (ar .i64 257 (dgt k i)) (0,0) _ k2_45 (H46.is (.tail _ (.head _))) Tryz.underlying96 rfl ω) D45 ?_;have hil:i=257:=by omega
  subst hil;exact⟨rfl,H46.old⟩
end Go.Proofs.YtphafjbajlcbnaaGreat
