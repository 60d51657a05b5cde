/- So many times points: rows of them, rows of paths, what is owned; numbers of the walk. (Cut to what is reached, written closely: GSu · GPa · Ge.) -/
import Derived.Test.YtphafjbajlcbnaaGreatB27
import Derived.Test.YtphafjbajlcbnaaGreatB38
import Derived.Test.YtphafjbajlcbnaaGreatB18
import Derived.Great.BuildSlice
set_option linter.all false
set_option maxRecDepth 100000
set_option maxHeartbeats 8000000
namespace Go.Proofs.YtphafjbajlcbnaaGreat
open Go.RowKit
def p3(x0 y0:Nat)(n0:Bool)(x1 y1:Nat)(n1:Bool)(x2 y2:Nat)(n2:Bool):Array Value:=pc x0 y0 n0++pc x1 y1 n1++pc x2 y2 n2
def ptl(k x1 y1:Nat)(n1:Bool)(x2 y2:Nat)(n2:Bool):Array Value:=p3 0 0 true x1 y1 n1 x2 y2 n2++ar .i64 257 (dgt k 257)
def ptc(m k x y:Nat)(n:Bool):Array Value:=pc 0 0 true++pc x y n++gtu m x y n++ar .i64 257 (dgt k 257)
theorem Gf{m k x y x2 y2:Nat}{n n2:Bool}(h:gtu m x y n=pc x2 y2 n2):ptc m k x y n=ptl k x y n x2 y2 n2:=by
 unfold ptc ptl p3;rw[h]
theorem TM(F m k x y:Nat)(n:Bool)(hk:k<115792089237316195423570985008687907853269984665640564039457584007913129639936)(hx:x<115792089237316195423570985008687907853269984665640564039457584007913129639936)(hy:y<115792089237316195423570985008687907853269984665640564039457584007913129639936)(w:World)(hF:FldAt w F m):Calls Tryz.prog 66 #[.agg #[.pointer (some ⟨F,0,none⟩)],.agg (tc k x y n)] w fun r w'=>r=.returned (.agg (ptc m k x y n))/\Below w.heap.size w w':=by
 have hmR:=hF.lt;have hm0:0<m:=by have:=hF.big;omega
 refine enter Tryz.func66 rfl ?_;intro a0 z0 D0 e0;have z0:a0.tmps.size=17:=z0;have k0_0:a0.tmps.getD 0 undef=.agg (#[.pointer (some ⟨F,0,none⟩)]):=e0 0;have k1_0:a0.tmps.getD 1 undef=.agg (tc k x y n):=e0 1;have H0:HC w [] w:=HC.start w;refine wp_seq ?_;refine wp_region_list ?_;refine Eu (z:=#[.pointer (some ⟨F,0,none⟩)]) (T:=53) rfl rfl (by rw[z0];decide) (Fx rfl k0_0 rfl) ?_;intro a1 y1 d1 e1 k2_1;have z1:=y1.trans z0;have D1:=d1.trans D0;have k0_1:=tp e1 k0_0;have k1_1:=tp e1 k1_0;obtain⟨g2_1,hg1⟩:∃ g,w.heap.size=g:=⟨_,rfl⟩
 have H1:HC w [(g2_1,#[.pointer (some ⟨F,0,none⟩)],53)] (w.alloc (.cells (#[.pointer (some ⟨F,0,none⟩)]) 53)):=hg1 ▸ H0.new (#[.pointer (some ⟨F,0,none⟩)]) 53;rw[hg1]at k2_1;generalize w.alloc (.cells (#[.pointer (some ⟨F,0,none⟩)]) 53)=w1 at H1 |-
 clear hg1 e1 y1 d1 H0 k0_0 k1_0 z0 D0;refine Eu (z:=tc k x y n) (T:=68) rfl rfl (by rw[z1];decide) (Fx rfl k1_1 rfl) ?_;intro a2 y2 d2 e2 k3_2;have z2:=y2.trans z1;have D2:=d2.trans D1;have k0_2:=tp e2 k0_1;have k1_2:=tp e2 k1_1;have k2_2:=tp e2 k2_1;obtain⟨g3_2,hg2⟩:∃ g,w1.heap.size=g:=⟨_,rfl⟩
 have H2:HC w [(g3_2,tc k x y n,68),(g2_1,#[.pointer (some ⟨F,0,none⟩)],53)] (w1.alloc (.cells (tc k x y n) 68)):=hg2 ▸ H1.new (tc k x y n) 68;rw[hg2]at k3_2;generalize w1.alloc (.cells (tc k x y n) 68)=w2 at H2 |-
 clear hg2 e2 y2 d2 H1 k0_1 k1_1 k2_1 z1 D1;refine Eu (z:=(pc 0 0 false++pc 0 0 false++pc 0 0 false++ar .i64 257 (fun _=>0))) (T:=98) rfl rfl (by rw[z2];decide) ω ?_;intro a3 y3 d3 e3 k4_3;have z3:=y3.trans z2;have D3:=d3.trans D2;have k0_3:=tp e3 k0_2;have k1_3:=tp e3 k1_2;have k2_3:=tp e3 k2_2;have k3_3:=tp e3 k3_2;obtain⟨g4_3,hg3⟩:∃ g,w2.heap.size=g:=⟨_,rfl⟩
 have H3:HC w [(g4_3,(pc 0 0 false++pc 0 0 false++pc 0 0 false++ar .i64 257 (fun _=>0)),98),(g3_2,tc k x y n,68),(g2_1,#[.pointer (some ⟨F,0,none⟩)],53)] (w2.alloc (.cells ((pc 0 0 false++pc 0 0 false++pc 0 0 false++ar .i64 257 (fun _=>0))) 98)):=hg3 ▸ H2.new ((pc 0 0 false++pc 0 0 false++pc 0 0 false++ar .i64 257 (fun _=>0))) 98;rw[hg3]at k4_3;generalize w2.alloc (.cells ((pc 0 0 false++pc 0 0 false++pc 0 0 false++ar .i64 257 (fun _=>0))) 98)=w3 at H3 |-
 clear hg3 e3 y3 d3 H2 k0_2 k1_2 k2_2 k3_2 z2 D2;refine wpList_nil ?_;refine A9 ?_;refine wp_seq ?_;obtain⟨p0x,p0y,p0n,bp0x,bp0y,qp0⟩:=PH hm0 hmR hx y n;refine J3 12 [.val 5 (.agg (pc 0 0 true)),.val 6 (.pointer (some ⟨g3_2,4,none⟩)),.val 7 (.agg (pc x y n)),.val 8 (.agg (#[.pointer (some ⟨F,0,none⟩)])),.val 9 (.pointer (some ⟨g3_2,4,none⟩)),.val 10 (.agg (pc x y n)),.val 11 (.agg (pc p0x p0y p0n)),.val 12 (.agg (p3 0 0 true x y n p0x p0y p0n)),.val 13 (.pointer (some ⟨g3_2,0,none⟩)),.val 14 (.agg (pw k)),.val 15 (.agg (ar .i64 257 (dgt k 257))),.val 16 (.agg (ptl k x y n p0x p0y p0n))] [] (fun _=>#[]) ω ω (by exact⟨trivial,trivial,trivial,trivial,trivial,trivial,trivial,trivial,trivial,trivial,trivial,trivial,trivial⟩) (fun p hp=>by cases hp) ?_ ?_
 ·refine⟨?_,?_,?_,?_,?_,?_,?_,?_,?_,?_,?_,?_,trivial⟩
  ·intro ac wx hC hsz hK
   refine Bb 28 #[] (.agg (pc 0 0 true)) rfl ω ω ?_ hC ω (by rw[hsz,z3];decide) rfl;exact Ip wx
  ·intro ac wx hC hsz hK
   have h0:ac.tmps.getD 3 undef=.pointer (some ⟨g3_2,0,none⟩):=(hK.1 3 ω).trans k3_3;refine Be (Instr.fieldAt 68 (ac.tmps.getD 3 undef) 1) (.pointer (some ⟨g3_2,4,none⟩)) rfl ω ω ?_ hC ω (by rw[hsz,z3];decide) rfl;rw[h0];exact ω
  ·intro ac wx hC hsz hK
   have h0:ac.tmps.getD 6 undef=.pointer (some ⟨g3_2,4,none⟩):=hK.2 ⟨1,.data⟩ υ rfl _ rfl;exact Ak 26 (.tmp 6) (.pointer (some ⟨g3_2,4,none⟩)) (.agg (pc x y n)) rfl rfl ω h0 (DY (pc x y n) ((H3.below hC.1).is (.tail _ (.head _))) (Yo k x y n) Tryz.underlying26 rfl ω) hC ω (by rw[hsz,z3];decide) rfl
  ·intro ac wx hC hsz hK
   have h0:ac.tmps.getD 2 undef=.pointer (some ⟨g2_1,0,none⟩):=(hK.1 2 ω).trans k2_3;exact Ak 53 (.tmp 2) (.pointer (some ⟨g2_1,0,none⟩)) (.agg (#[.pointer (some ⟨F,0,none⟩)])) rfl rfl ω h0 (BV ((H3.below hC.1).is (.tail _ (.tail _ (.head _)))) Tryz.underlying53 rfl ω) hC ω (by rw[hsz,z3];decide) rfl
  ·intro ac wx hC hsz hK
   have h0:ac.tmps.getD 3 undef=.pointer (some ⟨g3_2,0,none⟩):=(hK.1 3 ω).trans k3_3;refine Be (Instr.fieldAt 68 (ac.tmps.getD 3 undef) 1) (.pointer (some ⟨g3_2,4,none⟩)) rfl ω ω ?_ hC ω (by rw[hsz,z3];decide) rfl;rw[h0];exact ω
  ·intro ac wx hC hsz hK
   have h0:ac.tmps.getD 9 undef=.pointer (some ⟨g3_2,4,none⟩):=hK.2 ⟨4,.data⟩ υ rfl _ rfl;exact Ak 26 (.tmp 9) (.pointer (some ⟨g3_2,4,none⟩)) (.agg (pc x y n)) rfl rfl ω h0 (DY (pc x y n) ((H3.below hC.1).is (.tail _ (.head _))) (Yo k x y n) Tryz.underlying26 rfl ω) hC ω (by rw[hsz,z3];decide) rfl
  ·intro ac wx hC hsz hK
   have h0:ac.tmps.getD 8 undef=.agg (#[.pointer (some ⟨F,0,none⟩)]):=hK.2 ⟨3,.data⟩ υ rfl _ rfl;have h1:ac.tmps.getD 10 undef=.agg (pc x y n):=hK.2 ⟨5,.data⟩ υ rfl _ rfl;refine Bb 29 #[ac.tmps.getD 8 undef,ac.tmps.getD 10 undef] (.agg (pc p0x p0y p0n)) rfl ω ω ?_ hC ω (by rw[hsz,z3];decide) rfl;rw[h0,h1];exact(by have h:=IQ F m x y n hx hy wx (hF.below (H3.below hC.1).old);rw[qp0]at h;exact h)
  ·intro ac wx hC hsz hK
   have h0:ac.tmps.getD 5 undef=.agg (pc 0 0 true):=hK.2 ⟨0,.data⟩ υ rfl _ rfl;have h1:ac.tmps.getD 7 undef=.agg (pc x y n):=hK.2 ⟨2,.data⟩ υ rfl _ rfl;have h2:ac.tmps.getD 11 undef=.agg (pc p0x p0y p0n):=hK.2 ⟨6,.data⟩ υ rfl _ rfl;refine NF 95 [(0,(.tmp 5),.agg (pc 0 0 true)),(1,(.tmp 7),.agg (pc x y n)),(2,(.tmp 11),.agg (pc p0x p0y p0n))] (p3 0 0 true x y n p0x p0y p0n) rfl rfl ω ?_ ω hC ω (by rw[hsz,z3];decide) rfl;intro p hp;simp only[List.mem_cons,List.not_mem_nil,or_false]at hp;rcases hp with rfl | rfl | rfl
   ·exact h0
   ·exact h1
   ·exact h2
  ·intro ac wx hC hsz hK
   have h0:ac.tmps.getD 3 undef=.pointer (some ⟨g3_2,0,none⟩):=(hK.1 3 ω).trans k3_3;refine Be (Instr.fieldAt 68 (ac.tmps.getD 3 undef) 0) (.pointer (some ⟨g3_2,0,none⟩)) rfl ω ω ?_ hC ω (by rw[hsz,z3];decide) rfl;rw[h0];exact ω
  ·intro ac wx hC hsz hK
   have h0:ac.tmps.getD 13 undef=.pointer (some ⟨g3_2,0,none⟩):=hK.2 ⟨8,.data⟩ υ rfl _ rfl;exact Ak 24 (.tmp 13) (.pointer (some ⟨g3_2,0,none⟩)) (.agg (pw k)) rfl rfl ω h0 (DY (pw k) ((H3.below hC.1).is (.tail _ (.head _))) (A42 k x y n) Tryz.underlying24 rfl ω) hC ω (by rw[hsz,z3];decide) rfl
  ·intro ac wx hC hsz hK
   have h0:ac.tmps.getD 14 undef=.agg (pw k):=hK.2 ⟨9,.data⟩ υ rfl _ rfl;refine Bb 82 #[ac.tmps.getD 14 undef] (.agg (ar .i64 257 (dgt k 257))) rfl ω ω ?_ hC ω (by rw[hsz,z3];decide) rfl;rw[h0];exact Om k hk wx
  ·intro ac wx hC hsz hK
   have h0:ac.tmps.getD 12 undef=.agg (p3 0 0 true x y n p0x p0y p0n):=hK.2 ⟨7,.data⟩ υ rfl _ rfl;have h1:ac.tmps.getD 15 undef=.agg (ar .i64 257 (dgt k 257)):=hK.2 ⟨10,.data⟩ υ rfl _ rfl;refine NF 98 [(0,(.tmp 12),.agg (p3 0 0 true x y n p0x p0y p0n)),(1,(.tmp 15),.agg (ar .i64 257 (dgt k 257)))] (ptl k x y n p0x p0y p0n) rfl rfl ω ?_ ω hC ω (by rw[hsz,z3];decide) rfl;intro p hp;simp only[List.mem_cons,List.not_mem_nil,or_false]at hp;rcases hp with rfl | rfl
   ·exact h0
   ·exact h1
 intro a4 w4 y4 d4 e4 b4 n4 f4;have z4:=y4.trans z3;have D4:=d4.trans D3;have k0_4:=tq e4 k0_3;have k1_4:=tq e4 k1_3;have k4_4:=tq e4 k4_3;have k16_4:a4.tmps.getD 16 undef=.agg (ptl k x y n p0x p0y p0n):=f4 11 (by decide);have H4:=H3.below b4;clear f4 e4 n4 y4 d4 b4 H3 k0_3 k1_3 k2_3 k3_3 k4_3 z3 D3;refine Cj rfl rfl rfl k4_4 k16_4 (H4.is (.head _)) ω ω ω ?_;have H5:HC w [(g4_3,ptl k x y n p0x p0y p0n,98),(g3_2,tc k x y n,68),(g2_1,#[.pointer (some ⟨F,0,none⟩)],53)] (w4.setRow g4_3 (ptl k x y n p0x p0y p0n)):=HC.set [] [(g3_2,tc k x y n,68),(g2_1,#[.pointer (some ⟨F,0,none⟩)],53)] H4 (ptl k x y n p0x p0y p0n);generalize w4.setRow g4_3 (ptl k x y n p0x p0y p0n)=w5 at H5 |-
 clear H4;refine wpList_nil ?_;refine A9 ?_;refine wp_ret ?_;refine bodyPost_ret (v:=.agg (ptl k x y n p0x p0y p0n)) (results_cell_row rfl _ _ g4_3 _ (ptl k x y n p0x p0y p0n) (0,0) _ k4_4 (H5.is (.head _)) Tryz.underlying98 rfl ω) D4 ?_;exact⟨by rw[Gf qp0],H5.old⟩
open Go.RowKit
theorem own_below{w w':World}{base:Nat}{e:TypeId}{size:Nat}{v:Value}{n:Nat}{xs:List Value}(h:w.ownsRow base e size v n xs)(hb:Below w.heap.size w w'):w'.ownsRow base e size v n xs :=
 h.kept (row:=none) ⟨hb.os,hb.tape,hb.output,hb.size,fun k hk _=>hb.block k hk⟩ (by cases v.ownBlock with | none=>exact .inl rfl | some k=>exact .inr υ)
theorem foldl_set:∀(l:List Value) (k:Nat) (acc:Array Value) (i:Nat),((l.zipIdx k).foldl (fun(a:Array Value) (p:Value × Nat)=>a.setIfInBounds (0+p.2) p.1) acc)[i]?=if k<=i/\i<k+l.length/\i<acc.size then l[i - k]? else acc[i]?
 | [],k,acc,i=>by
  simp;intro h1 h2;omega
 | c::l,k,acc,i=>by
  rw[List.zipIdx_cons,List.foldl_cons,foldl_set l (k+1)];simp only[Array.size_setIfInBounds,List.length_cons,Nat.zero_add];by_cases h1:k+1<=i/\i<k+1+l.length/\i<acc.size
  ·rw[if_pos h1,if_pos τ,show i - k=(i - (k+1))+1 by omega,List.getElem?_cons_succ]
  ·rw[if_neg h1]
   by_cases h2:i=k
   ·subst h2
    by_cases h3:i<acc.size
    ·rw[if_pos τ,Nat.sub_self,List.getElem?_cons_zero,Array.getElem?_setIfInBounds_self_of_lt h3]
    ·rw[if_neg τ]
     simp[h3]
   ·rw[Array.getElem?_setIfInBounds_ne τ]
    by_cases h3:k<=i/\i<k+(l.length+1)/\i<acc.size
    ·omega
    ·rw[if_neg h3]
theorem X5{z cs:Array Value}{pl:Nat->Option (Nat × Nat)}(hp:pl 0=some (0,cs.size))(hz:z.size=cs.size):Instr.fill pl z [(0,.agg cs)]=some cs:=by
 have hcs:(Value.agg cs).cells=cs:=rfl;simp only[Instr.fill,hp,hcs];rw[if_neg (by simp;omega)];congr 1;apply Array.ext_getElem?;intro i;have:=foldl_set cs.toList 0 z i;simp only[Nat.zero_le,Nat.zero_add,true_and,Nat.sub_zero,Array.length_toList]at this;rw[<- Array.foldl_toList,Array.toList_zipIdx];simp only[Nat.zero_add];refine this.trans ?_;by_cases h:i<cs.size
 ·rw[if_pos τ,Array.getElem?_toList]
 ·rw[if_neg τ,Array.getElem?_eq_none τ,Array.getElem?_eq_none τ]
theorem A2p{P:Program}{T E:TypeId}{sz:Nat}{cs:Array Value}(hu:P.underlying T=some (.slice E))(hz:((P.info? E).bind (·.zero)).map (·.cells.size)=some sz)(hi:(P.info? E).map (·.size)=some sz)(hs:cs.size=sz)(h0:0<sz)(h1:sz<16777216)(w:World) :
  (Instr.buildSlice T 1 #[(0,.agg cs)]).run P w=.ok (.slice (some ⟨w.heap.size,0,none⟩) 1 1) (w.alloc (.cells cs E)):=by
 cases hq:P.info? E with
 | none=>simp[hq]at hi
 | some ie =>
  cases hzz:ie.zero with
  | none=>simp[hq,hzz]at hz
  | some z =>
   have e1:ie.size=sz:=by simpa[hq]using hi
   refine run_buildSlice w T E 1 _ cs ie z hu hq hzz τ τ ?_;refine X5 ?_ ?_
   ·simp[e1,hs]
   ·simp[e1,hs]
theorem Oo{base g:Nat}{v:Value}{n:Nat}{xs:List Value}{cs:Array Value}{w:World}(hown:w.ownsRow base 98 284 v n xs)(hs:cs.size=284)(hg:w.heap[g]?=some (.cells cs 98 (0,0)))(h1:cs.all (·.oneCell')=true)(hn:n<4294967296)(hb:base<=w.heap.size) :
  ∃ v' w',(Builtin.append_ #[94,94] 94 #[v,.slice (some ⟨g,0,none⟩) 1 1]).run Tryz.prog w=.ok v' w'/\w'.ownsRow base 98 284 v' (n+1) (xs++cs.toList)/\w.grownBy w' v.ownBlock/\(v'.ownBlock=v.ownBlock\/v'.ownBlock=some w.heap.size):=by
 have hi:(Tryz.prog.info? 98).map (·.size)=some 284:=by kernel_rfl
 have hby:(Tryz.prog.info? 98).map (·.bytes)=some 2272:=by kernel_rfl
 have hz:((Tryz.prog.info? 98).bind (·.zero)).map (·.cells.size)=some 284:=by kernel_rfl
 cases hq:Tryz.prog.info? 98 with
 | none=>rw[hq]at hi;cases hi
 | some ie =>
  rw[hq]at hi hby hz;cases hzz:ie.zero with
  | none=>simp[hzz]at hz
  | some z =>
   have e1:ie.size=284:=by simpa using hi
   have e2:ie.bytes=2272:=by simpa using hby
   have e3:z.cells.size=284:=by simpa[hzz]using hz
   obtain⟨v',w',h2,h3,h4,-,h5⟩:=run_append_own_at (P:=Tryz.prog) (w:=w) base 94 94 98 ie z 284 2272 Tryz.underlying94 hq hzz e1 e2 e3 τ v n xs hown ⟨g,0,none⟩ 1 1 cs.toList (by simp[hs]) (fun j u hj=>by
    have hadd:(⟨g,0,none⟩:Addr).add j=⟨g,j,none⟩:=by unfold Addr.add;split <;> simp_all
    rw[hadd,cell_of_row w g j cs _ (0,0) hg,<- Array.getElem?_toList];exact hj) (fun u hu=>(Array.all_eq_true_iff_forall_mem.1 h1) u (by simpa using hu)) (by unfold maxLen;omega) τ hb
   exact⟨v',w',h2,h3,h4,h5⟩
def tls:List (Nat × Nat × Nat × Bool)->Array Value
 | []=>#[]
 | t::l=>tc t.1 t.2.1 t.2.2.1 t.2.2.2++tls l
theorem Rp(k x y:Nat)(n:Bool):(tc k x y n).size=13:=by kernel_rfl
theorem X6:∀(l:List (Nat × Nat × Nat × Bool)) (i:Nat) (k x y:Nat) (n:Bool),l[i]?=some (k,x,y,n)->∀ j,j<(tc k x y n).size->(tls l)[0+i*13+j]?=(tc k x y n)[j]?
 | [],i,k,x,y,n,h,j,hj=>by simp at h
 | p::l,0,k,x,y,n,h,j,hj=>by
  simp only[List.getElem?_cons_zero,Option.some.injEq]at h;subst h;rw[show 0+0*13+j=j by omega];show(tc k x y n++tls l)[j]?=_;rw[Array.getElem?_append_left hj]
 | p::l,i+1,k,x,y,n,h,j,hj=>by
  have:=X6 l i k x y n (by simpa using h) j hj;show(tc p.1 p.2.1 p.2.2.1 p.2.2.2++tls l)[0+(i+1)*13+j]?=_;rw[Array.getElem?_append_right (by rw[Rp];omega),Rp,show 0+(i+1)*13+j - 13=0+i*13+j by omega];exact this
def pth(m:Nat)(l:List (Nat × Nat × Nat × Bool)):List Value:=l.flatMap fun t=>(ptc m t.1 t.2.1 t.2.2.1 t.2.2.2).toList
theorem X7(m:Nat)(l:List (Nat × Nat × Nat × Bool))(t:Nat × Nat × Nat × Bool):pth m (l++[t])=pth m l++(ptc m t.1 t.2.1 t.2.2.1 t.2.2.2).toList:=by
 unfold pth;simp
theorem Oq(k x1 y1:Nat)(n1:Bool)(x2 y2:Nat)(n2:Bool):(ptl k x1 y1 n1 x2 y2 n2).size=284:=by kernel_rfl
def gtv(m x y:Nat)(n:Bool):Nat × Nat × Bool:=if n=true then (0,0,true)else (x,(0%m+(m - y%m))%m,false)
theorem Jh(m x y:Nat)(n:Bool):gtu m x y n=pc (gtv m x y n).1 (gtv m x y n).2.1 (gtv m x y n).2.2:=by
 unfold gtu gtv
 split <;> rfl
theorem Kk(m k x y:Nat)(n:Bool):(ptc m k x y n).size=284:=by rw[Gf (Jh m x y n),Oq]
theorem X8(m:Nat):∀(l:List (Nat × Nat × Nat × Bool)) (i:Nat) (k x y:Nat) (n:Bool),l[i]?=some (k,x,y,n)->∀ j,j<284->(pth m l)[i*284+j]?=(ptc m k x y n)[j]?
 | [],i,k,x,y,n,h,j,hj=>by simp at h
 | p::l,0,k,x,y,n,h,j,hj=>by
  simp only[List.getElem?_cons_zero,Option.some.injEq]at h;subst h;show((ptc m k x y n).toList++pth m l)[0*284+j]?=_;rw[show 0*284+j=j by omega,List.getElem?_append_left (by rw[Array.length_toList,Kk];exact hj),Array.getElem?_toList]
 | p::l,i+1,k,x,y,n,h,j,hj=>by
  have:=X8 m l i k x y n (by simpa using h) j hj;show((ptc m p.1 p.2.1 p.2.2.1 p.2.2.2).toList++pth m l)[(i+1)*284+j]?=_;rw[List.getElem?_append_right (by rw[Array.length_toList,Kk];omega),Array.length_toList,Kk,show(i+1)*284+j - 284=i*284+j by omega];exact this
def spt(m:Nat)(p:Nat × Nat × Bool)(d:Nat):Nat × Nat × Bool:=if d=1 then p else if d=2 then gtv m p.1 p.2.1 p.2.2 else (0,0,true)
theorem X9(x y:Nat)(n:Bool)(A:Array Value)(j:Nat)(hj:j<9):(pc x y n++A)[j]?=(pc x y n)[j]?:=Array.getElem?_append_left (by rw[Ey];exact hj)
theorem FH(x y:Nat)(n:Bool)(A:Array Value)(j:Nat):(pc x y n++A)[9+j]?=A[j]?:=by
 rw[Array.getElem?_append_right (by rw[Ey];omega),Ey,show 9+j - 9=j by omega]
theorem A2q(m k x y:Nat)(n:Bool)(d:Nat)(hd:d<3):∀ j,j<9->(ptc m k x y n)[0+d*9+j]?=(pc (spt m (x,y,n) d).1 (spt m (x,y,n) d).2.1 (spt m (x,y,n) d).2.2)[j]?:=fun j hj=>by
 unfold ptc;rw[Jh,Array.append_assoc,Array.append_assoc];obtain rfl | rfl | rfl:d=0\/d=1\/d=2:=by omega
 ·rw[show 0+0*9+j=j by omega,X9 _ _ _ _ _ hj]
  rfl
 ·rw[show 0+1*9+j=9+j by omega,FH,X9 _ _ _ _ _ hj]
  rfl
 ·rw[show 0+2*9+j=9+(9+j) by omega,FH,FH,X9 _ _ _ _ _ hj]
  rfl
theorem A2r(m k x y:Nat)(n:Bool)(i:Nat)(hi:i<257):(ptc m k x y n)[27+i*1]?=some (.int .i64 ((sdg (sth k i):Nat):Int)):=by
 unfold ptc;rw[Jh,Array.append_assoc,Array.append_assoc,show 27+i*1=9+(9+(9+i)) by omega,FH,FH,FH,Cr _ _ _ _ hi];unfold dgt;rw[if_pos hi]
theorem A2s{m:Nat}(hm0:0<m)(hmR:m<2^256){p:Nat × Nat × Bool}(h:p.1<2^256/\p.2.1<2^256)(d:Nat):(spt m p d).1<2^256/\(spt m p d).2.1<2^256:=by
 unfold spt
 split
 ·exact h
 ·split
  ·unfold gtv
   split
   ·exact⟨by show(0:Nat)<_;omega,by show(0:Nat)<_;omega⟩
   ·exact⟨h.1,Nat.lt_trans (Nat.mod_lt _ hm0) hmR⟩
  ·exact⟨by show(0:Nat)<_;omega,by show(0:Nat)<_;omega⟩
def gin(m i:Nat)(l:List (Nat × Nat × Nat × Bool))(T:Nat × Nat × Nat):Nat × Nat × Nat:=l.foldl (fun T t=>gpl m T (spt m t.2 (sdg (sth t.1 i))).1 (spt m t.2 (sdg (sth t.1 i))).2.1 (spt m t.2 (sdg (sth t.1 i))).2.2) T
def gwk(m:Nat)(l:List (Nat × Nat × Nat × Bool)):Nat->Nat × Nat × Nat
 | 0=>(0,0,0)
 | s+1=>gin m (256 - s) l (gtw m (gwk m l s))
theorem HC.own{w wx:World}{L:List (Nat × Array Value × TypeId)}{e:TypeId}{size n:Nat}{v:Value}{xs:List Value}(c:HC w L wx)(h:wx.ownsRow w.heap.size e size v n xs)(hn:∀ p∈L,v.ownBlock≠some p.1)(h0:0<n) :
  ∃ g cap cur,v=.slice (some ⟨g,0,none⟩) n cap/\HC w ((g,cur,e)::L) wx/\∀ j,j<n*size->cur[j]?=xs[j]?:=by
 rcases h.2 with⟨_,h1⟩ | ⟨g,cap,cur,h1,h2,h3,h4,h5,h6,h7⟩
 ·omega
 ·refine⟨g,cap,cur,h1,⟨c.old,fun p hp=>?_,List.pairwise_cons.2 ⟨fun q hq=>?_,c.nd⟩⟩,fun j hj=>?_⟩
  ·rcases List.mem_cons.1 hp with rfl | hp
   ·exact⟨h2,h3⟩
   ·exact c.rows p hp
  ·intro e
   refine hn q hq ?_;rw[h1];show some g=some q.1;rw[<- e]
  ·rw[<- h7,List.getElem?_take_of_lt hj,Array.getElem?_toList]
end Go.Proofs.YtphafjbajlcbnaaGreat
