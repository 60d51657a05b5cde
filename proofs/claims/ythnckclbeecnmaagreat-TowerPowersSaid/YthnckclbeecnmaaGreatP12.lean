/- What bailiwickref01.Less comes to, called with any two slices of digits. (Cut to what is reached, written closely: DivAny · Divs · Less.) -/
import Derived.Test.YthnckclbeecnmaaGreatP11
import Derived.Test.YthnckclbeecnmaaGreatP1
import Derived.Test.YthnckclbeecnmaaGreatP7
import Derived.Test.YthnckclbeecnmaaGreatP5
set_option linter.all false
set_option maxRecDepth 100000
set_option maxHeartbeats 8000000
namespace Go.Proofs.YthnckclbeecnmaaGreat
open Go.RowKit
def pd(x j:Nat):Nat:=x / 18446744073709551616^j%18446744073709551616
theorem pd_lt(x j:Nat):pd x j<18446744073709551616:=Nat.mod_lt _ (by omega)
theorem val_pd(x:Nat):∀ n,val (pd x) n=x%18446744073709551616^n
 | 0=>by simp[val,Nat.mod_one]
 | n+1=>by rw[val,val_pd x n,Nat.pow_succ,Nat.mod_mul];rfl
theorem val_one(f:Nat->Nat):val f 1=f 0:=by simp[val]
theorem pd_val{f:Nat->Nat}{n:Nat}(h:∀ j,j<n->f j<18446744073709551616)(j:Nat)(hj:j<n):pd (val f n) j=f j:=by
 obtain⟨e,rfl⟩:∃ e,n=j+(1+e):=⟨n - j - 1,by omega⟩
 have h1:=val_lt (f:=f) (n:=j) (fun i hi=>h i (by omega));have h2:=h j (by omega);unfold pd;rw[val_split,val_split (fun i=>f (j+i)) 1 e,val_one,Nat.add_comm,Nat.mul_add_div (Nat.pow_pos (by omega)),Nat.div_eq_of_lt h1,Nat.pow_one];simp only[Nat.add_zero];omega
theorem pd_top{x n:Nat}(h:x<18446744073709551616^n):pd x n=0:=by unfold pd;rw[Nat.div_eq_of_lt h]
theorem wv_row(x:Nat):wv x=.agg #[.int .u64 (pd x 0:Nat),.int .u64 (pd x 1:Nat),.int .u64 (pd x 2:Nat),.int .u64 (pd x 3:Nat)]:=by
 unfold wv pd;simp only[Nat.pow_zero,Nat.div_one,Nat.pow_one,show 18446744073709551616^2=340282366920938463463374607431768211456 by rfl,show 18446744073709551616^3=6277101735386680763835789423207666416102355444464034512896 by rfl]
theorem dv_row(x:Nat):dv x=.agg #[.int .u64 (pd x 0:Nat),.int .u64 (pd x 1:Nat),.int .u64 (pd x 2:Nat),.int .u64 (pd x 3:Nat),.int .u64 (pd x 4:Nat),.int .u64 (pd x 5:Nat),.int .u64 (pd x 6:Nat),.int .u64 (pd x 7:Nat)]:=by
 unfold dv pd;simp only[Nat.pow_zero,Nat.div_one,Nat.pow_one,show 18446744073709551616^2=340282366920938463463374607431768211456 by rfl,show 18446744073709551616^3=6277101735386680763835789423207666416102355444464034512896 by rfl,show 18446744073709551616^4=2^256 by rfl,show 18446744073709551616^5=2135987035920910082395021706169552114602704522356652769947041607822219725780640550022962086936576 by rfl,show 18446744073709551616^6=39402006196394479212279040100143613805079739270465446667948293404245721771497210611414266254884915640806627990306816 by rfl,show 18446744073709551616^7=726838724295606890549323807888004534353641360687318060281490199180639288113397923326191050713763565560762521606266177933534601628614656 by rfl]
theorem raise_num{A s t:Nat}(h:s+t=64)(j:Nat):pd A (j+1)*2^s%18446744073709551616+pd A j / 2^t=pd (A*2^s) (j+1):=by
 have hD:=pow_split h;have hc:=cmb_lt (p:=pd A (j+1)) (q:=pd A j) (pd_lt A j) h;have hS:=Nat.two_pow_pos s;have hT:=Nat.two_pow_pos t;have e1:A*2^s / 18446744073709551616^(j+1)=A / 18446744073709551616^j / 2^t:=by
  rw[Nat.pow_succ,<- hD,Nat.mul_comm (2^s),<- Nat.mul_assoc,Nat.mul_div_mul_right _ _ hS,Nat.div_div_eq_div_mul]
 have e2:A / 18446744073709551616^(j+1)=A / 18446744073709551616^j / 18446744073709551616:=by rw[Nat.pow_succ,Nat.div_div_eq_div_mul]
 unfold pd at hc |-
 rw[e2,Nat.mod_mul_mod]at hc;rw[e1,e2,Nat.mod_mul_mod];generalize A / 18446744073709551616^j=Y at *;have e3:Y / 2^t=Y / 18446744073709551616*2^s+Y%18446744073709551616 / 2^t:=by
  have h1:=Nat.div_add_mod Y 18446744073709551616;have h2:Y / 2^t=(18446744073709551616*(Y / 18446744073709551616)+Y%18446744073709551616) / 2^t:=by rw[h1]
  rw[h2];generalize Y%18446744073709551616=y;generalize Y / 18446744073709551616=Z;rw[<- hD,Nat.mul_comm (2^s),Nat.mul_assoc,Nat.mul_add_div hT,Nat.mul_comm]
 rw[e3,Nat.add_mod,Nat.mod_eq_of_lt (a:=Y%18446744073709551616 / 2^t) (Nat.lt_of_le_of_lt (Nat.div_le_self _ _) (Nat.mod_lt _ (by omega)))];exact(Nat.mod_eq_of_lt hc).symm
theorem raise_low(A s:Nat):pd A 0*2^s%18446744073709551616=pd (A*2^s) 0:=by
 unfold pd;rw[Nat.pow_zero,Nat.div_one,Nat.div_one,Nat.mod_mul_mod]
theorem raise_any(A s:Nat)(hs:s<64)(hA:A<18446744073709551616^8)(w:World):Calls Tryz.prog 124 #[.agg #[.int .u64 (pd A 0:Nat),.int .u64 (pd A 1:Nat),.int .u64 (pd A 2:Nat),.int .u64 (pd A 3:Nat),.int .u64 (pd A 4:Nat),.int .u64 (pd A 5:Nat),.int .u64 (pd A 6:Nat),.int .u64 (pd A 7:Nat)],.int .i64 (s:Nat)] w fun e w'=>e=.returned (.agg #[.int .u64 (pd (A*2^s) 0:Nat),.int .u64 (pd (A*2^s) 1:Nat),.int .u64 (pd (A*2^s) 2:Nat),.int .u64 (pd (A*2^s) 3:Nat),.int .u64 (pd (A*2^s) 4:Nat),.int .u64 (pd (A*2^s) 5:Nat),.int .u64 (pd (A*2^s) 6:Nat),.int .u64 (pd (A*2^s) 7:Nat),.int .u64 (pd (A*2^s) 8:Nat)])/\Below w.heap.size w w':=by
 obtain⟨t,ht⟩:∃ t,s+t=64:=⟨64 - s,by omega⟩
 have h:=raise_walk (pd A 0) (pd A 1) (pd A 2) (pd A 3) (pd A 4) (pd A 5) (pd A 6) (pd A 7) s t (by omega) (by omega) (by omega) w;have e:∀ j,bits .or .u64 ((pd A j:Int) / 2^t) (IntKind.u64.wrap ((pd A (j+1):Int)*2^s))=((pd (A*2^s) (j+1):Nat):Int):=fun j=>by
  rw[cmb_down (p:=pd A j) (q:=pd A (j+1)) (s:=t) (t:=s) (pd_lt _ _) (by omega),Nat.add_comm,raise_num ht]
 have e0:bits .or .u64 0 (IntKind.u64.wrap ((pd A 0:Int)*2^s))=((pd (A*2^s) 0:Nat):Int):=by
  have:=cmb_down (p:=0) (q:=pd A 0) (s:=t) (t:=s) (by omega) (by omega);rw[Nat.zero_div,Nat.zero_add,raise_low]at this;have h0:(((0:Nat):Int) / 2^t)=0:=by simp
  rwa [h0]at this
 have e8:(pd A 7:Int) / 2^t=((pd (A*2^s) 8:Nat):Int):=by
  rw[<- raise_num ht 7,pd_top hA,Nat.zero_mul,Nat.zero_mod,Nat.zero_add];simp
 rw[e0,e 0,e 1,e 2,e 3,e 4,e 5,e 6,e8]at h;exact h
theorem divide_zero(A:Nat)(w:World):Calls Tryz.prog 115 #[.agg #[.int .u64 (pd A 0:Nat),.int .u64 (pd A 1:Nat),.int .u64 (pd A 2:Nat),.int .u64 (pd A 3:Nat),.int .u64 (pd A 4:Nat),.int .u64 (pd A 5:Nat),.int .u64 (pd A 6:Nat),.int .u64 (pd A 7:Nat)],.agg #[.int .u64 0,.int .u64 0,.int .u64 0,.int .u64 0]] w fun e w'=>e=.returned (.tuple #[.agg #[.int .u64 0,.int .u64 0,.int .u64 0,.int .u64 0,.int .u64 0,.int .u64 0,.int .u64 0,.int .u64 0],.agg #[.int .u64 0,.int .u64 0,.int .u64 0,.int .u64 0]])/\Below w.heap.size w w':=by
 have hp:∀(B:Nat) (w:World),w.cell? ⟨B,0,none⟩=some (.int .u64 0)->w.cell? ⟨B,1,none⟩=some (.int .u64 0)->w.cell? ⟨B,2,none⟩=some (.int .u64 0)->w.cell? ⟨B,3,none⟩=some (.int .u64 0)->Calls Tryz.prog 121 #[.slice (some ⟨B,0,none⟩) 4 4] w fun e w'=>e=.returned (.int .i64 0)/\w=w':=fun B w c0 c1 c2 c3 =>
  parts_any B 0 4 4 (fun _=>0) (by omega) w (upto4 (P:=fun j=>w.cell? ⟨B,0+j,none⟩=some (.int .u64 0)) c0 c1 c2 c3)
 go_enter Tryz.func115,Tryz.ntmps115
 go_wp2_with fail
 refine(hp (w.heap.size+1) _ (by go_cell) (by go_cell) (by go_cell) (by go_cell)).mono ?_;rintro e w' ⟨rfl,rfl⟩;go_wp2
 go_returns
 exact⟨rfl,by go_grown⟩
theorem top_part{B n:Nat}(hB:B≠0)(h4:B<18446744073709551616^4)(hn:n=np (pd B) 4):∃ k,k<=3/\n=k+1/\pd B k≠0/\B<18446744073709551616^(k+1)/\B=val (pd B) (k+1):=by
 obtain⟨h1,h2,h3⟩:=np_spec (pd B) 4;have hv:val (pd B) 4=B:=by rw[val_pd,Nat.mod_eq_of_lt h4]
 have hn0:0<np (pd B) 4:=by
  rcases Nat.eq_zero_or_pos (np (pd B) 4)with h | h
  ·rw[h]at h2
   have:=val_zero (f:=pd B) 4 (fun j hj=>h2 j (by omega) hj);omega
  ·exact h
 refine⟨np (pd B) 4 - 1,by omega,by omega,h3 hn0,?_,?_⟩
 ·have:=val_lt (f:=pd B) (n:=np (pd B) 4) (fun j _=>pd_lt _ _)
  rw[<- val_top h1 h2,hv]at this;rwa [show np (pd B) 4 - 1+1=np (pd B) 4 by omega]
 ·rw[show np (pd B) 4 - 1+1=np (pd B) 4 by omega,<- val_top h1 h2,hv]
theorem raised{B k s:Nat}(hb:pd B k≠0)(hB:B<18446744073709551616^(k+1))(hs:s=64 - Lib.bitLen (pd B k)):s<64/\s+Lib.bitLen (pd B k)=64/\B*2^s<18446744073709551616^(k+1)/\9223372036854775808<=pd (B*2^s) k:=by
 obtain⟨h1,h2,h3⟩:=bitLen_bounds (pd B k) (pd_lt _ _) hb;have h4:Lib.bitLen (pd B k)<=64:=by
  rcases Nat.lt_or_ge 64 (Lib.bitLen (pd B k))with h | h
  ·have:=Nat.pow_le_pow_right (n:=2) (by omega) (show 64<=Lib.bitLen (pd B k) - 1 by omega)
   have:=pd_lt B k;omega
  ·exact h
 have hk:pd B k=B / 18446744073709551616^k:=by
  unfold pd;rw[Nat.mod_eq_of_lt];rw[Nat.div_lt_iff_lt_mul (Nat.pow_pos (by omega)),Nat.mul_comm,<- Nat.pow_succ];exact hB
 have h5:B<18446744073709551616^k*2^Lib.bitLen (pd B k):=by
  have:=Nat.div_add_mod B (18446744073709551616^k);have hm:=Nat.mod_lt B (Nat.pow_pos (n:=k) (show 0<18446744073709551616 by omega));rw[<- hk]at this;have h6:18446744073709551616^k*(pd B k+1)<=18446744073709551616^k*2^Lib.bitLen (pd B k):=Nat.mul_le_mul_left _ h3;rw[Nat.mul_add,Nat.mul_one]at h6;generalize 18446744073709551616^k*2^Lib.bitLen (pd B k)=u at *;generalize 18446744073709551616^k*pd B k=v at *;generalize 18446744073709551616^k=y at *;omega
 have h6:18446744073709551616^k*2^(Lib.bitLen (pd B k) - 1)<=B:=by
  have:=Nat.div_mul_le_self B (18446744073709551616^k);rw[<- hk]at this;refine Nat.le_trans ?_ this;rw[Nat.mul_comm];exact Nat.mul_le_mul_right _ h2
 have e64:s+Lib.bitLen (pd B k)=64:=by omega
 have hp:=Nat.two_pow_pos s;have h7:B*2^s<18446744073709551616^(k+1):=by
  have:=Nat.mul_lt_mul_of_pos_right h5 hp;rw[Nat.mul_assoc,<- Nat.pow_add,show Lib.bitLen (pd B k)+s=64 by omega,show(2:Nat)^64=18446744073709551616 by rfl,<- Nat.pow_succ]at this;exact this
 refine⟨by omega,e64,h7,?_⟩;have h8:18446744073709551616^k*9223372036854775808<=B*2^s:=by
  have:=Nat.mul_le_mul_right (2^s) h6;rw[Nat.mul_assoc,<- Nat.pow_add,show Lib.bitLen (pd B k) - 1+s=63 by omega,show(2:Nat)^63=9223372036854775808 by rfl]at this;exact this
 unfold pd;rw[Nat.mod_eq_of_lt (by rw[Nat.div_lt_iff_lt_mul (Nat.pow_pos (by omega)),Nat.mul_comm 18446744073709551616,<- Nat.pow_succ];exact h7),Nat.le_div_iff_mul_le (Nat.pow_pos (by omega)),Nat.mul_comm];exact h8
theorem divide_row(A B:Nat)(hA:A<18446744073709551616^8)(hB:B≠0)(h4:B<18446744073709551616^4)(w:World):Calls Tryz.prog 115 #[.agg #[.int .u64 (pd A 0:Nat),.int .u64 (pd A 1:Nat),.int .u64 (pd A 2:Nat),.int .u64 (pd A 3:Nat),.int .u64 (pd A 4:Nat),.int .u64 (pd A 5:Nat),.int .u64 (pd A 6:Nat),.int .u64 (pd A 7:Nat)],.agg #[.int .u64 (pd B 0:Nat),.int .u64 (pd B 1:Nat),.int .u64 (pd B 2:Nat),.int .u64 (pd B 3:Nat)]] w fun e w'=>e=.returned (.tuple #[dv (A / B),wv (A%B)])/\Below w.heap.size w w':=by
 obtain⟨n,hn⟩:∃ n,n=np (pd B) 4:=⟨_,rfl⟩
 obtain⟨m,hm⟩:∃ m,m=np (pd A) 8:=⟨_,rfl⟩
 obtain⟨k,hk,hnk,hbk,hBk,hBv⟩:=top_part hB h4 hn;obtain⟨s,hs⟩:∃ s,s=64 - Lib.bitLen (pd B k):=⟨_,rfl⟩
 obtain⟨s1,s2,s3,s4⟩:=raised hbk hBk hs;obtain⟨m1,m2,-⟩:=np_spec (pd A) 8;rw[<- hm]at m1 m2;have vA:val (pd A) 8=A:=by rw[val_pd,Nat.mod_eq_of_lt hA]
 have vA2:val (pd A) m=A:=by rw[<- val_top m1 m2,vA]
 have k4:18446744073709551616^(k+1)<=18446744073709551616^4:=Nat.pow_le_pow_right (by omega) (by omega);have s5:B*2^s<18446744073709551616^4:=Nat.lt_of_lt_of_le s3 k4;have vD:val (pd (B*2^s)) n=B*2^s:=by rw[hnk,val_pd,Nat.mod_eq_of_lt s3]
 have hA9:A*2^s<18446744073709551616^9:=by
  have h1:2^s<=2^64:=Nat.pow_le_pow_right (by omega) (by omega);have h2:A*2^s<=A*18446744073709551616:=Nat.mul_le_mul_left _ h1;have h3:A*18446744073709551616<18446744073709551616^8*18446744073709551616:=Nat.mul_lt_mul_of_pos_right hA (by omega);rw[<- Nat.pow_succ]at h3;exact Nat.lt_of_le_of_lt h2 h3
 have vR:val (pd (A*2^s)) 9=A*2^s:=by rw[val_pd,Nat.mod_eq_of_lt hA9]
 have hP4:18446744073709551616^4=2^256:=by rfl
 have hw:=divide_walk (pd A) (pd B) (pd (B*2^s)) (pd (A*2^s)) (fun cur=>pd (val cur 4 / 2^s)) n k m s hk hnk m1 s1 w
  (fun B' w c0 c1 c2 c3=>by
   have:=parts_any B' 0 4 4 (pd B) (by omega) w (upto4 (P:=fun j=>w.cell? ⟨B',0+j,none⟩=some (.int .u64 (pd B j:Nat))) c0 c1 c2 c3);rw[<- hn]at this;exact this)
  (fun w=>(Tryz.bits_LeadingZeros64 (pd B k:Nat) w (by omega) (by have:=pd_lt B k;omega)).mono fun e w' ⟨he,hw⟩=>⟨by rw[he,Int.toNat_natCast,show(64:Int) - (Lib.bitLen (pd B k):Int)=((s:Nat):Int) by omega],hw.symm⟩)
  (fun w=>by
   have h:=shl_any s B w;rw[show min (s%2^256) 256=s by omega,wv_one (x:=s) (by omega),wv_row B,wv_row (B*2^s)]at h;exact h)
  (fun w=>raise_any A s s1 hA w)
  (fun B' w c0 c1 c2 c3 c4 c5 c6 c7=>by
   have:=parts_any B' 0 8 8 (pd A) (by omega) w (upto8 (P:=fun j=>w.cell? ⟨B',0+j,none⟩=some (.int .u64 (pd A j:Nat))) c0 c1 c2 c3 c4 c5 c6 c7);rw[<- hm]at this;exact this)
  (fun cur hc w=>by
   have hv:=val_lt (f:=cur) (n:=4) (fun j hj=>hc j (by omega));have h:=shr_any s (val cur 4) w;rw[show min (s%2^256) 256=s by omega,wv_one (x:=s) (by omega),wv_row (val cur 4),wv_row (_ / _),Nat.mod_eq_of_lt (show val cur 4<2^256 by rw[<- hP4];exact hv)]at h;rw[pd_val (n:=4) (fun j hj=>hc j (by omega)) 0 (by omega),pd_val (n:=4) (fun j hj=>hc j (by omega)) 1 (by omega),pd_val (n:=4) (fun j hj=>hc j (by omega)) 2 (by omega),pd_val (n:=4) (fun j hj=>hc j (by omega)) 3 (by omega)]at h;exact h)
  (fun j _=>pd_lt _ _) (fun j _=>pd_lt _ _) s4
  (by
   have:=div_start (a:=pd A) (b:=pd B) (m:=m) (n:=n) (s:=s) (c:=m+1 - n) (fun j _=>pd_lt _ _) (by rw[hnk];exact hbk) (by omega) (by omega);rw[vA2,hnk,<- hBv,<- hnk]at this;rw[vR,vD];exact this)
 refine hw.mono ?_;rintro e w' ⟨cur,q,rfl,hc,hq,h1,h2,hb⟩;rw[vD]at h1 h2;rw[vR]at h1;obtain⟨h5,h6⟩:=div_end rfl h1 h2;have h7:val cur 9=val cur 4:=val_top (by omega) (fun j h8 h9=>val_ztop (Nat.lt_trans h2 s5) j h8 h9);refine⟨?_,hb⟩;rw[wv_row,<- h6,h7,dv_row,<- h5];rw[pd_val hq 0 (by omega),pd_val hq 1 (by omega),pd_val hq 2 (by omega),pd_val hq 3 (by omega),pd_val hq 4 (by omega),pd_val hq 5 (by omega),pd_val hq 6 (by omega),pd_val hq 7 (by omega)]
-- WHAT divide COMES TO.
theorem divide_any(A B:Nat)(hA:A<13407807929942597099574024998205846127479365820592393377723561443721764030073546976801874298166903427690031858186486050853753882811946569946433649006084096)(hB:B≠0)(h4:B<2^256)(w:World):Calls Tryz.prog 115 #[dv A,wv B] w fun e w'=>e=.returned (.tuple #[dv (A / B),wv (A%B)])/\Below w.heap.size w w':=by
 rw[dv_row A,wv_row B];exact divide_row A B (by rw[show 18446744073709551616^8=13407807929942597099574024998205846127479365820592393377723561443721764030073546976801874298166903427690031858186486050853753882811946569946433649006084096 by rfl];exact hA) hB (by rw[show 18446744073709551616^4=2^256 by rfl];exact h4) w
theorem divide_none(A:Nat)(w:World):Calls Tryz.prog 115 #[dv A,wv 0] w fun e w'=>e=.returned (.tuple #[dv 0,wv 0])/\Below w.heap.size w w':=by
 rw[dv_row A];exact divide_zero A w
open Go.RowKit
theorem arr_lit(t:Array Value):t=((List.range t.size).map fun i=>t.getD i undef).toArray:=by
 apply Array.ext
 ·simp
 ·intro i h1 h2
  simp[h1]
structure CR (w:World) (x y:Nat) (wx:World):Prop where
 old:Below w.heap.size w wx
 r0:wx.heap[w.heap.size]?=some (.cells (pw x) 24 (0,0))
 r1:wx.heap[w.heap.size+1]?=some (.cells (pw y) 24 (0,0))
 r2:wx.heap[w.heap.size+1+1]?=some (.cells #[.int .u64 0,.int .u64 0,.int .u64 0,.int .u64 0] 24 (0,0))
theorem CR.high{w wx:World}{x y:Nat}(h:CR w x y wx):w.heap.size+1+1+1<=wx.heap.size:=(Array.getElem?_eq_some_iff.1 h.r2).1
theorem CR.below{w wx w':World}{x y:Nat}(h:CR w x y wx)(hb:Below wx.heap.size wx w'):CR w x y w':=by
 have l:=h.high;exact⟨h.old.trans (hb.mono h.old.size),(hb.block _ (by omega)).trans h.r0,(hb.block _ (by omega)).trans h.r1,(hb.block _ (by omega)).trans h.r2⟩
theorem CR.rowed{w wx:World}{x y g:Nat}{cs:Array Value}(h:CR w x y wx)(hg:w.heap.size+1+1+1<=g):CR w x y (wx.setRow g cs) :=
 ⟨below_setRow h.old (by omega) _,(setRow_other _ _ _ _ (by omega)).trans h.r0,(setRow_other _ _ _ _ (by omega)).trans h.r1,(setRow_other _ _ _ _ (by omega)).trans h.r2⟩
def dw(x:Nat):Array Value:=match dv x with | .agg a=>a | _=>#[]
theorem dv_dw(x:Nat):dv x=.agg (dw x):=rfl
theorem dw_one(x:Nat):(dw x).all (·.oneCell')=true:=by simp[dw,dv,Value.oneCell']
def FQ(q r:Nat)(T:TypeId):Array Value:=if T=123 then dw q else pw r
theorem infoWide:(Tryz.prog.info? 123).map (·.size)=some 8:=by kernel_rfl
theorem store_dw{g q r:Nat}{w:World}{cs:Array Value}(hg:w.heap[g]?=some (.cells cs 123 (0,0)))(hs:cs.size=(FQ q r 123).size):(Instr.storeAt 123 (.pointer (some ⟨g,0,none⟩)) (dv q)).run Tryz.prog w=.ok () (w.setRow g (FQ q r 123)):=by
 rw[dv_dw];show _=Result.ok () (w.setRow g (dw q));simp only[Instr.storeAt,Instr.sureAddr,Sem.run_bind,Sem.run_pure,Result.andThen_ok,run_storeVar_row w g 123 123 cs (dw q) hg infoWide hs (dw_one q)]
theorem store_qw{g q r:Nat}{w:World}{cs:Array Value}(hg:w.heap[g]?=some (.cells cs 24 (0,0)))(hs:cs.size=(FQ q r 24).size):(Instr.storeAt 24 (.pointer (some ⟨g,0,none⟩)) (wv r)).run Tryz.prog w=.ok () (w.setRow g (FQ q r 24)):=store_pw hs hg
theorem widen_any(x:Nat)(w:World):Calls Tryz.prog 116 #[wv x,.slice none 0 0] w fun e w'=>e=.returned (dv (x%2^256))/\Below w.heap.size w w':=by
 obtain⟨a0,a1,a2,a3,u0,u1,u2,u3,ea,na⟩:=wv_parts x;have h:=widen_nil a0 a1 a2 a3 w;rw[ea,<- na];have hn:dv (n4 a0 a1 a2 a3)=.agg #[.int .u64 a0,.int .u64 a1,.int .u64 a2,.int .u64 a3,.int .u64 0,.int .u64 0,.int .u64 0,.int .u64 0]:=by
  have:=dv_n8 (a4:=0) (a5:=0) (a6:=0) (a7:=0) u0 u1 u2 u3 (by omega) (by omega) (by omega) (by omega);rw[show n8 a0 a1 a2 a3 0 0 0 0=n4 a0 a1 a2 a3 by unfold n8 n4;omega]at this;exact this
 rw[hn];exact h
def quoV(a y:Nat):Nat:=if y%2^256=0 then 0 else a / (y%2^256)
def remV(a y:Nat):Nat:=if y%2^256=0 then 0 else a%(y%2^256)
theorem divide_all(a y:Nat)(ha:a<13407807929942597099574024998205846127479365820592393377723561443721764030073546976801874298166903427690031858186486050853753882811946569946433649006084096)(w:World):Calls Tryz.prog 115 #[dv a,wv y] w fun e w'=>e=.returned (.tuple #[dv (quoV a y),wv (remV a y)])/\Below w.heap.size w w':=by
 rw[show wv y=wv (y%2^256) from wv_congr (Nat.mod_mod _ _).symm];unfold quoV remV;by_cases h:y%2^256=0
 ·rw[if_pos h,if_pos h,h];exact divide_none a w
 ·rw[if_neg h,if_neg h];exact divide_any a _ ha h (Nat.mod_lt _ (by omega)) w
-- WHAT word.Mod COMES TO.
theorem mod_any(x y:Nat)(w:World):Calls Tryz.prog 99 #[wv x,wv y] w fun e w'=>e=.returned (wv (remV (x%2^256) y))/\Below w.heap.size w w':=by
 rw[wv_pw x,wv_pw y];go_enter Tryz.func99,Tryz.ntmps99
 go_wp2_with fail
 refine region_tie (CR w x y) (fun i s wx=>match i with | 0=>s 8=wv x | 1=>s 9=dv (x%2^256) | 2=>s 10=wv y | 3=>s 11=.tuple #[dv (quoV (x%2^256) y),wv (remV (x%2^256) y)] | 4=>s 7=.tuple #[dv (quoV (x%2^256) y),wv (remV (x%2^256) y)] | 5=>s 12=dv (quoV (x%2^256) y) | 6=>s 13=wv (remV (x%2^256) y) | 7=>∃ D,s 5=.pointer (some ⟨D,0,none⟩)/\w.heap.size+1+1+1<=D/\∃ cs,wx.heap[D]?=some (.cells cs 123 (0,0))/\cs.size=8 | 8=>∃ D,s 6=.pointer (some ⟨D,0,none⟩)/\w.heap.size+1+1+1<=D/\∃ cs,wx.heap[D]?=some (.cells cs 24 (0,0))/\cs.size=4 | 9=>∃ D,s 5=.pointer (some ⟨D,0,none⟩)/\w.heap.size+1+1+1<=D/\wx.heap[D]?=some (.cells (FQ (quoV (x%2^256) y) (remV (x%2^256) y) 123) 123 (0,0)) | 10=>∃ D,s 6=.pointer (some ⟨D,0,none⟩)/\w.heap.size+1+1+1<=D/\wx.heap[D]?=some (.cells (FQ (quoV (x%2^256) y) (remV (x%2^256) y) 24) 24 (0,0)) | _=>True) (RT (w.heap.size+1+1+1) (FQ (quoV (x%2^256) y) (remV (x%2^256) y))) (fun i=>match i with | 0=>[8] | 1=>[9] | 2=>[10] | 3=>[11] | 4=>[7] | 5=>[12] | 6=>[13] | 7=>[5] | 8=>[6] | 9=>[5] | 10=>[6] | _=>[]) (fun i=>i) (by kernel_rfl) (by kernel_rfl) ⟨by go_grown,(heap3 _ _ _ _).1,(heap3 _ _ _ _).2.1,(heap3 _ _ _ _).2.2⟩ ?_ ?_ ?_ ?_
 ·intro i s s' wx he hp
  match i,he,hp with
  | 0,he,hp=>exact(he 8 (by simp)).symm.trans hp
  | 1,he,hp=>exact(he 9 (by simp)).symm.trans hp
  | 2,he,hp=>exact(he 10 (by simp)).symm.trans hp
  | 3,he,hp=>exact(he 11 (by simp)).symm.trans hp
  | 4,he,hp=>exact(he 7 (by simp)).symm.trans hp
  | 5,he,hp=>exact(he 12 (by simp)).symm.trans hp
  | 6,he,hp=>exact(he 13 (by simp)).symm.trans hp
  | 7,he,hp=>obtain⟨D,h1,h2⟩:=hp;exact⟨D,(he 5 (by simp)).symm.trans h1,h2⟩
  | 8,he,hp=>obtain⟨D,h1,h2⟩:=hp;exact⟨D,(he 6 (by simp)).symm.trans h1,h2⟩
  | 9,he,hp=>obtain⟨D,h1,h2⟩:=hp;exact⟨D,(he 5 (by simp)).symm.trans h1,h2⟩
  | 10,he,hp=>obtain⟨D,h1,h2⟩:=hp;exact⟨D,(he 6 (by simp)).symm.trans h1,h2⟩
  | _+11,_,_=>trivial
 ·intro i s wa wb hR hp
  match i,hp with
  | 0,hp=>exact hp
  | 1,hp=>exact hp
  | 2,hp=>exact hp
  | 3,hp=>exact hp
  | 4,hp=>exact hp
  | 5,hp=>exact hp
  | 6,hp=>exact hp
  | 7,hp=>obtain⟨D,h1,h2,cs,h3,h4⟩:=hp;obtain⟨cs',h5,h6⟩:=hR.shape _ _ _ _ h3;exact⟨D,h1,h2,cs',h5,h6.trans h4⟩
  | 8,hp=>obtain⟨D,h1,h2,cs,h3,h4⟩:=hp;obtain⟨cs',h5,h6⟩:=hR.shape _ _ _ _ h3;exact⟨D,h1,h2,cs',h5,h6.trans h4⟩
  | 9,hp=>obtain⟨D,h1,h2,h3⟩:=hp;exact⟨D,h1,h2,hR.keep _ _ _ h3⟩
  | 10,hp=>obtain⟨D,h1,h2,h3⟩:=hp;exact⟨D,h1,h2,hR.keep _ _ _ h3⟩
  | _+11,_=>trivial
 ·refine⟨?_,?_,?_,?_,?_,?_,?_,?_,?_,?_,?_,trivial⟩
  ·intro a wx hC hsz hK
   have h0:a.tmps.getD 2 undef=.pointer (some ⟨w.heap.size,0,none⟩):=hK.1 2 (by kernel_rfl);exact tt_load 24 (.tmp 2) (.pointer (some ⟨w.heap.size,0,none⟩)) (wv x) rfl (by kernel_rfl) h0 (load_pw hC.r0) hC (slots_put _ _ _ (by rw[hsz];exact of_decide_eq_true (by kernel_rfl))) (RT.refl _ _ _)
  ·intro a wx hC hsz hK
   have h0:a.tmps.getD 8 undef=wv x:=hK.2 ⟨0,.data⟩ (by simp) rfl _ rfl;refine tt_call 116 #[a.tmps.getD 8 undef,.slice none 0 0] (by kernel_rfl) (by kernel_rfl) ?_;rw[h0];exact((fun wx=>widen_any x wx) wx).mono fun e w' hh=>⟨_,hh.1,hC.below hh.2,slots_put _ _ _ (by rw[hsz];exact of_decide_eq_true (by kernel_rfl)),RT.of hC.high hh.2⟩
  ·intro a wx hC hsz hK
   have h0:a.tmps.getD 3 undef=.pointer (some ⟨w.heap.size+1,0,none⟩):=hK.1 3 (by kernel_rfl);exact tt_load 24 (.tmp 3) (.pointer (some ⟨w.heap.size+1,0,none⟩)) (wv y) rfl (by kernel_rfl) h0 (load_pw hC.r1) hC (slots_put _ _ _ (by rw[hsz];exact of_decide_eq_true (by kernel_rfl))) (RT.refl _ _ _)
  ·intro a wx hC hsz hK
   have h0:a.tmps.getD 9 undef=dv (x%2^256):=hK.2 ⟨1,.data⟩ (by simp) rfl _ rfl;have h1:a.tmps.getD 10 undef=wv y:=hK.2 ⟨2,.data⟩ (by simp) rfl _ rfl;refine tt_call 115 #[a.tmps.getD 9 undef,a.tmps.getD 10 undef] (by kernel_rfl) (by kernel_rfl) ?_;rw[h0,h1];exact((fun wx=>divide_all (x%2^256) y (by omega) wx) wx).mono fun e w' hh=>⟨_,hh.1,hC.below hh.2,slots_put _ _ _ (by rw[hsz];exact of_decide_eq_true (by kernel_rfl)),RT.of hC.high hh.2⟩
  ·intro a wx hC hsz hK
   have h0:a.tmps.getD 11 undef=.tuple #[dv (quoV (x%2^256) y),wv (remV (x%2^256) y)]:=hK.2 ⟨3,.data⟩ (by simp) rfl _ rfl;exact tt_val (.tuple #[dv (quoV (x%2^256) y),wv (remV (x%2^256) y)]) (by kernel_rfl) (by rw[<- h0];kernel_rfl) hC (slots_put _ _ _ (by rw[hsz];exact of_decide_eq_true (by kernel_rfl))) (RT.refl _ _ _)
  ·intro a wx hC hsz hK
   have h0:a.tmps.getD 7 undef=.tuple #[dv (quoV (x%2^256) y),wv (remV (x%2^256) y)]:=hK.2 ⟨4,.data⟩ (by simp) rfl _ rfl;refine tt_v (Instr.extract (a.tmps.getD 7 undef) 0) (dv (quoV (x%2^256) y)) (by kernel_rfl) rfl ?_ hC (slots_put _ _ _ (by rw[hsz];exact of_decide_eq_true (by kernel_rfl))) (RT.refl _ _ _);rw[h0];kernel_rfl
  ·intro a wx hC hsz hK
   have h0:a.tmps.getD 7 undef=.tuple #[dv (quoV (x%2^256) y),wv (remV (x%2^256) y)]:=hK.2 ⟨4,.data⟩ (by simp) rfl _ rfl;refine tt_v (Instr.extract (a.tmps.getD 7 undef) 1) (wv (remV (x%2^256) y)) (by kernel_rfl) rfl ?_ hC (slots_put _ _ _ (by rw[hsz];exact of_decide_eq_true (by kernel_rfl))) (RT.refl _ _ _);rw[h0];kernel_rfl
  ·intro a wx hC hsz hK
   exact tt_new (.pointer (some ⟨wx.heap.size,0,none⟩)) (by kernel_rfl) (by kernel_rfl) (hC.below ((Below.refl _ _).alloc (Nat.le_refl _) _)) ⟨_,slots_put _ _ _ (by rw[hsz];exact of_decide_eq_true (by kernel_rfl)),hC.high,#[.int .u64 0,.int .u64 0,.int .u64 0,.int .u64 0,.int .u64 0,.int .u64 0,.int .u64 0,.int .u64 0],heap_alloc_new _ _,rfl⟩ (RT.of hC.high ((Below.refl _ _).alloc (Nat.le_refl _) _))
  ·intro a wx hC hsz hK
   exact tt_new (.pointer (some ⟨wx.heap.size,0,none⟩)) (by kernel_rfl) (by kernel_rfl) (hC.below ((Below.refl _ _).alloc (Nat.le_refl _) _)) ⟨_,slots_put _ _ _ (by rw[hsz];exact of_decide_eq_true (by kernel_rfl)),hC.high,#[.int .u64 0,.int .u64 0,.int .u64 0,.int .u64 0],heap_alloc_new _ _,rfl⟩ (RT.of hC.high ((Below.refl _ _).alloc (Nat.le_refl _) _))
  ·intro a wx hC hsz hK
   obtain⟨D,h1,h2,cs,h3,h4⟩:=hK.2 ⟨7,.data⟩ (by simp) rfl _ rfl;have h0:a.tmps.getD 12 undef=dv (quoV (x%2^256) y):=hK.2 ⟨5,.data⟩ (by simp) rfl _ rfl;exact tt_store (by kernel_rfl) rfl (run_store 123 (.tmp 5) (.tmp 12) _ _ rfl h1 h0 (store_dw h3 h4)) (hC.rowed h2) ⟨D,h1,h2,setRow_heap _ _ _ _ _ _ h3⟩ (RT.row h2 h3 h4)
  ·intro a wx hC hsz hK
   obtain⟨D,h1,h2,cs,h3,h4⟩:=hK.2 ⟨8,.data⟩ (by simp) rfl _ rfl;have h0:a.tmps.getD 13 undef=wv (remV (x%2^256) y):=hK.2 ⟨6,.data⟩ (by simp) rfl _ rfl;exact tt_store (by kernel_rfl) rfl (run_store 24 (.tmp 6) (.tmp 13) _ _ rfl h1 h0 (store_qw h3 h4)) (hC.rowed h2) ⟨D,h1,h2,setRow_heap _ _ _ _ _ _ h3⟩ (RT.row h2 h3 h4)
 ·intro f wx hC hf
  have s8:=hf 0 _ rfl;have s9:=hf 1 _ rfl;have s10:=hf 2 _ rfl;have s11:=hf 3 _ rfl;have s7:=hf 4 _ rfl;have s12:=hf 5 _ rfl;have s13:=hf 6 _ rfl;obtain⟨D5,s5,g5,r5⟩:=hf 9 _ rfl;obtain⟨D6,s6,g6,r6⟩:=hf 10 _ rfl;clear hf;generalize hA:putAll _ _ _=A at *;have hsz:A.tmps.size=15:=by rw[<- hA,putAll_size];rfl
  have t0:A.tmps.getD 0 undef=.agg (pw x):=by subst hA;kernel_rfl
  have t1:A.tmps.getD 1 undef=.agg (pw y):=by subst hA;kernel_rfl
  have t2:A.tmps.getD 2 undef=.pointer (some ⟨w.heap.size,0,none⟩):=by subst hA;kernel_rfl
  have t3:A.tmps.getD 3 undef=.pointer (some ⟨w.heap.size+1,0,none⟩):=by subst hA;kernel_rfl
  have t4:A.tmps.getD 4 undef=.pointer (some ⟨w.heap.size+1+1,0,none⟩):=by subst hA;kernel_rfl
  have t14:A.tmps.getD 14 undef=undef:=by subst hA;kernel_rfl
  have hd:A.defers=[]:=by subst hA;kernel_rfl
  clear hA;obtain⟨tm,df⟩:=A;simp only[slots]at *;have hL:=arr_lit tm;rw[hsz]at hL;simp only[List.range,List.range.loop,List.map]at hL;rw[t0,t1,t2,t3,t4,s5,s6,s7,s8,s9,s10,s11,s12,s13,t14]at hL;subst hL hd;clear t0 t1 t2 t3 t4 s5 s6 s7 s8 s9 s10 s11 s12 s13 t14 hsz;have hr6:wx.heap[D6]?=some (.cells (pw (remV (x%2^256) y)) 24 (0,0)):=r6;clear r5 r6
  go_wp2_with (first | (refine wpList_load_row rfl 24 _ rfl D6 rfl 24 (pw (remV (x%2^256) y)) (0,0) _ hr6 Tryz.underlying24 rfl infoWord ?_) | (refine wpList_store_row rfl 24 _ _ rfl (w.heap.size+1+1) (pw (remV (x%2^256) y)) rfl rfl 24 #[.int .u64 0,.int .u64 0,.int .u64 0,.int .u64 0] hC.r2 infoWord rfl (pw_one _) ?_))
  (try simp only[Exit.inBlock,Exit.then])
  exact bodyPost_ret (v:=.agg (pw (remV (x%2^256) y))) (results_cell_row (p:=4) rfl _ _ (w.heap.size+1+1) 24 _ (0,0) _ rfl (setRow_heap _ _ _ _ _ _ hC.r2) Tryz.underlying24 rfl infoWord) rfl ⟨rfl,below_setRow hC.old (by omega) _⟩
open Go.RowKit
theorem less_top{a b:Nat->Nat}{k:Nat}(ha:∀ j,j<k->a j<65536)(_hb:∀ j,j<k->b j<65536)(h:a k<b k):vd a (k+1)<vd b (k+1):=by
 have h1:=vd_lt ha;simp only[vd];have h2:65536^k*a k+65536^k<=65536^k*b k:=by
  have:=Nat.mul_le_mul_left (65536^k) (show a k+1<=b k by omega);rwa [Nat.mul_add,Nat.mul_one]at this
 omega
theorem vd_same_above{a b:Nat->Nat}(k:Nat):∀ N,k<=N->(∀ j,k<=j->j<N->a j=b j)->vd a N+vd b k=vd b N+vd a k:=by
 intro N hN h
 induction N with
 | zero=>(obtain rfl:k=0:=by omega);rfl
 | succ N ih =>
  by_cases e:k=N+1
  ·subst e;omega
  ·have:=ih (by omega) (fun j h1 h2=>h j h1 (by omega))
   simp only[vd];rw[h N (by omega) (by omega)];omega
theorem less_any(ba ca bb cb n m:Nat)(da db:Nat->Nat)(hn:(n:Int)<=1000000)(hm:(m:Int)<=1000000)(ha:∀ j,j<n->da j<65536)(hb:∀ j,j<m->db j<65536)(w:World)(hA:Dg w ba n da)(hB:Dg w bb m db) :
  Calls Tryz.prog 102 #[.slice (some ⟨ba,0,none⟩) n ca,.slice (some ⟨bb,0,none⟩) m cb] w fun e w'=>e=.returned (.bool (decide (vd da n<vd db m)))/\w=w':=by
 have en:=vd_pad da n (max n m) (by omega);have em:=vd_pad db m (max n m) (by omega);rw[<- en,<- em];clear en em;have Pa:Hid (∀ j,pad da n j<65536):=Lib.hid (fun j=>by unfold pad;split;exact ha j (by omega);omega);have Pb:Hid (∀ j,pad db m j<65536):=Lib.hid (fun j=>by unfold pad;split;exact hb j (by omega);omega);have Ha:=Lib.hid ha;clear ha;have Hb:=Lib.hid hb;clear hb;have HA:=Lib.hid hA;clear hA;have HB:=Lib.hid hB;clear hB;have hn0:(0:Int)<=n:=by omega
 have hm0:(0:Int)<=m:=by omega
 obtain⟨R,hR⟩:∃ R,decide (vd (pad da n) (max n m)<vd (pad db m) (max n m))=R:=⟨_,rfl⟩
 rw[hR];have HR:=Lib.hid hR;clear hR;by_cases hnm:n<m
 ·have hcmp:(n:Int)<(m:Int):=by omega
  obtain⟨N,hN⟩:∃ N,max n m=N:=⟨_,rfl⟩
  have HN:=Lib.hid hN;clear hN;go_enter Tryz.func102,Tryz.ntmps102;go_wp2
  go_loop [6] (fun i=>∃ k:Nat,k<=N/\i=.int .i64 ((k:Int) - 1)/\Hid (∀ j,k<=j->j<N->pad da n j=pad db m j)) (fun i=>(intOf i+1).toNat)
  case atStart=>exact⟨N,Nat.le_refl _,by have:=HN.out;first | (rw[show N=m by omega]) | rfl,Lib.hid (fun j h1 h2=>by omega)⟩
  case round =>
   obtain⟨k,hk,rfl,HE⟩:=hrel;have hNb:N<=1000000:=by have:=HN.out;omega
   have hk1:(k:Int)<=1000000:=by omega
   rcases k with _ | k
   ·go_wp2
    go_ret;refine⟨?_,rfl⟩;rw[<- HR.out,HN.out];have h:=vd_same_above 0 N (Nat.zero_le _) (fun j _ h2=>HE.out j (Nat.zero_le _) h2);simp only[vd]at h;rw[show decide (vd (pad da n) N<vd (pad db m) N)=false by rw[decide_eq_false_iff_not];omega];rfl
   ·have e1:((k+1:Nat):Int) - 1=(k:Int):=by omega
    rw[e1];have hk0:(0:Int)<=k:=by omega
    have hk2:(k:Int)<=1000000:=by omega
    have hge:∀(x y:Nat),pad da n k=x->pad db m k=y->x≠y->R=decide (x<y):=fun x y hx hy hne=>by
     rw[<- HR.out,HN.out];have h:=vd_same_above (k+1) N (by omega) (fun j h1 h2=>HE.out j h1 h2);by_cases hlt:x<y
     ·have:=less_top (a:=pad da n) (b:=pad db m) (k:=k) (fun j _=>Pa.out j) (fun j _=>Pb.out j) (by rw[hx,hy];exact hlt)
      rw[decide_eq_true hlt,decide_eq_true (by omega)]
     ·have:=less_top (a:=pad db m) (b:=pad da n) (k:=k) (fun j _=>Pb.out j) (fun j _=>Pa.out j) (by rw[hx,hy];omega)
      rw[decide_eq_false hlt,decide_eq_false (by omega)]
    have HG:=Lib.hid hge;clear hge e1;by_cases h1:k<n
    ·by_cases h2:k<m
     ·have xa:w.cell? ⟨ba,k,none⟩=some (.int .u64 (da k:Nat)):=HA.out.2 k (by omega)
      have hka:(k:Int)<(n:Int):=by omega
      have pa:pad da n k=da k:=by unfold pad;rw[if_pos (by omega)]
      have xb:w.cell? ⟨bb,k,none⟩=some (.int .u64 (db k:Nat)):=HB.out.2 k (by omega);have hkb:(k:Int)<(m:Int):=by omega
      have pb:pad db m k=db k:=by unfold pad;rw[if_pos (by omega)]
      have PA:=Lib.hid pa;clear pa;have PB:=Lib.hid pb;clear pb;by_cases he:da k=db k
      ·have hb1:(((da k:Nat):Int) == ((db k:Nat):Int))=true:=by simp;omega
       have hb2:(((da k:Nat):Int) != ((db k:Nat):Int))=false:=by simp;omega
       have HE2:=Lib.hid he;clear he;go_wp2
       go_round
       case rel =>
        refine⟨k,by omega,rfl,Lib.hid (fun j h1 h2=>?_)⟩;by_cases hj:j=k
        ·subst hj;rw[PA.out,PB.out,HE2.out]
        ·exact HE.out j (by omega) h2
       case measure=>simp[intOf]
      ·have hb1:(((da k:Nat):Int) == ((db k:Nat):Int))=false:=by simp;omega
       have hb2:(((da k:Nat):Int) != ((db k:Nat):Int))=true:=by simp;omega
       have hr:=HG.out _ _ PA.out PB.out he;have HRR:=Lib.hid hr;clear hr he;go_wp2;go_ret;refine⟨?_,rfl⟩;rw[HRR.out]
       try simp
     ·have xa:w.cell? ⟨ba,k,none⟩=some (.int .u64 (da k:Nat)):=HA.out.2 k (by omega)
      have hka:(k:Int)<(n:Int):=by omega
      have pa:pad da n k=da k:=by unfold pad;rw[if_pos (by omega)]
      have hkb:¬(k:Int)<(m:Int):=by omega
      have pb:pad db m k=0:=by unfold pad;rw[if_neg (by omega)]
      have PA:=Lib.hid pa;clear pa;have PB:=Lib.hid pb;clear pb;by_cases he:da k=0
      ·have hb1:(((da k:Nat):Int) == (0:Int))=true:=by simp;omega
       have hb2:(((da k:Nat):Int) != (0:Int))=false:=by simp;omega
       have HE2:=Lib.hid he;clear he;go_wp2
       go_round
       case rel =>
        refine⟨k,by omega,rfl,Lib.hid (fun j h1 h2=>?_)⟩;by_cases hj:j=k
        ·subst hj;rw[PA.out,PB.out,HE2.out]
        ·exact HE.out j (by omega) h2
       case measure=>simp[intOf]
      ·have hb1:(((da k:Nat):Int) == (0:Int))=false:=by simp;omega
       have hb2:(((da k:Nat):Int) != (0:Int))=true:=by simp;omega
       have hr:=HG.out _ _ PA.out PB.out he;have HRR:=Lib.hid hr;clear hr he;go_wp2;go_ret;refine⟨?_,rfl⟩;rw[HRR.out]
       try simp
    ·have h2:k<m:=by have:=HN.out;omega
     have hka:¬(k:Int)<(n:Int):=by omega
     have pa:pad da n k=0:=by unfold pad;rw[if_neg (by omega)]
     have xb:w.cell? ⟨bb,k,none⟩=some (.int .u64 (db k:Nat)):=HB.out.2 k (by omega);have hkb:(k:Int)<(m:Int):=by omega
     have pb:pad db m k=db k:=by unfold pad;rw[if_pos (by omega)]
     have PA:=Lib.hid pa;clear pa;have PB:=Lib.hid pb;clear pb;by_cases he:0=db k
     ·have hb1:((0:Int) == ((db k:Nat):Int))=true:=by simp;omega
      have hb2:((0:Int) != ((db k:Nat):Int))=false:=by simp;omega
      have HE2:=Lib.hid he;clear he;go_wp2
      go_round
      case rel =>
       refine⟨k,by omega,rfl,Lib.hid (fun j h1 h2=>?_)⟩;by_cases hj:j=k
       ·subst hj;rw[PA.out,PB.out,HE2.out]
       ·exact HE.out j (by omega) h2
      case measure=>simp[intOf]
     ·have hb1:((0:Int) == ((db k:Nat):Int))=false:=by simp;omega
      have hb2:((0:Int) != ((db k:Nat):Int))=true:=by simp;omega
      have hr:=HG.out _ _ PA.out PB.out he;have HRR:=Lib.hid hr;clear hr he;go_wp2;go_ret;refine⟨?_,rfl⟩;rw[HRR.out]
      try simp
 ·have hcmp:¬(n:Int)<(m:Int):=by omega
  obtain⟨N,hN⟩:∃ N,max n m=N:=⟨_,rfl⟩
  have HN:=Lib.hid hN;clear hN;go_enter Tryz.func102,Tryz.ntmps102;go_wp2
  go_loop [6] (fun i=>∃ k:Nat,k<=N/\i=.int .i64 ((k:Int) - 1)/\Hid (∀ j,k<=j->j<N->pad da n j=pad db m j)) (fun i=>(intOf i+1).toNat)
  case atStart=>exact⟨N,Nat.le_refl _,by have:=HN.out;first | (rw[show N=n by omega]) | rfl,Lib.hid (fun j h1 h2=>by omega)⟩
  case round =>
   obtain⟨k,hk,rfl,HE⟩:=hrel;have hNb:N<=1000000:=by have:=HN.out;omega
   have hk1:(k:Int)<=1000000:=by omega
   rcases k with _ | k
   ·go_wp2
    go_ret;refine⟨?_,rfl⟩;rw[<- HR.out,HN.out];have h:=vd_same_above 0 N (Nat.zero_le _) (fun j _ h2=>HE.out j (Nat.zero_le _) h2);simp only[vd]at h;rw[show decide (vd (pad da n) N<vd (pad db m) N)=false by rw[decide_eq_false_iff_not];omega];rfl
   ·have e1:((k+1:Nat):Int) - 1=(k:Int):=by omega
    rw[e1];have hk0:(0:Int)<=k:=by omega
    have hk2:(k:Int)<=1000000:=by omega
    have hge:∀(x y:Nat),pad da n k=x->pad db m k=y->x≠y->R=decide (x<y):=fun x y hx hy hne=>by
     rw[<- HR.out,HN.out];have h:=vd_same_above (k+1) N (by omega) (fun j h1 h2=>HE.out j h1 h2);by_cases hlt:x<y
     ·have:=less_top (a:=pad da n) (b:=pad db m) (k:=k) (fun j _=>Pa.out j) (fun j _=>Pb.out j) (by rw[hx,hy];exact hlt)
      rw[decide_eq_true hlt,decide_eq_true (by omega)]
     ·have:=less_top (a:=pad db m) (b:=pad da n) (k:=k) (fun j _=>Pb.out j) (fun j _=>Pa.out j) (by rw[hx,hy];omega)
      rw[decide_eq_false hlt,decide_eq_false (by omega)]
    have HG:=Lib.hid hge;clear hge e1;by_cases h1:k<n
    ·by_cases h2:k<m
     ·have xa:w.cell? ⟨ba,k,none⟩=some (.int .u64 (da k:Nat)):=HA.out.2 k (by omega)
      have hka:(k:Int)<(n:Int):=by omega
      have pa:pad da n k=da k:=by unfold pad;rw[if_pos (by omega)]
      have xb:w.cell? ⟨bb,k,none⟩=some (.int .u64 (db k:Nat)):=HB.out.2 k (by omega);have hkb:(k:Int)<(m:Int):=by omega
      have pb:pad db m k=db k:=by unfold pad;rw[if_pos (by omega)]
      have PA:=Lib.hid pa;clear pa;have PB:=Lib.hid pb;clear pb;by_cases he:da k=db k
      ·have hb1:(((da k:Nat):Int) == ((db k:Nat):Int))=true:=by simp;omega
       have hb2:(((da k:Nat):Int) != ((db k:Nat):Int))=false:=by simp;omega
       have HE2:=Lib.hid he;clear he;go_wp2
       go_round
       case rel =>
        refine⟨k,by omega,rfl,Lib.hid (fun j h1 h2=>?_)⟩;by_cases hj:j=k
        ·subst hj;rw[PA.out,PB.out,HE2.out]
        ·exact HE.out j (by omega) h2
       case measure=>simp[intOf]
      ·have hb1:(((da k:Nat):Int) == ((db k:Nat):Int))=false:=by simp;omega
       have hb2:(((da k:Nat):Int) != ((db k:Nat):Int))=true:=by simp;omega
       have hr:=HG.out _ _ PA.out PB.out he;have HRR:=Lib.hid hr;clear hr he;go_wp2;go_ret;refine⟨?_,rfl⟩;rw[HRR.out]
       try simp
     ·have xa:w.cell? ⟨ba,k,none⟩=some (.int .u64 (da k:Nat)):=HA.out.2 k (by omega)
      have hka:(k:Int)<(n:Int):=by omega
      have pa:pad da n k=da k:=by unfold pad;rw[if_pos (by omega)]
      have hkb:¬(k:Int)<(m:Int):=by omega
      have pb:pad db m k=0:=by unfold pad;rw[if_neg (by omega)]
      have PA:=Lib.hid pa;clear pa;have PB:=Lib.hid pb;clear pb;by_cases he:da k=0
      ·have hb1:(((da k:Nat):Int) == (0:Int))=true:=by simp;omega
       have hb2:(((da k:Nat):Int) != (0:Int))=false:=by simp;omega
       have HE2:=Lib.hid he;clear he;go_wp2
       go_round
       case rel =>
        refine⟨k,by omega,rfl,Lib.hid (fun j h1 h2=>?_)⟩;by_cases hj:j=k
        ·subst hj;rw[PA.out,PB.out,HE2.out]
        ·exact HE.out j (by omega) h2
       case measure=>simp[intOf]
      ·have hb1:(((da k:Nat):Int) == (0:Int))=false:=by simp;omega
       have hb2:(((da k:Nat):Int) != (0:Int))=true:=by simp;omega
       have hr:=HG.out _ _ PA.out PB.out he;have HRR:=Lib.hid hr;clear hr he;go_wp2;go_ret;refine⟨?_,rfl⟩;rw[HRR.out]
       try simp
    ·have h2:k<m:=by have:=HN.out;omega
     have hka:¬(k:Int)<(n:Int):=by omega
     have pa:pad da n k=0:=by unfold pad;rw[if_neg (by omega)]
     have xb:w.cell? ⟨bb,k,none⟩=some (.int .u64 (db k:Nat)):=HB.out.2 k (by omega);have hkb:(k:Int)<(m:Int):=by omega
     have pb:pad db m k=db k:=by unfold pad;rw[if_pos (by omega)]
     have PA:=Lib.hid pa;clear pa;have PB:=Lib.hid pb;clear pb;by_cases he:0=db k
     ·have hb1:((0:Int) == ((db k:Nat):Int))=true:=by simp;omega
      have hb2:((0:Int) != ((db k:Nat):Int))=false:=by simp;omega
      have HE2:=Lib.hid he;clear he;go_wp2
      go_round
      case rel =>
       refine⟨k,by omega,rfl,Lib.hid (fun j h1 h2=>?_)⟩;by_cases hj:j=k
       ·subst hj;rw[PA.out,PB.out,HE2.out]
       ·exact HE.out j (by omega) h2
      case measure=>simp[intOf]
     ·have hb1:((0:Int) == ((db k:Nat):Int))=false:=by simp;omega
      have hb2:((0:Int) != ((db k:Nat):Int))=true:=by simp;omega
      have hr:=HG.out _ _ PA.out PB.out he;have HRR:=Lib.hid hr;clear hr he;go_wp2;go_ret;refine⟨?_,rfl⟩;rw[HRR.out]
      try simp
end Go.Proofs.YthnckclbeecnmaaGreat
