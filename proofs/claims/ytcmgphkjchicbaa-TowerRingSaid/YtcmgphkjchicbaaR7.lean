/- What word.AddMod comes to, called with any words. (Cut to what is reached, written closely: DivAny · Divs · Less · Minus · RDivNum · RDiv · Ring · Lives · Alive · Rings · DigS · RDM · RMods · PMods · PAdd.) -/
import Derived.Test.YtcmgphkjchicbaaR6
import Derived.Test.YtcmgphkjchicbaaR1
import Derived.Test.YtcmgphkjchicbaaR4
import Derived.Test.YtcmgphkjchicbaaR3
import Derived.BigRegion
set_option linter.all false
set_option maxRecDepth 100000
set_option maxHeartbeats 8000000
namespace Go.Proofs.Ytcmgphkjchicbaa
open Go.RowKit
def pd(x j:Nat):Nat:=x / 18446744073709551616^j%18446744073709551616
theorem pd_lt(x j:Nat):pd x j<18446744073709551616:=Nat.mod_lt _ (by omega)
theorem val_pd(x:Nat):∀ n,val (pd x) n=x%18446744073709551616^n
 | 0=>by simp[val,Nat.mod_one]
 | n+1=>by rw[val,val_pd x n,Nat.pow_succ,Nat.mod_mul];rfl
theorem val_one(f:Nat->Nat):val f 1=f 0:=by simp[val]
theorem pd_val{f:Nat->Nat}{n:Nat}(h:∀ j,j<n->f j<18446744073709551616)(j:Nat)(hj:j<n):pd (val f n) j=f j:=by
 obtain⟨e,rfl⟩:∃ e,n=j+(1+e):=⟨n - j - 1,by omega⟩
 have h1:=val_lt (f:=f) (n:=j) (fun i hi=>h i (by omega));have h2:=h j (by omega);unfold pd;rw[val_split,val_split (fun i=>f (j+i)) 1 e,val_one,Nat.add_comm,Nat.mul_add_div (Nat.pow_pos (by omega)),Nat.div_eq_of_lt h1,Nat.pow_one];simp only[Nat.add_zero];omega
theorem pd_top{x n:Nat}(h:x<18446744073709551616^n):pd x n=0:=by unfold pd;rw[Nat.div_eq_of_lt h]
theorem wv_row(x:Nat):wv x=.agg #[.int .u64 (pd x 0:Nat),.int .u64 (pd x 1:Nat),.int .u64 (pd x 2:Nat),.int .u64 (pd x 3:Nat)]:=by
 unfold wv pd;simp only[Nat.pow_zero,Nat.div_one,Nat.pow_one,show 18446744073709551616^2=340282366920938463463374607431768211456 by rfl,show 18446744073709551616^3=6277101735386680763835789423207666416102355444464034512896 by rfl]
theorem dv_row(x:Nat):dv x=.agg #[.int .u64 (pd x 0:Nat),.int .u64 (pd x 1:Nat),.int .u64 (pd x 2:Nat),.int .u64 (pd x 3:Nat),.int .u64 (pd x 4:Nat),.int .u64 (pd x 5:Nat),.int .u64 (pd x 6:Nat),.int .u64 (pd x 7:Nat)]:=by
 unfold dv pd;simp only[Nat.pow_zero,Nat.div_one,Nat.pow_one,show 18446744073709551616^2=340282366920938463463374607431768211456 by rfl,show 18446744073709551616^3=6277101735386680763835789423207666416102355444464034512896 by rfl,show 18446744073709551616^4=2^256 by rfl,show 18446744073709551616^5=2135987035920910082395021706169552114602704522356652769947041607822219725780640550022962086936576 by rfl,show 18446744073709551616^6=39402006196394479212279040100143613805079739270465446667948293404245721771497210611414266254884915640806627990306816 by rfl,show 18446744073709551616^7=726838724295606890549323807888004534353641360687318060281490199180639288113397923326191050713763565560762521606266177933534601628614656 by rfl]
theorem raise_num{A s t:Nat}(h:s+t=64)(j:Nat):pd A (j+1)*2^s%18446744073709551616+pd A j / 2^t=pd (A*2^s) (j+1):=by
 have hD:=pow_split h;have hc:=cmb_lt (p:=pd A (j+1)) (q:=pd A j) (pd_lt A j) h;have hS:=Nat.two_pow_pos s;have hT:=Nat.two_pow_pos t;have e1:A*2^s / 18446744073709551616^(j+1)=A / 18446744073709551616^j / 2^t:=by
  rw[Nat.pow_succ,<- hD,Nat.mul_comm (2^s),<- Nat.mul_assoc,Nat.mul_div_mul_right _ _ hS,Nat.div_div_eq_div_mul]
 have e2:A / 18446744073709551616^(j+1)=A / 18446744073709551616^j / 18446744073709551616:=by rw[Nat.pow_succ,Nat.div_div_eq_div_mul]
 unfold pd at hc |-
 rw[e2,Nat.mod_mul_mod]at hc;rw[e1,e2,Nat.mod_mul_mod];generalize A / 18446744073709551616^j=Y at *;have e3:Y / 2^t=Y / 18446744073709551616*2^s+Y%18446744073709551616 / 2^t:=by
  have h1:=Nat.div_add_mod Y 18446744073709551616;have h2:Y / 2^t=(18446744073709551616*(Y / 18446744073709551616)+Y%18446744073709551616) / 2^t:=by rw[h1]
  rw[h2];generalize Y%18446744073709551616=y;generalize Y / 18446744073709551616=Z;rw[<- hD,Nat.mul_comm (2^s),Nat.mul_assoc,Nat.mul_add_div hT,Nat.mul_comm]
 rw[e3,Nat.add_mod,Nat.mod_eq_of_lt (a:=Y%18446744073709551616 / 2^t) (Nat.lt_of_le_of_lt (Nat.div_le_self _ _) (Nat.mod_lt _ (by omega)))];exact(Nat.mod_eq_of_lt hc).symm
theorem raise_low(A s:Nat):pd A 0*2^s%18446744073709551616=pd (A*2^s) 0:=by
 unfold pd;rw[Nat.pow_zero,Nat.div_one,Nat.div_one,Nat.mod_mul_mod]
theorem raise_any(A s:Nat)(hs:s<64)(hA:A<18446744073709551616^8)(w:World):Calls Try.prog 98 #[.agg #[.int .u64 (pd A 0:Nat),.int .u64 (pd A 1:Nat),.int .u64 (pd A 2:Nat),.int .u64 (pd A 3:Nat),.int .u64 (pd A 4:Nat),.int .u64 (pd A 5:Nat),.int .u64 (pd A 6:Nat),.int .u64 (pd A 7:Nat)],.int .i64 (s:Nat)] w fun e w'=>e=.returned (.agg #[.int .u64 (pd (A*2^s) 0:Nat),.int .u64 (pd (A*2^s) 1:Nat),.int .u64 (pd (A*2^s) 2:Nat),.int .u64 (pd (A*2^s) 3:Nat),.int .u64 (pd (A*2^s) 4:Nat),.int .u64 (pd (A*2^s) 5:Nat),.int .u64 (pd (A*2^s) 6:Nat),.int .u64 (pd (A*2^s) 7:Nat),.int .u64 (pd (A*2^s) 8:Nat)])/\Below w.heap.size w w':=by
 obtain⟨t,ht⟩:∃ t,s+t=64:=⟨64 - s,by omega⟩
 have h:=raise_walk (pd A 0) (pd A 1) (pd A 2) (pd A 3) (pd A 4) (pd A 5) (pd A 6) (pd A 7) s t (by omega) (by omega) (by omega) w;have e:∀ j,bits .or .u64 ((pd A j:Int) / 2^t) (IntKind.u64.wrap ((pd A (j+1):Int)*2^s))=((pd (A*2^s) (j+1):Nat):Int):=fun j=>by
  rw[cmb_down (p:=pd A j) (q:=pd A (j+1)) (s:=t) (t:=s) (pd_lt _ _) (by omega),Nat.add_comm,raise_num ht]
 have e0:bits .or .u64 0 (IntKind.u64.wrap ((pd A 0:Int)*2^s))=((pd (A*2^s) 0:Nat):Int):=by
  have:=cmb_down (p:=0) (q:=pd A 0) (s:=t) (t:=s) (by omega) (by omega);rw[Nat.zero_div,Nat.zero_add,raise_low]at this;have h0:(((0:Nat):Int) / 2^t)=0:=by simp
  rwa [h0]at this
 have e8:(pd A 7:Int) / 2^t=((pd (A*2^s) 8:Nat):Int):=by
  rw[<- raise_num ht 7,pd_top hA,Nat.zero_mul,Nat.zero_mod,Nat.zero_add];simp
 rw[e0,e 0,e 1,e 2,e 3,e 4,e 5,e 6,e8]at h;exact h
theorem divide_zero(A:Nat)(w:World):Calls Try.prog 76 #[.agg #[.int .u64 (pd A 0:Nat),.int .u64 (pd A 1:Nat),.int .u64 (pd A 2:Nat),.int .u64 (pd A 3:Nat),.int .u64 (pd A 4:Nat),.int .u64 (pd A 5:Nat),.int .u64 (pd A 6:Nat),.int .u64 (pd A 7:Nat)],.agg #[.int .u64 0,.int .u64 0,.int .u64 0,.int .u64 0]] w fun e w'=>e=.returned (.tuple #[.agg #[.int .u64 0,.int .u64 0,.int .u64 0,.int .u64 0,.int .u64 0,.int .u64 0,.int .u64 0,.int .u64 0],.agg #[.int .u64 0,.int .u64 0,.int .u64 0,.int .u64 0]])/\Below w.heap.size w w':=by
 have hp:∀(B:Nat) (w:World),w.cell? ⟨B,0,none⟩=some (.int .u64 0)->w.cell? ⟨B,1,none⟩=some (.int .u64 0)->w.cell? ⟨B,2,none⟩=some (.int .u64 0)->w.cell? ⟨B,3,none⟩=some (.int .u64 0)->Calls Try.prog 95 #[.slice (some ⟨B,0,none⟩) 4 4] w fun e w'=>e=.returned (.int .i64 0)/\w=w':=fun B w c0 c1 c2 c3 =>
  parts_any B 0 4 4 (fun _=>0) (by omega) w (upto4 (P:=fun j=>w.cell? ⟨B,0+j,none⟩=some (.int .u64 0)) c0 c1 c2 c3)
 go_enter Try.func76,Try.ntmps76
 go_wp2_with fail
 refine(hp (w.heap.size+1) _ (by go_cell) (by go_cell) (by go_cell) (by go_cell)).mono ?_;rintro e w' ⟨rfl,rfl⟩;go_wp2
 go_returns
 exact⟨rfl,by go_grown⟩
theorem top_part{B n:Nat}(hB:B≠0)(h4:B<18446744073709551616^4)(hn:n=np (pd B) 4):∃ k,k<=3/\n=k+1/\pd B k≠0/\B<18446744073709551616^(k+1)/\B=val (pd B) (k+1):=by
 obtain⟨h1,h2,h3⟩:=np_spec (pd B) 4;have hv:val (pd B) 4=B:=by rw[val_pd,Nat.mod_eq_of_lt h4]
 have hn0:0<np (pd B) 4:=by
  rcases Nat.eq_zero_or_pos (np (pd B) 4)with h | h
  ·rw[h]at h2
   have:=val_zero (f:=pd B) 4 (fun j hj=>h2 j (by omega) hj);omega
  ·exact h
 refine⟨np (pd B) 4 - 1,by omega,by omega,h3 hn0,?_,?_⟩
 ·have:=val_lt (f:=pd B) (n:=np (pd B) 4) (fun j _=>pd_lt _ _)
  rw[<- val_top h1 h2,hv]at this;rwa [show np (pd B) 4 - 1+1=np (pd B) 4 by omega]
 ·rw[show np (pd B) 4 - 1+1=np (pd B) 4 by omega,<- val_top h1 h2,hv]
theorem raised{B k s:Nat}(hb:pd B k≠0)(hB:B<18446744073709551616^(k+1))(hs:s=64 - Lib.bitLen (pd B k)):s<64/\s+Lib.bitLen (pd B k)=64/\B*2^s<18446744073709551616^(k+1)/\9223372036854775808<=pd (B*2^s) k:=by
 obtain⟨h1,h2,h3⟩:=bitLen_bounds (pd B k) (pd_lt _ _) hb;have h4:Lib.bitLen (pd B k)<=64:=by
  rcases Nat.lt_or_ge 64 (Lib.bitLen (pd B k))with h | h
  ·have:=Nat.pow_le_pow_right (n:=2) (by omega) (show 64<=Lib.bitLen (pd B k) - 1 by omega)
   have:=pd_lt B k;omega
  ·exact h
 have hk:pd B k=B / 18446744073709551616^k:=by
  unfold pd;rw[Nat.mod_eq_of_lt];rw[Nat.div_lt_iff_lt_mul (Nat.pow_pos (by omega)),Nat.mul_comm,<- Nat.pow_succ];exact hB
 have h5:B<18446744073709551616^k*2^Lib.bitLen (pd B k):=by
  have:=Nat.div_add_mod B (18446744073709551616^k);have hm:=Nat.mod_lt B (Nat.pow_pos (n:=k) (show 0<18446744073709551616 by omega));rw[<- hk]at this;have h6:18446744073709551616^k*(pd B k+1)<=18446744073709551616^k*2^Lib.bitLen (pd B k):=Nat.mul_le_mul_left _ h3;rw[Nat.mul_add,Nat.mul_one]at h6;generalize 18446744073709551616^k*2^Lib.bitLen (pd B k)=u at *;generalize 18446744073709551616^k*pd B k=v at *;generalize 18446744073709551616^k=y at *;omega
 have h6:18446744073709551616^k*2^(Lib.bitLen (pd B k) - 1)<=B:=by
  have:=Nat.div_mul_le_self B (18446744073709551616^k);rw[<- hk]at this;refine Nat.le_trans ?_ this;rw[Nat.mul_comm];exact Nat.mul_le_mul_right _ h2
 have e64:s+Lib.bitLen (pd B k)=64:=by omega
 have hp:=Nat.two_pow_pos s;have h7:B*2^s<18446744073709551616^(k+1):=by
  have:=Nat.mul_lt_mul_of_pos_right h5 hp;rw[Nat.mul_assoc,<- Nat.pow_add,show Lib.bitLen (pd B k)+s=64 by omega,show(2:Nat)^64=18446744073709551616 by rfl,<- Nat.pow_succ]at this;exact this
 refine⟨by omega,e64,h7,?_⟩;have h8:18446744073709551616^k*9223372036854775808<=B*2^s:=by
  have:=Nat.mul_le_mul_right (2^s) h6;rw[Nat.mul_assoc,<- Nat.pow_add,show Lib.bitLen (pd B k) - 1+s=63 by omega,show(2:Nat)^63=9223372036854775808 by rfl]at this;exact this
 unfold pd;rw[Nat.mod_eq_of_lt (by rw[Nat.div_lt_iff_lt_mul (Nat.pow_pos (by omega)),Nat.mul_comm 18446744073709551616,<- Nat.pow_succ];exact h7),Nat.le_div_iff_mul_le (Nat.pow_pos (by omega)),Nat.mul_comm];exact h8
theorem divide_row(A B:Nat)(hA:A<18446744073709551616^8)(hB:B≠0)(h4:B<18446744073709551616^4)(w:World):Calls Try.prog 76 #[.agg #[.int .u64 (pd A 0:Nat),.int .u64 (pd A 1:Nat),.int .u64 (pd A 2:Nat),.int .u64 (pd A 3:Nat),.int .u64 (pd A 4:Nat),.int .u64 (pd A 5:Nat),.int .u64 (pd A 6:Nat),.int .u64 (pd A 7:Nat)],.agg #[.int .u64 (pd B 0:Nat),.int .u64 (pd B 1:Nat),.int .u64 (pd B 2:Nat),.int .u64 (pd B 3:Nat)]] w fun e w'=>e=.returned (.tuple #[dv (A / B),wv (A%B)])/\Below w.heap.size w w':=by
 obtain⟨n,hn⟩:∃ n,n=np (pd B) 4:=⟨_,rfl⟩
 obtain⟨m,hm⟩:∃ m,m=np (pd A) 8:=⟨_,rfl⟩
 obtain⟨k,hk,hnk,hbk,hBk,hBv⟩:=top_part hB h4 hn;obtain⟨s,hs⟩:∃ s,s=64 - Lib.bitLen (pd B k):=⟨_,rfl⟩
 obtain⟨s1,s2,s3,s4⟩:=raised hbk hBk hs;obtain⟨m1,m2,-⟩:=np_spec (pd A) 8;rw[<- hm]at m1 m2;have vA:val (pd A) 8=A:=by rw[val_pd,Nat.mod_eq_of_lt hA]
 have vA2:val (pd A) m=A:=by rw[<- val_top m1 m2,vA]
 have k4:18446744073709551616^(k+1)<=18446744073709551616^4:=Nat.pow_le_pow_right (by omega) (by omega);have s5:B*2^s<18446744073709551616^4:=Nat.lt_of_lt_of_le s3 k4;have vD:val (pd (B*2^s)) n=B*2^s:=by rw[hnk,val_pd,Nat.mod_eq_of_lt s3]
 have hA9:A*2^s<18446744073709551616^9:=by
  have h1:2^s<=2^64:=Nat.pow_le_pow_right (by omega) (by omega);have h2:A*2^s<=A*18446744073709551616:=Nat.mul_le_mul_left _ h1;have h3:A*18446744073709551616<18446744073709551616^8*18446744073709551616:=Nat.mul_lt_mul_of_pos_right hA (by omega);rw[<- Nat.pow_succ]at h3;exact Nat.lt_of_le_of_lt h2 h3
 have vR:val (pd (A*2^s)) 9=A*2^s:=by rw[val_pd,Nat.mod_eq_of_lt hA9]
 have hP4:18446744073709551616^4=2^256:=by rfl
 have hw:=divide_walk (pd A) (pd B) (pd (B*2^s)) (pd (A*2^s)) (fun cur=>pd (val cur 4 / 2^s)) n k m s hk hnk m1 s1 w
  (fun B' w c0 c1 c2 c3=>by
   have:=parts_any B' 0 4 4 (pd B) (by omega) w (upto4 (P:=fun j=>w.cell? ⟨B',0+j,none⟩=some (.int .u64 (pd B j:Nat))) c0 c1 c2 c3);rw[<- hn]at this;exact this)
  (fun w=>(Try.bits_LeadingZeros64 (pd B k:Nat) w (by omega) (by have:=pd_lt B k;omega)).mono fun e w' ⟨he,hw⟩=>⟨by rw[he,Int.toNat_natCast,show(64:Int) - (Lib.bitLen (pd B k):Int)=((s:Nat):Int) by omega],hw.symm⟩)
  (fun w=>by
   have h:=shl_any s B w;rw[show min (s%2^256) 256=s by omega,wv_one (x:=s) (by omega),wv_row B,wv_row (B*2^s)]at h;exact h)
  (fun w=>raise_any A s s1 hA w)
  (fun B' w c0 c1 c2 c3 c4 c5 c6 c7=>by
   have:=parts_any B' 0 8 8 (pd A) (by omega) w (upto8 (P:=fun j=>w.cell? ⟨B',0+j,none⟩=some (.int .u64 (pd A j:Nat))) c0 c1 c2 c3 c4 c5 c6 c7);rw[<- hm]at this;exact this)
  (fun cur hc w=>by
   have hv:=val_lt (f:=cur) (n:=4) (fun j hj=>hc j (by omega));have h:=shr_any s (val cur 4) w;rw[show min (s%2^256) 256=s by omega,wv_one (x:=s) (by omega),wv_row (val cur 4),wv_row (_ / _),Nat.mod_eq_of_lt (show val cur 4<2^256 by rw[<- hP4];exact hv)]at h;rw[pd_val (n:=4) (fun j hj=>hc j (by omega)) 0 (by omega),pd_val (n:=4) (fun j hj=>hc j (by omega)) 1 (by omega),pd_val (n:=4) (fun j hj=>hc j (by omega)) 2 (by omega),pd_val (n:=4) (fun j hj=>hc j (by omega)) 3 (by omega)]at h;exact h)
  (fun j _=>pd_lt _ _) (fun j _=>pd_lt _ _) s4
  (by
   have:=div_start (a:=pd A) (b:=pd B) (m:=m) (n:=n) (s:=s) (c:=m+1 - n) (fun j _=>pd_lt _ _) (by rw[hnk];exact hbk) (by omega) (by omega);rw[vA2,hnk,<- hBv,<- hnk]at this;rw[vR,vD];exact this)
 refine hw.mono ?_;rintro e w' ⟨cur,q,rfl,hc,hq,h1,h2,hb⟩;rw[vD]at h1 h2;rw[vR]at h1;obtain⟨h5,h6⟩:=div_end rfl h1 h2;have h7:val cur 9=val cur 4:=val_top (by omega) (fun j h8 h9=>val_ztop (Nat.lt_trans h2 s5) j h8 h9);refine⟨?_,hb⟩;rw[wv_row,<- h6,h7,dv_row,<- h5];rw[pd_val hq 0 (by omega),pd_val hq 1 (by omega),pd_val hq 2 (by omega),pd_val hq 3 (by omega),pd_val hq 4 (by omega),pd_val hq 5 (by omega),pd_val hq 6 (by omega),pd_val hq 7 (by omega)]
-- WHAT divide COMES TO.
theorem divide_any(A B:Nat)(hA:A<13407807929942597099574024998205846127479365820592393377723561443721764030073546976801874298166903427690031858186486050853753882811946569946433649006084096)(hB:B≠0)(h4:B<2^256)(w:World):Calls Try.prog 76 #[dv A,wv B] w fun e w'=>e=.returned (.tuple #[dv (A / B),wv (A%B)])/\Below w.heap.size w w':=by
 rw[dv_row A,wv_row B];exact divide_row A B (by rw[show 18446744073709551616^8=13407807929942597099574024998205846127479365820592393377723561443721764030073546976801874298166903427690031858186486050853753882811946569946433649006084096 by rfl];exact hA) hB (by rw[show 18446744073709551616^4=2^256 by rfl];exact h4) w
theorem divide_none(A:Nat)(w:World):Calls Try.prog 76 #[dv A,wv 0] w fun e w'=>e=.returned (.tuple #[dv 0,wv 0])/\Below w.heap.size w w':=by
 rw[dv_row A];exact divide_zero A w
open Go.RowKit
theorem arr_lit(t:Array Value):t=((List.range t.size).map fun i=>t.getD i undef).toArray:=by
 apply Array.ext
 ·simp
 ·intro i h1 h2
  simp[h1]
structure CR (w:World) (x y:Nat) (wx:World):Prop where
 old:Below w.heap.size w wx
 r0:wx.heap[w.heap.size]?=some (.cells (pw x) 24 (0,0))
 r1:wx.heap[w.heap.size+1]?=some (.cells (pw y) 24 (0,0))
 r2:wx.heap[w.heap.size+1+1]?=some (.cells #[.int .u64 0,.int .u64 0,.int .u64 0,.int .u64 0] 24 (0,0))
theorem CR.high{w wx:World}{x y:Nat}(h:CR w x y wx):w.heap.size+1+1+1<=wx.heap.size:=(Array.getElem?_eq_some_iff.1 h.r2).1
theorem CR.below{w wx w':World}{x y:Nat}(h:CR w x y wx)(hb:Below wx.heap.size wx w'):CR w x y w':=by
 have l:=h.high;exact⟨h.old.trans (hb.mono h.old.size),(hb.block _ (by omega)).trans h.r0,(hb.block _ (by omega)).trans h.r1,(hb.block _ (by omega)).trans h.r2⟩
theorem CR.rowed{w wx:World}{x y g:Nat}{cs:Array Value}(h:CR w x y wx)(hg:w.heap.size+1+1+1<=g):CR w x y (wx.setRow g cs) :=
 ⟨below_setRow h.old (by omega) _,(setRow_other _ _ _ _ (by omega)).trans h.r0,(setRow_other _ _ _ _ (by omega)).trans h.r1,(setRow_other _ _ _ _ (by omega)).trans h.r2⟩
def dw(x:Nat):Array Value:=match dv x with | .agg a=>a | _=>#[]
theorem dv_dw(x:Nat):dv x=.agg (dw x):=rfl
theorem dw_one(x:Nat):(dw x).all (·.oneCell')=true:=by simp[dw,dv,Value.oneCell']
def FQ(q r:Nat)(T:TypeId):Array Value:=if T=85 then dw q else pw r
theorem infoWide:(Try.prog.info? 85).map (·.size)=some 8:=by kernel_rfl
theorem store_dw{g q r:Nat}{w:World}{cs:Array Value}(hg:w.heap[g]?=some (.cells cs 85 (0,0)))(hs:cs.size=(FQ q r 85).size):(Instr.storeAt 85 (.pointer (some ⟨g,0,none⟩)) (dv q)).run Try.prog w=.ok () (w.setRow g (FQ q r 85)):=by
 rw[dv_dw];show _=Result.ok () (w.setRow g (dw q));simp only[Instr.storeAt,Instr.sureAddr,Sem.run_bind,Sem.run_pure,Result.andThen_ok,run_storeVar_row w g 85 85 cs (dw q) hg infoWide hs (dw_one q)]
theorem store_qw{g q r:Nat}{w:World}{cs:Array Value}(hg:w.heap[g]?=some (.cells cs 24 (0,0)))(hs:cs.size=(FQ q r 24).size):(Instr.storeAt 24 (.pointer (some ⟨g,0,none⟩)) (wv r)).run Try.prog w=.ok () (w.setRow g (FQ q r 24)):=store_pw hs hg
theorem widen_any(x:Nat)(w:World):Calls Try.prog 77 #[wv x,.slice none 0 0] w fun e w'=>e=.returned (dv (x%2^256))/\Below w.heap.size w w':=by
 obtain⟨a0,a1,a2,a3,u0,u1,u2,u3,ea,na⟩:=wv_parts x;have h:=widen_nil a0 a1 a2 a3 w;rw[ea,<- na];have hn:dv (n4 a0 a1 a2 a3)=.agg #[.int .u64 a0,.int .u64 a1,.int .u64 a2,.int .u64 a3,.int .u64 0,.int .u64 0,.int .u64 0,.int .u64 0]:=by
  have:=dv_n8 (a4:=0) (a5:=0) (a6:=0) (a7:=0) u0 u1 u2 u3 (by omega) (by omega) (by omega) (by omega);rw[show n8 a0 a1 a2 a3 0 0 0 0=n4 a0 a1 a2 a3 by unfold n8 n4;omega]at this;exact this
 rw[hn];exact h
def quoV(a y:Nat):Nat:=if y%2^256=0 then 0 else a / (y%2^256)
def remV(a y:Nat):Nat:=if y%2^256=0 then 0 else a%(y%2^256)
theorem divide_all(a y:Nat)(ha:a<13407807929942597099574024998205846127479365820592393377723561443721764030073546976801874298166903427690031858186486050853753882811946569946433649006084096)(w:World):Calls Try.prog 76 #[dv a,wv y] w fun e w'=>e=.returned (.tuple #[dv (quoV a y),wv (remV a y)])/\Below w.heap.size w w':=by
 rw[show wv y=wv (y%2^256) from wv_congr (Nat.mod_mod _ _).symm];unfold quoV remV;by_cases h:y%2^256=0
 ·rw[if_pos h,if_pos h,h];exact divide_none a w
 ·rw[if_neg h,if_neg h];exact divide_any a _ ha h (Nat.mod_lt _ (by omega)) w
-- WHAT word.Mod COMES TO.
theorem mod_any(x y:Nat)(w:World):Calls Try.prog 41 #[wv x,wv y] w fun e w'=>e=.returned (wv (remV (x%2^256) y))/\Below w.heap.size w w':=by
 rw[wv_pw x,wv_pw y];go_enter Try.func41,Try.ntmps41
 go_wp2_with fail
 refine region_tie (CR w x y) (fun i s wx=>match i with | 0=>s 8=wv x | 1=>s 9=dv (x%2^256) | 2=>s 10=wv y | 3=>s 11=.tuple #[dv (quoV (x%2^256) y),wv (remV (x%2^256) y)] | 4=>s 7=.tuple #[dv (quoV (x%2^256) y),wv (remV (x%2^256) y)] | 5=>s 12=dv (quoV (x%2^256) y) | 6=>s 13=wv (remV (x%2^256) y) | 7=>∃ D,s 5=.pointer (some ⟨D,0,none⟩)/\w.heap.size+1+1+1<=D/\∃ cs,wx.heap[D]?=some (.cells cs 85 (0,0))/\cs.size=8 | 8=>∃ D,s 6=.pointer (some ⟨D,0,none⟩)/\w.heap.size+1+1+1<=D/\∃ cs,wx.heap[D]?=some (.cells cs 24 (0,0))/\cs.size=4 | 9=>∃ D,s 5=.pointer (some ⟨D,0,none⟩)/\w.heap.size+1+1+1<=D/\wx.heap[D]?=some (.cells (FQ (quoV (x%2^256) y) (remV (x%2^256) y) 85) 85 (0,0)) | 10=>∃ D,s 6=.pointer (some ⟨D,0,none⟩)/\w.heap.size+1+1+1<=D/\wx.heap[D]?=some (.cells (FQ (quoV (x%2^256) y) (remV (x%2^256) y) 24) 24 (0,0)) | _=>True) (RT (w.heap.size+1+1+1) (FQ (quoV (x%2^256) y) (remV (x%2^256) y))) (fun i=>match i with | 0=>[8] | 1=>[9] | 2=>[10] | 3=>[11] | 4=>[7] | 5=>[12] | 6=>[13] | 7=>[5] | 8=>[6] | 9=>[5] | 10=>[6] | _=>[]) (fun i=>i) (by kernel_rfl) (by kernel_rfl) ⟨by go_grown,(heap3 _ _ _ _).1,(heap3 _ _ _ _).2.1,(heap3 _ _ _ _).2.2⟩ ?_ ?_ ?_ ?_
 ·intro i s s' wx he hp
  match i,he,hp with
  | 0,he,hp=>exact(he 8 (by simp)).symm.trans hp
  | 1,he,hp=>exact(he 9 (by simp)).symm.trans hp
  | 2,he,hp=>exact(he 10 (by simp)).symm.trans hp
  | 3,he,hp=>exact(he 11 (by simp)).symm.trans hp
  | 4,he,hp=>exact(he 7 (by simp)).symm.trans hp
  | 5,he,hp=>exact(he 12 (by simp)).symm.trans hp
  | 6,he,hp=>exact(he 13 (by simp)).symm.trans hp
  | 7,he,hp=>obtain⟨D,h1,h2⟩:=hp;exact⟨D,(he 5 (by simp)).symm.trans h1,h2⟩
  | 8,he,hp=>obtain⟨D,h1,h2⟩:=hp;exact⟨D,(he 6 (by simp)).symm.trans h1,h2⟩
  | 9,he,hp=>obtain⟨D,h1,h2⟩:=hp;exact⟨D,(he 5 (by simp)).symm.trans h1,h2⟩
  | 10,he,hp=>obtain⟨D,h1,h2⟩:=hp;exact⟨D,(he 6 (by simp)).symm.trans h1,h2⟩
  | _+11,_,_=>trivial
 ·intro i s wa wb hR hp
  match i,hp with
  | 0,hp=>exact hp
  | 1,hp=>exact hp
  | 2,hp=>exact hp
  | 3,hp=>exact hp
  | 4,hp=>exact hp
  | 5,hp=>exact hp
  | 6,hp=>exact hp
  | 7,hp=>obtain⟨D,h1,h2,cs,h3,h4⟩:=hp;obtain⟨cs',h5,h6⟩:=hR.shape _ _ _ _ h3;exact⟨D,h1,h2,cs',h5,h6.trans h4⟩
  | 8,hp=>obtain⟨D,h1,h2,cs,h3,h4⟩:=hp;obtain⟨cs',h5,h6⟩:=hR.shape _ _ _ _ h3;exact⟨D,h1,h2,cs',h5,h6.trans h4⟩
  | 9,hp=>obtain⟨D,h1,h2,h3⟩:=hp;exact⟨D,h1,h2,hR.keep _ _ _ h3⟩
  | 10,hp=>obtain⟨D,h1,h2,h3⟩:=hp;exact⟨D,h1,h2,hR.keep _ _ _ h3⟩
  | _+11,_=>trivial
 ·refine⟨?_,?_,?_,?_,?_,?_,?_,?_,?_,?_,?_,trivial⟩
  ·intro a wx hC hsz hK
   have h0:a.tmps.getD 2 undef=.pointer (some ⟨w.heap.size,0,none⟩):=hK.1 2 (by kernel_rfl);exact tt_load 24 (.tmp 2) (.pointer (some ⟨w.heap.size,0,none⟩)) (wv x) rfl (by kernel_rfl) h0 (load_pw hC.r0) hC (slots_put _ _ _ (by rw[hsz];exact of_decide_eq_true (by kernel_rfl))) (RT.refl _ _ _)
  ·intro a wx hC hsz hK
   have h0:a.tmps.getD 8 undef=wv x:=hK.2 ⟨0,.data⟩ (by simp) rfl _ rfl;refine tt_call 77 #[a.tmps.getD 8 undef,.slice none 0 0] (by kernel_rfl) (by kernel_rfl) ?_;rw[h0];exact((fun wx=>widen_any x wx) wx).mono fun e w' hh=>⟨_,hh.1,hC.below hh.2,slots_put _ _ _ (by rw[hsz];exact of_decide_eq_true (by kernel_rfl)),RT.of hC.high hh.2⟩
  ·intro a wx hC hsz hK
   have h0:a.tmps.getD 3 undef=.pointer (some ⟨w.heap.size+1,0,none⟩):=hK.1 3 (by kernel_rfl);exact tt_load 24 (.tmp 3) (.pointer (some ⟨w.heap.size+1,0,none⟩)) (wv y) rfl (by kernel_rfl) h0 (load_pw hC.r1) hC (slots_put _ _ _ (by rw[hsz];exact of_decide_eq_true (by kernel_rfl))) (RT.refl _ _ _)
  ·intro a wx hC hsz hK
   have h0:a.tmps.getD 9 undef=dv (x%2^256):=hK.2 ⟨1,.data⟩ (by simp) rfl _ rfl;have h1:a.tmps.getD 10 undef=wv y:=hK.2 ⟨2,.data⟩ (by simp) rfl _ rfl;refine tt_call 76 #[a.tmps.getD 9 undef,a.tmps.getD 10 undef] (by kernel_rfl) (by kernel_rfl) ?_;rw[h0,h1];exact((fun wx=>divide_all (x%2^256) y (by omega) wx) wx).mono fun e w' hh=>⟨_,hh.1,hC.below hh.2,slots_put _ _ _ (by rw[hsz];exact of_decide_eq_true (by kernel_rfl)),RT.of hC.high hh.2⟩
  ·intro a wx hC hsz hK
   have h0:a.tmps.getD 11 undef=.tuple #[dv (quoV (x%2^256) y),wv (remV (x%2^256) y)]:=hK.2 ⟨3,.data⟩ (by simp) rfl _ rfl;exact tt_val (.tuple #[dv (quoV (x%2^256) y),wv (remV (x%2^256) y)]) (by kernel_rfl) (by rw[<- h0];kernel_rfl) hC (slots_put _ _ _ (by rw[hsz];exact of_decide_eq_true (by kernel_rfl))) (RT.refl _ _ _)
  ·intro a wx hC hsz hK
   have h0:a.tmps.getD 7 undef=.tuple #[dv (quoV (x%2^256) y),wv (remV (x%2^256) y)]:=hK.2 ⟨4,.data⟩ (by simp) rfl _ rfl;refine tt_v (Instr.extract (a.tmps.getD 7 undef) 0) (dv (quoV (x%2^256) y)) (by kernel_rfl) rfl ?_ hC (slots_put _ _ _ (by rw[hsz];exact of_decide_eq_true (by kernel_rfl))) (RT.refl _ _ _);rw[h0];kernel_rfl
  ·intro a wx hC hsz hK
   have h0:a.tmps.getD 7 undef=.tuple #[dv (quoV (x%2^256) y),wv (remV (x%2^256) y)]:=hK.2 ⟨4,.data⟩ (by simp) rfl _ rfl;refine tt_v (Instr.extract (a.tmps.getD 7 undef) 1) (wv (remV (x%2^256) y)) (by kernel_rfl) rfl ?_ hC (slots_put _ _ _ (by rw[hsz];exact of_decide_eq_true (by kernel_rfl))) (RT.refl _ _ _);rw[h0];kernel_rfl
  ·intro a wx hC hsz hK
   exact tt_new (.pointer (some ⟨wx.heap.size,0,none⟩)) (by kernel_rfl) (by kernel_rfl) (hC.below ((Below.refl _ _).alloc (Nat.le_refl _) _)) ⟨_,slots_put _ _ _ (by rw[hsz];exact of_decide_eq_true (by kernel_rfl)),hC.high,#[.int .u64 0,.int .u64 0,.int .u64 0,.int .u64 0,.int .u64 0,.int .u64 0,.int .u64 0,.int .u64 0],heap_alloc_new _ _,rfl⟩ (RT.of hC.high ((Below.refl _ _).alloc (Nat.le_refl _) _))
  ·intro a wx hC hsz hK
   exact tt_new (.pointer (some ⟨wx.heap.size,0,none⟩)) (by kernel_rfl) (by kernel_rfl) (hC.below ((Below.refl _ _).alloc (Nat.le_refl _) _)) ⟨_,slots_put _ _ _ (by rw[hsz];exact of_decide_eq_true (by kernel_rfl)),hC.high,#[.int .u64 0,.int .u64 0,.int .u64 0,.int .u64 0],heap_alloc_new _ _,rfl⟩ (RT.of hC.high ((Below.refl _ _).alloc (Nat.le_refl _) _))
  ·intro a wx hC hsz hK
   obtain⟨D,h1,h2,cs,h3,h4⟩:=hK.2 ⟨7,.data⟩ (by simp) rfl _ rfl;have h0:a.tmps.getD 12 undef=dv (quoV (x%2^256) y):=hK.2 ⟨5,.data⟩ (by simp) rfl _ rfl;exact tt_store (by kernel_rfl) rfl (run_store 85 (.tmp 5) (.tmp 12) _ _ rfl h1 h0 (store_dw h3 h4)) (hC.rowed h2) ⟨D,h1,h2,setRow_heap _ _ _ _ _ _ h3⟩ (RT.row h2 h3 h4)
  ·intro a wx hC hsz hK
   obtain⟨D,h1,h2,cs,h3,h4⟩:=hK.2 ⟨8,.data⟩ (by simp) rfl _ rfl;have h0:a.tmps.getD 13 undef=wv (remV (x%2^256) y):=hK.2 ⟨6,.data⟩ (by simp) rfl _ rfl;exact tt_store (by kernel_rfl) rfl (run_store 24 (.tmp 6) (.tmp 13) _ _ rfl h1 h0 (store_qw h3 h4)) (hC.rowed h2) ⟨D,h1,h2,setRow_heap _ _ _ _ _ _ h3⟩ (RT.row h2 h3 h4)
 ·intro f wx hC hf
  have s8:=hf 0 _ rfl;have s9:=hf 1 _ rfl;have s10:=hf 2 _ rfl;have s11:=hf 3 _ rfl;have s7:=hf 4 _ rfl;have s12:=hf 5 _ rfl;have s13:=hf 6 _ rfl;obtain⟨D5,s5,g5,r5⟩:=hf 9 _ rfl;obtain⟨D6,s6,g6,r6⟩:=hf 10 _ rfl;clear hf;generalize hA:putAll _ _ _=A at *;have hsz:A.tmps.size=15:=by rw[<- hA,putAll_size];rfl
  have t0:A.tmps.getD 0 undef=.agg (pw x):=by subst hA;kernel_rfl
  have t1:A.tmps.getD 1 undef=.agg (pw y):=by subst hA;kernel_rfl
  have t2:A.tmps.getD 2 undef=.pointer (some ⟨w.heap.size,0,none⟩):=by subst hA;kernel_rfl
  have t3:A.tmps.getD 3 undef=.pointer (some ⟨w.heap.size+1,0,none⟩):=by subst hA;kernel_rfl
  have t4:A.tmps.getD 4 undef=.pointer (some ⟨w.heap.size+1+1,0,none⟩):=by subst hA;kernel_rfl
  have t14:A.tmps.getD 14 undef=undef:=by subst hA;kernel_rfl
  have hd:A.defers=[]:=by subst hA;kernel_rfl
  clear hA;obtain⟨tm,df⟩:=A;simp only[slots]at *;have hL:=arr_lit tm;rw[hsz]at hL;simp only[List.range,List.range.loop,List.map]at hL;rw[t0,t1,t2,t3,t4,s5,s6,s7,s8,s9,s10,s11,s12,s13,t14]at hL;subst hL hd;clear t0 t1 t2 t3 t4 s5 s6 s7 s8 s9 s10 s11 s12 s13 t14 hsz;have hr6:wx.heap[D6]?=some (.cells (pw (remV (x%2^256) y)) 24 (0,0)):=r6;clear r5 r6
  go_wp2_with (first | (refine wpList_load_row rfl 24 _ rfl D6 rfl 24 (pw (remV (x%2^256) y)) (0,0) _ hr6 Try.underlying24 rfl infoWord ?_) | (refine wpList_store_row rfl 24 _ _ rfl (w.heap.size+1+1) (pw (remV (x%2^256) y)) rfl rfl 24 #[.int .u64 0,.int .u64 0,.int .u64 0,.int .u64 0] hC.r2 infoWord rfl (pw_one _) ?_))
  (try simp only[Exit.inBlock,Exit.then])
  exact bodyPost_ret (v:=.agg (pw (remV (x%2^256) y))) (results_cell_row (p:=4) rfl _ _ (w.heap.size+1+1) 24 _ (0,0) _ rfl (setRow_heap _ _ _ _ _ _ hC.r2) Try.underlying24 rfl infoWord) rfl ⟨rfl,below_setRow hC.old (by omega) _⟩
open Go.RowKit
theorem heap4(w:World)(A B C D:Obj):((((w.alloc A).alloc B).alloc C).alloc D).heap[w.heap.size]?=some A/\((((w.alloc A).alloc B).alloc C).alloc D).heap[w.heap.size+1]?=some B/\((((w.alloc A).alloc B).alloc C).alloc D).heap[w.heap.size+1+1]?=some C/\((((w.alloc A).alloc B).alloc C).alloc D).heap[w.heap.size+1+1+1]?=some D:=by
 obtain⟨h1,h2,h3⟩:=heap3 w A B C;exact⟨(heap_alloc_old _ _ (by first | (simp;done) | (simp;omega))).trans h1,(heap_alloc_old _ _ (by first | (simp;done) | (simp;omega))).trans h2,(heap_alloc_old _ _ (by first | (simp;done) | (simp;omega))).trans h3,by have:=heap_alloc_new (((w.alloc A).alloc B).alloc C) D;simpa using this⟩
open Go.RowKit
structure CT (w:World) (x y z:Nat) (wx:World):Prop where
 old:Below w.heap.size w wx
 r0:wx.heap[w.heap.size]?=some (.cells (pw x) 24 (0,0))
 r1:wx.heap[w.heap.size+1]?=some (.cells (pw y) 24 (0,0))
 r2:wx.heap[w.heap.size+1+1]?=some (.cells (pw z) 24 (0,0))
 r3:wx.heap[w.heap.size+1+1+1]?=some (.cells #[.int .u64 0,.int .u64 0,.int .u64 0,.int .u64 0] 24 (0,0))
theorem CT.below{w wx w':World}{x y z:Nat}(h:CT w x y z wx)(hb:Below wx.heap.size wx w'):CT w x y z w' :=
 ⟨h.old.trans (hb.mono h.old.size),(hb.block _ (Array.getElem?_eq_some_iff.1 h.r0).1).trans h.r0,(hb.block _ (Array.getElem?_eq_some_iff.1 h.r1).1).trans h.r1,(hb.block _ (Array.getElem?_eq_some_iff.1 h.r2).1).trans h.r2,(hb.block _ (Array.getElem?_eq_some_iff.1 h.r3).1).trans h.r3⟩
open Go.RowKit
theorem widen_one(a0 a1 a2 a3 c b:Nat)(w:World)(hb:b<w.heap.size)(hc:w.cell? ⟨b,0,none⟩=some (.int .u64 c)) :
  Calls Try.prog 77 #[.agg #[.int .u64 a0,.int .u64 a1,.int .u64 a2,.int .u64 a3],.slice (some ⟨b,0,none⟩) 1 1] w fun e w' =>
   e=.returned (.agg #[.int .u64 a0,.int .u64 a1,.int .u64 a2,.int .u64 a3,.int .u64 c,.int .u64 0,.int .u64 0,.int .u64 0])/\Below w.heap.size w w':=by
 have hcp:=copy4 ((((w.alloc (.cells #[.int .u64 a0,.int .u64 a1,.int .u64 a2,.int .u64 a3] 24)).alloc (.cells #[.int .u64 0,.int .u64 0,.int .u64 0,.int .u64 0,.int .u64 0,.int .u64 0,.int .u64 0,.int .u64 0] 85)).alloc (.cells #[.int .u64 0,.int .u64 0,.int .u64 0,.int .u64 0,.int .u64 0,.int .u64 0,.int .u64 0,.int .u64 0] 85)).drew) (w.heap.size+1+1) w.heap.size a0 a1 a2 a3
  (by go_cell) (by go_cell) (by go_cell) (by go_cell) (by go_simp) (by go_simp) (by go_simp) (by go_simp) (by go_cell) (by go_cell) (by go_cell) (by go_cell)
 have hcn:=run_copy_cells (P:=Try.prog) ((((w.alloc (.cells #[.int .u64 a0,.int .u64 a1,.int .u64 a2,.int .u64 a3] 24)).alloc (.cells #[.int .u64 0,.int .u64 0,.int .u64 0,.int .u64 0,.int .u64 0,.int .u64 0,.int .u64 0,.int .u64 0] 85)).alloc (.cells #[.int .u64 a0,.int .u64 a1,.int .u64 a2,.int .u64 a3,.int .u64 0,.int .u64 0,.int .u64 0,.int .u64 0] 85)).drew) 55 55 3 22 (w.heap.size+1+1) 4 4 4 ⟨b,0,none⟩ 1 1 [.int .u64 c] Try.underlying55 (by kernel_rfl) rfl
  (fun j v hj=>by
   rcases j with _ | j
   ·cases hj;exact((show Below w.heap.size w ((((w.alloc (.cells #[.int .u64 a0,.int .u64 a1,.int .u64 a2,.int .u64 a3] 24)).alloc (.cells #[.int .u64 0,.int .u64 0,.int .u64 0,.int .u64 0,.int .u64 0,.int .u64 0,.int .u64 0,.int .u64 0] 85)).alloc (.cells #[.int .u64 a0,.int .u64 a1,.int .u64 a2,.int .u64 a3,.int .u64 0,.int .u64 0,.int .u64 0,.int .u64 0] 85)).drew) by go_grown).cell (p:=⟨b,0,none⟩) hb).trans hc
   ·simp at hj)
  (fun j hj=>by
   rcases j with _ | j
   ·exact(congrArg Option.isSome (show World.cell? ((((w.alloc (.cells #[.int .u64 a0,.int .u64 a1,.int .u64 a2,.int .u64 a3] 24)).alloc (.cells #[.int .u64 0,.int .u64 0,.int .u64 0,.int .u64 0,.int .u64 0,.int .u64 0,.int .u64 0,.int .u64 0] 85)).alloc (.cells #[.int .u64 a0,.int .u64 a1,.int .u64 a2,.int .u64 a3,.int .u64 0,.int .u64 0,.int .u64 0,.int .u64 0] 85)).drew) ⟨w.heap.size+1+1,4,none⟩=some (.int .u64 0) by go_cell)).trans rfl
   ·simp at hj)
  (fun j hj=>by
   rcases j with _ | j
   ·show World.frozen? ((((w.alloc (.cells #[.int .u64 a0,.int .u64 a1,.int .u64 a2,.int .u64 a3] 24)).alloc (.cells #[.int .u64 0,.int .u64 0,.int .u64 0,.int .u64 0,.int .u64 0,.int .u64 0,.int .u64 0,.int .u64 0] 85)).alloc (.cells #[.int .u64 a0,.int .u64 a1,.int .u64 a2,.int .u64 a3,.int .u64 0,.int .u64 0,.int .u64 0,.int .u64 0] 85)).drew) ⟨w.heap.size+1+1,4,none⟩=false;go_cell
   ·simp at hj)
  (fun v hv=>by simp at hv;rcases hv with rfl;rfl)
 simp only[World.setCells]at hcn;go_enter Try.func77,Try.ntmps77;go_wp2
 go_region
 go_wp2
 go_returns
 refine⟨?_,by go_grown⟩;rfl
theorem widen_more(x c b:Nat)(hc:c<18446744073709551616)(w:World)(hb:b<w.heap.size)(h:w.cell? ⟨b,0,none⟩=some (.int .u64 c)):Calls Try.prog 77 #[wv x,.slice (some ⟨b,0,none⟩) 1 1] w fun e w'=>e=.returned (dv (x%2^256+2^256*c))/\Below w.heap.size w w':=by
 obtain⟨a0,a1,a2,a3,u0,u1,u2,u3,ea,na⟩:=wv_parts x;have h:=widen_one a0 a1 a2 a3 c b w hb h;rw[ea,<- na];have hn:dv (n4 a0 a1 a2 a3+2^256*c)=.agg #[.int .u64 a0,.int .u64 a1,.int .u64 a2,.int .u64 a3,.int .u64 c,.int .u64 0,.int .u64 0,.int .u64 0]:=by
  have:=dv_n8 (a5:=0) (a6:=0) (a7:=0) u0 u1 u2 u3 hc (by omega) (by omega) (by omega);rw[show n8 a0 a1 a2 a3 c 0 0 0=n4 a0 a1 a2 a3+2^256*c by unfold n8 n4;omega]at this;exact this
 rw[hn];exact h
theorem CT.high{w wx:World}{x y z:Nat}(h:CT w x y z wx):w.heap.size+1+1+1+1<=wx.heap.size:=(Array.getElem?_eq_some_iff.1 h.r3).1
theorem CT.rowed{w wx:World}{x y z g:Nat}{cs:Array Value}(h:CT w x y z wx)(hg:w.heap.size+1+1+1+1<=g):CT w x y z (wx.setRow g cs) :=
 ⟨below_setRow h.old (by omega) _,(setRow_other _ _ _ _ (by omega)).trans h.r0,(setRow_other _ _ _ _ (by omega)).trans h.r1,(setRow_other _ _ _ _ (by omega)).trans h.r2,(setRow_other _ _ _ _ (by omega)).trans h.r3⟩
theorem mul_small(x y:Nat):(x%2^256)*(y%2^256)<13407807929942597099574024998205846127479365820592393377723561443721764030073546976801874298166903427690031858186486050853753882811946569946433649006084096:=by
 have h1:=Nat.mod_lt x (show(2^256) > 0 by omega);have h2:=Nat.mod_lt y (show(2^256) > 0 by omega);have:=Nat.mul_lt_mul'' h1 h2;rwa [show(2^256)*2^256=13407807929942597099574024998205846127479365820592393377723561443721764030073546976801874298166903427690031858186486050853753882811946569946433649006084096 by rfl]at this
-- WHAT word.MulMod COMES TO.
theorem mulmod_any(x y z:Nat)(w:World):Calls Try.prog 72 #[wv x,wv y,wv z] w fun e w'=>e=.returned (wv (remV ((x%2^256)*(y%2^256)) z))/\Below w.heap.size w w':=by
 rw[wv_pw x,wv_pw y,wv_pw z];go_enter Try.func72,Try.ntmps72
 go_wp2_with fail
 refine region_tie (CT w x y z) (fun i s wx=>match i with | 0=>s 10=wv x | 1=>s 11=wv y | 2=>s 12=dv ((x%2^256)*(y%2^256)) | 3=>s 13=wv z | 4=>s 14=.tuple #[dv (quoV ((x%2^256)*(y%2^256)) z),wv (remV ((x%2^256)*(y%2^256)) z)] | 5=>s 9=.tuple #[dv (quoV ((x%2^256)*(y%2^256)) z),wv (remV ((x%2^256)*(y%2^256)) z)] | 6=>s 15=dv (quoV ((x%2^256)*(y%2^256)) z) | 7=>s 16=wv (remV ((x%2^256)*(y%2^256)) z) | 8=>∃ D,s 7=.pointer (some ⟨D,0,none⟩)/\w.heap.size+1+1+1+1<=D/\∃ cs,wx.heap[D]?=some (.cells cs 85 (0,0))/\cs.size=8 | 9=>∃ D,s 8=.pointer (some ⟨D,0,none⟩)/\w.heap.size+1+1+1+1<=D/\∃ cs,wx.heap[D]?=some (.cells cs 24 (0,0))/\cs.size=4 | 10=>∃ D,s 7=.pointer (some ⟨D,0,none⟩)/\w.heap.size+1+1+1+1<=D/\wx.heap[D]?=some (.cells (FQ (quoV ((x%2^256)*(y%2^256)) z) (remV ((x%2^256)*(y%2^256)) z) 85) 85 (0,0)) | 11=>∃ D,s 8=.pointer (some ⟨D,0,none⟩)/\w.heap.size+1+1+1+1<=D/\wx.heap[D]?=some (.cells (FQ (quoV ((x%2^256)*(y%2^256)) z) (remV ((x%2^256)*(y%2^256)) z) 24) 24 (0,0)) | _=>True) (RT (w.heap.size+1+1+1+1) (FQ (quoV ((x%2^256)*(y%2^256)) z) (remV ((x%2^256)*(y%2^256)) z))) (fun i=>match i with | 0=>[10] | 1=>[11] | 2=>[12] | 3=>[13] | 4=>[14] | 5=>[9] | 6=>[15] | 7=>[16] | 8=>[7] | 9=>[8] | 10=>[7] | 11=>[8] | _=>[]) (fun i=>i) (by kernel_rfl) (by kernel_rfl) ⟨Below.drew (by go_grown),(heap4 _ _ _ _ _).1,(heap4 _ _ _ _ _).2.1,(heap4 _ _ _ _ _).2.2.1,(heap4 _ _ _ _ _).2.2.2⟩ ?_ ?_ ?_ ?_
 ·intro i s s' wx he hp
  match i,he,hp with
  | 0,he,hp=>exact(he 10 (by simp)).symm.trans hp
  | 1,he,hp=>exact(he 11 (by simp)).symm.trans hp
  | 2,he,hp=>exact(he 12 (by simp)).symm.trans hp
  | 3,he,hp=>exact(he 13 (by simp)).symm.trans hp
  | 4,he,hp=>exact(he 14 (by simp)).symm.trans hp
  | 5,he,hp=>exact(he 9 (by simp)).symm.trans hp
  | 6,he,hp=>exact(he 15 (by simp)).symm.trans hp
  | 7,he,hp=>exact(he 16 (by simp)).symm.trans hp
  | 8,he,hp=>obtain⟨D,h1,h2⟩:=hp;exact⟨D,(he 7 (by simp)).symm.trans h1,h2⟩
  | 9,he,hp=>obtain⟨D,h1,h2⟩:=hp;exact⟨D,(he 8 (by simp)).symm.trans h1,h2⟩
  | 10,he,hp=>obtain⟨D,h1,h2⟩:=hp;exact⟨D,(he 7 (by simp)).symm.trans h1,h2⟩
  | 11,he,hp=>obtain⟨D,h1,h2⟩:=hp;exact⟨D,(he 8 (by simp)).symm.trans h1,h2⟩
  | _+12,_,_=>trivial
 ·intro i s wa wb hR hp
  match i,hp with
  | 0,hp=>exact hp
  | 1,hp=>exact hp
  | 2,hp=>exact hp
  | 3,hp=>exact hp
  | 4,hp=>exact hp
  | 5,hp=>exact hp
  | 6,hp=>exact hp
  | 7,hp=>exact hp
  | 8,hp=>obtain⟨D,h1,h2,cs,h3,h4⟩:=hp;obtain⟨cs',h5,h6⟩:=hR.shape _ _ _ _ h3;exact⟨D,h1,h2,cs',h5,h6.trans h4⟩
  | 9,hp=>obtain⟨D,h1,h2,cs,h3,h4⟩:=hp;obtain⟨cs',h5,h6⟩:=hR.shape _ _ _ _ h3;exact⟨D,h1,h2,cs',h5,h6.trans h4⟩
  | 10,hp=>obtain⟨D,h1,h2,h3⟩:=hp;exact⟨D,h1,h2,hR.keep _ _ _ h3⟩
  | 11,hp=>obtain⟨D,h1,h2,h3⟩:=hp;exact⟨D,h1,h2,hR.keep _ _ _ h3⟩
  | _+12,_=>trivial
 ·refine⟨?_,?_,?_,?_,?_,?_,?_,?_,?_,?_,?_,?_,trivial⟩
  ·intro a wx hC hsz hK
   have h0:a.tmps.getD 3 undef=.pointer (some ⟨w.heap.size,0,none⟩):=hK.1 3 (by kernel_rfl);exact tt_load 24 (.tmp 3) (.pointer (some ⟨w.heap.size,0,none⟩)) (wv x) rfl (by kernel_rfl) h0 (load_pw hC.r0) hC (slots_put _ _ _ (by rw[hsz];exact of_decide_eq_true (by kernel_rfl))) (RT.refl _ _ _)
  ·intro a wx hC hsz hK
   have h0:a.tmps.getD 4 undef=.pointer (some ⟨w.heap.size+1,0,none⟩):=hK.1 4 (by kernel_rfl);exact tt_load 24 (.tmp 4) (.pointer (some ⟨w.heap.size+1,0,none⟩)) (wv y) rfl (by kernel_rfl) h0 (load_pw hC.r1) hC (slots_put _ _ _ (by rw[hsz];exact of_decide_eq_true (by kernel_rfl))) (RT.refl _ _ _)
  ·intro a wx hC hsz hK
   have h0:a.tmps.getD 10 undef=wv x:=hK.2 ⟨0,.data⟩ (by simp) rfl _ rfl;have h1:a.tmps.getD 11 undef=wv y:=hK.2 ⟨1,.data⟩ (by simp) rfl _ rfl;refine tt_call 93 #[a.tmps.getD 10 undef,a.tmps.getD 11 undef] (by kernel_rfl) (by kernel_rfl) ?_;rw[h0,h1];exact((fun wx=>product_any x y wx) wx).mono fun e w' hh=>⟨_,hh.1,hC.below hh.2,slots_put _ _ _ (by rw[hsz];exact of_decide_eq_true (by kernel_rfl)),RT.of hC.high hh.2⟩
  ·intro a wx hC hsz hK
   have h0:a.tmps.getD 5 undef=.pointer (some ⟨w.heap.size+1+1,0,none⟩):=hK.1 5 (by kernel_rfl);exact tt_load 24 (.tmp 5) (.pointer (some ⟨w.heap.size+1+1,0,none⟩)) (wv z) rfl (by kernel_rfl) h0 (load_pw hC.r2) hC (slots_put _ _ _ (by rw[hsz];exact of_decide_eq_true (by kernel_rfl))) (RT.refl _ _ _)
  ·intro a wx hC hsz hK
   have h0:a.tmps.getD 12 undef=dv ((x%2^256)*(y%2^256)):=hK.2 ⟨2,.data⟩ (by simp) rfl _ rfl;have h1:a.tmps.getD 13 undef=wv z:=hK.2 ⟨3,.data⟩ (by simp) rfl _ rfl;refine tt_call 76 #[a.tmps.getD 12 undef,a.tmps.getD 13 undef] (by kernel_rfl) (by kernel_rfl) ?_;rw[h0,h1];exact((fun wx=>divide_all ((x%2^256)*(y%2^256)) z (mul_small x y) wx) wx).mono fun e w' hh=>⟨_,hh.1,hC.below hh.2,slots_put _ _ _ (by rw[hsz];exact of_decide_eq_true (by kernel_rfl)),RT.of hC.high hh.2⟩
  ·intro a wx hC hsz hK
   have h0:a.tmps.getD 14 undef=.tuple #[dv (quoV ((x%2^256)*(y%2^256)) z),wv (remV ((x%2^256)*(y%2^256)) z)]:=hK.2 ⟨4,.data⟩ (by simp) rfl _ rfl;exact tt_val (.tuple #[dv (quoV ((x%2^256)*(y%2^256)) z),wv (remV ((x%2^256)*(y%2^256)) z)]) (by kernel_rfl) (by rw[<- h0];kernel_rfl) hC (slots_put _ _ _ (by rw[hsz];exact of_decide_eq_true (by kernel_rfl))) (RT.refl _ _ _)
  ·intro a wx hC hsz hK
   have h0:a.tmps.getD 9 undef=.tuple #[dv (quoV ((x%2^256)*(y%2^256)) z),wv (remV ((x%2^256)*(y%2^256)) z)]:=hK.2 ⟨5,.data⟩ (by simp) rfl _ rfl;refine tt_v (Instr.extract (a.tmps.getD 9 undef) 0) (dv (quoV ((x%2^256)*(y%2^256)) z)) (by kernel_rfl) rfl ?_ hC (slots_put _ _ _ (by rw[hsz];exact of_decide_eq_true (by kernel_rfl))) (RT.refl _ _ _);rw[h0];kernel_rfl
  ·intro a wx hC hsz hK
   have h0:a.tmps.getD 9 undef=.tuple #[dv (quoV ((x%2^256)*(y%2^256)) z),wv (remV ((x%2^256)*(y%2^256)) z)]:=hK.2 ⟨5,.data⟩ (by simp) rfl _ rfl;refine tt_v (Instr.extract (a.tmps.getD 9 undef) 1) (wv (remV ((x%2^256)*(y%2^256)) z)) (by kernel_rfl) rfl ?_ hC (slots_put _ _ _ (by rw[hsz];exact of_decide_eq_true (by kernel_rfl))) (RT.refl _ _ _);rw[h0];kernel_rfl
  ·intro a wx hC hsz hK
   exact tt_new (.pointer (some ⟨wx.heap.size,0,none⟩)) (by kernel_rfl) (by kernel_rfl) (hC.below ((Below.refl _ _).alloc (Nat.le_refl _) _)) ⟨_,slots_put _ _ _ (by rw[hsz];exact of_decide_eq_true (by kernel_rfl)),hC.high,#[.int .u64 0,.int .u64 0,.int .u64 0,.int .u64 0,.int .u64 0,.int .u64 0,.int .u64 0,.int .u64 0],heap_alloc_new _ _,rfl⟩ (RT.of hC.high ((Below.refl _ _).alloc (Nat.le_refl _) _))
  ·intro a wx hC hsz hK
   exact tt_new (.pointer (some ⟨wx.heap.size,0,none⟩)) (by kernel_rfl) (by kernel_rfl) (hC.below ((Below.refl _ _).alloc (Nat.le_refl _) _)) ⟨_,slots_put _ _ _ (by rw[hsz];exact of_decide_eq_true (by kernel_rfl)),hC.high,#[.int .u64 0,.int .u64 0,.int .u64 0,.int .u64 0],heap_alloc_new _ _,rfl⟩ (RT.of hC.high ((Below.refl _ _).alloc (Nat.le_refl _) _))
  ·intro a wx hC hsz hK
   obtain⟨D,h1,h2,cs,h3,h4⟩:=hK.2 ⟨8,.data⟩ (by simp) rfl _ rfl;have h0:a.tmps.getD 15 undef=dv (quoV ((x%2^256)*(y%2^256)) z):=hK.2 ⟨6,.data⟩ (by simp) rfl _ rfl;exact tt_store (by kernel_rfl) rfl (run_store 85 (.tmp 7) (.tmp 15) _ _ rfl h1 h0 (store_dw h3 h4)) (hC.rowed h2) ⟨D,h1,h2,setRow_heap _ _ _ _ _ _ h3⟩ (RT.row h2 h3 h4)
  ·intro a wx hC hsz hK
   obtain⟨D,h1,h2,cs,h3,h4⟩:=hK.2 ⟨9,.data⟩ (by simp) rfl _ rfl;have h0:a.tmps.getD 16 undef=wv (remV ((x%2^256)*(y%2^256)) z):=hK.2 ⟨7,.data⟩ (by simp) rfl _ rfl;exact tt_store (by kernel_rfl) rfl (run_store 24 (.tmp 8) (.tmp 16) _ _ rfl h1 h0 (store_qw h3 h4)) (hC.rowed h2) ⟨D,h1,h2,setRow_heap _ _ _ _ _ _ h3⟩ (RT.row h2 h3 h4)
 ·intro f wx hC hf
  have s10:=hf 0 _ rfl;have s11:=hf 1 _ rfl;have s12:=hf 2 _ rfl;have s13:=hf 3 _ rfl;have s14:=hf 4 _ rfl;have s9:=hf 5 _ rfl;have s15:=hf 6 _ rfl;have s16:=hf 7 _ rfl;obtain⟨D7,s7,g7,r7⟩:=hf 10 _ rfl;obtain⟨D8,s8,g8,r8⟩:=hf 11 _ rfl;clear hf;generalize hA:putAll _ _ _=A at *;have hsz:A.tmps.size=18:=by rw[<- hA,putAll_size];rfl
  have t0:A.tmps.getD 0 undef=.agg (pw x):=by subst hA;kernel_rfl
  have t1:A.tmps.getD 1 undef=.agg (pw y):=by subst hA;kernel_rfl
  have t2:A.tmps.getD 2 undef=.agg (pw z):=by subst hA;kernel_rfl
  have t3:A.tmps.getD 3 undef=.pointer (some ⟨w.heap.size,0,none⟩):=by subst hA;kernel_rfl
  have t4:A.tmps.getD 4 undef=.pointer (some ⟨w.heap.size+1,0,none⟩):=by subst hA;kernel_rfl
  have t5:A.tmps.getD 5 undef=.pointer (some ⟨w.heap.size+1+1,0,none⟩):=by subst hA;kernel_rfl
  have t6:A.tmps.getD 6 undef=.pointer (some ⟨w.heap.size+1+1+1,0,none⟩):=by subst hA;kernel_rfl
  have t17:A.tmps.getD 17 undef=undef:=by subst hA;kernel_rfl
  have hd:A.defers=[]:=by subst hA;kernel_rfl
  clear hA;obtain⟨tm,df⟩:=A;simp only[slots]at *;have hL:=arr_lit tm;rw[hsz]at hL;simp only[List.range,List.range.loop,List.map]at hL;rw[t0,t1,t2,t3,t4,t5,t6,s7,s8,s9,s10,s11,s12,s13,s14,s15,s16,t17]at hL;subst hL hd;clear t0 t1 t2 t3 t4 t5 t6 s7 s8 s9 s10 s11 s12 s13 s14 s15 s16 t17 hsz;have hr:wx.heap[D8]?=some (.cells (pw (remV ((x%2^256)*(y%2^256)) z)) 24 (0,0)):=r8;have HC:=Lib.hid hC;clear hC
  go_wp2_with (first | (refine wpList_load_row rfl 24 _ rfl D8 rfl 24 (pw (remV ((x%2^256)*(y%2^256)) z)) (0,0) _ hr Try.underlying24 rfl infoWord ?_) | (refine wpList_store_row rfl 24 _ _ rfl (w.heap.size+1+1+1) (pw (remV ((x%2^256)*(y%2^256)) z)) rfl rfl 24 #[.int .u64 0,.int .u64 0,.int .u64 0,.int .u64 0] HC.out.r3 infoWord rfl (pw_one _) ?_))
  (try simp only[Exit.inBlock,Exit.then])
  exact bodyPost_ret (v:=.agg (pw (remV ((x%2^256)*(y%2^256)) z))) (results_cell_row (p:=6) rfl _ _ (w.heap.size+1+1+1) 24 _ (0,0) _ rfl (setRow_heap _ _ _ _ _ _ HC.out.r3) Try.underlying24 rfl infoWord) rfl ⟨rfl,below_setRow HC.out.old (by omega) _⟩
open Go.RowKit
def FA(q r c:Nat)(T:TypeId):Array Value:=if T=85 then dw q else if T=22 then #[.int .u64 c]else pw r
theorem store_da{g q r c:Nat}{w:World}{cs:Array Value}(hg:w.heap[g]?=some (.cells cs 85 (0,0)))(hs:cs.size=(FA q r c 85).size):(Instr.storeAt 85 (.pointer (some ⟨g,0,none⟩)) (dv q)).run Try.prog w=.ok () (w.setRow g (FA q r c 85)):=store_dw (r:=r) hg hs
theorem store_qa{g q r c:Nat}{w:World}{cs:Array Value}(hg:w.heap[g]?=some (.cells cs 24 (0,0)))(hs:cs.size=(FA q r c 24).size):(Instr.storeAt 24 (.pointer (some ⟨g,0,none⟩)) (wv r)).run Try.prog w=.ok () (w.setRow g (FA q r c 24)):=store_pw hs hg
structure CU (w:World) (D x y z:Nat) (wx:World):Prop where
 ct:CT w x y z wx
 far:w.heap.size+1+1+1+1<=D
 sum:wx.heap[D]?=some (.cells (pw (x+y)) 24 (0,0))
theorem CU.high{w wx:World}{D x y z:Nat}(h:CU w D x y z wx):D+1<=wx.heap.size:=(Array.getElem?_eq_some_iff.1 h.sum).1
theorem CU.below{w wx w':World}{D x y z:Nat}(h:CU w D x y z wx)(hb:Below wx.heap.size wx w'):CU w D x y z w':=⟨h.ct.below hb,h.far,(hb.block _ h.high).trans h.sum⟩
theorem CU.rowed{w wx:World}{D x y z g:Nat}{cs:Array Value}(h:CU w D x y z wx)(hg:D+1<=g):CU w D x y z (wx.setRow g cs):=⟨h.ct.rowed (by have:=h.far;omega),h.far,(setRow_other _ _ _ _ (by omega)).trans h.sum⟩
theorem sum_split(x y:Nat):(x+y)%2^256+2^256*(((x%2^256)+(y%2^256)) / 2^256)=((x%2^256)+(y%2^256)):=by
 rw[Nat.add_mod x y];exact Nat.mod_add_div _ _
theorem carry_lt(x y:Nat):(((x%2^256)+(y%2^256)) / 2^256)<18446744073709551616:=by
 have h1:=Nat.mod_lt x (show(2^256) > 0 by omega);have h2:=Nat.mod_lt y (show(2^256) > 0 by omega);omega
-- WHAT word.AddMod COMES TO.
theorem addmod_any(x y z:Nat)(w:World):Calls Try.prog 70 #[wv x,wv y,wv z] w fun e w'=>e=.returned (wv (remV ((x%2^256)+(y%2^256)) z))/\Below w.heap.size w w':=by
 rw[wv_pw x,wv_pw y,wv_pw z];have hadd:∀ w,Calls Try.prog 78 #[.agg (pw x),.agg (pw y)] w fun e w'=>e=.returned (.tuple #[.agg (pw (x+y)),.int .u64 ((((x%2^256)+(y%2^256)) / 2^256):Nat)])/\Below w.heap.size w w':=fun w=>addCarry_any x y w;have HADD:=Lib.hid hadd;clear hadd;have hcl:=carry_lt x y;have hV:((x%2^256)+(y%2^256))<13407807929942597099574024998205846127479365820592393377723561443721764030073546976801874298166903427690031858186486050853753882811946569946433649006084096:=by
  have h1:=Nat.mod_lt x (show(2^256) > 0 by omega);have h2:=Nat.mod_lt y (show(2^256) > 0 by omega);omega
 have HV:=Lib.hid hV;clear hV;have HCL:=Lib.hid hcl;clear hcl;have hC0:CT w x y z ((((w.alloc (.cells (pw x) 24)).alloc (.cells (pw y) 24)).alloc (.cells (pw z) 24)).alloc (.cells #[.int .u64 0,.int .u64 0,.int .u64 0,.int .u64 0] 24)):=⟨by go_grown,(heap4 _ _ _ _ _).1,(heap4 _ _ _ _ _).2.1,(heap4 _ _ _ _ _).2.2.1,(heap4 _ _ _ _ _).2.2.2⟩
 have HC0:=Lib.hid hC0;clear hC0;go_enter Try.func70,Try.ntmps70
 go_wp2_with (first | (refine wpList_load_row rfl 24 _ rfl w.heap.size rfl 24 (pw x) (0,0) _ HC0.out.r0 Try.underlying24 rfl infoWord ?_) | (refine wpList_load_row rfl 24 _ rfl (w.heap.size+1) rfl 24 (pw y) (0,0) _ HC0.out.r1 Try.underlying24 rfl infoWord ?_))
 refine(HADD.out _).mono ?_;rintro e w1 ⟨rfl,hb⟩;have HC1:=Lib.hid (HC0.out.below hb);clear hb
 go_wp2_with (refine wpList_store_row rfl 24 _ _ rfl w1.heap.size (pw (x+y)) rfl rfl 24 #[.int .u64 0,.int .u64 0,.int .u64 0,.int .u64 0] (heap_alloc_new _ _) infoWord rfl (pw_one _) ?_)
 have hCU:CU w w1.heap.size x y z ((w1.alloc (.cells #[.int .u64 0,.int .u64 0,.int .u64 0,.int .u64 0] 24)).setRow w1.heap.size (pw (x+y))):=⟨(HC1.out.below (by go_grown)).rowed HC1.out.high,HC1.out.high,setRow_heap _ _ _ _ _ _ (heap_alloc_new _ _)⟩
 obtain⟨E,hD⟩:∃ E,w1.heap.size=E:=⟨_,rfl⟩
 rw[hD]at hCU |-
 have HCU:=Lib.hid hCU;clear hCU;refine region_tie (CU w E x y z) (fun i s wx=>match i with | 0=>s 18=wv (x+y) | 1=>s 19=.int .u64 ((((x%2^256)+(y%2^256)) / 2^256):Nat) | 2=>∃ D,s 20=.slice (some ⟨D,0,none⟩) 1 1/\E+1<=D/\wx.heap[D]?=some (.cells (FA (quoV ((x%2^256)+(y%2^256)) z) (remV ((x%2^256)+(y%2^256)) z) (((x%2^256)+(y%2^256)) / 2^256) 22) 22 (0,0)) | 3=>s 21=dv ((x%2^256)+(y%2^256)) | 4=>s 22=wv z | 5=>s 23=.tuple #[dv (quoV ((x%2^256)+(y%2^256)) z),wv (remV ((x%2^256)+(y%2^256)) z)] | 6=>s 17=.tuple #[dv (quoV ((x%2^256)+(y%2^256)) z),wv (remV ((x%2^256)+(y%2^256)) z)] | 7=>s 24=dv (quoV ((x%2^256)+(y%2^256)) z) | 8=>s 25=wv (remV ((x%2^256)+(y%2^256)) z) | 9=>∃ D,s 9=.pointer (some ⟨D,0,none⟩)/\E+1<=D/\∃ cs,wx.heap[D]?=some (.cells cs 85 (0,0))/\cs.size=8 | 10=>∃ D,s 10=.pointer (some ⟨D,0,none⟩)/\E+1<=D/\∃ cs,wx.heap[D]?=some (.cells cs 24 (0,0))/\cs.size=4 | 11=>∃ D,s 9=.pointer (some ⟨D,0,none⟩)/\E+1<=D/\wx.heap[D]?=some (.cells (FA (quoV ((x%2^256)+(y%2^256)) z) (remV ((x%2^256)+(y%2^256)) z) (((x%2^256)+(y%2^256)) / 2^256) 85) 85 (0,0)) | 12=>∃ D,s 10=.pointer (some ⟨D,0,none⟩)/\E+1<=D/\wx.heap[D]?=some (.cells (FA (quoV ((x%2^256)+(y%2^256)) z) (remV ((x%2^256)+(y%2^256)) z) (((x%2^256)+(y%2^256)) / 2^256) 24) 24 (0,0)) | _=>True) (RT (E+1) (FA (quoV ((x%2^256)+(y%2^256)) z) (remV ((x%2^256)+(y%2^256)) z) (((x%2^256)+(y%2^256)) / 2^256))) (fun i=>match i with | 0=>[18] | 1=>[19] | 2=>[20] | 3=>[21] | 4=>[22] | 5=>[23] | 6=>[17] | 7=>[24] | 8=>[25] | 9=>[9] | 10=>[10] | 11=>[9] | 12=>[10] | _=>[]) (fun i=>i) (by kernel_rfl) (by kernel_rfl) ⟨⟨HCU.out.ct.old.drew,HCU.out.ct.r0,HCU.out.ct.r1,HCU.out.ct.r2,HCU.out.ct.r3⟩,HCU.out.far,HCU.out.sum⟩ ?_ ?_ ?_ ?_
 ·intro i s s' wx he hp
  match i,he,hp with
  | 0,he,hp=>exact(he 18 (by simp)).symm.trans hp
  | 1,he,hp=>exact(he 19 (by simp)).symm.trans hp
  | 2,he,hp=>obtain⟨D,h1,h2⟩:=hp;exact⟨D,(he 20 (by simp)).symm.trans h1,h2⟩
  | 3,he,hp=>exact(he 21 (by simp)).symm.trans hp
  | 4,he,hp=>exact(he 22 (by simp)).symm.trans hp
  | 5,he,hp=>exact(he 23 (by simp)).symm.trans hp
  | 6,he,hp=>exact(he 17 (by simp)).symm.trans hp
  | 7,he,hp=>exact(he 24 (by simp)).symm.trans hp
  | 8,he,hp=>exact(he 25 (by simp)).symm.trans hp
  | 9,he,hp=>obtain⟨D,h1,h2⟩:=hp;exact⟨D,(he 9 (by simp)).symm.trans h1,h2⟩
  | 10,he,hp=>obtain⟨D,h1,h2⟩:=hp;exact⟨D,(he 10 (by simp)).symm.trans h1,h2⟩
  | 11,he,hp=>obtain⟨D,h1,h2⟩:=hp;exact⟨D,(he 9 (by simp)).symm.trans h1,h2⟩
  | 12,he,hp=>obtain⟨D,h1,h2⟩:=hp;exact⟨D,(he 10 (by simp)).symm.trans h1,h2⟩
  | _+13,_,_=>trivial
 ·intro i s wa wb hR hp
  match i,hp with
  | 0,hp=>exact hp
  | 1,hp=>exact hp
  | 2,hp=>obtain⟨D,h1,h2,h3⟩:=hp;exact⟨D,h1,h2,hR.keep _ _ _ h3⟩
  | 3,hp=>exact hp
  | 4,hp=>exact hp
  | 5,hp=>exact hp
  | 6,hp=>exact hp
  | 7,hp=>exact hp
  | 8,hp=>exact hp
  | 9,hp=>obtain⟨D,h1,h2,cs,h3,h4⟩:=hp;obtain⟨cs',h5,h6⟩:=hR.shape _ _ _ _ h3;exact⟨D,h1,h2,cs',h5,h6.trans h4⟩
  | 10,hp=>obtain⟨D,h1,h2,cs,h3,h4⟩:=hp;obtain⟨cs',h5,h6⟩:=hR.shape _ _ _ _ h3;exact⟨D,h1,h2,cs',h5,h6.trans h4⟩
  | 11,hp=>obtain⟨D,h1,h2,h3⟩:=hp;exact⟨D,h1,h2,hR.keep _ _ _ h3⟩
  | 12,hp=>obtain⟨D,h1,h2,h3⟩:=hp;exact⟨D,h1,h2,hR.keep _ _ _ h3⟩
  | _+13,_=>trivial
 ·refine⟨?_,?_,?_,?_,?_,?_,?_,?_,?_,?_,?_,?_,?_,trivial⟩
  ·intro a wx hC hsz hK
   have h0:a.tmps.getD 7 undef=.pointer (some ⟨E,0,none⟩):=hK.1 7 (by kernel_rfl);exact tt_load 24 (.tmp 7) (.pointer (some ⟨E,0,none⟩)) (wv (x+y)) rfl (by kernel_rfl) h0 (load_pw hC.sum) hC (slots_put _ _ _ (by rw[hsz];exact of_decide_eq_true (by kernel_rfl))) (RT.refl _ _ _)
  ·intro a wx hC hsz hK
   have h0:a.tmps.getD 8 undef=.int .u64 ((((x%2^256)+(y%2^256)) / 2^256):Nat):=hK.1 8 (by kernel_rfl);exact tt_val (.int .u64 ((((x%2^256)+(y%2^256)) / 2^256):Nat)) (by kernel_rfl) (by rw[<- h0];kernel_rfl) hC (slots_put _ _ _ (by rw[hsz];exact of_decide_eq_true (by kernel_rfl))) (RT.refl _ _ _)
  ·intro a wx hC hsz hK
   have h0:a.tmps.getD 19 undef=.int .u64 ((((x%2^256)+(y%2^256)) / 2^256):Nat):=hK.2 ⟨1,.data⟩ (by simp) rfl _ rfl;refine tt_v (Instr.buildSlice 55 1 #[(0,a.tmps.getD 19 undef)]) (.slice (some ⟨wx.heap.size,0,none⟩) 1 1) (by kernel_rfl) (by kernel_rfl) (w':=wx.alloc (.cells #[.int .u64 ((((x%2^256)+(y%2^256)) / 2^256):Nat)] 22)) ?_ (hC.below ((Below.refl _ _).alloc (Nat.le_refl _) _)) ⟨_,slots_put _ _ _ (by rw[hsz];exact of_decide_eq_true (by kernel_rfl)),hC.high,heap_alloc_new _ _⟩ (RT.of hC.high ((Below.refl _ _).alloc (Nat.le_refl _) _));rw[h0];kernel_rfl
  ·intro a wx hC hsz hK
   have h0:a.tmps.getD 18 undef=wv (x+y):=hK.2 ⟨0,.data⟩ (by simp) rfl _ rfl;obtain⟨b,h1,h2,h3⟩:=hK.2 ⟨2,.data⟩ (by simp) rfl _ rfl;have h1':a.tmps.getD 20 undef=.slice (some ⟨b,0,none⟩) 1 1:=h1;refine tt_call 77 #[a.tmps.getD 18 undef,a.tmps.getD 20 undef] (by kernel_rfl) (by kernel_rfl) ?_;rw[h0,h1'];have hw:=widen_more (x+y) (((x%2^256)+(y%2^256)) / 2^256) b HCL.out wx (Array.getElem?_eq_some_iff.1 h3).1 ((cell_of_row _ _ 0 _ _ _ h3).trans rfl);rw[sum_split]at hw;exact hw.mono fun e w' hh=>⟨_,hh.1,hC.below hh.2,slots_put _ _ _ (by rw[hsz];exact of_decide_eq_true (by kernel_rfl)),RT.of hC.high hh.2⟩
  ·intro a wx hC hsz hK
   have h0:a.tmps.getD 5 undef=.pointer (some ⟨w.heap.size+1+1,0,none⟩):=hK.1 5 (by kernel_rfl);exact tt_load 24 (.tmp 5) (.pointer (some ⟨w.heap.size+1+1,0,none⟩)) (wv z) rfl (by kernel_rfl) h0 (load_pw hC.ct.r2) hC (slots_put _ _ _ (by rw[hsz];exact of_decide_eq_true (by kernel_rfl))) (RT.refl _ _ _)
  ·intro a wx hC hsz hK
   have h0:a.tmps.getD 21 undef=dv ((x%2^256)+(y%2^256)):=hK.2 ⟨3,.data⟩ (by simp) rfl _ rfl;have h1:a.tmps.getD 22 undef=wv z:=hK.2 ⟨4,.data⟩ (by simp) rfl _ rfl;refine tt_call 76 #[a.tmps.getD 21 undef,a.tmps.getD 22 undef] (by kernel_rfl) (by kernel_rfl) ?_;rw[h0,h1];exact((fun wx=>divide_all ((x%2^256)+(y%2^256)) z HV.out wx) wx).mono fun e w' hh=>⟨_,hh.1,hC.below hh.2,slots_put _ _ _ (by rw[hsz];exact of_decide_eq_true (by kernel_rfl)),RT.of hC.high hh.2⟩
  ·intro a wx hC hsz hK
   have h0:a.tmps.getD 23 undef=.tuple #[dv (quoV ((x%2^256)+(y%2^256)) z),wv (remV ((x%2^256)+(y%2^256)) z)]:=hK.2 ⟨5,.data⟩ (by simp) rfl _ rfl;exact tt_val (.tuple #[dv (quoV ((x%2^256)+(y%2^256)) z),wv (remV ((x%2^256)+(y%2^256)) z)]) (by kernel_rfl) (by rw[<- h0];kernel_rfl) hC (slots_put _ _ _ (by rw[hsz];exact of_decide_eq_true (by kernel_rfl))) (RT.refl _ _ _)
  ·intro a wx hC hsz hK
   have h0:a.tmps.getD 17 undef=.tuple #[dv (quoV ((x%2^256)+(y%2^256)) z),wv (remV ((x%2^256)+(y%2^256)) z)]:=hK.2 ⟨6,.data⟩ (by simp) rfl _ rfl;refine tt_v (Instr.extract (a.tmps.getD 17 undef) 0) (dv (quoV ((x%2^256)+(y%2^256)) z)) (by kernel_rfl) rfl ?_ hC (slots_put _ _ _ (by rw[hsz];exact of_decide_eq_true (by kernel_rfl))) (RT.refl _ _ _);rw[h0];kernel_rfl
  ·intro a wx hC hsz hK
   have h0:a.tmps.getD 17 undef=.tuple #[dv (quoV ((x%2^256)+(y%2^256)) z),wv (remV ((x%2^256)+(y%2^256)) z)]:=hK.2 ⟨6,.data⟩ (by simp) rfl _ rfl;refine tt_v (Instr.extract (a.tmps.getD 17 undef) 1) (wv (remV ((x%2^256)+(y%2^256)) z)) (by kernel_rfl) rfl ?_ hC (slots_put _ _ _ (by rw[hsz];exact of_decide_eq_true (by kernel_rfl))) (RT.refl _ _ _);rw[h0];kernel_rfl
  ·intro a wx hC hsz hK
   exact tt_new (.pointer (some ⟨wx.heap.size,0,none⟩)) (by kernel_rfl) (by kernel_rfl) (hC.below ((Below.refl _ _).alloc (Nat.le_refl _) _)) ⟨_,slots_put _ _ _ (by rw[hsz];exact of_decide_eq_true (by kernel_rfl)),hC.high,#[.int .u64 0,.int .u64 0,.int .u64 0,.int .u64 0,.int .u64 0,.int .u64 0,.int .u64 0,.int .u64 0],heap_alloc_new _ _,rfl⟩ (RT.of hC.high ((Below.refl _ _).alloc (Nat.le_refl _) _))
  ·intro a wx hC hsz hK
   exact tt_new (.pointer (some ⟨wx.heap.size,0,none⟩)) (by kernel_rfl) (by kernel_rfl) (hC.below ((Below.refl _ _).alloc (Nat.le_refl _) _)) ⟨_,slots_put _ _ _ (by rw[hsz];exact of_decide_eq_true (by kernel_rfl)),hC.high,#[.int .u64 0,.int .u64 0,.int .u64 0,.int .u64 0],heap_alloc_new _ _,rfl⟩ (RT.of hC.high ((Below.refl _ _).alloc (Nat.le_refl _) _))
  ·intro a wx hC hsz hK
   obtain⟨D,h1,h2,cs,h3,h4⟩:=hK.2 ⟨9,.data⟩ (by simp) rfl _ rfl;have h0:a.tmps.getD 24 undef=dv (quoV ((x%2^256)+(y%2^256)) z):=hK.2 ⟨7,.data⟩ (by simp) rfl _ rfl;exact tt_store (by kernel_rfl) rfl (run_store 85 (.tmp 9) (.tmp 24) _ _ rfl h1 h0 (store_da h3 h4)) (hC.rowed h2) ⟨D,h1,h2,setRow_heap _ _ _ _ _ _ h3⟩ (RT.row h2 h3 h4)
  ·intro a wx hC hsz hK
   obtain⟨D,h1,h2,cs,h3,h4⟩:=hK.2 ⟨10,.data⟩ (by simp) rfl _ rfl;have h0:a.tmps.getD 25 undef=wv (remV ((x%2^256)+(y%2^256)) z):=hK.2 ⟨8,.data⟩ (by simp) rfl _ rfl;exact tt_store (by kernel_rfl) rfl (run_store 24 (.tmp 10) (.tmp 25) _ _ rfl h1 h0 (store_qa h3 h4)) (hC.rowed h2) ⟨D,h1,h2,setRow_heap _ _ _ _ _ _ h3⟩ (RT.row h2 h3 h4)
 ·intro f wx hC hf
  have s18:=hf 0 _ rfl;have s19:=hf 1 _ rfl;obtain⟨D20,s20,g20,r20⟩:=hf 2 _ rfl;have s21:=hf 3 _ rfl;have s22:=hf 4 _ rfl;have s23:=hf 5 _ rfl;have s17:=hf 6 _ rfl;have s24:=hf 7 _ rfl;have s25:=hf 8 _ rfl;obtain⟨D9,s9,g9,r9⟩:=hf 11 _ rfl;obtain⟨D10,s10,g10,r10⟩:=hf 12 _ rfl;clear hf;generalize hA:putAll _ _ _=A at *;have hsz:A.tmps.size=27:=by rw[<- hA,putAll_size];rfl
  have t0:A.tmps.getD 0 undef=.agg (pw x):=by subst hA;kernel_rfl
  have t1:A.tmps.getD 1 undef=.agg (pw y):=by subst hA;kernel_rfl
  have t2:A.tmps.getD 2 undef=.agg (pw z):=by subst hA;kernel_rfl
  have t3:A.tmps.getD 3 undef=.pointer (some ⟨w.heap.size,0,none⟩):=by subst hA;kernel_rfl
  have t4:A.tmps.getD 4 undef=.pointer (some ⟨w.heap.size+1,0,none⟩):=by subst hA;kernel_rfl
  have t5:A.tmps.getD 5 undef=.pointer (some ⟨w.heap.size+1+1,0,none⟩):=by subst hA;kernel_rfl
  have t6:A.tmps.getD 6 undef=.pointer (some ⟨w.heap.size+1+1+1,0,none⟩):=by subst hA;kernel_rfl
  have t7:A.tmps.getD 7 undef=.pointer (some ⟨E,0,none⟩):=by subst hA;kernel_rfl
  have t8:A.tmps.getD 8 undef=.int .u64 ((((x%2^256)+(y%2^256)) / 2^256):Nat):=by subst hA;kernel_rfl
  have t11:A.tmps.getD 11 undef=.tuple #[.agg (pw (x+y)),.int .u64 ((((x%2^256)+(y%2^256)) / 2^256):Nat)]:=by subst hA;kernel_rfl
  have t12:A.tmps.getD 12 undef=.agg (pw x):=by subst hA;kernel_rfl
  have t13:A.tmps.getD 13 undef=.agg (pw y):=by subst hA;kernel_rfl
  have t14:A.tmps.getD 14 undef=.tuple #[.agg (pw (x+y)),.int .u64 ((((x%2^256)+(y%2^256)) / 2^256):Nat)]:=by subst hA;kernel_rfl
  have t15:A.tmps.getD 15 undef=.agg (pw (x+y)):=by subst hA;kernel_rfl
  have t16:A.tmps.getD 16 undef=.int .u64 ((((x%2^256)+(y%2^256)) / 2^256):Nat):=by subst hA;kernel_rfl
  have t26:A.tmps.getD 26 undef=undef:=by subst hA;kernel_rfl
  have hd:A.defers=[]:=by subst hA;kernel_rfl
  clear hA;obtain⟨tm,df⟩:=A;simp only[slots]at *;have hL:=arr_lit tm;rw[hsz]at hL;simp only[List.range,List.range.loop,List.map]at hL;rw[t0,t1,t2,t3,t4,t5,t6,t7,t8,s9,s10,t11,t12,t13,t14,t15,t16,s17,s18,s19,s20,s21,s22,s23,s24,s25,t26]at hL;subst hL hd;clear t0 t1 t2 t3 t4 t5 t6 t7 t8 s9 s10 t11 t12 t13 t14 t15 t16 s17 s18 s19 s20 s21 s22 s23 s24 s25 t26 hsz;have hr:wx.heap[D10]?=some (.cells (pw (remV ((x%2^256)+(y%2^256)) z)) 24 (0,0)):=r10;have HC:=Lib.hid hC.ct;clear hC
  go_wp2_with (first | (refine wpList_load_row rfl 24 _ rfl D10 rfl 24 (pw (remV ((x%2^256)+(y%2^256)) z)) (0,0) _ hr Try.underlying24 rfl infoWord ?_) | (refine wpList_store_row rfl 24 _ _ rfl (w.heap.size+1+1+1) (pw (remV ((x%2^256)+(y%2^256)) z)) rfl rfl 24 #[.int .u64 0,.int .u64 0,.int .u64 0,.int .u64 0] HC.out.r3 infoWord rfl (pw_one _) ?_))
  (try simp only[Exit.inBlock,Exit.then])
  exact bodyPost_ret (v:=.agg (pw (remV ((x%2^256)+(y%2^256)) z))) (results_cell_row (p:=6) rfl _ _ (w.heap.size+1+1+1) 24 _ (0,0) _ rfl (setRow_heap _ _ _ _ _ _ HC.out.r3) Try.underlying24 rfl infoWord) rfl ⟨rfl,below_setRow HC.out.old (by omega) _⟩
end Go.Proofs.Ytcmgphkjchicbaa
