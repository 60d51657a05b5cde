/- What bailiwickref01.Word comes to, called with any slice of digits. (Cut to what is reached, written closely: Sum · ShiftNum · Shl · Word.) -/
import Derived.Test.YtpipdfgfoocifaaGreatT5
import Derived.Test.YtpipdfgfoocifaaGreatT2
import Derived.Laws.Bits64b
import Derived.StillTailTactics
import Derived.BigQuiet
import Derived.WalkSmall
set_option linter.all false
set_option maxRecDepth 100000
set_option maxHeartbeats 8000000
namespace Go.Proofs.YtpipdfgfoocifaaGreat
open Go.RowKit
theorem sum_step{P x c N A B:Nat}(h:N+P*c=A+B)(ak bk:Nat)(hx:x=c+ak+bk):N+P*(x%65536)+P*65536*(x / 65536)=(A+P*ak)+(B+P*bk):=by
 have e:x=x%65536+65536*(x / 65536):=by omega
 have e1:P*x=P*(x%65536)+P*65536*(x / 65536):=by
  rw[Nat.mul_assoc,<- Nat.mul_add,<- e]
 have e2:P*x=P*c+P*ak+P*bk:=by rw[hx,Nat.mul_add,Nat.mul_add]
 omega
def SumRel(w:World)(n m k c:Nat)(da db:Nat->Nat)(v:Value)(wr:World):Prop :=
 c<=1/\∃ ns:Nat->Nat,wr.ownsRow w.heap.size 22 1 v k (dl ns k)/\(∀ j,j<k->ns j<65536)/\vd ns k+65536^k*c=vd (pad da n) k+vd (pad db m) k/\Below w.heap.size w wr/\w.heap.size<wr.heap.size
theorem sum_next{w wr w1:World}{n m k c x:Nat}{da db ns:Nat->Nat}{v v' X:Value}(hc:c<=1)(hown:wr.ownsRow w.heap.size 22 1 v k (dl ns k))(hns:∀ j,j<k->ns j<65536)
  (hv:vd ns k+65536^k*c=vd (pad da n) k+vd (pad db m) k) (hb:Below w.heap.size w wr) (hz:w.heap.size<wr.heap.size) (hx:x=c+pad da n k+pad db m k) (ha:pad da n k<65536) (hbd:pad db m k<65536)
  (hown':w1.ownsRow w.heap.size 22 1 v' (k+1) (dl ns k++[.int .u64 ((x%65536:Nat):Int)])) (hgrow:(wr.alloc (.cells #[X] 22)).grownBy w1 v.ownBlock) :
  SumRel w n m (k+1) (x / 65536) da db v' w1:=by
 obtain⟨ho,hb'⟩:=push_rel hown hb (by omega) hown' hgrow;have hs:=hgrow.size;simp at hs;refine⟨by omega,upd ns k (x%65536),ho,upd_lt hns (by omega),?_,hb',by omega⟩;rw[vd_upd,Nat.pow_succ];exact sum_step hv _ _ hx
theorem sum_any(ba ca bb cb n m:Nat)(da db:Nat->Nat)(hn:(n:Int)<=1000000)(hm:(m:Int)<=1000000)(ha:∀ j,j<n->da j<65536)(hb:∀ j,j<m->db j<65536)(w:World)(hA:Dg w ba n da)(hB:Dg w bb m db) :
  Calls Tryz.prog 84 #[.slice (some ⟨ba,0,none⟩) n ca,.slice (some ⟨bb,0,none⟩) m cb] w (MkDg (max n m+1) (vd da n+vd db m) w):=by
 have Ha:=Lib.hid ha;clear ha;have Hb:=Lib.hid hb;clear hb;have HA:=Lib.hid hA;clear hA;have HB:=Lib.hid hB;clear hB;obtain⟨i0,hi,hz0,hz1,hz2⟩:=info_parts info22;go_enter Tryz.func84,Tryz.ntmps84;go_wp2
 go_loopw [5,6,7] (fun v cv i wr=>∃ k c:Nat,k<=max n m/\i=.int .i64 k/\cv=.int .u64 c/\Hid (SumRel w n m k c da db v wr)) (fun _ _ i _=>max n m - (intOf i).toNat)
 case atStart =>
  refine⟨0,0,by omega,rfl,rfl,Lib.hid ⟨by omega,da,?_,by omega,rfl,by go_grown,by simp⟩⟩;exact World.ownsRow_made (base:=w.heap.size) (e:=22) (size:=1) w #[] 0 (by simp) (by decide) (by simp)
 case round =>
  obtain⟨k,c,hk,rfl,rfl,H⟩:=hrel;have hk0:(0:Int)<=k:=by omega
  have hk1:(k:Int)<=1000000:=by omega
  obtain⟨hc,ns,hown,hns,hval,hbel,hsz⟩:=H.out;have hc0:(0:Int)<=c:=by omega
  have hc1:(c:Int)<=1:=by omega
  have HO:=Lib.hid hown;clear hown;have HNS:=Lib.hid hns;clear hns;have HVAL:=Lib.hid hval;clear hval;have HBEL:=Lib.hid hbel;clear hbel;have HSZ:=Lib.hid hsz;clear hsz;have HC:=Lib.hid hc;clear hc H;by_cases h1:k<n
  ·by_cases h2:k<m
   ·have xa:((da k:Nat):Int)<=65535:=by have:=Ha.out k (by omega);omega
    have xa0:(0:Int)<=(da k:Nat):=by omega
    have ea:wr.cell? ⟨ba,k,none⟩=some (.int .u64 (da k:Nat)):=(HBEL.out.cell (p:=⟨ba,k,none⟩) HA.out.1).trans (HA.out.2 k (by omega));have hka:(k:Int)<(n:Int):=by omega
    have xb:((db k:Nat):Int)<=65535:=by have:=Hb.out k (by omega);omega
    have xb0:(0:Int)<=(db k:Nat):=by omega
    have eb:wr.cell? ⟨bb,k,none⟩=some (.int .u64 (db k:Nat)):=(HBEL.out.cell (p:=⟨bb,k,none⟩) HB.out.1).trans (HB.out.2 k (by omega));have hkb:(k:Int)<(m:Int):=by omega
    obtain⟨x,hx⟩:∃ x:Nat,c+da k+db k=x:=⟨_,rfl⟩
    have hxi:(c:Int)+(da k:Nat)+(db k:Nat)=(x:Int):=by omega
    have hxb:x<200000:=by have:=HC.out;omega
    have hand:bits .and .u64 (x:Int) 65535=((x%65536:Nat):Int):=and_low16 x (by omega);have hxl:(x:Int)<200000:=by omega
    have hx0:(0:Int)<=x:=by omega
    have HAND:=Lib.hid hand;clear hand;have HX:=Lib.hid hx;clear hx
    go_wp2_with (at_builtin;refine wpList_append_own _ rfl (.tmp 43) (.tmp 46) 94 rfl w.heap.size 22 i0 (.int .u64 0) 1 8 Tryz.underlying94 hi hz0 hz1 hz2 rfl (by decide) _ _ _ rfl (HO.out.alloc _) ⟨wr.heap.size,0,none⟩ 1 1 [.int .u64 (bits .and .u64 (x:Int) 65535)] rfl rfl ?d111 ?d112 ?d113 ?d114 ?d115 ?_)
    try (case d111=>exact cell_one_new _ _ _)
    try (case d112=>first | rfl | (intro u hu;simp at hu;subst hu;rfl))
    try (case d113=>unfold maxLen;omega)
    try (case d114=>omega)
    try (case d115=>have:=HSZ.out;first | omega | (simp;omega))
    intro v' w1 hown' hgrow _;rw[HAND.out]at hown';have ea':pad da n k=da k:=by simp only[pad];rw[if_pos (by omega)]
    have eb':pad db m k=db k:=by simp only[pad];rw[if_pos (by omega)]
    have HN:=Lib.hid (sum_next (x:=x) (da:=da) (db:=db) (n:=n) (m:=m) HC.out HO.out HNS.out HVAL.out HBEL.out HSZ.out (by rw[ea',eb'];have:=HX.out;omega) (by rw[ea'];omega) (by rw[eb'];omega) hown' hgrow);clear hown' hgrow ea' eb';go_wp2
    go_roundw
    case rel=>exact⟨k+1,x / 65536,by omega,by go_num,by go_num,HN⟩
    case measure=>simp[intOf];omega
   ·have xa:((da k:Nat):Int)<=65535:=by have:=Ha.out k (by omega);omega
    have xa0:(0:Int)<=(da k:Nat):=by omega
    have ea:wr.cell? ⟨ba,k,none⟩=some (.int .u64 (da k:Nat)):=(HBEL.out.cell (p:=⟨ba,k,none⟩) HA.out.1).trans (HA.out.2 k (by omega));have hka:(k:Int)<(n:Int):=by omega
    have hkb:¬(k:Int)<(m:Int):=by omega
    obtain⟨x,hx⟩:∃ x:Nat,c+da k=x:=⟨_,rfl⟩
    have hxi:(c:Int)+(da k:Nat)=(x:Int):=by omega
    have hxb:x<200000:=by have:=HC.out;omega
    have hand:bits .and .u64 (x:Int) 65535=((x%65536:Nat):Int):=and_low16 x (by omega);have hxl:(x:Int)<200000:=by omega
    have hx0:(0:Int)<=x:=by omega
    have HAND:=Lib.hid hand;clear hand;have HX:=Lib.hid hx;clear hx
    go_wp2_with (at_builtin;refine wpList_append_own _ rfl (.tmp 43) (.tmp 46) 94 rfl w.heap.size 22 i0 (.int .u64 0) 1 8 Tryz.underlying94 hi hz0 hz1 hz2 rfl (by decide) _ _ _ rfl (HO.out.alloc _) ⟨wr.heap.size,0,none⟩ 1 1 [.int .u64 (bits .and .u64 (x:Int) 65535)] rfl rfl ?d101 ?d102 ?d103 ?d104 ?d105 ?_)
    try (case d101=>exact cell_one_new _ _ _)
    try (case d102=>first | rfl | (intro u hu;simp at hu;subst hu;rfl))
    try (case d103=>unfold maxLen;omega)
    try (case d104=>omega)
    try (case d105=>have:=HSZ.out;first | omega | (simp;omega))
    intro v' w1 hown' hgrow _;rw[HAND.out]at hown';have ea':pad da n k=da k:=by simp only[pad];rw[if_pos (by omega)]
    have eb':pad db m k=0:=by simp only[pad];rw[if_neg (by omega)]
    have HN:=Lib.hid (sum_next (x:=x) (da:=da) (db:=db) (n:=n) (m:=m) HC.out HO.out HNS.out HVAL.out HBEL.out HSZ.out (by rw[ea',eb'];have:=HX.out;omega) (by rw[ea'];omega) (by rw[eb'];omega) hown' hgrow);clear hown' hgrow ea' eb';go_wp2
    go_roundw
    case rel=>exact⟨k+1,x / 65536,by omega,by go_num,by go_num,HN⟩
    case measure=>simp[intOf];omega
  ·by_cases h2:k<m
   ·have hka:¬(k:Int)<(n:Int):=by omega
    have xb:((db k:Nat):Int)<=65535:=by have:=Hb.out k (by omega);omega
    have xb0:(0:Int)<=(db k:Nat):=by omega
    have eb:wr.cell? ⟨bb,k,none⟩=some (.int .u64 (db k:Nat)):=(HBEL.out.cell (p:=⟨bb,k,none⟩) HB.out.1).trans (HB.out.2 k (by omega));have hkb:(k:Int)<(m:Int):=by omega
    obtain⟨x,hx⟩:∃ x:Nat,c+db k=x:=⟨_,rfl⟩
    have hxi:(c:Int)+(db k:Nat)=(x:Int):=by omega
    have hxb:x<200000:=by have:=HC.out;omega
    have hand:bits .and .u64 (x:Int) 65535=((x%65536:Nat):Int):=and_low16 x (by omega);have hxl:(x:Int)<200000:=by omega
    have hx0:(0:Int)<=x:=by omega
    have HAND:=Lib.hid hand;clear hand;have HX:=Lib.hid hx;clear hx
    go_wp2_with (at_builtin;refine wpList_append_own _ rfl (.tmp 43) (.tmp 46) 94 rfl w.heap.size 22 i0 (.int .u64 0) 1 8 Tryz.underlying94 hi hz0 hz1 hz2 rfl (by decide) _ _ _ rfl (HO.out.alloc _) ⟨wr.heap.size,0,none⟩ 1 1 [.int .u64 (bits .and .u64 (x:Int) 65535)] rfl rfl ?d011 ?d012 ?d013 ?d014 ?d015 ?_)
    try (case d011=>exact cell_one_new _ _ _)
    try (case d012=>first | rfl | (intro u hu;simp at hu;subst hu;rfl))
    try (case d013=>unfold maxLen;omega)
    try (case d014=>omega)
    try (case d015=>have:=HSZ.out;first | omega | (simp;omega))
    intro v' w1 hown' hgrow _;rw[HAND.out]at hown';have ea':pad da n k=0:=by simp only[pad];rw[if_neg (by omega)]
    have eb':pad db m k=db k:=by simp only[pad];rw[if_pos (by omega)]
    have HN:=Lib.hid (sum_next (x:=x) (da:=da) (db:=db) (n:=n) (m:=m) HC.out HO.out HNS.out HVAL.out HBEL.out HSZ.out (by rw[ea',eb'];have:=HX.out;omega) (by rw[ea'];omega) (by rw[eb'];omega) hown' hgrow);clear hown' hgrow ea' eb';go_wp2
    go_roundw
    case rel=>exact⟨k+1,x / 65536,by omega,by go_num,by go_num,HN⟩
    case measure=>simp[intOf];omega
   ·have hka:¬(k:Int)<(n:Int):=by omega
    have hkb:¬(k:Int)<(m:Int):=by omega
    go_wp2_with (at_builtin;refine wpList_append_own _ rfl (.tmp 50) (.tmp 52) 94 rfl w.heap.size 22 i0 (.int .u64 0) 1 8 Tryz.underlying94 hi hz0 hz1 hz2 rfl (by decide) _ _ _ rfl (HO.out.alloc _) ⟨wr.heap.size,0,none⟩ 1 1 [.int .u64 (c:Int)] rfl rfl ?e1 ?e2 ?e3 ?e4 ?e5 ?_)
    try (case e1=>exact cell_one_new _ _ _)
    try (case e2=>first | rfl | (intro u hu;simp at hu;subst hu;rfl))
    try (case e3=>unfold maxLen;omega)
    try (case e4=>omega)
    try (case e5=>have:=HSZ.out;first | omega | (simp;omega))
    intro v' w1 hown' hgrow _;obtain rfl:k=max n m:=by omega
    obtain⟨ho,hb'⟩:=push_rel HO.out HBEL.out (by have:=HSZ.out;omega) hown' hgrow;have R:=made_of (Nat.le_refl _) ho (by omega) (upd_lt HNS.out (by have:=HC.out;omega)) hb';rw[vd_upd,HVAL.out,vd_pad _ _ _ (by omega),vd_pad _ _ _ (by omega)]at R;have HR:=Lib.hid R;clear hown' hgrow ho hb' R;go_wp2;go_ret;exact HR.out
open Go.RowKit
theorem pow_split{s t:Nat}(h:s+t=64):2^s*2^t=18446744073709551616:=by rw[<- Nat.pow_add,h]
theorem cmb_up{p q s t:Nat}(hq:q<18446744073709551616)(h:s+t=64) :
  bits .or .u64 (IntKind.u64.wrap ((p:Int)*2^s)) ((q:Int) / 2^t)=((p*2^s%18446744073709551616+q / 2^t:Nat):Int):=by
 have hD:=pow_split h;have hT:0<2^t:=Nat.two_pow_pos t;have hqs:q / 2^t<2^s:=by rw[Nat.div_lt_iff_lt_mul hT,hD];exact hq
 have e1:IntKind.u64.wrap ((p:Int)*2^s)=((p*2^s%18446744073709551616:Nat):Int):=by
  rw[IntKind.wrap_u64];have:((p:Int)*2^s)=((p*2^s:Nat):Int):=by simp
  rw[this];omega
 have e2:((q:Int) / 2^t)=((q / 2^t:Nat):Int):=by simp
 have e3:p*2^s%18446744073709551616=2^s*(p%2^t):=by
  rw[<- hD,Nat.mul_comm p,Nat.mul_mod_mul_left]
 have hl:p*2^s%18446744073709551616<18446744073709551616:=Nat.mod_lt _ (by omega);have hr:q / 2^t<18446744073709551616:=Nat.lt_of_le_of_lt (Nat.div_le_self _ _) hq;rw[e1,e2,bits_or_u64_nat _ _ hl hr,e3,<- Nat.two_pow_add_eq_or_of_lt hqs]
theorem cmb_down{p q s t:Nat}(hp:p<18446744073709551616)(h:s+t=64) :
  bits .or .u64 ((p:Int) / 2^s) (IntKind.u64.wrap ((q:Int)*2^t))=((p / 2^s+q*2^t%18446744073709551616:Nat):Int):=by
 have hD:=pow_split h;have hS:0<2^s:=Nat.two_pow_pos s;have hps:p / 2^s<2^t:=by rw[Nat.div_lt_iff_lt_mul hS,Nat.mul_comm,hD];exact hp
 have e1:IntKind.u64.wrap ((q:Int)*2^t)=((q*2^t%18446744073709551616:Nat):Int):=by
  rw[IntKind.wrap_u64];have:((q:Int)*2^t)=((q*2^t:Nat):Int):=by simp
  rw[this];omega
 have e2:((p:Int) / 2^s)=((p / 2^s:Nat):Int):=by simp
 have e3:q*2^t%18446744073709551616=2^t*(q%2^s):=by
  rw[<- hD,Nat.mul_comm (2^s),Nat.mul_comm q,Nat.mul_mod_mul_left]
 have hl:q*2^t%18446744073709551616<18446744073709551616:=Nat.mod_lt _ (by omega);have hr:p / 2^s<18446744073709551616:=Nat.lt_of_le_of_lt (Nat.div_le_self _ _) hp;rw[e1,e2,bits_or_u64_nat _ _ hr hl,e3,Nat.or_comm,<- Nat.two_pow_add_eq_or_of_lt hps,Nat.add_comm]
theorem up_split{p s t:Nat}(h:s+t=64):p*2^s=p*2^s%18446744073709551616+18446744073709551616*(p / 2^t):=by
 have hD:=pow_split h;have hS:0<2^s:=Nat.two_pow_pos s;have e:p*2^s / 18446744073709551616=p / 2^t:=by
  rw[<- hD,Nat.mul_comm p,Nat.mul_div_mul_left _ _ hS]
 have:=Nat.div_add_mod (p*2^s) 18446744073709551616;rw[e]at this;omega
theorem cmb_lt{p q s t:Nat}(hq:q<18446744073709551616)(h:s+t=64):p*2^s%18446744073709551616+q / 2^t<18446744073709551616:=by
 have hD:=pow_split h;have hT:0<2^t:=Nat.two_pow_pos t;have hqs:q / 2^t<2^s:=by rw[Nat.div_lt_iff_lt_mul hT,hD];exact hq
 have e3:p*2^s%18446744073709551616=2^s*(p%2^t):=by
  rw[<- hD,Nat.mul_comm p,Nat.mul_mod_mul_left]
 have hm:p%2^t<2^t:=Nat.mod_lt _ hT;have:2^s*(p%2^t)+2^s<=2^s*2^t:=by
  rw[<- Nat.mul_succ];exact Nat.mul_le_mul_left _ hm
 omega
theorem n4_up(p0 p1 p2 p3:Nat){s t:Nat}(h:s+t=64) :
  n4 (p0*2^s%18446744073709551616+0 / 2^t) (p1*2^s%18446744073709551616+p0 / 2^t) (p2*2^s%18446744073709551616+p1 / 2^t) (p3*2^s%18446744073709551616+p2 / 2^t)
   + 115792089237316195423570985008687907853269984665640564039457584007913129639936*(p3 / 2^t)=n4 p0 p1 p2 p3*2^s:=by
 have h0:=up_split (p:=p0) h;have h1:=up_split (p:=p1) h;have h2:=up_split (p:=p2) h;have h3:=up_split (p:=p3) h;have e:n4 p0 p1 p2 p3*2^s=n4 (p0*2^s) (p1*2^s) (p2*2^s) (p3*2^s):=by unfold n4;grind
 rw[e,Nat.zero_div];unfold n4;generalize p0*2^s=c0 at *;generalize p1*2^s=c1 at *;generalize p2*2^s=c2 at *;generalize p3*2^s=c3 at *;omega
theorem n4_down(p0 p1 p2 p3 p4:Nat){s t:Nat}(h:s+t=64) :
  n4 (p0 / 2^s+p1*2^t%18446744073709551616) (p1 / 2^s+p2*2^t%18446744073709551616) (p2 / 2^s+p3*2^t%18446744073709551616) (p3 / 2^s+p4*2^t%18446744073709551616)
   = n4 p0 p1 p2 p3 / 2^s+6277101735386680763835789423207666416102355444464034512896*(p4*2^t%18446744073709551616):=by
 have hD:=pow_split h;have hS:0<2^s:=Nat.two_pow_pos s;have h1:=up_split (p:=p1) (s:=t) (t:=s) (by omega);have h2:=up_split (p:=p2) (s:=t) (t:=s) (by omega);have h3:=up_split (p:=p3) (s:=t) (t:=s) (by omega)
 -- the whole times 2^t,by parts
 have e:n4 p0 p1 p2 p3=p0+2^s*(p1*2^t+18446744073709551616*(p2*2^t)+340282366920938463463374607431768211456*(p3*2^t)):=by
  unfold n4;have:∀ p,18446744073709551616*p=2^s*(p*2^t):=fun p=>by rw[<- hD];grind
  have a1:=this p1;have a2:=this (18446744073709551616*p2);have a3:=this (340282366920938463463374607431768211456*p3);have b2:18446744073709551616*p2*2^t=18446744073709551616*(p2*2^t):=by grind
  have b3:340282366920938463463374607431768211456*p3*2^t=340282366920938463463374607431768211456*(p3*2^t):=by grind
  rw[b2]at a2;rw[b3]at a3;rw[Nat.mul_add,Nat.mul_add,<- a1,<- a2,<- a3];omega
 rw[e,Nat.add_mul_div_left _ _ hS];unfold n4;generalize p1*2^t=c1 at *;generalize p2*2^t=c2 at *;generalize p3*2^t=c3 at *;generalize p4*2^t=c4 at *;omega
open Go.RowKit
theorem part_neg(i:Int)(b:Nat)(h:i<0)(w:World):Calls Tryz.prog 130 #[.int .i64 i,.pointer (some ⟨b,0,none⟩)] w fun e w'=>e=.returned (.int .u64 0)/\w'=w:=by
 go_enter Tryz.func130,Tryz.ntmps130;go_wp2;go_ret;exact⟨rfl,rfl⟩
theorem part_at(i b:Nat)(v:Value)(h0:(0:Int)<=i)(h:(i:Int)<4)(w:World)(hc:w.cell? ⟨b,i,none⟩=some v):Calls Tryz.prog 130 #[.int .i64 i,.pointer (some ⟨b,0,none⟩)] w fun e w'=>e=.returned v/\w'=w:=by
 go_enter Tryz.func130,Tryz.ntmps130;go_wp2;go_ret;exact⟨rfl,rfl⟩
theorem region_still{P:Program}{id:Nat}{Q:Exit->Act->World->Prop}{a:Act}{w:World}{l:List Oper}(n:Nat)(hm:P.follows .mixedOrders=true)(hB:Region.lexTailB .any l.toArray n=true)
  (h:wpStill P l.toArray w.drew (fun a'=>wpList P l.toArray Q (l.drop n) a' w.drew) (l.take n) a):(Code.region id l.toArray true).wp P Q a w:=wp_region_still_tail n hm hB h
theorem shl_walk(k0 k1 k2 k3 a0 a1 a2 a3 pm p0 p1 p2 p3 s t:Nat)(wh jm j0 j1 j2 j3:Int)(h0:(0:Int)<=s)(h64:(s:Int)<64)
  (ht:IntKind.i64.wrap (64 - (s:Int))=(t:Int)) (ht64:(t:Int)<=64)
  (e0:IntKind.i64.wrap (-wh)=j0) (e1:IntKind.i64.wrap (1 - wh)=j1) (e2:IntKind.i64.wrap (2 - wh)=j2) (e3:IntKind.i64.wrap (3 - wh)=j3)
  (g0:IntKind.i64.wrap (j0 - 1)=jm) (g1:IntKind.i64.wrap (j1 - 1)=j0) (g2:IntKind.i64.wrap (j2 - 1)=j1) (g3:IntKind.i64.wrap (j3 - 1)=j2) (w:World)
  (hC:∀(b:Nat) (W:World),W.cell? ⟨b,0,none⟩=some (.int .u64 a0)->W.cell? ⟨b,1,none⟩=some (.int .u64 a1)->W.cell? ⟨b,2,none⟩=some (.int .u64 a2)->W.cell? ⟨b,3,none⟩=some (.int .u64 a3) ->
   (Calls Tryz.prog 130 #[.int .i64 jm,.pointer (some ⟨b,0,none⟩)] W fun e w'=>e=.returned (.int .u64 pm)/\w'=W) /\
   (Calls Tryz.prog 130 #[.int .i64 j0,.pointer (some ⟨b,0,none⟩)] W fun e w'=>e=.returned (.int .u64 p0)/\w'=W) /\
   (Calls Tryz.prog 130 #[.int .i64 j1,.pointer (some ⟨b,0,none⟩)] W fun e w'=>e=.returned (.int .u64 p1)/\w'=W) /\
   (Calls Tryz.prog 130 #[.int .i64 j2,.pointer (some ⟨b,0,none⟩)] W fun e w'=>e=.returned (.int .u64 p2)/\w'=W) /\
   (Calls Tryz.prog 130 #[.int .i64 j3,.pointer (some ⟨b,0,none⟩)] W fun e w'=>e=.returned (.int .u64 p3)/\w'=W))
  (hS:∀ w,Calls Tryz.prog 129 #[.agg #[.int .u64 k0,.int .u64 k1,.int .u64 k2,.int .u64 k3]] w fun e w'=>e=.returned (.tuple #[.int .i64 wh,.int .i64 s])/\Below w.heap.size w w') :
  Calls Tryz.prog 123 #[.agg #[.int .u64 k0,.int .u64 k1,.int .u64 k2,.int .u64 k3],.agg #[.int .u64 a0,.int .u64 a1,.int .u64 a2,.int .u64 a3]] w fun e w' =>
   e=.returned (.agg #[.int .u64 (bits .or .u64 (IntKind.u64.wrap ((p0:Int)*2^s)) ((pm:Int) / 2^t)),.int .u64 (bits .or .u64 (IntKind.u64.wrap ((p1:Int)*2^s)) ((p0:Int) / 2^t)),.int .u64 (bits .or .u64 (IntKind.u64.wrap ((p2:Int)*2^s)) ((p1:Int) / 2^t)),.int .u64 (bits .or .u64 (IntKind.u64.wrap ((p3:Int)*2^s)) ((p2:Int) / 2^t))])/\Below w.heap.size w w':=by
 have HC:=Lib.hid hC;clear hC;have G0:=Lib.hid g0;clear g0;have G1:=Lib.hid g1;clear g1;have G2:=Lib.hid g2;clear g2;have G3:=Lib.hid g3;clear g3;go_enter Tryz.func123,Tryz.ntmps123
 go_wp2_with fail
 refine(hS _).mono ?_;rintro e w1 ⟨rfl,hb⟩;obtain⟨x0,-,-⟩:=after1 (b:=w.heap.size+1) (i:=0) (v:=.int .u64 a0) hb (by simp) (by go_cell) (by go_cell);obtain⟨x1,-,-⟩:=after1 (b:=w.heap.size+1) (i:=1) (v:=.int .u64 a1) hb (by simp) (by go_cell) (by go_cell);obtain⟨x2,-,-⟩:=after1 (b:=w.heap.size+1) (i:=2) (v:=.int .u64 a2) hb (by simp) (by go_cell) (by go_cell);obtain⟨x3,-,-⟩:=after1 (b:=w.heap.size+1) (i:=3) (v:=.int .u64 a3) hb (by simp) (by go_cell) (by go_cell);obtain⟨⟨q0,q1,q2,q3⟩,⟨f0,f1,f2,f3⟩,hz,hb'⟩:=after4 (w:=w) (B:=w.heap.size) (w.heap.size+1+1) hb (by go_grown) (by simp;omega) (by simp) (by go_cell) (by go_cell) (by go_cell) (by go_cell) (by go_cell) (by go_cell) (by go_cell) (by go_cell);clear hb;have hz1:w.heap.size+1<w1.heap.size:=by omega
 go_wp2;refine wp_loop_rounds 5 ?_;rw[rounds_succ];go_wp2;refine region_still 19 (by kernel_rfl) (by kernel_rfl) ?_;simp only[List.take_succ_cons,List.take_zero,List.drop_succ_cons,List.drop_zero]
 repeat still_step
 still_call (HC.out (w.heap.size+1) _ (by go_cell) (by go_cell) (by go_cell) (by go_cell)).2.1
 have g:=G0.out
 repeat still_step
 clear g
 still_call (HC.out (w.heap.size+1) _ (by go_cell) (by go_cell) (by go_cell) (by go_cell)).1
 repeat still_step
 refine wpStill_nil ?_;go_wp2;rw[rounds_succ];go_wp2;refine region_still 19 (by kernel_rfl) (by kernel_rfl) ?_;simp only[List.take_succ_cons,List.take_zero,List.drop_succ_cons,List.drop_zero]
 repeat still_step
 still_call (HC.out (w.heap.size+1) _ (by go_cell) (by go_cell) (by go_cell) (by go_cell)).2.2.1
 have g:=G1.out
 repeat still_step
 clear g
 still_call (HC.out (w.heap.size+1) _ (by go_cell) (by go_cell) (by go_cell) (by go_cell)).2.1
 repeat still_step
 refine wpStill_nil ?_;go_wp2;rw[rounds_succ];go_wp2;refine region_still 19 (by kernel_rfl) (by kernel_rfl) ?_;simp only[List.take_succ_cons,List.take_zero,List.drop_succ_cons,List.drop_zero]
 repeat still_step
 still_call (HC.out (w.heap.size+1) _ (by go_cell) (by go_cell) (by go_cell) (by go_cell)).2.2.2.1
 have g:=G2.out
 repeat still_step
 clear g
 still_call (HC.out (w.heap.size+1) _ (by go_cell) (by go_cell) (by go_cell) (by go_cell)).2.2.1
 repeat still_step
 refine wpStill_nil ?_;go_wp2;rw[rounds_succ];go_wp2;refine region_still 19 (by kernel_rfl) (by kernel_rfl) ?_;simp only[List.take_succ_cons,List.take_zero,List.drop_succ_cons,List.drop_zero]
 repeat still_step
 still_call (HC.out (w.heap.size+1) _ (by go_cell) (by go_cell) (by go_cell) (by go_cell)).2.2.2.2
 have g:=G3.out
 repeat still_step
 clear g
 still_call (HC.out (w.heap.size+1) _ (by go_cell) (by go_cell) (by go_cell) (by go_cell)).2.2.2.1
 repeat still_step
 refine wpStill_nil ?_;go_wp2;rw[rounds_succ];go_wp2;refine bodyPost_ret (by simp[results,Tryz.results123,go_sem,hz,q0,q1,q2,q3];try rfl) rfl ⟨rfl,?_⟩;go_grown
open Go.RowKit
def wpt(d:Nat->Nat)(p:Nat):Nat->Nat
 | 0=>0
 | k+1=>wpt d p k+if k / 4=p then d k*2^(16*(k%4))else 0
def mm(p k:Nat):Nat:=min 4 (k - 4*p)
theorem wpt_lt{d:Nat->Nat}(p:Nat):∀ k,(∀ j,j<k->d j<65536)->wpt d p k<2^(16*mm p k)
 | 0,_=>by simp[wpt,Nat.two_pow_pos]
 | k+1,h=>by
  have ih:=wpt_lt p k (fun j hj=>h j (by omega));have hd:=h k (by omega);unfold wpt;by_cases e:k / 4=p
  ·rw[if_pos e]
   have m0:mm p k=k%4:=by unfold mm;omega
   have m1:mm p (k+1)=k%4+1:=by unfold mm;omega
   rw[m0]at ih;rw[m1,show 16*(k%4+1)=16*(k%4)+16 by omega,Nat.pow_add];have h2:d k*2^(16*(k%4))<=65535*2^(16*(k%4)):=Nat.mul_le_mul_right _ (by omega);have e16:(2:Nat)^16=65536:=by rfl
   rw[e16];omega
  ·rw[if_neg e,Nat.add_zero]
   exact Nat.lt_of_lt_of_le ih (Nat.pow_le_pow_right (by omega) (by unfold mm;omega))
theorem wpt_64{d:Nat->Nat}(p k:Nat)(h:∀ j,j<k->d j<65536):wpt d p k<18446744073709551616:=by
 refine Nat.lt_of_lt_of_le (wpt_lt p k h) ?_;have e:18446744073709551616=2^64:=by rfl
 rw[e];exact Nat.pow_le_pow_right (by omega) (by unfold mm;omega)
theorem wlow{d:Nat->Nat}{k p s:Nat}(hp:k / 4=p)(hs:16*(k%4)=s)(h:∀ j,j<k->d j<65536):wpt d p k<2^s:=by
 have:=wpt_lt (d:=d) p k h;rwa [show mm p k=k%4 by unfold mm;omega,hs]at this
theorem wpt_n4{d:Nat->Nat}:∀ k,k<=16->n4 (wpt d 0 k) (wpt d 1 k) (wpt d 2 k) (wpt d 3 k)=vd d k
 | 0,_=>rfl
 | k+1,h=>by
  have ih:=wpt_n4 (d:=d) k (by omega);have e:65536^k*d k=2^(64*(k / 4))*(d k*2^(16*(k%4))):=by
   rw[show(65536:Nat)=2^16 by rfl,<- Nat.pow_mul,show 16*k=64*(k / 4)+16*(k%4) by omega,Nat.pow_add,Nat.mul_assoc,Nat.mul_comm (2^(16*(k%4)))]
  simp only[wpt,vd];rw[e,<- ih];generalize d k*2^(16*(k%4))=y;have c:k / 4=0\/k / 4=1\/k / 4=2\/k / 4=3:=by omega
  rcases c with c | c | c | c
  ·rw[c,show(2:Nat)^(64*0)=1 by rfl];simp only[n4];simp;omega
  ·rw[c,show(2:Nat)^(64*1)=18446744073709551616 by rfl];simp only[n4];simp;omega
  ·rw[c,show(2:Nat)^(64*2)=340282366920938463463374607431768211456 by rfl];simp only[n4];simp;omega
  ·rw[c,show(2:Nat)^(64*3)=6277101735386680763835789423207666416102355444464034512896 by rfl];simp only[n4];simp;omega
theorem wpt_all{d:Nat->Nat}{K:Nat}(hK:K<=16)(h:∀ j,j<K->d j<65536):wpt d 0 K<18446744073709551616/\wpt d 1 K<18446744073709551616/\wpt d 2 K<18446744073709551616/\wpt d 3 K<18446744073709551616/\n4 (wpt d 0 K) (wpt d 1 K) (wpt d 2 K) (wpt d 3 K)=vd d K :=
 ⟨wpt_64 _ _ h,wpt_64 _ _ h,wpt_64 _ _ h,wpt_64 _ _ h,wpt_n4 K hK⟩
theorem or_up(x y s:Nat)(hx:x<2^s)(hy:y<65536)(hs:s<=48):bits .or .u64 (x:Int) (IntKind.u64.wrap ((y:Int)*2^s))=((x+y*2^s:Nat):Int):=by
 have h1:2^s<=2^48:=Nat.pow_le_pow_right (by omega) hs;have h2:y*2^s<=65535*2^48:=Nat.mul_le_mul (by omega) h1;have h3:y*2^s<18446744073709551616:=by omega
 have e:IntKind.u64.wrap ((y:Int)*2^s)=((y*2^s:Nat):Int):=by
  rw[IntKind.wrap_u64];have e0:(y:Int)*2^s=((y*2^s:Nat):Int):=by simp
  rw[e0];omega
 rw[e,bits_or_u64_nat x (y*2^s) (by omega) h3];have:=Nat.two_pow_add_eq_or_of_lt hx y;rw[Nat.or_comm,Nat.mul_comm y,<- this,Nat.add_comm]
def rw4(d:Nat->Nat)(k:Nat):Array Value:=#[.int .u64 (wpt d 0 k:Nat),.int .u64 (wpt d 1 k:Nat),.int .u64 (wpt d 2 k:Nat),.int .u64 (wpt d 3 k:Nat)]
theorem rw4_at(d:Nat->Nat)(k p:Nat)(h:p<4):(rw4 d k)[p]?=some (.int .u64 (wpt d p k:Nat)):=by
 have c:p=0\/p=1\/p=2\/p=3:=by omega
 rcases c with rfl | rfl | rfl | rfl <;> rfl
theorem rw4_one(d:Nat->Nat)(k:Nat):(rw4 d k).all (·.oneCell')=true:=by
 simp[rw4,Value.oneCell']
theorem rw4_set(d:Nat->Nat)(k p s:Nat)(hk:k<16)(hp:k / 4=p)(hs:16*(k%4)=s):(rw4 d k).setIfInBounds p (.int .u64 ((wpt d p k+d k*2^s:Nat):Int))=rw4 d (k+1):=by
 have c:p=0\/p=1\/p=2\/p=3:=by omega
 subst hs;rcases c with rfl | rfl | rfl | rfl <;> simp[rw4,wpt,hp]
theorem rw4_wv(d:Nat->Nat)(K:Nat)(hK:K<=16)(h:∀ j,j<K->d j<65536):Value.agg (rw4 d K)=wv (vd d K):=by
 obtain⟨h0,h1,h2,h3,e⟩:=wpt_all hK h;rw[<- e,wv_n4 h0 h1 h2 h3];rfl
theorem heap2(w:World)(A B:Obj):((w.alloc A).alloc B).heap[w.heap.size]?=some A/\((w.alloc A).alloc B).heap[w.heap.size+1]?=some B:=⟨heap_alloc2_old _ _ _,heap_alloc2_new _ _ _⟩
theorem word_walk(b cp n:Nat)(d:Nat->Nat)(hn:(n:Int)<=1000000)(hd:∀ j,j<n->d j<65536)(w:World)(hD:Dg w b n d) :
  Calls Tryz.prog 86 #[.slice (some ⟨b,0,none⟩) n cp] w fun e w'=>e=.returned (.agg (rw4 d (min 16 n)))/\Below w.heap.size w w':=by
 have HD:=Lib.hid hd;clear hd;have HDG:=Lib.hid hD;clear hD;go_enter Tryz.func86,Tryz.ntmps86;go_wp2
 go_loopw [4] (fun i wr=>∃ k:Nat,k<=min 16 n/\i=.int .i64 k/\Hid (wr.heap[w.heap.size]?=some (.cells (rw4 d 0) 24 (0,0))/\wr.heap[w.heap.size+1]?=some (.cells (rw4 d k) 24 (0,0))/\Below w.heap.size w wr)) (fun i _=>16 - (intOf i).toNat)
 case atStart=>exact⟨0,by omega,rfl,Lib.hid ⟨(heap2 _ _ _).1,(heap2 _ _ _).2,by go_grown⟩⟩
 case round =>
  obtain⟨k,hk,rfl,H⟩:=hrel;have hk0:(0:Int)<=k:=by omega
  have hk1:(k:Int)<=16:=by omega
  by_cases hlt:k<min 16 n
  ·have h16:(k:Int)<16:=by omega
   have hkn:(k:Int)<(n:Int):=by omega
   obtain⟨p,hp⟩:∃ p:Nat,(k:Int) / 4=(p:Int):=⟨k / 4,by omega⟩
   obtain⟨s,hs⟩:∃ s:Nat,16*((k:Int)%4)=(s:Int):=⟨16*(k%4),by omega⟩
   have hp0:(0:Int)<=p:=by omega
   have hp1:(p:Int)<4:=by omega
   have hs0:(0:Int)<=s:=by omega
   have hs1:(s:Int)<64:=by omega
   have cd:wr.cell? ⟨b,k,none⟩=some (.int .u64 (d k:Nat)):=(H.out.2.2.cell (p:=⟨b,k,none⟩) HDG.out.1).trans (HDG.out.2 k (by omega));have ca:wr.cell? ⟨w.heap.size+1,p,none⟩=some (.int .u64 (wpt d p k:Nat)):=(cell_of_row wr _ p _ _ _ H.out.2.1).trans (rw4_at d k p (by omega));have cf:wr.frozen? ⟨w.heap.size+1,p,none⟩=false:=frozen_of_row wr _ p _ _ H.out.2.1;have hv:=or_up (wpt d p k) (d k) s (wlow (by omega) (by omega) (fun j hj=>HD.out j (by omega))) (HD.out k (by omega)) (by omega);have HV:=Lib.hid hv;clear hv;go_wp2;refine region_quiet_tail 17 (fun w'=>∃ n,w'=wr.drewN n) (by kernel_rfl) (by kernel_rfl) ⟨1,rfl⟩ ?_;simp only[List.take_succ_cons,List.take_zero,List.drop_succ_cons,List.drop_zero]
   repeat (go_big_quiet_step (fail))
   with_reducible refine wpQuiet_nil ?_
   rintro _ ⟨nq,rfl⟩;go_wp2
   go_roundw
   case rel =>
    refine⟨k+1,by omega,by go_num,Lib.hid ⟨(heap_setCell_other (wr.drewN nq) _ _ _ (by simp)).trans H.out.1,?_,(below_drewN H.out.2.2 nq).setCell (by simp) _⟩⟩;rw[HV.out,heap_setCell_same (wr.drewN nq) _ _ _ _ _ H.out.2.1,rw4_set d k p s (by omega) (by omega) (by omega)]
   case measure=>simp[intOf];omega
  ·obtain rfl:k=min 16 n:=by omega
   have hi:(Tryz.prog.info? 24).map (·.size)=some 4:=by kernel_rfl
   have HI:=Lib.hid hi;clear hi;generalize hK:min 16 n=K at *;by_cases h16:K=16
   ·have hx:decide ((K:Int)<16)=false:=by rw[decide_eq_false_iff_not];omega
    have HK:=Lib.hid hK;clear hK h16
    go_wp2_with (first | (refine wpList_load_row rfl 24 _ rfl (w.heap.size+1) rfl 24 _ (0,0) _ H.out.2.1 Tryz.underlying24 rfl HI.out ?_) | (refine wpList_store_row rfl 24 _ _ rfl w.heap.size (rw4 d K) rfl rfl 24 (rw4 d 0) H.out.1 HI.out rfl (rw4_one _ _) ?_))
    refine bodyPost_ret (v:=.agg (rw4 d K)) (results_cell_row (p:=2) rfl _ _ w.heap.size 24 _ (0,0) _ rfl (setRow_heap _ _ _ _ _ _ H.out.1) Tryz.underlying24 rfl HI.out) rfl ⟨by rw[HK.out],below_setRow H.out.2.2 (Nat.le_refl _) _⟩
   ·have hx:decide ((K:Int)<16)=true:=by rw[decide_eq_true_iff];omega
    have hy:decide (K<n)=false:=by rw[decide_eq_false_iff_not];omega
    have HK:=Lib.hid hK;clear hK h16
    go_wp2_with (first | (refine wpList_load_row rfl 24 _ rfl (w.heap.size+1) rfl 24 _ (0,0) _ H.out.2.1 Tryz.underlying24 rfl HI.out ?_) | (refine wpList_store_row rfl 24 _ _ rfl w.heap.size (rw4 d K) rfl rfl 24 (rw4 d 0) H.out.1 HI.out rfl (rw4_one _ _) ?_))
    refine bodyPost_ret (v:=.agg (rw4 d K)) (results_cell_row (p:=2) rfl _ _ w.heap.size 24 _ (0,0) _ rfl (setRow_heap _ _ _ _ _ _ H.out.1) Tryz.underlying24 rfl HI.out) rfl ⟨by rw[HK.out],below_setRow H.out.2.2 (Nat.le_refl _) _⟩
theorem vd_low(d:Nat->Nat)(n:Nat):∀ m,n<=m->vd d m%65536^n=vd d n%65536^n:=by
 intro m hm
 induction m with
 | zero=>(obtain rfl:n=0:=by omega);rfl
 | succ m ih =>
  by_cases e:n=m+1
  ·rw[e]
  ·simp only[vd]
   rw[<- ih (by omega)];have:65536^m*d m=65536^n*(65536^(m - n)*d m):=by rw[<- Nat.mul_assoc,<- Nat.pow_add,show n+(m - n)=m by omega]
   rw[this,Nat.add_mul_mod_self_left]
-- WHAT Word COMES TO.
theorem word_any(b cp n:Nat)(d:Nat->Nat)(hn:(n:Int)<=1000000)(hd:∀ j,j<n->d j<65536)(w:World)(hD:Dg w b n d) :
  Calls Tryz.prog 86 #[.slice (some ⟨b,0,none⟩) n cp] w fun e w'=>e=.returned (wv (vd d n))/\Below w.heap.size w w':=by
 have h:=word_walk b cp n d hn hd w hD;rw[rw4_wv d (min 16 n) (by omega) (fun j hj=>hd j (by omega))]at h;by_cases h16:n<=16
 ·rw[Nat.min_eq_right h16]at h
  exact h
 ·rw[Nat.min_eq_left (by omega)]at h
  have e:wv (vd d 16)=wv (vd d n):=wv_congr (vd_low d 16 n (by omega)).symm;rw[e]at h;exact h
end Go.Proofs.YtpipdfgfoocifaaGreat
