/- bailiwicklaw01.WordRing answers true, called with any three words in any world. (Cut to what is reached, written closely: Minus · RDivNum · RDiv · Ring · Lives · Alive · Rings.) -/
import Derived.Test.YthnckclbeecnmaaGreatP5
import Derived.Test.YthnckclbeecnmaaGreatP12
import Derived.Test.YthnckclbeecnmaaGreatP6
import Derived.Test.YthnckclbeecnmaaGreatP11
import Derived.Test.YthnckclbeecnmaaGreatP7
import Derived.Test.YthnckclbeecnmaaGreatP2
set_option linter.all false
set_option maxRecDepth 100000
set_option maxHeartbeats 8000000
namespace Go.Proofs.YthnckclbeecnmaaGreat
open Go.RowKit
def MinRel(w:World)(_n m k c:Nat)(da db:Nat->Nat)(v:Value)(wr:World):Prop :=
 c<=1/\∃ ns:Nat->Nat,wr.ownsRow w.heap.size 22 1 v k (dl ns k)/\(∀ j,j<k->ns j<65536)/\vd ns k+vd (pad db m) k=vd da k+65536^k*c/\Below w.heap.size w wr/\w.heap.size<wr.heap.size
theorem min_step{P N B A c d bk ak c':Nat}(h:N+B=A+P*c)(h1:d+(c+bk)=ak+65536*c'):N+P*d+(B+P*bk)=A+P*ak+P*65536*c':=by
 have e:=congrArg (P*·) h1;simp only[Nat.mul_add]at e;rw[<- Nat.mul_assoc]at e;omega
theorem min_next{w wr w1:World}{n m k c c' y:Nat}{da db ns:Nat->Nat}{v v' X:Value}(hown:wr.ownsRow w.heap.size 22 1 v k (dl ns k))(hns:∀ j,j<k->ns j<65536)
  (hv:vd ns k+vd (pad db m) k=vd da k+65536^k*c) (hb:Below w.heap.size w wr) (hz:w.heap.size<wr.heap.size) (hy:y<65536) (hc':c'<=1) (hx:y+(c+pad db m k)=da k+65536*c')
  (hown':w1.ownsRow w.heap.size 22 1 v' (k+1) (dl ns k++[.int .u64 (y:Nat)])) (hgrow:(wr.alloc (.cells #[X] 22)).grownBy w1 v.ownBlock) :
  MinRel w n m (k+1) c' da db v' w1:=by
 obtain⟨ho,hb'⟩:=push_rel hown hb (by omega) hown' hgrow;have hs:=hgrow.size;simp at hs;refine⟨hc',upd ns k y,ho,upd_lt hns hy,?_,hb',by omega⟩;rw[vd_upd,Nat.pow_succ];exact min_step hv hx
theorem min_end{P N B A c T:Nat}(h:N+B=A+P*c)(hc:c<=1)(hN:N<P)(hT:T<=A)(hB:B<=T):c=0:=by
 have:c=0\/c=1:=by omega
 rcases this with h0 | h0
 ·exact h0
 ·subst h0;omega
theorem vd_mono(d:Nat->Nat)(a:Nat):∀ e,vd d a<=vd d (a+e)
 | 0=>Nat.le_refl _
 | e+1=>Nat.le_trans (vd_mono d a e) (Nat.le_add_right _ _)
theorem pad_le(db:Nat->Nat)(m:Nat):∀ k,vd (pad db m) k<=vd db m
 | 0=>Nat.zero_le _
 | k+1=>by
  by_cases h:k+1<=m
  ·rw[vd_congr (e:=db) (fun j hj=>by simp only[pad];rw[if_pos (by omega)])]
   have h2:=vd_mono db (k+1) (m - (k+1));rwa [show k+1+(m - (k+1))=m by omega]at h2
  ·rw[vd_pad _ _ _ (by omega)];exact Nat.le_refl _
theorem vd_full{d:Nat->Nat}:∀ n m,(∀ j,n<=j->j<m->d j=0)->n<=m->vd d m=vd d n
 | n,0,_,h=>by rw[show n=0 by omega]
 | n,m+1,h0,h=>by
  by_cases e:n=m+1
  ·rw[e]
  ·rw[vd,vd_full n m (fun j h1 h2=>h0 j h1 (by omega)) (by omega),h0 m (by omega) (by omega)];omega
theorem vd_small{d:Nat->Nat}{n m:Nat}(h:vd d m<65536^n):∀ j,n<=j->j<m->d j=0:=fun j h1 h2=>by
 have h3:=vd_mono d (j+1) (m - (j+1));rw[show j+1+(m - (j+1))=m by omega,vd]at h3;have h4:65536^n<=65536^j:=Nat.pow_le_pow_right (by omega) h1;rcases Nat.eq_zero_or_pos (d j)with h5 | h5
 ·exact h5
 ·have h6:65536^j*1<=65536^j*d j:=Nat.mul_le_mul_left _ h5
  generalize 65536^j*d j=u at *;generalize 65536^j=v at *;generalize 65536^n=x at *;omega
theorem minus_any(ba ca bb cb n m:Nat)(da db:Nat->Nat)(hn0:0<n)(hn:(n:Int)<=1000000)(_hm:(m:Int)<=1000000)(ha:∀ j,j<n->da j<65536)(hb:∀ j,j<m->db j<65536)(hle:vd db m<=vd da n)(w:World)(hA:Dg w ba n da)(hB:Dg w bb m db) :
  Calls Tryz.prog 103 #[.slice (some ⟨ba,0,none⟩) n ca,.slice (some ⟨bb,0,none⟩) m cb] w (MkDg n (vd da n - vd db m) w):=by
 have Ha:=Lib.hid ha;clear ha;have Hb:=Lib.hid hb;clear hb;have HA:=Lib.hid hA;clear hA;have HB:=Lib.hid hB;clear hB;have HLE:=Lib.hid hle;clear hle;have HN0:=Lib.hid hn0;clear hn0;obtain⟨i0,hi,hz0,hz1,hz2⟩:=info_parts info22;go_enter Tryz.func103,Tryz.ntmps103;go_wp2
 go_loopw [5,6,7] (fun v cv i wr=>∃ k c:Nat,k<=n/\i=.int .i64 k/\cv=.int .u64 c/\Hid (MinRel w n m k c da db v wr)) (fun _ _ i _=>n - (intOf i).toNat)
 case atStart =>
  refine⟨0,0,by omega,rfl,rfl,Lib.hid ⟨by omega,da,?_,by omega,rfl,by go_grown,by simp⟩⟩;exact World.ownsRow_made (base:=w.heap.size) (e:=22) (size:=1) w #[] 0 (by simp) (by decide) (by simp)
 case round =>
  obtain⟨k,c,hk,rfl,rfl,H⟩:=hrel;have hk0:(0:Int)<=k:=by omega
  have hk1:(k:Int)<=1000000:=by omega
  obtain⟨hc,ns,hown,hns,hval,hbel,hsz⟩:=H.out;have hc0:(0:Int)<=c:=by omega
  have hc1:(c:Int)<=1:=by omega
  have HO:=Lib.hid hown;clear hown;have HNS:=Lib.hid hns;clear hns;have HVAL:=Lib.hid hval;clear hval;have HBEL:=Lib.hid hbel;clear hbel;have HSZ:=Lib.hid hsz;clear hsz;have HC:=Lib.hid hc;clear hc H;by_cases h1:k<n
  ·have hka:(k:Int)<(n:Int):=by omega
   have xa:((da k:Nat):Int)<=65535:=by have:=Ha.out k (by omega);omega
   have xa0:(0:Int)<=(da k:Nat):=by omega
   have ea:wr.cell? ⟨ba,k,none⟩=some (.int .u64 (da k:Nat)):=(HBEL.out.cell (p:=⟨ba,k,none⟩) HA.out.1).trans (HA.out.2 k (by omega));by_cases h2:k<m
   ·by_cases h3:da k<c+db k
    ·have hkb:(k:Int)<(m:Int):=by omega
     have xb:((db k:Nat):Int)<=65535:=by have:=Hb.out k (by omega);omega
     have xb0:(0:Int)<=(db k:Nat):=by omega
     have eb:wr.cell? ⟨bb,k,none⟩=some (.int .u64 (db k:Nat)):=(HBEL.out.cell (p:=⟨bb,k,none⟩) HB.out.1).trans (HB.out.2 k (by omega));have eb':pad db m k=db k:=by simp only[pad];rw[if_pos (by omega)]
     obtain⟨y,hy⟩:∃ y:Nat,(c:Int)+(db k:Nat)=(y:Int):=⟨c+db k,by omega⟩
     have hyc:y=c+pad db m k:=by rw[eb'];omega
     have HYC:=Lib.hid hyc;clear hyc eb';have hyb:(y:Int)<=65536:=by omega
     have hy0:(0:Int)<=y:=by omega
     have hlt:((da k:Nat):Int)<(y:Int):=by omega
     obtain⟨z,hz⟩:∃ z:Nat,((da k:Nat):Int)+65536 - (y:Int)=(z:Int):=⟨da k+65536 - y,by omega⟩
     have hzl:z<65536:=by omega
     have hzx:z+(c+pad db m k)=da k+65536*1:=by have:=HYC.out;omega
     have HZX:=Lib.hid hzx;clear hzx;have HZL:=Lib.hid hzl;clear hzl
     go_wp2_with (at_builtin;refine wpList_append_own _ rfl (.tmp 37) (.tmp 41) 94 rfl w.heap.size 22 i0 (.int .u64 0) 1 8 Tryz.underlying94 hi hz0 hz1 hz2 rfl (by decide) _ _ _ rfl (HO.out.alloc _) ⟨wr.heap.size,0,none⟩ 1 1 [.int .u64 (z:Int)] rfl rfl ?d111 ?d112 ?d113 ?d114 ?d115 ?_)
     try (case d111=>exact cell_one_new _ _ _)
     try (case d112=>first | rfl | (intro u hu;simp at hu;subst hu;rfl))
     try (case d113=>unfold maxLen;omega)
     try (case d114=>omega)
     try (case d115=>have:=HSZ.out;first | omega | (simp;omega))
     intro v' w1 hown' hgrow _;have HN:=Lib.hid (min_next (n:=n) (m:=m) (da:=da) (db:=db) HO.out HNS.out HVAL.out HBEL.out HSZ.out HZL.out (by omega) HZX.out hown' hgrow);clear hown' hgrow;go_wp2
     go_roundw
     case rel=>exact⟨k+1,1,by omega,by go_num,rfl,HN⟩
     case measure=>simp[intOf];omega
    ·have hkb:(k:Int)<(m:Int):=by omega
     have xb:((db k:Nat):Int)<=65535:=by have:=Hb.out k (by omega);omega
     have xb0:(0:Int)<=(db k:Nat):=by omega
     have eb:wr.cell? ⟨bb,k,none⟩=some (.int .u64 (db k:Nat)):=(HBEL.out.cell (p:=⟨bb,k,none⟩) HB.out.1).trans (HB.out.2 k (by omega));have eb':pad db m k=db k:=by simp only[pad];rw[if_pos (by omega)]
     obtain⟨y,hy⟩:∃ y:Nat,(c:Int)+(db k:Nat)=(y:Int):=⟨c+db k,by omega⟩
     have hyc:y=c+pad db m k:=by rw[eb'];omega
     have HYC:=Lib.hid hyc;clear hyc eb';have hyb:(y:Int)<=65536:=by omega
     have hy0:(0:Int)<=y:=by omega
     have hlt:¬((da k:Nat):Int)<(y:Int):=by omega
     obtain⟨z,hz⟩:∃ z:Nat,((da k:Nat):Int) - (y:Int)=(z:Int):=⟨da k - y,by omega⟩
     have hzl:z<65536:=by omega
     have hzx:z+(c+pad db m k)=da k+65536*0:=by have:=HYC.out;omega
     have HZX:=Lib.hid hzx;clear hzx;have HZL:=Lib.hid hzl;clear hzl
     go_wp2_with (at_builtin;refine wpList_append_own _ rfl (.tmp 37) (.tmp 41) 94 rfl w.heap.size 22 i0 (.int .u64 0) 1 8 Tryz.underlying94 hi hz0 hz1 hz2 rfl (by decide) _ _ _ rfl (HO.out.alloc _) ⟨wr.heap.size,0,none⟩ 1 1 [.int .u64 (z:Int)] rfl rfl ?d101 ?d102 ?d103 ?d104 ?d105 ?_)
     try (case d101=>exact cell_one_new _ _ _)
     try (case d102=>first | rfl | (intro u hu;simp at hu;subst hu;rfl))
     try (case d103=>unfold maxLen;omega)
     try (case d104=>omega)
     try (case d105=>have:=HSZ.out;first | omega | (simp;omega))
     intro v' w1 hown' hgrow _;have HN:=Lib.hid (min_next (n:=n) (m:=m) (da:=da) (db:=db) HO.out HNS.out HVAL.out HBEL.out HSZ.out HZL.out (by omega) HZX.out hown' hgrow);clear hown' hgrow;go_wp2
     go_roundw
     case rel=>exact⟨k+1,0,by omega,by go_num,rfl,HN⟩
     case measure=>simp[intOf];omega
   ·by_cases h3:da k<c
    ·have hkb:¬(k:Int)<(m:Int):=by omega
     have eb':pad db m k=0:=by simp only[pad];rw[if_neg (by omega)]
     obtain⟨y,hy⟩:∃ y:Nat,c=y:=⟨c,rfl⟩
     subst hy;have hyc:c=c+pad db m k:=by rw[eb'];omega
     have HYC:=Lib.hid hyc;clear hyc eb';have hyb:(c:Int)<=65536:=by omega
     have hy0:(0:Int)<=c:=by omega
     have hlt:((da k:Nat):Int)<(c:Int):=by omega
     obtain⟨z,hz⟩:∃ z:Nat,((da k:Nat):Int)+65536 - (c:Int)=(z:Int):=⟨da k+65536 - c,by omega⟩
     have hzl:z<65536:=by omega
     have hzx:z+(c+pad db m k)=da k+65536*1:=by have:=HYC.out;omega
     have HZX:=Lib.hid hzx;clear hzx;have HZL:=Lib.hid hzl;clear hzl
     go_wp2_with (at_builtin;refine wpList_append_own _ rfl (.tmp 37) (.tmp 41) 94 rfl w.heap.size 22 i0 (.int .u64 0) 1 8 Tryz.underlying94 hi hz0 hz1 hz2 rfl (by decide) _ _ _ rfl (HO.out.alloc _) ⟨wr.heap.size,0,none⟩ 1 1 [.int .u64 (z:Int)] rfl rfl ?d011 ?d012 ?d013 ?d014 ?d015 ?_)
     try (case d011=>exact cell_one_new _ _ _)
     try (case d012=>first | rfl | (intro u hu;simp at hu;subst hu;rfl))
     try (case d013=>unfold maxLen;omega)
     try (case d014=>omega)
     try (case d015=>have:=HSZ.out;first | omega | (simp;omega))
     intro v' w1 hown' hgrow _;have HN:=Lib.hid (min_next (n:=n) (m:=m) (da:=da) (db:=db) HO.out HNS.out HVAL.out HBEL.out HSZ.out HZL.out (by omega) HZX.out hown' hgrow);clear hown' hgrow;go_wp2
     go_roundw
     case rel=>exact⟨k+1,1,by omega,by go_num,rfl,HN⟩
     case measure=>simp[intOf];omega
    ·have hkb:¬(k:Int)<(m:Int):=by omega
     have eb':pad db m k=0:=by simp only[pad];rw[if_neg (by omega)]
     obtain⟨y,hy⟩:∃ y:Nat,c=y:=⟨c,rfl⟩
     subst hy;have hyc:c=c+pad db m k:=by rw[eb'];omega
     have HYC:=Lib.hid hyc;clear hyc eb';have hyb:(c:Int)<=65536:=by omega
     have hy0:(0:Int)<=c:=by omega
     have hlt:¬((da k:Nat):Int)<(c:Int):=by omega
     obtain⟨z,hz⟩:∃ z:Nat,((da k:Nat):Int) - (c:Int)=(z:Int):=⟨da k - c,by omega⟩
     have hzl:z<65536:=by omega
     have hzx:z+(c+pad db m k)=da k+65536*0:=by have:=HYC.out;omega
     have HZX:=Lib.hid hzx;clear hzx;have HZL:=Lib.hid hzl;clear hzl
     go_wp2_with (at_builtin;refine wpList_append_own _ rfl (.tmp 37) (.tmp 41) 94 rfl w.heap.size 22 i0 (.int .u64 0) 1 8 Tryz.underlying94 hi hz0 hz1 hz2 rfl (by decide) _ _ _ rfl (HO.out.alloc _) ⟨wr.heap.size,0,none⟩ 1 1 [.int .u64 (z:Int)] rfl rfl ?d001 ?d002 ?d003 ?d004 ?d005 ?_)
     try (case d001=>exact cell_one_new _ _ _)
     try (case d002=>first | rfl | (intro u hu;simp at hu;subst hu;rfl))
     try (case d003=>unfold maxLen;omega)
     try (case d004=>omega)
     try (case d005=>have:=HSZ.out;first | omega | (simp;omega))
     intro v' w1 hown' hgrow _;have HN:=Lib.hid (min_next (n:=n) (m:=m) (da:=da) (db:=db) HO.out HNS.out HVAL.out HBEL.out HSZ.out HZL.out (by omega) HZX.out hown' hgrow);clear hown' hgrow;go_wp2
     go_roundw
     case rel=>exact⟨k+1,0,by omega,by go_num,rfl,HN⟩
     case measure=>simp[intOf];omega
  ·have hka:¬(k:Int)<(n:Int):=by omega
   obtain rfl:k=n:=by omega
   have hc2:=min_end HVAL.out HC.out (vd_lt HNS.out) HLE.out (pad_le db m k);have R:=made_of (Nat.le_refl _) HO.out HN0.out HNS.out HBEL.out;have hpe:vd (pad db m) k=vd db m:=by
    by_cases q:m<=k
    ·exact vd_pad _ _ _ q
    ·have h5:=vd_small (d:=db) (n:=k) (m:=m) (Nat.lt_of_le_of_lt HLE.out (vd_lt Ha.out))
     rw[vd_full (d:=db) k m h5 (by omega)];exact vd_congr (fun j hj=>by simp only[pad];rw[if_pos (by omega)])
   have hfin:vd ns k=vd da k - vd db m:=by have:=HVAL.out;rw[hc2,hpe]at this;omega
   rw[hfin]at R;have HR:=Lib.hid R;clear R hfin hpe hc2;go_wp2;go_ret;exact HR.out
open Go.RowKit
def below1(x:Nat)(d:Nat->Nat)(j:Nat):Nat:=if j=0 then x else d (j - 1)
theorem vd_below1(x:Nat)(d:Nat->Nat):∀ n,vd (below1 x d) (n+1)=x+65536*vd d n
 | 0=>by simp[vd,below1]
 | n+1=>by
  rw[vd,vd_below1 x d n,vd,Nat.mul_add,<- Nat.mul_assoc,Nat.pow_succ,Nat.mul_comm (65536^n) 65536];simp only[below1];rw[if_neg (by omega),Nat.add_sub_cancel,Nat.add_assoc]
theorem below1_lt{x n:Nat}{d:Nat->Nat}(hx:x<65536)(hd:∀ j,j<n->d j<65536):∀ j,j<n+1->below1 x d j<65536:=fun j hj=>by
 unfold below1;split
 ·exact hx
 ·exact hd _ (by omega)
theorem dl_below1(x:Nat)(d:Nat->Nat)(n:Nat):Value.int .u64 (x:Nat)::dl d n=dl (below1 x d) (1+n):=by
 unfold dl;rw[Nat.add_comm 1 n,List.range_succ_eq_map,List.map_cons,List.map_map];rfl
structure DivR (w:World) (n m i c:Nat) (da q:Nat->Nat) (D:Nat) (Q g nr:Nat) (dr:Nat->Nat) (wr:World):Prop where
 old:Below w.heap.size w wr
 rest:Dg wr g nr dr
 apart:w.heap.size<g
 hQ:Q=w.heap.size
 restl:∀ j,j<nr->dr j<65536
 long:nr<=m+1
 out:OutAt wr Q n q
 outl:∀ j,j<n->q j<65536
 todo:∀ j,j<i->q j=0
 bits:q i%2^c=0
 sum:vd q n*D+(vd da i+65536^i*vd dr nr)=vd da n
 less:vd dr nr<2^c*D
theorem OutAt.below{wr w':World}{B L:Nat}{o:Nat->Nat}(h:OutAt wr B L o)(hb:Below wr.heap.size wr w'):OutAt w' B L o :=
 ⟨Nat.lt_of_lt_of_le h.1 hb.size,fun j hj=>⟨(hb.cell (p:=⟨B,j,none⟩) h.1).trans (h.2 j hj).1,(hb.frozen (p:=⟨B,j,none⟩) h.1).trans (h.2 j hj).2⟩⟩
theorem div_no{r c D:Nat}(h:¬2^c*D<=r):r<2^c*D:=by omega
theorem bits_half{x c:Nat}(h:x%2^(c+1)=0):x%2^c=0:=by
 rw[Nat.pow_succ]at h;have h1:x%(2^c*2)%2^c=x%2^c:=Nat.mod_mul_right_mod _ _ _;rw[h,Nat.zero_mod]at h1;exact h1.symm
theorem bits_more{x c:Nat}(h:x%2^(c+1)=0):(x+2^c)%2^c=0:=by rw[Nat.add_mod_right];exact bits_half h
theorem bits_room{x c:Nat}(h:x%2^(c+1)=0)(hx:x<65536)(hc:c<16):x+2^c<65536:=by
 have hp:=Nat.two_pow_pos c;obtain⟨k,hk⟩:=Nat.dvd_of_mod_eq_zero h;have hd:(65536:Nat)=2^(c+1)*2^(15 - c):=by rw[<- Nat.pow_add,show c+1+(15 - c)=16 by omega]
 have hk2:k<2^(15 - c):=by
  rw[hk,hd]at hx;exact Nat.lt_of_mul_lt_mul_left hx
 have h3:2^(c+1)*(k+1)<=2^(c+1)*2^(15 - c):=Nat.mul_le_mul_left _ hk2;rw[<- hd,Nat.mul_add,<- hk,Nat.pow_succ]at h3;omega
theorem bits_or_up{x c:Nat}(h:x%2^(c+1)=0)(hx:x<65536)(hc:c<16):bits .or .u64 (x:Int) (2^c)=((x+2^c:Nat):Int):=by
 have hp:2^c<65536:=by
  rw[show(65536:Nat)=2^16 by rfl];exact Nat.pow_lt_pow_right (by omega) hc
 have h1:=bits_or_u64_nat x (2^c) (by omega) (by omega);have e0:((2^c:Nat):Int)=2^c:=by simp
 rw[e0]at h1;rw[h1];congr 1;obtain⟨k,hk⟩:=Nat.dvd_of_mod_eq_zero h;rw[hk,<- Nat.two_pow_add_eq_or_of_lt (Nat.pow_lt_pow_right (by omega) (Nat.lt_succ_self c))]
theorem div_sum{V q r i' R D A P t D':Nat}(h:q*D+(A+P*r)=V)(hr:r=R+D')(hD':D'=t*D)(hi:i'=q+P*t):i'*D+(A+P*R)=V:=by
 subst hi hD' hr;rw[<- h];grind
theorem DivR.zero{w wr:World}{n m i c D Q g nr:Nat}{da q dr:Nat->Nat}(h:DivR w n m i (c+1) da q D Q g nr dr wr){w':World}(hb:Below wr.heap.size wr w')(hl:¬2^c*D<=vd dr nr):DivR w n m i c da q D Q g nr dr w' :=
 ⟨h.old.trans (hb.mono h.old.size),h.rest.below hb,h.apart,h.hQ,h.restl,h.long,h.out.below hb,h.outl,h.todo,bits_half h.bits,h.sum,div_no hl⟩
theorem DivR.one{w wr:World}{n m i c D Q g nr:Nat}{da q dr:Nat->Nat}(h:DivR w n m i (c+1) da q D Q g nr dr wr){w':World}{g':Nat}{dr':Nat->Nat}(hi:i<n)(hc:c<16)(hb:Below wr.heap.size wr w')(hl:2^c*D<=vd dr nr)
  (hr:Dg w' g' nr dr') (hg:wr.heap.size<=g') (hrl:∀ j,j<nr->dr' j<65536) (hv:vd dr' nr=vd dr nr - 2^c*D) :
  DivR w n m i c da (upd q i (q i+2^c)) D Q g' nr dr' (w'.setCell ⟨Q,i,none⟩ (.int .u64 ((q i+2^c:Nat):Int))):=by
 have hlt:=h.out.1;have hroom:=bits_room h.bits (h.outl i hi) hc;have hq:=vd_set q i (q i+2^c) n hi;have hQg:g'≠Q:=by omega
 refine⟨(h.old.trans (hb.mono h.old.size)).setCell (by show w.heap.size<=Q;rw[h.hQ];exact Nat.le_refl _) _,⟨by simpa using hr.1,fun j hj=>?_⟩,by have:=h.old.size;have:=h.hQ;omega,h.hQ,hrl,h.long,?_,fun j hj=>?_,fun j hj=>?_,?_,?_,?_⟩
 ·rw[World.cell?_setCell_other _ _ _ _ (fun e=>hQg (congrArg Addr.block e).symm)];exact hr.2 j hj
 ·exact(h.out.below hb).set i _ hi
 ·unfold upd;split
  ·exact hroom
  ·exact h.outl j hj
 ·unfold upd;rw[if_neg (by omega)];exact h.todo j hj
 ·simp only[upd];rw[if_pos trivial];exact bits_more h.bits
 ·refine div_sum h.sum (r:=vd dr nr) (R:=vd dr' nr) (D':=2^c*D) (t:=2^c) (by omega) rfl ?_
  rw[Nat.mul_add]at hq;omega
 ·rw[hv]
  have h1:=h.less;rw[Nat.pow_succ,Nat.mul_comm (2^c) 2,Nat.mul_assoc]at h1;omega
open Go.RowKit
theorem own_one(w:World)(x:Nat):(w.alloc (.cells #[.int .u64 (x:Nat)] 22)).ownsRow w.heap.size 22 1 (.slice (some ⟨w.heap.size,0,none⟩) 1 1) 1 [.int .u64 (x:Nat)] :=
 ⟨by simp,.inr ⟨w.heap.size,1,#[.int .u64 (x:Nat)],rfl,Nat.le_refl _,heap_alloc_new _ _,Nat.le_refl _,by unfold maxLen;omega,by simp,by simp⟩⟩
theorem own_dg{w:World}{base k:Nat}{v:Value}{d:Nat->Nat}(h:w.ownsRow base 22 1 v k (dl d k))(hk:0<k):∃ g cap,v=.slice (some ⟨g,0,none⟩) k cap/\base<=g/\k<=cap/\Dg w g k d:=by
 obtain⟨-,h1⟩:=h;rcases h1 with⟨-,h0⟩ | ⟨g,cap,cur,rfl,hg,hc,hnc,hm,hcs,ht⟩
 ·omega
 ·refine⟨g,cap,rfl,hg,hnc,(Array.getElem?_eq_some_iff.1 hc).1,fun j hj=>?_⟩
  rw[cell_of_row _ _ _ _ _ _ hc,<- dl_at d k j hj,<- ht];simp only[Nat.mul_one,List.getElem?_take,hj,if_true];simp
theorem slice_head(g len cap h:Nat)(hh:(h:Int)+1<=cap)(w:World):(Instr.slice 94 (.slice (some ⟨g,0,none⟩) len cap) none (some (.int .i64 ((h:Int)+1))) none).run Tryz.prog w=.ok (.slice (some ⟨g,0,none⟩) (h+1) cap) w:=by
 have hsz:(sizeOf (Tryz.prog.elem 94)).run Tryz.prog w=.ok 1 w:=by kernel_rfl
 rw[run_slice_h w 94 (some ⟨g,0,none⟩) len cap (by kernel_rfl) .i64 _ (by omega) hh,hsz];simp only[Result.andThen,sliced];rw[show((h:Int)+1).toNat=h+1 by omega];simp[Addr.add]
theorem div_open{w wr w1:World}{n m i D Q g nr g' nr':Nat}{da q dr:Nat->Nat}(h:DivR w n m (i+1) 0 da q D Q g nr dr wr)(hb:Below wr.heap.size wr w1)(hg:wr.heap.size<=g')(hr:Dg w1 g' nr' (below1 (da i) dr))(hda:da i<65536)(hD:D<=65536^m)
  (hn:nr'=1+nr\/nr'=m+1/\nr'<=1+nr) (hl:nr'<=m+1):DivR w n m i 16 da q D Q g' nr' (below1 (da i) dr) w1:=by
 have hlt:=h.out.1;have hless:=h.less;rw[Nat.pow_zero,Nat.one_mul]at hless;have hv:vd (below1 (da i) dr) (1+nr)=da i+65536*vd dr nr:=by rw[Nat.add_comm 1 nr];exact vd_below1 _ _ _
 have hlim:da i+65536*vd dr nr<65536*D:=by omega
 have hv2:vd (below1 (da i) dr) nr'=da i+65536*vd dr nr:=by
  rcases hn with rfl | ⟨rfl,hle⟩
  ·exact hv
  ·rw[<- hv]
   refine(vd_full (m+1) (1+nr) (vd_small ?_) hle).symm;rw[hv,Nat.pow_succ,Nat.mul_comm (65536^m)];exact Nat.lt_of_lt_of_le hlim (Nat.mul_le_mul_left _ hD)
 have hle2:nr'<=nr+1:=by rcases hn with rfl | ⟨-,h⟩ <;> omega
 refine⟨h.old.trans (hb.mono h.old.size),hr,by have:=h.old.size;have:=h.hQ;omega,h.hQ,fun j hj=>below1_lt hda h.restl j (by omega),hl,h.out.below hb,h.outl,fun j hj=>h.todo j (by omega),by rw[h.todo i (by omega)],?_,?_⟩
 ·have hs:=h.sum
  rw[hv2,<- hs];simp only[vd];rw[Nat.mul_add,Nat.pow_succ,Nat.mul_assoc,Nat.add_assoc (vd da i)]
 ·rw[hv2];exact hlim
theorem dg_one(w:World)(x:Nat):Dg (w.alloc (.cells #[.int .u64 (x:Nat)] 22)) w.heap.size 1 (fun _=>x) :=
 ⟨by simp,fun j hj=>by obtain rfl:j=0:=(by omega);exact(cell_of_row _ _ 0 _ _ _ (heap_alloc_new _ _)).trans rfl⟩
theorem news_dl{w:World}{g nr:Nat}{dr:Nat->Nat}(h:Dg w g nr dr):∀ j u,(dl dr nr)[j]?=some u->w.cell? ((⟨g,0,none⟩:Addr).add j)=some u:=fun j u hj=>by
 have hj2:j<nr:=by
  have:=(List.getElem?_eq_some_iff.1 hj).1;rwa [dl_len]at this
 rw[dl_at _ _ _ hj2]at hj;cases hj;have h:=h.2 j hj2;cases j with
 | zero=>simpa[Addr.add]using h
 | succ j=>simpa[Addr.add]using h
theorem one_dl(dr:Nat->Nat)(nr:Nat):∀ u∈dl dr nr,u.oneCell'=true:=fun u hu=>by
 unfold dl at hu;rw[List.mem_map]at hu;obtain⟨j,-,rfl⟩:=hu;rfl
def DivPostR(n m:Nat)(A D:Nat)(w:World)(e:Ending)(w':World):Prop :=
 ∃(Q g nr cap:Nat) (q dr:Nat->Nat),e=.returned (.tuple #[.slice (some ⟨Q,0,none⟩) n n,.slice (some ⟨g,0,none⟩) nr cap])/\Dg w' Q n q/\Dg w' g nr dr/\nr<=m+1/\(∀ j,j<n->q j<65536)/\(∀ j,j<nr->dr j<65536)/\vd q n=A / D/\vd dr nr=A%D/\Below w.heap.size w w'
theorem div_done{w wr:World}{n m D Q g nr:Nat}{da q dr:Nat->Nat}(h:DivR w n m 0 0 da q D Q g nr dr wr):vd q n=vd da n / D/\vd dr nr=vd da n%D:=by
 have h1:=h.sum;have h2:=h.less;simp only[vd,Nat.pow_zero,Nat.one_mul,Nat.zero_add]at h1 h2;constructor
 ·rw[<- h1,Nat.add_comm,Nat.mul_comm,Nat.add_mul_div_left _ _ (by omega),Nat.div_eq_of_lt h2,Nat.zero_add]
 ·rw[<- h1,Nat.add_comm,Nat.mul_comm,Nat.add_mul_mod_self_left,Nat.mod_eq_of_lt h2]
theorem divide_ref(ba ca bb cb n m:Nat)(da db:Nat->Nat)(hn:(n:Int)<=1000)(hm:(m:Int)<=1000)(ha:∀ j,j<n->da j<65536)(hb:∀ j,j<m->db j<65536)(hD:0<vd db m)(w:World)(hA:Dg w ba n da)(hB:Dg w bb m db) :
  Calls Tryz.prog 87 #[.slice (some ⟨ba,0,none⟩) n ca,.slice (some ⟨bb,0,none⟩) m cb] w (DivPostR n m (vd da n) (vd db m) w):=by
 have Ha:=Lib.hid ha;clear ha;have hDm:=Nat.le_of_lt (vd_lt hb);have Hb:=Lib.hid hb;clear hb;have HA:=Lib.hid hA;clear hA;have HB:=Lib.hid hB;clear hB;have HD:=Lib.hid hD;clear hD;have HDM:=Lib.hid hDm;clear hDm;have hn0:(0:Int)<=n:=by omega
 have hm0:(0:Int)<=m:=by omega
 obtain⟨i0,hi,hz0,hz1,hz2⟩:=info_parts info22;go_enter Tryz.func87,Tryz.ntmps87
 go_wp2_with (at_make;refine wpList_make_full _ rfl _ _ 94 rfl w.heap.size 22 i0 (.int .u64 0) 1 Tryz.underlying94 hi hz0 hz1 .i64 .i64 _ _ n rfl rfl rfl rfl (by rw[hz2];omega) (by unfold maxLen;omega) (Nat.le_refl _) ?_;intro w0 hown0 hgrow0)
 have hout:OutAt w0 w.heap.size n (fun _=>0):=⟨(hown0.lt _ rfl).2,fun j hj=>⟨(hown0.cellAt j (by omega)).trans (madeCells_at n j hj),hown0.frozenAt j⟩⟩
 have hbel:Below w.heap.size w w0:=(Below.refl _ _).grown hgrow0 (Nat.le_refl _) (fun k hk=>by cases hk);have hlt0:=hout.1;have HW:=Lib.hid (And.intro hout hbel);clear hout hbel hown0 hgrow0
 go_wp2_with fail
 go_loopw [7,8] (fun rv iv wr=>∃(z:Int) (c g nr cap:Nat) (q dr:Nat->Nat),c<=n/\z=(c:Int) - 1/\iv=.int .i64 z/\rv=.slice (some ⟨g,0,none⟩) nr cap/\Hid (DivR w n m c 0 da q (vd db m) w.heap.size g nr dr wr)) (fun _ iv _=>(intOf iv+1).toNat)
 case atStart =>
  refine⟨(n:Int) - 1,n,w0.heap.size,0,0,fun _=>0,fun _=>0,Nat.le_refl _,rfl,rfl,rfl,Lib.hid ⟨HW.out.2.trans (by go_grown),⟨by simp,fun j hj=>by omega⟩,hlt0,rfl,fun j hj=>by omega,by omega,HW.out.1.below (by go_grown),fun j _=>by show 0<65536;omega,fun _ _=>rfl,rfl,?_,?_⟩⟩
  ·have:∀ L,vd (fun _=>0) L=0:=fun L=>by induction L with
    | zero=>rfl
    | succ L ih=>simp[vd,ih]
   rw[this];simp[vd]
  ·show 0<_;rw[Nat.pow_zero,Nat.one_mul];exact HD.out
 case round =>
  obtain⟨z,c,g,nr,cap,q,dr,hc,hz,rfl,rfl,H⟩:=hrel;cases c with
  | zero =>
   have hz1:z<0:=by omega
   have hzf:decide (0<=z)=false:=by rw[decide_eq_false_iff_not];omega
   have hd:=div_done H.out;have HF:=Lib.hid hd;clear hd;have HZ:=Lib.hid hz;clear hz;go_wp2
   go_ret2
   exact⟨_,_,_,_,q,dr,rfl,⟨H.out.out.1,fun j hj=>(H.out.out.2 j hj).1⟩,H.out.rest,H.out.long,H.out.outl,H.out.restl,HF.out.1,HF.out.2,H.out.old⟩
  | succ i =>
   obtain rfl:z=(i:Int):=by omega
   have hi0:(0:Int)<=i:=by omega
   have hin:(i:Int)<n:=by omega
   have hnr:(nr:Int)<=m+1:=by have:=H.out.long;omega
   have hnr0:(0:Int)<=nr:=by omega
   have ea:wr.cell? ⟨ba,i,none⟩=some (.int .u64 (da i:Nat)):=(H.out.old.cell (p:=⟨ba,i,none⟩) HA.out.1).trans (HA.out.2 i (by omega));have HEN:=Lib.hid (own_one wr (da i));clear hz
   go_wp2_with (at_builtin;refine wpList_append_own _ rfl (.tmp 26) (.tmp 27) 94 rfl wr.heap.size 22 i0 (.int .u64 0) 1 8 Tryz.underlying94 hi hz0 hz1 hz2 rfl (by decide) _ _ _ rfl HEN.out ⟨g,0,none⟩ nr cap (dl dr nr) rfl (by rw[dl_len,Nat.mul_one]) ?d1 ?d2 ?d3 ?d4 ?d5 ?_)
   try (case d1=>exact news_dl (H.out.rest.below ((Below.refl wr.heap.size wr).alloc (Nat.le_refl _) (.cells #[.int .u64 (da i:Nat)] 22))))
   try (case d2=>exact one_dl _ _)
   try (case d3=>unfold maxLen;omega)
   try (case d4=>omega)
   try (case d5=>first | omega | (simp;done) | (simp;omega))
   intro v' w1 hown' hgrow _;rw[dl_below1]at hown';obtain⟨g',cap',rfl,hg',hcap',hdg'⟩:=own_dg hown' (by omega);have hbw:Below wr.heap.size wr w1:=((Below.refl _ _).alloc (Nat.le_refl _) _).grown hgrow (by simp) (fun j hj=>by cases hj;exact Nat.le_refl _);have HN:=Lib.hid (And.intro hbw (And.intro hg' hdg'));clear hown' hgrow hg' hdg' hbw HEN ea;have hda:da i<65536:=Ha.out i (by omega);by_cases ht:m+1<1+nr
   ·have ht1:(m:Int)+1<1+(nr:Int):=by omega
    have ht2:decide ((m:Int)+1<1+(nr:Int))=true:=by rw[decide_eq_true_iff];exact ht1
    have hsl:=slice_head g' (1+nr) cap' m (by omega);have HI:=Lib.hid (div_open H.out HN.out.1 HN.out.2.1 ⟨HN.out.2.2.1,fun j hj=>HN.out.2.2.2 j (by omega)⟩ hda HDM.out (.inr ⟨rfl,by omega⟩) (Nat.le_refl (m+1)));clear ht hda
    go_wp2_with fail
    go_loopw [7,9] (fun rv kv wx=>∃(z:Int) (c g nr cap:Nat) (q dr:Nat->Nat),c<=16/\z=(c:Int) - 1/\kv=.int .i64 z/\rv=.slice (some ⟨g,0,none⟩) nr cap/\0<nr/\Hid (DivR w n m i c da q (vd db m) w.heap.size g nr dr wx)) (fun _ kv _=>(intOf kv+1).toNat)
    case atStart=>exact⟨15,16,g',(m+1),cap',q,below1 (da i) dr,by omega,rfl,rfl,rfl,by omega,HI⟩
    case round =>
     obtain⟨z,c2,g2,nr2,cap2,q2,dr2,hc2,hz2,rfl,rfl,hnr2,H2⟩:=hrel;cases c2 with
     | zero =>
      have hz1:z<0:=by omega
      have hzf:decide (0<=z)=false:=by rw[decide_eq_false_iff_not];omega
      have HZ:=Lib.hid hz2;clear hz2
      go_wp2_with fail
      go_roundw
      case rel=>exact⟨(i:Int) - 1,i,g2,nr2,cap2,q2,dr2,by omega,rfl,rfl,rfl,H2⟩
      case measure=>first | (simp[intOf];done) | (simp[intOf];omega)
     | succ k =>
      obtain rfl:z=(k:Int):=by omega
      have hk0:(0:Int)<=k:=by omega
      have hk1:(k:Int)<=15:=by omega
      clear hz2;obtain⟨p,hp⟩:∃ p:Nat,2^k=p:=⟨_,rfl⟩
      have hpl:p<65536:=by rw[<- hp,show(65536:Nat)=2^16 by rfl];exact Nat.pow_lt_pow_right (by omega) (by omega)
      have hpw:IntKind.u64.wrap ((2:Int)^k)=(p:Int):=by
       have e0:((2^k:Nat):Int)=(2:Int)^k:=by simp
       rw[<- e0,hp,IntKind.wrap_u64];omega
      have hqi:=H2.out.out.2 i (by omega);have hor:bits .or .u64 ((q2 i:Nat):Int) (p:Int)=((q2 i+p:Nat):Int):=by
       have h:=bits_or_up H2.out.bits (H2.out.outl i (by omega)) (by omega);have e0:((2^k:Nat):Int)=(2:Int)^k:=by simp
       rw[<- e0,hp]at h;exact h
      have HOR:=Lib.hid hor;clear hor;have HQI:=Lib.hid hqi;clear hqi;have HPL:=Lib.hid hpl;clear hpl;have HP:=Lib.hid hp;clear hp;have hlw:w.heap.size<wr.heap.size:=H2.out.out.1
      go_wp2_with fail
      refine(product_digits bb cb wr.heap.size 1 m 1 db (fun _=>p) (by omega) (by omega) Hb.out (fun _ _=>HPL.out) _ (HB.out.below (H2.out.old.trans ((Below.refl _ _).alloc (by omega) _))) (dg_one wr p)).mono ?_;rintro e w2 ⟨bt,capt,dt,rfl,hbt,hDt,hdtl,hdtv,hbp⟩;have hvt:vd dt (m+1)=2^k*vd db m:=by rw[hdtv,HP.out];simp[vd,Nat.mul_comm]
      have hb1:Below wr.heap.size wr w2:=((Below.refl _ _).alloc (Nat.le_refl _) _).trans (hbp.mono (by simp));have HT:=Lib.hid (And.intro hDt (And.intro hdtl (And.intro hvt hb1)));clear hbt hDt hdtl hdtv hbp hvt hb1;have HR2:=Lib.hid (H2.out.rest.below HT.out.2.2.2);have hnl:(nr2:Int)<=m+1:=by have:=H2.out.long;omega
      by_cases hle:2^k*vd db m<=vd dr2 nr2
      ·have hbo:decide (vd dr2 nr2<vd dt (m+1))=false:=by rw[decide_eq_false_iff_not,HT.out.2.2.1];omega
       have HLE:=Lib.hid hle;clear hle
       go_wp2_with fail
       refine(less_any g2 cap2 bt capt nr2 (m+1) dr2 dt (by omega) (by omega) H2.out.restl HT.out.2.1 w2 HR2.out HT.out.1).mono ?_;rintro e w3 ⟨rfl,rfl⟩;rw[hbo]
       go_wp2_with fail
       refine(minus_any g2 cap2 bt capt nr2 (m+1) dr2 dt hnr2 (by omega) (by omega) H2.out.restl HT.out.2.1 (by rw[HT.out.2.2.1];exact HLE.out) w2 HR2.out HT.out.1).mono ?_;rintro e w4 ⟨b4,cap4,d4,rfl,hb4,hD4,hd4l,hd4v,hbm⟩;have hb2:Below wr.heap.size wr w4:=HT.out.2.2.2.trans (hbm.mono HT.out.2.2.2.size);have hcq:w4.cell? ⟨w.heap.size,i,none⟩=some (.int .u64 (q2 i:Nat)):=(hb2.cell (p:=⟨w.heap.size,i,none⟩) hlw).trans HQI.out.1;have hfq:w4.frozen? ⟨w.heap.size,i,none⟩=false:=(hb2.frozen (p:=⟨w.heap.size,i,none⟩) hlw).trans HQI.out.2;have hone:=H2.out.one (w':=w4) (g':=b4) (dr':=d4) (by omega) (by omega) hb2 HLE.out hD4 (Nat.le_trans HT.out.2.2.2.size hb4) hd4l (by rw[hd4v,HT.out.2.2.1]);rw[HP.out]at hone;have HONE:=Lib.hid hone;clear hone hb4 hD4 hd4l hd4v hbm hb2
       go_wp2_with fail
       rw[HOR.out]
       go_roundw
       case rel=>exact⟨(k:Int) - 1,k,b4,nr2,cap4,_,d4,by omega,rfl,rfl,rfl,hnr2,HONE⟩
       case measure=>first | (simp[intOf];done) | (simp[intOf];omega)
      ·have hbo:decide (vd dr2 nr2<vd dt (m+1))=true:=by rw[decide_eq_true_iff,HT.out.2.2.1];omega
       have HZ:=Lib.hid (H2.out.zero HT.out.2.2.2 hle);clear hle
       go_wp2_with fail
       refine(less_any g2 cap2 bt capt nr2 (m+1) dr2 dt (by omega) (by omega) H2.out.restl HT.out.2.1 w2 HR2.out HT.out.1).mono ?_;rintro e w3 ⟨rfl,rfl⟩;rw[hbo]
       go_wp2_with fail
       go_roundw
       case rel=>exact⟨(k:Int) - 1,k,g2,nr2,cap2,q2,dr2,by omega,rfl,rfl,rfl,hnr2,HZ⟩
       case measure=>first | (simp[intOf];done) | (simp[intOf];omega)
   ·have ht1:¬(m:Int)+1<1+(nr:Int):=by omega
    have ht2:decide ((m:Int)+1<1+(nr:Int))=false:=by rw[decide_eq_false_iff_not];exact ht1
    have HI:=Lib.hid (div_open H.out HN.out.1 HN.out.2.1 HN.out.2.2 hda HDM.out (.inl rfl) (by omega));clear ht hda
    go_wp2_with fail
    go_loopw [7,9] (fun rv kv wx=>∃(z:Int) (c g nr cap:Nat) (q dr:Nat->Nat),c<=16/\z=(c:Int) - 1/\kv=.int .i64 z/\rv=.slice (some ⟨g,0,none⟩) nr cap/\0<nr/\Hid (DivR w n m i c da q (vd db m) w.heap.size g nr dr wx)) (fun _ kv _=>(intOf kv+1).toNat)
    case atStart=>exact⟨15,16,g',(1+nr),cap',q,below1 (da i) dr,by omega,rfl,rfl,rfl,by omega,HI⟩
    case round =>
     obtain⟨z,c2,g2,nr2,cap2,q2,dr2,hc2,hz2,rfl,rfl,hnr2,H2⟩:=hrel;cases c2 with
     | zero =>
      have hz1:z<0:=by omega
      have hzf:decide (0<=z)=false:=by rw[decide_eq_false_iff_not];omega
      have HZ:=Lib.hid hz2;clear hz2
      go_wp2_with fail
      go_roundw
      case rel=>exact⟨(i:Int) - 1,i,g2,nr2,cap2,q2,dr2,by omega,rfl,rfl,rfl,H2⟩
      case measure=>first | (simp[intOf];done) | (simp[intOf];omega)
     | succ k =>
      obtain rfl:z=(k:Int):=by omega
      have hk0:(0:Int)<=k:=by omega
      have hk1:(k:Int)<=15:=by omega
      clear hz2;obtain⟨p,hp⟩:∃ p:Nat,2^k=p:=⟨_,rfl⟩
      have hpl:p<65536:=by rw[<- hp,show(65536:Nat)=2^16 by rfl];exact Nat.pow_lt_pow_right (by omega) (by omega)
      have hpw:IntKind.u64.wrap ((2:Int)^k)=(p:Int):=by
       have e0:((2^k:Nat):Int)=(2:Int)^k:=by simp
       rw[<- e0,hp,IntKind.wrap_u64];omega
      have hqi:=H2.out.out.2 i (by omega);have hor:bits .or .u64 ((q2 i:Nat):Int) (p:Int)=((q2 i+p:Nat):Int):=by
       have h:=bits_or_up H2.out.bits (H2.out.outl i (by omega)) (by omega);have e0:((2^k:Nat):Int)=(2:Int)^k:=by simp
       rw[<- e0,hp]at h;exact h
      have HOR:=Lib.hid hor;clear hor;have HQI:=Lib.hid hqi;clear hqi;have HPL:=Lib.hid hpl;clear hpl;have HP:=Lib.hid hp;clear hp;have hlw:w.heap.size<wr.heap.size:=H2.out.out.1
      go_wp2_with fail
      refine(product_digits bb cb wr.heap.size 1 m 1 db (fun _=>p) (by omega) (by omega) Hb.out (fun _ _=>HPL.out) _ (HB.out.below (H2.out.old.trans ((Below.refl _ _).alloc (by omega) _))) (dg_one wr p)).mono ?_;rintro e w2 ⟨bt,capt,dt,rfl,hbt,hDt,hdtl,hdtv,hbp⟩;have hvt:vd dt (m+1)=2^k*vd db m:=by rw[hdtv,HP.out];simp[vd,Nat.mul_comm]
      have hb1:Below wr.heap.size wr w2:=((Below.refl _ _).alloc (Nat.le_refl _) _).trans (hbp.mono (by simp));have HT:=Lib.hid (And.intro hDt (And.intro hdtl (And.intro hvt hb1)));clear hbt hDt hdtl hdtv hbp hvt hb1;have HR2:=Lib.hid (H2.out.rest.below HT.out.2.2.2);have hnl:(nr2:Int)<=m+1:=by have:=H2.out.long;omega
      by_cases hle:2^k*vd db m<=vd dr2 nr2
      ·have hbo:decide (vd dr2 nr2<vd dt (m+1))=false:=by rw[decide_eq_false_iff_not,HT.out.2.2.1];omega
       have HLE:=Lib.hid hle;clear hle
       go_wp2_with fail
       refine(less_any g2 cap2 bt capt nr2 (m+1) dr2 dt (by omega) (by omega) H2.out.restl HT.out.2.1 w2 HR2.out HT.out.1).mono ?_;rintro e w3 ⟨rfl,rfl⟩;rw[hbo]
       go_wp2_with fail
       refine(minus_any g2 cap2 bt capt nr2 (m+1) dr2 dt hnr2 (by omega) (by omega) H2.out.restl HT.out.2.1 (by rw[HT.out.2.2.1];exact HLE.out) w2 HR2.out HT.out.1).mono ?_;rintro e w4 ⟨b4,cap4,d4,rfl,hb4,hD4,hd4l,hd4v,hbm⟩;have hb2:Below wr.heap.size wr w4:=HT.out.2.2.2.trans (hbm.mono HT.out.2.2.2.size);have hcq:w4.cell? ⟨w.heap.size,i,none⟩=some (.int .u64 (q2 i:Nat)):=(hb2.cell (p:=⟨w.heap.size,i,none⟩) hlw).trans HQI.out.1;have hfq:w4.frozen? ⟨w.heap.size,i,none⟩=false:=(hb2.frozen (p:=⟨w.heap.size,i,none⟩) hlw).trans HQI.out.2;have hone:=H2.out.one (w':=w4) (g':=b4) (dr':=d4) (by omega) (by omega) hb2 HLE.out hD4 (Nat.le_trans HT.out.2.2.2.size hb4) hd4l (by rw[hd4v,HT.out.2.2.1]);rw[HP.out]at hone;have HONE:=Lib.hid hone;clear hone hb4 hD4 hd4l hd4v hbm hb2
       go_wp2_with fail
       rw[HOR.out]
       go_roundw
       case rel=>exact⟨(k:Int) - 1,k,b4,nr2,cap4,_,d4,by omega,rfl,rfl,rfl,hnr2,HONE⟩
       case measure=>first | (simp[intOf];done) | (simp[intOf];omega)
      ·have hbo:decide (vd dr2 nr2<vd dt (m+1))=true:=by rw[decide_eq_true_iff,HT.out.2.2.1];omega
       have HZ:=Lib.hid (H2.out.zero HT.out.2.2.2 hle);clear hle
       go_wp2_with fail
       refine(less_any g2 cap2 bt capt nr2 (m+1) dr2 dt (by omega) (by omega) H2.out.restl HT.out.2.1 w2 HR2.out HT.out.1).mono ?_;rintro e w3 ⟨rfl,rfl⟩;rw[hbo]
       go_wp2_with fail
       go_roundw
       case rel=>exact⟨(k:Int) - 1,k,g2,nr2,cap2,q2,dr2,by omega,rfl,rfl,rfl,hnr2,HZ⟩
       case measure=>first | (simp[intOf];done) | (simp[intOf];omega)
end Go.Proofs.YthnckclbeecnmaaGreat
