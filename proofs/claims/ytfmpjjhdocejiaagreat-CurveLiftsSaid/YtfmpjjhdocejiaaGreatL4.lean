/- What (*Field).Of comes to. (Cut to what is reached, written closely: Less · Minus · RDivNum · RDiv · Ring · Lives · Alive · Rings · DigS · RDM · RMods · PMods · PAdd · AddsAny · BitsW · Byte · Sext · Exp · Pick · ShRef · SarLen · ShiftsAny · FWd · FOf.) -/
import Derived.Test.YtfmpjjhdocejiaaGreatL2
import Derived.Test.YtfmpjjhdocejiaaGreatL3
import Derived.Test.YtfmpjjhdocejiaaGreatL1
import Derived.BigRegion
set_option linter.all false
set_option maxRecDepth 100000
set_option maxHeartbeats 8000000
namespace Go.Proofs.YtfmpjjhdocejiaaGreat
open Go.RowKit
theorem less_top{a b:Nat->Nat}{k:Nat}(ha:∀ j,j<k->a j<65536)(_hb:∀ j,j<k->b j<65536)(h:a k<b k):vd a (k+1)<vd b (k+1):=by
 have h1:=vd_lt ha;simp only[vd];have h2:65536^k*a k+65536^k<=65536^k*b k:=by
  have:=Nat.mul_le_mul_left (65536^k) (show a k+1<=b k by omega);rwa [Nat.mul_add,Nat.mul_one]at this
 omega
theorem vd_same_above{a b:Nat->Nat}(k:Nat):∀ N,k<=N->(∀ j,k<=j->j<N->a j=b j)->vd a N+vd b k=vd b N+vd a k:=by
 intro N hN h
 induction N with
 | zero=>(obtain rfl:k=0:=by omega);rfl
 | succ N ih =>
  by_cases e:k=N+1
  ·subst e;omega
  ·have:=ih (by omega) (fun j h1 h2=>h j h1 (by omega))
   simp only[vd];rw[h N (by omega) (by omega)];omega
theorem less_any(ba ca bb cb n m:Nat)(da db:Nat->Nat)(hn:(n:Int)<=1000000)(hm:(m:Int)<=1000000)(ha:∀ j,j<n->da j<65536)(hb:∀ j,j<m->db j<65536)(w:World)(hA:Dg w ba n da)(hB:Dg w bb m db) :
  Calls Tryz.prog 110 #[.slice (some ⟨ba,0,none⟩) n ca,.slice (some ⟨bb,0,none⟩) m cb] w fun e w'=>e=.returned (.bool (decide (vd da n<vd db m)))/\w=w':=by
 have en:=vd_pad da n (max n m) (by omega);have em:=vd_pad db m (max n m) (by omega);rw[<- en,<- em];clear en em;have Pa:Hid (∀ j,pad da n j<65536):=Lib.hid (fun j=>by unfold pad;split;exact ha j (by omega);omega);have Pb:Hid (∀ j,pad db m j<65536):=Lib.hid (fun j=>by unfold pad;split;exact hb j (by omega);omega);have Ha:=Lib.hid ha;clear ha;have Hb:=Lib.hid hb;clear hb;have HA:=Lib.hid hA;clear hA;have HB:=Lib.hid hB;clear hB;have hn0:(0:Int)<=n:=by omega
 have hm0:(0:Int)<=m:=by omega
 obtain⟨R,hR⟩:∃ R,decide (vd (pad da n) (max n m)<vd (pad db m) (max n m))=R:=⟨_,rfl⟩
 rw[hR];have HR:=Lib.hid hR;clear hR;by_cases hnm:n<m
 ·have hcmp:(n:Int)<(m:Int):=by omega
  obtain⟨N,hN⟩:∃ N,max n m=N:=⟨_,rfl⟩
  have HN:=Lib.hid hN;clear hN;go_enter Tryz.func110,Tryz.ntmps110;go_wp2
  go_loop [6] (fun i=>∃ k:Nat,k<=N/\i=.int .i64 ((k:Int) - 1)/\Hid (∀ j,k<=j->j<N->pad da n j=pad db m j)) (fun i=>(intOf i+1).toNat)
  case atStart=>exact⟨N,Nat.le_refl _,by have:=HN.out;first | (rw[show N=m by omega]) | rfl,Lib.hid (fun j h1 h2=>by omega)⟩
  case round =>
   obtain⟨k,hk,rfl,HE⟩:=hrel;have hNb:N<=1000000:=by have:=HN.out;omega
   have hk1:(k:Int)<=1000000:=by omega
   rcases k with _ | k
   ·go_wp2
    go_ret;refine⟨?_,rfl⟩;rw[<- HR.out,HN.out];have h:=vd_same_above 0 N (Nat.zero_le _) (fun j _ h2=>HE.out j (Nat.zero_le _) h2);simp only[vd]at h;rw[show decide (vd (pad da n) N<vd (pad db m) N)=false by rw[decide_eq_false_iff_not];omega];rfl
   ·have e1:((k+1:Nat):Int) - 1=(k:Int):=by omega
    rw[e1];have hk0:(0:Int)<=k:=by omega
    have hk2:(k:Int)<=1000000:=by omega
    have hge:∀(x y:Nat),pad da n k=x->pad db m k=y->x≠y->R=decide (x<y):=fun x y hx hy hne=>by
     rw[<- HR.out,HN.out];have h:=vd_same_above (k+1) N (by omega) (fun j h1 h2=>HE.out j h1 h2);by_cases hlt:x<y
     ·have:=less_top (a:=pad da n) (b:=pad db m) (k:=k) (fun j _=>Pa.out j) (fun j _=>Pb.out j) (by rw[hx,hy];exact hlt)
      rw[decide_eq_true hlt,decide_eq_true (by omega)]
     ·have:=less_top (a:=pad db m) (b:=pad da n) (k:=k) (fun j _=>Pb.out j) (fun j _=>Pa.out j) (by rw[hx,hy];omega)
      rw[decide_eq_false hlt,decide_eq_false (by omega)]
    have HG:=Lib.hid hge;clear hge e1;by_cases h1:k<n
    ·by_cases h2:k<m
     ·have xa:w.cell? ⟨ba,k,none⟩=some (.int .u64 (da k:Nat)):=HA.out.2 k (by omega)
      have hka:(k:Int)<(n:Int):=by omega
      have pa:pad da n k=da k:=by unfold pad;rw[if_pos (by omega)]
      have xb:w.cell? ⟨bb,k,none⟩=some (.int .u64 (db k:Nat)):=HB.out.2 k (by omega);have hkb:(k:Int)<(m:Int):=by omega
      have pb:pad db m k=db k:=by unfold pad;rw[if_pos (by omega)]
      have PA:=Lib.hid pa;clear pa;have PB:=Lib.hid pb;clear pb;by_cases he:da k=db k
      ·have hb1:(((da k:Nat):Int) == ((db k:Nat):Int))=true:=by simp;omega
       have hb2:(((da k:Nat):Int) != ((db k:Nat):Int))=false:=by simp;omega
       have HE2:=Lib.hid he;clear he;go_wp2
       go_round
       case rel =>
        refine⟨k,by omega,rfl,Lib.hid (fun j h1 h2=>?_)⟩;by_cases hj:j=k
        ·subst hj;rw[PA.out,PB.out,HE2.out]
        ·exact HE.out j (by omega) h2
       case measure=>simp[intOf]
      ·have hb1:(((da k:Nat):Int) == ((db k:Nat):Int))=false:=by simp;omega
       have hb2:(((da k:Nat):Int) != ((db k:Nat):Int))=true:=by simp;omega
       have hr:=HG.out _ _ PA.out PB.out he;have HRR:=Lib.hid hr;clear hr he;go_wp2;go_ret;refine⟨?_,rfl⟩;rw[HRR.out]
       try simp
     ·have xa:w.cell? ⟨ba,k,none⟩=some (.int .u64 (da k:Nat)):=HA.out.2 k (by omega)
      have hka:(k:Int)<(n:Int):=by omega
      have pa:pad da n k=da k:=by unfold pad;rw[if_pos (by omega)]
      have hkb:¬(k:Int)<(m:Int):=by omega
      have pb:pad db m k=0:=by unfold pad;rw[if_neg (by omega)]
      have PA:=Lib.hid pa;clear pa;have PB:=Lib.hid pb;clear pb;by_cases he:da k=0
      ·have hb1:(((da k:Nat):Int) == (0:Int))=true:=by simp;omega
       have hb2:(((da k:Nat):Int) != (0:Int))=false:=by simp;omega
       have HE2:=Lib.hid he;clear he;go_wp2
       go_round
       case rel =>
        refine⟨k,by omega,rfl,Lib.hid (fun j h1 h2=>?_)⟩;by_cases hj:j=k
        ·subst hj;rw[PA.out,PB.out,HE2.out]
        ·exact HE.out j (by omega) h2
       case measure=>simp[intOf]
      ·have hb1:(((da k:Nat):Int) == (0:Int))=false:=by simp;omega
       have hb2:(((da k:Nat):Int) != (0:Int))=true:=by simp;omega
       have hr:=HG.out _ _ PA.out PB.out he;have HRR:=Lib.hid hr;clear hr he;go_wp2;go_ret;refine⟨?_,rfl⟩;rw[HRR.out]
       try simp
    ·have h2:k<m:=by have:=HN.out;omega
     have hka:¬(k:Int)<(n:Int):=by omega
     have pa:pad da n k=0:=by unfold pad;rw[if_neg (by omega)]
     have xb:w.cell? ⟨bb,k,none⟩=some (.int .u64 (db k:Nat)):=HB.out.2 k (by omega);have hkb:(k:Int)<(m:Int):=by omega
     have pb:pad db m k=db k:=by unfold pad;rw[if_pos (by omega)]
     have PA:=Lib.hid pa;clear pa;have PB:=Lib.hid pb;clear pb;by_cases he:0=db k
     ·have hb1:((0:Int) == ((db k:Nat):Int))=true:=by simp;omega
      have hb2:((0:Int) != ((db k:Nat):Int))=false:=by simp;omega
      have HE2:=Lib.hid he;clear he;go_wp2
      go_round
      case rel =>
       refine⟨k,by omega,rfl,Lib.hid (fun j h1 h2=>?_)⟩;by_cases hj:j=k
       ·subst hj;rw[PA.out,PB.out,HE2.out]
       ·exact HE.out j (by omega) h2
      case measure=>simp[intOf]
     ·have hb1:((0:Int) == ((db k:Nat):Int))=false:=by simp;omega
      have hb2:((0:Int) != ((db k:Nat):Int))=true:=by simp;omega
      have hr:=HG.out _ _ PA.out PB.out he;have HRR:=Lib.hid hr;clear hr he;go_wp2;go_ret;refine⟨?_,rfl⟩;rw[HRR.out]
      try simp
 ·have hcmp:¬(n:Int)<(m:Int):=by omega
  obtain⟨N,hN⟩:∃ N,max n m=N:=⟨_,rfl⟩
  have HN:=Lib.hid hN;clear hN;go_enter Tryz.func110,Tryz.ntmps110;go_wp2
  go_loop [6] (fun i=>∃ k:Nat,k<=N/\i=.int .i64 ((k:Int) - 1)/\Hid (∀ j,k<=j->j<N->pad da n j=pad db m j)) (fun i=>(intOf i+1).toNat)
  case atStart=>exact⟨N,Nat.le_refl _,by have:=HN.out;first | (rw[show N=n by omega]) | rfl,Lib.hid (fun j h1 h2=>by omega)⟩
  case round =>
   obtain⟨k,hk,rfl,HE⟩:=hrel;have hNb:N<=1000000:=by have:=HN.out;omega
   have hk1:(k:Int)<=1000000:=by omega
   rcases k with _ | k
   ·go_wp2
    go_ret;refine⟨?_,rfl⟩;rw[<- HR.out,HN.out];have h:=vd_same_above 0 N (Nat.zero_le _) (fun j _ h2=>HE.out j (Nat.zero_le _) h2);simp only[vd]at h;rw[show decide (vd (pad da n) N<vd (pad db m) N)=false by rw[decide_eq_false_iff_not];omega];rfl
   ·have e1:((k+1:Nat):Int) - 1=(k:Int):=by omega
    rw[e1];have hk0:(0:Int)<=k:=by omega
    have hk2:(k:Int)<=1000000:=by omega
    have hge:∀(x y:Nat),pad da n k=x->pad db m k=y->x≠y->R=decide (x<y):=fun x y hx hy hne=>by
     rw[<- HR.out,HN.out];have h:=vd_same_above (k+1) N (by omega) (fun j h1 h2=>HE.out j h1 h2);by_cases hlt:x<y
     ·have:=less_top (a:=pad da n) (b:=pad db m) (k:=k) (fun j _=>Pa.out j) (fun j _=>Pb.out j) (by rw[hx,hy];exact hlt)
      rw[decide_eq_true hlt,decide_eq_true (by omega)]
     ·have:=less_top (a:=pad db m) (b:=pad da n) (k:=k) (fun j _=>Pb.out j) (fun j _=>Pa.out j) (by rw[hx,hy];omega)
      rw[decide_eq_false hlt,decide_eq_false (by omega)]
    have HG:=Lib.hid hge;clear hge e1;by_cases h1:k<n
    ·by_cases h2:k<m
     ·have xa:w.cell? ⟨ba,k,none⟩=some (.int .u64 (da k:Nat)):=HA.out.2 k (by omega)
      have hka:(k:Int)<(n:Int):=by omega
      have pa:pad da n k=da k:=by unfold pad;rw[if_pos (by omega)]
      have xb:w.cell? ⟨bb,k,none⟩=some (.int .u64 (db k:Nat)):=HB.out.2 k (by omega);have hkb:(k:Int)<(m:Int):=by omega
      have pb:pad db m k=db k:=by unfold pad;rw[if_pos (by omega)]
      have PA:=Lib.hid pa;clear pa;have PB:=Lib.hid pb;clear pb;by_cases he:da k=db k
      ·have hb1:(((da k:Nat):Int) == ((db k:Nat):Int))=true:=by simp;omega
       have hb2:(((da k:Nat):Int) != ((db k:Nat):Int))=false:=by simp;omega
       have HE2:=Lib.hid he;clear he;go_wp2
       go_round
       case rel =>
        refine⟨k,by omega,rfl,Lib.hid (fun j h1 h2=>?_)⟩;by_cases hj:j=k
        ·subst hj;rw[PA.out,PB.out,HE2.out]
        ·exact HE.out j (by omega) h2
       case measure=>simp[intOf]
      ·have hb1:(((da k:Nat):Int) == ((db k:Nat):Int))=false:=by simp;omega
       have hb2:(((da k:Nat):Int) != ((db k:Nat):Int))=true:=by simp;omega
       have hr:=HG.out _ _ PA.out PB.out he;have HRR:=Lib.hid hr;clear hr he;go_wp2;go_ret;refine⟨?_,rfl⟩;rw[HRR.out]
       try simp
     ·have xa:w.cell? ⟨ba,k,none⟩=some (.int .u64 (da k:Nat)):=HA.out.2 k (by omega)
      have hka:(k:Int)<(n:Int):=by omega
      have pa:pad da n k=da k:=by unfold pad;rw[if_pos (by omega)]
      have hkb:¬(k:Int)<(m:Int):=by omega
      have pb:pad db m k=0:=by unfold pad;rw[if_neg (by omega)]
      have PA:=Lib.hid pa;clear pa;have PB:=Lib.hid pb;clear pb;by_cases he:da k=0
      ·have hb1:(((da k:Nat):Int) == (0:Int))=true:=by simp;omega
       have hb2:(((da k:Nat):Int) != (0:Int))=false:=by simp;omega
       have HE2:=Lib.hid he;clear he;go_wp2
       go_round
       case rel =>
        refine⟨k,by omega,rfl,Lib.hid (fun j h1 h2=>?_)⟩;by_cases hj:j=k
        ·subst hj;rw[PA.out,PB.out,HE2.out]
        ·exact HE.out j (by omega) h2
       case measure=>simp[intOf]
      ·have hb1:(((da k:Nat):Int) == (0:Int))=false:=by simp;omega
       have hb2:(((da k:Nat):Int) != (0:Int))=true:=by simp;omega
       have hr:=HG.out _ _ PA.out PB.out he;have HRR:=Lib.hid hr;clear hr he;go_wp2;go_ret;refine⟨?_,rfl⟩;rw[HRR.out]
       try simp
    ·have h2:k<m:=by have:=HN.out;omega
     have hka:¬(k:Int)<(n:Int):=by omega
     have pa:pad da n k=0:=by unfold pad;rw[if_neg (by omega)]
     have xb:w.cell? ⟨bb,k,none⟩=some (.int .u64 (db k:Nat)):=HB.out.2 k (by omega);have hkb:(k:Int)<(m:Int):=by omega
     have pb:pad db m k=db k:=by unfold pad;rw[if_pos (by omega)]
     have PA:=Lib.hid pa;clear pa;have PB:=Lib.hid pb;clear pb;by_cases he:0=db k
     ·have hb1:((0:Int) == ((db k:Nat):Int))=true:=by simp;omega
      have hb2:((0:Int) != ((db k:Nat):Int))=false:=by simp;omega
      have HE2:=Lib.hid he;clear he;go_wp2
      go_round
      case rel =>
       refine⟨k,by omega,rfl,Lib.hid (fun j h1 h2=>?_)⟩;by_cases hj:j=k
       ·subst hj;rw[PA.out,PB.out,HE2.out]
       ·exact HE.out j (by omega) h2
      case measure=>simp[intOf]
     ·have hb1:((0:Int) == ((db k:Nat):Int))=false:=by simp;omega
      have hb2:((0:Int) != ((db k:Nat):Int))=true:=by simp;omega
      have hr:=HG.out _ _ PA.out PB.out he;have HRR:=Lib.hid hr;clear hr he;go_wp2;go_ret;refine⟨?_,rfl⟩;rw[HRR.out]
      try simp
open Go.RowKit
def MinRel(w:World)(_n m k c:Nat)(da db:Nat->Nat)(v:Value)(wr:World):Prop :=
 c<=1/\∃ ns:Nat->Nat,wr.ownsRow w.heap.size 22 1 v k (dl ns k)/\(∀ j,j<k->ns j<65536)/\vd ns k+vd (pad db m) k=vd da k+65536^k*c/\Below w.heap.size w wr/\w.heap.size<wr.heap.size
theorem min_step{P N B A c d bk ak c':Nat}(h:N+B=A+P*c)(h1:d+(c+bk)=ak+65536*c'):N+P*d+(B+P*bk)=A+P*ak+P*65536*c':=by
 have e:=congrArg (P*·) h1;simp only[Nat.mul_add]at e;rw[<- Nat.mul_assoc]at e;omega
theorem min_next{w wr w1:World}{n m k c c' y:Nat}{da db ns:Nat->Nat}{v v' X:Value}(hown:wr.ownsRow w.heap.size 22 1 v k (dl ns k))(hns:∀ j,j<k->ns j<65536)
  (hv:vd ns k+vd (pad db m) k=vd da k+65536^k*c) (hb:Below w.heap.size w wr) (hz:w.heap.size<wr.heap.size) (hy:y<65536) (hc':c'<=1) (hx:y+(c+pad db m k)=da k+65536*c')
  (hown':w1.ownsRow w.heap.size 22 1 v' (k+1) (dl ns k++[.int .u64 (y:Nat)])) (hgrow:(wr.alloc (.cells #[X] 22)).grownBy w1 v.ownBlock) :
  MinRel w n m (k+1) c' da db v' w1:=by
 obtain⟨ho,hb'⟩:=push_rel hown hb (by omega) hown' hgrow;have hs:=hgrow.size;simp at hs;refine⟨hc',upd ns k y,ho,upd_lt hns hy,?_,hb',by omega⟩;rw[vd_upd,Nat.pow_succ];exact min_step hv hx
theorem min_end{P N B A c T:Nat}(h:N+B=A+P*c)(hc:c<=1)(hN:N<P)(hT:T<=A)(hB:B<=T):c=0:=by
 have:c=0\/c=1:=by omega
 rcases this with h0 | h0
 ·exact h0
 ·subst h0;omega
theorem vd_mono(d:Nat->Nat)(a:Nat):∀ e,vd d a<=vd d (a+e)
 | 0=>Nat.le_refl _
 | e+1=>Nat.le_trans (vd_mono d a e) (Nat.le_add_right _ _)
theorem pad_le(db:Nat->Nat)(m:Nat):∀ k,vd (pad db m) k<=vd db m
 | 0=>Nat.zero_le _
 | k+1=>by
  by_cases h:k+1<=m
  ·rw[vd_congr (e:=db) (fun j hj=>by simp only[pad];rw[if_pos (by omega)])]
   have h2:=vd_mono db (k+1) (m - (k+1));rwa [show k+1+(m - (k+1))=m by omega]at h2
  ·rw[vd_pad _ _ _ (by omega)];exact Nat.le_refl _
theorem vd_full{d:Nat->Nat}:∀ n m,(∀ j,n<=j->j<m->d j=0)->n<=m->vd d m=vd d n
 | n,0,_,h=>by rw[show n=0 by omega]
 | n,m+1,h0,h=>by
  by_cases e:n=m+1
  ·rw[e]
  ·rw[vd,vd_full n m (fun j h1 h2=>h0 j h1 (by omega)) (by omega),h0 m (by omega) (by omega)];omega
theorem vd_small{d:Nat->Nat}{n m:Nat}(h:vd d m<65536^n):∀ j,n<=j->j<m->d j=0:=fun j h1 h2=>by
 have h3:=vd_mono d (j+1) (m - (j+1));rw[show j+1+(m - (j+1))=m by omega,vd]at h3;have h4:65536^n<=65536^j:=Nat.pow_le_pow_right (by omega) h1;rcases Nat.eq_zero_or_pos (d j)with h5 | h5
 ·exact h5
 ·have h6:65536^j*1<=65536^j*d j:=Nat.mul_le_mul_left _ h5
  generalize 65536^j*d j=u at *;generalize 65536^j=v at *;generalize 65536^n=x at *;omega
theorem minus_any(ba ca bb cb n m:Nat)(da db:Nat->Nat)(hn0:0<n)(hn:(n:Int)<=1000000)(_hm:(m:Int)<=1000000)(ha:∀ j,j<n->da j<65536)(hb:∀ j,j<m->db j<65536)(hle:vd db m<=vd da n)(w:World)(hA:Dg w ba n da)(hB:Dg w bb m db) :
  Calls Tryz.prog 111 #[.slice (some ⟨ba,0,none⟩) n ca,.slice (some ⟨bb,0,none⟩) m cb] w (MkDg n (vd da n - vd db m) w):=by
 have Ha:=Lib.hid ha;clear ha;have Hb:=Lib.hid hb;clear hb;have HA:=Lib.hid hA;clear hA;have HB:=Lib.hid hB;clear hB;have HLE:=Lib.hid hle;clear hle;have HN0:=Lib.hid hn0;clear hn0;obtain⟨i0,hi,hz0,hz1,hz2⟩:=info_parts info22;go_enter Tryz.func111,Tryz.ntmps111;go_wp2
 go_loopw [5,6,7] (fun v cv i wr=>∃ k c:Nat,k<=n/\i=.int .i64 k/\cv=.int .u64 c/\Hid (MinRel w n m k c da db v wr)) (fun _ _ i _=>n - (intOf i).toNat)
 case atStart =>
  refine⟨0,0,by omega,rfl,rfl,Lib.hid ⟨by omega,da,?_,by omega,rfl,by go_grown,by simp⟩⟩;exact World.ownsRow_made (base:=w.heap.size) (e:=22) (size:=1) w #[] 0 (by simp) (by decide) (by simp)
 case round =>
  obtain⟨k,c,hk,rfl,rfl,H⟩:=hrel;have hk0:(0:Int)<=k:=by omega
  have hk1:(k:Int)<=1000000:=by omega
  obtain⟨hc,ns,hown,hns,hval,hbel,hsz⟩:=H.out;have hc0:(0:Int)<=c:=by omega
  have hc1:(c:Int)<=1:=by omega
  have HO:=Lib.hid hown;clear hown;have HNS:=Lib.hid hns;clear hns;have HVAL:=Lib.hid hval;clear hval;have HBEL:=Lib.hid hbel;clear hbel;have HSZ:=Lib.hid hsz;clear hsz;have HC:=Lib.hid hc;clear hc H;by_cases h1:k<n
  ·have hka:(k:Int)<(n:Int):=by omega
   have xa:((da k:Nat):Int)<=65535:=by have:=Ha.out k (by omega);omega
   have xa0:(0:Int)<=(da k:Nat):=by omega
   have ea:wr.cell? ⟨ba,k,none⟩=some (.int .u64 (da k:Nat)):=(HBEL.out.cell (p:=⟨ba,k,none⟩) HA.out.1).trans (HA.out.2 k (by omega));by_cases h2:k<m
   ·by_cases h3:da k<c+db k
    ·have hkb:(k:Int)<(m:Int):=by omega
     have xb:((db k:Nat):Int)<=65535:=by have:=Hb.out k (by omega);omega
     have xb0:(0:Int)<=(db k:Nat):=by omega
     have eb:wr.cell? ⟨bb,k,none⟩=some (.int .u64 (db k:Nat)):=(HBEL.out.cell (p:=⟨bb,k,none⟩) HB.out.1).trans (HB.out.2 k (by omega));have eb':pad db m k=db k:=by simp only[pad];rw[if_pos (by omega)]
     obtain⟨y,hy⟩:∃ y:Nat,(c:Int)+(db k:Nat)=(y:Int):=⟨c+db k,by omega⟩
     have hyc:y=c+pad db m k:=by rw[eb'];omega
     have HYC:=Lib.hid hyc;clear hyc eb';have hyb:(y:Int)<=65536:=by omega
     have hy0:(0:Int)<=y:=by omega
     have hlt:((da k:Nat):Int)<(y:Int):=by omega
     obtain⟨z,hz⟩:∃ z:Nat,((da k:Nat):Int)+65536 - (y:Int)=(z:Int):=⟨da k+65536 - y,by omega⟩
     have hzl:z<65536:=by omega
     have hzx:z+(c+pad db m k)=da k+65536*1:=by have:=HYC.out;omega
     have HZX:=Lib.hid hzx;clear hzx;have HZL:=Lib.hid hzl;clear hzl
     go_wp2_with (at_builtin;refine wpList_append_own _ rfl (.tmp 37) (.tmp 41) 86 rfl w.heap.size 22 i0 (.int .u64 0) 1 8 Tryz.underlying86 hi hz0 hz1 hz2 rfl (by decide) _ _ _ rfl (HO.out.alloc _) ⟨wr.heap.size,0,none⟩ 1 1 [.int .u64 (z:Int)] rfl rfl ?d111 ?d112 ?d113 ?d114 ?d115 ?_)
     try (case d111=>exact cell_one_new _ _ _)
     try (case d112=>first | rfl | (intro u hu;simp at hu;subst hu;rfl))
     try (case d113=>unfold maxLen;omega)
     try (case d114=>omega)
     try (case d115=>have:=HSZ.out;first | omega | (simp;omega))
     intro v' w1 hown' hgrow _;have HN:=Lib.hid (min_next (n:=n) (m:=m) (da:=da) (db:=db) HO.out HNS.out HVAL.out HBEL.out HSZ.out HZL.out (by omega) HZX.out hown' hgrow);clear hown' hgrow;go_wp2
     go_roundw
     case rel=>exact⟨k+1,1,by omega,by go_num,rfl,HN⟩
     case measure=>simp[intOf];omega
    ·have hkb:(k:Int)<(m:Int):=by omega
     have xb:((db k:Nat):Int)<=65535:=by have:=Hb.out k (by omega);omega
     have xb0:(0:Int)<=(db k:Nat):=by omega
     have eb:wr.cell? ⟨bb,k,none⟩=some (.int .u64 (db k:Nat)):=(HBEL.out.cell (p:=⟨bb,k,none⟩) HB.out.1).trans (HB.out.2 k (by omega));have eb':pad db m k=db k:=by simp only[pad];rw[if_pos (by omega)]
     obtain⟨y,hy⟩:∃ y:Nat,(c:Int)+(db k:Nat)=(y:Int):=⟨c+db k,by omega⟩
     have hyc:y=c+pad db m k:=by rw[eb'];omega
     have HYC:=Lib.hid hyc;clear hyc eb';have hyb:(y:Int)<=65536:=by omega
     have hy0:(0:Int)<=y:=by omega
     have hlt:¬((da k:Nat):Int)<(y:Int):=by omega
     obtain⟨z,hz⟩:∃ z:Nat,((da k:Nat):Int) - (y:Int)=(z:Int):=⟨da k - y,by omega⟩
     have hzl:z<65536:=by omega
     have hzx:z+(c+pad db m k)=da k+65536*0:=by have:=HYC.out;omega
     have HZX:=Lib.hid hzx;clear hzx;have HZL:=Lib.hid hzl;clear hzl
     go_wp2_with (at_builtin;refine wpList_append_own _ rfl (.tmp 37) (.tmp 41) 86 rfl w.heap.size 22 i0 (.int .u64 0) 1 8 Tryz.underlying86 hi hz0 hz1 hz2 rfl (by decide) _ _ _ rfl (HO.out.alloc _) ⟨wr.heap.size,0,none⟩ 1 1 [.int .u64 (z:Int)] rfl rfl ?d101 ?d102 ?d103 ?d104 ?d105 ?_)
     try (case d101=>exact cell_one_new _ _ _)
     try (case d102=>first | rfl | (intro u hu;simp at hu;subst hu;rfl))
     try (case d103=>unfold maxLen;omega)
     try (case d104=>omega)
     try (case d105=>have:=HSZ.out;first | omega | (simp;omega))
     intro v' w1 hown' hgrow _;have HN:=Lib.hid (min_next (n:=n) (m:=m) (da:=da) (db:=db) HO.out HNS.out HVAL.out HBEL.out HSZ.out HZL.out (by omega) HZX.out hown' hgrow);clear hown' hgrow;go_wp2
     go_roundw
     case rel=>exact⟨k+1,0,by omega,by go_num,rfl,HN⟩
     case measure=>simp[intOf];omega
   ·by_cases h3:da k<c
    ·have hkb:¬(k:Int)<(m:Int):=by omega
     have eb':pad db m k=0:=by simp only[pad];rw[if_neg (by omega)]
     obtain⟨y,hy⟩:∃ y:Nat,c=y:=⟨c,rfl⟩
     subst hy;have hyc:c=c+pad db m k:=by rw[eb'];omega
     have HYC:=Lib.hid hyc;clear hyc eb';have hyb:(c:Int)<=65536:=by omega
     have hy0:(0:Int)<=c:=by omega
     have hlt:((da k:Nat):Int)<(c:Int):=by omega
     obtain⟨z,hz⟩:∃ z:Nat,((da k:Nat):Int)+65536 - (c:Int)=(z:Int):=⟨da k+65536 - c,by omega⟩
     have hzl:z<65536:=by omega
     have hzx:z+(c+pad db m k)=da k+65536*1:=by have:=HYC.out;omega
     have HZX:=Lib.hid hzx;clear hzx;have HZL:=Lib.hid hzl;clear hzl
     go_wp2_with (at_builtin;refine wpList_append_own _ rfl (.tmp 37) (.tmp 41) 86 rfl w.heap.size 22 i0 (.int .u64 0) 1 8 Tryz.underlying86 hi hz0 hz1 hz2 rfl (by decide) _ _ _ rfl (HO.out.alloc _) ⟨wr.heap.size,0,none⟩ 1 1 [.int .u64 (z:Int)] rfl rfl ?d011 ?d012 ?d013 ?d014 ?d015 ?_)
     try (case d011=>exact cell_one_new _ _ _)
     try (case d012=>first | rfl | (intro u hu;simp at hu;subst hu;rfl))
     try (case d013=>unfold maxLen;omega)
     try (case d014=>omega)
     try (case d015=>have:=HSZ.out;first | omega | (simp;omega))
     intro v' w1 hown' hgrow _;have HN:=Lib.hid (min_next (n:=n) (m:=m) (da:=da) (db:=db) HO.out HNS.out HVAL.out HBEL.out HSZ.out HZL.out (by omega) HZX.out hown' hgrow);clear hown' hgrow;go_wp2
     go_roundw
     case rel=>exact⟨k+1,1,by omega,by go_num,rfl,HN⟩
     case measure=>simp[intOf];omega
    ·have hkb:¬(k:Int)<(m:Int):=by omega
     have eb':pad db m k=0:=by simp only[pad];rw[if_neg (by omega)]
     obtain⟨y,hy⟩:∃ y:Nat,c=y:=⟨c,rfl⟩
     subst hy;have hyc:c=c+pad db m k:=by rw[eb'];omega
     have HYC:=Lib.hid hyc;clear hyc eb';have hyb:(c:Int)<=65536:=by omega
     have hy0:(0:Int)<=c:=by omega
     have hlt:¬((da k:Nat):Int)<(c:Int):=by omega
     obtain⟨z,hz⟩:∃ z:Nat,((da k:Nat):Int) - (c:Int)=(z:Int):=⟨da k - c,by omega⟩
     have hzl:z<65536:=by omega
     have hzx:z+(c+pad db m k)=da k+65536*0:=by have:=HYC.out;omega
     have HZX:=Lib.hid hzx;clear hzx;have HZL:=Lib.hid hzl;clear hzl
     go_wp2_with (at_builtin;refine wpList_append_own _ rfl (.tmp 37) (.tmp 41) 86 rfl w.heap.size 22 i0 (.int .u64 0) 1 8 Tryz.underlying86 hi hz0 hz1 hz2 rfl (by decide) _ _ _ rfl (HO.out.alloc _) ⟨wr.heap.size,0,none⟩ 1 1 [.int .u64 (z:Int)] rfl rfl ?d001 ?d002 ?d003 ?d004 ?d005 ?_)
     try (case d001=>exact cell_one_new _ _ _)
     try (case d002=>first | rfl | (intro u hu;simp at hu;subst hu;rfl))
     try (case d003=>unfold maxLen;omega)
     try (case d004=>omega)
     try (case d005=>have:=HSZ.out;first | omega | (simp;omega))
     intro v' w1 hown' hgrow _;have HN:=Lib.hid (min_next (n:=n) (m:=m) (da:=da) (db:=db) HO.out HNS.out HVAL.out HBEL.out HSZ.out HZL.out (by omega) HZX.out hown' hgrow);clear hown' hgrow;go_wp2
     go_roundw
     case rel=>exact⟨k+1,0,by omega,by go_num,rfl,HN⟩
     case measure=>simp[intOf];omega
  ·have hka:¬(k:Int)<(n:Int):=by omega
   obtain rfl:k=n:=by omega
   have hc2:=min_end HVAL.out HC.out (vd_lt HNS.out) HLE.out (pad_le db m k);have R:=made_of (Nat.le_refl _) HO.out HN0.out HNS.out HBEL.out;have hpe:vd (pad db m) k=vd db m:=by
    by_cases q:m<=k
    ·exact vd_pad _ _ _ q
    ·have h5:=vd_small (d:=db) (n:=k) (m:=m) (Nat.lt_of_le_of_lt HLE.out (vd_lt Ha.out))
     rw[vd_full (d:=db) k m h5 (by omega)];exact vd_congr (fun j hj=>by simp only[pad];rw[if_pos (by omega)])
   have hfin:vd ns k=vd da k - vd db m:=by have:=HVAL.out;rw[hc2,hpe]at this;omega
   rw[hfin]at R;have HR:=Lib.hid R;clear R hfin hpe hc2;go_wp2;go_ret;exact HR.out
open Go.RowKit
def below1(x:Nat)(d:Nat->Nat)(j:Nat):Nat:=if j=0 then x else d (j - 1)
theorem vd_below1(x:Nat)(d:Nat->Nat):∀ n,vd (below1 x d) (n+1)=x+65536*vd d n
 | 0=>by simp[vd,below1]
 | n+1=>by
  rw[vd,vd_below1 x d n,vd,Nat.mul_add,<- Nat.mul_assoc,Nat.pow_succ,Nat.mul_comm (65536^n) 65536];simp only[below1];rw[if_neg (by omega),Nat.add_sub_cancel,Nat.add_assoc]
theorem below1_lt{x n:Nat}{d:Nat->Nat}(hx:x<65536)(hd:∀ j,j<n->d j<65536):∀ j,j<n+1->below1 x d j<65536:=fun j hj=>by
 unfold below1;split
 ·exact hx
 ·exact hd _ (by omega)
theorem dl_below1(x:Nat)(d:Nat->Nat)(n:Nat):Value.int .u64 (x:Nat)::dl d n=dl (below1 x d) (1+n):=by
 unfold dl;rw[Nat.add_comm 1 n,List.range_succ_eq_map,List.map_cons,List.map_map];rfl
structure DivR (w:World) (n m i c:Nat) (da q:Nat->Nat) (D:Nat) (Q g nr:Nat) (dr:Nat->Nat) (wr:World):Prop where
 old:Below w.heap.size w wr
 rest:Dg wr g nr dr
 apart:w.heap.size<g
 hQ:Q=w.heap.size
 restl:∀ j,j<nr->dr j<65536
 long:nr<=m+1
 out:OutAt wr Q n q
 outl:∀ j,j<n->q j<65536
 todo:∀ j,j<i->q j=0
 bits:q i%2^c=0
 sum:vd q n*D+(vd da i+65536^i*vd dr nr)=vd da n
 less:vd dr nr<2^c*D
theorem OutAt.below{wr w':World}{B L:Nat}{o:Nat->Nat}(h:OutAt wr B L o)(hb:Below wr.heap.size wr w'):OutAt w' B L o :=
 ⟨Nat.lt_of_lt_of_le h.1 hb.size,fun j hj=>⟨(hb.cell (p:=⟨B,j,none⟩) h.1).trans (h.2 j hj).1,(hb.frozen (p:=⟨B,j,none⟩) h.1).trans (h.2 j hj).2⟩⟩
theorem div_no{r c D:Nat}(h:¬2^c*D<=r):r<2^c*D:=by omega
theorem bits_half{x c:Nat}(h:x%2^(c+1)=0):x%2^c=0:=by
 rw[Nat.pow_succ]at h;have h1:x%(2^c*2)%2^c=x%2^c:=Nat.mod_mul_right_mod _ _ _;rw[h,Nat.zero_mod]at h1;exact h1.symm
theorem bits_more{x c:Nat}(h:x%2^(c+1)=0):(x+2^c)%2^c=0:=by rw[Nat.add_mod_right];exact bits_half h
theorem bits_room{x c:Nat}(h:x%2^(c+1)=0)(hx:x<65536)(hc:c<16):x+2^c<65536:=by
 have hp:=Nat.two_pow_pos c;obtain⟨k,hk⟩:=Nat.dvd_of_mod_eq_zero h;have hd:(65536:Nat)=2^(c+1)*2^(15 - c):=by rw[<- Nat.pow_add,show c+1+(15 - c)=16 by omega]
 have hk2:k<2^(15 - c):=by
  rw[hk,hd]at hx;exact Nat.lt_of_mul_lt_mul_left hx
 have h3:2^(c+1)*(k+1)<=2^(c+1)*2^(15 - c):=Nat.mul_le_mul_left _ hk2;rw[<- hd,Nat.mul_add,<- hk,Nat.pow_succ]at h3;omega
theorem bits_or_up{x c:Nat}(h:x%2^(c+1)=0)(hx:x<65536)(hc:c<16):bits .or .u64 (x:Int) (2^c)=((x+2^c:Nat):Int):=by
 have hp:2^c<65536:=by
  rw[show(65536:Nat)=2^16 by rfl];exact Nat.pow_lt_pow_right (by omega) hc
 have h1:=bits_or_u64_nat x (2^c) (by omega) (by omega);have e0:((2^c:Nat):Int)=2^c:=by simp
 rw[e0]at h1;rw[h1];congr 1;obtain⟨k,hk⟩:=Nat.dvd_of_mod_eq_zero h;rw[hk,<- Nat.two_pow_add_eq_or_of_lt (Nat.pow_lt_pow_right (by omega) (Nat.lt_succ_self c))]
theorem div_sum{V q r i' R D A P t D':Nat}(h:q*D+(A+P*r)=V)(hr:r=R+D')(hD':D'=t*D)(hi:i'=q+P*t):i'*D+(A+P*R)=V:=by
 subst hi hD' hr;rw[<- h];grind
theorem DivR.zero{w wr:World}{n m i c D Q g nr:Nat}{da q dr:Nat->Nat}(h:DivR w n m i (c+1) da q D Q g nr dr wr){w':World}(hb:Below wr.heap.size wr w')(hl:¬2^c*D<=vd dr nr):DivR w n m i c da q D Q g nr dr w' :=
 ⟨h.old.trans (hb.mono h.old.size),h.rest.below hb,h.apart,h.hQ,h.restl,h.long,h.out.below hb,h.outl,h.todo,bits_half h.bits,h.sum,div_no hl⟩
theorem DivR.one{w wr:World}{n m i c D Q g nr:Nat}{da q dr:Nat->Nat}(h:DivR w n m i (c+1) da q D Q g nr dr wr){w':World}{g':Nat}{dr':Nat->Nat}(hi:i<n)(hc:c<16)(hb:Below wr.heap.size wr w')(hl:2^c*D<=vd dr nr)
  (hr:Dg w' g' nr dr') (hg:wr.heap.size<=g') (hrl:∀ j,j<nr->dr' j<65536) (hv:vd dr' nr=vd dr nr - 2^c*D) :
  DivR w n m i c da (upd q i (q i+2^c)) D Q g' nr dr' (w'.setCell ⟨Q,i,none⟩ (.int .u64 ((q i+2^c:Nat):Int))):=by
 have hlt:=h.out.1;have hroom:=bits_room h.bits (h.outl i hi) hc;have hq:=vd_set q i (q i+2^c) n hi;have hQg:g'≠Q:=by omega
 refine⟨(h.old.trans (hb.mono h.old.size)).setCell (by show w.heap.size<=Q;rw[h.hQ];exact Nat.le_refl _) _,⟨by simpa using hr.1,fun j hj=>?_⟩,by have:=h.old.size;have:=h.hQ;omega,h.hQ,hrl,h.long,?_,fun j hj=>?_,fun j hj=>?_,?_,?_,?_⟩
 ·rw[World.cell?_setCell_other _ _ _ _ (fun e=>hQg (congrArg Addr.block e).symm)];exact hr.2 j hj
 ·exact(h.out.below hb).set i _ hi
 ·unfold upd;split
  ·exact hroom
  ·exact h.outl j hj
 ·unfold upd;rw[if_neg (by omega)];exact h.todo j hj
 ·simp only[upd];rw[if_pos trivial];exact bits_more h.bits
 ·refine div_sum h.sum (r:=vd dr nr) (R:=vd dr' nr) (D':=2^c*D) (t:=2^c) (by omega) rfl ?_
  rw[Nat.mul_add]at hq;omega
 ·rw[hv]
  have h1:=h.less;rw[Nat.pow_succ,Nat.mul_comm (2^c) 2,Nat.mul_assoc]at h1;omega
open Go.RowKit
theorem own_one(w:World)(x:Nat):(w.alloc (.cells #[.int .u64 (x:Nat)] 22)).ownsRow w.heap.size 22 1 (.slice (some ⟨w.heap.size,0,none⟩) 1 1) 1 [.int .u64 (x:Nat)] :=
 ⟨by simp,.inr ⟨w.heap.size,1,#[.int .u64 (x:Nat)],rfl,Nat.le_refl _,heap_alloc_new _ _,Nat.le_refl _,by unfold maxLen;omega,by simp,by simp⟩⟩
theorem own_dg{w:World}{base k:Nat}{v:Value}{d:Nat->Nat}(h:w.ownsRow base 22 1 v k (dl d k))(hk:0<k):∃ g cap,v=.slice (some ⟨g,0,none⟩) k cap/\base<=g/\k<=cap/\Dg w g k d:=by
 obtain⟨-,h1⟩:=h;rcases h1 with⟨-,h0⟩ | ⟨g,cap,cur,rfl,hg,hc,hnc,hm,hcs,ht⟩
 ·omega
 ·refine⟨g,cap,rfl,hg,hnc,(Array.getElem?_eq_some_iff.1 hc).1,fun j hj=>?_⟩
  rw[cell_of_row _ _ _ _ _ _ hc,<- dl_at d k j hj,<- ht];simp only[Nat.mul_one,List.getElem?_take,hj,if_true];simp
theorem slice_head(g len cap h:Nat)(hh:(h:Int)+1<=cap)(w:World):(Instr.slice 86 (.slice (some ⟨g,0,none⟩) len cap) none (some (.int .i64 ((h:Int)+1))) none).run Tryz.prog w=.ok (.slice (some ⟨g,0,none⟩) (h+1) cap) w:=by
 have hsz:(sizeOf (Tryz.prog.elem 86)).run Tryz.prog w=.ok 1 w:=by kernel_rfl
 rw[run_slice_h w 86 (some ⟨g,0,none⟩) len cap (by kernel_rfl) .i64 _ (by omega) hh,hsz];simp only[Result.andThen,sliced];rw[show((h:Int)+1).toNat=h+1 by omega];simp[Addr.add]
theorem div_open{w wr w1:World}{n m i D Q g nr g' nr':Nat}{da q dr:Nat->Nat}(h:DivR w n m (i+1) 0 da q D Q g nr dr wr)(hb:Below wr.heap.size wr w1)(hg:wr.heap.size<=g')(hr:Dg w1 g' nr' (below1 (da i) dr))(hda:da i<65536)(hD:D<=65536^m)
  (hn:nr'=1+nr\/nr'=m+1/\nr'<=1+nr) (hl:nr'<=m+1):DivR w n m i 16 da q D Q g' nr' (below1 (da i) dr) w1:=by
 have hlt:=h.out.1;have hless:=h.less;rw[Nat.pow_zero,Nat.one_mul]at hless;have hv:vd (below1 (da i) dr) (1+nr)=da i+65536*vd dr nr:=by rw[Nat.add_comm 1 nr];exact vd_below1 _ _ _
 have hlim:da i+65536*vd dr nr<65536*D:=by omega
 have hv2:vd (below1 (da i) dr) nr'=da i+65536*vd dr nr:=by
  rcases hn with rfl | ⟨rfl,hle⟩
  ·exact hv
  ·rw[<- hv]
   refine(vd_full (m+1) (1+nr) (vd_small ?_) hle).symm;rw[hv,Nat.pow_succ,Nat.mul_comm (65536^m)];exact Nat.lt_of_lt_of_le hlim (Nat.mul_le_mul_left _ hD)
 have hle2:nr'<=nr+1:=by rcases hn with rfl | ⟨-,h⟩ <;> omega
 refine⟨h.old.trans (hb.mono h.old.size),hr,by have:=h.old.size;have:=h.hQ;omega,h.hQ,fun j hj=>below1_lt hda h.restl j (by omega),hl,h.out.below hb,h.outl,fun j hj=>h.todo j (by omega),by rw[h.todo i (by omega)],?_,?_⟩
 ·have hs:=h.sum
  rw[hv2,<- hs];simp only[vd];rw[Nat.mul_add,Nat.pow_succ,Nat.mul_assoc,Nat.add_assoc (vd da i)]
 ·rw[hv2];exact hlim
theorem dg_one(w:World)(x:Nat):Dg (w.alloc (.cells #[.int .u64 (x:Nat)] 22)) w.heap.size 1 (fun _=>x) :=
 ⟨by simp,fun j hj=>by obtain rfl:j=0:=(by omega);exact(cell_of_row _ _ 0 _ _ _ (heap_alloc_new _ _)).trans rfl⟩
theorem news_dl{w:World}{g nr:Nat}{dr:Nat->Nat}(h:Dg w g nr dr):∀ j u,(dl dr nr)[j]?=some u->w.cell? ((⟨g,0,none⟩:Addr).add j)=some u:=fun j u hj=>by
 have hj2:j<nr:=by
  have:=(List.getElem?_eq_some_iff.1 hj).1;rwa [dl_len]at this
 rw[dl_at _ _ _ hj2]at hj;cases hj;have h:=h.2 j hj2;cases j with
 | zero=>simpa[Addr.add]using h
 | succ j=>simpa[Addr.add]using h
theorem one_dl(dr:Nat->Nat)(nr:Nat):∀ u∈dl dr nr,u.oneCell'=true:=fun u hu=>by
 unfold dl at hu;rw[List.mem_map]at hu;obtain⟨j,-,rfl⟩:=hu;rfl
def DivPostR(n m:Nat)(A D:Nat)(w:World)(e:Ending)(w':World):Prop :=
 ∃(Q g nr cap:Nat) (q dr:Nat->Nat),e=.returned (.tuple #[.slice (some ⟨Q,0,none⟩) n n,.slice (some ⟨g,0,none⟩) nr cap])/\Dg w' Q n q/\Dg w' g nr dr/\nr<=m+1/\(∀ j,j<n->q j<65536)/\(∀ j,j<nr->dr j<65536)/\vd q n=A / D/\vd dr nr=A%D/\Below w.heap.size w w'
theorem div_done{w wr:World}{n m D Q g nr:Nat}{da q dr:Nat->Nat}(h:DivR w n m 0 0 da q D Q g nr dr wr):vd q n=vd da n / D/\vd dr nr=vd da n%D:=by
 have h1:=h.sum;have h2:=h.less;simp only[vd,Nat.pow_zero,Nat.one_mul,Nat.zero_add]at h1 h2;constructor
 ·rw[<- h1,Nat.add_comm,Nat.mul_comm,Nat.add_mul_div_left _ _ (by omega),Nat.div_eq_of_lt h2,Nat.zero_add]
 ·rw[<- h1,Nat.add_comm,Nat.mul_comm,Nat.add_mul_mod_self_left,Nat.mod_eq_of_lt h2]
theorem divide_ref(ba ca bb cb n m:Nat)(da db:Nat->Nat)(hn:(n:Int)<=1000)(hm:(m:Int)<=1000)(ha:∀ j,j<n->da j<65536)(hb:∀ j,j<m->db j<65536)(hD:0<vd db m)(w:World)(hA:Dg w ba n da)(hB:Dg w bb m db) :
  Calls Tryz.prog 99 #[.slice (some ⟨ba,0,none⟩) n ca,.slice (some ⟨bb,0,none⟩) m cb] w (DivPostR n m (vd da n) (vd db m) w):=by
 have Ha:=Lib.hid ha;clear ha;have hDm:=Nat.le_of_lt (vd_lt hb);have Hb:=Lib.hid hb;clear hb;have HA:=Lib.hid hA;clear hA;have HB:=Lib.hid hB;clear hB;have HD:=Lib.hid hD;clear hD;have HDM:=Lib.hid hDm;clear hDm;have hn0:(0:Int)<=n:=by omega
 have hm0:(0:Int)<=m:=by omega
 obtain⟨i0,hi,hz0,hz1,hz2⟩:=info_parts info22;go_enter Tryz.func99,Tryz.ntmps99
 go_wp2_with (at_make;refine wpList_make_full _ rfl _ _ 86 rfl w.heap.size 22 i0 (.int .u64 0) 1 Tryz.underlying86 hi hz0 hz1 .i64 .i64 _ _ n rfl rfl rfl rfl (by rw[hz2];omega) (by unfold maxLen;omega) (Nat.le_refl _) ?_;intro w0 hown0 hgrow0)
 have hout:OutAt w0 w.heap.size n (fun _=>0):=⟨(hown0.lt _ rfl).2,fun j hj=>⟨(hown0.cellAt j (by omega)).trans (madeCells_at n j hj),hown0.frozenAt j⟩⟩
 have hbel:Below w.heap.size w w0:=(Below.refl _ _).grown hgrow0 (Nat.le_refl _) (fun k hk=>by cases hk);have hlt0:=hout.1;have HW:=Lib.hid (And.intro hout hbel);clear hout hbel hown0 hgrow0
 go_wp2_with fail
 go_loopw [7,8] (fun rv iv wr=>∃(z:Int) (c g nr cap:Nat) (q dr:Nat->Nat),c<=n/\z=(c:Int) - 1/\iv=.int .i64 z/\rv=.slice (some ⟨g,0,none⟩) nr cap/\Hid (DivR w n m c 0 da q (vd db m) w.heap.size g nr dr wr)) (fun _ iv _=>(intOf iv+1).toNat)
 case atStart =>
  refine⟨(n:Int) - 1,n,w0.heap.size,0,0,fun _=>0,fun _=>0,Nat.le_refl _,rfl,rfl,rfl,Lib.hid ⟨HW.out.2.trans (by go_grown),⟨by simp,fun j hj=>by omega⟩,hlt0,rfl,fun j hj=>by omega,by omega,HW.out.1.below (by go_grown),fun j _=>by show 0<65536;omega,fun _ _=>rfl,rfl,?_,?_⟩⟩
  ·have:∀ L,vd (fun _=>0) L=0:=fun L=>by induction L with
    | zero=>rfl
    | succ L ih=>simp[vd,ih]
   rw[this];simp[vd]
  ·show 0<_;rw[Nat.pow_zero,Nat.one_mul];exact HD.out
 case round =>
  obtain⟨z,c,g,nr,cap,q,dr,hc,hz,rfl,rfl,H⟩:=hrel;cases c with
  | zero =>
   have hz1:z<0:=by omega
   have hzf:decide (0<=z)=false:=by rw[decide_eq_false_iff_not];omega
   have hd:=div_done H.out;have HF:=Lib.hid hd;clear hd;have HZ:=Lib.hid hz;clear hz;go_wp2
   go_ret2
   exact⟨_,_,_,_,q,dr,rfl,⟨H.out.out.1,fun j hj=>(H.out.out.2 j hj).1⟩,H.out.rest,H.out.long,H.out.outl,H.out.restl,HF.out.1,HF.out.2,H.out.old⟩
  | succ i =>
   obtain rfl:z=(i:Int):=by omega
   have hi0:(0:Int)<=i:=by omega
   have hin:(i:Int)<n:=by omega
   have hnr:(nr:Int)<=m+1:=by have:=H.out.long;omega
   have hnr0:(0:Int)<=nr:=by omega
   have ea:wr.cell? ⟨ba,i,none⟩=some (.int .u64 (da i:Nat)):=(H.out.old.cell (p:=⟨ba,i,none⟩) HA.out.1).trans (HA.out.2 i (by omega));have HEN:=Lib.hid (own_one wr (da i));clear hz
   go_wp2_with (at_builtin;refine wpList_append_own _ rfl (.tmp 26) (.tmp 27) 86 rfl wr.heap.size 22 i0 (.int .u64 0) 1 8 Tryz.underlying86 hi hz0 hz1 hz2 rfl (by decide) _ _ _ rfl HEN.out ⟨g,0,none⟩ nr cap (dl dr nr) rfl (by rw[dl_len,Nat.mul_one]) ?d1 ?d2 ?d3 ?d4 ?d5 ?_)
   try (case d1=>exact news_dl (H.out.rest.below ((Below.refl wr.heap.size wr).alloc (Nat.le_refl _) (.cells #[.int .u64 (da i:Nat)] 22))))
   try (case d2=>exact one_dl _ _)
   try (case d3=>unfold maxLen;omega)
   try (case d4=>omega)
   try (case d5=>first | omega | (simp;done) | (simp;omega))
   intro v' w1 hown' hgrow _;rw[dl_below1]at hown';obtain⟨g',cap',rfl,hg',hcap',hdg'⟩:=own_dg hown' (by omega);have hbw:Below wr.heap.size wr w1:=((Below.refl _ _).alloc (Nat.le_refl _) _).grown hgrow (by simp) (fun j hj=>by cases hj;exact Nat.le_refl _);have HN:=Lib.hid (And.intro hbw (And.intro hg' hdg'));clear hown' hgrow hg' hdg' hbw HEN ea;have hda:da i<65536:=Ha.out i (by omega);by_cases ht:m+1<1+nr
   ·have ht1:(m:Int)+1<1+(nr:Int):=by omega
    have ht2:decide ((m:Int)+1<1+(nr:Int))=true:=by rw[decide_eq_true_iff];exact ht1
    have hsl:=slice_head g' (1+nr) cap' m (by omega);have HI:=Lib.hid (div_open H.out HN.out.1 HN.out.2.1 ⟨HN.out.2.2.1,fun j hj=>HN.out.2.2.2 j (by omega)⟩ hda HDM.out (.inr ⟨rfl,by omega⟩) (Nat.le_refl (m+1)));clear ht hda
    go_wp2_with fail
    go_loopw [7,9] (fun rv kv wx=>∃(z:Int) (c g nr cap:Nat) (q dr:Nat->Nat),c<=16/\z=(c:Int) - 1/\kv=.int .i64 z/\rv=.slice (some ⟨g,0,none⟩) nr cap/\0<nr/\Hid (DivR w n m i c da q (vd db m) w.heap.size g nr dr wx)) (fun _ kv _=>(intOf kv+1).toNat)
    case atStart=>exact⟨15,16,g',(m+1),cap',q,below1 (da i) dr,by omega,rfl,rfl,rfl,by omega,HI⟩
    case round =>
     obtain⟨z,c2,g2,nr2,cap2,q2,dr2,hc2,hz2,rfl,rfl,hnr2,H2⟩:=hrel;cases c2 with
     | zero =>
      have hz1:z<0:=by omega
      have hzf:decide (0<=z)=false:=by rw[decide_eq_false_iff_not];omega
      have HZ:=Lib.hid hz2;clear hz2
      go_wp2_with fail
      go_roundw
      case rel=>exact⟨(i:Int) - 1,i,g2,nr2,cap2,q2,dr2,by omega,rfl,rfl,rfl,H2⟩
      case measure=>first | (simp[intOf];done) | (simp[intOf];omega)
     | succ k =>
      obtain rfl:z=(k:Int):=by omega
      have hk0:(0:Int)<=k:=by omega
      have hk1:(k:Int)<=15:=by omega
      clear hz2;obtain⟨p,hp⟩:∃ p:Nat,2^k=p:=⟨_,rfl⟩
      have hpl:p<65536:=by rw[<- hp,show(65536:Nat)=2^16 by rfl];exact Nat.pow_lt_pow_right (by omega) (by omega)
      have hpw:IntKind.u64.wrap ((2:Int)^k)=(p:Int):=by
       have e0:((2^k:Nat):Int)=(2:Int)^k:=by simp
       rw[<- e0,hp,IntKind.wrap_u64];omega
      have hqi:=H2.out.out.2 i (by omega);have hor:bits .or .u64 ((q2 i:Nat):Int) (p:Int)=((q2 i+p:Nat):Int):=by
       have h:=bits_or_up H2.out.bits (H2.out.outl i (by omega)) (by omega);have e0:((2^k:Nat):Int)=(2:Int)^k:=by simp
       rw[<- e0,hp]at h;exact h
      have HOR:=Lib.hid hor;clear hor;have HQI:=Lib.hid hqi;clear hqi;have HPL:=Lib.hid hpl;clear hpl;have HP:=Lib.hid hp;clear hp;have hlw:w.heap.size<wr.heap.size:=H2.out.out.1
      go_wp2_with fail
      refine(product_digits bb cb wr.heap.size 1 m 1 db (fun _=>p) (by omega) (by omega) Hb.out (fun _ _=>HPL.out) _ (HB.out.below (H2.out.old.trans ((Below.refl _ _).alloc (by omega) _))) (dg_one wr p)).mono ?_;rintro e w2 ⟨bt,capt,dt,rfl,hbt,hDt,hdtl,hdtv,hbp⟩;have hvt:vd dt (m+1)=2^k*vd db m:=by rw[hdtv,HP.out];simp[vd,Nat.mul_comm]
      have hb1:Below wr.heap.size wr w2:=((Below.refl _ _).alloc (Nat.le_refl _) _).trans (hbp.mono (by simp));have HT:=Lib.hid (And.intro hDt (And.intro hdtl (And.intro hvt hb1)));clear hbt hDt hdtl hdtv hbp hvt hb1;have HR2:=Lib.hid (H2.out.rest.below HT.out.2.2.2);have hnl:(nr2:Int)<=m+1:=by have:=H2.out.long;omega
      by_cases hle:2^k*vd db m<=vd dr2 nr2
      ·have hbo:decide (vd dr2 nr2<vd dt (m+1))=false:=by rw[decide_eq_false_iff_not,HT.out.2.2.1];omega
       have HLE:=Lib.hid hle;clear hle
       go_wp2_with fail
       refine(less_any g2 cap2 bt capt nr2 (m+1) dr2 dt (by omega) (by omega) H2.out.restl HT.out.2.1 w2 HR2.out HT.out.1).mono ?_;rintro e w3 ⟨rfl,rfl⟩;rw[hbo]
       go_wp2_with fail
       refine(minus_any g2 cap2 bt capt nr2 (m+1) dr2 dt hnr2 (by omega) (by omega) H2.out.restl HT.out.2.1 (by rw[HT.out.2.2.1];exact HLE.out) w2 HR2.out HT.out.1).mono ?_;rintro e w4 ⟨b4,cap4,d4,rfl,hb4,hD4,hd4l,hd4v,hbm⟩;have hb2:Below wr.heap.size wr w4:=HT.out.2.2.2.trans (hbm.mono HT.out.2.2.2.size);have hcq:w4.cell? ⟨w.heap.size,i,none⟩=some (.int .u64 (q2 i:Nat)):=(hb2.cell (p:=⟨w.heap.size,i,none⟩) hlw).trans HQI.out.1;have hfq:w4.frozen? ⟨w.heap.size,i,none⟩=false:=(hb2.frozen (p:=⟨w.heap.size,i,none⟩) hlw).trans HQI.out.2;have hone:=H2.out.one (w':=w4) (g':=b4) (dr':=d4) (by omega) (by omega) hb2 HLE.out hD4 (Nat.le_trans HT.out.2.2.2.size hb4) hd4l (by rw[hd4v,HT.out.2.2.1]);rw[HP.out]at hone;have HONE:=Lib.hid hone;clear hone hb4 hD4 hd4l hd4v hbm hb2
       go_wp2_with fail
       rw[HOR.out]
       go_roundw
       case rel=>exact⟨(k:Int) - 1,k,b4,nr2,cap4,_,d4,by omega,rfl,rfl,rfl,hnr2,HONE⟩
       case measure=>first | (simp[intOf];done) | (simp[intOf];omega)
      ·have hbo:decide (vd dr2 nr2<vd dt (m+1))=true:=by rw[decide_eq_true_iff,HT.out.2.2.1];omega
       have HZ:=Lib.hid (H2.out.zero HT.out.2.2.2 hle);clear hle
       go_wp2_with fail
       refine(less_any g2 cap2 bt capt nr2 (m+1) dr2 dt (by omega) (by omega) H2.out.restl HT.out.2.1 w2 HR2.out HT.out.1).mono ?_;rintro e w3 ⟨rfl,rfl⟩;rw[hbo]
       go_wp2_with fail
       go_roundw
       case rel=>exact⟨(k:Int) - 1,k,g2,nr2,cap2,q2,dr2,by omega,rfl,rfl,rfl,hnr2,HZ⟩
       case measure=>first | (simp[intOf];done) | (simp[intOf];omega)
   ·have ht1:¬(m:Int)+1<1+(nr:Int):=by omega
    have ht2:decide ((m:Int)+1<1+(nr:Int))=false:=by rw[decide_eq_false_iff_not];exact ht1
    have HI:=Lib.hid (div_open H.out HN.out.1 HN.out.2.1 HN.out.2.2 hda HDM.out (.inl rfl) (by omega));clear ht hda
    go_wp2_with fail
    go_loopw [7,9] (fun rv kv wx=>∃(z:Int) (c g nr cap:Nat) (q dr:Nat->Nat),c<=16/\z=(c:Int) - 1/\kv=.int .i64 z/\rv=.slice (some ⟨g,0,none⟩) nr cap/\0<nr/\Hid (DivR w n m i c da q (vd db m) w.heap.size g nr dr wx)) (fun _ kv _=>(intOf kv+1).toNat)
    case atStart=>exact⟨15,16,g',(1+nr),cap',q,below1 (da i) dr,by omega,rfl,rfl,rfl,by omega,HI⟩
    case round =>
     obtain⟨z,c2,g2,nr2,cap2,q2,dr2,hc2,hz2,rfl,rfl,hnr2,H2⟩:=hrel;cases c2 with
     | zero =>
      have hz1:z<0:=by omega
      have hzf:decide (0<=z)=false:=by rw[decide_eq_false_iff_not];omega
      have HZ:=Lib.hid hz2;clear hz2
      go_wp2_with fail
      go_roundw
      case rel=>exact⟨(i:Int) - 1,i,g2,nr2,cap2,q2,dr2,by omega,rfl,rfl,rfl,H2⟩
      case measure=>first | (simp[intOf];done) | (simp[intOf];omega)
     | succ k =>
      obtain rfl:z=(k:Int):=by omega
      have hk0:(0:Int)<=k:=by omega
      have hk1:(k:Int)<=15:=by omega
      clear hz2;obtain⟨p,hp⟩:∃ p:Nat,2^k=p:=⟨_,rfl⟩
      have hpl:p<65536:=by rw[<- hp,show(65536:Nat)=2^16 by rfl];exact Nat.pow_lt_pow_right (by omega) (by omega)
      have hpw:IntKind.u64.wrap ((2:Int)^k)=(p:Int):=by
       have e0:((2^k:Nat):Int)=(2:Int)^k:=by simp
       rw[<- e0,hp,IntKind.wrap_u64];omega
      have hqi:=H2.out.out.2 i (by omega);have hor:bits .or .u64 ((q2 i:Nat):Int) (p:Int)=((q2 i+p:Nat):Int):=by
       have h:=bits_or_up H2.out.bits (H2.out.outl i (by omega)) (by omega);have e0:((2^k:Nat):Int)=(2:Int)^k:=by simp
       rw[<- e0,hp]at h;exact h
      have HOR:=Lib.hid hor;clear hor;have HQI:=Lib.hid hqi;clear hqi;have HPL:=Lib.hid hpl;clear hpl;have HP:=Lib.hid hp;clear hp;have hlw:w.heap.size<wr.heap.size:=H2.out.out.1
      go_wp2_with fail
      refine(product_digits bb cb wr.heap.size 1 m 1 db (fun _=>p) (by omega) (by omega) Hb.out (fun _ _=>HPL.out) _ (HB.out.below (H2.out.old.trans ((Below.refl _ _).alloc (by omega) _))) (dg_one wr p)).mono ?_;rintro e w2 ⟨bt,capt,dt,rfl,hbt,hDt,hdtl,hdtv,hbp⟩;have hvt:vd dt (m+1)=2^k*vd db m:=by rw[hdtv,HP.out];simp[vd,Nat.mul_comm]
      have hb1:Below wr.heap.size wr w2:=((Below.refl _ _).alloc (Nat.le_refl _) _).trans (hbp.mono (by simp));have HT:=Lib.hid (And.intro hDt (And.intro hdtl (And.intro hvt hb1)));clear hbt hDt hdtl hdtv hbp hvt hb1;have HR2:=Lib.hid (H2.out.rest.below HT.out.2.2.2);have hnl:(nr2:Int)<=m+1:=by have:=H2.out.long;omega
      by_cases hle:2^k*vd db m<=vd dr2 nr2
      ·have hbo:decide (vd dr2 nr2<vd dt (m+1))=false:=by rw[decide_eq_false_iff_not,HT.out.2.2.1];omega
       have HLE:=Lib.hid hle;clear hle
       go_wp2_with fail
       refine(less_any g2 cap2 bt capt nr2 (m+1) dr2 dt (by omega) (by omega) H2.out.restl HT.out.2.1 w2 HR2.out HT.out.1).mono ?_;rintro e w3 ⟨rfl,rfl⟩;rw[hbo]
       go_wp2_with fail
       refine(minus_any g2 cap2 bt capt nr2 (m+1) dr2 dt hnr2 (by omega) (by omega) H2.out.restl HT.out.2.1 (by rw[HT.out.2.2.1];exact HLE.out) w2 HR2.out HT.out.1).mono ?_;rintro e w4 ⟨b4,cap4,d4,rfl,hb4,hD4,hd4l,hd4v,hbm⟩;have hb2:Below wr.heap.size wr w4:=HT.out.2.2.2.trans (hbm.mono HT.out.2.2.2.size);have hcq:w4.cell? ⟨w.heap.size,i,none⟩=some (.int .u64 (q2 i:Nat)):=(hb2.cell (p:=⟨w.heap.size,i,none⟩) hlw).trans HQI.out.1;have hfq:w4.frozen? ⟨w.heap.size,i,none⟩=false:=(hb2.frozen (p:=⟨w.heap.size,i,none⟩) hlw).trans HQI.out.2;have hone:=H2.out.one (w':=w4) (g':=b4) (dr':=d4) (by omega) (by omega) hb2 HLE.out hD4 (Nat.le_trans HT.out.2.2.2.size hb4) hd4l (by rw[hd4v,HT.out.2.2.1]);rw[HP.out]at hone;have HONE:=Lib.hid hone;clear hone hb4 hD4 hd4l hd4v hbm hb2
       go_wp2_with fail
       rw[HOR.out]
       go_roundw
       case rel=>exact⟨(k:Int) - 1,k,b4,nr2,cap4,_,d4,by omega,rfl,rfl,rfl,hnr2,HONE⟩
       case measure=>first | (simp[intOf];done) | (simp[intOf];omega)
      ·have hbo:decide (vd dr2 nr2<vd dt (m+1))=true:=by rw[decide_eq_true_iff,HT.out.2.2.1];omega
       have HZ:=Lib.hid (H2.out.zero HT.out.2.2.2 hle);clear hle
       go_wp2_with fail
       refine(less_any g2 cap2 bt capt nr2 (m+1) dr2 dt (by omega) (by omega) H2.out.restl HT.out.2.1 w2 HR2.out HT.out.1).mono ?_;rintro e w3 ⟨rfl,rfl⟩;rw[hbo]
       go_wp2_with fail
       go_roundw
       case rel=>exact⟨(k:Int) - 1,k,g2,nr2,cap2,q2,dr2,by omega,rfl,rfl,rfl,hnr2,HZ⟩
       case measure=>first | (simp[intOf];done) | (simp[intOf];omega)
open Go.RowKit
def DS(n V:Nat)(v:Value)(w:World):Prop:=∃(b cap:Nat) (d:Nat->Nat),v=.slice (some ⟨b,0,none⟩) n cap/\Dg w b n d/\(∀ j,j<n->d j<65536)/\vd d n=V
def DR(m V:Nat)(v:Value)(w:World):Prop:=∃ nr,nr<=m+1/\DS nr V v w
def DQ(n m A D:Nat)(v:Value)(w:World):Prop:=∃ qv rv,v=.tuple #[qv,rv]/\DS n (A / D) qv w/\DR m (A%D) rv w
def RN(w w':World):Prop:=w.heap.size<=w'.heap.size/\∀(k:Nat),k<w.heap.size->w'.heap[k]?=w.heap[k]?
theorem RN.refl(w:World):RN w w:=⟨Nat.le_refl _,fun _ _=>rfl⟩
theorem RN.of{w w':World}(h:Below w.heap.size w w'):RN w w':=⟨h.size,fun k hk=>h.block k hk⟩
theorem DS.keep{n V:Nat}{v:Value}{w w':World}(hR:RN w w')(h:DS n V v w):DS n V v w':=by
 obtain⟨b,cap,d,hv,hD,h1,h2⟩:=h;exact⟨b,cap,d,hv,⟨Nat.lt_of_lt_of_le hD.1 hR.1,fun j hj=>(World.cell?_of_block (w:=w) (a:=⟨b,j,none⟩) (hR.2 b hD.1)).trans (hD.2 j hj)⟩,h1,h2⟩
theorem DR.keep{m V:Nat}{v:Value}{w w':World}(hR:RN w w')(h:DR m V v w):DR m V v w':=by
 obtain⟨nr,h1,h2⟩:=h;exact⟨nr,h1,h2.keep hR⟩
theorem DQ.keep{n m A D:Nat}{v:Value}{w w':World}(hR:RN w w')(h:DQ n m A D v w):DQ n m A D v w':=by
 obtain⟨q,r,h1,h2,h3⟩:=h;exact⟨q,r,h1,h2.keep hR,h3.keep hR⟩
theorem mk_ds{n V:Nat}{w w':World}{e:Ending}(h:MkDg n V w e w'):∃ v,e=.returned v/\Below w.heap.size w w'/\DS n V v w':=by
 obtain⟨b,cap,d,rfl,-,hD,h1,h2,hb⟩:=h;exact⟨_,rfl,hb,b,cap,d,rfl,hD,h1,h2⟩
theorem mk_dq{n m A D:Nat}{w w':World}{e:Ending}(h:DivPostR n m A D w e w'):∃ v,e=.returned v/\Below w.heap.size w w'/\DQ n m A D v w':=by
 obtain⟨Q,g,nr,cap,q,dr,rfl,hQ,hg,hl,hq,hr,h1,h2,hb⟩:=h;exact⟨_,rfl,hb,_,_,rfl,⟨Q,n,q,rfl,hQ,hq,h1⟩,nr,hl,g,cap,dr,rfl,hg,hr,h2⟩
theorem digits_ds(x:Nat)(w:World):Calls Tryz.prog 61 #[wv x] w fun e w'=>∃ v,e=.returned v/\Below w.heap.size w w'/\DS 16 (x%2^256) v w':=(digits_any x w).mono fun _ _ h=>mk_ds h
theorem divide_ds{n m A D:Nat}{a b:Value}{w:World}(hn:n<=100)(hm:m<=100)(hD:0<D)(ha:DS n A a w)(hb:DS m D b w):Calls Tryz.prog 99 #[a,b] w fun e w'=>∃ v,e=.returned v/\Below w.heap.size w w'/\DQ n m A D v w':=by
 obtain⟨ba,ca,da,rfl,hA,hal,rfl⟩:=ha;obtain⟨bb,cb,db,rfl,hB,hbl,rfl⟩:=hb;exact(divide_ref ba ca bb cb n m da db (by omega) (by omega) hal hbl hD w hA hB).mono fun _ _ h=>mk_dq h
theorem eqz_run(y:Nat)(b:Bool)(hb:decide (y%2^256=0)=b)(w:World):(binOp BinOp.eql 24 (.agg (pw y)) (.agg #[.int .u64 0,.int .u64 0,.int .u64 0,.int .u64 0])).run Tryz.prog w=.ok (.bool b) w:=by
 obtain⟨y0,y1,y2,y3,u0,u1,u2,u3,ey,ny⟩:=wv_parts y;rw[wv_pw]at ey;rw[ey];have h:∀ w,(Op.equalIn 10000 24 (.agg #[.int .u64 y0,.int .u64 y1,.int .u64 y2,.int .u64 y3]) (.agg #[.int .u64 0,.int .u64 0,.int .u64 0,.int .u64 0])).run Tryz.prog w=.ok b w:=fun w=>by
  have:=eqW y0 y1 y2 y3 0 0 0 0 w;have e:((y0 == 0)&&((y1 == 0)&&((y2 == 0)&&(y3 == 0))))=b:=by
   rw[<- hb,<- ny,Bool.eq_iff_iff];simp only[Bool.and_eq_true,beq_iff_eq,decide_eq_true_eq];unfold n4;omega
  rw[e]at this;exact this
 go_simp
theorem eqz_guard(y:Nat)(o1 o2:Operand)(w:World):(eqGuard BinOp.eql 24 o1 o2 (.agg (pw y)) (.agg #[.int .u64 0,.int .u64 0,.int .u64 0,.int .u64 0])).run Tryz.prog w=.ok () w:=by kernel_rfl
theorem pw_modn(x:Nat):pw (x%2^256)=pw x:=by
 have h:=wv_congr (x:=x%2^256) (y:=x) (Nat.mod_mod _ _);rw[wv_pw,wv_pw]at h;exact Value.agg.inj h
theorem pw_nought{y:Nat}(h:y%2^256=0):pw y=#[.int .u64 0,.int .u64 0,.int .u64 0,.int .u64 0]:=by
 rw[<- pw_modn,h];kernel_rfl
open Go.RowKit
theorem results_two{fn:Func}{p q:Tmp}(h:fn.results=#[.cell p 24,.cell q 24])(tmps:Array Value)(w:World)(g k:Nat)(cs ds:Array Value)(fr:Nat × Nat)
  (hp:tmps.getD p undef=.pointer (some ⟨g,0,none⟩)) (hq:tmps.getD q undef=.pointer (some ⟨k,0,none⟩)) (hg:w.heap[g]?=some (.cells cs 24 fr)) (hk:w.heap[k]?=some (.cells ds 24 fr))
  (hi:(Tryz.prog.info? 24).map (·.size)=some cs.size) (hj:(Tryz.prog.info? 24).map (·.size)=some ds.size) :
  (results fn tmps).run Tryz.prog w=.ok (.tuple #[.agg cs,.agg ds]) w:=by
 have hp':tmps[p]?.getD undef=.pointer (some ⟨g,0,none⟩):=by simpa using hp
 have hq':tmps[q]?.getD undef=.pointer (some ⟨k,0,none⟩):=by simpa using hq
 simp[results,h,hp',hq',asAddr,run_loadVar_row w g 24 24 cs fr _ hg Tryz.underlying24 rfl hi,run_loadVar_row w k 24 24 ds fr _ hk Tryz.underlying24 rfl hj]
structure CD (w:World) (x y:Nat) (wx:World):Prop where
 old:Below w.heap.size w wx
 r0:wx.heap[w.heap.size]?=some (.cells (pw x) 24 (0,0))
 r1:wx.heap[w.heap.size+1]?=some (.cells (pw y) 24 (0,0))
 r2:wx.heap[w.heap.size+1+1]?=some (.cells #[.int .u64 0,.int .u64 0,.int .u64 0,.int .u64 0] 24 (0,0))
 r3:wx.heap[w.heap.size+1+1+1]?=some (.cells #[.int .u64 0,.int .u64 0,.int .u64 0,.int .u64 0] 24 (0,0))
theorem CD.below{w wx w':World}{x y:Nat}(h:CD w x y wx)(hb:Below wx.heap.size wx w'):CD w x y w' :=
 ⟨h.old.trans (hb.mono h.old.size),(hb.block _ (Array.getElem?_eq_some_iff.1 h.r0).1).trans h.r0,(hb.block _ (Array.getElem?_eq_some_iff.1 h.r1).1).trans h.r1,(hb.block _ (Array.getElem?_eq_some_iff.1 h.r2).1).trans h.r2,(hb.block _ (Array.getElem?_eq_some_iff.1 h.r3).1).trans h.r3⟩
theorem heap4(w:World)(A B C D:Obj):((((w.alloc A).alloc B).alloc C).alloc D).heap[w.heap.size]?=some A/\((((w.alloc A).alloc B).alloc C).alloc D).heap[w.heap.size+1]?=some B/\((((w.alloc A).alloc B).alloc C).alloc D).heap[w.heap.size+1+1]?=some C/\((((w.alloc A).alloc B).alloc C).alloc D).heap[w.heap.size+1+1+1]?=some D:=by
 obtain⟨h1,h2,h3⟩:=heap3 w A B C;exact⟨(heap_alloc_old _ _ (by first | (simp;done) | (simp;omega))).trans h1,(heap_alloc_old _ _ (by first | (simp;done) | (simp;omega))).trans h2,(heap_alloc_old _ _ (by first | (simp;done) | (simp;omega))).trans h3,by have:=heap_alloc_new (((w.alloc A).alloc B).alloc C) D;simpa using this⟩
theorem divmod_in(x y:Nat)(hy:¬y%2^256=0)(w:World):Calls Tryz.prog 79 #[.agg (pw x),.agg (pw y)] w fun e w'=>e=.returned (.tuple #[.agg (pw ((x%2^256) / (y%2^256))),.agg (pw ((x%2^256)%(y%2^256)))])/\Below w.heap.size w w':=by
 have hzf:=eqz_run y false (decide_eq_false hy);have hzg:=eqz_guard y;have HY:=Lib.hid (Nat.pos_of_ne_zero hy);clear hy;have hC0:CD w x y ((((w.alloc (.cells (pw x) 24)).alloc (.cells (pw y) 24)).alloc (.cells #[.int .u64 0,.int .u64 0,.int .u64 0,.int .u64 0] 24)).alloc (.cells #[.int .u64 0,.int .u64 0,.int .u64 0,.int .u64 0] 24)):=⟨by go_grown,(heap4 _ _ _ _ _).1,(heap4 _ _ _ _ _).2.1,(heap4 _ _ _ _ _).2.2.1,(heap4 _ _ _ _ _).2.2.2⟩
 have HC0:=Lib.hid hC0;clear hC0;go_enter Tryz.func79,Tryz.ntmps79
 go_wp2_with (refine wpList_load_row rfl 24 _ rfl (w.heap.size+1) rfl 24 (pw y) (0,0) _ HC0.out.r1 Tryz.underlying24 rfl infoWord ?_)
 refine region_tie (CD w x y) (fun i s wx=>match i with | 0=>s 14=wv x | 1=>DS 16 (x%2^256) (s 15) wx | 2=>s 16=wv y | 3=>DS 16 (y%2^256) (s 17) wx | 4=>DQ 16 16 (x%2^256) (y%2^256) (s 18) wx | 5=>DQ 16 16 (x%2^256) (y%2^256) (s 13) wx | 6=>DS 16 ((x%2^256) / (y%2^256)) (s 19) wx | 7=>DR 16 ((x%2^256)%(y%2^256)) (s 20) wx | 8=>DS 16 ((x%2^256) / (y%2^256)) (s 6) wx | 9=>DR 16 ((x%2^256)%(y%2^256)) (s 7) wx | _=>True) RN (fun i=>match i with | 0=>[14] | 1=>[15] | 2=>[16] | 3=>[17] | 4=>[18] | 5=>[13] | 6=>[19] | 7=>[20] | 8=>[6] | 9=>[7] | _=>[]) (fun i=>i) (by kernel_rfl) (by kernel_rfl) (⟨HC0.out.old.drew,HC0.out.r0,HC0.out.r1,HC0.out.r2,HC0.out.r3⟩) ?_ ?_ ?_ ?_
 ·intro i s s' wx he hp
  match i,he,hp with
  | 0,he,hp=>have h:=he 14 (by simp);(first | exact h ▸ hp | (rw[h]at hp;exact hp))
  | 1,he,hp=>have h:=he 15 (by simp);(first | exact h ▸ hp | (rw[h]at hp;exact hp))
  | 2,he,hp=>have h:=he 16 (by simp);(first | exact h ▸ hp | (rw[h]at hp;exact hp))
  | 3,he,hp=>have h:=he 17 (by simp);(first | exact h ▸ hp | (rw[h]at hp;exact hp))
  | 4,he,hp=>have h:=he 18 (by simp);(first | exact h ▸ hp | (rw[h]at hp;exact hp))
  | 5,he,hp=>have h:=he 13 (by simp);(first | exact h ▸ hp | (rw[h]at hp;exact hp))
  | 6,he,hp=>have h:=he 19 (by simp);(first | exact h ▸ hp | (rw[h]at hp;exact hp))
  | 7,he,hp=>have h:=he 20 (by simp);(first | exact h ▸ hp | (rw[h]at hp;exact hp))
  | 8,he,hp=>have h:=he 6 (by simp);(first | exact h ▸ hp | (rw[h]at hp;exact hp))
  | 9,he,hp=>have h:=he 7 (by simp);(first | exact h ▸ hp | (rw[h]at hp;exact hp))
  | _+10,_,_=>trivial
 ·intro i s wa wb hR hp
  match i,hp with
  | 0,hp=>exact hp
  | 1,hp=>exact hp.keep hR
  | 2,hp=>exact hp
  | 3,hp=>exact hp.keep hR
  | 4,hp=>exact hp.keep hR
  | 5,hp=>exact hp.keep hR
  | 6,hp=>exact hp.keep hR
  | 7,hp=>exact hp.keep hR
  | 8,hp=>exact hp.keep hR
  | 9,hp=>exact hp.keep hR
  | _+10,_=>trivial
 ·refine⟨?_,?_,?_,?_,?_,?_,?_,?_,?_,?_,trivial⟩
  ·intro a wx hC hsz hK
   have h0:a.tmps.getD 2 undef=.pointer (some ⟨w.heap.size,0,none⟩):=hK.1 2 (by kernel_rfl);exact tt_load 24 (.tmp 2) (.pointer (some ⟨w.heap.size,0,none⟩)) (wv x) rfl (by kernel_rfl) h0 (load_pw hC.r0) hC (slots_put _ _ _ (by rw[hsz];exact of_decide_eq_true (by kernel_rfl))) (RN.refl _)
  ·intro a wx hC hsz hK
   have h0:=hK.2 ⟨0,.data⟩ (by simp) rfl _ rfl;refine tt_call 61 #[a.tmps.getD 14 undef] (by kernel_rfl) (by kernel_rfl) ?_;rw[show a.tmps.getD 14 undef=_ from h0];refine Calls.mono (digits_ds x wx) ?_;rintro e w' ⟨v,rfl,hb,hv⟩;exact⟨v,rfl,hC.below hb,by rw[slots_put _ _ _ (by rw[hsz];exact of_decide_eq_true (by kernel_rfl))];exact hv,RN.of hb⟩
  ·intro a wx hC hsz hK
   have h0:a.tmps.getD 3 undef=.pointer (some ⟨w.heap.size+1,0,none⟩):=hK.1 3 (by kernel_rfl);exact tt_load 24 (.tmp 3) (.pointer (some ⟨w.heap.size+1,0,none⟩)) (wv y) rfl (by kernel_rfl) h0 (load_pw hC.r1) hC (slots_put _ _ _ (by rw[hsz];exact of_decide_eq_true (by kernel_rfl))) (RN.refl _)
  ·intro a wx hC hsz hK
   have h0:=hK.2 ⟨2,.data⟩ (by simp) rfl _ rfl;refine tt_call 61 #[a.tmps.getD 16 undef] (by kernel_rfl) (by kernel_rfl) ?_;rw[show a.tmps.getD 16 undef=_ from h0];refine Calls.mono (digits_ds y wx) ?_;rintro e w' ⟨v,rfl,hb,hv⟩;exact⟨v,rfl,hC.below hb,by rw[slots_put _ _ _ (by rw[hsz];exact of_decide_eq_true (by kernel_rfl))];exact hv,RN.of hb⟩
  ·intro a wx hC hsz hK
   have h0:=hK.2 ⟨1,.data⟩ (by simp) rfl _ rfl;have h1:=hK.2 ⟨3,.data⟩ (by simp) rfl _ rfl;refine tt_call 99 #[a.tmps.getD 15 undef,a.tmps.getD 17 undef] (by kernel_rfl) (by kernel_rfl) ?_;refine Calls.mono (divide_ds (by omega) (by omega) HY.out h0 h1) ?_;rintro e w' ⟨v,rfl,hb,hv⟩;exact⟨v,rfl,hC.below hb,by rw[slots_put _ _ _ (by rw[hsz];exact of_decide_eq_true (by kernel_rfl))];exact hv,RN.of hb⟩
  ·intro a wx hC hsz hK
   have h0:=hK.2 ⟨4,.data⟩ (by simp) rfl _ rfl;exact tt_val (a.tmps.getD 18 undef) (by kernel_rfl) (by kernel_rfl) hC (by rw[slots_put _ _ _ (by rw[hsz];exact of_decide_eq_true (by kernel_rfl))];exact h0) (RN.refl _)
  ·intro a wx hC hsz hK
   have h0:=hK.2 ⟨5,.data⟩ (by simp) rfl _ rfl;obtain⟨qv,rv,ev,hq,hr⟩:=h0;have ev':a.tmps.getD 13 undef=.tuple #[qv,rv]:=ev;refine tt_v (Instr.extract (a.tmps.getD 13 undef) 0) qv (by kernel_rfl) rfl ?_ hC (by rw[slots_put _ _ _ (by rw[hsz];exact of_decide_eq_true (by kernel_rfl))];exact hq) (RN.refl _);rw[ev'];kernel_rfl
  ·intro a wx hC hsz hK
   have h0:=hK.2 ⟨5,.data⟩ (by simp) rfl _ rfl;obtain⟨qv,rv,ev,hq,hr⟩:=h0;have ev':a.tmps.getD 13 undef=.tuple #[qv,rv]:=ev;refine tt_v (Instr.extract (a.tmps.getD 13 undef) 1) rv (by kernel_rfl) rfl ?_ hC (by rw[slots_put _ _ _ (by rw[hsz];exact of_decide_eq_true (by kernel_rfl))];exact hr) (RN.refl _);rw[ev'];kernel_rfl
  ·intro a wx hC hsz hK
   have h0:=hK.2 ⟨6,.data⟩ (by simp) rfl _ rfl;exact tt_val (a.tmps.getD 19 undef) (by kernel_rfl) (by kernel_rfl) hC (by rw[slots_put _ _ _ (by rw[hsz];exact of_decide_eq_true (by kernel_rfl))];exact h0) (RN.refl _)
  ·intro a wx hC hsz hK
   have h0:=hK.2 ⟨7,.data⟩ (by simp) rfl _ rfl;exact tt_val (a.tmps.getD 20 undef) (by kernel_rfl) (by kernel_rfl) hC (by rw[slots_put _ _ _ (by rw[hsz];exact of_decide_eq_true (by kernel_rfl))];exact h0) (RN.refl _)
 ·intro f wx hC hf
  have s14:=hf 0 _ rfl;obtain⟨b15,c15,d15,s15,g15,l15,v15⟩:=hf 1 _ rfl;have s16:=hf 2 _ rfl;obtain⟨b17,c17,d17,s17,g17,l17,v17⟩:=hf 3 _ rfl;obtain⟨q18,r18,s18,-,-⟩:=hf 4 _ rfl;obtain⟨q13,r13,s13,-,-⟩:=hf 5 _ rfl;obtain⟨b19,c19,d19,s19,g19,l19,v19⟩:=hf 6 _ rfl;obtain⟨n20,m20,b20,c20,d20,s20,g20,l20,v20⟩:=hf 7 _ rfl;obtain⟨b6,c6,d6,s6,g6,l6,v6⟩:=hf 8 _ rfl;obtain⟨n7,m7,b7,c7,d7,s7,g7,l7,v7⟩:=hf 9 _ rfl;clear hf;generalize hA:putAll _ _ _=A at *;have hsz:A.tmps.size=25:=by rw[<- hA,putAll_size];rfl
  have t0:A.tmps.getD 0 undef=.agg (pw x):=by subst hA;kernel_rfl
  have t1:A.tmps.getD 1 undef=.agg (pw y):=by subst hA;kernel_rfl
  have t2:A.tmps.getD 2 undef=.pointer (some ⟨w.heap.size,0,none⟩):=by subst hA;kernel_rfl
  have t3:A.tmps.getD 3 undef=.pointer (some ⟨w.heap.size+1,0,none⟩):=by subst hA;kernel_rfl
  have t4:A.tmps.getD 4 undef=.pointer (some ⟨w.heap.size+1+1,0,none⟩):=by subst hA;kernel_rfl
  have t5:A.tmps.getD 5 undef=.pointer (some ⟨w.heap.size+1+1+1,0,none⟩):=by subst hA;kernel_rfl
  have t8:A.tmps.getD 8 undef=.agg (pw y):=by subst hA;kernel_rfl
  have t9:A.tmps.getD 9 undef=.agg #[.int .u64 0,.int .u64 0,.int .u64 0,.int .u64 0]:=by subst hA;kernel_rfl
  have t10:A.tmps.getD 10 undef=.bool false:=by subst hA;kernel_rfl
  have t11:A.tmps.getD 11 undef=undef:=by subst hA;kernel_rfl
  have t12:A.tmps.getD 12 undef=undef:=by subst hA;kernel_rfl
  have t21:A.tmps.getD 21 undef=undef:=by subst hA;kernel_rfl
  have t22:A.tmps.getD 22 undef=undef:=by subst hA;kernel_rfl
  have t23:A.tmps.getD 23 undef=undef:=by subst hA;kernel_rfl
  have t24:A.tmps.getD 24 undef=undef:=by subst hA;kernel_rfl
  have hd:A.defers=[]:=by subst hA;kernel_rfl
  clear hA;obtain⟨tm,df⟩:=A;simp only[slots]at *;have hL:=arr_lit tm;rw[hsz]at hL;simp only[List.range,List.range.loop,List.map]at hL;rw[t0,t1,t2,t3,t4,t5,s6,s7,t8,t9,t10,t11,t12,s13,s14,s15,s16,s17,s18,s19,s20,t21,t22,t23,t24]at hL;subst hL hd;clear t0 t1 t2 t3 t4 t5 s6 s7 t8 t9 t10 t11 t12 s13 s14 s15 s16 s17 s18 s19 s20 t21 t22 t23 t24 hsz;have HC:=Lib.hid hC;clear hC;have G7:=Lib.hid g7;clear g7
  go_wp2_with fail
  refine(word_any b6 c6 16 d6 (by omega) l6 wx g6).mono ?_;rintro e w1 ⟨rfl,hb1⟩;rw[v6];have HC1:=Lib.hid (HC.out.below hb1);have G71:=Lib.hid (G7.out.below hb1);clear hb1
  go_wp2_with fail
  refine(word_any b7 c7 n7 d7 (by omega) l7 w1 G71.out).mono ?_;rintro e w2 ⟨rfl,hb2⟩;rw[v7];have HC2:=Lib.hid (HC1.out.below hb2);have R3:=Lib.hid ((setRow_other w2 (w.heap.size+1+1) (w.heap.size+1+1+1) (pw ((x%2^256) / (y%2^256))) (by omega)).trans HC2.out.r3);clear hb2
  go_wp2_with (first | (refine wpList_store_row rfl 24 _ _ rfl (w.heap.size+1+1) (pw ((x%2^256) / (y%2^256))) rfl rfl 24 #[.int .u64 0,.int .u64 0,.int .u64 0,.int .u64 0] HC2.out.r2 infoWord rfl (pw_one _) ?_) | (refine wpList_store_row rfl 24 _ _ rfl (w.heap.size+1+1+1) (pw ((x%2^256)%(y%2^256))) rfl rfl 24 #[.int .u64 0,.int .u64 0,.int .u64 0,.int .u64 0] R3.out infoWord rfl (pw_one _) ?_))
  (try simp only[Exit.inBlock,Exit.then])
  have e2:=(setRow_other (w2.setRow (w.heap.size+1+1) (pw ((x%2^256) / (y%2^256)))) (w.heap.size+1+1+1) (w.heap.size+1+1) (pw ((x%2^256)%(y%2^256))) (by omega)).trans (setRow_heap _ _ _ _ _ _ HC2.out.r2);exact bodyPost_ret (v:=.tuple #[.agg (pw ((x%2^256) / (y%2^256))),.agg (pw ((x%2^256)%(y%2^256)))]) (results_two (p:=4) (q:=5) rfl _ _ (w.heap.size+1+1) (w.heap.size+1+1+1) _ _ (0,0) rfl rfl e2 (setRow_heap _ _ _ _ _ _ R3.out) infoWord infoWord) rfl ⟨rfl,below_setRow (below_setRow HC2.out.old (by omega) _) (by omega) _⟩
theorem divmod_nought(x:Nat)(w:World):Calls Tryz.prog 79 #[.agg (pw x),.agg #[.int .u64 0,.int .u64 0,.int .u64 0,.int .u64 0]] w fun e w'=>e=.returned (.tuple #[.agg #[.int .u64 0,.int .u64 0,.int .u64 0,.int .u64 0],.agg #[.int .u64 0,.int .u64 0,.int .u64 0,.int .u64 0]])/\Below w.heap.size w w':=by
 have hzf:∀ w,(binOp BinOp.eql 24 (.agg #[.int .u64 0,.int .u64 0,.int .u64 0,.int .u64 0]) (.agg #[.int .u64 0,.int .u64 0,.int .u64 0,.int .u64 0])).run Tryz.prog w=.ok (.bool true) w:=fun w=>eqz_run 0 true rfl w;have hzg:∀(o1 o2:Operand) w,(eqGuard BinOp.eql 24 o1 o2 (.agg #[.int .u64 0,.int .u64 0,.int .u64 0,.int .u64 0]) (.agg #[.int .u64 0,.int .u64 0,.int .u64 0,.int .u64 0])).run Tryz.prog w=.ok () w:=fun o1 o2 w=>eqz_guard 0 o1 o2 w;go_enter Tryz.func79,Tryz.ntmps79;go_wp2
 go_region
 all_goals (go_wp2;refine bodyPost_ret (v:=.tuple #[.agg #[.int .u64 0,.int .u64 0,.int .u64 0,.int .u64 0],.agg #[.int .u64 0,.int .u64 0,.int .u64 0,.int .u64 0]]) (by simp[results,Tryz.results79,go_sem];try rfl) rfl ⟨rfl,by go_grown⟩)
-- WHAT bailiwickref01.DivMod COMES TO.
theorem divmod_ref(x y:Nat)(w:World):Calls Tryz.prog 79 #[wv x,wv y] w fun e w'=>e=.returned (.tuple #[wv (quoV (x%2^256) y),wv (remV (x%2^256) y)])/\Below w.heap.size w w':=by
 unfold quoV remV;rw[wv_pw x,wv_pw y];by_cases h:y%2^256=0
 ·rw[if_pos h,if_pos h,pw_nought h]
  exact divmod_nought x w
 ·rw[if_neg h,if_neg h]
  exact divmod_in x y h w
open Go.RowKit
structure CT (w:World) (x y z:Nat) (wx:World):Prop where
 old:Below w.heap.size w wx
 r0:wx.heap[w.heap.size]?=some (.cells (pw x) 24 (0,0))
 r1:wx.heap[w.heap.size+1]?=some (.cells (pw y) 24 (0,0))
 r2:wx.heap[w.heap.size+1+1]?=some (.cells (pw z) 24 (0,0))
 r3:wx.heap[w.heap.size+1+1+1]?=some (.cells #[.int .u64 0,.int .u64 0,.int .u64 0,.int .u64 0] 24 (0,0))
theorem CT.below{w wx w':World}{x y z:Nat}(h:CT w x y z wx)(hb:Below wx.heap.size wx w'):CT w x y z w' :=
 ⟨h.old.trans (hb.mono h.old.size),(hb.block _ (Array.getElem?_eq_some_iff.1 h.r0).1).trans h.r0,(hb.block _ (Array.getElem?_eq_some_iff.1 h.r1).1).trans h.r1,(hb.block _ (Array.getElem?_eq_some_iff.1 h.r2).1).trans h.r2,(hb.block _ (Array.getElem?_eq_some_iff.1 h.r3).1).trans h.r3⟩
open Go.RowKit
theorem widen_one(a0 a1 a2 a3 c b:Nat)(w:World)(hb:b<w.heap.size)(hc:w.cell? ⟨b,0,none⟩=some (.int .u64 c)) :
  Calls Tryz.prog 107 #[.agg #[.int .u64 a0,.int .u64 a1,.int .u64 a2,.int .u64 a3],.slice (some ⟨b,0,none⟩) 1 1] w fun e w' =>
   e=.returned (.agg #[.int .u64 a0,.int .u64 a1,.int .u64 a2,.int .u64 a3,.int .u64 c,.int .u64 0,.int .u64 0,.int .u64 0])/\Below w.heap.size w w':=by
 have hcp:=copy4 ((((w.alloc (.cells #[.int .u64 a0,.int .u64 a1,.int .u64 a2,.int .u64 a3] 24)).alloc (.cells #[.int .u64 0,.int .u64 0,.int .u64 0,.int .u64 0,.int .u64 0,.int .u64 0,.int .u64 0,.int .u64 0] 135)).alloc (.cells #[.int .u64 0,.int .u64 0,.int .u64 0,.int .u64 0,.int .u64 0,.int .u64 0,.int .u64 0,.int .u64 0] 135)).drew) (w.heap.size+1+1) w.heap.size a0 a1 a2 a3
  (by go_cell) (by go_cell) (by go_cell) (by go_cell) (by go_simp) (by go_simp) (by go_simp) (by go_simp) (by go_cell) (by go_cell) (by go_cell) (by go_cell)
 have hcn:=run_copy_cells (P:=Tryz.prog) ((((w.alloc (.cells #[.int .u64 a0,.int .u64 a1,.int .u64 a2,.int .u64 a3] 24)).alloc (.cells #[.int .u64 0,.int .u64 0,.int .u64 0,.int .u64 0,.int .u64 0,.int .u64 0,.int .u64 0,.int .u64 0] 135)).alloc (.cells #[.int .u64 a0,.int .u64 a1,.int .u64 a2,.int .u64 a3,.int .u64 0,.int .u64 0,.int .u64 0,.int .u64 0] 135)).drew) 86 86 3 22 (w.heap.size+1+1) 4 4 4 ⟨b,0,none⟩ 1 1 [.int .u64 c] Tryz.underlying86 (by kernel_rfl) rfl
  (fun j v hj=>by
   rcases j with _ | j
   ·cases hj;exact((show Below w.heap.size w ((((w.alloc (.cells #[.int .u64 a0,.int .u64 a1,.int .u64 a2,.int .u64 a3] 24)).alloc (.cells #[.int .u64 0,.int .u64 0,.int .u64 0,.int .u64 0,.int .u64 0,.int .u64 0,.int .u64 0,.int .u64 0] 135)).alloc (.cells #[.int .u64 a0,.int .u64 a1,.int .u64 a2,.int .u64 a3,.int .u64 0,.int .u64 0,.int .u64 0,.int .u64 0] 135)).drew) by go_grown).cell (p:=⟨b,0,none⟩) hb).trans hc
   ·simp at hj)
  (fun j hj=>by
   rcases j with _ | j
   ·exact(congrArg Option.isSome (show World.cell? ((((w.alloc (.cells #[.int .u64 a0,.int .u64 a1,.int .u64 a2,.int .u64 a3] 24)).alloc (.cells #[.int .u64 0,.int .u64 0,.int .u64 0,.int .u64 0,.int .u64 0,.int .u64 0,.int .u64 0,.int .u64 0] 135)).alloc (.cells #[.int .u64 a0,.int .u64 a1,.int .u64 a2,.int .u64 a3,.int .u64 0,.int .u64 0,.int .u64 0,.int .u64 0] 135)).drew) ⟨w.heap.size+1+1,4,none⟩=some (.int .u64 0) by go_cell)).trans rfl
   ·simp at hj)
  (fun j hj=>by
   rcases j with _ | j
   ·show World.frozen? ((((w.alloc (.cells #[.int .u64 a0,.int .u64 a1,.int .u64 a2,.int .u64 a3] 24)).alloc (.cells #[.int .u64 0,.int .u64 0,.int .u64 0,.int .u64 0,.int .u64 0,.int .u64 0,.int .u64 0,.int .u64 0] 135)).alloc (.cells #[.int .u64 a0,.int .u64 a1,.int .u64 a2,.int .u64 a3,.int .u64 0,.int .u64 0,.int .u64 0,.int .u64 0] 135)).drew) ⟨w.heap.size+1+1,4,none⟩=false;go_cell
   ·simp at hj)
  (fun v hv=>by simp at hv;rcases hv with rfl;rfl)
 simp only[World.setCells]at hcn;go_enter Tryz.func107,Tryz.ntmps107;go_wp2
 go_region
 go_wp2
 go_returns
 refine⟨?_,by go_grown⟩;rfl
theorem widen_more(x c b:Nat)(hc:c<18446744073709551616)(w:World)(hb:b<w.heap.size)(h:w.cell? ⟨b,0,none⟩=some (.int .u64 c)):Calls Tryz.prog 107 #[wv x,.slice (some ⟨b,0,none⟩) 1 1] w fun e w'=>e=.returned (dv (x%2^256+2^256*c))/\Below w.heap.size w w':=by
 obtain⟨a0,a1,a2,a3,u0,u1,u2,u3,ea,na⟩:=wv_parts x;have h:=widen_one a0 a1 a2 a3 c b w hb h;rw[ea,<- na];have hn:dv (n4 a0 a1 a2 a3+2^256*c)=.agg #[.int .u64 a0,.int .u64 a1,.int .u64 a2,.int .u64 a3,.int .u64 c,.int .u64 0,.int .u64 0,.int .u64 0]:=by
  have:=dv_n8 (a5:=0) (a6:=0) (a7:=0) u0 u1 u2 u3 hc (by omega) (by omega) (by omega);rw[show n8 a0 a1 a2 a3 c 0 0 0=n4 a0 a1 a2 a3+2^256*c by unfold n8 n4;omega]at this;exact this
 rw[hn];exact h
theorem CT.high{w wx:World}{x y z:Nat}(h:CT w x y z wx):w.heap.size+1+1+1+1<=wx.heap.size:=(Array.getElem?_eq_some_iff.1 h.r3).1
theorem CT.rowed{w wx:World}{x y z g:Nat}{cs:Array Value}(h:CT w x y z wx)(hg:w.heap.size+1+1+1+1<=g):CT w x y z (wx.setRow g cs) :=
 ⟨below_setRow h.old (by omega) _,(setRow_other _ _ _ _ (by omega)).trans h.r0,(setRow_other _ _ _ _ (by omega)).trans h.r1,(setRow_other _ _ _ _ (by omega)).trans h.r2,(setRow_other _ _ _ _ (by omega)).trans h.r3⟩
theorem mul_small(x y:Nat):(x%2^256)*(y%2^256)<13407807929942597099574024998205846127479365820592393377723561443721764030073546976801874298166903427690031858186486050853753882811946569946433649006084096:=by
 have h1:=Nat.mod_lt x (show(2^256) > 0 by omega);have h2:=Nat.mod_lt y (show(2^256) > 0 by omega);have:=Nat.mul_lt_mul'' h1 h2;rwa [show(2^256)*2^256=13407807929942597099574024998205846127479365820592393377723561443721764030073546976801874298166903427690031858186486050853753882811946569946433649006084096 by rfl]at this
-- WHAT word.MulMod COMES TO.
theorem mulmod_any(x y z:Nat)(w:World):Calls Tryz.prog 97 #[wv x,wv y,wv z] w fun e w'=>e=.returned (wv (remV ((x%2^256)*(y%2^256)) z))/\Below w.heap.size w w':=by
 rw[wv_pw x,wv_pw y,wv_pw z];go_enter Tryz.func97,Tryz.ntmps97
 go_wp2_with fail
 refine region_tie (CT w x y z) (fun i s wx=>match i with | 0=>s 10=wv x | 1=>s 11=wv y | 2=>s 12=dv ((x%2^256)*(y%2^256)) | 3=>s 13=wv z | 4=>s 14=.tuple #[dv (quoV ((x%2^256)*(y%2^256)) z),wv (remV ((x%2^256)*(y%2^256)) z)] | 5=>s 9=.tuple #[dv (quoV ((x%2^256)*(y%2^256)) z),wv (remV ((x%2^256)*(y%2^256)) z)] | 6=>s 15=dv (quoV ((x%2^256)*(y%2^256)) z) | 7=>s 16=wv (remV ((x%2^256)*(y%2^256)) z) | 8=>∃ D,s 7=.pointer (some ⟨D,0,none⟩)/\w.heap.size+1+1+1+1<=D/\∃ cs,wx.heap[D]?=some (.cells cs 135 (0,0))/\cs.size=8 | 9=>∃ D,s 8=.pointer (some ⟨D,0,none⟩)/\w.heap.size+1+1+1+1<=D/\∃ cs,wx.heap[D]?=some (.cells cs 24 (0,0))/\cs.size=4 | 10=>∃ D,s 7=.pointer (some ⟨D,0,none⟩)/\w.heap.size+1+1+1+1<=D/\wx.heap[D]?=some (.cells (FQ (quoV ((x%2^256)*(y%2^256)) z) (remV ((x%2^256)*(y%2^256)) z) 135) 135 (0,0)) | 11=>∃ D,s 8=.pointer (some ⟨D,0,none⟩)/\w.heap.size+1+1+1+1<=D/\wx.heap[D]?=some (.cells (FQ (quoV ((x%2^256)*(y%2^256)) z) (remV ((x%2^256)*(y%2^256)) z) 24) 24 (0,0)) | _=>True) (RT (w.heap.size+1+1+1+1) (FQ (quoV ((x%2^256)*(y%2^256)) z) (remV ((x%2^256)*(y%2^256)) z))) (fun i=>match i with | 0=>[10] | 1=>[11] | 2=>[12] | 3=>[13] | 4=>[14] | 5=>[9] | 6=>[15] | 7=>[16] | 8=>[7] | 9=>[8] | 10=>[7] | 11=>[8] | _=>[]) (fun i=>i) (by kernel_rfl) (by kernel_rfl) ⟨Below.drew (by go_grown),(heap4 _ _ _ _ _).1,(heap4 _ _ _ _ _).2.1,(heap4 _ _ _ _ _).2.2.1,(heap4 _ _ _ _ _).2.2.2⟩ ?_ ?_ ?_ ?_
 ·intro i s s' wx he hp
  match i,he,hp with
  | 0,he,hp=>exact(he 10 (by simp)).symm.trans hp
  | 1,he,hp=>exact(he 11 (by simp)).symm.trans hp
  | 2,he,hp=>exact(he 12 (by simp)).symm.trans hp
  | 3,he,hp=>exact(he 13 (by simp)).symm.trans hp
  | 4,he,hp=>exact(he 14 (by simp)).symm.trans hp
  | 5,he,hp=>exact(he 9 (by simp)).symm.trans hp
  | 6,he,hp=>exact(he 15 (by simp)).symm.trans hp
  | 7,he,hp=>exact(he 16 (by simp)).symm.trans hp
  | 8,he,hp=>obtain⟨D,h1,h2⟩:=hp;exact⟨D,(he 7 (by simp)).symm.trans h1,h2⟩
  | 9,he,hp=>obtain⟨D,h1,h2⟩:=hp;exact⟨D,(he 8 (by simp)).symm.trans h1,h2⟩
  | 10,he,hp=>obtain⟨D,h1,h2⟩:=hp;exact⟨D,(he 7 (by simp)).symm.trans h1,h2⟩
  | 11,he,hp=>obtain⟨D,h1,h2⟩:=hp;exact⟨D,(he 8 (by simp)).symm.trans h1,h2⟩
  | _+12,_,_=>trivial
 ·intro i s wa wb hR hp
  match i,hp with
  | 0,hp=>exact hp
  | 1,hp=>exact hp
  | 2,hp=>exact hp
  | 3,hp=>exact hp
  | 4,hp=>exact hp
  | 5,hp=>exact hp
  | 6,hp=>exact hp
  | 7,hp=>exact hp
  | 8,hp=>obtain⟨D,h1,h2,cs,h3,h4⟩:=hp;obtain⟨cs',h5,h6⟩:=hR.shape _ _ _ _ h3;exact⟨D,h1,h2,cs',h5,h6.trans h4⟩
  | 9,hp=>obtain⟨D,h1,h2,cs,h3,h4⟩:=hp;obtain⟨cs',h5,h6⟩:=hR.shape _ _ _ _ h3;exact⟨D,h1,h2,cs',h5,h6.trans h4⟩
  | 10,hp=>obtain⟨D,h1,h2,h3⟩:=hp;exact⟨D,h1,h2,hR.keep _ _ _ h3⟩
  | 11,hp=>obtain⟨D,h1,h2,h3⟩:=hp;exact⟨D,h1,h2,hR.keep _ _ _ h3⟩
  | _+12,_=>trivial
 ·refine⟨?_,?_,?_,?_,?_,?_,?_,?_,?_,?_,?_,?_,trivial⟩
  ·intro a wx hC hsz hK
   have h0:a.tmps.getD 3 undef=.pointer (some ⟨w.heap.size,0,none⟩):=hK.1 3 (by kernel_rfl);exact tt_load 24 (.tmp 3) (.pointer (some ⟨w.heap.size,0,none⟩)) (wv x) rfl (by kernel_rfl) h0 (load_pw hC.r0) hC (slots_put _ _ _ (by rw[hsz];exact of_decide_eq_true (by kernel_rfl))) (RT.refl _ _ _)
  ·intro a wx hC hsz hK
   have h0:a.tmps.getD 4 undef=.pointer (some ⟨w.heap.size+1,0,none⟩):=hK.1 4 (by kernel_rfl);exact tt_load 24 (.tmp 4) (.pointer (some ⟨w.heap.size+1,0,none⟩)) (wv y) rfl (by kernel_rfl) h0 (load_pw hC.r1) hC (slots_put _ _ _ (by rw[hsz];exact of_decide_eq_true (by kernel_rfl))) (RT.refl _ _ _)
  ·intro a wx hC hsz hK
   have h0:a.tmps.getD 10 undef=wv x:=hK.2 ⟨0,.data⟩ (by simp) rfl _ rfl;have h1:a.tmps.getD 11 undef=wv y:=hK.2 ⟨1,.data⟩ (by simp) rfl _ rfl;refine tt_call 108 #[a.tmps.getD 10 undef,a.tmps.getD 11 undef] (by kernel_rfl) (by kernel_rfl) ?_;rw[h0,h1];exact((fun wx=>product_any x y wx) wx).mono fun e w' hh=>⟨_,hh.1,hC.below hh.2,slots_put _ _ _ (by rw[hsz];exact of_decide_eq_true (by kernel_rfl)),RT.of hC.high hh.2⟩
  ·intro a wx hC hsz hK
   have h0:a.tmps.getD 5 undef=.pointer (some ⟨w.heap.size+1+1,0,none⟩):=hK.1 5 (by kernel_rfl);exact tt_load 24 (.tmp 5) (.pointer (some ⟨w.heap.size+1+1,0,none⟩)) (wv z) rfl (by kernel_rfl) h0 (load_pw hC.r2) hC (slots_put _ _ _ (by rw[hsz];exact of_decide_eq_true (by kernel_rfl))) (RT.refl _ _ _)
  ·intro a wx hC hsz hK
   have h0:a.tmps.getD 12 undef=dv ((x%2^256)*(y%2^256)):=hK.2 ⟨2,.data⟩ (by simp) rfl _ rfl;have h1:a.tmps.getD 13 undef=wv z:=hK.2 ⟨3,.data⟩ (by simp) rfl _ rfl;refine tt_call 106 #[a.tmps.getD 12 undef,a.tmps.getD 13 undef] (by kernel_rfl) (by kernel_rfl) ?_;rw[h0,h1];exact((fun wx=>divide_all ((x%2^256)*(y%2^256)) z (mul_small x y) wx) wx).mono fun e w' hh=>⟨_,hh.1,hC.below hh.2,slots_put _ _ _ (by rw[hsz];exact of_decide_eq_true (by kernel_rfl)),RT.of hC.high hh.2⟩
  ·intro a wx hC hsz hK
   have h0:a.tmps.getD 14 undef=.tuple #[dv (quoV ((x%2^256)*(y%2^256)) z),wv (remV ((x%2^256)*(y%2^256)) z)]:=hK.2 ⟨4,.data⟩ (by simp) rfl _ rfl;exact tt_val (.tuple #[dv (quoV ((x%2^256)*(y%2^256)) z),wv (remV ((x%2^256)*(y%2^256)) z)]) (by kernel_rfl) (by rw[<- h0];kernel_rfl) hC (slots_put _ _ _ (by rw[hsz];exact of_decide_eq_true (by kernel_rfl))) (RT.refl _ _ _)
  ·intro a wx hC hsz hK
   have h0:a.tmps.getD 9 undef=.tuple #[dv (quoV ((x%2^256)*(y%2^256)) z),wv (remV ((x%2^256)*(y%2^256)) z)]:=hK.2 ⟨5,.data⟩ (by simp) rfl _ rfl;refine tt_v (Instr.extract (a.tmps.getD 9 undef) 0) (dv (quoV ((x%2^256)*(y%2^256)) z)) (by kernel_rfl) rfl ?_ hC (slots_put _ _ _ (by rw[hsz];exact of_decide_eq_true (by kernel_rfl))) (RT.refl _ _ _);rw[h0];kernel_rfl
  ·intro a wx hC hsz hK
   have h0:a.tmps.getD 9 undef=.tuple #[dv (quoV ((x%2^256)*(y%2^256)) z),wv (remV ((x%2^256)*(y%2^256)) z)]:=hK.2 ⟨5,.data⟩ (by simp) rfl _ rfl;refine tt_v (Instr.extract (a.tmps.getD 9 undef) 1) (wv (remV ((x%2^256)*(y%2^256)) z)) (by kernel_rfl) rfl ?_ hC (slots_put _ _ _ (by rw[hsz];exact of_decide_eq_true (by kernel_rfl))) (RT.refl _ _ _);rw[h0];kernel_rfl
  ·intro a wx hC hsz hK
   exact tt_new (.pointer (some ⟨wx.heap.size,0,none⟩)) (by kernel_rfl) (by kernel_rfl) (hC.below ((Below.refl _ _).alloc (Nat.le_refl _) _)) ⟨_,slots_put _ _ _ (by rw[hsz];exact of_decide_eq_true (by kernel_rfl)),hC.high,#[.int .u64 0,.int .u64 0,.int .u64 0,.int .u64 0,.int .u64 0,.int .u64 0,.int .u64 0,.int .u64 0],heap_alloc_new _ _,rfl⟩ (RT.of hC.high ((Below.refl _ _).alloc (Nat.le_refl _) _))
  ·intro a wx hC hsz hK
   exact tt_new (.pointer (some ⟨wx.heap.size,0,none⟩)) (by kernel_rfl) (by kernel_rfl) (hC.below ((Below.refl _ _).alloc (Nat.le_refl _) _)) ⟨_,slots_put _ _ _ (by rw[hsz];exact of_decide_eq_true (by kernel_rfl)),hC.high,#[.int .u64 0,.int .u64 0,.int .u64 0,.int .u64 0],heap_alloc_new _ _,rfl⟩ (RT.of hC.high ((Below.refl _ _).alloc (Nat.le_refl _) _))
  ·intro a wx hC hsz hK
   obtain⟨D,h1,h2,cs,h3,h4⟩:=hK.2 ⟨8,.data⟩ (by simp) rfl _ rfl;have h0:a.tmps.getD 15 undef=dv (quoV ((x%2^256)*(y%2^256)) z):=hK.2 ⟨6,.data⟩ (by simp) rfl _ rfl;exact tt_store (by kernel_rfl) rfl (run_store 135 (.tmp 7) (.tmp 15) _ _ rfl h1 h0 (store_dw h3 h4)) (hC.rowed h2) ⟨D,h1,h2,setRow_heap _ _ _ _ _ _ h3⟩ (RT.row h2 h3 h4)
  ·intro a wx hC hsz hK
   obtain⟨D,h1,h2,cs,h3,h4⟩:=hK.2 ⟨9,.data⟩ (by simp) rfl _ rfl;have h0:a.tmps.getD 16 undef=wv (remV ((x%2^256)*(y%2^256)) z):=hK.2 ⟨7,.data⟩ (by simp) rfl _ rfl;exact tt_store (by kernel_rfl) rfl (run_store 24 (.tmp 8) (.tmp 16) _ _ rfl h1 h0 (store_qw h3 h4)) (hC.rowed h2) ⟨D,h1,h2,setRow_heap _ _ _ _ _ _ h3⟩ (RT.row h2 h3 h4)
 ·intro f wx hC hf
  have s10:=hf 0 _ rfl;have s11:=hf 1 _ rfl;have s12:=hf 2 _ rfl;have s13:=hf 3 _ rfl;have s14:=hf 4 _ rfl;have s9:=hf 5 _ rfl;have s15:=hf 6 _ rfl;have s16:=hf 7 _ rfl;obtain⟨D7,s7,g7,r7⟩:=hf 10 _ rfl;obtain⟨D8,s8,g8,r8⟩:=hf 11 _ rfl;clear hf;generalize hA:putAll _ _ _=A at *;have hsz:A.tmps.size=18:=by rw[<- hA,putAll_size];rfl
  have t0:A.tmps.getD 0 undef=.agg (pw x):=by subst hA;kernel_rfl
  have t1:A.tmps.getD 1 undef=.agg (pw y):=by subst hA;kernel_rfl
  have t2:A.tmps.getD 2 undef=.agg (pw z):=by subst hA;kernel_rfl
  have t3:A.tmps.getD 3 undef=.pointer (some ⟨w.heap.size,0,none⟩):=by subst hA;kernel_rfl
  have t4:A.tmps.getD 4 undef=.pointer (some ⟨w.heap.size+1,0,none⟩):=by subst hA;kernel_rfl
  have t5:A.tmps.getD 5 undef=.pointer (some ⟨w.heap.size+1+1,0,none⟩):=by subst hA;kernel_rfl
  have t6:A.tmps.getD 6 undef=.pointer (some ⟨w.heap.size+1+1+1,0,none⟩):=by subst hA;kernel_rfl
  have t17:A.tmps.getD 17 undef=undef:=by subst hA;kernel_rfl
  have hd:A.defers=[]:=by subst hA;kernel_rfl
  clear hA;obtain⟨tm,df⟩:=A;simp only[slots]at *;have hL:=arr_lit tm;rw[hsz]at hL;simp only[List.range,List.range.loop,List.map]at hL;rw[t0,t1,t2,t3,t4,t5,t6,s7,s8,s9,s10,s11,s12,s13,s14,s15,s16,t17]at hL;subst hL hd;clear t0 t1 t2 t3 t4 t5 t6 s7 s8 s9 s10 s11 s12 s13 s14 s15 s16 t17 hsz;have hr:wx.heap[D8]?=some (.cells (pw (remV ((x%2^256)*(y%2^256)) z)) 24 (0,0)):=r8;have HC:=Lib.hid hC;clear hC
  go_wp2_with (first | (refine wpList_load_row rfl 24 _ rfl D8 rfl 24 (pw (remV ((x%2^256)*(y%2^256)) z)) (0,0) _ hr Tryz.underlying24 rfl infoWord ?_) | (refine wpList_store_row rfl 24 _ _ rfl (w.heap.size+1+1+1) (pw (remV ((x%2^256)*(y%2^256)) z)) rfl rfl 24 #[.int .u64 0,.int .u64 0,.int .u64 0,.int .u64 0] HC.out.r3 infoWord rfl (pw_one _) ?_))
  (try simp only[Exit.inBlock,Exit.then])
  exact bodyPost_ret (v:=.agg (pw (remV ((x%2^256)*(y%2^256)) z))) (results_cell_row (p:=6) rfl _ _ (w.heap.size+1+1+1) 24 _ (0,0) _ rfl (setRow_heap _ _ _ _ _ _ HC.out.r3) Tryz.underlying24 rfl infoWord) rfl ⟨rfl,below_setRow HC.out.old (by omega) _⟩
open Go.RowKit
def FA(q r c:Nat)(T:TypeId):Array Value:=if T=135 then dw q else if T=22 then #[.int .u64 c]else pw r
theorem store_da{g q r c:Nat}{w:World}{cs:Array Value}(hg:w.heap[g]?=some (.cells cs 135 (0,0)))(hs:cs.size=(FA q r c 135).size):(Instr.storeAt 135 (.pointer (some ⟨g,0,none⟩)) (dv q)).run Tryz.prog w=.ok () (w.setRow g (FA q r c 135)):=store_dw (r:=r) hg hs
theorem store_qa{g q r c:Nat}{w:World}{cs:Array Value}(hg:w.heap[g]?=some (.cells cs 24 (0,0)))(hs:cs.size=(FA q r c 24).size):(Instr.storeAt 24 (.pointer (some ⟨g,0,none⟩)) (wv r)).run Tryz.prog w=.ok () (w.setRow g (FA q r c 24)):=store_pw hs hg
structure CU (w:World) (D x y z:Nat) (wx:World):Prop where
 ct:CT w x y z wx
 far:w.heap.size+1+1+1+1<=D
 sum:wx.heap[D]?=some (.cells (pw (x+y)) 24 (0,0))
theorem CU.high{w wx:World}{D x y z:Nat}(h:CU w D x y z wx):D+1<=wx.heap.size:=(Array.getElem?_eq_some_iff.1 h.sum).1
theorem CU.below{w wx w':World}{D x y z:Nat}(h:CU w D x y z wx)(hb:Below wx.heap.size wx w'):CU w D x y z w':=⟨h.ct.below hb,h.far,(hb.block _ h.high).trans h.sum⟩
theorem CU.rowed{w wx:World}{D x y z g:Nat}{cs:Array Value}(h:CU w D x y z wx)(hg:D+1<=g):CU w D x y z (wx.setRow g cs):=⟨h.ct.rowed (by have:=h.far;omega),h.far,(setRow_other _ _ _ _ (by omega)).trans h.sum⟩
theorem sum_split(x y:Nat):(x+y)%2^256+2^256*(((x%2^256)+(y%2^256)) / 2^256)=((x%2^256)+(y%2^256)):=by
 rw[Nat.add_mod x y];exact Nat.mod_add_div _ _
theorem carry_lt(x y:Nat):(((x%2^256)+(y%2^256)) / 2^256)<18446744073709551616:=by
 have h1:=Nat.mod_lt x (show(2^256) > 0 by omega);have h2:=Nat.mod_lt y (show(2^256) > 0 by omega);omega
-- WHAT word.AddMod COMES TO.
theorem addmod_any(x y z:Nat)(w:World):Calls Tryz.prog 95 #[wv x,wv y,wv z] w fun e w'=>e=.returned (wv (remV ((x%2^256)+(y%2^256)) z))/\Below w.heap.size w w':=by
 rw[wv_pw x,wv_pw y,wv_pw z];have hadd:∀ w,Calls Tryz.prog 83 #[.agg (pw x),.agg (pw y)] w fun e w'=>e=.returned (.tuple #[.agg (pw (x+y)),.int .u64 ((((x%2^256)+(y%2^256)) / 2^256):Nat)])/\Below w.heap.size w w':=fun w=>addCarry_any x y w;have HADD:=Lib.hid hadd;clear hadd;have hcl:=carry_lt x y;have hV:((x%2^256)+(y%2^256))<13407807929942597099574024998205846127479365820592393377723561443721764030073546976801874298166903427690031858186486050853753882811946569946433649006084096:=by
  have h1:=Nat.mod_lt x (show(2^256) > 0 by omega);have h2:=Nat.mod_lt y (show(2^256) > 0 by omega);omega
 have HV:=Lib.hid hV;clear hV;have HCL:=Lib.hid hcl;clear hcl;have hC0:CT w x y z ((((w.alloc (.cells (pw x) 24)).alloc (.cells (pw y) 24)).alloc (.cells (pw z) 24)).alloc (.cells #[.int .u64 0,.int .u64 0,.int .u64 0,.int .u64 0] 24)):=⟨by go_grown,(heap4 _ _ _ _ _).1,(heap4 _ _ _ _ _).2.1,(heap4 _ _ _ _ _).2.2.1,(heap4 _ _ _ _ _).2.2.2⟩
 have HC0:=Lib.hid hC0;clear hC0;go_enter Tryz.func95,Tryz.ntmps95
 go_wp2_with (first | (refine wpList_load_row rfl 24 _ rfl w.heap.size rfl 24 (pw x) (0,0) _ HC0.out.r0 Tryz.underlying24 rfl infoWord ?_) | (refine wpList_load_row rfl 24 _ rfl (w.heap.size+1) rfl 24 (pw y) (0,0) _ HC0.out.r1 Tryz.underlying24 rfl infoWord ?_))
 refine(HADD.out _).mono ?_;rintro e w1 ⟨rfl,hb⟩;have HC1:=Lib.hid (HC0.out.below hb);clear hb
 go_wp2_with (refine wpList_store_row rfl 24 _ _ rfl w1.heap.size (pw (x+y)) rfl rfl 24 #[.int .u64 0,.int .u64 0,.int .u64 0,.int .u64 0] (heap_alloc_new _ _) infoWord rfl (pw_one _) ?_)
 have hCU:CU w w1.heap.size x y z ((w1.alloc (.cells #[.int .u64 0,.int .u64 0,.int .u64 0,.int .u64 0] 24)).setRow w1.heap.size (pw (x+y))):=⟨(HC1.out.below (by go_grown)).rowed HC1.out.high,HC1.out.high,setRow_heap _ _ _ _ _ _ (heap_alloc_new _ _)⟩
 obtain⟨E,hD⟩:∃ E,w1.heap.size=E:=⟨_,rfl⟩
 rw[hD]at hCU |-
 have HCU:=Lib.hid hCU;clear hCU;refine region_tie (CU w E x y z) (fun i s wx=>match i with | 0=>s 18=wv (x+y) | 1=>s 19=.int .u64 ((((x%2^256)+(y%2^256)) / 2^256):Nat) | 2=>∃ D,s 20=.slice (some ⟨D,0,none⟩) 1 1/\E+1<=D/\wx.heap[D]?=some (.cells (FA (quoV ((x%2^256)+(y%2^256)) z) (remV ((x%2^256)+(y%2^256)) z) (((x%2^256)+(y%2^256)) / 2^256) 22) 22 (0,0)) | 3=>s 21=dv ((x%2^256)+(y%2^256)) | 4=>s 22=wv z | 5=>s 23=.tuple #[dv (quoV ((x%2^256)+(y%2^256)) z),wv (remV ((x%2^256)+(y%2^256)) z)] | 6=>s 17=.tuple #[dv (quoV ((x%2^256)+(y%2^256)) z),wv (remV ((x%2^256)+(y%2^256)) z)] | 7=>s 24=dv (quoV ((x%2^256)+(y%2^256)) z) | 8=>s 25=wv (remV ((x%2^256)+(y%2^256)) z) | 9=>∃ D,s 9=.pointer (some ⟨D,0,none⟩)/\E+1<=D/\∃ cs,wx.heap[D]?=some (.cells cs 135 (0,0))/\cs.size=8 | 10=>∃ D,s 10=.pointer (some ⟨D,0,none⟩)/\E+1<=D/\∃ cs,wx.heap[D]?=some (.cells cs 24 (0,0))/\cs.size=4 | 11=>∃ D,s 9=.pointer (some ⟨D,0,none⟩)/\E+1<=D/\wx.heap[D]?=some (.cells (FA (quoV ((x%2^256)+(y%2^256)) z) (remV ((x%2^256)+(y%2^256)) z) (((x%2^256)+(y%2^256)) / 2^256) 135) 135 (0,0)) | 12=>∃ D,s 10=.pointer (some ⟨D,0,none⟩)/\E+1<=D/\wx.heap[D]?=some (.cells (FA (quoV ((x%2^256)+(y%2^256)) z) (remV ((x%2^256)+(y%2^256)) z) (((x%2^256)+(y%2^256)) / 2^256) 24) 24 (0,0)) | _=>True) (RT (E+1) (FA (quoV ((x%2^256)+(y%2^256)) z) (remV ((x%2^256)+(y%2^256)) z) (((x%2^256)+(y%2^256)) / 2^256))) (fun i=>match i with | 0=>[18] | 1=>[19] | 2=>[20] | 3=>[21] | 4=>[22] | 5=>[23] | 6=>[17] | 7=>[24] | 8=>[25] | 9=>[9] | 10=>[10] | 11=>[9] | 12=>[10] | _=>[]) (fun i=>i) (by kernel_rfl) (by kernel_rfl) ⟨⟨HCU.out.ct.old.drew,HCU.out.ct.r0,HCU.out.ct.r1,HCU.out.ct.r2,HCU.out.ct.r3⟩,HCU.out.far,HCU.out.sum⟩ ?_ ?_ ?_ ?_
 ·intro i s s' wx he hp
  match i,he,hp with
  | 0,he,hp=>exact(he 18 (by simp)).symm.trans hp
  | 1,he,hp=>exact(he 19 (by simp)).symm.trans hp
  | 2,he,hp=>obtain⟨D,h1,h2⟩:=hp;exact⟨D,(he 20 (by simp)).symm.trans h1,h2⟩
  | 3,he,hp=>exact(he 21 (by simp)).symm.trans hp
  | 4,he,hp=>exact(he 22 (by simp)).symm.trans hp
  | 5,he,hp=>exact(he 23 (by simp)).symm.trans hp
  | 6,he,hp=>exact(he 17 (by simp)).symm.trans hp
  | 7,he,hp=>exact(he 24 (by simp)).symm.trans hp
  | 8,he,hp=>exact(he 25 (by simp)).symm.trans hp
  | 9,he,hp=>obtain⟨D,h1,h2⟩:=hp;exact⟨D,(he 9 (by simp)).symm.trans h1,h2⟩
  | 10,he,hp=>obtain⟨D,h1,h2⟩:=hp;exact⟨D,(he 10 (by simp)).symm.trans h1,h2⟩
  | 11,he,hp=>obtain⟨D,h1,h2⟩:=hp;exact⟨D,(he 9 (by simp)).symm.trans h1,h2⟩
  | 12,he,hp=>obtain⟨D,h1,h2⟩:=hp;exact⟨D,(he 10 (by simp)).symm.trans h1,h2⟩
  | _+13,_,_=>trivial
 ·intro i s wa wb hR hp
  match i,hp with
  | 0,hp=>exact hp
  | 1,hp=>exact hp
  | 2,hp=>obtain⟨D,h1,h2,h3⟩:=hp;exact⟨D,h1,h2,hR.keep _ _ _ h3⟩
  | 3,hp=>exact hp
  | 4,hp=>exact hp
  | 5,hp=>exact hp
  | 6,hp=>exact hp
  | 7,hp=>exact hp
  | 8,hp=>exact hp
  | 9,hp=>obtain⟨D,h1,h2,cs,h3,h4⟩:=hp;obtain⟨cs',h5,h6⟩:=hR.shape _ _ _ _ h3;exact⟨D,h1,h2,cs',h5,h6.trans h4⟩
  | 10,hp=>obtain⟨D,h1,h2,cs,h3,h4⟩:=hp;obtain⟨cs',h5,h6⟩:=hR.shape _ _ _ _ h3;exact⟨D,h1,h2,cs',h5,h6.trans h4⟩
  | 11,hp=>obtain⟨D,h1,h2,h3⟩:=hp;exact⟨D,h1,h2,hR.keep _ _ _ h3⟩
  | 12,hp=>obtain⟨D,h1,h2,h3⟩:=hp;exact⟨D,h1,h2,hR.keep _ _ _ h3⟩
  | _+13,_=>trivial
 ·refine⟨?_,?_,?_,?_,?_,?_,?_,?_,?_,?_,?_,?_,?_,trivial⟩
  ·intro a wx hC hsz hK
   have h0:a.tmps.getD 7 undef=.pointer (some ⟨E,0,none⟩):=hK.1 7 (by kernel_rfl);exact tt_load 24 (.tmp 7) (.pointer (some ⟨E,0,none⟩)) (wv (x+y)) rfl (by kernel_rfl) h0 (load_pw hC.sum) hC (slots_put _ _ _ (by rw[hsz];exact of_decide_eq_true (by kernel_rfl))) (RT.refl _ _ _)
  ·intro a wx hC hsz hK
   have h0:a.tmps.getD 8 undef=.int .u64 ((((x%2^256)+(y%2^256)) / 2^256):Nat):=hK.1 8 (by kernel_rfl);exact tt_val (.int .u64 ((((x%2^256)+(y%2^256)) / 2^256):Nat)) (by kernel_rfl) (by rw[<- h0];kernel_rfl) hC (slots_put _ _ _ (by rw[hsz];exact of_decide_eq_true (by kernel_rfl))) (RT.refl _ _ _)
  ·intro a wx hC hsz hK
   have h0:a.tmps.getD 19 undef=.int .u64 ((((x%2^256)+(y%2^256)) / 2^256):Nat):=hK.2 ⟨1,.data⟩ (by simp) rfl _ rfl;refine tt_v (Instr.buildSlice 86 1 #[(0,a.tmps.getD 19 undef)]) (.slice (some ⟨wx.heap.size,0,none⟩) 1 1) (by kernel_rfl) (by kernel_rfl) (w':=wx.alloc (.cells #[.int .u64 ((((x%2^256)+(y%2^256)) / 2^256):Nat)] 22)) ?_ (hC.below ((Below.refl _ _).alloc (Nat.le_refl _) _)) ⟨_,slots_put _ _ _ (by rw[hsz];exact of_decide_eq_true (by kernel_rfl)),hC.high,heap_alloc_new _ _⟩ (RT.of hC.high ((Below.refl _ _).alloc (Nat.le_refl _) _));rw[h0];kernel_rfl
  ·intro a wx hC hsz hK
   have h0:a.tmps.getD 18 undef=wv (x+y):=hK.2 ⟨0,.data⟩ (by simp) rfl _ rfl;obtain⟨b,h1,h2,h3⟩:=hK.2 ⟨2,.data⟩ (by simp) rfl _ rfl;have h1':a.tmps.getD 20 undef=.slice (some ⟨b,0,none⟩) 1 1:=h1;refine tt_call 107 #[a.tmps.getD 18 undef,a.tmps.getD 20 undef] (by kernel_rfl) (by kernel_rfl) ?_;rw[h0,h1'];have hw:=widen_more (x+y) (((x%2^256)+(y%2^256)) / 2^256) b HCL.out wx (Array.getElem?_eq_some_iff.1 h3).1 ((cell_of_row _ _ 0 _ _ _ h3).trans rfl);rw[sum_split]at hw;exact hw.mono fun e w' hh=>⟨_,hh.1,hC.below hh.2,slots_put _ _ _ (by rw[hsz];exact of_decide_eq_true (by kernel_rfl)),RT.of hC.high hh.2⟩
  ·intro a wx hC hsz hK
   have h0:a.tmps.getD 5 undef=.pointer (some ⟨w.heap.size+1+1,0,none⟩):=hK.1 5 (by kernel_rfl);exact tt_load 24 (.tmp 5) (.pointer (some ⟨w.heap.size+1+1,0,none⟩)) (wv z) rfl (by kernel_rfl) h0 (load_pw hC.ct.r2) hC (slots_put _ _ _ (by rw[hsz];exact of_decide_eq_true (by kernel_rfl))) (RT.refl _ _ _)
  ·intro a wx hC hsz hK
   have h0:a.tmps.getD 21 undef=dv ((x%2^256)+(y%2^256)):=hK.2 ⟨3,.data⟩ (by simp) rfl _ rfl;have h1:a.tmps.getD 22 undef=wv z:=hK.2 ⟨4,.data⟩ (by simp) rfl _ rfl;refine tt_call 106 #[a.tmps.getD 21 undef,a.tmps.getD 22 undef] (by kernel_rfl) (by kernel_rfl) ?_;rw[h0,h1];exact((fun wx=>divide_all ((x%2^256)+(y%2^256)) z HV.out wx) wx).mono fun e w' hh=>⟨_,hh.1,hC.below hh.2,slots_put _ _ _ (by rw[hsz];exact of_decide_eq_true (by kernel_rfl)),RT.of hC.high hh.2⟩
  ·intro a wx hC hsz hK
   have h0:a.tmps.getD 23 undef=.tuple #[dv (quoV ((x%2^256)+(y%2^256)) z),wv (remV ((x%2^256)+(y%2^256)) z)]:=hK.2 ⟨5,.data⟩ (by simp) rfl _ rfl;exact tt_val (.tuple #[dv (quoV ((x%2^256)+(y%2^256)) z),wv (remV ((x%2^256)+(y%2^256)) z)]) (by kernel_rfl) (by rw[<- h0];kernel_rfl) hC (slots_put _ _ _ (by rw[hsz];exact of_decide_eq_true (by kernel_rfl))) (RT.refl _ _ _)
  ·intro a wx hC hsz hK
   have h0:a.tmps.getD 17 undef=.tuple #[dv (quoV ((x%2^256)+(y%2^256)) z),wv (remV ((x%2^256)+(y%2^256)) z)]:=hK.2 ⟨6,.data⟩ (by simp) rfl _ rfl;refine tt_v (Instr.extract (a.tmps.getD 17 undef) 0) (dv (quoV ((x%2^256)+(y%2^256)) z)) (by kernel_rfl) rfl ?_ hC (slots_put _ _ _ (by rw[hsz];exact of_decide_eq_true (by kernel_rfl))) (RT.refl _ _ _);rw[h0];kernel_rfl
  ·intro a wx hC hsz hK
   have h0:a.tmps.getD 17 undef=.tuple #[dv (quoV ((x%2^256)+(y%2^256)) z),wv (remV ((x%2^256)+(y%2^256)) z)]:=hK.2 ⟨6,.data⟩ (by simp) rfl _ rfl;refine tt_v (Instr.extract (a.tmps.getD 17 undef) 1) (wv (remV ((x%2^256)+(y%2^256)) z)) (by kernel_rfl) rfl ?_ hC (slots_put _ _ _ (by rw[hsz];exact of_decide_eq_true (by kernel_rfl))) (RT.refl _ _ _);rw[h0];kernel_rfl
  ·intro a wx hC hsz hK
   exact tt_new (.pointer (some ⟨wx.heap.size,0,none⟩)) (by kernel_rfl) (by kernel_rfl) (hC.below ((Below.refl _ _).alloc (Nat.le_refl _) _)) ⟨_,slots_put _ _ _ (by rw[hsz];exact of_decide_eq_true (by kernel_rfl)),hC.high,#[.int .u64 0,.int .u64 0,.int .u64 0,.int .u64 0,.int .u64 0,.int .u64 0,.int .u64 0,.int .u64 0],heap_alloc_new _ _,rfl⟩ (RT.of hC.high ((Below.refl _ _).alloc (Nat.le_refl _) _))
  ·intro a wx hC hsz hK
   exact tt_new (.pointer (some ⟨wx.heap.size,0,none⟩)) (by kernel_rfl) (by kernel_rfl) (hC.below ((Below.refl _ _).alloc (Nat.le_refl _) _)) ⟨_,slots_put _ _ _ (by rw[hsz];exact of_decide_eq_true (by kernel_rfl)),hC.high,#[.int .u64 0,.int .u64 0,.int .u64 0,.int .u64 0],heap_alloc_new _ _,rfl⟩ (RT.of hC.high ((Below.refl _ _).alloc (Nat.le_refl _) _))
  ·intro a wx hC hsz hK
   obtain⟨D,h1,h2,cs,h3,h4⟩:=hK.2 ⟨9,.data⟩ (by simp) rfl _ rfl;have h0:a.tmps.getD 24 undef=dv (quoV ((x%2^256)+(y%2^256)) z):=hK.2 ⟨7,.data⟩ (by simp) rfl _ rfl;exact tt_store (by kernel_rfl) rfl (run_store 135 (.tmp 9) (.tmp 24) _ _ rfl h1 h0 (store_da h3 h4)) (hC.rowed h2) ⟨D,h1,h2,setRow_heap _ _ _ _ _ _ h3⟩ (RT.row h2 h3 h4)
  ·intro a wx hC hsz hK
   obtain⟨D,h1,h2,cs,h3,h4⟩:=hK.2 ⟨10,.data⟩ (by simp) rfl _ rfl;have h0:a.tmps.getD 25 undef=wv (remV ((x%2^256)+(y%2^256)) z):=hK.2 ⟨8,.data⟩ (by simp) rfl _ rfl;exact tt_store (by kernel_rfl) rfl (run_store 24 (.tmp 10) (.tmp 25) _ _ rfl h1 h0 (store_qa h3 h4)) (hC.rowed h2) ⟨D,h1,h2,setRow_heap _ _ _ _ _ _ h3⟩ (RT.row h2 h3 h4)
 ·intro f wx hC hf
  have s18:=hf 0 _ rfl;have s19:=hf 1 _ rfl;obtain⟨D20,s20,g20,r20⟩:=hf 2 _ rfl;have s21:=hf 3 _ rfl;have s22:=hf 4 _ rfl;have s23:=hf 5 _ rfl;have s17:=hf 6 _ rfl;have s24:=hf 7 _ rfl;have s25:=hf 8 _ rfl;obtain⟨D9,s9,g9,r9⟩:=hf 11 _ rfl;obtain⟨D10,s10,g10,r10⟩:=hf 12 _ rfl;clear hf;generalize hA:putAll _ _ _=A at *;have hsz:A.tmps.size=27:=by rw[<- hA,putAll_size];rfl
  have t0:A.tmps.getD 0 undef=.agg (pw x):=by subst hA;kernel_rfl
  have t1:A.tmps.getD 1 undef=.agg (pw y):=by subst hA;kernel_rfl
  have t2:A.tmps.getD 2 undef=.agg (pw z):=by subst hA;kernel_rfl
  have t3:A.tmps.getD 3 undef=.pointer (some ⟨w.heap.size,0,none⟩):=by subst hA;kernel_rfl
  have t4:A.tmps.getD 4 undef=.pointer (some ⟨w.heap.size+1,0,none⟩):=by subst hA;kernel_rfl
  have t5:A.tmps.getD 5 undef=.pointer (some ⟨w.heap.size+1+1,0,none⟩):=by subst hA;kernel_rfl
  have t6:A.tmps.getD 6 undef=.pointer (some ⟨w.heap.size+1+1+1,0,none⟩):=by subst hA;kernel_rfl
  have t7:A.tmps.getD 7 undef=.pointer (some ⟨E,0,none⟩):=by subst hA;kernel_rfl
  have t8:A.tmps.getD 8 undef=.int .u64 ((((x%2^256)+(y%2^256)) / 2^256):Nat):=by subst hA;kernel_rfl
  have t11:A.tmps.getD 11 undef=.tuple #[.agg (pw (x+y)),.int .u64 ((((x%2^256)+(y%2^256)) / 2^256):Nat)]:=by subst hA;kernel_rfl
  have t12:A.tmps.getD 12 undef=.agg (pw x):=by subst hA;kernel_rfl
  have t13:A.tmps.getD 13 undef=.agg (pw y):=by subst hA;kernel_rfl
  have t14:A.tmps.getD 14 undef=.tuple #[.agg (pw (x+y)),.int .u64 ((((x%2^256)+(y%2^256)) / 2^256):Nat)]:=by subst hA;kernel_rfl
  have t15:A.tmps.getD 15 undef=.agg (pw (x+y)):=by subst hA;kernel_rfl
  have t16:A.tmps.getD 16 undef=.int .u64 ((((x%2^256)+(y%2^256)) / 2^256):Nat):=by subst hA;kernel_rfl
  have t26:A.tmps.getD 26 undef=undef:=by subst hA;kernel_rfl
  have hd:A.defers=[]:=by subst hA;kernel_rfl
  clear hA;obtain⟨tm,df⟩:=A;simp only[slots]at *;have hL:=arr_lit tm;rw[hsz]at hL;simp only[List.range,List.range.loop,List.map]at hL;rw[t0,t1,t2,t3,t4,t5,t6,t7,t8,s9,s10,t11,t12,t13,t14,t15,t16,s17,s18,s19,s20,s21,s22,s23,s24,s25,t26]at hL;subst hL hd;clear t0 t1 t2 t3 t4 t5 t6 t7 t8 s9 s10 t11 t12 t13 t14 t15 t16 s17 s18 s19 s20 s21 s22 s23 s24 s25 t26 hsz;have hr:wx.heap[D10]?=some (.cells (pw (remV ((x%2^256)+(y%2^256)) z)) 24 (0,0)):=r10;have HC:=Lib.hid hC.ct;clear hC
  go_wp2_with (first | (refine wpList_load_row rfl 24 _ rfl D10 rfl 24 (pw (remV ((x%2^256)+(y%2^256)) z)) (0,0) _ hr Tryz.underlying24 rfl infoWord ?_) | (refine wpList_store_row rfl 24 _ _ rfl (w.heap.size+1+1+1) (pw (remV ((x%2^256)+(y%2^256)) z)) rfl rfl 24 #[.int .u64 0,.int .u64 0,.int .u64 0,.int .u64 0] HC.out.r3 infoWord rfl (pw_one _) ?_))
  (try simp only[Exit.inBlock,Exit.then])
  exact bodyPost_ret (v:=.agg (pw (remV ((x%2^256)+(y%2^256)) z))) (results_cell_row (p:=6) rfl _ _ (w.heap.size+1+1+1) 24 _ (0,0) _ rfl (setRow_heap _ _ _ _ _ _ HC.out.r3) Tryz.underlying24 rfl infoWord) rfl ⟨rfl,below_setRow HC.out.old (by omega) _⟩
open Go.RowKit
theorem and_one(z:Nat)(h:z<18446744073709551616):bits .and .u64 z 1=((z%2:Nat):Int):=by
 have:=bits_and_u64_nat z 1 h (by omega);rw[Nat.and_one_is_mod]at this;exact this
theorem bit_of(x i p s:Nat)(hp:i / 64=p)(hs:i%64=s):pN x p / 2^s%2=x%115792089237316195423570985008687907853269984665640564039457584007913129639936 / 2^i%2:=by
 subst hp hs;unfold pN;have e:18446744073709551616=2^(i%64)*2^(64 - i%64):=by rw[<- Nat.pow_add,show i%64+(64 - i%64)=64 by omega]
 have hd:(2:Nat)∣2^(64 - i%64):=by
  have:=Nat.pow_dvd_pow 2 (show 1<=64 - i%64 by omega);simpa using this
 rw[e,Nat.mod_mul_right_div_self,Nat.mod_mod_of_dvd _ hd,Nat.div_div_eq_div_mul,<- Nat.pow_add,show 64*(i / 64)+i%64=i by omega]
theorem pw_at(x p:Nat)(h:p<4):(pw x)[p]?=some (.int .u64 (pN x p:Nat)):=by
 have c:p=0\/p=1\/p=2\/p=3:=by omega
 rcases c with rfl | rfl | rfl | rfl
 ·simp[pw,pN]
 ·simp[pw,pN];omega
 ·simp[pw,pN];omega
 ·simp[pw,pN];omega
theorem len_0(w:World):Calls Tryz.prog 86 #[.agg #[.int .u64 0,.int .u64 0,.int .u64 0,.int .u64 0]] w fun e w'=>e=.returned (.int .i64 0)/\Below w.heap.size w w':=by
 go_enter Tryz.func86,Tryz.ntmps86;go_wp2;refine wp_loop_rounds 5 ?_;rw[rounds_succ];go_wp2;rw[rounds_succ];go_wp2;rw[rounds_succ];go_wp2;rw[rounds_succ];go_wp2;rw[rounds_succ];go_wp2;go_ret;exact⟨rfl,by go_grown⟩
theorem len_1(a0:Nat)(h0:((a0:Int) != 0)=true)(hl0:(a0:Int)<=18446744073709551615)(w:World):Calls Tryz.prog 86 #[.agg #[.int .u64 a0,.int .u64 0,.int .u64 0,.int .u64 0]] w fun e w'=>e=.returned (.int .i64 (Lib.bitLen a0:Nat))/\Below w.heap.size w w':=by
 have hL:=fun w=>Tryz.bits_Len64 (a0:Int) w (by omega) hl0;rw[Int.toNat_natCast]at hL;have hb:Lib.bitLen a0<=64:=by
  by_cases h:a0=0
  ·rw[h];decide
  ·obtain⟨-,h2,-⟩:=bitLen_bounds a0 (by omega) h
   have h5:¬65<=Lib.bitLen a0:=fun h=>by
    have:=Nat.pow_le_pow_right (n:=2) (by omega) (show 64<=Lib.bitLen a0 - 1 by omega);omega
   omega
 generalize Lib.bitLen a0=L at *;have hb0:(0:Int)<=L:=by omega
 have hb1:(L:Int)<=64:=by omega
 go_enter Tryz.func86,Tryz.ntmps86;go_wp2;refine wp_loop_rounds 4 ?_;rw[rounds_succ];go_wp2;rw[rounds_succ];go_wp2;rw[rounds_succ];go_wp2;rw[rounds_succ];go_wp2_with fail;refine(hL _).mono ?_;rintro e w' ⟨rfl,hw⟩;subst hw;go_wp2;go_ret;exact⟨rfl,by go_grown⟩
theorem len_2(a0 a1:Nat)(h1:((a1:Int) != 0)=true)(hl1:(a1:Int)<=18446744073709551615)(w:World):Calls Tryz.prog 86 #[.agg #[.int .u64 a0,.int .u64 a1,.int .u64 0,.int .u64 0]] w fun e w'=>e=.returned (.int .i64 (64+(Lib.bitLen a1:Nat)))/\Below w.heap.size w w':=by
 have hL:=fun w=>Tryz.bits_Len64 (a1:Int) w (by omega) hl1;rw[Int.toNat_natCast]at hL;have hb:Lib.bitLen a1<=64:=by
  by_cases h:a1=0
  ·rw[h];decide
  ·obtain⟨-,h2,-⟩:=bitLen_bounds a1 (by omega) h
   have h5:¬65<=Lib.bitLen a1:=fun h=>by
    have:=Nat.pow_le_pow_right (n:=2) (by omega) (show 64<=Lib.bitLen a1 - 1 by omega);omega
   omega
 generalize Lib.bitLen a1=L at *;have hb0:(0:Int)<=L:=by omega
 have hb1:(L:Int)<=64:=by omega
 go_enter Tryz.func86,Tryz.ntmps86;go_wp2;refine wp_loop_rounds 3 ?_;rw[rounds_succ];go_wp2;rw[rounds_succ];go_wp2;rw[rounds_succ];go_wp2_with fail;refine(hL _).mono ?_;rintro e w' ⟨rfl,hw⟩;subst hw;go_wp2;go_ret;exact⟨rfl,by go_grown⟩
theorem len_3(a0 a1 a2:Nat)(h2:((a2:Int) != 0)=true)(hl2:(a2:Int)<=18446744073709551615)(w:World):Calls Tryz.prog 86 #[.agg #[.int .u64 a0,.int .u64 a1,.int .u64 a2,.int .u64 0]] w fun e w'=>e=.returned (.int .i64 (128+(Lib.bitLen a2:Nat)))/\Below w.heap.size w w':=by
 have hL:=fun w=>Tryz.bits_Len64 (a2:Int) w (by omega) hl2;rw[Int.toNat_natCast]at hL;have hb:Lib.bitLen a2<=64:=by
  by_cases h:a2=0
  ·rw[h];decide
  ·obtain⟨-,h2,-⟩:=bitLen_bounds a2 (by omega) h
   have h5:¬65<=Lib.bitLen a2:=fun h=>by
    have:=Nat.pow_le_pow_right (n:=2) (by omega) (show 64<=Lib.bitLen a2 - 1 by omega);omega
   omega
 generalize Lib.bitLen a2=L at *;have hb0:(0:Int)<=L:=by omega
 have hb1:(L:Int)<=64:=by omega
 go_enter Tryz.func86,Tryz.ntmps86;go_wp2;refine wp_loop_rounds 2 ?_;rw[rounds_succ];go_wp2;rw[rounds_succ];go_wp2_with fail;refine(hL _).mono ?_;rintro e w' ⟨rfl,hw⟩;subst hw;go_wp2;go_ret;exact⟨rfl,by go_grown⟩
theorem len_4(a0 a1 a2 a3:Nat)(h3:((a3:Int) != 0)=true)(hl3:(a3:Int)<=18446744073709551615)(w:World):Calls Tryz.prog 86 #[.agg #[.int .u64 a0,.int .u64 a1,.int .u64 a2,.int .u64 a3]] w fun e w'=>e=.returned (.int .i64 (192+(Lib.bitLen a3:Nat)))/\Below w.heap.size w w':=by
 have hL:=fun w=>Tryz.bits_Len64 (a3:Int) w (by omega) hl3;rw[Int.toNat_natCast]at hL;have hb:Lib.bitLen a3<=64:=by
  by_cases h:a3=0
  ·rw[h];decide
  ·obtain⟨-,h2,-⟩:=bitLen_bounds a3 (by omega) h
   have h5:¬65<=Lib.bitLen a3:=fun h=>by
    have:=Nat.pow_le_pow_right (n:=2) (by omega) (show 64<=Lib.bitLen a3 - 1 by omega);omega
   omega
 generalize Lib.bitLen a3=L at *;have hb0:(0:Int)<=L:=by omega
 have hb1:(L:Int)<=64:=by omega
 go_enter Tryz.func86,Tryz.ntmps86;go_wp2;refine wp_loop_rounds 1 ?_;rw[rounds_succ];go_wp2_with fail;refine(hL _).mono ?_;rintro e w' ⟨rfl,hw⟩;subst hw;go_wp2;go_ret;exact⟨rfl,by go_grown⟩
open Go.RowKit
def vb(b:Nat->Nat):Nat->Nat
 | 0=>0
 | n+1=>vb b n+2^n*b n
def bpt(b:Nat->Nat)(p:Nat):Nat->Nat
 | 0=>0
 | k+1=>bpt b p k+if k / 64=p then b k*2^(k%64)else 0
def mb(p k:Nat):Nat:=min 64 (k - 64*p)
theorem bpt_lt{b:Nat->Nat}(p:Nat):∀ k,(∀ j,j<k->b j<2)->bpt b p k<2^mb p k
 | 0,_=>by simp[bpt,Nat.two_pow_pos]
 | k+1,h=>by
  have ih:=bpt_lt p k (fun j hj=>h j (by omega));have hd:=h k (by omega);unfold bpt;by_cases e:k / 64=p
  ·rw[if_pos e]
   have m0:mb p k=k%64:=by unfold mb;omega
   have m1:mb p (k+1)=k%64+1:=by unfold mb;omega
   rw[m0]at ih;rw[m1,Nat.pow_succ];have h2:b k*2^(k%64)<=1*2^(k%64):=Nat.mul_le_mul_right _ (by omega);omega
  ·rw[if_neg e,Nat.add_zero]
   exact Nat.lt_of_lt_of_le ih (Nat.pow_le_pow_right (by omega) (by unfold mb;omega))
theorem bpt_64{b:Nat->Nat}(p k:Nat)(h:∀ j,j<k->b j<2):bpt b p k<18446744073709551616:=by
 refine Nat.lt_of_lt_of_le (bpt_lt p k h) ?_;have e:18446744073709551616=2^64:=by rfl
 rw[e];exact Nat.pow_le_pow_right (by omega) (by unfold mb;omega)
theorem blow{b:Nat->Nat}{k p s:Nat}(hp:k / 64=p)(hs:k%64=s)(h:∀ j,j<k->b j<2):bpt b p k<2^s:=by
 have:=bpt_lt (b:=b) p k h;rwa [show mb p k=k%64 by unfold mb;omega,hs]at this
theorem bpt_n4{b:Nat->Nat}:∀ k,k<=256->n4 (bpt b 0 k) (bpt b 1 k) (bpt b 2 k) (bpt b 3 k)=vb b k
 | 0,_=>rfl
 | k+1,h=>by
  have ih:=bpt_n4 (b:=b) k (by omega);have e:2^k*b k=2^(64*(k / 64))*(b k*2^(k%64)):=by
   rw[<- Nat.mul_assoc,Nat.mul_comm (2^(64*(k / 64))),Nat.mul_assoc,<- Nat.pow_add,show 64*(k / 64)+k%64=k by omega,Nat.mul_comm]
  simp only[bpt,vb];rw[e,<- ih];generalize b k*2^(k%64)=y;have c:k / 64=0\/k / 64=1\/k / 64=2\/k / 64=3:=by omega
  rcases c with c | c | c | c
  ·rw[c,show(2:Nat)^(64*0)=1 by rfl];simp only[n4];simp;omega
  ·rw[c,show(2:Nat)^(64*1)=18446744073709551616 by rfl];simp only[n4];simp;omega
  ·rw[c,show(2:Nat)^(64*2)=340282366920938463463374607431768211456 by rfl];simp only[n4];simp;omega
  ·rw[c,show(2:Nat)^(64*3)=6277101735386680763835789423207666416102355444464034512896 by rfl];simp only[n4];simp;omega
theorem or_bit(x y s:Nat)(hx:x<2^s)(hy:y<2)(hs:s<=63):bits .or .u64 (x:Int) (IntKind.u64.wrap ((y:Int)*2^s))=((x+y*2^s:Nat):Int):=by
 have h1:2^s<=2^63:=Nat.pow_le_pow_right (by omega) hs;have h2:y*2^s<=1*2^63:=Nat.mul_le_mul (by omega) h1;have h3:y*2^s<18446744073709551616:=by omega
 have e:IntKind.u64.wrap ((y:Int)*2^s)=((y*2^s:Nat):Int):=by
  rw[IntKind.wrap_u64];have e0:(y:Int)*2^s=((y*2^s:Nat):Int):=by simp
  rw[e0];omega
 rw[e,bits_or_u64_nat x (y*2^s) (by omega) h3];have:=Nat.two_pow_add_eq_or_of_lt hx y;rw[Nat.or_comm,Nat.mul_comm y,<- this,Nat.add_comm]
def rb4(b:Nat->Nat)(k:Nat):Array Value:=#[.int .u64 (bpt b 0 k:Nat),.int .u64 (bpt b 1 k:Nat),.int .u64 (bpt b 2 k:Nat),.int .u64 (bpt b 3 k:Nat)]
theorem rb4_size(b:Nat->Nat)(k:Nat):(rb4 b k).size=4:=rfl
theorem rb4_at(b:Nat->Nat)(k p:Nat)(h:p<4):(rb4 b k)[p]?=some (.int .u64 (bpt b p k:Nat)):=by
 have c:p=0\/p=1\/p=2\/p=3:=by omega
 rcases c with rfl | rfl | rfl | rfl <;> rfl
theorem rb4_one(b:Nat->Nat)(k:Nat):(rb4 b k).all (·.oneCell')=true:=by
 simp[rb4,Value.oneCell']
theorem rb4_set(b:Nat->Nat)(k p s:Nat)(hk:k<256)(hp:k / 64=p)(hs:k%64=s):(rb4 b k).setIfInBounds p (.int .u64 ((bpt b p k+b k*2^s:Nat):Int))=rb4 b (k+1):=by
 have c:p=0\/p=1\/p=2\/p=3:=by omega
 subst hs;rcases c with rfl | rfl | rfl | rfl <;> simp[rb4,bpt,hp]
theorem rb4_wv(b:Nat->Nat)(h:∀ j,j<256->b j<2):Value.agg (rb4 b 256)=wv (vb b 256):=by
 rw[<- bpt_n4 256 (Nat.le_refl _),wv_n4 (bpt_64 _ _ h) (bpt_64 _ _ h) (bpt_64 _ _ h) (bpt_64 _ _ h)];rfl
def pbit(x:Nat)(sh:Int)(fill i:Nat):Nat:=if 0<=(i:Int)+sh/\(i:Int)+sh<256 then x%115792089237316195423570985008687907853269984665640564039457584007913129639936 / 2^((i:Int)+sh).toNat%2 else fill
theorem pbit_lt(x:Nat)(sh:Int)(fill i:Nat)(hf:fill<2):pbit x sh fill i<2:=by
 unfold pbit;split <;> omega
open Go.RowKit
theorem vb_mod(Y:Nat)(b:Nat->Nat):∀ n,(∀ i,i<n->b i=Y / 2^i%2)->vb b n=Y%2^n
 | 0,_=>by simp[vb,Nat.mod_one]
 | n+1,h=>by
  simp only[vb];rw[vb_mod Y b n (fun i hi=>h i (by omega)),h n (by omega),Nat.pow_succ,Nat.mod_mul]
theorem vb_shr(x n:Nat):wv (vb (pbit x (n:Int) 0) 256)=wv (x%2^256 / 2^n):=by
 rw[vb_mod (x%2^256 / 2^n) _ 256 (fun i hi=>?_)]
 ·apply wv_congr
  rw[show(2:Nat)^256=2^256 by rfl,Nat.mod_mod]
 ·unfold pbit
  rw[Nat.div_div_eq_div_mul,<- Nat.pow_add,Nat.add_comm n i];by_cases h:i+n<256
  ·rw[if_pos (by omega),show((i:Int)+(n:Int)).toNat=i+n by omega]
  ·rw[if_neg (by omega)]
   have h1:x%2^256<2^(i+n):=Nat.lt_of_lt_of_le (Nat.mod_lt _ (by omega)) (show(2^256)<=2^(i+n) from Nat.le_trans (show(2^256)<=2^256 by decide) (Nat.pow_le_pow_right (by omega) (by omega)));rw[Nat.div_eq_of_lt h1]
open Go.RowKit
def bl(x:Nat):Nat->Nat
 | 0=>0
 | k+1=>if x%115792089237316195423570985008687907853269984665640564039457584007913129639936 / 2^k%2=1 then k+1 else bl x k
theorem bl_le(x:Nat):∀ k,bl x k<=k
 | 0=>Nat.le_refl _
 | k+1=>by have:=bl_le x k;unfold bl;split <;> omega
theorem bl_spec(x:Nat):∀ k,x%115792089237316195423570985008687907853269984665640564039457584007913129639936%2^k<2^bl x k/\(bl x k=0\/2^(bl x k - 1)<=x%115792089237316195423570985008687907853269984665640564039457584007913129639936%2^k)
 | 0=>by simp[bl,Nat.mod_one]
 | k+1=>by
  obtain⟨h1,h2⟩:=bl_spec x k;have e:x%115792089237316195423570985008687907853269984665640564039457584007913129639936%2^(k+1)=x%115792089237316195423570985008687907853269984665640564039457584007913129639936%2^k+2^k*(x%115792089237316195423570985008687907853269984665640564039457584007913129639936 / 2^k%2):=by rw[Nat.pow_succ,Nat.mod_mul]
  have hm:x%115792089237316195423570985008687907853269984665640564039457584007913129639936%2^k<2^k:=Nat.mod_lt _ (Nat.two_pow_pos k);rw[e];unfold bl;by_cases hb:x%115792089237316195423570985008687907853269984665640564039457584007913129639936 / 2^k%2=1
  ·rw[if_pos hb,hb,Nat.pow_succ,Nat.add_sub_cancel]
   exact⟨by omega,.inr (by omega)⟩
  ·rw[if_neg hb,show x%115792089237316195423570985008687907853269984665640564039457584007913129639936 / 2^k%2=0 by omega,Nat.mul_zero,Nat.add_zero]
   exact⟨h1,h2⟩
theorem len_uniq{X a b:Nat}(h1:X<2^a)(h2:a=0\/2^(a - 1)<=X)(h3:X<2^b)(h4:b=0\/2^(b - 1)<=X):a=b:=by
 rcases Nat.lt_trichotomy a b with h | h | h
 ·rcases h4 with h4 | h4
  ·omega
  ·have:=Nat.pow_le_pow_right (n:=2) (by omega) (show a<=b - 1 by omega)
   omega
 ·exact h
 ·rcases h2 with h2 | h2
  ·omega
  ·have:=Nat.pow_le_pow_right (n:=2) (by omega) (show b<=a - 1 by omega)
   omega
-- WHAT Len COMES TO: just as many bits.
theorem len_exact(y:Nat)(w:World):Calls Tryz.prog 86 #[wv y] w fun e w'=>e=.returned (.int .i64 (bl y 256:Nat))/\Below w.heap.size w w':=by
 obtain⟨a0,a1,a2,a3,u0,u1,u2,u3,ea,na⟩:=wv_parts y;obtain⟨s1,s2⟩:=bl_spec y 256;rw[show(2:Nat)^256=115792089237316195423570985008687907853269984665640564039457584007913129639936 by rfl,Nat.mod_mod,<- na]at s1 s2;generalize bl y 256=B at *;rw[ea];clear ea na;by_cases h3:a3=0
 ·subst h3
  by_cases h2:a2=0
  ·subst h2
   by_cases h1:a1=0
   ·subst h1
    by_cases h0:a0=0
    ·subst h0
     have e:B=0:=len_uniq s1 s2 (by decide) (.inl rfl);rw[e];exact len_0 w
    ·obtain⟨l0,l1,l2⟩:=bitLen_bounds a0 u0 h0
     have e:B=Lib.bitLen a0:=len_uniq s1 s2 (by unfold n4;omega) (.inr (by unfold n4;omega));rw[e];exact len_1 a0 (by rw[bne_iff_ne];omega) (by omega) w
   ·obtain⟨l0,l1,l2⟩:=bitLen_bounds a1 u1 h1
    have e:B=64+Lib.bitLen a1:=len_uniq s1 s2 (by rw[Nat.pow_add,show(2:Nat)^64=18446744073709551616 by rfl];unfold n4;omega) (.inr (by rw[show 64+Lib.bitLen a1 - 1=64+(Lib.bitLen a1 - 1) by omega,Nat.pow_add,show(2:Nat)^64=18446744073709551616 by rfl];unfold n4;omega));rw[e,show((64+Lib.bitLen a1:Nat):Int)=64+(Lib.bitLen a1:Nat) by simp];exact len_2 a0 a1 (by rw[bne_iff_ne];omega) (by omega) w
  ·obtain⟨l0,l1,l2⟩:=bitLen_bounds a2 u2 h2
   have e:B=128+Lib.bitLen a2:=len_uniq s1 s2 (by rw[Nat.pow_add,show(2:Nat)^128=340282366920938463463374607431768211456 by rfl];unfold n4;omega) (.inr (by rw[show 128+Lib.bitLen a2 - 1=128+(Lib.bitLen a2 - 1) by omega,Nat.pow_add,show(2:Nat)^128=340282366920938463463374607431768211456 by rfl];unfold n4;omega));rw[e,show((128+Lib.bitLen a2:Nat):Int)=128+(Lib.bitLen a2:Nat) by simp];exact len_3 a0 a1 a2 (by rw[bne_iff_ne];omega) (by omega) w
 ·obtain⟨l0,l1,l2⟩:=bitLen_bounds a3 u3 h3
  have e:B=192+Lib.bitLen a3:=len_uniq s1 s2 (by rw[Nat.pow_add,show(2:Nat)^192=6277101735386680763835789423207666416102355444464034512896 by rfl];unfold n4;omega) (.inr (by rw[show 192+Lib.bitLen a3 - 1=192+(Lib.bitLen a3 - 1) by omega,Nat.pow_add,show(2:Nat)^192=6277101735386680763835789423207666416102355444464034512896 by rfl];unfold n4;omega));rw[e,show((192+Lib.bitLen a3:Nat):Int)=192+(Lib.bitLen a3:Nat) by simp];exact len_4 a0 a1 a2 a3 (by rw[bne_iff_ne];omega) (by omega) w
open Go.RowKit
theorem big_nought{y n:Nat}(hy:y<2^256)(hn:256<=n):y / 2^n=0:=by
 refine Nat.div_eq_of_lt (Nat.lt_of_lt_of_le hy ?_);rw[show(2^256)=2^256 by rfl];exact Nat.pow_le_pow_right (by omega) hn
theorem min_div{y n:Nat}(hy:y<2^256):y / 2^min n 256=y / 2^n:=by
 by_cases h:n<=256
 ·rw[Nat.min_eq_left h]
 ·rw[Nat.min_eq_right (by omega),big_nought hy (Nat.le_refl _),big_nought hy (by omega)]
theorem shr_n(n x:Nat)(hn:n<2^256)(w:World):Calls Tryz.prog 69 #[wv n,wv x] w fun e w'=>e=.returned (wv (x%2^256 / 2^n))/\Below w.heap.size w w':=by
 have h:=shr_any n x w;rwa [Nat.mod_eq_of_lt hn,min_div (Nat.mod_lt _ (by omega))]at h
theorem of_wv(n:Nat)(hn:n<18446744073709551616)(w:World):Calls Tryz.prog 70 #[.int .u64 n] w fun e w'=>e=.returned (.agg (pw n))/\Below w.heap.size w w':=by
 have h:=of_walk n w;rw[<- wv_one hn,wv_pw]at h;exact h
open Go.RowKit
theorem remV_of{x m:Nat}(h1:0<m)(hm:m<2^256):remV x m=x%m:=by
 unfold remV;rw[Nat.mod_eq_of_lt hm,if_neg (by omega)]
theorem cmp_pw(a b:Nat)(ha:a<2^256)(hb:b<2^256)(w:World):Calls Tryz.prog 89 #[.agg (pw a),.agg (pw b)] w fun e w'=>e=.returned (.int .i64 (ord a b))/\Below w.heap.size w w':=by
 have h:=cmp_any a b w;rw[Nat.mod_eq_of_lt ha,Nat.mod_eq_of_lt hb]at h;exact h
theorem mod_pw(a m:Nat)(ha:a<2^256)(h0:0<m)(hm:m<2^256)(w:World):Calls Tryz.prog 90 #[.agg (pw a),.agg (pw m)] w fun e w'=>e=.returned (.agg (pw (a%m)))/\Below w.heap.size w w':=by
 have h:=mod_any a m w;rw[Nat.mod_eq_of_lt ha,remV_of h0 hm]at h;exact h
theorem add_pw(a b:Nat)(w:World):Calls Tryz.prog 68 #[.agg (pw a),.agg (pw b)] w fun e w'=>e=.returned (.agg (pw (a+b)))/\Below w.heap.size w w':=add_any a b w
theorem sub_pw(a b:Nat)(hb:b<2^256)(w:World):Calls Tryz.prog 98 #[.agg (pw a),.agg (pw b)] w fun e w'=>e=.returned (.agg (pw (a+(2^256 - b))))/\Below w.heap.size w w':=by
 have h:=sub_any a b w;rw[Nat.mod_eq_of_lt hb]at h;exact h
theorem pw_congr{x y:Nat}(h:x%2^256=y%2^256):pw x=pw y:=by
 have:=wv_congr h;rw[wv_pw,wv_pw]at this;injection this
theorem not_pw(a:Nat)(ha:a<2^256)(w:World):Calls Tryz.prog 94 #[.agg (pw a)] w fun e w'=>e=.returned (.agg (pw (2^256 - 1 - a)))/\Below w.heap.size w w':=by
 have h:=not_any a w;rw[Nat.mod_eq_of_lt ha]at h;exact h
theorem addmod_pw(a b m:Nat)(ha:a<2^256)(hb:b<2^256)(h0:0<m)(hm:m<2^256)(w:World):Calls Tryz.prog 95 #[.agg (pw a),.agg (pw b),.agg (pw m)] w fun e w'=>e=.returned (.agg (pw ((a+b)%m)))/\Below w.heap.size w w':=by
 have h:=addmod_any a b m w;rw[Nat.mod_eq_of_lt ha,Nat.mod_eq_of_lt hb,remV_of h0 hm]at h;exact h
theorem mulmod_pw(a b m:Nat)(ha:a<2^256)(hb:b<2^256)(h0:0<m)(hm:m<2^256)(w:World):Calls Tryz.prog 97 #[.agg (pw a),.agg (pw b),.agg (pw m)] w fun e w'=>e=.returned (.agg (pw (a*b%m)))/\Below w.heap.size w w':=by
 have h:=mulmod_any a b m w;rw[Nat.mod_eq_of_lt ha,Nat.mod_eq_of_lt hb,remV_of h0 hm]at h;exact h
theorem shr_pw(n a:Nat)(hn:n<2^256)(ha:a<2^256)(w:World):Calls Tryz.prog 69 #[.agg (pw n),.agg (pw a)] w fun e w'=>e=.returned (.agg (pw (a / 2^n)))/\Below w.heap.size w w':=by
 have h:=shr_n n a hn w;rw[Nat.mod_eq_of_lt ha]at h;exact h
theorem len_pw(a:Nat)(w:World):Calls Tryz.prog 86 #[.agg (pw a)] w fun e w'=>e=.returned (.int .i64 (bl a 256:Nat))/\Below w.heap.size w w':=len_exact a w
/-! Two words compared. -/
open Go.RowKit
-- WHAT Of COMES TO.
theorem fof_any(F m a:Nat)(ha:a<115792089237316195423570985008687907853269984665640564039457584007913129639936)(w:World)(hF:FldAt w F m):Calls Tryz.prog 73 #[.pointer (some ⟨F,0,none⟩),.agg (pw a)] w fun e w'=>e=.returned (.agg (pw (a%m)))/\Below w.heap.size w w':=by
 have H0:=Lib.hid (CW.one hF a);have HCM:=Lib.hid (CW.calls (w:=w) (F:=F) (m:=m) (L:=[(w.heap.size+1,#[.int .u64 0,.int .u64 0,.int .u64 0,.int .u64 0]),(w.heap.size,pw a)]) (v:=.int .i64 (ord a m)) (fun wx hf=>cmp_pw a m ha hf.lt wx));have HMD:=Lib.hid (CW.calls (w:=w) (F:=F) (m:=m) (L:=[(w.heap.size+1,#[.int .u64 0,.int .u64 0,.int .u64 0,.int .u64 0]),(w.heap.size,pw a)]) (v:=.agg (pw (a%m))) (fun wx hf=>mod_pw a m ha (by have:=hf.big;omega) hf.lt wx));have HQ:=Lib.hid (show a<m->a%m=a from fun h=>Nat.mod_eq_of_lt h);clear hF ha;by_cases hlt:a<m
 ·rw[HQ.out hlt]
  clear HMD HQ;go_enter Tryz.func73,Tryz.ntmps73
  go_wp2_with fail
  refine wp_region_quiet (C:=CW w F m [(w.heap.size+1,#[.int .u64 0,.int .u64 0,.int .u64 0,.int .u64 0]),(w.heap.size,pw a)]) (by kernel_rfl) (by kernel_rfl) (H0.out.drew) ?_;simp only
  with_reducible refine q_load 24 (.tmp 3) (.pointer (some ⟨w.heap.size,0,none⟩)) (.agg (pw a)) rfl (by kernel_rfl) (by kernel_rfl) (fun _ c=>ld_pw (c.is _ _ (by simp))) ?_
  with_reducible refine q_val (.pointer (some ⟨F,0,none⟩)) (by kernel_rfl) (fun _ _=>by kernel_rfl) ?_
  with_reducible refine q_val (.pointer (some ⟨F,0,none⟩)) (by kernel_rfl) (fun _ _=>run_nil (.tmp 6) _ rfl (by kernel_rfl)) ?_
  with_reducible refine q_sem2 (Instr.fieldAt 103 (.pointer (some ⟨F,0,none⟩)) 0) (.pointer (some ⟨F,0,none⟩)) (by kernel_rfl) (by kernel_rfl) (fun w' _=>fld_at F w') ?_
  with_reducible refine q_load 24 (.tmp 8) (.pointer (some ⟨F,0,none⟩)) (.agg (pw m)) rfl (by kernel_rfl) (by kernel_rfl) (fun _ c=>ld_m c.fld) ?_
  with_reducible refine q_call 89 #[.agg (pw a),.agg (pw m)] (.int .i64 (ord a m)) (by kernel_rfl) (fun _=>by kernel_rfl) (HCM.out) ?_
  with_reducible refine q_bin .lss 3 _ _ 3 (.int .i64 (ord a m)) (.int .i64 0) (.bool true) rfl (by kernel_rfl) (by kernel_rfl) (by kernel_rfl) (fun _=>by kernel_rfl) (fun w'=>(lss_ord a m w').trans (by rw[decide_eq_true hlt])) ?_
  with_reducible refine wpQuiet_nil ?_
  intro wx hC;have HC:=Lib.hid hC;clear hC H0 HCM;simp only[Act.put,List.setIfInBounds_toArray,List.set_cons_succ,List.set_cons_zero]
  go_wp2_with (first | (refine wpList_ld rfl 24 _ rfl (.pointer (some ⟨w.heap.size,0,none⟩)) (.agg (pw a)) rfl (ld_pw (by exact HC.out.is _ _ (by simp))) ?_) | (refine wpList_store_row rfl 24 _ _ rfl (w.heap.size+1) (pw a) rfl rfl 24 (#[.int .u64 0,.int .u64 0,.int .u64 0,.int .u64 0]) (by exact HC.out.is _ _ (by simp)) (by rw[pw_size];exact infoW4) (by first | rfl | (rw[pw_size];rfl) | (rw[pw_size,pw_size])) (pw_one _) ?_))
  (try simp only[Act.put])
  refine bodyPost_ret (v:=.agg (pw a)) (results_cell_row (p:=4) rfl _ _ (w.heap.size+1) 24 (pw a) (0,0) _ rfl (setRow_heap _ _ _ _ _ _ (by exact HC.out.is _ (#[.int .u64 0,.int .u64 0,.int .u64 0,.int .u64 0]) (by simp))) Tryz.underlying24 rfl (by rw[pw_size];exact infoW4)) rfl ⟨rfl,below_setRow HC.out.old (by omega) _⟩
 ·obtain⟨y,hy⟩:∃ y,a%m=y:=⟨_,rfl⟩
  rw[hy]at HMD |-
  clear HQ hy;go_enter Tryz.func73,Tryz.ntmps73
  go_wp2_with fail
  refine wp_region_quiet (C:=CW w F m [(w.heap.size+1,#[.int .u64 0,.int .u64 0,.int .u64 0,.int .u64 0]),(w.heap.size,pw a)]) (by kernel_rfl) (by kernel_rfl) (H0.out.drew) ?_;simp only
  with_reducible refine q_load 24 (.tmp 3) (.pointer (some ⟨w.heap.size,0,none⟩)) (.agg (pw a)) rfl (by kernel_rfl) (by kernel_rfl) (fun _ c=>ld_pw (c.is _ _ (by simp))) ?_
  with_reducible refine q_val (.pointer (some ⟨F,0,none⟩)) (by kernel_rfl) (fun _ _=>by kernel_rfl) ?_
  with_reducible refine q_val (.pointer (some ⟨F,0,none⟩)) (by kernel_rfl) (fun _ _=>run_nil (.tmp 6) _ rfl (by kernel_rfl)) ?_
  with_reducible refine q_sem2 (Instr.fieldAt 103 (.pointer (some ⟨F,0,none⟩)) 0) (.pointer (some ⟨F,0,none⟩)) (by kernel_rfl) (by kernel_rfl) (fun w' _=>fld_at F w') ?_
  with_reducible refine q_load 24 (.tmp 8) (.pointer (some ⟨F,0,none⟩)) (.agg (pw m)) rfl (by kernel_rfl) (by kernel_rfl) (fun _ c=>ld_m c.fld) ?_
  with_reducible refine q_call 89 #[.agg (pw a),.agg (pw m)] (.int .i64 (ord a m)) (by kernel_rfl) (fun _=>by kernel_rfl) (HCM.out) ?_
  with_reducible refine q_bin .lss 3 _ _ 3 (.int .i64 (ord a m)) (.int .i64 0) (.bool false) rfl (by kernel_rfl) (by kernel_rfl) (by kernel_rfl) (fun _=>by kernel_rfl) (fun w'=>(lss_ord a m w').trans (by rw[decide_eq_false hlt])) ?_
  with_reducible refine wpQuiet_nil ?_
  intro wx hC;have HC:=Lib.hid hC;clear hC H0 HCM;simp only[Act.put,List.setIfInBounds_toArray,List.set_cons_succ,List.set_cons_zero]
  go_wp2_with fail
  refine region_quiet_tail 6 (CW w F m [(w.heap.size+1,#[.int .u64 0,.int .u64 0,.int .u64 0,.int .u64 0]),(w.heap.size,pw a)]) (by kernel_rfl) (by kernel_rfl) (HC.out.drew) ?_;simp only[List.take_succ_cons,List.take_zero,List.drop_succ_cons,List.drop_zero]
  with_reducible refine q_load 24 (.tmp 3) (.pointer (some ⟨w.heap.size,0,none⟩)) (.agg (pw a)) rfl (by kernel_rfl) (by kernel_rfl) (fun _ c=>ld_pw (c.is _ _ (by simp))) ?_
  with_reducible refine q_val (.pointer (some ⟨F,0,none⟩)) (by kernel_rfl) (fun _ _=>by kernel_rfl) ?_
  with_reducible refine q_val (.pointer (some ⟨F,0,none⟩)) (by kernel_rfl) (fun _ _=>run_nil (.tmp 14) _ rfl (by kernel_rfl)) ?_
  with_reducible refine q_sem2 (Instr.fieldAt 103 (.pointer (some ⟨F,0,none⟩)) 0) (.pointer (some ⟨F,0,none⟩)) (by kernel_rfl) (by kernel_rfl) (fun w' _=>fld_at F w') ?_
  with_reducible refine q_load 24 (.tmp 16) (.pointer (some ⟨F,0,none⟩)) (.agg (pw m)) rfl (by kernel_rfl) (by kernel_rfl) (fun _ c=>ld_m c.fld) ?_
  with_reducible refine q_call 90 #[.agg (pw a),.agg (pw m)] (.agg (pw y)) (by kernel_rfl) (fun _=>by kernel_rfl) (HMD.out) ?_
  with_reducible refine wpQuiet_nil ?_
  intro wx hC;have HC2:=Lib.hid hC;clear hC HC HMD;simp only[Act.put,List.setIfInBounds_toArray,List.set_cons_succ,List.set_cons_zero]
  go_wp2_with (refine wpList_store_row rfl 24 _ _ rfl (w.heap.size+1) (pw y) rfl rfl 24 (#[.int .u64 0,.int .u64 0,.int .u64 0,.int .u64 0]) (by exact HC2.out.is _ _ (by simp)) (by rw[pw_size];exact infoW4) (by first | rfl | (rw[pw_size];rfl) | (rw[pw_size,pw_size])) (pw_one _) ?_)
  (try simp only[Act.put])
  refine bodyPost_ret (v:=.agg (pw y)) (results_cell_row (p:=4) rfl _ _ (w.heap.size+1) 24 (pw y) (0,0) _ rfl (setRow_heap _ _ _ _ _ _ (by exact HC2.out.is _ (#[.int .u64 0,.int .u64 0,.int .u64 0,.int .u64 0]) (by simp))) Tryz.underlying24 rfl (by rw[pw_size];exact infoW4)) rfl ⟨rfl,below_setRow HC2.out.old (by omega) _⟩
end Go.Proofs.YtfmpjjhdocejiaaGreat
