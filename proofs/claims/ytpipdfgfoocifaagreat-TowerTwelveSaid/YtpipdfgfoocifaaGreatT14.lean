/- What bailiwickref01.Divide comes to: quotient and rest of digits by others that are not nought. (Cut to what is reached, written closely: Less · Minus · RDivNum.) -/
import Derived.Test.YtpipdfgfoocifaaGreatT5
import Derived.Test.YtpipdfgfoocifaaGreatT6
import Derived.Test.YtpipdfgfoocifaaGreatT7
set_option linter.all false
set_option maxRecDepth 100000
set_option maxHeartbeats 8000000
namespace Go.Proofs.YtpipdfgfoocifaaGreat
open Go.RowKit
theorem less_top{a b:Nat->Nat}{k:Nat}(ha:∀ j,j<k->a j<65536)(_hb:∀ j,j<k->b j<65536)(h:a k<b k):vd a (k+1)<vd b (k+1):=by
 have h1:=vd_lt ha;simp only[vd];have h2:65536^k*a k+65536^k<=65536^k*b k:=by
  have:=Nat.mul_le_mul_left (65536^k) (show a k+1<=b k by omega);rwa [Nat.mul_add,Nat.mul_one]at this
 omega
theorem vd_same_above{a b:Nat->Nat}(k:Nat):∀ N,k<=N->(∀ j,k<=j->j<N->a j=b j)->vd a N+vd b k=vd b N+vd a k:=by
 intro N hN h
 induction N with
 | zero=>(obtain rfl:k=0:=by omega);rfl
 | succ N ih =>
  by_cases e:k=N+1
  ·subst e;omega
  ·have:=ih (by omega) (fun j h1 h2=>h j h1 (by omega))
   simp only[vd];rw[h N (by omega) (by omega)];omega
theorem less_any(ba ca bb cb n m:Nat)(da db:Nat->Nat)(hn:(n:Int)<=1000000)(hm:(m:Int)<=1000000)(ha:∀ j,j<n->da j<65536)(hb:∀ j,j<m->db j<65536)(w:World)(hA:Dg w ba n da)(hB:Dg w bb m db) :
  Calls Tryz.prog 102 #[.slice (some ⟨ba,0,none⟩) n ca,.slice (some ⟨bb,0,none⟩) m cb] w fun e w'=>e=.returned (.bool (decide (vd da n<vd db m)))/\w=w':=by
 have en:=vd_pad da n (max n m) (by omega);have em:=vd_pad db m (max n m) (by omega);rw[<- en,<- em];clear en em;have Pa:Hid (∀ j,pad da n j<65536):=Lib.hid (fun j=>by unfold pad;split;exact ha j (by omega);omega);have Pb:Hid (∀ j,pad db m j<65536):=Lib.hid (fun j=>by unfold pad;split;exact hb j (by omega);omega);have Ha:=Lib.hid ha;clear ha;have Hb:=Lib.hid hb;clear hb;have HA:=Lib.hid hA;clear hA;have HB:=Lib.hid hB;clear hB;have hn0:(0:Int)<=n:=by omega
 have hm0:(0:Int)<=m:=by omega
 obtain⟨R,hR⟩:∃ R,decide (vd (pad da n) (max n m)<vd (pad db m) (max n m))=R:=⟨_,rfl⟩
 rw[hR];have HR:=Lib.hid hR;clear hR;by_cases hnm:n<m
 ·have hcmp:(n:Int)<(m:Int):=by omega
  obtain⟨N,hN⟩:∃ N,max n m=N:=⟨_,rfl⟩
  have HN:=Lib.hid hN;clear hN;go_enter Tryz.func102,Tryz.ntmps102;go_wp2
  go_loop [6] (fun i=>∃ k:Nat,k<=N/\i=.int .i64 ((k:Int) - 1)/\Hid (∀ j,k<=j->j<N->pad da n j=pad db m j)) (fun i=>(intOf i+1).toNat)
  case atStart=>exact⟨N,Nat.le_refl _,by have:=HN.out;first | (rw[show N=m by omega]) | rfl,Lib.hid (fun j h1 h2=>by omega)⟩
  case round =>
   obtain⟨k,hk,rfl,HE⟩:=hrel;have hNb:N<=1000000:=by have:=HN.out;omega
   have hk1:(k:Int)<=1000000:=by omega
   rcases k with _ | k
   ·go_wp2
    go_ret;refine⟨?_,rfl⟩;rw[<- HR.out,HN.out];have h:=vd_same_above 0 N (Nat.zero_le _) (fun j _ h2=>HE.out j (Nat.zero_le _) h2);simp only[vd]at h;rw[show decide (vd (pad da n) N<vd (pad db m) N)=false by rw[decide_eq_false_iff_not];omega];rfl
   ·have e1:((k+1:Nat):Int) - 1=(k:Int):=by omega
    rw[e1];have hk0:(0:Int)<=k:=by omega
    have hk2:(k:Int)<=1000000:=by omega
    have hge:∀(x y:Nat),pad da n k=x->pad db m k=y->x≠y->R=decide (x<y):=fun x y hx hy hne=>by
     rw[<- HR.out,HN.out];have h:=vd_same_above (k+1) N (by omega) (fun j h1 h2=>HE.out j h1 h2);by_cases hlt:x<y
     ·have:=less_top (a:=pad da n) (b:=pad db m) (k:=k) (fun j _=>Pa.out j) (fun j _=>Pb.out j) (by rw[hx,hy];exact hlt)
      rw[decide_eq_true hlt,decide_eq_true (by omega)]
     ·have:=less_top (a:=pad db m) (b:=pad da n) (k:=k) (fun j _=>Pb.out j) (fun j _=>Pa.out j) (by rw[hx,hy];omega)
      rw[decide_eq_false hlt,decide_eq_false (by omega)]
    have HG:=Lib.hid hge;clear hge e1;by_cases h1:k<n
    ·by_cases h2:k<m
     ·have xa:w.cell? ⟨ba,k,none⟩=some (.int .u64 (da k:Nat)):=HA.out.2 k (by omega)
      have hka:(k:Int)<(n:Int):=by omega
      have pa:pad da n k=da k:=by unfold pad;rw[if_pos (by omega)]
      have xb:w.cell? ⟨bb,k,none⟩=some (.int .u64 (db k:Nat)):=HB.out.2 k (by omega);have hkb:(k:Int)<(m:Int):=by omega
      have pb:pad db m k=db k:=by unfold pad;rw[if_pos (by omega)]
      have PA:=Lib.hid pa;clear pa;have PB:=Lib.hid pb;clear pb;by_cases he:da k=db k
      ·have hb1:(((da k:Nat):Int) == ((db k:Nat):Int))=true:=by simp;omega
       have hb2:(((da k:Nat):Int) != ((db k:Nat):Int))=false:=by simp;omega
       have HE2:=Lib.hid he;clear he;go_wp2
       go_round
       case rel =>
        refine⟨k,by omega,rfl,Lib.hid (fun j h1 h2=>?_)⟩;by_cases hj:j=k
        ·subst hj;rw[PA.out,PB.out,HE2.out]
        ·exact HE.out j (by omega) h2
       case measure=>simp[intOf]
      ·have hb1:(((da k:Nat):Int) == ((db k:Nat):Int))=false:=by simp;omega
       have hb2:(((da k:Nat):Int) != ((db k:Nat):Int))=true:=by simp;omega
       have hr:=HG.out _ _ PA.out PB.out he;have HRR:=Lib.hid hr;clear hr he;go_wp2;go_ret;refine⟨?_,rfl⟩;rw[HRR.out]
       try simp
     ·have xa:w.cell? ⟨ba,k,none⟩=some (.int .u64 (da k:Nat)):=HA.out.2 k (by omega)
      have hka:(k:Int)<(n:Int):=by omega
      have pa:pad da n k=da k:=by unfold pad;rw[if_pos (by omega)]
      have hkb:¬(k:Int)<(m:Int):=by omega
      have pb:pad db m k=0:=by unfold pad;rw[if_neg (by omega)]
      have PA:=Lib.hid pa;clear pa;have PB:=Lib.hid pb;clear pb;by_cases he:da k=0
      ·have hb1:(((da k:Nat):Int) == (0:Int))=true:=by simp;omega
       have hb2:(((da k:Nat):Int) != (0:Int))=false:=by simp;omega
       have HE2:=Lib.hid he;clear he;go_wp2
       go_round
       case rel =>
        refine⟨k,by omega,rfl,Lib.hid (fun j h1 h2=>?_)⟩;by_cases hj:j=k
        ·subst hj;rw[PA.out,PB.out,HE2.out]
        ·exact HE.out j (by omega) h2
       case measure=>simp[intOf]
      ·have hb1:(((da k:Nat):Int) == (0:Int))=false:=by simp;omega
       have hb2:(((da k:Nat):Int) != (0:Int))=true:=by simp;omega
       have hr:=HG.out _ _ PA.out PB.out he;have HRR:=Lib.hid hr;clear hr he;go_wp2;go_ret;refine⟨?_,rfl⟩;rw[HRR.out]
       try simp
    ·have h2:k<m:=by have:=HN.out;omega
     have hka:¬(k:Int)<(n:Int):=by omega
     have pa:pad da n k=0:=by unfold pad;rw[if_neg (by omega)]
     have xb:w.cell? ⟨bb,k,none⟩=some (.int .u64 (db k:Nat)):=HB.out.2 k (by omega);have hkb:(k:Int)<(m:Int):=by omega
     have pb:pad db m k=db k:=by unfold pad;rw[if_pos (by omega)]
     have PA:=Lib.hid pa;clear pa;have PB:=Lib.hid pb;clear pb;by_cases he:0=db k
     ·have hb1:((0:Int) == ((db k:Nat):Int))=true:=by simp;omega
      have hb2:((0:Int) != ((db k:Nat):Int))=false:=by simp;omega
      have HE2:=Lib.hid he;clear he;go_wp2
      go_round
      case rel =>
       refine⟨k,by omega,rfl,Lib.hid (fun j h1 h2=>?_)⟩;by_cases hj:j=k
       ·subst hj;rw[PA.out,PB.out,HE2.out]
       ·exact HE.out j (by omega) h2
      case measure=>simp[intOf]
     ·have hb1:((0:Int) == ((db k:Nat):Int))=false:=by simp;omega
      have hb2:((0:Int) != ((db k:Nat):Int))=true:=by simp;omega
      have hr:=HG.out _ _ PA.out PB.out he;have HRR:=Lib.hid hr;clear hr he;go_wp2;go_ret;refine⟨?_,rfl⟩;rw[HRR.out]
      try simp
 ·have hcmp:¬(n:Int)<(m:Int):=by omega
  obtain⟨N,hN⟩:∃ N,max n m=N:=⟨_,rfl⟩
  have HN:=Lib.hid hN;clear hN;go_enter Tryz.func102,Tryz.ntmps102;go_wp2
  go_loop [6] (fun i=>∃ k:Nat,k<=N/\i=.int .i64 ((k:Int) - 1)/\Hid (∀ j,k<=j->j<N->pad da n j=pad db m j)) (fun i=>(intOf i+1).toNat)
  case atStart=>exact⟨N,Nat.le_refl _,by have:=HN.out;first | (rw[show N=n by omega]) | rfl,Lib.hid (fun j h1 h2=>by omega)⟩
  case round =>
   obtain⟨k,hk,rfl,HE⟩:=hrel;have hNb:N<=1000000:=by have:=HN.out;omega
   have hk1:(k:Int)<=1000000:=by omega
   rcases k with _ | k
   ·go_wp2
    go_ret;refine⟨?_,rfl⟩;rw[<- HR.out,HN.out];have h:=vd_same_above 0 N (Nat.zero_le _) (fun j _ h2=>HE.out j (Nat.zero_le _) h2);simp only[vd]at h;rw[show decide (vd (pad da n) N<vd (pad db m) N)=false by rw[decide_eq_false_iff_not];omega];rfl
   ·have e1:((k+1:Nat):Int) - 1=(k:Int):=by omega
    rw[e1];have hk0:(0:Int)<=k:=by omega
    have hk2:(k:Int)<=1000000:=by omega
    have hge:∀(x y:Nat),pad da n k=x->pad db m k=y->x≠y->R=decide (x<y):=fun x y hx hy hne=>by
     rw[<- HR.out,HN.out];have h:=vd_same_above (k+1) N (by omega) (fun j h1 h2=>HE.out j h1 h2);by_cases hlt:x<y
     ·have:=less_top (a:=pad da n) (b:=pad db m) (k:=k) (fun j _=>Pa.out j) (fun j _=>Pb.out j) (by rw[hx,hy];exact hlt)
      rw[decide_eq_true hlt,decide_eq_true (by omega)]
     ·have:=less_top (a:=pad db m) (b:=pad da n) (k:=k) (fun j _=>Pb.out j) (fun j _=>Pa.out j) (by rw[hx,hy];omega)
      rw[decide_eq_false hlt,decide_eq_false (by omega)]
    have HG:=Lib.hid hge;clear hge e1;by_cases h1:k<n
    ·by_cases h2:k<m
     ·have xa:w.cell? ⟨ba,k,none⟩=some (.int .u64 (da k:Nat)):=HA.out.2 k (by omega)
      have hka:(k:Int)<(n:Int):=by omega
      have pa:pad da n k=da k:=by unfold pad;rw[if_pos (by omega)]
      have xb:w.cell? ⟨bb,k,none⟩=some (.int .u64 (db k:Nat)):=HB.out.2 k (by omega);have hkb:(k:Int)<(m:Int):=by omega
      have pb:pad db m k=db k:=by unfold pad;rw[if_pos (by omega)]
      have PA:=Lib.hid pa;clear pa;have PB:=Lib.hid pb;clear pb;by_cases he:da k=db k
      ·have hb1:(((da k:Nat):Int) == ((db k:Nat):Int))=true:=by simp;omega
       have hb2:(((da k:Nat):Int) != ((db k:Nat):Int))=false:=by simp;omega
       have HE2:=Lib.hid he;clear he;go_wp2
       go_round
       case rel =>
        refine⟨k,by omega,rfl,Lib.hid (fun j h1 h2=>?_)⟩;by_cases hj:j=k
        ·subst hj;rw[PA.out,PB.out,HE2.out]
        ·exact HE.out j (by omega) h2
       case measure=>simp[intOf]
      ·have hb1:(((da k:Nat):Int) == ((db k:Nat):Int))=false:=by simp;omega
       have hb2:(((da k:Nat):Int) != ((db k:Nat):Int))=true:=by simp;omega
       have hr:=HG.out _ _ PA.out PB.out he;have HRR:=Lib.hid hr;clear hr he;go_wp2;go_ret;refine⟨?_,rfl⟩;rw[HRR.out]
       try simp
     ·have xa:w.cell? ⟨ba,k,none⟩=some (.int .u64 (da k:Nat)):=HA.out.2 k (by omega)
      have hka:(k:Int)<(n:Int):=by omega
      have pa:pad da n k=da k:=by unfold pad;rw[if_pos (by omega)]
      have hkb:¬(k:Int)<(m:Int):=by omega
      have pb:pad db m k=0:=by unfold pad;rw[if_neg (by omega)]
      have PA:=Lib.hid pa;clear pa;have PB:=Lib.hid pb;clear pb;by_cases he:da k=0
      ·have hb1:(((da k:Nat):Int) == (0:Int))=true:=by simp;omega
       have hb2:(((da k:Nat):Int) != (0:Int))=false:=by simp;omega
       have HE2:=Lib.hid he;clear he;go_wp2
       go_round
       case rel =>
        refine⟨k,by omega,rfl,Lib.hid (fun j h1 h2=>?_)⟩;by_cases hj:j=k
        ·subst hj;rw[PA.out,PB.out,HE2.out]
        ·exact HE.out j (by omega) h2
       case measure=>simp[intOf]
      ·have hb1:(((da k:Nat):Int) == (0:Int))=false:=by simp;omega
       have hb2:(((da k:Nat):Int) != (0:Int))=true:=by simp;omega
       have hr:=HG.out _ _ PA.out PB.out he;have HRR:=Lib.hid hr;clear hr he;go_wp2;go_ret;refine⟨?_,rfl⟩;rw[HRR.out]
       try simp
    ·have h2:k<m:=by have:=HN.out;omega
     have hka:¬(k:Int)<(n:Int):=by omega
     have pa:pad da n k=0:=by unfold pad;rw[if_neg (by omega)]
     have xb:w.cell? ⟨bb,k,none⟩=some (.int .u64 (db k:Nat)):=HB.out.2 k (by omega);have hkb:(k:Int)<(m:Int):=by omega
     have pb:pad db m k=db k:=by unfold pad;rw[if_pos (by omega)]
     have PA:=Lib.hid pa;clear pa;have PB:=Lib.hid pb;clear pb;by_cases he:0=db k
     ·have hb1:((0:Int) == ((db k:Nat):Int))=true:=by simp;omega
      have hb2:((0:Int) != ((db k:Nat):Int))=false:=by simp;omega
      have HE2:=Lib.hid he;clear he;go_wp2
      go_round
      case rel =>
       refine⟨k,by omega,rfl,Lib.hid (fun j h1 h2=>?_)⟩;by_cases hj:j=k
       ·subst hj;rw[PA.out,PB.out,HE2.out]
       ·exact HE.out j (by omega) h2
      case measure=>simp[intOf]
     ·have hb1:((0:Int) == ((db k:Nat):Int))=false:=by simp;omega
      have hb2:((0:Int) != ((db k:Nat):Int))=true:=by simp;omega
      have hr:=HG.out _ _ PA.out PB.out he;have HRR:=Lib.hid hr;clear hr he;go_wp2;go_ret;refine⟨?_,rfl⟩;rw[HRR.out]
      try simp
open Go.RowKit
def MinRel(w:World)(_n m k c:Nat)(da db:Nat->Nat)(v:Value)(wr:World):Prop :=
 c<=1/\∃ ns:Nat->Nat,wr.ownsRow w.heap.size 22 1 v k (dl ns k)/\(∀ j,j<k->ns j<65536)/\vd ns k+vd (pad db m) k=vd da k+65536^k*c/\Below w.heap.size w wr/\w.heap.size<wr.heap.size
theorem min_step{P N B A c d bk ak c':Nat}(h:N+B=A+P*c)(h1:d+(c+bk)=ak+65536*c'):N+P*d+(B+P*bk)=A+P*ak+P*65536*c':=by
 have e:=congrArg (P*·) h1;simp only[Nat.mul_add]at e;rw[<- Nat.mul_assoc]at e;omega
theorem min_next{w wr w1:World}{n m k c c' y:Nat}{da db ns:Nat->Nat}{v v' X:Value}(hown:wr.ownsRow w.heap.size 22 1 v k (dl ns k))(hns:∀ j,j<k->ns j<65536)
  (hv:vd ns k+vd (pad db m) k=vd da k+65536^k*c) (hb:Below w.heap.size w wr) (hz:w.heap.size<wr.heap.size) (hy:y<65536) (hc':c'<=1) (hx:y+(c+pad db m k)=da k+65536*c')
  (hown':w1.ownsRow w.heap.size 22 1 v' (k+1) (dl ns k++[.int .u64 (y:Nat)])) (hgrow:(wr.alloc (.cells #[X] 22)).grownBy w1 v.ownBlock) :
  MinRel w n m (k+1) c' da db v' w1:=by
 obtain⟨ho,hb'⟩:=push_rel hown hb (by omega) hown' hgrow;have hs:=hgrow.size;simp at hs;refine⟨hc',upd ns k y,ho,upd_lt hns hy,?_,hb',by omega⟩;rw[vd_upd,Nat.pow_succ];exact min_step hv hx
theorem min_end{P N B A c T:Nat}(h:N+B=A+P*c)(hc:c<=1)(hN:N<P)(hT:T<=A)(hB:B<=T):c=0:=by
 have:c=0\/c=1:=by omega
 rcases this with h0 | h0
 ·exact h0
 ·subst h0;omega
theorem vd_mono(d:Nat->Nat)(a:Nat):∀ e,vd d a<=vd d (a+e)
 | 0=>Nat.le_refl _
 | e+1=>Nat.le_trans (vd_mono d a e) (Nat.le_add_right _ _)
theorem pad_le(db:Nat->Nat)(m:Nat):∀ k,vd (pad db m) k<=vd db m
 | 0=>Nat.zero_le _
 | k+1=>by
  by_cases h:k+1<=m
  ·rw[vd_congr (e:=db) (fun j hj=>by simp only[pad];rw[if_pos (by omega)])]
   have h2:=vd_mono db (k+1) (m - (k+1));rwa [show k+1+(m - (k+1))=m by omega]at h2
  ·rw[vd_pad _ _ _ (by omega)];exact Nat.le_refl _
theorem vd_full{d:Nat->Nat}:∀ n m,(∀ j,n<=j->j<m->d j=0)->n<=m->vd d m=vd d n
 | n,0,_,h=>by rw[show n=0 by omega]
 | n,m+1,h0,h=>by
  by_cases e:n=m+1
  ·rw[e]
  ·rw[vd,vd_full n m (fun j h1 h2=>h0 j h1 (by omega)) (by omega),h0 m (by omega) (by omega)];omega
theorem vd_small{d:Nat->Nat}{n m:Nat}(h:vd d m<65536^n):∀ j,n<=j->j<m->d j=0:=fun j h1 h2=>by
 have h3:=vd_mono d (j+1) (m - (j+1));rw[show j+1+(m - (j+1))=m by omega,vd]at h3;have h4:65536^n<=65536^j:=Nat.pow_le_pow_right (by omega) h1;rcases Nat.eq_zero_or_pos (d j)with h5 | h5
 ·exact h5
 ·have h6:65536^j*1<=65536^j*d j:=Nat.mul_le_mul_left _ h5
  generalize 65536^j*d j=u at *;generalize 65536^j=v at *;generalize 65536^n=x at *;omega
theorem minus_any(ba ca bb cb n m:Nat)(da db:Nat->Nat)(hn0:0<n)(hn:(n:Int)<=1000000)(_hm:(m:Int)<=1000000)(ha:∀ j,j<n->da j<65536)(hb:∀ j,j<m->db j<65536)(hle:vd db m<=vd da n)(w:World)(hA:Dg w ba n da)(hB:Dg w bb m db) :
  Calls Tryz.prog 103 #[.slice (some ⟨ba,0,none⟩) n ca,.slice (some ⟨bb,0,none⟩) m cb] w (MkDg n (vd da n - vd db m) w):=by
 have Ha:=Lib.hid ha;clear ha;have Hb:=Lib.hid hb;clear hb;have HA:=Lib.hid hA;clear hA;have HB:=Lib.hid hB;clear hB;have HLE:=Lib.hid hle;clear hle;have HN0:=Lib.hid hn0;clear hn0;obtain⟨i0,hi,hz0,hz1,hz2⟩:=info_parts info22;go_enter Tryz.func103,Tryz.ntmps103;go_wp2
 go_loopw [5,6,7] (fun v cv i wr=>∃ k c:Nat,k<=n/\i=.int .i64 k/\cv=.int .u64 c/\Hid (MinRel w n m k c da db v wr)) (fun _ _ i _=>n - (intOf i).toNat)
 case atStart =>
  refine⟨0,0,by omega,rfl,rfl,Lib.hid ⟨by omega,da,?_,by omega,rfl,by go_grown,by simp⟩⟩;exact World.ownsRow_made (base:=w.heap.size) (e:=22) (size:=1) w #[] 0 (by simp) (by decide) (by simp)
 case round =>
  obtain⟨k,c,hk,rfl,rfl,H⟩:=hrel;have hk0:(0:Int)<=k:=by omega
  have hk1:(k:Int)<=1000000:=by omega
  obtain⟨hc,ns,hown,hns,hval,hbel,hsz⟩:=H.out;have hc0:(0:Int)<=c:=by omega
  have hc1:(c:Int)<=1:=by omega
  have HO:=Lib.hid hown;clear hown;have HNS:=Lib.hid hns;clear hns;have HVAL:=Lib.hid hval;clear hval;have HBEL:=Lib.hid hbel;clear hbel;have HSZ:=Lib.hid hsz;clear hsz;have HC:=Lib.hid hc;clear hc H;by_cases h1:k<n
  ·have hka:(k:Int)<(n:Int):=by omega
   have xa:((da k:Nat):Int)<=65535:=by have:=Ha.out k (by omega);omega
   have xa0:(0:Int)<=(da k:Nat):=by omega
   have ea:wr.cell? ⟨ba,k,none⟩=some (.int .u64 (da k:Nat)):=(HBEL.out.cell (p:=⟨ba,k,none⟩) HA.out.1).trans (HA.out.2 k (by omega));by_cases h2:k<m
   ·by_cases h3:da k<c+db k
    ·have hkb:(k:Int)<(m:Int):=by omega
     have xb:((db k:Nat):Int)<=65535:=by have:=Hb.out k (by omega);omega
     have xb0:(0:Int)<=(db k:Nat):=by omega
     have eb:wr.cell? ⟨bb,k,none⟩=some (.int .u64 (db k:Nat)):=(HBEL.out.cell (p:=⟨bb,k,none⟩) HB.out.1).trans (HB.out.2 k (by omega));have eb':pad db m k=db k:=by simp only[pad];rw[if_pos (by omega)]
     obtain⟨y,hy⟩:∃ y:Nat,(c:Int)+(db k:Nat)=(y:Int):=⟨c+db k,by omega⟩
     have hyc:y=c+pad db m k:=by rw[eb'];omega
     have HYC:=Lib.hid hyc;clear hyc eb';have hyb:(y:Int)<=65536:=by omega
     have hy0:(0:Int)<=y:=by omega
     have hlt:((da k:Nat):Int)<(y:Int):=by omega
     obtain⟨z,hz⟩:∃ z:Nat,((da k:Nat):Int)+65536 - (y:Int)=(z:Int):=⟨da k+65536 - y,by omega⟩
     have hzl:z<65536:=by omega
     have hzx:z+(c+pad db m k)=da k+65536*1:=by have:=HYC.out;omega
     have HZX:=Lib.hid hzx;clear hzx;have HZL:=Lib.hid hzl;clear hzl
     go_wp2_with (at_builtin;refine wpList_append_own _ rfl (.tmp 37) (.tmp 41) 94 rfl w.heap.size 22 i0 (.int .u64 0) 1 8 Tryz.underlying94 hi hz0 hz1 hz2 rfl (by decide) _ _ _ rfl (HO.out.alloc _) ⟨wr.heap.size,0,none⟩ 1 1 [.int .u64 (z:Int)] rfl rfl ?d111 ?d112 ?d113 ?d114 ?d115 ?_)
     try (case d111=>exact cell_one_new _ _ _)
     try (case d112=>first | rfl | (intro u hu;simp at hu;subst hu;rfl))
     try (case d113=>unfold maxLen;omega)
     try (case d114=>omega)
     try (case d115=>have:=HSZ.out;first | omega | (simp;omega))
     intro v' w1 hown' hgrow _;have HN:=Lib.hid (min_next (n:=n) (m:=m) (da:=da) (db:=db) HO.out HNS.out HVAL.out HBEL.out HSZ.out HZL.out (by omega) HZX.out hown' hgrow);clear hown' hgrow;go_wp2
     go_roundw
     case rel=>exact⟨k+1,1,by omega,by go_num,rfl,HN⟩
     case measure=>simp[intOf];omega
    ·have hkb:(k:Int)<(m:Int):=by omega
     have xb:((db k:Nat):Int)<=65535:=by have:=Hb.out k (by omega);omega
     have xb0:(0:Int)<=(db k:Nat):=by omega
     have eb:wr.cell? ⟨bb,k,none⟩=some (.int .u64 (db k:Nat)):=(HBEL.out.cell (p:=⟨bb,k,none⟩) HB.out.1).trans (HB.out.2 k (by omega));have eb':pad db m k=db k:=by simp only[pad];rw[if_pos (by omega)]
     obtain⟨y,hy⟩:∃ y:Nat,(c:Int)+(db k:Nat)=(y:Int):=⟨c+db k,by omega⟩
     have hyc:y=c+pad db m k:=by rw[eb'];omega
     have HYC:=Lib.hid hyc;clear hyc eb';have hyb:(y:Int)<=65536:=by omega
     have hy0:(0:Int)<=y:=by omega
     have hlt:¬((da k:Nat):Int)<(y:Int):=by omega
     obtain⟨z,hz⟩:∃ z:Nat,((da k:Nat):Int) - (y:Int)=(z:Int):=⟨da k - y,by omega⟩
     have hzl:z<65536:=by omega
     have hzx:z+(c+pad db m k)=da k+65536*0:=by have:=HYC.out;omega
     have HZX:=Lib.hid hzx;clear hzx;have HZL:=Lib.hid hzl;clear hzl
     go_wp2_with (at_builtin;refine wpList_append_own _ rfl (.tmp 37) (.tmp 41) 94 rfl w.heap.size 22 i0 (.int .u64 0) 1 8 Tryz.underlying94 hi hz0 hz1 hz2 rfl (by decide) _ _ _ rfl (HO.out.alloc _) ⟨wr.heap.size,0,none⟩ 1 1 [.int .u64 (z:Int)] rfl rfl ?d101 ?d102 ?d103 ?d104 ?d105 ?_)
     try (case d101=>exact cell_one_new _ _ _)
     try (case d102=>first | rfl | (intro u hu;simp at hu;subst hu;rfl))
     try (case d103=>unfold maxLen;omega)
     try (case d104=>omega)
     try (case d105=>have:=HSZ.out;first | omega | (simp;omega))
     intro v' w1 hown' hgrow _;have HN:=Lib.hid (min_next (n:=n) (m:=m) (da:=da) (db:=db) HO.out HNS.out HVAL.out HBEL.out HSZ.out HZL.out (by omega) HZX.out hown' hgrow);clear hown' hgrow;go_wp2
     go_roundw
     case rel=>exact⟨k+1,0,by omega,by go_num,rfl,HN⟩
     case measure=>simp[intOf];omega
   ·by_cases h3:da k<c
    ·have hkb:¬(k:Int)<(m:Int):=by omega
     have eb':pad db m k=0:=by simp only[pad];rw[if_neg (by omega)]
     obtain⟨y,hy⟩:∃ y:Nat,c=y:=⟨c,rfl⟩
     subst hy;have hyc:c=c+pad db m k:=by rw[eb'];omega
     have HYC:=Lib.hid hyc;clear hyc eb';have hyb:(c:Int)<=65536:=by omega
     have hy0:(0:Int)<=c:=by omega
     have hlt:((da k:Nat):Int)<(c:Int):=by omega
     obtain⟨z,hz⟩:∃ z:Nat,((da k:Nat):Int)+65536 - (c:Int)=(z:Int):=⟨da k+65536 - c,by omega⟩
     have hzl:z<65536:=by omega
     have hzx:z+(c+pad db m k)=da k+65536*1:=by have:=HYC.out;omega
     have HZX:=Lib.hid hzx;clear hzx;have HZL:=Lib.hid hzl;clear hzl
     go_wp2_with (at_builtin;refine wpList_append_own _ rfl (.tmp 37) (.tmp 41) 94 rfl w.heap.size 22 i0 (.int .u64 0) 1 8 Tryz.underlying94 hi hz0 hz1 hz2 rfl (by decide) _ _ _ rfl (HO.out.alloc _) ⟨wr.heap.size,0,none⟩ 1 1 [.int .u64 (z:Int)] rfl rfl ?d011 ?d012 ?d013 ?d014 ?d015 ?_)
     try (case d011=>exact cell_one_new _ _ _)
     try (case d012=>first | rfl | (intro u hu;simp at hu;subst hu;rfl))
     try (case d013=>unfold maxLen;omega)
     try (case d014=>omega)
     try (case d015=>have:=HSZ.out;first | omega | (simp;omega))
     intro v' w1 hown' hgrow _;have HN:=Lib.hid (min_next (n:=n) (m:=m) (da:=da) (db:=db) HO.out HNS.out HVAL.out HBEL.out HSZ.out HZL.out (by omega) HZX.out hown' hgrow);clear hown' hgrow;go_wp2
     go_roundw
     case rel=>exact⟨k+1,1,by omega,by go_num,rfl,HN⟩
     case measure=>simp[intOf];omega
    ·have hkb:¬(k:Int)<(m:Int):=by omega
     have eb':pad db m k=0:=by simp only[pad];rw[if_neg (by omega)]
     obtain⟨y,hy⟩:∃ y:Nat,c=y:=⟨c,rfl⟩
     subst hy;have hyc:c=c+pad db m k:=by rw[eb'];omega
     have HYC:=Lib.hid hyc;clear hyc eb';have hyb:(c:Int)<=65536:=by omega
     have hy0:(0:Int)<=c:=by omega
     have hlt:¬((da k:Nat):Int)<(c:Int):=by omega
     obtain⟨z,hz⟩:∃ z:Nat,((da k:Nat):Int) - (c:Int)=(z:Int):=⟨da k - c,by omega⟩
     have hzl:z<65536:=by omega
     have hzx:z+(c+pad db m k)=da k+65536*0:=by have:=HYC.out;omega
     have HZX:=Lib.hid hzx;clear hzx;have HZL:=Lib.hid hzl;clear hzl
     go_wp2_with (at_builtin;refine wpList_append_own _ rfl (.tmp 37) (.tmp 41) 94 rfl w.heap.size 22 i0 (.int .u64 0) 1 8 Tryz.underlying94 hi hz0 hz1 hz2 rfl (by decide) _ _ _ rfl (HO.out.alloc _) ⟨wr.heap.size,0,none⟩ 1 1 [.int .u64 (z:Int)] rfl rfl ?d001 ?d002 ?d003 ?d004 ?d005 ?_)
     try (case d001=>exact cell_one_new _ _ _)
     try (case d002=>first | rfl | (intro u hu;simp at hu;subst hu;rfl))
     try (case d003=>unfold maxLen;omega)
     try (case d004=>omega)
     try (case d005=>have:=HSZ.out;first | omega | (simp;omega))
     intro v' w1 hown' hgrow _;have HN:=Lib.hid (min_next (n:=n) (m:=m) (da:=da) (db:=db) HO.out HNS.out HVAL.out HBEL.out HSZ.out HZL.out (by omega) HZX.out hown' hgrow);clear hown' hgrow;go_wp2
     go_roundw
     case rel=>exact⟨k+1,0,by omega,by go_num,rfl,HN⟩
     case measure=>simp[intOf];omega
  ·have hka:¬(k:Int)<(n:Int):=by omega
   obtain rfl:k=n:=by omega
   have hc2:=min_end HVAL.out HC.out (vd_lt HNS.out) HLE.out (pad_le db m k);have R:=made_of (Nat.le_refl _) HO.out HN0.out HNS.out HBEL.out;have hpe:vd (pad db m) k=vd db m:=by
    by_cases q:m<=k
    ·exact vd_pad _ _ _ q
    ·have h5:=vd_small (d:=db) (n:=k) (m:=m) (Nat.lt_of_le_of_lt HLE.out (vd_lt Ha.out))
     rw[vd_full (d:=db) k m h5 (by omega)];exact vd_congr (fun j hj=>by simp only[pad];rw[if_pos (by omega)])
   have hfin:vd ns k=vd da k - vd db m:=by have:=HVAL.out;rw[hc2,hpe]at this;omega
   rw[hfin]at R;have HR:=Lib.hid R;clear R hfin hpe hc2;go_wp2;go_ret;exact HR.out
open Go.RowKit
def below1(x:Nat)(d:Nat->Nat)(j:Nat):Nat:=if j=0 then x else d (j - 1)
theorem vd_below1(x:Nat)(d:Nat->Nat):∀ n,vd (below1 x d) (n+1)=x+65536*vd d n
 | 0=>by simp[vd,below1]
 | n+1=>by
  rw[vd,vd_below1 x d n,vd,Nat.mul_add,<- Nat.mul_assoc,Nat.pow_succ,Nat.mul_comm (65536^n) 65536];simp only[below1];rw[if_neg (by omega),Nat.add_sub_cancel,Nat.add_assoc]
theorem below1_lt{x n:Nat}{d:Nat->Nat}(hx:x<65536)(hd:∀ j,j<n->d j<65536):∀ j,j<n+1->below1 x d j<65536:=fun j hj=>by
 unfold below1;split
 ·exact hx
 ·exact hd _ (by omega)
theorem dl_below1(x:Nat)(d:Nat->Nat)(n:Nat):Value.int .u64 (x:Nat)::dl d n=dl (below1 x d) (1+n):=by
 unfold dl;rw[Nat.add_comm 1 n,List.range_succ_eq_map,List.map_cons,List.map_map];rfl
structure DivR (w:World) (n m i c:Nat) (da q:Nat->Nat) (D:Nat) (Q g nr:Nat) (dr:Nat->Nat) (wr:World):Prop where
 old:Below w.heap.size w wr
 rest:Dg wr g nr dr
 apart:w.heap.size<g
 hQ:Q=w.heap.size
 restl:∀ j,j<nr->dr j<65536
 long:nr<=m+1
 out:OutAt wr Q n q
 outl:∀ j,j<n->q j<65536
 todo:∀ j,j<i->q j=0
 bits:q i%2^c=0
 sum:vd q n*D+(vd da i+65536^i*vd dr nr)=vd da n
 less:vd dr nr<2^c*D
theorem OutAt.below{wr w':World}{B L:Nat}{o:Nat->Nat}(h:OutAt wr B L o)(hb:Below wr.heap.size wr w'):OutAt w' B L o :=
 ⟨Nat.lt_of_lt_of_le h.1 hb.size,fun j hj=>⟨(hb.cell (p:=⟨B,j,none⟩) h.1).trans (h.2 j hj).1,(hb.frozen (p:=⟨B,j,none⟩) h.1).trans (h.2 j hj).2⟩⟩
theorem div_no{r c D:Nat}(h:¬2^c*D<=r):r<2^c*D:=by omega
theorem bits_half{x c:Nat}(h:x%2^(c+1)=0):x%2^c=0:=by
 rw[Nat.pow_succ]at h;have h1:x%(2^c*2)%2^c=x%2^c:=Nat.mod_mul_right_mod _ _ _;rw[h,Nat.zero_mod]at h1;exact h1.symm
theorem bits_more{x c:Nat}(h:x%2^(c+1)=0):(x+2^c)%2^c=0:=by rw[Nat.add_mod_right];exact bits_half h
theorem bits_room{x c:Nat}(h:x%2^(c+1)=0)(hx:x<65536)(hc:c<16):x+2^c<65536:=by
 have hp:=Nat.two_pow_pos c;obtain⟨k,hk⟩:=Nat.dvd_of_mod_eq_zero h;have hd:(65536:Nat)=2^(c+1)*2^(15 - c):=by rw[<- Nat.pow_add,show c+1+(15 - c)=16 by omega]
 have hk2:k<2^(15 - c):=by
  rw[hk,hd]at hx;exact Nat.lt_of_mul_lt_mul_left hx
 have h3:2^(c+1)*(k+1)<=2^(c+1)*2^(15 - c):=Nat.mul_le_mul_left _ hk2;rw[<- hd,Nat.mul_add,<- hk,Nat.pow_succ]at h3;omega
theorem bits_or_up{x c:Nat}(h:x%2^(c+1)=0)(hx:x<65536)(hc:c<16):bits .or .u64 (x:Int) (2^c)=((x+2^c:Nat):Int):=by
 have hp:2^c<65536:=by
  rw[show(65536:Nat)=2^16 by rfl];exact Nat.pow_lt_pow_right (by omega) hc
 have h1:=bits_or_u64_nat x (2^c) (by omega) (by omega);have e0:((2^c:Nat):Int)=2^c:=by simp
 rw[e0]at h1;rw[h1];congr 1;obtain⟨k,hk⟩:=Nat.dvd_of_mod_eq_zero h;rw[hk,<- Nat.two_pow_add_eq_or_of_lt (Nat.pow_lt_pow_right (by omega) (Nat.lt_succ_self c))]
theorem div_sum{V q r i' R D A P t D':Nat}(h:q*D+(A+P*r)=V)(hr:r=R+D')(hD':D'=t*D)(hi:i'=q+P*t):i'*D+(A+P*R)=V:=by
 subst hi hD' hr;rw[<- h];grind
theorem DivR.zero{w wr:World}{n m i c D Q g nr:Nat}{da q dr:Nat->Nat}(h:DivR w n m i (c+1) da q D Q g nr dr wr){w':World}(hb:Below wr.heap.size wr w')(hl:¬2^c*D<=vd dr nr):DivR w n m i c da q D Q g nr dr w' :=
 ⟨h.old.trans (hb.mono h.old.size),h.rest.below hb,h.apart,h.hQ,h.restl,h.long,h.out.below hb,h.outl,h.todo,bits_half h.bits,h.sum,div_no hl⟩
theorem DivR.one{w wr:World}{n m i c D Q g nr:Nat}{da q dr:Nat->Nat}(h:DivR w n m i (c+1) da q D Q g nr dr wr){w':World}{g':Nat}{dr':Nat->Nat}(hi:i<n)(hc:c<16)(hb:Below wr.heap.size wr w')(hl:2^c*D<=vd dr nr)
  (hr:Dg w' g' nr dr') (hg:wr.heap.size<=g') (hrl:∀ j,j<nr->dr' j<65536) (hv:vd dr' nr=vd dr nr - 2^c*D) :
  DivR w n m i c da (upd q i (q i+2^c)) D Q g' nr dr' (w'.setCell ⟨Q,i,none⟩ (.int .u64 ((q i+2^c:Nat):Int))):=by
 have hlt:=h.out.1;have hroom:=bits_room h.bits (h.outl i hi) hc;have hq:=vd_set q i (q i+2^c) n hi;have hQg:g'≠Q:=by omega
 refine⟨(h.old.trans (hb.mono h.old.size)).setCell (by show w.heap.size<=Q;rw[h.hQ];exact Nat.le_refl _) _,⟨by simpa using hr.1,fun j hj=>?_⟩,by have:=h.old.size;have:=h.hQ;omega,h.hQ,hrl,h.long,?_,fun j hj=>?_,fun j hj=>?_,?_,?_,?_⟩
 ·rw[World.cell?_setCell_other _ _ _ _ (fun e=>hQg (congrArg Addr.block e).symm)];exact hr.2 j hj
 ·exact(h.out.below hb).set i _ hi
 ·unfold upd;split
  ·exact hroom
  ·exact h.outl j hj
 ·unfold upd;rw[if_neg (by omega)];exact h.todo j hj
 ·simp only[upd];rw[if_pos trivial];exact bits_more h.bits
 ·refine div_sum h.sum (r:=vd dr nr) (R:=vd dr' nr) (D':=2^c*D) (t:=2^c) (by omega) rfl ?_
  rw[Nat.mul_add]at hq;omega
 ·rw[hv]
  have h1:=h.less;rw[Nat.pow_succ,Nat.mul_comm (2^c) 2,Nat.mul_assoc]at h1;omega
end Go.Proofs.YtpipdfgfoocifaaGreat
