/- What word.widen comes to, with no part above, and with one. (Cut to what is reached, written closely: Guess · Give · StepNum · Step · Raise · Widen.) -/
import Derived.Test.YtcmgphkjchicbaaR11
import Derived.Deep.QuietTactic
import Derived.BigQuiet
import Derived.Lib.ItoaNum
import Derived.Laws.Bits64b
import Derived.Test.YtcmgphkjchicbaaR4
import Derived.Laws.IdiomCopy
import Derived.Laws.CopyRow
set_option linter.all false
set_option maxRecDepth 100000
set_option maxHeartbeats 8000000
namespace Go.Proofs.Ytcmgphkjchicbaa
open Go.RowKit
theorem bitLen_bounds(x:Nat)(h:x<18446744073709551616)(h0:x≠0):1<=Lib.bitLen x/\2^(Lib.bitLen x - 1)<=x/\x<2^Lib.bitLen x:=Lib.bitLenAux_bounds 64 x (by omega) h0
theorem bitLen_full(x:Nat)(h:x<18446744073709551616)(h0:9223372036854775808<=x):Lib.bitLen x=64:=by
 obtain⟨-,h2,h3⟩:=bitLen_bounds x h (by omega);have h4:¬Lib.bitLen x<=63:=fun h=>by
  have:=Nat.pow_le_pow_right (n:=2) (by omega) h;omega
 have h5:¬65<=Lib.bitLen x:=fun h=>by
  have:=Nat.pow_le_pow_right (n:=2) (by omega) (show 64<=Lib.bitLen x - 1 by omega);omega
 omega
theorem div64_small(lo y:Nat)(h0:(0:Int)<y)(hlo:(lo:Int)<=18446744073709551615)(w:World) :
  Calls Try.prog 113 #[.int .u64 0,.int .u64 lo,.int .u64 y] w fun e w'=>e=.returned (.tuple #[.int .u64 ((lo / y:Nat):Int),.int .u64 ((lo%y:Nat):Int)])/\w.drew=w':=by
 have n0:((y:Int) == 0)=false:=by simp;omega
 have n1:¬(y:Int)<=0:=by omega
 have n2:(1:Int)<=y:=by omega
 have n3:(0:Int)<=lo:=by omega
 have n4:(lo:Int) / y<=lo:=by rw[<- Int.natCast_ediv];have:=Nat.div_le_self lo y;omega
 have n5:(0:Int)<=(lo:Int) / y:=Int.ediv_nonneg (by omega) (by omega);have n6:IntKind.u64.wrap ((lo:Int) / y)=(lo:Int) / y:=by rw[IntKind.wrap_u64];omega
 go_enter Try.func113,Try.ntmps113
 go_wp2_with fail
 go_region
 go_wp2
 go_ret2
 exact⟨by simp,rfl⟩
def guessN(high next b:Nat):Nat:=if b<=high then 18446744073709551615 else (high*18446744073709551616+next) / b
theorem guess_over(high next b:Nat)(h:(b:Int)<=high)(w:World) :
  Calls Try.prog 108 #[.int .u64 high,.int .u64 next,.int .u64 b] w fun e w'=>e=.returned (.int .u64 18446744073709551615)/\w=w':=by
 go_enter Try.func108,Try.ntmps108;go_wp2;go_ret;exact⟨rfl,rfl⟩
theorem guess_under(high next b q:Nat)(h:¬(b:Int)<=high)(w w1:World)(r:Int)
  (hD:Calls Try.prog 113 #[.int .u64 high,.int .u64 next,.int .u64 b] w fun e w'=>e=.returned (.tuple #[.int .u64 q,.int .u64 r])/\w1=w') :
  Calls Try.prog 108 #[.int .u64 high,.int .u64 next,.int .u64 b] w fun e w'=>e=.returned (.int .u64 q)/\w1=w':=by
 have HD:=Lib.hid hD;clear hD;go_enter Try.func108,Try.ntmps108
 go_wp2_with fail
 refine HD.out.mono ?_;rintro e w' ⟨rfl,rfl⟩;go_wp2;go_ret;exact⟨rfl,rfl⟩
theorem guess_under'(high next b q:Nat)(h:¬(b:Int)<=high)(w:World)
  (hD:Calls Try.prog 113 #[.int .u64 high,.int .u64 next,.int .u64 b] w (DivPost q w)) :
  Calls Try.prog 108 #[.int .u64 high,.int .u64 next,.int .u64 b] w fun e w'=>e=.returned (.int .u64 q)/\w=w':=by
 have HD:=Lib.hid hD;clear hD;go_enter Try.func108,Try.ntmps108
 go_wp2_with fail
 refine HD.out.mono ?_;rintro e w' ⟨⟨r,rfl⟩,rfl⟩;go_wp2;go_ret;exact⟨rfl,rfl⟩
theorem guess_any(high next b:Nat)(hh:high<18446744073709551616)(hn:next<18446744073709551616)(hb:b<18446744073709551616)(hb1:9223372036854775808<=b)(w:World) :
  Calls Try.prog 108 #[.int .u64 high,.int .u64 next,.int .u64 b] w fun e w'=>e=.returned (.int .u64 (guessN high next b:Nat))/\∃ m,w'=w.drewN m:=by
 unfold guessN;by_cases h:b<=high
 ·rw[if_pos h]
  exact(guess_over high next b (by omega) w).mono fun e w' ⟨he,hw⟩=>⟨he,0,hw ▸ rfl⟩
 ·rw[if_neg h]
  by_cases h0:high=0
  ·subst h0
   rw[Nat.zero_mul,Nat.zero_add];exact(guess_under 0 next b (next / b) (by omega) w w.drew _ (div64_small next b (by omega) (by omega) w)).mono fun e w' ⟨he,hw⟩=>⟨he,1,hw ▸ rfl⟩
  ·have hz:Lib.bitLen ((b:Int)).toNat=64:=by rw[Int.toNat_natCast];exact bitLen_full b hb hb1
   have hL:∀ w,Calls Try.prog 96 #[.int .u64 b] w fun e w'=>e=.returned (.int .i64 0)/\w=w':=fun w =>
    (Try.bits_LeadingZeros64 b w (by omega) (by omega)).mono fun e w' ⟨he,hw⟩=>⟨by rw[he,hz];rfl,hw.symm⟩
   have e1:∀ x:Nat,x<18446744073709551616->bits .and .u64 (x:Int) 4294967295=((x%4294967296:Nat):Int):=fun x hx=>by
    have:=bits_and_u64_nat x 4294967295 hx (by omega);rw[show x &&& 4294967295=x%4294967296 from Nat.and_two_pow_sub_one_eq_mod x 32]at this;exact this
   have e2:bits .or .u64 (high:Int) 0=(high:Int):=by
    have:=bits_or_u64_nat high 0 hh (by omega);rw[Nat.or_zero]at this;exact this
   have h:=div64_big high next b (b / 4294967296) (b%4294967296) (next / 4294967296) (next%4294967296) (by omega) (by omega) (by omega) (by omega) (by omega) (by omega) (by omega) (by omega) (by omega) w (e1 b hb) (e1 next hn) e2 hL
   exact(guess_under' high next b _ (by omega) w h).mono fun e w' ⟨he,hw⟩=>⟨he,0,hw ▸ rfl⟩
open Go.RowKit
def GivePost(S o n:Nat)(r d:Nat->Nat)(w:World)(e:Ending)(w':World):Prop :=
 ∃(ns:Nat->Nat) (over:Nat),e=.returned (.int .u64 over)/\over<=1/\(∀ j,j<n+1->ns j<18446744073709551616) /\
  val ns (n+1)+18446744073709551616^(n+1)*over=val r (n+1)+val d n/\Holds S o (n+1) ns w w'
theorem give_step{P rk s c c' dk N R V:Nat}(h:N+P*c=R+V)(h1:s+18446744073709551616*c'=rk+dk+c) :
  N+P*s+P*18446744073709551616*c'=R+P*rk+(V+P*dk):=by
 have e1:P*s+P*(18446744073709551616*c')=P*rk+P*dk+P*c:=by rw[<- Nat.mul_add,<- Nat.mul_add,<- Nat.mul_add,h1]
 rw[Nat.mul_assoc];omega
theorem give_any(S o capS D capD n:Nat)(r d:Nat->Nat)(hn:(n:Int)<=1000)(hr:∀ j,j<n+1->r j<18446744073709551616)(hd:∀ j,j<n->d j<18446744073709551616)
  (hSD:D≠S) (w:World)
  (hs:∀ j,j<n+1->w.cell? ⟨S,o+j,none⟩=some (.int .u64 (r j))) (hf:∀ j,j<n+1->w.frozen? ⟨S,o+j,none⟩=false)
  (hc:∀ j,j<n->w.cell? ⟨D,j,none⟩=some (.int .u64 (d j))) :
  Calls Try.prog 110 #[.slice (some ⟨S,o,none⟩) ((n+1:Nat)) capS,.slice (some ⟨D,0,none⟩) n capD] w (GivePost S o n r d w):=by
 have HR:=Lib.hid hr;clear hr;have HD:=Lib.hid hd;clear hd;have HS:=Lib.hid hs;clear hs;have HF:=Lib.hid hf;clear hf;have HC:=Lib.hid hc;clear hc;have HN:=Lib.hid hSD;clear hSD;go_enter Try.func110,Try.ntmps110;go_wp2
 go_loopw [5,10] (fun c i wr=>∃(k cn:Nat) (ns:Nat->Nat),k<=n/\c=.int .u64 cn/\i=.int .i64 k/\Hid (cn<=1/\(∀ j,j<k->ns j<18446744073709551616)/\val ns k+18446744073709551616^k*cn=val r k+val d k/\Holds S o k ns w wr)) (fun _ i _=>n - (intOf i).toNat)
 case atStart=>exact⟨0,0,r,Nat.zero_le _,rfl,rfl,Lib.hid ⟨by omega,fun j hj=>by omega,by simp[val],Holds.start S o r w⟩⟩
 case round =>
  obtain⟨k,cn,ns,hk,rfl,rfl,H⟩:=hrel;have hk0:(0:Int)<=k:=by omega
  have hk1:(k:Int)<=1000:=by omega
  by_cases hlt:k<n
  ·obtain⟨sn,c',lc,ls,es,hSu⟩:=add64_ex (r k) (d k) cn (HR.out k (by omega)) (HD.out k hlt) H.out.1
   have cd:wr.cell? ⟨D,k,none⟩=some (.int .u64 (d k)):=by rw[H.out.2.2.2.1.cell (p:=⟨D,k,none⟩) HN.out];exact HC.out k hlt
   have cs:wr.cell? ⟨S,o+k,none⟩=some (.int .u64 (r k)):=by rw[H.out.2.2.2.2 (o+k),if_neg (by omega)];exact HS.out k (by omega)
   have cf:wr.frozen? ⟨S,o+k,none⟩=false:=by rw[H.out.2.2.2.1.frozen];exact HF.out k (by omega)
   have ES:=Lib.hid es;clear es;go_wp2
   go_roundw
   case rel =>
    refine⟨k+1,c',fun j=>if j=k then sn else ns j,by omega,rfl,by go_num,Lib.hid ⟨lc,fun j hj=>?_,?_,H.out.2.2.2.next sn (by rw[HS.out k (by omega)];rfl)⟩⟩
    ·by_cases h:j=k
     ·simp only[h,if_true];exact ls
     ·simp only[h,if_false];exact H.out.2.1 j (by omega)
    ·have e1:val (fun j=>if j=k then sn else ns j) k=val ns k:=val_congr (fun j hj=>by simp only[show ¬j=k by omega,if_false])
     simp only[val,e1,if_true];rw[Nat.pow_succ];exact give_step H.out.2.2.1 ES.out
   case measure=>simp[intOf];omega
  ·obtain rfl:k=n:=by omega
   obtain⟨s1,b1,lb1,ls1,es1,hS1⟩:=add64_ex (r k) 0 cn (HR.out k (by omega)) (by omega) H.out.1;have hS2:∀ w,(callFunc 80 #[.int .u64 (r k),.int .u64 0,.int .u64 cn]).run Try.prog w=.ok (.value (.tuple #[.int .u64 s1,.int .u64 b1])) w:=hS1;clear hS1;have ES:=Lib.hid es1;clear es1;have cs:wr.cell? ⟨S,o+k,none⟩=some (.int .u64 (r k)):=by rw[H.out.2.2.2.2 (o+k),if_neg (by omega)];exact HS.out k (by omega)
   have cf:wr.frozen? ⟨S,o+k,none⟩=false:=by rw[H.out.2.2.2.1.frozen];exact HF.out k (by omega)
   go_wp2;go_ret;refine⟨fun j=>if j=k then s1 else ns j,b1,rfl,lb1,fun j hj=>?_,?_,H.out.2.2.2.next s1 (by rw[HS.out k (by omega)];rfl)⟩
   ·by_cases h:j=k
    ·simp only[h,if_true];exact ls1
    ·simp only[h,if_false];exact H.out.2.1 j (by omega)
   ·have e1:val (fun j=>if j=k then s1 else ns j) k=val ns k:=val_congr (fun j hj=>by simp only[show ¬j=k by omega,if_false])
    simp only[val,e1,if_true];have h0:=give_step (P:=18446744073709551616^k) (dk:=0) H.out.2.2.1 ES.out;rw[Nat.pow_succ];omega
open Go.RowKit
theorem val_lt{f:Nat->Nat}{n:Nat}(h:∀ j,j<n->f j<18446744073709551616):val f n<18446744073709551616^n:=by
 induction n with
 | zero=>simp[val]
 | succ n ih =>
  have h1:=ih (fun j hj=>h j (by omega));have h2:=h n (by omega);have h3:18446744073709551616^n*f n<=18446744073709551616^n*18446744073709551615:=Nat.mul_le_mul_left _ (by omega);rw[val,Nat.pow_succ];omega
theorem val_ge(f:Nat->Nat)(n:Nat):18446744073709551616^n*f n<=val f (n+1):=by rw[val];omega
theorem guess_least{r d:Nat->Nat}{k:Nat}(hr:∀ j,j<k+2->r j<18446744073709551616)(hd:0<d k)(hlt:val r (k+2)<18446744073709551616*val d (k+1))(g:Nat)
  (hg:g=if d k<=r (k+1)then 18446744073709551615 else (r (k+1)*18446744073709551616+r k) / d k):val r (k+2) / val d (k+1)<=g:=by
 have hP:0<18446744073709551616^k:=Nat.pow_pos (by omega);have hD:=val_ge d k;have hD0:0<val d (k+1):=Nat.lt_of_lt_of_le (Nat.mul_pos hP hd) hD;rw[hg]
 split
 ·have:val r (k+2) / val d (k+1)<18446744073709551616:=by rw[Nat.div_lt_iff_lt_mul hD0];exact hlt
  omega
 ·rw[Nat.le_div_iff_mul_le hd]
  have hq:=Nat.div_mul_le_self (val r (k+2)) (val d (k+1));generalize val r (k+2) / val d (k+1)=q at *;have hv:=val_lt (fun j hj=>hr j (by omega):∀ j,j<k->r j<18446744073709551616);have h1:q*(18446744073709551616^k*d k)<=q*val d (k+1):=Nat.mul_le_mul_left _ hD;have h2:val r (k+2)=val r k+18446744073709551616^k*(r (k+1)*18446744073709551616+r k):=by
   simp only[val,Nat.pow_succ]
   grind
  have h3:18446744073709551616^k*(q*d k)<18446744073709551616^k*(r (k+1)*18446744073709551616+r k+1):=by
   have:18446744073709551616^k*(q*d k)=q*(18446744073709551616^k*d k):=by grind
   rw[this,Nat.mul_add _ (r (k+1)*18446744073709551616+r k) 1,Nat.mul_one];omega
  have h4:=Nat.lt_of_mul_lt_mul_left h3;omega
theorem part_is{R D N part:Nat}(hD:0<D)(h:N+part*D=R)(hl:R / D<=part):part=R / D/\N=R%D:=by
 have h1:part<=R / D:=by rw[Nat.le_div_iff_mul_le hD];omega
 have e:part=R / D:=by omega
 refine⟨e,?_⟩;have:=Nat.div_add_mod R D;rw[<- e,Nat.mul_comm]at this;omega
theorem part_over{R D N P part:Nat}(hD:0<D)(h:N+part*D=R+P)(hN:N<P):R / D<part:=by
 rw[Nat.div_lt_iff_lt_mul hD];omega
theorem give_part{R D N N' P part over debt:Nat}(h:N+part*D=R+P*debt)(h1:N'+P*over=N+D)(hp:0<part)(ho:over<=debt):N'+(part - 1)*D=R+P*(debt - over):=by
 obtain⟨p,rfl⟩:∃ p,part=p+1:=⟨part - 1,by omega⟩
 obtain⟨e,rfl⟩:∃ e,debt=over+e:=⟨debt - over,by omega⟩
 rw[Nat.add_mul,Nat.one_mul]at h;rw[Nat.mul_add]at h;simp only[Nat.add_sub_cancel,Nat.add_sub_cancel_left];omega
open Go.RowKit
theorem Holds.then_{S o k:Nat}{n1 n2:Nat->Nat}{w wr w':World}(h:Holds S o k n1 w wr)(h':Holds S o k n2 wr w'):Holds S o k n2 w w':=by
 refine⟨h.1.trans h'.1,fun j=>?_⟩;rw[h'.2 j];by_cases hj:o<=j/\j<o+k
 ·rw[if_pos hj,if_pos hj]
 ·rw[if_neg hj,if_neg hj,h.2 j,if_neg hj]
theorem But.drawn'{S:Nat}{w w':World}(n:Nat)(h:But S (w.drewN n) w'):But S w w':=⟨h.os,h.tape,h.output,h.size,h.block,h.frozen⟩
theorem Holds.drawn'{S o k:Nat}{ns:Nat->Nat}{w w':World}(n:Nat)(h:Holds S o k ns (w.drewN n) w'):Holds S o k ns w w':=⟨h.1.drawn' n,h.2⟩
def StepPost(S o n:Nat)(r d:Nat->Nat)(w:World)(e:Ending)(w':World):Prop :=
 ∃ ns:Nat->Nat,e=.returned (.int .u64 ((val r (n+1) / val d n:Nat):Int))/\(∀ j,j<n+1->ns j<18446744073709551616)/\val ns (n+1)=val r (n+1)%val d n/\Holds S o (n+1) ns w w'
theorem exit_is{R D N P part debt:Nat}(hD:0<D)(h:N+part*D=R+P*debt)(hz:debt=0)(hl:R / D<=part):part=R / D/\N=R%D:=by
 subst hz;exact part_is hD (by rw[Nat.mul_zero,Nat.add_zero]at h;exact h) hl
theorem owed_is{R D N P part debt:Nat}(hD:0<D)(h:N+part*D=R+P*debt)(hz:debt=1)(hN:N<P):R / D<part:=by
 subst hz;exact part_over hD (by rw[Nat.mul_one]at h;exact h) hN
theorem steppost_mk{S o k q:Nat}{r d cur:Nat->Nat}{w w':World}(hq:q=val r (k+2) / val d (k+1))(h1:∀ j,j<k+2->cur j<18446744073709551616)(h2:val cur (k+2)=val r (k+2)%val d (k+1))(h3:Holds S o (k+2) cur w w') :
  StepPost S o (k+1) r d w (.returned (.int .u64 (q:Int))) w':=⟨cur,by rw[hq],h1,h2,h3⟩
theorem step_any(S o capS D capD k:Nat)(r d:Nat->Nat)(hn:(k:Int)<=100)(hr:∀ j,j<k+2->r j<18446744073709551616)(hd:∀ j,j<k+1->d j<18446744073709551616)
  (hdk:9223372036854775808<=d k) (hlt:val r (k+2)<18446744073709551616*val d (k+1)) (hSD:D≠S) (w:World)
  (hs:∀ j,j<k+2->w.cell? ⟨S,o+j,none⟩=some (.int .u64 (r j))) (hf:∀ j,j<k+2->w.frozen? ⟨S,o+j,none⟩=false)
  (hc:∀ j,j<k+1->w.cell? ⟨D,j,none⟩=some (.int .u64 (d j))) :
  Calls Try.prog 99 #[.slice (some ⟨S,o,none⟩) ((k+1+1:Nat)) capS,.slice (some ⟨D,0,none⟩) ((k+1:Nat)) capD] w (StepPost S o (k+1) r d w):=by
 have c1:w.cell? ⟨S,o+(k+1),none⟩=some (.int .u64 (r (k+1))):=hs (k+1) (by omega);have c2:w.cell? ⟨S,o+k,none⟩=some (.int .u64 (r k)):=hs k (by omega);have c3:w.cell? ⟨D,k,none⟩=some (.int .u64 (d k)):=hc k (by omega);have b0:(0:Int)<=k:=by omega
 have hg:=fun w=>guess_any (r (k+1)) (r k) (d k) (hr _ (by omega)) (hr _ (by omega)) (hd _ (by omega)) hdk w;obtain⟨g,eg⟩:∃ g,g=guessN (r (k+1)) (r k) (d k):=⟨_,rfl⟩
 rw[<- eg]at hg;have hgl:g<18446744073709551616:=by
  rw[eg];unfold guessN
  split
  ·omega
  ·rename_i hh
   rw[Nat.div_lt_iff_lt_mul (by omega)];have:=hr k (by omega);generalize d k=y at *;generalize r (k+1)=h at *;have h2:(h+1)*18446744073709551616<=y*18446744073709551616:=Nat.mul_le_mul_right _ (by omega);omega
 have hge:=guess_least (k:=k) hr (by omega) hlt g (by rw[eg];rfl);have hD0:0<val d (k+1):=by
  have:=Nat.mul_pos (Nat.pow_pos (n:=k) (show 0<18446744073709551616 by omega)) (show 0<d k by omega);have:=val_ge d k;omega
 have HG:=Lib.hid hg;clear hg;have HR:=Lib.hid hr;clear hr;have HD:=Lib.hid hd;clear hd;have HS:=Lib.hid hs;clear hs;have HF:=Lib.hid hf;clear hf;have HC:=Lib.hid hc;clear hc;have HN:=Lib.hid hSD;clear hSD;have HGL:=Lib.hid hgl;clear hgl;have HGE:=Lib.hid hge;clear hge;have HD0:=Lib.hid hD0;clear hD0;have HLT:=Lib.hid hlt;clear hlt;clear eg hdk;go_enter Try.func99,Try.ntmps99
 go_wp2_with fail
 go_quiet ((go_at_call 108;exact Calls.quiet_of (HG.out _)))
 go_wp2_with fail
 refine(take_any S o capS D capD (k+1) g r d (by omega) HR.out HD.out HGL.out HN.out (w.drewN nq) (fun j hj=>HS.out j hj) (fun j hj=>HF.out j hj) (fun j hj=>HC.out j hj)).mono ?_;rintro e w1 ⟨n1,debt,rfl,hd1,hb1,he1,ho1⟩;have H1:=Lib.hid hb1;clear hb1;have E1:=Lib.hid he1;clear he1;have O1:=Lib.hid (ho1.drawn' _);clear ho1
 go_wp2_with fail
 go_loopw [6,7] (fun p q wr=>∃(part debt:Nat) (cur:Nat->Nat),p=.int .u64 part/\q=.int .u64 debt/\Hid (debt<=1/\part<18446744073709551616/\val r (k+2) / val d (k+1)<=part/\(∀ j,j<k+2->cur j<18446744073709551616)/\val cur (k+2)+part*val d (k+1)=val r (k+2)+18446744073709551616^(k+2)*debt/\Holds S o (k+2) cur w wr)) (fun p _ _=>(intOf p).toNat)
 case atStart=>exact⟨g,debt,n1,rfl,rfl,Lib.hid ⟨hd1,HGL.out,HGE.out,H1.out,E1.out,O1.out⟩⟩
 case round =>
  obtain⟨part,debt,cur,rfl,rfl,H⟩:=hrel;have d0:(0:Int)<=debt:=by omega
  have d1:(debt:Int)<=1:=by have:=H.out.1;omega
  have p0:(0:Int)<=part:=by omega
  have p1:(part:Int)<=18446744073709551615:=by have:=H.out.2.1;omega
  by_cases hz:debt=0
  ·as_aux_lemma =>
   have t0:((debt:Int) != 0)=false:=by simp[hz]
   have hE:=exit_is HD0.out H.out.2.2.2.2.1 hz H.out.2.2.1;have HE:=Lib.hid hE;clear hE hz;go_wp2;go_ret;exact steppost_mk HE.out.1 H.out.2.2.2.1 HE.out.2 H.out.2.2.2.2.2
  ·as_aux_lemma =>
   have t0:((debt:Int) != 0)=true:=by simp[hz]
   have d2:(1:Int)<=debt:=by omega
   have ho:=owed_is HD0.out H.out.2.2.2.2.1 (show debt=1 by omega) (val_lt H.out.2.2.2.1);have p3:0<part:=Nat.lt_of_le_of_lt (Nat.zero_le _) ho;have p2:(1:Int)<=part:=by omega
   clear p3;have HO:=Lib.hid ho;clear ho hz
   go_wp2_with fail
   refine(give_any S o capS D capD (k+1) cur d (by omega) H.out.2.2.2.1 HD.out HN.out _ ?_ ?_ ?_).mono ?_
   ·intro j hj
    rw[H.out.2.2.2.2.2.2 (o+j),if_pos (by omega),show o+j - o=j by omega]
   ·intro j hj
    rw[H.out.2.2.2.2.2.1.frozen];exact HF.out j hj
   ·intro j hj
    rw[H.out.2.2.2.2.2.1.cell (p:=⟨D,j,none⟩) HN.out];exact HC.out j hj
   ·rintro e w2 ⟨n2,over,rfl,hd2,hb2,he2,ho2⟩
    have o0:(0:Int)<=over:=by omega
    have o1:(over:Int)<=1:=by omega
    have o2:(over:Int)<=debt:=by omega
    have H2:=Lib.hid hb2;clear hb2;have E2:=Lib.hid he2;clear he2;have O2:=Lib.hid ho2;clear ho2;go_wp2
    go_roundw
    case rel =>
     refine⟨part - 1,debt - over,n2,congrArg (Value.int .u64) (by omega),congrArg (Value.int .u64) (by omega),Lib.hid ⟨by omega,by omega,by have:=HO.out;omega,H2.out,?_,H.out.2.2.2.2.2.then_ O2.out⟩⟩;exact give_part H.out.2.2.2.2.1 E2.out (by omega) (by omega)
    case measure=>simp[intOf];omega
open Go.RowKit
theorem index8(v0 v1 v2 v3 v4 v5 v6 v7:Value)(w:World) :
  (Instr.index 85 (.agg #[v0,v1,v2,v3,v4,v5,v6,v7]) (.int .i64 0)).run Try.prog w=.ok v0 w /\
  (Instr.index 85 (.agg #[v0,v1,v2,v3,v4,v5,v6,v7]) (.int .i64 1)).run Try.prog w=.ok v1 w /\
  (Instr.index 85 (.agg #[v0,v1,v2,v3,v4,v5,v6,v7]) (.int .i64 2)).run Try.prog w=.ok v2 w /\
  (Instr.index 85 (.agg #[v0,v1,v2,v3,v4,v5,v6,v7]) (.int .i64 3)).run Try.prog w=.ok v3 w /\
  (Instr.index 85 (.agg #[v0,v1,v2,v3,v4,v5,v6,v7]) (.int .i64 4)).run Try.prog w=.ok v4 w /\
  (Instr.index 85 (.agg #[v0,v1,v2,v3,v4,v5,v6,v7]) (.int .i64 5)).run Try.prog w=.ok v5 w /\
  (Instr.index 85 (.agg #[v0,v1,v2,v3,v4,v5,v6,v7]) (.int .i64 6)).run Try.prog w=.ok v6 w /\
  (Instr.index 85 (.agg #[v0,v1,v2,v3,v4,v5,v6,v7]) (.int .i64 7)).run Try.prog w=.ok v7 w :=
 ⟨by kernel_rfl,by kernel_rfl,by kernel_rfl,by kernel_rfl,by kernel_rfl,by kernel_rfl,by kernel_rfl,by kernel_rfl⟩
theorem raise_walk(x0 x1 x2 x3 x4 x5 x6 x7 s t:Nat)(h0:(0:Int)<=s)(h64:(s:Int)<64)(ht:64 - (s:Int)=(t:Int))(w:World) :
  Calls Try.prog 98 #[.agg #[.int .u64 x0,.int .u64 x1,.int .u64 x2,.int .u64 x3,.int .u64 x4,.int .u64 x5,.int .u64 x6,.int .u64 x7],.int .i64 s] w fun e w' =>
   e=.returned (.agg #[.int .u64 (bits .or .u64 (0) (IntKind.u64.wrap ((x0:Int)*2^s))),.int .u64 (bits .or .u64 ((x0:Int) / 2^t) (IntKind.u64.wrap ((x1:Int)*2^s))),.int .u64 (bits .or .u64 ((x1:Int) / 2^t) (IntKind.u64.wrap ((x2:Int)*2^s))),.int .u64 (bits .or .u64 ((x2:Int) / 2^t) (IntKind.u64.wrap ((x3:Int)*2^s))),.int .u64 (bits .or .u64 ((x3:Int) / 2^t) (IntKind.u64.wrap ((x4:Int)*2^s))),.int .u64 (bits .or .u64 ((x4:Int) / 2^t) (IntKind.u64.wrap ((x5:Int)*2^s))),.int .u64 (bits .or .u64 ((x5:Int) / 2^t) (IntKind.u64.wrap ((x6:Int)*2^s))),.int .u64 (bits .or .u64 ((x6:Int) / 2^t) (IntKind.u64.wrap ((x7:Int)*2^s))),.int .u64 ((x7:Int) / 2^t)])/\Below w.heap.size w w':=by
 have i0:∀ v0 v1 v2 v3 v4 v5 v6 v7 w,_:=fun v0 v1 v2 v3 v4 v5 v6 v7 w=>(index8 v0 v1 v2 v3 v4 v5 v6 v7 w).1;have i1:∀ v0 v1 v2 v3 v4 v5 v6 v7 w,_:=fun v0 v1 v2 v3 v4 v5 v6 v7 w=>(index8 v0 v1 v2 v3 v4 v5 v6 v7 w).2.1;have i2:∀ v0 v1 v2 v3 v4 v5 v6 v7 w,_:=fun v0 v1 v2 v3 v4 v5 v6 v7 w=>(index8 v0 v1 v2 v3 v4 v5 v6 v7 w).2.2.1;have i3:∀ v0 v1 v2 v3 v4 v5 v6 v7 w,_:=fun v0 v1 v2 v3 v4 v5 v6 v7 w=>(index8 v0 v1 v2 v3 v4 v5 v6 v7 w).2.2.2.1;have i4:∀ v0 v1 v2 v3 v4 v5 v6 v7 w,_:=fun v0 v1 v2 v3 v4 v5 v6 v7 w=>(index8 v0 v1 v2 v3 v4 v5 v6 v7 w).2.2.2.2.1;have i5:∀ v0 v1 v2 v3 v4 v5 v6 v7 w,_:=fun v0 v1 v2 v3 v4 v5 v6 v7 w=>(index8 v0 v1 v2 v3 v4 v5 v6 v7 w).2.2.2.2.2.1;have i6:∀ v0 v1 v2 v3 v4 v5 v6 v7 w,_:=fun v0 v1 v2 v3 v4 v5 v6 v7 w=>(index8 v0 v1 v2 v3 v4 v5 v6 v7 w).2.2.2.2.2.2.1;have i7:∀ v0 v1 v2 v3 v4 v5 v6 v7 w,_:=fun v0 v1 v2 v3 v4 v5 v6 v7 w=>(index8 v0 v1 v2 v3 v4 v5 v6 v7 w).2.2.2.2.2.2.2;go_enter Try.func98,Try.ntmps98;go_wp2;refine wp_loop_rounds 9 ?_
 iterate 8 (rw[rounds_succ];go_wp2;go_region;go_wp2)
 rw[rounds_succ];go_wp2
 go_returns
 refine⟨?_,by go_grown⟩;rfl
open Go.RowKit
theorem copy4(W:World)(b c:Nat)(a0 a1 a2 a3:Nat)
  (s0:W.cell? ⟨c,0,none⟩=some (.int .u64 a0)) (s1:W.cell? ⟨c,1,none⟩=some (.int .u64 a1)) (s2:W.cell? ⟨c,2,none⟩=some (.int .u64 a2)) (s3:W.cell? ⟨c,3,none⟩=some (.int .u64 a3))
  (d0:(W.cell? ⟨b,0,none⟩).isSome=true) (d1:(W.cell? ⟨b,1,none⟩).isSome=true) (d2:(W.cell? ⟨b,2,none⟩).isSome=true) (d3:(W.cell? ⟨b,3,none⟩).isSome=true)
  (f0:W.frozen? ⟨b,0,none⟩=false) (f1:W.frozen? ⟨b,1,none⟩=false) (f2:W.frozen? ⟨b,2,none⟩=false) (f3:W.frozen? ⟨b,3,none⟩=false) :
  (Builtin.copy_ #[55,55] 3 #[.slice (some ⟨b,0,none⟩) 8 8,.slice (some ⟨c,0,none⟩) 4 4]).run Try.prog W =
   .ok (.int .i64 4) ((((W.setCell ⟨b,0,none⟩ (.int .u64 a0)).setCell ⟨b,1,none⟩ (.int .u64 a1)).setCell ⟨b,2,none⟩ (.int .u64 a2)).setCell ⟨b,3,none⟩ (.int .u64 a3)):=by
 have h:=run_copy_cells (P:=Try.prog) W 55 55 3 22 b 0 8 8 ⟨c,0,none⟩ 4 4 [.int .u64 a0,.int .u64 a1,.int .u64 a2,.int .u64 a3] Try.underlying55 (by kernel_rfl) rfl
  (fun j v hj=>by
   rcases j with _ | _ | _ | _ | j
   ·cases hj;exact s0
   ·cases hj;exact s1
   ·cases hj;exact s2
   ·cases hj;exact s3
   ·simp at hj)
  (fun j hj=>by
   rcases j with _ | _ | _ | _ | j
   ·exact d0
   ·exact d1
   ·exact d2
   ·exact d3
   ·simp at hj;omega)
  (fun j hj=>by
   rcases j with _ | _ | _ | _ | j
   ·exact f0
   ·exact f1
   ·exact f2
   ·exact f3
   ·simp at hj;omega)
  (fun v hv=>by simp at hv;rcases hv with rfl | rfl | rfl | rfl <;> rfl)
 exact h
theorem widen_nil(a0 a1 a2 a3:Nat)(w:World) :
  Calls Try.prog 77 #[.agg #[.int .u64 a0,.int .u64 a1,.int .u64 a2,.int .u64 a3],.slice none 0 0] w fun e w' =>
   e=.returned (.agg #[.int .u64 a0,.int .u64 a1,.int .u64 a2,.int .u64 a3,.int .u64 0,.int .u64 0,.int .u64 0,.int .u64 0])/\Below w.heap.size w w':=by
 have hcp:=copy4 ((((w.alloc (.cells #[.int .u64 a0,.int .u64 a1,.int .u64 a2,.int .u64 a3] 24)).alloc (.cells #[.int .u64 0,.int .u64 0,.int .u64 0,.int .u64 0,.int .u64 0,.int .u64 0,.int .u64 0,.int .u64 0] 85)).alloc (.cells #[.int .u64 0,.int .u64 0,.int .u64 0,.int .u64 0,.int .u64 0,.int .u64 0,.int .u64 0,.int .u64 0] 85)).drew) (w.heap.size+1+1) w.heap.size a0 a1 a2 a3
  (by go_cell) (by go_cell) (by go_cell) (by go_cell) (by go_simp) (by go_simp) (by go_simp) (by go_simp) (by go_cell) (by go_cell) (by go_cell) (by go_cell)
 have hcn:=fun W:World=>run_copy_nil (P:=Try.prog) W 55 55 3 22 ⟨w.heap.size+1+1,4,none⟩ 4 4 Try.underlying55 (by kernel_rfl);go_enter Try.func77,Try.ntmps77;go_wp2
 go_region
 go_wp2
 go_returns
 refine⟨?_,by go_grown⟩;rfl
end Go.Proofs.Ytcmgphkjchicbaa
