/- A long quotient, part by part, in plain numbers. (Cut to what is reached, written closely: Guess · Give · StepNum · Step · Raise · Widen · Divide · DivNum.) -/
import Derived.Test.YthnckclbeecnmaaGreatP9
import Derived.Deep.QuietTactic
import Derived.BigQuiet
import Derived.Lib.ItoaNum
import Derived.Laws.Bits64b
import Derived.Test.YthnckclbeecnmaaGreatP3
import Derived.Laws.IdiomCopy
import Derived.Laws.CopyRow
import Derived.Test.YthnckclbeecnmaaGreatP7
import Derived.Deep.DeepCutAuto
import Derived.Laws.Rows
import Derived.Test.YthnckclbeecnmaaGreatP2
set_option linter.all false
set_option maxRecDepth 100000
set_option maxHeartbeats 8000000
namespace Go.Proofs.YthnckclbeecnmaaGreat
open Go.RowKit
theorem bitLen_bounds(x:Nat)(h:x<18446744073709551616)(h0:x≠0):1<=Lib.bitLen x/\2^(Lib.bitLen x - 1)<=x/\x<2^Lib.bitLen x:=Lib.bitLenAux_bounds 64 x (by omega) h0
theorem bitLen_full(x:Nat)(h:x<18446744073709551616)(h0:9223372036854775808<=x):Lib.bitLen x=64:=by
 obtain⟨-,h2,h3⟩:=bitLen_bounds x h (by omega);have h4:¬Lib.bitLen x<=63:=fun h=>by
  have:=Nat.pow_le_pow_right (n:=2) (by omega) h;omega
 have h5:¬65<=Lib.bitLen x:=fun h=>by
  have:=Nat.pow_le_pow_right (n:=2) (by omega) (show 64<=Lib.bitLen x - 1 by omega);omega
 omega
theorem div64_small(lo y:Nat)(h0:(0:Int)<y)(hlo:(lo:Int)<=18446744073709551615)(w:World) :
  Calls Tryz.prog 136 #[.int .u64 0,.int .u64 lo,.int .u64 y] w fun e w'=>e=.returned (.tuple #[.int .u64 ((lo / y:Nat):Int),.int .u64 ((lo%y:Nat):Int)])/\w.drew=w':=by
 have n0:((y:Int) == 0)=false:=by simp;omega
 have n1:¬(y:Int)<=0:=by omega
 have n2:(1:Int)<=y:=by omega
 have n3:(0:Int)<=lo:=by omega
 have n4:(lo:Int) / y<=lo:=by rw[<- Int.natCast_ediv];have:=Nat.div_le_self lo y;omega
 have n5:(0:Int)<=(lo:Int) / y:=Int.ediv_nonneg (by omega) (by omega);have n6:IntKind.u64.wrap ((lo:Int) / y)=(lo:Int) / y:=by rw[IntKind.wrap_u64];omega
 go_enter Tryz.func136,Tryz.ntmps136
 go_wp2_with fail
 go_region
 go_wp2
 go_ret2
 exact⟨by simp,rfl⟩
def guessN(high next b:Nat):Nat:=if b<=high then 18446744073709551615 else (high*18446744073709551616+next) / b
theorem guess_over(high next b:Nat)(h:(b:Int)<=high)(w:World) :
  Calls Tryz.prog 131 #[.int .u64 high,.int .u64 next,.int .u64 b] w fun e w'=>e=.returned (.int .u64 18446744073709551615)/\w=w':=by
 go_enter Tryz.func131,Tryz.ntmps131;go_wp2;go_ret;exact⟨rfl,rfl⟩
theorem guess_under(high next b q:Nat)(h:¬(b:Int)<=high)(w w1:World)(r:Int)
  (hD:Calls Tryz.prog 136 #[.int .u64 high,.int .u64 next,.int .u64 b] w fun e w'=>e=.returned (.tuple #[.int .u64 q,.int .u64 r])/\w1=w') :
  Calls Tryz.prog 131 #[.int .u64 high,.int .u64 next,.int .u64 b] w fun e w'=>e=.returned (.int .u64 q)/\w1=w':=by
 have HD:=Lib.hid hD;clear hD;go_enter Tryz.func131,Tryz.ntmps131
 go_wp2_with fail
 refine HD.out.mono ?_;rintro e w' ⟨rfl,rfl⟩;go_wp2;go_ret;exact⟨rfl,rfl⟩
theorem guess_under'(high next b q:Nat)(h:¬(b:Int)<=high)(w:World)
  (hD:Calls Tryz.prog 136 #[.int .u64 high,.int .u64 next,.int .u64 b] w (DivPost q w)) :
  Calls Tryz.prog 131 #[.int .u64 high,.int .u64 next,.int .u64 b] w fun e w'=>e=.returned (.int .u64 q)/\w=w':=by
 have HD:=Lib.hid hD;clear hD;go_enter Tryz.func131,Tryz.ntmps131
 go_wp2_with fail
 refine HD.out.mono ?_;rintro e w' ⟨⟨r,rfl⟩,rfl⟩;go_wp2;go_ret;exact⟨rfl,rfl⟩
theorem guess_any(high next b:Nat)(hh:high<18446744073709551616)(hn:next<18446744073709551616)(hb:b<18446744073709551616)(hb1:9223372036854775808<=b)(w:World) :
  Calls Tryz.prog 131 #[.int .u64 high,.int .u64 next,.int .u64 b] w fun e w'=>e=.returned (.int .u64 (guessN high next b:Nat))/\∃ m,w'=w.drewN m:=by
 unfold guessN;by_cases h:b<=high
 ·rw[if_pos h]
  exact(guess_over high next b (by omega) w).mono fun e w' ⟨he,hw⟩=>⟨he,0,hw ▸ rfl⟩
 ·rw[if_neg h]
  by_cases h0:high=0
  ·subst h0
   rw[Nat.zero_mul,Nat.zero_add];exact(guess_under 0 next b (next / b) (by omega) w w.drew _ (div64_small next b (by omega) (by omega) w)).mono fun e w' ⟨he,hw⟩=>⟨he,1,hw ▸ rfl⟩
  ·have hz:Lib.bitLen ((b:Int)).toNat=64:=by rw[Int.toNat_natCast];exact bitLen_full b hb hb1
   have hL:∀ w,Calls Tryz.prog 122 #[.int .u64 b] w fun e w'=>e=.returned (.int .i64 0)/\w=w':=fun w =>
    (Tryz.bits_LeadingZeros64 b w (by omega) (by omega)).mono fun e w' ⟨he,hw⟩=>⟨by rw[he,hz];rfl,hw.symm⟩
   have e1:∀ x:Nat,x<18446744073709551616->bits .and .u64 (x:Int) 4294967295=((x%4294967296:Nat):Int):=fun x hx=>by
    have:=bits_and_u64_nat x 4294967295 hx (by omega);rw[show x &&& 4294967295=x%4294967296 from Nat.and_two_pow_sub_one_eq_mod x 32]at this;exact this
   have e2:bits .or .u64 (high:Int) 0=(high:Int):=by
    have:=bits_or_u64_nat high 0 hh (by omega);rw[Nat.or_zero]at this;exact this
   have h:=div64_big high next b (b / 4294967296) (b%4294967296) (next / 4294967296) (next%4294967296) (by omega) (by omega) (by omega) (by omega) (by omega) (by omega) (by omega) (by omega) (by omega) w (e1 b hb) (e1 next hn) e2 hL
   exact(guess_under' high next b _ (by omega) w h).mono fun e w' ⟨he,hw⟩=>⟨he,0,hw ▸ rfl⟩
open Go.RowKit
def GivePost(S o n:Nat)(r d:Nat->Nat)(w:World)(e:Ending)(w':World):Prop :=
 ∃(ns:Nat->Nat) (over:Nat),e=.returned (.int .u64 over)/\over<=1/\(∀ j,j<n+1->ns j<18446744073709551616) /\
  val ns (n+1)+18446744073709551616^(n+1)*over=val r (n+1)+val d n/\Holds S o (n+1) ns w w'
theorem give_step{P rk s c c' dk N R V:Nat}(h:N+P*c=R+V)(h1:s+18446744073709551616*c'=rk+dk+c) :
  N+P*s+P*18446744073709551616*c'=R+P*rk+(V+P*dk):=by
 have e1:P*s+P*(18446744073709551616*c')=P*rk+P*dk+P*c:=by rw[<- Nat.mul_add,<- Nat.mul_add,<- Nat.mul_add,h1]
 rw[Nat.mul_assoc];omega
theorem give_any(S o capS D capD n:Nat)(r d:Nat->Nat)(hn:(n:Int)<=1000)(hr:∀ j,j<n+1->r j<18446744073709551616)(hd:∀ j,j<n->d j<18446744073709551616)
  (hSD:D≠S) (w:World)
  (hs:∀ j,j<n+1->w.cell? ⟨S,o+j,none⟩=some (.int .u64 (r j))) (hf:∀ j,j<n+1->w.frozen? ⟨S,o+j,none⟩=false)
  (hc:∀ j,j<n->w.cell? ⟨D,j,none⟩=some (.int .u64 (d j))) :
  Calls Tryz.prog 133 #[.slice (some ⟨S,o,none⟩) ((n+1:Nat)) capS,.slice (some ⟨D,0,none⟩) n capD] w (GivePost S o n r d w):=by
 have HR:=Lib.hid hr;clear hr;have HD:=Lib.hid hd;clear hd;have HS:=Lib.hid hs;clear hs;have HF:=Lib.hid hf;clear hf;have HC:=Lib.hid hc;clear hc;have HN:=Lib.hid hSD;clear hSD;go_enter Tryz.func133,Tryz.ntmps133;go_wp2
 go_loopw [5,10] (fun c i wr=>∃(k cn:Nat) (ns:Nat->Nat),k<=n/\c=.int .u64 cn/\i=.int .i64 k/\Hid (cn<=1/\(∀ j,j<k->ns j<18446744073709551616)/\val ns k+18446744073709551616^k*cn=val r k+val d k/\Holds S o k ns w wr)) (fun _ i _=>n - (intOf i).toNat)
 case atStart=>exact⟨0,0,r,Nat.zero_le _,rfl,rfl,Lib.hid ⟨by omega,fun j hj=>by omega,by simp[val],Holds.start S o r w⟩⟩
 case round =>
  obtain⟨k,cn,ns,hk,rfl,rfl,H⟩:=hrel;have hk0:(0:Int)<=k:=by omega
  have hk1:(k:Int)<=1000:=by omega
  by_cases hlt:k<n
  ·obtain⟨sn,c',lc,ls,es,hSu⟩:=add64_ex (r k) (d k) cn (HR.out k (by omega)) (HD.out k hlt) H.out.1
   have cd:wr.cell? ⟨D,k,none⟩=some (.int .u64 (d k)):=by rw[H.out.2.2.2.1.cell (p:=⟨D,k,none⟩) HN.out];exact HC.out k hlt
   have cs:wr.cell? ⟨S,o+k,none⟩=some (.int .u64 (r k)):=by rw[H.out.2.2.2.2 (o+k),if_neg (by omega)];exact HS.out k (by omega)
   have cf:wr.frozen? ⟨S,o+k,none⟩=false:=by rw[H.out.2.2.2.1.frozen];exact HF.out k (by omega)
   have ES:=Lib.hid es;clear es;go_wp2
   go_roundw
   case rel =>
    refine⟨k+1,c',fun j=>if j=k then sn else ns j,by omega,rfl,by go_num,Lib.hid ⟨lc,fun j hj=>?_,?_,H.out.2.2.2.next sn (by rw[HS.out k (by omega)];rfl)⟩⟩
    ·by_cases h:j=k
     ·simp only[h,if_true];exact ls
     ·simp only[h,if_false];exact H.out.2.1 j (by omega)
    ·have e1:val (fun j=>if j=k then sn else ns j) k=val ns k:=val_congr (fun j hj=>by simp only[show ¬j=k by omega,if_false])
     simp only[val,e1,if_true];rw[Nat.pow_succ];exact give_step H.out.2.2.1 ES.out
   case measure=>simp[intOf];omega
  ·obtain rfl:k=n:=by omega
   obtain⟨s1,b1,lb1,ls1,es1,hS1⟩:=add64_ex (r k) 0 cn (HR.out k (by omega)) (by omega) H.out.1;have hS2:∀ w,(callFunc 114 #[.int .u64 (r k),.int .u64 0,.int .u64 cn]).run Tryz.prog w=.ok (.value (.tuple #[.int .u64 s1,.int .u64 b1])) w:=hS1;clear hS1;have ES:=Lib.hid es1;clear es1;have cs:wr.cell? ⟨S,o+k,none⟩=some (.int .u64 (r k)):=by rw[H.out.2.2.2.2 (o+k),if_neg (by omega)];exact HS.out k (by omega)
   have cf:wr.frozen? ⟨S,o+k,none⟩=false:=by rw[H.out.2.2.2.1.frozen];exact HF.out k (by omega)
   go_wp2;go_ret;refine⟨fun j=>if j=k then s1 else ns j,b1,rfl,lb1,fun j hj=>?_,?_,H.out.2.2.2.next s1 (by rw[HS.out k (by omega)];rfl)⟩
   ·by_cases h:j=k
    ·simp only[h,if_true];exact ls1
    ·simp only[h,if_false];exact H.out.2.1 j (by omega)
   ·have e1:val (fun j=>if j=k then s1 else ns j) k=val ns k:=val_congr (fun j hj=>by simp only[show ¬j=k by omega,if_false])
    simp only[val,e1,if_true];have h0:=give_step (P:=18446744073709551616^k) (dk:=0) H.out.2.2.1 ES.out;rw[Nat.pow_succ];omega
open Go.RowKit
theorem val_lt{f:Nat->Nat}{n:Nat}(h:∀ j,j<n->f j<18446744073709551616):val f n<18446744073709551616^n:=by
 induction n with
 | zero=>simp[val]
 | succ n ih =>
  have h1:=ih (fun j hj=>h j (by omega));have h2:=h n (by omega);have h3:18446744073709551616^n*f n<=18446744073709551616^n*18446744073709551615:=Nat.mul_le_mul_left _ (by omega);rw[val,Nat.pow_succ];omega
theorem val_ge(f:Nat->Nat)(n:Nat):18446744073709551616^n*f n<=val f (n+1):=by rw[val];omega
theorem guess_least{r d:Nat->Nat}{k:Nat}(hr:∀ j,j<k+2->r j<18446744073709551616)(hd:0<d k)(hlt:val r (k+2)<18446744073709551616*val d (k+1))(g:Nat)
  (hg:g=if d k<=r (k+1)then 18446744073709551615 else (r (k+1)*18446744073709551616+r k) / d k):val r (k+2) / val d (k+1)<=g:=by
 have hP:0<18446744073709551616^k:=Nat.pow_pos (by omega);have hD:=val_ge d k;have hD0:0<val d (k+1):=Nat.lt_of_lt_of_le (Nat.mul_pos hP hd) hD;rw[hg]
 split
 ·have:val r (k+2) / val d (k+1)<18446744073709551616:=by rw[Nat.div_lt_iff_lt_mul hD0];exact hlt
  omega
 ·rw[Nat.le_div_iff_mul_le hd]
  have hq:=Nat.div_mul_le_self (val r (k+2)) (val d (k+1));generalize val r (k+2) / val d (k+1)=q at *;have hv:=val_lt (fun j hj=>hr j (by omega):∀ j,j<k->r j<18446744073709551616);have h1:q*(18446744073709551616^k*d k)<=q*val d (k+1):=Nat.mul_le_mul_left _ hD;have h2:val r (k+2)=val r k+18446744073709551616^k*(r (k+1)*18446744073709551616+r k):=by
   simp only[val,Nat.pow_succ]
   grind
  have h3:18446744073709551616^k*(q*d k)<18446744073709551616^k*(r (k+1)*18446744073709551616+r k+1):=by
   have:18446744073709551616^k*(q*d k)=q*(18446744073709551616^k*d k):=by grind
   rw[this,Nat.mul_add _ (r (k+1)*18446744073709551616+r k) 1,Nat.mul_one];omega
  have h4:=Nat.lt_of_mul_lt_mul_left h3;omega
theorem part_is{R D N part:Nat}(hD:0<D)(h:N+part*D=R)(hl:R / D<=part):part=R / D/\N=R%D:=by
 have h1:part<=R / D:=by rw[Nat.le_div_iff_mul_le hD];omega
 have e:part=R / D:=by omega
 refine⟨e,?_⟩;have:=Nat.div_add_mod R D;rw[<- e,Nat.mul_comm]at this;omega
theorem part_over{R D N P part:Nat}(hD:0<D)(h:N+part*D=R+P)(hN:N<P):R / D<part:=by
 rw[Nat.div_lt_iff_lt_mul hD];omega
theorem give_part{R D N N' P part over debt:Nat}(h:N+part*D=R+P*debt)(h1:N'+P*over=N+D)(hp:0<part)(ho:over<=debt):N'+(part - 1)*D=R+P*(debt - over):=by
 obtain⟨p,rfl⟩:∃ p,part=p+1:=⟨part - 1,by omega⟩
 obtain⟨e,rfl⟩:∃ e,debt=over+e:=⟨debt - over,by omega⟩
 rw[Nat.add_mul,Nat.one_mul]at h;rw[Nat.mul_add]at h;simp only[Nat.add_sub_cancel,Nat.add_sub_cancel_left];omega
open Go.RowKit
theorem Holds.then_{S o k:Nat}{n1 n2:Nat->Nat}{w wr w':World}(h:Holds S o k n1 w wr)(h':Holds S o k n2 wr w'):Holds S o k n2 w w':=by
 refine⟨h.1.trans h'.1,fun j=>?_⟩;rw[h'.2 j];by_cases hj:o<=j/\j<o+k
 ·rw[if_pos hj,if_pos hj]
 ·rw[if_neg hj,if_neg hj,h.2 j,if_neg hj]
theorem But.drawn'{S:Nat}{w w':World}(n:Nat)(h:But S (w.drewN n) w'):But S w w':=⟨h.os,h.tape,h.output,h.size,h.block,h.frozen⟩
theorem Holds.drawn'{S o k:Nat}{ns:Nat->Nat}{w w':World}(n:Nat)(h:Holds S o k ns (w.drewN n) w'):Holds S o k ns w w':=⟨h.1.drawn' n,h.2⟩
def StepPost(S o n:Nat)(r d:Nat->Nat)(w:World)(e:Ending)(w':World):Prop :=
 ∃ ns:Nat->Nat,e=.returned (.int .u64 ((val r (n+1) / val d n:Nat):Int))/\(∀ j,j<n+1->ns j<18446744073709551616)/\val ns (n+1)=val r (n+1)%val d n/\Holds S o (n+1) ns w w'
theorem exit_is{R D N P part debt:Nat}(hD:0<D)(h:N+part*D=R+P*debt)(hz:debt=0)(hl:R / D<=part):part=R / D/\N=R%D:=by
 subst hz;exact part_is hD (by rw[Nat.mul_zero,Nat.add_zero]at h;exact h) hl
theorem owed_is{R D N P part debt:Nat}(hD:0<D)(h:N+part*D=R+P*debt)(hz:debt=1)(hN:N<P):R / D<part:=by
 subst hz;exact part_over hD (by rw[Nat.mul_one]at h;exact h) hN
theorem steppost_mk{S o k q:Nat}{r d cur:Nat->Nat}{w w':World}(hq:q=val r (k+2) / val d (k+1))(h1:∀ j,j<k+2->cur j<18446744073709551616)(h2:val cur (k+2)=val r (k+2)%val d (k+1))(h3:Holds S o (k+2) cur w w') :
  StepPost S o (k+1) r d w (.returned (.int .u64 (q:Int))) w':=⟨cur,by rw[hq],h1,h2,h3⟩
theorem step_any(S o capS D capD k:Nat)(r d:Nat->Nat)(hn:(k:Int)<=100)(hr:∀ j,j<k+2->r j<18446744073709551616)(hd:∀ j,j<k+1->d j<18446744073709551616)
  (hdk:9223372036854775808<=d k) (hlt:val r (k+2)<18446744073709551616*val d (k+1)) (hSD:D≠S) (w:World)
  (hs:∀ j,j<k+2->w.cell? ⟨S,o+j,none⟩=some (.int .u64 (r j))) (hf:∀ j,j<k+2->w.frozen? ⟨S,o+j,none⟩=false)
  (hc:∀ j,j<k+1->w.cell? ⟨D,j,none⟩=some (.int .u64 (d j))) :
  Calls Tryz.prog 125 #[.slice (some ⟨S,o,none⟩) ((k+1+1:Nat)) capS,.slice (some ⟨D,0,none⟩) ((k+1:Nat)) capD] w (StepPost S o (k+1) r d w):=by
 have c1:w.cell? ⟨S,o+(k+1),none⟩=some (.int .u64 (r (k+1))):=hs (k+1) (by omega);have c2:w.cell? ⟨S,o+k,none⟩=some (.int .u64 (r k)):=hs k (by omega);have c3:w.cell? ⟨D,k,none⟩=some (.int .u64 (d k)):=hc k (by omega);have b0:(0:Int)<=k:=by omega
 have hg:=fun w=>guess_any (r (k+1)) (r k) (d k) (hr _ (by omega)) (hr _ (by omega)) (hd _ (by omega)) hdk w;obtain⟨g,eg⟩:∃ g,g=guessN (r (k+1)) (r k) (d k):=⟨_,rfl⟩
 rw[<- eg]at hg;have hgl:g<18446744073709551616:=by
  rw[eg];unfold guessN
  split
  ·omega
  ·rename_i hh
   rw[Nat.div_lt_iff_lt_mul (by omega)];have:=hr k (by omega);generalize d k=y at *;generalize r (k+1)=h at *;have h2:(h+1)*18446744073709551616<=y*18446744073709551616:=Nat.mul_le_mul_right _ (by omega);omega
 have hge:=guess_least (k:=k) hr (by omega) hlt g (by rw[eg];rfl);have hD0:0<val d (k+1):=by
  have:=Nat.mul_pos (Nat.pow_pos (n:=k) (show 0<18446744073709551616 by omega)) (show 0<d k by omega);have:=val_ge d k;omega
 have HG:=Lib.hid hg;clear hg;have HR:=Lib.hid hr;clear hr;have HD:=Lib.hid hd;clear hd;have HS:=Lib.hid hs;clear hs;have HF:=Lib.hid hf;clear hf;have HC:=Lib.hid hc;clear hc;have HN:=Lib.hid hSD;clear hSD;have HGL:=Lib.hid hgl;clear hgl;have HGE:=Lib.hid hge;clear hge;have HD0:=Lib.hid hD0;clear hD0;have HLT:=Lib.hid hlt;clear hlt;clear eg hdk;go_enter Tryz.func125,Tryz.ntmps125
 go_wp2_with fail
 go_quiet ((go_at_call 131;exact Calls.quiet_of (HG.out _)))
 go_wp2_with fail
 refine(take_any S o capS D capD (k+1) g r d (by omega) HR.out HD.out HGL.out HN.out (w.drewN nq) (fun j hj=>HS.out j hj) (fun j hj=>HF.out j hj) (fun j hj=>HC.out j hj)).mono ?_;rintro e w1 ⟨n1,debt,rfl,hd1,hb1,he1,ho1⟩;have H1:=Lib.hid hb1;clear hb1;have E1:=Lib.hid he1;clear he1;have O1:=Lib.hid (ho1.drawn' _);clear ho1
 go_wp2_with fail
 go_loopw [6,7] (fun p q wr=>∃(part debt:Nat) (cur:Nat->Nat),p=.int .u64 part/\q=.int .u64 debt/\Hid (debt<=1/\part<18446744073709551616/\val r (k+2) / val d (k+1)<=part/\(∀ j,j<k+2->cur j<18446744073709551616)/\val cur (k+2)+part*val d (k+1)=val r (k+2)+18446744073709551616^(k+2)*debt/\Holds S o (k+2) cur w wr)) (fun p _ _=>(intOf p).toNat)
 case atStart=>exact⟨g,debt,n1,rfl,rfl,Lib.hid ⟨hd1,HGL.out,HGE.out,H1.out,E1.out,O1.out⟩⟩
 case round =>
  obtain⟨part,debt,cur,rfl,rfl,H⟩:=hrel;have d0:(0:Int)<=debt:=by omega
  have d1:(debt:Int)<=1:=by have:=H.out.1;omega
  have p0:(0:Int)<=part:=by omega
  have p1:(part:Int)<=18446744073709551615:=by have:=H.out.2.1;omega
  by_cases hz:debt=0
  ·as_aux_lemma =>
   have t0:((debt:Int) != 0)=false:=by simp[hz]
   have hE:=exit_is HD0.out H.out.2.2.2.2.1 hz H.out.2.2.1;have HE:=Lib.hid hE;clear hE hz;go_wp2;go_ret;exact steppost_mk HE.out.1 H.out.2.2.2.1 HE.out.2 H.out.2.2.2.2.2
  ·as_aux_lemma =>
   have t0:((debt:Int) != 0)=true:=by simp[hz]
   have d2:(1:Int)<=debt:=by omega
   have ho:=owed_is HD0.out H.out.2.2.2.2.1 (show debt=1 by omega) (val_lt H.out.2.2.2.1);have p3:0<part:=Nat.lt_of_le_of_lt (Nat.zero_le _) ho;have p2:(1:Int)<=part:=by omega
   clear p3;have HO:=Lib.hid ho;clear ho hz
   go_wp2_with fail
   refine(give_any S o capS D capD (k+1) cur d (by omega) H.out.2.2.2.1 HD.out HN.out _ ?_ ?_ ?_).mono ?_
   ·intro j hj
    rw[H.out.2.2.2.2.2.2 (o+j),if_pos (by omega),show o+j - o=j by omega]
   ·intro j hj
    rw[H.out.2.2.2.2.2.1.frozen];exact HF.out j hj
   ·intro j hj
    rw[H.out.2.2.2.2.2.1.cell (p:=⟨D,j,none⟩) HN.out];exact HC.out j hj
   ·rintro e w2 ⟨n2,over,rfl,hd2,hb2,he2,ho2⟩
    have o0:(0:Int)<=over:=by omega
    have o1:(over:Int)<=1:=by omega
    have o2:(over:Int)<=debt:=by omega
    have H2:=Lib.hid hb2;clear hb2;have E2:=Lib.hid he2;clear he2;have O2:=Lib.hid ho2;clear ho2;go_wp2
    go_roundw
    case rel =>
     refine⟨part - 1,debt - over,n2,congrArg (Value.int .u64) (by omega),congrArg (Value.int .u64) (by omega),Lib.hid ⟨by omega,by omega,by have:=HO.out;omega,H2.out,?_,H.out.2.2.2.2.2.then_ O2.out⟩⟩;exact give_part H.out.2.2.2.2.1 E2.out (by omega) (by omega)
    case measure=>simp[intOf];omega
open Go.RowKit
theorem index8(v0 v1 v2 v3 v4 v5 v6 v7:Value)(w:World) :
  (Instr.index 123 (.agg #[v0,v1,v2,v3,v4,v5,v6,v7]) (.int .i64 0)).run Tryz.prog w=.ok v0 w /\
  (Instr.index 123 (.agg #[v0,v1,v2,v3,v4,v5,v6,v7]) (.int .i64 1)).run Tryz.prog w=.ok v1 w /\
  (Instr.index 123 (.agg #[v0,v1,v2,v3,v4,v5,v6,v7]) (.int .i64 2)).run Tryz.prog w=.ok v2 w /\
  (Instr.index 123 (.agg #[v0,v1,v2,v3,v4,v5,v6,v7]) (.int .i64 3)).run Tryz.prog w=.ok v3 w /\
  (Instr.index 123 (.agg #[v0,v1,v2,v3,v4,v5,v6,v7]) (.int .i64 4)).run Tryz.prog w=.ok v4 w /\
  (Instr.index 123 (.agg #[v0,v1,v2,v3,v4,v5,v6,v7]) (.int .i64 5)).run Tryz.prog w=.ok v5 w /\
  (Instr.index 123 (.agg #[v0,v1,v2,v3,v4,v5,v6,v7]) (.int .i64 6)).run Tryz.prog w=.ok v6 w /\
  (Instr.index 123 (.agg #[v0,v1,v2,v3,v4,v5,v6,v7]) (.int .i64 7)).run Tryz.prog w=.ok v7 w :=
 ⟨by kernel_rfl,by kernel_rfl,by kernel_rfl,by kernel_rfl,by kernel_rfl,by kernel_rfl,by kernel_rfl,by kernel_rfl⟩
theorem raise_walk(x0 x1 x2 x3 x4 x5 x6 x7 s t:Nat)(h0:(0:Int)<=s)(h64:(s:Int)<64)(ht:64 - (s:Int)=(t:Int))(w:World) :
  Calls Tryz.prog 124 #[.agg #[.int .u64 x0,.int .u64 x1,.int .u64 x2,.int .u64 x3,.int .u64 x4,.int .u64 x5,.int .u64 x6,.int .u64 x7],.int .i64 s] w fun e w' =>
   e=.returned (.agg #[.int .u64 (bits .or .u64 (0) (IntKind.u64.wrap ((x0:Int)*2^s))),.int .u64 (bits .or .u64 ((x0:Int) / 2^t) (IntKind.u64.wrap ((x1:Int)*2^s))),.int .u64 (bits .or .u64 ((x1:Int) / 2^t) (IntKind.u64.wrap ((x2:Int)*2^s))),.int .u64 (bits .or .u64 ((x2:Int) / 2^t) (IntKind.u64.wrap ((x3:Int)*2^s))),.int .u64 (bits .or .u64 ((x3:Int) / 2^t) (IntKind.u64.wrap ((x4:Int)*2^s))),.int .u64 (bits .or .u64 ((x4:Int) / 2^t) (IntKind.u64.wrap ((x5:Int)*2^s))),.int .u64 (bits .or .u64 ((x5:Int) / 2^t) (IntKind.u64.wrap ((x6:Int)*2^s))),.int .u64 (bits .or .u64 ((x6:Int) / 2^t) (IntKind.u64.wrap ((x7:Int)*2^s))),.int .u64 ((x7:Int) / 2^t)])/\Below w.heap.size w w':=by
 have i0:∀ v0 v1 v2 v3 v4 v5 v6 v7 w,_:=fun v0 v1 v2 v3 v4 v5 v6 v7 w=>(index8 v0 v1 v2 v3 v4 v5 v6 v7 w).1;have i1:∀ v0 v1 v2 v3 v4 v5 v6 v7 w,_:=fun v0 v1 v2 v3 v4 v5 v6 v7 w=>(index8 v0 v1 v2 v3 v4 v5 v6 v7 w).2.1;have i2:∀ v0 v1 v2 v3 v4 v5 v6 v7 w,_:=fun v0 v1 v2 v3 v4 v5 v6 v7 w=>(index8 v0 v1 v2 v3 v4 v5 v6 v7 w).2.2.1;have i3:∀ v0 v1 v2 v3 v4 v5 v6 v7 w,_:=fun v0 v1 v2 v3 v4 v5 v6 v7 w=>(index8 v0 v1 v2 v3 v4 v5 v6 v7 w).2.2.2.1;have i4:∀ v0 v1 v2 v3 v4 v5 v6 v7 w,_:=fun v0 v1 v2 v3 v4 v5 v6 v7 w=>(index8 v0 v1 v2 v3 v4 v5 v6 v7 w).2.2.2.2.1;have i5:∀ v0 v1 v2 v3 v4 v5 v6 v7 w,_:=fun v0 v1 v2 v3 v4 v5 v6 v7 w=>(index8 v0 v1 v2 v3 v4 v5 v6 v7 w).2.2.2.2.2.1;have i6:∀ v0 v1 v2 v3 v4 v5 v6 v7 w,_:=fun v0 v1 v2 v3 v4 v5 v6 v7 w=>(index8 v0 v1 v2 v3 v4 v5 v6 v7 w).2.2.2.2.2.2.1;have i7:∀ v0 v1 v2 v3 v4 v5 v6 v7 w,_:=fun v0 v1 v2 v3 v4 v5 v6 v7 w=>(index8 v0 v1 v2 v3 v4 v5 v6 v7 w).2.2.2.2.2.2.2;go_enter Tryz.func124,Tryz.ntmps124;go_wp2;refine wp_loop_rounds 9 ?_
 iterate 8 (rw[rounds_succ];go_wp2;go_region;go_wp2)
 rw[rounds_succ];go_wp2
 go_returns
 refine⟨?_,by go_grown⟩;rfl
open Go.RowKit
theorem copy4(W:World)(b c:Nat)(a0 a1 a2 a3:Nat)
  (s0:W.cell? ⟨c,0,none⟩=some (.int .u64 a0)) (s1:W.cell? ⟨c,1,none⟩=some (.int .u64 a1)) (s2:W.cell? ⟨c,2,none⟩=some (.int .u64 a2)) (s3:W.cell? ⟨c,3,none⟩=some (.int .u64 a3))
  (d0:(W.cell? ⟨b,0,none⟩).isSome=true) (d1:(W.cell? ⟨b,1,none⟩).isSome=true) (d2:(W.cell? ⟨b,2,none⟩).isSome=true) (d3:(W.cell? ⟨b,3,none⟩).isSome=true)
  (f0:W.frozen? ⟨b,0,none⟩=false) (f1:W.frozen? ⟨b,1,none⟩=false) (f2:W.frozen? ⟨b,2,none⟩=false) (f3:W.frozen? ⟨b,3,none⟩=false) :
  (Builtin.copy_ #[94,94] 3 #[.slice (some ⟨b,0,none⟩) 8 8,.slice (some ⟨c,0,none⟩) 4 4]).run Tryz.prog W =
   .ok (.int .i64 4) ((((W.setCell ⟨b,0,none⟩ (.int .u64 a0)).setCell ⟨b,1,none⟩ (.int .u64 a1)).setCell ⟨b,2,none⟩ (.int .u64 a2)).setCell ⟨b,3,none⟩ (.int .u64 a3)):=by
 have h:=run_copy_cells (P:=Tryz.prog) W 94 94 3 22 b 0 8 8 ⟨c,0,none⟩ 4 4 [.int .u64 a0,.int .u64 a1,.int .u64 a2,.int .u64 a3] Tryz.underlying94 (by kernel_rfl) rfl
  (fun j v hj=>by
   rcases j with _ | _ | _ | _ | j
   ·cases hj;exact s0
   ·cases hj;exact s1
   ·cases hj;exact s2
   ·cases hj;exact s3
   ·simp at hj)
  (fun j hj=>by
   rcases j with _ | _ | _ | _ | j
   ·exact d0
   ·exact d1
   ·exact d2
   ·exact d3
   ·simp at hj;omega)
  (fun j hj=>by
   rcases j with _ | _ | _ | _ | j
   ·exact f0
   ·exact f1
   ·exact f2
   ·exact f3
   ·simp at hj;omega)
  (fun v hv=>by simp at hv;rcases hv with rfl | rfl | rfl | rfl <;> rfl)
 exact h
theorem widen_nil(a0 a1 a2 a3:Nat)(w:World) :
  Calls Tryz.prog 116 #[.agg #[.int .u64 a0,.int .u64 a1,.int .u64 a2,.int .u64 a3],.slice none 0 0] w fun e w' =>
   e=.returned (.agg #[.int .u64 a0,.int .u64 a1,.int .u64 a2,.int .u64 a3,.int .u64 0,.int .u64 0,.int .u64 0,.int .u64 0])/\Below w.heap.size w w':=by
 have hcp:=copy4 ((((w.alloc (.cells #[.int .u64 a0,.int .u64 a1,.int .u64 a2,.int .u64 a3] 24)).alloc (.cells #[.int .u64 0,.int .u64 0,.int .u64 0,.int .u64 0,.int .u64 0,.int .u64 0,.int .u64 0,.int .u64 0] 123)).alloc (.cells #[.int .u64 0,.int .u64 0,.int .u64 0,.int .u64 0,.int .u64 0,.int .u64 0,.int .u64 0,.int .u64 0] 123)).drew) (w.heap.size+1+1) w.heap.size a0 a1 a2 a3
  (by go_cell) (by go_cell) (by go_cell) (by go_cell) (by go_simp) (by go_simp) (by go_simp) (by go_simp) (by go_cell) (by go_cell) (by go_cell) (by go_cell)
 have hcn:=fun W:World=>run_copy_nil (P:=Tryz.prog) W 94 94 3 22 ⟨w.heap.size+1+1,4,none⟩ 4 4 Tryz.underlying94 (by kernel_rfl);go_enter Tryz.func116,Tryz.ntmps116;go_wp2
 go_region
 go_wp2
 go_returns
 refine⟨?_,by go_grown⟩;rfl
open Go.RowKit
theorem after4k{W w1:World}{P:Prop}(b:Nat)(hb:Below W.heap.size W w1)(hB:b<W.heap.size)
  (c0:W.cell? ⟨b,0,none⟩=some (.int .u64 0)) (c1:W.cell? ⟨b,1,none⟩=some (.int .u64 0)) (c2:W.cell? ⟨b,2,none⟩=some (.int .u64 0)) (c3:W.cell? ⟨b,3,none⟩=some (.int .u64 0))
  (f0:W.frozen? ⟨b,0,none⟩=false) (f1:W.frozen? ⟨b,1,none⟩=false) (f2:W.frozen? ⟨b,2,none⟩=false) (f3:W.frozen? ⟨b,3,none⟩=false)
  (k:(w1.cell? ⟨b,0,none⟩=some (.int .u64 0)/\w1.cell? ⟨b,1,none⟩=some (.int .u64 0)/\w1.cell? ⟨b,2,none⟩=some (.int .u64 0)/\w1.cell? ⟨b,3,none⟩=some (.int .u64 0)) ->
   (w1.frozen? ⟨b,0,none⟩=false/\w1.frozen? ⟨b,1,none⟩=false/\w1.frozen? ⟨b,2,none⟩=false/\w1.frozen? ⟨b,3,none⟩=false)->b<w1.heap.size->P):P:=by
 obtain⟨q,f,z,-⟩:=after4 (B:=0) b hb (Below.refl _ _) (Nat.zero_le _) hB c0 c1 c2 c3 f0 f1 f2 f3;exact k q f z
def Is(w:World)(b:Nat)(o:Obj):Prop:=w.heap[b]?=some o
theorem Is.new{w:World}{b:Nat}(o:Obj)(h:b=w.heap.size):Is (w.alloc o) b o:=by subst h;exact heap_alloc_new w o
theorem Is.lt{w:World}{b:Nat}{o:Obj}(h:Is w b o):b<w.heap.size:=by
 rcases Nat.lt_or_ge b w.heap.size with h' | h'
 ·exact h'
 ·unfold Is at h;simp[Array.getElem?_eq_none h']at h
theorem Is.alloc{w:World}{b:Nat}{o:Obj}(h:Is w b o)(o':Obj):Is (w.alloc o') b o:=(Below.heap_alloc w o' b h.lt).trans h
theorem Is.below{w w':World}{b B:Nat}{o:Obj}(h:Is w b o)(hb:Below B w w')(hB:b<B):Is w' b o:=(hb.block b hB).trans h
theorem Is.but{w w':World}{b S:Nat}{o:Obj}(h:Is w b o)(hb:But S w w')(hS:b≠S):Is w' b o:=(hb.block b hS).trans h
theorem Is.set{w:World}{b:Nat}{o:Obj}(h:Is w b o){p:Addr}(hp:b≠p.block)(u:Value):Is (w.setCell p u) b o:=(Below.heap_setCell w p u b hp).trans h
theorem Is.z8{w:World}{b:Nat}{t:TypeId}(h:Is w b (.cells #[.int .u64 0,.int .u64 0,.int .u64 0,.int .u64 0,.int .u64 0,.int .u64 0,.int .u64 0,.int .u64 0] t)):(w.cell? ⟨b,0,none⟩=some (.int .u64 0)/\w.cell? ⟨b,1,none⟩=some (.int .u64 0)/\w.cell? ⟨b,2,none⟩=some (.int .u64 0)/\w.cell? ⟨b,3,none⟩=some (.int .u64 0)/\w.cell? ⟨b,4,none⟩=some (.int .u64 0)/\w.cell? ⟨b,5,none⟩=some (.int .u64 0)/\w.cell? ⟨b,6,none⟩=some (.int .u64 0)/\w.cell? ⟨b,7,none⟩=some (.int .u64 0))/\(w.frozen? ⟨b,0,none⟩=false/\w.frozen? ⟨b,1,none⟩=false/\w.frozen? ⟨b,2,none⟩=false/\w.frozen? ⟨b,3,none⟩=false/\w.frozen? ⟨b,4,none⟩=false/\w.frozen? ⟨b,5,none⟩=false/\w.frozen? ⟨b,6,none⟩=false/\w.frozen? ⟨b,7,none⟩=false):=by
 unfold Is at h;simp[World.cell?,World.frozen?,h]
theorem Is.z4{w:World}{b:Nat}{t:TypeId}(h:Is w b (.cells #[.int .u64 0,.int .u64 0,.int .u64 0,.int .u64 0] t)):(w.cell? ⟨b,0,none⟩=some (.int .u64 0)/\w.cell? ⟨b,1,none⟩=some (.int .u64 0)/\w.cell? ⟨b,2,none⟩=some (.int .u64 0)/\w.cell? ⟨b,3,none⟩=some (.int .u64 0))/\(w.frozen? ⟨b,0,none⟩=false/\w.frozen? ⟨b,1,none⟩=false/\w.frozen? ⟨b,2,none⟩=false/\w.frozen? ⟨b,3,none⟩=false):=by
 unfold Is at h;simp[World.cell?,World.frozen?,h]
open Go.RowKit
theorem val_split(f:Nat->Nat)(i:Nat):∀ k,val f (i+k)=val f i+18446744073709551616^i*val (fun j=>f (i+j)) k
 | 0=>by simp[val]
 | k+1=>by
  show val f (i+k)+18446744073709551616^(i+k)*f (i+k)=val f i+18446744073709551616^i*(val (fun j=>f (i+j)) k+18446744073709551616^k*f (i+k));rw[val_split f i k,Nat.mul_add,<- Nat.mul_assoc,<- Nat.pow_add,Nat.add_assoc]
theorem val_mono(f:Nat->Nat)(i k:Nat):val f i<=val f (i+k):=by rw[val_split];omega
theorem val_zero{f:Nat->Nat}:∀ k,(∀ j,j<k->f j=0)->val f k=0
 | 0,_=>rfl
 | k+1,h=>by rw[val,val_zero k (fun j hj=>h j (by omega)),h k (by omega)];rfl
theorem val_top{f:Nat->Nat}{k N:Nat}(hk:k<=N)(h:∀ j,k<=j->j<N->f j=0):val f N=val f k:=by
 obtain⟨e,rfl⟩:∃ e,N=k+e:=⟨N - k,by omega⟩
 rw[val_split,val_zero e (fun j hj=>h (k+j) (by omega) (by omega))];rfl
theorem val_ztop{f:Nat->Nat}{k N:Nat}(h:val f N<18446744073709551616^k)(j:Nat)(hk:k<=j)(hj:j<N):f j=0:=by
 obtain⟨e,rfl⟩:∃ e,N=j+1+e:=⟨N - (j+1),by omega⟩
 have h1:=val_mono f (j+1) e;have h2:18446744073709551616^j*f j<=val f (j+1):=by rw[val];omega
 have h3:18446744073709551616^k<=18446744073709551616^j:=Nat.pow_le_pow_right (by omega) hk;rcases Nat.eq_zero_or_pos (f j)with h4 | h4
 ·exact h4
 ·have h5:18446744073709551616^j*1<=18446744073709551616^j*f j:=Nat.mul_le_mul_left _ h4
  generalize 18446744073709551616^j*f j=y at *;generalize 18446744073709551616^j=z at *;generalize 18446744073709551616^k=u at *;omega
theorem val_set(f:Nat->Nat)(i x:Nat):∀ N,i<N->val (fun j=>if j=i then x else f j) N+18446744073709551616^i*f i=val f N+18446744073709551616^i*x:=by
 intro N hN;obtain⟨e,rfl⟩:∃ e,N=i+1+e:=⟨N - (i+1),by omega⟩
 rw[val_split,val_split f,val,val,if_pos rfl,val_congr (f:=fun j=>if j=i then x else f j) (g:=f) (n:=i) (fun j hj=>if_neg (by omega)),
  val_congr (f:=fun j=>if i+1+j=i then x else f (i+1+j)) (g:=fun j=>f (i+1+j)) (n:=e) (fun j hj=>if_neg (by omega))]
 omega
theorem np_spec(f:Nat->Nat):∀ n,np f n<=n/\(∀ j,np f n<=j->j<n->f j=0)/\(0<np f n->f (np f n - 1)≠0)
 | 0=>⟨Nat.le_refl _,fun j _ h=>by omega,fun h=>by simp[np]at h⟩
 | n+1=>by
  obtain⟨h1,h2,h3⟩:=np_spec f n;unfold np;by_cases e:f n=0
  ·rw[if_pos e]
   refine⟨by omega,fun j hj hn=>?_,h3⟩;by_cases q:j=n
   ·rw[q];exact e
   ·exact h2 j hj (by omega)
  ·rw[if_neg e]
   exact⟨Nat.le_refl _,fun j hj hn=>by omega,fun _=>e⟩
theorem div_take{cur:Nat->Nat}{D i n:Nat}(hD:D<=18446744073709551616^n)(hin:i+n+1<=9)(hlt:val cur 9<D*18446744073709551616^(i+1)) :
  (∀ j,i+(n+1)<=j->j<9->cur j=0)/\val cur 9=val cur i+18446744073709551616^i*val (fun j=>cur (i+j)) (n+1)/\val (fun j=>cur (i+j)) (n+1)<18446744073709551616*D:=by
 have h1:val cur 9<18446744073709551616^(i+(n+1)):=by
  refine Nat.lt_of_lt_of_le hlt ?_;have:=Nat.mul_le_mul_right (18446744073709551616^(i+1)) hD;rwa [<- Nat.pow_add,show n+(i+1)=i+(n+1) by omega]at this
 have h2:∀ j,i+(n+1)<=j->j<9->cur j=0:=fun j=>val_ztop h1 j;have h3:val cur 9=val cur i+18446744073709551616^i*val (fun j=>cur (i+j)) (n+1):=by
  rw[val_top (k:=i+(n+1)) (by omega) h2,val_split]
 refine⟨h2,h3,?_⟩;rw[h3,Nat.pow_succ]at hlt;have hp:0<18446744073709551616^i:=Nat.pow_pos (by omega);generalize val (fun j=>cur (i+j)) (n+1)=r at *;generalize 18446744073709551616^i=p at *;generalize 18446744073709551616=P at *;refine Nat.lt_of_mul_lt_mul_left (a:=p) (Nat.lt_of_le_of_lt ?_ (Nat.lt_of_lt_of_eq hlt (by rw[Nat.mul_comm p P,<- Nat.mul_assoc,Nat.mul_comm D P,Nat.mul_comm])));omega
def curN(cur ns:Nat->Nat)(i n:Nat):Nat->Nat:=fun j=>if i<=j/\j<i+(n+1)then ns (j - i)else cur j
def quoN(q:Nat->Nat)(i part:Nat):Nat->Nat:=fun j=>if j=i then part else q j
theorem curN_val{cur ns:Nat->Nat}{i n:Nat}(hin:i+n+1<=9)(h0:∀ j,i+(n+1)<=j->j<9->cur j=0):val (curN cur ns i n) 9=val cur i+18446744073709551616^i*val ns (n+1):=by
 rw[val_top (f:=curN cur ns i n) (k:=i+(n+1)) (by omega) (fun j h1 h2=>by unfold curN;rw[if_neg (by omega)];exact h0 j h1 h2),val_split,
  val_congr (f:=curN cur ns i n) (g:=cur) (n:=i) (fun j hj=>by unfold curN;rw[if_neg (by omega)]),
  val_congr (f:=fun j=>curN cur ns i n (i+j)) (g:=ns) (n:=n+1) (fun j hj=>by unfold curN;rw[if_pos (by omega),show i+j - i=j by omega])]
theorem div_arith{X q8 q8' p part r m D c R0:Nat}(h:q8*D+(c+p*r)=R0)(hr:r=D*part+m)(hq:q8'=q8+p*part)(hX:X=c+p*m):q8'*D+X=R0:=by
 subst hq hX hr;rw[<- h];grind
theorem div_round{cur q ns:Nat->Nat}{D R0 i n part:Nat}(hc:∀ j,j<9->cur j<18446744073709551616)(hD0:0<D)(hD:D<=18446744073709551616^n)(hin:i+n+1<=9)(hi:i<8)(hlt:val cur 9<D*18446744073709551616^(i+1))
  (inv:val q 8*D+val cur 9=R0) (hq:q i=0) (hp:part=val (fun j=>cur (i+j)) (n+1) / D) (hns:val ns (n+1)=val (fun j=>cur (i+j)) (n+1)%D) :
  val (quoN q i part) 8*D+val (curN cur ns i n) 9=R0/\val (curN cur ns i n) 9<D*18446744073709551616^i/\part<18446744073709551616:=by
 obtain⟨h0,h1,h2⟩:=div_take hD hin hlt;have h3:=curN_val (ns:=ns) hin h0;have h4:=val_set q i part 8 hi;rw[hq,Nat.mul_zero,Nat.add_zero]at h4;have h5:=val_lt (f:=cur) (n:=i) (fun j hj=>hc j (by omega));rw[h1]at inv;refine⟨div_arith inv (r:=val (fun j=>cur (i+j)) (n+1)) (by rw[hp];exact(Nat.div_add_mod _ _).symm) h4 (by rw[h3,hns]),?_,?_⟩
 ·rw[h3,hns]
  have h6:=Nat.mod_lt (val (fun j=>cur (i+j)) (n+1)) hD0;generalize val (fun j=>cur (i+j)) (n+1)%D=r at *;have h7:18446744073709551616^i*(r+1)<=18446744073709551616^i*D:=Nat.mul_le_mul_left _ h6;rw[Nat.mul_add,Nat.mul_one]at h7;rw[Nat.mul_comm D];generalize 18446744073709551616^i=p at *;generalize p*D=y at *;generalize p*r=z at *;omega
 ·rw[hp,Nat.div_lt_iff_lt_mul hD0];exact h2
theorem div_end{A B D q V s:Nat}(hD:D=B*2^s)(inv:q*D+V=A*2^s)(h:V<D):q=A / B/\V / 2^s=A%B:=by
 have hp:=Nat.two_pow_pos s;have e1:q=A*2^s / D:=by
  rw[<- inv,Nat.add_comm,Nat.mul_comm,Nat.add_mul_div_left _ _ (by omega),Nat.div_eq_of_lt h,Nat.zero_add]
 have e2:V=A*2^s%D:=by
  rw[<- inv,Nat.add_comm,Nat.mul_comm,Nat.add_mul_mod_self_left,Nat.mod_eq_of_lt h]
 rw[hD,Nat.mul_div_mul_right _ _ hp]at e1;rw[hD,Nat.mul_mod_mul_right]at e2;exact⟨e1,by rw[e2,Nat.mul_div_cancel _ hp]⟩
theorem div_start{a b:Nat->Nat}{m n s c:Nat}(ha:∀ j,j<m->a j<18446744073709551616)(hb:b (n - 1)≠0)(hn:0<n)(hc:m+1<=c+n):val a m*2^s<val b n*2^s*18446744073709551616^c:=by
 have h1:=val_lt ha;have h2:18446744073709551616^(n - 1)*b (n - 1)<=val b n:=by
  have:=val_mono b (n - 1+1) 0;rw[show n=n - 1+1 by omega,val,Nat.add_sub_cancel];omega
 have h3:18446744073709551616^(n - 1)*1<=18446744073709551616^(n - 1)*b (n - 1):=Nat.mul_le_mul_left _ (Nat.pos_of_ne_zero hb);have h4:18446744073709551616^m<=18446744073709551616^(n - 1)*18446744073709551616^c:=by
  rw[<- Nat.pow_add];exact Nat.pow_le_pow_right (by omega) (by omega)
 have h5:18446744073709551616^(n - 1)*18446744073709551616^c<=val b n*18446744073709551616^c:=Nat.mul_le_mul_right _ (by omega);have h6:val a m<val b n*18446744073709551616^c:=Nat.lt_of_lt_of_le h1 (Nat.le_trans h4 h5);have hp:=Nat.two_pow_pos s;rw[Nat.mul_right_comm];exact Nat.mul_lt_mul_of_lt_of_le h6 (Nat.le_refl _) hp
end Go.Proofs.YthnckclbeecnmaaGreat
