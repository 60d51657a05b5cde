/- Points of y^2 = x^3 + b told without a division: X is x by z z, Y is y by z z z; of none z is nought. (Cut to what is reached, written closely: SyD · EcOrd · FInvN · EcFp · EcJac.) -/
import Derived.Test.YtphafjbajlcbnaaB35
import Derived.Test.YtphafjbajlcbnaaB28
import Derived.Test.YtphafjbajlcbnaaB41
import Derived.Test.YtphafjbajlcbnaaB39
import Derived.Test.YtphafjbajlcbnaaB30
set_option linter.all false
set_option maxRecDepth 100000
set_option maxHeartbeats 8000000
namespace Go.Proofs.Ytphafjbajlcbnaa
open Go.RowKit
namespace Sy
def tmOf:SV->Option (List (Nat × Nat × Nat × Bool))
 | .e=>some []
 | .ap (.ap (.w k) (.ap x .e)) t=>match ptS x,tmOf t with
  | some p,some l=>some ((k,p)::l)
  | _,_=>none
 | _=>none
theorem pt_cells{γ:Pl}{x:SV}{p:Nat × Nat × Bool}(hx:ptS x=some p):x.cells γ=(pc p.1 p.2.1 p.2.2).toList:=by
 have k:=(ptS_ok (γ:=γ) hx).1;unfold ptS at hx
 split at hx
 ·have h3:Value.agg (SV.cells γ (SV.ap (.w _) (.ap (.w _) (.ap _ .e)))).toArray=.agg _:=k
  injection h3 with h3
  rw[<- h3]
 ·cases hx
theorem tmOf_ok{γ:Pl}:∀ {c:SV} {l:List (Nat × Nat × Nat × Bool)},tmOf c=some l->(c.cells γ).toArray=tls l/\(c.ok->∀ t∈l,t.1<2^256/\t.2.1<2^256/\t.2.2.1<2^256)
 | .e,l,h=>by cases h;exact⟨rfl,fun _ p hp=>by cases hp⟩
 | .ap (.ap (.w k) (.ap x .e)) t,l,h=>by
  unfold tmOf at h
  split at h
  ·rename_i p r hx hr
   cases h;have ih:=tmOf_ok (γ:=γ) hr;have q:=(ptS_ok (γ:=γ) hx).2;refine⟨?_,fun ho t ht=>?_⟩
   ·show((pw k).toList++(x.cells γ++[])++t.cells γ).toArray=tc k p.1 p.2.1 p.2.2++tls r
    rw[<- ih.1,pt_cells hx];simp[tc]
   ·rcases List.mem_cons.1 ht with rfl | ht
    ·exact⟨ho.1.1,q ho.1.2.1⟩
    ·exact ih.2 ho.2 t ht
  ·cases h
def tm3(m:Nat)(l:List (Nat × Nat × Nat × Bool)):Nat × Nat × Bool:=if l.all (fun t=>onB m t.2)=true then gpT m (gwk m l 257)else (0,0,true)
theorem tm3_val(m:Nat)(l:List (Nat × Nat × Nat × Bool)):pc (tm3 m l).1 (tm3 m l).2.1 (tm3 m l).2.2=if l.all (fun t=>onB m t.2)=true then gpo m (gwk m l 257)else pc 0 0 true:=by
 unfold tm3
 split
 ·rw[<- gpo_gpT]
 ·rfl
theorem tm3_lt{m:Nat}(h0:0<m)(hm:m<2^256)(l:List (Nat × Nat × Nat × Bool)):(tm3 m l).1<2^256/\(tm3 m l).2.1<2^256:=by
 unfold tm3
 split
 ·exact gpT_lt h0 hm _
 ·exact⟨w0_ok,w0_ok⟩
def cTimes(ext:Bool)(m:Nat):Con:=⟨20,fun _ M us=>match us with
 | [.ap x .e,.s b 0 k _]=>match isF ext m M x,rowIn b M with
  | some p,some (c,T)=>match tmOf c with
   | some l=>if T=51/\l.length=k/\0<k/\k<4294967296 then some (.tu (sP3 (tm3 m l)) (sIf (l.all fun t=>onB m t.2)),p,[])else none
   | none=>none
  | _,_=>none
 | _=>none⟩
theorem cTimes_ok{ext:Bool}{m:Nat}{γ0:Pl}{w0:World}(hf:FOk ext m γ0 w0):ConOk Try.prog 1 γ0 w0 (cTimes ext m) :=
 ⟨fun _ _=>by kernel_rfl,fun n M us r p R hr hp hn hok hM=>by
  unfold cTimes at hr;dsimp only at hr
  split at hr
  ·rename_i x b k c
   split at hr
   ·rename_i p' c' T hx hrow
    split at hr
    ·rename_i l hl
     split at hr
     ·rename_i hk
      cases hr;obtain⟨rfl,rfl,hk0,hk⟩:=hk;have hlt:=(tmOf_ok (γ:=fun _=>0) hl).2 (hM _ (rowIn_ok hrow)).1;have q:=sP3_ok (tm3_lt (by have:=hf.big;omega) hf.lt l);have q2:SV.lt 0 (.tu (sP3 (tm3 m l)) (sIf (l.all fun t=>onB m t.2)))=true:=rfl;refine⟨⟨q.1,trivial⟩,SV.lt_mono (Nat.zero_le _) q2,fun q hq=>(by cases hq),fun γ hγ wx hw hL=>?_⟩;obtain⟨F,h1,h2⟩:=isF_at hx hp hf hγ hw hL;have hrw:=(hL _ (rowIn_ok hrow)).1;rw[(tmOf_ok (γ:=γ) hl).1]at hrw;have g4:=gtimes_any F m (γ b) c l hlt hk0 hk wx h2 hrw;rw[<- agg_ptr hx h1,<- tm3_val,<- sP3_val _ γ]at g4;exact g4.mono fun e w' hh=>⟨⟨γ,fun _ _=>rfl,hh.1,fun q hq=>(by cases hq),.nil⟩,hh.2⟩
     ·cases hr
    ·cases hr
   ·cases hr
  ·cases hr⟩
def zT:SV:=.ap (.w 0) (.ap (.ap (.w 0) (.ap (.w 0) (.ap (.v (.bool false)) .e))) .e)
theorem zT_ok:zT.ok:=⟨w0_ok,⟨w0_ok,w0_ok,trivial,trivial⟩,trivial⟩
def bsT(n:Nat)(zs:SV):Bs:=⟨66,n,51,13,zs⟩
theorem bsT1_ok:(bsT 1 (.ap zT .e)).Good Try.prog:=⟨Try.underlying66,by kernel_rfl,by kernel_rfl,rfl,⟨zT_ok,trivial⟩,by decide,by decide⟩
theorem bsT2_ok:(bsT 2 (.ap zT (.ap zT .e))).Good Try.prog:=⟨Try.underlying66,by kernel_rfl,by kernel_rfl,rfl,⟨zT_ok,zT_ok,trivial⟩,by decide,by decide⟩
end Sy
open Sy
theorem gmul_any(k x y:Nat)(n:Bool)(hk:k<2^256)(hx:x<2^256)(hy:y<2^256)(w:World):Calls Try.prog 8 #[.agg (pw k),.agg (pc x y n)] w fun r w'=>r=.returned (.tuple #[.agg (if [(k,x,y,n)].all (fun t=>onB mK t.2)=true then gpo mK (gwk mK [(k,x,y,n)] 257)else pc 0 0 true),.int .i64 (if [(k,x,y,n)].all (fun t=>onB mK t.2)=true then 0 else 81)])/\Below w.heap.size w w':=by
 refine calls_at (E1s_ok (more:=cPoints::cTimes false mK::[]) ⟨cPoints_ok,cTimes_ok (fK w),trivial⟩ (one_mem bsT1_ok)) (by kernel_rfl) (fun _=>0) Try.func8 (by kernel_rfl) [.w k,sP x y n] ⟨⟨hk,rfl⟩,⟨⟨hx,hy,trivial,trivial⟩,rfl⟩,trivial⟩ (by kernel_rfl) (by kernel_rfl)
  (.leaf (.tu (sP3 (tm3 mK [(k,x,y,n)])) (sIf ([(k,x,y,n)].all fun t=>onB mK t.2)))) (by kernel_rfl) ?_
 rw[<- tm3_val,<- sP3_val _ fun _=>0];rfl
theorem gtwo_any(k x y kq xq yq:Nat)(n nq:Bool)(hk:k<2^256)(hx:x<2^256)(hy:y<2^256)(hkq:kq<2^256)(hxq:xq<2^256)(hyq:yq<2^256)(w:World):Calls Try.prog 12 #[.agg (pw k),.agg (pc x y n),.agg (pw kq),.agg (pc xq yq nq)] w fun r w'=>r=.returned (.tuple #[.agg (if [(k,x,y,n),(kq,xq,yq,nq)].all (fun t=>onB mK t.2)=true then gpo mK (gwk mK [(k,x,y,n),(kq,xq,yq,nq)] 257)else pc 0 0 true),.int .i64 (if [(k,x,y,n),(kq,xq,yq,nq)].all (fun t=>onB mK t.2)=true then 0 else 81)])/\Below w.heap.size w w':=by
 refine calls_at (E1s_ok (more:=cPoints::cTimes false mK::[]) ⟨cPoints_ok,cTimes_ok (fK w),trivial⟩ (one_mem bsT2_ok)) (by kernel_rfl) (fun _=>0) Try.func12 (by kernel_rfl) [.w k,sP x y n,.w kq,sP xq yq nq] ⟨⟨hk,rfl⟩,⟨⟨hx,hy,trivial,trivial⟩,rfl⟩,⟨hkq,rfl⟩,⟨⟨hxq,hyq,trivial,trivial⟩,rfl⟩,trivial⟩ (by kernel_rfl) (by kernel_rfl)
  (.leaf (.tu (sP3 (tm3 mK [(k,x,y,n),(kq,xq,yq,nq)])) (sIf ([(k,x,y,n),(kq,xq,yq,nq)].all fun t=>onB mK t.2)))) (by kernel_rfl) ?_
 rw[<- tm3_val,<- sP3_val _ fun _=>0];rfl
theorem pigeon:∀(n m:Nat) (f:Nat->Nat),(∀ i,i<m->f i<n)->(∀ i j,i<m->j<m->f i=f j->i=j)->m<=n:=by
 intro n
 induction n with
 | zero =>
  intro m f h _;rcases Nat.eq_zero_or_pos m with rfl | hm
  ·exact Nat.le_refl _
  ·exact absurd (h 0 hm) (Nat.not_lt_zero _)
 | succ n ih =>
  intro m f h inj;by_cases hx:∃ i0,i0<m/\f i0=n
  ·obtain⟨i0,h0,e0⟩:=hx
   have key:=ih (m - 1) (fun j=>f (if j<i0 then j else j+1)) (fun i hi=>?_) fun i j hi hj e=>?_
   ·omega
   ·have hlt:(if i<i0 then i else i+1)<m:=by split <;> omega
    have hne:(if i<i0 then i else i+1)≠i0:=by split <;> omega
    have h1:=h _ hlt;have h2:f (if i<i0 then i else i+1)≠n:=fun e=>hne (inj _ _ hlt h0 (e.trans e0.symm));omega
   ·have hi':(if i<i0 then i else i+1)<m:=by split <;> omega
    have hj':(if j<i0 then j else j+1)<m:=by split <;> omega
    have h1:=inj _ _ hi' hj' e
    split at h1 <;> split at h1 <;> omega
  ·refine Nat.le_succ_of_le (ih m f (fun i hi=>?_) inj)
   have h1:=h i hi;have h2:f i≠n:=fun e=>hx ⟨i,hi,e⟩;omega
section
variable {K:Type} {F:CField K} {b:K}
def sbit(F:CField K)(e:K->Nat)(y:K):Nat:=if e y<e (F.neg y)then 0 else 1
theorem sbit_le(e:K->Nat)(y:K):sbit F e y<=1:=by unfold sbit;split <;> omega
def pcode(F:CField K)(e:K->Nat)(p:Nat):Pt K->Nat
 | .none=>2*p
 | .some x y=>2*e x+sbit F e y
theorem pcode_lt{e:K->Nat}{p:Nat}(he:∀ a,e a<p)(P:Pt K):pcode F e p P<2*p+1:=by
 cases P with
 | none=>exact Nat.lt_succ_self _
 | some x y =>
  have h1:=he x;have h2:=sbit_le (F:=F) e y;show 2*e x+sbit F e y<2*p+1;omega
theorem pcode_inj{e:K->Nat}{p:Nat}(he:∀ a,e a<p)(hi:∀ a c,e a=e c->a=c){P Q:Pt K}(hP:P.On F b)(hQ:Q.On F b)(h:pcode F e p P=pcode F e p Q):P=Q:=by
 cases P with
 | none =>
  cases Q with
  | none=>rfl
  | some x y =>
   have h1:=he x;have h2:=sbit_le (F:=F) e y;have h3:2*p=2*e x+sbit F e y:=h;omega
 | some x y =>
  cases Q with
  | none =>
   have h1:=he x;have h2:=sbit_le (F:=F) e y;have h3:2*e x+sbit F e y=2*p:=h;omega
  | some x' y' =>
   have h1:=sbit_le (F:=F) e y;have h2:=sbit_le (F:=F) e y';have h3:2*e x+sbit F e y=2*e x'+sbit F e y':=h;have hx':=hi x x' (by omega);subst hx';have h4:sbit F e y=sbit F e y':=by omega
   by_cases ey:y=y'
   ·rw[ey]
   ·exfalso
    have h5:=same_x hP hQ ey;rw[F.sub_self]at h5;have h6:y'=F.neg y:=by rw[h5];unfold CRing.sub;rw[F.zero_add]
    have h7:e y≠e y':=fun q=>ey (hi _ _ q);have h8:F.neg y'=y:=by rw[h6];exact neg_neg F.toCRing y
    unfold sbit at h4;rw[h8,<- h6]at h4;by_cases h9:e y<e y'
    ·rw[if_pos h9,if_neg (by omega)]at h4;omega
    ·rw[if_neg h9,if_pos (by omega)]at h4;omega
theorem no_two[DecidableEq K](h:Curve F b){P:Pt K}(hP:P.On F b)(e:psum F P P=.none):P=.none:=by
 cases P with
 | none=>rfl
 | some x y =>
  exfalso;have hy:=y_ne h.root hP;have e2:(if x=x then (if y≠y\/y=F.zero then .none else lineTo F x y x (F.mul (F.add (F.mul x x) (F.add (F.mul x x) (F.mul x x))) (F.inv (F.add y y))))else lineTo F x y x (F.mul (F.sub y y) (F.inv (F.sub x x))))=(.none:Pt K):=e;rw[if_pos rfl,if_neg (fun q=>q.elim (fun q=>q rfl) hy)]at e2;cases e2
theorem nmul_diff[DecidableEq K](h:Curve F b){G:Pt K}(hG:G.On F b){n i j:Nat}(hij:i<=j)(hjn:j<n)(e:nmul F i G=nmul F j G)(prime:∀ d,0<d->d<n->nmul F d G≠.none):i=j:=by
 rcases Nat.eq_or_lt_of_le hij with h1 | h1
 ·exact h1
 ·exfalso
  have e2:nmul F (j - i) G=.none:=by
   refine psum_cancel (q:=.none) h (on_nmul h hG _) trivial (on_nmul h hG i) ?_;rw[<- nmul_add h hG,show j - i+i=j by omega,<- e];rfl
  exact prime (j - i) (by omega) (by omega) e2
theorem least[DecidableEq K](h:Curve F b){G:Pt K}(hG:G.On F b)(hne:G≠.none){n:Nat}(hn:nmul F n G=.none)(hp:∀ d,0<d->d<n->Nat.gcd d n=1):∀ d,0<d->d<n->nmul F d G≠.none:=by
 intro d h0 hd e
 -- d has an inverse modulo n
 have hg:∀ a c:Nat,nmul F a G=.none->nmul F c G=.none->nmul F (Nat.gcd a c) G=.none:=by
  intro a
  induction a using Nat.strongRecOn with
  | _ a ih =>
   intro c ha hc;rcases Nat.eq_zero_or_pos a with rfl | hpos
   ·rw[Nat.gcd_zero_left];exact hc
   ·rw[Nat.gcd_rec]
    refine ih (c%a) (Nat.mod_lt _ hpos) a ?_ ha;rw[nmul_mod h hG ha];exact hc
 have h1:=hg d n e hn;rw[hp d h0 hd]at h1;exact hne h1
theorem order_all[DecidableEq K](h:Curve F b){e:K->Nat}{p:Nat}(he:∀ a,e a<p)(hi:∀ a c,e a=e c->a=c){G:Pt K}(hG:G.On F b)(hne:G≠.none){n:Nat}(hn:nmul F n G=.none)(hprime:∀ d,0<d->d<n->Nat.gcd d n=1)(hbig:2*p+1<3*n){P:Pt K}(hP:P.On F b):nmul F n P=.none:=by
 refine Classical.byContradiction fun hc=>?_;have hl:=least h hG hne hn hprime;have n0:0<n:=by omega
 let f:Nat->Pt K:=fun k=>psum F (nmul F (k%n) G) (nmul F (k / n) P)
 have onf:∀ k,(f k).On F b:=fun k=>on_psum h (on_nmul h hG _) (on_nmul h hP _);have nG:∀ k,nmul F n (nmul F k G)=.none:=fun k=>by rw[<- nmul_mul h hG,Nat.mul_comm,nmul_mul h hG,hn,nmul_none]
 -- two of these points are one only if they are told alike
 have key:∀ i j,i / n<=j / n->j<3*n->f i=f j->i=j:=by
  intro i j hij hj ee;have hi1:=Nat.mod_lt i n0;have hj1:=Nat.mod_lt j n0;have hj3:j / n<3:=(Nat.div_lt_iff_lt_mul n0).2 hj;obtain⟨d,hd⟩:∃ d,j / n=i / n+d:=⟨j / n - i / n,by omega⟩
  -- so many times d the point is a multiple of G
  have e1:nmul F (i%n) G=psum F (nmul F (j%n) G) (nmul F d P):=by
   apply psum_cancel h (on_nmul h hG _) (on_psum h (on_nmul h hG _) (on_nmul h hP _)) (on_nmul h hP (i / n));rw[psum_assoc h.root h.two (on_nmul h hG _) (on_nmul h hP _) (on_nmul h hP _),<- nmul_add h hP,Nat.add_comm d,<- hd];exact ee
  have e2:=congrArg (nmul F n) e1;rw[nG,nmul_psum h (on_nmul h hG _) (on_nmul h hP _),nG]at e2;have e3:nmul F d (nmul F n P)=.none:=by
   rw[<- nmul_mul h hP,Nat.mul_comm,nmul_mul h hP];exact e2.symm
  have hd3:d<3:=Nat.lt_of_le_of_lt (Nat.le_add_left d (i / n)) (by rw[<- hd];exact hj3);have hd0:d=0:=by
   rcases Nat.eq_zero_or_pos d with h0 | h0
   ·exact h0
   ·exfalso
    rcases Nat.lt_or_ge d 2 with h1 | h1
    ·obtain rfl:d=1:=by omega
     exact hc e3
    ·obtain rfl:d=2:=by omega
     exact hc (no_two h (on_nmul h hP n) e3)
  subst hd0;have e4:nmul F (i%n) G=nmul F (j%n) G:=by rw[e1];exact psum_none_r _
  have e5:i%n=j%n:=by
   rcases Nat.le_total (i%n) (j%n)with hle | hle
   ·exact nmul_diff h hG hle hj1 e4 hl
   ·exact(nmul_diff h hG hle hi1 e4.symm hl).symm
  have h6:=Nat.div_add_mod i n;have h7:=Nat.div_add_mod j n;rw[hd,Nat.add_zero,<- e5]at h7;omega
 have hcount:=pigeon (2*p+1) (3*n) (fun k=>pcode F e p (f k)) (fun k _=>pcode_lt he _) fun i j hi' hj' ee=>by
  have ef:=pcode_inj he hi (onf i) (onf j) ee;rcases Nat.le_total (i / n) (j / n)with hle | hle
  ·exact key i j hle hj' ef
  ·exact(key j i hle hi' ef.symm).symm
 omega
end
def invN(p n:Nat):Nat:=n^(p - 2)%p
theorem invN_lt{p:Nat}(hp:Pr p)(n:Nat):invN p n<p:=Nat.mod_lt _ (by have:=hp.1;omega)
theorem invN_ok{p n:Nat}(hp:Pr p)(h:¬p∣n):n*invN p n%p=1:=by
 unfold invN;have h2:=hp.1;rw[Nat.mul_mod,Nat.mod_mod,<- Nat.mul_mod,<- Nat.pow_succ',show(p - 2).succ=p - 1 by omega];exact fermat1 hp n h
theorem invN_not{p n:Nat}(hp:Pr p)(h:p∣n):n*invN p n%p≠1:=by
 have h2:=hp.1;rw[Nat.mul_mod,Nat.mod_eq_zero_of_dvd h,Nat.zero_mul,Nat.zero_mod];omega
theorem invN_iff{p n:Nat}(hp:Pr p):n*invN p n%p=1↔¬p∣n:=⟨fun h hd=>invN_not hp hd h,invN_ok hp⟩
theorem invN_uniq{p n x:Nat}(hp:Pr p)(h:n*x%p=1)(hx:x<p):invN p n=x:=by
 have hn:¬p∣n:=fun hd=>by
  rw[Nat.mul_mod,Nat.mod_eq_zero_of_dvd hd,Nat.zero_mul,Nat.zero_mod]at h;omega
 have h1:=invN_ok hp hn;have e1:invN p n*(n*x)%p=invN p n:=by rw[Nat.mul_mod,h,Nat.mul_one,Nat.mod_mod,Nat.mod_eq_of_lt (invN_lt hp n)]
 have e2:invN p n*(n*x)%p=x:=by rw[<- Nat.mul_assoc,Nat.mul_comm (invN p n),Nat.mul_mod,h1,Nat.one_mul,Nat.mod_mod,Nat.mod_eq_of_lt hx]
 exact e1.symm.trans e2
abbrev Zp(p:Nat):={ a:Nat // a<p }
theorem zp_ext{p:Nat}{a b:Zp p}(h:a.1=b.1):a=b:=Subtype.ext h
section
variable {p:Nat} (hp:Pr p)
theorem Pr.pos{p:Nat}(hp:Pr p):0<p:=by have:=hp.1;omega
def zpField:CField (Zp p) where
 add a b:=⟨(a.1+b.1)%p,Nat.mod_lt _ hp.pos⟩
 mul a b:=⟨a.1*b.1%p,Nat.mod_lt _ hp.pos⟩
 neg a:=⟨(p - a.1)%p,Nat.mod_lt _ hp.pos⟩
 zero:=⟨0,hp.pos⟩
 one:=⟨1,hp.1⟩
 inv a:=⟨invN p a.1,invN_lt hp a.1⟩
 add_assoc a b c:=zp_ext (by show((a.1+b.1)%p+c.1)%p=(a.1+(b.1+c.1)%p)%p;rw[Nat.mod_add_mod,Nat.add_mod_mod,Nat.add_assoc])
 add_comm a b:=zp_ext (by show(a.1+b.1)%p=(b.1+a.1)%p;rw[Nat.add_comm])
 add_zero a:=zp_ext (by show(a.1+0)%p=a.1;rw[Nat.add_zero,Nat.mod_eq_of_lt a.2])
 add_neg a:=zp_ext (by show(a.1+(p - a.1)%p)%p=0;have:=a.2;rw[Nat.add_mod_mod,show a.1+(p - a.1)=p by omega,Nat.mod_self])
 mul_assoc a b c:=zp_ext (by show(a.1*b.1%p)*c.1%p=a.1*(b.1*c.1%p)%p;rw[Nat.mod_mul_mod,Nat.mul_mod_mod,Nat.mul_assoc])
 mul_comm a b:=zp_ext (by show a.1*b.1%p=b.1*a.1%p;rw[Nat.mul_comm])
 mul_one a:=zp_ext (by show a.1*1%p=a.1;rw[Nat.mul_one,Nat.mod_eq_of_lt a.2])
 mul_add a b c:=zp_ext (by show a.1*((b.1+c.1)%p)%p=(a.1*b.1%p+a.1*c.1%p)%p;rw[Nat.mul_mod_mod,Nat.mul_add,Nat.mod_add_mod,Nat.add_mod_mod])
 mul_inv a ha:=zp_ext (by
  show a.1*invN p a.1%p=1;refine invN_ok hp fun hd=>ha (zp_ext ?_);show a.1=0;exact Nat.eq_zero_of_dvd_of_lt hd a.2)
 one_ne h:=by
  have:=congrArg Subtype.val h;exact absurd this (by show ¬(1=0);omega)
theorem zp_two(h2:p%2=1)(a:Zp p)(ha:a≠(zpField hp).zero):(zpField hp).add a a≠(zpField hp).zero:=fun h=>by
 have h1:(a.1+a.1)%p=0:=congrArg Subtype.val h;have hd:p∣2*a.1:=by rw[show 2*a.1=a.1+a.1 by omega];exact Nat.dvd_of_mod_eq_zero h1
 rcases hp.dvd_mul hd with h3 | h3
 ·have:=Nat.le_of_dvd (by decide) h3
  have:=hp.1;omega
 ·exact ha (zp_ext (Nat.eq_zero_of_dvd_of_lt h3 a.2))
def natOps(p:Nat):Ops Nat:=⟨fun a b=>(a+b)%p,fun a b=>a*b%p,fun a b=>(a+(p - b))%p⟩
theorem hom_val:Hom (zpField hp).ops (natOps p) Subtype.val:=by
 refine⟨fun _ _=>rfl,fun _ _=>rfl,fun a b=>?_⟩;show(a.1+(p - b.1)%p)%p=(a.1+(p - b.1))%p;rw[Nat.add_mod_mod]
theorem on_zp(b x y:Zp p)(h:y.1*y.1%p=(x.1*x.1%p*x.1%p+b.1)%p):OnC (zpField hp).toCRing b x y:=zp_ext h
theorem no_root{b:Zp p}(h3:(p - 1)%3=0)(hb:b.1≠0)(he:(p - 1) / 3<2^260)(hn:pwr p (p - b.1) ((p - 1) / 3)≠1)(x:Zp p):cub (zpField hp).ops x b≠(zpField hp).zero:=fun h=>by
 have h1:(x.1*x.1%p*x.1%p+b.1)%p=0:=congrArg Subtype.val h;rw[Nat.mod_mul_mod,Nat.mod_add_mod]at h1;have hbl:=b.2;have hx:¬p∣x.1:=fun hd=>by
  rw[Nat.eq_zero_of_dvd_of_lt hd x.2,Nat.mul_zero,Nat.zero_add,Nat.mod_eq_of_lt hbl]at h1;exact hb h1
 have h2:(x.1*x.1*x.1)%p=(p - b.1)%p:=by
  have e:(x.1*x.1*x.1+b.1+(p - b.1))%p=(0+(p - b.1))%p:=by rw[Nat.add_mod,h1,Nat.zero_add,Nat.zero_add,Nat.mod_mod]
  rw[show x.1*x.1*x.1+b.1+(p - b.1)=x.1*x.1*x.1+p by omega,Nat.add_mod_right,Nat.zero_add]at e;exact e
 apply hn;rw[pwr_eq p _ _ he,Nat.pow_mod,<- h2,<- Nat.pow_mod,show x.1*x.1*x.1=x.1^3 by rw[Nat.pow_succ,Nat.pow_two],<- Nat.pow_mul,Nat.mul_div_cancel' (Nat.dvd_of_mod_eq_zero h3)];exact fermat1 hp x.1 hx
def walkT{R:Type}(O:Ops R)(t:R)(P:R × R × R):List Bool->R × R × R->R × R × R
 | [],T=>T
 | b::l,T=>walkT O t P l (if b then cadd O t (cadd O t T T) P else cadd O t T T)
def bitsN:List Bool->Nat->Nat
 | [],m=>m
 | b::l,m=>bitsN l (2*m+if b then 1 else 0)
theorem walk_map{R S:Type}{O:Ops R}{Q:Ops S}{f:R->S}(h:Hom O Q f)(t:R)(P:R × R × R):∀(l:List Bool) (T:R × R × R),map3 f (walkT O t P l T)=walkT Q (f t) (map3 f P) l (map3 f T)
 | [],_=>rfl
 | b::l,T=>by
  rw[walkT,walkT,walk_map h t P l];congr 1;cases b
  ·exact cadd_map h t T T
  ·show map3 f (cadd O t (cadd O t T T) P)=_
   rw[cadd_map h,cadd_map h];rfl
theorem walk_rep{K:Type}{F:CField K}{b:K}[DecidableEq K](h:Curve F b){P:Pt K}(hP:P.On F b):∀(l:List Bool) (T:K × K × K) (m:Nat),Rep F T (nmul F m P)->Rep F (walkT F.ops (F.add (F.add b b) b) (P.emb F) l T) (nmul F (bitsN l m) P)
 | [],_,_,hT=>hT
 | c::l,T,m,hT=>by
  refine walk_rep h hP l _ _ ?_;have h2:Rep F (cadd F.ops (F.add (F.add b b) b) T T) (nmul F (m+m) P):=by
   rw[nmul_add h hP];exact rep_sum h.root h.two (on_nmul h hP m) (on_nmul h hP m) hT hT
  cases c
  ·show Rep F (cadd F.ops (F.add (F.add b b) b) T T) (nmul F (2*m+0) P)
   rw[Nat.add_zero,Nat.two_mul];exact h2
  ·show Rep F (cadd F.ops (F.add (F.add b b) b) (cadd F.ops (F.add (F.add b b) b) T T) (P.emb F)) (nmul F (2*m+1) P)
   rw[Nat.two_mul];exact rep_sum h.root h.two (on_nmul h hP _) hP h2 (rep_emb P)
theorem order_of_walk{K:Type}{F:CField K}{b:K}[DecidableEq K](h:Curve F b){P:Pt K}(hP:P.On F b)(l:List Bool)(n:Nat)(hl:bitsN l 0=n)(hz:(walkT F.ops (F.add (F.add b b) b) (P.emb F) l (F.zero,F.one,F.zero)).2.2=F.zero):nmul F n P=.none:=by
 have h1:=walk_rep h hP l (F.zero,F.one,F.zero) 0 ⟨rfl,rfl,F.one_ne⟩;rw[hl]at h1;cases hq:nmul F n P with
 | none=>rfl
 | some x y =>
  rw[hq]at h1;exact absurd hz h1.1
theorem zp_order{b:Zp p}{gx gy:Zp p}(h:Curve (zpField hp) b)(hP:(Pt.some gx gy).On (zpField hp) b)(l:List Bool)(n:Nat)(hl:bitsN l 0=n){t x y:Nat}(ht:((zpField hp).add ((zpField hp).add b b) b).1=t)(hx:gx.1=x)(hy:gy.1=y)(hw:(walkT (natOps p) t (x,y,1) l (0,1,0)).2.2=0):nmul (zpField hp) n (.some gx gy)=.none:=by
 refine order_of_walk h hP l n hl (zp_ext ?_);have e:=walk_map (hom_val hp) ((zpField hp).add ((zpField hp).add b b) b) ((Pt.some gx gy).emb (zpField hp)) l ((zpField hp).zero,(zpField hp).one,(zpField hp).zero);have a2:map3 Subtype.val ((Pt.some gx gy).emb (zpField hp))=(x,y,1):=by
  show(gx.1,gy.1,1)=_;rw[hx,hy]
 rw[ht,a2]at e;exact(congrArg (fun x=>x.2.2) e).trans hw
end
def pK:Nat:=115792089237316195423570985008687907853269984665640564039457584007908834671663
def nK:Nat:=115792089237316195423570985008687907852837564279074904382605163141518161494337
def gxK:Nat:=0x79be667ef9dcbbac55a06295ce870b07029bfcdb2dce28d959f2815b16f81798
def gyK:Nat:=0x483ada7726a3c4655da4fbfc0e1108a8fd17b448a68554199c47d08ffb10d4b8
theorem prK:Pr pK:=prm_115792089237316195423570985008687907853269984665640564039457584007908834671663
theorem prN:Pr nK:=prm_115792089237316195423570985008687907852837564279074904382605163141518161494337
abbrev KK:=Zp pK
def FK:CField KK:=zpField prK
def sevenK:KK:=⟨7,by decide⟩
def GK:Pt KK:=.some ⟨gxK,by decide⟩ ⟨gyK,by decide⟩
theorem curveK:Curve FK sevenK:=⟨no_root prK (by decide +kernel) (by decide +kernel) (by decide +kernel) (by decide +kernel),zp_two prK (by decide +kernel)⟩
theorem onG:GK.On FK sevenK:=on_zp prK sevenK ⟨gxK,by decide⟩ ⟨gyK,by decide⟩ (by decide +kernel)
def bitsK:List Bool:=(List.range 256).reverse.map fun i=>nK.testBit i
theorem bits_nK:bitsN bitsK 0=nK:=by decide +kernel
theorem walk_nK:(walkT (natOps pK) 21 (gxK,gyK,1) bitsK (0,1,0)).2.2=0:=by decide +kernel
theorem orderG:nmul FK nK GK=.none:=zp_order prK curveK onG bitsK nK bits_nK (t:=21) (x:=gxK) (y:=gyK) (by decide +kernel) rfl rfl walk_nK
theorem orderK{P:Pt KK}(hP:P.On FK sevenK):nmul FK nK P=.none:=by
 refine order_all curveK (e:=Subtype.val) (p:=pK) (fun a=>a.2) (fun a c h=>zp_ext h) onG (fun h=>by cases h) orderG (fun d h0 hd=>?_) (by decide +kernel) hP;exact Nat.Coprime.symm (prN.coprime fun hdv=>by have:=Nat.le_of_dvd h0 hdv;omega)
section
variable {K:Type} {F:CField K} {b:K}
def Jac(F:CField K)(T:K × K × K):Pt K->Prop
 | .none=>T.2.2=F.zero
 | .some x y=>T.2.2≠F.zero/\T.1=F.mul x (F.mul T.2.2 T.2.2)/\T.2.1=F.mul y (F.mul (F.mul T.2.2 T.2.2) T.2.2)
def jdbl(C:CRing K)(T:K × K × K):K × K × K :=
 let rise:=C.add T.2.1 T.2.1
 let half:=C.mul T.2.1 rise
 let square:=C.add half half
 let middle:=C.mul T.1 square
 let xx:=C.mul T.1 T.1
 let slope:=C.add (C.add xx xx) xx
 let x:=C.sub (C.mul slope slope) (C.add middle middle)
 (x,C.sub (C.mul slope (C.sub middle x)) (C.mul half square),C.mul rise T.2.2)
def jtwice[DecidableEq K](F:CField K)(T:K × K × K):K × K × K:=if T.2.2=F.zero then T else jdbl F.toCRing T
def jacross(C:CRing K)(T:K × K × K)(x2:K):K:=C.sub (C.mul x2 (C.mul T.2.2 T.2.2)) T.1
def jup(C:CRing K)(T:K × K × K)(y2:K):K:=C.sub (C.mul y2 (C.mul (C.mul T.2.2 T.2.2) T.2.2)) T.2.1
def jadd(C:CRing K)(T:K × K × K)(x2 y2:K):K × K × K :=
 let across:=jacross C T x2
 let up:=jup C T y2
 let square:=C.mul across across
 let cube:=C.mul square across
 let middle:=C.mul T.1 square
 let x:=C.sub (C.sub (C.mul up up) cube) (C.add middle middle)
 (x,C.sub (C.mul up (C.sub middle x)) (C.mul T.2.1 cube),C.mul T.2.2 across)
def jplus[DecidableEq K](F:CField K)(T:K × K × K):Pt K->K × K × K
 | .none=>T
 | .some x2 y2 =>
  if T.2.2=F.zero then (x2,y2,F.one)
  else if jacross F.toCRing T x2=F.zero/\jup F.toCRing T y2=F.zero then jtwice F T
  else jadd F.toCRing T x2 y2
theorem jd1(C:CRing K)(x z:K):(C.add (C.add (C.mul (C.mul x (C.mul z z)) (C.mul x (C.mul z z))) (C.mul (C.mul x (C.mul z z)) (C.mul x (C.mul z z)))) (C.mul (C.mul x (C.mul z z)) (C.mul x (C.mul z z))))=(C.mul (C.add (C.mul x x) (C.add (C.mul x x) (C.mul x x))) (C.mul (C.mul z z) (C.mul z z))):=ring4 C (lets x z C.zero C.zero) (.add (.add (.mul (.mul (.v 0) (.mul (.v 1) (.v 1))) (.mul (.v 0) (.mul (.v 1) (.v 1)))) (.mul (.mul (.v 0) (.mul (.v 1) (.v 1))) (.mul (.v 0) (.mul (.v 1) (.v 1))))) (.mul (.mul (.v 0) (.mul (.v 1) (.v 1))) (.mul (.v 0) (.mul (.v 1) (.v 1))))) (.mul (.add (.mul (.v 0) (.v 0)) (.add (.mul (.v 0) (.v 0)) (.mul (.v 0) (.v 0)))) (.mul (.mul (.v 1) (.v 1)) (.mul (.v 1) (.v 1)))) (by decide +kernel)
theorem jd2(C:CRing K)(s y z:K):(C.mul (C.mul s (C.add y y)) (C.mul (C.mul z z) (C.mul z z)))=(C.mul s (C.mul (C.add (C.mul y (C.mul (C.mul z z) z)) (C.mul y (C.mul (C.mul z z) z))) z)):=ring4 C (lets s y z C.zero) (.mul (.mul (.v 0) (.add (.v 1) (.v 1))) (.mul (.mul (.v 2) (.v 2)) (.mul (.v 2) (.v 2)))) (.mul (.v 0) (.mul (.add (.mul (.v 1) (.mul (.mul (.v 2) (.v 2)) (.v 2))) (.mul (.v 1) (.mul (.mul (.v 2) (.v 2)) (.v 2)))) (.v 2))) (by decide +kernel)
theorem jd3(C:CRing K)(x y z:K):(C.mul (C.mul x (C.mul z z)) (C.add (C.mul (C.mul y (C.mul (C.mul z z) z)) (C.add (C.mul y (C.mul (C.mul z z) z)) (C.mul y (C.mul (C.mul z z) z)))) (C.mul (C.mul y (C.mul (C.mul z z) z)) (C.add (C.mul y (C.mul (C.mul z z) z)) (C.mul y (C.mul (C.mul z z) z))))))=(C.mul x (C.mul (C.mul (C.add (C.mul y (C.mul (C.mul z z) z)) (C.mul y (C.mul (C.mul z z) z))) z) (C.mul (C.add (C.mul y (C.mul (C.mul z z) z)) (C.mul y (C.mul (C.mul z z) z))) z))):=ring4 C (lets x y z C.zero) (.mul (.mul (.v 0) (.mul (.v 2) (.v 2))) (.add (.mul (.mul (.v 1) (.mul (.mul (.v 2) (.v 2)) (.v 2))) (.add (.mul (.v 1) (.mul (.mul (.v 2) (.v 2)) (.v 2))) (.mul (.v 1) (.mul (.mul (.v 2) (.v 2)) (.v 2))))) (.mul (.mul (.v 1) (.mul (.mul (.v 2) (.v 2)) (.v 2))) (.add (.mul (.v 1) (.mul (.mul (.v 2) (.v 2)) (.v 2))) (.mul (.v 1) (.mul (.mul (.v 2) (.v 2)) (.v 2))))))) (.mul (.v 0) (.mul (.mul (.add (.mul (.v 1) (.mul (.mul (.v 2) (.v 2)) (.v 2))) (.mul (.v 1) (.mul (.mul (.v 2) (.v 2)) (.v 2)))) (.v 2)) (.mul (.add (.mul (.v 1) (.mul (.mul (.v 2) (.v 2)) (.v 2))) (.mul (.v 1) (.mul (.mul (.v 2) (.v 2)) (.v 2)))) (.v 2)))) (by decide +kernel)
theorem jd4a(C:CRing K)(v:K):(C.mul (C.mul v (C.add v v)) (C.add (C.mul v (C.add v v)) (C.mul v (C.add v v))))=(C.mul v (C.mul (C.mul (C.add v v) (C.add v v)) (C.add v v))):=ring4 C (lets v C.zero C.zero C.zero) (.mul (.mul (.v 0) (.add (.v 0) (.v 0))) (.add (.mul (.v 0) (.add (.v 0) (.v 0))) (.mul (.v 0) (.add (.v 0) (.v 0))))) (.mul (.v 0) (.mul (.mul (.add (.v 0) (.v 0)) (.add (.v 0) (.v 0))) (.add (.v 0) (.v 0)))) (by decide +kernel)
theorem jd4b(C:CRing K)(y z r:K):(C.mul (C.mul y (C.mul (C.mul z z) z)) (C.mul (C.mul r r) r))=(C.mul y (C.mul (C.mul (C.mul r z) (C.mul r z)) (C.mul r z))):=ring4 C (lets y z r C.zero) (.mul (.mul (.v 0) (.mul (.mul (.v 1) (.v 1)) (.v 1))) (.mul (.mul (.v 2) (.v 2)) (.v 2))) (.mul (.v 0) (.mul (.mul (.mul (.v 2) (.v 1)) (.mul (.v 2) (.v 1))) (.mul (.v 2) (.v 1)))) (by decide +kernel)
theorem j2x(C:CRing K)(x D S:K):(C.sub (C.mul S D) (C.add (C.mul x D) (C.mul x D)))=(C.mul (C.sub (C.sub S x) x) D):=ring4 C (lets x D S C.zero) (.sub (.mul (.v 2) (.v 1)) (.add (.mul (.v 0) (.v 1)) (.mul (.v 0) (.v 1)))) (.mul (.sub (.sub (.v 2) (.v 0)) (.v 0)) (.v 1)) (by decide +kernel)
theorem ja1(C:CRing K)(x1 x2 z:K):(C.sub (C.mul x2 (C.mul z z)) (C.mul x1 (C.mul z z)))=(C.mul (C.sub x2 x1) (C.mul z z)):=ring4 C (lets x1 x2 z C.zero) (.sub (.mul (.v 1) (.mul (.v 2) (.v 2))) (.mul (.v 0) (.mul (.v 2) (.v 2)))) (.mul (.sub (.v 1) (.v 0)) (.mul (.v 2) (.v 2))) (by decide +kernel)
theorem ja2(C:CRing K)(x1 x2 z:K):(C.sub (C.mul x2 (C.mul (C.mul z z) z)) (C.mul x1 (C.mul (C.mul z z) z)))=(C.mul (C.sub x2 x1) (C.mul (C.mul z z) z)):=ring4 C (lets x1 x2 z C.zero) (.sub (.mul (.v 1) (.mul (.mul (.v 2) (.v 2)) (.v 2))) (.mul (.v 0) (.mul (.mul (.v 2) (.v 2)) (.v 2)))) (.mul (.sub (.v 1) (.v 0)) (.mul (.mul (.v 2) (.v 2)) (.v 2))) (by decide +kernel)
theorem ja3(C:CRing K)(s d z:K):(C.mul (C.mul s d) (C.mul (C.mul z z) z))=(C.mul s (C.mul z (C.mul d (C.mul z z)))):=ring4 C (lets s d z C.zero) (.mul (.mul (.v 0) (.v 1)) (.mul (.mul (.v 2) (.v 2)) (.v 2))) (.mul (.v 0) (.mul (.v 2) (.mul (.v 1) (.mul (.v 2) (.v 2))))) (by decide +kernel)
theorem ja4(C:CRing K)(x a z:K):(C.mul (C.mul x (C.mul z z)) (C.mul a a))=(C.mul x (C.mul (C.mul z a) (C.mul z a))):=ring4 C (lets x a z C.zero) (.mul (.mul (.v 0) (.mul (.v 2) (.v 2))) (.mul (.v 1) (.v 1))) (.mul (.v 0) (.mul (.mul (.v 2) (.v 1)) (.mul (.v 2) (.v 1)))) (by decide +kernel)
theorem ja5(C:CRing K)(x a z:K):(C.mul (C.mul x (C.mul (C.mul z z) z)) (C.mul (C.mul a a) a))=(C.mul x (C.mul (C.mul (C.mul z a) (C.mul z a)) (C.mul z a))):=ring4 C (lets x a z C.zero) (.mul (.mul (.v 0) (.mul (.mul (.v 2) (.v 2)) (.v 2))) (.mul (.mul (.v 1) (.v 1)) (.v 1))) (.mul (.v 0) (.mul (.mul (.mul (.v 2) (.v 1)) (.mul (.v 2) (.v 1))) (.mul (.v 2) (.v 1)))) (by decide +kernel)
theorem ja6(C:CRing K)(d z:K):(C.mul (C.mul (C.mul d (C.mul z z)) (C.mul d (C.mul z z))) (C.mul d (C.mul z z)))=(C.mul d (C.mul (C.mul z (C.mul d (C.mul z z))) (C.mul z (C.mul d (C.mul z z))))):=ring4 C (lets d z C.zero C.zero) (.mul (.mul (.mul (.v 0) (.mul (.v 1) (.v 1))) (.mul (.v 0) (.mul (.v 1) (.v 1)))) (.mul (.v 0) (.mul (.v 1) (.v 1)))) (.mul (.v 0) (.mul (.mul (.v 1) (.mul (.v 0) (.mul (.v 1) (.v 1)))) (.mul (.v 1) (.mul (.v 0) (.mul (.v 1) (.v 1)))))) (by decide +kernel)
theorem ja7(C:CRing K)(S x1 x2 D:K):(C.sub (C.sub (C.mul S D) (C.mul (C.sub x2 x1) D)) (C.add (C.mul x1 D) (C.mul x1 D)))=(C.mul (C.sub (C.sub S x1) x2) D):=ring4 C (lets S x1 x2 D) (.sub (.sub (.mul (.v 0) (.v 3)) (.mul (.sub (.v 2) (.v 1)) (.v 3))) (.add (.mul (.v 1) (.v 3)) (.mul (.v 1) (.v 3)))) (.mul (.sub (.sub (.v 0) (.v 1)) (.v 2)) (.v 3)) (by decide +kernel)
theorem jsq(C:CRing K)(s D:K):(C.mul (C.mul s D) (C.mul s D))=(C.mul (C.mul s s) (C.mul D D)):=ring4 C (lets s D C.zero C.zero) (.mul (.mul (.v 0) (.v 1)) (.mul (.v 0) (.v 1))) (.mul (.mul (.v 0) (.v 0)) (.mul (.v 1) (.v 1))) (by decide +kernel)
theorem jp1(C:CRing K)(x z i:K):(C.mul (C.mul x (C.mul z z)) (C.mul i i))=(C.mul x (C.mul (C.mul z i) (C.mul z i))):=ring4 C (lets x z i C.zero) (.mul (.mul (.v 0) (.mul (.v 1) (.v 1))) (.mul (.v 2) (.v 2))) (.mul (.v 0) (.mul (.mul (.v 1) (.v 2)) (.mul (.v 1) (.v 2)))) (by decide +kernel)
theorem jp2(C:CRing K)(x z i:K):(C.mul (C.mul x (C.mul (C.mul z z) z)) (C.mul (C.mul i i) i))=(C.mul x (C.mul (C.mul (C.mul z i) (C.mul z i)) (C.mul z i))):=ring4 C (lets x z i C.zero) (.mul (.mul (.v 0) (.mul (.mul (.v 1) (.v 1)) (.v 1))) (.mul (.mul (.v 2) (.v 2)) (.v 2))) (.mul (.v 0) (.mul (.mul (.mul (.v 1) (.v 2)) (.mul (.v 1) (.v 2))) (.mul (.v 1) (.v 2)))) (by decide +kernel)
theorem jac_dbl[DecidableEq K](h:Curve F b){T:K × K × K}{x y:K}(hp:(Pt.some x y).On F b)(hT:Jac F T (.some x y)):Jac F (jdbl F.toCRing T) (psum F (.some x y) (.some x y)):=by
 have hy:=y_ne h.root hp;obtain⟨X,Y,z⟩:=T;obtain⟨hz,hX,hY⟩:=hT;dsimp only at hz hX hY;have hy2:=h.two y hy;have hs:=F.div_mul (F.add (F.mul x x) (F.add (F.mul x x) (F.mul x x))) hy2;have ep:psum F (.some x y) (.some x y)=lineTo F x y x (F.mul (F.add (F.mul x x) (F.add (F.mul x x) (F.mul x x))) (F.inv (F.add y y))):=by
  show(if x=x then (if y≠y\/y=F.zero then _ else _)else _)=_;rw[if_pos rfl,if_neg (by rintro(e | e);exact e rfl;exact hy e)]
 rw[ep];generalize F.mul (F.add (F.mul x x) (F.add (F.mul x x) (F.mul x x))) (F.inv (F.add y y))=s at hs |-
 have hzz:=F.mul_ne hz hz;have hY0:Y≠F.zero:=by rw[hY];exact F.mul_ne hy (F.mul_ne hzz hz)
 -- the parts
 have e1:F.add (F.add (F.mul X X) (F.mul X X)) (F.mul X X)=F.mul s (F.mul (F.add Y Y) z):=by
  rw[hX,hY,jd1,<- hs,jd2]
 have e2:F.mul X (F.add (F.mul Y (F.add Y Y)) (F.mul Y (F.add Y Y)))=F.mul x (F.mul (F.mul (F.add Y Y) z) (F.mul (F.add Y Y) z)):=by
  rw[hX,hY,jd3]
 have e3:F.mul (F.mul Y (F.add Y Y)) (F.add (F.mul Y (F.add Y Y)) (F.mul Y (F.add Y Y)))=F.mul y (F.mul (F.mul (F.mul (F.add Y Y) z) (F.mul (F.add Y Y) z)) (F.mul (F.add Y Y) z)):=by
  rw[jd4a];generalize F.add Y Y=r;rw[hY,jd4b]
 have hZ:F.mul (F.add Y Y) z≠F.zero:=F.mul_ne (h.two Y hY0) hz;refine⟨hZ,?_,?_⟩
 ·show F.sub (F.mul (F.add (F.add (F.mul X X) (F.mul X X)) (F.mul X X)) (F.add (F.add (F.mul X X) (F.mul X X)) (F.mul X X))) (F.add (F.mul X (F.add (F.mul Y (F.add Y Y)) (F.mul Y (F.add Y Y)))) (F.mul X (F.add (F.mul Y (F.add Y Y)) (F.mul Y (F.add Y Y)))))=F.mul _ (F.mul (F.mul (F.add Y Y) z) (F.mul (F.add Y Y) z))
  rw[e1,e2,jsq F.toCRing s,j2x]
 ·show F.sub (F.mul (F.add (F.add (F.mul X X) (F.mul X X)) (F.mul X X)) (F.sub (F.mul X (F.add (F.mul Y (F.add Y Y)) (F.mul Y (F.add Y Y)))) (F.sub (F.mul (F.add (F.add (F.mul X X) (F.mul X X)) (F.mul X X)) (F.add (F.add (F.mul X X) (F.mul X X)) (F.mul X X))) (F.add (F.mul X (F.add (F.mul Y (F.add Y Y)) (F.mul Y (F.add Y Y)))) (F.mul X (F.add (F.mul Y (F.add Y Y)) (F.mul Y (F.add Y Y)))))))) (F.mul (F.mul Y (F.add Y Y)) (F.add (F.mul Y (F.add Y Y)) (F.mul Y (F.add Y Y))))=F.mul _ (F.mul (F.mul (F.mul (F.add Y Y) z) (F.mul (F.add Y Y) z)) (F.mul (F.add Y Y) z))
  rw[e1,e2,e3,jsq F.toCRing s,j2x,r5,r4]
theorem jac_twice[DecidableEq K](h:Curve F b){T:K × K × K}{p:Pt K}(hp:p.On F b)(hT:Jac F T p):Jac F (jtwice F T) (psum F p p):=by
 cases p with
 | none =>
  have e:T.2.2=F.zero:=hT;show Jac F (if T.2.2=F.zero then T else _) .none;rw[if_pos e];exact e
 | some x y =>
  have e:T.2.2≠F.zero:=hT.1;have g:=jac_dbl h hp hT;show Jac F (if T.2.2=F.zero then T else _) _;rw[if_neg e];exact g
theorem jac_plus[DecidableEq K](h:Curve F b){T:K × K × K}{p q:Pt K}(hp:p.On F b)(hT:Jac F T p):Jac F (jplus F T q) (psum F p q):=by
 cases q with
 | none=>rw[psum_none_r];exact hT
 | some x2 y2 =>
  cases p with
  | none =>
   have e:T.2.2=F.zero:=hT;show Jac F (if T.2.2=F.zero then _ else _) (.some x2 y2);rw[if_pos e];refine⟨F.one_ne,?_,?_⟩
   ·show x2=F.mul x2 (F.mul F.one F.one)
    rw[F.mul_one,F.mul_one]
   ·show y2=F.mul y2 (F.mul (F.mul F.one F.one) F.one)
    rw[F.mul_one,F.mul_one,F.mul_one]
  | some x y =>
   have hT':=hT;obtain⟨X,Y,z⟩:=T;obtain⟨hz,hX,hY⟩:=hT;dsimp only at hz hX hY;have hzz:=F.mul_ne hz hz;have ha:jacross F.toCRing (X,Y,z) x2=F.mul (F.sub x2 x) (F.mul z z):=by
    show F.sub (F.mul x2 (F.mul z z)) X=_;rw[hX,ja1]
   have hu:jup F.toCRing (X,Y,z) y2=F.mul (F.sub y2 y) (F.mul (F.mul z z) z):=by
    show F.sub (F.mul y2 (F.mul (F.mul z z) z)) Y=_;rw[hY,ja2]
   have sub_self:∀ a:K,F.sub a a=F.zero:=fun a=>F.add_neg a;show Jac F (if z=F.zero then _ else if jacross F.toCRing (X,Y,z) x2=F.zero/\jup F.toCRing (X,Y,z) y2=F.zero then _ else _) (if x=x2 then _ else _);rw[if_neg hz];by_cases ex:x=x2
   ·subst ex
    by_cases ey:y=y2
    ·subst ey
     rw[if_pos ⟨by rw[ha,sub_self,F.zero_mul],by rw[hu,sub_self,F.zero_mul]⟩];exact jac_twice h hp hT'
    ·rw[if_neg (show ¬(jacross F.toCRing (X,Y,z) x=F.zero/\jup F.toCRing (X,Y,z) y2=F.zero) from fun e=>ey (F.eq_of_sub (F.left_zero (F.mul_ne hzz hz) (hu.symm.trans e.2))).symm),if_pos rfl,if_pos (show y≠y2\/y=F.zero from .inl ey)]
     show F.mul z (jacross F.toCRing (X,Y,z) x)=F.zero;rw[ha,sub_self,F.zero_mul,F.mul_comm,F.zero_mul]
   ·have hd:=ne_sub F.toCRing ex
    rw[if_neg ex,if_neg fun e=>ex (F.eq_of_sub (F.left_zero hzz (ha.symm.trans e.1))).symm];have hs:=F.div_mul (F.sub y2 y) hd;generalize F.mul (F.sub y2 y) (F.inv (F.sub x2 x))=s at hs |-
    have hA:jacross F.toCRing (X,Y,z) x2≠F.zero:=by rw[ha];exact F.mul_ne hd hzz
    have e1:jup F.toCRing (X,Y,z) y2=F.mul s (F.mul z (jacross F.toCRing (X,Y,z) x2)):=by
     rw[hu,ha,<- hs,ja3]
    have e4:F.mul (F.mul (jacross F.toCRing (X,Y,z) x2) (jacross F.toCRing (X,Y,z) x2)) (jacross F.toCRing (X,Y,z) x2)=F.mul (F.sub x2 x) (F.mul (F.mul z (jacross F.toCRing (X,Y,z) x2)) (F.mul z (jacross F.toCRing (X,Y,z) x2))):=by
     rw[ha,ja6]
    have e2:F.mul X (F.mul (jacross F.toCRing (X,Y,z) x2) (jacross F.toCRing (X,Y,z) x2))=F.mul x (F.mul (F.mul z (jacross F.toCRing (X,Y,z) x2)) (F.mul z (jacross F.toCRing (X,Y,z) x2))):=by
     generalize jacross F.toCRing (X,Y,z) x2=a;rw[hX,ja4]
    have e3:F.mul Y (F.mul (F.mul (jacross F.toCRing (X,Y,z) x2) (jacross F.toCRing (X,Y,z) x2)) (jacross F.toCRing (X,Y,z) x2))=F.mul y (F.mul (F.mul (F.mul z (jacross F.toCRing (X,Y,z) x2)) (F.mul z (jacross F.toCRing (X,Y,z) x2))) (F.mul z (jacross F.toCRing (X,Y,z) x2))):=by
     generalize jacross F.toCRing (X,Y,z) x2=a;rw[hY,ja5]
    have hx:F.sub (F.sub (F.mul (jup F.toCRing (X,Y,z) y2) (jup F.toCRing (X,Y,z) y2)) (F.mul (F.mul (jacross F.toCRing (X,Y,z) x2) (jacross F.toCRing (X,Y,z) x2)) (jacross F.toCRing (X,Y,z) x2))) (F.add (F.mul X (F.mul (jacross F.toCRing (X,Y,z) x2) (jacross F.toCRing (X,Y,z) x2))) (F.mul X (F.mul (jacross F.toCRing (X,Y,z) x2) (jacross F.toCRing (X,Y,z) x2))))=F.mul (F.sub (F.sub (F.mul s s) x) x2) (F.mul (F.mul z (jacross F.toCRing (X,Y,z) x2)) (F.mul z (jacross F.toCRing (X,Y,z) x2))):=by
     rw[e1,e2,e4,jsq F.toCRing s,ja7]
    refine⟨F.mul_ne hz hA,hx,?_⟩;show F.sub (F.mul (jup F.toCRing (X,Y,z) y2) (F.sub (F.mul X (F.mul (jacross F.toCRing (X,Y,z) x2) (jacross F.toCRing (X,Y,z) x2))) (F.sub (F.sub (F.mul (jup F.toCRing (X,Y,z) y2) (jup F.toCRing (X,Y,z) y2)) (F.mul (F.mul (jacross F.toCRing (X,Y,z) x2) (jacross F.toCRing (X,Y,z) x2)) (jacross F.toCRing (X,Y,z) x2))) (F.add (F.mul X (F.mul (jacross F.toCRing (X,Y,z) x2) (jacross F.toCRing (X,Y,z) x2))) (F.mul X (F.mul (jacross F.toCRing (X,Y,z) x2) (jacross F.toCRing (X,Y,z) x2))))))) (F.mul Y (F.mul (F.mul (jacross F.toCRing (X,Y,z) x2) (jacross F.toCRing (X,Y,z) x2)) (jacross F.toCRing (X,Y,z) x2)))=F.mul _ (F.mul (F.mul (F.mul z (jacross F.toCRing (X,Y,z) x2)) (F.mul z (jacross F.toCRing (X,Y,z) x2))) (F.mul z (jacross F.toCRing (X,Y,z) x2)));rw[hx,e1,e2,e3,r5,r4]
theorem jac_point{T:K × K × K}{p:Pt K}{i:K}(hT:Jac F T p)(hi:F.mul T.2.2 i=F.one):p=.some (F.mul T.1 (F.mul i i)) (F.mul T.2.1 (F.mul (F.mul i i) i)):=by
 obtain⟨X,Y,z⟩:=T;dsimp only at hi |-
 cases p with
 | none =>
  have e:z=F.zero:=hT;rw[e,F.zero_mul]at hi;exact absurd hi.symm F.one_ne
 | some x y =>
  obtain⟨hz,hX,hY⟩:=hT;dsimp only at hz hX hY;rw[hX,hY,jp1,jp2,hi,F.mul_one,F.mul_one,F.mul_one,F.mul_one]
end
end Go.Proofs.Ytphafjbajlcbnaa
