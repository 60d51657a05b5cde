/- The tower's values by letters: its types, its arrays, the field's own calls, methods of a tower, shapes of values. (Cut to what is reached, written closely: FInvN · EcFp · TwP · TwS.) -/
import Derived.Test.YthnckclbeecnmaaGreatF25
import Derived.Test.YthnckclbeecnmaaGreatF22
import Derived.Test.YthnckclbeecnmaaGreatF21
import Derived.Test.YthnckclbeecnmaaGreatF15
set_option linter.all false
set_option maxRecDepth 100000
set_option maxHeartbeats 8000000
namespace Go.Proofs.YthnckclbeecnmaaGreat
def invN(p n:Nat):Nat:=n^(p - 2)%p
theorem invN_lt{p:Nat}(hp:Pr p)(n:Nat):invN p n<p:=Nat.mod_lt _ (by have:=hp.1;omega)
theorem invN_ok{p n:Nat}(hp:Pr p)(h:¬p∣n):n*invN p n%p=1:=by
 unfold invN;have h2:=hp.1;rw[Nat.mul_mod,Nat.mod_mod,<- Nat.mul_mod,<- Nat.pow_succ',show(p - 2).succ=p - 1 by omega];exact fermat1 hp n h
abbrev Zp(p:Nat):={ a:Nat // a<p }
theorem zp_ext{p:Nat}{a b:Zp p}(h:a.1=b.1):a=b:=Subtype.ext h
section
variable {p:Nat} (hp:Pr p)
theorem Pr.pos{p:Nat}(hp:Pr p):0<p:=by have:=hp.1;omega
def zpField:CField (Zp p) where
 add a b:=⟨(a.1+b.1)%p,Nat.mod_lt _ hp.pos⟩
 mul a b:=⟨a.1*b.1%p,Nat.mod_lt _ hp.pos⟩
 neg a:=⟨(p - a.1)%p,Nat.mod_lt _ hp.pos⟩
 zero:=⟨0,hp.pos⟩
 one:=⟨1,hp.1⟩
 inv a:=⟨invN p a.1,invN_lt hp a.1⟩
 add_assoc a b c:=zp_ext (by show((a.1+b.1)%p+c.1)%p=(a.1+(b.1+c.1)%p)%p;rw[Nat.mod_add_mod,Nat.add_mod_mod,Nat.add_assoc])
 add_comm a b:=zp_ext (by show(a.1+b.1)%p=(b.1+a.1)%p;rw[Nat.add_comm])
 add_zero a:=zp_ext (by show(a.1+0)%p=a.1;rw[Nat.add_zero,Nat.mod_eq_of_lt a.2])
 add_neg a:=zp_ext (by show(a.1+(p - a.1)%p)%p=0;have:=a.2;rw[Nat.add_mod_mod,show a.1+(p - a.1)=p by omega,Nat.mod_self])
 mul_assoc a b c:=zp_ext (by show(a.1*b.1%p)*c.1%p=a.1*(b.1*c.1%p)%p;rw[Nat.mod_mul_mod,Nat.mul_mod_mod,Nat.mul_assoc])
 mul_comm a b:=zp_ext (by show a.1*b.1%p=b.1*a.1%p;rw[Nat.mul_comm])
 mul_one a:=zp_ext (by show a.1*1%p=a.1;rw[Nat.mul_one,Nat.mod_eq_of_lt a.2])
 mul_add a b c:=zp_ext (by show a.1*((b.1+c.1)%p)%p=(a.1*b.1%p+a.1*c.1%p)%p;rw[Nat.mul_mod_mod,Nat.mul_add,Nat.mod_add_mod,Nat.add_mod_mod])
 mul_inv a ha:=zp_ext (by
  show a.1*invN p a.1%p=1;refine invN_ok hp fun hd=>ha (zp_ext ?_);show a.1=0;exact Nat.eq_zero_of_dvd_of_lt hd a.2)
 one_ne h:=by
  have:=congrArg Subtype.val h;exact absurd this (by show ¬(1=0);omega)
end
abbrev N2:=Nat × Nat
abbrev N6:=N2 × N2 × N2
abbrev N12:=N6 × N6
namespace CRing
variable {K:Type} (C:CRing K)
theorem mul_m1(a:K):C.mul (C.neg C.one) a=C.neg a:=by rw[C.neg_mul,C.one_mul]
end CRing
section
variable {m:Nat} (hp:Pr m)
def ph(n:Nat):Zp m:=⟨n%m,Nat.mod_lt _ hp.pos⟩
theorem ph_v(z:Zp m):ph hp z.1=z:=zp_ext (Nat.mod_eq_of_lt z.2)
def K1:CRing (Zp m):=(zpField hp).toCRing
def K2:CRing (Zp m × Zp m):=(K1 hp).ext2 ((K1 hp).neg (K1 hp).one)
def xi:Zp m × Zp m:=(ph hp 9,(K1 hp).one)
def K6:CRing ((Zp m × Zp m) × (Zp m × Zp m) × (Zp m × Zp m)):=(K2 hp).ext3 (xi hp)
def vv:(Zp m × Zp m) × (Zp m × Zp m) × (Zp m × Zp m):=((K2 hp).zero,(K2 hp).one,(K2 hp).zero)
def K12:CRing (((Zp m × Zp m) × (Zp m × Zp m) × (Zp m × Zp m)) × ((Zp m × Zp m) × (Zp m × Zp m) × (Zp m × Zp m))):=(K6 hp).ext2 (vv hp)
theorem ph_add(a b:Nat):(a+b)%m=((K1 hp).add (ph hp a) (ph hp b)).1:=Nat.add_mod a b m
theorem ph_mul(a b:Nat):a*b%m=((K1 hp).mul (ph hp a) (ph hp b)).1:=Nat.mul_mod a b m
theorem ph_sub(a b:Nat):(a%m+(m - b%m))%m=((K1 hp).sub (ph hp a) (ph hp b)).1:=by
 show _=(a%m+(m - b%m)%m)%m;rw[Nat.add_mod_mod]
theorem ph_neg(a:Nat):(0%m+(m - a%m))%m=((K1 hp).neg (ph hp a)).1:=by
 show _=(m - a%m)%m;rw[Nat.zero_mod,Nat.zero_add]
def ph2(a:N2):Zp m × Zp m:=(ph hp a.1,ph hp a.2)
def ph6(a:N6):(Zp m × Zp m) × (Zp m × Zp m) × (Zp m × Zp m):=(ph2 hp a.1,ph2 hp a.2.1,ph2 hp a.2.2)
def ph12(a:N12):((Zp m × Zp m) × (Zp m × Zp m) × (Zp m × Zp m)) × ((Zp m × Zp m) × (Zp m × Zp m) × (Zp m × Zp m)):=(ph6 hp a.1,ph6 hp a.2)
end
def v2{m:Nat}(z:Zp m × Zp m):N2:=(z.1.1,z.2.1)
def v6{m:Nat}(z:(Zp m × Zp m) × (Zp m × Zp m) × (Zp m × Zp m)):N6:=(v2 z.1,v2 z.2.1,v2 z.2.2)
def v12{m:Nat}(z:((Zp m × Zp m) × (Zp m × Zp m) × (Zp m × Zp m)) × ((Zp m × Zp m) × (Zp m × Zp m) × (Zp m × Zp m))):N12:=(v6 z.1,v6 z.2)
section
variable {m:Nat} (hp:Pr m)
theorem ph2_v(z:Zp m × Zp m):ph2 hp (v2 z)=z:=Prod.ext (ph_v hp _) (ph_v hp _)
theorem ph6_v(z:(Zp m × Zp m) × (Zp m × Zp m) × (Zp m × Zp m)):ph6 hp (v6 z)=z:=Prod.ext (ph2_v hp _) (Prod.ext (ph2_v hp _) (ph2_v hp _))
theorem ph12_v(z:((Zp m × Zp m) × (Zp m × Zp m) × (Zp m × Zp m)) × ((Zp m × Zp m) × (Zp m × Zp m) × (Zp m × Zp m))):ph12 hp (v12 z)=z:=Prod.ext (ph6_v hp _) (ph6_v hp _)
/-! Two numbers. -/
def a2(a b:N2):N2:=v2 ((K2 hp).add (ph2 hp a) (ph2 hp b))
def s2(a b:N2):N2:=v2 ((K2 hp).sub (ph2 hp a) (ph2 hp b))
def m2(a b:N2):N2:=v2 ((K2 hp).mul (ph2 hp a) (ph2 hp b))
def l2(a:N2):N2:=v2 ((K2 hp).mul (xi hp) (ph2 hp a))
theorem a2_eq(a b:N2):((a.1+b.1)%m,(a.2+b.2)%m)=a2 hp a b:=Prod.ext (ph_add hp _ _) (ph_add hp _ _)
theorem s2_eq(a b:N2):((a.1%m+(m - b.1%m))%m,(a.2%m+(m - b.2%m))%m)=s2 hp a b:=Prod.ext (ph_sub hp _ _) (ph_sub hp _ _)
theorem m2_eq(a b:N2):((a.1*b.1%m%m+(m - a.2*b.2%m%m))%m,(a.1*b.2%m+a.2*b.1%m)%m)=m2 hp a b:=by
 refine Prod.ext ?_ ?_
 ·show(a.1*b.1%m%m+(m - a.2*b.2%m%m))%m=((K1 hp).add ((K1 hp).mul (ph hp a.1) (ph hp b.1)) ((K1 hp).mul ((K1 hp).neg (K1 hp).one) ((K1 hp).mul (ph hp a.2) (ph hp b.2)))).1
  rw[ph_sub hp,ph_mul hp,ph_mul hp,ph_v,ph_v,CRing.mul_m1];rfl
 ·show(a.1*b.2%m+a.2*b.1%m)%m=((K1 hp).add ((K1 hp).mul (ph hp a.1) (ph hp b.2)) ((K1 hp).mul (ph hp a.2) (ph hp b.1))).1
  rw[ph_add hp,ph_mul hp,ph_mul hp,ph_v,ph_v]
theorem l2_eq(a:N2):((a.1*9%m%m+(m - a.2%m))%m,(a.2*9%m+a.1)%m)=l2 hp a:=by
 refine Prod.ext ?_ ?_
 ·show(a.1*9%m%m+(m - a.2%m))%m=((K1 hp).add ((K1 hp).mul (ph hp 9) (ph hp a.1)) ((K1 hp).mul ((K1 hp).neg (K1 hp).one) ((K1 hp).mul (K1 hp).one (ph hp a.2)))).1
  rw[ph_sub hp,ph_mul hp,ph_v,CRing.mul_m1,CRing.one_mul,CRing.mul_comm];rfl
 ·show(a.2*9%m+a.1)%m=((K1 hp).add ((K1 hp).mul (ph hp 9) (ph hp a.2)) ((K1 hp).mul (K1 hp).one (ph hp a.1))).1
  rw[ph_add hp,ph_mul hp,ph_v,CRing.one_mul,CRing.mul_comm]
/-! Six,by letters of two. -/
section
variable (A S M:N2->N2->N2) (L:N2->N2)
def att3(a:N6):Nat->N2
 | 0=>a.1
 | 1=>a.2.1
 | _=>a.2.2
def o3(a b:N6):N6:=(M a.1 b.1,M a.2.1 b.2.1,M a.2.2 b.2.2)
def crs(a b o:N6)(i j:Nat):N2:=S (M (A (att3 a i) (att3 a j)) (A (att3 b i) (att3 b j))) (A (att3 o i) (att3 o j))
def mh(a b:N6):N6:=(A (M a.1 b.1) (L (crs A S M a b (o3 M a b) 1 2)),A (crs A S M a b (o3 M a b) 0 1) (L (M a.2.2 b.2.2)),A (crs A S M a b (o3 M a b) 0 2) (M a.2.1 b.2.1))
def ah(a b:N6):N6:=(A a.1 b.1,A a.2.1 b.2.1,A a.2.2 b.2.2)
def shh(a:N6):N6:=(L a.2.2,a.1,a.2.1)
end
def a6(a b:N6):N6:=v6 ((K6 hp).add (ph6 hp a) (ph6 hp b))
def s6(a b:N6):N6:=v6 ((K6 hp).sub (ph6 hp a) (ph6 hp b))
def m6(a b:N6):N6:=v6 ((K6 hp).mul (ph6 hp a) (ph6 hp b))
theorem crs_eq(a b:N6)(i j:Nat)(ho:∀ i,att3 (o3 (m2 hp) a b) i=m2 hp (att3 a i) (att3 b i)):ph2 hp (crs (a2 hp) (s2 hp) (m2 hp) a b (o3 (m2 hp) a b) i j)=(K2 hp).add ((K2 hp).mul (ph2 hp (att3 a i)) (ph2 hp (att3 b j))) ((K2 hp).mul (ph2 hp (att3 a j)) (ph2 hp (att3 b i))):=by
 unfold crs;rw[ho,ho];simp only[a2,s2,m2,ph2_v];exact CRing.cross _ _ _ _ _
theorem m6_eq(a b:N6):mh (a2 hp) (s2 hp) (m2 hp) (l2 hp) a b=m6 hp a b:=by
 have ho:∀ i,att3 (o3 (m2 hp) a b) i=m2 hp (att3 a i) (att3 b i):=fun i=>by
  match i with
  | 0=>rfl
  | 1=>rfl
  | _+2=>rfl
 refine Prod.ext ?_ (Prod.ext ?_ ?_)
 ·have E:=crs_eq hp a b 1 2 ho
  show a2 hp (m2 hp a.1 b.1) (l2 hp (crs (a2 hp) (s2 hp) (m2 hp) a b (o3 (m2 hp) a b) 1 2))=v2 _;generalize crs (a2 hp) (s2 hp) (m2 hp) a b (o3 (m2 hp) a b) 1 2=z at E |-
  unfold a2 l2;rw[E];simp only[m2,ph2_v];rfl
 ·have E:=crs_eq hp a b 0 1 ho
  show a2 hp (crs (a2 hp) (s2 hp) (m2 hp) a b (o3 (m2 hp) a b) 0 1) (l2 hp (m2 hp a.2.2 b.2.2))=v2 _;generalize crs (a2 hp) (s2 hp) (m2 hp) a b (o3 (m2 hp) a b) 0 1=z at E |-
  unfold a2 l2;rw[E];simp only[m2,ph2_v];rfl
 ·have E:=crs_eq hp a b 0 2 ho
  show a2 hp (crs (a2 hp) (s2 hp) (m2 hp) a b (o3 (m2 hp) a b) 0 2) (m2 hp a.2.1 b.2.1)=v2 _;generalize crs (a2 hp) (s2 hp) (m2 hp) a b (o3 (m2 hp) a b) 0 2=z at E |-
  unfold a2;rw[E];simp only[m2,ph2_v];rfl
theorem shh_eq(a:N6):ph6 hp (shh (l2 hp) a)=(K6 hp).mul (vv hp) (ph6 hp a):=by
 refine Prod.ext ?_ (Prod.ext ?_ ?_)
 ·show ph2 hp (l2 hp a.2.2)=(K2 hp).add ((K2 hp).mul (K2 hp).zero (ph2 hp a.1)) ((K2 hp).mul (xi hp) ((K2 hp).add ((K2 hp).mul (K2 hp).one (ph2 hp a.2.2)) ((K2 hp).mul (K2 hp).zero (ph2 hp a.2.1))))
  simp only[l2,ph2_v,CRing.zero_mul,CRing.one_mul,CRing.add_zero,CRing.zero_add]
 ·show ph2 hp a.1=(K2 hp).add ((K2 hp).add ((K2 hp).mul (K2 hp).zero (ph2 hp a.2.1)) ((K2 hp).mul (K2 hp).one (ph2 hp a.1))) ((K2 hp).mul (xi hp) ((K2 hp).mul (K2 hp).zero (ph2 hp a.2.2)))
  simp only[CRing.zero_mul,CRing.one_mul,CRing.add_zero,CRing.zero_add,CRing.mul_zero]
 ·show ph2 hp a.2.1=(K2 hp).add ((K2 hp).add ((K2 hp).mul (K2 hp).zero (ph2 hp a.2.2)) ((K2 hp).mul (K2 hp).zero (ph2 hp a.1))) ((K2 hp).mul (K2 hp).one (ph2 hp a.2.1))
  simp only[CRing.zero_mul,CRing.one_mul,CRing.add_zero,CRing.zero_add]
/-! Twelve,by letters of six. -/
section
variable (A S M:N6->N6->N6) (H:N6->N6)
def mt(a b:N12):N12:=(A (M a.1 b.1) (H (M a.2 b.2)),S (M (A a.1 a.2) (A b.1 b.2)) (A (M a.1 b.1) (M a.2 b.2)))
end
def m12(a b:N12):N12:=v12 ((K12 hp).mul (ph12 hp a) (ph12 hp b))
theorem m12_eq(a b:N12):mt (a6 hp) (s6 hp) (m6 hp) (shh (l2 hp)) a b=m12 hp a b:=by
 refine Prod.ext ?_ ?_
 ·show a6 hp (m6 hp a.1 b.1) (shh (l2 hp) (m6 hp a.2 b.2))=v6 _
  unfold a6;rw[shh_eq];simp only[m6,ph6_v];rfl
 ·show s6 hp (m6 hp (a6 hp a.1 a.2) (a6 hp b.1 b.2)) (a6 hp (m6 hp a.1 b.1) (m6 hp a.2 b.2))=v6 _
  simp only[s6,a6,m6,ph6_v];exact congrArg v6 (CRing.cross _ _ _ _ _)
end
end Go.Proofs.YthnckclbeecnmaaGreat
namespace Go.Proofs.YthnckclbeecnmaaGreat.Sy
open Go.RowKit
def sFld(m:Nat):SV:=.ap (.i .u64 (frw m 0:Nat)) (.ap (.i .u64 (frw m 1:Nat)) (.ap (.i .u64 (frw m 2:Nat)) (.ap (.i .u64 (frw m 3:Nat)) (.ap (.i .u64 (frw m 4:Nat)) (.ap (.i .u64 (frw m 5:Nat)) (.ap (.i .u64 (frw m 6:Nat)) (.ap (.i .u64 (frw m 7:Nat)) (.ap (.i .u64 (frw m 8:Nat)) .e))))))))
def isF(ext:Bool)(m:Nat)(M:Rows):SV->Option (List Ob)
 | .p g o _ z=>if o=0/\z=0 then (if ext=true/\g=0 then some []else match rowIn g M with
  | some (c,T)=>if T=102 then some [.eq c (sFld m)]else none
  | none=>none)else none
 | _=>none
structure FOk (ext:Bool) (m:Nat) (γ0:Pl) (w0:World):Prop where
 odd:m%2=1
 big:1<m
 lt:m<2^256
 at_:ext=true->FldAt w0 (γ0 0) m
theorem isF_at{ext:Bool}{m n:Nat}{M:Rows}{x:SV}{p:List Ob}{γ0 γ:Pl}{w0 wx:World}(h:isF ext m M x=some p)(hp:All p)(hf:FOk ext m γ0 w0)(hγ:∀ k,k<1->γ k=γ0 k)(hw:Below w0.heap.size w0 wx)(hL:Lies γ n M wx):∃ F,x.val γ=.pointer (some ⟨F,0,none⟩)/\FldAt wx F m:=by
 cases x <;> first | (cases h;done) | skip
 rename_i g o j z;dsimp only[isF]at h
 split at h
 ·rename_i hz
  obtain⟨rfl,rfl⟩:=hz;refine⟨γ g,by simp[SV.val,SV.sc],?_⟩
  split at h
  ·rename_i he
   rw[he.2,hγ 0 (by decide)];exact(hf.at_ he.1).below hw
  ·split at h
   ·rename_i c T hr
    split at h
    ·rename_i hT
     cases h;have hc:c=sFld m:=hp _ (.head _);have:=(hL _ (rowIn_ok hr)).1;rw[hc,hT]at this;exact⟨this,hf.odd,hf.big,hf.lt⟩
    ·cases h
   ·cases h
 ·cases h
theorem FOk.of{F m:Nat}{w0:World}(h0:FldAt w0 F m):FOk true m (fun _=>F) w0:=⟨h0.odd,h0.big,h0.lt,fun _=>h0⟩
theorem FOk.mod{ext:Bool}{m:Nat}{γ0:Pl}{w0:World}(hf:FOk ext m γ0 w0)(a:Nat):a%m<2^256:=Nat.lt_trans (Nat.mod_lt _ (by have:=hf.big;omega)) hf.lt
def fld2(ext:Bool)(m:Nat)(f:FuncId)(op:Nat->Nat->Nat):Con:=⟨f,fun _ M l=>match l with
 | [x,.w a,.w b]=>(isF ext m M x).map fun p=>(.w (op a b),p,[])
 | _=>none⟩
def fld1(ext:Bool)(m:Nat)(f:FuncId)(op:Nat->SV):Con:=⟨f,fun _ M l=>match l with
 | [x,.w a]=>(isF ext m M x).map fun p=>(op a,p,[])
 | _=>none⟩
theorem val0{γ:Pl}{x:SV}(h:x.lt 0=true):x.val γ=x.val fun _=>0:=(SV.lt_same (γ:=γ) (δ:=fun _=>0) (n:=0) (fun _ hk=>absurd hk (Nat.not_lt_zero _)) h).2.2
theorem fld2_ok{P:Program}{ext:Bool}{m:Nat}{γ0:Pl}{w0:World}{f:FuncId}{op:Nat->Nat->Nat}(hf:FOk ext m γ0 w0)(hc:∀ as_ wx,(callFunc f as_).run P wx=.ok (.enter f as_) wx)(hlt:∀ a b,op a b<2^256)
  (h:∀ F a b,a<2^256->b<2^256->∀ w,FldAt w F m->Calls P f #[.pointer (some ⟨F,0,none⟩),.agg (pw a),.agg (pw b)] w fun e w'=>e=.returned (.agg (pw (op a b)))/\Below w.heap.size w w'):ConOk P 1 γ0 w0 (fld2 ext m f op) :=
 .of hc fun n M l r p R hr hp hok=>by
  unfold fld2 at hr;dsimp only at hr
  split at hr
  ·rename_i x a b
   obtain⟨q,hx,e⟩:=Option.map_eq_some_iff.1 hr;cases e;refine⟨rfl,hlt a b,rfl,fun γ hγ wx hw hL=>?_⟩;obtain⟨F,h1,h2⟩:=isF_at hx hp hf hγ hw hL;show Calls P f #[x.val γ,_,_] wx _;rw[h1];exact h F a b (hok (.w a) (by simp)) (hok (.w b) (by simp)) wx h2
  ·cases hr
theorem fld1_ok{P:Program}{ext:Bool}{m:Nat}{γ0:Pl}{w0:World}{f:FuncId}{op:Nat->SV}(hf:FOk ext m γ0 w0)(hc:∀ as_ wx,(callFunc f as_).run P wx=.ok (.enter f as_) wx)(hlt:∀ a,(op a).ok/\(op a).lt 0=true)
  (h:∀ F a,a<2^256->∀ w,FldAt w F m->Calls P f #[.pointer (some ⟨F,0,none⟩),.agg (pw a)] w fun e w'=>e=.returned ((op a).val fun _=>0)/\Below w.heap.size w w'):ConOk P 1 γ0 w0 (fld1 ext m f op) :=
 .of hc fun n M l r p R hr hp hok=>by
  unfold fld1 at hr;dsimp only at hr
  split at hr
  ·rename_i x a
   obtain⟨q,hx,e⟩:=Option.map_eq_some_iff.1 hr;cases e;refine⟨rfl,(hlt a).1,(hlt a).2,fun γ hγ wx hw hL=>?_⟩;obtain⟨F,h1,h2⟩:=isF_at hx hp hf hγ hw hL;show Calls P f #[x.val γ,_] wx _;rw[h1,val0 (hlt a).2];exact h F a (hok (.w a) (by simp)) wx h2
  ·cases hr
def cMulF(ext:Bool)(m:Nat):Con:=fld2 ext m 63 fun a b=>a*b%m
def cAddF(ext:Bool)(m:Nat):Con:=fld2 ext m 62 fun a b=>(a+b)%m
def cSubF(ext:Bool)(m:Nat):Con:=fld2 ext m 69 fun a b=>(a%m+(m - b%m))%m
def iv(m Z:Nat):Nat:=Z^(m - 2)%m
def cNegF(ext:Bool)(m:Nat):Con:=fld1 ext m 64 fun a=>.w ((0%m+(m - a%m))%m)
def cInvF(ext:Bool)(m:Nat):Con:=fld1 ext m 61 fun a=>.tu (.w (if a*iv m a%m=1 then iv m a else 0)) (.b (eqN (a*iv m a%m) 1))
def cOfF(ext:Bool)(m:Nat):Con:=fld1 ext m 70 fun a=>.w (a%m)
def flds(ext:Bool)(m:Nat):List Con:=[cMulF ext m,cAddF ext m,cSubF ext m,cNegF ext m,cInvF ext m,cOfF ext m]
theorem flds_ok{ext:Bool}{m:Nat}{γ0:Pl}{w0:World}(hf:FOk ext m γ0 w0):conAll Tryz.prog 1 γ0 w0 (flds ext m) :=
 ⟨fld2_ok hf (fun _ _=>by kernel_rfl) (fun _ _=>hf.mod _) fun F a b ha hb w hF=>fmul_any F m a b ha hb w hF,fld2_ok hf (fun _ _=>by kernel_rfl) (fun _ _=>hf.mod _) fun F a b ha hb w hF=>fadd_any F m a b ha hb w hF,fld2_ok hf (fun _ _=>by kernel_rfl) (fun _ _=>hf.mod _) fun F a b ha hb w hF=>fsub_any F m a b ha hb w hF,
  fld1_ok hf (fun _ _=>by kernel_rfl) (fun a=>⟨hf.mod _,rfl⟩) fun F a ha w hF=>fneg_any F m a ha w hF,
  fld1_ok hf (fun _ _=>by kernel_rfl) (fun a=>⟨⟨by
   show(if a*iv m a%m=1 then iv m a else 0)<2^256
   split
   ·exact hf.mod _
   ·decide,trivial⟩,rfl⟩) fun F a ha w hF=>finv_any F m a ha w hF,
  fld1_ok hf (fun _ _=>by kernel_rfl) (fun a=>⟨hf.mod _,rfl⟩) fun F a ha w hF=>fof_any F m a ha w hF,trivial⟩
/-! Two numbers,three of these,six. -/
def F2s(a:N2):SV:=.ap (.w a.1) (.ap (.w a.2) .e)
def H3s(a:N6):SV:=.ap (F2s a.1) (.ap (F2s a.2.1) (.ap (F2s a.2.2) .e))
def L12s(a:N12):SV:=.ap (F2s a.1.1) (.ap (F2s a.2.1) (.ap (F2s a.1.2.1) (.ap (F2s a.2.2.1) (.ap (F2s a.1.2.2) (.ap (F2s a.2.2.2) .e)))))
def z2:N2:=(0,0)
def z6:N6:=(z2,z2,z2)
def z12:N12:=(z6,z6)
/-! Types. -/
theorem w0_ok:(0:Nat)<2^256:=by decide
theorem F2z_ok:(F2s z2).ok:=⟨w0_ok,w0_ok,trivial⟩
theorem H3z_ok:(H3s z6).ok:=⟨F2z_ok,F2z_ok,F2z_ok,trivial⟩
theorem L12z_ok:(L12s z12).ok:=⟨F2z_ok,F2z_ok,F2z_ok,F2z_ok,F2z_ok,F2z_ok,trivial⟩
def tyW:Ty:=⟨24,true,4,.w 0,[]⟩
def ty2:Ty:=⟨26,true,8,F2s z2,[]⟩
def ty6:Ty:=⟨82,true,24,H3s z6,[]⟩
def ty12:Ty:=⟨38,true,48,L12s z12,[]⟩
def tyT:Ty:=⟨60,true,1,.ap (.v (.pointer none)) .e,[(0,1)]⟩
def tyB:Ty:=⟨4,false,1,.v (.bool false),[]⟩
def tyF:Ty:=⟨58,false,1,.v (.pointer none),[]⟩
def tyE:Ty:=⟨47,false,1,.v (.int .i64 0),[]⟩
def tyI:Ty:=⟨3,false,1,.v (.int .i64 0),[]⟩
def tys0:List Ty:=[tyW,ty2,ty6,ty12,tyT,tyB,tyF,tyE,tyI]
def tyAll(P:Program):List Ty->Prop
 | []=>True
 | y::l=>y.Good P/\tyAll P l
theorem tyAll_mem{P:Program}:∀ {l:List Ty},tyAll P l->∀ y∈l,y.Good P
 | [],_,c,h=>by cases h
 | y::l,ha,c,h=>by
  rcases List.mem_cons.1 h with rfl | h
  ·exact ha.1
  ·exact tyAll_mem ha.2 c h
theorem tys0_ok:tyAll Tryz.prog tys0 :=
 ⟨⟨by kernel_rfl,by kernel_rfl,by kernel_rfl,rfl,w0_ok,fun h=>absurd rfl h⟩,⟨by kernel_rfl,by kernel_rfl,by kernel_rfl,rfl,F2z_ok,fun h=>absurd rfl h⟩,⟨by kernel_rfl,by kernel_rfl,by kernel_rfl,rfl,H3z_ok,fun h=>absurd rfl h⟩,⟨by kernel_rfl,by kernel_rfl,by kernel_rfl,rfl,L12z_ok,fun h=>absurd rfl h⟩,
  ⟨by kernel_rfl,by kernel_rfl,by kernel_rfl,rfl,⟨trivial,trivial⟩,fun _=>by kernel_rfl⟩,⟨by kernel_rfl,by kernel_rfl,by kernel_rfl,rfl,trivial,fun h=>absurd rfl h⟩,⟨by kernel_rfl,by kernel_rfl,by kernel_rfl,rfl,trivial,fun h=>absurd rfl h⟩,⟨by kernel_rfl,by kernel_rfl,by kernel_rfl,rfl,trivial,fun h=>absurd rfl h⟩,⟨by kernel_rfl,by kernel_rfl,by kernel_rfl,rfl,trivial,fun h=>absurd rfl h⟩,trivial⟩
theorem tyAll_app{P:Program}:∀ {l r:List Ty},tyAll P l->tyAll P r->tyAll P (l++r)
 | [],_,_,h=>h
 | _::_,_,h,h'=>⟨h.1,tyAll_app h.2 h'⟩
def s11:SV:=.ap (F2s z2) (.ap (F2s z2) (.ap (F2s z2) (.ap (F2s z2) (.ap (F2s z2) (.ap (F2s z2) (.ap (F2s z2) (.ap (F2s z2) (.ap (F2s z2) (.ap (F2s z2) (.ap (F2s z2) .e))))))))))
def s16:SV:=let x:=L12s z12;.ap x (.ap x (.ap x (.ap x (.ap x (.ap x (.ap x (.ap x (.ap x (.ap x (.ap x (.ap x (.ap x (.ap x (.ap x (.ap x .e)))))))))))))))
theorem s11_ok:s11.ok:=⟨F2z_ok,F2z_ok,F2z_ok,F2z_ok,F2z_ok,F2z_ok,F2z_ok,F2z_ok,F2z_ok,F2z_ok,F2z_ok,trivial⟩
theorem s16_ok:s16.ok:=⟨L12z_ok,L12z_ok,L12z_ok,L12z_ok,L12z_ok,L12z_ok,L12z_ok,L12z_ok,L12z_ok,L12z_ok,L12z_ok,L12z_ok,L12z_ok,L12z_ok,L12z_ok,L12z_ok,trivial⟩
def tyR:Ty:=⟨29,true,1,.ap (.v (.pointer none)) .e,[(0,1)]⟩
def tyRF:Ty:=⟨27,false,1,.v (.pointer none),[]⟩
def ty11:Ty:=⟨65,true,88,s11,[]⟩
def ty16:Ty:=⟨91,true,768,s16,[]⟩
def tysM:List Ty:=[tyR,tyRF,ty11,ty16]
theorem tysM_ok:tyAll Tryz.prog tysM:=⟨⟨by kernel_rfl,by kernel_rfl,by kernel_rfl,rfl,⟨trivial,trivial⟩,fun _=>by kernel_rfl⟩,⟨by kernel_rfl,by kernel_rfl,by kernel_rfl,rfl,trivial,fun h=>absurd rfl h⟩,⟨by kernel_rfl,by kernel_rfl,by kernel_rfl,rfl,s11_ok,fun h=>absurd rfl h⟩,⟨by kernel_rfl,by kernel_rfl,by kernel_rfl,by kernel_rfl,s16_ok,fun h=>absurd rfl h⟩,trivial⟩
def arsM:List Ar:=[⟨65,11,26,8,true,s11⟩,⟨91,16,38,48,true,s16⟩]
theorem arsM_ok:∀ q∈arsM,q.Good Tryz.prog:=fun q hq=>by
 simp only[arsM,List.mem_cons,List.not_mem_nil,or_false]at hq;rcases hq with rfl | rfl
 ·exact⟨by kernel_rfl,by kernel_rfl,by kernel_rfl,by kernel_rfl,rfl,s11_ok⟩
 ·exact⟨by kernel_rfl,by kernel_rfl,by kernel_rfl,by kernel_rfl,by kernel_rfl,s16_ok⟩
def tysT:List Ty:=tys0++tysM
theorem tysT_ok:tyAll Tryz.prog tysT:=tyAll_app tys0_ok tysM_ok
def ars0:List Ar:=[⟨26,2,24,4,true,F2s z2⟩,⟨82,3,26,8,true,H3s z6⟩,⟨38,6,26,8,true,L12s z12⟩]
theorem ars0_ok:∀ q∈ars0,q.Good Tryz.prog:=fun q hq=>by
 simp only[ars0,List.mem_cons,List.not_mem_nil,or_false]at hq;rcases hq with rfl | rfl | rfl
 ·exact⟨by kernel_rfl,by kernel_rfl,by kernel_rfl,by kernel_rfl,rfl,F2z_ok⟩
 ·exact⟨by kernel_rfl,by kernel_rfl,by kernel_rfl,by kernel_rfl,rfl,H3z_ok⟩
 ·exact⟨by kernel_rfl,by kernel_rfl,by kernel_rfl,by kernel_rfl,rfl,L12z_ok⟩
def arsT:List Ar:=ars0++arsM
theorem arsT_ok:∀ q∈arsT,q.Good Tryz.prog:=fun q hq=>(List.mem_append.1 hq).elim (ars0_ok q) (arsM_ok q)
/-! Words made of their parts. -/
def limbS:SV->Option Nat
 | .v (.int .u64 (.ofNat a))=>if a<18446744073709551616 then some a else none
 | _=>none
def bldG(T:TypeId)(l:List (Nat × SV)):Option SV:=if T=24 then match l with
 | []=>some (.w 0)
 | [(0,a)]=>(limbS a).map .w
 | [(0,a),(1,b),(2,c),(3,d)]=>match limbS a,limbS b,limbS c,limbS d with
  | some a,some b,some c,some d=>some (.w (n4 a b c d))
  | _,_,_,_=>none
 | _=>none
 else none
theorem limbS_ok{γ:Pl}{x:SV}{a:Nat}(h:limbS x=some a):x.val γ=.int .u64 (a:Nat)/\a<18446744073709551616:=by
 unfold limbS at h
 split at h
 ·split at h
  ·rename_i hk;cases h;exact⟨rfl,hk⟩
  ·cases h
 ·cases h
theorem bldG_ok{T:TypeId}{l:List (Nat × SV)}{r:SV}(h:bldG T l=some r):r.ok/\r.lt 0=true/\r.many=true/\∀ γ,Tryz.prog.built T (l.map fun x=>(x.1,x.2.val γ))=some (r.cells γ).toArray:=by
 unfold bldG at h
 split at h
 ·rename_i e
  subst e
  split at h
  ·cases h
   exact⟨w0_ok,rfl,rfl,fun γ=>by kernel_rfl⟩
  ·obtain⟨k,hk,e⟩:=Option.map_eq_some_iff.1 h
   subst e;have hlt:=(limbS_ok (γ:=fun _=>0) hk).2;refine⟨Nat.lt_trans hlt (by decide),rfl,rfl,fun γ=>?_⟩;rw[show([(0,_)]:List (Nat × SV)).map (fun x=>(x.1,x.2.val γ))=[(0,.int .u64 (k:Nat))] from congrArg (fun v=>[(0,v)]) (limbS_ok hk).1];show Tryz.prog.built 24 [(0,.int .u64 (k:Nat))]=some (pw k).toList.toArray;rw[show pw k=#[.int .u64 (k:Nat),.int .u64 0,.int .u64 0,.int .u64 0] by
    unfold pw;rw[Nat.mod_eq_of_lt hlt,Nat.div_eq_of_lt hlt,Nat.div_eq_of_lt (show k<340282366920938463463374607431768211456 by omega),Nat.div_eq_of_lt (show k<6277101735386680763835789423207666416102355444464034512896 by omega)];rfl]
   kernel_rfl
  ·split at h
   ·rename_i a b c d ka kb kc kd
    cases h;have la:=limbS_ok (γ:=fun _=>0) ka;have lb:=limbS_ok (γ:=fun _=>0) kb;have lc:=limbS_ok (γ:=fun _=>0) kc;have ld:=limbS_ok (γ:=fun _=>0) kd;refine⟨?_,rfl,rfl,fun γ=>?_⟩
    ·show n4 a b c d<2^256
     have e256:(2:Nat)^256=115792089237316195423570985008687907853269984665640564039457584007913129639936:=by decide
     rw[e256];unfold n4;omega
    ·show Tryz.prog.built 24 [(0,_),(1,_),(2,_),(3,_)]=some (pw (n4 a b c d)).toList.toArray
     rw[(limbS_ok ka).1,(limbS_ok kb).1,(limbS_ok kc).1,(limbS_ok kd).1];rw[show pw (n4 a b c d)=#[.int .u64 (a:Nat),.int .u64 (b:Nat),.int .u64 (c:Nat),.int .u64 (d:Nat)] by
      unfold pw n4;rw[show(a+18446744073709551616*b+340282366920938463463374607431768211456*c+6277101735386680763835789423207666416102355444464034512896*d)%18446744073709551616=a by omega];rw[show(a+18446744073709551616*b+340282366920938463463374607431768211456*c+6277101735386680763835789423207666416102355444464034512896*d) / 18446744073709551616%18446744073709551616=b by omega];rw[show(a+18446744073709551616*b+340282366920938463463374607431768211456*c+6277101735386680763835789423207666416102355444464034512896*d) / 340282366920938463463374607431768211456%18446744073709551616=c by omega];rw[show(a+18446744073709551616*b+340282366920938463463374607431768211456*c+6277101735386680763835789423207666416102355444464034512896*d) / 6277101735386680763835789423207666416102355444464034512896%18446744073709551616=d by omega]]
     kernel_rfl
   ·cases h
  ·cases h
 ·cases h
/-! What one kind becomes of another;places in rows that are not known. -/
def kindIn(T:TypeId):List (TypeId × IntKind)->Option IntKind
 | []=>none
 | p::l=>if p.1=T then some p.2 else kindIn T l
theorem kindIn_ok{T:TypeId}{k:IntKind}:∀ {l:List (TypeId × IntKind)},kindIn T l=some k->(T,k)∈l
 | [],h=>by cases h
 | p::l,h=>by
  unfold kindIn at h
  split at h
  ·rename_i e;cases h;subst e;exact .head _
  ·exact .tail _ (kindIn_ok h)
def d2p:SV->Option N2
 | .ap (.w a) (.ap (.w b) .e)=>some (a,b)
 | _=>none
theorem d2p_ok(x:SV)(a:N2)(h:d2p x=some a):x=F2s a:=by
 unfold d2p at h
 split at h
 ·cases h;rfl
 ·cases h
def kindsM:List (TypeId × IntKind):=[(3,.i64),(67,.u64),(22,.u64),(53,.u32)]
theorem kindsM_ok:∀ q∈kindsM,Tryz.prog.underlying q.1=some (.int q.2):=fun q hq=>by
 simp only[kindsM,List.mem_cons,List.not_mem_nil,or_false]at hq;rcases hq with rfl | rfl | rfl | rfl
 ·exact Tryz.underlying3
 ·exact Tryz.underlying67
 ·exact Tryz.underlying22
 ·exact Tryz.underlying53
def s16f(f:Nat->N12):SV:=.ap (L12s (f 0)) (.ap (L12s (f 1)) (.ap (L12s (f 2)) (.ap (L12s (f 3)) (.ap (L12s (f 4)) (.ap (L12s (f 5)) (.ap (L12s (f 6)) (.ap (L12s (f 7)) (.ap (L12s (f 8)) (.ap (L12s (f 9)) (.ap (L12s (f 10)) (.ap (L12s (f 11)) (.ap (L12s (f 12)) (.ap (L12s (f 13)) (.ap (L12s (f 14)) (.ap (L12s (f 15)) .e)))))))))))))))
def d12p:SV->Option N12
 | .ap x0 (.ap x1 (.ap x2 (.ap x3 (.ap x4 (.ap x5 .e)))))=>match d2p x0,d2p x1,d2p x2,d2p x3,d2p x4,d2p x5 with
  | some a0,some a1,some a2,some a3,some a4,some a5=>some ((a0,a2,a4),(a1,a3,a5))
  | _,_,_,_,_,_=>none
 | _=>none
theorem d12p_ok(x:SV)(a:N12)(h:d12p x=some a):x=L12s a:=by
 unfold d12p at h
 split at h
 ·split at h
  ·rename_i h0 h1 h2 h3 h4 h5
   cases h;rw[d2p_ok _ _ h0,d2p_ok _ _ h1,d2p_ok _ _ h2,d2p_ok _ _ h3,d2p_ok _ _ h4,d2p_ok _ _ h5];rfl
  ·cases h
 ·cases h
def lst12:Nat->SV->Option (List N12)
 | 0,.e=>some []
 | k+1,.ap x t=>match d12p x,lst12 k t with
  | some a,some l=>some (a::l)
  | _,_=>none
 | _,_=>none
theorem lst12_at{γ:Pl}:∀ {k:Nat} {x:SV} {l:List N12} {j:Nat},lst12 k x=some l->j<k->∀ i,i<48->(x.cells γ)[j*48+i]?=((L12s (l.getD j z12)).cells γ)[i]?
 | 0,_,_,_,_,hj,_,_=>by omega
 | k+1,x,l,j,h,hj,i,hi=>by
  cases x <;> first | (cases h;done) | skip
  rename_i x t;unfold lst12 at h
  split at h
  ·rename_i a r ha hr
   cases h;have e:=d12p_ok _ _ ha;subst e;have hl:((L12s a).cells γ).length=48:=SV.cells_len γ (L12s a);show((L12s a).cells γ++t.cells γ)[j*48+i]?=_;cases j with
   | zero=>rw[List.getElem?_append_left (by omega),Nat.zero_mul,Nat.zero_add];rfl
   | succ j =>
    rw[List.getElem?_append_right (by omega),hl,show(j+1)*48+i - 48=j*48+i by omega];exact lst12_at hr (by omega) i hi
  ·cases h
theorem lst12_ok:∀ {k:Nat} {x:SV} {l:List N12} {j:Nat},lst12 k x=some l->x.ok->j<k->(L12s (l.getD j z12)).ok
 | 0,_,_,_,_,_,hj=>by omega
 | k+1,x,l,j,h,ho,hj=>by
  cases x <;> first | (cases h;done) | skip
  rename_i x t;unfold lst12 at h
  split at h
  ·rename_i a r ha hr
   cases h;have e:=d12p_ok _ _ ha;subst e;cases j with
   | zero=>exact ho.1
   | succ j =>
    show(L12s (r.getD j z12)).ok;exact lst12_ok hr ho.2 (by omega)
  ·cases h
def rldT(T:TypeId)(x:SV)(o j z:Nat):Option (SV × List Ob):=if T=38/\o=0/\z=48 then (lst12 16 x).map fun l=>(L12s (l.getD j z12),[.ask (j<16)])else none
theorem rldT_ok{T:TypeId}{x:SV}{o j z:Nat}{r:SV}{p:List Ob}{n:Nat}(h:rldT T x o j z=some (r,p))(hp:All p)(hx:x.lt n=true)(ho:x.ok):r.ok/\r.lt n=true/\∀ γ g t wx,wx.heap[g]?=some (.cells (x.cells γ).toArray t (0,0))->(Instr.loadAt T (.pointer (some ⟨g,o+j*z,none⟩))).run Tryz.prog wx=.ok (r.val γ) wx:=by
 unfold rldT at h
 split at h
 ·rename_i hc
  obtain⟨l,hl,e⟩:=Option.map_eq_some_iff.1 h;cases e;obtain⟨rfl,rfl,rfl⟩:=hc;have hj:j<16:=hp _ (.head _);refine⟨lst12_ok hl ho hj,rfl,fun γ g t wx hg=>?_⟩;rw[SV.val_many (x:=L12s (l.getD j z12)) rfl,Nat.zero_add];have hlen:((L12s (l.getD j z12)).cells γ).length=48:=SV.cells_len γ _;refine ld_mid ((L12s (l.getD j z12)).cells γ).toArray hg (fun i hi=>?_) Tryz.underlying38 rfl ?_
  ·have hi':i<48:=by rwa [List.size_toArray,hlen]at hi
   simpa using lst12_at (γ:=γ) hl hj i hi'
  ·rw[List.size_toArray,hlen]
   kernel_rfl
 ·cases h
def ixaM(T:TypeId)(x y:SV):Option (SV × List Ob):=match x,y with
 | .p g 0 _ 0,.i k d=>if T=91 then some (.p g 0 d.toNat 48,[.ask (0<=d/\d<16)])else none
 | .s g o n _,y=>match natS y with
  | some i=>if T=46 then some (.p g o i 1,[.ask (i<n)])else none
  | none=>none
 | _,_=>none
theorem at_arrK{P:Program}{T e:TypeId}{n sz:Nat}{g o:Nat}{k:IntKind}{d:Int}(hu:P.underlying T=some (.array n e))(hs:(P.info? e).map (·.size)=some sz)(h0:0<=d/\d<n)(w:World):(Instr.indexAt T (.pointer (some ⟨g,o,none⟩)) (.int k d)).run P w=.ok (.pointer (some ⟨g,o+d.toNat*sz,none⟩)) w:=by
 cases hq:P.info? e with
 | none=>simp[hq]at hs
 | some it =>
  have h2:it.size=sz:=by simpa[hq]using hs
  have hadd:∀ j,(⟨g,o,none⟩:Addr).add j=⟨g,o+j,none⟩:=fun j=>by unfold Addr.add;split <;> simp_all
  simp[Instr.indexAt,asIntOf,Instr.sureAddr,run_underlying hu,sizeOf,typeInfo,hq,h0,h2,hadd,Result.andThen]
theorem ixaM_ok{T:TypeId}{x y r:SV}{p:List Ob}{n:Nat}(h:ixaM T x y=some (r,p))(hp:All p)(hx:x.lt n=true)(hy:y.ok):r.ok/\r.lt n=true/\∀ γ wx,(Instr.indexAt T (x.val γ) (y.val γ)).run Tryz.prog wx=.ok (r.val γ) wx:=by
 unfold ixaM at h
 split at h
 ·rename_i g j k d
  split at h
  ·rename_i e
   cases h;subst e;have h0:0<=d/\d<16:=hp _ (.head _);refine⟨trivial,hx,fun γ wx=>?_⟩;exact at_arrK (g:=γ g) (o:=0) (k:=k) Tryz.underlying91 (show(Tryz.prog.info? 38).map (·.size)=some 48 by kernel_rfl) h0 wx
  ·cases h
 ·rename_i g o n' c y
  split at h
  ·rename_i i hi
   split at h
   ·rename_i e
    cases h;subst e;refine⟨trivial,hx,fun γ wx=>?_⟩;rw[(natS_ok hi hy).1];exact at_slice Tryz.underlying46 (by kernel_rfl) (hp _ (.head _)) wx
   ·cases h
  ·cases h
 ·cases h
def slcM(T:TypeId)(x:SV)(lo hi:Option SV):Option SV:=if T=91 then (match x,lo,hi with
 | .p g 0 _ 0,some l,none=>if cloS l=some (.i64,1)then some (.s g 48 15 15)else none
 | _,_,_=>none)else none
theorem slcM_ok{T:TypeId}{x:SV}{lo hi:Option SV}{r:SV}{n:Nat}(h:slcM T x lo hi=some r)(hx:x.lt n=true):r.ok/\r.lt n=true/\∀ γ wx,(Instr.sliceAt T (x.val γ) (lo.map (·.val γ)) (hi.map (·.val γ)) none).run Tryz.prog wx=.ok (r.val γ) wx:=by
 unfold slcM at h
 split at h
 ·rename_i e
  subst e
  split at h
  ·rename_i g j hh
   split at h
   ·rename_i hc
    cases h;refine⟨trivial,hx,fun γ wx=>?_⟩;rw[show((some hh:Option SV).map (·.val γ))=some (.int .i64 1) from congrArg some (cloS_ok hc)];show(Instr.sliceAt 91 (.pointer (some ⟨γ g,0+j*0,none⟩)) (some (.int .i64 1)) none none).run Tryz.prog wx=_;rw[Nat.mul_zero];kernel_rfl
   ·cases h
  ·cases h
 ·cases h
def slkM:List TypeId:=[109]
theorem slkM_ok:∀ T∈slkM,∃ e,Tryz.prog.underlying T=some (.slice e):=fun T hT=>by
 simp only[slkM,List.mem_cons,List.not_mem_nil,or_false]at hT;subst hT;exact⟨_,Tryz.underlying109⟩
def cnvT(F T:TypeId)(x:SV):Option SV:=match kindIn F kindsM,kindIn T kindsM,intS x with
 | some _,some k,some q=>some (.i k (k.wrap q.2))
 | _,_,_=>none
theorem cnvT_ok{F T:TypeId}{x r:SV}{n:Nat}(h:cnvT F T x=some r):r.ok/\r.lt n=true/\∀ γ wx,(convert F T (x.val γ)).run Tryz.prog wx=.ok (r.val γ) wx:=by
 unfold cnvT at h
 split at h
 ·rename_i k' k q hF hT hx
  obtain⟨kx,nx⟩:=q;cases h;refine⟨trivial,rfl,fun γ wx=>?_⟩;have uF:=kindsM_ok _ (kindIn_ok hF);have uT:=kindsM_ok _ (kindIn_ok hT);rw[intS_ok hx];unfold convert;simp only[Sem.run_bind,run_underlying uF,run_underlying uT,Result.andThen_ok];rfl
 ·cases h
def ixaT(T:TypeId)(x y:SV):Option (SV × List Ob):=match ixaA arsT T x y with
 | some r=>some r
 | none=>ixaM T x y
def bldT(T:TypeId)(l:List (Nat × SV)):Option SV:=match bldG T l with
 | some r=>some r
 | none=>bldA arsT T l
def xlR(R0:Rows)(T:TypeId)(g o j z:Nat):Option (SV × List Ob):=match rowIn g R0,tyIn T tysT with
 | some r,some y=>if z=0 then (SV.sub y.m o y.sz r.1).map (·,[])else none
 | _,_=>none
structure RowsOk (R0:Rows) (base:Nat) (γ0:Pl) (w0:World):Prop where
 at_:∀ q∈R0,w0.heap[γ0 q.1]?=some (.cells (q.2.1.cells γ0).toArray q.2.2 (0,0))/\q.2.1.ok/\q.2.1.lt base=true/\q.1<base
theorem xlR_ok{R0:Rows}{base:Nat}{γ0:Pl}{w0:World}(h0:RowsOk R0 base γ0 w0):∀ T g o j z r p,xlR R0 T g o j z=some (r,p)->All p->r.ok/\r.lt base=true/\g<base/\∀ γ,(∀ k,k<base->γ k=γ0 k)->∀ wx,Below w0.heap.size w0 wx->(Instr.loadAt T (.pointer (some ⟨γ g,o+j*z,none⟩))).run Tryz.prog wx=.ok (r.val γ) wx:=fun T g o j z r p h hp=>by
 unfold xlR at h
 split at h
 ·rename_i q y hq hy
  split at h
  ·rename_i hz
   obtain⟨r',hr,e⟩:=Option.map_eq_some_iff.1 h;cases e;subst hz;have hm:=h0.at_ _ (rowIn_ok hq);obtain⟨hy',rfl⟩:=tyIn_ok hy;have gy:=tyAll_mem tysT_ok y hy';have s:=SV.sub_ok (fun _=>0) hr;refine⟨s.ok hm.2.1,s.lt _ hm.2.2.1,hm.2.2.2,fun γ hγ wx hw=>?_⟩;have hlt:=(Array.getElem?_eq_some_iff.1 hm.1).1;have hg:=(hw.block _ hlt).trans hm.1;rw[<- (SV.lt_same (γ:=γ) (δ:=γ0) (n:=base) hγ hm.2.2.1).2.1,<- hγ g hm.2.2.2]at hg;rw[Nat.mul_zero,Nat.add_zero];exact load_ok hg gy.d gy.sz hr
  ·cases h
 ·cases h
noncomputable def ET (base:Nat) (more:List Con) (R0:Rows):Env:=⟨Tryz.prog,tysT,base,fun f n M l=>conIn f more n M l,bopG,bldT,xlR R0,ixaT,[],[],slcM,idxA arsT,cnvT,rldT,slkM,fun _ _ _ _=>none⟩
theorem ET_ok{base:Nat}{w0:World}{more:List Con}{γ0:Pl}{R0:Rows}(hm:conAll Tryz.prog base γ0 w0 more)(h0:RowsOk R0 base γ0 w0):(ET base more R0).Good γ0 w0:=by
 refine⟨tyAll_mem tysT_ok,fun f n M l r p R h hp hn hok hM=>?_,fun op T x y r p h hp hx hy=>bopG_ok h hp hx hy,fun T l r h ho=>?_,xlR_ok h0,fun T x y r p n h hp hx _ hy=>?_,fun _ h=>(by cases h),fun _ h=>(by cases h),fun T x lo hi r n h hx=>slcM_ok h hx,fun T x y r n h hx ho hy=>idxA_ok arsT_ok h hx ho hy,fun _ _ _ _ _ h _ _=>cnvT_ok h,fun _ _ _ _ _ _ _ _ h hp hx ho=>rldT_ok h hp hx ho,slkM_ok,fun _ _ _ _ _ _ _ h=>(by cases h)⟩
 ·obtain⟨c,h1,rfl,h3⟩:=conIn_ok (conAll_mem hm) h
  have:=h1.all n M l r p R h3 hp hn hok hM;exact⟨this.1,this.2.1,this.2.2.1,h1.call,this.2.2.2⟩
 ·replace h:bldT T l=some r:=h
  unfold bldT at h
  split at h
  ·rename_i hb
   cases h;exact bldG_ok hb
  ·exact bldA_ok arsT_ok h ho
 ·replace h:ixaT T x y=some (r,p):=h
  unfold ixaT at h
  split at h
  ·rename_i hb
   cases h;exact ixaA_ok arsT_ok hb hx hy
  ·exact ixaM_ok h hp hx hy
theorem noRows{base:Nat}{γ0:Pl}{w0:World}:RowsOk [] base γ0 w0:=⟨fun _ h=>by cases h⟩
noncomputable def E1 (more:List Con):Env:=ET 1 more []
theorem E1_ok{w0:World}{more:List Con}{γ0:Pl}(hm:conAll Tryz.prog 1 γ0 w0 more):(E1 more).Good γ0 w0:=ET_ok hm noRows
def sG:SV:=.ap (.p 0 0 0 0) .e
def conV(f:FuncId)(g:List SV->Option (SV × List Ob)):Con:=⟨f,fun _ _ l=>(g l).map fun q=>(q.1,q.2,[])⟩
theorem conV_ok{P:Program}{base:Nat}{γ0:Pl}{w0:World}{f:FuncId}{g:List SV->Option (SV × List Ob)}(hc:∀ as_ wx,(callFunc f as_).run P wx=.ok (.enter f as_) wx)
  (h:∀ us r q,g us=some (r,q)->All q->(∀ x∈us,x.ok)->r.ok/\r.lt 0=true/\∀ γ w,Calls P f (us.map (·.val γ)).toArray w fun e w'=>e=.returned (r.val γ)/\Below w.heap.size w w'):ConOk P base γ0 w0 (conV f g) :=
 .of hc fun n M l r p R hr hp hok=>by
  obtain⟨q,hq,e⟩:=Option.map_eq_some_iff.1 hr;cases e;have:=h l q.1 q.2 hq hp hok;exact⟨rfl,this.1,this.2.1,fun γ _ wx _ _=>this.2.2 γ wx⟩
theorem agg_ptr{x:SV}{γ:Pl}{F:Nat}{ext:Bool}{m:Nat}{M:Rows}{p:List Ob}(hx:isF ext m M x=some p)(h:x.val γ=.pointer (some ⟨F,0,none⟩)):(SV.ap x .e).val γ=.agg #[.pointer (some ⟨F,0,none⟩)]:=by
 cases x <;> first | (cases hx;done) | skip
 simpa[SV.val,SV.cells,SV.sc]using h
def conG(ext:Bool)(m:Nat)(f:FuncId)(g:List SV->Option (SV × List Ob)):Con:=⟨f,fun _ M l=>match l with
 | .ap x .e::us=>match isF ext m M x,g us with
  | some p,some (r,q)=>some (r,q++p,[])
  | _,_=>none
 | _=>none⟩
theorem conG_ok{P:Program}{ext:Bool}{m:Nat}{γ0:Pl}{w0:World}{f:FuncId}{g:List SV->Option (SV × List Ob)}(hf:FOk ext m γ0 w0)(hc:∀ as_ wx,(callFunc f as_).run P wx=.ok (.enter f as_) wx)
  (h:∀ us r q,g us=some (r,q)->All q->(∀ x∈us,x.ok)->r.ok/\r.lt 0=true/\∀ γ F w,FldAt w F m->Calls P f (.agg #[.pointer (some ⟨F,0,none⟩)]::us.map (·.val γ)).toArray w fun e w'=>e=.returned (r.val γ)/\Below w.heap.size w w'):ConOk P 1 γ0 w0 (conG ext m f g) :=
 .of hc fun n M l r p R hr hp hok=>by
  unfold conG at hr;dsimp only at hr
  split at hr
  ·rename_i x us
   split at hr
   ·rename_i p' r' q hx hq
    cases hr;obtain⟨g1,g2,g3⟩:=h us r q hq (fun a ha=>hp a (List.mem_append_left _ ha)) fun x hx=>hok x (.tail _ hx);refine⟨rfl,g1,g2,?_⟩;intro γ hγ wx hw hL;obtain⟨F,h1,h2⟩:=isF_at hx (fun a ha=>hp a (List.mem_append_right _ ha)) hf hγ hw hL;have g4:=g3 γ F wx h2;rw[<- agg_ptr hx h1]at g4;exact g4
   ·cases hr
  ·cases hr
def cOf:Con:=conV 71 fun l=>match l with
 | [x]=>(limbS x).map fun k=>(.w k,[])
 | _=>none
theorem cOf_ok{base:Nat}{γ0:Pl}{w0:World}:ConOk Tryz.prog base γ0 w0 cOf:=conV_ok (fun _ _=>by kernel_rfl) fun us r q h hq hok=>by
 split at h
 ·obtain⟨k,hk,e⟩:=Option.map_eq_some_iff.1 h
  cases e;have hlt:=(limbS_ok (γ:=fun _=>0) hk).2;refine⟨Nat.lt_trans hlt (by decide),rfl,fun γ w=>?_⟩;have g:=of_wv k hlt w;rw[<- (limbS_ok (γ:=γ) hk).1]at g;exact g
 ·cases h
structure Shp (α:Type) where
 enc:α->SV
 dec:SV->Option α
 dec_ok:∀ x a,dec x=some a->x=enc a
 lt:∀ a,(enc a).lt 0=true
def d2:SV->Option N2
 | .ap (.w a) (.ap (.w b) .e)=>some (a,b)
 | _=>none
theorem d2_ok(x:SV)(a:N2)(h:d2 x=some a):x=F2s a:=by
 unfold d2 at h
 split at h
 ·cases h;rfl
 ·cases h
def sh2:Shp N2:=⟨F2s,d2,d2_ok,fun _=>rfl⟩
def d6:SV->Option N6
 | .ap x (.ap y (.ap z .e))=>match d2 x,d2 y,d2 z with
  | some a,some b,some c=>some (a,b,c)
  | _,_,_=>none
 | _=>none
theorem d6_ok(x:SV)(a:N6)(h:d6 x=some a):x=H3s a:=by
 unfold d6 at h
 split at h
 ·split at h
  ·rename_i ha hb hc
   cases h;rw[d2_ok _ _ ha,d2_ok _ _ hb,d2_ok _ _ hc];rfl
  ·cases h
 ·cases h
def sh6:Shp N6:=⟨H3s,d6,d6_ok,fun _=>rfl⟩
def d12:SV->Option N12
 | .ap x0 (.ap x1 (.ap x2 (.ap x3 (.ap x4 (.ap x5 .e)))))=>match d2 x0,d2 x1,d2 x2,d2 x3,d2 x4,d2 x5 with
  | some a0,some a1,some a2,some a3,some a4,some a5=>some ((a0,a2,a4),(a1,a3,a5))
  | _,_,_,_,_,_=>none
 | _=>none
theorem d12_ok(x:SV)(a:N12)(h:d12 x=some a):x=L12s a:=by
 unfold d12 at h
 split at h
 ·split at h
  ·rename_i h0 h1 h2 h3 h4 h5
   cases h;rw[d2_ok _ _ h0,d2_ok _ _ h1,d2_ok _ _ h2,d2_ok _ _ h3,d2_ok _ _ h4,d2_ok _ _ h5];rfl
  ·cases h
 ·cases h
def sh12:Shp N12:=⟨L12s,d12,d12_ok,fun _=>rfl⟩
def o0:Pl:=fun _=>0
section
variable {α β ρ:Type}
def cT1(ext:Bool)(m:Nat)(f:FuncId)(A:Shp α)(op:α->SV):Con:=conG ext m f fun l=>match l with
 | [x]=>(A.dec x).map fun a=>(op a,[])
 | _=>none
def cT2(ext:Bool)(m:Nat)(f:FuncId)(A:Shp α)(B:Shp β)(op:α->β->SV):Con:=conG ext m f fun l=>match l with
 | [x,y]=>match A.dec x,B.dec y with
  | some a,some b=>some (op a b,[])
  | _,_=>none
 | _=>none
theorem cT1_ok{P:Program}{ext:Bool}{m:Nat}{γ0:Pl}{w0:World}{f:FuncId}{A:Shp α}{op:α->SV}(hf:FOk ext m γ0 w0)(hc:∀ as_ wx,(callFunc f as_).run P wx=.ok (.enter f as_) wx)(hg:∀ a,(A.enc a).ok->(op a).ok/\(op a).lt 0=true)
  (h:∀ F a,(A.enc a).ok->∀ w,FldAt w F m->Calls P f #[.agg #[.pointer (some ⟨F,0,none⟩)],(A.enc a).val o0] w fun e w'=>e=.returned ((op a).val o0)/\Below w.heap.size w w'):ConOk P 1 γ0 w0 (cT1 ext m f A op) :=
 conG_ok hf hc fun us r q hr hq hok=>by
  split at hr
  ·rename_i x
   obtain⟨a,ha,e⟩:=Option.map_eq_some_iff.1 hr;cases e;have hx:=A.dec_ok _ _ ha;subst hx;have oa:=hok (A.enc a) (by simp);refine⟨(hg a oa).1,(hg a oa).2,fun γ F w hF=>?_⟩;show Calls P f #[.agg #[.pointer (some ⟨F,0,none⟩)],(A.enc a).val γ] w _;rw[val0 (hg a oa).2,val0 (A.lt a)];exact h F a oa w hF
  ·cases hr
theorem cT2_ok{P:Program}{ext:Bool}{m:Nat}{γ0:Pl}{w0:World}{f:FuncId}{A:Shp α}{B:Shp β}{op:α->β->SV}(hf:FOk ext m γ0 w0)(hc:∀ as_ wx,(callFunc f as_).run P wx=.ok (.enter f as_) wx)(hg:∀ a b,(A.enc a).ok->(B.enc b).ok->(op a b).ok/\(op a b).lt 0=true)
  (h:∀ F a b,(A.enc a).ok->(B.enc b).ok->∀ w,FldAt w F m->Calls P f #[.agg #[.pointer (some ⟨F,0,none⟩)],(A.enc a).val o0,(B.enc b).val o0] w fun e w'=>e=.returned ((op a b).val o0)/\Below w.heap.size w w'):ConOk P 1 γ0 w0 (cT2 ext m f A B op) :=
 conG_ok hf hc fun us r q hr hq hok=>by
  split at hr
  ·rename_i x y
   split at hr
   ·rename_i a b ha hb
    cases hr;have hx:=A.dec_ok _ _ ha;have hy:=B.dec_ok _ _ hb;subst hx hy;have oa:=hok (A.enc a) (by simp);have ob:=hok (B.enc b) (by simp);have g:=hg a b oa ob;refine⟨g.1,g.2,fun γ F w hF=>?_⟩;show Calls P f #[.agg #[.pointer (some ⟨F,0,none⟩)],(A.enc a).val γ,(B.enc b).val γ] w _;rw[val0 g.2,val0 (A.lt a),val0 (B.lt b)];exact h F a b oa ob w hF
   ·cases hr
  ·cases hr
def cV1(f:FuncId)(A:Shp α)(op:α->SV):Con:=conV f fun l=>match l with
 | [x]=>(A.dec x).map fun a=>(op a,[])
 | _=>none
def cV2(f:FuncId)(A:Shp α)(B:Shp β)(op:α->β->SV):Con:=conV f fun l=>match l with
 | [x,y]=>match A.dec x,B.dec y with
  | some a,some b=>some (op a b,[])
  | _,_=>none
 | _=>none
theorem cV1_ok{P:Program}{base:Nat}{γ0:Pl}{w0:World}{f:FuncId}{A:Shp α}{op:α->SV}(hc:∀ as_ wx,(callFunc f as_).run P wx=.ok (.enter f as_) wx)(hg:∀ a,(A.enc a).ok->(op a).ok/\(op a).lt 0=true)
  (h:∀ a,(A.enc a).ok->∀ w,Calls P f #[(A.enc a).val o0] w fun e w'=>e=.returned ((op a).val o0)/\Below w.heap.size w w'):ConOk P base γ0 w0 (cV1 f A op) :=
 conV_ok hc fun us r q hr hq hok=>by
  split at hr
  ·rename_i x
   obtain⟨a,ha,e⟩:=Option.map_eq_some_iff.1 hr;cases e;have hx:=A.dec_ok _ _ ha;subst hx;have oa:=hok (A.enc a) (by simp);refine⟨(hg a oa).1,(hg a oa).2,fun γ w=>?_⟩;show Calls P f #[(A.enc a).val γ] w _;rw[val0 (hg a oa).2,val0 (A.lt a)];exact h a oa w
  ·cases hr
theorem cV2_ok{P:Program}{base:Nat}{γ0:Pl}{w0:World}{f:FuncId}{A:Shp α}{B:Shp β}{op:α->β->SV}(hc:∀ as_ wx,(callFunc f as_).run P wx=.ok (.enter f as_) wx)(hg:∀ a b,(A.enc a).ok->(B.enc b).ok->(op a b).ok/\(op a b).lt 0=true)
  (h:∀ a b,(A.enc a).ok->(B.enc b).ok->∀ w,Calls P f #[(A.enc a).val o0,(B.enc b).val o0] w fun e w'=>e=.returned ((op a b).val o0)/\Below w.heap.size w w'):ConOk P base γ0 w0 (cV2 f A B op) :=
 conV_ok hc fun us r q hr hq hok=>by
  split at hr
  ·rename_i x y
   split at hr
   ·rename_i a b ha hb
    cases hr;have hx:=A.dec_ok _ _ ha;have hy:=B.dec_ok _ _ hb;subst hx hy;have oa:=hok (A.enc a) (by simp);have ob:=hok (B.enc b) (by simp);have g:=hg a b oa ob;refine⟨g.1,g.2,fun γ w=>?_⟩;show Calls P f #[(A.enc a).val γ,(B.enc b).val γ] w _;rw[val0 g.2,val0 (A.lt a),val0 (B.lt b)];exact h a b oa ob w
   ·cases hr
  ·cases hr
end
def Is1{α:Type}(m:Nat)(f:FuncId)(A:Shp α)(op:α->SV):Prop:=∀ ext γ0 w0,FOk ext m γ0 w0->ConOk Tryz.prog 1 γ0 w0 (cT1 ext m f A op)
def Is2{α β:Type}(m:Nat)(f:FuncId)(A:Shp α)(B:Shp β)(op:α->β->SV):Prop:=∀ ext γ0 w0,FOk ext m γ0 w0->ConOk Tryz.prog 1 γ0 w0 (cT2 ext m f A B op)
def Is0{α:Type}(f:FuncId)(A:Shp α)(op:α->SV):Prop:=∀ base γ0 w0,ConOk Tryz.prog base γ0 w0 (cV1 f A op)
def Is00{α β:Type}(f:FuncId)(A:Shp α)(B:Shp β)(op:α->β->SV):Prop:=∀ base γ0 w0,ConOk Tryz.prog base γ0 w0 (cV2 f A B op)
end Go.Proofs.YthnckclbeecnmaaGreat.Sy
