/- The law CurveSpreads: so many times a sum is the sum of so many times each. (Cut to what is reached, written closely: EcVal · RTi · RSu · Cn · SyY · SyL · SySp.) -/
import Derived.Test.YtphafjbajlcbnaaB42
import Derived.Test.YtphafjbajlcbnaaB35
import Derived.Test.YtphafjbajlcbnaaB39
import Derived.Test.YtphafjbajlcbnaaB40
set_option linter.all false
set_option maxRecDepth 100000
set_option maxHeartbeats 8000000
namespace Go.Proofs.Ytphafjbajlcbnaa
section
variable {p:Nat} (hp:Pr p)
theorem v_subr(a b:Zp p):(a.1+(p - b.1))%p=((zpField hp).sub a b).1:=by
 show _=(a.1+(p - b.1)%p)%p;rw[Nat.add_mod_mod]
theorem v_sub(a b:Zp p):(a.1%p+(p - b.1%p))%p=((zpField hp).sub a b).1:=by
 rw[Nat.mod_eq_of_lt a.2,Nat.mod_eq_of_lt b.2,v_subr]
theorem v_neg(a:Zp p):(0%p+(p - a.1%p))%p=((zpField hp).neg a).1:=by
 show _=(p - a.1)%p;rw[Nat.mod_eq_of_lt a.2,Nat.zero_mod,Nat.zero_add]
theorem v_inv(a:Zp p):a.1^(p - 2)%p=((zpField hp).inv a).1:=rfl
theorem v_inv_iff(a:Zp p):a.1*(a.1^(p - 2)%p)%p=1↔a≠(zpField hp).zero:=by
 refine(invN_iff (n:=a.1) hp).trans ⟨fun h e=>h ?_,fun h hd=>h (zp_ext (Nat.eq_zero_of_dvd_of_lt hd a.2))⟩;rw[e];exact Nat.dvd_zero p
theorem v_inv_uniq{a i:Zp p}(h:(zpField hp).mul a i=(zpField hp).one):(zpField hp).inv a=i:=zp_ext (invN_uniq hp (congrArg Subtype.val h) i.2)
end
theorem k_on(x y:KK):y.1*y.1%pK=(x.1*x.1%pK*x.1%pK+7)%pK↔(Pt.some x y).On FK sevenK:=⟨fun h=>zp_ext h,fun h=>congrArg Subtype.val h⟩
open Go.RowKit
def pOps(m:Nat):Ops Nat:=⟨fun a b=>(a+b)%m,fun a b=>a*b%m,fun a b=>(a%m+(m - b%m))%m⟩
theorem pK_lt:pK<2^256:=by decide
theorem hom_p:Hom FK.ops (pOps pK) Subtype.val:=⟨fun _ _=>rfl,fun _ _=>rfl,fun a b=>(v_sub prK a b).symm⟩
section
variable {R S:Type}
def tw3(O:Ops R)(T:R × R × R):R × R × R :=
 let rise:=O.add T.2.1 T.2.1
 let half:=O.mul T.2.1 rise
 let square:=O.add half half
 let middle:=O.mul T.1 square
 let xx:=O.mul T.1 T.1
 let slope:=O.add (O.add xx xx) xx
 let x:=O.sub (O.mul slope slope) (O.add middle middle)
 (x,O.sub (O.mul slope (O.sub middle x)) (O.mul half square),O.mul rise T.2.2)
def ac3(O:Ops R)(T:R × R × R)(x:R):R:=O.sub (O.mul x (O.mul T.2.2 T.2.2)) T.1
def up3(O:Ops R)(T:R × R × R)(y:R):R:=O.sub (O.mul y (O.mul (O.mul T.2.2 T.2.2) T.2.2)) T.2.1
def ad3(O:Ops R)(T:R × R × R)(across up:R):R × R × R :=
 let square:=O.mul across across
 let cube:=O.mul square across
 let middle:=O.mul T.1 square
 let x:=O.sub (O.sub (O.mul up up) cube) (O.add middle middle)
 (x,O.sub (O.mul up (O.sub middle x)) (O.mul T.2.1 cube),O.mul T.2.2 across)
variable {O:Ops R} {P:Ops S} {f:R->S}
theorem tw3_map(h:Hom O P f)(T:R × R × R):map3 f (tw3 O T)=tw3 P (map3 f T):=by simp only[tw3,map3,h.add,h.mul,h.sub]
theorem ac3_map(h:Hom O P f)(T:R × R × R)(x:R):f (ac3 O T x)=ac3 P (map3 f T) (f x):=by simp only[ac3,map3,h.mul,h.sub]
theorem up3_map(h:Hom O P f)(T:R × R × R)(y:R):f (up3 O T y)=up3 P (map3 f T) (f y):=by simp only[up3,map3,h.mul,h.sub]
theorem ad3_map(h:Hom O P f)(T:R × R × R)(a u:R):map3 f (ad3 O T a u)=ad3 P (map3 f T) (f a) (f u):=by simp only[ad3,map3,h.add,h.mul,h.sub]
end
theorem gtw_tw3(m:Nat)(T:Nat × Nat × Nat):gtw m T=if T.2.2=0 then T else tw3 (pOps m) T:=rfl
theorem gpl_ad3(m:Nat)(T:Nat × Nat × Nat)(x y:Nat)(n:Bool):gpl m T x y n=if n=true then T else if T.2.2=0 then (x,y,1)else if ac3 (pOps m) T x=0/\up3 (pOps m) T y=0 then gtw m T else ad3 (pOps m) T (ac3 (pOps m) T x) (up3 (pOps m) T y):=rfl
abbrev nv(S:KK × KK × KK):Nat × Nat × Nat:=map3 Subtype.val S
def rel(p:Nat × Nat × Bool):Pt KK->Prop
 | .none=>p.2.2=true
 | .some a b=>p=(a.1,b.1,false)
def canon:Pt KK->Nat × Nat × Bool
 | .none=>(0,0,true)
 | .some a b=>(a.1,b.1,false)
def tcell(P:Pt KK):Array Value:=pc (canon P).1 (canon P).2.1 (canon P).2.2
theorem rel_canon(P:Pt KK):rel (canon P) P:=by cases P <;> rfl
theorem canon_lt(P:Pt KK):(canon P).1<2^256/\(canon P).2.1<2^256:=by
 cases P with
 | none=>exact⟨by show(0:Nat)<_;omega,by show(0:Nat)<_;omega⟩
 | some a b=>exact⟨Nat.lt_trans a.2 pK_lt,Nat.lt_trans b.2 pK_lt⟩
theorem gtw_val(S:KK × KK × KK):gtw pK (nv S)=nv (jtwice FK S):=by
 rw[gtw_tw3];unfold jtwice;by_cases h:S.2.2=FK.zero
 ·rw[if_pos (show(nv S).2.2=0 from congrArg Subtype.val h),if_pos h]
 ·rw[if_neg (show ¬(nv S).2.2=0 from fun e=>h (zp_ext e)),if_neg h]
  exact(tw3_map hom_p S).symm
theorem gpl_val(S:KK × KK × KK){p:Nat × Nat × Bool}{Q:Pt KK}(h:rel p Q):gpl pK (nv S) p.1 p.2.1 p.2.2=nv (jplus FK S Q):=by
 cases Q with
 | none =>
  rw[gpl_ad3,if_pos (show p.2.2=true from h)];rfl
 | some a b =>
  obtain rfl:p=(a.1,b.1,false):=h;rw[gpl_ad3,if_neg (show ¬((a.1,b.1,false):Nat × Nat × Bool).2.2=true from Bool.false_ne_true)];show _=nv (if S.2.2=FK.zero then (a,b,FK.one)else if jacross FK.toCRing S a=FK.zero/\jup FK.toCRing S b=FK.zero then jtwice FK S else jadd FK.toCRing S a b);by_cases hz:S.2.2=FK.zero
  ·rw[if_pos (show(nv S).2.2=0 from congrArg Subtype.val hz),if_pos hz]
   rfl
  ·rw[if_neg (show ¬(nv S).2.2=0 from fun e=>hz (zp_ext e)),if_neg hz]
   have ea:ac3 (pOps pK) (nv S) a.1=(jacross FK.toCRing S a).1:=(ac3_map hom_p S a).symm;have eu:up3 (pOps pK) (nv S) b.1=(jup FK.toCRing S b).1:=(up3_map hom_p S b).symm;dsimp only;rw[ea,eu];by_cases hc:jacross FK.toCRing S a=FK.zero/\jup FK.toCRing S b=FK.zero
   ·rw[if_pos hc,if_pos ⟨congrArg Subtype.val hc.1,congrArg Subtype.val hc.2⟩]
    exact gtw_val S
   ·rw[if_neg hc,if_neg (fun e=>hc ⟨zp_ext e.1,zp_ext e.2⟩)]
    exact(ad3_map hom_p S _ _).symm
theorem gpo_eq(m a b c i:Nat)(hi:c^(m - 2)%m=i):gpo m (a,b,c)=if c*i%m=1 then pc (a*(i*i%m)%m) (b*(i*i%m*i%m)%m) false else pc 0 0 true:=by
 subst hi;rfl
theorem gpo_val{S:KK × KK × KK}{P:Pt KK}(hT:Jac FK S P):gpo pK (nv S)=tcell P:=by
 obtain⟨X,Y,Z⟩:=S;refine(gpo_eq pK X.1 Y.1 Z.1 _ (v_inv prK Z)).trans ?_;by_cases h:Z=FK.zero
 ·have hn:¬Z.1*((zpField prK).inv Z).1%pK=1:=fun e=>(v_inv_iff prK Z).1 (by rw[v_inv prK Z];exact e) h
  rw[if_neg hn];cases P with
  | none=>rfl
  | some x y=>exact absurd h hT.1
 ·have hp:Z.1*((zpField prK).inv Z).1%pK=1:=by
   have:=(v_inv_iff prK Z).2 h;rwa [v_inv prK Z]at this
  rw[if_pos hp];have hi:FK.mul Z (FK.inv Z)=FK.one:=FK.mul_inv _ h;rw[jac_point (T:=(X,Y,Z)) hT hi];show pc (X.1*((FK.inv Z).1*(FK.inv Z).1%pK)%pK) (Y.1*((FK.inv Z).1*(FK.inv Z).1%pK*(FK.inv Z).1%pK)%pK) false=_;generalize FK.inv Z=i;rfl
abbrev zeroS:KK × KK × KK:=(FK.zero,FK.zero,FK.zero)
theorem jac_zero:Jac FK zeroS .none:=rfl
theorem add_val{p q:Nat × Nat × Bool}{P Q:Pt KK}(hp:rel p P)(hq:rel q Q)(oP:P.On FK sevenK):gpo pK (gsm pK [p,q])=tcell (psum FK P Q):=by
 show gpo pK (gpl pK (gpl pK (nv zeroS) p.1 p.2.1 p.2.2) q.1 q.2.1 q.2.2)=_;rw[gpl_val _ hp,gpl_val _ hq];exact gpo_val (jac_plus curveK (p:=P) oP (jac_plus (q:=P) curveK (p:=.none) trivial jac_zero))
def relL:List (Nat × Nat × Nat × Bool)->List (Nat × Pt KK)->Prop
 | [],[]=>True
 | t::l,u::L=>t.1=u.1/\rel t.2 u.2/\relL l L
 | _,_=>False
theorem spt_rel{p:Nat × Nat × Bool}{P:Pt KK}(h:rel p P)(d:Nat):rel (spt pK p d) (dpt FK P d):=by
 unfold spt dpt;by_cases h1:d=1
 ·rw[if_pos h1,if_pos h1];exact h
 ·rw[if_neg h1,if_neg h1]
  by_cases h2:d=2
  ·rw[if_pos h2,if_pos h2]
   cases P with
   | none =>
    unfold gtv;rw[if_pos (show p.2.2=true from h)];rfl
   | some a b =>
    obtain rfl:p=(a.1,b.1,false):=h;unfold gtv;rw[if_neg (show ¬((a.1,b.1,false):Nat × Nat × Bool).2.2=true from Bool.false_ne_true)];show(a.1,(0%pK+(pK - b.1%pK))%pK,false)=_;rw[v_neg prK b];rfl
  ·rw[if_neg h2,if_neg h2];rfl
theorem gin_val(i:Nat):∀(l:List (Nat × Nat × Nat × Bool)) (L:List (Nat × Pt KK)),relL l L->OnL FK sevenK L->∀(S:KK × KK × KK) (a:Pt KK),a.On FK sevenK->Jac FK S a->∃ S',gin pK i l (nv S)=nv S'/\Jac FK S' ((ths L i).foldl (fun a t=>psum FK a (dpt FK t.2 (sdg t.1))) a)
 | [],[],_,_,S,a,_,hJ=>⟨S,rfl,hJ⟩
 | t::l,u::L,h,hO,S,a,oa,hJ=>by
  have hs:=spt_rel h.2.1 (sdg (sth t.1 i));have hJ2:=jac_plus (q:=dpt FK u.2 (sdg (sth t.1 i))) curveK oa hJ;have oq:=on_dpt (F:=FK) (b:=sevenK) hO.head (sdg (sth t.1 i));obtain⟨S',e,hJ'⟩:=gin_val i l L h.2.2 hO.tail _ _ (on_psum curveK oa oq) hJ2;refine⟨S',?_,?_⟩
  ·show gin pK i l (gpl pK (nv S) (spt pK t.2 (sdg (sth t.1 i))).1 (spt pK t.2 (sdg (sth t.1 i))).2.1 (spt pK t.2 (sdg (sth t.1 i))).2.2)=_
   rw[gpl_val S hs];exact e
  ·rw[h.1]at hJ'
   exact hJ'
 | [],_::_,h,_,_,_,_,_=>h.elim
 | _::_,[],h,_,_,_,_,_=>h.elim
theorem gwk_val{l:List (Nat × Nat × Nat × Bool)}{L:List (Nat × Pt KK)}(h:relL l L)(hO:OnL FK sevenK L)(hk:∀ t,t∈L->t.1<2^256):∀ s,s<=257->∃ S,gwk pK l s=nv S/\Jac FK S (tot FK (ths L (257 - s)))
 | 0,_=>⟨zeroS,rfl,by rw[Nat.sub_zero,tot_end hk];exact jac_zero⟩
 | s+1,hs=>by
  obtain⟨S,e,hJ⟩:=gwk_val h hO hk s (by omega);have oT:=on_tot curveK (on_ths hO (257 - s));obtain⟨S',e',hJ'⟩:=gin_val (256 - s) l L h hO _ _ (on_psum curveK oT oT) (jac_twice curveK oT hJ);refine⟨S',?_,?_⟩
  ·show gin pK (256 - s) l (gtw pK (gwk pK l s))=_
   rw[e,gtw_val];exact e'
  ·rw[show 257 - s=256 - s+1 by omega,tot_round curveK hO (256 - s)]at hJ'
   rw[show 257 - (s+1)=256 - s by omega];exact hJ'
theorem times_val{l:List (Nat × Nat × Nat × Bool)}{L:List (Nat × Pt KK)}(h:relL l L)(hO:OnL FK sevenK L)(hk:∀ t,t∈L->t.1<2^256):gpo pK (gwk pK l 257)=tcell (tot FK L):=by
 obtain⟨S,e,hJ⟩:=gwk_val h hO hk 257 (Nat.le_refl _);rw[e];rw[Nat.sub_self,ths_zero]at hJ;exact gpo_val hJ
/-! The reference's. -/
/-! Which points are on the curve. -/
theorem rel_of{x y:Nat}{n:Bool}(h:onB pK (x,y,n)=true):∃ P,rel (x,y,n) P/\P.On FK sevenK:=by
 cases n with
 | true=>exact⟨.none,rfl,trivial⟩
 | false =>
  have h2:x<pK/\y<pK/\y*y%pK=(x*x%pK*x%pK+7)%pK:=by
   unfold onB at h;exact of_decide_eq_true h
  exact⟨.some ⟨x,h2.1⟩ ⟨y,h2.2.1⟩,rfl,(k_on ⟨x,h2.1⟩ ⟨y,h2.2.1⟩).1 h2.2.2⟩
theorem on_canon{P:Pt KK}(h:P.On FK sevenK):onB pK (canon P)=true:=by
 cases P with
 | none=>rfl
 | some a b =>
  show(false||decide (a.1<pK/\b.1<pK/\b.1*b.1%pK=(a.1*a.1%pK*a.1%pK+7)%pK))=true;rw[Bool.false_or];exact decide_eq_true ⟨a.2,b.2,(k_on a b).2 h⟩
theorem rel_is{p:Nat × Nat × Bool}{P:Pt KK}(h:rel p P):(p.2.2=true/\P=.none)\/(p.2.2=false/\p=canon P):=by
 cases P with
 | none=>exact .inl ⟨h,rfl⟩
 | some a b=>exact .inr ⟨by rw[show p=(a.1,b.1,false) from h],h⟩
theorem canon_inj{P Q:Pt KK}(h:canon P=canon Q):P=Q:=by
 cases P with
 | none =>
  cases Q with
  | none=>rfl
  | some a b=>exact absurd (congrArg (fun t=>t.2.2) h) (by show ¬true=false;decide)
 | some a b =>
  cases Q with
  | none=>exact absurd (congrArg (fun t=>t.2.2) h) (by show ¬false=true;decide)
  | some c d =>
   have h1:a.1=c.1:=congrArg (fun t=>t.1) h;have h2:b.1=d.1:=congrArg (fun t=>t.2.1) h;rw[zp_ext h1,zp_ext h2]
open Go.RowKit
namespace Sy
theorem rel_uniq{p:Nat × Nat × Bool}{P Q:Pt KK}(hP:rel p P)(hQ:rel p Q):P=Q:=by
 rcases rel_is hP with⟨h1,h2⟩ | ⟨h1,h2⟩
 ·rcases rel_is hQ with⟨_,h4⟩ | ⟨h3,_⟩
  ·rw[h2,h4]
  ·rw[h1]at h3;cases h3
 ·rcases rel_is hQ with⟨h3,_⟩ | ⟨_,h4⟩
  ·rw[h1]at h3;cases h3
  ·exact canon_inj (h2.symm.trans h4)
noncomputable def ptOf (p:Nat × Nat × Bool):Pt KK:=by
 classical
 exact if h:∃ P,rel p P then h.choose else .none
theorem ptOf_is{p:Nat × Nat × Bool}{P:Pt KK}(h:rel p P):ptOf p=P:=by
 unfold ptOf;rw[dif_pos ⟨P,h⟩];exact rel_uniq (Exists.choose_spec (⟨P,h⟩:∃ P,rel p P)) h
theorem rel_pt{p:Nat × Nat × Bool}(h:onB mK p=true):rel p (ptOf p)/\(ptOf p).On FK sevenK:=by
 obtain⟨P,h1,h2⟩:=rel_of (x:=p.1) (y:=p.2.1) (n:=p.2.2) h;have h1:rel p P:=h1;rw[ptOf_is h1];exact⟨h1,h2⟩
noncomputable def adP (p q:Nat × Nat × Bool):Nat × Nat × Bool:=if (onB mK p&&onB mK q)=true then canon (psum FK (ptOf p) (ptOf q))else (0,0,true)
noncomputable def muP (k:Nat) (p:Nat × Nat × Bool):Nat × Nat × Bool:=if onB mK p=true then canon (nmul FK k (ptOf p))else (0,0,true)
noncomputable def twP (k:Nat) (p:Nat × Nat × Bool) (j:Nat) (q:Nat × Nat × Bool):Nat × Nat × Bool:=if (onB mK p&&onB mK q)=true then canon (psum FK (nmul FK k (ptOf p)) (nmul FK j (ptOf q)))else (0,0,true)
theorem if_lt{b:Bool}{P:Pt KK}:(if b=true then canon P else (0,0,true)).1<2^256/\(if b=true then canon P else (0,0,true)).2.1<2^256:=by
 split
 ·exact canon_lt P
 ·exact⟨w0_ok,w0_ok⟩
theorem if_val{b:Bool}{P:Pt KK}{v:Array Value}(h:b=true->v=tcell P)(γ:Pl):(sP3 (if b=true then canon P else (0,0,true))).val γ=.agg (if b=true then v else pc 0 0 true):=by
 rw[sP3_val];cases b with
 | true=>rw[if_pos rfl,if_pos rfl,h rfl];rfl
 | false=>rfl
def con2(f:FuncId)(g:Nat × Nat × Bool->Nat × Nat × Bool->SV):Con:=conV f fun l=>match l with
 | [x,y]=>match ptS x,ptS y with
  | some p,some q=>some (g p q,[])
  | _,_=>none
 | _=>none
theorem con2_ok{base:Nat}{γ0:Pl}{w0:World}{f:FuncId}{g:Nat × Nat × Bool->Nat × Nat × Bool->SV}(hc:∀ as_ wx,(callFunc f as_).run Try.prog wx=.ok (.enter f as_) wx)
  (h:∀ p q:Nat × Nat × Bool,p.1<2^256->p.2.1<2^256->q.1<2^256->q.2.1<2^256->(g p q).ok/\(g p q).lt 0=true/\∀ w,Calls Try.prog f #[.agg (pc p.1 p.2.1 p.2.2),.agg (pc q.1 q.2.1 q.2.2)] w fun e w'=>e=.returned ((g p q).val fun _=>0)/\Below w.heap.size w w'):ConOk Try.prog base γ0 w0 (con2 f g) :=
 conV_ok hc fun us r q hr hq hok=>by
  split at hr
  ·rename_i x y
   split at hr
   ·rename_i p q hp hq'
    cases hr;have b1:=(ptS_ok (γ:=fun _=>0) hp).2 (hok x (by simp));have b2:=(ptS_ok (γ:=fun _=>0) hq').2 (hok y (by simp));obtain⟨g1,g2,g3⟩:=h p q b1.1 b1.2 b2.1 b2.2;refine⟨g1,g2,fun γ w=>?_⟩;have g4:=g3 w;rw[<- val0 (γ:=γ) g2,<- (ptS_ok (γ:=γ) hp).1,<- (ptS_ok (γ:=γ) hq').1]at g4;exact g4
   ·cases hr
  ·cases hr
def con1(f:FuncId)(g:Nat × Nat × Bool->SV):Con:=conV f fun l=>match l with
 | [x]=>(ptS x).map fun p=>(g p,[])
 | _=>none
theorem con1_ok{base:Nat}{γ0:Pl}{w0:World}{f:FuncId}{g:Nat × Nat × Bool->SV}(hc:∀ as_ wx,(callFunc f as_).run Try.prog wx=.ok (.enter f as_) wx)
  (h:∀ p:Nat × Nat × Bool,p.1<2^256->p.2.1<2^256->(g p).ok/\(g p).lt 0=true/\∀ w,Calls Try.prog f #[.agg (pc p.1 p.2.1 p.2.2)] w fun e w'=>e=.returned ((g p).val fun _=>0)/\Below w.heap.size w w'):ConOk Try.prog base γ0 w0 (con1 f g) :=
 conV_ok hc fun us r q hr hq hok=>by
  split at hr
  ·rename_i x
   obtain⟨p,hp,e⟩:=Option.map_eq_some_iff.1 hr;cases e;have b1:=(ptS_ok (γ:=fun _=>0) hp).2 (hok x (by simp));obtain⟨g1,g2,g3⟩:=h p b1.1 b1.2;refine⟨g1,g2,fun γ w=>?_⟩;have g4:=g3 w;rw[<- val0 (γ:=γ) g2,<- (ptS_ok (γ:=γ) hp).1]at g4;exact g4
  ·cases hr
noncomputable def cAdd:Con:=con2 9 fun p q=>.tu (sP3 (adP p q)) (sIf (onB mK p&&onB mK q))
theorem cAdd_ok{base:Nat}{γ0:Pl}{w0:World}:ConOk Try.prog base γ0 w0 cAdd:=con2_ok (fun _ _=>by kernel_rfl) fun p q h1 h2 h3 h4=>by
 refine⟨⟨(sP3_ok if_lt).1,trivial⟩,rfl,fun w=>?_⟩;have h:=gadd_any p.1 p.2.1 q.1 q.2.1 p.2.2 q.2.2 h1 h2 h3 h4 w;have e:[(p.1,p.2.1,p.2.2),(q.1,q.2.1,q.2.2)].all (onB mK)=(onB mK p&&onB mK q):=by simp
 rw[e]at h;have hv:(onB mK p&&onB mK q)=true->gpo mK (gsm mK [(p.1,p.2.1,p.2.2),(q.1,q.2.1,q.2.2)])=tcell (psum FK (ptOf p) (ptOf q)):=fun hb=>by
  rw[Bool.and_eq_true]at hb;exact add_val (p:=p) (q:=q) (rel_pt hb.1).1 (rel_pt hb.2).1 (rel_pt hb.1).2
 rw[<- if_val hv fun _=>0]at h;exact h
def cOn:Con:=con1 18 fun p=>.b (onB mK p)
theorem cOn_ok{base:Nat}{γ0:Pl}{w0:World}:ConOk Try.prog base γ0 w0 cOn:=con1_ok (fun _ _=>by kernel_rfl) fun p h1 h2=>⟨trivial,rfl,fun w=>gon_any p.1 p.2.1 p.2.2 h1 h2 w⟩
def cOnR:Con:=con1 5 fun p=>.b (onB mK p)
theorem cOnR_ok{base:Nat}{γ0:Pl}{w0:World}:ConOk Try.prog base γ0 w0 cOnR:=con1_ok (fun _ _=>by kernel_rfl) fun p h1 h2=>⟨trivial,rfl,fun w=>ron_any p.1 p.2.1 p.2.2 h1 h2 w⟩
def smB(p q:Nat × Nat × Bool):Bool:=if (p.2.2||q.2.2)=true then p.2.2&&q.2.2 else decide (p.1=q.1/\p.2.1=q.2.1)
def cSame:Con:=con2 11 fun p q=>.b (smB p q)
theorem cSame_ok{base:Nat}{γ0:Pl}{w0:World}:ConOk Try.prog base γ0 w0 cSame:=con2_ok (fun _ _=>by kernel_rfl) fun p q h1 h2 h3 h4=>⟨trivial,rfl,fun w=>gsame_any p.1 p.2.1 q.1 q.2.1 p.2.2 q.2.2 h1 h2 h3 h4 w⟩
def conKP(f:FuncId)(g:Nat->Nat × Nat × Bool->SV):Con:=conV f fun l=>match l with
 | [.w k,x]=>(ptS x).map fun p=>(g k p,[])
 | _=>none
theorem conKP_ok{base:Nat}{γ0:Pl}{w0:World}{f:FuncId}{g:Nat->Nat × Nat × Bool->SV}(hc:∀ as_ wx,(callFunc f as_).run Try.prog wx=.ok (.enter f as_) wx)
  (h:∀ k (p:Nat × Nat × Bool),k<2^256->p.1<2^256->p.2.1<2^256->(g k p).ok/\(g k p).lt 0=true/\∀ w,Calls Try.prog f #[.agg (pw k),.agg (pc p.1 p.2.1 p.2.2)] w fun e w'=>e=.returned ((g k p).val fun _=>0)/\Below w.heap.size w w'):ConOk Try.prog base γ0 w0 (conKP f g) :=
 conV_ok hc fun us r q hr hq hok=>by
  split at hr
  ·rename_i k x
   obtain⟨p,hp,e⟩:=Option.map_eq_some_iff.1 hr;cases e;have b1:=(ptS_ok (γ:=fun _=>0) hp).2 (hok x (by simp));obtain⟨g1,g2,g3⟩:=h k p (hok (.w k) (by simp)) b1.1 b1.2;refine⟨g1,g2,fun γ w=>?_⟩;have g4:=g3 w;rw[<- val0 (γ:=γ) g2,<- (ptS_ok (γ:=γ) hp).1]at g4;exact g4
  ·cases hr
noncomputable def cMul:Con:=conKP 8 fun k p=>.tu (sP3 (muP k p)) (sIf (onB mK p))
theorem cMul_ok{base:Nat}{γ0:Pl}{w0:World}:ConOk Try.prog base γ0 w0 cMul:=conKP_ok (fun _ _=>by kernel_rfl) fun k p hk h1 h2=>by
 refine⟨⟨(sP3_ok if_lt).1,trivial⟩,rfl,fun w=>?_⟩;have h:=gmul_any k p.1 p.2.1 p.2.2 hk h1 h2 w;have e:[(k,p.1,p.2.1,p.2.2)].all (fun t=>onB mK t.2)=onB mK p:=by simp
 rw[e]at h;have hv:onB mK p=true->gpo mK (gwk mK [(k,p.1,p.2.1,p.2.2)] 257)=tcell (nmul FK k (ptOf p)):=fun hb=>by
  have hr:=rel_pt hb;have hv:gpo pK (gwk pK [(k,p.1,p.2.1,p.2.2)] 257)=tcell (tot FK [(k,ptOf p)]):=times_val (L:=[(k,ptOf p)]) ⟨rfl,hr.1,trivial⟩ (one_mem hr.2) (one_mem hk);rw[show tot FK [(k,ptOf p)]=nmul FK k (ptOf p) from psum_none_r _]at hv;exact hv
 rw[<- if_val hv fun _=>0]at h;exact h
noncomputable def cTwo:Con:=conV 12 fun l=>match l with
 | [.w k,x,.w j,y]=>match ptS x,ptS y with
  | some p,some q=>some (.tu (sP3 (twP k p j q)) (sIf (onB mK p&&onB mK q)),[])
  | _,_=>none
 | _=>none
theorem cTwo_ok{base:Nat}{γ0:Pl}{w0:World}:ConOk Try.prog base γ0 w0 cTwo:=conV_ok (fun _ _=>by kernel_rfl) fun us r q hr hq hok=>by
 split at hr
 ·rename_i k x j y
  split at hr
  ·rename_i p q hp hq'
   cases hr;have b1:=(ptS_ok (γ:=fun _=>0) hp).2 (hok x (by simp));have b2:=(ptS_ok (γ:=fun _=>0) hq').2 (hok y (by simp));have hk:k<2^256:=hok (.w k) (by simp);have hj:j<2^256:=hok (.w j) (by simp);refine⟨⟨(sP3_ok if_lt).1,trivial⟩,rfl,fun γ w=>?_⟩;have h:=gtwo_any k p.1 p.2.1 j q.1 q.2.1 p.2.2 q.2.2 hk b1.1 b1.2 hj b2.1 b2.2 w;have e:[(k,p.1,p.2.1,p.2.2),(j,q.1,q.2.1,q.2.2)].all (fun t=>onB mK t.2)=(onB mK p&&onB mK q):=by simp
   rw[e]at h;have hv:(onB mK p&&onB mK q)=true->gpo mK (gwk mK [(k,p.1,p.2.1,p.2.2),(j,q.1,q.2.1,q.2.2)] 257)=tcell (psum FK (nmul FK k (ptOf p)) (nmul FK j (ptOf q))):=fun hb=>by
    rw[Bool.and_eq_true]at hb;have hr:=rel_pt hb.1;have hs:=rel_pt hb.2;have hv:gpo pK (gwk pK [(k,p.1,p.2.1,p.2.2),(j,q.1,q.2.1,q.2.2)] 257)=tcell (tot FK [(k,ptOf p),(j,ptOf q)]):=times_val (L:=[(k,ptOf p),(j,ptOf q)]) ⟨rfl,hr.1,rfl,hs.1,trivial⟩ (fun t ht=>by
     rcases List.mem_cons.1 ht with rfl | ht
     ·exact hr.2
     ·exact one_mem (P:=fun t:Nat × Pt KK=>t.2.On FK sevenK) hs.2 t ht) (fun t ht=>by
     rcases List.mem_cons.1 ht with rfl | ht
     ·exact hk
     ·exact one_mem (P:=fun t:Nat × Pt KK=>t.1<2^256) hj t ht)
    rw[show tot FK [(k,ptOf p),(j,ptOf q)]=psum FK (nmul FK k (ptOf p)) (nmul FK j (ptOf q)) from congrArg (psum FK (nmul FK k (ptOf p))) (psum_none_r _)]at hv;exact hv
   rw[<- if_val hv γ,<- (ptS_ok (γ:=γ) hp).1,<- (ptS_ok (γ:=γ) hq').1]at h;exact h
  ·cases hr
 ·cases hr
end Sy
open Go.RowKit
namespace Sy
end Sy
open Sy
namespace Sy
def gP:Nat × Nat × Bool:=(55066263022277343669578718895168534326250603453777594175500187360389116729240,32670510020758816978083085130507043184471273380659243275938904335757337482424,false)
def dP:Nat × Nat × Bool:=(89565891926547004231252920425935692360644145829622209833684329913297188986597,12158399299693830322967808612713398636155367887041628176798871954788371653930,false)
theorem gP_lt:gP.1<2^256/\gP.2.1<2^256:=by decide +kernel
theorem dP_lt:dP.1<2^256/\dP.2.1<2^256:=by decide +kernel
theorem relgP:rel gP GK:=by
 show _=((gxK,gyK,false):Nat × Nat × Bool);decide +kernel
theorem psum_dbl{K:Type}{F:CField K}[DecidableEq K]{x y i:K}(hy:y≠F.zero)(hi:F.inv (F.add y y)=i):psum F (.some x y) (.some x y)=lineTo F x y x (F.mul (F.add (F.mul x x) (F.add (F.mul x x) (F.mul x x))) i):=by
 subst hi;show(if x=x then (if y≠y\/y=F.zero then _ else _)else _)=_;rw[if_pos rfl,if_neg (by rintro(e | e);exact e rfl;exact hy e)]
def gxP:KK:=⟨gxK,by decide⟩
def gyP:KK:=⟨gyK,by decide⟩
def g2i:KK:=⟨83174505189910067536517124096019359197644205712500122884473429251812128958118,by decide⟩
def g2x:KK:=⟨dP.1,by decide⟩
def g2y:KK:=⟨dP.2.1,by decide⟩
theorem g2_val:psum FK GK GK=.some g2x g2y:=by
 have hi:FK.inv (FK.add gyP gyP)=g2i:=v_inv_uniq prK (zp_ext (by decide +kernel));refine(psum_dbl (x:=gxP) (y:=gyP) (fun h=>absurd (congrArg Subtype.val h) (by decide +kernel)) hi).trans ?_;have h1:FK.sub (FK.sub (FK.mul (FK.mul (FK.add (FK.mul gxP gxP) (FK.add (FK.mul gxP gxP) (FK.mul gxP gxP))) g2i) (FK.mul (FK.add (FK.mul gxP gxP) (FK.add (FK.mul gxP gxP) (FK.mul gxP gxP))) g2i)) gxP) gxP=g2x:=zp_ext (by decide +kernel);have h2:FK.sub (FK.mul (FK.mul (FK.add (FK.mul gxP gxP) (FK.add (FK.mul gxP gxP) (FK.mul gxP gxP))) g2i) (FK.sub gxP g2x)) gyP=g2y:=zp_ext (by decide +kernel);unfold lineTo;rw[h1,h2]
theorem on_gP:onB mK gP=true:=by decide +kernel
theorem ad_gP:adP gP gP=dP:=by
 unfold adP;rw[on_gP,ptOf_is relgP,g2_val];rfl
theorem mu_gP:muP 2 gP=dP:=by
 unfold muP;rw[on_gP,ptOf_is relgP,show nmul FK 2 GK=psum FK GK GK from by
  show psum FK (psum FK .none GK) GK=_;rfl,g2_val]
 rfl
def cBase:Con:=conV 17 fun l=>match l with
 | []=>some (sPk gP.1 gP.2.1 false,[])
 | _=>none
theorem cBase_ok{base:Nat}{γ0:Pl}{w0:World}:ConOk Try.prog base γ0 w0 cBase:=conV_ok (fun _ _=>by kernel_rfl) fun us r q h hq hok=>by
 split at h
 ·cases h
  exact⟨⟨gP_lt.1,gP_lt.2,trivial,trivial⟩,rfl,fun γ w=>gbase_any w⟩
 ·cases h
def cAddG:Con:=conV 9 fun l=>match l with
 | [x,y]=>some (.tu (sPk dP.1 dP.2.1 false) (.v (.int .i64 0)),[.ask (x=sPk gP.1 gP.2.1 false/\y=sPk gP.1 gP.2.1 false)])
 | _=>none
def cMulG:Con:=conV 8 fun l=>match l with
 | [x,y]=>some (.tu (sPk dP.1 dP.2.1 false) (.v (.int .i64 0)),[.ask (x=.w 2/\y=sPk gP.1 gP.2.1 false)])
 | _=>none
theorem dP_ok:(SV.tu (sPk dP.1 dP.2.1 false) (.v (.int .i64 0))).ok:=⟨⟨dP_lt.1,dP_lt.2,trivial,trivial⟩,trivial⟩
theorem cAddG_ok{base:Nat}{γ0:Pl}{w0:World}:ConOk Try.prog base γ0 w0 cAddG:=conV_ok (fun _ _=>by kernel_rfl) fun us r q h hq hok=>by
 split at h
 ·cases h
  obtain⟨rfl,rfl⟩:_/\_:=hq _ (.head _);refine⟨dP_ok,rfl,fun γ w=>?_⟩;have h:=((cAdd_ok (base:=0) (γ0:=fun _=>0) (w0:=w)).all 0 [] [sPk gP.1 gP.2.1 false,sPk gP.1 gP.2.1 false] _ _ _ rfl (fun _ h=>by cases h) (Nat.le_refl _) (fun x hx=>⟨hok x hx,by
   simp only[List.mem_cons,List.not_mem_nil,or_false]at hx;rcases hx with rfl | rfl <;> rfl⟩) (fun _ h=>by cases h)).2.2.2 γ (fun _ h=>by cases h) w (Below.refl _ _) (fun _ h=>by cases h)
  refine h.mono fun e w' hh=>?_;have q:=made_nil (r:=.tu (sP3 (adP gP gP)) (sIf (onB mK gP&&onB mK gP))) rfl hh;rw[ad_gP,on_gP]at q;exact⟨q.1.trans rfl,q.2⟩
 ·cases h
theorem cMulG_ok{base:Nat}{γ0:Pl}{w0:World}:ConOk Try.prog base γ0 w0 cMulG:=conV_ok (fun _ _=>by kernel_rfl) fun us r q h hq hok=>by
 split at h
 ·cases h
  obtain⟨rfl,rfl⟩:_/\_:=hq _ (.head _);refine⟨dP_ok,rfl,fun γ w=>?_⟩;have h:=((cMul_ok (base:=0) (γ0:=fun _=>0) (w0:=w)).all 0 [] [.w 2,sPk gP.1 gP.2.1 false] _ _ _ rfl (fun _ h=>by cases h) (Nat.le_refl _) (fun x hx=>⟨hok x hx,by
   simp only[List.mem_cons,List.not_mem_nil,or_false]at hx;rcases hx with rfl | rfl <;> rfl⟩) (fun _ h=>by cases h)).2.2.2 γ (fun _ h=>by cases h) w (Below.refl _ _) (fun _ h=>by cases h)
  refine h.mono fun e w' hh=>?_;have q:=made_nil (r:=.tu (sP3 (muP 2 gP)) (sIf (onB mK gP))) rfl hh;rw[mu_gP,on_gP]at q;exact⟨q.1.trans rfl,q.2⟩
 ·cases h
end Sy
theorem lives_any(w:World):Calls Try.prog 6 #[] w fun r w'=>r=.returned (.bool true)/\Below w.heap.size w w':=by
 refine calls_at (E1_ok (more:=cBase::cAddG::cMulG::cSame::cOn::[]) (γ0:=fun _=>0) ⟨cBase_ok,cAddG_ok,cMulG_ok,cSame_ok,cOn_ok,trivial⟩) (by kernel_rfl) (fun _=>0) Try.func6 (by kernel_rfl) [] trivial (by kernel_rfl) (by kernel_rfl)
  (let G:=sPk gP.1 gP.2.1 false;.need (G=G/\G=G) (.need (SV.w 2=SV.w 2/\G=G) (.leaf (.b (bif (bif smB dP dP then onB mK dP else false)then eqI (limb 3 dP.1) 14268669794154544493 else false))))) (by kernel_rfl) ⟨⟨rfl,rfl⟩,⟨rfl,rfl⟩,?_⟩
 show Value.bool _=.bool true;congr 1
namespace Sy
def cLives:Con:=conV 6 fun l=>match l with
 | []=>some (.v (.bool true),[])
 | _=>none
theorem cLives_ok{base:Nat}{γ0:Pl}{w0:World}:ConOk Try.prog base γ0 w0 cLives:=conV_ok (fun _ _=>by kernel_rfl) fun us r q h hq hok=>by
 split at h
 ·cases h
  exact⟨trivial,rfl,fun γ w=>lives_any w⟩
 ·cases h
end Sy
open Go.RowKit
namespace Sy
theorem sm_same(p:Nat × Nat × Bool):smB p p=true:=by
 obtain⟨x,y,n⟩:=p;cases n <;> simp[smB]
theorem pt_canon(P:Pt KK):ptOf (canon P)=P:=ptOf_is (rel_canon P)
theorem on_can'{P:Pt KK}(h:P.On FK sevenK):onB mK (canon P)=true:=on_canon h
theorem mu_canon{P:Pt KK}(k:Nat)(h:P.On FK sevenK):muP k (canon P)=canon (nmul FK k P):=by
 unfold muP;rw[if_pos (on_can' h),pt_canon]
theorem same_law{X Y:Nat × Nat × Bool}{b:Bool}(hb:b=true)(h:X=Y):(bif (bif eqI (if b=true then 0 else 81) 0 then smB X Y else false)then true else false)=true:=by
 subst hb;subst h;rw[sm_same];rfl
theorem both{P Q:Bool}(h:(bif !P then true else !Q)=false):(P&&Q)=true:=by
 revert h;cases P <;> cases Q <;> simp
noncomputable def EQ (more:List Con):Env:=E1 (cLives::cAdd::cSame::cOnR::cMul::more)
theorem EQ_ok{w:World}{more:List Con}(h:conAll Try.prog 1 (fun _=>0) w more):(EQ more).Good (fun _=>0) w:=E1_ok ⟨cLives_ok,cAdd_ok,cSame_ok,cOnR_ok,cMul_ok,h⟩
end Sy
open Sy
theorem cspreads_any(k x y xq yq:Nat)(n nq:Bool)(hk:k<2^256)(hx:x<2^256)(hy:y<2^256)(hxq:xq<2^256)(hyq:yq<2^256)(w:World):Calls Try.prog 4 #[.agg (pw k),.agg (pc x y n),.agg (pc xq yq nq)] w fun r w'=>r=.returned (.bool true)/\Below w.heap.size w w':=by
 have key:(onB mK (x,y,n)&&onB mK (xq,yq,nq))=true->muP k (adP (x,y,n) (xq,yq,nq))=twP k (x,y,n) k (xq,yq,nq):=fun hb=>by
  have e1:adP (x,y,n) (xq,yq,nq)=canon (psum FK (ptOf (x,y,n)) (ptOf (xq,yq,nq))):=if_pos hb;have e2:twP k (x,y,n) k (xq,yq,nq)=canon (psum FK (nmul FK k (ptOf (x,y,n))) (nmul FK k (ptOf (xq,yq,nq)))):=if_pos hb;rw[Bool.and_eq_true]at hb;have o1:=(rel_pt hb.1).2;have o2:=(rel_pt hb.2).2;rw[e1,e2,mu_canon k (on_psum curveK o1 o2),nmul_psum curveK o1 o2]
 refine calls_at (EQ_ok (more:=cTwo::[]) ⟨cTwo_ok,trivial⟩) (by kernel_rfl) (fun _=>0) Try.func4 (by kernel_rfl) [.w k,sP x y n,sP xq yq nq] ⟨⟨hk,rfl⟩,⟨⟨hx,hy,trivial,trivial⟩,rfl⟩,⟨⟨hxq,hyq,trivial,trivial⟩,rfl⟩,trivial⟩ (by kernel_rfl) (by kernel_rfl)
  (let p:=(x,y,n);let q:=(xq,yq,nq)
  .br (bif !(onB mK p)then true else !(onB mK q)) (.leaf (.v (.bool true))) (.leaf (.b (bif (bif eqI (if (onB mK p&&onB mK q)=true then 0 else 81) 0 then smB (muP k (adP p q)) (twP k p k q)else false)then true else false)))) (by kernel_rfl) ?_
 exact⟨fun _=>rfl,fun h=>congrArg Value.bool (same_law (both h) (key (both h)))⟩
end Go.Proofs.Ytphafjbajlcbnaa
