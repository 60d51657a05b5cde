/- What word.Bytes comes to, called with any word. (Cut to what is reached, written closely: SyY · SyL · SyH · SyLi · PWb.) -/
import Derived.Test.YtphafjbajlcbnaaGreatB41
import Derived.Test.YtphafjbajlcbnaaGreatB34
import Derived.Test.YtphafjbajlcbnaaGreatB5
import Derived.Test.YtphafjbajlcbnaaGreatB14
import Derived.Test.YtphafjbajlcbnaaGreatB7
set_option linter.all false
set_option maxRecDepth 100000
set_option maxHeartbeats 8000000
namespace Go.Proofs.YtphafjbajlcbnaaGreat
open Go.RowKit
namespace Sy
theorem Xh{p:Nat × Nat × Bool}{P Q:Pt KK}(hP:rel p P)(hQ:rel p Q):P=Q:=by
 rcases MM hP with⟨h1,h2⟩ | ⟨h1,h2⟩
 ·rcases MM hQ with⟨_,h4⟩ | ⟨h3,_⟩
  ·rw[h2,h4]
  ·rw[h1]at h3;cases h3
 ·rcases MM hQ with⟨h3,_⟩ | ⟨_,h4⟩
  ·rw[h1]at h3;cases h3
  ·exact TT (h2.symm.trans h4)
noncomputable def Ff (p:Nat × Nat × Bool):Pt KK:=by
 classical
 exact if h:∃ P,rel p P then h.choose else .none
theorem MN{p:Nat × Nat × Bool}{P:Pt KK}(h:rel p P):Ff p=P:=by
 unfold Ff;rw[dif_pos ⟨P,h⟩];exact Xh (Exists.choose_spec (⟨P,h⟩:∃ P,rel p P)) h
theorem Iw{p:Nat × Nat × Bool}(h:onB mK p=true):rel p (Ff p)/\(Ff p).On FK E5:=by
 obtain⟨P,h1,h2⟩:=A2A (x:=p.1) (y:=p.2.1) (n:=p.2.2) h;have h1:rel p P:=h1;rw[MN h1];exact⟨h1,h2⟩
noncomputable def adP (p q:Nat × Nat × Bool):Nat × Nat × Bool:=if (onB mK p&&onB mK q)=true then canon (Ba FK (Ff p) (Ff q))else (0,0,true)
noncomputable def muP (k:Nat) (p:Nat × Nat × Bool):Nat × Nat × Bool:=if onB mK p=true then canon (DJ FK k (Ff p))else (0,0,true)
noncomputable def ngP (p:Nat × Nat × Bool):Nat × Nat × Bool:=if onB mK p=true then canon (ME FK (Ff p))else (0,0,true)
theorem Xi{b:Bool}{P:Pt KK}:(if b=true then canon P else (0,0,true)).1<2^256/\(if b=true then canon P else (0,0,true)).2.1<2^256:=by
 split
 ·exact Xf P
 ·exact⟨AV,AV⟩
theorem Qc{b:Bool}{P:Pt KK}{v:Array Value}(h:b=true->v=Hy P)(γ:Pl):(sP3 (if b=true then canon P else (0,0,true))).val γ=.agg (if b=true then v else pc 0 0 true):=by
 rw[Dc];cases b with
 | true=>rw[if_pos rfl,if_pos rfl,h rfl];rfl
 | false=>rfl
def A2B(f:FuncId)(g:Nat × Nat × Bool->Nat × Nat × Bool->SV):Con:=Hl f fun l=>match l with
 | [x,y]=>match ptS x,ptS y with
  | some p,some q=>some (g p q,[])
  | _,_=>none
 | _=>none
theorem RB{base:Nat}{γ0:Pl}{w0:World}{f:FuncId}{g:Nat × Nat × Bool->Nat × Nat × Bool->SV}(hc:∀ as_ wx,(callFunc f as_).run Tryz.prog wx=.ok (.enter f as_) wx)
  (h:∀ p q:Nat × Nat × Bool,p.1<2^256->p.2.1<2^256->q.1<2^256->q.2.1<2^256->(g p q).ok/\(g p q).lt 0=true/\∀ w,Calls Tryz.prog f #[.agg (pc p.1 p.2.1 p.2.2),.agg (pc q.1 q.2.1 q.2.2)] w fun e w'=>e=.returned ((g p q).val fun _=>0)/\Below w.heap.size w w'):ConOk Tryz.prog base γ0 w0 (A2B f g) :=
 Ca hc fun us r q hr hq hok=>by
  split at hr
  ·rename_i x y
   split at hr
   ·rename_i p q hp hq'
    cases hr;have b1:=(Bz (γ:=fun _=>0) hp).2 (hok x υ);have b2:=(Bz (γ:=fun _=>0) hq').2 (hok y υ);obtain⟨g1,g2,g3⟩:=h p q b1.1 b1.2 b2.1 b2.2;refine⟨g1,g2,fun γ w=>?_⟩;have g4:=g3 w;rw[<- Mj (γ:=γ) g2,<- (Bz (γ:=γ) hp).1,<- (Bz (γ:=γ) hq').1]at g4;exact g4
   ·cases hr
  ·cases hr
def TU(f:FuncId)(g:Nat × Nat × Bool->SV):Con:=Hl f fun l=>match l with
 | [x]=>(ptS x).map fun p=>(g p,[])
 | _=>none
theorem Hz{base:Nat}{γ0:Pl}{w0:World}{f:FuncId}{g:Nat × Nat × Bool->SV}(hc:∀ as_ wx,(callFunc f as_).run Tryz.prog wx=.ok (.enter f as_) wx)
  (h:∀ p:Nat × Nat × Bool,p.1<2^256->p.2.1<2^256->(g p).ok/\(g p).lt 0=true/\∀ w,Calls Tryz.prog f #[.agg (pc p.1 p.2.1 p.2.2)] w fun e w'=>e=.returned ((g p).val fun _=>0)/\Below w.heap.size w w'):ConOk Tryz.prog base γ0 w0 (TU f g) :=
 Ca hc fun us r q hr hq hok=>by
  split at hr
  ·rename_i x
   obtain⟨p,hp,e⟩:=Option.map_eq_some_iff.1 hr;cases e;have b1:=(Bz (γ:=fun _=>0) hp).2 (hok x υ);obtain⟨g1,g2,g3⟩:=h p b1.1 b1.2;refine⟨g1,g2,fun γ w=>?_⟩;have g4:=g3 w;rw[<- Mj (γ:=γ) g2,<- (Bz (γ:=γ) hp).1]at g4;exact g4
  ·cases hr
noncomputable def A4b:Con:=A2B 18 fun p q=>.tu (sP3 (adP p q)) (sIf (onB mK p&&onB mK q))
theorem A0j{base:Nat}{γ0:Pl}{w0:World}:ConOk Tryz.prog base γ0 w0 A4b:=RB (fun _ _=>by kernel_rfl) fun p q h1 h2 h3 h4=>by
 refine⟨⟨(Fa Xi).1,trivial⟩,rfl,fun w=>?_⟩;have h:=Wh p.1 p.2.1 q.1 q.2.1 p.2.2 q.2.2 h1 h2 h3 h4 w;have e:[(p.1,p.2.1,p.2.2),(q.1,q.2.1,q.2.2)].all (onB mK)=(onB mK p&&onB mK q):=by simp
 rw[e]at h;have hv:(onB mK p&&onB mK q)=true->gpo mK (gsm mK [(p.1,p.2.1,p.2.2),(q.1,q.2.1,q.2.2)])=Hy (Ba FK (Ff p) (Ff q)):=fun hb=>by
  rw[Bool.and_eq_true]at hb;exact A0h (p:=p) (q:=q) (Iw hb.1).1 (Iw hb.2).1 (Iw hb.1).2
 rw[<- Qc hv fun _=>0]at h;exact h
def cOn:Con:=TU 10 fun p=>.b (onB mK p)
theorem Xj{base:Nat}{γ0:Pl}{w0:World}:ConOk Tryz.prog base γ0 w0 cOn:=Hz (fun _ _=>by kernel_rfl) fun p h1 h2=>⟨trivial,rfl,fun w=>R7 p.1 p.2.1 p.2.2 h1 h2 w⟩
def A3K:Con:=TU 8 fun p=>.b (onB mK p)
theorem A0k{base:Nat}{γ0:Pl}{w0:World}:ConOk Tryz.prog base γ0 w0 A3K:=Hz (fun _ _=>by kernel_rfl) fun p h1 h2=>⟨trivial,rfl,fun w=>ZA p.1 p.2.1 p.2.2 h1 h2 w⟩
theorem A2C{p:Nat × Nat × Bool}{P:Pt KK}(hp:rel p P):gtu mK p.1 p.2.1 p.2.2=Hy (ME FK P):=by
 obtain⟨x,y,n⟩:=p;show gtu mK x y n=_;rw[Jh];have h:=Ry hp 2;unfold spt dpt at h;rw[if_neg (by decide),if_pos rfl,if_neg (by decide),if_pos rfl]at h;cases P with
 | none =>
  have hn:n=true:=hp;subst hn;rfl
 | some a b =>
  have h2:gtv pK x y n=(a.1,(FK.neg b).1,false):=h;rw[show gtv mK x y n=gtv pK x y n from rfl,h2];rfl
noncomputable def A0O:Con:=TU 7 fun p=>.tu (sP3 (ngP p)) (sIf (onB mK p))
theorem Xk{base:Nat}{γ0:Pl}{w0:World}:ConOk Tryz.prog base γ0 w0 A0O:=Hz (fun _ _=>by kernel_rfl) fun p h1 h2=>by
 refine⟨⟨(Fa Xi).1,trivial⟩,rfl,fun w=>?_⟩;have h:=Wi p.1 p.2.1 p.2.2 h1 h2 w;have hv:onB mK p=true->gtu mK p.1 p.2.1 p.2.2=Hy (ME FK (Ff p)):=fun hb=>A2C (Iw hb).1;rw[show onB mK (p.1,p.2.1,p.2.2)=onB mK p from rfl,<- Qc hv fun _=>0]at h;exact h
def smB(p q:Nat × Nat × Bool):Bool:=if (p.2.2||q.2.2)=true then p.2.2&&q.2.2 else decide (p.1=q.1/\p.2.1=q.2.1)
def Xl:Con:=A2B 15 fun p q=>.b (smB p q)
theorem Ou{base:Nat}{γ0:Pl}{w0:World}:ConOk Tryz.prog base γ0 w0 Xl:=RB (fun _ _=>by kernel_rfl) fun p q h1 h2 h3 h4=>⟨trivial,rfl,fun w=>Tw p.1 p.2.1 q.1 q.2.1 p.2.2 q.2.2 h1 h2 h3 h4 w⟩
def A0P(f:FuncId)(g:Nat->Nat × Nat × Bool->SV):Con:=Hl f fun l=>match l with
 | [.w k,x]=>(ptS x).map fun p=>(g k p,[])
 | _=>none
theorem Xm{base:Nat}{γ0:Pl}{w0:World}{f:FuncId}{g:Nat->Nat × Nat × Bool->SV}(hc:∀ as_ wx,(callFunc f as_).run Tryz.prog wx=.ok (.enter f as_) wx)
  (h:∀ k (p:Nat × Nat × Bool),k<2^256->p.1<2^256->p.2.1<2^256->(g k p).ok/\(g k p).lt 0=true/\∀ w,Calls Tryz.prog f #[.agg (pw k),.agg (pc p.1 p.2.1 p.2.2)] w fun e w'=>e=.returned ((g k p).val fun _=>0)/\Below w.heap.size w w'):ConOk Tryz.prog base γ0 w0 (A0P f g) :=
 Ca hc fun us r q hr hq hok=>by
  split at hr
  ·rename_i k x
   obtain⟨p,hp,e⟩:=Option.map_eq_some_iff.1 hr;cases e;have b1:=(Bz (γ:=fun _=>0) hp).2 (hok x υ);obtain⟨g1,g2,g3⟩:=h k p (hok (.w k) υ) b1.1 b1.2;refine⟨g1,g2,fun γ w=>?_⟩;have g4:=g3 w;rw[<- Mj (γ:=γ) g2,<- (Bz (γ:=γ) hp).1]at g4;exact g4
  ·cases hr
noncomputable def A4c:Con:=A0P 21 fun k p=>.tu (sP3 (muP k p)) (sIf (onB mK p))
theorem A0l{base:Nat}{γ0:Pl}{w0:World}:ConOk Tryz.prog base γ0 w0 A4c:=Xm (fun _ _=>by kernel_rfl) fun k p hk h1 h2=>by
 refine⟨⟨(Fa Xi).1,trivial⟩,rfl,fun w=>?_⟩;have h:=Xb k p.1 p.2.1 p.2.2 hk h1 h2 w;have e:[(k,p.1,p.2.1,p.2.2)].all (fun t=>onB mK t.2)=onB mK p:=by simp
 rw[e]at h;have hv:onB mK p=true->gpo mK (gwk mK [(k,p.1,p.2.1,p.2.2)] 257)=Hy (DJ FK k (Ff p)):=fun hb=>by
  have hr:=Iw hb;have hv:gpo pK (gwk pK [(k,p.1,p.2.1,p.2.2)] 257)=Hy (tot FK [(k,Ff p)]):=TR (L:=[(k,Ff p)]) ⟨rfl,hr.1,trivial⟩ (EF hr.2) (EF hk);rw[show tot FK [(k,Ff p)]=DJ FK k (Ff p) from Cw _]at hv;exact hv
 rw[<- Qc hv fun _=>0]at h;exact h
end Sy
open Go.RowKit
namespace Sy
def tlB(p:Nat × Nat × Bool)(e:Int)(q:Nat × Nat × Bool)(ok:Bool):Bool:=if ok=true then (if q.2.2=true then eqP p (0,0,true)&&eqI e 0 else eqP p q&&eqI e 0)else p.2.2&&eqI e 81
end Sy
open Sy
theorem Xn(p:Nat × Nat × Bool)(e:Int)(q:Nat × Nat × Bool)(ok:Bool)(h1:p.1<2^256)(h2:p.2.1<2^256)(h3:q.1<2^256)(h4:q.2.1<2^256)(w:World):Calls Tryz.prog 13 #[.agg (pc p.1 p.2.1 p.2.2),.int .i64 e,.agg (pc q.1 q.2.1 q.2.2),.bool ok] w fun r w'=>r=.returned (.bool (tlB p e q ok))/\Below w.heap.size w w':=by
 obtain⟨px,py,pn⟩:=p;obtain⟨qx,qy,qn⟩:=q;refine AJ (El (more:=[]) (γ0:=fun _=>0) trivial) ω (fun _=>0) Tryz.func13 ω [sP px py pn,.i .i64 e,sP qx qy qn,.b ok] ⟨⟨⟨h1,h2,trivial,trivial⟩,rfl⟩,⟨trivial,rfl⟩,⟨⟨h3,h4,trivial,trivial⟩,rfl⟩,⟨trivial,rfl⟩,trivial⟩ ω ω
  (.br (!ok) (.leaf (.b (bif pn then eqI e 81 else false))) (.br qn (.leaf (.b (bif eqP (px,py,pn) (0,0,true)then eqI e 0 else false))) (.leaf (.b (bif eqP (px,py,pn) (qx,qy,qn)then eqI e 0 else false))))) ω ⟨fun h=>?_,fun h=>⟨fun h'=>?_,fun h'=>?_⟩⟩
 ·cases ok <;> first | (cases h;done) | skip
  show Value.bool (bif pn then eqI e 81 else false)=Value.bool (pn&&eqI e 81);cases pn <;> rfl
 ·cases ok <;> first | (cases h;done) | skip
  subst h';show Value.bool (bif eqP (px,py,pn) (0,0,true)then eqI e 0 else false)=Value.bool (eqP (px,py,pn) (0,0,true)&&eqI e 0);cases eqP (px,py,pn) (0,0,true) <;> rfl
 ·cases ok <;> first | (cases h;done) | skip
  subst h';show Value.bool (bif eqP (px,py,pn) (qx,qy,false)then eqI e 0 else false)=Value.bool (eqP (px,py,pn) (qx,qy,false)&&eqI e 0);cases eqP (px,py,pn) (qx,qy,false) <;> rfl
namespace Sy
def A0Q:Con:=Hl 13 fun l=>match l with
 | [x,u,y,b]=>match ptS x,Vv u,ptS y,Pz b with
  | some p,some (.i64,k),some q,some b=>some (.b (tlB p k q b),[])
  | _,_,_,_=>none
 | _=>none
theorem Xo{base:Nat}{γ0:Pl}{w0:World}:ConOk Tryz.prog base γ0 w0 A0Q:=Ca (fun _ _=>by kernel_rfl) fun us r q hr hq hok=>by
 split at hr
 ·rename_i x u y b
  split at hr
  ·rename_i p k q b hp he hq' hb
   cases hr;have b1:=(Bz (γ:=fun _=>0) hp).2 (hok x υ);have b2:=(Bz (γ:=fun _=>0) hq').2 (hok y υ);refine⟨trivial,rfl,fun γ w=>?_⟩;have g4:=Xn p k q b b1.1 b1.2 b2.1 b2.2 w;rw[<- (Bz (γ:=γ) hp).1,<- M5 (γ:=γ) he,<- (Bz (γ:=γ) hq').1,<- M6 (γ:=γ) hb]at g4;exact g4
  ·cases hr
 ·cases hr
def gP:Nat × Nat × Bool:=(55066263022277343669578718895168534326250603453777594175500187360389116729240,32670510020758816978083085130507043184471273380659243275938904335757337482424,false)
def dP:Nat × Nat × Bool:=(89565891926547004231252920425935692360644145829622209833684329913297188986597,12158399299693830322967808612713398636155367887041628176798871954788371653930,false)
theorem Kn:gP.1<2^256/\gP.2.1<2^256:=by decide +kernel
theorem A0R:dP.1<2^256/\dP.2.1<2^256:=by decide +kernel
theorem A0S:rel gP GK:=by
 show _=((gxK,gyK,false):Nat × Nat × Bool);decide +kernel
theorem Xp{K:Type}{F:CField K}[DecidableEq K]{x y i:K}(hy:y≠F.zero)(hi:F.inv (F.add y y)=i):Ba F (.some x y) (.some x y)=EI F x y x (F.mul (F.add (F.mul x x) (F.add (F.mul x x) (F.mul x x))) i):=by
 subst hi;show(if x=x then (if y≠y\/y=F.zero then _ else _)else _)=_;rw[if_pos rfl,if_neg (by rintro(e | e);exact e rfl;exact hy e)]
def gxP:KK:=⟨gxK,by decide⟩
def gyP:KK:=⟨gyK,by decide⟩
def g2i:KK:=⟨83174505189910067536517124096019359197644205712500122884473429251812128958118,by decide⟩
def g2x:KK:=⟨dP.1,by decide⟩
def g2y:KK:=⟨dP.2.1,by decide⟩
theorem Xq:Ba FK GK GK=.some g2x g2y:=by
 have hi:FK.inv (FK.add gyP gyP)=g2i:=Qb prK (Bi (by decide +kernel));refine(Xp (x:=gxP) (y:=gyP) (fun h=>absurd (congrArg Subtype.val h) (by decide +kernel)) hi).trans ?_;have h1:FK.sub (FK.sub (FK.mul (FK.mul (FK.add (FK.mul gxP gxP) (FK.add (FK.mul gxP gxP) (FK.mul gxP gxP))) g2i) (FK.mul (FK.add (FK.mul gxP gxP) (FK.add (FK.mul gxP gxP) (FK.mul gxP gxP))) g2i)) gxP) gxP=g2x:=Bi (by decide +kernel);have h2:FK.sub (FK.mul (FK.mul (FK.add (FK.mul gxP gxP) (FK.add (FK.mul gxP gxP) (FK.mul gxP gxP))) g2i) (FK.sub gxP g2x)) gyP=g2y:=Bi (by decide +kernel);unfold EI;rw[h1,h2]
theorem RD:onB mK gP=true:=by decide +kernel
theorem A3L:adP gP gP=dP:=by
 unfold adP;rw[RD,MN A0S,Xq];rfl
theorem A3M:muP 2 gP=dP:=by
 unfold muP;rw[RD,MN A0S,show DJ FK 2 GK=Ba FK GK GK from by
  show Ba FK (Ba FK .none GK) GK=_;rfl,Xq]
 rfl
def Xr:Con:=Hl 11 fun l=>match l with
 | []=>some (sPk gP.1 gP.2.1 false,[])
 | _=>none
theorem Ov{base:Nat}{γ0:Pl}{w0:World}:ConOk Tryz.prog base γ0 w0 Xr:=Ca (fun _ _=>by kernel_rfl) fun us r q h hq hok=>by
 split at h
 ·cases h
  exact⟨⟨Kn.1,Kn.2,trivial,trivial⟩,rfl,fun γ w=>Tx w⟩
 ·cases h
def A0T:Con:=Hl 18 fun l=>match l with
 | [x,y]=>some (.tu (sPk dP.1 dP.2.1 false) (.v (.int .i64 0)),[.ask (x=sPk gP.1 gP.2.1 false/\y=sPk gP.1 gP.2.1 false)])
 | _=>none
def A0U:Con:=Hl 21 fun l=>match l with
 | [x,y]=>some (.tu (sPk dP.1 dP.2.1 false) (.v (.int .i64 0)),[.ask (x=.w 2/\y=sPk gP.1 gP.2.1 false)])
 | _=>none
theorem A0V:(SV.tu (sPk dP.1 dP.2.1 false) (.v (.int .i64 0))).ok:=⟨⟨A0R.1,A0R.2,trivial,trivial⟩,trivial⟩
theorem Xt{base:Nat}{γ0:Pl}{w0:World}:ConOk Tryz.prog base γ0 w0 A0T:=Ca (fun _ _=>by kernel_rfl) fun us r q h hq hok=>by
 split at h
 ·cases h
  obtain⟨rfl,rfl⟩:_/\_:=hq _ (.head _);refine⟨A0V,rfl,fun γ w=>?_⟩;have h:=((A0j (base:=0) (γ0:=fun _=>0) (w0:=w)).all 0 [] [sPk gP.1 gP.2.1 false,sPk gP.1 gP.2.1 false] _ _ _ rfl (fun _ h=>by cases h) (Nat.le_refl _) (fun x hx=>⟨hok x hx,by
   simp only[List.mem_cons,List.not_mem_nil,or_false]at hx;rcases hx with rfl | rfl <;> rfl⟩) (fun _ h=>by cases h)).2.2.2 γ (fun _ h=>by cases h) w (Below.refl _ _) (fun _ h=>by cases h)
  refine h.mono fun e w' hh=>?_;have q:=JO (r:=.tu (sP3 (adP gP gP)) (sIf (onB mK gP&&onB mK gP))) rfl hh;rw[A3L,RD]at q;exact⟨q.1.trans rfl,q.2⟩
 ·cases h
theorem Xu{base:Nat}{γ0:Pl}{w0:World}:ConOk Tryz.prog base γ0 w0 A0U:=Ca (fun _ _=>by kernel_rfl) fun us r q h hq hok=>by
 split at h
 ·cases h
  obtain⟨rfl,rfl⟩:_/\_:=hq _ (.head _);refine⟨A0V,rfl,fun γ w=>?_⟩;have h:=((A0l (base:=0) (γ0:=fun _=>0) (w0:=w)).all 0 [] [.w 2,sPk gP.1 gP.2.1 false] _ _ _ rfl (fun _ h=>by cases h) (Nat.le_refl _) (fun x hx=>⟨hok x hx,by
   simp only[List.mem_cons,List.not_mem_nil,or_false]at hx;rcases hx with rfl | rfl <;> rfl⟩) (fun _ h=>by cases h)).2.2.2 γ (fun _ h=>by cases h) w (Below.refl _ _) (fun _ h=>by cases h)
  refine h.mono fun e w' hh=>?_;have q:=JO (r:=.tu (sP3 (muP 2 gP)) (sIf (onB mK gP))) rfl hh;rw[A3M,RD]at q;exact⟨q.1.trans rfl,q.2⟩
 ·cases h
end Sy
theorem TV(w:World):Calls Tryz.prog 16 #[] w fun r w'=>r=.returned (.bool true)/\Below w.heap.size w w':=by
 refine AJ (El (more:=Xr::A0T::A0U::Xl::cOn::[]) (γ0:=fun _=>0) ⟨Ov,Xt,Xu,Ou,Xj,trivial⟩) ω (fun _=>0) Tryz.func16 ω [] trivial ω ω
  (let G:=sPk gP.1 gP.2.1 false;.need (G=G/\G=G) (.need (SV.w 2=SV.w 2/\G=G) (.leaf (.b (bif (bif smB dP dP then onB mK dP else false)then eqI (limb 3 dP.1) 14268669794154544493 else false))))) ω ⟨⟨rfl,rfl⟩,⟨rfl,rfl⟩,?_⟩
 show Value.bool _=.bool true;congr 1
namespace Sy
def Xv:Con:=Hl 16 fun l=>match l with
 | []=>some (.v (.bool true),[])
 | _=>none
theorem TW{base:Nat}{γ0:Pl}{w0:World}:ConOk Tryz.prog base γ0 w0 Xv:=Ca (fun _ _=>by kernel_rfl) fun us r q h hq hok=>by
 split at h
 ·cases h
  exact⟨trivial,rfl,fun γ w=>TV w⟩
 ·cases h
end Sy
open Go.RowKit
namespace Sy
theorem A2D{S:Pt KK}{r:Nat × Nat × Bool}(hr:rel r S):tlB (canon S) 0 r true=true:=by
 unfold tlB;rw[if_pos rfl];rcases MM hr with⟨h1,h2⟩ | ⟨h1,h2⟩
 ·rw[if_pos h1,h2]
  rfl
 ·rw[if_neg (by rw[h1];simp),<- h2]
  simp[eqP,eqI]
theorem A3N(q:Nat × Nat × Bool):tlB (0,0,true) 81 q false=true:=rfl
end Sy
open Sy
open Go.RowKit
namespace Sy
def sqr(m n:Nat):Nat:=n^(m / 2^2+1)%m
def sqB(m n:Nat):Bool:=decide (sqr m n*sqr m n%m=n%m)
def sqY(m n:Nat):Nat:=if sqr m n*sqr m n%m=n%m then sqr m n else 0
theorem Xw{m:Nat}(h0:0<m)(n:Nat):sqY m n<m:=by
 unfold sqY
 split
 ·exact Nat.mod_lt _ h0
 ·exact h0
def Xx(ext:Bool)(m lo:Nat):Con:=Wu ext m lo 48 fun n=>(.tu (.w (sqY m n)) (.b (sqB m n)),[.ask (n<m)])
theorem TY{ext:Bool}{m lo:Nat}{γ0:Pl}{w0:World}(hf:ROk ext m lo γ0 w0)(h3:m%4=3):ConOk Tryz.prog 1 γ0 w0 (Xx ext m lo) :=
 Jf hf (fun _ _=>by kernel_rfl) (fun n=>⟨⟨Nat.lt_trans (Xw τ n) hf.lt,trivial⟩,rfl⟩) fun F n hn hq w hF=>by
  have hlt:n<m:=hq _ (.head _);have h:=TA F m n h3 hlt hf.lt w hF;have e:n%m=n:=Nat.mod_eq_of_lt hlt;have e1:sqY m n=if sqr m n*sqr m n%m=n then sqr m n else 0:=by unfold sqY;rw[e]
  have e2:sqB m n=decide (sqr m n*sqr m n%m=n):=by unfold sqB;rw[e]
  show Calls _ _ _ _ fun e w'=>e=.returned (.tuple #[.agg (pw (sqY m n)),.bool (sqB m n)])/\_;rw[e1,e2];exact h
def gl(m x:Nat):Nat:=(x*x%m*x%m+7)%m
def par(y:Nat):Bool:=eqI ((limb 0 y).tmod 2) 1
def Iy(x:Nat):Bool:=bif !(sqB mK (gl mK x))then true else !(ltN x mK)
def liP(x:Nat)(odd:Bool):Nat × Nat × Bool:=if Iy x=true then (0,0,true)else if eqB odd (par (sqY mK (gl mK x)))=true then (x,sqY mK (gl mK x),false)else gtT mK x (sqY mK (gl mK x)) false
theorem A2E(n:Nat):sqY mK n<mK:=Xw (by decide) n
theorem A0W:mK<2^256:=by decide
theorem A3O{x:Nat}{odd:Bool}(h:Iy x=false)(h1:eqB odd (par (sqY mK (gl mK x)))=false):liP x odd=gtT mK x (sqY mK (gl mK x)) false:=by
 unfold liP;rw[if_neg (by rw[h];simp),if_neg (by rw[h1];simp)]
theorem Xy{x:Nat}{odd:Bool}(h:Iy x=false)(h1:eqB odd (par (sqY mK (gl mK x)))=true):liP x odd=(x,sqY mK (gl mK x),false):=by
 unfold liP;rw[if_neg (by rw[h];simp),if_pos h1]
theorem MO{x:Nat}(h:sqB mK (gl mK x)=false\/ltN x mK=false):Iy x=true:=by
 unfold Iy;rcases h with h | h <;> rw[h]
 ·rfl
 ·cases sqB mK (gl mK x) <;> rfl
theorem Xz{x:Nat}{odd:Bool}(h:sqB mK (gl mK x)=false\/ltN x mK=false):liP x odd=(0,0,true):=if_pos (MO h)
theorem Ow(a b:Bool):eqB a b=eqB b a:=by cases a <;> cases b <;> rfl
theorem A2F{x y:Nat}(h:y<mK):gtT mK x y false=(x,rS mK 0 y,false):=by
 unfold gtT;rw[if_neg Bool.false_ne_true,A0G (by decide) h A0W,Nat.zero_mod,Nat.mod_eq_of_lt h]
end Sy
open Sy
theorem TZ(x:Nat)(odd:Bool)(hx:x<2^256)(w:World):Calls Tryz.prog 25 #[.agg (pw x),.bool odd] w fun r w'=>r=.returned ((SV.tu (sP3 (liP x odd)) (sIf (!Iy x))).val fun _=>0)/\Below w.heap.size w w':=by
 refine AJ (El (more:=cF::Q0::Xx false mK loK::refs false mK loK) ⟨A0K,L8,TY (rK w) (by decide),Rc (rK w)⟩) ω (fun _=>0) Tryz.func25 ω [.w x,.b odd] ⟨⟨hx,rfl⟩,⟨trivial,rfl⟩,trivial⟩ ω ω
  (let n:=gl mK x;let Y:=sqY mK n
  .br (!(ltN x mK)) (.leaf (.tu (sPk 0 0 true) (.v (.int .i64 81)))) (.need (x<mK/\7<mK) (.need (n<mK) (.br (!(sqB mK n)) (.leaf (.tu (sPk 0 0 true) (.v (.int .i64 81)))) (.need ((2:Int)≠0) (.br (!(eqB (par Y) odd)) (.leaf (.tu (sPk x (rS mK 0 Y) false) (.v (.int .i64 0)))) (.leaf (.tu (sPk x Y false) (.v (.int .i64 0)))))))))) ω ?_
 have hg:gl mK x<mK:=Nat.mod_lt _ (by decide);refine⟨fun h=>?_,fun h=>?_⟩
 ·rw[Xz (.inr (by simpa using h)),MO (.inr (by simpa using h))]
  rfl
 have hx':ltN x mK=true:=by simpa using h
 refine⟨⟨of_decide_eq_true hx',by decide⟩,hg,fun h1=>?_,fun h1=>⟨by decide,fun h2=>?_,fun h2=>?_⟩⟩
 ·rw[Xz (.inl (by simpa using h1)),MO (.inl (by simpa using h1))]
  rfl
 ·have hb:Iy x=false:=by
   unfold Iy;rw[show sqB mK (gl mK x)=true by simpa using h1,hx'];rfl
  have h2:eqB odd (par (sqY mK (gl mK x)))=false:=by rw[Ow];simpa using h2
  rw[A3O hb h2,A2F (A2E _),hb];rfl
 ·have hb:Iy x=false:=by
   unfold Iy;rw[show sqB mK (gl mK x)=true by simpa using h1,hx'];rfl
  have h2:eqB odd (par (sqY mK (gl mK x)))=true:=by rw[Ow];simpa using h2
  rw[Xy hb h2,hb];rfl
namespace Sy
end Sy
open Go.RowKit
theorem Qd(x a0 a1 a2 a3:Nat)(hp:∀ p,p<4->(#[Value.int .u64 a0,.int .u64 a1,.int .u64 a2,.int .u64 a3]:Array Value)[p]?=some (.int .u64 (pN x p:Nat)))(w:World) :
  Calls Tryz.prog 34 #[.agg #[.int .u64 a0,.int .u64 a1,.int .u64 a2,.int .u64 a3]] w fun e w'=>e=.returned (.agg (Bw (bt x) 32))/\Below w.heap.size w w':=by
 have HP:=Lib.hid hp;clear hp;go_enter Tryz.func34,Tryz.ntmps34;go_wp2
 go_loopw [6] (fun i wr=>∃ k:Nat,k<=32/\i=.int .i64 k/\Hid (wr.heap[w.heap.size]?=some (.cells #[Value.int .u64 a0,.int .u64 a1,.int .u64 a2,.int .u64 a3] 24 (0,0))/\wr.heap[w.heap.size+1]?=some (.cells (Bw (bt x) 0) 61 (0,0))/\wr.heap[w.heap.size+1+1]?=some (.cells (Bw (bt x) k) 61 (0,0))/\Below w.heap.size w wr))
  (fun i _=>32 - (intOf i).toNat)
 case atStart =>
  refine⟨0,τ,rfl,Lib.hid ⟨(Cs _ _ _ _).1,?_,?_,by go_grown⟩⟩
  ·rw[IC];exact(Cs _ _ _ _).2.1
  ·rw[IC];exact(Cs _ _ _ _).2.2
 case round =>
  obtain⟨k,hk,rfl,H⟩:=hrel;have hk0:(0:Int)<=k:=by omega
  have hk1:(k:Int)<=32:=by omega
  by_cases hlt:k<32
  ·obtain⟨q,hq⟩:∃ q:Nat,31 - (k:Int)=(q:Int):=⟨31 - k,τ⟩
   obtain⟨p,hp⟩:∃ p:Nat,(q:Int) / 8=(p:Int):=⟨q / 8,τ⟩
   obtain⟨s,hs⟩:∃ s:Nat,(q:Int)%8*8=(s:Int):=⟨q%8*8,τ⟩
   have hq0:(0:Int)<=q:=by omega
   have hq1:(q:Int)<=31:=by omega
   have hp0:(0:Int)<=p:=by omega
   have hp1:(p:Int)<4:=by omega
   have hs0:(0:Int)<=s:=by omega
   have hs1:(s:Int)<64:=by omega
   have ca:wr.cell? ⟨w.heap.size,p,none⟩=some (.int .u64 (pN x p:Nat)):=(cell_of_row wr _ p _ _ _ H.out.1).trans (HP.out p τ);have cb:wr.cell? ⟨w.heap.size+1+1,k,none⟩=some (.int .u8 0):=by
    rw[cell_of_row wr _ k _ _ _ H.out.2.2.1,Qi _ _ _ hlt,if_neg τ];rfl
   have cf:wr.frozen? ⟨w.heap.size+1+1,k,none⟩=false:=frozen_of_row wr _ k _ _ H.out.2.2.1;have hv:((pN x p:Nat):Int) / 2^s%256=((bt x k:Nat):Int):=by
    rw[<- A2O x k p s hlt τ τ];simp
   have hpl:=DL x p;have HV:=Lib.hid hv;clear hv;go_wp2
   go_roundw
   case rel =>
    refine⟨k+1,τ,by go_num,Lib.hid ⟨(heap_setCell_other _ _ _ _ (by simp;omega)).trans H.out.1,(heap_setCell_other _ _ _ _ υ).trans H.out.2.1,?_,H.out.2.2.2.setCell (by simp;omega) _⟩⟩;rw[heap_setCell_same _ _ _ _ _ _ H.out.2.2.1,HV.out,Ul _ _ hlt]
   case measure=>simp[intOf];omega
  ·obtain rfl:k=32:=by omega
   have hi:(Tryz.prog.info? 61).map (·.size)=some (Bw (bt x) 32).size:=by rw[BC];kernel_rfl
   have HI:=Lib.hid hi;clear hi
   go_wp2_with (first | (refine wpList_load_row rfl 61 _ rfl (w.heap.size+1+1) rfl 61 _ (0,0) _ H.out.2.2.1 Tryz.underlying61 rfl HI.out ?_) | (refine wpList_store_row rfl 61 _ _ rfl (w.heap.size+1) (Bw (bt x) 32) rfl rfl 61 (Bw (bt x) 0) H.out.2.1 HI.out (by rw[BC,BC]) (Jq _ _) ?_))
   refine bodyPost_ret (v:=.agg (Bw (bt x) 32)) (results_cell_row (p:=2) rfl _ _ (w.heap.size+1) 61 _ (0,0) _ rfl (setRow_heap _ _ _ _ _ _ H.out.2.1) Tryz.underlying61 rfl HI.out) rfl ⟨rfl,below_setRow H.out.2.2.2 τ _⟩
theorem Ko(x:Nat)(w:World):Calls Tryz.prog 34 #[.agg (pw x)] w fun e w'=>e=.returned (.agg (Bw (bt x) 32))/\Below w.heap.size w w' :=
 Qd x _ _ _ _ (fun p hp=>Qt x p hp) w
end Go.Proofs.YtphafjbajlcbnaaGreat
