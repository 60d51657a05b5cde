/- Prime numbers: Fermat's and Pocklington's theorems, and that the three moduli of the curves are prime. (Cut to what is reached, written closely: SyU · SyP · SyN · SyQ · Prm.) -/
import Derived.Test.YtphafjbajlcbnaaGreatB26
import Derived.Laws.Bits64b
set_option linter.all false
set_option maxRecDepth 100000
set_option maxHeartbeats 8000000
namespace Go.Proofs.YtphafjbajlcbnaaGreat
open Go.RowKit
namespace Sy
def Hl(f:FuncId)(g:List SV->Option (SV × List Ob)):Con:=⟨f,fun _ _ l=>(g l).map fun q=>(q.1,q.2,[])⟩
theorem Ca{P:Program}{base:Nat}{γ0:Pl}{w0:World}{f:FuncId}{g:List SV->Option (SV × List Ob)}(hc:∀ as_ wx,(callFunc f as_).run P wx=.ok (.enter f as_) wx)
  (h:∀ us r q,g us=some (r,q)->All q->(∀ x∈us,x.ok)->r.ok/\r.lt 0=true/\∀ γ w,Calls P f (us.map (·.val γ)).toArray w fun e w'=>e=.returned (r.val γ)/\Below w.heap.size w w'):ConOk P base γ0 w0 (Hl f g) :=
 .of hc fun n M l r p R hr hp hok=>by
  obtain⟨q,hq,e⟩:=Option.map_eq_some_iff.1 hr;cases e;have:=h l q.1 q.2 hq hp hok;exact⟨rfl,this.1,this.2.1,fun γ _ wx _ _=>this.2.2 γ wx⟩
theorem Jb{x:SV}{γ:Pl}{F:Nat}{ext:Bool}{m:Nat}{M:Rows}{p:List Ob}(hx:isF ext m M x=some p)(h:x.val γ=.pointer (some ⟨F,0,none⟩)):(SV.ap x .e).val γ=.agg #[.pointer (some ⟨F,0,none⟩)]:=by
 cases x <;> first | (cases hx;done) | skip
 simpa[SV.val,SV.cells,SV.sc]using h
def PM(ext:Bool)(m:Nat)(f:FuncId)(g:List SV->Option (SV × List Ob)):Con:=⟨f,fun _ M l=>match l with
 | .ap x .e::us=>match isF ext m M x,g us with
  | some p,some (r,q)=>some (r,q++p,[])
  | _,_=>none
 | _=>none⟩
theorem Hm{P:Program}{ext:Bool}{m:Nat}{γ0:Pl}{w0:World}{f:FuncId}{g:List SV->Option (SV × List Ob)}(hf:FOk ext m γ0 w0)(hc:∀ as_ wx,(callFunc f as_).run P wx=.ok (.enter f as_) wx)
  (h:∀ us r q,g us=some (r,q)->All q->(∀ x∈us,x.ok)->r.ok/\r.lt 0=true/\∀ γ F w,FldAt w F m->Calls P f (.agg #[.pointer (some ⟨F,0,none⟩)]::us.map (·.val γ)).toArray w fun e w'=>e=.returned (r.val γ)/\Below w.heap.size w w'):ConOk P 1 γ0 w0 (PM ext m f g) :=
 .of hc fun n M l r p R hr hp hok=>by
  unfold PM at hr;dsimp only at hr
  split at hr
  ·rename_i x us
   split at hr
   ·rename_i p' r' q hx hq
    cases hr;obtain⟨g1,g2,g3⟩:=h us r q hq (fun a ha=>hp a (List.mem_append_left _ ha)) fun x hx=>hok x (.tail _ hx);refine⟨rfl,g1,g2,?_⟩;intro γ hγ wx hw hL;obtain⟨F,h1,h2⟩:=Im hx (fun a ha=>hp a (List.mem_append_right _ ha)) hf hγ hw hL;have g4:=g3 γ F wx h2;rw[<- Jb hx h1]at g4;exact g4
   ·cases hr
  ·cases hr
def cOf:Con:=Hl 70 fun l=>match l with
 | [x]=>(IP x).map fun k=>(.w k,[])
 | _=>none
theorem A1P{base:Nat}{γ0:Pl}{w0:World}:ConOk Tryz.prog base γ0 w0 cOf:=Ca (fun _ _=>by kernel_rfl) fun us r q h hq hok=>by
 split at h
 ·obtain⟨k,hk,e⟩:=Option.map_eq_some_iff.1 h
  cases e;have hlt:=(BO (γ:=fun _=>0) hk).2;refine⟨Nat.lt_trans hlt (by decide),rfl,fun γ w=>?_⟩;have g:=FL k hlt w;rw[<- (BO (γ:=γ) hk).1]at g;exact g
 ·cases h
def YY(m:Nat)(T:Nat × Nat × Nat):Nat × Nat × Nat :=
 let rise:=(T.2.1+T.2.1)%m
 let half:=T.2.1*rise%m
 let square:=(half+half)%m
 let middle:=T.1*square%m
 let xx:=T.1*T.1%m
 let slope:=((xx+xx)%m+xx)%m
 let x:=(slope*slope%m%m+(m - (middle+middle)%m%m))%m
 (x,(slope*((middle%m+(m - x%m))%m)%m%m+(m - half*square%m%m))%m,rise*T.2.2%m)
end Sy
open Sy
theorem JZ(F m X Y Z:Nat)(hX:X<2^256)(hY:Y<2^256)(hZ:Z<2^256)(w:World)(hF:FldAt w F m):Calls Tryz.prog 67 #[.agg #[.pointer (some ⟨F,0,none⟩)],.agg (jc X Y Z)] w fun r w'=>r=.returned (.agg (jt (gtw m (X,Y,Z))))/\Below w.heap.size w w':=by
 refine AJ (El (Hg (FOk.of hF))) ω (fun _=>0) Tryz.func67 ω [sG,sJ (X,Y,Z)] ⟨⟨⟨trivial,trivial⟩,rfl⟩,⟨⟨hX,hY,hZ,trivial⟩,rfl⟩,trivial⟩ ω ω
  (.br (eqN Z 0) (.leaf (sJ (X,Y,Z))) (.leaf (sJ (YY m (X,Y,Z))))) ω ⟨fun h=>?_,fun h=>?_⟩
 ·show(sJ (X,Y,Z)).val _=.agg (jt (if Z=0 then (X,Y,Z)else YY m (X,Y,Z)))
  rw[if_pos (of_decide_eq_true h)];rfl
 ·show(sJ (YY m (X,Y,Z))).val _=.agg (jt (if Z=0 then (X,Y,Z)else YY m (X,Y,Z)))
  rw[if_neg (of_decide_eq_false h)];rfl
namespace Sy
def A1Q(ext:Bool)(m:Nat)(f:FuncId)(g:Nat->Nat->Nat->SV):Con:=PM ext m f fun l=>match l with
 | [.ap (.w X) (.ap (.w Y) (.ap (.w Z) .e))]=>some (g X Y Z,[])
 | _=>none
theorem QP{ext:Bool}{m:Nat}{γ0:Pl}{w0:World}{f:FuncId}{g:Nat->Nat->Nat->SV}(hf:FOk ext m γ0 w0)(hc:∀ as_ wx,(callFunc f as_).run Tryz.prog wx=.ok (.enter f as_) wx)(hg:∀ X Y Z,X<2^256->Y<2^256->Z<2^256->(g X Y Z).ok/\(g X Y Z).lt 0=true)
  (h:∀ F X Y Z,X<2^256->Y<2^256->Z<2^256->∀ w,FldAt w F m->Calls Tryz.prog f #[.agg #[.pointer (some ⟨F,0,none⟩)],.agg (jc X Y Z)] w fun e w'=>e=.returned ((g X Y Z).val fun _=>0)/\Below w.heap.size w w'):ConOk Tryz.prog 1 γ0 w0 (A1Q ext m f g) :=
 Hm hf hc fun us r q hr hq hok=>by
  split at hr
  ·rename_i X Y Z
   cases hr;obtain⟨h1,h2,h3,_⟩:=hok (.ap (.w X) (.ap (.w Y) (.ap (.w Z) .e))) υ;have q:=hg X Y Z h1 h2 h3;exact⟨q.1,q.2,fun γ F w hF=>by rw[Mj q.2];exact h F X Y Z h1 h2 h3 w hF⟩
  ·cases hr
theorem A0z{T:Nat × Nat × Nat}(h:T.1<2^256/\T.2.1<2^256/\T.2.2<2^256):(sJ T).ok/\(sJ T).lt 0=true:=⟨⟨h.1,h.2.1,h.2.2,trivial⟩,rfl⟩
def VH(ext:Bool)(m:Nat):Con:=A1Q ext m 67 fun X Y Z=>sJ (gtw m (X,Y,Z))
theorem Tj{ext:Bool}{m:Nat}{γ0:Pl}{w0:World}(hf:FOk ext m γ0 w0):ConOk Tryz.prog 1 γ0 w0 (VH ext m) :=
 QP hf (fun _ _=>by kernel_rfl) (fun _ _ _ hX hY hZ=>A0z (PE (m:=m) (by have:=hf.big;omega) hf.lt hX hY hZ rfl)) fun F X Y Z hX hY hZ w hF=>JZ F m X Y Z hX hY hZ w hF
def pA(m X Z x:Nat):Nat:=(x*(Z*Z%m)%m%m+(m - X%m))%m
def pU(m Y Z y:Nat):Nat:=(y*(Z*Z%m*Z%m)%m%m+(m - Y%m))%m
def A1R(m X Y Z x y:Nat):Nat × Nat × Nat :=
 let across:=pA m X Z x
 let up:=pU m Y Z y
 let square:=across*across%m
 let cube:=square*across%m
 let middle:=X*square%m
 let x3:=(((up*up%m%m+(m - cube%m))%m)%m+(m - (middle+middle)%m%m))%m
 (x3,(up*((middle%m+(m - x3%m))%m)%m%m+(m - Y*cube%m%m))%m,Z*across%m)
theorem Mo(m X Y Z x y:Nat)(n:Bool):gpl m (X,Y,Z) x y n=if n=true then (X,Y,Z)else if Z=0 then (x,y,1)else if pA m X Z x=0/\pU m Y Z y=0 then gtw m (X,Y,Z)else A1R m X Y Z x y:=rfl
end Sy
theorem KU(F m X Y Z x y:Nat)(n:Bool)(hX:X<2^256)(hY:Y<2^256)(hZ:Z<2^256)(hx:x<2^256)(hy:y<2^256)(w:World)(hF:FldAt w F m):Calls Tryz.prog 63 #[.agg #[.pointer (some ⟨F,0,none⟩)],.agg (jc X Y Z),.agg (pc x y n)] w fun r w'=>r=.returned (.agg (jt (gpl m (X,Y,Z) x y n)))/\Below w.heap.size w w':=by
 refine AJ (El (more:=cOf::VH true m::VF true m) ⟨A1P,Tj (FOk.of hF),Hg (FOk.of hF)⟩) ω (fun _=>0) Tryz.func63 ω [sG,sJ (X,Y,Z),sP x y n] ⟨⟨⟨trivial,trivial⟩,rfl⟩,⟨⟨hX,hY,hZ,trivial⟩,rfl⟩,⟨⟨hx,hy,trivial,trivial⟩,rfl⟩,trivial⟩ ω ω
  (.br n (.leaf (sJ (X,Y,Z))) (.br (eqN Z 0) (.leaf (sJ (x,y,1))) (.br (bif eqN (pA m X Z x) 0 then eqN (pU m Y Z y) 0 else false) (.leaf (sJ (gtw m (X,Y,Z)))) (.leaf (sJ (A1R m X Y Z x y)))))) ω ?_
 refine⟨fun h=>?_,fun h=>⟨fun h2=>?_,fun h2=>⟨fun h3=>?_,fun h3=>?_⟩⟩⟩
 ·show(sJ (X,Y,Z)).val _=.agg (jt (gpl m (X,Y,Z) x y n))
  rw[Mo,if_pos h];rfl
 ·show(sJ (x,y,1)).val _=.agg (jt (gpl m (X,Y,Z) x y n))
  rw[Mo,if_neg (by rw[h];simp),if_pos (of_decide_eq_true h2)];rfl
 ·show(sJ (gtw m (X,Y,Z))).val _=.agg (jt (gpl m (X,Y,Z) x y n))
  have h4:pA m X Z x=0/\pU m Y Z y=0:=by simpa[eqN]using h3
  rw[Mo,if_neg (by rw[h];simp),if_neg (of_decide_eq_false h2),if_pos h4];rfl
 ·show(sJ (A1R m X Y Z x y)).val _=.agg (jt (gpl m (X,Y,Z) x y n))
  have h4:¬(pA m X Z x=0/\pU m Y Z y=0):=by simpa[eqN]using h3
  rw[Mo,if_neg (by rw[h];simp),if_neg (of_decide_eq_false h2),if_neg h4];rfl
theorem Ip(w:World):Calls Tryz.prog 28 #[] w fun r w'=>r=.returned (.agg (pc 0 0 true))/\Below w.heap.size w w' :=
 AJ (El (more:=[]) (γ0:=fun _=>0) trivial) ω (fun _=>0) Tryz.func28 ω [] trivial ω ω (.leaf (sPk 0 0 true)) ω rfl
namespace Sy
def KV:Con:=Hl 28 fun l=>match l with
 | []=>some (sPk 0 0 true,[])
 | _=>none
theorem Ho{base:Nat}{γ0:Pl}{w0:World}:ConOk Tryz.prog base γ0 w0 KV:=Ca (fun _ _=>by kernel_rfl) fun us r q h hq hok=>by
 split at h
 ·cases h
  exact⟨⟨AV,AV,trivial,trivial⟩,rfl,fun γ w=>Ip w⟩
 ·cases h
end Sy
theorem IQ(F m x y:Nat)(n:Bool)(hx:x<2^256)(hy:y<2^256)(w:World)(hF:FldAt w F m):Calls Tryz.prog 29 #[.agg #[.pointer (some ⟨F,0,none⟩)],.agg (pc x y n)] w fun r w'=>r=.returned (.agg (gtu m x y n))/\Below w.heap.size w w':=by
 refine AJ (El (more:=KV::VF true m) ⟨Ho,Hg (FOk.of hF)⟩) ω (fun _=>0) Tryz.func29 ω [sG,sP x y n] ⟨⟨⟨trivial,trivial⟩,rfl⟩,⟨⟨hx,hy,trivial,trivial⟩,rfl⟩,trivial⟩ ω ω
  (.br n (.leaf (sPk 0 0 true)) (.leaf (sPk x ((0%m+(m - y%m))%m) false))) ω ⟨fun h=>?_,fun h=>?_⟩
 ·subst h;rfl
 ·subst h;rfl
theorem K3(F m X Y Z:Nat)(hX:X<2^256)(hY:Y<2^256)(hZ:Z<2^256)(w:World)(hF:FldAt w F m):Calls Tryz.prog 64 #[.agg #[.pointer (some ⟨F,0,none⟩)],.agg (jc X Y Z)] w fun r w'=>r=.returned (.agg (gpo m (X,Y,Z)))/\Below w.heap.size w w':=by
 refine AJ (El (more:=KV::VF true m) ⟨Ho,Hg (FOk.of hF)⟩) ω (fun _=>0) Tryz.func64 ω [sG,sJ (X,Y,Z)] ⟨⟨⟨trivial,trivial⟩,rfl⟩,⟨⟨hX,hY,hZ,trivial⟩,rfl⟩,trivial⟩ ω ω
  (.br (!(eqN (Z*iv m Z%m) 1)) (.leaf (sPk 0 0 true)) (let i:=if Z*iv m Z%m=1 then iv m Z else 0;let q:=i*i%m;.leaf (sPk (X*q%m) (Y*(q*i%m)%m) false))) ω ⟨fun h=>?_,fun h=>?_⟩
 ·have h:¬Z*iv m Z%m=1:=by simpa[eqN]using h
  show Value.agg (pc 0 0 true)=.agg (gpo m (X,Y,Z));unfold gpo;exact congrArg _ (if_neg h).symm
 ·have h:Z*iv m Z%m=1:=by simpa[eqN]using h
  rw[if_pos h];show Value.agg (pc (X*(iv m Z*iv m Z%m)%m) (Y*(iv m Z*iv m Z%m*iv m Z%m)%m) false)=.agg (gpo m (X,Y,Z));unfold gpo;exact congrArg _ (if_pos h).symm
namespace Sy
def A1S(ext:Bool)(m:Nat)(f:FuncId)(g:Nat->SV):Con:=PM ext m f fun l=>match l with
 | [.w a]=>some (g a,[])
 | _=>none
theorem QQ{ext:Bool}{m:Nat}{γ0:Pl}{w0:World}{f:FuncId}{g:Nat->SV}(hf:FOk ext m γ0 w0)(hc:∀ as_ wx,(callFunc f as_).run Tryz.prog wx=.ok (.enter f as_) wx)(hg:∀ a,(g a).ok/\(g a).lt 0=true)
  (h:∀ F a,a<2^256->∀ w,FldAt w F m->Calls Tryz.prog f #[.agg #[.pointer (some ⟨F,0,none⟩)],.agg (pw a)] w fun e w'=>e=.returned ((g a).val fun _=>0)/\Below w.heap.size w w'):ConOk Tryz.prog 1 γ0 w0 (A1S ext m f g) :=
 Hm hf hc fun us r q hr hq hok=>by
  split at hr
  ·rename_i a
   cases hr;exact⟨(hg a).1,(hg a).2,fun γ F w hF=>by rw[Mj (hg a).2];exact h F a (hok (.w a) υ) w hF⟩
  ·cases hr
def VI(ext:Bool)(m:Nat):Con:=A1S ext m 47 fun a=>.b (ltN a m)
def QR(ext:Bool)(m:Nat):Con:=A1S ext m 46 fun a=>.w ((a*a%m*a%m+7)%m)
theorem Tk{ext:Bool}{m:Nat}{γ0:Pl}{w0:World}(hf:FOk ext m γ0 w0):ConOk Tryz.prog 1 γ0 w0 (VI ext m) :=
 QQ hf (fun _ _=>by kernel_rfl) (fun _=>⟨trivial,rfl⟩) fun F a ha w hF=>Pq F m a ha w hF
theorem PN{ext:Bool}{m:Nat}{γ0:Pl}{w0:World}(hf:FOk ext m γ0 w0):ConOk Tryz.prog 1 γ0 w0 (QR ext m) :=
 QQ hf (fun _ _=>by kernel_rfl) (fun _=>⟨hf.mod _,rfl⟩) fun F a ha w hF=>NG F m a ha w hF
end Sy
theorem VJ(F m x y:Nat)(hx:x<2^256)(hy:y<2^256)(w:World)(hF:FldAt w F m):Calls Tryz.prog 50 #[.agg #[.pointer (some ⟨F,0,none⟩)],.agg (pw x),.agg (pw y)] w fun r w'=>r=.returned (.bool (decide (x<m/\y<m/\y*y%m=(x*x%m*x%m+7)%m)))/\Below w.heap.size w w':=by
 refine AJ (El (more:=VI true m::QR true m::VF true m) ⟨Tk (FOk.of hF),PN (FOk.of hF),Hg (FOk.of hF)⟩) ω (fun _=>0) Tryz.func50 ω [sG,.w x,.w y] ⟨⟨⟨trivial,trivial⟩,rfl⟩,⟨hx,rfl⟩,⟨hy,rfl⟩,trivial⟩ ω ω
  (.leaf (.b (bif (bif ltN x m then ltN y m else false)then eqN (y*y%m) ((x*x%m*x%m+7)%m)else false))) ω ?_
 show Value.bool _=.bool _;congr 1;rw[Bool.eq_iff_iff];simp[ltN,eqN,and_assoc]
open Go.RowKit
namespace Sy
def A3n(m a b:Nat):Bool:=decide (a<m/\b<m/\b*b%m=(a*a%m*a%m+7)%m)
def A1T(ext:Bool)(m:Nat):Con:=PM ext m 50 fun l=>match l with
 | [.w a,.w b]=>some (.b (A3n m a b),[])
 | _=>none
theorem YZ{ext:Bool}{m:Nat}{γ0:Pl}{w0:World}(hf:FOk ext m γ0 w0):ConOk Tryz.prog 1 γ0 w0 (A1T ext m):=Hm hf (fun _ _=>by kernel_rfl) fun us r q hr hq hok=>by
 split at hr
 ·rename_i a b
  cases hr;exact⟨trivial,rfl,fun γ F w hF=>VJ F m a b (hok (.w a) υ) (hok (.w b) υ) w hF⟩
 ·cases hr
def xlP(l:List (Nat × Nat × Bool))(T:TypeId)(g o j z:Nat):Option (SV × List Ob) :=
 if T=26/\g=1/\o=0/\z=9 then some (sP (l.getD j (0,0,false)).1 (l.getD j (0,0,false)).2.1 (l.getD j (0,0,false)).2.2,[.ask (j<l.length)])else none
noncomputable def EH (more:List Con) (l:List (Nat × Nat × Bool)):Env:=EG 2 more (xlP l) [(77,9)] []
theorem A0A{F g:Nat}{w:World}{more:List Con}{l:List (Nat × Nat × Bool)}(hm:ED Tryz.prog 2 (fun k=>if k=0 then F else g) w more)(hl:∀ p∈l,p.1<2^256/\p.2.1<2^256)(hg:w.heap[g]?=some (.cells (pls l) 26 (0,0))):(EH more l).Good (fun k=>if k=0 then F else g) w :=
 have hgl:=(Array.getElem?_eq_some_iff.1 hg).1
 A0y hm (fun T g' o j z r p h hp=>by
  unfold xlP at h
  split at h
  ·rename_i hh
   obtain⟨rfl,rfl,rfl,rfl⟩:=hh;cases h;have hj:j<l.length:=hp _ (.head _);have hq:=hl _ (List.getElem_mem hj);have e:l.getD j (0,0,false)=l[j]:=by simp[List.getD,hj]
   refine⟨by rw[e];exact⟨hq.1,hq.2,trivial,trivial⟩,rfl,by decide,fun γ hγ wx hw=>?_⟩;rw[hγ 1 (by decide),e];exact DY _ ((hw.block _ hgl).trans hg) (Vx l j _ _ _ (List.getElem?_eq_getElem hj)) Tryz.underlying26 rfl ω
  ·cases h) (fun q hq=>by
  simp only[List.mem_cons,List.not_mem_nil,or_false]at hq;subst hq;exact⟨_,Tryz.underlying77,ω⟩) fun _ h=>by cases h
theorem A0B:(2:Nat)^62=4611686018427387904:=by decide
noncomputable def TH (m:Nat) (l:List (Nat × Nat × Bool)) (c:Nat):Tr:=walk (EH [A1T true m] l) (fun _=>0) Tryz.f27 [sG,.s 1 0 l.length c]
def stH(l:List (Nat × Nat × Bool))(c i:Nat):St:=⟨[(2,some (.p 2 0 0 0)),(7,some (.s 1 0 l.length c)),(8,some (.na l.length)),(9,some (.na i))],[(2,sG,53)],3⟩
end Sy
open Sy
theorem FB(F m g c:Nat)(l:List (Nat × Nat × Bool))(hl:∀ p∈l,p.1<2^256/\p.2.1<2^256)(hn:l.length<4294967296)(w:World)(hF:FldAt w F m)(hg:w.heap[g]?=some (.cells (pls l) 26 (0,0))):Calls Tryz.prog 27 #[.agg #[.pointer (some ⟨F,0,none⟩)],.slice (some ⟨g,0,none⟩) l.length c] w fun r w'=>r=.returned (.bool (l.all (onB m)))/\Below w.heap.size w w':=by
 have hb:∀ n f:Bool,(bif !n then !f else false)=!(n||f):=by decide
 have h62:=A0B;have hf:FOk true m (fun k=>if k=0 then F else g) w:=⟨hF.odd,hF.big,hF.lt,fun _=>hF⟩
 refine AJ (A0A (more:=[A1T true m]) (l:=l) ⟨(YZ hf).mono (by decide),trivial⟩ hl hg) ω (fun _=>0) Tryz.func27 ω [sG,.s 1 0 l.length c] ⟨⟨⟨trivial,trivial⟩,rfl⟩,⟨trivial,rfl⟩,trivial⟩ ω ω (.need (l.length<2^62) (.loop 0)) ω ?_;refine⟨τ,QI (T:=(TH m l c).on []) 0 ω (ι:={ i:Nat // i<=l.length/\(l.take i).all (onB m)=true }) (fun i=>stH l c i.1) (fun i=>l.length - i.1) ⟨0,Nat.zero_le _,rfl⟩ (Sub.of [2] ω ⟨ω,ω,ω,ω,trivial⟩ ω) fun⟨i,hi,ha⟩=>?_⟩;refine BI (T:=((TH m l c).on []).round (stH l c i)) ω (L:=fun L=>(((((TH m l c).on []).round (stH l c i)).on L).wp 2 _)) ?_ fun _ h=>h;rw[show(((TH m l c).on []).round (stH l c i)).shape=.br (ltN i l.length) (.need (i<l.length) (.need (i<l.length) (.br (bif !(l.getD i (0,0,false)).2.2 then !(A3n m (l.getD i (0,0,false)).1 (l.getD i (0,0,false)).2.1)else false) (.leaf (.v (.bool false))) (.need (i+1<2^62) (.cut 0))))) (.leaf (.v (.bool true))) by kernel_rfl];refine⟨fun h1=>?_,fun h1=>?_⟩
 ·have hlt:i<l.length:=of_decide_eq_true h1
  have e:l.getD i (0,0,false)=l[i]:=by simp[List.getD,hlt]
  rw[e];refine⟨hlt,hlt,fun h2=>?_,fun h2=>⟨τ,?_⟩⟩
  ·show Value.bool false=.bool (l.all (onB m))
   have:onB m l[i]=false:=by
    rw[hb]at h2;have h2:(!onB m l[i])=true:=h2;simpa using h2
   rw[List.all_eq_false.2 ⟨l[i],List.getElem_mem hlt,by rw[this];simp⟩]
  ·have:onB m l[i]=true:=by
    rw[hb]at h2;have h2:(!onB m l[i])=false:=h2;simpa using h2
   exact QH 0 ω (st:=fun i:{ i:Nat // i<=l.length/\(l.take i).all (onB m)=true }=>stH l c i.1) ⟨i+1,hlt,by rw[List.take_succ_eq_append_getElem hlt,List.all_append,ha];simp[this]⟩ (by show l.length - (i+1)<l.length - i;omega) (Sub.of [2] ω ⟨ω,ω,ω,ω,trivial⟩ ω)
 ·have hge:i=l.length:=by
   have:¬i<l.length:=of_decide_eq_false h1;omega
  show Value.bool true=.bool (l.all (onB m));rw[hge,List.take_length]at ha;rw[ha]
open Go.RowKit
namespace Sy
def gpT(m:Nat)(T:Nat × Nat × Nat):Nat × Nat × Bool:=let i:=iv m T.2.2;let q:=i*i%m
 if T.2.2*i%m=1 then (T.1*q%m,T.2.1*(q*i%m)%m,false)else (0,0,true)
theorem Jc(m:Nat)(T:Nat × Nat × Nat):gpo m T=pc (gpT m T).1 (gpT m T).2.1 (gpT m T).2.2:=by
 unfold gpo gpT;dsimp only;show(if T.2.2*iv m T.2.2%m=1 then _ else _)=_
 split <;> rfl
def gtT(m x y:Nat)(n:Bool):Nat × Nat × Bool:=if n=true then (0,0,true)else (x,(0%m+(m - y%m))%m,false)
theorem QS(m x y:Nat)(n:Bool):gtu m x y n=pc (gtT m x y n).1 (gtT m x y n).2.1 (gtT m x y n).2.2:=by
 unfold gtu gtT
 split <;> rfl
def sP3(p:Nat × Nat × Bool):SV:=sP p.1 p.2.1 p.2.2
theorem Dc(p:Nat × Nat × Bool)(γ:Pl):(sP3 p).val γ=.agg (pc p.1 p.2.1 p.2.2):=by
 show Value.agg ((pw p.1).toList++((pw p.2.1).toList++([Value.bool p.2.2]++[]))).toArray=_;simp[pc]
theorem PO{m:Nat}(h0:0<m)(hm:m<2^256)(T:Nat × Nat × Nat):(gpT m T).1<2^256/\(gpT m T).2.1<2^256:=by
 have h:∀ n,n%m<2^256:=fun n=>Nat.lt_trans (Nat.mod_lt _ h0) hm;unfold gpT;dsimp only
 split
 ·exact⟨h _,h _⟩
 ·exact⟨AV,AV⟩
theorem A1U{m:Nat}(h0:0<m)(hm:m<2^256){x:Nat}(hx:x<2^256)(y:Nat)(n:Bool):(gtT m x y n).1<2^256/\(gtT m x y n).2.1<2^256:=by
 unfold gtT
 split
 ·exact⟨AV,AV⟩
 ·exact⟨hx,Nat.lt_trans (Nat.mod_lt _ h0) hm⟩
theorem Fa{p:Nat × Nat × Bool}(h:p.1<2^256/\p.2.1<2^256):(sP3 p).ok/\(sP3 p).lt 0=true:=⟨⟨h.1,h.2,trivial,trivial⟩,rfl⟩
def PP(ext:Bool)(m:Nat):Con:=A1Q ext m 64 fun X Y Z=>sP3 (gpT m (X,Y,Z))
theorem Tm{ext:Bool}{m:Nat}{γ0:Pl}{w0:World}(hf:FOk ext m γ0 w0):ConOk Tryz.prog 1 γ0 w0 (PP ext m) :=
 QP hf (fun _ _=>by kernel_rfl) (fun _ _ _ _ _ _=>Fa (PO (by have:=hf.big;omega) hf.lt _)) fun F X Y Z hX hY hZ w hF=>by
  rw[Dc,<- Jc];exact K3 F m X Y Z hX hY hZ w hF
def A3o(ext:Bool)(m:Nat)(f:FuncId)(g:Nat × Nat × Bool->SV):Con:=PM ext m f fun l=>match l with
 | [x]=>(ptS x).map fun p=>(g p,[])
 | _=>none
theorem Z0{ext:Bool}{m:Nat}{γ0:Pl}{w0:World}{f:FuncId}{g:Nat × Nat × Bool->SV}(hf:FOk ext m γ0 w0)(hc:∀ as_ wx,(callFunc f as_).run Tryz.prog wx=.ok (.enter f as_) wx)(hg:∀ p,p.1<2^256->p.2.1<2^256->(g p).ok/\(g p).lt 0=true)
  (h:∀ F x y n,x<2^256->y<2^256->∀ w,FldAt w F m->Calls Tryz.prog f #[.agg #[.pointer (some ⟨F,0,none⟩)],.agg (pc x y n)] w fun e w'=>e=.returned ((g (x,y,n)).val fun _=>0)/\Below w.heap.size w w'):ConOk Tryz.prog 1 γ0 w0 (A3o ext m f g) :=
 Hm hf hc fun us r q hr hq hok=>by
  split at hr
  ·rename_i x
   obtain⟨p,hp,e⟩:=Option.map_eq_some_iff.1 hr;cases e;have q:=(Bz (γ:=fun _=>0) hp).2 (hok x υ);have k:=hg p q.1 q.2;refine⟨k.1,k.2,fun γ F w hF=>?_⟩;have g4:=h F p.1 p.2.1 p.2.2 q.1 q.2 w hF;rw[<- (Bz (γ:=γ) hp).1]at g4;rw[Mj k.2];exact g4
  ·cases hr
def QT(ext:Bool)(m:Nat):Con:=A3o ext m 29 fun p=>sP3 (gtT m p.1 p.2.1 p.2.2)
theorem PQ{ext:Bool}{m:Nat}{γ0:Pl}{w0:World}(hf:FOk ext m γ0 w0):ConOk Tryz.prog 1 γ0 w0 (QT ext m) :=
 Z0 hf (fun _ _=>by kernel_rfl) (fun _ hx _=>Fa (A1U (by have:=hf.big;omega) hf.lt hx _ _)) fun F x y n hx hy w hF=>by
  rw[Dc,<- QS];exact IQ F m x y n hx hy w hF
def VK(ext:Bool)(m:Nat):Con:=PM ext m 63 fun l=>match l with
 | [.ap (.w X) (.ap (.w Y) (.ap (.w Z) .e)),x]=>(ptS x).map fun p=>(sJ (gpl m (X,Y,Z) p.1 p.2.1 p.2.2),[])
 | _=>none
theorem VL{ext:Bool}{m:Nat}{γ0:Pl}{w0:World}(hf:FOk ext m γ0 w0):ConOk Tryz.prog 1 γ0 w0 (VK ext m) :=
 Hm hf (fun _ _=>by kernel_rfl) fun us r q hr hq hok=>by
  split at hr
  ·rename_i X Y Z x
   obtain⟨p,hp,e⟩:=Option.map_eq_some_iff.1 hr;cases e;have q:=(Bz (γ:=fun _=>0) hp).2 (hok x υ);obtain⟨h1,h2,h3,_⟩:=hok (.ap (.w X) (.ap (.w Y) (.ap (.w Z) .e))) υ;have k:=A0z (PG (m:=m) (n:=p.2.2) (by have:=hf.big;omega) hf.lt h1 h2 h3 q.1 q.2 rfl);refine⟨k.1,k.2,fun γ F w hF=>?_⟩;have g4:=KU F m X Y Z p.1 p.2.1 p.2.2 h1 h2 h3 q.1 q.2 w hF;rw[<- (Bz (γ:=γ) hp).1]at g4;exact g4
  ·cases hr
def Mq(m:Nat)(l:List (Nat × Nat × Bool)):Con:=⟨27,fun _ M us=>match us with
 | [.ap x .e,.s 1 0 n _]=>(isF true m M x).map fun p=>(.b (l.all (onB m)),.ask (n=l.length)::p,[])
 | _=>none⟩
theorem Tn{m:Nat}{γ0:Pl}{w0:World}{l:List (Nat × Nat × Bool)}(hf:FOk true m γ0 w0)(hl:∀ p∈l,p.1<2^256/\p.2.1<2^256)(hn:l.length<4294967296)(hg:w0.heap[γ0 1]?=some (.cells (pls l) 26 (0,0))):ConOk Tryz.prog 2 γ0 w0 (Mq m l) :=
 .of (fun _ _=>by kernel_rfl) fun n M us r p R hr hp hok=>by
  unfold Mq at hr;dsimp only at hr
  split at hr
  ·rename_i x k c
   obtain⟨q,hx,e⟩:=Option.map_eq_some_iff.1 hr;cases e;have hk:k=l.length:=hp _ (.head _);subst hk;refine⟨rfl,trivial,rfl,fun γ hγ wx hw hL=>?_⟩;obtain⟨F,h1,h2⟩:=Im hx (fun a ha=>hp a (.tail _ ha)) hf (fun k hk=>hγ k (Nat.lt_succ_of_lt hk)) hw hL;have hgl:=(Array.getElem?_eq_some_iff.1 hg).1;have g4:=FB F m (γ0 1) c l hl hn wx h2 ((hw.block _ hgl).trans hg);rw[<- Jb hx h1,<- hγ 1 (by decide)]at g4;exact g4
  ·cases hr
end Sy
open Go.RowKit
namespace Sy
noncomputable def TS (m:Nat) (l:List (Nat × Nat × Bool)) (c:Nat):Tr:=walk (EH (Mq m l::VK true m::PP true m::KV::[]) l) (fun _=>0) Tryz.f38 [sG,.s 1 0 l.length c]
def stS(l:List (Nat × Nat × Bool))(c i:Nat)(T:Nat × Nat × Nat):St:=⟨[(2,some (.p 2 0 0 0)),(4,some (.p 3 0 0 0)),(6,some (.p 4 0 0 0)),(14,some (.s 1 0 l.length c)),(15,some (.na l.length)),(16,some (.na i))],[(4,sJ T,90),(3,sPk 0 0 false,26),(2,sG,53)],5⟩
structure RS (m:Nat) (l:List (Nat × Nat × Bool)) where
 i:Nat
 T:Nat × Nat × Nat
 le:i<=l.length
 is:T=gsm m (l.take i)
 lt:T.1<2^256/\T.2.1<2^256/\T.2.2<2^256
theorem VM(m:Nat)(l:List (Nat × Nat × Bool))(p:Nat × Nat × Bool):gsm m (l++[p])=gpl m (gsm m l) p.1 p.2.1 p.2.2:=by
 unfold gsm;rw[List.foldl_append];rfl
end Sy
open Sy
theorem VN(F m g c:Nat)(l:List (Nat × Nat × Bool))(hl:∀ p∈l,p.1<2^256/\p.2.1<2^256)(hn:l.length<4294967296)(w:World)(hF:FldAt w F m)(hg:w.heap[g]?=some (.cells (pls l) 26 (0,0))):Calls Tryz.prog 38 #[.agg #[.pointer (some ⟨F,0,none⟩)],.slice (some ⟨g,0,none⟩) l.length c] w fun r w'=>r=.returned (.tuple #[.agg (if l.all (onB m)=true then gpo m (gsm m l)else pc 0 0 true),.int .i64 (if l.all (onB m)=true then 0 else 81)])/\Below w.heap.size w w':=by
 have h62:=A0B;have hm0:0<m:=by have:=hF.big;omega
 have hf:FOk true m (fun k=>if k=0 then F else g) w:=⟨hF.odd,hF.big,hF.lt,fun _=>hF⟩
 refine AJ (A0A (more:=Mq m l::VK true m::PP true m::KV::[]) (l:=l) ⟨Tn hf hl hn hg,(VL hf).mono (by decide),(Tm hf).mono (by decide),Ho,trivial⟩ hl hg) ω (fun _=>0) Tryz.func38 ω [sG,.s 1 0 l.length c] ⟨⟨⟨trivial,trivial⟩,rfl⟩,⟨trivial,rfl⟩,trivial⟩ ω ω
  (.need (l.length=l.length) (.br (!l.all (onB m)) (.leaf (.tu (sPk 0 0 true) (.v (.int .i64 81)))) (.need (l.length<2^62) (.loop 0)))) ω ?_
 refine⟨rfl,fun h=>?_,fun h=>⟨τ,?_⟩⟩
 ·have h:l.all (onB m)=false:=by simpa using h
  rw[h];rfl
 have hall:l.all (onB m)=true:=by simpa using h
 refine QI (T:=(TS m l c).on [false]) 0 ω (ι:=RS m l) (fun r=>stS l c r.i r.T) (fun r=>l.length - r.i) ⟨0,(0,0,0),Nat.zero_le _,rfl,AV,AV,AV⟩ (Sub.of [4,3,2] ω ⟨ω,ω,ω,ω,ω,ω,trivial⟩ ω) fun⟨i,T,hi,hT,hlt⟩=>?_;refine BI (T:=((TS m l c).on [false]).round (stS l c i T)) ω (L:=fun L=>(((((TS m l c).on [false]).round (stS l c i T)).on L).wp 2 _)) ?_ fun _ h=>h;rw[show(((TS m l c).on [false]).round (stS l c i T)).shape=.br (ltN i l.length) (.need (i<l.length) (.need (i<l.length) (.need (i+1<2^62) (.cut 0)))) (.leaf (.tu (sP3 (gpT m T)) (.v (.int .i64 0)))) by kernel_rfl];refine⟨fun h1=>?_,fun h1=>?_⟩
 ·have hil:i<l.length:=of_decide_eq_true h1
  have e:l.getD i (0,0,false)=l[i]:=by simp[List.getD,hil]
  have hq:=hl _ (List.getElem_mem hil);rw[<- e]at hq;exact⟨hil,hil,τ,QH 0 ω (st:=fun r:RS m l=>stS l c r.i r.T) ⟨i+1,gpl m T (l.getD i (0,0,false)).1 (l.getD i (0,0,false)).2.1 (l.getD i (0,0,false)).2.2,hil,by rw[List.take_succ_eq_append_getElem hil,VM,hT,e],PG hm0 hF.lt hlt.1 hlt.2.1 hlt.2.2 hq.1 hq.2 rfl⟩ (by show l.length - (i+1)<l.length - i;omega) (Sub.of [4,3,2] ω ⟨ω,ω,ω,ω,ω,ω,trivial⟩ ω)⟩
 ·have hge:i=l.length:=by
   have:¬i<l.length:=of_decide_eq_false h1;omega
  rw[hge,List.take_length]at hT;show Value.tuple #[(sP3 (gpT m T)).val _,_]=_;rw[Dc,<- Jc,hT,hall];rfl
def Pr(p:Nat):Prop:=2<=p/\∀ d,d∣p->d=1\/d=p
theorem Pr.coprime{p a:Nat}(h:Pr p)(ha:¬p∣a):Nat.Coprime p a:=by
 rcases h.2 _ (Nat.gcd_dvd_left p a)with h1 | h1
 ·exact h1
 ·exact absurd (h1 ▸ Nat.gcd_dvd_right p a) ha
theorem Pr.dvd_mul{p a b:Nat}(h:Pr p)(hd:p∣a*b):p∣a\/p∣b:=by
 by_cases ha:p∣a
 ·exact .inl ha
 ·exact .inr ((h.coprime ha).dvd_of_dvd_mul_left hd)
theorem KW(n:Nat):2<=n->∃ p,Pr p/\p∣n:=by
 induction n using Nat.strongRecOn with
 | _ n ih =>
  intro hn;by_cases h:∃ d,d∣n/\d≠1/\d≠n
  ·obtain⟨d,hd,h1,h2⟩:=h
   have h3:d<=n:=Nat.le_of_dvd τ hd;have h4:d≠0:=by rintro rfl;have:=Nat.eq_zero_of_zero_dvd hd;omega
   obtain⟨p,hp,hpd⟩:=ih d τ τ;exact⟨p,hp,Nat.dvd_trans hpd hd⟩
  ·refine⟨n,⟨hn,fun d hd=>?_⟩,Nat.dvd_refl n⟩
   by_cases h1:d=1
   ·exact .inl h1
   ·by_cases h2:d=n
    ·exact .inr h2
    ·exact absurd ⟨d,hd,h1,h2⟩ h
theorem IR{n:Nat}(hn:2<=n)(h:∀ p,Pr p->p∣n->n<p*p):Pr n:=by
 refine⟨hn,fun d hd=>?_⟩;by_cases h1:d=1
 ·exact .inl h1
 ·right
  obtain⟨e,rfl⟩:=hd;have hd0:d≠0:=by rintro rfl;simp at hn
  have he0:e≠0:=by rintro rfl;simp at hn
  obtain⟨p,hp,hpd⟩:=KW d τ;have hp1:=h p hp (Nat.dvd_trans hpd (Nat.dvd_mul_right _ _));have hpl:=Nat.le_of_dvd τ hpd;by_cases e1:e=1
  ·rw[e1,Nat.mul_one]
  ·obtain⟨q,hq,hqe⟩:=KW e τ
   have hq1:=h q hq (Nat.dvd_trans hqe (Nat.dvd_mul_left _ _));have hql:=Nat.le_of_dvd τ hqe;exfalso;have h2:p*q<=d*e:=Nat.mul_le_mul hpl hql;rcases Nat.le_total p q with hpq | hpq
   ·have:=Nat.mul_le_mul_left p hpq;omega
   ·have:=Nat.mul_le_mul_right q hpq;omega
-- BINOMIALS
def cho:Nat->Nat->Nat
 | _,0=>1
 | 0,_+1=>0
 | n+1,k+1=>cho n k+cho n (k+1)
theorem Hq(n:Nat):cho n 0=1:=by cases n <;> rfl
theorem Dp:∀ n k,n<k->cho n k=0
 | 0,0,h=>by omega
 | 0,_+1,_=>rfl
 | _+1,0,h=>by omega
 | n+1,k+1,h=>by rw[cho,Dp n k τ,Dp n (k+1) τ]
theorem NW:∀ n,cho n n=1
 | 0=>rfl
 | n+1=>by rw[cho,NW n,Dp n (n+1) τ]
theorem Jd:∀ n k,(k+1)*cho (n+1) (k+1)=(n+1)*cho n k
 | 0,0=>rfl
 | 0,k+1=>by rw[Dp (0+1) (k+1+1) τ,Dp 0 (k+1) τ];simp
 | n+1,0=>by
  have h:=Jd n 0;rw[Hq]at h;rw[show cho (n+1+1) (0+1)=cho (n+1) 0+cho (n+1) (0+1) from rfl,Hq];omega
 | n+1,k+1=>by
  have h1:=Jd n k;have h2:=Jd n (k+1);have e:cho (n+1) (k+1)=cho n k+cho n (k+1):=by rw[cho]
  rw[show cho (n+1+1) (k+1+1)=cho (n+1) (k+1)+cho (n+1) (k+1+1) by rw[cho]];generalize cho (n+1) (k+1+1)=u at *;generalize cho (n+1) (k+1)=v at *;generalize cho n (k+1)=x at *;generalize cho n k=y at *;have e1:(k+1+1)*(v+u)=(k+1)*v+v+(k+1+1)*u:=by rw[Nat.mul_add,Nat.succ_mul (k+1) v]
  rw[e1,h1,h2,e,Nat.succ_mul (n+1),Nat.mul_add];omega
theorem Tp{p k:Nat}(hp:Pr p)(h0:0<k)(hk:k<p):p∣cho p k:=by
 obtain⟨n,rfl⟩:∃ n,p=n+1:=⟨p - 1,by have:=hp.1;omega⟩
 obtain⟨j,rfl⟩:∃ j,k=j+1:=⟨k - 1,τ⟩
 have h:=Jd n j;have hd:n+1∣(j+1)*cho (n+1) (j+1):=by rw[h];exact Nat.dvd_mul_right _ _
 rcases hp.dvd_mul hd with h1 | h1
 ·exact absurd (Nat.le_of_dvd τ h1) τ
 ·exact h1
def Hr(n a:Nat):Nat->Nat
 | 0=>0
 | j+1=>Hr n a j+cho n j*a^j
theorem KX(n a:Nat):∀ j,Hr (n+1) a (j+1)+cho n j*a^(j+1)=(a+1)*Hr n a j+cho n j*a^(j+1)+cho n j*a^j
 | 0=>by simp[Hr,Hq];omega
 | j+1=>by
  have h:=KX n a j;have e:cho (n+1) (j+1)=cho n j+cho n (j+1):=by rw[cho]
  have e2:Hr (n+1) a (j+1+1)=Hr (n+1) a (j+1)+cho (n+1) (j+1)*a^(j+1):=rfl;have e3:Hr n a (j+1)=Hr n a j+cho n j*a^j:=rfl;rw[e2,e3,e,Nat.add_mul,Nat.mul_add];have e4:(a+1)*(cho n j*a^j)=cho n j*a^(j+1)+cho n j*a^j:=by
   rw[Nat.add_mul,Nat.one_mul,Nat.pow_succ,Nat.mul_left_comm,Nat.mul_comm a]
  rw[e4];omega
theorem A3p(n a:Nat):Hr n a (n+1)=(a+1)^n:=by
 induction n with
 | zero=>simp[Hr,cho]
 | succ n ih =>
  have h:=KX n a (n+1);rw[Dp n (n+1) τ,ih]at h;simp only[Nat.zero_mul,Nat.add_zero]at h;rw[h,Nat.pow_succ,Nat.mul_comm]
theorem PR{p:Nat}(hp:Pr p)(a:Nat):∀ j,0<j->j<=p->Hr p a j%p=1%p:=by
 intro j
 induction j with
 | zero=>intro h;omega
 | succ j ih =>
  intro _ hj;by_cases h0:j=0
  ·subst h0;simp[Hr,Hq]
  ·have h:=ih τ τ
   obtain⟨q,hq⟩:=Tp hp (k:=j) τ τ;show(Hr p a j+cho p j*a^j)%p=_;rw[hq,Nat.mul_assoc,Nat.add_mul_mod_self_left,h]
-- FERMAT
theorem A1V{p:Nat}(hp:Pr p)(a:Nat):a^p%p=a%p:=by
 induction a with
 | zero=>rw[Nat.zero_pow (by have:=hp.1;omega)]
 | succ a ih =>
  rw[<- A3p];show(Hr p a p+cho p p*a^p)%p=_;rw[NW,Nat.one_mul,Nat.add_mod,PR hp a p (by have:=hp.1;omega) (Nat.le_refl _),ih,<- Nat.add_mod,Nat.add_comm]
theorem Mr{p:Nat}(hp:Pr p)(a:Nat)(ha:¬p∣a):a^(p - 1)%p=1:=by
 have h:=A1V hp a;have h2:=hp.1;obtain⟨n,rfl⟩:∃ n,p=n+1:=⟨p - 1,τ⟩
 have hge:1<=a^n:=Nat.pow_pos (Nat.pos_of_ne_zero (by rintro rfl;simp at ha));have hd:n+1∣a*(a^n - 1):=by
  have:=Nat.sub_mod_eq_zero_of_mod_eq h;rw[Nat.mul_sub,Nat.mul_one,<- Nat.pow_succ'];exact Nat.dvd_of_mod_eq_zero this
 have h3:=(hp.coprime ha).dvd_of_dvd_mul_left hd;obtain⟨q,hq⟩:=h3;show a^n%(n+1)=1;have:a^n=1+(n+1)*q:=by omega
 rw[this,Nat.add_mul_mod_self_left,Nat.mod_eq_of_lt τ]
theorem Z4{p b:Nat}(hp:1<p)(m n:Nat):b^m%p=1->b^n%p=1->b^Nat.gcd m n%p=1:=by
 induction m,n using Nat.gcd.induction with
 | H0 n=>intro _ h;rw[Nat.gcd_zero_left];exact h
 | H1 m n hm ih =>
  intro h1 h2;rw[Nat.gcd_rec];refine ih ?_ h1;have e:b^n=(b^m)^(n / m)*b^(n%m):=by rw[<- Nat.pow_mul,<- Nat.pow_add,Nat.div_add_mod]
  rw[e,Nat.mul_mod,Nat.pow_mod,h1,Nat.one_pow,Nat.mod_eq_of_lt hp,Nat.one_mul,Nat.mod_mod]at h2;exact h2
-- POCKLINGTON
def VO(m:Nat):Nat->Nat->Nat->Nat->Nat
 | 0,_,_,r=>r
 | f+1,b,e,r=>if e=0 then r else VO m f (b*b%m) (e / 2) (if e%2=1 then r*b%m else r)
theorem QU(m:Nat):∀ f b e r,e<2^f->r%m=r->VO m f b e r=r*b^e%m
 | 0,b,e,r,h,hr=>by
  obtain rfl:e=0:=by simpa using h
  simp[VO,hr]
 | f+1,b,e,r,h,hr=>by
  unfold VO;by_cases h0:e=0
  ·simp[h0,hr]
  ·rw[if_neg h0,QU m f _ _ _ (by rw[Nat.pow_succ]at h;omega) (by split;exact Nat.mod_mod _ _;exact hr)]
   have e1:(b*b%m)^(e / 2)%m=b^(2*(e / 2))%m:=by rw[<- Nat.pow_mod,Nat.pow_mul,Nat.pow_two]
   rw[Nat.mul_mod,e1];by_cases h1:e%2=1
   ·rw[if_pos h1,Nat.mod_mod,<- Nat.mul_mod,Nat.mul_assoc,<- Nat.pow_succ',show(2*(e / 2)).succ=e by omega]
   ·rw[if_neg h1,<- Nat.mul_mod,show 2*(e / 2)=e by omega]
def pwr(m b e:Nat):Nat:=VO m 260 b e (1%m)
theorem Ms(m b e:Nat)(h:e<2^260):pwr m b e=b^e%m:=by
 unfold pwr;rw[QU m _ _ _ _ h (Nat.mod_mod _ _),Nat.mul_mod,Nat.mod_mod,<- Nat.mul_mod,Nat.one_mul]
def K4:List Nat->Nat
 | []=>1
 | q::l=>q*K4 l
def A3q(n a:Nat)(qs:List Nat):Bool:=(2<=n)&&(n<2^260)&&(pwr n a (n - 1) == 1)&&qs.all (fun q=>(n - 1)%q == 0&&Nat.gcd (pwr n a ((n - 1) / q)+(n - 1)) n == 1)&&(n<(K4 qs+1)*(K4 qs+1))&&decide qs.Nodup
theorem Tq{n a q p:Nat}(h2:2<=n)(h3:n<2^260)(h1:pwr n a (n - 1)=1)(hq:Pr q)(hqd:(n - 1)%q=0)(hg:Nat.gcd (pwr n a ((n - 1) / q)+(n - 1)) n=1)(hp:Pr p)(hpn:p∣n):q∣p - 1:=by
 rw[Ms _ _ _ τ]at h1;have hle:(n - 1) / q<=n - 1:=Nat.div_le_self _ _;rw[Ms _ _ _ τ]at hg;obtain⟨b,hb⟩:∃ b,a^((n - 1) / q)=b:=⟨_,rfl⟩
 rw[hb]at hg;have hbq:b^q=a^(n - 1):=by rw[<- hb,<- Nat.pow_mul,Nat.div_mul_cancel (Nat.dvd_of_mod_eq_zero hqd)]
 have hp2:=hp.1;have hmm:∀ x,x%n%p=x%p:=fun x=>Nat.mod_mod_of_dvd x hpn;have hbq1:b^q%p=1:=by rw[hbq,<- hmm,h1,Nat.mod_eq_of_lt τ]
 have hpb:¬p∣b:=fun h=>by
  have h4:p∣b^q:=Nat.dvd_trans h (by obtain⟨k,rfl⟩:∃ k,q=k+1:=⟨q - 1,by have:=hq.1;omega⟩;rw[Nat.pow_succ];exact Nat.dvd_mul_left _ _);have:=Nat.mod_eq_zero_of_dvd h4;omega
 have hbp:=Mr hp b hpb;by_cases hd:q∣p - 1
 ·exact hd
 ·exfalso
  have hc:=Z4 τ q (p - 1) hbq1 hbp;rw[show Nat.gcd q (p - 1)=1 from hq.coprime hd,Nat.pow_one]at hc;have h5:p∣b%n+(n - 1):=by
   apply Nat.dvd_of_mod_eq_zero;obtain⟨k,hk⟩:=hpn;rw[Nat.add_mod,hmm,hc];have e:n - 1=(p - 1)+p*(k - 1):=by
    have hk0:k≠0:=by rintro rfl;simp at hk;omega
    obtain⟨j,rfl⟩:∃ j,k=j+1:=⟨k - 1,τ⟩
    rw[hk,Nat.mul_add,Nat.add_sub_cancel];omega
   rw[e,Nat.add_mul_mod_self_left,Nat.mod_eq_of_lt (show p - 1<p by omega),show 1+(p - 1)=p by omega,Nat.mod_self]
  have h6:=Nat.dvd_gcd h5 hpn;rw[hg]at h6;have:=Nat.le_of_dvd τ h6;omega
theorem KY{m:Nat}:∀ l:List Nat,l.Nodup->(∀ q∈l,Pr q)->(∀ q∈l,q∣m)->K4 l∣m/\∀ x,Pr x->x ∉ l->Nat.Coprime x (K4 l)
 | [],_,_,_=>⟨Nat.one_dvd _,fun x _ _=>Nat.coprime_one_right x⟩
 | q::l,hn,hp,hd=>by
  rw[List.nodup_cons]at hn;obtain⟨h1,h2⟩:=KY l hn.2 (fun q h=>hp q (.tail _ h)) (fun q h=>hd q (.tail _ h));have hq:=hp q (.head _);refine⟨Nat.Coprime.mul_dvd_of_dvd_of_dvd (h2 q hq hn.1) (hd q (.head _)) h1,fun x hx hxl=>?_⟩;refine Nat.Coprime.mul_right (hx.coprime fun h=>?_) (h2 x hx fun h=>hxl (.tail _ h));rcases hq.2 x h with h3 | h3
  ·have:=hx.1;omega
  ·exact hxl (h3 ▸ .head _)
theorem BJ(n a:Nat)(qs:List Nat)(h:A3q n a qs=true)(hqs:∀ q∈qs,Pr q):Pr n:=by
 unfold A3q at h;simp only[Bool.and_eq_true,decide_eq_true_eq,beq_iff_eq,List.all_eq_true]at h;obtain⟨⟨⟨⟨⟨h2,h3⟩,h1⟩,hq⟩,hs⟩,hn⟩:=h;refine IR h2 fun p hp hpn=>?_;have hd:=(KY (m:=p - 1) qs hn hqs (fun q hm=>Tq h2 h3 h1 (hqs q hm) (hq q hm).1 (hq q hm).2 hp hpn)).1;have hp2:=hp.1;have hle:=Nat.le_of_dvd τ hd;have:=Nat.mul_le_mul (show K4 qs+1<=p by omega) (show K4 qs+1<=p by omega);omega
def trial(n:Nat):Nat->Bool
 | 0=>true
 | k+1=>(k<2||n%k != 0)&&trial n k
theorem NY(n:Nat):∀ k,trial n k=true->∀ d,2<=d->d<k->n%d≠0
 | 0,_,d,_,h=>by omega
 | k+1,h,d,h2,hd=>by
  unfold trial at h;simp only[Bool.and_eq_true,Bool.or_eq_true,decide_eq_true_eq,bne_iff_ne]at h;by_cases e:d=k
  ·subst e
   rcases h.1 with h1 | h1
   ·omega
   ·exact h1
  ·exact NY n k h.2 d h2 τ
theorem tried(n k:Nat)(h2:2<=n)(hk:n<k*k)(h:trial n k=true):Pr n:=by
 refine IR h2 fun p hp hpn=>?_;have hp2:=hp.1;by_cases e:p<k
 ·exact absurd (Nat.mod_eq_zero_of_dvd hpn) (NY n k h p hp2 e)
 ·have:=Nat.mul_le_mul (show k<=p by omega) (show k<=p by omega)
  omega
theorem A1W:Pr 53:=tried 53 8 (by decide) (by decide) (by decide +kernel)
theorem A1X:Pr 29:=tried 29 6 (by decide) (by decide) (by decide +kernel)
theorem A3r:Pr 7:=tried 7 3 (by decide) (by decide) (by decide +kernel)
theorem Ku:Pr 107590001:=BJ 107590001 2 [53,29,7] (by decide +kernel) (by intro q hq;simp only[List.mem_cons,List.not_mem_nil,or_false]at hq;rcases hq with rfl | rfl | rfl <;> first | exact A1W | exact A1X | exact A3r)
theorem Z5:Pr 419:=tried 419 21 (by decide) (by decide) (by decide +kernel)
theorem Tt:Pr 20113:=BJ 20113 2 [419] (by decide +kernel) (by intro q hq;simp only[List.mem_cons,List.not_mem_nil,or_false]at hq;rcases hq with rfl <;> first | exact Z5)
theorem NZ:Pr 1206781:=BJ 1206781 2 [20113] (by decide +kernel) (by intro q hq;simp only[List.mem_cons,List.not_mem_nil,or_false]at hq;rcases hq with rfl <;> first | exact Tt)
theorem O0:Pr 7240687:=BJ 7240687 2 [1206781] (by decide +kernel) (by intro q hq;simp only[List.mem_cons,List.not_mem_nil,or_false]at hq;rcases hq with rfl <;> first | exact NZ)
theorem Z6:Pr 239:=tried 239 16 (by decide) (by decide) (by decide +kernel)
theorem Z7:Pr 101:=tried 101 11 (by decide) (by decide) (by decide +kernel)
theorem Tu:Pr 96557:=BJ 96557 2 [239,101] (by decide +kernel) (by intro q hq;simp only[List.mem_cons,List.not_mem_nil,or_false]at hq;rcases hq with rfl | rfl <;> first | exact Z6 | exact Z7)
theorem BH:Pr 255515944373312847190720520512484175977:=BJ 255515944373312847190720520512484175977 2 [107590001,7240687,96557] (by decide +kernel) (by intro q hq;simp only[List.mem_cons,List.not_mem_nil,or_false]at hq;rcases hq with rfl | rfl | rfl <;> first | exact Ku | exact O0 | exact Tu)
theorem AB:Pr 205115282021455665897114700593932402728804164701536103180137503955397371:=BJ 205115282021455665897114700593932402728804164701536103180137503955397371 2 [255515944373312847190720520512484175977] (by decide +kernel) (by intro q hq;simp only[List.mem_cons,List.not_mem_nil,or_false]at hq;rcases hq with rfl <;> first | exact BH)
theorem Au:Pr 115792089237316195423570985008687907853269984665640564039457584007908834671663:=BJ 115792089237316195423570985008687907853269984665640564039457584007908834671663 2 [205115282021455665897114700593932402728804164701536103180137503955397371] (by decide +kernel) (by intro q hq;simp only[List.mem_cons,List.not_mem_nil,or_false]at hq;rcases hq with rfl <;> first | exact AB)
end Go.Proofs.YtphafjbajlcbnaaGreat
