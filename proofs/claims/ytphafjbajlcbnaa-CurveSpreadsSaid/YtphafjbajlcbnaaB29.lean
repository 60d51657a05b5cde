/- What the program's sum comes to: a loop that lays a place anew. (Cut to what is reached, written closely: SyU · SyP · SyN · SyQ.) -/
import Derived.Test.YtphafjbajlcbnaaB28
set_option linter.all false
set_option maxRecDepth 100000
set_option maxHeartbeats 8000000
namespace Go.Proofs.Ytphafjbajlcbnaa
open Go.RowKit
namespace Sy
def conV(f:FuncId)(g:List SV->Option (SV × List Ob)):Con:=⟨f,fun _ _ l=>(g l).map fun q=>(q.1,q.2,[])⟩
theorem conV_ok{P:Program}{base:Nat}{γ0:Pl}{w0:World}{f:FuncId}{g:List SV->Option (SV × List Ob)}(hc:∀ as_ wx,(callFunc f as_).run P wx=.ok (.enter f as_) wx)
  (h:∀ us r q,g us=some (r,q)->All q->(∀ x∈us,x.ok)->r.ok/\r.lt 0=true/\∀ γ w,Calls P f (us.map (·.val γ)).toArray w fun e w'=>e=.returned (r.val γ)/\Below w.heap.size w w'):ConOk P base γ0 w0 (conV f g) :=
 .of hc fun n M l r p R hr hp hok=>by
  obtain⟨q,hq,e⟩:=Option.map_eq_some_iff.1 hr;cases e;have:=h l q.1 q.2 hq hp hok;exact⟨rfl,this.1,this.2.1,fun γ _ wx _ _=>this.2.2 γ wx⟩
theorem agg_ptr{x:SV}{γ:Pl}{F:Nat}{ext:Bool}{m:Nat}{M:Rows}{p:List Ob}(hx:isF ext m M x=some p)(h:x.val γ=.pointer (some ⟨F,0,none⟩)):(SV.ap x .e).val γ=.agg #[.pointer (some ⟨F,0,none⟩)]:=by
 cases x <;> first | (cases hx;done) | skip
 simpa[SV.val,SV.cells,SV.sc]using h
def conG(ext:Bool)(m:Nat)(f:FuncId)(g:List SV->Option (SV × List Ob)):Con:=⟨f,fun _ M l=>match l with
 | .ap x .e::us=>match isF ext m M x,g us with
  | some p,some (r,q)=>some (r,q++p,[])
  | _,_=>none
 | _=>none⟩
theorem conG_ok{P:Program}{ext:Bool}{m:Nat}{γ0:Pl}{w0:World}{f:FuncId}{g:List SV->Option (SV × List Ob)}(hf:FOk ext m γ0 w0)(hc:∀ as_ wx,(callFunc f as_).run P wx=.ok (.enter f as_) wx)
  (h:∀ us r q,g us=some (r,q)->All q->(∀ x∈us,x.ok)->r.ok/\r.lt 0=true/\∀ γ F w,FldAt w F m->Calls P f (.agg #[.pointer (some ⟨F,0,none⟩)]::us.map (·.val γ)).toArray w fun e w'=>e=.returned (r.val γ)/\Below w.heap.size w w'):ConOk P 1 γ0 w0 (conG ext m f g) :=
 .of hc fun n M l r p R hr hp hok=>by
  unfold conG at hr;dsimp only at hr
  split at hr
  ·rename_i x us
   split at hr
   ·rename_i p' r' q hx hq
    cases hr;obtain⟨g1,g2,g3⟩:=h us r q hq (fun a ha=>hp a (List.mem_append_left _ ha)) fun x hx=>hok x (.tail _ hx);refine⟨rfl,g1,g2,?_⟩;intro γ hγ wx hw hL;obtain⟨F,h1,h2⟩:=isF_at hx (fun a ha=>hp a (List.mem_append_right _ ha)) hf hγ hw hL;have g4:=g3 γ F wx h2;rw[<- agg_ptr hx h1]at g4;exact g4
   ·cases hr
  ·cases hr
def cOf:Con:=conV 54 fun l=>match l with
 | [x]=>(limbS x).map fun k=>(.w k,[])
 | _=>none
theorem cOf_ok{base:Nat}{γ0:Pl}{w0:World}:ConOk Try.prog base γ0 w0 cOf:=conV_ok (fun _ _=>by kernel_rfl) fun us r q h hq hok=>by
 split at h
 ·obtain⟨k,hk,e⟩:=Option.map_eq_some_iff.1 h
  cases e;have hlt:=(limbS_ok (γ:=fun _=>0) hk).2;refine⟨Nat.lt_trans hlt (by decide),rfl,fun γ w=>?_⟩;have g:=of_wv k hlt w;rw[<- (limbS_ok (γ:=γ) hk).1]at g;exact g
 ·cases h
def gtw'(m:Nat)(T:Nat × Nat × Nat):Nat × Nat × Nat :=
 let rise:=(T.2.1+T.2.1)%m
 let half:=T.2.1*rise%m
 let square:=(half+half)%m
 let middle:=T.1*square%m
 let xx:=T.1*T.1%m
 let slope:=((xx+xx)%m+xx)%m
 let x:=(slope*slope%m%m+(m - (middle+middle)%m%m))%m
 (x,(slope*((middle%m+(m - x%m))%m)%m%m+(m - half*square%m%m))%m,rise*T.2.2%m)
end Sy
open Sy
theorem gtwice_any(F m X Y Z:Nat)(hX:X<2^256)(hY:Y<2^256)(hZ:Z<2^256)(w:World)(hF:FldAt w F m):Calls Try.prog 35 #[.agg #[.pointer (some ⟨F,0,none⟩)],.agg (jc X Y Z)] w fun r w'=>r=.returned (.agg (jt (gtw m (X,Y,Z))))/\Below w.heap.size w w':=by
 refine calls_at (E1_ok (flds_ok (FOk.of hF))) (by kernel_rfl) (fun _=>0) Try.func35 (by kernel_rfl) [sG,sJ (X,Y,Z)] ⟨⟨⟨trivial,trivial⟩,rfl⟩,⟨⟨hX,hY,hZ,trivial⟩,rfl⟩,trivial⟩ (by kernel_rfl) (by kernel_rfl)
  (.br (eqN Z 0) (.leaf (sJ (X,Y,Z))) (.leaf (sJ (gtw' m (X,Y,Z))))) (by kernel_rfl) ⟨fun h=>?_,fun h=>?_⟩
 ·show(sJ (X,Y,Z)).val _=.agg (jt (if Z=0 then (X,Y,Z)else gtw' m (X,Y,Z)))
  rw[if_pos (of_decide_eq_true h)];rfl
 ·show(sJ (gtw' m (X,Y,Z))).val _=.agg (jt (if Z=0 then (X,Y,Z)else gtw' m (X,Y,Z)))
  rw[if_neg (of_decide_eq_false h)];rfl
namespace Sy
def conJ(ext:Bool)(m:Nat)(f:FuncId)(g:Nat->Nat->Nat->SV):Con:=conG ext m f fun l=>match l with
 | [.ap (.w X) (.ap (.w Y) (.ap (.w Z) .e))]=>some (g X Y Z,[])
 | _=>none
theorem conJ_ok{ext:Bool}{m:Nat}{γ0:Pl}{w0:World}{f:FuncId}{g:Nat->Nat->Nat->SV}(hf:FOk ext m γ0 w0)(hc:∀ as_ wx,(callFunc f as_).run Try.prog wx=.ok (.enter f as_) wx)(hg:∀ X Y Z,X<2^256->Y<2^256->Z<2^256->(g X Y Z).ok/\(g X Y Z).lt 0=true)
  (h:∀ F X Y Z,X<2^256->Y<2^256->Z<2^256->∀ w,FldAt w F m->Calls Try.prog f #[.agg #[.pointer (some ⟨F,0,none⟩)],.agg (jc X Y Z)] w fun e w'=>e=.returned ((g X Y Z).val fun _=>0)/\Below w.heap.size w w'):ConOk Try.prog 1 γ0 w0 (conJ ext m f g) :=
 conG_ok hf hc fun us r q hr hq hok=>by
  split at hr
  ·rename_i X Y Z
   cases hr;obtain⟨h1,h2,h3,_⟩:=hok (.ap (.w X) (.ap (.w Y) (.ap (.w Z) .e))) (by simp);have q:=hg X Y Z h1 h2 h3;exact⟨q.1,q.2,fun γ F w hF=>by rw[val0 q.2];exact h F X Y Z h1 h2 h3 w hF⟩
  ·cases hr
theorem sJ_ok{T:Nat × Nat × Nat}(h:T.1<2^256/\T.2.1<2^256/\T.2.2<2^256):(sJ T).ok/\(sJ T).lt 0=true:=⟨⟨h.1,h.2.1,h.2.2,trivial⟩,rfl⟩
def cTwice(ext:Bool)(m:Nat):Con:=conJ ext m 35 fun X Y Z=>sJ (gtw m (X,Y,Z))
theorem cTwice_ok{ext:Bool}{m:Nat}{γ0:Pl}{w0:World}(hf:FOk ext m γ0 w0):ConOk Try.prog 1 γ0 w0 (cTwice ext m) :=
 conJ_ok hf (fun _ _=>by kernel_rfl) (fun _ _ _ hX hY hZ=>sJ_ok (gtw_lt (m:=m) (by have:=hf.big;omega) hf.lt hX hY hZ rfl)) fun F X Y Z hX hY hZ w hF=>gtwice_any F m X Y Z hX hY hZ w hF
def pA(m X Z x:Nat):Nat:=(x*(Z*Z%m)%m%m+(m - X%m))%m
def pU(m Y Z y:Nat):Nat:=(y*(Z*Z%m*Z%m)%m%m+(m - Y%m))%m
def gpl'(m X Y Z x y:Nat):Nat × Nat × Nat :=
 let across:=pA m X Z x
 let up:=pU m Y Z y
 let square:=across*across%m
 let cube:=square*across%m
 let middle:=X*square%m
 let x3:=(((up*up%m%m+(m - cube%m))%m)%m+(m - (middle+middle)%m%m))%m
 (x3,(up*((middle%m+(m - x3%m))%m)%m%m+(m - Y*cube%m%m))%m,Z*across%m)
theorem gpl_eq(m X Y Z x y:Nat)(n:Bool):gpl m (X,Y,Z) x y n=if n=true then (X,Y,Z)else if Z=0 then (x,y,1)else if pA m X Z x=0/\pU m Y Z y=0 then gtw m (X,Y,Z)else gpl' m X Y Z x y:=rfl
end Sy
theorem gplus_any(F m X Y Z x y:Nat)(n:Bool)(hX:X<2^256)(hY:Y<2^256)(hZ:Z<2^256)(hx:x<2^256)(hy:y<2^256)(w:World)(hF:FldAt w F m):Calls Try.prog 36 #[.agg #[.pointer (some ⟨F,0,none⟩)],.agg (jc X Y Z),.agg (pc x y n)] w fun r w'=>r=.returned (.agg (jt (gpl m (X,Y,Z) x y n)))/\Below w.heap.size w w':=by
 refine calls_at (E1_ok (more:=cOf::cTwice true m::flds true m) ⟨cOf_ok,cTwice_ok (FOk.of hF),flds_ok (FOk.of hF)⟩) (by kernel_rfl) (fun _=>0) Try.func36 (by kernel_rfl) [sG,sJ (X,Y,Z),sP x y n] ⟨⟨⟨trivial,trivial⟩,rfl⟩,⟨⟨hX,hY,hZ,trivial⟩,rfl⟩,⟨⟨hx,hy,trivial,trivial⟩,rfl⟩,trivial⟩ (by kernel_rfl) (by kernel_rfl)
  (.br n (.leaf (sJ (X,Y,Z))) (.br (eqN Z 0) (.leaf (sJ (x,y,1))) (.br (bif eqN (pA m X Z x) 0 then eqN (pU m Y Z y) 0 else false) (.leaf (sJ (gtw m (X,Y,Z)))) (.leaf (sJ (gpl' m X Y Z x y)))))) (by kernel_rfl) ?_
 refine⟨fun h=>?_,fun h=>⟨fun h2=>?_,fun h2=>⟨fun h3=>?_,fun h3=>?_⟩⟩⟩
 ·show(sJ (X,Y,Z)).val _=.agg (jt (gpl m (X,Y,Z) x y n))
  rw[gpl_eq,if_pos h];rfl
 ·show(sJ (x,y,1)).val _=.agg (jt (gpl m (X,Y,Z) x y n))
  rw[gpl_eq,if_neg (by rw[h];simp),if_pos (of_decide_eq_true h2)];rfl
 ·show(sJ (gtw m (X,Y,Z))).val _=.agg (jt (gpl m (X,Y,Z) x y n))
  have h4:pA m X Z x=0/\pU m Y Z y=0:=by simpa[eqN]using h3
  rw[gpl_eq,if_neg (by rw[h];simp),if_neg (of_decide_eq_false h2),if_pos h4];rfl
 ·show(sJ (gpl' m X Y Z x y)).val _=.agg (jt (gpl m (X,Y,Z) x y n))
  have h4:¬(pA m X Z x=0/\pU m Y Z y=0):=by simpa[eqN]using h3
  rw[gpl_eq,if_neg (by rw[h];simp),if_neg (of_decide_eq_false h2),if_neg h4];rfl
theorem gnone_any(w:World):Calls Try.prog 33 #[] w fun r w'=>r=.returned (.agg (pc 0 0 true))/\Below w.heap.size w w' :=
 calls_at (E1_ok (more:=[]) (γ0:=fun _=>0) trivial) (by kernel_rfl) (fun _=>0) Try.func33 (by kernel_rfl) [] trivial (by kernel_rfl) (by kernel_rfl) (.leaf (sPk 0 0 true)) (by kernel_rfl) rfl
namespace Sy
def cNone:Con:=conV 33 fun l=>match l with
 | []=>some (sPk 0 0 true,[])
 | _=>none
theorem cNone_ok{base:Nat}{γ0:Pl}{w0:World}:ConOk Try.prog base γ0 w0 cNone:=conV_ok (fun _ _=>by kernel_rfl) fun us r q h hq hok=>by
 split at h
 ·cases h
  exact⟨⟨w0_ok,w0_ok,trivial,trivial⟩,rfl,fun γ w=>gnone_any w⟩
 ·cases h
end Sy
theorem gturned_any(F m x y:Nat)(n:Bool)(hx:x<2^256)(hy:y<2^256)(w:World)(hF:FldAt w F m):Calls Try.prog 49 #[.agg #[.pointer (some ⟨F,0,none⟩)],.agg (pc x y n)] w fun r w'=>r=.returned (.agg (gtu m x y n))/\Below w.heap.size w w':=by
 refine calls_at (E1_ok (more:=cNone::flds true m) ⟨cNone_ok,flds_ok (FOk.of hF)⟩) (by kernel_rfl) (fun _=>0) Try.func49 (by kernel_rfl) [sG,sP x y n] ⟨⟨⟨trivial,trivial⟩,rfl⟩,⟨⟨hx,hy,trivial,trivial⟩,rfl⟩,trivial⟩ (by kernel_rfl) (by kernel_rfl)
  (.br n (.leaf (sPk 0 0 true)) (.leaf (sPk x ((0%m+(m - y%m))%m) false))) (by kernel_rfl) ⟨fun h=>?_,fun h=>?_⟩
 ·subst h;rfl
 ·subst h;rfl
theorem gpoint_any(F m X Y Z:Nat)(hX:X<2^256)(hY:Y<2^256)(hZ:Z<2^256)(w:World)(hF:FldAt w F m):Calls Try.prog 37 #[.agg #[.pointer (some ⟨F,0,none⟩)],.agg (jc X Y Z)] w fun r w'=>r=.returned (.agg (gpo m (X,Y,Z)))/\Below w.heap.size w w':=by
 refine calls_at (E1_ok (more:=cNone::flds true m) ⟨cNone_ok,flds_ok (FOk.of hF)⟩) (by kernel_rfl) (fun _=>0) Try.func37 (by kernel_rfl) [sG,sJ (X,Y,Z)] ⟨⟨⟨trivial,trivial⟩,rfl⟩,⟨⟨hX,hY,hZ,trivial⟩,rfl⟩,trivial⟩ (by kernel_rfl) (by kernel_rfl)
  (.br (!(eqN (Z*iv m Z%m) 1)) (.leaf (sPk 0 0 true)) (let i:=if Z*iv m Z%m=1 then iv m Z else 0;let q:=i*i%m;.leaf (sPk (X*q%m) (Y*(q*i%m)%m) false))) (by kernel_rfl) ⟨fun h=>?_,fun h=>?_⟩
 ·have h:¬Z*iv m Z%m=1:=by simpa[eqN]using h
  show Value.agg (pc 0 0 true)=.agg (gpo m (X,Y,Z));unfold gpo;exact congrArg _ (if_neg h).symm
 ·have h:Z*iv m Z%m=1:=by simpa[eqN]using h
  rw[if_pos h];show Value.agg (pc (X*(iv m Z*iv m Z%m)%m) (Y*(iv m Z*iv m Z%m*iv m Z%m)%m) false)=.agg (gpo m (X,Y,Z));unfold gpo;exact congrArg _ (if_pos h).symm
namespace Sy
def conW(ext:Bool)(m:Nat)(f:FuncId)(g:Nat->SV):Con:=conG ext m f fun l=>match l with
 | [.w a]=>some (g a,[])
 | _=>none
theorem conW_ok{ext:Bool}{m:Nat}{γ0:Pl}{w0:World}{f:FuncId}{g:Nat->SV}(hf:FOk ext m γ0 w0)(hc:∀ as_ wx,(callFunc f as_).run Try.prog wx=.ok (.enter f as_) wx)(hg:∀ a,(g a).ok/\(g a).lt 0=true)
  (h:∀ F a,a<2^256->∀ w,FldAt w F m->Calls Try.prog f #[.agg #[.pointer (some ⟨F,0,none⟩)],.agg (pw a)] w fun e w'=>e=.returned ((g a).val fun _=>0)/\Below w.heap.size w w'):ConOk Try.prog 1 γ0 w0 (conW ext m f g) :=
 conG_ok hf hc fun us r q hr hq hok=>by
  split at hr
  ·rename_i a
   cases hr;exact⟨(hg a).1,(hg a).2,fun γ F w hF=>by rw[val0 (hg a).2];exact h F a (hok (.w a) (by simp)) w hF⟩
  ·cases hr
def cBelow(ext:Bool)(m:Nat):Con:=conW ext m 56 fun a=>.b (ltN a m)
def cSquare(ext:Bool)(m:Nat):Con:=conW ext m 57 fun a=>.w ((a*a%m*a%m+7)%m)
theorem cBelow_ok{ext:Bool}{m:Nat}{γ0:Pl}{w0:World}(hf:FOk ext m γ0 w0):ConOk Try.prog 1 γ0 w0 (cBelow ext m) :=
 conW_ok hf (fun _ _=>by kernel_rfl) (fun _=>⟨trivial,rfl⟩) fun F a ha w hF=>gbelow_any F m a ha w hF
theorem cSquare_ok{ext:Bool}{m:Nat}{γ0:Pl}{w0:World}(hf:FOk ext m γ0 w0):ConOk Try.prog 1 γ0 w0 (cSquare ext m) :=
 conW_ok hf (fun _ _=>by kernel_rfl) (fun _=>⟨hf.mod _,rfl⟩) fun F a ha w hF=>gsquare_any F m a ha w hF
end Sy
theorem gfit_any(F m x y:Nat)(hx:x<2^256)(hy:y<2^256)(w:World)(hF:FldAt w F m):Calls Try.prog 47 #[.agg #[.pointer (some ⟨F,0,none⟩)],.agg (pw x),.agg (pw y)] w fun r w'=>r=.returned (.bool (decide (x<m/\y<m/\y*y%m=(x*x%m*x%m+7)%m)))/\Below w.heap.size w w':=by
 refine calls_at (E1_ok (more:=cBelow true m::cSquare true m::flds true m) ⟨cBelow_ok (FOk.of hF),cSquare_ok (FOk.of hF),flds_ok (FOk.of hF)⟩) (by kernel_rfl) (fun _=>0) Try.func47 (by kernel_rfl) [sG,.w x,.w y] ⟨⟨⟨trivial,trivial⟩,rfl⟩,⟨hx,rfl⟩,⟨hy,rfl⟩,trivial⟩ (by kernel_rfl) (by kernel_rfl)
  (.leaf (.b (bif (bif ltN x m then ltN y m else false)then eqN (y*y%m) ((x*x%m*x%m+7)%m)else false))) (by kernel_rfl) ?_
 show Value.bool _=.bool _;congr 1;rw[Bool.eq_iff_iff];simp[ltN,eqN,and_assoc]
open Go.RowKit
namespace Sy
def fitB(m a b:Nat):Bool:=decide (a<m/\b<m/\b*b%m=(a*a%m*a%m+7)%m)
def cFit(ext:Bool)(m:Nat):Con:=conG ext m 47 fun l=>match l with
 | [.w a,.w b]=>some (.b (fitB m a b),[])
 | _=>none
theorem cFit_ok{ext:Bool}{m:Nat}{γ0:Pl}{w0:World}(hf:FOk ext m γ0 w0):ConOk Try.prog 1 γ0 w0 (cFit ext m):=conG_ok hf (fun _ _=>by kernel_rfl) fun us r q hr hq hok=>by
 split at hr
 ·rename_i a b
  cases hr;exact⟨trivial,rfl,fun γ F w hF=>gfit_any F m a b (hok (.w a) (by simp)) (hok (.w b) (by simp)) w hF⟩
 ·cases hr
def xlP(l:List (Nat × Nat × Bool))(T:TypeId)(g o j z:Nat):Option (SV × List Ob) :=
 if T=26/\g=1/\o=0/\z=9 then some (sP (l.getD j (0,0,false)).1 (l.getD j (0,0,false)).2.1 (l.getD j (0,0,false)).2.2,[.ask (j<l.length)])else none
noncomputable def EH (more:List Con) (l:List (Nat × Nat × Bool)):Env:=EG 2 more (xlP l) [(78,9)] []
theorem EH_ok{F g:Nat}{w:World}{more:List Con}{l:List (Nat × Nat × Bool)}(hm:conAll Try.prog 2 (fun k=>if k=0 then F else g) w more)(hl:∀ p∈l,p.1<2^256/\p.2.1<2^256)(hg:w.heap[g]?=some (.cells (pls l) 26 (0,0))):(EH more l).Good (fun k=>if k=0 then F else g) w :=
 have hgl:=(Array.getElem?_eq_some_iff.1 hg).1
 EG_ok hm (fun T g' o j z r p h hp=>by
  unfold xlP at h
  split at h
  ·rename_i hh
   obtain⟨rfl,rfl,rfl,rfl⟩:=hh;cases h;have hj:j<l.length:=hp _ (.head _);have hq:=hl _ (List.getElem_mem hj);have e:l.getD j (0,0,false)=l[j]:=by simp[List.getD,hj]
   refine⟨by rw[e];exact⟨hq.1,hq.2,trivial,trivial⟩,rfl,by decide,fun γ hγ wx hw=>?_⟩;rw[hγ 1 (by decide),e];exact ld_mid _ ((hw.block _ hgl).trans hg) (pls_at l j _ _ _ (List.getElem?_eq_getElem hj)) Try.underlying26 rfl (by kernel_rfl)
  ·cases h) (fun q hq=>by
  simp only[List.mem_cons,List.not_mem_nil,or_false]at hq;subst hq;exact⟨_,Try.underlying78,by kernel_rfl⟩) fun _ h=>by cases h
theorem two62:(2:Nat)^62=4611686018427387904:=by decide
noncomputable def TH (m:Nat) (l:List (Nat × Nat × Bool)) (c:Nat):Tr:=walk (EH [cFit true m] l) (fun _=>0) Try.f31 [sG,.s 1 0 l.length c]
def stH(l:List (Nat × Nat × Bool))(c i:Nat):St:=⟨[(2,some (.p 2 0 0 0)),(7,some (.s 1 0 l.length c)),(8,some (.na l.length)),(9,some (.na i))],[(2,sG,47)],3⟩
end Sy
open Sy
theorem ghold_any(F m g c:Nat)(l:List (Nat × Nat × Bool))(hl:∀ p∈l,p.1<2^256/\p.2.1<2^256)(hn:l.length<4294967296)(w:World)(hF:FldAt w F m)(hg:w.heap[g]?=some (.cells (pls l) 26 (0,0))):Calls Try.prog 31 #[.agg #[.pointer (some ⟨F,0,none⟩)],.slice (some ⟨g,0,none⟩) l.length c] w fun r w'=>r=.returned (.bool (l.all (onB m)))/\Below w.heap.size w w':=by
 have hb:∀ n f:Bool,(bif !n then !f else false)=!(n||f):=by decide
 have h62:=two62;have hf:FOk true m (fun k=>if k=0 then F else g) w:=⟨hF.odd,hF.big,hF.lt,fun _=>hF⟩
 refine calls_at (EH_ok (more:=[cFit true m]) (l:=l) ⟨(cFit_ok hf).mono (by decide),trivial⟩ hl hg) (by kernel_rfl) (fun _=>0) Try.func31 (by kernel_rfl) [sG,.s 1 0 l.length c] ⟨⟨⟨trivial,trivial⟩,rfl⟩,⟨trivial,rfl⟩,trivial⟩ (by kernel_rfl) (by kernel_rfl) (.need (l.length<2^62) (.loop 0)) (by kernel_rfl) ?_;refine⟨by omega,loop_wp (T:=(TH m l c).on []) 0 (by kernel_rfl) (ι:={ i:Nat // i<=l.length/\(l.take i).all (onB m)=true }) (fun i=>stH l c i.1) (fun i=>l.length - i.1) ⟨0,Nat.zero_le _,rfl⟩ (Sub.of [2] (by kernel_rfl) ⟨by kernel_rfl,by kernel_rfl,by kernel_rfl,by kernel_rfl,trivial⟩ (by kernel_rfl)) fun⟨i,hi,ha⟩=>?_⟩;refine wp_of_shape (T:=((TH m l c).on []).round (stH l c i)) (by kernel_rfl) (L:=fun L=>(((((TH m l c).on []).round (stH l c i)).on L).wp 2 _)) ?_ fun _ h=>h;rw[show(((TH m l c).on []).round (stH l c i)).shape=.br (ltN i l.length) (.need (i<l.length) (.need (i<l.length) (.br (bif !(l.getD i (0,0,false)).2.2 then !(fitB m (l.getD i (0,0,false)).1 (l.getD i (0,0,false)).2.1)else false) (.leaf (.v (.bool false))) (.need (i+1<2^62) (.cut 0))))) (.leaf (.v (.bool true))) by kernel_rfl];refine⟨fun h1=>?_,fun h1=>?_⟩
 ·have hlt:i<l.length:=of_decide_eq_true h1
  have e:l.getD i (0,0,false)=l[i]:=by simp[List.getD,hlt]
  rw[e];refine⟨hlt,hlt,fun h2=>?_,fun h2=>⟨by omega,?_⟩⟩
  ·show Value.bool false=.bool (l.all (onB m))
   have:onB m l[i]=false:=by
    rw[hb]at h2;have h2:(!onB m l[i])=true:=h2;simpa using h2
   rw[List.all_eq_false.2 ⟨l[i],List.getElem_mem hlt,by rw[this];simp⟩]
  ·have:onB m l[i]=true:=by
    rw[hb]at h2;have h2:(!onB m l[i])=false:=h2;simpa using h2
   exact next_wp 0 (by kernel_rfl) (st:=fun i:{ i:Nat // i<=l.length/\(l.take i).all (onB m)=true }=>stH l c i.1) ⟨i+1,hlt,by rw[List.take_succ_eq_append_getElem hlt,List.all_append,ha];simp[this]⟩ (by show l.length - (i+1)<l.length - i;omega) (Sub.of [2] (by kernel_rfl) ⟨by kernel_rfl,by kernel_rfl,by kernel_rfl,by kernel_rfl,trivial⟩ (by kernel_rfl))
 ·have hge:i=l.length:=by
   have:¬i<l.length:=of_decide_eq_false h1;omega
  show Value.bool true=.bool (l.all (onB m));rw[hge,List.take_length]at ha;rw[ha]
open Go.RowKit
namespace Sy
def gpT(m:Nat)(T:Nat × Nat × Nat):Nat × Nat × Bool:=let i:=iv m T.2.2;let q:=i*i%m
 if T.2.2*i%m=1 then (T.1*q%m,T.2.1*(q*i%m)%m,false)else (0,0,true)
theorem gpo_gpT(m:Nat)(T:Nat × Nat × Nat):gpo m T=pc (gpT m T).1 (gpT m T).2.1 (gpT m T).2.2:=by
 unfold gpo gpT;dsimp only;show(if T.2.2*iv m T.2.2%m=1 then _ else _)=_
 split <;> rfl
def gtT(m x y:Nat)(n:Bool):Nat × Nat × Bool:=if n=true then (0,0,true)else (x,(0%m+(m - y%m))%m,false)
theorem gtu_gtT(m x y:Nat)(n:Bool):gtu m x y n=pc (gtT m x y n).1 (gtT m x y n).2.1 (gtT m x y n).2.2:=by
 unfold gtu gtT
 split <;> rfl
def sP3(p:Nat × Nat × Bool):SV:=sP p.1 p.2.1 p.2.2
theorem sP3_val(p:Nat × Nat × Bool)(γ:Pl):(sP3 p).val γ=.agg (pc p.1 p.2.1 p.2.2):=by
 show Value.agg ((pw p.1).toList++((pw p.2.1).toList++([Value.bool p.2.2]++[]))).toArray=_;simp[pc]
theorem gpT_lt{m:Nat}(h0:0<m)(hm:m<2^256)(T:Nat × Nat × Nat):(gpT m T).1<2^256/\(gpT m T).2.1<2^256:=by
 have h:∀ n,n%m<2^256:=fun n=>Nat.lt_trans (Nat.mod_lt _ h0) hm;unfold gpT;dsimp only
 split
 ·exact⟨h _,h _⟩
 ·exact⟨w0_ok,w0_ok⟩
theorem gtT_lt{m:Nat}(h0:0<m)(hm:m<2^256){x:Nat}(hx:x<2^256)(y:Nat)(n:Bool):(gtT m x y n).1<2^256/\(gtT m x y n).2.1<2^256:=by
 unfold gtT
 split
 ·exact⟨w0_ok,w0_ok⟩
 ·exact⟨hx,Nat.lt_trans (Nat.mod_lt _ h0) hm⟩
theorem sP3_ok{p:Nat × Nat × Bool}(h:p.1<2^256/\p.2.1<2^256):(sP3 p).ok/\(sP3 p).lt 0=true:=⟨⟨h.1,h.2,trivial,trivial⟩,rfl⟩
def cPoint(ext:Bool)(m:Nat):Con:=conJ ext m 37 fun X Y Z=>sP3 (gpT m (X,Y,Z))
theorem cPoint_ok{ext:Bool}{m:Nat}{γ0:Pl}{w0:World}(hf:FOk ext m γ0 w0):ConOk Try.prog 1 γ0 w0 (cPoint ext m) :=
 conJ_ok hf (fun _ _=>by kernel_rfl) (fun _ _ _ _ _ _=>sP3_ok (gpT_lt (by have:=hf.big;omega) hf.lt _)) fun F X Y Z hX hY hZ w hF=>by
  rw[sP3_val,<- gpo_gpT];exact gpoint_any F m X Y Z hX hY hZ w hF
def conP(ext:Bool)(m:Nat)(f:FuncId)(g:Nat × Nat × Bool->SV):Con:=conG ext m f fun l=>match l with
 | [x]=>(ptS x).map fun p=>(g p,[])
 | _=>none
theorem conP_ok{ext:Bool}{m:Nat}{γ0:Pl}{w0:World}{f:FuncId}{g:Nat × Nat × Bool->SV}(hf:FOk ext m γ0 w0)(hc:∀ as_ wx,(callFunc f as_).run Try.prog wx=.ok (.enter f as_) wx)(hg:∀ p,p.1<2^256->p.2.1<2^256->(g p).ok/\(g p).lt 0=true)
  (h:∀ F x y n,x<2^256->y<2^256->∀ w,FldAt w F m->Calls Try.prog f #[.agg #[.pointer (some ⟨F,0,none⟩)],.agg (pc x y n)] w fun e w'=>e=.returned ((g (x,y,n)).val fun _=>0)/\Below w.heap.size w w'):ConOk Try.prog 1 γ0 w0 (conP ext m f g) :=
 conG_ok hf hc fun us r q hr hq hok=>by
  split at hr
  ·rename_i x
   obtain⟨p,hp,e⟩:=Option.map_eq_some_iff.1 hr;cases e;have q:=(ptS_ok (γ:=fun _=>0) hp).2 (hok x (by simp));have k:=hg p q.1 q.2;refine⟨k.1,k.2,fun γ F w hF=>?_⟩;have g4:=h F p.1 p.2.1 p.2.2 q.1 q.2 w hF;rw[<- (ptS_ok (γ:=γ) hp).1]at g4;rw[val0 k.2];exact g4
  ·cases hr
def cTurned(ext:Bool)(m:Nat):Con:=conP ext m 49 fun p=>sP3 (gtT m p.1 p.2.1 p.2.2)
theorem cTurned_ok{ext:Bool}{m:Nat}{γ0:Pl}{w0:World}(hf:FOk ext m γ0 w0):ConOk Try.prog 1 γ0 w0 (cTurned ext m) :=
 conP_ok hf (fun _ _=>by kernel_rfl) (fun _ hx _=>sP3_ok (gtT_lt (by have:=hf.big;omega) hf.lt hx _ _)) fun F x y n hx hy w hF=>by
  rw[sP3_val,<- gtu_gtT];exact gturned_any F m x y n hx hy w hF
def cPlus(ext:Bool)(m:Nat):Con:=conG ext m 36 fun l=>match l with
 | [.ap (.w X) (.ap (.w Y) (.ap (.w Z) .e)),x]=>(ptS x).map fun p=>(sJ (gpl m (X,Y,Z) p.1 p.2.1 p.2.2),[])
 | _=>none
theorem cPlus_ok{ext:Bool}{m:Nat}{γ0:Pl}{w0:World}(hf:FOk ext m γ0 w0):ConOk Try.prog 1 γ0 w0 (cPlus ext m) :=
 conG_ok hf (fun _ _=>by kernel_rfl) fun us r q hr hq hok=>by
  split at hr
  ·rename_i X Y Z x
   obtain⟨p,hp,e⟩:=Option.map_eq_some_iff.1 hr;cases e;have q:=(ptS_ok (γ:=fun _=>0) hp).2 (hok x (by simp));obtain⟨h1,h2,h3,_⟩:=hok (.ap (.w X) (.ap (.w Y) (.ap (.w Z) .e))) (by simp);have k:=sJ_ok (gpl_lt (m:=m) (n:=p.2.2) (by have:=hf.big;omega) hf.lt h1 h2 h3 q.1 q.2 rfl);refine⟨k.1,k.2,fun γ F w hF=>?_⟩;have g4:=gplus_any F m X Y Z p.1 p.2.1 p.2.2 h1 h2 h3 q.1 q.2 w hF;rw[<- (ptS_ok (γ:=γ) hp).1]at g4;exact g4
  ·cases hr
def cHoldX(m:Nat)(l:List (Nat × Nat × Bool)):Con:=⟨31,fun _ M us=>match us with
 | [.ap x .e,.s 1 0 n _]=>(isF true m M x).map fun p=>(.b (l.all (onB m)),.ask (n=l.length)::p,[])
 | _=>none⟩
theorem cHoldX_ok{m:Nat}{γ0:Pl}{w0:World}{l:List (Nat × Nat × Bool)}(hf:FOk true m γ0 w0)(hl:∀ p∈l,p.1<2^256/\p.2.1<2^256)(hn:l.length<4294967296)(hg:w0.heap[γ0 1]?=some (.cells (pls l) 26 (0,0))):ConOk Try.prog 2 γ0 w0 (cHoldX m l) :=
 .of (fun _ _=>by kernel_rfl) fun n M us r p R hr hp hok=>by
  unfold cHoldX at hr;dsimp only at hr
  split at hr
  ·rename_i x k c
   obtain⟨q,hx,e⟩:=Option.map_eq_some_iff.1 hr;cases e;have hk:k=l.length:=hp _ (.head _);subst hk;refine⟨rfl,trivial,rfl,fun γ hγ wx hw hL=>?_⟩;obtain⟨F,h1,h2⟩:=isF_at hx (fun a ha=>hp a (.tail _ ha)) hf (fun k hk=>hγ k (Nat.lt_succ_of_lt hk)) hw hL;have hgl:=(Array.getElem?_eq_some_iff.1 hg).1;have g4:=ghold_any F m (γ0 1) c l hl hn wx h2 ((hw.block _ hgl).trans hg);rw[<- agg_ptr hx h1,<- hγ 1 (by decide)]at g4;exact g4
  ·cases hr
end Sy
open Go.RowKit
namespace Sy
noncomputable def TS (m:Nat) (l:List (Nat × Nat × Bool)) (c:Nat):Tr:=walk (EH (cHoldX m l::cPlus true m::cPoint true m::cNone::[]) l) (fun _=>0) Try.f21 [sG,.s 1 0 l.length c]
def stS(l:List (Nat × Nat × Bool))(c i:Nat)(T:Nat × Nat × Nat):St:=⟨[(2,some (.p 2 0 0 0)),(4,some (.p 3 0 0 0)),(6,some (.p 4 0 0 0)),(14,some (.s 1 0 l.length c)),(15,some (.na l.length)),(16,some (.na i))],[(4,sJ T,74),(3,sPk 0 0 false,26),(2,sG,47)],5⟩
structure RS (m:Nat) (l:List (Nat × Nat × Bool)) where
 i:Nat
 T:Nat × Nat × Nat
 le:i<=l.length
 is:T=gsm m (l.take i)
 lt:T.1<2^256/\T.2.1<2^256/\T.2.2<2^256
theorem gsm_snoc(m:Nat)(l:List (Nat × Nat × Bool))(p:Nat × Nat × Bool):gsm m (l++[p])=gpl m (gsm m l) p.1 p.2.1 p.2.2:=by
 unfold gsm;rw[List.foldl_append];rfl
end Sy
open Sy
theorem gsum_any(F m g c:Nat)(l:List (Nat × Nat × Bool))(hl:∀ p∈l,p.1<2^256/\p.2.1<2^256)(hn:l.length<4294967296)(w:World)(hF:FldAt w F m)(hg:w.heap[g]?=some (.cells (pls l) 26 (0,0))):Calls Try.prog 21 #[.agg #[.pointer (some ⟨F,0,none⟩)],.slice (some ⟨g,0,none⟩) l.length c] w fun r w'=>r=.returned (.tuple #[.agg (if l.all (onB m)=true then gpo m (gsm m l)else pc 0 0 true),.int .i64 (if l.all (onB m)=true then 0 else 81)])/\Below w.heap.size w w':=by
 have h62:=two62;have hm0:0<m:=by have:=hF.big;omega
 have hf:FOk true m (fun k=>if k=0 then F else g) w:=⟨hF.odd,hF.big,hF.lt,fun _=>hF⟩
 refine calls_at (EH_ok (more:=cHoldX m l::cPlus true m::cPoint true m::cNone::[]) (l:=l) ⟨cHoldX_ok hf hl hn hg,(cPlus_ok hf).mono (by decide),(cPoint_ok hf).mono (by decide),cNone_ok,trivial⟩ hl hg) (by kernel_rfl) (fun _=>0) Try.func21 (by kernel_rfl) [sG,.s 1 0 l.length c] ⟨⟨⟨trivial,trivial⟩,rfl⟩,⟨trivial,rfl⟩,trivial⟩ (by kernel_rfl) (by kernel_rfl)
  (.need (l.length=l.length) (.br (!l.all (onB m)) (.leaf (.tu (sPk 0 0 true) (.v (.int .i64 81)))) (.need (l.length<2^62) (.loop 0)))) (by kernel_rfl) ?_
 refine⟨rfl,fun h=>?_,fun h=>⟨by omega,?_⟩⟩
 ·have h:l.all (onB m)=false:=by simpa using h
  rw[h];rfl
 have hall:l.all (onB m)=true:=by simpa using h
 refine loop_wp (T:=(TS m l c).on [false]) 0 (by kernel_rfl) (ι:=RS m l) (fun r=>stS l c r.i r.T) (fun r=>l.length - r.i) ⟨0,(0,0,0),Nat.zero_le _,rfl,w0_ok,w0_ok,w0_ok⟩ (Sub.of [4,3,2] (by kernel_rfl) ⟨by kernel_rfl,by kernel_rfl,by kernel_rfl,by kernel_rfl,by kernel_rfl,by kernel_rfl,trivial⟩ (by kernel_rfl)) fun⟨i,T,hi,hT,hlt⟩=>?_;refine wp_of_shape (T:=((TS m l c).on [false]).round (stS l c i T)) (by kernel_rfl) (L:=fun L=>(((((TS m l c).on [false]).round (stS l c i T)).on L).wp 2 _)) ?_ fun _ h=>h;rw[show(((TS m l c).on [false]).round (stS l c i T)).shape=.br (ltN i l.length) (.need (i<l.length) (.need (i<l.length) (.need (i+1<2^62) (.cut 0)))) (.leaf (.tu (sP3 (gpT m T)) (.v (.int .i64 0)))) by kernel_rfl];refine⟨fun h1=>?_,fun h1=>?_⟩
 ·have hil:i<l.length:=of_decide_eq_true h1
  have e:l.getD i (0,0,false)=l[i]:=by simp[List.getD,hil]
  have hq:=hl _ (List.getElem_mem hil);rw[<- e]at hq;exact⟨hil,hil,by omega,next_wp 0 (by kernel_rfl) (st:=fun r:RS m l=>stS l c r.i r.T) ⟨i+1,gpl m T (l.getD i (0,0,false)).1 (l.getD i (0,0,false)).2.1 (l.getD i (0,0,false)).2.2,hil,by rw[List.take_succ_eq_append_getElem hil,gsm_snoc,hT,e],gpl_lt hm0 hF.lt hlt.1 hlt.2.1 hlt.2.2 hq.1 hq.2 rfl⟩ (by show l.length - (i+1)<l.length - i;omega) (Sub.of [4,3,2] (by kernel_rfl) ⟨by kernel_rfl,by kernel_rfl,by kernel_rfl,by kernel_rfl,by kernel_rfl,by kernel_rfl,trivial⟩ (by kernel_rfl))⟩
 ·have hge:i=l.length:=by
   have:¬i<l.length:=of_decide_eq_false h1;omega
  rw[hge,List.take_length]at hT;show Value.tuple #[(sP3 (gpT m T)).val _,_]=_;rw[sP3_val,<- gpo_gpT,hT,hall];rfl
end Go.Proofs.Ytphafjbajlcbnaa
