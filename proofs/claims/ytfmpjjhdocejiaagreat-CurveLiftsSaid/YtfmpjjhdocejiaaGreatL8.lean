/- What the reference's whole comes to. (Cut to what is reached, written closely: SyU · SyP · SyN · SyQ · Prm · FCrv · FRNum · RLow · FRCmp · FRPls · FRMin · RFld · RPt · RAd · RSb · RCutN · RWh.) -/
import Derived.Test.YtfmpjjhdocejiaaGreatL7
import Derived.Laws.Bits64b
import Derived.Test.YtfmpjjhdocejiaaGreatL2
import Derived.Test.YtfmpjjhdocejiaaGreatL6
import Derived.Test.YtfmpjjhdocejiaaGreatL5
import Derived.Test.YtfmpjjhdocejiaaGreatL1
set_option linter.all false
set_option maxRecDepth 100000
set_option maxHeartbeats 8000000
namespace Go.Proofs.YtfmpjjhdocejiaaGreat
open Go.RowKit
namespace Sy
def conV(f:FuncId)(g:List SV->Option (SV × List Ob)):Con:=⟨f,fun _ _ l=>(g l).map fun q=>(q.1,q.2,[])⟩
theorem conV_ok{P:Program}{base:Nat}{γ0:Pl}{w0:World}{f:FuncId}{g:List SV->Option (SV × List Ob)}(hc:∀ as_ wx,(callFunc f as_).run P wx=.ok (.enter f as_) wx)
  (h:∀ us r q,g us=some (r,q)->All q->(∀ x∈us,x.ok)->r.ok/\r.lt 0=true/\∀ γ w,Calls P f (us.map (·.val γ)).toArray w fun e w'=>e=.returned (r.val γ)/\Below w.heap.size w w'):ConOk P base γ0 w0 (conV f g) :=
 .of hc fun n M l r p R hr hp hok=>by
  obtain⟨q,hq,e⟩:=Option.map_eq_some_iff.1 hr;cases e;have:=h l q.1 q.2 hq hp hok;exact⟨rfl,this.1,this.2.1,fun γ _ wx _ _=>this.2.2 γ wx⟩
theorem agg_ptr{x:SV}{γ:Pl}{F:Nat}{ext:Bool}{m:Nat}{M:Rows}{p:List Ob}(hx:isF ext m M x=some p)(h:x.val γ=.pointer (some ⟨F,0,none⟩)):(SV.ap x .e).val γ=.agg #[.pointer (some ⟨F,0,none⟩)]:=by
 cases x <;> first | (cases hx;done) | skip
 simpa[SV.val,SV.cells,SV.sc]using h
def conG(ext:Bool)(m:Nat)(f:FuncId)(g:List SV->Option (SV × List Ob)):Con:=⟨f,fun _ M l=>match l with
 | .ap x .e::us=>match isF ext m M x,g us with
  | some p,some (r,q)=>some (r,q++p,[])
  | _,_=>none
 | _=>none⟩
theorem conG_ok{P:Program}{ext:Bool}{m:Nat}{γ0:Pl}{w0:World}{f:FuncId}{g:List SV->Option (SV × List Ob)}(hf:FOk ext m γ0 w0)(hc:∀ as_ wx,(callFunc f as_).run P wx=.ok (.enter f as_) wx)
  (h:∀ us r q,g us=some (r,q)->All q->(∀ x∈us,x.ok)->r.ok/\r.lt 0=true/\∀ γ F w,FldAt w F m->Calls P f (.agg #[.pointer (some ⟨F,0,none⟩)]::us.map (·.val γ)).toArray w fun e w'=>e=.returned (r.val γ)/\Below w.heap.size w w'):ConOk P 1 γ0 w0 (conG ext m f g) :=
 .of hc fun n M l r p R hr hp hok=>by
  unfold conG at hr;dsimp only at hr
  split at hr
  ·rename_i x us
   split at hr
   ·rename_i p' r' q hx hq
    cases hr;obtain⟨g1,g2,g3⟩:=h us r q hq (fun a ha=>hp a (List.mem_append_left _ ha)) fun x hx=>hok x (.tail _ hx);refine⟨rfl,g1,g2,?_⟩;intro γ hγ wx hw hL;obtain⟨F,h1,h2⟩:=isF_at hx (fun a ha=>hp a (List.mem_append_right _ ha)) hf hγ hw hL;have g4:=g3 γ F wx h2;rw[<- agg_ptr hx h1]at g4;exact g4
   ·cases hr
  ·cases hr
def cOf:Con:=conV 70 fun l=>match l with
 | [x]=>(limbS x).map fun k=>(.w k,[])
 | _=>none
theorem cOf_ok{base:Nat}{γ0:Pl}{w0:World}:ConOk Tryz.prog base γ0 w0 cOf:=conV_ok (fun _ _=>by kernel_rfl) fun us r q h hq hok=>by
 split at h
 ·obtain⟨k,hk,e⟩:=Option.map_eq_some_iff.1 h
  cases e;have hlt:=(limbS_ok (γ:=fun _=>0) hk).2;refine⟨Nat.lt_trans hlt (by decide),rfl,fun γ w=>?_⟩;have g:=of_wv k hlt w;rw[<- (limbS_ok (γ:=γ) hk).1]at g;exact g
 ·cases h
def gtw'(m:Nat)(T:Nat × Nat × Nat):Nat × Nat × Nat :=
 let rise:=(T.2.1+T.2.1)%m
 let half:=T.2.1*rise%m
 let square:=(half+half)%m
 let middle:=T.1*square%m
 let xx:=T.1*T.1%m
 let slope:=((xx+xx)%m+xx)%m
 let x:=(slope*slope%m%m+(m - (middle+middle)%m%m))%m
 (x,(slope*((middle%m+(m - x%m))%m)%m%m+(m - half*square%m%m))%m,rise*T.2.2%m)
end Sy
open Sy
theorem gtwice_any(F m X Y Z:Nat)(hX:X<2^256)(hY:Y<2^256)(hZ:Z<2^256)(w:World)(hF:FldAt w F m):Calls Tryz.prog 67 #[.agg #[.pointer (some ⟨F,0,none⟩)],.agg (jc X Y Z)] w fun r w'=>r=.returned (.agg (jt (gtw m (X,Y,Z))))/\Below w.heap.size w w':=by
 refine calls_at (E1_ok (flds_ok (FOk.of hF))) (by kernel_rfl) (fun _=>0) Tryz.func67 (by kernel_rfl) [sG,sJ (X,Y,Z)] ⟨⟨⟨trivial,trivial⟩,rfl⟩,⟨⟨hX,hY,hZ,trivial⟩,rfl⟩,trivial⟩ (by kernel_rfl) (by kernel_rfl)
  (.br (eqN Z 0) (.leaf (sJ (X,Y,Z))) (.leaf (sJ (gtw' m (X,Y,Z))))) (by kernel_rfl) ⟨fun h=>?_,fun h=>?_⟩
 ·show(sJ (X,Y,Z)).val _=.agg (jt (if Z=0 then (X,Y,Z)else gtw' m (X,Y,Z)))
  rw[if_pos (of_decide_eq_true h)];rfl
 ·show(sJ (gtw' m (X,Y,Z))).val _=.agg (jt (if Z=0 then (X,Y,Z)else gtw' m (X,Y,Z)))
  rw[if_neg (of_decide_eq_false h)];rfl
namespace Sy
def conJ(ext:Bool)(m:Nat)(f:FuncId)(g:Nat->Nat->Nat->SV):Con:=conG ext m f fun l=>match l with
 | [.ap (.w X) (.ap (.w Y) (.ap (.w Z) .e))]=>some (g X Y Z,[])
 | _=>none
theorem conJ_ok{ext:Bool}{m:Nat}{γ0:Pl}{w0:World}{f:FuncId}{g:Nat->Nat->Nat->SV}(hf:FOk ext m γ0 w0)(hc:∀ as_ wx,(callFunc f as_).run Tryz.prog wx=.ok (.enter f as_) wx)(hg:∀ X Y Z,X<2^256->Y<2^256->Z<2^256->(g X Y Z).ok/\(g X Y Z).lt 0=true)
  (h:∀ F X Y Z,X<2^256->Y<2^256->Z<2^256->∀ w,FldAt w F m->Calls Tryz.prog f #[.agg #[.pointer (some ⟨F,0,none⟩)],.agg (jc X Y Z)] w fun e w'=>e=.returned ((g X Y Z).val fun _=>0)/\Below w.heap.size w w'):ConOk Tryz.prog 1 γ0 w0 (conJ ext m f g) :=
 conG_ok hf hc fun us r q hr hq hok=>by
  split at hr
  ·rename_i X Y Z
   cases hr;obtain⟨h1,h2,h3,_⟩:=hok (.ap (.w X) (.ap (.w Y) (.ap (.w Z) .e))) (by simp);have q:=hg X Y Z h1 h2 h3;exact⟨q.1,q.2,fun γ F w hF=>by rw[val0 q.2];exact h F X Y Z h1 h2 h3 w hF⟩
  ·cases hr
theorem sJ_ok{T:Nat × Nat × Nat}(h:T.1<2^256/\T.2.1<2^256/\T.2.2<2^256):(sJ T).ok/\(sJ T).lt 0=true:=⟨⟨h.1,h.2.1,h.2.2,trivial⟩,rfl⟩
def cTwice(ext:Bool)(m:Nat):Con:=conJ ext m 67 fun X Y Z=>sJ (gtw m (X,Y,Z))
theorem cTwice_ok{ext:Bool}{m:Nat}{γ0:Pl}{w0:World}(hf:FOk ext m γ0 w0):ConOk Tryz.prog 1 γ0 w0 (cTwice ext m) :=
 conJ_ok hf (fun _ _=>by kernel_rfl) (fun _ _ _ hX hY hZ=>sJ_ok (gtw_lt (m:=m) (by have:=hf.big;omega) hf.lt hX hY hZ rfl)) fun F X Y Z hX hY hZ w hF=>gtwice_any F m X Y Z hX hY hZ w hF
def pA(m X Z x:Nat):Nat:=(x*(Z*Z%m)%m%m+(m - X%m))%m
def pU(m Y Z y:Nat):Nat:=(y*(Z*Z%m*Z%m)%m%m+(m - Y%m))%m
def gpl'(m X Y Z x y:Nat):Nat × Nat × Nat :=
 let across:=pA m X Z x
 let up:=pU m Y Z y
 let square:=across*across%m
 let cube:=square*across%m
 let middle:=X*square%m
 let x3:=(((up*up%m%m+(m - cube%m))%m)%m+(m - (middle+middle)%m%m))%m
 (x3,(up*((middle%m+(m - x3%m))%m)%m%m+(m - Y*cube%m%m))%m,Z*across%m)
theorem gpl_eq(m X Y Z x y:Nat)(n:Bool):gpl m (X,Y,Z) x y n=if n=true then (X,Y,Z)else if Z=0 then (x,y,1)else if pA m X Z x=0/\pU m Y Z y=0 then gtw m (X,Y,Z)else gpl' m X Y Z x y:=rfl
end Sy
theorem gplus_any(F m X Y Z x y:Nat)(n:Bool)(hX:X<2^256)(hY:Y<2^256)(hZ:Z<2^256)(hx:x<2^256)(hy:y<2^256)(w:World)(hF:FldAt w F m):Calls Tryz.prog 63 #[.agg #[.pointer (some ⟨F,0,none⟩)],.agg (jc X Y Z),.agg (pc x y n)] w fun r w'=>r=.returned (.agg (jt (gpl m (X,Y,Z) x y n)))/\Below w.heap.size w w':=by
 refine calls_at (E1_ok (more:=cOf::cTwice true m::flds true m) ⟨cOf_ok,cTwice_ok (FOk.of hF),flds_ok (FOk.of hF)⟩) (by kernel_rfl) (fun _=>0) Tryz.func63 (by kernel_rfl) [sG,sJ (X,Y,Z),sP x y n] ⟨⟨⟨trivial,trivial⟩,rfl⟩,⟨⟨hX,hY,hZ,trivial⟩,rfl⟩,⟨⟨hx,hy,trivial,trivial⟩,rfl⟩,trivial⟩ (by kernel_rfl) (by kernel_rfl)
  (.br n (.leaf (sJ (X,Y,Z))) (.br (eqN Z 0) (.leaf (sJ (x,y,1))) (.br (bif eqN (pA m X Z x) 0 then eqN (pU m Y Z y) 0 else false) (.leaf (sJ (gtw m (X,Y,Z)))) (.leaf (sJ (gpl' m X Y Z x y)))))) (by kernel_rfl) ?_
 refine⟨fun h=>?_,fun h=>⟨fun h2=>?_,fun h2=>⟨fun h3=>?_,fun h3=>?_⟩⟩⟩
 ·show(sJ (X,Y,Z)).val _=.agg (jt (gpl m (X,Y,Z) x y n))
  rw[gpl_eq,if_pos h];rfl
 ·show(sJ (x,y,1)).val _=.agg (jt (gpl m (X,Y,Z) x y n))
  rw[gpl_eq,if_neg (by rw[h];simp),if_pos (of_decide_eq_true h2)];rfl
 ·show(sJ (gtw m (X,Y,Z))).val _=.agg (jt (gpl m (X,Y,Z) x y n))
  have h4:pA m X Z x=0/\pU m Y Z y=0:=by simpa[eqN]using h3
  rw[gpl_eq,if_neg (by rw[h];simp),if_neg (of_decide_eq_false h2),if_pos h4];rfl
 ·show(sJ (gpl' m X Y Z x y)).val _=.agg (jt (gpl m (X,Y,Z) x y n))
  have h4:¬(pA m X Z x=0/\pU m Y Z y=0):=by simpa[eqN]using h3
  rw[gpl_eq,if_neg (by rw[h];simp),if_neg (of_decide_eq_false h2),if_neg h4];rfl
theorem gnone_any(w:World):Calls Tryz.prog 28 #[] w fun r w'=>r=.returned (.agg (pc 0 0 true))/\Below w.heap.size w w' :=
 calls_at (E1_ok (more:=[]) (γ0:=fun _=>0) trivial) (by kernel_rfl) (fun _=>0) Tryz.func28 (by kernel_rfl) [] trivial (by kernel_rfl) (by kernel_rfl) (.leaf (sPk 0 0 true)) (by kernel_rfl) rfl
namespace Sy
def cNone:Con:=conV 28 fun l=>match l with
 | []=>some (sPk 0 0 true,[])
 | _=>none
theorem cNone_ok{base:Nat}{γ0:Pl}{w0:World}:ConOk Tryz.prog base γ0 w0 cNone:=conV_ok (fun _ _=>by kernel_rfl) fun us r q h hq hok=>by
 split at h
 ·cases h
  exact⟨⟨w0_ok,w0_ok,trivial,trivial⟩,rfl,fun γ w=>gnone_any w⟩
 ·cases h
end Sy
theorem gturned_any(F m x y:Nat)(n:Bool)(hx:x<2^256)(hy:y<2^256)(w:World)(hF:FldAt w F m):Calls Tryz.prog 29 #[.agg #[.pointer (some ⟨F,0,none⟩)],.agg (pc x y n)] w fun r w'=>r=.returned (.agg (gtu m x y n))/\Below w.heap.size w w':=by
 refine calls_at (E1_ok (more:=cNone::flds true m) ⟨cNone_ok,flds_ok (FOk.of hF)⟩) (by kernel_rfl) (fun _=>0) Tryz.func29 (by kernel_rfl) [sG,sP x y n] ⟨⟨⟨trivial,trivial⟩,rfl⟩,⟨⟨hx,hy,trivial,trivial⟩,rfl⟩,trivial⟩ (by kernel_rfl) (by kernel_rfl)
  (.br n (.leaf (sPk 0 0 true)) (.leaf (sPk x ((0%m+(m - y%m))%m) false))) (by kernel_rfl) ⟨fun h=>?_,fun h=>?_⟩
 ·subst h;rfl
 ·subst h;rfl
theorem gpoint_any(F m X Y Z:Nat)(hX:X<2^256)(hY:Y<2^256)(hZ:Z<2^256)(w:World)(hF:FldAt w F m):Calls Tryz.prog 64 #[.agg #[.pointer (some ⟨F,0,none⟩)],.agg (jc X Y Z)] w fun r w'=>r=.returned (.agg (gpo m (X,Y,Z)))/\Below w.heap.size w w':=by
 refine calls_at (E1_ok (more:=cNone::flds true m) ⟨cNone_ok,flds_ok (FOk.of hF)⟩) (by kernel_rfl) (fun _=>0) Tryz.func64 (by kernel_rfl) [sG,sJ (X,Y,Z)] ⟨⟨⟨trivial,trivial⟩,rfl⟩,⟨⟨hX,hY,hZ,trivial⟩,rfl⟩,trivial⟩ (by kernel_rfl) (by kernel_rfl)
  (.br (!(eqN (Z*iv m Z%m) 1)) (.leaf (sPk 0 0 true)) (let i:=if Z*iv m Z%m=1 then iv m Z else 0;let q:=i*i%m;.leaf (sPk (X*q%m) (Y*(q*i%m)%m) false))) (by kernel_rfl) ⟨fun h=>?_,fun h=>?_⟩
 ·have h:¬Z*iv m Z%m=1:=by simpa[eqN]using h
  show Value.agg (pc 0 0 true)=.agg (gpo m (X,Y,Z));unfold gpo;exact congrArg _ (if_neg h).symm
 ·have h:Z*iv m Z%m=1:=by simpa[eqN]using h
  rw[if_pos h];show Value.agg (pc (X*(iv m Z*iv m Z%m)%m) (Y*(iv m Z*iv m Z%m*iv m Z%m)%m) false)=.agg (gpo m (X,Y,Z));unfold gpo;exact congrArg _ (if_pos h).symm
namespace Sy
def conW(ext:Bool)(m:Nat)(f:FuncId)(g:Nat->SV):Con:=conG ext m f fun l=>match l with
 | [.w a]=>some (g a,[])
 | _=>none
theorem conW_ok{ext:Bool}{m:Nat}{γ0:Pl}{w0:World}{f:FuncId}{g:Nat->SV}(hf:FOk ext m γ0 w0)(hc:∀ as_ wx,(callFunc f as_).run Tryz.prog wx=.ok (.enter f as_) wx)(hg:∀ a,(g a).ok/\(g a).lt 0=true)
  (h:∀ F a,a<2^256->∀ w,FldAt w F m->Calls Tryz.prog f #[.agg #[.pointer (some ⟨F,0,none⟩)],.agg (pw a)] w fun e w'=>e=.returned ((g a).val fun _=>0)/\Below w.heap.size w w'):ConOk Tryz.prog 1 γ0 w0 (conW ext m f g) :=
 conG_ok hf hc fun us r q hr hq hok=>by
  split at hr
  ·rename_i a
   cases hr;exact⟨(hg a).1,(hg a).2,fun γ F w hF=>by rw[val0 (hg a).2];exact h F a (hok (.w a) (by simp)) w hF⟩
  ·cases hr
def cBelow(ext:Bool)(m:Nat):Con:=conW ext m 47 fun a=>.b (ltN a m)
def cSquare(ext:Bool)(m:Nat):Con:=conW ext m 46 fun a=>.w ((a*a%m*a%m+7)%m)
theorem cBelow_ok{ext:Bool}{m:Nat}{γ0:Pl}{w0:World}(hf:FOk ext m γ0 w0):ConOk Tryz.prog 1 γ0 w0 (cBelow ext m) :=
 conW_ok hf (fun _ _=>by kernel_rfl) (fun _=>⟨trivial,rfl⟩) fun F a ha w hF=>gbelow_any F m a ha w hF
theorem cSquare_ok{ext:Bool}{m:Nat}{γ0:Pl}{w0:World}(hf:FOk ext m γ0 w0):ConOk Tryz.prog 1 γ0 w0 (cSquare ext m) :=
 conW_ok hf (fun _ _=>by kernel_rfl) (fun _=>⟨hf.mod _,rfl⟩) fun F a ha w hF=>gsquare_any F m a ha w hF
end Sy
theorem gfit_any(F m x y:Nat)(hx:x<2^256)(hy:y<2^256)(w:World)(hF:FldAt w F m):Calls Tryz.prog 50 #[.agg #[.pointer (some ⟨F,0,none⟩)],.agg (pw x),.agg (pw y)] w fun r w'=>r=.returned (.bool (decide (x<m/\y<m/\y*y%m=(x*x%m*x%m+7)%m)))/\Below w.heap.size w w':=by
 refine calls_at (E1_ok (more:=cBelow true m::cSquare true m::flds true m) ⟨cBelow_ok (FOk.of hF),cSquare_ok (FOk.of hF),flds_ok (FOk.of hF)⟩) (by kernel_rfl) (fun _=>0) Tryz.func50 (by kernel_rfl) [sG,.w x,.w y] ⟨⟨⟨trivial,trivial⟩,rfl⟩,⟨hx,rfl⟩,⟨hy,rfl⟩,trivial⟩ (by kernel_rfl) (by kernel_rfl)
  (.leaf (.b (bif (bif ltN x m then ltN y m else false)then eqN (y*y%m) ((x*x%m*x%m+7)%m)else false))) (by kernel_rfl) ?_
 show Value.bool _=.bool _;congr 1;rw[Bool.eq_iff_iff];simp[ltN,eqN,and_assoc]
open Go.RowKit
namespace Sy
def fitB(m a b:Nat):Bool:=decide (a<m/\b<m/\b*b%m=(a*a%m*a%m+7)%m)
def cFit(ext:Bool)(m:Nat):Con:=conG ext m 50 fun l=>match l with
 | [.w a,.w b]=>some (.b (fitB m a b),[])
 | _=>none
theorem cFit_ok{ext:Bool}{m:Nat}{γ0:Pl}{w0:World}(hf:FOk ext m γ0 w0):ConOk Tryz.prog 1 γ0 w0 (cFit ext m):=conG_ok hf (fun _ _=>by kernel_rfl) fun us r q hr hq hok=>by
 split at hr
 ·rename_i a b
  cases hr;exact⟨trivial,rfl,fun γ F w hF=>gfit_any F m a b (hok (.w a) (by simp)) (hok (.w b) (by simp)) w hF⟩
 ·cases hr
def xlP(l:List (Nat × Nat × Bool))(T:TypeId)(g o j z:Nat):Option (SV × List Ob) :=
 if T=26/\g=1/\o=0/\z=9 then some (sP (l.getD j (0,0,false)).1 (l.getD j (0,0,false)).2.1 (l.getD j (0,0,false)).2.2,[.ask (j<l.length)])else none
noncomputable def EH (more:List Con) (l:List (Nat × Nat × Bool)):Env:=EG 2 more (xlP l) [(77,9)] []
theorem EH_ok{F g:Nat}{w:World}{more:List Con}{l:List (Nat × Nat × Bool)}(hm:conAll Tryz.prog 2 (fun k=>if k=0 then F else g) w more)(hl:∀ p∈l,p.1<2^256/\p.2.1<2^256)(hg:w.heap[g]?=some (.cells (pls l) 26 (0,0))):(EH more l).Good (fun k=>if k=0 then F else g) w :=
 have hgl:=(Array.getElem?_eq_some_iff.1 hg).1
 EG_ok hm (fun T g' o j z r p h hp=>by
  unfold xlP at h
  split at h
  ·rename_i hh
   obtain⟨rfl,rfl,rfl,rfl⟩:=hh;cases h;have hj:j<l.length:=hp _ (.head _);have hq:=hl _ (List.getElem_mem hj);have e:l.getD j (0,0,false)=l[j]:=by simp[List.getD,hj]
   refine⟨by rw[e];exact⟨hq.1,hq.2,trivial,trivial⟩,rfl,by decide,fun γ hγ wx hw=>?_⟩;rw[hγ 1 (by decide),e];exact ld_mid _ ((hw.block _ hgl).trans hg) (pls_at l j _ _ _ (List.getElem?_eq_getElem hj)) Tryz.underlying26 rfl (by kernel_rfl)
  ·cases h) (fun q hq=>by
  simp only[List.mem_cons,List.not_mem_nil,or_false]at hq;subst hq;exact⟨_,Tryz.underlying77,by kernel_rfl⟩) fun _ h=>by cases h
theorem two62:(2:Nat)^62=4611686018427387904:=by decide
noncomputable def TH (m:Nat) (l:List (Nat × Nat × Bool)) (c:Nat):Tr:=walk (EH [cFit true m] l) (fun _=>0) Tryz.f27 [sG,.s 1 0 l.length c]
def stH(l:List (Nat × Nat × Bool))(c i:Nat):St:=⟨[(2,some (.p 2 0 0 0)),(7,some (.s 1 0 l.length c)),(8,some (.na l.length)),(9,some (.na i))],[(2,sG,53)],3⟩
end Sy
open Sy
theorem ghold_any(F m g c:Nat)(l:List (Nat × Nat × Bool))(hl:∀ p∈l,p.1<2^256/\p.2.1<2^256)(hn:l.length<4294967296)(w:World)(hF:FldAt w F m)(hg:w.heap[g]?=some (.cells (pls l) 26 (0,0))):Calls Tryz.prog 27 #[.agg #[.pointer (some ⟨F,0,none⟩)],.slice (some ⟨g,0,none⟩) l.length c] w fun r w'=>r=.returned (.bool (l.all (onB m)))/\Below w.heap.size w w':=by
 have hb:∀ n f:Bool,(bif !n then !f else false)=!(n||f):=by decide
 have h62:=two62;have hf:FOk true m (fun k=>if k=0 then F else g) w:=⟨hF.odd,hF.big,hF.lt,fun _=>hF⟩
 refine calls_at (EH_ok (more:=[cFit true m]) (l:=l) ⟨(cFit_ok hf).mono (by decide),trivial⟩ hl hg) (by kernel_rfl) (fun _=>0) Tryz.func27 (by kernel_rfl) [sG,.s 1 0 l.length c] ⟨⟨⟨trivial,trivial⟩,rfl⟩,⟨trivial,rfl⟩,trivial⟩ (by kernel_rfl) (by kernel_rfl) (.need (l.length<2^62) (.loop 0)) (by kernel_rfl) ?_;refine⟨by omega,loop_wp (T:=(TH m l c).on []) 0 (by kernel_rfl) (ι:={ i:Nat // i<=l.length/\(l.take i).all (onB m)=true }) (fun i=>stH l c i.1) (fun i=>l.length - i.1) ⟨0,Nat.zero_le _,rfl⟩ (Sub.of [2] (by kernel_rfl) ⟨by kernel_rfl,by kernel_rfl,by kernel_rfl,by kernel_rfl,trivial⟩ (by kernel_rfl)) fun⟨i,hi,ha⟩=>?_⟩;refine wp_of_shape (T:=((TH m l c).on []).round (stH l c i)) (by kernel_rfl) (L:=fun L=>(((((TH m l c).on []).round (stH l c i)).on L).wp 2 _)) ?_ fun _ h=>h;rw[show(((TH m l c).on []).round (stH l c i)).shape=.br (ltN i l.length) (.need (i<l.length) (.need (i<l.length) (.br (bif !(l.getD i (0,0,false)).2.2 then !(fitB m (l.getD i (0,0,false)).1 (l.getD i (0,0,false)).2.1)else false) (.leaf (.v (.bool false))) (.need (i+1<2^62) (.cut 0))))) (.leaf (.v (.bool true))) by kernel_rfl];refine⟨fun h1=>?_,fun h1=>?_⟩
 ·have hlt:i<l.length:=of_decide_eq_true h1
  have e:l.getD i (0,0,false)=l[i]:=by simp[List.getD,hlt]
  rw[e];refine⟨hlt,hlt,fun h2=>?_,fun h2=>⟨by omega,?_⟩⟩
  ·show Value.bool false=.bool (l.all (onB m))
   have:onB m l[i]=false:=by
    rw[hb]at h2;have h2:(!onB m l[i])=true:=h2;simpa using h2
   rw[List.all_eq_false.2 ⟨l[i],List.getElem_mem hlt,by rw[this];simp⟩]
  ·have:onB m l[i]=true:=by
    rw[hb]at h2;have h2:(!onB m l[i])=false:=h2;simpa using h2
   exact next_wp 0 (by kernel_rfl) (st:=fun i:{ i:Nat // i<=l.length/\(l.take i).all (onB m)=true }=>stH l c i.1) ⟨i+1,hlt,by rw[List.take_succ_eq_append_getElem hlt,List.all_append,ha];simp[this]⟩ (by show l.length - (i+1)<l.length - i;omega) (Sub.of [2] (by kernel_rfl) ⟨by kernel_rfl,by kernel_rfl,by kernel_rfl,by kernel_rfl,trivial⟩ (by kernel_rfl))
 ·have hge:i=l.length:=by
   have:¬i<l.length:=of_decide_eq_false h1;omega
  show Value.bool true=.bool (l.all (onB m));rw[hge,List.take_length]at ha;rw[ha]
open Go.RowKit
namespace Sy
def gpT(m:Nat)(T:Nat × Nat × Nat):Nat × Nat × Bool:=let i:=iv m T.2.2;let q:=i*i%m
 if T.2.2*i%m=1 then (T.1*q%m,T.2.1*(q*i%m)%m,false)else (0,0,true)
theorem gpo_gpT(m:Nat)(T:Nat × Nat × Nat):gpo m T=pc (gpT m T).1 (gpT m T).2.1 (gpT m T).2.2:=by
 unfold gpo gpT;dsimp only;show(if T.2.2*iv m T.2.2%m=1 then _ else _)=_
 split <;> rfl
def gtT(m x y:Nat)(n:Bool):Nat × Nat × Bool:=if n=true then (0,0,true)else (x,(0%m+(m - y%m))%m,false)
theorem gtu_gtT(m x y:Nat)(n:Bool):gtu m x y n=pc (gtT m x y n).1 (gtT m x y n).2.1 (gtT m x y n).2.2:=by
 unfold gtu gtT
 split <;> rfl
def sP3(p:Nat × Nat × Bool):SV:=sP p.1 p.2.1 p.2.2
theorem sP3_val(p:Nat × Nat × Bool)(γ:Pl):(sP3 p).val γ=.agg (pc p.1 p.2.1 p.2.2):=by
 show Value.agg ((pw p.1).toList++((pw p.2.1).toList++([Value.bool p.2.2]++[]))).toArray=_;simp[pc]
theorem gpT_lt{m:Nat}(h0:0<m)(hm:m<2^256)(T:Nat × Nat × Nat):(gpT m T).1<2^256/\(gpT m T).2.1<2^256:=by
 have h:∀ n,n%m<2^256:=fun n=>Nat.lt_trans (Nat.mod_lt _ h0) hm;unfold gpT;dsimp only
 split
 ·exact⟨h _,h _⟩
 ·exact⟨w0_ok,w0_ok⟩
theorem gtT_lt{m:Nat}(h0:0<m)(hm:m<2^256){x:Nat}(hx:x<2^256)(y:Nat)(n:Bool):(gtT m x y n).1<2^256/\(gtT m x y n).2.1<2^256:=by
 unfold gtT
 split
 ·exact⟨w0_ok,w0_ok⟩
 ·exact⟨hx,Nat.lt_trans (Nat.mod_lt _ h0) hm⟩
theorem sP3_ok{p:Nat × Nat × Bool}(h:p.1<2^256/\p.2.1<2^256):(sP3 p).ok/\(sP3 p).lt 0=true:=⟨⟨h.1,h.2,trivial,trivial⟩,rfl⟩
def cPoint(ext:Bool)(m:Nat):Con:=conJ ext m 64 fun X Y Z=>sP3 (gpT m (X,Y,Z))
theorem cPoint_ok{ext:Bool}{m:Nat}{γ0:Pl}{w0:World}(hf:FOk ext m γ0 w0):ConOk Tryz.prog 1 γ0 w0 (cPoint ext m) :=
 conJ_ok hf (fun _ _=>by kernel_rfl) (fun _ _ _ _ _ _=>sP3_ok (gpT_lt (by have:=hf.big;omega) hf.lt _)) fun F X Y Z hX hY hZ w hF=>by
  rw[sP3_val,<- gpo_gpT];exact gpoint_any F m X Y Z hX hY hZ w hF
def conP(ext:Bool)(m:Nat)(f:FuncId)(g:Nat × Nat × Bool->SV):Con:=conG ext m f fun l=>match l with
 | [x]=>(ptS x).map fun p=>(g p,[])
 | _=>none
theorem conP_ok{ext:Bool}{m:Nat}{γ0:Pl}{w0:World}{f:FuncId}{g:Nat × Nat × Bool->SV}(hf:FOk ext m γ0 w0)(hc:∀ as_ wx,(callFunc f as_).run Tryz.prog wx=.ok (.enter f as_) wx)(hg:∀ p,p.1<2^256->p.2.1<2^256->(g p).ok/\(g p).lt 0=true)
  (h:∀ F x y n,x<2^256->y<2^256->∀ w,FldAt w F m->Calls Tryz.prog f #[.agg #[.pointer (some ⟨F,0,none⟩)],.agg (pc x y n)] w fun e w'=>e=.returned ((g (x,y,n)).val fun _=>0)/\Below w.heap.size w w'):ConOk Tryz.prog 1 γ0 w0 (conP ext m f g) :=
 conG_ok hf hc fun us r q hr hq hok=>by
  split at hr
  ·rename_i x
   obtain⟨p,hp,e⟩:=Option.map_eq_some_iff.1 hr;cases e;have q:=(ptS_ok (γ:=fun _=>0) hp).2 (hok x (by simp));have k:=hg p q.1 q.2;refine⟨k.1,k.2,fun γ F w hF=>?_⟩;have g4:=h F p.1 p.2.1 p.2.2 q.1 q.2 w hF;rw[<- (ptS_ok (γ:=γ) hp).1]at g4;rw[val0 k.2];exact g4
  ·cases hr
def cTurned(ext:Bool)(m:Nat):Con:=conP ext m 29 fun p=>sP3 (gtT m p.1 p.2.1 p.2.2)
theorem cTurned_ok{ext:Bool}{m:Nat}{γ0:Pl}{w0:World}(hf:FOk ext m γ0 w0):ConOk Tryz.prog 1 γ0 w0 (cTurned ext m) :=
 conP_ok hf (fun _ _=>by kernel_rfl) (fun _ hx _=>sP3_ok (gtT_lt (by have:=hf.big;omega) hf.lt hx _ _)) fun F x y n hx hy w hF=>by
  rw[sP3_val,<- gtu_gtT];exact gturned_any F m x y n hx hy w hF
def cPlus(ext:Bool)(m:Nat):Con:=conG ext m 63 fun l=>match l with
 | [.ap (.w X) (.ap (.w Y) (.ap (.w Z) .e)),x]=>(ptS x).map fun p=>(sJ (gpl m (X,Y,Z) p.1 p.2.1 p.2.2),[])
 | _=>none
theorem cPlus_ok{ext:Bool}{m:Nat}{γ0:Pl}{w0:World}(hf:FOk ext m γ0 w0):ConOk Tryz.prog 1 γ0 w0 (cPlus ext m) :=
 conG_ok hf (fun _ _=>by kernel_rfl) fun us r q hr hq hok=>by
  split at hr
  ·rename_i X Y Z x
   obtain⟨p,hp,e⟩:=Option.map_eq_some_iff.1 hr;cases e;have q:=(ptS_ok (γ:=fun _=>0) hp).2 (hok x (by simp));obtain⟨h1,h2,h3,_⟩:=hok (.ap (.w X) (.ap (.w Y) (.ap (.w Z) .e))) (by simp);have k:=sJ_ok (gpl_lt (m:=m) (n:=p.2.2) (by have:=hf.big;omega) hf.lt h1 h2 h3 q.1 q.2 rfl);refine⟨k.1,k.2,fun γ F w hF=>?_⟩;have g4:=gplus_any F m X Y Z p.1 p.2.1 p.2.2 h1 h2 h3 q.1 q.2 w hF;rw[<- (ptS_ok (γ:=γ) hp).1]at g4;exact g4
  ·cases hr
def cHoldX(m:Nat)(l:List (Nat × Nat × Bool)):Con:=⟨27,fun _ M us=>match us with
 | [.ap x .e,.s 1 0 n _]=>(isF true m M x).map fun p=>(.b (l.all (onB m)),.ask (n=l.length)::p,[])
 | _=>none⟩
theorem cHoldX_ok{m:Nat}{γ0:Pl}{w0:World}{l:List (Nat × Nat × Bool)}(hf:FOk true m γ0 w0)(hl:∀ p∈l,p.1<2^256/\p.2.1<2^256)(hn:l.length<4294967296)(hg:w0.heap[γ0 1]?=some (.cells (pls l) 26 (0,0))):ConOk Tryz.prog 2 γ0 w0 (cHoldX m l) :=
 .of (fun _ _=>by kernel_rfl) fun n M us r p R hr hp hok=>by
  unfold cHoldX at hr;dsimp only at hr
  split at hr
  ·rename_i x k c
   obtain⟨q,hx,e⟩:=Option.map_eq_some_iff.1 hr;cases e;have hk:k=l.length:=hp _ (.head _);subst hk;refine⟨rfl,trivial,rfl,fun γ hγ wx hw hL=>?_⟩;obtain⟨F,h1,h2⟩:=isF_at hx (fun a ha=>hp a (.tail _ ha)) hf (fun k hk=>hγ k (Nat.lt_succ_of_lt hk)) hw hL;have hgl:=(Array.getElem?_eq_some_iff.1 hg).1;have g4:=ghold_any F m (γ0 1) c l hl hn wx h2 ((hw.block _ hgl).trans hg);rw[<- agg_ptr hx h1,<- hγ 1 (by decide)]at g4;exact g4
  ·cases hr
end Sy
open Go.RowKit
namespace Sy
noncomputable def TS (m:Nat) (l:List (Nat × Nat × Bool)) (c:Nat):Tr:=walk (EH (cHoldX m l::cPlus true m::cPoint true m::cNone::[]) l) (fun _=>0) Tryz.f38 [sG,.s 1 0 l.length c]
def stS(l:List (Nat × Nat × Bool))(c i:Nat)(T:Nat × Nat × Nat):St:=⟨[(2,some (.p 2 0 0 0)),(4,some (.p 3 0 0 0)),(6,some (.p 4 0 0 0)),(14,some (.s 1 0 l.length c)),(15,some (.na l.length)),(16,some (.na i))],[(4,sJ T,90),(3,sPk 0 0 false,26),(2,sG,53)],5⟩
structure RS (m:Nat) (l:List (Nat × Nat × Bool)) where
 i:Nat
 T:Nat × Nat × Nat
 le:i<=l.length
 is:T=gsm m (l.take i)
 lt:T.1<2^256/\T.2.1<2^256/\T.2.2<2^256
theorem gsm_snoc(m:Nat)(l:List (Nat × Nat × Bool))(p:Nat × Nat × Bool):gsm m (l++[p])=gpl m (gsm m l) p.1 p.2.1 p.2.2:=by
 unfold gsm;rw[List.foldl_append];rfl
end Sy
open Sy
theorem gsum_any(F m g c:Nat)(l:List (Nat × Nat × Bool))(hl:∀ p∈l,p.1<2^256/\p.2.1<2^256)(hn:l.length<4294967296)(w:World)(hF:FldAt w F m)(hg:w.heap[g]?=some (.cells (pls l) 26 (0,0))):Calls Tryz.prog 38 #[.agg #[.pointer (some ⟨F,0,none⟩)],.slice (some ⟨g,0,none⟩) l.length c] w fun r w'=>r=.returned (.tuple #[.agg (if l.all (onB m)=true then gpo m (gsm m l)else pc 0 0 true),.int .i64 (if l.all (onB m)=true then 0 else 81)])/\Below w.heap.size w w':=by
 have h62:=two62;have hm0:0<m:=by have:=hF.big;omega
 have hf:FOk true m (fun k=>if k=0 then F else g) w:=⟨hF.odd,hF.big,hF.lt,fun _=>hF⟩
 refine calls_at (EH_ok (more:=cHoldX m l::cPlus true m::cPoint true m::cNone::[]) (l:=l) ⟨cHoldX_ok hf hl hn hg,(cPlus_ok hf).mono (by decide),(cPoint_ok hf).mono (by decide),cNone_ok,trivial⟩ hl hg) (by kernel_rfl) (fun _=>0) Tryz.func38 (by kernel_rfl) [sG,.s 1 0 l.length c] ⟨⟨⟨trivial,trivial⟩,rfl⟩,⟨trivial,rfl⟩,trivial⟩ (by kernel_rfl) (by kernel_rfl)
  (.need (l.length=l.length) (.br (!l.all (onB m)) (.leaf (.tu (sPk 0 0 true) (.v (.int .i64 81)))) (.need (l.length<2^62) (.loop 0)))) (by kernel_rfl) ?_
 refine⟨rfl,fun h=>?_,fun h=>⟨by omega,?_⟩⟩
 ·have h:l.all (onB m)=false:=by simpa using h
  rw[h];rfl
 have hall:l.all (onB m)=true:=by simpa using h
 refine loop_wp (T:=(TS m l c).on [false]) 0 (by kernel_rfl) (ι:=RS m l) (fun r=>stS l c r.i r.T) (fun r=>l.length - r.i) ⟨0,(0,0,0),Nat.zero_le _,rfl,w0_ok,w0_ok,w0_ok⟩ (Sub.of [4,3,2] (by kernel_rfl) ⟨by kernel_rfl,by kernel_rfl,by kernel_rfl,by kernel_rfl,by kernel_rfl,by kernel_rfl,trivial⟩ (by kernel_rfl)) fun⟨i,T,hi,hT,hlt⟩=>?_;refine wp_of_shape (T:=((TS m l c).on [false]).round (stS l c i T)) (by kernel_rfl) (L:=fun L=>(((((TS m l c).on [false]).round (stS l c i T)).on L).wp 2 _)) ?_ fun _ h=>h;rw[show(((TS m l c).on [false]).round (stS l c i T)).shape=.br (ltN i l.length) (.need (i<l.length) (.need (i<l.length) (.need (i+1<2^62) (.cut 0)))) (.leaf (.tu (sP3 (gpT m T)) (.v (.int .i64 0)))) by kernel_rfl];refine⟨fun h1=>?_,fun h1=>?_⟩
 ·have hil:i<l.length:=of_decide_eq_true h1
  have e:l.getD i (0,0,false)=l[i]:=by simp[List.getD,hil]
  have hq:=hl _ (List.getElem_mem hil);rw[<- e]at hq;exact⟨hil,hil,by omega,next_wp 0 (by kernel_rfl) (st:=fun r:RS m l=>stS l c r.i r.T) ⟨i+1,gpl m T (l.getD i (0,0,false)).1 (l.getD i (0,0,false)).2.1 (l.getD i (0,0,false)).2.2,hil,by rw[List.take_succ_eq_append_getElem hil,gsm_snoc,hT,e],gpl_lt hm0 hF.lt hlt.1 hlt.2.1 hlt.2.2 hq.1 hq.2 rfl⟩ (by show l.length - (i+1)<l.length - i;omega) (Sub.of [4,3,2] (by kernel_rfl) ⟨by kernel_rfl,by kernel_rfl,by kernel_rfl,by kernel_rfl,by kernel_rfl,by kernel_rfl,trivial⟩ (by kernel_rfl))⟩
 ·have hge:i=l.length:=by
   have:¬i<l.length:=of_decide_eq_false h1;omega
  rw[hge,List.take_length]at hT;show Value.tuple #[(sP3 (gpT m T)).val _,_]=_;rw[sP3_val,<- gpo_gpT,hT,hall];rfl
def Pr(p:Nat):Prop:=2<=p/\∀ d,d∣p->d=1\/d=p
theorem Pr.coprime{p a:Nat}(h:Pr p)(ha:¬p∣a):Nat.Coprime p a:=by
 rcases h.2 _ (Nat.gcd_dvd_left p a)with h1 | h1
 ·exact h1
 ·exact absurd (h1 ▸ Nat.gcd_dvd_right p a) ha
theorem Pr.dvd_mul{p a b:Nat}(h:Pr p)(hd:p∣a*b):p∣a\/p∣b:=by
 by_cases ha:p∣a
 ·exact .inl ha
 ·exact .inr ((h.coprime ha).dvd_of_dvd_mul_left hd)
theorem has_prime(n:Nat):2<=n->∃ p,Pr p/\p∣n:=by
 induction n using Nat.strongRecOn with
 | _ n ih =>
  intro hn;by_cases h:∃ d,d∣n/\d≠1/\d≠n
  ·obtain⟨d,hd,h1,h2⟩:=h
   have h3:d<=n:=Nat.le_of_dvd (by omega) hd;have h4:d≠0:=by rintro rfl;have:=Nat.eq_zero_of_zero_dvd hd;omega
   obtain⟨p,hp,hpd⟩:=ih d (by omega) (by omega);exact⟨p,hp,Nat.dvd_trans hpd hd⟩
  ·refine⟨n,⟨hn,fun d hd=>?_⟩,Nat.dvd_refl n⟩
   by_cases h1:d=1
   ·exact .inl h1
   ·by_cases h2:d=n
    ·exact .inr h2
    ·exact absurd ⟨d,hd,h1,h2⟩ h
theorem small_prime{n:Nat}(hn:2<=n)(h:∀ p,Pr p->p∣n->n<p*p):Pr n:=by
 refine⟨hn,fun d hd=>?_⟩;by_cases h1:d=1
 ·exact .inl h1
 ·right
  obtain⟨e,rfl⟩:=hd;have hd0:d≠0:=by rintro rfl;simp at hn
  have he0:e≠0:=by rintro rfl;simp at hn
  obtain⟨p,hp,hpd⟩:=has_prime d (by omega);have hp1:=h p hp (Nat.dvd_trans hpd (Nat.dvd_mul_right _ _));have hpl:=Nat.le_of_dvd (by omega) hpd;by_cases e1:e=1
  ·rw[e1,Nat.mul_one]
  ·obtain⟨q,hq,hqe⟩:=has_prime e (by omega)
   have hq1:=h q hq (Nat.dvd_trans hqe (Nat.dvd_mul_left _ _));have hql:=Nat.le_of_dvd (by omega) hqe;exfalso;have h2:p*q<=d*e:=Nat.mul_le_mul hpl hql;rcases Nat.le_total p q with hpq | hpq
   ·have:=Nat.mul_le_mul_left p hpq;omega
   ·have:=Nat.mul_le_mul_right q hpq;omega
-- BINOMIALS
def cho:Nat->Nat->Nat
 | _,0=>1
 | 0,_+1=>0
 | n+1,k+1=>cho n k+cho n (k+1)
theorem cho_zero(n:Nat):cho n 0=1:=by cases n <;> rfl
theorem cho_above:∀ n k,n<k->cho n k=0
 | 0,0,h=>by omega
 | 0,_+1,_=>rfl
 | _+1,0,h=>by omega
 | n+1,k+1,h=>by rw[cho,cho_above n k (by omega),cho_above n (k+1) (by omega)]
theorem cho_self:∀ n,cho n n=1
 | 0=>rfl
 | n+1=>by rw[cho,cho_self n,cho_above n (n+1) (by omega)]
theorem cho_mul:∀ n k,(k+1)*cho (n+1) (k+1)=(n+1)*cho n k
 | 0,0=>rfl
 | 0,k+1=>by rw[cho_above (0+1) (k+1+1) (by omega),cho_above 0 (k+1) (by omega)];simp
 | n+1,0=>by
  have h:=cho_mul n 0;rw[cho_zero]at h;rw[show cho (n+1+1) (0+1)=cho (n+1) 0+cho (n+1) (0+1) from rfl,cho_zero];omega
 | n+1,k+1=>by
  have h1:=cho_mul n k;have h2:=cho_mul n (k+1);have e:cho (n+1) (k+1)=cho n k+cho n (k+1):=by rw[cho]
  rw[show cho (n+1+1) (k+1+1)=cho (n+1) (k+1)+cho (n+1) (k+1+1) by rw[cho]];generalize cho (n+1) (k+1+1)=u at *;generalize cho (n+1) (k+1)=v at *;generalize cho n (k+1)=x at *;generalize cho n k=y at *;have e1:(k+1+1)*(v+u)=(k+1)*v+v+(k+1+1)*u:=by rw[Nat.mul_add,Nat.succ_mul (k+1) v]
  rw[e1,h1,h2,e,Nat.succ_mul (n+1),Nat.mul_add];omega
theorem cho_prime{p k:Nat}(hp:Pr p)(h0:0<k)(hk:k<p):p∣cho p k:=by
 obtain⟨n,rfl⟩:∃ n,p=n+1:=⟨p - 1,by have:=hp.1;omega⟩
 obtain⟨j,rfl⟩:∃ j,k=j+1:=⟨k - 1,by omega⟩
 have h:=cho_mul n j;have hd:n+1∣(j+1)*cho (n+1) (j+1):=by rw[h];exact Nat.dvd_mul_right _ _
 rcases hp.dvd_mul hd with h1 | h1
 ·exact absurd (Nat.le_of_dvd (by omega) h1) (by omega)
 ·exact h1
def bsum(n a:Nat):Nat->Nat
 | 0=>0
 | j+1=>bsum n a j+cho n j*a^j
theorem bsum_next(n a:Nat):∀ j,bsum (n+1) a (j+1)+cho n j*a^(j+1)=(a+1)*bsum n a j+cho n j*a^(j+1)+cho n j*a^j
 | 0=>by simp[bsum,cho_zero];omega
 | j+1=>by
  have h:=bsum_next n a j;have e:cho (n+1) (j+1)=cho n j+cho n (j+1):=by rw[cho]
  have e2:bsum (n+1) a (j+1+1)=bsum (n+1) a (j+1)+cho (n+1) (j+1)*a^(j+1):=rfl;have e3:bsum n a (j+1)=bsum n a j+cho n j*a^j:=rfl;rw[e2,e3,e,Nat.add_mul,Nat.mul_add];have e4:(a+1)*(cho n j*a^j)=cho n j*a^(j+1)+cho n j*a^j:=by
   rw[Nat.add_mul,Nat.one_mul,Nat.pow_succ,Nat.mul_left_comm,Nat.mul_comm a]
  rw[e4];omega
theorem binom(n a:Nat):bsum n a (n+1)=(a+1)^n:=by
 induction n with
 | zero=>simp[bsum,cho]
 | succ n ih =>
  have h:=bsum_next n a (n+1);rw[cho_above n (n+1) (by omega),ih]at h;simp only[Nat.zero_mul,Nat.add_zero]at h;rw[h,Nat.pow_succ,Nat.mul_comm]
theorem bsum_prime{p:Nat}(hp:Pr p)(a:Nat):∀ j,0<j->j<=p->bsum p a j%p=1%p:=by
 intro j
 induction j with
 | zero=>intro h;omega
 | succ j ih =>
  intro _ hj;by_cases h0:j=0
  ·subst h0;simp[bsum,cho_zero]
  ·have h:=ih (by omega) (by omega)
   obtain⟨q,hq⟩:=cho_prime hp (k:=j) (by omega) (by omega);show(bsum p a j+cho p j*a^j)%p=_;rw[hq,Nat.mul_assoc,Nat.add_mul_mod_self_left,h]
-- FERMAT
theorem fermat{p:Nat}(hp:Pr p)(a:Nat):a^p%p=a%p:=by
 induction a with
 | zero=>rw[Nat.zero_pow (by have:=hp.1;omega)]
 | succ a ih =>
  rw[<- binom];show(bsum p a p+cho p p*a^p)%p=_;rw[cho_self,Nat.one_mul,Nat.add_mod,bsum_prime hp a p (by have:=hp.1;omega) (Nat.le_refl _),ih,<- Nat.add_mod,Nat.add_comm]
theorem fermat1{p:Nat}(hp:Pr p)(a:Nat)(ha:¬p∣a):a^(p - 1)%p=1:=by
 have h:=fermat hp a;have h2:=hp.1;obtain⟨n,rfl⟩:∃ n,p=n+1:=⟨p - 1,by omega⟩
 have hge:1<=a^n:=Nat.pow_pos (Nat.pos_of_ne_zero (by rintro rfl;simp at ha));have hd:n+1∣a*(a^n - 1):=by
  have:=Nat.sub_mod_eq_zero_of_mod_eq h;rw[Nat.mul_sub,Nat.mul_one,<- Nat.pow_succ'];exact Nat.dvd_of_mod_eq_zero this
 have h3:=(hp.coprime ha).dvd_of_dvd_mul_left hd;obtain⟨q,hq⟩:=h3;show a^n%(n+1)=1;have:a^n=1+(n+1)*q:=by omega
 rw[this,Nat.add_mul_mod_self_left,Nat.mod_eq_of_lt (by omega)]
theorem one_gcd{p b:Nat}(hp:1<p)(m n:Nat):b^m%p=1->b^n%p=1->b^Nat.gcd m n%p=1:=by
 induction m,n using Nat.gcd.induction with
 | H0 n=>intro _ h;rw[Nat.gcd_zero_left];exact h
 | H1 m n hm ih =>
  intro h1 h2;rw[Nat.gcd_rec];refine ih ?_ h1;have e:b^n=(b^m)^(n / m)*b^(n%m):=by rw[<- Nat.pow_mul,<- Nat.pow_add,Nat.div_add_mod]
  rw[e,Nat.mul_mod,Nat.pow_mod,h1,Nat.one_pow,Nat.mod_eq_of_lt hp,Nat.one_mul,Nat.mod_mod]at h2;exact h2
-- POCKLINGTON
def pwrm(m:Nat):Nat->Nat->Nat->Nat->Nat
 | 0,_,_,r=>r
 | f+1,b,e,r=>if e=0 then r else pwrm m f (b*b%m) (e / 2) (if e%2=1 then r*b%m else r)
theorem pwrm_eq(m:Nat):∀ f b e r,e<2^f->r%m=r->pwrm m f b e r=r*b^e%m
 | 0,b,e,r,h,hr=>by
  obtain rfl:e=0:=by simpa using h
  simp[pwrm,hr]
 | f+1,b,e,r,h,hr=>by
  unfold pwrm;by_cases h0:e=0
  ·simp[h0,hr]
  ·rw[if_neg h0,pwrm_eq m f _ _ _ (by rw[Nat.pow_succ]at h;omega) (by split;exact Nat.mod_mod _ _;exact hr)]
   have e1:(b*b%m)^(e / 2)%m=b^(2*(e / 2))%m:=by rw[<- Nat.pow_mod,Nat.pow_mul,Nat.pow_two]
   rw[Nat.mul_mod,e1];by_cases h1:e%2=1
   ·rw[if_pos h1,Nat.mod_mod,<- Nat.mul_mod,Nat.mul_assoc,<- Nat.pow_succ',show(2*(e / 2)).succ=e by omega]
   ·rw[if_neg h1,<- Nat.mul_mod,show 2*(e / 2)=e by omega]
def pwr(m b e:Nat):Nat:=pwrm m 260 b e (1%m)
theorem pwr_eq(m b e:Nat)(h:e<2^260):pwr m b e=b^e%m:=by
 unfold pwr;rw[pwrm_eq m _ _ _ _ h (Nat.mod_mod _ _),Nat.mul_mod,Nat.mod_mod,<- Nat.mul_mod,Nat.one_mul]
def prodL:List Nat->Nat
 | []=>1
 | q::l=>q*prodL l
def pock(n a:Nat)(qs:List Nat):Bool:=(2<=n)&&(n<2^260)&&(pwr n a (n - 1) == 1)&&qs.all (fun q=>(n - 1)%q == 0&&Nat.gcd (pwr n a ((n - 1) / q)+(n - 1)) n == 1)&&(n<(prodL qs+1)*(prodL qs+1))&&decide qs.Nodup
theorem pock_step{n a q p:Nat}(h2:2<=n)(h3:n<2^260)(h1:pwr n a (n - 1)=1)(hq:Pr q)(hqd:(n - 1)%q=0)(hg:Nat.gcd (pwr n a ((n - 1) / q)+(n - 1)) n=1)(hp:Pr p)(hpn:p∣n):q∣p - 1:=by
 rw[pwr_eq _ _ _ (by omega)]at h1;have hle:(n - 1) / q<=n - 1:=Nat.div_le_self _ _;rw[pwr_eq _ _ _ (by omega)]at hg;obtain⟨b,hb⟩:∃ b,a^((n - 1) / q)=b:=⟨_,rfl⟩
 rw[hb]at hg;have hbq:b^q=a^(n - 1):=by rw[<- hb,<- Nat.pow_mul,Nat.div_mul_cancel (Nat.dvd_of_mod_eq_zero hqd)]
 have hp2:=hp.1;have hmm:∀ x,x%n%p=x%p:=fun x=>Nat.mod_mod_of_dvd x hpn;have hbq1:b^q%p=1:=by rw[hbq,<- hmm,h1,Nat.mod_eq_of_lt (by omega)]
 have hpb:¬p∣b:=fun h=>by
  have h4:p∣b^q:=Nat.dvd_trans h (by obtain⟨k,rfl⟩:∃ k,q=k+1:=⟨q - 1,by have:=hq.1;omega⟩;rw[Nat.pow_succ];exact Nat.dvd_mul_left _ _);have:=Nat.mod_eq_zero_of_dvd h4;omega
 have hbp:=fermat1 hp b hpb;by_cases hd:q∣p - 1
 ·exact hd
 ·exfalso
  have hc:=one_gcd (by omega) q (p - 1) hbq1 hbp;rw[show Nat.gcd q (p - 1)=1 from hq.coprime hd,Nat.pow_one]at hc;have h5:p∣b%n+(n - 1):=by
   apply Nat.dvd_of_mod_eq_zero;obtain⟨k,hk⟩:=hpn;rw[Nat.add_mod,hmm,hc];have e:n - 1=(p - 1)+p*(k - 1):=by
    have hk0:k≠0:=by rintro rfl;simp at hk;omega
    obtain⟨j,rfl⟩:∃ j,k=j+1:=⟨k - 1,by omega⟩
    rw[hk,Nat.mul_add,Nat.add_sub_cancel];omega
   rw[e,Nat.add_mul_mod_self_left,Nat.mod_eq_of_lt (show p - 1<p by omega),show 1+(p - 1)=p by omega,Nat.mod_self]
  have h6:=Nat.dvd_gcd h5 hpn;rw[hg]at h6;have:=Nat.le_of_dvd (by omega) h6;omega
theorem prodL_dvd{m:Nat}:∀ l:List Nat,l.Nodup->(∀ q∈l,Pr q)->(∀ q∈l,q∣m)->prodL l∣m/\∀ x,Pr x->x ∉ l->Nat.Coprime x (prodL l)
 | [],_,_,_=>⟨Nat.one_dvd _,fun x _ _=>Nat.coprime_one_right x⟩
 | q::l,hn,hp,hd=>by
  rw[List.nodup_cons]at hn;obtain⟨h1,h2⟩:=prodL_dvd l hn.2 (fun q h=>hp q (.tail _ h)) (fun q h=>hd q (.tail _ h));have hq:=hp q (.head _);refine⟨Nat.Coprime.mul_dvd_of_dvd_of_dvd (h2 q hq hn.1) (hd q (.head _)) h1,fun x hx hxl=>?_⟩;refine Nat.Coprime.mul_right (hx.coprime fun h=>?_) (h2 x hx fun h=>hxl (.tail _ h));rcases hq.2 x h with h3 | h3
  ·have:=hx.1;omega
  ·exact hxl (h3 ▸ .head _)
theorem pocklington(n a:Nat)(qs:List Nat)(h:pock n a qs=true)(hqs:∀ q∈qs,Pr q):Pr n:=by
 unfold pock at h;simp only[Bool.and_eq_true,decide_eq_true_eq,beq_iff_eq,List.all_eq_true]at h;obtain⟨⟨⟨⟨⟨h2,h3⟩,h1⟩,hq⟩,hs⟩,hn⟩:=h;refine small_prime h2 fun p hp hpn=>?_;have hd:=(prodL_dvd (m:=p - 1) qs hn hqs (fun q hm=>pock_step h2 h3 h1 (hqs q hm) (hq q hm).1 (hq q hm).2 hp hpn)).1;have hp2:=hp.1;have hle:=Nat.le_of_dvd (by omega) hd;have:=Nat.mul_le_mul (show prodL qs+1<=p by omega) (show prodL qs+1<=p by omega);omega
def trial(n:Nat):Nat->Bool
 | 0=>true
 | k+1=>(k<2||n%k != 0)&&trial n k
theorem trial_at(n:Nat):∀ k,trial n k=true->∀ d,2<=d->d<k->n%d≠0
 | 0,_,d,_,h=>by omega
 | k+1,h,d,h2,hd=>by
  unfold trial at h;simp only[Bool.and_eq_true,Bool.or_eq_true,decide_eq_true_eq,bne_iff_ne]at h;by_cases e:d=k
  ·subst e
   rcases h.1 with h1 | h1
   ·omega
   ·exact h1
  ·exact trial_at n k h.2 d h2 (by omega)
theorem tried(n k:Nat)(h2:2<=n)(hk:n<k*k)(h:trial n k=true):Pr n:=by
 refine small_prime h2 fun p hp hpn=>?_;have hp2:=hp.1;by_cases e:p<k
 ·exact absurd (Nat.mod_eq_zero_of_dvd hpn) (trial_at n k h p hp2 e)
 ·have:=Nat.mul_le_mul (show k<=p by omega) (show k<=p by omega)
  omega
theorem prm_53:Pr 53:=tried 53 8 (by decide) (by decide) (by decide +kernel)
theorem prm_29:Pr 29:=tried 29 6 (by decide) (by decide) (by decide +kernel)
theorem prm_7:Pr 7:=tried 7 3 (by decide) (by decide) (by decide +kernel)
theorem prm_107590001:Pr 107590001:=pocklington 107590001 2 [53,29,7] (by decide +kernel) (by intro q hq;simp only[List.mem_cons,List.not_mem_nil,or_false]at hq;rcases hq with rfl | rfl | rfl <;> first | exact prm_53 | exact prm_29 | exact prm_7)
theorem prm_419:Pr 419:=tried 419 21 (by decide) (by decide) (by decide +kernel)
theorem prm_20113:Pr 20113:=pocklington 20113 2 [419] (by decide +kernel) (by intro q hq;simp only[List.mem_cons,List.not_mem_nil,or_false]at hq;rcases hq with rfl <;> first | exact prm_419)
theorem prm_1206781:Pr 1206781:=pocklington 1206781 2 [20113] (by decide +kernel) (by intro q hq;simp only[List.mem_cons,List.not_mem_nil,or_false]at hq;rcases hq with rfl <;> first | exact prm_20113)
theorem prm_7240687:Pr 7240687:=pocklington 7240687 2 [1206781] (by decide +kernel) (by intro q hq;simp only[List.mem_cons,List.not_mem_nil,or_false]at hq;rcases hq with rfl <;> first | exact prm_1206781)
theorem prm_239:Pr 239:=tried 239 16 (by decide) (by decide) (by decide +kernel)
theorem prm_101:Pr 101:=tried 101 11 (by decide) (by decide) (by decide +kernel)
theorem prm_96557:Pr 96557:=pocklington 96557 2 [239,101] (by decide +kernel) (by intro q hq;simp only[List.mem_cons,List.not_mem_nil,or_false]at hq;rcases hq with rfl | rfl <;> first | exact prm_239 | exact prm_101)
theorem prm_255515944373312847190720520512484175977:Pr 255515944373312847190720520512484175977:=pocklington 255515944373312847190720520512484175977 2 [107590001,7240687,96557] (by decide +kernel) (by intro q hq;simp only[List.mem_cons,List.not_mem_nil,or_false]at hq;rcases hq with rfl | rfl | rfl <;> first | exact prm_107590001 | exact prm_7240687 | exact prm_96557)
theorem prm_205115282021455665897114700593932402728804164701536103180137503955397371:Pr 205115282021455665897114700593932402728804164701536103180137503955397371:=pocklington 205115282021455665897114700593932402728804164701536103180137503955397371 2 [255515944373312847190720520512484175977] (by decide +kernel) (by intro q hq;simp only[List.mem_cons,List.not_mem_nil,or_false]at hq;rcases hq with rfl <;> first | exact prm_255515944373312847190720520512484175977)
theorem prm_115792089237316195423570985008687907853269984665640564039457584007908834671663:Pr 115792089237316195423570985008687907853269984665640564039457584007908834671663:=pocklington 115792089237316195423570985008687907853269984665640564039457584007908834671663 2 [205115282021455665897114700593932402728804164701536103180137503955397371] (by decide +kernel) (by intro q hq;simp only[List.mem_cons,List.not_mem_nil,or_false]at hq;rcases hq with rfl <;> first | exact prm_205115282021455665897114700593932402728804164701536103180137503955397371)
open Go.RowKit
-- WHAT Curve COMES TO.
theorem f_Curve(w:World):Calls Tryz.prog 49 #[] w fun e w'=>∃ F,e=.returned (.pointer (some ⟨F,0,none⟩))/\FldAt w' F 115792089237316195423570985008687907853269984665640564039457584007908834671663/\w.heap.size<=F/\Below w.heap.size w w':=by
 have HMO:=Lib.hid (fun wx=>modulo_any 115792089237316195423570985008687907853269984665640564039457584007908834671663 (by omega) (by omega) (by omega) wx);rw[show pw 115792089237316195423570985008687907853269984665640564039457584007908834671663=#[.int .u64 18446744069414583343,.int .u64 18446744073709551615,.int .u64 18446744073709551615,.int .u64 18446744073709551615] from by kernel_rfl]at HMO;go_enter Tryz.func49,Tryz.ntmps49
 go_wp2_with fail
 refine(HMO.out _).mono ?_;rintro e w5 ⟨F,rfl,hF,hs,hb⟩;have HF:=Lib.hid (And.intro hF (And.intro hs hb));clear hF hs hb HMO
 go_wp2_with fail
 go_ret;exact⟨F,rfl,HF.out.1,HF.out.2⟩
def cyN(a b k:Nat):Nat:=(a%2^(64*k)+b%2^(64*k)) / 2^(64*k)
def bwN(a b k:Nat):Nat:=if a%2^(64*k)<b%2^(64*k)then 1 else 0
theorem cy_step(a b k:Nat)(ha:a<2^256)(hb:b<2^256)(hk:k<4):pN a k+pN b k+cyN a b k=pN (a+b) k+18446744073709551616*cyN a b (k+1)/\cyN a b k<=1/\cyN a b (k+1)<=1:=by
 unfold pN cyN;have:k=0\/k=1\/k=2\/k=3:=by omega
 rcases this with rfl | rfl | rfl | rfl <;> simp only[Nat.reduceMul,Nat.reduceAdd,Nat.reducePow] <;> omega
theorem bw_step(a b k:Nat)(ha:a<2^256)(hb:b<2^256)(hk:k<4):pN a k+18446744073709551616*bwN a b (k+1)=pN b k+bwN a b k+pN (a+2^256 - b) k/\bwN a b k<=1/\bwN a b (k+1)<=1:=by
 unfold pN bwN;have:k=0\/k=1\/k=2\/k=3:=by omega
 rcases this with rfl | rfl | rfl | rfl <;> simp only[Nat.reduceMul,Nat.reduceAdd,Nat.reducePow] <;> split <;> split <;> omega
theorem cy_end(a b:Nat)(ha:a<2^256)(hb:b<2^256):cyN a b 4=if (2^256)<=a+b then 1 else 0:=by
 unfold cyN;simp only[Nat.reduceMul,Nat.reducePow]
 split <;> omega
theorem cy_zero(a b:Nat):cyN a b 0=0:=by unfold cyN;simp[Nat.mod_one]
theorem bw_zero(a b:Nat):bwN a b 0=0:=by unfold bwN;simp[Nat.mod_one]
def mixN(x y k j:Nat):Nat:=if j<k then pN x j else pN y j
theorem mix_next(x y k j:Nat):mixN x y (k+1) j=if j=k then pN x k else mixN x y k j:=by
 unfold mixN;by_cases e:j=k
 ·subst e;rw[if_pos (by omega),if_pos rfl]
 ·rw[if_neg e]
  by_cases h:j<k
  ·rw[if_pos (by omega),if_pos h]
  ·rw[if_neg (by omega),if_neg h]
theorem top_step(a k:Nat)(ha:a<2^256)(hk:k<4):a / 2^(64*k)=a / 2^(64*(k+1))*18446744073709551616+pN a k:=by
 unfold pN;have:k=0\/k=1\/k=2\/k=3:=by omega
 rcases this with rfl | rfl | rfl | rfl <;> simp only[Nat.reduceMul,Nat.reduceAdd,Nat.reducePow] <;> omega
theorem div_lt_of{a b P:Nat}(h:a / P<b / P):a<b:=Nat.lt_of_not_le fun hle=>Nat.not_lt.2 (Nat.div_le_div_right hle) h
def qN(x j:Nat):Nat:=x%115792089237316195423570985008687907853269984665640564039457584007913129639936 / 2^(32*j)%4294967296
theorem qN_lt(x j:Nat):qN x j<4294967296:=Nat.mod_lt _ (by omega)
theorem qn_of(x k p s:Nat)(hp:k / 2=p)(hs:32*(k%2)=s):pN x p / 2^s%4294967296=qN x k:=by
 subst hp hs;unfold pN qN;have e:18446744073709551616=2^(32*(k%2))*2^(64 - 32*(k%2)):=by rw[<- Nat.pow_add,show 32*(k%2)+(64 - 32*(k%2))=64 by omega]
 have e2:(4294967296:Nat)=2^32:=by rfl
 rw[e,Nat.mod_mul_right_div_self,e2,Nat.mod_mod_of_dvd _ (Nat.pow_dvd_pow 2 (by omega)),Nat.div_div_eq_div_mul,<- Nat.pow_add,show 64*(k / 2)+32*(k%2)=32*k by omega]
theorem odd_part:∀ n:Nat,0<n->∃ v r,n=2^v*(2*r+1):=by
 intro n
 induction n using Nat.strongRecOn with
 | ind n ih =>
  intro h;by_cases ho:n%2=1
  ·exact⟨0,n / 2,by rw[Nat.pow_zero,Nat.one_mul];omega⟩
  ·obtain⟨v,r,e⟩:=ih (n / 2) (by omega) (by omega)
   exact⟨v+1,r,by rw[Nat.pow_succ,Nat.mul_comm (2^v) 2,Nat.mul_assoc,<- e];omega⟩
theorem and_compl(r n:Nat)(h:r<2^n):r &&& (2^n - (r+1))=0:=by
 apply Nat.eq_of_testBit_eq;intro i;rw[Nat.testBit_and,Nat.testBit_two_pow_sub_succ h,Nat.zero_testBit];cases Nat.testBit r i <;> simp
theorem and_odd(r s:Nat)(h:r &&& s=0):(2*r+1) &&& (2*s+1)=1:=by
 apply Nat.eq_of_testBit_eq;intro i;cases i with
 | zero=>rw[Nat.testBit_and];simp[Nat.testBit_zero]
 | succ i =>
  have e:Nat.testBit (r &&& s) i=false:=by rw[h,Nat.zero_testBit]
  rw[Nat.testBit_and]at e;rw[Nat.testBit_and,Nat.testBit_succ,Nat.testBit_succ,Nat.testBit_succ,show(2*r+1) / 2=r by omega,show(2*s+1) / 2=s by omega,e];simp
theorem low_bit(L:Nat)(h0:0<L)(hl:L<4294967296):∃ v r,L=2^v*(2*r+1)/\v<32/\L &&& (18446744073709551616 - L)=2^v:=by
 obtain⟨v,r,e⟩:=odd_part L h0;have hv:v<32:=by
  apply Classical.byContradiction;intro hn;have:2^32<=2^v:=Nat.pow_le_pow_right (by omega) (by omega);have h2:2^v*1<=2^v*(2*r+1):=Nat.mul_le_mul_left _ (by omega);omega
 refine⟨v,r,e,hv,?_⟩;have hr:r<2^(63 - v):=by
  apply Classical.byContradiction;intro hn;have h2:2^v*2^(63 - v)<=2^v*r:=Nat.mul_le_mul_left _ (by omega);have h3:2^v*r<=2^v*(2*r+1):=Nat.mul_le_mul_left _ (by omega);rw[<- Nat.pow_add,show v+(63 - v)=63 by omega]at h2;omega
 have e2:18446744073709551616 - L=2^v*(2*(2^(63 - v) - (r+1))+1):=by
  have e3:2^v*(2*2^(63 - v))=18446744073709551616:=by
   rw[show 2*2^(63 - v)=2^(64 - v) by rw[<- Nat.pow_succ',Nat.succ_eq_add_one,show 63 - v+1=64 - v by omega],<- Nat.pow_add,show v+(64 - v)=64 by omega]
  rw[<- e3,e,<- Nat.mul_sub];congr 1;omega
 rw[e2,e,Nat.mul_comm (2^v),Nat.mul_comm (2^v),<- Nat.shiftLeft_eq,<- Nat.shiftLeft_eq,<- Nat.shiftLeft_and_distrib,and_odd _ _ (and_compl _ _ hr),Nat.shiftLeft_eq,Nat.one_mul]
def LowI(m lo:Nat):Prop:=∃ t,t<=32/\lo<2^t/\2^t∣lo*m+1
theorem LowI.lt{m lo:Nat}(h:LowI m lo):lo<4294967296:=by
 obtain⟨t,h1,h2,-⟩:=h;have:2^t<=2^32:=Nat.pow_le_pow_right (by omega) h1;omega
theorem LowI.start{m:Nat}(h:m%2=1):LowI m 1:=⟨1,by omega,by omega,by rw[Nat.dvd_iff_mod_eq_zero];omega⟩
theorem LowI.step{m lo c L:Nat}(h:LowI m lo)(ho:m%2=1)(hc:lo*m%4294967296=c)(hn:c≠4294967295)(hL:4294967295 - c=L):∃ b,L &&& (18446744073709551616 - L)=b/\0<b/\lo+b<4294967296/\LowI m (lo+b):=by
 have hcl:c<4294967296:=by rw[<- hc];exact Nat.mod_lt _ (by omega)
 obtain⟨v,r,e,hv,hb⟩:=low_bit L (by omega) (by omega);obtain⟨t,h1,h2,h3⟩:=h;have hpv:0<2^v:=Nat.pow_pos (by omega)
 -- lo*m+1 and L are together a multiple of 2^32
 obtain⟨z,hz⟩:∃ z,lo*m+1+L=4294967296*z:=⟨lo*m / 4294967296+1,by have:=Nat.div_add_mod (lo*m) 4294967296;omega⟩
 have htL:2^t∣L:=by
  have hd:2^t∣lo*m+1+L:=by
   rw[hz];exact Nat.dvd_trans (show 2^t∣4294967296 from(show(2:Nat)^t∣2^32 from Nat.pow_dvd_pow 2 h1)) (Nat.dvd_mul_right _ _)
  exact(Nat.dvd_add_iff_right h3).2 hd
 have htv:t<=v:=by
  apply Classical.byContradiction;intro hn;have h4:2^(v+1)∣2^v*(2*r+1):=by rw[<- e];exact Nat.dvd_trans (Nat.pow_dvd_pow 2 (by omega)) htL
  rw[Nat.pow_succ]at h4;have:=Nat.dvd_of_mul_dvd_mul_left hpv h4;omega
 have hlo:lo<2^v:=Nat.lt_of_lt_of_le h2 (Nat.pow_le_pow_right (by omega) htv);have hv1:2^(v+1)=2^v*2:=Nat.pow_succ _ _;have hv2:2^(v+1)<=2^32:=Nat.pow_le_pow_right (by omega) (by omega);refine⟨2^v,hb,hpv,by omega,v+1,by omega,by omega,?_⟩;have h5:2^(v+1)∣4294967296:=(show(2:Nat)^(v+1)∣2^32 from Nat.pow_dvd_pow 2 (by omega))
 have h6:(lo+2^v)*m+1+L=4294967296*z+2^v*m:=by rw[Nat.add_mul];omega
 have h7:2^v*m+2^(v+1)*r+2^v=L+2^v*m:=by rw[e,hv1];grind
 obtain⟨u,hu⟩:∃ u,m=2*u+1:=⟨m / 2,by omega⟩
 -- (lo+2^v) m+1=2^32 z+2^v (m - 2r - 1): told with no difference
 have h8:2^(v+1)∣(lo+2^v)*m+1+2^(v+1)*r:=by
  have e9:(lo+2^v)*m+1+2^(v+1)*r=4294967296*z+2^(v+1)*u:=by
   have:2^v*m=2^(v+1)*u+2^v:=by rw[hu,hv1];grind
   have e10:L=2^(v+1)*r+2^v:=by rw[e,hv1];grind
   omega
  rw[e9];exact Nat.dvd_add (Nat.dvd_trans h5 (Nat.dvd_mul_right _ _)) (Nat.dvd_mul_right _ _)
 exact(Nat.dvd_add_iff_left (Nat.dvd_mul_right _ _)).2 h8
theorem LowI.done{m lo:Nat}(hc:lo*m%4294967296=4294967295):(lo*m+1)%4294967296=0:=by omega
open Go.RowKit
structure W2 (w:World) (fa fb:Nat->Nat) (wx:World):Prop where
 old:Below w.heap.size w wx
 ra:wx.heap[w.heap.size]?=some (.cells (ar .u64 4 fun j=>((fa j:Nat):Int)) 24 (0,0))
 rb:wx.heap[w.heap.size+1]?=some (.cells (ar .u64 4 fun j=>((fb j:Nat):Int)) 24 (0,0))
theorem W2.drew{w wx:World}{fa fb:Nat->Nat}(c:W2 w fa fb wx):W2 w fa fb wx.drew:=⟨c.old.drew,c.ra,c.rb⟩
theorem W2.ca{w wx:World}{fa fb:Nat->Nat}(c:W2 w fa fb wx)(j:Nat)(hj:j<4):wx.cell? ⟨w.heap.size,j,none⟩=some (.int .u64 (fa j:Nat)):=(cell_of_row _ _ j _ _ _ c.ra).trans (ar_at _ _ _ _ hj)
theorem W2.cb{w wx:World}{fa fb:Nat->Nat}(c:W2 w fa fb wx)(j:Nat)(hj:j<4):wx.cell? ⟨w.heap.size+1,j,none⟩=some (.int .u64 (fb j:Nat)):=(cell_of_row _ _ j _ _ _ c.rb).trans (ar_at _ _ _ _ hj)
theorem W2.start(w:World)(a b:Nat):W2 w (pN a) (pN b) ((w.alloc (.cells (pw a) 24)).alloc (.cells (pw b) 24)):=by
 refine⟨((Below.refl _ _).alloc (Nat.le_refl _) _).alloc (by simp) _,?_,?_⟩
 ·rw[Below.heap_alloc _ _ _ (by simp),heap_alloc_new,pw_ar]
 ·have:=heap_alloc_new (w.alloc (.cells (pw a) 24)) (.cells (pw b) 24)
  rw[World.size_alloc]at this;rw[this,pw_ar]
theorem moreW_any(a b:Nat)(ha:a<2^256)(hb:b<2^256)(w:World):Calls Tryz.prog 56 #[.agg (pw a),.agg (pw b)] w fun e w'=>e=.returned (.bool (decide (b<=a)))/\Below w.heap.size w w':=by
 have HAB:=Lib.hid (And.intro ha hb);have HS:=Lib.hid (show a / 2^(64*4)=b / 2^(64*4) from by rw[Nat.div_eq_of_lt (by simpa using ha),Nat.div_eq_of_lt (by simpa using hb)]);have HR:=Lib.hid (show ∃ w0,(w.alloc (.cells (pw a) 24)).alloc (.cells (pw b) 24)=w0/\W2 w (pN a) (pN b) w0 from⟨_,rfl,W2.start w a b⟩);clear ha hb;go_enter Tryz.func56,Tryz.ntmps56
 go_wp2_with fail
 obtain⟨w0,hw0,h0⟩:=HR.out;rw[hw0];have H0:=Lib.hid h0;clear hw0 h0 HR
 go_loopw [5] (fun iv wr=>∃(z:Int) (k:Nat),k<=4/\z=(k:Int) - 1/\iv=.int .i64 z/\Hid (a / 2^(64*k)=b / 2^(64*k)/\W2 w (pN a) (pN b) wr)) (fun iv _=>(intOf iv+1).toNat)
 case atStart=>exact⟨3,4,by omega,by omega,rfl,Lib.hid ⟨HS.out,H0.out⟩⟩
 case round =>
  obtain⟨z,k,hk,hz,rfl,H⟩:=hrel;clear H0 HS;by_cases h0:0<=z
  ·obtain⟨j,rfl⟩:=Int.eq_ofNat_of_zero_le h0
   obtain rfl:k=j+1:=by omega
   have hj:j<4:=by omega
   have hj4:(j:Int)<4:=by omega
   have ca:=H.out.2.ca j hj;have cb:=H.out.2.cb j hj;have ta:=Lib.hid (top_step a j HAB.out.1 hj);have tb:=Lib.hid (top_step b j HAB.out.2 hj);have hpl:=pN_le a j;have hql:=pN_le b j;obtain⟨p,hp⟩:∃ p,pN a j=p:=⟨_,rfl⟩
   obtain⟨q,hq⟩:∃ q,pN b j=q:=⟨_,rfl⟩
   rw[hp]at ca ta hpl;rw[hq]at cb tb hql;clear hp hq;have HL:=Lib.hid (And.intro hpl hql);clear hpl hql;by_cases he:p=q
   ·subst he
    clear hk hz hj
    go_wp2_with fail
    go_region
    go_wp2
    go_roundw
    case rel=>exact⟨(j:Int) - 1,j,by omega,rfl,by go_num,Lib.hid ⟨by rw[ta.out,tb.out,H.out.1],H.out.2.drew⟩⟩
    case measure=>simp[intOf]
   ·have hne:¬(p:Int)=(q:Int):=by omega
    by_cases hlt:q<p
    ·have hgt:(q:Int)<(p:Int):=by omega
     have HE:=Lib.hid (show decide (b<=a)=true from decide_eq_true (Nat.le_of_lt (div_lt_of (P:=2^(64*j)) (by rw[ta.out,tb.out,H.out.1];omega))));clear hk hz hj he hlt ta tb HL
     go_wp2_with fail
     go_region
     go_wp2_with fail
     go_region
     go_wp2_with fail
     go_ret;exact⟨by rw[HE.out];first | rfl | (show Ending.returned (.bool (decide (q<p)))=_;rw[decide_eq_false (by omega)]),H.out.2.old.drew.drew⟩
    ·have hgt:¬(q:Int)<(p:Int):=by omega
     have HE:=Lib.hid (show decide (b<=a)=false from decide_eq_false (Nat.not_le.2 (div_lt_of (P:=2^(64*j)) (by rw[ta.out,tb.out,H.out.1];omega))));clear hk hz hj he hlt ta tb HL
     go_wp2_with fail
     go_region
     go_wp2_with fail
     go_region
     go_wp2_with fail
     go_ret;exact⟨by rw[HE.out];first | rfl | (show Ending.returned (.bool (decide (q<p)))=_;rw[decide_eq_false (by omega)]),H.out.2.old.drew.drew⟩
  ·obtain rfl:k=0:=by omega
   have hz':¬(z:Int) ≥ 0:=by omega
   have HE:=Lib.hid (show decide (b<=a)=true from decide_eq_true (by have:=H.out.1;simp at this;omega));clear hz
   go_wp2_with fail
   go_ret;exact⟨by rw[HE.out];rfl,H.out.2.old⟩
open Go.RowKit
structure W3 (w:World) (fa fb:Nat->Nat) (wx:World):Prop extends W2 w fa fb wx where
 rc:wx.heap[w.heap.size+1+1]?=some (.cells (#[.int .u64 0,.int .u64 0,.int .u64 0,.int .u64 0]) 24 (0,0))
theorem W3.drew{w wx:World}{fa fb:Nat->Nat}(c:W3 w fa fb wx):W3 w fa fb wx.drew:=⟨c.toW2.drew,c.rc⟩
theorem W3.start(w:World)(a b:Nat):W3 w (pN a) (pN b) (((w.alloc (.cells (pw a) 24)).alloc (.cells (pw b) 24)).alloc (.cells (#[.int .u64 0,.int .u64 0,.int .u64 0,.int .u64 0]) 24)):=by
 have h:=W2.start w a b;refine⟨⟨h.old.alloc (by simp;omega) _,?_,?_⟩,?_⟩
 ·rw[Below.heap_alloc _ _ _ (by simp;omega),h.ra]
 ·rw[Below.heap_alloc _ _ _ (by simp),h.rb]
 ·have:=heap_alloc_new ((w.alloc (.cells (pw a) 24)).alloc (.cells (pw b) 24)) (.cells (#[.int .u64 0,.int .u64 0,.int .u64 0,.int .u64 0]) 24)
  rwa [World.size_alloc,World.size_alloc]at this
theorem W3.put{w wx:World}{x y k v:Nat}{fb:Nat->Nat}(c:W3 w (mixN x y k) fb wx)(hk:k<4)(hv:v=pN x k):W3 w (mixN x y (k+1)) fb (wx.setCell ⟨w.heap.size,k,none⟩ (.int .u64 (v:Nat))):=by
 subst hv;refine⟨⟨c.old.setCell (Nat.le_refl _) _,?_,(heap_setCell_other _ _ _ _ (by simp)).trans c.rb⟩,(heap_setCell_other _ _ _ _ (by simp;omega)).trans c.rc⟩;refine(heap_setCell_same _ _ _ _ _ _ c.ra).trans ?_;rw[ar_set _ _ _ _ _ hk];congr 2;refine ar_congr fun j _=>?_;unfold updI;rw[mix_next];by_cases e:j=k
 ·rw[if_pos e,if_pos e]
 ·rw[if_neg e,if_neg e]
theorem mix_zero(x y:Nat):mixN x y 0=pN y:=by funext j;simp[mixN]
theorem mix_four(x y:Nat):(ar .u64 4 fun j=>((mixN x y 4 j:Nat):Int))=pw x:=by
 rw[pw_ar];exact ar_congr fun j hj=>by unfold mixN;rw[if_pos hj]
theorem W3.full{w wx:World}{x y:Nat}{fb:Nat->Nat}(c:W3 w (mixN x y 4) fb wx):wx.heap[w.heap.size]?=some (.cells (pw x) 24 (0,0))/\wx.heap[w.heap.size+1+1]?=some (.cells (#[.int .u64 0,.int .u64 0,.int .u64 0,.int .u64 0]) 24 (0,0)):=by
 refine⟨?_,c.rc⟩;have:=c.ra;rwa [mix_four]at this
theorem results_cs{fn:Func}{p q:Tmp}(h:fn.results=#[.cell p 24,.tmp q])(tmps:Array Value)(w:World)(g:Nat)(cs:Array Value)(v:Value)(fr:Nat × Nat)
  (hp:tmps.getD p undef=.pointer (some ⟨g,0,none⟩)) (hq:tmps.getD q undef=v) (hg:w.heap[g]?=some (.cells cs 24 fr))
  (hi:(Tryz.prog.info? 24).map (·.size)=some cs.size) :
  (results fn tmps).run Tryz.prog w=.ok (.tuple #[.agg cs,v]) w:=by
 have hp':tmps[p]?.getD undef=.pointer (some ⟨g,0,none⟩):=by simpa using hp
 have hq':tmps[q]?.getD undef=v:=by simpa using hq
 simp[results,h,hp',hq',asAddr,run_loadVar_row w g 24 24 cs fr _ hg Tryz.underlying24 rfl hi]
theorem plusW_any(a b:Nat)(ha:a<2^256)(hb:b<2^256)(w:World):Calls Tryz.prog 58 #[.agg (pw a),.agg (pw b)] w fun e w'=>e=.returned (.tuple #[.agg (pw (a+b)),.bool (decide (2^256<=a+b))])/\Below w.heap.size w w':=by
 have HAB:=Lib.hid (And.intro ha hb);have HE:=Lib.hid (cy_end a b ha hb);have HR:=Lib.hid (show ∃ w0,((w.alloc (.cells (pw a) 24)).alloc (.cells (pw b) 24)).alloc (.cells (#[.int .u64 0,.int .u64 0,.int .u64 0,.int .u64 0]) 24)=w0/\W3 w (mixN (a+b) a 0) (pN b) w0 from⟨_,rfl,by rw[mix_zero];exact W3.start w a b⟩);clear ha hb;go_enter Tryz.func58,Tryz.ntmps58
 go_wp2_with fail
 obtain⟨w0,hw0,h0⟩:=HR.out;rw[hw0];have H0:=Lib.hid h0;clear hw0 h0 HR
 go_loopw [6,7] (fun ov iv wr=>∃ k c:Nat,k<=4/\c=cyN a b k/\ov=.int .u64 c/\iv=.int .i64 k/\Hid (W3 w (mixN (a+b) a k) (pN b) wr)) (fun _ iv _=>4 - (intOf iv).toNat)
 case atStart=>exact⟨0,0,by omega,(cy_zero _ _).symm,rfl,rfl,H0⟩
 case round =>
  obtain⟨k,c,hk,hc,rfl,rfl,H⟩:=hrel;clear H0;have hk0:(0:Int)<=k:=by omega
  by_cases hlt:k<4
  ·have hk4:(k:Int)<4:=by omega
   have ca:=H.out.ca k hlt;have cb:=H.out.cb k hlt;have fo:=frozen_of_row wr w.heap.size k _ _ H.out.ra;rw[show mixN (a+b) a k k=pN a k from by unfold mixN;rw[if_neg (by omega)]]at ca;obtain⟨hst,hc1,hd1⟩:=cy_step a b k HAB.out.1 HAB.out.2 hlt;have hpl:=pN_le a k;have hql:=pN_le b k;have hsl:=pN_le (a+b) k;have hck:cyN a b k=c:=hc.symm;obtain⟨d,hd⟩:∃ d,cyN a b (k+1)=d:=⟨_,rfl⟩
   obtain⟨p,hp⟩:∃ p,pN a k=p:=⟨_,rfl⟩
   obtain⟨q,hq⟩:∃ q,pN b k=q:=⟨_,rfl⟩
   obtain⟨s,hs⟩:∃ s,pN (a+b) k=s:=⟨_,rfl⟩
   obtain⟨x,hx⟩:∃ x,(p+q)%18446744073709551616=x:=⟨_,rfl⟩
   rw[hck,hd,hp,hq,hs]at hst;rw[hck]at hc1;rw[hd]at hd1;rw[hp]at ca hpl;rw[hq]at cb hql;rw[hs]at hsl;have hxl:x<18446744073709551616:=by omega
   have hX:IntKind.u64.wrap ((p:Int)+(q:Int))=(x:Int):=by rw[IntKind.wrap_u64];omega
   have hY:IntKind.u64.wrap ((x:Int)+(c:Int))=(s:Int):=by rw[IntKind.wrap_u64];omega
   have HN:=Lib.hid (And.intro hd hs);by_cases h1:x<p
   ·have h1':(x:Int)<(p:Int):=by omega
    obtain rfl:d=1:=by omega
    have HK:=Lib.hid hlt;clear hc hk hst hc1 hd1 hpl hql hsl hck hd hp hq hs hx hxl h1 hlt
    go_wp2_with fail
    go_region
    go_wp2_with fail
    go_roundw
    case rel=>exact⟨k+1,1,by have:=HK.out;omega,HN.out.1.symm,rfl,by go_num,Lib.hid (H.out.drew.put HK.out HN.out.2.symm)⟩
    case measure=>have:=HK.out;simp[intOf];omega
   ·have h1':¬(x:Int)<(p:Int):=by omega
    by_cases h2:s<x
    ·have h2':(s:Int)<(x:Int):=by omega
     obtain rfl:d=1:=by omega
     have HK:=Lib.hid hlt;clear hc hk hst hc1 hd1 hpl hql hsl hck hd hp hq hs hx hxl h1 h2 hlt
     go_wp2_with fail
     go_region
     go_wp2_with fail
     go_roundw
     case rel=>exact⟨k+1,1,by have:=HK.out;omega,HN.out.1.symm,rfl,by go_num,Lib.hid (H.out.drew.put HK.out HN.out.2.symm)⟩
     case measure=>have:=HK.out;simp[intOf];omega
    ·have h2':¬(s:Int)<(x:Int):=by omega
     obtain rfl:d=0:=by omega
     have HK:=Lib.hid hlt;clear hc hk hst hc1 hd1 hpl hql hsl hck hd hp hq hs hx hxl h1 h2 hlt
     go_wp2_with fail
     go_region
     go_wp2_with fail
     go_roundw
     case rel=>exact⟨k+1,0,by have:=HK.out;omega,HN.out.1.symm,rfl,by go_num,Lib.hid (H.out.drew.put HK.out HN.out.2.symm)⟩
     case measure=>have:=HK.out;simp[intOf];omega
  ·obtain rfl:k=4:=by omega
   have HF:=Lib.hid H.out.full;rw[HE.out]at hc;have hend:decide (2^256<=a+b)=decide ((c:Int)=1):=by
    rw[hc];by_cases h:(2^256)<=a+b
    ·rw[decide_eq_true h,if_pos h];rfl
    ·rw[decide_eq_false h,if_neg h];rfl
   have HD:=Lib.hid hend;clear hc hend HE hk0
   go_wp2_with (first | (refine wpList_ld rfl 24 _ rfl (.pointer (some ⟨w.heap.size,0,none⟩)) (.agg (pw (a+b))) rfl (ld_pw (by exact HF.out.1)) ?_) | (refine wpList_store_row rfl 24 _ _ rfl (w.heap.size+1+1) (pw (a+b)) rfl rfl 24 (#[.int .u64 0,.int .u64 0,.int .u64 0,.int .u64 0]) (by exact HF.out.2) (by rw[pw_size];exact infoW4) (by rw[pw_size];rfl) (pw_one _) ?_))
   (try simp only[Act.put])
   refine bodyPost_ret (v:=.tuple #[.agg (pw (a+b)),.bool (decide ((c:Int)=1))]) (results_cs (p:=4) (q:=5) rfl _ _ (w.heap.size+1+1) (pw (a+b)) _ (0,0) rfl rfl (setRow_heap _ _ _ _ _ _ HF.out.2) (by rw[pw_size];exact infoW4)) rfl ⟨by rw[HD.out],below_setRow H.out.old (by omega) _⟩
open Go.RowKit
theorem minusW_any(a b:Nat)(ha:a<2^256)(hb:b<2^256)(w:World):Calls Tryz.prog 57 #[.agg (pw a),.agg (pw b)] w fun e w'=>e=.returned (.agg (pw (a+2^256 - b)))/\Below w.heap.size w w':=by
 have HAB:=Lib.hid (And.intro ha hb);have HR:=Lib.hid (show ∃ w0,((w.alloc (.cells (pw a) 24)).alloc (.cells (pw b) 24)).alloc (.cells (#[.int .u64 0,.int .u64 0,.int .u64 0,.int .u64 0]) 24)=w0/\W3 w (mixN (a+2^256 - b) a 0) (pN b) w0 from⟨_,rfl,by rw[mix_zero];exact W3.start w a b⟩);clear ha hb;go_enter Tryz.func57,Tryz.ntmps57
 go_wp2_with fail
 obtain⟨w0,hw0,h0⟩:=HR.out;rw[hw0];have H0:=Lib.hid h0;clear hw0 h0 HR
 go_loopw [5,6] (fun ov iv wr=>∃ k c:Nat,k<=4/\c=bwN a b k/\ov=.int .u64 c/\iv=.int .i64 k/\Hid (W3 w (mixN (a+2^256 - b) a k) (pN b) wr)) (fun _ iv _=>4 - (intOf iv).toNat)
 case atStart=>exact⟨0,0,by omega,(bw_zero _ _).symm,rfl,rfl,H0⟩
 case round =>
  obtain⟨k,c,hk,hc,rfl,rfl,H⟩:=hrel;clear H0;have hk0:(0:Int)<=k:=by omega
  by_cases hlt:k<4
  ·have hk4:(k:Int)<4:=by omega
   have ca:=H.out.ca k hlt;have cb:=H.out.cb k hlt;have fo:=frozen_of_row wr w.heap.size k _ _ H.out.ra;rw[show mixN (a+2^256 - b) a k k=pN a k from by unfold mixN;rw[if_neg (by omega)]]at ca;obtain⟨hst,hc1,hd1⟩:=bw_step a b k HAB.out.1 HAB.out.2 hlt;have hpl:=pN_le a k;have hql:=pN_le b k;have hsl:=pN_le (a+2^256 - b) k;have hck:bwN a b k=c:=hc.symm;obtain⟨d,hd⟩:∃ d,bwN a b (k+1)=d:=⟨_,rfl⟩
   obtain⟨p,hp⟩:∃ p,pN a k=p:=⟨_,rfl⟩
   obtain⟨q,hq⟩:∃ q,pN b k=q:=⟨_,rfl⟩
   obtain⟨s,hs⟩:∃ s,pN (a+2^256 - b) k=s:=⟨_,rfl⟩
   obtain⟨x,hx⟩:∃ x:Nat,IntKind.u64.wrap ((p:Int) - (q:Int))=(x:Int):=⟨(((p:Int) - (q:Int))%18446744073709551616).toNat,by rw[IntKind.wrap_u64];omega⟩
   rw[hck,hd,hp,hq,hs]at hst;rw[hck]at hc1;rw[hd]at hd1;rw[hp]at ca hpl;rw[hq]at cb hql;rw[hs]at hsl;have hxw:=hx;rw[IntKind.wrap_u64]at hxw;have hY:IntKind.u64.wrap ((x:Int) - (c:Int))=(s:Int):=by rw[IntKind.wrap_u64];omega
   have HN:=Lib.hid (And.intro hd hs);have HK:=Lib.hid hlt;by_cases h1:p<q
   ·have h1':(p:Int)<(q:Int):=by omega
    obtain rfl:d=1:=by omega
    clear hc hk hst hc1 hd1 hpl hql hsl hck hd hp hq hs hxw h1 hlt
    go_wp2_with fail
    go_region
    go_wp2_with fail
    go_region
    go_wp2_with fail
    go_roundw
    case rel=>exact⟨k+1,1,by have:=HK.out;omega,HN.out.1.symm,rfl,by go_num,Lib.hid (H.out.drew.drew.put HK.out HN.out.2.symm)⟩
    case measure=>have:=HK.out;simp[intOf];omega
   ·have h1':¬(p:Int)<(q:Int):=by omega
    by_cases h2:p=q
    ·subst h2
     have hcc:c=0\/c=1:=by omega
     rcases hcc with rfl | rfl
     ·obtain rfl:d=0:=by omega
      obtain rfl:s=0:=by omega
      clear hc hk hst hc1 hd1 hpl hql hsl hck hd hp hq hs hxw h1 hlt
      go_wp2_with fail
      go_region
      go_wp2_with fail
      go_region
      go_wp2_with fail
      go_roundw
      case rel=>exact⟨k+1,0,by have:=HK.out;omega,HN.out.1.symm,rfl,by go_num,Lib.hid (H.out.drew.drew.put HK.out HN.out.2.symm)⟩
      case measure=>have:=HK.out;simp[intOf];omega
     ·obtain rfl:d=1:=by omega
      obtain rfl:s=18446744073709551615:=by omega
      clear hc hk hst hc1 hd1 hpl hql hsl hck hd hp hq hs hxw h1 hlt
      go_wp2_with fail
      go_region
      go_wp2_with fail
      go_region
      go_wp2_with fail
      go_roundw
      case rel=>exact⟨k+1,1,by have:=HK.out;omega,HN.out.1.symm,rfl,by go_num,Lib.hid (H.out.drew.drew.put HK.out (by rw[HN.out.2];kernel_rfl))⟩
      case measure=>have:=HK.out;simp[intOf];omega
    ·have h2':¬(p:Int)=(q:Int):=by omega
     obtain rfl:d=0:=by omega
     have HIA:=Lib.hid (show ∀ wx,(Instr.indexAt 24 (.pointer (some ⟨w.heap.size,0,none⟩)) (.int .i64 k)).run Tryz.prog wx=.ok (.pointer (some ⟨w.heap.size,k,none⟩)) wx from fun wx=>by go_simp);have HIB:=Lib.hid (show ∀ wx,(Instr.indexAt 24 (.pointer (some ⟨w.heap.size+1,0,none⟩)) (.int .i64 k)).run Tryz.prog wx=.ok (.pointer (some ⟨w.heap.size+1,k,none⟩)) wx from fun wx=>by go_simp);have HLA:=Lib.hid (show ∀ wx,W3 w (mixN (a+2^256 - b) a k) (pN b) wx->(Instr.loadAt 22 (.pointer (some ⟨w.heap.size,k,none⟩))).run Tryz.prog wx=.ok (.int .u64 (p:Nat)) wx from fun wx c=>by
      have hc:=c.ca k hlt;rw[show mixN (a+2^256 - b) a k k=pN a k from by unfold mixN;rw[if_neg (by omega)],hp]at hc;clear hk hst hlt hp
      go_simp)
     have HLB:=Lib.hid (show ∀ wx,W3 w (mixN (a+2^256 - b) a k) (pN b) wx->(Instr.loadAt 22 (.pointer (some ⟨w.heap.size+1,k,none⟩))).run Tryz.prog wx=.ok (.int .u64 (q:Nat)) wx from fun wx c=>by
      have hc:=c.cb k hlt;rw[hq]at hc;clear hk hst hlt hq
      go_simp)
     have HLS:=Lib.hid (show ∀ wx,(binOp BinOp.lss 22 (.int .u64 (p:Nat)) (.int .u64 (q:Nat))).run Tryz.prog wx=.ok (.bool false) wx from fun wx=>by clear hst;go_simp);have HEQ:=Lib.hid (show ∀ wx,(binOp BinOp.eql 22 (.int .u64 (p:Nat)) (.int .u64 (q:Nat))).run Tryz.prog wx=.ok (.bool false) wx from fun wx=>by clear hst;go_simp);clear hc hk hst hc1 hd1 hpl hql hsl hck hd hp hq hs hxw hlt
     go_wp2_with fail
     go_region
     go_wp2_with fail
     refine wp_region_quiet (C:=W3 w (mixN (a+2^256 - b) a k) (pN b)) (by kernel_rfl) (by kernel_rfl) (H.out.drew.drew) ?_;simp only
     with_reducible refine q_val (.int .i64 (k:Nat)) (by kernel_rfl) (fun _ _=>by kernel_rfl) ?_
     with_reducible refine q_sem2 (Instr.indexAt 24 (.pointer (some ⟨w.heap.size,0,none⟩)) (.int .i64 (k:Nat))) (.pointer (some ⟨w.heap.size,k,none⟩)) (by kernel_rfl) (by kernel_rfl) (fun w' _=>HIA.out w') ?_
     with_reducible refine q_load 22 (.tmp 22) (.pointer (some ⟨w.heap.size,k,none⟩)) (.int .u64 (p:Nat)) rfl (by kernel_rfl) (by kernel_rfl) (fun _ c=>HLA.out _ c) ?_
     with_reducible refine q_val (.int .i64 (k:Nat)) (by kernel_rfl) (fun _ _=>by kernel_rfl) ?_
     with_reducible refine q_sem2 (Instr.indexAt 24 (.pointer (some ⟨w.heap.size+1,0,none⟩)) (.int .i64 (k:Nat))) (.pointer (some ⟨w.heap.size+1,k,none⟩)) (by kernel_rfl) (by kernel_rfl) (fun w' _=>HIB.out w') ?_
     with_reducible refine q_load 22 (.tmp 25) (.pointer (some ⟨w.heap.size+1,k,none⟩)) (.int .u64 (q:Nat)) rfl (by kernel_rfl) (by kernel_rfl) (fun _ c=>HLB.out _ c) ?_
     with_reducible refine q_bin .lss 22 _ _ 22 (.int .u64 (p:Nat)) (.int .u64 (q:Nat)) (.bool false) rfl (by kernel_rfl) (by kernel_rfl) (by kernel_rfl) (fun _=>by kernel_rfl) (fun w'=>HLS.out w') ?_
     with_reducible refine q_val (.bool false) (by kernel_rfl) (fun _ _=>by kernel_rfl) ?_
     with_reducible refine q_val (.int .i64 (k:Nat)) (by kernel_rfl) (fun _ _=>by kernel_rfl) ?_
     with_reducible refine q_sem2 (Instr.indexAt 24 (.pointer (some ⟨w.heap.size,0,none⟩)) (.int .i64 (k:Nat))) (.pointer (some ⟨w.heap.size,k,none⟩)) (by kernel_rfl) (by kernel_rfl) (fun w' _=>HIA.out w') ?_
     with_reducible refine q_load 22 (.tmp 30) (.pointer (some ⟨w.heap.size,k,none⟩)) (.int .u64 (p:Nat)) rfl (by kernel_rfl) (by kernel_rfl) (fun _ c=>HLA.out _ c) ?_
     with_reducible refine q_val (.int .i64 (k:Nat)) (by kernel_rfl) (fun _ _=>by kernel_rfl) ?_
     with_reducible refine q_sem2 (Instr.indexAt 24 (.pointer (some ⟨w.heap.size+1,0,none⟩)) (.int .i64 (k:Nat))) (.pointer (some ⟨w.heap.size+1,k,none⟩)) (by kernel_rfl) (by kernel_rfl) (fun w' _=>HIB.out w') ?_
     with_reducible refine q_load 22 (.tmp 33) (.pointer (some ⟨w.heap.size+1,k,none⟩)) (.int .u64 (q:Nat)) rfl (by kernel_rfl) (by kernel_rfl) (fun _ c=>HLB.out _ c) ?_
     with_reducible refine q_bin .eql 22 _ _ 22 (.int .u64 (p:Nat)) (.int .u64 (q:Nat)) (.bool false) rfl (by kernel_rfl) (by kernel_rfl) (by kernel_rfl) (fun _=>by kernel_rfl) (fun w'=>HEQ.out w') ?_
     with_reducible refine q_val (.bool false) (by kernel_rfl) (fun _ _=>by kernel_rfl) ?_
     with_reducible refine q_skip (by kernel_rfl) ?_
     with_reducible refine q_skip (by kernel_rfl) ?_
     with_reducible refine q_val (.bool false) (by kernel_rfl) (fun _ _=>by kernel_rfl) ?_
     with_reducible refine q_val (.bool false) (by kernel_rfl) (fun _ _=>by kernel_rfl) ?_
     with_reducible refine wpQuiet_nil ?_
     intro wx hC;have HC:=Lib.hid hC;clear hC H ca cb fo;simp only[Act.put,List.setIfInBounds_toArray,List.set_cons_succ,List.set_cons_zero];have fo:=frozen_of_row wx w.heap.size k _ _ HC.out.ra;have ca:=HC.out.ca k HK.out
     go_wp2_with fail
     go_roundw
     case rel=>exact⟨k+1,0,by have:=HK.out;omega,HN.out.1.symm,rfl,by go_num,Lib.hid (HC.out.put HK.out HN.out.2.symm)⟩
     case measure=>have:=HK.out;simp[intOf];omega
  ·obtain rfl:k=4:=by omega
   have HF:=Lib.hid H.out.full;clear hc hk0
   go_wp2_with (first | (refine wpList_ld rfl 24 _ rfl (.pointer (some ⟨w.heap.size,0,none⟩)) (.agg (pw (a+2^256 - b))) rfl (ld_pw (by exact HF.out.1)) ?_) | (refine wpList_store_row rfl 24 _ _ rfl (w.heap.size+1+1) (pw (a+2^256 - b)) rfl rfl 24 (#[.int .u64 0,.int .u64 0,.int .u64 0,.int .u64 0]) (by exact HF.out.2) (by rw[pw_size];exact infoW4) (by rw[pw_size];rfl) (pw_one _) ?_))
   (try simp only[Act.put])
   refine bodyPost_ret (v:=.agg (pw (a+2^256 - b))) (results_cell_row (p:=4) rfl _ _ (w.heap.size+1+1) 24 (pw (a+2^256 - b)) (0,0) _ rfl (setRow_heap _ _ _ _ _ _ HF.out.2) Tryz.underlying24 rfl (by rw[pw_size];exact infoW4)) rfl ⟨rfl,below_setRow H.out.old (by omega) _⟩
open Go.RowKit
def rfw(m lo sq j:Nat):Nat:=if j<4 then pN m j else if j<12 then qN m (j - 4)else if j=12 then lo else pN sq (j - 13)
def RFat(w:World)(G m lo sq:Nat):Prop:=w.heap[G]?=some (.cells (ar .u64 17 fun j=>((rfw m lo sq j:Nat):Int)) 83 (0,0))
theorem RFat.less{w:World}{G m lo sq:Nat}(h:RFat w G m lo sq):G<w.heap.size:=(Array.getElem?_eq_some_iff.1 h).1
theorem RFat.below{w w':World}{G m lo sq:Nat}(h:RFat w G m lo sq)(hb:Below w.heap.size w w'):RFat w' G m lo sq:=(hb.block _ h.less).trans h
theorem RFat.cell{w:World}{G m lo sq:Nat}(h:RFat w G m lo sq)(j:Nat)(hj:j<17):w.cell? ⟨G,j,none⟩=some (.int .u64 (rfw m lo sq j:Nat)):=(cell_of_row _ _ j _ _ _ h).trans (ar_at _ _ _ _ hj)
theorem rfw_m(m lo sq j:Nat)(h:j<4):rfw m lo sq (0+j)=pN m j:=by unfold rfw;rw[Nat.zero_add,if_pos h]
theorem rfw_q(m lo sq j:Nat)(h:j<8):rfw m lo sq (4+j)=qN m j:=by unfold rfw;rw[if_neg (by omega),if_pos (by omega),show 4+j - 4=j by omega]
theorem rfw_lo(m lo sq:Nat):rfw m lo sq 12=lo:=rfl
theorem rfw_sq(m lo sq j:Nat):rfw m lo sq (13+j)=pN sq j:=by unfold rfw;rw[if_neg (by omega),if_neg (by omega),if_neg (by omega),show 13+j - 13=j by omega]
theorem ld_rm{w:World}{G m lo sq:Nat}(h:RFat w G m lo sq):(Instr.loadAt 24 (.pointer (some ⟨G,0,none⟩))).run Tryz.prog w=.ok (.agg (pw m)) w:=by
 rw[pw_ar];simp only[Instr.loadAt,Instr.sureAddr,Sem.run_bind,Sem.run_pure,Result.andThen_ok,run_loadVar_part w G 0 4 24 .u64 (fun j=>((pN m j:Nat):Int)) _ (fun j hj=>(h.cell (0+j) (by omega)).trans (by rw[rfw_m _ _ _ _ hj])) Tryz.underlying24 rfl infoW4]
theorem ld_rsq{w:World}{G m lo sq:Nat}(h:RFat w G m lo sq):(Instr.loadAt 24 (.pointer (some ⟨G,13,none⟩))).run Tryz.prog w=.ok (.agg (pw sq)) w:=by
 rw[pw_ar];simp only[Instr.loadAt,Instr.sureAddr,Sem.run_bind,Sem.run_pure,Result.andThen_ok,run_loadVar_part w G 13 4 24 .u64 (fun j=>((pN sq j:Nat):Int)) _ (fun j hj=>(h.cell (13+j) (by omega)).trans (by rw[rfw_sq])) Tryz.underlying24 rfl infoW4]
theorem rf_at(G:Nat)(w:World):(Instr.fieldAt 83 (.pointer (some ⟨G,0,none⟩)) 0).run Tryz.prog w=.ok (.pointer (some ⟨G,0,none⟩)) w/\(Instr.fieldAt 83 (.pointer (some ⟨G,0,none⟩)) 1).run Tryz.prog w=.ok (.pointer (some ⟨G,4,none⟩)) w/\(Instr.fieldAt 83 (.pointer (some ⟨G,0,none⟩)) 2).run Tryz.prog w=.ok (.pointer (some ⟨G,12,none⟩)) w/\(Instr.fieldAt 83 (.pointer (some ⟨G,0,none⟩)) 3).run Tryz.prog w=.ok (.pointer (some ⟨G,13,none⟩)) w:=by
 refine⟨?_,?_,?_,?_⟩ <;> kernel_rfl
theorem RFat.lo{w:World}{G m lo sq:Nat}(h:RFat w G m lo sq)(l':Nat):RFat (w.setCell ⟨G,12,none⟩ (.int .u64 (l':Nat))) G m l' sq:=by
 refine(heap_setCell_same _ _ _ _ _ _ h).trans ?_;rw[ar_set _ _ _ _ _ (by omega)];congr 2
theorem sq_upd(m lo sq y:Nat):ar .u64 17 (updI (updI (updI (updI (fun j=>((rfw m lo sq j:Nat):Int)) 13 ((pN y 0:Nat):Int)) (13+1) ((pN y 1:Nat):Int)) (13+1+1) ((pN y 2:Nat):Int)) (13+1+1+1) ((pN y 3:Nat):Int))=ar .u64 17 fun j=>((rfw m lo y j:Nat):Int):=by kernel_rfl
theorem RFat.sq{w:World}{G m lo sq:Nat}(h:RFat w G m lo sq)(y:Nat):RFat (w.setCells G 13 (pw y).toList) G m lo y:=by
 unfold RFat;rw[pw_list];simp only[World.setCells];refine(heap_setCell_same _ _ _ _ _ _ (heap_setCell_same _ _ _ _ _ _ (heap_setCell_same _ _ _ _ _ _ (heap_setCell_same _ _ _ _ _ _ h)))).trans ?_;rw[ar_set _ _ _ _ _ (by omega),ar_set _ _ _ _ _ (by omega),ar_set _ _ _ _ _ (by omega),ar_set _ _ _ _ _ (by omega),sq_upd]
theorem RFat.there{w:World}{G m lo sq:Nat}(h:RFat w G m lo sq)(y:Nat):w.there G 13 (pw y).size:=by
 intro j hj;rw[pw_size]at hj;exact⟨by rw[h.cell (13+j) (by omega)];rfl,frozen_of_row _ _ _ _ _ h⟩
structure CRf (w:World) (G m lo sq:Nat) (L:List (Nat × Array Value)) (wx:World):Prop where
 old:Below w.heap.size w wx
 fld:RFat wx G m lo sq
 hG:G<w.heap.size
 rows:∀ p∈L,wx.heap[p.1]?=some (.cells p.2 24 (0,0))
theorem CRf.is{w wx:World}{G m lo sq:Nat}{L:List (Nat × Array Value)}(c:CRf w G m lo sq L wx)(g:Nat)(cs:Array Value)(hm:(g,cs)∈L):wx.heap[g]?=some (.cells cs 24 (0,0)):=c.rows _ hm
theorem CRf.below{w wx w':World}{G m lo sq:Nat}{L:List (Nat × Array Value)}(c:CRf w G m lo sq L wx)(hb:Below wx.heap.size wx w'):CRf w G m lo sq L w' :=
 ⟨c.old.trans (hb.mono c.old.size),c.fld.below hb,c.hG,fun p hp=>(hb.block _ (Array.getElem?_eq_some_iff.1 (c.rows p hp)).1).trans (c.rows p hp)⟩
theorem CRf.drew{w wx:World}{G m lo sq:Nat}{L:List (Nat × Array Value)}(c:CRf w G m lo sq L wx):CRf w G m lo sq L wx.drew:=c.below (Below.drew (Below.refl _ _))
theorem CRf.new{w wx:World}{G m lo sq:Nat}{L:List (Nat × Array Value)}(c:CRf w G m lo sq L wx)(cs:Array Value):CRf w G m lo sq ((wx.heap.size,cs)::L) (wx.alloc (.cells cs 24)):=by
 have h:=c.below ((Below.refl _ _).alloc (Nat.le_refl _) (.cells cs 24));refine⟨h.old,h.fld,h.hG,fun p hp=>?_⟩;rcases List.mem_cons.1 hp with rfl | hp
 ·exact heap_alloc_new _ _
 ·exact h.rows p hp
theorem CRf.cons{w wx:World}{G m lo sq d:Nat}{L:List (Nat × Array Value)}{cs:Array Value}(c:CRf w G m lo sq L wx)(hr:wx.heap[d]?=some (.cells cs 24 (0,0))):CRf w G m lo sq ((d,cs)::L) wx:=by
 refine⟨c.old,c.fld,c.hG,fun p hp=>?_⟩;rcases List.mem_cons.1 hp with rfl | hp
 ·exact hr
 ·exact c.rows p hp
theorem CRf.start{w:World}{G m lo sq:Nat}(h:RFat w G m lo sq):CRf w G m lo sq [] w:=⟨Below.refl _ _,h,h.less,fun p hp=>by cases hp⟩
theorem CRf.two{w:World}{G m lo sq:Nat}(h:RFat w G m lo sq)(a b:Nat):CRf w G m lo sq [(w.heap.size+1+1,#[.int .u64 0,.int .u64 0,.int .u64 0,.int .u64 0]),(w.heap.size+1,pw b),(w.heap.size,pw a)] (((w.alloc (.cells (pw a) 24)).alloc (.cells (pw b) 24)).alloc (.cells (#[.int .u64 0,.int .u64 0,.int .u64 0,.int .u64 0]) 24)):=by
 have:=(((CRf.start h).new (pw a)).new (pw b)).new (#[.int .u64 0,.int .u64 0,.int .u64 0,.int .u64 0]);rwa [World.size_alloc,World.size_alloc]at this
theorem CRf.one{w:World}{G m lo sq:Nat}(h:RFat w G m lo sq)(a:Nat):CRf w G m lo sq [(w.heap.size+1,#[.int .u64 0,.int .u64 0,.int .u64 0,.int .u64 0]),(w.heap.size,pw a)] ((w.alloc (.cells (pw a) 24)).alloc (.cells (#[.int .u64 0,.int .u64 0,.int .u64 0,.int .u64 0]) 24)):=by
 have:=((CRf.start h).new (pw a)).new (#[.int .u64 0,.int .u64 0,.int .u64 0,.int .u64 0]);rwa [World.size_alloc]at this
theorem CRf.calls{w:World}{G m lo sq:Nat}{L:List (Nat × Array Value)}{f:FuncId}{args:Array Value}{v:Value}(h:∀ wx,RFat wx G m lo sq->Calls Tryz.prog f args wx fun e w'=>e=.returned v/\Below wx.heap.size wx w'):∀ wx,CRf w G m lo sq L wx->Calls Tryz.prog f args wx fun e w'=>e=.returned v/\CRf w G m lo sq L w' :=
 fun wx c=>(h wx c.fld).mono fun _ _ hh=>⟨hh.1,c.below hh.2⟩
open Go.RowKit
def q8(x k j:Nat):Nat:=if j<k then qN x j else 0
theorem q8_next(x k j:Nat):q8 x (k+1) j=if j=k then qN x k else q8 x k j:=by
 unfold q8;by_cases e:j=k
 ·subst e;rw[if_pos (by omega),if_pos rfl]
 ·rw[if_neg e]
  by_cases h:j<k
  ·rw[if_pos (by omega),if_pos h]
  ·rw[if_neg (by omega),if_neg h]
theorem q8_zero(x:Nat):(ar .u64 8 fun j=>((q8 x 0 j:Nat):Int))=#[.int .u64 0,.int .u64 0,.int .u64 0,.int .u64 0,.int .u64 0,.int .u64 0,.int .u64 0,.int .u64 0]:=by kernel_rfl
theorem q8_full(x:Nat):(ar .u64 8 fun j=>((q8 x 8 j:Nat):Int))=ar .u64 8 fun j=>((qN x j:Nat):Int):=ar_congr fun j hj=>by unfold q8;rw[if_pos hj]
theorem info8:(Tryz.prog.info? 81).map (·.size)=some 8:=by kernel_rfl
theorem and_low32(z:Nat)(h:z<18446744073709551616):bits .and .u64 z 4294967295=((z%4294967296:Nat):Int):=by
 have:=bits_and_u64_nat z 4294967295 h (by omega);rw[show z &&& 4294967295=z%4294967296 from Nat.and_two_pow_sub_one_eq_mod z 32]at this;exact this
structure CP8 (w:World) (x k:Nat) (wx:World):Prop where
 old:Below w.heap.size w wx
 ra:wx.heap[w.heap.size]?=some (.cells (ar .u64 4 fun j=>((pN x j:Nat):Int)) 24 (0,0))
 rr:wx.heap[w.heap.size+1]?=some (.cells (ar .u64 8 fun j=>((q8 x 0 j:Nat):Int)) 81 (0,0))
 rp:wx.heap[w.heap.size+1+1]?=some (.cells (ar .u64 8 fun j=>((q8 x k j:Nat):Int)) 81 (0,0))
theorem CP8.put{w wx:World}{x k v:Nat}(c:CP8 w x k wx)(hk:k<8)(hv:v=qN x k):CP8 w x (k+1) (wx.setCell ⟨w.heap.size+1+1,k,none⟩ (.int .u64 (v:Nat))):=by
 subst hv;refine⟨c.old.setCell (by simp;omega) _,(heap_setCell_other _ _ _ _ (by simp;omega)).trans c.ra,(heap_setCell_other _ _ _ _ (by simp)).trans c.rr,?_⟩;refine(heap_setCell_same _ _ _ _ _ _ c.rp).trans ?_;rw[ar_set _ _ _ _ _ hk];congr 2;refine ar_congr fun j _=>?_;unfold updI;rw[q8_next];by_cases e:j=k
 ·rw[if_pos e,if_pos e]
 ·rw[if_neg e,if_neg e]
theorem CP8.start(w:World)(x:Nat):CP8 w x 0 (((w.alloc (.cells (pw x) 24)).alloc (.cells (#[.int .u64 0,.int .u64 0,.int .u64 0,.int .u64 0,.int .u64 0,.int .u64 0,.int .u64 0,.int .u64 0]) 81)).alloc (.cells (#[.int .u64 0,.int .u64 0,.int .u64 0,.int .u64 0,.int .u64 0,.int .u64 0,.int .u64 0,.int .u64 0]) 81)):=by
 refine⟨(((Below.refl _ _).alloc (Nat.le_refl _) _).alloc (by simp) _).alloc (by simp;omega) _,?_,?_,?_⟩
 ·rw[Below.heap_alloc _ _ _ (by simp;omega),Below.heap_alloc _ _ _ (by simp),heap_alloc_new,pw_ar]
 ·rw[Below.heap_alloc _ _ _ (by simp),q8_zero]
  have:=heap_alloc_new (w.alloc (.cells (pw x) 24)) (.cells (#[.int .u64 0,.int .u64 0,.int .u64 0,.int .u64 0,.int .u64 0,.int .u64 0,.int .u64 0,.int .u64 0]) 81);rwa [World.size_alloc]at this
 ·rw[q8_zero]
  have:=heap_alloc_new ((w.alloc (.cells (pw x) 24)).alloc (.cells (#[.int .u64 0,.int .u64 0,.int .u64 0,.int .u64 0,.int .u64 0,.int .u64 0,.int .u64 0,.int .u64 0]) 81)) (.cells (#[.int .u64 0,.int .u64 0,.int .u64 0,.int .u64 0,.int .u64 0,.int .u64 0,.int .u64 0,.int .u64 0]) 81);rwa [World.size_alloc,World.size_alloc]at this
theorem rparts_any(x:Nat)(w:World):Calls Tryz.prog 78 #[.agg (pw x)] w fun e w'=>e=.returned (.agg (ar .u64 8 fun j=>((qN x j:Nat):Int)))/\Below w.heap.size w w':=by
 have HI8:Hid ((Tryz.prog.info? 81).map (·.size)=some (ar .u64 8 fun j=>((q8 x 8 j:Nat):Int)).size):=Lib.hid (by rw[ar_size];exact info8);have HR:=Lib.hid (CP8.start w x);go_enter Tryz.func78,Tryz.ntmps78
 go_wp2_with fail
 go_loopw [4] (fun iv wr=>∃ k:Nat,k<=8/\iv=.int .i64 k/\Hid (CP8 w x k wr)) (fun iv _=>8 - (intOf iv).toNat)
 case atStart=>exact⟨0,by omega,rfl,HR⟩
 case round =>
  obtain⟨k,hk,rfl,H⟩:=hrel;clear HR;have hk0:(0:Int)<=k:=by omega
  have hk1:(k:Int)<=8:=by omega
  by_cases hlt:k<8
  ·obtain⟨p,hp⟩:∃ p:Nat,(k:Int) / 2=(p:Int):=⟨k / 2,by omega⟩
   obtain⟨r,hr⟩:∃ r:Nat,(k:Int)%2=(r:Int):=⟨k%2,by omega⟩
   obtain⟨s,hs⟩:∃ s:Nat,32*(r:Int)=(s:Int):=⟨32*r,by omega⟩
   have hp0:(0:Int)<=p:=by omega
   have hp1:(p:Int)<4:=by omega
   have hs0:(0:Int)<=s:=by omega
   have hs1:(s:Int)<64:=by omega
   have hlt':(k:Int)<8:=by omega
   have ca:wr.cell? ⟨w.heap.size,p,none⟩=some (.int .u64 (pN x p:Nat)):=(cell_of_row _ _ p _ _ _ H.out.ra).trans (ar_at _ _ _ _ (by omega));have co:wr.cell? ⟨w.heap.size+1+1,k,none⟩=some (.int .u64 (q8 x k k:Nat)):=(cell_of_row _ _ k _ _ _ H.out.rp).trans (ar_at _ _ _ _ (by omega));have fo:wr.frozen? ⟨w.heap.size+1+1,k,none⟩=false:=frozen_of_row wr _ k _ _ H.out.rp;have hpl:=pN_le x p;have hv:bits .and .u64 (((pN x p:Nat):Int) / 2^s) 4294967295=((qN x k:Nat):Int):=by
    rw[<- qn_of x k p s (by omega) (by omega)];have h:=and_low32 (pN x p / 2^s) (Nat.lt_of_le_of_lt (Nat.div_le_self _ _) hpl);simpa using h
   obtain⟨y,hy⟩:∃ y,qN x k=y:=⟨_,rfl⟩
   rw[hy]at hv;have HV:=Lib.hid hv;have HY:=Lib.hid hy;have HK:=Lib.hid hlt;clear hv hpl hy hlt hk
   go_wp2_with fail
   go_roundw
   case rel=>exact⟨k+1,by have:=HK.out;omega,by go_num,Lib.hid (by rw[HV.out];exact H.out.put HK.out HY.out.symm)⟩
   case measure=>have:=HK.out;simp[intOf];omega
  ·obtain rfl:k=8:=by omega
   go_wp2_with (first | (refine wpList_load_row rfl 81 _ rfl (w.heap.size+1+1) rfl 81 _ (0,0) _ H.out.rp Tryz.underlying81 rfl HI8.out ?_) | (refine wpList_store_row rfl 81 _ _ rfl (w.heap.size+1) (ar .u64 8 fun j=>((q8 x 8 j:Nat):Int)) rfl rfl 81 _ (by exact H.out.rr) HI8.out (by rw[ar_size,ar_size]) (ar_one _ _ _) ?_))
   refine bodyPost_ret (v:=.agg (ar .u64 8 fun j=>((q8 x 8 j:Nat):Int))) (results_cell_row (p:=2) rfl _ _ (w.heap.size+1) 81 _ (0,0) _ rfl (setRow_heap _ _ _ _ _ _ H.out.rr) Tryz.underlying81 rfl HI8.out) rfl ⟨by rw[q8_full],below_setRow H.out.old (by omega) _⟩
open Go.RowKit
theorem CRf.lay{w wx:World}{G m lo sq:Nat}{L:List (Nat × Array Value)}(c:CRf w G m lo sq L wx)(cs:Array Value):CRf w G m lo sq ((wx.heap.size,cs)::L) ((wx.alloc (.cells (#[.int .u64 0,.int .u64 0,.int .u64 0,.int .u64 0]) 24)).setRow wx.heap.size cs):=by
 have hb:Below wx.heap.size wx ((wx.alloc (.cells (#[.int .u64 0,.int .u64 0,.int .u64 0,.int .u64 0]) 24)).setRow wx.heap.size cs):=below_setRow ((Below.refl _ _).alloc (Nat.le_refl _) _) (Nat.le_refl _) _;exact(c.below hb).cons (setRow_heap _ _ _ _ _ _ (heap_alloc_new _ _))
theorem pw_less{s m r:Nat}(h:s+2^256 - m=r\/s+2^256 - m=r+2^256):pw (s+2^256 - m)=pw r:=by
 apply pw_congr;rcases h with h | h <;> rw[h]
 rw[Nat.add_mod_right]
def rA(m a b:Nat):Nat:=(if (2^256)<=a+b\/m<=(a+b)%2^256 then (a+b)%2^256+2^256 - m else (a+b)%2^256)%2^256
def rS(m a b:Nat):Nat:=(if b<=a then a+2^256 - b else a+2^256 - b+m)%2^256
theorem rA_lt(m a b:Nat):rA m a b<2^256:=Nat.mod_lt _ (by omega)
theorem rS_lt(m a b:Nat):rS m a b<2^256:=Nat.mod_lt _ (by omega)
theorem rA_eq{m a b:Nat}(ha:a<m)(hb:b<m)(hm:m<2^256):rA m a b=(a+b)%m:=by
 unfold rA;by_cases h:(2^256)<=a+b\/m<=(a+b)%2^256
 ·rw[if_pos h,Nat.mod_eq_sub_mod (show a+b ≥ m by omega),Nat.mod_eq_of_lt (show a+b - m<m by omega)]
  omega
 ·rw[if_neg h,Nat.mod_mod,Nat.mod_eq_of_lt (show a+b<m by omega)]
  omega
theorem rS_eq{m a b:Nat}(ha:a<m)(hb:b<m)(hm:m<2^256):rS m a b=(a+(m - b))%m:=by
 unfold rS;by_cases h:b<=a
 ·rw[if_pos h,show a+(m - b)=a - b+m by omega,Nat.add_mod_right,Nat.mod_eq_of_lt (show a - b<m by omega)]
  omega
 ·rw[if_neg h,Nat.mod_eq_of_lt (show a+(m - b)<m by omega)]
  omega
theorem radd_w(G m lo sq a b:Nat)(hal:a<2^256)(hbl:b<2^256)(hm:m<2^256)(w:World)(hF:RFat w G m lo sq):Calls Tryz.prog 39 #[(.pointer (some ⟨G,0,none⟩)),.agg (pw a),.agg (pw b)] w fun e w'=>e=.returned (.agg (pw (rA m a b)))/\Below w.heap.size w w':=by
 have H0:=Lib.hid (CRf.two hF a b);have HPL:=Lib.hid (fun wx=>plusW_any a b (by omega) (by omega) wx);obtain⟨s,hs⟩:∃ s,(a+b)%2^256=s:=⟨_,rfl⟩
 have hsl:s<2^256:=by omega
 rw[show pw (a+b)=pw s from by rw[<- hs,pw_modn]]at HPL;have HMO:=Lib.hid (fun wx (_:RFat wx G m lo sq)=>moreW_any s m hsl hm wx);have HMI:=Lib.hid (fun wx (_:RFat wx G m lo sq)=>minusW_any s m hsl hm wx);obtain⟨y,hy⟩:∃ y,s+2^256 - m=y:=⟨_,rfl⟩
 have HR:=Lib.hid (show(2^256)<=a+b\/m<=s->pw y=pw (rA m a b) from fun h=>by
  rw[<- hy];unfold rA;rw[hs,if_pos h,pw_modn])
 have HR2:=Lib.hid (show ¬(2^256)<=a+b->¬m<=s->pw s=pw (rA m a b) from fun h1 h2=>by
  unfold rA;rw[hs,if_neg (fun h=>h.elim h1 h2),pw_modn])
 rw[hy]at HMI;obtain⟨z,hz⟩:∃ z,pw (rA m a b)=z:=⟨_,rfl⟩
 rw[hz]at HR HR2 |-
 clear hF hz hs hy hsl hal hbl hm;by_cases ho:(2^256)<=a+b
 ·rw[decide_eq_true ho]at HPL
  have HQ:=Lib.hid (HR.out (.inl ho));clear HR HR2 HMO ho;go_enter Tryz.func39,Tryz.ntmps39
  go_wp2_with (first | (refine wpList_ld rfl 24 _ rfl (.pointer (some ⟨w.heap.size,0,none⟩)) (.agg (pw a)) rfl (ld_pw (by exact H0.out.is _ _ (by simp))) ?_) | (refine wpList_ld rfl 24 _ rfl (.pointer (some ⟨w.heap.size+1,0,none⟩)) (.agg (pw b)) rfl (ld_pw (by exact H0.out.is _ _ (by simp))) ?_))
  refine(HPL.out _).mono ?_;rintro e w1 ⟨rfl,hb1⟩;have H1:=Lib.hid ((H0.out.below hb1).lay (pw s));have G1:=Lib.hid (heap_alloc_new w1 (.cells (#[.int .u64 0,.int .u64 0,.int .u64 0,.int .u64 0]) 24));clear hb1 H0 HPL
  go_upto_region 2 with(refine wpList_store_row rfl 24 _ _ rfl w1.heap.size (pw s) rfl rfl 24 (#[.int .u64 0,.int .u64 0,.int .u64 0,.int .u64 0]) (by exact G1.out) (by rw[pw_size];exact infoW4) (by rw[pw_size];rfl) (pw_one _) ?_)
  obtain⟨w2,hw2⟩:∃ w2,(w1.alloc (.cells (#[.int .u64 0,.int .u64 0,.int .u64 0,.int .u64 0]) 24)).setRow w1.heap.size (pw s)=w2:=⟨_,rfl⟩
  obtain⟨g7,hg7⟩:∃ g7,w1.heap.size=g7:=⟨_,rfl⟩
  rw[hw2,hg7]at H1;rw[hw2,hg7];clear hw2 hg7 G1;refine wp_region_quiet (C:=CRf w G m lo sq [(g7,pw s),(w.heap.size+1+1,#[.int .u64 0,.int .u64 0,.int .u64 0,.int .u64 0]),(w.heap.size+1,pw b),(w.heap.size,pw a)]) (by kernel_rfl) (by kernel_rfl) (H1.out.drew) ?_;simp only
  with_reducible refine q_val (.bool true) (by kernel_rfl) (fun _ _=>by kernel_rfl) ?_
  with_reducible refine q_val (.bool true) (by kernel_rfl) (fun _ _=>by kernel_rfl) ?_
  with_reducible refine q_skip (by kernel_rfl) ?_
  with_reducible refine q_skip (by kernel_rfl) ?_
  with_reducible refine q_skip (by kernel_rfl) ?_
  with_reducible refine q_skip (by kernel_rfl) ?_
  with_reducible refine q_skip (by kernel_rfl) ?_
  with_reducible refine q_skip (by kernel_rfl) ?_
  with_reducible refine q_val (.bool true) (by kernel_rfl) (fun _ _=>by kernel_rfl) ?_
  with_reducible refine wpQuiet_nil ?_
  intro wx hC;have HC:=Lib.hid hC;clear hC H1;simp only[Act.put,List.setIfInBounds_toArray,List.set_cons_succ,List.set_cons_zero]
  go_wp2_with fail
  refine region_quiet_tail 6 (CRf w G m lo sq [(g7,pw s),(w.heap.size+1+1,#[.int .u64 0,.int .u64 0,.int .u64 0,.int .u64 0]),(w.heap.size+1,pw b),(w.heap.size,pw a)]) (by kernel_rfl) (by kernel_rfl) (HC.out.drew) ?_;simp only[List.take_succ_cons,List.take_zero,List.drop_succ_cons,List.drop_zero]
  with_reducible refine q_load 24 (.tmp 7) (.pointer (some ⟨g7,0,none⟩)) (.agg (pw s)) rfl (by kernel_rfl) (by kernel_rfl) (fun _ c=>ld_pw (c.is _ _ (by simp))) ?_
  with_reducible refine q_val (.pointer (some ⟨G,0,none⟩)) (by kernel_rfl) (fun _ _=>by kernel_rfl) ?_
  with_reducible refine q_val (.pointer (some ⟨G,0,none⟩)) (by kernel_rfl) (fun _ _=>run_nil (.tmp 25) _ rfl (by kernel_rfl)) ?_
  with_reducible refine q_sem2 (Instr.fieldAt 83 (.pointer (some ⟨G,0,none⟩)) 0) (.pointer (some ⟨G,0,none⟩)) (by kernel_rfl) (by kernel_rfl) (fun w' _=>(rf_at G w').1) ?_
  with_reducible refine q_load 24 (.tmp 27) (.pointer (some ⟨G,0,none⟩)) (.agg (pw m)) rfl (by kernel_rfl) (by kernel_rfl) (fun _ c=>ld_rm c.fld) ?_
  with_reducible refine q_call 57 #[.agg (pw s),.agg (pw m)] (.agg (pw y)) (by kernel_rfl) (fun _=>by kernel_rfl) (CRf.calls HMI.out) ?_
  with_reducible refine wpQuiet_nil ?_
  intro wx hC;have HC2:=Lib.hid hC;clear hC HC HMI;simp only[Act.put,List.setIfInBounds_toArray,List.set_cons_succ,List.set_cons_zero]
  go_wp2_with (refine wpList_store_row rfl 24 _ _ rfl (w.heap.size+1+1) (pw y) rfl rfl 24 (#[.int .u64 0,.int .u64 0,.int .u64 0,.int .u64 0]) (by exact HC2.out.is _ _ (by simp)) (by rw[pw_size];exact infoW4) (by first | rfl | (rw[pw_size];rfl) | (rw[pw_size,pw_size])) (pw_one _) ?_)
  (try simp only[Act.put])
  refine bodyPost_ret (v:=.agg (pw y)) (results_cell_row (p:=6) rfl _ _ (w.heap.size+1+1) 24 (pw y) (0,0) _ rfl (setRow_heap _ _ _ _ _ _ (by exact HC2.out.is _ (#[.int .u64 0,.int .u64 0,.int .u64 0,.int .u64 0]) (by simp))) Tryz.underlying24 rfl (by rw[pw_size];exact infoW4)) rfl ⟨by rw[HQ.out],below_setRow HC2.out.old (by omega) _⟩
 ·rw[decide_eq_false ho]at HPL
  by_cases hq:m<=s
  ·rw[decide_eq_true hq]at HMO
   have HQ:=Lib.hid (HR.out (.inr hq));clear HR HR2 ho hq;go_enter Tryz.func39,Tryz.ntmps39
   go_wp2_with (first | (refine wpList_ld rfl 24 _ rfl (.pointer (some ⟨w.heap.size,0,none⟩)) (.agg (pw a)) rfl (ld_pw (by exact H0.out.is _ _ (by simp))) ?_) | (refine wpList_ld rfl 24 _ rfl (.pointer (some ⟨w.heap.size+1,0,none⟩)) (.agg (pw b)) rfl (ld_pw (by exact H0.out.is _ _ (by simp))) ?_))
   refine(HPL.out _).mono ?_;rintro e w1 ⟨rfl,hb1⟩;have H1:=Lib.hid ((H0.out.below hb1).lay (pw s));have G1:=Lib.hid (heap_alloc_new w1 (.cells (#[.int .u64 0,.int .u64 0,.int .u64 0,.int .u64 0]) 24));clear hb1 H0 HPL
   go_upto_region 2 with(refine wpList_store_row rfl 24 _ _ rfl w1.heap.size (pw s) rfl rfl 24 (#[.int .u64 0,.int .u64 0,.int .u64 0,.int .u64 0]) (by exact G1.out) (by rw[pw_size];exact infoW4) (by rw[pw_size];rfl) (pw_one _) ?_)
   obtain⟨w2,hw2⟩:∃ w2,(w1.alloc (.cells (#[.int .u64 0,.int .u64 0,.int .u64 0,.int .u64 0]) 24)).setRow w1.heap.size (pw s)=w2:=⟨_,rfl⟩
   obtain⟨g7,hg7⟩:∃ g7,w1.heap.size=g7:=⟨_,rfl⟩
   rw[hw2,hg7]at H1;rw[hw2,hg7];clear hw2 hg7 G1;refine wp_region_quiet (C:=CRf w G m lo sq [(g7,pw s),(w.heap.size+1+1,#[.int .u64 0,.int .u64 0,.int .u64 0,.int .u64 0]),(w.heap.size+1,pw b),(w.heap.size,pw a)]) (by kernel_rfl) (by kernel_rfl) (H1.out.drew) ?_;simp only
   with_reducible refine q_val (.bool false) (by kernel_rfl) (fun _ _=>by kernel_rfl) ?_
   with_reducible refine q_val (.bool false) (by kernel_rfl) (fun _ _=>by kernel_rfl) ?_
   with_reducible refine q_load 24 (.tmp 7) (.pointer (some ⟨g7,0,none⟩)) (.agg (pw s)) rfl (by kernel_rfl) (by kernel_rfl) (fun _ c=>ld_pw (c.is _ _ (by simp))) ?_
   with_reducible refine q_val (.pointer (some ⟨G,0,none⟩)) (by kernel_rfl) (fun _ _=>by kernel_rfl) ?_
   with_reducible refine q_val (.pointer (some ⟨G,0,none⟩)) (by kernel_rfl) (fun _ _=>run_nil (.tmp 18) _ rfl (by kernel_rfl)) ?_
   with_reducible refine q_sem2 (Instr.fieldAt 83 (.pointer (some ⟨G,0,none⟩)) 0) (.pointer (some ⟨G,0,none⟩)) (by kernel_rfl) (by kernel_rfl) (fun w' _=>(rf_at G w').1) ?_
   with_reducible refine q_load 24 (.tmp 20) (.pointer (some ⟨G,0,none⟩)) (.agg (pw m)) rfl (by kernel_rfl) (by kernel_rfl) (fun _ c=>ld_rm c.fld) ?_
   with_reducible refine q_call 56 #[.agg (pw s),.agg (pw m)] (.bool true) (by kernel_rfl) (fun _=>by kernel_rfl) (CRf.calls HMO.out) ?_
   with_reducible refine q_val (.bool true) (by kernel_rfl) (fun _ _=>by kernel_rfl) ?_
   with_reducible refine wpQuiet_nil ?_
   intro wx hC;have HC:=Lib.hid hC;clear hC H1 HMO;simp only[Act.put,List.setIfInBounds_toArray,List.set_cons_succ,List.set_cons_zero]
   go_wp2_with fail
   refine region_quiet_tail 6 (CRf w G m lo sq [(g7,pw s),(w.heap.size+1+1,#[.int .u64 0,.int .u64 0,.int .u64 0,.int .u64 0]),(w.heap.size+1,pw b),(w.heap.size,pw a)]) (by kernel_rfl) (by kernel_rfl) (HC.out.drew) ?_;simp only[List.take_succ_cons,List.take_zero,List.drop_succ_cons,List.drop_zero]
   with_reducible refine q_load 24 (.tmp 7) (.pointer (some ⟨g7,0,none⟩)) (.agg (pw s)) rfl (by kernel_rfl) (by kernel_rfl) (fun _ c=>ld_pw (c.is _ _ (by simp))) ?_
   with_reducible refine q_val (.pointer (some ⟨G,0,none⟩)) (by kernel_rfl) (fun _ _=>by kernel_rfl) ?_
   with_reducible refine q_val (.pointer (some ⟨G,0,none⟩)) (by kernel_rfl) (fun _ _=>run_nil (.tmp 25) _ rfl (by kernel_rfl)) ?_
   with_reducible refine q_sem2 (Instr.fieldAt 83 (.pointer (some ⟨G,0,none⟩)) 0) (.pointer (some ⟨G,0,none⟩)) (by kernel_rfl) (by kernel_rfl) (fun w' _=>(rf_at G w').1) ?_
   with_reducible refine q_load 24 (.tmp 27) (.pointer (some ⟨G,0,none⟩)) (.agg (pw m)) rfl (by kernel_rfl) (by kernel_rfl) (fun _ c=>ld_rm c.fld) ?_
   with_reducible refine q_call 57 #[.agg (pw s),.agg (pw m)] (.agg (pw y)) (by kernel_rfl) (fun _=>by kernel_rfl) (CRf.calls HMI.out) ?_
   with_reducible refine wpQuiet_nil ?_
   intro wx hC;have HC2:=Lib.hid hC;clear hC HC HMI;simp only[Act.put,List.setIfInBounds_toArray,List.set_cons_succ,List.set_cons_zero]
   go_wp2_with (refine wpList_store_row rfl 24 _ _ rfl (w.heap.size+1+1) (pw y) rfl rfl 24 (#[.int .u64 0,.int .u64 0,.int .u64 0,.int .u64 0]) (by exact HC2.out.is _ _ (by simp)) (by rw[pw_size];exact infoW4) (by first | rfl | (rw[pw_size];rfl) | (rw[pw_size,pw_size])) (pw_one _) ?_)
   (try simp only[Act.put])
   refine bodyPost_ret (v:=.agg (pw y)) (results_cell_row (p:=6) rfl _ _ (w.heap.size+1+1) 24 (pw y) (0,0) _ rfl (setRow_heap _ _ _ _ _ _ (by exact HC2.out.is _ (#[.int .u64 0,.int .u64 0,.int .u64 0,.int .u64 0]) (by simp))) Tryz.underlying24 rfl (by rw[pw_size];exact infoW4)) rfl ⟨by rw[HQ.out],below_setRow HC2.out.old (by omega) _⟩
  ·rw[decide_eq_false hq]at HMO
   have HQ:=Lib.hid (HR2.out ho hq);clear HR HR2 ho hq HMI;go_enter Tryz.func39,Tryz.ntmps39
   go_wp2_with (first | (refine wpList_ld rfl 24 _ rfl (.pointer (some ⟨w.heap.size,0,none⟩)) (.agg (pw a)) rfl (ld_pw (by exact H0.out.is _ _ (by simp))) ?_) | (refine wpList_ld rfl 24 _ rfl (.pointer (some ⟨w.heap.size+1,0,none⟩)) (.agg (pw b)) rfl (ld_pw (by exact H0.out.is _ _ (by simp))) ?_))
   refine(HPL.out _).mono ?_;rintro e w1 ⟨rfl,hb1⟩;have H1:=Lib.hid ((H0.out.below hb1).lay (pw s));have G1:=Lib.hid (heap_alloc_new w1 (.cells (#[.int .u64 0,.int .u64 0,.int .u64 0,.int .u64 0]) 24));clear hb1 H0 HPL
   go_upto_region 2 with(refine wpList_store_row rfl 24 _ _ rfl w1.heap.size (pw s) rfl rfl 24 (#[.int .u64 0,.int .u64 0,.int .u64 0,.int .u64 0]) (by exact G1.out) (by rw[pw_size];exact infoW4) (by rw[pw_size];rfl) (pw_one _) ?_)
   obtain⟨w2,hw2⟩:∃ w2,(w1.alloc (.cells (#[.int .u64 0,.int .u64 0,.int .u64 0,.int .u64 0]) 24)).setRow w1.heap.size (pw s)=w2:=⟨_,rfl⟩
   obtain⟨g7,hg7⟩:∃ g7,w1.heap.size=g7:=⟨_,rfl⟩
   rw[hw2,hg7]at H1;rw[hw2,hg7];clear hw2 hg7 G1;refine wp_region_quiet (C:=CRf w G m lo sq [(g7,pw s),(w.heap.size+1+1,#[.int .u64 0,.int .u64 0,.int .u64 0,.int .u64 0]),(w.heap.size+1,pw b),(w.heap.size,pw a)]) (by kernel_rfl) (by kernel_rfl) (H1.out.drew) ?_;simp only
   with_reducible refine q_val (.bool false) (by kernel_rfl) (fun _ _=>by kernel_rfl) ?_
   with_reducible refine q_val (.bool false) (by kernel_rfl) (fun _ _=>by kernel_rfl) ?_
   with_reducible refine q_load 24 (.tmp 7) (.pointer (some ⟨g7,0,none⟩)) (.agg (pw s)) rfl (by kernel_rfl) (by kernel_rfl) (fun _ c=>ld_pw (c.is _ _ (by simp))) ?_
   with_reducible refine q_val (.pointer (some ⟨G,0,none⟩)) (by kernel_rfl) (fun _ _=>by kernel_rfl) ?_
   with_reducible refine q_val (.pointer (some ⟨G,0,none⟩)) (by kernel_rfl) (fun _ _=>run_nil (.tmp 18) _ rfl (by kernel_rfl)) ?_
   with_reducible refine q_sem2 (Instr.fieldAt 83 (.pointer (some ⟨G,0,none⟩)) 0) (.pointer (some ⟨G,0,none⟩)) (by kernel_rfl) (by kernel_rfl) (fun w' _=>(rf_at G w').1) ?_
   with_reducible refine q_load 24 (.tmp 20) (.pointer (some ⟨G,0,none⟩)) (.agg (pw m)) rfl (by kernel_rfl) (by kernel_rfl) (fun _ c=>ld_rm c.fld) ?_
   with_reducible refine q_call 56 #[.agg (pw s),.agg (pw m)] (.bool false) (by kernel_rfl) (fun _=>by kernel_rfl) (CRf.calls HMO.out) ?_
   with_reducible refine q_val (.bool false) (by kernel_rfl) (fun _ _=>by kernel_rfl) ?_
   with_reducible refine wpQuiet_nil ?_
   intro wx hC;have HC:=Lib.hid hC;clear hC H1 HMO;simp only[Act.put,List.setIfInBounds_toArray,List.set_cons_succ,List.set_cons_zero]
   go_wp2_with (first | (refine wpList_ld rfl 24 _ rfl (.pointer (some ⟨g7,0,none⟩)) (.agg (pw s)) rfl (ld_pw (by exact HC.out.is _ _ (by simp))) ?_) | (refine wpList_store_row rfl 24 _ _ rfl (w.heap.size+1+1) (pw s) rfl rfl 24 (#[.int .u64 0,.int .u64 0,.int .u64 0,.int .u64 0]) (by exact HC.out.is _ _ (by simp)) (by rw[pw_size];exact infoW4) (by first | rfl | (rw[pw_size];rfl) | (rw[pw_size,pw_size])) (pw_one _) ?_))
   (try simp only[Act.put])
   refine bodyPost_ret (v:=.agg (pw s)) (results_cell_row (p:=6) rfl _ _ (w.heap.size+1+1) 24 (pw s) (0,0) _ rfl (setRow_heap _ _ _ _ _ _ (by exact HC.out.is _ (#[.int .u64 0,.int .u64 0,.int .u64 0,.int .u64 0]) (by simp))) Tryz.underlying24 rfl (by rw[pw_size];exact infoW4)) rfl ⟨by rw[HQ.out],below_setRow HC.out.old (by omega) _⟩
theorem radd_any(G m lo sq a b:Nat)(hal:a<m)(hbl:b<m)(hm:m<2^256)(w:World)(hF:RFat w G m lo sq):Calls Tryz.prog 39 #[(.pointer (some ⟨G,0,none⟩)),.agg (pw a),.agg (pw b)] w fun e w'=>e=.returned (.agg (pw ((a+b)%m)))/\Below w.heap.size w w':=by
 have h:=radd_w G m lo sq a b (Nat.lt_trans hal hm) (Nat.lt_trans hbl hm) hm w hF;rw[rA_eq hal hbl hm]at h;exact h
open Go.RowKit
theorem arr_litS(t:Array Value):t=((List.range t.size).map fun i=>t.getD i undef).toArray:=by
 apply Array.ext
 ·simp
 ·intro i h1 h2
  simp[h1]
theorem rsub_w(G m lo sq a b:Nat)(hal:a<2^256)(hbl:b<2^256)(hm:m<2^256)(w:World)(hF:RFat w G m lo sq):Calls Tryz.prog 35 #[(.pointer (some ⟨G,0,none⟩)),.agg (pw a),.agg (pw b)] w fun e w'=>e=.returned (.agg (pw (rS m a b)))/\Below w.heap.size w w':=by
 have H0:=Lib.hid (CRf.two hF a b);have HMO:=Lib.hid (fun wx=>moreW_any a b (by omega) (by omega) wx);have HMI:=Lib.hid (fun wx=>minusW_any a b (by omega) (by omega) wx);by_cases hq:b<=a
 ·have HQ:=Lib.hid (show pw (a+2^256 - b)=pw (rS m a b) from by
   unfold rS;rw[if_pos hq,pw_modn])
  rw[decide_eq_true hq]at HMO;obtain⟨y,hy⟩:∃ y,a+2^256 - b=y:=⟨_,rfl⟩
  rw[hy]at HMI HQ;obtain⟨z,hz⟩:∃ z,pw (rS m a b)=z:=⟨_,rfl⟩
  rw[hz]at HQ |-
  clear hF hal hbl hm hq hy hz;go_enter Tryz.func35,Tryz.ntmps35
  go_wp2_with (first | (refine wpList_ld rfl 24 _ rfl (.pointer (some ⟨w.heap.size,0,none⟩)) (.agg (pw a)) rfl (ld_pw (by exact H0.out.is _ _ (by simp))) ?_) | (refine wpList_ld rfl 24 _ rfl (.pointer (some ⟨w.heap.size+1,0,none⟩)) (.agg (pw b)) rfl (ld_pw (by exact H0.out.is _ _ (by simp))) ?_))
  refine(HMO.out _).mono ?_;rintro e w1 ⟨rfl,hb1⟩;have H1:=Lib.hid (H0.out.below hb1);clear hb1 H0 HMO
  go_wp2_with (first | (refine wpList_ld rfl 24 _ rfl (.pointer (some ⟨w.heap.size,0,none⟩)) (.agg (pw a)) rfl (ld_pw (by exact H1.out.is _ _ (by simp))) ?_) | (refine wpList_ld rfl 24 _ rfl (.pointer (some ⟨w.heap.size+1,0,none⟩)) (.agg (pw b)) rfl (ld_pw (by exact H1.out.is _ _ (by simp))) ?_))
  refine(HMI.out _).mono ?_;rintro e w2 ⟨rfl,hb2⟩;have H2:=Lib.hid (H1.out.below hb2);clear hb2 H1 HMI
  go_wp2_with (refine wpList_store_row rfl 24 _ _ rfl (w.heap.size+1+1) (pw y) rfl rfl 24 (#[.int .u64 0,.int .u64 0,.int .u64 0,.int .u64 0]) (by exact H2.out.is _ _ (by simp)) (by rw[pw_size];exact infoW4) (by first | rfl | (rw[pw_size];rfl) | (rw[pw_size,pw_size])) (pw_one _) ?_)
  (try simp only[Act.put])
  refine bodyPost_ret (v:=.agg (pw y)) (results_cell_row (p:=6) rfl _ _ (w.heap.size+1+1) 24 (pw y) (0,0) _ rfl (setRow_heap _ _ _ _ _ _ (by exact H2.out.is _ (#[.int .u64 0,.int .u64 0,.int .u64 0,.int .u64 0]) (by simp))) Tryz.underlying24 rfl (by rw[pw_size];exact infoW4)) rfl ⟨by rw[HQ.out],below_setRow H2.out.old (by omega) _⟩
 ·have hd:a+2^256 - b<2^256:=by omega
  have HPL:=Lib.hid (fun wx=>plusW_any (a+2^256 - b) m hd hm wx);have HQ:=Lib.hid (show pw (a+2^256 - b+m)=pw (rS m a b) from by
   unfold rS;rw[if_neg hq,pw_modn])
  rw[decide_eq_false hq]at HMO;obtain⟨d,hd2⟩:∃ d,a+2^256 - b=d:=⟨_,rfl⟩
  rw[hd2]at HMI HPL HQ;obtain⟨y,hy⟩:∃ y,d+m=y:=⟨_,rfl⟩
  obtain⟨ov,hov⟩:∃ ov,decide (2^256<=d+m)=ov:=⟨_,rfl⟩
  rw[hov,hy]at HPL;rw[hy]at HQ;obtain⟨z,hz⟩:∃ z,pw (rS m a b)=z:=⟨_,rfl⟩
  rw[hz]at HQ |-
  clear hF hal hbl hm hq hy hz hd hd2 hov;go_enter Tryz.func35,Tryz.ntmps35
  go_wp2_with (first | (refine wpList_ld rfl 24 _ rfl (.pointer (some ⟨w.heap.size,0,none⟩)) (.agg (pw a)) rfl (ld_pw (by exact H0.out.is _ _ (by simp))) ?_) | (refine wpList_ld rfl 24 _ rfl (.pointer (some ⟨w.heap.size+1,0,none⟩)) (.agg (pw b)) rfl (ld_pw (by exact H0.out.is _ _ (by simp))) ?_))
  refine(HMO.out _).mono ?_;rintro e w1 ⟨rfl,hb1⟩;have H1:=Lib.hid (H0.out.below hb1);clear hb1 H0 HMO
  go_wp2_with fail
  refine region_many [.val 16 ((.agg (pw a))),.val 17 ((.agg (pw b))),.val 18 ((.agg (pw d))),.val 19 ((.pointer (some ⟨G,0,none⟩))),.val 20 ((.pointer (some ⟨G,0,none⟩))),.val 21 ((.pointer (some ⟨G,0,none⟩))),.val 22 ((.agg (pw m))),.val 23 ((.tuple #[.agg (pw y),.bool ov])),.val 15 ((.tuple #[.agg (pw y),.bool ov])),.val 24 ((.agg (pw y))),.val 25 ((.bool ov)),.blk 7 24,.laid 7 24,.val 8 ((.bool ov))] [7] (fun p=>pw y) (fun i=>i) (by kernel_rfl) (by kernel_rfl) (by exact⟨trivial,trivial,trivial,trivial,trivial,trivial,trivial,trivial,trivial,trivial,trivial,(by simp[Sp.ok]),(by simp[Sp.ok]),trivial,trivial⟩) (by intro p hp q hq hne;simp only[List.mem_cons,List.not_mem_nil,or_false]at hp hq;exact absurd (hp.trans hq.symm) hne) ?_ ?_
  ·refine⟨?_,?_,?_,?_,?_,?_,?_,?_,?_,?_,?_,?_,?_,?_,trivial⟩
   ·intro ac wx hC hsz hK
    have h0:ac.tmps.getD 4 undef=(.pointer (some ⟨w.heap.size,0,none⟩)):=hK.1 4 (by kernel_rfl);exact mm_load 24 (.tmp 4) ((.pointer (some ⟨w.heap.size,0,none⟩))) ((.agg (pw a))) rfl rfl (by kernel_rfl) h0 (ld_pw ((H1.out.below hC.1).is _ _ (by simp))) hC (by kernel_rfl) (by rw[hsz];exact of_decide_eq_true (by kernel_rfl)) rfl
   ·intro ac wx hC hsz hK
    have h0:ac.tmps.getD 5 undef=(.pointer (some ⟨w.heap.size+1,0,none⟩)):=hK.1 5 (by kernel_rfl);exact mm_load 24 (.tmp 5) ((.pointer (some ⟨w.heap.size+1,0,none⟩))) ((.agg (pw b))) rfl rfl (by kernel_rfl) h0 (ld_pw ((H1.out.below hC.1).is _ _ (by simp))) hC (by kernel_rfl) (by rw[hsz];exact of_decide_eq_true (by kernel_rfl)) rfl
   ·intro ac wx hC hsz hK
    have h0:ac.tmps.getD 16 undef=(.agg (pw a)):=hK.2 ⟨0,.data⟩ (by simp) rfl _ rfl;have h1:ac.tmps.getD 17 undef=(.agg (pw b)):=hK.2 ⟨1,.data⟩ (by simp) rfl _ rfl;refine mm_call 57 #[ac.tmps.getD 16 undef,ac.tmps.getD 17 undef] ((.agg (pw d))) rfl (by kernel_rfl) (by kernel_rfl) ?_ hC (by kernel_rfl) (by rw[hsz];exact of_decide_eq_true (by kernel_rfl)) rfl;rw[h0,h1];exact HMI.out wx
   ·intro ac wx hC hsz hK
    have h0:ac.tmps.getD 0 undef=(.pointer (some ⟨G,0,none⟩)):=hK.1 0 (by kernel_rfl);exact mm_val ((.pointer (some ⟨G,0,none⟩))) rfl (by kernel_rfl) (by rw[<- h0];kernel_rfl) hC (by kernel_rfl) (by rw[hsz];exact of_decide_eq_true (by kernel_rfl)) rfl
   ·intro ac wx hC hsz hK
    have h0:ac.tmps.getD 19 undef=(.pointer (some ⟨G,0,none⟩)):=hK.2 ⟨3,.data⟩ (by simp) rfl _ rfl;exact mm_val ((.pointer (some ⟨G,0,none⟩))) rfl (by kernel_rfl) (run_nil (.tmp 19) _ rfl h0) hC (by kernel_rfl) (by rw[hsz];exact of_decide_eq_true (by kernel_rfl)) rfl
   ·intro ac wx hC hsz hK
    have h0:ac.tmps.getD 20 undef=(.pointer (some ⟨G,0,none⟩)):=hK.2 ⟨4,.data⟩ (by simp) rfl _ rfl;refine mm_sem (Instr.fieldAt 83 (ac.tmps.getD 20 undef) 0) ((.pointer (some ⟨G,0,none⟩))) rfl (by kernel_rfl) (by kernel_rfl) ?_ hC (by kernel_rfl) (by rw[hsz];exact of_decide_eq_true (by kernel_rfl)) rfl;rw[h0];exact(rf_at G wx).1
   ·intro ac wx hC hsz hK
    have h0:ac.tmps.getD 21 undef=(.pointer (some ⟨G,0,none⟩)):=hK.2 ⟨5,.data⟩ (by simp) rfl _ rfl;exact mm_load 24 (.tmp 21) ((.pointer (some ⟨G,0,none⟩))) ((.agg (pw m))) rfl rfl (by kernel_rfl) h0 (ld_rm (H1.out.below hC.1).fld) hC (by kernel_rfl) (by rw[hsz];exact of_decide_eq_true (by kernel_rfl)) rfl
   ·intro ac wx hC hsz hK
    have h0:ac.tmps.getD 18 undef=(.agg (pw d)):=hK.2 ⟨2,.data⟩ (by simp) rfl _ rfl;have h1:ac.tmps.getD 22 undef=(.agg (pw m)):=hK.2 ⟨6,.data⟩ (by simp) rfl _ rfl;refine mm_call 58 #[ac.tmps.getD 18 undef,ac.tmps.getD 22 undef] ((.tuple #[.agg (pw y),.bool ov])) rfl (by kernel_rfl) (by kernel_rfl) ?_ hC (by kernel_rfl) (by rw[hsz];exact of_decide_eq_true (by kernel_rfl)) rfl;rw[h0,h1];exact HPL.out wx
   ·intro ac wx hC hsz hK
    have h0:ac.tmps.getD 23 undef=(.tuple #[.agg (pw y),.bool ov]):=hK.2 ⟨7,.data⟩ (by simp) rfl _ rfl;exact mm_val ((.tuple #[.agg (pw y),.bool ov])) rfl (by kernel_rfl) (by rw[<- h0];kernel_rfl) hC (by kernel_rfl) (by rw[hsz];exact of_decide_eq_true (by kernel_rfl)) rfl
   ·intro ac wx hC hsz hK
    have h0:ac.tmps.getD 15 undef=(.tuple #[.agg (pw y),.bool ov]):=hK.2 ⟨8,.data⟩ (by simp) rfl _ rfl;refine mm_sem (Instr.extract (ac.tmps.getD 15 undef) 0) ((.agg (pw y))) rfl (by kernel_rfl) (by kernel_rfl) ?_ hC (by kernel_rfl) (by rw[hsz];exact of_decide_eq_true (by kernel_rfl)) rfl;rw[h0];exact(by kernel_rfl)
   ·intro ac wx hC hsz hK
    have h0:ac.tmps.getD 15 undef=(.tuple #[.agg (pw y),.bool ov]):=hK.2 ⟨8,.data⟩ (by simp) rfl _ rfl;refine mm_sem (Instr.extract (ac.tmps.getD 15 undef) 1) ((.bool ov)) rfl (by kernel_rfl) (by kernel_rfl) ?_ hC (by kernel_rfl) (by rw[hsz];exact of_decide_eq_true (by kernel_rfl)) rfl;rw[h0];exact(by kernel_rfl)
   ·intro ac wx hC hsz hK
    exact mm_new 24 (#[.int .u64 0,.int .u64 0,.int .u64 0,.int .u64 0]) rfl (by kernel_rfl) (by kernel_rfl) hC (by rw[pw_size];rfl) (by rw[hsz];exact of_decide_eq_true (by kernel_rfl)) rfl
   ·intro ac wx hC hsz hK
    have h0:ac.tmps.getD 24 undef=(.agg (pw y)):=hK.2 ⟨9,.data⟩ (by simp) rfl _ rfl;exact mm_store (p:=7) 24 (.tmp 7) (.tmp 24) _ rfl rfl (by kernel_rfl) rfl h0 (by simp) (hK.2 ⟨11,.data⟩ (by simp) rfl _ rfl) (fun D cs h3 h4=>store_w (h4.trans (pw_size _)) h3) hC rfl
   ·intro ac wx hC hsz hK
    have h0:ac.tmps.getD 25 undef=(.bool ov):=hK.2 ⟨10,.data⟩ (by simp) rfl _ rfl;exact mm_val ((.bool ov)) rfl (by kernel_rfl) (by rw[<- h0];kernel_rfl) hC (by kernel_rfl) (by rw[hsz];exact of_decide_eq_true (by kernel_rfl)) rfl
  intro f1 w5 hb5 hap hf5;obtain⟨D7,s7,-,r7⟩:=hf5 12 _ rfl;have H5:=Lib.hid ((H1.out.below hb5).cons r7);clear hf5 hap hb5 H1 HMI HPL r7;generalize hAct:putAll _ _ _=A1 at *;have s7':A1.tmps.getD 7 undef=.pointer (some ⟨D7,0,none⟩):=s7;have s6:A1.tmps.getD 6 undef=.pointer (some ⟨w.heap.size+1+1,0,none⟩):=by subst hAct;kernel_rfl
  have hsz:A1.tmps.size=27:=by rw[<- hAct,putAll_size];rfl
  have hdf:A1.defers=[]:=by subst hAct;kernel_rfl
  clear hAct s7 f1;obtain⟨u0,t0⟩:∃ u,A1.tmps.getD 0 undef=u:=⟨_,rfl⟩
  obtain⟨u1,t1⟩:∃ u,A1.tmps.getD 1 undef=u:=⟨_,rfl⟩
  obtain⟨u2,t2⟩:∃ u,A1.tmps.getD 2 undef=u:=⟨_,rfl⟩
  obtain⟨u3,t3⟩:∃ u,A1.tmps.getD 3 undef=u:=⟨_,rfl⟩
  obtain⟨u4,t4⟩:∃ u,A1.tmps.getD 4 undef=u:=⟨_,rfl⟩
  obtain⟨u5,t5⟩:∃ u,A1.tmps.getD 5 undef=u:=⟨_,rfl⟩
  obtain⟨u8,t8⟩:∃ u,A1.tmps.getD 8 undef=u:=⟨_,rfl⟩
  obtain⟨u9,t9⟩:∃ u,A1.tmps.getD 9 undef=u:=⟨_,rfl⟩
  obtain⟨u10,t10⟩:∃ u,A1.tmps.getD 10 undef=u:=⟨_,rfl⟩
  obtain⟨u11,t11⟩:∃ u,A1.tmps.getD 11 undef=u:=⟨_,rfl⟩
  obtain⟨u12,t12⟩:∃ u,A1.tmps.getD 12 undef=u:=⟨_,rfl⟩
  obtain⟨u13,t13⟩:∃ u,A1.tmps.getD 13 undef=u:=⟨_,rfl⟩
  obtain⟨u14,t14⟩:∃ u,A1.tmps.getD 14 undef=u:=⟨_,rfl⟩
  obtain⟨u15,t15⟩:∃ u,A1.tmps.getD 15 undef=u:=⟨_,rfl⟩
  obtain⟨u16,t16⟩:∃ u,A1.tmps.getD 16 undef=u:=⟨_,rfl⟩
  obtain⟨u17,t17⟩:∃ u,A1.tmps.getD 17 undef=u:=⟨_,rfl⟩
  obtain⟨u18,t18⟩:∃ u,A1.tmps.getD 18 undef=u:=⟨_,rfl⟩
  obtain⟨u19,t19⟩:∃ u,A1.tmps.getD 19 undef=u:=⟨_,rfl⟩
  obtain⟨u20,t20⟩:∃ u,A1.tmps.getD 20 undef=u:=⟨_,rfl⟩
  obtain⟨u21,t21⟩:∃ u,A1.tmps.getD 21 undef=u:=⟨_,rfl⟩
  obtain⟨u22,t22⟩:∃ u,A1.tmps.getD 22 undef=u:=⟨_,rfl⟩
  obtain⟨u23,t23⟩:∃ u,A1.tmps.getD 23 undef=u:=⟨_,rfl⟩
  obtain⟨u24,t24⟩:∃ u,A1.tmps.getD 24 undef=u:=⟨_,rfl⟩
  obtain⟨u25,t25⟩:∃ u,A1.tmps.getD 25 undef=u:=⟨_,rfl⟩
  obtain⟨u26,t26⟩:∃ u,A1.tmps.getD 26 undef=u:=⟨_,rfl⟩
  obtain⟨tm,df⟩:=A1;simp only at *;have hLt:=arr_litS tm;rw[hsz]at hLt;simp only[List.range,List.range.loop,List.map]at hLt;rw[t0,t1,t2,t3,t4,t5,s6,s7',t8,t9,t10,t11,t12,t13,t14,t15,t16,t17,t18,t19,t20,t21,t22,t23,t24,t25,t26]at hLt;subst hLt hdf;clear t0 t1 t2 t3 t4 t5 s6 s7' t8 t9 t10 t11 t12 t13 t14 t15 t16 t17 t18 t19 t20 t21 t22 t23 t24 t25 t26 hsz
  go_wp2_with (first | (refine wpList_ld rfl 24 _ rfl (.pointer (some ⟨D7,0,none⟩)) (.agg (pw y)) rfl (ld_pw (by exact H5.out.is _ _ (by simp))) ?_) | (refine wpList_store_row rfl 24 _ _ rfl (w.heap.size+1+1) (pw y) rfl rfl 24 (#[.int .u64 0,.int .u64 0,.int .u64 0,.int .u64 0]) (by exact H5.out.is _ _ (by simp)) (by rw[pw_size];exact infoW4) (by first | rfl | (rw[pw_size];rfl) | (rw[pw_size,pw_size])) (pw_one _) ?_))
  (try simp only[Act.put])
  refine bodyPost_ret (v:=.agg (pw y)) (results_cell_row (p:=6) rfl _ _ (w.heap.size+1+1) 24 (pw y) (0,0) _ rfl (setRow_heap _ _ _ _ _ _ (by exact H5.out.is _ (#[.int .u64 0,.int .u64 0,.int .u64 0,.int .u64 0]) (by simp))) Tryz.underlying24 rfl (by rw[pw_size];exact infoW4)) rfl ⟨by rw[HQ.out],below_setRow H5.out.old (by omega) _⟩
def vq(f:Nat->Nat):Nat->Nat
 | 0=>0
 | n+1=>vq f n+2^(32*n)*f n
theorem vq_congr{f g:Nat->Nat}:∀ {n:Nat},(∀ j,j<n->f j=g j)->vq f n=vq g n
 | 0,_=>rfl
 | n+1,h=>by
  show vq f n+_=vq g n+_;rw[vq_congr (fun j hj=>h j (by omega)),h n (by omega)]
theorem p32(n:Nat):2^(32*(n+1))=2^(32*n)*4294967296:=by rw[show 32*(n+1)=32*n+32 by omega,Nat.pow_add]
theorem vq_lt{f:Nat->Nat}:∀ {n:Nat},(∀ j,j<n->f j<4294967296)->vq f n<2^(32*n)
 | 0,_=>by simp[vq]
 | n+1,h=>by
  have h1:=vq_lt (n:=n) (fun j hj=>h j (by omega));have h2:=Nat.mul_le_mul_left (2^(32*n)) (h n (by omega));rw[Nat.succ_eq_add_one,Nat.mul_add,Nat.mul_one]at h2;show vq f n+_<_;rw[p32];omega
theorem vq_qN(x:Nat):∀ n,vq (qN x) n=x%2^256%2^(32*n)
 | 0=>by simp[vq,Nat.mod_one]
 | n+1=>by
  show vq (qN x) n+_=_;rw[vq_qN x n,p32,Nat.mod_mul];rfl
theorem vq_8{x:Nat}(h:x<2^256):vq (qN x) 8=x:=by
 rw[vq_qN,Nat.mod_eq_of_lt h,Nat.mod_eq_of_lt (Nat.lt_of_lt_of_le h (by decide))]
theorem updN_ge{f:Nat->Nat}{p v n:Nat}(h:n<=p):vq (updN f p v) n=vq f n:=vq_congr fun j hj=>by unfold updN;rw[if_neg (by omega)]
theorem updN_at(f:Nat->Nat)(p v:Nat):updN f p v p=v:=by unfold updN;rw[if_pos rfl]
theorem updN_ne(f:Nat->Nat)(p v:Nat){j:Nat}(h:j≠p):updN f p v j=f j:=by unfold updN;rw[if_neg h]
structure In1 (f0 x:Nat->Nat) (y j c:Nat) (f:Nat->Nat):Prop where
 lo:∀ k,k<j->f k<4294967296
 hi:∀ k,j<=k->f k=f0 k
 eq:vq f j+2^(32*j)*c=vq f0 j+vq x j*y
 cl:c<4294967296
theorem In1.start(f0 x:Nat->Nat)(y:Nat):In1 f0 x y 0 0 f0:=⟨fun k h=>by omega,fun _ _=>rfl,by simp[vq],by omega⟩
theorem In1.big{f0 x:Nat->Nat}{y j c:Nat}{f:Nat->Nat}(h:In1 f0 x y j c f)(h0:f0 j<4294967296)(hx:x j<4294967296)(hy:y<4294967296):x j*y<=4294967295*4294967295/\c+f0 j+x j*y<18446744073709551616:=by
 have h1:x j*y<=4294967295*4294967295:=Nat.mul_le_mul (by omega) (by omega);have:=h.cl;exact⟨h1,by omega⟩
theorem In1.step{f0 x:Nat->Nat}{y j c d:Nat}{f:Nat->Nat}(h:In1 f0 x y j c f)(h0:f0 j<4294967296)(hx:x j<4294967296)(hy:y<4294967296)(hd:c+f0 j+x j*y=d):In1 f0 x y (j+1) (d / 4294967296) (updN f j (d%4294967296)):=by
 have hb:=(h.big h0 hx hy).2;have he:=h.eq;refine⟨fun k hk=>?_,fun k hk=>?_,?_,by omega⟩
 ·by_cases e:k=j
  ·subst e;rw[updN_at];omega
  ·rw[updN_ne _ _ _ e];exact h.lo k (by omega)
 ·rw[updN_ne _ _ _ (by omega)];exact h.hi k (by omega)
 ·show vq (updN f j _) j+2^(32*j)*updN f j _ j+_=vq f0 j+2^(32*j)*f0 j+(vq x j+2^(32*j)*x j)*y
  rw[updN_ge (Nat.le_refl _),updN_at,p32];obtain⟨P,hP⟩:∃ P,2^(32*j)=P:=⟨_,rfl⟩
  rw[hP]at he |-
  have h1:P*(d%4294967296)+P*4294967296*(d / 4294967296)=P*d:=by
   rw[Nat.mul_assoc,<- Nat.mul_add,Nat.mod_add_div]
  have h2:P*d=P*c+P*f0 j+P*(x j*y):=by rw[<- hd,Nat.mul_add,Nat.mul_add]
  have h3:(vq x j+P*x j)*y=vq x j*y+P*(x j*y):=by rw[Nat.add_mul,Nat.mul_assoc]
  omega
structure In2 (f1 p:Nat->Nat) (k i c:Nat) (g:Nat->Nat):Prop where
 lo:∀ a,a<i->g a<4294967296
 hi:∀ a,i<=a->g a=f1 a
 eq:4294967296*(vq g i+2^(32*i)*c)=vq f1 (i+1)+k*vq p (i+1)
 cl:c<4294967296
theorem In2.start{f1 p:Nat->Nat}{k d c:Nat}(hd:f1 0+k*p 0=d)(hm:d%4294967296=0)(hb:d<18446744073709551616)(hc:d / 4294967296=c):In2 f1 p k 0 c f1:=by
 refine⟨fun a h=>by omega,fun _ _=>rfl,?_,by omega⟩;simp only[vq,Nat.mul_zero,Nat.pow_zero,Nat.one_mul,Nat.zero_add];omega
theorem In2.big{f1 p:Nat->Nat}{k i c:Nat}{g:Nat->Nat}(h:In2 f1 p k i c g)(h0:f1 (i+1)<4294967296)(hp:p (i+1)<4294967296)(hk:k<4294967296):k*p (i+1)<=4294967295*4294967295/\c+f1 (i+1)+k*p (i+1)<18446744073709551616:=by
 have h1:k*p (i+1)<=4294967295*4294967295:=Nat.mul_le_mul (by omega) (by omega);have:=h.cl;exact⟨h1,by omega⟩
theorem In2.step{f1 p:Nat->Nat}{k i c d:Nat}{g:Nat->Nat}(h:In2 f1 p k i c g)(h0:f1 (i+1)<4294967296)(hp:p (i+1)<4294967296)(hk:k<4294967296)(hd:c+f1 (i+1)+k*p (i+1)=d):In2 f1 p k (i+1) (d / 4294967296) (updN g i (d%4294967296)):=by
 have hb:=(h.big h0 hp hk).2;have he:=h.eq;refine⟨fun a ha=>?_,fun a ha=>?_,?_,by omega⟩
 ·by_cases e:a=i
  ·subst e;rw[updN_at];omega
  ·rw[updN_ne _ _ _ e];exact h.lo a (by omega)
 ·rw[updN_ne _ _ _ (by omega)];exact h.hi a (by omega)
 ·show 4294967296*(vq (updN g i _) i+2^(32*i)*updN g i _ i+_)=vq f1 (i+1)+2^(32*(i+1))*f1 (i+1)+k*(vq p (i+1)+2^(32*(i+1))*p (i+1))
  rw[updN_ge (Nat.le_refl _),updN_at,p32];obtain⟨P,hP⟩:∃ P,2^(32*i)=P:=⟨_,rfl⟩
  rw[hP]at he |-
  have h1:P*(d%4294967296)+P*4294967296*(d / 4294967296)=P*d:=by
   rw[Nat.mul_assoc,<- Nat.mul_add,Nat.mod_add_div]
  have h2:P*d=P*c+P*f1 (i+1)+P*(k*p (i+1)):=by rw[<- hd,Nat.mul_add,Nat.mul_add]
  have h3:k*(vq p (i+1)+P*4294967296*p (i+1))=k*vq p (i+1)+4294967296*(P*(k*p (i+1))):=by
   rw[Nat.mul_add];congr 1;rw[Nat.mul_comm P 4294967296,Nat.mul_assoc,Nat.mul_left_comm k,Nat.mul_left_comm k]
  have h4:P*4294967296*f1 (i+1)=4294967296*(P*f1 (i+1)):=by rw[Nat.mul_comm P,Nat.mul_assoc]
  omega
structure CutI (m x:Nat) (y:Nat->Nat) (i:Nat) (f:Nat->Nat):Prop where
 lo:∀ j,j<8->f j<4294967296
 lt:vq f 9<x+m
 eq:∃ K,2^(32*i)*vq f 9=x*vq y i+K*m/\K<2^(32*i)
theorem CutI.top{m x i:Nat}{y f:Nat->Nat}(h:CutI m x y i f)(hx:x<2^256)(hm:m<2^256):f 8<=1:=by
 have h1:=h.lt;have h2:vq f 9=vq f 8+2^256*f 8:=rfl;omega
theorem CutI.start{m:Nat}(x:Nat)(y:Nat->Nat)(hm:0<m):CutI m x y 0 (fun _=>0):=by
 have h:∀ n,vq (fun _=>0) n=0:=fun n=>by
  induction n with
  | zero=>rfl
  | succ n ih=>show vq _ n+_=0;rw[ih];simp
 exact⟨fun _ _=>by omega,by rw[h];omega,0,by rw[h];simp[vq],Nat.pow_pos (by omega)⟩
theorem CutI.step{m x i c c2 e e2 k:Nat}{y f f1 g:Nat->Nat}(h:CutI m x y i f)(hx:x<2^256)(hm:m<2^256)(hy:y i<4294967296)(hk:k<4294967296)
  (h1:In1 f (qN x) (y i) 8 c f1) (hd:c+f1 8=e) (h2:In2 (updN (updN f1 8 (e%4294967296)) 9 (e / 4294967296)) (qN m) k 7 c2 g) (he:c2+g 8=e2):CutI m x y (i+1) (updN (updN g 7 (e2%4294967296)) 8 (g 9+e2 / 4294967296)):=by
 obtain⟨K,hK,hKl⟩:=h.eq;have ht:=h.top hx hm;have hl:=h.lt;have e1:=h1.eq;rw[vq_8 hx]at e1;have q2:=h2.eq;rw[vq_8 hm]at q2;obtain⟨F,hF⟩:∃ F,updN (updN f1 8 (e%4294967296)) 9 (e / 4294967296)=F:=⟨_,rfl⟩
 have F8:F 8=e%4294967296:=by rw[<- hF,updN_ne _ _ _ (by omega),updN_at]
 have F9:F 9=e / 4294967296:=by rw[<- hF,updN_at]
 have FV:vq F 8=vq f1 8:=by rw[<- hF,updN_ge (by omega),updN_ge (by omega)]
 rw[hF]at h2 q2;have g8:g 8=F 8:=h2.hi 8 (by omega);have g9:g 9=F 9:=h2.hi 9 (by omega);have f18:f1 8=f 8:=h1.hi 8 (by omega);obtain⟨U,hU⟩:∃ U,updN (updN g 7 (e2%4294967296)) 8 (g 9+e2 / 4294967296)=U:=⟨_,rfl⟩
 have U7:U 7=e2%4294967296:=by rw[<- hU,updN_ne _ _ _ (by omega),updN_at]
 have U8:U 8=g 9+e2 / 4294967296:=by rw[<- hU,updN_at]
 have UV:vq U 7=vq g 7:=by rw[<- hU,updN_ge (by omega),updN_ge (by omega)]
 rw[hU];have d9:vq U 9=vq g 7+2^224*(e2%4294967296)+2^256*(g 9+e2 / 4294967296):=by
  show vq U 7+2^(32*7)*U 7+2^(32*8)*U 8=_;rw[UV,U7,U8]
 have df:vq f 9=vq f 8+2^256*f 8:=rfl;simp only[Nat.reduceMul,Nat.reducePow]at e1 q2 d9;have key:4294967296*vq U 9=vq f 9+x*y i+k*m:=by
  rw[d9,df];rw[FV]at q2;omega
 have a1:x*y i<=x*4294967295:=Nat.mul_le_mul (Nat.le_refl _) (by omega);have a2:k*m<=4294967295*m:=Nat.mul_le_mul (by omega) (Nat.le_refl _);refine⟨fun j hj=>?_,by omega,K+2^(32*i)*k,?_,?_⟩
 ·rw[<- hU,updN_ne _ _ _ (by omega)]
  by_cases q:j=7
  ·subst q;rw[updN_at];omega
  ·rw[updN_ne _ _ _ q];exact h2.lo j (by omega)
 ·show _=x*(vq y i+2^(32*i)*y i)+_
  rw[p32,Nat.mul_assoc,key];obtain⟨P,hP⟩:∃ P,2^(32*i)=P:=⟨_,rfl⟩
  rw[hP]at hK |-
  rw[Nat.mul_add,Nat.mul_add,hK,Nat.mul_add,Nat.add_mul,Nat.mul_left_comm x P,Nat.mul_assoc P k m];omega
 ·rw[p32]
  have hPk:2^(32*i)*k<=2^(32*i)*4294967295:=Nat.mul_le_mul (Nat.le_refl _) (by omega);omega
theorem CutI.done{m x y:Nat}{f:Nat->Nat}(h:CutI m x (qN y) 8 f)(hm:m<2^256)(h1:1<m)(ho:m%2=1)(hy:y<2^256)(hxy:x*y<2^256*m):vq f 9%m=mnt m x y/\vq f 9<2*m:=by
 obtain⟨K,hK,hKl⟩:=h.eq;rw[vq_8 hy]at hK;simp only[Nat.reduceMul,Nat.reducePow]at hK hKl;have hKm:K*m<2^256*m:=Nat.mul_lt_mul_of_pos_right hKl (by omega);refine⟨mnt_uniq ho h1 (Nat.mod_lt _ (by omega)) ?_,by omega⟩;rw[mul_mod_l,Nat.mul_comm,hK,Nat.mul_comm K,Nat.add_mul_mod_self_left]
open Go.RowKit
def hw(f:Nat->Nat)(k p:Nat):Nat:=if 2*p+1<k then f (2*p)+4294967296*f (2*p+1)else if 2*p<k then f (2*p)else 0
theorem hw_zero(f:Nat->Nat):(ar .u64 4 fun j=>((hw f 0 j:Nat):Int))=#[.int .u64 0,.int .u64 0,.int .u64 0,.int .u64 0]:=by kernel_rfl
theorem hw_full(f:Nat->Nat)(hf:∀ j,j<8->f j<4294967296):(ar .u64 4 fun j=>((hw f 8 j:Nat):Int))=pw (vq f 8):=by
 have h0:=hf 0 (by omega);have h1:=hf 1 (by omega);have h2:=hf 2 (by omega);have h3:=hf 3 (by omega);have h4:=hf 4 (by omega);have h5:=hf 5 (by omega);have h6:=hf 6 (by omega);have h7:=hf 7 (by omega);rw[pw_ar];refine ar_congr fun j hj=>?_;have e:vq f 8=f 0+4294967296*f 1+18446744073709551616*f 2+79228162514264337593543950336*f 3+340282366920938463463374607431768211456*f 4+1461501637330902918203684832716283019655932542976*f 5+6277101735386680763835789423207666416102355444464034512896*f 6+26959946667150639794667015087019630673637144422540572481103610249216*f 7:=by
  simp only[vq,Nat.reduceMul,Nat.reducePow];omega
 have:hw f 8 j=pN (vq f 8) j:=by
  unfold hw pN;rw[if_pos (by omega),e];have:j=0\/j=1\/j=2\/j=3:=by omega
  rcases this with rfl | rfl | rfl | rfl <;> simp only[Nat.reduceMul,Nat.reduceAdd,Nat.reducePow] <;> omega
 rw[this]
theorem hw_next(f:Nat->Nat)(k p r:Nat)(hk:k=2*p+r)(hr:r<2)(j:Nat):hw f (k+1) j=if j=p then hw f k p+2^(32*r)*f k else hw f k j:=by
 unfold hw;by_cases e:j=p
 ·subst e
  have:r=0\/r=1:=by omega
  rcases this with rfl | rfl
  ·rw[if_neg (by omega),if_pos (by omega),if_pos rfl,if_neg (by omega),if_neg (by omega)]
   simp at hk;rw[hk];simp
  ·rw[if_pos (by omega),if_pos rfl,if_neg (by omega),if_pos (by omega),hk]
 ·rw[if_neg e]
  by_cases h1:2*j+1<k
  ·rw[if_pos (by omega),if_pos h1]
  ·rw[if_neg h1]
   by_cases h2:2*j<k
   ·rw[if_pos h2,if_neg (by omega),if_pos (by omega)]
   ·rw[if_neg h2,if_neg (by omega),if_neg (by omega)]
theorem hw_low(f:Nat->Nat)(k p r:Nat)(hk:k=2*p+r)(hr:r<2)(hf:∀ j,j<8->f j<4294967296)(h8:k<8):hw f k p<2^(32*r):=by
 unfold hw;have:r=0\/r=1:=by omega
 rcases this with rfl | rfl
 ·rw[if_neg (by omega),if_neg (by omega)];simp
 ·rw[if_neg (by omega),if_pos (by omega)];have:=hf (2*p) (by omega);simpa using this
theorem or_up64{D x s:Nat}(hx:x<4294967296)(hs:s<=32)(hD:D<2^s):bits .or .u64 (D:Int) ((2^s*x:Nat):Int)=((D+2^s*x:Nat):Int)/\IntKind.u64.wrap ((x:Int)*2^s)=((2^s*x:Nat):Int):=by
 have hp:2^s<=2^32:=Nat.pow_le_pow_right (by omega) hs;have h1:2^s*x<=2^32*4294967295:=Nat.mul_le_mul hp (by omega);constructor
 ·rw[bits_or_u64_nat _ _ (by omega) (by omega),Nat.or_comm,<- Nat.two_pow_add_eq_or_of_lt hD,Nat.add_comm]
 ·have e:(x:Int)*2^s=((2^s*x:Nat):Int):=by simp[Int.mul_comm]
  rw[e,IntKind.wrap_u64];omega
structure CWh (w:World) (f:Nat->Nat) (k:Nat) (wx:World):Prop where
 old:Below w.heap.size w wx
 ra:wx.heap[w.heap.size]?=some (.cells (ar .u64 8 fun j=>((f j:Nat):Int)) 81 (0,0))
 rr:wx.heap[w.heap.size+1]?=some (.cells (#[.int .u64 0,.int .u64 0,.int .u64 0,.int .u64 0]) 24 (0,0))
 rp:wx.heap[w.heap.size+1+1]?=some (.cells (ar .u64 4 fun j=>((hw f k j:Nat):Int)) 24 (0,0))
theorem CWh.drew{w wx:World}{f:Nat->Nat}{k:Nat}(c:CWh w f k wx):CWh w f k wx.drew:=⟨c.old.drew,c.ra,c.rr,c.rp⟩
theorem CWh.put{w wx:World}{f:Nat->Nat}{k p r v:Nat}(c:CWh w f k wx)(hk:k=2*p+r)(hr:r<2)(h8:k<8)(hv:v=hw f k p+2^(32*r)*f k):CWh w f (k+1) (wx.setCell ⟨w.heap.size+1+1,p,none⟩ (.int .u64 (v:Nat))):=by
 subst hv;refine⟨c.old.setCell (by simp;omega) _,(heap_setCell_other _ _ _ _ (by simp;omega)).trans c.ra,(heap_setCell_other _ _ _ _ (by simp)).trans c.rr,?_⟩;refine(heap_setCell_same _ _ _ _ _ _ c.rp).trans ?_;rw[ar_set _ _ _ _ _ (by omega)];congr 2;refine ar_congr fun j _=>?_;unfold updI;rw[hw_next f k p r hk hr j];by_cases e:j=p
 ·rw[if_pos e,if_pos e]
 ·rw[if_neg e,if_neg e]
theorem CWh.start(w:World)(f:Nat->Nat):CWh w f 0 (((w.alloc (.cells (ar .u64 8 fun j=>((f j:Nat):Int)) 81)).alloc (.cells (#[.int .u64 0,.int .u64 0,.int .u64 0,.int .u64 0]) 24)).alloc (.cells (#[.int .u64 0,.int .u64 0,.int .u64 0,.int .u64 0]) 24)):=by
 refine⟨(((Below.refl _ _).alloc (Nat.le_refl _) _).alloc (by simp) _).alloc (by simp;omega) _,?_,?_,?_⟩
 ·rw[Below.heap_alloc _ _ _ (by simp;omega),Below.heap_alloc _ _ _ (by simp),heap_alloc_new]
 ·rw[Below.heap_alloc _ _ _ (by simp)]
  have:=heap_alloc_new (w.alloc (.cells (ar .u64 8 fun j=>((f j:Nat):Int)) 81)) (.cells (#[.int .u64 0,.int .u64 0,.int .u64 0,.int .u64 0]) 24);rwa [World.size_alloc]at this
 ·rw[hw_zero]
  have:=heap_alloc_new ((w.alloc (.cells (ar .u64 8 fun j=>((f j:Nat):Int)) 81)).alloc (.cells (#[.int .u64 0,.int .u64 0,.int .u64 0,.int .u64 0]) 24)) (.cells (#[.int .u64 0,.int .u64 0,.int .u64 0,.int .u64 0]) 24);rwa [World.size_alloc,World.size_alloc]at this
theorem rwhole_any(f:Nat->Nat)(hf:∀ j,j<8->f j<4294967296)(w:World):Calls Tryz.prog 80 #[.agg (ar .u64 8 fun j=>((f j:Nat):Int))] w fun e w'=>e=.returned (.agg (pw (vq f 8)))/\Below w.heap.size w w':=by
 have HI:Hid ((Tryz.prog.info? 24).map (·.size)=some (ar .u64 4 fun j=>((hw f 8 j:Nat):Int)).size):=Lib.hid (by rw[ar_size];exact infoW4);have HR:=Lib.hid (CWh.start w f);have HF:=Lib.hid hf;have HE:=Lib.hid (hw_full f hf);clear hf;go_enter Tryz.func80,Tryz.ntmps80
 go_wp2_with fail
 go_loopw [4] (fun iv wr=>∃ k:Nat,k<=8/\iv=.int .i64 k/\Hid (CWh w f k wr)) (fun iv _=>8 - (intOf iv).toNat)
 case atStart=>exact⟨0,by omega,rfl,HR⟩
 case round =>
  obtain⟨k,hk,rfl,H⟩:=hrel;clear HR;have hk0:(0:Int)<=k:=by omega
  have hk1:(k:Int)<=8:=by omega
  by_cases hlt:k<8
  ·obtain⟨p,hp⟩:∃ p:Nat,(k:Int) / 2=(p:Int):=⟨k / 2,by omega⟩
   obtain⟨r,hr⟩:∃ r:Nat,(k:Int)%2=(r:Int):=⟨k%2,by omega⟩
   obtain⟨s,hs⟩:∃ s:Nat,32*(r:Int)=(s:Int):=⟨32*r,by omega⟩
   have hp0:(0:Int)<=p:=by omega
   have hp1:(p:Int)<4:=by omega
   have hs0:(0:Int)<=s:=by omega
   have hs1:(s:Int)<64:=by omega
   have hlt':(k:Int)<8:=by omega
   have hkp:k=2*p+r:=by omega
   have hr2:r<2:=by omega
   have ca:wr.cell? ⟨w.heap.size,k,none⟩=some (.int .u64 (f k:Nat)):=(cell_of_row _ _ k _ _ _ H.out.ra).trans (ar_at _ _ _ _ (by omega));have co:wr.cell? ⟨w.heap.size+1+1,p,none⟩=some (.int .u64 (hw f k p:Nat)):=(cell_of_row _ _ p _ _ _ H.out.rp).trans (ar_at _ _ _ _ (by omega));have fo:wr.frozen? ⟨w.heap.size+1+1,p,none⟩=false:=frozen_of_row wr _ p _ _ H.out.rp;have hlow:=hw_low f k p r hkp hr2 HF.out hlt;have hfk:=HF.out k hlt;rw[show 32*r=s by omega]at hlow;obtain⟨hor,hw1⟩:=or_up64 hfk (show s<=32 by omega) hlow;obtain⟨X,hX⟩:∃ X,2^s*f k=X:=⟨_,rfl⟩
   rw[hX]at hor hw1;have HY:=Lib.hid (show hw f k p+X=hw f k p+2^(32*r)*f k from by rw[<- hX,show 32*r=s by omega]);obtain⟨x,hx⟩:∃ x,f k=x:=⟨_,rfl⟩
   obtain⟨o,ho⟩:∃ o,hw f k p=o:=⟨_,rfl⟩
   rw[hx]at hw1 ca;rw[ho]at co hor;have HV:=Lib.hid hor;have HK:=Lib.hid (And.intro hlt (And.intro hkp (And.intro hr2 ho)));clear hor hfk hlow hX hx ho hkp hr2 hlt hk
   go_wp2_with fail
   go_region
   go_wp2_with fail
   go_roundw
   case rel=>exact⟨k+1,by have:=HK.out.1;omega,by go_num,Lib.hid (by rw[HV.out];exact H.out.drew.put HK.out.2.1 HK.out.2.2.1 HK.out.1 (by rw[<- HY.out,HK.out.2.2.2]))⟩
   case measure=>have:=HK.out.1;simp[intOf];omega
  ·obtain rfl:k=8:=by omega
   go_wp2_with (first | (refine wpList_load_row rfl 24 _ rfl (w.heap.size+1+1) rfl 24 _ (0,0) _ H.out.rp Tryz.underlying24 rfl HI.out ?_) | (refine wpList_store_row rfl 24 _ _ rfl (w.heap.size+1) (ar .u64 4 fun j=>((hw f 8 j:Nat):Int)) rfl rfl 24 _ (by exact H.out.rr) HI.out (by rw[ar_size];rfl) (ar_one _ _ _) ?_))
   refine bodyPost_ret (v:=.agg (ar .u64 4 fun j=>((hw f 8 j:Nat):Int))) (results_cell_row (p:=2) rfl _ _ (w.heap.size+1) 24 _ (0,0) _ rfl (setRow_heap _ _ _ _ _ _ H.out.rr) Tryz.underlying24 rfl HI.out) rfl ⟨by rw[HE.out],below_setRow H.out.old (by omega) _⟩
end Go.Proofs.YtfmpjjhdocejiaaGreat
