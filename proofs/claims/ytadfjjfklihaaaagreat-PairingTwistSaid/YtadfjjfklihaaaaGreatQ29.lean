/- The pairing's curve, the second group: what its functions are called with; shapes. (Cut to what is reached, written closely: PrCW · PrWW · PrTW · PrHW · PrC2.) -/
import Derived.Test.YtadfjjfklihaaaaGreatQ28
import Derived.Test.YtadfjjfklihaaaaGreatP15
set_option linter.all false
set_option maxRecDepth 100000
set_option maxHeartbeats 8000000
namespace Go.Proofs.YtadfjjfklihaaaaGreat
open Go.RowKit
namespace Sy
def dW:SV->Option Nat
 | .w a=>some a
 | _=>none
theorem dW_ok(x:SV)(a:Nat)(h:dW x=some a):x=.w a:=by
 unfold dW at h
 split at h
 ·cases h;rfl
 ·cases h
def shW:Shp Nat:=⟨.w,dW,dW_ok,fun _=>rfl⟩
def cvW(g:Nat):SV:=.ap (.fv 65 g) (.ap (.fv 66 g) (.ap (.fv 67 g) (.ap (.fv 68 g) (.ap (.w 1) (.ap (.w 3) (.ap (.v (.bool false)) .e))))))
theorem cvW_ok:(cvW 0).ok:=⟨trivial,trivial,trivial,trivial,(by decide:(1:Nat)<2^256),(by decide:(3:Nat)<2^256),trivial,trivial⟩
def vcW(F:Nat):Value:=(cvW 0).val fun _=>F
theorem cvW_val(γ:Pl)(k:Nat):(cvW k).val γ=vcW (γ k):=rfl
def conW(ext:Bool)(m:Nat)(f:FuncId)(g:List SV->Option (SV × List Ob)):Con:=⟨f,fun _ M l=>match l with
 | .ap (.fv a k) r::us=>match isF ext m M (.p k 0 0 0),g us with
  | some p,some (x,q)=>some (x,q++(.eq (.ap (.fv a k) r) (cvW k)::p),[])
  | _,_=>none
 | _=>none⟩
theorem conW_ok{P:Program}{ext:Bool}{m:Nat}{γ0:Pl}{w0:World}{f:FuncId}{g:List SV->Option (SV × List Ob)}(hf:FOk ext m γ0 w0)(hc:∀ as_ wx,(callFunc f as_).run P wx=.ok (.enter f as_) wx)
  (h:∀ us r q,g us=some (r,q)->All q->(∀ x∈us,x.ok)->r.ok/\r.lt 0=true/\∀ γ F w,FldAt w F m->Calls P f (vcW F::us.map (·.val γ)).toArray w fun e w'=>e=.returned (r.val γ)/\Below w.heap.size w w'):ConOk P 1 γ0 w0 (conW ext m f g) :=
 .of hc fun n M l r p R hr hp hok=>by
  unfold conW at hr;dsimp only at hr
  split at hr
  ·rename_i a k r1 us
   split at hr
   ·rename_i p' x q hx hq
    cases hr;obtain⟨g1,g2,g3⟩:=h us _ q hq (fun a ha=>hp a (List.mem_append_left _ ha)) fun x hx=>hok x (.tail _ hx);refine⟨rfl,g1,g2,fun γ hγ wx hw hL=>?_⟩;have he:SV.ap (.fv a k) r1=cvW k:=hp _ (List.mem_append_right _ (.head _));obtain⟨F,h1,h2⟩:=isF_at hx (fun a ha=>hp a (List.mem_append_right _ (.tail _ ha))) hf hγ hw hL;have h1':Value.pointer (some ⟨γ k,0+0*0,none⟩)=.pointer (some ⟨F,0,none⟩):=h1;injection h1' with h1'
    injection h1' with h1'
    injection h1' with h1'
    have e2:(SV.ap (.fv a k) r1).val γ=vcW F:=by rw[he,cvW_val,h1']
    have g4:=g3 γ F wx h2;rw[<- e2]at g4;exact g4
   ·cases hr
  ·cases hr
def IsW(m:Nat)(f:FuncId)(g:List SV->Option (SV × List Ob)):Prop:=∀ ext γ0 w0,FOk ext m γ0 w0->ConOk Tryz.prog 1 γ0 w0 (conW ext m f g)
def IsOW(m:Nat)(f:FuncId)(op:Nat->Nat->Nat):Prop:=∀ ext γ0 w0,FOk ext m γ0 w0->ConOk Tryz.prog 1 γ0 w0 (fld2 ext m f op)
def IsJW(m:Nat)(f:FuncId)(op:Nat->Nat × Bool):Prop:=∀ ext γ0 w0,FOk ext m γ0 w0->ConOk Tryz.prog 1 γ0 w0 (fld1 ext m f fun a=>.tu (.w (op a).1) (.b (op a).2))
/-! Places,points. -/
def jSW(T:Nat × Nat × Nat):SV:=.ap (SV.w (T.1)) (.ap (SV.w (T.2.1)) (.ap (SV.w (T.2.2)) .e))
def pSW(P:Nat × Nat × Bool):SV:=.ap (SV.w (P.1)) (.ap (SV.w (P.2.1)) (.ap (.b P.2.2) .e))
def dJW:SV->Option (Nat × Nat × Nat)
 | .ap x (.ap y (.ap z .e))=>match dW x,dW y,dW z with
  | some a,some b,some c=>some (a,b,c)
  | _,_,_=>none
 | _=>none
theorem dJW_ok(x:SV)(T:Nat × Nat × Nat)(h:dJW x=some T):x=jSW T:=by
 unfold dJW at h
 split at h
 ·split at h
  ·rename_i h0 h1 h2
   cases h;rw[dW_ok _ _ h0,dW_ok _ _ h1,dW_ok _ _ h2];rfl
  ·cases h
 ·cases h
def shJW:Shp (Nat × Nat × Nat):=⟨jSW,dJW,dJW_ok,fun _=>rfl⟩
theorem need_sh{p:Prop}{t:Sh}{Q:Post}{L:List Bool->Prop}(hp:p)(h:t.wp Q L):(Sh.need p t).wp Q L:=⟨hp,h⟩
theorem br_sh{b:Bool}{t f:Sh}{Q:Post}{L:List Bool->Prop}(h1:b=true->t.wp Q fun l=>L (true::l))(h2:b=false->f.wp Q fun l=>L (false::l)):(Sh.br b t f).wp Q L:=⟨h1,h2⟩
theorem leaf_sh{r:SV}{Q:Post}{L:List Bool->Prop}(h:Q.leaf r):(Sh.leaf r).wp Q L:=h
theorem loop_sh{d:Nat}{Q:Post}{L:List Bool->Prop}(h:L []):(Sh.loop d).wp Q L:=h
end Sy
open Go.RowKit
namespace Sy
def zJW:Nat × Nat × Nat:=(0,0,0)
def plcW(P:Nat × Nat × Bool):Nat × Nat × Nat:=bif P.2.2 then zJW else (P.1,P.2.1,1)
def zrW(T:Nat × Nat × Nat):Bool:=eqN (T.2.2) (0)
section
variable {A S M:Nat->Nat->Nat} {I:Nat->Nat × Bool}
def blwW(A:Nat->Nat->Nat)(x:Nat):Bool:=eqN (A x 0) (x)
def fitW(A M:Nat->Nat->Nat)(x y:Nat):Bool:=bif (bif blwW A x then blwW A y else false)then eqN (M y y) (A (M (M x x) x) 3)else false
def ptwW(A S M:Nat->Nat->Nat)(T:Nat × Nat × Nat):(Nat × Nat × Nat) × Nat :=
 let d:=A T.2.1 T.2.1
 let mi:=M T.1 (M d d)
 let sq:=M T.1 T.1
 let sl:=A sq (A sq sq)
 let x:=S (M sl sl) (A mi mi)
 ((x,S (M sl (S mi x)) (M d (M T.2.1 (M d d))),M d T.2.2),sl)
def pacW(S M:Nat->Nat->Nat)(T:Nat × Nat × Nat)(x2:Nat):Nat:=S (M x2 (M T.2.2 T.2.2)) T.1
def pupW(S M:Nat->Nat->Nat)(T:Nat × Nat × Nat)(y2:Nat):Nat:=S (M y2 (M (M T.2.2 T.2.2) T.2.2)) T.2.1
def padW(A S M:Nat->Nat->Nat)(T:Nat × Nat × Nat)(x2 y2:Nat):(Nat × Nat × Nat) × Nat :=
 let ac:=pacW S M T x2
 let sl:=pupW S M T y2
 let mi:=M T.1 (M ac ac)
 let th:=M ac (M ac ac)
 let x:=S (M sl sl) (A th (A mi mi))
 ((x,S (M sl (S mi x)) (M T.2.1 th),M T.2.2 ac),sl)
def sameW(S M:Nat->Nat->Nat)(T:Nat × Nat × Nat)(x2 y2:Nat):Bool:=bif eqN (pacW S M T x2) (0)then eqN (pupW S M T y2) (0)else false
def pplW(A S M:Nat->Nat->Nat)(T:Nat × Nat × Nat)(P:Nat × Nat × Bool):(Nat × Nat × Nat) × Nat :=
 bif P.2.2 then (T,0)else bif zrW T then (plcW P,0)else bif sameW S M T P.1 P.2.1 then ptwW A S M T else padW A S M T P.1 P.2.1
def dPW:SV->Option (Nat × Nat × Bool)
 | .ap x (.ap y (.ap (.b n) .e))=>match dW x,dW y with
  | some a,some b=>some (a,b,n)
  | _,_=>none
 | _=>none
theorem dPW_ok(x:SV)(T:Nat × Nat × Bool)(h:dPW x=some T):x=pSW T:=by
 unfold dPW at h
 split at h
 ·split at h
  ·rename_i h0 h1
   cases h;rw[dW_ok _ _ h0,dW_ok _ _ h1];rfl
  ·cases h
 ·cases h
def gNW(op:(Nat)->SV):List SV->Option (SV × List Ob)
 | [xa]=>match dW xa with
  | some a=>some (op a,[])
  | _=>none
 | _=>none
theorem gNW_ok{op:(Nat)->SV}{us:List SV}{r:SV}{q:List Ob}(h:gNW op us=some (r,q)):∃ a,us=[.w a]/\r=op a:=by
 unfold gNW at h
 split at h
 ·split at h
  ·rename_i ha
   cases h;exact⟨_,by rw[dW_ok _ _ ha],rfl⟩
  ·cases h
 ·cases h
def gNNW(op:(Nat)->(Nat)->SV):List SV->Option (SV × List Ob)
 | [xa,xb]=>match dW xa,dW xb with
  | some a,some b=>some (op a b,[])
  | _,_=>none
 | _=>none
theorem gNNW_ok{op:(Nat)->(Nat)->SV}{us:List SV}{r:SV}{q:List Ob}(h:gNNW op us=some (r,q)):∃ a b,us=[.w a,.w b]/\r=op a b:=by
 unfold gNNW at h
 split at h
 ·split at h
  ·rename_i ha hb
   cases h;exact⟨_,_,by rw[dW_ok _ _ ha,dW_ok _ _ hb],rfl⟩
  ·cases h
 ·cases h
def gJW(op:(Nat × Nat × Nat)->SV):List SV->Option (SV × List Ob)
 | [xa]=>match dJW xa with
  | some a=>some (op a,[])
  | _=>none
 | _=>none
theorem gJW_ok{op:(Nat × Nat × Nat)->SV}{us:List SV}{r:SV}{q:List Ob}(h:gJW op us=some (r,q)):∃ a,us=[jSW a]/\r=op a:=by
 unfold gJW at h
 split at h
 ·split at h
  ·rename_i ha
   cases h;exact⟨_,by rw[dJW_ok _ _ ha],rfl⟩
  ·cases h
 ·cases h
def gPW(op:(Nat × Nat × Bool)->SV):List SV->Option (SV × List Ob)
 | [xa]=>match dPW xa with
  | some a=>some (op a,[])
  | _=>none
 | _=>none
theorem gPW_ok{op:(Nat × Nat × Bool)->SV}{us:List SV}{r:SV}{q:List Ob}(h:gPW op us=some (r,q)):∃ a,us=[pSW a]/\r=op a:=by
 unfold gPW at h
 split at h
 ·split at h
  ·rename_i ha
   cases h;exact⟨_,by rw[dPW_ok _ _ ha],rfl⟩
  ·cases h
 ·cases h
def gJPW(op:(Nat × Nat × Nat)->(Nat × Nat × Bool)->SV):List SV->Option (SV × List Ob)
 | [xa,xb]=>match dJW xa,dPW xb with
  | some a,some b=>some (op a b,[])
  | _,_=>none
 | _=>none
theorem gJPW_ok{op:(Nat × Nat × Nat)->(Nat × Nat × Bool)->SV}{us:List SV}{r:SV}{q:List Ob}(h:gJPW op us=some (r,q)):∃ a b,us=[jSW a,pSW b]/\r=op a b:=by
 unfold gJPW at h
 split at h
 ·split at h
  ·rename_i ha hb
   cases h;exact⟨_,_,by rw[dJW_ok _ _ ha,dPW_ok _ _ hb],rfl⟩
  ·cases h
 ·cases h
def gKPW(op:(Nat)->(Nat × Nat × Bool)->SV):List SV->Option (SV × List Ob)
 | [xa,xb]=>match dW xa,dPW xb with
  | some a,some b=>some (op a b,[])
  | _,_=>none
 | _=>none
theorem gKPW_ok{op:(Nat)->(Nat × Nat × Bool)->SV}{us:List SV}{r:SV}{q:List Ob}(h:gKPW op us=some (r,q)):∃ a b,us=[.w a,pSW b]/\r=op a b:=by
 unfold gKPW at h
 split at h
 ·split at h
  ·rename_i ha hb
   cases h;exact⟨_,_,by rw[dW_ok _ _ ha,dPW_ok _ _ hb],rfl⟩
  ·cases h
 ·cases h
def gPPW(op:(Nat × Nat × Bool)->(Nat × Nat × Bool)->SV):List SV->Option (SV × List Ob)
 | [xa,xb]=>match dPW xa,dPW xb with
  | some a,some b=>some (op a b,[])
  | _,_=>none
 | _=>none
theorem gPPW_ok{op:(Nat × Nat × Bool)->(Nat × Nat × Bool)->SV}{us:List SV}{r:SV}{q:List Ob}(h:gPPW op us=some (r,q)):∃ a b,us=[pSW a,pSW b]/\r=op a b:=by
 unfold gPPW at h
 split at h
 ·split at h
  ·rename_i ha hb
   cases h;exact⟨_,_,by rw[dPW_ok _ _ ha,dPW_ok _ _ hb],rfl⟩
  ·cases h
 ·cases h
theorem noneW_is:Is0 75 shJW fun T=>.b (zrW T):=fun _ _ _=>cV1_ok (fun _ _=>by kernel_rfl) (fun _ _=>⟨trivial,rfl⟩) fun T oT w =>
 calls_at (E1_ok (γ0:=o0) (more:=[]) trivial) (by kernel_rfl) (fun _=>0) Tryz.func75 (by kernel_rfl) [jSW T] ⟨⟨oT,rfl⟩,trivial⟩ (by kernel_rfl) (by kernel_rfl) (.leaf (.b (zrW T))) (by kernel_rfl) rfl
theorem plcW_ok{P:Nat × Nat × Bool}(h:(pSW P).ok):(jSW (plcW P)).ok:=by
 unfold plcW;cases P.2.2
 ·exact⟨h.1,h.2.1,(by decide:(1:Nat)<2^256),trivial⟩
 ·exact⟨w0_ok,w0_ok,w0_ok,trivial⟩
theorem belowW_is{m:Nat}(hA:IsOW m 65 A):IsW m 113 (gNW fun a=>SV.b (blwW A a)):=fun _ _ _ hf=>conW_ok hf (fun _ _=>by kernel_rfl) fun us r q hr _ hok=>by
  obtain⟨a,rfl,rfl⟩:=gNW_ok hr;have oa:=hok (.w a) (by simp);have key:=(⟨trivial,rfl⟩:(SV.b (blwW A a)).ok/\(SV.b (blwW A a)).lt 0=true)
  refine⟨key.1,key.2,fun γ F w hF=>?_⟩;simp only[List.map_cons,List.map_nil];rw[val0 (γ:=γ) key.2];rw[val0 (γ:=γ) (x:=.w a) rfl];have h:=calls_at (w0:=w) (V:=(SV.b (blwW A a)).val fun _=>0) (E1_ok (γ0:=fun _=>F) (more:=[fld2 true m 65 A]) ⟨hA _ _ _ (FOk.of hF),trivial⟩) (by kernel_rfl) (fun _=>0) Tryz.func113 (by kernel_rfl) [cvW 0,.w a] ⟨⟨cvW_ok,rfl⟩,⟨oa,rfl⟩,trivial⟩ (by kernel_rfl) (by kernel_rfl)
   (.leaf (.b (blwW A a))) (by kernel_rfl) (leaf_sh (val0 (x:=.b (blwW A a)) rfl))
  exact h
theorem fitW_is{m:Nat}(hA:IsOW m 65 A)(hM:IsOW m 67 M)(hB:IsW m 113 (gNW fun a=>SV.b (blwW A a))):IsW m 74 (gNNW fun a b=>SV.b (fitW A M a b)):=fun _ _ _ hf=>conW_ok hf (fun _ _=>by kernel_rfl) fun us r q hr _ hok=>by
  obtain⟨a,b,rfl,rfl⟩:=gNNW_ok hr;have oa:=hok (.w a) (by simp);have ob:=hok (.w b) (by simp);have key:=(⟨trivial,rfl⟩:(SV.b (fitW A M a b)).ok/\(SV.b (fitW A M a b)).lt 0=true)
  refine⟨key.1,key.2,fun γ F w hF=>?_⟩;simp only[List.map_cons,List.map_nil];rw[val0 (γ:=γ) key.2];rw[val0 (γ:=γ) (x:=.w a) rfl];rw[val0 (γ:=γ) (x:=.w b) rfl];have h:=calls_at (w0:=w) (V:=(SV.b (fitW A M a b)).val fun _=>0) (E1_ok (γ0:=fun _=>F) (more:=[fld2 true m 65 A,fld2 true m 67 M,conW true m 113 (gNW fun a=>SV.b (blwW A a))]) ⟨hA _ _ _ (FOk.of hF),hM _ _ _ (FOk.of hF),hB _ _ _ (FOk.of hF),trivial⟩) (by kernel_rfl) (fun _=>0) Tryz.func74 (by kernel_rfl) [cvW 0,.w a,.w b] ⟨⟨cvW_ok,rfl⟩,⟨oa,rfl⟩,⟨ob,rfl⟩,trivial⟩ (by kernel_rfl) (by kernel_rfl)
   (.leaf (.b (fitW A M a b))) (by kernel_rfl) (leaf_sh (val0 (x:=.b (fitW A M a b)) rfl))
  exact h
theorem placeW_is{m:Nat}:IsW m 71 (gPW fun a=>jSW (plcW a)):=fun _ _ _ hf=>conW_ok hf (fun _ _=>by kernel_rfl) fun us r q hr _ hok=>by
  obtain⟨a,rfl,rfl⟩:=gPW_ok hr;have oa:=hok (pSW a) (by simp);have key:=(⟨plcW_ok oa,rfl⟩:(jSW (plcW a)).ok/\(jSW (plcW a)).lt 0=true)
  refine⟨key.1,key.2,fun γ F w hF=>?_⟩;simp only[List.map_cons,List.map_nil];rw[val0 (γ:=γ) key.2];rw[val0 (γ:=γ) (x:=pSW a) rfl];have h:=calls_at (w0:=w) (V:=(jSW (plcW a)).val fun _=>0) (E1_ok (γ0:=fun _=>F) (more:=[]) trivial) (by kernel_rfl) (fun _=>0) Tryz.func71 (by kernel_rfl) [cvW 0,pSW a] ⟨⟨cvW_ok,rfl⟩,⟨oa,rfl⟩,trivial⟩ (by kernel_rfl) (by kernel_rfl)
   (.br a.2.2 (.leaf (jSW zJW)) (.leaf (jSW (a.1,a.2.1,1)))) (by kernel_rfl) (br_sh (fun h=>leaf_sh (by unfold plcW;rw[h];rfl)) fun h=>leaf_sh (by unfold plcW;rw[h];rfl))
  exact h
theorem twiceW_is{m:Nat}(oA:∀ a b,(A a b)<2^256)(oS:∀ a b,(S a b)<2^256)(oM:∀ a b,(M a b)<2^256)(hA:IsOW m 65 A)(hS:IsOW m 66 S)(hM:IsOW m 67 M):IsW m 111 (gJW fun a=>SV.tu (jSW (ptwW A S M a).1) (SV.w ((ptwW A S M a).2))):=fun _ _ _ hf=>conW_ok hf (fun _ _=>by kernel_rfl) fun us r q hr _ hok=>by
  obtain⟨a,rfl,rfl⟩:=gJW_ok hr;have oa:=hok (jSW a) (by simp);have key:=(⟨⟨⟨oS _ _,oS _ _,oM _ _,trivial⟩,oA _ _⟩,rfl⟩:(SV.tu (jSW (ptwW A S M a).1) (SV.w ((ptwW A S M a).2))).ok/\(SV.tu (jSW (ptwW A S M a).1) (SV.w ((ptwW A S M a).2))).lt 0=true)
  refine⟨key.1,key.2,fun γ F w hF=>?_⟩;simp only[List.map_cons,List.map_nil];rw[val0 (γ:=γ) key.2];rw[val0 (γ:=γ) (x:=jSW a) rfl];have h:=calls_at (w0:=w) (V:=(SV.tu (jSW (ptwW A S M a).1) (SV.w ((ptwW A S M a).2))).val fun _=>0) (E1_ok (γ0:=fun _=>F) (more:=[fld2 true m 65 A,fld2 true m 66 S,fld2 true m 67 M]) ⟨hA _ _ _ (FOk.of hF),hS _ _ _ (FOk.of hF),hM _ _ _ (FOk.of hF),trivial⟩) (by kernel_rfl) (fun _=>0) Tryz.func111 (by kernel_rfl) [cvW 0,jSW a] ⟨⟨cvW_ok,rfl⟩,⟨oa,rfl⟩,trivial⟩ (by kernel_rfl) (by kernel_rfl)
   (.leaf (SV.tu (jSW (ptwW A S M a).1) (SV.w ((ptwW A S M a).2)))) (by kernel_rfl) rfl
  exact h
theorem pplW_ok(oA:∀ a b,(A a b)<2^256)(oS:∀ a b,(S a b)<2^256)(oM:∀ a b,(M a b)<2^256){T:Nat × Nat × Nat}{P:Nat × Nat × Bool}(h:(jSW T).ok)(h':(pSW P).ok):(SV.tu (jSW (pplW A S M T P).1) (SV.w ((pplW A S M T P).2))).ok:=by
 unfold pplW;cases P.2.2
 ·cases zrW T
  ·cases sameW S M T P.1 P.2.1
   ·exact⟨⟨oS _ _,oS _ _,oM _ _,trivial⟩,oS _ _⟩
   ·exact⟨⟨oS _ _,oS _ _,oM _ _,trivial⟩,oA _ _⟩
  ·exact⟨plcW_ok h',w0_ok⟩
 ·exact⟨h,w0_ok⟩
theorem plusW_is{m:Nat}(oA:∀ a b,(A a b)<2^256)(oS:∀ a b,(S a b)<2^256)(oM:∀ a b,(M a b)<2^256)(hA:IsOW m 65 A)(hS:IsOW m 66 S)(hM:IsOW m 67 M)(hT:IsW m 111 (gJW fun a=>SV.tu (jSW (ptwW A S M a).1) (SV.w ((ptwW A S M a).2)))):IsW m 70 (gJPW fun a b=>SV.tu (jSW (pplW A S M a b).1) (SV.w ((pplW A S M a b).2))):=fun _ _ _ hf=>conW_ok hf (fun _ _=>by kernel_rfl) fun us r q hr _ hok=>by
  obtain⟨a,b,rfl,rfl⟩:=gJPW_ok hr;have oa:=hok (jSW a) (by simp);have ob:=hok (pSW b) (by simp);have key:=(⟨pplW_ok oA oS oM oa ob,rfl⟩:(SV.tu (jSW (pplW A S M a b).1) (SV.w ((pplW A S M a b).2))).ok/\(SV.tu (jSW (pplW A S M a b).1) (SV.w ((pplW A S M a b).2))).lt 0=true)
  refine⟨key.1,key.2,fun γ F w hF=>?_⟩;simp only[List.map_cons,List.map_nil];rw[val0 (γ:=γ) key.2];rw[val0 (γ:=γ) (x:=jSW a) rfl];rw[val0 (γ:=γ) (x:=pSW b) rfl];have h:=calls_at (w0:=w) (V:=(SV.tu (jSW (pplW A S M a b).1) (SV.w ((pplW A S M a b).2))).val fun _=>0) (E1_ok (γ0:=fun _=>F) (more:=[fld2 true m 65 A,fld2 true m 66 S,fld2 true m 67 M,conW true m 111 (gJW fun a=>SV.tu (jSW (ptwW A S M a).1) (SV.w ((ptwW A S M a).2))),conW true m 71 (gPW fun a=>jSW (plcW a)),cV1 75 shJW fun T=>.b (zrW T)]) ⟨hA _ _ _ (FOk.of hF),hS _ _ _ (FOk.of hF),hM _ _ _ (FOk.of hF),hT _ _ _ (FOk.of hF),placeW_is _ _ _ (FOk.of hF),noneW_is _ _ _,trivial⟩) (by kernel_rfl) (fun _=>0) Tryz.func70 (by kernel_rfl) [cvW 0,jSW a,pSW b] ⟨⟨cvW_ok,rfl⟩,⟨oa,rfl⟩,⟨ob,rfl⟩,trivial⟩ (by kernel_rfl) (by kernel_rfl)
   (.br b.2.2 (.leaf (.tu (jSW a) (SV.w (0)))) (.br (zrW a) (.leaf (.tu (jSW (plcW b)) (SV.w (0)))) (.br (sameW S M a b.1 b.2.1) (.leaf (SV.tu (jSW (ptwW A S M a).1) (SV.w ((ptwW A S M a).2)))) (.leaf (.tu (jSW (padW A S M a b.1 b.2.1).1) (SV.w ((padW A S M a b.1 b.2.1).2))))))) (by kernel_rfl) (br_sh (fun h=>leaf_sh (by unfold pplW;rw[h];rfl)) fun h=>br_sh (fun h2=>leaf_sh (by unfold pplW;rw[h,h2];rfl)) fun h2=>br_sh (fun h3=>leaf_sh (by unfold pplW;rw[h,h2,h3];rfl)) fun h3=>leaf_sh (by unfold pplW;rw[h,h2,h3];rfl))
  exact h
def pntW(M:Nat->Nat->Nat)(I:Nat->Nat × Bool)(T:Nat × Nat × Nat):Nat × Nat × Bool :=
 bif (I T.2.2).2 then (M T.1 (M (I T.2.2).1 (I T.2.2).1),M T.2.1 (M (M (I T.2.2).1 (I T.2.2).1) (I T.2.2).1),false)else (0,0,true)
theorem pntW_ok(oM:∀ a b,(M a b)<2^256)(T:Nat × Nat × Nat):(pSW (pntW M I T)).ok:=by
 unfold pntW;cases (I T.2.2).2
 ·exact⟨w0_ok,w0_ok,trivial,trivial⟩
 ·exact⟨oM _ _,oM _ _,trivial,trivial⟩
theorem pointW_is{m:Nat}(oM:∀ a b,(M a b)<2^256)(hM:IsOW m 67 M)(hI:IsJW m 68 I):IsW m 72 (gJW fun a=>pSW (pntW M I a)):=fun _ _ _ hf=>conW_ok hf (fun _ _=>by kernel_rfl) fun us r q hr _ hok=>by
  obtain⟨a,rfl,rfl⟩:=gJW_ok hr;have oa:=hok (jSW a) (by simp);have key:=(⟨pntW_ok oM a,rfl⟩:(pSW (pntW M I a)).ok/\(pSW (pntW M I a)).lt 0=true)
  refine⟨key.1,key.2,fun γ F w hF=>?_⟩;simp only[List.map_cons,List.map_nil];rw[val0 (γ:=γ) key.2];rw[val0 (γ:=γ) (x:=jSW a) rfl];have h:=calls_at (w0:=w) (V:=(pSW (pntW M I a)).val fun _=>0) (E1_ok (γ0:=fun _=>F) (more:=[fld2 true m 67 M,fld1 true m 68 fun a=>.tu (.w (I a).1) (.b (I a).2)]) ⟨hM _ _ _ (FOk.of hF),hI _ _ _ (FOk.of hF),trivial⟩) (by kernel_rfl) (fun _=>0) Tryz.func72 (by kernel_rfl) [cvW 0,jSW a] ⟨⟨cvW_ok,rfl⟩,⟨oa,rfl⟩,trivial⟩ (by kernel_rfl) (by kernel_rfl)
   (.br (!(I a.2.2).2) (.leaf (SV.ap (SV.w (0)) (.ap (SV.w (0)) (.ap (.v (.bool true)) .e)))) (.leaf (SV.ap (SV.w (M a.1 (M (I a.2.2).1 (I a.2.2).1))) (.ap (SV.w (M a.2.1 (M (M (I a.2.2).1 (I a.2.2).1) (I a.2.2).1))) (.ap (.v (.bool false)) .e))))) (by kernel_rfl) (br_sh (fun h=>leaf_sh (by unfold pntW;rw[show(I a.2.2).2=false by simpa using h];rfl)) fun h=>leaf_sh (by unfold pntW;rw[show(I a.2.2).2=true by simpa using h];rfl))
  exact h
end
end Sy
open Go.RowKit
namespace Sy
def cLen(B:Nat->Nat):Con:=conV 112 fun l=>match l with
 | [.w k]=>some (.na (B k),[])
 | _=>none
theorem cLen_ok{base:Nat}{γ0:Pl}{w0:World}:ConOk Tryz.prog base γ0 w0 (cLen fun k=>bl k 256):=conV_ok (fun _ _=>by kernel_rfl) fun us r q hr hq hok=>by
 split at hr
 ·rename_i k
  cases hr;exact⟨(by have:=bl_le k 256;show bl k 256<2^62;omega),rfl,fun γ w=>len_pw k w⟩
 ·cases hr
def bkI(k t:Nat):Int:=andI .u64 (shrI .u64 (limbN (t / 64) k) ((t%64:Nat):Int)) 1
theorem and1w{x:Nat}(hx:x<18446744073709551616):andI .u64 ((x:Nat):Int) 1=((x%2:Nat):Int):=by
 have h:(BitVec.ofInt 64 ((x:Nat):Int) &&& BitVec.ofInt 64 1).toNat=x%2:=by
  rw[BitVec.toNat_and,BitVec.ofInt_natCast,show BitVec.ofInt 64 1=BitVec.ofNat 64 1 from rfl,BitVec.toNat_ofNat,BitVec.toNat_ofNat,Nat.mod_eq_of_lt (show x<2^64 from hx)];exact Nat.and_two_pow_sub_one_eq_mod x 1
 show IntKind.u64.wrap (((BitVec.ofInt 64 ((x:Nat):Int) &&& BitVec.ofInt 64 1).toNat:Nat):Int)=_;rw[h,IntKind.wrap_u64];omega
theorem shrw(x k:Nat)(hk:k<=64):shrI .u64 ((x:Nat):Int) ((k:Nat):Int)=((x / 2^k:Nat):Int):=by
 show((x:Nat):Int).fdiv (2^(min ((k:Nat):Int).toNat 64))=_;rw[Int.toNat_natCast,Nat.min_eq_left hk,Int.fdiv_eq_ediv_of_nonneg _ (Int.pow_nonneg (by decide)),Int.natCast_ediv,Int.natCast_pow];rfl
theorem bkI_is(k t:Nat):bkI k t=((k / 2^t%2:Nat):Int):=by
 unfold bkI limbN;rw[shrw _ _ (by omega),and1w (Nat.lt_of_le_of_lt (Nat.div_le_self _ _) (Nat.mod_lt _ (by decide)))];congr 1;have e:(18446744073709551616:Nat)^(t / 64)=2^(64*(t / 64)):=by rw[Nat.pow_mul]
 have e2:(18446744073709551616:Nat)=2^(t%64)*2^(64 - t%64):=by rw[<- Nat.pow_add,show t%64+(64 - t%64)=64 by omega]
 have e3:k / 2^t=k / 2^(64*(t / 64)) / 2^(t%64):=by rw[Nat.div_div_eq_div_mul,<- Nat.pow_add,show 64*(t / 64)+t%64=t by omega]
 rw[e,e3];generalize k / 2^(64*(t / 64))=X;rw[e2,Nat.mod_mul_right_div_self];exact Nat.mod_mod_of_dvd _ ⟨2^(64 - t%64 - 1),by rw[show(2:Nat)=2^1 from rfl,<- Nat.pow_mul,<- Nat.pow_add];congr 1;omega⟩
theorem Wkt.nat{S:List (Nat × Option SV)}{t k:Nat}{n:Int}(h:lookX S t=some (.i .i64 n))(hn:n=(k:Int))(hk:k<2^62):Wkt S t (.na k):=⟨_,h,fun _=>by subst hn;rfl,fun _=>hk⟩
theorem Wkt.neg{S:List (Nat × Option SV)}{t:Nat}{n:Int}(h:lookX S t=some (.i .i64 n))(hn:n=-1):Wkt S t (.v (.int .i64 (-1))):=⟨_,h,fun _=>by subst hn;rfl,fun _=>trivial⟩
def dn:Nat->SV
 | 0=>.v (.int .i64 (-1))
 | t+1=>.na t
theorem Wkt.dn{S:List (Nat × Option SV)}{t k:Nat}{n:Int}(h:lookX S t=some (.i .i64 n))(hn:n=(k:Int) - 1)(hk:k<2^62):Wkt S t (dn k):=by
 cases k with
 | zero=>exact .neg h (by omega)
 | succ k=>exact .nat h (by omega) (by omega)
theorem calls_loop0{E:Env}{γ0:Pl}{w0:World}{V:Value}(G:E.Good γ0 w0)(mx:E.P.follows .mixedOrders=true)(hd:Nat->Nat){f:FuncId}{fn:Func}(hf:E.P.funcs[f]?=some fn)(hb:fn.body.isSome=true)(args:List SV)(ha:okAll E.base args)(hn:decide (args.length<=fn.ntmps)=true)
  (hD:walk E hd fn args=(walk E hd fn args).diag) {d:Nat} (hZ:(walk E hd fn args).shape=.loop d) (T:Tr) (hT:(walk E hd fn args).on []=T) (hW:T.wp E.base ⟨fun r=>r.val γ0=V,fun _ _=>False⟩):Calls E.P f (args.map (·.val γ0)).toArray w0 fun e w'=>e=.returned V/\Below w0.heap.size w0 w' :=
 calls_at G mx hd hf hb args ha hn hD _ hZ (loop_sh (Eq.mpr (congrArg (fun t=>Tr.wp E.base t _) hT) hW))
def nB:Nat:=21888242871839275222246405745257275088548364400416034343698204186575808495617
theorem order_is:∀ w:World,Calls Tryz.prog 48 #[] w fun e w'=>e=.returned ((SV.w nB).val fun _=>0)/\Below w.heap.size w w':=fun w =>
 calls_at (w0:=w) (γ0:=fun _=>0) (E1_ok (more:=[]) trivial) (by kernel_rfl) (fun _=>0) Tryz.func48 (by kernel_rfl) [] trivial (by kernel_rfl) (by kernel_rfl) (.leaf (.w nB)) (by kernel_rfl) rfl
def cOrd:Con:=conV 48 fun l=>match l with
 | []=>some (.w nB,[])
 | _=>none
theorem cOrd_ok{base:Nat}{γ0:Pl}{w0:World}:ConOk Tryz.prog base γ0 w0 cOrd:=conV_ok (fun _ _=>by kernel_rfl) fun us r q hr hq hok=>by
 split at hr
 ·cases hr
  exact⟨(by decide +kernel:nB<2^256),rfl,fun γ w=>order_is w⟩
 ·cases hr
section
variable {TW:Nat × Nat × Nat->(Nat × Nat × Nat) × Nat} {PL:Nat × Nat × Nat->Nat × Nat × Bool->(Nat × Nat × Nat) × Nat} {B:Nat->Nat}
def trdW(TW:Nat × Nat × Nat->(Nat × Nat × Nat) × Nat)(PL:Nat × Nat × Nat->Nat × Nat × Bool->(Nat × Nat × Nat) × Nat)(kk:Nat)(P:Nat × Nat × Bool)(t:Nat)(x:Nat × Nat × Nat):Nat × Nat × Nat:=bif eqI (bkI kk t) 1 then (PL (TW x).1 P).1 else (TW x).1
def tmsW(TW:Nat × Nat × Nat->(Nat × Nat × Nat) × Nat)(PL:Nat × Nat × Nat->Nat × Nat × Bool->(Nat × Nat × Nat) × Nat)(kk:Nat)(P:Nat × Nat × Bool):Nat->Nat × Nat × Nat->Nat × Nat × Nat
 | 0,x=>x
 | t+1,x=>tmsW TW PL kk P t (trdW TW PL kk P t x)
def moreTW(m:Nat)(B:Nat->Nat)(TW:Nat × Nat × Nat->(Nat × Nat × Nat) × Nat)(PL:Nat × Nat × Nat->Nat × Nat × Bool->(Nat × Nat × Nat) × Nat):List Con:=[cLen B,conW true m 111 (gJW fun a=>SV.tu (jSW (TW a).1) (SV.w ((TW a).2))),conW true m 70 (gJPW fun a b=>SV.tu (jSW (PL a b).1) (SV.w ((PL a b).2)))]
noncomputable def TTW (m:Nat) (B:Nat->Nat) (TW:Nat × Nat × Nat->(Nat × Nat × Nat) × Nat) (PL:Nat × Nat × Nat->Nat × Nat × Bool->(Nat × Nat × Nat) × Nat) (kk:Nat) (P:Nat × Nat × Bool):Tr:=(walk (E1 (moreTW m B TW PL)) (fun _=>0) Tryz.f73 [cvW 0,.w kk,pSW P]).on []
def stTW(kk:Nat)(P:Nat × Nat × Bool)(d:SV)(x:Nat × Nat × Nat):St:=⟨[(3,some (.p 1 0 0 0)),(4,some (.p 2 0 0 0)),(5,some (.p 3 0 0 0)),(6,some (.p 4 0 0 0)),(7,some (.p 5 0 0 0)),(8,some d)],[(5,jSW x,115),(4,jSW zJW,115),(3,pSW P,67),(2,.w kk,24),(1,cvW 0,72)],6⟩
structure RTW (TW:Nat × Nat × Nat->(Nat × Nat × Nat) × Nat) (PL:Nat × Nat × Nat->Nat × Nat × Bool->(Nat × Nat × Nat) × Nat) (kk:Nat) (P:Nat × Nat × Bool) (T:Nat × Nat × Nat) (L:Nat) where
 s:Nat
 x:Nat × Nat × Nat
 le:s<=L
 is:tmsW TW PL kk P s x=T
 ok:(jSW x).ok
theorem timesW_walk{m:Nat}(b256:∀ k,B k<=256)(hN:∀ base γ0 w0,ConOk Tryz.prog base γ0 w0 (cLen B))(oT:∀ a,(jSW (TW a).1).ok)(oP:∀ a b,(jSW a).ok->(pSW b).ok->(jSW (PL a b).1).ok)(hT:IsW m 111 (gJW fun a=>SV.tu (jSW (TW a).1) (SV.w ((TW a).2))))(hP:IsW m 70 (gJPW fun a b=>SV.tu (jSW (PL a b).1) (SV.w ((PL a b).2))))(kk:Nat)(P:Nat × Nat × Bool)(ok:kk<2^256)(op:(pSW P).ok)(F:Nat)(w:World)(hF:FldAt w F m) :
  Calls Tryz.prog 73 ([cvW 0,SV.w kk,pSW P].map (·.val (fun _=>F))).toArray w fun e w'=>e=.returned ((jSW (tmsW TW PL kk P (B kk) zJW)).val (fun _=>F))/\Below w.heap.size w w':=by
 have hL:B kk<=256:=b256 kk;have h62:(2:Nat)^62=4611686018427387904:=by decide
 refine calls_loop0 (γ0:=(fun _=>F)) (E1_ok (more:=moreTW m B TW PL) ⟨hN _ _ _,hT _ _ _ (FOk.of hF),hP _ _ _ (FOk.of hF),trivial⟩) (by kernel_rfl) (fun _=>0) Tryz.func73 (by kernel_rfl) [cvW 0,.w kk,pSW P] ⟨⟨cvW_ok,rfl⟩,⟨ok,rfl⟩,⟨op,rfl⟩,trivial⟩ (by kernel_rfl) (by kernel_rfl)
  (d:=0) (by kernel_rfl) (TTW m B TW PL kk P) (by kernel_rfl) ?_
 have eb:(E1 (moreTW m B TW PL)).base=1:=rfl;rw[eb];have hB:∀ d x,subB 1 (stTW kk P (dn d) x)=true:=fun d x=>by cases d <;> kernel_rfl
 have h0:Sub 1 (TTW m B TW PL kk P).stOf (stTW kk P (dn (B kk)) zJW):=Sub.ofW [5,4,3,2,1] (hB _ _) ⟨.is (by kernel_rfl),.is (by kernel_rfl),.is (by kernel_rfl),.is (by kernel_rfl),.is (by kernel_rfl),.dn (n:=((B kk:Nat):Int) - ((1:Nat):Int)) (by kernel_rfl) rfl (by omega),trivial⟩ (by kernel_rfl);have hs:(TTW m B TW PL kk P).isLoop 0=true:=by kernel_rfl
 have d0:∀ x,(TTW m B TW PL kk P).round (stTW kk P (dn 0) x)=((TTW m B TW PL kk P).round (stTW kk P (dn 0) x)).diag:=fun x=>by kernel_rfl
 have z0:∀ x,((TTW m B TW PL kk P).round (stTW kk P (dn 0) x)).shape=.leaf (jSW x):=fun x=>by kernel_rfl
 have d1:∀ t x,(TTW m B TW PL kk P).round (stTW kk P (dn (t+1)) x)=((TTW m B TW PL kk P).round (stTW kk P (dn (t+1)) x)).diag:=fun t x=>by kernel_rfl
 have z1:∀ t x,((TTW m B TW PL kk P).round (stTW kk P (dn (t+1)) x)).shape=.br (!ltN t 0) (.need (t / 64<4) (.need (t / 64<4) (.need (0<=((t%64:Nat):Int)) (.br (eqI (bkI kk t) 1) (.cut 0) (.cut 0))))) (.leaf (jSW x)):=fun t x=>by kernel_rfl
 have n1:∀ t x,t<B kk->Sub 1 (((TTW m B TW PL kk P).round (stTW kk P (dn (t+1)) x)).on [true,true]).cutOf (stTW kk P (dn t) (PL (TW x).1 P).1):=fun t x ht=>Sub.ofW [5,4,3,2,1] (hB _ _) ⟨.is (by kernel_rfl),.is (by kernel_rfl),.is (by kernel_rfl),.is (by kernel_rfl),.is (by kernel_rfl),.dn (n:=((t:Nat):Int) - ((1:Nat):Int)) (by kernel_rfl) rfl (by omega),trivial⟩ (by kernel_rfl);have n2:∀ t x,t<B kk->Sub 1 (((TTW m B TW PL kk P).round (stTW kk P (dn (t+1)) x)).on [true,false]).cutOf (stTW kk P (dn t) (TW x).1):=fun t x ht=>Sub.ofW [5,4,3,2,1] (hB _ _) ⟨.is (by kernel_rfl),.is (by kernel_rfl),.is (by kernel_rfl),.is (by kernel_rfl),.is (by kernel_rfl),.dn (n:=((t:Nat):Int) - ((1:Nat):Int)) (by kernel_rfl) rfl (by omega),trivial⟩ (by kernel_rfl);have c1:∀ t x,(((TTW m B TW PL kk P).round (stTW kk P (dn (t+1)) x)).on [true,true]).isCut 0=true:=fun t x=>by kernel_rfl
 have c2:∀ t x,(((TTW m B TW PL kk P).round (stTW kk P (dn (t+1)) x)).on [true,false]).isCut 0=true:=fun t x=>by kernel_rfl
 generalize TTW m B TW PL kk P=T at h0 hs d0 z0 d1 z1 n1 n2 c1 c2 |-
 generalize B kk=L at *;refine loop_wp (T:=T) 0 hs (ι:=RTW TW PL kk P (tmsW TW PL kk P L zJW) L) (fun r=>stTW kk P (dn r.s) r.x) (fun r=>r.s) ⟨L,zJW,Nat.le_refl _,rfl,⟨w0_ok,w0_ok,w0_ok,trivial⟩⟩ h0 fun⟨s,x,hle,his,hox⟩=>?_;cases s with
 | zero =>
  refine wp_of_shape (d0 x) (L:=fun L'=>((T.round (stTW kk P (dn 0) x)).on L').wp 1 _) ?_ fun _ h=>h;rw[z0 x];show(jSW x).val _=_;rw[<- his];rfl
 | succ t =>
  refine wp_of_shape (d1 t x) (L:=fun L'=>((T.round (stTW kk P (dn (t+1)) x)).on L').wp 1 _) ?_ fun _ h=>h;rw[z1 t x];have ht:t<L:=hle;refine⟨fun _=>?_,fun h=>?_⟩
  ·refine need_sh (by omega) (need_sh (by omega) (need_sh (by omega) ⟨fun h=>?_,fun h=>?_⟩))
   ·exact next_wp 0 (c1 t x) (st:=fun r:RTW TW PL kk P (tmsW TW PL kk P L zJW) L=>stTW kk P (dn r.s) r.x) ⟨t,(PL (TW x).1 P).1,Nat.le_of_lt ht,by rw[<- his,tmsW,trdW,h];rfl,oP _ _ (oT _) op⟩ (Nat.lt_succ_self t) (n1 t x ht)
   ·exact next_wp 0 (c2 t x) (st:=fun r:RTW TW PL kk P (tmsW TW PL kk P L zJW) L=>stTW kk P (dn r.s) r.x) ⟨t,(TW x).1,Nat.le_of_lt ht,by rw[<- his,tmsW,trdW,h];rfl,oT _⟩ (Nat.lt_succ_self t) (n2 t x ht)
  ·have e:ltN t 0=false:=decide_eq_false (Nat.not_lt_zero t)
   rw[e]at h;cases h
end
end Sy
open Go.RowKit
namespace Sy
section
variable {FT:Nat->Nat->Bool} {TM:Nat->(Nat × Nat × Bool)->(Nat × Nat × Nat)} {H:(Nat × Nat × Bool)->Bool} {PL:(Nat × Nat × Nat)->(Nat × Nat × Bool)->((Nat × Nat × Nat)) × Nat} {PT:(Nat × Nat × Nat)->(Nat × Nat × Bool)}
def hldW(FT:Nat->Nat->Bool)(P:(Nat × Nat × Bool)):Bool:=bif P.2.2 then true else bif FT P.1 P.2.1 then true else false
def smPW(H:(Nat × Nat × Bool)->Bool)(PL:(Nat × Nat × Nat)->(Nat × Nat × Bool)->((Nat × Nat × Nat)) × Nat)(PT:(Nat × Nat × Nat)->(Nat × Nat × Bool))(a b:(Nat × Nat × Bool)):(Nat × Nat × Bool) × Int:=bif (bif !H a then true else !H b)then ((0,0,true),81)else (PT (PL (plcW a) b).1,0)
def tpSW(r:(Nat × Nat × Bool) × Int):SV:=.tu (pSW r.1) (.i .i64 r.2)
theorem smPW_ok(oT:∀ a,(pSW (PT a)).ok)(a b:(Nat × Nat × Bool)):(tpSW (smPW H PL PT a b)).ok:=by
 unfold smPW;cases (bif !H a then true else !H b)
 ·exact⟨oT _,trivial⟩
 ·exact⟨⟨w0_ok,w0_ok,trivial,trivial⟩,trivial⟩
theorem timesW_is{m:Nat}{B:Nat->Nat}{TW:(Nat × Nat × Nat)->((Nat × Nat × Nat)) × Nat}(b256:∀ k,B k<=256)(hN:∀ base γ0 w0,ConOk Tryz.prog base γ0 w0 (cLen B))(oT:∀ a,(jSW (TW a).1).ok)(oP:∀ a b,(jSW a).ok->(pSW b).ok->(jSW (PL a b).1).ok)(oM:∀ n P,n<2^256->(pSW P).ok->(jSW (tmsW TW PL n P (B n) zJW)).ok)(hT:IsW m 111 (gJW fun a=>SV.tu (jSW (TW a).1) (SV.w ((TW a).2))))(hP:IsW m 70 (gJPW fun a b=>SV.tu (jSW (PL a b).1) (SV.w ((PL a b).2)))):IsW m 73 (gKPW fun n P=>jSW (tmsW TW PL n P (B n) zJW)):=fun _ _ _ hf=>conW_ok hf (fun _ _=>by kernel_rfl) fun us r q hr _ hok=>by
  obtain⟨a,b,rfl,rfl⟩:=gKPW_ok hr;have oa:=hok (.w a) (by simp);have ob:=hok (pSW b) (by simp);refine⟨oM a b oa ob,rfl,fun γ F w hF=>?_⟩;simp only[List.map_cons,List.map_nil];rw[val0 (γ:=γ) (x:=jSW _) rfl,val0 (γ:=γ) (x:=.w a) rfl,val0 (γ:=γ) (x:=pSW b) rfl];have h:=timesW_walk b256 hN oT oP hT hP a b oa ob F w hF;exact h
theorem holdsW_is{m:Nat}(hF1:IsW m 74 (gNNW fun a b=>SV.b (FT a b)))(hT:IsW m 73 (gKPW fun a b=>jSW (TM a b))):IsW m 37 (gPW fun a=>SV.b (hldW FT a)):=fun _ _ _ hf=>conW_ok hf (fun _ _=>by kernel_rfl) fun us r q hr _ hok=>by
  obtain⟨a,rfl,rfl⟩:=gPW_ok hr;have oa:=hok (pSW a) (by simp);have key:=(⟨trivial,rfl⟩:(SV.b (hldW FT a)).ok/\(SV.b (hldW FT a)).lt 0=true)
  refine⟨key.1,key.2,fun γ F w hF=>?_⟩;simp only[List.map_cons,List.map_nil];rw[val0 (γ:=γ) key.2];rw[val0 (γ:=γ) (x:=pSW a) rfl];have h:=calls_at (w0:=w) (V:=(SV.b (hldW FT a)).val fun _=>0) (E1_ok (γ0:=fun _=>F) (more:=[conW true m 74 (gNNW fun a b=>SV.b (FT a b)),conW true m 73 (gKPW fun a b=>jSW (TM a b)),cV1 75 shJW fun T=>.b (zrW T),cOrd]) ⟨hF1 _ _ _ (FOk.of hF),hT _ _ _ (FOk.of hF),noneW_is _ _ _,cOrd_ok,trivial⟩) (by kernel_rfl) (fun _=>0) Tryz.func37 (by kernel_rfl) [cvW 0,pSW a] ⟨⟨cvW_ok,rfl⟩,⟨oa,rfl⟩,trivial⟩ (by kernel_rfl) (by kernel_rfl)
   (.leaf (.b (bif a.2.2 then true else bif FT a.1 a.2.1 then true else false))) (by kernel_rfl) (leaf_sh (val0 (x:=.b (hldW FT a)) rfl))
  exact h
theorem sumW_is{m:Nat}(oT:∀ a,(pSW (PT a)).ok)(hH:IsW m 37 (gPW fun a=>SV.b (H a)))(hP:IsW m 70 (gJPW fun a b=>SV.tu (jSW (PL a b).1) (SV.w ((PL a b).2))))(hQ:IsW m 72 (gJW fun a=>pSW (PT a))):IsW m 35 (gPPW fun a b=>tpSW (smPW H PL PT a b)):=fun _ _ _ hf=>conW_ok hf (fun _ _=>by kernel_rfl) fun us r q hr _ hok=>by
  obtain⟨a,b,rfl,rfl⟩:=gPPW_ok hr;have oa:=hok (pSW a) (by simp);have ob:=hok (pSW b) (by simp);have key:=(⟨smPW_ok oT a b,rfl⟩:(tpSW (smPW H PL PT a b)).ok/\(tpSW (smPW H PL PT a b)).lt 0=true)
  refine⟨key.1,key.2,fun γ F w hF=>?_⟩;simp only[List.map_cons,List.map_nil];rw[val0 (γ:=γ) key.2];rw[val0 (γ:=γ) (x:=pSW a) rfl];rw[val0 (γ:=γ) (x:=pSW b) rfl];have h:=calls_at (w0:=w) (V:=(tpSW (smPW H PL PT a b)).val fun _=>0) (E1_ok (γ0:=fun _=>F) (more:=[conW true m 37 (gPW fun a=>SV.b (H a)),conW true m 70 (gJPW fun a b=>SV.tu (jSW (PL a b).1) (SV.w ((PL a b).2))),conW true m 72 (gJW fun a=>pSW (PT a)),conW true m 71 (gPW fun a=>jSW (plcW a))]) ⟨hH _ _ _ (FOk.of hF),hP _ _ _ (FOk.of hF),hQ _ _ _ (FOk.of hF),placeW_is _ _ _ (FOk.of hF),trivial⟩) (by kernel_rfl) (fun _=>0) Tryz.func35 (by kernel_rfl) [cvW 0,pSW a,pSW b] ⟨⟨cvW_ok,rfl⟩,⟨oa,rfl⟩,⟨ob,rfl⟩,trivial⟩ (by kernel_rfl) (by kernel_rfl)
   (.br (bif !H a then true else !H b) (.leaf (SV.tu (.ap (SV.w (0)) (.ap (SV.w (0)) (.ap (.v (.bool true)) .e))) (.v (.int .i64 81)))) (.leaf (.tu (pSW (PT (PL (plcW a) b).1)) (.v (.int .i64 0))))) (by kernel_rfl) (br_sh (fun h=>leaf_sh (by unfold tpSW smPW;rw[h];rfl)) fun h=>leaf_sh (by unfold tpSW smPW;rw[h];rfl))
  exact h
end
end Sy
open Go.RowKit
namespace Sy
def fnV(f:FuncId):SV:=.v (.func (.func f) #[] #[])
def b2v:N2:=(19485874751759354771024239261021720505790618469301721065564631296452457478373,266929791119991161246907387137283842545076965332900288569378510910307636690)
def cv2:SV:=.ap (fnV 84) (.ap (fnV 85) (.ap (fnV 86) (.ap (fnV 87) (.ap (F2s (1,0)) (.ap (F2s b2v) (.ap (.b true) .e))))))
def vc2:Value:=cv2.val o0
theorem cv2_val(γ:Pl):cv2.val γ=vc2:=rfl
def con2(f:FuncId)(g:List SV->Option (SV × List Ob)):Con:=⟨f,fun _ _ l=>match l with
 | c::us=>(g us).map fun q=>(q.1,.eq c cv2::q.2,[])
 | _=>none⟩
theorem con2_ok{P:Program}{base:Nat}{γ0:Pl}{w0:World}{f:FuncId}{g:List SV->Option (SV × List Ob)}(hc:∀ as_ wx,(callFunc f as_).run P wx=.ok (.enter f as_) wx)
  (h:∀ us r q,g us=some (r,q)->All q->(∀ x∈us,x.ok)->r.ok/\r.lt 0=true/\∀ γ w,Calls P f (vc2::us.map (·.val γ)).toArray w fun e w'=>e=.returned (r.val γ)/\Below w.heap.size w w'):ConOk P base γ0 w0 (con2 f g) :=
 .of hc fun n M l r p R hr hp hok=>by
  unfold con2 at hr;dsimp only at hr
  split at hr
  ·rename_i c us
   obtain⟨q,hq,e⟩:=Option.map_eq_some_iff.1 hr;cases e;obtain⟨g1,g2,g3⟩:=h us q.1 q.2 hq (fun a ha=>hp a (.tail _ ha)) fun x hx=>hok x (.tail _ hx);refine⟨rfl,g1,g2,fun γ hγ wx hw hL=>?_⟩;have he:c=cv2:=hp _ (.head _);have e2:c.val γ=vc2:=by rw[he,cv2_val]
   have g4:=g3 γ wx;rw[<- e2]at g4;exact g4
  ·cases hr
def Is2c(f:FuncId)(g:List SV->Option (SV × List Ob)):Prop:=∀ base γ0 w0,ConOk Tryz.prog base γ0 w0 (con2 f g)
/-! Places,points. -/
def jS2(T:N2 × N2 × N2):SV:=.ap (F2s (T.1)) (.ap (F2s (T.2.1)) (.ap (F2s (T.2.2)) .e))
def pS2(P:N2 × N2 × Bool):SV:=.ap (F2s (P.1)) (.ap (F2s (P.2.1)) (.ap (.b P.2.2) .e))
def dJ2:SV->Option (N2 × N2 × N2)
 | .ap x (.ap y (.ap z .e))=>match d2 x,d2 y,d2 z with
  | some a,some b,some c=>some (a,b,c)
  | _,_,_=>none
 | _=>none
theorem dJ2_ok(x:SV)(T:N2 × N2 × N2)(h:dJ2 x=some T):x=jS2 T:=by
 unfold dJ2 at h
 split at h
 ·split at h
  ·rename_i h0 h1 h2
   cases h;rw[d2_ok _ _ h0,d2_ok _ _ h1,d2_ok _ _ h2];rfl
  ·cases h
 ·cases h
def shJ2:Shp (N2 × N2 × N2):=⟨jS2,dJ2,dJ2_ok,fun _=>rfl⟩
end Sy
end Go.Proofs.YtadfjjfklihaaaaGreat
