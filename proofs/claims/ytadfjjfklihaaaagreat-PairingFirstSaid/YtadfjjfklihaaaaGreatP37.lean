/- Points of y^2 = x^3 + b told without a division: X is x by z z, Y is y by z z z; of none z is nought. (Cut to what is reached, written closely: TwI · PrR · PrS · PrT3 · EcJac.) -/
import Derived.Test.YtadfjjfklihaaaaGreatP36
import Derived.Test.YtadfjjfklihaaaaGreatP35
import Derived.Test.YtadfjjfklihaaaaGreatP27
set_option linter.all false
set_option maxRecDepth 100000
set_option maxHeartbeats 8000000
namespace Go.Proofs.YtadfjjfklihaaaaGreat
open Go.RowKit
namespace Sy
def nw(m:Nat)(a:N2):Nat:=(a.1*a.1%m+a.2*a.2%m)%m
def pi2(m:Nat)(a:N2):N2 × Bool:=((a.1*rIv m (nw m a)%m,(0%m+(m - a.2*rIv m (nw m a)%m%m))%m),eqN (nw m a*iv m (nw m a)%m) 1)
theorem Tadd_at:Ih2 pB 63 sh2 sh2 fun a b=>F2s (ra2 pB a b):=Tadd_is bB
theorem Tsub_at:Ih2 pB 39 sh2 sh2 fun a b=>F2s (rs2 pB a b):=Tsub_is bB
theorem Tmul_at:Ih2 pB 40 sh2 sh2 fun a b=>F2s (rm2 pB a b):=Tmul_is bB
theorem Tconj_at:Ih1 pB 79 sh2 fun a=>F2s (rc2 pB a):=Tconj_is bB
theorem Tinv_at:Ih1 pB 45 sh2 fun a=>.tu (F2s (ri2 pB (rc2 pB) (rm2 pB) a).1) (.b (ri2 pB (rc2 pB) (rm2 pB) a).2):=Tinv_is bB Tconj_at Tmul_at
end Sy
open Go.RowKit
namespace Sy
def e2(a b:N2):Bool:=eqL (wl2 a) (wl2 b)
/-! Dots and points. -/
theorem F2_is:Is0 33 shW fun a=>F2s (a,0):=fun _ _ _=>cV1_ok (fun _ _=>by kernel_rfl) (fun a oa=>⟨⟨oa,w0_ok,trivial⟩,rfl⟩) fun a oa w =>
 calls_at (w0:=w) (γ0:=o0) (E1_ok (more:=[]) trivial) (by kernel_rfl) (fun _=>0) Tryz.func33 (by kernel_rfl) [.w a] ⟨⟨oa,rfl⟩,trivial⟩ (by kernel_rfl) (by kernel_rfl) (.leaf (F2s (a,0))) (by kernel_rfl) rfl
def cF2:Con:=cV1 33 shW fun a=>F2s (a,0)
def dotW(P:Nat × Nat × Bool):N2 × N2 × Bool:=((P.1,0),(P.2.1,0),P.2.2)
theorem dotW_ok{P:Nat × Nat × Bool}(h:(pSW P).ok):(pS2 (dotW P)).ok:=⟨⟨h.1,w0_ok,trivial⟩,⟨h.2.1,w0_ok,trivial⟩,trivial,trivial⟩
theorem Of_is:Is0 13 shPW fun P=>pS2 (dotW P):=fun _ _ _=>cV1_ok (fun _ _=>by kernel_rfl) (fun a oa=>⟨dotW_ok oa,rfl⟩) fun a oa w =>
 calls_at (w0:=w) (γ0:=o0) (E1_ok (more:=[cF2]) ⟨F2_is _ _ _,trivial⟩) (by kernel_rfl) (fun _=>0) Tryz.func13 (by kernel_rfl) [pSW a] ⟨⟨oa,rfl⟩,trivial⟩ (by kernel_rfl) (by kernel_rfl) (.leaf (pS2 (dotW a))) (by kernel_rfl) rfl
def ptD(D:N2 × N2 × Bool):Nat × Nat × Bool:=bif D.2.2 then (0,0,true)else (D.1.1,D.2.1.1,false)
def twD(D:N2 × N2 × Bool):N2 × N2 × Bool:=bif D.2.2 then (z2,z2,true)else (D.1,D.2.1,false)
theorem ptD_ok{D:N2 × N2 × Bool}(h:(pS2 D).ok):(pSW (ptD D)).ok:=by
 unfold ptD;cases D.2.2
 ·exact⟨h.1.1,h.2.1.1,trivial,trivial⟩
 ·exact⟨w0_ok,w0_ok,trivial,trivial⟩
theorem Point_is:Is0 28 shP2 fun D=>pSW (ptD D):=fun _ _ _=>cV1_ok (fun _ _=>by kernel_rfl) (fun a oa=>⟨ptD_ok oa,rfl⟩) fun a oa w =>
 calls_at (w0:=w) (γ0:=o0) (E1_ok (more:=[]) trivial) (by kernel_rfl) (fun _=>0) Tryz.func28 (by kernel_rfl) [pS2 a] ⟨⟨oa,rfl⟩,trivial⟩ (by kernel_rfl) (by kernel_rfl)
  (.br a.2.2 (.leaf (.ap (.w 0) (.ap (.w 0) (.ap (.v (.bool true)) .e)))) (.leaf (.ap (.w a.1.1) (.ap (.w a.2.1.1) (.ap (.v (.bool false)) .e))))) (by kernel_rfl) (br_sh (fun h=>leaf_sh (by unfold ptD;rw[h];rfl)) fun h=>leaf_sh (by unfold ptD;rw[h];rfl))
/-! Numbers of the tower by letters. -/
section
variable {m:Nat} {A S M:N2->N2->N2} {I:N2->N2 × Bool}
abbrev IhA(m:Nat)(A:N2->N2->N2):Prop:=Ih2 m 63 sh2 sh2 fun a b=>F2s (A a b)
abbrev IhS(m:Nat)(A:N2->N2->N2):Prop:=Ih2 m 39 sh2 sh2 fun a b=>F2s (A a b)
abbrev IhM(m:Nat)(A:N2->N2->N2):Prop:=Ih2 m 40 sh2 sh2 fun a b=>F2s (A a b)
abbrev IhI(m:Nat)(I:N2->N2 × Bool):Prop:=Ih1 m 45 sh2 fun a=>.tu (F2s (I a).1) (.b (I a).2)
abbrev kA(m:Nat)(A:N2->N2->N2):Con:=cH2 true m 0 63 sh2 sh2 fun a b=>F2s (A a b)
abbrev kS(m:Nat)(A:N2->N2->N2):Con:=cH2 true m 0 39 sh2 sh2 fun a b=>F2s (A a b)
abbrev kM(m:Nat)(A:N2->N2->N2):Con:=cH2 true m 0 40 sh2 sh2 fun a b=>F2s (A a b)
abbrev kI(m:Nat)(I:N2->N2 × Bool):Con:=cH1 true m 0 45 sh2 fun a=>.tu (F2s (I a).1) (.b (I a).2)
def dK:SV->Option Nat
 | .v (.int .u64 n)=>if n=2 then some 2 else if n=3 then some 3 else if n=4 then some 4 else if n=8 then some 8 else none
 | _=>none
def cSm(ext:Bool)(m lo:Nat)(M:N2->N2->N2):Con:=conH ext m lo 78 fun l=>match l with
 | [x,y]=>match d2 x,dK y with
  | some a,some n=>some (F2s (M a (n,0)),[])
  | _,_=>none
 | _=>none
theorem small_at(hb:Big m)(hM:IhM m M)(n:Nat)(hn:n=2\/n=3\/n=4\/n=8)(F:Nat)(a:N2)(oa:(F2s a).ok)(w:World)(hF:RFld w F m):Calls Tryz.prog 78 #[.agg #[.pointer (some ⟨F,0,none⟩)],(F2s a).val o0,.int .u64 (n:Nat)] w fun e w'=>e=.returned ((F2s (M a (n,0))).val o0)/\Below w.heap.size w w':=by
 rcases hn with rfl | rfl | rfl | rfl
 ·exact calls_at (w0:=w) (γ0:=fun _=>F) (E1_ok (more:=[kM m M,cF2]) ⟨hM _ _ _ _ (ROk.of hb hF),F2_is _ _ _,trivial⟩) (by kernel_rfl) (fun _=>0) Tryz.func78 (by kernel_rfl) [sG,F2s a,.v (.int .u64 2)] ⟨⟨⟨trivial,trivial⟩,rfl⟩,⟨oa,rfl⟩,⟨trivial,rfl⟩,trivial⟩ (by kernel_rfl) (by kernel_rfl) (.leaf (F2s (M a (2,0)))) (by kernel_rfl) rfl
 ·exact calls_at (w0:=w) (γ0:=fun _=>F) (E1_ok (more:=[kM m M,cF2]) ⟨hM _ _ _ _ (ROk.of hb hF),F2_is _ _ _,trivial⟩) (by kernel_rfl) (fun _=>0) Tryz.func78 (by kernel_rfl) [sG,F2s a,.v (.int .u64 3)] ⟨⟨⟨trivial,trivial⟩,rfl⟩,⟨oa,rfl⟩,⟨trivial,rfl⟩,trivial⟩ (by kernel_rfl) (by kernel_rfl) (.leaf (F2s (M a (3,0)))) (by kernel_rfl) rfl
 ·exact calls_at (w0:=w) (γ0:=fun _=>F) (E1_ok (more:=[kM m M,cF2]) ⟨hM _ _ _ _ (ROk.of hb hF),F2_is _ _ _,trivial⟩) (by kernel_rfl) (fun _=>0) Tryz.func78 (by kernel_rfl) [sG,F2s a,.v (.int .u64 4)] ⟨⟨⟨trivial,trivial⟩,rfl⟩,⟨oa,rfl⟩,⟨trivial,rfl⟩,trivial⟩ (by kernel_rfl) (by kernel_rfl) (.leaf (F2s (M a (4,0)))) (by kernel_rfl) rfl
 ·exact calls_at (w0:=w) (γ0:=fun _=>F) (E1_ok (more:=[kM m M,cF2]) ⟨hM _ _ _ _ (ROk.of hb hF),F2_is _ _ _,trivial⟩) (by kernel_rfl) (fun _=>0) Tryz.func78 (by kernel_rfl) [sG,F2s a,.v (.int .u64 8)] ⟨⟨⟨trivial,trivial⟩,rfl⟩,⟨oa,rfl⟩,⟨trivial,rfl⟩,trivial⟩ (by kernel_rfl) (by kernel_rfl) (.leaf (F2s (M a (8,0)))) (by kernel_rfl) rfl
theorem dK_ok{x:SV}{n:Nat}(h:dK x=some n):(n=2\/n=3\/n=4\/n=8)/\x=.v (.int .u64 (n:Nat)):=by
 unfold dK at h
 split at h
 ·rename_i k
  split at h
  ·rename_i e
   cases h;exact⟨.inl rfl,by rw[e];rfl⟩
  ·split at h
   ·rename_i e
    cases h;exact⟨.inr (.inl rfl),by rw[e];rfl⟩
   ·split at h
    ·rename_i e
     cases h;exact⟨.inr (.inr (.inl rfl)),by rw[e];rfl⟩
    ·split at h
     ·rename_i e
      cases h;exact⟨.inr (.inr (.inr rfl)),by rw[e];rfl⟩
     ·cases h
 ·cases h
theorem cSm_ok(hb:Big m)(oM:∀ a b,(F2s (M a b)).ok)(hM:IhM m M){ext:Bool}{lo:Nat}{γ0:Pl}{w0:World}(hf:ROk ext m lo γ0 w0):ConOk Tryz.prog 1 γ0 w0 (cSm ext m lo M):=conH_ok hf (fun _ _=>by kernel_rfl) fun us r q hr _ hok=>by
 split at hr
 ·rename_i x y
  split at hr
  ·rename_i a n hx hy
   cases hr;obtain rfl:=d2_ok _ _ hx;obtain⟨hn,rfl⟩:=dK_ok hy;refine⟨oM _ _,rfl,fun γ F w hF=>?_⟩;simp only[List.map_cons,List.map_nil];rw[val0 (γ:=γ) (x:=F2s (M a (n,0))) rfl,val0 (γ:=γ) (x:=F2s a) rfl];exact small_at hb hM n hn F a (hok (F2s a) (by simp)) w hF
  ·cases hr
 ·cases hr
def rtw(A S M:N2->N2->N2)(T:N2 × N2 × N2):N2 × N2 × N2 :=
 let y2:=M T.2.1 T.2.1
 let s:=M (M T.1 y2) (4,0)
 let t:=M (M T.1 T.1) (3,0)
 let x:=S (M t t) (A s s)
 (x,S (M t (S s x)) (M (M y2 y2) (8,0)),M (M T.2.1 T.2.2) (2,0))
def rpad(A S M:N2->N2->N2)(T:N2 × N2 × N2)(q:N2 × N2 × Bool):N2 × N2 × N2 :=
 let h:=pac2 S M T q.1
 let r:=S (M q.2.1 (M (M T.2.2 T.2.2) T.2.2)) T.2.1
 let h2:=M h h
 let h3:=M h2 h
 let v:=M T.1 h2
 let x:=S (S (M r r) h3) (A v v)
 (x,S (M r (S v x)) (M T.2.1 h3),M T.2.2 h)
def rpl(A S M:N2->N2->N2)(TW:N2 × N2 × N2->N2 × N2 × N2)(T:N2 × N2 × N2)(q:N2 × N2 × Bool):N2 × N2 × N2 :=
 bif zr2 T then (q.1,q.2.1,(1,0))else bif e2 (pac2 S M T q.1) z2 then (bif e2 (pup2 S M T q.2.1) z2 then TW T else zJ2)else rpad A S M T q
def slp(A S M:N2->N2->N2)(I:N2->N2 × Bool)(p q:N2 × N2 × Bool):N2 × Bool :=
 bif e2 p.1 q.1 then (bif (bif !e2 p.2.1 q.2.1 then true else e2 p.2.1 z2)then (z2,false)else (M (A (M p.1 p.1) (A (M p.1 p.1) (M p.1 p.1))) (I (A p.2.1 p.2.1)).1,true))else (M (S q.2.1 p.2.1) (I (S q.1 p.1)).1,true)
def smD(S M:N2->N2->N2)(s:N2)(p q:N2 × N2 × Bool):N2 × N2 × Bool :=
 let x:=S (S (M s s) p.1) q.1
 (x,S (M s (S p.1 x)) p.2.1,false)
def smR(S M:N2->N2->N2)(SL:N2 × N2 × Bool->N2 × N2 × Bool->N2 × Bool)(p q:N2 × N2 × Bool):N2 × N2 × Bool :=
 bif p.2.2 then q else bif q.2.2 then p else bif (SL p q).2 then smD S M (SL p q).1 p q else (z2,z2,true)
def sqD(A M:N2->N2->N2)(D:N2 × N2 × Bool)(b:N2):Bool:=e2 (M D.2.1 D.2.1) (A (M (M D.1 D.1) D.1) b)
theorem square_is(hb:Big m)(hA:IhA m A)(hM:IhM m M):Ih2 m 32 shP2 sh2 fun D b=>.b (sqD A M D b):=fun _ _ _ _ hf=>cH2_ok hf (fun _ _=>by kernel_rfl) (fun _ _ _ _=>⟨trivial,rfl⟩) fun F a b oa ob w hF=>by
 have h:=calls_at (w0:=w) (γ0:=fun _=>F) (V:=(SV.b (sqD A M a b)).val o0) (E1_ok (more:=[kA m A,kM m M]) ⟨hA _ _ _ _ (ROk.of hb hF),hM _ _ _ _ (ROk.of hb hF),trivial⟩) (by kernel_rfl) (fun _=>0) Tryz.func32 (by kernel_rfl) [sG,pS2 a,F2s b] ⟨⟨⟨trivial,trivial⟩,rfl⟩,⟨oa,rfl⟩,⟨ob,rfl⟩,trivial⟩ (by kernel_rfl) (by kernel_rfl) (.leaf (.b (sqD A M a b))) (by kernel_rfl) (leaf_sh (val0 (x:=.b (sqD A M a b)) rfl));exact h
theorem rtwice_is(hb:Big m)(oS:∀ a b,(F2s (S a b)).ok)(oM:∀ a b,(F2s (M a b)).ok)(hA:IhA m A)(hS:IhS m S)(hM:IhM m M):Ih1 m 42 shJ2 fun T=>jS2 (rtw A S M T):=fun _ _ _ _ hf=>cH1_ok hf (fun _ _=>by kernel_rfl) (fun _ _=>⟨⟨oS _ _,oS _ _,oM _ _,trivial⟩,rfl⟩) fun F a oa w hF =>
 calls_at (w0:=w) (γ0:=fun _=>F) (E1_ok (more:=[kA m A,kS m S,kM m M,cSm true m 0 M]) ⟨hA _ _ _ _ (ROk.of hb hF),hS _ _ _ _ (ROk.of hb hF),hM _ _ _ _ (ROk.of hb hF),cSm_ok hb oM hM (ROk.of hb hF),trivial⟩) (by kernel_rfl) (fun _=>0) Tryz.func42 (by kernel_rfl) [sG,jS2 a] ⟨⟨⟨trivial,trivial⟩,rfl⟩,⟨oa,rfl⟩,trivial⟩ (by kernel_rfl) (by kernel_rfl) (.leaf (jS2 (rtw A S M a))) (by kernel_rfl) rfl
end
end Sy
open Go.RowKit
namespace Sy
section
variable {m:Nat} {A S M:N2->N2->N2} {I:N2->N2 × Bool}
theorem rpl_ok{TW:N2 × N2 × N2->N2 × N2 × N2}(oS:∀ a b,(F2s (S a b)).ok)(oM:∀ a b,(F2s (M a b)).ok)(oT:∀ a,(jS2 (TW a)).ok)(T:N2 × N2 × N2){q:N2 × N2 × Bool}(h:(pS2 q).ok):(jS2 (rpl A S M TW T q)).ok:=by
 unfold rpl;cases zr2 T
 ·cases e2 (pac2 S M T q.1) z2
  ·exact⟨oS _ _,oS _ _,oM _ _,trivial⟩
  ·cases e2 (pup2 S M T q.2.1) z2
   ·exact⟨F2z_ok,F2z_ok,F2z_ok,trivial⟩
   ·exact oT _
 ·exact⟨h.1,h.2.1,one2_ok,trivial⟩
theorem rplus_is(hb:Big m){TW:N2 × N2 × N2->N2 × N2 × N2}(oS:∀ a b,(F2s (S a b)).ok)(oM:∀ a b,(F2s (M a b)).ok)(oT:∀ a,(jS2 (TW a)).ok)(hA:IhA m A)(hS:IhS m S)(hM:IhM m M)(hT:Ih1 m 42 shJ2 fun T=>jS2 (TW T)):Ih2 m 44 shJ2 shP2 fun T q=>jS2 (rpl A S M TW T q):=fun _ _ _ _ hf=>cH2_ok hf (fun _ _=>by kernel_rfl) (fun T q _ oq=>⟨rpl_ok oS oM oT T oq,rfl⟩) fun F a b oa ob w hF =>
 calls_at (w0:=w) (γ0:=fun _=>F) (E1_ok (more:=[kA m A,kS m S,kM m M,cH1 true m 0 42 shJ2 fun T=>jS2 (TW T),cF2]) ⟨hA _ _ _ _ (ROk.of hb hF),hS _ _ _ _ (ROk.of hb hF),hM _ _ _ _ (ROk.of hb hF),hT _ _ _ _ (ROk.of hb hF),F2_is _ _ _,trivial⟩) (by kernel_rfl) (fun _=>0) Tryz.func44 (by kernel_rfl) [sG,jS2 a,pS2 b] ⟨⟨⟨trivial,trivial⟩,rfl⟩,⟨oa,rfl⟩,⟨ob,rfl⟩,trivial⟩ (by kernel_rfl) (by kernel_rfl)
  (.br (zr2 a) (.leaf (jS2 (b.1,b.2.1,(1,0)))) (.br (e2 (pac2 S M a b.1) z2) (.br (e2 (pup2 S M a b.2.1) z2) (.leaf (jS2 (TW a))) (.leaf (jS2 zJ2))) (.leaf (jS2 (rpad A S M a b))))) (by kernel_rfl)
  (br_sh (fun h=>leaf_sh (by unfold rpl;rw[h];rfl)) fun h=>br_sh (fun h2=>br_sh (fun h3=>leaf_sh (by unfold rpl;rw[h,h2,h3];rfl)) fun h3=>leaf_sh (by unfold rpl;rw[h,h2,h3];rfl)) fun h2=>leaf_sh (by unfold rpl;rw[h,h2];rfl))
theorem slp_ok(oM:∀ a b,(F2s (M a b)).ok)(p q:N2 × N2 × Bool):(F2s (slp A S M I p q).1).ok:=by
 unfold slp;cases e2 p.1 q.1
 ·exact oM _ _
 ·cases (bif !e2 p.2.1 q.2.1 then true else e2 p.2.1 z2)
  ·exact oM _ _
  ·exact F2z_ok
theorem slope_is(hb:Big m)(oM:∀ a b,(F2s (M a b)).ok)(hA:IhA m A)(hS:IhS m S)(hM:IhM m M)(hI:IhI m I):Ih2 m 38 shP2 shP2 fun p q=>.tu (F2s (slp A S M I p q).1) (.b (slp A S M I p q).2):=fun _ _ _ _ hf=>cH2_ok hf (fun _ _=>by kernel_rfl) (fun p q _ _=>⟨⟨slp_ok oM p q,trivial⟩,rfl⟩) fun F a b oa ob w hF =>
 calls_at (w0:=w) (γ0:=fun _=>F) (E1_ok (more:=[kA m A,kS m S,kM m M,kI m I]) ⟨hA _ _ _ _ (ROk.of hb hF),hS _ _ _ _ (ROk.of hb hF),hM _ _ _ _ (ROk.of hb hF),hI _ _ _ _ (ROk.of hb hF),trivial⟩) (by kernel_rfl) (fun _=>0) Tryz.func38 (by kernel_rfl) [sG,pS2 a,pS2 b] ⟨⟨⟨trivial,trivial⟩,rfl⟩,⟨oa,rfl⟩,⟨ob,rfl⟩,trivial⟩ (by kernel_rfl) (by kernel_rfl)
  (.br (e2 a.1 b.1) (.br (bif !e2 a.2.1 b.2.1 then true else e2 a.2.1 z2) (.leaf (.tu (F2s z2) (.v (.bool false)))) (.leaf (.tu (F2s (M (A (M a.1 a.1) (A (M a.1 a.1) (M a.1 a.1))) (I (A a.2.1 a.2.1)).1)) (.v (.bool true))))) (.leaf (.tu (F2s (M (S b.2.1 a.2.1) (I (S b.1 a.1)).1)) (.v (.bool true))))) (by kernel_rfl)
  (br_sh (fun h=>br_sh (fun h2=>leaf_sh (by unfold slp;rw[h,h2];rfl)) fun h2=>leaf_sh (by unfold slp;rw[h,h2];rfl)) fun h=>leaf_sh (by unfold slp;rw[h];rfl))
theorem smR_ok{SL:N2 × N2 × Bool->N2 × N2 × Bool->N2 × Bool}(oS:∀ a b,(F2s (S a b)).ok){p q:N2 × N2 × Bool}(op:(pS2 p).ok)(oq:(pS2 q).ok):(pS2 (smR S M SL p q)).ok:=by
 unfold smR;cases p.2.2
 ·cases q.2.2
  ·cases (SL p q).2
   ·exact⟨F2z_ok,F2z_ok,trivial,trivial⟩
   ·exact⟨oS _ _,oS _ _,trivial,trivial⟩
  ·exact op
 ·exact oq
theorem rsum_is(hb:Big m){SL:N2 × N2 × Bool->N2 × N2 × Bool->N2 × Bool}(oS:∀ a b,(F2s (S a b)).ok)(hS:IhS m S)(hM:IhM m M)(hL:Ih2 m 38 shP2 shP2 fun p q=>.tu (F2s (SL p q).1) (.b (SL p q).2)):Ih2 m 12 shP2 shP2 fun p q=>pS2 (smR S M SL p q):=fun _ _ _ _ hf=>cH2_ok hf (fun _ _=>by kernel_rfl) (fun p q op oq=>⟨smR_ok oS op oq,rfl⟩) fun F a b oa ob w hF =>
 calls_at (w0:=w) (γ0:=fun _=>F) (E1_ok (more:=[kS m S,kM m M,cH2 true m 0 38 shP2 shP2 fun p q=>.tu (F2s (SL p q).1) (.b (SL p q).2)]) ⟨hS _ _ _ _ (ROk.of hb hF),hM _ _ _ _ (ROk.of hb hF),hL _ _ _ _ (ROk.of hb hF),trivial⟩) (by kernel_rfl) (fun _=>0) Tryz.func12 (by kernel_rfl) [sG,pS2 a,pS2 b] ⟨⟨⟨trivial,trivial⟩,rfl⟩,⟨oa,rfl⟩,⟨ob,rfl⟩,trivial⟩ (by kernel_rfl) (by kernel_rfl)
  (.br a.2.2 (.leaf (pS2 b)) (.br b.2.2 (.leaf (pS2 a)) (.br (!(SL a b).2) (.leaf (.ap (F2s z2) (.ap (F2s z2) (.ap (.v (.bool true)) .e)))) (.leaf (.ap (F2s (smD S M (SL a b).1 a b).1) (.ap (F2s (smD S M (SL a b).1 a b).2.1) (.ap (.v (.bool false)) .e))))))) (by kernel_rfl)
  (br_sh (fun h=>leaf_sh (by unfold smR;rw[h];rfl)) fun h=>br_sh (fun h2=>leaf_sh (by unfold smR;rw[h,h2];rfl)) fun h2=>br_sh (fun h3=>leaf_sh (by unfold smR;rw[h,h2,show(SL a b).2=false by simpa using h3];rfl)) fun h3=>leaf_sh (by unfold smR;rw[h,h2,show(SL a b).2=true by simpa using h3];rfl))
/-! So many times. -/
def cRLen(B:Nat->Nat):Con:=conV 41 fun l=>match l with
 | [.w k]=>some (.na (B k),[])
 | _=>none
theorem cRLen_ok{base:Nat}{γ0:Pl}{w0:World}:ConOk Tryz.prog base γ0 w0 (cRLen fun k=>bl k 256):=conV_ok (fun _ _=>by kernel_rfl) fun us r q hr hq hok=>by
 split at hr
 ·rename_i k
  cases hr;exact⟨(by have:=bl_le k 256;show bl k 256<2^62;omega),rfl,fun γ w=>rlen_pw k (hok (.w k) (by simp)) w⟩
 ·cases hr
variable {TW:N2 × N2 × N2->N2 × N2 × N2} {PL:N2 × N2 × N2->N2 × N2 × Bool->N2 × N2 × N2} {B:Nat->Nat}
def rtd(TW:N2 × N2 × N2->N2 × N2 × N2)(PL:N2 × N2 × N2->N2 × N2 × Bool->N2 × N2 × N2)(kk:Nat)(P:N2 × N2 × Bool)(t:Nat)(x:N2 × N2 × N2):N2 × N2 × N2:=bif eqI ((kk / 2^t%2:Nat):Int) 1 then PL (TW x) P else TW x
def rtm(TW:N2 × N2 × N2->N2 × N2 × N2)(PL:N2 × N2 × N2->N2 × N2 × Bool->N2 × N2 × N2)(kk:Nat)(P:N2 × N2 × Bool):Nat->N2 × N2 × N2->N2 × N2 × N2
 | 0,x=>x
 | t+1,x=>rtm TW PL kk P t (rtd TW PL kk P t x)
def moreRT(m:Nat)(B:Nat->Nat)(M:N2->N2->N2)(I:N2->N2 × Bool)(TW:N2 × N2 × N2->N2 × N2 × N2)(PL:N2 × N2 × N2->N2 × N2 × Bool->N2 × N2 × N2):List Con:=[cRLen B,cBit,kM m M,kI m I,cH1 true m 0 42 shJ2 fun T=>jS2 (TW T),cH2 true m 0 44 shJ2 shP2 fun T q=>jS2 (PL T q)]
noncomputable def TRT (m:Nat) (B:Nat->Nat) (M:N2->N2->N2) (I:N2->N2 × Bool) (TW:N2 × N2 × N2->N2 × N2 × N2) (PL:N2 × N2 × N2->N2 × N2 × Bool->N2 × N2 × N2) (kk:Nat) (P:N2 × N2 × Bool):Tr:=(walk (E1 (moreRT m B M I TW PL)) (fun _=>0) Tryz.f14 [sG,.w kk,pS2 P]).on []
def stRT(kk:Nat)(P:N2 × N2 × Bool)(d:SV)(x:N2 × N2 × N2):St:=⟨[(3,some (.p 1 0 0 0)),(4,some (.p 2 0 0 0)),(5,some (.p 3 0 0 0)),(6,some (.p 4 0 0 0)),(7,some (.p 5 0 0 0)),(8,some d)],[(5,jS2 x,81),(4,p20,40),(3,pS2 P,40),(2,.w kk,24),(1,sG,29)],6⟩
def pnR(M:N2->N2->N2)(I:N2->N2 × Bool)(T:N2 × N2 × N2):N2 × N2 × Bool:=bif (I T.2.2).2 then (M T.1 (M (I T.2.2).1 (I T.2.2).1),M T.2.1 (M (M (I T.2.2).1 (I T.2.2).1) (I T.2.2).1),false)else (z2,z2,true)
theorem pnR_ok(oM:∀ a b,(F2s (M a b)).ok)(T:N2 × N2 × N2):(pS2 (pnR M I T)).ok:=by
 unfold pnR;cases (I T.2.2).2
 ·exact⟨F2z_ok,F2z_ok,trivial,trivial⟩
 ·exact⟨oM _ _,oM _ _,trivial,trivial⟩
def rtP(TW:N2 × N2 × N2->N2 × N2 × N2)(PL:N2 × N2 × N2->N2 × N2 × Bool->N2 × N2 × N2)(B:Nat->Nat)(M:N2->N2->N2)(I:N2->N2 × Bool)(kk:Nat)(P:N2 × N2 × Bool):N2 × N2 × Bool:=bif P.2.2 then pnR M I zJ2 else pnR M I (rtm TW PL kk P (B kk) zJ2)
end
end Sy
open Go.RowKit
namespace Sy
section
variable {m:Nat} {A S M:N2->N2->N2} {I:N2->N2 × Bool} {TW:N2 × N2 × N2->N2 × N2 × N2} {PL:N2 × N2 × N2->N2 × N2 × Bool->N2 × N2 × N2} {B:Nat->Nat}
structure RRT (TW:N2 × N2 × N2->N2 × N2 × N2) (PL:N2 × N2 × N2->N2 × N2 × Bool->N2 × N2 × N2) (kk:Nat) (P:N2 × N2 × Bool) (T:N2 × N2 × N2) (L:Nat) where
 s:Nat
 x:N2 × N2 × N2
 le:s<=L
 is:P.2.2=false->rtm TW PL kk P s x=T
 no:P.2.2=true->x=zJ2
 ok:(jS2 x).ok
theorem pnR_f{x:N2 × N2 × N2}(h:(I x.2.2).2=false):pnR M I x=(z2,z2,true):=by
 unfold pnR;rw[h];rfl
theorem pnR_t{x:N2 × N2 × N2}(h:(I x.2.2).2=true):pnR M I x=(M x.1 (M (I x.2.2).1 (I x.2.2).1),M x.2.1 (M (M (I x.2.2).1 (I x.2.2).1) (I x.2.2).1),false):=by
 unfold pnR;rw[h];rfl
theorem rtimes_walk(hb:Big m)(b256:∀ k,B k<=256)(hN:∀ base γ0 w0,ConOk Tryz.prog base γ0 w0 (cRLen B))(oT:∀ a,(jS2 (TW a)).ok)(oP:∀ a b,(jS2 a).ok->(pS2 b).ok->(jS2 (PL a b)).ok)(hM:IhM m M)(hI:IhI m I)(hT:Ih1 m 42 shJ2 fun T=>jS2 (TW T))(hP:Ih2 m 44 shJ2 shP2 fun T q=>jS2 (PL T q))(kk:Nat)(P:N2 × N2 × Bool)(ok:kk<2^256)(op:(pS2 P).ok)(F:Nat)(w:World)(hF:RFld w F m) :
  Calls Tryz.prog 14 ([sG,SV.w kk,pS2 P].map (·.val fun _=>F)).toArray w fun e w'=>e=.returned ((pS2 (rtP TW PL B M I kk P)).val fun _=>F)/\Below w.heap.size w w':=by
 have hL:B kk<=256:=b256 kk;have h62:(2:Nat)^62=4611686018427387904:=by decide
 refine calls_loop0 (γ0:=fun _=>F) (E1_ok (more:=moreRT m B M I TW PL) ⟨hN _ _ _,cBit_ok,hM _ _ _ _ (ROk.of hb hF),hI _ _ _ _ (ROk.of hb hF),hT _ _ _ _ (ROk.of hb hF),hP _ _ _ _ (ROk.of hb hF),trivial⟩) (by kernel_rfl) (fun _=>0) Tryz.func14 (by kernel_rfl) [sG,.w kk,pS2 P] ⟨⟨⟨trivial,trivial⟩,rfl⟩,⟨ok,rfl⟩,⟨op,rfl⟩,trivial⟩ (by kernel_rfl) (by kernel_rfl)
  (d:=0) (by kernel_rfl) (TRT m B M I TW PL kk P) (by kernel_rfl) ?_
 have eb:(E1 (moreRT m B M I TW PL)).base=1:=rfl;rw[eb];have hB:∀ d x,subB 1 (stRT kk P (dn d) x)=true:=fun d x=>by cases d <;> kernel_rfl
 have h0:Sub 1 (TRT m B M I TW PL kk P).stOf (stRT kk P (dn (B kk)) zJ2):=Sub.ofW [5,4,3,2,1] (hB _ _) ⟨.is (by kernel_rfl),.is (by kernel_rfl),.is (by kernel_rfl),.is (by kernel_rfl),.is (by kernel_rfl),.dn (n:=((B kk:Nat):Int) - ((1:Nat):Int)) (by kernel_rfl) rfl (by omega),trivial⟩ (by kernel_rfl);have hs:(TRT m B M I TW PL kk P).isLoop 0=true:=by kernel_rfl
 have d0:∀ x,(TRT m B M I TW PL kk P).round (stRT kk P (dn 0) x)=((TRT m B M I TW PL kk P).round (stRT kk P (dn 0) x)).diag:=fun x=>by kernel_rfl
 have z0:∀ x,((TRT m B M I TW PL kk P).round (stRT kk P (dn 0) x)).shape=.br (!(I x.2.2).2) (.leaf (.ap (F2s z2) (.ap (F2s z2) (.ap (.v (.bool true)) .e)))) (.leaf (.ap (F2s (M x.1 (M (I x.2.2).1 (I x.2.2).1))) (.ap (F2s (M x.2.1 (M (M (I x.2.2).1 (I x.2.2).1) (I x.2.2).1))) (.ap (.v (.bool false)) .e)))):=fun x=>by kernel_rfl
 have d1:∀ t x,(TRT m B M I TW PL kk P).round (stRT kk P (dn (t+1)) x)=((TRT m B M I TW PL kk P).round (stRT kk P (dn (t+1)) x)).diag:=fun t x=>by kernel_rfl
 have z1:∀ t x,((TRT m B M I TW PL kk P).round (stRT kk P (dn (t+1)) x)).shape=.br (bif !ltN t 0 then !P.2.2 else false) (.need (t<256) (.br (eqI ((kk / 2^t%2:Nat):Int) 1) (.cut 0) (.cut 0))) (.br (!(I x.2.2).2) (.leaf (.ap (F2s z2) (.ap (F2s z2) (.ap (.v (.bool true)) .e)))) (.leaf (.ap (F2s (M x.1 (M (I x.2.2).1 (I x.2.2).1))) (.ap (F2s (M x.2.1 (M (M (I x.2.2).1 (I x.2.2).1) (I x.2.2).1))) (.ap (.v (.bool false)) .e))))):=fun t x=>by kernel_rfl
 have n1:∀ t x,t<B kk->Sub 1 (((TRT m B M I TW PL kk P).round (stRT kk P (dn (t+1)) x)).on [true,true]).cutOf (stRT kk P (dn t) (PL (TW x) P)):=fun t x ht=>Sub.ofW [5,4,3,2,1] (hB _ _) ⟨.is (by kernel_rfl),.is (by kernel_rfl),.is (by kernel_rfl),.is (by kernel_rfl),.is (by kernel_rfl),.dn (n:=((t:Nat):Int) - ((1:Nat):Int)) (by kernel_rfl) rfl (by omega),trivial⟩ (by kernel_rfl);have n2:∀ t x,t<B kk->Sub 1 (((TRT m B M I TW PL kk P).round (stRT kk P (dn (t+1)) x)).on [true,false]).cutOf (stRT kk P (dn t) (TW x)):=fun t x ht=>Sub.ofW [5,4,3,2,1] (hB _ _) ⟨.is (by kernel_rfl),.is (by kernel_rfl),.is (by kernel_rfl),.is (by kernel_rfl),.is (by kernel_rfl),.dn (n:=((t:Nat):Int) - ((1:Nat):Int)) (by kernel_rfl) rfl (by omega),trivial⟩ (by kernel_rfl);have c1:∀ t x,(((TRT m B M I TW PL kk P).round (stRT kk P (dn (t+1)) x)).on [true,true]).isCut 0=true:=fun t x=>by kernel_rfl
 have c2:∀ t x,(((TRT m B M I TW PL kk P).round (stRT kk P (dn (t+1)) x)).on [true,false]).isCut 0=true:=fun t x=>by kernel_rfl
 unfold rtP;generalize TRT m B M I TW PL kk P=T at h0 hs d0 z0 d1 z1 n1 n2 c1 c2 |-
 generalize B kk=L at *;have fin:∀ s x,s<=L->(P.2.2=false->rtm TW PL kk P s x=rtm TW PL kk P L zJ2)->(P.2.2=true->x=zJ2)->(P.2.2=false->s=0)->pnR M I x=bif P.2.2 then pnR M I zJ2 else pnR M I (rtm TW PL kk P L zJ2):=fun s x _ h1 h2 h3=>by
  cases hp:P.2.2
  ·have e:=h1 hp
   rw[h3 hp]at e;rw[<- e];rfl
  ·rw[h2 hp]
   rfl
 have lf:∀(CU:Nat->St->Prop) x v,pnR M I x=v->∀ LL,Sh.wp (⟨fun r=>r.val (fun _=>F)=(pS2 v).val fun _=>F,CU⟩:Post) LL (.br (!(I x.2.2).2) (.leaf (.ap (F2s z2) (.ap (F2s z2) (.ap (.v (.bool true)) .e)))) (.leaf (.ap (F2s (M x.1 (M (I x.2.2).1 (I x.2.2).1))) (.ap (F2s (M x.2.1 (M (M (I x.2.2).1 (I x.2.2).1) (I x.2.2).1))) (.ap (.v (.bool false)) .e))))):=fun CU x v hv LL=>by
  subst hv;exact br_sh (fun h=>leaf_sh (by rw[pnR_f (show(I x.2.2).2=false by simpa using h)];rfl)) fun h=>leaf_sh (by rw[pnR_t (show(I x.2.2).2=true by simpa using h)];rfl)
 refine loop_wp (T:=T) 0 hs (ι:=RRT TW PL kk P (rtm TW PL kk P L zJ2) L) (fun r=>stRT kk P (dn r.s) r.x) (fun r=>r.s) ⟨L,zJ2,Nat.le_refl _,fun _=>rfl,fun _=>rfl,⟨F2z_ok,F2z_ok,F2z_ok,trivial⟩⟩ h0 fun⟨s,x,hle,his,hno,hox⟩=>?_;cases s with
 | zero =>
  refine wp_of_shape (d0 x) (L:=fun L'=>((T.round (stRT kk P (dn 0) x)).on L').wp 1 _) ?_ fun _ h=>h;rw[z0 x];exact lf _ x _ (fin 0 x hle his hno fun _=>rfl) _
 | succ t =>
  refine wp_of_shape (d1 t x) (L:=fun L'=>((T.round (stRT kk P (dn (t+1)) x)).on L').wp 1 _) ?_ fun _ h=>h;rw[z1 t x];have ht:t<L:=hle;have e:ltN t 0=false:=decide_eq_false (Nat.not_lt_zero t);have h256:t<256:=by omega
  refine⟨fun h=>?_,fun h=>?_⟩
  ·have hn:P.2.2=false:=by
    rw[e]at h;simpa using h
   refine need_sh h256 ⟨fun h=>?_,fun h=>?_⟩
   ·exact next_wp 0 (c1 t x) (st:=fun r:RRT TW PL kk P (rtm TW PL kk P L zJ2) L=>stRT kk P (dn r.s) r.x) ⟨t,PL (TW x) P,Nat.le_of_lt ht,fun _=>(by rw[<- his hn,rtm,rtd,h];rfl),fun hc=>(by rw[hn]at hc;cases hc),oP _ _ (oT _) op⟩ (Nat.lt_succ_self t) (n1 t x ht)
   ·exact next_wp 0 (c2 t x) (st:=fun r:RRT TW PL kk P (rtm TW PL kk P L zJ2) L=>stRT kk P (dn r.s) r.x) ⟨t,TW x,Nat.le_of_lt ht,fun _=>(by rw[<- his hn,rtm,rtd,h];rfl),fun hc=>(by rw[hn]at hc;cases hc),oT _⟩ (Nat.lt_succ_self t) (n2 t x ht)
  ·have hn:P.2.2=true:=by
    rw[e]at h;simpa using h
   exact lf _ x _ (fin (t+1) x hle his hno fun hc=>by rw[hn]at hc;cases hc) _
theorem rtP_ok(oM:∀ a b,(F2s (M a b)).ok)(kk:Nat)(P:N2 × N2 × Bool):(pS2 (rtP TW PL B M I kk P)).ok:=by
 unfold rtP;cases P.2.2
 ·exact pnR_ok oM _
 ·exact pnR_ok oM _
theorem rtimes_is(hb:Big m)(b256:∀ k,B k<=256)(hN:∀ base γ0 w0,ConOk Tryz.prog base γ0 w0 (cRLen B))(oT:∀ a,(jS2 (TW a)).ok)(oP:∀ a b,(jS2 a).ok->(pS2 b).ok->(jS2 (PL a b)).ok)(oM:∀ a b,(F2s (M a b)).ok)(hM:IhM m M)(hI:IhI m I)(hT:Ih1 m 42 shJ2 fun T=>jS2 (TW T))(hP:Ih2 m 44 shJ2 shP2 fun T q=>jS2 (PL T q)):Ih2 m 14 shW shP2 fun k P=>pS2 (rtP TW PL B M I k P):=fun _ _ _ _ hf=>cH2_ok hf (fun _ _=>by kernel_rfl) (fun k P _ _=>⟨rtP_ok oM k P,rfl⟩) fun F a b oa ob w hF=>by
 have h:=rtimes_walk hb b256 hN oT oP hM hI hT hP a b oa ob F w hF;exact h
end
end Sy
section
variable {K:Type} {F:CField K} {b:K}
def Jac(F:CField K)(T:K × K × K):Pt K->Prop
 | .none=>T.2.2=F.zero
 | .some x y=>T.2.2≠F.zero/\T.1=F.mul x (F.mul T.2.2 T.2.2)/\T.2.1=F.mul y (F.mul (F.mul T.2.2 T.2.2) T.2.2)
def jdbl(C:CRing K)(T:K × K × K):K × K × K :=
 let rise:=C.add T.2.1 T.2.1
 let half:=C.mul T.2.1 rise
 let square:=C.add half half
 let middle:=C.mul T.1 square
 let xx:=C.mul T.1 T.1
 let slope:=C.add (C.add xx xx) xx
 let x:=C.sub (C.mul slope slope) (C.add middle middle)
 (x,C.sub (C.mul slope (C.sub middle x)) (C.mul half square),C.mul rise T.2.2)
def jtwice[DecidableEq K](F:CField K)(T:K × K × K):K × K × K:=if T.2.2=F.zero then T else jdbl F.toCRing T
def jacross(C:CRing K)(T:K × K × K)(x2:K):K:=C.sub (C.mul x2 (C.mul T.2.2 T.2.2)) T.1
def jup(C:CRing K)(T:K × K × K)(y2:K):K:=C.sub (C.mul y2 (C.mul (C.mul T.2.2 T.2.2) T.2.2)) T.2.1
def jadd(C:CRing K)(T:K × K × K)(x2 y2:K):K × K × K :=
 let across:=jacross C T x2
 let up:=jup C T y2
 let square:=C.mul across across
 let cube:=C.mul square across
 let middle:=C.mul T.1 square
 let x:=C.sub (C.sub (C.mul up up) cube) (C.add middle middle)
 (x,C.sub (C.mul up (C.sub middle x)) (C.mul T.2.1 cube),C.mul T.2.2 across)
def jplus[DecidableEq K](F:CField K)(T:K × K × K):Pt K->K × K × K
 | .none=>T
 | .some x2 y2 =>
  if T.2.2=F.zero then (x2,y2,F.one)
  else if jacross F.toCRing T x2=F.zero/\jup F.toCRing T y2=F.zero then jtwice F T
  else jadd F.toCRing T x2 y2
theorem jd1(C:CRing K)(x z:K):(C.add (C.add (C.mul (C.mul x (C.mul z z)) (C.mul x (C.mul z z))) (C.mul (C.mul x (C.mul z z)) (C.mul x (C.mul z z)))) (C.mul (C.mul x (C.mul z z)) (C.mul x (C.mul z z))))=(C.mul (C.add (C.mul x x) (C.add (C.mul x x) (C.mul x x))) (C.mul (C.mul z z) (C.mul z z))):=ring4 C (lets x z C.zero C.zero) (.add (.add (.mul (.mul (.v 0) (.mul (.v 1) (.v 1))) (.mul (.v 0) (.mul (.v 1) (.v 1)))) (.mul (.mul (.v 0) (.mul (.v 1) (.v 1))) (.mul (.v 0) (.mul (.v 1) (.v 1))))) (.mul (.mul (.v 0) (.mul (.v 1) (.v 1))) (.mul (.v 0) (.mul (.v 1) (.v 1))))) (.mul (.add (.mul (.v 0) (.v 0)) (.add (.mul (.v 0) (.v 0)) (.mul (.v 0) (.v 0)))) (.mul (.mul (.v 1) (.v 1)) (.mul (.v 1) (.v 1)))) (by decide +kernel)
theorem jd2(C:CRing K)(s y z:K):(C.mul (C.mul s (C.add y y)) (C.mul (C.mul z z) (C.mul z z)))=(C.mul s (C.mul (C.add (C.mul y (C.mul (C.mul z z) z)) (C.mul y (C.mul (C.mul z z) z))) z)):=ring4 C (lets s y z C.zero) (.mul (.mul (.v 0) (.add (.v 1) (.v 1))) (.mul (.mul (.v 2) (.v 2)) (.mul (.v 2) (.v 2)))) (.mul (.v 0) (.mul (.add (.mul (.v 1) (.mul (.mul (.v 2) (.v 2)) (.v 2))) (.mul (.v 1) (.mul (.mul (.v 2) (.v 2)) (.v 2)))) (.v 2))) (by decide +kernel)
theorem jd3(C:CRing K)(x y z:K):(C.mul (C.mul x (C.mul z z)) (C.add (C.mul (C.mul y (C.mul (C.mul z z) z)) (C.add (C.mul y (C.mul (C.mul z z) z)) (C.mul y (C.mul (C.mul z z) z)))) (C.mul (C.mul y (C.mul (C.mul z z) z)) (C.add (C.mul y (C.mul (C.mul z z) z)) (C.mul y (C.mul (C.mul z z) z))))))=(C.mul x (C.mul (C.mul (C.add (C.mul y (C.mul (C.mul z z) z)) (C.mul y (C.mul (C.mul z z) z))) z) (C.mul (C.add (C.mul y (C.mul (C.mul z z) z)) (C.mul y (C.mul (C.mul z z) z))) z))):=ring4 C (lets x y z C.zero) (.mul (.mul (.v 0) (.mul (.v 2) (.v 2))) (.add (.mul (.mul (.v 1) (.mul (.mul (.v 2) (.v 2)) (.v 2))) (.add (.mul (.v 1) (.mul (.mul (.v 2) (.v 2)) (.v 2))) (.mul (.v 1) (.mul (.mul (.v 2) (.v 2)) (.v 2))))) (.mul (.mul (.v 1) (.mul (.mul (.v 2) (.v 2)) (.v 2))) (.add (.mul (.v 1) (.mul (.mul (.v 2) (.v 2)) (.v 2))) (.mul (.v 1) (.mul (.mul (.v 2) (.v 2)) (.v 2))))))) (.mul (.v 0) (.mul (.mul (.add (.mul (.v 1) (.mul (.mul (.v 2) (.v 2)) (.v 2))) (.mul (.v 1) (.mul (.mul (.v 2) (.v 2)) (.v 2)))) (.v 2)) (.mul (.add (.mul (.v 1) (.mul (.mul (.v 2) (.v 2)) (.v 2))) (.mul (.v 1) (.mul (.mul (.v 2) (.v 2)) (.v 2)))) (.v 2)))) (by decide +kernel)
theorem jd4a(C:CRing K)(v:K):(C.mul (C.mul v (C.add v v)) (C.add (C.mul v (C.add v v)) (C.mul v (C.add v v))))=(C.mul v (C.mul (C.mul (C.add v v) (C.add v v)) (C.add v v))):=ring4 C (lets v C.zero C.zero C.zero) (.mul (.mul (.v 0) (.add (.v 0) (.v 0))) (.add (.mul (.v 0) (.add (.v 0) (.v 0))) (.mul (.v 0) (.add (.v 0) (.v 0))))) (.mul (.v 0) (.mul (.mul (.add (.v 0) (.v 0)) (.add (.v 0) (.v 0))) (.add (.v 0) (.v 0)))) (by decide +kernel)
theorem jd4b(C:CRing K)(y z r:K):(C.mul (C.mul y (C.mul (C.mul z z) z)) (C.mul (C.mul r r) r))=(C.mul y (C.mul (C.mul (C.mul r z) (C.mul r z)) (C.mul r z))):=ring4 C (lets y z r C.zero) (.mul (.mul (.v 0) (.mul (.mul (.v 1) (.v 1)) (.v 1))) (.mul (.mul (.v 2) (.v 2)) (.v 2))) (.mul (.v 0) (.mul (.mul (.mul (.v 2) (.v 1)) (.mul (.v 2) (.v 1))) (.mul (.v 2) (.v 1)))) (by decide +kernel)
theorem j2x(C:CRing K)(x D S:K):(C.sub (C.mul S D) (C.add (C.mul x D) (C.mul x D)))=(C.mul (C.sub (C.sub S x) x) D):=ring4 C (lets x D S C.zero) (.sub (.mul (.v 2) (.v 1)) (.add (.mul (.v 0) (.v 1)) (.mul (.v 0) (.v 1)))) (.mul (.sub (.sub (.v 2) (.v 0)) (.v 0)) (.v 1)) (by decide +kernel)
theorem ja1(C:CRing K)(x1 x2 z:K):(C.sub (C.mul x2 (C.mul z z)) (C.mul x1 (C.mul z z)))=(C.mul (C.sub x2 x1) (C.mul z z)):=ring4 C (lets x1 x2 z C.zero) (.sub (.mul (.v 1) (.mul (.v 2) (.v 2))) (.mul (.v 0) (.mul (.v 2) (.v 2)))) (.mul (.sub (.v 1) (.v 0)) (.mul (.v 2) (.v 2))) (by decide +kernel)
theorem ja2(C:CRing K)(x1 x2 z:K):(C.sub (C.mul x2 (C.mul (C.mul z z) z)) (C.mul x1 (C.mul (C.mul z z) z)))=(C.mul (C.sub x2 x1) (C.mul (C.mul z z) z)):=ring4 C (lets x1 x2 z C.zero) (.sub (.mul (.v 1) (.mul (.mul (.v 2) (.v 2)) (.v 2))) (.mul (.v 0) (.mul (.mul (.v 2) (.v 2)) (.v 2)))) (.mul (.sub (.v 1) (.v 0)) (.mul (.mul (.v 2) (.v 2)) (.v 2))) (by decide +kernel)
theorem ja3(C:CRing K)(s d z:K):(C.mul (C.mul s d) (C.mul (C.mul z z) z))=(C.mul s (C.mul z (C.mul d (C.mul z z)))):=ring4 C (lets s d z C.zero) (.mul (.mul (.v 0) (.v 1)) (.mul (.mul (.v 2) (.v 2)) (.v 2))) (.mul (.v 0) (.mul (.v 2) (.mul (.v 1) (.mul (.v 2) (.v 2))))) (by decide +kernel)
theorem ja4(C:CRing K)(x a z:K):(C.mul (C.mul x (C.mul z z)) (C.mul a a))=(C.mul x (C.mul (C.mul z a) (C.mul z a))):=ring4 C (lets x a z C.zero) (.mul (.mul (.v 0) (.mul (.v 2) (.v 2))) (.mul (.v 1) (.v 1))) (.mul (.v 0) (.mul (.mul (.v 2) (.v 1)) (.mul (.v 2) (.v 1)))) (by decide +kernel)
theorem ja5(C:CRing K)(x a z:K):(C.mul (C.mul x (C.mul (C.mul z z) z)) (C.mul (C.mul a a) a))=(C.mul x (C.mul (C.mul (C.mul z a) (C.mul z a)) (C.mul z a))):=ring4 C (lets x a z C.zero) (.mul (.mul (.v 0) (.mul (.mul (.v 2) (.v 2)) (.v 2))) (.mul (.mul (.v 1) (.v 1)) (.v 1))) (.mul (.v 0) (.mul (.mul (.mul (.v 2) (.v 1)) (.mul (.v 2) (.v 1))) (.mul (.v 2) (.v 1)))) (by decide +kernel)
theorem ja6(C:CRing K)(d z:K):(C.mul (C.mul (C.mul d (C.mul z z)) (C.mul d (C.mul z z))) (C.mul d (C.mul z z)))=(C.mul d (C.mul (C.mul z (C.mul d (C.mul z z))) (C.mul z (C.mul d (C.mul z z))))):=ring4 C (lets d z C.zero C.zero) (.mul (.mul (.mul (.v 0) (.mul (.v 1) (.v 1))) (.mul (.v 0) (.mul (.v 1) (.v 1)))) (.mul (.v 0) (.mul (.v 1) (.v 1)))) (.mul (.v 0) (.mul (.mul (.v 1) (.mul (.v 0) (.mul (.v 1) (.v 1)))) (.mul (.v 1) (.mul (.v 0) (.mul (.v 1) (.v 1)))))) (by decide +kernel)
theorem ja7(C:CRing K)(S x1 x2 D:K):(C.sub (C.sub (C.mul S D) (C.mul (C.sub x2 x1) D)) (C.add (C.mul x1 D) (C.mul x1 D)))=(C.mul (C.sub (C.sub S x1) x2) D):=ring4 C (lets S x1 x2 D) (.sub (.sub (.mul (.v 0) (.v 3)) (.mul (.sub (.v 2) (.v 1)) (.v 3))) (.add (.mul (.v 1) (.v 3)) (.mul (.v 1) (.v 3)))) (.mul (.sub (.sub (.v 0) (.v 1)) (.v 2)) (.v 3)) (by decide +kernel)
theorem jsq(C:CRing K)(s D:K):(C.mul (C.mul s D) (C.mul s D))=(C.mul (C.mul s s) (C.mul D D)):=ring4 C (lets s D C.zero C.zero) (.mul (.mul (.v 0) (.v 1)) (.mul (.v 0) (.v 1))) (.mul (.mul (.v 0) (.v 0)) (.mul (.v 1) (.v 1))) (by decide +kernel)
theorem jp1(C:CRing K)(x z i:K):(C.mul (C.mul x (C.mul z z)) (C.mul i i))=(C.mul x (C.mul (C.mul z i) (C.mul z i))):=ring4 C (lets x z i C.zero) (.mul (.mul (.v 0) (.mul (.v 1) (.v 1))) (.mul (.v 2) (.v 2))) (.mul (.v 0) (.mul (.mul (.v 1) (.v 2)) (.mul (.v 1) (.v 2)))) (by decide +kernel)
theorem jp2(C:CRing K)(x z i:K):(C.mul (C.mul x (C.mul (C.mul z z) z)) (C.mul (C.mul i i) i))=(C.mul x (C.mul (C.mul (C.mul z i) (C.mul z i)) (C.mul z i))):=ring4 C (lets x z i C.zero) (.mul (.mul (.v 0) (.mul (.mul (.v 1) (.v 1)) (.v 1))) (.mul (.mul (.v 2) (.v 2)) (.v 2))) (.mul (.v 0) (.mul (.mul (.mul (.v 1) (.v 2)) (.mul (.v 1) (.v 2))) (.mul (.v 1) (.v 2)))) (by decide +kernel)
theorem jr1(C:CRing K)(X Y:K):(C.add (C.add (C.mul X (C.mul Y Y)) (C.mul X (C.mul Y Y))) (C.add (C.mul X (C.mul Y Y)) (C.mul X (C.mul Y Y))))=(C.mul X (C.add (C.mul Y (C.add Y Y)) (C.mul Y (C.add Y Y)))):=ring4 C (lets X Y C.zero C.zero) (.add (.add (.mul (.v 0) (.mul (.v 1) (.v 1))) (.mul (.v 0) (.mul (.v 1) (.v 1)))) (.add (.mul (.v 0) (.mul (.v 1) (.v 1))) (.mul (.v 0) (.mul (.v 1) (.v 1))))) (.mul (.v 0) (.add (.mul (.v 1) (.add (.v 1) (.v 1))) (.mul (.v 1) (.add (.v 1) (.v 1))))) (by decide +kernel)
theorem jr2(C:CRing K)(X:K):(C.add (C.mul X X) (C.add (C.mul X X) (C.mul X X)))=(C.add (C.add (C.mul X X) (C.mul X X)) (C.mul X X)):=ring4 C (lets X C.zero C.zero C.zero) (.add (.mul (.v 0) (.v 0)) (.add (.mul (.v 0) (.v 0)) (.mul (.v 0) (.v 0)))) (.add (.add (.mul (.v 0) (.v 0)) (.mul (.v 0) (.v 0))) (.mul (.v 0) (.v 0))) (by decide +kernel)
theorem jr3(C:CRing K)(Y:K):(C.add (C.add (C.add (C.mul (C.mul Y Y) (C.mul Y Y)) (C.mul (C.mul Y Y) (C.mul Y Y))) (C.add (C.mul (C.mul Y Y) (C.mul Y Y)) (C.mul (C.mul Y Y) (C.mul Y Y)))) (C.add (C.add (C.mul (C.mul Y Y) (C.mul Y Y)) (C.mul (C.mul Y Y) (C.mul Y Y))) (C.add (C.mul (C.mul Y Y) (C.mul Y Y)) (C.mul (C.mul Y Y) (C.mul Y Y)))))=(C.mul (C.mul Y (C.add Y Y)) (C.add (C.mul Y (C.add Y Y)) (C.mul Y (C.add Y Y)))):=ring4 C (lets Y C.zero C.zero C.zero) (.add (.add (.add (.mul (.mul (.v 0) (.v 0)) (.mul (.v 0) (.v 0))) (.mul (.mul (.v 0) (.v 0)) (.mul (.v 0) (.v 0)))) (.add (.mul (.mul (.v 0) (.v 0)) (.mul (.v 0) (.v 0))) (.mul (.mul (.v 0) (.v 0)) (.mul (.v 0) (.v 0))))) (.add (.add (.mul (.mul (.v 0) (.v 0)) (.mul (.v 0) (.v 0))) (.mul (.mul (.v 0) (.v 0)) (.mul (.v 0) (.v 0)))) (.add (.mul (.mul (.v 0) (.v 0)) (.mul (.v 0) (.v 0))) (.mul (.mul (.v 0) (.v 0)) (.mul (.v 0) (.v 0)))))) (.mul (.mul (.v 0) (.add (.v 0) (.v 0))) (.add (.mul (.v 0) (.add (.v 0) (.v 0))) (.mul (.v 0) (.add (.v 0) (.v 0))))) (by decide +kernel)
theorem jac_dbl[DecidableEq K](h:Curve F b){T:K × K × K}{x y:K}(hp:(Pt.some x y).On F b)(hT:Jac F T (.some x y)):Jac F (jdbl F.toCRing T) (psum F (.some x y) (.some x y)):=by
 have hy:=y_ne h.root hp;obtain⟨X,Y,z⟩:=T;obtain⟨hz,hX,hY⟩:=hT;dsimp only at hz hX hY;have hy2:=h.two y hy;have hs:=F.div_mul (F.add (F.mul x x) (F.add (F.mul x x) (F.mul x x))) hy2;have ep:psum F (.some x y) (.some x y)=lineTo F x y x (F.mul (F.add (F.mul x x) (F.add (F.mul x x) (F.mul x x))) (F.inv (F.add y y))):=by
  show(if x=x then (if y≠y\/y=F.zero then _ else _)else _)=_;rw[if_pos rfl,if_neg (by rintro(e | e);exact e rfl;exact hy e)]
 rw[ep];generalize F.mul (F.add (F.mul x x) (F.add (F.mul x x) (F.mul x x))) (F.inv (F.add y y))=s at hs |-
 have hzz:=F.mul_ne hz hz;have hY0:Y≠F.zero:=by rw[hY];exact F.mul_ne hy (F.mul_ne hzz hz)
 -- the parts
 have e1:F.add (F.add (F.mul X X) (F.mul X X)) (F.mul X X)=F.mul s (F.mul (F.add Y Y) z):=by
  rw[hX,hY,jd1,<- hs,jd2]
 have e2:F.mul X (F.add (F.mul Y (F.add Y Y)) (F.mul Y (F.add Y Y)))=F.mul x (F.mul (F.mul (F.add Y Y) z) (F.mul (F.add Y Y) z)):=by
  rw[hX,hY,jd3]
 have e3:F.mul (F.mul Y (F.add Y Y)) (F.add (F.mul Y (F.add Y Y)) (F.mul Y (F.add Y Y)))=F.mul y (F.mul (F.mul (F.mul (F.add Y Y) z) (F.mul (F.add Y Y) z)) (F.mul (F.add Y Y) z)):=by
  rw[jd4a];generalize F.add Y Y=r;rw[hY,jd4b]
 have hZ:F.mul (F.add Y Y) z≠F.zero:=F.mul_ne (h.two Y hY0) hz;refine⟨hZ,?_,?_⟩
 ·show F.sub (F.mul (F.add (F.add (F.mul X X) (F.mul X X)) (F.mul X X)) (F.add (F.add (F.mul X X) (F.mul X X)) (F.mul X X))) (F.add (F.mul X (F.add (F.mul Y (F.add Y Y)) (F.mul Y (F.add Y Y)))) (F.mul X (F.add (F.mul Y (F.add Y Y)) (F.mul Y (F.add Y Y)))))=F.mul _ (F.mul (F.mul (F.add Y Y) z) (F.mul (F.add Y Y) z))
  rw[e1,e2,jsq F.toCRing s,j2x]
 ·show F.sub (F.mul (F.add (F.add (F.mul X X) (F.mul X X)) (F.mul X X)) (F.sub (F.mul X (F.add (F.mul Y (F.add Y Y)) (F.mul Y (F.add Y Y)))) (F.sub (F.mul (F.add (F.add (F.mul X X) (F.mul X X)) (F.mul X X)) (F.add (F.add (F.mul X X) (F.mul X X)) (F.mul X X))) (F.add (F.mul X (F.add (F.mul Y (F.add Y Y)) (F.mul Y (F.add Y Y)))) (F.mul X (F.add (F.mul Y (F.add Y Y)) (F.mul Y (F.add Y Y)))))))) (F.mul (F.mul Y (F.add Y Y)) (F.add (F.mul Y (F.add Y Y)) (F.mul Y (F.add Y Y))))=F.mul _ (F.mul (F.mul (F.mul (F.add Y Y) z) (F.mul (F.add Y Y) z)) (F.mul (F.add Y Y) z))
  rw[e1,e2,e3,jsq F.toCRing s,j2x,r5,r4]
theorem jac_twice[DecidableEq K](h:Curve F b){T:K × K × K}{p:Pt K}(hp:p.On F b)(hT:Jac F T p):Jac F (jtwice F T) (psum F p p):=by
 cases p with
 | none =>
  have e:T.2.2=F.zero:=hT;show Jac F (if T.2.2=F.zero then T else _) .none;rw[if_pos e];exact e
 | some x y =>
  have e:T.2.2≠F.zero:=hT.1;have g:=jac_dbl h hp hT;show Jac F (if T.2.2=F.zero then T else _) _;rw[if_neg e];exact g
theorem jac_plus[DecidableEq K](h:Curve F b){T:K × K × K}{p q:Pt K}(hp:p.On F b)(hT:Jac F T p):Jac F (jplus F T q) (psum F p q):=by
 cases q with
 | none=>rw[psum_none_r];exact hT
 | some x2 y2 =>
  cases p with
  | none =>
   have e:T.2.2=F.zero:=hT;show Jac F (if T.2.2=F.zero then _ else _) (.some x2 y2);rw[if_pos e];refine⟨F.one_ne,?_,?_⟩
   ·show x2=F.mul x2 (F.mul F.one F.one)
    rw[F.mul_one,F.mul_one]
   ·show y2=F.mul y2 (F.mul (F.mul F.one F.one) F.one)
    rw[F.mul_one,F.mul_one,F.mul_one]
  | some x y =>
   have hT':=hT;obtain⟨X,Y,z⟩:=T;obtain⟨hz,hX,hY⟩:=hT;dsimp only at hz hX hY;have hzz:=F.mul_ne hz hz;have ha:jacross F.toCRing (X,Y,z) x2=F.mul (F.sub x2 x) (F.mul z z):=by
    show F.sub (F.mul x2 (F.mul z z)) X=_;rw[hX,ja1]
   have hu:jup F.toCRing (X,Y,z) y2=F.mul (F.sub y2 y) (F.mul (F.mul z z) z):=by
    show F.sub (F.mul y2 (F.mul (F.mul z z) z)) Y=_;rw[hY,ja2]
   have sub_self:∀ a:K,F.sub a a=F.zero:=fun a=>F.add_neg a;show Jac F (if z=F.zero then _ else if jacross F.toCRing (X,Y,z) x2=F.zero/\jup F.toCRing (X,Y,z) y2=F.zero then _ else _) (if x=x2 then _ else _);rw[if_neg hz];by_cases ex:x=x2
   ·subst ex
    by_cases ey:y=y2
    ·subst ey
     rw[if_pos ⟨by rw[ha,sub_self,F.zero_mul],by rw[hu,sub_self,F.zero_mul]⟩];exact jac_twice h hp hT'
    ·rw[if_neg (show ¬(jacross F.toCRing (X,Y,z) x=F.zero/\jup F.toCRing (X,Y,z) y2=F.zero) from fun e=>ey (F.eq_of_sub (F.left_zero (F.mul_ne hzz hz) (hu.symm.trans e.2))).symm),if_pos rfl,if_pos (show y≠y2\/y=F.zero from .inl ey)]
     show F.mul z (jacross F.toCRing (X,Y,z) x)=F.zero;rw[ha,sub_self,F.zero_mul,F.mul_comm,F.zero_mul]
   ·have hd:=ne_sub F.toCRing ex
    rw[if_neg ex,if_neg fun e=>ex (F.eq_of_sub (F.left_zero hzz (ha.symm.trans e.1))).symm];have hs:=F.div_mul (F.sub y2 y) hd;generalize F.mul (F.sub y2 y) (F.inv (F.sub x2 x))=s at hs |-
    have hA:jacross F.toCRing (X,Y,z) x2≠F.zero:=by rw[ha];exact F.mul_ne hd hzz
    have e1:jup F.toCRing (X,Y,z) y2=F.mul s (F.mul z (jacross F.toCRing (X,Y,z) x2)):=by
     rw[hu,ha,<- hs,ja3]
    have e4:F.mul (F.mul (jacross F.toCRing (X,Y,z) x2) (jacross F.toCRing (X,Y,z) x2)) (jacross F.toCRing (X,Y,z) x2)=F.mul (F.sub x2 x) (F.mul (F.mul z (jacross F.toCRing (X,Y,z) x2)) (F.mul z (jacross F.toCRing (X,Y,z) x2))):=by
     rw[ha,ja6]
    have e2:F.mul X (F.mul (jacross F.toCRing (X,Y,z) x2) (jacross F.toCRing (X,Y,z) x2))=F.mul x (F.mul (F.mul z (jacross F.toCRing (X,Y,z) x2)) (F.mul z (jacross F.toCRing (X,Y,z) x2))):=by
     generalize jacross F.toCRing (X,Y,z) x2=a;rw[hX,ja4]
    have e3:F.mul Y (F.mul (F.mul (jacross F.toCRing (X,Y,z) x2) (jacross F.toCRing (X,Y,z) x2)) (jacross F.toCRing (X,Y,z) x2))=F.mul y (F.mul (F.mul (F.mul z (jacross F.toCRing (X,Y,z) x2)) (F.mul z (jacross F.toCRing (X,Y,z) x2))) (F.mul z (jacross F.toCRing (X,Y,z) x2))):=by
     generalize jacross F.toCRing (X,Y,z) x2=a;rw[hY,ja5]
    have hx:F.sub (F.sub (F.mul (jup F.toCRing (X,Y,z) y2) (jup F.toCRing (X,Y,z) y2)) (F.mul (F.mul (jacross F.toCRing (X,Y,z) x2) (jacross F.toCRing (X,Y,z) x2)) (jacross F.toCRing (X,Y,z) x2))) (F.add (F.mul X (F.mul (jacross F.toCRing (X,Y,z) x2) (jacross F.toCRing (X,Y,z) x2))) (F.mul X (F.mul (jacross F.toCRing (X,Y,z) x2) (jacross F.toCRing (X,Y,z) x2))))=F.mul (F.sub (F.sub (F.mul s s) x) x2) (F.mul (F.mul z (jacross F.toCRing (X,Y,z) x2)) (F.mul z (jacross F.toCRing (X,Y,z) x2))):=by
     rw[e1,e2,e4,jsq F.toCRing s,ja7]
    refine⟨F.mul_ne hz hA,hx,?_⟩;show F.sub (F.mul (jup F.toCRing (X,Y,z) y2) (F.sub (F.mul X (F.mul (jacross F.toCRing (X,Y,z) x2) (jacross F.toCRing (X,Y,z) x2))) (F.sub (F.sub (F.mul (jup F.toCRing (X,Y,z) y2) (jup F.toCRing (X,Y,z) y2)) (F.mul (F.mul (jacross F.toCRing (X,Y,z) x2) (jacross F.toCRing (X,Y,z) x2)) (jacross F.toCRing (X,Y,z) x2))) (F.add (F.mul X (F.mul (jacross F.toCRing (X,Y,z) x2) (jacross F.toCRing (X,Y,z) x2))) (F.mul X (F.mul (jacross F.toCRing (X,Y,z) x2) (jacross F.toCRing (X,Y,z) x2))))))) (F.mul Y (F.mul (F.mul (jacross F.toCRing (X,Y,z) x2) (jacross F.toCRing (X,Y,z) x2)) (jacross F.toCRing (X,Y,z) x2)))=F.mul _ (F.mul (F.mul (F.mul z (jacross F.toCRing (X,Y,z) x2)) (F.mul z (jacross F.toCRing (X,Y,z) x2))) (F.mul z (jacross F.toCRing (X,Y,z) x2)));rw[hx,e1,e2,e3,r5,r4]
theorem jac_point{T:K × K × K}{p:Pt K}{i:K}(hT:Jac F T p)(hi:F.mul T.2.2 i=F.one):p=.some (F.mul T.1 (F.mul i i)) (F.mul T.2.1 (F.mul (F.mul i i) i)):=by
 obtain⟨X,Y,z⟩:=T;dsimp only at hi |-
 cases p with
 | none =>
  have e:z=F.zero:=hT;rw[e,F.zero_mul]at hi;exact absurd hi.symm F.one_ne
 | some x y =>
  obtain⟨hz,hX,hY⟩:=hT;dsimp only at hz hX hY;rw[hX,hY,jp1,jp2,hi,F.mul_one,F.mul_one,F.mul_one,F.mul_one]
def c3(C:CRing K):K:=C.add C.one (C.add C.one C.one)
def c4(C:CRing K):K:=C.add (C.add C.one C.one) (C.add C.one C.one)
def c8(C:CRing K):K:=C.add (c4 C) (c4 C)
theorem mul_c3(C:CRing K)(a:K):C.mul a (c3 C)=C.add a (C.add a a):=by unfold c3;rw[C.mul_add,C.mul_add,C.mul_one]
theorem mul_c4(C:CRing K)(a:K):C.mul a (c4 C)=C.add (C.add a a) (C.add a a):=by unfold c4;rw[C.mul_add,C.mul_add,C.mul_one]
theorem mul_c8(C:CRing K)(a:K):C.mul a (c8 C)=C.add (C.add (C.add a a) (C.add a a)) (C.add (C.add a a) (C.add a a)):=by unfold c8;rw[C.mul_add,mul_c4]
def rdbl(C:CRing K)(T:K × K × K):K × K × K :=
 let y2:=C.mul T.2.1 T.2.1
 let s:=C.mul (C.mul T.1 y2) (c4 C)
 let m:=C.mul (C.mul T.1 T.1) (c3 C)
 let x:=C.sub (C.mul m m) (C.add s s)
 (x,C.sub (C.mul m (C.sub s x)) (C.mul (C.mul y2 y2) (c8 C)),C.mul (C.add T.2.1 T.2.1) T.2.2)
theorem rdbl_is(C:CRing K)(T:K × K × K):rdbl C T=jdbl C T:=by
 obtain⟨X,Y,z⟩:=T;unfold rdbl jdbl;dsimp only;rw[mul_c3,mul_c4,mul_c8,jr1,jr2,jr3]
theorem jac_rdbl[DecidableEq K](h:Curve F b){T:K × K × K}{p:Pt K}(hp:p.On F b)(hT:Jac F T p):Jac F (rdbl F.toCRing T) (psum F p p):=by
 cases p with
 | none =>
  have e:T.2.2=F.zero:=hT;show F.mul (F.add T.2.1 T.2.1) T.2.2=F.zero;rw[e,F.mul_comm,F.zero_mul]
 | some x y=>rw[rdbl_is];exact jac_dbl h hp hT
def rplus[DecidableEq K](F:CField K)(T:K × K × K)(x2 y2:K):K × K × K :=
 if T.2.2=F.zero then (x2,y2,F.one)
 else if jacross F.toCRing T x2=F.zero then (if jup F.toCRing T y2=F.zero then rdbl F.toCRing T else (F.zero,F.zero,F.zero))
 else jadd F.toCRing T x2 y2
theorem jac_rplus[DecidableEq K](h:Curve F b){T:K × K × K}{p:Pt K}{x2 y2:K}(hp:p.On F b)(hT:Jac F T p):Jac F (rplus F T x2 y2) (psum F p (.some x2 y2)):=by
 have g:=jac_plus (q:=.some x2 y2) h hp hT;change Jac F (if T.2.2=F.zero then (x2,y2,F.one)else if jacross F.toCRing T x2=F.zero/\jup F.toCRing T y2=F.zero then jtwice F T else jadd F.toCRing T x2 y2) _ at g;unfold rplus;by_cases hz:T.2.2=F.zero
 ·rw[if_pos hz]at g |-;exact g
 ·rw[if_neg hz]at g |-
  by_cases ha:jacross F.toCRing T x2=F.zero
  ·rw[if_pos ha]
   by_cases hu:jup F.toCRing T y2=F.zero
   ·rw[if_pos ⟨ha,hu⟩]at g
    rw[if_pos hu,rdbl_is];unfold jtwice at g;rwa [if_neg hz]at g
   ·rw[if_neg fun e=>hu e.2]at g
    rw[if_neg hu];have e0:(jadd F.toCRing T x2 y2).2.2=F.zero:=by
     show F.mul T.2.2 (jacross F.toCRing T x2)=F.zero;rw[ha,F.mul_comm,F.zero_mul]
    generalize psum F p (.some x2 y2)=P at g |-
    cases P with
    | none=>rfl
    | some x y=>exact absurd e0 g.1
  ·rw[if_neg ha]
   rwa [if_neg fun e=>ha e.1]at g
end
end Go.Proofs.YtadfjjfklihaaaaGreat
