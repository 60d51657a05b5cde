/- The document's Times: the loop. (Cut to what is reached, written closely: TwI · PrR · PrS · PrT3.) -/
import Derived.Test.YtadfjjfklihaaaaGreatQ37
import Derived.Test.YtadfjjfklihaaaaGreatQ36
set_option linter.all false
set_option maxRecDepth 100000
set_option maxHeartbeats 8000000
namespace Go.Proofs.YtadfjjfklihaaaaGreat
open Go.RowKit
namespace Sy
def nw(m:Nat)(a:N2):Nat:=(a.1*a.1%m+a.2*a.2%m)%m
def pi2(m:Nat)(a:N2):N2 × Bool:=((a.1*rIv m (nw m a)%m,(0%m+(m - a.2*rIv m (nw m a)%m%m))%m),eqN (nw m a*iv m (nw m a)%m) 1)
section
variable {m:Nat}
theorem md_ok(hb:1<m)(hm:m<2^256)(a b:Nat):(F2s (a%m,b%m)).ok:=⟨Nat.lt_trans (Nat.mod_lt _ (Nat.lt_of_lt_of_le (by decide) hb)) hm,Nat.lt_trans (Nat.mod_lt _ (Nat.lt_of_lt_of_le (by decide) hb)) hm,trivial⟩
theorem inv2_is:Is1 m 120 sh2 fun a=>.tu (F2s (pi2 m a).1) (.b (pi2 m a).2):=fun _ _ _ hf=>cT1_ok hf (fun _ _=>by kernel_rfl) (fun a _=>⟨⟨md_ok hf.big hf.lt _ _,trivial⟩,rfl⟩) fun F a oa w hF =>
 calls_at (E1_ok (flds_ok (FOk.of hF))) (by kernel_rfl) (fun _=>0) Tryz.func120 (by kernel_rfl) [sG,F2s a] ⟨⟨⟨trivial,trivial⟩,rfl⟩,⟨oa,rfl⟩,trivial⟩ (by kernel_rfl) (by kernel_rfl) (.leaf (.tu (F2s (pi2 m a).1) (.b (pi2 m a).2))) (by kernel_rfl) rfl
end
section
variable {S:N2->N2->N2} {C:N2->N2} {I:N2->N2 × Bool}
theorem Sub2_is(o:∀ a b,(F2s (S a b)).ok)(hS:Is2 pB 118 sh2 sh2 fun a b=>F2s (S a b)):Is00 85 sh2 sh2 fun a b=>F2s (S a b):=fun _ _ _=>cV2_ok (fun _ _=>by kernel_rfl) (fun a b _ _=>⟨o a b,rfl⟩) fun a b oa ob w =>
 calls_at (E1_ok (γ0:=o0) (more:=[cFields,cT2 false pB 118 sh2 sh2 fun a b=>F2s (S a b)]) ⟨cFields_ok,hS _ _ _ (fB w),trivial⟩) (by kernel_rfl) (fun _=>0) Tryz.func85 (by kernel_rfl) [F2s a,F2s b] ⟨⟨oa,rfl⟩,⟨ob,rfl⟩,trivial⟩ (by kernel_rfl) (by kernel_rfl) (.leaf (F2s (S a b))) (by kernel_rfl) rfl
theorem Inv2_is(o:∀ a,(F2s (I a).1).ok)(hI:Is1 pB 120 sh2 fun a=>.tu (F2s (I a).1) (.b (I a).2)):Is0 87 sh2 fun a=>.tu (F2s (I a).1) (.b (I a).2):=fun _ _ _=>cV1_ok (fun _ _=>by kernel_rfl) (fun a _=>⟨⟨o a,trivial⟩,rfl⟩) fun a oa w =>
 calls_at (E1_ok (γ0:=o0) (more:=[cFields,cT1 false pB 120 sh2 fun a=>.tu (F2s (I a).1) (.b (I a).2)]) ⟨cFields_ok,hI _ _ _ (fB w),trivial⟩) (by kernel_rfl) (fun _=>0) Tryz.func87 (by kernel_rfl) [F2s a] ⟨⟨oa,rfl⟩,trivial⟩ (by kernel_rfl) (by kernel_rfl) (.leaf (.tu (F2s (I a).1) (.b (I a).2))) (by kernel_rfl) rfl
end
def S2:N2->N2->N2:=s2 prB
theorem Sub2_at:Is00 85 sh2 sh2 fun a b=>F2s (S2 a b):=Sub2_is (fun _ _=>F2v_ok ltB _) (sub2_is prB)
theorem Inv2_at:Is0 87 sh2 fun a=>.tu (F2s (pi2 pB a).1) (.b (pi2 pB a).2):=Inv2_is (fun _=>md_ok (by decide) ltB _ _) inv2_is
theorem Tadd_at:Ih2 pB 63 sh2 sh2 fun a b=>F2s (ra2 pB a b):=Tadd_is bB
theorem Tsub_at:Ih2 pB 39 sh2 sh2 fun a b=>F2s (rs2 pB a b):=Tsub_is bB
theorem Tmul_at:Ih2 pB 40 sh2 sh2 fun a b=>F2s (rm2 pB a b):=Tmul_is bB
theorem Tconj_at:Ih1 pB 79 sh2 fun a=>F2s (rc2 pB a):=Tconj_is bB
theorem Tinv_at:Ih1 pB 45 sh2 fun a=>.tu (F2s (ri2 pB (rc2 pB) (rm2 pB) a).1) (.b (ri2 pB (rc2 pB) (rm2 pB) a).2):=Tinv_is bB Tconj_at Tmul_at
end Sy
open Go.RowKit
namespace Sy
def e2(a b:N2):Bool:=eqL (wl2 a) (wl2 b)
/-! Dots and points. -/
theorem F2_is:Is0 33 shW fun a=>F2s (a,0):=fun _ _ _=>cV1_ok (fun _ _=>by kernel_rfl) (fun a oa=>⟨⟨oa,w0_ok,trivial⟩,rfl⟩) fun a oa w =>
 calls_at (w0:=w) (γ0:=o0) (E1_ok (more:=[]) trivial) (by kernel_rfl) (fun _=>0) Tryz.func33 (by kernel_rfl) [.w a] ⟨⟨oa,rfl⟩,trivial⟩ (by kernel_rfl) (by kernel_rfl) (.leaf (F2s (a,0))) (by kernel_rfl) rfl
def cF2:Con:=cV1 33 shW fun a=>F2s (a,0)
theorem OfTw_is:Is0 22 shP2 fun P=>pS2 P:=fun _ _ _=>cV1_ok (fun _ _=>by kernel_rfl) (fun a oa=>⟨oa,rfl⟩) fun a oa w =>
 calls_at (w0:=w) (γ0:=o0) (E1_ok (more:=[]) trivial) (by kernel_rfl) (fun _=>0) Tryz.func22 (by kernel_rfl) [pS2 a] ⟨⟨oa,rfl⟩,trivial⟩ (by kernel_rfl) (by kernel_rfl) (.leaf (pS2 a)) (by kernel_rfl) rfl
def twD(D:N2 × N2 × Bool):N2 × N2 × Bool:=bif D.2.2 then (z2,z2,true)else (D.1,D.2.1,false)
theorem twD_ok{D:N2 × N2 × Bool}(h:(pS2 D).ok):(pS2 (twD D)).ok:=by
 unfold twD;cases D.2.2
 ·exact⟨h.1,h.2.1,trivial,trivial⟩
 ·exact⟨F2z_ok,F2z_ok,trivial,trivial⟩
theorem Twist_is:Is0 21 shP2 fun D=>pS2 (twD D):=fun _ _ _=>cV1_ok (fun _ _=>by kernel_rfl) (fun a oa=>⟨twD_ok oa,rfl⟩) fun a oa w =>
 calls_at (w0:=w) (γ0:=o0) (E1_ok (more:=[]) trivial) (by kernel_rfl) (fun _=>0) Tryz.func21 (by kernel_rfl) [pS2 a] ⟨⟨oa,rfl⟩,trivial⟩ (by kernel_rfl) (by kernel_rfl)
  (.br a.2.2 (.leaf (.ap (F2s z2) (.ap (F2s z2) (.ap (.v (.bool true)) .e)))) (.leaf (.ap (F2s a.1) (.ap (F2s a.2.1) (.ap (.v (.bool false)) .e))))) (by kernel_rfl) (br_sh (fun h=>leaf_sh (by unfold twD;rw[h];rfl)) fun h=>leaf_sh (by unfold twD;rw[h];rfl))
/-! Numbers of the tower by letters. -/
section
variable {m:Nat} {A S M:N2->N2->N2} {I:N2->N2 × Bool}
abbrev IhA(m:Nat)(A:N2->N2->N2):Prop:=Ih2 m 63 sh2 sh2 fun a b=>F2s (A a b)
abbrev IhS(m:Nat)(A:N2->N2->N2):Prop:=Ih2 m 39 sh2 sh2 fun a b=>F2s (A a b)
abbrev IhM(m:Nat)(A:N2->N2->N2):Prop:=Ih2 m 40 sh2 sh2 fun a b=>F2s (A a b)
abbrev IhI(m:Nat)(I:N2->N2 × Bool):Prop:=Ih1 m 45 sh2 fun a=>.tu (F2s (I a).1) (.b (I a).2)
abbrev kA(m:Nat)(A:N2->N2->N2):Con:=cH2 true m 0 63 sh2 sh2 fun a b=>F2s (A a b)
abbrev kS(m:Nat)(A:N2->N2->N2):Con:=cH2 true m 0 39 sh2 sh2 fun a b=>F2s (A a b)
abbrev kM(m:Nat)(A:N2->N2->N2):Con:=cH2 true m 0 40 sh2 sh2 fun a b=>F2s (A a b)
abbrev kI(m:Nat)(I:N2->N2 × Bool):Con:=cH1 true m 0 45 sh2 fun a=>.tu (F2s (I a).1) (.b (I a).2)
def dK:SV->Option Nat
 | .v (.int .u64 n)=>if n=2 then some 2 else if n=3 then some 3 else if n=4 then some 4 else if n=8 then some 8 else none
 | _=>none
def cSm(ext:Bool)(m lo:Nat)(M:N2->N2->N2):Con:=conH ext m lo 78 fun l=>match l with
 | [x,y]=>match d2 x,dK y with
  | some a,some n=>some (F2s (M a (n,0)),[])
  | _,_=>none
 | _=>none
theorem small_at(hb:Big m)(hM:IhM m M)(n:Nat)(hn:n=2\/n=3\/n=4\/n=8)(F:Nat)(a:N2)(oa:(F2s a).ok)(w:World)(hF:RFld w F m):Calls Tryz.prog 78 #[.agg #[.pointer (some ⟨F,0,none⟩)],(F2s a).val o0,.int .u64 (n:Nat)] w fun e w'=>e=.returned ((F2s (M a (n,0))).val o0)/\Below w.heap.size w w':=by
 rcases hn with rfl | rfl | rfl | rfl
 ·exact calls_at (w0:=w) (γ0:=fun _=>F) (E1_ok (more:=[kM m M,cF2]) ⟨hM _ _ _ _ (ROk.of hb hF),F2_is _ _ _,trivial⟩) (by kernel_rfl) (fun _=>0) Tryz.func78 (by kernel_rfl) [sG,F2s a,.v (.int .u64 2)] ⟨⟨⟨trivial,trivial⟩,rfl⟩,⟨oa,rfl⟩,⟨trivial,rfl⟩,trivial⟩ (by kernel_rfl) (by kernel_rfl) (.leaf (F2s (M a (2,0)))) (by kernel_rfl) rfl
 ·exact calls_at (w0:=w) (γ0:=fun _=>F) (E1_ok (more:=[kM m M,cF2]) ⟨hM _ _ _ _ (ROk.of hb hF),F2_is _ _ _,trivial⟩) (by kernel_rfl) (fun _=>0) Tryz.func78 (by kernel_rfl) [sG,F2s a,.v (.int .u64 3)] ⟨⟨⟨trivial,trivial⟩,rfl⟩,⟨oa,rfl⟩,⟨trivial,rfl⟩,trivial⟩ (by kernel_rfl) (by kernel_rfl) (.leaf (F2s (M a (3,0)))) (by kernel_rfl) rfl
 ·exact calls_at (w0:=w) (γ0:=fun _=>F) (E1_ok (more:=[kM m M,cF2]) ⟨hM _ _ _ _ (ROk.of hb hF),F2_is _ _ _,trivial⟩) (by kernel_rfl) (fun _=>0) Tryz.func78 (by kernel_rfl) [sG,F2s a,.v (.int .u64 4)] ⟨⟨⟨trivial,trivial⟩,rfl⟩,⟨oa,rfl⟩,⟨trivial,rfl⟩,trivial⟩ (by kernel_rfl) (by kernel_rfl) (.leaf (F2s (M a (4,0)))) (by kernel_rfl) rfl
 ·exact calls_at (w0:=w) (γ0:=fun _=>F) (E1_ok (more:=[kM m M,cF2]) ⟨hM _ _ _ _ (ROk.of hb hF),F2_is _ _ _,trivial⟩) (by kernel_rfl) (fun _=>0) Tryz.func78 (by kernel_rfl) [sG,F2s a,.v (.int .u64 8)] ⟨⟨⟨trivial,trivial⟩,rfl⟩,⟨oa,rfl⟩,⟨trivial,rfl⟩,trivial⟩ (by kernel_rfl) (by kernel_rfl) (.leaf (F2s (M a (8,0)))) (by kernel_rfl) rfl
theorem dK_ok{x:SV}{n:Nat}(h:dK x=some n):(n=2\/n=3\/n=4\/n=8)/\x=.v (.int .u64 (n:Nat)):=by
 unfold dK at h
 split at h
 ·rename_i k
  split at h
  ·rename_i e
   cases h;exact⟨.inl rfl,by rw[e];rfl⟩
  ·split at h
   ·rename_i e
    cases h;exact⟨.inr (.inl rfl),by rw[e];rfl⟩
   ·split at h
    ·rename_i e
     cases h;exact⟨.inr (.inr (.inl rfl)),by rw[e];rfl⟩
    ·split at h
     ·rename_i e
      cases h;exact⟨.inr (.inr (.inr rfl)),by rw[e];rfl⟩
     ·cases h
 ·cases h
theorem cSm_ok(hb:Big m)(oM:∀ a b,(F2s (M a b)).ok)(hM:IhM m M){ext:Bool}{lo:Nat}{γ0:Pl}{w0:World}(hf:ROk ext m lo γ0 w0):ConOk Tryz.prog 1 γ0 w0 (cSm ext m lo M):=conH_ok hf (fun _ _=>by kernel_rfl) fun us r q hr _ hok=>by
 split at hr
 ·rename_i x y
  split at hr
  ·rename_i a n hx hy
   cases hr;obtain rfl:=d2_ok _ _ hx;obtain⟨hn,rfl⟩:=dK_ok hy;refine⟨oM _ _,rfl,fun γ F w hF=>?_⟩;simp only[List.map_cons,List.map_nil];rw[val0 (γ:=γ) (x:=F2s (M a (n,0))) rfl,val0 (γ:=γ) (x:=F2s a) rfl];exact small_at hb hM n hn F a (hok (F2s a) (by simp)) w hF
  ·cases hr
 ·cases hr
def rtw(A S M:N2->N2->N2)(T:N2 × N2 × N2):N2 × N2 × N2 :=
 let y2:=M T.2.1 T.2.1
 let s:=M (M T.1 y2) (4,0)
 let t:=M (M T.1 T.1) (3,0)
 let x:=S (M t t) (A s s)
 (x,S (M t (S s x)) (M (M y2 y2) (8,0)),M (M T.2.1 T.2.2) (2,0))
def rpad(A S M:N2->N2->N2)(T:N2 × N2 × N2)(q:N2 × N2 × Bool):N2 × N2 × N2 :=
 let h:=pac2 S M T q.1
 let r:=S (M q.2.1 (M (M T.2.2 T.2.2) T.2.2)) T.2.1
 let h2:=M h h
 let h3:=M h2 h
 let v:=M T.1 h2
 let x:=S (S (M r r) h3) (A v v)
 (x,S (M r (S v x)) (M T.2.1 h3),M T.2.2 h)
def rpl(A S M:N2->N2->N2)(TW:N2 × N2 × N2->N2 × N2 × N2)(T:N2 × N2 × N2)(q:N2 × N2 × Bool):N2 × N2 × N2 :=
 bif zr2 T then (q.1,q.2.1,(1,0))else bif e2 (pac2 S M T q.1) z2 then (bif e2 (pup2 S M T q.2.1) z2 then TW T else zJ2)else rpad A S M T q
def slp(A S M:N2->N2->N2)(I:N2->N2 × Bool)(p q:N2 × N2 × Bool):N2 × Bool :=
 bif e2 p.1 q.1 then (bif (bif !e2 p.2.1 q.2.1 then true else e2 p.2.1 z2)then (z2,false)else (M (A (M p.1 p.1) (A (M p.1 p.1) (M p.1 p.1))) (I (A p.2.1 p.2.1)).1,true))else (M (S q.2.1 p.2.1) (I (S q.1 p.1)).1,true)
def smD(S M:N2->N2->N2)(s:N2)(p q:N2 × N2 × Bool):N2 × N2 × Bool :=
 let x:=S (S (M s s) p.1) q.1
 (x,S (M s (S p.1 x)) p.2.1,false)
def smR(S M:N2->N2->N2)(SL:N2 × N2 × Bool->N2 × N2 × Bool->N2 × Bool)(p q:N2 × N2 × Bool):N2 × N2 × Bool :=
 bif p.2.2 then q else bif q.2.2 then p else bif (SL p q).2 then smD S M (SL p q).1 p q else (z2,z2,true)
def sqD(A M:N2->N2->N2)(D:N2 × N2 × Bool)(b:N2):Bool:=e2 (M D.2.1 D.2.1) (A (M (M D.1 D.1) D.1) b)
theorem square_is(hb:Big m)(hA:IhA m A)(hM:IhM m M):Ih2 m 32 shP2 sh2 fun D b=>.b (sqD A M D b):=fun _ _ _ _ hf=>cH2_ok hf (fun _ _=>by kernel_rfl) (fun _ _ _ _=>⟨trivial,rfl⟩) fun F a b oa ob w hF=>by
 have h:=calls_at (w0:=w) (γ0:=fun _=>F) (V:=(SV.b (sqD A M a b)).val o0) (E1_ok (more:=[kA m A,kM m M]) ⟨hA _ _ _ _ (ROk.of hb hF),hM _ _ _ _ (ROk.of hb hF),trivial⟩) (by kernel_rfl) (fun _=>0) Tryz.func32 (by kernel_rfl) [sG,pS2 a,F2s b] ⟨⟨⟨trivial,trivial⟩,rfl⟩,⟨oa,rfl⟩,⟨ob,rfl⟩,trivial⟩ (by kernel_rfl) (by kernel_rfl) (.leaf (.b (sqD A M a b))) (by kernel_rfl) (leaf_sh (val0 (x:=.b (sqD A M a b)) rfl));exact h
theorem rtwice_is(hb:Big m)(oS:∀ a b,(F2s (S a b)).ok)(oM:∀ a b,(F2s (M a b)).ok)(hA:IhA m A)(hS:IhS m S)(hM:IhM m M):Ih1 m 42 shJ2 fun T=>jS2 (rtw A S M T):=fun _ _ _ _ hf=>cH1_ok hf (fun _ _=>by kernel_rfl) (fun _ _=>⟨⟨oS _ _,oS _ _,oM _ _,trivial⟩,rfl⟩) fun F a oa w hF =>
 calls_at (w0:=w) (γ0:=fun _=>F) (E1_ok (more:=[kA m A,kS m S,kM m M,cSm true m 0 M]) ⟨hA _ _ _ _ (ROk.of hb hF),hS _ _ _ _ (ROk.of hb hF),hM _ _ _ _ (ROk.of hb hF),cSm_ok hb oM hM (ROk.of hb hF),trivial⟩) (by kernel_rfl) (fun _=>0) Tryz.func42 (by kernel_rfl) [sG,jS2 a] ⟨⟨⟨trivial,trivial⟩,rfl⟩,⟨oa,rfl⟩,trivial⟩ (by kernel_rfl) (by kernel_rfl) (.leaf (jS2 (rtw A S M a))) (by kernel_rfl) rfl
end
end Sy
open Go.RowKit
namespace Sy
section
variable {m:Nat} {A S M:N2->N2->N2} {I:N2->N2 × Bool}
theorem rpl_ok{TW:N2 × N2 × N2->N2 × N2 × N2}(oS:∀ a b,(F2s (S a b)).ok)(oM:∀ a b,(F2s (M a b)).ok)(oT:∀ a,(jS2 (TW a)).ok)(T:N2 × N2 × N2){q:N2 × N2 × Bool}(h:(pS2 q).ok):(jS2 (rpl A S M TW T q)).ok:=by
 unfold rpl;cases zr2 T
 ·cases e2 (pac2 S M T q.1) z2
  ·exact⟨oS _ _,oS _ _,oM _ _,trivial⟩
  ·cases e2 (pup2 S M T q.2.1) z2
   ·exact⟨F2z_ok,F2z_ok,F2z_ok,trivial⟩
   ·exact oT _
 ·exact⟨h.1,h.2.1,one2_ok,trivial⟩
theorem rplus_is(hb:Big m){TW:N2 × N2 × N2->N2 × N2 × N2}(oS:∀ a b,(F2s (S a b)).ok)(oM:∀ a b,(F2s (M a b)).ok)(oT:∀ a,(jS2 (TW a)).ok)(hA:IhA m A)(hS:IhS m S)(hM:IhM m M)(hT:Ih1 m 42 shJ2 fun T=>jS2 (TW T)):Ih2 m 44 shJ2 shP2 fun T q=>jS2 (rpl A S M TW T q):=fun _ _ _ _ hf=>cH2_ok hf (fun _ _=>by kernel_rfl) (fun T q _ oq=>⟨rpl_ok oS oM oT T oq,rfl⟩) fun F a b oa ob w hF =>
 calls_at (w0:=w) (γ0:=fun _=>F) (E1_ok (more:=[kA m A,kS m S,kM m M,cH1 true m 0 42 shJ2 fun T=>jS2 (TW T),cF2]) ⟨hA _ _ _ _ (ROk.of hb hF),hS _ _ _ _ (ROk.of hb hF),hM _ _ _ _ (ROk.of hb hF),hT _ _ _ _ (ROk.of hb hF),F2_is _ _ _,trivial⟩) (by kernel_rfl) (fun _=>0) Tryz.func44 (by kernel_rfl) [sG,jS2 a,pS2 b] ⟨⟨⟨trivial,trivial⟩,rfl⟩,⟨oa,rfl⟩,⟨ob,rfl⟩,trivial⟩ (by kernel_rfl) (by kernel_rfl)
  (.br (zr2 a) (.leaf (jS2 (b.1,b.2.1,(1,0)))) (.br (e2 (pac2 S M a b.1) z2) (.br (e2 (pup2 S M a b.2.1) z2) (.leaf (jS2 (TW a))) (.leaf (jS2 zJ2))) (.leaf (jS2 (rpad A S M a b))))) (by kernel_rfl)
  (br_sh (fun h=>leaf_sh (by unfold rpl;rw[h];rfl)) fun h=>br_sh (fun h2=>br_sh (fun h3=>leaf_sh (by unfold rpl;rw[h,h2,h3];rfl)) fun h3=>leaf_sh (by unfold rpl;rw[h,h2,h3];rfl)) fun h2=>leaf_sh (by unfold rpl;rw[h,h2];rfl))
theorem slp_ok(oM:∀ a b,(F2s (M a b)).ok)(p q:N2 × N2 × Bool):(F2s (slp A S M I p q).1).ok:=by
 unfold slp;cases e2 p.1 q.1
 ·exact oM _ _
 ·cases (bif !e2 p.2.1 q.2.1 then true else e2 p.2.1 z2)
  ·exact oM _ _
  ·exact F2z_ok
theorem slope_is(hb:Big m)(oM:∀ a b,(F2s (M a b)).ok)(hA:IhA m A)(hS:IhS m S)(hM:IhM m M)(hI:IhI m I):Ih2 m 38 shP2 shP2 fun p q=>.tu (F2s (slp A S M I p q).1) (.b (slp A S M I p q).2):=fun _ _ _ _ hf=>cH2_ok hf (fun _ _=>by kernel_rfl) (fun p q _ _=>⟨⟨slp_ok oM p q,trivial⟩,rfl⟩) fun F a b oa ob w hF =>
 calls_at (w0:=w) (γ0:=fun _=>F) (E1_ok (more:=[kA m A,kS m S,kM m M,kI m I]) ⟨hA _ _ _ _ (ROk.of hb hF),hS _ _ _ _ (ROk.of hb hF),hM _ _ _ _ (ROk.of hb hF),hI _ _ _ _ (ROk.of hb hF),trivial⟩) (by kernel_rfl) (fun _=>0) Tryz.func38 (by kernel_rfl) [sG,pS2 a,pS2 b] ⟨⟨⟨trivial,trivial⟩,rfl⟩,⟨oa,rfl⟩,⟨ob,rfl⟩,trivial⟩ (by kernel_rfl) (by kernel_rfl)
  (.br (e2 a.1 b.1) (.br (bif !e2 a.2.1 b.2.1 then true else e2 a.2.1 z2) (.leaf (.tu (F2s z2) (.v (.bool false)))) (.leaf (.tu (F2s (M (A (M a.1 a.1) (A (M a.1 a.1) (M a.1 a.1))) (I (A a.2.1 a.2.1)).1)) (.v (.bool true))))) (.leaf (.tu (F2s (M (S b.2.1 a.2.1) (I (S b.1 a.1)).1)) (.v (.bool true))))) (by kernel_rfl)
  (br_sh (fun h=>br_sh (fun h2=>leaf_sh (by unfold slp;rw[h,h2];rfl)) fun h2=>leaf_sh (by unfold slp;rw[h,h2];rfl)) fun h=>leaf_sh (by unfold slp;rw[h];rfl))
theorem smR_ok{SL:N2 × N2 × Bool->N2 × N2 × Bool->N2 × Bool}(oS:∀ a b,(F2s (S a b)).ok){p q:N2 × N2 × Bool}(op:(pS2 p).ok)(oq:(pS2 q).ok):(pS2 (smR S M SL p q)).ok:=by
 unfold smR;cases p.2.2
 ·cases q.2.2
  ·cases (SL p q).2
   ·exact⟨F2z_ok,F2z_ok,trivial,trivial⟩
   ·exact⟨oS _ _,oS _ _,trivial,trivial⟩
  ·exact op
 ·exact oq
theorem rsum_is(hb:Big m){SL:N2 × N2 × Bool->N2 × N2 × Bool->N2 × Bool}(oS:∀ a b,(F2s (S a b)).ok)(hS:IhS m S)(hM:IhM m M)(hL:Ih2 m 38 shP2 shP2 fun p q=>.tu (F2s (SL p q).1) (.b (SL p q).2)):Ih2 m 12 shP2 shP2 fun p q=>pS2 (smR S M SL p q):=fun _ _ _ _ hf=>cH2_ok hf (fun _ _=>by kernel_rfl) (fun p q op oq=>⟨smR_ok oS op oq,rfl⟩) fun F a b oa ob w hF =>
 calls_at (w0:=w) (γ0:=fun _=>F) (E1_ok (more:=[kS m S,kM m M,cH2 true m 0 38 shP2 shP2 fun p q=>.tu (F2s (SL p q).1) (.b (SL p q).2)]) ⟨hS _ _ _ _ (ROk.of hb hF),hM _ _ _ _ (ROk.of hb hF),hL _ _ _ _ (ROk.of hb hF),trivial⟩) (by kernel_rfl) (fun _=>0) Tryz.func12 (by kernel_rfl) [sG,pS2 a,pS2 b] ⟨⟨⟨trivial,trivial⟩,rfl⟩,⟨oa,rfl⟩,⟨ob,rfl⟩,trivial⟩ (by kernel_rfl) (by kernel_rfl)
  (.br a.2.2 (.leaf (pS2 b)) (.br b.2.2 (.leaf (pS2 a)) (.br (!(SL a b).2) (.leaf (.ap (F2s z2) (.ap (F2s z2) (.ap (.v (.bool true)) .e)))) (.leaf (.ap (F2s (smD S M (SL a b).1 a b).1) (.ap (F2s (smD S M (SL a b).1 a b).2.1) (.ap (.v (.bool false)) .e))))))) (by kernel_rfl)
  (br_sh (fun h=>leaf_sh (by unfold smR;rw[h];rfl)) fun h=>br_sh (fun h2=>leaf_sh (by unfold smR;rw[h,h2];rfl)) fun h2=>br_sh (fun h3=>leaf_sh (by unfold smR;rw[h,h2,show(SL a b).2=false by simpa using h3];rfl)) fun h3=>leaf_sh (by unfold smR;rw[h,h2,show(SL a b).2=true by simpa using h3];rfl))
/-! So many times. -/
def cRLen(B:Nat->Nat):Con:=conV 41 fun l=>match l with
 | [.w k]=>some (.na (B k),[])
 | _=>none
theorem cRLen_ok{base:Nat}{γ0:Pl}{w0:World}:ConOk Tryz.prog base γ0 w0 (cRLen fun k=>bl k 256):=conV_ok (fun _ _=>by kernel_rfl) fun us r q hr hq hok=>by
 split at hr
 ·rename_i k
  cases hr;exact⟨(by have:=bl_le k 256;show bl k 256<2^62;omega),rfl,fun γ w=>rlen_pw k (hok (.w k) (by simp)) w⟩
 ·cases hr
variable {TW:N2 × N2 × N2->N2 × N2 × N2} {PL:N2 × N2 × N2->N2 × N2 × Bool->N2 × N2 × N2} {B:Nat->Nat}
def rtd(TW:N2 × N2 × N2->N2 × N2 × N2)(PL:N2 × N2 × N2->N2 × N2 × Bool->N2 × N2 × N2)(kk:Nat)(P:N2 × N2 × Bool)(t:Nat)(x:N2 × N2 × N2):N2 × N2 × N2:=bif eqI ((kk / 2^t%2:Nat):Int) 1 then PL (TW x) P else TW x
def rtm(TW:N2 × N2 × N2->N2 × N2 × N2)(PL:N2 × N2 × N2->N2 × N2 × Bool->N2 × N2 × N2)(kk:Nat)(P:N2 × N2 × Bool):Nat->N2 × N2 × N2->N2 × N2 × N2
 | 0,x=>x
 | t+1,x=>rtm TW PL kk P t (rtd TW PL kk P t x)
def moreRT(m:Nat)(B:Nat->Nat)(M:N2->N2->N2)(I:N2->N2 × Bool)(TW:N2 × N2 × N2->N2 × N2 × N2)(PL:N2 × N2 × N2->N2 × N2 × Bool->N2 × N2 × N2):List Con:=[cRLen B,cBit,kM m M,kI m I,cH1 true m 0 42 shJ2 fun T=>jS2 (TW T),cH2 true m 0 44 shJ2 shP2 fun T q=>jS2 (PL T q)]
noncomputable def TRT (m:Nat) (B:Nat->Nat) (M:N2->N2->N2) (I:N2->N2 × Bool) (TW:N2 × N2 × N2->N2 × N2 × N2) (PL:N2 × N2 × N2->N2 × N2 × Bool->N2 × N2 × N2) (kk:Nat) (P:N2 × N2 × Bool):Tr:=(walk (E1 (moreRT m B M I TW PL)) (fun _=>0) Tryz.f14 [sG,.w kk,pS2 P]).on []
def stRT(kk:Nat)(P:N2 × N2 × Bool)(d:SV)(x:N2 × N2 × N2):St:=⟨[(3,some (.p 1 0 0 0)),(4,some (.p 2 0 0 0)),(5,some (.p 3 0 0 0)),(6,some (.p 4 0 0 0)),(7,some (.p 5 0 0 0)),(8,some d)],[(5,jS2 x,81),(4,p20,40),(3,pS2 P,40),(2,.w kk,24),(1,sG,29)],6⟩
def pnR(M:N2->N2->N2)(I:N2->N2 × Bool)(T:N2 × N2 × N2):N2 × N2 × Bool:=bif (I T.2.2).2 then (M T.1 (M (I T.2.2).1 (I T.2.2).1),M T.2.1 (M (M (I T.2.2).1 (I T.2.2).1) (I T.2.2).1),false)else (z2,z2,true)
theorem pnR_ok(oM:∀ a b,(F2s (M a b)).ok)(T:N2 × N2 × N2):(pS2 (pnR M I T)).ok:=by
 unfold pnR;cases (I T.2.2).2
 ·exact⟨F2z_ok,F2z_ok,trivial,trivial⟩
 ·exact⟨oM _ _,oM _ _,trivial,trivial⟩
def rtP(TW:N2 × N2 × N2->N2 × N2 × N2)(PL:N2 × N2 × N2->N2 × N2 × Bool->N2 × N2 × N2)(B:Nat->Nat)(M:N2->N2->N2)(I:N2->N2 × Bool)(kk:Nat)(P:N2 × N2 × Bool):N2 × N2 × Bool:=bif P.2.2 then pnR M I zJ2 else pnR M I (rtm TW PL kk P (B kk) zJ2)
end
end Sy
open Go.RowKit
namespace Sy
section
variable {m:Nat} {A S M:N2->N2->N2} {I:N2->N2 × Bool} {TW:N2 × N2 × N2->N2 × N2 × N2} {PL:N2 × N2 × N2->N2 × N2 × Bool->N2 × N2 × N2} {B:Nat->Nat}
structure RRT (TW:N2 × N2 × N2->N2 × N2 × N2) (PL:N2 × N2 × N2->N2 × N2 × Bool->N2 × N2 × N2) (kk:Nat) (P:N2 × N2 × Bool) (T:N2 × N2 × N2) (L:Nat) where
 s:Nat
 x:N2 × N2 × N2
 le:s<=L
 is:P.2.2=false->rtm TW PL kk P s x=T
 no:P.2.2=true->x=zJ2
 ok:(jS2 x).ok
theorem pnR_f{x:N2 × N2 × N2}(h:(I x.2.2).2=false):pnR M I x=(z2,z2,true):=by
 unfold pnR;rw[h];rfl
theorem pnR_t{x:N2 × N2 × N2}(h:(I x.2.2).2=true):pnR M I x=(M x.1 (M (I x.2.2).1 (I x.2.2).1),M x.2.1 (M (M (I x.2.2).1 (I x.2.2).1) (I x.2.2).1),false):=by
 unfold pnR;rw[h];rfl
theorem rtimes_walk(hb:Big m)(b256:∀ k,B k<=256)(hN:∀ base γ0 w0,ConOk Tryz.prog base γ0 w0 (cRLen B))(oT:∀ a,(jS2 (TW a)).ok)(oP:∀ a b,(jS2 a).ok->(pS2 b).ok->(jS2 (PL a b)).ok)(hM:IhM m M)(hI:IhI m I)(hT:Ih1 m 42 shJ2 fun T=>jS2 (TW T))(hP:Ih2 m 44 shJ2 shP2 fun T q=>jS2 (PL T q))(kk:Nat)(P:N2 × N2 × Bool)(ok:kk<2^256)(op:(pS2 P).ok)(F:Nat)(w:World)(hF:RFld w F m) :
  Calls Tryz.prog 14 ([sG,SV.w kk,pS2 P].map (·.val fun _=>F)).toArray w fun e w'=>e=.returned ((pS2 (rtP TW PL B M I kk P)).val fun _=>F)/\Below w.heap.size w w':=by
 have hL:B kk<=256:=b256 kk;have h62:(2:Nat)^62=4611686018427387904:=by decide
 refine calls_loop0 (γ0:=fun _=>F) (E1_ok (more:=moreRT m B M I TW PL) ⟨hN _ _ _,cBit_ok,hM _ _ _ _ (ROk.of hb hF),hI _ _ _ _ (ROk.of hb hF),hT _ _ _ _ (ROk.of hb hF),hP _ _ _ _ (ROk.of hb hF),trivial⟩) (by kernel_rfl) (fun _=>0) Tryz.func14 (by kernel_rfl) [sG,.w kk,pS2 P] ⟨⟨⟨trivial,trivial⟩,rfl⟩,⟨ok,rfl⟩,⟨op,rfl⟩,trivial⟩ (by kernel_rfl) (by kernel_rfl)
  (d:=0) (by kernel_rfl) (TRT m B M I TW PL kk P) (by kernel_rfl) ?_
 have eb:(E1 (moreRT m B M I TW PL)).base=1:=rfl;rw[eb];have hB:∀ d x,subB 1 (stRT kk P (dn d) x)=true:=fun d x=>by cases d <;> kernel_rfl
 have h0:Sub 1 (TRT m B M I TW PL kk P).stOf (stRT kk P (dn (B kk)) zJ2):=Sub.ofW [5,4,3,2,1] (hB _ _) ⟨.is (by kernel_rfl),.is (by kernel_rfl),.is (by kernel_rfl),.is (by kernel_rfl),.is (by kernel_rfl),.dn (n:=((B kk:Nat):Int) - ((1:Nat):Int)) (by kernel_rfl) rfl (by omega),trivial⟩ (by kernel_rfl);have hs:(TRT m B M I TW PL kk P).isLoop 0=true:=by kernel_rfl
 have d0:∀ x,(TRT m B M I TW PL kk P).round (stRT kk P (dn 0) x)=((TRT m B M I TW PL kk P).round (stRT kk P (dn 0) x)).diag:=fun x=>by kernel_rfl
 have z0:∀ x,((TRT m B M I TW PL kk P).round (stRT kk P (dn 0) x)).shape=.br (!(I x.2.2).2) (.leaf (.ap (F2s z2) (.ap (F2s z2) (.ap (.v (.bool true)) .e)))) (.leaf (.ap (F2s (M x.1 (M (I x.2.2).1 (I x.2.2).1))) (.ap (F2s (M x.2.1 (M (M (I x.2.2).1 (I x.2.2).1) (I x.2.2).1))) (.ap (.v (.bool false)) .e)))):=fun x=>by kernel_rfl
 have d1:∀ t x,(TRT m B M I TW PL kk P).round (stRT kk P (dn (t+1)) x)=((TRT m B M I TW PL kk P).round (stRT kk P (dn (t+1)) x)).diag:=fun t x=>by kernel_rfl
 have z1:∀ t x,((TRT m B M I TW PL kk P).round (stRT kk P (dn (t+1)) x)).shape=.br (bif !ltN t 0 then !P.2.2 else false) (.need (t<256) (.br (eqI ((kk / 2^t%2:Nat):Int) 1) (.cut 0) (.cut 0))) (.br (!(I x.2.2).2) (.leaf (.ap (F2s z2) (.ap (F2s z2) (.ap (.v (.bool true)) .e)))) (.leaf (.ap (F2s (M x.1 (M (I x.2.2).1 (I x.2.2).1))) (.ap (F2s (M x.2.1 (M (M (I x.2.2).1 (I x.2.2).1) (I x.2.2).1))) (.ap (.v (.bool false)) .e))))):=fun t x=>by kernel_rfl
 have n1:∀ t x,t<B kk->Sub 1 (((TRT m B M I TW PL kk P).round (stRT kk P (dn (t+1)) x)).on [true,true]).cutOf (stRT kk P (dn t) (PL (TW x) P)):=fun t x ht=>Sub.ofW [5,4,3,2,1] (hB _ _) ⟨.is (by kernel_rfl),.is (by kernel_rfl),.is (by kernel_rfl),.is (by kernel_rfl),.is (by kernel_rfl),.dn (n:=((t:Nat):Int) - ((1:Nat):Int)) (by kernel_rfl) rfl (by omega),trivial⟩ (by kernel_rfl);have n2:∀ t x,t<B kk->Sub 1 (((TRT m B M I TW PL kk P).round (stRT kk P (dn (t+1)) x)).on [true,false]).cutOf (stRT kk P (dn t) (TW x)):=fun t x ht=>Sub.ofW [5,4,3,2,1] (hB _ _) ⟨.is (by kernel_rfl),.is (by kernel_rfl),.is (by kernel_rfl),.is (by kernel_rfl),.is (by kernel_rfl),.dn (n:=((t:Nat):Int) - ((1:Nat):Int)) (by kernel_rfl) rfl (by omega),trivial⟩ (by kernel_rfl);have c1:∀ t x,(((TRT m B M I TW PL kk P).round (stRT kk P (dn (t+1)) x)).on [true,true]).isCut 0=true:=fun t x=>by kernel_rfl
 have c2:∀ t x,(((TRT m B M I TW PL kk P).round (stRT kk P (dn (t+1)) x)).on [true,false]).isCut 0=true:=fun t x=>by kernel_rfl
 unfold rtP;generalize TRT m B M I TW PL kk P=T at h0 hs d0 z0 d1 z1 n1 n2 c1 c2 |-
 generalize B kk=L at *;have fin:∀ s x,s<=L->(P.2.2=false->rtm TW PL kk P s x=rtm TW PL kk P L zJ2)->(P.2.2=true->x=zJ2)->(P.2.2=false->s=0)->pnR M I x=bif P.2.2 then pnR M I zJ2 else pnR M I (rtm TW PL kk P L zJ2):=fun s x _ h1 h2 h3=>by
  cases hp:P.2.2
  ·have e:=h1 hp
   rw[h3 hp]at e;rw[<- e];rfl
  ·rw[h2 hp]
   rfl
 have lf:∀(CU:Nat->St->Prop) x v,pnR M I x=v->∀ LL,Sh.wp (⟨fun r=>r.val (fun _=>F)=(pS2 v).val fun _=>F,CU⟩:Post) LL (.br (!(I x.2.2).2) (.leaf (.ap (F2s z2) (.ap (F2s z2) (.ap (.v (.bool true)) .e)))) (.leaf (.ap (F2s (M x.1 (M (I x.2.2).1 (I x.2.2).1))) (.ap (F2s (M x.2.1 (M (M (I x.2.2).1 (I x.2.2).1) (I x.2.2).1))) (.ap (.v (.bool false)) .e))))):=fun CU x v hv LL=>by
  subst hv;exact br_sh (fun h=>leaf_sh (by rw[pnR_f (show(I x.2.2).2=false by simpa using h)];rfl)) fun h=>leaf_sh (by rw[pnR_t (show(I x.2.2).2=true by simpa using h)];rfl)
 refine loop_wp (T:=T) 0 hs (ι:=RRT TW PL kk P (rtm TW PL kk P L zJ2) L) (fun r=>stRT kk P (dn r.s) r.x) (fun r=>r.s) ⟨L,zJ2,Nat.le_refl _,fun _=>rfl,fun _=>rfl,⟨F2z_ok,F2z_ok,F2z_ok,trivial⟩⟩ h0 fun⟨s,x,hle,his,hno,hox⟩=>?_;cases s with
 | zero =>
  refine wp_of_shape (d0 x) (L:=fun L'=>((T.round (stRT kk P (dn 0) x)).on L').wp 1 _) ?_ fun _ h=>h;rw[z0 x];exact lf _ x _ (fin 0 x hle his hno fun _=>rfl) _
 | succ t =>
  refine wp_of_shape (d1 t x) (L:=fun L'=>((T.round (stRT kk P (dn (t+1)) x)).on L').wp 1 _) ?_ fun _ h=>h;rw[z1 t x];have ht:t<L:=hle;have e:ltN t 0=false:=decide_eq_false (Nat.not_lt_zero t);have h256:t<256:=by omega
  refine⟨fun h=>?_,fun h=>?_⟩
  ·have hn:P.2.2=false:=by
    rw[e]at h;simpa using h
   refine need_sh h256 ⟨fun h=>?_,fun h=>?_⟩
   ·exact next_wp 0 (c1 t x) (st:=fun r:RRT TW PL kk P (rtm TW PL kk P L zJ2) L=>stRT kk P (dn r.s) r.x) ⟨t,PL (TW x) P,Nat.le_of_lt ht,fun _=>(by rw[<- his hn,rtm,rtd,h];rfl),fun hc=>(by rw[hn]at hc;cases hc),oP _ _ (oT _) op⟩ (Nat.lt_succ_self t) (n1 t x ht)
   ·exact next_wp 0 (c2 t x) (st:=fun r:RRT TW PL kk P (rtm TW PL kk P L zJ2) L=>stRT kk P (dn r.s) r.x) ⟨t,TW x,Nat.le_of_lt ht,fun _=>(by rw[<- his hn,rtm,rtd,h];rfl),fun hc=>(by rw[hn]at hc;cases hc),oT _⟩ (Nat.lt_succ_self t) (n2 t x ht)
  ·have hn:P.2.2=true:=by
    rw[e]at h;simpa using h
   exact lf _ x _ (fin (t+1) x hle his hno fun hc=>by rw[hn]at hc;cases hc) _
theorem rtP_ok(oM:∀ a b,(F2s (M a b)).ok)(kk:Nat)(P:N2 × N2 × Bool):(pS2 (rtP TW PL B M I kk P)).ok:=by
 unfold rtP;cases P.2.2
 ·exact pnR_ok oM _
 ·exact pnR_ok oM _
theorem rtimes_is(hb:Big m)(b256:∀ k,B k<=256)(hN:∀ base γ0 w0,ConOk Tryz.prog base γ0 w0 (cRLen B))(oT:∀ a,(jS2 (TW a)).ok)(oP:∀ a b,(jS2 a).ok->(pS2 b).ok->(jS2 (PL a b)).ok)(oM:∀ a b,(F2s (M a b)).ok)(hM:IhM m M)(hI:IhI m I)(hT:Ih1 m 42 shJ2 fun T=>jS2 (TW T))(hP:Ih2 m 44 shJ2 shP2 fun T q=>jS2 (PL T q)):Ih2 m 14 shW shP2 fun k P=>pS2 (rtP TW PL B M I k P):=fun _ _ _ _ hf=>cH2_ok hf (fun _ _=>by kernel_rfl) (fun k P _ _=>⟨rtP_ok oM k P,rfl⟩) fun F a b oa ob w hF=>by
 have h:=rtimes_walk hb b256 hN oT oP hM hI hT hP a b oa ob F w hF;exact h
end
end Sy
end Go.Proofs.YtadfjjfklihaaaaGreat
