/- bailiwicklaw11.PairingFirst: the statement about it: whatever the input: true; the input reads as it did. CONDITIONS: none. (Cut to what is reached, written closely: PrO · PrFd · PrO2 · PrLv · PrLf · PrFi · PairingFirst.) -/
import Derived.Test.YtadfjjfklihaaaaGreatP37
import Derived.Test.YtadfjjfklihaaaaGreatP35
import Derived.Test.YtadfjjfklihaaaaGreatP38
import Derived.Test.YtadfjjfklihaaaaGreatP20
set_option linter.all false
set_option maxRecDepth 100000
set_option maxHeartbeats 8000000
namespace Go.Proofs.YtadfjjfklihaaaaGreat
open Go.RowKit Sy
def ordS:ByteArray:=⟨#[50,49,56,56,56,50,52,50,56,55,49,56,51,57,50,55,53,50,50,50,50,52,54,52,48,53,55,52,53,50,53,55,50,55,53,48,56,56,53,52,56,51,54,52,52,48,48,52,49,54,48,51,52,51,52,51,54,57,56,50,48,52,49,56,54,53,55,53,56,48,56,52,57,53,54,49,55]⟩
def ordD(j:Nat):Nat:=[2,1,8,8,8,2,4,2,8,7,1,8,3,9,2,7,5,2,2,2,2,4,6,4,0,5,7,4,5,2,5,7,2,7,5,0,8,8,5,4,8,3,6,4,4,0,0,4,1,6,0,3,4,3,4,3,6,9,8,2,0,4,1,8,6,5,7,5,8,0,8,4,9,5,6,1,7].getD j 0
theorem ord_len:ordS.size=77:=by kernel_rfl
theorem ord_dig:∀ j (hj:j<ordS.size),ordS[j].toNat=ordD j+48/\ordD j<=9:=by
 have h:∀ j:Fin 77,(#[50,49,56,56,56,50,52,50,56,55,49,56,51,57,50,55,53,50,50,50,50,52,54,52,48,53,55,52,53,50,53,55,50,55,53,48,56,56,53,52,56,51,54,52,52,48,48,52,49,54,48,51,52,51,52,51,54,57,56,50,48,52,49,56,54,53,55,53,56,48,56,52,57,53,54,49,55]:Array UInt8)[j].toNat=ordD j+48/\ordD j<=9:=by decide +kernel
 intro j hj;exact h ⟨j,by rw[ord_len]at hj;exact hj⟩
theorem ord_num:dnum ordD 77=21888242871839275222246405745257275088548364400416034343698204186575808495617:=by decide +kernel
theorem rord_parse(w:World):Calls Tryz.prog 46 #[.string ordS] w fun e w'=>e=.returned (.tuple #[.agg (pw 21888242871839275222246405745257275088548364400416034343698204186575808495617),.int .i64 0])/\Below w.heap.size w w':=by
 have h:=rparse_walk ordS ordD w (by rw[ord_len];omega) (by rw[ord_len];omega) (fun _=>by decide +kernel) ord_dig;unfold ParsePost at h;rw[ord_len,ord_num,if_pos (by omega)]at h;exact h
namespace Sy
def cParse:Con:=conV 46 fun l=>match l with
 | [.v (.string s)]=>some (.tu (.w nB) (.v (.int .i64 0)),[.ask (s=ordS)])
 | _=>none
theorem cParse_ok{base:Nat}{γ0:Pl}{w0:World}:ConOk Tryz.prog base γ0 w0 cParse:=conV_ok (fun _ _=>by kernel_rfl) fun us r q hr hq hok=>by
 split at hr
 ·rename_i s
  cases hr;refine⟨⟨(by decide +kernel:nB<2^256),trivial⟩,rfl,fun γ w=>?_⟩;obtain rfl:s=ordS:=hq _ (.head _);exact rord_parse w
 ·cases hr
theorem rorder_is(w:World):Calls Tryz.prog 15 #[] w fun e w'=>e=.returned ((SV.w nB).val o0)/\Below w.heap.size w w' :=
 calls_at (w0:=w) (γ0:=o0) (E1_ok (more:=[cParse]) ⟨cParse_ok,trivial⟩) (by kernel_rfl) (fun _=>0) Tryz.func15 (by kernel_rfl) [] trivial (by kernel_rfl) (by kernel_rfl) (.need (ordS=ordS) (.leaf (.w nB))) (by kernel_rfl) ⟨rfl,rfl⟩
def cROrd:Con:=conV 15 fun l=>match l with
 | []=>some (.w nB,[])
 | _=>none
theorem cROrd_ok{base:Nat}{γ0:Pl}{w0:World}:ConOk Tryz.prog base γ0 w0 cROrd:=conV_ok (fun _ _=>by kernel_rfl) fun us r q hr hq hok=>by
 split at hr
 ·cases hr
  exact⟨(by decide +kernel:nB<2^256),rfl,fun γ w=>rorder_is w⟩
 ·cases hr
/-! Points that are on the curve: the calls' answers known ahead,a case each. -/
def cIsT:Con:=conV 31 fun l=>match l with
 | [.w a]=>some (.v (.bool true),[.ask (isP a=true)])
 | [.ap .e (.w a)]=>some (.v (.bool false),[.ask (isP a=false)])
 | _=>none
theorem cIsT_ok{base:Nat}{γ0:Pl}{w0:World}:ConOk Tryz.prog base γ0 w0 cIsT:=conV_ok (fun _ _=>by kernel_rfl) fun us r q hr hq hok=>by
 have key:∀ a t,a<2^256->isP a=t->∀ w,Calls Tryz.prog 31 #[.agg (pw a)] w fun e w'=>e=.returned (.bool t)/\Below w.heap.size w w':=fun a t oa e w=>by
  subst e;exact calls_at (w0:=w) (γ0:=o0) (E1_ok (more:=[cBase,cCmp]) ⟨cBase_ok,cCmp_ok,trivial⟩) (by kernel_rfl) (fun _=>0) Tryz.func31 (by kernel_rfl) [.w a] ⟨⟨oa,rfl⟩,trivial⟩ (by kernel_rfl) (by kernel_rfl) (.leaf (.b (isP a))) (by kernel_rfl) rfl
 split at hr
 ·rename_i a
  cases hr;exact⟨trivial,rfl,fun γ w=>key a true (hok (.w a) (by simp)) (hq _ (.head _)) w⟩
 ·rename_i a
  cases hr;refine⟨trivial,rfl,fun γ w=>?_⟩;have g:=key a false (hok (.ap .e (.w a)) (by simp)).2 (hq _ (.head _)) w;have e:(SV.ap .e (.w a)).val γ=.agg (pw a):=by simp[SV.val,SV.cells]
  show Calls _ _ #[(SV.ap .e (.w a)).val γ] w _;rw[e];exact g
 ·cases hr
section
variable {A M:N2->N2->N2} {SQ:N2 × N2 × Bool->N2->Bool}
def onR(SQ:N2 × N2 × Bool->N2->Bool)(P:Nat × Nat × Bool):Bool:=bif P.2.2 then true else bif isP P.1 then (bif isP P.2.1 then SQ (dotW P) (3,0)else false)else false
def cSq(SQ:N2 × N2 × Bool->N2->Bool):Con:=cH2 false pB loB 32 shP2 sh2 fun D b=>.b (SQ D b)
def cOfD:Con:=conV 13 fun l=>match l with
 | [.ap (.w x) (.ap (.w y) (.ap (.v (.bool false)) .e))]=>some (pS2 (dotW (x,y,false)),[])
 | _=>none
theorem cOfD_ok{base:Nat}{γ0:Pl}{w0:World}:ConOk Tryz.prog base γ0 w0 cOfD:=conV_ok (fun _ _=>by kernel_rfl) fun us r q hr hq hok=>by
 split at hr
 ·rename_i x y
  cases hr;obtain⟨h1,h2,_⟩:=hok (.ap (.w x) (.ap (.w y) (.ap (.v (.bool false)) .e))) (by simp);refine⟨dotW_ok (P:=(x,y,false)) ⟨h1,h2,trivial,trivial⟩,rfl,fun γ w=>?_⟩;exact calls_at (w0:=w) (γ0:=o0) (E1_ok (more:=[cF2]) ⟨F2_is _ _ _,trivial⟩) (by kernel_rfl) (fun _=>0) Tryz.func13 (by kernel_rfl) [pSW (x,y,false)] ⟨⟨⟨h1,h2,trivial,trivial⟩,rfl⟩,trivial⟩ (by kernel_rfl) (by kernel_rfl) (.leaf (pS2 (dotW (x,y,false)))) (by kernel_rfl) rfl
 ·cases hr
def cNoNew:Con:=conV 6 fun l=>match l with
 | []=>some (.ap (.v (.pointer none)) .e,[.ask False])
 | _=>none
theorem cNoNew_ok{base:Nat}{γ0:Pl}{w0:World}:ConOk Tryz.prog base γ0 w0 cNoNew:=conV_ok (fun _ _=>by kernel_rfl) fun us r q hr hq hok=>by
 split at hr
 ·cases hr
  exact(hq _ (.head _)).elim
 ·cases hr
def cNoSq:Con:=conV 32 fun l=>match l with
 | [_,_,_]=>some (.b false,[.ask False])
 | _=>none
theorem cNoSq_ok{base:Nat}{γ0:Pl}{w0:World}:ConOk Tryz.prog base γ0 w0 cNoSq:=conV_ok (fun _ _=>by kernel_rfl) fun us r q hr hq hok=>by
 split at hr
 ·cases hr
  exact(hq _ (.head _)).elim
 ·cases hr
abbrev pT(x y:SV)(n:SV):SV:=.ap x (.ap y (.ap n .e))
theorem ron_is(hQ:Ih2 pB 32 shP2 sh2 fun D b=>.b (SQ D b)):Is0 7 shPW fun P=>.b (onR SQ P):=fun _ _ _=>cV1_ok (fun _ _=>by kernel_rfl) (fun _ _=>⟨trivial,rfl⟩) fun P oP w=>by
 obtain⟨x,y,n⟩:=P;cases n
 ·cases hx:isP x
  ·have e:onR SQ (x,y,false)=false:=by unfold onR;rw[hx];rfl
   rw[e];have h:=calls_at (w0:=w) (γ0:=o0) (V:=(SV.b false).val o0) (E1_ok (more:=[cIsT,cTNew,cOfD,cF2,cSq SQ]) ⟨cIsT_ok,cTNew_ok,cOfD_ok,F2_is _ _ _,hQ _ _ _ _ (rB w),trivial⟩) (by kernel_rfl) (fun _=>0) Tryz.func7 (by kernel_rfl) [pT (.ap .e (.w x)) (.w y) (.v (.bool false))] ⟨⟨⟨⟨trivial,oP.1⟩,oP.2.1,trivial,trivial⟩,rfl⟩,trivial⟩ (by kernel_rfl) (by kernel_rfl) (.need (isP x=false) (.leaf (.v (.bool false)))) (by kernel_rfl) ⟨hx,rfl⟩;have e2:(pT (.ap .e (.w x)) (.w y) (.v (.bool false))).val o0=(pSW (x,y,false)).val o0:=by kernel_rfl
   show Calls _ _ #[(pSW (x,y,false)).val o0] w _;rw[<- e2];exact h
  ·cases hy:isP y
   ·have e:onR SQ (x,y,false)=false:=by unfold onR;rw[hx,hy];rfl
    rw[e];have h:=calls_at (w0:=w) (γ0:=o0) (V:=(SV.b false).val o0) (E1_ok (more:=[cIsT,cTNew,cOfD,cF2,cSq SQ]) ⟨cIsT_ok,cTNew_ok,cOfD_ok,F2_is _ _ _,hQ _ _ _ _ (rB w),trivial⟩) (by kernel_rfl) (fun _=>0) Tryz.func7 (by kernel_rfl) [pT (.w x) (.ap .e (.w y)) (.v (.bool false))] ⟨⟨⟨oP.1,⟨trivial,oP.2.1⟩,trivial,trivial⟩,rfl⟩,trivial⟩ (by kernel_rfl) (by kernel_rfl) (.need (isP x=true) (.need (isP y=false) (.leaf (.v (.bool false))))) (by kernel_rfl) ⟨hx,hy,rfl⟩;have e2:(pT (.w x) (.ap .e (.w y)) (.v (.bool false))).val o0=(pSW (x,y,false)).val o0:=by kernel_rfl
    show Calls _ _ #[(pSW (x,y,false)).val o0] w _;rw[<- e2];exact h
   ·have e:onR SQ (x,y,false)=SQ (dotW (x,y,false)) (3,0):=by unfold onR;rw[hx,hy];rfl
    rw[e];have h:=calls_at (w0:=w) (γ0:=o0) (V:=(SV.b (SQ (dotW (x,y,false)) (3,0))).val o0) (E1_ok (more:=[cIsT,cTNew,cOfD,cF2,cSq SQ]) ⟨cIsT_ok,cTNew_ok,cOfD_ok,F2_is _ _ _,hQ _ _ _ _ (rB w),trivial⟩) (by kernel_rfl) (fun _=>0) Tryz.func7 (by kernel_rfl) [pT (.w x) (.w y) (.v (.bool false))] ⟨⟨⟨oP.1,oP.2.1,trivial,trivial⟩,rfl⟩,trivial⟩ (by kernel_rfl) (by kernel_rfl) (.need (isP x=true) (.need (isP y=true) (.leaf (.b (SQ (dotW (x,y,false)) (3,0)))))) (by kernel_rfl) ⟨hx,hy,rfl⟩;exact h
 ·have h:=calls_at (w0:=w) (γ0:=o0) (V:=(SV.b true).val o0) (E1_ok (more:=[cV1 31 shW fun a=>.b (isP a),cNoNew,cV1 13 shPW fun P=>pS2 (dotW P),cF2,cNoSq]) ⟨is_is _ _ _,cNoNew_ok,Of_is _ _ _,F2_is _ _ _,cNoSq_ok,trivial⟩) (by kernel_rfl) (fun _=>0) Tryz.func7 (by kernel_rfl) [pT (.w x) (.w y) (.b true)] ⟨⟨⟨oP.1,oP.2.1,trivial,trivial⟩,rfl⟩,trivial⟩ (by kernel_rfl) (by kernel_rfl) (.need (false=true->False) (.need (false=true->False) (.leaf (.b true)))) (by kernel_rfl) ⟨fun h=>(by cases h),fun h=>(by cases h),rfl⟩
  exact h
end
end Sy
open Go.RowKit
namespace Sy
section
variable {I:N2->N2 × Bool} {M:N2->N2->N2} {SQ:N2 × N2 × Bool->N2->Bool} {TM:Nat->N2 × N2 × Bool->N2 × N2 × Bool} {SU:N2 × N2 × Bool->N2 × N2 × Bool->N2 × N2 × Bool} {IS:Nat->Bool}
abbrev iT(TM:Nat->N2 × N2 × Bool->N2 × N2 × Bool):Con:=cH2 false pB loB 14 shW shP2 fun k P=>pS2 (TM k P)
abbrev iU(SU:N2 × N2 × Bool->N2 × N2 × Bool->N2 × N2 × Bool):Con:=cH2 false pB loB 12 shP2 shP2 fun p q=>pS2 (SU p q)
abbrev cOfW:Con:=cV1 13 shPW fun P=>pS2 (dotW P)
def ptB(a:Nat × Nat × Bool)(n:Int)(c:N2 × N2 × Bool)(t:Bool):Bool:=bif !t then (bif a.2.2 then eqI n 81 else false)else (bif eqP a (ptD c)then eqI n 0 else false)
def cPoint:Con:=conV 11 fun l=>match l with
 | [x,.i .i64 n,y,.b t]=>match dPW x,dP2 y with
  | some a,some c=>some (.b (ptB a n c t),[])
  | _,_=>none
 | _=>none
abbrev cPtD:Con:=cV1 28 shP2 fun D=>pSW (ptD D)
theorem cPoint_ok{base:Nat}{γ0:Pl}{w0:World}:ConOk Tryz.prog base γ0 w0 cPoint:=conV_ok (fun _ _=>by kernel_rfl) fun us r q hr hq hok=>by
 split at hr
 ·rename_i x n y t
  split at hr
  ·rename_i a c hx hy
   cases hr;obtain rfl:=dPW_ok _ _ hx;obtain rfl:=dP2_ok _ _ hy;have oa:=hok (pSW a) (by simp);have oc:=hok (pS2 c) (by simp);refine⟨trivial,rfl,fun γ w=>?_⟩;simp only[List.map_cons,List.map_nil];rw[val0 (γ:=γ) (x:=pSW a) rfl,val0 (γ:=γ) (x:=pS2 c) rfl,val0 (γ:=γ) (x:=.b (ptB a n c t)) rfl];have h:=calls_at (w0:=w) (γ0:=o0) (V:=(SV.b (ptB a n c t)).val fun _=>0) (E1_ok (more:=[cPtD]) ⟨Point_is _ _ _,trivial⟩) (by kernel_rfl) (fun _=>0) Tryz.func11 (by kernel_rfl) [pSW a,.i .i64 n,pS2 c,.b t] ⟨⟨oa,rfl⟩,⟨trivial,rfl⟩,⟨oc,rfl⟩,⟨trivial,rfl⟩,trivial⟩ (by kernel_rfl) (by kernel_rfl)
    (.br (!t) (.leaf (.b (bif a.2.2 then eqI n 81 else false))) (.leaf (.b (bif eqP a (ptD c)then eqI n 0 else false)))) (by kernel_rfl)
    (br_sh (fun h=>leaf_sh (by unfold ptB;rw[h];rfl)) fun h=>leaf_sh (by unfold ptB;rw[h];rfl))
   exact h
  ·cases hr
 ·cases hr
/-! The bases;lives. -/
def gXx:N2:=(10857046999023057135944570762232829481370756359578518086990519993285655852781,11559732032986387107991004021392285783925812861821192530917403151452391805634)
def gYy:N2:=(8495653923123431417604973247489272438418190587263600148770280649306958101930,4082367875863433681332203403145435568316851327593401208105741076214120093531)
def g2:N2 × N2 × Bool:=(gXx,gYy,false)
def cBaseP:Con:=conV 47 fun l=>match l with
 | []=>some (.tu (pSW g1) (pS2 g2),[])
 | _=>none
theorem g2_ok:(pS2 g2).ok:=⟨⟨(by decide +kernel:gXx.1<2^256),(by decide +kernel:gXx.2<2^256),trivial⟩,⟨(by decide +kernel:gYy.1<2^256),(by decide +kernel:gYy.2<2^256),trivial⟩,trivial,trivial⟩
theorem g1_ok:(pSW g1).ok:=⟨(by decide:(1:Nat)<2^256),(by decide:(2:Nat)<2^256),trivial,trivial⟩
theorem base_is(w:World):Calls Tryz.prog 47 #[] w fun e w'=>e=.returned ((SV.tu (pSW g1) (pS2 g2)).val o0)/\Below w.heap.size w w' :=
 calls_at (w0:=w) (γ0:=o0) (E1_ok (more:=[cOfN]) ⟨cOfN_ok,trivial⟩) (by kernel_rfl) (fun _=>0) Tryz.func47 (by kernel_rfl) [] trivial (by kernel_rfl) (by kernel_rfl)
  (.leaf (.tu (.ap (.w 1) (.ap (.w 2) (.ap (.v (.bool false)) .e))) (.ap (F2s gXx) (.ap (F2s gYy) (.ap (.v (.bool false)) .e))))) (by kernel_rfl) rfl
theorem cBaseP_ok{base:Nat}{γ0:Pl}{w0:World}:ConOk Tryz.prog base γ0 w0 cBaseP:=conV_ok (fun _ _=>by kernel_rfl) fun us r q hr hq hok=>by
 split at hr
 ·cases hr
  exact⟨⟨g1_ok,g2_ok⟩,rfl,fun γ w=>base_is w⟩
 ·cases hr
end
end Sy
open Go.RowKit
namespace Sy
def ixL(T:TypeId)(x y:SV):Option (SV × List Ob):=match x,y with
 | .p g o j 0,.v (.int .i64 3)=>if T=24 then some (.p g (o+3) j 0,[])else none
 | _,_=>none
theorem ixL_ok{T:TypeId}{x y r:SV}{p:List Ob}{n:Nat}(h:ixL T x y=some (r,p))(hx:x.lt n=true):r.ok/\r.lt n=true/\∀ γ wx,(Instr.indexAt T (x.val γ) (y.val γ)).run Tryz.prog wx=.ok (r.val γ) wx:=by
 unfold ixL at h
 split at h
 ·rename_i g o j
  split at h
  ·rename_i hT
   subst hT;cases h;refine⟨trivial,hx,fun γ wx=>?_⟩;show(Instr.indexAt 24 (.pointer (some ⟨γ g,o+j*0,none⟩)) (.int .i64 (3:Nat))).run Tryz.prog wx=.ok (.pointer (some ⟨γ g,o+3+j*0,none⟩)) wx;rw[Nat.mul_zero,Nat.add_zero,Nat.add_zero];exact at_arrN Tryz.underlying24 (by kernel_rfl) (by decide) wx
  ·cases h
 ·cases h
def ixLT(T:TypeId)(x y:SV):Option (SV × List Ob):=match ixL T x y with
 | some r=>some r
 | none=>ixaT T x y
noncomputable def EL (more:List Con):Env:={ E1 more with ixa:=ixLT }
theorem EL_ok{w0:World}{more:List Con}{γ0:Pl}(hm:conAll Tryz.prog 1 γ0 w0 more):(EL more).Good γ0 w0:=by
 have h:=E1_ok hm;refine⟨h.tys,h.ctr,h.bop,h.bld,h.xld,fun T x y r p n hi hp hx ho hy=>?_,h.sls,h.bss,h.slc,h.idx,h.cnv,h.rld,h.slk,h.mkr⟩;replace hi:ixLT T x y=some (r,p):=hi;unfold ixLT at hi
 split at hi
 ·rename_i hb
  cases hi;exact ixL_ok hb hx
 ·exact h.ixa T x y r p n hi hp hx ho hy
section
variable {SM:Nat × Nat × Bool->Nat × Nat × Bool->(Nat × Nat × Bool) × Int}
def lvB(SM:Nat × Nat × Bool->Nat × Nat × Bool->(Nat × Nat × Bool) × Int):Bool:=bif (bif (bif (bif eqN nB nB then eqN g1.1 1 else false)then !g2.2.2 else false)then eqI (SM g1 g1).2 0 else false)then eqI (limb 3 (SM g1 g1).1.1) 217937391675185666 else false
theorem lives_is(hS:Is00 8 shPW shPW fun a b=>tpSW (SM a b))(w:World):Calls Tryz.prog 16 #[] w fun e w'=>e=.returned ((SV.b (lvB SM)).val o0)/\Below w.heap.size w w' :=
 calls_at (w0:=w) (γ0:=o0) (EL_ok (more:=[cBaseP,cOrd,cROrd,cV2 8 shPW shPW fun a b=>tpSW (SM a b)]) ⟨cBaseP_ok,cOrd_ok,cROrd_ok,hS _ _ _,trivial⟩) (by kernel_rfl) (fun _=>0) Tryz.func16 (by kernel_rfl) [] trivial (by kernel_rfl) (by kernel_rfl) (.leaf (.b (lvB SM))) (by kernel_rfl) rfl
end
end Sy
open Go.RowKit
namespace Sy
abbrev cLv(LV:Bool):Con:=conV 16 fun l=>match l with
 | []=>some (.b LV,[])
 | _=>none
theorem cLv_ok{LV:Bool}(h:∀ w,Calls Tryz.prog 16 #[] w fun e w'=>e=.returned ((SV.b LV).val o0)/\Below w.heap.size w w'){base:Nat}{γ0:Pl}{w0:World}:ConOk Tryz.prog base γ0 w0 (cLv LV):=conV_ok (fun _ _=>by kernel_rfl) fun us r q hr hq hok=>by
 split at hr
 ·cases hr
  exact⟨trivial,rfl,fun γ w=>h w⟩
 ·cases hr
section
variable {OR H:Nat × Nat × Bool->Bool} {SM:Nat × Nat × Bool->Nat × Nat × Bool->(Nat × Nat × Bool) × Int} {PD:Nat->Nat × Nat × Bool->(Nat × Nat × Bool) × Int} {TM:Nat->N2 × N2 × Bool->N2 × N2 × Bool} {SU:N2 × N2 × Bool->N2 × N2 × Bool->N2 × N2 × Bool} {LV:Bool}
def no1(OR H:Nat × Nat × Bool->Bool)(SM:Nat × Nat × Bool->Nat × Nat × Bool->(Nat × Nat × Bool) × Int)(PD:Nat->Nat × Nat × Bool->(Nat × Nat × Bool) × Int)(TM:Nat->N2 × N2 × Bool->N2 × N2 × Bool)(SU:N2 × N2 × Bool->N2 × N2 × Bool->N2 × N2 × Bool)(p q:Nat × Nat × Bool)(k:Nat):Bool :=
 bif (bif !eqB (H p) (OR p)then true else !ptB (SM p q).1 (SM p q).2 (SU (dotW p) (dotW q)) (bif OR p then OR q else false))then true else !ptB (PD k p).1 (PD k p).2 (TM k (dotW p)) (OR p)
theorem first_law(hR:Is0 7 shPW fun P=>.b (OR P))(hA:Is00 8 shPW shPW fun a b=>tpSW (SM a b))(hM:Is00 9 shW shPW fun n a=>tpSW (PD n a))(hO:Is0 10 shPW fun a=>.b (H a))(hU:Ih2 pB 12 shP2 shP2 fun p q=>pS2 (SU p q))(hT:Ih2 pB 14 shW shP2 fun k P=>pS2 (TM k P))
  (hL:∀ w,Calls Tryz.prog 16 #[] w fun e w'=>e=.returned ((SV.b LV).val o0)/\Below w.heap.size w w') (p q:Nat × Nat × Bool) (k:Nat) (op:(pSW p).ok) (oq:(pSW q).ok) (ok:k<2^256) (h1:no1 OR H SM PD TM SU p q k=false) (h2:(PD nB p).1.2.2=true) (h3:LV=true) (w:World) :
  Calls Tryz.prog 3 #[(pSW p).val o0,(pSW q).val o0,(SV.w k).val o0] w fun e w'=>e=.returned (.bool true)/\Below w.heap.size w w':=by
 have h:=calls_at (w0:=w) (γ0:=o0) (V:=.bool true) (E1_ok (more:=[cTNew,cV1 7 shPW fun P=>.b (OR P),cV2 8 shPW shPW fun a b=>tpSW (SM a b),cV2 9 shW shPW fun n a=>tpSW (PD n a),cV1 10 shPW fun a=>.b (H a),cOfW,iU SU,iT TM,cPoint,cROrd,cLv LV]) ⟨cTNew_ok,hR _ _ _,hA _ _ _,hM _ _ _,hO _ _ _,Of_is _ _ _,hU _ _ _ _ (rB w),hT _ _ _ _ (rB w),cPoint_ok,cROrd_ok,cLv_ok hL,trivial⟩) (by kernel_rfl) (fun _=>0) Tryz.func3 (by kernel_rfl) [pSW p,pSW q,.w k] ⟨⟨op,rfl⟩,⟨oq,rfl⟩,⟨ok,rfl⟩,trivial⟩ (by kernel_rfl) (by kernel_rfl)
  (.br (no1 OR H SM PD TM SU p q k) (.leaf (.v (.bool false))) (.leaf (.b (bif (PD nB p).1.2.2 then LV else false)))) (by kernel_rfl) (br_sh (fun h=>absurd (h.symm.trans h1) (by decide)) fun _=>leaf_sh (by rw[h2,h3];rfl))
 exact h
end
end Sy
open Go.RowKit
namespace Sy
section
variable {A S M:Nat->Nat->Nat} {I:Nat->Nat × Bool}
theorem tmsW_ok{TW:(Nat × Nat × Nat)->(Nat × Nat × Nat) × Nat}{PL:(Nat × Nat × Nat)->(Nat × Nat × Bool)->(Nat × Nat × Nat) × Nat}(oT:∀ a,(jSW (TW a).1).ok)(oP:∀ a b,(jSW a).ok->(pSW b).ok->(jSW (PL a b).1).ok)(kk:Nat){P:Nat × Nat × Bool}(op:(pSW P).ok):∀ s x,(jSW x).ok->(jSW (tmsW TW PL kk P s x)).ok
 | 0,_,h=>h
 | s+1,x,_=>tmsW_ok oT oP kk op s _ (by
   unfold trdW;cases eqI (bkI kk s) 1
   ·exact oT _
   ·exact oP _ _ (oT _) op)
end
/-! The program's first group. -/
theorem hAW:IsOW pB 65 (AW pB):=fun _ _ _ hf=>(flds_ok hf).2.1
theorem hSW:IsOW pB 66 (SW pB):=fun _ _ _ hf=>(flds_ok hf).2.2.1
theorem hMW:IsOW pB 67 (MW pB):=fun _ _ _ hf=>(flds_ok hf).1
theorem hIW:IsJW pB 68 (IW pB):=fun _ _ _ hf=>(flds_ok hf).2.2.2.2.1
theorem modB(n:Nat):n%pB<2^256:=Nat.lt_trans (Nat.mod_lt n (by decide)) ltB
theorem oAW(a b:Nat):AW pB a b<2^256:=modB _
theorem oSW(a b:Nat):SW pB a b<2^256:=modB _
theorem oMW(a b:Nat):MW pB a b<2^256:=modB _
def FTW:Nat->Nat->Bool:=fitW (AW pB) (MW pB)
def TWW:(Nat × Nat × Nat)->(Nat × Nat × Nat) × Nat:=ptwW (AW pB) (SW pB) (MW pB)
def PLW:(Nat × Nat × Nat)->(Nat × Nat × Bool)->(Nat × Nat × Nat) × Nat:=pplW (AW pB) (SW pB) (MW pB)
def PTW:(Nat × Nat × Nat)->(Nat × Nat × Bool):=pntW (MW pB) (IW pB)
def TMW(n:Nat)(P:Nat × Nat × Bool):Nat × Nat × Nat:=tmsW TWW PLW n P (bl n 256) zJW
def HW:(Nat × Nat × Bool)->Bool:=hldW FTW
def SMW:(Nat × Nat × Bool)->(Nat × Nat × Bool)->(Nat × Nat × Bool) × Int:=smPW HW PLW PTW
def PDW:Nat->(Nat × Nat × Bool)->(Nat × Nat × Bool) × Int:=pdPW HW TMW PTW
theorem hFW:IsW pB 74 (gNNW fun a b=>SV.b (FTW a b)):=fitW_is hAW hMW (belowW_is hAW)
theorem hTW:IsW pB 111 (gJW fun a=>SV.tu (jSW (TWW a).1) (SV.w (TWW a).2)):=twiceW_is oAW oSW oMW hAW hSW hMW
theorem hPW:IsW pB 70 (gJPW fun a b=>SV.tu (jSW (PLW a b).1) (SV.w (PLW a b).2)):=plusW_is oAW oSW oMW hAW hSW hMW hTW
theorem hQW:IsW pB 72 (gJW fun a=>pSW (PTW a)):=pointW_is oMW hMW hIW
theorem oTW(a:Nat × Nat × Nat):(jSW (TWW a).1).ok:=⟨oSW _ _,oSW _ _,oMW _ _,trivial⟩
theorem oPW(a:Nat × Nat × Nat)(b:Nat × Nat × Bool)(ha:(jSW a).ok)(hb:(pSW b).ok):(jSW (PLW a b).1).ok:=(pplW_ok oAW oSW oMW ha hb).1
theorem hXW:IsW pB 73 (gKPW fun n P=>jSW (TMW n P)):=timesW_is (B:=fun k=>bl k 256) (fun k=>bl_le k 256) (fun _ _ _=>cLen_ok) oTW oPW (fun n _ _ op=>tmsW_ok oTW oPW n op _ _ ⟨w0_ok,w0_ok,w0_ok,trivial⟩) hTW hPW
theorem hHW:IsW pB 37 (gPW fun a=>SV.b (HW a)):=holdsW_is hFW hXW
theorem oQW(a:Nat × Nat × Nat):(pSW (PTW a)).ok:=pntW_ok oMW a
theorem aOn:Is0 10 shPW fun a=>.b (HW a):=On_is hHW
theorem aAdd:Is00 8 shPW shPW fun a b=>tpSW (SMW a b):=Add_is (fun a b=>smPW_ok oQW a b) (sumW_is oQW hHW hPW hQW)
theorem aMul:Is00 9 shW shPW fun n a=>tpSW (PDW n a):=Mul_is (fun n a=>pdPW_ok oQW n a) (productW_is oQW hHW hXW hQW)
/-! The document's. -/
def AR:N2->N2->N2:=ra2 pB
def SR:N2->N2->N2:=rs2 pB
def MR:N2->N2->N2:=rm2 pB
def IR:N2->N2 × Bool:=ri2 pB (rc2 pB) (rm2 pB)
theorem oSR(a b:N2):(F2s (SR a b)).ok:=rs2_ok pB a b
theorem oMR(a b:N2):(F2s (MR a b)).ok:=rm2_ok pB a b
def SQR:N2 × N2 × Bool->N2->Bool:=sqD AR MR
def TWR:N2 × N2 × N2->N2 × N2 × N2:=rtw AR SR MR
def PLR:N2 × N2 × N2->N2 × N2 × Bool->N2 × N2 × N2:=rpl AR SR MR TWR
def TMR:Nat->N2 × N2 × Bool->N2 × N2 × Bool:=rtP TWR PLR (fun k=>bl k 256) MR IR
def SLR:N2 × N2 × Bool->N2 × N2 × Bool->N2 × Bool:=slp AR SR MR IR
def SUR:N2 × N2 × Bool->N2 × N2 × Bool->N2 × N2 × Bool:=smR SR MR SLR
theorem rQ:Ih2 pB 32 shP2 sh2 fun D b=>.b (SQR D b):=square_is bB Tadd_at Tmul_at
theorem oTR(a:N2 × N2 × N2):(jS2 (TWR a)).ok:=⟨oSR _ _,oSR _ _,oMR _ _,trivial⟩
theorem rT:Ih1 pB 42 shJ2 fun T=>jS2 (TWR T):=rtwice_is bB oSR oMR Tadd_at Tsub_at Tmul_at
theorem rP:Ih2 pB 44 shJ2 shP2 fun T q=>jS2 (PLR T q):=rplus_is bB oSR oMR oTR Tadd_at Tsub_at Tmul_at rT
theorem rX:Ih2 pB 14 shW shP2 fun k P=>pS2 (TMR k P):=rtimes_is bB (fun k=>bl_le k 256) (fun _ _ _=>cRLen_ok) oTR (fun T _ _ oq=>rpl_ok oSR oMR oTR T oq) oMR Tmul_at Tinv_at rT rP
theorem rL:Ih2 pB 38 shP2 shP2 fun p q=>.tu (F2s (SLR p q).1) (.b (SLR p q).2):=slope_is bB oMR Tadd_at Tsub_at Tmul_at Tinv_at
theorem rU:Ih2 pB 12 shP2 shP2 fun p q=>pS2 (SUR p q):=rsum_is bB oSR Tsub_at Tmul_at rL
theorem rOn:Is0 7 shPW fun P=>.b (onR SQR P):=ron_is rQ
theorem live1(w:World):Calls Tryz.prog 16 #[] w fun e w'=>e=.returned ((SV.b (lvB SMW)).val o0)/\Below w.heap.size w w':=lives_is aAdd w
/-! Numbers. -/
theorem nW:NmW (zpField prB) Subtype.val (AW pB) (SW pB) (MW pB) (IW pB):=nmW prB (by decide)
theorem nR:Nm2 (zpField prB) (vR (p:=pB)) AR SR MR IR:=nmR prB ltB (by decide) (by decide)
theorem sR:Sml (zpField prB) (vR (p:=pB)):=⟨by decide +kernel,by decide +kernel,by decide +kernel,by decide +kernel⟩
theorem rl_dot{p:Nat × Nat × Bool}:∀ {P:Pt (Zp pB)},rlW Subtype.val p P->rl2 vR (dotW p) P
 | .none,h=>h
 | .some x y,h=>by
  rw[show p=(x.1,y.1,false) from h];rfl
theorem HW_iff(p:Nat × Nat × Bool):HW p=true↔∃ P:Pt (Zp pB),rlW Subtype.val p P/\P.On (zpField prB) b3:=by
 obtain⟨x,y,n⟩:=p;cases n
 ·have hf:=fitW_v nW (b:=b3) rfl (fun n=>belW n prB.pos) x y
  have e:HW (x,y,false)=FTW x y:=by
   show(bif FTW x y then true else false)=_;cases FTW x y <;> rfl
  rw[e];refine hf.trans ⟨fun⟨a,c,h1,h2,h3⟩=>⟨.some a c,by rw[h1,h2];rfl,h3⟩,fun⟨P,h1,h2⟩=>?_⟩;cases P with
  | none=>cases h1
  | some a c =>
   have h1:(x,y,false)=(a.1,c.1,false):=h1;exact⟨a,c,congrArg Prod.fst h1,congrArg (fun t=>t.2.1) h1,h2⟩
 ·exact⟨fun _=>⟨.none,rfl,trivial⟩,fun _=>rfl⟩
theorem vb3:vR b3=((3,0):N2):=rfl
theorem sq_iff(a c:Zp pB):SQR (dotW (a.1,c.1,false)) (3,0)=true↔OnC (zpField prB).toCRing b3 a c:=by
 have g:=sqD_v nR (b:=b3) a c false;rw[vb3]at g;exact g
theorem onR_iff(p:Nat × Nat × Bool):onR SQR p=true↔∃ P:Pt (Zp pB),rlW Subtype.val p P/\P.On (zpField prB) b3:=by
 obtain⟨x,y,n⟩:=p;cases n
 ·unfold onR
  show(bif isP x then (bif isP y then SQR (dotW (x,y,false)) (3,0)else false)else false)=true↔_;constructor
  ·intro h
   cases hx:isP x
   ·rw[hx]at h;cases h
   ·cases hy:isP y
    ·rw[hx,hy]at h;cases h
    ·rw[hx,hy]at h
     have lx:=(isP_iff x).1 hx;have ly:=(isP_iff y).1 hy;rw[cond_true,cond_true]at h;exact⟨.some ⟨x,lx⟩ ⟨y,ly⟩,rfl,(sq_iff ⟨x,lx⟩ ⟨y,ly⟩).1 h⟩
  ·rintro⟨P,h1,h2⟩
   cases P with
   | none=>cases h1
   | some a c =>
    have h1:(x,y,false)=(a.1,c.1,false):=h1;obtain rfl:x=a.1:=congrArg Prod.fst h1;obtain rfl:y=c.1:=congrArg (fun t=>t.2.1) h1;rw[(isP_iff _).2 a.2,(isP_iff _).2 c.2];rw[cond_true,cond_true];exact(sq_iff a c).2 h2
 ·exact⟨fun _=>⟨.none,rfl,trivial⟩,fun _=>rfl⟩
theorem H_is(p:Nat × Nat × Bool):HW p=onR SQR p:=by
 have h:=(HW_iff p).trans (onR_iff p).symm;cases h1:HW p <;> cases h2:onR SQR p
 ·rfl
 ·rw[h1,h2]at h;exact absurd (h.2 rfl) (by decide)
 ·rw[h1,h2]at h;exact absurd (h.1 rfl) (by decide)
 ·rfl
theorem ptD_cn:∀ P:Pt (Zp pB),ptD (cn2 vR P)=cnW Subtype.val P
 | .none=>rfl
 | .some _ _=>rfl
theorem eqP_self(a:Nat × Nat × Bool):eqP a a=true:=decide_eq_true ⟨rfl,rfl,rfl⟩
theorem ptB_ok{a:Nat × Nat × Bool}{c:N2 × N2 × Bool}(h:ptD c=a):ptB a 0 c true=true:=by
 unfold ptB;rw[h,eqP_self];rfl
theorem sm_bad{p q:Nat × Nat × Bool}(h:HW p=false\/HW q=false):SMW p q=((0,0,true),81):=by
 unfold SMW smPW;rcases h with h | h
 ·rw[h];rfl
 ·rw[h];cases HW p <;> rfl
theorem pd_bad{p:Nat × Nat × Bool}(k:Nat)(h:HW p=false):PDW k p=((0,0,true),81):=by
 unfold PDW pdPW;rw[h];rfl
theorem sm_good{p q:Nat × Nat × Bool}{P Q:Pt (Zp pB)}(hp:rlW Subtype.val p P)(hq:rlW Subtype.val q Q)(oP:P.On (zpField prB) b3)(h1:HW p=true)(h2:HW q=true):SMW p q=(cnW Subtype.val (psum (zpField prB) P Q),0):=smPW_v nW curveB hp hq oP h1 h2
theorem pd_good{p:Nat × Nat × Bool}{P:Pt (Zp pB)}(hp:rlW Subtype.val p P)(oP:P.On (zpField prB) b3)(h1:HW p=true){k:Nat}(hk:k<2^256):PDW k p=(cnW Subtype.val (nmul (zpField prB) k P),0):=pdPW_v nW curveB hp oP h1 hk
theorem su_good{p q:Nat × Nat × Bool}{P Q:Pt (Zp pB)}(hp:rlW Subtype.val p P)(hq:rlW Subtype.val q Q):ptD (SUR (dotW p) (dotW q))=cnW Subtype.val (psum (zpField prB) P Q):=by
 rw[ptD_tw,show twD (SUR (dotW p) (dotW q))=cn2 vR (psum (zpField prB) P Q) from smR_v nR curveB (rl_dot hp) (rl_dot hq),ptD_cn]
theorem tm_good{p:Nat × Nat × Bool}{P:Pt (Zp pB)}(hp:rlW Subtype.val p P)(oP:P.On (zpField prB) b3){k:Nat}(hk:k<2^256):ptD (TMR k (dotW p))=cnW Subtype.val (nmul (zpField prB) k P):=by
 rw[show TMR k (dotW p)=cn2 vR (nmul (zpField prB) k P) from rtP_v nR sR curveB oP (rl_dot hp) hk,ptD_cn]
theorem no1_is(p q:Nat × Nat × Bool){k:Nat}(hk:k<2^256):no1 (onR SQR) HW SMW PDW TMR SUR p q k=false:=by
 unfold no1;rw[H_is p];have e1:ptB (SMW p q).1 (SMW p q).2 (SUR (dotW p) (dotW q)) (bif onR SQR p then onR SQR q else false)=true:=by
  cases h1:onR SQR p
  ·rw[sm_bad (.inl ((H_is p).trans h1))]
   rfl
  ·cases h2:onR SQR q
   ·rw[sm_bad (.inr ((H_is q).trans h2))]
    rfl
   ·obtain⟨P,hp,oP⟩:=(onR_iff p).1 h1
    obtain⟨Q,hq,oQ⟩:=(onR_iff q).1 h2;rw[sm_good hp hq oP ((H_is p).trans h1) ((H_is q).trans h2)];exact ptB_ok (su_good hp hq)
 have e2:ptB (PDW k p).1 (PDW k p).2 (TMR k (dotW p)) (onR SQR p)=true:=by
  cases h1:onR SQR p
  ·rw[pd_bad k ((H_is p).trans h1)]
   rfl
  ·obtain⟨P,hp,oP⟩:=(onR_iff p).1 h1
   rw[pd_good hp oP ((H_is p).trans h1) hk];exact ptB_ok (tm_good hp oP hk)
 rw[e1,e2];cases onR SQR p <;> rfl
theorem none_is(p:Nat × Nat × Bool):(PDW nB p).1.2.2=true:=by
 cases h1:HW p
 ·rw[pd_bad nB h1]
 ·obtain⟨P,hp,oP⟩:=(HW_iff p).1 h1
  rw[pd_good hp oP h1 (by decide +kernel),orderB oP];rfl
theorem twice_g:∃ c:Zp pB,psum (zpField prB) GB GB=.some ⟨1368015179489954701390400359078579693043519447331113978918064868415326638035,by decide +kernel⟩ c:=by
 have hJ:Jac (zpField prB) ((⟨1,by decide⟩,⟨2,by decide⟩,(zpField prB).one):Zp pB × Zp pB × Zp pB) GB:=⟨(zpField prB).one_ne,by decide +kernel,by decide +kernel⟩
 have g:=jac_ptw curveB onGB hJ;cases hq:psum (zpField prB) GB GB with
 | none =>
  rw[hq]at g;have g2:(ptw (zpField prB).toCRing ((⟨1,by decide⟩,⟨2,by decide⟩,(zpField prB).one):Zp pB × Zp pB × Zp pB)).2.2=(zpField prB).zero:=g;exact absurd g2 (by decide +kernel)
 | some a c =>
  rw[hq]at g;obtain⟨_,g2,_⟩:=g;refine⟨c,?_⟩;congr 1;refine(zpField prB).cancel (d:=⟨16,by decide⟩) (by decide +kernel) ?_;have e:(zpField prB).mul (ptw (zpField prB).toCRing ((⟨1,by decide⟩,⟨2,by decide⟩,(zpField prB).one):Zp pB × Zp pB × Zp pB)).2.2 (ptw (zpField prB).toCRing ((⟨1,by decide⟩,⟨2,by decide⟩,(zpField prB).one):Zp pB × Zp pB × Zp pB)).2.2=(⟨16,by decide⟩:Zp pB):=by decide +kernel
  rw[e]at g2;rw[<- g2];decide +kernel
theorem lv_is:lvB SMW=true:=by
 obtain⟨c,hc⟩:=twice_g;have h1:HW g1=true:=(HW_iff g1).2 ⟨GB,rfl,onGB⟩;have e:=sm_good (p:=g1) (q:=g1) (P:=GB) (Q:=GB) rfl rfl onGB h1 h1;rw[hc]at e;unfold lvB;rw[e];show(bif (bif (bif (bif eqN nB nB then eqN 1 1 else false)then !false else false)then eqI 0 0 else false)then eqI (limb 3 1368015179489954701390400359078579693043519447331113978918064868415326638035) 217937391675185666 else false)=true;decide +kernel
theorem pairing_first(p q:Nat × Nat × Bool)(k:Nat)(op:(pSW p).ok)(oq:(pSW q).ok)(ok:k<2^256)(w:World) :
  Calls Tryz.prog 3 #[(pSW p).val o0,(pSW q).val o0,(SV.w k).val o0] w fun e w'=>e=.returned (.bool true)/\Below w.heap.size w w' :=
 first_law rOn aAdd aMul aOn rU rX live1 p q k op oq ok (no1_is p q ok) (none_is p) lv_is w
end Sy
open Sy in
theorem pfirst_any(x y xq yq k:Nat)(n nq:Bool)(hx:x<2^256)(hy:y<2^256)(hxq:xq<2^256)(hyq:yq<2^256)(hk:k<2^256)(w:World):Calls Tryz.prog 3 #[.agg (pc x y n),.agg (pc xq yq nq),.agg (pw k)] w fun r w'=>r=.returned (.bool true)/\Below w.heap.size w w':=by
 have h:=pairing_first (x,y,n) (xq,yq,nq) k ⟨hx,hy,trivial,trivial⟩ ⟨hxq,hyq,trivial,trivial⟩ hk w;rw[show(pSW (x,y,n)).val o0=.agg (pc x y n) by kernel_rfl,show(pSW (xq,yq,nq)).val o0=.agg (pc xq yq nq) by kernel_rfl]at h;exact h
end Go.Proofs.YtadfjjfklihaaaaGreat
namespace Go.Proofs.YtadfjjfklihaaaaGreat.pairingFirst
open Go.ChangeShapes Go.WideShapes Go.ChangeAt Go.RowKit
theorem contract(H:Type)(enc:TypeId × Value->H)(W:World)(base:Nat)(args:Array Value)(ds gs:List (DataW H))(before:List MemPlace)
  (hval:∀(j:Nat) t v,Tryz.f3.params[j]?=some t->args[j]?=some v->Value.okWide Tryz.prog W .any base t v)
  (hW:DataW.Whole enc Tryz.prog Tryz.f3.params.toList Rows.pairingFirstSpec.vars false W args.toList ds gs before) :
  Calls Tryz.prog 3 args W fun e W'=>∃ v,e=.returned v/\Rows.pairingFirstSpec.post enc Tryz.prog Tryz.f3 false true false false W args v W':=by
 have hW':=hW;obtain⟨p,q,hA0,hV,rfl,hfz,hnd⟩:=hW;have hA:DataW.TrodAll enc Tryz.prog W 0 (fun _=>true) true Tryz.f3.params.toList args.toList ds p:=hA0;rw[Tryz.params3]at hA hval;obtain⟨v0,vs0,d0,ds0,p0,q0,hargs,rfl,rfl,h0,r0⟩:=trodAll_cons hA;obtain⟨v1,vs1,d1,ds1,p1,q1,rfl,rfl,rfl,h1,r1⟩:=trodAll_cons r0;obtain⟨v2,vs2,d2,ds2,p2,q2,rfl,rfl,rfl,h2,r2⟩:=trodAll_cons r1;obtain⟨rfl,rfl,rfl⟩:=trodAll_nil r2;obtain rfl:args=#[v0,v1,v2]:=by cases args;simp_all
 obtain⟨rfl,rfl⟩:=trodVars_none hV;obtain⟨x0,y0,n0,rfl,X0,Y0⟩:=open_pt (hval 0 26 v0 rfl rfl) h0;obtain⟨x1,y1,n1,rfl,X1,Y1⟩:=open_pt (hval 1 26 v1 rfl rfl) h1;obtain⟨x2,rfl,X2⟩:=open_pw (hval 2 24 v2 rfl rfl) h2;clear hA0;refine(pfirst_any x0 y0 x1 y1 x2 n0 n1 X0 Y0 X1 Y1 X2 W).mono fun e W' ⟨he,hb⟩=>?_;subst he;refine⟨_,rfl,_,_,_,[],p0++(p1++(p2++[])),[],hW',trodAll_cons_mk (shut_bool Tryz.underlying4 _) trodAll_mk0,trodAll_cons_mk (Below.trod laidOutF (by kernel_rfl) (of_decide_eq_true (by kernel_rfl)) h0 hb (fun x hx=>hW'.lt x (by simp[hx]))) (trodAll_cons_mk (Below.trod laidOutF (by kernel_rfl) (of_decide_eq_true (by kernel_rfl)) h1 hb (fun x hx=>hW'.lt x (by simp[hx]))) (trodAll_cons_mk (Below.trod laidOutF (by kernel_rfl) (of_decide_eq_true (by kernel_rfl)) h2 hb (fun x hx=>hW'.lt x (by simp[hx]))) trodAll_mk0)),rfl,hb.frame _,fun h=>by cases h⟩
theorem laid_met(os:Os):laidMet Tryz.prog Rows.pairingFirstRow.laid ((bareWorld os).forCall (fun _ _=>0) ⟨#[],#[.agg #[.int .u64 0,.int .u64 0,.int .u64 0,.int .u64 0,.int .u64 0,.int .u64 0,.int .u64 0,.int .u64 0,.bool false],.agg #[.int .u64 0,.int .u64 0,.int .u64 0,.int .u64 0,.int .u64 0,.int .u64 0,.int .u64 0,.int .u64 0,.bool false],.agg #[.int .u64 0,.int .u64 0,.int .u64 0,.int .u64 0]],[]⟩).memory :=
 laidMet_of_run' 80 (by kernel_rfl) (by kernel_rfl)
theorem reads(os:Os){H:Type}(enc:TypeId × Value->H):∃ places,DataW.whole enc Tryz.prog ((bareWorld os).forCall (fun _ _=>0) ⟨#[],#[.agg #[.int .u64 0,.int .u64 0,.int .u64 0,.int .u64 0,.int .u64 0,.int .u64 0,.int .u64 0,.int .u64 0,.bool false],.agg #[.int .u64 0,.int .u64 0,.int .u64 0,.int .u64 0,.int .u64 0,.int .u64 0,.int .u64 0,.int .u64 0,.bool false],.agg #[.int .u64 0,.int .u64 0,.int .u64 0,.int .u64 0]],[]⟩).memory Tryz.f3.params.toList Rows.pairingFirstSpec.vars false (#[.agg #[.int .u64 0,.int .u64 0,.int .u64 0,.int .u64 0,.int .u64 0,.int .u64 0,.int .u64 0,.int .u64 0,.bool false],.agg #[.int .u64 0,.int .u64 0,.int .u64 0,.int .u64 0,.int .u64 0,.int .u64 0,.int .u64 0,.int .u64 0,.bool false],.agg #[.int .u64 0,.int .u64 0,.int .u64 0,.int .u64 0]]:Array Value).toList 80=some ([.agg [.agg [.lit (.int .u64 0),.lit (.int .u64 0),.lit (.int .u64 0),.lit (.int .u64 0)],.agg [.lit (.int .u64 0),.lit (.int .u64 0),.lit (.int .u64 0),.lit (.int .u64 0)],.lit (.bool false)],.agg [.agg [.lit (.int .u64 0),.lit (.int .u64 0),.lit (.int .u64 0),.lit (.int .u64 0)],.agg [.lit (.int .u64 0),.lit (.int .u64 0),.lit (.int .u64 0),.lit (.int .u64 0)],.lit (.bool false)],.agg [.lit (.int .u64 0),.lit (.int .u64 0),.lit (.int .u64 0),.lit (.int .u64 0)]],[],places) :=
 ⟨[],by kernel_rfl⟩
theorem lifted(os:Os)(started:os.Started)(H:Type)(enc:TypeId × Value->H)(F:Stop.Interp) :
  ReturnsInHanded {} Tryz.checked os 3 .any ((OpenSpec.ofChange Rows.pairingFirstSpec).preRow enc Tryz.prog Tryz.f3 Rows.pairingFirstRow.domain false Rows.pairingFirstRow.laid) (((OpenSpec.ofChange Rows.pairingFirstSpec).at F).post enc Tryz.prog Tryz.f3 false true false false):=by
 obtain⟨places,hx⟩:=reads os enc;refine returnsInHanded_of_row (C:=Tryz.checked) (s:=OpenSpec.ofChange Rows.pairingFirstSpec) ownF started (by kernel_rfl) Tryz.func3
  (witness_row_at (enc:=enc) (C:=Tryz.checked) false (bareWorld os) #[.agg #[.int .u64 0,.int .u64 0,.int .u64 0,.int .u64 0,.int .u64 0,.int .u64 0,.int .u64 0,.int .u64 0,.bool false],.agg #[.int .u64 0,.int .u64 0,.int .u64 0,.int .u64 0,.int .u64 0,.int .u64 0,.int .u64 0,.int .u64 0,.bool false],.agg #[.int .u64 0,.int .u64 0,.int .u64 0,.int .u64 0]] rfl (by kernel_rfl) (by kernel_rfl) (by kernel_rfl)
   (OpenSpec.preRow_of_cond 80 hx (by kernel_rfl) (fun k hk=>by cases hk) (by kernel_rfl) (laid_met os))) ?_
 intro W base args ds gs before hval hW _ _ _ _ _ _;exact contract H enc W base args ds gs before hval hW
theorem said:Rows.PairingFirstSaid :=
 OpenClaim.holds_of_cond 3 Tryz.f3 rfl rfl rfl rfl rfl rfl rfl ⟨rfl,rfl,rfl,rfl,rfl⟩ rfl rfl rfl rfl rfl (by kernel_rfl) Tryz.func3 (by kernel_rfl)
  (of_decide_eq_true (by kernel_rfl)) (by unfold Func.isWrapper;rw[if_neg (of_decide_eq_false (by kernel_rfl))];exact⟨rfl,rfl⟩)
  (fun os started H enc _ F=>by rw[OpenClaim.pre_eq_preRow];exact lifted os started H enc F)
end Go.Proofs.YtadfjjfklihaaaaGreat.pairingFirst
