/- Sums and differences of words by parts of 64 bits, their carries; a word told by two rows. No program is named here. (Cut to what is reached, written closely: PrTW · PrHW · PrC2 · PrW2 · PrT2 · PrH2 · TwU · FCrv · TwA · PrF · PrCm · FRNum.) -/
import Derived.Test.YtadfjjfklihaaaaGreatP28
import Derived.Test.YtadfjjfklihaaaaGreatP15
import Derived.Test.YtadfjjfklihaaaaGreatP19
import Derived.Test.YtadfjjfklihaaaaGreatP27
import Derived.Test.YtadfjjfklihaaaaGreatP14
import Derived.Test.YtadfjjfklihaaaaGreatP12
import Derived.Test.YtadfjjfklihaaaaGreatP7
set_option linter.all false
set_option maxRecDepth 100000
set_option maxHeartbeats 8000000
namespace Go.Proofs.YtadfjjfklihaaaaGreat
open Go.RowKit
namespace Sy
def cLen(B:Nat->Nat):Con:=conV 112 fun l=>match l with
 | [.w k]=>some (.na (B k),[])
 | _=>none
theorem cLen_ok{base:Nat}{γ0:Pl}{w0:World}:ConOk Tryz.prog base γ0 w0 (cLen fun k=>bl k 256):=conV_ok (fun _ _=>by kernel_rfl) fun us r q hr hq hok=>by
 split at hr
 ·rename_i k
  cases hr;exact⟨(by have:=bl_le k 256;show bl k 256<2^62;omega),rfl,fun γ w=>len_pw k w⟩
 ·cases hr
def bkI(k t:Nat):Int:=andI .u64 (shrI .u64 (limbN (t / 64) k) ((t%64:Nat):Int)) 1
theorem and1w{x:Nat}(hx:x<18446744073709551616):andI .u64 ((x:Nat):Int) 1=((x%2:Nat):Int):=by
 have h:(BitVec.ofInt 64 ((x:Nat):Int) &&& BitVec.ofInt 64 1).toNat=x%2:=by
  rw[BitVec.toNat_and,BitVec.ofInt_natCast,show BitVec.ofInt 64 1=BitVec.ofNat 64 1 from rfl,BitVec.toNat_ofNat,BitVec.toNat_ofNat,Nat.mod_eq_of_lt (show x<2^64 from hx)];exact Nat.and_two_pow_sub_one_eq_mod x 1
 show IntKind.u64.wrap (((BitVec.ofInt 64 ((x:Nat):Int) &&& BitVec.ofInt 64 1).toNat:Nat):Int)=_;rw[h,IntKind.wrap_u64];omega
theorem shrw(x k:Nat)(hk:k<=64):shrI .u64 ((x:Nat):Int) ((k:Nat):Int)=((x / 2^k:Nat):Int):=by
 show((x:Nat):Int).fdiv (2^(min ((k:Nat):Int).toNat 64))=_;rw[Int.toNat_natCast,Nat.min_eq_left hk,Int.fdiv_eq_ediv_of_nonneg _ (Int.pow_nonneg (by decide)),Int.natCast_ediv,Int.natCast_pow];rfl
theorem bkI_is(k t:Nat):bkI k t=((k / 2^t%2:Nat):Int):=by
 unfold bkI limbN;rw[shrw _ _ (by omega),and1w (Nat.lt_of_le_of_lt (Nat.div_le_self _ _) (Nat.mod_lt _ (by decide)))];congr 1;have e:(18446744073709551616:Nat)^(t / 64)=2^(64*(t / 64)):=by rw[Nat.pow_mul]
 have e2:(18446744073709551616:Nat)=2^(t%64)*2^(64 - t%64):=by rw[<- Nat.pow_add,show t%64+(64 - t%64)=64 by omega]
 have e3:k / 2^t=k / 2^(64*(t / 64)) / 2^(t%64):=by rw[Nat.div_div_eq_div_mul,<- Nat.pow_add,show 64*(t / 64)+t%64=t by omega]
 rw[e,e3];generalize k / 2^(64*(t / 64))=X;rw[e2,Nat.mod_mul_right_div_self];exact Nat.mod_mod_of_dvd _ ⟨2^(64 - t%64 - 1),by rw[show(2:Nat)=2^1 from rfl,<- Nat.pow_mul,<- Nat.pow_add];congr 1;omega⟩
theorem Wkt.nat{S:List (Nat × Option SV)}{t k:Nat}{n:Int}(h:lookX S t=some (.i .i64 n))(hn:n=(k:Int))(hk:k<2^62):Wkt S t (.na k):=⟨_,h,fun _=>by subst hn;rfl,fun _=>hk⟩
theorem Wkt.neg{S:List (Nat × Option SV)}{t:Nat}{n:Int}(h:lookX S t=some (.i .i64 n))(hn:n=-1):Wkt S t (.v (.int .i64 (-1))):=⟨_,h,fun _=>by subst hn;rfl,fun _=>trivial⟩
def dn:Nat->SV
 | 0=>.v (.int .i64 (-1))
 | t+1=>.na t
theorem Wkt.dn{S:List (Nat × Option SV)}{t k:Nat}{n:Int}(h:lookX S t=some (.i .i64 n))(hn:n=(k:Int) - 1)(hk:k<2^62):Wkt S t (dn k):=by
 cases k with
 | zero=>exact .neg h (by omega)
 | succ k=>exact .nat h (by omega) (by omega)
theorem calls_loop0{E:Env}{γ0:Pl}{w0:World}{V:Value}(G:E.Good γ0 w0)(mx:E.P.follows .mixedOrders=true)(hd:Nat->Nat){f:FuncId}{fn:Func}(hf:E.P.funcs[f]?=some fn)(hb:fn.body.isSome=true)(args:List SV)(ha:okAll E.base args)(hn:decide (args.length<=fn.ntmps)=true)
  (hD:walk E hd fn args=(walk E hd fn args).diag) {d:Nat} (hZ:(walk E hd fn args).shape=.loop d) (T:Tr) (hT:(walk E hd fn args).on []=T) (hW:T.wp E.base ⟨fun r=>r.val γ0=V,fun _ _=>False⟩):Calls E.P f (args.map (·.val γ0)).toArray w0 fun e w'=>e=.returned V/\Below w0.heap.size w0 w' :=
 calls_at G mx hd hf hb args ha hn hD _ hZ (loop_sh (Eq.mpr (congrArg (fun t=>Tr.wp E.base t _) hT) hW))
def nB:Nat:=21888242871839275222246405745257275088548364400416034343698204186575808495617
theorem order_is:∀ w:World,Calls Tryz.prog 48 #[] w fun e w'=>e=.returned ((SV.w nB).val fun _=>0)/\Below w.heap.size w w':=fun w =>
 calls_at (w0:=w) (γ0:=fun _=>0) (E1_ok (more:=[]) trivial) (by kernel_rfl) (fun _=>0) Tryz.func48 (by kernel_rfl) [] trivial (by kernel_rfl) (by kernel_rfl) (.leaf (.w nB)) (by kernel_rfl) rfl
def cOrd:Con:=conV 48 fun l=>match l with
 | []=>some (.w nB,[])
 | _=>none
theorem cOrd_ok{base:Nat}{γ0:Pl}{w0:World}:ConOk Tryz.prog base γ0 w0 cOrd:=conV_ok (fun _ _=>by kernel_rfl) fun us r q hr hq hok=>by
 split at hr
 ·cases hr
  exact⟨(by decide +kernel:nB<2^256),rfl,fun γ w=>order_is w⟩
 ·cases hr
section
variable {TW:Nat × Nat × Nat->(Nat × Nat × Nat) × Nat} {PL:Nat × Nat × Nat->Nat × Nat × Bool->(Nat × Nat × Nat) × Nat} {B:Nat->Nat}
def trdW(TW:Nat × Nat × Nat->(Nat × Nat × Nat) × Nat)(PL:Nat × Nat × Nat->Nat × Nat × Bool->(Nat × Nat × Nat) × Nat)(kk:Nat)(P:Nat × Nat × Bool)(t:Nat)(x:Nat × Nat × Nat):Nat × Nat × Nat:=bif eqI (bkI kk t) 1 then (PL (TW x).1 P).1 else (TW x).1
def tmsW(TW:Nat × Nat × Nat->(Nat × Nat × Nat) × Nat)(PL:Nat × Nat × Nat->Nat × Nat × Bool->(Nat × Nat × Nat) × Nat)(kk:Nat)(P:Nat × Nat × Bool):Nat->Nat × Nat × Nat->Nat × Nat × Nat
 | 0,x=>x
 | t+1,x=>tmsW TW PL kk P t (trdW TW PL kk P t x)
def moreTW(m:Nat)(B:Nat->Nat)(TW:Nat × Nat × Nat->(Nat × Nat × Nat) × Nat)(PL:Nat × Nat × Nat->Nat × Nat × Bool->(Nat × Nat × Nat) × Nat):List Con:=[cLen B,conW true m 111 (gJW fun a=>SV.tu (jSW (TW a).1) (SV.w ((TW a).2))),conW true m 70 (gJPW fun a b=>SV.tu (jSW (PL a b).1) (SV.w ((PL a b).2)))]
noncomputable def TTW (m:Nat) (B:Nat->Nat) (TW:Nat × Nat × Nat->(Nat × Nat × Nat) × Nat) (PL:Nat × Nat × Nat->Nat × Nat × Bool->(Nat × Nat × Nat) × Nat) (kk:Nat) (P:Nat × Nat × Bool):Tr:=(walk (E1 (moreTW m B TW PL)) (fun _=>0) Tryz.f73 [cvW 0,.w kk,pSW P]).on []
def stTW(kk:Nat)(P:Nat × Nat × Bool)(d:SV)(x:Nat × Nat × Nat):St:=⟨[(3,some (.p 1 0 0 0)),(4,some (.p 2 0 0 0)),(5,some (.p 3 0 0 0)),(6,some (.p 4 0 0 0)),(7,some (.p 5 0 0 0)),(8,some d)],[(5,jSW x,115),(4,jSW zJW,115),(3,pSW P,67),(2,.w kk,24),(1,cvW 0,72)],6⟩
structure RTW (TW:Nat × Nat × Nat->(Nat × Nat × Nat) × Nat) (PL:Nat × Nat × Nat->Nat × Nat × Bool->(Nat × Nat × Nat) × Nat) (kk:Nat) (P:Nat × Nat × Bool) (T:Nat × Nat × Nat) (L:Nat) where
 s:Nat
 x:Nat × Nat × Nat
 le:s<=L
 is:tmsW TW PL kk P s x=T
 ok:(jSW x).ok
theorem timesW_walk{m:Nat}(b256:∀ k,B k<=256)(hN:∀ base γ0 w0,ConOk Tryz.prog base γ0 w0 (cLen B))(oT:∀ a,(jSW (TW a).1).ok)(oP:∀ a b,(jSW a).ok->(pSW b).ok->(jSW (PL a b).1).ok)(hT:IsW m 111 (gJW fun a=>SV.tu (jSW (TW a).1) (SV.w ((TW a).2))))(hP:IsW m 70 (gJPW fun a b=>SV.tu (jSW (PL a b).1) (SV.w ((PL a b).2))))(kk:Nat)(P:Nat × Nat × Bool)(ok:kk<2^256)(op:(pSW P).ok)(F:Nat)(w:World)(hF:FldAt w F m) :
  Calls Tryz.prog 73 ([cvW 0,SV.w kk,pSW P].map (·.val (fun _=>F))).toArray w fun e w'=>e=.returned ((jSW (tmsW TW PL kk P (B kk) zJW)).val (fun _=>F))/\Below w.heap.size w w':=by
 have hL:B kk<=256:=b256 kk;have h62:(2:Nat)^62=4611686018427387904:=by decide
 refine calls_loop0 (γ0:=(fun _=>F)) (E1_ok (more:=moreTW m B TW PL) ⟨hN _ _ _,hT _ _ _ (FOk.of hF),hP _ _ _ (FOk.of hF),trivial⟩) (by kernel_rfl) (fun _=>0) Tryz.func73 (by kernel_rfl) [cvW 0,.w kk,pSW P] ⟨⟨cvW_ok,rfl⟩,⟨ok,rfl⟩,⟨op,rfl⟩,trivial⟩ (by kernel_rfl) (by kernel_rfl)
  (d:=0) (by kernel_rfl) (TTW m B TW PL kk P) (by kernel_rfl) ?_
 have eb:(E1 (moreTW m B TW PL)).base=1:=rfl;rw[eb];have hB:∀ d x,subB 1 (stTW kk P (dn d) x)=true:=fun d x=>by cases d <;> kernel_rfl
 have h0:Sub 1 (TTW m B TW PL kk P).stOf (stTW kk P (dn (B kk)) zJW):=Sub.ofW [5,4,3,2,1] (hB _ _) ⟨.is (by kernel_rfl),.is (by kernel_rfl),.is (by kernel_rfl),.is (by kernel_rfl),.is (by kernel_rfl),.dn (n:=((B kk:Nat):Int) - ((1:Nat):Int)) (by kernel_rfl) rfl (by omega),trivial⟩ (by kernel_rfl);have hs:(TTW m B TW PL kk P).isLoop 0=true:=by kernel_rfl
 have d0:∀ x,(TTW m B TW PL kk P).round (stTW kk P (dn 0) x)=((TTW m B TW PL kk P).round (stTW kk P (dn 0) x)).diag:=fun x=>by kernel_rfl
 have z0:∀ x,((TTW m B TW PL kk P).round (stTW kk P (dn 0) x)).shape=.leaf (jSW x):=fun x=>by kernel_rfl
 have d1:∀ t x,(TTW m B TW PL kk P).round (stTW kk P (dn (t+1)) x)=((TTW m B TW PL kk P).round (stTW kk P (dn (t+1)) x)).diag:=fun t x=>by kernel_rfl
 have z1:∀ t x,((TTW m B TW PL kk P).round (stTW kk P (dn (t+1)) x)).shape=.br (!ltN t 0) (.need (t / 64<4) (.need (t / 64<4) (.need (0<=((t%64:Nat):Int)) (.br (eqI (bkI kk t) 1) (.cut 0) (.cut 0))))) (.leaf (jSW x)):=fun t x=>by kernel_rfl
 have n1:∀ t x,t<B kk->Sub 1 (((TTW m B TW PL kk P).round (stTW kk P (dn (t+1)) x)).on [true,true]).cutOf (stTW kk P (dn t) (PL (TW x).1 P).1):=fun t x ht=>Sub.ofW [5,4,3,2,1] (hB _ _) ⟨.is (by kernel_rfl),.is (by kernel_rfl),.is (by kernel_rfl),.is (by kernel_rfl),.is (by kernel_rfl),.dn (n:=((t:Nat):Int) - ((1:Nat):Int)) (by kernel_rfl) rfl (by omega),trivial⟩ (by kernel_rfl);have n2:∀ t x,t<B kk->Sub 1 (((TTW m B TW PL kk P).round (stTW kk P (dn (t+1)) x)).on [true,false]).cutOf (stTW kk P (dn t) (TW x).1):=fun t x ht=>Sub.ofW [5,4,3,2,1] (hB _ _) ⟨.is (by kernel_rfl),.is (by kernel_rfl),.is (by kernel_rfl),.is (by kernel_rfl),.is (by kernel_rfl),.dn (n:=((t:Nat):Int) - ((1:Nat):Int)) (by kernel_rfl) rfl (by omega),trivial⟩ (by kernel_rfl);have c1:∀ t x,(((TTW m B TW PL kk P).round (stTW kk P (dn (t+1)) x)).on [true,true]).isCut 0=true:=fun t x=>by kernel_rfl
 have c2:∀ t x,(((TTW m B TW PL kk P).round (stTW kk P (dn (t+1)) x)).on [true,false]).isCut 0=true:=fun t x=>by kernel_rfl
 generalize TTW m B TW PL kk P=T at h0 hs d0 z0 d1 z1 n1 n2 c1 c2 |-
 generalize B kk=L at *;refine loop_wp (T:=T) 0 hs (ι:=RTW TW PL kk P (tmsW TW PL kk P L zJW) L) (fun r=>stTW kk P (dn r.s) r.x) (fun r=>r.s) ⟨L,zJW,Nat.le_refl _,rfl,⟨w0_ok,w0_ok,w0_ok,trivial⟩⟩ h0 fun⟨s,x,hle,his,hox⟩=>?_;cases s with
 | zero =>
  refine wp_of_shape (d0 x) (L:=fun L'=>((T.round (stTW kk P (dn 0) x)).on L').wp 1 _) ?_ fun _ h=>h;rw[z0 x];show(jSW x).val _=_;rw[<- his];rfl
 | succ t =>
  refine wp_of_shape (d1 t x) (L:=fun L'=>((T.round (stTW kk P (dn (t+1)) x)).on L').wp 1 _) ?_ fun _ h=>h;rw[z1 t x];have ht:t<L:=hle;refine⟨fun _=>?_,fun h=>?_⟩
  ·refine need_sh (by omega) (need_sh (by omega) (need_sh (by omega) ⟨fun h=>?_,fun h=>?_⟩))
   ·exact next_wp 0 (c1 t x) (st:=fun r:RTW TW PL kk P (tmsW TW PL kk P L zJW) L=>stTW kk P (dn r.s) r.x) ⟨t,(PL (TW x).1 P).1,Nat.le_of_lt ht,by rw[<- his,tmsW,trdW,h];rfl,oP _ _ (oT _) op⟩ (Nat.lt_succ_self t) (n1 t x ht)
   ·exact next_wp 0 (c2 t x) (st:=fun r:RTW TW PL kk P (tmsW TW PL kk P L zJW) L=>stTW kk P (dn r.s) r.x) ⟨t,(TW x).1,Nat.le_of_lt ht,by rw[<- his,tmsW,trdW,h];rfl,oT _⟩ (Nat.lt_succ_self t) (n2 t x ht)
  ·have e:ltN t 0=false:=decide_eq_false (Nat.not_lt_zero t)
   rw[e]at h;cases h
end
end Sy
open Go.RowKit
namespace Sy
section
variable {FT:Nat->Nat->Bool} {TM:Nat->(Nat × Nat × Bool)->(Nat × Nat × Nat)} {H:(Nat × Nat × Bool)->Bool} {PL:(Nat × Nat × Nat)->(Nat × Nat × Bool)->((Nat × Nat × Nat)) × Nat} {PT:(Nat × Nat × Nat)->(Nat × Nat × Bool)}
def hldW(FT:Nat->Nat->Bool)(P:(Nat × Nat × Bool)):Bool:=bif P.2.2 then true else bif FT P.1 P.2.1 then true else false
def smPW(H:(Nat × Nat × Bool)->Bool)(PL:(Nat × Nat × Nat)->(Nat × Nat × Bool)->((Nat × Nat × Nat)) × Nat)(PT:(Nat × Nat × Nat)->(Nat × Nat × Bool))(a b:(Nat × Nat × Bool)):(Nat × Nat × Bool) × Int:=bif (bif !H a then true else !H b)then ((0,0,true),81)else (PT (PL (plcW a) b).1,0)
def pdPW(H:(Nat × Nat × Bool)->Bool)(TM:Nat->(Nat × Nat × Bool)->(Nat × Nat × Nat))(PT:(Nat × Nat × Nat)->(Nat × Nat × Bool))(n:Nat)(a:(Nat × Nat × Bool)):(Nat × Nat × Bool) × Int:=bif !H a then ((0,0,true),81)else (PT (TM n a),0)
def tpSW(r:(Nat × Nat × Bool) × Int):SV:=.tu (pSW r.1) (.i .i64 r.2)
theorem smPW_ok(oT:∀ a,(pSW (PT a)).ok)(a b:(Nat × Nat × Bool)):(tpSW (smPW H PL PT a b)).ok:=by
 unfold smPW;cases (bif !H a then true else !H b)
 ·exact⟨oT _,trivial⟩
 ·exact⟨⟨w0_ok,w0_ok,trivial,trivial⟩,trivial⟩
theorem pdPW_ok(oT:∀ a,(pSW (PT a)).ok)(n:Nat)(a:(Nat × Nat × Bool)):(tpSW (pdPW H TM PT n a)).ok:=by
 unfold pdPW;cases !H a
 ·exact⟨oT _,trivial⟩
 ·exact⟨⟨w0_ok,w0_ok,trivial,trivial⟩,trivial⟩
theorem timesW_is{m:Nat}{B:Nat->Nat}{TW:(Nat × Nat × Nat)->((Nat × Nat × Nat)) × Nat}(b256:∀ k,B k<=256)(hN:∀ base γ0 w0,ConOk Tryz.prog base γ0 w0 (cLen B))(oT:∀ a,(jSW (TW a).1).ok)(oP:∀ a b,(jSW a).ok->(pSW b).ok->(jSW (PL a b).1).ok)(oM:∀ n P,n<2^256->(pSW P).ok->(jSW (tmsW TW PL n P (B n) zJW)).ok)(hT:IsW m 111 (gJW fun a=>SV.tu (jSW (TW a).1) (SV.w ((TW a).2))))(hP:IsW m 70 (gJPW fun a b=>SV.tu (jSW (PL a b).1) (SV.w ((PL a b).2)))):IsW m 73 (gKPW fun n P=>jSW (tmsW TW PL n P (B n) zJW)):=fun _ _ _ hf=>conW_ok hf (fun _ _=>by kernel_rfl) fun us r q hr _ hok=>by
  obtain⟨a,b,rfl,rfl⟩:=gKPW_ok hr;have oa:=hok (.w a) (by simp);have ob:=hok (pSW b) (by simp);refine⟨oM a b oa ob,rfl,fun γ F w hF=>?_⟩;simp only[List.map_cons,List.map_nil];rw[val0 (γ:=γ) (x:=jSW _) rfl,val0 (γ:=γ) (x:=.w a) rfl,val0 (γ:=γ) (x:=pSW b) rfl];have h:=timesW_walk b256 hN oT oP hT hP a b oa ob F w hF;exact h
theorem holdsW_is{m:Nat}(hF1:IsW m 74 (gNNW fun a b=>SV.b (FT a b)))(hT:IsW m 73 (gKPW fun a b=>jSW (TM a b))):IsW m 37 (gPW fun a=>SV.b (hldW FT a)):=fun _ _ _ hf=>conW_ok hf (fun _ _=>by kernel_rfl) fun us r q hr _ hok=>by
  obtain⟨a,rfl,rfl⟩:=gPW_ok hr;have oa:=hok (pSW a) (by simp);have key:=(⟨trivial,rfl⟩:(SV.b (hldW FT a)).ok/\(SV.b (hldW FT a)).lt 0=true)
  refine⟨key.1,key.2,fun γ F w hF=>?_⟩;simp only[List.map_cons,List.map_nil];rw[val0 (γ:=γ) key.2];rw[val0 (γ:=γ) (x:=pSW a) rfl];have h:=calls_at (w0:=w) (V:=(SV.b (hldW FT a)).val fun _=>0) (E1_ok (γ0:=fun _=>F) (more:=[conW true m 74 (gNNW fun a b=>SV.b (FT a b)),conW true m 73 (gKPW fun a b=>jSW (TM a b)),cV1 75 shJW fun T=>.b (zrW T),cOrd]) ⟨hF1 _ _ _ (FOk.of hF),hT _ _ _ (FOk.of hF),noneW_is _ _ _,cOrd_ok,trivial⟩) (by kernel_rfl) (fun _=>0) Tryz.func37 (by kernel_rfl) [cvW 0,pSW a] ⟨⟨cvW_ok,rfl⟩,⟨oa,rfl⟩,trivial⟩ (by kernel_rfl) (by kernel_rfl)
   (.leaf (.b (bif a.2.2 then true else bif FT a.1 a.2.1 then true else false))) (by kernel_rfl) (leaf_sh (val0 (x:=.b (hldW FT a)) rfl))
  exact h
theorem sumW_is{m:Nat}(oT:∀ a,(pSW (PT a)).ok)(hH:IsW m 37 (gPW fun a=>SV.b (H a)))(hP:IsW m 70 (gJPW fun a b=>SV.tu (jSW (PL a b).1) (SV.w ((PL a b).2))))(hQ:IsW m 72 (gJW fun a=>pSW (PT a))):IsW m 35 (gPPW fun a b=>tpSW (smPW H PL PT a b)):=fun _ _ _ hf=>conW_ok hf (fun _ _=>by kernel_rfl) fun us r q hr _ hok=>by
  obtain⟨a,b,rfl,rfl⟩:=gPPW_ok hr;have oa:=hok (pSW a) (by simp);have ob:=hok (pSW b) (by simp);have key:=(⟨smPW_ok oT a b,rfl⟩:(tpSW (smPW H PL PT a b)).ok/\(tpSW (smPW H PL PT a b)).lt 0=true)
  refine⟨key.1,key.2,fun γ F w hF=>?_⟩;simp only[List.map_cons,List.map_nil];rw[val0 (γ:=γ) key.2];rw[val0 (γ:=γ) (x:=pSW a) rfl];rw[val0 (γ:=γ) (x:=pSW b) rfl];have h:=calls_at (w0:=w) (V:=(tpSW (smPW H PL PT a b)).val fun _=>0) (E1_ok (γ0:=fun _=>F) (more:=[conW true m 37 (gPW fun a=>SV.b (H a)),conW true m 70 (gJPW fun a b=>SV.tu (jSW (PL a b).1) (SV.w ((PL a b).2))),conW true m 72 (gJW fun a=>pSW (PT a)),conW true m 71 (gPW fun a=>jSW (plcW a))]) ⟨hH _ _ _ (FOk.of hF),hP _ _ _ (FOk.of hF),hQ _ _ _ (FOk.of hF),placeW_is _ _ _ (FOk.of hF),trivial⟩) (by kernel_rfl) (fun _=>0) Tryz.func35 (by kernel_rfl) [cvW 0,pSW a,pSW b] ⟨⟨cvW_ok,rfl⟩,⟨oa,rfl⟩,⟨ob,rfl⟩,trivial⟩ (by kernel_rfl) (by kernel_rfl)
   (.br (bif !H a then true else !H b) (.leaf (SV.tu (.ap (SV.w (0)) (.ap (SV.w (0)) (.ap (.v (.bool true)) .e))) (.v (.int .i64 81)))) (.leaf (.tu (pSW (PT (PL (plcW a) b).1)) (.v (.int .i64 0))))) (by kernel_rfl) (br_sh (fun h=>leaf_sh (by unfold tpSW smPW;rw[h];rfl)) fun h=>leaf_sh (by unfold tpSW smPW;rw[h];rfl))
  exact h
theorem productW_is{m:Nat}(oT:∀ a,(pSW (PT a)).ok)(hH:IsW m 37 (gPW fun a=>SV.b (H a)))(hT:IsW m 73 (gKPW fun a b=>jSW (TM a b)))(hQ:IsW m 72 (gJW fun a=>pSW (PT a))):IsW m 36 (gKPW fun a b=>tpSW (pdPW H TM PT a b)):=fun _ _ _ hf=>conW_ok hf (fun _ _=>by kernel_rfl) fun us r q hr _ hok=>by
  obtain⟨a,b,rfl,rfl⟩:=gKPW_ok hr;have oa:=hok (.w a) (by simp);have ob:=hok (pSW b) (by simp);have key:=(⟨pdPW_ok oT a b,rfl⟩:(tpSW (pdPW H TM PT a b)).ok/\(tpSW (pdPW H TM PT a b)).lt 0=true)
  refine⟨key.1,key.2,fun γ F w hF=>?_⟩;simp only[List.map_cons,List.map_nil];rw[val0 (γ:=γ) key.2];rw[val0 (γ:=γ) (x:=.w a) rfl];rw[val0 (γ:=γ) (x:=pSW b) rfl];have h:=calls_at (w0:=w) (V:=(tpSW (pdPW H TM PT a b)).val fun _=>0) (E1_ok (γ0:=fun _=>F) (more:=[conW true m 37 (gPW fun a=>SV.b (H a)),conW true m 73 (gKPW fun a b=>jSW (TM a b)),conW true m 72 (gJW fun a=>pSW (PT a))]) ⟨hH _ _ _ (FOk.of hF),hT _ _ _ (FOk.of hF),hQ _ _ _ (FOk.of hF),trivial⟩) (by kernel_rfl) (fun _=>0) Tryz.func36 (by kernel_rfl) [cvW 0,.w a,pSW b] ⟨⟨cvW_ok,rfl⟩,⟨oa,rfl⟩,⟨ob,rfl⟩,trivial⟩ (by kernel_rfl) (by kernel_rfl)
   (.br (!H b) (.leaf (SV.tu (.ap (SV.w (0)) (.ap (SV.w (0)) (.ap (.v (.bool true)) .e))) (.v (.int .i64 81)))) (.leaf (.tu (pSW (PT (TM a b))) (.v (.int .i64 0))))) (by kernel_rfl) (br_sh (fun h=>leaf_sh (by unfold tpSW pdPW;rw[h];rfl)) fun h=>leaf_sh (by unfold tpSW pdPW;rw[h];rfl))
  exact h
end
end Sy
open Go.RowKit
namespace Sy
/-! Places,points. -/
def jS2(T:N2 × N2 × N2):SV:=.ap (F2s (T.1)) (.ap (F2s (T.2.1)) (.ap (F2s (T.2.2)) .e))
def pS2(P:N2 × N2 × Bool):SV:=.ap (F2s (P.1)) (.ap (F2s (P.2.1)) (.ap (.b P.2.2) .e))
def dJ2:SV->Option (N2 × N2 × N2)
 | .ap x (.ap y (.ap z .e))=>match d2 x,d2 y,d2 z with
  | some a,some b,some c=>some (a,b,c)
  | _,_,_=>none
 | _=>none
theorem dJ2_ok(x:SV)(T:N2 × N2 × N2)(h:dJ2 x=some T):x=jS2 T:=by
 unfold dJ2 at h
 split at h
 ·split at h
  ·rename_i h0 h1 h2
   cases h;rw[d2_ok _ _ h0,d2_ok _ _ h1,d2_ok _ _ h2];rfl
  ·cases h
 ·cases h
def shJ2:Shp (N2 × N2 × N2):=⟨jS2,dJ2,dJ2_ok,fun _=>rfl⟩
end Sy
open Go.RowKit
namespace Sy
def wl2(a:N2):List Nat:=[a.1,a.2]
def zJ2:N2 × N2 × N2:=(z2,z2,z2)
def zr2(T:N2 × N2 × N2):Bool:=eqL (wl2 (T.2.2)) (wl2 (z2))
section
variable {A S M:N2->N2->N2} {I:N2->N2 × Bool}
def pac2(S M:N2->N2->N2)(T:N2 × N2 × N2)(x2:N2):N2:=S (M x2 (M T.2.2 T.2.2)) T.1
def pup2(S M:N2->N2->N2)(T:N2 × N2 × N2)(y2:N2):N2:=S (M y2 (M (M T.2.2 T.2.2) T.2.2)) T.2.1
def dP2:SV->Option (N2 × N2 × Bool)
 | .ap x (.ap y (.ap (.b n) .e))=>match d2 x,d2 y with
  | some a,some b=>some (a,b,n)
  | _,_=>none
 | _=>none
theorem dP2_ok(x:SV)(T:N2 × N2 × Bool)(h:dP2 x=some T):x=pS2 T:=by
 unfold dP2 at h
 split at h
 ·split at h
  ·rename_i h0 h1
   cases h;rw[d2_ok _ _ h0,d2_ok _ _ h1];rfl
  ·cases h
 ·cases h
theorem one2_ok:(F2s (1,0)).ok:=⟨(by decide:(1:Nat)<2^256),w0_ok,trivial⟩
def pnt2(M:N2->N2->N2)(I:N2->N2 × Bool)(T:N2 × N2 × N2):N2 × N2 × Bool :=
 bif (I T.2.2).2 then (M T.1 (M (I T.2.2).1 (I T.2.2).1),M T.2.1 (M (M (I T.2.2).1 (I T.2.2).1) (I T.2.2).1),false)else (z2,z2,true)
end
end Sy
open Go.RowKit
-- WHAT Base COMES TO.
theorem f_Base(w:World):Calls Tryz.prog 64 #[] w fun e w'=>∃ F,e=.returned (.pointer (some ⟨F,0,none⟩))/\FldAt w' F 21888242871839275222246405745257275088696311157297823662689037894645226208583/\w.heap.size<=F/\Below w.heap.size w w':=by
 have HMO:=Lib.hid (fun wx=>modulo_any 21888242871839275222246405745257275088696311157297823662689037894645226208583 (by omega) (by omega) (by omega) wx);rw[show pw 21888242871839275222246405745257275088696311157297823662689037894645226208583=#[.int .u64 4332616871279656263,.int .u64 10917124144477883021,.int .u64 13281191951274694749,.int .u64 3486998266802970665] from by kernel_rfl]at HMO;go_enter Tryz.func64,Tryz.ntmps64
 go_wp2_with fail
 refine(HMO.out _).mono ?_;rintro e w5 ⟨F,rfl,hF,hs,hb⟩;have HF:=Lib.hid (And.intro hF (And.intro hs hb));clear hF hs hb HMO
 go_wp2_with fail
 go_ret;exact⟨F,rfl,HF.out.1,HF.out.2⟩
open Go.RowKit
namespace Sy
abbrev pB:Nat:=21888242871839275222246405745257275088696311157297823662689037894645226208583
theorem prB:Pr pB:=prm_21888242871839275222246405745257275088696311157297823662689037894645226208583
theorem ltB:pB<2^256:=by decide
theorem fB(w:World):FOk false pB o0 w:=⟨by decide,by decide,ltB,fun h=>by cases h⟩
/-! Named: of the pairing's prime. -/
end Sy
open Go.RowKit Sy
theorem first_any(w:World):Calls Tryz.prog 34 #[] w fun e w'=>∃ F,e=.returned (vcW F)/\FldAt w' F 21888242871839275222246405745257275088696311157297823662689037894645226208583/\w.heap.size<=F/\Below w.heap.size w w':=by
 have HCR:=Lib.hid (fun wx=>f_Base wx);have HO1:=Lib.hid (fun wx=>of_wv 1 (by omega) wx);have HO3:=Lib.hid (fun wx=>of_wv 3 (by omega) wx);rw[show pw 1=#[.int .u64 1,.int .u64 0,.int .u64 0,.int .u64 0] from by kernel_rfl]at HO1;rw[show pw 3=#[.int .u64 3,.int .u64 0,.int .u64 0,.int .u64 0] from by kernel_rfl]at HO3;go_enter Tryz.func34,Tryz.ntmps34
 go_wp2_with fail
 refine(HCR.out _).mono ?_;rintro e w5 ⟨F,rfl,hF,hs,hb⟩;have HF:=Lib.hid hF;have HS:=Lib.hid hs;have HB:=Lib.hid hb;have hr:=(HB.out.block w.heap.size (by simp)).trans (heap_alloc_new w _);have HR:=Lib.hid hr;have hlt:w.heap.size<w5.heap.size:=(Array.getElem?_eq_some_iff.1 hr).1;have hFl:F<w5.heap.size:=(Array.getElem?_eq_some_iff.1 HF.out.row).1;clear hr HCR
 go_wp2_with fail
 refine Calls.mono (HO1.out w5) ?_;rintro e w6 ⟨rfl,hb6⟩
 go_wp2_with fail
 refine Calls.mono (HO3.out w6) ?_;rintro e w7 ⟨rfl,hb7⟩;have HR7:=Lib.hid ((hb7.block w.heap.size (Nat.lt_of_lt_of_le hlt hb6.size)).trans ((hb6.block w.heap.size hlt).trans HR.out));have HF7:=Lib.hid (⟨(hb7.block _ (Nat.lt_of_lt_of_le hFl hb6.size)).trans ((hb6.block _ hFl).trans HF.out.row),HF.out.odd,HF.out.big,HF.out.lt⟩:FldAt w7 F _);have HB7:=Lib.hid ((HB.out.trans (hb6.mono HB.out.size)).trans (hb7.mono (Nat.le_trans HB.out.size hb6.size)));clear hb6 hb7 HO1 HO3 HF HR HB hlt hFl
 go_wp2_with (refine wpList_store_row rfl 72 _ _ rfl w.heap.size ((cvW 0).cells fun _=>F).toArray rfl rfl 72 _ (by exact HR7.out) (by kernel_rfl) (by rfl) (by kernel_rfl) ?_)
 refine bodyPost_ret (v:=vcW F) (results_cell_row (p:=0) rfl _ _ w.heap.size 72 ((cvW 0).cells fun _=>F).toArray (0,0) _ rfl (setRow_heap _ _ _ _ _ _ HR7.out) Tryz.underlying72 rfl (by kernel_rfl)) rfl ⟨F,rfl,?_,?_,?_⟩
 ·have h:=HS.out
  simp at h;exact fld_row HF7.out (by omega)
 ·have h:=HS.out
  simp at h;omega
 ·exact below_setRow (((Below.refl _ _).alloc (Nat.le_refl _) _).trans (HB7.out.mono (by simp))) (Nat.le_refl _) _
namespace Sy
def cFirst:Con:=⟨34,fun n _ l=>match l with
 | []=>some (cvW n,[],[(n,sFld pB,145)])
 | _=>none⟩
theorem cFirst_ok{γ0:Pl}{w0:World}:ConOk Tryz.prog 1 γ0 w0 cFirst:=⟨fun _ _=>by kernel_rfl,fun n M l r p R hr hp hn hok _=>by
 simp only[cFirst]at hr
 split at hr
 ·cases hr
  refine⟨cvW_ok,by show(decide (n<n+1)&&(decide (n<n+1)&&(decide (n<n+1)&&(decide (n<n+1)&&true))))=true;simp,fun q hq=>?_,fun γ hγ wx hw hL=>?_⟩
  ·simp only[List.mem_cons,List.not_mem_nil,or_false]at hq
   subst hq;exact⟨⟨trivial,trivial,trivial,trivial,trivial,trivial,trivial,trivial,trivial,trivial⟩,rfl,Nat.le_refl _,Nat.lt_succ_self _⟩
  ·refine(first_any wx).mono fun e w' ⟨F,h1,h2,h3,h4⟩=>?_
   obtain⟨δ,hδ⟩:∃ δ:Pl,∀ k,δ k=if k=n then F else γ k:=⟨_,fun _=>rfl⟩
   refine⟨⟨δ,fun k hk=>by rw[hδ,if_neg (by omega)],?_,fun q hq=>?_,List.pairwise_singleton _ _⟩,h4⟩
   ·rw[h1,cvW_val,hδ,if_pos rfl]
   ·simp only[List.mem_cons,List.not_mem_nil,or_false]at hq
    subst hq;refine⟨by rw[hδ,if_pos rfl];exact h3,?_⟩;show w'.heap[δ n]?=_;rw[hδ,if_pos rfl];exact h2.row
 ·cases hr⟩
def shPW:Shp (Nat × Nat × Bool):=⟨pSW,dPW,dPW_ok,fun _=>rfl⟩
def shP2:Shp (N2 × N2 × Bool):=⟨pS2,dP2,dP2_ok,fun _=>rfl⟩
section
variable {H:Nat × Nat × Bool->Bool} {SM:Nat × Nat × Bool->Nat × Nat × Bool->(Nat × Nat × Bool) × Int} {PD:Nat->Nat × Nat × Bool->(Nat × Nat × Bool) × Int}
theorem On_is(hH:IsW pB 37 (gPW fun a=>SV.b (H a))):Is0 10 shPW fun a=>.b (H a):=fun _ _ _=>cV1_ok (fun _ _=>by kernel_rfl) (fun _ _=>⟨trivial,rfl⟩) fun a oa w =>
 calls_at (w0:=w) (γ0:=o0) (E1_ok (more:=[cFirst,conW false pB 37 (gPW fun a=>SV.b (H a))]) ⟨cFirst_ok,hH _ _ _ (fB w),trivial⟩) (by kernel_rfl) (fun _=>0) Tryz.func10 (by kernel_rfl) [pSW a] ⟨⟨oa,rfl⟩,trivial⟩ (by kernel_rfl) (by kernel_rfl) (.leaf (.b (H a))) (by kernel_rfl) rfl
theorem Add_is(o:∀ a b,(tpSW (SM a b)).ok)(hS:IsW pB 35 (gPPW fun a b=>tpSW (SM a b))):Is00 8 shPW shPW fun a b=>tpSW (SM a b):=fun _ _ _=>cV2_ok (fun _ _=>by kernel_rfl) (fun a b _ _=>⟨o a b,rfl⟩) fun a b oa ob w =>
 calls_at (w0:=w) (γ0:=o0) (E1_ok (more:=[cFirst,conW false pB 35 (gPPW fun a b=>tpSW (SM a b))]) ⟨cFirst_ok,hS _ _ _ (fB w),trivial⟩) (by kernel_rfl) (fun _=>0) Tryz.func8 (by kernel_rfl) [pSW a,pSW b] ⟨⟨oa,rfl⟩,⟨ob,rfl⟩,trivial⟩ (by kernel_rfl) (by kernel_rfl) (.leaf (tpSW (SM a b))) (by kernel_rfl) rfl
theorem Mul_is(o:∀ n a,(tpSW (PD n a)).ok)(hP:IsW pB 36 (gKPW fun n a=>tpSW (PD n a))):Is00 9 shW shPW fun n a=>tpSW (PD n a):=fun _ _ _=>cV2_ok (fun _ _=>by kernel_rfl) (fun a b _ _=>⟨o a b,rfl⟩) fun a b oa ob w =>
 calls_at (w0:=w) (γ0:=o0) (E1_ok (more:=[cFirst,conW false pB 36 (gKPW fun n a=>tpSW (PD n a))]) ⟨cFirst_ok,hP _ _ _ (fB w),trivial⟩) (by kernel_rfl) (fun _=>0) Tryz.func9 (by kernel_rfl) [.w a,pSW b] ⟨⟨oa,rfl⟩,⟨ob,rfl⟩,trivial⟩ (by kernel_rfl) (by kernel_rfl) (.leaf (tpSW (PD a b))) (by kernel_rfl) rfl
end
def cOfN:Con:=conV 69 fun l=>match l with
 | [.v (.int .u64 n)]=>if 0<=n/\n<18446744073709551616 then some (.w n.toNat,[])else none
 | _=>none
theorem cOfN_ok{base:Nat}{γ0:Pl}{w0:World}:ConOk Tryz.prog base γ0 w0 cOfN:=conV_ok (fun _ _=>by kernel_rfl) fun us r q hr hq hok=>by
 split at hr
 ·rename_i n
  split at hr
  ·rename_i hn
   cases hr;have h2:n.toNat<18446744073709551616:=by omega
   refine⟨Nat.lt_of_lt_of_le h2 (by decide),rfl,fun γ w=>?_⟩;have h:=of_wv n.toNat h2 w;rw[Int.toNat_of_nonneg hn.1]at h;exact h
  ·cases hr
 ·cases hr
def g1:Nat × Nat × Bool:=(1,2,false)
end Sy
open Go.RowKit
theorem parts_eq{x0 x1 x2 x3 y0 y1 y2 y3:Nat}(u0:x0<18446744073709551616)(u1:x1<18446744073709551616)(u2:x2<18446744073709551616)(_u3:x3<18446744073709551616)(v0:y0<18446744073709551616)(v1:y1<18446744073709551616)(v2:y2<18446744073709551616)(_v3:y3<18446744073709551616) :
  ((x0 == y0)&&((x1 == y1)&&((x2 == y2)&&(x3 == y3))))=decide (n4 x0 x1 x2 x3=n4 y0 y1 y2 y3):=by
 by_cases h:n4 x0 x1 x2 x3=n4 y0 y1 y2 y3
 ·rw[decide_eq_true h]
  unfold n4 at h;have h0:x0=y0:=by omega
  have h1:x1=y1:=by omega
  have h2:x2=y2:=by omega
  have h3:x3=y3:=by omega
  subst h0 h1 h2 h3;simp
 ·rw[decide_eq_false h,Bool.eq_false_iff]
  intro hc;simp only[Bool.and_eq_true,beq_iff_eq]at hc;obtain⟨rfl,rfl,rfl,rfl⟩:=hc;exact h rfl
theorem eqIn(x y:Nat):∃ r:Bool,r=decide (x%115792089237316195423570985008687907853269984665640564039457584007913129639936=y%115792089237316195423570985008687907853269984665640564039457584007913129639936)/\∃ a b:Array Value,wv x=.agg a/\wv y=.agg b/\∀ w,(Op.equalIn 10000 24 (.agg a) (.agg b)).run Tryz.prog w=.ok r w:=by
 obtain⟨x0,x1,x2,x3,u0,u1,u2,u3,ex,nx⟩:=wv_parts x;obtain⟨y0,y1,y2,y3,v0,v1,v2,v3,ey,ny⟩:=wv_parts y;refine⟨_,rfl,_,_,ex,ey,fun w=>?_⟩;rw[<- nx,<- ny,<- parts_eq u0 u1 u2 u3 v0 v1 v2 v3];exact eqW x0 x1 x2 x3 y0 y1 y2 y3 w
theorem nebx(x y:Nat)(w:World):(binOp BinOp.neq 24 (wv x) (wv y)).run Tryz.prog w=.ok (.bool (decide (x%115792089237316195423570985008687907853269984665640564039457584007913129639936≠y%115792089237316195423570985008687907853269984665640564039457584007913129639936))) w:=by
 obtain⟨r,hr,a,b,ea,eb,h⟩:=eqIn x y;have e2:decide (x%115792089237316195423570985008687907853269984665640564039457584007913129639936≠y%115792089237316195423570985008687907853269984665640564039457584007913129639936)=!r:=by rw[hr];simp
 rw[e2,ea,eb];clear e2 hr ea eb
 go_simp
theorem negx(x y:Nat)(o1 o2:Operand)(w:World):(eqGuard BinOp.neq 24 o1 o2 (wv x) (wv y)).run Tryz.prog w=.ok () w:=by kernel_rfl
theorem CW2.lt{w wx:World}{x y:Nat}(h:CW2 w x y wx):w.heap.size<wx.heap.size:=(Array.getElem?_eq_some_iff.1 h.2.1).1
-- WHAT bailiwickref01.Cmp COMES TO.
theorem cmp_ref(x y:Nat)(w:World):Calls Tryz.prog 62 #[.agg (pw x),.agg (pw y)] w fun e w'=>e=.returned (.int .i64 (ord (x%115792089237316195423570985008687907853269984665640564039457584007913129639936) (y%115792089237316195423570985008687907853269984665640564039457584007913129639936)))/\Below w.heap.size w w':=by
 have L1:=Lib.hid (fun wx (hC:CW2 w x y wx)=>load_pw hC.2.1);have L2:=Lib.hid (fun wx (hC:CW2 w x y wx)=>load_pw hC.2.2);go_enter Tryz.func62,Tryz.ntmps62
 go_wp2_with fail
 refine region_inv (CW2 w x y) (fun i v wx=>match i with | 0=>v=wv x | 1=>DgS w.heap.size 16 (x%115792089237316195423570985008687907853269984665640564039457584007913129639936) v wx | 2=>v=wv y | 3=>DgS w.heap.size 16 (y%115792089237316195423570985008687907853269984665640564039457584007913129639936) v wx | 4=>v=.bool (decide (x%115792089237316195423570985008687907853269984665640564039457584007913129639936<y%115792089237316195423570985008687907853269984665640564039457584007913129639936)) | _=>True) (Rb w.heap.size) (by kernel_rfl) (by kernel_rfl) ?_ ?_ ?_ ?_
 ·exact⟨Below.drew (by go_grown),heap_alloc2_old _ _ _,heap_alloc2_new _ _ _⟩
 ·intro i v wa wb hR h
  match i,h with
  | 0,h=>exact h
  | 1,h=>exact DgS.keep hR h
  | 2,h=>exact h
  | 3,h=>exact DgS.keep hR h
  | 4,h=>exact h
  | _+5,_=>trivial
 ·refine⟨fun a wx hC hK=>?_,fun a wx hC hK=>?_,fun a wx hC hK=>?_,fun a wx hC hK=>?_,fun a wx hC hK=>?_,trivial⟩
  ·exact st_load 24 (.tmp 2) (.pointer (some ⟨w.heap.size,0,none⟩)) (wv x) rfl (by kernel_rfl) (fun h=>by cases h) (hK.1 2 (by kernel_rfl)) (load_pw hC.2.1) hC rfl (Rb.refl _ _)
  ·have h0:a.tmps.getD 5 undef=wv x:=hK.2 ⟨0,.data⟩ (by simp) rfl _ rfl
   refine st_call 97 #[a.tmps.getD 5 undef] (by kernel_rfl) ⟨_,rfl⟩ (by kernel_rfl) ?_;rw[h0];refine(digits_any x wx).mono fun e w' h=>?_;obtain⟨v,he,hb,hv⟩:=mk_step hC.lt h;exact⟨v,he,hC.below hb,hv,Rb.of hb⟩
  ·exact st_load 24 (.tmp 3) (.pointer (some ⟨w.heap.size+1,0,none⟩)) (wv y) rfl (by kernel_rfl) (fun h=>by cases h) (hK.1 3 (by kernel_rfl)) (load_pw hC.2.2) hC rfl (Rb.refl _ _)
  ·have h0:a.tmps.getD 7 undef=wv y:=hK.2 ⟨2,.data⟩ (by simp) rfl _ rfl
   refine st_call 97 #[a.tmps.getD 7 undef] (by kernel_rfl) ⟨_,rfl⟩ (by kernel_rfl) ?_;rw[h0];refine(digits_any y wx).mono fun e w' h=>?_;obtain⟨v,he,hb,hv⟩:=mk_step hC.lt h;exact⟨v,he,hC.below hb,hv,Rb.of hb⟩
  ·obtain⟨b1,c1,d1,e1,-,hD1,hl1,hv1⟩:DgS w.heap.size 16 (x%115792089237316195423570985008687907853269984665640564039457584007913129639936) (a.tmps.getD 6 undef) wx:=hK.2 ⟨1,.data⟩ (by simp) rfl _ rfl
   obtain⟨b2,c2,d2,e2,-,hD2,hl2,hv2⟩:DgS w.heap.size 16 (y%115792089237316195423570985008687907853269984665640564039457584007913129639936) (a.tmps.getD 8 undef) wx:=hK.2 ⟨3,.data⟩ (by simp) rfl _ rfl;refine st_call 101 #[a.tmps.getD 6 undef,a.tmps.getD 8 undef] (by kernel_rfl) ⟨_,rfl⟩ (by kernel_rfl) ?_;rw[e1,e2];refine(less_any b1 c1 b2 c2 16 16 d1 d2 (by decide) (by decide) hl1 hl2 wx hD1 hD2).mono fun e w' h=>?_;rw[hv1,hv2]at h;obtain⟨he,rfl⟩:=h;exact⟨_,he,hC,rfl,Rb.refl _ _⟩
 ·intro f wx hC hf
  have h4:f _=Value.bool (decide (x%115792089237316195423570985008687907853269984665640564039457584007913129639936<y%115792089237316195423570985008687907853269984665640564039457584007913129639936)):=hf 4 _ rfl;simp only[putAll];rw[h4];clear hf h4;by_cases hlt:x%115792089237316195423570985008687907853269984665640564039457584007913129639936<y%115792089237316195423570985008687907853269984665640564039457584007913129639936
  ·rw[decide_eq_true hlt]
   have ho:ord (x%115792089237316195423570985008687907853269984665640564039457584007913129639936) (y%115792089237316195423570985008687907853269984665640564039457584007913129639936)=-1:=by unfold ord;rw[if_pos hlt]
   have HO:=Lib.hid ho;clear ho hlt
   go_simp
   go_wp2;go_ret;exact⟨by rw[HO.out];rfl,hC.1⟩
  ·rw[decide_eq_false hlt]
   go_simp
   go_upto_region 3 with(fail)
   refine q_region (CW2 w x y) hC ?_
   with_reducible refine q_load 24 (.tmp 2) (.pointer (some ⟨w.heap.size,0,none⟩)) (wv x) rfl (by kernel_rfl) (by kernel_rfl) L1.out ?_
   with_reducible refine q_load 24 (.tmp 3) (.pointer (some ⟨w.heap.size+1,0,none⟩)) (wv y) rfl (by kernel_rfl) (by kernel_rfl) L2.out ?_
   with_reducible refine q_bin .neq 24 _ _ 24 (wv x) (wv y) (.bool (decide (x%115792089237316195423570985008687907853269984665640564039457584007913129639936≠y%115792089237316195423570985008687907853269984665640564039457584007913129639936))) rfl (by kernel_rfl) (by kernel_rfl) (by kernel_rfl) (negx _ _ _ _) (nebx _ _) ?_
   with_reducible refine wpQuiet_nil ?_
   intro wx2 hC2;have hB2:=hC2.1;clear hC2 hC L1 L2;by_cases heq:x%115792089237316195423570985008687907853269984665640564039457584007913129639936=y%115792089237316195423570985008687907853269984665640564039457584007913129639936
   ·have ho:ord (x%115792089237316195423570985008687907853269984665640564039457584007913129639936) (y%115792089237316195423570985008687907853269984665640564039457584007913129639936)=0:=by unfold ord;rw[if_neg hlt,if_neg (by omega)]
    rw[decide_eq_false (by omega)];have HO:=Lib.hid ho;clear ho heq hlt
    go_simp
    go_wp2;go_ret;exact⟨by rw[HO.out];rfl,hB2⟩
   ·have ho:ord (x%115792089237316195423570985008687907853269984665640564039457584007913129639936) (y%115792089237316195423570985008687907853269984665640564039457584007913129639936)=1:=by unfold ord;rw[if_neg hlt,if_pos (by omega)]
    rw[decide_eq_true heq];have HO:=Lib.hid ho;clear ho heq hlt
    go_simp
    go_wp2;go_ret;exact⟨by rw[HO.out];rfl,hB2⟩
def cyN(a b k:Nat):Nat:=(a%2^(64*k)+b%2^(64*k)) / 2^(64*k)
def bwN(a b k:Nat):Nat:=if a%2^(64*k)<b%2^(64*k)then 1 else 0
theorem cy_step(a b k:Nat)(ha:a<2^256)(hb:b<2^256)(hk:k<4):pN a k+pN b k+cyN a b k=pN (a+b) k+18446744073709551616*cyN a b (k+1)/\cyN a b k<=1/\cyN a b (k+1)<=1:=by
 unfold pN cyN;have:k=0\/k=1\/k=2\/k=3:=by omega
 rcases this with rfl | rfl | rfl | rfl <;> simp only[Nat.reduceMul,Nat.reduceAdd,Nat.reducePow] <;> omega
theorem bw_step(a b k:Nat)(ha:a<2^256)(hb:b<2^256)(hk:k<4):pN a k+18446744073709551616*bwN a b (k+1)=pN b k+bwN a b k+pN (a+2^256 - b) k/\bwN a b k<=1/\bwN a b (k+1)<=1:=by
 unfold pN bwN;have:k=0\/k=1\/k=2\/k=3:=by omega
 rcases this with rfl | rfl | rfl | rfl <;> simp only[Nat.reduceMul,Nat.reduceAdd,Nat.reducePow] <;> split <;> split <;> omega
theorem cy_end(a b:Nat)(ha:a<2^256)(hb:b<2^256):cyN a b 4=if (2^256)<=a+b then 1 else 0:=by
 unfold cyN;simp only[Nat.reduceMul,Nat.reducePow]
 split <;> omega
theorem cy_zero(a b:Nat):cyN a b 0=0:=by unfold cyN;simp[Nat.mod_one]
theorem bw_zero(a b:Nat):bwN a b 0=0:=by unfold bwN;simp[Nat.mod_one]
def mixN(x y k j:Nat):Nat:=if j<k then pN x j else pN y j
theorem mix_next(x y k j:Nat):mixN x y (k+1) j=if j=k then pN x k else mixN x y k j:=by
 unfold mixN;by_cases e:j=k
 ·subst e;rw[if_pos (by omega),if_pos rfl]
 ·rw[if_neg e]
  by_cases h:j<k
  ·rw[if_pos (by omega),if_pos h]
  ·rw[if_neg (by omega),if_neg h]
theorem top_step(a k:Nat)(ha:a<2^256)(hk:k<4):a / 2^(64*k)=a / 2^(64*(k+1))*18446744073709551616+pN a k:=by
 unfold pN;have:k=0\/k=1\/k=2\/k=3:=by omega
 rcases this with rfl | rfl | rfl | rfl <;> simp only[Nat.reduceMul,Nat.reduceAdd,Nat.reducePow] <;> omega
theorem div_lt_of{a b P:Nat}(h:a / P<b / P):a<b:=Nat.lt_of_not_le fun hle=>Nat.not_lt.2 (Nat.div_le_div_right hle) h
end Go.Proofs.YtadfjjfklihaaaaGreat
