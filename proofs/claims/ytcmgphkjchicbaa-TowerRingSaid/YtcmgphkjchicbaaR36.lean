/- bailiwicklaw10.TowerRing: the statement about it: whatever the input: true; the input reads as it did. CONDITIONS: none. (Cut to what is reached, written closely: TwO · TwU · TwH · TwV · FCrv · TwA · TwL · TwLr · TowerRing.) -/
import Derived.Test.YtcmgphkjchicbaaR20
import Derived.Test.YtcmgphkjchicbaaR35
import Derived.Test.YtcmgphkjchicbaaR29
import Derived.Test.YtcmgphkjchicbaaR34
set_option linter.all false
set_option maxRecDepth 100000
set_option maxHeartbeats 8000000
namespace Go.Proofs.Ytcmgphkjchicbaa
open Go.ChangeShapes Go.WideShapes Go.ChangeAt Go.RowKit
def Ints(T:TypeId)(k:Nat):Prop:=∀(H:Type) (enc:TypeId × Value->H) (w:World) (base:Nat) (sp:Nat->Bool) (held:Bool) (fuel:Nat) (cs:List Value) (d:DataW H) (p:List MemPlace),
 DataW.trod enc Try.prog w base sp held fuel T cs=some (d,p)->∀ i,i<k->∃ n:Nat,n<18446744073709551616/\cs[i]?=some (.int .u64 (n:Nat))
theorem ints_one:Ints 22 1:=fun H enc w base sp held fuel cs d p h i hi=>by
 obtain⟨z,hc,-,hw⟩:=DataW.trod_int Try.underlying22 h;obtain⟨n,hn,rfl⟩:=nat_of_wf hw;obtain rfl:i=0:=by omega
 exact⟨n,hn,by rw[hc];rfl⟩
theorem ints_arr{T e:TypeId}{n k:Nat}(hu:Try.prog.underlying T=some (.array n e))(hc:Try.prog.cellsOf e=k)(he:Ints e k):Ints T (n*k):=fun H enc w base sp held fuel cs d p h i hi=>by
 have hk:0<k:=Nat.pos_of_ne_zero fun e=>by
  rw[e,Nat.mul_zero]at hi;omega
 cases fuel with
 | zero=>simp[DataW.trod]at h
 | succ fuel =>
  simp only[DataW.trod,hu,hc]at h
  split at h
  ·obtain⟨xs,hm,hx⟩:=Option.map_eq_some_iff.1 h
   have hq:i / k<n:=Nat.div_lt_of_lt_mul (by rwa [Nat.mul_comm]at hi);have hr:i%k<k:=Nat.mod_lt _ hk;obtain⟨b,hb,hg⟩:=Lib.mapM_at hm (i / k) (i / k) (by rw[List.getElem?_range hq]);obtain⟨n,hn,hcc⟩:=he _ _ _ _ _ _ _ _ _ _ hg (i%k) hr;refine⟨n,hn,?_⟩;rw[List.getElem?_take_of_lt hr,List.getElem?_drop,Nat.div_add_mod']at hcc;exact hcc
  ·cases h
theorem cellsF2:Try.prog.cellsOf 46=8:=by kernel_rfl
theorem cellsF12:Try.prog.cellsOf 48=48:=by kernel_rfl
theorem ints_W:Ints 24 4:=ints_arr Try.underlying24 cellsU64 ints_one
theorem ints_2:Ints 46 8:=ints_arr Try.underlying46 cellsWord ints_W
theorem ints_12:Ints 48 48:=ints_arr Try.underlying48 cellsF2 ints_2
theorem pw_n4{a b c d:Nat}(h0:a<18446744073709551616)(h1:b<18446744073709551616)(h2:c<18446744073709551616)(h3:d<18446744073709551616):pw (n4 a b c d)=#[.int .u64 (a:Nat),.int .u64 (b:Nat),.int .u64 (c:Nat),.int .u64 (d:Nat)]:=by
 unfold pw n4;rw[show(a+18446744073709551616*b+340282366920938463463374607431768211456*c+6277101735386680763835789423207666416102355444464034512896*d)%18446744073709551616=a by omega];rw[show(a+18446744073709551616*b+340282366920938463463374607431768211456*c+6277101735386680763835789423207666416102355444464034512896*d) / 18446744073709551616%18446744073709551616=b by omega];rw[show(a+18446744073709551616*b+340282366920938463463374607431768211456*c+6277101735386680763835789423207666416102355444464034512896*d) / 340282366920938463463374607431768211456%18446744073709551616=c by omega];rw[show(a+18446744073709551616*b+340282366920938463463374607431768211456*c+6277101735386680763835789423207666416102355444464034512896*d) / 6277101735386680763835789423207666416102355444464034512896%18446744073709551616=d by omega]
theorem n4_below{a b c d:Nat}(h0:a<18446744073709551616)(h1:b<18446744073709551616)(h2:c<18446744073709551616)(h3:d<18446744073709551616):n4 a b c d<2^256:=by
 have e256:(2:Nat)^256=115792089237316195423570985008687907853269984665640564039457584007913129639936:=by decide
 rw[e256];unfold n4;omega
theorem limbs_of{T:TypeId}{k:Nat}(hu:∃ n e,Try.prog.underlying T=some (.array n e))(hk:Try.prog.cellsOf T=k)(hi:Ints T k){H:Type}{enc:TypeId × Value->H}{W:World}{base b2:Nat}{sp:Nat->Bool}{hd:Bool}{v:Value}{d:DataW H}{ps:List MemPlace}
  (hv:Value.okWide Try.prog W .any base T v) (h:DataW.Trod enc Try.prog W b2 sp hd T v d ps):∃ z:Nat->Nat,(∀ i,z i<18446744073709551616)/\v=.agg ((List.range k).map fun i=>Value.int .u64 (z i:Nat)).toArray:=by
 obtain⟨n,e,hu⟩:=hu;obtain⟨cs,rfl,hsz,_⟩:∃ cs,v=.agg cs/\cs.size=Try.prog.cellsOf T/\Row.okWide Try.prog W .any base T cs:=by
  simpa[Value.okWide,hu]using hv
 rw[hk]at hsz;obtain⟨fuel,hf⟩:=h;have h2:∀ i,∃ n:Nat,n<18446744073709551616/\(i<k->cs[i]?=some (.int .u64 (n:Nat))):=fun i=>by
  by_cases hik:i<k
  ·obtain⟨n,a,b⟩:=hi _ _ _ _ _ _ _ _ _ _ hf i hik
   exact⟨n,a,fun _=>by simpa[Value.cells]using b⟩
  ·exact⟨0,by omega,fun h=>absurd h hik⟩
 obtain⟨z,hz⟩:∃ z:Nat->Nat,∀ i,z i<18446744073709551616/\(i<k->cs[i]?=some (.int .u64 (z i:Nat))):=⟨fun i=>Classical.choose (h2 i),fun i=>Classical.choose_spec (h2 i)⟩
 refine⟨z,fun i=>(hz i).1,congrArg Value.agg (Array.ext (by simp[hsz]) fun i a b=>?_)⟩;have hik:i<k:=by omega
 have h3:=(hz i).2 hik;rw[Array.getElem?_eq_getElem a]at h3;rw[Option.some.inj h3];simp
open Sy in
theorem open_f12{H:Type}{enc:TypeId × Value->H}{W:World}{base b2:Nat}{sp:Nat->Bool}{hd:Bool}{v:Value}{d:DataW H}{ps:List MemPlace}
  (hv:Value.okWide Try.prog W .any base 48 v) (h:DataW.Trod enc Try.prog W b2 sp hd 48 v d ps):∃ a:N12,v=(L12s a).val o0/\(L12s a).ok:=by
 obtain⟨z,hz,rfl⟩:=limbs_of ⟨_,_,Try.underlying48⟩ cellsF12 ints_12 hv h
 let q:Nat->Nat:=fun k=>n4 (z (4*k)) (z (4*k+1)) (z (4*k+2)) (z (4*k+3))
 have hq:∀ k,q k<2^256:=fun k=>n4_below (hz _) (hz _) (hz _) (hz _);have hp:∀ k,pw (q k)=#[.int .u64 (z (4*k):Nat),.int .u64 (z (4*k+1):Nat),.int .u64 (z (4*k+2):Nat),.int .u64 (z (4*k+3):Nat)]:=fun k=>pw_n4 (hz _) (hz _) (hz _) (hz _);have o:∀ k,(F2s (q k,q (k+1))).ok:=fun k=>⟨hq _,hq _,trivial⟩
 refine⟨(((q 0,q 1),(q 4,q 5),(q 8,q 9)),((q 2,q 3),(q 6,q 7),(q 10,q 11))),?_,o 0,o 2,o 4,o 6,o 8,o 10,trivial⟩;have hc:∀ k,(F2s (q k,q (k+1))).cells o0=[.int .u64 (z (4*k):Nat),.int .u64 (z (4*k+1):Nat),.int .u64 (z (4*k+2):Nat),.int .u64 (z (4*k+3):Nat),.int .u64 (z (4*(k+1)):Nat),.int .u64 (z (4*(k+1)+1):Nat),.int .u64 (z (4*(k+1)+2):Nat),.int .u64 (z (4*(k+1)+3):Nat)]:=fun k=>by
  show(pw (q k)).toList++((pw (q (k+1))).toList++[])=_;rw[hp,hp];rfl
 show _=Value.agg ((F2s (q 0,q 1)).cells o0++((F2s (q 2,q 3)).cells o0++((F2s (q 4,q 5)).cells o0++((F2s (q 6,q 7)).cells o0++((F2s (q 8,q 9)).cells o0++((F2s (q 10,q 11)).cells o0++[])))))).toArray;rw[hc 0,hc 2,hc 4,hc 6,hc 8,hc 10];rfl
open Go.RowKit
namespace Sy
theorem F2v_ok{m:Nat}(hm:m<2^256)(z:Zp m × Zp m):(F2s (v2 z)).ok:=⟨Nat.lt_trans z.1.2 hm,Nat.lt_trans z.2.2 hm,trivial⟩
theorem H3v_ok{m:Nat}(hm:m<2^256)(z:(Zp m × Zp m) × (Zp m × Zp m) × (Zp m × Zp m)):(H3s (v6 z)).ok:=⟨F2v_ok hm _,F2v_ok hm _,F2v_ok hm _,trivial⟩
theorem L12v_ok{m:Nat}(hm:m<2^256)(z:((Zp m × Zp m) × (Zp m × Zp m) × (Zp m × Zp m)) × ((Zp m × Zp m) × (Zp m × Zp m) × (Zp m × Zp m))):(L12s (v12 z)).ok:=⟨F2v_ok hm _,F2v_ok hm _,F2v_ok hm _,F2v_ok hm _,F2v_ok hm _,F2v_ok hm _,trivial⟩
theorem add2_is{m:Nat}(hp:Pr m):Is2 m 91 sh2 sh2 fun a b=>F2s (a2 hp a b):=fun _ _ _ hf=>cT2_ok hf (fun _ _=>by kernel_rfl) (fun _ _ _ _=>⟨F2v_ok hf.lt _,rfl⟩) fun F a b oa ob w hF=>by
 refine calls_at (E1_ok (flds_ok (FOk.of hF))) (by kernel_rfl) (fun _=>0) Try.func91 (by kernel_rfl) [sG,F2s a,F2s b] ⟨⟨⟨trivial,trivial⟩,rfl⟩,⟨oa,rfl⟩,⟨ob,rfl⟩,trivial⟩ (by kernel_rfl) (by kernel_rfl) (.leaf (F2s ((a.1+b.1)%m,(a.2+b.2)%m))) (by kernel_rfl) ?_;rw[a2_eq hp a b];rfl
theorem sub2_is{m:Nat}(hp:Pr m):Is2 m 104 sh2 sh2 fun a b=>F2s (s2 hp a b):=fun _ _ _ hf=>cT2_ok hf (fun _ _=>by kernel_rfl) (fun _ _ _ _=>⟨F2v_ok hf.lt _,rfl⟩) fun F a b oa ob w hF=>by
 refine calls_at (E1_ok (flds_ok (FOk.of hF))) (by kernel_rfl) (fun _=>0) Try.func104 (by kernel_rfl) [sG,F2s a,F2s b] ⟨⟨⟨trivial,trivial⟩,rfl⟩,⟨oa,rfl⟩,⟨ob,rfl⟩,trivial⟩ (by kernel_rfl) (by kernel_rfl) (.leaf (F2s ((a.1%m+(m - b.1%m))%m,(a.2%m+(m - b.2%m))%m))) (by kernel_rfl) ?_;rw[s2_eq hp a b];rfl
theorem mul2_is{m:Nat}(hp:Pr m):Is2 m 92 sh2 sh2 fun a b=>F2s (m2 hp a b):=fun _ _ _ hf=>cT2_ok hf (fun _ _=>by kernel_rfl) (fun _ _ _ _=>⟨F2v_ok hf.lt _,rfl⟩) fun F a b oa ob w hF=>by
 refine calls_at (E1_ok (flds_ok (FOk.of hF))) (by kernel_rfl) (fun _=>0) Try.func92 (by kernel_rfl) [sG,F2s a,F2s b] ⟨⟨⟨trivial,trivial⟩,rfl⟩,⟨oa,rfl⟩,⟨ob,rfl⟩,trivial⟩ (by kernel_rfl) (by kernel_rfl) (.leaf (F2s ((a.1*b.1%m%m+(m - a.2*b.2%m%m))%m,(a.1*b.2%m+a.2*b.1%m)%m))) (by kernel_rfl) ?_;rw[m2_eq hp a b];rfl
theorem lifted_is{m:Nat}(hp:Pr m):Is1 m 105 sh2 fun a=>F2s (l2 hp a):=fun _ _ _ hf=>cT1_ok hf (fun _ _=>by kernel_rfl) (fun _ _=>⟨F2v_ok hf.lt _,rfl⟩) fun F a oa w hF=>by
 refine calls_at (E1_ok (more:=cOf::flds true m) ⟨cOf_ok,flds_ok (FOk.of hF)⟩) (by kernel_rfl) (fun _=>0) Try.func105 (by kernel_rfl) [sG,F2s a] ⟨⟨⟨trivial,trivial⟩,rfl⟩,⟨oa,rfl⟩,trivial⟩ (by kernel_rfl) (by kernel_rfl) (.leaf (F2s ((a.1*9%m%m+(m - a.2%m))%m,(a.2*9%m+a.1)%m))) (by kernel_rfl) ?_;rw[l2_eq hp a];rfl
end Sy
open Go.RowKit
namespace Sy
theorem halves_is:Is0 85 sh12 fun a=>.tu (H3s a.1) (H3s a.2):=fun _ _ _=>cV1_ok (fun _ _=>by kernel_rfl) (fun a oa=>⟨⟨⟨oa.1,oa.2.2.1,oa.2.2.2.2.1,trivial⟩,oa.2.1,oa.2.2.2.1,oa.2.2.2.2.2.1,trivial⟩,rfl⟩) fun a oa w =>
 calls_at (E1_ok (more:=[]) (γ0:=o0) trivial) (by kernel_rfl) (fun _=>0) Try.func85 (by kernel_rfl) [L12s a] ⟨⟨oa,rfl⟩,trivial⟩ (by kernel_rfl) (by kernel_rfl) (.leaf (.tu (H3s a.1) (H3s a.2))) (by kernel_rfl) rfl
theorem whole_is:Is00 88 sh6 sh6 fun a b=>L12s (a,b):=fun _ _ _=>cV2_ok (fun _ _=>by kernel_rfl) (fun a b oa ob=>⟨⟨oa.1,ob.1,oa.2.1,ob.2.1,oa.2.2.1,ob.2.2.1,trivial⟩,rfl⟩) fun a b oa ob w =>
 calls_at (E1_ok (more:=[]) (γ0:=o0) trivial) (by kernel_rfl) (fun _=>0) Try.func88 (by kernel_rfl) [H3s a,H3s b] ⟨⟨oa,rfl⟩,⟨ob,rfl⟩,trivial⟩ (by kernel_rfl) (by kernel_rfl) (.leaf (L12s (a,b))) (by kernel_rfl) rfl
section
variable {m:Nat} {A S M:N2->N2->N2} {L:N2->N2}
theorem ah_ok(o:∀ a b,(F2s (A a b)).ok)(a b:N6):(H3s (ah A a b)).ok:=⟨o _ _,o _ _,o _ _,trivial⟩
theorem addHalf_is(o:∀ a b,(F2s (A a b)).ok)(hA:Is2 m 91 sh2 sh2 fun a b=>F2s (A a b)):Is2 m 87 sh6 sh6 fun a b=>H3s (ah A a b):=fun _ _ _ hf=>cT2_ok hf (fun _ _=>by kernel_rfl) (fun a b _ _=>⟨ah_ok o a b,rfl⟩) fun F a b oa ob w hF =>
 calls_at (E1_ok (more:=[cT2 true m 91 sh2 sh2 fun a b=>F2s (A a b)]) ⟨hA _ _ _ (FOk.of hF),trivial⟩) (by kernel_rfl) (fun _=>4) Try.func87 (by kernel_rfl) [sG,H3s a,H3s b] ⟨⟨⟨trivial,trivial⟩,rfl⟩,⟨oa,rfl⟩,⟨ob,rfl⟩,trivial⟩ (by kernel_rfl) (by kernel_rfl) (.leaf (H3s (ah A a b))) (by kernel_rfl) rfl
theorem subHalf_is(o:∀ a b,(F2s (S a b)).ok)(hS:Is2 m 104 sh2 sh2 fun a b=>F2s (S a b)):Is2 m 90 sh6 sh6 fun a b=>H3s (ah S a b):=fun _ _ _ hf=>cT2_ok hf (fun _ _=>by kernel_rfl) (fun a b _ _=>⟨ah_ok o a b,rfl⟩) fun F a b oa ob w hF =>
 calls_at (E1_ok (more:=[cT2 true m 104 sh2 sh2 fun a b=>F2s (S a b)]) ⟨hS _ _ _ (FOk.of hF),trivial⟩) (by kernel_rfl) (fun _=>4) Try.func90 (by kernel_rfl) [sG,H3s a,H3s b] ⟨⟨⟨trivial,trivial⟩,rfl⟩,⟨oa,rfl⟩,⟨ob,rfl⟩,trivial⟩ (by kernel_rfl) (by kernel_rfl) (.leaf (H3s (ah S a b))) (by kernel_rfl) rfl
theorem shifted_is(o:∀ a,(F2s (L a)).ok)(hL:Is1 m 105 sh2 fun a=>F2s (L a)):Is1 m 89 sh6 fun a=>H3s (shh L a):=fun _ _ _ hf=>cT1_ok hf (fun _ _=>by kernel_rfl) (fun a oa=>⟨⟨o _,oa.1,oa.2.1,trivial⟩,rfl⟩) fun F a oa w hF =>
 calls_at (E1_ok (more:=[cT1 true m 105 sh2 fun a=>F2s (L a)]) ⟨hL _ _ _ (FOk.of hF),trivial⟩) (by kernel_rfl) (fun _=>0) Try.func89 (by kernel_rfl) [sG,H3s a] ⟨⟨⟨trivial,trivial⟩,rfl⟩,⟨oa,rfl⟩,trivial⟩ (by kernel_rfl) (by kernel_rfl) (.leaf (H3s (shh L a))) (by kernel_rfl) rfl
/-! What stands across: a function in a function. -/
def Rc(a b o:N6):Rows:=[(1,.ap (.p 0 0 0 0) .e,77),(2,H3s a,100),(3,H3s b,100),(4,H3s o,100)]
def crs3(A S M:N2->N2->N2)(a b o:N6)(i j:Int):Option N2:=if i=1/\j=2 then some (crs A S M a b o 1 2)else if i=0/\j=1 then some (crs A S M a b o 0 1)else if i=0/\j=2 then some (crs A S M a b o 0 2)else none
theorem crs3_some{a b o:N6}{i j:Int}{r:N2}(h:crs3 A S M a b o i j=some r):(i=1/\j=2/\r=crs A S M a b o 1 2)\/(i=0/\j=1/\r=crs A S M a b o 0 1)\/(i=0/\j=2/\r=crs A S M a b o 0 2):=by
 unfold crs3 at h
 split at h
 ·rename_i e;cases h;exact .inl ⟨e.1,e.2,rfl⟩
 ·split at h
  ·rename_i e;cases h;exact .inr (.inl ⟨e.1,e.2,rfl⟩)
  ·split at h
   ·rename_i e;cases h;exact .inr (.inr ⟨e.1,e.2,rfl⟩)
   ·cases h
theorem crs_any(oS:∀ a b,(F2s (S a b)).ok)(hA:Is2 m 91 sh2 sh2 fun a b=>F2s (A a b))(hS:Is2 m 104 sh2 sh2 fun a b=>F2s (S a b))(hM:Is2 m 92 sh2 sh2 fun a b=>F2s (M a b))
  {γ0:Pl} {w:World} (hf:FOk true m γ0 w) (a b o:N6) (hR:RowsOk (Rc a b o) 5 γ0 w) {i j:Int} {r:N2} (h:crs3 A S M a b o i j=some r):Calls Try.prog 103 #[.int .i64 i,.int .i64 j,.pointer (some ⟨γ0 1,0,none⟩),.pointer (some ⟨γ0 2,0,none⟩),.pointer (some ⟨γ0 3,0,none⟩),.pointer (some ⟨γ0 4,0,none⟩)] w fun e w'=>e=.returned ((F2s r).val o0)/\Below w.heap.size w w':=by
 have G:=ET_ok (R0:=Rc a b o) (more:=[cT2 true m 91 sh2 sh2 fun a b=>F2s (A a b),cT2 true m 104 sh2 sh2 fun a b=>F2s (S a b),cT2 true m 92 sh2 sh2 fun a b=>F2s (M a b)]) (conAll_mono (b:=1) (base:=5) (by decide) ⟨hA _ _ _ hf,hS _ _ _ hf,hM _ _ _ hf,trivial⟩) hR;rcases crs3_some h with⟨rfl,rfl,rfl⟩ | ⟨rfl,rfl,rfl⟩ | ⟨rfl,rfl,rfl⟩
 ·exact calls_at G (by kernel_rfl) (fun _=>0) Try.func103 (by kernel_rfl) [.v (.int .i64 1),.v (.int .i64 2),.p 1 0 0 0,.p 2 0 0 0,.p 3 0 0 0,.p 4 0 0 0] ⟨⟨trivial,rfl⟩,⟨trivial,rfl⟩,⟨trivial,rfl⟩,⟨trivial,rfl⟩,⟨trivial,rfl⟩,⟨trivial,rfl⟩,trivial⟩ (by kernel_rfl) (by kernel_rfl) (.leaf (F2s (crs A S M a b o 1 2))) (by kernel_rfl) rfl
 ·exact calls_at G (by kernel_rfl) (fun _=>0) Try.func103 (by kernel_rfl) [.v (.int .i64 0),.v (.int .i64 1),.p 1 0 0 0,.p 2 0 0 0,.p 3 0 0 0,.p 4 0 0 0] ⟨⟨trivial,rfl⟩,⟨trivial,rfl⟩,⟨trivial,rfl⟩,⟨trivial,rfl⟩,⟨trivial,rfl⟩,⟨trivial,rfl⟩,trivial⟩ (by kernel_rfl) (by kernel_rfl) (.leaf (F2s (crs A S M a b o 0 1))) (by kernel_rfl) rfl
 ·exact calls_at G (by kernel_rfl) (fun _=>0) Try.func103 (by kernel_rfl) [.v (.int .i64 0),.v (.int .i64 2),.p 1 0 0 0,.p 2 0 0 0,.p 3 0 0 0,.p 4 0 0 0] ⟨⟨trivial,rfl⟩,⟨trivial,rfl⟩,⟨trivial,rfl⟩,⟨trivial,rfl⟩,⟨trivial,rfl⟩,⟨trivial,rfl⟩,trivial⟩ (by kernel_rfl) (by kernel_rfl) (.leaf (F2s (crs A S M a b o 0 2))) (by kernel_rfl) rfl
def cCross(A S M:N2->N2->N2)(m:Nat):Con:=⟨103,fun _ R us=>match us with
 | [.v (.int .i64 i),.v (.int .i64 j),.p gt 0 _ 0,.p ga 0 _ 0,.p gb 0 _ 0,.p go 0 _ 0]=>match rowIn gt R,rowIn ga R,rowIn gb R,rowIn go R with
  | some (.ap (.p 0 0 _ 0) .e,Tt),some (xa,Ta),some (xb,Tb),some (xo,To)=>match d6 xa,d6 xb,d6 xo with
   | some a,some b,some o=>if Tt=77/\Ta=100/\Tb=100/\To=100 then (crs3 A S M a b o i j).map fun r=>(F2s r,[],[])else none
   | _,_,_=>none
  | _,_,_,_=>none
 | _=>none⟩
theorem cCross_ok(oS:∀ a b,(F2s (S a b)).ok)(hA:Is2 m 91 sh2 sh2 fun a b=>F2s (A a b))(hS:Is2 m 104 sh2 sh2 fun a b=>F2s (S a b))(hM:Is2 m 92 sh2 sh2 fun a b=>F2s (M a b)){γ0:Pl}{w0:World}(hf:FOk true m γ0 w0):ConOk Try.prog 1 γ0 w0 (cCross A S M m) :=
 ⟨fun _ _=>by kernel_rfl,fun n R us r p R' hr hp hn hok hM'=>by
  unfold cCross at hr;dsimp only at hr
  split at hr
  ·rename_i i j gt _ ga _ gb _ go _
   split at hr
   ·rename_i _ Tt xa Ta xb Tb xo To ht ha hb ho
    split at hr
    ·rename_i a b o da db do_
     split at hr
     ·rename_i hT
      obtain⟨q,hq,e⟩:=Option.map_eq_some_iff.1 hr;cases e;obtain⟨rfl,rfl,rfl,rfl⟩:=hT;have ea:=d6_ok _ _ da;have eb:=d6_ok _ _ db;have eo:=d6_ok _ _ do_;subst ea eb eo;have oq:(F2s q).ok:=by
       rcases crs3_some hq with⟨_,_,rfl⟩ | ⟨_,_,rfl⟩ | ⟨_,_,rfl⟩ <;> exact oS _ _
      refine⟨oq,rfl,fun q hq=>(by cases hq),fun γ hγ wx hw hL=>?_⟩;have lt:=hL _ (rowIn_ok ht);have la:=hL _ (rowIn_ok ha);have lb:=hL _ (rowIn_ok hb);have lo:=hL _ (rowIn_ok ho);obtain⟨δ,hδ⟩:∃ δ:Pl,δ=fun k=>match k with
       | 0=>γ 0
       | 1=>γ gt
       | 2=>γ ga
       | 3=>γ gb
       | _=>γ go:=⟨_,rfl⟩
      have hf':FOk true m δ wx:=⟨hf.odd,hf.big,hf.lt,fun h=>by
       have h1:=(hf.at_ h).below hw;rw[hδ];show FldAt wx (γ 0) m;rw[hγ 0 (by decide)];exact h1⟩
      have hR:RowsOk (Rc a b o) 5 δ wx:=⟨fun q hq=>by
       simp only[Rc,List.mem_cons,List.not_mem_nil,or_false]at hq;rcases hq with rfl | rfl | rfl | rfl
       ·exact⟨by rw[hδ];exact lt.1,⟨trivial,trivial⟩,rfl,(show 1<5 by decide)⟩
       ·exact⟨by rw[hδ];exact la.1,la.2.1,rfl,(show 2<5 by decide)⟩
       ·exact⟨by rw[hδ];exact lb.1,lb.2.1,rfl,(show 3<5 by decide)⟩
       ·exact⟨by rw[hδ];exact lo.1,lo.2.1,rfl,(show 4<5 by decide)⟩⟩
      have g:=crs_any oS hA hS hM hf' a b o hR hq;rw[hδ]at g;exact g.mono fun e w' hh=>⟨⟨γ,fun _ _=>rfl,hh.1.trans (congrArg Ending.returned (val0 (x:=F2s q) rfl).symm),fun q hq=>(by cases hq),.nil⟩,hh.2⟩
     ·cases hr
    ·cases hr
   ·cases hr
  ·cases hr⟩
theorem mulHalf_is(oA:∀ a b,(F2s (A a b)).ok)(oS:∀ a b,(F2s (S a b)).ok)(hA:Is2 m 91 sh2 sh2 fun a b=>F2s (A a b))(hS:Is2 m 104 sh2 sh2 fun a b=>F2s (S a b))(hM:Is2 m 92 sh2 sh2 fun a b=>F2s (M a b))(hL:Is1 m 105 sh2 fun a=>F2s (L a)):Is2 m 86 sh6 sh6 fun a b=>H3s (mh A S M L a b):=fun _ _ _ hf=>cT2_ok hf (fun _ _=>by kernel_rfl) (fun a b _ _=>⟨⟨oA _ _,oA _ _,oA _ _,trivial⟩,rfl⟩) fun F a b oa ob w hF =>
 calls_at (E1_ok (more:=[cCross A S M m,cT2 true m 91 sh2 sh2 fun a b=>F2s (A a b),cT2 true m 92 sh2 sh2 fun a b=>F2s (M a b),cT1 true m 105 sh2 fun a=>F2s (L a)]) ⟨cCross_ok oS hA hS hM (FOk.of hF),hA _ _ _ (FOk.of hF),hM _ _ _ (FOk.of hF),hL _ _ _ (FOk.of hF),trivial⟩) (by kernel_rfl) (fun _=>4) Try.func86 (by kernel_rfl) [sG,H3s a,H3s b] ⟨⟨⟨trivial,trivial⟩,rfl⟩,⟨oa,rfl⟩,⟨ob,rfl⟩,trivial⟩ (by kernel_rfl) (by kernel_rfl) (.leaf (H3s (mh A S M L a b))) (by kernel_rfl) rfl
end
end Sy
open Go.RowKit
namespace Sy
section
variable {m:Nat} {A S M:N6->N6->N6} {H:N6->N6}
theorem L12_ok{x y:N6}(hx:(H3s x).ok)(hy:(H3s y).ok):(L12s (x,y)).ok:=⟨hx.1,hy.1,hx.2.1,hy.2.1,hx.2.2.1,hy.2.2.1,trivial⟩
def cHalves:Con:=cV1 85 sh12 fun a=>.tu (H3s a.1) (H3s a.2)
def cWhole:Con:=cV2 88 sh6 sh6 fun a b=>L12s (a,b)
theorem mul12_is(oA:∀ a b,(H3s (A a b)).ok)(oS:∀ a b,(H3s (S a b)).ok)(hA:Is2 m 87 sh6 sh6 fun a b=>H3s (A a b))(hS:Is2 m 90 sh6 sh6 fun a b=>H3s (S a b))(hM:Is2 m 86 sh6 sh6 fun a b=>H3s (M a b))(hH:Is1 m 89 sh6 fun a=>H3s (H a)):Is2 m 63 sh12 sh12 fun a b=>L12s (mt A S M H a b):=fun _ _ _ hf=>cT2_ok hf (fun _ _=>by kernel_rfl) (fun a b _ _=>⟨L12_ok (oA _ _) (oS _ _),rfl⟩) fun F a b oa ob w hF =>
 calls_at (E1_ok (more:=[cHalves,cWhole,cT2 true m 87 sh6 sh6 fun a b=>H3s (A a b),cT2 true m 90 sh6 sh6 fun a b=>H3s (S a b),cT2 true m 86 sh6 sh6 fun a b=>H3s (M a b),cT1 true m 89 sh6 fun a=>H3s (H a)]) ⟨halves_is _ _ _,whole_is _ _ _,hA _ _ _ (FOk.of hF),hS _ _ _ (FOk.of hF),hM _ _ _ (FOk.of hF),hH _ _ _ (FOk.of hF),trivial⟩) (by kernel_rfl) (fun _=>0) Try.func63 (by kernel_rfl) [sG,L12s a,L12s b] ⟨⟨⟨trivial,trivial⟩,rfl⟩,⟨oa,rfl⟩,⟨ob,rfl⟩,trivial⟩ (by kernel_rfl) (by kernel_rfl) (.leaf (L12s (mt A S M H a b))) (by kernel_rfl) rfl
end
section
variable {m:Nat} {A:N2->N2->N2}
theorem add12_is(o:∀ a b,(F2s (A a b)).ok)(hA:Is2 m 91 sh2 sh2 fun a b=>F2s (A a b)):Is2 m 64 sh12 sh12 fun a b=>L12s (ah A a.1 b.1,ah A a.2 b.2):=fun _ _ _ hf=>cT2_ok hf (fun _ _=>by kernel_rfl) (fun a b _ _=>⟨L12_ok (ah_ok o _ _) (ah_ok o _ _),rfl⟩) fun F a b oa ob w hF =>
 calls_at (E1_ok (more:=[cT2 true m 91 sh2 sh2 fun a b=>F2s (A a b)]) ⟨hA _ _ _ (FOk.of hF),trivial⟩) (by kernel_rfl) (fun _=>7) Try.func64 (by kernel_rfl) [sG,L12s a,L12s b] ⟨⟨⟨trivial,trivial⟩,rfl⟩,⟨oa,rfl⟩,⟨ob,rfl⟩,trivial⟩ (by kernel_rfl) (by kernel_rfl) (.leaf (L12s (ah A a.1 b.1,ah A a.2 b.2))) (by kernel_rfl) rfl
end
/-! The letters named. -/
section
variable {m:Nat} (hp:Pr m) (hm:m<2^256)
include hm
theorem addHalf_at:Is2 m 87 sh6 sh6 fun a b=>H3s (a6 hp a b):=addHalf_is (fun _ _=>F2v_ok hm _) (add2_is hp)
theorem subHalf_at:Is2 m 90 sh6 sh6 fun a b=>H3s (s6 hp a b):=subHalf_is (fun _ _=>F2v_ok hm _) (sub2_is hp)
theorem shifted_at:Is1 m 89 sh6 fun a=>H3s (shh (l2 hp) a):=shifted_is (fun _=>F2v_ok hm _) (lifted_is hp)
theorem mulHalf_at:Is2 m 86 sh6 sh6 fun a b=>H3s (m6 hp a b):=by
 have h:=mulHalf_is (A:=a2 hp) (S:=s2 hp) (M:=m2 hp) (L:=l2 hp) (fun _ _=>F2v_ok hm _) (fun _ _=>F2v_ok hm _) (add2_is hp) (sub2_is hp) (mul2_is hp) (lifted_is hp);simp only[m6_eq]at h;exact h
theorem mul12_at:Is2 m 63 sh12 sh12 fun a b=>L12s (m12 hp a b):=by
 have h:=mul12_is (A:=a6 hp) (S:=s6 hp) (M:=m6 hp) (H:=shh (l2 hp)) (fun _ _=>H3v_ok hm _) (fun _ _=>H3v_ok hm _) (addHalf_at hp hm) (subHalf_at hp hm) (mulHalf_at hp hm) (shifted_at hp hm);simp only[m12_eq]at h;exact h
theorem add12_at:Is2 m 64 sh12 sh12 fun a b=>L12s (a12 hp a b):=add12_is (fun _ _=>F2v_ok hm _) (add2_is hp)
end
end Sy
open Go.RowKit
-- WHAT Base COMES TO.
theorem f_Base(w:World):Calls Try.prog 55 #[] w fun e w'=>∃ F,e=.returned (.pointer (some ⟨F,0,none⟩))/\FldAt w' F 21888242871839275222246405745257275088696311157297823662689037894645226208583/\w.heap.size<=F/\Below w.heap.size w w':=by
 have HMO:=Lib.hid (fun wx=>modulo_any 21888242871839275222246405745257275088696311157297823662689037894645226208583 (by omega) (by omega) (by omega) wx);rw[show pw 21888242871839275222246405745257275088696311157297823662689037894645226208583=#[.int .u64 4332616871279656263,.int .u64 10917124144477883021,.int .u64 13281191951274694749,.int .u64 3486998266802970665] from by kernel_rfl]at HMO;go_enter Try.func55,Try.ntmps55
 go_wp2_with fail
 refine(HMO.out _).mono ?_;rintro e w5 ⟨F,rfl,hF,hs,hb⟩;have HF:=Lib.hid (And.intro hF (And.intro hs hb));clear hF hs hb HMO
 go_wp2_with fail
 go_ret;exact⟨F,rfl,HF.out.1,HF.out.2⟩
open Go.RowKit
theorem fields_any(w:World):Calls Try.prog 62 #[] w fun e w'=>∃ F,e=.returned (.agg #[.pointer (some ⟨F,0,none⟩)])/\FldAt w' F 21888242871839275222246405745257275088696311157297823662689037894645226208583/\w.heap.size<=F/\Below w.heap.size w w':=by
 have HCR:=Lib.hid (fun wx=>f_Base wx);go_enter Try.func62,Try.ntmps62
 go_wp2_with fail
 refine(HCR.out _).mono ?_;rintro e w5 ⟨F,rfl,hF,hs,hb⟩;have HF:=Lib.hid hF;have HS:=Lib.hid hs;have HB:=Lib.hid hb;have hr:=(HB.out.block w.heap.size (by simp)).trans (heap_alloc_new w _);have HR:=Lib.hid hr;clear hF hs hb hr HCR
 go_wp2_with (refine wpList_store_row rfl 77 _ _ rfl w.heap.size #[.pointer (some ⟨F,0,none⟩)] rfl rfl 77 _ (by exact HR.out) (by kernel_rfl) (by rfl) (by kernel_rfl) ?_)
 (try simp only[Act.put])
 refine bodyPost_ret (v:=.agg #[.pointer (some ⟨F,0,none⟩)]) (results_cell_row (p:=0) rfl _ _ w.heap.size 77 #[.pointer (some ⟨F,0,none⟩)] (0,0) _ rfl (setRow_heap _ _ _ _ _ _ HR.out) Try.underlying77 rfl (by kernel_rfl)) rfl ⟨F,rfl,?_,?_,?_⟩
 ·have h:=HS.out
  simp at h;exact fld_row HF.out (by omega)
 ·have h:=HS.out
  simp at h;omega
 ·exact below_setRow (((Below.refl _ _).alloc (Nat.le_refl _) _).trans (HB.out.mono (by simp))) (Nat.le_refl _) _
namespace Sy
abbrev pB:Nat:=21888242871839275222246405745257275088696311157297823662689037894645226208583
theorem prB:Pr pB:=prm_21888242871839275222246405745257275088696311157297823662689037894645226208583
theorem ltB:pB<2^256:=by decide
theorem fB(w:World):FOk false pB o0 w:=⟨by decide,by decide,ltB,fun h=>by cases h⟩
def cFields:Con:=⟨62,fun n _ l=>match l with
 | []=>some (.ap (.p n 0 0 0) .e,[],[(n,sFld pB,54)])
 | _=>none⟩
theorem cFields_ok{γ0:Pl}{w0:World}:ConOk Try.prog 1 γ0 w0 cFields:=⟨fun _ _=>by kernel_rfl,fun n M l r p R hr hp hn hok _=>by
 simp only[cFields]at hr
 split at hr
 ·cases hr
  refine⟨⟨trivial,trivial⟩,by show(decide (n<n+1)&&true)=true;simp,fun q hq=>?_,fun γ hγ wx hw hL=>?_⟩
  ·simp only[List.mem_cons,List.not_mem_nil,or_false]at hq
   subst hq;exact⟨⟨trivial,trivial,trivial,trivial,trivial,trivial,trivial,trivial,trivial,trivial⟩,rfl,Nat.le_refl _,Nat.lt_succ_self _⟩
  ·refine(fields_any wx).mono fun e w' ⟨F,h1,h2,h3,h4⟩=>?_
   obtain⟨δ,hδ⟩:∃ δ:Pl,∀ k,δ k=if k=n then F else γ k:=⟨_,fun _=>rfl⟩
   refine⟨⟨δ,fun k hk=>by rw[hδ,if_neg (by omega)],?_,fun q hq=>?_,List.pairwise_singleton _ _⟩,h4⟩
   ·rw[h1]
    show _=Ending.returned (.agg #[.pointer (some ⟨δ n,0+0*0,none⟩)]);rw[hδ,if_pos rfl]
   ·simp only[List.mem_cons,List.not_mem_nil,or_false]at hq
    subst hq;refine⟨by rw[hδ,if_pos rfl];exact h3,?_⟩;show w'.heap[δ n]?=_;rw[hδ,if_pos rfl];exact h2.row
 ·cases hr⟩
section
variable {A M:N2->N2->N2} {A12 M12:N12->N12->N12}
theorem Add2_is(o:∀ a b,(F2s (A a b)).ok)(hA:Is2 pB 91 sh2 sh2 fun a b=>F2s (A a b)):Is00 65 sh2 sh2 fun a b=>F2s (A a b):=fun _ _ _=>cV2_ok (fun _ _=>by kernel_rfl) (fun a b _ _=>⟨o a b,rfl⟩) fun a b oa ob w =>
 calls_at (E1_ok (γ0:=o0) (more:=[cFields,cT2 false pB 91 sh2 sh2 fun a b=>F2s (A a b)]) ⟨cFields_ok,hA _ _ _ (fB w),trivial⟩) (by kernel_rfl) (fun _=>0) Try.func65 (by kernel_rfl) [F2s a,F2s b] ⟨⟨oa,rfl⟩,⟨ob,rfl⟩,trivial⟩ (by kernel_rfl) (by kernel_rfl) (.leaf (F2s (A a b))) (by kernel_rfl) rfl
theorem Mul2_is(o:∀ a b,(F2s (M a b)).ok)(hM:Is2 pB 92 sh2 sh2 fun a b=>F2s (M a b)):Is00 66 sh2 sh2 fun a b=>F2s (M a b):=fun _ _ _=>cV2_ok (fun _ _=>by kernel_rfl) (fun a b _ _=>⟨o a b,rfl⟩) fun a b oa ob w =>
 calls_at (E1_ok (γ0:=o0) (more:=[cFields,cT2 false pB 92 sh2 sh2 fun a b=>F2s (M a b)]) ⟨cFields_ok,hM _ _ _ (fB w),trivial⟩) (by kernel_rfl) (fun _=>0) Try.func66 (by kernel_rfl) [F2s a,F2s b] ⟨⟨oa,rfl⟩,⟨ob,rfl⟩,trivial⟩ (by kernel_rfl) (by kernel_rfl) (.leaf (F2s (M a b))) (by kernel_rfl) rfl
theorem Add12_is(o:∀ a b,(L12s (A12 a b)).ok)(hA:Is2 pB 64 sh12 sh12 fun a b=>L12s (A12 a b)):Is00 32 sh12 sh12 fun a b=>L12s (A12 a b):=fun _ _ _=>cV2_ok (fun _ _=>by kernel_rfl) (fun a b _ _=>⟨o a b,rfl⟩) fun a b oa ob w =>
 calls_at (E1_ok (γ0:=o0) (more:=[cFields,cT2 false pB 64 sh12 sh12 fun a b=>L12s (A12 a b)]) ⟨cFields_ok,hA _ _ _ (fB w),trivial⟩) (by kernel_rfl) (fun _=>0) Try.func32 (by kernel_rfl) [L12s a,L12s b] ⟨⟨oa,rfl⟩,⟨ob,rfl⟩,trivial⟩ (by kernel_rfl) (by kernel_rfl) (.leaf (L12s (A12 a b))) (by kernel_rfl) rfl
theorem Mul12_is(o:∀ a b,(L12s (M12 a b)).ok)(hM:Is2 pB 63 sh12 sh12 fun a b=>L12s (M12 a b)):Is00 31 sh12 sh12 fun a b=>L12s (M12 a b):=fun _ _ _=>cV2_ok (fun _ _=>by kernel_rfl) (fun a b _ _=>⟨o a b,rfl⟩) fun a b oa ob w =>
 calls_at (E1_ok (γ0:=o0) (more:=[cFields,cT2 false pB 63 sh12 sh12 fun a b=>L12s (M12 a b)]) ⟨cFields_ok,hM _ _ _ (fB w),trivial⟩) (by kernel_rfl) (fun _=>0) Try.func31 (by kernel_rfl) [L12s a,L12s b] ⟨⟨oa,rfl⟩,⟨ob,rfl⟩,trivial⟩ (by kernel_rfl) (by kernel_rfl) (.leaf (L12s (M12 a b))) (by kernel_rfl) rfl
end
def one12:N12:=(((1,0),z2,z2),z6)
theorem one12_ok:(L12s one12).ok:=⟨⟨(show 1<2^256 by decide),w0_ok,trivial⟩,F2z_ok,F2z_ok,F2z_ok,F2z_ok,F2z_ok,trivial⟩
def cOne:Con:=conV 67 fun l=>match l with
 | []=>some (L12s one12,[])
 | _=>none
def cOneR:Con:=conV 68 fun l=>match l with
 | []=>some (L12s one12,[])
 | _=>none
theorem cOne_ok{base:Nat}{γ0:Pl}{w0:World}:ConOk Try.prog base γ0 w0 cOne:=conV_ok (fun _ _=>by kernel_rfl) fun us r q h hq hok=>by
 split at h
 ·cases h
  exact⟨one12_ok,rfl,fun γ w=>calls_at (E1_ok (γ0:=γ) (more:=[cOf]) ⟨cOf_ok,trivial⟩) (by kernel_rfl) (fun _=>0) Try.func67 (by kernel_rfl) [] trivial (by kernel_rfl) (by kernel_rfl) (.leaf (L12s one12)) (by kernel_rfl) rfl⟩
 ·cases h
theorem cOneR_ok{base:Nat}{γ0:Pl}{w0:World}:ConOk Try.prog base γ0 w0 cOneR:=conV_ok (fun _ _=>by kernel_rfl) fun us r q h hq hok=>by
 split at h
 ·cases h
  exact⟨one12_ok,rfl,fun γ w=>calls_at (E1_ok (γ0:=γ) (more:=[]) trivial) (by kernel_rfl) (fun _=>0) Try.func68 (by kernel_rfl) [] trivial (by kernel_rfl) (by kernel_rfl) (.leaf (L12s one12)) (by kernel_rfl) rfl⟩
 ·cases h
/-! Named: of the pairing's prime. -/
def A2:N2->N2->N2:=a2 prB
def M2:N2->N2->N2:=m2 prB
def A12:N12->N12->N12:=a12 prB
def M12:N12->N12->N12:=m12 prB
theorem Add2_at:Is00 65 sh2 sh2 fun a b=>F2s (A2 a b):=Add2_is (fun _ _=>F2v_ok ltB _) (add2_is prB)
theorem Mul2_at:Is00 66 sh2 sh2 fun a b=>F2s (M2 a b):=Mul2_is (fun _ _=>F2v_ok ltB _) (mul2_is prB)
theorem Add12_at:Is00 32 sh12 sh12 fun a b=>L12s (A12 a b):=Add12_is (fun _ _=>L12v_ok ltB _) (add12_at prB ltB)
theorem Mul12_at:Is00 31 sh12 sh12 fun a b=>L12s (M12 a b):=Mul12_is (fun _ _=>L12v_ok ltB _) (mul12_at prB ltB)
end Sy
open Go.RowKit
namespace Sy
def wl2(a:N2):List Nat:=[a.1,a.2]
def wl12(a:N12):List Nat:=[a.1.1.1,a.1.1.2,a.2.1.1,a.2.1.2,a.1.2.1.1,a.1.2.1.2,a.2.2.1.1,a.2.2.1.2,a.1.2.2.1,a.1.2.2.2,a.2.2.2.1,a.2.2.2.2]
theorem eqL_self(l:List Nat):eqL l l=true:=decide_eq_true rfl
def eI:N2:=(0,1)
def eW:N12:=(z6,((1,0),z2,z2))
def eV:N12:=(z6,(z2,z2,(1,0)))
def e9:N12:=(((9,1),z2,z2),z6)
section
variable {A M:N2->N2->N2} {T:N12->N12->N12}
theorem lives_gen(hA:Is00 65 sh2 sh2 fun a b=>F2s (A a b))(hM:Is00 66 sh2 sh2 fun a b=>F2s (M a b))(hT:Is00 31 sh12 sh12 fun a b=>L12s (T a b))(w:World):Calls Try.prog 33 #[] w fun e w'=>e=.returned (.bool (bif (bif eqL (wl2 (A (M eI eI) (1,0))) (wl2 z2)then eqL (wl12 (T eW eV)) (wl12 e9)else false)then eqL (wl12 one12) (wl12 one12)else false))/\Below w.heap.size w w' :=
 calls_at (E1_ok (γ0:=o0) (more:=[cV2 65 sh2 sh2 fun a b=>F2s (A a b),cV2 66 sh2 sh2 fun a b=>F2s (M a b),cV2 31 sh12 sh12 fun a b=>L12s (T a b),cOne,cOneR]) ⟨hA _ _ _,hM _ _ _,hT _ _ _,cOne_ok,cOneR_ok,trivial⟩) (by kernel_rfl) (fun _=>0) Try.func33 (by kernel_rfl) [] trivial (by kernel_rfl) (by kernel_rfl)
  (.leaf (.b (bif (bif eqL (wl2 (A (M eI eI) (1,0))) (wl2 z2)then eqL (wl12 (T eW eV)) (wl12 e9)else false)then eqL (wl12 one12) (wl12 one12)else false))) (by kernel_rfl) rfl
end
theorem lives_1:A2 (M2 eI eI) (1,0)=z2:=by decide +kernel
theorem lives_2:M12 eW eV=e9:=by decide +kernel
theorem lives_any(w:World):Calls Try.prog 33 #[] w fun e w'=>e=.returned (.bool true)/\Below w.heap.size w w':=by
 have h:=lives_gen Add2_at Mul2_at Mul12_at w;rw[lives_1,lives_2,eqL_self,eqL_self,eqL_self]at h;exact h
def cLives:Con:=conV 33 fun l=>match l with
 | []=>some (.b true,[])
 | _=>none
theorem cLives_ok{base:Nat}{γ0:Pl}{w0:World}:ConOk Try.prog base γ0 w0 cLives:=conV_ok (fun _ _=>by kernel_rfl) fun us r q h hq hok=>by
 split at h
 ·cases h
  exact⟨trivial,rfl,fun γ w=>lives_any w⟩
 ·cases h
end Sy
open Go.RowKit
namespace Sy
section
variable {A M:N12->N12->N12}
theorem tring_gen(hA:Is00 32 sh12 sh12 fun a b=>L12s (A a b))(hM:Is00 31 sh12 sh12 fun a b=>L12s (M a b))(a b c:N12)(oa:(L12s a).ok)(ob:(L12s b).ok)(oc:(L12s c).ok)(w:World):Calls Try.prog 8 #[(L12s a).val o0,(L12s b).val o0,(L12s c).val o0] w fun e w'=>e=.returned (.bool (bif (bif (bif eqL (wl12 (M a b)) (wl12 (M b a))then eqL (wl12 (M (M a b) c)) (wl12 (M a (M b c)))else false)then eqL (wl12 (M (A a b) c)) (wl12 (A (M a c) (M b c)))else false)then true else false))/\Below w.heap.size w w' :=
 calls_at (E1_ok (γ0:=o0) (more:=[cV2 32 sh12 sh12 fun a b=>L12s (A a b),cV2 31 sh12 sh12 fun a b=>L12s (M a b),cLives]) ⟨hA _ _ _,hM _ _ _,cLives_ok,trivial⟩) (by kernel_rfl) (fun _=>0) Try.func8 (by kernel_rfl) [L12s a,L12s b,L12s c] ⟨⟨oa,rfl⟩,⟨ob,rfl⟩,⟨oc,rfl⟩,trivial⟩ (by kernel_rfl) (by kernel_rfl)
  (.leaf (.b (bif (bif (bif eqL (wl12 (M a b)) (wl12 (M b a))then eqL (wl12 (M (M a b) c)) (wl12 (M a (M b c)))else false)then eqL (wl12 (M (A a b) c)) (wl12 (A (M a c) (M b c)))else false)then true else false))) (by kernel_rfl) rfl
end
theorem tring_any(a b c:N12)(oa:(L12s a).ok)(ob:(L12s b).ok)(oc:(L12s c).ok)(w:World):Calls Try.prog 8 #[(L12s a).val o0,(L12s b).val o0,(L12s c).val o0] w fun e w'=>e=.returned (.bool true)/\Below w.heap.size w w':=by
 have h:=tring_gen Add12_at Mul12_at a b c oa ob oc w;rw[show M12 b a=M12 a b from m12_comm prB b a,show M12 (M12 a b) c=M12 a (M12 b c) from m12_assoc prB a b c,show M12 (A12 a b) c=A12 (M12 a c) (M12 b c) from m12_add prB a b c,eqL_self,eqL_self,eqL_self]at h;exact h
end Sy
end Go.Proofs.Ytcmgphkjchicbaa
namespace Go.Proofs.Ytcmgphkjchicbaa.towerRing
open Go.ChangeShapes Go.WideShapes Go.ChangeAt Go.RowKit
theorem contract(H:Type)(enc:TypeId × Value->H)(W:World)(base:Nat)(args:Array Value)(ds gs:List (DataW H))(before:List MemPlace)
  (hval:∀(j:Nat) t v,Try.f8.params[j]?=some t->args[j]?=some v->Value.okWide Try.prog W .any base t v)
  (hW:DataW.Whole enc Try.prog Try.f8.params.toList Rows.towerRingSpec.vars false W args.toList ds gs before) :
  Calls Try.prog 8 args W fun e W'=>∃ v,e=.returned v/\Rows.towerRingSpec.post enc Try.prog Try.f8 false true false false W args v W':=by
 have hW':=hW;obtain⟨p,q,hA0,hV,rfl,hfz,hnd⟩:=hW;have hA:DataW.TrodAll enc Try.prog W 0 (fun _=>true) true Try.f8.params.toList args.toList ds p:=hA0;rw[Try.params8]at hA hval;obtain⟨v0,vs0,d0,ds0,p0,q0,hargs,rfl,rfl,h0,r0⟩:=trodAll_cons hA;obtain⟨v1,vs1,d1,ds1,p1,q1,rfl,rfl,rfl,h1,r1⟩:=trodAll_cons r0;obtain⟨v2,vs2,d2,ds2,p2,q2,rfl,rfl,rfl,h2,r2⟩:=trodAll_cons r1;obtain⟨rfl,rfl,rfl⟩:=trodAll_nil r2;obtain rfl:args=#[v0,v1,v2]:=by cases args;simp_all
 obtain⟨rfl,rfl⟩:=trodVars_none hV;obtain⟨x0,rfl,X0⟩:=open_f12 (hval 0 48 v0 rfl rfl) h0;obtain⟨x1,rfl,X1⟩:=open_f12 (hval 1 48 v1 rfl rfl) h1;obtain⟨x2,rfl,X2⟩:=open_f12 (hval 2 48 v2 rfl rfl) h2;clear hA0;refine(Sy.tring_any x0 x1 x2 X0 X1 X2 W).mono fun e W' ⟨he,hb⟩=>?_;subst he;refine⟨_,rfl,_,_,_,[],p0++(p1++(p2++[])),[],hW',trodAll_cons_mk (shut_bool Try.underlying4 _) trodAll_mk0,trodAll_cons_mk (Below.trod laidOutF (by kernel_rfl) (of_decide_eq_true (by kernel_rfl)) h0 hb (fun x hx=>hW'.lt x (by simp[hx]))) (trodAll_cons_mk (Below.trod laidOutF (by kernel_rfl) (of_decide_eq_true (by kernel_rfl)) h1 hb (fun x hx=>hW'.lt x (by simp[hx]))) (trodAll_cons_mk (Below.trod laidOutF (by kernel_rfl) (of_decide_eq_true (by kernel_rfl)) h2 hb (fun x hx=>hW'.lt x (by simp[hx]))) trodAll_mk0)),rfl,hb.frame _,fun h=>by cases h⟩
theorem laid_met(os:Os):laidMet Try.prog Rows.towerRingRow.laid ((bareWorld os).forCall (fun _ _=>0) ⟨#[],#[.agg (List.replicate 48 (Value.int .u64 0)).toArray,.agg (List.replicate 48 (Value.int .u64 0)).toArray,.agg (List.replicate 48 (Value.int .u64 0)).toArray],[]⟩).memory :=
 laidMet_of_run' 80 (by kernel_rfl) (by kernel_rfl)
theorem reads(os:Os){H:Type}(enc:TypeId × Value->H):∃ places,DataW.whole enc Try.prog ((bareWorld os).forCall (fun _ _=>0) ⟨#[],#[.agg (List.replicate 48 (Value.int .u64 0)).toArray,.agg (List.replicate 48 (Value.int .u64 0)).toArray,.agg (List.replicate 48 (Value.int .u64 0)).toArray],[]⟩).memory Try.f8.params.toList Rows.towerRingSpec.vars false (#[.agg (List.replicate 48 (Value.int .u64 0)).toArray,.agg (List.replicate 48 (Value.int .u64 0)).toArray,.agg (List.replicate 48 (Value.int .u64 0)).toArray]:Array Value).toList 80=some ([.agg [.agg [.agg [.lit (.int .u64 0),.lit (.int .u64 0),.lit (.int .u64 0),.lit (.int .u64 0)],.agg [.lit (.int .u64 0),.lit (.int .u64 0),.lit (.int .u64 0),.lit (.int .u64 0)]],.agg [.agg [.lit (.int .u64 0),.lit (.int .u64 0),.lit (.int .u64 0),.lit (.int .u64 0)],.agg [.lit (.int .u64 0),.lit (.int .u64 0),.lit (.int .u64 0),.lit (.int .u64 0)]],.agg [.agg [.lit (.int .u64 0),.lit (.int .u64 0),.lit (.int .u64 0),.lit (.int .u64 0)],.agg [.lit (.int .u64 0),.lit (.int .u64 0),.lit (.int .u64 0),.lit (.int .u64 0)]],.agg [.agg [.lit (.int .u64 0),.lit (.int .u64 0),.lit (.int .u64 0),.lit (.int .u64 0)],.agg [.lit (.int .u64 0),.lit (.int .u64 0),.lit (.int .u64 0),.lit (.int .u64 0)]],.agg [.agg [.lit (.int .u64 0),.lit (.int .u64 0),.lit (.int .u64 0),.lit (.int .u64 0)],.agg [.lit (.int .u64 0),.lit (.int .u64 0),.lit (.int .u64 0),.lit (.int .u64 0)]],.agg [.agg [.lit (.int .u64 0),.lit (.int .u64 0),.lit (.int .u64 0),.lit (.int .u64 0)],.agg [.lit (.int .u64 0),.lit (.int .u64 0),.lit (.int .u64 0),.lit (.int .u64 0)]]],.agg [.agg [.agg [.lit (.int .u64 0),.lit (.int .u64 0),.lit (.int .u64 0),.lit (.int .u64 0)],.agg [.lit (.int .u64 0),.lit (.int .u64 0),.lit (.int .u64 0),.lit (.int .u64 0)]],.agg [.agg [.lit (.int .u64 0),.lit (.int .u64 0),.lit (.int .u64 0),.lit (.int .u64 0)],.agg [.lit (.int .u64 0),.lit (.int .u64 0),.lit (.int .u64 0),.lit (.int .u64 0)]],.agg [.agg [.lit (.int .u64 0),.lit (.int .u64 0),.lit (.int .u64 0),.lit (.int .u64 0)],.agg [.lit (.int .u64 0),.lit (.int .u64 0),.lit (.int .u64 0),.lit (.int .u64 0)]],.agg [.agg [.lit (.int .u64 0),.lit (.int .u64 0),.lit (.int .u64 0),.lit (.int .u64 0)],.agg [.lit (.int .u64 0),.lit (.int .u64 0),.lit (.int .u64 0),.lit (.int .u64 0)]],.agg [.agg [.lit (.int .u64 0),.lit (.int .u64 0),.lit (.int .u64 0),.lit (.int .u64 0)],.agg [.lit (.int .u64 0),.lit (.int .u64 0),.lit (.int .u64 0),.lit (.int .u64 0)]],.agg [.agg [.lit (.int .u64 0),.lit (.int .u64 0),.lit (.int .u64 0),.lit (.int .u64 0)],.agg [.lit (.int .u64 0),.lit (.int .u64 0),.lit (.int .u64 0),.lit (.int .u64 0)]]],.agg [.agg [.agg [.lit (.int .u64 0),.lit (.int .u64 0),.lit (.int .u64 0),.lit (.int .u64 0)],.agg [.lit (.int .u64 0),.lit (.int .u64 0),.lit (.int .u64 0),.lit (.int .u64 0)]],.agg [.agg [.lit (.int .u64 0),.lit (.int .u64 0),.lit (.int .u64 0),.lit (.int .u64 0)],.agg [.lit (.int .u64 0),.lit (.int .u64 0),.lit (.int .u64 0),.lit (.int .u64 0)]],.agg [.agg [.lit (.int .u64 0),.lit (.int .u64 0),.lit (.int .u64 0),.lit (.int .u64 0)],.agg [.lit (.int .u64 0),.lit (.int .u64 0),.lit (.int .u64 0),.lit (.int .u64 0)]],.agg [.agg [.lit (.int .u64 0),.lit (.int .u64 0),.lit (.int .u64 0),.lit (.int .u64 0)],.agg [.lit (.int .u64 0),.lit (.int .u64 0),.lit (.int .u64 0),.lit (.int .u64 0)]],.agg [.agg [.lit (.int .u64 0),.lit (.int .u64 0),.lit (.int .u64 0),.lit (.int .u64 0)],.agg [.lit (.int .u64 0),.lit (.int .u64 0),.lit (.int .u64 0),.lit (.int .u64 0)]],.agg [.agg [.lit (.int .u64 0),.lit (.int .u64 0),.lit (.int .u64 0),.lit (.int .u64 0)],.agg [.lit (.int .u64 0),.lit (.int .u64 0),.lit (.int .u64 0),.lit (.int .u64 0)]]]],[],places) :=
 ⟨[],by kernel_rfl⟩
theorem lifted(os:Os)(started:os.Started)(H:Type)(enc:TypeId × Value->H)(F:Stop.Interp) :
  ReturnsInHanded {} Try.checked os 8 .any ((OpenSpec.ofChange Rows.towerRingSpec).preRow enc Try.prog Try.f8 Rows.towerRingRow.domain false Rows.towerRingRow.laid) (((OpenSpec.ofChange Rows.towerRingSpec).at F).post enc Try.prog Try.f8 false true false false):=by
 obtain⟨places,hx⟩:=reads os enc;refine returnsInHanded_of_row (C:=Try.checked) (s:=OpenSpec.ofChange Rows.towerRingSpec) ownF started (by kernel_rfl) Try.func8
  (witness_row_at (enc:=enc) (C:=Try.checked) false (bareWorld os) #[.agg (List.replicate 48 (Value.int .u64 0)).toArray,.agg (List.replicate 48 (Value.int .u64 0)).toArray,.agg (List.replicate 48 (Value.int .u64 0)).toArray] rfl (by kernel_rfl) (by kernel_rfl) (by kernel_rfl)
   (OpenSpec.preRow_of_cond 80 hx (by kernel_rfl) (fun k hk=>by cases hk) (by kernel_rfl) (laid_met os))) ?_
 intro W base args ds gs before hval hW _ _ _ _ _ _;exact contract H enc W base args ds gs before hval hW
theorem said:Rows.TowerRingSaid :=
 OpenClaim.holds_of_cond 8 Try.f8 rfl rfl rfl rfl rfl rfl rfl ⟨rfl,rfl,rfl,rfl,rfl⟩ rfl rfl rfl rfl rfl (by kernel_rfl) Try.func8 (by kernel_rfl)
  (of_decide_eq_true (by kernel_rfl)) (by unfold Func.isWrapper;rw[if_neg (of_decide_eq_false (by kernel_rfl))];exact⟨rfl,rfl⟩)
  (fun os started H enc _ F=>by rw[OpenClaim.pre_eq_preRow];exact lifted os started H enc F)
end Go.Proofs.Ytcmgphkjchicbaa.towerRing
