/- What takes the lowest part away, found bit by bit: numbers. No program is named here. (Cut to what is reached, written closely: TwU · TwH · TwV · FCrv · TwA · FRNum · RLow.) -/
import Derived.Test.YtpipdfgfoocifaaGreatT30
import Derived.Test.YtpipdfgfoocifaaGreatT25
import Derived.Test.YtpipdfgfoocifaaGreatT29
import Derived.Test.YtpipdfgfoocifaaGreatT8
set_option linter.all false
set_option maxRecDepth 100000
set_option maxHeartbeats 8000000
namespace Go.Proofs.YtpipdfgfoocifaaGreat
open Go.RowKit
namespace Sy
theorem F2v_ok{m:Nat}(hm:m<2^256)(z:Zp m × Zp m):(F2s (v2 z)).ok:=⟨Nat.lt_trans z.1.2 hm,Nat.lt_trans z.2.2 hm,trivial⟩
theorem H3v_ok{m:Nat}(hm:m<2^256)(z:(Zp m × Zp m) × (Zp m × Zp m) × (Zp m × Zp m)):(H3s (v6 z)).ok:=⟨F2v_ok hm _,F2v_ok hm _,F2v_ok hm _,trivial⟩
theorem L12v_ok{m:Nat}(hm:m<2^256)(z:((Zp m × Zp m) × (Zp m × Zp m) × (Zp m × Zp m)) × ((Zp m × Zp m) × (Zp m × Zp m) × (Zp m × Zp m))):(L12s (v12 z)).ok:=⟨F2v_ok hm _,F2v_ok hm _,F2v_ok hm _,F2v_ok hm _,F2v_ok hm _,F2v_ok hm _,trivial⟩
theorem add2_is{m:Nat}(hp:Pr m):Is2 m 40 sh2 sh2 fun a b=>F2s (a2 hp a b):=fun _ _ _ hf=>cT2_ok hf (fun _ _=>by kernel_rfl) (fun _ _ _ _=>⟨F2v_ok hf.lt _,rfl⟩) fun F a b oa ob w hF=>by
 refine calls_at (E1_ok (flds_ok (FOk.of hF))) (by kernel_rfl) (fun _=>0) Tryz.func40 (by kernel_rfl) [sG,F2s a,F2s b] ⟨⟨⟨trivial,trivial⟩,rfl⟩,⟨oa,rfl⟩,⟨ob,rfl⟩,trivial⟩ (by kernel_rfl) (by kernel_rfl) (.leaf (F2s ((a.1+b.1)%m,(a.2+b.2)%m))) (by kernel_rfl) ?_;rw[a2_eq hp a b];rfl
theorem sub2_is{m:Nat}(hp:Pr m):Is2 m 42 sh2 sh2 fun a b=>F2s (s2 hp a b):=fun _ _ _ hf=>cT2_ok hf (fun _ _=>by kernel_rfl) (fun _ _ _ _=>⟨F2v_ok hf.lt _,rfl⟩) fun F a b oa ob w hF=>by
 refine calls_at (E1_ok (flds_ok (FOk.of hF))) (by kernel_rfl) (fun _=>0) Tryz.func42 (by kernel_rfl) [sG,F2s a,F2s b] ⟨⟨⟨trivial,trivial⟩,rfl⟩,⟨oa,rfl⟩,⟨ob,rfl⟩,trivial⟩ (by kernel_rfl) (by kernel_rfl) (.leaf (F2s ((a.1%m+(m - b.1%m))%m,(a.2%m+(m - b.2%m))%m))) (by kernel_rfl) ?_;rw[s2_eq hp a b];rfl
theorem mul2_is{m:Nat}(hp:Pr m):Is2 m 44 sh2 sh2 fun a b=>F2s (m2 hp a b):=fun _ _ _ hf=>cT2_ok hf (fun _ _=>by kernel_rfl) (fun _ _ _ _=>⟨F2v_ok hf.lt _,rfl⟩) fun F a b oa ob w hF=>by
 refine calls_at (E1_ok (flds_ok (FOk.of hF))) (by kernel_rfl) (fun _=>0) Tryz.func44 (by kernel_rfl) [sG,F2s a,F2s b] ⟨⟨⟨trivial,trivial⟩,rfl⟩,⟨oa,rfl⟩,⟨ob,rfl⟩,trivial⟩ (by kernel_rfl) (by kernel_rfl) (.leaf (F2s ((a.1*b.1%m%m+(m - a.2*b.2%m%m))%m,(a.1*b.2%m+a.2*b.1%m)%m))) (by kernel_rfl) ?_;rw[m2_eq hp a b];rfl
theorem lifted_is{m:Nat}(hp:Pr m):Is1 m 101 sh2 fun a=>F2s (l2 hp a):=fun _ _ _ hf=>cT1_ok hf (fun _ _=>by kernel_rfl) (fun _ _=>⟨F2v_ok hf.lt _,rfl⟩) fun F a oa w hF=>by
 refine calls_at (E1_ok (more:=cOf::flds true m) ⟨cOf_ok,flds_ok (FOk.of hF)⟩) (by kernel_rfl) (fun _=>0) Tryz.func101 (by kernel_rfl) [sG,F2s a] ⟨⟨⟨trivial,trivial⟩,rfl⟩,⟨oa,rfl⟩,trivial⟩ (by kernel_rfl) (by kernel_rfl) (.leaf (F2s ((a.1*9%m%m+(m - a.2%m))%m,(a.2*9%m+a.1)%m))) (by kernel_rfl) ?_;rw[l2_eq hp a];rfl
end Sy
open Go.RowKit
namespace Sy
theorem halves_is:Is0 72 sh12 fun a=>.tu (H3s a.1) (H3s a.2):=fun _ _ _=>cV1_ok (fun _ _=>by kernel_rfl) (fun a oa=>⟨⟨⟨oa.1,oa.2.2.1,oa.2.2.2.2.1,trivial⟩,oa.2.1,oa.2.2.2.1,oa.2.2.2.2.2.1,trivial⟩,rfl⟩) fun a oa w =>
 calls_at (E1_ok (more:=[]) (γ0:=o0) trivial) (by kernel_rfl) (fun _=>0) Tryz.func72 (by kernel_rfl) [L12s a] ⟨⟨oa,rfl⟩,trivial⟩ (by kernel_rfl) (by kernel_rfl) (.leaf (.tu (H3s a.1) (H3s a.2))) (by kernel_rfl) rfl
theorem whole_is:Is00 73 sh6 sh6 fun a b=>L12s (a,b):=fun _ _ _=>cV2_ok (fun _ _=>by kernel_rfl) (fun a b oa ob=>⟨⟨oa.1,ob.1,oa.2.1,ob.2.1,oa.2.2.1,ob.2.2.1,trivial⟩,rfl⟩) fun a b oa ob w =>
 calls_at (E1_ok (more:=[]) (γ0:=o0) trivial) (by kernel_rfl) (fun _=>0) Tryz.func73 (by kernel_rfl) [H3s a,H3s b] ⟨⟨oa,rfl⟩,⟨ob,rfl⟩,trivial⟩ (by kernel_rfl) (by kernel_rfl) (.leaf (L12s (a,b))) (by kernel_rfl) rfl
section
variable {m:Nat} {A S M:N2->N2->N2} {L:N2->N2}
theorem ah_ok(o:∀ a b,(F2s (A a b)).ok)(a b:N6):(H3s (ah A a b)).ok:=⟨o _ _,o _ _,o _ _,trivial⟩
theorem addHalf_is(o:∀ a b,(F2s (A a b)).ok)(hA:Is2 m 40 sh2 sh2 fun a b=>F2s (A a b)):Is2 m 74 sh6 sh6 fun a b=>H3s (ah A a b):=fun _ _ _ hf=>cT2_ok hf (fun _ _=>by kernel_rfl) (fun a b _ _=>⟨ah_ok o a b,rfl⟩) fun F a b oa ob w hF =>
 calls_at (E1_ok (more:=[cT2 true m 40 sh2 sh2 fun a b=>F2s (A a b)]) ⟨hA _ _ _ (FOk.of hF),trivial⟩) (by kernel_rfl) (fun _=>4) Tryz.func74 (by kernel_rfl) [sG,H3s a,H3s b] ⟨⟨⟨trivial,trivial⟩,rfl⟩,⟨oa,rfl⟩,⟨ob,rfl⟩,trivial⟩ (by kernel_rfl) (by kernel_rfl) (.leaf (H3s (ah A a b))) (by kernel_rfl) rfl
theorem subHalf_is(o:∀ a b,(F2s (S a b)).ok)(hS:Is2 m 42 sh2 sh2 fun a b=>F2s (S a b)):Is2 m 75 sh6 sh6 fun a b=>H3s (ah S a b):=fun _ _ _ hf=>cT2_ok hf (fun _ _=>by kernel_rfl) (fun a b _ _=>⟨ah_ok o a b,rfl⟩) fun F a b oa ob w hF =>
 calls_at (E1_ok (more:=[cT2 true m 42 sh2 sh2 fun a b=>F2s (S a b)]) ⟨hS _ _ _ (FOk.of hF),trivial⟩) (by kernel_rfl) (fun _=>4) Tryz.func75 (by kernel_rfl) [sG,H3s a,H3s b] ⟨⟨⟨trivial,trivial⟩,rfl⟩,⟨oa,rfl⟩,⟨ob,rfl⟩,trivial⟩ (by kernel_rfl) (by kernel_rfl) (.leaf (H3s (ah S a b))) (by kernel_rfl) rfl
theorem shifted_is(o:∀ a,(F2s (L a)).ok)(hL:Is1 m 101 sh2 fun a=>F2s (L a)):Is1 m 77 sh6 fun a=>H3s (shh L a):=fun _ _ _ hf=>cT1_ok hf (fun _ _=>by kernel_rfl) (fun a oa=>⟨⟨o _,oa.1,oa.2.1,trivial⟩,rfl⟩) fun F a oa w hF =>
 calls_at (E1_ok (more:=[cT1 true m 101 sh2 fun a=>F2s (L a)]) ⟨hL _ _ _ (FOk.of hF),trivial⟩) (by kernel_rfl) (fun _=>0) Tryz.func77 (by kernel_rfl) [sG,H3s a] ⟨⟨⟨trivial,trivial⟩,rfl⟩,⟨oa,rfl⟩,trivial⟩ (by kernel_rfl) (by kernel_rfl) (.leaf (H3s (shh L a))) (by kernel_rfl) rfl
/-! What stands across: a function in a function. -/
def Rc(a b o:N6):Rows:=[(1,.ap (.p 0 0 0 0) .e,60),(2,H3s a,82),(3,H3s b,82),(4,H3s o,82)]
def crs3(A S M:N2->N2->N2)(a b o:N6)(i j:Int):Option N2:=if i=1/\j=2 then some (crs A S M a b o 1 2)else if i=0/\j=1 then some (crs A S M a b o 0 1)else if i=0/\j=2 then some (crs A S M a b o 0 2)else none
theorem crs3_some{a b o:N6}{i j:Int}{r:N2}(h:crs3 A S M a b o i j=some r):(i=1/\j=2/\r=crs A S M a b o 1 2)\/(i=0/\j=1/\r=crs A S M a b o 0 1)\/(i=0/\j=2/\r=crs A S M a b o 0 2):=by
 unfold crs3 at h
 split at h
 ·rename_i e;cases h;exact .inl ⟨e.1,e.2,rfl⟩
 ·split at h
  ·rename_i e;cases h;exact .inr (.inl ⟨e.1,e.2,rfl⟩)
  ·split at h
   ·rename_i e;cases h;exact .inr (.inr ⟨e.1,e.2,rfl⟩)
   ·cases h
theorem crs_any(oS:∀ a b,(F2s (S a b)).ok)(hA:Is2 m 40 sh2 sh2 fun a b=>F2s (A a b))(hS:Is2 m 42 sh2 sh2 fun a b=>F2s (S a b))(hM:Is2 m 44 sh2 sh2 fun a b=>F2s (M a b))
  {γ0:Pl} {w:World} (hf:FOk true m γ0 w) (a b o:N6) (hR:RowsOk (Rc a b o) 5 γ0 w) {i j:Int} {r:N2} (h:crs3 A S M a b o i j=some r):Calls Tryz.prog 100 #[.int .i64 i,.int .i64 j,.pointer (some ⟨γ0 1,0,none⟩),.pointer (some ⟨γ0 2,0,none⟩),.pointer (some ⟨γ0 3,0,none⟩),.pointer (some ⟨γ0 4,0,none⟩)] w fun e w'=>e=.returned ((F2s r).val o0)/\Below w.heap.size w w':=by
 have G:=ET_ok (R0:=Rc a b o) (more:=[cT2 true m 40 sh2 sh2 fun a b=>F2s (A a b),cT2 true m 42 sh2 sh2 fun a b=>F2s (S a b),cT2 true m 44 sh2 sh2 fun a b=>F2s (M a b)]) (conAll_mono (b:=1) (base:=5) (by decide) ⟨hA _ _ _ hf,hS _ _ _ hf,hM _ _ _ hf,trivial⟩) hR;rcases crs3_some h with⟨rfl,rfl,rfl⟩ | ⟨rfl,rfl,rfl⟩ | ⟨rfl,rfl,rfl⟩
 ·exact calls_at G (by kernel_rfl) (fun _=>0) Tryz.func100 (by kernel_rfl) [.v (.int .i64 1),.v (.int .i64 2),.p 1 0 0 0,.p 2 0 0 0,.p 3 0 0 0,.p 4 0 0 0] ⟨⟨trivial,rfl⟩,⟨trivial,rfl⟩,⟨trivial,rfl⟩,⟨trivial,rfl⟩,⟨trivial,rfl⟩,⟨trivial,rfl⟩,trivial⟩ (by kernel_rfl) (by kernel_rfl) (.leaf (F2s (crs A S M a b o 1 2))) (by kernel_rfl) rfl
 ·exact calls_at G (by kernel_rfl) (fun _=>0) Tryz.func100 (by kernel_rfl) [.v (.int .i64 0),.v (.int .i64 1),.p 1 0 0 0,.p 2 0 0 0,.p 3 0 0 0,.p 4 0 0 0] ⟨⟨trivial,rfl⟩,⟨trivial,rfl⟩,⟨trivial,rfl⟩,⟨trivial,rfl⟩,⟨trivial,rfl⟩,⟨trivial,rfl⟩,trivial⟩ (by kernel_rfl) (by kernel_rfl) (.leaf (F2s (crs A S M a b o 0 1))) (by kernel_rfl) rfl
 ·exact calls_at G (by kernel_rfl) (fun _=>0) Tryz.func100 (by kernel_rfl) [.v (.int .i64 0),.v (.int .i64 2),.p 1 0 0 0,.p 2 0 0 0,.p 3 0 0 0,.p 4 0 0 0] ⟨⟨trivial,rfl⟩,⟨trivial,rfl⟩,⟨trivial,rfl⟩,⟨trivial,rfl⟩,⟨trivial,rfl⟩,⟨trivial,rfl⟩,trivial⟩ (by kernel_rfl) (by kernel_rfl) (.leaf (F2s (crs A S M a b o 0 2))) (by kernel_rfl) rfl
def cCross(A S M:N2->N2->N2)(m:Nat):Con:=⟨100,fun _ R us=>match us with
 | [.v (.int .i64 i),.v (.int .i64 j),.p gt 0 _ 0,.p ga 0 _ 0,.p gb 0 _ 0,.p go 0 _ 0]=>match rowIn gt R,rowIn ga R,rowIn gb R,rowIn go R with
  | some (.ap (.p 0 0 _ 0) .e,Tt),some (xa,Ta),some (xb,Tb),some (xo,To)=>match d6 xa,d6 xb,d6 xo with
   | some a,some b,some o=>if Tt=60/\Ta=82/\Tb=82/\To=82 then (crs3 A S M a b o i j).map fun r=>(F2s r,[],[])else none
   | _,_,_=>none
  | _,_,_,_=>none
 | _=>none⟩
theorem cCross_ok(oS:∀ a b,(F2s (S a b)).ok)(hA:Is2 m 40 sh2 sh2 fun a b=>F2s (A a b))(hS:Is2 m 42 sh2 sh2 fun a b=>F2s (S a b))(hM:Is2 m 44 sh2 sh2 fun a b=>F2s (M a b)){γ0:Pl}{w0:World}(hf:FOk true m γ0 w0):ConOk Tryz.prog 1 γ0 w0 (cCross A S M m) :=
 ⟨fun _ _=>by kernel_rfl,fun n R us r p R' hr hp hn hok hM'=>by
  unfold cCross at hr;dsimp only at hr
  split at hr
  ·rename_i i j gt _ ga _ gb _ go _
   split at hr
   ·rename_i _ Tt xa Ta xb Tb xo To ht ha hb ho
    split at hr
    ·rename_i a b o da db do_
     split at hr
     ·rename_i hT
      obtain⟨q,hq,e⟩:=Option.map_eq_some_iff.1 hr;cases e;obtain⟨rfl,rfl,rfl,rfl⟩:=hT;have ea:=d6_ok _ _ da;have eb:=d6_ok _ _ db;have eo:=d6_ok _ _ do_;subst ea eb eo;have oq:(F2s q).ok:=by
       rcases crs3_some hq with⟨_,_,rfl⟩ | ⟨_,_,rfl⟩ | ⟨_,_,rfl⟩ <;> exact oS _ _
      refine⟨oq,rfl,fun q hq=>(by cases hq),fun γ hγ wx hw hL=>?_⟩;have lt:=hL _ (rowIn_ok ht);have la:=hL _ (rowIn_ok ha);have lb:=hL _ (rowIn_ok hb);have lo:=hL _ (rowIn_ok ho);obtain⟨δ,hδ⟩:∃ δ:Pl,δ=fun k=>match k with
       | 0=>γ 0
       | 1=>γ gt
       | 2=>γ ga
       | 3=>γ gb
       | _=>γ go:=⟨_,rfl⟩
      have hf':FOk true m δ wx:=⟨hf.odd,hf.big,hf.lt,fun h=>by
       have h1:=(hf.at_ h).below hw;rw[hδ];show FldAt wx (γ 0) m;rw[hγ 0 (by decide)];exact h1⟩
      have hR:RowsOk (Rc a b o) 5 δ wx:=⟨fun q hq=>by
       simp only[Rc,List.mem_cons,List.not_mem_nil,or_false]at hq;rcases hq with rfl | rfl | rfl | rfl
       ·exact⟨by rw[hδ];exact lt.1,⟨trivial,trivial⟩,rfl,(show 1<5 by decide)⟩
       ·exact⟨by rw[hδ];exact la.1,la.2.1,rfl,(show 2<5 by decide)⟩
       ·exact⟨by rw[hδ];exact lb.1,lb.2.1,rfl,(show 3<5 by decide)⟩
       ·exact⟨by rw[hδ];exact lo.1,lo.2.1,rfl,(show 4<5 by decide)⟩⟩
      have g:=crs_any oS hA hS hM hf' a b o hR hq;rw[hδ]at g;exact g.mono fun e w' hh=>⟨⟨γ,fun _ _=>rfl,hh.1.trans (congrArg Ending.returned (val0 (x:=F2s q) rfl).symm),fun q hq=>(by cases hq),.nil⟩,hh.2⟩
     ·cases hr
    ·cases hr
   ·cases hr
  ·cases hr⟩
theorem mulHalf_is(oA:∀ a b,(F2s (A a b)).ok)(oS:∀ a b,(F2s (S a b)).ok)(hA:Is2 m 40 sh2 sh2 fun a b=>F2s (A a b))(hS:Is2 m 42 sh2 sh2 fun a b=>F2s (S a b))(hM:Is2 m 44 sh2 sh2 fun a b=>F2s (M a b))(hL:Is1 m 101 sh2 fun a=>F2s (L a)):Is2 m 76 sh6 sh6 fun a b=>H3s (mh A S M L a b):=fun _ _ _ hf=>cT2_ok hf (fun _ _=>by kernel_rfl) (fun a b _ _=>⟨⟨oA _ _,oA _ _,oA _ _,trivial⟩,rfl⟩) fun F a b oa ob w hF =>
 calls_at (E1_ok (more:=[cCross A S M m,cT2 true m 40 sh2 sh2 fun a b=>F2s (A a b),cT2 true m 44 sh2 sh2 fun a b=>F2s (M a b),cT1 true m 101 sh2 fun a=>F2s (L a)]) ⟨cCross_ok oS hA hS hM (FOk.of hF),hA _ _ _ (FOk.of hF),hM _ _ _ (FOk.of hF),hL _ _ _ (FOk.of hF),trivial⟩) (by kernel_rfl) (fun _=>4) Tryz.func76 (by kernel_rfl) [sG,H3s a,H3s b] ⟨⟨⟨trivial,trivial⟩,rfl⟩,⟨oa,rfl⟩,⟨ob,rfl⟩,trivial⟩ (by kernel_rfl) (by kernel_rfl) (.leaf (H3s (mh A S M L a b))) (by kernel_rfl) rfl
end
end Sy
open Go.RowKit
namespace Sy
section
variable {m:Nat} {A S M:N6->N6->N6} {H:N6->N6}
theorem L12_ok{x y:N6}(hx:(H3s x).ok)(hy:(H3s y).ok):(L12s (x,y)).ok:=⟨hx.1,hy.1,hx.2.1,hy.2.1,hx.2.2.1,hy.2.2.1,trivial⟩
def cHalves:Con:=cV1 72 sh12 fun a=>.tu (H3s a.1) (H3s a.2)
def cWhole:Con:=cV2 73 sh6 sh6 fun a b=>L12s (a,b)
theorem mul12_is(oA:∀ a b,(H3s (A a b)).ok)(oS:∀ a b,(H3s (S a b)).ok)(hA:Is2 m 74 sh6 sh6 fun a b=>H3s (A a b))(hS:Is2 m 75 sh6 sh6 fun a b=>H3s (S a b))(hM:Is2 m 76 sh6 sh6 fun a b=>H3s (M a b))(hH:Is1 m 77 sh6 fun a=>H3s (H a)):Is2 m 49 sh12 sh12 fun a b=>L12s (mt A S M H a b):=fun _ _ _ hf=>cT2_ok hf (fun _ _=>by kernel_rfl) (fun a b _ _=>⟨L12_ok (oA _ _) (oS _ _),rfl⟩) fun F a b oa ob w hF =>
 calls_at (E1_ok (more:=[cHalves,cWhole,cT2 true m 74 sh6 sh6 fun a b=>H3s (A a b),cT2 true m 75 sh6 sh6 fun a b=>H3s (S a b),cT2 true m 76 sh6 sh6 fun a b=>H3s (M a b),cT1 true m 77 sh6 fun a=>H3s (H a)]) ⟨halves_is _ _ _,whole_is _ _ _,hA _ _ _ (FOk.of hF),hS _ _ _ (FOk.of hF),hM _ _ _ (FOk.of hF),hH _ _ _ (FOk.of hF),trivial⟩) (by kernel_rfl) (fun _=>0) Tryz.func49 (by kernel_rfl) [sG,L12s a,L12s b] ⟨⟨⟨trivial,trivial⟩,rfl⟩,⟨oa,rfl⟩,⟨ob,rfl⟩,trivial⟩ (by kernel_rfl) (by kernel_rfl) (.leaf (L12s (mt A S M H a b))) (by kernel_rfl) rfl
end
section
variable {m:Nat} {A:N2->N2->N2}
theorem add12_is(o:∀ a b,(F2s (A a b)).ok)(hA:Is2 m 40 sh2 sh2 fun a b=>F2s (A a b)):Is2 m 48 sh12 sh12 fun a b=>L12s (ah A a.1 b.1,ah A a.2 b.2):=fun _ _ _ hf=>cT2_ok hf (fun _ _=>by kernel_rfl) (fun a b _ _=>⟨L12_ok (ah_ok o _ _) (ah_ok o _ _),rfl⟩) fun F a b oa ob w hF =>
 calls_at (E1_ok (more:=[cT2 true m 40 sh2 sh2 fun a b=>F2s (A a b)]) ⟨hA _ _ _ (FOk.of hF),trivial⟩) (by kernel_rfl) (fun _=>7) Tryz.func48 (by kernel_rfl) [sG,L12s a,L12s b] ⟨⟨⟨trivial,trivial⟩,rfl⟩,⟨oa,rfl⟩,⟨ob,rfl⟩,trivial⟩ (by kernel_rfl) (by kernel_rfl) (.leaf (L12s (ah A a.1 b.1,ah A a.2 b.2))) (by kernel_rfl) rfl
end
/-! The letters named. -/
section
variable {m:Nat} (hp:Pr m) (hm:m<2^256)
include hm
theorem addHalf_at:Is2 m 74 sh6 sh6 fun a b=>H3s (a6 hp a b):=addHalf_is (fun _ _=>F2v_ok hm _) (add2_is hp)
theorem subHalf_at:Is2 m 75 sh6 sh6 fun a b=>H3s (s6 hp a b):=subHalf_is (fun _ _=>F2v_ok hm _) (sub2_is hp)
theorem shifted_at:Is1 m 77 sh6 fun a=>H3s (shh (l2 hp) a):=shifted_is (fun _=>F2v_ok hm _) (lifted_is hp)
theorem mulHalf_at:Is2 m 76 sh6 sh6 fun a b=>H3s (m6 hp a b):=by
 have h:=mulHalf_is (A:=a2 hp) (S:=s2 hp) (M:=m2 hp) (L:=l2 hp) (fun _ _=>F2v_ok hm _) (fun _ _=>F2v_ok hm _) (add2_is hp) (sub2_is hp) (mul2_is hp) (lifted_is hp);simp only[m6_eq]at h;exact h
theorem mul12_at:Is2 m 49 sh12 sh12 fun a b=>L12s (m12 hp a b):=by
 have h:=mul12_is (A:=a6 hp) (S:=s6 hp) (M:=m6 hp) (H:=shh (l2 hp)) (fun _ _=>H3v_ok hm _) (fun _ _=>H3v_ok hm _) (addHalf_at hp hm) (subHalf_at hp hm) (mulHalf_at hp hm) (shifted_at hp hm);simp only[m12_eq]at h;exact h
theorem add12_at:Is2 m 48 sh12 sh12 fun a b=>L12s (a12 hp a b):=add12_is (fun _ _=>F2v_ok hm _) (add2_is hp)
end
end Sy
open Go.RowKit
-- WHAT Base COMES TO.
theorem f_Base(w:World):Calls Tryz.prog 60 #[] w fun e w'=>∃ F,e=.returned (.pointer (some ⟨F,0,none⟩))/\FldAt w' F 21888242871839275222246405745257275088696311157297823662689037894645226208583/\w.heap.size<=F/\Below w.heap.size w w':=by
 have HMO:=Lib.hid (fun wx=>modulo_any 21888242871839275222246405745257275088696311157297823662689037894645226208583 (by omega) (by omega) (by omega) wx);rw[show pw 21888242871839275222246405745257275088696311157297823662689037894645226208583=#[.int .u64 4332616871279656263,.int .u64 10917124144477883021,.int .u64 13281191951274694749,.int .u64 3486998266802970665] from by kernel_rfl]at HMO;go_enter Tryz.func60,Tryz.ntmps60
 go_wp2_with fail
 refine(HMO.out _).mono ?_;rintro e w5 ⟨F,rfl,hF,hs,hb⟩;have HF:=Lib.hid (And.intro hF (And.intro hs hb));clear hF hs hb HMO
 go_wp2_with fail
 go_ret;exact⟨F,rfl,HF.out.1,HF.out.2⟩
open Go.RowKit
theorem fields_any(w:World):Calls Tryz.prog 36 #[] w fun e w'=>∃ F,e=.returned (.agg #[.pointer (some ⟨F,0,none⟩)])/\FldAt w' F 21888242871839275222246405745257275088696311157297823662689037894645226208583/\w.heap.size<=F/\Below w.heap.size w w':=by
 have HCR:=Lib.hid (fun wx=>f_Base wx);go_enter Tryz.func36,Tryz.ntmps36
 go_wp2_with fail
 refine(HCR.out _).mono ?_;rintro e w5 ⟨F,rfl,hF,hs,hb⟩;have HF:=Lib.hid hF;have HS:=Lib.hid hs;have HB:=Lib.hid hb;have hr:=(HB.out.block w.heap.size (by simp)).trans (heap_alloc_new w _);have HR:=Lib.hid hr;clear hF hs hb hr HCR
 go_wp2_with (refine wpList_store_row rfl 60 _ _ rfl w.heap.size #[.pointer (some ⟨F,0,none⟩)] rfl rfl 60 _ (by exact HR.out) (by kernel_rfl) (by rfl) (by kernel_rfl) ?_)
 (try simp only[Act.put])
 refine bodyPost_ret (v:=.agg #[.pointer (some ⟨F,0,none⟩)]) (results_cell_row (p:=0) rfl _ _ w.heap.size 60 #[.pointer (some ⟨F,0,none⟩)] (0,0) _ rfl (setRow_heap _ _ _ _ _ _ HR.out) Tryz.underlying60 rfl (by kernel_rfl)) rfl ⟨F,rfl,?_,?_,?_⟩
 ·have h:=HS.out
  simp at h;exact fld_row HF.out (by omega)
 ·have h:=HS.out
  simp at h;omega
 ·exact below_setRow (((Below.refl _ _).alloc (Nat.le_refl _) _).trans (HB.out.mono (by simp))) (Nat.le_refl _) _
namespace Sy
abbrev pB:Nat:=21888242871839275222246405745257275088696311157297823662689037894645226208583
theorem prB:Pr pB:=prm_21888242871839275222246405745257275088696311157297823662689037894645226208583
theorem ltB:pB<2^256:=by decide
theorem fB(w:World):FOk false pB o0 w:=⟨by decide,by decide,ltB,fun h=>by cases h⟩
def cFields:Con:=⟨36,fun n _ l=>match l with
 | []=>some (.ap (.p n 0 0 0) .e,[],[(n,sFld pB,102)])
 | _=>none⟩
theorem cFields_ok{γ0:Pl}{w0:World}:ConOk Tryz.prog 1 γ0 w0 cFields:=⟨fun _ _=>by kernel_rfl,fun n M l r p R hr hp hn hok _=>by
 simp only[cFields]at hr
 split at hr
 ·cases hr
  refine⟨⟨trivial,trivial⟩,by show(decide (n<n+1)&&true)=true;simp,fun q hq=>?_,fun γ hγ wx hw hL=>?_⟩
  ·simp only[List.mem_cons,List.not_mem_nil,or_false]at hq
   subst hq;exact⟨⟨trivial,trivial,trivial,trivial,trivial,trivial,trivial,trivial,trivial,trivial⟩,rfl,Nat.le_refl _,Nat.lt_succ_self _⟩
  ·refine(fields_any wx).mono fun e w' ⟨F,h1,h2,h3,h4⟩=>?_
   obtain⟨δ,hδ⟩:∃ δ:Pl,∀ k,δ k=if k=n then F else γ k:=⟨_,fun _=>rfl⟩
   refine⟨⟨δ,fun k hk=>by rw[hδ,if_neg (by omega)],?_,fun q hq=>?_,List.pairwise_singleton _ _⟩,h4⟩
   ·rw[h1]
    show _=Ending.returned (.agg #[.pointer (some ⟨δ n,0+0*0,none⟩)]);rw[hδ,if_pos rfl]
   ·simp only[List.mem_cons,List.not_mem_nil,or_false]at hq
    subst hq;refine⟨by rw[hδ,if_pos rfl];exact h3,?_⟩;show w'.heap[δ n]?=_;rw[hδ,if_pos rfl];exact h2.row
 ·cases hr⟩
section
variable {A M:N2->N2->N2} {A12 M12:N12->N12->N12}
theorem Add2_is(o:∀ a b,(F2s (A a b)).ok)(hA:Is2 pB 40 sh2 sh2 fun a b=>F2s (A a b)):Is00 11 sh2 sh2 fun a b=>F2s (A a b):=fun _ _ _=>cV2_ok (fun _ _=>by kernel_rfl) (fun a b _ _=>⟨o a b,rfl⟩) fun a b oa ob w =>
 calls_at (E1_ok (γ0:=o0) (more:=[cFields,cT2 false pB 40 sh2 sh2 fun a b=>F2s (A a b)]) ⟨cFields_ok,hA _ _ _ (fB w),trivial⟩) (by kernel_rfl) (fun _=>0) Tryz.func11 (by kernel_rfl) [F2s a,F2s b] ⟨⟨oa,rfl⟩,⟨ob,rfl⟩,trivial⟩ (by kernel_rfl) (by kernel_rfl) (.leaf (F2s (A a b))) (by kernel_rfl) rfl
theorem Mul2_is(o:∀ a b,(F2s (M a b)).ok)(hM:Is2 pB 44 sh2 sh2 fun a b=>F2s (M a b)):Is00 15 sh2 sh2 fun a b=>F2s (M a b):=fun _ _ _=>cV2_ok (fun _ _=>by kernel_rfl) (fun a b _ _=>⟨o a b,rfl⟩) fun a b oa ob w =>
 calls_at (E1_ok (γ0:=o0) (more:=[cFields,cT2 false pB 44 sh2 sh2 fun a b=>F2s (M a b)]) ⟨cFields_ok,hM _ _ _ (fB w),trivial⟩) (by kernel_rfl) (fun _=>0) Tryz.func15 (by kernel_rfl) [F2s a,F2s b] ⟨⟨oa,rfl⟩,⟨ob,rfl⟩,trivial⟩ (by kernel_rfl) (by kernel_rfl) (.leaf (F2s (M a b))) (by kernel_rfl) rfl
theorem Add12_is(o:∀ a b,(L12s (A12 a b)).ok)(hA:Is2 pB 48 sh12 sh12 fun a b=>L12s (A12 a b)):Is00 22 sh12 sh12 fun a b=>L12s (A12 a b):=fun _ _ _=>cV2_ok (fun _ _=>by kernel_rfl) (fun a b _ _=>⟨o a b,rfl⟩) fun a b oa ob w =>
 calls_at (E1_ok (γ0:=o0) (more:=[cFields,cT2 false pB 48 sh12 sh12 fun a b=>L12s (A12 a b)]) ⟨cFields_ok,hA _ _ _ (fB w),trivial⟩) (by kernel_rfl) (fun _=>0) Tryz.func22 (by kernel_rfl) [L12s a,L12s b] ⟨⟨oa,rfl⟩,⟨ob,rfl⟩,trivial⟩ (by kernel_rfl) (by kernel_rfl) (.leaf (L12s (A12 a b))) (by kernel_rfl) rfl
theorem Mul12_is(o:∀ a b,(L12s (M12 a b)).ok)(hM:Is2 pB 49 sh12 sh12 fun a b=>L12s (M12 a b)):Is00 24 sh12 sh12 fun a b=>L12s (M12 a b):=fun _ _ _=>cV2_ok (fun _ _=>by kernel_rfl) (fun a b _ _=>⟨o a b,rfl⟩) fun a b oa ob w =>
 calls_at (E1_ok (γ0:=o0) (more:=[cFields,cT2 false pB 49 sh12 sh12 fun a b=>L12s (M12 a b)]) ⟨cFields_ok,hM _ _ _ (fB w),trivial⟩) (by kernel_rfl) (fun _=>0) Tryz.func24 (by kernel_rfl) [L12s a,L12s b] ⟨⟨oa,rfl⟩,⟨ob,rfl⟩,trivial⟩ (by kernel_rfl) (by kernel_rfl) (.leaf (L12s (M12 a b))) (by kernel_rfl) rfl
end
def one12:N12:=(((1,0),z2,z2),z6)
theorem one12_ok:(L12s one12).ok:=⟨⟨(show 1<2^256 by decide),w0_ok,trivial⟩,F2z_ok,F2z_ok,F2z_ok,F2z_ok,F2z_ok,trivial⟩
def cOne:Con:=conV 46 fun l=>match l with
 | []=>some (L12s one12,[])
 | _=>none
def cOneR:Con:=conV 27 fun l=>match l with
 | []=>some (L12s one12,[])
 | _=>none
theorem cOne_ok{base:Nat}{γ0:Pl}{w0:World}:ConOk Tryz.prog base γ0 w0 cOne:=conV_ok (fun _ _=>by kernel_rfl) fun us r q h hq hok=>by
 split at h
 ·cases h
  exact⟨one12_ok,rfl,fun γ w=>calls_at (E1_ok (γ0:=γ) (more:=[cOf]) ⟨cOf_ok,trivial⟩) (by kernel_rfl) (fun _=>0) Tryz.func46 (by kernel_rfl) [] trivial (by kernel_rfl) (by kernel_rfl) (.leaf (L12s one12)) (by kernel_rfl) rfl⟩
 ·cases h
theorem cOneR_ok{base:Nat}{γ0:Pl}{w0:World}:ConOk Tryz.prog base γ0 w0 cOneR:=conV_ok (fun _ _=>by kernel_rfl) fun us r q h hq hok=>by
 split at h
 ·cases h
  exact⟨one12_ok,rfl,fun γ w=>calls_at (E1_ok (γ0:=γ) (more:=[]) trivial) (by kernel_rfl) (fun _=>0) Tryz.func27 (by kernel_rfl) [] trivial (by kernel_rfl) (by kernel_rfl) (.leaf (L12s one12)) (by kernel_rfl) rfl⟩
 ·cases h
/-! Named: of the pairing's prime. -/
def A2:N2->N2->N2:=a2 prB
def M2:N2->N2->N2:=m2 prB
def A12:N12->N12->N12:=a12 prB
def M12:N12->N12->N12:=m12 prB
theorem Add2_at:Is00 11 sh2 sh2 fun a b=>F2s (A2 a b):=Add2_is (fun _ _=>F2v_ok ltB _) (add2_is prB)
theorem Mul2_at:Is00 15 sh2 sh2 fun a b=>F2s (M2 a b):=Mul2_is (fun _ _=>F2v_ok ltB _) (mul2_is prB)
theorem Add12_at:Is00 22 sh12 sh12 fun a b=>L12s (A12 a b):=Add12_is (fun _ _=>L12v_ok ltB _) (add12_at prB ltB)
theorem Mul12_at:Is00 24 sh12 sh12 fun a b=>L12s (M12 a b):=Mul12_is (fun _ _=>L12v_ok ltB _) (mul12_at prB ltB)
end Sy
def cyN(a b k:Nat):Nat:=(a%2^(64*k)+b%2^(64*k)) / 2^(64*k)
def bwN(a b k:Nat):Nat:=if a%2^(64*k)<b%2^(64*k)then 1 else 0
theorem cy_step(a b k:Nat)(ha:a<2^256)(hb:b<2^256)(hk:k<4):pN a k+pN b k+cyN a b k=pN (a+b) k+18446744073709551616*cyN a b (k+1)/\cyN a b k<=1/\cyN a b (k+1)<=1:=by
 unfold pN cyN;have:k=0\/k=1\/k=2\/k=3:=by omega
 rcases this with rfl | rfl | rfl | rfl <;> simp only[Nat.reduceMul,Nat.reduceAdd,Nat.reducePow] <;> omega
theorem bw_step(a b k:Nat)(ha:a<2^256)(hb:b<2^256)(hk:k<4):pN a k+18446744073709551616*bwN a b (k+1)=pN b k+bwN a b k+pN (a+2^256 - b) k/\bwN a b k<=1/\bwN a b (k+1)<=1:=by
 unfold pN bwN;have:k=0\/k=1\/k=2\/k=3:=by omega
 rcases this with rfl | rfl | rfl | rfl <;> simp only[Nat.reduceMul,Nat.reduceAdd,Nat.reducePow] <;> split <;> split <;> omega
theorem cy_end(a b:Nat)(ha:a<2^256)(hb:b<2^256):cyN a b 4=if (2^256)<=a+b then 1 else 0:=by
 unfold cyN;simp only[Nat.reduceMul,Nat.reducePow]
 split <;> omega
theorem cy_zero(a b:Nat):cyN a b 0=0:=by unfold cyN;simp[Nat.mod_one]
theorem bw_zero(a b:Nat):bwN a b 0=0:=by unfold bwN;simp[Nat.mod_one]
def mixN(x y k j:Nat):Nat:=if j<k then pN x j else pN y j
theorem mix_next(x y k j:Nat):mixN x y (k+1) j=if j=k then pN x k else mixN x y k j:=by
 unfold mixN;by_cases e:j=k
 ·subst e;rw[if_pos (by omega),if_pos rfl]
 ·rw[if_neg e]
  by_cases h:j<k
  ·rw[if_pos (by omega),if_pos h]
  ·rw[if_neg (by omega),if_neg h]
theorem top_step(a k:Nat)(ha:a<2^256)(hk:k<4):a / 2^(64*k)=a / 2^(64*(k+1))*18446744073709551616+pN a k:=by
 unfold pN;have:k=0\/k=1\/k=2\/k=3:=by omega
 rcases this with rfl | rfl | rfl | rfl <;> simp only[Nat.reduceMul,Nat.reduceAdd,Nat.reducePow] <;> omega
theorem div_lt_of{a b P:Nat}(h:a / P<b / P):a<b:=Nat.lt_of_not_le fun hle=>Nat.not_lt.2 (Nat.div_le_div_right hle) h
def qN(x j:Nat):Nat:=x%115792089237316195423570985008687907853269984665640564039457584007913129639936 / 2^(32*j)%4294967296
theorem qN_lt(x j:Nat):qN x j<4294967296:=Nat.mod_lt _ (by omega)
theorem qn_of(x k p s:Nat)(hp:k / 2=p)(hs:32*(k%2)=s):pN x p / 2^s%4294967296=qN x k:=by
 subst hp hs;unfold pN qN;have e:18446744073709551616=2^(32*(k%2))*2^(64 - 32*(k%2)):=by rw[<- Nat.pow_add,show 32*(k%2)+(64 - 32*(k%2))=64 by omega]
 have e2:(4294967296:Nat)=2^32:=by rfl
 rw[e,Nat.mod_mul_right_div_self,e2,Nat.mod_mod_of_dvd _ (Nat.pow_dvd_pow 2 (by omega)),Nat.div_div_eq_div_mul,<- Nat.pow_add,show 64*(k / 2)+32*(k%2)=32*k by omega]
theorem odd_part:∀ n:Nat,0<n->∃ v r,n=2^v*(2*r+1):=by
 intro n
 induction n using Nat.strongRecOn with
 | ind n ih =>
  intro h;by_cases ho:n%2=1
  ·exact⟨0,n / 2,by rw[Nat.pow_zero,Nat.one_mul];omega⟩
  ·obtain⟨v,r,e⟩:=ih (n / 2) (by omega) (by omega)
   exact⟨v+1,r,by rw[Nat.pow_succ,Nat.mul_comm (2^v) 2,Nat.mul_assoc,<- e];omega⟩
theorem and_compl(r n:Nat)(h:r<2^n):r &&& (2^n - (r+1))=0:=by
 apply Nat.eq_of_testBit_eq;intro i;rw[Nat.testBit_and,Nat.testBit_two_pow_sub_succ h,Nat.zero_testBit];cases Nat.testBit r i <;> simp
theorem and_odd(r s:Nat)(h:r &&& s=0):(2*r+1) &&& (2*s+1)=1:=by
 apply Nat.eq_of_testBit_eq;intro i;cases i with
 | zero=>rw[Nat.testBit_and];simp[Nat.testBit_zero]
 | succ i =>
  have e:Nat.testBit (r &&& s) i=false:=by rw[h,Nat.zero_testBit]
  rw[Nat.testBit_and]at e;rw[Nat.testBit_and,Nat.testBit_succ,Nat.testBit_succ,Nat.testBit_succ,show(2*r+1) / 2=r by omega,show(2*s+1) / 2=s by omega,e];simp
theorem low_bit(L:Nat)(h0:0<L)(hl:L<4294967296):∃ v r,L=2^v*(2*r+1)/\v<32/\L &&& (18446744073709551616 - L)=2^v:=by
 obtain⟨v,r,e⟩:=odd_part L h0;have hv:v<32:=by
  apply Classical.byContradiction;intro hn;have:2^32<=2^v:=Nat.pow_le_pow_right (by omega) (by omega);have h2:2^v*1<=2^v*(2*r+1):=Nat.mul_le_mul_left _ (by omega);omega
 refine⟨v,r,e,hv,?_⟩;have hr:r<2^(63 - v):=by
  apply Classical.byContradiction;intro hn;have h2:2^v*2^(63 - v)<=2^v*r:=Nat.mul_le_mul_left _ (by omega);have h3:2^v*r<=2^v*(2*r+1):=Nat.mul_le_mul_left _ (by omega);rw[<- Nat.pow_add,show v+(63 - v)=63 by omega]at h2;omega
 have e2:18446744073709551616 - L=2^v*(2*(2^(63 - v) - (r+1))+1):=by
  have e3:2^v*(2*2^(63 - v))=18446744073709551616:=by
   rw[show 2*2^(63 - v)=2^(64 - v) by rw[<- Nat.pow_succ',Nat.succ_eq_add_one,show 63 - v+1=64 - v by omega],<- Nat.pow_add,show v+(64 - v)=64 by omega]
  rw[<- e3,e,<- Nat.mul_sub];congr 1;omega
 rw[e2,e,Nat.mul_comm (2^v),Nat.mul_comm (2^v),<- Nat.shiftLeft_eq,<- Nat.shiftLeft_eq,<- Nat.shiftLeft_and_distrib,and_odd _ _ (and_compl _ _ hr),Nat.shiftLeft_eq,Nat.one_mul]
def LowI(m lo:Nat):Prop:=∃ t,t<=32/\lo<2^t/\2^t∣lo*m+1
theorem LowI.lt{m lo:Nat}(h:LowI m lo):lo<4294967296:=by
 obtain⟨t,h1,h2,-⟩:=h;have:2^t<=2^32:=Nat.pow_le_pow_right (by omega) h1;omega
theorem LowI.start{m:Nat}(h:m%2=1):LowI m 1:=⟨1,by omega,by omega,by rw[Nat.dvd_iff_mod_eq_zero];omega⟩
theorem LowI.step{m lo c L:Nat}(h:LowI m lo)(ho:m%2=1)(hc:lo*m%4294967296=c)(hn:c≠4294967295)(hL:4294967295 - c=L):∃ b,L &&& (18446744073709551616 - L)=b/\0<b/\lo+b<4294967296/\LowI m (lo+b):=by
 have hcl:c<4294967296:=by rw[<- hc];exact Nat.mod_lt _ (by omega)
 obtain⟨v,r,e,hv,hb⟩:=low_bit L (by omega) (by omega);obtain⟨t,h1,h2,h3⟩:=h;have hpv:0<2^v:=Nat.pow_pos (by omega)
 -- lo*m+1 and L are together a multiple of 2^32
 obtain⟨z,hz⟩:∃ z,lo*m+1+L=4294967296*z:=⟨lo*m / 4294967296+1,by have:=Nat.div_add_mod (lo*m) 4294967296;omega⟩
 have htL:2^t∣L:=by
  have hd:2^t∣lo*m+1+L:=by
   rw[hz];exact Nat.dvd_trans (show 2^t∣4294967296 from(show(2:Nat)^t∣2^32 from Nat.pow_dvd_pow 2 h1)) (Nat.dvd_mul_right _ _)
  exact(Nat.dvd_add_iff_right h3).2 hd
 have htv:t<=v:=by
  apply Classical.byContradiction;intro hn;have h4:2^(v+1)∣2^v*(2*r+1):=by rw[<- e];exact Nat.dvd_trans (Nat.pow_dvd_pow 2 (by omega)) htL
  rw[Nat.pow_succ]at h4;have:=Nat.dvd_of_mul_dvd_mul_left hpv h4;omega
 have hlo:lo<2^v:=Nat.lt_of_lt_of_le h2 (Nat.pow_le_pow_right (by omega) htv);have hv1:2^(v+1)=2^v*2:=Nat.pow_succ _ _;have hv2:2^(v+1)<=2^32:=Nat.pow_le_pow_right (by omega) (by omega);refine⟨2^v,hb,hpv,by omega,v+1,by omega,by omega,?_⟩;have h5:2^(v+1)∣4294967296:=(show(2:Nat)^(v+1)∣2^32 from Nat.pow_dvd_pow 2 (by omega))
 have h6:(lo+2^v)*m+1+L=4294967296*z+2^v*m:=by rw[Nat.add_mul];omega
 have h7:2^v*m+2^(v+1)*r+2^v=L+2^v*m:=by rw[e,hv1];grind
 obtain⟨u,hu⟩:∃ u,m=2*u+1:=⟨m / 2,by omega⟩
 -- (lo+2^v) m+1=2^32 z+2^v (m - 2r - 1): told with no difference
 have h8:2^(v+1)∣(lo+2^v)*m+1+2^(v+1)*r:=by
  have e9:(lo+2^v)*m+1+2^(v+1)*r=4294967296*z+2^(v+1)*u:=by
   have:2^v*m=2^(v+1)*u+2^v:=by rw[hu,hv1];grind
   have e10:L=2^(v+1)*r+2^v:=by rw[e,hv1];grind
   omega
  rw[e9];exact Nat.dvd_add (Nat.dvd_trans h5 (Nat.dvd_mul_right _ _)) (Nat.dvd_mul_right _ _)
 exact(Nat.dvd_add_iff_left (Nat.dvd_mul_right _ _)).2 h8
theorem LowI.done{m lo:Nat}(hc:lo*m%4294967296=4294967295):(lo*m+1)%4294967296=0:=by omega
end Go.Proofs.YtpipdfgfoocifaaGreat
