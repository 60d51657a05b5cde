/- The law TowerTwelve, walked whole. (Cut to what is reached, written closely: TwTwo · TwM · TwJ · TwNu · TwNv · TwTw.) -/
import Derived.Test.YtpipdfgfoocifaaGreatT39
set_option linter.all false
set_option maxRecDepth 100000
set_option maxHeartbeats 8000000
namespace Go.Proofs.YtpipdfgfoocifaaGreat
open Go.RowKit
namespace Sy
section
variable {A S M RA RS RM:N2->N2->N2} {C RC RO:N2->N2} {I RI:N2->N2 × Bool}
def bad2(A S M RA RS RM:N2->N2->N2)(C RC:N2->N2)(I RI:N2->N2 × Bool)(a b x y:N2):Bool:=bif (bif (bif (bif (bif !(eqL (wl2 (A a b)) (wl2 (RA x y)))then true else !(eqL (wl2 (S a b)) (wl2 (RS x y))))then true else !(eqL (wl2 (M a b)) (wl2 (RM x y))))then true else !(eqL (wl2 (C a)) (wl2 (RC x))))then true else !(eqL (wl2 (I a).1) (wl2 (RI x).1)))then true else !(eqB (I a).2 (RI x).2)
def end2(M:N2->N2->N2)(I:N2->N2 × Bool)(a x:N2):Bool:=bif (bif eqB (I a).2 (!(eqL (wl2 x) (wl2 z2)))then (bif !(I a).2 then true else eqL (wl2 (M (I a).1 a)) (wl2 (1,0)))else false)then true else false
theorem ttwo_gen(hA:Is00 11 sh2 sh2 fun a b=>F2s (A a b))(hS:Is00 13 sh2 sh2 fun a b=>F2s (S a b))(hM:Is00 15 sh2 sh2 fun a b=>F2s (M a b))(hC:Is0 17 sh2 fun a=>F2s (C a))(hI:Is0 9 sh2 fun a=>.tu (F2s (I a).1) (.b (I a).2))
  (kA:Ih2 pB 12 sh2 sh2 fun a b=>F2s (RA a b)) (kS:Ih2 pB 14 sh2 sh2 fun a b=>F2s (RS a b)) (kM:Ih2 pB 16 sh2 sh2 fun a b=>F2s (RM a b)) (kC:Ih1 pB 18 sh2 fun a=>F2s (RC a)) (kO:Ih1 pB 8 sh2 fun a=>F2s (RO a)) (kI:Ih1 pB 10 sh2 fun a=>.tu (F2s (RI a).1) (.b (RI a).2))
  (a b:N2) (oa:(F2s a).ok) (ob:(F2s b).ok) (hb:bad2 A S M RA RS RM C RC I RI a b (RO a) (RO b)=false) (he:end2 M I a (RO a)=true) (w:World):Calls Tryz.prog 3 #[(F2s a).val o0,(F2s b).val o0] w fun e w'=>e=.returned (.bool true)/\Below w.heap.size w w':=by
 refine calls_at (E1_ok (γ0:=o0) (more:=[cTNew,cV2 11 sh2 sh2 fun a b=>F2s (A a b),cV2 13 sh2 sh2 fun a b=>F2s (S a b),cV2 15 sh2 sh2 fun a b=>F2s (M a b),cV1 17 sh2 fun a=>F2s (C a),cV1 9 sh2 fun a=>.tu (F2s (I a).1) (.b (I a).2),cH2 false pB loB 12 sh2 sh2 fun a b=>F2s (RA a b),cH2 false pB loB 14 sh2 sh2 fun a b=>F2s (RS a b),cH2 false pB loB 16 sh2 sh2 fun a b=>F2s (RM a b),cH1 false pB loB 18 sh2 fun a=>F2s (RC a),cH1 false pB loB 8 sh2 fun a=>F2s (RO a),cH1 false pB loB 10 sh2 fun a=>.tu (F2s (RI a).1) (.b (RI a).2),cLives])
  ⟨cTNew_ok,hA _ _ _,hS _ _ _,hM _ _ _,hC _ _ _,hI _ _ _,kA _ _ _ _ (rB w),kS _ _ _ _ (rB w),kM _ _ _ _ (rB w),kC _ _ _ _ (rB w),kO _ _ _ _ (rB w),kI _ _ _ _ (rB w),cLives_ok,trivial⟩) (by kernel_rfl) (fun _=>0) Tryz.func3 (by kernel_rfl) [F2s a,F2s b] ⟨⟨oa,rfl⟩,⟨ob,rfl⟩,trivial⟩ (by kernel_rfl) (by kernel_rfl)
  (.br (bad2 A S M RA RS RM C RC I RI a b (RO a) (RO b)) (.leaf (.v (.bool false))) (.leaf (.b (end2 M I a (RO a))))) (by kernel_rfl) ⟨fun h=>?_,fun h=>?_⟩
 ·rw[hb]at h
  cases h
 ·show Value.bool (end2 M I a (RO a))=_
  rw[he]
end
theorem bad2_no(a b:N2):bad2 A2 S2 M2 (ra2 pB) (rs2 pB) (rm2 pB) (pc2 pB) (rc2 pB) (pi2 pB) (ri2 pB (rc2 pB) (rm2 pB)) a b (ro2 pB a) (ro2 pB b)=false:=by
 have h1:A2 a b=ra2 pB (ro2 pB a) (ro2 pB b):=(ra2_v prB ltB _ _).symm;have h2:S2 a b=rs2 pB (ro2 pB a) (ro2 pB b):=(rs2_v prB ltB _ _).symm;have h3:M2 a b=rm2 pB (ro2 pB a) (ro2 pB b):=by
  rw[rm2_eq prB ltB,ro2_eq prB,ro2_eq prB];unfold M2 m2;rw[ph2_v,ph2_v]
 have h4:pc2 pB a=rc2 pB (ro2 pB a):=(pc2_eq prB a).trans (rc2_v prB ltB (ph2 prB a)).symm;have h5:=ri2_eq prB ltB a;unfold bad2;rw[h1,h2,h3,h4,h5,eqL_self,eqL_self,eqL_self,eqL_self,eqL_self,eqB_self];rfl
theorem end2_yes(a:N2):end2 M2 (pi2 pB) a (ro2 pB a)=true:=by
 have hz:eqL (wl2 (ro2 pB a)) (wl2 z2)=true↔ph2 prB a=(K2 prB).zero:=by
  rw[eqL_iff];constructor
  ·intro h
   have h1:v2 (ph2 prB a)=v2 (K2 prB).zero:=h;have h2:=congrArg (ph2 prB) h1;rwa [ph2_v,ph2_v]at h2
  ·intro h
   show v2 (ph2 prB a)=z2;rw[h];rfl
 have hf:=found2 prB (by decide) a;unfold end2;cases h:(pi2 pB a).2 with
 | false =>
  have h0:ph2 prB a=(K2 prB).zero:=Classical.byContradiction fun e=>by
   have:=hf.2 e;rw[h]at this;cases this
  rw[hz.2 h0];rfl
 | true =>
  have h0:eqL (wl2 (ro2 pB a)) (wl2 z2)=false:=by
   cases e:eqL (wl2 (ro2 pB a)) (wl2 z2)with
   | false=>rfl
   | true=>exact absurd (hz.1 e) (hf.1 h)
  have h1:M2 (pi2 pB a).1 a=(1,0):=inv2_mul prB h;rw[h0,h1,eqL_self];rfl
theorem ttwo_any(a b:N2)(oa:(F2s a).ok)(ob:(F2s b).ok)(w:World):Calls Tryz.prog 3 #[(F2s a).val o0,(F2s b).val o0] w fun e w'=>e=.returned (.bool true)/\Below w.heap.size w w' :=
 ttwo_gen Add2_at Sub2_at Mul2_at Conj2_at Inv2_at Tadd_at Tsub_at Tmul_at Tconj_at Tof2_at Tinv_at a b oa ob (bad2_no a b) (end2_yes a) w
end Sy
open Go.RowKit
namespace Sy
def el(a:N12):Nat->N2
 | 0=>a.1.1
 | 1=>a.2.1
 | 2=>a.1.2.1
 | 3=>a.2.2.1
 | 4=>a.1.2.2
 | _=>a.2.2.2
def mp6(O:N2->N2)(h:N6):N6:=(O h.1,O h.2.1,O h.2.2)
def S11s(s:Nat->N2):SV:=.ap (F2s (s 0)) (.ap (F2s (s 1)) (.ap (F2s (s 2)) (.ap (F2s (s 3)) (.ap (F2s (s 4)) (.ap (F2s (s 5)) (.ap (F2s (s 6)) (.ap (F2s (s 7)) (.ap (F2s (s 8)) (.ap (F2s (s 9)) (.ap (F2s (s 10)) .e))))))))))
def upd(A M:N2->N2->N2)(a b:N12)(i:Nat)(s:Nat->N2):Nat->N2:=fun k=>if i<=k/\k<=i+5 then A (s k) (M (el a i) (el b (k - i)))else s k
def sums(A M:N2->N2->N2)(a b:N12):Nat->Nat->N2
 | 0=>fun _=>z2
 | i+1=>if eqL (wl2 (el a i)) (wl2 z2)=true then sums A M a b i else upd A M a b i (sums A M a b i)
def fin12(A M:N2->N2->N2)(s:Nat->N2):N12:=((A (s 0) (M (s 6) (9,1)),A (s 2) (M (s 8) (9,1)),A (s 4) (M (s 10) (9,1))),(A (s 1) (M (s 7) (9,1)),A (s 3) (M (s 9) (9,1)),s 5))
def rmt(A M:N2->N2->N2)(a b:N12):N12:=fin12 A M (sums A M a b 6)
theorem upd_ok{A M:N2->N2->N2}(oA:∀ a b,(F2s (A a b)).ok)(a b:N12)(i:Nat){s:Nat->N2}(hs:∀ k,(F2s (s k)).ok)(k:Nat):(F2s (upd A M a b i s k)).ok:=by
 unfold upd
 split
 ·exact oA _ _
 ·exact hs k
theorem sums_ok{A M:N2->N2->N2}(oA:∀ a b,(F2s (A a b)).ok)(a b:N12):∀ i k,(F2s (sums A M a b i k)).ok
 | 0,_=>F2z_ok
 | i+1,k=>by
  unfold sums
  split
  ·exact sums_ok oA a b i k
  ·exact upd_ok oA a b i (sums_ok oA a b i) k
theorem fin_ok{A M:N2->N2->N2}(oA:∀ a b,(F2s (A a b)).ok){s:Nat->N2}(hs:∀ k,(F2s (s k)).ok):(L12s (fin12 A M s)).ok:=⟨oA _ _,oA _ _,oA _ _,oA _ _,oA _ _,hs _,trivial⟩
theorem Wkt.con{S:List (Nat × Option SV)}{t k:Nat}(h:lookX S t=some (.na k)):Wkt S t (.v (.int .i64 ((k:Nat):Int))):=⟨_,h,fun _=>rfl,fun _=>trivial⟩
section
variable {m:Nat} {A M:N2->N2->N2} {O:N2->N2}
theorem Tof12_is(hb:Big m)(oO:∀ a,(F2s (O a)).ok)(hO:Ih1 m 8 sh2 fun a=>F2s (O a)):Ih1 m 20 sh12 fun a=>L12s (mp6 O a.1,mp6 O a.2):=fun _ _ _ _ hf=>cH1_ok hf (fun _ _=>by kernel_rfl) (fun a _=>⟨⟨oO _,oO _,oO _,oO _,oO _,oO _,trivial⟩,rfl⟩) fun F a oa w hF =>
 calls_at (E1_ok (more:=[cH1 true m 0 8 sh2 fun a=>F2s (O a)]) ⟨hO _ _ _ _ (ROk.of hb hF),trivial⟩) (by kernel_rfl) (fun _=>7) Tryz.func20 (by kernel_rfl) [sG,L12s a] ⟨⟨⟨trivial,trivial⟩,rfl⟩,⟨oa,rfl⟩,trivial⟩ (by kernel_rfl) (by kernel_rfl) (.leaf (L12s (mp6 O a.1,mp6 O a.2))) (by kernel_rfl) rfl
theorem Tadd12_is(hb:Big m)(oA:∀ a b,(F2s (A a b)).ok)(hA:Ih2 m 12 sh2 sh2 fun a b=>F2s (A a b)):Ih2 m 23 sh12 sh12 fun a b=>L12s (ah A a.1 b.1,ah A a.2 b.2):=fun _ _ _ _ hf=>cH2_ok hf (fun _ _=>by kernel_rfl) (fun a b _ _=>⟨L12_ok (ah_ok oA _ _) (ah_ok oA _ _),rfl⟩) fun F a b oa ob w hF =>
 calls_at (E1_ok (more:=[cH2 true m 0 12 sh2 sh2 fun a b=>F2s (A a b)]) ⟨hA _ _ _ _ (ROk.of hb hF),trivial⟩) (by kernel_rfl) (fun _=>7) Tryz.func23 (by kernel_rfl) [sG,L12s a,L12s b] ⟨⟨⟨trivial,trivial⟩,rfl⟩,⟨oa,rfl⟩,⟨ob,rfl⟩,trivial⟩ (by kernel_rfl) (by kernel_rfl) (.leaf (L12s (ah A a.1 b.1,ah A a.2 b.2))) (by kernel_rfl) rfl
def moreM(m:Nat)(A M:N2->N2->N2):List Con:=[cH2 true m 0 12 sh2 sh2 fun a b=>F2s (A a b),cH2 true m 0 16 sh2 sh2 fun a b=>F2s (M a b)]
def hdM:Nat->Nat
 | 0=>0
 | _=>7
noncomputable def TM (m:Nat) (A M:N2->N2->N2) (a b:N12):Tr:=walk (E1 (moreM m A M)) hdM Tryz.f25 [sG,L12s a,L12s b]
def stM(a b:N12)(i:Nat)(s:Nat->N2):St:=⟨[(3,some (.p 1 0 0 0)),(4,some (.p 2 0 0 0)),(5,some (.p 3 0 0 0)),(6,some (.p 4 0 0 0)),(7,some (.p 5 0 0 0)),(8,some (.v (.int .i64 ((i:Nat):Int))))],[(5,S11s s,65),(4,L12s z12,38),(3,L12s b,38),(2,L12s a,38),(1,sG,29)],6⟩
structure RM (A M:N2->N2->N2) (a b:N12) where
 i:Nat
 s:Nat->N2
 le:i<=6
 is:s=sums A M a b i
 ok:∀ k,(F2s (s k)).ok
theorem sums_skip{a b:N12}{i:Nat}{s:Nat->N2}(h:s=sums A M a b i)(hz:eqL (wl2 (el a i)) (wl2 z2)=true):s=sums A M a b (i+1):=by
 unfold sums;rw[if_pos hz,h]
theorem sums_next{a b:N12}{i:Nat}{s:Nat->N2}(h:s=sums A M a b i)(hz:eqL (wl2 (el a i)) (wl2 z2)=false):upd A M a b i s=sums A M a b (i+1):=by
 unfold sums;rw[if_neg (by rw[hz];simp),h]
theorem Tmul12_is(hb:Big m)(oA:∀ a b,(F2s (A a b)).ok)(hA:Ih2 m 12 sh2 sh2 fun a b=>F2s (A a b))(hM:Ih2 m 16 sh2 sh2 fun a b=>F2s (M a b)):Ih2 m 25 sh12 sh12 fun a b=>L12s (rmt A M a b):=fun _ _ _ _ hf=>cH2_ok hf (fun _ _=>by kernel_rfl) (fun a b _ _=>⟨fin_ok oA (sums_ok oA a b 6),rfl⟩) fun F a b oa ob w hF=>by
 refine calls_at (E1_ok (more:=moreM m A M) ⟨hA _ _ _ _ (ROk.of hb hF),hM _ _ _ _ (ROk.of hb hF),trivial⟩) (by kernel_rfl) hdM Tryz.func25 (by kernel_rfl) [sG,L12s a,L12s b] ⟨⟨⟨trivial,trivial⟩,rfl⟩,⟨oa,rfl⟩,⟨ob,rfl⟩,trivial⟩ (by kernel_rfl) (by kernel_rfl) (.loop 0) (by kernel_rfl) ?_;refine loop_wp (T:=TM m A M a b) 0 (by kernel_rfl) (ι:=RM A M a b) (fun r=>stM a b r.i r.s) (fun r=>6 - r.i) ⟨0,fun _=>z2,Nat.zero_le _,rfl,fun _=>F2z_ok⟩ (Sub.ofW [5,4,3,2,1] (by kernel_rfl) ⟨.is (by kernel_rfl),.is (by kernel_rfl),.is (by kernel_rfl),.is (by kernel_rfl),.is (by kernel_rfl),.con (by kernel_rfl),trivial⟩ (by kernel_rfl)) fun⟨i,s,hi,hs,ho⟩=>?_;have h7:i=0\/i=1\/i=2\/i=3\/i=4\/i=5\/i=6:=by omega
 rcases h7 with rfl | rfl | rfl | rfl | rfl | rfl | rfl
 ·refine wp_of_shape (T:=(TM m A M a b).round (stM a b 0 s)) (by kernel_rfl) (L:=fun L=>(((TM m A M a b).round (stM a b 0 s)).on L).wp 1 _) ?_ fun _ h=>h
  rw[show((TM m A M a b).round (stM a b 0 s)).shape=.br (eqL (wl2 (el a 0)) (wl2 z2)) (.cut 0) (.cut 0) by kernel_rfl];exact⟨fun h=>next_wp 0 (by kernel_rfl) (st:=fun r:RM A M a b=>stM a b r.i r.s) ⟨1,s,by decide,sums_skip hs h,ho⟩ (show 6 - 1<6 - 0 by decide) (Sub.ofW [5,4,3,2,1] (by kernel_rfl) ⟨.is (by kernel_rfl),.is (by kernel_rfl),.is (by kernel_rfl),.is (by kernel_rfl),.is (by kernel_rfl),.con (by kernel_rfl),trivial⟩ (by kernel_rfl)),
   fun h=>next_wp 0 (by kernel_rfl) (st:=fun r:RM A M a b=>stM a b r.i r.s) ⟨1,upd A M a b 0 s,by decide,sums_next hs h,upd_ok oA a b 0 ho⟩ (show 6 - 1<6 - 0 by decide) (Sub.ofW [5,4,3,2,1] (by kernel_rfl) ⟨.is (by kernel_rfl),.is (by kernel_rfl),.is (by kernel_rfl),.is (by kernel_rfl),.is (by kernel_rfl),.con (by kernel_rfl),trivial⟩ (by kernel_rfl))⟩
 ·refine wp_of_shape (T:=(TM m A M a b).round (stM a b 1 s)) (by kernel_rfl) (L:=fun L=>(((TM m A M a b).round (stM a b 1 s)).on L).wp 1 _) ?_ fun _ h=>h
  rw[show((TM m A M a b).round (stM a b 1 s)).shape=.br (eqL (wl2 (el a 1)) (wl2 z2)) (.cut 0) (.cut 0) by kernel_rfl];exact⟨fun h=>next_wp 0 (by kernel_rfl) (st:=fun r:RM A M a b=>stM a b r.i r.s) ⟨2,s,by decide,sums_skip hs h,ho⟩ (show 6 - 2<6 - 1 by decide) (Sub.ofW [5,4,3,2,1] (by kernel_rfl) ⟨.is (by kernel_rfl),.is (by kernel_rfl),.is (by kernel_rfl),.is (by kernel_rfl),.is (by kernel_rfl),.con (by kernel_rfl),trivial⟩ (by kernel_rfl)),
   fun h=>next_wp 0 (by kernel_rfl) (st:=fun r:RM A M a b=>stM a b r.i r.s) ⟨2,upd A M a b 1 s,by decide,sums_next hs h,upd_ok oA a b 1 ho⟩ (show 6 - 2<6 - 1 by decide) (Sub.ofW [5,4,3,2,1] (by kernel_rfl) ⟨.is (by kernel_rfl),.is (by kernel_rfl),.is (by kernel_rfl),.is (by kernel_rfl),.is (by kernel_rfl),.con (by kernel_rfl),trivial⟩ (by kernel_rfl))⟩
 ·refine wp_of_shape (T:=(TM m A M a b).round (stM a b 2 s)) (by kernel_rfl) (L:=fun L=>(((TM m A M a b).round (stM a b 2 s)).on L).wp 1 _) ?_ fun _ h=>h
  rw[show((TM m A M a b).round (stM a b 2 s)).shape=.br (eqL (wl2 (el a 2)) (wl2 z2)) (.cut 0) (.cut 0) by kernel_rfl];exact⟨fun h=>next_wp 0 (by kernel_rfl) (st:=fun r:RM A M a b=>stM a b r.i r.s) ⟨3,s,by decide,sums_skip hs h,ho⟩ (show 6 - 3<6 - 2 by decide) (Sub.ofW [5,4,3,2,1] (by kernel_rfl) ⟨.is (by kernel_rfl),.is (by kernel_rfl),.is (by kernel_rfl),.is (by kernel_rfl),.is (by kernel_rfl),.con (by kernel_rfl),trivial⟩ (by kernel_rfl)),
   fun h=>next_wp 0 (by kernel_rfl) (st:=fun r:RM A M a b=>stM a b r.i r.s) ⟨3,upd A M a b 2 s,by decide,sums_next hs h,upd_ok oA a b 2 ho⟩ (show 6 - 3<6 - 2 by decide) (Sub.ofW [5,4,3,2,1] (by kernel_rfl) ⟨.is (by kernel_rfl),.is (by kernel_rfl),.is (by kernel_rfl),.is (by kernel_rfl),.is (by kernel_rfl),.con (by kernel_rfl),trivial⟩ (by kernel_rfl))⟩
 ·refine wp_of_shape (T:=(TM m A M a b).round (stM a b 3 s)) (by kernel_rfl) (L:=fun L=>(((TM m A M a b).round (stM a b 3 s)).on L).wp 1 _) ?_ fun _ h=>h
  rw[show((TM m A M a b).round (stM a b 3 s)).shape=.br (eqL (wl2 (el a 3)) (wl2 z2)) (.cut 0) (.cut 0) by kernel_rfl];exact⟨fun h=>next_wp 0 (by kernel_rfl) (st:=fun r:RM A M a b=>stM a b r.i r.s) ⟨4,s,by decide,sums_skip hs h,ho⟩ (show 6 - 4<6 - 3 by decide) (Sub.ofW [5,4,3,2,1] (by kernel_rfl) ⟨.is (by kernel_rfl),.is (by kernel_rfl),.is (by kernel_rfl),.is (by kernel_rfl),.is (by kernel_rfl),.con (by kernel_rfl),trivial⟩ (by kernel_rfl)),
   fun h=>next_wp 0 (by kernel_rfl) (st:=fun r:RM A M a b=>stM a b r.i r.s) ⟨4,upd A M a b 3 s,by decide,sums_next hs h,upd_ok oA a b 3 ho⟩ (show 6 - 4<6 - 3 by decide) (Sub.ofW [5,4,3,2,1] (by kernel_rfl) ⟨.is (by kernel_rfl),.is (by kernel_rfl),.is (by kernel_rfl),.is (by kernel_rfl),.is (by kernel_rfl),.con (by kernel_rfl),trivial⟩ (by kernel_rfl))⟩
 ·refine wp_of_shape (T:=(TM m A M a b).round (stM a b 4 s)) (by kernel_rfl) (L:=fun L=>(((TM m A M a b).round (stM a b 4 s)).on L).wp 1 _) ?_ fun _ h=>h
  rw[show((TM m A M a b).round (stM a b 4 s)).shape=.br (eqL (wl2 (el a 4)) (wl2 z2)) (.cut 0) (.cut 0) by kernel_rfl];exact⟨fun h=>next_wp 0 (by kernel_rfl) (st:=fun r:RM A M a b=>stM a b r.i r.s) ⟨5,s,by decide,sums_skip hs h,ho⟩ (show 6 - 5<6 - 4 by decide) (Sub.ofW [5,4,3,2,1] (by kernel_rfl) ⟨.is (by kernel_rfl),.is (by kernel_rfl),.is (by kernel_rfl),.is (by kernel_rfl),.is (by kernel_rfl),.con (by kernel_rfl),trivial⟩ (by kernel_rfl)),
   fun h=>next_wp 0 (by kernel_rfl) (st:=fun r:RM A M a b=>stM a b r.i r.s) ⟨5,upd A M a b 4 s,by decide,sums_next hs h,upd_ok oA a b 4 ho⟩ (show 6 - 5<6 - 4 by decide) (Sub.ofW [5,4,3,2,1] (by kernel_rfl) ⟨.is (by kernel_rfl),.is (by kernel_rfl),.is (by kernel_rfl),.is (by kernel_rfl),.is (by kernel_rfl),.con (by kernel_rfl),trivial⟩ (by kernel_rfl))⟩
 ·refine wp_of_shape (T:=(TM m A M a b).round (stM a b 5 s)) (by kernel_rfl) (L:=fun L=>(((TM m A M a b).round (stM a b 5 s)).on L).wp 1 _) ?_ fun _ h=>h
  rw[show((TM m A M a b).round (stM a b 5 s)).shape=.br (eqL (wl2 (el a 5)) (wl2 z2)) (.cut 0) (.cut 0) by kernel_rfl];exact⟨fun h=>next_wp 0 (by kernel_rfl) (st:=fun r:RM A M a b=>stM a b r.i r.s) ⟨6,s,by decide,sums_skip hs h,ho⟩ (show 6 - 6<6 - 5 by decide) (Sub.ofW [5,4,3,2,1] (by kernel_rfl) ⟨.is (by kernel_rfl),.is (by kernel_rfl),.is (by kernel_rfl),.is (by kernel_rfl),.is (by kernel_rfl),.con (by kernel_rfl),trivial⟩ (by kernel_rfl)),
   fun h=>next_wp 0 (by kernel_rfl) (st:=fun r:RM A M a b=>stM a b r.i r.s) ⟨6,upd A M a b 5 s,by decide,sums_next hs h,upd_ok oA a b 5 ho⟩ (show 6 - 6<6 - 5 by decide) (Sub.ofW [5,4,3,2,1] (by kernel_rfl) ⟨.is (by kernel_rfl),.is (by kernel_rfl),.is (by kernel_rfl),.is (by kernel_rfl),.is (by kernel_rfl),.con (by kernel_rfl),trivial⟩ (by kernel_rfl))⟩
 ·refine wp_of_shape (T:=(TM m A M a b).round (stM a b 6 s)) (by kernel_rfl) (L:=fun L=>(((TM m A M a b).round (stM a b 6 s)).on L).wp 1 _) ?_ fun _ h=>h
  rw[show((TM m A M a b).round (stM a b 6 s)).shape=.leaf (L12s (fin12 A M s)) by kernel_rfl];show(L12s (fin12 A M s)).val _=_;rw[hs];rfl
end
end Sy
open Go.RowKit
namespace Sy
section
variable {m:Nat} {S M:N2->N2->N2} {L:N2->N2} {I:N2->N2 × Bool} {H:N6->N6->N6}
def adj(S M:N2->N2->N2)(L:N2->N2)(a:N6):N6:=(S (M a.1 a.1) (L (M a.2.1 a.2.2)),S (L (M a.2.2 a.2.2)) (M a.1 a.2.1),S (M a.2.1 a.2.1) (M a.1 a.2.2))
def ivh(S M:N2->N2->N2)(L:N2->N2)(I:N2->N2 × Bool)(H:N6->N6->N6)(a:N6):N6 × Bool:=(H (adj S M L a) ((I (H a (adj S M L a)).1).1,z2,z2),(I (H a (adj S M L a)).1).2)
theorem invHalf_is(oH:∀ a b,(H3s (H a b)).ok)(hS:Is2 m 42 sh2 sh2 fun a b=>F2s (S a b))(hM:Is2 m 44 sh2 sh2 fun a b=>F2s (M a b))(hL:Is1 m 101 sh2 fun a=>F2s (L a))(hI:Is1 m 37 sh2 fun a=>.tu (F2s (I a).1) (.b (I a).2))(hH:Is2 m 76 sh6 sh6 fun a b=>H3s (H a b)):Is1 m 78 sh6 fun a=>.tu (H3s (ivh S M L I H a).1) (.b (ivh S M L I H a).2):=fun _ _ _ hf=>cT1_ok hf (fun _ _=>by kernel_rfl) (fun a _=>⟨⟨oH _ _,trivial⟩,rfl⟩) fun F a oa w hF =>
 calls_at (E1_ok (more:=[cT2 true m 42 sh2 sh2 fun a b=>F2s (S a b),cT2 true m 44 sh2 sh2 fun a b=>F2s (M a b),cT1 true m 101 sh2 fun a=>F2s (L a),cT1 true m 37 sh2 fun a=>.tu (F2s (I a).1) (.b (I a).2),cT2 true m 76 sh6 sh6 fun a b=>H3s (H a b)]) ⟨hS _ _ _ (FOk.of hF),hM _ _ _ (FOk.of hF),hL _ _ _ (FOk.of hF),hI _ _ _ (FOk.of hF),hH _ _ _ (FOk.of hF),trivial⟩) (by kernel_rfl) (fun _=>0) Tryz.func78 (by kernel_rfl) [sG,H3s a] ⟨⟨⟨trivial,trivial⟩,rfl⟩,⟨oa,rfl⟩,trivial⟩ (by kernel_rfl) (by kernel_rfl) (.leaf (.tu (H3s (ivh S M L I H a).1) (.b (ivh S M L I H a).2))) (by kernel_rfl) rfl
end
section
variable {m:Nat} {A S M:N6->N6->N6} {H:N6->N6} {J:N6->N6 × Bool}
def ivt(S M:N6->N6->N6)(H:N6->N6)(J:N6->N6 × Bool)(a:N12):N12 × Bool:=((M a.1 (J (S (M a.1 a.1) (H (M a.2 a.2)))).1,S z6 (M a.2 (J (S (M a.1 a.1) (H (M a.2 a.2)))).1)),(J (S (M a.1 a.1) (H (M a.2 a.2)))).2)
theorem inv12_is(oS:∀ a b,(H3s (S a b)).ok)(oM:∀ a b,(H3s (M a b)).ok)(hS:Is2 m 75 sh6 sh6 fun a b=>H3s (S a b))(hM:Is2 m 76 sh6 sh6 fun a b=>H3s (M a b))(hH:Is1 m 77 sh6 fun a=>H3s (H a))(hJ:Is1 m 78 sh6 fun a=>.tu (H3s (J a).1) (.b (J a).2)):Is1 m 50 sh12 fun a=>.tu (L12s (ivt S M H J a).1) (.b (ivt S M H J a).2):=fun _ _ _ hf=>cT1_ok hf (fun _ _=>by kernel_rfl) (fun a _=>⟨⟨L12_ok (oM _ _) (oS _ _),trivial⟩,rfl⟩) fun F a oa w hF =>
 calls_at (E1_ok (more:=[cHalves,cWhole,cT2 true m 75 sh6 sh6 fun a b=>H3s (S a b),cT2 true m 76 sh6 sh6 fun a b=>H3s (M a b),cT1 true m 77 sh6 fun a=>H3s (H a),cT1 true m 78 sh6 fun a=>.tu (H3s (J a).1) (.b (J a).2)]) ⟨halves_is _ _ _,whole_is _ _ _,hS _ _ _ (FOk.of hF),hM _ _ _ (FOk.of hF),hH _ _ _ (FOk.of hF),hJ _ _ _ (FOk.of hF),trivial⟩) (by kernel_rfl) (fun _=>0) Tryz.func50 (by kernel_rfl) [sG,L12s a] ⟨⟨⟨trivial,trivial⟩,rfl⟩,⟨oa,rfl⟩,trivial⟩ (by kernel_rfl) (by kernel_rfl) (.leaf (.tu (L12s (ivt S M H J a).1) (.b (ivt S M H J a).2))) (by kernel_rfl) rfl
def cjt(A S:N6->N6->N6)(a:N12):N12:=(A z6 a.1,S z6 a.2)
theorem conj12_is(oA:∀ a b,(H3s (A a b)).ok)(oS:∀ a b,(H3s (S a b)).ok)(hA:Is2 m 74 sh6 sh6 fun a b=>H3s (A a b))(hS:Is2 m 75 sh6 sh6 fun a b=>H3s (S a b)):Is1 m 47 sh12 fun a=>L12s (cjt A S a):=fun _ _ _ hf=>cT1_ok hf (fun _ _=>by kernel_rfl) (fun a _=>⟨L12_ok (oA _ _) (oS _ _),rfl⟩) fun F a oa w hF =>
 calls_at (E1_ok (more:=[cHalves,cWhole,cT2 true m 74 sh6 sh6 fun a b=>H3s (A a b),cT2 true m 75 sh6 sh6 fun a b=>H3s (S a b)]) ⟨halves_is _ _ _,whole_is _ _ _,hA _ _ _ (FOk.of hF),hS _ _ _ (FOk.of hF),trivial⟩) (by kernel_rfl) (fun _=>0) Tryz.func47 (by kernel_rfl) [sG,L12s a] ⟨⟨⟨trivial,trivial⟩,rfl⟩,⟨oa,rfl⟩,trivial⟩ (by kernel_rfl) (by kernel_rfl) (.leaf (L12s (cjt A S a))) (by kernel_rfl) rfl
end
section
variable {C:N12->N12} {I:N12->N12 × Bool}
theorem Conj12_is(o:∀ a,(L12s (C a)).ok)(hC:Is1 pB 47 sh12 fun a=>L12s (C a)):Is0 21 sh12 fun a=>L12s (C a):=fun _ _ _=>cV1_ok (fun _ _=>by kernel_rfl) (fun a _=>⟨o a,rfl⟩) fun a oa w =>
 calls_at (E1_ok (γ0:=o0) (more:=[cFields,cT1 false pB 47 sh12 fun a=>L12s (C a)]) ⟨cFields_ok,hC _ _ _ (fB w),trivial⟩) (by kernel_rfl) (fun _=>0) Tryz.func21 (by kernel_rfl) [L12s a] ⟨⟨oa,rfl⟩,trivial⟩ (by kernel_rfl) (by kernel_rfl) (.leaf (L12s (C a))) (by kernel_rfl) rfl
theorem Inv12_is(o:∀ a,(L12s (I a).1).ok)(hI:Is1 pB 50 sh12 fun a=>.tu (L12s (I a).1) (.b (I a).2)):Is0 26 sh12 fun a=>.tu (L12s (I a).1) (.b (I a).2):=fun _ _ _=>cV1_ok (fun _ _=>by kernel_rfl) (fun a _=>⟨⟨o a,trivial⟩,rfl⟩) fun a oa w =>
 calls_at (E1_ok (γ0:=o0) (more:=[cFields,cT1 false pB 50 sh12 fun a=>.tu (L12s (I a).1) (.b (I a).2)]) ⟨cFields_ok,hI _ _ _ (fB w),trivial⟩) (by kernel_rfl) (fun _=>0) Tryz.func26 (by kernel_rfl) [L12s a] ⟨⟨oa,rfl⟩,trivial⟩ (by kernel_rfl) (by kernel_rfl) (.leaf (.tu (L12s (I a).1) (.b (I a).2))) (by kernel_rfl) rfl
end
/-! Named. -/
def C12:N12->N12:=cjt (a6 prB) (s6 prB)
def J6:N6->N6 × Bool:=ivh (s2 prB) (m2 prB) (l2 prB) (pi2 pB) (m6 prB)
def I12:N12->N12 × Bool:=ivt (s6 prB) (m6 prB) (shh (l2 prB)) J6
theorem Conj12_at:Is0 21 sh12 fun a=>L12s (C12 a):=Conj12_is (fun _=>L12_ok (H3v_ok ltB _) (H3v_ok ltB _)) (conj12_is (fun _ _=>H3v_ok ltB _) (fun _ _=>H3v_ok ltB _) (addHalf_at prB ltB) (subHalf_at prB ltB))
theorem Inv12_at:Is0 26 sh12 fun a=>.tu (L12s (I12 a).1) (.b (I12 a).2):=Inv12_is (fun _=>L12_ok (H3v_ok ltB _) (H3v_ok ltB _)) (inv12_is (S:=s6 prB) (M:=m6 prB) (H:=shh (l2 prB)) (J:=J6) (fun _ _=>H3v_ok ltB _) (fun _ _=>H3v_ok ltB _) (subHalf_at prB ltB) (mulHalf_at prB ltB) (shifted_at prB ltB) (invHalf_is (S:=s2 prB) (M:=m2 prB) (L:=l2 prB) (I:=pi2 pB) (H:=m6 prB) (fun _ _=>H3v_ok ltB _) (sub2_is prB) (mul2_is prB) (lifted_is prB) inv2_is (mulHalf_at prB ltB)))
theorem Tof12_at:Ih1 pB 20 sh12 fun a=>L12s (mp6 (ro2 pB) a.1,mp6 (ro2 pB) a.2):=Tof12_is bB (fun _=>md_ok (by decide) ltB _ _) Tof2_at
theorem Tadd12_at:Ih2 pB 23 sh12 sh12 fun a b=>L12s (ah (ra2 pB) a.1 b.1,ah (ra2 pB) a.2 b.2):=Tadd12_is bB (ra2_ok pB) Tadd_at
theorem Tmul12_at:Ih2 pB 25 sh12 sh12 fun a b=>L12s (rmt (ra2 pB) (rm2 pB) a b):=Tmul12_is bB (ra2_ok pB) Tadd_at Tmul_at
end Sy
open Sy
/-! Identities in four letters. -/
theorem i_adj1{K:Type}(C:CRing K)(a b c x:K):(C.add (C.add (C.mul a (C.sub (C.mul x (C.mul c c)) (C.mul a b))) (C.mul b (C.sub (C.mul a a) (C.mul x (C.mul b c))))) (C.mul x (C.mul c (C.sub (C.mul b b) (C.mul a c)))))=C.zero:=ring4 C (lets a b c x) (.add (.add (.mul (.v 0) (.sub (.mul (.v 3) (.mul (.v 2) (.v 2))) (.mul (.v 0) (.v 1)))) (.mul (.v 1) (.sub (.mul (.v 0) (.v 0)) (.mul (.v 3) (.mul (.v 1) (.v 2)))))) (.mul (.v 3) (.mul (.v 2) (.sub (.mul (.v 1) (.v 1)) (.mul (.v 0) (.v 2)))))) (.k 0) (by decide +kernel)
theorem i_adj2{K:Type}(C:CRing K)(a b c x:K):(C.add (C.add (C.mul a (C.sub (C.mul b b) (C.mul a c))) (C.mul c (C.sub (C.mul a a) (C.mul x (C.mul b c))))) (C.mul b (C.sub (C.mul x (C.mul c c)) (C.mul a b))))=C.zero:=ring4 C (lets a b c x) (.add (.add (.mul (.v 0) (.sub (.mul (.v 1) (.v 1)) (.mul (.v 0) (.v 2)))) (.mul (.v 2) (.sub (.mul (.v 0) (.v 0)) (.mul (.v 3) (.mul (.v 1) (.v 2)))))) (.mul (.v 1) (.sub (.mul (.v 3) (.mul (.v 2) (.v 2))) (.mul (.v 0) (.v 1))))) (.k 0) (by decide +kernel)
theorem i_uw{K:Type}(C:CRing K)(a b c x:K):(C.add (C.mul (C.mul (C.sub (C.mul x (C.mul c c)) (C.mul a b)) (C.sub (C.mul x (C.mul c c)) (C.mul a b))) (C.sub (C.mul x (C.mul c c)) (C.mul a b))) (C.mul x (C.mul (C.mul (C.sub (C.mul a c) (C.mul b b)) (C.sub (C.mul a c) (C.mul b b))) (C.sub (C.mul a c) (C.mul b b)))))=(C.mul (C.add (C.mul a (C.sub (C.mul a a) (C.mul x (C.mul b c)))) (C.mul x (C.add (C.mul b (C.sub (C.mul b b) (C.mul a c))) (C.mul c (C.sub (C.mul x (C.mul c c)) (C.mul a b)))))) (C.sub (C.mul x (C.mul (C.mul c c) c)) (C.mul (C.mul b b) b))):=ring4 C (lets a b c x) (.add (.mul (.mul (.sub (.mul (.v 3) (.mul (.v 2) (.v 2))) (.mul (.v 0) (.v 1))) (.sub (.mul (.v 3) (.mul (.v 2) (.v 2))) (.mul (.v 0) (.v 1)))) (.sub (.mul (.v 3) (.mul (.v 2) (.v 2))) (.mul (.v 0) (.v 1)))) (.mul (.v 3) (.mul (.mul (.sub (.mul (.v 0) (.v 2)) (.mul (.v 1) (.v 1))) (.sub (.mul (.v 0) (.v 2)) (.mul (.v 1) (.v 1)))) (.sub (.mul (.v 0) (.v 2)) (.mul (.v 1) (.v 1)))))) (.mul (.add (.mul (.v 0) (.sub (.mul (.v 0) (.v 0)) (.mul (.v 3) (.mul (.v 1) (.v 2))))) (.mul (.v 3) (.add (.mul (.v 1) (.sub (.mul (.v 1) (.v 1)) (.mul (.v 0) (.v 2)))) (.mul (.v 2) (.sub (.mul (.v 3) (.mul (.v 2) (.v 2))) (.mul (.v 0) (.v 1))))))) (.sub (.mul (.v 3) (.mul (.mul (.v 2) (.v 2)) (.v 2))) (.mul (.mul (.v 1) (.v 1)) (.v 1)))) (by decide +kernel)
theorem i_sq{K:Type}(C:CRing K)(a b c x:K):(C.add (C.mul (C.add (C.mul a a) (C.mul x (C.add (C.mul b c) (C.mul c b)))) (C.sub (C.mul (C.add (C.mul a a) (C.mul x (C.add (C.mul b c) (C.mul c b)))) (C.add (C.mul a a) (C.mul x (C.add (C.mul b c) (C.mul c b))))) (C.mul x (C.mul (C.add (C.add (C.mul a b) (C.mul b a)) (C.mul x (C.mul c c))) (C.add (C.add (C.mul a c) (C.mul c a)) (C.mul b b)))))) (C.mul x (C.add (C.mul (C.add (C.add (C.mul a b) (C.mul b a)) (C.mul x (C.mul c c))) (C.sub (C.mul (C.add (C.add (C.mul a b) (C.mul b a)) (C.mul x (C.mul c c))) (C.add (C.add (C.mul a b) (C.mul b a)) (C.mul x (C.mul c c)))) (C.mul (C.add (C.mul a a) (C.mul x (C.add (C.mul b c) (C.mul c b)))) (C.add (C.add (C.mul a c) (C.mul c a)) (C.mul b b))))) (C.mul (C.add (C.add (C.mul a c) (C.mul c a)) (C.mul b b)) (C.sub (C.mul x (C.mul (C.add (C.add (C.mul a c) (C.mul c a)) (C.mul b b)) (C.add (C.add (C.mul a c) (C.mul c a)) (C.mul b b)))) (C.mul (C.add (C.mul a a) (C.mul x (C.add (C.mul b c) (C.mul c b)))) (C.add (C.add (C.mul a b) (C.mul b a)) (C.mul x (C.mul c c)))))))))=(C.mul (C.add (C.mul a (C.sub (C.mul a a) (C.mul x (C.mul b c)))) (C.mul x (C.add (C.mul b (C.sub (C.mul b b) (C.mul a c))) (C.mul c (C.sub (C.mul x (C.mul c c)) (C.mul a b)))))) (C.add (C.mul a (C.sub (C.mul a a) (C.mul x (C.mul b c)))) (C.mul x (C.add (C.mul b (C.sub (C.mul b b) (C.mul a c))) (C.mul c (C.sub (C.mul x (C.mul c c)) (C.mul a b))))))):=ring4 C (lets a b c x) (.add (.mul (.add (.mul (.v 0) (.v 0)) (.mul (.v 3) (.add (.mul (.v 1) (.v 2)) (.mul (.v 2) (.v 1))))) (.sub (.mul (.add (.mul (.v 0) (.v 0)) (.mul (.v 3) (.add (.mul (.v 1) (.v 2)) (.mul (.v 2) (.v 1))))) (.add (.mul (.v 0) (.v 0)) (.mul (.v 3) (.add (.mul (.v 1) (.v 2)) (.mul (.v 2) (.v 1)))))) (.mul (.v 3) (.mul (.add (.add (.mul (.v 0) (.v 1)) (.mul (.v 1) (.v 0))) (.mul (.v 3) (.mul (.v 2) (.v 2)))) (.add (.add (.mul (.v 0) (.v 2)) (.mul (.v 2) (.v 0))) (.mul (.v 1) (.v 1))))))) (.mul (.v 3) (.add (.mul (.add (.add (.mul (.v 0) (.v 1)) (.mul (.v 1) (.v 0))) (.mul (.v 3) (.mul (.v 2) (.v 2)))) (.sub (.mul (.add (.add (.mul (.v 0) (.v 1)) (.mul (.v 1) (.v 0))) (.mul (.v 3) (.mul (.v 2) (.v 2)))) (.add (.add (.mul (.v 0) (.v 1)) (.mul (.v 1) (.v 0))) (.mul (.v 3) (.mul (.v 2) (.v 2))))) (.mul (.add (.mul (.v 0) (.v 0)) (.mul (.v 3) (.add (.mul (.v 1) (.v 2)) (.mul (.v 2) (.v 1))))) (.add (.add (.mul (.v 0) (.v 2)) (.mul (.v 2) (.v 0))) (.mul (.v 1) (.v 1)))))) (.mul (.add (.add (.mul (.v 0) (.v 2)) (.mul (.v 2) (.v 0))) (.mul (.v 1) (.v 1))) (.sub (.mul (.v 3) (.mul (.add (.add (.mul (.v 0) (.v 2)) (.mul (.v 2) (.v 0))) (.mul (.v 1) (.v 1))) (.add (.add (.mul (.v 0) (.v 2)) (.mul (.v 2) (.v 0))) (.mul (.v 1) (.v 1))))) (.mul (.add (.mul (.v 0) (.v 0)) (.mul (.v 3) (.add (.mul (.v 1) (.v 2)) (.mul (.v 2) (.v 1))))) (.add (.add (.mul (.v 0) (.v 1)) (.mul (.v 1) (.v 0))) (.mul (.v 3) (.mul (.v 2) (.v 2)))))))))) (.mul (.add (.mul (.v 0) (.sub (.mul (.v 0) (.v 0)) (.mul (.v 3) (.mul (.v 1) (.v 2))))) (.mul (.v 3) (.add (.mul (.v 1) (.sub (.mul (.v 1) (.v 1)) (.mul (.v 0) (.v 2)))) (.mul (.v 2) (.sub (.mul (.v 3) (.mul (.v 2) (.v 2))) (.mul (.v 0) (.v 1))))))) (.add (.mul (.v 0) (.sub (.mul (.v 0) (.v 0)) (.mul (.v 3) (.mul (.v 1) (.v 2))))) (.mul (.v 3) (.add (.mul (.v 1) (.sub (.mul (.v 1) (.v 1)) (.mul (.v 0) (.v 2)))) (.mul (.v 2) (.sub (.mul (.v 3) (.mul (.v 2) (.v 2))) (.mul (.v 0) (.v 1)))))))) (by decide +kernel)
theorem i_nm{K:Type}(C:CRing K)(a b c d:K):(C.add (C.mul (C.sub (C.mul a c) (C.mul b d)) (C.sub (C.mul a c) (C.mul b d))) (C.mul (C.add (C.mul a d) (C.mul b c)) (C.add (C.mul a d) (C.mul b c))))=(C.mul (C.add (C.mul a a) (C.mul b b)) (C.add (C.mul c c) (C.mul d d))):=ring4 C (lets a b c d) (.add (.mul (.sub (.mul (.v 0) (.v 2)) (.mul (.v 1) (.v 3))) (.sub (.mul (.v 0) (.v 2)) (.mul (.v 1) (.v 3)))) (.mul (.add (.mul (.v 0) (.v 3)) (.mul (.v 1) (.v 2))) (.add (.mul (.v 0) (.v 3)) (.mul (.v 1) (.v 2))))) (.mul (.add (.mul (.v 0) (.v 0)) (.mul (.v 1) (.v 1))) (.add (.mul (.v 2) (.v 2)) (.mul (.v 3) (.v 3)))) (by decide +kernel)
section
variable {m:Nat} (hp:Pr m)
def adZ(h:(Zp m × Zp m) × (Zp m × Zp m) × (Zp m × Zp m)):(Zp m × Zp m) × (Zp m × Zp m) × (Zp m × Zp m):=((K2 hp).sub ((K2 hp).mul h.1 h.1) ((K2 hp).mul (xi hp) ((K2 hp).mul h.2.1 h.2.2)),(K2 hp).sub ((K2 hp).mul (xi hp) ((K2 hp).mul h.2.2 h.2.2)) ((K2 hp).mul h.1 h.2.1),(K2 hp).sub ((K2 hp).mul h.2.1 h.2.1) ((K2 hp).mul h.1 h.2.2))
def nrZ(h:(Zp m × Zp m) × (Zp m × Zp m) × (Zp m × Zp m)):Zp m × Zp m:=((K6 hp).mul h (adZ hp h)).1
theorem mul_adZ(h:(Zp m × Zp m) × (Zp m × Zp m) × (Zp m × Zp m)):(K6 hp).mul h (adZ hp h)=(nrZ hp h,(K2 hp).zero,(K2 hp).zero):=Prod.ext rfl (Prod.ext (i_adj1 (K2 hp) h.1 h.2.1 h.2.2 (xi hp)) (i_adj2 (K2 hp) h.1 h.2.1 h.2.2 (xi hp)))
theorem nrZ_sq(h:(Zp m × Zp m) × (Zp m × Zp m) × (Zp m × Zp m)):nrZ hp ((K6 hp).mul h h)=(K2 hp).mul (nrZ hp h) (nrZ hp h):=i_sq (K2 hp) h.1 h.2.1 h.2.2 (xi hp)
theorem nm_mul(z y:Zp m × Zp m):nm hp ((K2 hp).mul z y)=(K1 hp).mul (nm hp z) (nm hp y):=by
 have h:=i_nm (K1 hp) z.1 z.2 y.1 y.2;have e:(K2 hp).mul z y=((K1 hp).sub ((K1 hp).mul z.1 y.1) ((K1 hp).mul z.2 y.2),(K1 hp).add ((K1 hp).mul z.1 y.2) ((K1 hp).mul z.2 y.1)):=by
  refine Prod.ext ?_ rfl;show(K1 hp).add ((K1 hp).mul z.1 y.1) ((K1 hp).mul ((K1 hp).neg (K1 hp).one) ((K1 hp).mul z.2 y.2))=_;rw[CRing.mul_m1];rfl
 rw[e];exact h
structure Tw:Prop where
 four:m%4=3
 cube:∀ x:Zp m,(K1 hp).mul ((K1 hp).mul x x) x≠nm hp (xi hp)
 sq:∀ x:Zp m,(K1 hp).mul x x≠nm hp (xi hp)
variable {hp} (ht:Tw hp)
include ht
theorem no_cube(z:Zp m × Zp m):(K2 hp).mul ((K2 hp).mul z z) z≠xi hp:=fun h=>ht.cube (nm hp z) (by rw[<- nm_mul,<- nm_mul,h])
theorem no_sq(z:Zp m × Zp m):(K2 hp).mul z z≠xi hp:=fun h=>ht.sq (nm hp z) (by rw[<- nm_mul,h])
theorem inv_two{z:Zp m × Zp m}(h:z≠(K2 hp).zero):∃ y,(K2 hp).mul z y=(K2 hp).one:=by
 have hn:nm hp z≠(K1 hp).zero:=fun e=>h (nm_zero hp ht.four e);have hi:=(zpField hp).mul_inv _ hn;refine⟨(K2 hp).mul (z.1,(K1 hp).neg z.2) ((zpField hp).inv (nm hp z),(K1 hp).zero),?_⟩;rw[<- (K2 hp).mul_assoc,mul_conj];refine Prod.ext ?_ ?_
 ·show(K1 hp).add ((K1 hp).mul (nm hp z) ((zpField hp).inv (nm hp z))) ((K1 hp).mul ((K1 hp).neg (K1 hp).one) ((K1 hp).mul (K1 hp).zero (K1 hp).zero))=(K1 hp).one
  rw[CRing.mul_zero,CRing.mul_zero,(K1 hp).add_zero];exact hi
 ·show(K1 hp).add ((K1 hp).mul (nm hp z) (K1 hp).zero) ((K1 hp).mul (K1 hp).zero ((zpField hp).inv (nm hp z)))=(K1 hp).zero
  rw[CRing.mul_zero,CRing.zero_mul,(K1 hp).add_zero]
theorem int_two{z y:Zp m × Zp m}(h:(K2 hp).mul z y=(K2 hp).zero)(hy:y≠(K2 hp).zero):z=(K2 hp).zero:=by
 obtain⟨q,hq⟩:=inv_two ht hy;rw[<- (K2 hp).mul_one z,<- hq,<- (K2 hp).mul_assoc,h,CRing.zero_mul]
theorem not_ratio{w u:Zp m × Zp m}(hw:w≠(K2 hp).zero)(h:(K2 hp).mul ((K2 hp).mul u u) u=(K2 hp).mul (xi hp) ((K2 hp).mul ((K2 hp).mul w w) w)):False:=by
 obtain⟨y,hy⟩:=inv_two ht hw;refine no_cube ht ((K2 hp).mul u y) ?_;have e1:(K2 hp).mul ((K2 hp).mul ((K2 hp).mul u y) ((K2 hp).mul u y)) ((K2 hp).mul u y)=(K2 hp).mul ((K2 hp).mul ((K2 hp).mul u u) u) ((K2 hp).mul ((K2 hp).mul y y) y):=by ac_rfl
 have e2:(K2 hp).mul ((K2 hp).mul (xi hp) ((K2 hp).mul ((K2 hp).mul w w) w)) ((K2 hp).mul ((K2 hp).mul y y) y)=(K2 hp).mul (xi hp) ((K2 hp).mul ((K2 hp).mul ((K2 hp).mul w y) ((K2 hp).mul w y)) ((K2 hp).mul w y)):=by ac_rfl
 rw[e1,h,e2,hy,(K2 hp).mul_one,(K2 hp).mul_one,(K2 hp).mul_one]
theorem cube_zero{z:Zp m × Zp m}(h:(K2 hp).mul ((K2 hp).mul z z) z=(K2 hp).zero):z=(K2 hp).zero:=by
 by_cases hz:z=(K2 hp).zero
 ·exact hz
 ·exact int_two ht (int_two ht h hz) hz
theorem nrZ_zero{h:(Zp m × Zp m) × (Zp m × Zp m) × (Zp m × Zp m)}(hn:nrZ hp h=(K2 hp).zero):h=(K6 hp).zero:=by
 obtain⟨a,b,c⟩:=h;have i1:=i_uw (K2 hp) a b c (xi hp);have hn':_=(K2 hp).zero:=hn;rw[show(K2 hp).add ((K2 hp).mul a ((K2 hp).sub ((K2 hp).mul a a) ((K2 hp).mul (xi hp) ((K2 hp).mul b c)))) ((K2 hp).mul (xi hp) ((K2 hp).add ((K2 hp).mul b ((K2 hp).sub ((K2 hp).mul b b) ((K2 hp).mul a c))) ((K2 hp).mul c ((K2 hp).sub ((K2 hp).mul (xi hp) ((K2 hp).mul c c)) ((K2 hp).mul a b)))))=(K2 hp).zero from hn',CRing.zero_mul]at i1;generalize hu:(K2 hp).sub ((K2 hp).mul (xi hp) ((K2 hp).mul c c)) ((K2 hp).mul a b)=u at i1;generalize hw:(K2 hp).sub ((K2 hp).mul a c) ((K2 hp).mul b b)=w at i1;have neg3:∀ z,(K2 hp).mul ((K2 hp).mul ((K2 hp).neg z) ((K2 hp).neg z)) ((K2 hp).neg z)=(K2 hp).neg ((K2 hp).mul ((K2 hp).mul z z) z):=fun z=>by
  simp only[CRing.mul_neg,CRing.neg_mul,CRing.neg_neg]
 have hw0:w=(K2 hp).zero:=Classical.byContradiction fun hw0=>by
  refine not_ratio ht hw0 (u:=(K2 hp).neg u) ?_;rw[neg3];apply (K2 hp).add_cancel (c:=(K2 hp).mul ((K2 hp).mul u u) u);rw[(K2 hp).add_comm,(K2 hp).add_neg,(K2 hp).add_comm,i1]
 rw[hw0,CRing.mul_zero,CRing.mul_zero,(K2 hp).add_zero]at i1;have hu0:=cube_zero ht i1;have e1:(K2 hp).mul (xi hp) ((K2 hp).mul c c)=(K2 hp).mul a b:=(K2 hp).eq_of_sub (hu.trans hu0);have e2:(K2 hp).mul a c=(K2 hp).mul b b:=(K2 hp).eq_of_sub (hw.trans hw0);have hc:c=(K2 hp).zero:=Classical.byContradiction fun hc=>by
  refine not_ratio ht hc (u:=b) ?_;rw[<- e2,show(K2 hp).mul ((K2 hp).mul a c) b=(K2 hp).mul ((K2 hp).mul a b) c by ac_rfl,<- e1]
  ac_rfl
 subst hc;have hb:b=(K2 hp).zero:=by
  by_cases hb:b=(K2 hp).zero
  ·exact hb
  ·rw[CRing.mul_zero]at e2
   exact int_two ht e2.symm hb
 subst hb;have ha:a=(K2 hp).zero:=cube_zero ht (by
  have h2:(K2 hp).add ((K2 hp).mul a ((K2 hp).sub ((K2 hp).mul a a) ((K2 hp).mul (xi hp) ((K2 hp).mul (K2 hp).zero (K2 hp).zero)))) ((K2 hp).mul (xi hp) ((K2 hp).add ((K2 hp).mul (K2 hp).zero ((K2 hp).sub ((K2 hp).mul (K2 hp).zero (K2 hp).zero) ((K2 hp).mul a (K2 hp).zero))) ((K2 hp).mul (K2 hp).zero ((K2 hp).sub ((K2 hp).mul (xi hp) ((K2 hp).mul (K2 hp).zero (K2 hp).zero)) ((K2 hp).mul a (K2 hp).zero)))))=(K2 hp).zero:=hn';simp only[CRing.mul_zero,CRing.zero_mul,CRing.sub_zero,(K2 hp).add_zero]at h2;rw[<- h2]
  ac_rfl)
 subst ha;rfl
omit ht
theorem nrZ_of_zero:nrZ hp (K6 hp).zero=(K2 hp).zero:=by
 show((K6 hp).mul (K6 hp).zero _).1=_;rw[CRing.zero_mul];rfl
theorem nrZ_vv:nrZ hp (vv hp)=xi hp:=by
 show(K2 hp).add ((K2 hp).mul (K2 hp).zero _) ((K2 hp).mul (xi hp) ((K2 hp).add ((K2 hp).mul (K2 hp).one ((K2 hp).sub ((K2 hp).mul (K2 hp).one (K2 hp).one) ((K2 hp).mul (K2 hp).zero (K2 hp).zero))) ((K2 hp).mul (K2 hp).zero _)))=_;simp only[CRing.mul_zero,CRing.zero_mul,CRing.sub_zero,CRing.zero_add,(K2 hp).add_zero,(K2 hp).mul_one]
def in6(z:Zp m × Zp m):(Zp m × Zp m) × (Zp m × Zp m) × (Zp m × Zp m):=(z,(K2 hp).zero,(K2 hp).zero)
theorem in6_mul(z y:Zp m × Zp m):(K6 hp).mul (in6 (hp:=hp) z) (in6 (hp:=hp) y)=in6 (hp:=hp) ((K2 hp).mul z y):=by
 refine Prod.ext ?_ (Prod.ext ?_ ?_)
 ·show(K2 hp).add ((K2 hp).mul z y) ((K2 hp).mul (xi hp) ((K2 hp).add ((K2 hp).mul (K2 hp).zero (K2 hp).zero) ((K2 hp).mul (K2 hp).zero (K2 hp).zero)))=_
  simp only[CRing.mul_zero,(K2 hp).add_zero];rfl
 ·show(K2 hp).add ((K2 hp).add ((K2 hp).mul z (K2 hp).zero) ((K2 hp).mul (K2 hp).zero y)) ((K2 hp).mul (xi hp) ((K2 hp).mul (K2 hp).zero (K2 hp).zero))=_
  simp only[CRing.mul_zero,CRing.zero_mul,(K2 hp).add_zero];rfl
 ·show(K2 hp).add ((K2 hp).add ((K2 hp).mul z (K2 hp).zero) ((K2 hp).mul (K2 hp).zero y)) ((K2 hp).mul (K2 hp).zero (K2 hp).zero)=_
  simp only[CRing.mul_zero,CRing.zero_mul,(K2 hp).add_zero];rfl
include ht
theorem inv_six{h:(Zp m × Zp m) × (Zp m × Zp m) × (Zp m × Zp m)}(h0:h≠(K6 hp).zero):∃ y,(K6 hp).mul h y=(K6 hp).one:=by
 obtain⟨q,hq⟩:=inv_two ht (fun e=>h0 (nrZ_zero ht e));refine⟨(K6 hp).mul (adZ hp h) (in6 (hp:=hp) q),?_⟩;rw[<- (K6 hp).mul_assoc,mul_adZ];have e:=in6_mul (hp:=hp) (nrZ hp h) q;rw[hq]at e;exact e
theorem int_six{z y:(Zp m × Zp m) × (Zp m × Zp m) × (Zp m × Zp m)}(h:(K6 hp).mul z y=(K6 hp).zero)(hy:y≠(K6 hp).zero):z=(K6 hp).zero:=by
 obtain⟨q,hq⟩:=inv_six ht hy;rw[<- (K6 hp).mul_one z,<- hq,<- (K6 hp).mul_assoc,h,CRing.zero_mul]
theorem sq_six{e o:(Zp m × Zp m) × (Zp m × Zp m) × (Zp m × Zp m)}(h:(K6 hp).mul e e=(K6 hp).mul (vv hp) ((K6 hp).mul o o)):e=(K6 hp).zero/\o=(K6 hp).zero:=by
 have ho:o=(K6 hp).zero:=Classical.byContradiction fun ho=>by
  obtain⟨y,hy⟩:=inv_six ht ho;have e1:(K6 hp).mul ((K6 hp).mul e y) ((K6 hp).mul e y)=vv hp:=by
   have e2:(K6 hp).mul ((K6 hp).mul e y) ((K6 hp).mul e y)=(K6 hp).mul ((K6 hp).mul e e) ((K6 hp).mul y y):=by ac_rfl
   have e3:(K6 hp).mul ((K6 hp).mul (vv hp) ((K6 hp).mul o o)) ((K6 hp).mul y y)=(K6 hp).mul (vv hp) ((K6 hp).mul ((K6 hp).mul o y) ((K6 hp).mul o y)):=by ac_rfl
   rw[e2,h,e3,hy,(K6 hp).mul_one,(K6 hp).mul_one]
  refine no_sq ht (nrZ hp ((K6 hp).mul e y)) ?_;rw[<- nrZ_sq,e1,nrZ_vv]
 subst ho;rw[CRing.mul_zero,CRing.mul_zero]at h;refine⟨?_,rfl⟩;by_cases he:e=(K6 hp).zero
 ·exact he
 ·exact int_six ht h he
end
open Sy
section
variable {m:Nat} (hp:Pr m)
theorem vv_mul(h:(Zp m × Zp m) × (Zp m × Zp m) × (Zp m × Zp m)):(K6 hp).mul (vv hp) h=((K2 hp).mul (xi hp) h.2.2,h.1,h.2.1):=by
 refine Prod.ext ?_ (Prod.ext ?_ ?_)
 ·show(K2 hp).add ((K2 hp).mul (K2 hp).zero h.1) ((K2 hp).mul (xi hp) ((K2 hp).add ((K2 hp).mul (K2 hp).one h.2.2) ((K2 hp).mul (K2 hp).zero h.2.1)))=_
  simp only[CRing.zero_mul,CRing.one_mul,CRing.add_zero,CRing.zero_add]
 ·show(K2 hp).add ((K2 hp).add ((K2 hp).mul (K2 hp).zero h.2.1) ((K2 hp).mul (K2 hp).one h.1)) ((K2 hp).mul (xi hp) ((K2 hp).mul (K2 hp).zero h.2.2))=_
  simp only[CRing.zero_mul,CRing.one_mul,CRing.add_zero,CRing.zero_add,CRing.mul_zero]
 ·show(K2 hp).add ((K2 hp).add ((K2 hp).mul (K2 hp).zero h.2.2) ((K2 hp).mul (K2 hp).zero h.1)) ((K2 hp).mul (K2 hp).one h.2.1)=_
  simp only[CRing.zero_mul,CRing.one_mul,CRing.add_zero,CRing.zero_add]
theorem ph2_nine(hm:1<m):ph2 hp (9,1)=xi hp:=Prod.ext rfl (zp_ext (Nat.mod_eq_of_lt hm))
theorem z2_v:z2=v2 (K2 hp).zero:=rfl
include hp in
theorem v2_inj{z y:Zp m × Zp m}(h:v2 z=v2 y):z=y:=by
 have:=congrArg (ph2 hp) h;rwa [ph2_v,ph2_v]at this
def elZ(z:((Zp m × Zp m) × (Zp m × Zp m) × (Zp m × Zp m)) × ((Zp m × Zp m) × (Zp m × Zp m) × (Zp m × Zp m))):Nat->Zp m × Zp m
 | 0=>z.1.1
 | 1=>z.2.1
 | 2=>z.1.2.1
 | 3=>z.2.2.1
 | 4=>z.1.2.2
 | _=>z.2.2.2
theorem el_v(z:((Zp m × Zp m) × (Zp m × Zp m) × (Zp m × Zp m)) × ((Zp m × Zp m) × (Zp m × Zp m) × (Zp m × Zp m))):∀ i,el (v12 z) i=v2 (elZ z i)
 | 0 | 1 | 2 | 3 | 4 | _+5=>rfl
def zsum(z y:((Zp m × Zp m) × (Zp m × Zp m) × (Zp m × Zp m)) × ((Zp m × Zp m) × (Zp m × Zp m) × (Zp m × Zp m))):Nat->Nat->Zp m × Zp m
 | 0,_=>(K2 hp).zero
 | i+1,k=>if i<=k/\k<=i+5 then (K2 hp).add (zsum z y i k) ((K2 hp).mul (elZ z i) (elZ y (k - i)))else zsum z y i k
section
variable (hm:m<2^256)
include hm
theorem ra12_v(z y:((Zp m × Zp m) × (Zp m × Zp m) × (Zp m × Zp m)) × ((Zp m × Zp m) × (Zp m × Zp m) × (Zp m × Zp m))):(ah (ra2 m) (v12 z).1 (v12 y).1,ah (ra2 m) (v12 z).2 (v12 y).2)=v12 ((K12 hp).add z y):=by
 unfold ah;refine Prod.ext (Prod.ext (ra2_v hp hm _ _) (Prod.ext (ra2_v hp hm _ _) (ra2_v hp hm _ _))) (Prod.ext (ra2_v hp hm _ _) (Prod.ext (ra2_v hp hm _ _) (ra2_v hp hm _ _)))
theorem rm2_v(z y:Zp m × Zp m):rm2 m (v2 z) (v2 y)=v2 ((K2 hp).mul z y):=by
 rw[rm2_eq hp hm];unfold m2;rw[ph2_v,ph2_v]
theorem sums_v(z y:((Zp m × Zp m) × (Zp m × Zp m) × (Zp m × Zp m)) × ((Zp m × Zp m) × (Zp m × Zp m) × (Zp m × Zp m))):∀ i k,sums (ra2 m) (rm2 m) (v12 z) (v12 y) i k=v2 (zsum hp z y i k)
 | 0,_=>rfl
 | i+1,k=>by
  have ih:=sums_v z y i k;unfold sums zsum
  split
  ·rename_i h
   have h1:v2 (elZ z i)=v2 (K2 hp).zero:=by rw[<- el_v];exact wl2_eq h
   have h2:=v2_inj hp h1;rw[ih,h2]
   split
   ·rw[CRing.zero_mul,(K2 hp).add_zero]
   ·rfl
  ·unfold Sy.upd
   split
   ·rw[ih,el_v,el_v,rm2_v hp hm,ra2_v hp hm]
   ·exact ih
theorem rmt_v(h1:1<m)(z y:((Zp m × Zp m) × (Zp m × Zp m) × (Zp m × Zp m)) × ((Zp m × Zp m) × (Zp m × Zp m) × (Zp m × Zp m))):rmt (ra2 m) (rm2 m) (v12 z) (v12 y)=v12 ((K12 hp).mul z y):=by
 have h9:∀ x,rm2 m (v2 x) (9,1)=v2 ((K2 hp).mul x (xi hp)):=fun x=>by
  rw[rm2_eq hp hm];unfold m2;rw[ph2_v,ph2_nine hp h1]
 have key:∀ k,(ra2 m) (v2 (zsum hp z y 6 k)) (rm2 m (v2 (zsum hp z y 6 (k+6))) (9,1))=v2 ((K2 hp).add (zsum hp z y 6 k) ((K2 hp).mul (zsum hp z y 6 (k+6)) (xi hp))):=fun k=>by rw[h9,ra2_v hp hm]
 have e:(K12 hp).mul z y=((K6 hp).add ((K6 hp).mul z.1 y.1) ((K6 hp).mul (vv hp) ((K6 hp).mul z.2 y.2)),(K6 hp).add ((K6 hp).mul z.1 y.2) ((K6 hp).mul z.2 y.1)):=rfl;rw[e,vv_mul];unfold rmt fin12;simp only[sums_v hp hm];refine Prod.ext (Prod.ext ((key 0).trans (congrArg v2 ?_)) (Prod.ext ((key 2).trans (congrArg v2 ?_)) ((key 4).trans (congrArg v2 ?_)))) (Prod.ext ((key 1).trans (congrArg v2 ?_)) (Prod.ext ((key 3).trans (congrArg v2 ?_)) (congrArg v2 ?_)))
 ·show _=(K2 hp).add ((K2 hp).add ((K2 hp).mul z.1.1 y.1.1) ((K2 hp).mul (xi hp) ((K2 hp).add ((K2 hp).mul z.1.2.1 y.1.2.2) ((K2 hp).mul z.1.2.2 y.1.2.1)))) ((K2 hp).mul (xi hp) ((K2 hp).add ((K2 hp).add ((K2 hp).mul z.2.1 y.2.2.2) ((K2 hp).mul z.2.2.2 y.2.1)) ((K2 hp).mul z.2.2.1 y.2.2.1)))
  simp[zsum,elZ,CRing.zero_add]
  try simp only[CRing.mul_add,CRing.add_mul]
  ac_rfl
 ·show _=(K2 hp).add ((K2 hp).add ((K2 hp).add ((K2 hp).mul z.1.1 y.1.2.1) ((K2 hp).mul z.1.2.1 y.1.1)) ((K2 hp).mul (xi hp) ((K2 hp).mul z.1.2.2 y.1.2.2))) ((K2 hp).add ((K2 hp).mul z.2.1 y.2.1) ((K2 hp).mul (xi hp) ((K2 hp).add ((K2 hp).mul z.2.2.1 y.2.2.2) ((K2 hp).mul z.2.2.2 y.2.2.1))))
  simp[zsum,elZ,CRing.zero_add]
  try simp only[CRing.mul_add,CRing.add_mul]
  ac_rfl
 ·show _=(K2 hp).add ((K2 hp).add ((K2 hp).add ((K2 hp).mul z.1.1 y.1.2.2) ((K2 hp).mul z.1.2.2 y.1.1)) ((K2 hp).mul z.1.2.1 y.1.2.1)) ((K2 hp).add ((K2 hp).add ((K2 hp).mul z.2.1 y.2.2.1) ((K2 hp).mul z.2.2.1 y.2.1)) ((K2 hp).mul (xi hp) ((K2 hp).mul z.2.2.2 y.2.2.2)))
  simp[zsum,elZ,CRing.zero_add]
  try simp only[CRing.mul_add,CRing.add_mul]
  ac_rfl
 ·show _=(K2 hp).add ((K2 hp).add ((K2 hp).mul z.1.1 y.2.1) ((K2 hp).mul (xi hp) ((K2 hp).add ((K2 hp).mul z.1.2.1 y.2.2.2) ((K2 hp).mul z.1.2.2 y.2.2.1)))) ((K2 hp).add ((K2 hp).mul z.2.1 y.1.1) ((K2 hp).mul (xi hp) ((K2 hp).add ((K2 hp).mul z.2.2.1 y.1.2.2) ((K2 hp).mul z.2.2.2 y.1.2.1))))
  simp[zsum,elZ,CRing.zero_add]
  try simp only[CRing.mul_add,CRing.add_mul]
  ac_rfl
 ·show _=(K2 hp).add ((K2 hp).add ((K2 hp).add ((K2 hp).mul z.1.1 y.2.2.1) ((K2 hp).mul z.1.2.1 y.2.1)) ((K2 hp).mul (xi hp) ((K2 hp).mul z.1.2.2 y.2.2.2))) ((K2 hp).add ((K2 hp).add ((K2 hp).mul z.2.1 y.1.2.1) ((K2 hp).mul z.2.2.1 y.1.1)) ((K2 hp).mul (xi hp) ((K2 hp).mul z.2.2.2 y.1.2.2)))
  simp[zsum,elZ,CRing.zero_add]
  try simp only[CRing.mul_add,CRing.add_mul]
  ac_rfl
 ·show _=(K2 hp).add ((K2 hp).add ((K2 hp).add ((K2 hp).mul z.1.1 y.2.2.2) ((K2 hp).mul z.1.2.2 y.2.1)) ((K2 hp).mul z.1.2.1 y.2.2.1)) ((K2 hp).add ((K2 hp).add ((K2 hp).mul z.2.1 y.1.2.2) ((K2 hp).mul z.2.2.2 y.1.1)) ((K2 hp).mul z.2.2.1 y.1.2.1))
  simp[zsum,elZ,CRing.zero_add]
  ac_rfl
end
/-! Inverses. -/
include hp in
theorem pi2_not{a:N2}(h:(pi2 m a).2=false):(pi2 m a).1=z2:=by
 rw[pi2_2 hp]at h;rw[pi2_1 hp,ji_zero hp h,CRing.mul_zero,CRing.mul_zero,CRing.neg_zero];rfl
theorem pi2_inv{a:N2}(h:(pi2 m a).2=true):(K2 hp).mul (ph2 hp a) (ph2 hp (pi2 m a).1)=(K2 hp).one:=by
 have e:=inv2_mul hp h;rw[(K2 hp).mul_comm];exact v2_inj hp e
theorem adj_eq(a:N6):adj (s2 hp) (m2 hp) (l2 hp) a=v6 (adZ hp (ph6 hp a)):=by
 unfold adj;simp only[s2,m2,l2,ph2_v];rfl
theorem mulhalf_nr(a:N6):m6 hp a (v6 (adZ hp (ph6 hp a)))=(v2 (nrZ hp (ph6 hp a)),z2,z2):=by
 unfold m6;rw[ph6_v,mul_adZ];rfl
def jh(a:N6):N6 × Bool:=ivh (s2 hp) (m2 hp) (l2 hp) (pi2 m) (m6 hp) a
theorem jh_1(a:N6):(jh hp a).1=m6 hp (v6 (adZ hp (ph6 hp a))) ((pi2 m (v2 (nrZ hp (ph6 hp a)))).1,z2,z2):=by
 unfold jh ivh;rw[adj_eq,mulhalf_nr]
theorem jh_2(a:N6):(jh hp a).2=(pi2 m (v2 (nrZ hp (ph6 hp a)))).2:=by
 unfold jh ivh;rw[adj_eq,mulhalf_nr]
variable {hp} (ht:Tw hp)
include ht
theorem jh_found(a:N6):(jh hp a).2=true↔ph6 hp a≠(K6 hp).zero:=by
 rw[jh_2,found2 hp ht.four,ph2_v];exact⟨fun h e=>h (by rw[e];exact nrZ_of_zero),fun h e=>h (nrZ_zero ht e)⟩
omit ht
theorem jh_inv{a:N6}(h:(jh hp a).2=true):(K6 hp).mul (ph6 hp a) (ph6 hp (jh hp a).1)=(K6 hp).one:=by
 rw[jh_2]at h;have e:=pi2_inv hp h;rw[ph2_v]at e;rw[jh_1];unfold m6;rw[ph6_v,ph6_v,<- (K6 hp).mul_assoc,mul_adZ];have e2:=in6_mul (hp:=hp) (nrZ hp (ph6 hp a)) (ph2 hp (pi2 m (v2 (nrZ hp (ph6 hp a)))).1);rw[e]at e2;exact e2
theorem jh_not{a:N6}(h:(jh hp a).2=false):(jh hp a).1=z6:=by
 rw[jh_2]at h;rw[jh_1,pi2_not hp h];show v6 ((K6 hp).mul _ (K6 hp).zero)=z6;rw[CRing.mul_zero];rfl
def it(a:N12):N12 × Bool:=ivt (s6 hp) (m6 hp) (shh (l2 hp)) (jh hp) a
def hf(a:N12):N6:=s6 hp (m6 hp a.1 a.1) (shh (l2 hp) (m6 hp a.2 a.2))
theorem hf_eq(a:N12):ph6 hp (hf (hp:=hp) a)=(K6 hp).sub ((K6 hp).mul (ph6 hp a.1) (ph6 hp a.1)) ((K6 hp).mul (vv hp) ((K6 hp).mul (ph6 hp a.2) (ph6 hp a.2))):=by
 unfold hf s6;rw[ph6_v,shh_eq];simp only[m6,ph6_v]
theorem it_1(a:N12):(it (hp:=hp) a).1=v12 ((K6 hp).mul (ph6 hp a.1) (ph6 hp (jh hp (hf (hp:=hp) a)).1),(K6 hp).sub (K6 hp).zero ((K6 hp).mul (ph6 hp a.2) (ph6 hp (jh hp (hf (hp:=hp) a)).1))):=by
 show(m6 hp a.1 (jh hp (hf (hp:=hp) a)).1,s6 hp z6 (m6 hp a.2 (jh hp (hf (hp:=hp) a)).1))=_;refine Prod.ext rfl ?_;show s6 hp z6 (m6 hp a.2 (jh hp (hf (hp:=hp) a)).1)=v6 _;unfold s6 m6;rw[ph6_v];rfl
theorem it_2(a:N12):(it (hp:=hp) a).2=(jh hp (hf (hp:=hp) a)).2:=rfl
include ht
theorem it_found(a:N12):(it (hp:=hp) a).2=true↔ph12 hp a≠(K12 hp).zero:=by
 rw[it_2,jh_found ht,hf_eq];refine⟨fun h e=>h ?_,fun h e=>h ?_⟩
 ·have e1:ph6 hp a.1=(K6 hp).zero:=congrArg Prod.fst e
  have e2:ph6 hp a.2=(K6 hp).zero:=congrArg Prod.snd e;rw[e1,e2,CRing.mul_zero,CRing.mul_zero,CRing.sub_zero]
 ·have:=sq_six ht ((K6 hp).eq_of_sub e)
  exact Prod.ext this.1 this.2
omit ht
theorem it_inv{a:N12}(h:(it (hp:=hp) a).2=true):(K12 hp).mul (ph12 hp (it (hp:=hp) a).1) (ph12 hp a)=(K12 hp).one:=by
 rw[it_2]at h;have e:=jh_inv h;rw[hf_eq]at e;rw[it_1,ph12_v];generalize ph6 hp (jh hp (hf (hp:=hp) a)).1=j at e;refine Prod.ext ?_ ?_
 ·show(K6 hp).add ((K6 hp).mul ((K6 hp).mul (ph6 hp a.1) j) (ph6 hp a.1)) ((K6 hp).mul (vv hp) ((K6 hp).mul ((K6 hp).sub (K6 hp).zero ((K6 hp).mul (ph6 hp a.2) j)) (ph6 hp a.2)))=(K6 hp).one
  rw[<- e];unfold CRing.sub;have e1:(K6 hp).mul ((K6 hp).mul (ph6 hp a.1) j) (ph6 hp a.1)=(K6 hp).mul ((K6 hp).mul (ph6 hp a.1) (ph6 hp a.1)) j:=by ac_rfl
  have e2:(K6 hp).mul (vv hp) ((K6 hp).mul ((K6 hp).mul (ph6 hp a.2) j) (ph6 hp a.2))=(K6 hp).mul ((K6 hp).mul (vv hp) ((K6 hp).mul (ph6 hp a.2) (ph6 hp a.2))) j:=by ac_rfl
  rw[CRing.zero_add,CRing.neg_mul,CRing.mul_neg,CRing.add_mul,CRing.neg_mul,e1,e2]
 ·show(K6 hp).add ((K6 hp).mul ((K6 hp).mul (ph6 hp a.1) j) (ph6 hp a.2)) ((K6 hp).mul ((K6 hp).sub (K6 hp).zero ((K6 hp).mul (ph6 hp a.2) j)) (ph6 hp a.1))=(K6 hp).zero
  unfold CRing.sub;rw[CRing.zero_add,CRing.neg_mul,show(K6 hp).mul ((K6 hp).mul (ph6 hp a.2) j) (ph6 hp a.1)=(K6 hp).mul ((K6 hp).mul (ph6 hp a.1) j) (ph6 hp a.2) by ac_rfl,(K6 hp).add_neg]
theorem it_not{a:N12}(h:(it (hp:=hp) a).2=false):(it (hp:=hp) a).1=z12:=by
 rw[it_2]at h;rw[it_1,jh_not h];show(v6 ((K6 hp).mul _ (K6 hp).zero),v6 ((K6 hp).sub _ ((K6 hp).mul _ (K6 hp).zero)))=z12;rw[CRing.mul_zero,CRing.mul_zero,CRing.sub_zero];rfl
end
/-! The pairing's prime. -/
theorem no_pow{p k:Nat}(hp:Pr p){b:Nat}(hk:(p - 1)%k=0)(he:(p - 1) / k<2^260)(hn:pwr p b ((p - 1) / k)≠1)(hb:¬p∣b){x:Nat}(hx:x^k%p=b%p):False:=by
 have hxd:¬p∣x:=fun hd=>by
  have hp0:=hp.1;cases k with
  | zero=>rw[Nat.mod_zero]at hk;omega
  | succ k =>
   rw[Nat.pow_succ]at hx;have h1:p∣x^k*x:=Nat.dvd_mul_left_of_dvd hd _;rw[Nat.mod_eq_zero_of_dvd h1]at hx;exact hb (Nat.dvd_of_mod_eq_zero hx.symm)
 apply hn;rw[pwr_eq p _ _ he,Nat.pow_mod,<- hx,<- Nat.pow_mod,<- Nat.pow_mul,Nat.mul_div_cancel' (Nat.dvd_of_mod_eq_zero hk)];exact fermat1 hp x hxd
theorem tw_of{m b:Nat}(hp:Pr m)(h4:m%4=3)(hb:(nm hp (xi hp)).1=b)(h0:¬m∣b)(k3:(m - 1)%3=0)(k2:(m - 1)%2=0)(e3:(m - 1) / 3<2^260)(e2:(m - 1) / 2<2^260)(n3:pwr m b ((m - 1) / 3)≠1)(n2:pwr m b ((m - 1) / 2)≠1):Tw hp where
 four:=h4
 cube x h:=by
  have h1:x.1*x.1%m*x.1%m=b:=(congrArg Subtype.val h).trans hb;have hl:b<m:=hb ▸ (nm hp (xi hp)).2;refine no_pow hp k3 e3 n3 h0 (x:=x.1) ?_;rw[Nat.pow_succ,Nat.pow_two,<- Nat.mod_mul_mod,h1,Nat.mod_eq_of_lt hl]
 sq x h:=by
  have h1:x.1*x.1%m=b:=(congrArg Subtype.val h).trans hb;have hl:b<m:=hb ▸ (nm hp (xi hp)).2;refine no_pow hp k2 e2 n2 h0 (x:=x.1) ?_;rw[Nat.pow_two,h1,Nat.mod_eq_of_lt hl]
theorem twB:Tw prB:=tw_of (b:=82) prB (by decide) (by decide +kernel) (by decide +kernel) (by decide +kernel) (by decide +kernel) (by decide +kernel) (by decide +kernel) (by decide +kernel) (by decide +kernel)
open Go.RowKit
namespace Sy
section
variable {A M RA RM:N12->N12->N12} {C RO:N12->N12} {I:N12->N12 × Bool} {RS:N2->N2->N2}
def bc(RS:N2->N2->N2)(c x:N12):Nat->Bool
 | 0=>!(eqL (wl2 (el c 0)) (wl2 (el x 0)))
 | 1=>!(eqL (wl2 (el c 1)) (wl2 (RS z2 (el x 1))))
 | 2=>!(eqL (wl2 (el c 2)) (wl2 (el x 2)))
 | 3=>!(eqL (wl2 (el c 3)) (wl2 (RS z2 (el x 3))))
 | 4=>!(eqL (wl2 (el c 4)) (wl2 (el x 4)))
 | _=>!(eqL (wl2 (el c 5)) (wl2 (RS z2 (el x 5))))
def bs(A M RA RM:N12->N12->N12)(a b x y:N12):Bool:=bif !(eqL (wl12 (A a b)) (wl12 (RA x y)))then true else !(eqL (wl12 (M a b)) (wl12 (RM x y)))
def bi(RM:N12->N12->N12)(i:N12)(is:Bool)(x:N12):Bool:=bif (bif !(eqB is (!(eqL (wl12 x) (wl12 z12))))then true else (bif !is then !(eqL (wl12 i) (wl12 z12))else false))then true else (bif is then !(eqL (wl12 (RM i x)) (wl12 one12))else false)
def lF:Sh:=.leaf (.v (.bool false))
theorem ttwelve_gen(hA:Is00 22 sh12 sh12 fun a b=>L12s (A a b))(hM:Is00 24 sh12 sh12 fun a b=>L12s (M a b))(hC:Is0 21 sh12 fun a=>L12s (C a))(hI:Is0 26 sh12 fun a=>.tu (L12s (I a).1) (.b (I a).2))
  (kA:Ih2 pB 23 sh12 sh12 fun a b=>L12s (RA a b)) (kM:Ih2 pB 25 sh12 sh12 fun a b=>L12s (RM a b)) (kO:Ih1 pB 20 sh12 fun a=>L12s (RO a)) (kS:Ih2 pB 14 sh2 sh2 fun a b=>F2s (RS a b))
  (a b:N12) (oa:(L12s a).ok) (ob:(L12s b).ok) (hc:∀ k,bc RS (C a) (RO a) k=false) (hs:bs A M RA RM a b (RO a) (RO b)=false) (hi:bi RM (I a).1 (I a).2 (RO a)=false) (w:World):Calls Tryz.prog 4 #[(L12s a).val o0,(L12s b).val o0] w fun e w'=>e=.returned (.bool true)/\Below w.heap.size w w':=by
 refine calls_at (E1_ok (γ0:=o0) (more:=[cTNew,cV2 22 sh12 sh12 fun a b=>L12s (A a b),cV2 24 sh12 sh12 fun a b=>L12s (M a b),cV1 21 sh12 fun a=>L12s (C a),cV1 26 sh12 fun a=>.tu (L12s (I a).1) (.b (I a).2),cH2 false pB loB 23 sh12 sh12 fun a b=>L12s (RA a b),cH2 false pB loB 25 sh12 sh12 fun a b=>L12s (RM a b),cH1 false pB loB 20 sh12 fun a=>L12s (RO a),cH2 false pB loB 14 sh2 sh2 fun a b=>F2s (RS a b),cOneR,cLives])
  ⟨cTNew_ok,hA _ _ _,hM _ _ _,hC _ _ _,hI _ _ _,kA _ _ _ _ (rB w),kM _ _ _ _ (rB w),kO _ _ _ _ (rB w),kS _ _ _ _ (rB w),cOneR_ok,cLives_ok,trivial⟩) (by kernel_rfl) (fun _=>7) Tryz.func4 (by kernel_rfl) [L12s a,L12s b] ⟨⟨oa,rfl⟩,⟨ob,rfl⟩,trivial⟩ (by kernel_rfl) (by kernel_rfl)
  (.br (bc RS (C a) (RO a) 0) lF (.br (bc RS (C a) (RO a) 1) lF (.br (bc RS (C a) (RO a) 2) lF (.br (bc RS (C a) (RO a) 3) lF (.br (bc RS (C a) (RO a) 4) lF (.br (bc RS (C a) (RO a) 5) lF (.br (bs A M RA RM a b (RO a) (RO b)) lF (.br (bi RM (I a).1 (I a).2 (RO a)) lF (.leaf (.b true)))))))))) (by kernel_rfl) ?_
 have no:∀ {x:Bool} {P:Prop},x=false->(x=true->P):=fun h h'=>by rw[h]at h';cases h'
 exact⟨no (hc 0),fun _=>⟨no (hc 1),fun _=>⟨no (hc 2),fun _=>⟨no (hc 3),fun _=>⟨no (hc 4),fun _=>⟨no (hc 5),fun _=>⟨no hs,fun _=>⟨no hi,fun _=>rfl⟩⟩⟩⟩⟩⟩⟩⟩
end
theorem not_self2{a b:N2}(h:a=b):(!(eqL (wl2 a) (wl2 b)))=false:=by rw[h,eqL_self];rfl
theorem eqL12_iff{a b:N12}:eqL (wl12 a) (wl12 b)=true↔a=b:=⟨wl12_eq,fun h=>by rw[h];exact eqL_self _⟩
def RO12(a:N12):N12:=(mp6 (ro2 pB) a.1,mp6 (ro2 pB) a.2)
def RA12(a b:N12):N12:=(ah (ra2 pB) a.1 b.1,ah (ra2 pB) a.2 b.2)
theorem C12_eq(a:N12):C12 a=v12 (ph6 prB a.1,(K6 prB).sub (K6 prB).zero (ph6 prB a.2)):=by
 refine Prod.ext ?_ rfl;show v6 ((K6 prB).add (K6 prB).zero (ph6 prB a.1))=_;rw[CRing.zero_add];rfl
theorem bc_no(a:N12):∀ k,bc (rs2 pB) (C12 a) (RO12 a) k=false:=by
 have odd:∀ x:Zp pB × Zp pB,v2 ((K2 prB).sub (K2 prB).zero x)=rs2 pB z2 (v2 x):=fun x=>by
  rw[z2_v prB,rs2_v prB ltB]
 rw[C12_eq];intro k
 match k with
 | 0=>exact not_self2 rfl
 | 1=>exact not_self2 (odd _)
 | 2=>exact not_self2 rfl
 | 3=>exact not_self2 (odd _)
 | 4=>exact not_self2 rfl
 | _+5=>exact not_self2 (odd _)
theorem RA12_eq(a b:N12):A12 a b=RA12 (RO12 a) (RO12 b):=(ra12_v prB ltB (ph12 prB a) (ph12 prB b)).symm
theorem RM12_eq(a b:N12):M12 a b=rmt (ra2 pB) (rm2 pB) (RO12 a) (RO12 b):=(rmt_v prB ltB (by decide) (ph12 prB a) (ph12 prB b)).symm
theorem bs_no(a b:N12):bs A12 M12 RA12 (rmt (ra2 pB) (rm2 pB)) a b (RO12 a) (RO12 b)=false:=by
 unfold bs;rw[RA12_eq,RM12_eq,eqL_self,eqL_self];rfl
theorem v12_inj{z y:((Zp pB × Zp pB) × (Zp pB × Zp pB) × (Zp pB × Zp pB)) × ((Zp pB × Zp pB) × (Zp pB × Zp pB) × (Zp pB × Zp pB))}(h:v12 z=v12 y):z=y:=by
 have:=congrArg (ph12 prB) h;rwa [ph12_v,ph12_v]at this
theorem bi_no(a:N12):bi (rmt (ra2 pB) (rm2 pB)) (I12 a).1 (I12 a).2 (RO12 a)=false:=by
 have hI:I12 a=it (hp:=prB) a:=rfl;have hz:eqL (wl12 (RO12 a)) (wl12 z12)=true↔ph12 prB a=(K12 prB).zero:=by
  rw[eqL12_iff];refine⟨fun h=>v12_inj h,fun h=>?_⟩;show v12 (ph12 prB a)=z12;rw[h];rfl
 have hf:=it_found twB a;rw[hI];unfold bi;cases h:(it (hp:=prB) a).2 with
 | false =>
  have h0:ph12 prB a=(K12 prB).zero:=Classical.byContradiction fun e=>by
   have:=hf.2 e;rw[h]at this;cases this
  rw[hz.2 h0,it_not h,eqL_self];rfl
 | true =>
  have h0:eqL (wl12 (RO12 a)) (wl12 z12)=false:=by
   cases e:eqL (wl12 (RO12 a)) (wl12 z12)with
   | false=>rfl
   | true=>exact absurd (hz.1 e) (hf.1 h)
  have h1:rmt (ra2 pB) (rm2 pB) (it (hp:=prB) a).1 (RO12 a)=one12:=by
   have e:(it (hp:=prB) a).1=v12 (ph12 prB (it (hp:=prB) a).1):=by
    rw[it_1,ph12_v]
   rw[e];refine(rmt_v prB ltB (by decide) _ (ph12 prB a)).trans ?_;rw[it_inv h];rfl
  rw[h0,h1,eqL_self];rfl
theorem ttwelve_any(a b:N12)(oa:(L12s a).ok)(ob:(L12s b).ok)(w:World):Calls Tryz.prog 4 #[(L12s a).val o0,(L12s b).val o0] w fun e w'=>e=.returned (.bool true)/\Below w.heap.size w w' :=
 ttwelve_gen (C:=C12) (I:=I12) (RO:=RO12) (RA:=RA12) Add12_at Mul12_at Conj12_at Inv12_at Tadd12_at Tmul12_at Tof12_at Tsub_at a b oa ob (bc_no a) (bs_no a b) (bi_no a) w
end Sy
end Go.Proofs.YtpipdfgfoocifaaGreat
