/- bailiwicklaw08.CurveLifts: the statement about it: whatever the input: true; the input reads as it did. CONDITIONS: none. (Cut to what is reached, written closely: GTi · SyD · EcOrd · FInvN · EcFp · EcJac · EcVal · RTi · RSu · Cn · SyY · SyL · SyH · SyLi · SyLl · CurveLifts.) -/
import Derived.Test.YtfmpjjhdocejiaaGreatL11
import Derived.Test.YtfmpjjhdocejiaaGreatL10
import Derived.Test.YtfmpjjhdocejiaaGreatL8
import Derived.Test.YtfmpjjhdocejiaaGreatL5
set_option linter.all false
set_option maxRecDepth 100000
set_option maxHeartbeats 8000000
namespace Go.Proofs.YtfmpjjhdocejiaaGreat
open Go.RowKit
theorem gtimes_any(F m g c:Nat)(l:List (Nat × Nat × Nat × Bool))(hl:∀ t∈l,t.1<115792089237316195423570985008687907853269984665640564039457584007913129639936/\t.2.1<115792089237316195423570985008687907853269984665640564039457584007913129639936/\t.2.2.1<115792089237316195423570985008687907853269984665640564039457584007913129639936)(h0:0<l.length)(hn:l.length<4294967296)(w:World)(hF:FldAt w F m)(hg:w.heap[g]?=some (.cells (tls l) 68 (0,0))):Calls Tryz.prog 41 #[.agg #[.pointer (some ⟨F,0,none⟩)],.slice (some ⟨g,0,none⟩) l.length c] w fun r w'=>r=.returned (.tuple #[.agg (if l.all (fun t=>onB m t.2)=true then gpo m (gwk m l 257)else pc 0 0 true),.int .i64 (if l.all (fun t=>onB m t.2)=true then 0 else 81)])/\Below w.heap.size w w':=by
 have hmR:=hF.lt;have hm0:0<m:=by have:=hF.big;omega
 have hgl:=(Array.getElem?_eq_some_iff.1 hg).1;refine enter Tryz.func41 rfl ?_;intro a0 z0 D0 e0;have z0:a0.tmps.size=60:=z0;have k0_0:a0.tmps.getD 0 undef=.agg (#[.pointer (some ⟨F,0,none⟩)]):=e0 0;have k1_0:a0.tmps.getD 1 undef=.slice (some ⟨g,0,none⟩) l.length c:=e0 1;have H0:HC w [] w:=HC.start w;refine wp_seq ?_;refine wp_region_list ?_;refine tl_new (z:=#[.pointer (some ⟨F,0,none⟩)]) (T:=53) rfl rfl (by rw[z0];decide) (run_box rfl k0_0 rfl) ?_;intro a1 y1 d1 e1 k2_1;have z1:=y1.trans z0;have D1:=d1.trans D0;have k0_1:=tp e1 k0_0;have k1_1:=tp e1 k1_0;obtain⟨g2_1,hg1⟩:∃ g,w.heap.size=g:=⟨_,rfl⟩
 have H1:HC w [(g2_1,#[.pointer (some ⟨F,0,none⟩)],53)] (w.alloc (.cells (#[.pointer (some ⟨F,0,none⟩)]) 53)):=hg1 ▸ H0.new (#[.pointer (some ⟨F,0,none⟩)]) 53;rw[hg1]at k2_1;generalize w.alloc (.cells (#[.pointer (some ⟨F,0,none⟩)]) 53)=w1 at H1 |-
 clear hg1 e1 y1 d1 H0 k0_0 k1_0 z0 D0;refine tl_new (z:=pc 0 0 false) (T:=26) rfl rfl (by rw[z1];decide) (by kernel_rfl) ?_;intro a2 y2 d2 e2 k4_2;have z2:=y2.trans z1;have D2:=d2.trans D1;have k0_2:=tp e2 k0_1;have k1_2:=tp e2 k1_1;have k2_2:=tp e2 k2_1;obtain⟨g4_2,hg2⟩:∃ g,w1.heap.size=g:=⟨_,rfl⟩
 have H2:HC w [(g4_2,pc 0 0 false,26),(g2_1,#[.pointer (some ⟨F,0,none⟩)],53)] (w1.alloc (.cells (pc 0 0 false) 26)):=hg2 ▸ H1.new (pc 0 0 false) 26;rw[hg2]at k4_2;generalize w1.alloc (.cells (pc 0 0 false) 26)=w2 at H2 |-
 clear hg2 e2 y2 d2 H1 k0_1 k1_1 k2_1 z1 D1;refine tl_val (v:=.int .i64 0) rfl rfl (by rw[z2];decide) (run_assign (.inl rfl) rfl) ?_;intro a3 y3 d3 e3 k5_3;have z3:=y3.trans z2;have D3:=d3.trans D2;have k0_3:=tp e3 k0_2;have k1_3:=tp e3 k1_2;have k2_3:=tp e3 k2_2;have k4_3:=tp e3 k4_2;clear e3 y3 d3 k0_2 k1_2 k2_2 k4_2 z2 D2;refine wpList_nil ?_;refine then_normal ?_;refine wp_seq ?_;refine reg_seq 1 [.val 6 (.slice none 0 0)] [] (fun _=>#[]) (by kernel_rfl) (by exact⟨trivial,trivial⟩) (fun p hp=>by cases hp) ?_ ?_
 ·refine⟨?_,trivial⟩
  ·intro ac wx hC hsz hK
   exact mm_val (.slice none 0 0) rfl (by kernel_rfl) (run_assign (.inl rfl) rfl) hC (by kernel_rfl) (by rw[hsz,z3];decide) rfl
 intro a4 w4 y4 d4 e4 b4 n4 f4;have z4:=y4.trans z3;have D4:=d4.trans D3;have k0_4:=tq e4 k0_3;have k1_4:=tq e4 k1_3;have k2_4:=tq e4 k2_3;have k4_4:=tq e4 k4_3;have k5_4:=tq e4 k5_3;have k6_4:a4.tmps.getD 6 undef=.slice none 0 0:=f4 0 (by decide);have H4:=H2.below b4;clear f4 e4 n4 y4 d4 b4 H2 k0_3 k1_3 k2_3 k4_3 k5_3 z3 D3;refine wpList_nil ?_;refine then_normal ?_;refine wp_seq ?_;refine wp_seq ?_;refine reg_seq 3 [.val 13 (.slice (some ⟨g,0,none⟩) l.length c),.val 14 (.int .i64 ((l.length:Nat))),.val 15 (.int .i64 0)] [] (fun _=>#[]) (by kernel_rfl) (by exact⟨trivial,trivial,trivial,trivial⟩) (fun p hp=>by cases hp) ?_ ?_
 ·refine⟨?_,?_,?_,trivial⟩
  ·intro ac wx hC hsz hK
   have h0:ac.tmps.getD 1 undef=.slice (some ⟨g,0,none⟩) l.length c:=(hK.1 1 (by kernel_rfl)).trans k1_4;exact mm_val (.slice (some ⟨g,0,none⟩) l.length c) rfl (by kernel_rfl) (run_assign (.inr rfl) h0) hC (by kernel_rfl) (by rw[hsz,z4];decide) rfl
  ·intro ac wx hC hsz hK
   have h0:ac.tmps.getD 13 undef=.slice (some ⟨g,0,none⟩) l.length c:=hK.2 ⟨0,.data⟩ (by simp) rfl _ rfl;refine mm_sem (Builtin.len_ #[93] 3 #[ac.tmps.getD 13 undef]) (.int .i64 ((l.length:Nat))) rfl (by kernel_rfl) (by kernel_rfl) ?_ hC (by kernel_rfl) (by rw[hsz,z4];decide) rfl;rw[h0];exact len_slice Tryz.underlying93 wx
  ·intro ac wx hC hsz hK
   exact mm_val (.int .i64 0) rfl (by kernel_rfl) (run_assign (.inr rfl) rfl) hC (by kernel_rfl) (by rw[hsz,z4];decide) rfl
 intro a5 w5 y5 d5 e5 b5 n5 f5;have z5:=y5.trans z4;have D5:=d5.trans D4;have k0_5:=tq e5 k0_4;have k2_5:=tq e5 k2_4;have k4_5:=tq e5 k4_4;have k5_5:=tq e5 k5_4;have k6_5:=tq e5 k6_4;have k13_5:a5.tmps.getD 13 undef=.slice (some ⟨g,0,none⟩) l.length c:=f5 0 (by decide);have k14_5:a5.tmps.getD 14 undef=.int .i64 ((l.length:Nat)):=f5 1 (by decide);have k15_5:a5.tmps.getD 15 undef=.int .i64 0:=f5 2 (by decide);have H5:=H4.below b5;clear f5 e5 n5 y5 d5 b5 H4 k0_4 k1_4 k2_4 k4_4 k5_4 k6_4 z4 D4;refine wpList_nil ?_;refine then_normal ?_;refine wp_block ?_;refine wp_loop (fun a wr=>∃ i:Nat,∃ v:Value,(i<=l.length/\(l.take i).all (fun t=>onB m t.2)=true/\wr.ownsRow w.heap.size 98 284 v i (pth m (l.take i))/\∀ p∈([(g4_2,pc 0 0 false,26),(g2_1,#[.pointer (some ⟨F,0,none⟩)],53)]:List (Nat × Array Value × TypeId)),v.ownBlock≠some p.1)/\a.tmps.size=60/\a.defers=[]/\a.tmps.getD 0 undef=.agg (#[.pointer (some ⟨F,0,none⟩)])/\a.tmps.getD 2 undef=.pointer (some ⟨g2_1,0,none⟩)/\a.tmps.getD 4 undef=.pointer (some ⟨g4_2,0,none⟩)/\a.tmps.getD 6 undef=v/\a.tmps.getD 13 undef=.slice (some ⟨g,0,none⟩) l.length c/\a.tmps.getD 14 undef=.int .i64 ((l.length:Nat))/\a.tmps.getD 15 undef=.int .i64 ((i:Nat))/\HC w [(g4_2,pc 0 0 false,26),(g2_1,#[.pointer (some ⟨F,0,none⟩)],53)] wr) (fun a _=>l.length - (intOf (a.tmps.getD 15 undef)).toNat) ⟨0,(.slice none 0 0),⟨Nat.zero_le _,rfl,⟨by simp[pth],.inl ⟨rfl,rfl⟩⟩,fun p _=>by simp[Value.ownBlock]⟩,z5,D5,k0_5,k2_5,k4_5,k6_5,k13_5,k14_5,k15_5,H5⟩ ?_;clear z5 D5 H5 k0_5 k2_5 k4_5 k5_5 k6_5 k13_5 k14_5 k15_5;rintro a6 w6 ⟨i,v,hP6,z6,D6,k0_6,k2_6,k4_6,k6_6,k13_6,k14_6,k15_6,H6⟩;have m5:(intOf (a6.tmps.getD 15 undef)).toNat=i:=by rw[k15_6];rfl
 rename i<=l.length/\_=>hP
 have hi0:=hP.1;have O:=hP.2.2.1;have N:=hP.2.2.2;refine wp_seq ?_;by_cases hc8:((i:Nat):Int)<((l.length:Nat):Int)
 ·have hil:i<l.length:=by omega
  obtain⟨⟨pk,px,py,pn⟩,hp⟩:∃ p,l[i]?=some p:=⟨l[i],by simp[hil]⟩
  obtain⟨hpk,hpx,hpy⟩:=hl _ (List.mem_of_getElem? hp);dsimp only at hpk hpx hpy;refine reg_seq 1 [.val 16 (.bool true)] [] (fun _=>#[]) (by kernel_rfl) (by exact⟨trivial,trivial⟩) (fun p hp=>by cases hp) ?_ ?_
  ·refine⟨?_,trivial⟩
   ·intro ac wx hC hsz hK
    have h0:ac.tmps.getD 15 undef=.int .i64 ((i:Nat)):=(hK.1 15 (by kernel_rfl)).trans k15_6;have h1:ac.tmps.getD 14 undef=.int .i64 ((l.length:Nat)):=(hK.1 14 (by kernel_rfl)).trans k14_6;exact mm_bin .lss 3 (.tmp 15) (.tmp 14) 3 (.int .i64 ((i:Nat))) (.int .i64 ((l.length:Nat))) (.bool true) rfl rfl (by kernel_rfl) h0 h1 (by kernel_rfl) (lss_yes hc8 wx) hC (by kernel_rfl) (by rw[hsz,z6];decide) rfl
  intro a9 w9 y9 d9 e9 b9 n9 f9;have z9:=y9.trans z6;have D9:=d9.trans D6;have k0_9:=tq e9 k0_6;have k2_9:=tq e9 k2_6;have k4_9:=tq e9 k4_6;have k6_9:=tq e9 k6_6;have k13_9:=tq e9 k13_6;have k14_9:=tq e9 k14_6;have k15_9:=tq e9 k15_6;have k16_9:a9.tmps.getD 16 undef=.bool true:=f9 0 (by decide);have H9:=H6.below b9;have O9:(w9).ownsRow w.heap.size 98 284 v i (pth m (l.take i)):=own_below O b9;clear O;clear f9 e9 n9 y9 d9 b9 H6 k0_6 k2_6 k4_6 k6_6 k13_6 k14_6 k15_6 z6 D6;refine wpList_nil ?_;refine then_normal ?_;refine wp_seq ?_;refine wp_cond_true k16_9 ?_;refine wp_skip ?_;refine then_normal ?_;refine wp_seq ?_;refine wp_block ?_;refine wp_seq ?_;refine reg_seq 4 [.val 17 (.pointer (some ⟨g,0+i*13,none⟩)),.val 18 (.agg (tc pk px py pn)),.blk 8 68,.laid 8 68] [8] (fun _=>tc pk px py pn) (by kernel_rfl) (by exact⟨trivial,trivial,(by simp[Sp.ok]),(by simp[Sp.ok]),trivial⟩) (by intro p hp q hq hne;simp only[List.mem_cons,List.not_mem_nil,or_false]at hp hq;exact absurd (hp.trans hq.symm) hne) ?_ ?_
  ·refine⟨?_,?_,?_,?_,trivial⟩
   ·intro ac wx hC hsz hK
    have h0:ac.tmps.getD 13 undef=.slice (some ⟨g,0,none⟩) l.length c:=(hK.1 13 (by kernel_rfl)).trans k13_9;have h1:ac.tmps.getD 15 undef=.int .i64 ((i:Nat)):=(hK.1 15 (by kernel_rfl)).trans k15_9;refine mm_sem (Instr.indexAt 93 (ac.tmps.getD 13 undef) (ac.tmps.getD 15 undef)) (.pointer (some ⟨g,0+i*13,none⟩)) rfl (by kernel_rfl) (by kernel_rfl) ?_ hC (by kernel_rfl) (by rw[hsz,z9];decide) rfl;rw[h0,h1];exact at_slice (sz:=13) (g:=g) (o:=0) (i:=i) Tryz.underlying93 (by kernel_rfl) (by omega) wx
   ·intro ac wx hC hsz hK
    have h0:ac.tmps.getD 17 undef=.pointer (some ⟨g,0+i*13,none⟩):=hK.2 ⟨0,.data⟩ (by simp) rfl _ rfl;exact mm_load 68 (.tmp 17) (.pointer (some ⟨g,0+i*13,none⟩)) (.agg (tc pk px py pn)) rfl rfl (by kernel_rfl) h0 (ld_mid (tc pk px py pn) ((((H9.below hC.1).old).block g hgl).trans hg) (tls_at l i pk px py pn hp) Tryz.underlying68 rfl (by kernel_rfl)) hC (by kernel_rfl) (by rw[hsz,z9];decide) rfl
   ·intro ac wx hC hsz hK
    exact mm_new 68 (tc 0 0 0 false) rfl (by kernel_rfl) (by kernel_rfl) hC (by kernel_rfl) (by rw[hsz,z9];decide) rfl
   ·intro ac wx hC hsz hK
    have h0:ac.tmps.getD 18 undef=.agg (tc pk px py pn):=hK.2 ⟨1,.data⟩ (by simp) rfl _ rfl;exact mm_store (p:=8) 68 (.tmp 8) (.tmp 18) _ rfl rfl (by kernel_rfl) rfl h0 (by simp) (hK.2 ⟨2,.data⟩ (by simp) rfl _ rfl) (fun D cs h3 h4=>st_row h3 (by kernel_rfl) h4 (by kernel_rfl)) hC rfl
  intro a10 w10 y10 d10 e10 b10 n10 f10;have z10:=y10.trans z9;have D10:=d10.trans D9;have k0_10:=tq e10 k0_9;have k2_10:=tq e10 k2_9;have k4_10:=tq e10 k4_9;have k6_10:=tq e10 k6_9;have k13_10:=tq e10 k13_9;have k14_10:=tq e10 k14_9;have k15_10:=tq e10 k15_9;have k16_10:=tq e10 k16_9;obtain⟨g8_10,k8_10,ge8_10,r8_10⟩:=f10 3 (by decide);have k8_10:a10.tmps.getD 8 undef=.pointer (some ⟨g8_10,0,none⟩):=k8_10;have H10:HC w [(g8_10,tc pk px py pn,68),(g4_2,pc 0 0 false,26),(g2_1,#[.pointer (some ⟨F,0,none⟩)],53)] w10:=H9.cons b10 ge8_10 r8_10;have O10:(w10).ownsRow w.heap.size 98 284 v i (pth m (l.take i)):=own_below O9 b10;clear O9;clear f10 e10 n10 y10 d10 b10 ge8_10 r8_10 H9 k0_9 k2_9 k4_9 k6_9 k13_9 k14_9 k15_9 k16_9 z9 D9;refine wpList_nil ?_;refine then_normal ?_;refine wp_seq ?_;refine wp_seq ?_;by_cases hc16:([(px,py,pn)]).all (onB m)=true
  ·refine wp_region_list ?_
   refine tl_val (v:=.agg (#[.pointer (some ⟨F,0,none⟩)])) rfl rfl (by rw[z10];decide) (gr_load rfl k2_10 (ld_row (H10.is (.tail _ (.tail _ (.head _)))) Tryz.underlying53 rfl (by kernel_rfl))) ?_;intro a17 y17 d17 e17 k19_17;have z17:=y17.trans z10;have D17:=d17.trans D10;have k0_17:=tp e17 k0_10;have k2_17:=tp e17 k2_10;have k4_17:=tp e17 k4_10;have k6_17:=tp e17 k6_10;have k8_17:=tp e17 k8_10;have k13_17:=tp e17 k13_10;have k14_17:=tp e17 k14_10;have k15_17:=tp e17 k15_10;have k16_17:=tp e17 k16_10;clear e17 y17 d17 k0_10 k2_10 k4_10 k6_10 k8_10 k13_10 k14_10 k15_10 k16_10 z10 D10;refine tl_val (v:=.pointer (some ⟨g8_10,4,none⟩)) rfl rfl (by rw[z17];decide) (gr_fld rfl k8_17 (by kernel_rfl)) ?_;intro a18 y18 d18 e18 k20_18;have z18:=y18.trans z17;have D18:=d18.trans D17;have k0_18:=tp e18 k0_17;have k2_18:=tp e18 k2_17;have k4_18:=tp e18 k4_17;have k6_18:=tp e18 k6_17;have k8_18:=tp e18 k8_17;have k13_18:=tp e18 k13_17;have k14_18:=tp e18 k14_17;have k15_18:=tp e18 k15_17;have k16_18:=tp e18 k16_17;have k19_18:=tp e18 k19_17;clear e18 y18 d18 k0_17 k2_17 k4_17 k6_17 k8_17 k13_17 k14_17 k15_17 k16_17 k19_17 z17 D17;refine tl_val (v:=.agg (pc px py pn)) rfl rfl (by rw[z18];decide) (gr_load rfl k20_18 (ld_mid (pc px py pn) (H10.is (.head _)) (tc_4 pk px py pn) Tryz.underlying26 rfl (by kernel_rfl))) ?_;intro a19 y19 d19 e19 k21_19;have z19:=y19.trans z18;have D19:=d19.trans D18;have k0_19:=tp e19 k0_18;have k2_19:=tp e19 k2_18;have k4_19:=tp e19 k4_18;have k6_19:=tp e19 k6_18;have k8_19:=tp e19 k8_18;have k13_19:=tp e19 k13_18;have k14_19:=tp e19 k14_18;have k15_19:=tp e19 k15_18;have k16_19:=tp e19 k16_18;have k19_19:=tp e19 k19_18;have k20_19:=tp e19 k20_18;clear e19 y19 d19 k0_18 k2_18 k4_18 k6_18 k8_18 k13_18 k14_18 k15_18 k16_18 k19_18 k20_18 z18 D18;refine tl_slice (E:=26) (cs:=pls [(px,py,pn)]) (parts:=[(0,.tmp 21,.agg (pc px py pn))]) rfl rfl (by rw[z19];decide) rfl (fun p hp=>by simp only[List.mem_cons,List.not_mem_nil,or_false]at hp;subst hp;exact k21_19) (fun _=>by kernel_rfl) ?_;intro a20 y20 d20 e20 k22_20;have z20:=y20.trans z19;have D20:=d20.trans D19;have k0_20:=tp e20 k0_19;have k2_20:=tp e20 k2_19;have k4_20:=tp e20 k4_19;have k6_20:=tp e20 k6_19;have k8_20:=tp e20 k8_19;have k13_20:=tp e20 k13_19;have k14_20:=tp e20 k14_19;have k15_20:=tp e20 k15_19;have k16_20:=tp e20 k16_19;have k19_20:=tp e20 k19_19;have k20_20:=tp e20 k20_19;have k21_20:=tp e20 k21_19;obtain⟨g22_20,hg20⟩:∃ g,w10.heap.size=g:=⟨_,rfl⟩
   have H20:HC w [(g22_20,pls [(px,py,pn)],26),(g8_10,tc pk px py pn,68),(g4_2,pc 0 0 false,26),(g2_1,#[.pointer (some ⟨F,0,none⟩)],53)] (w10.alloc (.cells (pls [(px,py,pn)]) 26)):=hg20 ▸ H10.new (pls [(px,py,pn)]) 26;rw[hg20]at k22_20;have O20:(w10.alloc (.cells (pls [(px,py,pn)]) 26)).ownsRow w.heap.size 98 284 v i (pth m (l.take i)):=own_below O10 ((Below.refl _ _).alloc (Nat.le_refl _) _);clear O10;generalize w10.alloc (.cells (pls [(px,py,pn)]) 26)=w20 at O20 H20 |-
   clear hg20 e20 y20 d20 H10 k0_19 k2_19 k4_19 k6_19 k8_19 k13_19 k14_19 k15_19 k16_19 k19_19 k20_19 k21_19 z19 D19;refine tl_kcall (f:=27) (args:=#[a20.tmps.getD 19 undef,a20.tmps.getD 22 undef]) (v:=.bool true) rfl rfl (by rw[z20];decide) (by kernel_rfl) (by rw[k19_20,k22_20];exact(by have h:=ghold_any F m g22_20 1 ([(px,py,pn)]) (fun p hp=>by simp only[List.mem_cons,List.not_mem_nil,or_false]at hp;subst hp;exact⟨hpx,hpy⟩) (show(1:Nat)<4294967296 by decide) w20 (hF.below H20.old) (H20.is (.head _));rw[hc16]at h;exact h)) ?_;intro a21 w21 b21 y21 d21 e21 k23_21;have z21:=y21.trans z20;have D21:=d21.trans D20;have k0_21:=tp e21 k0_20;have k2_21:=tp e21 k2_20;have k4_21:=tp e21 k4_20;have k6_21:=tp e21 k6_20;have k8_21:=tp e21 k8_20;have k13_21:=tp e21 k13_20;have k14_21:=tp e21 k14_20;have k15_21:=tp e21 k15_20;have k16_21:=tp e21 k16_20;have k19_21:=tp e21 k19_20;have k20_21:=tp e21 k20_20;have k21_21:=tp e21 k21_20;have k22_21:=tp e21 k22_20;have H21:=H20.below b21;have O21:(w21).ownsRow w.heap.size 98 284 v i (pth m (l.take i)):=own_below O20 b21;clear O20;clear e21 y21 d21 b21 H20 k0_20 k2_20 k4_20 k6_20 k8_20 k13_20 k14_20 k15_20 k16_20 k19_20 k20_20 k21_20 k22_20 z20 D20;refine tl_val (v:=.bool false) rfl rfl (by rw[z21];decide) (gr_un rfl k23_21 (run_not _ _)) ?_;intro a22 y22 d22 e22 k24_22;have z22:=y22.trans z21;have D22:=d22.trans D21;have k0_22:=tp e22 k0_21;have k2_22:=tp e22 k2_21;have k4_22:=tp e22 k4_21;have k6_22:=tp e22 k6_21;have k8_22:=tp e22 k8_21;have k13_22:=tp e22 k13_21;have k14_22:=tp e22 k14_21;have k15_22:=tp e22 k15_21;have k16_22:=tp e22 k16_21;have k19_22:=tp e22 k19_21;have k20_22:=tp e22 k20_21;have k21_22:=tp e22 k21_21;have k22_22:=tp e22 k22_21;have k23_22:=tp e22 k23_21;clear e22 y22 d22 k0_21 k2_21 k4_21 k6_21 k8_21 k13_21 k14_21 k15_21 k16_21 k19_21 k20_21 k21_21 k22_21 k23_21 z21 D21;refine wpList_nil ?_;refine then_normal ?_;refine wp_cond_false k24_22 ?_;refine wp_skip ?_;refine then_normal ?_;refine wp_region_list ?_;refine tl_val (v:=v) rfl rfl (by rw[z22];decide) (run_assign (.inr rfl) k6_22) ?_;intro a23 y23 d23 e23 k26_23;have z23:=y23.trans z22;have D23:=d23.trans D22;have k0_23:=tp e23 k0_22;have k2_23:=tp e23 k2_22;have k4_23:=tp e23 k4_22;have k6_23:=tp e23 k6_22;have k8_23:=tp e23 k8_22;have k13_23:=tp e23 k13_22;have k14_23:=tp e23 k14_22;have k15_23:=tp e23 k15_22;have k16_23:=tp e23 k16_22;have k19_23:=tp e23 k19_22;have k20_23:=tp e23 k20_22;have k21_23:=tp e23 k21_22;have k22_23:=tp e23 k22_22;have k23_23:=tp e23 k23_22;have k24_23:=tp e23 k24_22;clear e23 y23 d23 k0_22 k2_22 k4_22 k6_22 k8_22 k13_22 k14_22 k15_22 k16_22 k19_22 k20_22 k21_22 k22_22 k23_22 k24_22 z22 D22;refine tl_val (v:=.agg (#[.pointer (some ⟨F,0,none⟩)])) rfl rfl (by rw[z23];decide) (gr_load rfl k2_23 (ld_row (H21.is (.tail _ (.tail _ (.tail _ (.head _))))) Tryz.underlying53 rfl (by kernel_rfl))) ?_;intro a24 y24 d24 e24 k27_24;have z24:=y24.trans z23;have D24:=d24.trans D23;have k0_24:=tp e24 k0_23;have k2_24:=tp e24 k2_23;have k4_24:=tp e24 k4_23;have k6_24:=tp e24 k6_23;have k8_24:=tp e24 k8_23;have k13_24:=tp e24 k13_23;have k14_24:=tp e24 k14_23;have k15_24:=tp e24 k15_23;have k16_24:=tp e24 k16_23;have k19_24:=tp e24 k19_23;have k20_24:=tp e24 k20_23;have k21_24:=tp e24 k21_23;have k22_24:=tp e24 k22_23;have k23_24:=tp e24 k23_23;have k24_24:=tp e24 k24_23;have k26_24:=tp e24 k26_23;clear e24 y24 d24 k0_23 k2_23 k4_23 k6_23 k8_23 k13_23 k14_23 k15_23 k16_23 k19_23 k20_23 k21_23 k22_23 k23_23 k24_23 k26_23 z23 D23;refine tl_val (v:=.agg (tc pk px py pn)) rfl rfl (by rw[z24];decide) (gr_load rfl k8_24 (ld_row (H21.is (.tail _ (.head _))) Tryz.underlying68 rfl (by kernel_rfl))) ?_;intro a25 y25 d25 e25 k28_25;have z25:=y25.trans z24;have D25:=d25.trans D24;have k0_25:=tp e25 k0_24;have k2_25:=tp e25 k2_24;have k4_25:=tp e25 k4_24;have k6_25:=tp e25 k6_24;have k8_25:=tp e25 k8_24;have k13_25:=tp e25 k13_24;have k14_25:=tp e25 k14_24;have k15_25:=tp e25 k15_24;have k16_25:=tp e25 k16_24;have k19_25:=tp e25 k19_24;have k20_25:=tp e25 k20_24;have k21_25:=tp e25 k21_24;have k22_25:=tp e25 k22_24;have k23_25:=tp e25 k23_24;have k24_25:=tp e25 k24_24;have k26_25:=tp e25 k26_24;have k27_25:=tp e25 k27_24;clear e25 y25 d25 k0_24 k2_24 k4_24 k6_24 k8_24 k13_24 k14_24 k15_24 k16_24 k19_24 k20_24 k21_24 k22_24 k23_24 k24_24 k26_24 k27_24 z24 D24;obtain⟨p0x,p0y,p0n,bp0x,bp0y,qp0⟩:=gtu_pc hm0 hmR hpx py pn;refine tl_kcall (f:=66) (args:=#[a25.tmps.getD 27 undef,a25.tmps.getD 28 undef]) (v:=.agg (ptl pk px py pn p0x p0y p0n)) rfl rfl (by rw[z25];decide) (by kernel_rfl) (by rw[k27_25,k28_25];exact(by have h:=gpath_any F m pk px py pn hpk hpx hpy w21 (hF.below H21.old);rw[ptc_is qp0]at h;exact h)) ?_;intro a26 w26 b26 y26 d26 e26 k29_26;have z26:=y26.trans z25;have D26:=d26.trans D25;have k0_26:=tp e26 k0_25;have k2_26:=tp e26 k2_25;have k4_26:=tp e26 k4_25;have k6_26:=tp e26 k6_25;have k8_26:=tp e26 k8_25;have k13_26:=tp e26 k13_25;have k14_26:=tp e26 k14_25;have k15_26:=tp e26 k15_25;have k16_26:=tp e26 k16_25;have k19_26:=tp e26 k19_25;have k20_26:=tp e26 k20_25;have k21_26:=tp e26 k21_25;have k22_26:=tp e26 k22_25;have k23_26:=tp e26 k23_25;have k24_26:=tp e26 k24_25;have k26_26:=tp e26 k26_25;have k27_26:=tp e26 k27_25;have k28_26:=tp e26 k28_25;have H26:=H21.below b26;have O26:(w26).ownsRow w.heap.size 98 284 v i (pth m (l.take i)):=own_below O21 b26;clear O21;clear e26 y26 d26 b26 H21 k0_25 k2_25 k4_25 k6_25 k8_25 k13_25 k14_25 k15_25 k16_25 k19_25 k20_25 k21_25 k22_25 k23_25 k24_25 k26_25 k27_25 k28_25 z25 D25;refine tl_slice (E:=98) (cs:=ptl pk px py pn p0x p0y p0n) (parts:=[(0,.tmp 29,.agg (ptl pk px py pn p0x p0y p0n))]) rfl rfl (by rw[z26];decide) rfl (fun p hp=>by simp only[List.mem_cons,List.not_mem_nil,or_false]at hp;subst hp;exact k29_26) (fun w=>bs_one (sz:=284) Tryz.underlying94 (by kernel_rfl) (by kernel_rfl) (by kernel_rfl) (by decide) (by decide) w) ?_;intro a27 y27 d27 e27 k30_27;have z27:=y27.trans z26;have D27:=d27.trans D26;have k0_27:=tp e27 k0_26;have k2_27:=tp e27 k2_26;have k4_27:=tp e27 k4_26;have k6_27:=tp e27 k6_26;have k8_27:=tp e27 k8_26;have k13_27:=tp e27 k13_26;have k14_27:=tp e27 k14_26;have k15_27:=tp e27 k15_26;have k16_27:=tp e27 k16_26;have k19_27:=tp e27 k19_26;have k20_27:=tp e27 k20_26;have k21_27:=tp e27 k21_26;have k22_27:=tp e27 k22_26;have k23_27:=tp e27 k23_26;have k24_27:=tp e27 k24_26;have k26_27:=tp e27 k26_26;have k27_27:=tp e27 k27_26;have k28_27:=tp e27 k28_26;have k29_27:=tp e27 k29_26;obtain⟨g30_27,hg27⟩:∃ g,w26.heap.size=g:=⟨_,rfl⟩
   have H27:HC w [(g30_27,ptl pk px py pn p0x p0y p0n,98),(g22_20,pls [(px,py,pn)],26),(g8_10,tc pk px py pn,68),(g4_2,pc 0 0 false,26),(g2_1,#[.pointer (some ⟨F,0,none⟩)],53)] (w26.alloc (.cells (ptl pk px py pn p0x p0y p0n) 98)):=hg27 ▸ H26.new (ptl pk px py pn p0x p0y p0n) 98;rw[hg27]at k30_27;have O27:(w26.alloc (.cells (ptl pk px py pn p0x p0y p0n) 98)).ownsRow w.heap.size 98 284 v i (pth m (l.take i)):=own_below O26 ((Below.refl _ _).alloc (Nat.le_refl _) _);clear O26;generalize w26.alloc (.cells (ptl pk px py pn p0x p0y p0n) 98)=w27 at O27 H27 |-
   clear hg27 e27 y27 d27 H26 k0_26 k2_26 k4_26 k6_26 k8_26 k13_26 k14_26 k15_26 k16_26 k19_26 k20_26 k21_26 k22_26 k23_26 k24_26 k26_26 k27_26 k28_26 k29_26 z26 D26;have rs28:=H27.is (.head _);have H29:HC w [(g22_20,pls [(px,py,pn)],26),(g8_10,tc pk px py pn,68),(g4_2,pc 0 0 false,26),(g2_1,#[.pointer (some ⟨F,0,none⟩)],53)] w27:=H27.drop1;have H30:HC w [(g8_10,tc pk px py pn,68),(g4_2,pc 0 0 false,26),(g2_1,#[.pointer (some ⟨F,0,none⟩)],53)] w27:=H29.drop1;have H31:HC w [(g4_2,pc 0 0 false,26),(g2_1,#[.pointer (some ⟨F,0,none⟩)],53)] w27:=H30.drop1;obtain⟨v28,w28,hr28,O28,hg28,hv28⟩:=path_append O27 (by kernel_rfl) rs28 (by kernel_rfl) (by omega) H31.old.size;have N28:∀ p∈([(g4_2,pc 0 0 false,26),(g2_1,#[.pointer (some ⟨F,0,none⟩)],53)]:List (Nat × Array Value × TypeId)),v28.ownBlock≠some p.1:=fun p hp e=>by
    rcases hv28 with h | h
    ·rw[h]at e;exact N p hp e
    ·rw[h]at e
     have h1:=(Array.getElem?_eq_some_iff.1 (H31.rows p hp).2).1;have h2:=Option.some.inj e;omega
   have H28:HC w [(g4_2,pc 0 0 false,26),(g2_1,#[.pointer (some ⟨F,0,none⟩)],53)] w28:=H31.grown hg28 (fun k hk=>⟨(O27.lt k hk).1,fun p hp e=>N p hp (by rw[hk,e])⟩);refine tl_any (v:=v28) (w':=w28) rfl rfl (by rw[z27];decide) (gr_sem (s:=Builtin.append_ #[94,94] 94 #[a27.tmps.getD 26 undef,a27.tmps.getD 30 undef]) (by kernel_rfl) (by rw[k26_27,k30_27];exact hr28)) ?_;intro a28 y28 d28 e28 k31_28;have z28:=y28.trans z27;have D28:=d28.trans D27;have k0_28:=tp e28 k0_27;have k2_28:=tp e28 k2_27;have k4_28:=tp e28 k4_27;have k6_28:=tp e28 k6_27;have k8_28:=tp e28 k8_27;have k13_28:=tp e28 k13_27;have k14_28:=tp e28 k14_27;have k15_28:=tp e28 k15_27;have k16_28:=tp e28 k16_27;have k19_28:=tp e28 k19_27;have k20_28:=tp e28 k20_27;have k21_28:=tp e28 k21_27;have k22_28:=tp e28 k22_27;have k23_28:=tp e28 k23_27;have k24_28:=tp e28 k24_27;have k26_28:=tp e28 k26_27;have k27_28:=tp e28 k27_27;have k28_28:=tp e28 k28_27;have k29_28:=tp e28 k29_27;have k30_28:=tp e28 k30_27;clear e28 y28 d28 k0_27 k2_27 k4_27 k6_27 k8_27 k13_27 k14_27 k15_27 k16_27 k19_27 k20_27 k21_27 k22_27 k23_27 k24_27 k26_27 k27_27 k28_27 k29_27 k30_27 z27 D27;refine tl_val (v:=v28) rfl rfl (by rw[z28];decide) (run_assign (.inl rfl) k31_28) ?_;intro a32 y32 d32 e32 k6_32;have z32:=y32.trans z28;have D32:=d32.trans D28;have k0_32:=tp e32 k0_28;have k2_32:=tp e32 k2_28;have k4_32:=tp e32 k4_28;have k8_32:=tp e32 k8_28;have k13_32:=tp e32 k13_28;have k14_32:=tp e32 k14_28;have k15_32:=tp e32 k15_28;have k16_32:=tp e32 k16_28;have k19_32:=tp e32 k19_28;have k20_32:=tp e32 k20_28;have k21_32:=tp e32 k21_28;have k22_32:=tp e32 k22_28;have k23_32:=tp e32 k23_28;have k24_32:=tp e32 k24_28;have k26_32:=tp e32 k26_28;have k27_32:=tp e32 k27_28;have k28_32:=tp e32 k28_28;have k29_32:=tp e32 k29_28;have k30_32:=tp e32 k30_28;have k31_32:=tp e32 k31_28;clear e32 y32 d32 k0_28 k2_28 k4_28 k6_28 k8_28 k13_28 k14_28 k15_28 k16_28 k19_28 k20_28 k21_28 k22_28 k23_28 k24_28 k26_28 k27_28 k28_28 k29_28 k30_28 k31_28 z28 D28;refine wpList_nil ?_;refine blk_normal ?_;refine then_normal ?_;refine wp_region_list ?_;refine tl_val (v:=.int .i64 ((i+1:Nat))) rfl rfl (by rw[z32];decide) (run_bin (u:=.int .i64 ((i:Nat))) (v:=.int .i64 1) rfl k15_32 rfl (by kernel_rfl) (add_in (by omega) (by omega) (by omega) w28)) ?_;intro a33 y33 d33 e33 k32_33;have z33:=y33.trans z32;have D33:=d33.trans D32;have k0_33:=tp e33 k0_32;have k2_33:=tp e33 k2_32;have k4_33:=tp e33 k4_32;have k6_33:=tp e33 k6_32;have k8_33:=tp e33 k8_32;have k13_33:=tp e33 k13_32;have k14_33:=tp e33 k14_32;have k15_33:=tp e33 k15_32;have k16_33:=tp e33 k16_32;have k19_33:=tp e33 k19_32;have k20_33:=tp e33 k20_32;have k21_33:=tp e33 k21_32;have k22_33:=tp e33 k22_32;have k23_33:=tp e33 k23_32;have k24_33:=tp e33 k24_32;have k26_33:=tp e33 k26_32;have k27_33:=tp e33 k27_32;have k28_33:=tp e33 k28_32;have k29_33:=tp e33 k29_32;have k30_33:=tp e33 k30_32;have k31_33:=tp e33 k31_32;clear e33 y33 d33 k0_32 k2_32 k4_32 k6_32 k8_32 k13_32 k14_32 k15_32 k16_32 k19_32 k20_32 k21_32 k22_32 k23_32 k24_32 k26_32 k27_32 k28_32 k29_32 k30_32 k31_32 z32 D32;refine tl_val (v:=.int .i64 ((i+1:Nat))) rfl rfl (by rw[z33];decide) (run_assign (.inr rfl) k32_33) ?_;intro a34 y34 d34 e34 k15_34;have z34:=y34.trans z33;have D34:=d34.trans D33;have k0_34:=tp e34 k0_33;have k2_34:=tp e34 k2_33;have k4_34:=tp e34 k4_33;have k6_34:=tp e34 k6_33;have k8_34:=tp e34 k8_33;have k13_34:=tp e34 k13_33;have k14_34:=tp e34 k14_33;have k16_34:=tp e34 k16_33;have k19_34:=tp e34 k19_33;have k20_34:=tp e34 k20_33;have k21_34:=tp e34 k21_33;have k22_34:=tp e34 k22_33;have k23_34:=tp e34 k23_33;have k24_34:=tp e34 k24_33;have k26_34:=tp e34 k26_33;have k27_34:=tp e34 k27_33;have k28_34:=tp e34 k28_33;have k29_34:=tp e34 k29_33;have k30_34:=tp e34 k30_33;have k31_34:=tp e34 k31_33;have k32_34:=tp e34 k32_33;clear e34 y34 d34 k0_33 k2_33 k4_33 k6_33 k8_33 k13_33 k14_33 k15_33 k16_33 k19_33 k20_33 k21_33 k22_33 k23_33 k24_33 k26_33 k27_33 k28_33 k29_33 k30_33 k31_33 k32_33 z33 D33;refine wpList_nil ?_;refine then_normal ⟨⟨(i+1),(v28),⟨by omega,by rw[List.take_add_one,hp,List.all_append,hP.2.1];show(true&&((onB m (px,py,pn))&&true))=true;rw[Bool.true_and,Bool.and_true];simpa using hc16,by rw[show pth m (l.take (i+1))=pth m (l.take i)++(ptl pk px py pn p0x p0y p0n).toList from by rw[List.take_add_one,hp];exact(pth_snoc m (l.take i) (pk,px,py,pn)).trans (by rw[ptc_is qp0])];exact O28,N28⟩,z34,D34,k0_34,k2_34,k4_34,k6_34,k13_34,k14_34,k15_34,H28⟩,?_⟩;show l.length - (intOf (a34.tmps.getD 15 undef)).toNat<l.length - (intOf (a6.tmps.getD 15 undef)).toNat;rw[k15_34,m5];simp[intOf];omega
  ·refine wp_region_list ?_
   refine tl_val (v:=.agg (#[.pointer (some ⟨F,0,none⟩)])) rfl rfl (by rw[z10];decide) (gr_load rfl k2_10 (ld_row (H10.is (.tail _ (.tail _ (.head _)))) Tryz.underlying53 rfl (by kernel_rfl))) ?_;intro a35 y35 d35 e35 k19_35;have z35:=y35.trans z10;have D35:=d35.trans D10;have k0_35:=tp e35 k0_10;have k2_35:=tp e35 k2_10;have k4_35:=tp e35 k4_10;have k6_35:=tp e35 k6_10;have k8_35:=tp e35 k8_10;have k13_35:=tp e35 k13_10;have k14_35:=tp e35 k14_10;have k15_35:=tp e35 k15_10;have k16_35:=tp e35 k16_10;clear e35 y35 d35 k0_10 k2_10 k4_10 k6_10 k8_10 k13_10 k14_10 k15_10 k16_10 z10 D10;refine tl_val (v:=.pointer (some ⟨g8_10,4,none⟩)) rfl rfl (by rw[z35];decide) (gr_fld rfl k8_35 (by kernel_rfl)) ?_;intro a36 y36 d36 e36 k20_36;have z36:=y36.trans z35;have D36:=d36.trans D35;have k0_36:=tp e36 k0_35;have k2_36:=tp e36 k2_35;have k4_36:=tp e36 k4_35;have k6_36:=tp e36 k6_35;have k8_36:=tp e36 k8_35;have k13_36:=tp e36 k13_35;have k14_36:=tp e36 k14_35;have k15_36:=tp e36 k15_35;have k16_36:=tp e36 k16_35;have k19_36:=tp e36 k19_35;clear e36 y36 d36 k0_35 k2_35 k4_35 k6_35 k8_35 k13_35 k14_35 k15_35 k16_35 k19_35 z35 D35;refine tl_val (v:=.agg (pc px py pn)) rfl rfl (by rw[z36];decide) (gr_load rfl k20_36 (ld_mid (pc px py pn) (H10.is (.head _)) (tc_4 pk px py pn) Tryz.underlying26 rfl (by kernel_rfl))) ?_;intro a37 y37 d37 e37 k21_37;have z37:=y37.trans z36;have D37:=d37.trans D36;have k0_37:=tp e37 k0_36;have k2_37:=tp e37 k2_36;have k4_37:=tp e37 k4_36;have k6_37:=tp e37 k6_36;have k8_37:=tp e37 k8_36;have k13_37:=tp e37 k13_36;have k14_37:=tp e37 k14_36;have k15_37:=tp e37 k15_36;have k16_37:=tp e37 k16_36;have k19_37:=tp e37 k19_36;have k20_37:=tp e37 k20_36;clear e37 y37 d37 k0_36 k2_36 k4_36 k6_36 k8_36 k13_36 k14_36 k15_36 k16_36 k19_36 k20_36 z36 D36;refine tl_slice (E:=26) (cs:=pls [(px,py,pn)]) (parts:=[(0,.tmp 21,.agg (pc px py pn))]) rfl rfl (by rw[z37];decide) rfl (fun p hp=>by simp only[List.mem_cons,List.not_mem_nil,or_false]at hp;subst hp;exact k21_37) (fun _=>by kernel_rfl) ?_;intro a38 y38 d38 e38 k22_38;have z38:=y38.trans z37;have D38:=d38.trans D37;have k0_38:=tp e38 k0_37;have k2_38:=tp e38 k2_37;have k4_38:=tp e38 k4_37;have k6_38:=tp e38 k6_37;have k8_38:=tp e38 k8_37;have k13_38:=tp e38 k13_37;have k14_38:=tp e38 k14_37;have k15_38:=tp e38 k15_37;have k16_38:=tp e38 k16_37;have k19_38:=tp e38 k19_37;have k20_38:=tp e38 k20_37;have k21_38:=tp e38 k21_37;obtain⟨g22_38,hg38⟩:∃ g,w10.heap.size=g:=⟨_,rfl⟩
   have H38:HC w [(g22_38,pls [(px,py,pn)],26),(g8_10,tc pk px py pn,68),(g4_2,pc 0 0 false,26),(g2_1,#[.pointer (some ⟨F,0,none⟩)],53)] (w10.alloc (.cells (pls [(px,py,pn)]) 26)):=hg38 ▸ H10.new (pls [(px,py,pn)]) 26;rw[hg38]at k22_38;have O38:(w10.alloc (.cells (pls [(px,py,pn)]) 26)).ownsRow w.heap.size 98 284 v i (pth m (l.take i)):=own_below O10 ((Below.refl _ _).alloc (Nat.le_refl _) _);clear O10;generalize w10.alloc (.cells (pls [(px,py,pn)]) 26)=w38 at O38 H38 |-
   clear hg38 e38 y38 d38 H10 k0_37 k2_37 k4_37 k6_37 k8_37 k13_37 k14_37 k15_37 k16_37 k19_37 k20_37 k21_37 z37 D37;refine tl_kcall (f:=27) (args:=#[a38.tmps.getD 19 undef,a38.tmps.getD 22 undef]) (v:=.bool false) rfl rfl (by rw[z38];decide) (by kernel_rfl) (by rw[k19_38,k22_38];exact(by have h:=ghold_any F m g22_38 1 ([(px,py,pn)]) (fun p hp=>by simp only[List.mem_cons,List.not_mem_nil,or_false]at hp;subst hp;exact⟨hpx,hpy⟩) (show(1:Nat)<4294967296 by decide) w38 (hF.below H38.old) (H38.is (.head _));rw[Bool.eq_false_iff.2 hc16]at h;exact h)) ?_;intro a39 w39 b39 y39 d39 e39 k23_39;have z39:=y39.trans z38;have D39:=d39.trans D38;have k0_39:=tp e39 k0_38;have k2_39:=tp e39 k2_38;have k4_39:=tp e39 k4_38;have k6_39:=tp e39 k6_38;have k8_39:=tp e39 k8_38;have k13_39:=tp e39 k13_38;have k14_39:=tp e39 k14_38;have k15_39:=tp e39 k15_38;have k16_39:=tp e39 k16_38;have k19_39:=tp e39 k19_38;have k20_39:=tp e39 k20_38;have k21_39:=tp e39 k21_38;have k22_39:=tp e39 k22_38;have H39:=H38.below b39;have O39:(w39).ownsRow w.heap.size 98 284 v i (pth m (l.take i)):=own_below O38 b39;clear O38;clear e39 y39 d39 b39 H38 k0_38 k2_38 k4_38 k6_38 k8_38 k13_38 k14_38 k15_38 k16_38 k19_38 k20_38 k21_38 k22_38 z38 D38;refine tl_val (v:=.bool true) rfl rfl (by rw[z39];decide) (gr_un rfl k23_39 (run_not _ _)) ?_;intro a40 y40 d40 e40 k24_40;have z40:=y40.trans z39;have D40:=d40.trans D39;have k0_40:=tp e40 k0_39;have k2_40:=tp e40 k2_39;have k4_40:=tp e40 k4_39;have k6_40:=tp e40 k6_39;have k8_40:=tp e40 k8_39;have k13_40:=tp e40 k13_39;have k14_40:=tp e40 k14_39;have k15_40:=tp e40 k15_39;have k16_40:=tp e40 k16_39;have k19_40:=tp e40 k19_39;have k20_40:=tp e40 k20_39;have k21_40:=tp e40 k21_39;have k22_40:=tp e40 k22_39;have k23_40:=tp e40 k23_39;clear e40 y40 d40 k0_39 k2_39 k4_39 k6_39 k8_39 k13_39 k14_39 k15_39 k16_39 k19_39 k20_39 k21_39 k22_39 k23_39 z39 D39;refine wpList_nil ?_;refine then_normal ?_;refine wp_cond_true k24_40 ?_;refine wp_seq ?_;refine reg_seq 1 [.val 25 (.agg (pc 0 0 true))] [] (fun _=>#[]) (by kernel_rfl) (by exact⟨trivial,trivial⟩) (fun p hp=>by cases hp) ?_ ?_
   ·refine⟨?_,trivial⟩
    ·intro ac wx hC hsz hK
     refine mm_call 28 #[] (.agg (pc 0 0 true)) rfl (by kernel_rfl) (by kernel_rfl) ?_ hC (by kernel_rfl) (by rw[hsz,z40];decide) rfl;exact gnone_any wx
   intro a41 w41 y41 d41 e41 b41 n41 f41;have z41:=y41.trans z40;have D41:=d41.trans D40;have k0_41:=tq e41 k0_40;have k2_41:=tq e41 k2_40;have k4_41:=tq e41 k4_40;have k6_41:=tq e41 k6_40;have k8_41:=tq e41 k8_40;have k13_41:=tq e41 k13_40;have k14_41:=tq e41 k14_40;have k15_41:=tq e41 k15_40;have k16_41:=tq e41 k16_40;have k19_41:=tq e41 k19_40;have k20_41:=tq e41 k20_40;have k21_41:=tq e41 k21_40;have k22_41:=tq e41 k22_40;have k23_41:=tq e41 k23_40;have k24_41:=tq e41 k24_40;have k25_41:a41.tmps.getD 25 undef=.agg (pc 0 0 true):=f41 0 (by decide);have H41:=H39.below b41;have O41:(w41).ownsRow w.heap.size 98 284 v i (pth m (l.take i)):=own_below O39 b41;clear O39;clear f41 e41 n41 y41 d41 b41 H39 k0_40 k2_40 k4_40 k6_40 k8_40 k13_40 k14_40 k15_40 k16_40 k19_40 k20_40 k21_40 k22_40 k23_40 k24_40 z40 D40;clear O41;refine tl_store rfl rfl rfl k4_41 k25_41 (H41.is (.tail _ (.tail _ (.head _)))) (by kernel_rfl) (by kernel_rfl) (by kernel_rfl) ?_;have H42:HC w [(g22_38,pls [(px,py,pn)],26),(g8_10,tc pk px py pn,68),(g4_2,pc 0 0 true,26),(g2_1,#[.pointer (some ⟨F,0,none⟩)],53)] (w41.setRow g4_2 (pc 0 0 true)):=HC.set [(g22_38,pls [(px,py,pn)],26),(g8_10,tc pk px py pn,68)] [(g2_1,#[.pointer (some ⟨F,0,none⟩)],53)] H41 (pc 0 0 true);generalize w41.setRow g4_2 (pc 0 0 true)=w42 at H42 |-
   clear H41;refine tl_val (v:=.int .i64 81) rfl rfl (by rw[z41];decide) (run_assign (.inl rfl) rfl) ?_;intro a43 y43 d43 e43 k5_43;have z43:=y43.trans z41;have D43:=d43.trans D41;have k0_43:=tp e43 k0_41;have k2_43:=tp e43 k2_41;have k4_43:=tp e43 k4_41;have k6_43:=tp e43 k6_41;have k8_43:=tp e43 k8_41;have k13_43:=tp e43 k13_41;have k14_43:=tp e43 k14_41;have k15_43:=tp e43 k15_41;have k16_43:=tp e43 k16_41;have k19_43:=tp e43 k19_41;have k20_43:=tp e43 k20_41;have k21_43:=tp e43 k21_41;have k22_43:=tp e43 k22_41;have k23_43:=tp e43 k23_41;have k24_43:=tp e43 k24_41;have k25_43:=tp e43 k25_41;clear e43 y43 d43 k0_41 k2_41 k4_41 k6_41 k8_41 k13_41 k14_41 k15_41 k16_41 k19_41 k20_41 k21_41 k22_41 k23_41 k24_41 k25_41 z41 D41;refine wpList_nil ?_;refine then_normal ?_;refine wp_ret ?_;refine then_ret ?_;refine blk_ret ?_;refine then_ret ?_;refine then_ret ?_;refine blk_ret ?_;refine then_ret ?_;refine bodyPost_ret (v:=.tuple #[.agg (pc 0 0 true),.int .i64 81]) (results_cell_tmp rfl _ (pc 0 0 true) _ k4_43 (H42.is (.tail _ (.tail _ (.head _)))) Tryz.underlying26 rfl (by kernel_rfl) k5_43) D43 ?_;have hf:¬l.all (fun t=>onB m t.2)=true:=by
    rw[Bool.not_eq_true,List.all_eq_false];exact⟨(pk,px,py,pn),List.mem_of_getElem? hp,by simpa using hc16⟩
   exact⟨by rw[if_neg hf,if_neg hf],H42.old⟩
 ·refine reg_seq 1 [.val 16 (.bool false)] [] (fun _=>#[]) (by kernel_rfl) (by exact⟨trivial,trivial⟩) (fun p hp=>by cases hp) ?_ ?_
  ·refine⟨?_,trivial⟩
   ·intro ac wx hC hsz hK
    have h0:ac.tmps.getD 15 undef=.int .i64 ((i:Nat)):=(hK.1 15 (by kernel_rfl)).trans k15_6;have h1:ac.tmps.getD 14 undef=.int .i64 ((l.length:Nat)):=(hK.1 14 (by kernel_rfl)).trans k14_6;exact mm_bin .lss 3 (.tmp 15) (.tmp 14) 3 (.int .i64 ((i:Nat))) (.int .i64 ((l.length:Nat))) (.bool false) rfl rfl (by kernel_rfl) h0 h1 (by kernel_rfl) (lss_no hc8 wx) hC (by kernel_rfl) (by rw[hsz,z6];decide) rfl
  intro a44 w44 y44 d44 e44 b44 n44 f44;have z44:=y44.trans z6;have D44:=d44.trans D6;have k0_44:=tq e44 k0_6;have k2_44:=tq e44 k2_6;have k4_44:=tq e44 k4_6;have k6_44:=tq e44 k6_6;have k13_44:=tq e44 k13_6;have k14_44:=tq e44 k14_6;have k15_44:=tq e44 k15_6;have k16_44:a44.tmps.getD 16 undef=.bool false:=f44 0 (by decide);have H44:=H6.below b44;have O44:(w44).ownsRow w.heap.size 98 284 v i (pth m (l.take i)):=own_below O b44;clear O;clear f44 e44 n44 y44 d44 b44 H6 k0_6 k2_6 k4_6 k6_6 k13_6 k14_6 k15_6 z6 D6;refine wpList_nil ?_;refine then_normal ?_;refine wp_seq ?_;refine wp_cond_false k16_44 ?_;refine wp_exit ?_;refine then_exit ?_;refine then_exit ?_;refine blk_exit ?_;refine then_normal ?_;refine wp_seq ?_;have hil:i=l.length:=by omega
  subst hil;have O:=O44;rw[List.take_length]at O;obtain⟨gp,cp,cur,hv,HP,hcur⟩:=HC.own H44 O N h0;subst hv;clear H44;have hAll:=hP.2.1;rw[List.take_length]at hAll;refine wp_region_list ?_;refine tl_new (z:=jc 0 0 0) (T:=90) rfl rfl (by rw[z44];decide) (by kernel_rfl) ?_;intro a45 y45 d45 e45 k9_45;have z45:=y45.trans z44;have D45:=d45.trans D44;have k0_45:=tp e45 k0_44;have k2_45:=tp e45 k2_44;have k4_45:=tp e45 k4_44;have k6_45:=tp e45 k6_44;have k13_45:=tp e45 k13_44;have k14_45:=tp e45 k14_44;obtain⟨g9_45,hg45⟩:∃ g,w44.heap.size=g:=⟨_,rfl⟩
  have H45:HC w [(g9_45,jc 0 0 0,90),(gp,cur,98),(g4_2,pc 0 0 false,26),(g2_1,#[.pointer (some ⟨F,0,none⟩)],53)] (w44.alloc (.cells (jc 0 0 0) 90)):=hg45 ▸ HP.new (jc 0 0 0) 90;rw[hg45]at k9_45;generalize w44.alloc (.cells (jc 0 0 0) 90)=w45 at H45 |-
  clear hg45 e45 y45 d45 HP k0_44 k2_44 k4_44 k6_44 k13_44 k14_44 z44 D44;refine wpList_nil ?_;refine then_normal ?_;refine wp_seq ?_;refine wp_seq ?_;refine reg_seq 1 [.val 10 (.int .i64 256)] [] (fun _=>#[]) (by kernel_rfl) (by exact⟨trivial,trivial⟩) (fun p hp=>by cases hp) ?_ ?_
  ·refine⟨?_,trivial⟩
   ·intro ac wx hC hsz hK
    exact mm_val (.int .i64 256) rfl (by kernel_rfl) (run_assign (.inl rfl) rfl) hC (by kernel_rfl) (by rw[hsz,z45];decide) rfl
  intro a46 w46 y46 d46 e46 b46 n46 f46;have z46:=y46.trans z45;have D46:=d46.trans D45;have k0_46:=tq e46 k0_45;have k2_46:=tq e46 k2_45;have k4_46:=tq e46 k4_45;have k6_46:=tq e46 k6_45;have k9_46:=tq e46 k9_45;have k13_46:=tq e46 k13_45;have k14_46:=tq e46 k14_45;have k10_46:a46.tmps.getD 10 undef=.int .i64 256:=f46 0 (by decide);have H46:=H45.below b46;clear f46 e46 n46 y46 d46 b46 H45 k0_45 k2_45 k4_45 k6_45 k9_45 k13_45 k14_45 z45 D45;refine wpList_nil ?_;refine then_normal ?_;refine wp_block ?_;have k10_47:a46.tmps.getD 10 undef=.int .i64 (((257:Nat):Int) - 1):=by rw[k10_46];rfl
  refine wp_loop (fun a wr=>∃ j:Nat,∃ A2:Nat,∃ B2:Nat,∃ C2:Nat,(j<=257/\gwk m l (257 - j)=(A2,B2,C2)/\A2<115792089237316195423570985008687907853269984665640564039457584007913129639936/\B2<115792089237316195423570985008687907853269984665640564039457584007913129639936/\C2<115792089237316195423570985008687907853269984665640564039457584007913129639936)/\a.tmps.size=60/\a.defers=[]/\a.tmps.getD 0 undef=.agg (#[.pointer (some ⟨F,0,none⟩)])/\a.tmps.getD 2 undef=.pointer (some ⟨g2_1,0,none⟩)/\a.tmps.getD 4 undef=.pointer (some ⟨g4_2,0,none⟩)/\a.tmps.getD 6 undef=.slice (some ⟨gp,0,none⟩) l.length cp/\a.tmps.getD 9 undef=.pointer (some ⟨g9_45,0,none⟩)/\a.tmps.getD 10 undef=.int .i64 (((j:Nat):Int) - 1)/\a.tmps.getD 13 undef=.slice (some ⟨g,0,none⟩) l.length c/\a.tmps.getD 14 undef=.int .i64 ((l.length:Nat))/\HC w [(g9_45,jc A2 B2 C2,90),(gp,cur,98),(g4_2,pc 0 0 false,26),(g2_1,#[.pointer (some ⟨F,0,none⟩)],53)] wr) (fun a _=>(intOf (a.tmps.getD 10 undef)+1).toNat) ⟨257,0,0,0,⟨Nat.le_refl _,rfl,by omega,by omega,by omega⟩,z46,D46,k0_46,k2_46,k4_46,k6_46,k9_46,k10_47,k13_46,k14_46,H46⟩ ?_;clear z46 D46 H46 k0_46 k2_46 k4_46 k6_46 k13_46 k14_46 k9_46 k10_47;rintro a48 w48 ⟨j,A2,B2,C2,hP48,z48,D48,k0_48,k2_48,k4_48,k6_48,k9_48,k10_48,k13_48,k14_48,H48⟩;have m6:(intOf (a48.tmps.getD 10 undef)+1).toNat=j:=by rw[k10_48];simp[intOf]
  rename j<=257/\_=>hQ
  have hj0:=hQ.1;obtain⟨bA2,bB2,bC2⟩:=hQ.2.2;refine wp_seq ?_;refine wp_seq ?_;by_cases hc50:((j:Nat):Int) - 1 ≥ (0:Int)
  ·obtain⟨ii,hii⟩:∃ ii,j=ii+1:=⟨j - 1,by omega⟩
   have k10b:a48.tmps.getD 10 undef=.int .i64 ((ii:Nat):Int):=by rw[k10_48];congr 1;omega
   have hii0:((ii:Nat):Int) ≥ (0:Int):=by omega
   refine reg_seq 2 [.val 33 (.int .i64 ((ii:Nat))),.val 34 (.bool true)] [] (fun _=>#[]) (by kernel_rfl) (by exact⟨trivial,trivial,trivial⟩) (fun p hp=>by cases hp) ?_ ?_
   ·refine⟨?_,?_,trivial⟩
    ·intro ac wx hC hsz hK
     have h0:ac.tmps.getD 10 undef=.int .i64 ((ii:Nat)):=(hK.1 10 (by kernel_rfl)).trans k10b;exact mm_val (.int .i64 ((ii:Nat))) rfl (by kernel_rfl) (run_assign (.inr rfl) h0) hC (by kernel_rfl) (by rw[hsz,z48];decide) rfl
    ·intro ac wx hC hsz hK
     have h0:ac.tmps.getD 33 undef=.int .i64 ((ii:Nat)):=hK.2 ⟨0,.data⟩ (by simp) rfl _ rfl;exact mm_bin .geq 3 (.tmp 33) (.const (.int .i64 0)) 3 (.int .i64 ((ii:Nat))) (.int .i64 0) (.bool true) rfl rfl (by kernel_rfl) h0 rfl (by kernel_rfl) (geq_yes hii0 wx) hC (by kernel_rfl) (by rw[hsz,z48];decide) rfl
   intro a51 w51 y51 d51 e51 b51 n51 f51;have z51:=y51.trans z48;have D51:=d51.trans D48;have k0_51:=tq e51 k0_48;have k2_51:=tq e51 k2_48;have k4_51:=tq e51 k4_48;have k6_51:=tq e51 k6_48;have k9_51:=tq e51 k9_48;have k10_51:a51.tmps.getD 10 undef=.int .i64 ((ii:Nat)):=(e51 10 (by kernel_rfl)).trans k10b;have k13_51:=tq e51 k13_48;have k14_51:=tq e51 k14_48;have k34_51:a51.tmps.getD 34 undef=.bool true:=f51 1 (by decide);have H51:=H48.below b51;clear f51 e51 n51 y51 d51 b51 H48 k0_48 k2_48 k4_48 k6_48 k9_48 k10b k13_48 k14_48 z48 D48;refine wpList_nil ?_;refine then_normal ?_;refine wp_cond_true k34_51 ?_;refine wp_skip ?_;refine then_normal ?_;refine wp_seq ?_;refine wp_block ?_;refine wp_seq ?_;obtain⟨t0a,t0b,t0c,qt0⟩:∃ a b c,gtw m (A2,B2,C2)=(a,b,c):=⟨_,_,_,rfl⟩
   obtain⟨bt0a,bt0b,bt0c⟩:=gtw_lt hm0 hmR bA2 bB2 bC2 qt0;refine reg_seq 3 [.val 37 (.agg (#[.pointer (some ⟨F,0,none⟩)])),.val 38 (.agg (jc A2 B2 C2)),.val 39 (.agg (jc t0a t0b t0c))] [] (fun _=>#[]) (by kernel_rfl) (by exact⟨trivial,trivial,trivial,trivial⟩) (fun p hp=>by cases hp) ?_ ?_
   ·refine⟨?_,?_,?_,trivial⟩
    ·intro ac wx hC hsz hK
     have h0:ac.tmps.getD 2 undef=.pointer (some ⟨g2_1,0,none⟩):=(hK.1 2 (by kernel_rfl)).trans k2_51;exact mm_load 53 (.tmp 2) (.pointer (some ⟨g2_1,0,none⟩)) (.agg (#[.pointer (some ⟨F,0,none⟩)])) rfl rfl (by kernel_rfl) h0 (ld_row ((H51.below hC.1).is (.tail _ (.tail _ (.tail _ (.head _))))) Tryz.underlying53 rfl (by kernel_rfl)) hC (by kernel_rfl) (by rw[hsz,z51];decide) rfl
    ·intro ac wx hC hsz hK
     have h0:ac.tmps.getD 9 undef=.pointer (some ⟨g9_45,0,none⟩):=(hK.1 9 (by kernel_rfl)).trans k9_51;exact mm_load 90 (.tmp 9) (.pointer (some ⟨g9_45,0,none⟩)) (.agg (jc A2 B2 C2)) rfl rfl (by kernel_rfl) h0 (ld_row ((H51.below hC.1).is (.head _)) Tryz.underlying90 rfl (by kernel_rfl)) hC (by kernel_rfl) (by rw[hsz,z51];decide) rfl
    ·intro ac wx hC hsz hK
     have h0:ac.tmps.getD 37 undef=.agg (#[.pointer (some ⟨F,0,none⟩)]):=hK.2 ⟨0,.data⟩ (by simp) rfl _ rfl;have h1:ac.tmps.getD 38 undef=.agg (jc A2 B2 C2):=hK.2 ⟨1,.data⟩ (by simp) rfl _ rfl;refine mm_call 67 #[ac.tmps.getD 37 undef,ac.tmps.getD 38 undef] (.agg (jc t0a t0b t0c)) rfl (by kernel_rfl) (by kernel_rfl) ?_ hC (by kernel_rfl) (by rw[hsz,z51];decide) rfl;rw[h0,h1];exact(by have h:=gtwice_any F m A2 B2 C2 bA2 bB2 bC2 wx (hF.below (H51.below hC.1).old);rw[qt0]at h;exact h)
   intro a52 w52 y52 d52 e52 b52 n52 f52;have z52:=y52.trans z51;have D52:=d52.trans D51;have k0_52:=tq e52 k0_51;have k2_52:=tq e52 k2_51;have k4_52:=tq e52 k4_51;have k6_52:=tq e52 k6_51;have k9_52:=tq e52 k9_51;have k10_52:=tq e52 k10_51;have k13_52:=tq e52 k13_51;have k14_52:=tq e52 k14_51;have k34_52:=tq e52 k34_51;have k39_52:a52.tmps.getD 39 undef=.agg (jc t0a t0b t0c):=f52 2 (by decide);have H52:=H51.below b52;clear f52 e52 n52 y52 d52 b52 H51 k0_51 k2_51 k4_51 k6_51 k9_51 k10_51 k13_51 k14_51 k34_51 z51 D51;refine tl_store rfl rfl rfl k9_52 k39_52 (H52.is (.head _)) (by kernel_rfl) (by kernel_rfl) (by kernel_rfl) ?_;have H53:HC w [(g9_45,jc t0a t0b t0c,90),(gp,cur,98),(g4_2,pc 0 0 false,26),(g2_1,#[.pointer (some ⟨F,0,none⟩)],53)] (w52.setRow g9_45 (jc t0a t0b t0c)):=HC.set [] [(gp,cur,98),(g4_2,pc 0 0 false,26),(g2_1,#[.pointer (some ⟨F,0,none⟩)],53)] H52 (jc t0a t0b t0c);generalize w52.setRow g9_45 (jc t0a t0b t0c)=w53 at H53 |-
   clear H52;refine wpList_nil ?_;refine then_normal ?_;refine wp_seq ?_;refine reg_seq 3 [.val 40 (.slice (some ⟨gp,0,none⟩) l.length cp),.val 41 (.int .i64 ((l.length:Nat))),.val 42 (.int .i64 0)] [] (fun _=>#[]) (by kernel_rfl) (by exact⟨trivial,trivial,trivial,trivial⟩) (fun p hp=>by cases hp) ?_ ?_
   ·refine⟨?_,?_,?_,trivial⟩
    ·intro ac wx hC hsz hK
     have h0:ac.tmps.getD 6 undef=.slice (some ⟨gp,0,none⟩) l.length cp:=(hK.1 6 (by kernel_rfl)).trans k6_52;exact mm_val (.slice (some ⟨gp,0,none⟩) l.length cp) rfl (by kernel_rfl) (run_assign (.inr rfl) h0) hC (by kernel_rfl) (by rw[hsz,z52];decide) rfl
    ·intro ac wx hC hsz hK
     have h0:ac.tmps.getD 40 undef=.slice (some ⟨gp,0,none⟩) l.length cp:=hK.2 ⟨0,.data⟩ (by simp) rfl _ rfl;refine mm_sem (Builtin.len_ #[94] 3 #[ac.tmps.getD 40 undef]) (.int .i64 ((l.length:Nat))) rfl (by kernel_rfl) (by kernel_rfl) ?_ hC (by kernel_rfl) (by rw[hsz,z52];decide) rfl;rw[h0];exact len_slice Tryz.underlying94 wx
    ·intro ac wx hC hsz hK
     exact mm_val (.int .i64 0) rfl (by kernel_rfl) (run_assign (.inr rfl) rfl) hC (by kernel_rfl) (by rw[hsz,z52];decide) rfl
   intro a54 w54 y54 d54 e54 b54 n54 f54;have z54:=y54.trans z52;have D54:=d54.trans D52;have k0_54:=tq e54 k0_52;have k2_54:=tq e54 k2_52;have k4_54:=tq e54 k4_52;have k6_54:=tq e54 k6_52;have k9_54:=tq e54 k9_52;have k10_54:=tq e54 k10_52;have k13_54:=tq e54 k13_52;have k14_54:=tq e54 k14_52;have k34_54:=tq e54 k34_52;have k39_54:=tq e54 k39_52;have k40_54:a54.tmps.getD 40 undef=.slice (some ⟨gp,0,none⟩) l.length cp:=f54 0 (by decide);have k41_54:a54.tmps.getD 41 undef=.int .i64 ((l.length:Nat)):=f54 1 (by decide);have k42_54:a54.tmps.getD 42 undef=.int .i64 0:=f54 2 (by decide);have H54:=H53.below b54;clear f54 e54 n54 y54 d54 b54 H53 k0_52 k2_52 k4_52 k6_52 k9_52 k10_52 k13_52 k14_52 k34_52 k39_52 z52 D52;refine wpList_nil ?_;refine then_normal ?_;refine wp_block ?_;refine wp_loop (fun a wr=>∃ i2:Nat,∃ A3:Nat,∃ B3:Nat,∃ C3:Nat,(i2<=l.length/\gin m ii (l.take i2) (t0a,t0b,t0c)=(A3,B3,C3)/\A3<115792089237316195423570985008687907853269984665640564039457584007913129639936/\B3<115792089237316195423570985008687907853269984665640564039457584007913129639936/\C3<115792089237316195423570985008687907853269984665640564039457584007913129639936)/\a.tmps.size=60/\a.defers=[]/\a.tmps.getD 0 undef=.agg (#[.pointer (some ⟨F,0,none⟩)])/\a.tmps.getD 2 undef=.pointer (some ⟨g2_1,0,none⟩)/\a.tmps.getD 4 undef=.pointer (some ⟨g4_2,0,none⟩)/\a.tmps.getD 6 undef=.slice (some ⟨gp,0,none⟩) l.length cp/\a.tmps.getD 9 undef=.pointer (some ⟨g9_45,0,none⟩)/\a.tmps.getD 10 undef=.int .i64 ((ii:Nat))/\a.tmps.getD 13 undef=.slice (some ⟨g,0,none⟩) l.length c/\a.tmps.getD 14 undef=.int .i64 ((l.length:Nat))/\a.tmps.getD 34 undef=.bool true/\a.tmps.getD 39 undef=.agg (jc t0a t0b t0c)/\a.tmps.getD 40 undef=.slice (some ⟨gp,0,none⟩) l.length cp/\a.tmps.getD 41 undef=.int .i64 ((l.length:Nat))/\a.tmps.getD 42 undef=.int .i64 ((i2:Nat))/\HC w [(g9_45,jc A3 B3 C3,90),(gp,cur,98),(g4_2,pc 0 0 false,26),(g2_1,#[.pointer (some ⟨F,0,none⟩)],53)] wr) (fun a _=>l.length - (intOf (a.tmps.getD 42 undef)).toNat) ⟨0,t0a,t0b,t0c,⟨Nat.zero_le _,rfl,bt0a,bt0b,bt0c⟩,z54,D54,k0_54,k2_54,k4_54,k6_54,k9_54,k10_54,k13_54,k14_54,k34_54,k39_54,k40_54,k41_54,k42_54,H54⟩ ?_;clear z54 D54 H54 k0_54 k2_54 k4_54 k6_54 k9_54 k10_54 k13_54 k14_54 k34_54 k39_54 k40_54 k41_54 k42_54;rintro a55 w55 ⟨i2,A3,B3,C3,hP55,z55,D55,k0_55,k2_55,k4_55,k6_55,k9_55,k10_55,k13_55,k14_55,k34_55,k39_55,k40_55,k41_55,k42_55,H55⟩;have m7:(intOf (a55.tmps.getD 42 undef)).toNat=i2:=by rw[k42_55];rfl
   rename i2<=l.length/\_=>hS
   have hi2:=hS.1;obtain⟨bA3,bB3,bC3⟩:=hS.2.2;refine wp_seq ?_;by_cases hc57:((i2:Nat):Int)<((l.length:Nat):Int)
   ·have hil:i2<l.length:=by omega
    obtain⟨⟨pk,px,py,pn⟩,hp⟩:∃ p,l[i2]?=some p:=⟨l[i2],by simp[hil]⟩
    obtain⟨hpk,hpx,hpy⟩:=hl _ (List.mem_of_getElem? hp);dsimp only at hpk hpx hpy;obtain⟨qx,qy,qn,bqx,bqy,hq⟩:=gtu_pc hm0 hmR hpx py pn;have hpt:∀ j,j<(ptl pk px py pn qx qy qn).size->cur[0+i2*284+j]?=(ptl pk px py pn qx qy qn)[j]?:=fun j hj=>by
     rw[ptl_size]at hj;rw[show 0+i2*284+j=i2*284+j by omega,hcur _ (by omega),pth_at m l i2 pk px py pn hp j hj,ptc_is hq]
    obtain⟨dd,hdd⟩:∃ d,sdg (sth pk ii)=d:=⟨_,rfl⟩
    have hd3:dd<3:=by rw[<- hdd];exact sdg_lt _
    have hdg:(ptl pk px py pn qx qy qn)[27+ii*1]?=some (.int .i64 ((dd:Nat):Int)):=by
     have h:=ptc_dg m pk px py pn ii (by omega);rw[ptc_is hq,hdd]at h;exact h
    obtain⟨⟨sx,sy,sn⟩,hs⟩:∃ s,spt m (px,py,pn) dd=s:=⟨_,rfl⟩
    have hsb:=spt_lt hm0 hmR (p:=(px,py,pn)) ⟨hpx,hpy⟩ dd;rw[hs]at hsb;obtain⟨bsx,bsy⟩:=hsb;dsimp only at bsx bsy;have hsp:∀ j,j<(pc sx sy sn).size->(ptl pk px py pn qx qy qn)[0+dd*9+j]?=(pc sx sy sn)[j]?:=fun j hj=>by
     rw[pc_size]at hj;have h:=ptc_pt m pk px py pn dd hd3 j hj;rw[ptc_is hq,hs]at h;exact h
    refine reg_seq 1 [.val 43 (.bool true)] [] (fun _=>#[]) (by kernel_rfl) (by exact⟨trivial,trivial⟩) (fun p hp=>by cases hp) ?_ ?_
    ·refine⟨?_,trivial⟩
     ·intro ac wx hC hsz hK
      have h0:ac.tmps.getD 42 undef=.int .i64 ((i2:Nat)):=(hK.1 42 (by kernel_rfl)).trans k42_55;have h1:ac.tmps.getD 41 undef=.int .i64 ((l.length:Nat)):=(hK.1 41 (by kernel_rfl)).trans k41_55;exact mm_bin .lss 3 (.tmp 42) (.tmp 41) 3 (.int .i64 ((i2:Nat))) (.int .i64 ((l.length:Nat))) (.bool true) rfl rfl (by kernel_rfl) h0 h1 (by kernel_rfl) (lss_yes hc57 wx) hC (by kernel_rfl) (by rw[hsz,z55];decide) rfl
    intro a58 w58 y58 d58 e58 b58 n58 f58;have z58:=y58.trans z55;have D58:=d58.trans D55;have k0_58:=tq e58 k0_55;have k2_58:=tq e58 k2_55;have k4_58:=tq e58 k4_55;have k6_58:=tq e58 k6_55;have k9_58:=tq e58 k9_55;have k10_58:=tq e58 k10_55;have k13_58:=tq e58 k13_55;have k14_58:=tq e58 k14_55;have k34_58:=tq e58 k34_55;have k39_58:=tq e58 k39_55;have k40_58:=tq e58 k40_55;have k41_58:=tq e58 k41_55;have k42_58:=tq e58 k42_55;have k43_58:a58.tmps.getD 43 undef=.bool true:=f58 0 (by decide);have H58:=H55.below b58;clear f58 e58 n58 y58 d58 b58 H55 k0_55 k2_55 k4_55 k6_55 k9_55 k10_55 k13_55 k14_55 k34_55 k39_55 k40_55 k41_55 k42_55 z55 D55;refine wpList_nil ?_;refine then_normal ?_;refine wp_seq ?_;refine wp_cond_true k43_58 ?_;refine wp_skip ?_;refine then_normal ?_;refine wp_seq ?_;refine wp_block ?_;refine wp_seq ?_;refine reg_seq 4 [.val 44 (.pointer (some ⟨gp,0+i2*284,none⟩)),.val 45 (.agg (ptl pk px py pn qx qy qn)),.blk 12 98,.laid 12 98] [12] (fun _=>ptl pk px py pn qx qy qn) (by kernel_rfl) (by exact⟨trivial,trivial,(by simp[Sp.ok]),(by simp[Sp.ok]),trivial⟩) (by intro p hp q hq hne;simp only[List.mem_cons,List.not_mem_nil,or_false]at hp hq;exact absurd (hp.trans hq.symm) hne) ?_ ?_
    ·refine⟨?_,?_,?_,?_,trivial⟩
     ·intro ac wx hC hsz hK
      have h0:ac.tmps.getD 40 undef=.slice (some ⟨gp,0,none⟩) l.length cp:=(hK.1 40 (by kernel_rfl)).trans k40_58;have h1:ac.tmps.getD 42 undef=.int .i64 ((i2:Nat)):=(hK.1 42 (by kernel_rfl)).trans k42_58;refine mm_sem (Instr.indexAt 94 (ac.tmps.getD 40 undef) (ac.tmps.getD 42 undef)) (.pointer (some ⟨gp,0+i2*284,none⟩)) rfl (by kernel_rfl) (by kernel_rfl) ?_ hC (by kernel_rfl) (by rw[hsz,z58];decide) rfl;rw[h0,h1];exact at_slice (sz:=284) (g:=gp) (o:=0) (i:=i2) Tryz.underlying94 (by kernel_rfl) (by omega) wx
     ·intro ac wx hC hsz hK
      have h0:ac.tmps.getD 44 undef=.pointer (some ⟨gp,0+i2*284,none⟩):=hK.2 ⟨0,.data⟩ (by simp) rfl _ rfl;exact mm_load 98 (.tmp 44) (.pointer (some ⟨gp,0+i2*284,none⟩)) (.agg (ptl pk px py pn qx qy qn)) rfl rfl (by kernel_rfl) h0 (ld_mid (ptl pk px py pn qx qy qn) ((H58.below hC.1).is (.tail _ (.head _))) hpt Tryz.underlying98 rfl (by kernel_rfl)) hC (by kernel_rfl) (by rw[hsz,z58];decide) rfl
     ·intro ac wx hC hsz hK
      exact mm_new 98 ((pc 0 0 false++pc 0 0 false++pc 0 0 false++ar .i64 257 (fun _=>0))) rfl (by kernel_rfl) (by kernel_rfl) hC (by kernel_rfl) (by rw[hsz,z58];decide) rfl
     ·intro ac wx hC hsz hK
      have h0:ac.tmps.getD 45 undef=.agg (ptl pk px py pn qx qy qn):=hK.2 ⟨1,.data⟩ (by simp) rfl _ rfl;exact mm_store (p:=12) 98 (.tmp 12) (.tmp 45) _ rfl rfl (by kernel_rfl) rfl h0 (by simp) (hK.2 ⟨2,.data⟩ (by simp) rfl _ rfl) (fun D cs h3 h4=>st_row h3 (by kernel_rfl) h4 (by kernel_rfl)) hC rfl
    intro a59 w59 y59 d59 e59 b59 n59 f59;have z59:=y59.trans z58;have D59:=d59.trans D58;have k0_59:=tq e59 k0_58;have k2_59:=tq e59 k2_58;have k4_59:=tq e59 k4_58;have k6_59:=tq e59 k6_58;have k9_59:=tq e59 k9_58;have k10_59:=tq e59 k10_58;have k13_59:=tq e59 k13_58;have k14_59:=tq e59 k14_58;have k34_59:=tq e59 k34_58;have k39_59:=tq e59 k39_58;have k40_59:=tq e59 k40_58;have k41_59:=tq e59 k41_58;have k42_59:=tq e59 k42_58;have k43_59:=tq e59 k43_58;obtain⟨g12_59,k12_59,ge12_59,r12_59⟩:=f59 3 (by decide);have k12_59:a59.tmps.getD 12 undef=.pointer (some ⟨g12_59,0,none⟩):=k12_59;have H59:HC w [(g12_59,ptl pk px py pn qx qy qn,98),(g9_45,jc A3 B3 C3,90),(gp,cur,98),(g4_2,pc 0 0 false,26),(g2_1,#[.pointer (some ⟨F,0,none⟩)],53)] w59:=H58.cons b59 ge12_59 r12_59;clear f59 e59 n59 y59 d59 b59 ge12_59 r12_59 H58 k0_58 k2_58 k4_58 k6_58 k9_58 k10_58 k13_58 k14_58 k34_58 k39_58 k40_58 k41_58 k42_58 k43_58 z58 D58;refine wpList_nil ?_;refine then_normal ?_;obtain⟨t1a,t1b,t1c,qt1⟩:∃ a b c,gpl m (A3,B3,C3) sx sy sn=(a,b,c):=⟨_,_,_,rfl⟩
    obtain⟨bt1a,bt1b,bt1c⟩:=gpl_lt hm0 hmR bA3 bB3 bC3 bsx bsy qt1;refine reg_any 10 [.val 46 (.agg (#[.pointer (some ⟨F,0,none⟩)])),.val 47 (.agg (jc A3 B3 C3)),.val 48 (.int .i64 ((ii:Nat))),.val 49 (.pointer (some ⟨g12_59,27,none⟩)),.val 50 (.pointer (some ⟨g12_59,27+ii*1,none⟩)),.val 51 (.int .i64 ((dd:Nat))),.val 52 (.pointer (some ⟨g12_59,0,none⟩)),.val 53 (.pointer (some ⟨g12_59,0+dd*9,none⟩)),.val 54 (.agg (pc sx sy sn)),.val 55 (.agg (jc t1a t1b t1c))] [] (fun _=>#[]) (by kernel_rfl) (by kernel_rfl) (by exact⟨trivial,trivial,trivial,trivial,trivial,trivial,trivial,trivial,trivial,trivial,trivial⟩) (fun p hp=>by cases hp) ?_ ?_
    ·refine⟨?_,?_,?_,?_,?_,?_,?_,?_,?_,?_,trivial⟩
     ·intro ac wx hC hsz hK
      have h0:ac.tmps.getD 2 undef=.pointer (some ⟨g2_1,0,none⟩):=(hK.1 2 (by kernel_rfl)).trans k2_59;exact mm_load 53 (.tmp 2) (.pointer (some ⟨g2_1,0,none⟩)) (.agg (#[.pointer (some ⟨F,0,none⟩)])) rfl rfl (by kernel_rfl) h0 (ld_row ((H59.below hC.1).is (.tail _ (.tail _ (.tail _ (.tail _ (.head _)))))) Tryz.underlying53 rfl (by kernel_rfl)) hC (by kernel_rfl) (by rw[hsz,z59];decide) rfl
     ·intro ac wx hC hsz hK
      have h0:ac.tmps.getD 9 undef=.pointer (some ⟨g9_45,0,none⟩):=(hK.1 9 (by kernel_rfl)).trans k9_59;exact mm_load 90 (.tmp 9) (.pointer (some ⟨g9_45,0,none⟩)) (.agg (jc A3 B3 C3)) rfl rfl (by kernel_rfl) h0 (ld_row ((H59.below hC.1).is (.tail _ (.head _))) Tryz.underlying90 rfl (by kernel_rfl)) hC (by kernel_rfl) (by rw[hsz,z59];decide) rfl
     ·intro ac wx hC hsz hK
      have h0:ac.tmps.getD 10 undef=.int .i64 ((ii:Nat)):=(hK.1 10 (by kernel_rfl)).trans k10_59;exact mm_val (.int .i64 ((ii:Nat))) rfl (by kernel_rfl) (run_assign (.inr rfl) h0) hC (by kernel_rfl) (by rw[hsz,z59];decide) rfl
     ·intro ac wx hC hsz hK
      have h0:ac.tmps.getD 12 undef=.pointer (some ⟨g12_59,0,none⟩):=(hK.1 12 (by kernel_rfl)).trans k12_59;refine mm_sem (Instr.fieldAt 98 (ac.tmps.getD 12 undef) 1) (.pointer (some ⟨g12_59,27,none⟩)) rfl (by kernel_rfl) (by kernel_rfl) ?_ hC (by kernel_rfl) (by rw[hsz,z59];decide) rfl;rw[h0];exact(by kernel_rfl)
     ·intro ac wx hC hsz hK
      have h0:ac.tmps.getD 49 undef=.pointer (some ⟨g12_59,27,none⟩):=hK.2 ⟨3,.data⟩ (by simp) rfl _ rfl;have h1:ac.tmps.getD 48 undef=.int .i64 ((ii:Nat)):=hK.2 ⟨2,.data⟩ (by simp) rfl _ rfl;refine mm_sem (Instr.indexAt 96 (ac.tmps.getD 49 undef) (ac.tmps.getD 48 undef)) (.pointer (some ⟨g12_59,27+ii*1,none⟩)) rfl (by kernel_rfl) (by kernel_rfl) ?_ hC (by kernel_rfl) (by rw[hsz,z59];decide) rfl;rw[h0,h1];exact at_array (sz:=1) (g:=g12_59) (o:=27) (i:=ii) Tryz.underlying96 (by kernel_rfl) (by omega) wx
     ·intro ac wx hC hsz hK
      have h0:ac.tmps.getD 50 undef=.pointer (some ⟨g12_59,27+ii*1,none⟩):=hK.2 ⟨4,.data⟩ (by simp) rfl _ rfl;exact mm_load 3 (.tmp 50) (.pointer (some ⟨g12_59,27+ii*1,none⟩)) (.int .i64 ((dd:Nat))) rfl rfl (by kernel_rfl) h0 (ld_int ((H59.below hC.1).is (.head _)) hdg) hC (by kernel_rfl) (by rw[hsz,z59];decide) rfl
     ·intro ac wx hC hsz hK
      have h0:ac.tmps.getD 12 undef=.pointer (some ⟨g12_59,0,none⟩):=(hK.1 12 (by kernel_rfl)).trans k12_59;refine mm_sem (Instr.fieldAt 98 (ac.tmps.getD 12 undef) 0) (.pointer (some ⟨g12_59,0,none⟩)) rfl (by kernel_rfl) (by kernel_rfl) ?_ hC (by kernel_rfl) (by rw[hsz,z59];decide) rfl;rw[h0];exact(by kernel_rfl)
     ·intro ac wx hC hsz hK
      have h0:ac.tmps.getD 52 undef=.pointer (some ⟨g12_59,0,none⟩):=hK.2 ⟨6,.data⟩ (by simp) rfl _ rfl;have h1:ac.tmps.getD 51 undef=.int .i64 ((dd:Nat)):=hK.2 ⟨5,.data⟩ (by simp) rfl _ rfl;refine mm_sem (Instr.indexAt 95 (ac.tmps.getD 52 undef) (ac.tmps.getD 51 undef)) (.pointer (some ⟨g12_59,0+dd*9,none⟩)) rfl (by kernel_rfl) (by kernel_rfl) ?_ hC (by kernel_rfl) (by rw[hsz,z59];decide) rfl;rw[h0,h1];exact at_array (sz:=9) (g:=g12_59) (o:=0) (i:=dd) Tryz.underlying95 (by kernel_rfl) (by omega) wx
     ·intro ac wx hC hsz hK
      have h0:ac.tmps.getD 53 undef=.pointer (some ⟨g12_59,0+dd*9,none⟩):=hK.2 ⟨7,.data⟩ (by simp) rfl _ rfl;exact mm_load 26 (.tmp 53) (.pointer (some ⟨g12_59,0+dd*9,none⟩)) (.agg (pc sx sy sn)) rfl rfl (by kernel_rfl) h0 (ld_mid (pc sx sy sn) ((H59.below hC.1).is (.head _)) hsp Tryz.underlying26 rfl (by kernel_rfl)) hC (by kernel_rfl) (by rw[hsz,z59];decide) rfl
     ·intro ac wx hC hsz hK
      have h0:ac.tmps.getD 46 undef=.agg (#[.pointer (some ⟨F,0,none⟩)]):=hK.2 ⟨0,.data⟩ (by simp) rfl _ rfl;have h1:ac.tmps.getD 47 undef=.agg (jc A3 B3 C3):=hK.2 ⟨1,.data⟩ (by simp) rfl _ rfl;have h2:ac.tmps.getD 54 undef=.agg (pc sx sy sn):=hK.2 ⟨8,.data⟩ (by simp) rfl _ rfl;refine mm_call 63 #[ac.tmps.getD 46 undef,ac.tmps.getD 47 undef,ac.tmps.getD 54 undef] (.agg (jc t1a t1b t1c)) rfl (by kernel_rfl) (by kernel_rfl) ?_ hC (by kernel_rfl) (by rw[hsz,z59];decide) rfl;rw[h0,h1,h2];exact(by have h:=gplus_any F m A3 B3 C3 sx sy sn bA3 bB3 bC3 bsx bsy wx (hF.below (H59.below hC.1).old);rw[qt1]at h;exact h)
    intro a60 w60 y60 d60 e60 b60 n60 f60;have z60:=y60.trans z59;have D60:=d60.trans D59;have k0_60:=tq e60 k0_59;have k2_60:=tq e60 k2_59;have k4_60:=tq e60 k4_59;have k6_60:=tq e60 k6_59;have k9_60:=tq e60 k9_59;have k10_60:=tq e60 k10_59;have k12_60:=tq e60 k12_59;have k13_60:=tq e60 k13_59;have k14_60:=tq e60 k14_59;have k34_60:=tq e60 k34_59;have k39_60:=tq e60 k39_59;have k40_60:=tq e60 k40_59;have k41_60:=tq e60 k41_59;have k42_60:=tq e60 k42_59;have k43_60:=tq e60 k43_59;have k55_60:a60.tmps.getD 55 undef=.agg (jc t1a t1b t1c):=f60 9 (by decide);have H60:=H59.below b60;clear f60 e60 n60 y60 d60 b60 H59 k0_59 k2_59 k4_59 k6_59 k9_59 k10_59 k12_59 k13_59 k14_59 k34_59 k39_59 k40_59 k41_59 k42_59 k43_59 z59 D59;refine tl_store rfl rfl rfl k9_60 k55_60 (H60.is (.tail _ (.head _))) (by kernel_rfl) (by kernel_rfl) (by kernel_rfl) ?_;have H61:HC w [(g12_59,ptl pk px py pn qx qy qn,98),(g9_45,jc t1a t1b t1c,90),(gp,cur,98),(g4_2,pc 0 0 false,26),(g2_1,#[.pointer (some ⟨F,0,none⟩)],53)] (w60.setRow g9_45 (jc t1a t1b t1c)):=HC.set [(g12_59,ptl pk px py pn qx qy qn,98)] [(gp,cur,98),(g4_2,pc 0 0 false,26),(g2_1,#[.pointer (some ⟨F,0,none⟩)],53)] H60 (jc t1a t1b t1c);generalize w60.setRow g9_45 (jc t1a t1b t1c)=w61 at H61 |-
    clear H60;refine wpList_nil ?_;refine blk_normal ?_;refine then_normal ?_;refine wp_region_list ?_;refine tl_val (v:=.int .i64 ((i2+1:Nat))) rfl rfl (by rw[z60];decide) (run_bin (u:=.int .i64 ((i2:Nat))) (v:=.int .i64 1) rfl k42_60 rfl (by kernel_rfl) (add_in (by omega) (by omega) (by omega) w61)) ?_;intro a62 y62 d62 e62 k56_62;have z62:=y62.trans z60;have D62:=d62.trans D60;have k0_62:=tp e62 k0_60;have k2_62:=tp e62 k2_60;have k4_62:=tp e62 k4_60;have k6_62:=tp e62 k6_60;have k9_62:=tp e62 k9_60;have k10_62:=tp e62 k10_60;have k12_62:=tp e62 k12_60;have k13_62:=tp e62 k13_60;have k14_62:=tp e62 k14_60;have k34_62:=tp e62 k34_60;have k39_62:=tp e62 k39_60;have k40_62:=tp e62 k40_60;have k41_62:=tp e62 k41_60;have k42_62:=tp e62 k42_60;have k43_62:=tp e62 k43_60;have k55_62:=tp e62 k55_60;clear e62 y62 d62 k0_60 k2_60 k4_60 k6_60 k9_60 k10_60 k12_60 k13_60 k14_60 k34_60 k39_60 k40_60 k41_60 k42_60 k43_60 k55_60 z60 D60;refine tl_val (v:=.int .i64 ((i2+1:Nat))) rfl rfl (by rw[z62];decide) (run_assign (.inr rfl) k56_62) ?_;intro a63 y63 d63 e63 k42_63;have z63:=y63.trans z62;have D63:=d63.trans D62;have k0_63:=tp e63 k0_62;have k2_63:=tp e63 k2_62;have k4_63:=tp e63 k4_62;have k6_63:=tp e63 k6_62;have k9_63:=tp e63 k9_62;have k10_63:=tp e63 k10_62;have k12_63:=tp e63 k12_62;have k13_63:=tp e63 k13_62;have k14_63:=tp e63 k14_62;have k34_63:=tp e63 k34_62;have k39_63:=tp e63 k39_62;have k40_63:=tp e63 k40_62;have k41_63:=tp e63 k41_62;have k43_63:=tp e63 k43_62;have k55_63:=tp e63 k55_62;have k56_63:=tp e63 k56_62;clear e63 y63 d63 k0_62 k2_62 k4_62 k6_62 k9_62 k10_62 k12_62 k13_62 k14_62 k34_62 k39_62 k40_62 k41_62 k42_62 k43_62 k55_62 k56_62 z62 D62;refine wpList_nil ?_;have H64:HC w [(g9_45,jc t1a t1b t1c,90),(gp,cur,98),(g4_2,pc 0 0 false,26),(g2_1,#[.pointer (some ⟨F,0,none⟩)],53)] w61:=H61.drop1;refine then_normal ⟨⟨(i2+1),t1a,t1b,t1c,⟨by omega,by rw[List.take_add_one,hp];have e:=hS.2.1;unfold gin at e |-;rw[List.foldl_append,e];show gpl m (A3,B3,C3) (spt m (px,py,pn) (sdg (sth pk ii))).1 (spt m (px,py,pn) (sdg (sth pk ii))).2.1 (spt m (px,py,pn) (sdg (sth pk ii))).2.2=_;rw[hdd,hs];exact qt1,bt1a,bt1b,bt1c⟩,z63,D63,k0_63,k2_63,k4_63,k6_63,k9_63,k10_63,k13_63,k14_63,k34_63,k39_63,k40_63,k41_63,k42_63,H64⟩,?_⟩;show l.length - (intOf (a63.tmps.getD 42 undef)).toNat<l.length - (intOf (a55.tmps.getD 42 undef)).toNat;rw[k42_63,m7];simp[intOf];omega
   ·refine reg_seq 1 [.val 43 (.bool false)] [] (fun _=>#[]) (by kernel_rfl) (by exact⟨trivial,trivial⟩) (fun p hp=>by cases hp) ?_ ?_
    ·refine⟨?_,trivial⟩
     ·intro ac wx hC hsz hK
      have h0:ac.tmps.getD 42 undef=.int .i64 ((i2:Nat)):=(hK.1 42 (by kernel_rfl)).trans k42_55;have h1:ac.tmps.getD 41 undef=.int .i64 ((l.length:Nat)):=(hK.1 41 (by kernel_rfl)).trans k41_55;exact mm_bin .lss 3 (.tmp 42) (.tmp 41) 3 (.int .i64 ((i2:Nat))) (.int .i64 ((l.length:Nat))) (.bool false) rfl rfl (by kernel_rfl) h0 h1 (by kernel_rfl) (lss_no hc57 wx) hC (by kernel_rfl) (by rw[hsz,z55];decide) rfl
    intro a65 w65 y65 d65 e65 b65 n65 f65;have z65:=y65.trans z55;have D65:=d65.trans D55;have k0_65:=tq e65 k0_55;have k2_65:=tq e65 k2_55;have k4_65:=tq e65 k4_55;have k6_65:=tq e65 k6_55;have k9_65:=tq e65 k9_55;have k10_65:=tq e65 k10_55;have k13_65:=tq e65 k13_55;have k14_65:=tq e65 k14_55;have k34_65:=tq e65 k34_55;have k39_65:=tq e65 k39_55;have k40_65:=tq e65 k40_55;have k41_65:=tq e65 k41_55;have k42_65:=tq e65 k42_55;have k43_65:a65.tmps.getD 43 undef=.bool false:=f65 0 (by decide);have H65:=H55.below b65;clear f65 e65 n65 y65 d65 b65 H55 k0_55 k2_55 k4_55 k6_55 k9_55 k10_55 k13_55 k14_55 k34_55 k39_55 k40_55 k41_55 k42_55 z55 D55;refine wpList_nil ?_;refine then_normal ?_;refine wp_seq ?_;refine wp_cond_false k43_65 ?_;refine wp_exit ?_;refine then_exit ?_;refine then_exit ?_;refine blk_exit ?_;refine blk_normal ?_;refine then_normal ?_;refine wp_region_list ?_;refine tl_val (v:=.int .i64 ((ii:Nat))) rfl rfl (by rw[z65];decide) (run_assign (.inr rfl) k10_65) ?_;intro a66 y66 d66 e66 k35_66;have z66:=y66.trans z65;have D66:=d66.trans D65;have k0_66:=tp e66 k0_65;have k2_66:=tp e66 k2_65;have k4_66:=tp e66 k4_65;have k6_66:=tp e66 k6_65;have k9_66:=tp e66 k9_65;have k10_66:=tp e66 k10_65;have k13_66:=tp e66 k13_65;have k14_66:=tp e66 k14_65;have k34_66:=tp e66 k34_65;have k39_66:=tp e66 k39_65;have k40_66:=tp e66 k40_65;have k41_66:=tp e66 k41_65;have k42_66:=tp e66 k42_65;have k43_66:=tp e66 k43_65;clear e66 y66 d66 k0_65 k2_65 k4_65 k6_65 k9_65 k10_65 k13_65 k14_65 k34_65 k39_65 k40_65 k41_65 k42_65 k43_65 z65 D65;refine tl_val (v:=.int .i64 ((ii:Nat) - 1)) rfl rfl (by rw[z66];decide) (run_bin (u:=.int .i64 ((ii:Nat))) (v:=.int .i64 1) rfl k35_66 rfl (by kernel_rfl) (sub_in (by omega) (by omega) (by omega) w65)) ?_;intro a67 y67 d67 e67 k36_67;have z67:=y67.trans z66;have D67:=d67.trans D66;have k0_67:=tp e67 k0_66;have k2_67:=tp e67 k2_66;have k4_67:=tp e67 k4_66;have k6_67:=tp e67 k6_66;have k9_67:=tp e67 k9_66;have k10_67:=tp e67 k10_66;have k13_67:=tp e67 k13_66;have k14_67:=tp e67 k14_66;have k34_67:=tp e67 k34_66;have k35_67:=tp e67 k35_66;have k39_67:=tp e67 k39_66;have k40_67:=tp e67 k40_66;have k41_67:=tp e67 k41_66;have k42_67:=tp e67 k42_66;have k43_67:=tp e67 k43_66;clear e67 y67 d67 k0_66 k2_66 k4_66 k6_66 k9_66 k10_66 k13_66 k14_66 k34_66 k35_66 k39_66 k40_66 k41_66 k42_66 k43_66 z66 D66;refine tl_val (v:=.int .i64 ((ii:Nat) - 1)) rfl rfl (by rw[z67];decide) (run_assign (.inl rfl) k36_67) ?_;intro a68 y68 d68 e68 k10_68;have z68:=y68.trans z67;have D68:=d68.trans D67;have k0_68:=tp e68 k0_67;have k2_68:=tp e68 k2_67;have k4_68:=tp e68 k4_67;have k6_68:=tp e68 k6_67;have k9_68:=tp e68 k9_67;have k13_68:=tp e68 k13_67;have k14_68:=tp e68 k14_67;have k34_68:=tp e68 k34_67;have k35_68:=tp e68 k35_67;have k36_68:=tp e68 k36_67;have k39_68:=tp e68 k39_67;have k40_68:=tp e68 k40_67;have k41_68:=tp e68 k41_67;have k42_68:=tp e68 k42_67;have k43_68:=tp e68 k43_67;clear e68 y68 d68 k0_67 k2_67 k4_67 k6_67 k9_67 k10_67 k13_67 k14_67 k34_67 k35_67 k36_67 k39_67 k40_67 k41_67 k42_67 k43_67 z67 D67;refine wpList_nil ?_;refine then_normal ⟨⟨ii,A3,B3,C3,⟨by omega,by rw[show 257 - ii=(257 - j)+1 by omega];show gin m (256 - (257 - j)) l (gtw m (gwk m l (257 - j)))=_;rw[hQ.2.1,show 256 - (257 - j)=ii by omega,qt0];have e:=hS.2.1;rw[show i2=l.length by omega,List.take_length]at e;exact e,hS.2.2⟩,z68,D68,k0_68,k2_68,k4_68,k6_68,k9_68,k10_68,k13_68,k14_68,H65⟩,?_⟩;show(intOf (a68.tmps.getD 10 undef)+1).toNat<(intOf (a48.tmps.getD 10 undef)+1).toNat;rw[k10_68,m6];simp[intOf];omega
  ·refine reg_seq 2 [.val 33 (.int .i64 (((j:Nat):Int) - 1)),.val 34 (.bool false)] [] (fun _=>#[]) (by kernel_rfl) (by exact⟨trivial,trivial,trivial⟩) (fun p hp=>by cases hp) ?_ ?_
   ·refine⟨?_,?_,trivial⟩
    ·intro ac wx hC hsz hK
     have h0:ac.tmps.getD 10 undef=.int .i64 (((j:Nat):Int) - 1):=(hK.1 10 (by kernel_rfl)).trans k10_48;exact mm_val (.int .i64 (((j:Nat):Int) - 1)) rfl (by kernel_rfl) (run_assign (.inr rfl) h0) hC (by kernel_rfl) (by rw[hsz,z48];decide) rfl
    ·intro ac wx hC hsz hK
     have h0:ac.tmps.getD 33 undef=.int .i64 (((j:Nat):Int) - 1):=hK.2 ⟨0,.data⟩ (by simp) rfl _ rfl;exact mm_bin .geq 3 (.tmp 33) (.const (.int .i64 0)) 3 (.int .i64 (((j:Nat):Int) - 1)) (.int .i64 0) (.bool false) rfl rfl (by kernel_rfl) h0 rfl (by kernel_rfl) (geq_no hc50 wx) hC (by kernel_rfl) (by rw[hsz,z48];decide) rfl
   intro a69 w69 y69 d69 e69 b69 n69 f69;have z69:=y69.trans z48;have D69:=d69.trans D48;have k0_69:=tq e69 k0_48;have k2_69:=tq e69 k2_48;have k4_69:=tq e69 k4_48;have k6_69:=tq e69 k6_48;have k9_69:=tq e69 k9_48;have k10_69:=tq e69 k10_48;have k13_69:=tq e69 k13_48;have k14_69:=tq e69 k14_48;have k34_69:a69.tmps.getD 34 undef=.bool false:=f69 1 (by decide);have H69:=H48.below b69;clear f69 e69 n69 y69 d69 b69 H48 k0_48 k2_48 k4_48 k6_48 k9_48 k10_48 k13_48 k14_48 z48 D48;refine wpList_nil ?_;refine then_normal ?_;refine wp_cond_false k34_69 ?_;refine wp_exit ?_;refine then_exit ?_;refine then_exit ?_;refine blk_exit ?_;refine then_normal ?_;refine wp_seq ?_;obtain⟨p0x,p0y,p0n,bp0x,bp0y,qp0⟩:=gpo_pc hm0 hmR (A2,B2,C2);refine reg_seq 3 [.val 57 (.agg (#[.pointer (some ⟨F,0,none⟩)])),.val 58 (.agg (jc A2 B2 C2)),.val 59 (.agg (pc p0x p0y p0n))] [] (fun _=>#[]) (by kernel_rfl) (by exact⟨trivial,trivial,trivial,trivial⟩) (fun p hp=>by cases hp) ?_ ?_
   ·refine⟨?_,?_,?_,trivial⟩
    ·intro ac wx hC hsz hK
     have h0:ac.tmps.getD 2 undef=.pointer (some ⟨g2_1,0,none⟩):=(hK.1 2 (by kernel_rfl)).trans k2_69;exact mm_load 53 (.tmp 2) (.pointer (some ⟨g2_1,0,none⟩)) (.agg (#[.pointer (some ⟨F,0,none⟩)])) rfl rfl (by kernel_rfl) h0 (ld_row ((H69.below hC.1).is (.tail _ (.tail _ (.tail _ (.head _))))) Tryz.underlying53 rfl (by kernel_rfl)) hC (by kernel_rfl) (by rw[hsz,z69];decide) rfl
    ·intro ac wx hC hsz hK
     have h0:ac.tmps.getD 9 undef=.pointer (some ⟨g9_45,0,none⟩):=(hK.1 9 (by kernel_rfl)).trans k9_69;exact mm_load 90 (.tmp 9) (.pointer (some ⟨g9_45,0,none⟩)) (.agg (jc A2 B2 C2)) rfl rfl (by kernel_rfl) h0 (ld_row ((H69.below hC.1).is (.head _)) Tryz.underlying90 rfl (by kernel_rfl)) hC (by kernel_rfl) (by rw[hsz,z69];decide) rfl
    ·intro ac wx hC hsz hK
     have h0:ac.tmps.getD 57 undef=.agg (#[.pointer (some ⟨F,0,none⟩)]):=hK.2 ⟨0,.data⟩ (by simp) rfl _ rfl;have h1:ac.tmps.getD 58 undef=.agg (jc A2 B2 C2):=hK.2 ⟨1,.data⟩ (by simp) rfl _ rfl;refine mm_call 64 #[ac.tmps.getD 57 undef,ac.tmps.getD 58 undef] (.agg (pc p0x p0y p0n)) rfl (by kernel_rfl) (by kernel_rfl) ?_ hC (by kernel_rfl) (by rw[hsz,z69];decide) rfl;rw[h0,h1];exact(by have h:=gpoint_any F m A2 B2 C2 bA2 bB2 bC2 wx (hF.below (H69.below hC.1).old);rw[qp0]at h;exact h)
   intro a70 w70 y70 d70 e70 b70 n70 f70;have z70:=y70.trans z69;have D70:=d70.trans D69;have k0_70:=tq e70 k0_69;have k2_70:=tq e70 k2_69;have k4_70:=tq e70 k4_69;have k6_70:=tq e70 k6_69;have k9_70:=tq e70 k9_69;have k10_70:=tq e70 k10_69;have k13_70:=tq e70 k13_69;have k14_70:=tq e70 k14_69;have k34_70:=tq e70 k34_69;have k59_70:a70.tmps.getD 59 undef=.agg (pc p0x p0y p0n):=f70 2 (by decide);have H70:=H69.below b70;clear f70 e70 n70 y70 d70 b70 H69 k0_69 k2_69 k4_69 k6_69 k9_69 k10_69 k13_69 k14_69 k34_69 z69 D69;refine tl_store rfl rfl rfl k4_70 k59_70 (H70.is (.tail _ (.tail _ (.head _)))) (by kernel_rfl) (by kernel_rfl) (by kernel_rfl) ?_;have H71:HC w [(g9_45,jc A2 B2 C2,90),(gp,cur,98),(g4_2,pc p0x p0y p0n,26),(g2_1,#[.pointer (some ⟨F,0,none⟩)],53)] (w70.setRow g4_2 (pc p0x p0y p0n)):=HC.set [(g9_45,jc A2 B2 C2,90),(gp,cur,98)] [(g2_1,#[.pointer (some ⟨F,0,none⟩)],53)] H70 (pc p0x p0y p0n);generalize w70.setRow g4_2 (pc p0x p0y p0n)=w71 at H71 |-
   clear H70;refine tl_val (v:=.int .i64 0) rfl rfl (by rw[z70];decide) (run_assign (.inl rfl) rfl) ?_;intro a72 y72 d72 e72 k5_72;have z72:=y72.trans z70;have D72:=d72.trans D70;have k0_72:=tp e72 k0_70;have k2_72:=tp e72 k2_70;have k4_72:=tp e72 k4_70;have k6_72:=tp e72 k6_70;have k9_72:=tp e72 k9_70;have k10_72:=tp e72 k10_70;have k13_72:=tp e72 k13_70;have k14_72:=tp e72 k14_70;have k34_72:=tp e72 k34_70;have k59_72:=tp e72 k59_70;clear e72 y72 d72 k0_70 k2_70 k4_70 k6_70 k9_70 k10_70 k13_70 k14_70 k34_70 k59_70 z70 D70;refine wpList_nil ?_;refine then_normal ?_;refine wp_ret ?_;refine bodyPost_ret (v:=.tuple #[.agg (pc p0x p0y p0n),.int .i64 0]) (results_cell_tmp rfl _ (pc p0x p0y p0n) _ k4_72 (H71.is (.tail _ (.tail _ (.head _)))) Tryz.underlying26 rfl (by kernel_rfl) k5_72) D72 ?_;have hj1:j=0:=by omega
   have he:gwk m l 257=(A2,B2,C2):=by rw[<- hQ.2.1,hj1]
   exact⟨by rw[if_pos hAll,if_pos hAll,he,qp0],H71.old⟩
open Go.RowKit
namespace Sy
def tmOf:SV->Option (List (Nat × Nat × Nat × Bool))
 | .e=>some []
 | .ap (.ap (.w k) (.ap x .e)) t=>match ptS x,tmOf t with
  | some p,some l=>some ((k,p)::l)
  | _,_=>none
 | _=>none
theorem pt_cells{γ:Pl}{x:SV}{p:Nat × Nat × Bool}(hx:ptS x=some p):x.cells γ=(pc p.1 p.2.1 p.2.2).toList:=by
 have k:=(ptS_ok (γ:=γ) hx).1;unfold ptS at hx
 split at hx
 ·have h3:Value.agg (SV.cells γ (SV.ap (.w _) (.ap (.w _) (.ap _ .e)))).toArray=.agg _:=k
  injection h3 with h3
  rw[<- h3]
 ·cases hx
theorem tmOf_ok{γ:Pl}:∀ {c:SV} {l:List (Nat × Nat × Nat × Bool)},tmOf c=some l->(c.cells γ).toArray=tls l/\(c.ok->∀ t∈l,t.1<2^256/\t.2.1<2^256/\t.2.2.1<2^256)
 | .e,l,h=>by cases h;exact⟨rfl,fun _ p hp=>by cases hp⟩
 | .ap (.ap (.w k) (.ap x .e)) t,l,h=>by
  unfold tmOf at h
  split at h
  ·rename_i p r hx hr
   cases h;have ih:=tmOf_ok (γ:=γ) hr;have q:=(ptS_ok (γ:=γ) hx).2;refine⟨?_,fun ho t ht=>?_⟩
   ·show((pw k).toList++(x.cells γ++[])++t.cells γ).toArray=tc k p.1 p.2.1 p.2.2++tls r
    rw[<- ih.1,pt_cells hx];simp[tc]
   ·rcases List.mem_cons.1 ht with rfl | ht
    ·exact⟨ho.1.1,q ho.1.2.1⟩
    ·exact ih.2 ho.2 t ht
  ·cases h
def tm3(m:Nat)(l:List (Nat × Nat × Nat × Bool)):Nat × Nat × Bool:=if l.all (fun t=>onB m t.2)=true then gpT m (gwk m l 257)else (0,0,true)
theorem tm3_val(m:Nat)(l:List (Nat × Nat × Nat × Bool)):pc (tm3 m l).1 (tm3 m l).2.1 (tm3 m l).2.2=if l.all (fun t=>onB m t.2)=true then gpo m (gwk m l 257)else pc 0 0 true:=by
 unfold tm3
 split
 ·rw[<- gpo_gpT]
 ·rfl
theorem tm3_lt{m:Nat}(h0:0<m)(hm:m<2^256)(l:List (Nat × Nat × Nat × Bool)):(tm3 m l).1<2^256/\(tm3 m l).2.1<2^256:=by
 unfold tm3
 split
 ·exact gpT_lt h0 hm _
 ·exact⟨w0_ok,w0_ok⟩
def cTimes(ext:Bool)(m:Nat):Con:=⟨41,fun _ M us=>match us with
 | [.ap x .e,.s b 0 k _]=>match isF ext m M x,rowIn b M with
  | some p,some (c,T)=>match tmOf c with
   | some l=>if T=68/\l.length=k/\0<k/\k<4294967296 then some (.tu (sP3 (tm3 m l)) (sIf (l.all fun t=>onB m t.2)),p,[])else none
   | none=>none
  | _,_=>none
 | _=>none⟩
theorem cTimes_ok{ext:Bool}{m:Nat}{γ0:Pl}{w0:World}(hf:FOk ext m γ0 w0):ConOk Tryz.prog 1 γ0 w0 (cTimes ext m) :=
 ⟨fun _ _=>by kernel_rfl,fun n M us r p R hr hp hn hok hM=>by
  unfold cTimes at hr;dsimp only at hr
  split at hr
  ·rename_i x b k c
   split at hr
   ·rename_i p' c' T hx hrow
    split at hr
    ·rename_i l hl
     split at hr
     ·rename_i hk
      cases hr;obtain⟨rfl,rfl,hk0,hk⟩:=hk;have hlt:=(tmOf_ok (γ:=fun _=>0) hl).2 (hM _ (rowIn_ok hrow)).1;have q:=sP3_ok (tm3_lt (by have:=hf.big;omega) hf.lt l);have q2:SV.lt 0 (.tu (sP3 (tm3 m l)) (sIf (l.all fun t=>onB m t.2)))=true:=rfl;refine⟨⟨q.1,trivial⟩,SV.lt_mono (Nat.zero_le _) q2,fun q hq=>(by cases hq),fun γ hγ wx hw hL=>?_⟩;obtain⟨F,h1,h2⟩:=isF_at hx hp hf hγ hw hL;have hrw:=(hL _ (rowIn_ok hrow)).1;rw[(tmOf_ok (γ:=γ) hl).1]at hrw;have g4:=gtimes_any F m (γ b) c l hlt hk0 hk wx h2 hrw;rw[<- agg_ptr hx h1,<- tm3_val,<- sP3_val _ γ]at g4;exact g4.mono fun e w' hh=>⟨⟨γ,fun _ _=>rfl,hh.1,fun q hq=>(by cases hq),.nil⟩,hh.2⟩
     ·cases hr
    ·cases hr
   ·cases hr
  ·cases hr⟩
def zT:SV:=.ap (.w 0) (.ap (.ap (.w 0) (.ap (.w 0) (.ap (.v (.bool false)) .e))) .e)
theorem zT_ok:zT.ok:=⟨w0_ok,⟨w0_ok,w0_ok,trivial,trivial⟩,trivial⟩
def bsT(n:Nat)(zs:SV):Bs:=⟨93,n,68,13,zs⟩
theorem bsT1_ok:(bsT 1 (.ap zT .e)).Good Tryz.prog:=⟨Tryz.underlying93,by kernel_rfl,by kernel_rfl,rfl,⟨zT_ok,trivial⟩,by decide,by decide⟩
end Sy
open Sy
theorem gmul_any(k x y:Nat)(n:Bool)(hk:k<2^256)(hx:x<2^256)(hy:y<2^256)(w:World):Calls Tryz.prog 21 #[.agg (pw k),.agg (pc x y n)] w fun r w'=>r=.returned (.tuple #[.agg (if [(k,x,y,n)].all (fun t=>onB mK t.2)=true then gpo mK (gwk mK [(k,x,y,n)] 257)else pc 0 0 true),.int .i64 (if [(k,x,y,n)].all (fun t=>onB mK t.2)=true then 0 else 81)])/\Below w.heap.size w w':=by
 refine calls_at (E1s_ok (more:=cPoints::cTimes false mK::[]) ⟨cPoints_ok,cTimes_ok (fK w),trivial⟩ (one_mem bsT1_ok)) (by kernel_rfl) (fun _=>0) Tryz.func21 (by kernel_rfl) [.w k,sP x y n] ⟨⟨hk,rfl⟩,⟨⟨hx,hy,trivial,trivial⟩,rfl⟩,trivial⟩ (by kernel_rfl) (by kernel_rfl)
  (.leaf (.tu (sP3 (tm3 mK [(k,x,y,n)])) (sIf ([(k,x,y,n)].all fun t=>onB mK t.2)))) (by kernel_rfl) ?_
 rw[<- tm3_val,<- sP3_val _ fun _=>0];rfl
def invN(p n:Nat):Nat:=n^(p - 2)%p
theorem invN_lt{p:Nat}(hp:Pr p)(n:Nat):invN p n<p:=Nat.mod_lt _ (by have:=hp.1;omega)
theorem invN_ok{p n:Nat}(hp:Pr p)(h:¬p∣n):n*invN p n%p=1:=by
 unfold invN;have h2:=hp.1;rw[Nat.mul_mod,Nat.mod_mod,<- Nat.mul_mod,<- Nat.pow_succ',show(p - 2).succ=p - 1 by omega];exact fermat1 hp n h
theorem invN_not{p n:Nat}(hp:Pr p)(h:p∣n):n*invN p n%p≠1:=by
 have h2:=hp.1;rw[Nat.mul_mod,Nat.mod_eq_zero_of_dvd h,Nat.zero_mul,Nat.zero_mod];omega
theorem invN_iff{p n:Nat}(hp:Pr p):n*invN p n%p=1↔¬p∣n:=⟨fun h hd=>invN_not hp hd h,invN_ok hp⟩
theorem invN_uniq{p n x:Nat}(hp:Pr p)(h:n*x%p=1)(hx:x<p):invN p n=x:=by
 have hn:¬p∣n:=fun hd=>by
  rw[Nat.mul_mod,Nat.mod_eq_zero_of_dvd hd,Nat.zero_mul,Nat.zero_mod]at h;omega
 have h1:=invN_ok hp hn;have e1:invN p n*(n*x)%p=invN p n:=by rw[Nat.mul_mod,h,Nat.mul_one,Nat.mod_mod,Nat.mod_eq_of_lt (invN_lt hp n)]
 have e2:invN p n*(n*x)%p=x:=by rw[<- Nat.mul_assoc,Nat.mul_comm (invN p n),Nat.mul_mod,h1,Nat.one_mul,Nat.mod_mod,Nat.mod_eq_of_lt hx]
 exact e1.symm.trans e2
abbrev Zp(p:Nat):={ a:Nat // a<p }
theorem zp_ext{p:Nat}{a b:Zp p}(h:a.1=b.1):a=b:=Subtype.ext h
section
variable {p:Nat} (hp:Pr p)
theorem Pr.pos{p:Nat}(hp:Pr p):0<p:=by have:=hp.1;omega
def zpField:CField (Zp p) where
 add a b:=⟨(a.1+b.1)%p,Nat.mod_lt _ hp.pos⟩
 mul a b:=⟨a.1*b.1%p,Nat.mod_lt _ hp.pos⟩
 neg a:=⟨(p - a.1)%p,Nat.mod_lt _ hp.pos⟩
 zero:=⟨0,hp.pos⟩
 one:=⟨1,hp.1⟩
 inv a:=⟨invN p a.1,invN_lt hp a.1⟩
 add_assoc a b c:=zp_ext (by show((a.1+b.1)%p+c.1)%p=(a.1+(b.1+c.1)%p)%p;rw[Nat.mod_add_mod,Nat.add_mod_mod,Nat.add_assoc])
 add_comm a b:=zp_ext (by show(a.1+b.1)%p=(b.1+a.1)%p;rw[Nat.add_comm])
 add_zero a:=zp_ext (by show(a.1+0)%p=a.1;rw[Nat.add_zero,Nat.mod_eq_of_lt a.2])
 add_neg a:=zp_ext (by show(a.1+(p - a.1)%p)%p=0;have:=a.2;rw[Nat.add_mod_mod,show a.1+(p - a.1)=p by omega,Nat.mod_self])
 mul_assoc a b c:=zp_ext (by show(a.1*b.1%p)*c.1%p=a.1*(b.1*c.1%p)%p;rw[Nat.mod_mul_mod,Nat.mul_mod_mod,Nat.mul_assoc])
 mul_comm a b:=zp_ext (by show a.1*b.1%p=b.1*a.1%p;rw[Nat.mul_comm])
 mul_one a:=zp_ext (by show a.1*1%p=a.1;rw[Nat.mul_one,Nat.mod_eq_of_lt a.2])
 mul_add a b c:=zp_ext (by show a.1*((b.1+c.1)%p)%p=(a.1*b.1%p+a.1*c.1%p)%p;rw[Nat.mul_mod_mod,Nat.mul_add,Nat.mod_add_mod,Nat.add_mod_mod])
 mul_inv a ha:=zp_ext (by
  show a.1*invN p a.1%p=1;refine invN_ok hp fun hd=>ha (zp_ext ?_);show a.1=0;exact Nat.eq_zero_of_dvd_of_lt hd a.2)
 one_ne h:=by
  have:=congrArg Subtype.val h;exact absurd this (by show ¬(1=0);omega)
theorem zp_two(h2:p%2=1)(a:Zp p)(ha:a≠(zpField hp).zero):(zpField hp).add a a≠(zpField hp).zero:=fun h=>by
 have h1:(a.1+a.1)%p=0:=congrArg Subtype.val h;have hd:p∣2*a.1:=by rw[show 2*a.1=a.1+a.1 by omega];exact Nat.dvd_of_mod_eq_zero h1
 rcases hp.dvd_mul hd with h3 | h3
 ·have:=Nat.le_of_dvd (by decide) h3
  have:=hp.1;omega
 ·exact ha (zp_ext (Nat.eq_zero_of_dvd_of_lt h3 a.2))
theorem no_root{b:Zp p}(h3:(p - 1)%3=0)(hb:b.1≠0)(he:(p - 1) / 3<2^260)(hn:pwr p (p - b.1) ((p - 1) / 3)≠1)(x:Zp p):cub (zpField hp).ops x b≠(zpField hp).zero:=fun h=>by
 have h1:(x.1*x.1%p*x.1%p+b.1)%p=0:=congrArg Subtype.val h;rw[Nat.mod_mul_mod,Nat.mod_add_mod]at h1;have hbl:=b.2;have hx:¬p∣x.1:=fun hd=>by
  rw[Nat.eq_zero_of_dvd_of_lt hd x.2,Nat.mul_zero,Nat.zero_add,Nat.mod_eq_of_lt hbl]at h1;exact hb h1
 have h2:(x.1*x.1*x.1)%p=(p - b.1)%p:=by
  have e:(x.1*x.1*x.1+b.1+(p - b.1))%p=(0+(p - b.1))%p:=by rw[Nat.add_mod,h1,Nat.zero_add,Nat.zero_add,Nat.mod_mod]
  rw[show x.1*x.1*x.1+b.1+(p - b.1)=x.1*x.1*x.1+p by omega,Nat.add_mod_right,Nat.zero_add]at e;exact e
 apply hn;rw[pwr_eq p _ _ he,Nat.pow_mod,<- h2,<- Nat.pow_mod,show x.1*x.1*x.1=x.1^3 by rw[Nat.pow_succ,Nat.pow_two],<- Nat.pow_mul,Nat.mul_div_cancel' (Nat.dvd_of_mod_eq_zero h3)];exact fermat1 hp x.1 hx
end
def pK:Nat:=115792089237316195423570985008687907853269984665640564039457584007908834671663
def gxK:Nat:=0x79be667ef9dcbbac55a06295ce870b07029bfcdb2dce28d959f2815b16f81798
def gyK:Nat:=0x483ada7726a3c4655da4fbfc0e1108a8fd17b448a68554199c47d08ffb10d4b8
theorem prK:Pr pK:=prm_115792089237316195423570985008687907853269984665640564039457584007908834671663
abbrev KK:=Zp pK
def FK:CField KK:=zpField prK
def sevenK:KK:=⟨7,by decide⟩
def GK:Pt KK:=.some ⟨gxK,by decide⟩ ⟨gyK,by decide⟩
theorem curveK:Curve FK sevenK:=⟨no_root prK (by decide +kernel) (by decide +kernel) (by decide +kernel) (by decide +kernel),zp_two prK (by decide +kernel)⟩
section
variable {K:Type} {F:CField K} {b:K}
def Jac(F:CField K)(T:K × K × K):Pt K->Prop
 | .none=>T.2.2=F.zero
 | .some x y=>T.2.2≠F.zero/\T.1=F.mul x (F.mul T.2.2 T.2.2)/\T.2.1=F.mul y (F.mul (F.mul T.2.2 T.2.2) T.2.2)
def jdbl(C:CRing K)(T:K × K × K):K × K × K :=
 let rise:=C.add T.2.1 T.2.1
 let half:=C.mul T.2.1 rise
 let square:=C.add half half
 let middle:=C.mul T.1 square
 let xx:=C.mul T.1 T.1
 let slope:=C.add (C.add xx xx) xx
 let x:=C.sub (C.mul slope slope) (C.add middle middle)
 (x,C.sub (C.mul slope (C.sub middle x)) (C.mul half square),C.mul rise T.2.2)
def jtwice[DecidableEq K](F:CField K)(T:K × K × K):K × K × K:=if T.2.2=F.zero then T else jdbl F.toCRing T
def jacross(C:CRing K)(T:K × K × K)(x2:K):K:=C.sub (C.mul x2 (C.mul T.2.2 T.2.2)) T.1
def jup(C:CRing K)(T:K × K × K)(y2:K):K:=C.sub (C.mul y2 (C.mul (C.mul T.2.2 T.2.2) T.2.2)) T.2.1
def jadd(C:CRing K)(T:K × K × K)(x2 y2:K):K × K × K :=
 let across:=jacross C T x2
 let up:=jup C T y2
 let square:=C.mul across across
 let cube:=C.mul square across
 let middle:=C.mul T.1 square
 let x:=C.sub (C.sub (C.mul up up) cube) (C.add middle middle)
 (x,C.sub (C.mul up (C.sub middle x)) (C.mul T.2.1 cube),C.mul T.2.2 across)
def jplus[DecidableEq K](F:CField K)(T:K × K × K):Pt K->K × K × K
 | .none=>T
 | .some x2 y2 =>
  if T.2.2=F.zero then (x2,y2,F.one)
  else if jacross F.toCRing T x2=F.zero/\jup F.toCRing T y2=F.zero then jtwice F T
  else jadd F.toCRing T x2 y2
theorem jd1(C:CRing K)(x z:K):(C.add (C.add (C.mul (C.mul x (C.mul z z)) (C.mul x (C.mul z z))) (C.mul (C.mul x (C.mul z z)) (C.mul x (C.mul z z)))) (C.mul (C.mul x (C.mul z z)) (C.mul x (C.mul z z))))=(C.mul (C.add (C.mul x x) (C.add (C.mul x x) (C.mul x x))) (C.mul (C.mul z z) (C.mul z z))):=ring4 C (lets x z C.zero C.zero) (.add (.add (.mul (.mul (.v 0) (.mul (.v 1) (.v 1))) (.mul (.v 0) (.mul (.v 1) (.v 1)))) (.mul (.mul (.v 0) (.mul (.v 1) (.v 1))) (.mul (.v 0) (.mul (.v 1) (.v 1))))) (.mul (.mul (.v 0) (.mul (.v 1) (.v 1))) (.mul (.v 0) (.mul (.v 1) (.v 1))))) (.mul (.add (.mul (.v 0) (.v 0)) (.add (.mul (.v 0) (.v 0)) (.mul (.v 0) (.v 0)))) (.mul (.mul (.v 1) (.v 1)) (.mul (.v 1) (.v 1)))) (by decide +kernel)
theorem jd2(C:CRing K)(s y z:K):(C.mul (C.mul s (C.add y y)) (C.mul (C.mul z z) (C.mul z z)))=(C.mul s (C.mul (C.add (C.mul y (C.mul (C.mul z z) z)) (C.mul y (C.mul (C.mul z z) z))) z)):=ring4 C (lets s y z C.zero) (.mul (.mul (.v 0) (.add (.v 1) (.v 1))) (.mul (.mul (.v 2) (.v 2)) (.mul (.v 2) (.v 2)))) (.mul (.v 0) (.mul (.add (.mul (.v 1) (.mul (.mul (.v 2) (.v 2)) (.v 2))) (.mul (.v 1) (.mul (.mul (.v 2) (.v 2)) (.v 2)))) (.v 2))) (by decide +kernel)
theorem jd3(C:CRing K)(x y z:K):(C.mul (C.mul x (C.mul z z)) (C.add (C.mul (C.mul y (C.mul (C.mul z z) z)) (C.add (C.mul y (C.mul (C.mul z z) z)) (C.mul y (C.mul (C.mul z z) z)))) (C.mul (C.mul y (C.mul (C.mul z z) z)) (C.add (C.mul y (C.mul (C.mul z z) z)) (C.mul y (C.mul (C.mul z z) z))))))=(C.mul x (C.mul (C.mul (C.add (C.mul y (C.mul (C.mul z z) z)) (C.mul y (C.mul (C.mul z z) z))) z) (C.mul (C.add (C.mul y (C.mul (C.mul z z) z)) (C.mul y (C.mul (C.mul z z) z))) z))):=ring4 C (lets x y z C.zero) (.mul (.mul (.v 0) (.mul (.v 2) (.v 2))) (.add (.mul (.mul (.v 1) (.mul (.mul (.v 2) (.v 2)) (.v 2))) (.add (.mul (.v 1) (.mul (.mul (.v 2) (.v 2)) (.v 2))) (.mul (.v 1) (.mul (.mul (.v 2) (.v 2)) (.v 2))))) (.mul (.mul (.v 1) (.mul (.mul (.v 2) (.v 2)) (.v 2))) (.add (.mul (.v 1) (.mul (.mul (.v 2) (.v 2)) (.v 2))) (.mul (.v 1) (.mul (.mul (.v 2) (.v 2)) (.v 2))))))) (.mul (.v 0) (.mul (.mul (.add (.mul (.v 1) (.mul (.mul (.v 2) (.v 2)) (.v 2))) (.mul (.v 1) (.mul (.mul (.v 2) (.v 2)) (.v 2)))) (.v 2)) (.mul (.add (.mul (.v 1) (.mul (.mul (.v 2) (.v 2)) (.v 2))) (.mul (.v 1) (.mul (.mul (.v 2) (.v 2)) (.v 2)))) (.v 2)))) (by decide +kernel)
theorem jd4a(C:CRing K)(v:K):(C.mul (C.mul v (C.add v v)) (C.add (C.mul v (C.add v v)) (C.mul v (C.add v v))))=(C.mul v (C.mul (C.mul (C.add v v) (C.add v v)) (C.add v v))):=ring4 C (lets v C.zero C.zero C.zero) (.mul (.mul (.v 0) (.add (.v 0) (.v 0))) (.add (.mul (.v 0) (.add (.v 0) (.v 0))) (.mul (.v 0) (.add (.v 0) (.v 0))))) (.mul (.v 0) (.mul (.mul (.add (.v 0) (.v 0)) (.add (.v 0) (.v 0))) (.add (.v 0) (.v 0)))) (by decide +kernel)
theorem jd4b(C:CRing K)(y z r:K):(C.mul (C.mul y (C.mul (C.mul z z) z)) (C.mul (C.mul r r) r))=(C.mul y (C.mul (C.mul (C.mul r z) (C.mul r z)) (C.mul r z))):=ring4 C (lets y z r C.zero) (.mul (.mul (.v 0) (.mul (.mul (.v 1) (.v 1)) (.v 1))) (.mul (.mul (.v 2) (.v 2)) (.v 2))) (.mul (.v 0) (.mul (.mul (.mul (.v 2) (.v 1)) (.mul (.v 2) (.v 1))) (.mul (.v 2) (.v 1)))) (by decide +kernel)
theorem j2x(C:CRing K)(x D S:K):(C.sub (C.mul S D) (C.add (C.mul x D) (C.mul x D)))=(C.mul (C.sub (C.sub S x) x) D):=ring4 C (lets x D S C.zero) (.sub (.mul (.v 2) (.v 1)) (.add (.mul (.v 0) (.v 1)) (.mul (.v 0) (.v 1)))) (.mul (.sub (.sub (.v 2) (.v 0)) (.v 0)) (.v 1)) (by decide +kernel)
theorem ja1(C:CRing K)(x1 x2 z:K):(C.sub (C.mul x2 (C.mul z z)) (C.mul x1 (C.mul z z)))=(C.mul (C.sub x2 x1) (C.mul z z)):=ring4 C (lets x1 x2 z C.zero) (.sub (.mul (.v 1) (.mul (.v 2) (.v 2))) (.mul (.v 0) (.mul (.v 2) (.v 2)))) (.mul (.sub (.v 1) (.v 0)) (.mul (.v 2) (.v 2))) (by decide +kernel)
theorem ja2(C:CRing K)(x1 x2 z:K):(C.sub (C.mul x2 (C.mul (C.mul z z) z)) (C.mul x1 (C.mul (C.mul z z) z)))=(C.mul (C.sub x2 x1) (C.mul (C.mul z z) z)):=ring4 C (lets x1 x2 z C.zero) (.sub (.mul (.v 1) (.mul (.mul (.v 2) (.v 2)) (.v 2))) (.mul (.v 0) (.mul (.mul (.v 2) (.v 2)) (.v 2)))) (.mul (.sub (.v 1) (.v 0)) (.mul (.mul (.v 2) (.v 2)) (.v 2))) (by decide +kernel)
theorem ja3(C:CRing K)(s d z:K):(C.mul (C.mul s d) (C.mul (C.mul z z) z))=(C.mul s (C.mul z (C.mul d (C.mul z z)))):=ring4 C (lets s d z C.zero) (.mul (.mul (.v 0) (.v 1)) (.mul (.mul (.v 2) (.v 2)) (.v 2))) (.mul (.v 0) (.mul (.v 2) (.mul (.v 1) (.mul (.v 2) (.v 2))))) (by decide +kernel)
theorem ja4(C:CRing K)(x a z:K):(C.mul (C.mul x (C.mul z z)) (C.mul a a))=(C.mul x (C.mul (C.mul z a) (C.mul z a))):=ring4 C (lets x a z C.zero) (.mul (.mul (.v 0) (.mul (.v 2) (.v 2))) (.mul (.v 1) (.v 1))) (.mul (.v 0) (.mul (.mul (.v 2) (.v 1)) (.mul (.v 2) (.v 1)))) (by decide +kernel)
theorem ja5(C:CRing K)(x a z:K):(C.mul (C.mul x (C.mul (C.mul z z) z)) (C.mul (C.mul a a) a))=(C.mul x (C.mul (C.mul (C.mul z a) (C.mul z a)) (C.mul z a))):=ring4 C (lets x a z C.zero) (.mul (.mul (.v 0) (.mul (.mul (.v 2) (.v 2)) (.v 2))) (.mul (.mul (.v 1) (.v 1)) (.v 1))) (.mul (.v 0) (.mul (.mul (.mul (.v 2) (.v 1)) (.mul (.v 2) (.v 1))) (.mul (.v 2) (.v 1)))) (by decide +kernel)
theorem ja6(C:CRing K)(d z:K):(C.mul (C.mul (C.mul d (C.mul z z)) (C.mul d (C.mul z z))) (C.mul d (C.mul z z)))=(C.mul d (C.mul (C.mul z (C.mul d (C.mul z z))) (C.mul z (C.mul d (C.mul z z))))):=ring4 C (lets d z C.zero C.zero) (.mul (.mul (.mul (.v 0) (.mul (.v 1) (.v 1))) (.mul (.v 0) (.mul (.v 1) (.v 1)))) (.mul (.v 0) (.mul (.v 1) (.v 1)))) (.mul (.v 0) (.mul (.mul (.v 1) (.mul (.v 0) (.mul (.v 1) (.v 1)))) (.mul (.v 1) (.mul (.v 0) (.mul (.v 1) (.v 1)))))) (by decide +kernel)
theorem ja7(C:CRing K)(S x1 x2 D:K):(C.sub (C.sub (C.mul S D) (C.mul (C.sub x2 x1) D)) (C.add (C.mul x1 D) (C.mul x1 D)))=(C.mul (C.sub (C.sub S x1) x2) D):=ring4 C (lets S x1 x2 D) (.sub (.sub (.mul (.v 0) (.v 3)) (.mul (.sub (.v 2) (.v 1)) (.v 3))) (.add (.mul (.v 1) (.v 3)) (.mul (.v 1) (.v 3)))) (.mul (.sub (.sub (.v 0) (.v 1)) (.v 2)) (.v 3)) (by decide +kernel)
theorem jsq(C:CRing K)(s D:K):(C.mul (C.mul s D) (C.mul s D))=(C.mul (C.mul s s) (C.mul D D)):=ring4 C (lets s D C.zero C.zero) (.mul (.mul (.v 0) (.v 1)) (.mul (.v 0) (.v 1))) (.mul (.mul (.v 0) (.v 0)) (.mul (.v 1) (.v 1))) (by decide +kernel)
theorem jp1(C:CRing K)(x z i:K):(C.mul (C.mul x (C.mul z z)) (C.mul i i))=(C.mul x (C.mul (C.mul z i) (C.mul z i))):=ring4 C (lets x z i C.zero) (.mul (.mul (.v 0) (.mul (.v 1) (.v 1))) (.mul (.v 2) (.v 2))) (.mul (.v 0) (.mul (.mul (.v 1) (.v 2)) (.mul (.v 1) (.v 2)))) (by decide +kernel)
theorem jp2(C:CRing K)(x z i:K):(C.mul (C.mul x (C.mul (C.mul z z) z)) (C.mul (C.mul i i) i))=(C.mul x (C.mul (C.mul (C.mul z i) (C.mul z i)) (C.mul z i))):=ring4 C (lets x z i C.zero) (.mul (.mul (.v 0) (.mul (.mul (.v 1) (.v 1)) (.v 1))) (.mul (.mul (.v 2) (.v 2)) (.v 2))) (.mul (.v 0) (.mul (.mul (.mul (.v 1) (.v 2)) (.mul (.v 1) (.v 2))) (.mul (.v 1) (.v 2)))) (by decide +kernel)
theorem jac_dbl[DecidableEq K](h:Curve F b){T:K × K × K}{x y:K}(hp:(Pt.some x y).On F b)(hT:Jac F T (.some x y)):Jac F (jdbl F.toCRing T) (psum F (.some x y) (.some x y)):=by
 have hy:=y_ne h.root hp;obtain⟨X,Y,z⟩:=T;obtain⟨hz,hX,hY⟩:=hT;dsimp only at hz hX hY;have hy2:=h.two y hy;have hs:=F.div_mul (F.add (F.mul x x) (F.add (F.mul x x) (F.mul x x))) hy2;have ep:psum F (.some x y) (.some x y)=lineTo F x y x (F.mul (F.add (F.mul x x) (F.add (F.mul x x) (F.mul x x))) (F.inv (F.add y y))):=by
  show(if x=x then (if y≠y\/y=F.zero then _ else _)else _)=_;rw[if_pos rfl,if_neg (by rintro(e | e);exact e rfl;exact hy e)]
 rw[ep];generalize F.mul (F.add (F.mul x x) (F.add (F.mul x x) (F.mul x x))) (F.inv (F.add y y))=s at hs |-
 have hzz:=F.mul_ne hz hz;have hY0:Y≠F.zero:=by rw[hY];exact F.mul_ne hy (F.mul_ne hzz hz)
 -- the parts
 have e1:F.add (F.add (F.mul X X) (F.mul X X)) (F.mul X X)=F.mul s (F.mul (F.add Y Y) z):=by
  rw[hX,hY,jd1,<- hs,jd2]
 have e2:F.mul X (F.add (F.mul Y (F.add Y Y)) (F.mul Y (F.add Y Y)))=F.mul x (F.mul (F.mul (F.add Y Y) z) (F.mul (F.add Y Y) z)):=by
  rw[hX,hY,jd3]
 have e3:F.mul (F.mul Y (F.add Y Y)) (F.add (F.mul Y (F.add Y Y)) (F.mul Y (F.add Y Y)))=F.mul y (F.mul (F.mul (F.mul (F.add Y Y) z) (F.mul (F.add Y Y) z)) (F.mul (F.add Y Y) z)):=by
  rw[jd4a];generalize F.add Y Y=r;rw[hY,jd4b]
 have hZ:F.mul (F.add Y Y) z≠F.zero:=F.mul_ne (h.two Y hY0) hz;refine⟨hZ,?_,?_⟩
 ·show F.sub (F.mul (F.add (F.add (F.mul X X) (F.mul X X)) (F.mul X X)) (F.add (F.add (F.mul X X) (F.mul X X)) (F.mul X X))) (F.add (F.mul X (F.add (F.mul Y (F.add Y Y)) (F.mul Y (F.add Y Y)))) (F.mul X (F.add (F.mul Y (F.add Y Y)) (F.mul Y (F.add Y Y)))))=F.mul _ (F.mul (F.mul (F.add Y Y) z) (F.mul (F.add Y Y) z))
  rw[e1,e2,jsq F.toCRing s,j2x]
 ·show F.sub (F.mul (F.add (F.add (F.mul X X) (F.mul X X)) (F.mul X X)) (F.sub (F.mul X (F.add (F.mul Y (F.add Y Y)) (F.mul Y (F.add Y Y)))) (F.sub (F.mul (F.add (F.add (F.mul X X) (F.mul X X)) (F.mul X X)) (F.add (F.add (F.mul X X) (F.mul X X)) (F.mul X X))) (F.add (F.mul X (F.add (F.mul Y (F.add Y Y)) (F.mul Y (F.add Y Y)))) (F.mul X (F.add (F.mul Y (F.add Y Y)) (F.mul Y (F.add Y Y)))))))) (F.mul (F.mul Y (F.add Y Y)) (F.add (F.mul Y (F.add Y Y)) (F.mul Y (F.add Y Y))))=F.mul _ (F.mul (F.mul (F.mul (F.add Y Y) z) (F.mul (F.add Y Y) z)) (F.mul (F.add Y Y) z))
  rw[e1,e2,e3,jsq F.toCRing s,j2x,r5,r4]
theorem jac_twice[DecidableEq K](h:Curve F b){T:K × K × K}{p:Pt K}(hp:p.On F b)(hT:Jac F T p):Jac F (jtwice F T) (psum F p p):=by
 cases p with
 | none =>
  have e:T.2.2=F.zero:=hT;show Jac F (if T.2.2=F.zero then T else _) .none;rw[if_pos e];exact e
 | some x y =>
  have e:T.2.2≠F.zero:=hT.1;have g:=jac_dbl h hp hT;show Jac F (if T.2.2=F.zero then T else _) _;rw[if_neg e];exact g
theorem jac_plus[DecidableEq K](h:Curve F b){T:K × K × K}{p q:Pt K}(hp:p.On F b)(hT:Jac F T p):Jac F (jplus F T q) (psum F p q):=by
 cases q with
 | none=>rw[psum_none_r];exact hT
 | some x2 y2 =>
  cases p with
  | none =>
   have e:T.2.2=F.zero:=hT;show Jac F (if T.2.2=F.zero then _ else _) (.some x2 y2);rw[if_pos e];refine⟨F.one_ne,?_,?_⟩
   ·show x2=F.mul x2 (F.mul F.one F.one)
    rw[F.mul_one,F.mul_one]
   ·show y2=F.mul y2 (F.mul (F.mul F.one F.one) F.one)
    rw[F.mul_one,F.mul_one,F.mul_one]
  | some x y =>
   have hT':=hT;obtain⟨X,Y,z⟩:=T;obtain⟨hz,hX,hY⟩:=hT;dsimp only at hz hX hY;have hzz:=F.mul_ne hz hz;have ha:jacross F.toCRing (X,Y,z) x2=F.mul (F.sub x2 x) (F.mul z z):=by
    show F.sub (F.mul x2 (F.mul z z)) X=_;rw[hX,ja1]
   have hu:jup F.toCRing (X,Y,z) y2=F.mul (F.sub y2 y) (F.mul (F.mul z z) z):=by
    show F.sub (F.mul y2 (F.mul (F.mul z z) z)) Y=_;rw[hY,ja2]
   have sub_self:∀ a:K,F.sub a a=F.zero:=fun a=>F.add_neg a;show Jac F (if z=F.zero then _ else if jacross F.toCRing (X,Y,z) x2=F.zero/\jup F.toCRing (X,Y,z) y2=F.zero then _ else _) (if x=x2 then _ else _);rw[if_neg hz];by_cases ex:x=x2
   ·subst ex
    by_cases ey:y=y2
    ·subst ey
     rw[if_pos ⟨by rw[ha,sub_self,F.zero_mul],by rw[hu,sub_self,F.zero_mul]⟩];exact jac_twice h hp hT'
    ·rw[if_neg (show ¬(jacross F.toCRing (X,Y,z) x=F.zero/\jup F.toCRing (X,Y,z) y2=F.zero) from fun e=>ey (F.eq_of_sub (F.left_zero (F.mul_ne hzz hz) (hu.symm.trans e.2))).symm),if_pos rfl,if_pos (show y≠y2\/y=F.zero from .inl ey)]
     show F.mul z (jacross F.toCRing (X,Y,z) x)=F.zero;rw[ha,sub_self,F.zero_mul,F.mul_comm,F.zero_mul]
   ·have hd:=ne_sub F.toCRing ex
    rw[if_neg ex,if_neg fun e=>ex (F.eq_of_sub (F.left_zero hzz (ha.symm.trans e.1))).symm];have hs:=F.div_mul (F.sub y2 y) hd;generalize F.mul (F.sub y2 y) (F.inv (F.sub x2 x))=s at hs |-
    have hA:jacross F.toCRing (X,Y,z) x2≠F.zero:=by rw[ha];exact F.mul_ne hd hzz
    have e1:jup F.toCRing (X,Y,z) y2=F.mul s (F.mul z (jacross F.toCRing (X,Y,z) x2)):=by
     rw[hu,ha,<- hs,ja3]
    have e4:F.mul (F.mul (jacross F.toCRing (X,Y,z) x2) (jacross F.toCRing (X,Y,z) x2)) (jacross F.toCRing (X,Y,z) x2)=F.mul (F.sub x2 x) (F.mul (F.mul z (jacross F.toCRing (X,Y,z) x2)) (F.mul z (jacross F.toCRing (X,Y,z) x2))):=by
     rw[ha,ja6]
    have e2:F.mul X (F.mul (jacross F.toCRing (X,Y,z) x2) (jacross F.toCRing (X,Y,z) x2))=F.mul x (F.mul (F.mul z (jacross F.toCRing (X,Y,z) x2)) (F.mul z (jacross F.toCRing (X,Y,z) x2))):=by
     generalize jacross F.toCRing (X,Y,z) x2=a;rw[hX,ja4]
    have e3:F.mul Y (F.mul (F.mul (jacross F.toCRing (X,Y,z) x2) (jacross F.toCRing (X,Y,z) x2)) (jacross F.toCRing (X,Y,z) x2))=F.mul y (F.mul (F.mul (F.mul z (jacross F.toCRing (X,Y,z) x2)) (F.mul z (jacross F.toCRing (X,Y,z) x2))) (F.mul z (jacross F.toCRing (X,Y,z) x2))):=by
     generalize jacross F.toCRing (X,Y,z) x2=a;rw[hY,ja5]
    have hx:F.sub (F.sub (F.mul (jup F.toCRing (X,Y,z) y2) (jup F.toCRing (X,Y,z) y2)) (F.mul (F.mul (jacross F.toCRing (X,Y,z) x2) (jacross F.toCRing (X,Y,z) x2)) (jacross F.toCRing (X,Y,z) x2))) (F.add (F.mul X (F.mul (jacross F.toCRing (X,Y,z) x2) (jacross F.toCRing (X,Y,z) x2))) (F.mul X (F.mul (jacross F.toCRing (X,Y,z) x2) (jacross F.toCRing (X,Y,z) x2))))=F.mul (F.sub (F.sub (F.mul s s) x) x2) (F.mul (F.mul z (jacross F.toCRing (X,Y,z) x2)) (F.mul z (jacross F.toCRing (X,Y,z) x2))):=by
     rw[e1,e2,e4,jsq F.toCRing s,ja7]
    refine⟨F.mul_ne hz hA,hx,?_⟩;show F.sub (F.mul (jup F.toCRing (X,Y,z) y2) (F.sub (F.mul X (F.mul (jacross F.toCRing (X,Y,z) x2) (jacross F.toCRing (X,Y,z) x2))) (F.sub (F.sub (F.mul (jup F.toCRing (X,Y,z) y2) (jup F.toCRing (X,Y,z) y2)) (F.mul (F.mul (jacross F.toCRing (X,Y,z) x2) (jacross F.toCRing (X,Y,z) x2)) (jacross F.toCRing (X,Y,z) x2))) (F.add (F.mul X (F.mul (jacross F.toCRing (X,Y,z) x2) (jacross F.toCRing (X,Y,z) x2))) (F.mul X (F.mul (jacross F.toCRing (X,Y,z) x2) (jacross F.toCRing (X,Y,z) x2))))))) (F.mul Y (F.mul (F.mul (jacross F.toCRing (X,Y,z) x2) (jacross F.toCRing (X,Y,z) x2)) (jacross F.toCRing (X,Y,z) x2)))=F.mul _ (F.mul (F.mul (F.mul z (jacross F.toCRing (X,Y,z) x2)) (F.mul z (jacross F.toCRing (X,Y,z) x2))) (F.mul z (jacross F.toCRing (X,Y,z) x2)));rw[hx,e1,e2,e3,r5,r4]
theorem jac_point{T:K × K × K}{p:Pt K}{i:K}(hT:Jac F T p)(hi:F.mul T.2.2 i=F.one):p=.some (F.mul T.1 (F.mul i i)) (F.mul T.2.1 (F.mul (F.mul i i) i)):=by
 obtain⟨X,Y,z⟩:=T;dsimp only at hi |-
 cases p with
 | none =>
  have e:z=F.zero:=hT;rw[e,F.zero_mul]at hi;exact absurd hi.symm F.one_ne
 | some x y =>
  obtain⟨hz,hX,hY⟩:=hT;dsimp only at hz hX hY;rw[hX,hY,jp1,jp2,hi,F.mul_one,F.mul_one,F.mul_one,F.mul_one]
end
section
variable {p:Nat} (hp:Pr p)
theorem v_subr(a b:Zp p):(a.1+(p - b.1))%p=((zpField hp).sub a b).1:=by
 show _=(a.1+(p - b.1)%p)%p;rw[Nat.add_mod_mod]
theorem v_sub(a b:Zp p):(a.1%p+(p - b.1%p))%p=((zpField hp).sub a b).1:=by
 rw[Nat.mod_eq_of_lt a.2,Nat.mod_eq_of_lt b.2,v_subr]
theorem v_neg(a:Zp p):(0%p+(p - a.1%p))%p=((zpField hp).neg a).1:=by
 show _=(p - a.1)%p;rw[Nat.mod_eq_of_lt a.2,Nat.zero_mod,Nat.zero_add]
theorem v_inv(a:Zp p):a.1^(p - 2)%p=((zpField hp).inv a).1:=rfl
theorem v_inv_iff(a:Zp p):a.1*(a.1^(p - 2)%p)%p=1↔a≠(zpField hp).zero:=by
 refine(invN_iff (n:=a.1) hp).trans ⟨fun h e=>h ?_,fun h hd=>h (zp_ext (Nat.eq_zero_of_dvd_of_lt hd a.2))⟩;rw[e];exact Nat.dvd_zero p
theorem v_inv_uniq{a i:Zp p}(h:(zpField hp).mul a i=(zpField hp).one):(zpField hp).inv a=i:=zp_ext (invN_uniq hp (congrArg Subtype.val h) i.2)
end
theorem k_on(x y:KK):y.1*y.1%pK=(x.1*x.1%pK*x.1%pK+7)%pK↔(Pt.some x y).On FK sevenK:=⟨fun h=>zp_ext h,fun h=>congrArg Subtype.val h⟩
open Go.RowKit
def pOps(m:Nat):Ops Nat:=⟨fun a b=>(a+b)%m,fun a b=>a*b%m,fun a b=>(a%m+(m - b%m))%m⟩
theorem pK_lt:pK<2^256:=by decide
theorem hom_p:Hom FK.ops (pOps pK) Subtype.val:=⟨fun _ _=>rfl,fun _ _=>rfl,fun a b=>(v_sub prK a b).symm⟩
section
variable {R S:Type}
def tw3(O:Ops R)(T:R × R × R):R × R × R :=
 let rise:=O.add T.2.1 T.2.1
 let half:=O.mul T.2.1 rise
 let square:=O.add half half
 let middle:=O.mul T.1 square
 let xx:=O.mul T.1 T.1
 let slope:=O.add (O.add xx xx) xx
 let x:=O.sub (O.mul slope slope) (O.add middle middle)
 (x,O.sub (O.mul slope (O.sub middle x)) (O.mul half square),O.mul rise T.2.2)
def ac3(O:Ops R)(T:R × R × R)(x:R):R:=O.sub (O.mul x (O.mul T.2.2 T.2.2)) T.1
def up3(O:Ops R)(T:R × R × R)(y:R):R:=O.sub (O.mul y (O.mul (O.mul T.2.2 T.2.2) T.2.2)) T.2.1
def ad3(O:Ops R)(T:R × R × R)(across up:R):R × R × R :=
 let square:=O.mul across across
 let cube:=O.mul square across
 let middle:=O.mul T.1 square
 let x:=O.sub (O.sub (O.mul up up) cube) (O.add middle middle)
 (x,O.sub (O.mul up (O.sub middle x)) (O.mul T.2.1 cube),O.mul T.2.2 across)
variable {O:Ops R} {P:Ops S} {f:R->S}
theorem tw3_map(h:Hom O P f)(T:R × R × R):map3 f (tw3 O T)=tw3 P (map3 f T):=by simp only[tw3,map3,h.add,h.mul,h.sub]
theorem ac3_map(h:Hom O P f)(T:R × R × R)(x:R):f (ac3 O T x)=ac3 P (map3 f T) (f x):=by simp only[ac3,map3,h.mul,h.sub]
theorem up3_map(h:Hom O P f)(T:R × R × R)(y:R):f (up3 O T y)=up3 P (map3 f T) (f y):=by simp only[up3,map3,h.mul,h.sub]
theorem ad3_map(h:Hom O P f)(T:R × R × R)(a u:R):map3 f (ad3 O T a u)=ad3 P (map3 f T) (f a) (f u):=by simp only[ad3,map3,h.add,h.mul,h.sub]
end
theorem gtw_tw3(m:Nat)(T:Nat × Nat × Nat):gtw m T=if T.2.2=0 then T else tw3 (pOps m) T:=rfl
theorem gpl_ad3(m:Nat)(T:Nat × Nat × Nat)(x y:Nat)(n:Bool):gpl m T x y n=if n=true then T else if T.2.2=0 then (x,y,1)else if ac3 (pOps m) T x=0/\up3 (pOps m) T y=0 then gtw m T else ad3 (pOps m) T (ac3 (pOps m) T x) (up3 (pOps m) T y):=rfl
abbrev nv(S:KK × KK × KK):Nat × Nat × Nat:=map3 Subtype.val S
def rel(p:Nat × Nat × Bool):Pt KK->Prop
 | .none=>p.2.2=true
 | .some a b=>p=(a.1,b.1,false)
def canon:Pt KK->Nat × Nat × Bool
 | .none=>(0,0,true)
 | .some a b=>(a.1,b.1,false)
def tcell(P:Pt KK):Array Value:=pc (canon P).1 (canon P).2.1 (canon P).2.2
theorem canon_lt(P:Pt KK):(canon P).1<2^256/\(canon P).2.1<2^256:=by
 cases P with
 | none=>exact⟨by show(0:Nat)<_;omega,by show(0:Nat)<_;omega⟩
 | some a b=>exact⟨Nat.lt_trans a.2 pK_lt,Nat.lt_trans b.2 pK_lt⟩
theorem gtw_val(S:KK × KK × KK):gtw pK (nv S)=nv (jtwice FK S):=by
 rw[gtw_tw3];unfold jtwice;by_cases h:S.2.2=FK.zero
 ·rw[if_pos (show(nv S).2.2=0 from congrArg Subtype.val h),if_pos h]
 ·rw[if_neg (show ¬(nv S).2.2=0 from fun e=>h (zp_ext e)),if_neg h]
  exact(tw3_map hom_p S).symm
theorem gpl_val(S:KK × KK × KK){p:Nat × Nat × Bool}{Q:Pt KK}(h:rel p Q):gpl pK (nv S) p.1 p.2.1 p.2.2=nv (jplus FK S Q):=by
 cases Q with
 | none =>
  rw[gpl_ad3,if_pos (show p.2.2=true from h)];rfl
 | some a b =>
  obtain rfl:p=(a.1,b.1,false):=h;rw[gpl_ad3,if_neg (show ¬((a.1,b.1,false):Nat × Nat × Bool).2.2=true from Bool.false_ne_true)];show _=nv (if S.2.2=FK.zero then (a,b,FK.one)else if jacross FK.toCRing S a=FK.zero/\jup FK.toCRing S b=FK.zero then jtwice FK S else jadd FK.toCRing S a b);by_cases hz:S.2.2=FK.zero
  ·rw[if_pos (show(nv S).2.2=0 from congrArg Subtype.val hz),if_pos hz]
   rfl
  ·rw[if_neg (show ¬(nv S).2.2=0 from fun e=>hz (zp_ext e)),if_neg hz]
   have ea:ac3 (pOps pK) (nv S) a.1=(jacross FK.toCRing S a).1:=(ac3_map hom_p S a).symm;have eu:up3 (pOps pK) (nv S) b.1=(jup FK.toCRing S b).1:=(up3_map hom_p S b).symm;dsimp only;rw[ea,eu];by_cases hc:jacross FK.toCRing S a=FK.zero/\jup FK.toCRing S b=FK.zero
   ·rw[if_pos hc,if_pos ⟨congrArg Subtype.val hc.1,congrArg Subtype.val hc.2⟩]
    exact gtw_val S
   ·rw[if_neg hc,if_neg (fun e=>hc ⟨zp_ext e.1,zp_ext e.2⟩)]
    exact(ad3_map hom_p S _ _).symm
theorem gpo_eq(m a b c i:Nat)(hi:c^(m - 2)%m=i):gpo m (a,b,c)=if c*i%m=1 then pc (a*(i*i%m)%m) (b*(i*i%m*i%m)%m) false else pc 0 0 true:=by
 subst hi;rfl
theorem gpo_val{S:KK × KK × KK}{P:Pt KK}(hT:Jac FK S P):gpo pK (nv S)=tcell P:=by
 obtain⟨X,Y,Z⟩:=S;refine(gpo_eq pK X.1 Y.1 Z.1 _ (v_inv prK Z)).trans ?_;by_cases h:Z=FK.zero
 ·have hn:¬Z.1*((zpField prK).inv Z).1%pK=1:=fun e=>(v_inv_iff prK Z).1 (by rw[v_inv prK Z];exact e) h
  rw[if_neg hn];cases P with
  | none=>rfl
  | some x y=>exact absurd h hT.1
 ·have hp:Z.1*((zpField prK).inv Z).1%pK=1:=by
   have:=(v_inv_iff prK Z).2 h;rwa [v_inv prK Z]at this
  rw[if_pos hp];have hi:FK.mul Z (FK.inv Z)=FK.one:=FK.mul_inv _ h;rw[jac_point (T:=(X,Y,Z)) hT hi];show pc (X.1*((FK.inv Z).1*(FK.inv Z).1%pK)%pK) (Y.1*((FK.inv Z).1*(FK.inv Z).1%pK*(FK.inv Z).1%pK)%pK) false=_;generalize FK.inv Z=i;rfl
abbrev zeroS:KK × KK × KK:=(FK.zero,FK.zero,FK.zero)
theorem jac_zero:Jac FK zeroS .none:=rfl
theorem add_val{p q:Nat × Nat × Bool}{P Q:Pt KK}(hp:rel p P)(hq:rel q Q)(oP:P.On FK sevenK):gpo pK (gsm pK [p,q])=tcell (psum FK P Q):=by
 show gpo pK (gpl pK (gpl pK (nv zeroS) p.1 p.2.1 p.2.2) q.1 q.2.1 q.2.2)=_;rw[gpl_val _ hp,gpl_val _ hq];exact gpo_val (jac_plus curveK (p:=P) oP (jac_plus (q:=P) curveK (p:=.none) trivial jac_zero))
def relL:List (Nat × Nat × Nat × Bool)->List (Nat × Pt KK)->Prop
 | [],[]=>True
 | t::l,u::L=>t.1=u.1/\rel t.2 u.2/\relL l L
 | _,_=>False
theorem spt_rel{p:Nat × Nat × Bool}{P:Pt KK}(h:rel p P)(d:Nat):rel (spt pK p d) (dpt FK P d):=by
 unfold spt dpt;by_cases h1:d=1
 ·rw[if_pos h1,if_pos h1];exact h
 ·rw[if_neg h1,if_neg h1]
  by_cases h2:d=2
  ·rw[if_pos h2,if_pos h2]
   cases P with
   | none =>
    unfold gtv;rw[if_pos (show p.2.2=true from h)];rfl
   | some a b =>
    obtain rfl:p=(a.1,b.1,false):=h;unfold gtv;rw[if_neg (show ¬((a.1,b.1,false):Nat × Nat × Bool).2.2=true from Bool.false_ne_true)];show(a.1,(0%pK+(pK - b.1%pK))%pK,false)=_;rw[v_neg prK b];rfl
  ·rw[if_neg h2,if_neg h2];rfl
theorem gin_val(i:Nat):∀(l:List (Nat × Nat × Nat × Bool)) (L:List (Nat × Pt KK)),relL l L->OnL FK sevenK L->∀(S:KK × KK × KK) (a:Pt KK),a.On FK sevenK->Jac FK S a->∃ S',gin pK i l (nv S)=nv S'/\Jac FK S' ((ths L i).foldl (fun a t=>psum FK a (dpt FK t.2 (sdg t.1))) a)
 | [],[],_,_,S,a,_,hJ=>⟨S,rfl,hJ⟩
 | t::l,u::L,h,hO,S,a,oa,hJ=>by
  have hs:=spt_rel h.2.1 (sdg (sth t.1 i));have hJ2:=jac_plus (q:=dpt FK u.2 (sdg (sth t.1 i))) curveK oa hJ;have oq:=on_dpt (F:=FK) (b:=sevenK) hO.head (sdg (sth t.1 i));obtain⟨S',e,hJ'⟩:=gin_val i l L h.2.2 hO.tail _ _ (on_psum curveK oa oq) hJ2;refine⟨S',?_,?_⟩
  ·show gin pK i l (gpl pK (nv S) (spt pK t.2 (sdg (sth t.1 i))).1 (spt pK t.2 (sdg (sth t.1 i))).2.1 (spt pK t.2 (sdg (sth t.1 i))).2.2)=_
   rw[gpl_val S hs];exact e
  ·rw[h.1]at hJ'
   exact hJ'
 | [],_::_,h,_,_,_,_,_=>h.elim
 | _::_,[],h,_,_,_,_,_=>h.elim
theorem gwk_val{l:List (Nat × Nat × Nat × Bool)}{L:List (Nat × Pt KK)}(h:relL l L)(hO:OnL FK sevenK L)(hk:∀ t,t∈L->t.1<2^256):∀ s,s<=257->∃ S,gwk pK l s=nv S/\Jac FK S (tot FK (ths L (257 - s)))
 | 0,_=>⟨zeroS,rfl,by rw[Nat.sub_zero,tot_end hk];exact jac_zero⟩
 | s+1,hs=>by
  obtain⟨S,e,hJ⟩:=gwk_val h hO hk s (by omega);have oT:=on_tot curveK (on_ths hO (257 - s));obtain⟨S',e',hJ'⟩:=gin_val (256 - s) l L h hO _ _ (on_psum curveK oT oT) (jac_twice curveK oT hJ);refine⟨S',?_,?_⟩
  ·show gin pK (256 - s) l (gtw pK (gwk pK l s))=_
   rw[e,gtw_val];exact e'
  ·rw[show 257 - s=256 - s+1 by omega,tot_round curveK hO (256 - s)]at hJ'
   rw[show 257 - (s+1)=256 - s by omega];exact hJ'
theorem times_val{l:List (Nat × Nat × Nat × Bool)}{L:List (Nat × Pt KK)}(h:relL l L)(hO:OnL FK sevenK L)(hk:∀ t,t∈L->t.1<2^256):gpo pK (gwk pK l 257)=tcell (tot FK L):=by
 obtain⟨S,e,hJ⟩:=gwk_val h hO hk 257 (Nat.le_refl _);rw[e];rw[Nat.sub_self,ths_zero]at hJ;exact gpo_val hJ
/-! The reference's. -/
/-! Which points are on the curve. -/
theorem rel_of{x y:Nat}{n:Bool}(h:onB pK (x,y,n)=true):∃ P,rel (x,y,n) P/\P.On FK sevenK:=by
 cases n with
 | true=>exact⟨.none,rfl,trivial⟩
 | false =>
  have h2:x<pK/\y<pK/\y*y%pK=(x*x%pK*x%pK+7)%pK:=by
   unfold onB at h;exact of_decide_eq_true h
  exact⟨.some ⟨x,h2.1⟩ ⟨y,h2.2.1⟩,rfl,(k_on ⟨x,h2.1⟩ ⟨y,h2.2.1⟩).1 h2.2.2⟩
theorem on_canon{P:Pt KK}(h:P.On FK sevenK):onB pK (canon P)=true:=by
 cases P with
 | none=>rfl
 | some a b =>
  show(false||decide (a.1<pK/\b.1<pK/\b.1*b.1%pK=(a.1*a.1%pK*a.1%pK+7)%pK))=true;rw[Bool.false_or];exact decide_eq_true ⟨a.2,b.2,(k_on a b).2 h⟩
theorem rel_is{p:Nat × Nat × Bool}{P:Pt KK}(h:rel p P):(p.2.2=true/\P=.none)\/(p.2.2=false/\p=canon P):=by
 cases P with
 | none=>exact .inl ⟨h,rfl⟩
 | some a b=>exact .inr ⟨by rw[show p=(a.1,b.1,false) from h],h⟩
theorem canon_inj{P Q:Pt KK}(h:canon P=canon Q):P=Q:=by
 cases P with
 | none =>
  cases Q with
  | none=>rfl
  | some a b=>exact absurd (congrArg (fun t=>t.2.2) h) (by show ¬true=false;decide)
 | some a b =>
  cases Q with
  | none=>exact absurd (congrArg (fun t=>t.2.2) h) (by show ¬false=true;decide)
  | some c d =>
   have h1:a.1=c.1:=congrArg (fun t=>t.1) h;have h2:b.1=d.1:=congrArg (fun t=>t.2.1) h;rw[zp_ext h1,zp_ext h2]
open Go.RowKit
namespace Sy
theorem rel_uniq{p:Nat × Nat × Bool}{P Q:Pt KK}(hP:rel p P)(hQ:rel p Q):P=Q:=by
 rcases rel_is hP with⟨h1,h2⟩ | ⟨h1,h2⟩
 ·rcases rel_is hQ with⟨_,h4⟩ | ⟨h3,_⟩
  ·rw[h2,h4]
  ·rw[h1]at h3;cases h3
 ·rcases rel_is hQ with⟨h3,_⟩ | ⟨_,h4⟩
  ·rw[h1]at h3;cases h3
  ·exact canon_inj (h2.symm.trans h4)
noncomputable def ptOf (p:Nat × Nat × Bool):Pt KK:=by
 classical
 exact if h:∃ P,rel p P then h.choose else .none
theorem ptOf_is{p:Nat × Nat × Bool}{P:Pt KK}(h:rel p P):ptOf p=P:=by
 unfold ptOf;rw[dif_pos ⟨P,h⟩];exact rel_uniq (Exists.choose_spec (⟨P,h⟩:∃ P,rel p P)) h
theorem rel_pt{p:Nat × Nat × Bool}(h:onB mK p=true):rel p (ptOf p)/\(ptOf p).On FK sevenK:=by
 obtain⟨P,h1,h2⟩:=rel_of (x:=p.1) (y:=p.2.1) (n:=p.2.2) h;have h1:rel p P:=h1;rw[ptOf_is h1];exact⟨h1,h2⟩
noncomputable def adP (p q:Nat × Nat × Bool):Nat × Nat × Bool:=if (onB mK p&&onB mK q)=true then canon (psum FK (ptOf p) (ptOf q))else (0,0,true)
noncomputable def muP (k:Nat) (p:Nat × Nat × Bool):Nat × Nat × Bool:=if onB mK p=true then canon (nmul FK k (ptOf p))else (0,0,true)
theorem if_lt{b:Bool}{P:Pt KK}:(if b=true then canon P else (0,0,true)).1<2^256/\(if b=true then canon P else (0,0,true)).2.1<2^256:=by
 split
 ·exact canon_lt P
 ·exact⟨w0_ok,w0_ok⟩
theorem if_val{b:Bool}{P:Pt KK}{v:Array Value}(h:b=true->v=tcell P)(γ:Pl):(sP3 (if b=true then canon P else (0,0,true))).val γ=.agg (if b=true then v else pc 0 0 true):=by
 rw[sP3_val];cases b with
 | true=>rw[if_pos rfl,if_pos rfl,h rfl];rfl
 | false=>rfl
def con2(f:FuncId)(g:Nat × Nat × Bool->Nat × Nat × Bool->SV):Con:=conV f fun l=>match l with
 | [x,y]=>match ptS x,ptS y with
  | some p,some q=>some (g p q,[])
  | _,_=>none
 | _=>none
theorem con2_ok{base:Nat}{γ0:Pl}{w0:World}{f:FuncId}{g:Nat × Nat × Bool->Nat × Nat × Bool->SV}(hc:∀ as_ wx,(callFunc f as_).run Tryz.prog wx=.ok (.enter f as_) wx)
  (h:∀ p q:Nat × Nat × Bool,p.1<2^256->p.2.1<2^256->q.1<2^256->q.2.1<2^256->(g p q).ok/\(g p q).lt 0=true/\∀ w,Calls Tryz.prog f #[.agg (pc p.1 p.2.1 p.2.2),.agg (pc q.1 q.2.1 q.2.2)] w fun e w'=>e=.returned ((g p q).val fun _=>0)/\Below w.heap.size w w'):ConOk Tryz.prog base γ0 w0 (con2 f g) :=
 conV_ok hc fun us r q hr hq hok=>by
  split at hr
  ·rename_i x y
   split at hr
   ·rename_i p q hp hq'
    cases hr;have b1:=(ptS_ok (γ:=fun _=>0) hp).2 (hok x (by simp));have b2:=(ptS_ok (γ:=fun _=>0) hq').2 (hok y (by simp));obtain⟨g1,g2,g3⟩:=h p q b1.1 b1.2 b2.1 b2.2;refine⟨g1,g2,fun γ w=>?_⟩;have g4:=g3 w;rw[<- val0 (γ:=γ) g2,<- (ptS_ok (γ:=γ) hp).1,<- (ptS_ok (γ:=γ) hq').1]at g4;exact g4
   ·cases hr
  ·cases hr
def con1(f:FuncId)(g:Nat × Nat × Bool->SV):Con:=conV f fun l=>match l with
 | [x]=>(ptS x).map fun p=>(g p,[])
 | _=>none
theorem con1_ok{base:Nat}{γ0:Pl}{w0:World}{f:FuncId}{g:Nat × Nat × Bool->SV}(hc:∀ as_ wx,(callFunc f as_).run Tryz.prog wx=.ok (.enter f as_) wx)
  (h:∀ p:Nat × Nat × Bool,p.1<2^256->p.2.1<2^256->(g p).ok/\(g p).lt 0=true/\∀ w,Calls Tryz.prog f #[.agg (pc p.1 p.2.1 p.2.2)] w fun e w'=>e=.returned ((g p).val fun _=>0)/\Below w.heap.size w w'):ConOk Tryz.prog base γ0 w0 (con1 f g) :=
 conV_ok hc fun us r q hr hq hok=>by
  split at hr
  ·rename_i x
   obtain⟨p,hp,e⟩:=Option.map_eq_some_iff.1 hr;cases e;have b1:=(ptS_ok (γ:=fun _=>0) hp).2 (hok x (by simp));obtain⟨g1,g2,g3⟩:=h p b1.1 b1.2;refine⟨g1,g2,fun γ w=>?_⟩;have g4:=g3 w;rw[<- val0 (γ:=γ) g2,<- (ptS_ok (γ:=γ) hp).1]at g4;exact g4
  ·cases hr
noncomputable def cAdd:Con:=con2 18 fun p q=>.tu (sP3 (adP p q)) (sIf (onB mK p&&onB mK q))
theorem cAdd_ok{base:Nat}{γ0:Pl}{w0:World}:ConOk Tryz.prog base γ0 w0 cAdd:=con2_ok (fun _ _=>by kernel_rfl) fun p q h1 h2 h3 h4=>by
 refine⟨⟨(sP3_ok if_lt).1,trivial⟩,rfl,fun w=>?_⟩;have h:=gadd_any p.1 p.2.1 q.1 q.2.1 p.2.2 q.2.2 h1 h2 h3 h4 w;have e:[(p.1,p.2.1,p.2.2),(q.1,q.2.1,q.2.2)].all (onB mK)=(onB mK p&&onB mK q):=by simp
 rw[e]at h;have hv:(onB mK p&&onB mK q)=true->gpo mK (gsm mK [(p.1,p.2.1,p.2.2),(q.1,q.2.1,q.2.2)])=tcell (psum FK (ptOf p) (ptOf q)):=fun hb=>by
  rw[Bool.and_eq_true]at hb;exact add_val (p:=p) (q:=q) (rel_pt hb.1).1 (rel_pt hb.2).1 (rel_pt hb.1).2
 rw[<- if_val hv fun _=>0]at h;exact h
def cOn:Con:=con1 10 fun p=>.b (onB mK p)
theorem cOn_ok{base:Nat}{γ0:Pl}{w0:World}:ConOk Tryz.prog base γ0 w0 cOn:=con1_ok (fun _ _=>by kernel_rfl) fun p h1 h2=>⟨trivial,rfl,fun w=>gon_any p.1 p.2.1 p.2.2 h1 h2 w⟩
def cOnR:Con:=con1 8 fun p=>.b (onB mK p)
theorem cOnR_ok{base:Nat}{γ0:Pl}{w0:World}:ConOk Tryz.prog base γ0 w0 cOnR:=con1_ok (fun _ _=>by kernel_rfl) fun p h1 h2=>⟨trivial,rfl,fun w=>ron_any p.1 p.2.1 p.2.2 h1 h2 w⟩
def smB(p q:Nat × Nat × Bool):Bool:=if (p.2.2||q.2.2)=true then p.2.2&&q.2.2 else decide (p.1=q.1/\p.2.1=q.2.1)
def cSame:Con:=con2 15 fun p q=>.b (smB p q)
theorem cSame_ok{base:Nat}{γ0:Pl}{w0:World}:ConOk Tryz.prog base γ0 w0 cSame:=con2_ok (fun _ _=>by kernel_rfl) fun p q h1 h2 h3 h4=>⟨trivial,rfl,fun w=>gsame_any p.1 p.2.1 q.1 q.2.1 p.2.2 q.2.2 h1 h2 h3 h4 w⟩
def conKP(f:FuncId)(g:Nat->Nat × Nat × Bool->SV):Con:=conV f fun l=>match l with
 | [.w k,x]=>(ptS x).map fun p=>(g k p,[])
 | _=>none
theorem conKP_ok{base:Nat}{γ0:Pl}{w0:World}{f:FuncId}{g:Nat->Nat × Nat × Bool->SV}(hc:∀ as_ wx,(callFunc f as_).run Tryz.prog wx=.ok (.enter f as_) wx)
  (h:∀ k (p:Nat × Nat × Bool),k<2^256->p.1<2^256->p.2.1<2^256->(g k p).ok/\(g k p).lt 0=true/\∀ w,Calls Tryz.prog f #[.agg (pw k),.agg (pc p.1 p.2.1 p.2.2)] w fun e w'=>e=.returned ((g k p).val fun _=>0)/\Below w.heap.size w w'):ConOk Tryz.prog base γ0 w0 (conKP f g) :=
 conV_ok hc fun us r q hr hq hok=>by
  split at hr
  ·rename_i k x
   obtain⟨p,hp,e⟩:=Option.map_eq_some_iff.1 hr;cases e;have b1:=(ptS_ok (γ:=fun _=>0) hp).2 (hok x (by simp));obtain⟨g1,g2,g3⟩:=h k p (hok (.w k) (by simp)) b1.1 b1.2;refine⟨g1,g2,fun γ w=>?_⟩;have g4:=g3 w;rw[<- val0 (γ:=γ) g2,<- (ptS_ok (γ:=γ) hp).1]at g4;exact g4
  ·cases hr
noncomputable def cMul:Con:=conKP 21 fun k p=>.tu (sP3 (muP k p)) (sIf (onB mK p))
theorem cMul_ok{base:Nat}{γ0:Pl}{w0:World}:ConOk Tryz.prog base γ0 w0 cMul:=conKP_ok (fun _ _=>by kernel_rfl) fun k p hk h1 h2=>by
 refine⟨⟨(sP3_ok if_lt).1,trivial⟩,rfl,fun w=>?_⟩;have h:=gmul_any k p.1 p.2.1 p.2.2 hk h1 h2 w;have e:[(k,p.1,p.2.1,p.2.2)].all (fun t=>onB mK t.2)=onB mK p:=by simp
 rw[e]at h;have hv:onB mK p=true->gpo mK (gwk mK [(k,p.1,p.2.1,p.2.2)] 257)=tcell (nmul FK k (ptOf p)):=fun hb=>by
  have hr:=rel_pt hb;have hv:gpo pK (gwk pK [(k,p.1,p.2.1,p.2.2)] 257)=tcell (tot FK [(k,ptOf p)]):=times_val (L:=[(k,ptOf p)]) ⟨rfl,hr.1,trivial⟩ (one_mem hr.2) (one_mem hk);rw[show tot FK [(k,ptOf p)]=nmul FK k (ptOf p) from psum_none_r _]at hv;exact hv
 rw[<- if_val hv fun _=>0]at h;exact h
end Sy
open Go.RowKit
namespace Sy
def tlB(p:Nat × Nat × Bool)(e:Int)(q:Nat × Nat × Bool)(ok:Bool):Bool:=if ok=true then (if q.2.2=true then eqP p (0,0,true)&&eqI e 0 else eqP p q&&eqI e 0)else p.2.2&&eqI e 81
end Sy
open Sy
theorem told_any(p:Nat × Nat × Bool)(e:Int)(q:Nat × Nat × Bool)(ok:Bool)(h1:p.1<2^256)(h2:p.2.1<2^256)(h3:q.1<2^256)(h4:q.2.1<2^256)(w:World):Calls Tryz.prog 13 #[.agg (pc p.1 p.2.1 p.2.2),.int .i64 e,.agg (pc q.1 q.2.1 q.2.2),.bool ok] w fun r w'=>r=.returned (.bool (tlB p e q ok))/\Below w.heap.size w w':=by
 obtain⟨px,py,pn⟩:=p;obtain⟨qx,qy,qn⟩:=q;refine calls_at (E1_ok (more:=[]) (γ0:=fun _=>0) trivial) (by kernel_rfl) (fun _=>0) Tryz.func13 (by kernel_rfl) [sP px py pn,.i .i64 e,sP qx qy qn,.b ok] ⟨⟨⟨h1,h2,trivial,trivial⟩,rfl⟩,⟨trivial,rfl⟩,⟨⟨h3,h4,trivial,trivial⟩,rfl⟩,⟨trivial,rfl⟩,trivial⟩ (by kernel_rfl) (by kernel_rfl)
  (.br (!ok) (.leaf (.b (bif pn then eqI e 81 else false))) (.br qn (.leaf (.b (bif eqP (px,py,pn) (0,0,true)then eqI e 0 else false))) (.leaf (.b (bif eqP (px,py,pn) (qx,qy,qn)then eqI e 0 else false))))) (by kernel_rfl) ⟨fun h=>?_,fun h=>⟨fun h'=>?_,fun h'=>?_⟩⟩
 ·cases ok <;> first | (cases h;done) | skip
  show Value.bool (bif pn then eqI e 81 else false)=Value.bool (pn&&eqI e 81);cases pn <;> rfl
 ·cases ok <;> first | (cases h;done) | skip
  subst h';show Value.bool (bif eqP (px,py,pn) (0,0,true)then eqI e 0 else false)=Value.bool (eqP (px,py,pn) (0,0,true)&&eqI e 0);cases eqP (px,py,pn) (0,0,true) <;> rfl
 ·cases ok <;> first | (cases h;done) | skip
  subst h';show Value.bool (bif eqP (px,py,pn) (qx,qy,false)then eqI e 0 else false)=Value.bool (eqP (px,py,pn) (qx,qy,false)&&eqI e 0);cases eqP (px,py,pn) (qx,qy,false) <;> rfl
namespace Sy
def cTold:Con:=conV 13 fun l=>match l with
 | [x,u,y,b]=>match ptS x,intS u,ptS y,bitS b with
  | some p,some (.i64,k),some q,some b=>some (.b (tlB p k q b),[])
  | _,_,_,_=>none
 | _=>none
theorem cTold_ok{base:Nat}{γ0:Pl}{w0:World}:ConOk Tryz.prog base γ0 w0 cTold:=conV_ok (fun _ _=>by kernel_rfl) fun us r q hr hq hok=>by
 split at hr
 ·rename_i x u y b
  split at hr
  ·rename_i p k q b hp he hq' hb
   cases hr;have b1:=(ptS_ok (γ:=fun _=>0) hp).2 (hok x (by simp));have b2:=(ptS_ok (γ:=fun _=>0) hq').2 (hok y (by simp));refine⟨trivial,rfl,fun γ w=>?_⟩;have g4:=told_any p k q b b1.1 b1.2 b2.1 b2.2 w;rw[<- (ptS_ok (γ:=γ) hp).1,<- intS_ok (γ:=γ) he,<- (ptS_ok (γ:=γ) hq').1,<- bitS_ok (γ:=γ) hb]at g4;exact g4
  ·cases hr
 ·cases hr
def gP:Nat × Nat × Bool:=(55066263022277343669578718895168534326250603453777594175500187360389116729240,32670510020758816978083085130507043184471273380659243275938904335757337482424,false)
def dP:Nat × Nat × Bool:=(89565891926547004231252920425935692360644145829622209833684329913297188986597,12158399299693830322967808612713398636155367887041628176798871954788371653930,false)
theorem gP_lt:gP.1<2^256/\gP.2.1<2^256:=by decide +kernel
theorem dP_lt:dP.1<2^256/\dP.2.1<2^256:=by decide +kernel
theorem relgP:rel gP GK:=by
 show _=((gxK,gyK,false):Nat × Nat × Bool);decide +kernel
theorem psum_dbl{K:Type}{F:CField K}[DecidableEq K]{x y i:K}(hy:y≠F.zero)(hi:F.inv (F.add y y)=i):psum F (.some x y) (.some x y)=lineTo F x y x (F.mul (F.add (F.mul x x) (F.add (F.mul x x) (F.mul x x))) i):=by
 subst hi;show(if x=x then (if y≠y\/y=F.zero then _ else _)else _)=_;rw[if_pos rfl,if_neg (by rintro(e | e);exact e rfl;exact hy e)]
def gxP:KK:=⟨gxK,by decide⟩
def gyP:KK:=⟨gyK,by decide⟩
def g2i:KK:=⟨83174505189910067536517124096019359197644205712500122884473429251812128958118,by decide⟩
def g2x:KK:=⟨dP.1,by decide⟩
def g2y:KK:=⟨dP.2.1,by decide⟩
theorem g2_val:psum FK GK GK=.some g2x g2y:=by
 have hi:FK.inv (FK.add gyP gyP)=g2i:=v_inv_uniq prK (zp_ext (by decide +kernel));refine(psum_dbl (x:=gxP) (y:=gyP) (fun h=>absurd (congrArg Subtype.val h) (by decide +kernel)) hi).trans ?_;have h1:FK.sub (FK.sub (FK.mul (FK.mul (FK.add (FK.mul gxP gxP) (FK.add (FK.mul gxP gxP) (FK.mul gxP gxP))) g2i) (FK.mul (FK.add (FK.mul gxP gxP) (FK.add (FK.mul gxP gxP) (FK.mul gxP gxP))) g2i)) gxP) gxP=g2x:=zp_ext (by decide +kernel);have h2:FK.sub (FK.mul (FK.mul (FK.add (FK.mul gxP gxP) (FK.add (FK.mul gxP gxP) (FK.mul gxP gxP))) g2i) (FK.sub gxP g2x)) gyP=g2y:=zp_ext (by decide +kernel);unfold lineTo;rw[h1,h2]
theorem on_gP:onB mK gP=true:=by decide +kernel
theorem ad_gP:adP gP gP=dP:=by
 unfold adP;rw[on_gP,ptOf_is relgP,g2_val];rfl
theorem mu_gP:muP 2 gP=dP:=by
 unfold muP;rw[on_gP,ptOf_is relgP,show nmul FK 2 GK=psum FK GK GK from by
  show psum FK (psum FK .none GK) GK=_;rfl,g2_val]
 rfl
def cBase:Con:=conV 11 fun l=>match l with
 | []=>some (sPk gP.1 gP.2.1 false,[])
 | _=>none
theorem cBase_ok{base:Nat}{γ0:Pl}{w0:World}:ConOk Tryz.prog base γ0 w0 cBase:=conV_ok (fun _ _=>by kernel_rfl) fun us r q h hq hok=>by
 split at h
 ·cases h
  exact⟨⟨gP_lt.1,gP_lt.2,trivial,trivial⟩,rfl,fun γ w=>gbase_any w⟩
 ·cases h
def cAddG:Con:=conV 18 fun l=>match l with
 | [x,y]=>some (.tu (sPk dP.1 dP.2.1 false) (.v (.int .i64 0)),[.ask (x=sPk gP.1 gP.2.1 false/\y=sPk gP.1 gP.2.1 false)])
 | _=>none
def cMulG:Con:=conV 21 fun l=>match l with
 | [x,y]=>some (.tu (sPk dP.1 dP.2.1 false) (.v (.int .i64 0)),[.ask (x=.w 2/\y=sPk gP.1 gP.2.1 false)])
 | _=>none
theorem dP_ok:(SV.tu (sPk dP.1 dP.2.1 false) (.v (.int .i64 0))).ok:=⟨⟨dP_lt.1,dP_lt.2,trivial,trivial⟩,trivial⟩
theorem cAddG_ok{base:Nat}{γ0:Pl}{w0:World}:ConOk Tryz.prog base γ0 w0 cAddG:=conV_ok (fun _ _=>by kernel_rfl) fun us r q h hq hok=>by
 split at h
 ·cases h
  obtain⟨rfl,rfl⟩:_/\_:=hq _ (.head _);refine⟨dP_ok,rfl,fun γ w=>?_⟩;have h:=((cAdd_ok (base:=0) (γ0:=fun _=>0) (w0:=w)).all 0 [] [sPk gP.1 gP.2.1 false,sPk gP.1 gP.2.1 false] _ _ _ rfl (fun _ h=>by cases h) (Nat.le_refl _) (fun x hx=>⟨hok x hx,by
   simp only[List.mem_cons,List.not_mem_nil,or_false]at hx;rcases hx with rfl | rfl <;> rfl⟩) (fun _ h=>by cases h)).2.2.2 γ (fun _ h=>by cases h) w (Below.refl _ _) (fun _ h=>by cases h)
  refine h.mono fun e w' hh=>?_;have q:=made_nil (r:=.tu (sP3 (adP gP gP)) (sIf (onB mK gP&&onB mK gP))) rfl hh;rw[ad_gP,on_gP]at q;exact⟨q.1.trans rfl,q.2⟩
 ·cases h
theorem cMulG_ok{base:Nat}{γ0:Pl}{w0:World}:ConOk Tryz.prog base γ0 w0 cMulG:=conV_ok (fun _ _=>by kernel_rfl) fun us r q h hq hok=>by
 split at h
 ·cases h
  obtain⟨rfl,rfl⟩:_/\_:=hq _ (.head _);refine⟨dP_ok,rfl,fun γ w=>?_⟩;have h:=((cMul_ok (base:=0) (γ0:=fun _=>0) (w0:=w)).all 0 [] [.w 2,sPk gP.1 gP.2.1 false] _ _ _ rfl (fun _ h=>by cases h) (Nat.le_refl _) (fun x hx=>⟨hok x hx,by
   simp only[List.mem_cons,List.not_mem_nil,or_false]at hx;rcases hx with rfl | rfl <;> rfl⟩) (fun _ h=>by cases h)).2.2.2 γ (fun _ h=>by cases h) w (Below.refl _ _) (fun _ h=>by cases h)
  refine h.mono fun e w' hh=>?_;have q:=made_nil (r:=.tu (sP3 (muP 2 gP)) (sIf (onB mK gP))) rfl hh;rw[mu_gP,on_gP]at q;exact⟨q.1.trans rfl,q.2⟩
 ·cases h
end Sy
theorem lives_any(w:World):Calls Tryz.prog 16 #[] w fun r w'=>r=.returned (.bool true)/\Below w.heap.size w w':=by
 refine calls_at (E1_ok (more:=cBase::cAddG::cMulG::cSame::cOn::[]) (γ0:=fun _=>0) ⟨cBase_ok,cAddG_ok,cMulG_ok,cSame_ok,cOn_ok,trivial⟩) (by kernel_rfl) (fun _=>0) Tryz.func16 (by kernel_rfl) [] trivial (by kernel_rfl) (by kernel_rfl)
  (let G:=sPk gP.1 gP.2.1 false;.need (G=G/\G=G) (.need (SV.w 2=SV.w 2/\G=G) (.leaf (.b (bif (bif smB dP dP then onB mK dP else false)then eqI (limb 3 dP.1) 14268669794154544493 else false))))) (by kernel_rfl) ⟨⟨rfl,rfl⟩,⟨rfl,rfl⟩,?_⟩
 show Value.bool _=.bool true;congr 1
namespace Sy
def cLives:Con:=conV 16 fun l=>match l with
 | []=>some (.v (.bool true),[])
 | _=>none
theorem cLives_ok{base:Nat}{γ0:Pl}{w0:World}:ConOk Tryz.prog base γ0 w0 cLives:=conV_ok (fun _ _=>by kernel_rfl) fun us r q h hq hok=>by
 split at h
 ·cases h
  exact⟨trivial,rfl,fun γ w=>lives_any w⟩
 ·cases h
end Sy
open Go.RowKit
namespace Sy
theorem on_can{P:Pt KK}(h:P.On FK sevenK):onB mK (canon P)=true:=on_canon h
noncomputable def EL (more:List Con):Env:=E1 (cTold::cLives::cAdd::cSame::cOnR::cNoneR::more)
theorem EL_ok{w:World}{more:List Con}(h:conAll Tryz.prog 1 (fun _=>0) w more):(EL more).Good (fun _=>0) w:=E1_ok ⟨cTold_ok,cLives_ok,cAdd_ok,cSame_ok,cOnR_ok,cNoneR_ok,h⟩
end Sy
open Sy
open Go.RowKit
namespace Sy
def sqr(m n:Nat):Nat:=n^(m / 2^2+1)%m
def sqB(m n:Nat):Bool:=decide (sqr m n*sqr m n%m=n%m)
def sqY(m n:Nat):Nat:=if sqr m n*sqr m n%m=n%m then sqr m n else 0
theorem sqY_lt{m:Nat}(h0:0<m)(n:Nat):sqY m n<m:=by
 unfold sqY
 split
 ·exact Nat.mod_lt _ h0
 ·exact h0
def cSqrtF(ext:Bool)(m:Nat):Con:=fld1 ext m 45 fun n=>.tu (.w (sqY m n)) (.b (sqB m n))
theorem cSqrtF_ok{ext:Bool}{m:Nat}{γ0:Pl}{w0:World}(hf:FOk ext m γ0 w0)(h3:m%4=3):ConOk Tryz.prog 1 γ0 w0 (cSqrtF ext m) :=
 fld1_ok hf (fun _ _=>by kernel_rfl) (fun n=>⟨⟨Nat.lt_trans (sqY_lt (by omega) n) hf.lt,trivial⟩,rfl⟩) fun F n hn w hF=>fsqrt_yes F m n h3 hn w hF
def cSqrtR(ext:Bool)(m lo:Nat):Con:=ref1 ext m lo 48 fun n=>(.tu (.w (sqY m n)) (.b (sqB m n)),[.ask (n<m)])
theorem cSqrtR_ok{ext:Bool}{m lo:Nat}{γ0:Pl}{w0:World}(hf:ROk ext m lo γ0 w0)(h3:m%4=3):ConOk Tryz.prog 1 γ0 w0 (cSqrtR ext m lo) :=
 ref1_ok hf (fun _ _=>by kernel_rfl) (fun n=>⟨⟨Nat.lt_trans (sqY_lt (by omega) n) hf.lt,trivial⟩,rfl⟩) fun F n hn hq w hF=>by
  have hlt:n<m:=hq _ (.head _);have h:=rsqrt_any F m n h3 hlt hf.lt w hF;have e:n%m=n:=Nat.mod_eq_of_lt hlt;have e1:sqY m n=if sqr m n*sqr m n%m=n then sqr m n else 0:=by unfold sqY;rw[e]
  have e2:sqB m n=decide (sqr m n*sqr m n%m=n):=by unfold sqB;rw[e]
  show Calls _ _ _ _ fun e w'=>e=.returned (.tuple #[.agg (pw (sqY m n)),.bool (sqB m n)])/\_;rw[e1,e2];exact h
def gl(m x:Nat):Nat:=(x*x%m*x%m+7)%m
def par(y:Nat):Bool:=eqI ((limb 0 y).tmod 2) 1
theorem par_eq(y:Nat):par y=decide (y%2=1):=by
 unfold par eqI limb;rw[Nat.pow_zero,Nat.div_one];have h:((y%18446744073709551616:Nat):Int).tmod 2=((y%2:Nat):Int):=by
  rw[Int.tmod_eq_emod_of_nonneg (by omega)];omega
 rw[h];by_cases e:y%2=1 <;> simp[e] <;> omega
def lbad(x:Nat):Bool:=bif !(sqB mK (gl mK x))then true else !(ltN x mK)
def liP(x:Nat)(odd:Bool):Nat × Nat × Bool:=if lbad x=true then (0,0,true)else if eqB odd (par (sqY mK (gl mK x)))=true then (x,sqY mK (gl mK x),false)else gtT mK x (sqY mK (gl mK x)) false
theorem sqK_lt(n:Nat):sqY mK n<mK:=sqY_lt (by decide) n
theorem mK_lt:mK<2^256:=by decide
theorem liP_lt{x:Nat}(hx:x<2^256)(odd:Bool):(liP x odd).1<2^256/\(liP x odd).2.1<2^256:=by
 unfold liP
 split
 ·exact⟨w0_ok,w0_ok⟩
 ·split
  ·exact⟨hx,Nat.lt_trans (sqK_lt _) mK_lt⟩
  ·exact gtT_lt (by decide) mK_lt hx _ _
theorem li_no{x:Nat}{odd:Bool}(h:lbad x=false)(h1:eqB odd (par (sqY mK (gl mK x)))=false):liP x odd=gtT mK x (sqY mK (gl mK x)) false:=by
 unfold liP;rw[if_neg (by rw[h];simp),if_neg (by rw[h1];simp)]
theorem li_yes{x:Nat}{odd:Bool}(h:lbad x=false)(h1:eqB odd (par (sqY mK (gl mK x)))=true):liP x odd=(x,sqY mK (gl mK x),false):=by
 unfold liP;rw[if_neg (by rw[h];simp),if_pos h1]
theorem lbad_of{x:Nat}(h:sqB mK (gl mK x)=false\/ltN x mK=false):lbad x=true:=by
 unfold lbad;rcases h with h | h <;> rw[h]
 ·rfl
 ·cases sqB mK (gl mK x) <;> rfl
theorem li_bad{x:Nat}{odd:Bool}(h:sqB mK (gl mK x)=false\/ltN x mK=false):liP x odd=(0,0,true):=if_pos (lbad_of h)
theorem eqB_comm(a b:Bool):eqB a b=eqB b a:=by cases a <;> cases b <;> rfl
theorem gtT_rS{x y:Nat}(h:y<mK):gtT mK x y false=(x,rS mK 0 y,false):=by
 unfold gtT;rw[if_neg Bool.false_ne_true,rS_eq (by decide) h mK_lt,Nat.zero_mod,Nat.mod_eq_of_lt h]
end Sy
open Sy
theorem glift_any(x:Nat)(odd:Bool)(hx:x<2^256)(w:World):Calls Tryz.prog 24 #[.agg (pw x),.bool odd] w fun r w'=>r=.returned ((SV.tu (sP3 (liP x odd)) (sIf (!lbad x))).val fun _=>0)/\Below w.heap.size w w':=by
 refine calls_at (E1_ok (more:=cPoints::cNone::cTurned false mK::cBelow false mK::cSquare false mK::cSqrtF false mK::[]) ⟨cPoints_ok,cNone_ok,cTurned_ok (fK w),cBelow_ok (fK w),cSquare_ok (fK w),cSqrtF_ok (fK w) (by decide),trivial⟩) (by kernel_rfl) (fun _=>0) Tryz.func24 (by kernel_rfl) [.w x,.b odd] ⟨⟨hx,rfl⟩,⟨trivial,rfl⟩,trivial⟩ (by kernel_rfl) (by kernel_rfl)
  (.br (lbad x) (.leaf (.tu (sPk 0 0 true) (.v (.int .i64 81)))) (.need ((2:Int)≠0) (.br (!(eqB odd (par (sqY mK (gl mK x))))) (.leaf (.tu (sP3 (gtT mK x (sqY mK (gl mK x)) false)) (.v (.int .i64 0)))) (.leaf (.tu (sPk x (sqY mK (gl mK x)) false) (.v (.int .i64 0))))))) (by kernel_rfl) ?_
 refine⟨fun h=>?_,fun h=>⟨by decide,fun h1=>?_,fun h1=>?_⟩⟩
 ·rw[show liP x odd=(0,0,true) from if_pos h,h]
  rfl
 ·have h1:eqB odd (par (sqY mK (gl mK x)))=false:=by simpa using h1
  rw[li_no h h1,h];rfl
 ·have h1:eqB odd (par (sqY mK (gl mK x)))=true:=by simpa using h1
  rw[li_yes h h1,h];rfl
theorem rlift_any(x:Nat)(odd:Bool)(hx:x<2^256)(w:World):Calls Tryz.prog 25 #[.agg (pw x),.bool odd] w fun r w'=>r=.returned ((SV.tu (sP3 (liP x odd)) (sIf (!lbad x))).val fun _=>0)/\Below w.heap.size w w':=by
 refine calls_at (E1_ok (more:=cF::cNoneR::cSqrtR false mK loK::refs false mK loK) ⟨cF_ok,cNoneR_ok,cSqrtR_ok (rK w) (by decide),refs_ok (rK w)⟩) (by kernel_rfl) (fun _=>0) Tryz.func25 (by kernel_rfl) [.w x,.b odd] ⟨⟨hx,rfl⟩,⟨trivial,rfl⟩,trivial⟩ (by kernel_rfl) (by kernel_rfl)
  (let n:=gl mK x;let Y:=sqY mK n
  .br (!(ltN x mK)) (.leaf (.tu (sPk 0 0 true) (.v (.int .i64 81)))) (.need (x<mK/\7<mK) (.need (n<mK) (.br (!(sqB mK n)) (.leaf (.tu (sPk 0 0 true) (.v (.int .i64 81)))) (.need ((2:Int)≠0) (.br (!(eqB (par Y) odd)) (.leaf (.tu (sPk x (rS mK 0 Y) false) (.v (.int .i64 0)))) (.leaf (.tu (sPk x Y false) (.v (.int .i64 0)))))))))) (by kernel_rfl) ?_
 have hg:gl mK x<mK:=Nat.mod_lt _ (by decide);refine⟨fun h=>?_,fun h=>?_⟩
 ·rw[li_bad (.inr (by simpa using h)),lbad_of (.inr (by simpa using h))]
  rfl
 have hx':ltN x mK=true:=by simpa using h
 refine⟨⟨of_decide_eq_true hx',by decide⟩,hg,fun h1=>?_,fun h1=>⟨by decide,fun h2=>?_,fun h2=>?_⟩⟩
 ·rw[li_bad (.inl (by simpa using h1)),lbad_of (.inl (by simpa using h1))]
  rfl
 ·have hb:lbad x=false:=by
   unfold lbad;rw[show sqB mK (gl mK x)=true by simpa using h1,hx'];rfl
  have h2:eqB odd (par (sqY mK (gl mK x)))=false:=by rw[eqB_comm];simpa using h2
  rw[li_no hb h2,gtT_rS (sqK_lt _),hb];rfl
 ·have hb:lbad x=false:=by
   unfold lbad;rw[show sqB mK (gl mK x)=true by simpa using h1,hx'];rfl
  have h2:eqB odd (par (sqY mK (gl mK x)))=true:=by rw[eqB_comm];simpa using h2
  rw[li_yes hb h2,hb];rfl
namespace Sy
def conXB(f:FuncId)(F:Nat->Bool->Nat × Nat × Bool)(B:Nat->Bool):Con:=conV f fun l=>match l with
 | [.w x,u]=>(bitS u).map fun odd=>(.tu (sP3 (F x odd)) (sIf (B x)),[])
 | _=>none
theorem conXB_ok{base:Nat}{γ0:Pl}{w0:World}{f:FuncId}{F:Nat->Bool->Nat × Nat × Bool}{B:Nat->Bool}(hF:∀ x odd,x<2^256->(F x odd).1<2^256/\(F x odd).2.1<2^256)(hc:∀ as_ wx,(callFunc f as_).run Tryz.prog wx=.ok (.enter f as_) wx)
  (h:∀ x odd,x<2^256->∀ w,Calls Tryz.prog f #[.agg (pw x),.bool odd] w fun r w'=>r=.returned ((SV.tu (sP3 (F x odd)) (sIf (B x))).val fun _=>0)/\Below w.heap.size w w'):ConOk Tryz.prog base γ0 w0 (conXB f F B):=conV_ok hc fun us r q hr hq hok=>by
 split at hr
 ·rename_i x u
  obtain⟨odd,ho,e⟩:=Option.map_eq_some_iff.1 hr;cases e;have hx:x<2^256:=hok (.w x) (by simp);have s:=sP3_ok (hF x odd hx);have l:(SV.tu (sP3 (F x odd)) (sIf (B x))).lt 0=true:=rfl;refine⟨⟨s.1,trivial⟩,l,fun γ w=>?_⟩;have g4:=h x odd hx w;rw[<- val0 (γ:=γ) l,<- bitS_ok (γ:=γ) ho]at g4;exact g4
 ·cases hr
end Sy
open Go.RowKit
open Sy
namespace Sy
theorem par_neg{y:Nat}(h:y<mK)(h0:y≠0):par ((0%mK+(mK - y%mK))%mK)=!(par y):=by
 rw[par_eq,par_eq,Nat.zero_mod,Nat.zero_add,Nat.mod_eq_of_lt h,Nat.mod_eq_of_lt (show mK - y<mK by omega)];have hm:mK%2=1:=by decide
 by_cases e:y%2=1
 ·rw[decide_eq_true e,decide_eq_false (by omega)]
  rfl
 ·rw[decide_eq_false e,decide_eq_true (by omega)]
  rfl
theorem lb_yes{x:Nat}(h:lbad x=false):sqB mK (gl mK x)=true/\x<mK:=by
 unfold lbad at h;cases h1:sqB mK (gl mK x) <;> rw[h1]at h
 ·cases h
 ·refine⟨rfl,of_decide_eq_true ?_⟩
  cases h2:ltN x mK
  ·rw[h2]at h
   cases h
  ·exact h2
theorem lift_on{x:Nat}(h:lbad x=false):onB mK (x,sqY mK (gl mK x),false)=true:=by
 obtain⟨h1,h2⟩:=lb_yes h;have h1:sqr mK (gl mK x)*sqr mK (gl mK x)%mK=gl mK x%mK:=of_decide_eq_true h1;have e:sqY mK (gl mK x)=sqr mK (gl mK x):=if_pos h1;unfold onB;rw[Bool.false_or];refine decide_eq_true ⟨h2,sqK_lt _,?_⟩;show sqY mK (gl mK x)*sqY mK (gl mK x)%mK=gl mK x;rw[e,h1];exact Nat.mod_eq_of_lt (Nat.mod_lt _ (by decide))
theorem on_ne{x y:Nat}(h:onB mK (x,y,false)=true):y≠0:=by
 intro e;obtain⟨h1,h2⟩:=rel_pt h;generalize ptOf (x,y,false)=P at h1 h2;cases P with
 | none=>cases (show false=true from h1)
 | some a b =>
  have hb:y=b.1:=congrArg (fun p:Nat × Nat × Bool=>p.2.1) (show(x,y,false)=(a.1,b.1,false) from h1);have hz:b=FK.zero:=zp_ext (hb.symm.trans e);have h2:FK.mul b b=cub FK.ops a sevenK:=h2;rw[hz,FK.toCRing.mul_zero]at h2;exact curveK.root a h2.symm
theorem li_on{x:Nat}(odd:Bool)(h:lbad x=false):onB mK (liP x odd)=true/\par (liP x odd).2.1=odd:=by
 have ho:=lift_on h;by_cases h1:eqB odd (par (sqY mK (gl mK x)))=true
 ·rw[li_yes h h1]
  refine⟨ho,?_⟩;revert h1;show eqB odd (par (sqY mK (gl mK x)))=true->par (sqY mK (gl mK x))=odd;generalize par (sqY mK (gl mK x))=c;cases odd <;> cases c <;> simp[eqB]
 ·have h1:eqB odd (par (sqY mK (gl mK x)))=false:=by simpa using h1
  rw[li_no h h1];refine⟨?_,?_⟩
  ·obtain⟨r1,r2⟩:=rel_pt ho
   have hr:=spt_rel r1 2;unfold spt dpt at hr;rw[if_neg (by decide),if_pos rfl,if_neg (by decide),if_pos rfl]at hr;have hr:rel (gtT mK x (sqY mK (gl mK x)) false) (pneg FK (ptOf (x,sqY mK (gl mK x),false))):=hr;rcases rel_is hr with⟨q1,_⟩ | ⟨_,q2⟩
   ·cases (show false=true from q1)
   ·rw[q2]
    exact on_can (on_neg r2)
  ·show par ((0%mK+(mK - sqY mK (gl mK x)%mK))%mK)=odd
   rw[par_neg (sqK_lt _) (on_ne ho)];revert h1;generalize par (sqY mK (gl mK x))=c;cases odd <;> cases c <;> simp[eqB]
theorem li_law{P:Nat × Nat × Bool}{b odd:Bool}(h1:b=true->onB mK (P.1,P.2.1,P.2.2)=true/\par P.2.1=odd)(h0:b=false->P.2.2=true) :
  (bif (bif !(eqI (if b=true then 0 else 81) (if b=true then 0 else 81))then true else (bif eqI (if b=true then 0 else 81) 0 then !(eqP (P.1,P.2.1,P.2.2) (P.1,P.2.1,P.2.2))else false))then true else (bif !(eqI (if b=true then 0 else 81) 0)then !P.2.2 else false))=false /\
  (bif (bif !(eqI (if b=true then 0 else 81) 0)then true else (bif onB mK (P.1,P.2.1,P.2.2)then eqB (par P.2.1) odd else false))then true else false)=true:=by
 have he:eqP (P.1,P.2.1,P.2.2) (P.1,P.2.1,P.2.2)=true:=decide_eq_true ⟨rfl,rfl,rfl⟩;rw[he];cases b
 ·rw[h0 rfl]
  exact⟨rfl,rfl⟩
 ·obtain⟨q1,q2⟩:=h1 rfl
  rw[q1,q2];refine⟨rfl,?_⟩;cases odd <;> rfl
end Sy
theorem clifts_gen{F:Nat->Bool->Nat × Nat × Bool}{B:Nat->Bool}(hF:∀ x odd,x<2^256->(F x odd).1<2^256/\(F x odd).2.1<2^256)
  (hg:∀ x odd,x<2^256->∀ w,Calls Tryz.prog 24 #[.agg (pw x),.bool odd] w fun r w'=>r=.returned ((SV.tu (sP3 (F x odd)) (sIf (B x))).val fun _=>0)/\Below w.heap.size w w')
  (hr:∀ x odd,x<2^256->∀ w,Calls Tryz.prog 25 #[.agg (pw x),.bool odd] w fun r w'=>r=.returned ((SV.tu (sP3 (F x odd)) (sIf (B x))).val fun _=>0)/\Below w.heap.size w w')
  (x:Nat) (odd:Bool) (hx:x<2^256) (h1:B x=true->onB mK ((F x odd).1,(F x odd).2.1,(F x odd).2.2)=true/\par (F x odd).2.1=odd) (h0:B x=false->(F x odd).2.2=true) (w:World):Calls Tryz.prog 6 #[.agg (pw x),.bool odd] w fun r w'=>r=.returned (.bool true)/\Below w.heap.size w w':=by
 have hl:=li_law h1 h0;refine calls_at (EL_ok (more:=conXB 24 F B::conXB 25 F B::cOn::[]) ⟨conXB_ok hF (fun _ _=>by kernel_rfl) hg,conXB_ok hF (fun _ _=>by kernel_rfl) hr,cOn_ok,trivial⟩) (by kernel_rfl) (fun _=>0) Tryz.func6 (by kernel_rfl) [.w x,.b odd] ⟨⟨hx,rfl⟩,⟨trivial,rfl⟩,trivial⟩ (by kernel_rfl) (by kernel_rfl)
  (let P:=F x odd;let p:=(P.1,P.2.1,P.2.2);let e:Int:=if B x=true then 0 else 81
  .br (bif (bif !(eqI e e)then true else (bif eqI e 0 then !(eqP p p)else false))then true else (bif !(eqI e 0)then !P.2.2 else false)) (.leaf (.v (.bool false)))
   (.need ((!(!(eqI e 0))&&onB mK p)=true->(2:Int)≠0) (.leaf (.b (bif (bif !(eqI e 0)then true else (bif onB mK p then eqB (eqI ((limb 0 P.2.1).tmod 2) 1) odd else false))then true else false))))) (by kernel_rfl) ?_
 refine⟨fun h=>?_,fun _=>⟨fun _=>by decide,congrArg Value.bool hl.2⟩⟩;have h:=hl.1.symm.trans h;cases h
namespace Sy
def lok(x:Nat):Bool:=!lbad x
theorem tri_on{P:Nat × Nat × Bool}{odd:Bool}(h:onB mK P=true/\par P.2.1=odd):onB mK (P.1,P.2.1,P.2.2)=true/\par P.2.1=odd:=h
theorem li_y{x:Nat}(odd:Bool)(h:lok x=true):onB mK ((liP x odd).1,(liP x odd).2.1,(liP x odd).2.2)=true/\par (liP x odd).2.1=odd:=by
 refine tri_on (li_on odd ?_);revert h;unfold lok;cases lbad x
 ·exact fun _=>rfl
 ·exact fun h=>by cases h
theorem li_n{x:Nat}(odd:Bool)(h:lok x=false):(liP x odd).2.2=true:=by
 have e:liP x odd=(0,0,true):=by
  unfold liP;refine if_pos ?_;revert h;unfold lok;cases lbad x
  ·exact fun h=>by cases h
  ·exact fun _=>rfl
 rw[e]
theorem gl_ok(x:Nat)(odd:Bool)(hx:x<2^256)(w:World):Calls Tryz.prog 24 #[.agg (pw x),.bool odd] w fun r w'=>r=.returned ((SV.tu (sP3 (liP x odd)) (sIf (lok x))).val fun _=>0)/\Below w.heap.size w w':=by
 unfold lok;exact glift_any x odd hx w
theorem rl_ok(x:Nat)(odd:Bool)(hx:x<2^256)(w:World):Calls Tryz.prog 25 #[.agg (pw x),.bool odd] w fun r w'=>r=.returned ((SV.tu (sP3 (liP x odd)) (sIf (lok x))).val fun _=>0)/\Below w.heap.size w w':=by
 unfold lok;exact rlift_any x odd hx w
end Sy
theorem clifts_any(x:Nat)(odd:Bool)(hx:x<2^256)(w:World):Calls Tryz.prog 6 #[.agg (pw x),.bool odd] w fun r w'=>r=.returned (.bool true)/\Below w.heap.size w w' :=
 clifts_gen (F:=liP) (B:=lok) (fun _ odd h=>liP_lt h odd) gl_ok rl_ok x odd hx (li_y odd) (li_n odd) w
end Go.Proofs.YtfmpjjhdocejiaaGreat
namespace Go.Proofs.YtfmpjjhdocejiaaGreat.curveLifts
open Go.ChangeShapes Go.WideShapes Go.ChangeAt Go.RowKit
theorem contract(H:Type)(enc:TypeId × Value->H)(W:World)(base:Nat)(args:Array Value)(ds gs:List (DataW H))(before:List MemPlace)
  (hval:∀(j:Nat) t v,Tryz.f6.params[j]?=some t->args[j]?=some v->Value.okWide Tryz.prog W .any base t v)
  (hW:DataW.Whole enc Tryz.prog Tryz.f6.params.toList Rows.curveLiftsSpec.vars false W args.toList ds gs before) :
  Calls Tryz.prog 6 args W fun e W'=>∃ v,e=.returned v/\Rows.curveLiftsSpec.post enc Tryz.prog Tryz.f6 false true false false W args v W':=by
 have hW':=hW;obtain⟨p,q,hA0,hV,rfl,hfz,hnd⟩:=hW;have hA:DataW.TrodAll enc Tryz.prog W 0 (fun _=>true) true Tryz.f6.params.toList args.toList ds p:=hA0;rw[Tryz.params6]at hA hval;obtain⟨v0,vs0,d0,ds0,p0,q0,hargs,rfl,rfl,h0,r0⟩:=trodAll_cons hA;obtain⟨v1,vs1,d1,ds1,p1,q1,rfl,rfl,rfl,h1,r1⟩:=trodAll_cons r0;obtain⟨rfl,rfl,rfl⟩:=trodAll_nil r1;obtain rfl:args=#[v0,v1]:=by cases args;simp_all
 obtain⟨rfl,rfl⟩:=trodVars_none hV;obtain⟨x0,rfl,X0⟩:=open_pw (hval 0 24 v0 rfl rfl) h0;obtain⟨x1,rfl,_⟩:=open_bool Tryz.underlying4 (hval 1 4 v1 rfl rfl) h1;clear hA0;refine(clifts_any x0 x1 X0 W).mono fun e W' ⟨he,hb⟩=>?_;subst he;refine⟨_,rfl,_,_,_,[],p0++(p1++[]),[],hW',trodAll_cons_mk (shut_bool Tryz.underlying4 _) trodAll_mk0,trodAll_cons_mk (Below.trod laidOutF (by kernel_rfl) (of_decide_eq_true (by kernel_rfl)) h0 hb (fun x hx=>hW'.lt x (by simp[hx]))) (trodAll_cons_mk (Below.trod laidOutF (by kernel_rfl) (of_decide_eq_true (by kernel_rfl)) h1 hb (fun x hx=>hW'.lt x (by simp[hx]))) trodAll_mk0),rfl,hb.frame _,fun h=>by cases h⟩
theorem laid_met(os:Os):laidMet Tryz.prog Rows.curveLiftsRow.laid ((bareWorld os).forCall (fun _ _=>0) ⟨#[],#[.agg #[.int .u64 0,.int .u64 0,.int .u64 0,.int .u64 0],.bool false],[]⟩).memory :=
 laidMet_of_run' 80 (by kernel_rfl) (by kernel_rfl)
theorem reads(os:Os){H:Type}(enc:TypeId × Value->H):∃ places,DataW.whole enc Tryz.prog ((bareWorld os).forCall (fun _ _=>0) ⟨#[],#[.agg #[.int .u64 0,.int .u64 0,.int .u64 0,.int .u64 0],.bool false],[]⟩).memory Tryz.f6.params.toList Rows.curveLiftsSpec.vars false (#[.agg #[.int .u64 0,.int .u64 0,.int .u64 0,.int .u64 0],.bool false]:Array Value).toList 80=some ([.agg [.lit (.int .u64 0),.lit (.int .u64 0),.lit (.int .u64 0),.lit (.int .u64 0)],.lit (.bool false)],[],places) :=
 ⟨[],by kernel_rfl⟩
theorem lifted(os:Os)(started:os.Started)(H:Type)(enc:TypeId × Value->H)(F:Stop.Interp) :
  ReturnsInHanded {} Tryz.checked os 6 .any ((OpenSpec.ofChange Rows.curveLiftsSpec).preRow enc Tryz.prog Tryz.f6 Rows.curveLiftsRow.domain false Rows.curveLiftsRow.laid) (((OpenSpec.ofChange Rows.curveLiftsSpec).at F).post enc Tryz.prog Tryz.f6 false true false false):=by
 obtain⟨places,hx⟩:=reads os enc;refine returnsInHanded_of_row (C:=Tryz.checked) (s:=OpenSpec.ofChange Rows.curveLiftsSpec) ownF started (by kernel_rfl) Tryz.func6
  (witness_row_at (enc:=enc) (C:=Tryz.checked) false (bareWorld os) #[.agg #[.int .u64 0,.int .u64 0,.int .u64 0,.int .u64 0],.bool false] rfl (by kernel_rfl) (by kernel_rfl) (by kernel_rfl)
   (OpenSpec.preRow_of_cond 80 hx (by kernel_rfl) (fun k hk=>by cases hk) (by kernel_rfl) (laid_met os))) ?_
 intro W base args ds gs before hval hW _ _ _ _ _ _;exact contract H enc W base args ds gs before hval hW
theorem said:Rows.CurveLiftsSaid :=
 OpenClaim.holds_of_cond 6 Tryz.f6 rfl rfl rfl rfl rfl rfl rfl ⟨rfl,rfl,rfl,rfl,rfl⟩ rfl rfl rfl rfl rfl (by kernel_rfl) Tryz.func6 (by kernel_rfl)
  (of_decide_eq_true (by kernel_rfl)) (by unfold Func.isWrapper;rw[if_neg (of_decide_eq_false (by kernel_rfl))];exact⟨rfl,rfl⟩)
  (fun os started H enc _ F=>by rw[OpenClaim.pre_eq_preRow];exact lifted os started H enc F)
end Go.Proofs.YtfmpjjhdocejiaaGreat.curveLifts
