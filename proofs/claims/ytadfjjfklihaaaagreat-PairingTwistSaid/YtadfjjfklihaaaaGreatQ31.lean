/- What the reference's plus comes to. (Cut to what is reached, written closely: PrF · PrCm · FRNum · RLow · FRCmp · FRPls.) -/
import Derived.Test.YtadfjjfklihaaaaGreatQ29
import Derived.Test.YtadfjjfklihaaaaGreatQ30
import Derived.Test.YtadfjjfklihaaaaGreatP14
import Derived.Test.YtadfjjfklihaaaaGreatP12
import Derived.Test.YtadfjjfklihaaaaGreatP19
import Derived.Test.YtadfjjfklihaaaaGreatP7
set_option linter.all false
set_option maxRecDepth 100000
set_option maxHeartbeats 8000000
namespace Go.Proofs.YtadfjjfklihaaaaGreat
open Go.RowKit Sy
theorem first_any(w:World):Calls Tryz.prog 34 #[] w fun e w'=>∃ F,e=.returned (vcW F)/\FldAt w' F 21888242871839275222246405745257275088696311157297823662689037894645226208583/\w.heap.size<=F/\Below w.heap.size w w':=by
 have HCR:=Lib.hid (fun wx=>f_Base wx);have HO1:=Lib.hid (fun wx=>of_wv 1 (by omega) wx);have HO3:=Lib.hid (fun wx=>of_wv 3 (by omega) wx);rw[show pw 1=#[.int .u64 1,.int .u64 0,.int .u64 0,.int .u64 0] from by kernel_rfl]at HO1;rw[show pw 3=#[.int .u64 3,.int .u64 0,.int .u64 0,.int .u64 0] from by kernel_rfl]at HO3;go_enter Tryz.func34,Tryz.ntmps34
 go_wp2_with fail
 refine(HCR.out _).mono ?_;rintro e w5 ⟨F,rfl,hF,hs,hb⟩;have HF:=Lib.hid hF;have HS:=Lib.hid hs;have HB:=Lib.hid hb;have hr:=(HB.out.block w.heap.size (by simp)).trans (heap_alloc_new w _);have HR:=Lib.hid hr;have hlt:w.heap.size<w5.heap.size:=(Array.getElem?_eq_some_iff.1 hr).1;have hFl:F<w5.heap.size:=(Array.getElem?_eq_some_iff.1 HF.out.row).1;clear hr HCR
 go_wp2_with fail
 refine Calls.mono (HO1.out w5) ?_;rintro e w6 ⟨rfl,hb6⟩
 go_wp2_with fail
 refine Calls.mono (HO3.out w6) ?_;rintro e w7 ⟨rfl,hb7⟩;have HR7:=Lib.hid ((hb7.block w.heap.size (Nat.lt_of_lt_of_le hlt hb6.size)).trans ((hb6.block w.heap.size hlt).trans HR.out));have HF7:=Lib.hid (⟨(hb7.block _ (Nat.lt_of_lt_of_le hFl hb6.size)).trans ((hb6.block _ hFl).trans HF.out.row),HF.out.odd,HF.out.big,HF.out.lt⟩:FldAt w7 F _);have HB7:=Lib.hid ((HB.out.trans (hb6.mono HB.out.size)).trans (hb7.mono (Nat.le_trans HB.out.size hb6.size)));clear hb6 hb7 HO1 HO3 HF HR HB hlt hFl
 go_wp2_with (refine wpList_store_row rfl 72 _ _ rfl w.heap.size ((cvW 0).cells fun _=>F).toArray rfl rfl 72 _ (by exact HR7.out) (by kernel_rfl) (by rfl) (by kernel_rfl) ?_)
 refine bodyPost_ret (v:=vcW F) (results_cell_row (p:=0) rfl _ _ w.heap.size 72 ((cvW 0).cells fun _=>F).toArray (0,0) _ rfl (setRow_heap _ _ _ _ _ _ HR7.out) Tryz.underlying72 rfl (by kernel_rfl)) rfl ⟨F,rfl,?_,?_,?_⟩
 ·have h:=HS.out
  simp at h;exact fld_row HF7.out (by omega)
 ·have h:=HS.out
  simp at h;omega
 ·exact below_setRow (((Below.refl _ _).alloc (Nat.le_refl _) _).trans (HB7.out.mono (by simp))) (Nat.le_refl _) _
namespace Sy
def cFirst:Con:=⟨34,fun n _ l=>match l with
 | []=>some (cvW n,[],[(n,sFld pB,145)])
 | _=>none⟩
theorem cFirst_ok{γ0:Pl}{w0:World}:ConOk Tryz.prog 1 γ0 w0 cFirst:=⟨fun _ _=>by kernel_rfl,fun n M l r p R hr hp hn hok _=>by
 simp only[cFirst]at hr
 split at hr
 ·cases hr
  refine⟨cvW_ok,by show(decide (n<n+1)&&(decide (n<n+1)&&(decide (n<n+1)&&(decide (n<n+1)&&true))))=true;simp,fun q hq=>?_,fun γ hγ wx hw hL=>?_⟩
  ·simp only[List.mem_cons,List.not_mem_nil,or_false]at hq
   subst hq;exact⟨⟨trivial,trivial,trivial,trivial,trivial,trivial,trivial,trivial,trivial,trivial⟩,rfl,Nat.le_refl _,Nat.lt_succ_self _⟩
  ·refine(first_any wx).mono fun e w' ⟨F,h1,h2,h3,h4⟩=>?_
   obtain⟨δ,hδ⟩:∃ δ:Pl,∀ k,δ k=if k=n then F else γ k:=⟨_,fun _=>rfl⟩
   refine⟨⟨δ,fun k hk=>by rw[hδ,if_neg (by omega)],?_,fun q hq=>?_,List.pairwise_singleton _ _⟩,h4⟩
   ·rw[h1,cvW_val,hδ,if_pos rfl]
   ·simp only[List.mem_cons,List.not_mem_nil,or_false]at hq
    subst hq;refine⟨by rw[hδ,if_pos rfl];exact h3,?_⟩;show w'.heap[δ n]?=_;rw[hδ,if_pos rfl];exact h2.row
 ·cases hr⟩
def shPW:Shp (Nat × Nat × Bool):=⟨pSW,dPW,dPW_ok,fun _=>rfl⟩
def shP2:Shp (N2 × N2 × Bool):=⟨pS2,dP2,dP2_ok,fun _=>rfl⟩
section
variable {H:Nat × Nat × Bool->Bool} {SM:Nat × Nat × Bool->Nat × Nat × Bool->(Nat × Nat × Bool) × Int} {PD:Nat->Nat × Nat × Bool->(Nat × Nat × Bool) × Int}
theorem Add_is(o:∀ a b,(tpSW (SM a b)).ok)(hS:IsW pB 35 (gPPW fun a b=>tpSW (SM a b))):Is00 8 shPW shPW fun a b=>tpSW (SM a b):=fun _ _ _=>cV2_ok (fun _ _=>by kernel_rfl) (fun a b _ _=>⟨o a b,rfl⟩) fun a b oa ob w =>
 calls_at (w0:=w) (γ0:=o0) (E1_ok (more:=[cFirst,conW false pB 35 (gPPW fun a b=>tpSW (SM a b))]) ⟨cFirst_ok,hS _ _ _ (fB w),trivial⟩) (by kernel_rfl) (fun _=>0) Tryz.func8 (by kernel_rfl) [pSW a,pSW b] ⟨⟨oa,rfl⟩,⟨ob,rfl⟩,trivial⟩ (by kernel_rfl) (by kernel_rfl) (.leaf (tpSW (SM a b))) (by kernel_rfl) rfl
end
def cOfN:Con:=conV 69 fun l=>match l with
 | [.v (.int .u64 n)]=>if 0<=n/\n<18446744073709551616 then some (.w n.toNat,[])else none
 | _=>none
theorem cOfN_ok{base:Nat}{γ0:Pl}{w0:World}:ConOk Tryz.prog base γ0 w0 cOfN:=conV_ok (fun _ _=>by kernel_rfl) fun us r q hr hq hok=>by
 split at hr
 ·rename_i n
  split at hr
  ·rename_i hn
   cases hr;have h2:n.toNat<18446744073709551616:=by omega
   refine⟨Nat.lt_of_lt_of_le h2 (by decide),rfl,fun γ w=>?_⟩;have h:=of_wv n.toNat h2 w;rw[Int.toNat_of_nonneg hn.1]at h;exact h
  ·cases hr
 ·cases hr
def cSecond:Con:=conV 49 fun l=>match l with
 | []=>some (cv2,[])
 | _=>none
theorem second_is(w:World):Calls Tryz.prog 49 #[] w fun e w'=>e=.returned (cv2.val o0)/\Below w.heap.size w w' :=
 calls_at (w0:=w) (γ0:=o0) (E1_ok (more:=[cOfN]) ⟨cOfN_ok,trivial⟩) (by kernel_rfl) (fun _=>0) Tryz.func49 (by kernel_rfl) [] trivial (by kernel_rfl) (by kernel_rfl)
  (.leaf (.ap (fnV 84) (.ap (fnV 85) (.ap (fnV 86) (.ap (fnV 87) (.ap (F2s (1,0)) (.ap (F2s b2v) (.ap (.v (.bool true)) .e)))))))) (by kernel_rfl) rfl
theorem cSecond_ok{base:Nat}{γ0:Pl}{w0:World}:ConOk Tryz.prog base γ0 w0 cSecond:=conV_ok (fun _ _=>by kernel_rfl) fun us r q hr hq hok=>by
 split at hr
 ·cases hr
  exact⟨cv2_ok,rfl,fun γ w=>second_is w⟩
 ·cases hr
section
variable {H:N2 × N2 × Bool->Bool} {SM:N2 × N2 × Bool->N2 × N2 × Bool->(N2 × N2 × Bool) × Int} {PD:Nat->N2 × N2 × Bool->(N2 × N2 × Bool) × Int}
theorem OnTw_is(hH:Is2c 50 (gP2 fun a=>SV.b (H a))):Is0 18 shP2 fun a=>.b (H a):=fun _ _ _=>cV1_ok (fun _ _=>by kernel_rfl) (fun _ _=>⟨trivial,rfl⟩) fun a oa w =>
 calls_at (w0:=w) (γ0:=o0) (E1_ok (more:=[cSecond,con2 50 (gP2 fun a=>SV.b (H a))]) ⟨cSecond_ok,hH _ _ _,trivial⟩) (by kernel_rfl) (fun _=>0) Tryz.func18 (by kernel_rfl) [pS2 a] ⟨⟨oa,rfl⟩,trivial⟩ (by kernel_rfl) (by kernel_rfl) (.leaf (.b (H a))) (by kernel_rfl) rfl
theorem AddTw_is(o:∀ a b,(tpS2 (SM a b)).ok)(hS:Is2c 51 (gPP2 fun a b=>tpS2 (SM a b))):Is00 19 shP2 shP2 fun a b=>tpS2 (SM a b):=fun _ _ _=>cV2_ok (fun _ _=>by kernel_rfl) (fun a b _ _=>⟨o a b,rfl⟩) fun a b oa ob w =>
 calls_at (w0:=w) (γ0:=o0) (E1_ok (more:=[cSecond,con2 51 (gPP2 fun a b=>tpS2 (SM a b))]) ⟨cSecond_ok,hS _ _ _,trivial⟩) (by kernel_rfl) (fun _=>0) Tryz.func19 (by kernel_rfl) [pS2 a,pS2 b] ⟨⟨oa,rfl⟩,⟨ob,rfl⟩,trivial⟩ (by kernel_rfl) (by kernel_rfl) (.leaf (tpS2 (SM a b))) (by kernel_rfl) rfl
theorem MulTw_is(o:∀ n a,(tpS2 (PD n a)).ok)(hP:Is2c 52 (gKP2 fun n a=>tpS2 (PD n a))):Is00 20 shW shP2 fun n a=>tpS2 (PD n a):=fun _ _ _=>cV2_ok (fun _ _=>by kernel_rfl) (fun a b _ _=>⟨o a b,rfl⟩) fun a b oa ob w =>
 calls_at (w0:=w) (γ0:=o0) (E1_ok (more:=[cSecond,con2 52 (gKP2 fun n a=>tpS2 (PD n a))]) ⟨cSecond_ok,hP _ _ _,trivial⟩) (by kernel_rfl) (fun _=>0) Tryz.func20 (by kernel_rfl) [.w a,pS2 b] ⟨⟨oa,rfl⟩,⟨ob,rfl⟩,trivial⟩ (by kernel_rfl) (by kernel_rfl) (.leaf (tpS2 (PD a b))) (by kernel_rfl) rfl
end
def g1:Nat × Nat × Bool:=(1,2,false)
end Sy
open Go.RowKit
theorem parts_eq{x0 x1 x2 x3 y0 y1 y2 y3:Nat}(u0:x0<18446744073709551616)(u1:x1<18446744073709551616)(u2:x2<18446744073709551616)(_u3:x3<18446744073709551616)(v0:y0<18446744073709551616)(v1:y1<18446744073709551616)(v2:y2<18446744073709551616)(_v3:y3<18446744073709551616) :
  ((x0 == y0)&&((x1 == y1)&&((x2 == y2)&&(x3 == y3))))=decide (n4 x0 x1 x2 x3=n4 y0 y1 y2 y3):=by
 by_cases h:n4 x0 x1 x2 x3=n4 y0 y1 y2 y3
 ·rw[decide_eq_true h]
  unfold n4 at h;have h0:x0=y0:=by omega
  have h1:x1=y1:=by omega
  have h2:x2=y2:=by omega
  have h3:x3=y3:=by omega
  subst h0 h1 h2 h3;simp
 ·rw[decide_eq_false h,Bool.eq_false_iff]
  intro hc;simp only[Bool.and_eq_true,beq_iff_eq]at hc;obtain⟨rfl,rfl,rfl,rfl⟩:=hc;exact h rfl
theorem eqIn(x y:Nat):∃ r:Bool,r=decide (x%115792089237316195423570985008687907853269984665640564039457584007913129639936=y%115792089237316195423570985008687907853269984665640564039457584007913129639936)/\∃ a b:Array Value,wv x=.agg a/\wv y=.agg b/\∀ w,(Op.equalIn 10000 24 (.agg a) (.agg b)).run Tryz.prog w=.ok r w:=by
 obtain⟨x0,x1,x2,x3,u0,u1,u2,u3,ex,nx⟩:=wv_parts x;obtain⟨y0,y1,y2,y3,v0,v1,v2,v3,ey,ny⟩:=wv_parts y;refine⟨_,rfl,_,_,ex,ey,fun w=>?_⟩;rw[<- nx,<- ny,<- parts_eq u0 u1 u2 u3 v0 v1 v2 v3];exact eqW x0 x1 x2 x3 y0 y1 y2 y3 w
theorem nebx(x y:Nat)(w:World):(binOp BinOp.neq 24 (wv x) (wv y)).run Tryz.prog w=.ok (.bool (decide (x%115792089237316195423570985008687907853269984665640564039457584007913129639936≠y%115792089237316195423570985008687907853269984665640564039457584007913129639936))) w:=by
 obtain⟨r,hr,a,b,ea,eb,h⟩:=eqIn x y;have e2:decide (x%115792089237316195423570985008687907853269984665640564039457584007913129639936≠y%115792089237316195423570985008687907853269984665640564039457584007913129639936)=!r:=by rw[hr];simp
 rw[e2,ea,eb];clear e2 hr ea eb
 go_simp
theorem negx(x y:Nat)(o1 o2:Operand)(w:World):(eqGuard BinOp.neq 24 o1 o2 (wv x) (wv y)).run Tryz.prog w=.ok () w:=by kernel_rfl
theorem CW2.lt{w wx:World}{x y:Nat}(h:CW2 w x y wx):w.heap.size<wx.heap.size:=(Array.getElem?_eq_some_iff.1 h.2.1).1
-- WHAT bailiwickref01.Cmp COMES TO.
theorem cmp_ref(x y:Nat)(w:World):Calls Tryz.prog 62 #[.agg (pw x),.agg (pw y)] w fun e w'=>e=.returned (.int .i64 (ord (x%115792089237316195423570985008687907853269984665640564039457584007913129639936) (y%115792089237316195423570985008687907853269984665640564039457584007913129639936)))/\Below w.heap.size w w':=by
 have L1:=Lib.hid (fun wx (hC:CW2 w x y wx)=>load_pw hC.2.1);have L2:=Lib.hid (fun wx (hC:CW2 w x y wx)=>load_pw hC.2.2);go_enter Tryz.func62,Tryz.ntmps62
 go_wp2_with fail
 refine region_inv (CW2 w x y) (fun i v wx=>match i with | 0=>v=wv x | 1=>DgS w.heap.size 16 (x%115792089237316195423570985008687907853269984665640564039457584007913129639936) v wx | 2=>v=wv y | 3=>DgS w.heap.size 16 (y%115792089237316195423570985008687907853269984665640564039457584007913129639936) v wx | 4=>v=.bool (decide (x%115792089237316195423570985008687907853269984665640564039457584007913129639936<y%115792089237316195423570985008687907853269984665640564039457584007913129639936)) | _=>True) (Rb w.heap.size) (by kernel_rfl) (by kernel_rfl) ?_ ?_ ?_ ?_
 ·exact⟨Below.drew (by go_grown),heap_alloc2_old _ _ _,heap_alloc2_new _ _ _⟩
 ·intro i v wa wb hR h
  match i,h with
  | 0,h=>exact h
  | 1,h=>exact DgS.keep hR h
  | 2,h=>exact h
  | 3,h=>exact DgS.keep hR h
  | 4,h=>exact h
  | _+5,_=>trivial
 ·refine⟨fun a wx hC hK=>?_,fun a wx hC hK=>?_,fun a wx hC hK=>?_,fun a wx hC hK=>?_,fun a wx hC hK=>?_,trivial⟩
  ·exact st_load 24 (.tmp 2) (.pointer (some ⟨w.heap.size,0,none⟩)) (wv x) rfl (by kernel_rfl) (fun h=>by cases h) (hK.1 2 (by kernel_rfl)) (load_pw hC.2.1) hC rfl (Rb.refl _ _)
  ·have h0:a.tmps.getD 5 undef=wv x:=hK.2 ⟨0,.data⟩ (by simp) rfl _ rfl
   refine st_call 97 #[a.tmps.getD 5 undef] (by kernel_rfl) ⟨_,rfl⟩ (by kernel_rfl) ?_;rw[h0];refine(digits_any x wx).mono fun e w' h=>?_;obtain⟨v,he,hb,hv⟩:=mk_step hC.lt h;exact⟨v,he,hC.below hb,hv,Rb.of hb⟩
  ·exact st_load 24 (.tmp 3) (.pointer (some ⟨w.heap.size+1,0,none⟩)) (wv y) rfl (by kernel_rfl) (fun h=>by cases h) (hK.1 3 (by kernel_rfl)) (load_pw hC.2.2) hC rfl (Rb.refl _ _)
  ·have h0:a.tmps.getD 7 undef=wv y:=hK.2 ⟨2,.data⟩ (by simp) rfl _ rfl
   refine st_call 97 #[a.tmps.getD 7 undef] (by kernel_rfl) ⟨_,rfl⟩ (by kernel_rfl) ?_;rw[h0];refine(digits_any y wx).mono fun e w' h=>?_;obtain⟨v,he,hb,hv⟩:=mk_step hC.lt h;exact⟨v,he,hC.below hb,hv,Rb.of hb⟩
  ·obtain⟨b1,c1,d1,e1,-,hD1,hl1,hv1⟩:DgS w.heap.size 16 (x%115792089237316195423570985008687907853269984665640564039457584007913129639936) (a.tmps.getD 6 undef) wx:=hK.2 ⟨1,.data⟩ (by simp) rfl _ rfl
   obtain⟨b2,c2,d2,e2,-,hD2,hl2,hv2⟩:DgS w.heap.size 16 (y%115792089237316195423570985008687907853269984665640564039457584007913129639936) (a.tmps.getD 8 undef) wx:=hK.2 ⟨3,.data⟩ (by simp) rfl _ rfl;refine st_call 101 #[a.tmps.getD 6 undef,a.tmps.getD 8 undef] (by kernel_rfl) ⟨_,rfl⟩ (by kernel_rfl) ?_;rw[e1,e2];refine(less_any b1 c1 b2 c2 16 16 d1 d2 (by decide) (by decide) hl1 hl2 wx hD1 hD2).mono fun e w' h=>?_;rw[hv1,hv2]at h;obtain⟨he,rfl⟩:=h;exact⟨_,he,hC,rfl,Rb.refl _ _⟩
 ·intro f wx hC hf
  have h4:f _=Value.bool (decide (x%115792089237316195423570985008687907853269984665640564039457584007913129639936<y%115792089237316195423570985008687907853269984665640564039457584007913129639936)):=hf 4 _ rfl;simp only[putAll];rw[h4];clear hf h4;by_cases hlt:x%115792089237316195423570985008687907853269984665640564039457584007913129639936<y%115792089237316195423570985008687907853269984665640564039457584007913129639936
  ·rw[decide_eq_true hlt]
   have ho:ord (x%115792089237316195423570985008687907853269984665640564039457584007913129639936) (y%115792089237316195423570985008687907853269984665640564039457584007913129639936)=-1:=by unfold ord;rw[if_pos hlt]
   have HO:=Lib.hid ho;clear ho hlt
   go_simp
   go_wp2;go_ret;exact⟨by rw[HO.out];rfl,hC.1⟩
  ·rw[decide_eq_false hlt]
   go_simp
   go_upto_region 3 with(fail)
   refine q_region (CW2 w x y) hC ?_
   with_reducible refine q_load 24 (.tmp 2) (.pointer (some ⟨w.heap.size,0,none⟩)) (wv x) rfl (by kernel_rfl) (by kernel_rfl) L1.out ?_
   with_reducible refine q_load 24 (.tmp 3) (.pointer (some ⟨w.heap.size+1,0,none⟩)) (wv y) rfl (by kernel_rfl) (by kernel_rfl) L2.out ?_
   with_reducible refine q_bin .neq 24 _ _ 24 (wv x) (wv y) (.bool (decide (x%115792089237316195423570985008687907853269984665640564039457584007913129639936≠y%115792089237316195423570985008687907853269984665640564039457584007913129639936))) rfl (by kernel_rfl) (by kernel_rfl) (by kernel_rfl) (negx _ _ _ _) (nebx _ _) ?_
   with_reducible refine wpQuiet_nil ?_
   intro wx2 hC2;have hB2:=hC2.1;clear hC2 hC L1 L2;by_cases heq:x%115792089237316195423570985008687907853269984665640564039457584007913129639936=y%115792089237316195423570985008687907853269984665640564039457584007913129639936
   ·have ho:ord (x%115792089237316195423570985008687907853269984665640564039457584007913129639936) (y%115792089237316195423570985008687907853269984665640564039457584007913129639936)=0:=by unfold ord;rw[if_neg hlt,if_neg (by omega)]
    rw[decide_eq_false (by omega)];have HO:=Lib.hid ho;clear ho heq hlt
    go_simp
    go_wp2;go_ret;exact⟨by rw[HO.out];rfl,hB2⟩
   ·have ho:ord (x%115792089237316195423570985008687907853269984665640564039457584007913129639936) (y%115792089237316195423570985008687907853269984665640564039457584007913129639936)=1:=by unfold ord;rw[if_neg hlt,if_pos (by omega)]
    rw[decide_eq_true heq];have HO:=Lib.hid ho;clear ho heq hlt
    go_simp
    go_wp2;go_ret;exact⟨by rw[HO.out];rfl,hB2⟩
def cyN(a b k:Nat):Nat:=(a%2^(64*k)+b%2^(64*k)) / 2^(64*k)
def bwN(a b k:Nat):Nat:=if a%2^(64*k)<b%2^(64*k)then 1 else 0
theorem cy_step(a b k:Nat)(ha:a<2^256)(hb:b<2^256)(hk:k<4):pN a k+pN b k+cyN a b k=pN (a+b) k+18446744073709551616*cyN a b (k+1)/\cyN a b k<=1/\cyN a b (k+1)<=1:=by
 unfold pN cyN;have:k=0\/k=1\/k=2\/k=3:=by omega
 rcases this with rfl | rfl | rfl | rfl <;> simp only[Nat.reduceMul,Nat.reduceAdd,Nat.reducePow] <;> omega
theorem bw_step(a b k:Nat)(ha:a<2^256)(hb:b<2^256)(hk:k<4):pN a k+18446744073709551616*bwN a b (k+1)=pN b k+bwN a b k+pN (a+2^256 - b) k/\bwN a b k<=1/\bwN a b (k+1)<=1:=by
 unfold pN bwN;have:k=0\/k=1\/k=2\/k=3:=by omega
 rcases this with rfl | rfl | rfl | rfl <;> simp only[Nat.reduceMul,Nat.reduceAdd,Nat.reducePow] <;> split <;> split <;> omega
theorem cy_end(a b:Nat)(ha:a<2^256)(hb:b<2^256):cyN a b 4=if (2^256)<=a+b then 1 else 0:=by
 unfold cyN;simp only[Nat.reduceMul,Nat.reducePow]
 split <;> omega
theorem cy_zero(a b:Nat):cyN a b 0=0:=by unfold cyN;simp[Nat.mod_one]
theorem bw_zero(a b:Nat):bwN a b 0=0:=by unfold bwN;simp[Nat.mod_one]
def mixN(x y k j:Nat):Nat:=if j<k then pN x j else pN y j
theorem mix_next(x y k j:Nat):mixN x y (k+1) j=if j=k then pN x k else mixN x y k j:=by
 unfold mixN;by_cases e:j=k
 ·subst e;rw[if_pos (by omega),if_pos rfl]
 ·rw[if_neg e]
  by_cases h:j<k
  ·rw[if_pos (by omega),if_pos h]
  ·rw[if_neg (by omega),if_neg h]
theorem top_step(a k:Nat)(ha:a<2^256)(hk:k<4):a / 2^(64*k)=a / 2^(64*(k+1))*18446744073709551616+pN a k:=by
 unfold pN;have:k=0\/k=1\/k=2\/k=3:=by omega
 rcases this with rfl | rfl | rfl | rfl <;> simp only[Nat.reduceMul,Nat.reduceAdd,Nat.reducePow] <;> omega
theorem div_lt_of{a b P:Nat}(h:a / P<b / P):a<b:=Nat.lt_of_not_le fun hle=>Nat.not_lt.2 (Nat.div_le_div_right hle) h
def qN(x j:Nat):Nat:=x%115792089237316195423570985008687907853269984665640564039457584007913129639936 / 2^(32*j)%4294967296
theorem qN_lt(x j:Nat):qN x j<4294967296:=Nat.mod_lt _ (by omega)
theorem qn_of(x k p s:Nat)(hp:k / 2=p)(hs:32*(k%2)=s):pN x p / 2^s%4294967296=qN x k:=by
 subst hp hs;unfold pN qN;have e:18446744073709551616=2^(32*(k%2))*2^(64 - 32*(k%2)):=by rw[<- Nat.pow_add,show 32*(k%2)+(64 - 32*(k%2))=64 by omega]
 have e2:(4294967296:Nat)=2^32:=by rfl
 rw[e,Nat.mod_mul_right_div_self,e2,Nat.mod_mod_of_dvd _ (Nat.pow_dvd_pow 2 (by omega)),Nat.div_div_eq_div_mul,<- Nat.pow_add,show 64*(k / 2)+32*(k%2)=32*k by omega]
theorem odd_part:∀ n:Nat,0<n->∃ v r,n=2^v*(2*r+1):=by
 intro n
 induction n using Nat.strongRecOn with
 | ind n ih =>
  intro h;by_cases ho:n%2=1
  ·exact⟨0,n / 2,by rw[Nat.pow_zero,Nat.one_mul];omega⟩
  ·obtain⟨v,r,e⟩:=ih (n / 2) (by omega) (by omega)
   exact⟨v+1,r,by rw[Nat.pow_succ,Nat.mul_comm (2^v) 2,Nat.mul_assoc,<- e];omega⟩
theorem and_compl(r n:Nat)(h:r<2^n):r &&& (2^n - (r+1))=0:=by
 apply Nat.eq_of_testBit_eq;intro i;rw[Nat.testBit_and,Nat.testBit_two_pow_sub_succ h,Nat.zero_testBit];cases Nat.testBit r i <;> simp
theorem and_odd(r s:Nat)(h:r &&& s=0):(2*r+1) &&& (2*s+1)=1:=by
 apply Nat.eq_of_testBit_eq;intro i;cases i with
 | zero=>rw[Nat.testBit_and];simp[Nat.testBit_zero]
 | succ i =>
  have e:Nat.testBit (r &&& s) i=false:=by rw[h,Nat.zero_testBit]
  rw[Nat.testBit_and]at e;rw[Nat.testBit_and,Nat.testBit_succ,Nat.testBit_succ,Nat.testBit_succ,show(2*r+1) / 2=r by omega,show(2*s+1) / 2=s by omega,e];simp
theorem low_bit(L:Nat)(h0:0<L)(hl:L<4294967296):∃ v r,L=2^v*(2*r+1)/\v<32/\L &&& (18446744073709551616 - L)=2^v:=by
 obtain⟨v,r,e⟩:=odd_part L h0;have hv:v<32:=by
  apply Classical.byContradiction;intro hn;have:2^32<=2^v:=Nat.pow_le_pow_right (by omega) (by omega);have h2:2^v*1<=2^v*(2*r+1):=Nat.mul_le_mul_left _ (by omega);omega
 refine⟨v,r,e,hv,?_⟩;have hr:r<2^(63 - v):=by
  apply Classical.byContradiction;intro hn;have h2:2^v*2^(63 - v)<=2^v*r:=Nat.mul_le_mul_left _ (by omega);have h3:2^v*r<=2^v*(2*r+1):=Nat.mul_le_mul_left _ (by omega);rw[<- Nat.pow_add,show v+(63 - v)=63 by omega]at h2;omega
 have e2:18446744073709551616 - L=2^v*(2*(2^(63 - v) - (r+1))+1):=by
  have e3:2^v*(2*2^(63 - v))=18446744073709551616:=by
   rw[show 2*2^(63 - v)=2^(64 - v) by rw[<- Nat.pow_succ',Nat.succ_eq_add_one,show 63 - v+1=64 - v by omega],<- Nat.pow_add,show v+(64 - v)=64 by omega]
  rw[<- e3,e,<- Nat.mul_sub];congr 1;omega
 rw[e2,e,Nat.mul_comm (2^v),Nat.mul_comm (2^v),<- Nat.shiftLeft_eq,<- Nat.shiftLeft_eq,<- Nat.shiftLeft_and_distrib,and_odd _ _ (and_compl _ _ hr),Nat.shiftLeft_eq,Nat.one_mul]
def LowI(m lo:Nat):Prop:=∃ t,t<=32/\lo<2^t/\2^t∣lo*m+1
theorem LowI.lt{m lo:Nat}(h:LowI m lo):lo<4294967296:=by
 obtain⟨t,h1,h2,-⟩:=h;have:2^t<=2^32:=Nat.pow_le_pow_right (by omega) h1;omega
theorem LowI.start{m:Nat}(h:m%2=1):LowI m 1:=⟨1,by omega,by omega,by rw[Nat.dvd_iff_mod_eq_zero];omega⟩
theorem LowI.step{m lo c L:Nat}(h:LowI m lo)(ho:m%2=1)(hc:lo*m%4294967296=c)(hn:c≠4294967295)(hL:4294967295 - c=L):∃ b,L &&& (18446744073709551616 - L)=b/\0<b/\lo+b<4294967296/\LowI m (lo+b):=by
 have hcl:c<4294967296:=by rw[<- hc];exact Nat.mod_lt _ (by omega)
 obtain⟨v,r,e,hv,hb⟩:=low_bit L (by omega) (by omega);obtain⟨t,h1,h2,h3⟩:=h;have hpv:0<2^v:=Nat.pow_pos (by omega)
 -- lo*m+1 and L are together a multiple of 2^32
 obtain⟨z,hz⟩:∃ z,lo*m+1+L=4294967296*z:=⟨lo*m / 4294967296+1,by have:=Nat.div_add_mod (lo*m) 4294967296;omega⟩
 have htL:2^t∣L:=by
  have hd:2^t∣lo*m+1+L:=by
   rw[hz];exact Nat.dvd_trans (show 2^t∣4294967296 from(show(2:Nat)^t∣2^32 from Nat.pow_dvd_pow 2 h1)) (Nat.dvd_mul_right _ _)
  exact(Nat.dvd_add_iff_right h3).2 hd
 have htv:t<=v:=by
  apply Classical.byContradiction;intro hn;have h4:2^(v+1)∣2^v*(2*r+1):=by rw[<- e];exact Nat.dvd_trans (Nat.pow_dvd_pow 2 (by omega)) htL
  rw[Nat.pow_succ]at h4;have:=Nat.dvd_of_mul_dvd_mul_left hpv h4;omega
 have hlo:lo<2^v:=Nat.lt_of_lt_of_le h2 (Nat.pow_le_pow_right (by omega) htv);have hv1:2^(v+1)=2^v*2:=Nat.pow_succ _ _;have hv2:2^(v+1)<=2^32:=Nat.pow_le_pow_right (by omega) (by omega);refine⟨2^v,hb,hpv,by omega,v+1,by omega,by omega,?_⟩;have h5:2^(v+1)∣4294967296:=(show(2:Nat)^(v+1)∣2^32 from Nat.pow_dvd_pow 2 (by omega))
 have h6:(lo+2^v)*m+1+L=4294967296*z+2^v*m:=by rw[Nat.add_mul];omega
 have h7:2^v*m+2^(v+1)*r+2^v=L+2^v*m:=by rw[e,hv1];grind
 obtain⟨u,hu⟩:∃ u,m=2*u+1:=⟨m / 2,by omega⟩
 -- (lo+2^v) m+1=2^32 z+2^v (m - 2r - 1): told with no difference
 have h8:2^(v+1)∣(lo+2^v)*m+1+2^(v+1)*r:=by
  have e9:(lo+2^v)*m+1+2^(v+1)*r=4294967296*z+2^(v+1)*u:=by
   have:2^v*m=2^(v+1)*u+2^v:=by rw[hu,hv1];grind
   have e10:L=2^(v+1)*r+2^v:=by rw[e,hv1];grind
   omega
  rw[e9];exact Nat.dvd_add (Nat.dvd_trans h5 (Nat.dvd_mul_right _ _)) (Nat.dvd_mul_right _ _)
 exact(Nat.dvd_add_iff_left (Nat.dvd_mul_right _ _)).2 h8
theorem LowI.done{m lo:Nat}(hc:lo*m%4294967296=4294967295):(lo*m+1)%4294967296=0:=by omega
open Go.RowKit
structure W2 (w:World) (fa fb:Nat->Nat) (wx:World):Prop where
 old:Below w.heap.size w wx
 ra:wx.heap[w.heap.size]?=some (.cells (ar .u64 4 fun j=>((fa j:Nat):Int)) 24 (0,0))
 rb:wx.heap[w.heap.size+1]?=some (.cells (ar .u64 4 fun j=>((fb j:Nat):Int)) 24 (0,0))
theorem W2.drew{w wx:World}{fa fb:Nat->Nat}(c:W2 w fa fb wx):W2 w fa fb wx.drew:=⟨c.old.drew,c.ra,c.rb⟩
theorem W2.ca{w wx:World}{fa fb:Nat->Nat}(c:W2 w fa fb wx)(j:Nat)(hj:j<4):wx.cell? ⟨w.heap.size,j,none⟩=some (.int .u64 (fa j:Nat)):=(cell_of_row _ _ j _ _ _ c.ra).trans (ar_at _ _ _ _ hj)
theorem W2.cb{w wx:World}{fa fb:Nat->Nat}(c:W2 w fa fb wx)(j:Nat)(hj:j<4):wx.cell? ⟨w.heap.size+1,j,none⟩=some (.int .u64 (fb j:Nat)):=(cell_of_row _ _ j _ _ _ c.rb).trans (ar_at _ _ _ _ hj)
theorem W2.start(w:World)(a b:Nat):W2 w (pN a) (pN b) ((w.alloc (.cells (pw a) 24)).alloc (.cells (pw b) 24)):=by
 refine⟨((Below.refl _ _).alloc (Nat.le_refl _) _).alloc (by simp) _,?_,?_⟩
 ·rw[Below.heap_alloc _ _ _ (by simp),heap_alloc_new,pw_ar]
 ·have:=heap_alloc_new (w.alloc (.cells (pw a) 24)) (.cells (pw b) 24)
  rw[World.size_alloc]at this;rw[this,pw_ar]
theorem moreW_any(a b:Nat)(ha:a<2^256)(hb:b<2^256)(w:World):Calls Tryz.prog 99 #[.agg (pw a),.agg (pw b)] w fun e w'=>e=.returned (.bool (decide (b<=a)))/\Below w.heap.size w w':=by
 have HAB:=Lib.hid (And.intro ha hb);have HS:=Lib.hid (show a / 2^(64*4)=b / 2^(64*4) from by rw[Nat.div_eq_of_lt (by simpa using ha),Nat.div_eq_of_lt (by simpa using hb)]);have HR:=Lib.hid (show ∃ w0,(w.alloc (.cells (pw a) 24)).alloc (.cells (pw b) 24)=w0/\W2 w (pN a) (pN b) w0 from⟨_,rfl,W2.start w a b⟩);clear ha hb;go_enter Tryz.func99,Tryz.ntmps99
 go_wp2_with fail
 obtain⟨w0,hw0,h0⟩:=HR.out;rw[hw0];have H0:=Lib.hid h0;clear hw0 h0 HR
 go_loopw [5] (fun iv wr=>∃(z:Int) (k:Nat),k<=4/\z=(k:Int) - 1/\iv=.int .i64 z/\Hid (a / 2^(64*k)=b / 2^(64*k)/\W2 w (pN a) (pN b) wr)) (fun iv _=>(intOf iv+1).toNat)
 case atStart=>exact⟨3,4,by omega,by omega,rfl,Lib.hid ⟨HS.out,H0.out⟩⟩
 case round =>
  obtain⟨z,k,hk,hz,rfl,H⟩:=hrel;clear H0 HS;by_cases h0:0<=z
  ·obtain⟨j,rfl⟩:=Int.eq_ofNat_of_zero_le h0
   obtain rfl:k=j+1:=by omega
   have hj:j<4:=by omega
   have hj4:(j:Int)<4:=by omega
   have ca:=H.out.2.ca j hj;have cb:=H.out.2.cb j hj;have ta:=Lib.hid (top_step a j HAB.out.1 hj);have tb:=Lib.hid (top_step b j HAB.out.2 hj);have hpl:=pN_le a j;have hql:=pN_le b j;obtain⟨p,hp⟩:∃ p,pN a j=p:=⟨_,rfl⟩
   obtain⟨q,hq⟩:∃ q,pN b j=q:=⟨_,rfl⟩
   rw[hp]at ca ta hpl;rw[hq]at cb tb hql;clear hp hq;have HL:=Lib.hid (And.intro hpl hql);clear hpl hql;by_cases he:p=q
   ·subst he
    clear hk hz hj
    go_wp2_with fail
    go_region
    go_wp2
    go_roundw
    case rel=>exact⟨(j:Int) - 1,j,by omega,rfl,by go_num,Lib.hid ⟨by rw[ta.out,tb.out,H.out.1],H.out.2.drew⟩⟩
    case measure=>simp[intOf]
   ·have hne:¬(p:Int)=(q:Int):=by omega
    by_cases hlt:q<p
    ·have hgt:(q:Int)<(p:Int):=by omega
     have HE:=Lib.hid (show decide (b<=a)=true from decide_eq_true (Nat.le_of_lt (div_lt_of (P:=2^(64*j)) (by rw[ta.out,tb.out,H.out.1];omega))));clear hk hz hj he hlt ta tb HL
     go_wp2_with fail
     go_region
     go_wp2_with fail
     go_region
     go_wp2_with fail
     go_ret;exact⟨by rw[HE.out];first | rfl | (show Ending.returned (.bool (decide (q<p)))=_;rw[decide_eq_false (by omega)]),H.out.2.old.drew.drew⟩
    ·have hgt:¬(q:Int)<(p:Int):=by omega
     have HE:=Lib.hid (show decide (b<=a)=false from decide_eq_false (Nat.not_le.2 (div_lt_of (P:=2^(64*j)) (by rw[ta.out,tb.out,H.out.1];omega))));clear hk hz hj he hlt ta tb HL
     go_wp2_with fail
     go_region
     go_wp2_with fail
     go_region
     go_wp2_with fail
     go_ret;exact⟨by rw[HE.out];first | rfl | (show Ending.returned (.bool (decide (q<p)))=_;rw[decide_eq_false (by omega)]),H.out.2.old.drew.drew⟩
  ·obtain rfl:k=0:=by omega
   have hz':¬(z:Int) ≥ 0:=by omega
   have HE:=Lib.hid (show decide (b<=a)=true from decide_eq_true (by have:=H.out.1;simp at this;omega));clear hz
   go_wp2_with fail
   go_ret;exact⟨by rw[HE.out];rfl,H.out.2.old⟩
open Go.RowKit
structure W3 (w:World) (fa fb:Nat->Nat) (wx:World):Prop extends W2 w fa fb wx where
 rc:wx.heap[w.heap.size+1+1]?=some (.cells (#[.int .u64 0,.int .u64 0,.int .u64 0,.int .u64 0]) 24 (0,0))
theorem W3.drew{w wx:World}{fa fb:Nat->Nat}(c:W3 w fa fb wx):W3 w fa fb wx.drew:=⟨c.toW2.drew,c.rc⟩
theorem W3.start(w:World)(a b:Nat):W3 w (pN a) (pN b) (((w.alloc (.cells (pw a) 24)).alloc (.cells (pw b) 24)).alloc (.cells (#[.int .u64 0,.int .u64 0,.int .u64 0,.int .u64 0]) 24)):=by
 have h:=W2.start w a b;refine⟨⟨h.old.alloc (by simp;omega) _,?_,?_⟩,?_⟩
 ·rw[Below.heap_alloc _ _ _ (by simp;omega),h.ra]
 ·rw[Below.heap_alloc _ _ _ (by simp),h.rb]
 ·have:=heap_alloc_new ((w.alloc (.cells (pw a) 24)).alloc (.cells (pw b) 24)) (.cells (#[.int .u64 0,.int .u64 0,.int .u64 0,.int .u64 0]) 24)
  rwa [World.size_alloc,World.size_alloc]at this
theorem W3.put{w wx:World}{x y k v:Nat}{fb:Nat->Nat}(c:W3 w (mixN x y k) fb wx)(hk:k<4)(hv:v=pN x k):W3 w (mixN x y (k+1)) fb (wx.setCell ⟨w.heap.size,k,none⟩ (.int .u64 (v:Nat))):=by
 subst hv;refine⟨⟨c.old.setCell (Nat.le_refl _) _,?_,(heap_setCell_other _ _ _ _ (by simp)).trans c.rb⟩,(heap_setCell_other _ _ _ _ (by simp;omega)).trans c.rc⟩;refine(heap_setCell_same _ _ _ _ _ _ c.ra).trans ?_;rw[ar_set _ _ _ _ _ hk];congr 2;refine ar_congr fun j _=>?_;unfold updI;rw[mix_next];by_cases e:j=k
 ·rw[if_pos e,if_pos e]
 ·rw[if_neg e,if_neg e]
theorem mix_zero(x y:Nat):mixN x y 0=pN y:=by funext j;simp[mixN]
theorem mix_four(x y:Nat):(ar .u64 4 fun j=>((mixN x y 4 j:Nat):Int))=pw x:=by
 rw[pw_ar];exact ar_congr fun j hj=>by unfold mixN;rw[if_pos hj]
theorem W3.full{w wx:World}{x y:Nat}{fb:Nat->Nat}(c:W3 w (mixN x y 4) fb wx):wx.heap[w.heap.size]?=some (.cells (pw x) 24 (0,0))/\wx.heap[w.heap.size+1+1]?=some (.cells (#[.int .u64 0,.int .u64 0,.int .u64 0,.int .u64 0]) 24 (0,0)):=by
 refine⟨?_,c.rc⟩;have:=c.ra;rwa [mix_four]at this
theorem results_cs{fn:Func}{p q:Tmp}(h:fn.results=#[.cell p 24,.tmp q])(tmps:Array Value)(w:World)(g:Nat)(cs:Array Value)(v:Value)(fr:Nat × Nat)
  (hp:tmps.getD p undef=.pointer (some ⟨g,0,none⟩)) (hq:tmps.getD q undef=v) (hg:w.heap[g]?=some (.cells cs 24 fr))
  (hi:(Tryz.prog.info? 24).map (·.size)=some cs.size) :
  (results fn tmps).run Tryz.prog w=.ok (.tuple #[.agg cs,v]) w:=by
 have hp':tmps[p]?.getD undef=.pointer (some ⟨g,0,none⟩):=by simpa using hp
 have hq':tmps[q]?.getD undef=v:=by simpa using hq
 simp[results,h,hp',hq',asAddr,run_loadVar_row w g 24 24 cs fr _ hg Tryz.underlying24 rfl hi]
theorem plusW_any(a b:Nat)(ha:a<2^256)(hb:b<2^256)(w:World):Calls Tryz.prog 98 #[.agg (pw a),.agg (pw b)] w fun e w'=>e=.returned (.tuple #[.agg (pw (a+b)),.bool (decide (2^256<=a+b))])/\Below w.heap.size w w':=by
 have HAB:=Lib.hid (And.intro ha hb);have HE:=Lib.hid (cy_end a b ha hb);have HR:=Lib.hid (show ∃ w0,((w.alloc (.cells (pw a) 24)).alloc (.cells (pw b) 24)).alloc (.cells (#[.int .u64 0,.int .u64 0,.int .u64 0,.int .u64 0]) 24)=w0/\W3 w (mixN (a+b) a 0) (pN b) w0 from⟨_,rfl,by rw[mix_zero];exact W3.start w a b⟩);clear ha hb;go_enter Tryz.func98,Tryz.ntmps98
 go_wp2_with fail
 obtain⟨w0,hw0,h0⟩:=HR.out;rw[hw0];have H0:=Lib.hid h0;clear hw0 h0 HR
 go_loopw [6,7] (fun ov iv wr=>∃ k c:Nat,k<=4/\c=cyN a b k/\ov=.int .u64 c/\iv=.int .i64 k/\Hid (W3 w (mixN (a+b) a k) (pN b) wr)) (fun _ iv _=>4 - (intOf iv).toNat)
 case atStart=>exact⟨0,0,by omega,(cy_zero _ _).symm,rfl,rfl,H0⟩
 case round =>
  obtain⟨k,c,hk,hc,rfl,rfl,H⟩:=hrel;clear H0;have hk0:(0:Int)<=k:=by omega
  by_cases hlt:k<4
  ·have hk4:(k:Int)<4:=by omega
   have ca:=H.out.ca k hlt;have cb:=H.out.cb k hlt;have fo:=frozen_of_row wr w.heap.size k _ _ H.out.ra;rw[show mixN (a+b) a k k=pN a k from by unfold mixN;rw[if_neg (by omega)]]at ca;obtain⟨hst,hc1,hd1⟩:=cy_step a b k HAB.out.1 HAB.out.2 hlt;have hpl:=pN_le a k;have hql:=pN_le b k;have hsl:=pN_le (a+b) k;have hck:cyN a b k=c:=hc.symm;obtain⟨d,hd⟩:∃ d,cyN a b (k+1)=d:=⟨_,rfl⟩
   obtain⟨p,hp⟩:∃ p,pN a k=p:=⟨_,rfl⟩
   obtain⟨q,hq⟩:∃ q,pN b k=q:=⟨_,rfl⟩
   obtain⟨s,hs⟩:∃ s,pN (a+b) k=s:=⟨_,rfl⟩
   obtain⟨x,hx⟩:∃ x,(p+q)%18446744073709551616=x:=⟨_,rfl⟩
   rw[hck,hd,hp,hq,hs]at hst;rw[hck]at hc1;rw[hd]at hd1;rw[hp]at ca hpl;rw[hq]at cb hql;rw[hs]at hsl;have hxl:x<18446744073709551616:=by omega
   have hX:IntKind.u64.wrap ((p:Int)+(q:Int))=(x:Int):=by rw[IntKind.wrap_u64];omega
   have hY:IntKind.u64.wrap ((x:Int)+(c:Int))=(s:Int):=by rw[IntKind.wrap_u64];omega
   have HN:=Lib.hid (And.intro hd hs);by_cases h1:x<p
   ·have h1':(x:Int)<(p:Int):=by omega
    obtain rfl:d=1:=by omega
    have HK:=Lib.hid hlt;clear hc hk hst hc1 hd1 hpl hql hsl hck hd hp hq hs hx hxl h1 hlt
    go_wp2_with fail
    go_region
    go_wp2_with fail
    go_roundw
    case rel=>exact⟨k+1,1,by have:=HK.out;omega,HN.out.1.symm,rfl,by go_num,Lib.hid (H.out.drew.put HK.out HN.out.2.symm)⟩
    case measure=>have:=HK.out;simp[intOf];omega
   ·have h1':¬(x:Int)<(p:Int):=by omega
    by_cases h2:s<x
    ·have h2':(s:Int)<(x:Int):=by omega
     obtain rfl:d=1:=by omega
     have HK:=Lib.hid hlt;clear hc hk hst hc1 hd1 hpl hql hsl hck hd hp hq hs hx hxl h1 h2 hlt
     go_wp2_with fail
     go_region
     go_wp2_with fail
     go_roundw
     case rel=>exact⟨k+1,1,by have:=HK.out;omega,HN.out.1.symm,rfl,by go_num,Lib.hid (H.out.drew.put HK.out HN.out.2.symm)⟩
     case measure=>have:=HK.out;simp[intOf];omega
    ·have h2':¬(s:Int)<(x:Int):=by omega
     obtain rfl:d=0:=by omega
     have HK:=Lib.hid hlt;clear hc hk hst hc1 hd1 hpl hql hsl hck hd hp hq hs hx hxl h1 h2 hlt
     go_wp2_with fail
     go_region
     go_wp2_with fail
     go_roundw
     case rel=>exact⟨k+1,0,by have:=HK.out;omega,HN.out.1.symm,rfl,by go_num,Lib.hid (H.out.drew.put HK.out HN.out.2.symm)⟩
     case measure=>have:=HK.out;simp[intOf];omega
  ·obtain rfl:k=4:=by omega
   have HF:=Lib.hid H.out.full;rw[HE.out]at hc;have hend:decide (2^256<=a+b)=decide ((c:Int)=1):=by
    rw[hc];by_cases h:(2^256)<=a+b
    ·rw[decide_eq_true h,if_pos h];rfl
    ·rw[decide_eq_false h,if_neg h];rfl
   have HD:=Lib.hid hend;clear hc hend HE hk0
   go_wp2_with (first | (refine wpList_ld rfl 24 _ rfl (.pointer (some ⟨w.heap.size,0,none⟩)) (.agg (pw (a+b))) rfl (ld_pw (by exact HF.out.1)) ?_) | (refine wpList_store_row rfl 24 _ _ rfl (w.heap.size+1+1) (pw (a+b)) rfl rfl 24 (#[.int .u64 0,.int .u64 0,.int .u64 0,.int .u64 0]) (by exact HF.out.2) (by rw[pw_size];exact infoW4) (by rw[pw_size];rfl) (pw_one _) ?_))
   (try simp only[Act.put])
   refine bodyPost_ret (v:=.tuple #[.agg (pw (a+b)),.bool (decide ((c:Int)=1))]) (results_cs (p:=4) (q:=5) rfl _ _ (w.heap.size+1+1) (pw (a+b)) _ (0,0) rfl rfl (setRow_heap _ _ _ _ _ _ HF.out.2) (by rw[pw_size];exact infoW4)) rfl ⟨by rw[HD.out],below_setRow H.out.old (by omega) _⟩
end Go.Proofs.YtadfjjfklihaaaaGreat
