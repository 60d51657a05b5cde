/- The document's field, for those who call it; the document's none, twice, plus, sum, negative, whether a point is on the curve. (Cut to what is reached, written closely: GPts · SyA · RCub · Rsp · SyR.) -/
import Derived.Test.YtphafjbajlcbnaaB30
import Derived.Test.YtphafjbajlcbnaaB34
import Derived.Test.YtphafjbajlcbnaaB19
import Derived.Test.YtphafjbajlcbnaaB29
import Derived.Test.YtphafjbajlcbnaaB32
import Derived.Test.YtphafjbajlcbnaaB25
set_option linter.all false
set_option maxRecDepth 100000
set_option maxHeartbeats 8000000
namespace Go.Proofs.Ytphafjbajlcbnaa
open Go.RowKit
theorem points_any(w:World):Calls Try.prog 19 #[] w fun e w'=>∃ F,e=.returned (.agg #[.pointer (some ⟨F,0,none⟩)])/\FldAt w' F 115792089237316195423570985008687907853269984665640564039457584007908834671663/\w.heap.size<=F/\Below w.heap.size w w':=by
 have HCR:=Lib.hid (fun wx=>f_Curve wx);go_enter Try.func19,Try.ntmps19
 go_wp2_with fail
 refine(HCR.out _).mono ?_;rintro e w5 ⟨F,rfl,hF,hs,hb⟩;have HF:=Lib.hid hF;have HS:=Lib.hid hs;have HB:=Lib.hid hb;have hr:=(HB.out.block w.heap.size (by simp)).trans (heap_alloc_new w _);have HR:=Lib.hid hr;clear hF hs hb hr HCR
 go_wp2_with (refine wpList_store_row rfl 47 _ _ rfl w.heap.size #[.pointer (some ⟨F,0,none⟩)] rfl rfl 47 _ (by exact HR.out) (by kernel_rfl) (by rfl) (by kernel_rfl) ?_)
 (try simp only[Act.put])
 refine bodyPost_ret (v:=.agg #[.pointer (some ⟨F,0,none⟩)]) (results_cell_row (p:=0) rfl _ _ w.heap.size 47 #[.pointer (some ⟨F,0,none⟩)] (0,0) _ rfl (setRow_heap _ _ _ _ _ _ HR.out) Try.underlying47 rfl (by kernel_rfl)) rfl ⟨F,rfl,?_,?_,?_⟩
 ·have h:=HS.out
  simp at h;exact fld_row HF.out (by omega)
 ·have h:=HS.out
  simp at h;omega
 ·exact below_setRow (((Below.refl _ _).alloc (Nat.le_refl _) _).trans (HB.out.mono (by simp))) (Nat.le_refl _) _
theorem rF_any(w:World):Calls Try.prog 13 #[] w fun e w'=>∃ G,e=.returned (.pointer (some ⟨G,0,none⟩))/\RFld w' G 115792089237316195423570985008687907853269984665640564039457584007908834671663/\w.heap.size<=G/\Below w.heap.size w w':=by
 have HCR:=Lib.hid (fun wx=>rcurve_any wx);have HNW:=Lib.hid (fun wx=>rnew_any 115792089237316195423570985008687907853269984665640564039457584007908834671663 (by omega) (by omega) (by omega) wx);go_enter Try.func13,Try.ntmps13
 go_wp2_with fail
 refine(HCR.out _).mono ?_;rintro e w5 ⟨rfl,hb⟩;have HB:=Lib.hid hb;clear hb HCR
 go_wp2_with fail
 refine(HNW.out _).mono ?_;rintro e w6 ⟨v,rfl,⟨G,rfl,hs,lo,h1,h2,h3⟩,hb6⟩;have HG:=Lib.hid (show RFld w6 G 115792089237316195423570985008687907853269984665640564039457584007908834671663/\w.heap.size<=G/\Below w.heap.size w w6 from⟨⟨lo,h1,h2,h3⟩,Nat.le_trans HB.out.size hs,HB.out.trans (hb6.mono HB.out.size)⟩);clear hs h1 h2 h3 hb6 HB HNW
 go_wp2_with fail
 go_ret;exact⟨G,rfl,HG.out⟩
open Go.RowKit
namespace Sy
abbrev mK:Nat:=115792089237316195423570985008687907853269984665640564039457584007908834671663
theorem fK(w:World):FOk false mK (fun _=>0) w:=⟨by decide,by decide,by decide,fun h=>by cases h⟩
def cPoints:Con:=⟨19,fun n _ l=>match l with
 | []=>some (.ap (.p n 0 0 0) .e,[],[(n,sFld mK,97)])
 | _=>none⟩
theorem cPoints_ok{γ0:Pl}{w0:World}:ConOk Try.prog 1 γ0 w0 cPoints:=⟨fun _ _=>by kernel_rfl,fun n M l r p R hr hp hn hok _=>by
 simp only[cPoints]at hr
 split at hr
 ·cases hr
  refine⟨⟨trivial,trivial⟩,by show(decide (n<n+1)&&true)=true;simp,fun q hq=>?_,fun γ hγ wx hw hL=>?_⟩
  ·simp only[List.mem_cons,List.not_mem_nil,or_false]at hq
   subst hq;exact⟨⟨trivial,trivial,trivial,trivial,trivial,trivial,trivial,trivial,trivial,trivial⟩,rfl,Nat.le_refl _,Nat.lt_succ_self _⟩
  ·refine(points_any wx).mono fun e w' ⟨F,h1,h2,h3,h4⟩=>?_
   obtain⟨δ,hδ⟩:∃ δ:Pl,∀ k,δ k=if k=n then F else γ k:=⟨_,fun _=>rfl⟩
   refine⟨⟨δ,fun k hk=>by rw[hδ,if_neg (by omega)],?_,fun q hq=>?_,List.pairwise_singleton _ _⟩,h4⟩
   ·rw[h1]
    show _=Ending.returned (.agg #[.pointer (some ⟨δ n,0+0*0,none⟩)]);rw[hδ,if_pos rfl]
   ·simp only[List.mem_cons,List.not_mem_nil,or_false]at hq
    subst hq;refine⟨by rw[hδ,if_pos rfl];exact h3,?_⟩;show w'.heap[δ n]?=_;rw[hδ,if_pos rfl];exact h2.row
 ·cases hr⟩
def lstOf:SV->Option (List (Nat × Nat × Bool))
 | .e=>some []
 | .ap x t=>match ptS x,lstOf t with
  | some p,some l=>some (p::l)
  | _,_=>none
 | _=>none
theorem lstOf_ok{γ:Pl}:∀ {c:SV} {l:List (Nat × Nat × Bool)},lstOf c=some l->(c.cells γ).toArray=pls l/\(c.ok->∀ p∈l,p.1<2^256/\p.2.1<2^256)
 | .e,l,h=>by cases h;exact⟨rfl,fun _ p hp=>by cases hp⟩
 | .ap x t,l,h=>by
  unfold lstOf at h
  split at h
  ·rename_i p r hx hr
   cases h;have ih:=lstOf_ok (γ:=γ) hr;have k:=ptS_ok (γ:=γ) hx;refine⟨?_,fun ho q hq=>?_⟩
   ·show(x.cells γ++t.cells γ).toArray=pc p.1 p.2.1 p.2.2++pls r
    rw[<- ih.1];have e:x.cells γ=(pc p.1 p.2.1 p.2.2).toList:=by
     unfold ptS at hx
     split at hx
     ·have h2:=k.1
      have h3:Value.agg (SV.cells γ (SV.ap (.w _) (.ap (.w _) (.ap _ .e)))).toArray=.agg _:=h2;injection h3 with h3
      rw[<- h3]
     ·cases hx
    rw[e];simp
   ·rcases List.mem_cons.1 hq with rfl | hq
    ·exact k.2 ho.1
    ·exact ih.2 ho.2 q hq
  ·cases h
def conS(ext:Bool)(m:Nat)(f:FuncId)(g:List (Nat × Nat × Bool)->SV):Con:=⟨f,fun _ M us=>match us with
 | [.ap x .e,.s b 0 k _]=>match isF ext m M x,rowIn b M with
  | some p,some (c,T)=>match lstOf c with
   | some l=>if T=26/\l.length=k/\k<4294967296 then some (g l,p,[])else none
   | none=>none
  | _,_=>none
 | _=>none⟩
theorem conS_ok{ext:Bool}{m:Nat}{γ0:Pl}{w0:World}{f:FuncId}{g:List (Nat × Nat × Bool)->SV}(hf:FOk ext m γ0 w0)(hc:∀ as_ wx,(callFunc f as_).run Try.prog wx=.ok (.enter f as_) wx)(hg:∀ l,(∀ p∈l,p.1<2^256/\p.2.1<2^256)->(g l).ok/\(g l).lt 0=true)
  (h:∀ F b c l,(∀ p∈l,p.1<2^256/\p.2.1<2^256)->l.length<4294967296->∀ w,FldAt w F m->w.heap[b]?=some (.cells (pls l) 26 (0,0))->Calls Try.prog f #[.agg #[.pointer (some ⟨F,0,none⟩)],.slice (some ⟨b,0,none⟩) l.length c] w fun e w'=>e=.returned ((g l).val fun _=>0)/\Below w.heap.size w w'):ConOk Try.prog 1 γ0 w0 (conS ext m f g) :=
 ⟨hc,fun n M us r p R hr hp hn hok hM=>by
  unfold conS at hr;dsimp only at hr
  split at hr
  ·rename_i x b k c
   split at hr
   ·rename_i p' c' T hx hrow
    split at hr
    ·rename_i l hl
     split at hr
     ·rename_i hk
      cases hr;obtain⟨rfl,rfl,hk⟩:=hk;have hlt:=(lstOf_ok (γ:=fun _=>0) hl).2 (hM _ (rowIn_ok hrow)).1;have q:=hg l hlt;refine⟨q.1,SV.lt_mono (Nat.zero_le _) q.2,fun q hq=>(by cases hq),fun γ hγ wx hw hL=>?_⟩;obtain⟨F,h1,h2⟩:=isF_at hx hp hf hγ hw hL;have hrw:=(hL _ (rowIn_ok hrow)).1;rw[(lstOf_ok (γ:=γ) hl).1]at hrw;have g4:=h F (γ b) c l hlt hk wx h2 hrw;rw[<- agg_ptr hx h1]at g4;refine g4.mono fun e w' hh=>⟨⟨γ,fun _ _=>rfl,hh.1.trans (congrArg Ending.returned (val0 q.2).symm),fun q hq=>(by cases hq),.nil⟩,hh.2⟩
     ·cases hr
    ·cases hr
   ·cases hr
  ·cases hr⟩
def cHold(ext:Bool)(m:Nat):Con:=conS ext m 31 fun l=>.b (l.all (onB m))
theorem cHold_ok{ext:Bool}{m:Nat}{γ0:Pl}{w0:World}(hf:FOk ext m γ0 w0):ConOk Try.prog 1 γ0 w0 (cHold ext m) :=
 conS_ok hf (fun _ _=>by kernel_rfl) (fun _ _=>⟨trivial,rfl⟩) fun F b c l hl hn w hF hg=>ghold_any F m b c l hl hn w hF hg
def sIf(b:Bool):SV:=.i .i64 (if b=true then 0 else 81)
def sm3(m:Nat)(l:List (Nat × Nat × Bool)):Nat × Nat × Bool:=if l.all (onB m)=true then gpT m (gsm m l)else (0,0,true)
theorem sm3_val(m:Nat)(l:List (Nat × Nat × Bool)):pc (sm3 m l).1 (sm3 m l).2.1 (sm3 m l).2.2=if l.all (onB m)=true then gpo m (gsm m l)else pc 0 0 true:=by
 unfold sm3
 split
 ·rw[<- gpo_gpT]
 ·rfl
theorem sm3_lt{m:Nat}(h0:0<m)(hm:m<2^256)(l:List (Nat × Nat × Bool)):(sm3 m l).1<2^256/\(sm3 m l).2.1<2^256:=by
 unfold sm3
 split
 ·exact gpT_lt h0 hm _
 ·exact⟨w0_ok,w0_ok⟩
def cSum(ext:Bool)(m:Nat):Con:=conS ext m 21 fun l=>.tu (sP3 (sm3 m l)) (sIf (l.all (onB m)))
theorem cSum_ok{ext:Bool}{m:Nat}{γ0:Pl}{w0:World}(hf:FOk ext m γ0 w0):ConOk Try.prog 1 γ0 w0 (cSum ext m) :=
 conS_ok hf (fun _ _=>by kernel_rfl) (fun l _=>⟨⟨(sP3_ok (sm3_lt (by have:=hf.big;omega) hf.lt l)).1,trivial⟩,rfl⟩) fun F b c l hl hn w hF hg=>by
  have g4:=gsum_any F m b c l hl hn w hF hg;rw[<- sm3_val,<- sP3_val _ fun _=>0]at g4;exact g4
def zP:SV:=sPk 0 0 false
def bsP(n:Nat)(zs:SV):Bs:=⟨78,n,26,9,zs⟩
theorem zP_ok:zP.ok:=⟨w0_ok,w0_ok,trivial,trivial⟩
theorem bsP1_ok:(bsP 1 (.ap zP .e)).Good Try.prog:=⟨Try.underlying78,by kernel_rfl,by kernel_rfl,rfl,⟨zP_ok,trivial⟩,by decide,by decide⟩
theorem bsP2_ok:(bsP 2 (.ap zP (.ap zP .e))).Good Try.prog:=⟨Try.underlying78,by kernel_rfl,by kernel_rfl,rfl,⟨zP_ok,zP_ok,trivial⟩,by decide,by decide⟩
theorem one_mem{α:Type}{P:α->Prop}{x:α}(h:P x):∀ y∈[x],P y:=fun y hy=>by
 simp only[List.mem_cons,List.not_mem_nil,or_false]at hy;subst hy;exact h
noncomputable def EP (bs:Bs):Env:=E1 (cPoints::cHold false mK::cSum false mK::cNone::cTurned false mK::[]) [bs]
theorem EP_ok{bs:Bs}{w:World}(hb:bs.Good Try.prog):(EP bs).Good (fun _=>0) w:=E1s_ok ⟨cPoints_ok,cHold_ok (fK w),cSum_ok (fK w),cNone_ok,cTurned_ok (fK w),trivial⟩ (one_mem hb)
end Sy
open Sy
theorem gon_any(x y:Nat)(n:Bool)(hx:x<2^256)(hy:y<2^256)(w:World):Calls Try.prog 18 #[.agg (pc x y n)] w fun r w'=>r=.returned (.bool (onB mK (x,y,n)))/\Below w.heap.size w w':=by
 refine calls_at (EP_ok bsP1_ok) (by kernel_rfl) (fun _=>0) Try.func18 (by kernel_rfl) [sP x y n] ⟨⟨⟨hx,hy,trivial,trivial⟩,rfl⟩,trivial⟩ (by kernel_rfl) (by kernel_rfl)
  (.leaf (.b ([(x,y,n)].all (onB mK)))) (by kernel_rfl) ?_
 show Value.bool ([(x,y,n)].all (onB mK))=_;simp
theorem gadd_any(x y xq yq:Nat)(n nq:Bool)(hx:x<2^256)(hy:y<2^256)(hxq:xq<2^256)(hyq:yq<2^256)(w:World):Calls Try.prog 9 #[.agg (pc x y n),.agg (pc xq yq nq)] w fun r w'=>r=.returned (.tuple #[.agg (if [(x,y,n),(xq,yq,nq)].all (onB mK)=true then gpo mK (gsm mK [(x,y,n),(xq,yq,nq)])else pc 0 0 true),.int .i64 (if [(x,y,n),(xq,yq,nq)].all (onB mK)=true then 0 else 81)])/\Below w.heap.size w w':=by
 refine calls_at (EP_ok bsP2_ok) (by kernel_rfl) (fun _=>0) Try.func9 (by kernel_rfl) [sP x y n,sP xq yq nq] ⟨⟨⟨hx,hy,trivial,trivial⟩,rfl⟩,⟨⟨hxq,hyq,trivial,trivial⟩,rfl⟩,trivial⟩ (by kernel_rfl) (by kernel_rfl)
  (.leaf (.tu (sP3 (sm3 mK [(x,y,n),(xq,yq,nq)])) (sIf ([(x,y,n),(xq,yq,nq)].all (onB mK))))) (by kernel_rfl) ?_
 rw[<- sm3_val,<- sP3_val _ fun _=>0];rfl
theorem gsame_any(x y xq yq:Nat)(n nq:Bool)(hx:x<2^256)(hy:y<2^256)(hxq:xq<2^256)(hyq:yq<2^256)(w:World):Calls Try.prog 11 #[.agg (pc x y n),.agg (pc xq yq nq)] w fun r w'=>r=.returned (.bool (if (n||nq)=true then n&&nq else decide (x=xq/\y=yq)))/\Below w.heap.size w w':=by
 refine calls_at (E1_ok (more:=[]) (γ0:=fun _=>0) trivial) (by kernel_rfl) (fun _=>0) Try.func11 (by kernel_rfl) [sP x y n,sP xq yq nq] ⟨⟨⟨hx,hy,trivial,trivial⟩,rfl⟩,⟨⟨hxq,hyq,trivial,trivial⟩,rfl⟩,trivial⟩ (by kernel_rfl) (by kernel_rfl)
  (.br (bif n then true else nq) (.leaf (.b (bif n then nq else false))) (.leaf (.b (bif eqN x xq then eqN y yq else false)))) (by kernel_rfl) ⟨fun h=>?_,fun h=>?_⟩
 ·cases n <;> cases nq <;> first | (cases h;done) | rfl
 ·cases n <;> cases nq <;> first | (cases h;done) | skip
  show Value.bool _=.bool _;rw[if_neg (by simp)];congr 1;rw[Bool.eq_iff_iff];simp[eqN]
theorem gbase_any(w:World):Calls Try.prog 17 #[] w fun r w'=>r=.returned (.agg (pc 55066263022277343669578718895168534326250603453777594175500187360389116729240 32670510020758816978083085130507043184471273380659243275938904335757337482424 false))/\Below w.heap.size w w' :=
 calls_at (E1_ok (more:=[]) (γ0:=fun _=>0) trivial) (by kernel_rfl) (fun _=>0) Try.func17 (by kernel_rfl) [] trivial (by kernel_rfl) (by kernel_rfl)
  (.leaf (sPk 55066263022277343669578718895168534326250603453777594175500187360389116729240 32670510020758816978083085130507043184471273380659243275938904335757337482424 false)) (by kernel_rfl) rfl
open Go.RowKit
theorem CRf.box{w:World}{G m lo sq:Nat}(h:RFat w G m lo sq)(a:Nat):CRf w G m lo sq [(w.heap.size,pw a)] (w.alloc (.cells (pw a) 24)):=(CRf.start h).new (pw a)
theorem rcube_any(G m a:Nat)(hal:a<m)(hm:m<2^256)(h7:7<m)(ho:m%2=1)(w:World)(hF:RFld w G m):Calls Try.prog 16 #[(.pointer (some ⟨G,0,none⟩)),.agg (pw a)] w fun r w'=>r=.returned (.agg (pw ((a*a%m*a%m+7)%m)))/\Below w.heap.size w w':=by
 have h1:1<m:=by omega
 obtain⟨lo,hll,hlo,hR⟩:=hF;obtain⟨sq,hsq⟩:∃ sq,2^256*2^256%m=sq:=⟨_,rfl⟩
 have HFL:=Lib.hid (show ∀ wx,RFat wx G m lo sq->RFld wx G m from fun wx h=>⟨lo,hll,hlo,by rw[hsq];exact h⟩);rw[hsq]at hR;have H0:=Lib.hid (CRf.one hR a);have HM1:=Lib.hid (fun wx (c:RFat wx G m lo sq)=>rmul_any G m a a hal hal hm h1 ho wx (HFL.out wx c));obtain⟨x,hx⟩:∃ x,a*a%m=x:=⟨_,rfl⟩
 have hxl:x<m:=by rw[<- hx];exact Nat.mod_lt _ (by omega)
 rw[hx]at HM1 |-
 have HM2:=Lib.hid (fun wx (c:RFat wx G m lo sq)=>rmul_any G m x a hxl hal hm h1 ho wx (HFL.out wx c));obtain⟨y,hy⟩:∃ y,x*a%m=y:=⟨_,rfl⟩
 have hyl:y<m:=by rw[<- hy];exact Nat.mod_lt _ (by omega)
 rw[hy]at HM2 |-
 have HAD:=Lib.hid (fun wx (c:RFat wx G m lo sq)=>radd_any G m lo sq y 7 hyl h7 hm wx c);obtain⟨z,hz⟩:∃ z,(y+7)%m=z:=⟨_,rfl⟩
 rw[hz]at HAD |-
 clear hsq hR hal hm h1 ho hll hlo h7 hx hxl hy hyl hz HFL;go_enter Try.func16,Try.ntmps16
 go_wp2_with fail
 refine region_quiet_tail 10 (CRf w G m lo sq [(w.heap.size+1,#[.int .u64 0,.int .u64 0,.int .u64 0,.int .u64 0]),(w.heap.size,pw a)]) (by kernel_rfl) (by kernel_rfl) (H0.out.drew) ?_;simp only[List.take_succ_cons,List.take_zero,List.drop_succ_cons,List.drop_zero]
 with_reducible refine q_val (.pointer (some ⟨G,0,none⟩)) (by kernel_rfl) (fun _ _=>by kernel_rfl) ?_
 with_reducible refine q_val (.pointer (some ⟨G,0,none⟩)) (by kernel_rfl) (fun _ _=>by kernel_rfl) ?_
 with_reducible refine q_val (.pointer (some ⟨G,0,none⟩)) (by kernel_rfl) (fun _ _=>by kernel_rfl) ?_
 with_reducible refine q_load 24 (.tmp 3) (.pointer (some ⟨w.heap.size,0,none⟩)) (.agg (pw a)) rfl (by kernel_rfl) (by kernel_rfl) (fun _ c=>ld_pw (c.is _ _ (by simp))) ?_
 with_reducible refine q_load 24 (.tmp 3) (.pointer (some ⟨w.heap.size,0,none⟩)) (.agg (pw a)) rfl (by kernel_rfl) (by kernel_rfl) (fun _ c=>ld_pw (c.is _ _ (by simp))) ?_
 with_reducible refine q_call 15 #[.pointer (some ⟨G,0,none⟩),.agg (pw a),.agg (pw a)] (.agg (pw x)) (by kernel_rfl) (fun _=>by kernel_rfl) (CRf.calls HM1.out) ?_
 with_reducible refine q_load 24 (.tmp 3) (.pointer (some ⟨w.heap.size,0,none⟩)) (.agg (pw a)) rfl (by kernel_rfl) (by kernel_rfl) (fun _ c=>ld_pw (c.is _ _ (by simp))) ?_
 with_reducible refine q_call 15 #[.pointer (some ⟨G,0,none⟩),.agg (pw x),.agg (pw a)] (.agg (pw y)) (by kernel_rfl) (fun _=>by kernel_rfl) (CRf.calls HM2.out) ?_
 with_reducible refine q_val (.agg (pw 7)) (by kernel_rfl) (fun _ _=>by kernel_rfl) ?_
 with_reducible refine q_call 30 #[.pointer (some ⟨G,0,none⟩),.agg (pw y),.agg (pw 7)] (.agg (pw z)) (by kernel_rfl) (fun _=>by kernel_rfl) (CRf.calls HAD.out) ?_
 with_reducible refine wpQuiet_nil ?_
 intro wx hC;have HC:=Lib.hid hC;clear hC H0 HM1 HM2 HAD;simp only[Act.put,List.setIfInBounds_toArray,List.set_cons_succ,List.set_cons_zero]
 go_wp2_with (refine wpList_store_row rfl 24 _ _ rfl (w.heap.size+1) (pw z) rfl rfl 24 (#[.int .u64 0,.int .u64 0,.int .u64 0,.int .u64 0]) (by exact HC.out.is _ _ (by simp)) (by rw[pw_size];exact infoW4) (by first | rfl | (rw[pw_size];rfl) | (rw[pw_size,pw_size])) (pw_one _) ?_)
 (try simp only[Act.put])
 refine bodyPost_ret (v:=.agg (pw z)) (results_cell_row (p:=4) rfl _ _ (w.heap.size+1) 24 (pw z) (0,0) _ rfl (setRow_heap _ _ _ _ _ _ (by exact HC.out.is _ (#[.int .u64 0,.int .u64 0,.int .u64 0,.int .u64 0]) (by simp))) Try.underlying24 rfl (by rw[pw_size];exact infoW4)) rfl ⟨rfl,below_setRow HC.out.old (by omega) _⟩
theorem rbelow_any(G m a:Nat)(ha:a<2^256)(hm:m<2^256)(h0:0<m)(w:World)(hF:RFld w G m):Calls Try.prog 14 #[(.pointer (some ⟨G,0,none⟩)),.agg (pw a)] w fun r w'=>r=.returned (.bool (decide (a<m)))/\Below w.heap.size w w':=by
 obtain⟨lo,hll,hlo,hR⟩:=hF;obtain⟨sq,hsq⟩:∃ sq,2^256*2^256%m=sq:=⟨_,rfl⟩
 rw[hsq]at hR;have H0:=Lib.hid (CRf.box hR a);have HOF:=Lib.hid (fun wx (c:RFat wx G m lo sq)=>rof_any G m lo sq a ha h0 hm wx c);have HD:decide (a%m=a)=decide (a<m):=by
  rw[decide_eq_decide];exact⟨fun h=>by rw[<- h];exact Nat.mod_lt _ h0,fun h=>Nat.mod_eq_of_lt h⟩
 have HEQ:=Lib.hid (fun wx=>eqw_run (a%m) a (Nat.lt_trans (Nat.mod_lt _ h0) hm) ha wx);rw[HD]at HEQ;obtain⟨x,hx⟩:∃ x,a%m=x:=⟨_,rfl⟩
 obtain⟨b,hb⟩:∃ b,decide (a<m)=b:=⟨_,rfl⟩
 rw[hx]at HOF HEQ;rw[hb]at HEQ |-
 clear hsq hR ha hm h0 hll hlo hx hb HD;go_enter Try.func14,Try.ntmps14
 go_wp2_with fail
 refine wp_region_quiet (C:=CRf w G m lo sq [(w.heap.size,pw a)]) (by kernel_rfl) (by kernel_rfl) (H0.out.drew) ?_;simp only
 with_reducible refine q_val (.pointer (some ⟨G,0,none⟩)) (by kernel_rfl) (fun _ _=>by kernel_rfl) ?_
 with_reducible refine q_load 24 (.tmp 3) (.pointer (some ⟨w.heap.size,0,none⟩)) (.agg (pw a)) rfl (by kernel_rfl) (by kernel_rfl) (fun _ c=>ld_pw (c.is _ _ (by simp))) ?_
 with_reducible refine q_call 28 #[.pointer (some ⟨G,0,none⟩),.agg (pw a)] (.agg (pw x)) (by kernel_rfl) (fun _=>by kernel_rfl) (CRf.calls HOF.out) ?_
 with_reducible refine q_load 24 (.tmp 3) (.pointer (some ⟨w.heap.size,0,none⟩)) (.agg (pw a)) rfl (by kernel_rfl) (by kernel_rfl) (fun _ c=>ld_pw (c.is _ _ (by simp))) ?_
 with_reducible refine q_bin .eql 24 _ _ 24 (.agg (pw x)) (.agg (pw a)) (.bool b) rfl (by kernel_rfl) (by kernel_rfl) (by kernel_rfl) (fun _=>by kernel_rfl) (fun w'=>HEQ.out w') ?_
 with_reducible refine q_val (.bool b) (by kernel_rfl) (fun _ _=>by kernel_rfl) ?_
 with_reducible refine wpQuiet_nil ?_
 intro wx hC;have HC:=Lib.hid hC;clear hC H0 HOF HEQ;simp only[Act.put,List.setIfInBounds_toArray,List.set_cons_succ,List.set_cons_zero]
 go_wp2_with fail
 go_ret;exact⟨rfl,HC.out.old⟩
open Go.RowKit
namespace Sy
def sRF(m lo:Nat):SV:=let r:Nat->SV:=fun j=>.i .u64 (rfw m lo (2^256*2^256%m) j:Nat)
 .ap (r 0) (.ap (r 1) (.ap (r 2) (.ap (r 3) (.ap (r 4) (.ap (r 5) (.ap (r 6) (.ap (r 7) (.ap (r 8) (.ap (r 9) (.ap (r 10) (.ap (r 11) (.ap (r 12) (.ap (r 13) (.ap (r 14) (.ap (r 15) (.ap (r 16) .e))))))))))))))))
def isR(ext:Bool)(m lo:Nat)(M:Rows):SV->Option (List Ob)
 | .p g o _ z=>if o=0/\z=0 then (if ext=true then (if g=0 then some []else none)else match rowIn g M with
  | some (c,T)=>if T=63 then some [.eq c (sRF m lo)]else none
  | none=>none)else none
 | _=>none
structure ROk (ext:Bool) (m lo:Nat) (γ0:Pl) (w0:World):Prop where
 odd:m%2=1
 big:1<m
 lt:m<2^256
 at_:ext=true->RFld w0 (γ0 0) m
 low:ext=false->lo<4294967296/\(lo*qN m 0+1)%4294967296=0
theorem isR_at{ext:Bool}{m lo n:Nat}{M:Rows}{x:SV}{p:List Ob}{γ0 γ:Pl}{w0 wx:World}(h:isR ext m lo M x=some p)(hp:All p)(hf:ROk ext m lo γ0 w0)(hγ:∀ k,k<1->γ k=γ0 k)(hw:Below w0.heap.size w0 wx)(hL:Lies γ n M wx):∃ F,x.val γ=.pointer (some ⟨F,0,none⟩)/\RFld wx F m:=by
 cases x <;> first | (cases h;done) | skip
 rename_i g o j z;dsimp only[isR]at h
 split at h
 ·rename_i hz
  obtain⟨rfl,rfl⟩:=hz;refine⟨γ g,by simp[SV.val,SV.sc],?_⟩
  split at h
  ·rename_i he
   split at h
   ·rename_i hg
    rw[hg,hγ 0 (by decide)];exact(hf.at_ he).below hw
   ·cases h
  ·rename_i he
   split at h
   ·rename_i c T hr
    split at h
    ·rename_i hT
     cases h;have hc:c=sRF m lo:=hp _ (.head _);have:=(hL _ (rowIn_ok hr)).1;rw[hc,hT]at this;have hl:=hf.low (by simpa using he);exact⟨lo,hl.1,hl.2,this⟩
    ·cases h
   ·cases h
 ·cases h
def conR(ext:Bool)(m lo:Nat)(f:FuncId)(g:List SV->Option (SV × List Ob)):Con:=⟨f,fun _ M l=>match l with
 | x::us=>match isR ext m lo M x,g us with
  | some p,some (r,q)=>some (r,q++p,[])
  | _,_=>none
 | _=>none⟩
theorem conR_ok{P:Program}{ext:Bool}{m lo:Nat}{γ0:Pl}{w0:World}{f:FuncId}{g:List SV->Option (SV × List Ob)}(hf:ROk ext m lo γ0 w0)(hc:∀ as_ wx,(callFunc f as_).run P wx=.ok (.enter f as_) wx)
  (h:∀ us r q,g us=some (r,q)->All q->(∀ x∈us,x.ok)->r.ok/\r.lt 0=true/\∀ γ F w,RFld w F m->Calls P f (.pointer (some ⟨F,0,none⟩)::us.map (·.val γ)).toArray w fun e w'=>e=.returned (r.val γ)/\Below w.heap.size w w'):ConOk P 1 γ0 w0 (conR ext m lo f g) :=
 .of hc fun n M l r p R hr hp hok=>by
  unfold conR at hr;dsimp only at hr
  split at hr
  ·rename_i x us
   split at hr
   ·rename_i p' r' q hx hq
    cases hr;obtain⟨g1,g2,g3⟩:=h us r q hq (fun a ha=>hp a (List.mem_append_left _ ha)) fun x hx=>hok x (.tail _ hx);refine⟨rfl,g1,g2,?_⟩;intro γ hγ wx hw hL;obtain⟨F,h1,h2⟩:=isR_at hx (fun a ha=>hp a (List.mem_append_right _ ha)) hf hγ hw hL;have g4:=g3 γ F wx h2;rw[<- h1]at g4;exact g4
   ·cases hr
  ·cases hr
def ref2(ext:Bool)(m lo:Nat)(f:FuncId)(op:Nat->Nat->Nat):Con:=conR ext m lo f fun l=>match l with
 | [.w a,.w b]=>some (.w (op a b),[])
 | _=>none
def ref1(ext:Bool)(m lo:Nat)(f:FuncId)(op:Nat->SV × List Ob):Con:=conR ext m lo f fun l=>match l with
 | [.w a]=>some (op a)
 | _=>none
theorem ref2_ok{P:Program}{ext:Bool}{m lo:Nat}{γ0:Pl}{w0:World}{f:FuncId}{op:Nat->Nat->Nat}(hf:ROk ext m lo γ0 w0)(hc:∀ as_ wx,(callFunc f as_).run P wx=.ok (.enter f as_) wx)(hlt:∀ a b,op a b<2^256)
  (h:∀ F a b,a<2^256->b<2^256->∀ w,RFld w F m->Calls P f #[.pointer (some ⟨F,0,none⟩),.agg (pw a),.agg (pw b)] w fun e w'=>e=.returned (.agg (pw (op a b)))/\Below w.heap.size w w'):ConOk P 1 γ0 w0 (ref2 ext m lo f op) :=
 conR_ok hf hc fun us r q hr hq hok=>by
  split at hr
  ·rename_i a b
   cases hr;exact⟨hlt a b,rfl,fun γ F w hF=>h F a b (hok (.w a) (by simp)) (hok (.w b) (by simp)) w hF⟩
  ·cases hr
theorem ref1_ok{P:Program}{ext:Bool}{m lo:Nat}{γ0:Pl}{w0:World}{f:FuncId}{op:Nat->SV × List Ob}(hf:ROk ext m lo γ0 w0)(hc:∀ as_ wx,(callFunc f as_).run P wx=.ok (.enter f as_) wx)(hlt:∀ a,(op a).1.ok/\(op a).1.lt 0=true)
  (h:∀ F a,a<2^256->All (op a).2->∀ w,RFld w F m->Calls P f #[.pointer (some ⟨F,0,none⟩),.agg (pw a)] w fun e w'=>e=.returned ((op a).1.val fun _=>0)/\Below w.heap.size w w'):ConOk P 1 γ0 w0 (ref1 ext m lo f op) :=
 conR_ok hf hc fun us r q hr hq hok=>by
  split at hr
  ·rename_i a
   have e:op a=(r,q):=Option.some.inj hr;have g1:=hlt a;have g2:=h;rw[e]at g1;refine⟨g1.1,g1.2,fun γ F w hF=>?_⟩;have g4:=h F a (hok (.w a) (by simp)) (by rw[e];exact hq) w hF;rw[e,<- val0 (γ:=γ) g1.2]at g4;exact g4
  ·cases hr
def cMulR(ext:Bool)(m lo:Nat):Con:=ref2 ext m lo 15 fun a b=>a*b%m
def cAddR(ext:Bool)(m lo:Nat):Con:=ref2 ext m lo 30 (rA m)
def cBelowR(ext:Bool)(m lo:Nat):Con:=ref1 ext m lo 14 fun a=>(.b (ltN a m),[])
def cCubeR(ext:Bool)(m lo:Nat):Con:=ref1 ext m lo 16 fun a=>(.w ((a*a%m*a%m+7)%m),[.ask (a<m/\7<m)])
def refs(ext:Bool)(m lo:Nat):List Con:=[cMulR ext m lo,cAddR ext m lo,cBelowR ext m lo,cCubeR ext m lo]
theorem refs_ok{ext:Bool}{m lo:Nat}{γ0:Pl}{w0:World}(hf:ROk ext m lo γ0 w0):conAll Try.prog 1 γ0 w0 (refs ext m lo):=by
 have hm:∀ n,n%m<2^256:=fun n=>Nat.lt_trans (Nat.mod_lt _ (by have:=hf.big;omega)) hf.lt;have h0:0<m:=by have:=hf.big;omega
 refine⟨ref2_ok hf (fun _ _=>by kernel_rfl) (fun _ _=>hm _) fun F a b ha hb w hF=>rmul_w F m a b ha hb hf.lt hf.big hf.odd w hF,ref2_ok hf (fun _ _=>by kernel_rfl) (fun a b=>rA_lt m a b) fun F a b ha hb w hF=>?_,
  ref1_ok hf (fun _ _=>by kernel_rfl) (fun a=>⟨trivial,rfl⟩) fun F a ha _ w hF=>rbelow_any F m a ha hf.lt h0 w hF,ref1_ok hf (fun _ _=>by kernel_rfl) (fun a=>⟨hm _,rfl⟩) fun F a _ hq w hF=>?_,trivial⟩
 ·obtain⟨lo',_,_,h⟩:=hF
  exact radd_w F m lo' _ a b ha hb hf.lt w h
 ·have h7:a<m/\7<m:=hq _ (.head _)
  exact rcube_any F m a h7.1 hf.lt h7.2 hf.odd w hF
abbrev loK:Nat:=3525653809
theorem rK(w:World):ROk false mK loK (fun _=>0) w:=⟨by decide,by decide,by decide,fun h=>(by cases h),fun _=>⟨by decide,by kernel_rfl⟩⟩
theorem lo_gen{lo q:Nat}(hq:q=4294966319)(h1:lo<4294967296)(h2:(lo*q+1)%4294967296=0):lo=3525653809:=by
 subst hq;have e:(lo*4294966319+1)*3525653809+lo=4294967296*(3525653007*lo)+3525653809:=by omega
 have hY:lo*4294966319+1=4294967296*((lo*4294966319+1) / 4294967296):=by have:=Nat.div_add_mod (lo*4294966319+1) 4294967296;rw[h2,Nat.add_zero]at this;exact this.symm
 rw[hY,Nat.mul_assoc]at e;generalize (lo*4294966319+1) / 4294967296*3525653809=P at e;generalize 3525653007*lo=Q at e;clear h2 hY;omega
theorem lo_is{lo:Nat}(h1:lo<4294967296)(h2:(lo*qN mK 0+1)%4294967296=0):lo=loK:=lo_gen (by kernel_rfl) h1 h2
def cF:Con:=⟨13,fun n _ l=>match l with
 | []=>some (.p n 0 0 0,[],[(n,sRF mK loK,63)])
 | _=>none⟩
theorem cF_ok{γ0:Pl}{w0:World}:ConOk Try.prog 1 γ0 w0 cF:=⟨fun _ _=>by kernel_rfl,fun n M l r p R hr hp hn hok _=>by
 simp only[cF]at hr
 split at hr
 ·cases hr
  refine⟨trivial,decide_eq_true (Nat.lt_succ_self _),fun q hq=>?_,fun γ hγ wx hw hL=>?_⟩
  ·simp only[List.mem_cons,List.not_mem_nil,or_false]at hq
   subst hq;exact⟨⟨trivial,trivial,trivial,trivial,trivial,trivial,trivial,trivial,trivial,trivial,trivial,trivial,trivial,trivial,trivial,trivial,trivial,trivial⟩,rfl,Nat.le_refl _,Nat.lt_succ_self _⟩
  ·refine(rF_any wx).mono fun e w' ⟨F,h1,⟨lo,l1,l2,h2⟩,h3,h4⟩=>?_
   have hlo:=lo_is l1 l2;subst hlo;obtain⟨δ,hδ⟩:∃ δ:Pl,∀ k,δ k=if k=n then F else γ k:=⟨_,fun _=>rfl⟩
   refine⟨⟨δ,fun k hk=>by rw[hδ,if_neg (by omega)],?_,fun q hq=>?_,List.pairwise_singleton _ _⟩,h4⟩
   ·rw[h1]
    show _=Ending.returned (.pointer (some ⟨δ n,0+0*0,none⟩));rw[hδ,if_pos rfl]
   ·simp only[List.mem_cons,List.not_mem_nil,or_false]at hq
    subst hq;refine⟨by rw[hδ,if_pos rfl];exact h3,?_⟩;show w'.heap[δ n]?=_;rw[hδ,if_pos rfl];exact h2
 ·cases hr⟩
end Sy
open Sy
namespace Sy
noncomputable def ER:Env:=E1 (cF::refs false mK loK)
theorem ER_ok{w:World}:ER.Good (fun _=>0) w:=E1_ok ⟨cF_ok,refs_ok (rK w)⟩
end Sy
theorem ron_any(x y:Nat)(n:Bool)(hx:x<2^256)(hy:y<2^256)(w:World):Calls Try.prog 5 #[.agg (pc x y n)] w fun r w'=>r=.returned (.bool (onB mK (x,y,n)))/\Below w.heap.size w w':=by
 let b:=bif ltN x mK then ltN y mK else false
 refine calls_at ER_ok (by kernel_rfl) (fun _=>0) Try.func5 (by kernel_rfl) [sP x y n] ⟨⟨⟨hx,hy,trivial,trivial⟩,rfl⟩,trivial⟩ (by kernel_rfl) (by kernel_rfl)
  (.need ((!n&&b)=true->x<mK/\7<mK) (.leaf (.b (bif n then true else bif b then eqN (y*y%mK) ((x*x%mK*x%mK+7)%mK)else false)))) (by kernel_rfl) ⟨fun h=>?_,?_⟩
 ·refine⟨?_,by decide⟩
  cases hl:ltN x mK with
  | true=>exact of_decide_eq_true hl
  | false =>
   have h:(!n&&(bif ltN x mK then ltN y mK else false))=true:=h;rw[hl]at h;cases n <;> cases h
 ·show Value.bool (bif n then true else bif (bif ltN x mK then ltN y mK else false)then eqN (y*y%mK) ((x*x%mK*x%mK+7)%mK)else false)=.bool (n||_)
  congr 1;cases n with
  | true=>rfl
  | false =>
   rw[Bool.eq_iff_iff];simp[ltN,eqN,and_assoc]
end Go.Proofs.Ytphafjbajlcbnaa
