/- What the document's Len, Is, Order come to. (Cut to what is reached, written closely: IsDec · Append · Parse · RParse · RBs · PrLn.) -/
import Derived.Test.YtadfjjfklihaaaaGreatP2
import Derived.BigQuiet
import Derived.WalkKit
import Derived.Laws.Strings
import Derived.Test.YtadfjjfklihaaaaGreatP3
import Derived.Test.YtadfjjfklihaaaaGreatP7
import Derived.BigRegion
import Derived.IntWalk
import Derived.Test.YtadfjjfklihaaaaGreatP13
import Derived.Test.YtadfjjfklihaaaaGreatP1
import Derived.Test.YtadfjjfklihaaaaGreatQ35
import Derived.Test.YtadfjjfklihaaaaGreatQ31
set_option linter.all false
set_option maxRecDepth 100000
set_option maxHeartbeats 8000000
namespace Go.Proofs.YtadfjjfklihaaaaGreat
open Go.RowKit
def dnum(f:Nat->Nat):Nat->Nat
 | 0=>0
 | n+1=>dnum f n*10+f n
def ParsePost(V:Nat)(w:World)(e:Ending)(w':World):Prop:=e=.returned (if V<115792089237316195423570985008687907853269984665640564039457584007913129639936 then .tuple #[.agg (pw V),.int .i64 0]else .tuple #[.agg #[.int .u64 0,.int .u64 0,.int .u64 0,.int .u64 0],.int .i64 2])/\Below w.heap.size w w'
theorem results_ct{fn:Func}{p q:Tmp}(h:fn.results=#[.cell p 24,.tmp q])(tmps:Array Value)(w:World)(g:Nat)(cs:Array Value)(v:Value)
  (hp:tmps.getD p undef=.pointer (some ⟨g,0,none⟩)) (hq:tmps.getD q undef=v) (hg:w.heap[g]?=some (.cells cs 24 (0,0))) (hi:(Tryz.prog.info? 24).map (·.size)=some cs.size) :
  (results fn tmps).run Tryz.prog w=.ok (.tuple #[.agg cs,v]) w:=by
 have hp':tmps[p]?.getD undef=.pointer (some ⟨g,0,none⟩):=by simpa using hp
 have hq':tmps[q]?.getD undef=v:=by simpa using hq
 simp[results,h,hp',hq',asAddr,run_loadVar_row w g 24 24 cs (0,0) _ hg Tryz.underlying24 rfl hi]
open Go.RowKit
theorem ds_one(w:World)(x:Nat)(hx:x<65536):DS 1 x (.slice (some ⟨w.heap.size,0,none⟩) 1 1) (w.alloc (.cells #[.int .u64 (x:Nat)] 22)) :=
 ⟨w.heap.size,1,fun _=>x,rfl,dg_one w x,fun _ _=>hx,by simp[vd]⟩
theorem sum_dsl{n m A B:Nat}{a b:Value}{w:World}(hn:n<=1000)(hm:m<=1000)(ha:DS n A a w)(hb:DS m B b w):Calls Tryz.prog 81 #[a,b] w fun e w'=>∃ v,e=.returned v/\Below w.heap.size w w'/\DS (max n m+1) (A+B) v w':=by
 obtain⟨ba,ca,da,rfl,hA,hal,rfl⟩:=ha;obtain⟨bb,cb,db,rfl,hB,hbl,rfl⟩:=hb;exact(sum_any ba ca bb cb n m da db (by omega) (by omega) hal hbl w hA hB).mono fun _ _ h=>mk_ds h
theorem product_dsl{n m A B:Nat}{a b:Value}{w:World}(hn:n<=1000)(hm:m<=1000)(ha:DS n A a w)(hb:DS m B b w):Calls Tryz.prog 82 #[a,b] w fun e w'=>∃ v,e=.returned v/\Below w.heap.size w w'/\DS (n+m) (A*B) v w':=by
 obtain⟨ba,ca,da,rfl,hA,hal,rfl⟩:=ha;obtain⟨bb,cb,db,rfl,hB,hbl,rfl⟩:=hb;exact(product_digits ba ca bb cb n m da db (by omega) (by omega) hal hbl w hA hB).mono fun _ _ h=>mk_ds h
theorem w16:65536^16=115792089237316195423570985008687907853269984665640564039457584007913129639936:=by rfl
structure CQ (w:World) (n V:Nat) (v:Value) (wx:World):Prop where
 old:Below w.heap.size w wx
 r0:wx.heap[w.heap.size]?=some (.cells #[.int .u64 0,.int .u64 0,.int .u64 0,.int .u64 0] 24 (0,0))
 ds:DS n V v wx
theorem CQ.below{w wx w':World}{n V:Nat}{v:Value}(h:CQ w n V v wx)(hb:Below wx.heap.size wx w'):CQ w n V v w' :=
 ⟨h.old.trans (hb.mono h.old.size),(hb.block _ (Array.getElem?_eq_some_iff.1 h.r0).1).trans h.r0,h.ds.keep (RN.of hb)⟩
theorem CQ.drew{w wx:World}{n V:Nat}{v:Value}(h:CQ w n V v wx):CQ w n V v wx.drew:=⟨h.old.drew,h.r0,h.ds⟩
theorem rparse_walk(s:ByteArray)(f:Nat->Nat)(w:World)(h0:0<s.size)(hn:s.size<=78)(hlead:1<s.size->¬((s[0]'h0).toNat:Int)=48)(hf:∀ j (hj:j<s.size),s[j].toNat=f j+48/\f j<=9) :
  Calls Tryz.prog 46 #[.string s] w (ParsePost (dnum f s.size) w):=by
 have e3:(s.size:Int)<=78:=by omega
 have e0:¬(s.size:Int)=0:=by omega
 have e4:¬s=ByteArray.empty:=fun h=>by rw[h]at h0;exact absurd h0 (by decide)
 have e5:((s.size:Int) == 0)=false:=by rw[beq_eq_false_iff_ne];exact e0
 have HF:=Lib.hid hf;clear hf;by_cases h1:1<s.size
 ·have hz:=hlead h1
  have e1:(1:Int)<s.size:=by omega
  have e6:(((s[0]'h0).toNat:Int) == 48)=false:=by rw[beq_eq_false_iff_ne];exact hz
  clear hlead;go_enter Tryz.func46,Tryz.ntmps46
  go_wp2_with fail
  go_loopw [4,5] (fun v iv wr=>∃ k:Nat,k<=s.size/\iv=.int .i64 k/\Hid (CQ w (2*k) (dnum f k) v wr)) (fun _ iv _=>s.size - (intOf iv).toNat)
  case atStart=>exact⟨0,by omega,rfl,Lib.hid ⟨by go_grown,(heap2 _ _ _).1,⟨_,_,fun _=>0,rfl,⟨by simp,fun j hj=>by omega⟩,fun j hj=>by omega,rfl⟩⟩⟩
  case round =>
   obtain⟨k,hk,rfl,H⟩:=hrel;have hk0:(0:Int)<=k:=by omega
   have hk1:(k:Int)<=78:=by omega
   by_cases hlt:k<s.size
   ·have hki:(k:Int)<s.size:=by omega
    obtain⟨d1,d2⟩:=HF.out k hlt;obtain⟨d,hd⟩:∃ d,f k=d:=⟨_,rfl⟩
    rw[hd]at d1 d2;have hb1:¬((s[k].toNat:Nat):Int)<48:=by omega
    have hb2:¬(57:Int)<((s[k].toNat:Nat):Int):=by omega
    have hb3:((s[k].toNat:Nat):Int) - 48=(d:Int):=by omega
    have hw8:IntKind.u8.wrap (d:Int)=(d:Int):=by rw[IntKind.wrap_u8];omega
    have hw64:IntKind.u64.wrap (d:Int)=(d:Int):=by rw[IntKind.wrap_u64];omega
    have hnx:dnum f (k+1)=dnum f k*10+d:=by rw[dnum,hd]
    have HNX:=Lib.hid hnx;clear hnx hd d1;have HD9:=Lib.hid d2;clear d2;have hix:∀ w,(Instr.index 9 (.string s) (.int .i64 k)).run Tryz.prog w=.ok (.int .u8 (s[k].toNat:Nat)) w:=fun w=>by go_simp
    have hsb:∀ w,(binOp BinOp.sub 5 (.int .u8 (s[k].toNat:Nat)) (.int .u8 48)).run Tryz.prog w=.ok (.int .u8 (d:Nat)) w:=fun w=>by go_simp
    have hcv:∀ w,(convert 5 22 (.int .u8 (d:Nat))).run Tryz.prog w=.ok (.int .u64 (d:Nat)) w:=fun w=>by go_simp
    have hmx:max (2*k+1) 1+1=2*(k+1):=by omega
    have HIX:=Lib.hid hix;clear hix;have HSB:=Lib.hid hsb;clear hsb;have HCV:=Lib.hid hcv;clear hcv;have HMX:=Lib.hid hmx;clear hmx
    go_wp2_with fail
    refine region_tie3 (CQ w (2*k) (dnum f k) u4) (fun i sl wx=>match i with | 0=>sl 44=u4 | 1=>DS 1 10 (sl 45) wx | 2=>DS (2*k+1) (dnum f k*10) (sl 46) wx | 3=>sl 47=.string s | 4=>sl 48=.int .i64 k | 5=>sl 49=.int .u8 (s[k].toNat:Nat) | 6=>sl 50=.int .u8 (d:Nat) | 7=>sl 51=.int .u64 (d:Nat) | 8=>DS 1 d (sl 52) wx | 9=>DS (2*(k+1)) (dnum f k*10+d) (sl 53) wx | 10=>DS (2*(k+1)) (dnum f k*10+d) (sl 4) wx | _=>True) RN (fun i=>match i with | 0=>[44] | 1=>[45] | 2=>[46] | 3=>[47] | 4=>[48] | 5=>[49] | 6=>[50] | 7=>[51] | 8=>[52] | 9=>[53] | 10=>[4] | _=>[]) (fun i=>i) (by kernel_rfl) (by kernel_rfl) H.out.drew ?_ ?_ ?_ ?_
    ·intro i sl sl' wx he hp
     match i,he,hp with
     | 0,he,hp=>exact(he 44 (by simp)).symm.trans hp
     | 1,he,hp=>have h:=he 45 (by simp);rw[h]at hp;exact hp
     | 2,he,hp=>have h:=he 46 (by simp);rw[h]at hp;exact hp
     | 3,he,hp=>exact(he 47 (by simp)).symm.trans hp
     | 4,he,hp=>exact(he 48 (by simp)).symm.trans hp
     | 5,he,hp=>exact(he 49 (by simp)).symm.trans hp
     | 6,he,hp=>exact(he 50 (by simp)).symm.trans hp
     | 7,he,hp=>exact(he 51 (by simp)).symm.trans hp
     | 8,he,hp=>have h:=he 52 (by simp);rw[h]at hp;exact hp
     | 9,he,hp=>have h:=he 53 (by simp);rw[h]at hp;exact hp
     | 10,he,hp=>have h:=he 4 (by simp);rw[h]at hp;exact hp
     | _+11,_,_=>trivial
    ·intro i sl wa wb hR hp
     match i,hp with
     | 0,hp=>exact hp
     | 1,hp=>exact hp.keep hR
     | 2,hp=>exact hp.keep hR
     | 3,hp=>exact hp
     | 4,hp=>exact hp
     | 5,hp=>exact hp
     | 6,hp=>exact hp
     | 7,hp=>exact hp
     | 8,hp=>exact hp.keep hR
     | 9,hp=>exact hp.keep hR
     | 10,hp=>exact hp.keep hR
     | _+11,_=>trivial
    ·refine⟨?_,?_,?_,?_,?_,?_,?_,?_,?_,?_,?_,trivial⟩
     ·intro a wx hC hsz hK
      exact vv_val u4 (by kernel_rfl) (by rw[<- show a.tmps.getD 4 undef=u4 from hK.1 4 (by kernel_rfl)];kernel_rfl) hC (slots_put _ _ _ (by rw[hsz];exact of_decide_eq_true (by kernel_rfl))) (RN.refl _)
     ·intro a wx hC hsz hK
      have hb:Below wx.heap.size wx (wx.alloc (.cells #[.int .u64 (10:Nat)] 22)):=(Below.refl _ _).alloc (Nat.le_refl _) _;refine vv_v (Instr.buildSlice 126 1 #[(0,.int .u64 10)]) (.slice (some ⟨wx.heap.size,0,none⟩) 1 1) (by kernel_rfl) (by kernel_rfl) (w':=wx.alloc (.cells #[.int .u64 (10:Nat)] 22)) (by kernel_rfl) (hC.below hb) ?_ (RN.of hb);show DS 1 10 _ _;rw[slots_put _ _ _ (by rw[hsz];exact of_decide_eq_true (by kernel_rfl))];exact ds_one wx 10 (by omega)
     ·intro a wx hC hsz hK
      have h0:a.tmps.getD 44 undef=u4:=hK.2 ⟨0,.data⟩ (by simp) rfl _ rfl;have h1:=hK.2 ⟨1,.data⟩ (by simp) rfl _ rfl;refine vv_call 82 #[a.tmps.getD 44 undef,a.tmps.getD 45 undef] (by kernel_rfl) (by kernel_rfl) ?_;rw[h0];refine Calls.mono (product_dsl (by omega) (by omega) hC.ds h1) ?_;rintro e w' ⟨v,rfl,hb,hv⟩;exact⟨v,rfl,hC.below hb,(by rw[slots_put _ _ _ (by rw[hsz];exact of_decide_eq_true (by kernel_rfl))];exact hv),RN.of hb⟩
     ·intro a wx hC hsz hK
      exact vv_val (.string s) (by kernel_rfl) (by rw[<- show a.tmps.getD 0 undef=.string s from hK.1 0 (by kernel_rfl)];kernel_rfl) hC (slots_put _ _ _ (by rw[hsz];exact of_decide_eq_true (by kernel_rfl))) (RN.refl _)
     ·intro a wx hC hsz hK
      exact vv_val (.int .i64 k) (by kernel_rfl) (by rw[<- show a.tmps.getD 5 undef=.int .i64 k from hK.1 5 (by kernel_rfl)];kernel_rfl) hC (slots_put _ _ _ (by rw[hsz];exact of_decide_eq_true (by kernel_rfl))) (RN.refl _)
     ·intro a wx hC hsz hK
      have h0:a.tmps.getD 47 undef=.string s:=hK.2 ⟨3,.data⟩ (by simp) rfl _ rfl;have h1:a.tmps.getD 48 undef=.int .i64 k:=hK.2 ⟨4,.data⟩ (by simp) rfl _ rfl;refine vv_v (Instr.index 9 (a.tmps.getD 47 undef) (a.tmps.getD 48 undef)) (.int .u8 (s[k].toNat:Nat)) (by kernel_rfl) rfl ?_ hC (slots_put _ _ _ (by rw[hsz];exact of_decide_eq_true (by kernel_rfl))) (RN.refl _);rw[h0,h1];exact HIX.out wx
     ·intro a wx hC hsz hK
      have h0:a.tmps.getD 49 undef=.int .u8 (s[k].toNat:Nat):=hK.2 ⟨5,.data⟩ (by simp) rfl _ rfl;refine vv_v (do eqGuard .sub 5 (.tmp 49) (.const (.int .u8 48)) (a.tmps.getD 49 undef) (.int .u8 48);binOp .sub 5 (a.tmps.getD 49 undef) (.int .u8 48)) (.int .u8 (d:Nat)) (by kernel_rfl) rfl ?_ hC (slots_put _ _ _ (by rw[hsz];exact of_decide_eq_true (by kernel_rfl))) (RN.refl _);rw[h0];have hg:(eqGuard .sub 5 (.tmp 49) (.const (.int .u8 48)) (.int .u8 (s[k].toNat:Nat)) (.int .u8 48)).run Tryz.prog wx=.ok () wx:=by kernel_rfl
      simp only[Sem.run_bind,hg,HSB.out wx,Result.andThen_ok]
     ·intro a wx hC hsz hK
      have h0:a.tmps.getD 50 undef=.int .u8 (d:Nat):=hK.2 ⟨6,.data⟩ (by simp) rfl _ rfl;refine vv_v (convert 5 22 (a.tmps.getD 50 undef)) (.int .u64 (d:Nat)) (by kernel_rfl) rfl ?_ hC (slots_put _ _ _ (by rw[hsz];exact of_decide_eq_true (by kernel_rfl))) (RN.refl _);rw[h0];exact HCV.out wx
     ·intro a wx hC hsz hK
      have h0:a.tmps.getD 51 undef=.int .u64 (d:Nat):=hK.2 ⟨7,.data⟩ (by simp) rfl _ rfl;have hb:Below wx.heap.size wx (wx.alloc (.cells #[.int .u64 (d:Nat)] 22)):=(Below.refl _ _).alloc (Nat.le_refl _) _;refine vv_v (Instr.buildSlice 126 1 #[(0,a.tmps.getD 51 undef)]) (.slice (some ⟨wx.heap.size,0,none⟩) 1 1) (by kernel_rfl) (by kernel_rfl) (w':=wx.alloc (.cells #[.int .u64 (d:Nat)] 22)) (by rw[h0];kernel_rfl) (hC.below hb) ?_ (RN.of hb);show DS 1 d _ _;rw[slots_put _ _ _ (by rw[hsz];exact of_decide_eq_true (by kernel_rfl))];exact ds_one wx d (by have:=HD9.out;omega)
     ·intro a wx hC hsz hK
      have h0:=hK.2 ⟨2,.data⟩ (by simp) rfl _ rfl;have h1:=hK.2 ⟨8,.data⟩ (by simp) rfl _ rfl;refine vv_call 81 #[a.tmps.getD 46 undef,a.tmps.getD 52 undef] (by kernel_rfl) (by kernel_rfl) ?_;have hs:=sum_dsl (w:=wx) (by omega) (by omega) h0 h1;rw[HMX.out]at hs;refine Calls.mono hs ?_;rintro e w' ⟨v,rfl,hb,hv⟩;exact⟨v,rfl,hC.below hb,(by rw[slots_put _ _ _ (by rw[hsz];exact of_decide_eq_true (by kernel_rfl))];exact hv),RN.of hb⟩
     ·intro a wx hC hsz hK
      have h0:=hK.2 ⟨9,.data⟩ (by simp) rfl _ rfl;exact vv_val (a.tmps.getD 53 undef) (by kernel_rfl) (by kernel_rfl) hC (by rw[slots_put _ _ _ (by rw[hsz];exact of_decide_eq_true (by kernel_rfl))];exact h0) (RN.refl _)
    ·intro fv wx hC hf
     have h4:DS (2*(k+1)) (dnum f k*10+d) (slots (putAll fv _ _) 4) wx:=hf 10 _ rfl;clear hf;have HC:=Lib.hid hC;clear hC;generalize e4:slots (putAll fv _ _) 4=v4 at h4;have H5:=Lib.hid h4;clear h4;simp only[putAll,Act.put,slots,List.setIfInBounds_toArray,List.set_cons_succ,List.set_cons_zero]at e4 |-
     simp only[Array.getD_eq_getD_getElem?,List.getElem?_toArray,List.getElem?_cons_succ,List.getElem?_cons_zero,Option.getD_some]at e4;rw[e4];clear e4
     go_wp2_with fail
     go_roundw
     case rel=>exact⟨k+1,by omega,by go_num,Lib.hid ⟨HC.out.old,HC.out.r0,by rw[HNX.out];exact H5.out⟩⟩
     case measure=>first | (simp[intOf];done) | (simp[intOf];omega)
   ·obtain rfl:k=s.size:=by omega
    obtain⟨hold,hr0,b,cap,dd,hsv,hD,hdl,hdv⟩:=H.out;subst hsv;have HR:=Lib.hid (And.intro hold (And.intro hr0 (And.intro hD (And.intro hdl hdv))));clear hold hr0 hD hdl hdv H;obtain⟨n2,hn2⟩:∃ n2,2*s.size=n2:=⟨_,rfl⟩
    rw[hn2]at HR |-
    have hn3:(n2:Int)<=156:=by omega
    clear hn2
    go_wp2_with fail
    go_loop [6] (fun iv=>∃ j:Nat,16<=j/\iv=.int .i64 j/\Hid (∀ t,16<=t->t<j->t<n2->dd t=0)) (fun iv=>n2 - (intOf iv).toNat)
    case atStart=>exact⟨16,by omega,rfl,Lib.hid (fun t h1 h2=>by omega)⟩
    case round =>
     obtain⟨j,hj,rfl,HZ⟩:=hrel;have hj0:(0:Int)<=j:=by omega
     by_cases hjn:j<n2
     ·have hjn':(j:Int)<n2:=by omega
      have cj:=HR.out.2.2.1.2 j hjn;by_cases hdz:dd j=0
      ·have e1:(((dd j:Nat):Int) != 0)=false:=by simp[hdz]
       have HDZ:=Lib.hid hdz;clear hdz
       go_wp2_with fail
       go_round
       case rel=>exact⟨j+1,by omega,by go_num,Lib.hid (fun t h1 h2 h3=>by
        by_cases e:t=j
        ·rw[e];exact HDZ.out
        ·exact HZ.out t h1 (by omega) h3)⟩
       case measure=>first | (simp[intOf];done) | (simp[intOf];omega)
      ·have e1:(((dd j:Nat):Int) != 0)=true:=by simp[hdz]
       have hbig:¬dnum f s.size<115792089237316195423570985008687907853269984665640564039457584007913129639936:=fun hlt=>hdz (vd_small (n:=16) (m:=n2) (by rw[HR.out.2.2.2.2,w16];exact hlt) j hj hjn);have HBIG:=Lib.hid hbig;clear hbig hdz
       go_wp2_with (refine wpList_store_row rfl 24 _ _ rfl w.heap.size #[.int .u64 0,.int .u64 0,.int .u64 0,.int .u64 0] rfl rfl 24 #[.int .u64 0,.int .u64 0,.int .u64 0,.int .u64 0] HR.out.2.1 infoWord rfl (by simp[Value.oneCell']) ?_)
       (try simp only[Exit.inBlock,Exit.then])
       exact bodyPost_ret (v:=.tuple #[.agg #[.int .u64 0,.int .u64 0,.int .u64 0,.int .u64 0],.int .i64 2]) (results_ct (p:=2) (q:=3) rfl _ _ w.heap.size _ _ rfl rfl (setRow_heap _ _ _ _ _ _ HR.out.2.1) infoWord) rfl ⟨by rw[if_neg HBIG.out],below_setRow HR.out.1 (Nat.le_refl _) _⟩
     ·have hjn':¬(j:Int)<n2:=by omega
      have hfit:dnum f s.size<115792089237316195423570985008687907853269984665640564039457584007913129639936:=by
       have h:=vd_full (d:=dd) (min 16 n2) n2 (fun t h1 h2=>HZ.out t (by omega) (by omega) h2) (by omega);rw[<- HR.out.2.2.2.2,h];refine Nat.lt_of_lt_of_le (vd_lt (fun t ht=>HR.out.2.2.2.1 t (by omega))) ?_;have:=Nat.pow_le_pow_right (show 0<65536 by omega) (show min 16 n2<=16 by omega);rwa [w16]at this
      have HFIT:=Lib.hid hfit;clear hfit;have HWD:Hid (Calls Tryz.prog 83 #[.slice (some ⟨b,0,none⟩) n2 cap] wr fun e w'=>e=.returned (.agg (pw (dnum f s.size)))/\Below wr.heap.size wr w'):=Lib.hid (by
       have h:=word_any b cap n2 dd (by omega) HR.out.2.2.2.1 wr HR.out.2.2.1;rw[HR.out.2.2.2.2]at h;exact h)
      go_wp2_with fail
      refine HWD.out.mono ?_;rintro e w1 ⟨rfl,hb⟩;have h1:=(hb.block _ (Array.getElem?_eq_some_iff.1 HR.out.2.1).1).trans HR.out.2.1;have H1:=Lib.hid (And.intro h1 (HR.out.1.trans (hb.mono HR.out.1.size)));clear h1 hb
      go_wp2_with (refine wpList_store_row rfl 24 _ _ rfl w.heap.size (pw (dnum f s.size)) rfl rfl 24 #[.int .u64 0,.int .u64 0,.int .u64 0,.int .u64 0] H1.out.1 infoWord rfl (pw_one _) ?_)
      (try simp only[Exit.inBlock,Exit.then])
      exact bodyPost_ret (v:=.tuple #[.agg (pw (dnum f s.size)),.int .i64 0]) (results_ct (p:=2) (q:=3) rfl _ _ w.heap.size _ _ rfl rfl (setRow_heap _ _ _ _ _ _ H1.out.1) infoWord) rfl ⟨by rw[if_pos HFIT.out],below_setRow H1.out.2 (Nat.le_refl _) _⟩
 ·have e1:¬(1:Int)<s.size:=by omega
  clear hlead;go_enter Tryz.func46,Tryz.ntmps46
  go_wp2_with fail
  go_loopw [4,5] (fun v iv wr=>∃ k:Nat,k<=s.size/\iv=.int .i64 k/\Hid (CQ w (2*k) (dnum f k) v wr)) (fun _ iv _=>s.size - (intOf iv).toNat)
  case atStart=>exact⟨0,by omega,rfl,Lib.hid ⟨by go_grown,(heap2 _ _ _).1,⟨_,_,fun _=>0,rfl,⟨by simp,fun j hj=>by omega⟩,fun j hj=>by omega,rfl⟩⟩⟩
  case round =>
   obtain⟨k,hk,rfl,H⟩:=hrel;have hk0:(0:Int)<=k:=by omega
   have hk1:(k:Int)<=78:=by omega
   by_cases hlt:k<s.size
   ·have hki:(k:Int)<s.size:=by omega
    obtain⟨d1,d2⟩:=HF.out k hlt;obtain⟨d,hd⟩:∃ d,f k=d:=⟨_,rfl⟩
    rw[hd]at d1 d2;have hb1:¬((s[k].toNat:Nat):Int)<48:=by omega
    have hb2:¬(57:Int)<((s[k].toNat:Nat):Int):=by omega
    have hb3:((s[k].toNat:Nat):Int) - 48=(d:Int):=by omega
    have hw8:IntKind.u8.wrap (d:Int)=(d:Int):=by rw[IntKind.wrap_u8];omega
    have hw64:IntKind.u64.wrap (d:Int)=(d:Int):=by rw[IntKind.wrap_u64];omega
    have hnx:dnum f (k+1)=dnum f k*10+d:=by rw[dnum,hd]
    have HNX:=Lib.hid hnx;clear hnx hd d1;have HD9:=Lib.hid d2;clear d2;have hix:∀ w,(Instr.index 9 (.string s) (.int .i64 k)).run Tryz.prog w=.ok (.int .u8 (s[k].toNat:Nat)) w:=fun w=>by go_simp
    have hsb:∀ w,(binOp BinOp.sub 5 (.int .u8 (s[k].toNat:Nat)) (.int .u8 48)).run Tryz.prog w=.ok (.int .u8 (d:Nat)) w:=fun w=>by go_simp
    have hcv:∀ w,(convert 5 22 (.int .u8 (d:Nat))).run Tryz.prog w=.ok (.int .u64 (d:Nat)) w:=fun w=>by go_simp
    have hmx:max (2*k+1) 1+1=2*(k+1):=by omega
    have HIX:=Lib.hid hix;clear hix;have HSB:=Lib.hid hsb;clear hsb;have HCV:=Lib.hid hcv;clear hcv;have HMX:=Lib.hid hmx;clear hmx
    go_wp2_with fail
    refine region_tie3 (CQ w (2*k) (dnum f k) u4) (fun i sl wx=>match i with | 0=>sl 44=u4 | 1=>DS 1 10 (sl 45) wx | 2=>DS (2*k+1) (dnum f k*10) (sl 46) wx | 3=>sl 47=.string s | 4=>sl 48=.int .i64 k | 5=>sl 49=.int .u8 (s[k].toNat:Nat) | 6=>sl 50=.int .u8 (d:Nat) | 7=>sl 51=.int .u64 (d:Nat) | 8=>DS 1 d (sl 52) wx | 9=>DS (2*(k+1)) (dnum f k*10+d) (sl 53) wx | 10=>DS (2*(k+1)) (dnum f k*10+d) (sl 4) wx | _=>True) RN (fun i=>match i with | 0=>[44] | 1=>[45] | 2=>[46] | 3=>[47] | 4=>[48] | 5=>[49] | 6=>[50] | 7=>[51] | 8=>[52] | 9=>[53] | 10=>[4] | _=>[]) (fun i=>i) (by kernel_rfl) (by kernel_rfl) H.out.drew ?_ ?_ ?_ ?_
    ·intro i sl sl' wx he hp
     match i,he,hp with
     | 0,he,hp=>exact(he 44 (by simp)).symm.trans hp
     | 1,he,hp=>have h:=he 45 (by simp);rw[h]at hp;exact hp
     | 2,he,hp=>have h:=he 46 (by simp);rw[h]at hp;exact hp
     | 3,he,hp=>exact(he 47 (by simp)).symm.trans hp
     | 4,he,hp=>exact(he 48 (by simp)).symm.trans hp
     | 5,he,hp=>exact(he 49 (by simp)).symm.trans hp
     | 6,he,hp=>exact(he 50 (by simp)).symm.trans hp
     | 7,he,hp=>exact(he 51 (by simp)).symm.trans hp
     | 8,he,hp=>have h:=he 52 (by simp);rw[h]at hp;exact hp
     | 9,he,hp=>have h:=he 53 (by simp);rw[h]at hp;exact hp
     | 10,he,hp=>have h:=he 4 (by simp);rw[h]at hp;exact hp
     | _+11,_,_=>trivial
    ·intro i sl wa wb hR hp
     match i,hp with
     | 0,hp=>exact hp
     | 1,hp=>exact hp.keep hR
     | 2,hp=>exact hp.keep hR
     | 3,hp=>exact hp
     | 4,hp=>exact hp
     | 5,hp=>exact hp
     | 6,hp=>exact hp
     | 7,hp=>exact hp
     | 8,hp=>exact hp.keep hR
     | 9,hp=>exact hp.keep hR
     | 10,hp=>exact hp.keep hR
     | _+11,_=>trivial
    ·refine⟨?_,?_,?_,?_,?_,?_,?_,?_,?_,?_,?_,trivial⟩
     ·intro a wx hC hsz hK
      exact vv_val u4 (by kernel_rfl) (by rw[<- show a.tmps.getD 4 undef=u4 from hK.1 4 (by kernel_rfl)];kernel_rfl) hC (slots_put _ _ _ (by rw[hsz];exact of_decide_eq_true (by kernel_rfl))) (RN.refl _)
     ·intro a wx hC hsz hK
      have hb:Below wx.heap.size wx (wx.alloc (.cells #[.int .u64 (10:Nat)] 22)):=(Below.refl _ _).alloc (Nat.le_refl _) _;refine vv_v (Instr.buildSlice 126 1 #[(0,.int .u64 10)]) (.slice (some ⟨wx.heap.size,0,none⟩) 1 1) (by kernel_rfl) (by kernel_rfl) (w':=wx.alloc (.cells #[.int .u64 (10:Nat)] 22)) (by kernel_rfl) (hC.below hb) ?_ (RN.of hb);show DS 1 10 _ _;rw[slots_put _ _ _ (by rw[hsz];exact of_decide_eq_true (by kernel_rfl))];exact ds_one wx 10 (by omega)
     ·intro a wx hC hsz hK
      have h0:a.tmps.getD 44 undef=u4:=hK.2 ⟨0,.data⟩ (by simp) rfl _ rfl;have h1:=hK.2 ⟨1,.data⟩ (by simp) rfl _ rfl;refine vv_call 82 #[a.tmps.getD 44 undef,a.tmps.getD 45 undef] (by kernel_rfl) (by kernel_rfl) ?_;rw[h0];refine Calls.mono (product_dsl (by omega) (by omega) hC.ds h1) ?_;rintro e w' ⟨v,rfl,hb,hv⟩;exact⟨v,rfl,hC.below hb,(by rw[slots_put _ _ _ (by rw[hsz];exact of_decide_eq_true (by kernel_rfl))];exact hv),RN.of hb⟩
     ·intro a wx hC hsz hK
      exact vv_val (.string s) (by kernel_rfl) (by rw[<- show a.tmps.getD 0 undef=.string s from hK.1 0 (by kernel_rfl)];kernel_rfl) hC (slots_put _ _ _ (by rw[hsz];exact of_decide_eq_true (by kernel_rfl))) (RN.refl _)
     ·intro a wx hC hsz hK
      exact vv_val (.int .i64 k) (by kernel_rfl) (by rw[<- show a.tmps.getD 5 undef=.int .i64 k from hK.1 5 (by kernel_rfl)];kernel_rfl) hC (slots_put _ _ _ (by rw[hsz];exact of_decide_eq_true (by kernel_rfl))) (RN.refl _)
     ·intro a wx hC hsz hK
      have h0:a.tmps.getD 47 undef=.string s:=hK.2 ⟨3,.data⟩ (by simp) rfl _ rfl;have h1:a.tmps.getD 48 undef=.int .i64 k:=hK.2 ⟨4,.data⟩ (by simp) rfl _ rfl;refine vv_v (Instr.index 9 (a.tmps.getD 47 undef) (a.tmps.getD 48 undef)) (.int .u8 (s[k].toNat:Nat)) (by kernel_rfl) rfl ?_ hC (slots_put _ _ _ (by rw[hsz];exact of_decide_eq_true (by kernel_rfl))) (RN.refl _);rw[h0,h1];exact HIX.out wx
     ·intro a wx hC hsz hK
      have h0:a.tmps.getD 49 undef=.int .u8 (s[k].toNat:Nat):=hK.2 ⟨5,.data⟩ (by simp) rfl _ rfl;refine vv_v (do eqGuard .sub 5 (.tmp 49) (.const (.int .u8 48)) (a.tmps.getD 49 undef) (.int .u8 48);binOp .sub 5 (a.tmps.getD 49 undef) (.int .u8 48)) (.int .u8 (d:Nat)) (by kernel_rfl) rfl ?_ hC (slots_put _ _ _ (by rw[hsz];exact of_decide_eq_true (by kernel_rfl))) (RN.refl _);rw[h0];have hg:(eqGuard .sub 5 (.tmp 49) (.const (.int .u8 48)) (.int .u8 (s[k].toNat:Nat)) (.int .u8 48)).run Tryz.prog wx=.ok () wx:=by kernel_rfl
      simp only[Sem.run_bind,hg,HSB.out wx,Result.andThen_ok]
     ·intro a wx hC hsz hK
      have h0:a.tmps.getD 50 undef=.int .u8 (d:Nat):=hK.2 ⟨6,.data⟩ (by simp) rfl _ rfl;refine vv_v (convert 5 22 (a.tmps.getD 50 undef)) (.int .u64 (d:Nat)) (by kernel_rfl) rfl ?_ hC (slots_put _ _ _ (by rw[hsz];exact of_decide_eq_true (by kernel_rfl))) (RN.refl _);rw[h0];exact HCV.out wx
     ·intro a wx hC hsz hK
      have h0:a.tmps.getD 51 undef=.int .u64 (d:Nat):=hK.2 ⟨7,.data⟩ (by simp) rfl _ rfl;have hb:Below wx.heap.size wx (wx.alloc (.cells #[.int .u64 (d:Nat)] 22)):=(Below.refl _ _).alloc (Nat.le_refl _) _;refine vv_v (Instr.buildSlice 126 1 #[(0,a.tmps.getD 51 undef)]) (.slice (some ⟨wx.heap.size,0,none⟩) 1 1) (by kernel_rfl) (by kernel_rfl) (w':=wx.alloc (.cells #[.int .u64 (d:Nat)] 22)) (by rw[h0];kernel_rfl) (hC.below hb) ?_ (RN.of hb);show DS 1 d _ _;rw[slots_put _ _ _ (by rw[hsz];exact of_decide_eq_true (by kernel_rfl))];exact ds_one wx d (by have:=HD9.out;omega)
     ·intro a wx hC hsz hK
      have h0:=hK.2 ⟨2,.data⟩ (by simp) rfl _ rfl;have h1:=hK.2 ⟨8,.data⟩ (by simp) rfl _ rfl;refine vv_call 81 #[a.tmps.getD 46 undef,a.tmps.getD 52 undef] (by kernel_rfl) (by kernel_rfl) ?_;have hs:=sum_dsl (w:=wx) (by omega) (by omega) h0 h1;rw[HMX.out]at hs;refine Calls.mono hs ?_;rintro e w' ⟨v,rfl,hb,hv⟩;exact⟨v,rfl,hC.below hb,(by rw[slots_put _ _ _ (by rw[hsz];exact of_decide_eq_true (by kernel_rfl))];exact hv),RN.of hb⟩
     ·intro a wx hC hsz hK
      have h0:=hK.2 ⟨9,.data⟩ (by simp) rfl _ rfl;exact vv_val (a.tmps.getD 53 undef) (by kernel_rfl) (by kernel_rfl) hC (by rw[slots_put _ _ _ (by rw[hsz];exact of_decide_eq_true (by kernel_rfl))];exact h0) (RN.refl _)
    ·intro fv wx hC hf
     have h4:DS (2*(k+1)) (dnum f k*10+d) (slots (putAll fv _ _) 4) wx:=hf 10 _ rfl;clear hf;have HC:=Lib.hid hC;clear hC;generalize e4:slots (putAll fv _ _) 4=v4 at h4;have H5:=Lib.hid h4;clear h4;simp only[putAll,Act.put,slots,List.setIfInBounds_toArray,List.set_cons_succ,List.set_cons_zero]at e4 |-
     simp only[Array.getD_eq_getD_getElem?,List.getElem?_toArray,List.getElem?_cons_succ,List.getElem?_cons_zero,Option.getD_some]at e4;rw[e4];clear e4
     go_wp2_with fail
     go_roundw
     case rel=>exact⟨k+1,by omega,by go_num,Lib.hid ⟨HC.out.old,HC.out.r0,by rw[HNX.out];exact H5.out⟩⟩
     case measure=>first | (simp[intOf];done) | (simp[intOf];omega)
   ·obtain rfl:k=s.size:=by omega
    obtain⟨hold,hr0,b,cap,dd,hsv,hD,hdl,hdv⟩:=H.out;subst hsv;have HR:=Lib.hid (And.intro hold (And.intro hr0 (And.intro hD (And.intro hdl hdv))));clear hold hr0 hD hdl hdv H;obtain⟨n2,hn2⟩:∃ n2,2*s.size=n2:=⟨_,rfl⟩
    rw[hn2]at HR |-
    have hn3:(n2:Int)<=156:=by omega
    clear hn2
    go_wp2_with fail
    go_loop [6] (fun iv=>∃ j:Nat,16<=j/\iv=.int .i64 j/\Hid (∀ t,16<=t->t<j->t<n2->dd t=0)) (fun iv=>n2 - (intOf iv).toNat)
    case atStart=>exact⟨16,by omega,rfl,Lib.hid (fun t h1 h2=>by omega)⟩
    case round =>
     obtain⟨j,hj,rfl,HZ⟩:=hrel;have hj0:(0:Int)<=j:=by omega
     by_cases hjn:j<n2
     ·have hjn':(j:Int)<n2:=by omega
      have cj:=HR.out.2.2.1.2 j hjn;by_cases hdz:dd j=0
      ·have e1:(((dd j:Nat):Int) != 0)=false:=by simp[hdz]
       have HDZ:=Lib.hid hdz;clear hdz
       go_wp2_with fail
       go_round
       case rel=>exact⟨j+1,by omega,by go_num,Lib.hid (fun t h1 h2 h3=>by
        by_cases e:t=j
        ·rw[e];exact HDZ.out
        ·exact HZ.out t h1 (by omega) h3)⟩
       case measure=>first | (simp[intOf];done) | (simp[intOf];omega)
      ·have e1:(((dd j:Nat):Int) != 0)=true:=by simp[hdz]
       have hbig:¬dnum f s.size<115792089237316195423570985008687907853269984665640564039457584007913129639936:=fun hlt=>hdz (vd_small (n:=16) (m:=n2) (by rw[HR.out.2.2.2.2,w16];exact hlt) j hj hjn);have HBIG:=Lib.hid hbig;clear hbig hdz
       go_wp2_with (refine wpList_store_row rfl 24 _ _ rfl w.heap.size #[.int .u64 0,.int .u64 0,.int .u64 0,.int .u64 0] rfl rfl 24 #[.int .u64 0,.int .u64 0,.int .u64 0,.int .u64 0] HR.out.2.1 infoWord rfl (by simp[Value.oneCell']) ?_)
       (try simp only[Exit.inBlock,Exit.then])
       exact bodyPost_ret (v:=.tuple #[.agg #[.int .u64 0,.int .u64 0,.int .u64 0,.int .u64 0],.int .i64 2]) (results_ct (p:=2) (q:=3) rfl _ _ w.heap.size _ _ rfl rfl (setRow_heap _ _ _ _ _ _ HR.out.2.1) infoWord) rfl ⟨by rw[if_neg HBIG.out],below_setRow HR.out.1 (Nat.le_refl _) _⟩
     ·have hjn':¬(j:Int)<n2:=by omega
      have hfit:dnum f s.size<115792089237316195423570985008687907853269984665640564039457584007913129639936:=by
       have h:=vd_full (d:=dd) (min 16 n2) n2 (fun t h1 h2=>HZ.out t (by omega) (by omega) h2) (by omega);rw[<- HR.out.2.2.2.2,h];refine Nat.lt_of_lt_of_le (vd_lt (fun t ht=>HR.out.2.2.2.1 t (by omega))) ?_;have:=Nat.pow_le_pow_right (show 0<65536 by omega) (show min 16 n2<=16 by omega);rwa [w16]at this
      have HFIT:=Lib.hid hfit;clear hfit;have HWD:Hid (Calls Tryz.prog 83 #[.slice (some ⟨b,0,none⟩) n2 cap] wr fun e w'=>e=.returned (.agg (pw (dnum f s.size)))/\Below wr.heap.size wr w'):=Lib.hid (by
       have h:=word_any b cap n2 dd (by omega) HR.out.2.2.2.1 wr HR.out.2.2.1;rw[HR.out.2.2.2.2]at h;exact h)
      go_wp2_with fail
      refine HWD.out.mono ?_;rintro e w1 ⟨rfl,hb⟩;have h1:=(hb.block _ (Array.getElem?_eq_some_iff.1 HR.out.2.1).1).trans HR.out.2.1;have H1:=Lib.hid (And.intro h1 (HR.out.1.trans (hb.mono HR.out.1.size)));clear h1 hb
      go_wp2_with (refine wpList_store_row rfl 24 _ _ rfl w.heap.size (pw (dnum f s.size)) rfl rfl 24 #[.int .u64 0,.int .u64 0,.int .u64 0,.int .u64 0] H1.out.1 infoWord rfl (pw_one _) ?_)
      (try simp only[Exit.inBlock,Exit.then])
      exact bodyPost_ret (v:=.tuple #[.agg (pw (dnum f s.size)),.int .i64 0]) (results_ct (p:=2) (q:=3) rfl _ _ w.heap.size _ _ rfl rfl (setRow_heap _ _ _ _ _ _ H1.out.1) infoWord) rfl ⟨by rw[if_pos HFIT.out],below_setRow H1.out.2 (Nat.le_refl _) _⟩
open Go.RowKit
def baseS:ByteArray:=⟨#[50,49,56,56,56,50,52,50,56,55,49,56,51,57,50,55,53,50,50,50,50,52,54,52,48,53,55,52,53,50,53,55,50,55,53,48,56,56,54,57,54,51,49,49,49,53,55,50,57,55,56,50,51,54,54,50,54,56,57,48,51,55,56,57,52,54,52,53,50,50,54,50,48,56,53,56,51]⟩
def baseD(j:Nat):Nat:=[2,1,8,8,8,2,4,2,8,7,1,8,3,9,2,7,5,2,2,2,2,4,6,4,0,5,7,4,5,2,5,7,2,7,5,0,8,8,6,9,6,3,1,1,1,5,7,2,9,7,8,2,3,6,6,2,6,8,9,0,3,7,8,9,4,6,4,5,2,2,6,2,0,8,5,8,3].getD j 0
theorem base_len:baseS.size=77:=by kernel_rfl
theorem base_dig:∀ j (hj:j<baseS.size),baseS[j].toNat=baseD j+48/\baseD j<=9:=by
 have h:∀ j:Fin 77,(#[50,49,56,56,56,50,52,50,56,55,49,56,51,57,50,55,53,50,50,50,50,52,54,52,48,53,55,52,53,50,53,55,50,55,53,48,56,56,54,57,54,51,49,49,49,53,55,50,57,55,56,50,51,54,54,50,54,56,57,48,51,55,56,57,52,54,52,53,50,50,54,50,48,56,53,56,51]:Array UInt8)[j].toNat=baseD j+48/\baseD j<=9:=by decide +kernel
 intro j hj;exact h ⟨j,by rw[base_len]at hj;exact hj⟩
theorem base_num:dnum baseD 77=21888242871839275222246405745257275088696311157297823662689037894645226208583:=by decide +kernel
theorem rbase_parse(w:World):Calls Tryz.prog 46 #[.string baseS] w fun e w'=>e=.returned (.tuple #[.agg (pw 21888242871839275222246405745257275088696311157297823662689037894645226208583),.int .i64 0])/\Below w.heap.size w w':=by
 have h:=rparse_walk baseS baseD w (by rw[base_len];omega) (by rw[base_len];omega) (fun _=>by decide +kernel) base_dig;unfold ParsePost at h;rw[base_len,base_num,if_pos (by omega)]at h;exact h
theorem rbase_any(w:World):Calls Tryz.prog 30 #[] w fun e w'=>e=.returned (.agg (pw 21888242871839275222246405745257275088696311157297823662689037894645226208583))/\Below w.heap.size w w':=by
 obtain⟨V,hV⟩:∃ V,21888242871839275222246405745257275088696311157297823662689037894645226208583=V:=⟨_,rfl⟩
 have HP:=Lib.hid (fun wx=>rbase_parse wx);rw[hV]at HP |-
 clear hV;go_enter Tryz.func30,Tryz.ntmps30
 go_wp2_with fail
 refine(HP.out _).mono ?_;rintro e w1 ⟨rfl,hb1⟩;have G1:=Lib.hid (heap_alloc_new w1 (.cells (#[.int .u64 0,.int .u64 0,.int .u64 0,.int .u64 0]) 24));have H1:=Lib.hid (show Below w.heap.size w ((w1.alloc (.cells (#[.int .u64 0,.int .u64 0,.int .u64 0,.int .u64 0]) 24)).setRow w1.heap.size (pw V))/\((w1.alloc (.cells (#[.int .u64 0,.int .u64 0,.int .u64 0,.int .u64 0]) 24)).setRow w1.heap.size (pw V)).heap[w.heap.size]?=some (.cells (#[.int .u64 0,.int .u64 0,.int .u64 0,.int .u64 0]) 24 (0,0))/\((w1.alloc (.cells (#[.int .u64 0,.int .u64 0,.int .u64 0,.int .u64 0]) 24)).setRow w1.heap.size (pw V)).heap[w1.heap.size]?=some (.cells (pw V) 24 (0,0)) from by
  have hs:=hb1.size;rw[World.size_alloc]at hs;have hb2:Below w1.heap.size w1 ((w1.alloc (.cells (#[.int .u64 0,.int .u64 0,.int .u64 0,.int .u64 0]) 24)).setRow w1.heap.size (pw V)):=below_setRow ((Below.refl _ _).alloc (Nat.le_refl _) _) (Nat.le_refl _) _;refine⟨(((Below.refl _ _).alloc (Nat.le_refl _) _).trans (hb1.mono (by simp))).trans (hb2.mono (by omega)),?_,setRow_heap _ _ _ _ _ _ (heap_alloc_new _ _)⟩;exact(hb2.block _ (by omega)).trans ((hb1.block _ (by simp)).trans (heap_alloc_new _ _)))
 clear hb1 HP
 go_upto_region 2 with(refine wpList_store_row rfl 24 _ _ rfl w1.heap.size (pw V) rfl rfl 24 (#[.int .u64 0,.int .u64 0,.int .u64 0,.int .u64 0]) (by exact G1.out) (by rw[pw_size];exact infoW4) (by rw[pw_size];rfl) (pw_one _) ?_)
 obtain⟨w2,hw2⟩:∃ w2,(w1.alloc (.cells (#[.int .u64 0,.int .u64 0,.int .u64 0,.int .u64 0]) 24)).setRow w1.heap.size (pw V)=w2:=⟨_,rfl⟩
 obtain⟨g1,hg1⟩:∃ g1,w1.heap.size=g1:=⟨_,rfl⟩
 rw[hw2,hg1]at H1;rw[hw2,hg1];clear hw2 hg1 G1
 go_wp2_with (first | (refine wpList_ld rfl 24 _ rfl (.pointer (some ⟨g1,0,none⟩)) (.agg (pw V)) rfl (ld_pw (by exact H1.out.2.2)) ?_) | (refine wpList_store_row rfl 24 _ _ rfl (w.heap.size) (pw V) rfl rfl 24 (#[.int .u64 0,.int .u64 0,.int .u64 0,.int .u64 0]) (by exact H1.out.2.1) (by rw[pw_size];exact infoW4) (by first | rfl | (rw[pw_size];rfl) | (rw[pw_size,pw_size])) (pw_one _) ?_))
 (try simp only[Act.put])
 refine bodyPost_ret (v:=.agg (pw V)) (results_cell_row (p:=0) rfl _ _ (w.heap.size) 24 (pw V) (0,0) _ rfl (setRow_heap _ _ _ _ _ _ (by exact H1.out.2.1)) Tryz.underlying24 rfl (by rw[pw_size];exact infoW4)) rfl ⟨rfl,below_setRow H1.out.1 (Nat.le_refl _) _⟩
open Go.RowKit
namespace Sy
def cBit:Con:=conV 43 fun l=>match l with
 | [.w k,.na t]=>some (.i .u64 ((k / 2^t%2:Nat):Int),[.ask (t<256)])
 | _=>none
theorem cBit_ok{base:Nat}{γ0:Pl}{w0:World}:ConOk Tryz.prog base γ0 w0 cBit:=conV_ok (fun _ _=>by kernel_rfl) fun us r q hr hq hok=>by
 split at hr
 ·rename_i k t
  cases hr;exact⟨trivial,rfl,fun γ w=>rbit_pw k t (hok (.w k) (by simp)) (hq _ (.head _)) w⟩
 ·cases hr
noncomputable def TL (k:Nat):Tr:=(walk (E1 [cBit]) (fun _=>0) Tryz.f41 [.w k]).on []
def stL(k:Nat)(n t:Nat):St:=⟨[(1,some (.p 1 0 0 0)),(2,some (.na 0)),(3,some (.na n)),(4,some (.na t))],[(1,.w k,24)],2⟩
theorem rlen_pw(k:Nat)(ok:k<2^256)(w:World):Calls Tryz.prog 41 #[.agg (pw k)] w fun e w'=>e=.returned (.int .i64 (bl k 256:Nat))/\Below w.heap.size w w':=by
 refine calls_loop0 (γ0:=o0) (E1_ok (more:=[cBit]) ⟨cBit_ok,trivial⟩) (by kernel_rfl) (fun _=>0) Tryz.func41 (by kernel_rfl) [.w k] ⟨⟨ok,rfl⟩,trivial⟩ (by kernel_rfl) (by kernel_rfl)
  (d:=0) (by kernel_rfl) (TL k) (by kernel_rfl) ?_
 have eb:(E1 [cBit]).base=1:=rfl;rw[eb];have h62:(2:Nat)^62=4611686018427387904:=by decide
 have hs:(TL k).isLoop 0=true:=by kernel_rfl
 have h0:Sub 1 (TL k).stOf (stL k 0 0):=Sub.ofW [1] (by kernel_rfl) ⟨.is (by kernel_rfl),.is (by kernel_rfl),.is (by kernel_rfl),.is (by kernel_rfl),trivial⟩ (by kernel_rfl);have d1:∀ n t,(TL k).round (stL k n t)=((TL k).round (stL k n t)).diag:=fun n t=>by kernel_rfl
 have z1:∀ n t,((TL k).round (stL k n t)).shape=.br (ltN t 256) (.need (t<256) (.br (eqI ((k / 2^t%2:Nat):Int) 1) (.need (t+1<2^62) (.need (t+1<2^62) (.cut 0))) (.need (t+1<2^62) (.cut 0)))) (.leaf (.na n)):=fun n t=>by kernel_rfl
 have n1:∀ n t,Sub 1 (((TL k).round (stL k n t)).on [true,true]).cutOf (stL k (t+1) (t+1)):=fun n t=>Sub.ofW [1] (by kernel_rfl) ⟨.is (by kernel_rfl),.is (by kernel_rfl),.is (by kernel_rfl),.is (by kernel_rfl),trivial⟩ (by kernel_rfl);have n2:∀ n t,Sub 1 (((TL k).round (stL k n t)).on [true,false]).cutOf (stL k n (t+1)):=fun n t=>Sub.ofW [1] (by kernel_rfl) ⟨.is (by kernel_rfl),.is (by kernel_rfl),.is (by kernel_rfl),.is (by kernel_rfl),trivial⟩ (by kernel_rfl);have c1:∀ n t,(((TL k).round (stL k n t)).on [true,true]).isCut 0=true:=fun n t=>by kernel_rfl
 have c2:∀ n t,(((TL k).round (stL k n t)).on [true,false]).isCut 0=true:=fun n t=>by kernel_rfl
 generalize TL k=T at hs h0 d1 z1 n1 n2 c1 c2 |-
 refine loop_wp (T:=T) 0 hs (ι:={ t:Nat // t<=256 }) (fun r=>stL k (bl k r.1) r.1) (fun r=>256 - r.1) ⟨0,by decide⟩ h0 fun⟨t,ht⟩=>?_;refine wp_of_shape (d1 (bl k t) t) (L:=fun L'=>((T.round (stL k (bl k t) t)).on L').wp 1 _) ?_ fun _ h=>h;rw[z1];refine⟨fun h=>?_,fun h=>?_⟩
 ·have h1:t<256:=of_decide_eq_true h
  have hm:k%115792089237316195423570985008687907853269984665640564039457584007913129639936=k:=Nat.mod_eq_of_lt ok;have hh:t+1<2^62:=by omega
  refine need_sh h1 ⟨fun h2=>need_sh hh (need_sh hh ?_),fun h2=>need_sh hh ?_⟩
  ·have h2:((k / 2^t%2:Nat):Int)=1:=of_decide_eq_true h2
   have e:bl k (t+1)=t+1:=by
    unfold bl;rw[hm,if_pos (by omega)]
   refine next_wp 0 (c1 (bl k t) t) (st:=fun r:{ t:Nat // t<=256 }=>stL k (bl k r.1) r.1) ⟨t+1,h1⟩ (by show 256 - (t+1)<256 - t;omega) ?_;show Sub 1 _ (stL k (bl k (t+1)) (t+1));rw[e];exact n1 (bl k t) t
  ·have h2:¬((k / 2^t%2:Nat):Int)=1:=of_decide_eq_false h2
   have e:bl k (t+1)=bl k t:=by
    show(if k%115792089237316195423570985008687907853269984665640564039457584007913129639936 / 2^t%2=1 then t+1 else bl k t)=_;rw[hm,if_neg (by omega)]
   refine next_wp 0 (c2 (bl k t) t) (st:=fun r:{ t:Nat // t<=256 }=>stL k (bl k r.1) r.1) ⟨t+1,h1⟩ (by show 256 - (t+1)<256 - t;omega) ?_;show Sub 1 _ (stL k (bl k (t+1)) (t+1));rw[e];exact n2 (bl k t) t
 ·have h1:¬t<256:=of_decide_eq_false h
  obtain rfl:t=256:=by omega
  exact leaf_sh rfl
def cBase:Con:=conV 30 fun l=>match l with
 | []=>some (.w pB,[])
 | _=>none
theorem cBase_ok{base:Nat}{γ0:Pl}{w0:World}:ConOk Tryz.prog base γ0 w0 cBase:=conV_ok (fun _ _=>by kernel_rfl) fun us r q hr hq hok=>by
 split at hr
 ·cases hr
  exact⟨ltB,rfl,fun γ w=>rbase_any w⟩
 ·cases hr
def cCmp:Con:=conV 62 fun l=>match l with
 | [.w a,.w b]=>some (.i .i64 (ord a b),[])
 | _=>none
theorem cCmp_ok{base:Nat}{γ0:Pl}{w0:World}:ConOk Tryz.prog base γ0 w0 cCmp:=conV_ok (fun _ _=>by kernel_rfl) fun us r q hr hq hok=>by
 split at hr
 ·rename_i a b
  cases hr;refine⟨trivial,rfl,fun γ w=>?_⟩;have h:=cmp_ref a b w;rw[Nat.mod_eq_of_lt (hok (.w a) (by simp)),Nat.mod_eq_of_lt (hok (.w b) (by simp))]at h;exact h
 ·cases hr
def isP(a:Nat):Bool:=ltI (ord a pB) 0
theorem isP_iff(a:Nat):isP a=true↔a<pB:=by
 unfold isP ltI ord;rw[decide_eq_true_eq]
 split
 ·rename_i h
  exact⟨fun _=>h,fun _=>by decide⟩
 ·split
  ·rename_i h1 h2
   exact⟨fun h=>absurd h (by decide),fun h=>absurd h h1⟩
  ·rename_i h1 h2
   exact⟨fun h=>absurd h (by decide),fun h=>absurd h h1⟩
theorem is_is:Is0 31 shW fun a=>.b (isP a):=fun _ _ _=>cV1_ok (fun _ _=>by kernel_rfl) (fun _ _=>⟨trivial,rfl⟩) fun a oa w =>
 calls_at (w0:=w) (γ0:=o0) (E1_ok (more:=[cBase,cCmp]) ⟨cBase_ok,cCmp_ok,trivial⟩) (by kernel_rfl) (fun _=>0) Tryz.func31 (by kernel_rfl) [.w a] ⟨⟨oa,rfl⟩,trivial⟩ (by kernel_rfl) (by kernel_rfl) (.leaf (.b (isP a))) (by kernel_rfl) rfl
end Sy
end Go.Proofs.YtadfjjfklihaaaaGreat
