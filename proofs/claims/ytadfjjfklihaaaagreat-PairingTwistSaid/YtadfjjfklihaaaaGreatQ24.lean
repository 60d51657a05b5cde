/- What (*Field).powers comes to. (Cut to what is reached, written closely: FPow.) -/
import Derived.Test.YtadfjjfklihaaaaGreatQ23
set_option linter.all false
set_option maxRecDepth 100000
set_option maxHeartbeats 8000000
namespace Go.Proofs.YtadfjjfklihaaaaGreat
open Go.RowKit
def pwq(m a j:Nat):Nat:=a^j*2^256%m
theorem pwq_next{m:Nat}(ho:m%2=1)(h1:1<m)(a j:Nat):mnt m (pwq m a j) (a*2^256%m)=pwq m a (j+1):=by
 unfold pwq;rw[mnt_both ho h1,show a^(j+1)=a^j*a from rfl]
def tabQ(m a k j:Nat):Nat:=if j<=k then pwq m a j else 0
theorem tabQ_next(m a k:Nat):updN (tabQ m a k) (k+1) (pwq m a (k+1))=tabQ m a (k+1):=by
 funext j
 unfold updN tabQ;by_cases h:j=k+1
 ·rw[if_pos h,if_pos (by omega),h]
 ·rw[if_neg h]
  by_cases h2:j<=k
  ·rw[if_pos h2,if_pos (by omega)]
  ·rw[if_neg h2,if_neg (by omega)]
structure CP (w:World) (F m a:Nat) (wx:World):Prop where
 old:Below w.heap.size w wx
 fld:FldAt wx F m
 hF:F<w.heap.size
 r0:wx.heap[w.heap.size]?=some (.cells (pw a) 24 (0,0))
 r1:wx.heap[w.heap.size+1]?=some (.cells (#[.int .u64 0,.int .u64 0,.int .u64 0,.int .u64 0,.int .u64 0,.int .u64 0,.int .u64 0,.int .u64 0,.int .u64 0,.int .u64 0,.int .u64 0,.int .u64 0,.int .u64 0,.int .u64 0,.int .u64 0,.int .u64 0,.int .u64 0,.int .u64 0,.int .u64 0,.int .u64 0,.int .u64 0,.int .u64 0,.int .u64 0,.int .u64 0,.int .u64 0,.int .u64 0,.int .u64 0,.int .u64 0,.int .u64 0,.int .u64 0,.int .u64 0,.int .u64 0,.int .u64 0,.int .u64 0,.int .u64 0,.int .u64 0,.int .u64 0,.int .u64 0,.int .u64 0,.int .u64 0,.int .u64 0,.int .u64 0,.int .u64 0,.int .u64 0,.int .u64 0,.int .u64 0,.int .u64 0,.int .u64 0,.int .u64 0,.int .u64 0,.int .u64 0,.int .u64 0,.int .u64 0,.int .u64 0,.int .u64 0,.int .u64 0,.int .u64 0,.int .u64 0,.int .u64 0,.int .u64 0,.int .u64 0,.int .u64 0,.int .u64 0,.int .u64 0]) 163 (0,0))
theorem CP.high{w wx:World}{F m a:Nat}(c:CP w F m a wx):w.heap.size+2<=wx.heap.size:=(Array.getElem?_eq_some_iff.1 c.r1).1
theorem CP.below{w wx w':World}{F m a:Nat}(c:CP w F m a wx)(hb:Below wx.heap.size wx w'):CP w F m a w' :=
 ⟨c.old.trans (hb.mono c.old.size),c.fld.below hb,c.hF,(hb.block _ (Array.getElem?_eq_some_iff.1 c.r0).1).trans c.r0,(hb.block _ (Array.getElem?_eq_some_iff.1 c.r1).1).trans c.r1⟩
theorem CP.drew{w wx:World}{F m a:Nat}(c:CP w F m a wx):CP w F m a wx.drew:=c.below (Below.drew (Below.refl _ _))
theorem CP.rowed{w wx:World}{F m a g:Nat}{cs:Array Value}(c:CP w F m a wx)(hg:w.heap.size+2<=g):CP w F m a (wx.setRow g cs):=by
 have h:=c.hF;exact⟨below_setRow c.old (by omega) _,fld_row c.fld (by omega),c.hF,(setRow_other _ _ _ _ (by omega)).trans c.r0,(setRow_other _ _ _ _ (by omega)).trans c.r1⟩
theorem CP.start{w:World}{F m:Nat}(h:FldAt w F m)(a:Nat):CP w F m a ((w.alloc (.cells (pw a) 24)).alloc (.cells (#[.int .u64 0,.int .u64 0,.int .u64 0,.int .u64 0,.int .u64 0,.int .u64 0,.int .u64 0,.int .u64 0,.int .u64 0,.int .u64 0,.int .u64 0,.int .u64 0,.int .u64 0,.int .u64 0,.int .u64 0,.int .u64 0,.int .u64 0,.int .u64 0,.int .u64 0,.int .u64 0,.int .u64 0,.int .u64 0,.int .u64 0,.int .u64 0,.int .u64 0,.int .u64 0,.int .u64 0,.int .u64 0,.int .u64 0,.int .u64 0,.int .u64 0,.int .u64 0,.int .u64 0,.int .u64 0,.int .u64 0,.int .u64 0,.int .u64 0,.int .u64 0,.int .u64 0,.int .u64 0,.int .u64 0,.int .u64 0,.int .u64 0,.int .u64 0,.int .u64 0,.int .u64 0,.int .u64 0,.int .u64 0,.int .u64 0,.int .u64 0,.int .u64 0,.int .u64 0,.int .u64 0,.int .u64 0,.int .u64 0,.int .u64 0,.int .u64 0,.int .u64 0,.int .u64 0,.int .u64 0,.int .u64 0,.int .u64 0,.int .u64 0,.int .u64 0]) 163)):=by
 have hb:Below w.heap.size w (w.alloc (.cells (pw a) 24)):=(Below.refl _ _).alloc (Nat.le_refl _) _;have hb2:Below (w.heap.size+1) (w.alloc (.cells (pw a) 24)) ((w.alloc (.cells (pw a) 24)).alloc (.cells (#[.int .u64 0,.int .u64 0,.int .u64 0,.int .u64 0,.int .u64 0,.int .u64 0,.int .u64 0,.int .u64 0,.int .u64 0,.int .u64 0,.int .u64 0,.int .u64 0,.int .u64 0,.int .u64 0,.int .u64 0,.int .u64 0,.int .u64 0,.int .u64 0,.int .u64 0,.int .u64 0,.int .u64 0,.int .u64 0,.int .u64 0,.int .u64 0,.int .u64 0,.int .u64 0,.int .u64 0,.int .u64 0,.int .u64 0,.int .u64 0,.int .u64 0,.int .u64 0,.int .u64 0,.int .u64 0,.int .u64 0,.int .u64 0,.int .u64 0,.int .u64 0,.int .u64 0,.int .u64 0,.int .u64 0,.int .u64 0,.int .u64 0,.int .u64 0,.int .u64 0,.int .u64 0,.int .u64 0,.int .u64 0,.int .u64 0,.int .u64 0,.int .u64 0,.int .u64 0,.int .u64 0,.int .u64 0,.int .u64 0,.int .u64 0,.int .u64 0,.int .u64 0,.int .u64 0,.int .u64 0,.int .u64 0,.int .u64 0,.int .u64 0,.int .u64 0]) 163)):=(Below.refl _ _).alloc (by simp) _;exact⟨hb.trans (hb2.mono (by omega)),(h.below hb).below (by rw[World.size_alloc];exact hb2),h.less,(hb2.block _ (by omega)).trans (heap_alloc_new _ _),by have:=heap_alloc_new (w.alloc (.cells (pw a) 24)) (.cells (#[.int .u64 0,.int .u64 0,.int .u64 0,.int .u64 0,.int .u64 0,.int .u64 0,.int .u64 0,.int .u64 0,.int .u64 0,.int .u64 0,.int .u64 0,.int .u64 0,.int .u64 0,.int .u64 0,.int .u64 0,.int .u64 0,.int .u64 0,.int .u64 0,.int .u64 0,.int .u64 0,.int .u64 0,.int .u64 0,.int .u64 0,.int .u64 0,.int .u64 0,.int .u64 0,.int .u64 0,.int .u64 0,.int .u64 0,.int .u64 0,.int .u64 0,.int .u64 0,.int .u64 0,.int .u64 0,.int .u64 0,.int .u64 0,.int .u64 0,.int .u64 0,.int .u64 0,.int .u64 0,.int .u64 0,.int .u64 0,.int .u64 0,.int .u64 0,.int .u64 0,.int .u64 0,.int .u64 0,.int .u64 0,.int .u64 0,.int .u64 0,.int .u64 0,.int .u64 0,.int .u64 0,.int .u64 0,.int .u64 0,.int .u64 0,.int .u64 0,.int .u64 0,.int .u64 0,.int .u64 0,.int .u64 0,.int .u64 0,.int .u64 0,.int .u64 0]) 163);rwa [World.size_alloc]at this⟩
structure CK (w:World) (F m a g h e f:Nat) (wx:World):Prop where
 c:CP w F m a wx
 rg:wx.heap[g]?=some (.cells (pw e) 24 (0,0))
 rh:wx.heap[h]?=some (.cells (pw f) 24 (0,0))
theorem CK.below{w wx w':World}{F m a g h e f:Nat}(c:CK w F m a g h e f wx)(hb:Below wx.heap.size wx w'):CK w F m a g h e f w' :=
 ⟨c.c.below hb,(hb.block _ (Array.getElem?_eq_some_iff.1 c.rg).1).trans c.rg,(hb.block _ (Array.getElem?_eq_some_iff.1 c.rh).1).trans c.rh⟩
structure CTb (w:World) (F m a g h e f V:Nat) (q:Nat->Nat) (wx:World):Prop where
 k:CK w F m a g h e f wx
 rV:wx.heap[V]?=some (.cells (ar .u64 64 (tabF q)) 163 (0,0))
 hV:w.heap.size+2<=V/\g<V/\h<V
theorem CTb.below{w wx w':World}{F m a g h e f V:Nat}{q:Nat->Nat}(c:CTb w F m a g h e f V q wx)(hb:Below wx.heap.size wx w'):CTb w F m a g h e f V q w' :=
 ⟨c.k.below hb,(hb.block _ (Array.getElem?_eq_some_iff.1 c.rV).1).trans c.rV,c.hV⟩
theorem CTb.drew{w wx:World}{F m a g h e f V:Nat}{q:Nat->Nat}(c:CTb w F m a g h e f V q wx):CTb w F m a g h e f V q wx.drew:=c.below (Below.drew (Below.refl _ _))
theorem CTb.put{w wx:World}{F m a g h e f V:Nat}{q:Nat->Nat}(c:CTb w F m a g h e f V q wx)(k y:Nat)(hk:k<16):CTb w F m a g h e f V (updN q k y) (wx.setCells V (k*4) (pw y).toList):=by
 have hV:=c.hV;have hF:=c.k.c.hF;exact⟨⟨⟨tab_below _ _ c.k.c.old (by omega),⟨(tab_other _ _ _ (by omega)).trans c.k.c.fld.row,c.k.c.fld.odd,c.k.c.fld.big,c.k.c.fld.lt⟩,hF,(tab_other _ _ _ (by omega)).trans c.k.c.r0,(tab_other _ _ _ (by omega)).trans c.k.c.r1⟩,(tab_other _ _ _ (by omega)).trans c.k.rg,(tab_other _ _ _ (by omega)).trans c.k.rh⟩,tab_row c.rV k y hk,hV⟩
theorem CTb.start{w wx:World}{F m a g h e f:Nat}(c:CK w F m a g h e f wx)(q:Nat->Nat):CTb w F m a g h e f wx.heap.size q ((wx.alloc (.cells (#[.int .u64 0,.int .u64 0,.int .u64 0,.int .u64 0,.int .u64 0,.int .u64 0,.int .u64 0,.int .u64 0,.int .u64 0,.int .u64 0,.int .u64 0,.int .u64 0,.int .u64 0,.int .u64 0,.int .u64 0,.int .u64 0,.int .u64 0,.int .u64 0,.int .u64 0,.int .u64 0,.int .u64 0,.int .u64 0,.int .u64 0,.int .u64 0,.int .u64 0,.int .u64 0,.int .u64 0,.int .u64 0,.int .u64 0,.int .u64 0,.int .u64 0,.int .u64 0,.int .u64 0,.int .u64 0,.int .u64 0,.int .u64 0,.int .u64 0,.int .u64 0,.int .u64 0,.int .u64 0,.int .u64 0,.int .u64 0,.int .u64 0,.int .u64 0,.int .u64 0,.int .u64 0,.int .u64 0,.int .u64 0,.int .u64 0,.int .u64 0,.int .u64 0,.int .u64 0,.int .u64 0,.int .u64 0,.int .u64 0,.int .u64 0,.int .u64 0,.int .u64 0,.int .u64 0,.int .u64 0,.int .u64 0,.int .u64 0,.int .u64 0,.int .u64 0]) 163)).setRow wx.heap.size (ar .u64 64 (tabF q))):=by
 have hb:Below wx.heap.size wx (wx.alloc (.cells (#[.int .u64 0,.int .u64 0,.int .u64 0,.int .u64 0,.int .u64 0,.int .u64 0,.int .u64 0,.int .u64 0,.int .u64 0,.int .u64 0,.int .u64 0,.int .u64 0,.int .u64 0,.int .u64 0,.int .u64 0,.int .u64 0,.int .u64 0,.int .u64 0,.int .u64 0,.int .u64 0,.int .u64 0,.int .u64 0,.int .u64 0,.int .u64 0,.int .u64 0,.int .u64 0,.int .u64 0,.int .u64 0,.int .u64 0,.int .u64 0,.int .u64 0,.int .u64 0,.int .u64 0,.int .u64 0,.int .u64 0,.int .u64 0,.int .u64 0,.int .u64 0,.int .u64 0,.int .u64 0,.int .u64 0,.int .u64 0,.int .u64 0,.int .u64 0,.int .u64 0,.int .u64 0,.int .u64 0,.int .u64 0,.int .u64 0,.int .u64 0,.int .u64 0,.int .u64 0,.int .u64 0,.int .u64 0,.int .u64 0,.int .u64 0,.int .u64 0,.int .u64 0,.int .u64 0,.int .u64 0,.int .u64 0,.int .u64 0,.int .u64 0,.int .u64 0]) 163)):=(Below.refl _ _).alloc (Nat.le_refl _) _;have c':=c.below hb;have lg:=(Array.getElem?_eq_some_iff.1 c.rg).1;have lh:=(Array.getElem?_eq_some_iff.1 c.rh).1;have hi:=c.c.high;exact⟨⟨c'.c.rowed hi,(setRow_other _ _ _ _ (by omega)).trans c'.rg,(setRow_other _ _ _ _ (by omega)).trans c'.rh⟩,setRow_heap _ _ _ _ _ _ (heap_alloc_new _ _),⟨hi,lg,lh⟩⟩
theorem tabQ_0(m a:Nat):(fun j=>if j=0 then 1*2^256%m else 0)=tabQ m a 0:=by
 funext j
 unfold tabQ pwq;by_cases h:j=0
 ·rw[if_pos h,if_pos (by omega),h,Nat.pow_zero]
 ·rw[if_neg h,if_neg (by omega)]
theorem pwq_lt{m:Nat}(h:1<m)(a j:Nat):pwq m a j<m:=Nat.mod_lt _ (by omega)
-- WHAT powers COMES TO.
theorem powers_any(F m ao:Nat)(ha:ao<2^256)(w:World)(hF:FldAt w F m):Calls Tryz.prog 134 #[.pointer (some ⟨F,0,none⟩),.agg (pw ao)] w fun e w'=>e=.returned (.agg (ar .u64 64 (tabF (tabQ m ao 15))))/\Below w.heap.size w w':=by
 have H0:=Lib.hid (CP.start hF ao);have HO:=Lib.hid (And.intro hF.odd (And.intro hF.big hF.lt));have HS1:=Lib.hid (fun wx (c:CP w F m ao wx)=>scaled_any F m 1 (by omega) wx c.fld);have HS2:=Lib.hid (fun wx (c:CP w F m ao wx)=>scaled_any F m ao ha wx c.fld);obtain⟨eo,he⟩:∃ eo,1*2^256%m=eo:=⟨_,rfl⟩
 obtain⟨fo,hf⟩:∃ fo,ao*2^256%m=fo:=⟨_,rfl⟩
 rw[he]at HS1;rw[hf]at HS2;have HE:=Lib.hid (And.intro he hf);clear ha hF he hf;go_enter Tryz.func134,Tryz.ntmps134
 go_wp2_with fail
 refine region_tie2 (fun s wx=>CP w F m ao wx/\AQ 5 6 (w.heap.size+2) s wx) (fun i s wx=>match i with | 0=>s 9=(.pointer (some ⟨F,0,none⟩)) | 1=>s 10=(.agg (pw 1)) | 2=>s 11=(.agg (pw eo)) | 3=>s 12=(.pointer (some ⟨F,0,none⟩)) | 4=>s 13=(.agg (pw ao)) | 5=>s 14=(.agg (pw fo)) | 6=>∃ D,s 5=.pointer (some ⟨D,0,none⟩)/\∃ cs:Array Value,wx.heap[D]?=some (.cells cs 24 (0,0))/\cs.size=4 | 7=>∃ D,s 6=.pointer (some ⟨D,0,none⟩)/\∃ cs:Array Value,wx.heap[D]?=some (.cells cs 24 (0,0))/\cs.size=4 | 8=>∃ D,s 5=.pointer (some ⟨D,0,none⟩)/\wx.heap[D]?=some (.cells (pw eo) 24 (0,0)) | 9=>∃ D,s 6=.pointer (some ⟨D,0,none⟩)/\wx.heap[D]?=some (.cells (pw fo) 24 (0,0)) | _=>True) (RM2 5 6 (pw eo) (pw fo)) (fun i=>match i with | 0=>[9] | 1=>[10] | 2=>[11] | 3=>[12] | 4=>[13] | 5=>[14] | 6=>[5] | 7=>[6] | 8=>[5] | 9=>[6] | _=>[]) (fun i=>i) (by kernel_rfl) (by kernel_rfl) ⟨H0.out.drew,AQ.start (by kernel_rfl) (by kernel_rfl)⟩ ?_ ?_ ?_ ?_
 ·intro i s s' wx he hp
  match i,he,hp with
  | 0,he,hp=>exact(he 9 (by simp)).symm.trans hp
  | 1,he,hp=>exact(he 10 (by simp)).symm.trans hp
  | 2,he,hp=>exact(he 11 (by simp)).symm.trans hp
  | 3,he,hp=>exact(he 12 (by simp)).symm.trans hp
  | 4,he,hp=>exact(he 13 (by simp)).symm.trans hp
  | 5,he,hp=>exact(he 14 (by simp)).symm.trans hp
  | 6,he,hp=>obtain⟨D,h1,h2⟩:=hp;exact⟨D,(he 5 (by simp)).symm.trans h1,h2⟩
  | 7,he,hp=>obtain⟨D,h1,h2⟩:=hp;exact⟨D,(he 6 (by simp)).symm.trans h1,h2⟩
  | 8,he,hp=>obtain⟨D,h1,h2⟩:=hp;exact⟨D,(he 5 (by simp)).symm.trans h1,h2⟩
  | 9,he,hp=>obtain⟨D,h1,h2⟩:=hp;exact⟨D,(he 6 (by simp)).symm.trans h1,h2⟩
  | _+10,_,_=>trivial
 ·intro i s wa wb hC hR hp
  match i,hp with
  | 0,hp=>exact hp
  | 1,hp=>exact hp
  | 2,hp=>exact hp
  | 3,hp=>exact hp
  | 4,hp=>exact hp
  | 5,hp=>exact hp
  | 6,hp=>obtain⟨D,h1,h2⟩:=hp;exact⟨D,h1,hR.shape (pw_size _) (pw_size _) h2⟩
  | 7,hp=>obtain⟨D,h1,h2⟩:=hp;exact⟨D,h1,hR.shape (pw_size _) (pw_size _) h2⟩
  | 8,hp=>obtain⟨D,h1,h2⟩:=hp;exact⟨D,h1,RM2.keepp hC.2 hR h1 h2⟩
  | 9,hp=>obtain⟨D,h1,h2⟩:=hp;exact⟨D,h1,RM2.keepq hC.2 hR h1 h2⟩
  | _+10,_=>trivial
 ·refine⟨?_,?_,?_,?_,?_,?_,?_,?_,?_,?_,trivial⟩
  ·intro a wx hC hsz hK
   have h0:a.tmps.getD 0 undef=(.pointer (some ⟨F,0,none⟩)):=hK.1 0 (by kernel_rfl);exact uu_val ((.pointer (some ⟨F,0,none⟩))) (by kernel_rfl) (by rw[<- h0];kernel_rfl) ⟨hC.1,hC.2.put (slots_other _ 9 5 _ (by omega)) (slots_other _ 9 6 _ (by omega)) (Nat.le_refl _)⟩ (slots_put _ _ _ (by rw[hsz];exact of_decide_eq_true (by kernel_rfl))) (RM2.same _)
  ·intro a wx hC hsz hK
   refine uu_call 69 #[(.int .u64 (1:Nat))] (by kernel_rfl) (by kernel_rfl) ?_;exact(of_wv 1 (by omega) wx).mono fun e w' hh=>⟨_,hh.1,⟨hC.1.below hh.2,hC.2.put (slots_other _ 10 5 _ (by omega)) (slots_other _ 10 6 _ (by omega)) hh.2.size⟩,(slots_put _ _ _ (by rw[hsz];exact of_decide_eq_true (by kernel_rfl))),RM2.of hh.2⟩
  ·intro a wx hC hsz hK
   have h0:a.tmps.getD 9 undef=(.pointer (some ⟨F,0,none⟩)):=hK.2 ⟨0,.data⟩ (by simp) rfl _ rfl;have h1:a.tmps.getD 10 undef=(.agg (pw 1)):=hK.2 ⟨1,.data⟩ (by simp) rfl _ rfl;refine uu_call 109 #[a.tmps.getD 9 undef,a.tmps.getD 10 undef] (by kernel_rfl) (by kernel_rfl) ?_;rw[h0,h1];exact(HS1.out wx hC.1).mono fun e w' hh=>⟨_,hh.1,⟨hC.1.below hh.2,hC.2.put (slots_other _ 11 5 _ (by omega)) (slots_other _ 11 6 _ (by omega)) hh.2.size⟩,(slots_put _ _ _ (by rw[hsz];exact of_decide_eq_true (by kernel_rfl))),RM2.of hh.2⟩
  ·intro a wx hC hsz hK
   have h0:a.tmps.getD 0 undef=(.pointer (some ⟨F,0,none⟩)):=hK.1 0 (by kernel_rfl);exact uu_val ((.pointer (some ⟨F,0,none⟩))) (by kernel_rfl) (by rw[<- h0];kernel_rfl) ⟨hC.1,hC.2.put (slots_other _ 12 5 _ (by omega)) (slots_other _ 12 6 _ (by omega)) (Nat.le_refl _)⟩ (slots_put _ _ _ (by rw[hsz];exact of_decide_eq_true (by kernel_rfl))) (RM2.same _)
  ·intro a wx hC hsz hK
   have h0:a.tmps.getD 3 undef=(.pointer (some ⟨w.heap.size,0,none⟩)):=hK.1 3 (by kernel_rfl);exact uu_load 24 (.tmp 3) ((.pointer (some ⟨w.heap.size,0,none⟩))) ((.agg (pw ao))) rfl (by kernel_rfl) h0 (ld_pw hC.1.r0) ⟨hC.1,hC.2.put (slots_other _ 13 5 _ (by omega)) (slots_other _ 13 6 _ (by omega)) (Nat.le_refl _)⟩ (slots_put _ _ _ (by rw[hsz];exact of_decide_eq_true (by kernel_rfl))) (RM2.same _)
  ·intro a wx hC hsz hK
   have h0:a.tmps.getD 12 undef=(.pointer (some ⟨F,0,none⟩)):=hK.2 ⟨3,.data⟩ (by simp) rfl _ rfl;have h1:a.tmps.getD 13 undef=(.agg (pw ao)):=hK.2 ⟨4,.data⟩ (by simp) rfl _ rfl;refine uu_call 109 #[a.tmps.getD 12 undef,a.tmps.getD 13 undef] (by kernel_rfl) (by kernel_rfl) ?_;rw[h0,h1];exact(HS2.out wx hC.1).mono fun e w' hh=>⟨_,hh.1,⟨hC.1.below hh.2,hC.2.put (slots_other _ 14 5 _ (by omega)) (slots_other _ 14 6 _ (by omega)) hh.2.size⟩,(slots_put _ _ _ (by rw[hsz];exact of_decide_eq_true (by kernel_rfl))),RM2.of hh.2⟩
  ·intro a wx hC hsz hK
   have hb:Below wx.heap.size wx (wx.alloc (.cells #[.int .u64 0,.int .u64 0,.int .u64 0,.int .u64 0] 24)):=(Below.refl _ _).alloc (Nat.le_refl _) _;exact uu_new (.pointer (some ⟨wx.heap.size,0,none⟩)) (by kernel_rfl) (by kernel_rfl) ⟨hC.1.below hb,hC.2.newp (slots_put _ _ _ (by rw[hsz];exact of_decide_eq_true (by kernel_rfl))) (slots_other _ 5 6 _ (by omega)) hC.1.high (by simp)⟩ ⟨_,(slots_put _ _ _ (by rw[hsz];exact of_decide_eq_true (by kernel_rfl))),#[.int .u64 0,.int .u64 0,.int .u64 0,.int .u64 0],heap_alloc_new _ _,rfl⟩ (RM2.of hb)
  ·intro a wx hC hsz hK
   have hb:Below wx.heap.size wx (wx.alloc (.cells #[.int .u64 0,.int .u64 0,.int .u64 0,.int .u64 0] 24)):=(Below.refl _ _).alloc (Nat.le_refl _) _;exact uu_new (.pointer (some ⟨wx.heap.size,0,none⟩)) (by kernel_rfl) (by kernel_rfl) ⟨hC.1.below hb,hC.2.newq (slots_put _ _ _ (by rw[hsz];exact of_decide_eq_true (by kernel_rfl))) (slots_other _ 6 5 _ (by omega)) hC.1.high (by simp)⟩ ⟨_,(slots_put _ _ _ (by rw[hsz];exact of_decide_eq_true (by kernel_rfl))),#[.int .u64 0,.int .u64 0,.int .u64 0,.int .u64 0],heap_alloc_new _ _,rfl⟩ (RM2.of hb)
  ·intro a wx hC hsz hK
   obtain⟨D,h1,cs,h3,h4⟩:=hK.2 ⟨6,.data⟩ (by simp) rfl _ rfl;have h0:a.tmps.getD 11 undef=(.agg (pw eo)):=hK.2 ⟨2,.data⟩ (by simp) rfl _ rfl;exact uu_store (by kernel_rfl) rfl (run_st 24 (.tmp 5) (.tmp 11) _ _ rfl h1 h0 (store_w h4 h3)) ⟨hC.1.rowed (hC.2.ap D h1).1,hC.2.put rfl rfl (by simp)⟩ ⟨D,h1,setRow_heap _ _ _ _ _ _ h3⟩ (.inr ⟨D,pw eo,.inl ⟨h1,rfl⟩,rfl⟩)
  ·intro a wx hC hsz hK
   obtain⟨D,h1,cs,h3,h4⟩:=hK.2 ⟨7,.data⟩ (by simp) rfl _ rfl;have h0:a.tmps.getD 14 undef=(.agg (pw fo)):=hK.2 ⟨5,.data⟩ (by simp) rfl _ rfl;exact uu_store (by kernel_rfl) rfl (run_st 24 (.tmp 6) (.tmp 14) _ _ rfl h1 h0 (store_w h4 h3)) ⟨hC.1.rowed (hC.2.aq D h1).1,hC.2.put rfl rfl (by simp)⟩ ⟨D,h1,setRow_heap _ _ _ _ _ _ h3⟩ (.inr ⟨D,pw fo,.inr ⟨h1,rfl⟩,rfl⟩)
 intro f1 w5 hC hf;obtain⟨D,s5,rp⟩:=hf 8 _ rfl;obtain⟨E,s6,rq⟩:=hf 9 _ rfl;have H6:=Lib.hid (show CK w F m ao D E eo fo w5 from⟨hC.1,rp,rq⟩);clear hf hC rp rq H0 HS1 HS2;generalize hAct:putAll _ _ _=G at *;have s0:G.tmps.getD 0 undef=.pointer (some ⟨F,0,none⟩):=by subst hAct;kernel_rfl
 have s3:G.tmps.getD 3 undef=.pointer (some ⟨w.heap.size,0,none⟩):=by subst hAct;kernel_rfl
 have s4:G.tmps.getD 4 undef=.pointer (some ⟨w.heap.size+1,0,none⟩):=by subst hAct;kernel_rfl
 have s5':G.tmps.getD 5 undef=.pointer (some ⟨D,0,none⟩):=s5;have s6':G.tmps.getD 6 undef=.pointer (some ⟨E,0,none⟩):=s6;have hsz:G.tmps.size=33:=by rw[<- hAct,putAll_size];rfl
 have hdf:G.defers=[]:=by subst hAct;kernel_rfl
 clear hAct s5 s6;obtain⟨u1,t1⟩:∃ u,G.tmps.getD 1 undef=u:=⟨_,rfl⟩
 obtain⟨u2,t2⟩:∃ u,G.tmps.getD 2 undef=u:=⟨_,rfl⟩
 obtain⟨u7,t7⟩:∃ u,G.tmps.getD 7 undef=u:=⟨_,rfl⟩
 obtain⟨u8,t8⟩:∃ u,G.tmps.getD 8 undef=u:=⟨_,rfl⟩
 obtain⟨u9,t9⟩:∃ u,G.tmps.getD 9 undef=u:=⟨_,rfl⟩
 obtain⟨u10,t10⟩:∃ u,G.tmps.getD 10 undef=u:=⟨_,rfl⟩
 obtain⟨u11,t11⟩:∃ u,G.tmps.getD 11 undef=u:=⟨_,rfl⟩
 obtain⟨u12,t12⟩:∃ u,G.tmps.getD 12 undef=u:=⟨_,rfl⟩
 obtain⟨u13,t13⟩:∃ u,G.tmps.getD 13 undef=u:=⟨_,rfl⟩
 obtain⟨u14,t14⟩:∃ u,G.tmps.getD 14 undef=u:=⟨_,rfl⟩
 obtain⟨u15,t15⟩:∃ u,G.tmps.getD 15 undef=u:=⟨_,rfl⟩
 obtain⟨u16,t16⟩:∃ u,G.tmps.getD 16 undef=u:=⟨_,rfl⟩
 obtain⟨u17,t17⟩:∃ u,G.tmps.getD 17 undef=u:=⟨_,rfl⟩
 obtain⟨u18,t18⟩:∃ u,G.tmps.getD 18 undef=u:=⟨_,rfl⟩
 obtain⟨u19,t19⟩:∃ u,G.tmps.getD 19 undef=u:=⟨_,rfl⟩
 obtain⟨u20,t20⟩:∃ u,G.tmps.getD 20 undef=u:=⟨_,rfl⟩
 obtain⟨u21,t21⟩:∃ u,G.tmps.getD 21 undef=u:=⟨_,rfl⟩
 obtain⟨u22,t22⟩:∃ u,G.tmps.getD 22 undef=u:=⟨_,rfl⟩
 obtain⟨u23,t23⟩:∃ u,G.tmps.getD 23 undef=u:=⟨_,rfl⟩
 obtain⟨u24,t24⟩:∃ u,G.tmps.getD 24 undef=u:=⟨_,rfl⟩
 obtain⟨u25,t25⟩:∃ u,G.tmps.getD 25 undef=u:=⟨_,rfl⟩
 obtain⟨u26,t26⟩:∃ u,G.tmps.getD 26 undef=u:=⟨_,rfl⟩
 obtain⟨u27,t27⟩:∃ u,G.tmps.getD 27 undef=u:=⟨_,rfl⟩
 obtain⟨u28,t28⟩:∃ u,G.tmps.getD 28 undef=u:=⟨_,rfl⟩
 obtain⟨u29,t29⟩:∃ u,G.tmps.getD 29 undef=u:=⟨_,rfl⟩
 obtain⟨u30,t30⟩:∃ u,G.tmps.getD 30 undef=u:=⟨_,rfl⟩
 obtain⟨u31,t31⟩:∃ u,G.tmps.getD 31 undef=u:=⟨_,rfl⟩
 obtain⟨u32,t32⟩:∃ u,G.tmps.getD 32 undef=u:=⟨_,rfl⟩
 obtain⟨tm,df⟩:=G;simp only at *;have hLt:=arr_lit4 tm;rw[hsz]at hLt;simp only[List.range,List.range.loop,List.map]at hLt;rw[s0,t1,t2,s3,s4,s5',s6',t7,t8,t9,t10,t11,t12,t13,t14,t15,t16,t17,t18,t19,t20,t21,t22,t23,t24,t25,t26,t27,t28,t29,t30,t31,t32]at hLt;subst hLt hdf;clear s0 t1 t2 s3 s4 s5' s6' t7 t8 t9 t10 t11 t12 t13 t14 t15 t16 t17 t18 t19 t20 t21 t22 t23 t24 t25 t26 t27 t28 t29 t30 t31 t32 hsz;have HV0:=Lib.hid (heap_alloc_new w5 (.cells (#[.int .u64 0,.int .u64 0,.int .u64 0,.int .u64 0,.int .u64 0,.int .u64 0,.int .u64 0,.int .u64 0,.int .u64 0,.int .u64 0,.int .u64 0,.int .u64 0,.int .u64 0,.int .u64 0,.int .u64 0,.int .u64 0,.int .u64 0,.int .u64 0,.int .u64 0,.int .u64 0,.int .u64 0,.int .u64 0,.int .u64 0,.int .u64 0,.int .u64 0,.int .u64 0,.int .u64 0,.int .u64 0,.int .u64 0,.int .u64 0,.int .u64 0,.int .u64 0,.int .u64 0,.int .u64 0,.int .u64 0,.int .u64 0,.int .u64 0,.int .u64 0,.int .u64 0,.int .u64 0,.int .u64 0,.int .u64 0,.int .u64 0,.int .u64 0,.int .u64 0,.int .u64 0,.int .u64 0,.int .u64 0,.int .u64 0,.int .u64 0,.int .u64 0,.int .u64 0,.int .u64 0,.int .u64 0,.int .u64 0,.int .u64 0,.int .u64 0,.int .u64 0,.int .u64 0,.int .u64 0,.int .u64 0,.int .u64 0,.int .u64 0,.int .u64 0]) 163));have HT0:=Lib.hid (CTb.start H6.out (fun j=>if j=0 then eo else 0))
 go_wp2_with (first | (refine wpList_ld rfl 24 _ rfl (.pointer (some ⟨D,0,none⟩)) (.agg #[.int .u64 ((pN eo 0:Nat):Int),.int .u64 ((pN eo 1:Nat):Int),.int .u64 ((pN eo 2:Nat):Int),.int .u64 ((pN eo 3:Nat):Int)]) rfl (by rw[<- pw4];exact ld_pw (by exact H6.out.rg)) ?_) | (refine wpList_store_row rfl 163 _ _ rfl w5.heap.size (ar .u64 64 (tabF (fun j=>if j=0 then eo else 0))) rfl (by kernel_rfl) 163 (#[.int .u64 0,.int .u64 0,.int .u64 0,.int .u64 0,.int .u64 0,.int .u64 0,.int .u64 0,.int .u64 0,.int .u64 0,.int .u64 0,.int .u64 0,.int .u64 0,.int .u64 0,.int .u64 0,.int .u64 0,.int .u64 0,.int .u64 0,.int .u64 0,.int .u64 0,.int .u64 0,.int .u64 0,.int .u64 0,.int .u64 0,.int .u64 0,.int .u64 0,.int .u64 0,.int .u64 0,.int .u64 0,.int .u64 0,.int .u64 0,.int .u64 0,.int .u64 0,.int .u64 0,.int .u64 0,.int .u64 0,.int .u64 0,.int .u64 0,.int .u64 0,.int .u64 0,.int .u64 0,.int .u64 0,.int .u64 0,.int .u64 0,.int .u64 0,.int .u64 0,.int .u64 0,.int .u64 0,.int .u64 0,.int .u64 0,.int .u64 0,.int .u64 0,.int .u64 0,.int .u64 0,.int .u64 0,.int .u64 0,.int .u64 0,.int .u64 0,.int .u64 0,.int .u64 0,.int .u64 0,.int .u64 0,.int .u64 0,.int .u64 0,.int .u64 0]) (by exact HV0.out) (by rw[ar_size];exact info64) (by rw[ar_size];rfl) (ar_one _ _ _) ?_))
 obtain⟨w6,hw6⟩:∃ w6,(w5.alloc (.cells (#[.int .u64 0,.int .u64 0,.int .u64 0,.int .u64 0,.int .u64 0,.int .u64 0,.int .u64 0,.int .u64 0,.int .u64 0,.int .u64 0,.int .u64 0,.int .u64 0,.int .u64 0,.int .u64 0,.int .u64 0,.int .u64 0,.int .u64 0,.int .u64 0,.int .u64 0,.int .u64 0,.int .u64 0,.int .u64 0,.int .u64 0,.int .u64 0,.int .u64 0,.int .u64 0,.int .u64 0,.int .u64 0,.int .u64 0,.int .u64 0,.int .u64 0,.int .u64 0,.int .u64 0,.int .u64 0,.int .u64 0,.int .u64 0,.int .u64 0,.int .u64 0,.int .u64 0,.int .u64 0,.int .u64 0,.int .u64 0,.int .u64 0,.int .u64 0,.int .u64 0,.int .u64 0,.int .u64 0,.int .u64 0,.int .u64 0,.int .u64 0,.int .u64 0,.int .u64 0,.int .u64 0,.int .u64 0,.int .u64 0,.int .u64 0,.int .u64 0,.int .u64 0,.int .u64 0,.int .u64 0,.int .u64 0,.int .u64 0,.int .u64 0,.int .u64 0]) 163)).setRow w5.heap.size (ar .u64 64 (tabF (fun j=>if j=0 then eo else 0)))=w6:=⟨_,rfl⟩
 obtain⟨V,hV⟩:∃ V,w5.heap.size=V:=⟨_,rfl⟩
 rw[hw6,hV]at HT0;rw[hw6,hV];replace HT0:=Lib.hid (show CTb w F m ao D E eo fo V (tabQ m ao 0) w6 from by rw[<- tabQ_0,HE.out.1];exact HT0.out);clear hw6 hV HV0 H6
 go_loopw [19] (fun iv wr=>∃ k:Nat,k<=15/\iv=.int .i64 k/\Hid (CTb w F m ao D E eo fo V (tabQ m ao k) wr)) (fun iv _=>15 - (intOf iv).toNat)
 case atStart=>exact⟨0,by omega,rfl,HT0⟩
 case round =>
  obtain⟨k,hk,rfl,H⟩:=hrel;clear HT0;have hk0:(0:Int)<=k:=by omega
  by_cases hlt:k<15
  ·have hlt':(k:Int)<15:=by omega
   have HT:=Lib.hid (fun wx (c:CTb w F m ao D E eo fo V (tabQ m ao k) wx)=>(times_any F m (pwq m ao k) fo (Nat.lt_trans (pwq_lt HO.out.2.1 ao k) HO.out.2.2) (by rw[<- HE.out.2];exact Nat.lt_trans (Nat.mod_lt _ (by have:=HO.out.2.1;omega)) HO.out.2.2) (prod_lt (Nat.lt_trans (pwq_lt HO.out.2.1 ao k) HO.out.2.2) (by rw[<- HE.out.2];exact Nat.mod_lt _ (by have:=HO.out.2.1;omega))) wx c.k.c.fld).mono fun e w' hh=>(⟨by rw[hh.1,<- HE.out.2,pwq_next HO.out.1 HO.out.2.1],c.below hh.2⟩:e=.returned (.agg (pw (pwq m ao (k+1))))/\CTb w F m ao D E eo fo V (tabQ m ao k) w'));have HN:=Lib.hid (tabQ_next m ao k);have HQK:=Lib.hid (show tabQ m ao k k=pwq m ao k from by unfold tabQ;rw[if_pos (Nat.le_refl _)]);obtain⟨k1,hk1⟩:∃ k1,k+1=k1:=⟨_,rfl⟩
   obtain⟨x,hx⟩:∃ x,pwq m ao k=x:=⟨_,rfl⟩
   obtain⟨y,hy⟩:∃ y,pwq m ao k1=y:=⟨_,rfl⟩
   obtain⟨q,hq⟩:∃ q,tabQ m ao k=q:=⟨_,rfl⟩
   obtain⟨q1,hq1⟩:∃ q1,tabQ m ao k1=q1:=⟨_,rfl⟩
   rw[hk1,hx,hy,hq]at HT;rw[hk1,hy,hq,hq1]at HN;rw[hx,hq]at HQK;rw[hq]at H;have HAD:=Lib.hid (show ∀ w,(binOp BinOp.add 3 (.int .i64 (k:Nat)) (.int .i64 1)).run Tryz.prog w=.ok (.int .i64 (k1:Nat)) w from fun w=>by
    have e:(k:Int)+1=(k1:Int):=by omega
    have e2:IntKind.i64.wrap (k1:Int)=(k1:Int):=by rw[IntKind.wrap_i64];omega
    go_simp)
   have HK:=Lib.hid (And.intro hlt (And.intro hk1 hq1));clear hk1 hx hy hq hq1 hlt hk
   go_wp2_with fail
   refine region_quiet_tail 9 (CTb w F m ao D E eo fo V q) (by kernel_rfl) (by kernel_rfl) (H.out.drew) ?_;simp only[List.take_succ_cons,List.take_zero,List.drop_succ_cons,List.drop_zero]
   with_reducible refine q_val (.int .i64 (k:Nat)) (by kernel_rfl) (fun _ _=>by kernel_rfl) ?_
   with_reducible refine q_bin .add 3 (.tmp 22) _ 3 (.int .i64 (k:Nat)) (.int .i64 1) (.int .i64 (k1:Nat)) rfl (by kernel_rfl) (by kernel_rfl) (by kernel_rfl) (fun _=>by kernel_rfl) (fun w'=>HAD.out w') ?_
   with_reducible refine q_val (.pointer (some ⟨F,0,none⟩)) (by kernel_rfl) (fun _ _=>by kernel_rfl) ?_
   with_reducible refine q_val (.int .i64 (k:Nat)) (by kernel_rfl) (fun _ _=>by kernel_rfl) ?_
   with_reducible refine q_sem2 (Instr.indexAt 163 (.pointer (some ⟨V,0,none⟩)) (.int .i64 (k:Nat))) (.pointer (some ⟨V,k*4,none⟩)) (by kernel_rfl) (by kernel_rfl) (fun w' _=>ix_tab V k (by have:=HK.out;omega) w') ?_
   with_reducible refine q_load 24 (.tmp 26) (.pointer (some ⟨V,k*4,none⟩)) (.agg (pw x)) rfl (by kernel_rfl) (by kernel_rfl) (fun _ c=>(ld_tab c.rV k (by have:=HK.out;omega)).trans (by rw[HQK.out])) ?_
   with_reducible refine q_load 24 (.tmp 6) (.pointer (some ⟨E,0,none⟩)) (.agg (pw fo)) rfl (by kernel_rfl) (by kernel_rfl) (fun _ c=>ld_pw c.k.rh) ?_
   with_reducible refine q_call 108 #[.pointer (some ⟨F,0,none⟩),.agg (pw x),.agg (pw fo)] (.agg (pw y)) (by kernel_rfl) (fun _=>by kernel_rfl) (HT.out) ?_
   with_reducible refine q_sem2 (Instr.indexAt 163 (.pointer (some ⟨V,0,none⟩)) (.int .i64 (k1:Nat))) (.pointer (some ⟨V,k1*4,none⟩)) (by kernel_rfl) (by kernel_rfl) (fun w' _=>ix_tab V k1 (by have:=HK.out;omega) w') ?_
   with_reducible refine wpQuiet_nil ?_
   intro wx hC;have HC:=Lib.hid hC;clear hC H HT;simp only[Act.put,List.setIfInBounds_toArray,List.set_cons_succ,List.set_cons_zero];have HP:=Lib.hid (HC.out.put k1 y (by have:=HK.out;omega));rw[HN.out]at HP;have hth:=tab_there HC.out.rV k1 (by have:=HK.out;omega) y;clear HC
   go_wp2_with (refine wpList_store_mid rfl 24 _ _ rfl V (k1*4) (pw y) rfl rfl (by exact hth) (by rw[pw_size];exact infoW4) (pw_one _) ?_)
   go_roundw
   case rel=>exact⟨k1,by have:=HK.out;omega,by rw[show((k1:Nat):Int)=(k:Int)+1 by have:=HK.out;omega],by rw[HK.out.2.2];exact HP⟩
   case measure=>have:=HK.out;simp[intOf];omega
  ·obtain rfl:k=15:=by omega
   have hlt':¬((15:Nat):Int)<15:=by omega
   obtain⟨q,hq⟩:∃ q,tabQ m ao 15=q:=⟨_,rfl⟩
   rw[hq]at H;have HQ:=Lib.hid hq;clear hq;have HI:Hid ((Tryz.prog.info? 163).map (·.size)=some (ar .u64 64 (tabF q)).size):=Lib.hid (by rw[ar_size];exact info64);simp only[Int.cast_ofNat_Int]
   go_wp2_with (first | (refine wpList_load_row rfl 163 _ rfl V rfl 163 (ar .u64 64 (tabF q)) (0,0) _ (by exact H.out.rV) Tryz.underlying163 rfl HI.out ?_) | (refine wpList_store_row rfl 163 _ _ rfl (w.heap.size+1) (ar .u64 64 (tabF q)) rfl rfl 163 (#[.int .u64 0,.int .u64 0,.int .u64 0,.int .u64 0,.int .u64 0,.int .u64 0,.int .u64 0,.int .u64 0,.int .u64 0,.int .u64 0,.int .u64 0,.int .u64 0,.int .u64 0,.int .u64 0,.int .u64 0,.int .u64 0,.int .u64 0,.int .u64 0,.int .u64 0,.int .u64 0,.int .u64 0,.int .u64 0,.int .u64 0,.int .u64 0,.int .u64 0,.int .u64 0,.int .u64 0,.int .u64 0,.int .u64 0,.int .u64 0,.int .u64 0,.int .u64 0,.int .u64 0,.int .u64 0,.int .u64 0,.int .u64 0,.int .u64 0,.int .u64 0,.int .u64 0,.int .u64 0,.int .u64 0,.int .u64 0,.int .u64 0,.int .u64 0,.int .u64 0,.int .u64 0,.int .u64 0,.int .u64 0,.int .u64 0,.int .u64 0,.int .u64 0,.int .u64 0,.int .u64 0,.int .u64 0,.int .u64 0,.int .u64 0,.int .u64 0,.int .u64 0,.int .u64 0,.int .u64 0,.int .u64 0,.int .u64 0,.int .u64 0,.int .u64 0]) (by exact H.out.k.c.r1) HI.out (by rw[ar_size];rfl) (ar_one _ _ _) ?_))
   (try simp only[Act.put,List.setIfInBounds_toArray,List.set_cons_succ,List.set_cons_zero])
   refine bodyPost_ret (v:=.agg (ar .u64 64 (tabF q))) (results_cell_row (p:=4) rfl _ _ (w.heap.size+1) 163 (ar .u64 64 (tabF q)) (0,0) _ rfl (setRow_heap _ _ _ _ _ _ H.out.k.c.r1) Tryz.underlying163 rfl HI.out) rfl ⟨by rw[HQ.out],below_setRow H.out.k.c.old (by omega) _⟩
end Go.Proofs.YtadfjjfklihaaaaGreat
