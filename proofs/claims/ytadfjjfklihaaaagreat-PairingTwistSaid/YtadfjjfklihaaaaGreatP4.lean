/- What '==' says of two words' values. (Cut to what is reached, written closely: FRow · FMnt · Tie1 · Pw · Eq.) -/
import Derived.Test.YtadfjjfklihaaaaGreatP3
import Derived.Laws.Bits64b
import Derived.Test.YtadfjjfklihaaaaGreatP1
import Derived.Laws.Rows
set_option linter.all false
set_option maxRecDepth 100000
set_option maxHeartbeats 8000000
namespace Go.Proofs.YtadfjjfklihaaaaGreat
open Go.RowKit
structure CA (w:World) (S:Nat) (B o:Nat) (a:Nat->Nat) (s:Nat->Nat) (wx:World):Prop where
 bt:Bt S w wx
 row:wx.heap[S]?=some (.cells (ar .u64 8 fun j=>(s j:Nat)) 106 (0,0))
 rd:∀ j,j<4->wx.cell? ⟨B,o+j,none⟩=some (.int .u64 (a j:Nat))
 hB:B≠S
theorem CA.drew{w wx:World}{S B o:Nat}{a s:Nat->Nat}(c:CA w S B o a s wx):CA w S B o a s wx.drew:=⟨c.bt.drew,c.row,c.rd,c.hB⟩
theorem CA.drewN{w wx:World}{S B o:Nat}{a s:Nat->Nat}(c:CA w S B o a s wx)(n:Nat):CA w S B o a s (wx.drewN n):=⟨⟨c.bt.os,c.bt.tape,c.bt.output,c.bt.size,c.bt.block⟩,c.row,c.rd,c.hB⟩
theorem CA.at_{w wx:World}{S B o:Nat}{a s:Nat->Nat}(c:CA w S B o a s wx)(j:Nat)(hj:j<8):wx.cell? ⟨S,j,none⟩=some (.int .u64 (s j:Nat)):=(cell_of_row _ _ j _ _ _ c.row).trans (ar_at _ _ _ _ hj)
def updN(s:Nat->Nat)(p y j:Nat):Nat:=if j=p then y else s j
theorem updI_N(s:Nat->Nat)(p y:Nat):updI (fun j=>((s j:Nat):Int)) p (y:Int)=fun j=>((updN s p y j:Nat):Int):=by
 funext j
 unfold updI updN;by_cases e:j=p
 ·rw[if_pos e,if_pos e]
 ·rw[if_neg e,if_neg e]
theorem CA.set{w wx:World}{S B o:Nat}{a s:Nat->Nat}(c:CA w S B o a s wx)(p y:Nat)(hp:p<8):CA w S B o a (updN s p y) (wx.setCell ⟨S,p,none⟩ (.int .u64 (y:Nat))) :=
 ⟨c.bt.set _,(heap_setCell_same _ _ _ _ _ _ c.row).trans (by rw[ar_set _ _ _ _ _ hp,updI_N]),fun j hj=>(World.cell?_setCell_other _ _ _ _ (by intro e;injection e with e1 e2;exact c.hB e1.symm)).trans (c.rd j hj),c.hB⟩
theorem CA.store{w wx:World}{S B o:Nat}{a s:Nat->Nat}(c:CA w S B o a s wx)(p y:Nat)(hp:p<8):(Instr.storeAt 22 (.pointer (some ⟨S,p,none⟩)) (.int .u64 (y:Nat))).run Tryz.prog wx=.ok () (wx.setCell ⟨S,p,none⟩ (.int .u64 (y:Nat))) :=
 store_u64 _ _ _ _ _ (c.at_ p hp) (frozen_of_row _ _ p _ _ c.row)
structure RowI (s a:Nat->Nat) (i x k c:Nat) (s':Nat->Nat):Prop where
 lt:∀ t,s' t<18446744073709551616
 out:∀ t,t<i\/i+k<=t->s' t=s t
 clt:c<18446744073709551616
 sum:val (fun j=>s' (i+j)) k+18446744073709551616^k*c=val (fun j=>s (i+j)) k+x*val a k
theorem RowI.next{s a s':Nat->Nat}{i x k c l h:Nat}(H:RowI s a i x k c s')(hl:l<18446744073709551616)(hh:h<18446744073709551616)(he:l+18446744073709551616*h=x*a k+s' (i+k)+c):RowI s a i x (k+1) h (updN s' (i+k) l):=by
 refine⟨fun t=>?_,fun t ht=>?_,hh,?_⟩
 ·unfold updN
  split
  ·exact hl
  ·exact H.lt t
 ·unfold updN
  rw[if_neg (by omega)];exact H.out t (by omega)
 ·have h1:=H.sum
  have h2:s' (i+k)=s (i+k):=H.out _ (.inr (Nat.le_refl _));simp only[val];rw[val_congr (f:=fun j=>updN s' (i+k) l (i+j)) (g:=fun j=>s' (i+j)) (fun j hj=>by show updN s' (i+k) l (i+j)=_;unfold updN;rw[if_neg (by omega)])];rw[show updN s' (i+k) l (i+k)=l from if_pos rfl];obtain⟨P,hP⟩:∃ P,18446744073709551616^k=P:=⟨_,rfl⟩
  rw[hP]at h1;rw[Nat.pow_succ,hP];rw[h2]at he;have e1:P*l+P*18446744073709551616*h=P*(x*a k+s (i+k)+c):=by rw[<- he,Nat.mul_add,Nat.mul_assoc]
  have e2:P*(x*a k+s (i+k)+c)=P*(x*a k)+P*s (i+k)+P*c:=by rw[Nat.mul_add,Nat.mul_add]
  have e3:x*(val a k+P*a k)=x*val a k+P*(x*a k):=by rw[Nat.mul_add,Nat.mul_left_comm]
  rw[e3];omega
theorem at4p(V o j:Nat)(hj:j<4)(w:World):(Instr.indexAt 24 (.pointer (some ⟨V,o,none⟩)) (.int .i64 (j:Nat))).run Tryz.prog w=.ok (.pointer (some ⟨V,o+j,none⟩)) w:=by
 have h0:(0:Int)<=j:=by omega
 have h1:(j:Int)<4:=by omega
 go_simp
-- WHAT addTimes COMES TO.
theorem addTimes_any(S B o u x:Nat)(a s:Nat->Nat)(hi:u<=4)(hx:x<18446744073709551616)(ha:∀ j,a j<18446744073709551616)(hs:∀ j,s j<18446744073709551616)(hB:B≠S)(w:World)
  (hS:w.heap[S]?=some (.cells (ar .u64 8 fun j=>(s j:Nat)) 106 (0,0))) (hA:∀ j,j<4->w.cell? ⟨B,o+j,none⟩=some (.int .u64 (a j:Nat))) :
  Calls Tryz.prog 132 #[.pointer (some ⟨S,u,none⟩),.pointer (some ⟨B,o,none⟩),.int .u64 x] w fun e w'=>∃(c:Nat) (s':Nat->Nat),e=.returned (.int .u64 c)/\RowI s a u x 4 c s'/\CA w S B o a s' w':=by
 have H0:=Lib.hid (show CA w S B o a s w from⟨Bt.refl _ _,hS,hA,hB⟩);have HX:=Lib.hid (And.intro hx (And.intro ha hi));have HI:=Lib.hid (show RowI s a u x 0 0 s from⟨hs,fun _ _=>rfl,by omega,by simp[val]⟩);clear hS hA hB hx ha hs hi;go_enter Tryz.func132,Tryz.ntmps132
 go_wp2_with fail
 go_loopw [7,11] (fun cv iv wr=>∃(k c:Nat) (s':Nat->Nat),k<=4/\cv=.int .u64 c/\iv=.int .i64 k/\Hid (RowI s a u x k c s'/\CA w S B o a s' wr)) (fun _ iv _=>4 - (intOf iv).toNat)
 case atStart=>exact⟨0,0,s,by omega,rfl,rfl,Lib.hid ⟨HI.out,H0.out⟩⟩
 case round =>
  obtain⟨k,c,s',hk,rfl,rfl,H⟩:=hrel;clear HI H0;have hk0:(0:Int)<=k:=by omega
  by_cases hlt:k<4
  ·have hlt':(k:Int)<4:=by omega
   have ca:=H.out.2.rd k hlt;obtain⟨p,hp⟩:∃ p,u+k=p:=⟨_,rfl⟩
   have hp8:p<8:=by have:=HX.out.2.2;omega
   obtain⟨y,hy⟩:∃ y,a k=y:=⟨_,rfl⟩
   obtain⟨z,hz⟩:∃ z,s' p=z:=⟨_,rfl⟩
   obtain⟨l,h,hl,hh,he,hM⟩:=fmulAdd_ex x y z c HX.out.1 (by rw[<- hy];exact HX.out.2.1 k) (by rw[<- hz];exact H.out.1.lt p) H.out.1.clt;have HN:=Lib.hid (show RowI s a u x (k+1) h (updN s' p l) from by
    rw[<- hp];exact H.out.1.next hl hh (by rw[hp,hz,hy];exact he))
   have HC:=Lib.hid H.out.2;have HM:=Lib.hid hM;have HP:=Lib.hid (And.intro hp (And.intro hp8 hz));have HK:=Lib.hid hlt;rw[hy]at ca;clear hp hp8 hy hz hl hh he hM H
   go_wp2_with fail
   go_quiet (fail)
   go_wp2_with fail
   refine region_tieS (CA w S B o a s') (CA w S B o a (updN s' p l)) 16 (fun i s wx=>match i with | 0=>s 18=(.pointer (some ⟨S,u,none⟩)) | 1=>s 19=(.int .i64 (k:Nat)) | 2=>s 20=(.int .u64 x) | 3=>s 21=(.int .u64 y) | 4=>s 22=(.pointer (some ⟨S,u,none⟩)) | 5=>s 23=(.int .i64 (k:Nat)) | 6=>s 24=(.pointer (some ⟨S,u,none⟩)) | 7=>s 25=(.pointer (some ⟨S,p,none⟩)) | 8=>s 26=(.int .u64 z) | 9=>s 27=(.int .u64 c) | 10=>s 28=(.tuple #[.int .u64 l,.int .u64 h]) | 11=>s 17=(.tuple #[.int .u64 l,.int .u64 h]) | 12=>s 29=(.int .u64 l) | 13=>s 30=(.int .u64 h) | 14=>s 31=(.pointer (some ⟨S,u,none⟩)) | 15=>s 32=(.pointer (some ⟨S,p,none⟩)) | 16=>True | 17=>s 7=(.int .u64 h) | _=>True) (fun _ _=>True) (fun i=>match i with | 0=>[18] | 1=>[19] | 2=>[20] | 3=>[21] | 4=>[22] | 5=>[23] | 6=>[24] | 7=>[25] | 8=>[26] | 9=>[27] | 10=>[28] | 11=>[17] | 12=>[29] | 13=>[30] | 14=>[31] | 15=>[32] | 16=>[] | 17=>[7] | _=>[]) (fun i=>i) (by kernel_rfl) (by kernel_rfl) (by kernel_rfl) (HC.out.drewN nq).drew ?_ ?_ ?_ ?_
   ·intro i s s' wx he hp
    match i,he,hp with
    | 0,he,hp=>exact(he 18 (by simp)).symm.trans hp
    | 1,he,hp=>exact(he 19 (by simp)).symm.trans hp
    | 2,he,hp=>exact(he 20 (by simp)).symm.trans hp
    | 3,he,hp=>exact(he 21 (by simp)).symm.trans hp
    | 4,he,hp=>exact(he 22 (by simp)).symm.trans hp
    | 5,he,hp=>exact(he 23 (by simp)).symm.trans hp
    | 6,he,hp=>exact(he 24 (by simp)).symm.trans hp
    | 7,he,hp=>exact(he 25 (by simp)).symm.trans hp
    | 8,he,hp=>exact(he 26 (by simp)).symm.trans hp
    | 9,he,hp=>exact(he 27 (by simp)).symm.trans hp
    | 10,he,hp=>exact(he 28 (by simp)).symm.trans hp
    | 11,he,hp=>exact(he 17 (by simp)).symm.trans hp
    | 12,he,hp=>exact(he 29 (by simp)).symm.trans hp
    | 13,he,hp=>exact(he 30 (by simp)).symm.trans hp
    | 14,he,hp=>exact(he 31 (by simp)).symm.trans hp
    | 15,he,hp=>exact(he 32 (by simp)).symm.trans hp
    | 16,he,hp=>trivial
    | 17,he,hp=>exact(he 7 (by simp)).symm.trans hp
    | _+18,_,_=>trivial
   ·intro i s wa wb hR hp
    match i,hp with
    | 0,hp=>exact hp
    | 1,hp=>exact hp
    | 2,hp=>exact hp
    | 3,hp=>exact hp
    | 4,hp=>exact hp
    | 5,hp=>exact hp
    | 6,hp=>exact hp
    | 7,hp=>exact hp
    | 8,hp=>exact hp
    | 9,hp=>exact hp
    | 10,hp=>exact hp
    | 11,hp=>exact hp
    | 12,hp=>exact hp
    | 13,hp=>exact hp
    | 14,hp=>exact hp
    | 15,hp=>exact hp
    | 16,hp=>exact hp
    | 17,hp=>exact hp
    | _+18,_=>trivial
   ·refine⟨?_,?_,?_,?_,?_,?_,?_,?_,?_,?_,?_,?_,?_,?_,?_,?_,?_,?_,?_,?_,?_,?_,?_,?_,?_,?_,?_,?_,?_,?_,?_,?_,?_,?_,?_,?_,trivial⟩
    ·intro a_ wx hC hsz hK
     refine⟨by kernel_rfl,?_⟩;have h0:a_.tmps.getD 0 undef=(.pointer (some ⟨S,u,none⟩)):=hK.1 0 (by kernel_rfl);exact tt_val ((.pointer (some ⟨S,u,none⟩))) (by kernel_rfl) (by rw[<- h0];kernel_rfl) hC (slots_put _ _ _ (by rw[hsz];exact of_decide_eq_true (by kernel_rfl))) trivial
    ·exact .inl (by kernel_rfl)
    ·intro a_ wx hC hsz hK
     refine⟨by kernel_rfl,?_⟩;have h0:a_.tmps.getD 8 undef=(.int .i64 (k:Nat)):=hK.1 8 (by kernel_rfl);exact tt_val ((.int .i64 (k:Nat))) (by kernel_rfl) (by rw[<- h0];kernel_rfl) hC (slots_put _ _ _ (by rw[hsz];exact of_decide_eq_true (by kernel_rfl))) trivial
    ·exact .inl (by kernel_rfl)
    ·intro a_ wx hC hsz hK
     refine⟨by kernel_rfl,?_⟩;have h0:a_.tmps.getD 2 undef=(.int .u64 x):=hK.1 2 (by kernel_rfl);exact tt_val ((.int .u64 x)) (by kernel_rfl) (by rw[<- h0];kernel_rfl) hC (slots_put _ _ _ (by rw[hsz];exact of_decide_eq_true (by kernel_rfl))) trivial
    ·exact .inl (by kernel_rfl)
    ·intro a_ wx hC hsz hK
     refine⟨by kernel_rfl,?_⟩;have h0:a_.tmps.getD 9 undef=(.int .u64 y):=hK.1 9 (by kernel_rfl);exact tt_val ((.int .u64 y)) (by kernel_rfl) (by rw[<- h0];kernel_rfl) hC (slots_put _ _ _ (by rw[hsz];exact of_decide_eq_true (by kernel_rfl))) trivial
    ·exact .inl (by kernel_rfl)
    ·intro a_ wx hC hsz hK
     refine⟨by kernel_rfl,?_⟩;have h0:a_.tmps.getD 0 undef=(.pointer (some ⟨S,u,none⟩)):=hK.1 0 (by kernel_rfl);exact tt_val ((.pointer (some ⟨S,u,none⟩))) (by kernel_rfl) (by rw[<- h0];kernel_rfl) hC (slots_put _ _ _ (by rw[hsz];exact of_decide_eq_true (by kernel_rfl))) trivial
    ·exact .inl (by kernel_rfl)
    ·intro a_ wx hC hsz hK
     refine⟨by kernel_rfl,?_⟩;have h0:a_.tmps.getD 8 undef=(.int .i64 (k:Nat)):=hK.1 8 (by kernel_rfl);exact tt_val ((.int .i64 (k:Nat))) (by kernel_rfl) (by rw[<- h0];kernel_rfl) hC (slots_put _ _ _ (by rw[hsz];exact of_decide_eq_true (by kernel_rfl))) trivial
    ·exact .inl (by kernel_rfl)
    ·intro a_ wx hC hsz hK
     refine⟨by kernel_rfl,?_⟩;have h0:a_.tmps.getD 22 undef=(.pointer (some ⟨S,u,none⟩)):=hK.2 ⟨4,.data⟩ (by simp) rfl _ rfl;exact tt_val ((.pointer (some ⟨S,u,none⟩))) (by kernel_rfl) (run_nil (.tmp 22) _ rfl h0) hC (slots_put _ _ _ (by rw[hsz];exact of_decide_eq_true (by kernel_rfl))) trivial
    ·exact .inl (by kernel_rfl)
    ·intro a_ wx hC hsz hK
     refine⟨by kernel_rfl,?_⟩;have h0:a_.tmps.getD 24 undef=(.pointer (some ⟨S,u,none⟩)):=hK.2 ⟨6,.data⟩ (by simp) rfl _ rfl;have h1:a_.tmps.getD 23 undef=(.int .i64 (k:Nat)):=hK.2 ⟨5,.data⟩ (by simp) rfl _ rfl;refine tt_v (Instr.indexAt 24 (a_.tmps.getD 24 undef) (a_.tmps.getD 23 undef)) ((.pointer (some ⟨S,p,none⟩))) (by kernel_rfl) (by kernel_rfl) ?_ hC (slots_put _ _ _ (by rw[hsz];exact of_decide_eq_true (by kernel_rfl))) trivial;rw[h0,h1];exact by rw[<- HP.out.1];exact at4p _ _ _ HK.out wx
    ·exact .inl (by kernel_rfl)
    ·intro a_ wx hC hsz hK
     refine⟨by kernel_rfl,?_⟩;have h0:a_.tmps.getD 25 undef=(.pointer (some ⟨S,p,none⟩)):=hK.2 ⟨7,.data⟩ (by simp) rfl _ rfl;exact tt_load 22 (.tmp 25) ((.pointer (some ⟨S,p,none⟩))) ((.int .u64 z)) rfl (by kernel_rfl) h0 (by rw[<- HP.out.2.2];exact load_u64 _ _ _ _ (hC.at_ p HP.out.2.1)) hC (slots_put _ _ _ (by rw[hsz];exact of_decide_eq_true (by kernel_rfl))) trivial
    ·exact .inl (by kernel_rfl)
    ·intro a_ wx hC hsz hK
     refine⟨by kernel_rfl,?_⟩;have h0:a_.tmps.getD 7 undef=(.int .u64 c):=hK.1 7 (by kernel_rfl);exact tt_val ((.int .u64 c)) (by kernel_rfl) (by rw[<- h0];kernel_rfl) hC (slots_put _ _ _ (by rw[hsz];exact of_decide_eq_true (by kernel_rfl))) trivial
    ·exact .inl (by kernel_rfl)
    ·intro a_ wx hC hsz hK
     refine⟨by kernel_rfl,?_⟩;have h0:a_.tmps.getD 20 undef=(.int .u64 x):=hK.2 ⟨2,.data⟩ (by simp) rfl _ rfl;have h1:a_.tmps.getD 21 undef=(.int .u64 y):=hK.2 ⟨3,.data⟩ (by simp) rfl _ rfl;have h2:a_.tmps.getD 26 undef=(.int .u64 z):=hK.2 ⟨8,.data⟩ (by simp) rfl _ rfl;have h3:a_.tmps.getD 27 undef=(.int .u64 c):=hK.2 ⟨9,.data⟩ (by simp) rfl _ rfl;refine tt_call 143 #[a_.tmps.getD 20 undef,a_.tmps.getD 21 undef,a_.tmps.getD 26 undef,a_.tmps.getD 27 undef] (by kernel_rfl) (by kernel_rfl) ?_;rw[h0,h1,h2,h3];exact(HM.out wx).mono fun e w' hh=>⟨_,hh.1,hh.2 ▸ hC,(slots_put _ _ _ (by rw[hsz];exact of_decide_eq_true (by kernel_rfl))),trivial⟩
    ·exact .inl (by kernel_rfl)
    ·intro a_ wx hC hsz hK
     refine⟨by kernel_rfl,?_⟩;have h0:a_.tmps.getD 28 undef=(.tuple #[.int .u64 l,.int .u64 h]):=hK.2 ⟨10,.data⟩ (by simp) rfl _ rfl;exact tt_val ((.tuple #[.int .u64 l,.int .u64 h])) (by kernel_rfl) (by rw[<- h0];kernel_rfl) hC (slots_put _ _ _ (by rw[hsz];exact of_decide_eq_true (by kernel_rfl))) trivial
    ·exact .inl (by kernel_rfl)
    ·intro a_ wx hC hsz hK
     refine⟨by kernel_rfl,?_⟩;have h0:a_.tmps.getD 17 undef=(.tuple #[.int .u64 l,.int .u64 h]):=hK.2 ⟨11,.data⟩ (by simp) rfl _ rfl;exact tt_val ((.int .u64 l)) (by kernel_rfl) (run_ext (.tmp 17) 0 _ _ rfl h0 rfl) hC (slots_put _ _ _ (by rw[hsz];exact of_decide_eq_true (by kernel_rfl))) trivial
    ·exact .inl (by kernel_rfl)
    ·intro a_ wx hC hsz hK
     refine⟨by kernel_rfl,?_⟩;have h0:a_.tmps.getD 17 undef=(.tuple #[.int .u64 l,.int .u64 h]):=hK.2 ⟨11,.data⟩ (by simp) rfl _ rfl;exact tt_val ((.int .u64 h)) (by kernel_rfl) (run_ext (.tmp 17) 1 _ _ rfl h0 rfl) hC (slots_put _ _ _ (by rw[hsz];exact of_decide_eq_true (by kernel_rfl))) trivial
    ·refine .inr (.inr ?_)
     intro a_ wx hC hsz hK;refine⟨by kernel_rfl,?_⟩;have h0:a_.tmps.getD 17 undef=(.tuple #[.int .u64 l,.int .u64 h]):=hK.2 ⟨11,.data⟩ (by simp) rfl _ rfl;exact tt_val ((.int .u64 h)) (by kernel_rfl) (run_ext (.tmp 17) 1 _ _ rfl h0 rfl) hC (slots_put _ _ _ (by rw[hsz];exact of_decide_eq_true (by kernel_rfl))) trivial
    ·intro a_ wx hC hsz hK
     refine⟨by kernel_rfl,?_⟩;have h0:a_.tmps.getD 18 undef=(.pointer (some ⟨S,u,none⟩)):=hK.2 ⟨0,.data⟩ (by simp) rfl _ rfl;exact tt_val ((.pointer (some ⟨S,u,none⟩))) (by kernel_rfl) (run_nil (.tmp 18) _ rfl h0) hC (slots_put _ _ _ (by rw[hsz];exact of_decide_eq_true (by kernel_rfl))) trivial
    ·exact .inl (by kernel_rfl)
    ·intro a_ wx hC hsz hK
     refine⟨by kernel_rfl,?_⟩;have h0:a_.tmps.getD 31 undef=(.pointer (some ⟨S,u,none⟩)):=hK.2 ⟨14,.data⟩ (by simp) rfl _ rfl;have h1:a_.tmps.getD 19 undef=(.int .i64 (k:Nat)):=hK.2 ⟨1,.data⟩ (by simp) rfl _ rfl;refine tt_v (Instr.indexAt 24 (a_.tmps.getD 31 undef) (a_.tmps.getD 19 undef)) ((.pointer (some ⟨S,p,none⟩))) (by kernel_rfl) (by kernel_rfl) ?_ hC (slots_put _ _ _ (by rw[hsz];exact of_decide_eq_true (by kernel_rfl))) trivial;rw[h0,h1];exact by rw[<- HP.out.1];exact at4p _ _ _ HK.out wx
    ·exact .inl (by kernel_rfl)
    ·intro a_ wx hC hsz hK
     refine⟨by kernel_rfl,?_⟩;have h0:a_.tmps.getD 32 undef=(.pointer (some ⟨S,p,none⟩)):=hK.2 ⟨15,.data⟩ (by simp) rfl _ rfl;have h1:a_.tmps.getD 29 undef=(.int .u64 l):=hK.2 ⟨12,.data⟩ (by simp) rfl _ rfl;exact tt_store (by kernel_rfl) rfl (run_st 22 (.tmp 32) (.tmp 29) _ _ rfl h0 h1 (hC.store p l HP.out.2.1)) (hC.set p l HP.out.2.1) trivial trivial
    ·exact .inr (.inl rfl)
    ·intro a_ wx hC hsz hK
     refine⟨by kernel_rfl,?_⟩;have h0:a_.tmps.getD 30 undef=(.int .u64 h):=hK.2 ⟨13,.data⟩ (by simp) rfl _ rfl;exact tt_val ((.int .u64 h)) (by kernel_rfl) (by rw[<- h0];kernel_rfl) hC (slots_put _ _ _ (by rw[hsz];exact of_decide_eq_true (by kernel_rfl))) trivial
    ·refine .inr (.inr ?_)
     intro a_ wx hC hsz hK;refine⟨by kernel_rfl,?_⟩;have h0:a_.tmps.getD 30 undef=(.int .u64 h):=hK.2 ⟨13,.data⟩ (by simp) rfl _ rfl;exact tt_val ((.int .u64 h)) (by kernel_rfl) (by rw[<- h0];kernel_rfl) hC (slots_put _ _ _ (by rw[hsz];exact of_decide_eq_true (by kernel_rfl))) trivial
   intro f1 wy hCy hf;have s7:=hf 17 _ rfl;have HCy:=Lib.hid hCy;clear hCy hf HC HM;generalize hAct:putAll _ _ _=G at *;have s0':G.tmps.getD 0 undef=(.pointer (some ⟨S,u,none⟩)):=by subst hAct;kernel_rfl
   have s1':G.tmps.getD 1 undef=(.pointer (some ⟨B,o,none⟩)):=by subst hAct;kernel_rfl
   have s2':G.tmps.getD 2 undef=(.int .u64 x):=by subst hAct;kernel_rfl
   have s10':G.tmps.getD 10 undef=(.pointer (some ⟨B,o,none⟩)):=by subst hAct;kernel_rfl
   have s11':G.tmps.getD 11 undef=(.int .i64 (k:Nat)):=by subst hAct;kernel_rfl
   have s3':G.tmps.getD 3 undef=undef:=by subst hAct;kernel_rfl
   have s4':G.tmps.getD 4 undef=undef:=by subst hAct;kernel_rfl
   have s5':G.tmps.getD 5 undef=undef:=by subst hAct;kernel_rfl
   have s34':G.tmps.getD 34 undef=undef:=by subst hAct;kernel_rfl
   have s6':G.tmps.getD 6 undef=.int .u64 0:=by subst hAct;kernel_rfl
   have s7':G.tmps.getD 7 undef=.int .u64 h:=s7;have hsz:G.tmps.size=35:=by rw[<- hAct,putAll_size];rfl
   have hdf:G.defers=[]:=by subst hAct;kernel_rfl
   clear hAct s7;obtain⟨u8,t8⟩:∃ u,G.tmps.getD 8 undef=u:=⟨_,rfl⟩
   obtain⟨u9,t9⟩:∃ u,G.tmps.getD 9 undef=u:=⟨_,rfl⟩
   obtain⟨u12,t12⟩:∃ u,G.tmps.getD 12 undef=u:=⟨_,rfl⟩
   obtain⟨u13,t13⟩:∃ u,G.tmps.getD 13 undef=u:=⟨_,rfl⟩
   obtain⟨u14,t14⟩:∃ u,G.tmps.getD 14 undef=u:=⟨_,rfl⟩
   obtain⟨u15,t15⟩:∃ u,G.tmps.getD 15 undef=u:=⟨_,rfl⟩
   obtain⟨u16,t16⟩:∃ u,G.tmps.getD 16 undef=u:=⟨_,rfl⟩
   obtain⟨u17,t17⟩:∃ u,G.tmps.getD 17 undef=u:=⟨_,rfl⟩
   obtain⟨u18,t18⟩:∃ u,G.tmps.getD 18 undef=u:=⟨_,rfl⟩
   obtain⟨u19,t19⟩:∃ u,G.tmps.getD 19 undef=u:=⟨_,rfl⟩
   obtain⟨u20,t20⟩:∃ u,G.tmps.getD 20 undef=u:=⟨_,rfl⟩
   obtain⟨u21,t21⟩:∃ u,G.tmps.getD 21 undef=u:=⟨_,rfl⟩
   obtain⟨u22,t22⟩:∃ u,G.tmps.getD 22 undef=u:=⟨_,rfl⟩
   obtain⟨u23,t23⟩:∃ u,G.tmps.getD 23 undef=u:=⟨_,rfl⟩
   obtain⟨u24,t24⟩:∃ u,G.tmps.getD 24 undef=u:=⟨_,rfl⟩
   obtain⟨u25,t25⟩:∃ u,G.tmps.getD 25 undef=u:=⟨_,rfl⟩
   obtain⟨u26,t26⟩:∃ u,G.tmps.getD 26 undef=u:=⟨_,rfl⟩
   obtain⟨u27,t27⟩:∃ u,G.tmps.getD 27 undef=u:=⟨_,rfl⟩
   obtain⟨u28,t28⟩:∃ u,G.tmps.getD 28 undef=u:=⟨_,rfl⟩
   obtain⟨u29,t29⟩:∃ u,G.tmps.getD 29 undef=u:=⟨_,rfl⟩
   obtain⟨u30,t30⟩:∃ u,G.tmps.getD 30 undef=u:=⟨_,rfl⟩
   obtain⟨u31,t31⟩:∃ u,G.tmps.getD 31 undef=u:=⟨_,rfl⟩
   obtain⟨u32,t32⟩:∃ u,G.tmps.getD 32 undef=u:=⟨_,rfl⟩
   obtain⟨u33,t33⟩:∃ u,G.tmps.getD 33 undef=u:=⟨_,rfl⟩
   obtain⟨tm,df⟩:=G;simp only at *;have hLt:=arr_lit2 tm;rw[hsz]at hLt;simp only[List.range,List.range.loop,List.map]at hLt;rw[s0',s1',s2',s3',s4',s5',s6',s7',t8,t9,s10',s11',t12,t13,t14,t15,t16,t17,t18,t19,t20,t21,t22,t23,t24,t25,t26,t27,t28,t29,t30,t31,t32,t33,s34']at hLt;subst hLt hdf;clear s0' s1' s2' s3' s4' s5' s6' s7' t8 t9 s10' s11' t12 t13 t14 t15 t16 t17 t18 t19 t20 t21 t22 t23 t24 t25 t26 t27 t28 t29 t30 t31 t32 t33 s34' hsz
   go_wp2_with fail
   go_roundw
   case rel=>exact⟨k+1,h,updN s' p l,by have:=HK.out;omega,rfl,by go_num,Lib.hid ⟨HN.out,HCy.out⟩⟩
   case measure=>simp[intOf];omega
  ·obtain rfl:k=4:=by omega
   have hlt':¬((4:Nat):Int)<4:=by omega
   go_wp2_with fail
   go_ret;exact⟨c,rfl,s',H.out.1,H.out.2⟩
def rinv(m:Nat):Nat:=((m+1) / 2)^256%m
theorem rinv_eq{m:Nat}(ho:m%2=1)(h1:1<m):(2^256)*rinv m%m=1:=by
 unfold rinv;have e:(2^256:Nat)=2^256:=by decide
 rw[e,Nat.mul_mod,Nat.mod_mod,<- Nat.mul_mod,<- Nat.mul_pow,show 2*((m+1) / 2)=m+1 by omega,Nat.pow_mod,Nat.add_mod_left,Nat.mod_eq_of_lt h1,Nat.one_pow,Nat.mod_eq_of_lt h1]
def mnt(m a b:Nat):Nat:=a*b*rinv m%m
theorem mul_mod_l(a b m:Nat):a%m*b%m=a*b%m:=by rw[Nat.mul_mod,Nat.mod_mod,<- Nat.mul_mod]
theorem mul_mod_r(a b m:Nat):a*(b%m)%m=a*b%m:=by rw[Nat.mul_mod,Nat.mod_mod,<- Nat.mul_mod]
theorem mnt_uniq{m r a b:Nat}(ho:m%2=1)(h1:1<m)(hr:r<m)(h:r*2^256%m=a*b%m):r=mnt m a b:=by
 unfold mnt;rw[<- mul_mod_l,<- h,mul_mod_l,Nat.mul_assoc,<- mul_mod_r,rinv_eq ho h1,Nat.mul_one,Nat.mod_eq_of_lt hr]
theorem mnt_back{m:Nat}(ho:m%2=1)(h1:1<m)(a b:Nat):mnt m (a*2^256%m) b=a*b%m:=by
 refine(mnt_uniq ho h1 (Nat.mod_lt _ (by omega)) ?_).symm;rw[mul_mod_l,mul_mod_l,Nat.mul_right_comm]
theorem mnt_scaled{m:Nat}(ho:m%2=1)(h1:1<m)(a:Nat):mnt m a (2^256*2^256%m)=a*2^256%m:=by
 refine(mnt_uniq ho h1 (Nat.mod_lt _ (by omega)) ?_).symm;rw[mul_mod_l,mul_mod_r,Nat.mul_assoc]
theorem mnt_both{m:Nat}(ho:m%2=1)(h1:1<m)(a b:Nat):mnt m (a*2^256%m) (b*2^256%m)=a*b*2^256%m:=by
 rw[mnt_back ho h1,mul_mod_r,Nat.mul_assoc]
/-! What times an odd part is 1 modulo 2^64. -/
def nst(p x:Nat):Nat:=x*((18446744073709551616+2 - p*x%18446744073709551616)%18446744073709551616)%18446744073709551616
def pin(p:Nat):Nat->Nat
 | 0=>p
 | k+1=>nst p (pin p k)
theorem newton{k:Nat}{p x:Int}(h:(2:Int)^k∣1 - p*x):(2:Int)^(k+k)∣1 - p*(x*(2 - p*x)):=by
 obtain⟨t,ht⟩:=h;refine⟨t*t,?_⟩;have e:1 - p*(x*(2 - p*x))=(1 - p*x)*(1 - p*x):=by
  rw[<- Int.mul_assoc];generalize p*x=q;simp only[Int.mul_sub,Int.sub_mul,Int.one_mul,Int.mul_one];omega
 rw[e,ht,Int.pow_add,Int.mul_assoc,Int.mul_left_comm t,<- Int.mul_assoc]
theorem dvd_same{k:Nat}{p x y:Int}(hk:k<=64)(hxy:(2:Int)^64∣x - y)(h:(2:Int)^k∣1 - p*x):(2:Int)^k∣1 - p*y:=by
 have h1:(2:Int)^k∣x - y:=Int.dvd_trans (by obtain⟨j,hj⟩:=Nat.exists_eq_add_of_le hk;rw[hj,Int.pow_add];exact Int.dvd_mul_right _ _) hxy;have h2:1 - p*y=(1 - p*x)+p*(x - y):=by rw[Int.mul_sub];omega
 rw[h2];exact Int.dvd_add h (Int.dvd_trans h1 (Int.dvd_mul_left _ _))
theorem nst_dvd(p x:Nat):(2:Int)^64∣(x:Int)*(2 - p*x) - ((nst p x:Nat):Int):=by
 unfold nst;obtain⟨q,hq⟩:∃ q,p*x=q:=⟨_,rfl⟩
 have hqi:(p:Int)*(x:Int)=(q:Int):=by rw[<- hq];simp
 rw[hq,hqi];obtain⟨u,hu⟩:∃ u,(18446744073709551616+2 - q%18446744073709551616)%18446744073709551616=u:=⟨_,rfl⟩
 rw[hu];have h1:(18446744073709551616:Int)∣(2 - (q:Int)) - (u:Int):=by omega
 have h2:(18446744073709551616:Int)∣((x*u:Nat):Int) - ((x*u%18446744073709551616:Nat):Int):=by omega
 have e:(x:Int)*(2 - (q:Int)) - ((x*u%18446744073709551616:Nat):Int)=(x:Int)*((2 - (q:Int)) - (u:Int))+(((x*u:Nat):Int) - ((x*u%18446744073709551616:Nat):Int)):=by
  rw[Int.mul_sub (x:Int) (2 - (q:Int)) (u:Int)];have:((x*u:Nat):Int)=(x:Int)*(u:Int):=by simp
  omega
 rw[e];exact Int.dvd_add (Int.dvd_trans h1 (Int.dvd_mul_left _ _)) h2
theorem pin_step{k j p:Nat}(n:Nat)(hj:j<=64)(hjk:j<=k+k)(h:(2:Int)^k∣1 - p*(pin p n:Nat)):(2:Int)^j∣1 - (p:Int)*((pin p (n+1):Nat):Int):=by
 refine dvd_same hj (nst_dvd p (pin p n)) ?_;refine Int.dvd_trans ?_ (newton h);obtain⟨i,hi⟩:=Nat.exists_eq_add_of_le hjk;rw[hi,Int.pow_add];exact Int.dvd_mul_right _ _
theorem pin_ok{p:Nat}(ho:p%2=1):(2:Int)^64∣1 - (p:Int)*((pin p 5:Nat):Int):=by
 have h0:(2:Int)^3∣1 - (p:Int)*((pin p 0:Nat):Int):=by
  show(8:Int)∣1 - (p:Int)*(p:Int);have h1:p*p%8=1:=by
   rw[Nat.mul_mod];have:p%8=1\/p%8=3\/p%8=5\/p%8=7:=by omega
   rcases this with e | e | e | e <;> rw[e]
  have h2:(p:Int)*(p:Int)=((p*p:Nat):Int):=by simp
  rw[h2];omega
 have h1:=pin_step (j:=6) 0 (by omega) (by omega) h0;have h2:=pin_step (j:=12) 1 (by omega) (by omega) h1;have h3:=pin_step (j:=24) 2 (by omega) (by omega) h2;have h4:=pin_step (j:=48) 3 (by omega) (by omega) h3;exact pin_step (j:=64) 4 (by omega) (by omega) h4
def nin(m:Nat):Nat:=(18446744073709551616 - pin (m%18446744073709551616) 5)%18446744073709551616
theorem pin_lt(p n:Nat)(hp:p<18446744073709551616):pin p n<18446744073709551616:=by
 cases n with
 | zero=>exact hp
 | succ n=>exact Nat.mod_lt _ (by omega)
theorem nin_ok{m:Nat}(ho:m%2=1)(s:Nat):(s+s*nin m%18446744073709551616*(m%18446744073709551616))%18446744073709551616=0:=by
 have h:=pin_ok (p:=m%18446744073709551616) (by omega);have hlt:=pin_lt (m%18446744073709551616) 5 (Nat.mod_lt _ (by omega));unfold nin;obtain⟨p,hp⟩:∃ p,m%18446744073709551616=p:=⟨_,rfl⟩
 rw[hp]at h hlt |-
 obtain⟨x,hx⟩:∃ x,pin p 5=x:=⟨_,rfl⟩
 rw[hx]at h hlt |-
 have h1:p*x%18446744073709551616=1:=by
  have e:(p:Int)*(x:Int)=((p*x:Nat):Int):=by simp
  rw[e]at h;have h2:(18446744073709551616:Int)∣1 - ((p*x:Nat):Int):=h;omega
 obtain⟨y,hy⟩:∃ y,(18446744073709551616 - x)%18446744073709551616=y:=⟨_,rfl⟩
 rw[hy];have h3:(p*y+1)%18446744073709551616=0:=by
  have hx0:x≠0:=by rintro rfl;simp at h1
  have e:y=18446744073709551616 - x:=by omega
  have h4:p*y+p*x=p*18446744073709551616:=by rw[e,<- Nat.mul_add];congr 1;omega
  omega
 have h4:(s*y%18446744073709551616*p)%18446744073709551616=s*(p*y)%18446744073709551616:=by rw[mul_mod_l,Nat.mul_assoc,Nat.mul_comm y]
 have h5:s*(p*y)+s=s*(p*y+1):=by rw[Nat.mul_add,Nat.mul_one]
 have h6:s*(p*y+1)%18446744073709551616=0:=by rw[Nat.mul_mod,h3,Nat.mul_zero,Nat.zero_mod]
 omega
open Go.RowKit
section
variable {P:Program} {ops:Array Oper} {Q:Exit->Act->World->Prop} {C:(Nat->Value)->World->Prop} {φ:Nat->(Nat->Value)->World->Prop} {R:(Nat->Value)->World->World->Prop} {a0:Act}
def StepU(P:Program)(ops:Array Oper)(Q:Exit->Act->World->Prop)(C:(Nat->Value)->World->Prop)(φ:Nat->(Nat->Value)->World->Prop)(R:(Nat->Value)->World->World->Prop)(k:Nat)(o:Oper)(a:Act)(w:World):Prop :=
 if Region.wanted o (yielded ops a.tmps)then o.wp P a w (fun a' w'=>∃ v,a'=a.put o.dst v/\C (slots (a.put o.dst v)) w'/\φ k (slots (a.put o.dst v)) w'/\R (slots a) w w') Q else (C (slots (a.put o.dst undef)) w/\φ k (slots (a.put o.dst undef)) w)
def StepsU(P:Program)(ops:Array Oper)(Q:Exit->Act->World->Prop)(C:(Nat->Value)->World->Prop)(φ:Nat->(Nat->Value)->World->Prop)(R:(Nat->Value)->World->World->Prop)(a0:Act):Nat->List Oper->Prop
 | _,[]=>True
 | k,o::l=>(∀ a w,C (slots a) w->a.tmps.size=a0.tmps.size->KnownT ops φ a0 o a w->StepU P ops Q C φ R k o a w)/\StepsU P ops Q C φ R a0 (k+1) l
theorem StepsU.at_:∀ {l:List Oper} {k:Nat},StepsU P ops Q C φ R a0 k l->∀(i:Nat) (o:Oper),l[i]?=some o->∀ a w,C (slots a) w->a.tmps.size=a0.tmps.size->KnownT ops φ a0 o a w->StepU P ops Q C φ R (k+i) o a w
 | [],_,_,i,o,hi=>by simp at hi
 | o::l,k,h,0,o',hi=>by simp at hi;subst hi;exact h.1
 | o::l,k,h,i+1,o',hi=>by
  have:=StepsU.at_ h.2 i o' (by simpa using hi);rwa [show k+1+i=k+(i+1) by omega]at this
theorem wpAny_tie2(rd:Nat->List Nat)(rk:Nat->Nat)(hdist:distinctB ops.toList=true)(hlex:rankB ops rk=true)(hon:∀(i:Nat) (o:Oper),ops[i]?=some o->∀ e∈o.after,e.on<ops.size)(hown:ownB ops rd=true)
  (hrd:∀ i s s' w,(∀ t∈rd i,s t=s' t)->φ i s w->φ i s' w)
  (hφ:∀ i s w w',C s w->R s w w'->φ i s w->φ i s w') (hst:StepsU P ops Q C φ R a0 0 ops.toList)
  (hQ:∀(f:Oper->Value) w,C (slots (putAll f ops.toList a0)) w->(∀ i o,ops[i]?=some o->φ i (slots (putAll f ops.toList a0)) w)->Q .normal (putAll f ops.toList a0) w) :
  ∀(fuel:Nat) (listed:Array Bool) (a:Act) (w:World),listed.size=ops.size->listed.toList.count false<=fuel->C (slots a) w->a.tmps.size=a0.tmps.size->a.defers=a0.defers ->
   (∀ t,isDst ops.toList t=false->a.tmps.getD t undef=a0.tmps.getD t undef)->(∀ i o,listed.getD i false=true->ops[i]?=some o->φ i (slots a) w/\∀ e∈o.after,Region.binds .any e=true->listed.getD e.on false=true)->wpAny P .any ops Q fuel listed a w:=by
 have done:∀(listed:Array Bool) (a:Act) (w:World),(∀ i,i<ops.size->listed.getD i false=true)->C (slots a) w->a.tmps.size=a0.tmps.size->a.defers=a0.defers ->
   (∀ t,isDst ops.toList t=false->a.tmps.getD t undef=a0.tmps.getD t undef)->(∀ i o,listed.getD i false=true->ops[i]?=some o->φ i (slots a) w/\∀ e∈o.after,Region.binds .any e=true->listed.getD e.on false=true)->Q .normal a w:=by
  intro listed a w hall hC hs hd hk hp;have hb:=put_back hs hd hk;rw[hb];exact hQ _ w (by rw[<- hb];exact hC) (fun i o ho=>by rw[<- hb];exact(hp i o (hall i (Array.getElem?_eq_some_iff.1 ho).1) ho).1)
 intro fuel
 induction fuel with
 | zero =>
  intro listed a w hsz hc hC hs hd hk hp;have hno:false ∉ listed.toList:=List.count_eq_zero.1 (by omega);have hall:∀ i,i<ops.size->listed.getD i false=true:=fun i hi=>by
   have hlt:i<listed.size:=by omega
   have hm:listed[i]∈listed.toList:=by simp
   simp only[Array.getD_eq_getD_getElem?,hlt,Array.getElem?_eq_getElem,Option.getD_some];cases h:listed[i]with
   | true=>rfl
   | false=>rw[h]at hm;exact absurd hm hno
  refine⟨?_,done listed a w hall hC hs hd hk hp⟩;rw[List.eq_nil_iff_forall_not_mem];intro j hj;obtain⟨h0,o,ho,-⟩:=mem_ready.1 hj;have hlt:=(Array.getElem?_eq_some_iff.1 ho).1;have h1:=hall j hlt;simp[show j<listed.size by omega]at h0 h1;rw[h0]at h1;cases h1
 | succ fuel ih =>
  intro listed a w hsz hc hC hs hd hk hp;refine⟨fun hr=>?_,fun i hi=>?_⟩
  ·refine done listed a w ?_ hC hs hd hk hp
   -- the least that isn't listed would be ready
   have key:∀ r i,rk i<r->i<ops.size->listed.getD i false=true:=by
    intro r
    induction r with
    | zero=>intro i h;omega
    | succ r ihr =>
     intro i hri hi;cases h:listed.getD i false with
     | true=>rfl
     | false =>
      have ho:ops[i]?=some ops[i]:=Array.getElem?_eq_getElem hi;have:i∈Region.ready .any ops listed:=mem_ready.2 ⟨by simpa[show i<listed.size by omega]using h,ops[i],ho,fun e he hb=>by
       have hl:=hlex;unfold rankB at hl;rw[List.all_eq_true]at hl;have:=hl i (by simpa using hi);rw[ho]at this;simp only[Array.all_eq_true_iff_forall_mem]at this;have hlt:=this e he;rw[hb]at hlt;simp at hlt;exact ihr e.on (by omega) (hon i _ ho e he)⟩
      rw[hr]at this;cases this
   exact fun i hi=>key (rk i+1) i (by omega) hi
  ·obtain⟨h0,o,ho,hall⟩:=mem_ready.1 hi
   have hlt:i<ops.size:=(Array.getElem?_eq_some_iff.1 ho).1;have hl':ops.toList[i]?=some o:=by simpa using ho
   have hstep:=hst.at_ i o hl' a w hC hs ⟨hk,fun e he hb oj hj=>(hp e.on oj (by have:=hall e he hb;simpa using this) hj).1⟩;rw[Nat.zero_add]at hstep;have go:∀(v:Value) (w':World),C (slots (a.put o.dst v)) w'->φ i (slots (a.put o.dst v)) w'->(∀ j,φ j (slots a) w->φ j (slots a) w')->wpAny P .any ops Q fuel (listed.setIfInBounds i true) (a.put o.dst v) w':=by
    intro v w' hC' hv hm;refine ih _ _ _ (by simpa using hsz) ?_ hC' (by rw[put_size];exact hs) (by rw[put_defers];exact hd) ?_ ?_
    ·have hil:i<listed.size:=by omega
     have e0:listed[i]=false:=by simpa[hil]using h0
     rw[Array.toList_setIfInBounds,List.count_set (by simpa using hil)];have:listed.toList[i]'(by simpa using hil)=false:=by simpa using e0
     simp only[this];simp;have hpos:0<listed.toList.count false:=List.count_pos_iff.2 (by rw[<- e0];simp);simp at hpos;simp at hc;omega
    ·intro t ht
     have hne:o.dst≠some t:=fun e=>by
      simp only[isDst,List.any_eq_false]at ht;exact ht o (List.mem_of_getElem? hl') (by simp[e])
     rw[put_other _ _ _ _ hne];exact hk t ht
    ·intro j oj hj hoj
     by_cases e:i=j
     ·subst e
      have:oj=o:=Option.some.inj (hoj.symm.trans ho);subst this;refine⟨hv,fun e he hb=>?_⟩;have h1:=hall e he hb;by_cases q:i=e.on
      ·rw[<- q];exact getD_set_same (by omega)
      ·rw[getD_set_ne false q];simpa using h1
     ·rw[getD_set_ne false e]at hj
      obtain⟨h1,h2⟩:=hp j oj hj hoj;refine⟨hrd j _ _ w' (fun t ht=>?_) (hm _ h1),fun e' he hb=>?_⟩
      ·have hne:o.dst≠some t:=fun hd'=>by
        rcases own_spec hown hoj ht with h3 | h3 | ⟨e',he,hb,ok,hok,hkd⟩
        ·exact distinct_spec hdist i j o oj t hl' (by simpa using hoj) e hd' h3
        ·simp only[isDst,List.any_eq_false]at h3
         exact h3 o (List.mem_of_getElem? hl') (by simp[hd'])
        ·have h4:=h2 e' he hb
         have h5:i≠e'.on:=fun q=>by rw[<- q,getD_both h0]at h4;cases h4
         exact distinct_spec hdist i e'.on o ok t hl' (by simpa using hok) h5 hd' hkd
       exact(put_other _ _ _ _ hne).symm
      ·by_cases q:i=e'.on
       ·rw[<- q];exact getD_set_same (by omega)
       ·rw[getD_set_ne false q];exact h2 e' he hb
   unfold wpOp;rw[ho];simp only;unfold StepU at hstep
   split
   ·rename_i hw
    rw[if_pos hw]at hstep;refine .inl (Oper.wp_mono ?_ hstep);rintro a' w' ⟨v,rfl,hC',hv,hR⟩;exact go v w' hC' hv (fun j h=>hφ j _ w w' hC hR h)
   ·rename_i hw
    rw[if_neg hw]at hstep;exact go undef w hstep.1 hstep.2 (fun j h=>h)
theorem region_tie2{id:Nat}{l:List Oper}{w:World}(C:(Nat->Value)->World->Prop)(φ:Nat->(Nat->Value)->World->Prop)(R:(Nat->Value)->World->World->Prop)(rd:Nat->List Nat)(rk:Nat->Nat)(hm:P.follows .mixedOrders=true)
  (hB:(distinctB l&&rankB l.toArray rk&&ownB l.toArray rd&&insideB l.toArray)=true) (hC:C (slots a0) w.drew)
  (hrd:∀ i s s' w,(∀ t∈rd i,s t=s' t)->φ i s w->φ i s' w) (hφ:∀ i s w w',C s w->R s w w'->φ i s w->φ i s w') (hst:StepsU P l.toArray Q C φ R a0 0 l)
  (hQ:∀(f:Oper->Value) w,C (slots (putAll f l a0)) w->(∀ i o,l[i]?=some o->φ i (slots (putAll f l a0)) w)->Q .normal (putAll f l a0) w):(Code.region id l.toArray true).wp P Q a0 w:=by
 simp only[Bool.and_eq_true]at hB;refine wp_region_any hm (wpAny_tie2 (C:=C) (φ:=φ) (R:=R) (a0:=a0) rd rk hB.1.1.1 hB.1.1.2 (inside_spec hB.2) hB.1.2 hrd hφ hst (fun f w hC h=>hQ f w hC (fun i o ho=>h i o (by simpa using ho))) _ _ _ w.drew (by simp) (by simp) hC rfl rfl (fun _ _=>rfl) ?_);intro i o hi;simp at hi;rcases Nat.lt_or_ge i l.length with h | h
 ·simp[h]at hi
 ·simp[Nat.not_lt.2 h]at hi
/-! What each kind of operation must do. -/
theorem uu_val{k:Nat}{o:Oper}{a:Act}{w:World}(v:Value)(hw:Region.wanted o (yielded ops a.tmps)=true)(hr:(execOp a.eval o).run P w=.ok (.value v) w)(hC:C (slots (a.put o.dst v)) w)(hv:φ k (slots (a.put o.dst v)) w)(hR:R (slots a) w w):StepU P ops Q C φ R k o a w:=by
 unfold StepU;rw[if_pos hw];unfold Oper.wp;rw[hr];exact⟨v,rfl,hC,hv,hR⟩
theorem uu_new{k:Nat}{o:Oper}{a:Act}{w w':World}(v:Value)(hw:Region.wanted o (yielded ops a.tmps)=true)(hr:(execOp a.eval o).run P w=.ok (.value v) w')(hC:C (slots (a.put o.dst v)) w')(hv:φ k (slots (a.put o.dst v)) w')(hR:R (slots a) w w'):StepU P ops Q C φ R k o a w:=by
 unfold StepU;rw[if_pos hw];unfold Oper.wp;rw[hr];exact⟨v,rfl,hC,hv,hR⟩
theorem uu_load{k:Nat}{o:Oper}{a:Act}{w:World}(T:TypeId)(x:Operand)(p v:Value)(ho:o.op=.load T x)(hw:Region.wanted o (yielded ops a.tmps)=true)(hp:a.eval x=p)
  (hr:(Instr.loadAt T p).run P w=.ok v w) (hC:C (slots (a.put o.dst v)) w) (hv:φ k (slots (a.put o.dst v)) w) (hR:R (slots a) w w):StepU P ops Q C φ R k o a w :=
 uu_val v hw (by
  unfold execOp;rw[ho];simp only[hp,Sem.run_bind,hr,Result.andThen_ok,Sem.run_pure]) hC hv hR
theorem uu_call{k:Nat}{o:Oper}{a:Act}{w:World}(f:FuncId)(args:Array Value)(hw:Region.wanted o (yielded ops a.tmps)=true)(he:(execOp a.eval o).run P w=.ok (.enter f args) w)
  (hc:Calls P f args w fun e w'=>∃ v,e=.returned v/\C (slots (a.put o.dst v)) w'/\φ k (slots (a.put o.dst v)) w'/\R (slots a) w w'):StepU P ops Q C φ R k o a w:=by
 unfold StepU;rw[if_pos hw];unfold Oper.wp;rw[he];refine Calls.mono hc ?_;rintro e w' ⟨v,rfl,h1,h2,h3⟩;exact⟨v,rfl,h1,h2,h3⟩
theorem uu_store{k:Nat}{o:Oper}{a:Act}{w w':World}(hw:Region.wanted o (yielded ops a.tmps)=true)(hd:o.dst=none)(hr:(execOp a.eval o).run P w=.ok .skip w')(hC:C (slots a) w')(hv:φ k (slots a) w')(hR:R (slots a) w w'):StepU P ops Q C φ R k o a w:=by
 unfold StepU;rw[if_pos hw];unfold Oper.wp;rw[hr];refine⟨undef,by rw[hd],?_,?_,hR⟩
 ·rw[hd];exact hC
 ·rw[hd];exact hv
end
open Go.RowKit
def pw(x:Nat):Array Value:=#[.int .u64 ((x%18446744073709551616:Nat):Int),.int .u64 ((x / 18446744073709551616%18446744073709551616:Nat):Int),.int .u64 ((x / 340282366920938463463374607431768211456%18446744073709551616:Nat):Int),.int .u64 ((x / 6277101735386680763835789423207666416102355444464034512896%18446744073709551616:Nat):Int)]
open Go.RowKit
theorem eqW(a0 a1 a2 a3 b0 b1 b2 b3:Nat)(w:World) :
  (Op.equalIn 10000 24 (.agg #[.int .u64 a0,.int .u64 a1,.int .u64 a2,.int .u64 a3]) (.agg #[.int .u64 b0,.int .u64 b1,.int .u64 b2,.int .u64 b3])).run Tryz.prog w=.ok ((a0 == b0)&&((a1 == b1)&&((a2 == b2)&&(a3 == b3)))) w:=by
 have u3:=Tryz.underlying22;have a3':=Tryz.isAgg22;have z3:=Tryz.sizeOf22;rw[show(10000:Nat)=9999+1 from rfl,Op.equalIn];simp only[Sem.run_bind,run_underlying Tryz.underlying24,Result.andThen_ok];simp only[Std.Legacy.Range.forIn_eq_forIn_range',Std.Legacy.Range.size,Nat.sub_zero,Nat.add_sub_cancel,Nat.div_one,List.range'_succ,List.range'_zero,List.forIn_cons,List.forIn_nil]
 go_simp
 simp only[Int.natCast_inj];by_cases h0:a0=b0
 ·by_cases h1:a1=b1
  ·by_cases h2:a2=b2
   ·by_cases h3:a3=b3
    ·simp[h0,h1,h2,h3]
    ·simp[h0,h1,h2,h3]
   ·simp[h0,h1,h2]
  ·simp[h0,h1]
 ·simp[h0]
end Go.Proofs.YtadfjjfklihaaaaGreat
