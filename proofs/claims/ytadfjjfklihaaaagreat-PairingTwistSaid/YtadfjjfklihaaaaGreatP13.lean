/- What bailiwickref01.DivMod comes to, called with any words. (Cut to what is reached, written closely: RDivNum · RDiv · Ring · Lives · Alive · Rings · DigS · RDM.) -/
import Derived.Test.YtadfjjfklihaaaaGreatP12
import Derived.Test.YtadfjjfklihaaaaGreatP6
import Derived.Test.YtadfjjfklihaaaaGreatP5
import Derived.Test.YtadfjjfklihaaaaGreatP11
import Derived.Test.YtadfjjfklihaaaaGreatP7
import Derived.Test.YtadfjjfklihaaaaGreatP2
import Derived.Test.YtadfjjfklihaaaaGreatP1
import Derived.BigRegion
set_option linter.all false
set_option maxRecDepth 100000
set_option maxHeartbeats 8000000
namespace Go.Proofs.YtadfjjfklihaaaaGreat
open Go.RowKit
def below1(x:Nat)(d:Nat->Nat)(j:Nat):Nat:=if j=0 then x else d (j - 1)
theorem vd_below1(x:Nat)(d:Nat->Nat):∀ n,vd (below1 x d) (n+1)=x+65536*vd d n
 | 0=>by simp[vd,below1]
 | n+1=>by
  rw[vd,vd_below1 x d n,vd,Nat.mul_add,<- Nat.mul_assoc,Nat.pow_succ,Nat.mul_comm (65536^n) 65536];simp only[below1];rw[if_neg (by omega),Nat.add_sub_cancel,Nat.add_assoc]
theorem below1_lt{x n:Nat}{d:Nat->Nat}(hx:x<65536)(hd:∀ j,j<n->d j<65536):∀ j,j<n+1->below1 x d j<65536:=fun j hj=>by
 unfold below1;split
 ·exact hx
 ·exact hd _ (by omega)
theorem dl_below1(x:Nat)(d:Nat->Nat)(n:Nat):Value.int .u64 (x:Nat)::dl d n=dl (below1 x d) (1+n):=by
 unfold dl;rw[Nat.add_comm 1 n,List.range_succ_eq_map,List.map_cons,List.map_map];rfl
structure DivR (w:World) (n m i c:Nat) (da q:Nat->Nat) (D:Nat) (Q g nr:Nat) (dr:Nat->Nat) (wr:World):Prop where
 old:Below w.heap.size w wr
 rest:Dg wr g nr dr
 apart:w.heap.size<g
 hQ:Q=w.heap.size
 restl:∀ j,j<nr->dr j<65536
 long:nr<=m+1
 out:OutAt wr Q n q
 outl:∀ j,j<n->q j<65536
 todo:∀ j,j<i->q j=0
 bits:q i%2^c=0
 sum:vd q n*D+(vd da i+65536^i*vd dr nr)=vd da n
 less:vd dr nr<2^c*D
theorem OutAt.below{wr w':World}{B L:Nat}{o:Nat->Nat}(h:OutAt wr B L o)(hb:Below wr.heap.size wr w'):OutAt w' B L o :=
 ⟨Nat.lt_of_lt_of_le h.1 hb.size,fun j hj=>⟨(hb.cell (p:=⟨B,j,none⟩) h.1).trans (h.2 j hj).1,(hb.frozen (p:=⟨B,j,none⟩) h.1).trans (h.2 j hj).2⟩⟩
theorem div_no{r c D:Nat}(h:¬2^c*D<=r):r<2^c*D:=by omega
theorem bits_half{x c:Nat}(h:x%2^(c+1)=0):x%2^c=0:=by
 rw[Nat.pow_succ]at h;have h1:x%(2^c*2)%2^c=x%2^c:=Nat.mod_mul_right_mod _ _ _;rw[h,Nat.zero_mod]at h1;exact h1.symm
theorem bits_more{x c:Nat}(h:x%2^(c+1)=0):(x+2^c)%2^c=0:=by rw[Nat.add_mod_right];exact bits_half h
theorem bits_room{x c:Nat}(h:x%2^(c+1)=0)(hx:x<65536)(hc:c<16):x+2^c<65536:=by
 have hp:=Nat.two_pow_pos c;obtain⟨k,hk⟩:=Nat.dvd_of_mod_eq_zero h;have hd:(65536:Nat)=2^(c+1)*2^(15 - c):=by rw[<- Nat.pow_add,show c+1+(15 - c)=16 by omega]
 have hk2:k<2^(15 - c):=by
  rw[hk,hd]at hx;exact Nat.lt_of_mul_lt_mul_left hx
 have h3:2^(c+1)*(k+1)<=2^(c+1)*2^(15 - c):=Nat.mul_le_mul_left _ hk2;rw[<- hd,Nat.mul_add,<- hk,Nat.pow_succ]at h3;omega
theorem bits_or_up{x c:Nat}(h:x%2^(c+1)=0)(hx:x<65536)(hc:c<16):bits .or .u64 (x:Int) (2^c)=((x+2^c:Nat):Int):=by
 have hp:2^c<65536:=by
  rw[show(65536:Nat)=2^16 by rfl];exact Nat.pow_lt_pow_right (by omega) hc
 have h1:=bits_or_u64_nat x (2^c) (by omega) (by omega);have e0:((2^c:Nat):Int)=2^c:=by simp
 rw[e0]at h1;rw[h1];congr 1;obtain⟨k,hk⟩:=Nat.dvd_of_mod_eq_zero h;rw[hk,<- Nat.two_pow_add_eq_or_of_lt (Nat.pow_lt_pow_right (by omega) (Nat.lt_succ_self c))]
theorem div_sum{V q r i' R D A P t D':Nat}(h:q*D+(A+P*r)=V)(hr:r=R+D')(hD':D'=t*D)(hi:i'=q+P*t):i'*D+(A+P*R)=V:=by
 subst hi hD' hr;rw[<- h];grind
theorem DivR.zero{w wr:World}{n m i c D Q g nr:Nat}{da q dr:Nat->Nat}(h:DivR w n m i (c+1) da q D Q g nr dr wr){w':World}(hb:Below wr.heap.size wr w')(hl:¬2^c*D<=vd dr nr):DivR w n m i c da q D Q g nr dr w' :=
 ⟨h.old.trans (hb.mono h.old.size),h.rest.below hb,h.apart,h.hQ,h.restl,h.long,h.out.below hb,h.outl,h.todo,bits_half h.bits,h.sum,div_no hl⟩
theorem DivR.one{w wr:World}{n m i c D Q g nr:Nat}{da q dr:Nat->Nat}(h:DivR w n m i (c+1) da q D Q g nr dr wr){w':World}{g':Nat}{dr':Nat->Nat}(hi:i<n)(hc:c<16)(hb:Below wr.heap.size wr w')(hl:2^c*D<=vd dr nr)
  (hr:Dg w' g' nr dr') (hg:wr.heap.size<=g') (hrl:∀ j,j<nr->dr' j<65536) (hv:vd dr' nr=vd dr nr - 2^c*D) :
  DivR w n m i c da (upd q i (q i+2^c)) D Q g' nr dr' (w'.setCell ⟨Q,i,none⟩ (.int .u64 ((q i+2^c:Nat):Int))):=by
 have hlt:=h.out.1;have hroom:=bits_room h.bits (h.outl i hi) hc;have hq:=vd_set q i (q i+2^c) n hi;have hQg:g'≠Q:=by omega
 refine⟨(h.old.trans (hb.mono h.old.size)).setCell (by show w.heap.size<=Q;rw[h.hQ];exact Nat.le_refl _) _,⟨by simpa using hr.1,fun j hj=>?_⟩,by have:=h.old.size;have:=h.hQ;omega,h.hQ,hrl,h.long,?_,fun j hj=>?_,fun j hj=>?_,?_,?_,?_⟩
 ·rw[World.cell?_setCell_other _ _ _ _ (fun e=>hQg (congrArg Addr.block e).symm)];exact hr.2 j hj
 ·exact(h.out.below hb).set i _ hi
 ·unfold upd;split
  ·exact hroom
  ·exact h.outl j hj
 ·unfold upd;rw[if_neg (by omega)];exact h.todo j hj
 ·simp only[upd];rw[if_pos trivial];exact bits_more h.bits
 ·refine div_sum h.sum (r:=vd dr nr) (R:=vd dr' nr) (D':=2^c*D) (t:=2^c) (by omega) rfl ?_
  rw[Nat.mul_add]at hq;omega
 ·rw[hv]
  have h1:=h.less;rw[Nat.pow_succ,Nat.mul_comm (2^c) 2,Nat.mul_assoc]at h1;omega
open Go.RowKit
theorem own_one(w:World)(x:Nat):(w.alloc (.cells #[.int .u64 (x:Nat)] 22)).ownsRow w.heap.size 22 1 (.slice (some ⟨w.heap.size,0,none⟩) 1 1) 1 [.int .u64 (x:Nat)] :=
 ⟨by simp,.inr ⟨w.heap.size,1,#[.int .u64 (x:Nat)],rfl,Nat.le_refl _,heap_alloc_new _ _,Nat.le_refl _,by unfold maxLen;omega,by simp,by simp⟩⟩
theorem own_dg{w:World}{base k:Nat}{v:Value}{d:Nat->Nat}(h:w.ownsRow base 22 1 v k (dl d k))(hk:0<k):∃ g cap,v=.slice (some ⟨g,0,none⟩) k cap/\base<=g/\k<=cap/\Dg w g k d:=by
 obtain⟨-,h1⟩:=h;rcases h1 with⟨-,h0⟩ | ⟨g,cap,cur,rfl,hg,hc,hnc,hm,hcs,ht⟩
 ·omega
 ·refine⟨g,cap,rfl,hg,hnc,(Array.getElem?_eq_some_iff.1 hc).1,fun j hj=>?_⟩
  rw[cell_of_row _ _ _ _ _ _ hc,<- dl_at d k j hj,<- ht];simp only[Nat.mul_one,List.getElem?_take,hj,if_true];simp
theorem slice_head(g len cap h:Nat)(hh:(h:Int)+1<=cap)(w:World):(Instr.slice 126 (.slice (some ⟨g,0,none⟩) len cap) none (some (.int .i64 ((h:Int)+1))) none).run Tryz.prog w=.ok (.slice (some ⟨g,0,none⟩) (h+1) cap) w:=by
 have hsz:(sizeOf (Tryz.prog.elem 126)).run Tryz.prog w=.ok 1 w:=by kernel_rfl
 rw[run_slice_h w 126 (some ⟨g,0,none⟩) len cap (by kernel_rfl) .i64 _ (by omega) hh,hsz];simp only[Result.andThen,sliced];rw[show((h:Int)+1).toNat=h+1 by omega];simp[Addr.add]
theorem div_open{w wr w1:World}{n m i D Q g nr g' nr':Nat}{da q dr:Nat->Nat}(h:DivR w n m (i+1) 0 da q D Q g nr dr wr)(hb:Below wr.heap.size wr w1)(hg:wr.heap.size<=g')(hr:Dg w1 g' nr' (below1 (da i) dr))(hda:da i<65536)(hD:D<=65536^m)
  (hn:nr'=1+nr\/nr'=m+1/\nr'<=1+nr) (hl:nr'<=m+1):DivR w n m i 16 da q D Q g' nr' (below1 (da i) dr) w1:=by
 have hlt:=h.out.1;have hless:=h.less;rw[Nat.pow_zero,Nat.one_mul]at hless;have hv:vd (below1 (da i) dr) (1+nr)=da i+65536*vd dr nr:=by rw[Nat.add_comm 1 nr];exact vd_below1 _ _ _
 have hlim:da i+65536*vd dr nr<65536*D:=by omega
 have hv2:vd (below1 (da i) dr) nr'=da i+65536*vd dr nr:=by
  rcases hn with rfl | ⟨rfl,hle⟩
  ·exact hv
  ·rw[<- hv]
   refine(vd_full (m+1) (1+nr) (vd_small ?_) hle).symm;rw[hv,Nat.pow_succ,Nat.mul_comm (65536^m)];exact Nat.lt_of_lt_of_le hlim (Nat.mul_le_mul_left _ hD)
 have hle2:nr'<=nr+1:=by rcases hn with rfl | ⟨-,h⟩ <;> omega
 refine⟨h.old.trans (hb.mono h.old.size),hr,by have:=h.old.size;have:=h.hQ;omega,h.hQ,fun j hj=>below1_lt hda h.restl j (by omega),hl,h.out.below hb,h.outl,fun j hj=>h.todo j (by omega),by rw[h.todo i (by omega)],?_,?_⟩
 ·have hs:=h.sum
  rw[hv2,<- hs];simp only[vd];rw[Nat.mul_add,Nat.pow_succ,Nat.mul_assoc,Nat.add_assoc (vd da i)]
 ·rw[hv2];exact hlim
theorem dg_one(w:World)(x:Nat):Dg (w.alloc (.cells #[.int .u64 (x:Nat)] 22)) w.heap.size 1 (fun _=>x) :=
 ⟨by simp,fun j hj=>by obtain rfl:j=0:=(by omega);exact(cell_of_row _ _ 0 _ _ _ (heap_alloc_new _ _)).trans rfl⟩
theorem news_dl{w:World}{g nr:Nat}{dr:Nat->Nat}(h:Dg w g nr dr):∀ j u,(dl dr nr)[j]?=some u->w.cell? ((⟨g,0,none⟩:Addr).add j)=some u:=fun j u hj=>by
 have hj2:j<nr:=by
  have:=(List.getElem?_eq_some_iff.1 hj).1;rwa [dl_len]at this
 rw[dl_at _ _ _ hj2]at hj;cases hj;have h:=h.2 j hj2;cases j with
 | zero=>simpa[Addr.add]using h
 | succ j=>simpa[Addr.add]using h
theorem one_dl(dr:Nat->Nat)(nr:Nat):∀ u∈dl dr nr,u.oneCell'=true:=fun u hu=>by
 unfold dl at hu;rw[List.mem_map]at hu;obtain⟨j,-,rfl⟩:=hu;rfl
def DivPostR(n m:Nat)(A D:Nat)(w:World)(e:Ending)(w':World):Prop :=
 ∃(Q g nr cap:Nat) (q dr:Nat->Nat),e=.returned (.tuple #[.slice (some ⟨Q,0,none⟩) n n,.slice (some ⟨g,0,none⟩) nr cap])/\Dg w' Q n q/\Dg w' g nr dr/\nr<=m+1/\(∀ j,j<n->q j<65536)/\(∀ j,j<nr->dr j<65536)/\vd q n=A / D/\vd dr nr=A%D/\Below w.heap.size w w'
theorem div_done{w wr:World}{n m D Q g nr:Nat}{da q dr:Nat->Nat}(h:DivR w n m 0 0 da q D Q g nr dr wr):vd q n=vd da n / D/\vd dr nr=vd da n%D:=by
 have h1:=h.sum;have h2:=h.less;simp only[vd,Nat.pow_zero,Nat.one_mul,Nat.zero_add]at h1 h2;constructor
 ·rw[<- h1,Nat.add_comm,Nat.mul_comm,Nat.add_mul_div_left _ _ (by omega),Nat.div_eq_of_lt h2,Nat.zero_add]
 ·rw[<- h1,Nat.add_comm,Nat.mul_comm,Nat.add_mul_mod_self_left,Nat.mod_eq_of_lt h2]
theorem divide_ref(ba ca bb cb n m:Nat)(da db:Nat->Nat)(hn:(n:Int)<=1000)(hm:(m:Int)<=1000)(ha:∀ j,j<n->da j<65536)(hb:∀ j,j<m->db j<65536)(hD:0<vd db m)(w:World)(hA:Dg w ba n da)(hB:Dg w bb m db) :
  Calls Tryz.prog 153 #[.slice (some ⟨ba,0,none⟩) n ca,.slice (some ⟨bb,0,none⟩) m cb] w (DivPostR n m (vd da n) (vd db m) w):=by
 have Ha:=Lib.hid ha;clear ha;have hDm:=Nat.le_of_lt (vd_lt hb);have Hb:=Lib.hid hb;clear hb;have HA:=Lib.hid hA;clear hA;have HB:=Lib.hid hB;clear hB;have HD:=Lib.hid hD;clear hD;have HDM:=Lib.hid hDm;clear hDm;have hn0:(0:Int)<=n:=by omega
 have hm0:(0:Int)<=m:=by omega
 obtain⟨i0,hi,hz0,hz1,hz2⟩:=info_parts info22;go_enter Tryz.func153,Tryz.ntmps153
 go_wp2_with (at_make;refine wpList_make_full _ rfl _ _ 126 rfl w.heap.size 22 i0 (.int .u64 0) 1 Tryz.underlying126 hi hz0 hz1 .i64 .i64 _ _ n rfl rfl rfl rfl (by rw[hz2];omega) (by unfold maxLen;omega) (Nat.le_refl _) ?_;intro w0 hown0 hgrow0)
 have hout:OutAt w0 w.heap.size n (fun _=>0):=⟨(hown0.lt _ rfl).2,fun j hj=>⟨(hown0.cellAt j (by omega)).trans (madeCells_at n j hj),hown0.frozenAt j⟩⟩
 have hbel:Below w.heap.size w w0:=(Below.refl _ _).grown hgrow0 (Nat.le_refl _) (fun k hk=>by cases hk);have hlt0:=hout.1;have HW:=Lib.hid (And.intro hout hbel);clear hout hbel hown0 hgrow0
 go_wp2_with fail
 go_loopw [7,8] (fun rv iv wr=>∃(z:Int) (c g nr cap:Nat) (q dr:Nat->Nat),c<=n/\z=(c:Int) - 1/\iv=.int .i64 z/\rv=.slice (some ⟨g,0,none⟩) nr cap/\Hid (DivR w n m c 0 da q (vd db m) w.heap.size g nr dr wr)) (fun _ iv _=>(intOf iv+1).toNat)
 case atStart =>
  refine⟨(n:Int) - 1,n,w0.heap.size,0,0,fun _=>0,fun _=>0,Nat.le_refl _,rfl,rfl,rfl,Lib.hid ⟨HW.out.2.trans (by go_grown),⟨by simp,fun j hj=>by omega⟩,hlt0,rfl,fun j hj=>by omega,by omega,HW.out.1.below (by go_grown),fun j _=>by show 0<65536;omega,fun _ _=>rfl,rfl,?_,?_⟩⟩
  ·have:∀ L,vd (fun _=>0) L=0:=fun L=>by induction L with
    | zero=>rfl
    | succ L ih=>simp[vd,ih]
   rw[this];simp[vd]
  ·show 0<_;rw[Nat.pow_zero,Nat.one_mul];exact HD.out
 case round =>
  obtain⟨z,c,g,nr,cap,q,dr,hc,hz,rfl,rfl,H⟩:=hrel;cases c with
  | zero =>
   have hz1:z<0:=by omega
   have hzf:decide (0<=z)=false:=by rw[decide_eq_false_iff_not];omega
   have hd:=div_done H.out;have HF:=Lib.hid hd;clear hd;have HZ:=Lib.hid hz;clear hz;go_wp2
   go_ret2
   exact⟨_,_,_,_,q,dr,rfl,⟨H.out.out.1,fun j hj=>(H.out.out.2 j hj).1⟩,H.out.rest,H.out.long,H.out.outl,H.out.restl,HF.out.1,HF.out.2,H.out.old⟩
  | succ i =>
   obtain rfl:z=(i:Int):=by omega
   have hi0:(0:Int)<=i:=by omega
   have hin:(i:Int)<n:=by omega
   have hnr:(nr:Int)<=m+1:=by have:=H.out.long;omega
   have hnr0:(0:Int)<=nr:=by omega
   have ea:wr.cell? ⟨ba,i,none⟩=some (.int .u64 (da i:Nat)):=(H.out.old.cell (p:=⟨ba,i,none⟩) HA.out.1).trans (HA.out.2 i (by omega));have HEN:=Lib.hid (own_one wr (da i));clear hz
   go_wp2_with (at_builtin;refine wpList_append_own _ rfl (.tmp 26) (.tmp 27) 126 rfl wr.heap.size 22 i0 (.int .u64 0) 1 8 Tryz.underlying126 hi hz0 hz1 hz2 rfl (by decide) _ _ _ rfl HEN.out ⟨g,0,none⟩ nr cap (dl dr nr) rfl (by rw[dl_len,Nat.mul_one]) ?d1 ?d2 ?d3 ?d4 ?d5 ?_)
   try (case d1=>exact news_dl (H.out.rest.below ((Below.refl wr.heap.size wr).alloc (Nat.le_refl _) (.cells #[.int .u64 (da i:Nat)] 22))))
   try (case d2=>exact one_dl _ _)
   try (case d3=>unfold maxLen;omega)
   try (case d4=>omega)
   try (case d5=>first | omega | (simp;done) | (simp;omega))
   intro v' w1 hown' hgrow _;rw[dl_below1]at hown';obtain⟨g',cap',rfl,hg',hcap',hdg'⟩:=own_dg hown' (by omega);have hbw:Below wr.heap.size wr w1:=((Below.refl _ _).alloc (Nat.le_refl _) _).grown hgrow (by simp) (fun j hj=>by cases hj;exact Nat.le_refl _);have HN:=Lib.hid (And.intro hbw (And.intro hg' hdg'));clear hown' hgrow hg' hdg' hbw HEN ea;have hda:da i<65536:=Ha.out i (by omega);by_cases ht:m+1<1+nr
   ·have ht1:(m:Int)+1<1+(nr:Int):=by omega
    have ht2:decide ((m:Int)+1<1+(nr:Int))=true:=by rw[decide_eq_true_iff];exact ht1
    have hsl:=slice_head g' (1+nr) cap' m (by omega);have HI:=Lib.hid (div_open H.out HN.out.1 HN.out.2.1 ⟨HN.out.2.2.1,fun j hj=>HN.out.2.2.2 j (by omega)⟩ hda HDM.out (.inr ⟨rfl,by omega⟩) (Nat.le_refl (m+1)));clear ht hda
    go_wp2_with fail
    go_loopw [7,9] (fun rv kv wx=>∃(z:Int) (c g nr cap:Nat) (q dr:Nat->Nat),c<=16/\z=(c:Int) - 1/\kv=.int .i64 z/\rv=.slice (some ⟨g,0,none⟩) nr cap/\0<nr/\Hid (DivR w n m i c da q (vd db m) w.heap.size g nr dr wx)) (fun _ kv _=>(intOf kv+1).toNat)
    case atStart=>exact⟨15,16,g',(m+1),cap',q,below1 (da i) dr,by omega,rfl,rfl,rfl,by omega,HI⟩
    case round =>
     obtain⟨z,c2,g2,nr2,cap2,q2,dr2,hc2,hz2,rfl,rfl,hnr2,H2⟩:=hrel;cases c2 with
     | zero =>
      have hz1:z<0:=by omega
      have hzf:decide (0<=z)=false:=by rw[decide_eq_false_iff_not];omega
      have HZ:=Lib.hid hz2;clear hz2
      go_wp2_with fail
      go_roundw
      case rel=>exact⟨(i:Int) - 1,i,g2,nr2,cap2,q2,dr2,by omega,rfl,rfl,rfl,H2⟩
      case measure=>first | (simp[intOf];done) | (simp[intOf];omega)
     | succ k =>
      obtain rfl:z=(k:Int):=by omega
      have hk0:(0:Int)<=k:=by omega
      have hk1:(k:Int)<=15:=by omega
      clear hz2;obtain⟨p,hp⟩:∃ p:Nat,2^k=p:=⟨_,rfl⟩
      have hpl:p<65536:=by rw[<- hp,show(65536:Nat)=2^16 by rfl];exact Nat.pow_lt_pow_right (by omega) (by omega)
      have hpw:IntKind.u64.wrap ((2:Int)^k)=(p:Int):=by
       have e0:((2^k:Nat):Int)=(2:Int)^k:=by simp
       rw[<- e0,hp,IntKind.wrap_u64];omega
      have hqi:=H2.out.out.2 i (by omega);have hor:bits .or .u64 ((q2 i:Nat):Int) (p:Int)=((q2 i+p:Nat):Int):=by
       have h:=bits_or_up H2.out.bits (H2.out.outl i (by omega)) (by omega);have e0:((2^k:Nat):Int)=(2:Int)^k:=by simp
       rw[<- e0,hp]at h;exact h
      have HOR:=Lib.hid hor;clear hor;have HQI:=Lib.hid hqi;clear hqi;have HPL:=Lib.hid hpl;clear hpl;have HP:=Lib.hid hp;clear hp;have hlw:w.heap.size<wr.heap.size:=H2.out.out.1
      go_wp2_with fail
      refine(product_digits bb cb wr.heap.size 1 m 1 db (fun _=>p) (by omega) (by omega) Hb.out (fun _ _=>HPL.out) _ (HB.out.below (H2.out.old.trans ((Below.refl _ _).alloc (by omega) _))) (dg_one wr p)).mono ?_;rintro e w2 ⟨bt,capt,dt,rfl,hbt,hDt,hdtl,hdtv,hbp⟩;have hvt:vd dt (m+1)=2^k*vd db m:=by rw[hdtv,HP.out];simp[vd,Nat.mul_comm]
      have hb1:Below wr.heap.size wr w2:=((Below.refl _ _).alloc (Nat.le_refl _) _).trans (hbp.mono (by simp));have HT:=Lib.hid (And.intro hDt (And.intro hdtl (And.intro hvt hb1)));clear hbt hDt hdtl hdtv hbp hvt hb1;have HR2:=Lib.hid (H2.out.rest.below HT.out.2.2.2);have hnl:(nr2:Int)<=m+1:=by have:=H2.out.long;omega
      by_cases hle:2^k*vd db m<=vd dr2 nr2
      ·have hbo:decide (vd dr2 nr2<vd dt (m+1))=false:=by rw[decide_eq_false_iff_not,HT.out.2.2.1];omega
       have HLE:=Lib.hid hle;clear hle
       go_wp2_with fail
       refine(less_any g2 cap2 bt capt nr2 (m+1) dr2 dt (by omega) (by omega) H2.out.restl HT.out.2.1 w2 HR2.out HT.out.1).mono ?_;rintro e w3 ⟨rfl,rfl⟩;rw[hbo]
       go_wp2_with fail
       refine(minus_any g2 cap2 bt capt nr2 (m+1) dr2 dt hnr2 (by omega) (by omega) H2.out.restl HT.out.2.1 (by rw[HT.out.2.2.1];exact HLE.out) w2 HR2.out HT.out.1).mono ?_;rintro e w4 ⟨b4,cap4,d4,rfl,hb4,hD4,hd4l,hd4v,hbm⟩;have hb2:Below wr.heap.size wr w4:=HT.out.2.2.2.trans (hbm.mono HT.out.2.2.2.size);have hcq:w4.cell? ⟨w.heap.size,i,none⟩=some (.int .u64 (q2 i:Nat)):=(hb2.cell (p:=⟨w.heap.size,i,none⟩) hlw).trans HQI.out.1;have hfq:w4.frozen? ⟨w.heap.size,i,none⟩=false:=(hb2.frozen (p:=⟨w.heap.size,i,none⟩) hlw).trans HQI.out.2;have hone:=H2.out.one (w':=w4) (g':=b4) (dr':=d4) (by omega) (by omega) hb2 HLE.out hD4 (Nat.le_trans HT.out.2.2.2.size hb4) hd4l (by rw[hd4v,HT.out.2.2.1]);rw[HP.out]at hone;have HONE:=Lib.hid hone;clear hone hb4 hD4 hd4l hd4v hbm hb2
       go_wp2_with fail
       rw[HOR.out]
       go_roundw
       case rel=>exact⟨(k:Int) - 1,k,b4,nr2,cap4,_,d4,by omega,rfl,rfl,rfl,hnr2,HONE⟩
       case measure=>first | (simp[intOf];done) | (simp[intOf];omega)
      ·have hbo:decide (vd dr2 nr2<vd dt (m+1))=true:=by rw[decide_eq_true_iff,HT.out.2.2.1];omega
       have HZ:=Lib.hid (H2.out.zero HT.out.2.2.2 hle);clear hle
       go_wp2_with fail
       refine(less_any g2 cap2 bt capt nr2 (m+1) dr2 dt (by omega) (by omega) H2.out.restl HT.out.2.1 w2 HR2.out HT.out.1).mono ?_;rintro e w3 ⟨rfl,rfl⟩;rw[hbo]
       go_wp2_with fail
       go_roundw
       case rel=>exact⟨(k:Int) - 1,k,g2,nr2,cap2,q2,dr2,by omega,rfl,rfl,rfl,hnr2,HZ⟩
       case measure=>first | (simp[intOf];done) | (simp[intOf];omega)
   ·have ht1:¬(m:Int)+1<1+(nr:Int):=by omega
    have ht2:decide ((m:Int)+1<1+(nr:Int))=false:=by rw[decide_eq_false_iff_not];exact ht1
    have HI:=Lib.hid (div_open H.out HN.out.1 HN.out.2.1 HN.out.2.2 hda HDM.out (.inl rfl) (by omega));clear ht hda
    go_wp2_with fail
    go_loopw [7,9] (fun rv kv wx=>∃(z:Int) (c g nr cap:Nat) (q dr:Nat->Nat),c<=16/\z=(c:Int) - 1/\kv=.int .i64 z/\rv=.slice (some ⟨g,0,none⟩) nr cap/\0<nr/\Hid (DivR w n m i c da q (vd db m) w.heap.size g nr dr wx)) (fun _ kv _=>(intOf kv+1).toNat)
    case atStart=>exact⟨15,16,g',(1+nr),cap',q,below1 (da i) dr,by omega,rfl,rfl,rfl,by omega,HI⟩
    case round =>
     obtain⟨z,c2,g2,nr2,cap2,q2,dr2,hc2,hz2,rfl,rfl,hnr2,H2⟩:=hrel;cases c2 with
     | zero =>
      have hz1:z<0:=by omega
      have hzf:decide (0<=z)=false:=by rw[decide_eq_false_iff_not];omega
      have HZ:=Lib.hid hz2;clear hz2
      go_wp2_with fail
      go_roundw
      case rel=>exact⟨(i:Int) - 1,i,g2,nr2,cap2,q2,dr2,by omega,rfl,rfl,rfl,H2⟩
      case measure=>first | (simp[intOf];done) | (simp[intOf];omega)
     | succ k =>
      obtain rfl:z=(k:Int):=by omega
      have hk0:(0:Int)<=k:=by omega
      have hk1:(k:Int)<=15:=by omega
      clear hz2;obtain⟨p,hp⟩:∃ p:Nat,2^k=p:=⟨_,rfl⟩
      have hpl:p<65536:=by rw[<- hp,show(65536:Nat)=2^16 by rfl];exact Nat.pow_lt_pow_right (by omega) (by omega)
      have hpw:IntKind.u64.wrap ((2:Int)^k)=(p:Int):=by
       have e0:((2^k:Nat):Int)=(2:Int)^k:=by simp
       rw[<- e0,hp,IntKind.wrap_u64];omega
      have hqi:=H2.out.out.2 i (by omega);have hor:bits .or .u64 ((q2 i:Nat):Int) (p:Int)=((q2 i+p:Nat):Int):=by
       have h:=bits_or_up H2.out.bits (H2.out.outl i (by omega)) (by omega);have e0:((2^k:Nat):Int)=(2:Int)^k:=by simp
       rw[<- e0,hp]at h;exact h
      have HOR:=Lib.hid hor;clear hor;have HQI:=Lib.hid hqi;clear hqi;have HPL:=Lib.hid hpl;clear hpl;have HP:=Lib.hid hp;clear hp;have hlw:w.heap.size<wr.heap.size:=H2.out.out.1
      go_wp2_with fail
      refine(product_digits bb cb wr.heap.size 1 m 1 db (fun _=>p) (by omega) (by omega) Hb.out (fun _ _=>HPL.out) _ (HB.out.below (H2.out.old.trans ((Below.refl _ _).alloc (by omega) _))) (dg_one wr p)).mono ?_;rintro e w2 ⟨bt,capt,dt,rfl,hbt,hDt,hdtl,hdtv,hbp⟩;have hvt:vd dt (m+1)=2^k*vd db m:=by rw[hdtv,HP.out];simp[vd,Nat.mul_comm]
      have hb1:Below wr.heap.size wr w2:=((Below.refl _ _).alloc (Nat.le_refl _) _).trans (hbp.mono (by simp));have HT:=Lib.hid (And.intro hDt (And.intro hdtl (And.intro hvt hb1)));clear hbt hDt hdtl hdtv hbp hvt hb1;have HR2:=Lib.hid (H2.out.rest.below HT.out.2.2.2);have hnl:(nr2:Int)<=m+1:=by have:=H2.out.long;omega
      by_cases hle:2^k*vd db m<=vd dr2 nr2
      ·have hbo:decide (vd dr2 nr2<vd dt (m+1))=false:=by rw[decide_eq_false_iff_not,HT.out.2.2.1];omega
       have HLE:=Lib.hid hle;clear hle
       go_wp2_with fail
       refine(less_any g2 cap2 bt capt nr2 (m+1) dr2 dt (by omega) (by omega) H2.out.restl HT.out.2.1 w2 HR2.out HT.out.1).mono ?_;rintro e w3 ⟨rfl,rfl⟩;rw[hbo]
       go_wp2_with fail
       refine(minus_any g2 cap2 bt capt nr2 (m+1) dr2 dt hnr2 (by omega) (by omega) H2.out.restl HT.out.2.1 (by rw[HT.out.2.2.1];exact HLE.out) w2 HR2.out HT.out.1).mono ?_;rintro e w4 ⟨b4,cap4,d4,rfl,hb4,hD4,hd4l,hd4v,hbm⟩;have hb2:Below wr.heap.size wr w4:=HT.out.2.2.2.trans (hbm.mono HT.out.2.2.2.size);have hcq:w4.cell? ⟨w.heap.size,i,none⟩=some (.int .u64 (q2 i:Nat)):=(hb2.cell (p:=⟨w.heap.size,i,none⟩) hlw).trans HQI.out.1;have hfq:w4.frozen? ⟨w.heap.size,i,none⟩=false:=(hb2.frozen (p:=⟨w.heap.size,i,none⟩) hlw).trans HQI.out.2;have hone:=H2.out.one (w':=w4) (g':=b4) (dr':=d4) (by omega) (by omega) hb2 HLE.out hD4 (Nat.le_trans HT.out.2.2.2.size hb4) hd4l (by rw[hd4v,HT.out.2.2.1]);rw[HP.out]at hone;have HONE:=Lib.hid hone;clear hone hb4 hD4 hd4l hd4v hbm hb2
       go_wp2_with fail
       rw[HOR.out]
       go_roundw
       case rel=>exact⟨(k:Int) - 1,k,b4,nr2,cap4,_,d4,by omega,rfl,rfl,rfl,hnr2,HONE⟩
       case measure=>first | (simp[intOf];done) | (simp[intOf];omega)
      ·have hbo:decide (vd dr2 nr2<vd dt (m+1))=true:=by rw[decide_eq_true_iff,HT.out.2.2.1];omega
       have HZ:=Lib.hid (H2.out.zero HT.out.2.2.2 hle);clear hle
       go_wp2_with fail
       refine(less_any g2 cap2 bt capt nr2 (m+1) dr2 dt (by omega) (by omega) H2.out.restl HT.out.2.1 w2 HR2.out HT.out.1).mono ?_;rintro e w3 ⟨rfl,rfl⟩;rw[hbo]
       go_wp2_with fail
       go_roundw
       case rel=>exact⟨(k:Int) - 1,k,g2,nr2,cap2,q2,dr2,by omega,rfl,rfl,rfl,hnr2,HZ⟩
       case measure=>first | (simp[intOf];done) | (simp[intOf];omega)
open Go.RowKit
def DS(n V:Nat)(v:Value)(w:World):Prop:=∃(b cap:Nat) (d:Nat->Nat),v=.slice (some ⟨b,0,none⟩) n cap/\Dg w b n d/\(∀ j,j<n->d j<65536)/\vd d n=V
def DR(m V:Nat)(v:Value)(w:World):Prop:=∃ nr,nr<=m+1/\DS nr V v w
def DQ(n m A D:Nat)(v:Value)(w:World):Prop:=∃ qv rv,v=.tuple #[qv,rv]/\DS n (A / D) qv w/\DR m (A%D) rv w
def RN(w w':World):Prop:=w.heap.size<=w'.heap.size/\∀(k:Nat),k<w.heap.size->w'.heap[k]?=w.heap[k]?
theorem RN.refl(w:World):RN w w:=⟨Nat.le_refl _,fun _ _=>rfl⟩
theorem RN.of{w w':World}(h:Below w.heap.size w w'):RN w w':=⟨h.size,fun k hk=>h.block k hk⟩
theorem DS.keep{n V:Nat}{v:Value}{w w':World}(hR:RN w w')(h:DS n V v w):DS n V v w':=by
 obtain⟨b,cap,d,hv,hD,h1,h2⟩:=h;exact⟨b,cap,d,hv,⟨Nat.lt_of_lt_of_le hD.1 hR.1,fun j hj=>(World.cell?_of_block (w:=w) (a:=⟨b,j,none⟩) (hR.2 b hD.1)).trans (hD.2 j hj)⟩,h1,h2⟩
theorem DR.keep{m V:Nat}{v:Value}{w w':World}(hR:RN w w')(h:DR m V v w):DR m V v w':=by
 obtain⟨nr,h1,h2⟩:=h;exact⟨nr,h1,h2.keep hR⟩
theorem DQ.keep{n m A D:Nat}{v:Value}{w w':World}(hR:RN w w')(h:DQ n m A D v w):DQ n m A D v w':=by
 obtain⟨q,r,h1,h2,h3⟩:=h;exact⟨q,r,h1,h2.keep hR,h3.keep hR⟩
theorem mk_ds{n V:Nat}{w w':World}{e:Ending}(h:MkDg n V w e w'):∃ v,e=.returned v/\Below w.heap.size w w'/\DS n V v w':=by
 obtain⟨b,cap,d,rfl,-,hD,h1,h2,hb⟩:=h;exact⟨_,rfl,hb,b,cap,d,rfl,hD,h1,h2⟩
theorem mk_dq{n m A D:Nat}{w w':World}{e:Ending}(h:DivPostR n m A D w e w'):∃ v,e=.returned v/\Below w.heap.size w w'/\DQ n m A D v w':=by
 obtain⟨Q,g,nr,cap,q,dr,rfl,hQ,hg,hl,hq,hr,h1,h2,hb⟩:=h;exact⟨_,rfl,hb,_,_,rfl,⟨Q,n,q,rfl,hQ,hq,h1⟩,nr,hl,g,cap,dr,rfl,hg,hr,h2⟩
theorem digits_ds(x:Nat)(w:World):Calls Tryz.prog 97 #[wv x] w fun e w'=>∃ v,e=.returned v/\Below w.heap.size w w'/\DS 16 (x%2^256) v w':=(digits_any x w).mono fun _ _ h=>mk_ds h
theorem divide_ds{n m A D:Nat}{a b:Value}{w:World}(hn:n<=100)(hm:m<=100)(hD:0<D)(ha:DS n A a w)(hb:DS m D b w):Calls Tryz.prog 153 #[a,b] w fun e w'=>∃ v,e=.returned v/\Below w.heap.size w w'/\DQ n m A D v w':=by
 obtain⟨ba,ca,da,rfl,hA,hal,rfl⟩:=ha;obtain⟨bb,cb,db,rfl,hB,hbl,rfl⟩:=hb;exact(divide_ref ba ca bb cb n m da db (by omega) (by omega) hal hbl hD w hA hB).mono fun _ _ h=>mk_dq h
theorem eqz_run(y:Nat)(b:Bool)(hb:decide (y%2^256=0)=b)(w:World):(binOp BinOp.eql 24 (.agg (pw y)) (.agg #[.int .u64 0,.int .u64 0,.int .u64 0,.int .u64 0])).run Tryz.prog w=.ok (.bool b) w:=by
 obtain⟨y0,y1,y2,y3,u0,u1,u2,u3,ey,ny⟩:=wv_parts y;rw[wv_pw]at ey;rw[ey];have h:∀ w,(Op.equalIn 10000 24 (.agg #[.int .u64 y0,.int .u64 y1,.int .u64 y2,.int .u64 y3]) (.agg #[.int .u64 0,.int .u64 0,.int .u64 0,.int .u64 0])).run Tryz.prog w=.ok b w:=fun w=>by
  have:=eqW y0 y1 y2 y3 0 0 0 0 w;have e:((y0 == 0)&&((y1 == 0)&&((y2 == 0)&&(y3 == 0))))=b:=by
   rw[<- hb,<- ny,Bool.eq_iff_iff];simp only[Bool.and_eq_true,beq_iff_eq,decide_eq_true_eq];unfold n4;omega
  rw[e]at this;exact this
 go_simp
theorem eqz_guard(y:Nat)(o1 o2:Operand)(w:World):(eqGuard BinOp.eql 24 o1 o2 (.agg (pw y)) (.agg #[.int .u64 0,.int .u64 0,.int .u64 0,.int .u64 0])).run Tryz.prog w=.ok () w:=by kernel_rfl
theorem pw_modn(x:Nat):pw (x%2^256)=pw x:=by
 have h:=wv_congr (x:=x%2^256) (y:=x) (Nat.mod_mod _ _);rw[wv_pw,wv_pw]at h;exact Value.agg.inj h
theorem pw_nought{y:Nat}(h:y%2^256=0):pw y=#[.int .u64 0,.int .u64 0,.int .u64 0,.int .u64 0]:=by
 rw[<- pw_modn,h];kernel_rfl
open Go.RowKit
theorem results_two{fn:Func}{p q:Tmp}(h:fn.results=#[.cell p 24,.cell q 24])(tmps:Array Value)(w:World)(g k:Nat)(cs ds:Array Value)(fr:Nat × Nat)
  (hp:tmps.getD p undef=.pointer (some ⟨g,0,none⟩)) (hq:tmps.getD q undef=.pointer (some ⟨k,0,none⟩)) (hg:w.heap[g]?=some (.cells cs 24 fr)) (hk:w.heap[k]?=some (.cells ds 24 fr))
  (hi:(Tryz.prog.info? 24).map (·.size)=some cs.size) (hj:(Tryz.prog.info? 24).map (·.size)=some ds.size) :
  (results fn tmps).run Tryz.prog w=.ok (.tuple #[.agg cs,.agg ds]) w:=by
 have hp':tmps[p]?.getD undef=.pointer (some ⟨g,0,none⟩):=by simpa using hp
 have hq':tmps[q]?.getD undef=.pointer (some ⟨k,0,none⟩):=by simpa using hq
 simp[results,h,hp',hq',asAddr,run_loadVar_row w g 24 24 cs fr _ hg Tryz.underlying24 rfl hi,run_loadVar_row w k 24 24 ds fr _ hk Tryz.underlying24 rfl hj]
structure CD (w:World) (x y:Nat) (wx:World):Prop where
 old:Below w.heap.size w wx
 r0:wx.heap[w.heap.size]?=some (.cells (pw x) 24 (0,0))
 r1:wx.heap[w.heap.size+1]?=some (.cells (pw y) 24 (0,0))
 r2:wx.heap[w.heap.size+1+1]?=some (.cells #[.int .u64 0,.int .u64 0,.int .u64 0,.int .u64 0] 24 (0,0))
 r3:wx.heap[w.heap.size+1+1+1]?=some (.cells #[.int .u64 0,.int .u64 0,.int .u64 0,.int .u64 0] 24 (0,0))
theorem CD.below{w wx w':World}{x y:Nat}(h:CD w x y wx)(hb:Below wx.heap.size wx w'):CD w x y w' :=
 ⟨h.old.trans (hb.mono h.old.size),(hb.block _ (Array.getElem?_eq_some_iff.1 h.r0).1).trans h.r0,(hb.block _ (Array.getElem?_eq_some_iff.1 h.r1).1).trans h.r1,(hb.block _ (Array.getElem?_eq_some_iff.1 h.r2).1).trans h.r2,(hb.block _ (Array.getElem?_eq_some_iff.1 h.r3).1).trans h.r3⟩
theorem heap4(w:World)(A B C D:Obj):((((w.alloc A).alloc B).alloc C).alloc D).heap[w.heap.size]?=some A/\((((w.alloc A).alloc B).alloc C).alloc D).heap[w.heap.size+1]?=some B/\((((w.alloc A).alloc B).alloc C).alloc D).heap[w.heap.size+1+1]?=some C/\((((w.alloc A).alloc B).alloc C).alloc D).heap[w.heap.size+1+1+1]?=some D:=by
 obtain⟨h1,h2,h3⟩:=heap3 w A B C;exact⟨(heap_alloc_old _ _ (by first | (simp;done) | (simp;omega))).trans h1,(heap_alloc_old _ _ (by first | (simp;done) | (simp;omega))).trans h2,(heap_alloc_old _ _ (by first | (simp;done) | (simp;omega))).trans h3,by have:=heap_alloc_new (((w.alloc A).alloc B).alloc C) D;simpa using this⟩
theorem divmod_in(x y:Nat)(hy:¬y%2^256=0)(w:World):Calls Tryz.prog 144 #[.agg (pw x),.agg (pw y)] w fun e w'=>e=.returned (.tuple #[.agg (pw ((x%2^256) / (y%2^256))),.agg (pw ((x%2^256)%(y%2^256)))])/\Below w.heap.size w w':=by
 have hzf:=eqz_run y false (decide_eq_false hy);have hzg:=eqz_guard y;have HY:=Lib.hid (Nat.pos_of_ne_zero hy);clear hy;have hC0:CD w x y ((((w.alloc (.cells (pw x) 24)).alloc (.cells (pw y) 24)).alloc (.cells #[.int .u64 0,.int .u64 0,.int .u64 0,.int .u64 0] 24)).alloc (.cells #[.int .u64 0,.int .u64 0,.int .u64 0,.int .u64 0] 24)):=⟨by go_grown,(heap4 _ _ _ _ _).1,(heap4 _ _ _ _ _).2.1,(heap4 _ _ _ _ _).2.2.1,(heap4 _ _ _ _ _).2.2.2⟩
 have HC0:=Lib.hid hC0;clear hC0;go_enter Tryz.func144,Tryz.ntmps144
 go_wp2_with (refine wpList_load_row rfl 24 _ rfl (w.heap.size+1) rfl 24 (pw y) (0,0) _ HC0.out.r1 Tryz.underlying24 rfl infoWord ?_)
 refine region_tie (CD w x y) (fun i s wx=>match i with | 0=>s 14=wv x | 1=>DS 16 (x%2^256) (s 15) wx | 2=>s 16=wv y | 3=>DS 16 (y%2^256) (s 17) wx | 4=>DQ 16 16 (x%2^256) (y%2^256) (s 18) wx | 5=>DQ 16 16 (x%2^256) (y%2^256) (s 13) wx | 6=>DS 16 ((x%2^256) / (y%2^256)) (s 19) wx | 7=>DR 16 ((x%2^256)%(y%2^256)) (s 20) wx | 8=>DS 16 ((x%2^256) / (y%2^256)) (s 6) wx | 9=>DR 16 ((x%2^256)%(y%2^256)) (s 7) wx | _=>True) RN (fun i=>match i with | 0=>[14] | 1=>[15] | 2=>[16] | 3=>[17] | 4=>[18] | 5=>[13] | 6=>[19] | 7=>[20] | 8=>[6] | 9=>[7] | _=>[]) (fun i=>i) (by kernel_rfl) (by kernel_rfl) (⟨HC0.out.old.drew,HC0.out.r0,HC0.out.r1,HC0.out.r2,HC0.out.r3⟩) ?_ ?_ ?_ ?_
 ·intro i s s' wx he hp
  match i,he,hp with
  | 0,he,hp=>have h:=he 14 (by simp);(first | exact h ▸ hp | (rw[h]at hp;exact hp))
  | 1,he,hp=>have h:=he 15 (by simp);(first | exact h ▸ hp | (rw[h]at hp;exact hp))
  | 2,he,hp=>have h:=he 16 (by simp);(first | exact h ▸ hp | (rw[h]at hp;exact hp))
  | 3,he,hp=>have h:=he 17 (by simp);(first | exact h ▸ hp | (rw[h]at hp;exact hp))
  | 4,he,hp=>have h:=he 18 (by simp);(first | exact h ▸ hp | (rw[h]at hp;exact hp))
  | 5,he,hp=>have h:=he 13 (by simp);(first | exact h ▸ hp | (rw[h]at hp;exact hp))
  | 6,he,hp=>have h:=he 19 (by simp);(first | exact h ▸ hp | (rw[h]at hp;exact hp))
  | 7,he,hp=>have h:=he 20 (by simp);(first | exact h ▸ hp | (rw[h]at hp;exact hp))
  | 8,he,hp=>have h:=he 6 (by simp);(first | exact h ▸ hp | (rw[h]at hp;exact hp))
  | 9,he,hp=>have h:=he 7 (by simp);(first | exact h ▸ hp | (rw[h]at hp;exact hp))
  | _+10,_,_=>trivial
 ·intro i s wa wb hR hp
  match i,hp with
  | 0,hp=>exact hp
  | 1,hp=>exact hp.keep hR
  | 2,hp=>exact hp
  | 3,hp=>exact hp.keep hR
  | 4,hp=>exact hp.keep hR
  | 5,hp=>exact hp.keep hR
  | 6,hp=>exact hp.keep hR
  | 7,hp=>exact hp.keep hR
  | 8,hp=>exact hp.keep hR
  | 9,hp=>exact hp.keep hR
  | _+10,_=>trivial
 ·refine⟨?_,?_,?_,?_,?_,?_,?_,?_,?_,?_,trivial⟩
  ·intro a wx hC hsz hK
   have h0:a.tmps.getD 2 undef=.pointer (some ⟨w.heap.size,0,none⟩):=hK.1 2 (by kernel_rfl);exact tt_load 24 (.tmp 2) (.pointer (some ⟨w.heap.size,0,none⟩)) (wv x) rfl (by kernel_rfl) h0 (load_pw hC.r0) hC (slots_put _ _ _ (by rw[hsz];exact of_decide_eq_true (by kernel_rfl))) (RN.refl _)
  ·intro a wx hC hsz hK
   have h0:=hK.2 ⟨0,.data⟩ (by simp) rfl _ rfl;refine tt_call 97 #[a.tmps.getD 14 undef] (by kernel_rfl) (by kernel_rfl) ?_;rw[show a.tmps.getD 14 undef=_ from h0];refine Calls.mono (digits_ds x wx) ?_;rintro e w' ⟨v,rfl,hb,hv⟩;exact⟨v,rfl,hC.below hb,by rw[slots_put _ _ _ (by rw[hsz];exact of_decide_eq_true (by kernel_rfl))];exact hv,RN.of hb⟩
  ·intro a wx hC hsz hK
   have h0:a.tmps.getD 3 undef=.pointer (some ⟨w.heap.size+1,0,none⟩):=hK.1 3 (by kernel_rfl);exact tt_load 24 (.tmp 3) (.pointer (some ⟨w.heap.size+1,0,none⟩)) (wv y) rfl (by kernel_rfl) h0 (load_pw hC.r1) hC (slots_put _ _ _ (by rw[hsz];exact of_decide_eq_true (by kernel_rfl))) (RN.refl _)
  ·intro a wx hC hsz hK
   have h0:=hK.2 ⟨2,.data⟩ (by simp) rfl _ rfl;refine tt_call 97 #[a.tmps.getD 16 undef] (by kernel_rfl) (by kernel_rfl) ?_;rw[show a.tmps.getD 16 undef=_ from h0];refine Calls.mono (digits_ds y wx) ?_;rintro e w' ⟨v,rfl,hb,hv⟩;exact⟨v,rfl,hC.below hb,by rw[slots_put _ _ _ (by rw[hsz];exact of_decide_eq_true (by kernel_rfl))];exact hv,RN.of hb⟩
  ·intro a wx hC hsz hK
   have h0:=hK.2 ⟨1,.data⟩ (by simp) rfl _ rfl;have h1:=hK.2 ⟨3,.data⟩ (by simp) rfl _ rfl;refine tt_call 153 #[a.tmps.getD 15 undef,a.tmps.getD 17 undef] (by kernel_rfl) (by kernel_rfl) ?_;refine Calls.mono (divide_ds (by omega) (by omega) HY.out h0 h1) ?_;rintro e w' ⟨v,rfl,hb,hv⟩;exact⟨v,rfl,hC.below hb,by rw[slots_put _ _ _ (by rw[hsz];exact of_decide_eq_true (by kernel_rfl))];exact hv,RN.of hb⟩
  ·intro a wx hC hsz hK
   have h0:=hK.2 ⟨4,.data⟩ (by simp) rfl _ rfl;exact tt_val (a.tmps.getD 18 undef) (by kernel_rfl) (by kernel_rfl) hC (by rw[slots_put _ _ _ (by rw[hsz];exact of_decide_eq_true (by kernel_rfl))];exact h0) (RN.refl _)
  ·intro a wx hC hsz hK
   have h0:=hK.2 ⟨5,.data⟩ (by simp) rfl _ rfl;obtain⟨qv,rv,ev,hq,hr⟩:=h0;have ev':a.tmps.getD 13 undef=.tuple #[qv,rv]:=ev;refine tt_v (Instr.extract (a.tmps.getD 13 undef) 0) qv (by kernel_rfl) rfl ?_ hC (by rw[slots_put _ _ _ (by rw[hsz];exact of_decide_eq_true (by kernel_rfl))];exact hq) (RN.refl _);rw[ev'];kernel_rfl
  ·intro a wx hC hsz hK
   have h0:=hK.2 ⟨5,.data⟩ (by simp) rfl _ rfl;obtain⟨qv,rv,ev,hq,hr⟩:=h0;have ev':a.tmps.getD 13 undef=.tuple #[qv,rv]:=ev;refine tt_v (Instr.extract (a.tmps.getD 13 undef) 1) rv (by kernel_rfl) rfl ?_ hC (by rw[slots_put _ _ _ (by rw[hsz];exact of_decide_eq_true (by kernel_rfl))];exact hr) (RN.refl _);rw[ev'];kernel_rfl
  ·intro a wx hC hsz hK
   have h0:=hK.2 ⟨6,.data⟩ (by simp) rfl _ rfl;exact tt_val (a.tmps.getD 19 undef) (by kernel_rfl) (by kernel_rfl) hC (by rw[slots_put _ _ _ (by rw[hsz];exact of_decide_eq_true (by kernel_rfl))];exact h0) (RN.refl _)
  ·intro a wx hC hsz hK
   have h0:=hK.2 ⟨7,.data⟩ (by simp) rfl _ rfl;exact tt_val (a.tmps.getD 20 undef) (by kernel_rfl) (by kernel_rfl) hC (by rw[slots_put _ _ _ (by rw[hsz];exact of_decide_eq_true (by kernel_rfl))];exact h0) (RN.refl _)
 ·intro f wx hC hf
  have s14:=hf 0 _ rfl;obtain⟨b15,c15,d15,s15,g15,l15,v15⟩:=hf 1 _ rfl;have s16:=hf 2 _ rfl;obtain⟨b17,c17,d17,s17,g17,l17,v17⟩:=hf 3 _ rfl;obtain⟨q18,r18,s18,-,-⟩:=hf 4 _ rfl;obtain⟨q13,r13,s13,-,-⟩:=hf 5 _ rfl;obtain⟨b19,c19,d19,s19,g19,l19,v19⟩:=hf 6 _ rfl;obtain⟨n20,m20,b20,c20,d20,s20,g20,l20,v20⟩:=hf 7 _ rfl;obtain⟨b6,c6,d6,s6,g6,l6,v6⟩:=hf 8 _ rfl;obtain⟨n7,m7,b7,c7,d7,s7,g7,l7,v7⟩:=hf 9 _ rfl;clear hf;generalize hA:putAll _ _ _=A at *;have hsz:A.tmps.size=25:=by rw[<- hA,putAll_size];rfl
  have t0:A.tmps.getD 0 undef=.agg (pw x):=by subst hA;kernel_rfl
  have t1:A.tmps.getD 1 undef=.agg (pw y):=by subst hA;kernel_rfl
  have t2:A.tmps.getD 2 undef=.pointer (some ⟨w.heap.size,0,none⟩):=by subst hA;kernel_rfl
  have t3:A.tmps.getD 3 undef=.pointer (some ⟨w.heap.size+1,0,none⟩):=by subst hA;kernel_rfl
  have t4:A.tmps.getD 4 undef=.pointer (some ⟨w.heap.size+1+1,0,none⟩):=by subst hA;kernel_rfl
  have t5:A.tmps.getD 5 undef=.pointer (some ⟨w.heap.size+1+1+1,0,none⟩):=by subst hA;kernel_rfl
  have t8:A.tmps.getD 8 undef=.agg (pw y):=by subst hA;kernel_rfl
  have t9:A.tmps.getD 9 undef=.agg #[.int .u64 0,.int .u64 0,.int .u64 0,.int .u64 0]:=by subst hA;kernel_rfl
  have t10:A.tmps.getD 10 undef=.bool false:=by subst hA;kernel_rfl
  have t11:A.tmps.getD 11 undef=undef:=by subst hA;kernel_rfl
  have t12:A.tmps.getD 12 undef=undef:=by subst hA;kernel_rfl
  have t21:A.tmps.getD 21 undef=undef:=by subst hA;kernel_rfl
  have t22:A.tmps.getD 22 undef=undef:=by subst hA;kernel_rfl
  have t23:A.tmps.getD 23 undef=undef:=by subst hA;kernel_rfl
  have t24:A.tmps.getD 24 undef=undef:=by subst hA;kernel_rfl
  have hd:A.defers=[]:=by subst hA;kernel_rfl
  clear hA;obtain⟨tm,df⟩:=A;simp only[slots]at *;have hL:=arr_lit tm;rw[hsz]at hL;simp only[List.range,List.range.loop,List.map]at hL;rw[t0,t1,t2,t3,t4,t5,s6,s7,t8,t9,t10,t11,t12,s13,s14,s15,s16,s17,s18,s19,s20,t21,t22,t23,t24]at hL;subst hL hd;clear t0 t1 t2 t3 t4 t5 s6 s7 t8 t9 t10 t11 t12 s13 s14 s15 s16 s17 s18 s19 s20 t21 t22 t23 t24 hsz;have HC:=Lib.hid hC;clear hC;have G7:=Lib.hid g7;clear g7
  go_wp2_with fail
  refine(word_any b6 c6 16 d6 (by omega) l6 wx g6).mono ?_;rintro e w1 ⟨rfl,hb1⟩;rw[v6];have HC1:=Lib.hid (HC.out.below hb1);have G71:=Lib.hid (G7.out.below hb1);clear hb1
  go_wp2_with fail
  refine(word_any b7 c7 n7 d7 (by omega) l7 w1 G71.out).mono ?_;rintro e w2 ⟨rfl,hb2⟩;rw[v7];have HC2:=Lib.hid (HC1.out.below hb2);have R3:=Lib.hid ((setRow_other w2 (w.heap.size+1+1) (w.heap.size+1+1+1) (pw ((x%2^256) / (y%2^256))) (by omega)).trans HC2.out.r3);clear hb2
  go_wp2_with (first | (refine wpList_store_row rfl 24 _ _ rfl (w.heap.size+1+1) (pw ((x%2^256) / (y%2^256))) rfl rfl 24 #[.int .u64 0,.int .u64 0,.int .u64 0,.int .u64 0] HC2.out.r2 infoWord rfl (pw_one _) ?_) | (refine wpList_store_row rfl 24 _ _ rfl (w.heap.size+1+1+1) (pw ((x%2^256)%(y%2^256))) rfl rfl 24 #[.int .u64 0,.int .u64 0,.int .u64 0,.int .u64 0] R3.out infoWord rfl (pw_one _) ?_))
  (try simp only[Exit.inBlock,Exit.then])
  have e2:=(setRow_other (w2.setRow (w.heap.size+1+1) (pw ((x%2^256) / (y%2^256)))) (w.heap.size+1+1+1) (w.heap.size+1+1) (pw ((x%2^256)%(y%2^256))) (by omega)).trans (setRow_heap _ _ _ _ _ _ HC2.out.r2);exact bodyPost_ret (v:=.tuple #[.agg (pw ((x%2^256) / (y%2^256))),.agg (pw ((x%2^256)%(y%2^256)))]) (results_two (p:=4) (q:=5) rfl _ _ (w.heap.size+1+1) (w.heap.size+1+1+1) _ _ (0,0) rfl rfl e2 (setRow_heap _ _ _ _ _ _ R3.out) infoWord infoWord) rfl ⟨rfl,below_setRow (below_setRow HC2.out.old (by omega) _) (by omega) _⟩
theorem divmod_nought(x:Nat)(w:World):Calls Tryz.prog 144 #[.agg (pw x),.agg #[.int .u64 0,.int .u64 0,.int .u64 0,.int .u64 0]] w fun e w'=>e=.returned (.tuple #[.agg #[.int .u64 0,.int .u64 0,.int .u64 0,.int .u64 0],.agg #[.int .u64 0,.int .u64 0,.int .u64 0,.int .u64 0]])/\Below w.heap.size w w':=by
 have hzf:∀ w,(binOp BinOp.eql 24 (.agg #[.int .u64 0,.int .u64 0,.int .u64 0,.int .u64 0]) (.agg #[.int .u64 0,.int .u64 0,.int .u64 0,.int .u64 0])).run Tryz.prog w=.ok (.bool true) w:=fun w=>eqz_run 0 true rfl w;have hzg:∀(o1 o2:Operand) w,(eqGuard BinOp.eql 24 o1 o2 (.agg #[.int .u64 0,.int .u64 0,.int .u64 0,.int .u64 0]) (.agg #[.int .u64 0,.int .u64 0,.int .u64 0,.int .u64 0])).run Tryz.prog w=.ok () w:=fun o1 o2 w=>eqz_guard 0 o1 o2 w;go_enter Tryz.func144,Tryz.ntmps144;go_wp2
 go_region
 all_goals (go_wp2;refine bodyPost_ret (v:=.tuple #[.agg #[.int .u64 0,.int .u64 0,.int .u64 0,.int .u64 0],.agg #[.int .u64 0,.int .u64 0,.int .u64 0,.int .u64 0]]) (by simp[results,Tryz.results144,go_sem];try rfl) rfl ⟨rfl,by go_grown⟩)
-- WHAT bailiwickref01.DivMod COMES TO.
theorem divmod_ref(x y:Nat)(w:World):Calls Tryz.prog 144 #[wv x,wv y] w fun e w'=>e=.returned (.tuple #[wv (quoV (x%2^256) y),wv (remV (x%2^256) y)])/\Below w.heap.size w w':=by
 unfold quoV remV;rw[wv_pw x,wv_pw y];by_cases h:y%2^256=0
 ·rw[if_pos h,if_pos h,pw_nought h]
  exact divmod_nought x w
 ·rw[if_neg h,if_neg h]
  exact divmod_in x y h w
end Go.Proofs.YtadfjjfklihaaaaGreat
