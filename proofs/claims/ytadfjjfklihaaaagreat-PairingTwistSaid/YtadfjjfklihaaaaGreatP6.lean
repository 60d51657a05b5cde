/- What word.shiftDown comes to, with noughts or with ones from above. (Cut to what is reached, written closely: Word · Prod · Down · Shls · Downs.) -/
import Derived.Test.YtadfjjfklihaaaaGreatP5
import Derived.Test.YtadfjjfklihaaaaGreatP2
import Derived.BigQuiet
import Derived.WalkSmall
import Derived.OwnWalk
set_option linter.all false
set_option maxRecDepth 100000
set_option maxHeartbeats 8000000
namespace Go.Proofs.YtadfjjfklihaaaaGreat
open Go.RowKit
def wpt(d:Nat->Nat)(p:Nat):Nat->Nat
 | 0=>0
 | k+1=>wpt d p k+if k / 4=p then d k*2^(16*(k%4))else 0
def mm(p k:Nat):Nat:=min 4 (k - 4*p)
theorem wpt_lt{d:Nat->Nat}(p:Nat):∀ k,(∀ j,j<k->d j<65536)->wpt d p k<2^(16*mm p k)
 | 0,_=>by simp[wpt,Nat.two_pow_pos]
 | k+1,h=>by
  have ih:=wpt_lt p k (fun j hj=>h j (by omega));have hd:=h k (by omega);unfold wpt;by_cases e:k / 4=p
  ·rw[if_pos e]
   have m0:mm p k=k%4:=by unfold mm;omega
   have m1:mm p (k+1)=k%4+1:=by unfold mm;omega
   rw[m0]at ih;rw[m1,show 16*(k%4+1)=16*(k%4)+16 by omega,Nat.pow_add];have h2:d k*2^(16*(k%4))<=65535*2^(16*(k%4)):=Nat.mul_le_mul_right _ (by omega);have e16:(2:Nat)^16=65536:=by rfl
   rw[e16];omega
  ·rw[if_neg e,Nat.add_zero]
   exact Nat.lt_of_lt_of_le ih (Nat.pow_le_pow_right (by omega) (by unfold mm;omega))
theorem wpt_64{d:Nat->Nat}(p k:Nat)(h:∀ j,j<k->d j<65536):wpt d p k<18446744073709551616:=by
 refine Nat.lt_of_lt_of_le (wpt_lt p k h) ?_;have e:18446744073709551616=2^64:=by rfl
 rw[e];exact Nat.pow_le_pow_right (by omega) (by unfold mm;omega)
theorem wlow{d:Nat->Nat}{k p s:Nat}(hp:k / 4=p)(hs:16*(k%4)=s)(h:∀ j,j<k->d j<65536):wpt d p k<2^s:=by
 have:=wpt_lt (d:=d) p k h;rwa [show mm p k=k%4 by unfold mm;omega,hs]at this
theorem wpt_n4{d:Nat->Nat}:∀ k,k<=16->n4 (wpt d 0 k) (wpt d 1 k) (wpt d 2 k) (wpt d 3 k)=vd d k
 | 0,_=>rfl
 | k+1,h=>by
  have ih:=wpt_n4 (d:=d) k (by omega);have e:65536^k*d k=2^(64*(k / 4))*(d k*2^(16*(k%4))):=by
   rw[show(65536:Nat)=2^16 by rfl,<- Nat.pow_mul,show 16*k=64*(k / 4)+16*(k%4) by omega,Nat.pow_add,Nat.mul_assoc,Nat.mul_comm (2^(16*(k%4)))]
  simp only[wpt,vd];rw[e,<- ih];generalize d k*2^(16*(k%4))=y;have c:k / 4=0\/k / 4=1\/k / 4=2\/k / 4=3:=by omega
  rcases c with c | c | c | c
  ·rw[c,show(2:Nat)^(64*0)=1 by rfl];simp only[n4];simp;omega
  ·rw[c,show(2:Nat)^(64*1)=18446744073709551616 by rfl];simp only[n4];simp;omega
  ·rw[c,show(2:Nat)^(64*2)=340282366920938463463374607431768211456 by rfl];simp only[n4];simp;omega
  ·rw[c,show(2:Nat)^(64*3)=6277101735386680763835789423207666416102355444464034512896 by rfl];simp only[n4];simp;omega
theorem wpt_all{d:Nat->Nat}{K:Nat}(hK:K<=16)(h:∀ j,j<K->d j<65536):wpt d 0 K<18446744073709551616/\wpt d 1 K<18446744073709551616/\wpt d 2 K<18446744073709551616/\wpt d 3 K<18446744073709551616/\n4 (wpt d 0 K) (wpt d 1 K) (wpt d 2 K) (wpt d 3 K)=vd d K :=
 ⟨wpt_64 _ _ h,wpt_64 _ _ h,wpt_64 _ _ h,wpt_64 _ _ h,wpt_n4 K hK⟩
theorem or_up(x y s:Nat)(hx:x<2^s)(hy:y<65536)(hs:s<=48):bits .or .u64 (x:Int) (IntKind.u64.wrap ((y:Int)*2^s))=((x+y*2^s:Nat):Int):=by
 have h1:2^s<=2^48:=Nat.pow_le_pow_right (by omega) hs;have h2:y*2^s<=65535*2^48:=Nat.mul_le_mul (by omega) h1;have h3:y*2^s<18446744073709551616:=by omega
 have e:IntKind.u64.wrap ((y:Int)*2^s)=((y*2^s:Nat):Int):=by
  rw[IntKind.wrap_u64];have e0:(y:Int)*2^s=((y*2^s:Nat):Int):=by simp
  rw[e0];omega
 rw[e,bits_or_u64_nat x (y*2^s) (by omega) h3];have:=Nat.two_pow_add_eq_or_of_lt hx y;rw[Nat.or_comm,Nat.mul_comm y,<- this,Nat.add_comm]
def rw4(d:Nat->Nat)(k:Nat):Array Value:=#[.int .u64 (wpt d 0 k:Nat),.int .u64 (wpt d 1 k:Nat),.int .u64 (wpt d 2 k:Nat),.int .u64 (wpt d 3 k:Nat)]
theorem rw4_at(d:Nat->Nat)(k p:Nat)(h:p<4):(rw4 d k)[p]?=some (.int .u64 (wpt d p k:Nat)):=by
 have c:p=0\/p=1\/p=2\/p=3:=by omega
 rcases c with rfl | rfl | rfl | rfl <;> rfl
theorem rw4_one(d:Nat->Nat)(k:Nat):(rw4 d k).all (·.oneCell')=true:=by
 simp[rw4,Value.oneCell']
theorem rw4_set(d:Nat->Nat)(k p s:Nat)(hk:k<16)(hp:k / 4=p)(hs:16*(k%4)=s):(rw4 d k).setIfInBounds p (.int .u64 ((wpt d p k+d k*2^s:Nat):Int))=rw4 d (k+1):=by
 have c:p=0\/p=1\/p=2\/p=3:=by omega
 subst hs;rcases c with rfl | rfl | rfl | rfl <;> simp[rw4,wpt,hp]
theorem rw4_wv(d:Nat->Nat)(K:Nat)(hK:K<=16)(h:∀ j,j<K->d j<65536):Value.agg (rw4 d K)=wv (vd d K):=by
 obtain⟨h0,h1,h2,h3,e⟩:=wpt_all hK h;rw[<- e,wv_n4 h0 h1 h2 h3];rfl
theorem heap2(w:World)(A B:Obj):((w.alloc A).alloc B).heap[w.heap.size]?=some A/\((w.alloc A).alloc B).heap[w.heap.size+1]?=some B:=⟨heap_alloc2_old _ _ _,heap_alloc2_new _ _ _⟩
theorem word_walk(b cp n:Nat)(d:Nat->Nat)(hn:(n:Int)<=1000000)(hd:∀ j,j<n->d j<65536)(w:World)(hD:Dg w b n d) :
  Calls Tryz.prog 83 #[.slice (some ⟨b,0,none⟩) n cp] w fun e w'=>e=.returned (.agg (rw4 d (min 16 n)))/\Below w.heap.size w w':=by
 have HD:=Lib.hid hd;clear hd;have HDG:=Lib.hid hD;clear hD;go_enter Tryz.func83,Tryz.ntmps83;go_wp2
 go_loopw [4] (fun i wr=>∃ k:Nat,k<=min 16 n/\i=.int .i64 k/\Hid (wr.heap[w.heap.size]?=some (.cells (rw4 d 0) 24 (0,0))/\wr.heap[w.heap.size+1]?=some (.cells (rw4 d k) 24 (0,0))/\Below w.heap.size w wr)) (fun i _=>16 - (intOf i).toNat)
 case atStart=>exact⟨0,by omega,rfl,Lib.hid ⟨(heap2 _ _ _).1,(heap2 _ _ _).2,by go_grown⟩⟩
 case round =>
  obtain⟨k,hk,rfl,H⟩:=hrel;have hk0:(0:Int)<=k:=by omega
  have hk1:(k:Int)<=16:=by omega
  by_cases hlt:k<min 16 n
  ·have h16:(k:Int)<16:=by omega
   have hkn:(k:Int)<(n:Int):=by omega
   obtain⟨p,hp⟩:∃ p:Nat,(k:Int) / 4=(p:Int):=⟨k / 4,by omega⟩
   obtain⟨s,hs⟩:∃ s:Nat,16*((k:Int)%4)=(s:Int):=⟨16*(k%4),by omega⟩
   have hp0:(0:Int)<=p:=by omega
   have hp1:(p:Int)<4:=by omega
   have hs0:(0:Int)<=s:=by omega
   have hs1:(s:Int)<64:=by omega
   have cd:wr.cell? ⟨b,k,none⟩=some (.int .u64 (d k:Nat)):=(H.out.2.2.cell (p:=⟨b,k,none⟩) HDG.out.1).trans (HDG.out.2 k (by omega));have ca:wr.cell? ⟨w.heap.size+1,p,none⟩=some (.int .u64 (wpt d p k:Nat)):=(cell_of_row wr _ p _ _ _ H.out.2.1).trans (rw4_at d k p (by omega));have cf:wr.frozen? ⟨w.heap.size+1,p,none⟩=false:=frozen_of_row wr _ p _ _ H.out.2.1;have hv:=or_up (wpt d p k) (d k) s (wlow (by omega) (by omega) (fun j hj=>HD.out j (by omega))) (HD.out k (by omega)) (by omega);have HV:=Lib.hid hv;clear hv;go_wp2;refine region_quiet_tail 17 (fun w'=>∃ n,w'=wr.drewN n) (by kernel_rfl) (by kernel_rfl) ⟨1,rfl⟩ ?_;simp only[List.take_succ_cons,List.take_zero,List.drop_succ_cons,List.drop_zero]
   repeat (go_big_quiet_step (fail))
   with_reducible refine wpQuiet_nil ?_
   rintro _ ⟨nq,rfl⟩;go_wp2
   go_roundw
   case rel =>
    refine⟨k+1,by omega,by go_num,Lib.hid ⟨(heap_setCell_other (wr.drewN nq) _ _ _ (by simp)).trans H.out.1,?_,(below_drewN H.out.2.2 nq).setCell (by simp) _⟩⟩;rw[HV.out,heap_setCell_same (wr.drewN nq) _ _ _ _ _ H.out.2.1,rw4_set d k p s (by omega) (by omega) (by omega)]
   case measure=>simp[intOf];omega
  ·obtain rfl:k=min 16 n:=by omega
   have hi:(Tryz.prog.info? 24).map (·.size)=some 4:=by kernel_rfl
   have HI:=Lib.hid hi;clear hi;generalize hK:min 16 n=K at *;by_cases h16:K=16
   ·have hx:decide ((K:Int)<16)=false:=by rw[decide_eq_false_iff_not];omega
    have HK:=Lib.hid hK;clear hK h16
    go_wp2_with (first | (refine wpList_load_row rfl 24 _ rfl (w.heap.size+1) rfl 24 _ (0,0) _ H.out.2.1 Tryz.underlying24 rfl HI.out ?_) | (refine wpList_store_row rfl 24 _ _ rfl w.heap.size (rw4 d K) rfl rfl 24 (rw4 d 0) H.out.1 HI.out rfl (rw4_one _ _) ?_))
    refine bodyPost_ret (v:=.agg (rw4 d K)) (results_cell_row (p:=2) rfl _ _ w.heap.size 24 _ (0,0) _ rfl (setRow_heap _ _ _ _ _ _ H.out.1) Tryz.underlying24 rfl HI.out) rfl ⟨by rw[HK.out],below_setRow H.out.2.2 (Nat.le_refl _) _⟩
   ·have hx:decide ((K:Int)<16)=true:=by rw[decide_eq_true_iff];omega
    have hy:decide (K<n)=false:=by rw[decide_eq_false_iff_not];omega
    have HK:=Lib.hid hK;clear hK h16
    go_wp2_with (first | (refine wpList_load_row rfl 24 _ rfl (w.heap.size+1) rfl 24 _ (0,0) _ H.out.2.1 Tryz.underlying24 rfl HI.out ?_) | (refine wpList_store_row rfl 24 _ _ rfl w.heap.size (rw4 d K) rfl rfl 24 (rw4 d 0) H.out.1 HI.out rfl (rw4_one _ _) ?_))
    refine bodyPost_ret (v:=.agg (rw4 d K)) (results_cell_row (p:=2) rfl _ _ w.heap.size 24 _ (0,0) _ rfl (setRow_heap _ _ _ _ _ _ H.out.1) Tryz.underlying24 rfl HI.out) rfl ⟨by rw[HK.out],below_setRow H.out.2.2 (Nat.le_refl _) _⟩
theorem vd_low(d:Nat->Nat)(n:Nat):∀ m,n<=m->vd d m%65536^n=vd d n%65536^n:=by
 intro m hm
 induction m with
 | zero=>(obtain rfl:n=0:=by omega);rfl
 | succ m ih =>
  by_cases e:n=m+1
  ·rw[e]
  ·simp only[vd]
   rw[<- ih (by omega)];have:65536^m*d m=65536^n*(65536^(m - n)*d m):=by rw[<- Nat.mul_assoc,<- Nat.pow_add,show n+(m - n)=m by omega]
   rw[this,Nat.add_mul_mod_self_left]
-- WHAT Word COMES TO.
theorem word_any(b cp n:Nat)(d:Nat->Nat)(hn:(n:Int)<=1000000)(hd:∀ j,j<n->d j<65536)(w:World)(hD:Dg w b n d) :
  Calls Tryz.prog 83 #[.slice (some ⟨b,0,none⟩) n cp] w fun e w'=>e=.returned (wv (vd d n))/\Below w.heap.size w w':=by
 have h:=word_walk b cp n d hn hd w hD;rw[rw4_wv d (min 16 n) (by omega) (fun j hj=>hd j (by omega))]at h;by_cases h16:n<=16
 ·rw[Nat.min_eq_right h16]at h
  exact h
 ·rw[Nat.min_eq_left (by omega)]at h
  have e:wv (vd d 16)=wv (vd d n):=wv_congr (vd_low d 16 n (by omega)).symm;rw[e]at h;exact h
open Go.RowKit
def OutAt(wr:World)(B L:Nat)(o:Nat->Nat):Prop:=B<wr.heap.size/\∀ j,j<L->wr.cell? ⟨B,j,none⟩=some (.int .u64 (o j:Nat))/\wr.frozen? ⟨B,j,none⟩=false
theorem OutAt.drewN{wr:World}{B L:Nat}{o:Nat->Nat}(h:OutAt wr B L o)(n:Nat):OutAt (wr.drewN n) B L o:=h
theorem OutAt.set{wr:World}{B L:Nat}{o:Nat->Nat}(h:OutAt wr B L o)(p y:Nat)(hp:p<L):OutAt (wr.setCell ⟨B,p,none⟩ (.int .u64 (y:Nat))) B L (upd o p y):=by
 refine⟨by simpa using h.1,fun j hj=>⟨?_,?_⟩⟩
 ·by_cases e:j=p
  ·subst e
   rw[World.cell?_setCell_same _ _ _ (h.2 j hj).1];simp[upd]
  ·rw[World.cell?_setCell_other _ _ _ _ (by intro e2;apply e;injection e2 with _ e3;exact e3.symm),(h.2 j hj).1]
   simp[upd,e]
 ·rw[World.frozen?_setCell];exact(h.2 j hj).2
theorem vd_set(o:Nat->Nat)(p y:Nat):∀ L,p<L->vd (upd o p y) L+65536^p*o p=vd o L+65536^p*y
 | 0,h=>by omega
 | L+1,h=>by
  simp only[vd];by_cases e:p=L
  ·subst e
   rw[vd_congr (d:=upd o p y) (e:=o) (fun j hj=>by simp[upd,show ¬j=p by omega])];simp only[upd,if_true];omega
  ·have:=vd_set o p y L (by omega)
   rw[show upd o p y L=o L by simp[upd,show ¬L=p by omega]];omega
def PRel(n m i j c:Nat)(da db o0 o:Nat->Nat):Prop :=
 c<65536/\(∀ t,t<n+m->o t<65536)/\(∀ t,i+m<=t->t<n+m->o t=0)/\vd o (n+m)+65536^(i+j)*c=vd o0 (n+m)+65536^i*da i*vd db j
theorem prel_next{n m i j c x:Nat}{da db o0 o:Nat->Nat}(h:PRel n m i j c da db o0 o)(hi:i<n)(hj:j<m)(hx:x=o (i+j)+da i*db j+c)(ha:da i<65536)(hb:db j<65536) :
  PRel n m i (j+1) (x / 65536) da db o0 (upd o (i+j) (x%65536)):=by
 obtain⟨hc,ho,hz,hv⟩:=h;have hop:=ho (i+j) (by omega);have hab:da i*db j<=65535*65535:=Nat.mul_le_mul (by omega) (by omega);refine⟨by omega,fun t ht=>?_,fun t h1 h2=>?_,?_⟩
 ·unfold upd;split
  ·omega
  ·exact ho t ht
 ·unfold upd;rw[if_neg (by omega)];exact hz t h1 h2
 ·have h1:=vd_set o (i+j) (x%65536) (n+m) (by omega)
  have e:x=x%65536+65536*(x / 65536):=by omega
  have e1:65536^(i+j)*x=65536^(i+j)*(x%65536)+65536^(i+(j+1))*(x / 65536):=by
   rw[show i+(j+1)=(i+j)+1 by omega,Nat.pow_succ,Nat.mul_assoc,<- Nat.mul_add,<- e]
  have e2:65536^(i+j)*x=65536^(i+j)*o (i+j)+65536^(i+j)*(da i*db j)+65536^(i+j)*c:=by rw[hx,Nat.mul_add,Nat.mul_add]
  have e3:65536^i*da i*vd db (j+1)=65536^i*da i*vd db j+65536^(i+j)*(da i*db j):=by
   simp only[vd];rw[Nat.mul_add,Nat.pow_add];congr 1;simp only[Nat.mul_assoc,Nat.mul_left_comm]
  rw[e3];omega
theorem prel_end{n m i c:Nat}{da db o0 o:Nat->Nat}(h:PRel n m i m c da db o0 o)(hi:i<n)(hv0:vd o0 (n+m)=vd da i*vd db m) :
  (∀ t,t<n+m->upd o (i+m) c t<65536)/\(∀ t,i+1+m<=t->t<n+m->upd o (i+m) c t=0)/\vd (upd o (i+m) c) (n+m)=vd da (i+1)*vd db m:=by
 obtain⟨hc,ho,hz,hv⟩:=h;refine⟨fun t ht=>?_,fun t h1 h2=>?_,?_⟩
 ·unfold upd;split
  ·exact hc
  ·exact ho t ht
 ·unfold upd;rw[if_neg (by omega)];exact hz t (by omega) h2
 ·have h1:=vd_set o (i+m) c (n+m) (by omega)
  rw[hz (i+m) (Nat.le_refl _) (by omega),Nat.mul_zero,Nat.add_zero]at h1;rw[h1,hv,hv0];simp only[vd];rw[Nat.add_mul]
theorem madeCells_at(k j:Nat)(h:j<k):(madeCells (Value.int .u64 0).cells (k*1)).toList[j]?=some (.int .u64 ((0:Nat):Int)):=by
 simp[madeCells,Value.cells,h,Nat.mod_one]
theorem vd_nought(L:Nat):vd (fun _=>0) L=0:=by
 induction L with
 | zero=>rfl
 | succ L ih=>simp[vd,ih]
theorem product_digits(ba ca bb cb n m:Nat)(da db:Nat->Nat)(hn:(n:Int)<=1000000)(hm:(m:Int)<=1000000)(ha:∀ j,j<n->da j<65536)(hb:∀ j,j<m->db j<65536)(w:World)(hA:Dg w ba n da)(hB:Dg w bb m db) :
  Calls Tryz.prog 82 #[.slice (some ⟨ba,0,none⟩) n ca,.slice (some ⟨bb,0,none⟩) m cb] w (MkDg (n+m) (vd da n*vd db m) w):=by
 have Ha:=Lib.hid ha;clear ha;have Hb:=Lib.hid hb;clear hb;have HA:=Lib.hid hA;clear hA;have HB:=Lib.hid hB;clear hB;have hn0:(0:Int)<=n:=by omega
 have hm0:(0:Int)<=m:=by omega
 obtain⟨i0,hi,hz0,hz1,hz2⟩:=info_parts info22;obtain⟨L,hL⟩:∃ L:Nat,(n:Int)+(m:Int)=(L:Int):=⟨n+m,by omega⟩
 have HL:Hid (n+m=L):=Lib.hid (by omega);have hLb:(L:Int)<=2000000:=by omega
 go_enter Tryz.func82,Tryz.ntmps82
 go_wp2_with (at_make;refine wpList_make_full _ rfl _ _ 126 rfl w.heap.size 22 i0 (.int .u64 0) 1 Tryz.underlying126 hi hz0 hz1 .i64 .i64 _ _ L rfl rfl rfl rfl (by rw[hz2];omega) (by unfold maxLen;omega) (Nat.le_refl _) ?_;intro w0 hown0 hgrow0)
 have hout:OutAt w0 w.heap.size L (fun _=>0):=⟨(hown0.lt _ rfl).2,fun j hj=>⟨(hown0.cellAt j (by omega)).trans (madeCells_at L j hj),hown0.frozenAt j⟩⟩
 have hbel:Below w.heap.size w w0:=(Below.refl _ _).grown hgrow0 (Nat.le_refl _) (fun k hk=>by cases hk);have HW:=Lib.hid (And.intro hout hbel);clear hout hbel hown0 hgrow0 hL;go_wp2
 go_loopw [6] (fun iv wr=>∃ i:Nat,i<=n/\iv=.int .i64 i/\Hid (∃ o:Nat->Nat,OutAt wr w.heap.size L o/\Below w.heap.size w wr/\(∀ t,t<n+m->o t<65536)/\(∀ t,i+m<=t->t<n+m->o t=0)/\vd o (n+m)=vd da i*vd db m)) (fun iv _=>n - (intOf iv).toNat)
 case atStart=>exact⟨0,Nat.zero_le _,rfl,Lib.hid ⟨fun _=>0,HW.out.1,HW.out.2,fun _ _=>(by show(0:Nat)<65536;omega),fun _ _ _=>rfl,by rw[vd_nought];simp[vd]⟩⟩
 case round =>
  obtain⟨i,hin,rfl,H⟩:=hrel;have hi0:(0:Int)<=i:=by omega
  have hi1:(i:Int)<=1000000:=by omega
  by_cases hlt:i<n
  ·obtain⟨o0,hO0,hB0,hd0,hz0',hv0⟩:=H.out
   have HV0:=Lib.hid hv0;clear hv0;have HO0:=Lib.hid (And.intro hO0 (And.intro hB0 (And.intro hd0 hz0')));clear hO0 hB0 hd0 hz0' H;go_wp2
   go_loopw [7,8] (fun cv jv wr2=>∃ j c:Nat,j<=m/\jv=.int .i64 j/\cv=.int .u64 c/\Hid (∃ o:Nat->Nat,OutAt wr2 w.heap.size L o/\Below w.heap.size w wr2/\PRel n m i j c da db o0 o)) (fun _ jv _=>m - (intOf jv).toNat)
   case atStart=>exact⟨0,0,Nat.zero_le _,rfl,rfl,Lib.hid ⟨o0,HO0.out.1,HO0.out.2.1,by omega,HO0.out.2.2.1,HO0.out.2.2.2,by simp[vd]⟩⟩
   case round =>
    obtain⟨j,c,hjm,rfl,rfl,H⟩:=hrel;obtain⟨o,hO,hBw,hP⟩:=H.out;have hj0:(0:Int)<=j:=by omega
    have hj1:(j:Int)<=1000000:=by omega
    have hc0:(0:Int)<=c:=by omega
    have hc1:(c:Int)<65536:=by have:=hP.1;omega
    by_cases hjl:j<m
    ·obtain⟨p,hp⟩:∃ p:Nat,(i:Int)+(j:Int)=(p:Int):=⟨i+j,by omega⟩
     have HPI:Hid (i+j=p):=Lib.hid (by omega);have hp0:(0:Int)<=p:=by omega
     have hpL:(p:Int)<(L:Int):=by have:=HL.out;omega
     have hil:(i:Int)<(n:Int):=by omega
     have hjl':(j:Int)<(m:Int):=by omega
     have co:wr.cell? ⟨w.heap.size,p,none⟩=some (.int .u64 (o p:Nat)):=(hO.2 p (by omega)).1;have fo:wr.frozen? ⟨w.heap.size,p,none⟩=false:=(hO.2 p (by omega)).2;have cA:wr.cell? ⟨ba,i,none⟩=some (.int .u64 (da i:Nat)):=(hBw.cell (p:=⟨ba,i,none⟩) HA.out.1).trans (HA.out.2 i hlt);have cB:wr.cell? ⟨bb,j,none⟩=some (.int .u64 (db j:Nat)):=(hBw.cell (p:=⟨bb,j,none⟩) HB.out.1).trans (HB.out.2 j hjl);obtain⟨q,hq⟩:∃ q:Nat,q=da i*db j:=⟨_,rfl⟩
     have hab:da i*db j<=65535*65535:=Nat.mul_le_mul (by have:=Ha.out i hlt;omega) (by have:=Hb.out j hjl;omega);have hqb:q<=4294836225:=by rw[hq];exact hab
     have hqi:IntKind.u64.wrap (((da i:Nat):Int)*((db j:Nat):Int))=(q:Int):=by
      rw[IntKind.wrap_u64,hq];have e0:((da i:Nat):Int)*((db j:Nat):Int)=((da i*db j:Nat):Int):=by simp
      rw[e0];omega
     have hop:o p<65536:=hP.2.1 p (by have:=HL.out;omega);obtain⟨x,hx⟩:∃ x:Nat,x=o p+q+c:=⟨_,rfl⟩
     have hxi:((o p:Nat):Int)+(q:Int)+(c:Int)=(x:Int):=by omega
     have hxb:x<8589934592:=by omega
     have hand:bits .and .u64 (x:Int) 65535=((x%65536:Nat):Int):=and_low16 x (by omega);have HN:Hid (PRel n m i (j+1) (x / 65536) da db o0 (upd o p (x%65536))):=Lib.hid (by
      have:=prel_next (x:=x) hP hlt hjl (by rw[HPI.out,hx,hq]) (Ha.out i hlt) (Hb.out j hjl);rwa [HPI.out]at this)
     have HAND:=Lib.hid hand;clear hand;have HOB:=Lib.hid (And.intro hO hBw);clear hO hBw;have HQ:=Lib.hid hq;clear hq;have HXX:=Lib.hid hx;clear hx;clear hP H hab;have hq0:(0:Int)<=q:=by omega
     have hq1:(q:Int)<=4294836225:=by omega
     have hx0:(0:Int)<=x:=by omega
     have hx1:(x:Int)<8589934592:=by omega
     have ho0:(0:Int)<=(o p:Nat):=by omega
     have ho1:((o p:Nat):Int)<65536:=by omega
     clear hqb hxb hop;go_wp2
     go_quiet (fail)
     go_wp2
     go_roundw
     case rel =>
      refine⟨j+1,x / 65536,by omega,by go_num,by go_num,Lib.hid ⟨upd o p (x%65536),?_,?_,HN.out⟩⟩
      ·rw[HAND.out];exact(HOB.out.1.drewN nq).set p (x%65536) (by omega)
      ·exact(below_drewN HOB.out.2 nq).setCell (Nat.le_refl _) _
     case measure=>simp[intOf];omega
    ·obtain rfl:j=m:=by omega
     obtain⟨p,hp⟩:∃ p:Nat,(i:Int)+(j:Int)=(p:Int):=⟨i+j,by omega⟩
     have HPI:Hid (i+j=p):=Lib.hid (by omega);have hp0:(0:Int)<=p:=by omega
     have hpL:(p:Int)<(L:Int):=by have:=HL.out;omega
     have co:wr.cell? ⟨w.heap.size,p,none⟩=some (.int .u64 (o p:Nat)):=(hO.2 p (by omega)).1;have fo:wr.frozen? ⟨w.heap.size,p,none⟩=false:=(hO.2 p (by omega)).2;have HN:=Lib.hid (prel_end hP hlt HV0.out);have HOB:=Lib.hid (And.intro hO hBw);clear hO hBw hP H;go_wp2
     go_roundw
     case rel =>
      refine⟨i+1,by omega,by go_num,Lib.hid ⟨upd o p c,HOB.out.1.set p c (by omega),HOB.out.2.setCell (Nat.le_refl _) _,?_,?_,?_⟩⟩
      ·rw[<- HPI.out];exact HN.out.1
      ·rw[<- HPI.out];exact HN.out.2.1
      ·rw[<- HPI.out];exact HN.out.2.2
     case measure=>simp[intOf];omega
  ·obtain rfl:i=n:=by omega
   obtain⟨o,hO,hBw,hd,-,hv⟩:=H.out;go_wp2;go_ret;rw[HL.out]at hv hd |-
   exact⟨w.heap.size,L,o,rfl,Nat.le_refl _,⟨hO.1,fun j hj=>(hO.2 j hj).1⟩,hd,hv,hBw⟩
open Go.RowKit
theorem down_at(i b c:Nat)(v:Value)(h0:(0:Int)<=i)(h:(i:Int)<4)(w:World)(hc:w.cell? ⟨b,i,none⟩=some v):Calls Tryz.prog 163 #[.int .i64 i,.pointer (some ⟨b,0,none⟩),.pointer (some ⟨c,0,none⟩)] w fun e w'=>e=.returned v/\w'=w:=by
 go_enter Tryz.func163,Tryz.ntmps163;go_wp2;go_ret;exact⟨rfl,rfl⟩
theorem down_past(i:Int)(b c:Nat)(v:Value)(h:4<=i)(w:World)(hc:w.cell? ⟨c,0,none⟩=some v):Calls Tryz.prog 163 #[.int .i64 i,.pointer (some ⟨b,0,none⟩),.pointer (some ⟨c,0,none⟩)] w fun e w'=>e=.returned v/\w'=w:=by
 have h':¬i<4:=by omega
 go_enter Tryz.func163,Tryz.ntmps163;go_wp2;go_ret;exact⟨rfl,rfl⟩
theorem down_walk(k0 k1 k2 k3 a0 a1 a2 a3 f p0 p1 p2 p3 p4 s t:Nat)(wh j0 j1 j2 j3 j4:Int)(h0:(0:Int)<=s)(h64:(s:Int)<64)
  (ht:IntKind.i64.wrap (64 - (s:Int))=(t:Int)) (ht64:(t:Int)<=64)
  (e0:IntKind.i64.wrap wh=j0) (e1:IntKind.i64.wrap (1+wh)=j1) (e2:IntKind.i64.wrap (2+wh)=j2) (e3:IntKind.i64.wrap (3+wh)=j3)
  (g0:IntKind.i64.wrap (j0+1)=j1) (g1:IntKind.i64.wrap (j1+1)=j2) (g2:IntKind.i64.wrap (j2+1)=j3) (g3:IntKind.i64.wrap (j3+1)=j4) (w:World)
  (hC:∀(b c:Nat) (W:World),W.cell? ⟨b,0,none⟩=some (.int .u64 a0)->W.cell? ⟨b,1,none⟩=some (.int .u64 a1)->W.cell? ⟨b,2,none⟩=some (.int .u64 a2)->W.cell? ⟨b,3,none⟩=some (.int .u64 a3)->W.cell? ⟨c,0,none⟩=some (.int .u64 f) ->
   (Calls Tryz.prog 163 #[.int .i64 j0,.pointer (some ⟨b,0,none⟩),.pointer (some ⟨c,0,none⟩)] W fun e w'=>e=.returned (.int .u64 p0)/\w'=W) /\
   (Calls Tryz.prog 163 #[.int .i64 j1,.pointer (some ⟨b,0,none⟩),.pointer (some ⟨c,0,none⟩)] W fun e w'=>e=.returned (.int .u64 p1)/\w'=W) /\
   (Calls Tryz.prog 163 #[.int .i64 j2,.pointer (some ⟨b,0,none⟩),.pointer (some ⟨c,0,none⟩)] W fun e w'=>e=.returned (.int .u64 p2)/\w'=W) /\
   (Calls Tryz.prog 163 #[.int .i64 j3,.pointer (some ⟨b,0,none⟩),.pointer (some ⟨c,0,none⟩)] W fun e w'=>e=.returned (.int .u64 p3)/\w'=W) /\
   (Calls Tryz.prog 163 #[.int .i64 j4,.pointer (some ⟨b,0,none⟩),.pointer (some ⟨c,0,none⟩)] W fun e w'=>e=.returned (.int .u64 p4)/\w'=W))
  (hS:∀ w,Calls Tryz.prog 154 #[.agg #[.int .u64 k0,.int .u64 k1,.int .u64 k2,.int .u64 k3]] w fun e w'=>e=.returned (.tuple #[.int .i64 wh,.int .i64 s])/\Below w.heap.size w w') :
  Calls Tryz.prog 159 #[.agg #[.int .u64 k0,.int .u64 k1,.int .u64 k2,.int .u64 k3],.agg #[.int .u64 a0,.int .u64 a1,.int .u64 a2,.int .u64 a3],.int .u64 f] w fun e w' =>
   e=.returned (.agg #[.int .u64 (bits .or .u64 ((p0:Int) / 2^s) (IntKind.u64.wrap ((p1:Int)*2^t))),.int .u64 (bits .or .u64 ((p1:Int) / 2^s) (IntKind.u64.wrap ((p2:Int)*2^t))),.int .u64 (bits .or .u64 ((p2:Int) / 2^s) (IntKind.u64.wrap ((p3:Int)*2^t))),.int .u64 (bits .or .u64 ((p3:Int) / 2^s) (IntKind.u64.wrap ((p4:Int)*2^t)))])/\Below w.heap.size w w':=by
 have HC:=Lib.hid hC;clear hC;have E0:=Lib.hid e0;clear e0;have G0:=Lib.hid g0;clear g0;have G1:=Lib.hid g1;clear g1;have G2:=Lib.hid g2;clear g2;have G3:=Lib.hid g3;clear g3;go_enter Tryz.func159,Tryz.ntmps159
 go_wp2_with fail
 refine(hS _).mono ?_;rintro e w1 ⟨rfl,hb⟩;obtain⟨x0,-,-⟩:=after1 (b:=w.heap.size+1) (i:=0) (v:=.int .u64 a0) hb (by simp) (by go_cell) (by go_cell);obtain⟨x1,-,-⟩:=after1 (b:=w.heap.size+1) (i:=1) (v:=.int .u64 a1) hb (by simp) (by go_cell) (by go_cell);obtain⟨x2,-,-⟩:=after1 (b:=w.heap.size+1) (i:=2) (v:=.int .u64 a2) hb (by simp) (by go_cell) (by go_cell);obtain⟨x3,-,-⟩:=after1 (b:=w.heap.size+1) (i:=3) (v:=.int .u64 a3) hb (by simp) (by go_cell) (by go_cell);obtain⟨x4,-,-⟩:=after1 (b:=w.heap.size+1+1) (i:=0) (v:=.int .u64 f) hb (by simp) (by go_cell) (by go_cell);obtain⟨⟨q0,q1,q2,q3⟩,⟨f0,f1,f2,f3⟩,hz,hb'⟩:=after4 (w:=w) (B:=w.heap.size) (w.heap.size+1+1+1) hb (by go_grown) (by simp;omega) (by simp) (by go_cell) (by go_cell) (by go_cell) (by go_cell) (by go_cell) (by go_cell) (by go_cell) (by go_cell);clear hb;have hz1:w.heap.size+1<w1.heap.size:=by omega
 have hz2:w.heap.size+1+1<w1.heap.size:=by omega
 go_wp2;refine wp_loop_rounds 5 ?_;rw[rounds_succ];go_wp2;refine region_still 19 (by kernel_rfl) (by kernel_rfl) ?_;simp only[List.take_succ_cons,List.take_zero,List.drop_succ_cons,List.drop_zero];have e0:=E0.out
 repeat still_step
 still_call (HC.out (w.heap.size+1) (w.heap.size+1+1) _ (by go_cell) (by go_cell) (by go_cell) (by go_cell) (by go_cell)).1
 have g:=G0.out
 repeat still_step
 clear g;clear e0
 still_call (HC.out (w.heap.size+1) (w.heap.size+1+1) _ (by go_cell) (by go_cell) (by go_cell) (by go_cell) (by go_cell)).2.1
 repeat still_step
 refine wpStill_nil ?_;go_wp2;rw[rounds_succ];go_wp2;refine region_still 19 (by kernel_rfl) (by kernel_rfl) ?_;simp only[List.take_succ_cons,List.take_zero,List.drop_succ_cons,List.drop_zero]
 repeat still_step
 still_call (HC.out (w.heap.size+1) (w.heap.size+1+1) _ (by go_cell) (by go_cell) (by go_cell) (by go_cell) (by go_cell)).2.1
 have g:=G1.out
 repeat still_step
 clear g
 still_call (HC.out (w.heap.size+1) (w.heap.size+1+1) _ (by go_cell) (by go_cell) (by go_cell) (by go_cell) (by go_cell)).2.2.1
 repeat still_step
 refine wpStill_nil ?_;go_wp2;rw[rounds_succ];go_wp2;refine region_still 19 (by kernel_rfl) (by kernel_rfl) ?_;simp only[List.take_succ_cons,List.take_zero,List.drop_succ_cons,List.drop_zero]
 repeat still_step
 still_call (HC.out (w.heap.size+1) (w.heap.size+1+1) _ (by go_cell) (by go_cell) (by go_cell) (by go_cell) (by go_cell)).2.2.1
 have g:=G2.out
 repeat still_step
 clear g
 still_call (HC.out (w.heap.size+1) (w.heap.size+1+1) _ (by go_cell) (by go_cell) (by go_cell) (by go_cell) (by go_cell)).2.2.2.1
 repeat still_step
 refine wpStill_nil ?_;go_wp2;rw[rounds_succ];go_wp2;refine region_still 19 (by kernel_rfl) (by kernel_rfl) ?_;simp only[List.take_succ_cons,List.take_zero,List.drop_succ_cons,List.drop_zero]
 repeat still_step
 still_call (HC.out (w.heap.size+1) (w.heap.size+1+1) _ (by go_cell) (by go_cell) (by go_cell) (by go_cell) (by go_cell)).2.2.2.1
 have g:=G3.out
 repeat still_step
 clear g
 still_call (HC.out (w.heap.size+1) (w.heap.size+1+1) _ (by go_cell) (by go_cell) (by go_cell) (by go_cell) (by go_cell)).2.2.2.2
 repeat still_step
 refine wpStill_nil ?_;go_wp2;rw[rounds_succ];go_wp2;refine bodyPost_ret (by simp[results,Tryz.results159,go_sem,hz,q0,q1,q2,q3];try rfl) rfl ⟨rfl,?_⟩;go_grown
open Go.RowKit
theorem shl_parts(k0 k1 k2 k3 a0 a1 a2 a3 p0 p1 p2 p3 s t:Nat)(wh jm j0 j1 j2 j3:Int)(hst:s+t=64)(hs:s<64)
  (u0:p0<18446744073709551616) (u1:p1<18446744073709551616) (u2:p2<18446744073709551616)
  (e0:IntKind.i64.wrap (-wh)=j0) (e1:IntKind.i64.wrap (1 - wh)=j1) (e2:IntKind.i64.wrap (2 - wh)=j2) (e3:IntKind.i64.wrap (3 - wh)=j3)
  (g0:IntKind.i64.wrap (j0 - 1)=jm) (g1:IntKind.i64.wrap (j1 - 1)=j0) (g2:IntKind.i64.wrap (j2 - 1)=j1) (g3:IntKind.i64.wrap (j3 - 1)=j2) (w:World)
  (hC:∀(b:Nat) (W:World),W.cell? ⟨b,0,none⟩=some (.int .u64 a0)->W.cell? ⟨b,1,none⟩=some (.int .u64 a1)->W.cell? ⟨b,2,none⟩=some (.int .u64 a2)->W.cell? ⟨b,3,none⟩=some (.int .u64 a3) ->
   (Calls Tryz.prog 155 #[.int .i64 jm,.pointer (some ⟨b,0,none⟩)] W fun e w'=>e=.returned (.int .u64 0)/\w'=W) /\
   (Calls Tryz.prog 155 #[.int .i64 j0,.pointer (some ⟨b,0,none⟩)] W fun e w'=>e=.returned (.int .u64 p0)/\w'=W) /\
   (Calls Tryz.prog 155 #[.int .i64 j1,.pointer (some ⟨b,0,none⟩)] W fun e w'=>e=.returned (.int .u64 p1)/\w'=W) /\
   (Calls Tryz.prog 155 #[.int .i64 j2,.pointer (some ⟨b,0,none⟩)] W fun e w'=>e=.returned (.int .u64 p2)/\w'=W) /\
   (Calls Tryz.prog 155 #[.int .i64 j3,.pointer (some ⟨b,0,none⟩)] W fun e w'=>e=.returned (.int .u64 p3)/\w'=W))
  (hS:∀ w,Calls Tryz.prog 154 #[.agg #[.int .u64 k0,.int .u64 k1,.int .u64 k2,.int .u64 k3]] w fun e w'=>e=.returned (.tuple #[.int .i64 wh,.int .i64 s])/\Below w.heap.size w w') :
  Calls Tryz.prog 147 #[.agg #[.int .u64 k0,.int .u64 k1,.int .u64 k2,.int .u64 k3],.agg #[.int .u64 a0,.int .u64 a1,.int .u64 a2,.int .u64 a3]] w fun e w' =>
   e=.returned (wv (n4 p0 p1 p2 p3*2^s))/\Below w.heap.size w w':=by
 have ht:IntKind.i64.wrap (64 - (s:Int))=(t:Int):=by rw[IntKind.wrap_i64];omega
 have h:=shl_walk k0 k1 k2 k3 a0 a1 a2 a3 0 p0 p1 p2 p3 s t wh jm j0 j1 j2 j3 (by omega) (by omega) ht (by omega) e0 e1 e2 e3 g0 g1 g2 g3 w hC hS;rw[cmb_up (p:=p0) (q:=0) (by omega) hst,cmb_up (p:=p1) (q:=p0) u0 hst,cmb_up (p:=p2) (q:=p1) u1 hst,cmb_up (p:=p3) (q:=p2) u2 hst,
  <- wv_n4 (cmb_lt (by omega) hst) (cmb_lt u0 hst) (cmb_lt u1 hst) (cmb_lt u2 hst),wv_congr (y:=n4 p0 p1 p2 p3*2^s)]at h
 ·exact h
 ·rw[<- n4_up p0 p1 p2 p3 hst,Nat.add_mul_mod_self_left]
-- WHAT Shl COMES TO.
theorem shl_any(k x:Nat)(w:World) :
  Calls Tryz.prog 147 #[wv k,wv x] w fun e w'=>e=.returned (wv (x*2^min (k%2^256) 256))/\Below w.heap.size w w':=by
 have hS:=fun w=>steps_any k w;obtain⟨k0,k1,k2,k3,-,-,-,-,ek,-⟩:=wv_parts k;obtain⟨a0,a1,a2,a3,u0,u1,u2,u3,ea,na⟩:=wv_parts x;generalize hm:min (k%2^256) 256=m at *;have hm256:m<=256:=by omega
 clear hm;have hx:∀ y z:Nat,y%2^256=n4 a0 a1 a2 a3*z%2^256->z=2^m->wv y=wv (x*2^m):=by
  intro y z h hz;refine wv_congr ?_;rw[h,hz,na,Nat.mod_mul_mod]
 rw[ek]at hS;rw[ek,ea];have hst:m%64+(64 - m%64)=64:=by omega
 have hs:m%64<64:=by omega
 have hw:m / 64=0\/m / 64=1\/m / 64=2\/m / 64=3\/m / 64=4:=by omega
 have neg:=fun(i:Int) (hi:i<0) (b:Nat) (W:World)=>part_neg i b hi W;rcases hw with h | h | h | h | h
 all_goals rw[h]at hS
 ·rw[<- hx (n4 a0 a1 a2 a3*2^(m%64)) (2^(m%64)) rfl (by congr 1;omega)]
  exact shl_parts k0 k1 k2 k3 a0 a1 a2 a3 a0 a1 a2 a3 (m%64) (64 - m%64) 0 (-1) 0 1 2 3 hst hs u0 u1 u2 (by decide) (by decide) (by decide) (by decide) (by decide) (by decide) (by decide) (by decide) w
   (fun b W c0 c1 c2 c3=>⟨neg _ (by omega) b W,part_at 0 b _ (by omega) (by omega) W c0,part_at 1 b _ (by omega) (by omega) W c1,part_at 2 b _ (by omega) (by omega) W c2,part_at 3 b _ (by omega) (by omega) W c3⟩) hS
 ·rw[<- hx (n4 0 a0 a1 a2*2^(m%64)) (18446744073709551616*2^(m%64)) (by rw[<- Nat.mul_assoc,<- Nat.mod_mul_mod,<- Nat.mod_mul_mod (n4 a0 a1 a2 a3*_)];congr 2;unfold n4;omega) (by rw[show(18446744073709551616:Nat)=2^64 by decide,<- Nat.pow_add];congr 1;omega)]
  exact shl_parts k0 k1 k2 k3 a0 a1 a2 a3 0 a0 a1 a2 (m%64) (64 - m%64) 1 (-2) (-1) 0 1 2 hst hs (by omega) u0 u1 (by decide) (by decide) (by decide) (by decide) (by decide) (by decide) (by decide) (by decide) w
   (fun b W c0 c1 c2 c3=>⟨neg _ (by omega) b W,neg _ (by omega) b W,part_at 0 b _ (by omega) (by omega) W c0,part_at 1 b _ (by omega) (by omega) W c1,part_at 2 b _ (by omega) (by omega) W c2⟩) hS
 ·rw[<- hx (n4 0 0 a0 a1*2^(m%64)) (340282366920938463463374607431768211456*2^(m%64)) (by rw[<- Nat.mul_assoc,<- Nat.mod_mul_mod,<- Nat.mod_mul_mod (n4 a0 a1 a2 a3*_)];congr 2;unfold n4;omega) (by rw[show(340282366920938463463374607431768211456:Nat)=2^128 by decide,<- Nat.pow_add];congr 1;omega)]
  exact shl_parts k0 k1 k2 k3 a0 a1 a2 a3 0 0 a0 a1 (m%64) (64 - m%64) 2 (-3) (-2) (-1) 0 1 hst hs (by omega) (by omega) u0 (by decide) (by decide) (by decide) (by decide) (by decide) (by decide) (by decide) (by decide) w
   (fun b W c0 c1 c2 c3=>⟨neg _ (by omega) b W,neg _ (by omega) b W,neg _ (by omega) b W,part_at 0 b _ (by omega) (by omega) W c0,part_at 1 b _ (by omega) (by omega) W c1⟩) hS
 ·rw[<- hx (n4 0 0 0 a0*2^(m%64)) (6277101735386680763835789423207666416102355444464034512896*2^(m%64)) (by rw[<- Nat.mul_assoc,<- Nat.mod_mul_mod,<- Nat.mod_mul_mod (n4 a0 a1 a2 a3*_)];congr 2;unfold n4;omega) (by rw[show(6277101735386680763835789423207666416102355444464034512896:Nat)=2^192 by decide,<- Nat.pow_add];congr 1;omega)]
  exact shl_parts k0 k1 k2 k3 a0 a1 a2 a3 0 0 0 a0 (m%64) (64 - m%64) 3 (-4) (-3) (-2) (-1) 0 hst hs (by omega) (by omega) (by omega) (by decide) (by decide) (by decide) (by decide) (by decide) (by decide) (by decide) (by decide) w
   (fun b W c0 c1 c2 c3=>⟨neg _ (by omega) b W,neg _ (by omega) b W,neg _ (by omega) b W,neg _ (by omega) b W,part_at 0 b _ (by omega) (by omega) W c0⟩) hS
 ·have hm0:m%64=0:=by omega
  rw[<- hx (n4 0 0 0 0*2^(m%64)) (2^256*2^(m%64)) (by rw[<- Nat.mul_assoc,<- Nat.mod_mul_mod,<- Nat.mod_mul_mod (n4 a0 a1 a2 a3*_)];congr 2;unfold n4;omega) (by rw[show(2^256:Nat)=2^256 by decide,<- Nat.pow_add];congr 1;omega)];exact shl_parts k0 k1 k2 k3 a0 a1 a2 a3 0 0 0 0 (m%64) (64 - m%64) 4 (-5) (-4) (-3) (-2) (-1) hst hs (by omega) (by omega) (by omega) (by decide) (by decide) (by decide) (by decide) (by decide) (by decide) (by decide) (by decide) w
   (fun b W c0 c1 c2 c3=>⟨neg _ (by omega) b W,neg _ (by omega) b W,neg _ (by omega) b W,neg _ (by omega) b W,neg _ (by omega) b W⟩) hS
open Go.RowKit
theorem down_lt{p q s t:Nat}(hp:p<18446744073709551616)(h:s+t=64):p / 2^s+q*2^t%18446744073709551616<18446744073709551616:=by
 have hD:=pow_split h;have hS:0<2^s:=Nat.two_pow_pos s;have hps:p / 2^s<2^t:=by rw[Nat.div_lt_iff_lt_mul hS,Nat.mul_comm,hD];exact hp
 have e:q*2^t%18446744073709551616=2^t*(q%2^s):=by
  rw[<- hD,Nat.mul_comm (2^s),Nat.mul_comm q,Nat.mul_mod_mul_left]
 have hr:=Nat.mod_lt q hS;have:2^t*(q%2^s)+2^t<=2^s*2^t:=by
  rw[<- Nat.mul_succ,Nat.mul_comm (2^s)];exact Nat.mul_le_mul_left _ hr
 omega
theorem down_parts(k0 k1 k2 k3 a0 a1 a2 a3 f p0 p1 p2 p3 p4 s t:Nat)(wh j0 j1 j2 j3 j4:Int)(hst:s+t=64)(hs:s<64)
  (u0:p0<18446744073709551616) (u1:p1<18446744073709551616) (u2:p2<18446744073709551616) (u3:p3<18446744073709551616)
  (e0:IntKind.i64.wrap wh=j0) (e1:IntKind.i64.wrap (1+wh)=j1) (e2:IntKind.i64.wrap (2+wh)=j2) (e3:IntKind.i64.wrap (3+wh)=j3)
  (g0:IntKind.i64.wrap (j0+1)=j1) (g1:IntKind.i64.wrap (j1+1)=j2) (g2:IntKind.i64.wrap (j2+1)=j3) (g3:IntKind.i64.wrap (j3+1)=j4) (w:World)
  (hC:∀(b c:Nat) (W:World),W.cell? ⟨b,0,none⟩=some (.int .u64 a0)->W.cell? ⟨b,1,none⟩=some (.int .u64 a1)->W.cell? ⟨b,2,none⟩=some (.int .u64 a2)->W.cell? ⟨b,3,none⟩=some (.int .u64 a3)->W.cell? ⟨c,0,none⟩=some (.int .u64 f) ->
   (Calls Tryz.prog 163 #[.int .i64 j0,.pointer (some ⟨b,0,none⟩),.pointer (some ⟨c,0,none⟩)] W fun e w'=>e=.returned (.int .u64 p0)/\w'=W) /\
   (Calls Tryz.prog 163 #[.int .i64 j1,.pointer (some ⟨b,0,none⟩),.pointer (some ⟨c,0,none⟩)] W fun e w'=>e=.returned (.int .u64 p1)/\w'=W) /\
   (Calls Tryz.prog 163 #[.int .i64 j2,.pointer (some ⟨b,0,none⟩),.pointer (some ⟨c,0,none⟩)] W fun e w'=>e=.returned (.int .u64 p2)/\w'=W) /\
   (Calls Tryz.prog 163 #[.int .i64 j3,.pointer (some ⟨b,0,none⟩),.pointer (some ⟨c,0,none⟩)] W fun e w'=>e=.returned (.int .u64 p3)/\w'=W) /\
   (Calls Tryz.prog 163 #[.int .i64 j4,.pointer (some ⟨b,0,none⟩),.pointer (some ⟨c,0,none⟩)] W fun e w'=>e=.returned (.int .u64 p4)/\w'=W))
  (hS:∀ w,Calls Tryz.prog 154 #[.agg #[.int .u64 k0,.int .u64 k1,.int .u64 k2,.int .u64 k3]] w fun e w'=>e=.returned (.tuple #[.int .i64 wh,.int .i64 s])/\Below w.heap.size w w') :
  Calls Tryz.prog 159 #[.agg #[.int .u64 k0,.int .u64 k1,.int .u64 k2,.int .u64 k3],.agg #[.int .u64 a0,.int .u64 a1,.int .u64 a2,.int .u64 a3],.int .u64 f] w fun e w' =>
   e=.returned (wv (n4 (p0 / 2^s+p1*2^t%18446744073709551616) (p1 / 2^s+p2*2^t%18446744073709551616) (p2 / 2^s+p3*2^t%18446744073709551616) (p3 / 2^s+p4*2^t%18446744073709551616)))/\Below w.heap.size w w':=by
 have ht:IntKind.i64.wrap (64 - (s:Int))=(t:Int):=by rw[IntKind.wrap_i64];omega
 have h:=down_walk k0 k1 k2 k3 a0 a1 a2 a3 f p0 p1 p2 p3 p4 s t wh j0 j1 j2 j3 j4 (by omega) (by omega) ht (by omega) e0 e1 e2 e3 g0 g1 g2 g3 w hC hS;rw[cmb_down (p:=p0) (q:=p1) u0 hst,cmb_down (p:=p1) (q:=p2) u1 hst,cmb_down (p:=p2) (q:=p3) u2 hst,cmb_down (p:=p3) (q:=p4) u3 hst,
  <- wv_n4 (down_lt u0 hst) (down_lt u1 hst) (down_lt u2 hst) (down_lt u3 hst)]at h
 exact h
def sel(a0 a1 a2 a3 f:Nat)(i:Nat):Nat:=match i with | 0=>a0 | 1=>a1 | 2=>a2 | 3=>a3 | _=>f
theorem down_sel(k x m f:Nat)(a0 a1 a2 a3:Nat)(hf:f<18446744073709551616)(u0:a0<18446744073709551616)(u1:a1<18446744073709551616)(u2:a2<18446744073709551616)(u3:a3<18446744073709551616)(hm:m<=256)
  (ea:wv x=.agg #[.int .u64 a0,.int .u64 a1,.int .u64 a2,.int .u64 a3])
  (hS:∀ w,Calls Tryz.prog 154 #[wv k] w fun e w'=>e=.returned (.tuple #[.int .i64 ((m / 64:Nat):Int),.int .i64 ((m%64:Nat):Int)])/\Below w.heap.size w w') (w:World) :
  Calls Tryz.prog 159 #[wv k,wv x,.int .u64 f] w fun e w' =>
   e=.returned (wv (n4 (sel a0 a1 a2 a3 f (m / 64) / 2^(m%64)+sel a0 a1 a2 a3 f (m / 64+1)*2^(64 - m%64)%18446744073709551616) (sel a0 a1 a2 a3 f (m / 64+1) / 2^(m%64)+sel a0 a1 a2 a3 f (m / 64+2)*2^(64 - m%64)%18446744073709551616)
    (sel a0 a1 a2 a3 f (m / 64+2) / 2^(m%64)+sel a0 a1 a2 a3 f (m / 64+3)*2^(64 - m%64)%18446744073709551616) (sel a0 a1 a2 a3 f (m / 64+3) / 2^(m%64)+f*2^(64 - m%64)%18446744073709551616)))/\Below w.heap.size w w':=by
 obtain⟨k0,k1,k2,k3,-,-,-,-,ek,-⟩:=wv_parts k;rw[ek]at hS;rw[ek,ea];have hst:m%64+(64 - m%64)=64:=by omega
 have hs:m%64<64:=by omega
 have hw:m / 64=0\/m / 64=1\/m / 64=2\/m / 64=3\/m / 64=4:=by omega
 have past:=fun(i:Int) (hi:4<=i) (b c:Nat) (W:World) (h:W.cell? ⟨c,0,none⟩=some (.int .u64 f))=>down_past i b c _ hi W h;rcases hw with h | h | h | h | h
 all_goals rw[h]at hS |-
 ·exact down_parts k0 k1 k2 k3 a0 a1 a2 a3 f a0 a1 a2 a3 f (m%64) (64 - m%64) 0 0 1 2 3 4 hst hs u0 u1 u2 u3 (by decide) (by decide) (by decide) (by decide) (by decide) (by decide) (by decide) (by decide) w
   (fun b c W c0 c1 c2 c3 cf=>⟨down_at 0 b c _ (by omega) (by omega) W c0,down_at 1 b c _ (by omega) (by omega) W c1,down_at 2 b c _ (by omega) (by omega) W c2,down_at 3 b c _ (by omega) (by omega) W c3,past 4 (by omega) b c W cf⟩) hS
 ·exact down_parts k0 k1 k2 k3 a0 a1 a2 a3 f a1 a2 a3 f f (m%64) (64 - m%64) 1 1 2 3 4 5 hst hs u1 u2 u3 hf (by decide) (by decide) (by decide) (by decide) (by decide) (by decide) (by decide) (by decide) w
   (fun b c W c0 c1 c2 c3 cf=>⟨down_at 1 b c _ (by omega) (by omega) W c1,down_at 2 b c _ (by omega) (by omega) W c2,down_at 3 b c _ (by omega) (by omega) W c3,past 4 (by omega) b c W cf,past 5 (by omega) b c W cf⟩) hS
 ·exact down_parts k0 k1 k2 k3 a0 a1 a2 a3 f a2 a3 f f f (m%64) (64 - m%64) 2 2 3 4 5 6 hst hs u2 u3 hf hf (by decide) (by decide) (by decide) (by decide) (by decide) (by decide) (by decide) (by decide) w
   (fun b c W c0 c1 c2 c3 cf=>⟨down_at 2 b c _ (by omega) (by omega) W c2,down_at 3 b c _ (by omega) (by omega) W c3,past 4 (by omega) b c W cf,past 5 (by omega) b c W cf,past 6 (by omega) b c W cf⟩) hS
 ·exact down_parts k0 k1 k2 k3 a0 a1 a2 a3 f a3 f f f f (m%64) (64 - m%64) 3 3 4 5 6 7 hst hs u3 hf hf hf (by decide) (by decide) (by decide) (by decide) (by decide) (by decide) (by decide) (by decide) w
   (fun b c W c0 c1 c2 c3 cf=>⟨down_at 3 b c _ (by omega) (by omega) W c3,past 4 (by omega) b c W cf,past 5 (by omega) b c W cf,past 6 (by omega) b c W cf,past 7 (by omega) b c W cf⟩) hS
 ·exact down_parts k0 k1 k2 k3 a0 a1 a2 a3 f f f f f f (m%64) (64 - m%64) 4 4 5 6 7 8 hst hs hf hf hf hf (by decide) (by decide) (by decide) (by decide) (by decide) (by decide) (by decide) (by decide) w
   (fun b c W c0 c1 c2 c3 cf=>⟨past 4 (by omega) b c W cf,past 5 (by omega) b c W cf,past 6 (by omega) b c W cf,past 7 (by omega) b c W cf,past 8 (by omega) b c W cf⟩) hS
theorem n4_sel(a0 a1 a2 a3:Nat)(u0:a0<18446744073709551616)(u1:a1<18446744073709551616)(u2:a2<18446744073709551616)(u3:a3<18446744073709551616)(i:Nat)(hi:i<=4) :
  n4 (sel a0 a1 a2 a3 0 i) (sel a0 a1 a2 a3 0 (i+1)) (sel a0 a1 a2 a3 0 (i+2)) (sel a0 a1 a2 a3 0 (i+3))=n4 a0 a1 a2 a3 / 2^(64*i):=by
 have hw:i=0\/i=1\/i=2\/i=3\/i=4:=by omega
 rcases hw with rfl | rfl | rfl | rfl | rfl <;> simp only[sel,Nat.reduceMul,Nat.reducePow,Nat.reduceAdd] <;> unfold n4 <;> omega
-- WHAT shiftDown COMES TO,noughts from above.
theorem down0_any(k x:Nat)(w:World) :
  Calls Tryz.prog 159 #[wv k,wv x,.int .u64 0] w fun e w'=>e=.returned (wv (x%2^256 / 2^min (k%2^256) 256))/\Below w.heap.size w w':=by
 have hS:=fun w=>steps_any k w;obtain⟨a0,a1,a2,a3,u0,u1,u2,u3,ea,na⟩:=wv_parts x;generalize hm:min (k%2^256) 256=m at *;have hm256:m<=256:=by omega
 clear hm;have h:=down_sel k x m 0 a0 a1 a2 a3 (by omega) u0 u1 u2 u3 hm256 ea hS w;rw[n4_down _ _ _ _ 0 (show m%64+(64 - m%64)=64 by omega),n4_sel a0 a1 a2 a3 u0 u1 u2 u3 _ (by omega),na,Nat.div_div_eq_div_mul,<- Nat.pow_add,show 64*(m / 64)+m%64=m by omega,Nat.zero_mul]at h;exact h
theorem n4_comp{c0 c1 c2 c3 d0 d1 d2 d3:Nat}(h0:c0+d0=18446744073709551615)(h1:c1+d1=18446744073709551615)(h2:c2+d2=18446744073709551615)(h3:c3+d3=18446744073709551615):n4 c0 c1 c2 c3=115792089237316195423570985008687907853269984665640564039457584007913129639935 - n4 d0 d1 d2 d3:=by unfold n4;omega
end Go.Proofs.YtadfjjfklihaaaaGreat
