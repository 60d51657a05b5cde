/- What the reference's Sub comes to. (Cut to what is reached, written closely: RPt · RAd · RSb.) -/
import Derived.Test.YthnckclbeecnmaaGreatF29
import Derived.Test.YthnckclbeecnmaaGreatF16
set_option linter.all false
set_option maxRecDepth 100000
set_option maxHeartbeats 8000000
namespace Go.Proofs.YthnckclbeecnmaaGreat
open Go.RowKit
def q8(x k j:Nat):Nat:=if j<k then qN x j else 0
theorem q8_next(x k j:Nat):q8 x (k+1) j=if j=k then qN x k else q8 x k j:=by
 unfold q8;by_cases e:j=k
 ·subst e;rw[if_pos (by omega),if_pos rfl]
 ·rw[if_neg e]
  by_cases h:j<k
  ·rw[if_pos (by omega),if_pos h]
  ·rw[if_neg (by omega),if_neg h]
theorem q8_zero(x:Nat):(ar .u64 8 fun j=>((q8 x 0 j:Nat):Int))=#[.int .u64 0,.int .u64 0,.int .u64 0,.int .u64 0,.int .u64 0,.int .u64 0,.int .u64 0,.int .u64 0]:=by kernel_rfl
theorem q8_full(x:Nat):(ar .u64 8 fun j=>((q8 x 8 j:Nat):Int))=ar .u64 8 fun j=>((qN x j:Nat):Int):=ar_congr fun j hj=>by unfold q8;rw[if_pos hj]
theorem info8:(Tryz.prog.info? 69).map (·.size)=some 8:=by kernel_rfl
theorem and_low32(z:Nat)(h:z<18446744073709551616):bits .and .u64 z 4294967295=((z%4294967296:Nat):Int):=by
 have:=bits_and_u64_nat z 4294967295 h (by omega);rw[show z &&& 4294967295=z%4294967296 from Nat.and_two_pow_sub_one_eq_mod z 32]at this;exact this
structure CP8 (w:World) (x k:Nat) (wx:World):Prop where
 old:Below w.heap.size w wx
 ra:wx.heap[w.heap.size]?=some (.cells (ar .u64 4 fun j=>((pN x j:Nat):Int)) 24 (0,0))
 rr:wx.heap[w.heap.size+1]?=some (.cells (ar .u64 8 fun j=>((q8 x 0 j:Nat):Int)) 69 (0,0))
 rp:wx.heap[w.heap.size+1+1]?=some (.cells (ar .u64 8 fun j=>((q8 x k j:Nat):Int)) 69 (0,0))
theorem CP8.put{w wx:World}{x k v:Nat}(c:CP8 w x k wx)(hk:k<8)(hv:v=qN x k):CP8 w x (k+1) (wx.setCell ⟨w.heap.size+1+1,k,none⟩ (.int .u64 (v:Nat))):=by
 subst hv;refine⟨c.old.setCell (by simp;omega) _,(heap_setCell_other _ _ _ _ (by simp;omega)).trans c.ra,(heap_setCell_other _ _ _ _ (by simp)).trans c.rr,?_⟩;refine(heap_setCell_same _ _ _ _ _ _ c.rp).trans ?_;rw[ar_set _ _ _ _ _ hk];congr 2;refine ar_congr fun j _=>?_;unfold updI;rw[q8_next];by_cases e:j=k
 ·rw[if_pos e,if_pos e]
 ·rw[if_neg e,if_neg e]
theorem CP8.start(w:World)(x:Nat):CP8 w x 0 (((w.alloc (.cells (pw x) 24)).alloc (.cells (#[.int .u64 0,.int .u64 0,.int .u64 0,.int .u64 0,.int .u64 0,.int .u64 0,.int .u64 0,.int .u64 0]) 69)).alloc (.cells (#[.int .u64 0,.int .u64 0,.int .u64 0,.int .u64 0,.int .u64 0,.int .u64 0,.int .u64 0,.int .u64 0]) 69)):=by
 refine⟨(((Below.refl _ _).alloc (Nat.le_refl _) _).alloc (by simp) _).alloc (by simp;omega) _,?_,?_,?_⟩
 ·rw[Below.heap_alloc _ _ _ (by simp;omega),Below.heap_alloc _ _ _ (by simp),heap_alloc_new,pw_ar]
 ·rw[Below.heap_alloc _ _ _ (by simp),q8_zero]
  have:=heap_alloc_new (w.alloc (.cells (pw x) 24)) (.cells (#[.int .u64 0,.int .u64 0,.int .u64 0,.int .u64 0,.int .u64 0,.int .u64 0,.int .u64 0,.int .u64 0]) 69);rwa [World.size_alloc]at this
 ·rw[q8_zero]
  have:=heap_alloc_new ((w.alloc (.cells (pw x) 24)).alloc (.cells (#[.int .u64 0,.int .u64 0,.int .u64 0,.int .u64 0,.int .u64 0,.int .u64 0,.int .u64 0,.int .u64 0]) 69)) (.cells (#[.int .u64 0,.int .u64 0,.int .u64 0,.int .u64 0,.int .u64 0,.int .u64 0,.int .u64 0,.int .u64 0]) 69);rwa [World.size_alloc,World.size_alloc]at this
theorem rparts_any(x:Nat)(w:World):Calls Tryz.prog 56 #[.agg (pw x)] w fun e w'=>e=.returned (.agg (ar .u64 8 fun j=>((qN x j:Nat):Int)))/\Below w.heap.size w w':=by
 have HI8:Hid ((Tryz.prog.info? 69).map (·.size)=some (ar .u64 8 fun j=>((q8 x 8 j:Nat):Int)).size):=Lib.hid (by rw[ar_size];exact info8);have HR:=Lib.hid (CP8.start w x);go_enter Tryz.func56,Tryz.ntmps56
 go_wp2_with fail
 go_loopw [4] (fun iv wr=>∃ k:Nat,k<=8/\iv=.int .i64 k/\Hid (CP8 w x k wr)) (fun iv _=>8 - (intOf iv).toNat)
 case atStart=>exact⟨0,by omega,rfl,HR⟩
 case round =>
  obtain⟨k,hk,rfl,H⟩:=hrel;clear HR;have hk0:(0:Int)<=k:=by omega
  have hk1:(k:Int)<=8:=by omega
  by_cases hlt:k<8
  ·obtain⟨p,hp⟩:∃ p:Nat,(k:Int) / 2=(p:Int):=⟨k / 2,by omega⟩
   obtain⟨r,hr⟩:∃ r:Nat,(k:Int)%2=(r:Int):=⟨k%2,by omega⟩
   obtain⟨s,hs⟩:∃ s:Nat,32*(r:Int)=(s:Int):=⟨32*r,by omega⟩
   have hp0:(0:Int)<=p:=by omega
   have hp1:(p:Int)<4:=by omega
   have hs0:(0:Int)<=s:=by omega
   have hs1:(s:Int)<64:=by omega
   have hlt':(k:Int)<8:=by omega
   have ca:wr.cell? ⟨w.heap.size,p,none⟩=some (.int .u64 (pN x p:Nat)):=(cell_of_row _ _ p _ _ _ H.out.ra).trans (ar_at _ _ _ _ (by omega));have co:wr.cell? ⟨w.heap.size+1+1,k,none⟩=some (.int .u64 (q8 x k k:Nat)):=(cell_of_row _ _ k _ _ _ H.out.rp).trans (ar_at _ _ _ _ (by omega));have fo:wr.frozen? ⟨w.heap.size+1+1,k,none⟩=false:=frozen_of_row wr _ k _ _ H.out.rp;have hpl:=pN_le x p;have hv:bits .and .u64 (((pN x p:Nat):Int) / 2^s) 4294967295=((qN x k:Nat):Int):=by
    rw[<- qn_of x k p s (by omega) (by omega)];have h:=and_low32 (pN x p / 2^s) (Nat.lt_of_le_of_lt (Nat.div_le_self _ _) hpl);simpa using h
   obtain⟨y,hy⟩:∃ y,qN x k=y:=⟨_,rfl⟩
   rw[hy]at hv;have HV:=Lib.hid hv;have HY:=Lib.hid hy;have HK:=Lib.hid hlt;clear hv hpl hy hlt hk
   go_wp2_with fail
   go_roundw
   case rel=>exact⟨k+1,by have:=HK.out;omega,by go_num,Lib.hid (by rw[HV.out];exact H.out.put HK.out HY.out.symm)⟩
   case measure=>have:=HK.out;simp[intOf];omega
  ·obtain rfl:k=8:=by omega
   go_wp2_with (first | (refine wpList_load_row rfl 69 _ rfl (w.heap.size+1+1) rfl 69 _ (0,0) _ H.out.rp Tryz.underlying69 rfl HI8.out ?_) | (refine wpList_store_row rfl 69 _ _ rfl (w.heap.size+1) (ar .u64 8 fun j=>((q8 x 8 j:Nat):Int)) rfl rfl 69 _ (by exact H.out.rr) HI8.out (by rw[ar_size,ar_size]) (ar_one _ _ _) ?_))
   refine bodyPost_ret (v:=.agg (ar .u64 8 fun j=>((q8 x 8 j:Nat):Int))) (results_cell_row (p:=2) rfl _ _ (w.heap.size+1) 69 _ (0,0) _ rfl (setRow_heap _ _ _ _ _ _ H.out.rr) Tryz.underlying69 rfl HI8.out) rfl ⟨by rw[q8_full],below_setRow H.out.old (by omega) _⟩
open Go.RowKit
theorem CRf.lay{w wx:World}{G m lo sq:Nat}{L:List (Nat × Array Value)}(c:CRf w G m lo sq L wx)(cs:Array Value):CRf w G m lo sq ((wx.heap.size,cs)::L) ((wx.alloc (.cells (#[.int .u64 0,.int .u64 0,.int .u64 0,.int .u64 0]) 24)).setRow wx.heap.size cs):=by
 have hb:Below wx.heap.size wx ((wx.alloc (.cells (#[.int .u64 0,.int .u64 0,.int .u64 0,.int .u64 0]) 24)).setRow wx.heap.size cs):=below_setRow ((Below.refl _ _).alloc (Nat.le_refl _) _) (Nat.le_refl _) _;exact(c.below hb).cons (setRow_heap _ _ _ _ _ _ (heap_alloc_new _ _))
theorem pw_less{s m r:Nat}(h:s+2^256 - m=r\/s+2^256 - m=r+2^256):pw (s+2^256 - m)=pw r:=by
 apply pw_congr;rcases h with h | h <;> rw[h]
 rw[Nat.add_mod_right]
def rA(m a b:Nat):Nat:=(if (2^256)<=a+b\/m<=(a+b)%2^256 then (a+b)%2^256+2^256 - m else (a+b)%2^256)%2^256
def rS(m a b:Nat):Nat:=(if b<=a then a+2^256 - b else a+2^256 - b+m)%2^256
theorem rA_lt(m a b:Nat):rA m a b<2^256:=Nat.mod_lt _ (by omega)
theorem rS_lt(m a b:Nat):rS m a b<2^256:=Nat.mod_lt _ (by omega)
theorem rA_eq{m a b:Nat}(ha:a<m)(hb:b<m)(hm:m<2^256):rA m a b=(a+b)%m:=by
 unfold rA;by_cases h:(2^256)<=a+b\/m<=(a+b)%2^256
 ·rw[if_pos h,Nat.mod_eq_sub_mod (show a+b ≥ m by omega),Nat.mod_eq_of_lt (show a+b - m<m by omega)]
  omega
 ·rw[if_neg h,Nat.mod_mod,Nat.mod_eq_of_lt (show a+b<m by omega)]
  omega
theorem rS_eq{m a b:Nat}(ha:a<m)(hb:b<m)(hm:m<2^256):rS m a b=(a+(m - b))%m:=by
 unfold rS;by_cases h:b<=a
 ·rw[if_pos h,show a+(m - b)=a - b+m by omega,Nat.add_mod_right,Nat.mod_eq_of_lt (show a - b<m by omega)]
  omega
 ·rw[if_neg h,Nat.mod_eq_of_lt (show a+(m - b)<m by omega)]
  omega
theorem radd_w(G m lo sq a b:Nat)(hal:a<2^256)(hbl:b<2^256)(hm:m<2^256)(w:World)(hF:RFat w G m lo sq):Calls Tryz.prog 41 #[(.pointer (some ⟨G,0,none⟩)),.agg (pw a),.agg (pw b)] w fun e w'=>e=.returned (.agg (pw (rA m a b)))/\Below w.heap.size w w':=by
 have H0:=Lib.hid (CRf.two hF a b);have HPL:=Lib.hid (fun wx=>plusW_any a b (by omega) (by omega) wx);obtain⟨s,hs⟩:∃ s,(a+b)%2^256=s:=⟨_,rfl⟩
 have hsl:s<2^256:=by omega
 rw[show pw (a+b)=pw s from by rw[<- hs,pw_modn]]at HPL;have HMO:=Lib.hid (fun wx (_:RFat wx G m lo sq)=>moreW_any s m hsl hm wx);have HMI:=Lib.hid (fun wx (_:RFat wx G m lo sq)=>minusW_any s m hsl hm wx);obtain⟨y,hy⟩:∃ y,s+2^256 - m=y:=⟨_,rfl⟩
 have HR:=Lib.hid (show(2^256)<=a+b\/m<=s->pw y=pw (rA m a b) from fun h=>by
  rw[<- hy];unfold rA;rw[hs,if_pos h,pw_modn])
 have HR2:=Lib.hid (show ¬(2^256)<=a+b->¬m<=s->pw s=pw (rA m a b) from fun h1 h2=>by
  unfold rA;rw[hs,if_neg (fun h=>h.elim h1 h2),pw_modn])
 rw[hy]at HMI;obtain⟨z,hz⟩:∃ z,pw (rA m a b)=z:=⟨_,rfl⟩
 rw[hz]at HR HR2 |-
 clear hF hz hs hy hsl hal hbl hm;by_cases ho:(2^256)<=a+b
 ·rw[decide_eq_true ho]at HPL
  have HQ:=Lib.hid (HR.out (.inl ho));clear HR HR2 HMO ho;go_enter Tryz.func41,Tryz.ntmps41
  go_wp2_with (first | (refine wpList_ld rfl 24 _ rfl (.pointer (some ⟨w.heap.size,0,none⟩)) (.agg (pw a)) rfl (ld_pw (by exact H0.out.is _ _ (by simp))) ?_) | (refine wpList_ld rfl 24 _ rfl (.pointer (some ⟨w.heap.size+1,0,none⟩)) (.agg (pw b)) rfl (ld_pw (by exact H0.out.is _ _ (by simp))) ?_))
  refine(HPL.out _).mono ?_;rintro e w1 ⟨rfl,hb1⟩;have H1:=Lib.hid ((H0.out.below hb1).lay (pw s));have G1:=Lib.hid (heap_alloc_new w1 (.cells (#[.int .u64 0,.int .u64 0,.int .u64 0,.int .u64 0]) 24));clear hb1 H0 HPL
  go_upto_region 2 with(refine wpList_store_row rfl 24 _ _ rfl w1.heap.size (pw s) rfl rfl 24 (#[.int .u64 0,.int .u64 0,.int .u64 0,.int .u64 0]) (by exact G1.out) (by rw[pw_size];exact infoW4) (by rw[pw_size];rfl) (pw_one _) ?_)
  obtain⟨w2,hw2⟩:∃ w2,(w1.alloc (.cells (#[.int .u64 0,.int .u64 0,.int .u64 0,.int .u64 0]) 24)).setRow w1.heap.size (pw s)=w2:=⟨_,rfl⟩
  obtain⟨g7,hg7⟩:∃ g7,w1.heap.size=g7:=⟨_,rfl⟩
  rw[hw2,hg7]at H1;rw[hw2,hg7];clear hw2 hg7 G1;refine wp_region_quiet (C:=CRf w G m lo sq [(g7,pw s),(w.heap.size+1+1,#[.int .u64 0,.int .u64 0,.int .u64 0,.int .u64 0]),(w.heap.size+1,pw b),(w.heap.size,pw a)]) (by kernel_rfl) (by kernel_rfl) (H1.out.drew) ?_;simp only
  with_reducible refine q_val (.bool true) (by kernel_rfl) (fun _ _=>by kernel_rfl) ?_
  with_reducible refine q_val (.bool true) (by kernel_rfl) (fun _ _=>by kernel_rfl) ?_
  with_reducible refine q_skip (by kernel_rfl) ?_
  with_reducible refine q_skip (by kernel_rfl) ?_
  with_reducible refine q_skip (by kernel_rfl) ?_
  with_reducible refine q_skip (by kernel_rfl) ?_
  with_reducible refine q_skip (by kernel_rfl) ?_
  with_reducible refine q_skip (by kernel_rfl) ?_
  with_reducible refine q_val (.bool true) (by kernel_rfl) (fun _ _=>by kernel_rfl) ?_
  with_reducible refine wpQuiet_nil ?_
  intro wx hC;have HC:=Lib.hid hC;clear hC H1;simp only[Act.put,List.setIfInBounds_toArray,List.set_cons_succ,List.set_cons_zero]
  go_wp2_with fail
  refine region_quiet_tail 6 (CRf w G m lo sq [(g7,pw s),(w.heap.size+1+1,#[.int .u64 0,.int .u64 0,.int .u64 0,.int .u64 0]),(w.heap.size+1,pw b),(w.heap.size,pw a)]) (by kernel_rfl) (by kernel_rfl) (HC.out.drew) ?_;simp only[List.take_succ_cons,List.take_zero,List.drop_succ_cons,List.drop_zero]
  with_reducible refine q_load 24 (.tmp 7) (.pointer (some ⟨g7,0,none⟩)) (.agg (pw s)) rfl (by kernel_rfl) (by kernel_rfl) (fun _ c=>ld_pw (c.is _ _ (by simp))) ?_
  with_reducible refine q_val (.pointer (some ⟨G,0,none⟩)) (by kernel_rfl) (fun _ _=>by kernel_rfl) ?_
  with_reducible refine q_val (.pointer (some ⟨G,0,none⟩)) (by kernel_rfl) (fun _ _=>run_nil (.tmp 25) _ rfl (by kernel_rfl)) ?_
  with_reducible refine q_sem2 (Instr.fieldAt 72 (.pointer (some ⟨G,0,none⟩)) 0) (.pointer (some ⟨G,0,none⟩)) (by kernel_rfl) (by kernel_rfl) (fun w' _=>(rf_at G w').1) ?_
  with_reducible refine q_load 24 (.tmp 27) (.pointer (some ⟨G,0,none⟩)) (.agg (pw m)) rfl (by kernel_rfl) (by kernel_rfl) (fun _ c=>ld_rm c.fld) ?_
  with_reducible refine q_call 66 #[.agg (pw s),.agg (pw m)] (.agg (pw y)) (by kernel_rfl) (fun _=>by kernel_rfl) (CRf.calls HMI.out) ?_
  with_reducible refine wpQuiet_nil ?_
  intro wx hC;have HC2:=Lib.hid hC;clear hC HC HMI;simp only[Act.put,List.setIfInBounds_toArray,List.set_cons_succ,List.set_cons_zero]
  go_wp2_with (refine wpList_store_row rfl 24 _ _ rfl (w.heap.size+1+1) (pw y) rfl rfl 24 (#[.int .u64 0,.int .u64 0,.int .u64 0,.int .u64 0]) (by exact HC2.out.is _ _ (by simp)) (by rw[pw_size];exact infoW4) (by first | rfl | (rw[pw_size];rfl) | (rw[pw_size,pw_size])) (pw_one _) ?_)
  (try simp only[Act.put])
  refine bodyPost_ret (v:=.agg (pw y)) (results_cell_row (p:=6) rfl _ _ (w.heap.size+1+1) 24 (pw y) (0,0) _ rfl (setRow_heap _ _ _ _ _ _ (by exact HC2.out.is _ (#[.int .u64 0,.int .u64 0,.int .u64 0,.int .u64 0]) (by simp))) Tryz.underlying24 rfl (by rw[pw_size];exact infoW4)) rfl ⟨by rw[HQ.out],below_setRow HC2.out.old (by omega) _⟩
 ·rw[decide_eq_false ho]at HPL
  by_cases hq:m<=s
  ·rw[decide_eq_true hq]at HMO
   have HQ:=Lib.hid (HR.out (.inr hq));clear HR HR2 ho hq;go_enter Tryz.func41,Tryz.ntmps41
   go_wp2_with (first | (refine wpList_ld rfl 24 _ rfl (.pointer (some ⟨w.heap.size,0,none⟩)) (.agg (pw a)) rfl (ld_pw (by exact H0.out.is _ _ (by simp))) ?_) | (refine wpList_ld rfl 24 _ rfl (.pointer (some ⟨w.heap.size+1,0,none⟩)) (.agg (pw b)) rfl (ld_pw (by exact H0.out.is _ _ (by simp))) ?_))
   refine(HPL.out _).mono ?_;rintro e w1 ⟨rfl,hb1⟩;have H1:=Lib.hid ((H0.out.below hb1).lay (pw s));have G1:=Lib.hid (heap_alloc_new w1 (.cells (#[.int .u64 0,.int .u64 0,.int .u64 0,.int .u64 0]) 24));clear hb1 H0 HPL
   go_upto_region 2 with(refine wpList_store_row rfl 24 _ _ rfl w1.heap.size (pw s) rfl rfl 24 (#[.int .u64 0,.int .u64 0,.int .u64 0,.int .u64 0]) (by exact G1.out) (by rw[pw_size];exact infoW4) (by rw[pw_size];rfl) (pw_one _) ?_)
   obtain⟨w2,hw2⟩:∃ w2,(w1.alloc (.cells (#[.int .u64 0,.int .u64 0,.int .u64 0,.int .u64 0]) 24)).setRow w1.heap.size (pw s)=w2:=⟨_,rfl⟩
   obtain⟨g7,hg7⟩:∃ g7,w1.heap.size=g7:=⟨_,rfl⟩
   rw[hw2,hg7]at H1;rw[hw2,hg7];clear hw2 hg7 G1;refine wp_region_quiet (C:=CRf w G m lo sq [(g7,pw s),(w.heap.size+1+1,#[.int .u64 0,.int .u64 0,.int .u64 0,.int .u64 0]),(w.heap.size+1,pw b),(w.heap.size,pw a)]) (by kernel_rfl) (by kernel_rfl) (H1.out.drew) ?_;simp only
   with_reducible refine q_val (.bool false) (by kernel_rfl) (fun _ _=>by kernel_rfl) ?_
   with_reducible refine q_val (.bool false) (by kernel_rfl) (fun _ _=>by kernel_rfl) ?_
   with_reducible refine q_load 24 (.tmp 7) (.pointer (some ⟨g7,0,none⟩)) (.agg (pw s)) rfl (by kernel_rfl) (by kernel_rfl) (fun _ c=>ld_pw (c.is _ _ (by simp))) ?_
   with_reducible refine q_val (.pointer (some ⟨G,0,none⟩)) (by kernel_rfl) (fun _ _=>by kernel_rfl) ?_
   with_reducible refine q_val (.pointer (some ⟨G,0,none⟩)) (by kernel_rfl) (fun _ _=>run_nil (.tmp 18) _ rfl (by kernel_rfl)) ?_
   with_reducible refine q_sem2 (Instr.fieldAt 72 (.pointer (some ⟨G,0,none⟩)) 0) (.pointer (some ⟨G,0,none⟩)) (by kernel_rfl) (by kernel_rfl) (fun w' _=>(rf_at G w').1) ?_
   with_reducible refine q_load 24 (.tmp 20) (.pointer (some ⟨G,0,none⟩)) (.agg (pw m)) rfl (by kernel_rfl) (by kernel_rfl) (fun _ c=>ld_rm c.fld) ?_
   with_reducible refine q_call 58 #[.agg (pw s),.agg (pw m)] (.bool true) (by kernel_rfl) (fun _=>by kernel_rfl) (CRf.calls HMO.out) ?_
   with_reducible refine q_val (.bool true) (by kernel_rfl) (fun _ _=>by kernel_rfl) ?_
   with_reducible refine wpQuiet_nil ?_
   intro wx hC;have HC:=Lib.hid hC;clear hC H1 HMO;simp only[Act.put,List.setIfInBounds_toArray,List.set_cons_succ,List.set_cons_zero]
   go_wp2_with fail
   refine region_quiet_tail 6 (CRf w G m lo sq [(g7,pw s),(w.heap.size+1+1,#[.int .u64 0,.int .u64 0,.int .u64 0,.int .u64 0]),(w.heap.size+1,pw b),(w.heap.size,pw a)]) (by kernel_rfl) (by kernel_rfl) (HC.out.drew) ?_;simp only[List.take_succ_cons,List.take_zero,List.drop_succ_cons,List.drop_zero]
   with_reducible refine q_load 24 (.tmp 7) (.pointer (some ⟨g7,0,none⟩)) (.agg (pw s)) rfl (by kernel_rfl) (by kernel_rfl) (fun _ c=>ld_pw (c.is _ _ (by simp))) ?_
   with_reducible refine q_val (.pointer (some ⟨G,0,none⟩)) (by kernel_rfl) (fun _ _=>by kernel_rfl) ?_
   with_reducible refine q_val (.pointer (some ⟨G,0,none⟩)) (by kernel_rfl) (fun _ _=>run_nil (.tmp 25) _ rfl (by kernel_rfl)) ?_
   with_reducible refine q_sem2 (Instr.fieldAt 72 (.pointer (some ⟨G,0,none⟩)) 0) (.pointer (some ⟨G,0,none⟩)) (by kernel_rfl) (by kernel_rfl) (fun w' _=>(rf_at G w').1) ?_
   with_reducible refine q_load 24 (.tmp 27) (.pointer (some ⟨G,0,none⟩)) (.agg (pw m)) rfl (by kernel_rfl) (by kernel_rfl) (fun _ c=>ld_rm c.fld) ?_
   with_reducible refine q_call 66 #[.agg (pw s),.agg (pw m)] (.agg (pw y)) (by kernel_rfl) (fun _=>by kernel_rfl) (CRf.calls HMI.out) ?_
   with_reducible refine wpQuiet_nil ?_
   intro wx hC;have HC2:=Lib.hid hC;clear hC HC HMI;simp only[Act.put,List.setIfInBounds_toArray,List.set_cons_succ,List.set_cons_zero]
   go_wp2_with (refine wpList_store_row rfl 24 _ _ rfl (w.heap.size+1+1) (pw y) rfl rfl 24 (#[.int .u64 0,.int .u64 0,.int .u64 0,.int .u64 0]) (by exact HC2.out.is _ _ (by simp)) (by rw[pw_size];exact infoW4) (by first | rfl | (rw[pw_size];rfl) | (rw[pw_size,pw_size])) (pw_one _) ?_)
   (try simp only[Act.put])
   refine bodyPost_ret (v:=.agg (pw y)) (results_cell_row (p:=6) rfl _ _ (w.heap.size+1+1) 24 (pw y) (0,0) _ rfl (setRow_heap _ _ _ _ _ _ (by exact HC2.out.is _ (#[.int .u64 0,.int .u64 0,.int .u64 0,.int .u64 0]) (by simp))) Tryz.underlying24 rfl (by rw[pw_size];exact infoW4)) rfl ⟨by rw[HQ.out],below_setRow HC2.out.old (by omega) _⟩
  ·rw[decide_eq_false hq]at HMO
   have HQ:=Lib.hid (HR2.out ho hq);clear HR HR2 ho hq HMI;go_enter Tryz.func41,Tryz.ntmps41
   go_wp2_with (first | (refine wpList_ld rfl 24 _ rfl (.pointer (some ⟨w.heap.size,0,none⟩)) (.agg (pw a)) rfl (ld_pw (by exact H0.out.is _ _ (by simp))) ?_) | (refine wpList_ld rfl 24 _ rfl (.pointer (some ⟨w.heap.size+1,0,none⟩)) (.agg (pw b)) rfl (ld_pw (by exact H0.out.is _ _ (by simp))) ?_))
   refine(HPL.out _).mono ?_;rintro e w1 ⟨rfl,hb1⟩;have H1:=Lib.hid ((H0.out.below hb1).lay (pw s));have G1:=Lib.hid (heap_alloc_new w1 (.cells (#[.int .u64 0,.int .u64 0,.int .u64 0,.int .u64 0]) 24));clear hb1 H0 HPL
   go_upto_region 2 with(refine wpList_store_row rfl 24 _ _ rfl w1.heap.size (pw s) rfl rfl 24 (#[.int .u64 0,.int .u64 0,.int .u64 0,.int .u64 0]) (by exact G1.out) (by rw[pw_size];exact infoW4) (by rw[pw_size];rfl) (pw_one _) ?_)
   obtain⟨w2,hw2⟩:∃ w2,(w1.alloc (.cells (#[.int .u64 0,.int .u64 0,.int .u64 0,.int .u64 0]) 24)).setRow w1.heap.size (pw s)=w2:=⟨_,rfl⟩
   obtain⟨g7,hg7⟩:∃ g7,w1.heap.size=g7:=⟨_,rfl⟩
   rw[hw2,hg7]at H1;rw[hw2,hg7];clear hw2 hg7 G1;refine wp_region_quiet (C:=CRf w G m lo sq [(g7,pw s),(w.heap.size+1+1,#[.int .u64 0,.int .u64 0,.int .u64 0,.int .u64 0]),(w.heap.size+1,pw b),(w.heap.size,pw a)]) (by kernel_rfl) (by kernel_rfl) (H1.out.drew) ?_;simp only
   with_reducible refine q_val (.bool false) (by kernel_rfl) (fun _ _=>by kernel_rfl) ?_
   with_reducible refine q_val (.bool false) (by kernel_rfl) (fun _ _=>by kernel_rfl) ?_
   with_reducible refine q_load 24 (.tmp 7) (.pointer (some ⟨g7,0,none⟩)) (.agg (pw s)) rfl (by kernel_rfl) (by kernel_rfl) (fun _ c=>ld_pw (c.is _ _ (by simp))) ?_
   with_reducible refine q_val (.pointer (some ⟨G,0,none⟩)) (by kernel_rfl) (fun _ _=>by kernel_rfl) ?_
   with_reducible refine q_val (.pointer (some ⟨G,0,none⟩)) (by kernel_rfl) (fun _ _=>run_nil (.tmp 18) _ rfl (by kernel_rfl)) ?_
   with_reducible refine q_sem2 (Instr.fieldAt 72 (.pointer (some ⟨G,0,none⟩)) 0) (.pointer (some ⟨G,0,none⟩)) (by kernel_rfl) (by kernel_rfl) (fun w' _=>(rf_at G w').1) ?_
   with_reducible refine q_load 24 (.tmp 20) (.pointer (some ⟨G,0,none⟩)) (.agg (pw m)) rfl (by kernel_rfl) (by kernel_rfl) (fun _ c=>ld_rm c.fld) ?_
   with_reducible refine q_call 58 #[.agg (pw s),.agg (pw m)] (.bool false) (by kernel_rfl) (fun _=>by kernel_rfl) (CRf.calls HMO.out) ?_
   with_reducible refine q_val (.bool false) (by kernel_rfl) (fun _ _=>by kernel_rfl) ?_
   with_reducible refine wpQuiet_nil ?_
   intro wx hC;have HC:=Lib.hid hC;clear hC H1 HMO;simp only[Act.put,List.setIfInBounds_toArray,List.set_cons_succ,List.set_cons_zero]
   go_wp2_with (first | (refine wpList_ld rfl 24 _ rfl (.pointer (some ⟨g7,0,none⟩)) (.agg (pw s)) rfl (ld_pw (by exact HC.out.is _ _ (by simp))) ?_) | (refine wpList_store_row rfl 24 _ _ rfl (w.heap.size+1+1) (pw s) rfl rfl 24 (#[.int .u64 0,.int .u64 0,.int .u64 0,.int .u64 0]) (by exact HC.out.is _ _ (by simp)) (by rw[pw_size];exact infoW4) (by first | rfl | (rw[pw_size];rfl) | (rw[pw_size,pw_size])) (pw_one _) ?_))
   (try simp only[Act.put])
   refine bodyPost_ret (v:=.agg (pw s)) (results_cell_row (p:=6) rfl _ _ (w.heap.size+1+1) 24 (pw s) (0,0) _ rfl (setRow_heap _ _ _ _ _ _ (by exact HC.out.is _ (#[.int .u64 0,.int .u64 0,.int .u64 0,.int .u64 0]) (by simp))) Tryz.underlying24 rfl (by rw[pw_size];exact infoW4)) rfl ⟨by rw[HQ.out],below_setRow HC.out.old (by omega) _⟩
theorem radd_any(G m lo sq a b:Nat)(hal:a<m)(hbl:b<m)(hm:m<2^256)(w:World)(hF:RFat w G m lo sq):Calls Tryz.prog 41 #[(.pointer (some ⟨G,0,none⟩)),.agg (pw a),.agg (pw b)] w fun e w'=>e=.returned (.agg (pw ((a+b)%m)))/\Below w.heap.size w w':=by
 have h:=radd_w G m lo sq a b (Nat.lt_trans hal hm) (Nat.lt_trans hbl hm) hm w hF;rw[rA_eq hal hbl hm]at h;exact h
open Go.RowKit
theorem arr_litS(t:Array Value):t=((List.range t.size).map fun i=>t.getD i undef).toArray:=by
 apply Array.ext
 ·simp
 ·intro i h1 h2
  simp[h1]
theorem rsub_w(G m lo sq a b:Nat)(hal:a<2^256)(hbl:b<2^256)(hm:m<2^256)(w:World)(hF:RFat w G m lo sq):Calls Tryz.prog 43 #[(.pointer (some ⟨G,0,none⟩)),.agg (pw a),.agg (pw b)] w fun e w'=>e=.returned (.agg (pw (rS m a b)))/\Below w.heap.size w w':=by
 have H0:=Lib.hid (CRf.two hF a b);have HMO:=Lib.hid (fun wx=>moreW_any a b (by omega) (by omega) wx);have HMI:=Lib.hid (fun wx=>minusW_any a b (by omega) (by omega) wx);by_cases hq:b<=a
 ·have HQ:=Lib.hid (show pw (a+2^256 - b)=pw (rS m a b) from by
   unfold rS;rw[if_pos hq,pw_modn])
  rw[decide_eq_true hq]at HMO;obtain⟨y,hy⟩:∃ y,a+2^256 - b=y:=⟨_,rfl⟩
  rw[hy]at HMI HQ;obtain⟨z,hz⟩:∃ z,pw (rS m a b)=z:=⟨_,rfl⟩
  rw[hz]at HQ |-
  clear hF hal hbl hm hq hy hz;go_enter Tryz.func43,Tryz.ntmps43
  go_wp2_with (first | (refine wpList_ld rfl 24 _ rfl (.pointer (some ⟨w.heap.size,0,none⟩)) (.agg (pw a)) rfl (ld_pw (by exact H0.out.is _ _ (by simp))) ?_) | (refine wpList_ld rfl 24 _ rfl (.pointer (some ⟨w.heap.size+1,0,none⟩)) (.agg (pw b)) rfl (ld_pw (by exact H0.out.is _ _ (by simp))) ?_))
  refine(HMO.out _).mono ?_;rintro e w1 ⟨rfl,hb1⟩;have H1:=Lib.hid (H0.out.below hb1);clear hb1 H0 HMO
  go_wp2_with (first | (refine wpList_ld rfl 24 _ rfl (.pointer (some ⟨w.heap.size,0,none⟩)) (.agg (pw a)) rfl (ld_pw (by exact H1.out.is _ _ (by simp))) ?_) | (refine wpList_ld rfl 24 _ rfl (.pointer (some ⟨w.heap.size+1,0,none⟩)) (.agg (pw b)) rfl (ld_pw (by exact H1.out.is _ _ (by simp))) ?_))
  refine(HMI.out _).mono ?_;rintro e w2 ⟨rfl,hb2⟩;have H2:=Lib.hid (H1.out.below hb2);clear hb2 H1 HMI
  go_wp2_with (refine wpList_store_row rfl 24 _ _ rfl (w.heap.size+1+1) (pw y) rfl rfl 24 (#[.int .u64 0,.int .u64 0,.int .u64 0,.int .u64 0]) (by exact H2.out.is _ _ (by simp)) (by rw[pw_size];exact infoW4) (by first | rfl | (rw[pw_size];rfl) | (rw[pw_size,pw_size])) (pw_one _) ?_)
  (try simp only[Act.put])
  refine bodyPost_ret (v:=.agg (pw y)) (results_cell_row (p:=6) rfl _ _ (w.heap.size+1+1) 24 (pw y) (0,0) _ rfl (setRow_heap _ _ _ _ _ _ (by exact H2.out.is _ (#[.int .u64 0,.int .u64 0,.int .u64 0,.int .u64 0]) (by simp))) Tryz.underlying24 rfl (by rw[pw_size];exact infoW4)) rfl ⟨by rw[HQ.out],below_setRow H2.out.old (by omega) _⟩
 ·have hd:a+2^256 - b<2^256:=by omega
  have HPL:=Lib.hid (fun wx=>plusW_any (a+2^256 - b) m hd hm wx);have HQ:=Lib.hid (show pw (a+2^256 - b+m)=pw (rS m a b) from by
   unfold rS;rw[if_neg hq,pw_modn])
  rw[decide_eq_false hq]at HMO;obtain⟨d,hd2⟩:∃ d,a+2^256 - b=d:=⟨_,rfl⟩
  rw[hd2]at HMI HPL HQ;obtain⟨y,hy⟩:∃ y,d+m=y:=⟨_,rfl⟩
  obtain⟨ov,hov⟩:∃ ov,decide (2^256<=d+m)=ov:=⟨_,rfl⟩
  rw[hov,hy]at HPL;rw[hy]at HQ;obtain⟨z,hz⟩:∃ z,pw (rS m a b)=z:=⟨_,rfl⟩
  rw[hz]at HQ |-
  clear hF hal hbl hm hq hy hz hd hd2 hov;go_enter Tryz.func43,Tryz.ntmps43
  go_wp2_with (first | (refine wpList_ld rfl 24 _ rfl (.pointer (some ⟨w.heap.size,0,none⟩)) (.agg (pw a)) rfl (ld_pw (by exact H0.out.is _ _ (by simp))) ?_) | (refine wpList_ld rfl 24 _ rfl (.pointer (some ⟨w.heap.size+1,0,none⟩)) (.agg (pw b)) rfl (ld_pw (by exact H0.out.is _ _ (by simp))) ?_))
  refine(HMO.out _).mono ?_;rintro e w1 ⟨rfl,hb1⟩;have H1:=Lib.hid (H0.out.below hb1);clear hb1 H0 HMO
  go_wp2_with fail
  refine region_many [.val 16 ((.agg (pw a))),.val 17 ((.agg (pw b))),.val 18 ((.agg (pw d))),.val 19 ((.pointer (some ⟨G,0,none⟩))),.val 20 ((.pointer (some ⟨G,0,none⟩))),.val 21 ((.pointer (some ⟨G,0,none⟩))),.val 22 ((.agg (pw m))),.val 23 ((.tuple #[.agg (pw y),.bool ov])),.val 15 ((.tuple #[.agg (pw y),.bool ov])),.val 24 ((.agg (pw y))),.val 25 ((.bool ov)),.blk 7 24,.laid 7 24,.val 8 ((.bool ov))] [7] (fun p=>pw y) (fun i=>i) (by kernel_rfl) (by kernel_rfl) (by exact⟨trivial,trivial,trivial,trivial,trivial,trivial,trivial,trivial,trivial,trivial,trivial,(by simp[Sp.ok]),(by simp[Sp.ok]),trivial,trivial⟩) (by intro p hp q hq hne;simp only[List.mem_cons,List.not_mem_nil,or_false]at hp hq;exact absurd (hp.trans hq.symm) hne) ?_ ?_
  ·refine⟨?_,?_,?_,?_,?_,?_,?_,?_,?_,?_,?_,?_,?_,?_,trivial⟩
   ·intro ac wx hC hsz hK
    have h0:ac.tmps.getD 4 undef=(.pointer (some ⟨w.heap.size,0,none⟩)):=hK.1 4 (by kernel_rfl);exact mm_load 24 (.tmp 4) ((.pointer (some ⟨w.heap.size,0,none⟩))) ((.agg (pw a))) rfl rfl (by kernel_rfl) h0 (ld_pw ((H1.out.below hC.1).is _ _ (by simp))) hC (by kernel_rfl) (by rw[hsz];exact of_decide_eq_true (by kernel_rfl)) rfl
   ·intro ac wx hC hsz hK
    have h0:ac.tmps.getD 5 undef=(.pointer (some ⟨w.heap.size+1,0,none⟩)):=hK.1 5 (by kernel_rfl);exact mm_load 24 (.tmp 5) ((.pointer (some ⟨w.heap.size+1,0,none⟩))) ((.agg (pw b))) rfl rfl (by kernel_rfl) h0 (ld_pw ((H1.out.below hC.1).is _ _ (by simp))) hC (by kernel_rfl) (by rw[hsz];exact of_decide_eq_true (by kernel_rfl)) rfl
   ·intro ac wx hC hsz hK
    have h0:ac.tmps.getD 16 undef=(.agg (pw a)):=hK.2 ⟨0,.data⟩ (by simp) rfl _ rfl;have h1:ac.tmps.getD 17 undef=(.agg (pw b)):=hK.2 ⟨1,.data⟩ (by simp) rfl _ rfl;refine mm_call 66 #[ac.tmps.getD 16 undef,ac.tmps.getD 17 undef] ((.agg (pw d))) rfl (by kernel_rfl) (by kernel_rfl) ?_ hC (by kernel_rfl) (by rw[hsz];exact of_decide_eq_true (by kernel_rfl)) rfl;rw[h0,h1];exact HMI.out wx
   ·intro ac wx hC hsz hK
    have h0:ac.tmps.getD 0 undef=(.pointer (some ⟨G,0,none⟩)):=hK.1 0 (by kernel_rfl);exact mm_val ((.pointer (some ⟨G,0,none⟩))) rfl (by kernel_rfl) (by rw[<- h0];kernel_rfl) hC (by kernel_rfl) (by rw[hsz];exact of_decide_eq_true (by kernel_rfl)) rfl
   ·intro ac wx hC hsz hK
    have h0:ac.tmps.getD 19 undef=(.pointer (some ⟨G,0,none⟩)):=hK.2 ⟨3,.data⟩ (by simp) rfl _ rfl;exact mm_val ((.pointer (some ⟨G,0,none⟩))) rfl (by kernel_rfl) (run_nil (.tmp 19) _ rfl h0) hC (by kernel_rfl) (by rw[hsz];exact of_decide_eq_true (by kernel_rfl)) rfl
   ·intro ac wx hC hsz hK
    have h0:ac.tmps.getD 20 undef=(.pointer (some ⟨G,0,none⟩)):=hK.2 ⟨4,.data⟩ (by simp) rfl _ rfl;refine mm_sem (Instr.fieldAt 72 (ac.tmps.getD 20 undef) 0) ((.pointer (some ⟨G,0,none⟩))) rfl (by kernel_rfl) (by kernel_rfl) ?_ hC (by kernel_rfl) (by rw[hsz];exact of_decide_eq_true (by kernel_rfl)) rfl;rw[h0];exact(rf_at G wx).1
   ·intro ac wx hC hsz hK
    have h0:ac.tmps.getD 21 undef=(.pointer (some ⟨G,0,none⟩)):=hK.2 ⟨5,.data⟩ (by simp) rfl _ rfl;exact mm_load 24 (.tmp 21) ((.pointer (some ⟨G,0,none⟩))) ((.agg (pw m))) rfl rfl (by kernel_rfl) h0 (ld_rm (H1.out.below hC.1).fld) hC (by kernel_rfl) (by rw[hsz];exact of_decide_eq_true (by kernel_rfl)) rfl
   ·intro ac wx hC hsz hK
    have h0:ac.tmps.getD 18 undef=(.agg (pw d)):=hK.2 ⟨2,.data⟩ (by simp) rfl _ rfl;have h1:ac.tmps.getD 22 undef=(.agg (pw m)):=hK.2 ⟨6,.data⟩ (by simp) rfl _ rfl;refine mm_call 68 #[ac.tmps.getD 18 undef,ac.tmps.getD 22 undef] ((.tuple #[.agg (pw y),.bool ov])) rfl (by kernel_rfl) (by kernel_rfl) ?_ hC (by kernel_rfl) (by rw[hsz];exact of_decide_eq_true (by kernel_rfl)) rfl;rw[h0,h1];exact HPL.out wx
   ·intro ac wx hC hsz hK
    have h0:ac.tmps.getD 23 undef=(.tuple #[.agg (pw y),.bool ov]):=hK.2 ⟨7,.data⟩ (by simp) rfl _ rfl;exact mm_val ((.tuple #[.agg (pw y),.bool ov])) rfl (by kernel_rfl) (by rw[<- h0];kernel_rfl) hC (by kernel_rfl) (by rw[hsz];exact of_decide_eq_true (by kernel_rfl)) rfl
   ·intro ac wx hC hsz hK
    have h0:ac.tmps.getD 15 undef=(.tuple #[.agg (pw y),.bool ov]):=hK.2 ⟨8,.data⟩ (by simp) rfl _ rfl;refine mm_sem (Instr.extract (ac.tmps.getD 15 undef) 0) ((.agg (pw y))) rfl (by kernel_rfl) (by kernel_rfl) ?_ hC (by kernel_rfl) (by rw[hsz];exact of_decide_eq_true (by kernel_rfl)) rfl;rw[h0];exact(by kernel_rfl)
   ·intro ac wx hC hsz hK
    have h0:ac.tmps.getD 15 undef=(.tuple #[.agg (pw y),.bool ov]):=hK.2 ⟨8,.data⟩ (by simp) rfl _ rfl;refine mm_sem (Instr.extract (ac.tmps.getD 15 undef) 1) ((.bool ov)) rfl (by kernel_rfl) (by kernel_rfl) ?_ hC (by kernel_rfl) (by rw[hsz];exact of_decide_eq_true (by kernel_rfl)) rfl;rw[h0];exact(by kernel_rfl)
   ·intro ac wx hC hsz hK
    exact mm_new 24 (#[.int .u64 0,.int .u64 0,.int .u64 0,.int .u64 0]) rfl (by kernel_rfl) (by kernel_rfl) hC (by rw[pw_size];rfl) (by rw[hsz];exact of_decide_eq_true (by kernel_rfl)) rfl
   ·intro ac wx hC hsz hK
    have h0:ac.tmps.getD 24 undef=(.agg (pw y)):=hK.2 ⟨9,.data⟩ (by simp) rfl _ rfl;exact mm_store (p:=7) 24 (.tmp 7) (.tmp 24) _ rfl rfl (by kernel_rfl) rfl h0 (by simp) (hK.2 ⟨11,.data⟩ (by simp) rfl _ rfl) (fun D cs h3 h4=>store_w (h4.trans (pw_size _)) h3) hC rfl
   ·intro ac wx hC hsz hK
    have h0:ac.tmps.getD 25 undef=(.bool ov):=hK.2 ⟨10,.data⟩ (by simp) rfl _ rfl;exact mm_val ((.bool ov)) rfl (by kernel_rfl) (by rw[<- h0];kernel_rfl) hC (by kernel_rfl) (by rw[hsz];exact of_decide_eq_true (by kernel_rfl)) rfl
  intro f1 w5 hb5 hap hf5;obtain⟨D7,s7,-,r7⟩:=hf5 12 _ rfl;have H5:=Lib.hid ((H1.out.below hb5).cons r7);clear hf5 hap hb5 H1 HMI HPL r7;generalize hAct:putAll _ _ _=A1 at *;have s7':A1.tmps.getD 7 undef=.pointer (some ⟨D7,0,none⟩):=s7;have s6:A1.tmps.getD 6 undef=.pointer (some ⟨w.heap.size+1+1,0,none⟩):=by subst hAct;kernel_rfl
  have hsz:A1.tmps.size=27:=by rw[<- hAct,putAll_size];rfl
  have hdf:A1.defers=[]:=by subst hAct;kernel_rfl
  clear hAct s7 f1;obtain⟨u0,t0⟩:∃ u,A1.tmps.getD 0 undef=u:=⟨_,rfl⟩
  obtain⟨u1,t1⟩:∃ u,A1.tmps.getD 1 undef=u:=⟨_,rfl⟩
  obtain⟨u2,t2⟩:∃ u,A1.tmps.getD 2 undef=u:=⟨_,rfl⟩
  obtain⟨u3,t3⟩:∃ u,A1.tmps.getD 3 undef=u:=⟨_,rfl⟩
  obtain⟨u4,t4⟩:∃ u,A1.tmps.getD 4 undef=u:=⟨_,rfl⟩
  obtain⟨u5,t5⟩:∃ u,A1.tmps.getD 5 undef=u:=⟨_,rfl⟩
  obtain⟨u8,t8⟩:∃ u,A1.tmps.getD 8 undef=u:=⟨_,rfl⟩
  obtain⟨u9,t9⟩:∃ u,A1.tmps.getD 9 undef=u:=⟨_,rfl⟩
  obtain⟨u10,t10⟩:∃ u,A1.tmps.getD 10 undef=u:=⟨_,rfl⟩
  obtain⟨u11,t11⟩:∃ u,A1.tmps.getD 11 undef=u:=⟨_,rfl⟩
  obtain⟨u12,t12⟩:∃ u,A1.tmps.getD 12 undef=u:=⟨_,rfl⟩
  obtain⟨u13,t13⟩:∃ u,A1.tmps.getD 13 undef=u:=⟨_,rfl⟩
  obtain⟨u14,t14⟩:∃ u,A1.tmps.getD 14 undef=u:=⟨_,rfl⟩
  obtain⟨u15,t15⟩:∃ u,A1.tmps.getD 15 undef=u:=⟨_,rfl⟩
  obtain⟨u16,t16⟩:∃ u,A1.tmps.getD 16 undef=u:=⟨_,rfl⟩
  obtain⟨u17,t17⟩:∃ u,A1.tmps.getD 17 undef=u:=⟨_,rfl⟩
  obtain⟨u18,t18⟩:∃ u,A1.tmps.getD 18 undef=u:=⟨_,rfl⟩
  obtain⟨u19,t19⟩:∃ u,A1.tmps.getD 19 undef=u:=⟨_,rfl⟩
  obtain⟨u20,t20⟩:∃ u,A1.tmps.getD 20 undef=u:=⟨_,rfl⟩
  obtain⟨u21,t21⟩:∃ u,A1.tmps.getD 21 undef=u:=⟨_,rfl⟩
  obtain⟨u22,t22⟩:∃ u,A1.tmps.getD 22 undef=u:=⟨_,rfl⟩
  obtain⟨u23,t23⟩:∃ u,A1.tmps.getD 23 undef=u:=⟨_,rfl⟩
  obtain⟨u24,t24⟩:∃ u,A1.tmps.getD 24 undef=u:=⟨_,rfl⟩
  obtain⟨u25,t25⟩:∃ u,A1.tmps.getD 25 undef=u:=⟨_,rfl⟩
  obtain⟨u26,t26⟩:∃ u,A1.tmps.getD 26 undef=u:=⟨_,rfl⟩
  obtain⟨tm,df⟩:=A1;simp only at *;have hLt:=arr_litS tm;rw[hsz]at hLt;simp only[List.range,List.range.loop,List.map]at hLt;rw[t0,t1,t2,t3,t4,t5,s6,s7',t8,t9,t10,t11,t12,t13,t14,t15,t16,t17,t18,t19,t20,t21,t22,t23,t24,t25,t26]at hLt;subst hLt hdf;clear t0 t1 t2 t3 t4 t5 s6 s7' t8 t9 t10 t11 t12 t13 t14 t15 t16 t17 t18 t19 t20 t21 t22 t23 t24 t25 t26 hsz
  go_wp2_with (first | (refine wpList_ld rfl 24 _ rfl (.pointer (some ⟨D7,0,none⟩)) (.agg (pw y)) rfl (ld_pw (by exact H5.out.is _ _ (by simp))) ?_) | (refine wpList_store_row rfl 24 _ _ rfl (w.heap.size+1+1) (pw y) rfl rfl 24 (#[.int .u64 0,.int .u64 0,.int .u64 0,.int .u64 0]) (by exact H5.out.is _ _ (by simp)) (by rw[pw_size];exact infoW4) (by first | rfl | (rw[pw_size];rfl) | (rw[pw_size,pw_size])) (pw_one _) ?_))
  (try simp only[Act.put])
  refine bodyPost_ret (v:=.agg (pw y)) (results_cell_row (p:=6) rfl _ _ (w.heap.size+1+1) 24 (pw y) (0,0) _ rfl (setRow_heap _ _ _ _ _ _ (by exact H5.out.is _ (#[.int .u64 0,.int .u64 0,.int .u64 0,.int .u64 0]) (by simp))) Tryz.underlying24 rfl (by rw[pw_size];exact infoW4)) rfl ⟨by rw[HQ.out],below_setRow H5.out.old (by omega) _⟩
end Go.Proofs.YthnckclbeecnmaaGreat
