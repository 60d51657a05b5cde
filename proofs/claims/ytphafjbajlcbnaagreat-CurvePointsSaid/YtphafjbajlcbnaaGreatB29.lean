/- What the reference's Sub comes to. (Cut to what is reached, written closely: RPt · RAd · RSb.) -/
import Derived.Test.YtphafjbajlcbnaaGreatB28
import Derived.Test.YtphafjbajlcbnaaGreatB16
set_option linter.all false
set_option maxRecDepth 100000
set_option maxHeartbeats 8000000
namespace Go.Proofs.YtphafjbajlcbnaaGreat
open Go.RowKit
def q8(x k j:Nat):Nat:=if j<k then qN x j else 0
theorem Zf(x k j:Nat):q8 x (k+1) j=if j=k then qN x k else q8 x k j:=by
 unfold q8;by_cases e:j=k
 ·subst e;rw[if_pos τ,if_pos rfl]
 ·rw[if_neg e]
  by_cases h:j<k
  ·rw[if_pos τ,if_pos h]
  ·rw[if_neg τ,if_neg h]
theorem QV(x:Nat):(ar .u64 8 fun j=>((q8 x 0 j:Nat):Int))=#[.int .u64 0,.int .u64 0,.int .u64 0,.int .u64 0,.int .u64 0,.int .u64 0,.int .u64 0,.int .u64 0]:=by kernel_rfl
theorem Zg(x:Nat):(ar .u64 8 fun j=>((q8 x 8 j:Nat):Int))=ar .u64 8 fun j=>((qN x j:Nat):Int):=Ch fun j hj=>by unfold q8;rw[if_pos hj]
theorem A0E:(Tryz.prog.info? 81).map (·.size)=some 8:=by kernel_rfl
theorem and_low32(z:Nat)(h:z<18446744073709551616):bits .and .u64 z 4294967295=((z%4294967296:Nat):Int):=by
 have:=bits_and_u64_nat z 4294967295 h τ;rw[show z &&& 4294967295=z%4294967296 from Nat.and_two_pow_sub_one_eq_mod z 32]at this;exact this
structure CP8 (w:World) (x k:Nat) (wx:World):Prop where
 old:Below w.heap.size w wx
 ra:wx.heap[w.heap.size]?=some (.cells (ar .u64 4 fun j=>((pN x j:Nat):Int)) 24 (0,0))
 rr:wx.heap[w.heap.size+1]?=some (.cells (ar .u64 8 fun j=>((q8 x 0 j:Nat):Int)) 81 (0,0))
 rp:wx.heap[w.heap.size+1+1]?=some (.cells (ar .u64 8 fun j=>((q8 x k j:Nat):Int)) 81 (0,0))
theorem CP8.put{w wx:World}{x k v:Nat}(c:CP8 w x k wx)(hk:k<8)(hv:v=qN x k):CP8 w x (k+1) (wx.setCell ⟨w.heap.size+1+1,k,none⟩ (.int .u64 (v:Nat))):=by
 subst hv;refine⟨c.old.setCell (by simp;omega) _,(heap_setCell_other _ _ _ _ (by simp;omega)).trans c.ra,(heap_setCell_other _ _ _ _ υ).trans c.rr,?_⟩;refine(heap_setCell_same _ _ _ _ _ _ c.rp).trans ?_;rw[Cg _ _ _ _ _ hk];congr 2;refine Ch fun j _=>?_;unfold Es;rw[Zf];by_cases e:j=k
 ·rw[if_pos e,if_pos e]
 ·rw[if_neg e,if_neg e]
theorem CP8.start(w:World)(x:Nat):CP8 w x 0 (((w.alloc (.cells (pw x) 24)).alloc (.cells (#[.int .u64 0,.int .u64 0,.int .u64 0,.int .u64 0,.int .u64 0,.int .u64 0,.int .u64 0,.int .u64 0]) 81)).alloc (.cells (#[.int .u64 0,.int .u64 0,.int .u64 0,.int .u64 0,.int .u64 0,.int .u64 0,.int .u64 0,.int .u64 0]) 81)):=by
 refine⟨(((Below.refl _ _).alloc (Nat.le_refl _) _).alloc υ _).alloc (by simp;omega) _,?_,?_,?_⟩
 ·rw[Below.heap_alloc _ _ _ (by simp;omega),Below.heap_alloc _ _ _ υ,heap_alloc_new,Dh]
 ·rw[Below.heap_alloc _ _ _ υ,QV]
  have:=heap_alloc_new (w.alloc (.cells (pw x) 24)) (.cells (#[.int .u64 0,.int .u64 0,.int .u64 0,.int .u64 0,.int .u64 0,.int .u64 0,.int .u64 0,.int .u64 0]) 81);rwa [World.size_alloc]at this
 ·rw[QV]
  have:=heap_alloc_new ((w.alloc (.cells (pw x) 24)).alloc (.cells (#[.int .u64 0,.int .u64 0,.int .u64 0,.int .u64 0,.int .u64 0,.int .u64 0,.int .u64 0,.int .u64 0]) 81)) (.cells (#[.int .u64 0,.int .u64 0,.int .u64 0,.int .u64 0,.int .u64 0,.int .u64 0,.int .u64 0,.int .u64 0]) 81);rwa [World.size_alloc,World.size_alloc]at this
theorem Ga(x:Nat)(w:World):Calls Tryz.prog 78 #[.agg (pw x)] w fun e w'=>e=.returned (.agg (ar .u64 8 fun j=>((qN x j:Nat):Int)))/\Below w.heap.size w w':=by
 have HI8:Hid ((Tryz.prog.info? 81).map (·.size)=some (ar .u64 8 fun j=>((q8 x 8 j:Nat):Int)).size):=Lib.hid (by rw[AO];exact A0E);have HR:=Lib.hid (CP8.start w x);go_enter Tryz.func78,Tryz.ntmps78
 go_wp2_with fail
 go_loopw [4] (fun iv wr=>∃ k:Nat,k<=8/\iv=.int .i64 k/\Hid (CP8 w x k wr)) (fun iv _=>8 - (intOf iv).toNat)
 case atStart=>exact⟨0,τ,rfl,HR⟩
 case round =>
  obtain⟨k,hk,rfl,H⟩:=hrel;clear HR;have hk0:(0:Int)<=k:=by omega
  have hk1:(k:Int)<=8:=by omega
  by_cases hlt:k<8
  ·obtain⟨p,hp⟩:∃ p:Nat,(k:Int) / 2=(p:Int):=⟨k / 2,τ⟩
   obtain⟨r,hr⟩:∃ r:Nat,(k:Int)%2=(r:Int):=⟨k%2,τ⟩
   obtain⟨s,hs⟩:∃ s:Nat,32*(r:Int)=(s:Int):=⟨32*r,τ⟩
   have hp0:(0:Int)<=p:=by omega
   have hp1:(p:Int)<4:=by omega
   have hs0:(0:Int)<=s:=by omega
   have hs1:(s:Int)<64:=by omega
   have hlt':(k:Int)<8:=by omega
   have ca:wr.cell? ⟨w.heap.size,p,none⟩=some (.int .u64 (pN x p:Nat)):=(cell_of_row _ _ p _ _ _ H.out.ra).trans (Cr _ _ _ _ τ);have co:wr.cell? ⟨w.heap.size+1+1,k,none⟩=some (.int .u64 (q8 x k k:Nat)):=(cell_of_row _ _ k _ _ _ H.out.rp).trans (Cr _ _ _ _ τ);have fo:wr.frozen? ⟨w.heap.size+1+1,k,none⟩=false:=frozen_of_row wr _ k _ _ H.out.rp;have hpl:=DL x p;have hv:bits .and .u64 (((pN x p:Nat):Int) / 2^s) 4294967295=((qN x k:Nat):Int):=by
    rw[<- A3s x k p s τ τ];have h:=and_low32 (pN x p / 2^s) (Nat.lt_of_le_of_lt (Nat.div_le_self _ _) hpl);simpa using h
   obtain⟨y,hy⟩:∃ y,qN x k=y:=⟨_,rfl⟩
   rw[hy]at hv;have HV:=Lib.hid hv;have HY:=Lib.hid hy;have HK:=Lib.hid hlt;clear hv hpl hy hlt hk
   go_wp2_with fail
   go_roundw
   case rel=>exact⟨k+1,by have:=HK.out;omega,by go_num,Lib.hid (by rw[HV.out];exact H.out.put HK.out HY.out.symm)⟩
   case measure=>have:=HK.out;simp[intOf];omega
  ·obtain rfl:k=8:=by omega
   go_wp2_with (first | (refine wpList_load_row rfl 81 _ rfl (w.heap.size+1+1) rfl 81 _ (0,0) _ H.out.rp Tryz.underlying81 rfl HI8.out ?_) | (refine wpList_store_row rfl 81 _ _ rfl (w.heap.size+1) (ar .u64 8 fun j=>((q8 x 8 j:Nat):Int)) rfl rfl 81 _ (by exact H.out.rr) HI8.out (by rw[AO,AO]) (FU _ _ _) ?_))
   refine bodyPost_ret (v:=.agg (ar .u64 8 fun j=>((q8 x 8 j:Nat):Int))) (results_cell_row (p:=2) rfl _ _ (w.heap.size+1) 81 _ (0,0) _ rfl (setRow_heap _ _ _ _ _ _ H.out.rr) Tryz.underlying81 rfl HI8.out) rfl ⟨by rw[Zg],below_setRow H.out.old τ _⟩
open Go.RowKit
theorem CRf.lay{w wx:World}{G m lo sq:Nat}{L:List (Nat × Array Value)}(c:CRf w G m lo sq L wx)(cs:Array Value):CRf w G m lo sq ((wx.heap.size,cs)::L) ((wx.alloc (.cells (#[.int .u64 0,.int .u64 0,.int .u64 0,.int .u64 0]) 24)).setRow wx.heap.size cs):=by
 have hb:Below wx.heap.size wx ((wx.alloc (.cells (#[.int .u64 0,.int .u64 0,.int .u64 0,.int .u64 0]) 24)).setRow wx.heap.size cs):=below_setRow ((Below.refl _ _).alloc (Nat.le_refl _) _) (Nat.le_refl _) _;exact(c.below hb).cons (setRow_heap _ _ _ _ _ _ (heap_alloc_new _ _))
theorem QW{s m r:Nat}(h:s+2^256 - m=r\/s+2^256 - m=r+2^256):pw (s+2^256 - m)=pw r:=by
 apply Dx;rcases h with h | h <;> rw[h]
 rw[Nat.add_mod_right]
def rA(m a b:Nat):Nat:=(if (2^256)<=a+b\/m<=(a+b)%2^256 then (a+b)%2^256+2^256 - m else (a+b)%2^256)%2^256
def rS(m a b:Nat):Nat:=(if b<=a then a+2^256 - b else a+2^256 - b+m)%2^256
theorem A3t(m a b:Nat):rA m a b<2^256:=Nat.mod_lt _ τ
theorem A0F(m a b:Nat):rS m a b<2^256:=Nat.mod_lt _ τ
theorem A3u{m a b:Nat}(ha:a<m)(hb:b<m)(hm:m<2^256):rA m a b=(a+b)%m:=by
 unfold rA;by_cases h:(2^256)<=a+b\/m<=(a+b)%2^256
 ·rw[if_pos h,Nat.mod_eq_sub_mod (show a+b ≥ m by omega),Nat.mod_eq_of_lt (show a+b - m<m by omega)]
  omega
 ·rw[if_neg h,Nat.mod_mod,Nat.mod_eq_of_lt (show a+b<m by omega)]
  omega
theorem A0G{m a b:Nat}(ha:a<m)(hb:b<m)(hm:m<2^256):rS m a b=(a+(m - b))%m:=by
 unfold rS;by_cases h:b<=a
 ·rw[if_pos h,show a+(m - b)=a - b+m by omega,Nat.add_mod_right,Nat.mod_eq_of_lt (show a - b<m by omega)]
  omega
 ·rw[if_neg h,Nat.mod_eq_of_lt (show a+(m - b)<m by omega)]
  omega
theorem VS(G m lo sq a b:Nat)(hal:a<2^256)(hbl:b<2^256)(hm:m<2^256)(w:World)(hF:RFat w G m lo sq):Calls Tryz.prog 39 #[(.pointer (some ⟨G,0,none⟩)),.agg (pw a),.agg (pw b)] w fun e w'=>e=.returned (.agg (pw (rA m a b)))/\Below w.heap.size w w':=by
 have H0:=Lib.hid (CRf.two hF a b);have HPL:=Lib.hid (fun wx=>Iq a b τ τ wx);obtain⟨s,hs⟩:∃ s,(a+b)%2^256=s:=⟨_,rfl⟩
 have hsl:s<2^256:=by omega
 rw[show pw (a+b)=pw s from by rw[<- hs,Fs]]at HPL;have HMO:=Lib.hid (fun wx (_:RFat wx G m lo sq)=>FC s m hsl hm wx);have HMI:=Lib.hid (fun wx (_:RFat wx G m lo sq)=>EE s m hsl hm wx);obtain⟨y,hy⟩:∃ y,s+2^256 - m=y:=⟨_,rfl⟩
 have HR:=Lib.hid (show(2^256)<=a+b\/m<=s->pw y=pw (rA m a b) from fun h=>by
  rw[<- hy];unfold rA;rw[hs,if_pos h,Fs])
 have HR2:=Lib.hid (show ¬(2^256)<=a+b->¬m<=s->pw s=pw (rA m a b) from fun h1 h2=>by
  unfold rA;rw[hs,if_neg (fun h=>h.elim h1 h2),Fs])
 rw[hy]at HMI;obtain⟨z,hz⟩:∃ z,pw (rA m a b)=z:=⟨_,rfl⟩
 rw[hz]at HR HR2 |-
 clear hF hz hs hy hsl hal hbl hm;by_cases ho:(2^256)<=a+b
 ·rw[decide_eq_true ho]at HPL
  have HQ:=Lib.hid (HR.out (.inl ho));clear HR HR2 HMO ho;go_enter Tryz.func39,Tryz.ntmps39
  go_wp2_with (first | (refine Ae rfl 24 _ rfl (.pointer (some ⟨w.heap.size,0,none⟩)) (.agg (pw a)) rfl (Ad (by exact H0.out.is _ _ υ)) ?_) | (refine Ae rfl 24 _ rfl (.pointer (some ⟨w.heap.size+1,0,none⟩)) (.agg (pw b)) rfl (Ad (by exact H0.out.is _ _ υ)) ?_))
  refine(HPL.out _).mono ?_;rintro e w1 ⟨rfl,hb1⟩;have H1:=Lib.hid ((H0.out.below hb1).lay (pw s));have G1:=Lib.hid (heap_alloc_new w1 (.cells (#[.int .u64 0,.int .u64 0,.int .u64 0,.int .u64 0]) 24));clear hb1 H0 HPL
  go_upto_region 2 with(refine wpList_store_row rfl 24 _ _ rfl w1.heap.size (pw s) rfl rfl 24 (#[.int .u64 0,.int .u64 0,.int .u64 0,.int .u64 0]) (by exact G1.out) (by rw[A7];exact Ab) (by rw[A7];rfl) (Ag _) ?_)
  obtain⟨w2,hw2⟩:∃ w2,(w1.alloc (.cells (#[.int .u64 0,.int .u64 0,.int .u64 0,.int .u64 0]) 24)).setRow w1.heap.size (pw s)=w2:=⟨_,rfl⟩
  obtain⟨g7,hg7⟩:∃ g7,w1.heap.size=g7:=⟨_,rfl⟩
  rw[hw2,hg7]at H1;rw[hw2,hg7];clear hw2 hg7 G1;refine wp_region_quiet (C:=CRf w G m lo sq [(g7,pw s),(w.heap.size+1+1,#[.int .u64 0,.int .u64 0,.int .u64 0,.int .u64 0]),(w.heap.size+1,pw b),(w.heap.size,pw a)]) ω ω (H1.out.drew) ?_;simp only
  with_reducible refine q_val (.bool true) ω (fun _ _=>by kernel_rfl) ?_
  with_reducible refine q_val (.bool true) ω (fun _ _=>by kernel_rfl) ?_
  with_reducible refine q_skip ω ?_
  with_reducible refine q_skip ω ?_
  with_reducible refine q_skip ω ?_
  with_reducible refine q_skip ω ?_
  with_reducible refine q_skip ω ?_
  with_reducible refine q_skip ω ?_
  with_reducible refine q_val (.bool true) ω (fun _ _=>by kernel_rfl) ?_
  with_reducible refine wpQuiet_nil ?_
  intro wx hC;have HC:=Lib.hid hC;clear hC H1;simp only[Act.put,List.setIfInBounds_toArray,List.set_cons_succ,List.set_cons_zero]
  go_wp2_with fail
  refine Aa 6 (CRf w G m lo sq [(g7,pw s),(w.heap.size+1+1,#[.int .u64 0,.int .u64 0,.int .u64 0,.int .u64 0]),(w.heap.size+1,pw b),(w.heap.size,pw a)]) ω ω (HC.out.drew) ?_;simp only[List.take_succ_cons,List.take_zero,List.drop_succ_cons,List.drop_zero]
  with_reducible refine Ac 24 (.tmp 7) (.pointer (some ⟨g7,0,none⟩)) (.agg (pw s)) rfl ω ω (fun _ c=>Ad (c.is _ _ υ)) ?_
  with_reducible refine q_val (.pointer (some ⟨G,0,none⟩)) ω (fun _ _=>by kernel_rfl) ?_
  with_reducible refine q_val (.pointer (some ⟨G,0,none⟩)) ω (fun _ _=>Ao (.tmp 25) _ rfl ω) ?_
  with_reducible refine Am (Instr.fieldAt 83 (.pointer (some ⟨G,0,none⟩)) 0) (.pointer (some ⟨G,0,none⟩)) ω ω (fun w' _=>(Cz G w').1) ?_
  with_reducible refine Ac 24 (.tmp 27) (.pointer (some ⟨G,0,none⟩)) (.agg (pw m)) rfl ω ω (fun _ c=>DV c.fld) ?_
  with_reducible refine Ah 57 #[.agg (pw s),.agg (pw m)] (.agg (pw y)) ω (fun _=>by kernel_rfl) (CRf.calls HMI.out) ?_
  with_reducible refine wpQuiet_nil ?_
  intro wx hC;have HC2:=Lib.hid hC;clear hC HC HMI;simp only[Act.put,List.setIfInBounds_toArray,List.set_cons_succ,List.set_cons_zero]
  go_wp2_with (refine wpList_store_row rfl 24 _ _ rfl (w.heap.size+1+1) (pw y) rfl rfl 24 (#[.int .u64 0,.int .u64 0,.int .u64 0,.int .u64 0]) (by exact HC2.out.is _ _ υ) (by rw[A7];exact Ab) (by first | rfl | (rw[A7];rfl) | (rw[A7,A7])) (Ag _) ?_)
  (try simp only[Act.put])
  refine bodyPost_ret (v:=.agg (pw y)) (results_cell_row (p:=6) rfl _ _ (w.heap.size+1+1) 24 (pw y) (0,0) _ rfl (setRow_heap _ _ _ _ _ _ (by exact HC2.out.is _ (#[.int .u64 0,.int .u64 0,.int .u64 0,.int .u64 0]) υ)) Tryz.underlying24 rfl (by rw[A7];exact Ab)) rfl ⟨by rw[HQ.out],below_setRow HC2.out.old τ _⟩
 ·rw[decide_eq_false ho]at HPL
  by_cases hq:m<=s
  ·rw[decide_eq_true hq]at HMO
   have HQ:=Lib.hid (HR.out (.inr hq));clear HR HR2 ho hq;go_enter Tryz.func39,Tryz.ntmps39
   go_wp2_with (first | (refine Ae rfl 24 _ rfl (.pointer (some ⟨w.heap.size,0,none⟩)) (.agg (pw a)) rfl (Ad (by exact H0.out.is _ _ υ)) ?_) | (refine Ae rfl 24 _ rfl (.pointer (some ⟨w.heap.size+1,0,none⟩)) (.agg (pw b)) rfl (Ad (by exact H0.out.is _ _ υ)) ?_))
   refine(HPL.out _).mono ?_;rintro e w1 ⟨rfl,hb1⟩;have H1:=Lib.hid ((H0.out.below hb1).lay (pw s));have G1:=Lib.hid (heap_alloc_new w1 (.cells (#[.int .u64 0,.int .u64 0,.int .u64 0,.int .u64 0]) 24));clear hb1 H0 HPL
   go_upto_region 2 with(refine wpList_store_row rfl 24 _ _ rfl w1.heap.size (pw s) rfl rfl 24 (#[.int .u64 0,.int .u64 0,.int .u64 0,.int .u64 0]) (by exact G1.out) (by rw[A7];exact Ab) (by rw[A7];rfl) (Ag _) ?_)
   obtain⟨w2,hw2⟩:∃ w2,(w1.alloc (.cells (#[.int .u64 0,.int .u64 0,.int .u64 0,.int .u64 0]) 24)).setRow w1.heap.size (pw s)=w2:=⟨_,rfl⟩
   obtain⟨g7,hg7⟩:∃ g7,w1.heap.size=g7:=⟨_,rfl⟩
   rw[hw2,hg7]at H1;rw[hw2,hg7];clear hw2 hg7 G1;refine wp_region_quiet (C:=CRf w G m lo sq [(g7,pw s),(w.heap.size+1+1,#[.int .u64 0,.int .u64 0,.int .u64 0,.int .u64 0]),(w.heap.size+1,pw b),(w.heap.size,pw a)]) ω ω (H1.out.drew) ?_;simp only
   with_reducible refine q_val (.bool false) ω (fun _ _=>by kernel_rfl) ?_
   with_reducible refine q_val (.bool false) ω (fun _ _=>by kernel_rfl) ?_
   with_reducible refine Ac 24 (.tmp 7) (.pointer (some ⟨g7,0,none⟩)) (.agg (pw s)) rfl ω ω (fun _ c=>Ad (c.is _ _ υ)) ?_
   with_reducible refine q_val (.pointer (some ⟨G,0,none⟩)) ω (fun _ _=>by kernel_rfl) ?_
   with_reducible refine q_val (.pointer (some ⟨G,0,none⟩)) ω (fun _ _=>Ao (.tmp 18) _ rfl ω) ?_
   with_reducible refine Am (Instr.fieldAt 83 (.pointer (some ⟨G,0,none⟩)) 0) (.pointer (some ⟨G,0,none⟩)) ω ω (fun w' _=>(Cz G w').1) ?_
   with_reducible refine Ac 24 (.tmp 20) (.pointer (some ⟨G,0,none⟩)) (.agg (pw m)) rfl ω ω (fun _ c=>DV c.fld) ?_
   with_reducible refine Ah 56 #[.agg (pw s),.agg (pw m)] (.bool true) ω (fun _=>by kernel_rfl) (CRf.calls HMO.out) ?_
   with_reducible refine q_val (.bool true) ω (fun _ _=>by kernel_rfl) ?_
   with_reducible refine wpQuiet_nil ?_
   intro wx hC;have HC:=Lib.hid hC;clear hC H1 HMO;simp only[Act.put,List.setIfInBounds_toArray,List.set_cons_succ,List.set_cons_zero]
   go_wp2_with fail
   refine Aa 6 (CRf w G m lo sq [(g7,pw s),(w.heap.size+1+1,#[.int .u64 0,.int .u64 0,.int .u64 0,.int .u64 0]),(w.heap.size+1,pw b),(w.heap.size,pw a)]) ω ω (HC.out.drew) ?_;simp only[List.take_succ_cons,List.take_zero,List.drop_succ_cons,List.drop_zero]
   with_reducible refine Ac 24 (.tmp 7) (.pointer (some ⟨g7,0,none⟩)) (.agg (pw s)) rfl ω ω (fun _ c=>Ad (c.is _ _ υ)) ?_
   with_reducible refine q_val (.pointer (some ⟨G,0,none⟩)) ω (fun _ _=>by kernel_rfl) ?_
   with_reducible refine q_val (.pointer (some ⟨G,0,none⟩)) ω (fun _ _=>Ao (.tmp 25) _ rfl ω) ?_
   with_reducible refine Am (Instr.fieldAt 83 (.pointer (some ⟨G,0,none⟩)) 0) (.pointer (some ⟨G,0,none⟩)) ω ω (fun w' _=>(Cz G w').1) ?_
   with_reducible refine Ac 24 (.tmp 27) (.pointer (some ⟨G,0,none⟩)) (.agg (pw m)) rfl ω ω (fun _ c=>DV c.fld) ?_
   with_reducible refine Ah 57 #[.agg (pw s),.agg (pw m)] (.agg (pw y)) ω (fun _=>by kernel_rfl) (CRf.calls HMI.out) ?_
   with_reducible refine wpQuiet_nil ?_
   intro wx hC;have HC2:=Lib.hid hC;clear hC HC HMI;simp only[Act.put,List.setIfInBounds_toArray,List.set_cons_succ,List.set_cons_zero]
   go_wp2_with (refine wpList_store_row rfl 24 _ _ rfl (w.heap.size+1+1) (pw y) rfl rfl 24 (#[.int .u64 0,.int .u64 0,.int .u64 0,.int .u64 0]) (by exact HC2.out.is _ _ υ) (by rw[A7];exact Ab) (by first | rfl | (rw[A7];rfl) | (rw[A7,A7])) (Ag _) ?_)
   (try simp only[Act.put])
   refine bodyPost_ret (v:=.agg (pw y)) (results_cell_row (p:=6) rfl _ _ (w.heap.size+1+1) 24 (pw y) (0,0) _ rfl (setRow_heap _ _ _ _ _ _ (by exact HC2.out.is _ (#[.int .u64 0,.int .u64 0,.int .u64 0,.int .u64 0]) υ)) Tryz.underlying24 rfl (by rw[A7];exact Ab)) rfl ⟨by rw[HQ.out],below_setRow HC2.out.old τ _⟩
  ·rw[decide_eq_false hq]at HMO
   have HQ:=Lib.hid (HR2.out ho hq);clear HR HR2 ho hq HMI;go_enter Tryz.func39,Tryz.ntmps39
   go_wp2_with (first | (refine Ae rfl 24 _ rfl (.pointer (some ⟨w.heap.size,0,none⟩)) (.agg (pw a)) rfl (Ad (by exact H0.out.is _ _ υ)) ?_) | (refine Ae rfl 24 _ rfl (.pointer (some ⟨w.heap.size+1,0,none⟩)) (.agg (pw b)) rfl (Ad (by exact H0.out.is _ _ υ)) ?_))
   refine(HPL.out _).mono ?_;rintro e w1 ⟨rfl,hb1⟩;have H1:=Lib.hid ((H0.out.below hb1).lay (pw s));have G1:=Lib.hid (heap_alloc_new w1 (.cells (#[.int .u64 0,.int .u64 0,.int .u64 0,.int .u64 0]) 24));clear hb1 H0 HPL
   go_upto_region 2 with(refine wpList_store_row rfl 24 _ _ rfl w1.heap.size (pw s) rfl rfl 24 (#[.int .u64 0,.int .u64 0,.int .u64 0,.int .u64 0]) (by exact G1.out) (by rw[A7];exact Ab) (by rw[A7];rfl) (Ag _) ?_)
   obtain⟨w2,hw2⟩:∃ w2,(w1.alloc (.cells (#[.int .u64 0,.int .u64 0,.int .u64 0,.int .u64 0]) 24)).setRow w1.heap.size (pw s)=w2:=⟨_,rfl⟩
   obtain⟨g7,hg7⟩:∃ g7,w1.heap.size=g7:=⟨_,rfl⟩
   rw[hw2,hg7]at H1;rw[hw2,hg7];clear hw2 hg7 G1;refine wp_region_quiet (C:=CRf w G m lo sq [(g7,pw s),(w.heap.size+1+1,#[.int .u64 0,.int .u64 0,.int .u64 0,.int .u64 0]),(w.heap.size+1,pw b),(w.heap.size,pw a)]) ω ω (H1.out.drew) ?_;simp only
   with_reducible refine q_val (.bool false) ω (fun _ _=>by kernel_rfl) ?_
   with_reducible refine q_val (.bool false) ω (fun _ _=>by kernel_rfl) ?_
   with_reducible refine Ac 24 (.tmp 7) (.pointer (some ⟨g7,0,none⟩)) (.agg (pw s)) rfl ω ω (fun _ c=>Ad (c.is _ _ υ)) ?_
   with_reducible refine q_val (.pointer (some ⟨G,0,none⟩)) ω (fun _ _=>by kernel_rfl) ?_
   with_reducible refine q_val (.pointer (some ⟨G,0,none⟩)) ω (fun _ _=>Ao (.tmp 18) _ rfl ω) ?_
   with_reducible refine Am (Instr.fieldAt 83 (.pointer (some ⟨G,0,none⟩)) 0) (.pointer (some ⟨G,0,none⟩)) ω ω (fun w' _=>(Cz G w').1) ?_
   with_reducible refine Ac 24 (.tmp 20) (.pointer (some ⟨G,0,none⟩)) (.agg (pw m)) rfl ω ω (fun _ c=>DV c.fld) ?_
   with_reducible refine Ah 56 #[.agg (pw s),.agg (pw m)] (.bool false) ω (fun _=>by kernel_rfl) (CRf.calls HMO.out) ?_
   with_reducible refine q_val (.bool false) ω (fun _ _=>by kernel_rfl) ?_
   with_reducible refine wpQuiet_nil ?_
   intro wx hC;have HC:=Lib.hid hC;clear hC H1 HMO;simp only[Act.put,List.setIfInBounds_toArray,List.set_cons_succ,List.set_cons_zero]
   go_wp2_with (first | (refine Ae rfl 24 _ rfl (.pointer (some ⟨g7,0,none⟩)) (.agg (pw s)) rfl (Ad (by exact HC.out.is _ _ υ)) ?_) | (refine wpList_store_row rfl 24 _ _ rfl (w.heap.size+1+1) (pw s) rfl rfl 24 (#[.int .u64 0,.int .u64 0,.int .u64 0,.int .u64 0]) (by exact HC.out.is _ _ υ) (by rw[A7];exact Ab) (by first | rfl | (rw[A7];rfl) | (rw[A7,A7])) (Ag _) ?_))
   (try simp only[Act.put])
   refine bodyPost_ret (v:=.agg (pw s)) (results_cell_row (p:=6) rfl _ _ (w.heap.size+1+1) 24 (pw s) (0,0) _ rfl (setRow_heap _ _ _ _ _ _ (by exact HC.out.is _ (#[.int .u64 0,.int .u64 0,.int .u64 0,.int .u64 0]) υ)) Tryz.underlying24 rfl (by rw[A7];exact Ab)) rfl ⟨by rw[HQ.out],below_setRow HC.out.old τ _⟩
theorem O5(G m lo sq a b:Nat)(hal:a<m)(hbl:b<m)(hm:m<2^256)(w:World)(hF:RFat w G m lo sq):Calls Tryz.prog 39 #[(.pointer (some ⟨G,0,none⟩)),.agg (pw a),.agg (pw b)] w fun e w'=>e=.returned (.agg (pw ((a+b)%m)))/\Below w.heap.size w w':=by
 have h:=VS G m lo sq a b (Nat.lt_trans hal hm) (Nat.lt_trans hbl hm) hm w hF;rw[A3u hal hbl hm]at h;exact h
open Go.RowKit
theorem Fb(t:Array Value):t=((List.range t.size).map fun i=>t.getD i undef).toArray:=by
 apply Array.ext
 ·simp
 ·intro i h1 h2
  simp[h1]
theorem A21(G m lo sq a b:Nat)(hal:a<2^256)(hbl:b<2^256)(hm:m<2^256)(w:World)(hF:RFat w G m lo sq):Calls Tryz.prog 35 #[(.pointer (some ⟨G,0,none⟩)),.agg (pw a),.agg (pw b)] w fun e w'=>e=.returned (.agg (pw (rS m a b)))/\Below w.heap.size w w':=by
 have H0:=Lib.hid (CRf.two hF a b);have HMO:=Lib.hid (fun wx=>FC a b τ τ wx);have HMI:=Lib.hid (fun wx=>EE a b τ τ wx);by_cases hq:b<=a
 ·have HQ:=Lib.hid (show pw (a+2^256 - b)=pw (rS m a b) from by
   unfold rS;rw[if_pos hq,Fs])
  rw[decide_eq_true hq]at HMO;obtain⟨y,hy⟩:∃ y,a+2^256 - b=y:=⟨_,rfl⟩
  rw[hy]at HMI HQ;obtain⟨z,hz⟩:∃ z,pw (rS m a b)=z:=⟨_,rfl⟩
  rw[hz]at HQ |-
  clear hF hal hbl hm hq hy hz;go_enter Tryz.func35,Tryz.ntmps35
  go_wp2_with (first | (refine Ae rfl 24 _ rfl (.pointer (some ⟨w.heap.size,0,none⟩)) (.agg (pw a)) rfl (Ad (by exact H0.out.is _ _ υ)) ?_) | (refine Ae rfl 24 _ rfl (.pointer (some ⟨w.heap.size+1,0,none⟩)) (.agg (pw b)) rfl (Ad (by exact H0.out.is _ _ υ)) ?_))
  refine(HMO.out _).mono ?_;rintro e w1 ⟨rfl,hb1⟩;have H1:=Lib.hid (H0.out.below hb1);clear hb1 H0 HMO
  go_wp2_with (first | (refine Ae rfl 24 _ rfl (.pointer (some ⟨w.heap.size,0,none⟩)) (.agg (pw a)) rfl (Ad (by exact H1.out.is _ _ υ)) ?_) | (refine Ae rfl 24 _ rfl (.pointer (some ⟨w.heap.size+1,0,none⟩)) (.agg (pw b)) rfl (Ad (by exact H1.out.is _ _ υ)) ?_))
  refine(HMI.out _).mono ?_;rintro e w2 ⟨rfl,hb2⟩;have H2:=Lib.hid (H1.out.below hb2);clear hb2 H1 HMI
  go_wp2_with (refine wpList_store_row rfl 24 _ _ rfl (w.heap.size+1+1) (pw y) rfl rfl 24 (#[.int .u64 0,.int .u64 0,.int .u64 0,.int .u64 0]) (by exact H2.out.is _ _ υ) (by rw[A7];exact Ab) (by first | rfl | (rw[A7];rfl) | (rw[A7,A7])) (Ag _) ?_)
  (try simp only[Act.put])
  refine bodyPost_ret (v:=.agg (pw y)) (results_cell_row (p:=6) rfl _ _ (w.heap.size+1+1) 24 (pw y) (0,0) _ rfl (setRow_heap _ _ _ _ _ _ (by exact H2.out.is _ (#[.int .u64 0,.int .u64 0,.int .u64 0,.int .u64 0]) υ)) Tryz.underlying24 rfl (by rw[A7];exact Ab)) rfl ⟨by rw[HQ.out],below_setRow H2.out.old τ _⟩
 ·have hd:a+2^256 - b<2^256:=by omega
  have HPL:=Lib.hid (fun wx=>Iq (a+2^256 - b) m hd hm wx);have HQ:=Lib.hid (show pw (a+2^256 - b+m)=pw (rS m a b) from by
   unfold rS;rw[if_neg hq,Fs])
  rw[decide_eq_false hq]at HMO;obtain⟨d,hd2⟩:∃ d,a+2^256 - b=d:=⟨_,rfl⟩
  rw[hd2]at HMI HPL HQ;obtain⟨y,hy⟩:∃ y,d+m=y:=⟨_,rfl⟩
  obtain⟨ov,hov⟩:∃ ov,decide (2^256<=d+m)=ov:=⟨_,rfl⟩
  rw[hov,hy]at HPL;rw[hy]at HQ;obtain⟨z,hz⟩:∃ z,pw (rS m a b)=z:=⟨_,rfl⟩
  rw[hz]at HQ |-
  clear hF hal hbl hm hq hy hz hd hd2 hov;go_enter Tryz.func35,Tryz.ntmps35
  go_wp2_with (first | (refine Ae rfl 24 _ rfl (.pointer (some ⟨w.heap.size,0,none⟩)) (.agg (pw a)) rfl (Ad (by exact H0.out.is _ _ υ)) ?_) | (refine Ae rfl 24 _ rfl (.pointer (some ⟨w.heap.size+1,0,none⟩)) (.agg (pw b)) rfl (Ad (by exact H0.out.is _ _ υ)) ?_))
  refine(HMO.out _).mono ?_;rintro e w1 ⟨rfl,hb1⟩;have H1:=Lib.hid (H0.out.below hb1);clear hb1 H0 HMO
  go_wp2_with fail
  refine Ct [.val 16 ((.agg (pw a))),.val 17 ((.agg (pw b))),.val 18 ((.agg (pw d))),.val 19 ((.pointer (some ⟨G,0,none⟩))),.val 20 ((.pointer (some ⟨G,0,none⟩))),.val 21 ((.pointer (some ⟨G,0,none⟩))),.val 22 ((.agg (pw m))),.val 23 ((.tuple #[.agg (pw y),.bool ov])),.val 15 ((.tuple #[.agg (pw y),.bool ov])),.val 24 ((.agg (pw y))),.val 25 ((.bool ov)),.blk 7 24,.laid 7 24,.val 8 ((.bool ov))] [7] (fun p=>pw y) (fun i=>i) ω ω (by exact⟨trivial,trivial,trivial,trivial,trivial,trivial,trivial,trivial,trivial,trivial,trivial,(by simp[Sp.ok]),(by simp[Sp.ok]),trivial,trivial⟩) (by intro p hp q hq hne;simp only[List.mem_cons,List.not_mem_nil,or_false]at hp hq;exact absurd (hp.trans hq.symm) hne) ?_ ?_
  ·refine⟨?_,?_,?_,?_,?_,?_,?_,?_,?_,?_,?_,?_,?_,?_,trivial⟩
   ·intro ac wx hC hsz hK
    have h0:ac.tmps.getD 4 undef=(.pointer (some ⟨w.heap.size,0,none⟩)):=hK.1 4 ω;exact Ak 24 (.tmp 4) ((.pointer (some ⟨w.heap.size,0,none⟩))) ((.agg (pw a))) rfl rfl ω h0 (Ad ((H1.out.below hC.1).is _ _ υ)) hC ω (by rw[hsz];exact of_decide_eq_true ω) rfl
   ·intro ac wx hC hsz hK
    have h0:ac.tmps.getD 5 undef=(.pointer (some ⟨w.heap.size+1,0,none⟩)):=hK.1 5 ω;exact Ak 24 (.tmp 5) ((.pointer (some ⟨w.heap.size+1,0,none⟩))) ((.agg (pw b))) rfl rfl ω h0 (Ad ((H1.out.below hC.1).is _ _ υ)) hC ω (by rw[hsz];exact of_decide_eq_true ω) rfl
   ·intro ac wx hC hsz hK
    have h0:ac.tmps.getD 16 undef=(.agg (pw a)):=hK.2 ⟨0,.data⟩ υ rfl _ rfl;have h1:ac.tmps.getD 17 undef=(.agg (pw b)):=hK.2 ⟨1,.data⟩ υ rfl _ rfl;refine Bb 57 #[ac.tmps.getD 16 undef,ac.tmps.getD 17 undef] ((.agg (pw d))) rfl ω ω ?_ hC ω (by rw[hsz];exact of_decide_eq_true ω) rfl;rw[h0,h1];exact HMI.out wx
   ·intro ac wx hC hsz hK
    have h0:ac.tmps.getD 0 undef=(.pointer (some ⟨G,0,none⟩)):=hK.1 0 ω;exact Ap ((.pointer (some ⟨G,0,none⟩))) rfl ω (by rw[<- h0];kernel_rfl) hC ω (by rw[hsz];exact of_decide_eq_true ω) rfl
   ·intro ac wx hC hsz hK
    have h0:ac.tmps.getD 19 undef=(.pointer (some ⟨G,0,none⟩)):=hK.2 ⟨3,.data⟩ υ rfl _ rfl;exact Ap ((.pointer (some ⟨G,0,none⟩))) rfl ω (Ao (.tmp 19) _ rfl h0) hC ω (by rw[hsz];exact of_decide_eq_true ω) rfl
   ·intro ac wx hC hsz hK
    have h0:ac.tmps.getD 20 undef=(.pointer (some ⟨G,0,none⟩)):=hK.2 ⟨4,.data⟩ υ rfl _ rfl;refine Be (Instr.fieldAt 83 (ac.tmps.getD 20 undef) 0) ((.pointer (some ⟨G,0,none⟩))) rfl ω ω ?_ hC ω (by rw[hsz];exact of_decide_eq_true ω) rfl;rw[h0];exact(Cz G wx).1
   ·intro ac wx hC hsz hK
    have h0:ac.tmps.getD 21 undef=(.pointer (some ⟨G,0,none⟩)):=hK.2 ⟨5,.data⟩ υ rfl _ rfl;exact Ak 24 (.tmp 21) ((.pointer (some ⟨G,0,none⟩))) ((.agg (pw m))) rfl rfl ω h0 (DV (H1.out.below hC.1).fld) hC ω (by rw[hsz];exact of_decide_eq_true ω) rfl
   ·intro ac wx hC hsz hK
    have h0:ac.tmps.getD 18 undef=(.agg (pw d)):=hK.2 ⟨2,.data⟩ υ rfl _ rfl;have h1:ac.tmps.getD 22 undef=(.agg (pw m)):=hK.2 ⟨6,.data⟩ υ rfl _ rfl;refine Bb 58 #[ac.tmps.getD 18 undef,ac.tmps.getD 22 undef] ((.tuple #[.agg (pw y),.bool ov])) rfl ω ω ?_ hC ω (by rw[hsz];exact of_decide_eq_true ω) rfl;rw[h0,h1];exact HPL.out wx
   ·intro ac wx hC hsz hK
    have h0:ac.tmps.getD 23 undef=(.tuple #[.agg (pw y),.bool ov]):=hK.2 ⟨7,.data⟩ υ rfl _ rfl;exact Ap ((.tuple #[.agg (pw y),.bool ov])) rfl ω (by rw[<- h0];kernel_rfl) hC ω (by rw[hsz];exact of_decide_eq_true ω) rfl
   ·intro ac wx hC hsz hK
    have h0:ac.tmps.getD 15 undef=(.tuple #[.agg (pw y),.bool ov]):=hK.2 ⟨8,.data⟩ υ rfl _ rfl;refine Be (Instr.extract (ac.tmps.getD 15 undef) 0) ((.agg (pw y))) rfl ω ω ?_ hC ω (by rw[hsz];exact of_decide_eq_true ω) rfl;rw[h0];exact ω
   ·intro ac wx hC hsz hK
    have h0:ac.tmps.getD 15 undef=(.tuple #[.agg (pw y),.bool ov]):=hK.2 ⟨8,.data⟩ υ rfl _ rfl;refine Be (Instr.extract (ac.tmps.getD 15 undef) 1) ((.bool ov)) rfl ω ω ?_ hC ω (by rw[hsz];exact of_decide_eq_true ω) rfl;rw[h0];exact ω
   ·intro ac wx hC hsz hK
    exact Cx 24 (#[.int .u64 0,.int .u64 0,.int .u64 0,.int .u64 0]) rfl ω ω hC (by rw[A7];rfl) (by rw[hsz];exact of_decide_eq_true ω) rfl
   ·intro ac wx hC hsz hK
    have h0:ac.tmps.getD 24 undef=(.agg (pw y)):=hK.2 ⟨9,.data⟩ υ rfl _ rfl;exact Br (p:=7) 24 (.tmp 7) (.tmp 24) _ rfl rfl ω rfl h0 υ (hK.2 ⟨11,.data⟩ υ rfl _ rfl) (fun D cs h3 h4=>BS (h4.trans (A7 _)) h3) hC rfl
   ·intro ac wx hC hsz hK
    have h0:ac.tmps.getD 25 undef=(.bool ov):=hK.2 ⟨10,.data⟩ υ rfl _ rfl;exact Ap ((.bool ov)) rfl ω (by rw[<- h0];kernel_rfl) hC ω (by rw[hsz];exact of_decide_eq_true ω) rfl
  intro f1 w5 hb5 hap hf5;obtain⟨D7,s7,-,r7⟩:=hf5 12 _ rfl;have H5:=Lib.hid ((H1.out.below hb5).cons r7);clear hf5 hap hb5 H1 HMI HPL r7;generalize hAct:Aj _ _ _=A1 at *;have s7':A1.tmps.getD 7 undef=.pointer (some ⟨D7,0,none⟩):=s7;have s6:A1.tmps.getD 6 undef=.pointer (some ⟨w.heap.size+1+1,0,none⟩):=by subst hAct;kernel_rfl
  have hsz:A1.tmps.size=27:=by rw[<- hAct,Az];rfl
  have hdf:A1.defers=[]:=by subst hAct;kernel_rfl
  clear hAct s7 f1;obtain⟨u0,t0⟩:∃ u,A1.tmps.getD 0 undef=u:=⟨_,rfl⟩
  obtain⟨u1,t1⟩:∃ u,A1.tmps.getD 1 undef=u:=⟨_,rfl⟩
  obtain⟨u2,t2⟩:∃ u,A1.tmps.getD 2 undef=u:=⟨_,rfl⟩
  obtain⟨u3,t3⟩:∃ u,A1.tmps.getD 3 undef=u:=⟨_,rfl⟩
  obtain⟨u4,t4⟩:∃ u,A1.tmps.getD 4 undef=u:=⟨_,rfl⟩
  obtain⟨u5,t5⟩:∃ u,A1.tmps.getD 5 undef=u:=⟨_,rfl⟩
  obtain⟨u8,t8⟩:∃ u,A1.tmps.getD 8 undef=u:=⟨_,rfl⟩
  obtain⟨u9,t9⟩:∃ u,A1.tmps.getD 9 undef=u:=⟨_,rfl⟩
  obtain⟨u10,t10⟩:∃ u,A1.tmps.getD 10 undef=u:=⟨_,rfl⟩
  obtain⟨u11,t11⟩:∃ u,A1.tmps.getD 11 undef=u:=⟨_,rfl⟩
  obtain⟨u12,t12⟩:∃ u,A1.tmps.getD 12 undef=u:=⟨_,rfl⟩
  obtain⟨u13,t13⟩:∃ u,A1.tmps.getD 13 undef=u:=⟨_,rfl⟩
  obtain⟨u14,t14⟩:∃ u,A1.tmps.getD 14 undef=u:=⟨_,rfl⟩
  obtain⟨u15,t15⟩:∃ u,A1.tmps.getD 15 undef=u:=⟨_,rfl⟩
  obtain⟨u16,t16⟩:∃ u,A1.tmps.getD 16 undef=u:=⟨_,rfl⟩
  obtain⟨u17,t17⟩:∃ u,A1.tmps.getD 17 undef=u:=⟨_,rfl⟩
  obtain⟨u18,t18⟩:∃ u,A1.tmps.getD 18 undef=u:=⟨_,rfl⟩
  obtain⟨u19,t19⟩:∃ u,A1.tmps.getD 19 undef=u:=⟨_,rfl⟩
  obtain⟨u20,t20⟩:∃ u,A1.tmps.getD 20 undef=u:=⟨_,rfl⟩
  obtain⟨u21,t21⟩:∃ u,A1.tmps.getD 21 undef=u:=⟨_,rfl⟩
  obtain⟨u22,t22⟩:∃ u,A1.tmps.getD 22 undef=u:=⟨_,rfl⟩
  obtain⟨u23,t23⟩:∃ u,A1.tmps.getD 23 undef=u:=⟨_,rfl⟩
  obtain⟨u24,t24⟩:∃ u,A1.tmps.getD 24 undef=u:=⟨_,rfl⟩
  obtain⟨u25,t25⟩:∃ u,A1.tmps.getD 25 undef=u:=⟨_,rfl⟩
  obtain⟨u26,t26⟩:∃ u,A1.tmps.getD 26 undef=u:=⟨_,rfl⟩
  obtain⟨tm,df⟩:=A1;simp only at *;have hLt:=Fb tm;rw[hsz]at hLt;simp only[List.range,List.range.loop,List.map]at hLt;rw[t0,t1,t2,t3,t4,t5,s6,s7',t8,t9,t10,t11,t12,t13,t14,t15,t16,t17,t18,t19,t20,t21,t22,t23,t24,t25,t26]at hLt;subst hLt hdf;clear t0 t1 t2 t3 t4 t5 s6 s7' t8 t9 t10 t11 t12 t13 t14 t15 t16 t17 t18 t19 t20 t21 t22 t23 t24 t25 t26 hsz
  go_wp2_with (first | (refine Ae rfl 24 _ rfl (.pointer (some ⟨D7,0,none⟩)) (.agg (pw y)) rfl (Ad (by exact H5.out.is _ _ υ)) ?_) | (refine wpList_store_row rfl 24 _ _ rfl (w.heap.size+1+1) (pw y) rfl rfl 24 (#[.int .u64 0,.int .u64 0,.int .u64 0,.int .u64 0]) (by exact H5.out.is _ _ υ) (by rw[A7];exact Ab) (by first | rfl | (rw[A7];rfl) | (rw[A7,A7])) (Ag _) ?_))
  (try simp only[Act.put])
  refine bodyPost_ret (v:=.agg (pw y)) (results_cell_row (p:=6) rfl _ _ (w.heap.size+1+1) 24 (pw y) (0,0) _ rfl (setRow_heap _ _ _ _ _ _ (by exact H5.out.is _ (#[.int .u64 0,.int .u64 0,.int .u64 0,.int .u64 0]) υ)) Tryz.underlying24 rfl (by rw[A7];exact Ab)) rfl ⟨by rw[HQ.out],below_setRow H5.out.old τ _⟩
end Go.Proofs.YtphafjbajlcbnaaGreat
