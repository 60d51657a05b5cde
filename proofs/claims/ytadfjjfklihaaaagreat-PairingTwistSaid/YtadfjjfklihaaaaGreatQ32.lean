/- What the reference's Add comes to. (Cut to what is reached, written closely: FRMin · RFld · RPt · RAd.) -/
import Derived.Test.YtadfjjfklihaaaaGreatQ31
import Derived.Test.YtadfjjfklihaaaaGreatP19
import Derived.Test.YtadfjjfklihaaaaGreatQ24
set_option linter.all false
set_option maxRecDepth 100000
set_option maxHeartbeats 8000000
namespace Go.Proofs.YtadfjjfklihaaaaGreat
open Go.RowKit
theorem minusW_any(a b:Nat)(ha:a<2^256)(hb:b<2^256)(w:World):Calls Tryz.prog 100 #[.agg (pw a),.agg (pw b)] w fun e w'=>e=.returned (.agg (pw (a+2^256 - b)))/\Below w.heap.size w w':=by
 have HAB:=Lib.hid (And.intro ha hb);have HR:=Lib.hid (show ∃ w0,((w.alloc (.cells (pw a) 24)).alloc (.cells (pw b) 24)).alloc (.cells (#[.int .u64 0,.int .u64 0,.int .u64 0,.int .u64 0]) 24)=w0/\W3 w (mixN (a+2^256 - b) a 0) (pN b) w0 from⟨_,rfl,by rw[mix_zero];exact W3.start w a b⟩);clear ha hb;go_enter Tryz.func100,Tryz.ntmps100
 go_wp2_with fail
 obtain⟨w0,hw0,h0⟩:=HR.out;rw[hw0];have H0:=Lib.hid h0;clear hw0 h0 HR
 go_loopw [5,6] (fun ov iv wr=>∃ k c:Nat,k<=4/\c=bwN a b k/\ov=.int .u64 c/\iv=.int .i64 k/\Hid (W3 w (mixN (a+2^256 - b) a k) (pN b) wr)) (fun _ iv _=>4 - (intOf iv).toNat)
 case atStart=>exact⟨0,0,by omega,(bw_zero _ _).symm,rfl,rfl,H0⟩
 case round =>
  obtain⟨k,c,hk,hc,rfl,rfl,H⟩:=hrel;clear H0;have hk0:(0:Int)<=k:=by omega
  by_cases hlt:k<4
  ·have hk4:(k:Int)<4:=by omega
   have ca:=H.out.ca k hlt;have cb:=H.out.cb k hlt;have fo:=frozen_of_row wr w.heap.size k _ _ H.out.ra;rw[show mixN (a+2^256 - b) a k k=pN a k from by unfold mixN;rw[if_neg (by omega)]]at ca;obtain⟨hst,hc1,hd1⟩:=bw_step a b k HAB.out.1 HAB.out.2 hlt;have hpl:=pN_le a k;have hql:=pN_le b k;have hsl:=pN_le (a+2^256 - b) k;have hck:bwN a b k=c:=hc.symm;obtain⟨d,hd⟩:∃ d,bwN a b (k+1)=d:=⟨_,rfl⟩
   obtain⟨p,hp⟩:∃ p,pN a k=p:=⟨_,rfl⟩
   obtain⟨q,hq⟩:∃ q,pN b k=q:=⟨_,rfl⟩
   obtain⟨s,hs⟩:∃ s,pN (a+2^256 - b) k=s:=⟨_,rfl⟩
   obtain⟨x,hx⟩:∃ x:Nat,IntKind.u64.wrap ((p:Int) - (q:Int))=(x:Int):=⟨(((p:Int) - (q:Int))%18446744073709551616).toNat,by rw[IntKind.wrap_u64];omega⟩
   rw[hck,hd,hp,hq,hs]at hst;rw[hck]at hc1;rw[hd]at hd1;rw[hp]at ca hpl;rw[hq]at cb hql;rw[hs]at hsl;have hxw:=hx;rw[IntKind.wrap_u64]at hxw;have hY:IntKind.u64.wrap ((x:Int) - (c:Int))=(s:Int):=by rw[IntKind.wrap_u64];omega
   have HN:=Lib.hid (And.intro hd hs);have HK:=Lib.hid hlt;by_cases h1:p<q
   ·have h1':(p:Int)<(q:Int):=by omega
    obtain rfl:d=1:=by omega
    clear hc hk hst hc1 hd1 hpl hql hsl hck hd hp hq hs hxw h1 hlt
    go_wp2_with fail
    go_region
    go_wp2_with fail
    go_region
    go_wp2_with fail
    go_roundw
    case rel=>exact⟨k+1,1,by have:=HK.out;omega,HN.out.1.symm,rfl,by go_num,Lib.hid (H.out.drew.drew.put HK.out HN.out.2.symm)⟩
    case measure=>have:=HK.out;simp[intOf];omega
   ·have h1':¬(p:Int)<(q:Int):=by omega
    by_cases h2:p=q
    ·subst h2
     have hcc:c=0\/c=1:=by omega
     rcases hcc with rfl | rfl
     ·obtain rfl:d=0:=by omega
      obtain rfl:s=0:=by omega
      clear hc hk hst hc1 hd1 hpl hql hsl hck hd hp hq hs hxw h1 hlt
      go_wp2_with fail
      go_region
      go_wp2_with fail
      go_region
      go_wp2_with fail
      go_roundw
      case rel=>exact⟨k+1,0,by have:=HK.out;omega,HN.out.1.symm,rfl,by go_num,Lib.hid (H.out.drew.drew.put HK.out HN.out.2.symm)⟩
      case measure=>have:=HK.out;simp[intOf];omega
     ·obtain rfl:d=1:=by omega
      obtain rfl:s=18446744073709551615:=by omega
      clear hc hk hst hc1 hd1 hpl hql hsl hck hd hp hq hs hxw h1 hlt
      go_wp2_with fail
      go_region
      go_wp2_with fail
      go_region
      go_wp2_with fail
      go_roundw
      case rel=>exact⟨k+1,1,by have:=HK.out;omega,HN.out.1.symm,rfl,by go_num,Lib.hid (H.out.drew.drew.put HK.out (by rw[HN.out.2];kernel_rfl))⟩
      case measure=>have:=HK.out;simp[intOf];omega
    ·have h2':¬(p:Int)=(q:Int):=by omega
     obtain rfl:d=0:=by omega
     have HIA:=Lib.hid (show ∀ wx,(Instr.indexAt 24 (.pointer (some ⟨w.heap.size,0,none⟩)) (.int .i64 k)).run Tryz.prog wx=.ok (.pointer (some ⟨w.heap.size,k,none⟩)) wx from fun wx=>by go_simp);have HIB:=Lib.hid (show ∀ wx,(Instr.indexAt 24 (.pointer (some ⟨w.heap.size+1,0,none⟩)) (.int .i64 k)).run Tryz.prog wx=.ok (.pointer (some ⟨w.heap.size+1,k,none⟩)) wx from fun wx=>by go_simp);have HLA:=Lib.hid (show ∀ wx,W3 w (mixN (a+2^256 - b) a k) (pN b) wx->(Instr.loadAt 22 (.pointer (some ⟨w.heap.size,k,none⟩))).run Tryz.prog wx=.ok (.int .u64 (p:Nat)) wx from fun wx c=>by
      have hc:=c.ca k hlt;rw[show mixN (a+2^256 - b) a k k=pN a k from by unfold mixN;rw[if_neg (by omega)],hp]at hc;clear hk hst hlt hp
      go_simp)
     have HLB:=Lib.hid (show ∀ wx,W3 w (mixN (a+2^256 - b) a k) (pN b) wx->(Instr.loadAt 22 (.pointer (some ⟨w.heap.size+1,k,none⟩))).run Tryz.prog wx=.ok (.int .u64 (q:Nat)) wx from fun wx c=>by
      have hc:=c.cb k hlt;rw[hq]at hc;clear hk hst hlt hq
      go_simp)
     have HLS:=Lib.hid (show ∀ wx,(binOp BinOp.lss 22 (.int .u64 (p:Nat)) (.int .u64 (q:Nat))).run Tryz.prog wx=.ok (.bool false) wx from fun wx=>by clear hst;go_simp);have HEQ:=Lib.hid (show ∀ wx,(binOp BinOp.eql 22 (.int .u64 (p:Nat)) (.int .u64 (q:Nat))).run Tryz.prog wx=.ok (.bool false) wx from fun wx=>by clear hst;go_simp);clear hc hk hst hc1 hd1 hpl hql hsl hck hd hp hq hs hxw hlt
     go_wp2_with fail
     go_region
     go_wp2_with fail
     refine wp_region_quiet (C:=W3 w (mixN (a+2^256 - b) a k) (pN b)) (by kernel_rfl) (by kernel_rfl) (H.out.drew.drew) ?_;simp only
     with_reducible refine q_val (.int .i64 (k:Nat)) (by kernel_rfl) (fun _ _=>by kernel_rfl) ?_
     with_reducible refine q_sem2 (Instr.indexAt 24 (.pointer (some ⟨w.heap.size,0,none⟩)) (.int .i64 (k:Nat))) (.pointer (some ⟨w.heap.size,k,none⟩)) (by kernel_rfl) (by kernel_rfl) (fun w' _=>HIA.out w') ?_
     with_reducible refine q_load 22 (.tmp 22) (.pointer (some ⟨w.heap.size,k,none⟩)) (.int .u64 (p:Nat)) rfl (by kernel_rfl) (by kernel_rfl) (fun _ c=>HLA.out _ c) ?_
     with_reducible refine q_val (.int .i64 (k:Nat)) (by kernel_rfl) (fun _ _=>by kernel_rfl) ?_
     with_reducible refine q_sem2 (Instr.indexAt 24 (.pointer (some ⟨w.heap.size+1,0,none⟩)) (.int .i64 (k:Nat))) (.pointer (some ⟨w.heap.size+1,k,none⟩)) (by kernel_rfl) (by kernel_rfl) (fun w' _=>HIB.out w') ?_
     with_reducible refine q_load 22 (.tmp 25) (.pointer (some ⟨w.heap.size+1,k,none⟩)) (.int .u64 (q:Nat)) rfl (by kernel_rfl) (by kernel_rfl) (fun _ c=>HLB.out _ c) ?_
     with_reducible refine q_bin .lss 22 _ _ 22 (.int .u64 (p:Nat)) (.int .u64 (q:Nat)) (.bool false) rfl (by kernel_rfl) (by kernel_rfl) (by kernel_rfl) (fun _=>by kernel_rfl) (fun w'=>HLS.out w') ?_
     with_reducible refine q_val (.bool false) (by kernel_rfl) (fun _ _=>by kernel_rfl) ?_
     with_reducible refine q_val (.int .i64 (k:Nat)) (by kernel_rfl) (fun _ _=>by kernel_rfl) ?_
     with_reducible refine q_sem2 (Instr.indexAt 24 (.pointer (some ⟨w.heap.size,0,none⟩)) (.int .i64 (k:Nat))) (.pointer (some ⟨w.heap.size,k,none⟩)) (by kernel_rfl) (by kernel_rfl) (fun w' _=>HIA.out w') ?_
     with_reducible refine q_load 22 (.tmp 30) (.pointer (some ⟨w.heap.size,k,none⟩)) (.int .u64 (p:Nat)) rfl (by kernel_rfl) (by kernel_rfl) (fun _ c=>HLA.out _ c) ?_
     with_reducible refine q_val (.int .i64 (k:Nat)) (by kernel_rfl) (fun _ _=>by kernel_rfl) ?_
     with_reducible refine q_sem2 (Instr.indexAt 24 (.pointer (some ⟨w.heap.size+1,0,none⟩)) (.int .i64 (k:Nat))) (.pointer (some ⟨w.heap.size+1,k,none⟩)) (by kernel_rfl) (by kernel_rfl) (fun w' _=>HIB.out w') ?_
     with_reducible refine q_load 22 (.tmp 33) (.pointer (some ⟨w.heap.size+1,k,none⟩)) (.int .u64 (q:Nat)) rfl (by kernel_rfl) (by kernel_rfl) (fun _ c=>HLB.out _ c) ?_
     with_reducible refine q_bin .eql 22 _ _ 22 (.int .u64 (p:Nat)) (.int .u64 (q:Nat)) (.bool false) rfl (by kernel_rfl) (by kernel_rfl) (by kernel_rfl) (fun _=>by kernel_rfl) (fun w'=>HEQ.out w') ?_
     with_reducible refine q_val (.bool false) (by kernel_rfl) (fun _ _=>by kernel_rfl) ?_
     with_reducible refine q_skip (by kernel_rfl) ?_
     with_reducible refine q_skip (by kernel_rfl) ?_
     with_reducible refine q_val (.bool false) (by kernel_rfl) (fun _ _=>by kernel_rfl) ?_
     with_reducible refine q_val (.bool false) (by kernel_rfl) (fun _ _=>by kernel_rfl) ?_
     with_reducible refine wpQuiet_nil ?_
     intro wx hC;have HC:=Lib.hid hC;clear hC H ca cb fo;simp only[Act.put,List.setIfInBounds_toArray,List.set_cons_succ,List.set_cons_zero];have fo:=frozen_of_row wx w.heap.size k _ _ HC.out.ra;have ca:=HC.out.ca k HK.out
     go_wp2_with fail
     go_roundw
     case rel=>exact⟨k+1,0,by have:=HK.out;omega,HN.out.1.symm,rfl,by go_num,Lib.hid (HC.out.put HK.out HN.out.2.symm)⟩
     case measure=>have:=HK.out;simp[intOf];omega
  ·obtain rfl:k=4:=by omega
   have HF:=Lib.hid H.out.full;clear hc hk0
   go_wp2_with (first | (refine wpList_ld rfl 24 _ rfl (.pointer (some ⟨w.heap.size,0,none⟩)) (.agg (pw (a+2^256 - b))) rfl (ld_pw (by exact HF.out.1)) ?_) | (refine wpList_store_row rfl 24 _ _ rfl (w.heap.size+1+1) (pw (a+2^256 - b)) rfl rfl 24 (#[.int .u64 0,.int .u64 0,.int .u64 0,.int .u64 0]) (by exact HF.out.2) (by rw[pw_size];exact infoW4) (by rw[pw_size];rfl) (pw_one _) ?_))
   (try simp only[Act.put])
   refine bodyPost_ret (v:=.agg (pw (a+2^256 - b))) (results_cell_row (p:=4) rfl _ _ (w.heap.size+1+1) 24 (pw (a+2^256 - b)) (0,0) _ rfl (setRow_heap _ _ _ _ _ _ HF.out.2) Tryz.underlying24 rfl (by rw[pw_size];exact infoW4)) rfl ⟨rfl,below_setRow H.out.old (by omega) _⟩
open Go.RowKit
def rfw(m lo sq j:Nat):Nat:=if j<4 then pN m j else if j<12 then qN m (j - 4)else if j=12 then lo else pN sq (j - 13)
def RFat(w:World)(G m lo sq:Nat):Prop:=w.heap[G]?=some (.cells (ar .u64 17 fun j=>((rfw m lo sq j:Nat):Int)) 109 (0,0))
theorem RFat.less{w:World}{G m lo sq:Nat}(h:RFat w G m lo sq):G<w.heap.size:=(Array.getElem?_eq_some_iff.1 h).1
theorem RFat.below{w w':World}{G m lo sq:Nat}(h:RFat w G m lo sq)(hb:Below w.heap.size w w'):RFat w' G m lo sq:=(hb.block _ h.less).trans h
theorem RFat.cell{w:World}{G m lo sq:Nat}(h:RFat w G m lo sq)(j:Nat)(hj:j<17):w.cell? ⟨G,j,none⟩=some (.int .u64 (rfw m lo sq j:Nat)):=(cell_of_row _ _ j _ _ _ h).trans (ar_at _ _ _ _ hj)
theorem rfw_m(m lo sq j:Nat)(h:j<4):rfw m lo sq (0+j)=pN m j:=by unfold rfw;rw[Nat.zero_add,if_pos h]
theorem rfw_q(m lo sq j:Nat)(h:j<8):rfw m lo sq (4+j)=qN m j:=by unfold rfw;rw[if_neg (by omega),if_pos (by omega),show 4+j - 4=j by omega]
theorem rfw_lo(m lo sq:Nat):rfw m lo sq 12=lo:=rfl
theorem rfw_sq(m lo sq j:Nat):rfw m lo sq (13+j)=pN sq j:=by unfold rfw;rw[if_neg (by omega),if_neg (by omega),if_neg (by omega),show 13+j - 13=j by omega]
theorem ld_rm{w:World}{G m lo sq:Nat}(h:RFat w G m lo sq):(Instr.loadAt 24 (.pointer (some ⟨G,0,none⟩))).run Tryz.prog w=.ok (.agg (pw m)) w:=by
 rw[pw_ar];simp only[Instr.loadAt,Instr.sureAddr,Sem.run_bind,Sem.run_pure,Result.andThen_ok,run_loadVar_part w G 0 4 24 .u64 (fun j=>((pN m j:Nat):Int)) _ (fun j hj=>(h.cell (0+j) (by omega)).trans (by rw[rfw_m _ _ _ _ hj])) Tryz.underlying24 rfl infoW4]
theorem ld_rsq{w:World}{G m lo sq:Nat}(h:RFat w G m lo sq):(Instr.loadAt 24 (.pointer (some ⟨G,13,none⟩))).run Tryz.prog w=.ok (.agg (pw sq)) w:=by
 rw[pw_ar];simp only[Instr.loadAt,Instr.sureAddr,Sem.run_bind,Sem.run_pure,Result.andThen_ok,run_loadVar_part w G 13 4 24 .u64 (fun j=>((pN sq j:Nat):Int)) _ (fun j hj=>(h.cell (13+j) (by omega)).trans (by rw[rfw_sq])) Tryz.underlying24 rfl infoW4]
theorem rf_at(G:Nat)(w:World):(Instr.fieldAt 109 (.pointer (some ⟨G,0,none⟩)) 0).run Tryz.prog w=.ok (.pointer (some ⟨G,0,none⟩)) w/\(Instr.fieldAt 109 (.pointer (some ⟨G,0,none⟩)) 1).run Tryz.prog w=.ok (.pointer (some ⟨G,4,none⟩)) w/\(Instr.fieldAt 109 (.pointer (some ⟨G,0,none⟩)) 2).run Tryz.prog w=.ok (.pointer (some ⟨G,12,none⟩)) w/\(Instr.fieldAt 109 (.pointer (some ⟨G,0,none⟩)) 3).run Tryz.prog w=.ok (.pointer (some ⟨G,13,none⟩)) w:=by
 refine⟨?_,?_,?_,?_⟩ <;> kernel_rfl
theorem RFat.lo{w:World}{G m lo sq:Nat}(h:RFat w G m lo sq)(l':Nat):RFat (w.setCell ⟨G,12,none⟩ (.int .u64 (l':Nat))) G m l' sq:=by
 refine(heap_setCell_same _ _ _ _ _ _ h).trans ?_;rw[ar_set _ _ _ _ _ (by omega)];congr 2
theorem sq_upd(m lo sq y:Nat):ar .u64 17 (updI (updI (updI (updI (fun j=>((rfw m lo sq j:Nat):Int)) 13 ((pN y 0:Nat):Int)) (13+1) ((pN y 1:Nat):Int)) (13+1+1) ((pN y 2:Nat):Int)) (13+1+1+1) ((pN y 3:Nat):Int))=ar .u64 17 fun j=>((rfw m lo y j:Nat):Int):=by kernel_rfl
theorem RFat.sq{w:World}{G m lo sq:Nat}(h:RFat w G m lo sq)(y:Nat):RFat (w.setCells G 13 (pw y).toList) G m lo y:=by
 unfold RFat;rw[pw_list];simp only[World.setCells];refine(heap_setCell_same _ _ _ _ _ _ (heap_setCell_same _ _ _ _ _ _ (heap_setCell_same _ _ _ _ _ _ (heap_setCell_same _ _ _ _ _ _ h)))).trans ?_;rw[ar_set _ _ _ _ _ (by omega),ar_set _ _ _ _ _ (by omega),ar_set _ _ _ _ _ (by omega),ar_set _ _ _ _ _ (by omega),sq_upd]
theorem RFat.there{w:World}{G m lo sq:Nat}(h:RFat w G m lo sq)(y:Nat):w.there G 13 (pw y).size:=by
 intro j hj;rw[pw_size]at hj;exact⟨by rw[h.cell (13+j) (by omega)];rfl,frozen_of_row _ _ _ _ _ h⟩
structure CRf (w:World) (G m lo sq:Nat) (L:List (Nat × Array Value)) (wx:World):Prop where
 old:Below w.heap.size w wx
 fld:RFat wx G m lo sq
 hG:G<w.heap.size
 rows:∀ p∈L,wx.heap[p.1]?=some (.cells p.2 24 (0,0))
theorem CRf.is{w wx:World}{G m lo sq:Nat}{L:List (Nat × Array Value)}(c:CRf w G m lo sq L wx)(g:Nat)(cs:Array Value)(hm:(g,cs)∈L):wx.heap[g]?=some (.cells cs 24 (0,0)):=c.rows _ hm
theorem CRf.below{w wx w':World}{G m lo sq:Nat}{L:List (Nat × Array Value)}(c:CRf w G m lo sq L wx)(hb:Below wx.heap.size wx w'):CRf w G m lo sq L w' :=
 ⟨c.old.trans (hb.mono c.old.size),c.fld.below hb,c.hG,fun p hp=>(hb.block _ (Array.getElem?_eq_some_iff.1 (c.rows p hp)).1).trans (c.rows p hp)⟩
theorem CRf.drew{w wx:World}{G m lo sq:Nat}{L:List (Nat × Array Value)}(c:CRf w G m lo sq L wx):CRf w G m lo sq L wx.drew:=c.below (Below.drew (Below.refl _ _))
theorem CRf.new{w wx:World}{G m lo sq:Nat}{L:List (Nat × Array Value)}(c:CRf w G m lo sq L wx)(cs:Array Value):CRf w G m lo sq ((wx.heap.size,cs)::L) (wx.alloc (.cells cs 24)):=by
 have h:=c.below ((Below.refl _ _).alloc (Nat.le_refl _) (.cells cs 24));refine⟨h.old,h.fld,h.hG,fun p hp=>?_⟩;rcases List.mem_cons.1 hp with rfl | hp
 ·exact heap_alloc_new _ _
 ·exact h.rows p hp
theorem CRf.cons{w wx:World}{G m lo sq d:Nat}{L:List (Nat × Array Value)}{cs:Array Value}(c:CRf w G m lo sq L wx)(hr:wx.heap[d]?=some (.cells cs 24 (0,0))):CRf w G m lo sq ((d,cs)::L) wx:=by
 refine⟨c.old,c.fld,c.hG,fun p hp=>?_⟩;rcases List.mem_cons.1 hp with rfl | hp
 ·exact hr
 ·exact c.rows p hp
theorem CRf.start{w:World}{G m lo sq:Nat}(h:RFat w G m lo sq):CRf w G m lo sq [] w:=⟨Below.refl _ _,h,h.less,fun p hp=>by cases hp⟩
theorem CRf.two{w:World}{G m lo sq:Nat}(h:RFat w G m lo sq)(a b:Nat):CRf w G m lo sq [(w.heap.size+1+1,#[.int .u64 0,.int .u64 0,.int .u64 0,.int .u64 0]),(w.heap.size+1,pw b),(w.heap.size,pw a)] (((w.alloc (.cells (pw a) 24)).alloc (.cells (pw b) 24)).alloc (.cells (#[.int .u64 0,.int .u64 0,.int .u64 0,.int .u64 0]) 24)):=by
 have:=(((CRf.start h).new (pw a)).new (pw b)).new (#[.int .u64 0,.int .u64 0,.int .u64 0,.int .u64 0]);rwa [World.size_alloc,World.size_alloc]at this
theorem CRf.one{w:World}{G m lo sq:Nat}(h:RFat w G m lo sq)(a:Nat):CRf w G m lo sq [(w.heap.size+1,#[.int .u64 0,.int .u64 0,.int .u64 0,.int .u64 0]),(w.heap.size,pw a)] ((w.alloc (.cells (pw a) 24)).alloc (.cells (#[.int .u64 0,.int .u64 0,.int .u64 0,.int .u64 0]) 24)):=by
 have:=((CRf.start h).new (pw a)).new (#[.int .u64 0,.int .u64 0,.int .u64 0,.int .u64 0]);rwa [World.size_alloc]at this
theorem CRf.calls{w:World}{G m lo sq:Nat}{L:List (Nat × Array Value)}{f:FuncId}{args:Array Value}{v:Value}(h:∀ wx,RFat wx G m lo sq->Calls Tryz.prog f args wx fun e w'=>e=.returned v/\Below wx.heap.size wx w'):∀ wx,CRf w G m lo sq L wx->Calls Tryz.prog f args wx fun e w'=>e=.returned v/\CRf w G m lo sq L w' :=
 fun wx c=>(h wx c.fld).mono fun _ _ hh=>⟨hh.1,c.below hh.2⟩
open Go.RowKit
def q8(x k j:Nat):Nat:=if j<k then qN x j else 0
theorem q8_next(x k j:Nat):q8 x (k+1) j=if j=k then qN x k else q8 x k j:=by
 unfold q8;by_cases e:j=k
 ·subst e;rw[if_pos (by omega),if_pos rfl]
 ·rw[if_neg e]
  by_cases h:j<k
  ·rw[if_pos (by omega),if_pos h]
  ·rw[if_neg (by omega),if_neg h]
theorem q8_zero(x:Nat):(ar .u64 8 fun j=>((q8 x 0 j:Nat):Int))=#[.int .u64 0,.int .u64 0,.int .u64 0,.int .u64 0,.int .u64 0,.int .u64 0,.int .u64 0,.int .u64 0]:=by kernel_rfl
theorem q8_full(x:Nat):(ar .u64 8 fun j=>((q8 x 8 j:Nat):Int))=ar .u64 8 fun j=>((qN x j:Nat):Int):=ar_congr fun j hj=>by unfold q8;rw[if_pos hj]
theorem info8:(Tryz.prog.info? 106).map (·.size)=some 8:=by kernel_rfl
theorem and_low32(z:Nat)(h:z<18446744073709551616):bits .and .u64 z 4294967295=((z%4294967296:Nat):Int):=by
 have:=bits_and_u64_nat z 4294967295 h (by omega);rw[show z &&& 4294967295=z%4294967296 from Nat.and_two_pow_sub_one_eq_mod z 32]at this;exact this
structure CP8 (w:World) (x k:Nat) (wx:World):Prop where
 old:Below w.heap.size w wx
 ra:wx.heap[w.heap.size]?=some (.cells (ar .u64 4 fun j=>((pN x j:Nat):Int)) 24 (0,0))
 rr:wx.heap[w.heap.size+1]?=some (.cells (ar .u64 8 fun j=>((q8 x 0 j:Nat):Int)) 106 (0,0))
 rp:wx.heap[w.heap.size+1+1]?=some (.cells (ar .u64 8 fun j=>((q8 x k j:Nat):Int)) 106 (0,0))
theorem CP8.put{w wx:World}{x k v:Nat}(c:CP8 w x k wx)(hk:k<8)(hv:v=qN x k):CP8 w x (k+1) (wx.setCell ⟨w.heap.size+1+1,k,none⟩ (.int .u64 (v:Nat))):=by
 subst hv;refine⟨c.old.setCell (by simp;omega) _,(heap_setCell_other _ _ _ _ (by simp;omega)).trans c.ra,(heap_setCell_other _ _ _ _ (by simp)).trans c.rr,?_⟩;refine(heap_setCell_same _ _ _ _ _ _ c.rp).trans ?_;rw[ar_set _ _ _ _ _ hk];congr 2;refine ar_congr fun j _=>?_;unfold updI;rw[q8_next];by_cases e:j=k
 ·rw[if_pos e,if_pos e]
 ·rw[if_neg e,if_neg e]
theorem CP8.start(w:World)(x:Nat):CP8 w x 0 (((w.alloc (.cells (pw x) 24)).alloc (.cells (#[.int .u64 0,.int .u64 0,.int .u64 0,.int .u64 0,.int .u64 0,.int .u64 0,.int .u64 0,.int .u64 0]) 106)).alloc (.cells (#[.int .u64 0,.int .u64 0,.int .u64 0,.int .u64 0,.int .u64 0,.int .u64 0,.int .u64 0,.int .u64 0]) 106)):=by
 refine⟨(((Below.refl _ _).alloc (Nat.le_refl _) _).alloc (by simp) _).alloc (by simp;omega) _,?_,?_,?_⟩
 ·rw[Below.heap_alloc _ _ _ (by simp;omega),Below.heap_alloc _ _ _ (by simp),heap_alloc_new,pw_ar]
 ·rw[Below.heap_alloc _ _ _ (by simp),q8_zero]
  have:=heap_alloc_new (w.alloc (.cells (pw x) 24)) (.cells (#[.int .u64 0,.int .u64 0,.int .u64 0,.int .u64 0,.int .u64 0,.int .u64 0,.int .u64 0,.int .u64 0]) 106);rwa [World.size_alloc]at this
 ·rw[q8_zero]
  have:=heap_alloc_new ((w.alloc (.cells (pw x) 24)).alloc (.cells (#[.int .u64 0,.int .u64 0,.int .u64 0,.int .u64 0,.int .u64 0,.int .u64 0,.int .u64 0,.int .u64 0]) 106)) (.cells (#[.int .u64 0,.int .u64 0,.int .u64 0,.int .u64 0,.int .u64 0,.int .u64 0,.int .u64 0,.int .u64 0]) 106);rwa [World.size_alloc,World.size_alloc]at this
theorem rparts_any(x:Nat)(w:World):Calls Tryz.prog 60 #[.agg (pw x)] w fun e w'=>e=.returned (.agg (ar .u64 8 fun j=>((qN x j:Nat):Int)))/\Below w.heap.size w w':=by
 have HI8:Hid ((Tryz.prog.info? 106).map (·.size)=some (ar .u64 8 fun j=>((q8 x 8 j:Nat):Int)).size):=Lib.hid (by rw[ar_size];exact info8);have HR:=Lib.hid (CP8.start w x);go_enter Tryz.func60,Tryz.ntmps60
 go_wp2_with fail
 go_loopw [4] (fun iv wr=>∃ k:Nat,k<=8/\iv=.int .i64 k/\Hid (CP8 w x k wr)) (fun iv _=>8 - (intOf iv).toNat)
 case atStart=>exact⟨0,by omega,rfl,HR⟩
 case round =>
  obtain⟨k,hk,rfl,H⟩:=hrel;clear HR;have hk0:(0:Int)<=k:=by omega
  have hk1:(k:Int)<=8:=by omega
  by_cases hlt:k<8
  ·obtain⟨p,hp⟩:∃ p:Nat,(k:Int) / 2=(p:Int):=⟨k / 2,by omega⟩
   obtain⟨r,hr⟩:∃ r:Nat,(k:Int)%2=(r:Int):=⟨k%2,by omega⟩
   obtain⟨s,hs⟩:∃ s:Nat,32*(r:Int)=(s:Int):=⟨32*r,by omega⟩
   have hp0:(0:Int)<=p:=by omega
   have hp1:(p:Int)<4:=by omega
   have hs0:(0:Int)<=s:=by omega
   have hs1:(s:Int)<64:=by omega
   have hlt':(k:Int)<8:=by omega
   have ca:wr.cell? ⟨w.heap.size,p,none⟩=some (.int .u64 (pN x p:Nat)):=(cell_of_row _ _ p _ _ _ H.out.ra).trans (ar_at _ _ _ _ (by omega));have co:wr.cell? ⟨w.heap.size+1+1,k,none⟩=some (.int .u64 (q8 x k k:Nat)):=(cell_of_row _ _ k _ _ _ H.out.rp).trans (ar_at _ _ _ _ (by omega));have fo:wr.frozen? ⟨w.heap.size+1+1,k,none⟩=false:=frozen_of_row wr _ k _ _ H.out.rp;have hpl:=pN_le x p;have hv:bits .and .u64 (((pN x p:Nat):Int) / 2^s) 4294967295=((qN x k:Nat):Int):=by
    rw[<- qn_of x k p s (by omega) (by omega)];have h:=and_low32 (pN x p / 2^s) (Nat.lt_of_le_of_lt (Nat.div_le_self _ _) hpl);simpa using h
   obtain⟨y,hy⟩:∃ y,qN x k=y:=⟨_,rfl⟩
   rw[hy]at hv;have HV:=Lib.hid hv;have HY:=Lib.hid hy;have HK:=Lib.hid hlt;clear hv hpl hy hlt hk
   go_wp2_with fail
   go_roundw
   case rel=>exact⟨k+1,by have:=HK.out;omega,by go_num,Lib.hid (by rw[HV.out];exact H.out.put HK.out HY.out.symm)⟩
   case measure=>have:=HK.out;simp[intOf];omega
  ·obtain rfl:k=8:=by omega
   go_wp2_with (first | (refine wpList_load_row rfl 106 _ rfl (w.heap.size+1+1) rfl 106 _ (0,0) _ H.out.rp Tryz.underlying106 rfl HI8.out ?_) | (refine wpList_store_row rfl 106 _ _ rfl (w.heap.size+1) (ar .u64 8 fun j=>((q8 x 8 j:Nat):Int)) rfl rfl 106 _ (by exact H.out.rr) HI8.out (by rw[ar_size,ar_size]) (ar_one _ _ _) ?_))
   refine bodyPost_ret (v:=.agg (ar .u64 8 fun j=>((q8 x 8 j:Nat):Int))) (results_cell_row (p:=2) rfl _ _ (w.heap.size+1) 106 _ (0,0) _ rfl (setRow_heap _ _ _ _ _ _ H.out.rr) Tryz.underlying106 rfl HI8.out) rfl ⟨by rw[q8_full],below_setRow H.out.old (by omega) _⟩
open Go.RowKit
theorem CRf.lay{w wx:World}{G m lo sq:Nat}{L:List (Nat × Array Value)}(c:CRf w G m lo sq L wx)(cs:Array Value):CRf w G m lo sq ((wx.heap.size,cs)::L) ((wx.alloc (.cells (#[.int .u64 0,.int .u64 0,.int .u64 0,.int .u64 0]) 24)).setRow wx.heap.size cs):=by
 have hb:Below wx.heap.size wx ((wx.alloc (.cells (#[.int .u64 0,.int .u64 0,.int .u64 0,.int .u64 0]) 24)).setRow wx.heap.size cs):=below_setRow ((Below.refl _ _).alloc (Nat.le_refl _) _) (Nat.le_refl _) _;exact(c.below hb).cons (setRow_heap _ _ _ _ _ _ (heap_alloc_new _ _))
theorem pw_less{s m r:Nat}(h:s+2^256 - m=r\/s+2^256 - m=r+2^256):pw (s+2^256 - m)=pw r:=by
 apply pw_congr;rcases h with h | h <;> rw[h]
 rw[Nat.add_mod_right]
def rA(m a b:Nat):Nat:=(if (2^256)<=a+b\/m<=(a+b)%2^256 then (a+b)%2^256+2^256 - m else (a+b)%2^256)%2^256
def rS(m a b:Nat):Nat:=(if b<=a then a+2^256 - b else a+2^256 - b+m)%2^256
theorem rA_lt(m a b:Nat):rA m a b<2^256:=Nat.mod_lt _ (by omega)
theorem rS_lt(m a b:Nat):rS m a b<2^256:=Nat.mod_lt _ (by omega)
theorem rA_eq{m a b:Nat}(ha:a<m)(hb:b<m)(hm:m<2^256):rA m a b=(a+b)%m:=by
 unfold rA;by_cases h:(2^256)<=a+b\/m<=(a+b)%2^256
 ·rw[if_pos h,Nat.mod_eq_sub_mod (show a+b ≥ m by omega),Nat.mod_eq_of_lt (show a+b - m<m by omega)]
  omega
 ·rw[if_neg h,Nat.mod_mod,Nat.mod_eq_of_lt (show a+b<m by omega)]
  omega
theorem rS_eq{m a b:Nat}(ha:a<m)(hb:b<m)(hm:m<2^256):rS m a b=(a+(m - b))%m:=by
 unfold rS;by_cases h:b<=a
 ·rw[if_pos h,show a+(m - b)=a - b+m by omega,Nat.add_mod_right,Nat.mod_eq_of_lt (show a - b<m by omega)]
  omega
 ·rw[if_neg h,Nat.mod_eq_of_lt (show a+(m - b)<m by omega)]
  omega
theorem radd_w(G m lo sq a b:Nat)(hal:a<2^256)(hbl:b<2^256)(hm:m<2^256)(w:World)(hF:RFat w G m lo sq):Calls Tryz.prog 61 #[(.pointer (some ⟨G,0,none⟩)),.agg (pw a),.agg (pw b)] w fun e w'=>e=.returned (.agg (pw (rA m a b)))/\Below w.heap.size w w':=by
 have H0:=Lib.hid (CRf.two hF a b);have HPL:=Lib.hid (fun wx=>plusW_any a b (by omega) (by omega) wx);obtain⟨s,hs⟩:∃ s,(a+b)%2^256=s:=⟨_,rfl⟩
 have hsl:s<2^256:=by omega
 rw[show pw (a+b)=pw s from by rw[<- hs,pw_modn]]at HPL;have HMO:=Lib.hid (fun wx (_:RFat wx G m lo sq)=>moreW_any s m hsl hm wx);have HMI:=Lib.hid (fun wx (_:RFat wx G m lo sq)=>minusW_any s m hsl hm wx);obtain⟨y,hy⟩:∃ y,s+2^256 - m=y:=⟨_,rfl⟩
 have HR:=Lib.hid (show(2^256)<=a+b\/m<=s->pw y=pw (rA m a b) from fun h=>by
  rw[<- hy];unfold rA;rw[hs,if_pos h,pw_modn])
 have HR2:=Lib.hid (show ¬(2^256)<=a+b->¬m<=s->pw s=pw (rA m a b) from fun h1 h2=>by
  unfold rA;rw[hs,if_neg (fun h=>h.elim h1 h2),pw_modn])
 rw[hy]at HMI;obtain⟨z,hz⟩:∃ z,pw (rA m a b)=z:=⟨_,rfl⟩
 rw[hz]at HR HR2 |-
 clear hF hz hs hy hsl hal hbl hm;by_cases ho:(2^256)<=a+b
 ·rw[decide_eq_true ho]at HPL
  have HQ:=Lib.hid (HR.out (.inl ho));clear HR HR2 HMO ho;go_enter Tryz.func61,Tryz.ntmps61
  go_wp2_with (first | (refine wpList_ld rfl 24 _ rfl (.pointer (some ⟨w.heap.size,0,none⟩)) (.agg (pw a)) rfl (ld_pw (by exact H0.out.is _ _ (by simp))) ?_) | (refine wpList_ld rfl 24 _ rfl (.pointer (some ⟨w.heap.size+1,0,none⟩)) (.agg (pw b)) rfl (ld_pw (by exact H0.out.is _ _ (by simp))) ?_))
  refine(HPL.out _).mono ?_;rintro e w1 ⟨rfl,hb1⟩;have H1:=Lib.hid ((H0.out.below hb1).lay (pw s));have G1:=Lib.hid (heap_alloc_new w1 (.cells (#[.int .u64 0,.int .u64 0,.int .u64 0,.int .u64 0]) 24));clear hb1 H0 HPL
  go_upto_region 2 with(refine wpList_store_row rfl 24 _ _ rfl w1.heap.size (pw s) rfl rfl 24 (#[.int .u64 0,.int .u64 0,.int .u64 0,.int .u64 0]) (by exact G1.out) (by rw[pw_size];exact infoW4) (by rw[pw_size];rfl) (pw_one _) ?_)
  obtain⟨w2,hw2⟩:∃ w2,(w1.alloc (.cells (#[.int .u64 0,.int .u64 0,.int .u64 0,.int .u64 0]) 24)).setRow w1.heap.size (pw s)=w2:=⟨_,rfl⟩
  obtain⟨g7,hg7⟩:∃ g7,w1.heap.size=g7:=⟨_,rfl⟩
  rw[hw2,hg7]at H1;rw[hw2,hg7];clear hw2 hg7 G1;refine wp_region_quiet (C:=CRf w G m lo sq [(g7,pw s),(w.heap.size+1+1,#[.int .u64 0,.int .u64 0,.int .u64 0,.int .u64 0]),(w.heap.size+1,pw b),(w.heap.size,pw a)]) (by kernel_rfl) (by kernel_rfl) (H1.out.drew) ?_;simp only
  with_reducible refine q_val (.bool true) (by kernel_rfl) (fun _ _=>by kernel_rfl) ?_
  with_reducible refine q_val (.bool true) (by kernel_rfl) (fun _ _=>by kernel_rfl) ?_
  with_reducible refine q_skip (by kernel_rfl) ?_
  with_reducible refine q_skip (by kernel_rfl) ?_
  with_reducible refine q_skip (by kernel_rfl) ?_
  with_reducible refine q_skip (by kernel_rfl) ?_
  with_reducible refine q_skip (by kernel_rfl) ?_
  with_reducible refine q_skip (by kernel_rfl) ?_
  with_reducible refine q_val (.bool true) (by kernel_rfl) (fun _ _=>by kernel_rfl) ?_
  with_reducible refine wpQuiet_nil ?_
  intro wx hC;have HC:=Lib.hid hC;clear hC H1;simp only[Act.put,List.setIfInBounds_toArray,List.set_cons_succ,List.set_cons_zero]
  go_wp2_with fail
  refine region_quiet_tail 6 (CRf w G m lo sq [(g7,pw s),(w.heap.size+1+1,#[.int .u64 0,.int .u64 0,.int .u64 0,.int .u64 0]),(w.heap.size+1,pw b),(w.heap.size,pw a)]) (by kernel_rfl) (by kernel_rfl) (HC.out.drew) ?_;simp only[List.take_succ_cons,List.take_zero,List.drop_succ_cons,List.drop_zero]
  with_reducible refine q_load 24 (.tmp 7) (.pointer (some ⟨g7,0,none⟩)) (.agg (pw s)) rfl (by kernel_rfl) (by kernel_rfl) (fun _ c=>ld_pw (c.is _ _ (by simp))) ?_
  with_reducible refine q_val (.pointer (some ⟨G,0,none⟩)) (by kernel_rfl) (fun _ _=>by kernel_rfl) ?_
  with_reducible refine q_val (.pointer (some ⟨G,0,none⟩)) (by kernel_rfl) (fun _ _=>run_nil (.tmp 25) _ rfl (by kernel_rfl)) ?_
  with_reducible refine q_sem2 (Instr.fieldAt 109 (.pointer (some ⟨G,0,none⟩)) 0) (.pointer (some ⟨G,0,none⟩)) (by kernel_rfl) (by kernel_rfl) (fun w' _=>(rf_at G w').1) ?_
  with_reducible refine q_load 24 (.tmp 27) (.pointer (some ⟨G,0,none⟩)) (.agg (pw m)) rfl (by kernel_rfl) (by kernel_rfl) (fun _ c=>ld_rm c.fld) ?_
  with_reducible refine q_call 100 #[.agg (pw s),.agg (pw m)] (.agg (pw y)) (by kernel_rfl) (fun _=>by kernel_rfl) (CRf.calls HMI.out) ?_
  with_reducible refine wpQuiet_nil ?_
  intro wx hC;have HC2:=Lib.hid hC;clear hC HC HMI;simp only[Act.put,List.setIfInBounds_toArray,List.set_cons_succ,List.set_cons_zero]
  go_wp2_with (refine wpList_store_row rfl 24 _ _ rfl (w.heap.size+1+1) (pw y) rfl rfl 24 (#[.int .u64 0,.int .u64 0,.int .u64 0,.int .u64 0]) (by exact HC2.out.is _ _ (by simp)) (by rw[pw_size];exact infoW4) (by first | rfl | (rw[pw_size];rfl) | (rw[pw_size,pw_size])) (pw_one _) ?_)
  (try simp only[Act.put])
  refine bodyPost_ret (v:=.agg (pw y)) (results_cell_row (p:=6) rfl _ _ (w.heap.size+1+1) 24 (pw y) (0,0) _ rfl (setRow_heap _ _ _ _ _ _ (by exact HC2.out.is _ (#[.int .u64 0,.int .u64 0,.int .u64 0,.int .u64 0]) (by simp))) Tryz.underlying24 rfl (by rw[pw_size];exact infoW4)) rfl ⟨by rw[HQ.out],below_setRow HC2.out.old (by omega) _⟩
 ·rw[decide_eq_false ho]at HPL
  by_cases hq:m<=s
  ·rw[decide_eq_true hq]at HMO
   have HQ:=Lib.hid (HR.out (.inr hq));clear HR HR2 ho hq;go_enter Tryz.func61,Tryz.ntmps61
   go_wp2_with (first | (refine wpList_ld rfl 24 _ rfl (.pointer (some ⟨w.heap.size,0,none⟩)) (.agg (pw a)) rfl (ld_pw (by exact H0.out.is _ _ (by simp))) ?_) | (refine wpList_ld rfl 24 _ rfl (.pointer (some ⟨w.heap.size+1,0,none⟩)) (.agg (pw b)) rfl (ld_pw (by exact H0.out.is _ _ (by simp))) ?_))
   refine(HPL.out _).mono ?_;rintro e w1 ⟨rfl,hb1⟩;have H1:=Lib.hid ((H0.out.below hb1).lay (pw s));have G1:=Lib.hid (heap_alloc_new w1 (.cells (#[.int .u64 0,.int .u64 0,.int .u64 0,.int .u64 0]) 24));clear hb1 H0 HPL
   go_upto_region 2 with(refine wpList_store_row rfl 24 _ _ rfl w1.heap.size (pw s) rfl rfl 24 (#[.int .u64 0,.int .u64 0,.int .u64 0,.int .u64 0]) (by exact G1.out) (by rw[pw_size];exact infoW4) (by rw[pw_size];rfl) (pw_one _) ?_)
   obtain⟨w2,hw2⟩:∃ w2,(w1.alloc (.cells (#[.int .u64 0,.int .u64 0,.int .u64 0,.int .u64 0]) 24)).setRow w1.heap.size (pw s)=w2:=⟨_,rfl⟩
   obtain⟨g7,hg7⟩:∃ g7,w1.heap.size=g7:=⟨_,rfl⟩
   rw[hw2,hg7]at H1;rw[hw2,hg7];clear hw2 hg7 G1;refine wp_region_quiet (C:=CRf w G m lo sq [(g7,pw s),(w.heap.size+1+1,#[.int .u64 0,.int .u64 0,.int .u64 0,.int .u64 0]),(w.heap.size+1,pw b),(w.heap.size,pw a)]) (by kernel_rfl) (by kernel_rfl) (H1.out.drew) ?_;simp only
   with_reducible refine q_val (.bool false) (by kernel_rfl) (fun _ _=>by kernel_rfl) ?_
   with_reducible refine q_val (.bool false) (by kernel_rfl) (fun _ _=>by kernel_rfl) ?_
   with_reducible refine q_load 24 (.tmp 7) (.pointer (some ⟨g7,0,none⟩)) (.agg (pw s)) rfl (by kernel_rfl) (by kernel_rfl) (fun _ c=>ld_pw (c.is _ _ (by simp))) ?_
   with_reducible refine q_val (.pointer (some ⟨G,0,none⟩)) (by kernel_rfl) (fun _ _=>by kernel_rfl) ?_
   with_reducible refine q_val (.pointer (some ⟨G,0,none⟩)) (by kernel_rfl) (fun _ _=>run_nil (.tmp 18) _ rfl (by kernel_rfl)) ?_
   with_reducible refine q_sem2 (Instr.fieldAt 109 (.pointer (some ⟨G,0,none⟩)) 0) (.pointer (some ⟨G,0,none⟩)) (by kernel_rfl) (by kernel_rfl) (fun w' _=>(rf_at G w').1) ?_
   with_reducible refine q_load 24 (.tmp 20) (.pointer (some ⟨G,0,none⟩)) (.agg (pw m)) rfl (by kernel_rfl) (by kernel_rfl) (fun _ c=>ld_rm c.fld) ?_
   with_reducible refine q_call 99 #[.agg (pw s),.agg (pw m)] (.bool true) (by kernel_rfl) (fun _=>by kernel_rfl) (CRf.calls HMO.out) ?_
   with_reducible refine q_val (.bool true) (by kernel_rfl) (fun _ _=>by kernel_rfl) ?_
   with_reducible refine wpQuiet_nil ?_
   intro wx hC;have HC:=Lib.hid hC;clear hC H1 HMO;simp only[Act.put,List.setIfInBounds_toArray,List.set_cons_succ,List.set_cons_zero]
   go_wp2_with fail
   refine region_quiet_tail 6 (CRf w G m lo sq [(g7,pw s),(w.heap.size+1+1,#[.int .u64 0,.int .u64 0,.int .u64 0,.int .u64 0]),(w.heap.size+1,pw b),(w.heap.size,pw a)]) (by kernel_rfl) (by kernel_rfl) (HC.out.drew) ?_;simp only[List.take_succ_cons,List.take_zero,List.drop_succ_cons,List.drop_zero]
   with_reducible refine q_load 24 (.tmp 7) (.pointer (some ⟨g7,0,none⟩)) (.agg (pw s)) rfl (by kernel_rfl) (by kernel_rfl) (fun _ c=>ld_pw (c.is _ _ (by simp))) ?_
   with_reducible refine q_val (.pointer (some ⟨G,0,none⟩)) (by kernel_rfl) (fun _ _=>by kernel_rfl) ?_
   with_reducible refine q_val (.pointer (some ⟨G,0,none⟩)) (by kernel_rfl) (fun _ _=>run_nil (.tmp 25) _ rfl (by kernel_rfl)) ?_
   with_reducible refine q_sem2 (Instr.fieldAt 109 (.pointer (some ⟨G,0,none⟩)) 0) (.pointer (some ⟨G,0,none⟩)) (by kernel_rfl) (by kernel_rfl) (fun w' _=>(rf_at G w').1) ?_
   with_reducible refine q_load 24 (.tmp 27) (.pointer (some ⟨G,0,none⟩)) (.agg (pw m)) rfl (by kernel_rfl) (by kernel_rfl) (fun _ c=>ld_rm c.fld) ?_
   with_reducible refine q_call 100 #[.agg (pw s),.agg (pw m)] (.agg (pw y)) (by kernel_rfl) (fun _=>by kernel_rfl) (CRf.calls HMI.out) ?_
   with_reducible refine wpQuiet_nil ?_
   intro wx hC;have HC2:=Lib.hid hC;clear hC HC HMI;simp only[Act.put,List.setIfInBounds_toArray,List.set_cons_succ,List.set_cons_zero]
   go_wp2_with (refine wpList_store_row rfl 24 _ _ rfl (w.heap.size+1+1) (pw y) rfl rfl 24 (#[.int .u64 0,.int .u64 0,.int .u64 0,.int .u64 0]) (by exact HC2.out.is _ _ (by simp)) (by rw[pw_size];exact infoW4) (by first | rfl | (rw[pw_size];rfl) | (rw[pw_size,pw_size])) (pw_one _) ?_)
   (try simp only[Act.put])
   refine bodyPost_ret (v:=.agg (pw y)) (results_cell_row (p:=6) rfl _ _ (w.heap.size+1+1) 24 (pw y) (0,0) _ rfl (setRow_heap _ _ _ _ _ _ (by exact HC2.out.is _ (#[.int .u64 0,.int .u64 0,.int .u64 0,.int .u64 0]) (by simp))) Tryz.underlying24 rfl (by rw[pw_size];exact infoW4)) rfl ⟨by rw[HQ.out],below_setRow HC2.out.old (by omega) _⟩
  ·rw[decide_eq_false hq]at HMO
   have HQ:=Lib.hid (HR2.out ho hq);clear HR HR2 ho hq HMI;go_enter Tryz.func61,Tryz.ntmps61
   go_wp2_with (first | (refine wpList_ld rfl 24 _ rfl (.pointer (some ⟨w.heap.size,0,none⟩)) (.agg (pw a)) rfl (ld_pw (by exact H0.out.is _ _ (by simp))) ?_) | (refine wpList_ld rfl 24 _ rfl (.pointer (some ⟨w.heap.size+1,0,none⟩)) (.agg (pw b)) rfl (ld_pw (by exact H0.out.is _ _ (by simp))) ?_))
   refine(HPL.out _).mono ?_;rintro e w1 ⟨rfl,hb1⟩;have H1:=Lib.hid ((H0.out.below hb1).lay (pw s));have G1:=Lib.hid (heap_alloc_new w1 (.cells (#[.int .u64 0,.int .u64 0,.int .u64 0,.int .u64 0]) 24));clear hb1 H0 HPL
   go_upto_region 2 with(refine wpList_store_row rfl 24 _ _ rfl w1.heap.size (pw s) rfl rfl 24 (#[.int .u64 0,.int .u64 0,.int .u64 0,.int .u64 0]) (by exact G1.out) (by rw[pw_size];exact infoW4) (by rw[pw_size];rfl) (pw_one _) ?_)
   obtain⟨w2,hw2⟩:∃ w2,(w1.alloc (.cells (#[.int .u64 0,.int .u64 0,.int .u64 0,.int .u64 0]) 24)).setRow w1.heap.size (pw s)=w2:=⟨_,rfl⟩
   obtain⟨g7,hg7⟩:∃ g7,w1.heap.size=g7:=⟨_,rfl⟩
   rw[hw2,hg7]at H1;rw[hw2,hg7];clear hw2 hg7 G1;refine wp_region_quiet (C:=CRf w G m lo sq [(g7,pw s),(w.heap.size+1+1,#[.int .u64 0,.int .u64 0,.int .u64 0,.int .u64 0]),(w.heap.size+1,pw b),(w.heap.size,pw a)]) (by kernel_rfl) (by kernel_rfl) (H1.out.drew) ?_;simp only
   with_reducible refine q_val (.bool false) (by kernel_rfl) (fun _ _=>by kernel_rfl) ?_
   with_reducible refine q_val (.bool false) (by kernel_rfl) (fun _ _=>by kernel_rfl) ?_
   with_reducible refine q_load 24 (.tmp 7) (.pointer (some ⟨g7,0,none⟩)) (.agg (pw s)) rfl (by kernel_rfl) (by kernel_rfl) (fun _ c=>ld_pw (c.is _ _ (by simp))) ?_
   with_reducible refine q_val (.pointer (some ⟨G,0,none⟩)) (by kernel_rfl) (fun _ _=>by kernel_rfl) ?_
   with_reducible refine q_val (.pointer (some ⟨G,0,none⟩)) (by kernel_rfl) (fun _ _=>run_nil (.tmp 18) _ rfl (by kernel_rfl)) ?_
   with_reducible refine q_sem2 (Instr.fieldAt 109 (.pointer (some ⟨G,0,none⟩)) 0) (.pointer (some ⟨G,0,none⟩)) (by kernel_rfl) (by kernel_rfl) (fun w' _=>(rf_at G w').1) ?_
   with_reducible refine q_load 24 (.tmp 20) (.pointer (some ⟨G,0,none⟩)) (.agg (pw m)) rfl (by kernel_rfl) (by kernel_rfl) (fun _ c=>ld_rm c.fld) ?_
   with_reducible refine q_call 99 #[.agg (pw s),.agg (pw m)] (.bool false) (by kernel_rfl) (fun _=>by kernel_rfl) (CRf.calls HMO.out) ?_
   with_reducible refine q_val (.bool false) (by kernel_rfl) (fun _ _=>by kernel_rfl) ?_
   with_reducible refine wpQuiet_nil ?_
   intro wx hC;have HC:=Lib.hid hC;clear hC H1 HMO;simp only[Act.put,List.setIfInBounds_toArray,List.set_cons_succ,List.set_cons_zero]
   go_wp2_with (first | (refine wpList_ld rfl 24 _ rfl (.pointer (some ⟨g7,0,none⟩)) (.agg (pw s)) rfl (ld_pw (by exact HC.out.is _ _ (by simp))) ?_) | (refine wpList_store_row rfl 24 _ _ rfl (w.heap.size+1+1) (pw s) rfl rfl 24 (#[.int .u64 0,.int .u64 0,.int .u64 0,.int .u64 0]) (by exact HC.out.is _ _ (by simp)) (by rw[pw_size];exact infoW4) (by first | rfl | (rw[pw_size];rfl) | (rw[pw_size,pw_size])) (pw_one _) ?_))
   (try simp only[Act.put])
   refine bodyPost_ret (v:=.agg (pw s)) (results_cell_row (p:=6) rfl _ _ (w.heap.size+1+1) 24 (pw s) (0,0) _ rfl (setRow_heap _ _ _ _ _ _ (by exact HC.out.is _ (#[.int .u64 0,.int .u64 0,.int .u64 0,.int .u64 0]) (by simp))) Tryz.underlying24 rfl (by rw[pw_size];exact infoW4)) rfl ⟨by rw[HQ.out],below_setRow HC.out.old (by omega) _⟩
theorem radd_any(G m lo sq a b:Nat)(hal:a<m)(hbl:b<m)(hm:m<2^256)(w:World)(hF:RFat w G m lo sq):Calls Tryz.prog 61 #[(.pointer (some ⟨G,0,none⟩)),.agg (pw a),.agg (pw b)] w fun e w'=>e=.returned (.agg (pw ((a+b)%m)))/\Below w.heap.size w w':=by
 have h:=radd_w G m lo sq a b (Nat.lt_trans hal hm) (Nat.lt_trans hbl hm) hm w hF;rw[rA_eq hal hbl hm]at h;exact h
end Go.Proofs.YtadfjjfklihaaaaGreat
