/- What the reference's field's Exp comes to. (Cut to what is reached, written closely: RCw · RCut · RMl · ROf · RCv · RNw · GPts · SyA · RBit · RExp.) -/
import Derived.Test.YtfmpjjhdocejiaaGreatL8
import Derived.Test.YtfmpjjhdocejiaaGreatL2
import Derived.Test.YtfmpjjhdocejiaaGreatL7
import Derived.Test.YtfmpjjhdocejiaaGreatL4
import Derived.Test.YtfmpjjhdocejiaaGreatL5
import Derived.Deep.DeepCutAuto
set_option linter.all false
set_option maxRecDepth 100000
set_option maxHeartbeats 8000000
namespace Go.Proofs.YtfmpjjhdocejiaaGreat
open Go.RowKit
structure CCt (w:World) (G m lo sq a b d7 d8 d9:Nat) (f:Nat->Nat) (wx:World):Prop where
 old:Below w.heap.size w wx
 fld:RFat wx G m lo sq
 hG:G<w.heap.size
 rr:wx.heap[w.heap.size+1+1]?=some (.cells (#[.int .u64 0,.int .u64 0,.int .u64 0,.int .u64 0]) 24 (0,0))
 rx:wx.heap[d7]?=some (.cells (ar .u64 8 fun j=>((qN a j:Nat):Int)) 81 (0,0))
 ry:wx.heap[d8]?=some (.cells (ar .u64 8 fun j=>((qN b j:Nat):Int)) 81 (0,0))
 rt:wx.heap[d9]?=some (.cells (ar .u64 10 fun j=>((f j:Nat):Int)) 109 (0,0))
 h9:w.heap.size+1+1<d9
 n7:d7≠d9
 n8:d8≠d9
section
variable {w wx w':World} {G m lo sq a b d7 d8 d9:Nat} {f:Nat->Nat}
theorem CCt.below(c:CCt w G m lo sq a b d7 d8 d9 f wx)(hb:Below wx.heap.size wx w'):CCt w G m lo sq a b d7 d8 d9 f w' :=
 ⟨c.old.trans (hb.mono c.old.size),c.fld.below hb,c.hG,(hb.block _ (Array.getElem?_eq_some_iff.1 c.rr).1).trans c.rr,(hb.block _ (Array.getElem?_eq_some_iff.1 c.rx).1).trans c.rx,(hb.block _ (Array.getElem?_eq_some_iff.1 c.ry).1).trans c.ry,(hb.block _ (Array.getElem?_eq_some_iff.1 c.rt).1).trans c.rt,c.h9,c.n7,c.n8⟩
theorem CCt.drew(c:CCt w G m lo sq a b d7 d8 d9 f wx):CCt w G m lo sq a b d7 d8 d9 f wx.drew:=c.below (Below.drew (Below.refl _ _))
theorem CCt.cx(c:CCt w G m lo sq a b d7 d8 d9 f wx)(j:Nat)(hj:j<8):wx.cell? ⟨d7,j,none⟩=some (.int .u64 (qN a j:Nat)):=(cell_of_row _ _ j _ _ _ c.rx).trans (ar_at _ _ _ _ hj)
theorem CCt.cy(c:CCt w G m lo sq a b d7 d8 d9 f wx)(j:Nat)(hj:j<8):wx.cell? ⟨d8,j,none⟩=some (.int .u64 (qN b j:Nat)):=(cell_of_row _ _ j _ _ _ c.ry).trans (ar_at _ _ _ _ hj)
theorem CCt.ct(c:CCt w G m lo sq a b d7 d8 d9 f wx)(j:Nat)(hj:j<10):wx.cell? ⟨d9,j,none⟩=some (.int .u64 (f j:Nat)):=(cell_of_row _ _ j _ _ _ c.rt).trans (ar_at _ _ _ _ hj)
theorem CCt.cq(c:CCt w G m lo sq a b d7 d8 d9 f wx)(j:Nat)(hj:j<8):wx.cell? ⟨G,4+j,none⟩=some (.int .u64 (qN m j:Nat)):=(c.fld.cell (4+j) (by omega)).trans (by rw[rfw_q _ _ _ _ hj])
theorem CCt.cl(c:CCt w G m lo sq a b d7 d8 d9 f wx):wx.cell? ⟨G,12,none⟩=some (.int .u64 (lo:Nat)):=(c.fld.cell 12 (by omega)).trans (by rw[rfw_lo])
theorem CCt.fz(c:CCt w G m lo sq a b d7 d8 d9 f wx)(j:Nat):wx.frozen? ⟨d9,j,none⟩=false:=frozen_of_row wx _ j _ _ c.rt
theorem ar_upd(n:Nat)(f:Nat->Nat)(j v:Nat)(h:j<n):(ar .u64 n fun j=>((f j:Nat):Int)).setIfInBounds j (.int .u64 (v:Nat))=ar .u64 n fun i=>((updN f j v i:Nat):Int):=by
 rw[ar_set _ _ _ _ _ h];refine ar_congr fun i _=>?_;unfold updI updN;by_cases e:i=j
 ·rw[if_pos e,if_pos e]
 ·rw[if_neg e,if_neg e]
theorem CCt.put(c:CCt w G m lo sq a b d7 d8 d9 f wx)(j v:Nat)(hj:j<10):CCt w G m lo sq a b d7 d8 d9 (updN f j v) (wx.setCell ⟨d9,j,none⟩ (.int .u64 (v:Nat))):=by
 have h9:=c.h9;have hG:=c.hG;refine⟨c.old.setCell (by simp;omega) _,(heap_setCell_other _ _ _ _ (by simp;omega)).trans c.fld,c.hG,(heap_setCell_other _ _ _ _ (by simp;omega)).trans c.rr,(heap_setCell_other _ _ _ _ (by simpa using c.n7)).trans c.rx,(heap_setCell_other _ _ _ _ (by simpa using c.n8)).trans c.ry,?_,c.h9,c.n7,c.n8⟩;refine(heap_setCell_same _ _ _ _ _ _ c.rt).trans ?_;rw[ar_upd _ _ _ _ hj]
end
theorem cut_low{F0 lo q0 k:Nat}(hl:(lo*q0+1)%4294967296=0)(hk:F0*lo%4294967296=k):(F0+k*q0)%4294967296=0:=by
 have h:(F0+k*q0)%4294967296=F0*(lo*q0+1)%4294967296:=by
  rw[<- hk,Nat.add_mod,Nat.mod_mul_mod,<- Nat.add_mod,Nat.mul_add,Nat.mul_one,Nat.mul_assoc,Nat.add_comm]
 rw[h,Nat.mul_mod,hl,Nat.mul_zero,Nat.zero_mod]
theorem info8r(f:Nat->Nat):(Tryz.prog.info? 81).map (·.size)=some (ar .u64 8 fun j=>((f j:Nat):Int)).size:=by rw[ar_size];exact info8
theorem info10:(Tryz.prog.info? 109).map (·.size)=some 10:=by kernel_rfl
theorem store_8{g:Nat}{f:Nat->Nat}{w:World}{cs:Array Value}(hs:cs.size=8)(hg:w.heap[g]?=some (.cells cs 81 (0,0))):(Instr.storeAt 81 (.pointer (some ⟨g,0,none⟩)) (.agg (ar .u64 8 fun j=>((f j:Nat):Int)))).run Tryz.prog w=.ok () (w.setRow g (ar .u64 8 fun j=>((f j:Nat):Int))):=by
 simp only[Instr.storeAt,Instr.sureAddr,Sem.run_bind,Sem.run_pure,Result.andThen_ok,run_storeVar_row w g 81 81 cs (ar .u64 8 fun j=>((f j:Nat):Int)) hg (info8r f) (by rw[hs,ar_size]) (ar_one _ _ _)]
theorem store_10{g:Nat}{f:Nat->Nat}{w:World}{cs:Array Value}(hs:cs.size=10)(hg:w.heap[g]?=some (.cells cs 109 (0,0))):(Instr.storeAt 109 (.pointer (some ⟨g,0,none⟩)) (.agg (ar .u64 10 fun j=>((f j:Nat):Int)))).run Tryz.prog w=.ok () (w.setRow g (ar .u64 10 fun j=>((f j:Nat):Int))):=by
 simp only[Instr.storeAt,Instr.sureAddr,Sem.run_bind,Sem.run_pure,Result.andThen_ok,run_storeVar_row w g 109 109 cs (ar .u64 10 fun j=>((f j:Nat):Int)) hg (by rw[ar_size];exact info10) (by rw[hs,ar_size]) (ar_one _ _ _)]
def prt(f:Nat->Nat)(k j:Nat):Nat:=if j<k then f j else 0
theorem prt_zero(f:Nat->Nat):(ar .u64 8 fun j=>((prt f 0 j:Nat):Int))=#[.int .u64 0,.int .u64 0,.int .u64 0,.int .u64 0,.int .u64 0,.int .u64 0,.int .u64 0,.int .u64 0]:=by kernel_rfl
theorem prt_next(f:Nat->Nat)(k:Nat):updN (prt f k) k (f k)=prt f (k+1):=by
 funext j
 unfold updN prt;by_cases e:j=k
 ·subst e;rw[if_pos rfl,if_pos (by omega)]
 ·rw[if_neg e]
  by_cases h:j<k
  ·rw[if_pos h,if_pos (by omega)]
  ·rw[if_neg h,if_neg (by omega)]
section
variable {w wx w':World} {G m lo sq a b d7 d8 d9:Nat} {f:Nat->Nat}
theorem CCt.far(c:CCt w G m lo sq a b d7 d8 d9 f wx){d:Nat}(h:G<d/\w.heap.size+1+1<d/\d7<d/\d8<d/\d9<d)(j:Nat)(v:Value):CCt w G m lo sq a b d7 d8 d9 f (wx.setCell ⟨d,j,none⟩ v) :=
 ⟨c.old.setCell (by simp;omega) _,(heap_setCell_other _ _ _ _ (by simp;omega)).trans c.fld,c.hG,(heap_setCell_other _ _ _ _ (by simp;omega)).trans c.rr,(heap_setCell_other _ _ _ _ (by simp;omega)).trans c.rx,(heap_setCell_other _ _ _ _ (by simp;omega)).trans c.ry,(heap_setCell_other _ _ _ _ (by simp;omega)).trans c.rt,c.h9,c.n7,c.n8⟩
theorem CCt.all(c:CCt w G m lo sq a b d7 d8 d9 f wx):G<wx.heap.size/\w.heap.size+1+1<wx.heap.size/\d7<wx.heap.size/\d8<wx.heap.size/\d9<wx.heap.size :=
 ⟨c.fld.less,(Array.getElem?_eq_some_iff.1 c.rr).1,(Array.getElem?_eq_some_iff.1 c.rx).1,(Array.getElem?_eq_some_iff.1 c.ry).1,(Array.getElem?_eq_some_iff.1 c.rt).1⟩
theorem prt_put{d k:Nat}(h:wx.heap[d]?=some (.cells (ar .u64 8 fun j=>((prt f k j:Nat):Int)) 81 (0,0)))(hk:k<8):(wx.setCell ⟨d,k,none⟩ (.int .u64 (f k:Nat))).heap[d]?=some (.cells (ar .u64 8 fun j=>((prt f (k+1) j:Nat):Int)) 81 (0,0)):=by
 refine(heap_setCell_same _ _ _ _ _ _ h).trans ?_;rw[ar_upd _ _ _ _ hk,prt_next]
end
structure CCu (w:World) (G m lo sq a b d7 d8 d9:Nat) (f:Nat->Nat) (g v:Nat) (wx:World):Prop where
 c:CCt w G m lo sq a b d7 d8 d9 f wx
 rv:wx.heap[g]?=some (.cells (pw v) 24 (0,0))
section
variable {w wx w':World} {G m lo sq a b d7 d8 d9 g v:Nat} {f:Nat->Nat}
theorem CCu.below(h:CCu w G m lo sq a b d7 d8 d9 f g v wx)(hb:Below wx.heap.size wx w'):CCu w G m lo sq a b d7 d8 d9 f g v w':=⟨h.c.below hb,(hb.block _ (Array.getElem?_eq_some_iff.1 h.rv).1).trans h.rv⟩
theorem CCu.drew(h:CCu w G m lo sq a b d7 d8 d9 f g v wx):CCu w G m lo sq a b d7 d8 d9 f g v wx.drew:=h.below (Below.drew (Below.refl _ _))
theorem CCu.calls{fn:FuncId}{args:Array Value}{r:Value}(h:∀ wx,Calls Tryz.prog fn args wx fun e w'=>e=.returned r/\Below wx.heap.size wx w'):∀ wx,CCu w G m lo sq a b d7 d8 d9 f g v wx->Calls Tryz.prog fn args wx fun e w'=>e=.returned r/\CCu w G m lo sq a b d7 d8 d9 f g v w' :=
 fun wx c=>(h wx).mono fun _ _ hh=>⟨hh.1,c.below hh.2⟩
theorem CCt.lay(c:CCt w G m lo sq a b d7 d8 d9 f wx)(v:Nat):CCu w G m lo sq a b d7 d8 d9 f wx.heap.size v ((wx.alloc (.cells (#[.int .u64 0,.int .u64 0,.int .u64 0,.int .u64 0]) 24)).setRow wx.heap.size (pw v)):=by
 have hb:Below wx.heap.size wx ((wx.alloc (.cells (#[.int .u64 0,.int .u64 0,.int .u64 0,.int .u64 0]) 24)).setRow wx.heap.size (pw v)):=below_setRow ((Below.refl _ _).alloc (Nat.le_refl _) _) (Nat.le_refl _) _;exact⟨c.below hb,setRow_heap _ _ _ _ _ _ (heap_alloc_new _ _)⟩
end
theorem ix_10(d:Nat)(w:World):(Instr.indexAt 109 (.pointer (some ⟨d,0,none⟩)) (.int .i64 8)).run Tryz.prog w=.ok (.pointer (some ⟨d,8,none⟩)) w:=by go_simp
theorem zero10:(ar .u64 10 fun j=>(((fun _=>0:Nat->Nat) j:Nat):Int))=#[.int .u64 0,.int .u64 0,.int .u64 0,.int .u64 0,.int .u64 0,.int .u64 0,.int .u64 0,.int .u64 0,.int .u64 0,.int .u64 0]:=by kernel_rfl
open Go.RowKit
theorem rcut_w(G m lo sq a b:Nat)(hal:a<115792089237316195423570985008687907853269984665640564039457584007913129639936)(hbl:b<115792089237316195423570985008687907853269984665640564039457584007913129639936)(hab:a*b<115792089237316195423570985008687907853269984665640564039457584007913129639936*m)(hm:m<115792089237316195423570985008687907853269984665640564039457584007913129639936)(h1:1<m)(ho:m%2=1)(hll:lo<4294967296)(hlo:(lo*qN m 0+1)%4294967296=0)(w:World)(hF:RFat w G m lo sq):Calls Tryz.prog 55 #[(.pointer (some ⟨G,0,none⟩)),.agg (pw a),.agg (pw b)] w fun e w'=>e=.returned (.agg (pw (mnt m a b)))/\Below w.heap.size w w':=by
 have H0:=Lib.hid (CRf.two hF a b);have HP:=Lib.hid (fun wx=>rparts_any a wx);have HP2:=Lib.hid (fun wx=>rparts_any b wx);have HAB:=Lib.hid hab;have HB:=Lib.hid (And.intro hal (And.intro hbl (And.intro hm (And.intro h1 (And.intro ho (And.intro hll hlo))))));have HZ:=Lib.hid zero10;clear hF hab hal hbl hm h1 ho hll hlo;go_enter Tryz.func55,Tryz.ntmps55
 go_wp2_with fail
 refine region_many [.val 18 ((.agg (pw a))),.val 19 ((.agg (ar .u64 8 fun j=>((qN a j:Nat):Int)))),.val 20 ((.agg (pw b))),.val 21 ((.agg (ar .u64 8 fun j=>((qN b j:Nat):Int)))),.val 22 ((.agg (ar .u64 10 fun j=>(((fun _=>0:Nat->Nat) j:Nat):Int)))),.blk 7 81,.blk 8 81,.blk 9 109,.laid 7 81,.laid 8 81,.laid 9 109] [7,8,9] (fun p=>if p=7 then (ar .u64 8 fun j=>((qN a j:Nat):Int))else if p=8 then (ar .u64 8 fun j=>((qN b j:Nat):Int))else (ar .u64 10 fun j=>(((fun _=>0:Nat->Nat) j:Nat):Int))) (fun i=>i) (by kernel_rfl) (by kernel_rfl) (by exact⟨trivial,trivial,trivial,trivial,trivial,(by simp[Sp.ok]),(by simp[Sp.ok]),(by simp[Sp.ok]),(by simp[Sp.ok]),(by simp[Sp.ok]),(by simp[Sp.ok]),trivial⟩) (by intro p hp q hq hne D e;simp only[List.mem_cons,List.not_mem_nil,or_false]at hp;rcases hp with rfl | rfl | rfl <;> simp[undef]at e) ?_ ?_
 ·refine⟨?_,?_,?_,?_,?_,?_,?_,?_,?_,?_,?_,trivial⟩
  ·intro ac wx hC hsz hK
   have h0:ac.tmps.getD 4 undef=(.pointer (some ⟨w.heap.size,0,none⟩)):=hK.1 4 (by kernel_rfl);exact mm_load 24 (.tmp 4) ((.pointer (some ⟨w.heap.size,0,none⟩))) ((.agg (pw a))) rfl rfl (by kernel_rfl) h0 (ld_pw ((H0.out.below hC.1).is _ _ (by simp))) hC (by kernel_rfl) (by rw[hsz];exact of_decide_eq_true (by kernel_rfl)) rfl
  ·intro ac wx hC hsz hK
   have h0:ac.tmps.getD 18 undef=(.agg (pw a)):=hK.2 ⟨0,.data⟩ (by simp) rfl _ rfl;refine mm_call 78 #[ac.tmps.getD 18 undef] ((.agg (ar .u64 8 fun j=>((qN a j:Nat):Int)))) rfl (by kernel_rfl) (by kernel_rfl) ?_ hC (by kernel_rfl) (by rw[hsz];exact of_decide_eq_true (by kernel_rfl)) rfl;rw[h0];exact HP.out wx
  ·intro ac wx hC hsz hK
   have h0:ac.tmps.getD 5 undef=(.pointer (some ⟨w.heap.size+1,0,none⟩)):=hK.1 5 (by kernel_rfl);exact mm_load 24 (.tmp 5) ((.pointer (some ⟨w.heap.size+1,0,none⟩))) ((.agg (pw b))) rfl rfl (by kernel_rfl) h0 (ld_pw ((H0.out.below hC.1).is _ _ (by simp))) hC (by kernel_rfl) (by rw[hsz];exact of_decide_eq_true (by kernel_rfl)) rfl
  ·intro ac wx hC hsz hK
   have h0:ac.tmps.getD 20 undef=(.agg (pw b)):=hK.2 ⟨2,.data⟩ (by simp) rfl _ rfl;refine mm_call 78 #[ac.tmps.getD 20 undef] ((.agg (ar .u64 8 fun j=>((qN b j:Nat):Int)))) rfl (by kernel_rfl) (by kernel_rfl) ?_ hC (by kernel_rfl) (by rw[hsz];exact of_decide_eq_true (by kernel_rfl)) rfl;rw[h0];exact HP2.out wx
  ·intro ac wx hC hsz hK
   exact mm_val ((.agg (ar .u64 10 fun j=>(((fun _=>0:Nat->Nat) j:Nat):Int)))) rfl (by kernel_rfl) (by kernel_rfl) hC (by kernel_rfl) (by rw[hsz];exact of_decide_eq_true (by kernel_rfl)) rfl
  ·intro ac wx hC hsz hK
   exact mm_new 81 (#[.int .u64 0,.int .u64 0,.int .u64 0,.int .u64 0,.int .u64 0,.int .u64 0,.int .u64 0,.int .u64 0]) rfl (by kernel_rfl) (by kernel_rfl) hC (by simp[ar_size]) (by rw[hsz];exact of_decide_eq_true (by kernel_rfl)) rfl
  ·intro ac wx hC hsz hK
   exact mm_new 81 (#[.int .u64 0,.int .u64 0,.int .u64 0,.int .u64 0,.int .u64 0,.int .u64 0,.int .u64 0,.int .u64 0]) rfl (by kernel_rfl) (by kernel_rfl) hC (by simp[ar_size]) (by rw[hsz];exact of_decide_eq_true (by kernel_rfl)) rfl
  ·intro ac wx hC hsz hK
   exact mm_new 109 (#[.int .u64 0,.int .u64 0,.int .u64 0,.int .u64 0,.int .u64 0,.int .u64 0,.int .u64 0,.int .u64 0,.int .u64 0,.int .u64 0]) rfl (by kernel_rfl) (by kernel_rfl) hC (by simp[ar_size]) (by rw[hsz];exact of_decide_eq_true (by kernel_rfl)) rfl
  ·intro ac wx hC hsz hK
   have h0:ac.tmps.getD 19 undef=(.agg (ar .u64 8 fun j=>((qN a j:Nat):Int))):=hK.2 ⟨1,.data⟩ (by simp) rfl _ rfl;exact mm_store (p:=7) 81 (.tmp 7) (.tmp 19) _ rfl rfl (by kernel_rfl) rfl h0 (by simp) (hK.2 ⟨5,.data⟩ (by simp) rfl _ rfl) (fun D cs h3 h4=>store_8 (h4.trans (by simp[ar_size])) h3) hC rfl
  ·intro ac wx hC hsz hK
   have h0:ac.tmps.getD 21 undef=(.agg (ar .u64 8 fun j=>((qN b j:Nat):Int))):=hK.2 ⟨3,.data⟩ (by simp) rfl _ rfl;exact mm_store (p:=8) 81 (.tmp 8) (.tmp 21) _ rfl rfl (by kernel_rfl) rfl h0 (by simp) (hK.2 ⟨6,.data⟩ (by simp) rfl _ rfl) (fun D cs h3 h4=>store_8 (h4.trans (by simp[ar_size])) h3) hC rfl
  ·intro ac wx hC hsz hK
   have h0:ac.tmps.getD 22 undef=(.agg (ar .u64 10 fun j=>(((fun _=>0:Nat->Nat) j:Nat):Int))):=hK.2 ⟨4,.data⟩ (by simp) rfl _ rfl;exact mm_store (p:=9) 109 (.tmp 9) (.tmp 22) _ rfl rfl (by kernel_rfl) rfl h0 (by simp) (hK.2 ⟨7,.data⟩ (by simp) rfl _ rfl) (fun D cs h3 h4=>store_10 (h4.trans (by simp[ar_size])) h3) hC rfl
 intro f1 w1 hb1 hap hf1;obtain⟨D7,s7,ge7,r7⟩:=hf1 8 _ rfl;obtain⟨D8,s8,ge8,r8⟩:=hf1 9 _ rfl;obtain⟨D9,s9,ge9,r9⟩:=hf1 10 _ rfl;have n7:D7≠D9:=hap.ne 7 (by simp) 9 (by simp) (by omega) D7 D9 s7 s9 ge7 ge9;have n8:D8≠D9:=hap.ne 8 (by simp) 9 (by simp) (by omega) D8 D9 s8 s9 ge8 ge9;have H1:=Lib.hid (show CCt w G m lo sq a b D7 D8 D9 (fun _=>0) w1 from by
  have c:=H0.out.below hb1;have hs:(((w.alloc (.cells (pw a) 24)).alloc (.cells (pw b) 24)).alloc (.cells (#[.int .u64 0,.int .u64 0,.int .u64 0,.int .u64 0]) 24)).heap.size=w.heap.size+1+1+1:=by simp
  exact⟨c.old,c.fld,c.hG,c.is _ _ (by simp),r7,r8,r9,by omega,n7,n8⟩)
 clear hf1 hap hb1 H0 HP HP2 r7 r8 r9 ge7 ge8 ge9 n7 n8;generalize hAct:putAll _ _ _=A1 at *;have s7':A1.tmps.getD 7 undef=.pointer (some ⟨D7,0,none⟩):=s7;have s8':A1.tmps.getD 8 undef=.pointer (some ⟨D8,0,none⟩):=s8;have s9':A1.tmps.getD 9 undef=.pointer (some ⟨D9,0,none⟩):=s9;have s0:A1.tmps.getD 0 undef=(.pointer (some ⟨G,0,none⟩)):=by subst hAct;kernel_rfl
 have s6:A1.tmps.getD 6 undef=.pointer (some ⟨w.heap.size+1+1,0,none⟩):=by subst hAct;kernel_rfl
 have hsz:A1.tmps.size=147:=by rw[<- hAct,putAll_size];rfl
 have hdf:A1.defers=[]:=by subst hAct;kernel_rfl
 clear hAct s7 s8 s9 f1;obtain⟨u1,t1⟩:∃ u,A1.tmps.getD 1 undef=u:=⟨_,rfl⟩
 obtain⟨u2,t2⟩:∃ u,A1.tmps.getD 2 undef=u:=⟨_,rfl⟩
 obtain⟨u3,t3⟩:∃ u,A1.tmps.getD 3 undef=u:=⟨_,rfl⟩
 obtain⟨u4,t4⟩:∃ u,A1.tmps.getD 4 undef=u:=⟨_,rfl⟩
 obtain⟨u5,t5⟩:∃ u,A1.tmps.getD 5 undef=u:=⟨_,rfl⟩
 obtain⟨u10,t10⟩:∃ u,A1.tmps.getD 10 undef=u:=⟨_,rfl⟩
 obtain⟨u11,t11⟩:∃ u,A1.tmps.getD 11 undef=u:=⟨_,rfl⟩
 obtain⟨u12,t12⟩:∃ u,A1.tmps.getD 12 undef=u:=⟨_,rfl⟩
 obtain⟨u13,t13⟩:∃ u,A1.tmps.getD 13 undef=u:=⟨_,rfl⟩
 obtain⟨u14,t14⟩:∃ u,A1.tmps.getD 14 undef=u:=⟨_,rfl⟩
 obtain⟨u15,t15⟩:∃ u,A1.tmps.getD 15 undef=u:=⟨_,rfl⟩
 obtain⟨u16,t16⟩:∃ u,A1.tmps.getD 16 undef=u:=⟨_,rfl⟩
 obtain⟨u17,t17⟩:∃ u,A1.tmps.getD 17 undef=u:=⟨_,rfl⟩
 obtain⟨u18,t18⟩:∃ u,A1.tmps.getD 18 undef=u:=⟨_,rfl⟩
 obtain⟨u19,t19⟩:∃ u,A1.tmps.getD 19 undef=u:=⟨_,rfl⟩
 obtain⟨u20,t20⟩:∃ u,A1.tmps.getD 20 undef=u:=⟨_,rfl⟩
 obtain⟨u21,t21⟩:∃ u,A1.tmps.getD 21 undef=u:=⟨_,rfl⟩
 obtain⟨u22,t22⟩:∃ u,A1.tmps.getD 22 undef=u:=⟨_,rfl⟩
 obtain⟨u23,t23⟩:∃ u,A1.tmps.getD 23 undef=u:=⟨_,rfl⟩
 obtain⟨u24,t24⟩:∃ u,A1.tmps.getD 24 undef=u:=⟨_,rfl⟩
 obtain⟨u25,t25⟩:∃ u,A1.tmps.getD 25 undef=u:=⟨_,rfl⟩
 obtain⟨u26,t26⟩:∃ u,A1.tmps.getD 26 undef=u:=⟨_,rfl⟩
 obtain⟨u27,t27⟩:∃ u,A1.tmps.getD 27 undef=u:=⟨_,rfl⟩
 obtain⟨u28,t28⟩:∃ u,A1.tmps.getD 28 undef=u:=⟨_,rfl⟩
 obtain⟨u29,t29⟩:∃ u,A1.tmps.getD 29 undef=u:=⟨_,rfl⟩
 obtain⟨u30,t30⟩:∃ u,A1.tmps.getD 30 undef=u:=⟨_,rfl⟩
 obtain⟨u31,t31⟩:∃ u,A1.tmps.getD 31 undef=u:=⟨_,rfl⟩
 obtain⟨u32,t32⟩:∃ u,A1.tmps.getD 32 undef=u:=⟨_,rfl⟩
 obtain⟨u33,t33⟩:∃ u,A1.tmps.getD 33 undef=u:=⟨_,rfl⟩
 obtain⟨u34,t34⟩:∃ u,A1.tmps.getD 34 undef=u:=⟨_,rfl⟩
 obtain⟨u35,t35⟩:∃ u,A1.tmps.getD 35 undef=u:=⟨_,rfl⟩
 obtain⟨u36,t36⟩:∃ u,A1.tmps.getD 36 undef=u:=⟨_,rfl⟩
 obtain⟨u37,t37⟩:∃ u,A1.tmps.getD 37 undef=u:=⟨_,rfl⟩
 obtain⟨u38,t38⟩:∃ u,A1.tmps.getD 38 undef=u:=⟨_,rfl⟩
 obtain⟨u39,t39⟩:∃ u,A1.tmps.getD 39 undef=u:=⟨_,rfl⟩
 obtain⟨u40,t40⟩:∃ u,A1.tmps.getD 40 undef=u:=⟨_,rfl⟩
 obtain⟨u41,t41⟩:∃ u,A1.tmps.getD 41 undef=u:=⟨_,rfl⟩
 obtain⟨u42,t42⟩:∃ u,A1.tmps.getD 42 undef=u:=⟨_,rfl⟩
 obtain⟨u43,t43⟩:∃ u,A1.tmps.getD 43 undef=u:=⟨_,rfl⟩
 obtain⟨u44,t44⟩:∃ u,A1.tmps.getD 44 undef=u:=⟨_,rfl⟩
 obtain⟨u45,t45⟩:∃ u,A1.tmps.getD 45 undef=u:=⟨_,rfl⟩
 obtain⟨u46,t46⟩:∃ u,A1.tmps.getD 46 undef=u:=⟨_,rfl⟩
 obtain⟨u47,t47⟩:∃ u,A1.tmps.getD 47 undef=u:=⟨_,rfl⟩
 obtain⟨u48,t48⟩:∃ u,A1.tmps.getD 48 undef=u:=⟨_,rfl⟩
 obtain⟨u49,t49⟩:∃ u,A1.tmps.getD 49 undef=u:=⟨_,rfl⟩
 obtain⟨u50,t50⟩:∃ u,A1.tmps.getD 50 undef=u:=⟨_,rfl⟩
 obtain⟨u51,t51⟩:∃ u,A1.tmps.getD 51 undef=u:=⟨_,rfl⟩
 obtain⟨u52,t52⟩:∃ u,A1.tmps.getD 52 undef=u:=⟨_,rfl⟩
 obtain⟨u53,t53⟩:∃ u,A1.tmps.getD 53 undef=u:=⟨_,rfl⟩
 obtain⟨u54,t54⟩:∃ u,A1.tmps.getD 54 undef=u:=⟨_,rfl⟩
 obtain⟨u55,t55⟩:∃ u,A1.tmps.getD 55 undef=u:=⟨_,rfl⟩
 obtain⟨u56,t56⟩:∃ u,A1.tmps.getD 56 undef=u:=⟨_,rfl⟩
 obtain⟨u57,t57⟩:∃ u,A1.tmps.getD 57 undef=u:=⟨_,rfl⟩
 obtain⟨u58,t58⟩:∃ u,A1.tmps.getD 58 undef=u:=⟨_,rfl⟩
 obtain⟨u59,t59⟩:∃ u,A1.tmps.getD 59 undef=u:=⟨_,rfl⟩
 obtain⟨u60,t60⟩:∃ u,A1.tmps.getD 60 undef=u:=⟨_,rfl⟩
 obtain⟨u61,t61⟩:∃ u,A1.tmps.getD 61 undef=u:=⟨_,rfl⟩
 obtain⟨u62,t62⟩:∃ u,A1.tmps.getD 62 undef=u:=⟨_,rfl⟩
 obtain⟨u63,t63⟩:∃ u,A1.tmps.getD 63 undef=u:=⟨_,rfl⟩
 obtain⟨u64,t64⟩:∃ u,A1.tmps.getD 64 undef=u:=⟨_,rfl⟩
 obtain⟨u65,t65⟩:∃ u,A1.tmps.getD 65 undef=u:=⟨_,rfl⟩
 obtain⟨u66,t66⟩:∃ u,A1.tmps.getD 66 undef=u:=⟨_,rfl⟩
 obtain⟨u67,t67⟩:∃ u,A1.tmps.getD 67 undef=u:=⟨_,rfl⟩
 obtain⟨u68,t68⟩:∃ u,A1.tmps.getD 68 undef=u:=⟨_,rfl⟩
 obtain⟨u69,t69⟩:∃ u,A1.tmps.getD 69 undef=u:=⟨_,rfl⟩
 obtain⟨u70,t70⟩:∃ u,A1.tmps.getD 70 undef=u:=⟨_,rfl⟩
 obtain⟨u71,t71⟩:∃ u,A1.tmps.getD 71 undef=u:=⟨_,rfl⟩
 obtain⟨u72,t72⟩:∃ u,A1.tmps.getD 72 undef=u:=⟨_,rfl⟩
 obtain⟨u73,t73⟩:∃ u,A1.tmps.getD 73 undef=u:=⟨_,rfl⟩
 obtain⟨u74,t74⟩:∃ u,A1.tmps.getD 74 undef=u:=⟨_,rfl⟩
 obtain⟨u75,t75⟩:∃ u,A1.tmps.getD 75 undef=u:=⟨_,rfl⟩
 obtain⟨u76,t76⟩:∃ u,A1.tmps.getD 76 undef=u:=⟨_,rfl⟩
 obtain⟨u77,t77⟩:∃ u,A1.tmps.getD 77 undef=u:=⟨_,rfl⟩
 obtain⟨u78,t78⟩:∃ u,A1.tmps.getD 78 undef=u:=⟨_,rfl⟩
 obtain⟨u79,t79⟩:∃ u,A1.tmps.getD 79 undef=u:=⟨_,rfl⟩
 obtain⟨u80,t80⟩:∃ u,A1.tmps.getD 80 undef=u:=⟨_,rfl⟩
 obtain⟨u81,t81⟩:∃ u,A1.tmps.getD 81 undef=u:=⟨_,rfl⟩
 obtain⟨u82,t82⟩:∃ u,A1.tmps.getD 82 undef=u:=⟨_,rfl⟩
 obtain⟨u83,t83⟩:∃ u,A1.tmps.getD 83 undef=u:=⟨_,rfl⟩
 obtain⟨u84,t84⟩:∃ u,A1.tmps.getD 84 undef=u:=⟨_,rfl⟩
 obtain⟨u85,t85⟩:∃ u,A1.tmps.getD 85 undef=u:=⟨_,rfl⟩
 obtain⟨u86,t86⟩:∃ u,A1.tmps.getD 86 undef=u:=⟨_,rfl⟩
 obtain⟨u87,t87⟩:∃ u,A1.tmps.getD 87 undef=u:=⟨_,rfl⟩
 obtain⟨u88,t88⟩:∃ u,A1.tmps.getD 88 undef=u:=⟨_,rfl⟩
 obtain⟨u89,t89⟩:∃ u,A1.tmps.getD 89 undef=u:=⟨_,rfl⟩
 obtain⟨u90,t90⟩:∃ u,A1.tmps.getD 90 undef=u:=⟨_,rfl⟩
 obtain⟨u91,t91⟩:∃ u,A1.tmps.getD 91 undef=u:=⟨_,rfl⟩
 obtain⟨u92,t92⟩:∃ u,A1.tmps.getD 92 undef=u:=⟨_,rfl⟩
 obtain⟨u93,t93⟩:∃ u,A1.tmps.getD 93 undef=u:=⟨_,rfl⟩
 obtain⟨u94,t94⟩:∃ u,A1.tmps.getD 94 undef=u:=⟨_,rfl⟩
 obtain⟨u95,t95⟩:∃ u,A1.tmps.getD 95 undef=u:=⟨_,rfl⟩
 obtain⟨u96,t96⟩:∃ u,A1.tmps.getD 96 undef=u:=⟨_,rfl⟩
 obtain⟨u97,t97⟩:∃ u,A1.tmps.getD 97 undef=u:=⟨_,rfl⟩
 obtain⟨u98,t98⟩:∃ u,A1.tmps.getD 98 undef=u:=⟨_,rfl⟩
 obtain⟨u99,t99⟩:∃ u,A1.tmps.getD 99 undef=u:=⟨_,rfl⟩
 obtain⟨u100,t100⟩:∃ u,A1.tmps.getD 100 undef=u:=⟨_,rfl⟩
 obtain⟨u101,t101⟩:∃ u,A1.tmps.getD 101 undef=u:=⟨_,rfl⟩
 obtain⟨u102,t102⟩:∃ u,A1.tmps.getD 102 undef=u:=⟨_,rfl⟩
 obtain⟨u103,t103⟩:∃ u,A1.tmps.getD 103 undef=u:=⟨_,rfl⟩
 obtain⟨u104,t104⟩:∃ u,A1.tmps.getD 104 undef=u:=⟨_,rfl⟩
 obtain⟨u105,t105⟩:∃ u,A1.tmps.getD 105 undef=u:=⟨_,rfl⟩
 obtain⟨u106,t106⟩:∃ u,A1.tmps.getD 106 undef=u:=⟨_,rfl⟩
 obtain⟨u107,t107⟩:∃ u,A1.tmps.getD 107 undef=u:=⟨_,rfl⟩
 obtain⟨u108,t108⟩:∃ u,A1.tmps.getD 108 undef=u:=⟨_,rfl⟩
 obtain⟨u109,t109⟩:∃ u,A1.tmps.getD 109 undef=u:=⟨_,rfl⟩
 obtain⟨u110,t110⟩:∃ u,A1.tmps.getD 110 undef=u:=⟨_,rfl⟩
 obtain⟨u111,t111⟩:∃ u,A1.tmps.getD 111 undef=u:=⟨_,rfl⟩
 obtain⟨u112,t112⟩:∃ u,A1.tmps.getD 112 undef=u:=⟨_,rfl⟩
 obtain⟨u113,t113⟩:∃ u,A1.tmps.getD 113 undef=u:=⟨_,rfl⟩
 obtain⟨u114,t114⟩:∃ u,A1.tmps.getD 114 undef=u:=⟨_,rfl⟩
 obtain⟨u115,t115⟩:∃ u,A1.tmps.getD 115 undef=u:=⟨_,rfl⟩
 obtain⟨u116,t116⟩:∃ u,A1.tmps.getD 116 undef=u:=⟨_,rfl⟩
 obtain⟨u117,t117⟩:∃ u,A1.tmps.getD 117 undef=u:=⟨_,rfl⟩
 obtain⟨u118,t118⟩:∃ u,A1.tmps.getD 118 undef=u:=⟨_,rfl⟩
 obtain⟨u119,t119⟩:∃ u,A1.tmps.getD 119 undef=u:=⟨_,rfl⟩
 obtain⟨u120,t120⟩:∃ u,A1.tmps.getD 120 undef=u:=⟨_,rfl⟩
 obtain⟨u121,t121⟩:∃ u,A1.tmps.getD 121 undef=u:=⟨_,rfl⟩
 obtain⟨u122,t122⟩:∃ u,A1.tmps.getD 122 undef=u:=⟨_,rfl⟩
 obtain⟨u123,t123⟩:∃ u,A1.tmps.getD 123 undef=u:=⟨_,rfl⟩
 obtain⟨u124,t124⟩:∃ u,A1.tmps.getD 124 undef=u:=⟨_,rfl⟩
 obtain⟨u125,t125⟩:∃ u,A1.tmps.getD 125 undef=u:=⟨_,rfl⟩
 obtain⟨u126,t126⟩:∃ u,A1.tmps.getD 126 undef=u:=⟨_,rfl⟩
 obtain⟨u127,t127⟩:∃ u,A1.tmps.getD 127 undef=u:=⟨_,rfl⟩
 obtain⟨u128,t128⟩:∃ u,A1.tmps.getD 128 undef=u:=⟨_,rfl⟩
 obtain⟨u129,t129⟩:∃ u,A1.tmps.getD 129 undef=u:=⟨_,rfl⟩
 obtain⟨u130,t130⟩:∃ u,A1.tmps.getD 130 undef=u:=⟨_,rfl⟩
 obtain⟨u131,t131⟩:∃ u,A1.tmps.getD 131 undef=u:=⟨_,rfl⟩
 obtain⟨u132,t132⟩:∃ u,A1.tmps.getD 132 undef=u:=⟨_,rfl⟩
 obtain⟨u133,t133⟩:∃ u,A1.tmps.getD 133 undef=u:=⟨_,rfl⟩
 obtain⟨u134,t134⟩:∃ u,A1.tmps.getD 134 undef=u:=⟨_,rfl⟩
 obtain⟨u135,t135⟩:∃ u,A1.tmps.getD 135 undef=u:=⟨_,rfl⟩
 obtain⟨u136,t136⟩:∃ u,A1.tmps.getD 136 undef=u:=⟨_,rfl⟩
 obtain⟨u137,t137⟩:∃ u,A1.tmps.getD 137 undef=u:=⟨_,rfl⟩
 obtain⟨u138,t138⟩:∃ u,A1.tmps.getD 138 undef=u:=⟨_,rfl⟩
 obtain⟨u139,t139⟩:∃ u,A1.tmps.getD 139 undef=u:=⟨_,rfl⟩
 obtain⟨u140,t140⟩:∃ u,A1.tmps.getD 140 undef=u:=⟨_,rfl⟩
 obtain⟨u141,t141⟩:∃ u,A1.tmps.getD 141 undef=u:=⟨_,rfl⟩
 obtain⟨u142,t142⟩:∃ u,A1.tmps.getD 142 undef=u:=⟨_,rfl⟩
 obtain⟨u143,t143⟩:∃ u,A1.tmps.getD 143 undef=u:=⟨_,rfl⟩
 obtain⟨u144,t144⟩:∃ u,A1.tmps.getD 144 undef=u:=⟨_,rfl⟩
 obtain⟨u145,t145⟩:∃ u,A1.tmps.getD 145 undef=u:=⟨_,rfl⟩
 obtain⟨u146,t146⟩:∃ u,A1.tmps.getD 146 undef=u:=⟨_,rfl⟩
 obtain⟨tm,df⟩:=A1;simp only at *;have hLt:=arr_litS tm;rw[hsz]at hLt;simp only[List.range,List.range.loop,List.map]at hLt;rw[s0,t1,t2,t3,t4,t5,s6,s7',s8',s9',t10,t11,t12,t13,t14,t15,t16,t17,t18,t19,t20,t21,t22,t23,t24,t25,t26,t27,t28,t29,t30,t31,t32,t33,t34,t35,t36,t37,t38,t39,t40,t41,t42,t43,t44,t45,t46,t47,t48,t49,t50,t51,t52,t53,t54,t55,t56,t57,t58,t59,t60,t61,t62,t63,t64,t65,t66,t67,t68,t69,t70,t71,t72,t73,t74,t75,t76,t77,t78,t79,t80,t81,t82,t83,t84,t85,t86,t87,t88,t89,t90,t91,t92,t93,t94,t95,t96,t97,t98,t99,t100,t101,t102,t103,t104,t105,t106,t107,t108,t109,t110,t111,t112,t113,t114,t115,t116,t117,t118,t119,t120,t121,t122,t123,t124,t125,t126,t127,t128,t129,t130,t131,t132,t133,t134,t135,t136,t137,t138,t139,t140,t141,t142,t143,t144,t145,t146]at hLt;subst hLt hdf;clear s0 t1 t2 t3 t4 t5 s6 s7' s8' s9' t10 t11 t12 t13 t14 t15 t16 t17 t18 t19 t20 t21 t22 t23 t24 t25 t26 t27 t28 t29 t30 t31 t32 t33 t34 t35 t36 t37 t38 t39 t40 t41 t42 t43 t44 t45 t46 t47 t48 t49 t50 t51 t52 t53 t54 t55 t56 t57 t58 t59 t60 t61 t62 t63 t64 t65 t66 t67 t68 t69 t70 t71 t72 t73 t74 t75 t76 t77 t78 t79 t80 t81 t82 t83 t84 t85 t86 t87 t88 t89 t90 t91 t92 t93 t94 t95 t96 t97 t98 t99 t100 t101 t102 t103 t104 t105 t106 t107 t108 t109 t110 t111 t112 t113 t114 t115 t116 t117 t118 t119 t120 t121 t122 t123 t124 t125 t126 t127 t128 t129 t130 t131 t132 t133 t134 t135 t136 t137 t138 t139 t140 t141 t142 t143 t144 t145 t146 hsz;have HZ0:=Lib.hid (CutI.start a (qN b) (by have:=HB.out.2.2.2.1;omega:0<m))
 go_wp2_with fail
 go_loopw [10] (fun iv wr=>∃(k:Nat) (f:Nat->Nat),k<=8/\iv=.int .i64 k/\Hid (CutI m a (qN b) k f/\CCt w G m lo sq a b D7 D8 D9 f wr)) (fun iv _=>8 - (intOf iv).toNat)
 case atStart=>exact⟨0,_,by omega,rfl,Lib.hid ⟨HZ0.out,H1.out⟩⟩
 case round =>
  obtain⟨k,f,hk,rfl,H⟩:=hrel;clear H1 HZ0;have hk0:(0:Int)<=k:=by omega
  by_cases hlt:k<8
  ·have hk8:(k:Int)<8:=by omega
   have HK:=Lib.hid hlt;have HY:=Lib.hid (qN_lt b k);obtain⟨y,hy⟩:∃ y,qN b k=y:=⟨_,rfl⟩
   have HYe:=Lib.hid hy;rw[hy]at HY;clear hlt hk hy
   go_wp2_with fail
   go_loopw [11,12] (fun cv jv wq=>∃(c j:Nat) (f1:Nat->Nat),j<=8/\cv=.int .u64 c/\jv=.int .i64 j/\Hid (In1 f (qN a) y j c f1/\CCt w G m lo sq a b D7 D8 D9 f1 wq)) (fun _ jv _=>8 - (intOf jv).toNat)
   case atStart=>exact⟨0,0,f,by omega,rfl,rfl,Lib.hid ⟨In1.start _ _ _,H.out.2⟩⟩
   case round =>
    obtain⟨c,j,f1,hj,rfl,rfl,I⟩:=hrel;have hj0:(0:Int)<=j:=by omega
    by_cases hlj:j<8
    ·have hj8:(j:Int)<8:=by omega
     have hj10:(j:Int)<10:=by omega
     have ct:=I.out.2.ct j (by omega);have cx:=I.out.2.cx j hlj;have cy:=I.out.2.cy k HK.out;have fz:=I.out.2.fz j;rw[HYe.out]at cy;rw[I.out.1.hi j (Nat.le_refl _)]at ct;have hb:=I.out.1.big (H.out.1.lo j hlj) (qN_lt a j) HY.out;have hcl:=I.out.1.cl;have hfl:=H.out.1.lo j hlj;have hst:=Lib.hid (fun d hd=>I.out.1.step (d:=d) (H.out.1.lo j hlj) (qN_lt a j) HY.out hd);obtain⟨t,ht⟩:∃ t,f j=t:=⟨_,rfl⟩
     obtain⟨x,hx⟩:∃ x,qN a j=x:=⟨_,rfl⟩
     rw[ht]at ct hb hst hfl;rw[hx]at cx hb hst;obtain⟨pr,hpr⟩:∃ pr,x*y=pr:=⟨_,rfl⟩
     rw[hpr]at hb hst;obtain⟨s1,hs1⟩:∃ s1,c+t=s1:=⟨_,rfl⟩
     rw[hs1]at hb hst;obtain⟨d,hd⟩:∃ d,s1+pr=d:=⟨_,rfl⟩
     have hW1:IntKind.u64.wrap ((c:Int)+(t:Int))=(s1:Int):=by rw[IntKind.wrap_u64];omega
     have hW2:IntKind.u64.wrap ((x:Int)*(y:Int))=(pr:Int):=by rw[IntKind.wrap_u64,show(x:Int)*y=(pr:Int) from by rw[<- hpr,Int.natCast_mul]];omega
     have hW3:IntKind.u64.wrap ((s1:Int)+(pr:Int))=(d:Int):=by rw[IntKind.wrap_u64];omega
     have hdl:d<18446744073709551616:=by omega
     obtain⟨dl,hdl2⟩:∃ dl,d%4294967296=dl:=⟨_,rfl⟩
     obtain⟨dh,hdh⟩:∃ dh,d / 4294967296=dh:=⟨_,rfl⟩
     have hA:bits .and .u64 (d:Int) 4294967295=(dl:Int):=by rw[and_low32 d hdl,hdl2]
     have hS:(d:Int) / 4294967296=(dh:Int):=by omega
     have hst:=Lib.hid (hst.out d hd);rw[hdl2,hdh]at hst;have HJ:=Lib.hid hlj;clear hb hcl hfl ht hx hpr hs1 hd hdl hdl2 hdh hlj hj
     go_wp2_with fail
     go_region
     go_wp2_with fail
     go_roundw
     case rel=>exact⟨dh,j+1,updN f1 j dl,by have:=HJ.out;omega,rfl,by go_num,Lib.hid ⟨hst.out,I.out.2.drew.put j dl (by have:=HJ.out;omega)⟩⟩
     case measure=>have:=HJ.out;simp[intOf];omega
    ·have hj8:¬(j:Int)<8:=by omega
     obtain rfl:j=8:=by omega
     have c8:=I.out.2.ct 8 (by omega);have c9:=I.out.2.ct 9 (by omega);have z8:=I.out.2.fz 8;have z9:=I.out.2.fz 9;have ht8:=H.out.1.top HB.out.1 HB.out.2.2.1;have h18:=I.out.1.hi 8 (by omega);have hcl:=I.out.1.cl;obtain⟨t8,hte⟩:∃ t8,f1 8=t8:=⟨_,rfl⟩
     rw[<- h18,hte]at ht8;rw[hte]at c8;obtain⟨e,he⟩:∃ e,c+t8=e:=⟨_,rfl⟩
     have hW:IntKind.u64.wrap ((c:Int)+(t8:Int))=(e:Int):=by rw[IntKind.wrap_u64];omega
     have hel:e<18446744073709551616:=by omega
     obtain⟨el,hel2⟩:∃ el,e%4294967296=el:=⟨_,rfl⟩
     obtain⟨eh,heh⟩:∃ eh,e / 4294967296=eh:=⟨_,rfl⟩
     have hA:bits .and .u64 (e:Int) 4294967295=(el:Int):=by rw[and_low32 e hel,hel2]
     have hS:(e:Int) / 4294967296=(eh:Int):=by omega
     have HE:=Lib.hid (And.intro (show c+f1 8=e from by rw[hte];exact he) (And.intro hel2 (And.intro heh (show e<4294967300 by omega))));have hcl2:=Lib.hid hcl;clear ht8 h18 hte he hel hel2 heh hj hlj hcl
     go_wp2_with fail
     obtain⟨w3,hw3⟩:∃ w3,(wr.setCell ⟨D9,8,none⟩ (.int .u64 (el:Nat))).setCell ⟨D9,9,none⟩ (.int .u64 (eh:Nat))=w3:=⟨_,rfl⟩
     obtain⟨F,hFe⟩:∃ F,updN (updN f1 8 el) 9 eh=F:=⟨_,rfl⟩
     have J:=Lib.hid (show CCt w G m lo sq a b D7 D8 D9 F w3 from by rw[<- hw3,<- hFe];exact(I.out.2.put 8 el (by omega)).put 9 eh (by omega));have HFe:=Lib.hid hFe;have hF0:F 0<4294967296:=by rw[<- hFe,updN_ne _ _ _ (by omega),updN_ne _ _ _ (by omega)];exact I.out.1.lo 0 (by omega)
     have HFl:=Lib.hid (show ∀ i,i<8->F i<4294967296 from fun i hi=>by rw[<- hFe,updN_ne _ _ _ (by omega),updN_ne _ _ _ (by omega)];exact I.out.1.lo i hi);have I1:=Lib.hid I.out.1;rw[hw3];clear hw3 hFe I hW hA hS c8 c9 z8 z9;have ct:=J.out.ct 0 (by omega);have cl:=J.out.cl;have cq:w3.cell? ⟨G,4,none⟩=some (.int .u64 (qN m 0:Nat)):=J.out.cq 0 (by omega);have hql:=qN_lt m 0;have hll:=HB.out.2.2.2.2.2.1;have hlo:=HB.out.2.2.2.2.2.2;obtain⟨x0,hx0⟩:∃ x0,F 0=x0:=⟨_,rfl⟩
     obtain⟨q0,hq0⟩:∃ q0,qN m 0=q0:=⟨_,rfl⟩
     have HX0:=Lib.hid (And.intro hx0 hq0);rw[hx0]at ct hF0;rw[hq0]at cq hql hlo;have hb2:x0*lo<=4294967295*4294967295:=Nat.mul_le_mul (by omega) (by omega);obtain⟨p2,hp2⟩:∃ p2,x0*lo=p2:=⟨_,rfl⟩
     obtain⟨kk,hkk⟩:∃ kk,p2%4294967296=kk:=⟨_,rfl⟩
     rw[hp2]at hb2;have hkl:kk<4294967296:=by omega
     have hb3:kk*q0<=4294967295*4294967295:=Nat.mul_le_mul (by omega) (by omega);have hdv:=cut_low (k:=kk) hlo (by rw[hp2,hkk]);obtain⟨p3,hp3⟩:∃ p3,kk*q0=p3:=⟨_,rfl⟩
     rw[hp3]at hb3 hdv;obtain⟨s3,hs3⟩:∃ s3,x0+p3=s3:=⟨_,rfl⟩
     rw[hs3]at hdv;obtain⟨c3,hc3⟩:∃ c3,s3 / 4294967296=c3:=⟨_,rfl⟩
     have hV2:IntKind.u64.wrap ((x0:Int)*(lo:Int))=(p2:Int):=by rw[IntKind.wrap_u64,show(x0:Int)*lo=(p2:Int) from by rw[<- hp2,Int.natCast_mul]];omega
     have hA2:bits .and .u64 (p2:Int) 4294967295=(kk:Int):=by rw[and_low32 p2 (by omega),hkk]
     have hV3:IntKind.u64.wrap ((kk:Int)*(q0:Int))=(p3:Int):=by rw[IntKind.wrap_u64,show(kk:Int)*q0=(p3:Int) from by rw[<- hp3,Int.natCast_mul]];omega
     have hV4:IntKind.u64.wrap ((x0:Int)+(p3:Int))=(s3:Int):=by rw[IntKind.wrap_u64];omega
     have hS3:(s3:Int) / 4294967296=(c3:Int):=by omega
     have I2:=Lib.hid (show In2 F (qN m) kk 0 c3 F from In2.start (d:=s3) (by rw[HX0.out.1,HX0.out.2,hp3,hs3]) hdv (by omega) hc3);have HKL:=Lib.hid hkl;clear hql hll hlo hx0 hq0 hF0 hb2 hp2 hkk hkl hb3 hdv hp3 hs3 hc3
     go_region
     go_wp2_with fail
     go_region
     go_wp2_with fail
     go_loopw [11,14] (fun cv jv wq=>∃(c i:Nat) (g:Nat->Nat),i<=7/\cv=.int .u64 c/\jv=.int .i64 ((i:Int)+1)/\Hid (In2 F (qN m) kk i c g/\CCt w G m lo sq a b D7 D8 D9 g wq)) (fun _ jv _=>8 - (intOf jv).toNat)
     case atStart=>exact⟨c3,0,F,by omega,rfl,by go_num,Lib.hid ⟨I2.out,J.out.drew.drew⟩⟩
     case round =>
      obtain⟨c,i,g,hi,rfl,rfl,I⟩:=hrel;clear I2 ct cl cq hV2 hA2 hV3 hV4 hS3 J;have hi0:(0:Int)<=i:=by omega
      have hi1:(0:Int)<=(i:Int)+1:=by omega
      by_cases hli:i<7
      ·have hi8:(i:Int)+1<8:=by omega
       have hi10:(i:Int)+1<10:=by omega
       have hi10':(i:Int)<10:=by omega
       have ct:=I.out.2.ct (i+1) (by omega);have ci:=I.out.2.ct i (by omega);have cq:=I.out.2.cq (i+1) (by omega);have fz:=I.out.2.fz i;rw[I.out.1.hi (i+1) (by omega)]at ct;have hb:=I.out.1.big (HFl.out (i+1) (by omega)) (qN_lt m _) HKL.out;have hcl:=I.out.1.cl;have hfl:=HFl.out (i+1) (by omega);have hst:=Lib.hid (fun d hd=>I.out.1.step (d:=d) (HFl.out (i+1) (by omega)) (qN_lt m _) HKL.out hd);obtain⟨t,ht⟩:∃ t,F (i+1)=t:=⟨_,rfl⟩
       obtain⟨x,hx⟩:∃ x,qN m (i+1)=x:=⟨_,rfl⟩
       rw[ht]at ct hb hst hfl;rw[hx]at cq hb hst;obtain⟨pr,hpr⟩:∃ pr,kk*x=pr:=⟨_,rfl⟩
       rw[hpr]at hb hst;obtain⟨s1,hs1⟩:∃ s1,c+t=s1:=⟨_,rfl⟩
       rw[hs1]at hb hst;obtain⟨d,hd⟩:∃ d,s1+pr=d:=⟨_,rfl⟩
       have hW1:IntKind.u64.wrap ((c:Int)+(t:Int))=(s1:Int):=by rw[IntKind.wrap_u64];omega
       have hW2:IntKind.u64.wrap ((kk:Int)*(x:Int))=(pr:Int):=by rw[IntKind.wrap_u64,show(kk:Int)*x=(pr:Int) from by rw[<- hpr,Int.natCast_mul]];omega
       have hW3:IntKind.u64.wrap ((s1:Int)+(pr:Int))=(d:Int):=by rw[IntKind.wrap_u64];omega
       have hdl:d<18446744073709551616:=by omega
       obtain⟨dl,hdl2⟩:∃ dl,d%4294967296=dl:=⟨_,rfl⟩
       obtain⟨dh,hdh⟩:∃ dh,d / 4294967296=dh:=⟨_,rfl⟩
       have hA:bits .and .u64 (d:Int) 4294967295=(dl:Int):=by rw[and_low32 d hdl,hdl2]
       have hS:(d:Int) / 4294967296=(dh:Int):=by omega
       have hst:=Lib.hid (hst.out d hd);rw[hdl2,hdh]at hst;have HI:=Lib.hid hli;clear hb hcl hfl ht hx hpr hs1 hd hdl hdl2 hdh hli hi
       go_wp2_with fail
       go_region
       go_wp2_with fail
       go_roundw
       case rel=>exact⟨dh,i+1,updN g i dl,by have:=HI.out;omega,rfl,by go_num,Lib.hid ⟨hst.out,I.out.2.drew.put i dl (by have:=HI.out;omega)⟩⟩
       case measure=>have:=HI.out;simp[intOf];omega
      ·obtain rfl:i=7:=by omega
       simp only[Int.cast_ofNat_Int];have c8:=I.out.2.ct 8 (by omega);have c9:=I.out.2.ct 9 (by omega);have c7:=I.out.2.ct 7 (by omega);have z8:=I.out.2.fz 8;have z7:=I.out.2.fz 7;have g8:=I.out.1.hi 8 (by omega);have g9:=I.out.1.hi 9 (by omega);have hcl:=I.out.1.cl;have F8:F 8=el:=by rw[<- HFe.out,updN_ne _ _ _ (by omega),updN_at]
       have F9:F 9=eh:=by rw[<- HFe.out,updN_at]
       rw[g8,F8]at c8;rw[g9,F9]at c9;have hel:=HE.out.2.1;have heh:=HE.out.2.2.1;have he5:=HE.out.2.2.2;obtain⟨e2,he2⟩:∃ e2,c+el=e2:=⟨_,rfl⟩
       have hW:IntKind.u64.wrap ((c:Int)+(el:Int))=(e2:Int):=by rw[IntKind.wrap_u64];omega
       obtain⟨l2,hl2⟩:∃ l2,e2%4294967296=l2:=⟨_,rfl⟩
       obtain⟨h2,hh2⟩:∃ h2,e2 / 4294967296=h2:=⟨_,rfl⟩
       have hA:bits .and .u64 (e2:Int) 4294967295=(l2:Int):=by rw[and_low32 e2 (by omega),hl2]
       have hS:(e2:Int) / 4294967296=(h2:Int):=by omega
       obtain⟨t2,ht2⟩:∃ t2,eh+h2=t2:=⟨_,rfl⟩
       have hW2:IntKind.u64.wrap ((eh:Int)+(h2:Int))=(t2:Int):=by rw[IntKind.wrap_u64];omega
       have HU:=Lib.hid (show CutI m a (qN b) (k+1) (updN (updN g 7 l2) 8 t2) from by
        have hh:=H.out.1.step (e2:=e2) (e:=e) (g:=g) HB.out.1 HB.out.2.2.1 (by rw[HYe.out];exact HY.out) HKL.out (by rw[HYe.out];exact I1.out) HE.out.1 (by rw[hel,heh,HFe.out];exact I.out.1) (by rw[g8,F8];exact he2);rw[hl2,hh2,g9,F9,ht2]at hh;exact hh)
       have HC:=Lib.hid ((I.out.2.put 7 l2 (by omega)).put 8 t2 (by omega));clear g8 g9 hcl F8 F9 hel heh he5 he2 hl2 hh2 ht2 hi hli I
       go_wp2_with fail
       go_roundw
       case rel=>exact⟨k+1,_,by have:=HK.out;omega,by go_num,Lib.hid ⟨HU.out,HC.out⟩⟩
       case measure=>have:=HK.out;simp[intOf];omega
  ·have hk8:¬(k:Int)<8:=by omega
   obtain rfl:k=8:=by omega
   have hdn:=H.out.1.done HB.out.2.2.1 HB.out.2.2.2.1 HB.out.2.2.2.2.1 HB.out.2.1 HAB.out;have ht8:=H.out.1.top HB.out.1 HB.out.2.2.1;have hlo8:=H.out.1.lo;have hv8:=vq_lt (n:=8) hlo8;have hv9:vq f 9=vq f 8+115792089237316195423570985008687907853269984665640564039457584007913129639936*f 8:=rfl;have hpf:vq (prt f 8) 8=vq f 8:=vq_congr fun j hj=>by unfold prt;rw[if_pos hj]
   have HWH:=Lib.hid (fun wx=>rwhole_any (prt f 8) (fun j hj=>by unfold prt;rw[if_pos hj];exact hlo8 j hj) wx);rw[hpf]at HWH;obtain⟨v,hv⟩:∃ v,vq f 8=v:=⟨_,rfl⟩
   simp only[Nat.reduceMul,Nat.reducePow]at hv8;rw[hv]at HWH hv8 hv9;obtain⟨t8,hte⟩:∃ t8,f 8=t8:=⟨_,rfl⟩
   rw[hte]at hv9 ht8;rw[hv9]at hdn;have hm:=HB.out.2.2.1;have HMO:=Lib.hid (fun wx=>moreW_any v m hv8 hm wx);have HMI:=Lib.hid (fun wx=>minusW_any v m hv8 hm wx);obtain⟨z,hz⟩:∃ z,pw (mnt m a b)=z:=⟨_,rfl⟩
   rw[<- hdn.1]at hz;have HQ1:=Lib.hid (show t8=1\/m<=v->pw (v+115792089237316195423570985008687907853269984665640564039457584007913129639936 - m)=z from fun h=>by
    rw[<- hz];apply pw_less;have e:(v+115792089237316195423570985008687907853269984665640564039457584007913129639936*t8)%m=v+115792089237316195423570985008687907853269984665640564039457584007913129639936*t8 - m:=by
     rw[Nat.mod_eq_sub_mod (by omega),Nat.mod_eq_of_lt (by omega)]
    omega)
   obtain⟨yy,hyy⟩:∃ yy,v+115792089237316195423570985008687907853269984665640564039457584007913129639936 - m=yy:=⟨_,rfl⟩
   rw[hyy]at HMI HQ1;clear hyy;have HQ2:=Lib.hid (show t8=0->¬m<=v->pw v=z from fun h1 h2=>by
    rw[<- hz,h1,Nat.mul_zero,Nat.add_zero,Nat.mod_eq_of_lt (by omega)])
   have HZe:=Lib.hid (show pw (mnt m a b)=z from by rw[<- hdn.1];exact hz);have HT:=Lib.hid (And.intro hte ht8);have HC:=Lib.hid H.out.2;have HA:=Lib.hid H.out.2.all;clear hdn ht8 hlo8 hv8 hv9 hpf hv hte hm hz H hk;simp only[Int.cast_ofNat_Int]
   go_wp2_with fail
   have K0:=Lib.hid (show CCt w G m lo sq a b D7 D8 D9 f (wr.alloc (.cells (#[.int .u64 0,.int .u64 0,.int .u64 0,.int .u64 0,.int .u64 0,.int .u64 0,.int .u64 0,.int .u64 0]) 81))/\(wr.alloc (.cells (#[.int .u64 0,.int .u64 0,.int .u64 0,.int .u64 0,.int .u64 0,.int .u64 0,.int .u64 0,.int .u64 0]) 81)).heap[wr.heap.size]?=some (.cells (ar .u64 8 fun j=>((prt f 0 j:Nat):Int)) 81 (0,0)) from
    ⟨HC.out.below ((Below.refl _ _).alloc (Nat.le_refl _) _),by rw[prt_zero];exact heap_alloc_new _ _⟩)
   obtain⟨w5,hw5⟩:∃ w5,wr.alloc (.cells (#[.int .u64 0,.int .u64 0,.int .u64 0,.int .u64 0,.int .u64 0,.int .u64 0,.int .u64 0,.int .u64 0]) 81)=w5:=⟨_,rfl⟩
   obtain⟨d5,hd5⟩:∃ d5,wr.heap.size=d5:=⟨_,rfl⟩
   rw[hw5,hd5]at K0;rw[hd5]at HA;rw[hw5,hd5];clear hw5 hd5 HC
   go_loopw [16] (fun iv wq=>∃ i:Nat,i<=8/\iv=.int .i64 i/\Hid (CCt w G m lo sq a b D7 D8 D9 f wq/\wq.heap[d5]?=some (.cells (ar .u64 8 fun j=>((prt f i j:Nat):Int)) 81 (0,0)))) (fun iv _=>8 - (intOf iv).toNat)
   case atStart=>exact⟨0,by omega,rfl,K0⟩
   case round =>
    obtain⟨i,hi,rfl,K⟩:=hrel;clear K0;have hi0:(0:Int)<=i:=by omega
    by_cases hli:i<8
    ·have hi8:(i:Int)<8:=by omega
     have hi10:(i:Int)<10:=by omega
     have ct:=K.out.1.ct i (by omega);have cp:wr.cell? ⟨d5,i,none⟩=some (.int .u64 (prt f i i:Nat)):=(cell_of_row _ _ i _ _ _ K.out.2).trans (ar_at _ _ _ _ (by omega));have fz:wr.frozen? ⟨d5,i,none⟩=false:=frozen_of_row wr _ i _ _ K.out.2;have HI:=Lib.hid hli;have HN:=Lib.hid (And.intro (K.out.1.far HA.out i (.int .u64 (f i:Nat))) (prt_put K.out.2 hli));clear hli hi K
     go_wp2_with fail
     go_roundw
     case rel=>exact⟨i+1,by have:=HI.out;omega,by go_num,HN⟩
     case measure=>have:=HI.out;simp[intOf];omega
    ·obtain rfl:i=8:=by omega
     simp only[Int.cast_ofNat_Int]
     go_wp2_with (refine wpList_load_row rfl 81 _ rfl d5 rfl 81 _ (0,0) _ (by exact K.out.2) Tryz.underlying81 rfl (info8r _) ?_)
     refine(HWH.out _).mono ?_;rintro e w6 ⟨rfl,hb6⟩;have L1:=Lib.hid ((K.out.1.below hb6).lay v);have G1:=Lib.hid (heap_alloc_new w6 (.cells (#[.int .u64 0,.int .u64 0,.int .u64 0,.int .u64 0]) 24));clear hb6 K HWH hi
     go_upto_region 28 with(refine wpList_store_row rfl 24 _ _ rfl w6.heap.size (pw v) rfl rfl 24 (#[.int .u64 0,.int .u64 0,.int .u64 0,.int .u64 0]) (by exact G1.out) (by rw[pw_size];exact infoW4) (by rw[pw_size];rfl) (pw_one _) ?_)
     obtain⟨w7,hw7⟩:∃ w7,(w6.alloc (.cells (#[.int .u64 0,.int .u64 0,.int .u64 0,.int .u64 0]) 24)).setRow w6.heap.size (pw v)=w7:=⟨_,rfl⟩
     obtain⟨g17,hg17⟩:∃ g17,w6.heap.size=g17:=⟨_,rfl⟩
     rw[hw7,hg17]at L1;rw[hw7,hg17];clear hw7 hg17 G1;have ht:=HT.out;by_cases h1:t8=1
     ·subst h1
      have HE:=Lib.hid (HQ1.out (.inl rfl));have H8:=Lib.hid ht.1;clear ht HT HQ1 HQ2 HMO;refine wp_region_quiet (C:=CCu w G m lo sq a b D7 D8 D9 f g17 v) (by kernel_rfl) (by kernel_rfl) (L1.out.drew) ?_;simp only
      with_reducible refine q_sem2 (Instr.indexAt 109 (.pointer (some ⟨D9,0,none⟩)) (.int .i64 8)) (.pointer (some ⟨D9,8,none⟩)) (by kernel_rfl) (by kernel_rfl) (fun w' _=>ix_10 D9 w') ?_
      with_reducible refine q_load 22 (.tmp 129) (.pointer (some ⟨D9,8,none⟩)) (.int .u64 (1:Nat)) rfl (by kernel_rfl) (by kernel_rfl) (fun _ c=>load_u64 _ _ _ _ ((c.c.ct 8 (by omega)).trans (by rw[H8.out]))) ?_
      with_reducible refine q_bin .gtr 22 _ _ 22 (.int .u64 (1:Nat)) (.int .u64 0) (.bool true) rfl (by kernel_rfl) (by kernel_rfl) (by kernel_rfl) (fun _=>by kernel_rfl) (fun w'=>by kernel_rfl) ?_
      with_reducible refine q_val (.bool true) (by kernel_rfl) (fun _ _=>by kernel_rfl) ?_
      with_reducible refine q_skip (by kernel_rfl) ?_
      with_reducible refine q_skip (by kernel_rfl) ?_
      with_reducible refine q_skip (by kernel_rfl) ?_
      with_reducible refine q_skip (by kernel_rfl) ?_
      with_reducible refine q_skip (by kernel_rfl) ?_
      with_reducible refine q_skip (by kernel_rfl) ?_
      with_reducible refine q_val (.bool true) (by kernel_rfl) (fun _ _=>by kernel_rfl) ?_
      with_reducible refine wpQuiet_nil ?_
      intro wx hC;have HC:=Lib.hid hC;clear hC L1;simp only[Act.put,List.setIfInBounds_toArray,List.set_cons_succ,List.set_cons_zero]
      go_wp2_with fail
      refine region_quiet_tail 6 (CCu w G m lo sq a b D7 D8 D9 f g17 v) (by kernel_rfl) (by kernel_rfl) (HC.out.drew) ?_;simp only[List.take_succ_cons,List.take_zero,List.drop_succ_cons,List.drop_zero]
      with_reducible refine q_load 24 (.tmp 17) (.pointer (some ⟨g17,0,none⟩)) (.agg (pw v)) rfl (by kernel_rfl) (by kernel_rfl) (fun _ c=>ld_pw c.rv) ?_
      with_reducible refine q_val (.pointer (some ⟨G,0,none⟩)) (by kernel_rfl) (fun _ _=>by kernel_rfl) ?_
      with_reducible refine q_val (.pointer (some ⟨G,0,none⟩)) (by kernel_rfl) (fun _ _=>run_nil (.tmp 141) _ rfl (by kernel_rfl)) ?_
      with_reducible refine q_sem2 (Instr.fieldAt 83 (.pointer (some ⟨G,0,none⟩)) 0) (.pointer (some ⟨G,0,none⟩)) (by kernel_rfl) (by kernel_rfl) (fun w' _=>(rf_at G w').1) ?_
      with_reducible refine q_load 24 (.tmp 143) (.pointer (some ⟨G,0,none⟩)) (.agg (pw m)) rfl (by kernel_rfl) (by kernel_rfl) (fun _ c=>ld_rm c.c.fld) ?_
      with_reducible refine q_call 57 #[.agg (pw v),.agg (pw m)] (.agg (pw yy)) (by kernel_rfl) (fun _=>by kernel_rfl) (CCu.calls HMI.out) ?_
      with_reducible refine wpQuiet_nil ?_
      intro wx hC;have HC2:=Lib.hid hC;clear hC HC HMI;simp only[Act.put,List.setIfInBounds_toArray,List.set_cons_succ,List.set_cons_zero]
      go_wp2_with (refine wpList_store_row rfl 24 _ _ rfl (w.heap.size+1+1) (pw yy) rfl rfl 24 (#[.int .u64 0,.int .u64 0,.int .u64 0,.int .u64 0]) (by exact HC2.out.c.rr) (by rw[pw_size];exact infoW4) (by first | rfl | (rw[pw_size];rfl) | (rw[pw_size,pw_size])) (pw_one _) ?_)
      (try simp only[Act.put])
      refine bodyPost_ret (v:=.agg (pw yy)) (results_cell_row (p:=6) rfl _ _ (w.heap.size+1+1) 24 (pw yy) (0,0) _ rfl (setRow_heap _ _ _ _ _ _ (by exact HC2.out.c.rr)) Tryz.underlying24 rfl (by rw[pw_size];exact infoW4)) rfl ⟨by rw[HE.out,HZe.out],below_setRow HC2.out.c.old (by omega) _⟩
     ·obtain rfl:t8=0:=by omega
      have H8:=Lib.hid ht.1;by_cases hq:m<=v
      ·rw[decide_eq_true hq]at HMO
       have HE:=Lib.hid (HQ1.out (.inr hq));clear ht HT HQ1 HQ2 hq h1;refine wp_region_quiet (C:=CCu w G m lo sq a b D7 D8 D9 f g17 v) (by kernel_rfl) (by kernel_rfl) (L1.out.drew) ?_;simp only
       with_reducible refine q_sem2 (Instr.indexAt 109 (.pointer (some ⟨D9,0,none⟩)) (.int .i64 8)) (.pointer (some ⟨D9,8,none⟩)) (by kernel_rfl) (by kernel_rfl) (fun w' _=>ix_10 D9 w') ?_
       with_reducible refine q_load 22 (.tmp 129) (.pointer (some ⟨D9,8,none⟩)) (.int .u64 (0:Nat)) rfl (by kernel_rfl) (by kernel_rfl) (fun _ c=>load_u64 _ _ _ _ ((c.c.ct 8 (by omega)).trans (by rw[H8.out]))) ?_
       with_reducible refine q_bin .gtr 22 _ _ 22 (.int .u64 (0:Nat)) (.int .u64 0) (.bool false) rfl (by kernel_rfl) (by kernel_rfl) (by kernel_rfl) (fun _=>by kernel_rfl) (fun w'=>by kernel_rfl) ?_
       with_reducible refine q_val (.bool false) (by kernel_rfl) (fun _ _=>by kernel_rfl) ?_
       with_reducible refine q_load 24 (.tmp 17) (.pointer (some ⟨g17,0,none⟩)) (.agg (pw v)) rfl (by kernel_rfl) (by kernel_rfl) (fun _ c=>ld_pw c.rv) ?_
       with_reducible refine q_val (.pointer (some ⟨G,0,none⟩)) (by kernel_rfl) (fun _ _=>by kernel_rfl) ?_
       with_reducible refine q_val (.pointer (some ⟨G,0,none⟩)) (by kernel_rfl) (fun _ _=>run_nil (.tmp 134) _ rfl (by kernel_rfl)) ?_
       with_reducible refine q_sem2 (Instr.fieldAt 83 (.pointer (some ⟨G,0,none⟩)) 0) (.pointer (some ⟨G,0,none⟩)) (by kernel_rfl) (by kernel_rfl) (fun w' _=>(rf_at G w').1) ?_
       with_reducible refine q_load 24 (.tmp 136) (.pointer (some ⟨G,0,none⟩)) (.agg (pw m)) rfl (by kernel_rfl) (by kernel_rfl) (fun _ c=>ld_rm c.c.fld) ?_
       with_reducible refine q_call 56 #[.agg (pw v),.agg (pw m)] (.bool true) (by kernel_rfl) (fun _=>by kernel_rfl) (CCu.calls HMO.out) ?_
       with_reducible refine q_val (.bool true) (by kernel_rfl) (fun _ _=>by kernel_rfl) ?_
       with_reducible refine wpQuiet_nil ?_
       intro wx hC;have HC:=Lib.hid hC;clear hC L1 HMO;simp only[Act.put,List.setIfInBounds_toArray,List.set_cons_succ,List.set_cons_zero]
       go_wp2_with fail
       refine region_quiet_tail 6 (CCu w G m lo sq a b D7 D8 D9 f g17 v) (by kernel_rfl) (by kernel_rfl) (HC.out.drew) ?_;simp only[List.take_succ_cons,List.take_zero,List.drop_succ_cons,List.drop_zero]
       with_reducible refine q_load 24 (.tmp 17) (.pointer (some ⟨g17,0,none⟩)) (.agg (pw v)) rfl (by kernel_rfl) (by kernel_rfl) (fun _ c=>ld_pw c.rv) ?_
       with_reducible refine q_val (.pointer (some ⟨G,0,none⟩)) (by kernel_rfl) (fun _ _=>by kernel_rfl) ?_
       with_reducible refine q_val (.pointer (some ⟨G,0,none⟩)) (by kernel_rfl) (fun _ _=>run_nil (.tmp 141) _ rfl (by kernel_rfl)) ?_
       with_reducible refine q_sem2 (Instr.fieldAt 83 (.pointer (some ⟨G,0,none⟩)) 0) (.pointer (some ⟨G,0,none⟩)) (by kernel_rfl) (by kernel_rfl) (fun w' _=>(rf_at G w').1) ?_
       with_reducible refine q_load 24 (.tmp 143) (.pointer (some ⟨G,0,none⟩)) (.agg (pw m)) rfl (by kernel_rfl) (by kernel_rfl) (fun _ c=>ld_rm c.c.fld) ?_
       with_reducible refine q_call 57 #[.agg (pw v),.agg (pw m)] (.agg (pw yy)) (by kernel_rfl) (fun _=>by kernel_rfl) (CCu.calls HMI.out) ?_
       with_reducible refine wpQuiet_nil ?_
       intro wx hC;have HC2:=Lib.hid hC;clear hC HC HMI;simp only[Act.put,List.setIfInBounds_toArray,List.set_cons_succ,List.set_cons_zero]
       go_wp2_with (refine wpList_store_row rfl 24 _ _ rfl (w.heap.size+1+1) (pw yy) rfl rfl 24 (#[.int .u64 0,.int .u64 0,.int .u64 0,.int .u64 0]) (by exact HC2.out.c.rr) (by rw[pw_size];exact infoW4) (by first | rfl | (rw[pw_size];rfl) | (rw[pw_size,pw_size])) (pw_one _) ?_)
       (try simp only[Act.put])
       refine bodyPost_ret (v:=.agg (pw yy)) (results_cell_row (p:=6) rfl _ _ (w.heap.size+1+1) 24 (pw yy) (0,0) _ rfl (setRow_heap _ _ _ _ _ _ (by exact HC2.out.c.rr)) Tryz.underlying24 rfl (by rw[pw_size];exact infoW4)) rfl ⟨by rw[HE.out,HZe.out],below_setRow HC2.out.c.old (by omega) _⟩
      ·rw[decide_eq_false hq]at HMO
       have HE:=Lib.hid (HQ2.out rfl hq);clear ht HT HQ1 HQ2 hq h1 HMI;refine wp_region_quiet (C:=CCu w G m lo sq a b D7 D8 D9 f g17 v) (by kernel_rfl) (by kernel_rfl) (L1.out.drew) ?_;simp only
       with_reducible refine q_sem2 (Instr.indexAt 109 (.pointer (some ⟨D9,0,none⟩)) (.int .i64 8)) (.pointer (some ⟨D9,8,none⟩)) (by kernel_rfl) (by kernel_rfl) (fun w' _=>ix_10 D9 w') ?_
       with_reducible refine q_load 22 (.tmp 129) (.pointer (some ⟨D9,8,none⟩)) (.int .u64 (0:Nat)) rfl (by kernel_rfl) (by kernel_rfl) (fun _ c=>load_u64 _ _ _ _ ((c.c.ct 8 (by omega)).trans (by rw[H8.out]))) ?_
       with_reducible refine q_bin .gtr 22 _ _ 22 (.int .u64 (0:Nat)) (.int .u64 0) (.bool false) rfl (by kernel_rfl) (by kernel_rfl) (by kernel_rfl) (fun _=>by kernel_rfl) (fun w'=>by kernel_rfl) ?_
       with_reducible refine q_val (.bool false) (by kernel_rfl) (fun _ _=>by kernel_rfl) ?_
       with_reducible refine q_load 24 (.tmp 17) (.pointer (some ⟨g17,0,none⟩)) (.agg (pw v)) rfl (by kernel_rfl) (by kernel_rfl) (fun _ c=>ld_pw c.rv) ?_
       with_reducible refine q_val (.pointer (some ⟨G,0,none⟩)) (by kernel_rfl) (fun _ _=>by kernel_rfl) ?_
       with_reducible refine q_val (.pointer (some ⟨G,0,none⟩)) (by kernel_rfl) (fun _ _=>run_nil (.tmp 134) _ rfl (by kernel_rfl)) ?_
       with_reducible refine q_sem2 (Instr.fieldAt 83 (.pointer (some ⟨G,0,none⟩)) 0) (.pointer (some ⟨G,0,none⟩)) (by kernel_rfl) (by kernel_rfl) (fun w' _=>(rf_at G w').1) ?_
       with_reducible refine q_load 24 (.tmp 136) (.pointer (some ⟨G,0,none⟩)) (.agg (pw m)) rfl (by kernel_rfl) (by kernel_rfl) (fun _ c=>ld_rm c.c.fld) ?_
       with_reducible refine q_call 56 #[.agg (pw v),.agg (pw m)] (.bool false) (by kernel_rfl) (fun _=>by kernel_rfl) (CCu.calls HMO.out) ?_
       with_reducible refine q_val (.bool false) (by kernel_rfl) (fun _ _=>by kernel_rfl) ?_
       with_reducible refine wpQuiet_nil ?_
       intro wx hC;have HC:=Lib.hid hC;clear hC L1 HMO;simp only[Act.put,List.setIfInBounds_toArray,List.set_cons_succ,List.set_cons_zero]
       go_wp2_with (first | (refine wpList_ld rfl 24 _ rfl (.pointer (some ⟨g17,0,none⟩)) (.agg (pw v)) rfl (ld_pw (by exact HC.out.rv)) ?_) | (refine wpList_store_row rfl 24 _ _ rfl (w.heap.size+1+1) (pw v) rfl rfl 24 (#[.int .u64 0,.int .u64 0,.int .u64 0,.int .u64 0]) (by exact HC.out.c.rr) (by rw[pw_size];exact infoW4) (by first | rfl | (rw[pw_size];rfl) | (rw[pw_size,pw_size])) (pw_one _) ?_))
       (try simp only[Act.put])
       refine bodyPost_ret (v:=.agg (pw v)) (results_cell_row (p:=6) rfl _ _ (w.heap.size+1+1) 24 (pw v) (0,0) _ rfl (setRow_heap _ _ _ _ _ _ (by exact HC.out.c.rr)) Tryz.underlying24 rfl (by rw[pw_size];exact infoW4)) rfl ⟨by rw[HE.out,HZe.out],below_setRow HC.out.c.old (by omega) _⟩
theorem rcut_any(G m lo sq a b:Nat)(hal:a<m)(hbl:b<m)(hm:m<115792089237316195423570985008687907853269984665640564039457584007913129639936)(h1:1<m)(ho:m%2=1)(hll:lo<4294967296)(hlo:(lo*qN m 0+1)%4294967296=0)(w:World)(hF:RFat w G m lo sq):Calls Tryz.prog 55 #[(.pointer (some ⟨G,0,none⟩)),.agg (pw a),.agg (pw b)] w fun e w'=>e=.returned (.agg (pw (mnt m a b)))/\Below w.heap.size w w' :=
 rcut_w G m lo sq a b (Nat.lt_trans hal hm) (Nat.lt_trans hbl hm) (Nat.mul_lt_mul_of_le_of_lt (Nat.le_of_lt (Nat.lt_trans hal hm)) hbl (by omega)) hm h1 ho hll hlo w hF
open Go.RowKit
def RFld(w:World)(G m:Nat):Prop:=∃ lo,lo<4294967296/\(lo*qN m 0+1)%4294967296=0/\RFat w G m lo (2^256*2^256%m)
theorem RFld.below{w w':World}{G m:Nat}(h:RFld w G m)(hb:Below w.heap.size w w'):RFld w' G m:=by
 obtain⟨lo,h1,h2,h3⟩:=h;exact⟨lo,h1,h2,h3.below hb⟩
theorem rmul_w(G m a b:Nat)(hal:a<2^256)(hbl:b<2^256)(hm:m<2^256)(h1:1<m)(ho:m%2=1)(w:World)(hF:RFld w G m):Calls Tryz.prog 32 #[(.pointer (some ⟨G,0,none⟩)),.agg (pw a),.agg (pw b)] w fun e w'=>e=.returned (.agg (pw (a*b%m)))/\Below w.heap.size w w':=by
 obtain⟨lo,hll,hlo,hR⟩:=hF;obtain⟨sq,hsq⟩:∃ sq,2^256*2^256%m=sq:=⟨_,rfl⟩
 have hsl:sq<m:=by rw[<- hsq];exact Nat.mod_lt _ (by omega)
 have hq:mnt m a sq=a*2^256%m:=by rw[<- hsq];exact mnt_scaled ho h1 a
 have hy:mnt m (a*2^256%m) b=a*b%m:=mnt_back ho h1 a b;obtain⟨x,hx⟩:∃ x,a*2^256%m=x:=⟨_,rfl⟩
 obtain⟨y,hye⟩:∃ y,a*b%m=y:=⟨_,rfl⟩
 have hxl:x<m:=by rw[<- hx];exact Nat.mod_lt _ (by omega)
 rw[hsq]at hR;rw[hx]at hq hy;rw[hye]at hy |-
 have HC1:=Lib.hid (fun wx (hf:RFat wx G m lo sq)=>rcut_w G m lo sq a sq hal (Nat.lt_trans hsl hm) (Nat.mul_lt_mul_of_le_of_lt (Nat.le_of_lt hal) hsl (by omega)) hm h1 ho hll hlo wx hf);have HC2:=Lib.hid (fun wx (hf:RFat wx G m lo sq)=>rcut_w G m lo sq x b (Nat.lt_trans hxl hm) hbl (by rw[Nat.mul_comm x b];exact Nat.mul_lt_mul_of_le_of_lt (Nat.le_of_lt hbl) hxl (by omega)) hm h1 ho hll hlo wx hf);rw[hq]at HC1;rw[hy]at HC2;have H0:=Lib.hid (CRf.two hR a b);clear hR hsq hsl hq hy hx hye hxl hal hbl hm h1 ho hll hlo;go_enter Tryz.func32,Tryz.ntmps32
 go_wp2_with fail
 refine region_quiet_tail 10 (CRf w G m lo sq [(w.heap.size+1+1,#[.int .u64 0,.int .u64 0,.int .u64 0,.int .u64 0]),(w.heap.size+1,pw b),(w.heap.size,pw a)]) (by kernel_rfl) (by kernel_rfl) (H0.out.drew) ?_;simp only[List.take_succ_cons,List.take_zero,List.drop_succ_cons,List.drop_zero]
 with_reducible refine q_val (.pointer (some ⟨G,0,none⟩)) (by kernel_rfl) (fun _ _=>by kernel_rfl) ?_
 with_reducible refine q_val (.pointer (some ⟨G,0,none⟩)) (by kernel_rfl) (fun _ _=>by kernel_rfl) ?_
 with_reducible refine q_load 24 (.tmp 4) (.pointer (some ⟨w.heap.size,0,none⟩)) (.agg (pw a)) rfl (by kernel_rfl) (by kernel_rfl) (fun _ c=>ld_pw (c.is _ _ (by simp))) ?_
 with_reducible refine q_val (.pointer (some ⟨G,0,none⟩)) (by kernel_rfl) (fun _ _=>by kernel_rfl) ?_
 with_reducible refine q_val (.pointer (some ⟨G,0,none⟩)) (by kernel_rfl) (fun _ _=>run_nil (.tmp 10) _ rfl (by kernel_rfl)) ?_
 with_reducible refine q_sem2 (Instr.fieldAt 83 (.pointer (some ⟨G,0,none⟩)) 3) (.pointer (some ⟨G,13,none⟩)) (by kernel_rfl) (by kernel_rfl) (fun w' _=>(rf_at G w').2.2.2) ?_
 with_reducible refine q_load 24 (.tmp 12) (.pointer (some ⟨G,13,none⟩)) (.agg (pw sq)) rfl (by kernel_rfl) (by kernel_rfl) (fun _ c=>ld_rsq c.fld) ?_
 with_reducible refine q_call 55 #[.pointer (some ⟨G,0,none⟩),.agg (pw a),.agg (pw sq)] (.agg (pw x)) (by kernel_rfl) (fun _=>by kernel_rfl) (CRf.calls HC1.out) ?_
 with_reducible refine q_load 24 (.tmp 5) (.pointer (some ⟨w.heap.size+1,0,none⟩)) (.agg (pw b)) rfl (by kernel_rfl) (by kernel_rfl) (fun _ c=>ld_pw (c.is _ _ (by simp))) ?_
 with_reducible refine q_call 55 #[.pointer (some ⟨G,0,none⟩),.agg (pw x),.agg (pw b)] (.agg (pw y)) (by kernel_rfl) (fun _=>by kernel_rfl) (CRf.calls HC2.out) ?_
 with_reducible refine wpQuiet_nil ?_
 intro wx hC;have HC:=Lib.hid hC;clear hC H0 HC1 HC2;simp only[Act.put,List.setIfInBounds_toArray,List.set_cons_succ,List.set_cons_zero]
 go_wp2_with (refine wpList_store_row rfl 24 _ _ rfl (w.heap.size+1+1) (pw y) rfl rfl 24 (#[.int .u64 0,.int .u64 0,.int .u64 0,.int .u64 0]) (by exact HC.out.is _ _ (by simp)) (by rw[pw_size];exact infoW4) (by first | rfl | (rw[pw_size];rfl) | (rw[pw_size,pw_size])) (pw_one _) ?_)
 (try simp only[Act.put])
 refine bodyPost_ret (v:=.agg (pw y)) (results_cell_row (p:=6) rfl _ _ (w.heap.size+1+1) 24 (pw y) (0,0) _ rfl (setRow_heap _ _ _ _ _ _ (by exact HC.out.is _ (#[.int .u64 0,.int .u64 0,.int .u64 0,.int .u64 0]) (by simp))) Tryz.underlying24 rfl (by rw[pw_size];exact infoW4)) rfl ⟨rfl,below_setRow HC.out.old (by omega) _⟩
theorem rmul_any(G m a b:Nat)(hal:a<m)(hbl:b<m)(hm:m<2^256)(h1:1<m)(ho:m%2=1)(w:World)(hF:RFld w G m):Calls Tryz.prog 32 #[(.pointer (some ⟨G,0,none⟩)),.agg (pw a),.agg (pw b)] w fun e w'=>e=.returned (.agg (pw (a*b%m)))/\Below w.heap.size w w' :=
 rmul_w G m a b (Nat.lt_trans hal hm) (Nat.lt_trans hbl hm) hm h1 ho w hF
open Go.RowKit
theorem rdivmod_pw(a m:Nat)(ha:a<2^256)(h0:0<m)(hm:m<2^256)(w:World):Calls Tryz.prog 79 #[.agg (pw a),.agg (pw m)] w fun e w'=>e=.returned (.tuple #[.agg (pw (a / m)),.agg (pw (a%m))])/\Below w.heap.size w w':=by
 have h:=divmod_ref a m w;unfold quoV remV at h;rw[Nat.mod_eq_of_lt ha,Nat.mod_eq_of_lt hm,if_neg (by omega),if_neg (by omega)]at h;exact h
theorem rof_any(G m lo sq a:Nat)(ha:a<2^256)(h0:0<m)(hm:m<2^256)(w:World)(hF:RFat w G m lo sq):Calls Tryz.prog 54 #[(.pointer (some ⟨G,0,none⟩)),.agg (pw a)] w fun e w'=>e=.returned (.agg (pw (a%m)))/\Below w.heap.size w w':=by
 have H0:=Lib.hid (CRf.one hF a);have HMO:=Lib.hid (fun wx (_:RFat wx G m lo sq)=>moreW_any a m ha hm wx);have HDM:=Lib.hid (fun wx=>rdivmod_pw a m ha h0 hm wx);by_cases hq:m<=a
 ·rw[decide_eq_true hq]at HMO
  obtain⟨x,hx⟩:∃ x,a / m=x:=⟨_,rfl⟩
  obtain⟨y,hy⟩:∃ y,a%m=y:=⟨_,rfl⟩
  rw[hx,hy]at HDM;rw[hy];clear hF ha h0 hm hq hx hy;go_enter Tryz.func54,Tryz.ntmps54
  go_wp2_with fail
  refine wp_region_quiet (C:=CRf w G m lo sq [(w.heap.size+1,#[.int .u64 0,.int .u64 0,.int .u64 0,.int .u64 0]),(w.heap.size,pw a)]) (by kernel_rfl) (by kernel_rfl) (H0.out.drew) ?_;simp only
  with_reducible refine q_load 24 (.tmp 3) (.pointer (some ⟨w.heap.size,0,none⟩)) (.agg (pw a)) rfl (by kernel_rfl) (by kernel_rfl) (fun _ c=>ld_pw (c.is _ _ (by simp))) ?_
  with_reducible refine q_val (.pointer (some ⟨G,0,none⟩)) (by kernel_rfl) (fun _ _=>by kernel_rfl) ?_
  with_reducible refine q_val (.pointer (some ⟨G,0,none⟩)) (by kernel_rfl) (fun _ _=>run_nil (.tmp 8) _ rfl (by kernel_rfl)) ?_
  with_reducible refine q_sem2 (Instr.fieldAt 83 (.pointer (some ⟨G,0,none⟩)) 0) (.pointer (some ⟨G,0,none⟩)) (by kernel_rfl) (by kernel_rfl) (fun w' _=>(rf_at G w').1) ?_
  with_reducible refine q_load 24 (.tmp 10) (.pointer (some ⟨G,0,none⟩)) (.agg (pw m)) rfl (by kernel_rfl) (by kernel_rfl) (fun _ c=>ld_rm c.fld) ?_
  with_reducible refine q_call 56 #[.agg (pw a),.agg (pw m)] (.bool true) (by kernel_rfl) (fun _=>by kernel_rfl) (CRf.calls HMO.out) ?_
  with_reducible refine q_un4 .not 4 (.tmp 12) (.bool true) (.bool false) rfl (by kernel_rfl) (by kernel_rfl) (fun w'=>by kernel_rfl) ?_
  with_reducible refine wpQuiet_nil ?_
  intro wx hC;have HC:=Lib.hid hC;clear hC H0 HMO;simp only[Act.put,List.setIfInBounds_toArray,List.set_cons_succ,List.set_cons_zero]
  go_wp2_with fail
  refine region_many [.val 16 ((.agg (pw a))),.val 17 ((.pointer (some ⟨G,0,none⟩))),.val 18 ((.pointer (some ⟨G,0,none⟩))),.val 19 ((.pointer (some ⟨G,0,none⟩))),.val 20 ((.agg (pw m))),.val 21 ((.tuple #[.agg (pw x),.agg (pw y)])),.val 15 ((.tuple #[.agg (pw x),.agg (pw y)])),.val 22 ((.agg (pw x))),.val 23 ((.agg (pw y))),.blk 5 24,.blk 6 24,.laid 5 24,.laid 6 24] [5,6] (fun p=>if p=5 then pw x else pw y) (fun i=>i) (by kernel_rfl) (by kernel_rfl) (by exact⟨trivial,trivial,trivial,trivial,trivial,trivial,trivial,trivial,trivial,(by simp[Sp.ok]),(by simp[Sp.ok]),(by simp[Sp.ok]),(by simp[Sp.ok]),trivial⟩) (by intro p hp q hq hne D e;simp only[List.mem_cons,List.not_mem_nil,or_false]at hp;rcases hp with rfl | rfl <;> simp[undef]at e) ?_ ?_
  ·refine⟨?_,?_,?_,?_,?_,?_,?_,?_,?_,?_,?_,?_,?_,trivial⟩
   ·intro ac wx hC hsz hK
    have h0:ac.tmps.getD 3 undef=(.pointer (some ⟨w.heap.size,0,none⟩)):=hK.1 3 (by kernel_rfl);exact mm_load 24 (.tmp 3) ((.pointer (some ⟨w.heap.size,0,none⟩))) ((.agg (pw a))) rfl rfl (by kernel_rfl) h0 (ld_pw ((HC.out.below hC.1).is _ _ (by simp))) hC (by kernel_rfl) (by rw[hsz];exact of_decide_eq_true (by kernel_rfl)) rfl
   ·intro ac wx hC hsz hK
    have h0:ac.tmps.getD 0 undef=(.pointer (some ⟨G,0,none⟩)):=hK.1 0 (by kernel_rfl);exact mm_val ((.pointer (some ⟨G,0,none⟩))) rfl (by kernel_rfl) (by rw[<- h0];kernel_rfl) hC (by kernel_rfl) (by rw[hsz];exact of_decide_eq_true (by kernel_rfl)) rfl
   ·intro ac wx hC hsz hK
    have h0:ac.tmps.getD 17 undef=(.pointer (some ⟨G,0,none⟩)):=hK.2 ⟨1,.data⟩ (by simp) rfl _ rfl;exact mm_val ((.pointer (some ⟨G,0,none⟩))) rfl (by kernel_rfl) (run_nil (.tmp 17) _ rfl h0) hC (by kernel_rfl) (by rw[hsz];exact of_decide_eq_true (by kernel_rfl)) rfl
   ·intro ac wx hC hsz hK
    have h0:ac.tmps.getD 18 undef=(.pointer (some ⟨G,0,none⟩)):=hK.2 ⟨2,.data⟩ (by simp) rfl _ rfl;refine mm_sem (Instr.fieldAt 83 (ac.tmps.getD 18 undef) 0) ((.pointer (some ⟨G,0,none⟩))) rfl (by kernel_rfl) (by kernel_rfl) ?_ hC (by kernel_rfl) (by rw[hsz];exact of_decide_eq_true (by kernel_rfl)) rfl;rw[h0];exact(rf_at G wx).1
   ·intro ac wx hC hsz hK
    have h0:ac.tmps.getD 19 undef=(.pointer (some ⟨G,0,none⟩)):=hK.2 ⟨3,.data⟩ (by simp) rfl _ rfl;exact mm_load 24 (.tmp 19) ((.pointer (some ⟨G,0,none⟩))) ((.agg (pw m))) rfl rfl (by kernel_rfl) h0 (ld_rm (HC.out.below hC.1).fld) hC (by kernel_rfl) (by rw[hsz];exact of_decide_eq_true (by kernel_rfl)) rfl
   ·intro ac wx hC hsz hK
    have h0:ac.tmps.getD 16 undef=(.agg (pw a)):=hK.2 ⟨0,.data⟩ (by simp) rfl _ rfl;have h1:ac.tmps.getD 20 undef=(.agg (pw m)):=hK.2 ⟨4,.data⟩ (by simp) rfl _ rfl;refine mm_call 79 #[ac.tmps.getD 16 undef,ac.tmps.getD 20 undef] ((.tuple #[.agg (pw x),.agg (pw y)])) rfl (by kernel_rfl) (by kernel_rfl) ?_ hC (by kernel_rfl) (by rw[hsz];exact of_decide_eq_true (by kernel_rfl)) rfl;rw[h0,h1];exact HDM.out wx
   ·intro ac wx hC hsz hK
    have h0:ac.tmps.getD 21 undef=(.tuple #[.agg (pw x),.agg (pw y)]):=hK.2 ⟨5,.data⟩ (by simp) rfl _ rfl;exact mm_val ((.tuple #[.agg (pw x),.agg (pw y)])) rfl (by kernel_rfl) (by rw[<- h0];kernel_rfl) hC (by kernel_rfl) (by rw[hsz];exact of_decide_eq_true (by kernel_rfl)) rfl
   ·intro ac wx hC hsz hK
    have h0:ac.tmps.getD 15 undef=(.tuple #[.agg (pw x),.agg (pw y)]):=hK.2 ⟨6,.data⟩ (by simp) rfl _ rfl;refine mm_sem (Instr.extract (ac.tmps.getD 15 undef) 0) ((.agg (pw x))) rfl (by kernel_rfl) (by kernel_rfl) ?_ hC (by kernel_rfl) (by rw[hsz];exact of_decide_eq_true (by kernel_rfl)) rfl;rw[h0];exact(by kernel_rfl)
   ·intro ac wx hC hsz hK
    have h0:ac.tmps.getD 15 undef=(.tuple #[.agg (pw x),.agg (pw y)]):=hK.2 ⟨6,.data⟩ (by simp) rfl _ rfl;refine mm_sem (Instr.extract (ac.tmps.getD 15 undef) 1) ((.agg (pw y))) rfl (by kernel_rfl) (by kernel_rfl) ?_ hC (by kernel_rfl) (by rw[hsz];exact of_decide_eq_true (by kernel_rfl)) rfl;rw[h0];exact(by kernel_rfl)
   ·intro ac wx hC hsz hK
    exact mm_new 24 (#[.int .u64 0,.int .u64 0,.int .u64 0,.int .u64 0]) rfl (by kernel_rfl) (by kernel_rfl) hC (by simp[pw_size]) (by rw[hsz];exact of_decide_eq_true (by kernel_rfl)) rfl
   ·intro ac wx hC hsz hK
    exact mm_new 24 (#[.int .u64 0,.int .u64 0,.int .u64 0,.int .u64 0]) rfl (by kernel_rfl) (by kernel_rfl) hC (by simp[pw_size]) (by rw[hsz];exact of_decide_eq_true (by kernel_rfl)) rfl
   ·intro ac wx hC hsz hK
    have h0:ac.tmps.getD 22 undef=(.agg (pw x)):=hK.2 ⟨7,.data⟩ (by simp) rfl _ rfl;exact mm_store (p:=5) 24 (.tmp 5) (.tmp 22) _ rfl rfl (by kernel_rfl) rfl h0 (by simp) (hK.2 ⟨9,.data⟩ (by simp) rfl _ rfl) (fun D cs h3 h4=>store_w (h4.trans (pw_size _)) h3) hC rfl
   ·intro ac wx hC hsz hK
    have h0:ac.tmps.getD 23 undef=(.agg (pw y)):=hK.2 ⟨8,.data⟩ (by simp) rfl _ rfl;exact mm_store (p:=6) 24 (.tmp 6) (.tmp 23) _ rfl rfl (by kernel_rfl) rfl h0 (by simp) (hK.2 ⟨10,.data⟩ (by simp) rfl _ rfl) (fun D cs h3 h4=>store_w (h4.trans (pw_size _)) h3) hC rfl
  intro f1 w5 hb5 hap hf5;obtain⟨D6,s6,-,r6⟩:=hf5 12 _ rfl;have H5:=Lib.hid ((HC.out.below hb5).cons r6);clear hf5 hap hb5 HC HDM r6;generalize hAct:putAll _ _ _=A1 at *;have s6':A1.tmps.getD 6 undef=.pointer (some ⟨D6,0,none⟩):=s6;have s4:A1.tmps.getD 4 undef=.pointer (some ⟨w.heap.size+1,0,none⟩):=by subst hAct;kernel_rfl
  have hsz:A1.tmps.size=25:=by rw[<- hAct,putAll_size];rfl
  have hdf:A1.defers=[]:=by subst hAct;kernel_rfl
  clear hAct s6 f1;obtain⟨u0,t0⟩:∃ u,A1.tmps.getD 0 undef=u:=⟨_,rfl⟩
  obtain⟨u1,t1⟩:∃ u,A1.tmps.getD 1 undef=u:=⟨_,rfl⟩
  obtain⟨u2,t2⟩:∃ u,A1.tmps.getD 2 undef=u:=⟨_,rfl⟩
  obtain⟨u3,t3⟩:∃ u,A1.tmps.getD 3 undef=u:=⟨_,rfl⟩
  obtain⟨u5,t5⟩:∃ u,A1.tmps.getD 5 undef=u:=⟨_,rfl⟩
  obtain⟨u7,t7⟩:∃ u,A1.tmps.getD 7 undef=u:=⟨_,rfl⟩
  obtain⟨u8,t8⟩:∃ u,A1.tmps.getD 8 undef=u:=⟨_,rfl⟩
  obtain⟨u9,t9⟩:∃ u,A1.tmps.getD 9 undef=u:=⟨_,rfl⟩
  obtain⟨u10,t10⟩:∃ u,A1.tmps.getD 10 undef=u:=⟨_,rfl⟩
  obtain⟨u11,t11⟩:∃ u,A1.tmps.getD 11 undef=u:=⟨_,rfl⟩
  obtain⟨u12,t12⟩:∃ u,A1.tmps.getD 12 undef=u:=⟨_,rfl⟩
  obtain⟨u13,t13⟩:∃ u,A1.tmps.getD 13 undef=u:=⟨_,rfl⟩
  obtain⟨u14,t14⟩:∃ u,A1.tmps.getD 14 undef=u:=⟨_,rfl⟩
  obtain⟨u15,t15⟩:∃ u,A1.tmps.getD 15 undef=u:=⟨_,rfl⟩
  obtain⟨u16,t16⟩:∃ u,A1.tmps.getD 16 undef=u:=⟨_,rfl⟩
  obtain⟨u17,t17⟩:∃ u,A1.tmps.getD 17 undef=u:=⟨_,rfl⟩
  obtain⟨u18,t18⟩:∃ u,A1.tmps.getD 18 undef=u:=⟨_,rfl⟩
  obtain⟨u19,t19⟩:∃ u,A1.tmps.getD 19 undef=u:=⟨_,rfl⟩
  obtain⟨u20,t20⟩:∃ u,A1.tmps.getD 20 undef=u:=⟨_,rfl⟩
  obtain⟨u21,t21⟩:∃ u,A1.tmps.getD 21 undef=u:=⟨_,rfl⟩
  obtain⟨u22,t22⟩:∃ u,A1.tmps.getD 22 undef=u:=⟨_,rfl⟩
  obtain⟨u23,t23⟩:∃ u,A1.tmps.getD 23 undef=u:=⟨_,rfl⟩
  obtain⟨u24,t24⟩:∃ u,A1.tmps.getD 24 undef=u:=⟨_,rfl⟩
  obtain⟨tm,df⟩:=A1;simp only at *;have hLt:=arr_litS tm;rw[hsz]at hLt;simp only[List.range,List.range.loop,List.map]at hLt;rw[t0,t1,t2,t3,s4,t5,s6',t7,t8,t9,t10,t11,t12,t13,t14,t15,t16,t17,t18,t19,t20,t21,t22,t23,t24]at hLt;subst hLt hdf;clear t0 t1 t2 t3 s4 t5 s6' t7 t8 t9 t10 t11 t12 t13 t14 t15 t16 t17 t18 t19 t20 t21 t22 t23 t24 hsz
  go_wp2_with (first | (refine wpList_ld rfl 24 _ rfl (.pointer (some ⟨D6,0,none⟩)) (.agg (pw y)) rfl (ld_pw (by exact H5.out.is _ _ (by simp))) ?_) | (refine wpList_store_row rfl 24 _ _ rfl (w.heap.size+1) (pw y) rfl rfl 24 (#[.int .u64 0,.int .u64 0,.int .u64 0,.int .u64 0]) (by exact H5.out.is _ _ (by simp)) (by rw[pw_size];exact infoW4) (by first | rfl | (rw[pw_size];rfl) | (rw[pw_size,pw_size])) (pw_one _) ?_))
  (try simp only[Act.put])
  refine bodyPost_ret (v:=.agg (pw y)) (results_cell_row (p:=4) rfl _ _ (w.heap.size+1) 24 (pw y) (0,0) _ rfl (setRow_heap _ _ _ _ _ _ (by exact H5.out.is _ (#[.int .u64 0,.int .u64 0,.int .u64 0,.int .u64 0]) (by simp))) Tryz.underlying24 rfl (by rw[pw_size];exact infoW4)) rfl ⟨rfl,below_setRow H5.out.old (by omega) _⟩
 ·rw[decide_eq_false hq]at HMO
  have HQ:=Lib.hid (show a%m=a from Nat.mod_eq_of_lt (by omega));rw[HQ.out];clear hF ha h0 hm hq HDM HQ;go_enter Tryz.func54,Tryz.ntmps54
  go_wp2_with fail
  refine wp_region_quiet (C:=CRf w G m lo sq [(w.heap.size+1,#[.int .u64 0,.int .u64 0,.int .u64 0,.int .u64 0]),(w.heap.size,pw a)]) (by kernel_rfl) (by kernel_rfl) (H0.out.drew) ?_;simp only
  with_reducible refine q_load 24 (.tmp 3) (.pointer (some ⟨w.heap.size,0,none⟩)) (.agg (pw a)) rfl (by kernel_rfl) (by kernel_rfl) (fun _ c=>ld_pw (c.is _ _ (by simp))) ?_
  with_reducible refine q_val (.pointer (some ⟨G,0,none⟩)) (by kernel_rfl) (fun _ _=>by kernel_rfl) ?_
  with_reducible refine q_val (.pointer (some ⟨G,0,none⟩)) (by kernel_rfl) (fun _ _=>run_nil (.tmp 8) _ rfl (by kernel_rfl)) ?_
  with_reducible refine q_sem2 (Instr.fieldAt 83 (.pointer (some ⟨G,0,none⟩)) 0) (.pointer (some ⟨G,0,none⟩)) (by kernel_rfl) (by kernel_rfl) (fun w' _=>(rf_at G w').1) ?_
  with_reducible refine q_load 24 (.tmp 10) (.pointer (some ⟨G,0,none⟩)) (.agg (pw m)) rfl (by kernel_rfl) (by kernel_rfl) (fun _ c=>ld_rm c.fld) ?_
  with_reducible refine q_call 56 #[.agg (pw a),.agg (pw m)] (.bool false) (by kernel_rfl) (fun _=>by kernel_rfl) (CRf.calls HMO.out) ?_
  with_reducible refine q_un4 .not 4 (.tmp 12) (.bool false) (.bool true) rfl (by kernel_rfl) (by kernel_rfl) (fun w'=>by kernel_rfl) ?_
  with_reducible refine wpQuiet_nil ?_
  intro wx hC;have HC:=Lib.hid hC;clear hC H0 HMO;simp only[Act.put,List.setIfInBounds_toArray,List.set_cons_succ,List.set_cons_zero]
  go_wp2_with (first | (refine wpList_ld rfl 24 _ rfl (.pointer (some ⟨w.heap.size,0,none⟩)) (.agg (pw a)) rfl (ld_pw (by exact HC.out.is _ _ (by simp))) ?_) | (refine wpList_store_row rfl 24 _ _ rfl (w.heap.size+1) (pw a) rfl rfl 24 (#[.int .u64 0,.int .u64 0,.int .u64 0,.int .u64 0]) (by exact HC.out.is _ _ (by simp)) (by rw[pw_size];exact infoW4) (by first | rfl | (rw[pw_size];rfl) | (rw[pw_size,pw_size])) (pw_one _) ?_))
  (try simp only[Act.put])
  refine bodyPost_ret (v:=.agg (pw a)) (results_cell_row (p:=4) rfl _ _ (w.heap.size+1) 24 (pw a) (0,0) _ rfl (setRow_heap _ _ _ _ _ _ (by exact HC.out.is _ (#[.int .u64 0,.int .u64 0,.int .u64 0,.int .u64 0]) (by simp))) Tryz.underlying24 rfl (by rw[pw_size];exact infoW4)) rfl ⟨rfl,below_setRow HC.out.old (by omega) _⟩
open Go.RowKit
theorem rcurve_any(w:World):Calls Tryz.prog 53 #[] w fun e w'=>e=.returned (.agg (pw 115792089237316195423570985008687907853269984665640564039457584007908834671663))/\Below w.heap.size w w':=by
 go_enter Tryz.func53,Tryz.ntmps53
 go_wp2_with (refine wpList_store_row rfl 24 _ _ rfl w.heap.size (pw 115792089237316195423570985008687907853269984665640564039457584007908834671663) rfl (by kernel_rfl) 24 (#[.int .u64 0,.int .u64 0,.int .u64 0,.int .u64 0]) (heap_alloc_new _ _) (by rw[pw_size];exact infoW4) (by rw[pw_size];rfl) (pw_one _) ?_)
 (try simp only[Act.put])
 refine bodyPost_ret (v:=.agg (pw 115792089237316195423570985008687907853269984665640564039457584007908834671663)) (results_cell_row (p:=0) rfl _ _ (w.heap.size) 24 (pw 115792089237316195423570985008687907853269984665640564039457584007908834671663) (0,0) _ rfl (setRow_heap _ _ _ _ _ _ (by exact heap_alloc_new _ _)) Tryz.underlying24 rfl (by rw[pw_size];exact infoW4)) rfl ⟨rfl,below_setRow ((Below.refl _ _).alloc (Nat.le_refl _) _) (Nat.le_refl _) _⟩
open Go.RowKit
theorem sq_pow(m k e:Nat)(hk:k=e+e)(he:2^e=2^256):2^k%m=2^256*2^256%m:=by rw[hk,Nat.pow_add,he]
theorem row17(m:Nat):(#[.int .u64 ((pN m 0:Nat):Int),.int .u64 ((pN m 1:Nat):Int),.int .u64 ((pN m 2:Nat):Int),.int .u64 ((pN m 3:Nat):Int),.int .u64 ((qN m 0:Nat):Int),.int .u64 ((qN m 1:Nat):Int),.int .u64 ((qN m 2:Nat):Int),.int .u64 ((qN m 3:Nat):Int),.int .u64 ((qN m 4:Nat):Int),.int .u64 ((qN m 5:Nat):Int),.int .u64 ((qN m 6:Nat):Int),.int .u64 ((qN m 7:Nat):Int),.int .u64 1,.int .u64 0,.int .u64 0,.int .u64 0,.int .u64 0]:Array Value)=ar .u64 17 fun j=>((rfw m 1 0 j:Nat):Int):=by kernel_rfl
theorem q8_lit(m:Nat):(ar .u64 8 fun j=>((qN m j:Nat):Int))=#[.int .u64 ((qN m 0:Nat):Int),.int .u64 ((qN m 1:Nat):Int),.int .u64 ((qN m 2:Nat):Int),.int .u64 ((qN m 3:Nat):Int),.int .u64 ((qN m 4:Nat):Int),.int .u64 ((qN m 5:Nat):Int),.int .u64 ((qN m 6:Nat):Int),.int .u64 ((qN m 7:Nat):Int)]:=by kernel_rfl
structure CNw (w:World) (G m lo sq:Nat) (wx:World):Prop where
 old:Below w.heap.size w wx
 hG:w.heap.size<=G
 fld:RFat wx G m lo sq
theorem CNw.below{w wx w':World}{G m lo sq:Nat}(c:CNw w G m lo sq wx)(hb:Below wx.heap.size wx w'):CNw w G m lo sq w':=⟨c.old.trans (hb.mono c.old.size),c.hG,c.fld.below hb⟩
theorem CNw.drew{w wx:World}{G m lo sq:Nat}(c:CNw w G m lo sq wx):CNw w G m lo sq wx.drew:=c.below (Below.drew (Below.refl _ _))
theorem CNw.calls{w:World}{G m lo sq:Nat}{f:FuncId}{args:Array Value}{v:Value}(h:∀ wx,RFat wx G m lo sq->Calls Tryz.prog f args wx fun e w'=>e=.returned v/\Below wx.heap.size wx w'):∀ wx,CNw w G m lo sq wx->Calls Tryz.prog f args wx fun e w'=>e=.returned v/\CNw w G m lo sq w' :=
 fun wx c=>(h wx c.fld).mono fun _ _ hh=>⟨hh.1,c.below hh.2⟩
def lowOf(G:Nat)(w:World):Nat:=match w.cell? ⟨G,12,none⟩with | some (.int _ x)=>x.toNat | _=>0
theorem lowOf_is{w:World}{G m lo sq:Nat}(h:RFat w G m lo sq):lowOf G w=lo:=by
 unfold lowOf;rw[h.cell 12 (by omega),rfw_lo];simp
theorem rnew_any(m:Nat)(hm:m<2^256)(ho:m%2=1)(h1:1<m)(w:World):Calls Tryz.prog 52 #[.agg (pw m)] w fun e w'=>∃ v,e=.returned v/\(∃ G,v=(.pointer (some ⟨G,0,none⟩))/\w.heap.size<=G/\∃ lo,lo<4294967296/\(lo*qN m 0+1)%4294967296=0/\RFat w' G m lo (2^256*2^256%m))/\Below w.heap.size w w':=by
 have H0:=Lib.hid (CBm.start w m);have HP:=Lib.hid (fun wx=>rparts_any m wx);rw[q8_lit]at HP;have HO:=Lib.hid (And.intro hm (And.intro ho h1));have HQ0:=Lib.hid (show qN m 0%2=1 from by unfold qN;simp;omega);clear hm ho h1;go_enter Tryz.func52,Tryz.ntmps52
 go_wp2_with fail
 refine region_quiet_tail 4 (CBm w m) (by kernel_rfl) (by kernel_rfl) (H0.out.drew) ?_;simp only[List.take_succ_cons,List.take_zero,List.drop_succ_cons,List.drop_zero]
 with_reducible refine q_load 24 (.tmp 1) (.pointer (some ⟨w.heap.size,0,none⟩)) (.agg #[.int .u64 ((pN m 0:Nat):Int),.int .u64 ((pN m 1:Nat):Int),.int .u64 ((pN m 2:Nat):Int),.int .u64 ((pN m 3:Nat):Int)]) rfl (by kernel_rfl) (by kernel_rfl) (fun _ c=>(by rw[<- pw4];exact ld_pw c.r0)) ?_
 with_reducible refine q_load 24 (.tmp 1) (.pointer (some ⟨w.heap.size,0,none⟩)) (.agg (pw m)) rfl (by kernel_rfl) (by kernel_rfl) (fun _ c=>ld_pw c.r0) ?_
 with_reducible refine q_call 78 #[.agg (pw m)] (.agg #[.int .u64 ((qN m 0:Nat):Int),.int .u64 ((qN m 1:Nat):Int),.int .u64 ((qN m 2:Nat):Int),.int .u64 ((qN m 3:Nat):Int),.int .u64 ((qN m 4:Nat):Int),.int .u64 ((qN m 5:Nat):Int),.int .u64 ((qN m 6:Nat):Int),.int .u64 ((qN m 7:Nat):Int)]) (by kernel_rfl) (fun _=>by kernel_rfl) (CBm.calls HP.out) ?_
 with_reducible refine q_val (.agg #[.int .u64 ((pN m 0:Nat):Int),.int .u64 ((pN m 1:Nat):Int),.int .u64 ((pN m 2:Nat):Int),.int .u64 ((pN m 3:Nat):Int),.int .u64 ((qN m 0:Nat):Int),.int .u64 ((qN m 1:Nat):Int),.int .u64 ((qN m 2:Nat):Int),.int .u64 ((qN m 3:Nat):Int),.int .u64 ((qN m 4:Nat):Int),.int .u64 ((qN m 5:Nat):Int),.int .u64 ((qN m 6:Nat):Int),.int .u64 ((qN m 7:Nat):Int),.int .u64 1,.int .u64 0,.int .u64 0,.int .u64 0,.int .u64 0]) (by kernel_rfl) (fun _ _=>by kernel_rfl) ?_
 with_reducible refine wpQuiet_nil ?_
 intro wx hC;have HC:=Lib.hid hC;clear hC H0 HP;simp only[Act.put,List.setIfInBounds_toArray,List.set_cons_succ,List.set_cons_zero]
 go_wp2_with fail
 obtain⟨w1,hw1⟩:∃ w1,wx.alloc (.cells (#[.int .u64 ((pN m 0:Nat):Int),.int .u64 ((pN m 1:Nat):Int),.int .u64 ((pN m 2:Nat):Int),.int .u64 ((pN m 3:Nat):Int),.int .u64 ((qN m 0:Nat):Int),.int .u64 ((qN m 1:Nat):Int),.int .u64 ((qN m 2:Nat):Int),.int .u64 ((qN m 3:Nat):Int),.int .u64 ((qN m 4:Nat):Int),.int .u64 ((qN m 5:Nat):Int),.int .u64 ((qN m 6:Nat):Int),.int .u64 ((qN m 7:Nat):Int),.int .u64 1,.int .u64 0,.int .u64 0,.int .u64 0,.int .u64 0]) 83)=w1:=⟨_,rfl⟩
 obtain⟨G,hG⟩:∃ G,wx.heap.size=G:=⟨_,rfl⟩
 have H1:=Lib.hid (show CNw w G m 1 0 w1 from by
  refine⟨by rw[<- hw1];exact HC.out.old.alloc HC.out.old.size _,by rw[<- hG];exact HC.out.old.size,?_⟩;unfold RFat;rw[<- hw1,<- hG,row17];exact heap_alloc_new _ _)
 rw[hw1,hG];clear hw1 hG HC
 go_loopw [] (fun wr=>∃ lo:Nat,Hid (LowI (qN m 0) lo/\CNw w G m lo 0 wr)) (fun wr=>4294967296 - lowOf G wr)
 case atStart=>exact⟨1,Lib.hid ⟨LowI.start HQ0.out,H1.out⟩⟩
 case round =>
  obtain⟨lo,H⟩:=hrel;clear H1;have hll:=H.out.1.lt;have hql:=qN_lt m 0;have c12:=H.out.2.fld.cell 12 (by omega);have c4:=H.out.2.fld.cell 4 (by omega);have f12:=frozen_of_row wr G 12 _ _ H.out.2.fld;rw[rfw_lo]at c12;rw[show rfw m lo 0 4=qN m 0 from rfw_q m lo 0 0 (by omega)]at c4;obtain⟨q,hq⟩:∃ q,qN m 0=q:=⟨_,rfl⟩
  rw[hq]at c4 hql;have hpl:lo*q<=4294967295*4294967295:=Nat.mul_le_mul (by omega) (by omega);obtain⟨pr,hpr⟩:∃ pr,lo*q=pr:=⟨_,rfl⟩
  obtain⟨c,hc⟩:∃ c,pr%4294967296=c:=⟨_,rfl⟩
  rw[hpr]at hpl;have hW:IntKind.u64.wrap ((lo:Int)*(q:Int))=(pr:Int):=by (rw[IntKind.wrap_u64,<- hpr,Int.natCast_mul];have:(lo:Int)*q=(pr:Int):=by rw[<- hpr,Int.natCast_mul]);omega
  have hA:bits .and .u64 (pr:Int) 4294967295=(c:Int):=by rw[and_low32 pr (by omega),hc]
  have HPR:=Lib.hid (And.intro hq (And.intro hpr hc));by_cases he:c=4294967295
  ·subst he
   have HF:=Lib.hid (show lo<4294967296/\(lo*qN m 0+1)%4294967296=0 from⟨hll,LowI.done (by rw[hq,hpr,hc])⟩);clear hc hll hql hpl hq hpr HPR
   go_wp2_with fail
   go_region
   go_wp2_with (refine wpList_store_mid rfl 24 _ _ rfl G 13 (pw 1) rfl rfl (by exact H.out.2.drew.fld.there 1) (by rw[pw_size];exact infoW4) (pw_one _) ?_)
   obtain⟨w3,hw3⟩:∃ w3,wr.drew.setCells G 13 (pw 1).toList=w3:=⟨_,rfl⟩
   have H3:=Lib.hid (show CNw w G m lo (2^0%m) w3 from by
    rw[show 2^0%m=1 from by rw[Nat.pow_zero];exact Nat.mod_eq_of_lt HO.out.2.2,<- hw3];exact⟨tab_below _ _ H.out.2.drew.old H.out.2.hG,H.out.2.hG,H.out.2.drew.fld.sq 1⟩)
   rw[hw3];clear hw3 H hW hA c12 c4 f12
   go_loopw [5] (fun iv wr=>∃ k:Nat,k<=512/\iv=.int .i64 k/\Hid (CNw w G m lo (2^k%m) wr)) (fun iv _=>512 - (intOf iv).toNat)
   case atStart=>exact⟨0,by omega,rfl,H3⟩
   case round =>
    obtain⟨k,hk,rfl,H⟩:=hrel;clear H3;have hk0:(0:Int)<=k:=by omega
    by_cases hlt:k<512
    ·have hlt':(k:Int)<512:=by omega
     have hm0:0<m:=by have:=HO.out.2.2;omega
     obtain⟨x,hx⟩:∃ x,2^k%m=x:=⟨_,rfl⟩
     have hxm:x<m:=by rw[<- hx];exact Nat.mod_lt _ hm0
     have HX:=Lib.hid (show(x+x)%m=2^(k+1)%m from by rw[<- hx,Nat.pow_succ,Nat.mul_two,<- Nat.add_mod]);obtain⟨y,hy⟩:∃ y,(x+x)%m=y:=⟨_,rfl⟩
     rw[hx]at H;have HAD:=Lib.hid (fun wx (hf:RFat wx G m lo x)=>radd_any G m lo x x x hxm hxm HO.out.1 wx hf);rw[hy]at HX HAD;have HK:=Lib.hid hlt;clear hx hxm hy hm0 hlt hk
     go_wp2_with fail
     refine region_quiet_tail 11 (CNw w G m lo x) (by kernel_rfl) (by kernel_rfl) (H.out.drew) ?_;simp only[List.take_succ_cons,List.take_zero,List.drop_succ_cons,List.drop_zero]
     with_reducible refine q_val (.pointer (some ⟨G,0,none⟩)) (by kernel_rfl) (fun _ _=>by kernel_rfl) ?_
     with_reducible refine q_val (.pointer (some ⟨G,0,none⟩)) (by kernel_rfl) (fun _ _=>by kernel_rfl) ?_
     with_reducible refine q_val (.pointer (some ⟨G,0,none⟩)) (by kernel_rfl) (fun _ _=>by kernel_rfl) ?_
     with_reducible refine q_val (.pointer (some ⟨G,0,none⟩)) (by kernel_rfl) (fun _ _=>run_nil (.tmp 57) _ rfl (by kernel_rfl)) ?_
     with_reducible refine q_sem2 (Instr.fieldAt 83 (.pointer (some ⟨G,0,none⟩)) 3) (.pointer (some ⟨G,13,none⟩)) (by kernel_rfl) (by kernel_rfl) (fun w' _=>(rf_at G w').2.2.2) ?_
     with_reducible refine q_load 24 (.tmp 59) (.pointer (some ⟨G,13,none⟩)) (.agg (pw x)) rfl (by kernel_rfl) (by kernel_rfl) (fun _ c=>ld_rsq c.fld) ?_
     with_reducible refine q_val (.pointer (some ⟨G,0,none⟩)) (by kernel_rfl) (fun _ _=>by kernel_rfl) ?_
     with_reducible refine q_val (.pointer (some ⟨G,0,none⟩)) (by kernel_rfl) (fun _ _=>run_nil (.tmp 61) _ rfl (by kernel_rfl)) ?_
     with_reducible refine q_sem2 (Instr.fieldAt 83 (.pointer (some ⟨G,0,none⟩)) 3) (.pointer (some ⟨G,13,none⟩)) (by kernel_rfl) (by kernel_rfl) (fun w' _=>(rf_at G w').2.2.2) ?_
     with_reducible refine q_load 24 (.tmp 63) (.pointer (some ⟨G,13,none⟩)) (.agg (pw x)) rfl (by kernel_rfl) (by kernel_rfl) (fun _ c=>ld_rsq c.fld) ?_
     with_reducible refine q_call 39 #[.pointer (some ⟨G,0,none⟩),.agg (pw x),.agg (pw x)] (.agg (pw y)) (by kernel_rfl) (fun _=>by kernel_rfl) (CNw.calls HAD.out) ?_
     with_reducible refine wpQuiet_nil ?_
     intro wx hC;have HC:=Lib.hid hC;clear hC H;simp only[Act.put,List.setIfInBounds_toArray,List.set_cons_succ,List.set_cons_zero]
     go_wp2_with (refine wpList_store_mid rfl 24 _ _ rfl G 13 (pw y) rfl rfl (by exact HC.out.fld.there y) (by rw[pw_size];exact infoW4) (pw_one _) ?_)
     go_roundw
     case rel=>exact⟨k+1,by have:=HK.out;omega,by go_num,Lib.hid (by rw[<- HX.out];exact⟨tab_below _ _ HC.out.old HC.out.hG,HC.out.hG,HC.out.fld.sq y⟩)⟩
     case measure=>have:=HK.out;simp[intOf];omega
    ·have hlt':¬(k:Int)<512:=by omega
     have HK:=Lib.hid (show k=512 by omega);clear hlt hk
     go_wp2_with fail
     go_ret;refine⟨_,rfl,⟨G,rfl,H.out.hG,lo,HF.out.1,HF.out.2,?_⟩,H.out.old⟩;have h:=H.out.fld;rwa [sq_pow m k 256 (by have:=HK.out;omega) rfl]at h
  ·obtain⟨L,hL⟩:∃ L,4294967295 - c=L:=⟨_,rfl⟩
   have hcl:c<4294967296:=by rw[<- hc];exact Nat.mod_lt _ (by omega)
   obtain⟨b,hb,hb0,hbl,hst⟩:=LowI.step H.out.1 HQ0.out (by rw[hq,hpr,hc]) he hL;have hne:¬(c:Int)=4294967295:=by omega
   have hx1:bits .xor .u64 (if IntKind.u64.signed=true then -1 else IntKind.u64.max) (pr:Int)=((18446744073709551615 - pr:Nat):Int):=xor_ones (by omega);have hX:bits .and .u64 ((18446744073709551615 - pr:Nat):Int) 4294967295=(L:Int):=by
    have h:=and_low32 (18446744073709551615 - pr) (by omega);rwa [show(18446744073709551615 - pr)%4294967296=L by omega]at h
   have hN:IntKind.u64.wrap (-(L:Int))=((18446744073709551616 - L:Nat):Int):=by rw[IntKind.wrap_u64];omega
   have hB:bits .and .u64 (L:Int) ((18446744073709551616 - L:Nat):Int)=(b:Int):=by rw[bits_and_u64_nat _ _ (by omega) (by omega),hb]
   have hS:IntKind.u64.wrap ((lo:Int)+(b:Int))=((lo+b:Nat):Int):=by rw[IntKind.wrap_u64];omega
   have HS:=Lib.hid (And.intro hst (And.intro hb0 hbl));obtain⟨NL,hNL⟩:∃ NL,18446744073709551616 - L=NL:=⟨_,rfl⟩
   obtain⟨l2,hl2⟩:∃ l2,lo+b=l2:=⟨_,rfl⟩
   rw[hNL]at hN hB;rw[hl2]at hS HS;have hE:IntKind.u64.wrap ((lo:Int)+bits .and .u64 (bits .and .u64 (bits .xor .u64 (if IntKind.u64.signed=true then -1 else IntKind.u64.max) (pr:Int)) 4294967295) (IntKind.u64.wrap (-bits .and .u64 (bits .xor .u64 (if IntKind.u64.signed=true then -1 else IntKind.u64.max) (pr:Int)) 4294967295)))=(l2:Int):=by rw[hx1,hX,hN,hB,hS]
   have HE:=Lib.hid hE;clear hE hx1 hX hN hB hS;have HL2:=Lib.hid (And.intro hl2 (lowOf_is H.out.2.fld));have hcn:¬c=4294967295:=he;clear hst hb hb0 hbl hNL hl2 hL hcl he hc hll hql hpl hq hpr HPR
   go_wp2_with fail
   go_region
   go_wp2_with fail
   go_region
   go_wp2_with fail
   go_roundw
   case rel=>exact⟨l2,Lib.hid ⟨HS.out.1,by rw[HE.out];exact⟨H.out.2.old.drew.drew.setCell H.out.2.hG _,H.out.2.hG,H.out.2.fld.lo l2⟩⟩⟩
   case measure =>
    rw[HE.out];have h1:lowOf G (wr.setCell ⟨G,12,none⟩ (.int .u64 (l2:Nat))).drew.drew=l2:=lowOf_is (H.out.2.fld.lo l2);have h2:=HS.out.2;have h3:=HL2.out;show 4294967296 - lowOf G _<4294967296 - lowOf G _;rw[h1,h3.2];omega
open Go.RowKit
theorem points_any(w:World):Calls Tryz.prog 26 #[] w fun e w'=>∃ F,e=.returned (.agg #[.pointer (some ⟨F,0,none⟩)])/\FldAt w' F 115792089237316195423570985008687907853269984665640564039457584007908834671663/\w.heap.size<=F/\Below w.heap.size w w':=by
 have HCR:=Lib.hid (fun wx=>f_Curve wx);go_enter Tryz.func26,Tryz.ntmps26
 go_wp2_with fail
 refine(HCR.out _).mono ?_;rintro e w5 ⟨F,rfl,hF,hs,hb⟩;have HF:=Lib.hid hF;have HS:=Lib.hid hs;have HB:=Lib.hid hb;have hr:=(HB.out.block w.heap.size (by simp)).trans (heap_alloc_new w _);have HR:=Lib.hid hr;clear hF hs hb hr HCR
 go_wp2_with (refine wpList_store_row rfl 53 _ _ rfl w.heap.size #[.pointer (some ⟨F,0,none⟩)] rfl rfl 53 _ (by exact HR.out) (by kernel_rfl) (by rfl) (by kernel_rfl) ?_)
 (try simp only[Act.put])
 refine bodyPost_ret (v:=.agg #[.pointer (some ⟨F,0,none⟩)]) (results_cell_row (p:=0) rfl _ _ w.heap.size 53 #[.pointer (some ⟨F,0,none⟩)] (0,0) _ rfl (setRow_heap _ _ _ _ _ _ HR.out) Tryz.underlying53 rfl (by kernel_rfl)) rfl ⟨F,rfl,?_,?_,?_⟩
 ·have h:=HS.out
  simp at h;exact fld_row HF.out (by omega)
 ·have h:=HS.out
  simp at h;omega
 ·exact below_setRow (((Below.refl _ _).alloc (Nat.le_refl _) _).trans (HB.out.mono (by simp))) (Nat.le_refl _) _
theorem rF_any(w:World):Calls Tryz.prog 30 #[] w fun e w'=>∃ G,e=.returned (.pointer (some ⟨G,0,none⟩))/\RFld w' G 115792089237316195423570985008687907853269984665640564039457584007908834671663/\w.heap.size<=G/\Below w.heap.size w w':=by
 have HCR:=Lib.hid (fun wx=>rcurve_any wx);have HNW:=Lib.hid (fun wx=>rnew_any 115792089237316195423570985008687907853269984665640564039457584007908834671663 (by omega) (by omega) (by omega) wx);go_enter Tryz.func30,Tryz.ntmps30
 go_wp2_with fail
 refine(HCR.out _).mono ?_;rintro e w5 ⟨rfl,hb⟩;have HB:=Lib.hid hb;clear hb HCR
 go_wp2_with fail
 refine(HNW.out _).mono ?_;rintro e w6 ⟨v,rfl,⟨G,rfl,hs,lo,h1,h2,h3⟩,hb6⟩;have HG:=Lib.hid (show RFld w6 G 115792089237316195423570985008687907853269984665640564039457584007908834671663/\w.heap.size<=G/\Below w.heap.size w w6 from⟨⟨lo,h1,h2,h3⟩,Nat.le_trans HB.out.size hs,HB.out.trans (hb6.mono HB.out.size)⟩);clear hs h1 h2 h3 hb6 HB HNW
 go_wp2_with fail
 go_ret;exact⟨G,rfl,HG.out⟩
open Go.RowKit
namespace Sy
abbrev mK:Nat:=115792089237316195423570985008687907853269984665640564039457584007908834671663
theorem fK(w:World):FOk false mK (fun _=>0) w:=⟨by decide,by decide,by decide,fun h=>by cases h⟩
def cPoints:Con:=⟨26,fun n _ l=>match l with
 | []=>some (.ap (.p n 0 0 0) .e,[],[(n,sFld mK,103)])
 | _=>none⟩
theorem cPoints_ok{γ0:Pl}{w0:World}:ConOk Tryz.prog 1 γ0 w0 cPoints:=⟨fun _ _=>by kernel_rfl,fun n M l r p R hr hp hn hok _=>by
 simp only[cPoints]at hr
 split at hr
 ·cases hr
  refine⟨⟨trivial,trivial⟩,by show(decide (n<n+1)&&true)=true;simp,fun q hq=>?_,fun γ hγ wx hw hL=>?_⟩
  ·simp only[List.mem_cons,List.not_mem_nil,or_false]at hq
   subst hq;exact⟨⟨trivial,trivial,trivial,trivial,trivial,trivial,trivial,trivial,trivial,trivial⟩,rfl,Nat.le_refl _,Nat.lt_succ_self _⟩
  ·refine(points_any wx).mono fun e w' ⟨F,h1,h2,h3,h4⟩=>?_
   obtain⟨δ,hδ⟩:∃ δ:Pl,∀ k,δ k=if k=n then F else γ k:=⟨_,fun _=>rfl⟩
   refine⟨⟨δ,fun k hk=>by rw[hδ,if_neg (by omega)],?_,fun q hq=>?_,List.pairwise_singleton _ _⟩,h4⟩
   ·rw[h1]
    show _=Ending.returned (.agg #[.pointer (some ⟨δ n,0+0*0,none⟩)]);rw[hδ,if_pos rfl]
   ·simp only[List.mem_cons,List.not_mem_nil,or_false]at hq
    subst hq;refine⟨by rw[hδ,if_pos rfl];exact h3,?_⟩;show w'.heap[δ n]?=_;rw[hδ,if_pos rfl];exact h2.row
 ·cases hr⟩
def lstOf:SV->Option (List (Nat × Nat × Bool))
 | .e=>some []
 | .ap x t=>match ptS x,lstOf t with
  | some p,some l=>some (p::l)
  | _,_=>none
 | _=>none
theorem lstOf_ok{γ:Pl}:∀ {c:SV} {l:List (Nat × Nat × Bool)},lstOf c=some l->(c.cells γ).toArray=pls l/\(c.ok->∀ p∈l,p.1<2^256/\p.2.1<2^256)
 | .e,l,h=>by cases h;exact⟨rfl,fun _ p hp=>by cases hp⟩
 | .ap x t,l,h=>by
  unfold lstOf at h
  split at h
  ·rename_i p r hx hr
   cases h;have ih:=lstOf_ok (γ:=γ) hr;have k:=ptS_ok (γ:=γ) hx;refine⟨?_,fun ho q hq=>?_⟩
   ·show(x.cells γ++t.cells γ).toArray=pc p.1 p.2.1 p.2.2++pls r
    rw[<- ih.1];have e:x.cells γ=(pc p.1 p.2.1 p.2.2).toList:=by
     unfold ptS at hx
     split at hx
     ·have h2:=k.1
      have h3:Value.agg (SV.cells γ (SV.ap (.w _) (.ap (.w _) (.ap _ .e)))).toArray=.agg _:=h2;injection h3 with h3
      rw[<- h3]
     ·cases hx
    rw[e];simp
   ·rcases List.mem_cons.1 hq with rfl | hq
    ·exact k.2 ho.1
    ·exact ih.2 ho.2 q hq
  ·cases h
def conS(ext:Bool)(m:Nat)(f:FuncId)(g:List (Nat × Nat × Bool)->SV):Con:=⟨f,fun _ M us=>match us with
 | [.ap x .e,.s b 0 k _]=>match isF ext m M x,rowIn b M with
  | some p,some (c,T)=>match lstOf c with
   | some l=>if T=26/\l.length=k/\k<4294967296 then some (g l,p,[])else none
   | none=>none
  | _,_=>none
 | _=>none⟩
theorem conS_ok{ext:Bool}{m:Nat}{γ0:Pl}{w0:World}{f:FuncId}{g:List (Nat × Nat × Bool)->SV}(hf:FOk ext m γ0 w0)(hc:∀ as_ wx,(callFunc f as_).run Tryz.prog wx=.ok (.enter f as_) wx)(hg:∀ l,(∀ p∈l,p.1<2^256/\p.2.1<2^256)->(g l).ok/\(g l).lt 0=true)
  (h:∀ F b c l,(∀ p∈l,p.1<2^256/\p.2.1<2^256)->l.length<4294967296->∀ w,FldAt w F m->w.heap[b]?=some (.cells (pls l) 26 (0,0))->Calls Tryz.prog f #[.agg #[.pointer (some ⟨F,0,none⟩)],.slice (some ⟨b,0,none⟩) l.length c] w fun e w'=>e=.returned ((g l).val fun _=>0)/\Below w.heap.size w w'):ConOk Tryz.prog 1 γ0 w0 (conS ext m f g) :=
 ⟨hc,fun n M us r p R hr hp hn hok hM=>by
  unfold conS at hr;dsimp only at hr
  split at hr
  ·rename_i x b k c
   split at hr
   ·rename_i p' c' T hx hrow
    split at hr
    ·rename_i l hl
     split at hr
     ·rename_i hk
      cases hr;obtain⟨rfl,rfl,hk⟩:=hk;have hlt:=(lstOf_ok (γ:=fun _=>0) hl).2 (hM _ (rowIn_ok hrow)).1;have q:=hg l hlt;refine⟨q.1,SV.lt_mono (Nat.zero_le _) q.2,fun q hq=>(by cases hq),fun γ hγ wx hw hL=>?_⟩;obtain⟨F,h1,h2⟩:=isF_at hx hp hf hγ hw hL;have hrw:=(hL _ (rowIn_ok hrow)).1;rw[(lstOf_ok (γ:=γ) hl).1]at hrw;have g4:=h F (γ b) c l hlt hk wx h2 hrw;rw[<- agg_ptr hx h1]at g4;refine g4.mono fun e w' hh=>⟨⟨γ,fun _ _=>rfl,hh.1.trans (congrArg Ending.returned (val0 q.2).symm),fun q hq=>(by cases hq),.nil⟩,hh.2⟩
     ·cases hr
    ·cases hr
   ·cases hr
  ·cases hr⟩
def cHold(ext:Bool)(m:Nat):Con:=conS ext m 27 fun l=>.b (l.all (onB m))
theorem cHold_ok{ext:Bool}{m:Nat}{γ0:Pl}{w0:World}(hf:FOk ext m γ0 w0):ConOk Tryz.prog 1 γ0 w0 (cHold ext m) :=
 conS_ok hf (fun _ _=>by kernel_rfl) (fun _ _=>⟨trivial,rfl⟩) fun F b c l hl hn w hF hg=>ghold_any F m b c l hl hn w hF hg
def sIf(b:Bool):SV:=.i .i64 (if b=true then 0 else 81)
def sm3(m:Nat)(l:List (Nat × Nat × Bool)):Nat × Nat × Bool:=if l.all (onB m)=true then gpT m (gsm m l)else (0,0,true)
theorem sm3_val(m:Nat)(l:List (Nat × Nat × Bool)):pc (sm3 m l).1 (sm3 m l).2.1 (sm3 m l).2.2=if l.all (onB m)=true then gpo m (gsm m l)else pc 0 0 true:=by
 unfold sm3
 split
 ·rw[<- gpo_gpT]
 ·rfl
theorem sm3_lt{m:Nat}(h0:0<m)(hm:m<2^256)(l:List (Nat × Nat × Bool)):(sm3 m l).1<2^256/\(sm3 m l).2.1<2^256:=by
 unfold sm3
 split
 ·exact gpT_lt h0 hm _
 ·exact⟨w0_ok,w0_ok⟩
def cSum(ext:Bool)(m:Nat):Con:=conS ext m 38 fun l=>.tu (sP3 (sm3 m l)) (sIf (l.all (onB m)))
theorem cSum_ok{ext:Bool}{m:Nat}{γ0:Pl}{w0:World}(hf:FOk ext m γ0 w0):ConOk Tryz.prog 1 γ0 w0 (cSum ext m) :=
 conS_ok hf (fun _ _=>by kernel_rfl) (fun l _=>⟨⟨(sP3_ok (sm3_lt (by have:=hf.big;omega) hf.lt l)).1,trivial⟩,rfl⟩) fun F b c l hl hn w hF hg=>by
  have g4:=gsum_any F m b c l hl hn w hF hg;rw[<- sm3_val,<- sP3_val _ fun _=>0]at g4;exact g4
def zP:SV:=sPk 0 0 false
def bsP(n:Nat)(zs:SV):Bs:=⟨77,n,26,9,zs⟩
theorem zP_ok:zP.ok:=⟨w0_ok,w0_ok,trivial,trivial⟩
theorem bsP1_ok:(bsP 1 (.ap zP .e)).Good Tryz.prog:=⟨Tryz.underlying77,by kernel_rfl,by kernel_rfl,rfl,⟨zP_ok,trivial⟩,by decide,by decide⟩
theorem bsP2_ok:(bsP 2 (.ap zP (.ap zP .e))).Good Tryz.prog:=⟨Tryz.underlying77,by kernel_rfl,by kernel_rfl,rfl,⟨zP_ok,zP_ok,trivial⟩,by decide,by decide⟩
theorem one_mem{α:Type}{P:α->Prop}{x:α}(h:P x):∀ y∈[x],P y:=fun y hy=>by
 simp only[List.mem_cons,List.not_mem_nil,or_false]at hy;subst hy;exact h
noncomputable def EP (bs:Bs):Env:=E1 (cPoints::cHold false mK::cSum false mK::cNone::cTurned false mK::[]) [bs]
theorem EP_ok{bs:Bs}{w:World}(hb:bs.Good Tryz.prog):(EP bs).Good (fun _=>0) w:=E1s_ok ⟨cPoints_ok,cHold_ok (fK w),cSum_ok (fK w),cNone_ok,cTurned_ok (fK w),trivial⟩ (one_mem hb)
end Sy
open Sy
theorem gon_any(x y:Nat)(n:Bool)(hx:x<2^256)(hy:y<2^256)(w:World):Calls Tryz.prog 10 #[.agg (pc x y n)] w fun r w'=>r=.returned (.bool (onB mK (x,y,n)))/\Below w.heap.size w w':=by
 refine calls_at (EP_ok bsP1_ok) (by kernel_rfl) (fun _=>0) Tryz.func10 (by kernel_rfl) [sP x y n] ⟨⟨⟨hx,hy,trivial,trivial⟩,rfl⟩,trivial⟩ (by kernel_rfl) (by kernel_rfl)
  (.leaf (.b ([(x,y,n)].all (onB mK)))) (by kernel_rfl) ?_
 show Value.bool ([(x,y,n)].all (onB mK))=_;simp
theorem gadd_any(x y xq yq:Nat)(n nq:Bool)(hx:x<2^256)(hy:y<2^256)(hxq:xq<2^256)(hyq:yq<2^256)(w:World):Calls Tryz.prog 18 #[.agg (pc x y n),.agg (pc xq yq nq)] w fun r w'=>r=.returned (.tuple #[.agg (if [(x,y,n),(xq,yq,nq)].all (onB mK)=true then gpo mK (gsm mK [(x,y,n),(xq,yq,nq)])else pc 0 0 true),.int .i64 (if [(x,y,n),(xq,yq,nq)].all (onB mK)=true then 0 else 81)])/\Below w.heap.size w w':=by
 refine calls_at (EP_ok bsP2_ok) (by kernel_rfl) (fun _=>0) Tryz.func18 (by kernel_rfl) [sP x y n,sP xq yq nq] ⟨⟨⟨hx,hy,trivial,trivial⟩,rfl⟩,⟨⟨hxq,hyq,trivial,trivial⟩,rfl⟩,trivial⟩ (by kernel_rfl) (by kernel_rfl)
  (.leaf (.tu (sP3 (sm3 mK [(x,y,n),(xq,yq,nq)])) (sIf ([(x,y,n),(xq,yq,nq)].all (onB mK))))) (by kernel_rfl) ?_
 rw[<- sm3_val,<- sP3_val _ fun _=>0];rfl
theorem gsame_any(x y xq yq:Nat)(n nq:Bool)(hx:x<2^256)(hy:y<2^256)(hxq:xq<2^256)(hyq:yq<2^256)(w:World):Calls Tryz.prog 15 #[.agg (pc x y n),.agg (pc xq yq nq)] w fun r w'=>r=.returned (.bool (if (n||nq)=true then n&&nq else decide (x=xq/\y=yq)))/\Below w.heap.size w w':=by
 refine calls_at (E1_ok (more:=[]) (γ0:=fun _=>0) trivial) (by kernel_rfl) (fun _=>0) Tryz.func15 (by kernel_rfl) [sP x y n,sP xq yq nq] ⟨⟨⟨hx,hy,trivial,trivial⟩,rfl⟩,⟨⟨hxq,hyq,trivial,trivial⟩,rfl⟩,trivial⟩ (by kernel_rfl) (by kernel_rfl)
  (.br (bif n then true else nq) (.leaf (.b (bif n then nq else false))) (.leaf (.b (bif eqN x xq then eqN y yq else false)))) (by kernel_rfl) ⟨fun h=>?_,fun h=>?_⟩
 ·cases n <;> cases nq <;> first | (cases h;done) | rfl
 ·cases n <;> cases nq <;> first | (cases h;done) | skip
  show Value.bool _=.bool _;rw[if_neg (by simp)];congr 1;rw[Bool.eq_iff_iff];simp[eqN]
theorem gbase_any(w:World):Calls Tryz.prog 11 #[] w fun r w'=>r=.returned (.agg (pc 55066263022277343669578718895168534326250603453777594175500187360389116729240 32670510020758816978083085130507043184471273380659243275938904335757337482424 false))/\Below w.heap.size w w' :=
 calls_at (E1_ok (more:=[]) (γ0:=fun _=>0) trivial) (by kernel_rfl) (fun _=>0) Tryz.func11 (by kernel_rfl) [] trivial (by kernel_rfl) (by kernel_rfl)
  (.leaf (sPk 55066263022277343669578718895168534326250603453777594175500187360389116729240 32670510020758816978083085130507043184471273380659243275938904335757337482424 false)) (by kernel_rfl) rfl
open Go.RowKit
theorem bit_ref(x i:Nat)(hi:i<256)(w:World):Calls Tryz.prog 43 #[wv x,.int .i64 i] w fun e w'=>e=.returned (.int .u64 ((x%2^256 / 2^i%2:Nat):Int))/\Below w.heap.size w w':=by
 rw[wv_pw];obtain⟨p,hp⟩:∃ p:Nat,(i:Int) / 64=(p:Int):=⟨i / 64,by omega⟩
 obtain⟨s,hs⟩:∃ s:Nat,(i:Int)%64=(s:Int):=⟨i%64,by omega⟩
 have hv:bits .and .u64 (((pN x p:Nat):Int) / 2^s) 1=((x%2^256 / 2^i%2:Nat):Int):=by
  rw[<- bit_of x i p s (by omega) (by omega)];have h:=and_one (pN x p / 2^s) (Nat.lt_of_le_of_lt (Nat.div_le_self _ _) (pN_le x p));simpa using h
 have hpl:=pN_le x p;have hi0:(0:Int)<=i:=by omega
 have hi1:(i:Int)<256:=by omega
 have hp0:(0:Int)<=p:=by omega
 have hp1:(p:Int)<4:=by omega
 have hs0:(0:Int)<=s:=by omega
 have hs1:(s:Int)<64:=by omega
 have ca:(w.alloc (.cells (pw x) 24)).cell? ⟨w.heap.size,p,none⟩=some (.int .u64 (pN x p:Nat)):=(cell_of_row _ _ p _ _ _ (heap_alloc_new w _)).trans (pw_at x p (by omega));generalize x%2^256 / 2^i%2=c at *;go_enter Tryz.func43,Tryz.ntmps43;go_wp2;go_ret;exact⟨rfl,by go_grown⟩
open Go.RowKit
def rpq(m a x:Nat):Nat:=a^x*2^256%m
theorem rpq_lt{m:Nat}(h1:1<m)(a x:Nat):rpq m a x<m:=Nat.mod_lt _ (by omega)
theorem rpq_mul{m:Nat}(ho:m%2=1)(h1:1<m)(a x y:Nat):mnt m (rpq m a x) (rpq m a y)=rpq m a (x+y):=by
 unfold rpq;rw[mnt_both ho h1,Nat.pow_add]
theorem rpq_out{m:Nat}(ho:m%2=1)(h1:1<m)(a x:Nat):mnt m (rpq m a x) 1=a^x%m:=by
 unfold rpq;rw[mnt_back ho h1,Nat.mul_one]
theorem rpq_zero{m:Nat}(ho:m%2=1)(h1:1<m)(a:Nat):mnt m 1 (2^256*2^256%m)=rpq m a 0:=by
 unfold rpq;rw[mnt_scaled ho h1,Nat.pow_zero]
theorem rpq_one{m:Nat}(ho:m%2=1)(h1:1<m)(a:Nat):mnt m a (2^256*2^256%m)=rpq m a 1:=by
 unfold rpq;rw[mnt_scaled ho h1,Nat.pow_one]
theorem bit_next(e i:Nat):e / 2^(i+1)+e / 2^(i+1)+e / 2^i%2=e / 2^i:=by
 rw[Nat.pow_succ,<- Nat.div_div_eq_div_mul];omega
theorem CRf.put{w wx:World}{G m lo sq g:Nat}{L:List (Nat × Array Value)}{c0:Array Value}(c:CRf w G m lo sq ((g,c0)::L) wx)(hg:w.heap.size<=g)(hL:∀ p∈L,p.1≠g)(cs:Array Value):CRf w G m lo sq ((g,cs)::L) (wx.setRow g cs):=by
 have hG:=c.hG;refine⟨below_setRow c.old hg _,(setRow_other _ _ _ _ (by omega)).trans c.fld,hG,fun p hp=>?_⟩;rcases List.mem_cons.1 hp with rfl | hp
 ·exact setRow_heap _ _ _ _ _ _ (c.rows _ (List.mem_cons_self ..))
 ·exact(setRow_other _ _ _ _ (hL p hp)).trans (c.rows p (List.mem_cons_of_mem _ hp))
theorem rbit_pw(e i:Nat)(he:e<2^256)(hi:i<256)(w:World):Calls Tryz.prog 43 #[.agg (pw e),.int .i64 (i:Nat)] w fun r w'=>r=.returned (.int .u64 ((e / 2^i%2:Nat):Int))/\Below w.heap.size w w':=by
 have h:=bit_ref e i hi w;rw[Nat.mod_eq_of_lt he]at h;exact h
theorem rexp_w(G m a e:Nat)(hal:a<2^256)(he:e<2^256)(hm:m<2^256)(h1:1<m)(ho:m%2=1)(w:World)(hF:RFld w G m):Calls Tryz.prog 65 #[(.pointer (some ⟨G,0,none⟩)),.agg (pw a),.agg (pw e)] w fun r w'=>r=.returned (.agg (pw (a^e%m)))/\Below w.heap.size w w':=by
 obtain⟨lo,hll,hlo,hR⟩:=hF;obtain⟨sq,hsq⟩:∃ sq,2^256*2^256%m=sq:=⟨_,rfl⟩
 have hsl:sq<m:=by rw[<- hsq];exact Nat.mod_lt _ (by omega)
 have hp0:=rpq_zero ho h1 a;have hp1:=rpq_one ho h1 a;rw[hsq]at hp0 hp1 hR;have HOF:=Lib.hid (fun wx (hf:RFat wx G m lo sq)=>rof_any G m lo sq 1 (by omega) (by omega) hm wx hf);rw[show 1%m=1 from Nat.mod_eq_of_lt h1]at HOF;have HC0:=Lib.hid (fun wx (hf:RFat wx G m lo sq)=>rcut_any G m lo sq 1 sq h1 hsl hm h1 ho hll hlo wx hf);have HC1:=Lib.hid (fun wx (hf:RFat wx G m lo sq)=>rcut_w G m lo sq a sq hal (Nat.lt_trans hsl hm) (Nat.mul_lt_mul_of_le_of_lt (Nat.le_of_lt hal) hsl (by omega)) hm h1 ho hll hlo wx hf);rw[hp0]at HC0;rw[hp1]at HC1;have HCUT:=Lib.hid (fun(x y z:Nat) (hz:mnt m x y=z) (hx:x<m) (hy:y<m) wx (hf:RFat wx G m lo sq)=>(show Calls Tryz.prog 55 #[(.pointer (some ⟨G,0,none⟩)),.agg (pw x),.agg (pw y)] wx fun r w'=>r=.returned (.agg (pw z))/\Below wx.heap.size wx w' from hz ▸ rcut_any G m lo sq x y hx hy hm h1 ho hll hlo wx hf));have HBIT:=Lib.hid (fun i hi wx=>rbit_pw e i he hi wx);have H0:=Lib.hid (CRf.two hR a e);have HO:=Lib.hid (And.intro ho (And.intro h1 he));obtain⟨o,hoo⟩:∃ o,o=1:=⟨_,rfl⟩
 have HOO:=Lib.hid hoo;rw[show(pw 1:Array Value)=#[.int .u64 1,.int .u64 0,.int .u64 0,.int .u64 0] from rfl]at HOF;have HOF2:=Lib.hid (show ∀ wx,RFat wx G m lo sq->Calls Tryz.prog 54 #[(.pointer (some ⟨G,0,none⟩)),.agg #[.int .u64 1,.int .u64 0,.int .u64 0,.int .u64 0]] wx fun r w'=>r=.returned (.agg (pw o))/\Below wx.heap.size wx w' from by rw[hoo];exact HOF.out);have HC02:=Lib.hid (show ∀ wx,RFat wx G m lo sq->Calls Tryz.prog 55 #[(.pointer (some ⟨G,0,none⟩)),.agg (pw o),.agg (pw sq)] wx fun r w'=>r=.returned (.agg (pw (rpq m a 0)))/\Below wx.heap.size wx w' from by rw[hoo];exact HC0.out);obtain⟨p0,hp00⟩:∃ p0,rpq m a 0=p0:=⟨_,rfl⟩
 obtain⟨f,hf0⟩:∃ f,rpq m a 1=f:=⟨_,rfl⟩
 rw[hp00]at HC02;rw[hf0]at HC1;have HPF:=Lib.hid (And.intro hp00 hf0);clear hR hsq hsl hp0 hp1 hal hm h1 ho hll hlo he HOF HC0 hoo hp00 hf0;go_enter Tryz.func65,Tryz.ntmps65
 go_wp2_with fail
 refine(CRf.calls HOF2.out _ H0.out).mono ?_;rintro r w1 ⟨rfl,c1⟩;have H2:=Lib.hid (c1.lay (pw o));have HOD:=Lib.hid ((Array.getElem?_eq_some_iff.1 (c1.is (w.heap.size+1+1) (#[.int .u64 0,.int .u64 0,.int .u64 0,.int .u64 0]) (by simp))).1);have HN:=Lib.hid (heap_alloc_new w1 (.cells (#[.int .u64 0,.int .u64 0,.int .u64 0,.int .u64 0]) 24));clear c1 H0 HOF2
 go_upto_region 2 with(refine wpList_store_row rfl 24 _ _ rfl (w1.heap.size) (pw o) rfl rfl 24 (#[.int .u64 0,.int .u64 0,.int .u64 0,.int .u64 0]) (by exact HN.out) (by rw[pw_size];exact infoW4) (by first | rfl | (rw[pw_size];rfl) | (rw[pw_size,pw_size])) (pw_one _) ?_)
 obtain⟨w2,hw2⟩:∃ w2,(w1.alloc (.cells (#[.int .u64 0,.int .u64 0,.int .u64 0,.int .u64 0]) 24)).setRow w1.heap.size (pw o)=w2:=⟨_,rfl⟩
 have HS2:=Lib.hid (show w1.heap.size<w2.heap.size from by rw[<- hw2,setRow_size];simp);rw[hw2]at H2 |-
 obtain⟨O,hO⟩:∃ O,w1.heap.size=O:=⟨_,rfl⟩
 rw[hO]at H2 HS2 |-
 have HOL:=Lib.hid (show w.heap.size+1+1<O from by rw[<- hO];exact HOD.out);clear hw2 hO HN HOD;simp only[Act.put];refine region_many [.val 14 ((.pointer (some ⟨G,0,none⟩))),.val 15 ((.agg (pw o))),.val 16 ((.pointer (some ⟨G,0,none⟩))),.val 17 ((.pointer (some ⟨G,0,none⟩))),.val 18 ((.pointer (some ⟨G,13,none⟩))),.val 19 ((.agg (pw sq))),.val 20 ((.agg (pw p0))),.val 21 ((.pointer (some ⟨G,0,none⟩))),.val 22 ((.agg (pw a))),.val 23 ((.pointer (some ⟨G,0,none⟩))),.val 24 ((.pointer (some ⟨G,0,none⟩))),.val 25 ((.pointer (some ⟨G,13,none⟩))),.val 26 ((.agg (pw sq))),.val 27 ((.agg (pw f))),.blk 8 24,.blk 9 24,.laid 8 24,.laid 9 24] [8,9] (fun p=>if p=8 then pw p0 else pw f) (fun i=>i) (by kernel_rfl) (by kernel_rfl) (by exact⟨trivial,trivial,trivial,trivial,trivial,trivial,trivial,trivial,trivial,trivial,trivial,trivial,trivial,trivial,(by simp[Sp.ok]),(by simp[Sp.ok]),(by simp[Sp.ok]),(by simp[Sp.ok]),trivial⟩) (by intro p hp q hq hne D e;simp only[List.mem_cons,List.not_mem_nil,or_false]at hp;rcases hp with rfl | rfl <;> simp[undef]at e) ?_ ?_
 ·refine⟨?_,?_,?_,?_,?_,?_,?_,?_,?_,?_,?_,?_,?_,?_,?_,?_,?_,?_,trivial⟩
  ·intro ac wx hC hsz hK
   have h0:ac.tmps.getD 0 undef=(.pointer (some ⟨G,0,none⟩)):=hK.1 0 (by kernel_rfl);exact mm_val ((.pointer (some ⟨G,0,none⟩))) rfl (by kernel_rfl) (by rw[<- h0];kernel_rfl) hC (by kernel_rfl) (by rw[hsz];exact of_decide_eq_true (by kernel_rfl)) rfl
  ·intro ac wx hC hsz hK
   have h0:ac.tmps.getD 7 undef=(.pointer (some ⟨O,0,none⟩)):=hK.1 7 (by kernel_rfl);exact mm_load 24 (.tmp 7) ((.pointer (some ⟨O,0,none⟩))) ((.agg (pw o))) rfl rfl (by kernel_rfl) h0 (ld_pw ((H2.out.below hC.1).is _ _ (by simp))) hC (by kernel_rfl) (by rw[hsz];exact of_decide_eq_true (by kernel_rfl)) rfl
  ·intro ac wx hC hsz hK
   have h0:ac.tmps.getD 0 undef=(.pointer (some ⟨G,0,none⟩)):=hK.1 0 (by kernel_rfl);exact mm_val ((.pointer (some ⟨G,0,none⟩))) rfl (by kernel_rfl) (by rw[<- h0];kernel_rfl) hC (by kernel_rfl) (by rw[hsz];exact of_decide_eq_true (by kernel_rfl)) rfl
  ·intro ac wx hC hsz hK
   have h0:ac.tmps.getD 16 undef=(.pointer (some ⟨G,0,none⟩)):=hK.2 ⟨2,.data⟩ (by simp) rfl _ rfl;exact mm_val ((.pointer (some ⟨G,0,none⟩))) rfl (by kernel_rfl) (run_nil (.tmp 16) _ rfl h0) hC (by kernel_rfl) (by rw[hsz];exact of_decide_eq_true (by kernel_rfl)) rfl
  ·intro ac wx hC hsz hK
   have h0:ac.tmps.getD 17 undef=(.pointer (some ⟨G,0,none⟩)):=hK.2 ⟨3,.data⟩ (by simp) rfl _ rfl;refine mm_sem (Instr.fieldAt 83 (ac.tmps.getD 17 undef) 3) ((.pointer (some ⟨G,13,none⟩))) rfl (by kernel_rfl) (by kernel_rfl) ?_ hC (by kernel_rfl) (by rw[hsz];exact of_decide_eq_true (by kernel_rfl)) rfl;rw[h0];exact(rf_at G wx).2.2.2
  ·intro ac wx hC hsz hK
   have h0:ac.tmps.getD 18 undef=(.pointer (some ⟨G,13,none⟩)):=hK.2 ⟨4,.data⟩ (by simp) rfl _ rfl;exact mm_load 24 (.tmp 18) ((.pointer (some ⟨G,13,none⟩))) ((.agg (pw sq))) rfl rfl (by kernel_rfl) h0 (ld_rsq (H2.out.below hC.1).fld) hC (by kernel_rfl) (by rw[hsz];exact of_decide_eq_true (by kernel_rfl)) rfl
  ·intro ac wx hC hsz hK
   have h0:ac.tmps.getD 14 undef=(.pointer (some ⟨G,0,none⟩)):=hK.2 ⟨0,.data⟩ (by simp) rfl _ rfl;have h1:ac.tmps.getD 15 undef=(.agg (pw o)):=hK.2 ⟨1,.data⟩ (by simp) rfl _ rfl;have h2:ac.tmps.getD 19 undef=(.agg (pw sq)):=hK.2 ⟨5,.data⟩ (by simp) rfl _ rfl;refine mm_call 55 #[ac.tmps.getD 14 undef,ac.tmps.getD 15 undef,ac.tmps.getD 19 undef] ((.agg (pw p0))) rfl (by kernel_rfl) (by kernel_rfl) ?_ hC (by kernel_rfl) (by rw[hsz];exact of_decide_eq_true (by kernel_rfl)) rfl;rw[h0,h1,h2];exact HC02.out wx (H2.out.below hC.1).fld
  ·intro ac wx hC hsz hK
   have h0:ac.tmps.getD 0 undef=(.pointer (some ⟨G,0,none⟩)):=hK.1 0 (by kernel_rfl);exact mm_val ((.pointer (some ⟨G,0,none⟩))) rfl (by kernel_rfl) (by rw[<- h0];kernel_rfl) hC (by kernel_rfl) (by rw[hsz];exact of_decide_eq_true (by kernel_rfl)) rfl
  ·intro ac wx hC hsz hK
   have h0:ac.tmps.getD 4 undef=(.pointer (some ⟨w.heap.size,0,none⟩)):=hK.1 4 (by kernel_rfl);exact mm_load 24 (.tmp 4) ((.pointer (some ⟨w.heap.size,0,none⟩))) ((.agg (pw a))) rfl rfl (by kernel_rfl) h0 (ld_pw ((H2.out.below hC.1).is _ _ (by simp))) hC (by kernel_rfl) (by rw[hsz];exact of_decide_eq_true (by kernel_rfl)) rfl
  ·intro ac wx hC hsz hK
   have h0:ac.tmps.getD 0 undef=(.pointer (some ⟨G,0,none⟩)):=hK.1 0 (by kernel_rfl);exact mm_val ((.pointer (some ⟨G,0,none⟩))) rfl (by kernel_rfl) (by rw[<- h0];kernel_rfl) hC (by kernel_rfl) (by rw[hsz];exact of_decide_eq_true (by kernel_rfl)) rfl
  ·intro ac wx hC hsz hK
   have h0:ac.tmps.getD 23 undef=(.pointer (some ⟨G,0,none⟩)):=hK.2 ⟨9,.data⟩ (by simp) rfl _ rfl;exact mm_val ((.pointer (some ⟨G,0,none⟩))) rfl (by kernel_rfl) (run_nil (.tmp 23) _ rfl h0) hC (by kernel_rfl) (by rw[hsz];exact of_decide_eq_true (by kernel_rfl)) rfl
  ·intro ac wx hC hsz hK
   have h0:ac.tmps.getD 24 undef=(.pointer (some ⟨G,0,none⟩)):=hK.2 ⟨10,.data⟩ (by simp) rfl _ rfl;refine mm_sem (Instr.fieldAt 83 (ac.tmps.getD 24 undef) 3) ((.pointer (some ⟨G,13,none⟩))) rfl (by kernel_rfl) (by kernel_rfl) ?_ hC (by kernel_rfl) (by rw[hsz];exact of_decide_eq_true (by kernel_rfl)) rfl;rw[h0];exact(rf_at G wx).2.2.2
  ·intro ac wx hC hsz hK
   have h0:ac.tmps.getD 25 undef=(.pointer (some ⟨G,13,none⟩)):=hK.2 ⟨11,.data⟩ (by simp) rfl _ rfl;exact mm_load 24 (.tmp 25) ((.pointer (some ⟨G,13,none⟩))) ((.agg (pw sq))) rfl rfl (by kernel_rfl) h0 (ld_rsq (H2.out.below hC.1).fld) hC (by kernel_rfl) (by rw[hsz];exact of_decide_eq_true (by kernel_rfl)) rfl
  ·intro ac wx hC hsz hK
   have h0:ac.tmps.getD 21 undef=(.pointer (some ⟨G,0,none⟩)):=hK.2 ⟨7,.data⟩ (by simp) rfl _ rfl;have h1:ac.tmps.getD 22 undef=(.agg (pw a)):=hK.2 ⟨8,.data⟩ (by simp) rfl _ rfl;have h2:ac.tmps.getD 26 undef=(.agg (pw sq)):=hK.2 ⟨12,.data⟩ (by simp) rfl _ rfl;refine mm_call 55 #[ac.tmps.getD 21 undef,ac.tmps.getD 22 undef,ac.tmps.getD 26 undef] ((.agg (pw f))) rfl (by kernel_rfl) (by kernel_rfl) ?_ hC (by kernel_rfl) (by rw[hsz];exact of_decide_eq_true (by kernel_rfl)) rfl;rw[h0,h1,h2];exact HC1.out wx (H2.out.below hC.1).fld
  ·intro ac wx hC hsz hK
   exact mm_new 24 (#[.int .u64 0,.int .u64 0,.int .u64 0,.int .u64 0]) rfl (by kernel_rfl) (by kernel_rfl) hC (by first | (rw[pw_size];rfl) | (simp[pw_size];done) | rfl) (by rw[hsz];exact of_decide_eq_true (by kernel_rfl)) rfl
  ·intro ac wx hC hsz hK
   exact mm_new 24 (#[.int .u64 0,.int .u64 0,.int .u64 0,.int .u64 0]) rfl (by kernel_rfl) (by kernel_rfl) hC (by first | (rw[pw_size];rfl) | (simp[pw_size];done) | rfl) (by rw[hsz];exact of_decide_eq_true (by kernel_rfl)) rfl
  ·intro ac wx hC hsz hK
   have h0:ac.tmps.getD 20 undef=(.agg (pw p0)):=hK.2 ⟨6,.data⟩ (by simp) rfl _ rfl;exact mm_store (p:=8) 24 (.tmp 8) (.tmp 20) _ rfl rfl (by kernel_rfl) rfl h0 (by simp) (hK.2 ⟨14,.data⟩ (by simp) rfl _ rfl) (fun D cs h3 h4=>store_w (h4.trans (pw_size _)) h3) hC rfl
  ·intro ac wx hC hsz hK
   have h0:ac.tmps.getD 27 undef=(.agg (pw f)):=hK.2 ⟨13,.data⟩ (by simp) rfl _ rfl;exact mm_store (p:=9) 24 (.tmp 9) (.tmp 27) _ rfl rfl (by kernel_rfl) rfl h0 (by simp) (hK.2 ⟨15,.data⟩ (by simp) rfl _ rfl) (fun D cs h3 h4=>store_w (h4.trans (pw_size _)) h3) hC rfl
 intro f1 w5 hb5 hap hf5;obtain⟨D,s8,hD,r8⟩:=hf5 16 _ rfl;obtain⟨E,s9,hE,r9⟩:=hf5 17 _ rfl;have hne:D≠E:=hap.ne 8 (by simp) 9 (by simp) (by decide) D E s8 s9 hD hE;have H5:=Lib.hid (show CRf w G m lo sq [(D,pw p0),(E,pw f),(O,pw o),(w.heap.size+1+1,#[.int .u64 0,.int .u64 0,.int .u64 0,.int .u64 0]),(w.heap.size+1,pw e),(w.heap.size,pw a)] w5 from(((H2.out.below hb5).cons r9).cons r8));have HDE:=Lib.hid (show w.heap.size<=D/\∀ p∈([(E,pw f),(O,pw o),(w.heap.size+1+1,#[.int .u64 0,.int .u64 0,.int .u64 0,.int .u64 0]),(w.heap.size+1,pw e),(w.heap.size,pw a)]:List (Nat × Array Value)),p.1≠D from by
  have h1:=HOL.out;have h2:=HS2.out;refine⟨by omega,fun p hp=>?_⟩;simp only[List.mem_cons,List.not_mem_nil,or_false]at hp;rcases hp with rfl | rfl | rfl | rfl | rfl <;> simp only[] <;> omega)
 clear hf5 hap hb5 r8 r9 hD hE hne H2 HS2 HC02 HC1;generalize hAct:putAll _ _ _=A1 at *;have s8':A1.tmps.getD 8 undef=.pointer (some ⟨D,0,none⟩):=s8;have s9':A1.tmps.getD 9 undef=.pointer (some ⟨E,0,none⟩):=s9;have s0:A1.tmps.getD 0 undef=(.pointer (some ⟨G,0,none⟩)):=by subst hAct;kernel_rfl
 have s4:A1.tmps.getD 4 undef=.pointer (some ⟨w.heap.size,0,none⟩):=by subst hAct;kernel_rfl
 have s5:A1.tmps.getD 5 undef=.pointer (some ⟨w.heap.size+1,0,none⟩):=by subst hAct;kernel_rfl
 have s6:A1.tmps.getD 6 undef=.pointer (some ⟨w.heap.size+1+1,0,none⟩):=by subst hAct;kernel_rfl
 have s7:A1.tmps.getD 7 undef=.pointer (some ⟨O,0,none⟩):=by subst hAct;kernel_rfl
 have hsz:A1.tmps.size=48:=by rw[<- hAct,putAll_size];rfl
 have hdf:A1.defers=[]:=by subst hAct;kernel_rfl
 clear hAct s8 s9 f1;obtain⟨u1,t1⟩:∃ u,A1.tmps.getD 1 undef=u:=⟨_,rfl⟩
 obtain⟨u2,t2⟩:∃ u,A1.tmps.getD 2 undef=u:=⟨_,rfl⟩
 obtain⟨u3,t3⟩:∃ u,A1.tmps.getD 3 undef=u:=⟨_,rfl⟩
 obtain⟨u10,t10⟩:∃ u,A1.tmps.getD 10 undef=u:=⟨_,rfl⟩
 obtain⟨u11,t11⟩:∃ u,A1.tmps.getD 11 undef=u:=⟨_,rfl⟩
 obtain⟨u12,t12⟩:∃ u,A1.tmps.getD 12 undef=u:=⟨_,rfl⟩
 obtain⟨u13,t13⟩:∃ u,A1.tmps.getD 13 undef=u:=⟨_,rfl⟩
 obtain⟨u14,t14⟩:∃ u,A1.tmps.getD 14 undef=u:=⟨_,rfl⟩
 obtain⟨u15,t15⟩:∃ u,A1.tmps.getD 15 undef=u:=⟨_,rfl⟩
 obtain⟨u16,t16⟩:∃ u,A1.tmps.getD 16 undef=u:=⟨_,rfl⟩
 obtain⟨u17,t17⟩:∃ u,A1.tmps.getD 17 undef=u:=⟨_,rfl⟩
 obtain⟨u18,t18⟩:∃ u,A1.tmps.getD 18 undef=u:=⟨_,rfl⟩
 obtain⟨u19,t19⟩:∃ u,A1.tmps.getD 19 undef=u:=⟨_,rfl⟩
 obtain⟨u20,t20⟩:∃ u,A1.tmps.getD 20 undef=u:=⟨_,rfl⟩
 obtain⟨u21,t21⟩:∃ u,A1.tmps.getD 21 undef=u:=⟨_,rfl⟩
 obtain⟨u22,t22⟩:∃ u,A1.tmps.getD 22 undef=u:=⟨_,rfl⟩
 obtain⟨u23,t23⟩:∃ u,A1.tmps.getD 23 undef=u:=⟨_,rfl⟩
 obtain⟨u24,t24⟩:∃ u,A1.tmps.getD 24 undef=u:=⟨_,rfl⟩
 obtain⟨u25,t25⟩:∃ u,A1.tmps.getD 25 undef=u:=⟨_,rfl⟩
 obtain⟨u26,t26⟩:∃ u,A1.tmps.getD 26 undef=u:=⟨_,rfl⟩
 obtain⟨u27,t27⟩:∃ u,A1.tmps.getD 27 undef=u:=⟨_,rfl⟩
 obtain⟨u28,t28⟩:∃ u,A1.tmps.getD 28 undef=u:=⟨_,rfl⟩
 obtain⟨u29,t29⟩:∃ u,A1.tmps.getD 29 undef=u:=⟨_,rfl⟩
 obtain⟨u30,t30⟩:∃ u,A1.tmps.getD 30 undef=u:=⟨_,rfl⟩
 obtain⟨u31,t31⟩:∃ u,A1.tmps.getD 31 undef=u:=⟨_,rfl⟩
 obtain⟨u32,t32⟩:∃ u,A1.tmps.getD 32 undef=u:=⟨_,rfl⟩
 obtain⟨u33,t33⟩:∃ u,A1.tmps.getD 33 undef=u:=⟨_,rfl⟩
 obtain⟨u34,t34⟩:∃ u,A1.tmps.getD 34 undef=u:=⟨_,rfl⟩
 obtain⟨u35,t35⟩:∃ u,A1.tmps.getD 35 undef=u:=⟨_,rfl⟩
 obtain⟨u36,t36⟩:∃ u,A1.tmps.getD 36 undef=u:=⟨_,rfl⟩
 obtain⟨u37,t37⟩:∃ u,A1.tmps.getD 37 undef=u:=⟨_,rfl⟩
 obtain⟨u38,t38⟩:∃ u,A1.tmps.getD 38 undef=u:=⟨_,rfl⟩
 obtain⟨u39,t39⟩:∃ u,A1.tmps.getD 39 undef=u:=⟨_,rfl⟩
 obtain⟨u40,t40⟩:∃ u,A1.tmps.getD 40 undef=u:=⟨_,rfl⟩
 obtain⟨u41,t41⟩:∃ u,A1.tmps.getD 41 undef=u:=⟨_,rfl⟩
 obtain⟨u42,t42⟩:∃ u,A1.tmps.getD 42 undef=u:=⟨_,rfl⟩
 obtain⟨u43,t43⟩:∃ u,A1.tmps.getD 43 undef=u:=⟨_,rfl⟩
 obtain⟨u44,t44⟩:∃ u,A1.tmps.getD 44 undef=u:=⟨_,rfl⟩
 obtain⟨u45,t45⟩:∃ u,A1.tmps.getD 45 undef=u:=⟨_,rfl⟩
 obtain⟨u46,t46⟩:∃ u,A1.tmps.getD 46 undef=u:=⟨_,rfl⟩
 obtain⟨u47,t47⟩:∃ u,A1.tmps.getD 47 undef=u:=⟨_,rfl⟩
 obtain⟨tm,df⟩:=A1;simp only at *;have hLt:=arr_litS tm;rw[hsz]at hLt;simp only[List.range,List.range.loop,List.map]at hLt;rw[s0,t1,t2,t3,s4,s5,s6,s7,s8',s9',t10,t11,t12,t13,t14,t15,t16,t17,t18,t19,t20,t21,t22,t23,t24,t25,t26,t27,t28,t29,t30,t31,t32,t33,t34,t35,t36,t37,t38,t39,t40,t41,t42,t43,t44,t45,t46,t47]at hLt;subst hLt hdf;clear s0 t1 t2 t3 s4 s5 s6 s7 s8' s9' t10 t11 t12 t13 t14 t15 t16 t17 t18 t19 t20 t21 t22 t23 t24 t25 t26 t27 t28 t29 t30 t31 t32 t33 t34 t35 t36 t37 t38 t39 t40 t41 t42 t43 t44 t45 t46 t47 hsz
 go_wp2_with fail
 go_loopw [10] (fun iv wr=>∃ j:Nat,j<=256/\iv=.int .i64 ((j:Int) - 1)/\∃ x,x=rpq m a (e / 2^j)/\Hid (CRf w G m lo sq [(D,pw x),(E,pw f),(O,pw o),(w.heap.size+1+1,#[.int .u64 0,.int .u64 0,.int .u64 0,.int .u64 0]),(w.heap.size+1,pw e),(w.heap.size,pw a)] wr)) (fun iv _=>(intOf iv+1).toNat)
 case atStart=>exact⟨256,by omega,rfl,p0,by rw[Nat.div_eq_of_lt HO.out.2.2,HPF.out.1],H5⟩
 case round =>
  obtain⟨j,hj,rfl,x,hx,H⟩:=hrel;clear H5;by_cases h0:1<=j
  ·obtain⟨i,rfl⟩:∃ i,j=i+1:=⟨j - 1,by omega⟩
   rw[show(((i+1:Nat):Int) - 1)=(i:Int) by omega];have hi0:(0:Int)<=i:=by omega
   have HB:=Lib.hid (HBIT.out i (by omega));have HBN:=bit_next e i;obtain⟨q,hq⟩:∃ q,e / 2^(i+1)=q:=⟨_,rfl⟩
   rw[hq]at HBN hx;obtain⟨b,hb⟩:∃ b,e / 2^i%2=b:=⟨_,rfl⟩
   have hb2:b<2:=by rw[<- hb];exact Nat.mod_lt _ (by omega)
   rw[hb]at HB HBN;obtain⟨y,hy⟩:∃ y,rpq m a (q+q)=y:=⟨_,rfl⟩
   have hxl:x<m:=by rw[hx];exact rpq_lt HO.out.2.1 _ _
   have hyl:y<m:=by rw[<- hy];exact rpq_lt HO.out.2.1 _ _
   have HT:=Lib.hid (HCUT.out x x y (by rw[<- hy,hx];exact rpq_mul HO.out.1 HO.out.2.1 a q q) hxl hxl);have HIJ:=Lib.hid (show i<256/\wrap64 ((i:Int) - 1)=(i:Int) - 1 from⟨by omega,by have h:=hj;unfold wrap64;omega⟩);have HYL:=Lib.hid (And.intro hyl (And.intro hy HBN));clear hx hxl hyl hy HBN hq hb hj h0
   go_wp2_with (refine wpList_ld rfl 24 _ rfl (.pointer (some ⟨D,0,none⟩)) (.agg (pw x)) rfl (ld_pw (by exact H.out.is _ _ (by simp))) ?_)
   refine(CRf.calls HT.out _ H.out).mono ?_;rintro r w6 ⟨rfl,c6⟩;have H6:=Lib.hid (c6.put HDE.out.1 HDE.out.2 (pw y));have H6B:=Lib.hid c6;clear c6 H HT
   go_upto_region 7 with(refine wpList_store_row rfl 24 _ _ rfl (D) (pw y) rfl rfl 24 (pw x) (by exact H6B.out.is _ _ (by simp)) (by rw[pw_size];exact infoW4) (by first | rfl | (rw[pw_size];rfl) | (rw[pw_size,pw_size])) (pw_one _) ?_)
   obtain⟨w7,hw7⟩:∃ w7,w6.setRow D (pw y)=w7:=⟨_,rfl⟩
   rw[hw7]at H6 |-
   clear hw7 H6B
   go_wp2_with (refine wpList_ld rfl 24 _ rfl (.pointer (some ⟨w.heap.size+1,0,none⟩)) (.agg (pw e)) rfl (ld_pw (by exact H6.out.is _ _ (by simp))) ?_)
   refine(HB.out _).mono ?_;rintro r w8 ⟨rfl,hb8⟩;have H8:=Lib.hid (H6.out.below hb8);clear hb8 H6 HB;by_cases h1:b=1
   ·subst h1
    have hfl:f<m:=by rw[<- HPF.out.2];exact rpq_lt HO.out.2.1 _ _
    obtain⟨z,hz⟩:∃ z,rpq m a (q+q+1)=z:=⟨_,rfl⟩
    have HT:=Lib.hid (HCUT.out y f z (by rw[<- hz,<- HYL.out.2.1,<- HPF.out.2];exact rpq_mul HO.out.1 HO.out.2.1 a (q+q) 1) HYL.out.1 hfl);have HZ:=Lib.hid hz;clear hfl hz
    go_wp2_with (first | (refine wpList_ld rfl 24 _ rfl (.pointer (some ⟨D,0,none⟩)) (.agg (pw y)) rfl (ld_pw (by exact H8.out.is _ _ (by simp))) ?_) | (refine wpList_ld rfl 24 _ rfl (.pointer (some ⟨E,0,none⟩)) (.agg (pw f)) rfl (ld_pw (by exact H8.out.is _ _ (by simp))) ?_))
    refine(CRf.calls HT.out _ H8.out).mono ?_;rintro r w9 ⟨rfl,c9⟩;have H9:=Lib.hid c9;clear c9 H8 HT
    go_wp2_with (refine wpList_store_row rfl 24 _ _ rfl (D) (pw z) rfl rfl 24 (pw y) (by exact H9.out.is _ _ (by simp)) (by rw[pw_size];exact infoW4) (by first | rfl | (rw[pw_size];rfl) | (rw[pw_size,pw_size])) (pw_one _) ?_)
    go_roundw
    case rel=>exact⟨i,by have:=HIJ.out.1;omega,by rw[HIJ.out.2],z,by rw[<- HZ.out];exact congrArg _ HYL.out.2.2,Lib.hid (H9.out.put HDE.out.1 HDE.out.2 (pw z))⟩
    case measure=>first | (rw[HIJ.out.2];simp[intOf];done) | (rw[HIJ.out.2];simp[intOf];omega) | (simp only[intOf];rw[HIJ.out.2];omega)
   ·have hb0:b=0:=by omega
    subst hb0;clear h1
    go_wp2_with fail
    go_roundw
    case rel=>exact⟨i,by have:=HIJ.out.1;omega,by rw[HIJ.out.2],y,by rw[<- HYL.out.2.1];exact congrArg _ HYL.out.2.2,H8⟩
    case measure=>first | (rw[HIJ.out.2];simp[intOf];done) | (rw[HIJ.out.2];simp[intOf];omega) | (simp only[intOf];rw[HIJ.out.2];omega)
  ·obtain rfl:j=0:=by omega
   rw[Nat.pow_zero,Nat.div_one]at hx;have hxl:x<m:=by rw[hx];exact rpq_lt HO.out.2.1 _ _
   obtain⟨y,hy⟩:∃ y,a^e%m=y:=⟨_,rfl⟩
   have HT:=Lib.hid (HCUT.out x o y (by rw[HOO.out,hx,<- hy];exact rpq_out HO.out.1 HO.out.2.1 a e) hxl (by rw[HOO.out];exact HO.out.2.1));have HY:=Lib.hid hy;clear hx hxl hy hj h0 HPF HOO;rw[show(((0:Nat):Int) - 1)=-1 from rfl]
   go_wp2_with (first | (refine wpList_ld rfl 24 _ rfl (.pointer (some ⟨D,0,none⟩)) (.agg (pw x)) rfl (ld_pw (by exact H.out.is _ _ (by simp))) ?_) | (refine wpList_ld rfl 24 _ rfl (.pointer (some ⟨O,0,none⟩)) (.agg (pw o)) rfl (ld_pw (by exact H.out.is _ _ (by simp))) ?_))
   refine(CRf.calls HT.out _ H.out).mono ?_;rintro r w9 ⟨rfl,c9⟩;have H9:=Lib.hid c9;clear c9 H HT
   go_wp2_with (refine wpList_store_row rfl 24 _ _ rfl (w.heap.size+1+1) (pw y) rfl rfl 24 (#[.int .u64 0,.int .u64 0,.int .u64 0,.int .u64 0]) (by exact H9.out.is _ _ (by simp)) (by rw[pw_size];exact infoW4) (by first | rfl | (rw[pw_size];rfl) | (rw[pw_size,pw_size])) (pw_one _) ?_)
   (try simp only[Act.put])
   refine bodyPost_ret (v:=.agg (pw y)) (results_cell_row (p:=6) rfl _ _ (w.heap.size+1+1) 24 (pw y) (0,0) _ rfl (setRow_heap _ _ _ _ _ _ (by exact H9.out.is _ (#[.int .u64 0,.int .u64 0,.int .u64 0,.int .u64 0]) (by simp))) Tryz.underlying24 rfl (by rw[pw_size];exact infoW4)) rfl ⟨by rw[HY.out],below_setRow H9.out.old (by omega) _⟩
theorem rexp_any(G m a e:Nat)(hal:a<m)(he:e<2^256)(hm:m<2^256)(h1:1<m)(ho:m%2=1)(w:World)(hF:RFld w G m):Calls Tryz.prog 65 #[(.pointer (some ⟨G,0,none⟩)),.agg (pw a),.agg (pw e)] w fun r w'=>r=.returned (.agg (pw (a^e%m)))/\Below w.heap.size w w' :=
 rexp_w G m a e (Nat.lt_trans hal hm) he hm h1 ho w hF
end Go.Proofs.YtfmpjjhdocejiaaGreat
