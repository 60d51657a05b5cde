/- The worlds of the reference's Cut. (Cut to what is reached, written closely: RWh · RCw.) -/
import Derived.Test.YtadfjjfklihaaaaGreatP30
import Derived.Test.YtadfjjfklihaaaaGreatP31
set_option linter.all false
set_option maxRecDepth 100000
set_option maxHeartbeats 8000000
namespace Go.Proofs.YtadfjjfklihaaaaGreat
open Go.RowKit
def hw(f:Nat->Nat)(k p:Nat):Nat:=if 2*p+1<k then f (2*p)+4294967296*f (2*p+1)else if 2*p<k then f (2*p)else 0
theorem hw_zero(f:Nat->Nat):(ar .u64 4 fun j=>((hw f 0 j:Nat):Int))=#[.int .u64 0,.int .u64 0,.int .u64 0,.int .u64 0]:=by kernel_rfl
theorem hw_full(f:Nat->Nat)(hf:∀ j,j<8->f j<4294967296):(ar .u64 4 fun j=>((hw f 8 j:Nat):Int))=pw (vq f 8):=by
 have h0:=hf 0 (by omega);have h1:=hf 1 (by omega);have h2:=hf 2 (by omega);have h3:=hf 3 (by omega);have h4:=hf 4 (by omega);have h5:=hf 5 (by omega);have h6:=hf 6 (by omega);have h7:=hf 7 (by omega);rw[pw_ar];refine ar_congr fun j hj=>?_;have e:vq f 8=f 0+4294967296*f 1+18446744073709551616*f 2+79228162514264337593543950336*f 3+340282366920938463463374607431768211456*f 4+1461501637330902918203684832716283019655932542976*f 5+6277101735386680763835789423207666416102355444464034512896*f 6+26959946667150639794667015087019630673637144422540572481103610249216*f 7:=by
  simp only[vq,Nat.reduceMul,Nat.reducePow];omega
 have:hw f 8 j=pN (vq f 8) j:=by
  unfold hw pN;rw[if_pos (by omega),e];have:j=0\/j=1\/j=2\/j=3:=by omega
  rcases this with rfl | rfl | rfl | rfl <;> simp only[Nat.reduceMul,Nat.reduceAdd,Nat.reducePow] <;> omega
 rw[this]
theorem hw_next(f:Nat->Nat)(k p r:Nat)(hk:k=2*p+r)(hr:r<2)(j:Nat):hw f (k+1) j=if j=p then hw f k p+2^(32*r)*f k else hw f k j:=by
 unfold hw;by_cases e:j=p
 ·subst e
  have:r=0\/r=1:=by omega
  rcases this with rfl | rfl
  ·rw[if_neg (by omega),if_pos (by omega),if_pos rfl,if_neg (by omega),if_neg (by omega)]
   simp at hk;rw[hk];simp
  ·rw[if_pos (by omega),if_pos rfl,if_neg (by omega),if_pos (by omega),hk]
 ·rw[if_neg e]
  by_cases h1:2*j+1<k
  ·rw[if_pos (by omega),if_pos h1]
  ·rw[if_neg h1]
   by_cases h2:2*j<k
   ·rw[if_pos h2,if_neg (by omega),if_pos (by omega)]
   ·rw[if_neg h2,if_neg (by omega),if_neg (by omega)]
theorem hw_low(f:Nat->Nat)(k p r:Nat)(hk:k=2*p+r)(hr:r<2)(hf:∀ j,j<8->f j<4294967296)(h8:k<8):hw f k p<2^(32*r):=by
 unfold hw;have:r=0\/r=1:=by omega
 rcases this with rfl | rfl
 ·rw[if_neg (by omega),if_neg (by omega)];simp
 ·rw[if_neg (by omega),if_pos (by omega)];have:=hf (2*p) (by omega);simpa using this
theorem or_up64{D x s:Nat}(hx:x<4294967296)(hs:s<=32)(hD:D<2^s):bits .or .u64 (D:Int) ((2^s*x:Nat):Int)=((D+2^s*x:Nat):Int)/\IntKind.u64.wrap ((x:Int)*2^s)=((2^s*x:Nat):Int):=by
 have hp:2^s<=2^32:=Nat.pow_le_pow_right (by omega) hs;have h1:2^s*x<=2^32*4294967295:=Nat.mul_le_mul hp (by omega);constructor
 ·rw[bits_or_u64_nat _ _ (by omega) (by omega),Nat.or_comm,<- Nat.two_pow_add_eq_or_of_lt hD,Nat.add_comm]
 ·have e:(x:Int)*2^s=((2^s*x:Nat):Int):=by simp[Int.mul_comm]
  rw[e,IntKind.wrap_u64];omega
structure CWh (w:World) (f:Nat->Nat) (k:Nat) (wx:World):Prop where
 old:Below w.heap.size w wx
 ra:wx.heap[w.heap.size]?=some (.cells (ar .u64 8 fun j=>((f j:Nat):Int)) 106 (0,0))
 rr:wx.heap[w.heap.size+1]?=some (.cells (#[.int .u64 0,.int .u64 0,.int .u64 0,.int .u64 0]) 24 (0,0))
 rp:wx.heap[w.heap.size+1+1]?=some (.cells (ar .u64 4 fun j=>((hw f k j:Nat):Int)) 24 (0,0))
theorem CWh.drew{w wx:World}{f:Nat->Nat}{k:Nat}(c:CWh w f k wx):CWh w f k wx.drew:=⟨c.old.drew,c.ra,c.rr,c.rp⟩
theorem CWh.put{w wx:World}{f:Nat->Nat}{k p r v:Nat}(c:CWh w f k wx)(hk:k=2*p+r)(hr:r<2)(h8:k<8)(hv:v=hw f k p+2^(32*r)*f k):CWh w f (k+1) (wx.setCell ⟨w.heap.size+1+1,p,none⟩ (.int .u64 (v:Nat))):=by
 subst hv;refine⟨c.old.setCell (by simp;omega) _,(heap_setCell_other _ _ _ _ (by simp;omega)).trans c.ra,(heap_setCell_other _ _ _ _ (by simp)).trans c.rr,?_⟩;refine(heap_setCell_same _ _ _ _ _ _ c.rp).trans ?_;rw[ar_set _ _ _ _ _ (by omega)];congr 2;refine ar_congr fun j _=>?_;unfold updI;rw[hw_next f k p r hk hr j];by_cases e:j=p
 ·rw[if_pos e,if_pos e]
 ·rw[if_neg e,if_neg e]
theorem CWh.start(w:World)(f:Nat->Nat):CWh w f 0 (((w.alloc (.cells (ar .u64 8 fun j=>((f j:Nat):Int)) 106)).alloc (.cells (#[.int .u64 0,.int .u64 0,.int .u64 0,.int .u64 0]) 24)).alloc (.cells (#[.int .u64 0,.int .u64 0,.int .u64 0,.int .u64 0]) 24)):=by
 refine⟨(((Below.refl _ _).alloc (Nat.le_refl _) _).alloc (by simp) _).alloc (by simp;omega) _,?_,?_,?_⟩
 ·rw[Below.heap_alloc _ _ _ (by simp;omega),Below.heap_alloc _ _ _ (by simp),heap_alloc_new]
 ·rw[Below.heap_alloc _ _ _ (by simp)]
  have:=heap_alloc_new (w.alloc (.cells (ar .u64 8 fun j=>((f j:Nat):Int)) 106)) (.cells (#[.int .u64 0,.int .u64 0,.int .u64 0,.int .u64 0]) 24);rwa [World.size_alloc]at this
 ·rw[hw_zero]
  have:=heap_alloc_new ((w.alloc (.cells (ar .u64 8 fun j=>((f j:Nat):Int)) 106)).alloc (.cells (#[.int .u64 0,.int .u64 0,.int .u64 0,.int .u64 0]) 24)) (.cells (#[.int .u64 0,.int .u64 0,.int .u64 0,.int .u64 0]) 24);rwa [World.size_alloc,World.size_alloc]at this
theorem rwhole_any(f:Nat->Nat)(hf:∀ j,j<8->f j<4294967296)(w:World):Calls Tryz.prog 136 #[.agg (ar .u64 8 fun j=>((f j:Nat):Int))] w fun e w'=>e=.returned (.agg (pw (vq f 8)))/\Below w.heap.size w w':=by
 have HI:Hid ((Tryz.prog.info? 24).map (·.size)=some (ar .u64 4 fun j=>((hw f 8 j:Nat):Int)).size):=Lib.hid (by rw[ar_size];exact infoW4);have HR:=Lib.hid (CWh.start w f);have HF:=Lib.hid hf;have HE:=Lib.hid (hw_full f hf);clear hf;go_enter Tryz.func136,Tryz.ntmps136
 go_wp2_with fail
 go_loopw [4] (fun iv wr=>∃ k:Nat,k<=8/\iv=.int .i64 k/\Hid (CWh w f k wr)) (fun iv _=>8 - (intOf iv).toNat)
 case atStart=>exact⟨0,by omega,rfl,HR⟩
 case round =>
  obtain⟨k,hk,rfl,H⟩:=hrel;clear HR;have hk0:(0:Int)<=k:=by omega
  have hk1:(k:Int)<=8:=by omega
  by_cases hlt:k<8
  ·obtain⟨p,hp⟩:∃ p:Nat,(k:Int) / 2=(p:Int):=⟨k / 2,by omega⟩
   obtain⟨r,hr⟩:∃ r:Nat,(k:Int)%2=(r:Int):=⟨k%2,by omega⟩
   obtain⟨s,hs⟩:∃ s:Nat,32*(r:Int)=(s:Int):=⟨32*r,by omega⟩
   have hp0:(0:Int)<=p:=by omega
   have hp1:(p:Int)<4:=by omega
   have hs0:(0:Int)<=s:=by omega
   have hs1:(s:Int)<64:=by omega
   have hlt':(k:Int)<8:=by omega
   have hkp:k=2*p+r:=by omega
   have hr2:r<2:=by omega
   have ca:wr.cell? ⟨w.heap.size,k,none⟩=some (.int .u64 (f k:Nat)):=(cell_of_row _ _ k _ _ _ H.out.ra).trans (ar_at _ _ _ _ (by omega));have co:wr.cell? ⟨w.heap.size+1+1,p,none⟩=some (.int .u64 (hw f k p:Nat)):=(cell_of_row _ _ p _ _ _ H.out.rp).trans (ar_at _ _ _ _ (by omega));have fo:wr.frozen? ⟨w.heap.size+1+1,p,none⟩=false:=frozen_of_row wr _ p _ _ H.out.rp;have hlow:=hw_low f k p r hkp hr2 HF.out hlt;have hfk:=HF.out k hlt;rw[show 32*r=s by omega]at hlow;obtain⟨hor,hw1⟩:=or_up64 hfk (show s<=32 by omega) hlow;obtain⟨X,hX⟩:∃ X,2^s*f k=X:=⟨_,rfl⟩
   rw[hX]at hor hw1;have HY:=Lib.hid (show hw f k p+X=hw f k p+2^(32*r)*f k from by rw[<- hX,show 32*r=s by omega]);obtain⟨x,hx⟩:∃ x,f k=x:=⟨_,rfl⟩
   obtain⟨o,ho⟩:∃ o,hw f k p=o:=⟨_,rfl⟩
   rw[hx]at hw1 ca;rw[ho]at co hor;have HV:=Lib.hid hor;have HK:=Lib.hid (And.intro hlt (And.intro hkp (And.intro hr2 ho)));clear hor hfk hlow hX hx ho hkp hr2 hlt hk
   go_wp2_with fail
   go_region
   go_wp2_with fail
   go_roundw
   case rel=>exact⟨k+1,by have:=HK.out.1;omega,by go_num,Lib.hid (by rw[HV.out];exact H.out.drew.put HK.out.2.1 HK.out.2.2.1 HK.out.1 (by rw[<- HY.out,HK.out.2.2.2]))⟩
   case measure=>have:=HK.out.1;simp[intOf];omega
  ·obtain rfl:k=8:=by omega
   go_wp2_with (first | (refine wpList_load_row rfl 24 _ rfl (w.heap.size+1+1) rfl 24 _ (0,0) _ H.out.rp Tryz.underlying24 rfl HI.out ?_) | (refine wpList_store_row rfl 24 _ _ rfl (w.heap.size+1) (ar .u64 4 fun j=>((hw f 8 j:Nat):Int)) rfl rfl 24 _ (by exact H.out.rr) HI.out (by rw[ar_size];rfl) (ar_one _ _ _) ?_))
   refine bodyPost_ret (v:=.agg (ar .u64 4 fun j=>((hw f 8 j:Nat):Int))) (results_cell_row (p:=2) rfl _ _ (w.heap.size+1) 24 _ (0,0) _ rfl (setRow_heap _ _ _ _ _ _ H.out.rr) Tryz.underlying24 rfl HI.out) rfl ⟨by rw[HE.out],below_setRow H.out.old (by omega) _⟩
open Go.RowKit
structure CCt (w:World) (G m lo sq a b d7 d8 d9:Nat) (f:Nat->Nat) (wx:World):Prop where
 old:Below w.heap.size w wx
 fld:RFat wx G m lo sq
 hG:G<w.heap.size
 rr:wx.heap[w.heap.size+1+1]?=some (.cells (#[.int .u64 0,.int .u64 0,.int .u64 0,.int .u64 0]) 24 (0,0))
 rx:wx.heap[d7]?=some (.cells (ar .u64 8 fun j=>((qN a j:Nat):Int)) 106 (0,0))
 ry:wx.heap[d8]?=some (.cells (ar .u64 8 fun j=>((qN b j:Nat):Int)) 106 (0,0))
 rt:wx.heap[d9]?=some (.cells (ar .u64 10 fun j=>((f j:Nat):Int)) 166 (0,0))
 h9:w.heap.size+1+1<d9
 n7:d7≠d9
 n8:d8≠d9
section
variable {w wx w':World} {G m lo sq a b d7 d8 d9:Nat} {f:Nat->Nat}
theorem CCt.below(c:CCt w G m lo sq a b d7 d8 d9 f wx)(hb:Below wx.heap.size wx w'):CCt w G m lo sq a b d7 d8 d9 f w' :=
 ⟨c.old.trans (hb.mono c.old.size),c.fld.below hb,c.hG,(hb.block _ (Array.getElem?_eq_some_iff.1 c.rr).1).trans c.rr,(hb.block _ (Array.getElem?_eq_some_iff.1 c.rx).1).trans c.rx,(hb.block _ (Array.getElem?_eq_some_iff.1 c.ry).1).trans c.ry,(hb.block _ (Array.getElem?_eq_some_iff.1 c.rt).1).trans c.rt,c.h9,c.n7,c.n8⟩
theorem CCt.drew(c:CCt w G m lo sq a b d7 d8 d9 f wx):CCt w G m lo sq a b d7 d8 d9 f wx.drew:=c.below (Below.drew (Below.refl _ _))
theorem CCt.cx(c:CCt w G m lo sq a b d7 d8 d9 f wx)(j:Nat)(hj:j<8):wx.cell? ⟨d7,j,none⟩=some (.int .u64 (qN a j:Nat)):=(cell_of_row _ _ j _ _ _ c.rx).trans (ar_at _ _ _ _ hj)
theorem CCt.cy(c:CCt w G m lo sq a b d7 d8 d9 f wx)(j:Nat)(hj:j<8):wx.cell? ⟨d8,j,none⟩=some (.int .u64 (qN b j:Nat)):=(cell_of_row _ _ j _ _ _ c.ry).trans (ar_at _ _ _ _ hj)
theorem CCt.ct(c:CCt w G m lo sq a b d7 d8 d9 f wx)(j:Nat)(hj:j<10):wx.cell? ⟨d9,j,none⟩=some (.int .u64 (f j:Nat)):=(cell_of_row _ _ j _ _ _ c.rt).trans (ar_at _ _ _ _ hj)
theorem CCt.cq(c:CCt w G m lo sq a b d7 d8 d9 f wx)(j:Nat)(hj:j<8):wx.cell? ⟨G,4+j,none⟩=some (.int .u64 (qN m j:Nat)):=(c.fld.cell (4+j) (by omega)).trans (by rw[rfw_q _ _ _ _ hj])
theorem CCt.cl(c:CCt w G m lo sq a b d7 d8 d9 f wx):wx.cell? ⟨G,12,none⟩=some (.int .u64 (lo:Nat)):=(c.fld.cell 12 (by omega)).trans (by rw[rfw_lo])
theorem CCt.fz(c:CCt w G m lo sq a b d7 d8 d9 f wx)(j:Nat):wx.frozen? ⟨d9,j,none⟩=false:=frozen_of_row wx _ j _ _ c.rt
theorem ar_upd(n:Nat)(f:Nat->Nat)(j v:Nat)(h:j<n):(ar .u64 n fun j=>((f j:Nat):Int)).setIfInBounds j (.int .u64 (v:Nat))=ar .u64 n fun i=>((updN f j v i:Nat):Int):=by
 rw[ar_set _ _ _ _ _ h];refine ar_congr fun i _=>?_;unfold updI updN;by_cases e:i=j
 ·rw[if_pos e,if_pos e]
 ·rw[if_neg e,if_neg e]
theorem CCt.put(c:CCt w G m lo sq a b d7 d8 d9 f wx)(j v:Nat)(hj:j<10):CCt w G m lo sq a b d7 d8 d9 (updN f j v) (wx.setCell ⟨d9,j,none⟩ (.int .u64 (v:Nat))):=by
 have h9:=c.h9;have hG:=c.hG;refine⟨c.old.setCell (by simp;omega) _,(heap_setCell_other _ _ _ _ (by simp;omega)).trans c.fld,c.hG,(heap_setCell_other _ _ _ _ (by simp;omega)).trans c.rr,(heap_setCell_other _ _ _ _ (by simpa using c.n7)).trans c.rx,(heap_setCell_other _ _ _ _ (by simpa using c.n8)).trans c.ry,?_,c.h9,c.n7,c.n8⟩;refine(heap_setCell_same _ _ _ _ _ _ c.rt).trans ?_;rw[ar_upd _ _ _ _ hj]
end
theorem cut_low{F0 lo q0 k:Nat}(hl:(lo*q0+1)%4294967296=0)(hk:F0*lo%4294967296=k):(F0+k*q0)%4294967296=0:=by
 have h:(F0+k*q0)%4294967296=F0*(lo*q0+1)%4294967296:=by
  rw[<- hk,Nat.add_mod,Nat.mod_mul_mod,<- Nat.add_mod,Nat.mul_add,Nat.mul_one,Nat.mul_assoc,Nat.add_comm]
 rw[h,Nat.mul_mod,hl,Nat.mul_zero,Nat.zero_mod]
theorem info8r(f:Nat->Nat):(Tryz.prog.info? 106).map (·.size)=some (ar .u64 8 fun j=>((f j:Nat):Int)).size:=by rw[ar_size];exact info8
theorem info10:(Tryz.prog.info? 166).map (·.size)=some 10:=by kernel_rfl
theorem store_8{g:Nat}{f:Nat->Nat}{w:World}{cs:Array Value}(hs:cs.size=8)(hg:w.heap[g]?=some (.cells cs 106 (0,0))):(Instr.storeAt 106 (.pointer (some ⟨g,0,none⟩)) (.agg (ar .u64 8 fun j=>((f j:Nat):Int)))).run Tryz.prog w=.ok () (w.setRow g (ar .u64 8 fun j=>((f j:Nat):Int))):=by
 simp only[Instr.storeAt,Instr.sureAddr,Sem.run_bind,Sem.run_pure,Result.andThen_ok,run_storeVar_row w g 106 106 cs (ar .u64 8 fun j=>((f j:Nat):Int)) hg (info8r f) (by rw[hs,ar_size]) (ar_one _ _ _)]
theorem store_10{g:Nat}{f:Nat->Nat}{w:World}{cs:Array Value}(hs:cs.size=10)(hg:w.heap[g]?=some (.cells cs 166 (0,0))):(Instr.storeAt 166 (.pointer (some ⟨g,0,none⟩)) (.agg (ar .u64 10 fun j=>((f j:Nat):Int)))).run Tryz.prog w=.ok () (w.setRow g (ar .u64 10 fun j=>((f j:Nat):Int))):=by
 simp only[Instr.storeAt,Instr.sureAddr,Sem.run_bind,Sem.run_pure,Result.andThen_ok,run_storeVar_row w g 166 166 cs (ar .u64 10 fun j=>((f j:Nat):Int)) hg (by rw[ar_size];exact info10) (by rw[hs,ar_size]) (ar_one _ _ _)]
def prt(f:Nat->Nat)(k j:Nat):Nat:=if j<k then f j else 0
theorem prt_zero(f:Nat->Nat):(ar .u64 8 fun j=>((prt f 0 j:Nat):Int))=#[.int .u64 0,.int .u64 0,.int .u64 0,.int .u64 0,.int .u64 0,.int .u64 0,.int .u64 0,.int .u64 0]:=by kernel_rfl
theorem prt_next(f:Nat->Nat)(k:Nat):updN (prt f k) k (f k)=prt f (k+1):=by
 funext j
 unfold updN prt;by_cases e:j=k
 ·subst e;rw[if_pos rfl,if_pos (by omega)]
 ·rw[if_neg e]
  by_cases h:j<k
  ·rw[if_pos h,if_pos (by omega)]
  ·rw[if_neg h,if_neg (by omega)]
section
variable {w wx w':World} {G m lo sq a b d7 d8 d9:Nat} {f:Nat->Nat}
theorem CCt.far(c:CCt w G m lo sq a b d7 d8 d9 f wx){d:Nat}(h:G<d/\w.heap.size+1+1<d/\d7<d/\d8<d/\d9<d)(j:Nat)(v:Value):CCt w G m lo sq a b d7 d8 d9 f (wx.setCell ⟨d,j,none⟩ v) :=
 ⟨c.old.setCell (by simp;omega) _,(heap_setCell_other _ _ _ _ (by simp;omega)).trans c.fld,c.hG,(heap_setCell_other _ _ _ _ (by simp;omega)).trans c.rr,(heap_setCell_other _ _ _ _ (by simp;omega)).trans c.rx,(heap_setCell_other _ _ _ _ (by simp;omega)).trans c.ry,(heap_setCell_other _ _ _ _ (by simp;omega)).trans c.rt,c.h9,c.n7,c.n8⟩
theorem CCt.all(c:CCt w G m lo sq a b d7 d8 d9 f wx):G<wx.heap.size/\w.heap.size+1+1<wx.heap.size/\d7<wx.heap.size/\d8<wx.heap.size/\d9<wx.heap.size :=
 ⟨c.fld.less,(Array.getElem?_eq_some_iff.1 c.rr).1,(Array.getElem?_eq_some_iff.1 c.rx).1,(Array.getElem?_eq_some_iff.1 c.ry).1,(Array.getElem?_eq_some_iff.1 c.rt).1⟩
theorem prt_put{d k:Nat}(h:wx.heap[d]?=some (.cells (ar .u64 8 fun j=>((prt f k j:Nat):Int)) 106 (0,0)))(hk:k<8):(wx.setCell ⟨d,k,none⟩ (.int .u64 (f k:Nat))).heap[d]?=some (.cells (ar .u64 8 fun j=>((prt f (k+1) j:Nat):Int)) 106 (0,0)):=by
 refine(heap_setCell_same _ _ _ _ _ _ h).trans ?_;rw[ar_upd _ _ _ _ hk,prt_next]
end
structure CCu (w:World) (G m lo sq a b d7 d8 d9:Nat) (f:Nat->Nat) (g v:Nat) (wx:World):Prop where
 c:CCt w G m lo sq a b d7 d8 d9 f wx
 rv:wx.heap[g]?=some (.cells (pw v) 24 (0,0))
section
variable {w wx w':World} {G m lo sq a b d7 d8 d9 g v:Nat} {f:Nat->Nat}
theorem CCu.below(h:CCu w G m lo sq a b d7 d8 d9 f g v wx)(hb:Below wx.heap.size wx w'):CCu w G m lo sq a b d7 d8 d9 f g v w':=⟨h.c.below hb,(hb.block _ (Array.getElem?_eq_some_iff.1 h.rv).1).trans h.rv⟩
theorem CCu.drew(h:CCu w G m lo sq a b d7 d8 d9 f g v wx):CCu w G m lo sq a b d7 d8 d9 f g v wx.drew:=h.below (Below.drew (Below.refl _ _))
theorem CCu.calls{fn:FuncId}{args:Array Value}{r:Value}(h:∀ wx,Calls Tryz.prog fn args wx fun e w'=>e=.returned r/\Below wx.heap.size wx w'):∀ wx,CCu w G m lo sq a b d7 d8 d9 f g v wx->Calls Tryz.prog fn args wx fun e w'=>e=.returned r/\CCu w G m lo sq a b d7 d8 d9 f g v w' :=
 fun wx c=>(h wx).mono fun _ _ hh=>⟨hh.1,c.below hh.2⟩
theorem CCt.lay(c:CCt w G m lo sq a b d7 d8 d9 f wx)(v:Nat):CCu w G m lo sq a b d7 d8 d9 f wx.heap.size v ((wx.alloc (.cells (#[.int .u64 0,.int .u64 0,.int .u64 0,.int .u64 0]) 24)).setRow wx.heap.size (pw v)):=by
 have hb:Below wx.heap.size wx ((wx.alloc (.cells (#[.int .u64 0,.int .u64 0,.int .u64 0,.int .u64 0]) 24)).setRow wx.heap.size (pw v)):=below_setRow ((Below.refl _ _).alloc (Nat.le_refl _) _) (Nat.le_refl _) _;exact⟨c.below hb,setRow_heap _ _ _ _ _ _ (heap_alloc_new _ _)⟩
end
theorem ix_10(d:Nat)(w:World):(Instr.indexAt 166 (.pointer (some ⟨d,0,none⟩)) (.int .i64 8)).run Tryz.prog w=.ok (.pointer (some ⟨d,8,none⟩)) w:=by go_simp
theorem zero10:(ar .u64 10 fun j=>(((fun _=>0:Nat->Nat) j:Nat):Int))=#[.int .u64 0,.int .u64 0,.int .u64 0,.int .u64 0,.int .u64 0,.int .u64 0,.int .u64 0,.int .u64 0,.int .u64 0,.int .u64 0]:=by kernel_rfl
end Go.Proofs.YtadfjjfklihaaaaGreat
