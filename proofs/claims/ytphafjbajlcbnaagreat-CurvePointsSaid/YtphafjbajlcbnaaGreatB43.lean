/- What bailiwickref01.From comes to, called with any bytes; a word is the number of its bytes. (Cut to what is reached, written closely: PBy · PFr.) -/
import Derived.Test.YtphafjbajlcbnaaGreatB33
import Derived.Test.YtphafjbajlcbnaaGreatB42
import Derived.Test.YtphafjbajlcbnaaGreatB16
import Derived.Laws.CopyRow
import Derived.Deep.DeepCutAuto
import Derived.Test.YtphafjbajlcbnaaGreatB7
import Derived.Test.YtphafjbajlcbnaaGreatB5
import Derived.Test.YtphafjbajlcbnaaGreatB2
set_option linter.all false
set_option maxRecDepth 100000
set_option maxHeartbeats 8000000
namespace Go.Proofs.YtphafjbajlcbnaaGreat
open Go.RowKit Sy
def r64(f:Nat->Nat):Array Value:=((List.range 64).map fun j=>Value.int .u8 (f j:Nat)).toArray
theorem BF(f:Nat->Nat):(r64 f).size=64:=by simp[r64]
theorem Qe(f:Nat->Nat)(j:Nat)(h:j<64):(r64 f)[j]?=some (.int .u8 (f j:Nat)):=by simp[r64,h]
theorem MP(f:Nat->Nat):(r64 f).all (·.oneCell')=true:=by simp[r64,Value.oneCell']
theorem EJ:r64 (fun _=>0)=(.int .u8 0::.int .u8 0::.int .u8 0::.int .u8 0::.int .u8 0::.int .u8 0::.int .u8 0::.int .u8 0::.int .u8 0::.int .u8 0::.int .u8 0::.int .u8 0::.int .u8 0::.int .u8 0::.int .u8 0::.int .u8 0::.int .u8 0::.int .u8 0::.int .u8 0::.int .u8 0::.int .u8 0::.int .u8 0::.int .u8 0::.int .u8 0::.int .u8 0::.int .u8 0::.int .u8 0::.int .u8 0::.int .u8 0::.int .u8 0::.int .u8 0::.int .u8 0::.int .u8 0::.int .u8 0::.int .u8 0::.int .u8 0::.int .u8 0::.int .u8 0::.int .u8 0::.int .u8 0::.int .u8 0::.int .u8 0::.int .u8 0::.int .u8 0::.int .u8 0::.int .u8 0::.int .u8 0::.int .u8 0::.int .u8 0::.int .u8 0::.int .u8 0::.int .u8 0::.int .u8 0::.int .u8 0::.int .u8 0::.int .u8 0::.int .u8 0::.int .u8 0::.int .u8 0::.int .u8 0::.int .u8 0::.int .u8 0::.int .u8 0::.int .u8 0::[]).toArray:=by kernel_rfl
def e64(x y j:Nat):Nat:=if j<32 then bt x j else bt y (j - 32)
def byB(x y:Nat)(n:Bool):Nat->Nat:=if onB mK (x,y,n)=true then (if n=true then fun _=>0 else e64 x y)else fun _=>0
def byE(x y:Nat)(n:Bool):Int:=if onB mK (x,y,n)=true then (if n=true then 80 else 0)else 81
theorem Ji:(Tryz.prog.info? 31).map (·.size)=some 64:=by kernel_rfl
theorem A0m:(Tryz.prog.info? 61).map (·.size)=some 32:=by kernel_rfl
theorem A3P:(Tryz.prog.info? 26).map (·.size)=some 9:=by kernel_rfl
theorem A2G:(Tryz.prog.info? 5).map (·.size)=some 1:=by kernel_rfl
def PtAt(w:World)(B x y:Nat)(n:Bool):Prop:=w.heap[B]?=some (.cells (pc x y n) 26 (0,0))
theorem PtAt.below{w w':World}{B x y:Nat}{n:Bool}(h:PtAt w B x y n)(hb:Below w.heap.size w w'):PtAt w' B x y n:=(hb.block _ (Array.getElem?_eq_some_iff.1 h).1).trans h
theorem A4d(x y:Nat)(n:Bool)(j:Nat)(h:j<4):(pc x y n)[j]?=some (.int .u64 (pN x j:Nat)):=by
 unfold pc;rw[Array.append_assoc,Array.getElem?_append_left (by simpa[A7]using h)];exact Qt x j h
theorem A4e(x y:Nat)(n:Bool)(j:Nat)(h:j<4):(pc x y n)[4+j]?=some (.int .u64 (pN y j:Nat)):=by
 unfold pc;rw[Array.append_assoc,Array.getElem?_append_right (by simp[A7]),Array.getElem?_append_left (by simp[A7];omega),show 4+j - (pw x).size=j by rw[A7];omega];exact Qt y j h
theorem A4f(x y:Nat)(n:Bool):(pc x y n)[8]?=some (.bool n):=by simp[pc,pw]
theorem A4g{w:World}{B x y:Nat}{n:Bool}(h:PtAt w B x y n):(Instr.loadAt 24 (.pointer (some ⟨B,0,none⟩))).run Tryz.prog w=.ok (.agg (pw x)) w:=by
 rw[Dh];simp only[Instr.loadAt,Instr.sureAddr,Sem.run_bind,Sem.run_pure,Result.andThen_ok,AR w B 0 4 24 .u64 (fun j=>((pN x j:Nat):Int)) _ (fun j hj=>by
  rw[Nat.zero_add,cell_of_row _ _ j _ _ _ h,A4d _ _ _ _ hj]) Tryz.underlying24 rfl Ab]
theorem A4h{w:World}{B x y:Nat}{n:Bool}(h:PtAt w B x y n):(Instr.loadAt 24 (.pointer (some ⟨B,4,none⟩))).run Tryz.prog w=.ok (.agg (pw y)) w:=by
 rw[Dh];simp only[Instr.loadAt,Instr.sureAddr,Sem.run_bind,Sem.run_pure,Result.andThen_ok,AR w B 4 4 24 .u64 (fun j=>((pN y j:Nat):Int)) _ (fun j hj=>by
  rw[cell_of_row _ _ (4+j) _ _ _ h,A4e _ _ _ _ hj]) Tryz.underlying24 rfl Ab]
theorem A3Q{w:World}{D:Nat}{cs:Array Value}{f:Nat->Nat}(h:w.heap[D]?=some (.cells cs 61 (0,0)))(hs:cs.size=32):(Instr.storeAt 61 (.pointer (some ⟨D,0,none⟩)) (.agg (Bw f 32))).run Tryz.prog w=.ok () (w.setRow D (Bw f 32)):=by
 simp only[Instr.storeAt,Instr.sureAddr,Sem.run_bind,Sem.run_pure,Result.andThen_ok,run_storeVar_row w D 61 61 cs (Bw f 32) h (by rw[BC];exact A0m) (by rw[hs,BC]) (Jq _ _)]
theorem Gg{fn:Func}{p q:Tmp}(h:fn.results=#[.cell p 31,.tmp q])(tmps:Array Value)(w:World)(g:Nat)(f:Nat->Nat)(v:Value)
  (hp:tmps.getD p undef=.pointer (some ⟨g,0,none⟩)) (hq:tmps.getD q undef=v) (hg:w.heap[g]?=some (.cells (r64 f) 31 (0,0))) :
  (results fn tmps).run Tryz.prog w=.ok (.tuple #[.agg (r64 f),v]) w:=by
 have hp':tmps[p]?.getD undef=.pointer (some ⟨g,0,none⟩):=by simpa using hp
 have hq':tmps[q]?.getD undef=v:=by simpa using hq
 simp[results,h,hp',hq',asAddr,run_loadVar_row w g 31 31 (r64 f) (0,0) _ hg Tryz.underlying31 rfl (by rw[BF];exact Ji)]
theorem XA{w:World}{G V o:Nat}{f g h:Nat->Nat}(ho:o+32<=64)(hG:w.heap[G]?=some (.cells (r64 f) 31 (0,0)))(hV:w.heap[V]?=some (.cells (Bw g 32) 61 (0,0)))(hh:∀ j,j<64->h j=if o<=j/\j<o+32 then g (j - o)else f j)(c1 c2:Nat) :
  (Builtin.copy_ #[40,40] 3 #[.slice (some ⟨G,o,none⟩) 32 c1,.slice (some ⟨V,0,none⟩) 32 c2]).run Tryz.prog w=.ok (.int .i64 32) (w.setRow G (r64 h)):=by
 have hl:(Bw g 32).toList.length=32:=by rw[Array.length_toList,BC]
 have hr:=run_copy_row (P:=Tryz.prog) w 40 40 3 5 G o 32 c1 ⟨V,0,none⟩ 32 c2 (r64 f) 31 (Bw g 32).toList Tryz.underlying40 A2G hG (by rw[hl];rfl) (fun j x hv=>by
  rw[Addr.add_lit,Nat.zero_add,cell_of_row _ _ j _ _ _ hV,<- hv,Array.getElem?_toList]) (by rw[hl,BF];exact ho) (fun x hv=>by
  have h1:=Jq g 32;rw[Array.all_eq_true_iff_forall_mem]at h1;exact h1 x (by simpa using hv))
 rw[hr,hl];congr 2;apply Array.ext_getElem?;intro j;simp only[List.getElem?_toArray];by_cases hj:j<64
 ·rw[Qe _ _ hj,hh j hj]
  by_cases h1:j<o
  ·rw[List.append_assoc,List.getElem?_append_left (by simp[BF];omega),List.getElem?_take,if_pos h1,Array.getElem?_toList,Qe _ _ hj,if_neg τ]
  ·have ht:((r64 f).toList.take o).length=o:=by rw[List.length_take,Array.length_toList,BF];omega
   rw[List.append_assoc,List.getElem?_append_right (by rw[ht];omega),ht];by_cases h2:j<o+32
   ·rw[List.getElem?_append_left (by rw[hl];omega),Array.getElem?_toList,Qi _ _ _ τ,if_pos τ,if_pos τ]
   ·rw[List.getElem?_append_right (by rw[hl];omega),hl,List.getElem?_drop,Array.getElem?_toList,show o+32+(j - o - 32)=j by omega,Qe _ _ hj,if_neg τ]
 ·rw[Array.getElem?_eq_none (by rw[BF];omega),List.getElem?_eq_none (by simp[BF,BC];omega)]
theorem wpList_copy_run{P:Program}(w:World){ops:Array Oper}{rest:List Oper}{o:Oper}{a:Act}{Q:Exit->Act->World->Prop}(hgd:o.guard=none)(s x:Operand)(t tn:TypeId)
  (ho:o.op=.call { callee:=.builtin .copy,args:=#[s,x],argTypes:=#[t,tn] }) (vs vx:Value) (hs:a.eval s=vs) (hx:a.eval x=vx)
  (v':Value) (w':World) (hr:(Builtin.copy_ #[t,tn] o.type #[vs,vx]).run P w=.ok v' w') (h:wpList P ops Q rest (a.put o.dst v') w'):wpList P ops Q (o::rest) a w :=
 wpList_plain hgd fun _ hK=>by
  unfold Oper.wp execOp;simp only[ho,resolve,invoke,builtin,Sem.run_bind,Sem.run_pure,Result.andThen_ok,List.map_toArray,List.map_cons,List.map_nil,hs,hx,hr];exact hK _ _ h
theorem Ox(w:World)(n:Nat):w.grownBy (w.drewN n) none:=⟨rfl,rfl,rfl,Nat.le_refl _,fun _ _ _=>rfl⟩
theorem below_drewN{w w':World}{k:Nat}(h:Below w.heap.size w w'):Below w.heap.size w (w'.drewN k):=h.grown (Ox w' k) h.size (fun j e=>by cases e)
theorem XB{w wx:World}{G:Nat}(h:Below w.heap.size w wx)(hG:w.heap.size<=G)(f:Nat->Nat):Below w.heap.size w (wx.setRow G (r64 f)):=below_setRow h hG _
theorem Qf(x y:Nat)(n:Bool)(hx:x<2^256)(hy:y<2^256)(w:World):Calls Tryz.prog 9 #[.agg (pc x y n)] w fun e w'=>e=.returned (.tuple #[.agg (r64 (byB x y n)),.int .i64 (byE x y n)])/\Below w.heap.size w w':=by
 have HON:=Lib.hid (fun wx=>R7 x y n hx hy wx);have h9:(pc x y n).size=9:=by simp[pc,A7]
 have hX:=A4f x y n;obtain⟨C,hC⟩:∃ C,pc x y n=C:=⟨_,rfl⟩
 have HC:=Lib.hid hC;rw[hC]at h9 hX HON |-
 have HX:=Lib.hid hX;have HI:=Lib.hid (show(Tryz.prog.info? 26).map (·.size)=some C.size by rw[h9];exact A3P);clear hC hX hx hy;go_enter Tryz.func9,Tryz.ntmps9
 go_upto_region 1 with(fail)
 rw[<- EJ];obtain⟨w1,hw1⟩:∃ w1,(w.alloc (.cells C 26)).alloc (.cells (r64 fun _=>0) 31)=w1:=⟨_,rfl⟩
 have H0:=Lib.hid (show w1.heap[w.heap.size]?=some (.cells C 26 (0,0))/\w1.heap[w.heap.size+1]?=some (.cells (r64 fun _=>0) 31 (0,0))/\Below w.heap.size w w1 from by
  rw[<- hw1];exact⟨(KA _ _ _).1,(KA _ _ _).2,by go_grown⟩)
 rw[hw1];clear hw1;have HZ:=Lib.hid (show ∀ g,w.heap.size+1<g->w.heap.size+1≠g from fun g hg=>by omega);cases hon:onB mK (x,y,n)with
 | false =>
  have HB:=Lib.hid (show byB x y n=fun _=>0 by unfold byB;rw[hon];rfl);have HE:=Lib.hid (show byE x y n=81 by unfold byE;rw[hon];rfl);rw[hon]at HON;clear hon
  go_wp2_with (first | (refine wpList_load_row rfl 26 _ rfl w.heap.size rfl 26 C (0,0) _ H0.out.1 Tryz.underlying26 rfl HI.out ?_) | (go_at_call 10;refine(HON.out _).mono ?_;rintro e w2 ⟨rfl,hb⟩;have H2:=Lib.hid (And.intro ((hb.block _ (Array.getElem?_eq_some_iff.1 H0.out.2.1).1).trans H0.out.2.1) (H0.out.2.2.trans (hb.mono H0.out.2.2.size)));clear hb) | (refine wpList_store_row rfl 31 _ _ rfl (w.heap.size+1) (r64 fun _=>0) rfl (by rw[EJ];rfl) 31 _ H2.out.1 (by rw[BF];exact Ji) (by rw[BF]) (MP _) ?_))
  refine bodyPost_ret (Gg rfl _ _ (w.heap.size+1) _ _ rfl rfl (setRow_heap _ _ _ _ _ _ H2.out.1)) rfl ⟨by rw[HB.out,HE.out];rfl,XB H2.out.2 τ _⟩
 | true =>
  rw[hon]at HON
  go_upto_region 3 with(first | (refine wpList_load_row rfl 26 _ rfl w.heap.size rfl 26 C (0,0) _ H0.out.1 Tryz.underlying26 rfl HI.out ?_) | (go_at_call 10;refine(HON.out _).mono ?_;rintro e w2 ⟨rfl,hb⟩;have H1:=Lib.hid ((hb.block _ (Array.getElem?_eq_some_iff.1 H0.out.1).1).trans H0.out.1);have H2:=Lib.hid (And.intro ((hb.block _ (Array.getElem?_eq_some_iff.1 H0.out.2.1).1).trans H0.out.2.1) (H0.out.2.2.trans (hb.mono H0.out.2.2.size)));clear hb))
  have c8:=(cell_of_row w2 _ 8 _ _ _ H1.out).trans HX.out;clear HX HON H0;cases n with
  | true =>
   have HB:=Lib.hid (show byB x y true=fun _=>0 by unfold byB;rw[hon];rfl);have HE:=Lib.hid (show byE x y true=80 by unfold byE;rw[hon];rfl);clear hon
   go_wp2_with (refine wpList_store_row rfl 31 _ _ rfl (w.heap.size+1) (r64 fun _=>0) rfl (by rw[EJ];rfl) 31 _ H2.out.1 (by rw[BF];exact Ji) (by rw[BF]) (MP _) ?_)
   refine bodyPost_ret (Gg rfl _ _ (w.heap.size+1) _ _ rfl rfl (setRow_heap _ _ _ _ _ _ H2.out.1)) rfl ⟨by rw[HB.out,HE.out];rfl,XB H2.out.2 τ _⟩
  | false =>
   have HB:=Lib.hid (show byB x y false=e64 x y by unfold byB;rw[hon];rfl);have HE:=Lib.hid (show byE x y false=0 by unfold byE;rw[hon];rfl);clear hon
   go_upto_region 5 with(fail)
   have H:=Lib.hid (show PtAt w2 w.heap.size x y false from by unfold PtAt;rw[HC.out];exact H1.out);obtain⟨B,hB⟩:∃ B,w.heap.size=B:=⟨_,rfl⟩
   rw[hB]at H |-
   clear H1 c8;refine Ct [.val 14 (.pointer (some ⟨B,0,none⟩)),.val 15 (.agg (pw x)),.val 16 (.agg (Bw (bt x) 32)),.val 17 (.pointer (some ⟨B,4,none⟩)),.val 18 (.agg (pw y)),.val 19 (.agg (Bw (bt y) 32)),.blk 4 61,.blk 5 61,.laid 4 61,.laid 5 61] [4,5] (fun p=>if p=4 then Bw (bt x) 32 else Bw (bt y) 32) (fun i=>i) ω ω (by exact⟨trivial,trivial,trivial,trivial,trivial,trivial,(by simp[Sp.ok]),(by simp[Sp.ok]),(by simp[Sp.ok]),(by simp[Sp.ok]),trivial⟩) (by intro p hp q hq hne D e;simp only[List.mem_cons,List.not_mem_nil,or_false]at hp;rcases hp with rfl | rfl <;> (first | (simp[undef]at e;done) | skip)) ?_ ?_
   ·refine⟨?_,?_,?_,?_,?_,?_,?_,?_,?_,?_,trivial⟩
    ·intro ac wx hC hsz hK
     have h0:ac.tmps.getD 1 undef=.pointer (some ⟨B,0,none⟩):=hK.1 1 ω;refine Be (Instr.fieldAt 26 (ac.tmps.getD 1 undef) 0) (.pointer (some ⟨B,0,none⟩)) rfl ω ω ?_ hC ω (by rw[hsz];exact of_decide_eq_true ω) rfl;rw[h0];exact by kernel_rfl
    ·intro ac wx hC hsz hK
     have h0:ac.tmps.getD 14 undef=.pointer (some ⟨B,0,none⟩):=hK.2 ⟨0,.data⟩ υ rfl _ rfl;exact Ak 24 (.tmp 14) (.pointer (some ⟨B,0,none⟩)) (.agg (pw x)) rfl rfl ω h0 (A4g (H.out.below hC.1)) hC ω (by rw[hsz];exact of_decide_eq_true ω) rfl
    ·intro ac wx hC hsz hK
     have h0:ac.tmps.getD 15 undef=.agg (pw x):=hK.2 ⟨1,.data⟩ υ rfl _ rfl;refine Bb 34 #[ac.tmps.getD 15 undef] (.agg (Bw (bt x) 32)) rfl ω ω ?_ hC ω (by rw[hsz];exact of_decide_eq_true ω) rfl;rw[h0];exact Ko x wx
    ·intro ac wx hC hsz hK
     have h0:ac.tmps.getD 1 undef=.pointer (some ⟨B,0,none⟩):=hK.1 1 ω;refine Be (Instr.fieldAt 26 (ac.tmps.getD 1 undef) 1) (.pointer (some ⟨B,4,none⟩)) rfl ω ω ?_ hC ω (by rw[hsz];exact of_decide_eq_true ω) rfl;rw[h0];exact by kernel_rfl
    ·intro ac wx hC hsz hK
     have h0:ac.tmps.getD 17 undef=.pointer (some ⟨B,4,none⟩):=hK.2 ⟨3,.data⟩ υ rfl _ rfl;exact Ak 24 (.tmp 17) (.pointer (some ⟨B,4,none⟩)) (.agg (pw y)) rfl rfl ω h0 (A4h (H.out.below hC.1)) hC ω (by rw[hsz];exact of_decide_eq_true ω) rfl
    ·intro ac wx hC hsz hK
     have h0:ac.tmps.getD 18 undef=.agg (pw y):=hK.2 ⟨4,.data⟩ υ rfl _ rfl;refine Bb 34 #[ac.tmps.getD 18 undef] (.agg (Bw (bt y) 32)) rfl ω ω ?_ hC ω (by rw[hsz];exact of_decide_eq_true ω) rfl;rw[h0];exact Ko y wx
    ·intro ac wx hC hsz hK
     exact Cx 61 (#[.int .u8 0,.int .u8 0,.int .u8 0,.int .u8 0,.int .u8 0,.int .u8 0,.int .u8 0,.int .u8 0,.int .u8 0,.int .u8 0,.int .u8 0,.int .u8 0,.int .u8 0,.int .u8 0,.int .u8 0,.int .u8 0,.int .u8 0,.int .u8 0,.int .u8 0,.int .u8 0,.int .u8 0,.int .u8 0,.int .u8 0,.int .u8 0,.int .u8 0,.int .u8 0,.int .u8 0,.int .u8 0,.int .u8 0,.int .u8 0,.int .u8 0,.int .u8 0]) rfl ω ω hC ((BC _ _).symm) (by rw[hsz];exact of_decide_eq_true ω) rfl
    ·intro ac wx hC hsz hK
     exact Cx 61 (#[.int .u8 0,.int .u8 0,.int .u8 0,.int .u8 0,.int .u8 0,.int .u8 0,.int .u8 0,.int .u8 0,.int .u8 0,.int .u8 0,.int .u8 0,.int .u8 0,.int .u8 0,.int .u8 0,.int .u8 0,.int .u8 0,.int .u8 0,.int .u8 0,.int .u8 0,.int .u8 0,.int .u8 0,.int .u8 0,.int .u8 0,.int .u8 0,.int .u8 0,.int .u8 0,.int .u8 0,.int .u8 0,.int .u8 0,.int .u8 0,.int .u8 0,.int .u8 0]) rfl ω ω hC ((BC _ _).symm) (by rw[hsz];exact of_decide_eq_true ω) rfl
    ·intro ac wx hC hsz hK
     have h0:ac.tmps.getD 16 undef=.agg (Bw (bt x) 32):=hK.2 ⟨2,.data⟩ υ rfl _ rfl;exact Br (p:=4) 61 (.tmp 4) (.tmp 16) _ rfl rfl ω rfl h0 υ (hK.2 ⟨6,.data⟩ υ rfl _ rfl) (fun D cs h3 h4=>A3Q h3 (h4.trans (BC _ _))) hC rfl
    ·intro ac wx hC hsz hK
     have h0:ac.tmps.getD 19 undef=.agg (Bw (bt y) 32):=hK.2 ⟨5,.data⟩ υ rfl _ rfl;exact Br (p:=5) 61 (.tmp 5) (.tmp 19) _ rfl rfl ω rfl h0 υ (hK.2 ⟨7,.data⟩ υ rfl _ rfl) (fun D cs h3 h4=>A3Q h3 (h4.trans (BC _ _))) hC rfl
   intro FV wx hb hAN hK;obtain⟨D1,r4,g4,k4⟩:=hK 8 _ rfl;obtain⟨D2,r5,g5,k5⟩:=hK 9 _ rfl;have H3:=Lib.hid (show(wx.heap[D1]?=some (.cells (Bw (bt x) 32) 61 (0,0))/\wx.heap[D2]?=some (.cells (Bw (bt y) 32) 61 (0,0)))/\wx.heap[B+1]?=some (.cells (r64 fun _=>0) 31 (0,0))/\Below w.heap.size w wx from⟨⟨k4,k5⟩,by rw[<- hB];exact(hb.block _ (Array.getElem?_eq_some_iff.1 H2.out.1).1).trans H2.out.1,H2.out.2.trans (hb.mono H2.out.2.size)⟩);clear hb hK hAN g4 g5 k4 k5;generalize hAct:Aj _ _ _=A1 at *;have r1:A1.tmps.getD 1 undef=.pointer (some ⟨B,0,none⟩):=by subst hAct;kernel_rfl
   have r2:A1.tmps.getD 2 undef=.pointer (some ⟨B+1,0,none⟩):=by subst hAct;kernel_rfl
   have hsz:A1.tmps.size=27:=by rw[<- hAct,Az];rfl
   have hdf:A1.defers=[]:=by subst hAct;kernel_rfl
   have r4:A1.tmps.getD 4 undef=.pointer (some ⟨D1,0,none⟩):=r4;have r5:A1.tmps.getD 5 undef=.pointer (some ⟨D2,0,none⟩):=r5;clear hAct;obtain⟨u0,t0⟩:∃ u,A1.tmps.getD 0 undef=u:=⟨_,rfl⟩
   obtain⟨u3,t3⟩:∃ u,A1.tmps.getD 3 undef=u:=⟨_,rfl⟩
   obtain⟨u6,t6⟩:∃ u,A1.tmps.getD 6 undef=u:=⟨_,rfl⟩
   obtain⟨u7,t7⟩:∃ u,A1.tmps.getD 7 undef=u:=⟨_,rfl⟩
   obtain⟨u8,t8⟩:∃ u,A1.tmps.getD 8 undef=u:=⟨_,rfl⟩
   obtain⟨u9,t9⟩:∃ u,A1.tmps.getD 9 undef=u:=⟨_,rfl⟩
   obtain⟨u10,t10⟩:∃ u,A1.tmps.getD 10 undef=u:=⟨_,rfl⟩
   obtain⟨u11,t11⟩:∃ u,A1.tmps.getD 11 undef=u:=⟨_,rfl⟩
   obtain⟨u12,t12⟩:∃ u,A1.tmps.getD 12 undef=u:=⟨_,rfl⟩
   obtain⟨u13,t13⟩:∃ u,A1.tmps.getD 13 undef=u:=⟨_,rfl⟩
   obtain⟨u14,t14⟩:∃ u,A1.tmps.getD 14 undef=u:=⟨_,rfl⟩
   obtain⟨u15,t15⟩:∃ u,A1.tmps.getD 15 undef=u:=⟨_,rfl⟩
   obtain⟨u16,t16⟩:∃ u,A1.tmps.getD 16 undef=u:=⟨_,rfl⟩
   obtain⟨u17,t17⟩:∃ u,A1.tmps.getD 17 undef=u:=⟨_,rfl⟩
   obtain⟨u18,t18⟩:∃ u,A1.tmps.getD 18 undef=u:=⟨_,rfl⟩
   obtain⟨u19,t19⟩:∃ u,A1.tmps.getD 19 undef=u:=⟨_,rfl⟩
   obtain⟨u20,t20⟩:∃ u,A1.tmps.getD 20 undef=u:=⟨_,rfl⟩
   obtain⟨u21,t21⟩:∃ u,A1.tmps.getD 21 undef=u:=⟨_,rfl⟩
   obtain⟨u22,t22⟩:∃ u,A1.tmps.getD 22 undef=u:=⟨_,rfl⟩
   obtain⟨u23,t23⟩:∃ u,A1.tmps.getD 23 undef=u:=⟨_,rfl⟩
   obtain⟨u24,t24⟩:∃ u,A1.tmps.getD 24 undef=u:=⟨_,rfl⟩
   obtain⟨u25,t25⟩:∃ u,A1.tmps.getD 25 undef=u:=⟨_,rfl⟩
   obtain⟨u26,t26⟩:∃ u,A1.tmps.getD 26 undef=u:=⟨_,rfl⟩
   obtain⟨tm,df⟩:=A1;simp only at *;have hLt:=N9 tm;rw[hsz]at hLt;simp only[List.range,List.range.loop,List.map]at hLt;rw[t0,r1,r2,t3,r4,r5,t6,t7,t8,t9,t10,t11,t12,t13,t14,t15,t16,t17,t18,t19,t20,t21,t22,t23,t24,t25,t26]at hLt;subst hLt hdf;clear t0 r1 r2 t3 r4 r5 t6 t7 t8 t9 t10 t11 t12 t13 t14 t15 t16 t17 t18 t19 t20 t21 t22 t23 t24 t25 t26 hsz;have hB2:B+1<wx.heap.size:=(Array.getElem?_eq_some_iff.1 H3.out.2.1).1
   go_upto_region 7 with(fail)
   rw[<- EJ];obtain⟨w4,hw4⟩:∃ w4,wx.alloc (.cells (r64 fun _=>0) 31)=w4:=⟨_,rfl⟩
   obtain⟨G,hG⟩:∃ G,wx.heap.size=G:=⟨_,rfl⟩
   have H4:=Lib.hid (show w4.heap[G]?=some (.cells (r64 fun _=>0) 31 (0,0))/\w4.heap[D1]?=some (.cells (Bw (bt x) 32) 61 (0,0))/\w4.heap[D2]?=some (.cells (Bw (bt y) 32) 61 (0,0))/\w4.heap[B+1]?=some (.cells (r64 fun _=>0) 31 (0,0))/\Below w.heap.size w w4/\D1<G/\D2<G/\B+1<G from by
    have hbl:Below wx.heap.size wx w4:=by rw[<- hw4];exact(Below.refl _ _).alloc (Nat.le_refl _) _
    have l1:=(Array.getElem?_eq_some_iff.1 H3.out.1.1).1;have l2:=(Array.getElem?_eq_some_iff.1 H3.out.1.2).1;exact⟨by rw[<- hw4,<- hG];exact heap_alloc_new _ _,(hbl.block _ l1).trans H3.out.1.1,(hbl.block _ l2).trans H3.out.1.2,(hbl.block _ hB2).trans H3.out.2.1,H3.out.2.2.trans (hbl.mono H3.out.2.2.size),τ,τ,τ⟩)
   rw[hw4,hG];clear hw4 H3 H2 hB2;have c1:=fun(wz:World) (hz:wz.heap[G]?=some (.cells (r64 fun _=>0) 31 (0,0))) (h1:wz.heap[D1]?=some (.cells (Bw (bt x) 32) 61 (0,0)))=>XA (h:=fun j=>if j<32 then bt x j else 0) (o:=0) τ hz h1 (fun j hj=>by by_cases h:j<32 <;> simp[h]) 64 32;have c2:=fun(wz:World) (hz:wz.heap[G]?=some (.cells (r64 fun j=>if j<32 then bt x j else 0) 31 (0,0))) (h1:wz.heap[D2]?=some (.cells (Bw (bt y) 32) 61 (0,0)))=>XA (h:=e64 x y) (o:=32) τ hz h1 (fun j hj=>by
    unfold e64;by_cases h:j<32
    ·rw[if_pos h,if_neg τ,if_pos h]
    ·rw[if_neg h,if_pos τ]) 32 32
   have HC1:=Lib.hid c1;have HC2:=Lib.hid c2;clear c1 c2;refine Aa 2 (fun w'=>∃ n,w'=w4.drewN n) ω ω ⟨1,rfl⟩ ?_;simp only[List.take_succ_cons,List.take_zero,List.drop_succ_cons,List.drop_zero]
   repeat (quiet_step (fail))
   refine wpQuiet_nil ?_;rintro _ ⟨nq,rfl⟩
   go_wp2_with (refine wpList_copy_run _ rfl _ _ 40 40 rfl _ _ rfl rfl _ _ (HC1.out _ H4.out.1 H4.out.2.1) ?_)
   obtain⟨w5,hw5⟩:∃ w5,(w4.drewN nq).setRow G (r64 fun j=>if j<32 then bt x j else 0)=w5:=⟨_,rfl⟩
   have H5:=Lib.hid (show w5.heap[G]?=some (.cells (r64 fun j=>if j<32 then bt x j else 0) 31 (0,0))/\w5.heap[D2]?=some (.cells (Bw (bt y) 32) 61 (0,0))/\w5.heap[B+1]?=some (.cells (r64 fun _=>0) 31 (0,0))/\Below w.heap.size w w5 from by
    obtain⟨h1,h2,h3,h4,h5,h6,h7,h8⟩:=H4.out;rw[<- hw5];exact⟨setRow_heap _ _ _ _ _ _ h1,(setRow_other _ _ _ _ τ).trans h3,(setRow_other _ _ _ _ τ).trans h4,below_setRow (below_drewN h5) τ _⟩)
   have HG:=Lib.hid H4.out.2.2.2.2.2.2.2;rw[hw5];clear hw5 H4;refine Aa 2 (fun w'=>∃ n,w'=w5.drewN n) ω ω ⟨1,rfl⟩ ?_;simp only[List.take_succ_cons,List.take_zero,List.drop_succ_cons,List.drop_zero]
   repeat (quiet_step (fail))
   refine wpQuiet_nil ?_;rintro _ ⟨nr,rfl⟩;have h64:(Tryz.prog.info? 31).map (·.size)=some (r64 (e64 x y)).size:=by rw[BF];exact Ji
   have HI6:=Lib.hid h64;clear h64;have H6:=Lib.hid (show((w5.drewN nr).setRow G (r64 (e64 x y))).heap[G]?=some (.cells (r64 (e64 x y)) 31 (0,0))/\((w5.drewN nr).setRow G (r64 (e64 x y))).heap[B+1]?=some (.cells (r64 fun _=>0) 31 (0,0))/\Below w.heap.size w ((w5.drewN nr).setRow G (r64 (e64 x y))) from by
    obtain⟨h1,h3,h4,h5⟩:=H5.out;have hg:=HG.out;exact⟨setRow_heap _ _ _ _ _ _ h1,(setRow_other _ _ _ _ τ).trans h4,below_setRow (below_drewN h5) τ _⟩)
   go_wp2_with (first | (refine wpList_copy_run _ rfl _ _ 40 40 rfl _ _ rfl rfl _ _ (HC2.out _ H5.out.1 H5.out.2.1) ?_) | (refine wpList_load_row rfl 31 _ rfl G rfl 31 _ (0,0) _ H6.out.1 Tryz.underlying31 rfl HI6.out ?_) | (refine wpList_store_row rfl 31 _ _ rfl (B+1) (r64 (e64 x y)) rfl rfl 31 _ H6.out.2.1 HI6.out (by rw[BF,BF]) (MP _) ?_))
   refine bodyPost_ret (Gg rfl _ _ (B+1) _ _ rfl rfl (setRow_heap _ _ _ _ _ _ H6.out.2.1)) rfl ⟨by rw[HB.out,HE.out];rfl,XB H6.out.2.2 τ _⟩
open Go.RowKit
def Dn(f:Nat->Nat):Nat->Nat
 | 0=>0
 | n+1=>Dn f n*256+f n
theorem RF{f:Nat->Nat}:∀ n,(∀ j,j<n->f j<256)->Dn f n<256^n
 | 0,_=>by simp[Dn]
 | n+1,h=>by
  have h1:=RF n (fun j hj=>h j τ);have h2:=h n τ;rw[Dn,Nat.pow_succ];omega
-- WHAT add COMES TO.
theorem A0n(x y:Nat)(w:World) :
  Calls Tryz.prog 36 #[.agg (pw x),.agg (pw y)] w fun e w'=>e=.returned (wv (x+y))/\Below w.heap.size w w':=by
 have E:wv (x%115792089237316195423570985008687907853269984665640564039457584007913129639936+y%115792089237316195423570985008687907853269984665640564039457584007913129639936)=wv (x+y):=BN τ;rw[<- E];clear E;go_enter Tryz.func36,Tryz.ntmps36
 go_wp2_with fail
 refine FP (CB w x y) (fun i v wx=>match i with | 0=>v=wv x | 1=>DgS (w.heap.size+1+1) 16 (x%115792089237316195423570985008687907853269984665640564039457584007913129639936) v wx | 2=>v=wv y | 3=>DgS (w.heap.size+1+1) 16 (y%115792089237316195423570985008687907853269984665640564039457584007913129639936) v wx | 4=>DgS (w.heap.size+1+1) 17 (x%115792089237316195423570985008687907853269984665640564039457584007913129639936+y%115792089237316195423570985008687907853269984665640564039457584007913129639936) v wx | 5=>v=wv (x%115792089237316195423570985008687907853269984665640564039457584007913129639936+y%115792089237316195423570985008687907853269984665640564039457584007913129639936) | 6=>wx.heap[(w.heap.size+1+1)]?=some (.cells (pw (x%115792089237316195423570985008687907853269984665640564039457584007913129639936+y%115792089237316195423570985008687907853269984665640564039457584007913129639936)) 24 (0,0)) | _=>True) (Rs (w.heap.size+1+1) (x%115792089237316195423570985008687907853269984665640564039457584007913129639936+y%115792089237316195423570985008687907853269984665640564039457584007913129639936)) ω ω ?_ ?_ ?_ ?_
 ·exact⟨by go_grown,(Cs _ _ _ _).1,(Cs _ _ _ _).2.1,_,rfl,(Cs _ _ _ _).2.2⟩
 ·intro i v wa wb hR h
  match i,h with
  | 0,h=>exact h
  | 1,h=>exact DgS.keep hR.1 h
  | 2,h=>exact h
  | 3,h=>exact DgS.keep hR.1 h
  | 4,h=>exact DgS.keep hR.1 h
  | 5,h=>exact h
  | 6,h=>exact hR.2 h
  | _+7,_=>trivial
 ·refine⟨fun a wx hC hK=>?_,fun a wx hC hK=>?_,fun a wx hC hK=>?_,fun a wx hC hK=>?_,fun a wx hC hK=>?_,fun a wx hC hK=>?_,fun a wx hC hK=>?_,trivial⟩
  ·exact Fg 24 (.tmp 2) (.pointer (some ⟨w.heap.size,0,none⟩)) (wv x) rfl ω (fun h=>by cases h) (hK.1 2 ω) (Bq hC.2.1) hC rfl (Rs.refl _ _ _)
  ·have h0:a.tmps.getD 5 undef=wv x:=hK.2 ⟨0,.data⟩ υ rfl _ rfl
   refine CY 61 #[a.tmps.getD 5 undef] ω ⟨_,rfl⟩ ω ?_;rw[h0];refine(Dt x wx).mono fun e w' h=>?_;obtain⟨v,he,hb,hv⟩:=Fj hC.lt h;exact⟨v,he,hC.below hb,hv,Rs.of hC.lt hb⟩
  ·exact Fg 24 (.tmp 3) (.pointer (some ⟨w.heap.size+1,0,none⟩)) (wv y) rfl ω (fun h=>by cases h) (hK.1 3 ω) (Bq hC.2.2.1) hC rfl (Rs.refl _ _ _)
  ·have h0:a.tmps.getD 7 undef=wv y:=hK.2 ⟨2,.data⟩ υ rfl _ rfl
   refine CY 61 #[a.tmps.getD 7 undef] ω ⟨_,rfl⟩ ω ?_;rw[h0];refine(Dt y wx).mono fun e w' h=>?_;obtain⟨v,he,hb,hv⟩:=Fj hC.lt h;exact⟨v,he,hC.below hb,hv,Rs.of hC.lt hb⟩
  ·obtain⟨b1,c1,d1,e1,-,hD1,hl1,hv1⟩:DgS (w.heap.size+1+1) 16 (x%115792089237316195423570985008687907853269984665640564039457584007913129639936) (a.tmps.getD 6 undef) wx:=hK.2 ⟨1,.data⟩ υ rfl _ rfl
   obtain⟨b2,c2,d2,e2,-,hD2,hl2,hv2⟩:DgS (w.heap.size+1+1) 16 (y%115792089237316195423570985008687907853269984665640564039457584007913129639936) (a.tmps.getD 8 undef) wx:=hK.2 ⟨3,.data⟩ υ rfl _ rfl;refine CY 60 #[a.tmps.getD 6 undef,a.tmps.getD 8 undef] ω ⟨_,rfl⟩ ω ?_;rw[e1,e2];refine(XX b1 c1 b2 c2 16 16 d1 d2 (by decide) (by decide) hl1 hl2 wx hD1 hD2).mono fun e w' h=>?_;rw[hv1,hv2]at h;obtain⟨v,he,hb,hv⟩:=Fj hC.lt h;exact⟨v,he,hC.below hb,hv,Rs.of hC.lt hb⟩
  ·obtain⟨b1,c1,d1,e1,-,hD1,hl1,hv1⟩:DgS (w.heap.size+1+1) 17 (x%115792089237316195423570985008687907853269984665640564039457584007913129639936+y%115792089237316195423570985008687907853269984665640564039457584007913129639936) (a.tmps.getD 9 undef) wx:=hK.2 ⟨4,.data⟩ υ rfl _ rfl
   refine CY 59 #[a.tmps.getD 9 undef] ω ⟨_,rfl⟩ ω ?_;rw[e1];refine(Gu b1 c1 17 d1 (by decide) hl1 wx hD1).mono fun e w' h=>?_;rw[hv1]at h;exact⟨_,h.1,hC.below h.2,rfl,Rs.of hC.lt h.2⟩
  ·have h0:a.tmps.getD 10 undef=wv (x%115792089237316195423570985008687907853269984665640564039457584007913129639936+y%115792089237316195423570985008687907853269984665640564039457584007913129639936):=hK.2 ⟨5,.data⟩ υ rfl _ rfl
   obtain⟨-,-,-,cs,hcs,hrow⟩:=id hC;exact Jk ω (run_store 24 (.tmp 4) (.tmp 10) _ _ rfl (hK.1 4 ω) h0 (Ed hcs hrow)) (hC.row _ rfl) (setRow_heap _ _ _ _ _ _ hrow) (Rs.row hrow)
 ·intro f wx hC hf
  have h6:wx.heap[(w.heap.size+1+1)]?=some (.cells (pw (x%115792089237316195423570985008687907853269984665640564039457584007913129639936+y%115792089237316195423570985008687907853269984665640564039457584007913129639936)) 24 (0,0)):=hf 6 _ rfl;generalize hA:Aj _ _ _=A;have h4:A.tmps.getD 4 undef=Value.pointer (some ⟨(w.heap.size+1+1),0,none⟩):=by subst hA;kernel_rfl
  have hd:A.defers=[]:=by subst hA;kernel_rfl
  clear hA hf;go_wp2
  (try simp only[Exit.inBlock,Exit.then])
  exact bodyPost_ret (v:=.agg (pw (x%115792089237316195423570985008687907853269984665640564039457584007913129639936+y%115792089237316195423570985008687907853269984665640564039457584007913129639936))) (results_cell_row (p:=4) rfl _ _ (w.heap.size+1+1) 24 _ (0,0) _ h4 h6 Tryz.underlying24 rfl Aq) hd ⟨rfl,hC.1⟩
-- WHAT mul COMES TO.
theorem A0o(x y:Nat)(w:World) :
  Calls Tryz.prog 37 #[.agg (pw x),.agg (pw y)] w fun e w'=>e=.returned (wv (x*y))/\Below w.heap.size w w':=by
 have E:wv (x%115792089237316195423570985008687907853269984665640564039457584007913129639936*(y%115792089237316195423570985008687907853269984665640564039457584007913129639936))=wv (x*y):=BN (by rw[<- Nat.mul_mod]);rw[<- E];clear E;go_enter Tryz.func37,Tryz.ntmps37
 go_wp2_with fail
 refine FP (CB w x y) (fun i v wx=>match i with | 0=>v=wv x | 1=>DgS (w.heap.size+1+1) 16 (x%115792089237316195423570985008687907853269984665640564039457584007913129639936) v wx | 2=>v=wv y | 3=>DgS (w.heap.size+1+1) 16 (y%115792089237316195423570985008687907853269984665640564039457584007913129639936) v wx | 4=>DgS (w.heap.size+1+1) 32 (x%115792089237316195423570985008687907853269984665640564039457584007913129639936*(y%115792089237316195423570985008687907853269984665640564039457584007913129639936)) v wx | 5=>v=wv (x%115792089237316195423570985008687907853269984665640564039457584007913129639936*(y%115792089237316195423570985008687907853269984665640564039457584007913129639936)) | 6=>wx.heap[(w.heap.size+1+1)]?=some (.cells (pw (x%115792089237316195423570985008687907853269984665640564039457584007913129639936*(y%115792089237316195423570985008687907853269984665640564039457584007913129639936))) 24 (0,0)) | _=>True) (Rs (w.heap.size+1+1) (x%115792089237316195423570985008687907853269984665640564039457584007913129639936*(y%115792089237316195423570985008687907853269984665640564039457584007913129639936))) ω ω ?_ ?_ ?_ ?_
 ·exact⟨by go_grown,(Cs _ _ _ _).1,(Cs _ _ _ _).2.1,_,rfl,(Cs _ _ _ _).2.2⟩
 ·intro i v wa wb hR h
  match i,h with
  | 0,h=>exact h
  | 1,h=>exact DgS.keep hR.1 h
  | 2,h=>exact h
  | 3,h=>exact DgS.keep hR.1 h
  | 4,h=>exact DgS.keep hR.1 h
  | 5,h=>exact h
  | 6,h=>exact hR.2 h
  | _+7,_=>trivial
 ·refine⟨fun a wx hC hK=>?_,fun a wx hC hK=>?_,fun a wx hC hK=>?_,fun a wx hC hK=>?_,fun a wx hC hK=>?_,fun a wx hC hK=>?_,fun a wx hC hK=>?_,trivial⟩
  ·exact Fg 24 (.tmp 2) (.pointer (some ⟨w.heap.size,0,none⟩)) (wv x) rfl ω (fun h=>by cases h) (hK.1 2 ω) (Bq hC.2.1) hC rfl (Rs.refl _ _ _)
  ·have h0:a.tmps.getD 5 undef=wv x:=hK.2 ⟨0,.data⟩ υ rfl _ rfl
   refine CY 61 #[a.tmps.getD 5 undef] ω ⟨_,rfl⟩ ω ?_;rw[h0];refine(Dt x wx).mono fun e w' h=>?_;obtain⟨v,he,hb,hv⟩:=Fj hC.lt h;exact⟨v,he,hC.below hb,hv,Rs.of hC.lt hb⟩
  ·exact Fg 24 (.tmp 3) (.pointer (some ⟨w.heap.size+1,0,none⟩)) (wv y) rfl ω (fun h=>by cases h) (hK.1 3 ω) (Bq hC.2.2.1) hC rfl (Rs.refl _ _ _)
  ·have h0:a.tmps.getD 7 undef=wv y:=hK.2 ⟨2,.data⟩ υ rfl _ rfl
   refine CY 61 #[a.tmps.getD 7 undef] ω ⟨_,rfl⟩ ω ?_;rw[h0];refine(Dt y wx).mono fun e w' h=>?_;obtain⟨v,he,hb,hv⟩:=Fj hC.lt h;exact⟨v,he,hC.below hb,hv,Rs.of hC.lt hb⟩
  ·obtain⟨b1,c1,d1,e1,-,hD1,hl1,hv1⟩:DgS (w.heap.size+1+1) 16 (x%115792089237316195423570985008687907853269984665640564039457584007913129639936) (a.tmps.getD 6 undef) wx:=hK.2 ⟨1,.data⟩ υ rfl _ rfl
   obtain⟨b2,c2,d2,e2,-,hD2,hl2,hv2⟩:DgS (w.heap.size+1+1) 16 (y%115792089237316195423570985008687907853269984665640564039457584007913129639936) (a.tmps.getD 8 undef) wx:=hK.2 ⟨3,.data⟩ υ rfl _ rfl;refine CY 62 #[a.tmps.getD 6 undef,a.tmps.getD 8 undef] ω ⟨_,rfl⟩ ω ?_;rw[e1,e2];refine(Dv b1 c1 b2 c2 16 16 d1 d2 (by decide) (by decide) hl1 hl2 wx hD1 hD2).mono fun e w' h=>?_;rw[hv1,hv2]at h;obtain⟨v,he,hb,hv⟩:=Fj hC.lt h;exact⟨v,he,hC.below hb,hv,Rs.of hC.lt hb⟩
  ·obtain⟨b1,c1,d1,e1,-,hD1,hl1,hv1⟩:DgS (w.heap.size+1+1) 32 (x%115792089237316195423570985008687907853269984665640564039457584007913129639936*(y%115792089237316195423570985008687907853269984665640564039457584007913129639936)) (a.tmps.getD 9 undef) wx:=hK.2 ⟨4,.data⟩ υ rfl _ rfl
   refine CY 59 #[a.tmps.getD 9 undef] ω ⟨_,rfl⟩ ω ?_;rw[e1];refine(Gu b1 c1 32 d1 (by decide) hl1 wx hD1).mono fun e w' h=>?_;rw[hv1]at h;exact⟨_,h.1,hC.below h.2,rfl,Rs.of hC.lt h.2⟩
  ·have h0:a.tmps.getD 10 undef=wv (x%115792089237316195423570985008687907853269984665640564039457584007913129639936*(y%115792089237316195423570985008687907853269984665640564039457584007913129639936)):=hK.2 ⟨5,.data⟩ υ rfl _ rfl
   obtain⟨-,-,-,cs,hcs,hrow⟩:=id hC;exact Jk ω (run_store 24 (.tmp 4) (.tmp 10) _ _ rfl (hK.1 4 ω) h0 (Ed hcs hrow)) (hC.row _ rfl) (setRow_heap _ _ _ _ _ _ hrow) (Rs.row hrow)
 ·intro f wx hC hf
  have h6:wx.heap[(w.heap.size+1+1)]?=some (.cells (pw (x%115792089237316195423570985008687907853269984665640564039457584007913129639936*(y%115792089237316195423570985008687907853269984665640564039457584007913129639936))) 24 (0,0)):=hf 6 _ rfl;generalize hA:Aj _ _ _=A;have h4:A.tmps.getD 4 undef=Value.pointer (some ⟨(w.heap.size+1+1),0,none⟩):=by subst hA;kernel_rfl
  have hd:A.defers=[]:=by subst hA;kernel_rfl
  clear hA hf;go_wp2
  (try simp only[Exit.inBlock,Exit.then])
  exact bodyPost_ret (v:=.agg (pw (x%115792089237316195423570985008687907853269984665640564039457584007913129639936*(y%115792089237316195423570985008687907853269984665640564039457584007913129639936)))) (results_cell_row (p:=4) rfl _ _ (w.heap.size+1+1) 24 _ (0,0) _ h4 h6 Tryz.underlying24 rfl Aq) hd ⟨rfl,hC.1⟩
def CF(w:World)(Y:Nat)(wx:World):Prop:=wx.heap[w.heap.size]?=some (.cells #[.int .u64 0,.int .u64 0,.int .u64 0,.int .u64 0] 24 (0,0))/\wx.heap[w.heap.size+1]?=some (.cells (pw Y) 24 (0,0))/\Below w.heap.size w wx
theorem CF.drew{w wx:World}{Y:Nat}(h:CF w Y wx):CF w Y wx.drew:=⟨h.1,h.2.1,h.2.2.drew⟩
theorem CF.below{w wx w':World}{Y:Nat}(h:CF w Y wx)(hb:Below wx.heap.size wx w'):CF w Y w' :=
 ⟨(hb.block _ (Array.getElem?_eq_some_iff.1 h.1).1).trans h.1,(hb.block _ (Array.getElem?_eq_some_iff.1 h.2.1).1).trans h.2.1,h.2.2.trans (hb.mono h.2.2.size)⟩
theorem CF.at1{w wx:World}{Y:Nat}(h:CF w Y wx):wx.heap[w.heap.size+1]?=some (.cells (pw Y) 24 (0,0)):=h.2.1
theorem CF.row{w wx:World}{Y Z:Nat}(h:CF w Y wx):CF w Z (wx.setRow (w.heap.size+1) (pw Z)) :=
 ⟨(setRow_other _ _ _ _ τ).trans h.1,setRow_heap _ _ _ _ _ _ h.2.1,below_setRow h.2.2 τ _⟩
theorem Qg(g o n cap:Nat)(f:Nat->Nat)(hf:∀ j,j<n->f j<256)(hn:(n:Int)<=140737488355328)(w:World)(hg:g<w.heap.size)(hc:∀ j,j<n->w.cell? ⟨g,o+j,none⟩=some (.int .u8 (f j:Nat))) :
  Calls Tryz.prog 17 #[.slice (some ⟨g,o,none⟩) n cap] w fun e w'=>e=.returned (.agg (pw (Dn f n)))/\Below w.heap.size w w':=by
 have hn0:(0:Int)<=n:=by omega
 have HF:=Lib.hid hf;clear hf;have HC:=Lib.hid hc;clear hc;go_enter Tryz.func17,Tryz.ntmps17
 go_wp2_with fail
 go_loopw [4] (fun iv wr=>∃ i:Nat,i<=n/\iv=.int .i64 i/\Hid (CF w (Dn f i) wr)) (fun iv _=>n - (intOf iv).toNat)
 case atStart=>exact⟨0,τ,rfl,Lib.hid ⟨(KA _ _ _).1,by rw[show Dn f 0=0 from rfl];exact(KA _ _ _).2,by go_grown⟩⟩
 case round =>
  obtain⟨i,hi,rfl,H⟩:=hrel;have hi0:(0:Int)<=i:=by omega
  have hi1:(i:Int)<=140737488355328:=by omega
  by_cases hlt:i<n
  ·have hlt':(i:Int)<n:=by omega
   have hx:=HF.out i hlt;obtain⟨x,hxe⟩:∃ x,f i=x:=⟨_,rfl⟩
   rw[hxe]at hx;have hx0:(0:Int)<=(x:Nat):=by omega
   have hx1:((x:Nat):Int)<=255:=by omega
   have hxw:IntKind.u64.wrap ((x:Nat):Int)=((x:Nat):Int):=by rw[IntKind.wrap_u64];omega
   have HX:=Lib.hid (HC.out i hlt);rw[hxe]at HX;obtain⟨Y,hY⟩:∃ Y,Dn f i=Y:=⟨_,rfl⟩
   have hnext:Dn f (i+1)=Y*256+x:=by rw[Dn,hY,hxe]
   rw[hY]at H;have HNEXT:=Lib.hid hnext;clear hnext hY hxe;have k1:∀ wx,CF w Y wx->Calls Tryz.prog 37 #[wv Y,.agg #[.int .u64 256,.int .u64 0,.int .u64 0,.int .u64 0]] wx fun e w'=>e=.returned (wv (Y*256))/\CF w Y w':=fun wx hC=>by
    have h:Calls Tryz.prog 37 #[wv Y,wv 256] wx _:=A0o Y 256 wx;rw[Jw (x:=256) τ]at h;exact h.mono fun _ _ h=>⟨h.1,hC.below h.2⟩
   have k2:∀ wx,CF w Y wx->Calls Tryz.prog 36 #[wv (Y*256),.agg #[.int .u64 (x:Nat),.int .u64 0,.int .u64 0,.int .u64 0]] wx fun e w'=>e=.returned (wv (Y*256+x))/\CF w Y w':=fun wx hC=>by
    have h:Calls Tryz.prog 36 #[wv (Y*256),wv x] wx _:=A0n (Y*256) x wx;rw[Jw (x:=x) τ]at h;exact h.mono fun _ _ h=>⟨h.1,hC.below h.2⟩
   have K1:=Lib.hid k1;clear k1;have K2:=Lib.hid k2;clear k2
   go_wp2_with fail
   refine Aa 10 (CF w Y) ω ω H.out.drew ?_;simp only[List.take_succ_cons,List.take_zero,List.drop_succ_cons,List.drop_zero]
   with_reducible refine Ac 24 (.tmp 3) (.pointer (some ⟨w.heap.size+1,0,none⟩)) (wv Y) rfl ω ω (fun wx hC=>Bq hC.at1) ?_
   refine wpQuiet_step (fun K hK=>?_)
   go_simp
   refine⟨_,fun _ _=>rfl,hK _ ?_⟩;clear hK K
   with_reducible refine Ah 37 #[wv Y,.agg #[.int .u64 256,.int .u64 0,.int .u64 0,.int .u64 0]] (wv (Y*256)) ω (fun _=>by kernel_rfl) K1.out ?_
   refine wpQuiet_step (fun K hK=>?_)
   go_simp
   refine⟨_,fun _ _=>rfl,hK _ ?_⟩;clear hK K;refine wpQuiet_step (fun K hK=>?_)
   go_simp
   refine⟨_,fun _ _=>rfl,hK _ ?_⟩;clear hK K;refine wpQuiet_step (fun K hK=>?_)
   go_simp
   refine⟨_,fun _ _=>rfl,hK _ ?_⟩;clear hK K;refine wpQuiet_step (fun K hK=>?_);rw[if_pos (by rfl)];refine⟨.int .u8 (x:Nat),fun wx hC=>?_,hK _ ?_⟩
   ·have ca:wx.cell? ⟨g,o+i,none⟩=some (.int .u8 (x:Nat)):=(hC.2.2.cell (p:=⟨g,o+i,none⟩) hg).trans HX.out
    go_simp
   clear hK K;refine wpQuiet_step (fun K hK=>?_)
   go_simp
   refine⟨_,fun _ _=>rfl,hK _ ?_⟩;clear hK K;refine wpQuiet_step (fun K hK=>?_)
   go_simp
   refine⟨_,fun _ _=>rfl,hK _ ?_⟩;clear hK K
   with_reducible refine Ah 36 #[wv (Y*256),.agg #[.int .u64 (x:Nat),.int .u64 0,.int .u64 0,.int .u64 0]] (wv (Y*256+x)) ω (fun _=>by kernel_rfl) K2.out ?_
   refine wpQuiet_nil ?_;intro wx hC;have HX2:=Lib.hid hC;clear hC
   go_wp2_with (refine wpList_store_row rfl 24 _ _ rfl (w.heap.size+1) (pw (Y*256+x)) rfl rfl 24 (pw Y) HX2.out.2.1 Aq rfl (Ag _) ?_)
   go_roundw
   case rel=>exact⟨i+1,τ,by go_num,Lib.hid (by rw[HNEXT.out];exact HX2.out.row)⟩
   case measure=>first | (simp[intOf];done) | (simp[intOf];omega)
  ·obtain rfl:i=n:=by omega
   go_wp2_with (first | (refine wpList_load_row rfl 24 _ rfl (w.heap.size+1) rfl 24 _ (0,0) _ H.out.2.1 Tryz.underlying24 rfl Aq ?_) | (refine wpList_store_row rfl 24 _ _ rfl w.heap.size (pw (Dn f i)) rfl rfl 24 #[.int .u64 0,.int .u64 0,.int .u64 0,.int .u64 0] H.out.1 Aq rfl (Ag _) ?_))
   (try simp only[Exit.inBlock,Exit.then])
   exact bodyPost_ret (v:=.agg (pw (Dn f i))) (results_cell_row (p:=2) rfl _ _ w.heap.size 24 _ (0,0) _ rfl (setRow_heap _ _ _ _ _ _ H.out.1) Tryz.underlying24 rfl Aq) rfl ⟨rfl,below_setRow H.out.2.2 (Nat.le_refl _) _⟩
theorem MQ(x:Nat):∀ k,k<=32->Dn (bt x) k=x%2^256 / 256^(32 - k)
 | 0,_=>by
  rw[Dn,Nat.sub_zero,show(256:Nat)^32=2^256 by rfl];exact(Nat.div_eq_of_lt (Nat.mod_lt _ τ)).symm
 | k+1,h=>by
  rw[Dn,MQ x k τ];unfold bt;generalize x%2^256=X;rw[show 31 - k=32 - (k+1) by omega,show 32 - k=32 - (k+1)+1 by omega,Nat.pow_succ 256,<- Nat.div_div_eq_div_mul];generalize X / 256^(32 - (k+1))=y;omega
end Go.Proofs.YtphafjbajlcbnaaGreat
