/- What the whole product of two words comes to (word.product), and the product (word.narrow, word.Mul), called with any words in any world. (Cut to what is reached, written closely: Tail · Q · Shelf · Num · Add · Mul · Adds · Product.) -/
import Derived.Test.YtphafjbajlcbnaaGreatB1
import Derived.StillTail
import Derived.Deep.Quiet
import Derived.Deep.QuietTactic
import Derived.WalkKit
import Derived.Shelf.Small.Bits
import Derived.Shelf.Strconv.Itoa0
import Derived.Shelf.Bits.Mul64
import Derived.Test.YtphafjbajlcbnaaGreatProg
import Derived.Laws.Externs
import Derived.WalkSpells
import Derived.WalkLawsBesides
import Derived.LoopN
import Derived.Handy
import Derived.Outline
import Derived.RegionTactic
import Derived.BigRegion
import Derived.BigQuiet
import Derived.WalkSmall
import Derived.OwnWalk
import Derived.Lib.Hide
import Derived.Laws.Rows
import Derived.Laws.Tables
import Derived.Laws.CopyOwn
import Derived.Maps.AppendAt
import Derived.Deep.LoopGhost
import Derived.Laws.Bits64b
import Derived.Laws.OwnMore
import Derived.Deep.AppendLies
import Derived.Deep.RegionWith
set_option linter.all false
set_option maxRecDepth 100000
set_option maxHeartbeats 8000000
namespace Go.Proofs.YtphafjbajlcbnaaGreat
open Go
section
variable {P:Program} {ops:Array Oper} {md:Region.Mode} {C:World->Prop}
def Gl(P:Program)(md:Region.Mode)(ops:Array Oper)(C:World->Prop)(n:Nat)(L:Array Bool->Act->Prop):Nat->Array Bool->Act->Prop
 | 0,listed,a=>L listed a
 | f+1,listed,a=>Region.ready md ops listed≠[]/\∀ i∈Region.ready md ops listed,i<n/\qOp P ops C i (Gl P md ops C n L f (listed.setIfInBounds i true)) a
theorem IA{n g:Nat}{L:Array Bool->Act->Prop}{Q':Exit->Act->World->Prop}(hL:∀ listed a w,C w->L listed a->wpAny P md ops Q' g listed a w) :
  ∀(f:Nat) (listed:Array Bool) (a:Act) (w:World),C w->Gl P md ops C n L f listed a->wpAny P md ops Q' (f+g) listed a w
 | 0,listed,a,w,hw,h=>by rw[Nat.zero_add];exact hL _ _ _ hw h
 | f+1,listed,a,w,hw,h=>by
  rw[show f+1+g=(f+g)+1 by omega];exact⟨fun h0=>absurd h0 h.1,fun i hi=>wpOp_of_qOp hw (fun a' w' hw' h'=>IA hL f _ a' w' hw' h') (h.2 i hi).2⟩
theorem OH{n i:Nat}{oi:Oper}{v:Value}{L:Array Bool->Act->Prop}(hi:ops[i]?=some oi)(hsel:∀(j:Nat) (o:Oper) cs b,ops[j]?=some o->o.op≠.select cs b)
  (hs:Region.sinkB md ops n=true) (hc:Region.chainB md ops n=true) (hn:n<ops.size) (hin:i<n)
  (hdone:∀ listed a,L listed a->∀ j∈Region.ready md ops listed,n<=j) :
  ∀(f:Nat) (listed:Array Bool) (a:Act),HeadInv md ops n listed ->
   (∀ j oj,ops[j]?=some oj->j≠i->listed.getD j true=false->(∀ e∈oj.after,Region.binds md e=true->e.on≠i)->oi.apart ops oj=true) ->
   i∈Region.ready md ops listed->YieldsIn P ops C oi v a ->
   Gl P md ops C n L f (listed.setIfInBounds i true) (a.put oi.dst v)->Gl P md ops C n L (f+1) listed a:=by
 intro f
 induction f with
 | zero =>
  intro listed a inv _ hr hy H;have hun:=(mem_ready.1 hr).1;refine⟨fun h=>(by rw[h]at hr;cases hr),fun j hj=>?_⟩;have hjn:j<n:=by
   rcases Nat.lt_or_ge j n with h | h
   ·exact h
   ·exact absurd hj (tail_waits hs hc hn inv _ i rfl hin hun j h)
  refine⟨hjn,?_⟩;by_cases hji:j=i
  ·subst hji;exact hy.qOp hi H
  ·have:=hdone _ _ H j (ready_mono hj hji)
   omega
 | succ f ih =>
  intro listed a inv hfree hr hy H;have hun:=(mem_ready.1 hr).1;refine⟨fun h=>(by rw[h]at hr;cases hr),fun j hj=>?_⟩;have hjn:j<n:=by
   rcases Nat.lt_or_ge j n with h | h
   ·exact h
   ·exact absurd hj (tail_waits hs hc hn inv _ i rfl hin hun j h)
  refine⟨hjn,?_⟩;by_cases hji:j=i
  ·subst hji;exact hy.qOp hi H
  ·have h1:=(H.2 j (ready_mono hj hji)).2
   obtain⟨hjun,oj,hoj,hall⟩:=mem_ready.1 hj;have hnot:∀ e∈oj.after,Region.binds md e=true->e.on≠i:=fun e he hb heq=>by
    have h1:=hall e he hb;rw[heq,getD_both hun]at h1;cases h1
   have h2:=qOp_put hoj (hfree j oj hoj hji hjun hnot) (fun cs b=>hsel i oi cs b hi) (fun cs b=>hsel j oj cs b hoj) hy h1;have hfree':∀ k ok,ops[k]?=some ok->k≠i->(listed.setIfInBounds j true).getD k true=false ->
     (∀ e∈ok.after,Region.binds md e=true->e.on≠i)->oi.apart ops ok=true:=fun k ok hk hki hun hno=>by
    refine hfree k ok hk hki ?_ hno;by_cases hjk:j=k
    ·subst hjk;exact hjun
    ·rw[getD_set_ne true hjk]at hun;exact hun
   refine qOp_mono (fun a' h3=>ih (listed.setIfInBounds j true) a' (inv.set hj hjn) hfree' (ready_mono hr (Ne.symm hji)) h3.1 ?_) h2;rw[Array.setIfInBounds_comm _ _ hji];exact h3.2
theorem MX{n g:Nat}{Lq:Act->Prop}(hsel:Region.noSelect ops=true)(hs:Region.sinkB md ops n=true)(hc:Region.chainB md ops n=true)(hn:n<ops.size) :
  ∀(l:List Oper) (k:Nat) (listed:Array Bool) (a:Act),(∀ j,j<l.length->l[j]?=ops[k+j]?)->k+l.length=n->HeadInv md ops n listed ->
  Region.lexHead md ops g l.length k listed=true->wpQuiet P ops C Lq l a ->
  Gl P md ops C n (fun listed' a'=>Region.seqB md ops g n listed'=true/\Lq a') l.length listed a
 | [],k,listed,a,_,hk,_,hB,h=>by
  have:k=n:=by simpa using hk
  subst this;exact⟨by simpa[Region.lexHead]using hB,h⟩
 | o::l,k,listed,a,hl,hk,inv,hB,h=>by
  have h0:ops[k]?=some o:=by simpa using(hl 0 υ).symm
  simp only[List.length_cons,Region.lexHead,Bool.and_eq_true]at hB;obtain⟨⟨hr,hf⟩,hB'⟩:=hB;have hkn:k<n:=by simp only[List.length_cons]at hk;omega
  have hr':k∈Region.ready md ops listed:=by simpa using hr
  have hst:qOp P ops C k (wpQuiet P ops C Lq l) a:=by unfold qOp;simp only[h0];exact h
  obtain⟨v,hy,hK⟩:=yieldsIn_of_qOp h0 hst;exact OH h0 (Region.noSelect_spec hsel) hs hc hn hkn (fun listed' a' hL=>seqB_ready hL.1) l.length listed a inv (Region.free_spec h0 hf) hr' hy
   (MX hsel hs hc hn l (k+1) _ _ (fun j hj=>by have:=hl (j+1) (by simp;omega);simpa[Nat.add_assoc,Nat.add_comm 1 j]using this) (by simp only[List.length_cons]at hk;omega) (inv.set hr' hkn) hB' hK)
theorem Aa{id:Nat}{Q:Exit->Act->World->Prop}{a:Act}{w:World}{l:List Oper}(n:Nat)(C:World->Prop)(hm:P.follows .mixedOrders=true)(hB:Region.lexTailB .any l.toArray n=true)(hC:C w.drew)
  (h:wpQuiet P l.toArray C (fun a'=>∀ w',C w'->wpList P l.toArray Q (l.drop n) a' w') (l.take n) a):(Code.region id l.toArray true).wp P Q a w:=by
 simp only[Region.lexTailB,Bool.and_eq_true,decide_eq_true_eq]at hB;obtain⟨⟨⟨⟨hsel,hn⟩,hs⟩,hc⟩,hlex⟩:=hB;have hn':n<l.length:=by simpa using hn
 have htl:(l.take n).length=n:=by simp;omega
 have hdl:(l.drop n).length=l.toArray.size - n:=by simp
 have inv0:HeadInv .any l.toArray n (Array.replicate l.toArray.size false) :=
  ⟨υ,fun j oj _ hl=>(by rw[getD_replicate_false]at hl;cases hl),fun t _ ht=>getD_in (by simpa using ht) (getD_replicate_false _ _)⟩
 have H:=MX (md:=.any) (g:=l.toArray.size - n) hsel hs hc hn (l.take n) 0 _ a (fun j hj=>by
  have hj':j<n:=by rw[htl]at hj;exact hj
  simp[hj']) (by simpa using htl) inv0 (by rw[htl];exact hlex) h
 refine wp_region_any hm ?_;have:=IA (Q':=Q) (g:=l.toArray.size - n) (fun listed a' w' hw' hL=>by
  have:=wpAny_of_seq (md:=.any) (Q':=Q) (l.drop n) n listed a' w' (fun j=>by simp[List.getElem?_drop]) (by rw[hdl];exact hL.1) (hL.2 w' hw');rwa [hdl]at this) _ _ _ w.drew hC H
 rw[htl,show n+(l.toArray.size - n)=l.toArray.size by omega]at this;exact this
end
open Go.RowKit
section
variable {P:Program} {ops:Array Oper} {C:World->Prop} {Q:Act->Prop} {a:Act} {o:Oper} {rest:List Oper}
theorem q_skip(hw:Region.wanted o (yielded ops a.tmps)=false)(h:wpQuiet P ops C Q rest (a.put o.dst undef)):wpQuiet P ops C Q (o::rest) a :=
 wpQuiet_step fun K hK=>by rw[if_neg (by rw[hw];exact Bool.false_ne_true)];exact hK _ h
theorem U4(v:Value)(hw:Region.wanted o (yielded ops a.tmps)=true)(hv:∀ w,C w->o.quietAt P a C w v)(h:wpQuiet P ops C Q rest (a.put o.dst v)):wpQuiet P ops C Q (o::rest) a :=
 wpQuiet_step fun K hK=>by rw[if_pos hw];exact⟨v,hv,hK _ h⟩
theorem q_val(v:Value)(hw:Region.wanted o (yielded ops a.tmps)=true)(hv:∀ w,C w->(execOp a.eval o).run P w=.ok (.value v) w)(h:wpQuiet P ops C Q rest (a.put o.dst v)):wpQuiet P ops C Q (o::rest) a :=
 U4 v hw (fun w hC=>by unfold Oper.quietAt;rw[hv w hC];exact⟨rfl,rfl⟩) h
theorem Ac(T:TypeId)(x:Operand)(p v:Value)(ho:o.op=.load T x)(hw:Region.wanted o (yielded ops a.tmps)=true)(hp:a.eval x=p)
  (hv:∀ w,C w->(Instr.loadAt T p).run P w=.ok v w) (h:wpQuiet P ops C Q rest (a.put o.dst v)):wpQuiet P ops C Q (o::rest) a :=
 q_val v hw (fun w hC=>by
  unfold execOp;rw[ho];simp only[hp,Sem.run_bind,hv w hC,Result.andThen_ok,Sem.run_pure]) h
theorem Ah(f:FuncId)(args:Array Value)(v:Value)(hw:Region.wanted o (yielded ops a.tmps)=true)(he:∀ w,(execOp a.eval o).run P w=.ok (.enter f args) w)
  (hv:∀ w,C w->Calls P f args w fun e w'=>e=.returned v/\C w') (h:wpQuiet P ops C Q rest (a.put o.dst v)):wpQuiet P ops C Q (o::rest) a :=
 U4 v hw (fun w hC=>by unfold Oper.quietAt;rw[he w];exact⟨rfl,hv w hC⟩) h
theorem Ce(op:BinOp)(T:TypeId)(x y:Operand)(t:TypeId)(u v r:Value)(ho:o.op=.binOp op T x y t)(hw:Region.wanted o (yielded ops a.tmps)=true)(hx:a.eval x=u)(hy:a.eval y=v)
  (hg:∀ w,(eqGuard op T x y u v).run P w=.ok () w) (hb:∀ w,(binOp op T u v).run P w=.ok r w) (h:wpQuiet P ops C Q rest (a.put o.dst r)):wpQuiet P ops C Q (o::rest) a :=
 q_val r hw (fun w hC=>by
  unfold execOp;rw[ho];simp only[hx,hy,Sem.run_bind,hg w,hb w,Result.andThen_ok,Sem.run_pure]) h
end
end Go.Proofs.YtphafjbajlcbnaaGreat
namespace Go.Proofs
open Go.Shelf
def Tryz.lays134_ren:Go.Shelf.Ren:=⟨fun | 134=>116 | 129=>103 | n=>n,fun | 53=>22 | 3=>3 | 4=>4 | 46=>101 | 5=>5 | 9=>9 | n=>n,fun | n=>n⟩
theorem Tryz.lays134:Go.Proofs.Lays.n134 Tryz.prog Tryz.lays134_ren:={
 mixed:=by kernel_rfl
 f129:=Tryz.func103.trans (congrArg some (by kernel_rfl))
 f134:=Tryz.func116.trans (congrArg some (by kernel_rfl))
 t3:=Tryz.underlying3
 a3:=Tryz.isAgg3
 z3:=Tryz.sizeOf3
 v3:=Tryz.zeroValue3
 t4:=Tryz.underlying4
 a4:=Tryz.isAgg4
 z4:=Tryz.sizeOf4
 v4:=Tryz.zeroValue4
 t5:=Tryz.underlying5
 a5:=Tryz.isAgg5
 z5:=Tryz.sizeOf5
 v5:=Tryz.zeroValue5
 t9:=Tryz.underlying9
 a9:=Tryz.isAgg9
 z9:=Tryz.sizeOf9
 v9:=Tryz.zeroValue9
 t46:=Tryz.underlying101
 a46:=Tryz.isAgg101
 z46:=Tryz.sizeOf101
 v46:=Tryz.zeroValue101
 t53:=Tryz.underlying22
 a53:=Tryz.isAgg22
 z53:=Tryz.sizeOf22
 v53:=Tryz.zeroValue22 }
theorem Tryz.bits_LeadingZeros64(x:Int)(w:World)(h0:0<=x)(h1:x<=18446744073709551615) :
  Calls Tryz.prog 116 #[.int .u64 x] w fun e w'=>e=.returned (.int .i64 (64 - (Lib.bitLen x.toNat:Int)))/\w'=w:=Any.bits_LeadingZeros64 Tryz.lays134 x w h0 h1
def Tryz.lays129_ren:Go.Shelf.Ren:=⟨fun | 129=>103 | n=>n,fun | 53=>22 | 3=>3 | 4=>4 | 46=>101 | 5=>5 | 9=>9 | n=>n,fun | n=>n⟩
theorem Tryz.lays129:Go.Proofs.Lays.n129 Tryz.prog Tryz.lays129_ren:={
 mixed:=by kernel_rfl
 f129:=Tryz.func103.trans (congrArg some (by kernel_rfl))
 t3:=Tryz.underlying3
 a3:=Tryz.isAgg3
 z3:=Tryz.sizeOf3
 v3:=Tryz.zeroValue3
 t4:=Tryz.underlying4
 a4:=Tryz.isAgg4
 z4:=Tryz.sizeOf4
 v4:=Tryz.zeroValue4
 t5:=Tryz.underlying5
 a5:=Tryz.isAgg5
 z5:=Tryz.sizeOf5
 v5:=Tryz.zeroValue5
 t9:=Tryz.underlying9
 a9:=Tryz.isAgg9
 z9:=Tryz.sizeOf9
 v9:=Tryz.zeroValue9
 t46:=Tryz.underlying101
 a46:=Tryz.isAgg101
 z46:=Tryz.sizeOf101
 v46:=Tryz.zeroValue101
 t53:=Tryz.underlying22
 a53:=Tryz.isAgg22
 z53:=Tryz.sizeOf22
 v53:=Tryz.zeroValue22 }
theorem Tryz.bits_Len64(x:Int)(w:World)(h0:0<=x)(h1:x<=18446744073709551615) :
  Calls Tryz.prog 103 #[.int .u64 x] w fun e w'=>e=.returned (.int .i64 (Lib.bitLen x.toNat))/\w'=w:=Any.bits_Len64 Tryz.lays129 x w h0 h1
def Tryz.lays264_ren:Go.Shelf.Ren:=⟨fun | 264=>121 | n=>n,fun | 53=>22 | 46=>101 | n=>n,fun | n=>n⟩
theorem Tryz.lays264:Go.Proofs.Lays.n264 Tryz.prog Tryz.lays264_ren:={
 mixed:=by kernel_rfl
 f264:=Tryz.func121.trans (congrArg some (by kernel_rfl))
 t46:=Tryz.underlying101
 a46:=Tryz.isAgg101
 z46:=Tryz.sizeOf101
 v46:=Tryz.zeroValue101
 t53:=Tryz.underlying22
 a53:=Tryz.isAgg22
 z53:=Tryz.sizeOf22
 v53:=Tryz.zeroValue22 }
open Go.RowKit Go.Lib in
theorem Tryz.bits_Mul64(x y:Nat)(hx:x<18446744073709551616)(hy:y<18446744073709551616)(w:World) :
  Calls Tryz.prog 121 #[.int .u64 x,.int .u64 y] w fun e w'=>e=.returned (.tuple #[.int .u64 ((x*y / 18446744073709551616:Nat):Int),.int .u64 ((x*y%18446744073709551616:Nat):Int)])/\w'=w:=Any.bits_Mul64 Tryz.lays264 x y hx hy w
end Go.Proofs
namespace Go.Proofs.YtphafjbajlcbnaaGreat
open Go.RowKit
def wv(x:Nat):Value:=.agg #[.int .u64 ((x%18446744073709551616:Nat):Int),.int .u64 ((x / 18446744073709551616%18446744073709551616:Nat):Int),.int .u64 ((x / 340282366920938463463374607431768211456%18446744073709551616:Nat):Int),.int .u64 ((x / 6277101735386680763835789423207666416102355444464034512896%18446744073709551616:Nat):Int)]
def n4(a0 a1 a2 a3:Nat):Nat:=a0+18446744073709551616*a1+340282366920938463463374607431768211456*a2+6277101735386680763835789423207666416102355444464034512896*a3
theorem Gm{a0 a1 a2 a3:Nat}(h0:a0<18446744073709551616)(h1:a1<18446744073709551616)(h2:a2<18446744073709551616)(h3:a3<18446744073709551616) :
  wv (n4 a0 a1 a2 a3)=.agg #[.int .u64 a0,.int .u64 a1,.int .u64 a2,.int .u64 a3]:=by
 unfold wv n4;have e0:(a0+18446744073709551616*a1+340282366920938463463374607431768211456*a2+6277101735386680763835789423207666416102355444464034512896*a3)%18446744073709551616=a0:=by omega
 have e1:(a0+18446744073709551616*a1+340282366920938463463374607431768211456*a2+6277101735386680763835789423207666416102355444464034512896*a3) / 18446744073709551616%18446744073709551616=a1:=by omega
 have e2:(a0+18446744073709551616*a1+340282366920938463463374607431768211456*a2+6277101735386680763835789423207666416102355444464034512896*a3) / 340282366920938463463374607431768211456%18446744073709551616=a2:=by omega
 have e3:(a0+18446744073709551616*a1+340282366920938463463374607431768211456*a2+6277101735386680763835789423207666416102355444464034512896*a3) / 6277101735386680763835789423207666416102355444464034512896%18446744073709551616=a3:=by omega
 rw[e0,e1,e2,e3]
theorem Ai(x:Nat):∃ a0 a1 a2 a3:Nat,a0<18446744073709551616/\a1<18446744073709551616/\a2<18446744073709551616/\a3<18446744073709551616 /\
  wv x=.agg #[.int .u64 a0,.int .u64 a1,.int .u64 a2,.int .u64 a3]/\n4 a0 a1 a2 a3=x%2^256 :=
 ⟨_,_,_,_,τ,τ,τ,τ,rfl,by unfold n4;omega⟩
theorem BN{x y:Nat}(h:x%2^256=y%2^256):wv x=wv y:=by
 unfold wv;have e0:x%18446744073709551616=y%18446744073709551616:=by omega
 have e1:x / 18446744073709551616%18446744073709551616=y / 18446744073709551616%18446744073709551616:=by omega
 have e2:x / 340282366920938463463374607431768211456%18446744073709551616=y / 340282366920938463463374607431768211456%18446744073709551616:=by omega
 have e3:x / 6277101735386680763835789423207666416102355444464034512896%18446744073709551616=y / 6277101735386680763835789423207666416102355444464034512896%18446744073709551616:=by omega
 rw[e0,e1,e2,e3]
theorem A2M{a0 a1 a2 a3:Nat}(h0:a0<18446744073709551616)(h1:a1<18446744073709551616)(h2:a2<18446744073709551616)(h3:a3<18446744073709551616) :
  n4 a0 a1 a2 a3<2^256:=by unfold n4;omega
theorem Jm{w W w1:World}{B:Nat}(b:Nat)(hb:Below W.heap.size W w1)(h0:Below B w W)(hB0:B<=W.heap.size)(hB:b<W.heap.size)
  (c0:W.cell? ⟨b,0,none⟩=some (.int .u64 0)) (c1:W.cell? ⟨b,1,none⟩=some (.int .u64 0)) (c2:W.cell? ⟨b,2,none⟩=some (.int .u64 0)) (c3:W.cell? ⟨b,3,none⟩=some (.int .u64 0))
  (f0:W.frozen? ⟨b,0,none⟩=false) (f1:W.frozen? ⟨b,1,none⟩=false) (f2:W.frozen? ⟨b,2,none⟩=false) (f3:W.frozen? ⟨b,3,none⟩=false) :
  (w1.cell? ⟨b,0,none⟩=some (.int .u64 0)/\w1.cell? ⟨b,1,none⟩=some (.int .u64 0)/\w1.cell? ⟨b,2,none⟩=some (.int .u64 0)/\w1.cell? ⟨b,3,none⟩=some (.int .u64 0)) /\
  (w1.frozen? ⟨b,0,none⟩=false/\w1.frozen? ⟨b,1,none⟩=false/\w1.frozen? ⟨b,2,none⟩=false/\w1.frozen? ⟨b,3,none⟩=false)/\b<w1.heap.size/\Below B w w1 :=
 ⟨⟨(hb.cell hB).trans c0,(hb.cell hB).trans c1,(hb.cell hB).trans c2,(hb.cell hB).trans c3⟩,⟨(hb.frozen hB).trans f0,(hb.frozen hB).trans f1,(hb.frozen hB).trans f2,(hb.frozen hB).trans f3⟩,Nat.lt_of_lt_of_le hB hb.size,h0.trans (hb.mono hB0)⟩
theorem Er{W w1:World}{b i:Nat}{v:Value}(hb:Below W.heap.size W w1)(hB:b<W.heap.size)(c0:W.cell? ⟨b,i,none⟩=some v)(f0:W.frozen? ⟨b,i,none⟩=false) :
  w1.cell? ⟨b,i,none⟩=some v/\w1.frozen? ⟨b,i,none⟩=false/\b<w1.heap.size :=
 ⟨(hb.cell hB).trans c0,(hb.frozen hB).trans f0,Nat.lt_of_lt_of_le hB hb.size⟩
open Go.RowKit
def U5:Array Value->Sem Value:=fun args=>do
 let (x, y, b) ← Extern.MathBitsCarry.three "Sub64" args
 pure (Extern.MathBitsCarry.pair ((x+Extern.MathBitsCarry.m64 - y - b)%Extern.MathBitsCarry.m64) (if x<y+b then 1 else 0))
theorem OI(x y b:Nat)(hb:b<=1)(w:World) :
  (U5 #[.int .u64 x,.int .u64 y,.int .u64 b]).run Tryz.prog w =
   .ok (.tuple #[.int .u64 (((x+18446744073709551616 - y - b)%18446744073709551616:Nat):Int),.int .u64 ((if x<y+b then 1 else 0:Nat):Int)]) w:=by
 have:b=0\/b=1:=by omega
 rcases this with rfl | rfl <;> rfl
theorem RL(x y c:Nat)(hc:c<=1)(w:World) :
  (callFunc 100 #[.int .u64 x,.int .u64 y,.int .u64 c]).run Tryz.prog w =
   .ok (.value (.tuple #[.int .u64 (((x+y+c)%18446744073709551616:Nat):Int),.int .u64 (((x+y+c) / 18446744073709551616:Nat):Int)])) w:=by
 rw[run_callFunc_extern Tryz.func100 ω ω ω (e:=add64Entry) ω,run_add64 x y c τ τ τ τ];simp only[Result.andThen];congr 5 <;> omega
theorem RP(x y b:Nat)(hb:b<=1)(w:World) :
  (callFunc 109 #[.int .u64 x,.int .u64 y,.int .u64 b]).run Tryz.prog w =
   .ok (.value (.tuple #[.int .u64 (((x+18446744073709551616 - y - b)%18446744073709551616:Nat):Int),.int .u64 ((if x<y+b then 1 else 0:Nat):Int)])) w:=by
 rw[run_callFunc_extern Tryz.func109 ω ω ω (e:=U5) ω,OI x y b hb];rfl
theorem Dq(x y c:Nat)(hx:x<18446744073709551616)(hy:y<18446744073709551616)(hc:c<=1) :
  ∃ s d:Nat,d<=1/\s<18446744073709551616/\s+18446744073709551616*d=x+y+c /\
  ∀ w,(callFunc 100 #[.int .u64 x,.int .u64 y,.int .u64 c]).run Tryz.prog w=.ok (.value (.tuple #[.int .u64 s,.int .u64 d])) w :=
 ⟨_,_,τ,τ,τ,fun w=>RL x y c hc w⟩
theorem E8(x y:Nat)(hx:x<18446744073709551616)(hy:y<18446744073709551616) :
  ∃ s d:Nat,d<=1/\s<18446744073709551616/\s+18446744073709551616*d=x+y /\
  ∀ w,(callFunc 100 #[.int .u64 x,.int .u64 y,.int .u64 0]).run Tryz.prog w=.ok (.value (.tuple #[.int .u64 s,.int .u64 d])) w :=
 Dq x y 0 hx hy τ
theorem E9(x y b:Nat)(hx:x<18446744073709551616)(hy:y<18446744073709551616)(hb:b<=1) :
  ∃ s d:Nat,d<=1/\s<18446744073709551616/\s+y+b=x+18446744073709551616*d /\
  ∀ w,(callFunc 109 #[.int .u64 x,.int .u64 y,.int .u64 b]).run Tryz.prog w=.ok (.value (.tuple #[.int .u64 s,.int .u64 d])) w:=by
 refine⟨_,_,?_,?_,?_,fun w=>RP x y b hb w⟩
 ·split <;> omega
 ·omega
 ·split <;> omega
theorem RQ(x y:Nat)(hx:x<18446744073709551616)(hy:y<18446744073709551616) :
  ∃ s d:Nat,d<=1/\s<18446744073709551616/\s+y=x+18446744073709551616*d /\
  ∀ w,(callFunc 109 #[.int .u64 x,.int .u64 y,.int .u64 0]).run Tryz.prog w=.ok (.value (.tuple #[.int .u64 s,.int .u64 d])) w :=
 E9 x y 0 hx hy τ
theorem Kq(a0 a1 a2 a3 b0 b1 b2 b3 s0 c1 s1 c2 s2 c3 s3 c4:Nat)(w:World)
 (h0:∀ w,(callFunc 100 #[.int .u64 a0,.int .u64 b0,.int .u64 0]).run Tryz.prog w=.ok (.value (.tuple #[.int .u64 s0,.int .u64 c1])) w)
 (h1:∀ w,(callFunc 100 #[.int .u64 a1,.int .u64 b1,.int .u64 c1]).run Tryz.prog w=.ok (.value (.tuple #[.int .u64 s1,.int .u64 c2])) w)
 (h2:∀ w,(callFunc 100 #[.int .u64 a2,.int .u64 b2,.int .u64 c2]).run Tryz.prog w=.ok (.value (.tuple #[.int .u64 s2,.int .u64 c3])) w)
 (h3:∀ w,(callFunc 100 #[.int .u64 a3,.int .u64 b3,.int .u64 c3]).run Tryz.prog w=.ok (.value (.tuple #[.int .u64 s3,.int .u64 c4])) w) :
  Calls Tryz.prog 83 #[.agg #[.int .u64 a0,.int .u64 a1,.int .u64 a2,.int .u64 a3],.agg #[.int .u64 b0,.int .u64 b1,.int .u64 b2,.int .u64 b3]] w fun e w' =>
   e=.returned (.tuple #[.agg #[.int .u64 s0,.int .u64 s1,.int .u64 s2,.int .u64 s3],.int .u64 c4])/\Below w.heap.size w w':=by
 go_enter Tryz.func83,Tryz.ntmps83;go_wp2;refine wp_loop_rounds 5 ?_
 iterate 4 (rw[rounds_succ];go_wp2;go_region;go_wp2)
 rw[rounds_succ];go_wp2
 go_returns
 exact⟨rfl,by go_grown⟩
theorem Gn(x y:Nat)(w:World) :
  Calls Tryz.prog 83 #[wv x,wv y] w fun e w' =>
   e=.returned (.tuple #[wv (x+y),.int .u64 (((x%2^256+y%2^256) / 2^256:Nat):Int)])/\Below w.heap.size w w':=by
 obtain⟨a0,a1,a2,a3,u0,u1,u2,u3,ea,na⟩:=Ai x;obtain⟨b0,b1,b2,b3,v0,v1,v2,v3,eb,nb⟩:=Ai y;obtain⟨s0,c1,k1,l0,e0,h0⟩:=E8 a0 b0 u0 v0;obtain⟨s1,c2,k2,l1,e1,h1⟩:=Dq a1 b1 c1 u1 v1 k1;obtain⟨s2,c3,k3,l2,e2,h2⟩:=Dq a2 b2 c2 u2 v2 k2;obtain⟨s3,c4,k4,l3,e3,h3⟩:=Dq a3 b3 c3 u3 v3 k3;have hs:n4 s0 s1 s2 s3+2^256*c4=x%2^256+y%2^256:=by rw[<- na,<- nb];unfold n4;omega
 have hl:=A2M l0 l1 l2 l3;rw[ea,eb];refine(Kq a0 a1 a2 a3 b0 b1 b2 b3 s0 c1 s1 c2 s2 c3 s3 c4 w h0 h1 h2 h3).mono fun e w' ⟨he,hb⟩=>⟨?_,hb⟩
 rw[he,<- hs,<- Gm l0 l1 l2 l3];rw[BN (x:=n4 s0 s1 s2 s3) (y:=x+y) τ];rw[show(n4 s0 s1 s2 s3+2^256*c4) / 2^256=c4 by omega]
theorem U6(a0 a1 a2 a3 b0 b1 b2 b3 s0 c1 s1 c2 s2 c3 s3 c4:Nat)(w:World)
 (h0:∀ w,(callFunc 109 #[.int .u64 a0,.int .u64 b0,.int .u64 0]).run Tryz.prog w=.ok (.value (.tuple #[.int .u64 s0,.int .u64 c1])) w)
 (h1:∀ w,(callFunc 109 #[.int .u64 a1,.int .u64 b1,.int .u64 c1]).run Tryz.prog w=.ok (.value (.tuple #[.int .u64 s1,.int .u64 c2])) w)
 (h2:∀ w,(callFunc 109 #[.int .u64 a2,.int .u64 b2,.int .u64 c2]).run Tryz.prog w=.ok (.value (.tuple #[.int .u64 s2,.int .u64 c3])) w)
 (h3:∀ w,(callFunc 109 #[.int .u64 a3,.int .u64 b3,.int .u64 c3]).run Tryz.prog w=.ok (.value (.tuple #[.int .u64 s3,.int .u64 c4])) w) :
  Calls Tryz.prog 98 #[.agg #[.int .u64 a0,.int .u64 a1,.int .u64 a2,.int .u64 a3],.agg #[.int .u64 b0,.int .u64 b1,.int .u64 b2,.int .u64 b3]] w fun e w' =>
   e=.returned (.agg #[.int .u64 s0,.int .u64 s1,.int .u64 s2,.int .u64 s3])/\Below w.heap.size w w':=by
 go_enter Tryz.func98,Tryz.ntmps98;go_wp2;refine wp_loop_rounds 5 ?_
 iterate 4 (rw[rounds_succ];go_wp2;go_region;go_wp2)
 rw[rounds_succ];go_wp2
 go_returns
 exact⟨rfl,by go_grown⟩
theorem Qh(x y:Nat)(w:World) :
  Calls Tryz.prog 98 #[wv x,wv y] w fun e w' =>
   e=.returned (wv (x+(2^256 - y%2^256)))/\Below w.heap.size w w':=by
 obtain⟨a0,a1,a2,a3,u0,u1,u2,u3,ea,na⟩:=Ai x;obtain⟨b0,b1,b2,b3,v0,v1,v2,v3,eb,nb⟩:=Ai y;obtain⟨s0,c1,k1,l0,e0,h0⟩:=RQ a0 b0 u0 v0;obtain⟨s1,c2,k2,l1,e1,h1⟩:=E9 a1 b1 c1 u1 v1 k1;obtain⟨s2,c3,k3,l2,e2,h2⟩:=E9 a2 b2 c2 u2 v2 k2;obtain⟨s3,c4,k4,l3,e3,h3⟩:=E9 a3 b3 c3 u3 v3 k3;have hs:n4 s0 s1 s2 s3+y%2^256=x%2^256+2^256*c4:=by rw[<- na,<- nb];unfold n4;omega
 rw[ea,eb];refine(U6 a0 a1 a2 a3 b0 b1 b2 b3 s0 c1 s1 c2 s2 c3 s3 c4 w h0 h1 h2 h3).mono fun e w' ⟨he,hb⟩=>⟨?_,hb⟩
 rw[he,<- Gm l0 l1 l2 l3];rw[BN (x:=n4 s0 s1 s2 s3) (y:=x+(2^256 - y%2^256)) τ]
open Go.RowKit
theorem U9(v0 v1 v2 v3:Value)(w:World):(Instr.index 24 (.agg #[v0,v1,v2,v3]) (.int .i64 0)).run Tryz.prog w=.ok v0 w:=by kernel_rfl
theorem Ua(v0 v1 v2 v3:Value)(w:World):(Instr.index 24 (.agg #[v0,v1,v2,v3]) (.int .i64 1)).run Tryz.prog w=.ok v1 w:=by kernel_rfl
theorem Ub(v0 v1 v2 v3:Value)(w:World):(Instr.index 24 (.agg #[v0,v1,v2,v3]) (.int .i64 2)).run Tryz.prog w=.ok v2 w:=by kernel_rfl
theorem Uc(v0 v1 v2 v3:Value)(w:World):(Instr.index 24 (.agg #[v0,v1,v2,v3]) (.int .i64 3)).run Tryz.prog w=.ok v3 w:=by kernel_rfl
theorem MZ(x y:Nat)(hx:x<18446744073709551616)(hy:y<18446744073709551616) :
  ∃ h l:Nat,h<18446744073709551615/\l<18446744073709551616/\l+18446744073709551616*h=x*y /\
  ∀ w,Calls Tryz.prog 121 #[.int .u64 x,.int .u64 y] w fun e w'=>e=.returned (.tuple #[.int .u64 h,.int .u64 l])/\w=w':=by
 have hm:x*y<=18446744073709551615*18446744073709551615:=Nat.mul_le_mul τ τ;refine⟨x*y / 18446744073709551616,x*y%18446744073709551616,τ,τ,τ,fun w=>(Tryz.bits_Mul64 x y hx hy w).mono fun e w' ⟨he,hw⟩=>⟨he,hw.symm⟩⟩
theorem N7(x y m c h l s0 d0 s1 d1:Nat)(w:World)
  (hM:∀ w,Calls Tryz.prog 121 #[.int .u64 x,.int .u64 y] w fun e w'=>e=.returned (.tuple #[.int .u64 h,.int .u64 l])/\w=w')
  (h0:∀ w,(callFunc 100 #[.int .u64 l,.int .u64 m,.int .u64 0]).run Tryz.prog w=.ok (.value (.tuple #[.int .u64 s0,.int .u64 d0])) w)
  (h1:∀ w,(callFunc 100 #[.int .u64 s0,.int .u64 c,.int .u64 0]).run Tryz.prog w=.ok (.value (.tuple #[.int .u64 s1,.int .u64 d1])) w)
  (b1:(h:Int)+d0<=18446744073709551615) (b2:(h:Int)+d0+d1<=18446744073709551615) :
  Calls Tryz.prog 120 #[.int .u64 x,.int .u64 y,.int .u64 m,.int .u64 c] w fun e w'=>e=.returned (.tuple #[.int .u64 s1,.int .u64 ((h+d0+d1:Nat):Int)])/\w=w':=by
 go_enter Tryz.func120,Tryz.ntmps120
 go_wp2_with fail
 refine(hM _).mono ?_;rintro e w' ⟨rfl,rfl⟩;go_wp2
 go_ret2
 exact⟨υ,rfl⟩
theorem AP(x y m c:Nat)(hx:x<18446744073709551616)(hy:y<18446744073709551616)(hm:m<18446744073709551616)(hc:c<18446744073709551616) :
  ∃ l h:Nat,l<18446744073709551616/\h<18446744073709551616/\l+18446744073709551616*h=x*y+m+c /\
   ∀ w,Calls Tryz.prog 120 #[.int .u64 x,.int .u64 y,.int .u64 m,.int .u64 c] w fun e w'=>e=.returned (.tuple #[.int .u64 l,.int .u64 h])/\w=w':=by
 obtain⟨h,l,lh,ll,e,hM⟩:=MZ x y hx hy;obtain⟨s0,d0,k0,l0,e0,h0⟩:=E8 l m ll hm;obtain⟨s1,d1,k1,l1,e1,h1⟩:=E8 s0 c l0 hc;have hb:x*y<=18446744073709551615*18446744073709551615:=Nat.mul_le_mul τ τ;have ht:s1+18446744073709551616*(h+d0+d1)=x*y+m+c:=by omega
 have hh:h+d0+d1<18446744073709551616:=by omega
 exact⟨s1,h+d0+d1,l1,hh,ht,fun w=>N7 x y m c h l s0 d0 s1 d1 w hM h0 h1 τ τ⟩
open Go.RowKit
theorem XP(x y:Nat)(w:World) :
  Calls Tryz.prog 68 #[wv x,wv y] w fun e w'=>e=.returned (wv (x+y))/\Below w.heap.size w w':=by
 obtain⟨a0,a1,a2,a3,u0,u1,u2,u3,ea,na⟩:=Ai x;obtain⟨b0,b1,b2,b3,v0,v1,v2,v3,eb,nb⟩:=Ai y;obtain⟨s0,s1,s2,s3,l0,l1,l2,l3,es,ns⟩:=Ai (x+y);have hc:=fun w=>Gn x y w;rw[ea,eb,es]at hc;rw[ea,eb,es];clear ea eb es;generalize ((x%2^256+y%2^256) / 2^256)=c at hc;clear na nb ns;go_enter Tryz.func68,Tryz.ntmps68
 go_wp2_with fail
 refine(hc _).mono ?_;rintro e w' ⟨rfl,hb⟩;obtain⟨⟨q0,q1,q2,q3⟩,⟨f0,f1,f2,f3⟩,hz,hb'⟩:=Jm (w:=w) (B:=w.heap.size) (w.heap.size+1+1) hb (by go_grown) (by simp;omega) υ χ χ χ χ χ χ χ χ;clear hb;go_wp2;refine bodyPost_ret (by simp[results,Tryz.results68,go_sem,hz,q0,q1,q2,q3];try rfl) rfl ⟨rfl,?_⟩;go_grown
open Go.RowKit
theorem Lj(a0 a1 a2 a3 b0 b1 b2 b3 p00 c00 p01 c01 p02 c02 p03 c03 p10 c10 p11 c11 p12 c12 p13 c13 p20 c20 p21 c21 p22 c22 p23 c23 p30 c30 p31 c31 p32 c32 p33 c33:Nat)(w:World)
  (h00:∀ w,Calls Tryz.prog 120 #[.int .u64 a0,.int .u64 b0,.int .u64 0,.int .u64 0] w fun e w'=>e=.returned (.tuple #[.int .u64 p00,.int .u64 c00])/\w=w')
  (h01:∀ w,Calls Tryz.prog 120 #[.int .u64 a0,.int .u64 b1,.int .u64 0,.int .u64 c00] w fun e w'=>e=.returned (.tuple #[.int .u64 p01,.int .u64 c01])/\w=w')
  (h02:∀ w,Calls Tryz.prog 120 #[.int .u64 a0,.int .u64 b2,.int .u64 0,.int .u64 c01] w fun e w'=>e=.returned (.tuple #[.int .u64 p02,.int .u64 c02])/\w=w')
  (h03:∀ w,Calls Tryz.prog 120 #[.int .u64 a0,.int .u64 b3,.int .u64 0,.int .u64 c02] w fun e w'=>e=.returned (.tuple #[.int .u64 p03,.int .u64 c03])/\w=w')
  (h10:∀ w,Calls Tryz.prog 120 #[.int .u64 a1,.int .u64 b0,.int .u64 p01,.int .u64 0] w fun e w'=>e=.returned (.tuple #[.int .u64 p10,.int .u64 c10])/\w=w')
  (h11:∀ w,Calls Tryz.prog 120 #[.int .u64 a1,.int .u64 b1,.int .u64 p02,.int .u64 c10] w fun e w'=>e=.returned (.tuple #[.int .u64 p11,.int .u64 c11])/\w=w')
  (h12:∀ w,Calls Tryz.prog 120 #[.int .u64 a1,.int .u64 b2,.int .u64 p03,.int .u64 c11] w fun e w'=>e=.returned (.tuple #[.int .u64 p12,.int .u64 c12])/\w=w')
  (h13:∀ w,Calls Tryz.prog 120 #[.int .u64 a1,.int .u64 b3,.int .u64 c03,.int .u64 c12] w fun e w'=>e=.returned (.tuple #[.int .u64 p13,.int .u64 c13])/\w=w')
  (h20:∀ w,Calls Tryz.prog 120 #[.int .u64 a2,.int .u64 b0,.int .u64 p11,.int .u64 0] w fun e w'=>e=.returned (.tuple #[.int .u64 p20,.int .u64 c20])/\w=w')
  (h21:∀ w,Calls Tryz.prog 120 #[.int .u64 a2,.int .u64 b1,.int .u64 p12,.int .u64 c20] w fun e w'=>e=.returned (.tuple #[.int .u64 p21,.int .u64 c21])/\w=w')
  (h22:∀ w,Calls Tryz.prog 120 #[.int .u64 a2,.int .u64 b2,.int .u64 p13,.int .u64 c21] w fun e w'=>e=.returned (.tuple #[.int .u64 p22,.int .u64 c22])/\w=w')
  (h23:∀ w,Calls Tryz.prog 120 #[.int .u64 a2,.int .u64 b3,.int .u64 c13,.int .u64 c22] w fun e w'=>e=.returned (.tuple #[.int .u64 p23,.int .u64 c23])/\w=w')
  (h30:∀ w,Calls Tryz.prog 120 #[.int .u64 a3,.int .u64 b0,.int .u64 p21,.int .u64 0] w fun e w'=>e=.returned (.tuple #[.int .u64 p30,.int .u64 c30])/\w=w')
  (h31:∀ w,Calls Tryz.prog 120 #[.int .u64 a3,.int .u64 b1,.int .u64 p22,.int .u64 c30] w fun e w'=>e=.returned (.tuple #[.int .u64 p31,.int .u64 c31])/\w=w')
  (h32:∀ w,Calls Tryz.prog 120 #[.int .u64 a3,.int .u64 b2,.int .u64 p23,.int .u64 c31] w fun e w'=>e=.returned (.tuple #[.int .u64 p32,.int .u64 c32])/\w=w')
  (h33:∀ w,Calls Tryz.prog 120 #[.int .u64 a3,.int .u64 b3,.int .u64 c23,.int .u64 c32] w fun e w'=>e=.returned (.tuple #[.int .u64 p33,.int .u64 c33])/\w=w') :
  Calls Tryz.prog 108 #[.agg #[.int .u64 a0,.int .u64 a1,.int .u64 a2,.int .u64 a3],.agg #[.int .u64 b0,.int .u64 b1,.int .u64 b2,.int .u64 b3]] w fun e w' =>
   e=.returned (.agg #[.int .u64 p00,.int .u64 p10,.int .u64 p20,.int .u64 p30,.int .u64 p31,.int .u64 p32,.int .u64 p33,.int .u64 c33])/\Below w.heap.size w w':=by
 have ia0:=U9;have ia1:=Ua;have ia2:=Ub;have ia3:=Uc;go_enter Tryz.func108,Tryz.ntmps108;go_wp2;refine wp_loop_rounds 5 ?_;rw[rounds_succ];go_wp2;refine wp_loop_rounds 5 ?_;rw[rounds_succ];go_wp2_with fail;refine(h00 _).mono ?_;rintro e w' ⟨rfl,rfl⟩;go_wp2;rw[rounds_succ];go_wp2_with fail;refine(h01 _).mono ?_;rintro e w' ⟨rfl,rfl⟩;go_wp2;rw[rounds_succ];go_wp2_with fail;refine(h02 _).mono ?_;rintro e w' ⟨rfl,rfl⟩;go_wp2;rw[rounds_succ];go_wp2_with fail;refine(h03 _).mono ?_;rintro e w' ⟨rfl,rfl⟩;go_wp2;rw[rounds_succ];go_wp2;rw[rounds_succ];go_wp2;refine wp_loop_rounds 5 ?_;rw[rounds_succ];go_wp2_with fail;refine(h10 _).mono ?_;rintro e w' ⟨rfl,rfl⟩;go_wp2;rw[rounds_succ];go_wp2_with fail;refine(h11 _).mono ?_;rintro e w' ⟨rfl,rfl⟩;go_wp2;rw[rounds_succ];go_wp2_with fail;refine(h12 _).mono ?_;rintro e w' ⟨rfl,rfl⟩;go_wp2;rw[rounds_succ];go_wp2_with fail;refine(h13 _).mono ?_;rintro e w' ⟨rfl,rfl⟩;go_wp2;rw[rounds_succ];go_wp2;rw[rounds_succ];go_wp2;refine wp_loop_rounds 5 ?_;rw[rounds_succ];go_wp2_with fail;refine(h20 _).mono ?_;rintro e w' ⟨rfl,rfl⟩;go_wp2;rw[rounds_succ];go_wp2_with fail;refine(h21 _).mono ?_;rintro e w' ⟨rfl,rfl⟩;go_wp2;rw[rounds_succ];go_wp2_with fail;refine(h22 _).mono ?_;rintro e w' ⟨rfl,rfl⟩;go_wp2;rw[rounds_succ];go_wp2_with fail;refine(h23 _).mono ?_;rintro e w' ⟨rfl,rfl⟩;go_wp2;rw[rounds_succ];go_wp2;rw[rounds_succ];go_wp2;refine wp_loop_rounds 5 ?_;rw[rounds_succ];go_wp2_with fail;refine(h30 _).mono ?_;rintro e w' ⟨rfl,rfl⟩;go_wp2;rw[rounds_succ];go_wp2_with fail;refine(h31 _).mono ?_;rintro e w' ⟨rfl,rfl⟩;go_wp2;rw[rounds_succ];go_wp2_with fail;refine(h32 _).mono ?_;rintro e w' ⟨rfl,rfl⟩;go_wp2;rw[rounds_succ];go_wp2_with fail;refine(h33 _).mono ?_;rintro e w' ⟨rfl,rfl⟩;go_wp2;rw[rounds_succ];go_wp2;rw[rounds_succ];go_wp2
 go_returns
 exact⟨rfl,by go_grown⟩
end Go.Proofs.YtphafjbajlcbnaaGreat
