/- What word.mulAdd comes to, called with any four parts in any world: the low and the high part of the product and both more. (Cut to what is reached, written closely: TieS · Tail · Q · Shelf · Num · Add · Mul.) -/
import Derived.Test.YtadfjjfklihaaaaGreatP1
import Derived.StillTail
import Derived.Deep.Quiet
import Derived.Deep.QuietTactic
import Derived.WalkKit
import Derived.Shelf.Small.Bits
import Derived.Shelf.Strconv.Itoa0
import Derived.Shelf.Bits.Mul64
import Derived.Test.YtadfjjfklihaaaaGreatProg
import Derived.Laws.Externs
import Derived.WalkSpells
import Derived.WalkLawsBesides
import Derived.LoopN
import Derived.Handy
import Derived.Outline
import Derived.RegionTactic
import Derived.BigRegion
import Derived.BigQuiet
import Derived.WalkSmall
import Derived.OwnWalk
import Derived.Lib.Hide
import Derived.Laws.Rows
import Derived.Laws.Tables
import Derived.Laws.CopyOwn
import Derived.Maps.AppendAt
import Derived.Deep.LoopGhost
import Derived.Laws.Bits64b
import Derived.Laws.OwnMore
import Derived.Deep.AppendLies
import Derived.Deep.RegionWith
set_option linter.all false
set_option maxRecDepth 100000
set_option maxHeartbeats 8000000
namespace Go.Proofs.YtadfjjfklihaaaaGreat
open Go.RowKit
section
variable {P:Program} {ops:Array Oper} {Q:Exit->Act->World->Prop} {C:World->Prop} {φ:Nat->(Nat->Value)->World->Prop} {R:World->World->Prop} {a0:Act}
def StepsTS(P:Program)(ops:Array Oper)(Q:Exit->Act->World->Prop)(C D:World->Prop)(st:Nat)(φ:Nat->(Nat->Value)->World->Prop)(R:World->World->Prop)(a0:Act):Nat->List Oper->Prop
 | _,[]=>True
 | k,o::l=>(∀ a w,C w->a.tmps.size=a0.tmps.size->KnownV ops φ a0 k o a w->Region.wanted o (yielded ops a.tmps)=true/\StepT P ops Q (pst C D st k) φ R k o a w)/\(depB ops ops.size st k=true\/k=st\/∀ a w,D w->a.tmps.size=a0.tmps.size->KnownV ops φ a0 k o a w->Region.wanted o (yielded ops a.tmps)=true/\StepT P ops Q D φ R k o a w)/\StepsTS P ops Q C D st φ R a0 (k+1) l
theorem StepsTS.at_{D:World->Prop}{st:Nat}:∀ {l:List Oper} {k:Nat},StepsTS P ops Q C D st φ R a0 k l->∀(i:Nat) (o:Oper),l[i]?=some o->(∀ a w,C w->a.tmps.size=a0.tmps.size->KnownV ops φ a0 (k+i) o a w->Region.wanted o (yielded ops a.tmps)=true/\StepT P ops Q (pst C D st (k+i)) φ R (k+i) o a w)/\(depB ops ops.size st (k+i)=true\/k+i=st\/∀ a w,D w->a.tmps.size=a0.tmps.size->KnownV ops φ a0 (k+i) o a w->Region.wanted o (yielded ops a.tmps)=true/\StepT P ops Q D φ R (k+i) o a w)
 | [],_,_,i,o,hi=>by simp at hi
 | o::l,k,h,0,o',hi=>by simp at hi;subst hi;exact⟨h.1,h.2.1⟩
 | o::l,k,h,i+1,o',hi=>by
  have:=StepsTS.at_ h.2.2 i o' (by simpa using hi);rwa [show k+1+i=k+(i+1) by omega]at this
theorem stepT_mono{C C':World->Prop}{k:Nat}{o:Oper}{a:Act}{w:World}(h:∀ w,C w->C' w)(hs:StepT P ops Q C φ R k o a w):StepT P ops Q C' φ R k o a w:=by
 unfold StepT at hs |-
 split
 ·rename_i hw
  rw[if_pos hw]at hs;exact Oper.wp_mono (fun a' w' ⟨v,h1,h2,h3,h4⟩=>⟨v,h1,h w' h2,h3,h4⟩) hs
 ·rename_i hw
  rw[if_neg hw]at hs;exact hs
theorem wpAny_tieS{D:World->Prop}(st:Nat)(hst0:st<ops.size)(rd:Nat->List Nat)(rk:Nat->Nat)(hdist:distinctB ops.toList=true)(hlex:rankB ops rk=true)(hon:∀(i:Nat) (o:Oper),ops[i]?=some o->∀ e∈o.after,e.on<ops.size)(hown:ownB ops rd=true)
  (hrd:∀ i s s' w,(∀ t∈rd i,s t=s' t)->φ i s w->φ i s' w)
  (hφ:∀ i v w w',R w w'->φ i v w->φ i v w') (hst:StepsTS P ops Q C D st φ R a0 0 ops.toList)
  (hQ:∀(f:Oper->Value) w,D w->(∀ i o,ops[i]?=some o->φ i (slots (putAll f ops.toList a0)) w)->Q .normal (putAll f ops.toList a0) w) :
  ∀(fuel:Nat) (listed:Array Bool) (a:Act) (w:World),listed.size=ops.size->listed.toList.count false<=fuel->((listed.getD st false=false->C w)/\(listed.getD st false=true->D w))->a.tmps.size=a0.tmps.size->a.defers=a0.defers ->
   (∀ t,(∀ j o,ops[j]?=some o->o.dst=some t->listed.getD j false=false)->a.tmps.getD t undef=a0.tmps.getD t undef)->(∀ i o,listed.getD i false=true->ops[i]?=some o->φ i (slots a) w/\∀ e∈o.after,Region.binds .any e=true->listed.getD e.on false=true)->wpAny P .any ops Q fuel listed a w:=by
 have done:∀(listed:Array Bool) (a:Act) (w:World),(∀ i,i<ops.size->listed.getD i false=true)->((listed.getD st false=false->C w)/\(listed.getD st false=true->D w))->a.tmps.size=a0.tmps.size->a.defers=a0.defers ->
   (∀ t,(∀ j o,ops[j]?=some o->o.dst=some t->listed.getD j false=false)->a.tmps.getD t undef=a0.tmps.getD t undef)->(∀ i o,listed.getD i false=true->ops[i]?=some o->φ i (slots a) w/\∀ e∈o.after,Region.binds .any e=true->listed.getD e.on false=true)->Q .normal a w:=by
  intro listed a w hall hC hs hd hk hp;have hb:=put_back hs hd (fun t ht=>hk t (fun j o ho hd'=>by
   simp only[isDst,List.any_eq_false]at ht;have hm:o∈ops.toList:=List.mem_of_getElem? (i:=j) (by simpa using ho);exact absurd (show(o.dst == some t)=true by simp[hd']) (ht o hm)))
  rw[hb];exact hQ _ w (hC.2 (hall st hst0)) (fun i o ho=>by rw[<- hb];exact(hp i o (hall i (Array.getElem?_eq_some_iff.1 ho).1) ho).1)
 intro fuel
 induction fuel with
 | zero =>
  intro listed a w hsz hc hC hs hd hk hp;have hno:false ∉ listed.toList:=List.count_eq_zero.1 (by omega);have hall:∀ i,i<ops.size->listed.getD i false=true:=fun i hi=>by
   have hlt:i<listed.size:=by omega
   have hm:listed[i]∈listed.toList:=by simp
   simp only[Array.getD_eq_getD_getElem?,hlt,Array.getElem?_eq_getElem,Option.getD_some];cases h:listed[i]with
   | true=>rfl
   | false=>rw[h]at hm;exact absurd hm hno
  refine⟨?_,done listed a w hall hC hs hd hk hp⟩;rw[List.eq_nil_iff_forall_not_mem];intro j hj;obtain⟨h0,o,ho,-⟩:=mem_ready.1 hj;have hlt:=(Array.getElem?_eq_some_iff.1 ho).1;have h1:=hall j hlt;simp[show j<listed.size by omega]at h0 h1;rw[h0]at h1;cases h1
 | succ fuel ih =>
  intro listed a w hsz hc hC hs hd hk hp;refine⟨fun hr=>?_,fun i hi=>?_⟩
  ·refine done listed a w ?_ hC hs hd hk hp
   -- the least that isn't listed would be ready
   have key:∀ r i,rk i<r->i<ops.size->listed.getD i false=true:=by
    intro r
    induction r with
    | zero=>intro i h;omega
    | succ r ihr =>
     intro i hri hi;cases h:listed.getD i false with
     | true=>rfl
     | false =>
      have ho:ops[i]?=some ops[i]:=Array.getElem?_eq_getElem hi;have:i∈Region.ready .any ops listed:=mem_ready.2 ⟨by simpa[show i<listed.size by omega]using h,ops[i],ho,fun e he hb=>by
       have hl:=hlex;unfold rankB at hl;rw[List.all_eq_true]at hl;have:=hl i (by simpa using hi);rw[ho]at this;simp only[Array.all_eq_true_iff_forall_mem]at this;have hlt:=this e he;rw[hb]at hlt;simp at hlt;exact ihr e.on (by omega) (hon i _ ho e he)⟩
      rw[hr]at this;cases this
   exact fun i hi=>key (rk i+1) i (by omega) hi
  ·obtain⟨h0,o,ho,hall⟩:=mem_ready.1 hi
   have hlt:i<ops.size:=(Array.getElem?_eq_some_iff.1 ho).1;have hl':ops.toList[i]?=some o:=by simpa using ho
   have hKn:KnownV ops φ a0 i o a w:=⟨fun t ht=>hk t (fun j oj hoj hdj=>by
    have hdep:=later_spec ht j oj hoj hdj;cases hl:listed.getD j false with
    | false=>rfl
    | true =>
     have:=dep_listed (fun j o h1 h2=>(hp j o h1 h2).2) _ _ _ hdep hl;rw[getD_both h0]at this;cases this),fun e he hb oj hj=>(hp e.on oj (by have:=hall e he hb;simpa using this) hj).1⟩
   have h8:listed.getD i false=false:=getD_both h0;have hst2:=hst.at_ i o hl';rw[Nat.zero_add]at hst2;have hpick:Region.wanted o (yielded ops a.tmps)=true/\StepT P ops Q (fun w'=>((listed.setIfInBounds i true).getD st false=false->C w')/\((listed.setIfInBounds i true).getD st false=true->D w')) φ R i o a w:=by
    by_cases e:i=st
    ·have hc1:=hC.1 (by rw[<- e];exact h8)
     obtain⟨hw,h1⟩:=hst2.1 a w hc1 hs hKn;refine⟨hw,stepT_mono (fun w' h=>⟨fun h9=>?_,fun _=>?_⟩) h1⟩
     ·rw[e,getD_set_same (by omega)]at h9;cases h9
     ·unfold pst at h
      rw[show Nat.beq i st=true from by rw[e];exact Nat.beq_refl st]at h;exact h
    ·have hne:Nat.beq i st=false:=by
      cases hb:Nat.beq i st with
      | false=>rfl
      | true=>exact absurd (Nat.eq_of_beq_eq_true hb) e
     cases hll:listed.getD st false with
     | false =>
      obtain⟨hw,h1⟩:=hst2.1 a w (hC.1 hll) hs hKn;refine⟨hw,stepT_mono (fun w' h=>⟨fun _=>?_,fun h9=>?_⟩) h1⟩
      ·unfold pst at h;rw[hne]at h;exact h
      ·rw[getD_set_ne false e,hll]at h9;cases h9
     | true =>
      rcases hst2.2 with h2 | h2 | h2
      ·have:=dep_listed (fun j o h1 h2=>(hp j o h1 h2).2) _ _ _ h2 hll
       rw[h8]at this;cases this
      ·exact absurd h2 e
      ·obtain⟨hw,h1⟩:=h2 a w (hC.2 hll) hs hKn
       refine⟨hw,stepT_mono (fun w' h=>⟨fun h9=>?_,fun _=>h⟩) h1⟩;rw[getD_set_ne false e,hll]at h9;cases h9
   obtain⟨hwant,hstep⟩:=hpick;have go:∀(v:Value) (w':World),(((listed.setIfInBounds i true).getD st false=false->C w')/\((listed.setIfInBounds i true).getD st false=true->D w'))->φ i (slots (a.put o.dst v)) w'->(∀ j u,φ j u w->φ j u w')->wpAny P .any ops Q fuel (listed.setIfInBounds i true) (a.put o.dst v) w':=by
    intro v w' hC' hv hm;refine ih _ _ _ (by simpa using hsz) ?_ hC' (by rw[put_size];exact hs) (by rw[put_defers];exact hd) ?_ ?_
    ·have hil:i<listed.size:=by omega
     have e0:listed[i]=false:=by simpa[hil]using h0
     rw[Array.toList_setIfInBounds,List.count_set (by simpa using hil)];have:listed.toList[i]'(by simpa using hil)=false:=by simpa using e0
     simp only[this];simp;have hpos:0<listed.toList.count false:=List.count_pos_iff.2 (by rw[<- e0];simp);simp at hpos;simp at hc;omega
    ·intro t ht
     have hne:o.dst≠some t:=fun e=>by
      have h1:=ht i o ho e;rw[getD_set_same (by omega)]at h1;cases h1
     rw[put_other _ _ _ _ hne];refine hk t (fun j oj hoj hdj=>?_);have h1:=ht j oj hoj hdj;by_cases q:i=j
     ·subst q;rw[getD_set_same (by omega)]at h1;cases h1
     ·rwa [getD_set_ne false q]at h1
    ·intro j oj hj hoj
     by_cases e:i=j
     ·subst e
      have:oj=o:=Option.some.inj (hoj.symm.trans ho);subst this;refine⟨hv,fun e he hb=>?_⟩;have h1:=hall e he hb;by_cases q:i=e.on
      ·rw[<- q];exact getD_set_same (by omega)
      ·rw[getD_set_ne false q];simpa using h1
     ·rw[getD_set_ne false e]at hj
      obtain⟨h1,h2⟩:=hp j oj hj hoj;refine⟨hm _ _ (hrd j _ _ w (fun t ht=>?_) h1),fun e' he hb=>?_⟩
      ·have hne:o.dst≠some t:=fun hd'=>by
        rcases own_spec hown hoj ht with h3 | h3 | ⟨e',he,hb,ok,hok,hkd⟩
        ·exact distinct_spec hdist i j o oj t hl' (by simpa using hoj) e hd' h3
        ·simp only[isDst,List.any_eq_false]at h3
         exact h3 o (List.mem_of_getElem? hl') (by simp[hd'])
        ·have h4:=h2 e' he hb
         have h5:i≠e'.on:=fun q=>by rw[<- q,getD_both h0]at h4;cases h4
         exact distinct_spec hdist i e'.on o ok t hl' (by simpa using hok) h5 hd' hkd
       exact(put_other _ _ _ _ hne).symm
      ·by_cases q:i=e'.on
       ·rw[<- q];exact getD_set_same (by omega)
       ·rw[getD_set_ne false q];exact h2 e' he hb
   unfold wpOp;rw[ho];simp only;unfold StepT at hstep
   split
   ·rename_i hw
    rw[if_pos hw]at hstep;refine .inl (Oper.wp_mono ?_ hstep);rintro a' w' ⟨v,rfl,hC',hv,hR⟩;exact go v w' hC' hv (fun j u h=>hφ j u w w' hR h)
   ·rename_i hw
    exact absurd hwant hw
theorem region_tieS{id:Nat}{l:List Oper}{w:World}(C D:World->Prop)(st:Nat)(φ:Nat->(Nat->Value)->World->Prop)(R:World->World->Prop)(rd:Nat->List Nat)(rk:Nat->Nat)(hm:P.follows .mixedOrders=true)
  (hB:(distinctB l&&rankB l.toArray rk&&ownB l.toArray rd&&insideB l.toArray)=true) (hst0:decide (st<l.length)=true) (hC:C w.drew)
  (hrd:∀ i s s' w,(∀ t∈rd i,s t=s' t)->φ i s w->φ i s' w) (hφ:∀ i v w w',R w w'->φ i v w->φ i v w') (hst:StepsTS P l.toArray Q C D st φ R a0 0 l)
  (hQ:∀(f:Oper->Value) w,D w->(∀ i o,l[i]?=some o->φ i (slots (putAll f l a0)) w)->Q .normal (putAll f l a0) w):(Code.region id l.toArray true).wp P Q a0 w:=by
 simp only[Bool.and_eq_true]at hB;refine wp_region_any hm (wpAny_tieS (C:=C) (D:=D) st (by simpa using hst0) (φ:=φ) (R:=R) (a0:=a0) rd rk hB.1.1.1 hB.1.1.2 (inside_spec hB.2) hB.1.2 hrd hφ hst (fun f w hC h=>hQ f w hC (fun i o ho=>h i o (by simpa using ho))) _ _ _ w.drew (by simp) (by simp) ⟨fun _=>hC,fun h=>?_⟩ rfl rfl (fun _ _=>rfl) ?_)
 ·have h0:=of_decide_eq_true hst0
  simp[h0]at h
 intro i o hi;simp at hi;rcases Nat.lt_or_ge i l.length with h | h
 ·simp[h]at hi
 ·simp[Nat.not_lt.2 h]at hi
end
open Go
section
variable {P:Program} {ops:Array Oper} {md:Region.Mode} {C:World->Prop}
def anyHead(P:Program)(md:Region.Mode)(ops:Array Oper)(C:World->Prop)(n:Nat)(L:Array Bool->Act->Prop):Nat->Array Bool->Act->Prop
 | 0,listed,a=>L listed a
 | f+1,listed,a=>Region.ready md ops listed≠[]/\∀ i∈Region.ready md ops listed,i<n/\qOp P ops C i (anyHead P md ops C n L f (listed.setIfInBounds i true)) a
theorem any_of_head{n g:Nat}{L:Array Bool->Act->Prop}{Q':Exit->Act->World->Prop}(hL:∀ listed a w,C w->L listed a->wpAny P md ops Q' g listed a w) :
  ∀(f:Nat) (listed:Array Bool) (a:Act) (w:World),C w->anyHead P md ops C n L f listed a->wpAny P md ops Q' (f+g) listed a w
 | 0,listed,a,w,hw,h=>by rw[Nat.zero_add];exact hL _ _ _ hw h
 | f+1,listed,a,w,hw,h=>by
  rw[show f+1+g=(f+g)+1 by omega];exact⟨fun h0=>absurd h0 h.1,fun i hi=>wpOp_of_qOp hw (fun a' w' hw' h'=>any_of_head hL f _ a' w' hw' h') (h.2 i hi).2⟩
theorem head_first{n i:Nat}{oi:Oper}{v:Value}{L:Array Bool->Act->Prop}(hi:ops[i]?=some oi)(hsel:∀(j:Nat) (o:Oper) cs b,ops[j]?=some o->o.op≠.select cs b)
  (hs:Region.sinkB md ops n=true) (hc:Region.chainB md ops n=true) (hn:n<ops.size) (hin:i<n)
  (hdone:∀ listed a,L listed a->∀ j∈Region.ready md ops listed,n<=j) :
  ∀(f:Nat) (listed:Array Bool) (a:Act),HeadInv md ops n listed ->
   (∀ j oj,ops[j]?=some oj->j≠i->listed.getD j true=false->(∀ e∈oj.after,Region.binds md e=true->e.on≠i)->oi.apart ops oj=true) ->
   i∈Region.ready md ops listed->YieldsIn P ops C oi v a ->
   anyHead P md ops C n L f (listed.setIfInBounds i true) (a.put oi.dst v)->anyHead P md ops C n L (f+1) listed a:=by
 intro f
 induction f with
 | zero =>
  intro listed a inv _ hr hy H;have hun:=(mem_ready.1 hr).1;refine⟨fun h=>(by rw[h]at hr;cases hr),fun j hj=>?_⟩;have hjn:j<n:=by
   rcases Nat.lt_or_ge j n with h | h
   ·exact h
   ·exact absurd hj (tail_waits hs hc hn inv _ i rfl hin hun j h)
  refine⟨hjn,?_⟩;by_cases hji:j=i
  ·subst hji;exact hy.qOp hi H
  ·have:=hdone _ _ H j (ready_mono hj hji)
   omega
 | succ f ih =>
  intro listed a inv hfree hr hy H;have hun:=(mem_ready.1 hr).1;refine⟨fun h=>(by rw[h]at hr;cases hr),fun j hj=>?_⟩;have hjn:j<n:=by
   rcases Nat.lt_or_ge j n with h | h
   ·exact h
   ·exact absurd hj (tail_waits hs hc hn inv _ i rfl hin hun j h)
  refine⟨hjn,?_⟩;by_cases hji:j=i
  ·subst hji;exact hy.qOp hi H
  ·have h1:=(H.2 j (ready_mono hj hji)).2
   obtain⟨hjun,oj,hoj,hall⟩:=mem_ready.1 hj;have hnot:∀ e∈oj.after,Region.binds md e=true->e.on≠i:=fun e he hb heq=>by
    have h1:=hall e he hb;rw[heq,getD_both hun]at h1;cases h1
   have h2:=qOp_put hoj (hfree j oj hoj hji hjun hnot) (fun cs b=>hsel i oi cs b hi) (fun cs b=>hsel j oj cs b hoj) hy h1;have hfree':∀ k ok,ops[k]?=some ok->k≠i->(listed.setIfInBounds j true).getD k true=false ->
     (∀ e∈ok.after,Region.binds md e=true->e.on≠i)->oi.apart ops ok=true:=fun k ok hk hki hun hno=>by
    refine hfree k ok hk hki ?_ hno;by_cases hjk:j=k
    ·subst hjk;exact hjun
    ·rw[getD_set_ne true hjk]at hun;exact hun
   refine qOp_mono (fun a' h3=>ih (listed.setIfInBounds j true) a' (inv.set hj hjn) hfree' (ready_mono hr (Ne.symm hji)) h3.1 ?_) h2;rw[Array.setIfInBounds_comm _ _ hji];exact h3.2
theorem head_lex{n g:Nat}{Lq:Act->Prop}(hsel:Region.noSelect ops=true)(hs:Region.sinkB md ops n=true)(hc:Region.chainB md ops n=true)(hn:n<ops.size) :
  ∀(l:List Oper) (k:Nat) (listed:Array Bool) (a:Act),(∀ j,j<l.length->l[j]?=ops[k+j]?)->k+l.length=n->HeadInv md ops n listed ->
  Region.lexHead md ops g l.length k listed=true->wpQuiet P ops C Lq l a ->
  anyHead P md ops C n (fun listed' a'=>Region.seqB md ops g n listed'=true/\Lq a') l.length listed a
 | [],k,listed,a,_,hk,_,hB,h=>by
  have:k=n:=by simpa using hk
  subst this;exact⟨by simpa[Region.lexHead]using hB,h⟩
 | o::l,k,listed,a,hl,hk,inv,hB,h=>by
  have h0:ops[k]?=some o:=by simpa using(hl 0 (by simp)).symm
  simp only[List.length_cons,Region.lexHead,Bool.and_eq_true]at hB;obtain⟨⟨hr,hf⟩,hB'⟩:=hB;have hkn:k<n:=by simp only[List.length_cons]at hk;omega
  have hr':k∈Region.ready md ops listed:=by simpa using hr
  have hst:qOp P ops C k (wpQuiet P ops C Lq l) a:=by unfold qOp;simp only[h0];exact h
  obtain⟨v,hy,hK⟩:=yieldsIn_of_qOp h0 hst;exact head_first h0 (Region.noSelect_spec hsel) hs hc hn hkn (fun listed' a' hL=>seqB_ready hL.1) l.length listed a inv (Region.free_spec h0 hf) hr' hy
   (head_lex hsel hs hc hn l (k+1) _ _ (fun j hj=>by have:=hl (j+1) (by simp;omega);simpa[Nat.add_assoc,Nat.add_comm 1 j]using this) (by simp only[List.length_cons]at hk;omega) (inv.set hr' hkn) hB' hK)
theorem region_quiet_tail{id:Nat}{Q:Exit->Act->World->Prop}{a:Act}{w:World}{l:List Oper}(n:Nat)(C:World->Prop)(hm:P.follows .mixedOrders=true)(hB:Region.lexTailB .any l.toArray n=true)(hC:C w.drew)
  (h:wpQuiet P l.toArray C (fun a'=>∀ w',C w'->wpList P l.toArray Q (l.drop n) a' w') (l.take n) a):(Code.region id l.toArray true).wp P Q a w:=by
 simp only[Region.lexTailB,Bool.and_eq_true,decide_eq_true_eq]at hB;obtain⟨⟨⟨⟨hsel,hn⟩,hs⟩,hc⟩,hlex⟩:=hB;have hn':n<l.length:=by simpa using hn
 have htl:(l.take n).length=n:=by simp;omega
 have hdl:(l.drop n).length=l.toArray.size - n:=by simp
 have inv0:HeadInv .any l.toArray n (Array.replicate l.toArray.size false) :=
  ⟨by simp,fun j oj _ hl=>(by rw[getD_replicate_false]at hl;cases hl),fun t _ ht=>getD_in (by simpa using ht) (getD_replicate_false _ _)⟩
 have H:=head_lex (md:=.any) (g:=l.toArray.size - n) hsel hs hc hn (l.take n) 0 _ a (fun j hj=>by
  have hj':j<n:=by rw[htl]at hj;exact hj
  simp[hj']) (by simpa using htl) inv0 (by rw[htl];exact hlex) h
 refine wp_region_any hm ?_;have:=any_of_head (Q':=Q) (g:=l.toArray.size - n) (fun listed a' w' hw' hL=>by
  have:=wpAny_of_seq (md:=.any) (Q':=Q) (l.drop n) n listed a' w' (fun j=>by simp[List.getElem?_drop]) (by rw[hdl];exact hL.1) (hL.2 w' hw');rwa [hdl]at this) _ _ _ w.drew hC H
 rw[htl,show n+(l.toArray.size - n)=l.toArray.size by omega]at this;exact this
end
open Go.RowKit
section
variable {P:Program} {ops:Array Oper} {C:World->Prop} {Q:Act->Prop} {a:Act} {o:Oper} {rest:List Oper}
theorem q_skip(hw:Region.wanted o (yielded ops a.tmps)=false)(h:wpQuiet P ops C Q rest (a.put o.dst undef)):wpQuiet P ops C Q (o::rest) a :=
 wpQuiet_step fun K hK=>by rw[if_neg (by rw[hw];exact Bool.false_ne_true)];exact hK _ h
theorem q_step(v:Value)(hw:Region.wanted o (yielded ops a.tmps)=true)(hv:∀ w,C w->o.quietAt P a C w v)(h:wpQuiet P ops C Q rest (a.put o.dst v)):wpQuiet P ops C Q (o::rest) a :=
 wpQuiet_step fun K hK=>by rw[if_pos hw];exact⟨v,hv,hK _ h⟩
theorem q_val(v:Value)(hw:Region.wanted o (yielded ops a.tmps)=true)(hv:∀ w,C w->(execOp a.eval o).run P w=.ok (.value v) w)(h:wpQuiet P ops C Q rest (a.put o.dst v)):wpQuiet P ops C Q (o::rest) a :=
 q_step v hw (fun w hC=>by unfold Oper.quietAt;rw[hv w hC];exact⟨rfl,rfl⟩) h
theorem q_load(T:TypeId)(x:Operand)(p v:Value)(ho:o.op=.load T x)(hw:Region.wanted o (yielded ops a.tmps)=true)(hp:a.eval x=p)
  (hv:∀ w,C w->(Instr.loadAt T p).run P w=.ok v w) (h:wpQuiet P ops C Q rest (a.put o.dst v)):wpQuiet P ops C Q (o::rest) a :=
 q_val v hw (fun w hC=>by
  unfold execOp;rw[ho];simp only[hp,Sem.run_bind,hv w hC,Result.andThen_ok,Sem.run_pure]) h
theorem q_call(f:FuncId)(args:Array Value)(v:Value)(hw:Region.wanted o (yielded ops a.tmps)=true)(he:∀ w,(execOp a.eval o).run P w=.ok (.enter f args) w)
  (hv:∀ w,C w->Calls P f args w fun e w'=>e=.returned v/\C w') (h:wpQuiet P ops C Q rest (a.put o.dst v)):wpQuiet P ops C Q (o::rest) a :=
 q_step v hw (fun w hC=>by unfold Oper.quietAt;rw[he w];exact⟨rfl,hv w hC⟩) h
theorem q_bin(op:BinOp)(T:TypeId)(x y:Operand)(t:TypeId)(u v r:Value)(ho:o.op=.binOp op T x y t)(hw:Region.wanted o (yielded ops a.tmps)=true)(hx:a.eval x=u)(hy:a.eval y=v)
  (hg:∀ w,(eqGuard op T x y u v).run P w=.ok () w) (hb:∀ w,(binOp op T u v).run P w=.ok r w) (h:wpQuiet P ops C Q rest (a.put o.dst r)):wpQuiet P ops C Q (o::rest) a :=
 q_val r hw (fun w hC=>by
  unfold execOp;rw[ho];simp only[hx,hy,Sem.run_bind,hg w,hb w,Result.andThen_ok,Sem.run_pure]) h
end
end Go.Proofs.YtadfjjfklihaaaaGreat
namespace Go.Proofs
open Go.Shelf
def Tryz.lays134_ren:Go.Shelf.Ren:=⟨fun | 134=>146 | 129=>135 | n=>n,fun | 53=>22 | 3=>3 | 4=>4 | 46=>123 | 5=>5 | 9=>9 | n=>n,fun | n=>n⟩
theorem Tryz.lays134:Go.Proofs.Lays.n134 Tryz.prog Tryz.lays134_ren:={
 mixed:=by kernel_rfl
 f129:=Tryz.func135.trans (congrArg some (by kernel_rfl))
 f134:=Tryz.func146.trans (congrArg some (by kernel_rfl))
 t3:=Tryz.underlying3
 a3:=Tryz.isAgg3
 z3:=Tryz.sizeOf3
 v3:=Tryz.zeroValue3
 t4:=Tryz.underlying4
 a4:=Tryz.isAgg4
 z4:=Tryz.sizeOf4
 v4:=Tryz.zeroValue4
 t5:=Tryz.underlying5
 a5:=Tryz.isAgg5
 z5:=Tryz.sizeOf5
 v5:=Tryz.zeroValue5
 t9:=Tryz.underlying9
 a9:=Tryz.isAgg9
 z9:=Tryz.sizeOf9
 v9:=Tryz.zeroValue9
 t46:=Tryz.underlying123
 a46:=Tryz.isAgg123
 z46:=Tryz.sizeOf123
 v46:=Tryz.zeroValue123
 t53:=Tryz.underlying22
 a53:=Tryz.isAgg22
 z53:=Tryz.sizeOf22
 v53:=Tryz.zeroValue22 }
theorem Tryz.bits_LeadingZeros64(x:Int)(w:World)(h0:0<=x)(h1:x<=18446744073709551615) :
  Calls Tryz.prog 146 #[.int .u64 x] w fun e w'=>e=.returned (.int .i64 (64 - (Lib.bitLen x.toNat:Int)))/\w'=w:=Any.bits_LeadingZeros64 Tryz.lays134 x w h0 h1
def Tryz.lays129_ren:Go.Shelf.Ren:=⟨fun | 129=>135 | n=>n,fun | 53=>22 | 3=>3 | 4=>4 | 46=>123 | 5=>5 | 9=>9 | n=>n,fun | n=>n⟩
theorem Tryz.lays129:Go.Proofs.Lays.n129 Tryz.prog Tryz.lays129_ren:={
 mixed:=by kernel_rfl
 f129:=Tryz.func135.trans (congrArg some (by kernel_rfl))
 t3:=Tryz.underlying3
 a3:=Tryz.isAgg3
 z3:=Tryz.sizeOf3
 v3:=Tryz.zeroValue3
 t4:=Tryz.underlying4
 a4:=Tryz.isAgg4
 z4:=Tryz.sizeOf4
 v4:=Tryz.zeroValue4
 t5:=Tryz.underlying5
 a5:=Tryz.isAgg5
 z5:=Tryz.sizeOf5
 v5:=Tryz.zeroValue5
 t9:=Tryz.underlying9
 a9:=Tryz.isAgg9
 z9:=Tryz.sizeOf9
 v9:=Tryz.zeroValue9
 t46:=Tryz.underlying123
 a46:=Tryz.isAgg123
 z46:=Tryz.sizeOf123
 v46:=Tryz.zeroValue123
 t53:=Tryz.underlying22
 a53:=Tryz.isAgg22
 z53:=Tryz.sizeOf22
 v53:=Tryz.zeroValue22 }
theorem Tryz.bits_Len64(x:Int)(w:World)(h0:0<=x)(h1:x<=18446744073709551615) :
  Calls Tryz.prog 135 #[.int .u64 x] w fun e w'=>e=.returned (.int .i64 (Lib.bitLen x.toNat))/\w'=w:=Any.bits_Len64 Tryz.lays129 x w h0 h1
def Tryz.lays264_ren:Go.Shelf.Ren:=⟨fun | 264=>152 | n=>n,fun | 53=>22 | 46=>123 | n=>n,fun | n=>n⟩
theorem Tryz.lays264:Go.Proofs.Lays.n264 Tryz.prog Tryz.lays264_ren:={
 mixed:=by kernel_rfl
 f264:=Tryz.func152.trans (congrArg some (by kernel_rfl))
 t46:=Tryz.underlying123
 a46:=Tryz.isAgg123
 z46:=Tryz.sizeOf123
 v46:=Tryz.zeroValue123
 t53:=Tryz.underlying22
 a53:=Tryz.isAgg22
 z53:=Tryz.sizeOf22
 v53:=Tryz.zeroValue22 }
open Go.RowKit Go.Lib in
theorem Tryz.bits_Mul64(x y:Nat)(hx:x<18446744073709551616)(hy:y<18446744073709551616)(w:World) :
  Calls Tryz.prog 152 #[.int .u64 x,.int .u64 y] w fun e w'=>e=.returned (.tuple #[.int .u64 ((x*y / 18446744073709551616:Nat):Int),.int .u64 ((x*y%18446744073709551616:Nat):Int)])/\w'=w:=Any.bits_Mul64 Tryz.lays264 x y hx hy w
end Go.Proofs
namespace Go.Proofs.YtadfjjfklihaaaaGreat
open Go.RowKit
def wv(x:Nat):Value:=.agg #[.int .u64 ((x%18446744073709551616:Nat):Int),.int .u64 ((x / 18446744073709551616%18446744073709551616:Nat):Int),.int .u64 ((x / 340282366920938463463374607431768211456%18446744073709551616:Nat):Int),.int .u64 ((x / 6277101735386680763835789423207666416102355444464034512896%18446744073709551616:Nat):Int)]
def n4(a0 a1 a2 a3:Nat):Nat:=a0+18446744073709551616*a1+340282366920938463463374607431768211456*a2+6277101735386680763835789423207666416102355444464034512896*a3
theorem wv_n4{a0 a1 a2 a3:Nat}(h0:a0<18446744073709551616)(h1:a1<18446744073709551616)(h2:a2<18446744073709551616)(h3:a3<18446744073709551616) :
  wv (n4 a0 a1 a2 a3)=.agg #[.int .u64 a0,.int .u64 a1,.int .u64 a2,.int .u64 a3]:=by
 unfold wv n4;have e0:(a0+18446744073709551616*a1+340282366920938463463374607431768211456*a2+6277101735386680763835789423207666416102355444464034512896*a3)%18446744073709551616=a0:=by omega
 have e1:(a0+18446744073709551616*a1+340282366920938463463374607431768211456*a2+6277101735386680763835789423207666416102355444464034512896*a3) / 18446744073709551616%18446744073709551616=a1:=by omega
 have e2:(a0+18446744073709551616*a1+340282366920938463463374607431768211456*a2+6277101735386680763835789423207666416102355444464034512896*a3) / 340282366920938463463374607431768211456%18446744073709551616=a2:=by omega
 have e3:(a0+18446744073709551616*a1+340282366920938463463374607431768211456*a2+6277101735386680763835789423207666416102355444464034512896*a3) / 6277101735386680763835789423207666416102355444464034512896%18446744073709551616=a3:=by omega
 rw[e0,e1,e2,e3]
theorem wv_parts(x:Nat):∃ a0 a1 a2 a3:Nat,a0<18446744073709551616/\a1<18446744073709551616/\a2<18446744073709551616/\a3<18446744073709551616 /\
  wv x=.agg #[.int .u64 a0,.int .u64 a1,.int .u64 a2,.int .u64 a3]/\n4 a0 a1 a2 a3=x%2^256 :=
 ⟨_,_,_,_,by omega,by omega,by omega,by omega,rfl,by unfold n4;omega⟩
theorem wv_congr{x y:Nat}(h:x%2^256=y%2^256):wv x=wv y:=by
 unfold wv;have e0:x%18446744073709551616=y%18446744073709551616:=by omega
 have e1:x / 18446744073709551616%18446744073709551616=y / 18446744073709551616%18446744073709551616:=by omega
 have e2:x / 340282366920938463463374607431768211456%18446744073709551616=y / 340282366920938463463374607431768211456%18446744073709551616:=by omega
 have e3:x / 6277101735386680763835789423207666416102355444464034512896%18446744073709551616=y / 6277101735386680763835789423207666416102355444464034512896%18446744073709551616:=by omega
 rw[e0,e1,e2,e3]
theorem n4_lt{a0 a1 a2 a3:Nat}(h0:a0<18446744073709551616)(h1:a1<18446744073709551616)(h2:a2<18446744073709551616)(h3:a3<18446744073709551616) :
  n4 a0 a1 a2 a3<2^256:=by unfold n4;omega
theorem after4{w W w1:World}{B:Nat}(b:Nat)(hb:Below W.heap.size W w1)(h0:Below B w W)(hB0:B<=W.heap.size)(hB:b<W.heap.size)
  (c0:W.cell? ⟨b,0,none⟩=some (.int .u64 0)) (c1:W.cell? ⟨b,1,none⟩=some (.int .u64 0)) (c2:W.cell? ⟨b,2,none⟩=some (.int .u64 0)) (c3:W.cell? ⟨b,3,none⟩=some (.int .u64 0))
  (f0:W.frozen? ⟨b,0,none⟩=false) (f1:W.frozen? ⟨b,1,none⟩=false) (f2:W.frozen? ⟨b,2,none⟩=false) (f3:W.frozen? ⟨b,3,none⟩=false) :
  (w1.cell? ⟨b,0,none⟩=some (.int .u64 0)/\w1.cell? ⟨b,1,none⟩=some (.int .u64 0)/\w1.cell? ⟨b,2,none⟩=some (.int .u64 0)/\w1.cell? ⟨b,3,none⟩=some (.int .u64 0)) /\
  (w1.frozen? ⟨b,0,none⟩=false/\w1.frozen? ⟨b,1,none⟩=false/\w1.frozen? ⟨b,2,none⟩=false/\w1.frozen? ⟨b,3,none⟩=false)/\b<w1.heap.size/\Below B w w1 :=
 ⟨⟨(hb.cell hB).trans c0,(hb.cell hB).trans c1,(hb.cell hB).trans c2,(hb.cell hB).trans c3⟩,⟨(hb.frozen hB).trans f0,(hb.frozen hB).trans f1,(hb.frozen hB).trans f2,(hb.frozen hB).trans f3⟩,Nat.lt_of_lt_of_le hB hb.size,h0.trans (hb.mono hB0)⟩
theorem after1{W w1:World}{b i:Nat}{v:Value}(hb:Below W.heap.size W w1)(hB:b<W.heap.size)(c0:W.cell? ⟨b,i,none⟩=some v)(f0:W.frozen? ⟨b,i,none⟩=false) :
  w1.cell? ⟨b,i,none⟩=some v/\w1.frozen? ⟨b,i,none⟩=false/\b<w1.heap.size :=
 ⟨(hb.cell hB).trans c0,(hb.frozen hB).trans f0,Nat.lt_of_lt_of_le hB hb.size⟩
open Go.RowKit
def sub64E:Array Value->Sem Value:=fun args=>do
 let (x, y, b) ← Extern.MathBitsCarry.three "Sub64" args
 pure (Extern.MathBitsCarry.pair ((x+Extern.MathBitsCarry.m64 - y - b)%Extern.MathBitsCarry.m64) (if x<y+b then 1 else 0))
theorem run_sub64E(x y b:Nat)(hb:b<=1)(w:World) :
  (sub64E #[.int .u64 x,.int .u64 y,.int .u64 b]).run Tryz.prog w =
   .ok (.tuple #[.int .u64 (((x+18446744073709551616 - y - b)%18446744073709551616:Nat):Int),.int .u64 ((if x<y+b then 1 else 0:Nat):Int)]) w:=by
 have:b=0\/b=1:=by omega
 rcases this with rfl | rfl <;> rfl
theorem add64_run(x y c:Nat)(hc:c<=1)(w:World) :
  (callFunc 133 #[.int .u64 x,.int .u64 y,.int .u64 c]).run Tryz.prog w =
   .ok (.value (.tuple #[.int .u64 (((x+y+c)%18446744073709551616:Nat):Int),.int .u64 (((x+y+c) / 18446744073709551616:Nat):Int)])) w:=by
 rw[run_callFunc_extern Tryz.func133 (by kernel_rfl) (by kernel_rfl) (by kernel_rfl) (e:=add64Entry) (by kernel_rfl),run_add64 x y c (by omega) (by omega) (by omega) (by omega)];simp only[Result.andThen];congr 5 <;> omega
theorem sub64_run(x y b:Nat)(hb:b<=1)(w:World) :
  (callFunc 131 #[.int .u64 x,.int .u64 y,.int .u64 b]).run Tryz.prog w =
   .ok (.value (.tuple #[.int .u64 (((x+18446744073709551616 - y - b)%18446744073709551616:Nat):Int),.int .u64 ((if x<y+b then 1 else 0:Nat):Int)])) w:=by
 rw[run_callFunc_extern Tryz.func131 (by kernel_rfl) (by kernel_rfl) (by kernel_rfl) (e:=sub64E) (by kernel_rfl),run_sub64E x y b hb];rfl
theorem add64_ex(x y c:Nat)(hx:x<18446744073709551616)(hy:y<18446744073709551616)(hc:c<=1) :
  ∃ s d:Nat,d<=1/\s<18446744073709551616/\s+18446744073709551616*d=x+y+c /\
  ∀ w,(callFunc 133 #[.int .u64 x,.int .u64 y,.int .u64 c]).run Tryz.prog w=.ok (.value (.tuple #[.int .u64 s,.int .u64 d])) w :=
 ⟨_,_,by omega,by omega,by omega,fun w=>add64_run x y c hc w⟩
theorem add64_ex0(x y:Nat)(hx:x<18446744073709551616)(hy:y<18446744073709551616) :
  ∃ s d:Nat,d<=1/\s<18446744073709551616/\s+18446744073709551616*d=x+y /\
  ∀ w,(callFunc 133 #[.int .u64 x,.int .u64 y,.int .u64 0]).run Tryz.prog w=.ok (.value (.tuple #[.int .u64 s,.int .u64 d])) w :=
 add64_ex x y 0 hx hy (by omega)
theorem sub64_ex(x y b:Nat)(hx:x<18446744073709551616)(hy:y<18446744073709551616)(hb:b<=1) :
  ∃ s d:Nat,d<=1/\s<18446744073709551616/\s+y+b=x+18446744073709551616*d /\
  ∀ w,(callFunc 131 #[.int .u64 x,.int .u64 y,.int .u64 b]).run Tryz.prog w=.ok (.value (.tuple #[.int .u64 s,.int .u64 d])) w:=by
 refine⟨_,_,?_,?_,?_,fun w=>sub64_run x y b hb w⟩
 ·split <;> omega
 ·omega
 ·split <;> omega
theorem sub64_ex0(x y:Nat)(hx:x<18446744073709551616)(hy:y<18446744073709551616) :
  ∃ s d:Nat,d<=1/\s<18446744073709551616/\s+y=x+18446744073709551616*d /\
  ∀ w,(callFunc 131 #[.int .u64 x,.int .u64 y,.int .u64 0]).run Tryz.prog w=.ok (.value (.tuple #[.int .u64 s,.int .u64 d])) w :=
 sub64_ex x y 0 hx hy (by omega)
theorem addCarry_walk(a0 a1 a2 a3 b0 b1 b2 b3 s0 c1 s1 c2 s2 c3 s3 c4:Nat)(w:World)
 (h0:∀ w,(callFunc 133 #[.int .u64 a0,.int .u64 b0,.int .u64 0]).run Tryz.prog w=.ok (.value (.tuple #[.int .u64 s0,.int .u64 c1])) w)
 (h1:∀ w,(callFunc 133 #[.int .u64 a1,.int .u64 b1,.int .u64 c1]).run Tryz.prog w=.ok (.value (.tuple #[.int .u64 s1,.int .u64 c2])) w)
 (h2:∀ w,(callFunc 133 #[.int .u64 a2,.int .u64 b2,.int .u64 c2]).run Tryz.prog w=.ok (.value (.tuple #[.int .u64 s2,.int .u64 c3])) w)
 (h3:∀ w,(callFunc 133 #[.int .u64 a3,.int .u64 b3,.int .u64 c3]).run Tryz.prog w=.ok (.value (.tuple #[.int .u64 s3,.int .u64 c4])) w) :
  Calls Tryz.prog 129 #[.agg #[.int .u64 a0,.int .u64 a1,.int .u64 a2,.int .u64 a3],.agg #[.int .u64 b0,.int .u64 b1,.int .u64 b2,.int .u64 b3]] w fun e w' =>
   e=.returned (.tuple #[.agg #[.int .u64 s0,.int .u64 s1,.int .u64 s2,.int .u64 s3],.int .u64 c4])/\Below w.heap.size w w':=by
 go_enter Tryz.func129,Tryz.ntmps129;go_wp2;refine wp_loop_rounds 5 ?_
 iterate 4 (rw[rounds_succ];go_wp2;go_region;go_wp2)
 rw[rounds_succ];go_wp2
 go_returns
 exact⟨rfl,by go_grown⟩
theorem addCarry_any(x y:Nat)(w:World) :
  Calls Tryz.prog 129 #[wv x,wv y] w fun e w' =>
   e=.returned (.tuple #[wv (x+y),.int .u64 (((x%2^256+y%2^256) / 2^256:Nat):Int)])/\Below w.heap.size w w':=by
 obtain⟨a0,a1,a2,a3,u0,u1,u2,u3,ea,na⟩:=wv_parts x;obtain⟨b0,b1,b2,b3,v0,v1,v2,v3,eb,nb⟩:=wv_parts y;obtain⟨s0,c1,k1,l0,e0,h0⟩:=add64_ex0 a0 b0 u0 v0;obtain⟨s1,c2,k2,l1,e1,h1⟩:=add64_ex a1 b1 c1 u1 v1 k1;obtain⟨s2,c3,k3,l2,e2,h2⟩:=add64_ex a2 b2 c2 u2 v2 k2;obtain⟨s3,c4,k4,l3,e3,h3⟩:=add64_ex a3 b3 c3 u3 v3 k3;have hs:n4 s0 s1 s2 s3+2^256*c4=x%2^256+y%2^256:=by rw[<- na,<- nb];unfold n4;omega
 have hl:=n4_lt l0 l1 l2 l3;rw[ea,eb];refine(addCarry_walk a0 a1 a2 a3 b0 b1 b2 b3 s0 c1 s1 c2 s2 c3 s3 c4 w h0 h1 h2 h3).mono fun e w' ⟨he,hb⟩=>⟨?_,hb⟩
 rw[he,<- hs,<- wv_n4 l0 l1 l2 l3];rw[wv_congr (x:=n4 s0 s1 s2 s3) (y:=x+y) (by omega)];rw[show(n4 s0 s1 s2 s3+2^256*c4) / 2^256=c4 by omega]
theorem sub_walk(a0 a1 a2 a3 b0 b1 b2 b3 s0 c1 s1 c2 s2 c3 s3 c4:Nat)(w:World)
 (h0:∀ w,(callFunc 131 #[.int .u64 a0,.int .u64 b0,.int .u64 0]).run Tryz.prog w=.ok (.value (.tuple #[.int .u64 s0,.int .u64 c1])) w)
 (h1:∀ w,(callFunc 131 #[.int .u64 a1,.int .u64 b1,.int .u64 c1]).run Tryz.prog w=.ok (.value (.tuple #[.int .u64 s1,.int .u64 c2])) w)
 (h2:∀ w,(callFunc 131 #[.int .u64 a2,.int .u64 b2,.int .u64 c2]).run Tryz.prog w=.ok (.value (.tuple #[.int .u64 s2,.int .u64 c3])) w)
 (h3:∀ w,(callFunc 131 #[.int .u64 a3,.int .u64 b3,.int .u64 c3]).run Tryz.prog w=.ok (.value (.tuple #[.int .u64 s3,.int .u64 c4])) w) :
  Calls Tryz.prog 107 #[.agg #[.int .u64 a0,.int .u64 a1,.int .u64 a2,.int .u64 a3],.agg #[.int .u64 b0,.int .u64 b1,.int .u64 b2,.int .u64 b3]] w fun e w' =>
   e=.returned (.agg #[.int .u64 s0,.int .u64 s1,.int .u64 s2,.int .u64 s3])/\Below w.heap.size w w':=by
 go_enter Tryz.func107,Tryz.ntmps107;go_wp2;refine wp_loop_rounds 5 ?_
 iterate 4 (rw[rounds_succ];go_wp2;go_region;go_wp2)
 rw[rounds_succ];go_wp2
 go_returns
 exact⟨rfl,by go_grown⟩
theorem sub_any(x y:Nat)(w:World) :
  Calls Tryz.prog 107 #[wv x,wv y] w fun e w' =>
   e=.returned (wv (x+(2^256 - y%2^256)))/\Below w.heap.size w w':=by
 obtain⟨a0,a1,a2,a3,u0,u1,u2,u3,ea,na⟩:=wv_parts x;obtain⟨b0,b1,b2,b3,v0,v1,v2,v3,eb,nb⟩:=wv_parts y;obtain⟨s0,c1,k1,l0,e0,h0⟩:=sub64_ex0 a0 b0 u0 v0;obtain⟨s1,c2,k2,l1,e1,h1⟩:=sub64_ex a1 b1 c1 u1 v1 k1;obtain⟨s2,c3,k3,l2,e2,h2⟩:=sub64_ex a2 b2 c2 u2 v2 k2;obtain⟨s3,c4,k4,l3,e3,h3⟩:=sub64_ex a3 b3 c3 u3 v3 k3;have hs:n4 s0 s1 s2 s3+y%2^256=x%2^256+2^256*c4:=by rw[<- na,<- nb];unfold n4;omega
 rw[ea,eb];refine(sub_walk a0 a1 a2 a3 b0 b1 b2 b3 s0 c1 s1 c2 s2 c3 s3 c4 w h0 h1 h2 h3).mono fun e w' ⟨he,hb⟩=>⟨?_,hb⟩
 rw[he,<- wv_n4 l0 l1 l2 l3];rw[wv_congr (x:=n4 s0 s1 s2 s3) (y:=x+(2^256 - y%2^256)) (by omega)]
open Go.RowKit
theorem index4_0(v0 v1 v2 v3:Value)(w:World):(Instr.index 24 (.agg #[v0,v1,v2,v3]) (.int .i64 0)).run Tryz.prog w=.ok v0 w:=by kernel_rfl
theorem index4_1(v0 v1 v2 v3:Value)(w:World):(Instr.index 24 (.agg #[v0,v1,v2,v3]) (.int .i64 1)).run Tryz.prog w=.ok v1 w:=by kernel_rfl
theorem index4_2(v0 v1 v2 v3:Value)(w:World):(Instr.index 24 (.agg #[v0,v1,v2,v3]) (.int .i64 2)).run Tryz.prog w=.ok v2 w:=by kernel_rfl
theorem index4_3(v0 v1 v2 v3:Value)(w:World):(Instr.index 24 (.agg #[v0,v1,v2,v3]) (.int .i64 3)).run Tryz.prog w=.ok v3 w:=by kernel_rfl
theorem mul64_ex(x y:Nat)(hx:x<18446744073709551616)(hy:y<18446744073709551616) :
  ∃ h l:Nat,h<18446744073709551615/\l<18446744073709551616/\l+18446744073709551616*h=x*y /\
  ∀ w,Calls Tryz.prog 152 #[.int .u64 x,.int .u64 y] w fun e w'=>e=.returned (.tuple #[.int .u64 h,.int .u64 l])/\w=w':=by
 have hm:x*y<=18446744073709551615*18446744073709551615:=Nat.mul_le_mul (by omega) (by omega);refine⟨x*y / 18446744073709551616,x*y%18446744073709551616,by omega,by omega,by omega,fun w=>(Tryz.bits_Mul64 x y hx hy w).mono fun e w' ⟨he,hw⟩=>⟨he,hw.symm⟩⟩
theorem mulAdd_walk(x y m c h l s0 d0 s1 d1:Nat)(w:World)
  (hM:∀ w,Calls Tryz.prog 152 #[.int .u64 x,.int .u64 y] w fun e w'=>e=.returned (.tuple #[.int .u64 h,.int .u64 l])/\w=w')
  (h0:∀ w,(callFunc 133 #[.int .u64 l,.int .u64 m,.int .u64 0]).run Tryz.prog w=.ok (.value (.tuple #[.int .u64 s0,.int .u64 d0])) w)
  (h1:∀ w,(callFunc 133 #[.int .u64 s0,.int .u64 c,.int .u64 0]).run Tryz.prog w=.ok (.value (.tuple #[.int .u64 s1,.int .u64 d1])) w)
  (b1:(h:Int)+d0<=18446744073709551615) (b2:(h:Int)+d0+d1<=18446744073709551615) :
  Calls Tryz.prog 151 #[.int .u64 x,.int .u64 y,.int .u64 m,.int .u64 c] w fun e w'=>e=.returned (.tuple #[.int .u64 s1,.int .u64 ((h+d0+d1:Nat):Int)])/\w=w':=by
 go_enter Tryz.func151,Tryz.ntmps151
 go_wp2_with fail
 refine(hM _).mono ?_;rintro e w' ⟨rfl,rfl⟩;go_wp2
 go_ret2
 exact⟨by simp,rfl⟩
theorem mulAdd_ex(x y m c:Nat)(hx:x<18446744073709551616)(hy:y<18446744073709551616)(hm:m<18446744073709551616)(hc:c<18446744073709551616) :
  ∃ l h:Nat,l<18446744073709551616/\h<18446744073709551616/\l+18446744073709551616*h=x*y+m+c /\
   ∀ w,Calls Tryz.prog 151 #[.int .u64 x,.int .u64 y,.int .u64 m,.int .u64 c] w fun e w'=>e=.returned (.tuple #[.int .u64 l,.int .u64 h])/\w=w':=by
 obtain⟨h,l,lh,ll,e,hM⟩:=mul64_ex x y hx hy;obtain⟨s0,d0,k0,l0,e0,h0⟩:=add64_ex0 l m ll hm;obtain⟨s1,d1,k1,l1,e1,h1⟩:=add64_ex0 s0 c l0 hc;have hb:x*y<=18446744073709551615*18446744073709551615:=Nat.mul_le_mul (by omega) (by omega);have ht:s1+18446744073709551616*(h+d0+d1)=x*y+m+c:=by omega
 have hh:h+d0+d1<18446744073709551616:=by omega
 exact⟨s1,h+d0+d1,l1,hh,ht,fun w=>mulAdd_walk x y m c h l s0 d0 s1 d1 w hM h0 h1 (by omega) (by omega)⟩
end Go.Proofs.YtadfjjfklihaaaaGreat
