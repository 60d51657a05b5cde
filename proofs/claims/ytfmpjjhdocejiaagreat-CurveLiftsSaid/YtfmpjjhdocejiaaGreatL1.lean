/- Reckoning modulo an odd number by 2^256 (Montgomery's way), in plain numbers: no program is named here. (Cut to what is reached, written closely: Inv · Tie0 · TieL · Tie2 · TieS · Tail · Q · Shelf · Num · Add · Mul · Adds · Product · Wide · Muls · Parts · Take · FArr · FMul · FRow · FMnt.) -/
import Derived.Still
import Derived.WalkKit
import Derived.StillTail
import Derived.Laws.CopyOwn
import Derived.Deep.Quiet
import Derived.Deep.QuietTactic
import Derived.Shelf.Small.Bits
import Derived.Shelf.Strconv.Itoa0
import Derived.Shelf.Bits.Mul64
import Derived.Test.YtfmpjjhdocejiaaGreatProg
import Derived.Laws.Externs
import Derived.WalkSpells
import Derived.WalkLawsBesides
import Derived.LoopN
import Derived.Handy
import Derived.Outline
import Derived.RegionTactic
import Derived.BigRegion
import Derived.BigQuiet
import Derived.WalkSmall
import Derived.OwnWalk
import Derived.Lib.Hide
import Derived.Laws.Rows
import Derived.Laws.Tables
import Derived.Maps.AppendAt
import Derived.Deep.LoopGhost
import Derived.Laws.Bits64b
import Derived.Laws.OwnMore
import Derived.Deep.AppendLies
import Derived.Deep.RegionWith
set_option linter.all false
set_option maxRecDepth 100000
set_option maxHeartbeats 8000000
namespace Go.Proofs.YtfmpjjhdocejiaaGreat
open Go.RowKit
def slotVal(a:Act)(o:Oper):Value:=match o.dst with
 | some d=>a.tmps.getD d undef
 | none=>undef
def isDst(l:List Oper)(t:Nat):Bool:=l.any fun o=>o.dst == some t
def putAll(f:Oper->Value):List Oper->Act->Act
 | [],a=>a
 | o::l,a=>putAll f l (a.put o.dst (f o))
theorem put_size(a:Act)(d:Option Tmp)(v:Value):(a.put d v).tmps.size=a.tmps.size:=by
 cases d <;> simp[Act.put]
theorem put_defers(a:Act)(d:Option Tmp)(v:Value):(a.put d v).defers=a.defers:=by
 cases d <;> rfl
theorem put_other(a:Act)(d:Option Tmp)(v:Value)(t:Nat)(h:d≠some t):(a.put d v).tmps.getD t undef=a.tmps.getD t undef:=by
 cases d with
 | none=>rfl
 | some d =>
  have:d≠t:=fun e=>h (by rw[e]);simp[Act.put,Array.getElem?_setIfInBounds_ne this]
theorem put_same(a:Act)(d:Nat)(v:Value)(h:d<a.tmps.size):(a.put (some d) v).tmps.getD d undef=v:=by
 simp[Act.put,h]
theorem putAll_size(f:Oper->Value):∀(l:List Oper) (a:Act),(putAll f l a).tmps.size=a.tmps.size
 | [],_=>rfl
 | o::l,a=>by rw[putAll,putAll_size f l,put_size]
theorem putAll_defers(f:Oper->Value):∀(l:List Oper) (a:Act),(putAll f l a).defers=a.defers
 | [],_=>rfl
 | o::l,a=>by rw[putAll,putAll_defers f l,put_defers]
theorem putAll_at(b:Act):∀(l:List Oper) (a:Act) (t:Nat),t<a.tmps.size->(isDst l t=false->a.tmps.getD t undef=b.tmps.getD t undef)->(putAll (slotVal b) l a).tmps.getD t undef=b.tmps.getD t undef
 | [],a,t,_,h=>h rfl
 | o::l,a,t,ht,h=>by
  rw[putAll];refine putAll_at b l _ t (by rw[put_size];exact ht) (fun hl=>?_);by_cases e:o.dst=some t
  ·rw[e,put_same _ _ _ ht]
   unfold slotVal;rw[e]
  ·rw[put_other _ _ _ _ e]
   exact h (by simp only[isDst,List.any_cons,Bool.or_eq_false_iff];exact⟨by simpa using e,hl⟩)
theorem put_back{a a0:Act}{l:List Oper}(hs:a.tmps.size=a0.tmps.size)(hd:a.defers=a0.defers)(hk:∀ t,isDst l t=false->a.tmps.getD t undef=a0.tmps.getD t undef):a=putAll (slotVal a) l a0:=by
 have h1:=putAll_size (slotVal a) l a0;have h2:=putAll_defers (slotVal a) l a0;have h3:=fun t ht=>putAll_at a l a0 t ht (fun h=>(hk t h).symm);generalize putAll (slotVal a) l a0=b at *;obtain⟨ta,da⟩:=a;obtain⟨tb,db⟩:=b;simp only at *;have:ta=tb:=by
  apply Array.ext (by omega);intro i hi hj;have:=h3 i (by omega);simp[hi,hj]at this;exact this.symm
 rw[this,hd,h2]
section
variable {P:Program} {ops:Array Oper} {Q:Exit->Act->World->Prop} {C:World->Prop} {φ:Nat->Value->World->Prop} {R:World->World->Prop} {a0:Act}
def Known(ops:Array Oper)(φ:Nat->Value->World->Prop)(a0:Act)(o:Oper)(a:Act)(w:World):Prop :=
 (∀ t,isDst ops.toList t=false->a.tmps.getD t undef=a0.tmps.getD t undef)/\(∀ e∈o.after,Region.binds .any e=true->∀ oj,ops[e.on]?=some oj->φ e.on (slotVal a oj) w)
def Step(P:Program)(ops:Array Oper)(Q:Exit->Act->World->Prop)(C:World->Prop)(φ:Nat->Value->World->Prop)(R:World->World->Prop)(k:Nat)(o:Oper)(a:Act)(w:World):Prop :=
 if Region.wanted o (yielded ops a.tmps)then o.wp P a w (fun a' w'=>∃ v,a'=a.put o.dst v/\C w'/\φ k v w'/\R w w'/\(o.dst=none->v=undef)) Q else φ k undef w
def Steps(P:Program)(ops:Array Oper)(Q:Exit->Act->World->Prop)(C:World->Prop)(φ:Nat->Value->World->Prop)(R:World->World->Prop)(a0:Act):Nat->List Oper->Prop
 | _,[]=>True
 | k,o::l=>(∀ a w,C w->Known ops φ a0 o a w->Step P ops Q C φ R k o a w)/\Steps P ops Q C φ R a0 (k+1) l
theorem Steps.at_:∀ {l:List Oper} {k:Nat},Steps P ops Q C φ R a0 k l->∀(i:Nat) (o:Oper),l[i]?=some o->∀ a w,C w->Known ops φ a0 o a w->Step P ops Q C φ R (k+i) o a w
 | [],_,_,i,o,hi=>by simp at hi
 | o::l,k,h,0,o',hi=>by simp at hi;subst hi;exact h.1
 | o::l,k,h,i+1,o',hi=>by
  have:=Steps.at_ h.2 i o' (by simpa using hi);rwa [show k+1+i=k+(i+1) by omega]at this
def distinctB:List Oper->Bool
 | []=>true
 | o::l=>(match o.dst with | some d=>!(isDst l d) | none=>true)&&distinctB l
theorem distinct_spec:∀ {l:List Oper},distinctB l=true->∀(i j:Nat) (oi oj:Oper) (d:Nat),l[i]?=some oi->l[j]?=some oj->i≠j->oi.dst=some d->oj.dst≠some d
 | [],_,i,_,_,_,_,hi,_,_,_=>by simp at hi
 | o::l,h,i,j,oi,oj,d,hi,hj,hne,hd=>by
  simp only[distinctB,Bool.and_eq_true]at h;have out:∀(k:Nat) (ok:Oper) (e:Nat),l[k]?=some ok->o.dst=some e->ok.dst≠some e:=fun k ok e hk he hok=>by
   have h1:=h.1;rw[he]at h1;simp only[Bool.not_eq_true',isDst,List.any_eq_false]at h1;exact h1 ok (List.mem_of_getElem? hk) (by simp[hok])
  match i,j,hi,hj with
  | 0,0,_,_=>exact absurd rfl hne
  | 0,j+1,hi,hj=>simp at hi;subst hi;exact out j oj d (by simpa using hj) hd
  | i+1,0,hi,hj=>simp at hj;subst hj;exact fun he=>out i oi d (by simpa using hi) he hd
  | i+1,j+1,hi,hj=>exact distinct_spec h.2 i j oi oj d (by simpa using hi) (by simpa using hj) (by omega) hd
def lexicalB(ops:Array Oper):Bool:=(List.range ops.size).all fun i=>match ops[i]? with
 | some o=>o.after.all fun e=>decide (e.on<i)
 | none=>true
def inB(ops:Array Oper)(n:Nat):Bool:=ops.toList.all fun o=>match o.dst with
 | some d=>decide (d<n)
 | none=>true
theorem wpAny_inv(hdist:distinctB ops.toList=true)(hlex:lexicalB ops=true)(hin:inB ops a0.tmps.size=true)
  (hφ:∀ i v w w',R w w'->φ i v w->φ i v w') (hst:Steps P ops Q C φ R a0 0 ops.toList)
  (hQ:∀(f:Oper->Value) w,C w->(∀ i o,ops[i]?=some o->φ i (f o) w)->Q .normal (putAll f ops.toList a0) w) :
  ∀(fuel:Nat) (listed:Array Bool) (a:Act) (w:World),listed.size=ops.size->listed.toList.count false<=fuel->C w->a.tmps.size=a0.tmps.size->a.defers=a0.defers ->
   (∀ t,isDst ops.toList t=false->a.tmps.getD t undef=a0.tmps.getD t undef)->(∀ i o,listed.getD i false=true->ops[i]?=some o->φ i (slotVal a o) w)->wpAny P .any ops Q fuel listed a w:=by
 have done:∀(listed:Array Bool) (a:Act) (w:World),(∀ i,i<ops.size->listed.getD i false=true)->C w->a.tmps.size=a0.tmps.size->a.defers=a0.defers ->
   (∀ t,isDst ops.toList t=false->a.tmps.getD t undef=a0.tmps.getD t undef)->(∀ i o,listed.getD i false=true->ops[i]?=some o->φ i (slotVal a o) w)->Q .normal a w:=by
  intro listed a w hall hC hs hd hk hp;rw[put_back hs hd hk];exact hQ _ w hC (fun i o ho=>hp i o (hall i (Array.getElem?_eq_some_iff.1 ho).1) ho)
 intro fuel
 induction fuel with
 | zero =>
  intro listed a w hsz hc hC hs hd hk hp;have hno:false ∉ listed.toList:=List.count_eq_zero.1 (by omega);have hall:∀ i,i<ops.size->listed.getD i false=true:=fun i hi=>by
   have hlt:i<listed.size:=by omega
   have hm:listed[i]∈listed.toList:=by simp
   simp only[Array.getD_eq_getD_getElem?,hlt,Array.getElem?_eq_getElem,Option.getD_some];cases h:listed[i]with
   | true=>rfl
   | false=>rw[h]at hm;exact absurd hm hno
  refine⟨?_,done listed a w hall hC hs hd hk hp⟩;rw[List.eq_nil_iff_forall_not_mem];intro j hj;obtain⟨h0,o,ho,-⟩:=mem_ready.1 hj;have hlt:=(Array.getElem?_eq_some_iff.1 ho).1;have h1:=hall j hlt;simp[show j<listed.size by omega]at h0 h1;rw[h0]at h1;cases h1
 | succ fuel ih =>
  intro listed a w hsz hc hC hs hd hk hp;refine⟨fun hr=>?_,fun i hi=>?_⟩
  ·refine done listed a w ?_ hC hs hd hk hp
   -- the least that isn't listed would be ready
   intro i
   induction i using Nat.strongRecOn with
   | _ i ihi =>
    intro hi;cases h:listed.getD i false with
    | true=>rfl
    | false =>
     have ho:ops[i]?=some ops[i]:=Array.getElem?_eq_getElem hi;have:i∈Region.ready .any ops listed:=mem_ready.2 ⟨by simpa[show i<listed.size by omega]using h,ops[i],ho,fun e he _=>by
      have hl:=hlex;unfold lexicalB at hl;rw[List.all_eq_true]at hl;have:=hl i (by simpa using hi);rw[ho]at this;simp only[Array.all_eq_true_iff_forall_mem,decide_eq_true_eq]at this;have hlt:=this e he;exact ihi e.on hlt (by omega)⟩
     rw[hr]at this;cases this
  ·obtain⟨h0,o,ho,hall⟩:=mem_ready.1 hi
   have hlt:i<ops.size:=(Array.getElem?_eq_some_iff.1 ho).1;have hl':ops.toList[i]?=some o:=by simpa using ho
   have hstep:=hst.at_ i o hl' a w hC ⟨hk,fun e he hb oj hj=>hp e.on oj (hall e he hb) hj⟩;rw[Nat.zero_add]at hstep;have go:∀(v:Value) (w':World),C w'->φ i v w'->(∀ j u,φ j u w->φ j u w')->(o.dst=none->v=undef)->wpAny P .any ops Q fuel (listed.setIfInBounds i true) (a.put o.dst v) w':=by
    intro v w' hC' hv hm hu;refine ih _ _ _ (by simpa using hsz) ?_ hC' (by rw[put_size];exact hs) (by rw[put_defers];exact hd) ?_ ?_
    ·have hil:i<listed.size:=by omega
     have e0:listed[i]=false:=by simpa[hil]using h0
     rw[Array.toList_setIfInBounds,List.count_set (by simpa using hil)];have:listed.toList[i]'(by simpa using hil)=false:=by simpa using e0
     simp only[this];simp;have hpos:0<listed.toList.count false:=List.count_pos_iff.2 (by rw[<- e0];simp);simp at hpos;simp at hc;omega
    ·intro t ht
     have hne:o.dst≠some t:=fun e=>by
      simp only[isDst,List.any_eq_false]at ht;exact ht o (List.mem_of_getElem? hl') (by simp[e])
     rw[put_other _ _ _ _ hne];exact hk t ht
    ·intro j oj hj hoj
     by_cases e:i=j
     ·subst e
      have:oj=o:=Option.some.inj (hoj.symm.trans ho);subst this;have:slotVal (a.put oj.dst v) oj=v:=by
       unfold slotVal;cases hd':oj.dst with
       | none=>exact(hu hd').symm
       | some d =>
        have hin':=hin;unfold inB at hin';rw[List.all_eq_true]at hin';have hdl:d<a0.tmps.size:=by
         have h:=hin' oj (List.mem_of_getElem? hl');rw[hd']at h;exact of_decide_eq_true h
        exact put_same _ _ _ (by rw[hs];exact hdl)
      rw[this];exact hv
     ·rw[getD_set_ne false e]at hj
      have:slotVal (a.put o.dst v) oj=slotVal a oj:=by
       unfold slotVal;cases hd':oj.dst with
       | none=>rfl
       | some d =>
        exact put_other _ _ _ _ (fun he=>distinct_spec hdist i j o oj d hl' (by simpa using hoj) e he hd')
      rw[this];exact hm _ _ (hp j oj hj hoj)
   unfold wpOp;rw[ho];simp only;unfold Step at hstep
   split
   ·rename_i hw
    rw[if_pos hw]at hstep;refine .inl (Oper.wp_mono ?_ hstep);rintro a' w' ⟨v,rfl,hC',hv,hR,hu⟩;exact go v w' hC' hv (fun j u h=>hφ j u w w' hR h) hu
   ·rename_i hw
    rw[if_neg hw]at hstep;exact go undef w hC hstep (fun j u h=>h) (fun _=>rfl)
theorem region_inv{id:Nat}{l:List Oper}{w:World}(C:World->Prop)(φ:Nat->Value->World->Prop)(R:World->World->Prop)(hm:P.follows .mixedOrders=true)(hB:(distinctB l&&lexicalB l.toArray&&inB l.toArray a0.tmps.size)=true)(hC:C w.drew)
  (hφ:∀ i v w w',R w w'->φ i v w->φ i v w') (hst:Steps P l.toArray Q C φ R a0 0 l)
  (hQ:∀(f:Oper->Value) w,C w->(∀ i o,l[i]?=some o->φ i (f o) w)->Q .normal (putAll f l a0) w):(Code.region id l.toArray true).wp P Q a0 w:=by
 simp only[Bool.and_eq_true]at hB;refine wp_region_any hm (wpAny_inv (C:=C) (φ:=φ) (R:=R) (a0:=a0) hB.1.1 hB.1.2 hB.2 hφ hst (fun f w hC h=>hQ f w hC (fun i o ho=>h i o (by simpa using ho))) _ _ _ w.drew (by simp) (by simp) hC rfl rfl (fun _ _=>rfl) ?_);intro i o hi;simp at hi;rcases Nat.lt_or_ge i l.length with h | h
 ·simp[h]at hi
 ·simp[Nat.not_lt.2 h]at hi
/-! What each kind of operation must do. -/
theorem st_val{k:Nat}{o:Oper}{a:Act}{w:World}(v:Value)(hw:Region.wanted o (yielded ops a.tmps)=true)(hd:o.dst=none->v=undef)(hr:(execOp a.eval o).run P w=.ok (.value v) w)(hC:C w)(hv:φ k v w)(hR:R w w):Step P ops Q C φ R k o a w:=by
 unfold Step;rw[if_pos hw];unfold Oper.wp;rw[hr];exact⟨v,rfl,hC,hv,hR,hd⟩
theorem st_load{k:Nat}{o:Oper}{a:Act}{w:World}(T:TypeId)(x:Operand)(p v:Value)(ho:o.op=.load T x)(hw:Region.wanted o (yielded ops a.tmps)=true)(hd:o.dst=none->v=undef)(hp:a.eval x=p)
  (hr:(Instr.loadAt T p).run P w=.ok v w) (hC:C w) (hv:φ k v w) (hR:R w w):Step P ops Q C φ R k o a w :=
 st_val v hw hd (by
  unfold execOp;rw[ho];simp only[hp,Sem.run_bind,hr,Result.andThen_ok,Sem.run_pure]) hC hv hR
theorem st_call{k:Nat}{o:Oper}{a:Act}{w:World}(f:FuncId)(args:Array Value)(hw:Region.wanted o (yielded ops a.tmps)=true)(hd:∃ d,o.dst=some d)(he:(execOp a.eval o).run P w=.ok (.enter f args) w)
  (hc:Calls P f args w fun e w'=>∃ v,e=.returned v/\C w'/\φ k v w'/\R w w'):Step P ops Q C φ R k o a w:=by
 unfold Step;rw[if_pos hw];unfold Oper.wp;rw[he];refine Calls.mono hc ?_;rintro e w' ⟨v,rfl,h1,h2,h3⟩;exact⟨v,rfl,h1,h2,h3,fun h=>by obtain⟨d,hd⟩:=hd;rw[hd]at h;cases h⟩
theorem st_store{k:Nat}{o:Oper}{a:Act}{w w':World}(hw:Region.wanted o (yielded ops a.tmps)=true)(hr:(execOp a.eval o).run P w=.ok .skip w')(hC:C w')(hv:φ k undef w')(hR:R w w'):Step P ops Q C φ R k o a w:=by
 unfold Step;rw[if_pos hw];unfold Oper.wp;rw[hr];exact⟨undef,rfl,hC,hv,hR,fun _=>rfl⟩
end
open Go.RowKit
def slots(a:Act)(t:Nat):Value:=a.tmps.getD t undef
theorem getD_set_same{listed:Array Bool}{i:Nat}(h:i<listed.size):(listed.setIfInBounds i true).getD i false=true:=by simp[h]
section
variable {P:Program} {ops:Array Oper} {Q:Exit->Act->World->Prop} {C:World->Prop} {φ:Nat->(Nat->Value)->World->Prop} {R:World->World->Prop} {a0:Act}
def KnownT(ops:Array Oper)(φ:Nat->(Nat->Value)->World->Prop)(a0:Act)(o:Oper)(a:Act)(w:World):Prop :=
 (∀ t,isDst ops.toList t=false->a.tmps.getD t undef=a0.tmps.getD t undef)/\(∀ e∈o.after,Region.binds .any e=true->∀ oj,ops[e.on]?=some oj->φ e.on (slots a) w)
def StepT(P:Program)(ops:Array Oper)(Q:Exit->Act->World->Prop)(C:World->Prop)(φ:Nat->(Nat->Value)->World->Prop)(R:World->World->Prop)(k:Nat)(o:Oper)(a:Act)(w:World):Prop :=
 if Region.wanted o (yielded ops a.tmps)then o.wp P a w (fun a' w'=>∃ v,a'=a.put o.dst v/\C w'/\φ k (slots (a.put o.dst v)) w'/\R w w') Q else φ k (slots (a.put o.dst undef)) w
def StepsT(P:Program)(ops:Array Oper)(Q:Exit->Act->World->Prop)(C:World->Prop)(φ:Nat->(Nat->Value)->World->Prop)(R:World->World->Prop)(a0:Act):Nat->List Oper->Prop
 | _,[]=>True
 | k,o::l=>(∀ a w,C w->a.tmps.size=a0.tmps.size->KnownT ops φ a0 o a w->StepT P ops Q C φ R k o a w)/\StepsT P ops Q C φ R a0 (k+1) l
theorem StepsT.at_:∀ {l:List Oper} {k:Nat},StepsT P ops Q C φ R a0 k l->∀(i:Nat) (o:Oper),l[i]?=some o->∀ a w,C w->a.tmps.size=a0.tmps.size->KnownT ops φ a0 o a w->StepT P ops Q C φ R (k+i) o a w
 | [],_,_,i,o,hi=>by simp at hi
 | o::l,k,h,0,o',hi=>by simp at hi;subst hi;exact h.1
 | o::l,k,h,i+1,o',hi=>by
  have:=StepsT.at_ h.2 i o' (by simpa using hi);rwa [show k+1+i=k+(i+1) by omega]at this
def rankB(ops:Array Oper)(rk:Nat->Nat):Bool:=(List.range ops.size).all fun i=>match ops[i]? with
 | some o=>o.after.all fun e=>!Region.binds .any e||decide (rk e.on<rk i)
 | none=>true
def insideB(ops:Array Oper):Bool:=ops.all fun o=>o.after.all fun e=>decide (e.on<ops.size)
theorem inside_spec(h:insideB ops=true)(i:Nat)(o:Oper)(ho:ops[i]?=some o)(e:Edge)(he:e∈o.after):e.on<ops.size:=by
 unfold insideB at h;simp only[Array.all_eq_true_iff_forall_mem,decide_eq_true_eq]at h;exact h o (Array.mem_of_getElem? ho) e he
def ownB(ops:Array Oper)(rd:Nat->List Nat):Bool:=(List.range ops.size).all fun i=>match ops[i]? with
 | some o=>(rd i).all fun t=>o.dst == some t||!isDst ops.toList t||o.after.any fun e=>Region.binds .any e&&(match ops[e.on]? with | some oj=>oj.dst == some t | none=>false)
 | none=>true
theorem own_spec{rd:Nat->List Nat}(h:ownB ops rd=true){i:Nat}{o:Oper}(ho:ops[i]?=some o){t:Nat}(ht:t∈rd i) :
  o.dst=some t\/isDst ops.toList t=false\/∃ e∈o.after,Region.binds .any e=true/\∃ oj,ops[e.on]?=some oj/\oj.dst=some t:=by
 unfold ownB at h;rw[List.all_eq_true]at h;have h1:=h i (by simpa using(Array.getElem?_eq_some_iff.1 ho).1);rw[ho]at h1;simp only[List.all_eq_true]at h1;have h2:=h1 t ht;simp only[Bool.or_eq_true,beq_iff_eq,Bool.not_eq_true']at h2;rcases h2 with(h2 | h2) | h2
 ·exact .inl h2
 ·exact .inr (.inl h2)
 ·refine .inr (.inr ?_)
  rw[Array.any_eq_true]at h2;obtain⟨k,hk,h3⟩:=h2;have he:o.after[k]∈o.after:=Array.getElem_mem hk;generalize o.after[k]=e at *;rw[Bool.and_eq_true]at h3;refine⟨e,he,h3.1,?_⟩;have h4:=h3.2;cases hj:ops[e.on]? with
  | none=>rw[hj]at h4;cases h4
  | some oj=>rw[hj]at h4;exact⟨oj,rfl,by simpa using h4⟩
theorem wpAny_tie(rd:Nat->List Nat)(rk:Nat->Nat)(hdist:distinctB ops.toList=true)(hlex:rankB ops rk=true)(hon:∀(i:Nat) (o:Oper),ops[i]?=some o->∀ e∈o.after,e.on<ops.size)(hown:ownB ops rd=true)
  (hrd:∀ i s s' w,(∀ t∈rd i,s t=s' t)->φ i s w->φ i s' w)
  (hφ:∀ i v w w',R w w'->φ i v w->φ i v w') (hst:StepsT P ops Q C φ R a0 0 ops.toList)
  (hQ:∀(f:Oper->Value) w,C w->(∀ i o,ops[i]?=some o->φ i (slots (putAll f ops.toList a0)) w)->Q .normal (putAll f ops.toList a0) w) :
  ∀(fuel:Nat) (listed:Array Bool) (a:Act) (w:World),listed.size=ops.size->listed.toList.count false<=fuel->C w->a.tmps.size=a0.tmps.size->a.defers=a0.defers ->
   (∀ t,isDst ops.toList t=false->a.tmps.getD t undef=a0.tmps.getD t undef)->(∀ i o,listed.getD i false=true->ops[i]?=some o->φ i (slots a) w/\∀ e∈o.after,Region.binds .any e=true->listed.getD e.on false=true)->wpAny P .any ops Q fuel listed a w:=by
 have done:∀(listed:Array Bool) (a:Act) (w:World),(∀ i,i<ops.size->listed.getD i false=true)->C w->a.tmps.size=a0.tmps.size->a.defers=a0.defers ->
   (∀ t,isDst ops.toList t=false->a.tmps.getD t undef=a0.tmps.getD t undef)->(∀ i o,listed.getD i false=true->ops[i]?=some o->φ i (slots a) w/\∀ e∈o.after,Region.binds .any e=true->listed.getD e.on false=true)->Q .normal a w:=by
  intro listed a w hall hC hs hd hk hp;have hb:=put_back hs hd hk;rw[hb];exact hQ _ w hC (fun i o ho=>by rw[<- hb];exact(hp i o (hall i (Array.getElem?_eq_some_iff.1 ho).1) ho).1)
 intro fuel
 induction fuel with
 | zero =>
  intro listed a w hsz hc hC hs hd hk hp;have hno:false ∉ listed.toList:=List.count_eq_zero.1 (by omega);have hall:∀ i,i<ops.size->listed.getD i false=true:=fun i hi=>by
   have hlt:i<listed.size:=by omega
   have hm:listed[i]∈listed.toList:=by simp
   simp only[Array.getD_eq_getD_getElem?,hlt,Array.getElem?_eq_getElem,Option.getD_some];cases h:listed[i]with
   | true=>rfl
   | false=>rw[h]at hm;exact absurd hm hno
  refine⟨?_,done listed a w hall hC hs hd hk hp⟩;rw[List.eq_nil_iff_forall_not_mem];intro j hj;obtain⟨h0,o,ho,-⟩:=mem_ready.1 hj;have hlt:=(Array.getElem?_eq_some_iff.1 ho).1;have h1:=hall j hlt;simp[show j<listed.size by omega]at h0 h1;rw[h0]at h1;cases h1
 | succ fuel ih =>
  intro listed a w hsz hc hC hs hd hk hp;refine⟨fun hr=>?_,fun i hi=>?_⟩
  ·refine done listed a w ?_ hC hs hd hk hp
   -- the least that isn't listed would be ready
   have key:∀ r i,rk i<r->i<ops.size->listed.getD i false=true:=by
    intro r
    induction r with
    | zero=>intro i h;omega
    | succ r ihr =>
     intro i hri hi;cases h:listed.getD i false with
     | true=>rfl
     | false =>
      have ho:ops[i]?=some ops[i]:=Array.getElem?_eq_getElem hi;have:i∈Region.ready .any ops listed:=mem_ready.2 ⟨by simpa[show i<listed.size by omega]using h,ops[i],ho,fun e he hb=>by
       have hl:=hlex;unfold rankB at hl;rw[List.all_eq_true]at hl;have:=hl i (by simpa using hi);rw[ho]at this;simp only[Array.all_eq_true_iff_forall_mem]at this;have hlt:=this e he;rw[hb]at hlt;simp at hlt;exact ihr e.on (by omega) (hon i _ ho e he)⟩
      rw[hr]at this;cases this
   exact fun i hi=>key (rk i+1) i (by omega) hi
  ·obtain⟨h0,o,ho,hall⟩:=mem_ready.1 hi
   have hlt:i<ops.size:=(Array.getElem?_eq_some_iff.1 ho).1;have hl':ops.toList[i]?=some o:=by simpa using ho
   have hstep:=hst.at_ i o hl' a w hC hs ⟨hk,fun e he hb oj hj=>(hp e.on oj (by have:=hall e he hb;simpa using this) hj).1⟩;rw[Nat.zero_add]at hstep;have go:∀(v:Value) (w':World),C w'->φ i (slots (a.put o.dst v)) w'->(∀ j u,φ j u w->φ j u w')->wpAny P .any ops Q fuel (listed.setIfInBounds i true) (a.put o.dst v) w':=by
    intro v w' hC' hv hm;refine ih _ _ _ (by simpa using hsz) ?_ hC' (by rw[put_size];exact hs) (by rw[put_defers];exact hd) ?_ ?_
    ·have hil:i<listed.size:=by omega
     have e0:listed[i]=false:=by simpa[hil]using h0
     rw[Array.toList_setIfInBounds,List.count_set (by simpa using hil)];have:listed.toList[i]'(by simpa using hil)=false:=by simpa using e0
     simp only[this];simp;have hpos:0<listed.toList.count false:=List.count_pos_iff.2 (by rw[<- e0];simp);simp at hpos;simp at hc;omega
    ·intro t ht
     have hne:o.dst≠some t:=fun e=>by
      simp only[isDst,List.any_eq_false]at ht;exact ht o (List.mem_of_getElem? hl') (by simp[e])
     rw[put_other _ _ _ _ hne];exact hk t ht
    ·intro j oj hj hoj
     by_cases e:i=j
     ·subst e
      have:oj=o:=Option.some.inj (hoj.symm.trans ho);subst this;refine⟨hv,fun e he hb=>?_⟩;have h1:=hall e he hb;by_cases q:i=e.on
      ·rw[<- q];exact getD_set_same (by omega)
      ·rw[getD_set_ne false q];simpa using h1
     ·rw[getD_set_ne false e]at hj
      obtain⟨h1,h2⟩:=hp j oj hj hoj;refine⟨hm _ _ (hrd j _ _ w (fun t ht=>?_) h1),fun e' he hb=>?_⟩
      ·have hne:o.dst≠some t:=fun hd'=>by
        rcases own_spec hown hoj ht with h3 | h3 | ⟨e',he,hb,ok,hok,hkd⟩
        ·exact distinct_spec hdist i j o oj t hl' (by simpa using hoj) e hd' h3
        ·simp only[isDst,List.any_eq_false]at h3
         exact h3 o (List.mem_of_getElem? hl') (by simp[hd'])
        ·have h4:=h2 e' he hb
         have h5:i≠e'.on:=fun q=>by rw[<- q,getD_both h0]at h4;cases h4
         exact distinct_spec hdist i e'.on o ok t hl' (by simpa using hok) h5 hd' hkd
       exact(put_other _ _ _ _ hne).symm
      ·by_cases q:i=e'.on
       ·rw[<- q];exact getD_set_same (by omega)
       ·rw[getD_set_ne false q];exact h2 e' he hb
   unfold wpOp;rw[ho];simp only;unfold StepT at hstep
   split
   ·rename_i hw
    rw[if_pos hw]at hstep;refine .inl (Oper.wp_mono ?_ hstep);rintro a' w' ⟨v,rfl,hC',hv,hR⟩;exact go v w' hC' hv (fun j u h=>hφ j u w w' hR h)
   ·rename_i hw
    rw[if_neg hw]at hstep;exact go undef w hC hstep (fun j u h=>h)
theorem region_tie{id:Nat}{l:List Oper}{w:World}(C:World->Prop)(φ:Nat->(Nat->Value)->World->Prop)(R:World->World->Prop)(rd:Nat->List Nat)(rk:Nat->Nat)(hm:P.follows .mixedOrders=true)
  (hB:(distinctB l&&rankB l.toArray rk&&ownB l.toArray rd&&insideB l.toArray)=true) (hC:C w.drew)
  (hrd:∀ i s s' w,(∀ t∈rd i,s t=s' t)->φ i s w->φ i s' w) (hφ:∀ i v w w',R w w'->φ i v w->φ i v w') (hst:StepsT P l.toArray Q C φ R a0 0 l)
  (hQ:∀(f:Oper->Value) w,C w->(∀ i o,l[i]?=some o->φ i (slots (putAll f l a0)) w)->Q .normal (putAll f l a0) w):(Code.region id l.toArray true).wp P Q a0 w:=by
 simp only[Bool.and_eq_true]at hB;refine wp_region_any hm (wpAny_tie (C:=C) (φ:=φ) (R:=R) (a0:=a0) rd rk hB.1.1.1 hB.1.1.2 (inside_spec hB.2) hB.1.2 hrd hφ hst (fun f w hC h=>hQ f w hC (fun i o ho=>h i o (by simpa using ho))) _ _ _ w.drew (by simp) (by simp) hC rfl rfl (fun _ _=>rfl) ?_);intro i o hi;simp at hi;rcases Nat.lt_or_ge i l.length with h | h
 ·simp[h]at hi
 ·simp[Nat.not_lt.2 h]at hi
/-! What each kind of operation must do. -/
theorem tt_val{k:Nat}{o:Oper}{a:Act}{w:World}(v:Value)(hw:Region.wanted o (yielded ops a.tmps)=true)(hr:(execOp a.eval o).run P w=.ok (.value v) w)(hC:C w)(hv:φ k (slots (a.put o.dst v)) w)(hR:R w w):StepT P ops Q C φ R k o a w:=by
 unfold StepT;rw[if_pos hw];unfold Oper.wp;rw[hr];exact⟨v,rfl,hC,hv,hR⟩
theorem tt_new{k:Nat}{o:Oper}{a:Act}{w w':World}(v:Value)(hw:Region.wanted o (yielded ops a.tmps)=true)(hr:(execOp a.eval o).run P w=.ok (.value v) w')(hC:C w')(hv:φ k (slots (a.put o.dst v)) w')(hR:R w w'):StepT P ops Q C φ R k o a w:=by
 unfold StepT;rw[if_pos hw];unfold Oper.wp;rw[hr];exact⟨v,rfl,hC,hv,hR⟩
theorem tt_v{k:Nat}{o:Oper}{a:Act}{w w':World}(s:Sem Value)(v:Value)(hw:Region.wanted o (yielded ops a.tmps)=true)(ho:execOp a.eval o=(do let x <- s;pure (.value x)))(hr:s.run P w=.ok v w')(hC:C w')(hv:φ k (slots (a.put o.dst v)) w')(hR:R w w'):StepT P ops Q C φ R k o a w :=
 tt_new v hw (by rw[ho];simp only[Sem.run_bind,hr,Result.andThen_ok,Sem.run_pure]) hC hv hR
theorem slots_put(a:Act)(d:Nat)(v:Value)(h:d<a.tmps.size):slots (a.put (some d) v) d=v:=put_same a d v h
theorem slots_other(a:Act)(d t:Nat)(v:Value)(h:d≠t):slots (a.put (some d) v) t=slots a t:=put_other a (some d) v t (by simpa using h)
theorem tt_load{k:Nat}{o:Oper}{a:Act}{w:World}(T:TypeId)(x:Operand)(p v:Value)(ho:o.op=.load T x)(hw:Region.wanted o (yielded ops a.tmps)=true)(hp:a.eval x=p)
  (hr:(Instr.loadAt T p).run P w=.ok v w) (hC:C w) (hv:φ k (slots (a.put o.dst v)) w) (hR:R w w):StepT P ops Q C φ R k o a w :=
 tt_val v hw (by
  unfold execOp;rw[ho];simp only[hp,Sem.run_bind,hr,Result.andThen_ok,Sem.run_pure]) hC hv hR
theorem tt_call{k:Nat}{o:Oper}{a:Act}{w:World}(f:FuncId)(args:Array Value)(hw:Region.wanted o (yielded ops a.tmps)=true)(he:(execOp a.eval o).run P w=.ok (.enter f args) w)
  (hc:Calls P f args w fun e w'=>∃ v,e=.returned v/\C w'/\φ k (slots (a.put o.dst v)) w'/\R w w'):StepT P ops Q C φ R k o a w:=by
 unfold StepT;rw[if_pos hw];unfold Oper.wp;rw[he];refine Calls.mono hc ?_;rintro e w' ⟨v,rfl,h1,h2,h3⟩;exact⟨v,rfl,h1,h2,h3⟩
theorem tt_store{k:Nat}{o:Oper}{a:Act}{w w':World}(hw:Region.wanted o (yielded ops a.tmps)=true)(hd:o.dst=none)(hr:(execOp a.eval o).run P w=.ok .skip w')(hC:C w')(hv:φ k (slots a) w')(hR:R w w'):StepT P ops Q C φ R k o a w:=by
 unfold StepT;rw[if_pos hw];unfold Oper.wp;rw[hr];refine⟨undef,by rw[hd],hC,?_,hR⟩;rw[hd];exact hv
end
structure RT (h:Nat) (F:TypeId->Array Value) (w w':World):Prop where
 size:w.heap.size<=w'.heap.size
 below:∀(k:Nat),k<h->w'.heap[k]?=w.heap[k]?
 shape:∀(k:Nat) (cs:Array Value) (T:TypeId) (fz:Nat × Nat),w.heap[k]?=some (.cells cs T fz)->∃ cs':Array Value,w'.heap[k]?=some (.cells cs' T fz)/\cs'.size=cs.size
 keep:∀(k:Nat) (T:TypeId) (fz:Nat × Nat),w.heap[k]?=some (.cells (F T) T fz)->w'.heap[k]?=some (.cells (F T) T fz)
theorem RT.refl(h:Nat)(F:TypeId->Array Value)(w:World):RT h F w w:=⟨Nat.le_refl _,fun _ _=>rfl,fun _ cs _ _ e=>⟨cs,e,rfl⟩,fun _ _ _ e=>e⟩
theorem RT.of{h:Nat}{F:TypeId->Array Value}{w w':World}(hh:h<=w.heap.size)(hb:Below w.heap.size w w'):RT h F w w':=by
 have lt:∀ {k:Nat} {o:Obj},w.heap[k]?=some o->k<w.heap.size:=fun e=>(Array.getElem?_eq_some_iff.1 e).1;exact⟨hb.size,fun k hk=>hb.block k (by omega),fun k cs T fz e=>⟨cs,(hb.block k (lt e)).trans e,rfl⟩,fun _ _ _ e=>(hb.block _ (lt e)).trans e⟩
theorem RT.row{h g:Nat}{F:TypeId->Array Value}{w:World}{cs:Array Value}{T:TypeId}{fz:Nat × Nat}(hg:h<=g)(e:w.heap[g]?=some (.cells cs T fz))(hs:cs.size=(F T).size):RT h F w (w.setRow g (F T)):=by
 refine⟨Nat.le_of_eq (setRow_size w g (F T)).symm,fun k hk=>setRow_other _ _ _ _ (by omega),fun k cs' T' fz' e'=>?_,fun k T' fz' e'=>?_⟩
 ·by_cases q:k=g
  ·subst q
   rw[e]at e';cases e';exact⟨_,setRow_heap _ _ _ _ _ _ e,hs.symm⟩
  ·exact⟨cs',(setRow_other _ _ _ _ q).trans e',rfl⟩
 ·by_cases q:k=g
  ·subst q
   rw[e]at e';cases e';exact setRow_heap _ _ _ _ _ _ e
  ·exact(setRow_other _ _ _ _ q).trans e'
open Go.RowKit
section
variable {P:Program} {ops:Array Oper} {Q:Exit->Act->World->Prop} {C:World->Prop} {φ:Nat->(Nat->Value)->World->Prop} {R:World->World->Prop} {a0:Act}
def pst(C D:World->Prop)(last k:Nat)(w:World):Prop:=match Nat.beq k last with
 | true=>D w
 | false=>C w
end
open Go.RowKit
def depB(ops:Array Oper):Nat->Nat->Nat->Bool
 | 0,_,_=>false
 | n+1,j,i=>match ops[j]? with
  | some o=>o.after.any fun e=>Region.binds .any e&&(e.on == i||depB ops n e.on i)
  | none=>false
theorem dep_listed{ops:Array Oper}{listed:Array Bool}(h:∀ j o,listed.getD j false=true->ops[j]?=some o->∀ e∈o.after,Region.binds .any e=true->listed.getD e.on false=true) :
  ∀ n j i,depB ops n j i=true->listed.getD j false=true->listed.getD i false=true
 | 0,j,i,hd,_=>by simp[depB]at hd
 | n+1,j,i,hd,hj=>by
  unfold depB at hd;cases ho:ops[j]? with
  | none=>rw[ho]at hd;cases hd
  | some o =>
   rw[ho]at hd;rw[Array.any_eq_true]at hd;obtain⟨k,hk,h3⟩:=hd;have he:o.after[k]∈o.after:=Array.getElem_mem hk;generalize o.after[k]=e at *;simp only[Bool.and_eq_true,Bool.or_eq_true,beq_iff_eq]at h3;have hl:=h j o hj ho e he h3.1;rcases h3.2 with h4 | h4
   ·rw[<- h4];exact hl
   ·exact dep_listed h n e.on i h4 hl
def laterB(ops:Array Oper)(i t:Nat):Bool:=(List.range ops.size).all fun j=>match ops[j]? with
 | some o=>!(o.dst == some t)||depB ops ops.size j i
 | none=>true
theorem later_spec{ops:Array Oper}{i t:Nat}(h:laterB ops i t=true)(j:Nat)(o:Oper)(ho:ops[j]?=some o)(hd:o.dst=some t):depB ops ops.size j i=true:=by
 unfold laterB at h;rw[List.all_eq_true]at h;have:=h j (by simpa using(Array.getElem?_eq_some_iff.1 ho).1);rw[ho]at this;simpa[hd]using this
section
variable {P:Program} {ops:Array Oper} {Q:Exit->Act->World->Prop} {C:World->Prop} {φ:Nat->(Nat->Value)->World->Prop} {R:World->World->Prop} {a0:Act}
def KnownV(ops:Array Oper)(φ:Nat->(Nat->Value)->World->Prop)(a0:Act)(i:Nat)(o:Oper)(a:Act)(w:World):Prop :=
 (∀ t,laterB ops i t=true->a.tmps.getD t undef=a0.tmps.getD t undef)/\(∀ e∈o.after,Region.binds .any e=true->∀ oj,ops[e.on]?=some oj->φ e.on (slots a) w)
/-! What each kind of operation must do. -/
end
open Go.RowKit
section
variable {P:Program} {ops:Array Oper} {Q:Exit->Act->World->Prop} {C:World->Prop} {φ:Nat->(Nat->Value)->World->Prop} {R:World->World->Prop} {a0:Act}
def StepsTS(P:Program)(ops:Array Oper)(Q:Exit->Act->World->Prop)(C D:World->Prop)(st:Nat)(φ:Nat->(Nat->Value)->World->Prop)(R:World->World->Prop)(a0:Act):Nat->List Oper->Prop
 | _,[]=>True
 | k,o::l=>(∀ a w,C w->a.tmps.size=a0.tmps.size->KnownV ops φ a0 k o a w->Region.wanted o (yielded ops a.tmps)=true/\StepT P ops Q (pst C D st k) φ R k o a w)/\(depB ops ops.size st k=true\/k=st\/∀ a w,D w->a.tmps.size=a0.tmps.size->KnownV ops φ a0 k o a w->Region.wanted o (yielded ops a.tmps)=true/\StepT P ops Q D φ R k o a w)/\StepsTS P ops Q C D st φ R a0 (k+1) l
theorem StepsTS.at_{D:World->Prop}{st:Nat}:∀ {l:List Oper} {k:Nat},StepsTS P ops Q C D st φ R a0 k l->∀(i:Nat) (o:Oper),l[i]?=some o->(∀ a w,C w->a.tmps.size=a0.tmps.size->KnownV ops φ a0 (k+i) o a w->Region.wanted o (yielded ops a.tmps)=true/\StepT P ops Q (pst C D st (k+i)) φ R (k+i) o a w)/\(depB ops ops.size st (k+i)=true\/k+i=st\/∀ a w,D w->a.tmps.size=a0.tmps.size->KnownV ops φ a0 (k+i) o a w->Region.wanted o (yielded ops a.tmps)=true/\StepT P ops Q D φ R (k+i) o a w)
 | [],_,_,i,o,hi=>by simp at hi
 | o::l,k,h,0,o',hi=>by simp at hi;subst hi;exact⟨h.1,h.2.1⟩
 | o::l,k,h,i+1,o',hi=>by
  have:=StepsTS.at_ h.2.2 i o' (by simpa using hi);rwa [show k+1+i=k+(i+1) by omega]at this
theorem stepT_mono{C C':World->Prop}{k:Nat}{o:Oper}{a:Act}{w:World}(h:∀ w,C w->C' w)(hs:StepT P ops Q C φ R k o a w):StepT P ops Q C' φ R k o a w:=by
 unfold StepT at hs |-
 split
 ·rename_i hw
  rw[if_pos hw]at hs;exact Oper.wp_mono (fun a' w' ⟨v,h1,h2,h3,h4⟩=>⟨v,h1,h w' h2,h3,h4⟩) hs
 ·rename_i hw
  rw[if_neg hw]at hs;exact hs
theorem wpAny_tieS{D:World->Prop}(st:Nat)(hst0:st<ops.size)(rd:Nat->List Nat)(rk:Nat->Nat)(hdist:distinctB ops.toList=true)(hlex:rankB ops rk=true)(hon:∀(i:Nat) (o:Oper),ops[i]?=some o->∀ e∈o.after,e.on<ops.size)(hown:ownB ops rd=true)
  (hrd:∀ i s s' w,(∀ t∈rd i,s t=s' t)->φ i s w->φ i s' w)
  (hφ:∀ i v w w',R w w'->φ i v w->φ i v w') (hst:StepsTS P ops Q C D st φ R a0 0 ops.toList)
  (hQ:∀(f:Oper->Value) w,D w->(∀ i o,ops[i]?=some o->φ i (slots (putAll f ops.toList a0)) w)->Q .normal (putAll f ops.toList a0) w) :
  ∀(fuel:Nat) (listed:Array Bool) (a:Act) (w:World),listed.size=ops.size->listed.toList.count false<=fuel->((listed.getD st false=false->C w)/\(listed.getD st false=true->D w))->a.tmps.size=a0.tmps.size->a.defers=a0.defers ->
   (∀ t,(∀ j o,ops[j]?=some o->o.dst=some t->listed.getD j false=false)->a.tmps.getD t undef=a0.tmps.getD t undef)->(∀ i o,listed.getD i false=true->ops[i]?=some o->φ i (slots a) w/\∀ e∈o.after,Region.binds .any e=true->listed.getD e.on false=true)->wpAny P .any ops Q fuel listed a w:=by
 have done:∀(listed:Array Bool) (a:Act) (w:World),(∀ i,i<ops.size->listed.getD i false=true)->((listed.getD st false=false->C w)/\(listed.getD st false=true->D w))->a.tmps.size=a0.tmps.size->a.defers=a0.defers ->
   (∀ t,(∀ j o,ops[j]?=some o->o.dst=some t->listed.getD j false=false)->a.tmps.getD t undef=a0.tmps.getD t undef)->(∀ i o,listed.getD i false=true->ops[i]?=some o->φ i (slots a) w/\∀ e∈o.after,Region.binds .any e=true->listed.getD e.on false=true)->Q .normal a w:=by
  intro listed a w hall hC hs hd hk hp;have hb:=put_back hs hd (fun t ht=>hk t (fun j o ho hd'=>by
   simp only[isDst,List.any_eq_false]at ht;have hm:o∈ops.toList:=List.mem_of_getElem? (i:=j) (by simpa using ho);exact absurd (show(o.dst == some t)=true by simp[hd']) (ht o hm)))
  rw[hb];exact hQ _ w (hC.2 (hall st hst0)) (fun i o ho=>by rw[<- hb];exact(hp i o (hall i (Array.getElem?_eq_some_iff.1 ho).1) ho).1)
 intro fuel
 induction fuel with
 | zero =>
  intro listed a w hsz hc hC hs hd hk hp;have hno:false ∉ listed.toList:=List.count_eq_zero.1 (by omega);have hall:∀ i,i<ops.size->listed.getD i false=true:=fun i hi=>by
   have hlt:i<listed.size:=by omega
   have hm:listed[i]∈listed.toList:=by simp
   simp only[Array.getD_eq_getD_getElem?,hlt,Array.getElem?_eq_getElem,Option.getD_some];cases h:listed[i]with
   | true=>rfl
   | false=>rw[h]at hm;exact absurd hm hno
  refine⟨?_,done listed a w hall hC hs hd hk hp⟩;rw[List.eq_nil_iff_forall_not_mem];intro j hj;obtain⟨h0,o,ho,-⟩:=mem_ready.1 hj;have hlt:=(Array.getElem?_eq_some_iff.1 ho).1;have h1:=hall j hlt;simp[show j<listed.size by omega]at h0 h1;rw[h0]at h1;cases h1
 | succ fuel ih =>
  intro listed a w hsz hc hC hs hd hk hp;refine⟨fun hr=>?_,fun i hi=>?_⟩
  ·refine done listed a w ?_ hC hs hd hk hp
   -- the least that isn't listed would be ready
   have key:∀ r i,rk i<r->i<ops.size->listed.getD i false=true:=by
    intro r
    induction r with
    | zero=>intro i h;omega
    | succ r ihr =>
     intro i hri hi;cases h:listed.getD i false with
     | true=>rfl
     | false =>
      have ho:ops[i]?=some ops[i]:=Array.getElem?_eq_getElem hi;have:i∈Region.ready .any ops listed:=mem_ready.2 ⟨by simpa[show i<listed.size by omega]using h,ops[i],ho,fun e he hb=>by
       have hl:=hlex;unfold rankB at hl;rw[List.all_eq_true]at hl;have:=hl i (by simpa using hi);rw[ho]at this;simp only[Array.all_eq_true_iff_forall_mem]at this;have hlt:=this e he;rw[hb]at hlt;simp at hlt;exact ihr e.on (by omega) (hon i _ ho e he)⟩
      rw[hr]at this;cases this
   exact fun i hi=>key (rk i+1) i (by omega) hi
  ·obtain⟨h0,o,ho,hall⟩:=mem_ready.1 hi
   have hlt:i<ops.size:=(Array.getElem?_eq_some_iff.1 ho).1;have hl':ops.toList[i]?=some o:=by simpa using ho
   have hKn:KnownV ops φ a0 i o a w:=⟨fun t ht=>hk t (fun j oj hoj hdj=>by
    have hdep:=later_spec ht j oj hoj hdj;cases hl:listed.getD j false with
    | false=>rfl
    | true =>
     have:=dep_listed (fun j o h1 h2=>(hp j o h1 h2).2) _ _ _ hdep hl;rw[getD_both h0]at this;cases this),fun e he hb oj hj=>(hp e.on oj (by have:=hall e he hb;simpa using this) hj).1⟩
   have h8:listed.getD i false=false:=getD_both h0;have hst2:=hst.at_ i o hl';rw[Nat.zero_add]at hst2;have hpick:Region.wanted o (yielded ops a.tmps)=true/\StepT P ops Q (fun w'=>((listed.setIfInBounds i true).getD st false=false->C w')/\((listed.setIfInBounds i true).getD st false=true->D w')) φ R i o a w:=by
    by_cases e:i=st
    ·have hc1:=hC.1 (by rw[<- e];exact h8)
     obtain⟨hw,h1⟩:=hst2.1 a w hc1 hs hKn;refine⟨hw,stepT_mono (fun w' h=>⟨fun h9=>?_,fun _=>?_⟩) h1⟩
     ·rw[e,getD_set_same (by omega)]at h9;cases h9
     ·unfold pst at h
      rw[show Nat.beq i st=true from by rw[e];exact Nat.beq_refl st]at h;exact h
    ·have hne:Nat.beq i st=false:=by
      cases hb:Nat.beq i st with
      | false=>rfl
      | true=>exact absurd (Nat.eq_of_beq_eq_true hb) e
     cases hll:listed.getD st false with
     | false =>
      obtain⟨hw,h1⟩:=hst2.1 a w (hC.1 hll) hs hKn;refine⟨hw,stepT_mono (fun w' h=>⟨fun _=>?_,fun h9=>?_⟩) h1⟩
      ·unfold pst at h;rw[hne]at h;exact h
      ·rw[getD_set_ne false e,hll]at h9;cases h9
     | true =>
      rcases hst2.2 with h2 | h2 | h2
      ·have:=dep_listed (fun j o h1 h2=>(hp j o h1 h2).2) _ _ _ h2 hll
       rw[h8]at this;cases this
      ·exact absurd h2 e
      ·obtain⟨hw,h1⟩:=h2 a w (hC.2 hll) hs hKn
       refine⟨hw,stepT_mono (fun w' h=>⟨fun h9=>?_,fun _=>h⟩) h1⟩;rw[getD_set_ne false e,hll]at h9;cases h9
   obtain⟨hwant,hstep⟩:=hpick;have go:∀(v:Value) (w':World),(((listed.setIfInBounds i true).getD st false=false->C w')/\((listed.setIfInBounds i true).getD st false=true->D w'))->φ i (slots (a.put o.dst v)) w'->(∀ j u,φ j u w->φ j u w')->wpAny P .any ops Q fuel (listed.setIfInBounds i true) (a.put o.dst v) w':=by
    intro v w' hC' hv hm;refine ih _ _ _ (by simpa using hsz) ?_ hC' (by rw[put_size];exact hs) (by rw[put_defers];exact hd) ?_ ?_
    ·have hil:i<listed.size:=by omega
     have e0:listed[i]=false:=by simpa[hil]using h0
     rw[Array.toList_setIfInBounds,List.count_set (by simpa using hil)];have:listed.toList[i]'(by simpa using hil)=false:=by simpa using e0
     simp only[this];simp;have hpos:0<listed.toList.count false:=List.count_pos_iff.2 (by rw[<- e0];simp);simp at hpos;simp at hc;omega
    ·intro t ht
     have hne:o.dst≠some t:=fun e=>by
      have h1:=ht i o ho e;rw[getD_set_same (by omega)]at h1;cases h1
     rw[put_other _ _ _ _ hne];refine hk t (fun j oj hoj hdj=>?_);have h1:=ht j oj hoj hdj;by_cases q:i=j
     ·subst q;rw[getD_set_same (by omega)]at h1;cases h1
     ·rwa [getD_set_ne false q]at h1
    ·intro j oj hj hoj
     by_cases e:i=j
     ·subst e
      have:oj=o:=Option.some.inj (hoj.symm.trans ho);subst this;refine⟨hv,fun e he hb=>?_⟩;have h1:=hall e he hb;by_cases q:i=e.on
      ·rw[<- q];exact getD_set_same (by omega)
      ·rw[getD_set_ne false q];simpa using h1
     ·rw[getD_set_ne false e]at hj
      obtain⟨h1,h2⟩:=hp j oj hj hoj;refine⟨hm _ _ (hrd j _ _ w (fun t ht=>?_) h1),fun e' he hb=>?_⟩
      ·have hne:o.dst≠some t:=fun hd'=>by
        rcases own_spec hown hoj ht with h3 | h3 | ⟨e',he,hb,ok,hok,hkd⟩
        ·exact distinct_spec hdist i j o oj t hl' (by simpa using hoj) e hd' h3
        ·simp only[isDst,List.any_eq_false]at h3
         exact h3 o (List.mem_of_getElem? hl') (by simp[hd'])
        ·have h4:=h2 e' he hb
         have h5:i≠e'.on:=fun q=>by rw[<- q,getD_both h0]at h4;cases h4
         exact distinct_spec hdist i e'.on o ok t hl' (by simpa using hok) h5 hd' hkd
       exact(put_other _ _ _ _ hne).symm
      ·by_cases q:i=e'.on
       ·rw[<- q];exact getD_set_same (by omega)
       ·rw[getD_set_ne false q];exact h2 e' he hb
   unfold wpOp;rw[ho];simp only;unfold StepT at hstep
   split
   ·rename_i hw
    rw[if_pos hw]at hstep;refine .inl (Oper.wp_mono ?_ hstep);rintro a' w' ⟨v,rfl,hC',hv,hR⟩;exact go v w' hC' hv (fun j u h=>hφ j u w w' hR h)
   ·rename_i hw
    exact absurd hwant hw
theorem region_tieS{id:Nat}{l:List Oper}{w:World}(C D:World->Prop)(st:Nat)(φ:Nat->(Nat->Value)->World->Prop)(R:World->World->Prop)(rd:Nat->List Nat)(rk:Nat->Nat)(hm:P.follows .mixedOrders=true)
  (hB:(distinctB l&&rankB l.toArray rk&&ownB l.toArray rd&&insideB l.toArray)=true) (hst0:decide (st<l.length)=true) (hC:C w.drew)
  (hrd:∀ i s s' w,(∀ t∈rd i,s t=s' t)->φ i s w->φ i s' w) (hφ:∀ i v w w',R w w'->φ i v w->φ i v w') (hst:StepsTS P l.toArray Q C D st φ R a0 0 l)
  (hQ:∀(f:Oper->Value) w,D w->(∀ i o,l[i]?=some o->φ i (slots (putAll f l a0)) w)->Q .normal (putAll f l a0) w):(Code.region id l.toArray true).wp P Q a0 w:=by
 simp only[Bool.and_eq_true]at hB;refine wp_region_any hm (wpAny_tieS (C:=C) (D:=D) st (by simpa using hst0) (φ:=φ) (R:=R) (a0:=a0) rd rk hB.1.1.1 hB.1.1.2 (inside_spec hB.2) hB.1.2 hrd hφ hst (fun f w hC h=>hQ f w hC (fun i o ho=>h i o (by simpa using ho))) _ _ _ w.drew (by simp) (by simp) ⟨fun _=>hC,fun h=>?_⟩ rfl rfl (fun _ _=>rfl) ?_)
 ·have h0:=of_decide_eq_true hst0
  simp[h0]at h
 intro i o hi;simp at hi;rcases Nat.lt_or_ge i l.length with h | h
 ·simp[h]at hi
 ·simp[Nat.not_lt.2 h]at hi
end
open Go
section
variable {P:Program} {ops:Array Oper} {md:Region.Mode} {C:World->Prop}
def anyHead(P:Program)(md:Region.Mode)(ops:Array Oper)(C:World->Prop)(n:Nat)(L:Array Bool->Act->Prop):Nat->Array Bool->Act->Prop
 | 0,listed,a=>L listed a
 | f+1,listed,a=>Region.ready md ops listed≠[]/\∀ i∈Region.ready md ops listed,i<n/\qOp P ops C i (anyHead P md ops C n L f (listed.setIfInBounds i true)) a
theorem any_of_head{n g:Nat}{L:Array Bool->Act->Prop}{Q':Exit->Act->World->Prop}(hL:∀ listed a w,C w->L listed a->wpAny P md ops Q' g listed a w) :
  ∀(f:Nat) (listed:Array Bool) (a:Act) (w:World),C w->anyHead P md ops C n L f listed a->wpAny P md ops Q' (f+g) listed a w
 | 0,listed,a,w,hw,h=>by rw[Nat.zero_add];exact hL _ _ _ hw h
 | f+1,listed,a,w,hw,h=>by
  rw[show f+1+g=(f+g)+1 by omega];exact⟨fun h0=>absurd h0 h.1,fun i hi=>wpOp_of_qOp hw (fun a' w' hw' h'=>any_of_head hL f _ a' w' hw' h') (h.2 i hi).2⟩
theorem head_first{n i:Nat}{oi:Oper}{v:Value}{L:Array Bool->Act->Prop}(hi:ops[i]?=some oi)(hsel:∀(j:Nat) (o:Oper) cs b,ops[j]?=some o->o.op≠.select cs b)
  (hs:Region.sinkB md ops n=true) (hc:Region.chainB md ops n=true) (hn:n<ops.size) (hin:i<n)
  (hdone:∀ listed a,L listed a->∀ j∈Region.ready md ops listed,n<=j) :
  ∀(f:Nat) (listed:Array Bool) (a:Act),HeadInv md ops n listed ->
   (∀ j oj,ops[j]?=some oj->j≠i->listed.getD j true=false->(∀ e∈oj.after,Region.binds md e=true->e.on≠i)->oi.apart ops oj=true) ->
   i∈Region.ready md ops listed->YieldsIn P ops C oi v a ->
   anyHead P md ops C n L f (listed.setIfInBounds i true) (a.put oi.dst v)->anyHead P md ops C n L (f+1) listed a:=by
 intro f
 induction f with
 | zero =>
  intro listed a inv _ hr hy H;have hun:=(mem_ready.1 hr).1;refine⟨fun h=>(by rw[h]at hr;cases hr),fun j hj=>?_⟩;have hjn:j<n:=by
   rcases Nat.lt_or_ge j n with h | h
   ·exact h
   ·exact absurd hj (tail_waits hs hc hn inv _ i rfl hin hun j h)
  refine⟨hjn,?_⟩;by_cases hji:j=i
  ·subst hji;exact hy.qOp hi H
  ·have:=hdone _ _ H j (ready_mono hj hji)
   omega
 | succ f ih =>
  intro listed a inv hfree hr hy H;have hun:=(mem_ready.1 hr).1;refine⟨fun h=>(by rw[h]at hr;cases hr),fun j hj=>?_⟩;have hjn:j<n:=by
   rcases Nat.lt_or_ge j n with h | h
   ·exact h
   ·exact absurd hj (tail_waits hs hc hn inv _ i rfl hin hun j h)
  refine⟨hjn,?_⟩;by_cases hji:j=i
  ·subst hji;exact hy.qOp hi H
  ·have h1:=(H.2 j (ready_mono hj hji)).2
   obtain⟨hjun,oj,hoj,hall⟩:=mem_ready.1 hj;have hnot:∀ e∈oj.after,Region.binds md e=true->e.on≠i:=fun e he hb heq=>by
    have h1:=hall e he hb;rw[heq,getD_both hun]at h1;cases h1
   have h2:=qOp_put hoj (hfree j oj hoj hji hjun hnot) (fun cs b=>hsel i oi cs b hi) (fun cs b=>hsel j oj cs b hoj) hy h1;have hfree':∀ k ok,ops[k]?=some ok->k≠i->(listed.setIfInBounds j true).getD k true=false ->
     (∀ e∈ok.after,Region.binds md e=true->e.on≠i)->oi.apart ops ok=true:=fun k ok hk hki hun hno=>by
    refine hfree k ok hk hki ?_ hno;by_cases hjk:j=k
    ·subst hjk;exact hjun
    ·rw[getD_set_ne true hjk]at hun;exact hun
   refine qOp_mono (fun a' h3=>ih (listed.setIfInBounds j true) a' (inv.set hj hjn) hfree' (ready_mono hr (Ne.symm hji)) h3.1 ?_) h2;rw[Array.setIfInBounds_comm _ _ hji];exact h3.2
theorem head_lex{n g:Nat}{Lq:Act->Prop}(hsel:Region.noSelect ops=true)(hs:Region.sinkB md ops n=true)(hc:Region.chainB md ops n=true)(hn:n<ops.size) :
  ∀(l:List Oper) (k:Nat) (listed:Array Bool) (a:Act),(∀ j,j<l.length->l[j]?=ops[k+j]?)->k+l.length=n->HeadInv md ops n listed ->
  Region.lexHead md ops g l.length k listed=true->wpQuiet P ops C Lq l a ->
  anyHead P md ops C n (fun listed' a'=>Region.seqB md ops g n listed'=true/\Lq a') l.length listed a
 | [],k,listed,a,_,hk,_,hB,h=>by
  have:k=n:=by simpa using hk
  subst this;exact⟨by simpa[Region.lexHead]using hB,h⟩
 | o::l,k,listed,a,hl,hk,inv,hB,h=>by
  have h0:ops[k]?=some o:=by simpa using(hl 0 (by simp)).symm
  simp only[List.length_cons,Region.lexHead,Bool.and_eq_true]at hB;obtain⟨⟨hr,hf⟩,hB'⟩:=hB;have hkn:k<n:=by simp only[List.length_cons]at hk;omega
  have hr':k∈Region.ready md ops listed:=by simpa using hr
  have hst:qOp P ops C k (wpQuiet P ops C Lq l) a:=by unfold qOp;simp only[h0];exact h
  obtain⟨v,hy,hK⟩:=yieldsIn_of_qOp h0 hst;exact head_first h0 (Region.noSelect_spec hsel) hs hc hn hkn (fun listed' a' hL=>seqB_ready hL.1) l.length listed a inv (Region.free_spec h0 hf) hr' hy
   (head_lex hsel hs hc hn l (k+1) _ _ (fun j hj=>by have:=hl (j+1) (by simp;omega);simpa[Nat.add_assoc,Nat.add_comm 1 j]using this) (by simp only[List.length_cons]at hk;omega) (inv.set hr' hkn) hB' hK)
theorem region_quiet_tail{id:Nat}{Q:Exit->Act->World->Prop}{a:Act}{w:World}{l:List Oper}(n:Nat)(C:World->Prop)(hm:P.follows .mixedOrders=true)(hB:Region.lexTailB .any l.toArray n=true)(hC:C w.drew)
  (h:wpQuiet P l.toArray C (fun a'=>∀ w',C w'->wpList P l.toArray Q (l.drop n) a' w') (l.take n) a):(Code.region id l.toArray true).wp P Q a w:=by
 simp only[Region.lexTailB,Bool.and_eq_true,decide_eq_true_eq]at hB;obtain⟨⟨⟨⟨hsel,hn⟩,hs⟩,hc⟩,hlex⟩:=hB;have hn':n<l.length:=by simpa using hn
 have htl:(l.take n).length=n:=by simp;omega
 have hdl:(l.drop n).length=l.toArray.size - n:=by simp
 have inv0:HeadInv .any l.toArray n (Array.replicate l.toArray.size false) :=
  ⟨by simp,fun j oj _ hl=>(by rw[getD_replicate_false]at hl;cases hl),fun t _ ht=>getD_in (by simpa using ht) (getD_replicate_false _ _)⟩
 have H:=head_lex (md:=.any) (g:=l.toArray.size - n) hsel hs hc hn (l.take n) 0 _ a (fun j hj=>by
  have hj':j<n:=by rw[htl]at hj;exact hj
  simp[hj']) (by simpa using htl) inv0 (by rw[htl];exact hlex) h
 refine wp_region_any hm ?_;have:=any_of_head (Q':=Q) (g:=l.toArray.size - n) (fun listed a' w' hw' hL=>by
  have:=wpAny_of_seq (md:=.any) (Q':=Q) (l.drop n) n listed a' w' (fun j=>by simp[List.getElem?_drop]) (by rw[hdl];exact hL.1) (hL.2 w' hw');rwa [hdl]at this) _ _ _ w.drew hC H
 rw[htl,show n+(l.toArray.size - n)=l.toArray.size by omega]at this;exact this
end
open Go.RowKit
section
variable {P:Program} {ops:Array Oper} {C:World->Prop} {Q:Act->Prop} {a:Act} {o:Oper} {rest:List Oper}
theorem q_skip(hw:Region.wanted o (yielded ops a.tmps)=false)(h:wpQuiet P ops C Q rest (a.put o.dst undef)):wpQuiet P ops C Q (o::rest) a :=
 wpQuiet_step fun K hK=>by rw[if_neg (by rw[hw];exact Bool.false_ne_true)];exact hK _ h
theorem q_step(v:Value)(hw:Region.wanted o (yielded ops a.tmps)=true)(hv:∀ w,C w->o.quietAt P a C w v)(h:wpQuiet P ops C Q rest (a.put o.dst v)):wpQuiet P ops C Q (o::rest) a :=
 wpQuiet_step fun K hK=>by rw[if_pos hw];exact⟨v,hv,hK _ h⟩
theorem q_val(v:Value)(hw:Region.wanted o (yielded ops a.tmps)=true)(hv:∀ w,C w->(execOp a.eval o).run P w=.ok (.value v) w)(h:wpQuiet P ops C Q rest (a.put o.dst v)):wpQuiet P ops C Q (o::rest) a :=
 q_step v hw (fun w hC=>by unfold Oper.quietAt;rw[hv w hC];exact⟨rfl,rfl⟩) h
theorem q_load(T:TypeId)(x:Operand)(p v:Value)(ho:o.op=.load T x)(hw:Region.wanted o (yielded ops a.tmps)=true)(hp:a.eval x=p)
  (hv:∀ w,C w->(Instr.loadAt T p).run P w=.ok v w) (h:wpQuiet P ops C Q rest (a.put o.dst v)):wpQuiet P ops C Q (o::rest) a :=
 q_val v hw (fun w hC=>by
  unfold execOp;rw[ho];simp only[hp,Sem.run_bind,hv w hC,Result.andThen_ok,Sem.run_pure]) h
theorem q_call(f:FuncId)(args:Array Value)(v:Value)(hw:Region.wanted o (yielded ops a.tmps)=true)(he:∀ w,(execOp a.eval o).run P w=.ok (.enter f args) w)
  (hv:∀ w,C w->Calls P f args w fun e w'=>e=.returned v/\C w') (h:wpQuiet P ops C Q rest (a.put o.dst v)):wpQuiet P ops C Q (o::rest) a :=
 q_step v hw (fun w hC=>by unfold Oper.quietAt;rw[he w];exact⟨rfl,hv w hC⟩) h
theorem q_bin(op:BinOp)(T:TypeId)(x y:Operand)(t:TypeId)(u v r:Value)(ho:o.op=.binOp op T x y t)(hw:Region.wanted o (yielded ops a.tmps)=true)(hx:a.eval x=u)(hy:a.eval y=v)
  (hg:∀ w,(eqGuard op T x y u v).run P w=.ok () w) (hb:∀ w,(binOp op T u v).run P w=.ok r w) (h:wpQuiet P ops C Q rest (a.put o.dst r)):wpQuiet P ops C Q (o::rest) a :=
 q_val r hw (fun w hC=>by
  unfold execOp;rw[ho];simp only[hx,hy,Sem.run_bind,hg w,hb w,Result.andThen_ok,Sem.run_pure]) h
end
end Go.Proofs.YtfmpjjhdocejiaaGreat
namespace Go.Proofs
open Go.Shelf
def Tryz.lays134_ren:Go.Shelf.Ren:=⟨fun | 134=>116 | 129=>103 | n=>n,fun | 53=>22 | 3=>3 | 4=>4 | 46=>101 | 5=>5 | 9=>9 | n=>n,fun | n=>n⟩
theorem Tryz.lays134:Go.Proofs.Lays.n134 Tryz.prog Tryz.lays134_ren:={
 mixed:=by kernel_rfl
 f129:=Tryz.func103.trans (congrArg some (by kernel_rfl))
 f134:=Tryz.func116.trans (congrArg some (by kernel_rfl))
 t3:=Tryz.underlying3
 a3:=Tryz.isAgg3
 z3:=Tryz.sizeOf3
 v3:=Tryz.zeroValue3
 t4:=Tryz.underlying4
 a4:=Tryz.isAgg4
 z4:=Tryz.sizeOf4
 v4:=Tryz.zeroValue4
 t5:=Tryz.underlying5
 a5:=Tryz.isAgg5
 z5:=Tryz.sizeOf5
 v5:=Tryz.zeroValue5
 t9:=Tryz.underlying9
 a9:=Tryz.isAgg9
 z9:=Tryz.sizeOf9
 v9:=Tryz.zeroValue9
 t46:=Tryz.underlying101
 a46:=Tryz.isAgg101
 z46:=Tryz.sizeOf101
 v46:=Tryz.zeroValue101
 t53:=Tryz.underlying22
 a53:=Tryz.isAgg22
 z53:=Tryz.sizeOf22
 v53:=Tryz.zeroValue22 }
theorem Tryz.bits_LeadingZeros64(x:Int)(w:World)(h0:0<=x)(h1:x<=18446744073709551615) :
  Calls Tryz.prog 116 #[.int .u64 x] w fun e w'=>e=.returned (.int .i64 (64 - (Lib.bitLen x.toNat:Int)))/\w'=w:=Any.bits_LeadingZeros64 Tryz.lays134 x w h0 h1
def Tryz.lays129_ren:Go.Shelf.Ren:=⟨fun | 129=>103 | n=>n,fun | 53=>22 | 3=>3 | 4=>4 | 46=>101 | 5=>5 | 9=>9 | n=>n,fun | n=>n⟩
theorem Tryz.lays129:Go.Proofs.Lays.n129 Tryz.prog Tryz.lays129_ren:={
 mixed:=by kernel_rfl
 f129:=Tryz.func103.trans (congrArg some (by kernel_rfl))
 t3:=Tryz.underlying3
 a3:=Tryz.isAgg3
 z3:=Tryz.sizeOf3
 v3:=Tryz.zeroValue3
 t4:=Tryz.underlying4
 a4:=Tryz.isAgg4
 z4:=Tryz.sizeOf4
 v4:=Tryz.zeroValue4
 t5:=Tryz.underlying5
 a5:=Tryz.isAgg5
 z5:=Tryz.sizeOf5
 v5:=Tryz.zeroValue5
 t9:=Tryz.underlying9
 a9:=Tryz.isAgg9
 z9:=Tryz.sizeOf9
 v9:=Tryz.zeroValue9
 t46:=Tryz.underlying101
 a46:=Tryz.isAgg101
 z46:=Tryz.sizeOf101
 v46:=Tryz.zeroValue101
 t53:=Tryz.underlying22
 a53:=Tryz.isAgg22
 z53:=Tryz.sizeOf22
 v53:=Tryz.zeroValue22 }
theorem Tryz.bits_Len64(x:Int)(w:World)(h0:0<=x)(h1:x<=18446744073709551615) :
  Calls Tryz.prog 103 #[.int .u64 x] w fun e w'=>e=.returned (.int .i64 (Lib.bitLen x.toNat))/\w'=w:=Any.bits_Len64 Tryz.lays129 x w h0 h1
def Tryz.lays264_ren:Go.Shelf.Ren:=⟨fun | 264=>121 | n=>n,fun | 53=>22 | 46=>101 | n=>n,fun | n=>n⟩
theorem Tryz.lays264:Go.Proofs.Lays.n264 Tryz.prog Tryz.lays264_ren:={
 mixed:=by kernel_rfl
 f264:=Tryz.func121.trans (congrArg some (by kernel_rfl))
 t46:=Tryz.underlying101
 a46:=Tryz.isAgg101
 z46:=Tryz.sizeOf101
 v46:=Tryz.zeroValue101
 t53:=Tryz.underlying22
 a53:=Tryz.isAgg22
 z53:=Tryz.sizeOf22
 v53:=Tryz.zeroValue22 }
open Go.RowKit Go.Lib in
theorem Tryz.bits_Mul64(x y:Nat)(hx:x<18446744073709551616)(hy:y<18446744073709551616)(w:World) :
  Calls Tryz.prog 121 #[.int .u64 x,.int .u64 y] w fun e w'=>e=.returned (.tuple #[.int .u64 ((x*y / 18446744073709551616:Nat):Int),.int .u64 ((x*y%18446744073709551616:Nat):Int)])/\w'=w:=Any.bits_Mul64 Tryz.lays264 x y hx hy w
end Go.Proofs
namespace Go.Proofs.YtfmpjjhdocejiaaGreat
open Go.RowKit
def wv(x:Nat):Value:=.agg #[.int .u64 ((x%18446744073709551616:Nat):Int),.int .u64 ((x / 18446744073709551616%18446744073709551616:Nat):Int),.int .u64 ((x / 340282366920938463463374607431768211456%18446744073709551616:Nat):Int),.int .u64 ((x / 6277101735386680763835789423207666416102355444464034512896%18446744073709551616:Nat):Int)]
def n4(a0 a1 a2 a3:Nat):Nat:=a0+18446744073709551616*a1+340282366920938463463374607431768211456*a2+6277101735386680763835789423207666416102355444464034512896*a3
theorem wv_n4{a0 a1 a2 a3:Nat}(h0:a0<18446744073709551616)(h1:a1<18446744073709551616)(h2:a2<18446744073709551616)(h3:a3<18446744073709551616) :
  wv (n4 a0 a1 a2 a3)=.agg #[.int .u64 a0,.int .u64 a1,.int .u64 a2,.int .u64 a3]:=by
 unfold wv n4;have e0:(a0+18446744073709551616*a1+340282366920938463463374607431768211456*a2+6277101735386680763835789423207666416102355444464034512896*a3)%18446744073709551616=a0:=by omega
 have e1:(a0+18446744073709551616*a1+340282366920938463463374607431768211456*a2+6277101735386680763835789423207666416102355444464034512896*a3) / 18446744073709551616%18446744073709551616=a1:=by omega
 have e2:(a0+18446744073709551616*a1+340282366920938463463374607431768211456*a2+6277101735386680763835789423207666416102355444464034512896*a3) / 340282366920938463463374607431768211456%18446744073709551616=a2:=by omega
 have e3:(a0+18446744073709551616*a1+340282366920938463463374607431768211456*a2+6277101735386680763835789423207666416102355444464034512896*a3) / 6277101735386680763835789423207666416102355444464034512896%18446744073709551616=a3:=by omega
 rw[e0,e1,e2,e3]
theorem wv_parts(x:Nat):∃ a0 a1 a2 a3:Nat,a0<18446744073709551616/\a1<18446744073709551616/\a2<18446744073709551616/\a3<18446744073709551616 /\
  wv x=.agg #[.int .u64 a0,.int .u64 a1,.int .u64 a2,.int .u64 a3]/\n4 a0 a1 a2 a3=x%2^256 :=
 ⟨_,_,_,_,by omega,by omega,by omega,by omega,rfl,by unfold n4;omega⟩
theorem wv_congr{x y:Nat}(h:x%2^256=y%2^256):wv x=wv y:=by
 unfold wv;have e0:x%18446744073709551616=y%18446744073709551616:=by omega
 have e1:x / 18446744073709551616%18446744073709551616=y / 18446744073709551616%18446744073709551616:=by omega
 have e2:x / 340282366920938463463374607431768211456%18446744073709551616=y / 340282366920938463463374607431768211456%18446744073709551616:=by omega
 have e3:x / 6277101735386680763835789423207666416102355444464034512896%18446744073709551616=y / 6277101735386680763835789423207666416102355444464034512896%18446744073709551616:=by omega
 rw[e0,e1,e2,e3]
theorem n4_lt{a0 a1 a2 a3:Nat}(h0:a0<18446744073709551616)(h1:a1<18446744073709551616)(h2:a2<18446744073709551616)(h3:a3<18446744073709551616) :
  n4 a0 a1 a2 a3<2^256:=by unfold n4;omega
theorem after4{w W w1:World}{B:Nat}(b:Nat)(hb:Below W.heap.size W w1)(h0:Below B w W)(hB0:B<=W.heap.size)(hB:b<W.heap.size)
  (c0:W.cell? ⟨b,0,none⟩=some (.int .u64 0)) (c1:W.cell? ⟨b,1,none⟩=some (.int .u64 0)) (c2:W.cell? ⟨b,2,none⟩=some (.int .u64 0)) (c3:W.cell? ⟨b,3,none⟩=some (.int .u64 0))
  (f0:W.frozen? ⟨b,0,none⟩=false) (f1:W.frozen? ⟨b,1,none⟩=false) (f2:W.frozen? ⟨b,2,none⟩=false) (f3:W.frozen? ⟨b,3,none⟩=false) :
  (w1.cell? ⟨b,0,none⟩=some (.int .u64 0)/\w1.cell? ⟨b,1,none⟩=some (.int .u64 0)/\w1.cell? ⟨b,2,none⟩=some (.int .u64 0)/\w1.cell? ⟨b,3,none⟩=some (.int .u64 0)) /\
  (w1.frozen? ⟨b,0,none⟩=false/\w1.frozen? ⟨b,1,none⟩=false/\w1.frozen? ⟨b,2,none⟩=false/\w1.frozen? ⟨b,3,none⟩=false)/\b<w1.heap.size/\Below B w w1 :=
 ⟨⟨(hb.cell hB).trans c0,(hb.cell hB).trans c1,(hb.cell hB).trans c2,(hb.cell hB).trans c3⟩,⟨(hb.frozen hB).trans f0,(hb.frozen hB).trans f1,(hb.frozen hB).trans f2,(hb.frozen hB).trans f3⟩,Nat.lt_of_lt_of_le hB hb.size,h0.trans (hb.mono hB0)⟩
theorem after1{W w1:World}{b i:Nat}{v:Value}(hb:Below W.heap.size W w1)(hB:b<W.heap.size)(c0:W.cell? ⟨b,i,none⟩=some v)(f0:W.frozen? ⟨b,i,none⟩=false) :
  w1.cell? ⟨b,i,none⟩=some v/\w1.frozen? ⟨b,i,none⟩=false/\b<w1.heap.size :=
 ⟨(hb.cell hB).trans c0,(hb.frozen hB).trans f0,Nat.lt_of_lt_of_le hB hb.size⟩
open Go.RowKit
def sub64E:Array Value->Sem Value:=fun args=>do
 let (x, y, b) ← Extern.MathBitsCarry.three "Sub64" args
 pure (Extern.MathBitsCarry.pair ((x+Extern.MathBitsCarry.m64 - y - b)%Extern.MathBitsCarry.m64) (if x<y+b then 1 else 0))
theorem run_sub64E(x y b:Nat)(hb:b<=1)(w:World) :
  (sub64E #[.int .u64 x,.int .u64 y,.int .u64 b]).run Tryz.prog w =
   .ok (.tuple #[.int .u64 (((x+18446744073709551616 - y - b)%18446744073709551616:Nat):Int),.int .u64 ((if x<y+b then 1 else 0:Nat):Int)]) w:=by
 have:b=0\/b=1:=by omega
 rcases this with rfl | rfl <;> rfl
theorem add64_run(x y c:Nat)(hc:c<=1)(w:World) :
  (callFunc 100 #[.int .u64 x,.int .u64 y,.int .u64 c]).run Tryz.prog w =
   .ok (.value (.tuple #[.int .u64 (((x+y+c)%18446744073709551616:Nat):Int),.int .u64 (((x+y+c) / 18446744073709551616:Nat):Int)])) w:=by
 rw[run_callFunc_extern Tryz.func100 (by kernel_rfl) (by kernel_rfl) (by kernel_rfl) (e:=add64Entry) (by kernel_rfl),run_add64 x y c (by omega) (by omega) (by omega) (by omega)];simp only[Result.andThen];congr 5 <;> omega
theorem sub64_run(x y b:Nat)(hb:b<=1)(w:World) :
  (callFunc 109 #[.int .u64 x,.int .u64 y,.int .u64 b]).run Tryz.prog w =
   .ok (.value (.tuple #[.int .u64 (((x+18446744073709551616 - y - b)%18446744073709551616:Nat):Int),.int .u64 ((if x<y+b then 1 else 0:Nat):Int)])) w:=by
 rw[run_callFunc_extern Tryz.func109 (by kernel_rfl) (by kernel_rfl) (by kernel_rfl) (e:=sub64E) (by kernel_rfl),run_sub64E x y b hb];rfl
theorem add64_ex(x y c:Nat)(hx:x<18446744073709551616)(hy:y<18446744073709551616)(hc:c<=1) :
  ∃ s d:Nat,d<=1/\s<18446744073709551616/\s+18446744073709551616*d=x+y+c /\
  ∀ w,(callFunc 100 #[.int .u64 x,.int .u64 y,.int .u64 c]).run Tryz.prog w=.ok (.value (.tuple #[.int .u64 s,.int .u64 d])) w :=
 ⟨_,_,by omega,by omega,by omega,fun w=>add64_run x y c hc w⟩
theorem add64_ex0(x y:Nat)(hx:x<18446744073709551616)(hy:y<18446744073709551616) :
  ∃ s d:Nat,d<=1/\s<18446744073709551616/\s+18446744073709551616*d=x+y /\
  ∀ w,(callFunc 100 #[.int .u64 x,.int .u64 y,.int .u64 0]).run Tryz.prog w=.ok (.value (.tuple #[.int .u64 s,.int .u64 d])) w :=
 add64_ex x y 0 hx hy (by omega)
theorem sub64_ex(x y b:Nat)(hx:x<18446744073709551616)(hy:y<18446744073709551616)(hb:b<=1) :
  ∃ s d:Nat,d<=1/\s<18446744073709551616/\s+y+b=x+18446744073709551616*d /\
  ∀ w,(callFunc 109 #[.int .u64 x,.int .u64 y,.int .u64 b]).run Tryz.prog w=.ok (.value (.tuple #[.int .u64 s,.int .u64 d])) w:=by
 refine⟨_,_,?_,?_,?_,fun w=>sub64_run x y b hb w⟩
 ·split <;> omega
 ·omega
 ·split <;> omega
theorem sub64_ex0(x y:Nat)(hx:x<18446744073709551616)(hy:y<18446744073709551616) :
  ∃ s d:Nat,d<=1/\s<18446744073709551616/\s+y=x+18446744073709551616*d /\
  ∀ w,(callFunc 109 #[.int .u64 x,.int .u64 y,.int .u64 0]).run Tryz.prog w=.ok (.value (.tuple #[.int .u64 s,.int .u64 d])) w :=
 sub64_ex x y 0 hx hy (by omega)
theorem addCarry_walk(a0 a1 a2 a3 b0 b1 b2 b3 s0 c1 s1 c2 s2 c3 s3 c4:Nat)(w:World)
 (h0:∀ w,(callFunc 100 #[.int .u64 a0,.int .u64 b0,.int .u64 0]).run Tryz.prog w=.ok (.value (.tuple #[.int .u64 s0,.int .u64 c1])) w)
 (h1:∀ w,(callFunc 100 #[.int .u64 a1,.int .u64 b1,.int .u64 c1]).run Tryz.prog w=.ok (.value (.tuple #[.int .u64 s1,.int .u64 c2])) w)
 (h2:∀ w,(callFunc 100 #[.int .u64 a2,.int .u64 b2,.int .u64 c2]).run Tryz.prog w=.ok (.value (.tuple #[.int .u64 s2,.int .u64 c3])) w)
 (h3:∀ w,(callFunc 100 #[.int .u64 a3,.int .u64 b3,.int .u64 c3]).run Tryz.prog w=.ok (.value (.tuple #[.int .u64 s3,.int .u64 c4])) w) :
  Calls Tryz.prog 83 #[.agg #[.int .u64 a0,.int .u64 a1,.int .u64 a2,.int .u64 a3],.agg #[.int .u64 b0,.int .u64 b1,.int .u64 b2,.int .u64 b3]] w fun e w' =>
   e=.returned (.tuple #[.agg #[.int .u64 s0,.int .u64 s1,.int .u64 s2,.int .u64 s3],.int .u64 c4])/\Below w.heap.size w w':=by
 go_enter Tryz.func83,Tryz.ntmps83;go_wp2;refine wp_loop_rounds 5 ?_
 iterate 4 (rw[rounds_succ];go_wp2;go_region;go_wp2)
 rw[rounds_succ];go_wp2
 go_returns
 exact⟨rfl,by go_grown⟩
theorem addCarry_any(x y:Nat)(w:World) :
  Calls Tryz.prog 83 #[wv x,wv y] w fun e w' =>
   e=.returned (.tuple #[wv (x+y),.int .u64 (((x%2^256+y%2^256) / 2^256:Nat):Int)])/\Below w.heap.size w w':=by
 obtain⟨a0,a1,a2,a3,u0,u1,u2,u3,ea,na⟩:=wv_parts x;obtain⟨b0,b1,b2,b3,v0,v1,v2,v3,eb,nb⟩:=wv_parts y;obtain⟨s0,c1,k1,l0,e0,h0⟩:=add64_ex0 a0 b0 u0 v0;obtain⟨s1,c2,k2,l1,e1,h1⟩:=add64_ex a1 b1 c1 u1 v1 k1;obtain⟨s2,c3,k3,l2,e2,h2⟩:=add64_ex a2 b2 c2 u2 v2 k2;obtain⟨s3,c4,k4,l3,e3,h3⟩:=add64_ex a3 b3 c3 u3 v3 k3;have hs:n4 s0 s1 s2 s3+2^256*c4=x%2^256+y%2^256:=by rw[<- na,<- nb];unfold n4;omega
 have hl:=n4_lt l0 l1 l2 l3;rw[ea,eb];refine(addCarry_walk a0 a1 a2 a3 b0 b1 b2 b3 s0 c1 s1 c2 s2 c3 s3 c4 w h0 h1 h2 h3).mono fun e w' ⟨he,hb⟩=>⟨?_,hb⟩
 rw[he,<- hs,<- wv_n4 l0 l1 l2 l3];rw[wv_congr (x:=n4 s0 s1 s2 s3) (y:=x+y) (by omega)];rw[show(n4 s0 s1 s2 s3+2^256*c4) / 2^256=c4 by omega]
theorem sub_walk(a0 a1 a2 a3 b0 b1 b2 b3 s0 c1 s1 c2 s2 c3 s3 c4:Nat)(w:World)
 (h0:∀ w,(callFunc 109 #[.int .u64 a0,.int .u64 b0,.int .u64 0]).run Tryz.prog w=.ok (.value (.tuple #[.int .u64 s0,.int .u64 c1])) w)
 (h1:∀ w,(callFunc 109 #[.int .u64 a1,.int .u64 b1,.int .u64 c1]).run Tryz.prog w=.ok (.value (.tuple #[.int .u64 s1,.int .u64 c2])) w)
 (h2:∀ w,(callFunc 109 #[.int .u64 a2,.int .u64 b2,.int .u64 c2]).run Tryz.prog w=.ok (.value (.tuple #[.int .u64 s2,.int .u64 c3])) w)
 (h3:∀ w,(callFunc 109 #[.int .u64 a3,.int .u64 b3,.int .u64 c3]).run Tryz.prog w=.ok (.value (.tuple #[.int .u64 s3,.int .u64 c4])) w) :
  Calls Tryz.prog 98 #[.agg #[.int .u64 a0,.int .u64 a1,.int .u64 a2,.int .u64 a3],.agg #[.int .u64 b0,.int .u64 b1,.int .u64 b2,.int .u64 b3]] w fun e w' =>
   e=.returned (.agg #[.int .u64 s0,.int .u64 s1,.int .u64 s2,.int .u64 s3])/\Below w.heap.size w w':=by
 go_enter Tryz.func98,Tryz.ntmps98;go_wp2;refine wp_loop_rounds 5 ?_
 iterate 4 (rw[rounds_succ];go_wp2;go_region;go_wp2)
 rw[rounds_succ];go_wp2
 go_returns
 exact⟨rfl,by go_grown⟩
theorem sub_any(x y:Nat)(w:World) :
  Calls Tryz.prog 98 #[wv x,wv y] w fun e w' =>
   e=.returned (wv (x+(2^256 - y%2^256)))/\Below w.heap.size w w':=by
 obtain⟨a0,a1,a2,a3,u0,u1,u2,u3,ea,na⟩:=wv_parts x;obtain⟨b0,b1,b2,b3,v0,v1,v2,v3,eb,nb⟩:=wv_parts y;obtain⟨s0,c1,k1,l0,e0,h0⟩:=sub64_ex0 a0 b0 u0 v0;obtain⟨s1,c2,k2,l1,e1,h1⟩:=sub64_ex a1 b1 c1 u1 v1 k1;obtain⟨s2,c3,k3,l2,e2,h2⟩:=sub64_ex a2 b2 c2 u2 v2 k2;obtain⟨s3,c4,k4,l3,e3,h3⟩:=sub64_ex a3 b3 c3 u3 v3 k3;have hs:n4 s0 s1 s2 s3+y%2^256=x%2^256+2^256*c4:=by rw[<- na,<- nb];unfold n4;omega
 rw[ea,eb];refine(sub_walk a0 a1 a2 a3 b0 b1 b2 b3 s0 c1 s1 c2 s2 c3 s3 c4 w h0 h1 h2 h3).mono fun e w' ⟨he,hb⟩=>⟨?_,hb⟩
 rw[he,<- wv_n4 l0 l1 l2 l3];rw[wv_congr (x:=n4 s0 s1 s2 s3) (y:=x+(2^256 - y%2^256)) (by omega)]
open Go.RowKit
theorem index4_0(v0 v1 v2 v3:Value)(w:World):(Instr.index 24 (.agg #[v0,v1,v2,v3]) (.int .i64 0)).run Tryz.prog w=.ok v0 w:=by kernel_rfl
theorem index4_1(v0 v1 v2 v3:Value)(w:World):(Instr.index 24 (.agg #[v0,v1,v2,v3]) (.int .i64 1)).run Tryz.prog w=.ok v1 w:=by kernel_rfl
theorem index4_2(v0 v1 v2 v3:Value)(w:World):(Instr.index 24 (.agg #[v0,v1,v2,v3]) (.int .i64 2)).run Tryz.prog w=.ok v2 w:=by kernel_rfl
theorem index4_3(v0 v1 v2 v3:Value)(w:World):(Instr.index 24 (.agg #[v0,v1,v2,v3]) (.int .i64 3)).run Tryz.prog w=.ok v3 w:=by kernel_rfl
theorem mul64_ex(x y:Nat)(hx:x<18446744073709551616)(hy:y<18446744073709551616) :
  ∃ h l:Nat,h<18446744073709551615/\l<18446744073709551616/\l+18446744073709551616*h=x*y /\
  ∀ w,Calls Tryz.prog 121 #[.int .u64 x,.int .u64 y] w fun e w'=>e=.returned (.tuple #[.int .u64 h,.int .u64 l])/\w=w':=by
 have hm:x*y<=18446744073709551615*18446744073709551615:=Nat.mul_le_mul (by omega) (by omega);refine⟨x*y / 18446744073709551616,x*y%18446744073709551616,by omega,by omega,by omega,fun w=>(Tryz.bits_Mul64 x y hx hy w).mono fun e w' ⟨he,hw⟩=>⟨he,hw.symm⟩⟩
theorem mulAdd_walk(x y m c h l s0 d0 s1 d1:Nat)(w:World)
  (hM:∀ w,Calls Tryz.prog 121 #[.int .u64 x,.int .u64 y] w fun e w'=>e=.returned (.tuple #[.int .u64 h,.int .u64 l])/\w=w')
  (h0:∀ w,(callFunc 100 #[.int .u64 l,.int .u64 m,.int .u64 0]).run Tryz.prog w=.ok (.value (.tuple #[.int .u64 s0,.int .u64 d0])) w)
  (h1:∀ w,(callFunc 100 #[.int .u64 s0,.int .u64 c,.int .u64 0]).run Tryz.prog w=.ok (.value (.tuple #[.int .u64 s1,.int .u64 d1])) w)
  (b1:(h:Int)+d0<=18446744073709551615) (b2:(h:Int)+d0+d1<=18446744073709551615) :
  Calls Tryz.prog 120 #[.int .u64 x,.int .u64 y,.int .u64 m,.int .u64 c] w fun e w'=>e=.returned (.tuple #[.int .u64 s1,.int .u64 ((h+d0+d1:Nat):Int)])/\w=w':=by
 go_enter Tryz.func120,Tryz.ntmps120
 go_wp2_with fail
 refine(hM _).mono ?_;rintro e w' ⟨rfl,rfl⟩;go_wp2
 go_ret2
 exact⟨by simp,rfl⟩
theorem mulAdd_ex(x y m c:Nat)(hx:x<18446744073709551616)(hy:y<18446744073709551616)(hm:m<18446744073709551616)(hc:c<18446744073709551616) :
  ∃ l h:Nat,l<18446744073709551616/\h<18446744073709551616/\l+18446744073709551616*h=x*y+m+c /\
   ∀ w,Calls Tryz.prog 120 #[.int .u64 x,.int .u64 y,.int .u64 m,.int .u64 c] w fun e w'=>e=.returned (.tuple #[.int .u64 l,.int .u64 h])/\w=w':=by
 obtain⟨h,l,lh,ll,e,hM⟩:=mul64_ex x y hx hy;obtain⟨s0,d0,k0,l0,e0,h0⟩:=add64_ex0 l m ll hm;obtain⟨s1,d1,k1,l1,e1,h1⟩:=add64_ex0 s0 c l0 hc;have hb:x*y<=18446744073709551615*18446744073709551615:=Nat.mul_le_mul (by omega) (by omega);have ht:s1+18446744073709551616*(h+d0+d1)=x*y+m+c:=by omega
 have hh:h+d0+d1<18446744073709551616:=by omega
 exact⟨s1,h+d0+d1,l1,hh,ht,fun w=>mulAdd_walk x y m c h l s0 d0 s1 d1 w hM h0 h1 (by omega) (by omega)⟩
open Go.RowKit
theorem add_any(x y:Nat)(w:World) :
  Calls Tryz.prog 68 #[wv x,wv y] w fun e w'=>e=.returned (wv (x+y))/\Below w.heap.size w w':=by
 obtain⟨a0,a1,a2,a3,u0,u1,u2,u3,ea,na⟩:=wv_parts x;obtain⟨b0,b1,b2,b3,v0,v1,v2,v3,eb,nb⟩:=wv_parts y;obtain⟨s0,s1,s2,s3,l0,l1,l2,l3,es,ns⟩:=wv_parts (x+y);have hc:=fun w=>addCarry_any x y w;rw[ea,eb,es]at hc;rw[ea,eb,es];clear ea eb es;generalize ((x%2^256+y%2^256) / 2^256)=c at hc;clear na nb ns;go_enter Tryz.func68,Tryz.ntmps68
 go_wp2_with fail
 refine(hc _).mono ?_;rintro e w' ⟨rfl,hb⟩;obtain⟨⟨q0,q1,q2,q3⟩,⟨f0,f1,f2,f3⟩,hz,hb'⟩:=after4 (w:=w) (B:=w.heap.size) (w.heap.size+1+1) hb (by go_grown) (by simp;omega) (by simp) (by go_cell) (by go_cell) (by go_cell) (by go_cell) (by go_cell) (by go_cell) (by go_cell) (by go_cell);clear hb;go_wp2;refine bodyPost_ret (by simp[results,Tryz.results68,go_sem,hz,q0,q1,q2,q3];try rfl) rfl ⟨rfl,?_⟩;go_grown
open Go.RowKit
theorem product_walk(a0 a1 a2 a3 b0 b1 b2 b3 p00 c00 p01 c01 p02 c02 p03 c03 p10 c10 p11 c11 p12 c12 p13 c13 p20 c20 p21 c21 p22 c22 p23 c23 p30 c30 p31 c31 p32 c32 p33 c33:Nat)(w:World)
  (h00:∀ w,Calls Tryz.prog 120 #[.int .u64 a0,.int .u64 b0,.int .u64 0,.int .u64 0] w fun e w'=>e=.returned (.tuple #[.int .u64 p00,.int .u64 c00])/\w=w')
  (h01:∀ w,Calls Tryz.prog 120 #[.int .u64 a0,.int .u64 b1,.int .u64 0,.int .u64 c00] w fun e w'=>e=.returned (.tuple #[.int .u64 p01,.int .u64 c01])/\w=w')
  (h02:∀ w,Calls Tryz.prog 120 #[.int .u64 a0,.int .u64 b2,.int .u64 0,.int .u64 c01] w fun e w'=>e=.returned (.tuple #[.int .u64 p02,.int .u64 c02])/\w=w')
  (h03:∀ w,Calls Tryz.prog 120 #[.int .u64 a0,.int .u64 b3,.int .u64 0,.int .u64 c02] w fun e w'=>e=.returned (.tuple #[.int .u64 p03,.int .u64 c03])/\w=w')
  (h10:∀ w,Calls Tryz.prog 120 #[.int .u64 a1,.int .u64 b0,.int .u64 p01,.int .u64 0] w fun e w'=>e=.returned (.tuple #[.int .u64 p10,.int .u64 c10])/\w=w')
  (h11:∀ w,Calls Tryz.prog 120 #[.int .u64 a1,.int .u64 b1,.int .u64 p02,.int .u64 c10] w fun e w'=>e=.returned (.tuple #[.int .u64 p11,.int .u64 c11])/\w=w')
  (h12:∀ w,Calls Tryz.prog 120 #[.int .u64 a1,.int .u64 b2,.int .u64 p03,.int .u64 c11] w fun e w'=>e=.returned (.tuple #[.int .u64 p12,.int .u64 c12])/\w=w')
  (h13:∀ w,Calls Tryz.prog 120 #[.int .u64 a1,.int .u64 b3,.int .u64 c03,.int .u64 c12] w fun e w'=>e=.returned (.tuple #[.int .u64 p13,.int .u64 c13])/\w=w')
  (h20:∀ w,Calls Tryz.prog 120 #[.int .u64 a2,.int .u64 b0,.int .u64 p11,.int .u64 0] w fun e w'=>e=.returned (.tuple #[.int .u64 p20,.int .u64 c20])/\w=w')
  (h21:∀ w,Calls Tryz.prog 120 #[.int .u64 a2,.int .u64 b1,.int .u64 p12,.int .u64 c20] w fun e w'=>e=.returned (.tuple #[.int .u64 p21,.int .u64 c21])/\w=w')
  (h22:∀ w,Calls Tryz.prog 120 #[.int .u64 a2,.int .u64 b2,.int .u64 p13,.int .u64 c21] w fun e w'=>e=.returned (.tuple #[.int .u64 p22,.int .u64 c22])/\w=w')
  (h23:∀ w,Calls Tryz.prog 120 #[.int .u64 a2,.int .u64 b3,.int .u64 c13,.int .u64 c22] w fun e w'=>e=.returned (.tuple #[.int .u64 p23,.int .u64 c23])/\w=w')
  (h30:∀ w,Calls Tryz.prog 120 #[.int .u64 a3,.int .u64 b0,.int .u64 p21,.int .u64 0] w fun e w'=>e=.returned (.tuple #[.int .u64 p30,.int .u64 c30])/\w=w')
  (h31:∀ w,Calls Tryz.prog 120 #[.int .u64 a3,.int .u64 b1,.int .u64 p22,.int .u64 c30] w fun e w'=>e=.returned (.tuple #[.int .u64 p31,.int .u64 c31])/\w=w')
  (h32:∀ w,Calls Tryz.prog 120 #[.int .u64 a3,.int .u64 b2,.int .u64 p23,.int .u64 c31] w fun e w'=>e=.returned (.tuple #[.int .u64 p32,.int .u64 c32])/\w=w')
  (h33:∀ w,Calls Tryz.prog 120 #[.int .u64 a3,.int .u64 b3,.int .u64 c23,.int .u64 c32] w fun e w'=>e=.returned (.tuple #[.int .u64 p33,.int .u64 c33])/\w=w') :
  Calls Tryz.prog 108 #[.agg #[.int .u64 a0,.int .u64 a1,.int .u64 a2,.int .u64 a3],.agg #[.int .u64 b0,.int .u64 b1,.int .u64 b2,.int .u64 b3]] w fun e w' =>
   e=.returned (.agg #[.int .u64 p00,.int .u64 p10,.int .u64 p20,.int .u64 p30,.int .u64 p31,.int .u64 p32,.int .u64 p33,.int .u64 c33])/\Below w.heap.size w w':=by
 have ia0:=index4_0;have ia1:=index4_1;have ia2:=index4_2;have ia3:=index4_3;go_enter Tryz.func108,Tryz.ntmps108;go_wp2;refine wp_loop_rounds 5 ?_;rw[rounds_succ];go_wp2;refine wp_loop_rounds 5 ?_;rw[rounds_succ];go_wp2_with fail;refine(h00 _).mono ?_;rintro e w' ⟨rfl,rfl⟩;go_wp2;rw[rounds_succ];go_wp2_with fail;refine(h01 _).mono ?_;rintro e w' ⟨rfl,rfl⟩;go_wp2;rw[rounds_succ];go_wp2_with fail;refine(h02 _).mono ?_;rintro e w' ⟨rfl,rfl⟩;go_wp2;rw[rounds_succ];go_wp2_with fail;refine(h03 _).mono ?_;rintro e w' ⟨rfl,rfl⟩;go_wp2;rw[rounds_succ];go_wp2;rw[rounds_succ];go_wp2;refine wp_loop_rounds 5 ?_;rw[rounds_succ];go_wp2_with fail;refine(h10 _).mono ?_;rintro e w' ⟨rfl,rfl⟩;go_wp2;rw[rounds_succ];go_wp2_with fail;refine(h11 _).mono ?_;rintro e w' ⟨rfl,rfl⟩;go_wp2;rw[rounds_succ];go_wp2_with fail;refine(h12 _).mono ?_;rintro e w' ⟨rfl,rfl⟩;go_wp2;rw[rounds_succ];go_wp2_with fail;refine(h13 _).mono ?_;rintro e w' ⟨rfl,rfl⟩;go_wp2;rw[rounds_succ];go_wp2;rw[rounds_succ];go_wp2;refine wp_loop_rounds 5 ?_;rw[rounds_succ];go_wp2_with fail;refine(h20 _).mono ?_;rintro e w' ⟨rfl,rfl⟩;go_wp2;rw[rounds_succ];go_wp2_with fail;refine(h21 _).mono ?_;rintro e w' ⟨rfl,rfl⟩;go_wp2;rw[rounds_succ];go_wp2_with fail;refine(h22 _).mono ?_;rintro e w' ⟨rfl,rfl⟩;go_wp2;rw[rounds_succ];go_wp2_with fail;refine(h23 _).mono ?_;rintro e w' ⟨rfl,rfl⟩;go_wp2;rw[rounds_succ];go_wp2;rw[rounds_succ];go_wp2;refine wp_loop_rounds 5 ?_;rw[rounds_succ];go_wp2_with fail;refine(h30 _).mono ?_;rintro e w' ⟨rfl,rfl⟩;go_wp2;rw[rounds_succ];go_wp2_with fail;refine(h31 _).mono ?_;rintro e w' ⟨rfl,rfl⟩;go_wp2;rw[rounds_succ];go_wp2_with fail;refine(h32 _).mono ?_;rintro e w' ⟨rfl,rfl⟩;go_wp2;rw[rounds_succ];go_wp2_with fail;refine(h33 _).mono ?_;rintro e w' ⟨rfl,rfl⟩;go_wp2;rw[rounds_succ];go_wp2;rw[rounds_succ];go_wp2
 go_returns
 exact⟨rfl,by go_grown⟩
open Go.RowKit
def dv(x:Nat):Value:=.agg #[.int .u64 ((x%18446744073709551616:Nat):Int),.int .u64 ((x / 18446744073709551616%18446744073709551616:Nat):Int),.int .u64 ((x / 340282366920938463463374607431768211456%18446744073709551616:Nat):Int),.int .u64 ((x / 6277101735386680763835789423207666416102355444464034512896%18446744073709551616:Nat):Int),.int .u64 ((x / 2^256%18446744073709551616:Nat):Int),.int .u64 ((x / 2135987035920910082395021706169552114602704522356652769947041607822219725780640550022962086936576%18446744073709551616:Nat):Int),.int .u64 ((x / 39402006196394479212279040100143613805079739270465446667948293404245721771497210611414266254884915640806627990306816%18446744073709551616:Nat):Int),.int .u64 ((x / 726838724295606890549323807888004534353641360687318060281490199180639288113397923326191050713763565560762521606266177933534601628614656%18446744073709551616:Nat):Int)]
def n8(a0 a1 a2 a3 a4 a5 a6 a7:Nat):Nat:=a0+18446744073709551616*a1+340282366920938463463374607431768211456*a2+6277101735386680763835789423207666416102355444464034512896*a3+2^256*a4+2135987035920910082395021706169552114602704522356652769947041607822219725780640550022962086936576*a5+39402006196394479212279040100143613805079739270465446667948293404245721771497210611414266254884915640806627990306816*a6+726838724295606890549323807888004534353641360687318060281490199180639288113397923326191050713763565560762521606266177933534601628614656*a7
theorem dv_n8{a0 a1 a2 a3 a4 a5 a6 a7:Nat}(h0:a0<18446744073709551616)(h1:a1<18446744073709551616)(h2:a2<18446744073709551616)(h3:a3<18446744073709551616)(h4:a4<18446744073709551616)(h5:a5<18446744073709551616)(h6:a6<18446744073709551616)(h7:a7<18446744073709551616):dv (n8 a0 a1 a2 a3 a4 a5 a6 a7)=.agg #[.int .u64 a0,.int .u64 a1,.int .u64 a2,.int .u64 a3,.int .u64 a4,.int .u64 a5,.int .u64 a6,.int .u64 a7]:=by
 unfold dv n8;have e0:(a0+18446744073709551616*a1+340282366920938463463374607431768211456*a2+6277101735386680763835789423207666416102355444464034512896*a3+2^256*a4+2135987035920910082395021706169552114602704522356652769947041607822219725780640550022962086936576*a5+39402006196394479212279040100143613805079739270465446667948293404245721771497210611414266254884915640806627990306816*a6+726838724295606890549323807888004534353641360687318060281490199180639288113397923326191050713763565560762521606266177933534601628614656*a7)%18446744073709551616=a0:=by omega
 have e1:(a0+18446744073709551616*a1+340282366920938463463374607431768211456*a2+6277101735386680763835789423207666416102355444464034512896*a3+2^256*a4+2135987035920910082395021706169552114602704522356652769947041607822219725780640550022962086936576*a5+39402006196394479212279040100143613805079739270465446667948293404245721771497210611414266254884915640806627990306816*a6+726838724295606890549323807888004534353641360687318060281490199180639288113397923326191050713763565560762521606266177933534601628614656*a7) / 18446744073709551616%18446744073709551616=a1:=by omega
 have e2:(a0+18446744073709551616*a1+340282366920938463463374607431768211456*a2+6277101735386680763835789423207666416102355444464034512896*a3+2^256*a4+2135987035920910082395021706169552114602704522356652769947041607822219725780640550022962086936576*a5+39402006196394479212279040100143613805079739270465446667948293404245721771497210611414266254884915640806627990306816*a6+726838724295606890549323807888004534353641360687318060281490199180639288113397923326191050713763565560762521606266177933534601628614656*a7) / 340282366920938463463374607431768211456%18446744073709551616=a2:=by omega
 have e3:(a0+18446744073709551616*a1+340282366920938463463374607431768211456*a2+6277101735386680763835789423207666416102355444464034512896*a3+2^256*a4+2135987035920910082395021706169552114602704522356652769947041607822219725780640550022962086936576*a5+39402006196394479212279040100143613805079739270465446667948293404245721771497210611414266254884915640806627990306816*a6+726838724295606890549323807888004534353641360687318060281490199180639288113397923326191050713763565560762521606266177933534601628614656*a7) / 6277101735386680763835789423207666416102355444464034512896%18446744073709551616=a3:=by omega
 have e4:(a0+18446744073709551616*a1+340282366920938463463374607431768211456*a2+6277101735386680763835789423207666416102355444464034512896*a3+2^256*a4+2135987035920910082395021706169552114602704522356652769947041607822219725780640550022962086936576*a5+39402006196394479212279040100143613805079739270465446667948293404245721771497210611414266254884915640806627990306816*a6+726838724295606890549323807888004534353641360687318060281490199180639288113397923326191050713763565560762521606266177933534601628614656*a7) / 2^256%18446744073709551616=a4:=by omega
 have e5:(a0+18446744073709551616*a1+340282366920938463463374607431768211456*a2+6277101735386680763835789423207666416102355444464034512896*a3+2^256*a4+2135987035920910082395021706169552114602704522356652769947041607822219725780640550022962086936576*a5+39402006196394479212279040100143613805079739270465446667948293404245721771497210611414266254884915640806627990306816*a6+726838724295606890549323807888004534353641360687318060281490199180639288113397923326191050713763565560762521606266177933534601628614656*a7) / 2135987035920910082395021706169552114602704522356652769947041607822219725780640550022962086936576%18446744073709551616=a5:=by omega
 have e6:(a0+18446744073709551616*a1+340282366920938463463374607431768211456*a2+6277101735386680763835789423207666416102355444464034512896*a3+2^256*a4+2135987035920910082395021706169552114602704522356652769947041607822219725780640550022962086936576*a5+39402006196394479212279040100143613805079739270465446667948293404245721771497210611414266254884915640806627990306816*a6+726838724295606890549323807888004534353641360687318060281490199180639288113397923326191050713763565560762521606266177933534601628614656*a7) / 39402006196394479212279040100143613805079739270465446667948293404245721771497210611414266254884915640806627990306816%18446744073709551616=a6:=by omega
 have e7:(a0+18446744073709551616*a1+340282366920938463463374607431768211456*a2+6277101735386680763835789423207666416102355444464034512896*a3+2^256*a4+2135987035920910082395021706169552114602704522356652769947041607822219725780640550022962086936576*a5+39402006196394479212279040100143613805079739270465446667948293404245721771497210611414266254884915640806627990306816*a6+726838724295606890549323807888004534353641360687318060281490199180639288113397923326191050713763565560762521606266177933534601628614656*a7) / 726838724295606890549323807888004534353641360687318060281490199180639288113397923326191050713763565560762521606266177933534601628614656%18446744073709551616=a7:=by omega
 rw[e0,e1,e2,e3,e4,e5,e6,e7]
theorem n4_mul(a0 a1 a2 a3 b0 b1 b2 b3:Nat):n4 a0 a1 a2 a3*n4 b0 b1 b2 b3 =
  a0*b0+18446744073709551616*(a0*b1)+340282366920938463463374607431768211456*(a0*b2)+6277101735386680763835789423207666416102355444464034512896*(a0*b3)+18446744073709551616*(a1*b0)+340282366920938463463374607431768211456*(a1*b1)+6277101735386680763835789423207666416102355444464034512896*(a1*b2)+2^256*(a1*b3)+340282366920938463463374607431768211456*(a2*b0)+6277101735386680763835789423207666416102355444464034512896*(a2*b1)+2^256*(a2*b2)+2135987035920910082395021706169552114602704522356652769947041607822219725780640550022962086936576*(a2*b3)+6277101735386680763835789423207666416102355444464034512896*(a3*b0)+2^256*(a3*b1)+2135987035920910082395021706169552114602704522356652769947041607822219725780640550022962086936576*(a3*b2)+39402006196394479212279040100143613805079739270465446667948293404245721771497210611414266254884915640806627990306816*(a3*b3):=by
 unfold n4
 grind
open Go.RowKit
theorem of_walk(n:Nat)(w:World) :
  Calls Tryz.prog 70 #[.int .u64 n] w fun e w'=>e=.returned (.agg #[.int .u64 n,.int .u64 0,.int .u64 0,.int .u64 0])/\Below w.heap.size w w':=by
 go_enter Tryz.func70,Tryz.ntmps70;go_wp2
 go_returns
 exact⟨rfl,by go_grown⟩
theorem arrayAt4(b o c:Nat)(w:World):(Instr.arrayAt 24 (.slice (some ⟨b,o,none⟩) 4 c)).run Tryz.prog w=.ok (.pointer (some ⟨b,o,none⟩)) w:=by kernel_rfl
-- WHAT product COMES TO.
theorem product_any(x y:Nat)(w:World) :
  Calls Tryz.prog 108 #[wv x,wv y] w fun e w' =>
   e=.returned (dv ((x%2^256)*(y%2^256)))/\Below w.heap.size w w':=by
 obtain⟨a0,a1,a2,a3,u0,u1,u2,u3,ea,na⟩:=wv_parts x;obtain⟨b0,b1,b2,b3,v0,v1,v2,v3,eb,nb⟩:=wv_parts y;obtain⟨p00,c00,lp00,lc00,e00,h00⟩:=mulAdd_ex a0 b0 0 0 u0 v0 (by omega) (by omega);obtain⟨p01,c01,lp01,lc01,e01,h01⟩:=mulAdd_ex a0 b1 0 c00 u0 v1 (by omega) lc00;obtain⟨p02,c02,lp02,lc02,e02,h02⟩:=mulAdd_ex a0 b2 0 c01 u0 v2 (by omega) lc01;obtain⟨p03,c03,lp03,lc03,e03,h03⟩:=mulAdd_ex a0 b3 0 c02 u0 v3 (by omega) lc02;obtain⟨p10,c10,lp10,lc10,e10,h10⟩:=mulAdd_ex a1 b0 p01 0 u1 v0 lp01 (by omega);obtain⟨p11,c11,lp11,lc11,e11,h11⟩:=mulAdd_ex a1 b1 p02 c10 u1 v1 lp02 lc10;obtain⟨p12,c12,lp12,lc12,e12,h12⟩:=mulAdd_ex a1 b2 p03 c11 u1 v2 lp03 lc11;obtain⟨p13,c13,lp13,lc13,e13,h13⟩:=mulAdd_ex a1 b3 c03 c12 u1 v3 lc03 lc12;obtain⟨p20,c20,lp20,lc20,e20,h20⟩:=mulAdd_ex a2 b0 p11 0 u2 v0 lp11 (by omega);obtain⟨p21,c21,lp21,lc21,e21,h21⟩:=mulAdd_ex a2 b1 p12 c20 u2 v1 lp12 lc20;obtain⟨p22,c22,lp22,lc22,e22,h22⟩:=mulAdd_ex a2 b2 p13 c21 u2 v2 lp13 lc21;obtain⟨p23,c23,lp23,lc23,e23,h23⟩:=mulAdd_ex a2 b3 c13 c22 u2 v3 lc13 lc22;obtain⟨p30,c30,lp30,lc30,e30,h30⟩:=mulAdd_ex a3 b0 p21 0 u3 v0 lp21 (by omega);obtain⟨p31,c31,lp31,lc31,e31,h31⟩:=mulAdd_ex a3 b1 p22 c30 u3 v1 lp22 lc30;obtain⟨p32,c32,lp32,lc32,e32,h32⟩:=mulAdd_ex a3 b2 p23 c31 u3 v2 lp23 lc31;obtain⟨p33,c33,lp33,lc33,e33,h33⟩:=mulAdd_ex a3 b3 c23 c32 u3 v3 lc23 lc32;have hs:n8 p00 p10 p20 p30 p31 p32 p33 c33=(x%2^256)*(y%2^256):=by
  rw[<- na,<- nb,n4_mul];clear ea eb na nb h00 h01 h02 h03 h10 h11 h12 h13 h20 h21 h22 h23 h30 h31 h32 h33;generalize a0*b0=m00 at *;generalize a0*b1=m01 at *;generalize a0*b2=m02 at *;generalize a0*b3=m03 at *;generalize a1*b0=m10 at *;generalize a1*b1=m11 at *;generalize a1*b2=m12 at *;generalize a1*b3=m13 at *;generalize a2*b0=m20 at *;generalize a2*b1=m21 at *;generalize a2*b2=m22 at *;generalize a2*b3=m23 at *;generalize a3*b0=m30 at *;generalize a3*b1=m31 at *;generalize a3*b2=m32 at *;generalize a3*b3=m33 at *;clear u0 u1 u2 u3 v0 v1 v2 v3 lp00 lc00 lp01 lc01 lp02 lc02 lp03 lc03 lp10 lc10 lp11 lc11 lp12 lc12 lp13 lc13 lp20 lc20 lp21 lc21 lp22 lc22 lp23 lc23 lp30 lc30 lp31 lc31 lp32 lc32 lp33 lc33;unfold n8;omega
 rw[ea,eb,<- hs,dv_n8 lp00 lp10 lp20 lp30 lp31 lp32 lp33 lc33];exact product_walk a0 a1 a2 a3 b0 b1 b2 b3 p00 c00 p01 c01 p02 c02 p03 c03 p10 c10 p11 c11 p12 c12 p13 c13 p20 c20 p21 c21 p22 c22 p23 c23 p30 c30 p31 c31 p32 c32 p33 c33 w h00 h01 h02 h03 h10 h11 h12 h13 h20 h21 h22 h23 h30 h31 h32 h33
open Go.RowKit
def np(xs:Nat->Nat):Nat->Nat
 | 0=>0
 | n+1=>if xs n=0 then np xs n else n+1
theorem parts_any(b o L cap:Nat)(xs:Nat->Nat)(hL:(L:Int)<=1000000)(w:World)
  (hc:∀ j,j<L->w.cell? ⟨b,o+j,none⟩=some (.int .u64 (xs j))) :
  Calls Tryz.prog 115 #[.slice (some ⟨b,o,none⟩) L cap] w fun e w'=>e=.returned (.int .i64 (np xs L:Nat))/\w=w':=by
 have HC:=Lib.hid hc;clear hc;go_enter Tryz.func115,Tryz.ntmps115;go_wp2
 go_loop [3] (fun n=>∃ k:Nat,k<=L/\n=.int .i64 k/\Hid (np xs k=np xs L)) (fun n=>(intOf n).toNat)
 case atStart=>exact⟨L,Nat.le_refl _,rfl,Lib.hid rfl⟩
 case round =>
  obtain⟨k,hk,rfl,hn⟩:=hrel;have hk':(k:Int)<=1000000:=by omega
  rcases k with _ | j
  ·go_wp2
   go_ret;exact⟨by rw[<- hn.out];rfl,rfl⟩
  ·have hj:(0:Int)<=j:=by omega
   have hj':(j:Int)<=1000000:=by omega
   have c:=HC.out j (by omega);by_cases hx:xs j=0
   ·have hr:np xs j=np xs L:=by rw[<- hn.out];simp[np,hx]
    have HR:=Lib.hid hr;clear hr;rw[hx]at c;clear hn;go_wp2
    go_round
    case rel=>exact⟨j,by omega,rfl,HR⟩
    case measure=>simp[intOf]
   ·have hr:j+1=np xs L:=by rw[<- hn.out];simp[np,hx]
    have HR:=Lib.hid hr;clear hr hn;have hx':((xs j:Int) == 0)=false:=by simp[hx]
    go_wp2;go_ret;exact⟨by rw[<- HR.out];simp,rfl⟩
open Go.RowKit
def val(f:Nat->Nat):Nat->Nat
 | 0=>0
 | n+1=>val f n+18446744073709551616^n*f n
theorem val_congr{f g:Nat->Nat}{n:Nat}(h:∀ j,j<n->f j=g j):val f n=val g n:=by
 induction n with
 | zero=>rfl
 | succ n ih=>simp only[val];rw[ih (fun j hj=>h j (by omega)),h n (by omega)]
structure But (S:Nat) (w w':World):Prop where
 os:w'.os=w.os
 tape:w'.tape=w.tape
 output:w'.output=w.output
 size:w'.heap.size=w.heap.size
 block:∀ k,k≠S->w'.heap[k]?=w.heap[k]?
 frozen:∀ j,w'.frozen? ⟨S,j,none⟩=w.frozen? ⟨S,j,none⟩
theorem But.refl(S:Nat)(w:World):But S w w:=⟨rfl,rfl,rfl,rfl,fun _ _=>rfl,fun _=>rfl⟩
theorem But.set{S:Nat}{w w':World}(h:But S w w')(j:Nat)(u:Value):But S w (w'.setCell ⟨S,j,none⟩ u) :=
 ⟨h.os,h.tape,h.output,by simp[h.size],fun k hk=>by rw[Below.heap_setCell _ _ _ _ hk];exact h.block k hk,fun i=>by rw[World.frozen?_setCell];exact h.frozen i⟩
theorem But.trans{S:Nat}{w w' w'':World}(h:But S w w')(h':But S w' w''):But S w w'' :=
 ⟨h'.os.trans h.os,h'.tape.trans h.tape,h'.output.trans h.output,h'.size.trans h.size,fun k hk=>(h'.block k hk).trans (h.block k hk),fun j=>(h'.frozen j).trans (h.frozen j)⟩
theorem But.cell{S:Nat}{w w':World}(h:But S w w'){p:Addr}(hp:p.block≠S):w'.cell? p=w.cell? p:=World.cell?_of_block (w:=w) (h.block p.block hp)
theorem But.below{S B:Nat}{w0 w w':World}(h0:Below B w0 w)(h:But S w w')(hB:B<=S):Below B w0 w' :=
 h0.trans ⟨h.os,h.tape,h.output,by rw[h.size];exact Nat.le_refl _,fun k hk=>h.block k (by omega)⟩
def Holds(S o k:Nat)(ns:Nat->Nat)(w w':World):Prop:=But S w w'/\∀ j,w'.cell? ⟨S,j,none⟩=if o<=j/\j<o+k then some (.int .u64 (ns (j - o):Nat))else w.cell? ⟨S,j,none⟩
theorem Holds.start(S o:Nat)(ns:Nat->Nat)(w:World):Holds S o 0 ns w w:=⟨But.refl S w,fun j=>by rw[if_neg (by omega)]⟩
theorem Holds.next{S o k:Nat}{ns:Nat->Nat}{w w':World}(h:Holds S o k ns w w')(s:Nat)(hs:(w.cell? ⟨S,o+k,none⟩).isSome=true) :
  Holds S o (k+1) (fun j=>if j=k then s else ns j) w (w'.setCell ⟨S,o+k,none⟩ (.int .u64 s)):=by
 refine⟨h.1.set _ _,fun j=>?_⟩;by_cases hj:j=o+k
 ·subst hj
  have h1:(w'.cell? ⟨S,o+k,none⟩).isSome=true:=by rw[h.2,if_neg (by omega)];exact hs
  obtain⟨v,hv⟩:=Option.isSome_iff_exists.1 h1;rw[if_pos (by omega),World.cell?_setCell_same _ _ _ hv];simp
 ·rw[World.cell?_setCell_other _ _ _ _ (by intro e;apply hj;injection e with _ e2;exact e2.symm)]
  rw[h.2 j];by_cases h1:o<=j/\j<o+k
  ·rw[if_pos h1,if_pos (by omega)]
   simp only[];rw[if_neg (by omega)]
  ·rw[if_neg h1,if_neg (by omega)]
def TakePost(S o n part:Nat)(r d:Nat->Nat)(w:World)(e:Ending)(w':World):Prop :=
 ∃(ns:Nat->Nat) (debt:Nat),e=.returned (.int .u64 debt)/\debt<=1/\(∀ j,j<n+1->ns j<18446744073709551616) /\
  val ns (n+1)+part*val d n=val r (n+1)+18446744073709551616^(n+1)*debt/\Holds S o (n+1) ns w w'
theorem take_step{P x rk t s c c' b b' m dk N R V:Nat}(h:N+V=R+P*(c+b))(h1:t+18446744073709551616*c'=m+c)(h2:s+t+b=rk+18446744073709551616*b')(hm:m=dk*x) :
  N+P*s+(V+P*(dk*x))=R+P*rk+P*18446744073709551616*(c'+b'):=by
 subst hm;have e1:P*t+P*(18446744073709551616*c')=P*(dk*x)+P*c:=by rw[<- Nat.mul_add,<- Nat.mul_add,h1]
 have e2:P*s+P*t+P*b=P*rk+P*(18446744073709551616*b'):=by rw[<- Nat.mul_add,<- Nat.mul_add,<- Nat.mul_add,h2]
 have e3:P*18446744073709551616*(c'+b')=P*(18446744073709551616*c')+P*(18446744073709551616*b'):=by grind
 have e4:P*(c+b)=P*c+P*b:=Nat.mul_add _ _ _;omega
theorem take_any(S o capS D capD n part:Nat)(r d:Nat->Nat)(hn:(n:Int)<=1000)(hr:∀ j,j<n+1->r j<18446744073709551616)(hd:∀ j,j<n->d j<18446744073709551616)
  (hp:part<18446744073709551616) (hSD:D≠S) (w:World)
  (hs:∀ j,j<n+1->w.cell? ⟨S,o+j,none⟩=some (.int .u64 (r j))) (hf:∀ j,j<n+1->w.frozen? ⟨S,o+j,none⟩=false)
  (hc:∀ j,j<n->w.cell? ⟨D,j,none⟩=some (.int .u64 (d j))) :
  Calls Tryz.prog 124 #[.slice (some ⟨S,o,none⟩) ((n+1:Nat)) capS,.slice (some ⟨D,0,none⟩) n capD,.int .u64 part] w (TakePost S o n part r d w):=by
 have HR:=Lib.hid hr;clear hr;have HD:=Lib.hid hd;clear hd;have HS:=Lib.hid hs;clear hs;have HF:=Lib.hid hf;clear hf;have HC:=Lib.hid hc;clear hc;have HN:=Lib.hid hSD;clear hSD;have HP:=Lib.hid hp;clear hp;go_enter Tryz.func124,Tryz.ntmps124;go_wp2
 go_loopw [7,8,14] (fun c b i wr=>∃(k cn bn:Nat) (ns:Nat->Nat),k<=n/\c=.int .u64 cn/\b=.int .u64 bn/\i=.int .i64 k/\Hid (cn<18446744073709551616/\bn<=1/\(∀ j,j<k->ns j<18446744073709551616)/\val ns k+val d k*part=val r k+18446744073709551616^k*(cn+bn)/\Holds S o k ns w wr)) (fun _ _ i _=>n - (intOf i).toNat)
 case atStart=>exact⟨0,0,0,r,Nat.zero_le _,rfl,rfl,rfl,Lib.hid ⟨by omega,by omega,fun j hj=>by omega,by simp[val],Holds.start S o r w⟩⟩
 case round =>
  obtain⟨k,cn,bn,ns,hk,rfl,rfl,rfl,H⟩:=hrel;have hk0:(0:Int)<=k:=by omega
  have hk1:(k:Int)<=1000:=by omega
  by_cases hlt:k<n
  ·obtain⟨tn,c',lt,lc,et,hM⟩:=mulAdd_ex (d k) part 0 cn (HD.out k hlt) HP.out (by omega) H.out.1
   obtain⟨sn,b',lb,ls,es,hSu⟩:=sub64_ex (r k) tn bn (HR.out k (by omega)) lt H.out.2.1;have cd:wr.cell? ⟨D,k,none⟩=some (.int .u64 (d k)):=by rw[H.out.2.2.2.2.1.cell (p:=⟨D,k,none⟩) HN.out];exact HC.out k hlt
   have cs:wr.cell? ⟨S,o+k,none⟩=some (.int .u64 (r k)):=by rw[H.out.2.2.2.2.2 (o+k),if_neg (by omega)];exact HS.out k (by omega)
   have cf:wr.frozen? ⟨S,o+k,none⟩=false:=by rw[H.out.2.2.2.2.1.frozen];exact HF.out k (by omega)
   have ET:=Lib.hid et;clear et;have ES:=Lib.hid es;clear es;have HM:=Lib.hid hM;clear hM
   go_wp2_with fail
   refine(HM.out _).mono ?_;rintro e w' ⟨rfl,rfl⟩;go_wp2
   go_roundw
   case rel =>
    refine⟨k+1,c',b',fun j=>if j=k then sn else ns j,by omega,rfl,rfl,by go_num,Lib.hid ⟨lc,lb,fun j hj=>?_,?_,H.out.2.2.2.2.next sn (by rw[HS.out k (by omega)];rfl)⟩⟩
    ·by_cases h:j=k
     ·simp only[h,if_true];exact ls
     ·simp only[h,if_false];exact H.out.2.2.1 j (by omega)
    ·have e1:val (fun j=>if j=k then sn else ns j) k=val ns k:=val_congr (fun j hj=>by simp only[show ¬j=k by omega,if_false])
     simp only[val,e1,if_true];have hm:d k*part=d k*part:=rfl;have:=take_step (P:=18446744073709551616^k) (x:=part) (dk:=d k) (N:=val ns k) (V:=val d k*part) H.out.2.2.2.1 (by rw[ET.out];omega) ES.out hm;rw[Nat.pow_succ,Nat.add_mul,Nat.mul_assoc _ (d k) part];exact this
   case measure=>simp[intOf];omega
  ·obtain rfl:k=n:=by omega
   obtain⟨s1,b1,lb1,ls1,es1,hS1⟩:=sub64_ex (r k) cn bn (HR.out k (by omega)) H.out.1 H.out.2.1;have ES:=Lib.hid es1;clear es1;have cs:wr.cell? ⟨S,o+k,none⟩=some (.int .u64 (r k)):=by rw[H.out.2.2.2.2.2 (o+k),if_neg (by omega)];exact HS.out k (by omega)
   have cf:wr.frozen? ⟨S,o+k,none⟩=false:=by rw[H.out.2.2.2.2.1.frozen];exact HF.out k (by omega)
   go_wp2;go_ret;refine⟨fun j=>if j=k then s1 else ns j,b1,rfl,lb1,fun j hj=>?_,?_,H.out.2.2.2.2.next s1 (by rw[HS.out k (by omega)];rfl)⟩
   ·by_cases h:j=k
    ·simp only[h,if_true];exact ls1
    ·simp only[h,if_false];exact H.out.2.2.1 j (by omega)
   ·have e1:val (fun j=>if j=k then s1 else ns j) k=val ns k:=val_congr (fun j hj=>by simp only[show ¬j=k by omega,if_false])
    simp only[val,e1,if_true];have h0:=H.out.2.2.2.1;have h1:=ES.out;rw[Nat.mul_comm part,Nat.pow_succ,Nat.mul_assoc];have e2:18446744073709551616^k*s1+18446744073709551616^k*cn+18446744073709551616^k*bn=18446744073709551616^k*r k+18446744073709551616^k*(18446744073709551616*b1):=by rw[<- Nat.mul_add,<- Nat.mul_add,<- Nat.mul_add,h1]
    rw[Nat.mul_add]at h0;omega
open Go.RowKit
def ar(k:IntKind)(n:Nat)(f:Nat->Int):Array Value:=((List.range n).map fun j=>Value.int k (f j)).toArray
theorem ar_size(k:IntKind)(n:Nat)(f:Nat->Int):(ar k n f).size=n:=by simp[ar]
theorem ar_at(k:IntKind)(n:Nat)(f:Nat->Int)(j:Nat)(h:j<n):(ar k n f)[j]?=some (.int k (f j)):=by simp[ar,h]
def updI(f:Nat->Int)(p:Nat)(y:Int)(j:Nat):Int:=if j=p then y else f j
theorem ar_set(k:IntKind)(n:Nat)(f:Nat->Int)(p:Nat)(y:Int)(h:p<n):(ar k n f).setIfInBounds p (.int k y)=ar k n (updI f p y):=by
 apply Array.ext
 ·simp[ar]
 ·intro i h1 h2
  have hi:i<n:=by simpa[ar]using h2
  by_cases e:i=p
  ·subst e;simp[ar,updI]
  ·simp[ar,updI,e,Ne.symm e]
theorem ar_congr{k:IntKind}{n:Nat}{f g:Nat->Int}(h:∀ j,j<n->f j=g j):ar k n f=ar k n g:=by
 unfold ar;congr 1;apply List.map_congr_left;intro j hj;rw[h j (by simpa using hj)]
theorem ar_one(k:IntKind)(n:Nat)(f:Nat->Int):(ar k n f).all (·.oneCell')=true:=by simp[ar,Value.oneCell']
theorem index_ar{P:Program}{t e:TypeId}{k:IntKind}{n:Nat}{f:Nat->Int}{i:Nat}(w:World)(ht:P.underlying t=some (.array n e))(hs:(sizeOf e).run P w=.ok 1 w)(ha:(isAgg e).run P w=.ok false w)(h:i<n):(Instr.index t (.agg (ar k n f)) (.int .i64 i)).run P w=.ok (.int k (f i)) w:=by
 have h0:(0:Int)<=i:=by omega
 have h1:¬n<=i:=by omega
 have hc:=ar_at k n f i h;simp[Instr.index,asIntOf,run_underlying ht,part,hs,ha,h0,h1,hc,Result.andThen]
theorem run_loadVar_part{P:Program}(w:World)(g o n:Nat)(ty:TypeId)(k:IntKind)(f:Nat->Int)(d:TypeDesc)(hc:∀ j,j<n->w.cell? ⟨g,o+j,none⟩=some (.int k (f j)))
  (hu:P.underlying ty=some d) (hd:(match d with | .struct _ | .array _ _=>true | _=>false)=true) (hi:(P.info? ty).map (·.size)=some n) :
  (loadVar ty ⟨g,o,none⟩).run P w=.ok (.agg (ar k n f)) w:=by
 have hl:(loadCells ⟨g,o,none⟩ (ar k n f).toList.length).run P w=.ok (ar k n f).toList.toArray w :=
  run_loadCells_list (P:=P) w ⟨g,o,none⟩ (ar k n f).toList (fun j v hv=>by
   have hjn:j<n:=by
    have:=(List.getElem?_eq_some_iff.1 hv).1;rwa [Array.length_toList,ar_size]at this
   have hadd:(⟨g,o,none⟩:Addr).add j=⟨g,o+j,none⟩:=by unfold Addr.add;split <;> simp_all
   rw[hadd,hc j hjn];have h2:=ar_at k n f j hjn;rw[<- Array.getElem?_toList]at h2;rw[<- hv,h2])
 cases hq:P.info? ty with
 | none=>simp[hq]at hi
 | some i =>
  have hs:i.size=n:=by simpa[hq]using hi
  have hagg:(isAgg ty).run P w=.ok true w:=by
   unfold isAgg;rw[Sem.run_bind,run_underlying hu w];cases d <;> simp_all
  simp only[Array.length_toList,Array.toArray_toList,ar_size]at hl;simp[loadVar,Sem.run_bind,hagg,sizeOf,typeInfo,hq,hs,hl]
theorem load_u64(g j:Nat)(y:Int)(w:World)(h:w.cell? ⟨g,j,none⟩=some (.int .u64 y)):(Instr.loadAt 22 (.pointer (some ⟨g,j,none⟩))).run Tryz.prog w=.ok (.int .u64 y) w:=by
 go_simp
theorem store_u64(g j:Nat)(y:Int)(u:Value)(w:World)(h:w.cell? ⟨g,j,none⟩=some u)(hf:w.frozen? ⟨g,j,none⟩=false):(Instr.storeAt 22 (.pointer (some ⟨g,j,none⟩)) (.int .u64 y)).run Tryz.prog w=.ok () (w.setCell ⟨g,j,none⟩ (.int .u64 y)):=by
 go_simp
theorem run_st{P:Program}{a:Act}{o:Oper}{w w':World}(t:TypeId)(p q:Operand)(u v:Value)(ho:o.op=.store t p q)(hp:a.eval p=u)(hq:a.eval q=v)(h:(Instr.storeAt t u v).run P w=.ok () w'):(execOp a.eval o).run P w=.ok .skip w':=by
 unfold execOp;rw[ho];simp only[hp,hq,Sem.run_bind,h,Result.andThen_ok,Sem.run_pure]
theorem arr_lit2(t:Array Value):t=((List.range t.size).map fun i=>t.getD i undef).toArray:=by
 apply Array.ext
 ·simp
 ·intro i h1 h2
  simp[h1]
structure Bt (V:Nat) (w w':World):Prop where
 os:w'.os=w.os
 tape:w'.tape=w.tape
 output:w'.output=w.output
 size:w.heap.size<=w'.heap.size
 block:∀ k,k≠V->k<w.heap.size->w'.heap[k]?=w.heap[k]?
theorem Bt.refl(V:Nat)(w:World):Bt V w w:=⟨rfl,rfl,rfl,Nat.le_refl _,fun _ _ _=>rfl⟩
theorem Bt.below{V B:Nat}{w0 w w':World}(h0:Below B w0 w)(h:Bt V w w')(hB:B<=V)(hl:B<=w.heap.size):Below B w0 w' :=
 h0.trans ⟨h.os,h.tape,h.output,h.size,fun k hk=>h.block k (by omega) (by omega)⟩
theorem Bt.drew{V:Nat}{w w':World}(h:Bt V w w'):Bt V w w'.drew:=⟨h.os,h.tape,h.output,h.size,h.block⟩
theorem Bt.set{V j:Nat}{w w':World}(h:Bt V w w')(v:Value):Bt V w (w'.setCell ⟨V,j,none⟩ v) :=
 ⟨h.os,h.tape,h.output,Nat.le_trans h.size (by simp),fun k hk hl=>(heap_setCell_other _ _ _ _ hk).trans (h.block k hk hl)⟩
theorem wpList_val{P:Program}{ops:Array Oper}{rest:List Oper}{o:Oper}{a:Act}{w w':World}{Q:Exit->Act->World->Prop}(hgd:o.guard=none)(v:Value)(hr:(execOp a.eval o).run P w=.ok (.value v) w')
  (h:wpList P ops Q rest (a.put o.dst v) w'):wpList P ops Q (o::rest) a w :=
 wpList_plain hgd fun _ hK=>by
  unfold Oper.wp;rw[hr];exact hK _ _ h
theorem q_sem2{P:Program}{ops:Array Oper}{C:World->Prop}{Q:Act->Prop}{a:Act}{o:Oper}{rest:List Oper}(s:Sem Value)(v:Value)(hw:Region.wanted o (yielded ops a.tmps)=true)(ho:execOp a.eval o=(do let x <- s;pure (.value x)))(hr:∀ w,C w->s.run P w=.ok v w)(h:wpQuiet P ops C Q rest (a.put o.dst v)):wpQuiet P ops C Q (o::rest) a :=
 q_val v hw (fun w hC=>by rw[ho];simp only[Sem.run_bind,hr w hC,Result.andThen_ok,Sem.run_pure]) h
theorem wpList_ld{P:Program}{ops:Array Oper}{rest:List Oper}{o:Oper}{a:Act}{w:World}{Q:Exit->Act->World->Prop}(hgd:o.guard=none)(T:TypeId)(x:Operand)(ho:o.op=.load T x)(p v:Value)(hp:a.eval x=p)
  (hr:(Instr.loadAt T p).run P w=.ok v w) (h:wpList P ops Q rest (a.put o.dst v) w):wpList P ops Q (o::rest) a w :=
 wpList_val hgd v (by unfold execOp;rw[ho];simp only[hp,Sem.run_bind,hr,Result.andThen_ok,Sem.run_pure]) h
theorem run_nil{P:Program}{a:Act}{o:Oper}{w:World}(x:Operand)(p:Addr)(ho:o.op=.nilCheck x)(hx:a.eval x=.pointer (some p)):(execOp a.eval o).run P w=.ok (.value (.pointer (some p))) w:=by
 unfold execOp;rw[ho];simp only[hx];rfl
theorem run_ext{P:Program}{a:Act}{o:Oper}{w:World}(x:Operand)(i:Nat)(vs:Array Value)(v:Value)(ho:o.op=.extract x i)(hx:a.eval x=.tuple vs)(hv:vs[i]?=some v):(execOp a.eval o).run P w=.ok (.value v) w:=by
 unfold execOp;rw[ho];simp only[hx,Instr.extract,hv];rfl
open Go.RowKit
theorem fmulAdd_walk(x y m c h l s0 d0 s1 d1:Nat)(w:World)
  (hM:∀ w,Calls Tryz.prog 121 #[.int .u64 x,.int .u64 y] w fun e w'=>e=.returned (.tuple #[.int .u64 h,.int .u64 l])/\w=w')
  (h0:∀ w,(callFunc 100 #[.int .u64 l,.int .u64 m,.int .u64 0]).run Tryz.prog w=.ok (.value (.tuple #[.int .u64 s0,.int .u64 d0])) w)
  (h1:∀ w,(callFunc 100 #[.int .u64 s0,.int .u64 c,.int .u64 0]).run Tryz.prog w=.ok (.value (.tuple #[.int .u64 s1,.int .u64 d1])) w)
  (b1:(h:Int)+d0<=18446744073709551615) (b2:(h:Int)+d0+d1<=18446744073709551615) :
  Calls Tryz.prog 113 #[.int .u64 x,.int .u64 y,.int .u64 m,.int .u64 c] w fun e w'=>e=.returned (.tuple #[.int .u64 s1,.int .u64 ((h+d0+d1:Nat):Int)])/\w=w':=by
 go_enter Tryz.func113,Tryz.ntmps113
 go_wp2_with fail
 refine(hM _).mono ?_;rintro e w' ⟨rfl,rfl⟩;go_wp2
 go_ret2
 exact⟨by simp,rfl⟩
theorem fmulAdd_ex(x y m c:Nat)(hx:x<18446744073709551616)(hy:y<18446744073709551616)(hm:m<18446744073709551616)(hc:c<18446744073709551616) :
  ∃ l h:Nat,l<18446744073709551616/\h<18446744073709551616/\l+18446744073709551616*h=x*y+m+c /\
   ∀ w,Calls Tryz.prog 113 #[.int .u64 x,.int .u64 y,.int .u64 m,.int .u64 c] w fun e w'=>e=.returned (.tuple #[.int .u64 l,.int .u64 h])/\w=w':=by
 obtain⟨h,l,lh,ll,e,hM⟩:=mul64_ex x y hx hy;obtain⟨s0,d0,k0,l0,e0,h0⟩:=add64_ex0 l m ll hm;obtain⟨s1,d1,k1,l1,e1,h1⟩:=add64_ex0 s0 c l0 hc;have hb:x*y<=18446744073709551615*18446744073709551615:=Nat.mul_le_mul (by omega) (by omega);have ht:s1+18446744073709551616*(h+d0+d1)=x*y+m+c:=by omega
 have hh:h+d0+d1<18446744073709551616:=by omega
 exact⟨s1,h+d0+d1,l1,hh,ht,fun w=>fmulAdd_walk x y m c h l s0 d0 s1 d1 w hM h0 h1 (by omega) (by omega)⟩
open Go.RowKit
structure CA (w:World) (S:Nat) (B o:Nat) (a:Nat->Nat) (s:Nat->Nat) (wx:World):Prop where
 bt:Bt S w wx
 row:wx.heap[S]?=some (.cells (ar .u64 8 fun j=>(s j:Nat)) 81 (0,0))
 rd:∀ j,j<4->wx.cell? ⟨B,o+j,none⟩=some (.int .u64 (a j:Nat))
 hB:B≠S
theorem CA.drew{w wx:World}{S B o:Nat}{a s:Nat->Nat}(c:CA w S B o a s wx):CA w S B o a s wx.drew:=⟨c.bt.drew,c.row,c.rd,c.hB⟩
theorem CA.drewN{w wx:World}{S B o:Nat}{a s:Nat->Nat}(c:CA w S B o a s wx)(n:Nat):CA w S B o a s (wx.drewN n):=⟨⟨c.bt.os,c.bt.tape,c.bt.output,c.bt.size,c.bt.block⟩,c.row,c.rd,c.hB⟩
theorem CA.at_{w wx:World}{S B o:Nat}{a s:Nat->Nat}(c:CA w S B o a s wx)(j:Nat)(hj:j<8):wx.cell? ⟨S,j,none⟩=some (.int .u64 (s j:Nat)):=(cell_of_row _ _ j _ _ _ c.row).trans (ar_at _ _ _ _ hj)
def updN(s:Nat->Nat)(p y j:Nat):Nat:=if j=p then y else s j
theorem updI_N(s:Nat->Nat)(p y:Nat):updI (fun j=>((s j:Nat):Int)) p (y:Int)=fun j=>((updN s p y j:Nat):Int):=by
 funext j
 unfold updI updN;by_cases e:j=p
 ·rw[if_pos e,if_pos e]
 ·rw[if_neg e,if_neg e]
theorem CA.set{w wx:World}{S B o:Nat}{a s:Nat->Nat}(c:CA w S B o a s wx)(p y:Nat)(hp:p<8):CA w S B o a (updN s p y) (wx.setCell ⟨S,p,none⟩ (.int .u64 (y:Nat))) :=
 ⟨c.bt.set _,(heap_setCell_same _ _ _ _ _ _ c.row).trans (by rw[ar_set _ _ _ _ _ hp,updI_N]),fun j hj=>(World.cell?_setCell_other _ _ _ _ (by intro e;injection e with e1 e2;exact c.hB e1.symm)).trans (c.rd j hj),c.hB⟩
theorem CA.store{w wx:World}{S B o:Nat}{a s:Nat->Nat}(c:CA w S B o a s wx)(p y:Nat)(hp:p<8):(Instr.storeAt 22 (.pointer (some ⟨S,p,none⟩)) (.int .u64 (y:Nat))).run Tryz.prog wx=.ok () (wx.setCell ⟨S,p,none⟩ (.int .u64 (y:Nat))) :=
 store_u64 _ _ _ _ _ (c.at_ p hp) (frozen_of_row _ _ p _ _ c.row)
structure RowI (s a:Nat->Nat) (i x k c:Nat) (s':Nat->Nat):Prop where
 lt:∀ t,s' t<18446744073709551616
 out:∀ t,t<i\/i+k<=t->s' t=s t
 clt:c<18446744073709551616
 sum:val (fun j=>s' (i+j)) k+18446744073709551616^k*c=val (fun j=>s (i+j)) k+x*val a k
theorem RowI.next{s a s':Nat->Nat}{i x k c l h:Nat}(H:RowI s a i x k c s')(hl:l<18446744073709551616)(hh:h<18446744073709551616)(he:l+18446744073709551616*h=x*a k+s' (i+k)+c):RowI s a i x (k+1) h (updN s' (i+k) l):=by
 refine⟨fun t=>?_,fun t ht=>?_,hh,?_⟩
 ·unfold updN
  split
  ·exact hl
  ·exact H.lt t
 ·unfold updN
  rw[if_neg (by omega)];exact H.out t (by omega)
 ·have h1:=H.sum
  have h2:s' (i+k)=s (i+k):=H.out _ (.inr (Nat.le_refl _));simp only[val];rw[val_congr (f:=fun j=>updN s' (i+k) l (i+j)) (g:=fun j=>s' (i+j)) (fun j hj=>by show updN s' (i+k) l (i+j)=_;unfold updN;rw[if_neg (by omega)])];rw[show updN s' (i+k) l (i+k)=l from if_pos rfl];obtain⟨P,hP⟩:∃ P,18446744073709551616^k=P:=⟨_,rfl⟩
  rw[hP]at h1;rw[Nat.pow_succ,hP];rw[h2]at he;have e1:P*l+P*18446744073709551616*h=P*(x*a k+s (i+k)+c):=by rw[<- he,Nat.mul_add,Nat.mul_assoc]
  have e2:P*(x*a k+s (i+k)+c)=P*(x*a k)+P*s (i+k)+P*c:=by rw[Nat.mul_add,Nat.mul_add]
  have e3:x*(val a k+P*a k)=x*val a k+P*(x*a k):=by rw[Nat.mul_add,Nat.mul_left_comm]
  rw[e3];omega
theorem at4p(V o j:Nat)(hj:j<4)(w:World):(Instr.indexAt 24 (.pointer (some ⟨V,o,none⟩)) (.int .i64 (j:Nat))).run Tryz.prog w=.ok (.pointer (some ⟨V,o+j,none⟩)) w:=by
 have h0:(0:Int)<=j:=by omega
 have h1:(j:Int)<4:=by omega
 go_simp
-- WHAT addTimes COMES TO.
theorem addTimes_any(S B o u x:Nat)(a s:Nat->Nat)(hi:u<=4)(hx:x<18446744073709551616)(ha:∀ j,a j<18446744073709551616)(hs:∀ j,s j<18446744073709551616)(hB:B≠S)(w:World)
  (hS:w.heap[S]?=some (.cells (ar .u64 8 fun j=>(s j:Nat)) 81 (0,0))) (hA:∀ j,j<4->w.cell? ⟨B,o+j,none⟩=some (.int .u64 (a j:Nat))) :
  Calls Tryz.prog 104 #[.pointer (some ⟨S,u,none⟩),.pointer (some ⟨B,o,none⟩),.int .u64 x] w fun e w'=>∃(c:Nat) (s':Nat->Nat),e=.returned (.int .u64 c)/\RowI s a u x 4 c s'/\CA w S B o a s' w':=by
 have H0:=Lib.hid (show CA w S B o a s w from⟨Bt.refl _ _,hS,hA,hB⟩);have HX:=Lib.hid (And.intro hx (And.intro ha hi));have HI:=Lib.hid (show RowI s a u x 0 0 s from⟨hs,fun _ _=>rfl,by omega,by simp[val]⟩);clear hS hA hB hx ha hs hi;go_enter Tryz.func104,Tryz.ntmps104
 go_wp2_with fail
 go_loopw [7,11] (fun cv iv wr=>∃(k c:Nat) (s':Nat->Nat),k<=4/\cv=.int .u64 c/\iv=.int .i64 k/\Hid (RowI s a u x k c s'/\CA w S B o a s' wr)) (fun _ iv _=>4 - (intOf iv).toNat)
 case atStart=>exact⟨0,0,s,by omega,rfl,rfl,Lib.hid ⟨HI.out,H0.out⟩⟩
 case round =>
  obtain⟨k,c,s',hk,rfl,rfl,H⟩:=hrel;clear HI H0;have hk0:(0:Int)<=k:=by omega
  by_cases hlt:k<4
  ·have hlt':(k:Int)<4:=by omega
   have ca:=H.out.2.rd k hlt;obtain⟨p,hp⟩:∃ p,u+k=p:=⟨_,rfl⟩
   have hp8:p<8:=by have:=HX.out.2.2;omega
   obtain⟨y,hy⟩:∃ y,a k=y:=⟨_,rfl⟩
   obtain⟨z,hz⟩:∃ z,s' p=z:=⟨_,rfl⟩
   obtain⟨l,h,hl,hh,he,hM⟩:=fmulAdd_ex x y z c HX.out.1 (by rw[<- hy];exact HX.out.2.1 k) (by rw[<- hz];exact H.out.1.lt p) H.out.1.clt;have HN:=Lib.hid (show RowI s a u x (k+1) h (updN s' p l) from by
    rw[<- hp];exact H.out.1.next hl hh (by rw[hp,hz,hy];exact he))
   have HC:=Lib.hid H.out.2;have HM:=Lib.hid hM;have HP:=Lib.hid (And.intro hp (And.intro hp8 hz));have HK:=Lib.hid hlt;rw[hy]at ca;clear hp hp8 hy hz hl hh he hM H
   go_wp2_with fail
   go_quiet (fail)
   go_wp2_with fail
   refine region_tieS (CA w S B o a s') (CA w S B o a (updN s' p l)) 16 (fun i s wx=>match i with | 0=>s 18=(.pointer (some ⟨S,u,none⟩)) | 1=>s 19=(.int .i64 (k:Nat)) | 2=>s 20=(.int .u64 x) | 3=>s 21=(.int .u64 y) | 4=>s 22=(.pointer (some ⟨S,u,none⟩)) | 5=>s 23=(.int .i64 (k:Nat)) | 6=>s 24=(.pointer (some ⟨S,u,none⟩)) | 7=>s 25=(.pointer (some ⟨S,p,none⟩)) | 8=>s 26=(.int .u64 z) | 9=>s 27=(.int .u64 c) | 10=>s 28=(.tuple #[.int .u64 l,.int .u64 h]) | 11=>s 17=(.tuple #[.int .u64 l,.int .u64 h]) | 12=>s 29=(.int .u64 l) | 13=>s 30=(.int .u64 h) | 14=>s 31=(.pointer (some ⟨S,u,none⟩)) | 15=>s 32=(.pointer (some ⟨S,p,none⟩)) | 16=>True | 17=>s 7=(.int .u64 h) | _=>True) (fun _ _=>True) (fun i=>match i with | 0=>[18] | 1=>[19] | 2=>[20] | 3=>[21] | 4=>[22] | 5=>[23] | 6=>[24] | 7=>[25] | 8=>[26] | 9=>[27] | 10=>[28] | 11=>[17] | 12=>[29] | 13=>[30] | 14=>[31] | 15=>[32] | 16=>[] | 17=>[7] | _=>[]) (fun i=>i) (by kernel_rfl) (by kernel_rfl) (by kernel_rfl) (HC.out.drewN nq).drew ?_ ?_ ?_ ?_
   ·intro i s s' wx he hp
    match i,he,hp with
    | 0,he,hp=>exact(he 18 (by simp)).symm.trans hp
    | 1,he,hp=>exact(he 19 (by simp)).symm.trans hp
    | 2,he,hp=>exact(he 20 (by simp)).symm.trans hp
    | 3,he,hp=>exact(he 21 (by simp)).symm.trans hp
    | 4,he,hp=>exact(he 22 (by simp)).symm.trans hp
    | 5,he,hp=>exact(he 23 (by simp)).symm.trans hp
    | 6,he,hp=>exact(he 24 (by simp)).symm.trans hp
    | 7,he,hp=>exact(he 25 (by simp)).symm.trans hp
    | 8,he,hp=>exact(he 26 (by simp)).symm.trans hp
    | 9,he,hp=>exact(he 27 (by simp)).symm.trans hp
    | 10,he,hp=>exact(he 28 (by simp)).symm.trans hp
    | 11,he,hp=>exact(he 17 (by simp)).symm.trans hp
    | 12,he,hp=>exact(he 29 (by simp)).symm.trans hp
    | 13,he,hp=>exact(he 30 (by simp)).symm.trans hp
    | 14,he,hp=>exact(he 31 (by simp)).symm.trans hp
    | 15,he,hp=>exact(he 32 (by simp)).symm.trans hp
    | 16,he,hp=>trivial
    | 17,he,hp=>exact(he 7 (by simp)).symm.trans hp
    | _+18,_,_=>trivial
   ·intro i s wa wb hR hp
    match i,hp with
    | 0,hp=>exact hp
    | 1,hp=>exact hp
    | 2,hp=>exact hp
    | 3,hp=>exact hp
    | 4,hp=>exact hp
    | 5,hp=>exact hp
    | 6,hp=>exact hp
    | 7,hp=>exact hp
    | 8,hp=>exact hp
    | 9,hp=>exact hp
    | 10,hp=>exact hp
    | 11,hp=>exact hp
    | 12,hp=>exact hp
    | 13,hp=>exact hp
    | 14,hp=>exact hp
    | 15,hp=>exact hp
    | 16,hp=>exact hp
    | 17,hp=>exact hp
    | _+18,_=>trivial
   ·refine⟨?_,?_,?_,?_,?_,?_,?_,?_,?_,?_,?_,?_,?_,?_,?_,?_,?_,?_,?_,?_,?_,?_,?_,?_,?_,?_,?_,?_,?_,?_,?_,?_,?_,?_,?_,?_,trivial⟩
    ·intro a_ wx hC hsz hK
     refine⟨by kernel_rfl,?_⟩;have h0:a_.tmps.getD 0 undef=(.pointer (some ⟨S,u,none⟩)):=hK.1 0 (by kernel_rfl);exact tt_val ((.pointer (some ⟨S,u,none⟩))) (by kernel_rfl) (by rw[<- h0];kernel_rfl) hC (slots_put _ _ _ (by rw[hsz];exact of_decide_eq_true (by kernel_rfl))) trivial
    ·exact .inl (by kernel_rfl)
    ·intro a_ wx hC hsz hK
     refine⟨by kernel_rfl,?_⟩;have h0:a_.tmps.getD 8 undef=(.int .i64 (k:Nat)):=hK.1 8 (by kernel_rfl);exact tt_val ((.int .i64 (k:Nat))) (by kernel_rfl) (by rw[<- h0];kernel_rfl) hC (slots_put _ _ _ (by rw[hsz];exact of_decide_eq_true (by kernel_rfl))) trivial
    ·exact .inl (by kernel_rfl)
    ·intro a_ wx hC hsz hK
     refine⟨by kernel_rfl,?_⟩;have h0:a_.tmps.getD 2 undef=(.int .u64 x):=hK.1 2 (by kernel_rfl);exact tt_val ((.int .u64 x)) (by kernel_rfl) (by rw[<- h0];kernel_rfl) hC (slots_put _ _ _ (by rw[hsz];exact of_decide_eq_true (by kernel_rfl))) trivial
    ·exact .inl (by kernel_rfl)
    ·intro a_ wx hC hsz hK
     refine⟨by kernel_rfl,?_⟩;have h0:a_.tmps.getD 9 undef=(.int .u64 y):=hK.1 9 (by kernel_rfl);exact tt_val ((.int .u64 y)) (by kernel_rfl) (by rw[<- h0];kernel_rfl) hC (slots_put _ _ _ (by rw[hsz];exact of_decide_eq_true (by kernel_rfl))) trivial
    ·exact .inl (by kernel_rfl)
    ·intro a_ wx hC hsz hK
     refine⟨by kernel_rfl,?_⟩;have h0:a_.tmps.getD 0 undef=(.pointer (some ⟨S,u,none⟩)):=hK.1 0 (by kernel_rfl);exact tt_val ((.pointer (some ⟨S,u,none⟩))) (by kernel_rfl) (by rw[<- h0];kernel_rfl) hC (slots_put _ _ _ (by rw[hsz];exact of_decide_eq_true (by kernel_rfl))) trivial
    ·exact .inl (by kernel_rfl)
    ·intro a_ wx hC hsz hK
     refine⟨by kernel_rfl,?_⟩;have h0:a_.tmps.getD 8 undef=(.int .i64 (k:Nat)):=hK.1 8 (by kernel_rfl);exact tt_val ((.int .i64 (k:Nat))) (by kernel_rfl) (by rw[<- h0];kernel_rfl) hC (slots_put _ _ _ (by rw[hsz];exact of_decide_eq_true (by kernel_rfl))) trivial
    ·exact .inl (by kernel_rfl)
    ·intro a_ wx hC hsz hK
     refine⟨by kernel_rfl,?_⟩;have h0:a_.tmps.getD 22 undef=(.pointer (some ⟨S,u,none⟩)):=hK.2 ⟨4,.data⟩ (by simp) rfl _ rfl;exact tt_val ((.pointer (some ⟨S,u,none⟩))) (by kernel_rfl) (run_nil (.tmp 22) _ rfl h0) hC (slots_put _ _ _ (by rw[hsz];exact of_decide_eq_true (by kernel_rfl))) trivial
    ·exact .inl (by kernel_rfl)
    ·intro a_ wx hC hsz hK
     refine⟨by kernel_rfl,?_⟩;have h0:a_.tmps.getD 24 undef=(.pointer (some ⟨S,u,none⟩)):=hK.2 ⟨6,.data⟩ (by simp) rfl _ rfl;have h1:a_.tmps.getD 23 undef=(.int .i64 (k:Nat)):=hK.2 ⟨5,.data⟩ (by simp) rfl _ rfl;refine tt_v (Instr.indexAt 24 (a_.tmps.getD 24 undef) (a_.tmps.getD 23 undef)) ((.pointer (some ⟨S,p,none⟩))) (by kernel_rfl) (by kernel_rfl) ?_ hC (slots_put _ _ _ (by rw[hsz];exact of_decide_eq_true (by kernel_rfl))) trivial;rw[h0,h1];exact by rw[<- HP.out.1];exact at4p _ _ _ HK.out wx
    ·exact .inl (by kernel_rfl)
    ·intro a_ wx hC hsz hK
     refine⟨by kernel_rfl,?_⟩;have h0:a_.tmps.getD 25 undef=(.pointer (some ⟨S,p,none⟩)):=hK.2 ⟨7,.data⟩ (by simp) rfl _ rfl;exact tt_load 22 (.tmp 25) ((.pointer (some ⟨S,p,none⟩))) ((.int .u64 z)) rfl (by kernel_rfl) h0 (by rw[<- HP.out.2.2];exact load_u64 _ _ _ _ (hC.at_ p HP.out.2.1)) hC (slots_put _ _ _ (by rw[hsz];exact of_decide_eq_true (by kernel_rfl))) trivial
    ·exact .inl (by kernel_rfl)
    ·intro a_ wx hC hsz hK
     refine⟨by kernel_rfl,?_⟩;have h0:a_.tmps.getD 7 undef=(.int .u64 c):=hK.1 7 (by kernel_rfl);exact tt_val ((.int .u64 c)) (by kernel_rfl) (by rw[<- h0];kernel_rfl) hC (slots_put _ _ _ (by rw[hsz];exact of_decide_eq_true (by kernel_rfl))) trivial
    ·exact .inl (by kernel_rfl)
    ·intro a_ wx hC hsz hK
     refine⟨by kernel_rfl,?_⟩;have h0:a_.tmps.getD 20 undef=(.int .u64 x):=hK.2 ⟨2,.data⟩ (by simp) rfl _ rfl;have h1:a_.tmps.getD 21 undef=(.int .u64 y):=hK.2 ⟨3,.data⟩ (by simp) rfl _ rfl;have h2:a_.tmps.getD 26 undef=(.int .u64 z):=hK.2 ⟨8,.data⟩ (by simp) rfl _ rfl;have h3:a_.tmps.getD 27 undef=(.int .u64 c):=hK.2 ⟨9,.data⟩ (by simp) rfl _ rfl;refine tt_call 113 #[a_.tmps.getD 20 undef,a_.tmps.getD 21 undef,a_.tmps.getD 26 undef,a_.tmps.getD 27 undef] (by kernel_rfl) (by kernel_rfl) ?_;rw[h0,h1,h2,h3];exact(HM.out wx).mono fun e w' hh=>⟨_,hh.1,hh.2 ▸ hC,(slots_put _ _ _ (by rw[hsz];exact of_decide_eq_true (by kernel_rfl))),trivial⟩
    ·exact .inl (by kernel_rfl)
    ·intro a_ wx hC hsz hK
     refine⟨by kernel_rfl,?_⟩;have h0:a_.tmps.getD 28 undef=(.tuple #[.int .u64 l,.int .u64 h]):=hK.2 ⟨10,.data⟩ (by simp) rfl _ rfl;exact tt_val ((.tuple #[.int .u64 l,.int .u64 h])) (by kernel_rfl) (by rw[<- h0];kernel_rfl) hC (slots_put _ _ _ (by rw[hsz];exact of_decide_eq_true (by kernel_rfl))) trivial
    ·exact .inl (by kernel_rfl)
    ·intro a_ wx hC hsz hK
     refine⟨by kernel_rfl,?_⟩;have h0:a_.tmps.getD 17 undef=(.tuple #[.int .u64 l,.int .u64 h]):=hK.2 ⟨11,.data⟩ (by simp) rfl _ rfl;exact tt_val ((.int .u64 l)) (by kernel_rfl) (run_ext (.tmp 17) 0 _ _ rfl h0 rfl) hC (slots_put _ _ _ (by rw[hsz];exact of_decide_eq_true (by kernel_rfl))) trivial
    ·exact .inl (by kernel_rfl)
    ·intro a_ wx hC hsz hK
     refine⟨by kernel_rfl,?_⟩;have h0:a_.tmps.getD 17 undef=(.tuple #[.int .u64 l,.int .u64 h]):=hK.2 ⟨11,.data⟩ (by simp) rfl _ rfl;exact tt_val ((.int .u64 h)) (by kernel_rfl) (run_ext (.tmp 17) 1 _ _ rfl h0 rfl) hC (slots_put _ _ _ (by rw[hsz];exact of_decide_eq_true (by kernel_rfl))) trivial
    ·refine .inr (.inr ?_)
     intro a_ wx hC hsz hK;refine⟨by kernel_rfl,?_⟩;have h0:a_.tmps.getD 17 undef=(.tuple #[.int .u64 l,.int .u64 h]):=hK.2 ⟨11,.data⟩ (by simp) rfl _ rfl;exact tt_val ((.int .u64 h)) (by kernel_rfl) (run_ext (.tmp 17) 1 _ _ rfl h0 rfl) hC (slots_put _ _ _ (by rw[hsz];exact of_decide_eq_true (by kernel_rfl))) trivial
    ·intro a_ wx hC hsz hK
     refine⟨by kernel_rfl,?_⟩;have h0:a_.tmps.getD 18 undef=(.pointer (some ⟨S,u,none⟩)):=hK.2 ⟨0,.data⟩ (by simp) rfl _ rfl;exact tt_val ((.pointer (some ⟨S,u,none⟩))) (by kernel_rfl) (run_nil (.tmp 18) _ rfl h0) hC (slots_put _ _ _ (by rw[hsz];exact of_decide_eq_true (by kernel_rfl))) trivial
    ·exact .inl (by kernel_rfl)
    ·intro a_ wx hC hsz hK
     refine⟨by kernel_rfl,?_⟩;have h0:a_.tmps.getD 31 undef=(.pointer (some ⟨S,u,none⟩)):=hK.2 ⟨14,.data⟩ (by simp) rfl _ rfl;have h1:a_.tmps.getD 19 undef=(.int .i64 (k:Nat)):=hK.2 ⟨1,.data⟩ (by simp) rfl _ rfl;refine tt_v (Instr.indexAt 24 (a_.tmps.getD 31 undef) (a_.tmps.getD 19 undef)) ((.pointer (some ⟨S,p,none⟩))) (by kernel_rfl) (by kernel_rfl) ?_ hC (slots_put _ _ _ (by rw[hsz];exact of_decide_eq_true (by kernel_rfl))) trivial;rw[h0,h1];exact by rw[<- HP.out.1];exact at4p _ _ _ HK.out wx
    ·exact .inl (by kernel_rfl)
    ·intro a_ wx hC hsz hK
     refine⟨by kernel_rfl,?_⟩;have h0:a_.tmps.getD 32 undef=(.pointer (some ⟨S,p,none⟩)):=hK.2 ⟨15,.data⟩ (by simp) rfl _ rfl;have h1:a_.tmps.getD 29 undef=(.int .u64 l):=hK.2 ⟨12,.data⟩ (by simp) rfl _ rfl;exact tt_store (by kernel_rfl) rfl (run_st 22 (.tmp 32) (.tmp 29) _ _ rfl h0 h1 (hC.store p l HP.out.2.1)) (hC.set p l HP.out.2.1) trivial trivial
    ·exact .inr (.inl rfl)
    ·intro a_ wx hC hsz hK
     refine⟨by kernel_rfl,?_⟩;have h0:a_.tmps.getD 30 undef=(.int .u64 h):=hK.2 ⟨13,.data⟩ (by simp) rfl _ rfl;exact tt_val ((.int .u64 h)) (by kernel_rfl) (by rw[<- h0];kernel_rfl) hC (slots_put _ _ _ (by rw[hsz];exact of_decide_eq_true (by kernel_rfl))) trivial
    ·refine .inr (.inr ?_)
     intro a_ wx hC hsz hK;refine⟨by kernel_rfl,?_⟩;have h0:a_.tmps.getD 30 undef=(.int .u64 h):=hK.2 ⟨13,.data⟩ (by simp) rfl _ rfl;exact tt_val ((.int .u64 h)) (by kernel_rfl) (by rw[<- h0];kernel_rfl) hC (slots_put _ _ _ (by rw[hsz];exact of_decide_eq_true (by kernel_rfl))) trivial
   intro f1 wy hCy hf;have s7:=hf 17 _ rfl;have HCy:=Lib.hid hCy;clear hCy hf HC HM;generalize hAct:putAll _ _ _=G at *;have s0':G.tmps.getD 0 undef=(.pointer (some ⟨S,u,none⟩)):=by subst hAct;kernel_rfl
   have s1':G.tmps.getD 1 undef=(.pointer (some ⟨B,o,none⟩)):=by subst hAct;kernel_rfl
   have s2':G.tmps.getD 2 undef=(.int .u64 x):=by subst hAct;kernel_rfl
   have s10':G.tmps.getD 10 undef=(.pointer (some ⟨B,o,none⟩)):=by subst hAct;kernel_rfl
   have s11':G.tmps.getD 11 undef=(.int .i64 (k:Nat)):=by subst hAct;kernel_rfl
   have s3':G.tmps.getD 3 undef=undef:=by subst hAct;kernel_rfl
   have s4':G.tmps.getD 4 undef=undef:=by subst hAct;kernel_rfl
   have s5':G.tmps.getD 5 undef=undef:=by subst hAct;kernel_rfl
   have s34':G.tmps.getD 34 undef=undef:=by subst hAct;kernel_rfl
   have s6':G.tmps.getD 6 undef=.int .u64 0:=by subst hAct;kernel_rfl
   have s7':G.tmps.getD 7 undef=.int .u64 h:=s7;have hsz:G.tmps.size=35:=by rw[<- hAct,putAll_size];rfl
   have hdf:G.defers=[]:=by subst hAct;kernel_rfl
   clear hAct s7;obtain⟨u8,t8⟩:∃ u,G.tmps.getD 8 undef=u:=⟨_,rfl⟩
   obtain⟨u9,t9⟩:∃ u,G.tmps.getD 9 undef=u:=⟨_,rfl⟩
   obtain⟨u12,t12⟩:∃ u,G.tmps.getD 12 undef=u:=⟨_,rfl⟩
   obtain⟨u13,t13⟩:∃ u,G.tmps.getD 13 undef=u:=⟨_,rfl⟩
   obtain⟨u14,t14⟩:∃ u,G.tmps.getD 14 undef=u:=⟨_,rfl⟩
   obtain⟨u15,t15⟩:∃ u,G.tmps.getD 15 undef=u:=⟨_,rfl⟩
   obtain⟨u16,t16⟩:∃ u,G.tmps.getD 16 undef=u:=⟨_,rfl⟩
   obtain⟨u17,t17⟩:∃ u,G.tmps.getD 17 undef=u:=⟨_,rfl⟩
   obtain⟨u18,t18⟩:∃ u,G.tmps.getD 18 undef=u:=⟨_,rfl⟩
   obtain⟨u19,t19⟩:∃ u,G.tmps.getD 19 undef=u:=⟨_,rfl⟩
   obtain⟨u20,t20⟩:∃ u,G.tmps.getD 20 undef=u:=⟨_,rfl⟩
   obtain⟨u21,t21⟩:∃ u,G.tmps.getD 21 undef=u:=⟨_,rfl⟩
   obtain⟨u22,t22⟩:∃ u,G.tmps.getD 22 undef=u:=⟨_,rfl⟩
   obtain⟨u23,t23⟩:∃ u,G.tmps.getD 23 undef=u:=⟨_,rfl⟩
   obtain⟨u24,t24⟩:∃ u,G.tmps.getD 24 undef=u:=⟨_,rfl⟩
   obtain⟨u25,t25⟩:∃ u,G.tmps.getD 25 undef=u:=⟨_,rfl⟩
   obtain⟨u26,t26⟩:∃ u,G.tmps.getD 26 undef=u:=⟨_,rfl⟩
   obtain⟨u27,t27⟩:∃ u,G.tmps.getD 27 undef=u:=⟨_,rfl⟩
   obtain⟨u28,t28⟩:∃ u,G.tmps.getD 28 undef=u:=⟨_,rfl⟩
   obtain⟨u29,t29⟩:∃ u,G.tmps.getD 29 undef=u:=⟨_,rfl⟩
   obtain⟨u30,t30⟩:∃ u,G.tmps.getD 30 undef=u:=⟨_,rfl⟩
   obtain⟨u31,t31⟩:∃ u,G.tmps.getD 31 undef=u:=⟨_,rfl⟩
   obtain⟨u32,t32⟩:∃ u,G.tmps.getD 32 undef=u:=⟨_,rfl⟩
   obtain⟨u33,t33⟩:∃ u,G.tmps.getD 33 undef=u:=⟨_,rfl⟩
   obtain⟨tm,df⟩:=G;simp only at *;have hLt:=arr_lit2 tm;rw[hsz]at hLt;simp only[List.range,List.range.loop,List.map]at hLt;rw[s0',s1',s2',s3',s4',s5',s6',s7',t8,t9,s10',s11',t12,t13,t14,t15,t16,t17,t18,t19,t20,t21,t22,t23,t24,t25,t26,t27,t28,t29,t30,t31,t32,t33,s34']at hLt;subst hLt hdf;clear s0' s1' s2' s3' s4' s5' s6' s7' t8 t9 s10' s11' t12 t13 t14 t15 t16 t17 t18 t19 t20 t21 t22 t23 t24 t25 t26 t27 t28 t29 t30 t31 t32 t33 s34' hsz
   go_wp2_with fail
   go_roundw
   case rel=>exact⟨k+1,h,updN s' p l,by have:=HK.out;omega,rfl,by go_num,Lib.hid ⟨HN.out,HCy.out⟩⟩
   case measure=>simp[intOf];omega
  ·obtain rfl:k=4:=by omega
   have hlt':¬((4:Nat):Int)<4:=by omega
   go_wp2_with fail
   go_ret;exact⟨c,rfl,s',H.out.1,H.out.2⟩
def rinv(m:Nat):Nat:=((m+1) / 2)^256%m
theorem rinv_eq{m:Nat}(ho:m%2=1)(h1:1<m):(2^256)*rinv m%m=1:=by
 unfold rinv;have e:(2^256:Nat)=2^256:=by decide
 rw[e,Nat.mul_mod,Nat.mod_mod,<- Nat.mul_mod,<- Nat.mul_pow,show 2*((m+1) / 2)=m+1 by omega,Nat.pow_mod,Nat.add_mod_left,Nat.mod_eq_of_lt h1,Nat.one_pow,Nat.mod_eq_of_lt h1]
def mnt(m a b:Nat):Nat:=a*b*rinv m%m
theorem mul_mod_l(a b m:Nat):a%m*b%m=a*b%m:=by rw[Nat.mul_mod,Nat.mod_mod,<- Nat.mul_mod]
theorem mul_mod_r(a b m:Nat):a*(b%m)%m=a*b%m:=by rw[Nat.mul_mod,Nat.mod_mod,<- Nat.mul_mod]
theorem mnt_uniq{m r a b:Nat}(ho:m%2=1)(h1:1<m)(hr:r<m)(h:r*2^256%m=a*b%m):r=mnt m a b:=by
 unfold mnt;rw[<- mul_mod_l,<- h,mul_mod_l,Nat.mul_assoc,<- mul_mod_r,rinv_eq ho h1,Nat.mul_one,Nat.mod_eq_of_lt hr]
theorem mnt_back{m:Nat}(ho:m%2=1)(h1:1<m)(a b:Nat):mnt m (a*2^256%m) b=a*b%m:=by
 refine(mnt_uniq ho h1 (Nat.mod_lt _ (by omega)) ?_).symm;rw[mul_mod_l,mul_mod_l,Nat.mul_right_comm]
theorem mnt_scaled{m:Nat}(ho:m%2=1)(h1:1<m)(a:Nat):mnt m a (2^256*2^256%m)=a*2^256%m:=by
 refine(mnt_uniq ho h1 (Nat.mod_lt _ (by omega)) ?_).symm;rw[mul_mod_l,mul_mod_r,Nat.mul_assoc]
theorem mnt_both{m:Nat}(ho:m%2=1)(h1:1<m)(a b:Nat):mnt m (a*2^256%m) (b*2^256%m)=a*b*2^256%m:=by
 rw[mnt_back ho h1,mul_mod_r,Nat.mul_assoc]
/-! What times an odd part is 1 modulo 2^64. -/
def nst(p x:Nat):Nat:=x*((18446744073709551616+2 - p*x%18446744073709551616)%18446744073709551616)%18446744073709551616
def pin(p:Nat):Nat->Nat
 | 0=>p
 | k+1=>nst p (pin p k)
theorem newton{k:Nat}{p x:Int}(h:(2:Int)^k∣1 - p*x):(2:Int)^(k+k)∣1 - p*(x*(2 - p*x)):=by
 obtain⟨t,ht⟩:=h;refine⟨t*t,?_⟩;have e:1 - p*(x*(2 - p*x))=(1 - p*x)*(1 - p*x):=by
  rw[<- Int.mul_assoc];generalize p*x=q;simp only[Int.mul_sub,Int.sub_mul,Int.one_mul,Int.mul_one];omega
 rw[e,ht,Int.pow_add,Int.mul_assoc,Int.mul_left_comm t,<- Int.mul_assoc]
theorem dvd_same{k:Nat}{p x y:Int}(hk:k<=64)(hxy:(2:Int)^64∣x - y)(h:(2:Int)^k∣1 - p*x):(2:Int)^k∣1 - p*y:=by
 have h1:(2:Int)^k∣x - y:=Int.dvd_trans (by obtain⟨j,hj⟩:=Nat.exists_eq_add_of_le hk;rw[hj,Int.pow_add];exact Int.dvd_mul_right _ _) hxy;have h2:1 - p*y=(1 - p*x)+p*(x - y):=by rw[Int.mul_sub];omega
 rw[h2];exact Int.dvd_add h (Int.dvd_trans h1 (Int.dvd_mul_left _ _))
theorem nst_dvd(p x:Nat):(2:Int)^64∣(x:Int)*(2 - p*x) - ((nst p x:Nat):Int):=by
 unfold nst;obtain⟨q,hq⟩:∃ q,p*x=q:=⟨_,rfl⟩
 have hqi:(p:Int)*(x:Int)=(q:Int):=by rw[<- hq];simp
 rw[hq,hqi];obtain⟨u,hu⟩:∃ u,(18446744073709551616+2 - q%18446744073709551616)%18446744073709551616=u:=⟨_,rfl⟩
 rw[hu];have h1:(18446744073709551616:Int)∣(2 - (q:Int)) - (u:Int):=by omega
 have h2:(18446744073709551616:Int)∣((x*u:Nat):Int) - ((x*u%18446744073709551616:Nat):Int):=by omega
 have e:(x:Int)*(2 - (q:Int)) - ((x*u%18446744073709551616:Nat):Int)=(x:Int)*((2 - (q:Int)) - (u:Int))+(((x*u:Nat):Int) - ((x*u%18446744073709551616:Nat):Int)):=by
  rw[Int.mul_sub (x:Int) (2 - (q:Int)) (u:Int)];have:((x*u:Nat):Int)=(x:Int)*(u:Int):=by simp
  omega
 rw[e];exact Int.dvd_add (Int.dvd_trans h1 (Int.dvd_mul_left _ _)) h2
theorem pin_step{k j p:Nat}(n:Nat)(hj:j<=64)(hjk:j<=k+k)(h:(2:Int)^k∣1 - p*(pin p n:Nat)):(2:Int)^j∣1 - (p:Int)*((pin p (n+1):Nat):Int):=by
 refine dvd_same hj (nst_dvd p (pin p n)) ?_;refine Int.dvd_trans ?_ (newton h);obtain⟨i,hi⟩:=Nat.exists_eq_add_of_le hjk;rw[hi,Int.pow_add];exact Int.dvd_mul_right _ _
theorem pin_ok{p:Nat}(ho:p%2=1):(2:Int)^64∣1 - (p:Int)*((pin p 5:Nat):Int):=by
 have h0:(2:Int)^3∣1 - (p:Int)*((pin p 0:Nat):Int):=by
  show(8:Int)∣1 - (p:Int)*(p:Int);have h1:p*p%8=1:=by
   rw[Nat.mul_mod];have:p%8=1\/p%8=3\/p%8=5\/p%8=7:=by omega
   rcases this with e | e | e | e <;> rw[e]
  have h2:(p:Int)*(p:Int)=((p*p:Nat):Int):=by simp
  rw[h2];omega
 have h1:=pin_step (j:=6) 0 (by omega) (by omega) h0;have h2:=pin_step (j:=12) 1 (by omega) (by omega) h1;have h3:=pin_step (j:=24) 2 (by omega) (by omega) h2;have h4:=pin_step (j:=48) 3 (by omega) (by omega) h3;exact pin_step (j:=64) 4 (by omega) (by omega) h4
def nin(m:Nat):Nat:=(18446744073709551616 - pin (m%18446744073709551616) 5)%18446744073709551616
theorem pin_lt(p n:Nat)(hp:p<18446744073709551616):pin p n<18446744073709551616:=by
 cases n with
 | zero=>exact hp
 | succ n=>exact Nat.mod_lt _ (by omega)
theorem nin_ok{m:Nat}(ho:m%2=1)(s:Nat):(s+s*nin m%18446744073709551616*(m%18446744073709551616))%18446744073709551616=0:=by
 have h:=pin_ok (p:=m%18446744073709551616) (by omega);have hlt:=pin_lt (m%18446744073709551616) 5 (Nat.mod_lt _ (by omega));unfold nin;obtain⟨p,hp⟩:∃ p,m%18446744073709551616=p:=⟨_,rfl⟩
 rw[hp]at h hlt |-
 obtain⟨x,hx⟩:∃ x,pin p 5=x:=⟨_,rfl⟩
 rw[hx]at h hlt |-
 have h1:p*x%18446744073709551616=1:=by
  have e:(p:Int)*(x:Int)=((p*x:Nat):Int):=by simp
  rw[e]at h;have h2:(18446744073709551616:Int)∣1 - ((p*x:Nat):Int):=h;omega
 obtain⟨y,hy⟩:∃ y,(18446744073709551616 - x)%18446744073709551616=y:=⟨_,rfl⟩
 rw[hy];have h3:(p*y+1)%18446744073709551616=0:=by
  have hx0:x≠0:=by rintro rfl;simp at h1
  have e:y=18446744073709551616 - x:=by omega
  have h4:p*y+p*x=p*18446744073709551616:=by rw[e,<- Nat.mul_add];congr 1;omega
  omega
 have h4:(s*y%18446744073709551616*p)%18446744073709551616=s*(p*y)%18446744073709551616:=by rw[mul_mod_l,Nat.mul_assoc,Nat.mul_comm y]
 have h5:s*(p*y)+s=s*(p*y+1):=by rw[Nat.mul_add,Nat.mul_one]
 have h6:s*(p*y+1)%18446744073709551616=0:=by rw[Nat.mul_mod,h3,Nat.mul_zero,Nat.zero_mod]
 omega
end Go.Proofs.YtfmpjjhdocejiaaGreat
