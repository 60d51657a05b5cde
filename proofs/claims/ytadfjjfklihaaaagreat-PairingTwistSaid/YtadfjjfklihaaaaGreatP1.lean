/- Regions that draw their order, by an invariant over several slots (XTie0), where a slot that the region writes is read ahead of that: as long as what waits for an operation has not been done, the slots that it writes hold what they held. No program is named here. (Cut to what is reached, written closely: Inv · Tie0 · TieL · Tie2.) -/
import Derived.Still
import Derived.WalkKit
import Derived.StillTail
import Derived.Laws.CopyOwn
set_option linter.all false
set_option maxRecDepth 100000
set_option maxHeartbeats 8000000
namespace Go.Proofs.YtadfjjfklihaaaaGreat
open Go.RowKit
def slotVal(a:Act)(o:Oper):Value:=match o.dst with
 | some d=>a.tmps.getD d undef
 | none=>undef
def isDst(l:List Oper)(t:Nat):Bool:=l.any fun o=>o.dst == some t
def putAll(f:Oper->Value):List Oper->Act->Act
 | [],a=>a
 | o::l,a=>putAll f l (a.put o.dst (f o))
theorem put_size(a:Act)(d:Option Tmp)(v:Value):(a.put d v).tmps.size=a.tmps.size:=by
 cases d <;> simp[Act.put]
theorem put_defers(a:Act)(d:Option Tmp)(v:Value):(a.put d v).defers=a.defers:=by
 cases d <;> rfl
theorem put_other(a:Act)(d:Option Tmp)(v:Value)(t:Nat)(h:d≠some t):(a.put d v).tmps.getD t undef=a.tmps.getD t undef:=by
 cases d with
 | none=>rfl
 | some d =>
  have:d≠t:=fun e=>h (by rw[e]);simp[Act.put,Array.getElem?_setIfInBounds_ne this]
theorem put_same(a:Act)(d:Nat)(v:Value)(h:d<a.tmps.size):(a.put (some d) v).tmps.getD d undef=v:=by
 simp[Act.put,h]
theorem putAll_size(f:Oper->Value):∀(l:List Oper) (a:Act),(putAll f l a).tmps.size=a.tmps.size
 | [],_=>rfl
 | o::l,a=>by rw[putAll,putAll_size f l,put_size]
theorem putAll_defers(f:Oper->Value):∀(l:List Oper) (a:Act),(putAll f l a).defers=a.defers
 | [],_=>rfl
 | o::l,a=>by rw[putAll,putAll_defers f l,put_defers]
theorem putAll_at(b:Act):∀(l:List Oper) (a:Act) (t:Nat),t<a.tmps.size->(isDst l t=false->a.tmps.getD t undef=b.tmps.getD t undef)->(putAll (slotVal b) l a).tmps.getD t undef=b.tmps.getD t undef
 | [],a,t,_,h=>h rfl
 | o::l,a,t,ht,h=>by
  rw[putAll];refine putAll_at b l _ t (by rw[put_size];exact ht) (fun hl=>?_);by_cases e:o.dst=some t
  ·rw[e,put_same _ _ _ ht]
   unfold slotVal;rw[e]
  ·rw[put_other _ _ _ _ e]
   exact h (by simp only[isDst,List.any_cons,Bool.or_eq_false_iff];exact⟨by simpa using e,hl⟩)
theorem put_back{a a0:Act}{l:List Oper}(hs:a.tmps.size=a0.tmps.size)(hd:a.defers=a0.defers)(hk:∀ t,isDst l t=false->a.tmps.getD t undef=a0.tmps.getD t undef):a=putAll (slotVal a) l a0:=by
 have h1:=putAll_size (slotVal a) l a0;have h2:=putAll_defers (slotVal a) l a0;have h3:=fun t ht=>putAll_at a l a0 t ht (fun h=>(hk t h).symm);generalize putAll (slotVal a) l a0=b at *;obtain⟨ta,da⟩:=a;obtain⟨tb,db⟩:=b;simp only at *;have:ta=tb:=by
  apply Array.ext (by omega);intro i hi hj;have:=h3 i (by omega);simp[hi,hj]at this;exact this.symm
 rw[this,hd,h2]
section
variable {P:Program} {ops:Array Oper} {Q:Exit->Act->World->Prop} {C:World->Prop} {φ:Nat->Value->World->Prop} {R:World->World->Prop} {a0:Act}
def Known(ops:Array Oper)(φ:Nat->Value->World->Prop)(a0:Act)(o:Oper)(a:Act)(w:World):Prop :=
 (∀ t,isDst ops.toList t=false->a.tmps.getD t undef=a0.tmps.getD t undef)/\(∀ e∈o.after,Region.binds .any e=true->∀ oj,ops[e.on]?=some oj->φ e.on (slotVal a oj) w)
def Step(P:Program)(ops:Array Oper)(Q:Exit->Act->World->Prop)(C:World->Prop)(φ:Nat->Value->World->Prop)(R:World->World->Prop)(k:Nat)(o:Oper)(a:Act)(w:World):Prop :=
 if Region.wanted o (yielded ops a.tmps)then o.wp P a w (fun a' w'=>∃ v,a'=a.put o.dst v/\C w'/\φ k v w'/\R w w'/\(o.dst=none->v=undef)) Q else φ k undef w
def Steps(P:Program)(ops:Array Oper)(Q:Exit->Act->World->Prop)(C:World->Prop)(φ:Nat->Value->World->Prop)(R:World->World->Prop)(a0:Act):Nat->List Oper->Prop
 | _,[]=>True
 | k,o::l=>(∀ a w,C w->Known ops φ a0 o a w->Step P ops Q C φ R k o a w)/\Steps P ops Q C φ R a0 (k+1) l
theorem Steps.at_:∀ {l:List Oper} {k:Nat},Steps P ops Q C φ R a0 k l->∀(i:Nat) (o:Oper),l[i]?=some o->∀ a w,C w->Known ops φ a0 o a w->Step P ops Q C φ R (k+i) o a w
 | [],_,_,i,o,hi=>by simp at hi
 | o::l,k,h,0,o',hi=>by simp at hi;subst hi;exact h.1
 | o::l,k,h,i+1,o',hi=>by
  have:=Steps.at_ h.2 i o' (by simpa using hi);rwa [show k+1+i=k+(i+1) by omega]at this
def distinctB:List Oper->Bool
 | []=>true
 | o::l=>(match o.dst with | some d=>!(isDst l d) | none=>true)&&distinctB l
theorem distinct_spec:∀ {l:List Oper},distinctB l=true->∀(i j:Nat) (oi oj:Oper) (d:Nat),l[i]?=some oi->l[j]?=some oj->i≠j->oi.dst=some d->oj.dst≠some d
 | [],_,i,_,_,_,_,hi,_,_,_=>by simp at hi
 | o::l,h,i,j,oi,oj,d,hi,hj,hne,hd=>by
  simp only[distinctB,Bool.and_eq_true]at h;have out:∀(k:Nat) (ok:Oper) (e:Nat),l[k]?=some ok->o.dst=some e->ok.dst≠some e:=fun k ok e hk he hok=>by
   have h1:=h.1;rw[he]at h1;simp only[Bool.not_eq_true',isDst,List.any_eq_false]at h1;exact h1 ok (List.mem_of_getElem? hk) (by simp[hok])
  match i,j,hi,hj with
  | 0,0,_,_=>exact absurd rfl hne
  | 0,j+1,hi,hj=>simp at hi;subst hi;exact out j oj d (by simpa using hj) hd
  | i+1,0,hi,hj=>simp at hj;subst hj;exact fun he=>out i oi d (by simpa using hi) he hd
  | i+1,j+1,hi,hj=>exact distinct_spec h.2 i j oi oj d (by simpa using hi) (by simpa using hj) (by omega) hd
def lexicalB(ops:Array Oper):Bool:=(List.range ops.size).all fun i=>match ops[i]? with
 | some o=>o.after.all fun e=>decide (e.on<i)
 | none=>true
def inB(ops:Array Oper)(n:Nat):Bool:=ops.toList.all fun o=>match o.dst with
 | some d=>decide (d<n)
 | none=>true
theorem wpAny_inv(hdist:distinctB ops.toList=true)(hlex:lexicalB ops=true)(hin:inB ops a0.tmps.size=true)
  (hφ:∀ i v w w',R w w'->φ i v w->φ i v w') (hst:Steps P ops Q C φ R a0 0 ops.toList)
  (hQ:∀(f:Oper->Value) w,C w->(∀ i o,ops[i]?=some o->φ i (f o) w)->Q .normal (putAll f ops.toList a0) w) :
  ∀(fuel:Nat) (listed:Array Bool) (a:Act) (w:World),listed.size=ops.size->listed.toList.count false<=fuel->C w->a.tmps.size=a0.tmps.size->a.defers=a0.defers ->
   (∀ t,isDst ops.toList t=false->a.tmps.getD t undef=a0.tmps.getD t undef)->(∀ i o,listed.getD i false=true->ops[i]?=some o->φ i (slotVal a o) w)->wpAny P .any ops Q fuel listed a w:=by
 have done:∀(listed:Array Bool) (a:Act) (w:World),(∀ i,i<ops.size->listed.getD i false=true)->C w->a.tmps.size=a0.tmps.size->a.defers=a0.defers ->
   (∀ t,isDst ops.toList t=false->a.tmps.getD t undef=a0.tmps.getD t undef)->(∀ i o,listed.getD i false=true->ops[i]?=some o->φ i (slotVal a o) w)->Q .normal a w:=by
  intro listed a w hall hC hs hd hk hp;rw[put_back hs hd hk];exact hQ _ w hC (fun i o ho=>hp i o (hall i (Array.getElem?_eq_some_iff.1 ho).1) ho)
 intro fuel
 induction fuel with
 | zero =>
  intro listed a w hsz hc hC hs hd hk hp;have hno:false ∉ listed.toList:=List.count_eq_zero.1 (by omega);have hall:∀ i,i<ops.size->listed.getD i false=true:=fun i hi=>by
   have hlt:i<listed.size:=by omega
   have hm:listed[i]∈listed.toList:=by simp
   simp only[Array.getD_eq_getD_getElem?,hlt,Array.getElem?_eq_getElem,Option.getD_some];cases h:listed[i]with
   | true=>rfl
   | false=>rw[h]at hm;exact absurd hm hno
  refine⟨?_,done listed a w hall hC hs hd hk hp⟩;rw[List.eq_nil_iff_forall_not_mem];intro j hj;obtain⟨h0,o,ho,-⟩:=mem_ready.1 hj;have hlt:=(Array.getElem?_eq_some_iff.1 ho).1;have h1:=hall j hlt;simp[show j<listed.size by omega]at h0 h1;rw[h0]at h1;cases h1
 | succ fuel ih =>
  intro listed a w hsz hc hC hs hd hk hp;refine⟨fun hr=>?_,fun i hi=>?_⟩
  ·refine done listed a w ?_ hC hs hd hk hp
   -- the least that isn't listed would be ready
   intro i
   induction i using Nat.strongRecOn with
   | _ i ihi =>
    intro hi;cases h:listed.getD i false with
    | true=>rfl
    | false =>
     have ho:ops[i]?=some ops[i]:=Array.getElem?_eq_getElem hi;have:i∈Region.ready .any ops listed:=mem_ready.2 ⟨by simpa[show i<listed.size by omega]using h,ops[i],ho,fun e he _=>by
      have hl:=hlex;unfold lexicalB at hl;rw[List.all_eq_true]at hl;have:=hl i (by simpa using hi);rw[ho]at this;simp only[Array.all_eq_true_iff_forall_mem,decide_eq_true_eq]at this;have hlt:=this e he;exact ihi e.on hlt (by omega)⟩
     rw[hr]at this;cases this
  ·obtain⟨h0,o,ho,hall⟩:=mem_ready.1 hi
   have hlt:i<ops.size:=(Array.getElem?_eq_some_iff.1 ho).1;have hl':ops.toList[i]?=some o:=by simpa using ho
   have hstep:=hst.at_ i o hl' a w hC ⟨hk,fun e he hb oj hj=>hp e.on oj (hall e he hb) hj⟩;rw[Nat.zero_add]at hstep;have go:∀(v:Value) (w':World),C w'->φ i v w'->(∀ j u,φ j u w->φ j u w')->(o.dst=none->v=undef)->wpAny P .any ops Q fuel (listed.setIfInBounds i true) (a.put o.dst v) w':=by
    intro v w' hC' hv hm hu;refine ih _ _ _ (by simpa using hsz) ?_ hC' (by rw[put_size];exact hs) (by rw[put_defers];exact hd) ?_ ?_
    ·have hil:i<listed.size:=by omega
     have e0:listed[i]=false:=by simpa[hil]using h0
     rw[Array.toList_setIfInBounds,List.count_set (by simpa using hil)];have:listed.toList[i]'(by simpa using hil)=false:=by simpa using e0
     simp only[this];simp;have hpos:0<listed.toList.count false:=List.count_pos_iff.2 (by rw[<- e0];simp);simp at hpos;simp at hc;omega
    ·intro t ht
     have hne:o.dst≠some t:=fun e=>by
      simp only[isDst,List.any_eq_false]at ht;exact ht o (List.mem_of_getElem? hl') (by simp[e])
     rw[put_other _ _ _ _ hne];exact hk t ht
    ·intro j oj hj hoj
     by_cases e:i=j
     ·subst e
      have:oj=o:=Option.some.inj (hoj.symm.trans ho);subst this;have:slotVal (a.put oj.dst v) oj=v:=by
       unfold slotVal;cases hd':oj.dst with
       | none=>exact(hu hd').symm
       | some d =>
        have hin':=hin;unfold inB at hin';rw[List.all_eq_true]at hin';have hdl:d<a0.tmps.size:=by
         have h:=hin' oj (List.mem_of_getElem? hl');rw[hd']at h;exact of_decide_eq_true h
        exact put_same _ _ _ (by rw[hs];exact hdl)
      rw[this];exact hv
     ·rw[getD_set_ne false e]at hj
      have:slotVal (a.put o.dst v) oj=slotVal a oj:=by
       unfold slotVal;cases hd':oj.dst with
       | none=>rfl
       | some d =>
        exact put_other _ _ _ _ (fun he=>distinct_spec hdist i j o oj d hl' (by simpa using hoj) e he hd')
      rw[this];exact hm _ _ (hp j oj hj hoj)
   unfold wpOp;rw[ho];simp only;unfold Step at hstep
   split
   ·rename_i hw
    rw[if_pos hw]at hstep;refine .inl (Oper.wp_mono ?_ hstep);rintro a' w' ⟨v,rfl,hC',hv,hR,hu⟩;exact go v w' hC' hv (fun j u h=>hφ j u w w' hR h) hu
   ·rename_i hw
    rw[if_neg hw]at hstep;exact go undef w hC hstep (fun j u h=>h) (fun _=>rfl)
theorem region_inv{id:Nat}{l:List Oper}{w:World}(C:World->Prop)(φ:Nat->Value->World->Prop)(R:World->World->Prop)(hm:P.follows .mixedOrders=true)(hB:(distinctB l&&lexicalB l.toArray&&inB l.toArray a0.tmps.size)=true)(hC:C w.drew)
  (hφ:∀ i v w w',R w w'->φ i v w->φ i v w') (hst:Steps P l.toArray Q C φ R a0 0 l)
  (hQ:∀(f:Oper->Value) w,C w->(∀ i o,l[i]?=some o->φ i (f o) w)->Q .normal (putAll f l a0) w):(Code.region id l.toArray true).wp P Q a0 w:=by
 simp only[Bool.and_eq_true]at hB;refine wp_region_any hm (wpAny_inv (C:=C) (φ:=φ) (R:=R) (a0:=a0) hB.1.1 hB.1.2 hB.2 hφ hst (fun f w hC h=>hQ f w hC (fun i o ho=>h i o (by simpa using ho))) _ _ _ w.drew (by simp) (by simp) hC rfl rfl (fun _ _=>rfl) ?_);intro i o hi;simp at hi;rcases Nat.lt_or_ge i l.length with h | h
 ·simp[h]at hi
 ·simp[Nat.not_lt.2 h]at hi
/-! What each kind of operation must do. -/
theorem st_val{k:Nat}{o:Oper}{a:Act}{w:World}(v:Value)(hw:Region.wanted o (yielded ops a.tmps)=true)(hd:o.dst=none->v=undef)(hr:(execOp a.eval o).run P w=.ok (.value v) w)(hC:C w)(hv:φ k v w)(hR:R w w):Step P ops Q C φ R k o a w:=by
 unfold Step;rw[if_pos hw];unfold Oper.wp;rw[hr];exact⟨v,rfl,hC,hv,hR,hd⟩
theorem st_load{k:Nat}{o:Oper}{a:Act}{w:World}(T:TypeId)(x:Operand)(p v:Value)(ho:o.op=.load T x)(hw:Region.wanted o (yielded ops a.tmps)=true)(hd:o.dst=none->v=undef)(hp:a.eval x=p)
  (hr:(Instr.loadAt T p).run P w=.ok v w) (hC:C w) (hv:φ k v w) (hR:R w w):Step P ops Q C φ R k o a w :=
 st_val v hw hd (by
  unfold execOp;rw[ho];simp only[hp,Sem.run_bind,hr,Result.andThen_ok,Sem.run_pure]) hC hv hR
theorem st_call{k:Nat}{o:Oper}{a:Act}{w:World}(f:FuncId)(args:Array Value)(hw:Region.wanted o (yielded ops a.tmps)=true)(hd:∃ d,o.dst=some d)(he:(execOp a.eval o).run P w=.ok (.enter f args) w)
  (hc:Calls P f args w fun e w'=>∃ v,e=.returned v/\C w'/\φ k v w'/\R w w'):Step P ops Q C φ R k o a w:=by
 unfold Step;rw[if_pos hw];unfold Oper.wp;rw[he];refine Calls.mono hc ?_;rintro e w' ⟨v,rfl,h1,h2,h3⟩;exact⟨v,rfl,h1,h2,h3,fun h=>by obtain⟨d,hd⟩:=hd;rw[hd]at h;cases h⟩
end
open Go.RowKit
def slots(a:Act)(t:Nat):Value:=a.tmps.getD t undef
theorem getD_set_same{listed:Array Bool}{i:Nat}(h:i<listed.size):(listed.setIfInBounds i true).getD i false=true:=by simp[h]
section
variable {P:Program} {ops:Array Oper} {Q:Exit->Act->World->Prop} {C:World->Prop} {φ:Nat->(Nat->Value)->World->Prop} {R:World->World->Prop} {a0:Act}
def KnownT(ops:Array Oper)(φ:Nat->(Nat->Value)->World->Prop)(a0:Act)(o:Oper)(a:Act)(w:World):Prop :=
 (∀ t,isDst ops.toList t=false->a.tmps.getD t undef=a0.tmps.getD t undef)/\(∀ e∈o.after,Region.binds .any e=true->∀ oj,ops[e.on]?=some oj->φ e.on (slots a) w)
def StepT(P:Program)(ops:Array Oper)(Q:Exit->Act->World->Prop)(C:World->Prop)(φ:Nat->(Nat->Value)->World->Prop)(R:World->World->Prop)(k:Nat)(o:Oper)(a:Act)(w:World):Prop :=
 if Region.wanted o (yielded ops a.tmps)then o.wp P a w (fun a' w'=>∃ v,a'=a.put o.dst v/\C w'/\φ k (slots (a.put o.dst v)) w'/\R w w') Q else φ k (slots (a.put o.dst undef)) w
def StepsT(P:Program)(ops:Array Oper)(Q:Exit->Act->World->Prop)(C:World->Prop)(φ:Nat->(Nat->Value)->World->Prop)(R:World->World->Prop)(a0:Act):Nat->List Oper->Prop
 | _,[]=>True
 | k,o::l=>(∀ a w,C w->a.tmps.size=a0.tmps.size->KnownT ops φ a0 o a w->StepT P ops Q C φ R k o a w)/\StepsT P ops Q C φ R a0 (k+1) l
theorem StepsT.at_:∀ {l:List Oper} {k:Nat},StepsT P ops Q C φ R a0 k l->∀(i:Nat) (o:Oper),l[i]?=some o->∀ a w,C w->a.tmps.size=a0.tmps.size->KnownT ops φ a0 o a w->StepT P ops Q C φ R (k+i) o a w
 | [],_,_,i,o,hi=>by simp at hi
 | o::l,k,h,0,o',hi=>by simp at hi;subst hi;exact h.1
 | o::l,k,h,i+1,o',hi=>by
  have:=StepsT.at_ h.2 i o' (by simpa using hi);rwa [show k+1+i=k+(i+1) by omega]at this
def rankB(ops:Array Oper)(rk:Nat->Nat):Bool:=(List.range ops.size).all fun i=>match ops[i]? with
 | some o=>o.after.all fun e=>!Region.binds .any e||decide (rk e.on<rk i)
 | none=>true
def insideB(ops:Array Oper):Bool:=ops.all fun o=>o.after.all fun e=>decide (e.on<ops.size)
theorem inside_spec(h:insideB ops=true)(i:Nat)(o:Oper)(ho:ops[i]?=some o)(e:Edge)(he:e∈o.after):e.on<ops.size:=by
 unfold insideB at h;simp only[Array.all_eq_true_iff_forall_mem,decide_eq_true_eq]at h;exact h o (Array.mem_of_getElem? ho) e he
def ownB(ops:Array Oper)(rd:Nat->List Nat):Bool:=(List.range ops.size).all fun i=>match ops[i]? with
 | some o=>(rd i).all fun t=>o.dst == some t||!isDst ops.toList t||o.after.any fun e=>Region.binds .any e&&(match ops[e.on]? with | some oj=>oj.dst == some t | none=>false)
 | none=>true
theorem own_spec{rd:Nat->List Nat}(h:ownB ops rd=true){i:Nat}{o:Oper}(ho:ops[i]?=some o){t:Nat}(ht:t∈rd i) :
  o.dst=some t\/isDst ops.toList t=false\/∃ e∈o.after,Region.binds .any e=true/\∃ oj,ops[e.on]?=some oj/\oj.dst=some t:=by
 unfold ownB at h;rw[List.all_eq_true]at h;have h1:=h i (by simpa using(Array.getElem?_eq_some_iff.1 ho).1);rw[ho]at h1;simp only[List.all_eq_true]at h1;have h2:=h1 t ht;simp only[Bool.or_eq_true,beq_iff_eq,Bool.not_eq_true']at h2;rcases h2 with(h2 | h2) | h2
 ·exact .inl h2
 ·exact .inr (.inl h2)
 ·refine .inr (.inr ?_)
  rw[Array.any_eq_true]at h2;obtain⟨k,hk,h3⟩:=h2;have he:o.after[k]∈o.after:=Array.getElem_mem hk;generalize o.after[k]=e at *;rw[Bool.and_eq_true]at h3;refine⟨e,he,h3.1,?_⟩;have h4:=h3.2;cases hj:ops[e.on]? with
  | none=>rw[hj]at h4;cases h4
  | some oj=>rw[hj]at h4;exact⟨oj,rfl,by simpa using h4⟩
theorem wpAny_tie(rd:Nat->List Nat)(rk:Nat->Nat)(hdist:distinctB ops.toList=true)(hlex:rankB ops rk=true)(hon:∀(i:Nat) (o:Oper),ops[i]?=some o->∀ e∈o.after,e.on<ops.size)(hown:ownB ops rd=true)
  (hrd:∀ i s s' w,(∀ t∈rd i,s t=s' t)->φ i s w->φ i s' w)
  (hφ:∀ i v w w',R w w'->φ i v w->φ i v w') (hst:StepsT P ops Q C φ R a0 0 ops.toList)
  (hQ:∀(f:Oper->Value) w,C w->(∀ i o,ops[i]?=some o->φ i (slots (putAll f ops.toList a0)) w)->Q .normal (putAll f ops.toList a0) w) :
  ∀(fuel:Nat) (listed:Array Bool) (a:Act) (w:World),listed.size=ops.size->listed.toList.count false<=fuel->C w->a.tmps.size=a0.tmps.size->a.defers=a0.defers ->
   (∀ t,isDst ops.toList t=false->a.tmps.getD t undef=a0.tmps.getD t undef)->(∀ i o,listed.getD i false=true->ops[i]?=some o->φ i (slots a) w/\∀ e∈o.after,Region.binds .any e=true->listed.getD e.on false=true)->wpAny P .any ops Q fuel listed a w:=by
 have done:∀(listed:Array Bool) (a:Act) (w:World),(∀ i,i<ops.size->listed.getD i false=true)->C w->a.tmps.size=a0.tmps.size->a.defers=a0.defers ->
   (∀ t,isDst ops.toList t=false->a.tmps.getD t undef=a0.tmps.getD t undef)->(∀ i o,listed.getD i false=true->ops[i]?=some o->φ i (slots a) w/\∀ e∈o.after,Region.binds .any e=true->listed.getD e.on false=true)->Q .normal a w:=by
  intro listed a w hall hC hs hd hk hp;have hb:=put_back hs hd hk;rw[hb];exact hQ _ w hC (fun i o ho=>by rw[<- hb];exact(hp i o (hall i (Array.getElem?_eq_some_iff.1 ho).1) ho).1)
 intro fuel
 induction fuel with
 | zero =>
  intro listed a w hsz hc hC hs hd hk hp;have hno:false ∉ listed.toList:=List.count_eq_zero.1 (by omega);have hall:∀ i,i<ops.size->listed.getD i false=true:=fun i hi=>by
   have hlt:i<listed.size:=by omega
   have hm:listed[i]∈listed.toList:=by simp
   simp only[Array.getD_eq_getD_getElem?,hlt,Array.getElem?_eq_getElem,Option.getD_some];cases h:listed[i]with
   | true=>rfl
   | false=>rw[h]at hm;exact absurd hm hno
  refine⟨?_,done listed a w hall hC hs hd hk hp⟩;rw[List.eq_nil_iff_forall_not_mem];intro j hj;obtain⟨h0,o,ho,-⟩:=mem_ready.1 hj;have hlt:=(Array.getElem?_eq_some_iff.1 ho).1;have h1:=hall j hlt;simp[show j<listed.size by omega]at h0 h1;rw[h0]at h1;cases h1
 | succ fuel ih =>
  intro listed a w hsz hc hC hs hd hk hp;refine⟨fun hr=>?_,fun i hi=>?_⟩
  ·refine done listed a w ?_ hC hs hd hk hp
   -- the least that isn't listed would be ready
   have key:∀ r i,rk i<r->i<ops.size->listed.getD i false=true:=by
    intro r
    induction r with
    | zero=>intro i h;omega
    | succ r ihr =>
     intro i hri hi;cases h:listed.getD i false with
     | true=>rfl
     | false =>
      have ho:ops[i]?=some ops[i]:=Array.getElem?_eq_getElem hi;have:i∈Region.ready .any ops listed:=mem_ready.2 ⟨by simpa[show i<listed.size by omega]using h,ops[i],ho,fun e he hb=>by
       have hl:=hlex;unfold rankB at hl;rw[List.all_eq_true]at hl;have:=hl i (by simpa using hi);rw[ho]at this;simp only[Array.all_eq_true_iff_forall_mem]at this;have hlt:=this e he;rw[hb]at hlt;simp at hlt;exact ihr e.on (by omega) (hon i _ ho e he)⟩
      rw[hr]at this;cases this
   exact fun i hi=>key (rk i+1) i (by omega) hi
  ·obtain⟨h0,o,ho,hall⟩:=mem_ready.1 hi
   have hlt:i<ops.size:=(Array.getElem?_eq_some_iff.1 ho).1;have hl':ops.toList[i]?=some o:=by simpa using ho
   have hstep:=hst.at_ i o hl' a w hC hs ⟨hk,fun e he hb oj hj=>(hp e.on oj (by have:=hall e he hb;simpa using this) hj).1⟩;rw[Nat.zero_add]at hstep;have go:∀(v:Value) (w':World),C w'->φ i (slots (a.put o.dst v)) w'->(∀ j u,φ j u w->φ j u w')->wpAny P .any ops Q fuel (listed.setIfInBounds i true) (a.put o.dst v) w':=by
    intro v w' hC' hv hm;refine ih _ _ _ (by simpa using hsz) ?_ hC' (by rw[put_size];exact hs) (by rw[put_defers];exact hd) ?_ ?_
    ·have hil:i<listed.size:=by omega
     have e0:listed[i]=false:=by simpa[hil]using h0
     rw[Array.toList_setIfInBounds,List.count_set (by simpa using hil)];have:listed.toList[i]'(by simpa using hil)=false:=by simpa using e0
     simp only[this];simp;have hpos:0<listed.toList.count false:=List.count_pos_iff.2 (by rw[<- e0];simp);simp at hpos;simp at hc;omega
    ·intro t ht
     have hne:o.dst≠some t:=fun e=>by
      simp only[isDst,List.any_eq_false]at ht;exact ht o (List.mem_of_getElem? hl') (by simp[e])
     rw[put_other _ _ _ _ hne];exact hk t ht
    ·intro j oj hj hoj
     by_cases e:i=j
     ·subst e
      have:oj=o:=Option.some.inj (hoj.symm.trans ho);subst this;refine⟨hv,fun e he hb=>?_⟩;have h1:=hall e he hb;by_cases q:i=e.on
      ·rw[<- q];exact getD_set_same (by omega)
      ·rw[getD_set_ne false q];simpa using h1
     ·rw[getD_set_ne false e]at hj
      obtain⟨h1,h2⟩:=hp j oj hj hoj;refine⟨hm _ _ (hrd j _ _ w (fun t ht=>?_) h1),fun e' he hb=>?_⟩
      ·have hne:o.dst≠some t:=fun hd'=>by
        rcases own_spec hown hoj ht with h3 | h3 | ⟨e',he,hb,ok,hok,hkd⟩
        ·exact distinct_spec hdist i j o oj t hl' (by simpa using hoj) e hd' h3
        ·simp only[isDst,List.any_eq_false]at h3
         exact h3 o (List.mem_of_getElem? hl') (by simp[hd'])
        ·have h4:=h2 e' he hb
         have h5:i≠e'.on:=fun q=>by rw[<- q,getD_both h0]at h4;cases h4
         exact distinct_spec hdist i e'.on o ok t hl' (by simpa using hok) h5 hd' hkd
       exact(put_other _ _ _ _ hne).symm
      ·by_cases q:i=e'.on
       ·rw[<- q];exact getD_set_same (by omega)
       ·rw[getD_set_ne false q];exact h2 e' he hb
   unfold wpOp;rw[ho];simp only;unfold StepT at hstep
   split
   ·rename_i hw
    rw[if_pos hw]at hstep;refine .inl (Oper.wp_mono ?_ hstep);rintro a' w' ⟨v,rfl,hC',hv,hR⟩;exact go v w' hC' hv (fun j u h=>hφ j u w w' hR h)
   ·rename_i hw
    rw[if_neg hw]at hstep;exact go undef w hC hstep (fun j u h=>h)
theorem region_tie{id:Nat}{l:List Oper}{w:World}(C:World->Prop)(φ:Nat->(Nat->Value)->World->Prop)(R:World->World->Prop)(rd:Nat->List Nat)(rk:Nat->Nat)(hm:P.follows .mixedOrders=true)
  (hB:(distinctB l&&rankB l.toArray rk&&ownB l.toArray rd&&insideB l.toArray)=true) (hC:C w.drew)
  (hrd:∀ i s s' w,(∀ t∈rd i,s t=s' t)->φ i s w->φ i s' w) (hφ:∀ i v w w',R w w'->φ i v w->φ i v w') (hst:StepsT P l.toArray Q C φ R a0 0 l)
  (hQ:∀(f:Oper->Value) w,C w->(∀ i o,l[i]?=some o->φ i (slots (putAll f l a0)) w)->Q .normal (putAll f l a0) w):(Code.region id l.toArray true).wp P Q a0 w:=by
 simp only[Bool.and_eq_true]at hB;refine wp_region_any hm (wpAny_tie (C:=C) (φ:=φ) (R:=R) (a0:=a0) rd rk hB.1.1.1 hB.1.1.2 (inside_spec hB.2) hB.1.2 hrd hφ hst (fun f w hC h=>hQ f w hC (fun i o ho=>h i o (by simpa using ho))) _ _ _ w.drew (by simp) (by simp) hC rfl rfl (fun _ _=>rfl) ?_);intro i o hi;simp at hi;rcases Nat.lt_or_ge i l.length with h | h
 ·simp[h]at hi
 ·simp[Nat.not_lt.2 h]at hi
/-! What each kind of operation must do. -/
theorem tt_val{k:Nat}{o:Oper}{a:Act}{w:World}(v:Value)(hw:Region.wanted o (yielded ops a.tmps)=true)(hr:(execOp a.eval o).run P w=.ok (.value v) w)(hC:C w)(hv:φ k (slots (a.put o.dst v)) w)(hR:R w w):StepT P ops Q C φ R k o a w:=by
 unfold StepT;rw[if_pos hw];unfold Oper.wp;rw[hr];exact⟨v,rfl,hC,hv,hR⟩
theorem tt_new{k:Nat}{o:Oper}{a:Act}{w w':World}(v:Value)(hw:Region.wanted o (yielded ops a.tmps)=true)(hr:(execOp a.eval o).run P w=.ok (.value v) w')(hC:C w')(hv:φ k (slots (a.put o.dst v)) w')(hR:R w w'):StepT P ops Q C φ R k o a w:=by
 unfold StepT;rw[if_pos hw];unfold Oper.wp;rw[hr];exact⟨v,rfl,hC,hv,hR⟩
theorem tt_v{k:Nat}{o:Oper}{a:Act}{w w':World}(s:Sem Value)(v:Value)(hw:Region.wanted o (yielded ops a.tmps)=true)(ho:execOp a.eval o=(do let x <- s;pure (.value x)))(hr:s.run P w=.ok v w')(hC:C w')(hv:φ k (slots (a.put o.dst v)) w')(hR:R w w'):StepT P ops Q C φ R k o a w :=
 tt_new v hw (by rw[ho];simp only[Sem.run_bind,hr,Result.andThen_ok,Sem.run_pure]) hC hv hR
theorem slots_put(a:Act)(d:Nat)(v:Value)(h:d<a.tmps.size):slots (a.put (some d) v) d=v:=put_same a d v h
theorem slots_other(a:Act)(d t:Nat)(v:Value)(h:d≠t):slots (a.put (some d) v) t=slots a t:=put_other a (some d) v t (by simpa using h)
theorem tt_load{k:Nat}{o:Oper}{a:Act}{w:World}(T:TypeId)(x:Operand)(p v:Value)(ho:o.op=.load T x)(hw:Region.wanted o (yielded ops a.tmps)=true)(hp:a.eval x=p)
  (hr:(Instr.loadAt T p).run P w=.ok v w) (hC:C w) (hv:φ k (slots (a.put o.dst v)) w) (hR:R w w):StepT P ops Q C φ R k o a w :=
 tt_val v hw (by
  unfold execOp;rw[ho];simp only[hp,Sem.run_bind,hr,Result.andThen_ok,Sem.run_pure]) hC hv hR
theorem tt_call{k:Nat}{o:Oper}{a:Act}{w:World}(f:FuncId)(args:Array Value)(hw:Region.wanted o (yielded ops a.tmps)=true)(he:(execOp a.eval o).run P w=.ok (.enter f args) w)
  (hc:Calls P f args w fun e w'=>∃ v,e=.returned v/\C w'/\φ k (slots (a.put o.dst v)) w'/\R w w'):StepT P ops Q C φ R k o a w:=by
 unfold StepT;rw[if_pos hw];unfold Oper.wp;rw[he];refine Calls.mono hc ?_;rintro e w' ⟨v,rfl,h1,h2,h3⟩;exact⟨v,rfl,h1,h2,h3⟩
theorem tt_store{k:Nat}{o:Oper}{a:Act}{w w':World}(hw:Region.wanted o (yielded ops a.tmps)=true)(hd:o.dst=none)(hr:(execOp a.eval o).run P w=.ok .skip w')(hC:C w')(hv:φ k (slots a) w')(hR:R w w'):StepT P ops Q C φ R k o a w:=by
 unfold StepT;rw[if_pos hw];unfold Oper.wp;rw[hr];refine⟨undef,by rw[hd],hC,?_,hR⟩;rw[hd];exact hv
end
structure RT (h:Nat) (F:TypeId->Array Value) (w w':World):Prop where
 size:w.heap.size<=w'.heap.size
 below:∀(k:Nat),k<h->w'.heap[k]?=w.heap[k]?
 shape:∀(k:Nat) (cs:Array Value) (T:TypeId) (fz:Nat × Nat),w.heap[k]?=some (.cells cs T fz)->∃ cs':Array Value,w'.heap[k]?=some (.cells cs' T fz)/\cs'.size=cs.size
 keep:∀(k:Nat) (T:TypeId) (fz:Nat × Nat),w.heap[k]?=some (.cells (F T) T fz)->w'.heap[k]?=some (.cells (F T) T fz)
theorem RT.refl(h:Nat)(F:TypeId->Array Value)(w:World):RT h F w w:=⟨Nat.le_refl _,fun _ _=>rfl,fun _ cs _ _ e=>⟨cs,e,rfl⟩,fun _ _ _ e=>e⟩
theorem RT.of{h:Nat}{F:TypeId->Array Value}{w w':World}(hh:h<=w.heap.size)(hb:Below w.heap.size w w'):RT h F w w':=by
 have lt:∀ {k:Nat} {o:Obj},w.heap[k]?=some o->k<w.heap.size:=fun e=>(Array.getElem?_eq_some_iff.1 e).1;exact⟨hb.size,fun k hk=>hb.block k (by omega),fun k cs T fz e=>⟨cs,(hb.block k (lt e)).trans e,rfl⟩,fun _ _ _ e=>(hb.block _ (lt e)).trans e⟩
theorem RT.row{h g:Nat}{F:TypeId->Array Value}{w:World}{cs:Array Value}{T:TypeId}{fz:Nat × Nat}(hg:h<=g)(e:w.heap[g]?=some (.cells cs T fz))(hs:cs.size=(F T).size):RT h F w (w.setRow g (F T)):=by
 refine⟨Nat.le_of_eq (setRow_size w g (F T)).symm,fun k hk=>setRow_other _ _ _ _ (by omega),fun k cs' T' fz' e'=>?_,fun k T' fz' e'=>?_⟩
 ·by_cases q:k=g
  ·subst q
   rw[e]at e';cases e';exact⟨_,setRow_heap _ _ _ _ _ _ e,hs.symm⟩
  ·exact⟨cs',(setRow_other _ _ _ _ q).trans e',rfl⟩
 ·by_cases q:k=g
  ·subst q
   rw[e]at e';cases e';exact setRow_heap _ _ _ _ _ _ e
  ·exact(setRow_other _ _ _ _ q).trans e'
open Go.RowKit
section
variable {P:Program} {ops:Array Oper} {Q:Exit->Act->World->Prop} {C:World->Prop} {φ:Nat->(Nat->Value)->World->Prop} {R:World->World->Prop} {a0:Act}
def pst(C D:World->Prop)(last k:Nat)(w:World):Prop:=match Nat.beq k last with
 | true=>D w
 | false=>C w
end
open Go.RowKit
def depB(ops:Array Oper):Nat->Nat->Nat->Bool
 | 0,_,_=>false
 | n+1,j,i=>match ops[j]? with
  | some o=>o.after.any fun e=>Region.binds .any e&&(e.on == i||depB ops n e.on i)
  | none=>false
theorem dep_listed{ops:Array Oper}{listed:Array Bool}(h:∀ j o,listed.getD j false=true->ops[j]?=some o->∀ e∈o.after,Region.binds .any e=true->listed.getD e.on false=true) :
  ∀ n j i,depB ops n j i=true->listed.getD j false=true->listed.getD i false=true
 | 0,j,i,hd,_=>by simp[depB]at hd
 | n+1,j,i,hd,hj=>by
  unfold depB at hd;cases ho:ops[j]? with
  | none=>rw[ho]at hd;cases hd
  | some o =>
   rw[ho]at hd;rw[Array.any_eq_true]at hd;obtain⟨k,hk,h3⟩:=hd;have he:o.after[k]∈o.after:=Array.getElem_mem hk;generalize o.after[k]=e at *;simp only[Bool.and_eq_true,Bool.or_eq_true,beq_iff_eq]at h3;have hl:=h j o hj ho e he h3.1;rcases h3.2 with h4 | h4
   ·rw[<- h4];exact hl
   ·exact dep_listed h n e.on i h4 hl
def laterB(ops:Array Oper)(i t:Nat):Bool:=(List.range ops.size).all fun j=>match ops[j]? with
 | some o=>!(o.dst == some t)||depB ops ops.size j i
 | none=>true
theorem later_spec{ops:Array Oper}{i t:Nat}(h:laterB ops i t=true)(j:Nat)(o:Oper)(ho:ops[j]?=some o)(hd:o.dst=some t):depB ops ops.size j i=true:=by
 unfold laterB at h;rw[List.all_eq_true]at h;have:=h j (by simpa using(Array.getElem?_eq_some_iff.1 ho).1);rw[ho]at this;simpa[hd]using this
section
variable {P:Program} {ops:Array Oper} {Q:Exit->Act->World->Prop} {C:World->Prop} {φ:Nat->(Nat->Value)->World->Prop} {R:World->World->Prop} {a0:Act}
def KnownV(ops:Array Oper)(φ:Nat->(Nat->Value)->World->Prop)(a0:Act)(i:Nat)(o:Oper)(a:Act)(w:World):Prop :=
 (∀ t,laterB ops i t=true->a.tmps.getD t undef=a0.tmps.getD t undef)/\(∀ e∈o.after,Region.binds .any e=true->∀ oj,ops[e.on]?=some oj->φ e.on (slots a) w)
def StepV(P:Program)(ops:Array Oper)(Q:Exit->Act->World->Prop)(C:World->Prop)(φ:Nat->(Nat->Value)->World->Prop)(R:World->World->Prop)(k:Nat)(o:Oper)(a:Act)(w:World):Prop :=
 if Region.wanted o (yielded ops a.tmps)then o.wp P a w (fun a' w'=>∃ v,a'=a.put o.dst v/\C w'/\φ k (slots (a.put o.dst v)) w'/\R w w') Q else φ k (slots (a.put o.dst undef)) w
def StepsV(P:Program)(ops:Array Oper)(Q:Exit->Act->World->Prop)(C:World->Prop)(φ:Nat->(Nat->Value)->World->Prop)(R:World->World->Prop)(a0:Act):Nat->List Oper->Prop
 | _,[]=>True
 | k,o::l=>(∀ a w,C w->a.tmps.size=a0.tmps.size->KnownV ops φ a0 k o a w->StepV P ops Q C φ R k o a w)/\StepsV P ops Q C φ R a0 (k+1) l
theorem StepsV.at_:∀ {l:List Oper} {k:Nat},StepsV P ops Q C φ R a0 k l->∀(i:Nat) (o:Oper),l[i]?=some o->∀ a w,C w->a.tmps.size=a0.tmps.size->KnownV ops φ a0 (k+i) o a w->StepV P ops Q C φ R (k+i) o a w
 | [],_,_,i,o,hi=>by simp at hi
 | o::l,k,h,0,o',hi=>by simp at hi;subst hi;exact h.1
 | o::l,k,h,i+1,o',hi=>by
  have:=StepsV.at_ h.2 i o' (by simpa using hi);rwa [show k+1+i=k+(i+1) by omega]at this
theorem wpAny_tie3(rd:Nat->List Nat)(rk:Nat->Nat)(hdist:distinctB ops.toList=true)(hlex:rankB ops rk=true)(hon:∀(i:Nat) (o:Oper),ops[i]?=some o->∀ e∈o.after,e.on<ops.size)(hown:ownB ops rd=true)
  (hrd:∀ i s s' w,(∀ t∈rd i,s t=s' t)->φ i s w->φ i s' w)
  (hφ:∀ i v w w',R w w'->φ i v w->φ i v w') (hst:StepsV P ops Q C φ R a0 0 ops.toList)
  (hQ:∀(f:Oper->Value) w,C w->(∀ i o,ops[i]?=some o->φ i (slots (putAll f ops.toList a0)) w)->Q .normal (putAll f ops.toList a0) w) :
  ∀(fuel:Nat) (listed:Array Bool) (a:Act) (w:World),listed.size=ops.size->listed.toList.count false<=fuel->C w->a.tmps.size=a0.tmps.size->a.defers=a0.defers ->
   (∀ t,(∀ j o,ops[j]?=some o->o.dst=some t->listed.getD j false=false)->a.tmps.getD t undef=a0.tmps.getD t undef)->(∀ i o,listed.getD i false=true->ops[i]?=some o->φ i (slots a) w/\∀ e∈o.after,Region.binds .any e=true->listed.getD e.on false=true)->wpAny P .any ops Q fuel listed a w:=by
 have done:∀(listed:Array Bool) (a:Act) (w:World),(∀ i,i<ops.size->listed.getD i false=true)->C w->a.tmps.size=a0.tmps.size->a.defers=a0.defers ->
   (∀ t,(∀ j o,ops[j]?=some o->o.dst=some t->listed.getD j false=false)->a.tmps.getD t undef=a0.tmps.getD t undef)->(∀ i o,listed.getD i false=true->ops[i]?=some o->φ i (slots a) w/\∀ e∈o.after,Region.binds .any e=true->listed.getD e.on false=true)->Q .normal a w:=by
  intro listed a w hall hC hs hd hk hp;have hb:=put_back hs hd (fun t ht=>hk t (fun j o ho hd'=>by
   simp only[isDst,List.any_eq_false]at ht;have hm:o∈ops.toList:=List.mem_of_getElem? (i:=j) (by simpa using ho);exact absurd (show(o.dst == some t)=true by simp[hd']) (ht o hm)))
  rw[hb];exact hQ _ w hC (fun i o ho=>by rw[<- hb];exact(hp i o (hall i (Array.getElem?_eq_some_iff.1 ho).1) ho).1)
 intro fuel
 induction fuel with
 | zero =>
  intro listed a w hsz hc hC hs hd hk hp;have hno:false ∉ listed.toList:=List.count_eq_zero.1 (by omega);have hall:∀ i,i<ops.size->listed.getD i false=true:=fun i hi=>by
   have hlt:i<listed.size:=by omega
   have hm:listed[i]∈listed.toList:=by simp
   simp only[Array.getD_eq_getD_getElem?,hlt,Array.getElem?_eq_getElem,Option.getD_some];cases h:listed[i]with
   | true=>rfl
   | false=>rw[h]at hm;exact absurd hm hno
  refine⟨?_,done listed a w hall hC hs hd hk hp⟩;rw[List.eq_nil_iff_forall_not_mem];intro j hj;obtain⟨h0,o,ho,-⟩:=mem_ready.1 hj;have hlt:=(Array.getElem?_eq_some_iff.1 ho).1;have h1:=hall j hlt;simp[show j<listed.size by omega]at h0 h1;rw[h0]at h1;cases h1
 | succ fuel ih =>
  intro listed a w hsz hc hC hs hd hk hp;refine⟨fun hr=>?_,fun i hi=>?_⟩
  ·refine done listed a w ?_ hC hs hd hk hp
   -- the least that isn't listed would be ready
   have key:∀ r i,rk i<r->i<ops.size->listed.getD i false=true:=by
    intro r
    induction r with
    | zero=>intro i h;omega
    | succ r ihr =>
     intro i hri hi;cases h:listed.getD i false with
     | true=>rfl
     | false =>
      have ho:ops[i]?=some ops[i]:=Array.getElem?_eq_getElem hi;have:i∈Region.ready .any ops listed:=mem_ready.2 ⟨by simpa[show i<listed.size by omega]using h,ops[i],ho,fun e he hb=>by
       have hl:=hlex;unfold rankB at hl;rw[List.all_eq_true]at hl;have:=hl i (by simpa using hi);rw[ho]at this;simp only[Array.all_eq_true_iff_forall_mem]at this;have hlt:=this e he;rw[hb]at hlt;simp at hlt;exact ihr e.on (by omega) (hon i _ ho e he)⟩
      rw[hr]at this;cases this
   exact fun i hi=>key (rk i+1) i (by omega) hi
  ·obtain⟨h0,o,ho,hall⟩:=mem_ready.1 hi
   have hlt:i<ops.size:=(Array.getElem?_eq_some_iff.1 ho).1;have hl':ops.toList[i]?=some o:=by simpa using ho
   have hstep:=hst.at_ i o hl' a w hC hs ⟨fun t ht=>hk t (fun j oj hoj hdj=>by
    have hdep:=later_spec (by simpa using ht) j oj hoj hdj;cases hl:listed.getD j false with
    | false=>rfl
    | true =>
     have:=dep_listed (fun j o h1 h2=>(hp j o h1 h2).2) _ _ _ hdep hl;rw[getD_both h0]at this;cases this),fun e he hb oj hj=>(hp e.on oj (by have:=hall e he hb;simpa using this) hj).1⟩
   rw[Nat.zero_add]at hstep;have go:∀(v:Value) (w':World),C w'->φ i (slots (a.put o.dst v)) w'->(∀ j u,φ j u w->φ j u w')->wpAny P .any ops Q fuel (listed.setIfInBounds i true) (a.put o.dst v) w':=by
    intro v w' hC' hv hm;refine ih _ _ _ (by simpa using hsz) ?_ hC' (by rw[put_size];exact hs) (by rw[put_defers];exact hd) ?_ ?_
    ·have hil:i<listed.size:=by omega
     have e0:listed[i]=false:=by simpa[hil]using h0
     rw[Array.toList_setIfInBounds,List.count_set (by simpa using hil)];have:listed.toList[i]'(by simpa using hil)=false:=by simpa using e0
     simp only[this];simp;have hpos:0<listed.toList.count false:=List.count_pos_iff.2 (by rw[<- e0];simp);simp at hpos;simp at hc;omega
    ·intro t ht
     have hne:o.dst≠some t:=fun e=>by
      have h1:=ht i o ho e;rw[getD_set_same (by omega)]at h1;cases h1
     rw[put_other _ _ _ _ hne];refine hk t (fun j oj hoj hdj=>?_);have h1:=ht j oj hoj hdj;by_cases q:i=j
     ·subst q;rw[getD_set_same (by omega)]at h1;cases h1
     ·rwa [getD_set_ne false q]at h1
    ·intro j oj hj hoj
     by_cases e:i=j
     ·subst e
      have:oj=o:=Option.some.inj (hoj.symm.trans ho);subst this;refine⟨hv,fun e he hb=>?_⟩;have h1:=hall e he hb;by_cases q:i=e.on
      ·rw[<- q];exact getD_set_same (by omega)
      ·rw[getD_set_ne false q];simpa using h1
     ·rw[getD_set_ne false e]at hj
      obtain⟨h1,h2⟩:=hp j oj hj hoj;refine⟨hm _ _ (hrd j _ _ w (fun t ht=>?_) h1),fun e' he hb=>?_⟩
      ·have hne:o.dst≠some t:=fun hd'=>by
        rcases own_spec hown hoj ht with h3 | h3 | ⟨e',he,hb,ok,hok,hkd⟩
        ·exact distinct_spec hdist i j o oj t hl' (by simpa using hoj) e hd' h3
        ·simp only[isDst,List.any_eq_false]at h3
         exact h3 o (List.mem_of_getElem? hl') (by simp[hd'])
        ·have h4:=h2 e' he hb
         have h5:i≠e'.on:=fun q=>by rw[<- q,getD_both h0]at h4;cases h4
         exact distinct_spec hdist i e'.on o ok t hl' (by simpa using hok) h5 hd' hkd
       exact(put_other _ _ _ _ hne).symm
      ·by_cases q:i=e'.on
       ·rw[<- q];exact getD_set_same (by omega)
       ·rw[getD_set_ne false q];exact h2 e' he hb
   unfold wpOp;rw[ho];simp only;unfold StepV at hstep
   split
   ·rename_i hw
    rw[if_pos hw]at hstep;refine .inl (Oper.wp_mono ?_ hstep);rintro a' w' ⟨v,rfl,hC',hv,hR⟩;exact go v w' hC' hv (fun j u h=>hφ j u w w' hR h)
   ·rename_i hw
    rw[if_neg hw]at hstep;exact go undef w hC hstep (fun j u h=>h)
theorem region_tie3{id:Nat}{l:List Oper}{w:World}(C:World->Prop)(φ:Nat->(Nat->Value)->World->Prop)(R:World->World->Prop)(rd:Nat->List Nat)(rk:Nat->Nat)(hm:P.follows .mixedOrders=true)
  (hB:(distinctB l&&rankB l.toArray rk&&ownB l.toArray rd&&insideB l.toArray)=true) (hC:C w.drew)
  (hrd:∀ i s s' w,(∀ t∈rd i,s t=s' t)->φ i s w->φ i s' w) (hφ:∀ i v w w',R w w'->φ i v w->φ i v w') (hst:StepsV P l.toArray Q C φ R a0 0 l)
  (hQ:∀(f:Oper->Value) w,C w->(∀ i o,l[i]?=some o->φ i (slots (putAll f l a0)) w)->Q .normal (putAll f l a0) w):(Code.region id l.toArray true).wp P Q a0 w:=by
 simp only[Bool.and_eq_true]at hB;refine wp_region_any hm (wpAny_tie3 (C:=C) (φ:=φ) (R:=R) (a0:=a0) rd rk hB.1.1.1 hB.1.1.2 (inside_spec hB.2) hB.1.2 hrd hφ hst (fun f w hC h=>hQ f w hC (fun i o ho=>h i o (by simpa using ho))) _ _ _ w.drew (by simp) (by simp) hC rfl rfl (fun _ _=>rfl) ?_);intro i o hi;simp at hi;rcases Nat.lt_or_ge i l.length with h | h
 ·simp[h]at hi
 ·simp[Nat.not_lt.2 h]at hi
/-! What each kind of operation must do. -/
theorem vv_val{k:Nat}{o:Oper}{a:Act}{w:World}(v:Value)(hw:Region.wanted o (yielded ops a.tmps)=true)(hr:(execOp a.eval o).run P w=.ok (.value v) w)(hC:C w)(hv:φ k (slots (a.put o.dst v)) w)(hR:R w w):StepV P ops Q C φ R k o a w:=by
 unfold StepV;rw[if_pos hw];unfold Oper.wp;rw[hr];exact⟨v,rfl,hC,hv,hR⟩
theorem vv_new{k:Nat}{o:Oper}{a:Act}{w w':World}(v:Value)(hw:Region.wanted o (yielded ops a.tmps)=true)(hr:(execOp a.eval o).run P w=.ok (.value v) w')(hC:C w')(hv:φ k (slots (a.put o.dst v)) w')(hR:R w w'):StepV P ops Q C φ R k o a w:=by
 unfold StepV;rw[if_pos hw];unfold Oper.wp;rw[hr];exact⟨v,rfl,hC,hv,hR⟩
theorem vv_v{k:Nat}{o:Oper}{a:Act}{w w':World}(s:Sem Value)(v:Value)(hw:Region.wanted o (yielded ops a.tmps)=true)(ho:execOp a.eval o=(do let x <- s;pure (.value x)))(hr:s.run P w=.ok v w')(hC:C w')(hv:φ k (slots (a.put o.dst v)) w')(hR:R w w'):StepV P ops Q C φ R k o a w :=
 vv_new v hw (by rw[ho];simp only[Sem.run_bind,hr,Result.andThen_ok,Sem.run_pure]) hC hv hR
theorem vv_call{k:Nat}{o:Oper}{a:Act}{w:World}(f:FuncId)(args:Array Value)(hw:Region.wanted o (yielded ops a.tmps)=true)(he:(execOp a.eval o).run P w=.ok (.enter f args) w)
  (hc:Calls P f args w fun e w'=>∃ v,e=.returned v/\C w'/\φ k (slots (a.put o.dst v)) w'/\R w w'):StepV P ops Q C φ R k o a w:=by
 unfold StepV;rw[if_pos hw];unfold Oper.wp;rw[he];refine Calls.mono hc ?_;rintro e w' ⟨v,rfl,h1,h2,h3⟩;exact⟨v,rfl,h1,h2,h3⟩
end
end Go.Proofs.YtadfjjfklihaaaaGreat
