/- What the sum, the difference and their parts come to, called with any words in any world: walks of word.Add, word.addCarry, word.Sub, word.Of, word.Not. (Cut to what is reached, written closely: Inv · Tie0 · TieL · Tie2 · TieS · Tail · Q · Shelf · Num · Add.) -/
import Derived.Still
import Derived.WalkKit
import Derived.StillTail
import Derived.Laws.CopyOwn
import Derived.Deep.Quiet
import Derived.Deep.QuietTactic
import Derived.Shelf.Small.Bits
import Derived.Shelf.Strconv.Itoa0
import Derived.Shelf.Bits.Mul64
import Derived.Test.YtcmgphkjchicbaaProg
import Derived.Laws.Externs
import Derived.WalkSpells
import Derived.WalkLawsBesides
import Derived.LoopN
import Derived.Handy
import Derived.Outline
import Derived.RegionTactic
import Derived.BigRegion
import Derived.BigQuiet
import Derived.WalkSmall
import Derived.OwnWalk
import Derived.Lib.Hide
import Derived.Laws.Rows
import Derived.Laws.Tables
import Derived.Maps.AppendAt
import Derived.Deep.LoopGhost
import Derived.Laws.Bits64b
import Derived.Laws.OwnMore
import Derived.Deep.AppendLies
import Derived.Deep.RegionWith
set_option linter.all false
set_option maxRecDepth 100000
set_option maxHeartbeats 8000000
namespace Go.Proofs.Ytcmgphkjchicbaa
open Go.RowKit
def slotVal(a:Act)(o:Oper):Value:=match o.dst with
 | some d=>a.tmps.getD d undef
 | none=>undef
def isDst(l:List Oper)(t:Nat):Bool:=l.any fun o=>o.dst == some t
def putAll(f:Oper->Value):List Oper->Act->Act
 | [],a=>a
 | o::l,a=>putAll f l (a.put o.dst (f o))
theorem put_size(a:Act)(d:Option Tmp)(v:Value):(a.put d v).tmps.size=a.tmps.size:=by
 cases d <;> simp[Act.put]
theorem put_defers(a:Act)(d:Option Tmp)(v:Value):(a.put d v).defers=a.defers:=by
 cases d <;> rfl
theorem put_other(a:Act)(d:Option Tmp)(v:Value)(t:Nat)(h:d≠some t):(a.put d v).tmps.getD t undef=a.tmps.getD t undef:=by
 cases d with
 | none=>rfl
 | some d =>
  have:d≠t:=fun e=>h (by rw[e]);simp[Act.put,Array.getElem?_setIfInBounds_ne this]
theorem put_same(a:Act)(d:Nat)(v:Value)(h:d<a.tmps.size):(a.put (some d) v).tmps.getD d undef=v:=by
 simp[Act.put,h]
theorem putAll_size(f:Oper->Value):∀(l:List Oper) (a:Act),(putAll f l a).tmps.size=a.tmps.size
 | [],_=>rfl
 | o::l,a=>by rw[putAll,putAll_size f l,put_size]
theorem putAll_defers(f:Oper->Value):∀(l:List Oper) (a:Act),(putAll f l a).defers=a.defers
 | [],_=>rfl
 | o::l,a=>by rw[putAll,putAll_defers f l,put_defers]
theorem putAll_at(b:Act):∀(l:List Oper) (a:Act) (t:Nat),t<a.tmps.size->(isDst l t=false->a.tmps.getD t undef=b.tmps.getD t undef)->(putAll (slotVal b) l a).tmps.getD t undef=b.tmps.getD t undef
 | [],a,t,_,h=>h rfl
 | o::l,a,t,ht,h=>by
  rw[putAll];refine putAll_at b l _ t (by rw[put_size];exact ht) (fun hl=>?_);by_cases e:o.dst=some t
  ·rw[e,put_same _ _ _ ht]
   unfold slotVal;rw[e]
  ·rw[put_other _ _ _ _ e]
   exact h (by simp only[isDst,List.any_cons,Bool.or_eq_false_iff];exact⟨by simpa using e,hl⟩)
theorem put_back{a a0:Act}{l:List Oper}(hs:a.tmps.size=a0.tmps.size)(hd:a.defers=a0.defers)(hk:∀ t,isDst l t=false->a.tmps.getD t undef=a0.tmps.getD t undef):a=putAll (slotVal a) l a0:=by
 have h1:=putAll_size (slotVal a) l a0;have h2:=putAll_defers (slotVal a) l a0;have h3:=fun t ht=>putAll_at a l a0 t ht (fun h=>(hk t h).symm);generalize putAll (slotVal a) l a0=b at *;obtain⟨ta,da⟩:=a;obtain⟨tb,db⟩:=b;simp only at *;have:ta=tb:=by
  apply Array.ext (by omega);intro i hi hj;have:=h3 i (by omega);simp[hi,hj]at this;exact this.symm
 rw[this,hd,h2]
section
variable {P:Program} {ops:Array Oper} {Q:Exit->Act->World->Prop} {C:World->Prop} {φ:Nat->Value->World->Prop} {R:World->World->Prop} {a0:Act}
def distinctB:List Oper->Bool
 | []=>true
 | o::l=>(match o.dst with | some d=>!(isDst l d) | none=>true)&&distinctB l
theorem distinct_spec:∀ {l:List Oper},distinctB l=true->∀(i j:Nat) (oi oj:Oper) (d:Nat),l[i]?=some oi->l[j]?=some oj->i≠j->oi.dst=some d->oj.dst≠some d
 | [],_,i,_,_,_,_,hi,_,_,_=>by simp at hi
 | o::l,h,i,j,oi,oj,d,hi,hj,hne,hd=>by
  simp only[distinctB,Bool.and_eq_true]at h;have out:∀(k:Nat) (ok:Oper) (e:Nat),l[k]?=some ok->o.dst=some e->ok.dst≠some e:=fun k ok e hk he hok=>by
   have h1:=h.1;rw[he]at h1;simp only[Bool.not_eq_true',isDst,List.any_eq_false]at h1;exact h1 ok (List.mem_of_getElem? hk) (by simp[hok])
  match i,j,hi,hj with
  | 0,0,_,_=>exact absurd rfl hne
  | 0,j+1,hi,hj=>simp at hi;subst hi;exact out j oj d (by simpa using hj) hd
  | i+1,0,hi,hj=>simp at hj;subst hj;exact fun he=>out i oi d (by simpa using hi) he hd
  | i+1,j+1,hi,hj=>exact distinct_spec h.2 i j oi oj d (by simpa using hi) (by simpa using hj) (by omega) hd
/-! What each kind of operation must do. -/
end
open Go.RowKit
def slots(a:Act)(t:Nat):Value:=a.tmps.getD t undef
theorem getD_set_same{listed:Array Bool}{i:Nat}(h:i<listed.size):(listed.setIfInBounds i true).getD i false=true:=by simp[h]
section
variable {P:Program} {ops:Array Oper} {Q:Exit->Act->World->Prop} {C:World->Prop} {φ:Nat->(Nat->Value)->World->Prop} {R:World->World->Prop} {a0:Act}
def KnownT(ops:Array Oper)(φ:Nat->(Nat->Value)->World->Prop)(a0:Act)(o:Oper)(a:Act)(w:World):Prop :=
 (∀ t,isDst ops.toList t=false->a.tmps.getD t undef=a0.tmps.getD t undef)/\(∀ e∈o.after,Region.binds .any e=true->∀ oj,ops[e.on]?=some oj->φ e.on (slots a) w)
def StepT(P:Program)(ops:Array Oper)(Q:Exit->Act->World->Prop)(C:World->Prop)(φ:Nat->(Nat->Value)->World->Prop)(R:World->World->Prop)(k:Nat)(o:Oper)(a:Act)(w:World):Prop :=
 if Region.wanted o (yielded ops a.tmps)then o.wp P a w (fun a' w'=>∃ v,a'=a.put o.dst v/\C w'/\φ k (slots (a.put o.dst v)) w'/\R w w') Q else φ k (slots (a.put o.dst undef)) w
def StepsT(P:Program)(ops:Array Oper)(Q:Exit->Act->World->Prop)(C:World->Prop)(φ:Nat->(Nat->Value)->World->Prop)(R:World->World->Prop)(a0:Act):Nat->List Oper->Prop
 | _,[]=>True
 | k,o::l=>(∀ a w,C w->a.tmps.size=a0.tmps.size->KnownT ops φ a0 o a w->StepT P ops Q C φ R k o a w)/\StepsT P ops Q C φ R a0 (k+1) l
theorem StepsT.at_:∀ {l:List Oper} {k:Nat},StepsT P ops Q C φ R a0 k l->∀(i:Nat) (o:Oper),l[i]?=some o->∀ a w,C w->a.tmps.size=a0.tmps.size->KnownT ops φ a0 o a w->StepT P ops Q C φ R (k+i) o a w
 | [],_,_,i,o,hi=>by simp at hi
 | o::l,k,h,0,o',hi=>by simp at hi;subst hi;exact h.1
 | o::l,k,h,i+1,o',hi=>by
  have:=StepsT.at_ h.2 i o' (by simpa using hi);rwa [show k+1+i=k+(i+1) by omega]at this
def rankB(ops:Array Oper)(rk:Nat->Nat):Bool:=(List.range ops.size).all fun i=>match ops[i]? with
 | some o=>o.after.all fun e=>!Region.binds .any e||decide (rk e.on<rk i)
 | none=>true
def insideB(ops:Array Oper):Bool:=ops.all fun o=>o.after.all fun e=>decide (e.on<ops.size)
theorem inside_spec(h:insideB ops=true)(i:Nat)(o:Oper)(ho:ops[i]?=some o)(e:Edge)(he:e∈o.after):e.on<ops.size:=by
 unfold insideB at h;simp only[Array.all_eq_true_iff_forall_mem,decide_eq_true_eq]at h;exact h o (Array.mem_of_getElem? ho) e he
def ownB(ops:Array Oper)(rd:Nat->List Nat):Bool:=(List.range ops.size).all fun i=>match ops[i]? with
 | some o=>(rd i).all fun t=>o.dst == some t||!isDst ops.toList t||o.after.any fun e=>Region.binds .any e&&(match ops[e.on]? with | some oj=>oj.dst == some t | none=>false)
 | none=>true
theorem own_spec{rd:Nat->List Nat}(h:ownB ops rd=true){i:Nat}{o:Oper}(ho:ops[i]?=some o){t:Nat}(ht:t∈rd i) :
  o.dst=some t\/isDst ops.toList t=false\/∃ e∈o.after,Region.binds .any e=true/\∃ oj,ops[e.on]?=some oj/\oj.dst=some t:=by
 unfold ownB at h;rw[List.all_eq_true]at h;have h1:=h i (by simpa using(Array.getElem?_eq_some_iff.1 ho).1);rw[ho]at h1;simp only[List.all_eq_true]at h1;have h2:=h1 t ht;simp only[Bool.or_eq_true,beq_iff_eq,Bool.not_eq_true']at h2;rcases h2 with(h2 | h2) | h2
 ·exact .inl h2
 ·exact .inr (.inl h2)
 ·refine .inr (.inr ?_)
  rw[Array.any_eq_true]at h2;obtain⟨k,hk,h3⟩:=h2;have he:o.after[k]∈o.after:=Array.getElem_mem hk;generalize o.after[k]=e at *;rw[Bool.and_eq_true]at h3;refine⟨e,he,h3.1,?_⟩;have h4:=h3.2;cases hj:ops[e.on]? with
  | none=>rw[hj]at h4;cases h4
  | some oj=>rw[hj]at h4;exact⟨oj,rfl,by simpa using h4⟩
theorem wpAny_tie(rd:Nat->List Nat)(rk:Nat->Nat)(hdist:distinctB ops.toList=true)(hlex:rankB ops rk=true)(hon:∀(i:Nat) (o:Oper),ops[i]?=some o->∀ e∈o.after,e.on<ops.size)(hown:ownB ops rd=true)
  (hrd:∀ i s s' w,(∀ t∈rd i,s t=s' t)->φ i s w->φ i s' w)
  (hφ:∀ i v w w',R w w'->φ i v w->φ i v w') (hst:StepsT P ops Q C φ R a0 0 ops.toList)
  (hQ:∀(f:Oper->Value) w,C w->(∀ i o,ops[i]?=some o->φ i (slots (putAll f ops.toList a0)) w)->Q .normal (putAll f ops.toList a0) w) :
  ∀(fuel:Nat) (listed:Array Bool) (a:Act) (w:World),listed.size=ops.size->listed.toList.count false<=fuel->C w->a.tmps.size=a0.tmps.size->a.defers=a0.defers ->
   (∀ t,isDst ops.toList t=false->a.tmps.getD t undef=a0.tmps.getD t undef)->(∀ i o,listed.getD i false=true->ops[i]?=some o->φ i (slots a) w/\∀ e∈o.after,Region.binds .any e=true->listed.getD e.on false=true)->wpAny P .any ops Q fuel listed a w:=by
 have done:∀(listed:Array Bool) (a:Act) (w:World),(∀ i,i<ops.size->listed.getD i false=true)->C w->a.tmps.size=a0.tmps.size->a.defers=a0.defers ->
   (∀ t,isDst ops.toList t=false->a.tmps.getD t undef=a0.tmps.getD t undef)->(∀ i o,listed.getD i false=true->ops[i]?=some o->φ i (slots a) w/\∀ e∈o.after,Region.binds .any e=true->listed.getD e.on false=true)->Q .normal a w:=by
  intro listed a w hall hC hs hd hk hp;have hb:=put_back hs hd hk;rw[hb];exact hQ _ w hC (fun i o ho=>by rw[<- hb];exact(hp i o (hall i (Array.getElem?_eq_some_iff.1 ho).1) ho).1)
 intro fuel
 induction fuel with
 | zero =>
  intro listed a w hsz hc hC hs hd hk hp;have hno:false ∉ listed.toList:=List.count_eq_zero.1 (by omega);have hall:∀ i,i<ops.size->listed.getD i false=true:=fun i hi=>by
   have hlt:i<listed.size:=by omega
   have hm:listed[i]∈listed.toList:=by simp
   simp only[Array.getD_eq_getD_getElem?,hlt,Array.getElem?_eq_getElem,Option.getD_some];cases h:listed[i]with
   | true=>rfl
   | false=>rw[h]at hm;exact absurd hm hno
  refine⟨?_,done listed a w hall hC hs hd hk hp⟩;rw[List.eq_nil_iff_forall_not_mem];intro j hj;obtain⟨h0,o,ho,-⟩:=mem_ready.1 hj;have hlt:=(Array.getElem?_eq_some_iff.1 ho).1;have h1:=hall j hlt;simp[show j<listed.size by omega]at h0 h1;rw[h0]at h1;cases h1
 | succ fuel ih =>
  intro listed a w hsz hc hC hs hd hk hp;refine⟨fun hr=>?_,fun i hi=>?_⟩
  ·refine done listed a w ?_ hC hs hd hk hp
   -- the least that isn't listed would be ready
   have key:∀ r i,rk i<r->i<ops.size->listed.getD i false=true:=by
    intro r
    induction r with
    | zero=>intro i h;omega
    | succ r ihr =>
     intro i hri hi;cases h:listed.getD i false with
     | true=>rfl
     | false =>
      have ho:ops[i]?=some ops[i]:=Array.getElem?_eq_getElem hi;have:i∈Region.ready .any ops listed:=mem_ready.2 ⟨by simpa[show i<listed.size by omega]using h,ops[i],ho,fun e he hb=>by
       have hl:=hlex;unfold rankB at hl;rw[List.all_eq_true]at hl;have:=hl i (by simpa using hi);rw[ho]at this;simp only[Array.all_eq_true_iff_forall_mem]at this;have hlt:=this e he;rw[hb]at hlt;simp at hlt;exact ihr e.on (by omega) (hon i _ ho e he)⟩
      rw[hr]at this;cases this
   exact fun i hi=>key (rk i+1) i (by omega) hi
  ·obtain⟨h0,o,ho,hall⟩:=mem_ready.1 hi
   have hlt:i<ops.size:=(Array.getElem?_eq_some_iff.1 ho).1;have hl':ops.toList[i]?=some o:=by simpa using ho
   have hstep:=hst.at_ i o hl' a w hC hs ⟨hk,fun e he hb oj hj=>(hp e.on oj (by have:=hall e he hb;simpa using this) hj).1⟩;rw[Nat.zero_add]at hstep;have go:∀(v:Value) (w':World),C w'->φ i (slots (a.put o.dst v)) w'->(∀ j u,φ j u w->φ j u w')->wpAny P .any ops Q fuel (listed.setIfInBounds i true) (a.put o.dst v) w':=by
    intro v w' hC' hv hm;refine ih _ _ _ (by simpa using hsz) ?_ hC' (by rw[put_size];exact hs) (by rw[put_defers];exact hd) ?_ ?_
    ·have hil:i<listed.size:=by omega
     have e0:listed[i]=false:=by simpa[hil]using h0
     rw[Array.toList_setIfInBounds,List.count_set (by simpa using hil)];have:listed.toList[i]'(by simpa using hil)=false:=by simpa using e0
     simp only[this];simp;have hpos:0<listed.toList.count false:=List.count_pos_iff.2 (by rw[<- e0];simp);simp at hpos;simp at hc;omega
    ·intro t ht
     have hne:o.dst≠some t:=fun e=>by
      simp only[isDst,List.any_eq_false]at ht;exact ht o (List.mem_of_getElem? hl') (by simp[e])
     rw[put_other _ _ _ _ hne];exact hk t ht
    ·intro j oj hj hoj
     by_cases e:i=j
     ·subst e
      have:oj=o:=Option.some.inj (hoj.symm.trans ho);subst this;refine⟨hv,fun e he hb=>?_⟩;have h1:=hall e he hb;by_cases q:i=e.on
      ·rw[<- q];exact getD_set_same (by omega)
      ·rw[getD_set_ne false q];simpa using h1
     ·rw[getD_set_ne false e]at hj
      obtain⟨h1,h2⟩:=hp j oj hj hoj;refine⟨hm _ _ (hrd j _ _ w (fun t ht=>?_) h1),fun e' he hb=>?_⟩
      ·have hne:o.dst≠some t:=fun hd'=>by
        rcases own_spec hown hoj ht with h3 | h3 | ⟨e',he,hb,ok,hok,hkd⟩
        ·exact distinct_spec hdist i j o oj t hl' (by simpa using hoj) e hd' h3
        ·simp only[isDst,List.any_eq_false]at h3
         exact h3 o (List.mem_of_getElem? hl') (by simp[hd'])
        ·have h4:=h2 e' he hb
         have h5:i≠e'.on:=fun q=>by rw[<- q,getD_both h0]at h4;cases h4
         exact distinct_spec hdist i e'.on o ok t hl' (by simpa using hok) h5 hd' hkd
       exact(put_other _ _ _ _ hne).symm
      ·by_cases q:i=e'.on
       ·rw[<- q];exact getD_set_same (by omega)
       ·rw[getD_set_ne false q];exact h2 e' he hb
   unfold wpOp;rw[ho];simp only;unfold StepT at hstep
   split
   ·rename_i hw
    rw[if_pos hw]at hstep;refine .inl (Oper.wp_mono ?_ hstep);rintro a' w' ⟨v,rfl,hC',hv,hR⟩;exact go v w' hC' hv (fun j u h=>hφ j u w w' hR h)
   ·rename_i hw
    rw[if_neg hw]at hstep;exact go undef w hC hstep (fun j u h=>h)
theorem region_tie{id:Nat}{l:List Oper}{w:World}(C:World->Prop)(φ:Nat->(Nat->Value)->World->Prop)(R:World->World->Prop)(rd:Nat->List Nat)(rk:Nat->Nat)(hm:P.follows .mixedOrders=true)
  (hB:(distinctB l&&rankB l.toArray rk&&ownB l.toArray rd&&insideB l.toArray)=true) (hC:C w.drew)
  (hrd:∀ i s s' w,(∀ t∈rd i,s t=s' t)->φ i s w->φ i s' w) (hφ:∀ i v w w',R w w'->φ i v w->φ i v w') (hst:StepsT P l.toArray Q C φ R a0 0 l)
  (hQ:∀(f:Oper->Value) w,C w->(∀ i o,l[i]?=some o->φ i (slots (putAll f l a0)) w)->Q .normal (putAll f l a0) w):(Code.region id l.toArray true).wp P Q a0 w:=by
 simp only[Bool.and_eq_true]at hB;refine wp_region_any hm (wpAny_tie (C:=C) (φ:=φ) (R:=R) (a0:=a0) rd rk hB.1.1.1 hB.1.1.2 (inside_spec hB.2) hB.1.2 hrd hφ hst (fun f w hC h=>hQ f w hC (fun i o ho=>h i o (by simpa using ho))) _ _ _ w.drew (by simp) (by simp) hC rfl rfl (fun _ _=>rfl) ?_);intro i o hi;simp at hi;rcases Nat.lt_or_ge i l.length with h | h
 ·simp[h]at hi
 ·simp[Nat.not_lt.2 h]at hi
/-! What each kind of operation must do. -/
theorem tt_val{k:Nat}{o:Oper}{a:Act}{w:World}(v:Value)(hw:Region.wanted o (yielded ops a.tmps)=true)(hr:(execOp a.eval o).run P w=.ok (.value v) w)(hC:C w)(hv:φ k (slots (a.put o.dst v)) w)(hR:R w w):StepT P ops Q C φ R k o a w:=by
 unfold StepT;rw[if_pos hw];unfold Oper.wp;rw[hr];exact⟨v,rfl,hC,hv,hR⟩
theorem tt_new{k:Nat}{o:Oper}{a:Act}{w w':World}(v:Value)(hw:Region.wanted o (yielded ops a.tmps)=true)(hr:(execOp a.eval o).run P w=.ok (.value v) w')(hC:C w')(hv:φ k (slots (a.put o.dst v)) w')(hR:R w w'):StepT P ops Q C φ R k o a w:=by
 unfold StepT;rw[if_pos hw];unfold Oper.wp;rw[hr];exact⟨v,rfl,hC,hv,hR⟩
theorem tt_v{k:Nat}{o:Oper}{a:Act}{w w':World}(s:Sem Value)(v:Value)(hw:Region.wanted o (yielded ops a.tmps)=true)(ho:execOp a.eval o=(do let x <- s;pure (.value x)))(hr:s.run P w=.ok v w')(hC:C w')(hv:φ k (slots (a.put o.dst v)) w')(hR:R w w'):StepT P ops Q C φ R k o a w :=
 tt_new v hw (by rw[ho];simp only[Sem.run_bind,hr,Result.andThen_ok,Sem.run_pure]) hC hv hR
theorem slots_put(a:Act)(d:Nat)(v:Value)(h:d<a.tmps.size):slots (a.put (some d) v) d=v:=put_same a d v h
theorem slots_other(a:Act)(d t:Nat)(v:Value)(h:d≠t):slots (a.put (some d) v) t=slots a t:=put_other a (some d) v t (by simpa using h)
theorem tt_load{k:Nat}{o:Oper}{a:Act}{w:World}(T:TypeId)(x:Operand)(p v:Value)(ho:o.op=.load T x)(hw:Region.wanted o (yielded ops a.tmps)=true)(hp:a.eval x=p)
  (hr:(Instr.loadAt T p).run P w=.ok v w) (hC:C w) (hv:φ k (slots (a.put o.dst v)) w) (hR:R w w):StepT P ops Q C φ R k o a w :=
 tt_val v hw (by
  unfold execOp;rw[ho];simp only[hp,Sem.run_bind,hr,Result.andThen_ok,Sem.run_pure]) hC hv hR
theorem tt_call{k:Nat}{o:Oper}{a:Act}{w:World}(f:FuncId)(args:Array Value)(hw:Region.wanted o (yielded ops a.tmps)=true)(he:(execOp a.eval o).run P w=.ok (.enter f args) w)
  (hc:Calls P f args w fun e w'=>∃ v,e=.returned v/\C w'/\φ k (slots (a.put o.dst v)) w'/\R w w'):StepT P ops Q C φ R k o a w:=by
 unfold StepT;rw[if_pos hw];unfold Oper.wp;rw[he];refine Calls.mono hc ?_;rintro e w' ⟨v,rfl,h1,h2,h3⟩;exact⟨v,rfl,h1,h2,h3⟩
theorem tt_store{k:Nat}{o:Oper}{a:Act}{w w':World}(hw:Region.wanted o (yielded ops a.tmps)=true)(hd:o.dst=none)(hr:(execOp a.eval o).run P w=.ok .skip w')(hC:C w')(hv:φ k (slots a) w')(hR:R w w'):StepT P ops Q C φ R k o a w:=by
 unfold StepT;rw[if_pos hw];unfold Oper.wp;rw[hr];refine⟨undef,by rw[hd],hC,?_,hR⟩;rw[hd];exact hv
end
structure RT (h:Nat) (F:TypeId->Array Value) (w w':World):Prop where
 size:w.heap.size<=w'.heap.size
 below:∀(k:Nat),k<h->w'.heap[k]?=w.heap[k]?
 shape:∀(k:Nat) (cs:Array Value) (T:TypeId) (fz:Nat × Nat),w.heap[k]?=some (.cells cs T fz)->∃ cs':Array Value,w'.heap[k]?=some (.cells cs' T fz)/\cs'.size=cs.size
 keep:∀(k:Nat) (T:TypeId) (fz:Nat × Nat),w.heap[k]?=some (.cells (F T) T fz)->w'.heap[k]?=some (.cells (F T) T fz)
theorem RT.refl(h:Nat)(F:TypeId->Array Value)(w:World):RT h F w w:=⟨Nat.le_refl _,fun _ _=>rfl,fun _ cs _ _ e=>⟨cs,e,rfl⟩,fun _ _ _ e=>e⟩
theorem RT.of{h:Nat}{F:TypeId->Array Value}{w w':World}(hh:h<=w.heap.size)(hb:Below w.heap.size w w'):RT h F w w':=by
 have lt:∀ {k:Nat} {o:Obj},w.heap[k]?=some o->k<w.heap.size:=fun e=>(Array.getElem?_eq_some_iff.1 e).1;exact⟨hb.size,fun k hk=>hb.block k (by omega),fun k cs T fz e=>⟨cs,(hb.block k (lt e)).trans e,rfl⟩,fun _ _ _ e=>(hb.block _ (lt e)).trans e⟩
theorem RT.row{h g:Nat}{F:TypeId->Array Value}{w:World}{cs:Array Value}{T:TypeId}{fz:Nat × Nat}(hg:h<=g)(e:w.heap[g]?=some (.cells cs T fz))(hs:cs.size=(F T).size):RT h F w (w.setRow g (F T)):=by
 refine⟨Nat.le_of_eq (setRow_size w g (F T)).symm,fun k hk=>setRow_other _ _ _ _ (by omega),fun k cs' T' fz' e'=>?_,fun k T' fz' e'=>?_⟩
 ·by_cases q:k=g
  ·subst q
   rw[e]at e';cases e';exact⟨_,setRow_heap _ _ _ _ _ _ e,hs.symm⟩
  ·exact⟨cs',(setRow_other _ _ _ _ q).trans e',rfl⟩
 ·by_cases q:k=g
  ·subst q
   rw[e]at e';cases e';exact setRow_heap _ _ _ _ _ _ e
  ·exact(setRow_other _ _ _ _ q).trans e'
open Go.RowKit
section
variable {P:Program} {ops:Array Oper} {Q:Exit->Act->World->Prop} {C:World->Prop} {φ:Nat->(Nat->Value)->World->Prop} {R:World->World->Prop} {a0:Act}
def pst(C D:World->Prop)(last k:Nat)(w:World):Prop:=match Nat.beq k last with
 | true=>D w
 | false=>C w
end
open Go.RowKit
def depB(ops:Array Oper):Nat->Nat->Nat->Bool
 | 0,_,_=>false
 | n+1,j,i=>match ops[j]? with
  | some o=>o.after.any fun e=>Region.binds .any e&&(e.on == i||depB ops n e.on i)
  | none=>false
theorem dep_listed{ops:Array Oper}{listed:Array Bool}(h:∀ j o,listed.getD j false=true->ops[j]?=some o->∀ e∈o.after,Region.binds .any e=true->listed.getD e.on false=true) :
  ∀ n j i,depB ops n j i=true->listed.getD j false=true->listed.getD i false=true
 | 0,j,i,hd,_=>by simp[depB]at hd
 | n+1,j,i,hd,hj=>by
  unfold depB at hd;cases ho:ops[j]? with
  | none=>rw[ho]at hd;cases hd
  | some o =>
   rw[ho]at hd;rw[Array.any_eq_true]at hd;obtain⟨k,hk,h3⟩:=hd;have he:o.after[k]∈o.after:=Array.getElem_mem hk;generalize o.after[k]=e at *;simp only[Bool.and_eq_true,Bool.or_eq_true,beq_iff_eq]at h3;have hl:=h j o hj ho e he h3.1;rcases h3.2 with h4 | h4
   ·rw[<- h4];exact hl
   ·exact dep_listed h n e.on i h4 hl
def laterB(ops:Array Oper)(i t:Nat):Bool:=(List.range ops.size).all fun j=>match ops[j]? with
 | some o=>!(o.dst == some t)||depB ops ops.size j i
 | none=>true
theorem later_spec{ops:Array Oper}{i t:Nat}(h:laterB ops i t=true)(j:Nat)(o:Oper)(ho:ops[j]?=some o)(hd:o.dst=some t):depB ops ops.size j i=true:=by
 unfold laterB at h;rw[List.all_eq_true]at h;have:=h j (by simpa using(Array.getElem?_eq_some_iff.1 ho).1);rw[ho]at this;simpa[hd]using this
section
variable {P:Program} {ops:Array Oper} {Q:Exit->Act->World->Prop} {C:World->Prop} {φ:Nat->(Nat->Value)->World->Prop} {R:World->World->Prop} {a0:Act}
def KnownV(ops:Array Oper)(φ:Nat->(Nat->Value)->World->Prop)(a0:Act)(i:Nat)(o:Oper)(a:Act)(w:World):Prop :=
 (∀ t,laterB ops i t=true->a.tmps.getD t undef=a0.tmps.getD t undef)/\(∀ e∈o.after,Region.binds .any e=true->∀ oj,ops[e.on]?=some oj->φ e.on (slots a) w)
/-! What each kind of operation must do. -/
end
open Go.RowKit
section
variable {P:Program} {ops:Array Oper} {Q:Exit->Act->World->Prop} {C:World->Prop} {φ:Nat->(Nat->Value)->World->Prop} {R:World->World->Prop} {a0:Act}
def StepsTS(P:Program)(ops:Array Oper)(Q:Exit->Act->World->Prop)(C D:World->Prop)(st:Nat)(φ:Nat->(Nat->Value)->World->Prop)(R:World->World->Prop)(a0:Act):Nat->List Oper->Prop
 | _,[]=>True
 | k,o::l=>(∀ a w,C w->a.tmps.size=a0.tmps.size->KnownV ops φ a0 k o a w->Region.wanted o (yielded ops a.tmps)=true/\StepT P ops Q (pst C D st k) φ R k o a w)/\(depB ops ops.size st k=true\/k=st\/∀ a w,D w->a.tmps.size=a0.tmps.size->KnownV ops φ a0 k o a w->Region.wanted o (yielded ops a.tmps)=true/\StepT P ops Q D φ R k o a w)/\StepsTS P ops Q C D st φ R a0 (k+1) l
theorem StepsTS.at_{D:World->Prop}{st:Nat}:∀ {l:List Oper} {k:Nat},StepsTS P ops Q C D st φ R a0 k l->∀(i:Nat) (o:Oper),l[i]?=some o->(∀ a w,C w->a.tmps.size=a0.tmps.size->KnownV ops φ a0 (k+i) o a w->Region.wanted o (yielded ops a.tmps)=true/\StepT P ops Q (pst C D st (k+i)) φ R (k+i) o a w)/\(depB ops ops.size st (k+i)=true\/k+i=st\/∀ a w,D w->a.tmps.size=a0.tmps.size->KnownV ops φ a0 (k+i) o a w->Region.wanted o (yielded ops a.tmps)=true/\StepT P ops Q D φ R (k+i) o a w)
 | [],_,_,i,o,hi=>by simp at hi
 | o::l,k,h,0,o',hi=>by simp at hi;subst hi;exact⟨h.1,h.2.1⟩
 | o::l,k,h,i+1,o',hi=>by
  have:=StepsTS.at_ h.2.2 i o' (by simpa using hi);rwa [show k+1+i=k+(i+1) by omega]at this
theorem stepT_mono{C C':World->Prop}{k:Nat}{o:Oper}{a:Act}{w:World}(h:∀ w,C w->C' w)(hs:StepT P ops Q C φ R k o a w):StepT P ops Q C' φ R k o a w:=by
 unfold StepT at hs |-
 split
 ·rename_i hw
  rw[if_pos hw]at hs;exact Oper.wp_mono (fun a' w' ⟨v,h1,h2,h3,h4⟩=>⟨v,h1,h w' h2,h3,h4⟩) hs
 ·rename_i hw
  rw[if_neg hw]at hs;exact hs
theorem wpAny_tieS{D:World->Prop}(st:Nat)(hst0:st<ops.size)(rd:Nat->List Nat)(rk:Nat->Nat)(hdist:distinctB ops.toList=true)(hlex:rankB ops rk=true)(hon:∀(i:Nat) (o:Oper),ops[i]?=some o->∀ e∈o.after,e.on<ops.size)(hown:ownB ops rd=true)
  (hrd:∀ i s s' w,(∀ t∈rd i,s t=s' t)->φ i s w->φ i s' w)
  (hφ:∀ i v w w',R w w'->φ i v w->φ i v w') (hst:StepsTS P ops Q C D st φ R a0 0 ops.toList)
  (hQ:∀(f:Oper->Value) w,D w->(∀ i o,ops[i]?=some o->φ i (slots (putAll f ops.toList a0)) w)->Q .normal (putAll f ops.toList a0) w) :
  ∀(fuel:Nat) (listed:Array Bool) (a:Act) (w:World),listed.size=ops.size->listed.toList.count false<=fuel->((listed.getD st false=false->C w)/\(listed.getD st false=true->D w))->a.tmps.size=a0.tmps.size->a.defers=a0.defers ->
   (∀ t,(∀ j o,ops[j]?=some o->o.dst=some t->listed.getD j false=false)->a.tmps.getD t undef=a0.tmps.getD t undef)->(∀ i o,listed.getD i false=true->ops[i]?=some o->φ i (slots a) w/\∀ e∈o.after,Region.binds .any e=true->listed.getD e.on false=true)->wpAny P .any ops Q fuel listed a w:=by
 have done:∀(listed:Array Bool) (a:Act) (w:World),(∀ i,i<ops.size->listed.getD i false=true)->((listed.getD st false=false->C w)/\(listed.getD st false=true->D w))->a.tmps.size=a0.tmps.size->a.defers=a0.defers ->
   (∀ t,(∀ j o,ops[j]?=some o->o.dst=some t->listed.getD j false=false)->a.tmps.getD t undef=a0.tmps.getD t undef)->(∀ i o,listed.getD i false=true->ops[i]?=some o->φ i (slots a) w/\∀ e∈o.after,Region.binds .any e=true->listed.getD e.on false=true)->Q .normal a w:=by
  intro listed a w hall hC hs hd hk hp;have hb:=put_back hs hd (fun t ht=>hk t (fun j o ho hd'=>by
   simp only[isDst,List.any_eq_false]at ht;have hm:o∈ops.toList:=List.mem_of_getElem? (i:=j) (by simpa using ho);exact absurd (show(o.dst == some t)=true by simp[hd']) (ht o hm)))
  rw[hb];exact hQ _ w (hC.2 (hall st hst0)) (fun i o ho=>by rw[<- hb];exact(hp i o (hall i (Array.getElem?_eq_some_iff.1 ho).1) ho).1)
 intro fuel
 induction fuel with
 | zero =>
  intro listed a w hsz hc hC hs hd hk hp;have hno:false ∉ listed.toList:=List.count_eq_zero.1 (by omega);have hall:∀ i,i<ops.size->listed.getD i false=true:=fun i hi=>by
   have hlt:i<listed.size:=by omega
   have hm:listed[i]∈listed.toList:=by simp
   simp only[Array.getD_eq_getD_getElem?,hlt,Array.getElem?_eq_getElem,Option.getD_some];cases h:listed[i]with
   | true=>rfl
   | false=>rw[h]at hm;exact absurd hm hno
  refine⟨?_,done listed a w hall hC hs hd hk hp⟩;rw[List.eq_nil_iff_forall_not_mem];intro j hj;obtain⟨h0,o,ho,-⟩:=mem_ready.1 hj;have hlt:=(Array.getElem?_eq_some_iff.1 ho).1;have h1:=hall j hlt;simp[show j<listed.size by omega]at h0 h1;rw[h0]at h1;cases h1
 | succ fuel ih =>
  intro listed a w hsz hc hC hs hd hk hp;refine⟨fun hr=>?_,fun i hi=>?_⟩
  ·refine done listed a w ?_ hC hs hd hk hp
   -- the least that isn't listed would be ready
   have key:∀ r i,rk i<r->i<ops.size->listed.getD i false=true:=by
    intro r
    induction r with
    | zero=>intro i h;omega
    | succ r ihr =>
     intro i hri hi;cases h:listed.getD i false with
     | true=>rfl
     | false =>
      have ho:ops[i]?=some ops[i]:=Array.getElem?_eq_getElem hi;have:i∈Region.ready .any ops listed:=mem_ready.2 ⟨by simpa[show i<listed.size by omega]using h,ops[i],ho,fun e he hb=>by
       have hl:=hlex;unfold rankB at hl;rw[List.all_eq_true]at hl;have:=hl i (by simpa using hi);rw[ho]at this;simp only[Array.all_eq_true_iff_forall_mem]at this;have hlt:=this e he;rw[hb]at hlt;simp at hlt;exact ihr e.on (by omega) (hon i _ ho e he)⟩
      rw[hr]at this;cases this
   exact fun i hi=>key (rk i+1) i (by omega) hi
  ·obtain⟨h0,o,ho,hall⟩:=mem_ready.1 hi
   have hlt:i<ops.size:=(Array.getElem?_eq_some_iff.1 ho).1;have hl':ops.toList[i]?=some o:=by simpa using ho
   have hKn:KnownV ops φ a0 i o a w:=⟨fun t ht=>hk t (fun j oj hoj hdj=>by
    have hdep:=later_spec ht j oj hoj hdj;cases hl:listed.getD j false with
    | false=>rfl
    | true =>
     have:=dep_listed (fun j o h1 h2=>(hp j o h1 h2).2) _ _ _ hdep hl;rw[getD_both h0]at this;cases this),fun e he hb oj hj=>(hp e.on oj (by have:=hall e he hb;simpa using this) hj).1⟩
   have h8:listed.getD i false=false:=getD_both h0;have hst2:=hst.at_ i o hl';rw[Nat.zero_add]at hst2;have hpick:Region.wanted o (yielded ops a.tmps)=true/\StepT P ops Q (fun w'=>((listed.setIfInBounds i true).getD st false=false->C w')/\((listed.setIfInBounds i true).getD st false=true->D w')) φ R i o a w:=by
    by_cases e:i=st
    ·have hc1:=hC.1 (by rw[<- e];exact h8)
     obtain⟨hw,h1⟩:=hst2.1 a w hc1 hs hKn;refine⟨hw,stepT_mono (fun w' h=>⟨fun h9=>?_,fun _=>?_⟩) h1⟩
     ·rw[e,getD_set_same (by omega)]at h9;cases h9
     ·unfold pst at h
      rw[show Nat.beq i st=true from by rw[e];exact Nat.beq_refl st]at h;exact h
    ·have hne:Nat.beq i st=false:=by
      cases hb:Nat.beq i st with
      | false=>rfl
      | true=>exact absurd (Nat.eq_of_beq_eq_true hb) e
     cases hll:listed.getD st false with
     | false =>
      obtain⟨hw,h1⟩:=hst2.1 a w (hC.1 hll) hs hKn;refine⟨hw,stepT_mono (fun w' h=>⟨fun _=>?_,fun h9=>?_⟩) h1⟩
      ·unfold pst at h;rw[hne]at h;exact h
      ·rw[getD_set_ne false e,hll]at h9;cases h9
     | true =>
      rcases hst2.2 with h2 | h2 | h2
      ·have:=dep_listed (fun j o h1 h2=>(hp j o h1 h2).2) _ _ _ h2 hll
       rw[h8]at this;cases this
      ·exact absurd h2 e
      ·obtain⟨hw,h1⟩:=h2 a w (hC.2 hll) hs hKn
       refine⟨hw,stepT_mono (fun w' h=>⟨fun h9=>?_,fun _=>h⟩) h1⟩;rw[getD_set_ne false e,hll]at h9;cases h9
   obtain⟨hwant,hstep⟩:=hpick;have go:∀(v:Value) (w':World),(((listed.setIfInBounds i true).getD st false=false->C w')/\((listed.setIfInBounds i true).getD st false=true->D w'))->φ i (slots (a.put o.dst v)) w'->(∀ j u,φ j u w->φ j u w')->wpAny P .any ops Q fuel (listed.setIfInBounds i true) (a.put o.dst v) w':=by
    intro v w' hC' hv hm;refine ih _ _ _ (by simpa using hsz) ?_ hC' (by rw[put_size];exact hs) (by rw[put_defers];exact hd) ?_ ?_
    ·have hil:i<listed.size:=by omega
     have e0:listed[i]=false:=by simpa[hil]using h0
     rw[Array.toList_setIfInBounds,List.count_set (by simpa using hil)];have:listed.toList[i]'(by simpa using hil)=false:=by simpa using e0
     simp only[this];simp;have hpos:0<listed.toList.count false:=List.count_pos_iff.2 (by rw[<- e0];simp);simp at hpos;simp at hc;omega
    ·intro t ht
     have hne:o.dst≠some t:=fun e=>by
      have h1:=ht i o ho e;rw[getD_set_same (by omega)]at h1;cases h1
     rw[put_other _ _ _ _ hne];refine hk t (fun j oj hoj hdj=>?_);have h1:=ht j oj hoj hdj;by_cases q:i=j
     ·subst q;rw[getD_set_same (by omega)]at h1;cases h1
     ·rwa [getD_set_ne false q]at h1
    ·intro j oj hj hoj
     by_cases e:i=j
     ·subst e
      have:oj=o:=Option.some.inj (hoj.symm.trans ho);subst this;refine⟨hv,fun e he hb=>?_⟩;have h1:=hall e he hb;by_cases q:i=e.on
      ·rw[<- q];exact getD_set_same (by omega)
      ·rw[getD_set_ne false q];simpa using h1
     ·rw[getD_set_ne false e]at hj
      obtain⟨h1,h2⟩:=hp j oj hj hoj;refine⟨hm _ _ (hrd j _ _ w (fun t ht=>?_) h1),fun e' he hb=>?_⟩
      ·have hne:o.dst≠some t:=fun hd'=>by
        rcases own_spec hown hoj ht with h3 | h3 | ⟨e',he,hb,ok,hok,hkd⟩
        ·exact distinct_spec hdist i j o oj t hl' (by simpa using hoj) e hd' h3
        ·simp only[isDst,List.any_eq_false]at h3
         exact h3 o (List.mem_of_getElem? hl') (by simp[hd'])
        ·have h4:=h2 e' he hb
         have h5:i≠e'.on:=fun q=>by rw[<- q,getD_both h0]at h4;cases h4
         exact distinct_spec hdist i e'.on o ok t hl' (by simpa using hok) h5 hd' hkd
       exact(put_other _ _ _ _ hne).symm
      ·by_cases q:i=e'.on
       ·rw[<- q];exact getD_set_same (by omega)
       ·rw[getD_set_ne false q];exact h2 e' he hb
   unfold wpOp;rw[ho];simp only;unfold StepT at hstep
   split
   ·rename_i hw
    rw[if_pos hw]at hstep;refine .inl (Oper.wp_mono ?_ hstep);rintro a' w' ⟨v,rfl,hC',hv,hR⟩;exact go v w' hC' hv (fun j u h=>hφ j u w w' hR h)
   ·rename_i hw
    exact absurd hwant hw
theorem region_tieS{id:Nat}{l:List Oper}{w:World}(C D:World->Prop)(st:Nat)(φ:Nat->(Nat->Value)->World->Prop)(R:World->World->Prop)(rd:Nat->List Nat)(rk:Nat->Nat)(hm:P.follows .mixedOrders=true)
  (hB:(distinctB l&&rankB l.toArray rk&&ownB l.toArray rd&&insideB l.toArray)=true) (hst0:decide (st<l.length)=true) (hC:C w.drew)
  (hrd:∀ i s s' w,(∀ t∈rd i,s t=s' t)->φ i s w->φ i s' w) (hφ:∀ i v w w',R w w'->φ i v w->φ i v w') (hst:StepsTS P l.toArray Q C D st φ R a0 0 l)
  (hQ:∀(f:Oper->Value) w,D w->(∀ i o,l[i]?=some o->φ i (slots (putAll f l a0)) w)->Q .normal (putAll f l a0) w):(Code.region id l.toArray true).wp P Q a0 w:=by
 simp only[Bool.and_eq_true]at hB;refine wp_region_any hm (wpAny_tieS (C:=C) (D:=D) st (by simpa using hst0) (φ:=φ) (R:=R) (a0:=a0) rd rk hB.1.1.1 hB.1.1.2 (inside_spec hB.2) hB.1.2 hrd hφ hst (fun f w hC h=>hQ f w hC (fun i o ho=>h i o (by simpa using ho))) _ _ _ w.drew (by simp) (by simp) ⟨fun _=>hC,fun h=>?_⟩ rfl rfl (fun _ _=>rfl) ?_)
 ·have h0:=of_decide_eq_true hst0
  simp[h0]at h
 intro i o hi;simp at hi;rcases Nat.lt_or_ge i l.length with h | h
 ·simp[h]at hi
 ·simp[Nat.not_lt.2 h]at hi
end
open Go
section
variable {P:Program} {ops:Array Oper} {md:Region.Mode} {C:World->Prop}
def anyHead(P:Program)(md:Region.Mode)(ops:Array Oper)(C:World->Prop)(n:Nat)(L:Array Bool->Act->Prop):Nat->Array Bool->Act->Prop
 | 0,listed,a=>L listed a
 | f+1,listed,a=>Region.ready md ops listed≠[]/\∀ i∈Region.ready md ops listed,i<n/\qOp P ops C i (anyHead P md ops C n L f (listed.setIfInBounds i true)) a
theorem any_of_head{n g:Nat}{L:Array Bool->Act->Prop}{Q':Exit->Act->World->Prop}(hL:∀ listed a w,C w->L listed a->wpAny P md ops Q' g listed a w) :
  ∀(f:Nat) (listed:Array Bool) (a:Act) (w:World),C w->anyHead P md ops C n L f listed a->wpAny P md ops Q' (f+g) listed a w
 | 0,listed,a,w,hw,h=>by rw[Nat.zero_add];exact hL _ _ _ hw h
 | f+1,listed,a,w,hw,h=>by
  rw[show f+1+g=(f+g)+1 by omega];exact⟨fun h0=>absurd h0 h.1,fun i hi=>wpOp_of_qOp hw (fun a' w' hw' h'=>any_of_head hL f _ a' w' hw' h') (h.2 i hi).2⟩
theorem head_first{n i:Nat}{oi:Oper}{v:Value}{L:Array Bool->Act->Prop}(hi:ops[i]?=some oi)(hsel:∀(j:Nat) (o:Oper) cs b,ops[j]?=some o->o.op≠.select cs b)
  (hs:Region.sinkB md ops n=true) (hc:Region.chainB md ops n=true) (hn:n<ops.size) (hin:i<n)
  (hdone:∀ listed a,L listed a->∀ j∈Region.ready md ops listed,n<=j) :
  ∀(f:Nat) (listed:Array Bool) (a:Act),HeadInv md ops n listed ->
   (∀ j oj,ops[j]?=some oj->j≠i->listed.getD j true=false->(∀ e∈oj.after,Region.binds md e=true->e.on≠i)->oi.apart ops oj=true) ->
   i∈Region.ready md ops listed->YieldsIn P ops C oi v a ->
   anyHead P md ops C n L f (listed.setIfInBounds i true) (a.put oi.dst v)->anyHead P md ops C n L (f+1) listed a:=by
 intro f
 induction f with
 | zero =>
  intro listed a inv _ hr hy H;have hun:=(mem_ready.1 hr).1;refine⟨fun h=>(by rw[h]at hr;cases hr),fun j hj=>?_⟩;have hjn:j<n:=by
   rcases Nat.lt_or_ge j n with h | h
   ·exact h
   ·exact absurd hj (tail_waits hs hc hn inv _ i rfl hin hun j h)
  refine⟨hjn,?_⟩;by_cases hji:j=i
  ·subst hji;exact hy.qOp hi H
  ·have:=hdone _ _ H j (ready_mono hj hji)
   omega
 | succ f ih =>
  intro listed a inv hfree hr hy H;have hun:=(mem_ready.1 hr).1;refine⟨fun h=>(by rw[h]at hr;cases hr),fun j hj=>?_⟩;have hjn:j<n:=by
   rcases Nat.lt_or_ge j n with h | h
   ·exact h
   ·exact absurd hj (tail_waits hs hc hn inv _ i rfl hin hun j h)
  refine⟨hjn,?_⟩;by_cases hji:j=i
  ·subst hji;exact hy.qOp hi H
  ·have h1:=(H.2 j (ready_mono hj hji)).2
   obtain⟨hjun,oj,hoj,hall⟩:=mem_ready.1 hj;have hnot:∀ e∈oj.after,Region.binds md e=true->e.on≠i:=fun e he hb heq=>by
    have h1:=hall e he hb;rw[heq,getD_both hun]at h1;cases h1
   have h2:=qOp_put hoj (hfree j oj hoj hji hjun hnot) (fun cs b=>hsel i oi cs b hi) (fun cs b=>hsel j oj cs b hoj) hy h1;have hfree':∀ k ok,ops[k]?=some ok->k≠i->(listed.setIfInBounds j true).getD k true=false ->
     (∀ e∈ok.after,Region.binds md e=true->e.on≠i)->oi.apart ops ok=true:=fun k ok hk hki hun hno=>by
    refine hfree k ok hk hki ?_ hno;by_cases hjk:j=k
    ·subst hjk;exact hjun
    ·rw[getD_set_ne true hjk]at hun;exact hun
   refine qOp_mono (fun a' h3=>ih (listed.setIfInBounds j true) a' (inv.set hj hjn) hfree' (ready_mono hr (Ne.symm hji)) h3.1 ?_) h2;rw[Array.setIfInBounds_comm _ _ hji];exact h3.2
theorem head_lex{n g:Nat}{Lq:Act->Prop}(hsel:Region.noSelect ops=true)(hs:Region.sinkB md ops n=true)(hc:Region.chainB md ops n=true)(hn:n<ops.size) :
  ∀(l:List Oper) (k:Nat) (listed:Array Bool) (a:Act),(∀ j,j<l.length->l[j]?=ops[k+j]?)->k+l.length=n->HeadInv md ops n listed ->
  Region.lexHead md ops g l.length k listed=true->wpQuiet P ops C Lq l a ->
  anyHead P md ops C n (fun listed' a'=>Region.seqB md ops g n listed'=true/\Lq a') l.length listed a
 | [],k,listed,a,_,hk,_,hB,h=>by
  have:k=n:=by simpa using hk
  subst this;exact⟨by simpa[Region.lexHead]using hB,h⟩
 | o::l,k,listed,a,hl,hk,inv,hB,h=>by
  have h0:ops[k]?=some o:=by simpa using(hl 0 (by simp)).symm
  simp only[List.length_cons,Region.lexHead,Bool.and_eq_true]at hB;obtain⟨⟨hr,hf⟩,hB'⟩:=hB;have hkn:k<n:=by simp only[List.length_cons]at hk;omega
  have hr':k∈Region.ready md ops listed:=by simpa using hr
  have hst:qOp P ops C k (wpQuiet P ops C Lq l) a:=by unfold qOp;simp only[h0];exact h
  obtain⟨v,hy,hK⟩:=yieldsIn_of_qOp h0 hst;exact head_first h0 (Region.noSelect_spec hsel) hs hc hn hkn (fun listed' a' hL=>seqB_ready hL.1) l.length listed a inv (Region.free_spec h0 hf) hr' hy
   (head_lex hsel hs hc hn l (k+1) _ _ (fun j hj=>by have:=hl (j+1) (by simp;omega);simpa[Nat.add_assoc,Nat.add_comm 1 j]using this) (by simp only[List.length_cons]at hk;omega) (inv.set hr' hkn) hB' hK)
theorem region_quiet_tail{id:Nat}{Q:Exit->Act->World->Prop}{a:Act}{w:World}{l:List Oper}(n:Nat)(C:World->Prop)(hm:P.follows .mixedOrders=true)(hB:Region.lexTailB .any l.toArray n=true)(hC:C w.drew)
  (h:wpQuiet P l.toArray C (fun a'=>∀ w',C w'->wpList P l.toArray Q (l.drop n) a' w') (l.take n) a):(Code.region id l.toArray true).wp P Q a w:=by
 simp only[Region.lexTailB,Bool.and_eq_true,decide_eq_true_eq]at hB;obtain⟨⟨⟨⟨hsel,hn⟩,hs⟩,hc⟩,hlex⟩:=hB;have hn':n<l.length:=by simpa using hn
 have htl:(l.take n).length=n:=by simp;omega
 have hdl:(l.drop n).length=l.toArray.size - n:=by simp
 have inv0:HeadInv .any l.toArray n (Array.replicate l.toArray.size false) :=
  ⟨by simp,fun j oj _ hl=>(by rw[getD_replicate_false]at hl;cases hl),fun t _ ht=>getD_in (by simpa using ht) (getD_replicate_false _ _)⟩
 have H:=head_lex (md:=.any) (g:=l.toArray.size - n) hsel hs hc hn (l.take n) 0 _ a (fun j hj=>by
  have hj':j<n:=by rw[htl]at hj;exact hj
  simp[hj']) (by simpa using htl) inv0 (by rw[htl];exact hlex) h
 refine wp_region_any hm ?_;have:=any_of_head (Q':=Q) (g:=l.toArray.size - n) (fun listed a' w' hw' hL=>by
  have:=wpAny_of_seq (md:=.any) (Q':=Q) (l.drop n) n listed a' w' (fun j=>by simp[List.getElem?_drop]) (by rw[hdl];exact hL.1) (hL.2 w' hw');rwa [hdl]at this) _ _ _ w.drew hC H
 rw[htl,show n+(l.toArray.size - n)=l.toArray.size by omega]at this;exact this
end
open Go.RowKit
section
variable {P:Program} {ops:Array Oper} {C:World->Prop} {Q:Act->Prop} {a:Act} {o:Oper} {rest:List Oper}
theorem q_skip(hw:Region.wanted o (yielded ops a.tmps)=false)(h:wpQuiet P ops C Q rest (a.put o.dst undef)):wpQuiet P ops C Q (o::rest) a :=
 wpQuiet_step fun K hK=>by rw[if_neg (by rw[hw];exact Bool.false_ne_true)];exact hK _ h
theorem q_step(v:Value)(hw:Region.wanted o (yielded ops a.tmps)=true)(hv:∀ w,C w->o.quietAt P a C w v)(h:wpQuiet P ops C Q rest (a.put o.dst v)):wpQuiet P ops C Q (o::rest) a :=
 wpQuiet_step fun K hK=>by rw[if_pos hw];exact⟨v,hv,hK _ h⟩
theorem q_val(v:Value)(hw:Region.wanted o (yielded ops a.tmps)=true)(hv:∀ w,C w->(execOp a.eval o).run P w=.ok (.value v) w)(h:wpQuiet P ops C Q rest (a.put o.dst v)):wpQuiet P ops C Q (o::rest) a :=
 q_step v hw (fun w hC=>by unfold Oper.quietAt;rw[hv w hC];exact⟨rfl,rfl⟩) h
theorem q_load(T:TypeId)(x:Operand)(p v:Value)(ho:o.op=.load T x)(hw:Region.wanted o (yielded ops a.tmps)=true)(hp:a.eval x=p)
  (hv:∀ w,C w->(Instr.loadAt T p).run P w=.ok v w) (h:wpQuiet P ops C Q rest (a.put o.dst v)):wpQuiet P ops C Q (o::rest) a :=
 q_val v hw (fun w hC=>by
  unfold execOp;rw[ho];simp only[hp,Sem.run_bind,hv w hC,Result.andThen_ok,Sem.run_pure]) h
theorem q_call(f:FuncId)(args:Array Value)(v:Value)(hw:Region.wanted o (yielded ops a.tmps)=true)(he:∀ w,(execOp a.eval o).run P w=.ok (.enter f args) w)
  (hv:∀ w,C w->Calls P f args w fun e w'=>e=.returned v/\C w') (h:wpQuiet P ops C Q rest (a.put o.dst v)):wpQuiet P ops C Q (o::rest) a :=
 q_step v hw (fun w hC=>by unfold Oper.quietAt;rw[he w];exact⟨rfl,hv w hC⟩) h
theorem q_bin(op:BinOp)(T:TypeId)(x y:Operand)(t:TypeId)(u v r:Value)(ho:o.op=.binOp op T x y t)(hw:Region.wanted o (yielded ops a.tmps)=true)(hx:a.eval x=u)(hy:a.eval y=v)
  (hg:∀ w,(eqGuard op T x y u v).run P w=.ok () w) (hb:∀ w,(binOp op T u v).run P w=.ok r w) (h:wpQuiet P ops C Q rest (a.put o.dst r)):wpQuiet P ops C Q (o::rest) a :=
 q_val r hw (fun w hC=>by
  unfold execOp;rw[ho];simp only[hx,hy,Sem.run_bind,hg w,hb w,Result.andThen_ok,Sem.run_pure]) h
end
end Go.Proofs.Ytcmgphkjchicbaa
namespace Go.Proofs
open Go.Shelf
def Try.lays134_ren:Go.Shelf.Ren:=⟨fun | 134=>96 | 129=>84 | n=>n,fun | 53=>22 | 3=>3 | 4=>4 | 46=>82 | 5=>5 | 9=>9 | n=>n,fun | n=>n⟩
theorem Try.lays134:Go.Proofs.Lays.n134 Try.prog Try.lays134_ren:={
 mixed:=by kernel_rfl
 f129:=Try.func84.trans (congrArg some (by kernel_rfl))
 f134:=Try.func96.trans (congrArg some (by kernel_rfl))
 t3:=Try.underlying3
 a3:=Try.isAgg3
 z3:=Try.sizeOf3
 v3:=Try.zeroValue3
 t4:=Try.underlying4
 a4:=Try.isAgg4
 z4:=Try.sizeOf4
 v4:=Try.zeroValue4
 t5:=Try.underlying5
 a5:=Try.isAgg5
 z5:=Try.sizeOf5
 v5:=Try.zeroValue5
 t9:=Try.underlying9
 a9:=Try.isAgg9
 z9:=Try.sizeOf9
 v9:=Try.zeroValue9
 t46:=Try.underlying82
 a46:=Try.isAgg82
 z46:=Try.sizeOf82
 v46:=Try.zeroValue82
 t53:=Try.underlying22
 a53:=Try.isAgg22
 z53:=Try.sizeOf22
 v53:=Try.zeroValue22 }
theorem Try.bits_LeadingZeros64(x:Int)(w:World)(h0:0<=x)(h1:x<=18446744073709551615) :
  Calls Try.prog 96 #[.int .u64 x] w fun e w'=>e=.returned (.int .i64 (64 - (Lib.bitLen x.toNat:Int)))/\w'=w:=Any.bits_LeadingZeros64 Try.lays134 x w h0 h1
def Try.lays129_ren:Go.Shelf.Ren:=⟨fun | 129=>84 | n=>n,fun | 53=>22 | 3=>3 | 4=>4 | 46=>82 | 5=>5 | 9=>9 | n=>n,fun | n=>n⟩
theorem Try.lays129:Go.Proofs.Lays.n129 Try.prog Try.lays129_ren:={
 mixed:=by kernel_rfl
 f129:=Try.func84.trans (congrArg some (by kernel_rfl))
 t3:=Try.underlying3
 a3:=Try.isAgg3
 z3:=Try.sizeOf3
 v3:=Try.zeroValue3
 t4:=Try.underlying4
 a4:=Try.isAgg4
 z4:=Try.sizeOf4
 v4:=Try.zeroValue4
 t5:=Try.underlying5
 a5:=Try.isAgg5
 z5:=Try.sizeOf5
 v5:=Try.zeroValue5
 t9:=Try.underlying9
 a9:=Try.isAgg9
 z9:=Try.sizeOf9
 v9:=Try.zeroValue9
 t46:=Try.underlying82
 a46:=Try.isAgg82
 z46:=Try.sizeOf82
 v46:=Try.zeroValue82
 t53:=Try.underlying22
 a53:=Try.isAgg22
 z53:=Try.sizeOf22
 v53:=Try.zeroValue22 }
theorem Try.bits_Len64(x:Int)(w:World)(h0:0<=x)(h1:x<=18446744073709551615) :
  Calls Try.prog 84 #[.int .u64 x] w fun e w'=>e=.returned (.int .i64 (Lib.bitLen x.toNat))/\w'=w:=Any.bits_Len64 Try.lays129 x w h0 h1
def Try.lays264_ren:Go.Shelf.Ren:=⟨fun | 264=>111 | n=>n,fun | 53=>22 | 46=>82 | n=>n,fun | n=>n⟩
theorem Try.lays264:Go.Proofs.Lays.n264 Try.prog Try.lays264_ren:={
 mixed:=by kernel_rfl
 f264:=Try.func111.trans (congrArg some (by kernel_rfl))
 t46:=Try.underlying82
 a46:=Try.isAgg82
 z46:=Try.sizeOf82
 v46:=Try.zeroValue82
 t53:=Try.underlying22
 a53:=Try.isAgg22
 z53:=Try.sizeOf22
 v53:=Try.zeroValue22 }
open Go.RowKit Go.Lib in
theorem Try.bits_Mul64(x y:Nat)(hx:x<18446744073709551616)(hy:y<18446744073709551616)(w:World) :
  Calls Try.prog 111 #[.int .u64 x,.int .u64 y] w fun e w'=>e=.returned (.tuple #[.int .u64 ((x*y / 18446744073709551616:Nat):Int),.int .u64 ((x*y%18446744073709551616:Nat):Int)])/\w'=w:=Any.bits_Mul64 Try.lays264 x y hx hy w
end Go.Proofs
namespace Go.Proofs.Ytcmgphkjchicbaa
open Go.RowKit
def wv(x:Nat):Value:=.agg #[.int .u64 ((x%18446744073709551616:Nat):Int),.int .u64 ((x / 18446744073709551616%18446744073709551616:Nat):Int),.int .u64 ((x / 340282366920938463463374607431768211456%18446744073709551616:Nat):Int),.int .u64 ((x / 6277101735386680763835789423207666416102355444464034512896%18446744073709551616:Nat):Int)]
def n4(a0 a1 a2 a3:Nat):Nat:=a0+18446744073709551616*a1+340282366920938463463374607431768211456*a2+6277101735386680763835789423207666416102355444464034512896*a3
theorem wv_n4{a0 a1 a2 a3:Nat}(h0:a0<18446744073709551616)(h1:a1<18446744073709551616)(h2:a2<18446744073709551616)(h3:a3<18446744073709551616) :
  wv (n4 a0 a1 a2 a3)=.agg #[.int .u64 a0,.int .u64 a1,.int .u64 a2,.int .u64 a3]:=by
 unfold wv n4;have e0:(a0+18446744073709551616*a1+340282366920938463463374607431768211456*a2+6277101735386680763835789423207666416102355444464034512896*a3)%18446744073709551616=a0:=by omega
 have e1:(a0+18446744073709551616*a1+340282366920938463463374607431768211456*a2+6277101735386680763835789423207666416102355444464034512896*a3) / 18446744073709551616%18446744073709551616=a1:=by omega
 have e2:(a0+18446744073709551616*a1+340282366920938463463374607431768211456*a2+6277101735386680763835789423207666416102355444464034512896*a3) / 340282366920938463463374607431768211456%18446744073709551616=a2:=by omega
 have e3:(a0+18446744073709551616*a1+340282366920938463463374607431768211456*a2+6277101735386680763835789423207666416102355444464034512896*a3) / 6277101735386680763835789423207666416102355444464034512896%18446744073709551616=a3:=by omega
 rw[e0,e1,e2,e3]
theorem wv_parts(x:Nat):∃ a0 a1 a2 a3:Nat,a0<18446744073709551616/\a1<18446744073709551616/\a2<18446744073709551616/\a3<18446744073709551616 /\
  wv x=.agg #[.int .u64 a0,.int .u64 a1,.int .u64 a2,.int .u64 a3]/\n4 a0 a1 a2 a3=x%2^256 :=
 ⟨_,_,_,_,by omega,by omega,by omega,by omega,rfl,by unfold n4;omega⟩
theorem wv_congr{x y:Nat}(h:x%2^256=y%2^256):wv x=wv y:=by
 unfold wv;have e0:x%18446744073709551616=y%18446744073709551616:=by omega
 have e1:x / 18446744073709551616%18446744073709551616=y / 18446744073709551616%18446744073709551616:=by omega
 have e2:x / 340282366920938463463374607431768211456%18446744073709551616=y / 340282366920938463463374607431768211456%18446744073709551616:=by omega
 have e3:x / 6277101735386680763835789423207666416102355444464034512896%18446744073709551616=y / 6277101735386680763835789423207666416102355444464034512896%18446744073709551616:=by omega
 rw[e0,e1,e2,e3]
theorem n4_lt{a0 a1 a2 a3:Nat}(h0:a0<18446744073709551616)(h1:a1<18446744073709551616)(h2:a2<18446744073709551616)(h3:a3<18446744073709551616) :
  n4 a0 a1 a2 a3<2^256:=by unfold n4;omega
theorem after4{w W w1:World}{B:Nat}(b:Nat)(hb:Below W.heap.size W w1)(h0:Below B w W)(hB0:B<=W.heap.size)(hB:b<W.heap.size)
  (c0:W.cell? ⟨b,0,none⟩=some (.int .u64 0)) (c1:W.cell? ⟨b,1,none⟩=some (.int .u64 0)) (c2:W.cell? ⟨b,2,none⟩=some (.int .u64 0)) (c3:W.cell? ⟨b,3,none⟩=some (.int .u64 0))
  (f0:W.frozen? ⟨b,0,none⟩=false) (f1:W.frozen? ⟨b,1,none⟩=false) (f2:W.frozen? ⟨b,2,none⟩=false) (f3:W.frozen? ⟨b,3,none⟩=false) :
  (w1.cell? ⟨b,0,none⟩=some (.int .u64 0)/\w1.cell? ⟨b,1,none⟩=some (.int .u64 0)/\w1.cell? ⟨b,2,none⟩=some (.int .u64 0)/\w1.cell? ⟨b,3,none⟩=some (.int .u64 0)) /\
  (w1.frozen? ⟨b,0,none⟩=false/\w1.frozen? ⟨b,1,none⟩=false/\w1.frozen? ⟨b,2,none⟩=false/\w1.frozen? ⟨b,3,none⟩=false)/\b<w1.heap.size/\Below B w w1 :=
 ⟨⟨(hb.cell hB).trans c0,(hb.cell hB).trans c1,(hb.cell hB).trans c2,(hb.cell hB).trans c3⟩,⟨(hb.frozen hB).trans f0,(hb.frozen hB).trans f1,(hb.frozen hB).trans f2,(hb.frozen hB).trans f3⟩,Nat.lt_of_lt_of_le hB hb.size,h0.trans (hb.mono hB0)⟩
theorem after1{W w1:World}{b i:Nat}{v:Value}(hb:Below W.heap.size W w1)(hB:b<W.heap.size)(c0:W.cell? ⟨b,i,none⟩=some v)(f0:W.frozen? ⟨b,i,none⟩=false) :
  w1.cell? ⟨b,i,none⟩=some v/\w1.frozen? ⟨b,i,none⟩=false/\b<w1.heap.size :=
 ⟨(hb.cell hB).trans c0,(hb.frozen hB).trans f0,Nat.lt_of_lt_of_le hB hb.size⟩
open Go.RowKit
def sub64E:Array Value->Sem Value:=fun args=>do
 let (x, y, b) ← Extern.MathBitsCarry.three "Sub64" args
 pure (Extern.MathBitsCarry.pair ((x+Extern.MathBitsCarry.m64 - y - b)%Extern.MathBitsCarry.m64) (if x<y+b then 1 else 0))
theorem run_sub64E(x y b:Nat)(hb:b<=1)(w:World) :
  (sub64E #[.int .u64 x,.int .u64 y,.int .u64 b]).run Try.prog w =
   .ok (.tuple #[.int .u64 (((x+18446744073709551616 - y - b)%18446744073709551616:Nat):Int),.int .u64 ((if x<y+b then 1 else 0:Nat):Int)]) w:=by
 have:b=0\/b=1:=by omega
 rcases this with rfl | rfl <;> rfl
theorem add64_run(x y c:Nat)(hc:c<=1)(w:World) :
  (callFunc 80 #[.int .u64 x,.int .u64 y,.int .u64 c]).run Try.prog w =
   .ok (.value (.tuple #[.int .u64 (((x+y+c)%18446744073709551616:Nat):Int),.int .u64 (((x+y+c) / 18446744073709551616:Nat):Int)])) w:=by
 rw[run_callFunc_extern Try.func80 (by kernel_rfl) (by kernel_rfl) (by kernel_rfl) (e:=add64Entry) (by kernel_rfl),run_add64 x y c (by omega) (by omega) (by omega) (by omega)];simp only[Result.andThen];congr 5 <;> omega
theorem sub64_run(x y b:Nat)(hb:b<=1)(w:World) :
  (callFunc 81 #[.int .u64 x,.int .u64 y,.int .u64 b]).run Try.prog w =
   .ok (.value (.tuple #[.int .u64 (((x+18446744073709551616 - y - b)%18446744073709551616:Nat):Int),.int .u64 ((if x<y+b then 1 else 0:Nat):Int)])) w:=by
 rw[run_callFunc_extern Try.func81 (by kernel_rfl) (by kernel_rfl) (by kernel_rfl) (e:=sub64E) (by kernel_rfl),run_sub64E x y b hb];rfl
theorem add64_ex(x y c:Nat)(hx:x<18446744073709551616)(hy:y<18446744073709551616)(hc:c<=1) :
  ∃ s d:Nat,d<=1/\s<18446744073709551616/\s+18446744073709551616*d=x+y+c /\
  ∀ w,(callFunc 80 #[.int .u64 x,.int .u64 y,.int .u64 c]).run Try.prog w=.ok (.value (.tuple #[.int .u64 s,.int .u64 d])) w :=
 ⟨_,_,by omega,by omega,by omega,fun w=>add64_run x y c hc w⟩
theorem add64_ex0(x y:Nat)(hx:x<18446744073709551616)(hy:y<18446744073709551616) :
  ∃ s d:Nat,d<=1/\s<18446744073709551616/\s+18446744073709551616*d=x+y /\
  ∀ w,(callFunc 80 #[.int .u64 x,.int .u64 y,.int .u64 0]).run Try.prog w=.ok (.value (.tuple #[.int .u64 s,.int .u64 d])) w :=
 add64_ex x y 0 hx hy (by omega)
theorem sub64_ex(x y b:Nat)(hx:x<18446744073709551616)(hy:y<18446744073709551616)(hb:b<=1) :
  ∃ s d:Nat,d<=1/\s<18446744073709551616/\s+y+b=x+18446744073709551616*d /\
  ∀ w,(callFunc 81 #[.int .u64 x,.int .u64 y,.int .u64 b]).run Try.prog w=.ok (.value (.tuple #[.int .u64 s,.int .u64 d])) w:=by
 refine⟨_,_,?_,?_,?_,fun w=>sub64_run x y b hb w⟩
 ·split <;> omega
 ·omega
 ·split <;> omega
theorem sub64_ex0(x y:Nat)(hx:x<18446744073709551616)(hy:y<18446744073709551616) :
  ∃ s d:Nat,d<=1/\s<18446744073709551616/\s+y=x+18446744073709551616*d /\
  ∀ w,(callFunc 81 #[.int .u64 x,.int .u64 y,.int .u64 0]).run Try.prog w=.ok (.value (.tuple #[.int .u64 s,.int .u64 d])) w :=
 sub64_ex x y 0 hx hy (by omega)
theorem addCarry_walk(a0 a1 a2 a3 b0 b1 b2 b3 s0 c1 s1 c2 s2 c3 s3 c4:Nat)(w:World)
 (h0:∀ w,(callFunc 80 #[.int .u64 a0,.int .u64 b0,.int .u64 0]).run Try.prog w=.ok (.value (.tuple #[.int .u64 s0,.int .u64 c1])) w)
 (h1:∀ w,(callFunc 80 #[.int .u64 a1,.int .u64 b1,.int .u64 c1]).run Try.prog w=.ok (.value (.tuple #[.int .u64 s1,.int .u64 c2])) w)
 (h2:∀ w,(callFunc 80 #[.int .u64 a2,.int .u64 b2,.int .u64 c2]).run Try.prog w=.ok (.value (.tuple #[.int .u64 s2,.int .u64 c3])) w)
 (h3:∀ w,(callFunc 80 #[.int .u64 a3,.int .u64 b3,.int .u64 c3]).run Try.prog w=.ok (.value (.tuple #[.int .u64 s3,.int .u64 c4])) w) :
  Calls Try.prog 78 #[.agg #[.int .u64 a0,.int .u64 a1,.int .u64 a2,.int .u64 a3],.agg #[.int .u64 b0,.int .u64 b1,.int .u64 b2,.int .u64 b3]] w fun e w' =>
   e=.returned (.tuple #[.agg #[.int .u64 s0,.int .u64 s1,.int .u64 s2,.int .u64 s3],.int .u64 c4])/\Below w.heap.size w w':=by
 go_enter Try.func78,Try.ntmps78;go_wp2;refine wp_loop_rounds 5 ?_
 iterate 4 (rw[rounds_succ];go_wp2;go_region;go_wp2)
 rw[rounds_succ];go_wp2
 go_returns
 exact⟨rfl,by go_grown⟩
theorem addCarry_any(x y:Nat)(w:World) :
  Calls Try.prog 78 #[wv x,wv y] w fun e w' =>
   e=.returned (.tuple #[wv (x+y),.int .u64 (((x%2^256+y%2^256) / 2^256:Nat):Int)])/\Below w.heap.size w w':=by
 obtain⟨a0,a1,a2,a3,u0,u1,u2,u3,ea,na⟩:=wv_parts x;obtain⟨b0,b1,b2,b3,v0,v1,v2,v3,eb,nb⟩:=wv_parts y;obtain⟨s0,c1,k1,l0,e0,h0⟩:=add64_ex0 a0 b0 u0 v0;obtain⟨s1,c2,k2,l1,e1,h1⟩:=add64_ex a1 b1 c1 u1 v1 k1;obtain⟨s2,c3,k3,l2,e2,h2⟩:=add64_ex a2 b2 c2 u2 v2 k2;obtain⟨s3,c4,k4,l3,e3,h3⟩:=add64_ex a3 b3 c3 u3 v3 k3;have hs:n4 s0 s1 s2 s3+2^256*c4=x%2^256+y%2^256:=by rw[<- na,<- nb];unfold n4;omega
 have hl:=n4_lt l0 l1 l2 l3;rw[ea,eb];refine(addCarry_walk a0 a1 a2 a3 b0 b1 b2 b3 s0 c1 s1 c2 s2 c3 s3 c4 w h0 h1 h2 h3).mono fun e w' ⟨he,hb⟩=>⟨?_,hb⟩
 rw[he,<- hs,<- wv_n4 l0 l1 l2 l3];rw[wv_congr (x:=n4 s0 s1 s2 s3) (y:=x+y) (by omega)];rw[show(n4 s0 s1 s2 s3+2^256*c4) / 2^256=c4 by omega]
theorem sub_walk(a0 a1 a2 a3 b0 b1 b2 b3 s0 c1 s1 c2 s2 c3 s3 c4:Nat)(w:World)
 (h0:∀ w,(callFunc 81 #[.int .u64 a0,.int .u64 b0,.int .u64 0]).run Try.prog w=.ok (.value (.tuple #[.int .u64 s0,.int .u64 c1])) w)
 (h1:∀ w,(callFunc 81 #[.int .u64 a1,.int .u64 b1,.int .u64 c1]).run Try.prog w=.ok (.value (.tuple #[.int .u64 s1,.int .u64 c2])) w)
 (h2:∀ w,(callFunc 81 #[.int .u64 a2,.int .u64 b2,.int .u64 c2]).run Try.prog w=.ok (.value (.tuple #[.int .u64 s2,.int .u64 c3])) w)
 (h3:∀ w,(callFunc 81 #[.int .u64 a3,.int .u64 b3,.int .u64 c3]).run Try.prog w=.ok (.value (.tuple #[.int .u64 s3,.int .u64 c4])) w) :
  Calls Try.prog 52 #[.agg #[.int .u64 a0,.int .u64 a1,.int .u64 a2,.int .u64 a3],.agg #[.int .u64 b0,.int .u64 b1,.int .u64 b2,.int .u64 b3]] w fun e w' =>
   e=.returned (.agg #[.int .u64 s0,.int .u64 s1,.int .u64 s2,.int .u64 s3])/\Below w.heap.size w w':=by
 go_enter Try.func52,Try.ntmps52;go_wp2;refine wp_loop_rounds 5 ?_
 iterate 4 (rw[rounds_succ];go_wp2;go_region;go_wp2)
 rw[rounds_succ];go_wp2
 go_returns
 exact⟨rfl,by go_grown⟩
theorem sub_any(x y:Nat)(w:World) :
  Calls Try.prog 52 #[wv x,wv y] w fun e w' =>
   e=.returned (wv (x+(2^256 - y%2^256)))/\Below w.heap.size w w':=by
 obtain⟨a0,a1,a2,a3,u0,u1,u2,u3,ea,na⟩:=wv_parts x;obtain⟨b0,b1,b2,b3,v0,v1,v2,v3,eb,nb⟩:=wv_parts y;obtain⟨s0,c1,k1,l0,e0,h0⟩:=sub64_ex0 a0 b0 u0 v0;obtain⟨s1,c2,k2,l1,e1,h1⟩:=sub64_ex a1 b1 c1 u1 v1 k1;obtain⟨s2,c3,k3,l2,e2,h2⟩:=sub64_ex a2 b2 c2 u2 v2 k2;obtain⟨s3,c4,k4,l3,e3,h3⟩:=sub64_ex a3 b3 c3 u3 v3 k3;have hs:n4 s0 s1 s2 s3+y%2^256=x%2^256+2^256*c4:=by rw[<- na,<- nb];unfold n4;omega
 rw[ea,eb];refine(sub_walk a0 a1 a2 a3 b0 b1 b2 b3 s0 c1 s1 c2 s2 c3 s3 c4 w h0 h1 h2 h3).mono fun e w' ⟨he,hb⟩=>⟨?_,hb⟩
 rw[he,<- wv_n4 l0 l1 l2 l3];rw[wv_congr (x:=n4 s0 s1 s2 s3) (y:=x+(2^256 - y%2^256)) (by omega)]
end Go.Proofs.Ytcmgphkjchicbaa
