/- Slices of digits of 16 bits, their numbers; what bailiwickref01.Digits comes to, called with any word in any world. (Cut to what is reached, written closely: Tie1 · Pw · Eq · Small · Steps · Cells · Bytes · Dg.) -/
import Derived.Test.YtpipdfgfoocifaaGreatT1
import Derived.Test.YtpipdfgfoocifaaGreatT3
import Derived.Laws.Rows
import Derived.Deep.QuietTactic
import Derived.BigQuiet
import Derived.Test.YtpipdfgfoocifaaGreatProg
import Derived.Test.YtpipdfgfoocifaaGreatT2
import Derived.WalkKit
import Derived.WalkSpells
import Derived.WalkLawsBesides
import Derived.LoopN
import Derived.Handy
import Derived.Outline
import Derived.RegionTactic
import Derived.BigRegion
import Derived.Lib.Hide
import Derived.Laws.Tables
import Derived.Laws.CopyOwn
import Derived.Laws.Bits64b
import Derived.Laws.OwnMore
import Derived.Deep.AppendLies
set_option linter.all false
set_option maxRecDepth 100000
set_option maxHeartbeats 8000000
namespace Go.Proofs.YtpipdfgfoocifaaGreat
open Go.RowKit
section
variable {P:Program} {ops:Array Oper} {Q:Exit->Act->World->Prop} {C:(Nat->Value)->World->Prop} {φ:Nat->(Nat->Value)->World->Prop} {R:(Nat->Value)->World->World->Prop} {a0:Act}
def StepU(P:Program)(ops:Array Oper)(Q:Exit->Act->World->Prop)(C:(Nat->Value)->World->Prop)(φ:Nat->(Nat->Value)->World->Prop)(R:(Nat->Value)->World->World->Prop)(k:Nat)(o:Oper)(a:Act)(w:World):Prop :=
 if Region.wanted o (yielded ops a.tmps)then o.wp P a w (fun a' w'=>∃ v,a'=a.put o.dst v/\C (slots (a.put o.dst v)) w'/\φ k (slots (a.put o.dst v)) w'/\R (slots a) w w') Q else (C (slots (a.put o.dst undef)) w/\φ k (slots (a.put o.dst undef)) w)
def StepsU(P:Program)(ops:Array Oper)(Q:Exit->Act->World->Prop)(C:(Nat->Value)->World->Prop)(φ:Nat->(Nat->Value)->World->Prop)(R:(Nat->Value)->World->World->Prop)(a0:Act):Nat->List Oper->Prop
 | _,[]=>True
 | k,o::l=>(∀ a w,C (slots a) w->a.tmps.size=a0.tmps.size->KnownT ops φ a0 o a w->StepU P ops Q C φ R k o a w)/\StepsU P ops Q C φ R a0 (k+1) l
theorem StepsU.at_:∀ {l:List Oper} {k:Nat},StepsU P ops Q C φ R a0 k l->∀(i:Nat) (o:Oper),l[i]?=some o->∀ a w,C (slots a) w->a.tmps.size=a0.tmps.size->KnownT ops φ a0 o a w->StepU P ops Q C φ R (k+i) o a w
 | [],_,_,i,o,hi=>by simp at hi
 | o::l,k,h,0,o',hi=>by simp at hi;subst hi;exact h.1
 | o::l,k,h,i+1,o',hi=>by
  have:=StepsU.at_ h.2 i o' (by simpa using hi);rwa [show k+1+i=k+(i+1) by omega]at this
theorem wpAny_tie2(rd:Nat->List Nat)(rk:Nat->Nat)(hdist:distinctB ops.toList=true)(hlex:rankB ops rk=true)(hon:∀(i:Nat) (o:Oper),ops[i]?=some o->∀ e∈o.after,e.on<ops.size)(hown:ownB ops rd=true)
  (hrd:∀ i s s' w,(∀ t∈rd i,s t=s' t)->φ i s w->φ i s' w)
  (hφ:∀ i s w w',C s w->R s w w'->φ i s w->φ i s w') (hst:StepsU P ops Q C φ R a0 0 ops.toList)
  (hQ:∀(f:Oper->Value) w,C (slots (putAll f ops.toList a0)) w->(∀ i o,ops[i]?=some o->φ i (slots (putAll f ops.toList a0)) w)->Q .normal (putAll f ops.toList a0) w) :
  ∀(fuel:Nat) (listed:Array Bool) (a:Act) (w:World),listed.size=ops.size->listed.toList.count false<=fuel->C (slots a) w->a.tmps.size=a0.tmps.size->a.defers=a0.defers ->
   (∀ t,isDst ops.toList t=false->a.tmps.getD t undef=a0.tmps.getD t undef)->(∀ i o,listed.getD i false=true->ops[i]?=some o->φ i (slots a) w/\∀ e∈o.after,Region.binds .any e=true->listed.getD e.on false=true)->wpAny P .any ops Q fuel listed a w:=by
 have done:∀(listed:Array Bool) (a:Act) (w:World),(∀ i,i<ops.size->listed.getD i false=true)->C (slots a) w->a.tmps.size=a0.tmps.size->a.defers=a0.defers ->
   (∀ t,isDst ops.toList t=false->a.tmps.getD t undef=a0.tmps.getD t undef)->(∀ i o,listed.getD i false=true->ops[i]?=some o->φ i (slots a) w/\∀ e∈o.after,Region.binds .any e=true->listed.getD e.on false=true)->Q .normal a w:=by
  intro listed a w hall hC hs hd hk hp;have hb:=put_back hs hd hk;rw[hb];exact hQ _ w (by rw[<- hb];exact hC) (fun i o ho=>by rw[<- hb];exact(hp i o (hall i (Array.getElem?_eq_some_iff.1 ho).1) ho).1)
 intro fuel
 induction fuel with
 | zero =>
  intro listed a w hsz hc hC hs hd hk hp;have hno:false ∉ listed.toList:=List.count_eq_zero.1 (by omega);have hall:∀ i,i<ops.size->listed.getD i false=true:=fun i hi=>by
   have hlt:i<listed.size:=by omega
   have hm:listed[i]∈listed.toList:=by simp
   simp only[Array.getD_eq_getD_getElem?,hlt,Array.getElem?_eq_getElem,Option.getD_some];cases h:listed[i]with
   | true=>rfl
   | false=>rw[h]at hm;exact absurd hm hno
  refine⟨?_,done listed a w hall hC hs hd hk hp⟩;rw[List.eq_nil_iff_forall_not_mem];intro j hj;obtain⟨h0,o,ho,-⟩:=mem_ready.1 hj;have hlt:=(Array.getElem?_eq_some_iff.1 ho).1;have h1:=hall j hlt;simp[show j<listed.size by omega]at h0 h1;rw[h0]at h1;cases h1
 | succ fuel ih =>
  intro listed a w hsz hc hC hs hd hk hp;refine⟨fun hr=>?_,fun i hi=>?_⟩
  ·refine done listed a w ?_ hC hs hd hk hp
   -- the least that isn't listed would be ready
   have key:∀ r i,rk i<r->i<ops.size->listed.getD i false=true:=by
    intro r
    induction r with
    | zero=>intro i h;omega
    | succ r ihr =>
     intro i hri hi;cases h:listed.getD i false with
     | true=>rfl
     | false =>
      have ho:ops[i]?=some ops[i]:=Array.getElem?_eq_getElem hi;have:i∈Region.ready .any ops listed:=mem_ready.2 ⟨by simpa[show i<listed.size by omega]using h,ops[i],ho,fun e he hb=>by
       have hl:=hlex;unfold rankB at hl;rw[List.all_eq_true]at hl;have:=hl i (by simpa using hi);rw[ho]at this;simp only[Array.all_eq_true_iff_forall_mem]at this;have hlt:=this e he;rw[hb]at hlt;simp at hlt;exact ihr e.on (by omega) (hon i _ ho e he)⟩
      rw[hr]at this;cases this
   exact fun i hi=>key (rk i+1) i (by omega) hi
  ·obtain⟨h0,o,ho,hall⟩:=mem_ready.1 hi
   have hlt:i<ops.size:=(Array.getElem?_eq_some_iff.1 ho).1;have hl':ops.toList[i]?=some o:=by simpa using ho
   have hstep:=hst.at_ i o hl' a w hC hs ⟨hk,fun e he hb oj hj=>(hp e.on oj (by have:=hall e he hb;simpa using this) hj).1⟩;rw[Nat.zero_add]at hstep;have go:∀(v:Value) (w':World),C (slots (a.put o.dst v)) w'->φ i (slots (a.put o.dst v)) w'->(∀ j,φ j (slots a) w->φ j (slots a) w')->wpAny P .any ops Q fuel (listed.setIfInBounds i true) (a.put o.dst v) w':=by
    intro v w' hC' hv hm;refine ih _ _ _ (by simpa using hsz) ?_ hC' (by rw[put_size];exact hs) (by rw[put_defers];exact hd) ?_ ?_
    ·have hil:i<listed.size:=by omega
     have e0:listed[i]=false:=by simpa[hil]using h0
     rw[Array.toList_setIfInBounds,List.count_set (by simpa using hil)];have:listed.toList[i]'(by simpa using hil)=false:=by simpa using e0
     simp only[this];simp;have hpos:0<listed.toList.count false:=List.count_pos_iff.2 (by rw[<- e0];simp);simp at hpos;simp at hc;omega
    ·intro t ht
     have hne:o.dst≠some t:=fun e=>by
      simp only[isDst,List.any_eq_false]at ht;exact ht o (List.mem_of_getElem? hl') (by simp[e])
     rw[put_other _ _ _ _ hne];exact hk t ht
    ·intro j oj hj hoj
     by_cases e:i=j
     ·subst e
      have:oj=o:=Option.some.inj (hoj.symm.trans ho);subst this;refine⟨hv,fun e he hb=>?_⟩;have h1:=hall e he hb;by_cases q:i=e.on
      ·rw[<- q];exact getD_set_same (by omega)
      ·rw[getD_set_ne false q];simpa using h1
     ·rw[getD_set_ne false e]at hj
      obtain⟨h1,h2⟩:=hp j oj hj hoj;refine⟨hrd j _ _ w' (fun t ht=>?_) (hm _ h1),fun e' he hb=>?_⟩
      ·have hne:o.dst≠some t:=fun hd'=>by
        rcases own_spec hown hoj ht with h3 | h3 | ⟨e',he,hb,ok,hok,hkd⟩
        ·exact distinct_spec hdist i j o oj t hl' (by simpa using hoj) e hd' h3
        ·simp only[isDst,List.any_eq_false]at h3
         exact h3 o (List.mem_of_getElem? hl') (by simp[hd'])
        ·have h4:=h2 e' he hb
         have h5:i≠e'.on:=fun q=>by rw[<- q,getD_both h0]at h4;cases h4
         exact distinct_spec hdist i e'.on o ok t hl' (by simpa using hok) h5 hd' hkd
       exact(put_other _ _ _ _ hne).symm
      ·by_cases q:i=e'.on
       ·rw[<- q];exact getD_set_same (by omega)
       ·rw[getD_set_ne false q];exact h2 e' he hb
   unfold wpOp;rw[ho];simp only;unfold StepU at hstep
   split
   ·rename_i hw
    rw[if_pos hw]at hstep;refine .inl (Oper.wp_mono ?_ hstep);rintro a' w' ⟨v,rfl,hC',hv,hR⟩;exact go v w' hC' hv (fun j h=>hφ j _ w w' hC hR h)
   ·rename_i hw
    rw[if_neg hw]at hstep;exact go undef w hstep.1 hstep.2 (fun j h=>h)
theorem region_tie2{id:Nat}{l:List Oper}{w:World}(C:(Nat->Value)->World->Prop)(φ:Nat->(Nat->Value)->World->Prop)(R:(Nat->Value)->World->World->Prop)(rd:Nat->List Nat)(rk:Nat->Nat)(hm:P.follows .mixedOrders=true)
  (hB:(distinctB l&&rankB l.toArray rk&&ownB l.toArray rd&&insideB l.toArray)=true) (hC:C (slots a0) w.drew)
  (hrd:∀ i s s' w,(∀ t∈rd i,s t=s' t)->φ i s w->φ i s' w) (hφ:∀ i s w w',C s w->R s w w'->φ i s w->φ i s w') (hst:StepsU P l.toArray Q C φ R a0 0 l)
  (hQ:∀(f:Oper->Value) w,C (slots (putAll f l a0)) w->(∀ i o,l[i]?=some o->φ i (slots (putAll f l a0)) w)->Q .normal (putAll f l a0) w):(Code.region id l.toArray true).wp P Q a0 w:=by
 simp only[Bool.and_eq_true]at hB;refine wp_region_any hm (wpAny_tie2 (C:=C) (φ:=φ) (R:=R) (a0:=a0) rd rk hB.1.1.1 hB.1.1.2 (inside_spec hB.2) hB.1.2 hrd hφ hst (fun f w hC h=>hQ f w hC (fun i o ho=>h i o (by simpa using ho))) _ _ _ w.drew (by simp) (by simp) hC rfl rfl (fun _ _=>rfl) ?_);intro i o hi;simp at hi;rcases Nat.lt_or_ge i l.length with h | h
 ·simp[h]at hi
 ·simp[Nat.not_lt.2 h]at hi
/-! What each kind of operation must do. -/
theorem uu_val{k:Nat}{o:Oper}{a:Act}{w:World}(v:Value)(hw:Region.wanted o (yielded ops a.tmps)=true)(hr:(execOp a.eval o).run P w=.ok (.value v) w)(hC:C (slots (a.put o.dst v)) w)(hv:φ k (slots (a.put o.dst v)) w)(hR:R (slots a) w w):StepU P ops Q C φ R k o a w:=by
 unfold StepU;rw[if_pos hw];unfold Oper.wp;rw[hr];exact⟨v,rfl,hC,hv,hR⟩
theorem uu_new{k:Nat}{o:Oper}{a:Act}{w w':World}(v:Value)(hw:Region.wanted o (yielded ops a.tmps)=true)(hr:(execOp a.eval o).run P w=.ok (.value v) w')(hC:C (slots (a.put o.dst v)) w')(hv:φ k (slots (a.put o.dst v)) w')(hR:R (slots a) w w'):StepU P ops Q C φ R k o a w:=by
 unfold StepU;rw[if_pos hw];unfold Oper.wp;rw[hr];exact⟨v,rfl,hC,hv,hR⟩
theorem uu_load{k:Nat}{o:Oper}{a:Act}{w:World}(T:TypeId)(x:Operand)(p v:Value)(ho:o.op=.load T x)(hw:Region.wanted o (yielded ops a.tmps)=true)(hp:a.eval x=p)
  (hr:(Instr.loadAt T p).run P w=.ok v w) (hC:C (slots (a.put o.dst v)) w) (hv:φ k (slots (a.put o.dst v)) w) (hR:R (slots a) w w):StepU P ops Q C φ R k o a w :=
 uu_val v hw (by
  unfold execOp;rw[ho];simp only[hp,Sem.run_bind,hr,Result.andThen_ok,Sem.run_pure]) hC hv hR
theorem uu_call{k:Nat}{o:Oper}{a:Act}{w:World}(f:FuncId)(args:Array Value)(hw:Region.wanted o (yielded ops a.tmps)=true)(he:(execOp a.eval o).run P w=.ok (.enter f args) w)
  (hc:Calls P f args w fun e w'=>∃ v,e=.returned v/\C (slots (a.put o.dst v)) w'/\φ k (slots (a.put o.dst v)) w'/\R (slots a) w w'):StepU P ops Q C φ R k o a w:=by
 unfold StepU;rw[if_pos hw];unfold Oper.wp;rw[he];refine Calls.mono hc ?_;rintro e w' ⟨v,rfl,h1,h2,h3⟩;exact⟨v,rfl,h1,h2,h3⟩
theorem uu_store{k:Nat}{o:Oper}{a:Act}{w w':World}(hw:Region.wanted o (yielded ops a.tmps)=true)(hd:o.dst=none)(hr:(execOp a.eval o).run P w=.ok .skip w')(hC:C (slots a) w')(hv:φ k (slots a) w')(hR:R (slots a) w w'):StepU P ops Q C φ R k o a w:=by
 unfold StepU;rw[if_pos hw];unfold Oper.wp;rw[hr];refine⟨undef,by rw[hd],?_,?_,hR⟩
 ·rw[hd];exact hC
 ·rw[hd];exact hv
end
open Go.RowKit
def pw(x:Nat):Array Value:=#[.int .u64 ((x%18446744073709551616:Nat):Int),.int .u64 ((x / 18446744073709551616%18446744073709551616:Nat):Int),.int .u64 ((x / 340282366920938463463374607431768211456%18446744073709551616:Nat):Int),.int .u64 ((x / 6277101735386680763835789423207666416102355444464034512896%18446744073709551616:Nat):Int)]
open Go.RowKit
theorem eqW(a0 a1 a2 a3 b0 b1 b2 b3:Nat)(w:World) :
  (Op.equalIn 10000 24 (.agg #[.int .u64 a0,.int .u64 a1,.int .u64 a2,.int .u64 a3]) (.agg #[.int .u64 b0,.int .u64 b1,.int .u64 b2,.int .u64 b3])).run Tryz.prog w=.ok ((a0 == b0)&&((a1 == b1)&&((a2 == b2)&&(a3 == b3)))) w:=by
 have u3:=Tryz.underlying22;have a3':=Tryz.isAgg22;have z3:=Tryz.sizeOf22;rw[show(10000:Nat)=9999+1 from rfl,Op.equalIn];simp only[Sem.run_bind,run_underlying Tryz.underlying24,Result.andThen_ok];simp only[Std.Legacy.Range.forIn_eq_forIn_range',Std.Legacy.Range.size,Nat.sub_zero,Nat.add_sub_cancel,Nat.div_one,List.range'_succ,List.range'_zero,List.forIn_cons,List.forIn_nil]
 go_simp
 simp only[Int.natCast_inj];by_cases h0:a0=b0
 ·by_cases h1:a1=b1
  ·by_cases h2:a2=b2
   ·by_cases h3:a3=b3
    ·simp[h0,h1,h2,h3]
    ·simp[h0,h1,h2,h3]
   ·simp[h0,h1,h2]
  ·simp[h0,h1]
 ·simp[h0]
open Go.RowKit
theorem of_exact(n:Nat)(w:World) :
  Calls Tryz.prog 71 #[.int .u64 n] w fun e w'=>e=.returned (.agg #[.int .u64 n,.int .u64 0,.int .u64 0,.int .u64 0])/\w.alloc (.cells #[.int .u64 n,.int .u64 0,.int .u64 0,.int .u64 0] 24)=w':=by
 go_enter Tryz.func71,Tryz.ntmps71;go_wp2
 go_returns
 exact⟨rfl,rfl⟩
theorem small_yes(a0:Nat)(w:World) :
  Calls Tryz.prog 135 #[.agg #[.int .u64 a0,.int .u64 0,.int .u64 0,.int .u64 0]] w fun e w'=>e=.returned (.tuple #[.int .u64 a0,.bool true])/\Below w.heap.size w w':=by
 have he:∀ w,(Op.equalIn 10000 24 (.agg #[.int .u64 a0,.int .u64 0,.int .u64 0,.int .u64 0]) (.agg #[.int .u64 a0,.int .u64 0,.int .u64 0,.int .u64 0])).run Tryz.prog w=.ok true w:=fun w=>by
  have:=eqW a0 0 0 0 a0 0 0 0 w;simpa using this
 go_enter Tryz.func135,Tryz.ntmps135;go_wp2
 go_region_with (go_at_call 71;refine(of_exact a0 _).mono ?_;rintro e w' ⟨rfl,rfl⟩)
 all_goals go_wp2
 all_goals (go_ret2;exact⟨rfl,by go_grown⟩)
theorem small_no(a0 a1 a2 a3:Nat)(h:¬(a1=0/\a2=0/\a3=0))(w:World) :
  Calls Tryz.prog 135 #[.agg #[.int .u64 a0,.int .u64 a1,.int .u64 a2,.int .u64 a3]] w fun e w'=>e=.returned (.tuple #[.int .u64 0,.bool false])/\Below w.heap.size w w':=by
 have he:∀ w,(Op.equalIn 10000 24 (.agg #[.int .u64 a0,.int .u64 a1,.int .u64 a2,.int .u64 a3]) (.agg #[.int .u64 a0,.int .u64 0,.int .u64 0,.int .u64 0])).run Tryz.prog w=.ok false w:=fun w=>by
  have:=eqW a0 a1 a2 a3 a0 0 0 0 w;have hf:(a0 == a0&&(a1 == 0&&(a2 == 0&&a3 == 0)))=false:=by simpa using h
  rw[hf]at this;exact this
 clear h;go_enter Tryz.func135,Tryz.ntmps135;go_wp2
 go_region_with (go_at_call 71;refine(of_exact a0 _).mono ?_;rintro e w' ⟨rfl,rfl⟩)
 all_goals go_wp2
 all_goals (go_ret2;exact⟨rfl,by go_grown⟩)
open Go.RowKit
-- WHAT Small COMES TO.
theorem small_any(x:Nat)(w:World) :
  Calls Tryz.prog 135 #[wv x] w fun e w'=>e=.returned (.tuple #[.int .u64 ((if x%2^256<18446744073709551616 then x%2^256 else 0:Nat):Int),.bool (decide (x%2^256<18446744073709551616))])/\Below w.heap.size w w':=by
 obtain⟨a0,a1,a2,a3,u0,u1,u2,u3,ea,na⟩:=wv_parts x;rw[ea,<- na];by_cases h:a1=0/\a2=0/\a3=0
 ·obtain⟨rfl,rfl,rfl⟩:=h
  have e:n4 a0 0 0 0=a0:=by unfold n4;omega
  rw[e,if_pos u0,decide_eq_true u0];exact small_yes a0 w
 ·have e:¬n4 a0 a1 a2 a3<18446744073709551616:=by unfold n4;omega
  rw[if_neg e,decide_eq_false e];exact small_no a0 a1 a2 a3 h w
theorem steps_few(a0 a1 a2 a3 n:Nat)(hn:(n:Int)<=256)(w:World)
  (hS:∀ w,Calls Tryz.prog 135 #[.agg #[.int .u64 a0,.int .u64 a1,.int .u64 a2,.int .u64 a3]] w fun e w'=>e=.returned (.tuple #[.int .u64 n,.bool true])/\Below w.heap.size w w') :
  Calls Tryz.prog 129 #[.agg #[.int .u64 a0,.int .u64 a1,.int .u64 a2,.int .u64 a3]] w fun e w'=>e=.returned (.tuple #[.int .i64 ((n / 64:Nat):Int),.int .i64 ((n%64:Nat):Int)])/\Below w.heap.size w w':=by
 have hn':¬(256:Int)<n:=by omega
 have h0:(0:Int)<=n:=by omega
 go_enter Tryz.func129,Tryz.ntmps129
 go_wp2_with fail
 refine(hS _).mono ?_;rintro e w1 ⟨rfl,hb⟩;have hb':Below w.heap.size w w1:=Below.trans (by go_grown) (hb.mono (by simp));clear hb;go_wp2
 go_outline
 go_ret2
 exact⟨by simp,hb'⟩
theorem steps_many(a0 a1 a2 a3 n:Nat)(b:Bool)(hn:b=true->(256:Int)<n)(w:World)
  (hS:∀ w,Calls Tryz.prog 135 #[.agg #[.int .u64 a0,.int .u64 a1,.int .u64 a2,.int .u64 a3]] w fun e w'=>e=.returned (.tuple #[.int .u64 n,.bool b])/\Below w.heap.size w w') :
  Calls Tryz.prog 129 #[.agg #[.int .u64 a0,.int .u64 a1,.int .u64 a2,.int .u64 a3]] w fun e w'=>e=.returned (.tuple #[.int .i64 4,.int .i64 0])/\Below w.heap.size w w':=by
 have h0:(0:Int)<=n:=by omega
 cases b
 all_goals
  try have hn':=hn rfl
  clear hn;go_enter Tryz.func129,Tryz.ntmps129
  go_wp2_with fail
  refine(hS _).mono ?_;rintro e w1 ⟨rfl,hb⟩;have hb':Below w.heap.size w w1:=Below.trans (by go_grown) (hb.mono (by simp));clear hb;go_wp2
  go_ret2
  exact⟨by simp,hb'⟩
-- WHAT steps COMES TO.
theorem steps_any(x:Nat)(w:World) :
  Calls Tryz.prog 129 #[wv x] w fun e w'=>e=.returned (.tuple #[.int .i64 ((min (x%2^256) 256 / 64:Nat):Int),.int .i64 ((min (x%2^256) 256%64:Nat):Int)])/\Below w.heap.size w w':=by
 have hS:=fun w=>small_any x w;obtain⟨a0,a1,a2,a3,u0,u1,u2,u3,ea,na⟩:=wv_parts x;generalize x%2^256=y at *;rw[ea]at hS;rw[ea];by_cases h:y<=256
 ·rw[if_pos (by omega),decide_eq_true (by omega)]at hS
  rw[Nat.min_eq_left h];exact steps_few a0 a1 a2 a3 y (by omega) w hS
 ·rw[Nat.min_eq_right (by omega)]
  exact steps_many a0 a1 a2 a3 _ _ (fun hb=>by rw[if_pos (by simpa using hb)];omega) w hS
open Go.RowKit
def Holds4(B:Nat)(v0 v1 v2 v3:Value)(wx:World):Prop:=wx.cell? ⟨B,0,none⟩=some v0/\wx.cell? ⟨B,1,none⟩=some v1/\wx.cell? ⟨B,2,none⟩=some v2/\wx.cell? ⟨B,3,none⟩=some v3
theorem Holds4.below{B:Nat}{v0 v1 v2 v3:Value}{wx w':World}(h:Holds4 B v0 v1 v2 v3 wx)(hb:Below wx.heap.size wx w')(hB:B<wx.heap.size):Holds4 B v0 v1 v2 v3 w' :=
 ⟨(hb.cell hB).trans h.1,(hb.cell hB).trans h.2.1,(hb.cell hB).trans h.2.2.1,(hb.cell hB).trans h.2.2.2⟩
open Go.RowKit
def pN(x p:Nat):Nat:=x%2^256 / 2^(64*p)%18446744073709551616
theorem pN_le(x p:Nat):pN x p<18446744073709551616:=by unfold pN;omega
theorem heap3(w:World)(A B C:Obj):(((w.alloc A).alloc B).alloc C).heap[w.heap.size]?=some A/\(((w.alloc A).alloc B).alloc C).heap[w.heap.size+1]?=some B/\(((w.alloc A).alloc B).alloc C).heap[w.heap.size+1+1]?=some C:=by
 show(((w.heap.push A).push B).push C)[w.heap.size]?=_/\(((w.heap.push A).push B).push C)[w.heap.size+1]?=_/\(((w.heap.push A).push B).push C)[w.heap.size+1+1]?=_;refine⟨?_,?_,?_⟩
 ·simp[Array.getElem?_push]
  omega
 ·have h:w.heap.size+1≠(((w.heap.push A).push B)).size:=by simp
  rw[Array.getElem?_push,if_neg h,Array.getElem?_push,if_pos (by simp)]
 ·rw[Array.getElem?_push,if_pos (by simp)]
theorem wpList_store_row{P:Program}{ops:Array Oper}{rest:List Oper}{o:Oper}{a:Act}{w:World}{Q:Exit->Act->World->Prop}(hgd:o.guard=none)(ty:TypeId)(x y:Operand)(ho:o.op=.store ty x y)
  (g:Nat) (cells:Array Value) (hx:a.eval x=.pointer (some ⟨g,0,none⟩)) (hy:a.eval y=.agg cells)
  (t:TypeId) (old:Array Value) (hg:w.heap[g]?=some (.cells old t (0,0))) (hi:(P.info? ty).map (·.size)=some cells.size)
  (hold:old.size=cells.size) (h1:cells.all (·.oneCell')=true)
  (h:wpList P ops Q rest (a.put o.dst undef) (w.setRow g cells)):wpList P ops Q (o::rest) a w :=
 wpList_plain hgd fun _ hK=>wp_store_row ty x y ho g cells hx hy t old hg hi hold h1 (hK _ _ h)
open Go.RowKit
def vd(d:Nat->Nat):Nat->Nat
 | 0=>0
 | n+1=>vd d n+65536^n*d n
theorem vd_congr{d e:Nat->Nat}{n:Nat}(h:∀ j,j<n->d j=e j):vd d n=vd e n:=by
 induction n with
 | zero=>rfl
 | succ n ih=>simp only[vd];rw[ih (fun j hj=>h j (by omega)),h n (by omega)]
theorem vd_lt{d:Nat->Nat}{n:Nat}(h:∀ j,j<n->d j<65536):vd d n<65536^n:=by
 induction n with
 | zero=>simp[vd]
 | succ n ih =>
  have h1:=ih (fun j hj=>h j (by omega));have h2:65536^n*d n<=65536^n*65535:=Nat.mul_le_mul_left _ (by have:=h n (by omega);omega);simp only[vd];rw[Nat.pow_succ];omega
theorem vd_mod(X n:Nat):vd (fun j=>X / 65536^j%65536) n=X%65536^n:=by
 induction n with
 | zero=>simp[vd,Nat.mod_one]
 | succ n ih=>simp only[vd];rw[ih,Nat.pow_succ,Nat.mod_mul]
def pad(d:Nat->Nat)(n j:Nat):Nat:=if j<n then d j else 0
theorem vd_pad(d:Nat->Nat)(n k:Nat)(h:n<=k):vd (pad d n) k=vd d n:=by
 induction k with
 | zero =>
  obtain rfl:n=0:=by omega
  rfl
 | succ k ih =>
  by_cases e:n=k+1
  ·subst e;exact vd_congr (fun j hj=>by simp[pad,hj])
  ·simp only[vd]
   rw[ih (by omega),show pad d n k=0 by simp[pad];omega];simp
def dl(d:Nat->Nat)(n:Nat):List Value:=(List.range n).map fun j=>.int .u64 (d j:Nat)
theorem dl_len(d:Nat->Nat)(n:Nat):(dl d n).length=n:=by simp[dl]
theorem dl_at(d:Nat->Nat)(n j:Nat)(h:j<n):(dl d n)[j]?=some (.int .u64 (d j:Nat)):=by simp[dl,h]
def upd(d:Nat->Nat)(k y j:Nat):Nat:=if j=k then y else d j
theorem dl_snoc(d:Nat->Nat)(k y:Nat):dl d k++[.int .u64 (y:Nat)]=dl (upd d k y) (k+1):=by
 unfold dl;rw[List.range_succ,List.map_append];congr 1
 ·apply List.map_congr_left
  intro j hj;have:j<k:=by simpa using hj
  simp[upd,show ¬j=k by omega]
 ·simp[upd]
theorem upd_lt{d:Nat->Nat}{k y:Nat}(h:∀ j,j<k->d j<65536)(hy:y<65536):∀ j,j<k+1->upd d k y j<65536:=fun j hj=>by
 unfold upd;by_cases e:j=k
 ·simp[e,hy]
 ·simp only[e,if_false];exact h j (by omega)
theorem vd_upd(d:Nat->Nat)(k y:Nat):vd (upd d k y) (k+1)=vd d k+65536^k*y:=by
 simp only[vd];rw[vd_congr (d:=upd d k y) (e:=d) (fun j hj=>by simp[upd,show ¬j=k by omega])];simp[upd]
def Dg(w:World)(b n:Nat)(d:Nat->Nat):Prop:=b<w.heap.size/\∀ j,j<n->w.cell? ⟨b,j,none⟩=some (.int .u64 (d j:Nat))
theorem Dg.below{w w':World}{b n:Nat}{d:Nat->Nat}(h:Dg w b n d)(hb:Below w.heap.size w w'):Dg w' b n d :=
 ⟨Nat.lt_of_lt_of_le h.1 hb.size,fun j hj=>(hb.cell (p:=⟨b,j,none⟩) h.1).trans (h.2 j hj)⟩
def MkDg(n V:Nat)(w:World)(e:Ending)(w':World):Prop :=
 ∃(b cap:Nat) (d:Nat->Nat),e=.returned (.slice (some ⟨b,0,none⟩) n cap)/\w.heap.size<=b/\Dg w' b n d/\(∀ j,j<n->d j<65536)/\vd d n=V/\Below w.heap.size w w'
theorem info22:(Tryz.prog.info? 22).map (fun i=>(i.zero,i.size,i.bytes))=some (some (.int .u64 0),1,8):=by kernel_rfl
theorem push_rel{w wr w1:World}{base:Nat}{v v' X:Value}{k y:Nat}{ns:Nat->Nat}(hown:wr.ownsRow base 22 1 v k (dl ns k))(hb:Below base w wr)(hsz:base<=wr.heap.size)
  (hown':w1.ownsRow base 22 1 v' (k+1) (dl ns k++[.int .u64 (y:Nat)])) (hgrow:(wr.alloc (.cells #[X] 22)).grownBy w1 v.ownBlock) :
  w1.ownsRow base 22 1 v' (k+1) (dl (upd ns k y) (k+1))/\Below base w w1:=by
 rw[dl_snoc]at hown';exact⟨hown',(hb.alloc hsz _).grown hgrow (by simp;omega) (fun j hj=>(hown.lt j hj).1)⟩
theorem made_of{w w':World}{base:Nat}{v:Value}{n:Nat}{d:Nat->Nat}(hbs:w.heap.size<=base)(h:w'.ownsRow base 22 1 v n (dl d n))(hn:0<n)(hd:∀ j,j<n->d j<65536)(hb:Below w.heap.size w w'):MkDg n (vd d n) w (.returned v) w':=by
 obtain⟨hl,h1⟩:=h;rcases h1 with⟨-,h0⟩ | ⟨g,cap,cur,rfl,hg,hc,hnc,hm,hcs,ht⟩
 ·omega
 ·refine⟨g,cap,d,rfl,Nat.le_trans hbs hg,⟨(Array.getElem?_eq_some_iff.1 hc).1,fun j hj=>?_⟩,hd,rfl,hb⟩
  rw[cell_of_row _ _ _ _ _ _ hc,<- dl_at d n j hj,<- ht];simp only[Nat.mul_one,List.getElem?_take,hj,if_true];simp
theorem and_low16(z:Nat)(h:z<18446744073709551616):bits .and .u64 z 65535=((z%65536:Nat):Int):=by
 have:=bits_and_u64_nat z 65535 h (by omega);rw[show z &&& 65535=z%65536 from Nat.and_two_pow_sub_one_eq_mod z 16]at this;exact this
theorem dg_of(x k p s:Nat)(hp:k / 4=p)(hs:16*(k%4)=s):pN x p / 2^s%65536=x%115792089237316195423570985008687907853269984665640564039457584007913129639936 / 65536^k%65536:=by
 subst hp hs;unfold pN;have e:18446744073709551616=2^(16*(k%4))*2^(64 - 16*(k%4)):=by rw[<- Nat.pow_add,show 16*(k%4)+(64 - 16*(k%4))=64 by omega]
 have e2:(65536:Nat)=2^16:=by rfl
 rw[e,Nat.mod_mul_right_div_self,e2,Nat.mod_mod_of_dvd _ (Nat.pow_dvd_pow 2 (by omega)),Nat.div_div_eq_div_mul,<- Nat.pow_add,<- Nat.pow_mul,show 64*(k / 4)+16*(k%4)=16*k by omega]
theorem digits_walk(x a0 a1 a2 a3:Nat)(hp:∀ p,p<4->(#[Value.int .u64 a0,.int .u64 a1,.int .u64 a2,.int .u64 a3]:Array Value)[p]?=some (.int .u64 (pN x p:Nat)))(w:World) :
  Calls Tryz.prog 88 #[.agg #[.int .u64 a0,.int .u64 a1,.int .u64 a2,.int .u64 a3]] w (MkDg 16 (x%115792089237316195423570985008687907853269984665640564039457584007913129639936) w):=by
 have HP:=Lib.hid hp;clear hp;obtain⟨i0,hi,hz0,hz1,hz2⟩:=info_parts info22;go_enter Tryz.func88,Tryz.ntmps88;go_wp2
 go_loopw [3,4] (fun v i wr=>∃ k:Nat,k<=16/\i=.int .i64 k/\Hid (wr.ownsRow (w.heap.size+1) 22 1 v k (dl (fun j=>x%115792089237316195423570985008687907853269984665640564039457584007913129639936 / 65536^j%65536) k)/\Below (w.heap.size+1) (w.alloc (.cells #[Value.int .u64 a0,.int .u64 a1,.int .u64 a2,.int .u64 a3] 24)) wr))
  (fun _ i _=>16 - (intOf i).toNat)
 case atStart =>
  refine⟨0,by omega,rfl,Lib.hid ⟨?_,by go_grown⟩⟩;have h:=World.ownsRow_made (base:=w.heap.size+1) (e:=22) (size:=1) (w.alloc (.cells #[Value.int .u64 a0,.int .u64 a1,.int .u64 a2,.int .u64 a3] 24)) #[] 0 (by simp) (by decide) (by simp);rw[World.size_alloc]at h;exact h
 case round =>
  obtain⟨k,hk,rfl,H⟩:=hrel;have hk0:(0:Int)<=k:=by omega
  have hk1:(k:Int)<=16:=by omega
  by_cases hlt:k<16
  ·obtain⟨p,hp⟩:∃ p:Nat,(k:Int) / 4=(p:Int):=⟨k / 4,by omega⟩
   obtain⟨s,hs⟩:∃ s:Nat,16*((k:Int)%4)=(s:Int):=⟨16*(k%4),by omega⟩
   have hp0:(0:Int)<=p:=by omega
   have hp1:(p:Int)<4:=by omega
   have hs0:(0:Int)<=s:=by omega
   have hs1:(s:Int)<64:=by omega
   have ca:wr.cell? ⟨w.heap.size,p,none⟩=some (.int .u64 (pN x p:Nat)):=(H.out.2.cell (p:=⟨w.heap.size,p,none⟩) (Nat.lt_succ_self _)).trans ((cell_of_row _ _ p _ _ _ (heap_alloc_new w _)).trans (HP.out p (by omega)));have hpl:=pN_le x p;have hv:bits .and .u64 (((pN x p:Nat):Int) / 2^s) 65535=((x%115792089237316195423570985008687907853269984665640564039457584007913129639936 / 65536^k%65536:Nat):Int):=by
    rw[<- dg_of x k p s (by omega) (by omega)];have h:=and_low16 (pN x p / 2^s) (Nat.lt_of_le_of_lt (Nat.div_le_self _ _) hpl);simpa using h
   have HV:=Lib.hid hv;clear hv
   go_wp2_with (at_builtin;refine wpList_append_own _ rfl _ _ 94 rfl (w.heap.size+1) 22 i0 (.int .u64 0) 1 8 Tryz.underlying94 hi hz0 hz1 hz2 rfl (by decide) _ _ _ rfl (H.out.1.alloc _) ⟨wr.heap.size,0,none⟩ 1 1 [.int .u64 (bits .and .u64 (((pN x p:Nat):Int) / 2^s) 65535)] rfl rfl ?c1 ?c2 ?c3 ?c4 ?c5 ?_)
   case c1=>exact cell_one_new _ _ _
   case c2=>intro u hu;simp at hu;subst hu;rfl
   case c3=>unfold maxLen;omega
   case c4=>omega
   case c5=>have:=H.out.2.size;simp at this;simp;omega
   intro v' w1 hown' hgrow _;rw[HV.out]at hown';have HN:=Lib.hid (push_rel H.out.1 H.out.2 (by have:=H.out.2.size;simp at this;omega) hown' hgrow);clear hown' hgrow;go_wp2
   go_roundw
   case rel =>
    refine⟨k+1,by omega,by go_num,Lib.hid ⟨?_,HN.out.2⟩⟩;have e:dl (upd (fun j=>x%115792089237316195423570985008687907853269984665640564039457584007913129639936 / 65536^j%65536) k (x%115792089237316195423570985008687907853269984665640564039457584007913129639936 / 65536^k%65536)) (k+1)=dl (fun j=>x%115792089237316195423570985008687907853269984665640564039457584007913129639936 / 65536^j%65536) (k+1):=by
     unfold dl;apply List.map_congr_left;intro j _;unfold upd;by_cases h:j=k <;> simp[h]
    rw[<- e];exact HN.out.1
   case measure=>simp[intOf];omega
  ·obtain rfl:k=16:=by omega
   go_wp2;go_ret;have R:=made_of (w:=w) (by omega) H.out.1 (by omega) (fun j _=>by omega) (Below.trans (by go_grown) (H.out.2.mono (by omega)));rw[vd_mod]at R;rw[show x%115792089237316195423570985008687907853269984665640564039457584007913129639936%65536^16=x%115792089237316195423570985008687907853269984665640564039457584007913129639936 from Nat.mod_mod _ _]at R;exact R
-- WHAT Digits COMES TO.
theorem digits_any(x:Nat)(w:World):Calls Tryz.prog 88 #[wv x] w (MkDg 16 (x%115792089237316195423570985008687907853269984665640564039457584007913129639936) w):=by
 refine digits_walk x _ _ _ _ (fun p hp=>?_) w;have h:p=0\/p=1\/p=2\/p=3:=by omega
 rcases h with rfl | rfl | rfl | rfl
 ·simp[pN]
 ·simp[pN];omega
 ·simp[pN];omega
 ·simp[pN];omega
end Go.Proofs.YtpipdfgfoocifaaGreat
