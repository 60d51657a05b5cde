/- What (*Field).times comes to. (Cut to what is reached, written closely: Tie1 · Pw · Eq · Small · Steps · Cells · Bytes · Dg · Sum · ShiftNum · Shl · Word · Prod · Down · Shls · Downs · Not · Refs · Cmp · FFld · FLess · FVal · FTimes.) -/
import Derived.Test.YtfmpjjhdocejiaaGreatL1
import Derived.Laws.Rows
import Derived.Deep.QuietTactic
import Derived.BigQuiet
import Derived.Test.YtfmpjjhdocejiaaGreatProg
import Derived.WalkKit
import Derived.WalkSpells
import Derived.WalkLawsBesides
import Derived.LoopN
import Derived.Handy
import Derived.Outline
import Derived.RegionTactic
import Derived.BigRegion
import Derived.Lib.Hide
import Derived.Laws.Tables
import Derived.Laws.CopyOwn
import Derived.Laws.Bits64b
import Derived.Laws.OwnMore
import Derived.Deep.AppendLies
import Derived.StillTailTactics
import Derived.WalkSmall
import Derived.OwnWalk
import Derived.Laws.Bits64
import Derived.Deep.RegionWith
set_option linter.all false
set_option maxRecDepth 100000
set_option maxHeartbeats 8000000
namespace Go.Proofs.YtfmpjjhdocejiaaGreat
open Go.RowKit
section
variable {P:Program} {ops:Array Oper} {Q:Exit->Act->World->Prop} {C:(Nat->Value)->World->Prop} {φ:Nat->(Nat->Value)->World->Prop} {R:(Nat->Value)->World->World->Prop} {a0:Act}
def StepU(P:Program)(ops:Array Oper)(Q:Exit->Act->World->Prop)(C:(Nat->Value)->World->Prop)(φ:Nat->(Nat->Value)->World->Prop)(R:(Nat->Value)->World->World->Prop)(k:Nat)(o:Oper)(a:Act)(w:World):Prop :=
 if Region.wanted o (yielded ops a.tmps)then o.wp P a w (fun a' w'=>∃ v,a'=a.put o.dst v/\C (slots (a.put o.dst v)) w'/\φ k (slots (a.put o.dst v)) w'/\R (slots a) w w') Q else (C (slots (a.put o.dst undef)) w/\φ k (slots (a.put o.dst undef)) w)
def StepsU(P:Program)(ops:Array Oper)(Q:Exit->Act->World->Prop)(C:(Nat->Value)->World->Prop)(φ:Nat->(Nat->Value)->World->Prop)(R:(Nat->Value)->World->World->Prop)(a0:Act):Nat->List Oper->Prop
 | _,[]=>True
 | k,o::l=>(∀ a w,C (slots a) w->a.tmps.size=a0.tmps.size->KnownT ops φ a0 o a w->StepU P ops Q C φ R k o a w)/\StepsU P ops Q C φ R a0 (k+1) l
theorem StepsU.at_:∀ {l:List Oper} {k:Nat},StepsU P ops Q C φ R a0 k l->∀(i:Nat) (o:Oper),l[i]?=some o->∀ a w,C (slots a) w->a.tmps.size=a0.tmps.size->KnownT ops φ a0 o a w->StepU P ops Q C φ R (k+i) o a w
 | [],_,_,i,o,hi=>by simp at hi
 | o::l,k,h,0,o',hi=>by simp at hi;subst hi;exact h.1
 | o::l,k,h,i+1,o',hi=>by
  have:=StepsU.at_ h.2 i o' (by simpa using hi);rwa [show k+1+i=k+(i+1) by omega]at this
theorem wpAny_tie2(rd:Nat->List Nat)(rk:Nat->Nat)(hdist:distinctB ops.toList=true)(hlex:rankB ops rk=true)(hon:∀(i:Nat) (o:Oper),ops[i]?=some o->∀ e∈o.after,e.on<ops.size)(hown:ownB ops rd=true)
  (hrd:∀ i s s' w,(∀ t∈rd i,s t=s' t)->φ i s w->φ i s' w)
  (hφ:∀ i s w w',C s w->R s w w'->φ i s w->φ i s w') (hst:StepsU P ops Q C φ R a0 0 ops.toList)
  (hQ:∀(f:Oper->Value) w,C (slots (putAll f ops.toList a0)) w->(∀ i o,ops[i]?=some o->φ i (slots (putAll f ops.toList a0)) w)->Q .normal (putAll f ops.toList a0) w) :
  ∀(fuel:Nat) (listed:Array Bool) (a:Act) (w:World),listed.size=ops.size->listed.toList.count false<=fuel->C (slots a) w->a.tmps.size=a0.tmps.size->a.defers=a0.defers ->
   (∀ t,isDst ops.toList t=false->a.tmps.getD t undef=a0.tmps.getD t undef)->(∀ i o,listed.getD i false=true->ops[i]?=some o->φ i (slots a) w/\∀ e∈o.after,Region.binds .any e=true->listed.getD e.on false=true)->wpAny P .any ops Q fuel listed a w:=by
 have done:∀(listed:Array Bool) (a:Act) (w:World),(∀ i,i<ops.size->listed.getD i false=true)->C (slots a) w->a.tmps.size=a0.tmps.size->a.defers=a0.defers ->
   (∀ t,isDst ops.toList t=false->a.tmps.getD t undef=a0.tmps.getD t undef)->(∀ i o,listed.getD i false=true->ops[i]?=some o->φ i (slots a) w/\∀ e∈o.after,Region.binds .any e=true->listed.getD e.on false=true)->Q .normal a w:=by
  intro listed a w hall hC hs hd hk hp;have hb:=put_back hs hd hk;rw[hb];exact hQ _ w (by rw[<- hb];exact hC) (fun i o ho=>by rw[<- hb];exact(hp i o (hall i (Array.getElem?_eq_some_iff.1 ho).1) ho).1)
 intro fuel
 induction fuel with
 | zero =>
  intro listed a w hsz hc hC hs hd hk hp;have hno:false ∉ listed.toList:=List.count_eq_zero.1 (by omega);have hall:∀ i,i<ops.size->listed.getD i false=true:=fun i hi=>by
   have hlt:i<listed.size:=by omega
   have hm:listed[i]∈listed.toList:=by simp
   simp only[Array.getD_eq_getD_getElem?,hlt,Array.getElem?_eq_getElem,Option.getD_some];cases h:listed[i]with
   | true=>rfl
   | false=>rw[h]at hm;exact absurd hm hno
  refine⟨?_,done listed a w hall hC hs hd hk hp⟩;rw[List.eq_nil_iff_forall_not_mem];intro j hj;obtain⟨h0,o,ho,-⟩:=mem_ready.1 hj;have hlt:=(Array.getElem?_eq_some_iff.1 ho).1;have h1:=hall j hlt;simp[show j<listed.size by omega]at h0 h1;rw[h0]at h1;cases h1
 | succ fuel ih =>
  intro listed a w hsz hc hC hs hd hk hp;refine⟨fun hr=>?_,fun i hi=>?_⟩
  ·refine done listed a w ?_ hC hs hd hk hp
   -- the least that isn't listed would be ready
   have key:∀ r i,rk i<r->i<ops.size->listed.getD i false=true:=by
    intro r
    induction r with
    | zero=>intro i h;omega
    | succ r ihr =>
     intro i hri hi;cases h:listed.getD i false with
     | true=>rfl
     | false =>
      have ho:ops[i]?=some ops[i]:=Array.getElem?_eq_getElem hi;have:i∈Region.ready .any ops listed:=mem_ready.2 ⟨by simpa[show i<listed.size by omega]using h,ops[i],ho,fun e he hb=>by
       have hl:=hlex;unfold rankB at hl;rw[List.all_eq_true]at hl;have:=hl i (by simpa using hi);rw[ho]at this;simp only[Array.all_eq_true_iff_forall_mem]at this;have hlt:=this e he;rw[hb]at hlt;simp at hlt;exact ihr e.on (by omega) (hon i _ ho e he)⟩
      rw[hr]at this;cases this
   exact fun i hi=>key (rk i+1) i (by omega) hi
  ·obtain⟨h0,o,ho,hall⟩:=mem_ready.1 hi
   have hlt:i<ops.size:=(Array.getElem?_eq_some_iff.1 ho).1;have hl':ops.toList[i]?=some o:=by simpa using ho
   have hstep:=hst.at_ i o hl' a w hC hs ⟨hk,fun e he hb oj hj=>(hp e.on oj (by have:=hall e he hb;simpa using this) hj).1⟩;rw[Nat.zero_add]at hstep;have go:∀(v:Value) (w':World),C (slots (a.put o.dst v)) w'->φ i (slots (a.put o.dst v)) w'->(∀ j,φ j (slots a) w->φ j (slots a) w')->wpAny P .any ops Q fuel (listed.setIfInBounds i true) (a.put o.dst v) w':=by
    intro v w' hC' hv hm;refine ih _ _ _ (by simpa using hsz) ?_ hC' (by rw[put_size];exact hs) (by rw[put_defers];exact hd) ?_ ?_
    ·have hil:i<listed.size:=by omega
     have e0:listed[i]=false:=by simpa[hil]using h0
     rw[Array.toList_setIfInBounds,List.count_set (by simpa using hil)];have:listed.toList[i]'(by simpa using hil)=false:=by simpa using e0
     simp only[this];simp;have hpos:0<listed.toList.count false:=List.count_pos_iff.2 (by rw[<- e0];simp);simp at hpos;simp at hc;omega
    ·intro t ht
     have hne:o.dst≠some t:=fun e=>by
      simp only[isDst,List.any_eq_false]at ht;exact ht o (List.mem_of_getElem? hl') (by simp[e])
     rw[put_other _ _ _ _ hne];exact hk t ht
    ·intro j oj hj hoj
     by_cases e:i=j
     ·subst e
      have:oj=o:=Option.some.inj (hoj.symm.trans ho);subst this;refine⟨hv,fun e he hb=>?_⟩;have h1:=hall e he hb;by_cases q:i=e.on
      ·rw[<- q];exact getD_set_same (by omega)
      ·rw[getD_set_ne false q];simpa using h1
     ·rw[getD_set_ne false e]at hj
      obtain⟨h1,h2⟩:=hp j oj hj hoj;refine⟨hrd j _ _ w' (fun t ht=>?_) (hm _ h1),fun e' he hb=>?_⟩
      ·have hne:o.dst≠some t:=fun hd'=>by
        rcases own_spec hown hoj ht with h3 | h3 | ⟨e',he,hb,ok,hok,hkd⟩
        ·exact distinct_spec hdist i j o oj t hl' (by simpa using hoj) e hd' h3
        ·simp only[isDst,List.any_eq_false]at h3
         exact h3 o (List.mem_of_getElem? hl') (by simp[hd'])
        ·have h4:=h2 e' he hb
         have h5:i≠e'.on:=fun q=>by rw[<- q,getD_both h0]at h4;cases h4
         exact distinct_spec hdist i e'.on o ok t hl' (by simpa using hok) h5 hd' hkd
       exact(put_other _ _ _ _ hne).symm
      ·by_cases q:i=e'.on
       ·rw[<- q];exact getD_set_same (by omega)
       ·rw[getD_set_ne false q];exact h2 e' he hb
   unfold wpOp;rw[ho];simp only;unfold StepU at hstep
   split
   ·rename_i hw
    rw[if_pos hw]at hstep;refine .inl (Oper.wp_mono ?_ hstep);rintro a' w' ⟨v,rfl,hC',hv,hR⟩;exact go v w' hC' hv (fun j h=>hφ j _ w w' hC hR h)
   ·rename_i hw
    rw[if_neg hw]at hstep;exact go undef w hstep.1 hstep.2 (fun j h=>h)
theorem region_tie2{id:Nat}{l:List Oper}{w:World}(C:(Nat->Value)->World->Prop)(φ:Nat->(Nat->Value)->World->Prop)(R:(Nat->Value)->World->World->Prop)(rd:Nat->List Nat)(rk:Nat->Nat)(hm:P.follows .mixedOrders=true)
  (hB:(distinctB l&&rankB l.toArray rk&&ownB l.toArray rd&&insideB l.toArray)=true) (hC:C (slots a0) w.drew)
  (hrd:∀ i s s' w,(∀ t∈rd i,s t=s' t)->φ i s w->φ i s' w) (hφ:∀ i s w w',C s w->R s w w'->φ i s w->φ i s w') (hst:StepsU P l.toArray Q C φ R a0 0 l)
  (hQ:∀(f:Oper->Value) w,C (slots (putAll f l a0)) w->(∀ i o,l[i]?=some o->φ i (slots (putAll f l a0)) w)->Q .normal (putAll f l a0) w):(Code.region id l.toArray true).wp P Q a0 w:=by
 simp only[Bool.and_eq_true]at hB;refine wp_region_any hm (wpAny_tie2 (C:=C) (φ:=φ) (R:=R) (a0:=a0) rd rk hB.1.1.1 hB.1.1.2 (inside_spec hB.2) hB.1.2 hrd hφ hst (fun f w hC h=>hQ f w hC (fun i o ho=>h i o (by simpa using ho))) _ _ _ w.drew (by simp) (by simp) hC rfl rfl (fun _ _=>rfl) ?_);intro i o hi;simp at hi;rcases Nat.lt_or_ge i l.length with h | h
 ·simp[h]at hi
 ·simp[Nat.not_lt.2 h]at hi
/-! What each kind of operation must do. -/
theorem uu_val{k:Nat}{o:Oper}{a:Act}{w:World}(v:Value)(hw:Region.wanted o (yielded ops a.tmps)=true)(hr:(execOp a.eval o).run P w=.ok (.value v) w)(hC:C (slots (a.put o.dst v)) w)(hv:φ k (slots (a.put o.dst v)) w)(hR:R (slots a) w w):StepU P ops Q C φ R k o a w:=by
 unfold StepU;rw[if_pos hw];unfold Oper.wp;rw[hr];exact⟨v,rfl,hC,hv,hR⟩
theorem uu_new{k:Nat}{o:Oper}{a:Act}{w w':World}(v:Value)(hw:Region.wanted o (yielded ops a.tmps)=true)(hr:(execOp a.eval o).run P w=.ok (.value v) w')(hC:C (slots (a.put o.dst v)) w')(hv:φ k (slots (a.put o.dst v)) w')(hR:R (slots a) w w'):StepU P ops Q C φ R k o a w:=by
 unfold StepU;rw[if_pos hw];unfold Oper.wp;rw[hr];exact⟨v,rfl,hC,hv,hR⟩
theorem uu_load{k:Nat}{o:Oper}{a:Act}{w:World}(T:TypeId)(x:Operand)(p v:Value)(ho:o.op=.load T x)(hw:Region.wanted o (yielded ops a.tmps)=true)(hp:a.eval x=p)
  (hr:(Instr.loadAt T p).run P w=.ok v w) (hC:C (slots (a.put o.dst v)) w) (hv:φ k (slots (a.put o.dst v)) w) (hR:R (slots a) w w):StepU P ops Q C φ R k o a w :=
 uu_val v hw (by
  unfold execOp;rw[ho];simp only[hp,Sem.run_bind,hr,Result.andThen_ok,Sem.run_pure]) hC hv hR
theorem uu_call{k:Nat}{o:Oper}{a:Act}{w:World}(f:FuncId)(args:Array Value)(hw:Region.wanted o (yielded ops a.tmps)=true)(he:(execOp a.eval o).run P w=.ok (.enter f args) w)
  (hc:Calls P f args w fun e w'=>∃ v,e=.returned v/\C (slots (a.put o.dst v)) w'/\φ k (slots (a.put o.dst v)) w'/\R (slots a) w w'):StepU P ops Q C φ R k o a w:=by
 unfold StepU;rw[if_pos hw];unfold Oper.wp;rw[he];refine Calls.mono hc ?_;rintro e w' ⟨v,rfl,h1,h2,h3⟩;exact⟨v,rfl,h1,h2,h3⟩
theorem uu_store{k:Nat}{o:Oper}{a:Act}{w w':World}(hw:Region.wanted o (yielded ops a.tmps)=true)(hd:o.dst=none)(hr:(execOp a.eval o).run P w=.ok .skip w')(hC:C (slots a) w')(hv:φ k (slots a) w')(hR:R (slots a) w w'):StepU P ops Q C φ R k o a w:=by
 unfold StepU;rw[if_pos hw];unfold Oper.wp;rw[hr];refine⟨undef,by rw[hd],?_,?_,hR⟩
 ·rw[hd];exact hC
 ·rw[hd];exact hv
end
open Go.RowKit
def pw(x:Nat):Array Value:=#[.int .u64 ((x%18446744073709551616:Nat):Int),.int .u64 ((x / 18446744073709551616%18446744073709551616:Nat):Int),.int .u64 ((x / 340282366920938463463374607431768211456%18446744073709551616:Nat):Int),.int .u64 ((x / 6277101735386680763835789423207666416102355444464034512896%18446744073709551616:Nat):Int)]
open Go.RowKit
theorem eqW(a0 a1 a2 a3 b0 b1 b2 b3:Nat)(w:World) :
  (Op.equalIn 10000 24 (.agg #[.int .u64 a0,.int .u64 a1,.int .u64 a2,.int .u64 a3]) (.agg #[.int .u64 b0,.int .u64 b1,.int .u64 b2,.int .u64 b3])).run Tryz.prog w=.ok ((a0 == b0)&&((a1 == b1)&&((a2 == b2)&&(a3 == b3)))) w:=by
 have u3:=Tryz.underlying22;have a3':=Tryz.isAgg22;have z3:=Tryz.sizeOf22;rw[show(10000:Nat)=9999+1 from rfl,Op.equalIn];simp only[Sem.run_bind,run_underlying Tryz.underlying24,Result.andThen_ok];simp only[Std.Legacy.Range.forIn_eq_forIn_range',Std.Legacy.Range.size,Nat.sub_zero,Nat.add_sub_cancel,Nat.div_one,List.range'_succ,List.range'_zero,List.forIn_cons,List.forIn_nil]
 go_simp
 simp only[Int.natCast_inj];by_cases h0:a0=b0
 ·by_cases h1:a1=b1
  ·by_cases h2:a2=b2
   ·by_cases h3:a3=b3
    ·simp[h0,h1,h2,h3]
    ·simp[h0,h1,h2,h3]
   ·simp[h0,h1,h2]
  ·simp[h0,h1]
 ·simp[h0]
open Go.RowKit
theorem of_exact(n:Nat)(w:World) :
  Calls Tryz.prog 70 #[.int .u64 n] w fun e w'=>e=.returned (.agg #[.int .u64 n,.int .u64 0,.int .u64 0,.int .u64 0])/\w.alloc (.cells #[.int .u64 n,.int .u64 0,.int .u64 0,.int .u64 0] 24)=w':=by
 go_enter Tryz.func70,Tryz.ntmps70;go_wp2
 go_returns
 exact⟨rfl,rfl⟩
theorem small_yes(a0:Nat)(w:World) :
  Calls Tryz.prog 112 #[.agg #[.int .u64 a0,.int .u64 0,.int .u64 0,.int .u64 0]] w fun e w'=>e=.returned (.tuple #[.int .u64 a0,.bool true])/\Below w.heap.size w w':=by
 have he:∀ w,(Op.equalIn 10000 24 (.agg #[.int .u64 a0,.int .u64 0,.int .u64 0,.int .u64 0]) (.agg #[.int .u64 a0,.int .u64 0,.int .u64 0,.int .u64 0])).run Tryz.prog w=.ok true w:=fun w=>by
  have:=eqW a0 0 0 0 a0 0 0 0 w;simpa using this
 go_enter Tryz.func112,Tryz.ntmps112;go_wp2
 go_region_with (go_at_call 70;refine(of_exact a0 _).mono ?_;rintro e w' ⟨rfl,rfl⟩)
 all_goals go_wp2
 all_goals (go_ret2;exact⟨rfl,by go_grown⟩)
theorem small_no(a0 a1 a2 a3:Nat)(h:¬(a1=0/\a2=0/\a3=0))(w:World) :
  Calls Tryz.prog 112 #[.agg #[.int .u64 a0,.int .u64 a1,.int .u64 a2,.int .u64 a3]] w fun e w'=>e=.returned (.tuple #[.int .u64 0,.bool false])/\Below w.heap.size w w':=by
 have he:∀ w,(Op.equalIn 10000 24 (.agg #[.int .u64 a0,.int .u64 a1,.int .u64 a2,.int .u64 a3]) (.agg #[.int .u64 a0,.int .u64 0,.int .u64 0,.int .u64 0])).run Tryz.prog w=.ok false w:=fun w=>by
  have:=eqW a0 a1 a2 a3 a0 0 0 0 w;have hf:(a0 == a0&&(a1 == 0&&(a2 == 0&&a3 == 0)))=false:=by simpa using h
  rw[hf]at this;exact this
 clear h;go_enter Tryz.func112,Tryz.ntmps112;go_wp2
 go_region_with (go_at_call 70;refine(of_exact a0 _).mono ?_;rintro e w' ⟨rfl,rfl⟩)
 all_goals go_wp2
 all_goals (go_ret2;exact⟨rfl,by go_grown⟩)
open Go.RowKit
-- WHAT Small COMES TO.
theorem small_any(x:Nat)(w:World) :
  Calls Tryz.prog 112 #[wv x] w fun e w'=>e=.returned (.tuple #[.int .u64 ((if x%2^256<18446744073709551616 then x%2^256 else 0:Nat):Int),.bool (decide (x%2^256<18446744073709551616))])/\Below w.heap.size w w':=by
 obtain⟨a0,a1,a2,a3,u0,u1,u2,u3,ea,na⟩:=wv_parts x;rw[ea,<- na];by_cases h:a1=0/\a2=0/\a3=0
 ·obtain⟨rfl,rfl,rfl⟩:=h
  have e:n4 a0 0 0 0=a0:=by unfold n4;omega
  rw[e,if_pos u0,decide_eq_true u0];exact small_yes a0 w
 ·have e:¬n4 a0 a1 a2 a3<18446744073709551616:=by unfold n4;omega
  rw[if_neg e,decide_eq_false e];exact small_no a0 a1 a2 a3 h w
theorem steps_few(a0 a1 a2 a3 n:Nat)(hn:(n:Int)<=256)(w:World)
  (hS:∀ w,Calls Tryz.prog 112 #[.agg #[.int .u64 a0,.int .u64 a1,.int .u64 a2,.int .u64 a3]] w fun e w'=>e=.returned (.tuple #[.int .u64 n,.bool true])/\Below w.heap.size w w') :
  Calls Tryz.prog 101 #[.agg #[.int .u64 a0,.int .u64 a1,.int .u64 a2,.int .u64 a3]] w fun e w'=>e=.returned (.tuple #[.int .i64 ((n / 64:Nat):Int),.int .i64 ((n%64:Nat):Int)])/\Below w.heap.size w w':=by
 have hn':¬(256:Int)<n:=by omega
 have h0:(0:Int)<=n:=by omega
 go_enter Tryz.func101,Tryz.ntmps101
 go_wp2_with fail
 refine(hS _).mono ?_;rintro e w1 ⟨rfl,hb⟩;have hb':Below w.heap.size w w1:=Below.trans (by go_grown) (hb.mono (by simp));clear hb;go_wp2
 go_outline
 go_ret2
 exact⟨by simp,hb'⟩
theorem steps_many(a0 a1 a2 a3 n:Nat)(b:Bool)(hn:b=true->(256:Int)<n)(w:World)
  (hS:∀ w,Calls Tryz.prog 112 #[.agg #[.int .u64 a0,.int .u64 a1,.int .u64 a2,.int .u64 a3]] w fun e w'=>e=.returned (.tuple #[.int .u64 n,.bool b])/\Below w.heap.size w w') :
  Calls Tryz.prog 101 #[.agg #[.int .u64 a0,.int .u64 a1,.int .u64 a2,.int .u64 a3]] w fun e w'=>e=.returned (.tuple #[.int .i64 4,.int .i64 0])/\Below w.heap.size w w':=by
 have h0:(0:Int)<=n:=by omega
 cases b
 all_goals
  try have hn':=hn rfl
  clear hn;go_enter Tryz.func101,Tryz.ntmps101
  go_wp2_with fail
  refine(hS _).mono ?_;rintro e w1 ⟨rfl,hb⟩;have hb':Below w.heap.size w w1:=Below.trans (by go_grown) (hb.mono (by simp));clear hb;go_wp2
  go_ret2
  exact⟨by simp,hb'⟩
-- WHAT steps COMES TO.
theorem steps_any(x:Nat)(w:World) :
  Calls Tryz.prog 101 #[wv x] w fun e w'=>e=.returned (.tuple #[.int .i64 ((min (x%2^256) 256 / 64:Nat):Int),.int .i64 ((min (x%2^256) 256%64:Nat):Int)])/\Below w.heap.size w w':=by
 have hS:=fun w=>small_any x w;obtain⟨a0,a1,a2,a3,u0,u1,u2,u3,ea,na⟩:=wv_parts x;generalize x%2^256=y at *;rw[ea]at hS;rw[ea];by_cases h:y<=256
 ·rw[if_pos (by omega),decide_eq_true (by omega)]at hS
  rw[Nat.min_eq_left h];exact steps_few a0 a1 a2 a3 y (by omega) w hS
 ·rw[Nat.min_eq_right (by omega)]
  exact steps_many a0 a1 a2 a3 _ _ (fun hb=>by rw[if_pos (by simpa using hb)];omega) w hS
open Go.RowKit
def Holds4(B:Nat)(v0 v1 v2 v3:Value)(wx:World):Prop:=wx.cell? ⟨B,0,none⟩=some v0/\wx.cell? ⟨B,1,none⟩=some v1/\wx.cell? ⟨B,2,none⟩=some v2/\wx.cell? ⟨B,3,none⟩=some v3
theorem Holds4.below{B:Nat}{v0 v1 v2 v3:Value}{wx w':World}(h:Holds4 B v0 v1 v2 v3 wx)(hb:Below wx.heap.size wx w')(hB:B<wx.heap.size):Holds4 B v0 v1 v2 v3 w' :=
 ⟨(hb.cell hB).trans h.1,(hb.cell hB).trans h.2.1,(hb.cell hB).trans h.2.2.1,(hb.cell hB).trans h.2.2.2⟩
open Go.RowKit
def pN(x p:Nat):Nat:=x%2^256 / 2^(64*p)%18446744073709551616
theorem pN_le(x p:Nat):pN x p<18446744073709551616:=by unfold pN;omega
theorem heap3(w:World)(A B C:Obj):(((w.alloc A).alloc B).alloc C).heap[w.heap.size]?=some A/\(((w.alloc A).alloc B).alloc C).heap[w.heap.size+1]?=some B/\(((w.alloc A).alloc B).alloc C).heap[w.heap.size+1+1]?=some C:=by
 show(((w.heap.push A).push B).push C)[w.heap.size]?=_/\(((w.heap.push A).push B).push C)[w.heap.size+1]?=_/\(((w.heap.push A).push B).push C)[w.heap.size+1+1]?=_;refine⟨?_,?_,?_⟩
 ·simp[Array.getElem?_push]
  omega
 ·have h:w.heap.size+1≠(((w.heap.push A).push B)).size:=by simp
  rw[Array.getElem?_push,if_neg h,Array.getElem?_push,if_pos (by simp)]
 ·rw[Array.getElem?_push,if_pos (by simp)]
theorem wpList_store_row{P:Program}{ops:Array Oper}{rest:List Oper}{o:Oper}{a:Act}{w:World}{Q:Exit->Act->World->Prop}(hgd:o.guard=none)(ty:TypeId)(x y:Operand)(ho:o.op=.store ty x y)
  (g:Nat) (cells:Array Value) (hx:a.eval x=.pointer (some ⟨g,0,none⟩)) (hy:a.eval y=.agg cells)
  (t:TypeId) (old:Array Value) (hg:w.heap[g]?=some (.cells old t (0,0))) (hi:(P.info? ty).map (·.size)=some cells.size)
  (hold:old.size=cells.size) (h1:cells.all (·.oneCell')=true)
  (h:wpList P ops Q rest (a.put o.dst undef) (w.setRow g cells)):wpList P ops Q (o::rest) a w :=
 wpList_plain hgd fun _ hK=>wp_store_row ty x y ho g cells hx hy t old hg hi hold h1 (hK _ _ h)
open Go.RowKit
def vd(d:Nat->Nat):Nat->Nat
 | 0=>0
 | n+1=>vd d n+65536^n*d n
theorem vd_congr{d e:Nat->Nat}{n:Nat}(h:∀ j,j<n->d j=e j):vd d n=vd e n:=by
 induction n with
 | zero=>rfl
 | succ n ih=>simp only[vd];rw[ih (fun j hj=>h j (by omega)),h n (by omega)]
theorem vd_lt{d:Nat->Nat}{n:Nat}(h:∀ j,j<n->d j<65536):vd d n<65536^n:=by
 induction n with
 | zero=>simp[vd]
 | succ n ih =>
  have h1:=ih (fun j hj=>h j (by omega));have h2:65536^n*d n<=65536^n*65535:=Nat.mul_le_mul_left _ (by have:=h n (by omega);omega);simp only[vd];rw[Nat.pow_succ];omega
theorem vd_mod(X n:Nat):vd (fun j=>X / 65536^j%65536) n=X%65536^n:=by
 induction n with
 | zero=>simp[vd,Nat.mod_one]
 | succ n ih=>simp only[vd];rw[ih,Nat.pow_succ,Nat.mod_mul]
def pad(d:Nat->Nat)(n j:Nat):Nat:=if j<n then d j else 0
theorem vd_pad(d:Nat->Nat)(n k:Nat)(h:n<=k):vd (pad d n) k=vd d n:=by
 induction k with
 | zero =>
  obtain rfl:n=0:=by omega
  rfl
 | succ k ih =>
  by_cases e:n=k+1
  ·subst e;exact vd_congr (fun j hj=>by simp[pad,hj])
  ·simp only[vd]
   rw[ih (by omega),show pad d n k=0 by simp[pad];omega];simp
def dl(d:Nat->Nat)(n:Nat):List Value:=(List.range n).map fun j=>.int .u64 (d j:Nat)
theorem dl_len(d:Nat->Nat)(n:Nat):(dl d n).length=n:=by simp[dl]
theorem dl_at(d:Nat->Nat)(n j:Nat)(h:j<n):(dl d n)[j]?=some (.int .u64 (d j:Nat)):=by simp[dl,h]
def upd(d:Nat->Nat)(k y j:Nat):Nat:=if j=k then y else d j
theorem dl_snoc(d:Nat->Nat)(k y:Nat):dl d k++[.int .u64 (y:Nat)]=dl (upd d k y) (k+1):=by
 unfold dl;rw[List.range_succ,List.map_append];congr 1
 ·apply List.map_congr_left
  intro j hj;have:j<k:=by simpa using hj
  simp[upd,show ¬j=k by omega]
 ·simp[upd]
theorem upd_lt{d:Nat->Nat}{k y:Nat}(h:∀ j,j<k->d j<65536)(hy:y<65536):∀ j,j<k+1->upd d k y j<65536:=fun j hj=>by
 unfold upd;by_cases e:j=k
 ·simp[e,hy]
 ·simp only[e,if_false];exact h j (by omega)
theorem vd_upd(d:Nat->Nat)(k y:Nat):vd (upd d k y) (k+1)=vd d k+65536^k*y:=by
 simp only[vd];rw[vd_congr (d:=upd d k y) (e:=d) (fun j hj=>by simp[upd,show ¬j=k by omega])];simp[upd]
def Dg(w:World)(b n:Nat)(d:Nat->Nat):Prop:=b<w.heap.size/\∀ j,j<n->w.cell? ⟨b,j,none⟩=some (.int .u64 (d j:Nat))
theorem Dg.below{w w':World}{b n:Nat}{d:Nat->Nat}(h:Dg w b n d)(hb:Below w.heap.size w w'):Dg w' b n d :=
 ⟨Nat.lt_of_lt_of_le h.1 hb.size,fun j hj=>(hb.cell (p:=⟨b,j,none⟩) h.1).trans (h.2 j hj)⟩
def MkDg(n V:Nat)(w:World)(e:Ending)(w':World):Prop :=
 ∃(b cap:Nat) (d:Nat->Nat),e=.returned (.slice (some ⟨b,0,none⟩) n cap)/\w.heap.size<=b/\Dg w' b n d/\(∀ j,j<n->d j<65536)/\vd d n=V/\Below w.heap.size w w'
theorem info22:(Tryz.prog.info? 22).map (fun i=>(i.zero,i.size,i.bytes))=some (some (.int .u64 0),1,8):=by kernel_rfl
theorem push_rel{w wr w1:World}{base:Nat}{v v' X:Value}{k y:Nat}{ns:Nat->Nat}(hown:wr.ownsRow base 22 1 v k (dl ns k))(hb:Below base w wr)(hsz:base<=wr.heap.size)
  (hown':w1.ownsRow base 22 1 v' (k+1) (dl ns k++[.int .u64 (y:Nat)])) (hgrow:(wr.alloc (.cells #[X] 22)).grownBy w1 v.ownBlock) :
  w1.ownsRow base 22 1 v' (k+1) (dl (upd ns k y) (k+1))/\Below base w w1:=by
 rw[dl_snoc]at hown';exact⟨hown',(hb.alloc hsz _).grown hgrow (by simp;omega) (fun j hj=>(hown.lt j hj).1)⟩
theorem made_of{w w':World}{base:Nat}{v:Value}{n:Nat}{d:Nat->Nat}(hbs:w.heap.size<=base)(h:w'.ownsRow base 22 1 v n (dl d n))(hn:0<n)(hd:∀ j,j<n->d j<65536)(hb:Below w.heap.size w w'):MkDg n (vd d n) w (.returned v) w':=by
 obtain⟨hl,h1⟩:=h;rcases h1 with⟨-,h0⟩ | ⟨g,cap,cur,rfl,hg,hc,hnc,hm,hcs,ht⟩
 ·omega
 ·refine⟨g,cap,d,rfl,Nat.le_trans hbs hg,⟨(Array.getElem?_eq_some_iff.1 hc).1,fun j hj=>?_⟩,hd,rfl,hb⟩
  rw[cell_of_row _ _ _ _ _ _ hc,<- dl_at d n j hj,<- ht];simp only[Nat.mul_one,List.getElem?_take,hj,if_true];simp
theorem and_low16(z:Nat)(h:z<18446744073709551616):bits .and .u64 z 65535=((z%65536:Nat):Int):=by
 have:=bits_and_u64_nat z 65535 h (by omega);rw[show z &&& 65535=z%65536 from Nat.and_two_pow_sub_one_eq_mod z 16]at this;exact this
theorem dg_of(x k p s:Nat)(hp:k / 4=p)(hs:16*(k%4)=s):pN x p / 2^s%65536=x%115792089237316195423570985008687907853269984665640564039457584007913129639936 / 65536^k%65536:=by
 subst hp hs;unfold pN;have e:18446744073709551616=2^(16*(k%4))*2^(64 - 16*(k%4)):=by rw[<- Nat.pow_add,show 16*(k%4)+(64 - 16*(k%4))=64 by omega]
 have e2:(65536:Nat)=2^16:=by rfl
 rw[e,Nat.mod_mul_right_div_self,e2,Nat.mod_mod_of_dvd _ (Nat.pow_dvd_pow 2 (by omega)),Nat.div_div_eq_div_mul,<- Nat.pow_add,<- Nat.pow_mul,show 64*(k / 4)+16*(k%4)=16*k by omega]
theorem digits_walk(x a0 a1 a2 a3:Nat)(hp:∀ p,p<4->(#[Value.int .u64 a0,.int .u64 a1,.int .u64 a2,.int .u64 a3]:Array Value)[p]?=some (.int .u64 (pN x p:Nat)))(w:World) :
  Calls Tryz.prog 61 #[.agg #[.int .u64 a0,.int .u64 a1,.int .u64 a2,.int .u64 a3]] w (MkDg 16 (x%115792089237316195423570985008687907853269984665640564039457584007913129639936) w):=by
 have HP:=Lib.hid hp;clear hp;obtain⟨i0,hi,hz0,hz1,hz2⟩:=info_parts info22;go_enter Tryz.func61,Tryz.ntmps61;go_wp2
 go_loopw [3,4] (fun v i wr=>∃ k:Nat,k<=16/\i=.int .i64 k/\Hid (wr.ownsRow (w.heap.size+1) 22 1 v k (dl (fun j=>x%115792089237316195423570985008687907853269984665640564039457584007913129639936 / 65536^j%65536) k)/\Below (w.heap.size+1) (w.alloc (.cells #[Value.int .u64 a0,.int .u64 a1,.int .u64 a2,.int .u64 a3] 24)) wr))
  (fun _ i _=>16 - (intOf i).toNat)
 case atStart =>
  refine⟨0,by omega,rfl,Lib.hid ⟨?_,by go_grown⟩⟩;have h:=World.ownsRow_made (base:=w.heap.size+1) (e:=22) (size:=1) (w.alloc (.cells #[Value.int .u64 a0,.int .u64 a1,.int .u64 a2,.int .u64 a3] 24)) #[] 0 (by simp) (by decide) (by simp);rw[World.size_alloc]at h;exact h
 case round =>
  obtain⟨k,hk,rfl,H⟩:=hrel;have hk0:(0:Int)<=k:=by omega
  have hk1:(k:Int)<=16:=by omega
  by_cases hlt:k<16
  ·obtain⟨p,hp⟩:∃ p:Nat,(k:Int) / 4=(p:Int):=⟨k / 4,by omega⟩
   obtain⟨s,hs⟩:∃ s:Nat,16*((k:Int)%4)=(s:Int):=⟨16*(k%4),by omega⟩
   have hp0:(0:Int)<=p:=by omega
   have hp1:(p:Int)<4:=by omega
   have hs0:(0:Int)<=s:=by omega
   have hs1:(s:Int)<64:=by omega
   have ca:wr.cell? ⟨w.heap.size,p,none⟩=some (.int .u64 (pN x p:Nat)):=(H.out.2.cell (p:=⟨w.heap.size,p,none⟩) (Nat.lt_succ_self _)).trans ((cell_of_row _ _ p _ _ _ (heap_alloc_new w _)).trans (HP.out p (by omega)));have hpl:=pN_le x p;have hv:bits .and .u64 (((pN x p:Nat):Int) / 2^s) 65535=((x%115792089237316195423570985008687907853269984665640564039457584007913129639936 / 65536^k%65536:Nat):Int):=by
    rw[<- dg_of x k p s (by omega) (by omega)];have h:=and_low16 (pN x p / 2^s) (Nat.lt_of_le_of_lt (Nat.div_le_self _ _) hpl);simpa using h
   have HV:=Lib.hid hv;clear hv
   go_wp2_with (at_builtin;refine wpList_append_own _ rfl _ _ 86 rfl (w.heap.size+1) 22 i0 (.int .u64 0) 1 8 Tryz.underlying86 hi hz0 hz1 hz2 rfl (by decide) _ _ _ rfl (H.out.1.alloc _) ⟨wr.heap.size,0,none⟩ 1 1 [.int .u64 (bits .and .u64 (((pN x p:Nat):Int) / 2^s) 65535)] rfl rfl ?c1 ?c2 ?c3 ?c4 ?c5 ?_)
   case c1=>exact cell_one_new _ _ _
   case c2=>intro u hu;simp at hu;subst hu;rfl
   case c3=>unfold maxLen;omega
   case c4=>omega
   case c5=>have:=H.out.2.size;simp at this;simp;omega
   intro v' w1 hown' hgrow _;rw[HV.out]at hown';have HN:=Lib.hid (push_rel H.out.1 H.out.2 (by have:=H.out.2.size;simp at this;omega) hown' hgrow);clear hown' hgrow;go_wp2
   go_roundw
   case rel =>
    refine⟨k+1,by omega,by go_num,Lib.hid ⟨?_,HN.out.2⟩⟩;have e:dl (upd (fun j=>x%115792089237316195423570985008687907853269984665640564039457584007913129639936 / 65536^j%65536) k (x%115792089237316195423570985008687907853269984665640564039457584007913129639936 / 65536^k%65536)) (k+1)=dl (fun j=>x%115792089237316195423570985008687907853269984665640564039457584007913129639936 / 65536^j%65536) (k+1):=by
     unfold dl;apply List.map_congr_left;intro j _;unfold upd;by_cases h:j=k <;> simp[h]
    rw[<- e];exact HN.out.1
   case measure=>simp[intOf];omega
  ·obtain rfl:k=16:=by omega
   go_wp2;go_ret;have R:=made_of (w:=w) (by omega) H.out.1 (by omega) (fun j _=>by omega) (Below.trans (by go_grown) (H.out.2.mono (by omega)));rw[vd_mod]at R;rw[show x%115792089237316195423570985008687907853269984665640564039457584007913129639936%65536^16=x%115792089237316195423570985008687907853269984665640564039457584007913129639936 from Nat.mod_mod _ _]at R;exact R
-- WHAT Digits COMES TO.
theorem digits_any(x:Nat)(w:World):Calls Tryz.prog 61 #[wv x] w (MkDg 16 (x%115792089237316195423570985008687907853269984665640564039457584007913129639936) w):=by
 refine digits_walk x _ _ _ _ (fun p hp=>?_) w;have h:p=0\/p=1\/p=2\/p=3:=by omega
 rcases h with rfl | rfl | rfl | rfl
 ·simp[pN]
 ·simp[pN];omega
 ·simp[pN];omega
 ·simp[pN];omega
open Go.RowKit
theorem pow_split{s t:Nat}(h:s+t=64):2^s*2^t=18446744073709551616:=by rw[<- Nat.pow_add,h]
theorem cmb_up{p q s t:Nat}(hq:q<18446744073709551616)(h:s+t=64) :
  bits .or .u64 (IntKind.u64.wrap ((p:Int)*2^s)) ((q:Int) / 2^t)=((p*2^s%18446744073709551616+q / 2^t:Nat):Int):=by
 have hD:=pow_split h;have hT:0<2^t:=Nat.two_pow_pos t;have hqs:q / 2^t<2^s:=by rw[Nat.div_lt_iff_lt_mul hT,hD];exact hq
 have e1:IntKind.u64.wrap ((p:Int)*2^s)=((p*2^s%18446744073709551616:Nat):Int):=by
  rw[IntKind.wrap_u64];have:((p:Int)*2^s)=((p*2^s:Nat):Int):=by simp
  rw[this];omega
 have e2:((q:Int) / 2^t)=((q / 2^t:Nat):Int):=by simp
 have e3:p*2^s%18446744073709551616=2^s*(p%2^t):=by
  rw[<- hD,Nat.mul_comm p,Nat.mul_mod_mul_left]
 have hl:p*2^s%18446744073709551616<18446744073709551616:=Nat.mod_lt _ (by omega);have hr:q / 2^t<18446744073709551616:=Nat.lt_of_le_of_lt (Nat.div_le_self _ _) hq;rw[e1,e2,bits_or_u64_nat _ _ hl hr,e3,<- Nat.two_pow_add_eq_or_of_lt hqs]
theorem cmb_down{p q s t:Nat}(hp:p<18446744073709551616)(h:s+t=64) :
  bits .or .u64 ((p:Int) / 2^s) (IntKind.u64.wrap ((q:Int)*2^t))=((p / 2^s+q*2^t%18446744073709551616:Nat):Int):=by
 have hD:=pow_split h;have hS:0<2^s:=Nat.two_pow_pos s;have hps:p / 2^s<2^t:=by rw[Nat.div_lt_iff_lt_mul hS,Nat.mul_comm,hD];exact hp
 have e1:IntKind.u64.wrap ((q:Int)*2^t)=((q*2^t%18446744073709551616:Nat):Int):=by
  rw[IntKind.wrap_u64];have:((q:Int)*2^t)=((q*2^t:Nat):Int):=by simp
  rw[this];omega
 have e2:((p:Int) / 2^s)=((p / 2^s:Nat):Int):=by simp
 have e3:q*2^t%18446744073709551616=2^t*(q%2^s):=by
  rw[<- hD,Nat.mul_comm (2^s),Nat.mul_comm q,Nat.mul_mod_mul_left]
 have hl:q*2^t%18446744073709551616<18446744073709551616:=Nat.mod_lt _ (by omega);have hr:p / 2^s<18446744073709551616:=Nat.lt_of_le_of_lt (Nat.div_le_self _ _) hp;rw[e1,e2,bits_or_u64_nat _ _ hr hl,e3,Nat.or_comm,<- Nat.two_pow_add_eq_or_of_lt hps,Nat.add_comm]
theorem up_split{p s t:Nat}(h:s+t=64):p*2^s=p*2^s%18446744073709551616+18446744073709551616*(p / 2^t):=by
 have hD:=pow_split h;have hS:0<2^s:=Nat.two_pow_pos s;have e:p*2^s / 18446744073709551616=p / 2^t:=by
  rw[<- hD,Nat.mul_comm p,Nat.mul_div_mul_left _ _ hS]
 have:=Nat.div_add_mod (p*2^s) 18446744073709551616;rw[e]at this;omega
theorem cmb_lt{p q s t:Nat}(hq:q<18446744073709551616)(h:s+t=64):p*2^s%18446744073709551616+q / 2^t<18446744073709551616:=by
 have hD:=pow_split h;have hT:0<2^t:=Nat.two_pow_pos t;have hqs:q / 2^t<2^s:=by rw[Nat.div_lt_iff_lt_mul hT,hD];exact hq
 have e3:p*2^s%18446744073709551616=2^s*(p%2^t):=by
  rw[<- hD,Nat.mul_comm p,Nat.mul_mod_mul_left]
 have hm:p%2^t<2^t:=Nat.mod_lt _ hT;have:2^s*(p%2^t)+2^s<=2^s*2^t:=by
  rw[<- Nat.mul_succ];exact Nat.mul_le_mul_left _ hm
 omega
theorem n4_up(p0 p1 p2 p3:Nat){s t:Nat}(h:s+t=64) :
  n4 (p0*2^s%18446744073709551616+0 / 2^t) (p1*2^s%18446744073709551616+p0 / 2^t) (p2*2^s%18446744073709551616+p1 / 2^t) (p3*2^s%18446744073709551616+p2 / 2^t)
   + 115792089237316195423570985008687907853269984665640564039457584007913129639936*(p3 / 2^t)=n4 p0 p1 p2 p3*2^s:=by
 have h0:=up_split (p:=p0) h;have h1:=up_split (p:=p1) h;have h2:=up_split (p:=p2) h;have h3:=up_split (p:=p3) h;have e:n4 p0 p1 p2 p3*2^s=n4 (p0*2^s) (p1*2^s) (p2*2^s) (p3*2^s):=by unfold n4;grind
 rw[e,Nat.zero_div];unfold n4;generalize p0*2^s=c0 at *;generalize p1*2^s=c1 at *;generalize p2*2^s=c2 at *;generalize p3*2^s=c3 at *;omega
theorem n4_down(p0 p1 p2 p3 p4:Nat){s t:Nat}(h:s+t=64) :
  n4 (p0 / 2^s+p1*2^t%18446744073709551616) (p1 / 2^s+p2*2^t%18446744073709551616) (p2 / 2^s+p3*2^t%18446744073709551616) (p3 / 2^s+p4*2^t%18446744073709551616)
   = n4 p0 p1 p2 p3 / 2^s+6277101735386680763835789423207666416102355444464034512896*(p4*2^t%18446744073709551616):=by
 have hD:=pow_split h;have hS:0<2^s:=Nat.two_pow_pos s;have h1:=up_split (p:=p1) (s:=t) (t:=s) (by omega);have h2:=up_split (p:=p2) (s:=t) (t:=s) (by omega);have h3:=up_split (p:=p3) (s:=t) (t:=s) (by omega)
 -- the whole times 2^t,by parts
 have e:n4 p0 p1 p2 p3=p0+2^s*(p1*2^t+18446744073709551616*(p2*2^t)+340282366920938463463374607431768211456*(p3*2^t)):=by
  unfold n4;have:∀ p,18446744073709551616*p=2^s*(p*2^t):=fun p=>by rw[<- hD];grind
  have a1:=this p1;have a2:=this (18446744073709551616*p2);have a3:=this (340282366920938463463374607431768211456*p3);have b2:18446744073709551616*p2*2^t=18446744073709551616*(p2*2^t):=by grind
  have b3:340282366920938463463374607431768211456*p3*2^t=340282366920938463463374607431768211456*(p3*2^t):=by grind
  rw[b2]at a2;rw[b3]at a3;rw[Nat.mul_add,Nat.mul_add,<- a1,<- a2,<- a3];omega
 rw[e,Nat.add_mul_div_left _ _ hS];unfold n4;generalize p1*2^t=c1 at *;generalize p2*2^t=c2 at *;generalize p3*2^t=c3 at *;generalize p4*2^t=c4 at *;omega
open Go.RowKit
theorem part_neg(i:Int)(b:Nat)(h:i<0)(w:World):Calls Tryz.prog 122 #[.int .i64 i,.pointer (some ⟨b,0,none⟩)] w fun e w'=>e=.returned (.int .u64 0)/\w'=w:=by
 go_enter Tryz.func122,Tryz.ntmps122;go_wp2;go_ret;exact⟨rfl,rfl⟩
theorem part_at(i b:Nat)(v:Value)(h0:(0:Int)<=i)(h:(i:Int)<4)(w:World)(hc:w.cell? ⟨b,i,none⟩=some v):Calls Tryz.prog 122 #[.int .i64 i,.pointer (some ⟨b,0,none⟩)] w fun e w'=>e=.returned v/\w'=w:=by
 go_enter Tryz.func122,Tryz.ntmps122;go_wp2;go_ret;exact⟨rfl,rfl⟩
theorem region_still{P:Program}{id:Nat}{Q:Exit->Act->World->Prop}{a:Act}{w:World}{l:List Oper}(n:Nat)(hm:P.follows .mixedOrders=true)(hB:Region.lexTailB .any l.toArray n=true)
  (h:wpStill P l.toArray w.drew (fun a'=>wpList P l.toArray Q (l.drop n) a' w.drew) (l.take n) a):(Code.region id l.toArray true).wp P Q a w:=wp_region_still_tail n hm hB h
theorem shl_walk(k0 k1 k2 k3 a0 a1 a2 a3 pm p0 p1 p2 p3 s t:Nat)(wh jm j0 j1 j2 j3:Int)(h0:(0:Int)<=s)(h64:(s:Int)<64)
  (ht:IntKind.i64.wrap (64 - (s:Int))=(t:Int)) (ht64:(t:Int)<=64)
  (e0:IntKind.i64.wrap (-wh)=j0) (e1:IntKind.i64.wrap (1 - wh)=j1) (e2:IntKind.i64.wrap (2 - wh)=j2) (e3:IntKind.i64.wrap (3 - wh)=j3)
  (g0:IntKind.i64.wrap (j0 - 1)=jm) (g1:IntKind.i64.wrap (j1 - 1)=j0) (g2:IntKind.i64.wrap (j2 - 1)=j1) (g3:IntKind.i64.wrap (j3 - 1)=j2) (w:World)
  (hC:∀(b:Nat) (W:World),W.cell? ⟨b,0,none⟩=some (.int .u64 a0)->W.cell? ⟨b,1,none⟩=some (.int .u64 a1)->W.cell? ⟨b,2,none⟩=some (.int .u64 a2)->W.cell? ⟨b,3,none⟩=some (.int .u64 a3) ->
   (Calls Tryz.prog 122 #[.int .i64 jm,.pointer (some ⟨b,0,none⟩)] W fun e w'=>e=.returned (.int .u64 pm)/\w'=W) /\
   (Calls Tryz.prog 122 #[.int .i64 j0,.pointer (some ⟨b,0,none⟩)] W fun e w'=>e=.returned (.int .u64 p0)/\w'=W) /\
   (Calls Tryz.prog 122 #[.int .i64 j1,.pointer (some ⟨b,0,none⟩)] W fun e w'=>e=.returned (.int .u64 p1)/\w'=W) /\
   (Calls Tryz.prog 122 #[.int .i64 j2,.pointer (some ⟨b,0,none⟩)] W fun e w'=>e=.returned (.int .u64 p2)/\w'=W) /\
   (Calls Tryz.prog 122 #[.int .i64 j3,.pointer (some ⟨b,0,none⟩)] W fun e w'=>e=.returned (.int .u64 p3)/\w'=W))
  (hS:∀ w,Calls Tryz.prog 101 #[.agg #[.int .u64 k0,.int .u64 k1,.int .u64 k2,.int .u64 k3]] w fun e w'=>e=.returned (.tuple #[.int .i64 wh,.int .i64 s])/\Below w.heap.size w w') :
  Calls Tryz.prog 117 #[.agg #[.int .u64 k0,.int .u64 k1,.int .u64 k2,.int .u64 k3],.agg #[.int .u64 a0,.int .u64 a1,.int .u64 a2,.int .u64 a3]] w fun e w' =>
   e=.returned (.agg #[.int .u64 (bits .or .u64 (IntKind.u64.wrap ((p0:Int)*2^s)) ((pm:Int) / 2^t)),.int .u64 (bits .or .u64 (IntKind.u64.wrap ((p1:Int)*2^s)) ((p0:Int) / 2^t)),.int .u64 (bits .or .u64 (IntKind.u64.wrap ((p2:Int)*2^s)) ((p1:Int) / 2^t)),.int .u64 (bits .or .u64 (IntKind.u64.wrap ((p3:Int)*2^s)) ((p2:Int) / 2^t))])/\Below w.heap.size w w':=by
 have HC:=Lib.hid hC;clear hC;have G0:=Lib.hid g0;clear g0;have G1:=Lib.hid g1;clear g1;have G2:=Lib.hid g2;clear g2;have G3:=Lib.hid g3;clear g3;go_enter Tryz.func117,Tryz.ntmps117
 go_wp2_with fail
 refine(hS _).mono ?_;rintro e w1 ⟨rfl,hb⟩;obtain⟨x0,-,-⟩:=after1 (b:=w.heap.size+1) (i:=0) (v:=.int .u64 a0) hb (by simp) (by go_cell) (by go_cell);obtain⟨x1,-,-⟩:=after1 (b:=w.heap.size+1) (i:=1) (v:=.int .u64 a1) hb (by simp) (by go_cell) (by go_cell);obtain⟨x2,-,-⟩:=after1 (b:=w.heap.size+1) (i:=2) (v:=.int .u64 a2) hb (by simp) (by go_cell) (by go_cell);obtain⟨x3,-,-⟩:=after1 (b:=w.heap.size+1) (i:=3) (v:=.int .u64 a3) hb (by simp) (by go_cell) (by go_cell);obtain⟨⟨q0,q1,q2,q3⟩,⟨f0,f1,f2,f3⟩,hz,hb'⟩:=after4 (w:=w) (B:=w.heap.size) (w.heap.size+1+1) hb (by go_grown) (by simp;omega) (by simp) (by go_cell) (by go_cell) (by go_cell) (by go_cell) (by go_cell) (by go_cell) (by go_cell) (by go_cell);clear hb;have hz1:w.heap.size+1<w1.heap.size:=by omega
 go_wp2;refine wp_loop_rounds 5 ?_;rw[rounds_succ];go_wp2;refine region_still 19 (by kernel_rfl) (by kernel_rfl) ?_;simp only[List.take_succ_cons,List.take_zero,List.drop_succ_cons,List.drop_zero]
 repeat still_step
 still_call (HC.out (w.heap.size+1) _ (by go_cell) (by go_cell) (by go_cell) (by go_cell)).2.1
 have g:=G0.out
 repeat still_step
 clear g
 still_call (HC.out (w.heap.size+1) _ (by go_cell) (by go_cell) (by go_cell) (by go_cell)).1
 repeat still_step
 refine wpStill_nil ?_;go_wp2;rw[rounds_succ];go_wp2;refine region_still 19 (by kernel_rfl) (by kernel_rfl) ?_;simp only[List.take_succ_cons,List.take_zero,List.drop_succ_cons,List.drop_zero]
 repeat still_step
 still_call (HC.out (w.heap.size+1) _ (by go_cell) (by go_cell) (by go_cell) (by go_cell)).2.2.1
 have g:=G1.out
 repeat still_step
 clear g
 still_call (HC.out (w.heap.size+1) _ (by go_cell) (by go_cell) (by go_cell) (by go_cell)).2.1
 repeat still_step
 refine wpStill_nil ?_;go_wp2;rw[rounds_succ];go_wp2;refine region_still 19 (by kernel_rfl) (by kernel_rfl) ?_;simp only[List.take_succ_cons,List.take_zero,List.drop_succ_cons,List.drop_zero]
 repeat still_step
 still_call (HC.out (w.heap.size+1) _ (by go_cell) (by go_cell) (by go_cell) (by go_cell)).2.2.2.1
 have g:=G2.out
 repeat still_step
 clear g
 still_call (HC.out (w.heap.size+1) _ (by go_cell) (by go_cell) (by go_cell) (by go_cell)).2.2.1
 repeat still_step
 refine wpStill_nil ?_;go_wp2;rw[rounds_succ];go_wp2;refine region_still 19 (by kernel_rfl) (by kernel_rfl) ?_;simp only[List.take_succ_cons,List.take_zero,List.drop_succ_cons,List.drop_zero]
 repeat still_step
 still_call (HC.out (w.heap.size+1) _ (by go_cell) (by go_cell) (by go_cell) (by go_cell)).2.2.2.2
 have g:=G3.out
 repeat still_step
 clear g
 still_call (HC.out (w.heap.size+1) _ (by go_cell) (by go_cell) (by go_cell) (by go_cell)).2.2.2.1
 repeat still_step
 refine wpStill_nil ?_;go_wp2;rw[rounds_succ];go_wp2;refine bodyPost_ret (by simp[results,Tryz.results117,go_sem,hz,q0,q1,q2,q3];try rfl) rfl ⟨rfl,?_⟩;go_grown
open Go.RowKit
def wpt(d:Nat->Nat)(p:Nat):Nat->Nat
 | 0=>0
 | k+1=>wpt d p k+if k / 4=p then d k*2^(16*(k%4))else 0
def mm(p k:Nat):Nat:=min 4 (k - 4*p)
theorem wpt_lt{d:Nat->Nat}(p:Nat):∀ k,(∀ j,j<k->d j<65536)->wpt d p k<2^(16*mm p k)
 | 0,_=>by simp[wpt,Nat.two_pow_pos]
 | k+1,h=>by
  have ih:=wpt_lt p k (fun j hj=>h j (by omega));have hd:=h k (by omega);unfold wpt;by_cases e:k / 4=p
  ·rw[if_pos e]
   have m0:mm p k=k%4:=by unfold mm;omega
   have m1:mm p (k+1)=k%4+1:=by unfold mm;omega
   rw[m0]at ih;rw[m1,show 16*(k%4+1)=16*(k%4)+16 by omega,Nat.pow_add];have h2:d k*2^(16*(k%4))<=65535*2^(16*(k%4)):=Nat.mul_le_mul_right _ (by omega);have e16:(2:Nat)^16=65536:=by rfl
   rw[e16];omega
  ·rw[if_neg e,Nat.add_zero]
   exact Nat.lt_of_lt_of_le ih (Nat.pow_le_pow_right (by omega) (by unfold mm;omega))
theorem wpt_64{d:Nat->Nat}(p k:Nat)(h:∀ j,j<k->d j<65536):wpt d p k<18446744073709551616:=by
 refine Nat.lt_of_lt_of_le (wpt_lt p k h) ?_;have e:18446744073709551616=2^64:=by rfl
 rw[e];exact Nat.pow_le_pow_right (by omega) (by unfold mm;omega)
theorem wlow{d:Nat->Nat}{k p s:Nat}(hp:k / 4=p)(hs:16*(k%4)=s)(h:∀ j,j<k->d j<65536):wpt d p k<2^s:=by
 have:=wpt_lt (d:=d) p k h;rwa [show mm p k=k%4 by unfold mm;omega,hs]at this
theorem wpt_n4{d:Nat->Nat}:∀ k,k<=16->n4 (wpt d 0 k) (wpt d 1 k) (wpt d 2 k) (wpt d 3 k)=vd d k
 | 0,_=>rfl
 | k+1,h=>by
  have ih:=wpt_n4 (d:=d) k (by omega);have e:65536^k*d k=2^(64*(k / 4))*(d k*2^(16*(k%4))):=by
   rw[show(65536:Nat)=2^16 by rfl,<- Nat.pow_mul,show 16*k=64*(k / 4)+16*(k%4) by omega,Nat.pow_add,Nat.mul_assoc,Nat.mul_comm (2^(16*(k%4)))]
  simp only[wpt,vd];rw[e,<- ih];generalize d k*2^(16*(k%4))=y;have c:k / 4=0\/k / 4=1\/k / 4=2\/k / 4=3:=by omega
  rcases c with c | c | c | c
  ·rw[c,show(2:Nat)^(64*0)=1 by rfl];simp only[n4];simp;omega
  ·rw[c,show(2:Nat)^(64*1)=18446744073709551616 by rfl];simp only[n4];simp;omega
  ·rw[c,show(2:Nat)^(64*2)=340282366920938463463374607431768211456 by rfl];simp only[n4];simp;omega
  ·rw[c,show(2:Nat)^(64*3)=6277101735386680763835789423207666416102355444464034512896 by rfl];simp only[n4];simp;omega
theorem wpt_all{d:Nat->Nat}{K:Nat}(hK:K<=16)(h:∀ j,j<K->d j<65536):wpt d 0 K<18446744073709551616/\wpt d 1 K<18446744073709551616/\wpt d 2 K<18446744073709551616/\wpt d 3 K<18446744073709551616/\n4 (wpt d 0 K) (wpt d 1 K) (wpt d 2 K) (wpt d 3 K)=vd d K :=
 ⟨wpt_64 _ _ h,wpt_64 _ _ h,wpt_64 _ _ h,wpt_64 _ _ h,wpt_n4 K hK⟩
theorem or_up(x y s:Nat)(hx:x<2^s)(hy:y<65536)(hs:s<=48):bits .or .u64 (x:Int) (IntKind.u64.wrap ((y:Int)*2^s))=((x+y*2^s:Nat):Int):=by
 have h1:2^s<=2^48:=Nat.pow_le_pow_right (by omega) hs;have h2:y*2^s<=65535*2^48:=Nat.mul_le_mul (by omega) h1;have h3:y*2^s<18446744073709551616:=by omega
 have e:IntKind.u64.wrap ((y:Int)*2^s)=((y*2^s:Nat):Int):=by
  rw[IntKind.wrap_u64];have e0:(y:Int)*2^s=((y*2^s:Nat):Int):=by simp
  rw[e0];omega
 rw[e,bits_or_u64_nat x (y*2^s) (by omega) h3];have:=Nat.two_pow_add_eq_or_of_lt hx y;rw[Nat.or_comm,Nat.mul_comm y,<- this,Nat.add_comm]
def rw4(d:Nat->Nat)(k:Nat):Array Value:=#[.int .u64 (wpt d 0 k:Nat),.int .u64 (wpt d 1 k:Nat),.int .u64 (wpt d 2 k:Nat),.int .u64 (wpt d 3 k:Nat)]
theorem rw4_at(d:Nat->Nat)(k p:Nat)(h:p<4):(rw4 d k)[p]?=some (.int .u64 (wpt d p k:Nat)):=by
 have c:p=0\/p=1\/p=2\/p=3:=by omega
 rcases c with rfl | rfl | rfl | rfl <;> rfl
theorem rw4_one(d:Nat->Nat)(k:Nat):(rw4 d k).all (·.oneCell')=true:=by
 simp[rw4,Value.oneCell']
theorem rw4_set(d:Nat->Nat)(k p s:Nat)(hk:k<16)(hp:k / 4=p)(hs:16*(k%4)=s):(rw4 d k).setIfInBounds p (.int .u64 ((wpt d p k+d k*2^s:Nat):Int))=rw4 d (k+1):=by
 have c:p=0\/p=1\/p=2\/p=3:=by omega
 subst hs;rcases c with rfl | rfl | rfl | rfl <;> simp[rw4,wpt,hp]
theorem rw4_wv(d:Nat->Nat)(K:Nat)(hK:K<=16)(h:∀ j,j<K->d j<65536):Value.agg (rw4 d K)=wv (vd d K):=by
 obtain⟨h0,h1,h2,h3,e⟩:=wpt_all hK h;rw[<- e,wv_n4 h0 h1 h2 h3];rfl
theorem heap2(w:World)(A B:Obj):((w.alloc A).alloc B).heap[w.heap.size]?=some A/\((w.alloc A).alloc B).heap[w.heap.size+1]?=some B:=⟨heap_alloc2_old _ _ _,heap_alloc2_new _ _ _⟩
theorem word_walk(b cp n:Nat)(d:Nat->Nat)(hn:(n:Int)<=1000000)(hd:∀ j,j<n->d j<65536)(w:World)(hD:Dg w b n d) :
  Calls Tryz.prog 59 #[.slice (some ⟨b,0,none⟩) n cp] w fun e w'=>e=.returned (.agg (rw4 d (min 16 n)))/\Below w.heap.size w w':=by
 have HD:=Lib.hid hd;clear hd;have HDG:=Lib.hid hD;clear hD;go_enter Tryz.func59,Tryz.ntmps59;go_wp2
 go_loopw [4] (fun i wr=>∃ k:Nat,k<=min 16 n/\i=.int .i64 k/\Hid (wr.heap[w.heap.size]?=some (.cells (rw4 d 0) 24 (0,0))/\wr.heap[w.heap.size+1]?=some (.cells (rw4 d k) 24 (0,0))/\Below w.heap.size w wr)) (fun i _=>16 - (intOf i).toNat)
 case atStart=>exact⟨0,by omega,rfl,Lib.hid ⟨(heap2 _ _ _).1,(heap2 _ _ _).2,by go_grown⟩⟩
 case round =>
  obtain⟨k,hk,rfl,H⟩:=hrel;have hk0:(0:Int)<=k:=by omega
  have hk1:(k:Int)<=16:=by omega
  by_cases hlt:k<min 16 n
  ·have h16:(k:Int)<16:=by omega
   have hkn:(k:Int)<(n:Int):=by omega
   obtain⟨p,hp⟩:∃ p:Nat,(k:Int) / 4=(p:Int):=⟨k / 4,by omega⟩
   obtain⟨s,hs⟩:∃ s:Nat,16*((k:Int)%4)=(s:Int):=⟨16*(k%4),by omega⟩
   have hp0:(0:Int)<=p:=by omega
   have hp1:(p:Int)<4:=by omega
   have hs0:(0:Int)<=s:=by omega
   have hs1:(s:Int)<64:=by omega
   have cd:wr.cell? ⟨b,k,none⟩=some (.int .u64 (d k:Nat)):=(H.out.2.2.cell (p:=⟨b,k,none⟩) HDG.out.1).trans (HDG.out.2 k (by omega));have ca:wr.cell? ⟨w.heap.size+1,p,none⟩=some (.int .u64 (wpt d p k:Nat)):=(cell_of_row wr _ p _ _ _ H.out.2.1).trans (rw4_at d k p (by omega));have cf:wr.frozen? ⟨w.heap.size+1,p,none⟩=false:=frozen_of_row wr _ p _ _ H.out.2.1;have hv:=or_up (wpt d p k) (d k) s (wlow (by omega) (by omega) (fun j hj=>HD.out j (by omega))) (HD.out k (by omega)) (by omega);have HV:=Lib.hid hv;clear hv;go_wp2;refine region_quiet_tail 17 (fun w'=>∃ n,w'=wr.drewN n) (by kernel_rfl) (by kernel_rfl) ⟨1,rfl⟩ ?_;simp only[List.take_succ_cons,List.take_zero,List.drop_succ_cons,List.drop_zero]
   repeat (go_big_quiet_step (fail))
   with_reducible refine wpQuiet_nil ?_
   rintro _ ⟨nq,rfl⟩;go_wp2
   go_roundw
   case rel =>
    refine⟨k+1,by omega,by go_num,Lib.hid ⟨(heap_setCell_other (wr.drewN nq) _ _ _ (by simp)).trans H.out.1,?_,(below_drewN H.out.2.2 nq).setCell (by simp) _⟩⟩;rw[HV.out,heap_setCell_same (wr.drewN nq) _ _ _ _ _ H.out.2.1,rw4_set d k p s (by omega) (by omega) (by omega)]
   case measure=>simp[intOf];omega
  ·obtain rfl:k=min 16 n:=by omega
   have hi:(Tryz.prog.info? 24).map (·.size)=some 4:=by kernel_rfl
   have HI:=Lib.hid hi;clear hi;generalize hK:min 16 n=K at *;by_cases h16:K=16
   ·have hx:decide ((K:Int)<16)=false:=by rw[decide_eq_false_iff_not];omega
    have HK:=Lib.hid hK;clear hK h16
    go_wp2_with (first | (refine wpList_load_row rfl 24 _ rfl (w.heap.size+1) rfl 24 _ (0,0) _ H.out.2.1 Tryz.underlying24 rfl HI.out ?_) | (refine wpList_store_row rfl 24 _ _ rfl w.heap.size (rw4 d K) rfl rfl 24 (rw4 d 0) H.out.1 HI.out rfl (rw4_one _ _) ?_))
    refine bodyPost_ret (v:=.agg (rw4 d K)) (results_cell_row (p:=2) rfl _ _ w.heap.size 24 _ (0,0) _ rfl (setRow_heap _ _ _ _ _ _ H.out.1) Tryz.underlying24 rfl HI.out) rfl ⟨by rw[HK.out],below_setRow H.out.2.2 (Nat.le_refl _) _⟩
   ·have hx:decide ((K:Int)<16)=true:=by rw[decide_eq_true_iff];omega
    have hy:decide (K<n)=false:=by rw[decide_eq_false_iff_not];omega
    have HK:=Lib.hid hK;clear hK h16
    go_wp2_with (first | (refine wpList_load_row rfl 24 _ rfl (w.heap.size+1) rfl 24 _ (0,0) _ H.out.2.1 Tryz.underlying24 rfl HI.out ?_) | (refine wpList_store_row rfl 24 _ _ rfl w.heap.size (rw4 d K) rfl rfl 24 (rw4 d 0) H.out.1 HI.out rfl (rw4_one _ _) ?_))
    refine bodyPost_ret (v:=.agg (rw4 d K)) (results_cell_row (p:=2) rfl _ _ w.heap.size 24 _ (0,0) _ rfl (setRow_heap _ _ _ _ _ _ H.out.1) Tryz.underlying24 rfl HI.out) rfl ⟨by rw[HK.out],below_setRow H.out.2.2 (Nat.le_refl _) _⟩
theorem vd_low(d:Nat->Nat)(n:Nat):∀ m,n<=m->vd d m%65536^n=vd d n%65536^n:=by
 intro m hm
 induction m with
 | zero=>(obtain rfl:n=0:=by omega);rfl
 | succ m ih =>
  by_cases e:n=m+1
  ·rw[e]
  ·simp only[vd]
   rw[<- ih (by omega)];have:65536^m*d m=65536^n*(65536^(m - n)*d m):=by rw[<- Nat.mul_assoc,<- Nat.pow_add,show n+(m - n)=m by omega]
   rw[this,Nat.add_mul_mod_self_left]
-- WHAT Word COMES TO.
theorem word_any(b cp n:Nat)(d:Nat->Nat)(hn:(n:Int)<=1000000)(hd:∀ j,j<n->d j<65536)(w:World)(hD:Dg w b n d) :
  Calls Tryz.prog 59 #[.slice (some ⟨b,0,none⟩) n cp] w fun e w'=>e=.returned (wv (vd d n))/\Below w.heap.size w w':=by
 have h:=word_walk b cp n d hn hd w hD;rw[rw4_wv d (min 16 n) (by omega) (fun j hj=>hd j (by omega))]at h;by_cases h16:n<=16
 ·rw[Nat.min_eq_right h16]at h
  exact h
 ·rw[Nat.min_eq_left (by omega)]at h
  have e:wv (vd d 16)=wv (vd d n):=wv_congr (vd_low d 16 n (by omega)).symm;rw[e]at h;exact h
open Go.RowKit
def OutAt(wr:World)(B L:Nat)(o:Nat->Nat):Prop:=B<wr.heap.size/\∀ j,j<L->wr.cell? ⟨B,j,none⟩=some (.int .u64 (o j:Nat))/\wr.frozen? ⟨B,j,none⟩=false
theorem OutAt.drewN{wr:World}{B L:Nat}{o:Nat->Nat}(h:OutAt wr B L o)(n:Nat):OutAt (wr.drewN n) B L o:=h
theorem OutAt.set{wr:World}{B L:Nat}{o:Nat->Nat}(h:OutAt wr B L o)(p y:Nat)(hp:p<L):OutAt (wr.setCell ⟨B,p,none⟩ (.int .u64 (y:Nat))) B L (upd o p y):=by
 refine⟨by simpa using h.1,fun j hj=>⟨?_,?_⟩⟩
 ·by_cases e:j=p
  ·subst e
   rw[World.cell?_setCell_same _ _ _ (h.2 j hj).1];simp[upd]
  ·rw[World.cell?_setCell_other _ _ _ _ (by intro e2;apply e;injection e2 with _ e3;exact e3.symm),(h.2 j hj).1]
   simp[upd,e]
 ·rw[World.frozen?_setCell];exact(h.2 j hj).2
theorem vd_set(o:Nat->Nat)(p y:Nat):∀ L,p<L->vd (upd o p y) L+65536^p*o p=vd o L+65536^p*y
 | 0,h=>by omega
 | L+1,h=>by
  simp only[vd];by_cases e:p=L
  ·subst e
   rw[vd_congr (d:=upd o p y) (e:=o) (fun j hj=>by simp[upd,show ¬j=p by omega])];simp only[upd,if_true];omega
  ·have:=vd_set o p y L (by omega)
   rw[show upd o p y L=o L by simp[upd,show ¬L=p by omega]];omega
def PRel(n m i j c:Nat)(da db o0 o:Nat->Nat):Prop :=
 c<65536/\(∀ t,t<n+m->o t<65536)/\(∀ t,i+m<=t->t<n+m->o t=0)/\vd o (n+m)+65536^(i+j)*c=vd o0 (n+m)+65536^i*da i*vd db j
theorem prel_next{n m i j c x:Nat}{da db o0 o:Nat->Nat}(h:PRel n m i j c da db o0 o)(hi:i<n)(hj:j<m)(hx:x=o (i+j)+da i*db j+c)(ha:da i<65536)(hb:db j<65536) :
  PRel n m i (j+1) (x / 65536) da db o0 (upd o (i+j) (x%65536)):=by
 obtain⟨hc,ho,hz,hv⟩:=h;have hop:=ho (i+j) (by omega);have hab:da i*db j<=65535*65535:=Nat.mul_le_mul (by omega) (by omega);refine⟨by omega,fun t ht=>?_,fun t h1 h2=>?_,?_⟩
 ·unfold upd;split
  ·omega
  ·exact ho t ht
 ·unfold upd;rw[if_neg (by omega)];exact hz t h1 h2
 ·have h1:=vd_set o (i+j) (x%65536) (n+m) (by omega)
  have e:x=x%65536+65536*(x / 65536):=by omega
  have e1:65536^(i+j)*x=65536^(i+j)*(x%65536)+65536^(i+(j+1))*(x / 65536):=by
   rw[show i+(j+1)=(i+j)+1 by omega,Nat.pow_succ,Nat.mul_assoc,<- Nat.mul_add,<- e]
  have e2:65536^(i+j)*x=65536^(i+j)*o (i+j)+65536^(i+j)*(da i*db j)+65536^(i+j)*c:=by rw[hx,Nat.mul_add,Nat.mul_add]
  have e3:65536^i*da i*vd db (j+1)=65536^i*da i*vd db j+65536^(i+j)*(da i*db j):=by
   simp only[vd];rw[Nat.mul_add,Nat.pow_add];congr 1;simp only[Nat.mul_assoc,Nat.mul_left_comm]
  rw[e3];omega
theorem prel_end{n m i c:Nat}{da db o0 o:Nat->Nat}(h:PRel n m i m c da db o0 o)(hi:i<n)(hv0:vd o0 (n+m)=vd da i*vd db m) :
  (∀ t,t<n+m->upd o (i+m) c t<65536)/\(∀ t,i+1+m<=t->t<n+m->upd o (i+m) c t=0)/\vd (upd o (i+m) c) (n+m)=vd da (i+1)*vd db m:=by
 obtain⟨hc,ho,hz,hv⟩:=h;refine⟨fun t ht=>?_,fun t h1 h2=>?_,?_⟩
 ·unfold upd;split
  ·exact hc
  ·exact ho t ht
 ·unfold upd;rw[if_neg (by omega)];exact hz t (by omega) h2
 ·have h1:=vd_set o (i+m) c (n+m) (by omega)
  rw[hz (i+m) (Nat.le_refl _) (by omega),Nat.mul_zero,Nat.add_zero]at h1;rw[h1,hv,hv0];simp only[vd];rw[Nat.add_mul]
theorem madeCells_at(k j:Nat)(h:j<k):(madeCells (Value.int .u64 0).cells (k*1)).toList[j]?=some (.int .u64 ((0:Nat):Int)):=by
 simp[madeCells,Value.cells,h,Nat.mod_one]
theorem vd_nought(L:Nat):vd (fun _=>0) L=0:=by
 induction L with
 | zero=>rfl
 | succ L ih=>simp[vd,ih]
theorem product_digits(ba ca bb cb n m:Nat)(da db:Nat->Nat)(hn:(n:Int)<=1000000)(hm:(m:Int)<=1000000)(ha:∀ j,j<n->da j<65536)(hb:∀ j,j<m->db j<65536)(w:World)(hA:Dg w ba n da)(hB:Dg w bb m db) :
  Calls Tryz.prog 62 #[.slice (some ⟨ba,0,none⟩) n ca,.slice (some ⟨bb,0,none⟩) m cb] w (MkDg (n+m) (vd da n*vd db m) w):=by
 have Ha:=Lib.hid ha;clear ha;have Hb:=Lib.hid hb;clear hb;have HA:=Lib.hid hA;clear hA;have HB:=Lib.hid hB;clear hB;have hn0:(0:Int)<=n:=by omega
 have hm0:(0:Int)<=m:=by omega
 obtain⟨i0,hi,hz0,hz1,hz2⟩:=info_parts info22;obtain⟨L,hL⟩:∃ L:Nat,(n:Int)+(m:Int)=(L:Int):=⟨n+m,by omega⟩
 have HL:Hid (n+m=L):=Lib.hid (by omega);have hLb:(L:Int)<=2000000:=by omega
 go_enter Tryz.func62,Tryz.ntmps62
 go_wp2_with (at_make;refine wpList_make_full _ rfl _ _ 86 rfl w.heap.size 22 i0 (.int .u64 0) 1 Tryz.underlying86 hi hz0 hz1 .i64 .i64 _ _ L rfl rfl rfl rfl (by rw[hz2];omega) (by unfold maxLen;omega) (Nat.le_refl _) ?_;intro w0 hown0 hgrow0)
 have hout:OutAt w0 w.heap.size L (fun _=>0):=⟨(hown0.lt _ rfl).2,fun j hj=>⟨(hown0.cellAt j (by omega)).trans (madeCells_at L j hj),hown0.frozenAt j⟩⟩
 have hbel:Below w.heap.size w w0:=(Below.refl _ _).grown hgrow0 (Nat.le_refl _) (fun k hk=>by cases hk);have HW:=Lib.hid (And.intro hout hbel);clear hout hbel hown0 hgrow0 hL;go_wp2
 go_loopw [6] (fun iv wr=>∃ i:Nat,i<=n/\iv=.int .i64 i/\Hid (∃ o:Nat->Nat,OutAt wr w.heap.size L o/\Below w.heap.size w wr/\(∀ t,t<n+m->o t<65536)/\(∀ t,i+m<=t->t<n+m->o t=0)/\vd o (n+m)=vd da i*vd db m)) (fun iv _=>n - (intOf iv).toNat)
 case atStart=>exact⟨0,Nat.zero_le _,rfl,Lib.hid ⟨fun _=>0,HW.out.1,HW.out.2,fun _ _=>(by show(0:Nat)<65536;omega),fun _ _ _=>rfl,by rw[vd_nought];simp[vd]⟩⟩
 case round =>
  obtain⟨i,hin,rfl,H⟩:=hrel;have hi0:(0:Int)<=i:=by omega
  have hi1:(i:Int)<=1000000:=by omega
  by_cases hlt:i<n
  ·obtain⟨o0,hO0,hB0,hd0,hz0',hv0⟩:=H.out
   have HV0:=Lib.hid hv0;clear hv0;have HO0:=Lib.hid (And.intro hO0 (And.intro hB0 (And.intro hd0 hz0')));clear hO0 hB0 hd0 hz0' H;go_wp2
   go_loopw [7,8] (fun cv jv wr2=>∃ j c:Nat,j<=m/\jv=.int .i64 j/\cv=.int .u64 c/\Hid (∃ o:Nat->Nat,OutAt wr2 w.heap.size L o/\Below w.heap.size w wr2/\PRel n m i j c da db o0 o)) (fun _ jv _=>m - (intOf jv).toNat)
   case atStart=>exact⟨0,0,Nat.zero_le _,rfl,rfl,Lib.hid ⟨o0,HO0.out.1,HO0.out.2.1,by omega,HO0.out.2.2.1,HO0.out.2.2.2,by simp[vd]⟩⟩
   case round =>
    obtain⟨j,c,hjm,rfl,rfl,H⟩:=hrel;obtain⟨o,hO,hBw,hP⟩:=H.out;have hj0:(0:Int)<=j:=by omega
    have hj1:(j:Int)<=1000000:=by omega
    have hc0:(0:Int)<=c:=by omega
    have hc1:(c:Int)<65536:=by have:=hP.1;omega
    by_cases hjl:j<m
    ·obtain⟨p,hp⟩:∃ p:Nat,(i:Int)+(j:Int)=(p:Int):=⟨i+j,by omega⟩
     have HPI:Hid (i+j=p):=Lib.hid (by omega);have hp0:(0:Int)<=p:=by omega
     have hpL:(p:Int)<(L:Int):=by have:=HL.out;omega
     have hil:(i:Int)<(n:Int):=by omega
     have hjl':(j:Int)<(m:Int):=by omega
     have co:wr.cell? ⟨w.heap.size,p,none⟩=some (.int .u64 (o p:Nat)):=(hO.2 p (by omega)).1;have fo:wr.frozen? ⟨w.heap.size,p,none⟩=false:=(hO.2 p (by omega)).2;have cA:wr.cell? ⟨ba,i,none⟩=some (.int .u64 (da i:Nat)):=(hBw.cell (p:=⟨ba,i,none⟩) HA.out.1).trans (HA.out.2 i hlt);have cB:wr.cell? ⟨bb,j,none⟩=some (.int .u64 (db j:Nat)):=(hBw.cell (p:=⟨bb,j,none⟩) HB.out.1).trans (HB.out.2 j hjl);obtain⟨q,hq⟩:∃ q:Nat,q=da i*db j:=⟨_,rfl⟩
     have hab:da i*db j<=65535*65535:=Nat.mul_le_mul (by have:=Ha.out i hlt;omega) (by have:=Hb.out j hjl;omega);have hqb:q<=4294836225:=by rw[hq];exact hab
     have hqi:IntKind.u64.wrap (((da i:Nat):Int)*((db j:Nat):Int))=(q:Int):=by
      rw[IntKind.wrap_u64,hq];have e0:((da i:Nat):Int)*((db j:Nat):Int)=((da i*db j:Nat):Int):=by simp
      rw[e0];omega
     have hop:o p<65536:=hP.2.1 p (by have:=HL.out;omega);obtain⟨x,hx⟩:∃ x:Nat,x=o p+q+c:=⟨_,rfl⟩
     have hxi:((o p:Nat):Int)+(q:Int)+(c:Int)=(x:Int):=by omega
     have hxb:x<8589934592:=by omega
     have hand:bits .and .u64 (x:Int) 65535=((x%65536:Nat):Int):=and_low16 x (by omega);have HN:Hid (PRel n m i (j+1) (x / 65536) da db o0 (upd o p (x%65536))):=Lib.hid (by
      have:=prel_next (x:=x) hP hlt hjl (by rw[HPI.out,hx,hq]) (Ha.out i hlt) (Hb.out j hjl);rwa [HPI.out]at this)
     have HAND:=Lib.hid hand;clear hand;have HOB:=Lib.hid (And.intro hO hBw);clear hO hBw;have HQ:=Lib.hid hq;clear hq;have HXX:=Lib.hid hx;clear hx;clear hP H hab;have hq0:(0:Int)<=q:=by omega
     have hq1:(q:Int)<=4294836225:=by omega
     have hx0:(0:Int)<=x:=by omega
     have hx1:(x:Int)<8589934592:=by omega
     have ho0:(0:Int)<=(o p:Nat):=by omega
     have ho1:((o p:Nat):Int)<65536:=by omega
     clear hqb hxb hop;go_wp2
     go_quiet (fail)
     go_wp2
     go_roundw
     case rel =>
      refine⟨j+1,x / 65536,by omega,by go_num,by go_num,Lib.hid ⟨upd o p (x%65536),?_,?_,HN.out⟩⟩
      ·rw[HAND.out];exact(HOB.out.1.drewN nq).set p (x%65536) (by omega)
      ·exact(below_drewN HOB.out.2 nq).setCell (Nat.le_refl _) _
     case measure=>simp[intOf];omega
    ·obtain rfl:j=m:=by omega
     obtain⟨p,hp⟩:∃ p:Nat,(i:Int)+(j:Int)=(p:Int):=⟨i+j,by omega⟩
     have HPI:Hid (i+j=p):=Lib.hid (by omega);have hp0:(0:Int)<=p:=by omega
     have hpL:(p:Int)<(L:Int):=by have:=HL.out;omega
     have co:wr.cell? ⟨w.heap.size,p,none⟩=some (.int .u64 (o p:Nat)):=(hO.2 p (by omega)).1;have fo:wr.frozen? ⟨w.heap.size,p,none⟩=false:=(hO.2 p (by omega)).2;have HN:=Lib.hid (prel_end hP hlt HV0.out);have HOB:=Lib.hid (And.intro hO hBw);clear hO hBw hP H;go_wp2
     go_roundw
     case rel =>
      refine⟨i+1,by omega,by go_num,Lib.hid ⟨upd o p c,HOB.out.1.set p c (by omega),HOB.out.2.setCell (Nat.le_refl _) _,?_,?_,?_⟩⟩
      ·rw[<- HPI.out];exact HN.out.1
      ·rw[<- HPI.out];exact HN.out.2.1
      ·rw[<- HPI.out];exact HN.out.2.2
     case measure=>simp[intOf];omega
  ·obtain rfl:i=n:=by omega
   obtain⟨o,hO,hBw,hd,-,hv⟩:=H.out;go_wp2;go_ret;rw[HL.out]at hv hd |-
   exact⟨w.heap.size,L,o,rfl,Nat.le_refl _,⟨hO.1,fun j hj=>(hO.2 j hj).1⟩,hd,hv,hBw⟩
open Go.RowKit
theorem down_at(i b c:Nat)(v:Value)(h0:(0:Int)<=i)(h:(i:Int)<4)(w:World)(hc:w.cell? ⟨b,i,none⟩=some v):Calls Tryz.prog 102 #[.int .i64 i,.pointer (some ⟨b,0,none⟩),.pointer (some ⟨c,0,none⟩)] w fun e w'=>e=.returned v/\w'=w:=by
 go_enter Tryz.func102,Tryz.ntmps102;go_wp2;go_ret;exact⟨rfl,rfl⟩
theorem down_past(i:Int)(b c:Nat)(v:Value)(h:4<=i)(w:World)(hc:w.cell? ⟨c,0,none⟩=some v):Calls Tryz.prog 102 #[.int .i64 i,.pointer (some ⟨b,0,none⟩),.pointer (some ⟨c,0,none⟩)] w fun e w'=>e=.returned v/\w'=w:=by
 have h':¬i<4:=by omega
 go_enter Tryz.func102,Tryz.ntmps102;go_wp2;go_ret;exact⟨rfl,rfl⟩
theorem down_walk(k0 k1 k2 k3 a0 a1 a2 a3 f p0 p1 p2 p3 p4 s t:Nat)(wh j0 j1 j2 j3 j4:Int)(h0:(0:Int)<=s)(h64:(s:Int)<64)
  (ht:IntKind.i64.wrap (64 - (s:Int))=(t:Int)) (ht64:(t:Int)<=64)
  (e0:IntKind.i64.wrap wh=j0) (e1:IntKind.i64.wrap (1+wh)=j1) (e2:IntKind.i64.wrap (2+wh)=j2) (e3:IntKind.i64.wrap (3+wh)=j3)
  (g0:IntKind.i64.wrap (j0+1)=j1) (g1:IntKind.i64.wrap (j1+1)=j2) (g2:IntKind.i64.wrap (j2+1)=j3) (g3:IntKind.i64.wrap (j3+1)=j4) (w:World)
  (hC:∀(b c:Nat) (W:World),W.cell? ⟨b,0,none⟩=some (.int .u64 a0)->W.cell? ⟨b,1,none⟩=some (.int .u64 a1)->W.cell? ⟨b,2,none⟩=some (.int .u64 a2)->W.cell? ⟨b,3,none⟩=some (.int .u64 a3)->W.cell? ⟨c,0,none⟩=some (.int .u64 f) ->
   (Calls Tryz.prog 102 #[.int .i64 j0,.pointer (some ⟨b,0,none⟩),.pointer (some ⟨c,0,none⟩)] W fun e w'=>e=.returned (.int .u64 p0)/\w'=W) /\
   (Calls Tryz.prog 102 #[.int .i64 j1,.pointer (some ⟨b,0,none⟩),.pointer (some ⟨c,0,none⟩)] W fun e w'=>e=.returned (.int .u64 p1)/\w'=W) /\
   (Calls Tryz.prog 102 #[.int .i64 j2,.pointer (some ⟨b,0,none⟩),.pointer (some ⟨c,0,none⟩)] W fun e w'=>e=.returned (.int .u64 p2)/\w'=W) /\
   (Calls Tryz.prog 102 #[.int .i64 j3,.pointer (some ⟨b,0,none⟩),.pointer (some ⟨c,0,none⟩)] W fun e w'=>e=.returned (.int .u64 p3)/\w'=W) /\
   (Calls Tryz.prog 102 #[.int .i64 j4,.pointer (some ⟨b,0,none⟩),.pointer (some ⟨c,0,none⟩)] W fun e w'=>e=.returned (.int .u64 p4)/\w'=W))
  (hS:∀ w,Calls Tryz.prog 101 #[.agg #[.int .u64 k0,.int .u64 k1,.int .u64 k2,.int .u64 k3]] w fun e w'=>e=.returned (.tuple #[.int .i64 wh,.int .i64 s])/\Below w.heap.size w w') :
  Calls Tryz.prog 84 #[.agg #[.int .u64 k0,.int .u64 k1,.int .u64 k2,.int .u64 k3],.agg #[.int .u64 a0,.int .u64 a1,.int .u64 a2,.int .u64 a3],.int .u64 f] w fun e w' =>
   e=.returned (.agg #[.int .u64 (bits .or .u64 ((p0:Int) / 2^s) (IntKind.u64.wrap ((p1:Int)*2^t))),.int .u64 (bits .or .u64 ((p1:Int) / 2^s) (IntKind.u64.wrap ((p2:Int)*2^t))),.int .u64 (bits .or .u64 ((p2:Int) / 2^s) (IntKind.u64.wrap ((p3:Int)*2^t))),.int .u64 (bits .or .u64 ((p3:Int) / 2^s) (IntKind.u64.wrap ((p4:Int)*2^t)))])/\Below w.heap.size w w':=by
 have HC:=Lib.hid hC;clear hC;have E0:=Lib.hid e0;clear e0;have G0:=Lib.hid g0;clear g0;have G1:=Lib.hid g1;clear g1;have G2:=Lib.hid g2;clear g2;have G3:=Lib.hid g3;clear g3;go_enter Tryz.func84,Tryz.ntmps84
 go_wp2_with fail
 refine(hS _).mono ?_;rintro e w1 ⟨rfl,hb⟩;obtain⟨x0,-,-⟩:=after1 (b:=w.heap.size+1) (i:=0) (v:=.int .u64 a0) hb (by simp) (by go_cell) (by go_cell);obtain⟨x1,-,-⟩:=after1 (b:=w.heap.size+1) (i:=1) (v:=.int .u64 a1) hb (by simp) (by go_cell) (by go_cell);obtain⟨x2,-,-⟩:=after1 (b:=w.heap.size+1) (i:=2) (v:=.int .u64 a2) hb (by simp) (by go_cell) (by go_cell);obtain⟨x3,-,-⟩:=after1 (b:=w.heap.size+1) (i:=3) (v:=.int .u64 a3) hb (by simp) (by go_cell) (by go_cell);obtain⟨x4,-,-⟩:=after1 (b:=w.heap.size+1+1) (i:=0) (v:=.int .u64 f) hb (by simp) (by go_cell) (by go_cell);obtain⟨⟨q0,q1,q2,q3⟩,⟨f0,f1,f2,f3⟩,hz,hb'⟩:=after4 (w:=w) (B:=w.heap.size) (w.heap.size+1+1+1) hb (by go_grown) (by simp;omega) (by simp) (by go_cell) (by go_cell) (by go_cell) (by go_cell) (by go_cell) (by go_cell) (by go_cell) (by go_cell);clear hb;have hz1:w.heap.size+1<w1.heap.size:=by omega
 have hz2:w.heap.size+1+1<w1.heap.size:=by omega
 go_wp2;refine wp_loop_rounds 5 ?_;rw[rounds_succ];go_wp2;refine region_still 19 (by kernel_rfl) (by kernel_rfl) ?_;simp only[List.take_succ_cons,List.take_zero,List.drop_succ_cons,List.drop_zero];have e0:=E0.out
 repeat still_step
 still_call (HC.out (w.heap.size+1) (w.heap.size+1+1) _ (by go_cell) (by go_cell) (by go_cell) (by go_cell) (by go_cell)).1
 have g:=G0.out
 repeat still_step
 clear g;clear e0
 still_call (HC.out (w.heap.size+1) (w.heap.size+1+1) _ (by go_cell) (by go_cell) (by go_cell) (by go_cell) (by go_cell)).2.1
 repeat still_step
 refine wpStill_nil ?_;go_wp2;rw[rounds_succ];go_wp2;refine region_still 19 (by kernel_rfl) (by kernel_rfl) ?_;simp only[List.take_succ_cons,List.take_zero,List.drop_succ_cons,List.drop_zero]
 repeat still_step
 still_call (HC.out (w.heap.size+1) (w.heap.size+1+1) _ (by go_cell) (by go_cell) (by go_cell) (by go_cell) (by go_cell)).2.1
 have g:=G1.out
 repeat still_step
 clear g
 still_call (HC.out (w.heap.size+1) (w.heap.size+1+1) _ (by go_cell) (by go_cell) (by go_cell) (by go_cell) (by go_cell)).2.2.1
 repeat still_step
 refine wpStill_nil ?_;go_wp2;rw[rounds_succ];go_wp2;refine region_still 19 (by kernel_rfl) (by kernel_rfl) ?_;simp only[List.take_succ_cons,List.take_zero,List.drop_succ_cons,List.drop_zero]
 repeat still_step
 still_call (HC.out (w.heap.size+1) (w.heap.size+1+1) _ (by go_cell) (by go_cell) (by go_cell) (by go_cell) (by go_cell)).2.2.1
 have g:=G2.out
 repeat still_step
 clear g
 still_call (HC.out (w.heap.size+1) (w.heap.size+1+1) _ (by go_cell) (by go_cell) (by go_cell) (by go_cell) (by go_cell)).2.2.2.1
 repeat still_step
 refine wpStill_nil ?_;go_wp2;rw[rounds_succ];go_wp2;refine region_still 19 (by kernel_rfl) (by kernel_rfl) ?_;simp only[List.take_succ_cons,List.take_zero,List.drop_succ_cons,List.drop_zero]
 repeat still_step
 still_call (HC.out (w.heap.size+1) (w.heap.size+1+1) _ (by go_cell) (by go_cell) (by go_cell) (by go_cell) (by go_cell)).2.2.2.1
 have g:=G3.out
 repeat still_step
 clear g
 still_call (HC.out (w.heap.size+1) (w.heap.size+1+1) _ (by go_cell) (by go_cell) (by go_cell) (by go_cell) (by go_cell)).2.2.2.2
 repeat still_step
 refine wpStill_nil ?_;go_wp2;rw[rounds_succ];go_wp2;refine bodyPost_ret (by simp[results,Tryz.results84,go_sem,hz,q0,q1,q2,q3];try rfl) rfl ⟨rfl,?_⟩;go_grown
open Go.RowKit
theorem shl_parts(k0 k1 k2 k3 a0 a1 a2 a3 p0 p1 p2 p3 s t:Nat)(wh jm j0 j1 j2 j3:Int)(hst:s+t=64)(hs:s<64)
  (u0:p0<18446744073709551616) (u1:p1<18446744073709551616) (u2:p2<18446744073709551616)
  (e0:IntKind.i64.wrap (-wh)=j0) (e1:IntKind.i64.wrap (1 - wh)=j1) (e2:IntKind.i64.wrap (2 - wh)=j2) (e3:IntKind.i64.wrap (3 - wh)=j3)
  (g0:IntKind.i64.wrap (j0 - 1)=jm) (g1:IntKind.i64.wrap (j1 - 1)=j0) (g2:IntKind.i64.wrap (j2 - 1)=j1) (g3:IntKind.i64.wrap (j3 - 1)=j2) (w:World)
  (hC:∀(b:Nat) (W:World),W.cell? ⟨b,0,none⟩=some (.int .u64 a0)->W.cell? ⟨b,1,none⟩=some (.int .u64 a1)->W.cell? ⟨b,2,none⟩=some (.int .u64 a2)->W.cell? ⟨b,3,none⟩=some (.int .u64 a3) ->
   (Calls Tryz.prog 122 #[.int .i64 jm,.pointer (some ⟨b,0,none⟩)] W fun e w'=>e=.returned (.int .u64 0)/\w'=W) /\
   (Calls Tryz.prog 122 #[.int .i64 j0,.pointer (some ⟨b,0,none⟩)] W fun e w'=>e=.returned (.int .u64 p0)/\w'=W) /\
   (Calls Tryz.prog 122 #[.int .i64 j1,.pointer (some ⟨b,0,none⟩)] W fun e w'=>e=.returned (.int .u64 p1)/\w'=W) /\
   (Calls Tryz.prog 122 #[.int .i64 j2,.pointer (some ⟨b,0,none⟩)] W fun e w'=>e=.returned (.int .u64 p2)/\w'=W) /\
   (Calls Tryz.prog 122 #[.int .i64 j3,.pointer (some ⟨b,0,none⟩)] W fun e w'=>e=.returned (.int .u64 p3)/\w'=W))
  (hS:∀ w,Calls Tryz.prog 101 #[.agg #[.int .u64 k0,.int .u64 k1,.int .u64 k2,.int .u64 k3]] w fun e w'=>e=.returned (.tuple #[.int .i64 wh,.int .i64 s])/\Below w.heap.size w w') :
  Calls Tryz.prog 117 #[.agg #[.int .u64 k0,.int .u64 k1,.int .u64 k2,.int .u64 k3],.agg #[.int .u64 a0,.int .u64 a1,.int .u64 a2,.int .u64 a3]] w fun e w' =>
   e=.returned (wv (n4 p0 p1 p2 p3*2^s))/\Below w.heap.size w w':=by
 have ht:IntKind.i64.wrap (64 - (s:Int))=(t:Int):=by rw[IntKind.wrap_i64];omega
 have h:=shl_walk k0 k1 k2 k3 a0 a1 a2 a3 0 p0 p1 p2 p3 s t wh jm j0 j1 j2 j3 (by omega) (by omega) ht (by omega) e0 e1 e2 e3 g0 g1 g2 g3 w hC hS;rw[cmb_up (p:=p0) (q:=0) (by omega) hst,cmb_up (p:=p1) (q:=p0) u0 hst,cmb_up (p:=p2) (q:=p1) u1 hst,cmb_up (p:=p3) (q:=p2) u2 hst,
  <- wv_n4 (cmb_lt (by omega) hst) (cmb_lt u0 hst) (cmb_lt u1 hst) (cmb_lt u2 hst),wv_congr (y:=n4 p0 p1 p2 p3*2^s)]at h
 ·exact h
 ·rw[<- n4_up p0 p1 p2 p3 hst,Nat.add_mul_mod_self_left]
-- WHAT Shl COMES TO.
theorem shl_any(k x:Nat)(w:World) :
  Calls Tryz.prog 117 #[wv k,wv x] w fun e w'=>e=.returned (wv (x*2^min (k%2^256) 256))/\Below w.heap.size w w':=by
 have hS:=fun w=>steps_any k w;obtain⟨k0,k1,k2,k3,-,-,-,-,ek,-⟩:=wv_parts k;obtain⟨a0,a1,a2,a3,u0,u1,u2,u3,ea,na⟩:=wv_parts x;generalize hm:min (k%2^256) 256=m at *;have hm256:m<=256:=by omega
 clear hm;have hx:∀ y z:Nat,y%2^256=n4 a0 a1 a2 a3*z%2^256->z=2^m->wv y=wv (x*2^m):=by
  intro y z h hz;refine wv_congr ?_;rw[h,hz,na,Nat.mod_mul_mod]
 rw[ek]at hS;rw[ek,ea];have hst:m%64+(64 - m%64)=64:=by omega
 have hs:m%64<64:=by omega
 have hw:m / 64=0\/m / 64=1\/m / 64=2\/m / 64=3\/m / 64=4:=by omega
 have neg:=fun(i:Int) (hi:i<0) (b:Nat) (W:World)=>part_neg i b hi W;rcases hw with h | h | h | h | h
 all_goals rw[h]at hS
 ·rw[<- hx (n4 a0 a1 a2 a3*2^(m%64)) (2^(m%64)) rfl (by congr 1;omega)]
  exact shl_parts k0 k1 k2 k3 a0 a1 a2 a3 a0 a1 a2 a3 (m%64) (64 - m%64) 0 (-1) 0 1 2 3 hst hs u0 u1 u2 (by decide) (by decide) (by decide) (by decide) (by decide) (by decide) (by decide) (by decide) w
   (fun b W c0 c1 c2 c3=>⟨neg _ (by omega) b W,part_at 0 b _ (by omega) (by omega) W c0,part_at 1 b _ (by omega) (by omega) W c1,part_at 2 b _ (by omega) (by omega) W c2,part_at 3 b _ (by omega) (by omega) W c3⟩) hS
 ·rw[<- hx (n4 0 a0 a1 a2*2^(m%64)) (18446744073709551616*2^(m%64)) (by rw[<- Nat.mul_assoc,<- Nat.mod_mul_mod,<- Nat.mod_mul_mod (n4 a0 a1 a2 a3*_)];congr 2;unfold n4;omega) (by rw[show(18446744073709551616:Nat)=2^64 by decide,<- Nat.pow_add];congr 1;omega)]
  exact shl_parts k0 k1 k2 k3 a0 a1 a2 a3 0 a0 a1 a2 (m%64) (64 - m%64) 1 (-2) (-1) 0 1 2 hst hs (by omega) u0 u1 (by decide) (by decide) (by decide) (by decide) (by decide) (by decide) (by decide) (by decide) w
   (fun b W c0 c1 c2 c3=>⟨neg _ (by omega) b W,neg _ (by omega) b W,part_at 0 b _ (by omega) (by omega) W c0,part_at 1 b _ (by omega) (by omega) W c1,part_at 2 b _ (by omega) (by omega) W c2⟩) hS
 ·rw[<- hx (n4 0 0 a0 a1*2^(m%64)) (340282366920938463463374607431768211456*2^(m%64)) (by rw[<- Nat.mul_assoc,<- Nat.mod_mul_mod,<- Nat.mod_mul_mod (n4 a0 a1 a2 a3*_)];congr 2;unfold n4;omega) (by rw[show(340282366920938463463374607431768211456:Nat)=2^128 by decide,<- Nat.pow_add];congr 1;omega)]
  exact shl_parts k0 k1 k2 k3 a0 a1 a2 a3 0 0 a0 a1 (m%64) (64 - m%64) 2 (-3) (-2) (-1) 0 1 hst hs (by omega) (by omega) u0 (by decide) (by decide) (by decide) (by decide) (by decide) (by decide) (by decide) (by decide) w
   (fun b W c0 c1 c2 c3=>⟨neg _ (by omega) b W,neg _ (by omega) b W,neg _ (by omega) b W,part_at 0 b _ (by omega) (by omega) W c0,part_at 1 b _ (by omega) (by omega) W c1⟩) hS
 ·rw[<- hx (n4 0 0 0 a0*2^(m%64)) (6277101735386680763835789423207666416102355444464034512896*2^(m%64)) (by rw[<- Nat.mul_assoc,<- Nat.mod_mul_mod,<- Nat.mod_mul_mod (n4 a0 a1 a2 a3*_)];congr 2;unfold n4;omega) (by rw[show(6277101735386680763835789423207666416102355444464034512896:Nat)=2^192 by decide,<- Nat.pow_add];congr 1;omega)]
  exact shl_parts k0 k1 k2 k3 a0 a1 a2 a3 0 0 0 a0 (m%64) (64 - m%64) 3 (-4) (-3) (-2) (-1) 0 hst hs (by omega) (by omega) (by omega) (by decide) (by decide) (by decide) (by decide) (by decide) (by decide) (by decide) (by decide) w
   (fun b W c0 c1 c2 c3=>⟨neg _ (by omega) b W,neg _ (by omega) b W,neg _ (by omega) b W,neg _ (by omega) b W,part_at 0 b _ (by omega) (by omega) W c0⟩) hS
 ·have hm0:m%64=0:=by omega
  rw[<- hx (n4 0 0 0 0*2^(m%64)) (2^256*2^(m%64)) (by rw[<- Nat.mul_assoc,<- Nat.mod_mul_mod,<- Nat.mod_mul_mod (n4 a0 a1 a2 a3*_)];congr 2;unfold n4;omega) (by rw[show(2^256:Nat)=2^256 by decide,<- Nat.pow_add];congr 1;omega)];exact shl_parts k0 k1 k2 k3 a0 a1 a2 a3 0 0 0 0 (m%64) (64 - m%64) 4 (-5) (-4) (-3) (-2) (-1) hst hs (by omega) (by omega) (by omega) (by decide) (by decide) (by decide) (by decide) (by decide) (by decide) (by decide) (by decide) w
   (fun b W c0 c1 c2 c3=>⟨neg _ (by omega) b W,neg _ (by omega) b W,neg _ (by omega) b W,neg _ (by omega) b W,neg _ (by omega) b W⟩) hS
open Go.RowKit
theorem down_lt{p q s t:Nat}(hp:p<18446744073709551616)(h:s+t=64):p / 2^s+q*2^t%18446744073709551616<18446744073709551616:=by
 have hD:=pow_split h;have hS:0<2^s:=Nat.two_pow_pos s;have hps:p / 2^s<2^t:=by rw[Nat.div_lt_iff_lt_mul hS,Nat.mul_comm,hD];exact hp
 have e:q*2^t%18446744073709551616=2^t*(q%2^s):=by
  rw[<- hD,Nat.mul_comm (2^s),Nat.mul_comm q,Nat.mul_mod_mul_left]
 have hr:=Nat.mod_lt q hS;have:2^t*(q%2^s)+2^t<=2^s*2^t:=by
  rw[<- Nat.mul_succ,Nat.mul_comm (2^s)];exact Nat.mul_le_mul_left _ hr
 omega
theorem down_parts(k0 k1 k2 k3 a0 a1 a2 a3 f p0 p1 p2 p3 p4 s t:Nat)(wh j0 j1 j2 j3 j4:Int)(hst:s+t=64)(hs:s<64)
  (u0:p0<18446744073709551616) (u1:p1<18446744073709551616) (u2:p2<18446744073709551616) (u3:p3<18446744073709551616)
  (e0:IntKind.i64.wrap wh=j0) (e1:IntKind.i64.wrap (1+wh)=j1) (e2:IntKind.i64.wrap (2+wh)=j2) (e3:IntKind.i64.wrap (3+wh)=j3)
  (g0:IntKind.i64.wrap (j0+1)=j1) (g1:IntKind.i64.wrap (j1+1)=j2) (g2:IntKind.i64.wrap (j2+1)=j3) (g3:IntKind.i64.wrap (j3+1)=j4) (w:World)
  (hC:∀(b c:Nat) (W:World),W.cell? ⟨b,0,none⟩=some (.int .u64 a0)->W.cell? ⟨b,1,none⟩=some (.int .u64 a1)->W.cell? ⟨b,2,none⟩=some (.int .u64 a2)->W.cell? ⟨b,3,none⟩=some (.int .u64 a3)->W.cell? ⟨c,0,none⟩=some (.int .u64 f) ->
   (Calls Tryz.prog 102 #[.int .i64 j0,.pointer (some ⟨b,0,none⟩),.pointer (some ⟨c,0,none⟩)] W fun e w'=>e=.returned (.int .u64 p0)/\w'=W) /\
   (Calls Tryz.prog 102 #[.int .i64 j1,.pointer (some ⟨b,0,none⟩),.pointer (some ⟨c,0,none⟩)] W fun e w'=>e=.returned (.int .u64 p1)/\w'=W) /\
   (Calls Tryz.prog 102 #[.int .i64 j2,.pointer (some ⟨b,0,none⟩),.pointer (some ⟨c,0,none⟩)] W fun e w'=>e=.returned (.int .u64 p2)/\w'=W) /\
   (Calls Tryz.prog 102 #[.int .i64 j3,.pointer (some ⟨b,0,none⟩),.pointer (some ⟨c,0,none⟩)] W fun e w'=>e=.returned (.int .u64 p3)/\w'=W) /\
   (Calls Tryz.prog 102 #[.int .i64 j4,.pointer (some ⟨b,0,none⟩),.pointer (some ⟨c,0,none⟩)] W fun e w'=>e=.returned (.int .u64 p4)/\w'=W))
  (hS:∀ w,Calls Tryz.prog 101 #[.agg #[.int .u64 k0,.int .u64 k1,.int .u64 k2,.int .u64 k3]] w fun e w'=>e=.returned (.tuple #[.int .i64 wh,.int .i64 s])/\Below w.heap.size w w') :
  Calls Tryz.prog 84 #[.agg #[.int .u64 k0,.int .u64 k1,.int .u64 k2,.int .u64 k3],.agg #[.int .u64 a0,.int .u64 a1,.int .u64 a2,.int .u64 a3],.int .u64 f] w fun e w' =>
   e=.returned (wv (n4 (p0 / 2^s+p1*2^t%18446744073709551616) (p1 / 2^s+p2*2^t%18446744073709551616) (p2 / 2^s+p3*2^t%18446744073709551616) (p3 / 2^s+p4*2^t%18446744073709551616)))/\Below w.heap.size w w':=by
 have ht:IntKind.i64.wrap (64 - (s:Int))=(t:Int):=by rw[IntKind.wrap_i64];omega
 have h:=down_walk k0 k1 k2 k3 a0 a1 a2 a3 f p0 p1 p2 p3 p4 s t wh j0 j1 j2 j3 j4 (by omega) (by omega) ht (by omega) e0 e1 e2 e3 g0 g1 g2 g3 w hC hS;rw[cmb_down (p:=p0) (q:=p1) u0 hst,cmb_down (p:=p1) (q:=p2) u1 hst,cmb_down (p:=p2) (q:=p3) u2 hst,cmb_down (p:=p3) (q:=p4) u3 hst,
  <- wv_n4 (down_lt u0 hst) (down_lt u1 hst) (down_lt u2 hst) (down_lt u3 hst)]at h
 exact h
def sel(a0 a1 a2 a3 f:Nat)(i:Nat):Nat:=match i with | 0=>a0 | 1=>a1 | 2=>a2 | 3=>a3 | _=>f
theorem down_sel(k x m f:Nat)(a0 a1 a2 a3:Nat)(hf:f<18446744073709551616)(u0:a0<18446744073709551616)(u1:a1<18446744073709551616)(u2:a2<18446744073709551616)(u3:a3<18446744073709551616)(hm:m<=256)
  (ea:wv x=.agg #[.int .u64 a0,.int .u64 a1,.int .u64 a2,.int .u64 a3])
  (hS:∀ w,Calls Tryz.prog 101 #[wv k] w fun e w'=>e=.returned (.tuple #[.int .i64 ((m / 64:Nat):Int),.int .i64 ((m%64:Nat):Int)])/\Below w.heap.size w w') (w:World) :
  Calls Tryz.prog 84 #[wv k,wv x,.int .u64 f] w fun e w' =>
   e=.returned (wv (n4 (sel a0 a1 a2 a3 f (m / 64) / 2^(m%64)+sel a0 a1 a2 a3 f (m / 64+1)*2^(64 - m%64)%18446744073709551616) (sel a0 a1 a2 a3 f (m / 64+1) / 2^(m%64)+sel a0 a1 a2 a3 f (m / 64+2)*2^(64 - m%64)%18446744073709551616)
    (sel a0 a1 a2 a3 f (m / 64+2) / 2^(m%64)+sel a0 a1 a2 a3 f (m / 64+3)*2^(64 - m%64)%18446744073709551616) (sel a0 a1 a2 a3 f (m / 64+3) / 2^(m%64)+f*2^(64 - m%64)%18446744073709551616)))/\Below w.heap.size w w':=by
 obtain⟨k0,k1,k2,k3,-,-,-,-,ek,-⟩:=wv_parts k;rw[ek]at hS;rw[ek,ea];have hst:m%64+(64 - m%64)=64:=by omega
 have hs:m%64<64:=by omega
 have hw:m / 64=0\/m / 64=1\/m / 64=2\/m / 64=3\/m / 64=4:=by omega
 have past:=fun(i:Int) (hi:4<=i) (b c:Nat) (W:World) (h:W.cell? ⟨c,0,none⟩=some (.int .u64 f))=>down_past i b c _ hi W h;rcases hw with h | h | h | h | h
 all_goals rw[h]at hS |-
 ·exact down_parts k0 k1 k2 k3 a0 a1 a2 a3 f a0 a1 a2 a3 f (m%64) (64 - m%64) 0 0 1 2 3 4 hst hs u0 u1 u2 u3 (by decide) (by decide) (by decide) (by decide) (by decide) (by decide) (by decide) (by decide) w
   (fun b c W c0 c1 c2 c3 cf=>⟨down_at 0 b c _ (by omega) (by omega) W c0,down_at 1 b c _ (by omega) (by omega) W c1,down_at 2 b c _ (by omega) (by omega) W c2,down_at 3 b c _ (by omega) (by omega) W c3,past 4 (by omega) b c W cf⟩) hS
 ·exact down_parts k0 k1 k2 k3 a0 a1 a2 a3 f a1 a2 a3 f f (m%64) (64 - m%64) 1 1 2 3 4 5 hst hs u1 u2 u3 hf (by decide) (by decide) (by decide) (by decide) (by decide) (by decide) (by decide) (by decide) w
   (fun b c W c0 c1 c2 c3 cf=>⟨down_at 1 b c _ (by omega) (by omega) W c1,down_at 2 b c _ (by omega) (by omega) W c2,down_at 3 b c _ (by omega) (by omega) W c3,past 4 (by omega) b c W cf,past 5 (by omega) b c W cf⟩) hS
 ·exact down_parts k0 k1 k2 k3 a0 a1 a2 a3 f a2 a3 f f f (m%64) (64 - m%64) 2 2 3 4 5 6 hst hs u2 u3 hf hf (by decide) (by decide) (by decide) (by decide) (by decide) (by decide) (by decide) (by decide) w
   (fun b c W c0 c1 c2 c3 cf=>⟨down_at 2 b c _ (by omega) (by omega) W c2,down_at 3 b c _ (by omega) (by omega) W c3,past 4 (by omega) b c W cf,past 5 (by omega) b c W cf,past 6 (by omega) b c W cf⟩) hS
 ·exact down_parts k0 k1 k2 k3 a0 a1 a2 a3 f a3 f f f f (m%64) (64 - m%64) 3 3 4 5 6 7 hst hs u3 hf hf hf (by decide) (by decide) (by decide) (by decide) (by decide) (by decide) (by decide) (by decide) w
   (fun b c W c0 c1 c2 c3 cf=>⟨down_at 3 b c _ (by omega) (by omega) W c3,past 4 (by omega) b c W cf,past 5 (by omega) b c W cf,past 6 (by omega) b c W cf,past 7 (by omega) b c W cf⟩) hS
 ·exact down_parts k0 k1 k2 k3 a0 a1 a2 a3 f f f f f f (m%64) (64 - m%64) 4 4 5 6 7 8 hst hs hf hf hf hf (by decide) (by decide) (by decide) (by decide) (by decide) (by decide) (by decide) (by decide) w
   (fun b c W c0 c1 c2 c3 cf=>⟨past 4 (by omega) b c W cf,past 5 (by omega) b c W cf,past 6 (by omega) b c W cf,past 7 (by omega) b c W cf,past 8 (by omega) b c W cf⟩) hS
theorem n4_sel(a0 a1 a2 a3:Nat)(u0:a0<18446744073709551616)(u1:a1<18446744073709551616)(u2:a2<18446744073709551616)(u3:a3<18446744073709551616)(i:Nat)(hi:i<=4) :
  n4 (sel a0 a1 a2 a3 0 i) (sel a0 a1 a2 a3 0 (i+1)) (sel a0 a1 a2 a3 0 (i+2)) (sel a0 a1 a2 a3 0 (i+3))=n4 a0 a1 a2 a3 / 2^(64*i):=by
 have hw:i=0\/i=1\/i=2\/i=3\/i=4:=by omega
 rcases hw with rfl | rfl | rfl | rfl | rfl <;> simp only[sel,Nat.reduceMul,Nat.reducePow,Nat.reduceAdd] <;> unfold n4 <;> omega
-- WHAT shiftDown COMES TO,noughts from above.
theorem down0_any(k x:Nat)(w:World) :
  Calls Tryz.prog 84 #[wv k,wv x,.int .u64 0] w fun e w'=>e=.returned (wv (x%2^256 / 2^min (k%2^256) 256))/\Below w.heap.size w w':=by
 have hS:=fun w=>steps_any k w;obtain⟨a0,a1,a2,a3,u0,u1,u2,u3,ea,na⟩:=wv_parts x;generalize hm:min (k%2^256) 256=m at *;have hm256:m<=256:=by omega
 clear hm;have h:=down_sel k x m 0 a0 a1 a2 a3 (by omega) u0 u1 u2 u3 hm256 ea hS w;rw[n4_down _ _ _ _ 0 (show m%64+(64 - m%64)=64 by omega),n4_sel a0 a1 a2 a3 u0 u1 u2 u3 _ (by omega),na,Nat.div_div_eq_div_mul,<- Nat.pow_add,show 64*(m / 64)+m%64=m by omega,Nat.zero_mul]at h;exact h
theorem n4_comp{c0 c1 c2 c3 d0 d1 d2 d3:Nat}(h0:c0+d0=18446744073709551615)(h1:c1+d1=18446744073709551615)(h2:c2+d2=18446744073709551615)(h3:c3+d3=18446744073709551615):n4 c0 c1 c2 c3=115792089237316195423570985008687907853269984665640564039457584007913129639935 - n4 d0 d1 d2 d3:=by unfold n4;omega
open Go.RowKit
theorem xor_ones{a:Nat}(h:a<18446744073709551616):bits .xor .u64 IntKind.u64.max (a:Int)=((18446744073709551615 - a:Nat):Int):=by
 have e:(18446744073709551615:Nat) ^^^ a=18446744073709551615 - a:=by
  apply Nat.eq_of_testBit_eq;intro i;rw[Nat.testBit_xor,show 18446744073709551615 - a=2^64 - (a+1) by omega,Nat.testBit_two_pow_sub_succ (by omega),show(18446744073709551615:Nat)=2^64 - 1 by decide,Nat.testBit_two_pow_sub_one];by_cases hi:i<64
  ·simp[hi]
  ·have:a.testBit i=false:=Nat.testBit_lt_two_pow (Nat.lt_of_lt_of_le h (by have:=Nat.pow_le_pow_right (n:=2) (by omega) (show 64<=i by omega);omega))
   simp[hi,this]
 have:=bits_xor_u64_nat 18446744073709551615 a (by omega) h;rw[e]at this;exact this
theorem not_walk(a0 a1 a2 a3:Nat)(w:World) :
  Calls Tryz.prog 94 #[.agg #[.int .u64 a0,.int .u64 a1,.int .u64 a2,.int .u64 a3]] w fun e w'=>e=.returned (.agg #[.int .u64 (bits .xor .u64 IntKind.u64.max (a0:Int)),.int .u64 (bits .xor .u64 IntKind.u64.max (a1:Int)),.int .u64 (bits .xor .u64 IntKind.u64.max (a2:Int)),.int .u64 (bits .xor .u64 IntKind.u64.max (a3:Int))])/\Below w.heap.size w w':=by
 go_enter Tryz.func94,Tryz.ntmps94;go_wp2;refine wp_loop_rounds 5 ?_
 iterate 4 (rw[rounds_succ];go_wp2)
 rw[rounds_succ];go_wp2
 go_returns
 exact⟨rfl,by go_grown⟩
-- WHAT Not COMES TO.
theorem not_any(x:Nat)(w:World) :
  Calls Tryz.prog 94 #[wv x] w fun e w'=>e=.returned (wv (115792089237316195423570985008687907853269984665640564039457584007913129639935 - x%2^256))/\Below w.heap.size w w':=by
 obtain⟨a0,a1,a2,a3,u0,u1,u2,u3,ea,na⟩:=wv_parts x;rw[ea,<- na,<- n4_comp (c0:=18446744073709551615 - a0) (c1:=18446744073709551615 - a1) (c2:=18446744073709551615 - a2) (c3:=18446744073709551615 - a3) (by omega) (by omega) (by omega) (by omega),wv_n4 (by omega) (by omega) (by omega) (by omega),<- xor_ones u0,<- xor_ones u1,<- xor_ones u2,<- xor_ones u3];exact not_walk a0 a1 a2 a3 w
theorem shr_walk(a0 a1 a2 a3 b0 b1 b2 b3 p0 p1 p2 p3:Nat)(w:World)
  (hP:∀ w,Calls Tryz.prog 84 #[.agg #[.int .u64 a0,.int .u64 a1,.int .u64 a2,.int .u64 a3],.agg #[.int .u64 b0,.int .u64 b1,.int .u64 b2,.int .u64 b3],.int .u64 0] w fun e w' =>
   e=.returned (.agg #[.int .u64 p0,.int .u64 p1,.int .u64 p2,.int .u64 p3])/\Below w.heap.size w w') :
  Calls Tryz.prog 69 #[.agg #[.int .u64 a0,.int .u64 a1,.int .u64 a2,.int .u64 a3],.agg #[.int .u64 b0,.int .u64 b1,.int .u64 b2,.int .u64 b3]] w fun e w' =>
   e=.returned (.agg #[.int .u64 p0,.int .u64 p1,.int .u64 p2,.int .u64 p3])/\Below w.heap.size w w':=by
 go_enter Tryz.func69,Tryz.ntmps69
 go_wp2_with fail
 refine(hP _).mono ?_;rintro e w1 ⟨rfl,hb⟩;obtain⟨⟨q0,q1,q2,q3⟩,⟨f0,f1,f2,f3⟩,hz,hb'⟩:=after4 (w:=w) (B:=w.heap.size) (w.heap.size+1+1) hb (by go_grown) (by simp;omega) (by simp) (by go_cell) (by go_cell) (by go_cell) (by go_cell) (by go_cell) (by go_cell) (by go_cell) (by go_cell);clear hb;go_wp2;refine bodyPost_ret (by simp[results,Tryz.results69,go_sem,q0,q1,q2,q3];try rfl) rfl ⟨rfl,?_⟩;go_grown
-- WHAT Shr COMES TO.
theorem shr_any(k x:Nat)(w:World) :
  Calls Tryz.prog 69 #[wv k,wv x] w fun e w'=>e=.returned (wv (x%2^256 / 2^min (k%2^256) 256))/\Below w.heap.size w w':=by
 have hP:=fun w=>down0_any k x w;obtain⟨k0,k1,k2,k3,-,-,-,-,ek,-⟩:=wv_parts k;obtain⟨a0,a1,a2,a3,-,-,-,-,ea,-⟩:=wv_parts x;obtain⟨p0,p1,p2,p3,-,-,-,-,ep,-⟩:=wv_parts (x%2^256 / 2^min (k%2^256) 256);rw[ek,ea,ep]at hP;rw[ek,ea,ep];exact shr_walk k0 k1 k2 k3 a0 a1 a2 a3 p0 p1 p2 p3 w hP
open Go.RowKit
theorem wv_pw(x:Nat):wv x=.agg (pw x):=rfl
theorem pw_size(x:Nat):(pw x).size=4:=rfl
theorem pw_one(x:Nat):(pw x).all (·.oneCell')=true:=by simp[pw,Value.oneCell']
theorem infoWord:(Tryz.prog.info? 24).map (·.size)=some 4:=by kernel_rfl
def Rb(S:Nat)(w w':World):Prop:=w.heap.size<=w'.heap.size/\∀ k,k<w.heap.size->k≠S->w'.heap[k]?=w.heap[k]?
theorem Rb.refl(S:Nat)(w:World):Rb S w w:=⟨Nat.le_refl _,fun _ _ _=>rfl⟩
theorem Rb.of{S:Nat}{w w':World}(h:Below w.heap.size w w'):Rb S w w':=⟨h.size,fun _ hk _=>h.block _ hk⟩
theorem Rb.row{S g:Nat}{w:World}(cs:Array Value)(hg:g=S):Rb S w (w.setRow g cs):=by
 subst hg;exact⟨by simp,fun k _ hk=>setRow_other _ _ _ _ hk⟩
def Rs(S V:Nat)(w w':World):Prop:=Rb S w w'/\(w.heap[S]?=some (.cells (pw V) 24 (0,0))->w'.heap[S]?=some (.cells (pw V) 24 (0,0)))
theorem Rs.refl(S V:Nat)(w:World):Rs S V w w:=⟨Rb.refl _ _,id⟩
theorem Rs.of{S V:Nat}{w w':World}(hS:S<w.heap.size)(h:Below w.heap.size w w'):Rs S V w w':=⟨Rb.of h,fun e=>(h.block _ hS).trans e⟩
theorem Rs.row{S V:Nat}{w:World}{cs:Array Value}(hg:w.heap[S]?=some (.cells cs 24 (0,0))):Rs S V w (w.setRow S (pw V)):=⟨Rb.row _ rfl,fun _=>setRow_heap _ _ _ _ _ _ hg⟩
def CB(w:World)(x y:Nat)(wx:World):Prop :=
 Below w.heap.size w wx/\wx.heap[w.heap.size]?=some (.cells (pw x) 24 (0,0))/\wx.heap[w.heap.size+1]?=some (.cells (pw y) 24 (0,0))/\∃ cs:Array Value,cs.size=4/\wx.heap[w.heap.size+1+1]?=some (.cells cs 24 (0,0))
theorem CB.lt{w wx:World}{x y:Nat}(h:CB w x y wx):w.heap.size+1+1<wx.heap.size:=by
 obtain⟨-,-,-,cs,-,hc⟩:=h;exact(Array.getElem?_eq_some_iff.1 hc).1
theorem CB.below{w wx w':World}{x y:Nat}(h:CB w x y wx)(hb:Below wx.heap.size wx w'):CB w x y w':=by
 have hl:=h.lt;obtain⟨h0,h1,h2,cs,hs,hc⟩:=h;exact⟨h0.trans (hb.mono h0.size),(hb.block _ (by omega)).trans h1,(hb.block _ (by omega)).trans h2,cs,hs,(hb.block _ hl).trans hc⟩
theorem CB.row{w wx:World}{x y:Nat}(h:CB w x y wx)(cs:Array Value)(hs:cs.size=4):CB w x y (wx.setRow (w.heap.size+1+1) cs):=by
 obtain⟨h0,h1,h2,cs0,hs0,hc⟩:=h;exact⟨below_setRow h0 (by omega) _,(setRow_other _ _ _ _ (by omega)).trans h1,(setRow_other _ _ _ _ (by omega)).trans h2,cs,hs,setRow_heap _ _ _ _ _ _ hc⟩
theorem load_pw{g x:Nat}{w:World}(hg:w.heap[g]?=some (.cells (pw x) 24 (0,0))):(Instr.loadAt 24 (.pointer (some ⟨g,0,none⟩))).run Tryz.prog w=.ok (wv x) w:=by
 simp only[Instr.loadAt,Instr.sureAddr,Sem.run_bind,Sem.run_pure,Result.andThen_ok,run_loadVar_row w g 24 24 (pw x) (0,0) _ hg Tryz.underlying24 rfl infoWord];rfl
theorem store_pw{g x:Nat}{w:World}{cs:Array Value}(hs:cs.size=4)(hg:w.heap[g]?=some (.cells cs 24 (0,0))):(Instr.storeAt 24 (.pointer (some ⟨g,0,none⟩)) (wv x)).run Tryz.prog w=.ok () (w.setRow g (pw x)):=by
 rw[wv_pw];simp only[Instr.storeAt,Instr.sureAddr,Sem.run_bind,Sem.run_pure,Result.andThen_ok,run_storeVar_row w g 24 24 cs (pw x) hg infoWord hs (pw_one x)]
theorem run_store{P:Program}{a:Act}{o:Oper}{w w':World}(t:TypeId)(p q:Operand)(u v:Value)(ho:o.op=.store t p q)(hp:a.eval p=u)(hq:a.eval q=v)(h:(Instr.storeAt t u v).run P w=.ok () w'):(execOp a.eval o).run P w=.ok .skip w':=by
 unfold execOp;rw[ho];simp only[hp,hq,Sem.run_bind,h,Result.andThen_ok,Sem.run_pure]
open Go.RowKit
theorem nan_any(x:Nat)(w:World):Calls Tryz.prog 114 #[.int .u64 x] w fun e w'=>e=.returned (.bool false)/\w=w':=by
 go_enter Tryz.func114,Tryz.ntmps114;go_wp2;go_ret;exact⟨rfl,rfl⟩
theorem compare_lt(x y:Nat)(h:(x:Int)<y)(w:World):Calls Tryz.prog 105 #[.int .u64 x,.int .u64 y] w fun e w'=>e=.returned (.int .i64 (-1))/\w=w':=by
 go_enter Tryz.func105,Tryz.ntmps105
 go_wp2_with (go_at_call 114;refine(nan_any _ _).mono ?_;rintro e w' ⟨rfl,rfl⟩)
 go_ret;exact⟨rfl,rfl⟩
theorem compare_gt(x y:Nat)(h:(y:Int)<x)(w:World):Calls Tryz.prog 105 #[.int .u64 x,.int .u64 y] w fun e w'=>e=.returned (.int .i64 1)/\w=w':=by
 have h':¬(x:Int)<y:=by omega
 go_enter Tryz.func105,Tryz.ntmps105
 go_wp2_with (go_at_call 114;refine(nan_any _ _).mono ?_;rintro e w' ⟨rfl,rfl⟩)
 go_ret;exact⟨rfl,rfl⟩
theorem cmp_3(a0 a1 a2 a3 b0 b1 b2 b3:Nat)(r:Int)(hn:((a3:Int) != b3)=true)(w:World)
  (hc:∀ w,Calls Tryz.prog 105 #[.int .u64 a3,.int .u64 b3] w fun e w'=>e=.returned (.int .i64 r)/\w=w') :
  Calls Tryz.prog 89 #[.agg #[.int .u64 a0,.int .u64 a1,.int .u64 a2,.int .u64 a3],.agg #[.int .u64 b0,.int .u64 b1,.int .u64 b2,.int .u64 b3]] w fun e w'=>e=.returned (.int .i64 r)/\Below w.heap.size w w':=by
 go_enter Tryz.func89,Tryz.ntmps89;go_wp2;refine wp_loop_rounds 5 ?_;rw[rounds_succ];go_wp2;go_region;go_wp2
 go_region_with (go_at_call 105;refine(hc _).mono ?_;rintro e w' ⟨rfl,rfl⟩)
 all_goals (go_wp2;go_ret;exact⟨rfl,by go_grown⟩)
theorem cmp_2(a0 a1 a2 a3 b0 b1 b2:Nat)(r:Int)(hn:((a2:Int) != b2)=true)(w:World)
  (hc:∀ w,Calls Tryz.prog 105 #[.int .u64 a2,.int .u64 b2] w fun e w'=>e=.returned (.int .i64 r)/\w=w') :
  Calls Tryz.prog 89 #[.agg #[.int .u64 a0,.int .u64 a1,.int .u64 a2,.int .u64 a3],.agg #[.int .u64 b0,.int .u64 b1,.int .u64 b2,.int .u64 a3]] w fun e w'=>e=.returned (.int .i64 r)/\Below w.heap.size w w':=by
 go_enter Tryz.func89,Tryz.ntmps89;go_wp2;refine wp_loop_rounds 5 ?_;rw[rounds_succ];go_wp2;go_region;go_wp2;rw[rounds_succ];go_wp2;go_region;go_wp2
 go_region_with (go_at_call 105;refine(hc _).mono ?_;rintro e w' ⟨rfl,rfl⟩)
 all_goals (go_wp2;go_ret;exact⟨rfl,by go_grown⟩)
theorem cmp_1(a0 a1 a2 a3 b0 b1:Nat)(r:Int)(hn:((a1:Int) != b1)=true)(w:World)
  (hc:∀ w,Calls Tryz.prog 105 #[.int .u64 a1,.int .u64 b1] w fun e w'=>e=.returned (.int .i64 r)/\w=w') :
  Calls Tryz.prog 89 #[.agg #[.int .u64 a0,.int .u64 a1,.int .u64 a2,.int .u64 a3],.agg #[.int .u64 b0,.int .u64 b1,.int .u64 a2,.int .u64 a3]] w fun e w'=>e=.returned (.int .i64 r)/\Below w.heap.size w w':=by
 go_enter Tryz.func89,Tryz.ntmps89;go_wp2;refine wp_loop_rounds 5 ?_;rw[rounds_succ];go_wp2;go_region;go_wp2;rw[rounds_succ];go_wp2;go_region;go_wp2;rw[rounds_succ];go_wp2;go_region;go_wp2
 go_region_with (go_at_call 105;refine(hc _).mono ?_;rintro e w' ⟨rfl,rfl⟩)
 all_goals (go_wp2;go_ret;exact⟨rfl,by go_grown⟩)
theorem cmp_0(a0 a1 a2 a3 b0:Nat)(r:Int)(hn:((a0:Int) != b0)=true)(w:World)
  (hc:∀ w,Calls Tryz.prog 105 #[.int .u64 a0,.int .u64 b0] w fun e w'=>e=.returned (.int .i64 r)/\w=w') :
  Calls Tryz.prog 89 #[.agg #[.int .u64 a0,.int .u64 a1,.int .u64 a2,.int .u64 a3],.agg #[.int .u64 b0,.int .u64 a1,.int .u64 a2,.int .u64 a3]] w fun e w'=>e=.returned (.int .i64 r)/\Below w.heap.size w w':=by
 go_enter Tryz.func89,Tryz.ntmps89;go_wp2;refine wp_loop_rounds 5 ?_;rw[rounds_succ];go_wp2;go_region;go_wp2;rw[rounds_succ];go_wp2;go_region;go_wp2;rw[rounds_succ];go_wp2;go_region;go_wp2;rw[rounds_succ];go_wp2;go_region;go_wp2
 go_region_with (go_at_call 105;refine(hc _).mono ?_;rintro e w' ⟨rfl,rfl⟩)
 all_goals (go_wp2;go_ret;exact⟨rfl,by go_grown⟩)
theorem cmp_e(a0 a1 a2 a3:Nat)(w:World) :
  Calls Tryz.prog 89 #[.agg #[.int .u64 a0,.int .u64 a1,.int .u64 a2,.int .u64 a3],.agg #[.int .u64 a0,.int .u64 a1,.int .u64 a2,.int .u64 a3]] w fun e w'=>e=.returned (.int .i64 0)/\Below w.heap.size w w':=by
 go_enter Tryz.func89,Tryz.ntmps89;go_wp2;refine wp_loop_rounds 5 ?_
 iterate 4 (rw[rounds_succ];go_wp2;go_region;go_wp2)
 rw[rounds_succ];go_wp2;go_ret;exact⟨rfl,by go_grown⟩
theorem compare_any(x y:Nat)(h:x≠y)(w:World):Calls Tryz.prog 105 #[.int .u64 x,.int .u64 y] w fun e w'=>e=.returned (.int .i64 (if x<y then -1 else 1))/\w=w':=by
 by_cases hlt:x<y
 ·rw[if_pos hlt];exact compare_lt x y (by omega) w
 ·rw[if_neg hlt];exact compare_gt x y (by omega) w
def ord(x y:Nat):Int:=if x<y then -1 else if y<x then 1 else 0
theorem neB{x y:Nat}(h:x≠y):((x:Int) != (y:Int))=true:=by rw[bne_iff_ne];omega
-- WHAT Cmp COMES TO.
theorem cmp_any(x y:Nat)(w:World) :
  Calls Tryz.prog 89 #[wv x,wv y] w fun e w'=>e=.returned (.int .i64 (ord (x%115792089237316195423570985008687907853269984665640564039457584007913129639936) (y%115792089237316195423570985008687907853269984665640564039457584007913129639936)))/\Below w.heap.size w w':=by
 obtain⟨a0,a1,a2,a3,u0,u1,u2,u3,ea,na⟩:=wv_parts x;obtain⟨b0,b1,b2,b3,v0,v1,v2,v3,eb,nb⟩:=wv_parts y;rw[ea,eb,<- na,<- nb];have key:∀ p q:Nat,p≠q->(p<q↔n4 a0 a1 a2 a3<n4 b0 b1 b2 b3)->n4 a0 a1 a2 a3≠n4 b0 b1 b2 b3->(if p<q then (-1:Int)else 1)=ord (n4 a0 a1 a2 a3) (n4 b0 b1 b2 b3):=by
  intro p q hpq hi hn;unfold ord;by_cases h:p<q
  ·rw[if_pos h,if_pos (hi.1 h)]
  ·rw[if_neg h,if_neg (fun h'=>h (hi.2 h')),if_pos (by have:¬n4 a0 a1 a2 a3<n4 b0 b1 b2 b3:=fun h'=>h (hi.2 h');omega)]
 by_cases h3:a3=b3
 ·by_cases h2:a2=b2
  ·by_cases h1:a1=b1
   ·by_cases h0:a0=b0
    ·subst h0 h1 h2 h3
     have:ord (n4 a0 a1 a2 a3) (n4 a0 a1 a2 a3)=0:=by unfold ord;simp
     rw[this];exact cmp_e a0 a1 a2 a3 w
    ·subst h1 h2 h3
     rw[<- key a0 b0 h0 (by unfold n4;omega) (by unfold n4;omega)];exact cmp_0 _ _ _ _ _ _ (neB h0) w (compare_any a0 b0 h0)
   ·subst h2 h3
    rw[<- key a1 b1 h1 (by unfold n4;omega) (by unfold n4;omega)];exact cmp_1 _ _ _ _ _ _ _ (neB h1) w (compare_any a1 b1 h1)
  ·subst h3
   rw[<- key a2 b2 h2 (by unfold n4;omega) (by unfold n4;omega)];exact cmp_2 _ _ _ _ _ _ _ _ (neB h2) w (compare_any a2 b2 h2)
 ·rw[<- key a3 b3 h3 (by unfold n4;omega) (by unfold n4;omega)]
  exact cmp_3 _ _ _ _ _ _ _ _ _ (neB h3) w (compare_any a3 b3 h3)
open Go.RowKit
theorem pw_ar(x:Nat):pw x=ar .u64 4 fun j=>((pN x j:Nat):Int):=by
 have e:ar .u64 4 (fun j=>((pN x j:Nat):Int))=#[.int .u64 ((pN x 0:Nat):Int),.int .u64 ((pN x 1:Nat):Int),.int .u64 ((pN x 2:Nat):Int),.int .u64 ((pN x 3:Nat):Int)]:=by kernel_rfl
 rw[e];unfold pw;have e0:pN x 0=x%18446744073709551616:=by unfold pN;simp
 have e1:pN x 1=x / 18446744073709551616%18446744073709551616:=by unfold pN;simp;omega
 have e2:pN x 2=x / 340282366920938463463374607431768211456%18446744073709551616:=by unfold pN;simp;omega
 have e3:pN x 3=x / 6277101735386680763835789423207666416102355444464034512896%18446744073709551616:=by unfold pN;simp;omega
 rw[e0,e1,e2,e3]
theorem val_pN(x:Nat):val (pN x) 4=x%2^256:=by
 have e0:pN x 0=x%18446744073709551616:=by unfold pN;simp
 have e1:pN x 1=x / 18446744073709551616%18446744073709551616:=by unfold pN;simp;omega
 have e2:pN x 2=x / 340282366920938463463374607431768211456%18446744073709551616:=by unfold pN;simp;omega
 have e3:pN x 3=x / 6277101735386680763835789423207666416102355444464034512896%18446744073709551616:=by unfold pN;simp;omega
 simp only[val,e0,e1,e2,e3];omega
def sqr(m:Nat):Nat:=2^256*2^256%m
def frw(m j:Nat):Nat:=if j<4 then pN m j else if j=4 then nin m else pN (sqr m) (j - 5)
structure FldAt (w:World) (F m:Nat):Prop where
 row:w.heap[F]?=some (.cells (ar .u64 9 fun j=>((frw m j:Nat):Int)) 103 (0,0))
 odd:m%2=1
 big:1<m
 lt:m<2^256
theorem FldAt.below{w w':World}{F m:Nat}(h:FldAt w F m)(hb:Below w.heap.size w w'):FldAt w' F m :=
 ⟨(hb.block _ (Array.getElem?_eq_some_iff.1 h.row).1).trans h.row,h.odd,h.big,h.lt⟩
theorem FldAt.less{w:World}{F m:Nat}(h:FldAt w F m):F<w.heap.size:=(Array.getElem?_eq_some_iff.1 h.row).1
theorem FldAt.cell{w:World}{F m:Nat}(h:FldAt w F m)(j:Nat)(hj:j<9):w.cell? ⟨F,j,none⟩=some (.int .u64 (frw m j:Nat)):=(cell_of_row _ _ j _ _ _ h.row).trans (ar_at _ _ _ _ hj)
theorem infoW4:(Tryz.prog.info? 24).map (·.size)=some 4:=by kernel_rfl
theorem ld_m{w:World}{F m:Nat}(h:FldAt w F m):(Instr.loadAt 24 (.pointer (some ⟨F,0,none⟩))).run Tryz.prog w=.ok (.agg (pw m)) w:=by
 rw[pw_ar];simp only[Instr.loadAt,Instr.sureAddr,Sem.run_bind,Sem.run_pure,Result.andThen_ok,run_loadVar_part w F 0 4 24 .u64 (fun j=>((pN m j:Nat):Int)) _ (fun j hj=>by
  rw[Nat.zero_add,h.cell j (by omega)];unfold frw;rw[if_pos hj]) Tryz.underlying24 rfl infoW4]
theorem ld_pw{g x:Nat}{w:World}(hg:w.heap[g]?=some (.cells (pw x) 24 (0,0))):(Instr.loadAt 24 (.pointer (some ⟨g,0,none⟩))).run Tryz.prog w=.ok (.agg (pw x)) w:=load_pw hg
theorem ld_sq{w:World}{F m:Nat}(h:FldAt w F m):(Instr.loadAt 24 (.pointer (some ⟨F,5,none⟩))).run Tryz.prog w=.ok (.agg (pw (sqr m))) w:=by
 rw[pw_ar];simp only[Instr.loadAt,Instr.sureAddr,Sem.run_bind,Sem.run_pure,Result.andThen_ok,run_loadVar_part w F 5 4 24 .u64 (fun j=>((pN (sqr m) j:Nat):Int)) _ (fun j hj=>by
  rw[h.cell (5+j) (by omega)];unfold frw;rw[if_neg (by omega),if_neg (by omega),show 5+j - 5=j by omega]) Tryz.underlying24 rfl infoW4]
theorem ld_inv{w:World}{F m:Nat}(h:FldAt w F m):(Instr.loadAt 22 (.pointer (some ⟨F,4,none⟩))).run Tryz.prog w=.ok (.int .u64 (nin m:Nat)) w :=
 load_u64 _ _ _ _ (h.cell 4 (by omega))
theorem fld_at(F:Nat)(w:World):(Instr.fieldAt 103 (.pointer (some ⟨F,0,none⟩)) 0).run Tryz.prog w=.ok (.pointer (some ⟨F,0,none⟩)) w:=by kernel_rfl
theorem fld_inv(F:Nat)(w:World):(Instr.fieldAt 103 (.pointer (some ⟨F,0,none⟩)) 1).run Tryz.prog w=.ok (.pointer (some ⟨F,4,none⟩)) w:=by kernel_rfl
theorem fld_sq(F:Nat)(w:World):(Instr.fieldAt 103 (.pointer (some ⟨F,0,none⟩)) 2).run Tryz.prog w=.ok (.pointer (some ⟨F,5,none⟩)) w:=by kernel_rfl
open Go.RowKit
structure C1 (w:World) (F m x:Nat) (wx:World):Prop where
 old:Below w.heap.size w wx
 fld:FldAt wx F m
 r0:wx.heap[w.heap.size]?=some (.cells (pw x) 24 (0,0))
 r1:wx.heap[w.heap.size+1]?=some (.cells #[.int .u64 0,.int .u64 0,.int .u64 0,.int .u64 0] 24 (0,0))
theorem C1.below{w wx w':World}{F m x:Nat}(c:C1 w F m x wx)(hb:Below wx.heap.size wx w'):C1 w F m x w' :=
 ⟨c.old.trans (hb.mono c.old.size),c.fld.below hb,(hb.block _ (Array.getElem?_eq_some_iff.1 c.r0).1).trans c.r0,(hb.block _ (Array.getElem?_eq_some_iff.1 c.r1).1).trans c.r1⟩
theorem C1.start{w:World}{F m x:Nat}(h:FldAt w F m):C1 w F m x ((w.alloc (.cells (pw x) 24)).alloc (.cells #[.int .u64 0,.int .u64 0,.int .u64 0,.int .u64 0] 24)) :=
 ⟨by go_grown,(h.below ((Below.refl _ _).alloc (Nat.le_refl _) _)).below ((Below.refl _ _).alloc (Nat.le_refl _) _),heap_alloc2_old _ _ _,heap_alloc2_new _ _ _⟩
theorem C1.drew{w wx:World}{F m x:Nat}(c:C1 w F m x wx):C1 w F m x wx.drew:=c.below (Below.drew (Below.refl _ _))
theorem C1.done{w wx:World}{F m x y:Nat}(c:C1 w F m x wx):Below w.heap.size w (wx.setRow (w.heap.size+1) (pw y)):=below_setRow c.old (by omega) _
theorem geq_ord(a b:Nat)(w:World):(binOp BinOp.geq 3 (.int .i64 (ord a b)) (.int .i64 0)).run Tryz.prog w=.ok (.bool (decide (b<=a))) w:=by
 unfold ord;by_cases h1:a<b
 ·rw[if_pos h1,decide_eq_false (by omega)];kernel_rfl
 ·rw[if_neg h1,decide_eq_true (show b<=a by omega)]
  by_cases h2:b<a
  ·rw[if_pos h2];kernel_rfl
  ·rw[if_neg h2];kernel_rfl
theorem lss_ord(a b:Nat)(w:World):(binOp BinOp.lss 3 (.int .i64 (ord a b)) (.int .i64 0)).run Tryz.prog w=.ok (.bool (decide (a<b))) w:=by
 unfold ord;by_cases h1:a<b
 ·rw[if_pos h1,decide_eq_true h1];kernel_rfl
 ·rw[if_neg h1,decide_eq_false h1]
  by_cases h2:b<a
  ·rw[if_pos h2];kernel_rfl
  ·rw[if_neg h2];kernel_rfl
theorem mod_self_lt{m:Nat}(h:m<2^256):m%2^256=m:=Nat.mod_eq_of_lt h
def lessV(m x:Nat)(be:Bool):Nat:=if be=true\/m<=x%2^256 then x+(2^256 - m)else x
-- WHAT lessOnce COMES TO.
theorem lessOnce_any(F m x:Nat)(be:Bool)(w:World)(hF:FldAt w F m):Calls Tryz.prog 91 #[.pointer (some ⟨F,0,none⟩),.agg (pw x),.bool be] w fun e w'=>e=.returned (.agg (pw (lessV m x be)))/\Below w.heap.size w w':=by
 have H0:=Lib.hid (C1.start (x:=x) hF);have HS:=Lib.hid (show ∀ wx,C1 w F m x wx->Calls Tryz.prog 98 #[.agg (pw x),.agg (pw m)] wx (fun e w'=>e=.returned (.agg (pw (x+(2^256 - m))))/\C1 w F m x w') from fun wx c=>(sub_any x m wx).mono fun e w' hh=>⟨by rw[hh.1,mod_self_lt hF.lt];rfl,c.below hh.2⟩);have HCM:=Lib.hid (show ∀ wx,C1 w F m x wx->Calls Tryz.prog 89 #[.agg (pw x),.agg (pw m)] wx (fun e w'=>e=.returned (.int .i64 (ord (x%2^256) m))/\C1 w F m x w') from fun wx c=>(cmp_any x m wx).mono fun e w' hh=>⟨by rw[hh.1,mod_self_lt hF.lt],c.below hh.2⟩);clear hF;unfold lessV;obtain⟨X,hX⟩:∃ X,x%2^256=X:=⟨_,rfl⟩
 rw[hX]at HCM |-
 clear hX;cases be with
 | true =>
  rw[if_pos (.inl rfl)];obtain⟨y,hy⟩:∃ y,x+(2^256 - m)=y:=⟨_,rfl⟩
  rw[hy]at HS |-
  clear hy;go_enter Tryz.func91,Tryz.ntmps91
  go_wp2_with fail
  refine wp_region_quiet (C:=C1 w F m x) (by kernel_rfl) (by kernel_rfl) (H0.out.drew) ?_;simp only
  with_reducible refine q_val (.bool true) (by kernel_rfl) (fun _ _=>by kernel_rfl) ?_
  with_reducible refine q_val (.bool true) (by kernel_rfl) (fun _ _=>by kernel_rfl) ?_
  with_reducible refine q_skip (by kernel_rfl) ?_
  with_reducible refine q_skip (by kernel_rfl) ?_
  with_reducible refine q_skip (by kernel_rfl) ?_
  with_reducible refine q_skip (by kernel_rfl) ?_
  with_reducible refine q_skip (by kernel_rfl) ?_
  with_reducible refine q_skip (by kernel_rfl) ?_
  with_reducible refine q_skip (by kernel_rfl) ?_
  with_reducible refine q_val (.bool true) (by kernel_rfl) (fun _ _=>by kernel_rfl) ?_
  with_reducible refine wpQuiet_nil ?_
  intro wx hC;have HC:=Lib.hid hC;clear hC;simp only[Act.put,List.setIfInBounds_toArray,List.set_cons_succ,List.set_cons_zero]
  go_wp2_with fail
  refine region_quiet_tail 6 (C1 w F m x) (by kernel_rfl) (by kernel_rfl) (HC.out.drew) ?_;simp only[List.take_succ_cons,List.take_zero,List.drop_succ_cons,List.drop_zero]
  with_reducible refine q_load 24 (.tmp 4) (.pointer (some ⟨w.heap.size,0,none⟩)) (.agg (pw x)) rfl (by kernel_rfl) (by kernel_rfl) (fun _ c=>ld_pw c.r0) ?_
  with_reducible refine q_val (.pointer (some ⟨F,0,none⟩)) (by kernel_rfl) (fun _ _=>by kernel_rfl) ?_
  with_reducible refine q_val (.pointer (some ⟨F,0,none⟩)) (by kernel_rfl) (fun _ _=>run_nil (.tmp 18) _ rfl (by kernel_rfl)) ?_
  with_reducible refine q_sem2 (Instr.fieldAt 103 (.pointer (some ⟨F,0,none⟩)) 0) (.pointer (some ⟨F,0,none⟩)) (by kernel_rfl) (by kernel_rfl) (fun w' _=>fld_at F w') ?_
  with_reducible refine q_load 24 (.tmp 20) (.pointer (some ⟨F,0,none⟩)) (.agg (pw m)) rfl (by kernel_rfl) (by kernel_rfl) (fun _ c=>ld_m c.fld) ?_
  with_reducible refine q_call 98 #[.agg (pw x),.agg (pw m)] (.agg (pw y)) (by kernel_rfl) (fun _=>by kernel_rfl) (HS.out) ?_
  with_reducible refine wpQuiet_nil ?_
  intro wx hC;have HC2:=Lib.hid hC;clear hC;simp only[Act.put,List.setIfInBounds_toArray,List.set_cons_succ,List.set_cons_zero]
  go_wp2_with (refine wpList_store_row rfl 24 _ _ rfl (w.heap.size+1) (pw y) rfl rfl 24 #[.int .u64 0,.int .u64 0,.int .u64 0,.int .u64 0] (by exact HC2.out.r1) (by rw[pw_size];exact infoW4) (by rw[pw_size];rfl) (pw_one _) ?_)
  (try simp only[Act.put])
  exact bodyPost_ret (v:=.agg (pw y)) (results_cell_row (p:=6) rfl _ _ (w.heap.size+1) 24 (pw y) (0,0) _ rfl (setRow_heap _ _ _ _ _ _ HC2.out.r1) Tryz.underlying24 rfl (by rw[pw_size];exact infoW4)) rfl ⟨rfl,HC2.out.done⟩
 | false =>
  by_cases hle:m<=X
  ·rw[if_pos (.inr hle)]
   obtain⟨y,hy⟩:∃ y,x+(2^256 - m)=y:=⟨_,rfl⟩
   rw[hy]at HS |-
   clear hy;go_enter Tryz.func91,Tryz.ntmps91
   go_wp2_with fail
   refine wp_region_quiet (C:=C1 w F m x) (by kernel_rfl) (by kernel_rfl) (H0.out.drew) ?_;simp only
   with_reducible refine q_val (.bool false) (by kernel_rfl) (fun _ _=>by kernel_rfl) ?_
   with_reducible refine q_val (.bool false) (by kernel_rfl) (fun _ _=>by kernel_rfl) ?_
   with_reducible refine q_load 24 (.tmp 4) (.pointer (some ⟨w.heap.size,0,none⟩)) (.agg (pw x)) rfl (by kernel_rfl) (by kernel_rfl) (fun _ c=>ld_pw c.r0) ?_
   with_reducible refine q_val (.pointer (some ⟨F,0,none⟩)) (by kernel_rfl) (fun _ _=>by kernel_rfl) ?_
   with_reducible refine q_val (.pointer (some ⟨F,0,none⟩)) (by kernel_rfl) (fun _ _=>run_nil (.tmp 10) _ rfl (by kernel_rfl)) ?_
   with_reducible refine q_sem2 (Instr.fieldAt 103 (.pointer (some ⟨F,0,none⟩)) 0) (.pointer (some ⟨F,0,none⟩)) (by kernel_rfl) (by kernel_rfl) (fun w' _=>fld_at F w') ?_
   with_reducible refine q_load 24 (.tmp 12) (.pointer (some ⟨F,0,none⟩)) (.agg (pw m)) rfl (by kernel_rfl) (by kernel_rfl) (fun _ c=>ld_m c.fld) ?_
   with_reducible refine q_call 89 #[.agg (pw x),.agg (pw m)] (.int .i64 (ord X m)) (by kernel_rfl) (fun _=>by kernel_rfl) (HCM.out) ?_
   with_reducible refine q_bin .geq 3 _ _ 3 (.int .i64 (ord X m)) (.int .i64 0) (.bool true) rfl (by kernel_rfl) (by kernel_rfl) (by kernel_rfl) (fun _=>by kernel_rfl) (fun w'=>(geq_ord X m w').trans (by rw[decide_eq_true hle])) ?_
   with_reducible refine q_val (.bool true) (by kernel_rfl) (fun _ _=>by kernel_rfl) ?_
   with_reducible refine wpQuiet_nil ?_
   intro wx hC;have HC:=Lib.hid hC;clear hC;simp only[Act.put,List.setIfInBounds_toArray,List.set_cons_succ,List.set_cons_zero]
   go_wp2_with fail
   refine region_quiet_tail 6 (C1 w F m x) (by kernel_rfl) (by kernel_rfl) (HC.out.drew) ?_;simp only[List.take_succ_cons,List.take_zero,List.drop_succ_cons,List.drop_zero]
   with_reducible refine q_load 24 (.tmp 4) (.pointer (some ⟨w.heap.size,0,none⟩)) (.agg (pw x)) rfl (by kernel_rfl) (by kernel_rfl) (fun _ c=>ld_pw c.r0) ?_
   with_reducible refine q_val (.pointer (some ⟨F,0,none⟩)) (by kernel_rfl) (fun _ _=>by kernel_rfl) ?_
   with_reducible refine q_val (.pointer (some ⟨F,0,none⟩)) (by kernel_rfl) (fun _ _=>run_nil (.tmp 18) _ rfl (by kernel_rfl)) ?_
   with_reducible refine q_sem2 (Instr.fieldAt 103 (.pointer (some ⟨F,0,none⟩)) 0) (.pointer (some ⟨F,0,none⟩)) (by kernel_rfl) (by kernel_rfl) (fun w' _=>fld_at F w') ?_
   with_reducible refine q_load 24 (.tmp 20) (.pointer (some ⟨F,0,none⟩)) (.agg (pw m)) rfl (by kernel_rfl) (by kernel_rfl) (fun _ c=>ld_m c.fld) ?_
   with_reducible refine q_call 98 #[.agg (pw x),.agg (pw m)] (.agg (pw y)) (by kernel_rfl) (fun _=>by kernel_rfl) (HS.out) ?_
   with_reducible refine wpQuiet_nil ?_
   intro wx hC;have HC2:=Lib.hid hC;clear hC;simp only[Act.put,List.setIfInBounds_toArray,List.set_cons_succ,List.set_cons_zero]
   go_wp2_with (refine wpList_store_row rfl 24 _ _ rfl (w.heap.size+1) (pw y) rfl rfl 24 #[.int .u64 0,.int .u64 0,.int .u64 0,.int .u64 0] (by exact HC2.out.r1) (by rw[pw_size];exact infoW4) (by rw[pw_size];rfl) (pw_one _) ?_)
   (try simp only[Act.put])
   exact bodyPost_ret (v:=.agg (pw y)) (results_cell_row (p:=6) rfl _ _ (w.heap.size+1) 24 (pw y) (0,0) _ rfl (setRow_heap _ _ _ _ _ _ HC2.out.r1) Tryz.underlying24 rfl (by rw[pw_size];exact infoW4)) rfl ⟨rfl,HC2.out.done⟩
  ·rw[if_neg (by simp[hle])]
   go_enter Tryz.func91,Tryz.ntmps91
   go_wp2_with fail
   refine wp_region_quiet (C:=C1 w F m x) (by kernel_rfl) (by kernel_rfl) (H0.out.drew) ?_;simp only
   with_reducible refine q_val (.bool false) (by kernel_rfl) (fun _ _=>by kernel_rfl) ?_
   with_reducible refine q_val (.bool false) (by kernel_rfl) (fun _ _=>by kernel_rfl) ?_
   with_reducible refine q_load 24 (.tmp 4) (.pointer (some ⟨w.heap.size,0,none⟩)) (.agg (pw x)) rfl (by kernel_rfl) (by kernel_rfl) (fun _ c=>ld_pw c.r0) ?_
   with_reducible refine q_val (.pointer (some ⟨F,0,none⟩)) (by kernel_rfl) (fun _ _=>by kernel_rfl) ?_
   with_reducible refine q_val (.pointer (some ⟨F,0,none⟩)) (by kernel_rfl) (fun _ _=>run_nil (.tmp 10) _ rfl (by kernel_rfl)) ?_
   with_reducible refine q_sem2 (Instr.fieldAt 103 (.pointer (some ⟨F,0,none⟩)) 0) (.pointer (some ⟨F,0,none⟩)) (by kernel_rfl) (by kernel_rfl) (fun w' _=>fld_at F w') ?_
   with_reducible refine q_load 24 (.tmp 12) (.pointer (some ⟨F,0,none⟩)) (.agg (pw m)) rfl (by kernel_rfl) (by kernel_rfl) (fun _ c=>ld_m c.fld) ?_
   with_reducible refine q_call 89 #[.agg (pw x),.agg (pw m)] (.int .i64 (ord X m)) (by kernel_rfl) (fun _=>by kernel_rfl) (HCM.out) ?_
   with_reducible refine q_bin .geq 3 _ _ 3 (.int .i64 (ord X m)) (.int .i64 0) (.bool false) rfl (by kernel_rfl) (by kernel_rfl) (by kernel_rfl) (fun _=>by kernel_rfl) (fun w'=>(geq_ord X m w').trans (by rw[decide_eq_false hle])) ?_
   with_reducible refine q_val (.bool false) (by kernel_rfl) (fun _ _=>by kernel_rfl) ?_
   with_reducible refine wpQuiet_nil ?_
   intro wx hC;have HC:=Lib.hid hC;clear hC;simp only[Act.put,List.setIfInBounds_toArray,List.set_cons_succ,List.set_cons_zero]
   go_wp2_with (first | (refine wpList_load_row rfl 24 _ rfl w.heap.size rfl 24 (pw x) (0,0) _ (by exact HC.out.r0) Tryz.underlying24 rfl (by rw[pw_size];exact infoW4) ?_) | (refine wpList_store_row rfl 24 _ _ rfl (w.heap.size+1) (pw x) rfl rfl 24 #[.int .u64 0,.int .u64 0,.int .u64 0,.int .u64 0] (by exact HC.out.r1) (by rw[pw_size];exact infoW4) (by rw[pw_size];rfl) (pw_one _) ?_))
   (try simp only[Act.put])
   exact bodyPost_ret (v:=.agg (pw x)) (results_cell_row (p:=6) rfl _ _ (w.heap.size+1) 24 (pw x) (0,0) _ rfl (setRow_heap _ _ _ _ _ _ HC.out.r1) Tryz.underlying24 rfl (by rw[pw_size];exact infoW4)) rfl ⟨rfl,HC.out.done⟩
open Go.RowKit
theorem vl_split(f:Nat->Nat)(k:Nat):∀ n,val f (k+n)=val f k+18446744073709551616^k*val (fun j=>f (k+j)) n
 | 0=>by simp[val]
 | n+1=>by
  show val f (k+n)+18446744073709551616^(k+n)*f (k+n)=_;rw[vl_split f k n];simp only[val];rw[Nat.pow_add,Nat.mul_add,Nat.mul_assoc,Nat.add_assoc]
theorem val_setN(f:Nat->Nat)(p y:Nat):∀ L,p<L->val (updN f p y) L+18446744073709551616^p*f p=val f L+18446744073709551616^p*y
 | 0,h=>by omega
 | L+1,h=>by
  simp only[val];by_cases e:p=L
  ·subst e
   rw[val_congr (f:=updN f p y) (g:=f) (fun j hj=>by unfold updN;rw[if_neg (by omega)]),show updN f p y p=y from if_pos rfl];omega
  ·have:=val_setN f p y L (by omega)
   rw[show updN f p y L=f L from if_neg (by omega)];omega
theorem val_four(f:Nat->Nat):val f 4=f 0+18446744073709551616*(f 1+18446744073709551616*(f 2+18446744073709551616*f 3)):=by
 simp only[val];omega
theorem rowI_val{s a s':Nat->Nat}{u x c:Nat}(H:RowI s a u x 4 c s')(hu:u<=4):val s' 8+18446744073709551616^(u+4)*c=val s 8+18446744073709551616^u*(x*val a 4):=by
 obtain⟨n,hn⟩:∃ n,4 - u=n:=⟨_,rfl⟩
 have e8:8=u+(4+n):=by omega
 have h1:∀ f:Nat->Nat,val f 8=val f u+18446744073709551616^u*(val (fun j=>f (u+j)) 4+18446744073709551616^4*val (fun j=>f (u+(4+j))) n):=fun f=>by
  rw[e8,vl_split f u,vl_split (fun j=>f (u+j)) 4 n]
 have h2:val s' u=val s u:=val_congr fun j hj=>H.out j (.inl hj);have h3:val (fun j=>s' (u+(4+j))) n=val (fun j=>s (u+(4+j))) n:=val_congr fun j hj=>H.out _ (.inr (by omega));have h4:=H.sum;rw[h1 s',h1 s,h2,h3,Nat.pow_add];obtain⟨P,hP⟩:∃ P,18446744073709551616^u=P:=⟨_,rfl⟩
 obtain⟨Q,hQ⟩:∃ Q:Nat,18446744073709551616^4=Q:=⟨_,rfl⟩
 rw[hP,hQ];rw[hQ]at h4;have h5:P*(val (fun j=>s' (u+j)) 4+Q*c)=P*(val (fun j=>s (u+j)) 4+x*val a 4):=by rw[h4]
 rw[Nat.mul_add,Nat.mul_add]at h5;rw[Nat.mul_add,Nat.mul_add,Nat.mul_assoc];omega
structure T1 (x y k:Nat) (s:Nat->Nat):Prop where
 lt:∀ t,s t<18446744073709551616
 top:∀ t,4+k<=t->s t=0
 sum:val s 8=val (pN x) k*val (pN y) 4
theorem T1.next{x y k c:Nat}{s s':Nat->Nat}(h:T1 x y k s)(hk:k<4)(H:RowI s (pN y) k (pN x k) 4 c s'):T1 x y (k+1) (updN s' (k+4) c):=by
 refine⟨fun t=>?_,fun t ht=>?_,?_⟩
 ·unfold updN;split
  ·exact H.clt
  ·exact H.lt t
 ·unfold updN
  rw[if_neg (by omega),H.out t (.inr (by omega)),h.top t (by omega)]
 ·have h1:=val_setN s' (k+4) c 8 (by omega)
  have h2:=rowI_val H (by omega);have h3:s' (k+4)=0:=by rw[H.out _ (.inr (by omega)),h.top _ (by omega)]
  have h4:=h.sum;rw[show val (pN x) (k+1)=val (pN x) k+18446744073709551616^k*pN x k from rfl,Nat.add_mul,<- h4,Nat.mul_assoc];rw[h3,Nat.mul_zero]at h1;omega
structure T2 (m N k be:Nat) (s:Nat->Nat):Prop where
 lt:∀ t,s t<18446744073709551616
 one:be<=1
 low:∀ t,t<k->s t=0
 sum:∃ Q,Q<18446744073709551616^k/\val s 8+18446744073709551616^(k+4)*be=N+Q*m
theorem T2.next{m N k be c d be':Nat}{s s':Nat->Nat}(h:T2 m N k be s)(ho:m%2=1)(hm:m<2^256)(hk:k<4)(H:RowI s (pN m) k (s k*nin m%18446744073709551616) 4 c s')(hd:d<18446744073709551616)(hb:be'<=1)(he:d+18446744073709551616*be'=s' (k+4)+c+be):T2 m N (k+1) be' (updN s' (k+4) d):=by
 have hv:val (pN m) 4=m:=by rw[val_pN,Nat.mod_eq_of_lt hm]
 refine⟨fun t=>?_,hb,fun t ht=>?_,?_⟩
 ·unfold updN;split
  ·exact hd
  ·exact H.lt t
 ·unfold updN
  rw[if_neg (by omega)];by_cases e:t=k
  ·subst e
   have h1:=H.sum;rw[hv,val_four,val_four]at h1;have h2:=nin_ok ho (s t);have h3:(s t*nin m%18446744073709551616*(m%18446744073709551616))%18446744073709551616=(s t*nin m%18446744073709551616*m)%18446744073709551616:=mul_mod_r _ _ _;have h4:=H.lt t;simp only[Nat.add_zero]at h1;obtain⟨q,hq⟩:∃ q,s t*nin m%18446744073709551616*m=q:=⟨_,rfl⟩
   obtain⟨q2,hq2⟩:∃ q2,s t*nin m%18446744073709551616*(m%18446744073709551616)=q2:=⟨_,rfl⟩
   rw[hq]at h1 h3;rw[hq2]at h2 h3;have h5:(18446744073709551616^4:Nat)*c=18446744073709551616*(18446744073709551616^3*c):=by rw[<- Nat.mul_assoc,<- Nat.pow_succ']
   rw[h5]at h1;generalize (18446744073709551616^3:Nat)*c=z at h1;omega
  ·rw[H.out t (.inl (by omega)),h.low t (by omega)]
 ·obtain⟨Q,hQ,hs⟩:=h.sum
  have h1:=val_setN s' (k+4) d 8 (by omega);have h2:=rowI_val H (by omega);rw[hv]at h2;obtain⟨q,hq⟩:∃ q,s k*nin m%18446744073709551616=q:=⟨_,rfl⟩
  have hql:q<18446744073709551616:=by rw[<- hq];exact Nat.mod_lt _ (by omega)
  rw[hq]at h2;refine⟨Q+18446744073709551616^k*q,?_,?_⟩
  ·rw[Nat.pow_succ]
   have:18446744073709551616^k*q<=18446744073709551616^k*(18446744073709551616 - 1):=Nat.mul_le_mul_left _ (by omega);have h3:18446744073709551616^k*(18446744073709551616 - 1)+18446744073709551616^k=18446744073709551616^k*18446744073709551616:=by rw[<- Nat.mul_succ]
   omega
  ·rw[show k+1+4=(k+4)+1 by omega,Nat.pow_succ,Nat.add_mul,Nat.mul_assoc]
   obtain⟨P,hP⟩:∃ P,18446744073709551616^(k+4)=P:=⟨_,rfl⟩
   rw[hP]at h1 h2 hs |-
   have h3:P*(d+18446744073709551616*be')=P*(s' (k+4)+c+be):=by rw[he]
   rw[Nat.mul_add,Nat.mul_add,Nat.mul_add]at h3;rw[Nat.mul_assoc];omega
theorem T2.done{m x y be:Nat}{s:Nat->Nat}(h:T2 m (x*y) 4 be s)(ho:m%2=1)(h1:1<m)(hm:m<2^256)(hb:x*y<2^256*m):wv (lessV m (val (fun j=>s (4+j)) 4) (decide (be=1)))=wv (mnt m x y):=by
 obtain⟨Q,hQ,hs⟩:=h.sum;have e8:val s 8=2^256*val (fun j=>s (4+j)) 4:=by
  rw[show 8=4+4 from rfl,vl_split];have:val s 4=0:=by rw[val_four,h.low 0 (by omega),h.low 1 (by omega),h.low 2 (by omega),h.low 3 (by omega)]
  rw[this,Nat.zero_add]
 obtain⟨u,hu⟩:∃ u,val (fun j=>s (4+j)) 4=u:=⟨_,rfl⟩
 have hul:u<2^256:=by
  rw[<- hu,val_four];have a0:=h.lt 4;have a1:=h.lt 5;have a2:=h.lt 6;have a3:=h.lt 7;show s 4+18446744073709551616*(s 5+18446744073709551616*(s 6+18446744073709551616*s 7))<_;omega
 rw[hu]at e8 |-
 rw[e8,show(18446744073709551616:Nat)^(4+4)=2^256*2^256 by decide]at hs;have hQ2:Q<2^256:=hQ;have hone:=h.one;obtain⟨N,hN⟩:∃ N,x*y=N:=⟨_,rfl⟩
 -- T*R=N+Q*m,T=u+be*R
 obtain⟨T,hT⟩:∃ T,u+2^256*be=T:=⟨_,rfl⟩
 have hTR:T*2^256=x*y+Q*m:=by rw[<- hs,<- hT,Nat.add_mul,Nat.mul_comm u,Nat.mul_assoc,Nat.mul_comm be,<- Nat.mul_assoc]
 have hT2:T<m+m:=by
  have h2:Q*m<=2^256*m:=Nat.mul_le_mul_right m (by omega);have h3:T*2^256<(m+m)*2^256:=by rw[hTR,Nat.add_mul,Nat.mul_comm m];omega
  exact Nat.lt_of_mul_lt_mul_right h3
 have key:∀ r,r<m->(r=T\/r+m=T)->r=mnt m x y:=fun r hr h2=>by
  refine mnt_uniq ho h1 hr ?_;have h3:T*2^256%m=x*y%m:=by rw[hTR,Nat.add_mul_mod_self_right]
  rcases h2 with rfl | h2
  ·exact h3
  ·rw[<- h3,<- h2,Nat.add_mul,Nat.mul_comm m,Nat.add_mul_mod_self_right]
 unfold lessV;by_cases hc:be=1\/m<=u
 ·rw[if_pos (by rw[Nat.mod_eq_of_lt hul];simpa using hc)]
  have h2:T - m=mnt m x y:=key _ (by omega) (.inr (by rcases hc with hc | hc <;> omega));rw[<- h2];apply wv_congr;rcases hc with hc | hc
  ·subst hc
   congr 1;omega
  ·have hb0:be=0\/be=1:=by omega
   rcases hb0 with hb0 | hb0
   ·subst hb0
    rw[show u+(2^256 - m)=(T - m)+2^256 by omega,Nat.add_mod_right]
   ·subst hb0
    congr 1;omega
 ·rw[if_neg (by rw[Nat.mod_eq_of_lt hul];simpa using hc)]
  have hb0:be=0:=by omega
  subst hb0;have h2:T=mnt m x y:=key _ (by omega) (.inl rfl);rw[<- h2,<- hT,Nat.mul_zero,Nat.add_zero]
open Go.RowKit
theorem idx_pw(x k:Nat)(hk:k<4)(w:World):(Instr.index 24 (.agg (pw x)) (.int .i64 (k:Nat))).run Tryz.prog w=.ok (.int .u64 (pN x k:Nat)) w:=by
 rw[pw_ar];exact index_ar w Tryz.underlying24 (by kernel_rfl) (by kernel_rfl) hk
theorem slice8(S k:Nat)(h:k<=4)(w:World):(Instr.sliceAt 81 (.pointer (some ⟨S,0,none⟩)) (some (.int .i64 (k:Nat))) none none).run Tryz.prog w=.ok (.slice (some ⟨S,k,none⟩) (8 - k) (8 - k)) w:=by
 have hlen:Tryz.prog.arrayLen 81=8:=by kernel_rfl
 have hsz:(sizeOf (Tryz.prog.elem 81)).run Tryz.prog w=.ok 1 w:=by kernel_rfl
 rw[run_sliceAt_array_l w 81 ⟨S,0,none⟩ (by kernel_rfl) .i64 _ (by omega) (by rw[hlen];omega),hsz,hlen];simp only[Result.andThen,slicedAt,Addr.add];rw[Int.toNat_natCast,if_neg (by omega)];simp;omega
theorem arr8(S k:Nat)(h:k<=4)(w:World):(Instr.arrayAt 24 (.slice (some ⟨S,k,none⟩) (8 - k) (8 - k))).run Tryz.prog w=.ok (.pointer (some ⟨S,k,none⟩)) w :=
 run_arrayAt _ 24 22 4 _ _ _ Tryz.underlying24 (by omega)
theorem at8f(V j:Nat)(hj:j<8)(w:World):(Instr.indexAt 81 (.pointer (some ⟨V,0,none⟩)) (.int .i64 (j:Nat))).run Tryz.prog w=.ok (.pointer (some ⟨V,j,none⟩)) w:=by
 have h0:(0:Int)<=j:=by omega
 have h1:(j:Int)<8:=by omega
 go_simp
theorem mul_u(a b q:Nat)(h:a*b%18446744073709551616=q)(w:World):(binOp BinOp.mul 22 (.int .u64 (a:Nat)) (.int .u64 (b:Nat))).run Tryz.prog w=.ok (.int .u64 (q:Nat)) w:=by
 have e:(a:Int)*(b:Int)=((a*b:Nat):Int):=by simp
 have e2:IntKind.u64.wrap ((a:Int)*(b:Int))=(q:Int):=by rw[e,IntKind.wrap_u64];omega
 clear h e
 go_simp
theorem heap4f(w:World)(A B C D:Obj):((((w.alloc A).alloc B).alloc C).alloc D).heap[w.heap.size]?=some A/\((((w.alloc A).alloc B).alloc C).alloc D).heap[w.heap.size+1]?=some B/\((((w.alloc A).alloc B).alloc C).alloc D).heap[w.heap.size+1+1]?=some C/\((((w.alloc A).alloc B).alloc C).alloc D).heap[w.heap.size+1+1+1]?=some D:=by
 have h:=heap3 w A B C;have hs:(((w.alloc A).alloc B).alloc C).heap.size=w.heap.size+1+1+1:=by simp
 refine⟨(heap_alloc_old _ _ (by omega)).trans h.1,(heap_alloc_old _ _ (by omega)).trans h.2.1,(heap_alloc_old _ _ (by omega)).trans h.2.2,?_⟩;rw[<- hs];exact heap_alloc_new _ _
structure CT3 (w:World) (F m x y:Nat) (s:Nat->Nat) (wx:World):Prop where
 old:Below w.heap.size w wx
 fld:FldAt wx F m
 r0:wx.heap[w.heap.size]?=some (.cells (pw x) 24 (0,0))
 r1:wx.heap[w.heap.size+1]?=some (.cells (pw y) 24 (0,0))
 r2:wx.heap[w.heap.size+1+1]?=some (.cells #[.int .u64 0,.int .u64 0,.int .u64 0,.int .u64 0] 24 (0,0))
 rS:wx.heap[w.heap.size+1+1+1]?=some (.cells (ar .u64 8 fun j=>((s j:Nat):Int)) 81 (0,0))
 hF:F<w.heap.size
theorem CT3.high{w wx:World}{F m x y:Nat}{s:Nat->Nat}(c:CT3 w F m x y s wx):w.heap.size+1+1+1+1<=wx.heap.size:=(Array.getElem?_eq_some_iff.1 c.rS).1
theorem CT3.below{w wx w':World}{F m x y:Nat}{s:Nat->Nat}(c:CT3 w F m x y s wx)(hb:Below wx.heap.size wx w'):CT3 w F m x y s w':=by
 have l:=c.high;exact⟨c.old.trans (hb.mono (by omega)),c.fld.below hb,(hb.block _ (by omega)).trans c.r0,(hb.block _ (by omega)).trans c.r1,(hb.block _ (by omega)).trans c.r2,(hb.block _ (by omega)).trans c.rS,c.hF⟩
theorem CT3.drew{w wx:World}{F m x y:Nat}{s:Nat->Nat}(c:CT3 w F m x y s wx):CT3 w F m x y s wx.drew:=c.below (Below.drew (Below.refl _ _))
theorem CT3.after{w wx w':World}{F m x y:Nat}{s s':Nat->Nat}(c:CT3 w F m x y s wx)(hb:Bt (w.heap.size+1+1+1) wx w')(hr:w'.heap[w.heap.size+1+1+1]?=some (.cells (ar .u64 8 fun j=>((s' j:Nat):Int)) 81 (0,0))):CT3 w F m x y s' w':=by
 have l:=c.high;have l2:=c.hF;exact⟨hb.below c.old (by omega) (by omega),⟨(hb.block _ (by omega) (by omega)).trans c.fld.row,c.fld.odd,c.fld.big,c.fld.lt⟩,(hb.block _ (by omega) (by omega)).trans c.r0,(hb.block _ (by omega) (by omega)).trans c.r1,(hb.block _ (by omega) (by omega)).trans c.r2,hr,c.hF⟩
theorem CT3.set{w wx:World}{F m x y:Nat}{s:Nat->Nat}(c:CT3 w F m x y s wx)(p z:Nat)(hp:p<8):CT3 w F m x y (updN s p z) (wx.setCell ⟨w.heap.size+1+1+1,p,none⟩ (.int .u64 (z:Nat))) :=
 c.after ((Bt.refl _ _).set _) ((heap_setCell_same _ _ _ _ _ _ c.rS).trans (by rw[ar_set _ _ _ _ _ hp,updI_N]))
theorem CT3.at_{w wx:World}{F m x y:Nat}{s:Nat->Nat}(c:CT3 w F m x y s wx)(j:Nat)(hj:j<8):wx.cell? ⟨w.heap.size+1+1+1,j,none⟩=some (.int .u64 (s j:Nat)):=(cell_of_row _ _ j _ _ _ c.rS).trans (ar_at _ _ _ _ hj)
theorem CT3.at_y{w wx:World}{F m x y:Nat}{s:Nat->Nat}(c:CT3 w F m x y s wx)(j:Nat)(hj:j<4):wx.cell? ⟨w.heap.size+1,0+j,none⟩=some (.int .u64 (pN y j:Nat)):=by
 rw[Nat.zero_add,cell_of_row _ _ j _ _ _ c.r1,pw_ar];exact ar_at _ _ _ _ hj
theorem CT3.at_m{w wx:World}{F m x y:Nat}{s:Nat->Nat}(c:CT3 w F m x y s wx)(j:Nat)(hj:j<4):wx.cell? ⟨F,0+j,none⟩=some (.int .u64 (pN m j:Nat)):=by
 rw[Nat.zero_add,c.fld.cell j (by omega)];unfold frw;rw[if_pos hj]
theorem pN_lt(x j:Nat):pN x j<18446744073709551616:=pN_le x j
theorem ld_top{w wx:World}{F m x y:Nat}{s:Nat->Nat}(c:CT3 w F m x y s wx)(hs:∀ t,s t<18446744073709551616):(Instr.loadAt 24 (.pointer (some ⟨w.heap.size+1+1+1,4,none⟩))).run Tryz.prog wx=.ok (.agg (pw (val (fun j=>s (4+j)) 4))) wx:=by
 rw[pw_ar];have e:∀ j,j<4->pN (val (fun j=>s (4+j)) 4) j=s (4+j):=fun j hj=>by
  have a0:=hs 4;have a1:=hs 5;have a2:=hs 6;have a3:=hs 7;have h:j=0\/j=1\/j=2\/j=3:=by omega
  rw[val_four];unfold pN;show(s 4+18446744073709551616*(s 5+18446744073709551616*(s 6+18446744073709551616*s 7)))%_ / _%_=_;rcases h with rfl | rfl | rfl | rfl
  ·simp;omega
  ·simp;omega
  ·simp;omega
  ·simp;omega
 simp only[Instr.loadAt,Instr.sureAddr,Sem.run_bind,Sem.run_pure,Result.andThen_ok,run_loadVar_part wx (w.heap.size+1+1+1) 4 4 24 .u64 (fun j=>((pN (val (fun j=>s (4+j)) 4) j:Nat):Int)) _ (fun j hj=>by
  show _=some (Value.int .u64 ((pN (val (fun j=>s (4+j)) 4) j:Nat):Int));rw[c.at_ (4+j) (by omega),e j hj]) Tryz.underlying24 rfl infoW4]
-- WHAT times COMES TO.
theorem times_any(F m x y:Nat)(hx:x<2^256)(hy:y<2^256)(hxy:x*y<2^256*m)(w:World)(hF:FldAt w F m):Calls Tryz.prog 87 #[.pointer (some ⟨F,0,none⟩),.agg (pw x),.agg (pw y)] w fun e w'=>e=.returned (.agg (pw (mnt m x y)))/\Below w.heap.size w w':=by
 have H4:=Lib.hid (heap4f w (.cells (pw x) 24) (.cells (pw y) 24) (.cells #[.int .u64 0,.int .u64 0,.int .u64 0,.int .u64 0] 24) (.cells #[.int .u64 0,.int .u64 0,.int .u64 0,.int .u64 0,.int .u64 0,.int .u64 0,.int .u64 0,.int .u64 0] 81));have H0:=Lib.hid (show CT3 w F m x y (fun _=>0) ((((w.alloc (.cells (pw x) 24)).alloc (.cells (pw y) 24)).alloc (.cells #[.int .u64 0,.int .u64 0,.int .u64 0,.int .u64 0] 24)).alloc (.cells #[.int .u64 0,.int .u64 0,.int .u64 0,.int .u64 0,.int .u64 0,.int .u64 0,.int .u64 0,.int .u64 0] 81)) from
  ⟨by go_grown,⟨(show Below w.heap.size w ((((w.alloc (.cells (pw x) 24)).alloc (.cells (pw y) 24)).alloc (.cells #[.int .u64 0,.int .u64 0,.int .u64 0,.int .u64 0] 24)).alloc (.cells #[.int .u64 0,.int .u64 0,.int .u64 0,.int .u64 0,.int .u64 0,.int .u64 0,.int .u64 0,.int .u64 0] 81)) from by go_grown).block _ hF.less |>.trans hF.row,hF.odd,hF.big,hF.lt⟩,H4.out.1,H4.out.2.1,H4.out.2.2.1,H4.out.2.2.2,hF.less⟩)
 have HI:=Lib.hid (show T1 x y 0 (fun _=>0) from⟨fun _=>by show 0<18446744073709551616;omega,fun _ _=>rfl,by simp only[val];simp⟩);have HB:=Lib.hid (And.intro hx (And.intro hy hxy));clear H4 hF hx hy hxy;go_enter Tryz.func87,Tryz.ntmps87
 go_wp2_with (refine wpList_ld rfl 24 _ rfl (.pointer (some ⟨w.heap.size,0,none⟩)) (.agg (pw x)) rfl (ld_pw H0.out.r0) ?_)
 go_loopw [14] (fun iv wr=>∃(k:Nat) (s:Nat->Nat),k<=4/\iv=.int .i64 k/\Hid (T1 x y k s/\CT3 w F m x y s wr)) (fun iv _=>4 - (intOf iv).toNat)
 case atStart=>exact⟨0,fun _=>0,by omega,rfl,Lib.hid ⟨HI.out,H0.out⟩⟩
 case round =>
  obtain⟨k,s,hk,rfl,H⟩:=hrel;clear HI H0;have hk0:(0:Int)<=k:=by omega
  by_cases hlt:k<4
  ·have hlt':(k:Int)<4:=by omega
   have hix:=idx_pw x k hlt;obtain⟨z,hz⟩:∃ z,pN x k=z:=⟨_,rfl⟩
   rw[hz]at hix;have hsl:=slice8 (w.heap.size+1+1+1) k (by omega);have har:=arr8 (w.heap.size+1+1+1) k (by omega);obtain⟨L,hL⟩:∃ L,8 - k=L:=⟨_,rfl⟩
   rw[hL]at hsl har;obtain⟨p,hp⟩:∃ p:Nat,(k:Int)+4=(p:Int):=⟨k+4,by omega⟩
   have hp0:(0:Int)<=p:=by omega
   have hp8:(p:Int)<8:=by omega
   have hwp:IntKind.i64.wrap (p:Int)=(p:Int):=by rw[IntKind.wrap_i64];omega
   have HP:=Lib.hid (And.intro hlt (show k+4=p by omega));have HZ:=Lib.hid hz;clear hz hL
   go_wp2_with fail
   refine(addTimes_any (w.heap.size+1+1+1) (w.heap.size+1) 0 k z (pN y) s (by omega) (by rw[<- HZ.out];exact pN_lt _ _) (pN_lt y) H.out.1.lt (by omega) wr H.out.2.rS (fun j hj=>H.out.2.at_y j hj)).mono ?_;rintro e w5 ⟨c,s1,rfl,hI,hCA⟩;have HC:=Lib.hid (H.out.2.after hCA.bt hCA.row);have HT:=Lib.hid (show T1 x y (k+1) (updN s1 p c) from by
    rw[<- HZ.out]at hI;have:=H.out.1.next HP.out.1 hI;rwa [HP.out.2]at this)
   have co:=HC.out.at_ p (by omega);have fo:=frozen_of_row w5 (w.heap.size+1+1+1) p _ _ HC.out.rS;clear hI hCA H
   go_wp2_with fail
   go_roundw
   case rel=>exact⟨k+1,updN s1 p c,by have:=HP.out.1;omega,by go_num,Lib.hid ⟨HT.out,HC.out.set p c (by omega)⟩⟩
   case measure=>simp[intOf];omega
  ·obtain rfl:k=4:=by omega
   have hlt':¬((4:Nat):Int)<4:=by omega
   have H2:=Lib.hid (show T2 m (x*y) 0 0 s/\CT3 w F m x y s wr from by
    refine⟨⟨H.out.1.lt,by omega,fun t ht=>by omega,0,by simp,?_⟩,H.out.2⟩;rw[H.out.1.sum,val_pN,val_pN,Nat.mod_eq_of_lt HB.out.1,Nat.mod_eq_of_lt HB.out.2.1];simp)
   clear H hlt hlt' hk0 hk;simp only[Int.cast_ofNat_Int]
   go_wp2_with fail
   go_loopw [10,27] (fun bv iv wr=>∃(k be:Nat) (s:Nat->Nat),k<=4/\be<=1/\bv=.int .u64 be/\iv=.int .i64 k/\Hid (T2 m (x*y) k be s/\CT3 w F m x y s wr)) (fun _ iv _=>4 - (intOf iv).toNat)
   case atStart=>exact⟨0,0,s,by omega,by omega,rfl,rfl,H2⟩
   case round =>
    obtain⟨k,be,s,hk,hbe,rfl,rfl,H⟩:=hrel;clear H2;have hk0:(0:Int)<=k:=by omega
    by_cases hlt:k<4
    ·have hlt':(k:Int)<4:=by omega
     obtain⟨p,hp⟩:∃ p:Nat,(k:Int)+4=(p:Int):=⟨k+4,by omega⟩
     have hp0:(0:Int)<=p:=by omega
     have hp8:(p:Int)<8:=by omega
     have hwp:IntKind.i64.wrap (p:Int)=(p:Int):=by rw[IntKind.wrap_i64];omega
     obtain⟨q,hq⟩:∃ q,s k*nin m%18446744073709551616=q:=⟨_,rfl⟩
     have HP:=Lib.hid (And.intro hlt (And.intro (show k+4=p by omega) (And.intro hq hbe)));obtain⟨L,hL⟩:∃ L,8 - k=L:=⟨_,rfl⟩
     have HL:=Lib.hid hL;clear hq hL
     go_wp2_with fail
     refine region_quiet_tail 14 (CT3 w F m x y s) (by kernel_rfl) (by kernel_rfl) (H.out.2.drew) ?_;simp only[List.take_succ_cons,List.take_zero,List.drop_succ_cons,List.drop_zero]
     with_reducible refine q_val (.int .i64 (k:Nat)) (by kernel_rfl) (fun _ _=>by kernel_rfl) ?_
     with_reducible refine q_sem2 (Instr.sliceAt 81 (.pointer (some ⟨w.heap.size+1+1+1,0,none⟩)) (some (.int .i64 (k:Nat))) none none) (.slice (some ⟨w.heap.size+1+1+1,k,none⟩) L L) (by kernel_rfl) (by kernel_rfl) (fun w' _=>by rw[<- HL.out];exact slice8 _ k (by have:=HP.out.1;omega) w') ?_
     with_reducible refine q_sem2 (Instr.arrayAt 24 (.slice (some ⟨w.heap.size+1+1+1,k,none⟩) L L)) (.pointer (some ⟨w.heap.size+1+1+1,k,none⟩)) (by kernel_rfl) (by kernel_rfl) (fun w' _=>by rw[<- HL.out];exact arr8 _ k (by have:=HP.out.1;omega) w') ?_
     with_reducible refine q_val (.pointer (some ⟨F,0,none⟩)) (by kernel_rfl) (fun _ _=>by kernel_rfl) ?_
     with_reducible refine q_val (.pointer (some ⟨F,0,none⟩)) (by kernel_rfl) (fun _ _=>run_nil (.tmp 33) _ rfl (by kernel_rfl)) ?_
     with_reducible refine q_sem2 (Instr.fieldAt 103 (.pointer (some ⟨F,0,none⟩)) 0) (.pointer (some ⟨F,0,none⟩)) (by kernel_rfl) (by kernel_rfl) (fun w' _=>fld_at F w') ?_
     with_reducible refine q_val (.int .i64 (k:Nat)) (by kernel_rfl) (fun _ _=>by kernel_rfl) ?_
     with_reducible refine q_sem2 (Instr.indexAt 81 (.pointer (some ⟨w.heap.size+1+1+1,0,none⟩)) (.int .i64 (k:Nat))) (.pointer (some ⟨w.heap.size+1+1+1,k,none⟩)) (by kernel_rfl) (by kernel_rfl) (fun w' _=>at8f _ k (by have:=HP.out.1;omega) w') ?_
     with_reducible refine q_load 22 (.tmp 37) (.pointer (some ⟨w.heap.size+1+1+1,k,none⟩)) (.int .u64 (s k:Nat)) rfl (by kernel_rfl) (by kernel_rfl) (fun _ c=>load_u64 _ _ _ _ (c.at_ k (by have:=HP.out.1;omega))) ?_
     with_reducible refine q_val (.pointer (some ⟨F,0,none⟩)) (by kernel_rfl) (fun _ _=>by kernel_rfl) ?_
     with_reducible refine q_val (.pointer (some ⟨F,0,none⟩)) (by kernel_rfl) (fun _ _=>run_nil (.tmp 39) _ rfl (by kernel_rfl)) ?_
     with_reducible refine q_sem2 (Instr.fieldAt 103 (.pointer (some ⟨F,0,none⟩)) 1) (.pointer (some ⟨F,4,none⟩)) (by kernel_rfl) (by kernel_rfl) (fun w' _=>fld_inv F w') ?_
     with_reducible refine q_load 22 (.tmp 41) (.pointer (some ⟨F,4,none⟩)) (.int .u64 (nin m:Nat)) rfl (by kernel_rfl) (by kernel_rfl) (fun _ c=>ld_inv c.fld) ?_
     with_reducible refine q_bin .mul 22 _ _ 22 (.int .u64 (s k:Nat)) (.int .u64 (nin m:Nat)) (.int .u64 (q:Nat)) rfl (by kernel_rfl) (by kernel_rfl) (by kernel_rfl) (fun _=>by kernel_rfl) (fun w'=>mul_u _ _ _ HP.out.2.2.1 w') ?_
     with_reducible refine wpQuiet_nil ?_
     intro wx hC;have HC:=Lib.hid hC;clear hC;simp only[Act.put,List.setIfInBounds_toArray,List.set_cons_succ,List.set_cons_zero]
     go_wp2_with fail
     refine(addTimes_any (w.heap.size+1+1+1) F 0 k q (pN m) s (by have:=HP.out.1;omega) (by rw[<- HP.out.2.2.1];exact Nat.mod_lt _ (by omega)) (pN_lt m) H.out.1.lt (by have:=HC.out.hF;omega) wx HC.out.rS (fun j hj=>HC.out.at_m j hj)).mono ?_;rintro e w5 ⟨c,s1,rfl,hI,hCA⟩;have HC5:=Lib.hid (HC.out.after hCA.bt hCA.row);obtain⟨d,be',hbe',hd,he,hA⟩:=add64_ex (s1 p) c be (hI.lt p) hI.clt HP.out.2.2.2;have HT:=Lib.hid (show T2 m (x*y) (k+1) be' (updN s1 p d) from by
      rw[<- HP.out.2.2.1]at hI;rw[<- HP.out.2.1]at he |-
      exact H.out.1.next HC.out.fld.odd HC.out.fld.lt HP.out.1 hI hd hbe' he)
     have co:=HC5.out.at_ p (by omega);have fo:=frozen_of_row w5 (w.heap.size+1+1+1) p _ _ HC5.out.rS;obtain⟨z,hz⟩:∃ z,s1 p=z:=⟨_,rfl⟩
     rw[hz]at hA co;have HBE:=Lib.hid hbe';clear hI hCA H HC he hd hz hbe'
     go_wp2_with fail
     go_roundw
     case rel=>exact⟨k+1,be',updN s1 p d,by have:=HP.out.1;omega,HBE.out,rfl,by go_num,Lib.hid ⟨HT.out,HC5.out.set p d (by omega)⟩⟩
     case measure=>simp[intOf];omega
    ·obtain rfl:k=4:=by omega
     have hlt':¬((4:Nat):Int)<4:=by omega
     have hsl:=slice8 (w.heap.size+1+1+1) 4 (by omega);have har:=arr8 (w.heap.size+1+1+1) 4 (by omega);have HD:=Lib.hid (H.out.1.done H.out.2.fld.odd H.out.2.fld.big H.out.2.fld.lt HB.out.2.2);have HLD:=Lib.hid (ld_top H.out.2 H.out.1.lt);obtain⟨u,hu⟩:∃ u,val (fun j=>s (4+j)) 4=u:=⟨_,rfl⟩
     rw[hu]at HD HLD;clear hu;have hbq:((be:Int) == 1)=decide (be=1):=by
      by_cases e:be=1
      ·subst e;rfl
      ·have:¬(be:Int)=1:=by omega
       simp[e,this]
     obtain⟨B,hB⟩:∃ B,decide (be=1)=B:=⟨_,rfl⟩
     rw[hB]at HD hbq;clear hB
     go_wp2_with (refine wpList_ld rfl 24 _ rfl (.pointer (some ⟨w.heap.size+1+1+1,4,none⟩)) (.agg (pw u)) rfl HLD.out ?_)
     refine(lessOnce_any F m u B _ H.out.2.fld).mono ?_;rintro e w6 ⟨rfl,hb6⟩;have H6:=Lib.hid (H.out.2.below hb6);clear hb6 HLD
     go_wp2_with (refine wpList_store_row rfl 24 _ _ rfl (w.heap.size+1+1) (pw (lessV m u B)) rfl rfl 24 #[.int .u64 0,.int .u64 0,.int .u64 0,.int .u64 0] (by exact H6.out.r2) (by rw[pw_size];exact infoW4) (by rw[pw_size];rfl) (pw_one _) ?_)
     (try simp only[Act.put])
     refine bodyPost_ret (v:=.agg (pw (lessV m u B))) (results_cell_row (p:=6) rfl _ _ (w.heap.size+1+1) 24 (pw (lessV m u B)) (0,0) _ rfl (setRow_heap _ _ _ _ _ _ H6.out.r2) Tryz.underlying24 rfl (by rw[pw_size];exact infoW4)) rfl ⟨?_,below_setRow H6.out.old (by omega) _⟩;exact congrArg Ending.returned HD.out
end Go.Proofs.YtfmpjjhdocejiaaGreat
