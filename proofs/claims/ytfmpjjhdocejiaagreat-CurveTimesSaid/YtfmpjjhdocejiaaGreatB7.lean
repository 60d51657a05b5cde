/- What (*Field).Exp comes to. (Cut to what is reached, written closely: SyK · SyF · SyW · Eqp · SyB · Gsp · Pair · FTab · FPow · FExp.) -/
import Derived.Test.YtfmpjjhdocejiaaGreatB6
import Derived.Deep.LoopGhost
import Derived.Test.YtfmpjjhdocejiaaGreatB5
import Derived.Laws.StructEq
import Derived.Test.YtfmpjjhdocejiaaGreatB1
import Derived.Deep.MidRow
import Derived.Deep.DeepCutAuto
set_option linter.all false
set_option maxRecDepth 100000
set_option maxHeartbeats 8000000
namespace Go.Proofs.YtfmpjjhdocejiaaGreat.Sy
open Go.RowKit
section
variable {E:Env} {γ0 γ γs δ:Pl} {N nx:Nat} {w0 ws w w' wx:World} {s:St} {a a0:Act} {o:Oper} {l:List Oper} {es:List Ef} {D D':Nat->Bool} {ps:List Ob} {Q:Post} {X:Exit->Act->World->Prop} {k:St->Tr} {lk:Nat->Option SV} {M:Rows} {e:Ef} {p:List Ob}
theorem eff_s(h:effGo E N nx lk M o=some (e,p)):∀ t,o.dst=some t->∃ y,e.d=some (t,y):=by
 intro t hd;unfold effGo at h;rw[hd]at h
 split at h
 ·rename_i e1;cases e1
 ·rename_i e1
  cases e1
  split at h
  ·split at h
   ·cases h;exact⟨_,rfl⟩
   ·cases h
  ·cases h
 ·rename_i e1
  cases e1
  split at h
  ·split at h
   ·cases h;exact⟨_,rfl⟩
   ·cases h
  ·cases h
 ·rename_i e1
  cases e1
  split at h
  ·split at h
   ·split at h
    ·cases h;exact⟨_,rfl⟩
    ·cases h
   ·cases h
  ·cases h
 ·rename_i e1
  cases e1
  split at h
  ·split at h
   ·split at h
    ·split at h
     ·cases h;exact⟨_,rfl⟩
     ·cases h
    ·cases h
   ·cases h
  ·split at h
   ·split at h
    ·cases h;exact⟨_,rfl⟩
    ·cases h
   ·cases h
 ·rename_i e1 _ _ _ _
  cases e1
  split at h
  ·split at h
   ·cases h;exact⟨_,rfl⟩
   ·cases h
  ·cases h
 ·cases h
theorem effAt_s{gs:Option SV}(h:effAt E N nx gs lk M o=some (e,p)):∀ t,o.dst=some t->∃ y,e.d=some (t,y):=by
 intro t hd;unfold effAt at h
 split at h
 ·exact eff_s h t hd
 ·split at h
  ·split at h
   ·exact eff_s h t hd
   ·rw[hd]at h
    dsimp only at h
    split at h
    ·cases h;exact⟨_,rfl⟩
    ·cases h
  ·split at h
   ·rename_i _ d x p' _ hx
    split at h
    ·cases h
     have:=(eff_d hx d _ rfl).1;rw[hd]at this;cases this;exact⟨_,rfl⟩
    ·cases h
   ·cases h
  ·cases h
def keyed(A:List (Nat × Option SV))(t:Nat):Bool:=A.any fun p=>p.1 == t
theorem look_append:∀ {A B:List (Nat × Option SV)} {t:Nat},look (A++B) t=if keyed A t=true then look A t else look B t
 | [],_,_=>rfl
 | p::A,B,t=>by
  have ih:=look_append (A:=A) (B:=B) (t:=t);show(if p.1=t then p.2 else look (A++B) t)=_;unfold keyed at ih |-
  rw[List.any_cons];by_cases h:p.1=t
  ·have hb:(p.1 == t)=true:=beq_iff_eq.2 h
   rw[if_pos h,hb,Bool.true_or,if_pos rfl];show _=if p.1=t then p.2 else look A t
   rw[if_pos h]
  ·have hb:(p.1 == t)=false:=beq_eq_false_iff_ne.2 h
   rw[if_neg h,hb,Bool.false_or,ih];show _=if _ then (if p.1=t then p.2 else look A t)else _
   rw[if_neg h]
theorem slots_look:∀ {es:List Ef} {t:Nat} {x:SV},look (slotsE es) t=some x->∃(i:Nat) (e:Ef),es[i]?=some e/\e.d=some (t,some x)
 | [],_,_,h=>by cases h
 | e::es,t,x,h=>by
  unfold slotsE at h;cases hd:e.d with
  | none =>
   rw[hd]at h;obtain⟨i,f,h1,h2⟩:=slots_look h;exact⟨i+1,f,by simpa using h1,h2⟩
  | some q =>
   rw[hd]at h;have h:(if q.1=t then q.2 else look (slotsE es) t)=some x:=h
   split at h
   ·rename_i hq
    exact⟨0,e,rfl,by rw[hd,<- hq,<- h]⟩
   ·obtain⟨i,f,h1,h2⟩:=slots_look h
    exact⟨i+1,f,by simpa using h1,h2⟩
theorem slots_key:∀ {es:List Ef} {t:Nat} {i:Nat} {e:Ef} {y:Option SV},es[i]?=some e->e.d=some (t,y)->keyed (slotsE es) t=true
 | [],_,_,_,_,h,_=>by cases h
 | f::es,t,0,e,y,h,hd=>by
  cases h;unfold slotsE keyed;rw[hd,List.any_cons];simp
 | f::es,t,i+1,e,y,h,hd=>by
  have:=slots_key (es:=es) (i:=i) (by simpa using h) hd;unfold slotsE
  split
  ·unfold keyed at this |-
   rw[List.any_cons,this,Bool.or_true]
  ·exact this
theorem nodup_ids:∀ {R:Rows},nodupB (R.map (·.1))=true->R.Pairwise fun p q=>p.1≠q.1
 | [],_=>.nil
 | r::R,h=>by
  rw[List.map_cons]at h;unfold nodupB at h;rw[Bool.and_eq_true]at h;refine List.pairwise_cons.2 ⟨fun q hq e=>?_,nodup_ids h.2⟩;have h1:=h.1;have:(R.map (·.1)).contains r.1=true:=by
   rw[List.contains_iff_mem,e];exact List.mem_map.2 ⟨_,hq,rfl⟩
  rw[this]at h1;cases h1
theorem RelD.all{ms:List (Nat × Nat)}(hlen:es.length=l.length)(hpass:∀(i:Nat) o,l[i]?=some o->∃ e,es[i]?=some e/\PassAt E N l ms s es ps i o e)(R0:Rel E γ0 γs N w0 s a0 ws)(hn:nodupB ((rowsD (fun _=>true) es s.M).map (·.1))=true)
  (h:RelD E γ0 γs γ N w0 s l es a0 D a w) (hD:∀ i,i<l.length->D i=true):Rel E γ0 γ N w0 (afterD es s) a w:=by
 have lt:∀ {i:Nat} {f:Ef},es[i]?=some f->i<es.length:=fun hf=>(List.getElem?_eq_some_iff.1 hf).1;have dn:∀ {i:Nat} {f:Ef},es[i]?=some f->D i=true:=fun hf=>hD _ (hlen ▸ lt hf);have inD:∀ r∈rowsD (fun _=>true) es s.M,r∈rowsD D es s.M:=fun r hr=>by
  obtain⟨c,hc,he⟩:=rows_mem.1 hr;refine rows_mem.2 ⟨c,?_,?_⟩
  ·rcases List.mem_append.1 hc with hc | hc
   ·obtain⟨j,f,h1,_,h3⟩:=made_mem.1 hc
    exact List.mem_append_left _ (made_mem.2 ⟨j,f,h1,by rw[Nat.zero_add];exact dn h1,h3⟩)
   ·exact List.mem_append_right _ hc
  ·rw[he]
   exact cur_ext fun j f q h1 _ _=>by rw[Nat.zero_add];exact(dn h1).symm
 have oldV:∀ {x:SV},x.lt s.n=true->x.val γs=x.val γ:=fun {x} hx=>(SV.lt_same (γ:=γs) (δ:=γ) (fun g hg=>(h.old g hg).symm) hx).2.2;refine⟨fun g hg=>(h.old g (Nat.lt_of_lt_of_le hg R0.base)).trans (R0.ag g hg),Nat.le_trans R0.base (Nat.le_add_right _ _),h.z,h.d,fun t x hx=>?_,⟨h.b,fun p hp=>?_,?_⟩,fun r hr=>?_⟩
 ·have hx:look (slotsE es++s.S) t=some x:=hx
  rw[look_append]at hx
  split at hx
  ·obtain⟨i,f,h1,h2⟩:=slots_look hx
   have:=h.sl i f t x h1 (dn h1) h2;exact⟨this.1,this.2.1,SV.lt_mono (show s.n+8*(i+1)<=s.n+8*es.length by have:=lt h1;omega) this.2.2⟩
  ·rename_i hk
   have:=R0.k t x hx;refine⟨?_,this.2.1,SV.lt_mono (Nat.le_add_right _ _) this.2.2⟩;rw[h.kp t fun i o hi _ hd=>hk ?_,this.1,oldV this.2.2];obtain⟨f,h1,⟨p',h2,_⟩,_⟩:=hpass i o hi;obtain⟨y,hy⟩:=effAt_s h2 t hd;exact slots_key h1 hy
 ·obtain⟨r,hr,rfl⟩:=List.mem_map.1 hp
  exact h.rows r (inD r hr)
 ·exact List.pairwise_map.2 ((nodup_ids hn).imp_of_mem fun {p q} hp hq hne=>h.nd p (inD p hp) q (inD q hq) hne)
 ·have hr:r∈rowsD (fun _=>true) es s.M:=hr
  show r.2.1.ok/\r.2.1.lt (s.n+8*es.length)=true/\r.1<s.n+8*es.length;obtain⟨c,hc,he⟩:=rows_mem.1 hr;have hcc:c.ok/\c.lt (s.n+8*es.length)=true/\r.1<s.n+8*es.length:=by
   rcases List.mem_append.1 hc with hc | hc
   ·obtain⟨j,f,h1,_,h3⟩:=made_mem.1 hc
    have:=h.rk j f h1 (dn h1) _ h3;have hj:=lt h1;exact⟨this.1,SV.lt_mono (by omega) this.2.1,Nat.lt_of_lt_of_le this.2.2.2 (by omega)⟩
   ·have:=R0.m _ hc
    exact⟨this.1,SV.lt_mono (Nat.le_add_right _ _) this.2.1,Nat.lt_of_lt_of_le this.2.2 (Nat.le_add_right _ _)⟩
  rcases cur_mem (D:=fun _=>true) (g:=r.1) (es:=es) (i:=0) (c:=c)with h1 | ⟨j,f,h1,_,h3⟩
  ·rw[he,h1]
   exact hcc
  ·rw[<- he]at h3
   have:=h.sk j f _ _ h1 (dn h1) h3;have hj:=lt h1;exact⟨this.1,SV.lt_mono (by omega) this.2,hcc.2.2⟩
theorem drawAny{ms:List (Nat × Nat)}(G:E.Good γ0 w0)(hms:ms=masksA l 0 [])(hdist:distinctB l=true)(hr:rankB l.toArray (fun i=>i)=true)(hp:All ps)(hlen:es.length=l.length)(hpass:∀(i:Nat) o,l[i]?=some o->∃ e,es[i]?=some e/\PassAt E N l ms s es ps i o e)
  (R0:Rel E γ0 γs N w0 s a0 ws) (fin:∀ γ D a w,RelD E γ0 γs γ N w0 s l es a0 D a w->(∀ i,i<l.length->D i=true)->X .normal a w) :
  ∀(fuel:Nat) (listed:Array Bool) (γ:Pl) (a:Act) (w:World),listed.size=l.length->listed.toList.count false=fuel->(∀(i:Nat) o,l[i]?=some o->listed.getD i false=true->∀ e∈o.after,Region.binds .any e=true->listed.getD e.on false=true)->RelD E γ0 γs γ N w0 s l es a0 (fun i=>listed.getD i false) a w->wpAny E.P .any l.toArray X fuel listed a w:=by
 intro fuel
 induction fuel with
 | zero =>
  intro listed γ a w hsz hc hcl h;have hno:false ∉ listed.toList:=List.count_eq_zero.1 (by omega);have hall:∀ i,i<l.length->listed.getD i false=true:=fun i hi=>by
   have hlt:i<listed.size:=by omega
   have hm:listed[i]∈listed.toList:=by simp
   simp only[Array.getD_eq_getD_getElem?,hlt,Array.getElem?_eq_getElem,Option.getD_some];cases h:listed[i]with
   | true=>rfl
   | false=>rw[h]at hm;exact absurd hm hno
  refine⟨List.eq_nil_iff_forall_not_mem.2 fun i hi=>?_,fin _ _ a w h hall⟩;obtain⟨h0,o,ho,_⟩:=mem_ready.1 hi;have hil:i<l.length:=by
   have:=(Array.getElem?_eq_some_iff.1 ho).1;simpa using this
  have:=hall i hil;rw[getD_both h0]at this;cases this
 | succ fuel ih =>
  intro listed γ a w hsz hc hcl h;refine⟨fun hrd=>fin _ _ a w h ?_,fun i hi=>?_⟩
  ·have key:∀ r i,i<r->i<l.length->listed.getD i false=true:=by
    intro r
    induction r with
    | zero=>intro i h;omega
    | succ r ihr =>
     intro i hri hi;cases h:listed.getD i false with
     | true=>rfl
     | false =>
      have ho:l.toArray[i]?=some l[i]:=by simp[hi]
      have:i∈Region.ready .any l.toArray listed:=mem_ready.2 ⟨by simpa[show i<listed.size by omega]using h,l[i],ho,fun e he hb=>by
       have hl:=hr;unfold rankB at hl;rw[List.all_eq_true]at hl;have:=hl i (by simpa using hi);rw[ho]at this;simp only[Array.all_eq_true_iff_forall_mem]at this;have hlt:=this e he;rw[hb]at hlt;simp at hlt;exact ihr e.on (by omega) (by omega)⟩
      rw[hrd]at this;cases this
   exact fun i hi=>key (i+1) i (Nat.lt_succ_self _) hi
  ·obtain⟨h0,o,ho,hal⟩:=mem_ready.1 hi
   have hl':l[i]?=some o:=by simpa using ho
   have hil:i<l.length:=(List.getElem?_eq_some_iff.1 hl').1;have hD:listed.getD i false=false:=getD_both h0;unfold wpOp;rw[ho];dsimp only;have st:=stepD (X:=X) (D:=fun i=>listed.getD i false) (D':=fun j=>(listed.setIfInBounds i true).getD j false) (K:=wpAny E.P .any l.toArray X fuel (listed.setIfInBounds i true)) G hms hdist hr hp hlen hpass R0 hcl hl' hD (fun e he hb=>by simpa using hal e he hb)
    (getD_set_same (by omega)) (fun j hj=>getD_set_ne false (Ne.symm hj)) h fun γ' v w' h'=>ih _ γ' _ _ (by simpa using hsz) ?_ ?_ h'
   ·split
    ·rename_i hw
     rw[if_pos hw]at st;exact .inl st
    ·rename_i hw
     rw[if_neg hw]at st;exact st
   ·have hlt:i<listed.size:=by omega
    have e0:listed[i]=false:=by simpa[hlt]using h0
    rw[Array.toList_setIfInBounds,List.count_set (by simpa using hlt)];have:listed.toList[i]'(by simpa using hlt)=false:=by simpa using e0
    simp only[this];simp;have hpos:0<listed.toList.count false:=List.count_pos_iff.2 (by rw[<- e0];simp);simp at hpos;simp at hc;omega
   ·intro j oj hj hd e he hb
    by_cases q:i=e.on
    ·rw[<- q];exact getD_set_same (by omega)
    ·rw[getD_set_ne false q]
     by_cases ej:i=j
     ·subst ej
      rw[hl']at hj;cases hj;exact by simpa using hal e he hb
     ·rw[getD_set_ne false ej]at hd
      exact hcl j oj hj hd e he hb
theorem drawX_ok(G:E.Good γ0 w0)(mx:E.P.follows .mixedOrders=true){id:Nat}(hx:(drawX E N l s k).wp E.base Q)(R:Rel E γ0 γs N w0 s a0 w)
  (cont:∀ γ s' a' w',Rel E γ0 γ N w0 s' a' w'->(k s').wp E.base Q->X .normal a' w'):(Code.region id l.toArray true).wp E.P X a0 w:=by
 unfold drawX at hx;rw[masksK_eq]at hx
 split at hx
 ·rename_i es ps hX
  split at hx
  ·rename_i hc
   obtain⟨c1,c2,c4⟩:=hc;obtain⟨hp,hk⟩:=needs_wp hx;obtain⟨_,hlen,_,hpass⟩:=passX_ok hX;have hlen:es.length=l.length:=by simpa using hlen
   have hpass:∀(i:Nat) o,l[i]?=some o->∃ e,es[i]?=some e/\PassAt E N l (masksA l 0 []) s es ps i o e:=fun i o hi=>by
    have:=hpass i o hi;simpa using this
   refine wp_region_any mx (drawAny G rfl c1 c2 hp hlen hpass R (fun γ D a w h hD=>cont γ _ a w (h.all hlen hpass R c4 hD) hk) _ _ γs a0 _ (by simp) (by simp) ?_ ?_)
   ·intro i o hi hd
    rw[show(Array.replicate l.toArray.size false).getD i false=false from getD_replicate_false _ _]at hd;cases hd
   ·have nD:∀ i,(Array.replicate l.toArray.size false).getD i false=true->False:=fun i h=>by
     rw[getD_replicate_false]at h;cases h
    have R':=R.below (w':=w.drew) (Below.drew (Below.refl _ _));have inM:∀ r∈rowsD (fun i=>(Array.replicate l.toArray.size false).getD i false) es s.M,r∈s.M:=fun r hr=>by
     obtain⟨c,hc,he⟩:=rows_mem.1 hr;have e1:r.2.1=c:=by
      rw[he];rcases cur_mem (D:=fun i=>(Array.replicate l.toArray.size false).getD i false) (g:=r.1) (es:=es) (i:=0) (c:=c)with h1 | ⟨j,f,_,h2,_⟩
      ·exact h1
      ·exact(nD _ h2).elim
     have e2:r=(r.1,c,r.2.2):=by rw[<- e1]
     rw[e2];rcases List.mem_append.1 hc with hc | hc
     ·obtain⟨j,f,_,h2,_⟩:=made_mem.1 hc
      exact(nD _ h2).elim
     ·exact hc
    refine⟨fun _ _=>rfl,R.z,R.d,fun _ _=>rfl,fun i e t x _ hd=>(nD i hd).elim,fun i e _ hd=>(nD i hd).elim,fun i e g c _ hd=>(nD i hd).elim,R'.h.old,fun r hr=>?_,fun r hr q hq hne=>?_⟩
    ·exact R'.h.rows _ (List.mem_map.2 ⟨r,inM r hr,rfl⟩)
    ·have:=R.h.nd
     exact pair_all (R:=fun p q=>γs p.1≠γs q.1) (fun _ _ h=>Ne.symm h) (List.pairwise_map.1 this) r (inM r hr) q (inM q hq) fun e=>hne (by rw[e])
  ·cases hx
 ·cases hx
end
end Go.Proofs.YtfmpjjhdocejiaaGreat.Sy
namespace Go.Proofs.YtfmpjjhdocejiaaGreat.Sy
open Go.RowKit
def normL:List (Nat × Option SV)->List (Nat × Option SV)
 | []=>[]
 | p::l=>(p.1,p.2.map normS)::normL l
def normT(s:St):St:=⟨normL s.S,s.M,s.n⟩
def rep(f:St->(Exit->St->Tr)->Tr):Nat->St->(Exit->St->Tr)->Tr
 | 0,_,_=>.bad
 | n+1,s,k=>f s fun e s'=>match e with
  | .normal=>rep f n s' k
  | e=>k e s'
def exec(E:Env)(N:Nat)(hd:Nat->Nat):Code->Nat->Nat->St->(Exit->St->Tr)->Tr
 | .skip,_,_,s,k=>k .normal s
 | .region _ ops draw,_,_,s,k=>match draw with
  | true=>drawX E N ops.toList s (k .normal)
  | false=>seqX E N (fun j=>(ops[j]?).bind (·.dst)) ops.toList s (k .normal)
 | .seq x y,b,d,s,k=>exec E N hd x b d s fun e s'=>match e with
  | .normal=>exec E N hd y b d s' k
  | e=>k e s'
 | .cond c x y,b,d,s,k=>match opnd (look s.S) c with
  | some (.b t)=>.br t (exec E N hd x b d s k) (exec E N hd y b d s k)
  | some (.v (.bool t))=>match t with
   | true=>exec E N hd x b d s k
   | false=>exec E N hd y b d s k
  | _=>.bad
 | .block id c,_,d,s,k=>exec E N hd c id d s fun e s'=>match e with
  | .exit j=>if j=id then k .normal s' else k (.exit j) s'
  | e=>k e s'
 | .loop c,b,d,s,k=>match hd b with
  | 0=>.loop d (normT s) fun s0=>exec E N hd c b (d+1) s0 fun e s'=>match e with
   | .normal=>.cut d (normT s')
   | e=>k e s'
  | n+1=>rep (fun s k=>exec E N hd c b d s k) (n+1) s k
 | .exit id,_,_,s,k=>k (.exit id) s
 | .ret,_,_,s,k=>k .ret s
 | _,_,_,_,_=>.bad
def resX(E:Env)(s:St):ResultVar->Option SV
 | .tmp t=>look s.S t
 | .cell p T=>match look s.S p,tyIn T E.tys with
  | some (.p g o _ z),some y=>match rowIn g s.M with
   | some r=>if z=0 then SV.sub y.m o y.sz r.1 else none
   | none=>none
  | _,_=>none
def finX(E:Env)(rs:Array ResultVar)(e:Exit)(s:St):Tr :=
 match e with
 | .normal | .ret=>match rs.toList with
  | [r]=>match resX E s r with
   | some x=>if x.lt E.base=true then .leaf x else .bad
   | none=>.bad
  | [r,q]=>match resX E s r,resX E s q with
   | some x,some y=>if x.lt E.base=true/\y.lt E.base=true then .leaf (.tu x y)else .bad
   | _,_=>.bad
  | _=>.bad
 | _=>.bad
def argsX:List SV->Nat->List (Nat × Option SV)
 | [],_=>[]
 | x::l,i=>(i,some x)::argsX l (i+1)
section
variable {E:Env} {γ0 γ:Pl} {N n:Nat} {w0 w wx:World} {s:St} {a a0:Act} {o:Oper} {Q:Post} {X:Exit->Act->World->Prop} {hd:Nat->Nat}
theorem subS_look{S:List (Nat × Option SV)}{n:Nat}:∀ {l:List (Nat × Option SV)} {t:Nat} {x:SV},subS S n l->look l t=some x->(∃ y,look S t=some y/\Wk y x)/\x.lt n=true
 | [],_,_,_,h=>by cases h
 | (u,o)::l,t,x,hs,h=>by
  have h':(if u=t then o else look l t)=some x:=h;cases o with
  | none =>
   split at h'
   ·cases h'
   ·exact subS_look (l:=l) hs h'
  | some y =>
   split at h'
   ·rename_i e
    cases h';subst e;exact hs.1
   ·exact subS_look (l:=l) hs.2 h'
theorem Rel.sub{s':St}(R:Rel E γ0 γ N w0 s a w)(h:Sub E.base s s'):Rel E γ0 γ N w0 s' a w:=by
 obtain⟨gs,hgs⟩:=h.M;have hsub:s'.M.Sublist s.M:=by rw[hgs];exact List.filter_sublist
 refine⟨R.ag,h.base,R.z,R.d,fun t x hx=>?_,⟨R.h.old,fun p hp=>R.h.rows p ((hsub.map _).subset hp),R.h.nd.sublist (hsub.map _)⟩,fun r hr=>⟨(R.m r (hsub.subset hr)).1,h.lt r hr⟩⟩;obtain⟨⟨y,hy,hw⟩,hl⟩:=subS_look h.S hx;have:=R.k t y hy;exact⟨this.1.trans (hw.1 γ),hw.2 this.2.1,hl⟩
theorem norm_look:∀ {l:List (Nat × Option SV)} {t:Nat},look (normL l) t=(look l t).map normS
 | [],_=>rfl
 | p::l,t=>by
  show(if p.1=t then p.2.map normS else look (normL l) t)=(if p.1=t then p.2 else look l t).map normS;rw[norm_look]
  split <;> rfl
theorem Rel.norm(R:Rel E γ0 γ N w0 s a w):Rel E γ0 γ N w0 (normT s) a w :=
 ⟨R.ag,R.base,R.z,R.d,fun t x hx=>by
  have hx:look (normL s.S) t=some x:=hx;rw[norm_look]at hx;obtain⟨y,hy,rfl⟩:=Option.map_eq_some_iff.1 hx;have q:=R.k t y hy;have n:=normS_ok (γ:=γ) (n:=s.n) q.2.1 q.2.2;exact⟨q.1.trans n.1.symm,n.2⟩,R.h,R.m⟩
def Alike(d:Nat)(Q Q':Post):Prop:=Q'.leaf=Q.leaf/\∀ d' s,d'<d->(Q'.cut d' s↔Q.cut d' s)
theorem Alike.rfl'{d:Nat}{Q:Post}:Alike d Q Q:=⟨rfl,fun _ _ _=>Iff.rfl⟩
theorem Alike.trans{d:Nat}{Q Q' Q'':Post}(h:Alike d Q Q')(h':Alike d Q' Q''):Alike d Q Q'':=⟨h'.1.trans h.1,fun d' s hd=>(h'.2 d' s hd).trans (h.2 d' s hd)⟩
theorem exec_ok(G:E.Good γ0 w0)(mx:E.P.follows .mixedOrders=true):∀ {c:Code} {b d:Nat} {s:St} {k:Exit->St->Tr} {X:Exit->Act->World->Prop} {Q:Post} {a:Act} {w:World} {γ:Pl},(exec E N hd c b d s k).wp E.base Q->Rel E γ0 γ N w0 s a w ->
  (∀ Q' e γ s' a' w',Alike d Q Q'->Rel E γ0 γ N w0 s' a' w'->(k e s').wp E.base Q'->X e a' w')->c.wp E.P X a w:=by
 intro c
 induction c with
 | skip=>intro b d s k X Q a w γ h R cont;exact wp_skip (cont _ _ _ _ _ _ Alike.rfl' R h)
 | region id ops draw =>
  intro b d s k X Q a w γ h R cont;cases draw with
  | true=>exact drawX_ok (l:=ops.toList) (id:=id) G mx h R fun γ s' a' w' R' hk=>cont Q .normal γ s' a' w' Alike.rfl' R' hk
  | false=>exact wp_region_list (seqX_ok G h R fun γ s' a' w' R' hk=>cont Q .normal γ s' a' w' Alike.rfl' R' hk)
 | seq x y ihx ihy =>
  intro b d s k X Q a w γ h R cont;refine wp_seq (ihx h R fun Q' e γ s' a' w' hQ R' hk=>?_);cases e with
  | normal=>exact ihy hk R' fun Q'' e γ s' a' w' hQ' R'' hk'=>cont _ _ _ _ _ _ (hQ.trans hQ') R'' hk'
  | exit i=>exact cont _ _ _ _ _ _ hQ R' hk
  | goto i=>exact cont _ _ _ _ _ _ hQ R' hk
  | ret=>exact cont _ _ _ _ _ _ hQ R' hk
  | panic i=>exact cont _ _ _ _ _ _ hQ R' hk
  | outgrown=>exact cont _ _ _ _ _ _ hQ R' hk
 | cond c x y ihx ihy =>
  intro b d s k X Q a w γ h R cont;unfold exec at h
  split at h
  ·rename_i t ht
   exact wp_cond_split (opnd_ok R.k ht).1 (fun e=>ihx (h.1 e) R cont) (fun e=>ihy (h.2 e) R cont)
  ·rename_i t ht
   have hv:=(opnd_ok R.k ht).1;cases t with
   | true=>exact wp_cond_true hv (ihx h R cont)
   | false=>exact wp_cond_false hv (ihy h R cont)
  ·cases h
 | block id c ih =>
  intro b d s k X Q a w γ h R cont;refine wp_block (ih h R fun Q' e γ s' a' w' hQ R' hk=>?_);cases e with
  | normal=>exact cont _ _ _ _ _ _ hQ R' hk
  | exit j =>
   show(if j=id then _ else _);dsimp only at hk
   split at hk
   ·rename_i e;rw[if_pos e];exact cont _ _ _ _ _ _ hQ R' hk
   ·rename_i e;rw[if_neg e];exact cont _ _ _ _ _ _ hQ R' hk
  | goto i=>exact cont _ _ _ _ _ _ hQ R' hk
  | ret=>exact cont _ _ _ _ _ _ hQ R' hk
  | panic i=>exact cont _ _ _ _ _ _ hQ R' hk
  | outgrown=>exact cont _ _ _ _ _ _ hQ R' hk
 | loop c ih =>
  intro b d s k X Q a w γ h R cont;unfold exec at h
  split at h
  ·obtain⟨ι,st,μ,⟨i0,h0⟩,hr⟩:=h
   refine wp_loop_ghost (fun n a w=>∃ i γ,μ i=n/\Rel E γ0 γ N w0 (st i) a w) (μ i0) ⟨i0,γ,rfl,R.norm.sub h0⟩ ?_;rintro n a w ⟨i,γ,rfl,R1⟩;refine ih (hr i) R1 fun Q' e γ s' a' w' hQ R' hk=>?_;have up:Alike d Q Q':=⟨hQ.1,fun d' s hd'=>(hQ.2 d' s (Nat.lt_succ_of_lt hd')).trans (by
    show(if d'=d then _ else _)↔_;rw[if_neg (Nat.ne_of_lt hd')])⟩
   cases e with
   | normal =>
    have hc:Q'.cut d (normT s'):=hk;have hc:=(hQ.2 d (normT s') (Nat.lt_succ_self d)).1 hc;dsimp only at hc;rw[if_pos rfl]at hc;obtain⟨j,hj,hs⟩:=hc;exact⟨μ j,hj,j,γ,rfl,R'.norm.sub hs⟩
   | exit i=>exact cont _ _ _ _ _ _ up R' hk
   | goto i=>exact cont _ _ _ _ _ _ up R' hk
   | ret=>exact cont _ _ _ _ _ _ up R' hk
   | panic i=>exact cont _ _ _ _ _ _ up R' hk
   | outgrown=>exact cont _ _ _ _ _ _ up R' hk
  ·rename_i n0 _
   refine wp_loop_ghost (fun n a w=>∃ γ s Q',Alike d Q Q'/\Rel E γ0 γ N w0 s a w/\(rep (fun s k=>exec E N hd c b d s k) n s k).wp E.base Q') (n0+1) ⟨γ,s,Q,Alike.rfl',R,h⟩ ?_;rintro n a w ⟨γ,s,Q',hQ0,R1,h1⟩;cases n with
   | zero=>cases h1
   | succ n =>
    refine ih h1 R1 fun Q'' e γ s' a' w' hQ R' hk=>?_;have hQ1:=hQ0.trans hQ;cases e with
    | normal=>exact⟨n,Nat.lt_succ_self n,γ,s',Q'',hQ1,R',hk⟩
    | exit i=>exact cont _ _ _ _ _ _ hQ1 R' hk
    | goto i=>exact cont _ _ _ _ _ _ hQ1 R' hk
    | ret=>exact cont _ _ _ _ _ _ hQ1 R' hk
    | panic i=>exact cont _ _ _ _ _ _ hQ1 R' hk
    | outgrown=>exact cont _ _ _ _ _ _ hQ1 R' hk
 | exit id=>intro b d s k X Q a w γ h R cont;exact wp_exit (cont _ _ _ _ _ _ Alike.rfl' R h)
 | ret=>intro b d s k X Q a w γ h R cont;exact wp_ret (cont _ _ _ _ _ _ Alike.rfl' R h)
 | _=>intro b d s k X Q a w γ h R cont;cases h
def readR(a:Act):ResultVar->Sem Value
 | .tmp t=>pure (a.tmps.getD t undef)
 | .cell p t=>do loadVar t (<- asAddr (a.tmps.getD p undef))
theorem results_read(P:Program)(fn:Func)(a:Act)(w:World):(results fn a.tmps).run P w=(do let vs <- fn.results.mapM (readR a);pure (if h:vs.size=1 then vs[0]else .tuple vs):Sem Value).run P w:=by
 have e:readR a=(fun r=>(match r with
  | .tmp t=>pure (a.tmps.getD t undef)
  | .cell p t=>do loadVar t (<- asAddr (a.tmps.getD p undef)):Sem Value)):=by
  funext r
  cases r with
  | tmp t=>rfl
  | cell p t=>rfl
 rw[e];rfl
theorem resX_ok(G:E.Good γ0 w0)(R:Rel E γ0 γ N w0 s a w){r:ResultVar}{x:SV}(h:resX E s r=some x):(readR a r).run E.P w=.ok (x.val γ) w:=by
 cases r with
 | tmp t=>exact congrArg (fun v=>Result.ok v w) (R.k t x h).1
 | cell p T =>
  dsimp only[resX]at h
  split at h
  ·rename_i g o' j z y hp ht
   split at h
   ·rename_i r hr
    split at h
    ·rename_i hz
     subst hz;have hm:=R.lies _ (rowIn_ok hr);have ty:=G.tys _ (tyIn_ok ht).1;have hd:=ty.d;have hsz:=ty.sz;rw[(tyIn_ok ht).2]at hd hsz;have hl:=load_ok hm.1 hd hsz h;have e:a.tmps.getD p undef=.pointer (some ⟨γ g,o',none⟩):=by
      rw[(R.k p _ hp).1];show Value.pointer (some ⟨γ g,o'+j*0,none⟩)=_;rw[Nat.mul_zero,Nat.add_zero]
     show(do loadVar T (<- asAddr (a.tmps.getD p undef)):Sem Value).run E.P w=_;rw[e];simp only[Instr.loadAt,Instr.sureAddr,Sem.run_bind,Sem.run_pure,Result.andThen_ok]at hl;simp only[asAddr,Sem.run_bind,Sem.run_pure,Result.andThen_ok];exact hl
    ·cases h
   ·cases h
  ·cases h
theorem finX_ok(G:E.Good γ0 w0)(R:Rel E γ0 γ N w0 s a w){fn:Func}{e:Exit}(h:(finX E fn.results e s).wp E.base Q):bodyPost E.P fn (fun e w'=>∃ r,Q.leaf r/\e=.returned (r.val γ0)/\Below w0.heap.size w0 w') e a w:=by
 have fin:∀ x:SV,x.lt E.base=true->Q.leaf x->(results fn a.tmps).run E.P w=.ok (x.val γ) w->(a.defers=[]/\∃ v,(results fn a.tmps).run E.P w=.ok v w/\∃ r,Q.leaf r/\Ending.returned v=.returned (r.val γ0)/\Below w0.heap.size w0 w):=fun x hl hq hr =>
  ⟨R.d,_,hr,x,hq,by rw[(SV.lt_same R.ag hl).2.2],R.h.old⟩
 have main:(match fn.results.toList with
  | [r]=>match resX E s r with
   | some x=>if x.lt E.base=true then Tr.leaf x else .bad
   | none=>.bad
  | [r,q]=>match resX E s r,resX E s q with
   | some x,some y=>if x.lt E.base=true/\y.lt E.base=true then .leaf (.tu x y)else .bad
   | _,_=>.bad
  | _=>.bad).wp E.base Q->(a.defers=[]/\∃ v,(results fn a.tmps).run E.P w=.ok v w/\∃ r,Q.leaf r/\Ending.returned v=.returned (r.val γ0)/\Below w0.heap.size w0 w):=by
  intro h
  split at h
  ·rename_i r hr
   have hr':fn.results=#[r]:=by apply Array.ext';rw[hr]
   split at h
   ·rename_i x hx
    split at h
    ·rename_i hl
     have h1:=resX_ok G R hx;refine fin x hl h ?_;rw[results_read,hr'];simp[h1]
    ·cases h
   ·cases h
  ·rename_i r q hr
   have hr':fn.results=#[r,q]:=by apply Array.ext';rw[hr]
   split at h
   ·rename_i x y hx hy
    split at h
    ·rename_i hl
     have h1:=resX_ok G R hx;have h2:=resX_ok G R hy;refine fin (.tu x y) (by show(x.lt _&&y.lt _)=true;rw[hl.1,hl.2];rfl) h ?_;rw[results_read,hr'];simp[h1,h2,SV.val]
    ·cases h
   ·cases h
  ·cases h
 unfold finX at h
 split at h
 ·exact main h
 ·exact main h
 ·cases h
theorem args_look:∀ {l:List SV} {i t:Nat} {x:SV},look (argsX l i) t=some x->∃ j,t=i+j/\l[j]?=some x
 | [],_,_,_,h=>by cases h
 | y::l,i,t,x,h=>by
  have h':(if i=t then some y else look (argsX l (i+1)) t)=some x:=h
  split at h'
  ·rename_i e;cases h';exact⟨0,by omega,rfl⟩
  ·obtain⟨j,h1,h2⟩:=args_look h'
   exact⟨j+1,by omega,by simpa using h2⟩
theorem calls_of(G:E.Good γ0 w0)(mx:E.P.follows .mixedOrders=true)(hd:Nat->Nat){f:FuncId}{fn:Func}{c:Code}(hf:E.P.funcs[f]?=some fn)(hb:fn.body=some c)(args:List SV)(ha:∀ x∈args,x.ok/\x.lt E.base=true)(hn:args.length<=fn.ntmps){T:Tr}
  (hT:exec E fn.ntmps hd c 0 0 ⟨argsX args 0,[],E.base⟩ (finX E fn.results)=T) (hQ:T.wp E.base Q):Calls E.P f (args.map (·.val γ0)).toArray w0 fun e w'=>∃ r,Q.leaf r/\e=.returned (r.val γ0)/\Below w0.heap.size w0 w':=by
 refine enter hf hb fun a hz hdf he=>?_;have R0:Rel E γ0 γ0 fn.ntmps w0 ⟨argsX args 0,[],E.base⟩ a w0:=by
  refine⟨fun _ _=>rfl,Nat.le_refl _,by simp at hz;omega,hdf,fun t x hx=>?_,HC.start w0,fun r hr=>by cases hr⟩;obtain⟨j,rfl,hj⟩:=args_look hx;refine⟨?_,ha x (List.mem_of_getElem? hj)⟩;rw[he,Nat.zero_add];simp[hj]
 exact exec_ok (N:=fn.ntmps) G mx (hT ▸ hQ) R0 fun Q' e γ s' a' w' hq R' hk=>(by
  have:=finX_ok G R' (fn:=fn) (e:=e) hk;rw[hq.1]at this;exact this)
end
end Go.Proofs.YtfmpjjhdocejiaaGreat.Sy
namespace Go.Proofs.YtfmpjjhdocejiaaGreat.Sy
open Go.RowKit
def Tr.diag:Tr->Tr
 | .need (.same g _) t=>.need (.same g g) t.diag
 | .need (.eq x _) t=>.need (.eq x x) t.diag
 | .need p t=>.need p t.diag
 | .br b t f=>.br b t.diag f.diag
 | t=>t
inductive Sh
 | leaf (r:SV)
 | br (b:Bool) (t f:Sh)
 | need (p:Prop) (t:Sh)
 | cut (d:Nat)
 | loop (d:Nat)
 | bad
def Tr.shape:Tr->Sh
 | .leaf r=>.leaf r
 | .br b t f=>.br b t.shape f.shape
 | .need (.same _ _) t=>t.shape
 | .need (.eq _ _) t=>t.shape
 | .need (.ask p) t=>.need p t.shape
 | .cut d _=>.cut d
 | .loop d _ _=>.loop d
 | .bad=>.bad
def Tr.on:List Bool->Tr->Tr
 | b::l,.br _ t f=>match b with
  | true=>Tr.on l t
  | false=>Tr.on l f
 | l,.need _ t=>Tr.on l t
 | _,t=>t
def Sh.wp(Q:Post)(L:List Bool->Prop):Sh->Prop
 | .leaf r=>Q.leaf r
 | .br b t f=>(b=true->t.wp Q fun l=>L (true::l))/\(b=false->f.wp Q fun l=>L (false::l))
 | .need p t=>p/\t.wp Q L
 | .cut _=>L []
 | .loop _=>L []
 | .bad=>False
theorem wp_of_shape{base:Nat}{Q:Post}:∀ {T:Tr} {L:List Bool->Prop},T=T.diag->T.shape.wp Q L->(∀ l,L l->(T.on l).wp base Q)->T.wp base Q
 | .leaf r,_,_,h,_=>h
 | .br b t f,L,hd,h,hL=>by
  have h1:t=t.diag:=by injection hd
  have h2:f=f.diag:=by injection hd
  exact⟨fun e=>wp_of_shape h1 (h.1 e) fun l hl=>hL (true::l) hl,fun e=>wp_of_shape h2 (h.2 e) fun l hl=>hL (false::l) hl⟩
 | .need (.same g g') t,L,hd,h,hL=>by
  have h1:Tr.need (.same g g') t=.need (.same g g) t.diag:=hd;injection h1 with h2 h3
  injection h2 with _ h4
  refine⟨fun hg=>h4 ▸ hg,wp_of_shape h3 h fun l hl=>?_⟩;have:=hL l hl;cases l <;> exact this
 | .need (.eq g g') t,L,hd,h,hL=>by
  have h1:Tr.need (.eq g g') t=.need (.eq g g) t.diag:=hd;injection h1 with h2 h3
  injection h2 with _ h4
  refine⟨h4.symm,wp_of_shape h3 h fun l hl=>?_⟩;have:=hL l hl;cases l <;> exact this
 | .need (.ask p) t,L,hd,h,hL=>by
  have h1:Tr.need (.ask p) t=.need (.ask p) t.diag:=hd;injection h1 with _ h3
  refine⟨h.1,wp_of_shape h3 h.2 fun l hl=>?_⟩;have:=hL l hl;cases l <;> exact this
 | .cut d s,L,_,h,hL=>hL [] h
 | .loop d s b,L,_,h,hL=>hL [] h
 | .bad,_,_,h,_=>h.elim
def Tr.headOf:Tr->Option (Nat × St)
 | .loop d s _=>some (d,s)
 | _=>none
def Tr.round(s:St):Tr->Tr
 | .loop _ _ b=>b s
 | _=>.bad
def Tr.stOf:Tr->St
 | .loop _ s _=>s
 | _=>⟨[],[],0⟩
def Tr.isLoop(d:Nat):Tr->Bool
 | .loop d' _ _=>d' == d
 | _=>false
def subB(base:Nat)(s':St):Bool:=decide (base<=s'.n)&&s'.M.all (fun r=>r.2.1.lt s'.n&&decide (r.1<s'.n))&&s'.S.all fun p=>match p.2 with
 | some x=>x.lt s'.n
 | none=>true
def Tr.cutOf:Tr->St
 | .cut _ s=>s
 | _=>⟨[],[],0⟩
def Tr.isCut(d:Nat):Tr->Bool
 | .cut d' _=>d' == d
 | _=>false
theorem cut_wp{base:Nat}{Q:Post}{T:Tr}(d:Nat)(hs:T.isCut d=true)(h:Q.cut d T.cutOf):T.wp base Q:=by
 cases T with
 | cut d' s =>
  obtain rfl:d'=d:=by simpa[Tr.isCut]using hs
  exact h
 | _=>cases hs
def eqsS(S:List (Nat × Option SV)):List (Nat × Option SV)->Prop
 | []=>True
 | (t,some x)::l=>lookX S t=some x/\eqsS S l
 | (_,none)::l=>eqsS S l
theorem subS_of{S:List (Nat × Option SV)}{n:Nat}:∀ {l:List (Nat × Option SV)},eqsS S l->(l.all fun p=>match p.2 with
  | some x=>x.lt n
  | none=>true)=true->subS S n l
 | [],_,_=>trivial
 | (t,some x)::l,h,hb=>by
  rw[List.all_cons,Bool.and_eq_true]at hb;exact⟨⟨⟨x,h.1,.rfl'⟩,hb.1⟩,subS_of h.2 hb.2⟩
 | (t,none)::l,h,hb=>by
  rw[List.all_cons,Bool.and_eq_true]at hb;exact subS_of (l:=l) h hb.2
theorem Sub.of{base:Nat}{s s':St}(gs:List Nat)(hB:subB base s'=true)(hS:eqsS s.S s'.S)(hM:s'.M=s.M.filter fun r=>gs.contains r.1):Sub base s s':=by
 unfold subB at hB;rw[Bool.and_eq_true,Bool.and_eq_true]at hB;refine⟨of_decide_eq_true hB.1.1,subS_of hS hB.2,⟨gs,hM⟩,fun r hr=>?_⟩;have:=List.all_eq_true.1 hB.1.2 r hr;rw[Bool.and_eq_true]at this;exact⟨this.1,of_decide_eq_true this.2⟩
def Wkt(S:List (Nat × Option SV))(t:Nat)(x:SV):Prop:=∃ y,lookX S t=some y/\Wk y x
theorem Wkt.is{S:List (Nat × Option SV)}{t:Nat}{x:SV}(h:lookX S t=some x):Wkt S t x:=⟨x,h,.rfl'⟩
theorem Wkt.int{S:List (Nat × Option SV)}{t k:Nat}{n:Int}(h:lookX S t=some (.na k))(hn:(k:Int)=n):Wkt S t (.i .i64 n):=⟨_,h,fun _=>by subst hn;rfl,fun _=>trivial⟩
def eqsW(S:List (Nat × Option SV)):List (Nat × Option SV)->Prop
 | []=>True
 | (t,some x)::l=>Wkt S t x/\eqsW S l
 | (_,none)::l=>eqsW S l
theorem subS_ofW{S:List (Nat × Option SV)}{n:Nat}:∀ {l:List (Nat × Option SV)},eqsW S l->(l.all fun p=>match p.2 with
  | some x=>x.lt n
  | none=>true)=true->subS S n l
 | [],_,_=>trivial
 | (t,some x)::l,h,hb=>by
  rw[List.all_cons,Bool.and_eq_true]at hb;exact⟨⟨h.1,hb.1⟩,subS_ofW h.2 hb.2⟩
 | (t,none)::l,h,hb=>by
  rw[List.all_cons,Bool.and_eq_true]at hb;exact subS_ofW (l:=l) h hb.2
theorem Sub.ofW{base:Nat}{s s':St}(gs:List Nat)(hB:subB base s'=true)(hS:eqsW s.S s'.S)(hM:s'.M=s.M.filter fun r=>gs.contains r.1):Sub base s s':=by
 unfold subB at hB;rw[Bool.and_eq_true,Bool.and_eq_true]at hB;refine⟨of_decide_eq_true hB.1.1,subS_ofW hS hB.2,⟨gs,hM⟩,fun r hr=>?_⟩;have:=List.all_eq_true.1 hB.1.2 r hr;rw[Bool.and_eq_true]at this;exact⟨this.1,of_decide_eq_true this.2⟩
theorem next_wp{base:Nat}{Q:Post}{T:Tr}(d:Nat)(hs:T.isCut d=true){ι:Type}{st:ι->St}{μ:ι->Nat}{i:ι}(j:ι)(hj:μ j<μ i)(h:Sub base T.cutOf (st j)):T.wp base ⟨Q.leaf,fun d' s'=>if d'=d then ∃ j,μ j<μ i/\Sub base s' (st j)else Q.cut d' s'⟩ :=
 cut_wp d hs (by
  dsimp only;rw[if_pos rfl];exact⟨j,hj,h⟩)
theorem loop_wp{base:Nat}{Q:Post}{T:Tr}(d:Nat)(hs:T.isLoop d=true){ι:Type}(st:ι->St)(μ:ι->Nat)(i0:ι)(h0:Sub base T.stOf (st i0))(hr:∀ i,(T.round (st i)).wp base ⟨Q.leaf,fun d' s'=>if d'=d then ∃ j,μ j<μ i/\Sub base s' (st j)else Q.cut d' s'⟩):T.wp base Q:=by
 cases T with
 | loop d' s' b =>
  obtain rfl:d'=d:=by simpa[Tr.isLoop]using hs
  exact⟨ι,st,μ,⟨i0,h0⟩,hr⟩
 | _=>cases hs
def walk(E:Env)(hd:Nat->Nat)(fn:Func)(args:List SV):Tr:=exec E fn.ntmps hd (fn.body.getD .skip) 0 0 ⟨argsX args 0,[],E.base⟩ (finX E fn.results)
theorem calls_sh{E:Env}{γ0:Pl}{w0:World}{Q:SV->Prop}(G:E.Good γ0 w0)(mx:E.P.follows .mixedOrders=true)(hd:Nat->Nat){f:FuncId}{fn:Func}(hf:E.P.funcs[f]?=some fn)(hb:fn.body.isSome=true)(args:List SV)(ha:∀ x∈args,x.ok/\x.lt E.base=true)(hn:decide (args.length<=fn.ntmps)=true)
  (hD:walk E hd fn args=(walk E hd fn args).diag) (Z:Sh) (hZ:(walk E hd fn args).shape=Z) (hW:Z.wp ⟨Q,fun _ _=>False⟩ fun l=>((walk E hd fn args).on l).wp E.base ⟨Q,fun _ _=>False⟩):Calls E.P f (args.map (·.val γ0)).toArray w0 fun e w'=>∃ r,Q r/\e=.returned (r.val γ0)/\Below w0.heap.size w0 w':=by
 obtain⟨c,hc⟩:=Option.isSome_iff_exists.1 hb;have e:fn.body.getD .skip=c:=by rw[hc];rfl
 exact calls_of G mx hd hf hc args ha (of_decide_eq_true hn) rfl (Q:=⟨Q,fun _ _=>False⟩) (by rw[<- e];exact wp_of_shape hD (hZ ▸ hW) fun _ h=>h)
def okAll(base:Nat):List SV->Prop
 | []=>True
 | x::l=>(x.ok/\x.lt base=true)/\okAll base l
theorem okAll_mem{base:Nat}:∀ {l:List SV},okAll base l->∀ x∈l,x.ok/\x.lt base=true
 | [],_,x,h=>by cases h
 | y::l,ha,x,h=>by
  rcases List.mem_cons.1 h with rfl | h
  ·exact ha.1
  ·exact okAll_mem ha.2 x h
theorem calls_at{E:Env}{γ0:Pl}{w0:World}{V:Value}(G:E.Good γ0 w0)(mx:E.P.follows .mixedOrders=true)(hd:Nat->Nat){f:FuncId}{fn:Func}(hf:E.P.funcs[f]?=some fn)(hb:fn.body.isSome=true)(args:List SV)(ha:okAll E.base args)(hn:decide (args.length<=fn.ntmps)=true)
  (hD:walk E hd fn args=(walk E hd fn args).diag) (Z:Sh) (hZ:(walk E hd fn args).shape=Z) (hW:Z.wp ⟨fun r=>r.val γ0=V,fun _ _=>False⟩ fun l=>((walk E hd fn args).on l).wp E.base ⟨fun r=>r.val γ0=V,fun _ _=>False⟩):Calls E.P f (args.map (·.val γ0)).toArray w0 fun e w'=>e=.returned V/\Below w0.heap.size w0 w' :=
 (calls_sh G mx hd hf hb args (okAll_mem ha) hn hD Z hZ hW).mono fun _ _ ⟨_,h1,h2,h3⟩=>⟨by rw[h2,h1],h3⟩
end Go.Proofs.YtfmpjjhdocejiaaGreat.Sy
namespace Go.Proofs.YtfmpjjhdocejiaaGreat
open Go.RowKit
theorem eqWdn(d a0 a1 a2 a3 b0 b1 b2 b3:Nat)(w:World) :
  (Op.equalIn (d+2) 24 (.agg #[.int .u64 a0,.int .u64 a1,.int .u64 a2,.int .u64 a3]) (.agg #[.int .u64 b0,.int .u64 b1,.int .u64 b2,.int .u64 b3])).run Tryz.prog w=.ok ((a0 == b0)&&((a1 == b1)&&((a2 == b2)&&(a3 == b3)))) w:=by
 have u3:=Tryz.underlying22;have a3':=Tryz.isAgg22;have z3:=Tryz.sizeOf22;rw[show d+2=(d+1)+1 from rfl,Op.equalIn];simp only[Sem.run_bind,run_underlying Tryz.underlying24,Result.andThen_ok];simp only[Std.Legacy.Range.forIn_eq_forIn_range',Std.Legacy.Range.size,Nat.sub_zero,Nat.add_sub_cancel,Nat.div_one,List.range'_succ,List.range'_zero,List.forIn_cons,List.forIn_nil]
 go_simp
 simp only[Int.natCast_inj];by_cases h0:a0=b0
 ·by_cases h1:a1=b1
  ·by_cases h2:a2=b2
   ·by_cases h3:a3=b3
    ·simp[h0,h1,h2,h3]
    ·simp[h0,h1,h2,h3]
   ·simp[h0,h1,h2]
  ·simp[h0,h1]
 ·simp[h0]
theorem eqWd(d:Nat){a b:Nat}(ha:a<2^256)(hb:b<2^256)(w:World):(Op.equalIn (d+2) 24 (.agg (pw a)) (.agg (pw b))).run Tryz.prog w=.ok (decide (a=b)) w:=by
 obtain⟨x0,x1,x2,x3,u0,u1,u2,u3,ex,nx⟩:=wv_parts a;obtain⟨y0,y1,y2,y3,v0,v1,v2,v3,ey,ny⟩:=wv_parts b;rw[wv_pw]at ex ey;rw[ex,ey];have h:=eqWdn d x0 x1 x2 x3 y0 y1 y2 y3 w;have e:((x0 == y0)&&((x1 == y1)&&((x2 == y2)&&(x3 == y3))))=decide (a=b):=by
  rw[Nat.mod_eq_of_lt ha]at nx;rw[Nat.mod_eq_of_lt hb]at ny;rw[<- nx,<- ny,Bool.eq_iff_iff];simp only[Bool.and_eq_true,beq_iff_eq,decide_eq_true_eq];unfold n4;omega
 rw[e]at h;exact h
theorem eqp_in{x y a b:Nat}(n c:Bool)(hx:x<2^256)(hy:y<2^256)(ha:a<2^256)(hb:b<2^256)(w:World):(Op.equalIn 10000 26 (.agg (pc x y n)) (.agg (pc a b c))).run Tryz.prog w=.ok (decide (x=a/\y=b/\n=c)) w:=by
 have p1:∀ w,(part 24 (pc x y n) 0).run Tryz.prog w=.ok (.agg (pw x)) w:=fun w=>by kernel_rfl
 have p2:∀ w,(part 24 (pc x y n) 4).run Tryz.prog w=.ok (.agg (pw y)) w:=fun w=>by kernel_rfl
 have p3:∀ w,(part 4 (pc x y n) 8).run Tryz.prog w=.ok (.bool n) w:=fun w=>by kernel_rfl
 have q1:∀ w,(part 24 (pc a b c) 0).run Tryz.prog w=.ok (.agg (pw a)) w:=fun w=>by kernel_rfl
 have q2:∀ w,(part 24 (pc a b c) 4).run Tryz.prog w=.ok (.agg (pw b)) w:=fun w=>by kernel_rfl
 have q3:∀ w,(part 4 (pc a b c) 8).run Tryz.prog w=.ok (.bool c) w:=fun w=>by kernel_rfl
 have e1:∀ w,(Op.equalIn 9999 24 (.agg (pw x)) (.agg (pw a))).run Tryz.prog w=.ok (decide (x=a)) w:=eqWd 9997 hx ha;have e2:∀ w,(Op.equalIn 9999 24 (.agg (pw y)) (.agg (pw b))).run Tryz.prog w=.ok (decide (y=b)) w:=eqWd 9997 hy hb;have e3:∀ w,(Op.equalIn 9999 4 (.bool n) (.bool c)).run Tryz.prog w=.ok (n == c) w:=fun w=>run_equalIn_bool' w 9998 _ n c Tryz.underlying4;rw[show(10000:Nat)=9999+1 from rfl,run_equalIn_struct w 9999 26 _ _ (by kernel_rfl) (by kernel_rfl)];rw[show Tryz.prog.fieldsOf 26=(match Tryz.prog.underlying 26 with | some (.struct fs)=>fs | _=>#[]) from rfl,Tryz.underlying26];simp only[Op.eqFields,Sem.run_bind,Sem.run_ite,p1,p2,p3,q1,q2,q3,e1,e2,e3,Result.andThen_ok,Sem.run_pure,ne_eq];by_cases h1:x=a <;> by_cases h2:y=b <;> by_cases h3:n=c <;> simp[h1,h2,h3]
theorem eqp_run{x y a b:Nat}(n c:Bool)(hx:x<2^256)(hy:y<2^256)(ha:a<2^256)(hb:b<2^256)(w:World):(binOp BinOp.eql 26 (.agg (pc x y n)) (.agg (pc a b c))).run Tryz.prog w=.ok (.bool (decide (x=a/\y=b/\n=c))) w:=by
 rw[run_eql_struct,eqp_in n c hx hy ha hb];rfl
theorem neqp_run{x y a b:Nat}(n c:Bool)(hx:x<2^256)(hy:y<2^256)(ha:a<2^256)(hb:b<2^256)(w:World):(binOp BinOp.neq 26 (.agg (pc x y n)) (.agg (pc a b c))).run Tryz.prog w=.ok (.bool (!decide (x=a/\y=b/\n=c))) w:=by
 rw[run_neq_struct,eqp_in n c hx hy ha hb];rfl
end Go.Proofs.YtfmpjjhdocejiaaGreat
namespace Go.Proofs.YtfmpjjhdocejiaaGreat.Sy
open Go.RowKit
abbrev Con:=FuncId × (Nat->Rows->List SV->Option (SV × List Ob × Rows))
def conIn(f:FuncId):List Con->Nat->Rows->List SV->Option (SV × List Ob × Rows)
 | [],_,_,_=>none
 | c::l,n,M,us=>if c.1=f then c.2 n M us else conIn f l n M us
structure ConOk (P:Program) (base:Nat) (γ0:Pl) (w0:World) (c:Con):Prop where
 call:∀ as_ wx,(callFunc c.1 as_).run P wx=.ok (.enter c.1 as_) wx
 all:∀ n M l r p R,c.2 n M l=some (r,p,R)->All p->base<=n->(∀ x∈l,x.ok/\x.lt n=true)->(∀ r∈M,r.2.1.ok/\r.2.1.lt n=true)->r.ok/\r.lt (n+R.length)=true/\(∀ q∈R,q.2.1.ok/\q.2.1.lt (n+R.length)=true/\n<=q.1/\q.1<n+R.length) /\
  ∀ γ,(∀ k,k<base->γ k=γ0 k)->∀ wx,Below w0.heap.size w0 wx->Lies γ n M wx->Calls P c.1 (l.map (·.val γ)).toArray wx (Made γ n r R wx)
theorem ConOk.of{P:Program}{base:Nat}{γ0:Pl}{w0:World}{c:Con}(hc:∀ as_ wx,(callFunc c.1 as_).run P wx=.ok (.enter c.1 as_) wx)
  (h:∀ n M l r p R,c.2 n M l=some (r,p,R)->All p->(∀ x∈l,x.ok)->R=[]/\r.ok/\r.lt 0=true/\∀ γ,(∀ k,k<base->γ k=γ0 k)->∀ wx,Below w0.heap.size w0 wx->Lies γ n M wx->Calls P c.1 (l.map (·.val γ)).toArray wx fun e w'=>e=.returned (r.val γ)/\Below wx.heap.size wx w'):ConOk P base γ0 w0 c :=
 ⟨hc,fun n M l r p R h1 h2 hn h3 _=>by
  obtain⟨rfl,q1,q2,q3⟩:=h n M l r p R h1 h2 fun x hx=>(h3 x hx).1;exact⟨q1,SV.lt_mono (Nat.zero_le _) q2,fun q hq=>(by cases hq),fun γ hγ wx hw hL=>(q3 γ hγ wx hw hL).mono fun e w' hh=>⟨⟨γ,fun _ _=>rfl,hh.1,fun q hq=>(by cases hq),.nil⟩,hh.2⟩⟩⟩
theorem conIn_ok{P:Program}{base:Nat}{γ0:Pl}{w0:World}{f:FuncId}{n:Nat}{M:Rows}{us:List SV}{q:SV × List Ob × Rows}:∀ {l:List Con},(∀ c∈l,ConOk P base γ0 w0 c)->conIn f l n M us=some q->∃ c:Con,ConOk P base γ0 w0 c/\c.1=f/\c.2 n M us=some q
 | [],_,h=>by cases h
 | c::l,hl,h=>by
  unfold conIn at h
  split at h
  ·rename_i e;exact⟨c,hl c (.head _),e,h⟩
  ·exact conIn_ok (fun d hd=>hl d (.tail _ hd)) h
def conAll(P:Program)(base:Nat)(γ0:Pl)(w0:World):List Con->Prop
 | []=>True
 | c::l=>ConOk P base γ0 w0 c/\conAll P base γ0 w0 l
theorem conAll_mem{P:Program}{base:Nat}{γ0:Pl}{w0:World}:∀ {l:List Con},conAll P base γ0 w0 l->∀ c∈l,ConOk P base γ0 w0 c
 | [],_,c,h=>by cases h
 | y::l,ha,c,h=>by
  rcases List.mem_cons.1 h with rfl | h
  ·exact ha.1
  ·exact conAll_mem ha.2 c h
theorem ConOk.mono{P:Program}{base b:Nat}{γ0:Pl}{w0:World}{c:Con}(hb:b<=base)(h:ConOk P b γ0 w0 c):ConOk P base γ0 w0 c :=
 ⟨h.call,fun n M l r p R h1 h2 hn h3 h4=>by
  have q:=h.all n M l r p R h1 h2 (Nat.le_trans hb hn) h3 h4;exact⟨q.1,q.2.1,q.2.2.1,fun γ hγ=>q.2.2.2 γ fun k hk=>hγ k (Nat.lt_of_lt_of_le hk hb)⟩⟩
/-! Numbers. -/
def eqN(a b:Nat):Bool:=decide (a=b)
def ltN(a b:Nat):Bool:=decide (a<b)
def eqI(a b:Int):Bool:=decide (a=b)
def ltI(a b:Int):Bool:=decide (a<b)
def eqB(a b:Bool):Bool:=a == b
def eqP(p q:Nat × Nat × Bool):Bool:=decide (p.1=q.1/\p.2.1=q.2.1/\p.2.2=q.2.2)
def cloS:SV->Option (IntKind × Int)
 | .v (.int k n)=>some (k,n)
 | _=>none
def intS:SV->Option (IntKind × Int)
 | .i k n=>some (k,n)
 | .na x=>some (.i64,(x:Nat))
 | .v (.int k n)=>some (k,n)
 | _=>none
def bitS:SV->Option Bool
 | .b t=>some t
 | .v (.bool t)=>some t
 | _=>none
def ptS:SV->Option (Nat × Nat × Bool)
 | .ap (.w x) (.ap (.w y) (.ap n .e))=>(bitS n).map fun n=>(x,y,n)
 | _=>none
def cloO(op:BinOp)(k:IntKind)(a b:Int):Option SV:=match op with
 | .eql=>some (.v (.bool (decide (a=b))))
 | .neq=>some (.v (.bool (!decide (a=b))))
 | .lss=>some (.v (.bool (decide (a<b))))
 | .leq=>some (.v (.bool (decide (a<=b))))
 | .gtr=>some (.v (.bool (decide (a > b))))
 | .geq=>some (.v (.bool (decide (a ≥ b))))
 | .add=>some (.v (.int k (k.wrap (a+b))))
 | .sub=>some (.v (.int k (k.wrap (a - b))))
 | .mul=>some (.v (.int k (k.wrap (a*b))))
 | .quo=>if b=0 then none else some (.v (.int k (k.wrap (a.tdiv b))))
 | .rem=>if b=0 then none else some (.v (.int k (a.tmod b)))
 | _=>none
def natO(op:BinOp)(a b:Nat):Option (SV × List Ob):=match op with
 | .eql=>some (.b (eqN a b),[])
 | .neq=>some (.b (!eqN a b),[])
 | .lss=>some (.b (ltN a b),[])
 | .leq=>some (.b (!ltN b a),[])
 | .gtr=>some (.b (ltN b a),[])
 | .geq=>some (.b (!ltN a b),[])
 | .add=>some (.na (a+b),[.ask (a+b<2^62)])
 | .sub=>some (.na (a - b),[.ask (b<=a)])
 | _=>none
def intO(op:BinOp)(k:IntKind)(a b:Int):Option (SV × List Ob):=match op with
 | .eql=>some (.b (eqI a b),[])
 | .neq=>some (.b (!eqI a b),[])
 | .lss=>some (.b (ltI a b),[])
 | .leq=>some (.b (!ltI b a),[])
 | .gtr=>some (.b (ltI b a),[])
 | .geq=>some (.b (!ltI a b),[])
 | .add=>some (.i k (a+b),[.ask (k.wrap (a+b)=a+b)])
 | .sub=>some (.i k (a - b),[.ask (k.wrap (a - b)=a - b)])
 | .rem=>some (.i k (a.tmod b),[.ask (b≠0)])
 | _=>none
def eqG(T:TypeId)(x y:SV):Option Bool:=match x,y with
 | .w a,.w b=>if T=24 then some (eqN a b)else none
 | x,y=>match bitS x,bitS y with
  | some a,some b=>if T=4 then some (eqB a b)else none
  | _,_=>match ptS x,ptS y with
   | some p,some q=>if T=26 then some (eqP p q)else none
   | _,_=>none
def bopG(op:BinOp)(T:TypeId)(x y:SV):Option (SV × List Ob):=match cloS x,cloS y with
 | some p,some q=>if p.1=q.1 then (cloO op p.1 p.2 q.2).map (·,[])else none
 | _,_=>match natS x,natS y with
  | some a,some b=>natO op a b
  | _,_=>match intS x,intS y with
   | some p,some q=>if p.1=q.1 then intO op p.1 p.2 q.2 else none
   | _,_=>match op with
    | .eql=>(eqG T x y).map fun t=>(.b t,[])
    | .neq=>(eqG T x y).map fun t=>(.b (!t),[])
    | _=>none
section
variable {P:Program} {γ:Pl} {x y r:SV}
theorem intS_ok{k:IntKind}{n:Int}(h:intS x=some (k,n)):x.val γ=.int k n:=by
 unfold intS at h
 split at h <;> cases h <;> rfl
theorem cloS_ok{k:IntKind}{n:Int}(h:cloS x=some (k,n)):x.val γ=.int k n:=by
 unfold cloS at h
 split at h <;> cases h
 rfl
theorem bitS_ok{t:Bool}(h:bitS x=some t):x.val γ=.bool t:=by
 unfold bitS at h
 split at h <;> cases h <;> rfl
theorem ptS_ok{p:Nat × Nat × Bool}(h:ptS x=some p):x.val γ=.agg (pc p.1 p.2.1 p.2.2)/\(x.ok->p.1<2^256/\p.2.1<2^256):=by
 unfold ptS at h
 split at h
 ·rename_i a b n
  obtain⟨t,ht,rfl⟩:=Option.map_eq_some_iff.1 h;refine⟨?_,fun ho=>⟨ho.1,ho.2.1⟩⟩;have hn:n.cells γ=[.bool t]:=by
   unfold bitS at ht
   split at ht <;> cases ht <;> rfl
  show Value.agg ((pw a).toList++((pw b).toList++(n.cells γ++[]))).toArray=_;rw[hn];simp[pc]
 ·cases h
theorem int_guard(op:BinOp)(T:TypeId)(ox oy:Operand)(k k':IntKind)(a b:Int)(w:World):(eqGuard op T ox oy (.int k a) (.int k' b)).run P w=.ok () w:=by
 unfold eqGuard;cases op <;> rfl
theorem bool_guard(op:BinOp)(T:TypeId)(ox oy:Operand)(a b:Bool)(w:World):(eqGuard op T ox oy (.bool a) (.bool b)).run P w=.ok () w:=by
 unfold eqGuard;cases op <;> rfl
theorem int_eql(T:TypeId)(k:IntKind)(a b:Int)(w:World):(binOp .eql T (.int k a) (.int k b)).run P w=.ok (.bool (decide (a=b))) w:=by
 cases k <;> rfl
theorem int_neq(T:TypeId)(k:IntKind)(a b:Int)(w:World):(binOp .neq T (.int k a) (.int k b)).run P w=.ok (.bool (!decide (a=b))) w:=by
 cases k <;> rfl
theorem int_lss(T:TypeId)(k:IntKind)(a b:Int)(w:World):(binOp .lss T (.int k a) (.int k b)).run P w=.ok (.bool (decide (a<b))) w:=by
 cases k <;> rfl
theorem int_leq(T:TypeId)(k:IntKind)(a b:Int)(w:World):(binOp .leq T (.int k a) (.int k b)).run P w=.ok (.bool (decide (a<=b))) w:=by
 cases k <;> rfl
theorem int_gtr(T:TypeId)(k:IntKind)(a b:Int)(w:World):(binOp .gtr T (.int k a) (.int k b)).run P w=.ok (.bool (decide (a > b))) w:=by
 cases k <;> rfl
theorem int_geq(T:TypeId)(k:IntKind)(a b:Int)(w:World):(binOp .geq T (.int k a) (.int k b)).run P w=.ok (.bool (decide (a ≥ b))) w:=by
 cases k <;> rfl
theorem int_add(T:TypeId)(k:IntKind)(a b:Int)(w:World):(binOp .add T (.int k a) (.int k b)).run P w=.ok (.int k (k.wrap (a+b))) w:=by
 cases k <;> rfl
theorem int_sub(T:TypeId)(k:IntKind)(a b:Int)(w:World):(binOp .sub T (.int k a) (.int k b)).run P w=.ok (.int k (k.wrap (a - b))) w:=by
 cases k <;> rfl
theorem int_mul(T:TypeId)(k:IntKind)(a b:Int)(w:World):(binOp .mul T (.int k a) (.int k b)).run P w=.ok (.int k (k.wrap (a*b))) w:=by
 cases k <;> rfl
theorem int_quo(T:TypeId)(k:IntKind)(a b:Int)(hb:b≠0)(w:World):(binOp .quo T (.int k a) (.int k b)).run P w=.ok (.int k (k.wrap (a.tdiv b))) w:=by
 cases k <;> simp[binOp,Op.intDiv,hb]
theorem int_rem(T:TypeId)(k:IntKind)(a b:Int)(hb:b≠0)(w:World):(binOp .rem T (.int k a) (.int k b)).run P w=.ok (.int k (a.tmod b)) w:=by
 cases k <;> simp[binOp,Op.intDiv,hb]
theorem cloO_ok{op:BinOp}{k:IntKind}{a b:Int}(h:cloO op k a b=some r)(T:TypeId)(w:World):r.ok/\r.lt 0=true/\(binOp op T (.int k a) (.int k b)).run P w=.ok (r.val γ) w:=by
 cases op <;> first | (cases h;done) | skip
 ·cases h;exact⟨trivial,rfl,int_add T k a b w⟩
 ·cases h;exact⟨trivial,rfl,int_sub T k a b w⟩
 ·cases h;exact⟨trivial,rfl,int_mul T k a b w⟩
 ·unfold cloO at h
  dsimp only at h
  split at h
  ·cases h
  ·rename_i hb;cases h;exact⟨trivial,rfl,int_quo T k a b hb w⟩
 ·unfold cloO at h
  dsimp only at h
  split at h
  ·cases h
  ·rename_i hb;cases h;exact⟨trivial,rfl,int_rem T k a b hb w⟩
 ·cases h;exact⟨trivial,rfl,int_eql T k a b w⟩
 ·cases h;exact⟨trivial,rfl,int_neq T k a b w⟩
 ·cases h;exact⟨trivial,rfl,int_lss T k a b w⟩
 ·cases h;exact⟨trivial,rfl,int_leq T k a b w⟩
 ·cases h;exact⟨trivial,rfl,int_gtr T k a b w⟩
 ·cases h;exact⟨trivial,rfl,int_geq T k a b w⟩
theorem natO_ok{op:BinOp}{a b:Nat}{p:List Ob}(h:natO op a b=some (r,p))(hp:All p)(ha:a<2^62)(T:TypeId)(w:World):r.ok/\r.lt 0=true/\(binOp op T (.int .i64 (a:Nat)) (.int .i64 (b:Nat))).run P w=.ok (r.val γ) w:=by
 have h62:(2:Nat)^62=4611686018427387904:=by decide
 have e1:∀ a b:Nat,decide (((a:Nat):Int)=((b:Nat):Int))=eqN a b:=fun a b=>decide_eq_decide.2 (by omega);have e2:∀ a b:Nat,decide (((a:Nat):Int)<((b:Nat):Int))=ltN a b:=fun a b=>decide_eq_decide.2 (by omega);have e3:∀ a b:Nat,decide (((a:Nat):Int)<=((b:Nat):Int))=!ltN b a:=fun a b=>by
  unfold ltN;rw[<- decide_not];exact decide_eq_decide.2 (by omega)
 cases op <;> first | (cases h;done) | skip
 ·cases h
  have hlt:a+b<2^62:=hp _ (.head _);refine⟨hlt,rfl,(int_add T .i64 a b w).trans ?_⟩;rw[wrap_in (by omega) (by omega)];rfl
 ·cases h
  have hlt:b<=a:=hp _ (.head _);refine⟨by show a - b<2^62;omega,rfl,(int_sub T .i64 a b w).trans ?_⟩;rw[wrap_in (by omega) (by omega),show((a:Nat):Int) - ((b:Nat):Int)=((a - b:Nat):Int) by omega];rfl
 ·cases h;exact⟨trivial,rfl,(int_eql T .i64 a b w).trans (by rw[e1];rfl)⟩
 ·cases h;exact⟨trivial,rfl,(int_neq T .i64 a b w).trans (by rw[e1];rfl)⟩
 ·cases h;exact⟨trivial,rfl,(int_lss T .i64 a b w).trans (by rw[e2];rfl)⟩
 ·cases h;exact⟨trivial,rfl,(int_leq T .i64 a b w).trans (by rw[e3];rfl)⟩
 ·cases h;exact⟨trivial,rfl,(int_gtr T .i64 a b w).trans (by rw[show decide (((a:Nat):Int) > ((b:Nat):Int))=ltN b a from e2 b a];rfl)⟩
 ·cases h;exact⟨trivial,rfl,(int_geq T .i64 a b w).trans (by rw[show decide (((a:Nat):Int) ≥ ((b:Nat):Int))=!ltN a b from e3 b a];rfl)⟩
theorem intO_ok{op:BinOp}{k:IntKind}{a b:Int}{p:List Ob}(h:intO op k a b=some (r,p))(hp:All p)(T:TypeId)(w:World):r.ok/\r.lt 0=true/\(binOp op T (.int k a) (.int k b)).run P w=.ok (r.val γ) w:=by
 have e3:∀ a b:Int,decide (a<=b)=!ltI b a:=fun a b=>by
  unfold ltI;rw[<- decide_not];exact decide_eq_decide.2 (by omega)
 cases op <;> first | (cases h;done) | skip
 ·cases h
  have hw:k.wrap (a+b)=a+b:=hp _ (.head _);exact⟨trivial,rfl,(int_add T k a b w).trans (by rw[hw];rfl)⟩
 ·cases h
  have hw:k.wrap (a - b)=a - b:=hp _ (.head _);exact⟨trivial,rfl,(int_sub T k a b w).trans (by rw[hw];rfl)⟩
 ·cases h
  exact⟨trivial,rfl,int_rem T k a b (hp _ (.head _)) w⟩
 ·cases h;exact⟨trivial,rfl,int_eql T k a b w⟩
 ·cases h;exact⟨trivial,rfl,int_neq T k a b w⟩
 ·cases h;exact⟨trivial,rfl,int_lss T k a b w⟩
 ·cases h;exact⟨trivial,rfl,(int_leq T k a b w).trans (by rw[e3];rfl)⟩
 ·cases h;exact⟨trivial,rfl,int_gtr T k a b w⟩
 ·cases h;exact⟨trivial,rfl,(int_geq T k a b w).trans (by rw[show decide (a ≥ b)=!ltI a b from e3 b a];rfl)⟩
end
theorem eqG_ok{T:TypeId}{x y:SV}{t:Bool}{γ:Pl}(h:eqG T x y=some t)(hx:x.ok)(hy:y.ok)(ox oy:Operand)(w:World):(∀ op,(eqGuard op T ox oy (x.val γ) (y.val γ)).run Tryz.prog w=.ok () w)/\(binOp .eql T (x.val γ) (y.val γ)).run Tryz.prog w=.ok (.bool t) w/\(binOp .neq T (x.val γ) (y.val γ)).run Tryz.prog w=.ok (.bool (!t)) w:=by
 unfold eqG at h
 split at h
 ·rename_i a b
  split at h
  ·rename_i e
   cases h;subst e;exact⟨fun op=>by cases op <;> kernel_rfl,eqw_run a b hx hy w,new_run a b hx hy w⟩
  ·cases h
 ·split at h
  ·rename_i a b ha hb
   split at h
   ·rename_i e
    cases h;subst e;rw[bitS_ok ha,bitS_ok hb];refine⟨fun op=>bool_guard op _ ox oy a b w,?_,?_⟩
    ·cases a <;> cases b <;> kernel_rfl
    ·cases a <;> cases b <;> kernel_rfl
   ·cases h
  ·split at h
   ·rename_i p q hp hq
    split at h
    ·rename_i e
     cases h;subst e;have h1:=ptS_ok (γ:=γ) hp;have h2:=ptS_ok (γ:=γ) hq;rw[h1.1,h2.1];exact⟨fun op=>by cases op <;> kernel_rfl,eqp_run p.2.2 q.2.2 (h1.2 hx).1 (h1.2 hx).2 (h2.2 hy).1 (h2.2 hy).2 w,neqp_run p.2.2 q.2.2 (h1.2 hx).1 (h1.2 hx).2 (h2.2 hy).1 (h2.2 hy).2 w⟩
    ·cases h
   ·cases h
theorem bopG_ok{op:BinOp}{T:TypeId}{x y r:SV}{p:List Ob}(h:bopG op T x y=some (r,p))(hp:All p)(hx:x.ok)(hy:y.ok):r.ok/\r.lt 0=true/\∀ γ (ox oy:Operand) wx,(eqGuard op T ox oy (x.val γ) (y.val γ)).run Tryz.prog wx=.ok () wx/\(binOp op T (x.val γ) (y.val γ)).run Tryz.prog wx=.ok (r.val γ) wx:=by
 have w:World:=default;unfold bopG at h
 split at h
 ·rename_i u v hu hv
  obtain⟨k,a⟩:=u;obtain⟨k',b⟩:=v
  split at h
  ·rename_i hk
   dsimp only at hk;subst hk;obtain⟨r',hr,e⟩:=Option.map_eq_some_iff.1 h;cases e;refine⟨(cloO_ok (P:=Tryz.prog) (γ:=fun _=>0) hr T w).1,(cloO_ok (P:=Tryz.prog) (γ:=fun _=>0) hr T w).2.1,fun γ ox oy wx=>?_⟩;rw[cloS_ok hu,cloS_ok hv];exact⟨int_guard op T ox oy _ _ _ _ wx,(cloO_ok hr T wx).2.2⟩
  ·cases h
 ·split at h
  ·rename_i a b ha hb
   have h1:=natS_ok (γ:=fun _=>0) ha hx;refine⟨(natO_ok (P:=Tryz.prog) (γ:=fun _=>0) h hp h1.2 T w).1,(natO_ok (P:=Tryz.prog) (γ:=fun _=>0) h hp h1.2 T w).2.1,fun γ ox oy wx=>?_⟩;rw[(natS_ok ha hx).1,(natS_ok hb hy).1];exact⟨int_guard op T ox oy _ _ _ _ wx,(natO_ok h hp h1.2 T wx).2.2⟩
  ·split at h
   ·rename_i u v hu hv
    obtain⟨k,a⟩:=u;obtain⟨k',b⟩:=v
    split at h
    ·rename_i hk
     dsimp only at hk;subst hk;refine⟨(intO_ok (P:=Tryz.prog) (γ:=fun _=>0) h hp T w).1,(intO_ok (P:=Tryz.prog) (γ:=fun _=>0) h hp T w).2.1,fun γ ox oy wx=>?_⟩;rw[intS_ok hu,intS_ok hv];exact⟨int_guard op T ox oy _ _ _ _ wx,(intO_ok h hp T wx).2.2⟩
    ·cases h
   ·split at h
    ·obtain⟨t,ht,e⟩:=Option.map_eq_some_iff.1 h
     cases e;refine⟨trivial,rfl,fun γ ox oy wx=>?_⟩;have q:=eqG_ok (γ:=γ) ht hx hy ox oy wx;exact⟨q.1 _,q.2.1⟩
    ·obtain⟨t,ht,e⟩:=Option.map_eq_some_iff.1 h
     cases e;refine⟨trivial,rfl,fun γ ox oy wx=>?_⟩;have q:=eqG_ok (γ:=γ) ht hx hy ox oy wx;exact⟨q.1 _,q.2.2⟩
    ·cases h
end Go.Proofs.YtfmpjjhdocejiaaGreat.Sy
namespace Go.Proofs.YtfmpjjhdocejiaaGreat
open Go.RowKit
def jt(T:Nat × Nat × Nat):Array Value:=jc T.1 T.2.1 T.2.2
def gtw(m:Nat)(T:Nat × Nat × Nat):Nat × Nat × Nat :=
 if T.2.2=0 then T else
 let rise:=(T.2.1+T.2.1)%m
 let half:=T.2.1*rise%m
 let square:=(half+half)%m
 let middle:=T.1*square%m
 let xx:=T.1*T.1%m
 let slope:=((xx+xx)%m+xx)%m
 let x:=(slope*slope%m%m+(m - (middle+middle)%m%m))%m
 (x,(slope*((middle%m+(m - x%m))%m)%m%m+(m - half*square%m%m))%m,rise*T.2.2%m)
theorem gtw_lt{m X Y Z a b c:Nat}(hm0:0<m)(hmR:m<2^256)(hX:X<2^256)(hY:Y<2^256)(hZ:Z<2^256)(h:gtw m (X,Y,Z)=(a,b,c)):a<2^256/\b<2^256/\c<2^256:=by
 have hm:∀ n,n%m<2^256:=fun n=>Nat.lt_trans (Nat.mod_lt _ hm0) hmR;unfold gtw at h
 split at h
 ·cases h;exact⟨hX,hY,hZ⟩
 ·dsimp only at h
  cases h;exact⟨hm _,hm _,hm _⟩
def gpl(m:Nat)(T:Nat × Nat × Nat)(x y:Nat)(n:Bool):Nat × Nat × Nat :=
 if n=true then T else
 if T.2.2=0 then (x,y,1)else
 let zz:=T.2.2*T.2.2%m
 let across:=(x*zz%m%m+(m - T.1%m))%m
 let up:=(y*(zz*T.2.2%m)%m%m+(m - T.2.1%m))%m
 if across=0/\up=0 then gtw m T else
 let square:=across*across%m
 let cube:=square*across%m
 let middle:=T.1*square%m
 let x3:=(((up*up%m%m+(m - cube%m))%m)%m+(m - (middle+middle)%m%m))%m
 (x3,(up*((middle%m+(m - x3%m))%m)%m%m+(m - T.2.1*cube%m%m))%m,T.2.2*across%m)
theorem gpl_lt{m X Y Z x y a b c:Nat}{n:Bool}(hm0:0<m)(hmR:m<2^256)(hX:X<2^256)(hY:Y<2^256)(hZ:Z<2^256)(hx:x<2^256)(hy:y<2^256)(h:gpl m (X,Y,Z) x y n=(a,b,c)):a<2^256/\b<2^256/\c<2^256:=by
 have hm:∀ n,n%m<2^256:=fun n=>Nat.lt_trans (Nat.mod_lt _ hm0) hmR;unfold gpl at h
 split at h
 ·cases h;exact⟨hX,hY,hZ⟩
 ·split at h
  ·cases h;exact⟨hx,hy,by omega⟩
  ·dsimp only at h
   split at h
   ·exact gtw_lt hm0 hmR hX hY hZ h
   ·cases h
    exact⟨hm _,hm _,hm _⟩
def gpo(m:Nat)(T:Nat × Nat × Nat):Array Value :=
 let i:=T.2.2^(m - 2)%m
 if T.2.2*i%m=1 then
  let square:=i*i%m
  pc (T.1*square%m) (T.2.1*(square*i%m)%m) false
 else pc 0 0 true
def gtu(m x y:Nat)(n:Bool):Array Value:=if n=true then pc 0 0 true else pc x ((0%m+(m - y%m))%m) false
def pls:List (Nat × Nat × Bool)->Array Value
 | []=>#[]
 | p::l=>pc p.1 p.2.1 p.2.2++pls l
theorem pls_at:∀(l:List (Nat × Nat × Bool)) (i:Nat) (x y:Nat) (n:Bool),l[i]?=some (x,y,n)->∀ j,j<(pc x y n).size->(pls l)[0+i*9+j]?=(pc x y n)[j]?
 | [],i,x,y,n,h,j,hj=>by simp at h
 | p::l,0,x,y,n,h,j,hj=>by
  simp only[List.getElem?_cons_zero,Option.some.injEq]at h;subst h;rw[show 0+0*9+j=j by omega];show(pc x y n++pls l)[j]?=_;rw[Array.getElem?_append_left hj]
 | p::l,i+1,x,y,n,h,j,hj=>by
  have:=pls_at l i x y n (by simpa using h) j hj;show(pc p.1 p.2.1 p.2.2++pls l)[0+(i+1)*9+j]?=_;rw[Array.getElem?_append_right (by rw[pc_size];omega),pc_size,show 0+(i+1)*9+j - 9=0+i*9+j by omega];exact this
def onB(m:Nat)(p:Nat × Nat × Bool):Bool:=p.2.2||decide (p.1<m/\p.2.1<m/\p.2.1*p.2.1%m=(p.1*p.1%m*p.1%m+7)%m)
theorem gpo_pc{m:Nat}(hm0:0<m)(hmR:m<2^256)(T:Nat × Nat × Nat):∃ x y n,x<2^256/\y<2^256/\gpo m T=pc x y n:=by
 have hm:∀ n,n%m<2^256:=fun n=>Nat.lt_trans (Nat.mod_lt _ hm0) hmR;unfold gpo;dsimp only
 split
 ·exact⟨_,_,_,hm _,hm _,rfl⟩
 ·exact⟨0,0,true,by omega,by omega,rfl⟩
theorem gtu_pc{m:Nat}(hm0:0<m)(hmR:m<2^256){x:Nat}(hx:x<2^256)(y:Nat)(n:Bool):∃ a b c,a<2^256/\b<2^256/\gtu m x y n=pc a b c:=by
 have hm:∀ n,n%m<2^256:=fun n=>Nat.lt_trans (Nat.mod_lt _ hm0) hmR;unfold gtu
 split
 ·exact⟨0,0,true,by omega,by omega,rfl⟩
 ·exact⟨_,_,_,hx,hm _,rfl⟩
def gsm(m:Nat)(l:List (Nat × Nat × Bool)):Nat × Nat × Nat:=l.foldl (fun T p=>gpl m T p.1 p.2.1 p.2.2) (0,0,0)
open Go.RowKit
structure AQ (p q H:Nat) (s:Nat->Value) (wx:World):Prop where
 ap:∀ D,s p=.pointer (some ⟨D,0,none⟩)->H<=D/\D<wx.heap.size
 aq:∀ D,s q=.pointer (some ⟨D,0,none⟩)->H<=D/\D<wx.heap.size
 ne:∀ D E,s p=.pointer (some ⟨D,0,none⟩)->s q=.pointer (some ⟨E,0,none⟩)->D≠E
theorem AQ.start{p q H:Nat}{s:Nat->Value}{wx:World}(h7:s p=undef)(h8:s q=undef):AQ p q H s wx :=
 ⟨fun D hD=>(by rw[h7]at hD;unfold undef at hD;cases hD),fun D hD=>(by rw[h8]at hD;unfold undef at hD;cases hD),fun D E hD=>(by rw[h7]at hD;unfold undef at hD;cases hD)⟩
theorem AQ.put{p q H:Nat}{s s':Nat->Value}{wx w':World}(h:AQ p q H s wx)(e7:s' p=s p)(e8:s' q=s q)(hl:wx.heap.size<=w'.heap.size):AQ p q H s' w' :=
 ⟨fun D hD=>⟨(h.ap D (e7 ▸ hD)).1,Nat.lt_of_lt_of_le (h.ap D (e7 ▸ hD)).2 hl⟩,fun D hD=>⟨(h.aq D (e8 ▸ hD)).1,Nat.lt_of_lt_of_le (h.aq D (e8 ▸ hD)).2 hl⟩,fun D E h1 h2=>h.ne D E (e7 ▸ h1) (e8 ▸ h2)⟩
theorem AQ.newp{p q H:Nat}{s s':Nat->Value}{wx w':World}(h:AQ p q H s wx)(e7:s' p=.pointer (some ⟨wx.heap.size,0,none⟩))(e8:s' q=s q)(hH:H<=wx.heap.size)(hl:wx.heap.size<w'.heap.size):AQ p q H s' w' :=
 ⟨fun D hD=>by rw[e7]at hD;cases hD;exact⟨hH,hl⟩,fun D hD=>⟨(h.aq D (e8 ▸ hD)).1,Nat.lt_trans (h.aq D (e8 ▸ hD)).2 hl⟩,fun D E h1 h2=>by rw[e7]at h1;cases h1;have:=(h.aq E (e8 ▸ h2)).2;omega⟩
theorem AQ.newq{p q H:Nat}{s s':Nat->Value}{wx w':World}(h:AQ p q H s wx)(e8:s' q=.pointer (some ⟨wx.heap.size,0,none⟩))(e7:s' p=s p)(hH:H<=wx.heap.size)(hl:wx.heap.size<w'.heap.size):AQ p q H s' w' :=
 ⟨fun D hD=>⟨(h.ap D (e7 ▸ hD)).1,Nat.lt_trans (h.ap D (e7 ▸ hD)).2 hl⟩,fun D hD=>by rw[e8]at hD;cases hD;exact⟨hH,hl⟩,fun D E h1 h2=>by rw[e8]at h2;cases h2;have:=(h.ap D (e7 ▸ h1)).2;omega⟩
def RM2(p q:Nat)(ca cb:Array Value)(s:Nat->Value)(wa wb:World):Prop:=(wa.heap.size<=wb.heap.size/\∀(k:Nat),k<wa.heap.size->wb.heap[k]?=wa.heap[k]?)\/∃(D:Nat) (cs:Array Value),(s p=.pointer (some ⟨D,0,none⟩)/\cs=ca\/s q=.pointer (some ⟨D,0,none⟩)/\cs=cb)/\wb=wa.setRow D cs
theorem RM2.of{p q:Nat}{ca cb:Array Value}{s:Nat->Value}{wa wb:World}(h:Below wa.heap.size wa wb):RM2 p q ca cb s wa wb:=.inl ⟨h.size,fun k hk=>h.block k hk⟩
theorem RM2.same{p q:Nat}{ca cb:Array Value}{s:Nat->Value}(wa:World):RM2 p q ca cb s wa wa:=.inl ⟨Nat.le_refl _,fun _ _=>rfl⟩
theorem RM2.shape{p q D n:Nat}{T:TypeId}{ca cb:Array Value}{s:Nat->Value}{wa wb:World}(hR:RM2 p q ca cb s wa wb)(ha:ca.size=n)(hb:cb.size=n)(h:∃ cs:Array Value,wa.heap[D]?=some (.cells cs T (0,0))/\cs.size=n):∃ cs:Array Value,wb.heap[D]?=some (.cells cs T (0,0))/\cs.size=n:=by
 obtain⟨cs,e,hs⟩:=h;rcases hR with⟨-,h⟩ | ⟨E,c1,h1,rfl⟩
 ·exact⟨cs,(h D (Array.getElem?_eq_some_iff.1 e).1).trans e,hs⟩
 ·by_cases q:D=E
  ·subst q
   exact⟨c1,setRow_heap _ _ _ _ _ _ e,by rcases h1 with⟨-,rfl⟩ | ⟨-,rfl⟩ <;> assumption⟩
  ·exact⟨cs,(setRow_other _ _ _ _ q).trans e,hs⟩
theorem RM2.keepp{p q D H:Nat}{T:TypeId}{ca cb:Array Value}{s:Nat->Value}{wa wb:World}(hA:AQ p q H s wa)(hR:RM2 p q ca cb s wa wb)(hs:s p=.pointer (some ⟨D,0,none⟩))(e:wa.heap[D]?=some (.cells ca T (0,0))):wb.heap[D]?=some (.cells ca T (0,0)):=by
 rcases hR with⟨-,h⟩ | ⟨E,c1,h1,rfl⟩
 ·exact(h D (Array.getElem?_eq_some_iff.1 e).1).trans e
 ·rcases h1 with⟨h1,rfl⟩ | ⟨h1,rfl⟩
  ·rw[hs]at h1;cases h1;exact setRow_heap _ _ _ _ _ _ e
  ·exact(setRow_other _ _ _ _ (hA.ne D E hs h1)).trans e
theorem RM2.keepq{p q D H:Nat}{T:TypeId}{ca cb:Array Value}{s:Nat->Value}{wa wb:World}(hA:AQ p q H s wa)(hR:RM2 p q ca cb s wa wb)(hs:s q=.pointer (some ⟨D,0,none⟩))(e:wa.heap[D]?=some (.cells cb T (0,0))):wb.heap[D]?=some (.cells cb T (0,0)):=by
 rcases hR with⟨-,h⟩ | ⟨E,c1,h1,rfl⟩
 ·exact(h D (Array.getElem?_eq_some_iff.1 e).1).trans e
 ·rcases h1 with⟨h1,rfl⟩ | ⟨h1,rfl⟩
  ·exact(setRow_other _ _ _ _ (Ne.symm (hA.ne E D h1 hs))).trans e
  ·rw[hs]at h1;cases h1;exact setRow_heap _ _ _ _ _ _ e
open Go.RowKit
def tabF(q:Nat->Nat)(i:Nat):Int:=((pN (q (i / 4)) (i%4):Nat):Int)
theorem info64:(Tryz.prog.info? 115).map (·.size)=some 64:=by kernel_rfl
theorem tab_at{w:World}{V:Nat}{q:Nat->Nat}(h:w.heap[V]?=some (.cells (ar .u64 64 (tabF q)) 115 (0,0)))(k j:Nat)(hk:k<16)(hj:j<4):w.cell? ⟨V,k*4+j,none⟩=some (.int .u64 ((pN (q k) j:Nat):Int)):=by
 refine(cell_of_row _ _ (k*4+j) _ _ _ h).trans ((ar_at _ _ _ _ (by omega)).trans ?_);unfold tabF;rw[show(k*4+j) / 4=k by omega,show(k*4+j)%4=j by omega]
theorem ld_tab{w:World}{V:Nat}{q:Nat->Nat}(h:w.heap[V]?=some (.cells (ar .u64 64 (tabF q)) 115 (0,0)))(k:Nat)(hk:k<16):(Instr.loadAt 24 (.pointer (some ⟨V,k*4,none⟩))).run Tryz.prog w=.ok (.agg (pw (q k))) w:=by
 rw[pw_ar];simp only[Instr.loadAt,Instr.sureAddr,Sem.run_bind,Sem.run_pure,Result.andThen_ok,run_loadVar_part w V (k*4) 4 24 .u64 (fun j=>((pN (q k) j:Nat):Int)) _ (fun j hj=>tab_at h k j hk hj) Tryz.underlying24 rfl infoW4]
theorem ix_tab(V k:Nat)(hk:k<16)(w:World):(Instr.indexAt 115 (.pointer (some ⟨V,0,none⟩)) (.int .i64 (k:Nat))).run Tryz.prog w=.ok (.pointer (some ⟨V,k*4,none⟩)) w:=by
 have h0:(0:Int)<=k:=by omega
 have h1:(k:Int)<16:=by omega
 go_simp
theorem tab_upd(q:Nat->Nat)(k y:Nat):ar .u64 64 (updI (updI (updI (updI (tabF q) (k*4) ((pN y 0:Nat):Int)) (k*4+1) ((pN y 1:Nat):Int)) (k*4+2) ((pN y 2:Nat):Int)) (k*4+3) ((pN y 3:Nat):Int))=ar .u64 64 (tabF (updN q k y)):=ar_congr fun i hi=>by
 unfold updI tabF updN;by_cases h3:i=k*4+3
 ·rw[if_pos h3,if_pos (by omega),show i%4=3 by omega]
 ·rw[if_neg h3]
  by_cases h2:i=k*4+2
  ·rw[if_pos h2,if_pos (by omega),show i%4=2 by omega]
  ·rw[if_neg h2]
   by_cases h1:i=k*4+1
   ·rw[if_pos h1,if_pos (by omega),show i%4=1 by omega]
   ·rw[if_neg h1]
    by_cases h0:i=k*4
    ·rw[if_pos h0,if_pos (by omega),show i%4=0 by omega]
    ·rw[if_neg h0,if_neg (by omega)]
theorem pw_list(y:Nat):(pw y).toList=[.int .u64 ((pN y 0:Nat):Int),.int .u64 ((pN y 1:Nat):Int),.int .u64 ((pN y 2:Nat):Int),.int .u64 ((pN y 3:Nat):Int)]:=by rw[pw4]
theorem tab_row{w:World}{V:Nat}{q:Nat->Nat}(h:w.heap[V]?=some (.cells (ar .u64 64 (tabF q)) 115 (0,0)))(k y:Nat)(hk:k<16):(w.setCells V (k*4) (pw y).toList).heap[V]?=some (.cells (ar .u64 64 (tabF (updN q k y))) 115 (0,0)):=by
 rw[pw_list];simp only[World.setCells];refine(heap_setCell_same _ _ _ _ _ _ (heap_setCell_same _ _ _ _ _ _ (heap_setCell_same _ _ _ _ _ _ (heap_setCell_same _ _ _ _ _ _ h)))).trans ?_;rw[ar_set _ _ _ _ _ (by omega),ar_set _ _ _ _ _ (by omega),ar_set _ _ _ _ _ (by omega),ar_set _ _ _ _ _ (by omega),tab_upd]
theorem tab_other{w:World}{V:Nat}(o y k:Nat)(hk:k≠V):(w.setCells V o (pw y).toList).heap[k]?=w.heap[k]?:=by
 rw[pw_list];simp only[World.setCells];rw[heap_setCell_other _ _ _ _ hk,heap_setCell_other _ _ _ _ hk,heap_setCell_other _ _ _ _ hk,heap_setCell_other _ _ _ _ hk]
theorem tab_below{b:Nat}{w0 w:World}{V:Nat}(o y:Nat)(hb:Below b w0 w)(hV:b<=V):Below b w0 (w.setCells V o (pw y).toList):=by
 rw[pw_list];simp only[World.setCells];exact(((hb.setCell (by exact hV) _).setCell (by exact hV) _).setCell (by exact hV) _).setCell (by exact hV) _
theorem tab_there{w:World}{V:Nat}{q:Nat->Nat}(h:w.heap[V]?=some (.cells (ar .u64 64 (tabF q)) 115 (0,0)))(k:Nat)(hk:k<16)(y:Nat):w.there V (k*4) (pw y).size:=by
 intro j hj;rw[pw_size]at hj;exact⟨by rw[tab_at h k j hk hj];rfl,frozen_of_row _ _ _ _ _ h⟩
open Go.RowKit
def pwq(m a j:Nat):Nat:=a^j*2^256%m
theorem pwq_next{m:Nat}(ho:m%2=1)(h1:1<m)(a j:Nat):mnt m (pwq m a j) (a*2^256%m)=pwq m a (j+1):=by
 unfold pwq;rw[mnt_both ho h1,show a^(j+1)=a^j*a from rfl]
def tabQ(m a k j:Nat):Nat:=if j<=k then pwq m a j else 0
theorem tabQ_next(m a k:Nat):updN (tabQ m a k) (k+1) (pwq m a (k+1))=tabQ m a (k+1):=by
 funext j
 unfold updN tabQ;by_cases h:j=k+1
 ·rw[if_pos h,if_pos (by omega),h]
 ·rw[if_neg h]
  by_cases h2:j<=k
  ·rw[if_pos h2,if_pos (by omega)]
  ·rw[if_neg h2,if_neg (by omega)]
structure CP (w:World) (F m a:Nat) (wx:World):Prop where
 old:Below w.heap.size w wx
 fld:FldAt wx F m
 hF:F<w.heap.size
 r0:wx.heap[w.heap.size]?=some (.cells (pw a) 24 (0,0))
 r1:wx.heap[w.heap.size+1]?=some (.cells (#[.int .u64 0,.int .u64 0,.int .u64 0,.int .u64 0,.int .u64 0,.int .u64 0,.int .u64 0,.int .u64 0,.int .u64 0,.int .u64 0,.int .u64 0,.int .u64 0,.int .u64 0,.int .u64 0,.int .u64 0,.int .u64 0,.int .u64 0,.int .u64 0,.int .u64 0,.int .u64 0,.int .u64 0,.int .u64 0,.int .u64 0,.int .u64 0,.int .u64 0,.int .u64 0,.int .u64 0,.int .u64 0,.int .u64 0,.int .u64 0,.int .u64 0,.int .u64 0,.int .u64 0,.int .u64 0,.int .u64 0,.int .u64 0,.int .u64 0,.int .u64 0,.int .u64 0,.int .u64 0,.int .u64 0,.int .u64 0,.int .u64 0,.int .u64 0,.int .u64 0,.int .u64 0,.int .u64 0,.int .u64 0,.int .u64 0,.int .u64 0,.int .u64 0,.int .u64 0,.int .u64 0,.int .u64 0,.int .u64 0,.int .u64 0,.int .u64 0,.int .u64 0,.int .u64 0,.int .u64 0,.int .u64 0,.int .u64 0,.int .u64 0,.int .u64 0]) 115 (0,0))
theorem CP.high{w wx:World}{F m a:Nat}(c:CP w F m a wx):w.heap.size+2<=wx.heap.size:=(Array.getElem?_eq_some_iff.1 c.r1).1
theorem CP.below{w wx w':World}{F m a:Nat}(c:CP w F m a wx)(hb:Below wx.heap.size wx w'):CP w F m a w' :=
 ⟨c.old.trans (hb.mono c.old.size),c.fld.below hb,c.hF,(hb.block _ (Array.getElem?_eq_some_iff.1 c.r0).1).trans c.r0,(hb.block _ (Array.getElem?_eq_some_iff.1 c.r1).1).trans c.r1⟩
theorem CP.drew{w wx:World}{F m a:Nat}(c:CP w F m a wx):CP w F m a wx.drew:=c.below (Below.drew (Below.refl _ _))
theorem CP.rowed{w wx:World}{F m a g:Nat}{cs:Array Value}(c:CP w F m a wx)(hg:w.heap.size+2<=g):CP w F m a (wx.setRow g cs):=by
 have h:=c.hF;exact⟨below_setRow c.old (by omega) _,fld_row c.fld (by omega),c.hF,(setRow_other _ _ _ _ (by omega)).trans c.r0,(setRow_other _ _ _ _ (by omega)).trans c.r1⟩
theorem CP.start{w:World}{F m:Nat}(h:FldAt w F m)(a:Nat):CP w F m a ((w.alloc (.cells (pw a) 24)).alloc (.cells (#[.int .u64 0,.int .u64 0,.int .u64 0,.int .u64 0,.int .u64 0,.int .u64 0,.int .u64 0,.int .u64 0,.int .u64 0,.int .u64 0,.int .u64 0,.int .u64 0,.int .u64 0,.int .u64 0,.int .u64 0,.int .u64 0,.int .u64 0,.int .u64 0,.int .u64 0,.int .u64 0,.int .u64 0,.int .u64 0,.int .u64 0,.int .u64 0,.int .u64 0,.int .u64 0,.int .u64 0,.int .u64 0,.int .u64 0,.int .u64 0,.int .u64 0,.int .u64 0,.int .u64 0,.int .u64 0,.int .u64 0,.int .u64 0,.int .u64 0,.int .u64 0,.int .u64 0,.int .u64 0,.int .u64 0,.int .u64 0,.int .u64 0,.int .u64 0,.int .u64 0,.int .u64 0,.int .u64 0,.int .u64 0,.int .u64 0,.int .u64 0,.int .u64 0,.int .u64 0,.int .u64 0,.int .u64 0,.int .u64 0,.int .u64 0,.int .u64 0,.int .u64 0,.int .u64 0,.int .u64 0,.int .u64 0,.int .u64 0,.int .u64 0,.int .u64 0]) 115)):=by
 have hb:Below w.heap.size w (w.alloc (.cells (pw a) 24)):=(Below.refl _ _).alloc (Nat.le_refl _) _;have hb2:Below (w.heap.size+1) (w.alloc (.cells (pw a) 24)) ((w.alloc (.cells (pw a) 24)).alloc (.cells (#[.int .u64 0,.int .u64 0,.int .u64 0,.int .u64 0,.int .u64 0,.int .u64 0,.int .u64 0,.int .u64 0,.int .u64 0,.int .u64 0,.int .u64 0,.int .u64 0,.int .u64 0,.int .u64 0,.int .u64 0,.int .u64 0,.int .u64 0,.int .u64 0,.int .u64 0,.int .u64 0,.int .u64 0,.int .u64 0,.int .u64 0,.int .u64 0,.int .u64 0,.int .u64 0,.int .u64 0,.int .u64 0,.int .u64 0,.int .u64 0,.int .u64 0,.int .u64 0,.int .u64 0,.int .u64 0,.int .u64 0,.int .u64 0,.int .u64 0,.int .u64 0,.int .u64 0,.int .u64 0,.int .u64 0,.int .u64 0,.int .u64 0,.int .u64 0,.int .u64 0,.int .u64 0,.int .u64 0,.int .u64 0,.int .u64 0,.int .u64 0,.int .u64 0,.int .u64 0,.int .u64 0,.int .u64 0,.int .u64 0,.int .u64 0,.int .u64 0,.int .u64 0,.int .u64 0,.int .u64 0,.int .u64 0,.int .u64 0,.int .u64 0,.int .u64 0]) 115)):=(Below.refl _ _).alloc (by simp) _;exact⟨hb.trans (hb2.mono (by omega)),(h.below hb).below (by rw[World.size_alloc];exact hb2),h.less,(hb2.block _ (by omega)).trans (heap_alloc_new _ _),by have:=heap_alloc_new (w.alloc (.cells (pw a) 24)) (.cells (#[.int .u64 0,.int .u64 0,.int .u64 0,.int .u64 0,.int .u64 0,.int .u64 0,.int .u64 0,.int .u64 0,.int .u64 0,.int .u64 0,.int .u64 0,.int .u64 0,.int .u64 0,.int .u64 0,.int .u64 0,.int .u64 0,.int .u64 0,.int .u64 0,.int .u64 0,.int .u64 0,.int .u64 0,.int .u64 0,.int .u64 0,.int .u64 0,.int .u64 0,.int .u64 0,.int .u64 0,.int .u64 0,.int .u64 0,.int .u64 0,.int .u64 0,.int .u64 0,.int .u64 0,.int .u64 0,.int .u64 0,.int .u64 0,.int .u64 0,.int .u64 0,.int .u64 0,.int .u64 0,.int .u64 0,.int .u64 0,.int .u64 0,.int .u64 0,.int .u64 0,.int .u64 0,.int .u64 0,.int .u64 0,.int .u64 0,.int .u64 0,.int .u64 0,.int .u64 0,.int .u64 0,.int .u64 0,.int .u64 0,.int .u64 0,.int .u64 0,.int .u64 0,.int .u64 0,.int .u64 0,.int .u64 0,.int .u64 0,.int .u64 0,.int .u64 0]) 115);rwa [World.size_alloc]at this⟩
structure CK (w:World) (F m a g h e f:Nat) (wx:World):Prop where
 c:CP w F m a wx
 rg:wx.heap[g]?=some (.cells (pw e) 24 (0,0))
 rh:wx.heap[h]?=some (.cells (pw f) 24 (0,0))
theorem CK.below{w wx w':World}{F m a g h e f:Nat}(c:CK w F m a g h e f wx)(hb:Below wx.heap.size wx w'):CK w F m a g h e f w' :=
 ⟨c.c.below hb,(hb.block _ (Array.getElem?_eq_some_iff.1 c.rg).1).trans c.rg,(hb.block _ (Array.getElem?_eq_some_iff.1 c.rh).1).trans c.rh⟩
structure CTb (w:World) (F m a g h e f V:Nat) (q:Nat->Nat) (wx:World):Prop where
 k:CK w F m a g h e f wx
 rV:wx.heap[V]?=some (.cells (ar .u64 64 (tabF q)) 115 (0,0))
 hV:w.heap.size+2<=V/\g<V/\h<V
theorem CTb.below{w wx w':World}{F m a g h e f V:Nat}{q:Nat->Nat}(c:CTb w F m a g h e f V q wx)(hb:Below wx.heap.size wx w'):CTb w F m a g h e f V q w' :=
 ⟨c.k.below hb,(hb.block _ (Array.getElem?_eq_some_iff.1 c.rV).1).trans c.rV,c.hV⟩
theorem CTb.drew{w wx:World}{F m a g h e f V:Nat}{q:Nat->Nat}(c:CTb w F m a g h e f V q wx):CTb w F m a g h e f V q wx.drew:=c.below (Below.drew (Below.refl _ _))
theorem CTb.put{w wx:World}{F m a g h e f V:Nat}{q:Nat->Nat}(c:CTb w F m a g h e f V q wx)(k y:Nat)(hk:k<16):CTb w F m a g h e f V (updN q k y) (wx.setCells V (k*4) (pw y).toList):=by
 have hV:=c.hV;have hF:=c.k.c.hF;exact⟨⟨⟨tab_below _ _ c.k.c.old (by omega),⟨(tab_other _ _ _ (by omega)).trans c.k.c.fld.row,c.k.c.fld.odd,c.k.c.fld.big,c.k.c.fld.lt⟩,hF,(tab_other _ _ _ (by omega)).trans c.k.c.r0,(tab_other _ _ _ (by omega)).trans c.k.c.r1⟩,(tab_other _ _ _ (by omega)).trans c.k.rg,(tab_other _ _ _ (by omega)).trans c.k.rh⟩,tab_row c.rV k y hk,hV⟩
theorem CTb.start{w wx:World}{F m a g h e f:Nat}(c:CK w F m a g h e f wx)(q:Nat->Nat):CTb w F m a g h e f wx.heap.size q ((wx.alloc (.cells (#[.int .u64 0,.int .u64 0,.int .u64 0,.int .u64 0,.int .u64 0,.int .u64 0,.int .u64 0,.int .u64 0,.int .u64 0,.int .u64 0,.int .u64 0,.int .u64 0,.int .u64 0,.int .u64 0,.int .u64 0,.int .u64 0,.int .u64 0,.int .u64 0,.int .u64 0,.int .u64 0,.int .u64 0,.int .u64 0,.int .u64 0,.int .u64 0,.int .u64 0,.int .u64 0,.int .u64 0,.int .u64 0,.int .u64 0,.int .u64 0,.int .u64 0,.int .u64 0,.int .u64 0,.int .u64 0,.int .u64 0,.int .u64 0,.int .u64 0,.int .u64 0,.int .u64 0,.int .u64 0,.int .u64 0,.int .u64 0,.int .u64 0,.int .u64 0,.int .u64 0,.int .u64 0,.int .u64 0,.int .u64 0,.int .u64 0,.int .u64 0,.int .u64 0,.int .u64 0,.int .u64 0,.int .u64 0,.int .u64 0,.int .u64 0,.int .u64 0,.int .u64 0,.int .u64 0,.int .u64 0,.int .u64 0,.int .u64 0,.int .u64 0,.int .u64 0]) 115)).setRow wx.heap.size (ar .u64 64 (tabF q))):=by
 have hb:Below wx.heap.size wx (wx.alloc (.cells (#[.int .u64 0,.int .u64 0,.int .u64 0,.int .u64 0,.int .u64 0,.int .u64 0,.int .u64 0,.int .u64 0,.int .u64 0,.int .u64 0,.int .u64 0,.int .u64 0,.int .u64 0,.int .u64 0,.int .u64 0,.int .u64 0,.int .u64 0,.int .u64 0,.int .u64 0,.int .u64 0,.int .u64 0,.int .u64 0,.int .u64 0,.int .u64 0,.int .u64 0,.int .u64 0,.int .u64 0,.int .u64 0,.int .u64 0,.int .u64 0,.int .u64 0,.int .u64 0,.int .u64 0,.int .u64 0,.int .u64 0,.int .u64 0,.int .u64 0,.int .u64 0,.int .u64 0,.int .u64 0,.int .u64 0,.int .u64 0,.int .u64 0,.int .u64 0,.int .u64 0,.int .u64 0,.int .u64 0,.int .u64 0,.int .u64 0,.int .u64 0,.int .u64 0,.int .u64 0,.int .u64 0,.int .u64 0,.int .u64 0,.int .u64 0,.int .u64 0,.int .u64 0,.int .u64 0,.int .u64 0,.int .u64 0,.int .u64 0,.int .u64 0,.int .u64 0]) 115)):=(Below.refl _ _).alloc (Nat.le_refl _) _;have c':=c.below hb;have lg:=(Array.getElem?_eq_some_iff.1 c.rg).1;have lh:=(Array.getElem?_eq_some_iff.1 c.rh).1;have hi:=c.c.high;exact⟨⟨c'.c.rowed hi,(setRow_other _ _ _ _ (by omega)).trans c'.rg,(setRow_other _ _ _ _ (by omega)).trans c'.rh⟩,setRow_heap _ _ _ _ _ _ (heap_alloc_new _ _),⟨hi,lg,lh⟩⟩
theorem tabQ_0(m a:Nat):(fun j=>if j=0 then 1*2^256%m else 0)=tabQ m a 0:=by
 funext j
 unfold tabQ pwq;by_cases h:j=0
 ·rw[if_pos h,if_pos (by omega),h,Nat.pow_zero]
 ·rw[if_neg h,if_neg (by omega)]
theorem pwq_lt{m:Nat}(h:1<m)(a j:Nat):pwq m a j<m:=Nat.mod_lt _ (by omega)
-- WHAT powers COMES TO.
theorem powers_any(F m ao:Nat)(ha:ao<2^256)(w:World)(hF:FldAt w F m):Calls Tryz.prog 85 #[.pointer (some ⟨F,0,none⟩),.agg (pw ao)] w fun e w'=>e=.returned (.agg (ar .u64 64 (tabF (tabQ m ao 15))))/\Below w.heap.size w w':=by
 have H0:=Lib.hid (CP.start hF ao);have HO:=Lib.hid (And.intro hF.odd (And.intro hF.big hF.lt));have HS1:=Lib.hid (fun wx (c:CP w F m ao wx)=>scaled_any F m 1 (by omega) wx c.fld);have HS2:=Lib.hid (fun wx (c:CP w F m ao wx)=>scaled_any F m ao ha wx c.fld);obtain⟨eo,he⟩:∃ eo,1*2^256%m=eo:=⟨_,rfl⟩
 obtain⟨fo,hf⟩:∃ fo,ao*2^256%m=fo:=⟨_,rfl⟩
 rw[he]at HS1;rw[hf]at HS2;have HE:=Lib.hid (And.intro he hf);clear ha hF he hf;go_enter Tryz.func85,Tryz.ntmps85
 go_wp2_with fail
 refine region_tie2 (fun s wx=>CP w F m ao wx/\AQ 5 6 (w.heap.size+2) s wx) (fun i s wx=>match i with | 0=>s 9=(.pointer (some ⟨F,0,none⟩)) | 1=>s 10=(.agg (pw 1)) | 2=>s 11=(.agg (pw eo)) | 3=>s 12=(.pointer (some ⟨F,0,none⟩)) | 4=>s 13=(.agg (pw ao)) | 5=>s 14=(.agg (pw fo)) | 6=>∃ D,s 5=.pointer (some ⟨D,0,none⟩)/\∃ cs:Array Value,wx.heap[D]?=some (.cells cs 24 (0,0))/\cs.size=4 | 7=>∃ D,s 6=.pointer (some ⟨D,0,none⟩)/\∃ cs:Array Value,wx.heap[D]?=some (.cells cs 24 (0,0))/\cs.size=4 | 8=>∃ D,s 5=.pointer (some ⟨D,0,none⟩)/\wx.heap[D]?=some (.cells (pw eo) 24 (0,0)) | 9=>∃ D,s 6=.pointer (some ⟨D,0,none⟩)/\wx.heap[D]?=some (.cells (pw fo) 24 (0,0)) | _=>True) (RM2 5 6 (pw eo) (pw fo)) (fun i=>match i with | 0=>[9] | 1=>[10] | 2=>[11] | 3=>[12] | 4=>[13] | 5=>[14] | 6=>[5] | 7=>[6] | 8=>[5] | 9=>[6] | _=>[]) (fun i=>i) (by kernel_rfl) (by kernel_rfl) ⟨H0.out.drew,AQ.start (by kernel_rfl) (by kernel_rfl)⟩ ?_ ?_ ?_ ?_
 ·intro i s s' wx he hp
  match i,he,hp with
  | 0,he,hp=>exact(he 9 (by simp)).symm.trans hp
  | 1,he,hp=>exact(he 10 (by simp)).symm.trans hp
  | 2,he,hp=>exact(he 11 (by simp)).symm.trans hp
  | 3,he,hp=>exact(he 12 (by simp)).symm.trans hp
  | 4,he,hp=>exact(he 13 (by simp)).symm.trans hp
  | 5,he,hp=>exact(he 14 (by simp)).symm.trans hp
  | 6,he,hp=>obtain⟨D,h1,h2⟩:=hp;exact⟨D,(he 5 (by simp)).symm.trans h1,h2⟩
  | 7,he,hp=>obtain⟨D,h1,h2⟩:=hp;exact⟨D,(he 6 (by simp)).symm.trans h1,h2⟩
  | 8,he,hp=>obtain⟨D,h1,h2⟩:=hp;exact⟨D,(he 5 (by simp)).symm.trans h1,h2⟩
  | 9,he,hp=>obtain⟨D,h1,h2⟩:=hp;exact⟨D,(he 6 (by simp)).symm.trans h1,h2⟩
  | _+10,_,_=>trivial
 ·intro i s wa wb hC hR hp
  match i,hp with
  | 0,hp=>exact hp
  | 1,hp=>exact hp
  | 2,hp=>exact hp
  | 3,hp=>exact hp
  | 4,hp=>exact hp
  | 5,hp=>exact hp
  | 6,hp=>obtain⟨D,h1,h2⟩:=hp;exact⟨D,h1,hR.shape (pw_size _) (pw_size _) h2⟩
  | 7,hp=>obtain⟨D,h1,h2⟩:=hp;exact⟨D,h1,hR.shape (pw_size _) (pw_size _) h2⟩
  | 8,hp=>obtain⟨D,h1,h2⟩:=hp;exact⟨D,h1,RM2.keepp hC.2 hR h1 h2⟩
  | 9,hp=>obtain⟨D,h1,h2⟩:=hp;exact⟨D,h1,RM2.keepq hC.2 hR h1 h2⟩
  | _+10,_=>trivial
 ·refine⟨?_,?_,?_,?_,?_,?_,?_,?_,?_,?_,trivial⟩
  ·intro a wx hC hsz hK
   have h0:a.tmps.getD 0 undef=(.pointer (some ⟨F,0,none⟩)):=hK.1 0 (by kernel_rfl);exact uu_val ((.pointer (some ⟨F,0,none⟩))) (by kernel_rfl) (by rw[<- h0];kernel_rfl) ⟨hC.1,hC.2.put (slots_other _ 9 5 _ (by omega)) (slots_other _ 9 6 _ (by omega)) (Nat.le_refl _)⟩ (slots_put _ _ _ (by rw[hsz];exact of_decide_eq_true (by kernel_rfl))) (RM2.same _)
  ·intro a wx hC hsz hK
   refine uu_call 70 #[(.int .u64 (1:Nat))] (by kernel_rfl) (by kernel_rfl) ?_;exact(of_wv 1 (by omega) wx).mono fun e w' hh=>⟨_,hh.1,⟨hC.1.below hh.2,hC.2.put (slots_other _ 10 5 _ (by omega)) (slots_other _ 10 6 _ (by omega)) hh.2.size⟩,(slots_put _ _ _ (by rw[hsz];exact of_decide_eq_true (by kernel_rfl))),RM2.of hh.2⟩
  ·intro a wx hC hsz hK
   have h0:a.tmps.getD 9 undef=(.pointer (some ⟨F,0,none⟩)):=hK.2 ⟨0,.data⟩ (by simp) rfl _ rfl;have h1:a.tmps.getD 10 undef=(.agg (pw 1)):=hK.2 ⟨1,.data⟩ (by simp) rfl _ rfl;refine uu_call 88 #[a.tmps.getD 9 undef,a.tmps.getD 10 undef] (by kernel_rfl) (by kernel_rfl) ?_;rw[h0,h1];exact(HS1.out wx hC.1).mono fun e w' hh=>⟨_,hh.1,⟨hC.1.below hh.2,hC.2.put (slots_other _ 11 5 _ (by omega)) (slots_other _ 11 6 _ (by omega)) hh.2.size⟩,(slots_put _ _ _ (by rw[hsz];exact of_decide_eq_true (by kernel_rfl))),RM2.of hh.2⟩
  ·intro a wx hC hsz hK
   have h0:a.tmps.getD 0 undef=(.pointer (some ⟨F,0,none⟩)):=hK.1 0 (by kernel_rfl);exact uu_val ((.pointer (some ⟨F,0,none⟩))) (by kernel_rfl) (by rw[<- h0];kernel_rfl) ⟨hC.1,hC.2.put (slots_other _ 12 5 _ (by omega)) (slots_other _ 12 6 _ (by omega)) (Nat.le_refl _)⟩ (slots_put _ _ _ (by rw[hsz];exact of_decide_eq_true (by kernel_rfl))) (RM2.same _)
  ·intro a wx hC hsz hK
   have h0:a.tmps.getD 3 undef=(.pointer (some ⟨w.heap.size,0,none⟩)):=hK.1 3 (by kernel_rfl);exact uu_load 24 (.tmp 3) ((.pointer (some ⟨w.heap.size,0,none⟩))) ((.agg (pw ao))) rfl (by kernel_rfl) h0 (ld_pw hC.1.r0) ⟨hC.1,hC.2.put (slots_other _ 13 5 _ (by omega)) (slots_other _ 13 6 _ (by omega)) (Nat.le_refl _)⟩ (slots_put _ _ _ (by rw[hsz];exact of_decide_eq_true (by kernel_rfl))) (RM2.same _)
  ·intro a wx hC hsz hK
   have h0:a.tmps.getD 12 undef=(.pointer (some ⟨F,0,none⟩)):=hK.2 ⟨3,.data⟩ (by simp) rfl _ rfl;have h1:a.tmps.getD 13 undef=(.agg (pw ao)):=hK.2 ⟨4,.data⟩ (by simp) rfl _ rfl;refine uu_call 88 #[a.tmps.getD 12 undef,a.tmps.getD 13 undef] (by kernel_rfl) (by kernel_rfl) ?_;rw[h0,h1];exact(HS2.out wx hC.1).mono fun e w' hh=>⟨_,hh.1,⟨hC.1.below hh.2,hC.2.put (slots_other _ 14 5 _ (by omega)) (slots_other _ 14 6 _ (by omega)) hh.2.size⟩,(slots_put _ _ _ (by rw[hsz];exact of_decide_eq_true (by kernel_rfl))),RM2.of hh.2⟩
  ·intro a wx hC hsz hK
   have hb:Below wx.heap.size wx (wx.alloc (.cells #[.int .u64 0,.int .u64 0,.int .u64 0,.int .u64 0] 24)):=(Below.refl _ _).alloc (Nat.le_refl _) _;exact uu_new (.pointer (some ⟨wx.heap.size,0,none⟩)) (by kernel_rfl) (by kernel_rfl) ⟨hC.1.below hb,hC.2.newp (slots_put _ _ _ (by rw[hsz];exact of_decide_eq_true (by kernel_rfl))) (slots_other _ 5 6 _ (by omega)) hC.1.high (by simp)⟩ ⟨_,(slots_put _ _ _ (by rw[hsz];exact of_decide_eq_true (by kernel_rfl))),#[.int .u64 0,.int .u64 0,.int .u64 0,.int .u64 0],heap_alloc_new _ _,rfl⟩ (RM2.of hb)
  ·intro a wx hC hsz hK
   have hb:Below wx.heap.size wx (wx.alloc (.cells #[.int .u64 0,.int .u64 0,.int .u64 0,.int .u64 0] 24)):=(Below.refl _ _).alloc (Nat.le_refl _) _;exact uu_new (.pointer (some ⟨wx.heap.size,0,none⟩)) (by kernel_rfl) (by kernel_rfl) ⟨hC.1.below hb,hC.2.newq (slots_put _ _ _ (by rw[hsz];exact of_decide_eq_true (by kernel_rfl))) (slots_other _ 6 5 _ (by omega)) hC.1.high (by simp)⟩ ⟨_,(slots_put _ _ _ (by rw[hsz];exact of_decide_eq_true (by kernel_rfl))),#[.int .u64 0,.int .u64 0,.int .u64 0,.int .u64 0],heap_alloc_new _ _,rfl⟩ (RM2.of hb)
  ·intro a wx hC hsz hK
   obtain⟨D,h1,cs,h3,h4⟩:=hK.2 ⟨6,.data⟩ (by simp) rfl _ rfl;have h0:a.tmps.getD 11 undef=(.agg (pw eo)):=hK.2 ⟨2,.data⟩ (by simp) rfl _ rfl;exact uu_store (by kernel_rfl) rfl (run_st 24 (.tmp 5) (.tmp 11) _ _ rfl h1 h0 (store_w h4 h3)) ⟨hC.1.rowed (hC.2.ap D h1).1,hC.2.put rfl rfl (by simp)⟩ ⟨D,h1,setRow_heap _ _ _ _ _ _ h3⟩ (.inr ⟨D,pw eo,.inl ⟨h1,rfl⟩,rfl⟩)
  ·intro a wx hC hsz hK
   obtain⟨D,h1,cs,h3,h4⟩:=hK.2 ⟨7,.data⟩ (by simp) rfl _ rfl;have h0:a.tmps.getD 14 undef=(.agg (pw fo)):=hK.2 ⟨5,.data⟩ (by simp) rfl _ rfl;exact uu_store (by kernel_rfl) rfl (run_st 24 (.tmp 6) (.tmp 14) _ _ rfl h1 h0 (store_w h4 h3)) ⟨hC.1.rowed (hC.2.aq D h1).1,hC.2.put rfl rfl (by simp)⟩ ⟨D,h1,setRow_heap _ _ _ _ _ _ h3⟩ (.inr ⟨D,pw fo,.inr ⟨h1,rfl⟩,rfl⟩)
 intro f1 w5 hC hf;obtain⟨D,s5,rp⟩:=hf 8 _ rfl;obtain⟨E,s6,rq⟩:=hf 9 _ rfl;have H6:=Lib.hid (show CK w F m ao D E eo fo w5 from⟨hC.1,rp,rq⟩);clear hf hC rp rq H0 HS1 HS2;generalize hAct:putAll _ _ _=G at *;have s0:G.tmps.getD 0 undef=.pointer (some ⟨F,0,none⟩):=by subst hAct;kernel_rfl
 have s3:G.tmps.getD 3 undef=.pointer (some ⟨w.heap.size,0,none⟩):=by subst hAct;kernel_rfl
 have s4:G.tmps.getD 4 undef=.pointer (some ⟨w.heap.size+1,0,none⟩):=by subst hAct;kernel_rfl
 have s5':G.tmps.getD 5 undef=.pointer (some ⟨D,0,none⟩):=s5;have s6':G.tmps.getD 6 undef=.pointer (some ⟨E,0,none⟩):=s6;have hsz:G.tmps.size=33:=by rw[<- hAct,putAll_size];rfl
 have hdf:G.defers=[]:=by subst hAct;kernel_rfl
 clear hAct s5 s6;obtain⟨u1,t1⟩:∃ u,G.tmps.getD 1 undef=u:=⟨_,rfl⟩
 obtain⟨u2,t2⟩:∃ u,G.tmps.getD 2 undef=u:=⟨_,rfl⟩
 obtain⟨u7,t7⟩:∃ u,G.tmps.getD 7 undef=u:=⟨_,rfl⟩
 obtain⟨u8,t8⟩:∃ u,G.tmps.getD 8 undef=u:=⟨_,rfl⟩
 obtain⟨u9,t9⟩:∃ u,G.tmps.getD 9 undef=u:=⟨_,rfl⟩
 obtain⟨u10,t10⟩:∃ u,G.tmps.getD 10 undef=u:=⟨_,rfl⟩
 obtain⟨u11,t11⟩:∃ u,G.tmps.getD 11 undef=u:=⟨_,rfl⟩
 obtain⟨u12,t12⟩:∃ u,G.tmps.getD 12 undef=u:=⟨_,rfl⟩
 obtain⟨u13,t13⟩:∃ u,G.tmps.getD 13 undef=u:=⟨_,rfl⟩
 obtain⟨u14,t14⟩:∃ u,G.tmps.getD 14 undef=u:=⟨_,rfl⟩
 obtain⟨u15,t15⟩:∃ u,G.tmps.getD 15 undef=u:=⟨_,rfl⟩
 obtain⟨u16,t16⟩:∃ u,G.tmps.getD 16 undef=u:=⟨_,rfl⟩
 obtain⟨u17,t17⟩:∃ u,G.tmps.getD 17 undef=u:=⟨_,rfl⟩
 obtain⟨u18,t18⟩:∃ u,G.tmps.getD 18 undef=u:=⟨_,rfl⟩
 obtain⟨u19,t19⟩:∃ u,G.tmps.getD 19 undef=u:=⟨_,rfl⟩
 obtain⟨u20,t20⟩:∃ u,G.tmps.getD 20 undef=u:=⟨_,rfl⟩
 obtain⟨u21,t21⟩:∃ u,G.tmps.getD 21 undef=u:=⟨_,rfl⟩
 obtain⟨u22,t22⟩:∃ u,G.tmps.getD 22 undef=u:=⟨_,rfl⟩
 obtain⟨u23,t23⟩:∃ u,G.tmps.getD 23 undef=u:=⟨_,rfl⟩
 obtain⟨u24,t24⟩:∃ u,G.tmps.getD 24 undef=u:=⟨_,rfl⟩
 obtain⟨u25,t25⟩:∃ u,G.tmps.getD 25 undef=u:=⟨_,rfl⟩
 obtain⟨u26,t26⟩:∃ u,G.tmps.getD 26 undef=u:=⟨_,rfl⟩
 obtain⟨u27,t27⟩:∃ u,G.tmps.getD 27 undef=u:=⟨_,rfl⟩
 obtain⟨u28,t28⟩:∃ u,G.tmps.getD 28 undef=u:=⟨_,rfl⟩
 obtain⟨u29,t29⟩:∃ u,G.tmps.getD 29 undef=u:=⟨_,rfl⟩
 obtain⟨u30,t30⟩:∃ u,G.tmps.getD 30 undef=u:=⟨_,rfl⟩
 obtain⟨u31,t31⟩:∃ u,G.tmps.getD 31 undef=u:=⟨_,rfl⟩
 obtain⟨u32,t32⟩:∃ u,G.tmps.getD 32 undef=u:=⟨_,rfl⟩
 obtain⟨tm,df⟩:=G;simp only at *;have hLt:=arr_lit4 tm;rw[hsz]at hLt;simp only[List.range,List.range.loop,List.map]at hLt;rw[s0,t1,t2,s3,s4,s5',s6',t7,t8,t9,t10,t11,t12,t13,t14,t15,t16,t17,t18,t19,t20,t21,t22,t23,t24,t25,t26,t27,t28,t29,t30,t31,t32]at hLt;subst hLt hdf;clear s0 t1 t2 s3 s4 s5' s6' t7 t8 t9 t10 t11 t12 t13 t14 t15 t16 t17 t18 t19 t20 t21 t22 t23 t24 t25 t26 t27 t28 t29 t30 t31 t32 hsz;have HV0:=Lib.hid (heap_alloc_new w5 (.cells (#[.int .u64 0,.int .u64 0,.int .u64 0,.int .u64 0,.int .u64 0,.int .u64 0,.int .u64 0,.int .u64 0,.int .u64 0,.int .u64 0,.int .u64 0,.int .u64 0,.int .u64 0,.int .u64 0,.int .u64 0,.int .u64 0,.int .u64 0,.int .u64 0,.int .u64 0,.int .u64 0,.int .u64 0,.int .u64 0,.int .u64 0,.int .u64 0,.int .u64 0,.int .u64 0,.int .u64 0,.int .u64 0,.int .u64 0,.int .u64 0,.int .u64 0,.int .u64 0,.int .u64 0,.int .u64 0,.int .u64 0,.int .u64 0,.int .u64 0,.int .u64 0,.int .u64 0,.int .u64 0,.int .u64 0,.int .u64 0,.int .u64 0,.int .u64 0,.int .u64 0,.int .u64 0,.int .u64 0,.int .u64 0,.int .u64 0,.int .u64 0,.int .u64 0,.int .u64 0,.int .u64 0,.int .u64 0,.int .u64 0,.int .u64 0,.int .u64 0,.int .u64 0,.int .u64 0,.int .u64 0,.int .u64 0,.int .u64 0,.int .u64 0,.int .u64 0]) 115));have HT0:=Lib.hid (CTb.start H6.out (fun j=>if j=0 then eo else 0))
 go_wp2_with (first | (refine wpList_ld rfl 24 _ rfl (.pointer (some ⟨D,0,none⟩)) (.agg #[.int .u64 ((pN eo 0:Nat):Int),.int .u64 ((pN eo 1:Nat):Int),.int .u64 ((pN eo 2:Nat):Int),.int .u64 ((pN eo 3:Nat):Int)]) rfl (by rw[<- pw4];exact ld_pw (by exact H6.out.rg)) ?_) | (refine wpList_store_row rfl 115 _ _ rfl w5.heap.size (ar .u64 64 (tabF (fun j=>if j=0 then eo else 0))) rfl (by kernel_rfl) 115 (#[.int .u64 0,.int .u64 0,.int .u64 0,.int .u64 0,.int .u64 0,.int .u64 0,.int .u64 0,.int .u64 0,.int .u64 0,.int .u64 0,.int .u64 0,.int .u64 0,.int .u64 0,.int .u64 0,.int .u64 0,.int .u64 0,.int .u64 0,.int .u64 0,.int .u64 0,.int .u64 0,.int .u64 0,.int .u64 0,.int .u64 0,.int .u64 0,.int .u64 0,.int .u64 0,.int .u64 0,.int .u64 0,.int .u64 0,.int .u64 0,.int .u64 0,.int .u64 0,.int .u64 0,.int .u64 0,.int .u64 0,.int .u64 0,.int .u64 0,.int .u64 0,.int .u64 0,.int .u64 0,.int .u64 0,.int .u64 0,.int .u64 0,.int .u64 0,.int .u64 0,.int .u64 0,.int .u64 0,.int .u64 0,.int .u64 0,.int .u64 0,.int .u64 0,.int .u64 0,.int .u64 0,.int .u64 0,.int .u64 0,.int .u64 0,.int .u64 0,.int .u64 0,.int .u64 0,.int .u64 0,.int .u64 0,.int .u64 0,.int .u64 0,.int .u64 0]) (by exact HV0.out) (by rw[ar_size];exact info64) (by rw[ar_size];rfl) (ar_one _ _ _) ?_))
 obtain⟨w6,hw6⟩:∃ w6,(w5.alloc (.cells (#[.int .u64 0,.int .u64 0,.int .u64 0,.int .u64 0,.int .u64 0,.int .u64 0,.int .u64 0,.int .u64 0,.int .u64 0,.int .u64 0,.int .u64 0,.int .u64 0,.int .u64 0,.int .u64 0,.int .u64 0,.int .u64 0,.int .u64 0,.int .u64 0,.int .u64 0,.int .u64 0,.int .u64 0,.int .u64 0,.int .u64 0,.int .u64 0,.int .u64 0,.int .u64 0,.int .u64 0,.int .u64 0,.int .u64 0,.int .u64 0,.int .u64 0,.int .u64 0,.int .u64 0,.int .u64 0,.int .u64 0,.int .u64 0,.int .u64 0,.int .u64 0,.int .u64 0,.int .u64 0,.int .u64 0,.int .u64 0,.int .u64 0,.int .u64 0,.int .u64 0,.int .u64 0,.int .u64 0,.int .u64 0,.int .u64 0,.int .u64 0,.int .u64 0,.int .u64 0,.int .u64 0,.int .u64 0,.int .u64 0,.int .u64 0,.int .u64 0,.int .u64 0,.int .u64 0,.int .u64 0,.int .u64 0,.int .u64 0,.int .u64 0,.int .u64 0]) 115)).setRow w5.heap.size (ar .u64 64 (tabF (fun j=>if j=0 then eo else 0)))=w6:=⟨_,rfl⟩
 obtain⟨V,hV⟩:∃ V,w5.heap.size=V:=⟨_,rfl⟩
 rw[hw6,hV]at HT0;rw[hw6,hV];replace HT0:=Lib.hid (show CTb w F m ao D E eo fo V (tabQ m ao 0) w6 from by rw[<- tabQ_0,HE.out.1];exact HT0.out);clear hw6 hV HV0 H6
 go_loopw [19] (fun iv wr=>∃ k:Nat,k<=15/\iv=.int .i64 k/\Hid (CTb w F m ao D E eo fo V (tabQ m ao k) wr)) (fun iv _=>15 - (intOf iv).toNat)
 case atStart=>exact⟨0,by omega,rfl,HT0⟩
 case round =>
  obtain⟨k,hk,rfl,H⟩:=hrel;clear HT0;have hk0:(0:Int)<=k:=by omega
  by_cases hlt:k<15
  ·have hlt':(k:Int)<15:=by omega
   have HT:=Lib.hid (fun wx (c:CTb w F m ao D E eo fo V (tabQ m ao k) wx)=>(times_any F m (pwq m ao k) fo (Nat.lt_trans (pwq_lt HO.out.2.1 ao k) HO.out.2.2) (by rw[<- HE.out.2];exact Nat.lt_trans (Nat.mod_lt _ (by have:=HO.out.2.1;omega)) HO.out.2.2) (prod_lt (Nat.lt_trans (pwq_lt HO.out.2.1 ao k) HO.out.2.2) (by rw[<- HE.out.2];exact Nat.mod_lt _ (by have:=HO.out.2.1;omega))) wx c.k.c.fld).mono fun e w' hh=>(⟨by rw[hh.1,<- HE.out.2,pwq_next HO.out.1 HO.out.2.1],c.below hh.2⟩:e=.returned (.agg (pw (pwq m ao (k+1))))/\CTb w F m ao D E eo fo V (tabQ m ao k) w'));have HN:=Lib.hid (tabQ_next m ao k);have HQK:=Lib.hid (show tabQ m ao k k=pwq m ao k from by unfold tabQ;rw[if_pos (Nat.le_refl _)]);obtain⟨k1,hk1⟩:∃ k1,k+1=k1:=⟨_,rfl⟩
   obtain⟨x,hx⟩:∃ x,pwq m ao k=x:=⟨_,rfl⟩
   obtain⟨y,hy⟩:∃ y,pwq m ao k1=y:=⟨_,rfl⟩
   obtain⟨q,hq⟩:∃ q,tabQ m ao k=q:=⟨_,rfl⟩
   obtain⟨q1,hq1⟩:∃ q1,tabQ m ao k1=q1:=⟨_,rfl⟩
   rw[hk1,hx,hy,hq]at HT;rw[hk1,hy,hq,hq1]at HN;rw[hx,hq]at HQK;rw[hq]at H;have HAD:=Lib.hid (show ∀ w,(binOp BinOp.add 3 (.int .i64 (k:Nat)) (.int .i64 1)).run Tryz.prog w=.ok (.int .i64 (k1:Nat)) w from fun w=>by
    have e:(k:Int)+1=(k1:Int):=by omega
    have e2:IntKind.i64.wrap (k1:Int)=(k1:Int):=by rw[IntKind.wrap_i64];omega
    go_simp)
   have HK:=Lib.hid (And.intro hlt (And.intro hk1 hq1));clear hk1 hx hy hq hq1 hlt hk
   go_wp2_with fail
   refine region_quiet_tail 9 (CTb w F m ao D E eo fo V q) (by kernel_rfl) (by kernel_rfl) (H.out.drew) ?_;simp only[List.take_succ_cons,List.take_zero,List.drop_succ_cons,List.drop_zero]
   with_reducible refine q_val (.int .i64 (k:Nat)) (by kernel_rfl) (fun _ _=>by kernel_rfl) ?_
   with_reducible refine q_bin .add 3 (.tmp 22) _ 3 (.int .i64 (k:Nat)) (.int .i64 1) (.int .i64 (k1:Nat)) rfl (by kernel_rfl) (by kernel_rfl) (by kernel_rfl) (fun _=>by kernel_rfl) (fun w'=>HAD.out w') ?_
   with_reducible refine q_val (.pointer (some ⟨F,0,none⟩)) (by kernel_rfl) (fun _ _=>by kernel_rfl) ?_
   with_reducible refine q_val (.int .i64 (k:Nat)) (by kernel_rfl) (fun _ _=>by kernel_rfl) ?_
   with_reducible refine q_sem2 (Instr.indexAt 115 (.pointer (some ⟨V,0,none⟩)) (.int .i64 (k:Nat))) (.pointer (some ⟨V,k*4,none⟩)) (by kernel_rfl) (by kernel_rfl) (fun w' _=>ix_tab V k (by have:=HK.out;omega) w') ?_
   with_reducible refine q_load 24 (.tmp 26) (.pointer (some ⟨V,k*4,none⟩)) (.agg (pw x)) rfl (by kernel_rfl) (by kernel_rfl) (fun _ c=>(ld_tab c.rV k (by have:=HK.out;omega)).trans (by rw[HQK.out])) ?_
   with_reducible refine q_load 24 (.tmp 6) (.pointer (some ⟨E,0,none⟩)) (.agg (pw fo)) rfl (by kernel_rfl) (by kernel_rfl) (fun _ c=>ld_pw c.k.rh) ?_
   with_reducible refine q_call 87 #[.pointer (some ⟨F,0,none⟩),.agg (pw x),.agg (pw fo)] (.agg (pw y)) (by kernel_rfl) (fun _=>by kernel_rfl) (HT.out) ?_
   with_reducible refine q_sem2 (Instr.indexAt 115 (.pointer (some ⟨V,0,none⟩)) (.int .i64 (k1:Nat))) (.pointer (some ⟨V,k1*4,none⟩)) (by kernel_rfl) (by kernel_rfl) (fun w' _=>ix_tab V k1 (by have:=HK.out;omega) w') ?_
   with_reducible refine wpQuiet_nil ?_
   intro wx hC;have HC:=Lib.hid hC;clear hC H HT;simp only[Act.put,List.setIfInBounds_toArray,List.set_cons_succ,List.set_cons_zero];have HP:=Lib.hid (HC.out.put k1 y (by have:=HK.out;omega));rw[HN.out]at HP;have hth:=tab_there HC.out.rV k1 (by have:=HK.out;omega) y;clear HC
   go_wp2_with (refine wpList_store_mid rfl 24 _ _ rfl V (k1*4) (pw y) rfl rfl (by exact hth) (by rw[pw_size];exact infoW4) (pw_one _) ?_)
   go_roundw
   case rel=>exact⟨k1,by have:=HK.out;omega,by rw[show((k1:Nat):Int)=(k:Int)+1 by have:=HK.out;omega],by rw[HK.out.2.2];exact HP⟩
   case measure=>have:=HK.out;simp[intOf];omega
  ·obtain rfl:k=15:=by omega
   have hlt':¬((15:Nat):Int)<15:=by omega
   obtain⟨q,hq⟩:∃ q,tabQ m ao 15=q:=⟨_,rfl⟩
   rw[hq]at H;have HQ:=Lib.hid hq;clear hq;have HI:Hid ((Tryz.prog.info? 115).map (·.size)=some (ar .u64 64 (tabF q)).size):=Lib.hid (by rw[ar_size];exact info64);simp only[Int.cast_ofNat_Int]
   go_wp2_with (first | (refine wpList_load_row rfl 115 _ rfl V rfl 115 (ar .u64 64 (tabF q)) (0,0) _ (by exact H.out.rV) Tryz.underlying115 rfl HI.out ?_) | (refine wpList_store_row rfl 115 _ _ rfl (w.heap.size+1) (ar .u64 64 (tabF q)) rfl rfl 115 (#[.int .u64 0,.int .u64 0,.int .u64 0,.int .u64 0,.int .u64 0,.int .u64 0,.int .u64 0,.int .u64 0,.int .u64 0,.int .u64 0,.int .u64 0,.int .u64 0,.int .u64 0,.int .u64 0,.int .u64 0,.int .u64 0,.int .u64 0,.int .u64 0,.int .u64 0,.int .u64 0,.int .u64 0,.int .u64 0,.int .u64 0,.int .u64 0,.int .u64 0,.int .u64 0,.int .u64 0,.int .u64 0,.int .u64 0,.int .u64 0,.int .u64 0,.int .u64 0,.int .u64 0,.int .u64 0,.int .u64 0,.int .u64 0,.int .u64 0,.int .u64 0,.int .u64 0,.int .u64 0,.int .u64 0,.int .u64 0,.int .u64 0,.int .u64 0,.int .u64 0,.int .u64 0,.int .u64 0,.int .u64 0,.int .u64 0,.int .u64 0,.int .u64 0,.int .u64 0,.int .u64 0,.int .u64 0,.int .u64 0,.int .u64 0,.int .u64 0,.int .u64 0,.int .u64 0,.int .u64 0,.int .u64 0,.int .u64 0,.int .u64 0,.int .u64 0]) (by exact H.out.k.c.r1) HI.out (by rw[ar_size];rfl) (ar_one _ _ _) ?_))
   (try simp only[Act.put,List.setIfInBounds_toArray,List.set_cons_succ,List.set_cons_zero])
   refine bodyPost_ret (v:=.agg (ar .u64 64 (tabF q))) (results_cell_row (p:=4) rfl _ _ (w.heap.size+1) 115 (ar .u64 64 (tabF q)) (0,0) _ rfl (setRow_heap _ _ _ _ _ _ H.out.k.c.r1) Tryz.underlying115 rfl HI.out) rfl ⟨by rw[HQ.out],below_setRow H.out.k.c.old (by omega) _⟩
open Go.RowKit
theorem mnt_pwq{m:Nat}(ho:m%2=1)(h1:1<m)(a x y:Nat):mnt m (pwq m a x) (pwq m a y)=pwq m a (x+y):=by
 unfold pwq;rw[mnt_both ho h1,Nat.pow_add]
theorem pwq_out{m:Nat}(ho:m%2=1)(h1:1<m)(a x:Nat):mnt m (pwq m a x) 1=a^x%m:=by
 unfold pwq;rw[mnt_back ho h1,Nat.mul_one]
theorem dig_next(e i:Nat):e / 16^(i+1)*16+e / 16^i%16=e / 16^i:=by
 rw[Nat.pow_succ,<- Nat.div_div_eq_div_mul];omega
theorem dig_of(e i:Nat)(he:e<2^256):pN e (i / 16) / 2^(i%16*4)%16=e / 16^i%16:=by
 unfold pN;rw[Nat.mod_eq_of_lt he];have h1:(16:Nat)^i=2^(64*(i / 16))*2^(i%16*4):=by
  rw[<- Nat.pow_add,show(16:Nat)=2^4 from rfl,<- Nat.pow_mul];congr 1;omega
 rw[h1,<- Nat.div_div_eq_div_mul];have h2:18446744073709551616=2^(i%16*4)*(16*2^(60 - i%16*4)):=by
  rw[show 18446744073709551616=2^64 from rfl,show(16:Nat)=2^4 from rfl,<- Nat.pow_add,<- Nat.pow_add];congr 1;omega
 generalize e / 2^(64*(i / 16))=z;rw[h2,Nat.mod_mul_right_div_self,Nat.mod_mul_right_mod]
theorem and_15(z:Nat)(h:z<18446744073709551616):bits .and .u64 (z:Int) 15=((z%16:Nat):Int):=by
 have:=bits_and_u64_nat z 15 h (by omega);rw[show z &&& 15=z%16 from Nat.and_two_pow_sub_one_eq_mod z 4]at this;exact this
theorem ix_tabu(V k:Nat)(hk:k<16)(w:World):(Instr.indexAt 115 (.pointer (some ⟨V,0,none⟩)) (.int .u64 (k:Nat))).run Tryz.prog w=.ok (.pointer (some ⟨V,k*4,none⟩)) w:=by
 have h0:(0:Int)<=k:=by omega
 have h1:(k:Int)<16:=by omega
 go_simp
structure CX (w:World) (F m a e V O:Nat) (q:Nat->Nat) (x:Nat) (wx:World):Prop where
 old:Below w.heap.size w wx
 fld:FldAt wx F m
 hF:F<w.heap.size
 r0:wx.heap[w.heap.size]?=some (.cells (pw a) 24 (0,0))
 r1:wx.heap[w.heap.size+1]?=some (.cells (pw e) 24 (0,0))
 r2:wx.heap[w.heap.size+1+1]?=some (.cells (#[.int .u64 0,.int .u64 0,.int .u64 0,.int .u64 0]) 24 (0,0))
 rV:wx.heap[V]?=some (.cells (ar .u64 64 (tabF q)) 115 (0,0))
 rO:wx.heap[O]?=some (.cells (pw x) 24 (0,0))
 hV:w.heap.size+3<=V/\V<O
theorem CX.below{w wx w':World}{F m a e V O x:Nat}{q:Nat->Nat}(c:CX w F m a e V O q x wx)(hb:Below wx.heap.size wx w'):CX w F m a e V O q x w' :=
 ⟨c.old.trans (hb.mono c.old.size),c.fld.below hb,c.hF,(hb.block _ (Array.getElem?_eq_some_iff.1 c.r0).1).trans c.r0,(hb.block _ (Array.getElem?_eq_some_iff.1 c.r1).1).trans c.r1,(hb.block _ (Array.getElem?_eq_some_iff.1 c.r2).1).trans c.r2,(hb.block _ (Array.getElem?_eq_some_iff.1 c.rV).1).trans c.rV,(hb.block _ (Array.getElem?_eq_some_iff.1 c.rO).1).trans c.rO,c.hV⟩
theorem CX.drew{w wx:World}{F m a e V O x:Nat}{q:Nat->Nat}(c:CX w F m a e V O q x wx):CX w F m a e V O q x wx.drew:=c.below (Below.drew (Below.refl _ _))
theorem CX.put{w wx:World}{F m a e V O x:Nat}{q:Nat->Nat}(c:CX w F m a e V O q x wx)(y:Nat):CX w F m a e V O q y (wx.setRow O (pw y)):=by
 have h:=c.hV;have hF:=c.hF;exact⟨below_setRow c.old (by omega) _,fld_row c.fld (by omega),hF,(setRow_other _ _ _ _ (by omega)).trans c.r0,(setRow_other _ _ _ _ (by omega)).trans c.r1,(setRow_other _ _ _ _ (by omega)).trans c.r2,(setRow_other _ _ _ _ (by omega)).trans c.rV,setRow_heap _ _ _ _ _ _ c.rO,h⟩
theorem CX.times{w:World}{F m a e V O x y z:Nat}{q:Nat->Nat}(hx:x<m)(hy:y<m)(hm:m<2^256)(hz:mnt m x y=z){x0:Nat}:∀ wx,CX w F m a e V O q x0 wx->Calls Tryz.prog 87 #[.pointer (some ⟨F,0,none⟩),.agg (pw x),.agg (pw y)] wx fun e' w'=>e'=.returned (.agg (pw z))/\CX w F m a e V O q x0 w' :=
 fun wx c=>(times_any F m x y (Nat.lt_trans hx hm) (Nat.lt_trans hy hm) (prod_lt (Nat.lt_trans hx hm) hy) wx c.fld).mono fun _ _ hh=>⟨by rw[hh.1,hz],c.below hh.2⟩
theorem CX.start{w w1:World}{F m a e:Nat}{q:Nat->Nat}{cz:Array Value}(hF:FldAt w F m)(hb:Below (w.heap.size+3) (((w.alloc (.cells (pw a) 24)).alloc (.cells (pw e) 24)).alloc (.cells (#[.int .u64 0,.int .u64 0,.int .u64 0,.int .u64 0]) 24)) w1):CX w F m a e w1.heap.size (w1.heap.size+1) q (q 0) ((((w1.alloc (.cells cz 115)).setRow w1.heap.size (ar .u64 64 (tabF q))).alloc (.cells (#[.int .u64 0,.int .u64 0,.int .u64 0,.int .u64 0]) 24)).setRow (w1.heap.size+1) (pw (q 0))):=by
 have c:=CW.two hF a e;have hs:=hb.size;simp only[World.size_alloc]at hs;have hl:=hF.less;have c1:=c.fld.below (hb.mono (by simp));have hb2:Below w1.heap.size w1 (w1.alloc (.cells cz 115)):=(Below.refl _ _).alloc (Nat.le_refl _) _;have hb3:Below w1.heap.size w1 ((w1.alloc (.cells cz 115)).setRow w1.heap.size (ar .u64 64 (tabF q))):=below_setRow hb2 (Nat.le_refl _) _;have hsz:((w1.alloc (.cells cz 115)).setRow w1.heap.size (ar .u64 64 (tabF q))).heap.size=w1.heap.size+1:=by rw[setRow_size];simp
 have hb4:Below w1.heap.size w1 (((w1.alloc (.cells cz 115)).setRow w1.heap.size (ar .u64 64 (tabF q))).alloc (.cells (#[.int .u64 0,.int .u64 0,.int .u64 0,.int .u64 0]) 24)):=hb3.alloc (by rw[hsz];omega) _;have hb5:Below w1.heap.size w1 ((((w1.alloc (.cells cz 115)).setRow w1.heap.size (ar .u64 64 (tabF q))).alloc (.cells (#[.int .u64 0,.int .u64 0,.int .u64 0,.int .u64 0]) 24)).setRow (w1.heap.size+1) (pw (q 0))):=below_setRow hb4 (by omega) _;have hrV:((w1.alloc (.cells cz 115)).setRow w1.heap.size (ar .u64 64 (tabF q))).heap[w1.heap.size]?=some (.cells (ar .u64 64 (tabF q)) 115 (0,0)):=setRow_heap _ _ _ _ _ _ (heap_alloc_new _ _);have hnw:=heap_alloc_new ((w1.alloc (.cells cz 115)).setRow w1.heap.size (ar .u64 64 (tabF q))) (.cells (#[.int .u64 0,.int .u64 0,.int .u64 0,.int .u64 0]) 24);rw[hsz]at hnw;have go:∀ k,k<w.heap.size+3->∀ o,(((w.alloc (.cells (pw a) 24)).alloc (.cells (pw e) 24)).alloc (.cells (#[.int .u64 0,.int .u64 0,.int .u64 0,.int .u64 0]) 24)).heap[k]?=some o->((((w1.alloc (.cells cz 115)).setRow w1.heap.size (ar .u64 64 (tabF q))).alloc (.cells (#[.int .u64 0,.int .u64 0,.int .u64 0,.int .u64 0]) 24)).setRow (w1.heap.size+1) (pw (q 0))).heap[k]?=some o:=fun k hk o ho=>(hb5.block _ (by omega)).trans ((hb.block _ hk).trans ho);exact⟨(c.old.trans (hb.mono (by omega))).trans (hb5.mono (by omega)),c1.below hb5,hl,go _ (by omega) _ (c.is _ _ (by simp)),go _ (by omega) _ (c.is _ _ (by simp)),go _ (by omega) _ (c.is _ _ (by simp)),(setRow_other _ _ _ _ (by omega)).trans ((((Below.refl (w1.heap.size+1) ((w1.alloc (.cells cz 115)).setRow w1.heap.size (ar .u64 64 (tabF q)))).alloc (by rw[hsz];omega) (.cells (#[.int .u64 0,.int .u64 0,.int .u64 0,.int .u64 0]) 24)).block _ (by omega)).trans hrV),setRow_heap _ _ _ _ _ _ hnw,⟨by omega,by omega⟩⟩
-- WHAT Exp COMES TO.
theorem fexp_any(F m a e:Nat)(ha:a<2^256)(he:e<2^256)(w:World)(hF:FldAt w F m):Calls Tryz.prog 71 #[.pointer (some ⟨F,0,none⟩),.agg (pw a),.agg (pw e)] w fun e' w'=>e'=.returned (.agg (pw (a^e%m)))/\Below w.heap.size w w':=by
 have HO:=Lib.hid (And.intro hF.odd (And.intro hF.big (And.intro hF.lt he)));have HFF:=Lib.hid hF;have HC2:=Lib.hid (CW.two hF a e);have HPW:=Lib.hid (fun wx (c:CW w F m [(w.heap.size+1+1,#[.int .u64 0,.int .u64 0,.int .u64 0,.int .u64 0]),(w.heap.size+1,pw e),(w.heap.size,pw a)] wx)=>powers_any F m a ha wx c.fld);have HLN:=Lib.hid (fun wx=>len_pw e wx);have hbl:=bl_le e 256;have hbs:=(bl_spec e 256).1;rw[show(2:Nat)^256=2^256 from rfl,Nat.mod_mod,Nat.mod_eq_of_lt he]at hbs;obtain⟨n,hn⟩:∃ n,bl e 256=n:=⟨_,rfl⟩
 rw[hn]at HLN hbl hbs;obtain⟨L,hL⟩:∃ L,(n+3) / 4=L:=⟨_,rfl⟩
 have HL0:=Lib.hid (show e / 16^L=0 from Nat.div_eq_of_lt (Nat.lt_of_lt_of_le hbs (by rw[show(16:Nat)=2^4 from rfl,<- Nat.pow_mul];exact Nat.pow_le_pow_right (by omega) (by omega))));have HLL:=Lib.hid (show L<=64 by omega);obtain⟨n3,hn3⟩:∃ n3,n+3=n3:=⟨_,rfl⟩
 have e1:(n:Int)+3=(n3:Int):=by omega
 have e2:IntKind.i64.wrap (n3:Int)=(n3:Int):=by rw[IntKind.wrap_i64];omega
 have e3:(n3:Int).tdiv 4=(L:Int):=by rw[Int.tdiv_eq_ediv_of_nonneg (by omega)];omega
 have e4:(n3:Int) / 4=(L:Int):=by omega
 have e5:IntKind.i64.wrap (L:Int)=(L:Int):=by rw[IntKind.wrap_i64];omega
 have e6:IntKind.i64.wrap ((L:Int) - 1)=(L:Int) - 1:=by rw[IntKind.wrap_i64];omega
 have hn30:(0:Int)<=n3:=by omega
 obtain⟨q,hq⟩:∃ q,tabQ m a 15=q:=⟨_,rfl⟩
 rw[hq]at HPW;have HQ:=Lib.hid (show ∀ d,d<16->q d=pwq m a d from fun d hd=>by rw[<- hq];unfold tabQ;rw[if_pos (by omega)]);clear hq hF ha he hbl hbs hn hL hn3;go_enter Tryz.func71,Tryz.ntmps71
 go_wp2_with (refine wpList_ld rfl 24 _ rfl (.pointer (some ⟨w.heap.size,0,none⟩)) (.agg (pw a)) rfl (ld_pw (by exact HC2.out.is _ _ (by simp))) ?_)
 refine(HPW.out _ HC2.out).mono ?_;rintro e' w1 ⟨rfl,hb1⟩;have HX:=Lib.hid (CX.start (cz:=#[.int .u64 0,.int .u64 0,.int .u64 0,.int .u64 0,.int .u64 0,.int .u64 0,.int .u64 0,.int .u64 0,.int .u64 0,.int .u64 0,.int .u64 0,.int .u64 0,.int .u64 0,.int .u64 0,.int .u64 0,.int .u64 0,.int .u64 0,.int .u64 0,.int .u64 0,.int .u64 0,.int .u64 0,.int .u64 0,.int .u64 0,.int .u64 0,.int .u64 0,.int .u64 0,.int .u64 0,.int .u64 0,.int .u64 0,.int .u64 0,.int .u64 0,.int .u64 0,.int .u64 0,.int .u64 0,.int .u64 0,.int .u64 0,.int .u64 0,.int .u64 0,.int .u64 0,.int .u64 0,.int .u64 0,.int .u64 0,.int .u64 0,.int .u64 0,.int .u64 0,.int .u64 0,.int .u64 0,.int .u64 0,.int .u64 0,.int .u64 0,.int .u64 0,.int .u64 0,.int .u64 0,.int .u64 0,.int .u64 0,.int .u64 0,.int .u64 0,.int .u64 0,.int .u64 0,.int .u64 0,.int .u64 0,.int .u64 0,.int .u64 0,.int .u64 0]) (q:=q) HFF.out (hb1.mono (by simp)));have HV0:=Lib.hid (heap_alloc_new w1 (.cells (#[.int .u64 0,.int .u64 0,.int .u64 0,.int .u64 0,.int .u64 0,.int .u64 0,.int .u64 0,.int .u64 0,.int .u64 0,.int .u64 0,.int .u64 0,.int .u64 0,.int .u64 0,.int .u64 0,.int .u64 0,.int .u64 0,.int .u64 0,.int .u64 0,.int .u64 0,.int .u64 0,.int .u64 0,.int .u64 0,.int .u64 0,.int .u64 0,.int .u64 0,.int .u64 0,.int .u64 0,.int .u64 0,.int .u64 0,.int .u64 0,.int .u64 0,.int .u64 0,.int .u64 0,.int .u64 0,.int .u64 0,.int .u64 0,.int .u64 0,.int .u64 0,.int .u64 0,.int .u64 0,.int .u64 0,.int .u64 0,.int .u64 0,.int .u64 0,.int .u64 0,.int .u64 0,.int .u64 0,.int .u64 0,.int .u64 0,.int .u64 0,.int .u64 0,.int .u64 0,.int .u64 0,.int .u64 0,.int .u64 0,.int .u64 0,.int .u64 0,.int .u64 0,.int .u64 0,.int .u64 0,.int .u64 0,.int .u64 0,.int .u64 0,.int .u64 0]) 115));have HV1:=Lib.hid (show((w1.alloc (.cells (#[.int .u64 0,.int .u64 0,.int .u64 0,.int .u64 0,.int .u64 0,.int .u64 0,.int .u64 0,.int .u64 0,.int .u64 0,.int .u64 0,.int .u64 0,.int .u64 0,.int .u64 0,.int .u64 0,.int .u64 0,.int .u64 0,.int .u64 0,.int .u64 0,.int .u64 0,.int .u64 0,.int .u64 0,.int .u64 0,.int .u64 0,.int .u64 0,.int .u64 0,.int .u64 0,.int .u64 0,.int .u64 0,.int .u64 0,.int .u64 0,.int .u64 0,.int .u64 0,.int .u64 0,.int .u64 0,.int .u64 0,.int .u64 0,.int .u64 0,.int .u64 0,.int .u64 0,.int .u64 0,.int .u64 0,.int .u64 0,.int .u64 0,.int .u64 0,.int .u64 0,.int .u64 0,.int .u64 0,.int .u64 0,.int .u64 0,.int .u64 0,.int .u64 0,.int .u64 0,.int .u64 0,.int .u64 0,.int .u64 0,.int .u64 0,.int .u64 0,.int .u64 0,.int .u64 0,.int .u64 0,.int .u64 0,.int .u64 0,.int .u64 0,.int .u64 0]) 115)).setRow w1.heap.size (ar .u64 64 (tabF q))).heap[w1.heap.size]?=some (.cells (ar .u64 64 (tabF q)) 115 (0,0)) from setRow_heap _ _ _ _ _ _ HV0.out);have hsz1:((w1.alloc (.cells (#[.int .u64 0,.int .u64 0,.int .u64 0,.int .u64 0,.int .u64 0,.int .u64 0,.int .u64 0,.int .u64 0,.int .u64 0,.int .u64 0,.int .u64 0,.int .u64 0,.int .u64 0,.int .u64 0,.int .u64 0,.int .u64 0,.int .u64 0,.int .u64 0,.int .u64 0,.int .u64 0,.int .u64 0,.int .u64 0,.int .u64 0,.int .u64 0,.int .u64 0,.int .u64 0,.int .u64 0,.int .u64 0,.int .u64 0,.int .u64 0,.int .u64 0,.int .u64 0,.int .u64 0,.int .u64 0,.int .u64 0,.int .u64 0,.int .u64 0,.int .u64 0,.int .u64 0,.int .u64 0,.int .u64 0,.int .u64 0,.int .u64 0,.int .u64 0,.int .u64 0,.int .u64 0,.int .u64 0,.int .u64 0,.int .u64 0,.int .u64 0,.int .u64 0,.int .u64 0,.int .u64 0,.int .u64 0,.int .u64 0,.int .u64 0,.int .u64 0,.int .u64 0,.int .u64 0,.int .u64 0,.int .u64 0,.int .u64 0,.int .u64 0,.int .u64 0]) 115)).setRow w1.heap.size (ar .u64 64 (tabF q))).heap.size=w1.heap.size+1:=by rw[setRow_size];simp
 have HV2:=Lib.hid (show(((w1.alloc (.cells (#[.int .u64 0,.int .u64 0,.int .u64 0,.int .u64 0,.int .u64 0,.int .u64 0,.int .u64 0,.int .u64 0,.int .u64 0,.int .u64 0,.int .u64 0,.int .u64 0,.int .u64 0,.int .u64 0,.int .u64 0,.int .u64 0,.int .u64 0,.int .u64 0,.int .u64 0,.int .u64 0,.int .u64 0,.int .u64 0,.int .u64 0,.int .u64 0,.int .u64 0,.int .u64 0,.int .u64 0,.int .u64 0,.int .u64 0,.int .u64 0,.int .u64 0,.int .u64 0,.int .u64 0,.int .u64 0,.int .u64 0,.int .u64 0,.int .u64 0,.int .u64 0,.int .u64 0,.int .u64 0,.int .u64 0,.int .u64 0,.int .u64 0,.int .u64 0,.int .u64 0,.int .u64 0,.int .u64 0,.int .u64 0,.int .u64 0,.int .u64 0,.int .u64 0,.int .u64 0,.int .u64 0,.int .u64 0,.int .u64 0,.int .u64 0,.int .u64 0,.int .u64 0,.int .u64 0,.int .u64 0,.int .u64 0,.int .u64 0,.int .u64 0,.int .u64 0]) 115)).setRow w1.heap.size (ar .u64 64 (tabF q))).alloc (.cells (#[.int .u64 0,.int .u64 0,.int .u64 0,.int .u64 0]) 24)).heap[w1.heap.size+1]?=some (.cells (#[.int .u64 0,.int .u64 0,.int .u64 0,.int .u64 0]) 24 (0,0)) from by
  have:=heap_alloc_new ((w1.alloc (.cells (#[.int .u64 0,.int .u64 0,.int .u64 0,.int .u64 0,.int .u64 0,.int .u64 0,.int .u64 0,.int .u64 0,.int .u64 0,.int .u64 0,.int .u64 0,.int .u64 0,.int .u64 0,.int .u64 0,.int .u64 0,.int .u64 0,.int .u64 0,.int .u64 0,.int .u64 0,.int .u64 0,.int .u64 0,.int .u64 0,.int .u64 0,.int .u64 0,.int .u64 0,.int .u64 0,.int .u64 0,.int .u64 0,.int .u64 0,.int .u64 0,.int .u64 0,.int .u64 0,.int .u64 0,.int .u64 0,.int .u64 0,.int .u64 0,.int .u64 0,.int .u64 0,.int .u64 0,.int .u64 0,.int .u64 0,.int .u64 0,.int .u64 0,.int .u64 0,.int .u64 0,.int .u64 0,.int .u64 0,.int .u64 0,.int .u64 0,.int .u64 0,.int .u64 0,.int .u64 0,.int .u64 0,.int .u64 0,.int .u64 0,.int .u64 0,.int .u64 0,.int .u64 0,.int .u64 0,.int .u64 0,.int .u64 0,.int .u64 0,.int .u64 0,.int .u64 0]) 115)).setRow w1.heap.size (ar .u64 64 (tabF q))) (.cells (#[.int .u64 0,.int .u64 0,.int .u64 0,.int .u64 0]) 24);rwa [hsz1]at this)
 have HV3:=Lib.hid (show(((w1.alloc (.cells (#[.int .u64 0,.int .u64 0,.int .u64 0,.int .u64 0,.int .u64 0,.int .u64 0,.int .u64 0,.int .u64 0,.int .u64 0,.int .u64 0,.int .u64 0,.int .u64 0,.int .u64 0,.int .u64 0,.int .u64 0,.int .u64 0,.int .u64 0,.int .u64 0,.int .u64 0,.int .u64 0,.int .u64 0,.int .u64 0,.int .u64 0,.int .u64 0,.int .u64 0,.int .u64 0,.int .u64 0,.int .u64 0,.int .u64 0,.int .u64 0,.int .u64 0,.int .u64 0,.int .u64 0,.int .u64 0,.int .u64 0,.int .u64 0,.int .u64 0,.int .u64 0,.int .u64 0,.int .u64 0,.int .u64 0,.int .u64 0,.int .u64 0,.int .u64 0,.int .u64 0,.int .u64 0,.int .u64 0,.int .u64 0,.int .u64 0,.int .u64 0,.int .u64 0,.int .u64 0,.int .u64 0,.int .u64 0,.int .u64 0,.int .u64 0,.int .u64 0,.int .u64 0,.int .u64 0,.int .u64 0,.int .u64 0,.int .u64 0,.int .u64 0,.int .u64 0]) 115)).setRow w1.heap.size (ar .u64 64 (tabF q))).alloc (.cells (#[.int .u64 0,.int .u64 0,.int .u64 0,.int .u64 0]) 24)).heap[w1.heap.size]?=some (.cells (ar .u64 64 (tabF q)) 115 (0,0)) from by
  have h:=((Below.refl (w1.heap.size+1) ((w1.alloc (.cells (#[.int .u64 0,.int .u64 0,.int .u64 0,.int .u64 0,.int .u64 0,.int .u64 0,.int .u64 0,.int .u64 0,.int .u64 0,.int .u64 0,.int .u64 0,.int .u64 0,.int .u64 0,.int .u64 0,.int .u64 0,.int .u64 0,.int .u64 0,.int .u64 0,.int .u64 0,.int .u64 0,.int .u64 0,.int .u64 0,.int .u64 0,.int .u64 0,.int .u64 0,.int .u64 0,.int .u64 0,.int .u64 0,.int .u64 0,.int .u64 0,.int .u64 0,.int .u64 0,.int .u64 0,.int .u64 0,.int .u64 0,.int .u64 0,.int .u64 0,.int .u64 0,.int .u64 0,.int .u64 0,.int .u64 0,.int .u64 0,.int .u64 0,.int .u64 0,.int .u64 0,.int .u64 0,.int .u64 0,.int .u64 0,.int .u64 0,.int .u64 0,.int .u64 0,.int .u64 0,.int .u64 0,.int .u64 0,.int .u64 0,.int .u64 0,.int .u64 0,.int .u64 0,.int .u64 0,.int .u64 0,.int .u64 0,.int .u64 0,.int .u64 0,.int .u64 0]) 115)).setRow w1.heap.size (ar .u64 64 (tabF q)))).alloc (by rw[hsz1];omega) (.cells (#[.int .u64 0,.int .u64 0,.int .u64 0,.int .u64 0]) 24)).block w1.heap.size (by omega);exact h.trans HV1.out)
 clear hb1 HC2 HPW hsz1
 go_upto_region 3 with(first | (refine wpList_store_row rfl 115 _ _ rfl w1.heap.size (ar .u64 64 (tabF q)) rfl rfl 115 (#[.int .u64 0,.int .u64 0,.int .u64 0,.int .u64 0,.int .u64 0,.int .u64 0,.int .u64 0,.int .u64 0,.int .u64 0,.int .u64 0,.int .u64 0,.int .u64 0,.int .u64 0,.int .u64 0,.int .u64 0,.int .u64 0,.int .u64 0,.int .u64 0,.int .u64 0,.int .u64 0,.int .u64 0,.int .u64 0,.int .u64 0,.int .u64 0,.int .u64 0,.int .u64 0,.int .u64 0,.int .u64 0,.int .u64 0,.int .u64 0,.int .u64 0,.int .u64 0,.int .u64 0,.int .u64 0,.int .u64 0,.int .u64 0,.int .u64 0,.int .u64 0,.int .u64 0,.int .u64 0,.int .u64 0,.int .u64 0,.int .u64 0,.int .u64 0,.int .u64 0,.int .u64 0,.int .u64 0,.int .u64 0,.int .u64 0,.int .u64 0,.int .u64 0,.int .u64 0,.int .u64 0,.int .u64 0,.int .u64 0,.int .u64 0,.int .u64 0,.int .u64 0,.int .u64 0,.int .u64 0,.int .u64 0,.int .u64 0,.int .u64 0,.int .u64 0]) (by exact HV0.out) (by rw[ar_size];exact info64) (by rw[ar_size];rfl) (ar_one _ _ _) ?_) | (refine wpList_ld rfl 24 _ rfl (.pointer (some ⟨w1.heap.size,0,none⟩)) (.agg (pw (q 0))) rfl (ld_tab (by first | exact HV1.out | exact HV3.out) 0 (by omega)) ?_) | (refine wpList_store_row rfl 24 _ _ rfl (w1.heap.size+1) (pw (q 0)) rfl rfl 24 (#[.int .u64 0,.int .u64 0,.int .u64 0,.int .u64 0]) (by exact HV2.out) (by rw[pw_size];exact infoW4) (by rw[pw_size];rfl) (pw_one _) ?_))
 obtain⟨w2,hw2⟩:∃ w2,(((w1.alloc (.cells (#[.int .u64 0,.int .u64 0,.int .u64 0,.int .u64 0,.int .u64 0,.int .u64 0,.int .u64 0,.int .u64 0,.int .u64 0,.int .u64 0,.int .u64 0,.int .u64 0,.int .u64 0,.int .u64 0,.int .u64 0,.int .u64 0,.int .u64 0,.int .u64 0,.int .u64 0,.int .u64 0,.int .u64 0,.int .u64 0,.int .u64 0,.int .u64 0,.int .u64 0,.int .u64 0,.int .u64 0,.int .u64 0,.int .u64 0,.int .u64 0,.int .u64 0,.int .u64 0,.int .u64 0,.int .u64 0,.int .u64 0,.int .u64 0,.int .u64 0,.int .u64 0,.int .u64 0,.int .u64 0,.int .u64 0,.int .u64 0,.int .u64 0,.int .u64 0,.int .u64 0,.int .u64 0,.int .u64 0,.int .u64 0,.int .u64 0,.int .u64 0,.int .u64 0,.int .u64 0,.int .u64 0,.int .u64 0,.int .u64 0,.int .u64 0,.int .u64 0,.int .u64 0,.int .u64 0,.int .u64 0,.int .u64 0,.int .u64 0,.int .u64 0,.int .u64 0]) 115)).setRow w1.heap.size (ar .u64 64 (tabF q))).alloc (.cells (#[.int .u64 0,.int .u64 0,.int .u64 0,.int .u64 0]) 24)).setRow (w1.heap.size+1) (pw (q 0))=w2:=⟨_,rfl⟩
 rw[hw2]at HX |-
 obtain⟨V,hV⟩:∃ V,w1.heap.size=V:=⟨_,rfl⟩
 rw[hV]at HX |-
 obtain⟨O,hO⟩:∃ O,V+1=O:=⟨_,rfl⟩
 rw[hO]at HX |-
 rw[HQ.out 0 (by omega)]at HX |-
 clear hw2 hV hO HV0 HV1 HV2 HV3
 go_wp2_with (refine wpList_ld rfl 24 _ rfl (.pointer (some ⟨w.heap.size+1,0,none⟩)) (.agg (pw e)) rfl (ld_pw (by exact HX.out.r1)) ?_)
 refine(HLN.out _).mono ?_;rintro e' w3 ⟨rfl,hb3⟩;have H3:=Lib.hid (show CX w F m a e V O q (pwq m a (e / 16^L)) w3 from by rw[HL0.out];exact HX.out.below hb3);clear HX hb3 HLN
 go_wp2_with fail
 clear e1 e2 e3 e4 e5 e6 hn30
 go_loopw [9] (fun iv wr=>∃ j:Nat,j<=64/\iv=.int .i64 ((j:Int) - 1)/\Hid (CX w F m a e V O q (pwq m a (e / 16^j)) wr)) (fun iv _=>(intOf iv+1).toNat)
 case atStart=>exact⟨L,HLL.out,rfl,H3⟩
 case round =>
  obtain⟨j,hj,rfl,H⟩:=hrel;clear H3;by_cases h0:1<=j
  ·obtain⟨i,rfl⟩:∃ i,j=i+1:=⟨j - 1,by omega⟩
   rw[show(((i+1:Nat):Int) - 1)=(i:Int) by omega];have hi0:(0:Int)<=i:=by omega
   have HD:=Lib.hid (dig_next e i);have HDO:=Lib.hid (dig_of e i HO.out.2.2.2);obtain⟨d,hd⟩:∃ d,e / 16^(i+1)=d:=⟨_,rfl⟩
   rw[hd]at HD H;have H4:=Lib.hid (show CX w F m a e V O q (pwq m a (d*2^0)) wr from by rw[Nat.pow_zero,Nat.mul_one];exact H.out);have HI:=Lib.hid hj;clear H hd hj h0
   go_wp2_with fail
   go_loopw [25] (fun iv wr=>∃ k:Nat,k<=4/\iv=.int .i64 k/\Hid (CX w F m a e V O q (pwq m a (d*2^k)) wr)) (fun iv _=>4 - (intOf iv).toNat)
   case atStart=>exact⟨0,by omega,rfl,H4⟩
   case round =>
    obtain⟨k,hk,rfl,H⟩:=hrel;clear H4;have hk0:(0:Int)<=k:=by omega
    by_cases hlt:k<4
    ·have hlt':(k:Int)<4:=by omega
     have hxl:=pwq_lt HO.out.2.1 a (d*2^k);have HT:=Lib.hid (CX.times (w:=w) (F:=F) (a:=a) (e:=e) (V:=V) (O:=O) (q:=q) (x0:=pwq m a (d*2^k)) hxl hxl HO.out.2.2.1 ((mnt_pwq HO.out.1 HO.out.2.1 a (d*2^k) (d*2^k)).trans (by rw[show d*2^k+d*2^k=d*2^(k+1) by rw[Nat.pow_succ,<- Nat.mul_assoc];omega])));obtain⟨x,hx⟩:∃ x,pwq m a (d*2^k)=x:=⟨_,rfl⟩
     obtain⟨y,hy⟩:∃ y,pwq m a (d*2^(k+1))=y:=⟨_,rfl⟩
     rw[hx]at H HT;rw[hy]at HT;have HY:=Lib.hid hy;have HK:=Lib.hid hlt;clear hx hy hxl hk hlt
     go_wp2_with (refine wpList_ld rfl 24 _ rfl (.pointer (some ⟨O,0,none⟩)) (.agg (pw x)) rfl (ld_pw (by exact H.out.rO)) ?_)
     refine(HT.out _ H.out).mono ?_;rintro e' w4 ⟨rfl,c4⟩;have H5:=Lib.hid c4;clear c4 H HT
     go_wp2_with (refine wpList_store_row rfl 24 _ _ rfl (O) (pw y) rfl rfl 24 (pw x) (by exact H5.out.rO) (by rw[pw_size];exact infoW4) (by first | rfl | (rw[pw_size];rfl) | (rw[pw_size,pw_size])) (pw_one _) ?_)
     go_roundw
     case rel=>exact⟨k+1,by have:=HK.out;omega,by go_num,Lib.hid (by rw[HY.out];exact H5.out.put y)⟩
     case measure=>have:=HK.out;simp[intOf];omega
    ·obtain rfl:k=4:=by omega
     have hlt':¬((4:Nat):Int)<4:=by omega
     obtain⟨p,hp⟩:∃ p:Nat,i / 16=p:=⟨_,rfl⟩
     obtain⟨r,hr⟩:∃ r:Nat,i%16=r:=⟨_,rfl⟩
     obtain⟨s,hs⟩:∃ s:Nat,r*4=s:=⟨_,rfl⟩
     have hpl:p<4:=by have:=HI.out;omega
     rw[hp,hr,hs]at HDO;obtain⟨z,hz⟩:∃ z,pN e p=z:=⟨_,rfl⟩
     have hzl:z<18446744073709551616:=by rw[<- hz];exact pN_lt _ _
     rw[hz]at HDO;have hcz:wr.cell? ⟨w.heap.size+1,p,none⟩=some (.int .u64 (z:Nat)):=(cell_of_row _ _ p _ _ _ H.out.r1).trans (by rw[pw_ar,ar_at _ _ _ _ hpl,hz]);obtain⟨g,hg⟩:∃ g,e / 16^i%16=g:=⟨_,rfl⟩
     have hg16:g<16:=by rw[<- hg];exact Nat.mod_lt _ (by omega)
     have hzs:(z:Int) / 2^s=((z / 2^s:Nat):Int):=by push_cast;rfl
     have hzsl:z / 2^s<18446744073709551616:=Nat.lt_of_le_of_lt (Nat.div_le_self _ _) hzl;have han:=and_15 (z / 2^s) hzsl;rw[HDO.out,hg]at han;rw[hg]at HD;have f1:(i:Int).tdiv 16=(p:Int):=by rw[Int.tdiv_eq_ediv_of_nonneg hi0];omega
     have f2:(i:Int).tmod 16=(r:Int):=by rw[Int.tmod_eq_emod_of_nonneg hi0];omega
     have f1':(i:Int) / 16=(p:Int):=by omega
     have f2':(i:Int)%16=(r:Int):=by omega
     have f3:(r:Int)*4=(s:Int):=by omega
     have f4:IntKind.i64.wrap (p:Int)=(p:Int):=by rw[IntKind.wrap_i64];omega
     have f5:IntKind.i64.wrap (r:Int)=(r:Int):=by rw[IntKind.wrap_i64];omega
     have f6:IntKind.i64.wrap (s:Int)=(s:Int):=by rw[IntKind.wrap_i64];omega
     have hp0:(0:Int)<=p:=by omega
     have hp4:(p:Int)<4:=by omega
     have hs0:(0:Int)<=s:=by omega
     have hs64:(s:Int)<64:=by omega
     have hz0:(0:Int)<=z:=by omega
     obtain⟨zs,hzse⟩:∃ zs,z / 2^s=zs:=⟨_,rfl⟩
     rw[hzse]at hzs han hzsl;have hzz:IntKind.u64.wrap ((z:Int) / 2^s)=(zs:Int):=by rw[hzs,IntKind.wrap_u64];omega
     have HN1:=Lib.hid (And.intro HI.out hg16);clear hp hr hs hz hg hzse hzsl hpl HDO hzl hg16;simp only[Int.cast_ofNat_Int]
     go_wp2_with fail
     have HQG:=Lib.hid (HQ.out g HN1.out.2);have hxl:=pwq_lt HO.out.2.1 a (d*2^4);have hyl:=pwq_lt HO.out.2.1 a g;have HT:=Lib.hid (CX.times (w:=w) (F:=F) (a:=a) (e:=e) (V:=V) (O:=O) (q:=q) (x0:=pwq m a (d*2^4)) hxl hyl HO.out.2.2.1 ((mnt_pwq HO.out.1 HO.out.2.1 a (d*2^4) g).trans (by rw[show d*2^4+g=e / 16^i from HD.out])));obtain⟨x,hx⟩:∃ x,pwq m a (d*2^4)=x:=⟨_,rfl⟩
     obtain⟨x2,hx2⟩:∃ x2,pwq m a g=x2:=⟨_,rfl⟩
     obtain⟨y,hy⟩:∃ y,pwq m a (e / 16^i)=y:=⟨_,rfl⟩
     rw[hx]at H HT;rw[hx2]at HT HQG;rw[hy]at HT;have HY:=Lib.hid hy;clear hx hx2 hy hxl hyl;refine region_quiet_tail 6 (CX w F m a e V O q x) (by kernel_rfl) (by kernel_rfl) (H.out.drew) ?_;simp only[List.take_succ_cons,List.take_zero,List.drop_succ_cons,List.drop_zero]
     with_reducible refine q_val (.pointer (some ⟨F,0,none⟩)) (by kernel_rfl) (fun _ _=>by kernel_rfl) ?_
     with_reducible refine q_load 24 (.tmp 8) (.pointer (some ⟨O,0,none⟩)) (.agg (pw x)) rfl (by kernel_rfl) (by kernel_rfl) (fun _ c=>ld_pw c.rO) ?_
     with_reducible refine q_val (.int .u64 (g:Nat)) (by kernel_rfl) (fun _ _=>by kernel_rfl) ?_
     with_reducible refine q_sem2 (Instr.indexAt 115 (.pointer (some ⟨V,0,none⟩)) (.int .u64 (g:Nat))) (.pointer (some ⟨V,g*4,none⟩)) (by kernel_rfl) (by kernel_rfl) (fun w' _=>ix_tabu V g HN1.out.2 w') ?_
     with_reducible refine q_load 24 (.tmp 44) (.pointer (some ⟨V,g*4,none⟩)) (.agg (pw x2)) rfl (by kernel_rfl) (by kernel_rfl) (fun _ c=>(ld_tab c.rV g HN1.out.2).trans (by rw[HQG.out])) ?_
     with_reducible refine q_call 87 #[.pointer (some ⟨F,0,none⟩),.agg (pw x),.agg (pw x2)] (.agg (pw y)) (by kernel_rfl) (fun _=>by kernel_rfl) (HT.out) ?_
     with_reducible refine wpQuiet_nil ?_
     intro wx hC;have HG:=Lib.hid hC;clear hC H HT;simp only[Act.put,List.setIfInBounds_toArray,List.set_cons_succ,List.set_cons_zero]
     go_wp2_with (refine wpList_store_row rfl 24 _ _ rfl (O) (pw y) rfl rfl 24 (pw x) (by exact HG.out.rO) (by rw[pw_size];exact infoW4) (by first | rfl | (rw[pw_size];rfl) | (rw[pw_size,pw_size])) (pw_one _) ?_)
     go_roundw
     case rel=>exact⟨i,by have:=HN1.out.1;omega,by go_num,Lib.hid (by rw[HY.out];exact HG.out.put y)⟩
     case measure=>first | (simp[intOf];done) | (simp[intOf];omega)
  ·obtain rfl:j=0:=by omega
   have hxl:=pwq_lt HO.out.2.1 a e;have HT:=Lib.hid (CX.times (w:=w) (F:=F) (a:=a) (e:=e) (V:=V) (O:=O) (q:=q) (x0:=pwq m a e) hxl HO.out.2.1 HO.out.2.2.1 (pwq_out HO.out.1 HO.out.2.1 a e));have H5:=Lib.hid (show CX w F m a e V O q (pwq m a e) wr from by have h:=H.out;rwa [Nat.pow_zero,Nat.div_one]at h);obtain⟨x,hx⟩:∃ x,pwq m a e=x:=⟨_,rfl⟩
   obtain⟨y,hy⟩:∃ y,a^e%m=y:=⟨_,rfl⟩
   rw[hx]at H5 HT;rw[hy]at HT;have HY:=Lib.hid hy;clear hx hy hxl H hj h0;rw[show(((0:Nat):Int) - 1)=-1 from rfl]
   go_wp2_with fail
   refine region_quiet_tail 4 (CX w F m a e V O q x) (by kernel_rfl) (by kernel_rfl) (H5.out.drew) ?_;simp only[List.take_succ_cons,List.take_zero,List.drop_succ_cons,List.drop_zero]
   with_reducible refine q_val (.pointer (some ⟨F,0,none⟩)) (by kernel_rfl) (fun _ _=>by kernel_rfl) ?_
   with_reducible refine q_load 24 (.tmp 8) (.pointer (some ⟨O,0,none⟩)) (.agg (pw x)) rfl (by kernel_rfl) (by kernel_rfl) (fun _ c=>ld_pw c.rO) ?_
   with_reducible refine q_call 70 #[.int .u64 (1:Nat)] (.agg (pw 1)) (by kernel_rfl) (fun _=>by kernel_rfl) (fun wx c=>(of_wv 1 (by omega) wx).mono fun e w' hh=>⟨hh.1,c.below hh.2⟩) ?_
   with_reducible refine q_call 87 #[.pointer (some ⟨F,0,none⟩),.agg (pw x),.agg (pw 1)] (.agg (pw y)) (by kernel_rfl) (fun _=>by kernel_rfl) (HT.out) ?_
   with_reducible refine wpQuiet_nil ?_
   intro wx hC;have HG:=Lib.hid hC;clear hC H5 HT;simp only[Act.put,List.setIfInBounds_toArray,List.set_cons_succ,List.set_cons_zero]
   go_wp2_with (refine wpList_store_row rfl 24 _ _ rfl (w.heap.size+1+1) (pw y) rfl rfl 24 (#[.int .u64 0,.int .u64 0,.int .u64 0,.int .u64 0]) (by exact HG.out.r2) (by rw[pw_size];exact infoW4) (by first | rfl | (rw[pw_size];rfl) | (rw[pw_size,pw_size])) (pw_one _) ?_)
   (try simp only[Act.put])
   refine bodyPost_ret (v:=.agg (pw y)) (results_cell_row (p:=6) rfl _ _ (w.heap.size+1+1) 24 (pw y) (0,0) _ rfl (setRow_heap _ _ _ _ _ _ (by exact HG.out.r2)) Tryz.underlying24 rfl (by rw[pw_size];exact infoW4)) rfl ⟨by rw[HY.out],below_setRow HG.out.old (by omega) _⟩
end Go.Proofs.YtfmpjjhdocejiaaGreat
