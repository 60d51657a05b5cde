/- What a walk comes to, in short: conditions that hold of themselves left out, loops by their heads. No program is named here. (Cut to what is reached, written closely: SyK · SyF · SyW.) -/
import Derived.Test.YtadfjjfklihaaaaGreatQ21
import Derived.Deep.LoopGhost
set_option linter.all false
set_option maxRecDepth 100000
set_option maxHeartbeats 8000000
namespace Go.Proofs.YtadfjjfklihaaaaGreat.Sy
open Go.RowKit
section
variable {E:Env} {γ0 γ γs δ:Pl} {N nx:Nat} {w0 ws w w' wx:World} {s:St} {a a0:Act} {o:Oper} {l:List Oper} {es:List Ef} {D D':Nat->Bool} {ps:List Ob} {Q:Post} {X:Exit->Act->World->Prop} {k:St->Tr} {lk:Nat->Option SV} {M:Rows} {e:Ef} {p:List Ob}
theorem mkEf_s{d:Nat}{op:Op}(h:mkEf E N nx d lk M op=some (e,p)):∃ y,e.d=some (d,y):=by
 unfold mkEf at h
 split at h
 ·split at h
  ·cases h;exact⟨_,rfl⟩
  ·cases h
 ·cases h
theorem eff_s(h:effGo E N nx lk M o=some (e,p)):∀ t,o.dst=some t->∃ y,e.d=some (t,y):=by
 intro t hd;unfold effGo at h;rw[hd]at h
 split at h
 ·rename_i e1;cases e1
 ·rename_i e1
  cases e1
  split at h
  ·split at h
   ·cases h;exact⟨_,rfl⟩
   ·cases h
  ·cases h
 ·rename_i e1
  cases e1
  split at h
  ·split at h
   ·cases h;exact⟨_,rfl⟩
   ·cases h
  ·cases h
 ·rename_i e1
  cases e1
  split at h
  ·split at h
   ·split at h
    ·cases h;exact⟨_,rfl⟩
    ·cases h
   ·cases h
  ·cases h
 ·rename_i e1
  cases e1
  split at h
  ·split at h
   ·split at h
    ·split at h
     ·cases h;exact⟨_,rfl⟩
     ·cases h
    ·cases h
   ·cases h
  ·split at h
   ·split at h
    ·cases h;exact⟨_,rfl⟩
    ·cases h
   ·exact mkEf_s h
 ·rename_i e1 _ _ _ _
  cases e1
  split at h
  ·split at h
   ·cases h;exact⟨_,rfl⟩
   ·cases h
  ·exact mkEf_s h
 ·cases h
theorem effAt_s{gs:Option SV}(h:effAt E N nx gs lk M o=some (e,p)):∀ t,o.dst=some t->∃ y,e.d=some (t,y):=by
 intro t hd;unfold effAt at h
 split at h
 ·exact eff_s h t hd
 ·split at h
  ·split at h
   ·exact eff_s h t hd
   ·rw[hd]at h
    dsimp only at h
    split at h
    ·cases h;exact⟨_,rfl⟩
    ·cases h
  ·split at h
   ·rename_i _ d x p' _ hx
    split at h
    ·cases h
     have:=(eff_d hx d _ rfl).1;rw[hd]at this;cases this;exact⟨_,rfl⟩
    ·cases h
   ·cases h
  ·cases h
def keyed(A:List (Nat × Option SV))(t:Nat):Bool:=A.any fun p=>p.1 == t
theorem look_append:∀ {A B:List (Nat × Option SV)} {t:Nat},look (A++B) t=if keyed A t=true then look A t else look B t
 | [],_,_=>rfl
 | p::A,B,t=>by
  have ih:=look_append (A:=A) (B:=B) (t:=t);show(if p.1=t then p.2 else look (A++B) t)=_;unfold keyed at ih |-
  rw[List.any_cons];by_cases h:p.1=t
  ·have hb:(p.1 == t)=true:=beq_iff_eq.2 h
   rw[if_pos h,hb,Bool.true_or,if_pos rfl];show _=if p.1=t then p.2 else look A t
   rw[if_pos h]
  ·have hb:(p.1 == t)=false:=beq_eq_false_iff_ne.2 h
   rw[if_neg h,hb,Bool.false_or,ih];show _=if _ then (if p.1=t then p.2 else look A t)else _
   rw[if_neg h]
theorem slots_look:∀ {es:List Ef} {t:Nat} {x:SV},look (slotsE es) t=some x->∃(i:Nat) (e:Ef),es[i]?=some e/\e.d=some (t,some x)
 | [],_,_,h=>by cases h
 | e::es,t,x,h=>by
  unfold slotsE at h;cases hd:e.d with
  | none =>
   rw[hd]at h;obtain⟨i,f,h1,h2⟩:=slots_look h;exact⟨i+1,f,by simpa using h1,h2⟩
  | some q =>
   rw[hd]at h;have h:(if q.1=t then q.2 else look (slotsE es) t)=some x:=h
   split at h
   ·rename_i hq
    exact⟨0,e,rfl,by rw[hd,<- hq,<- h]⟩
   ·obtain⟨i,f,h1,h2⟩:=slots_look h
    exact⟨i+1,f,by simpa using h1,h2⟩
theorem slots_key:∀ {es:List Ef} {t:Nat} {i:Nat} {e:Ef} {y:Option SV},es[i]?=some e->e.d=some (t,y)->keyed (slotsE es) t=true
 | [],_,_,_,_,h,_=>by cases h
 | f::es,t,0,e,y,h,hd=>by
  cases h;unfold slotsE keyed;rw[hd,List.any_cons];simp
 | f::es,t,i+1,e,y,h,hd=>by
  have:=slots_key (es:=es) (i:=i) (by simpa using h) hd;unfold slotsE
  split
  ·unfold keyed at this |-
   rw[List.any_cons,this,Bool.or_true]
  ·exact this
theorem nodup_ids:∀ {R:Rows},nodupB (R.map (·.1))=true->R.Pairwise fun p q=>p.1≠q.1
 | [],_=>.nil
 | r::R,h=>by
  rw[List.map_cons]at h;unfold nodupB at h;rw[Bool.and_eq_true]at h;refine List.pairwise_cons.2 ⟨fun q hq e=>?_,nodup_ids h.2⟩;have h1:=h.1;have:(R.map (·.1)).contains r.1=true:=by
   rw[List.contains_iff_mem,e];exact List.mem_map.2 ⟨_,hq,rfl⟩
  rw[this]at h1;cases h1
theorem RelD.all{ms:List (Nat × Nat)}(hlen:es.length=l.length)(hpass:∀(i:Nat) o,l[i]?=some o->∃ e,es[i]?=some e/\PassAt E N l ms s es ps i o e)(R0:Rel E γ0 γs N w0 s a0 ws)(hn:nodupB ((rowsD (fun _=>true) es s.M).map (·.1))=true)
  (h:RelD E γ0 γs γ N w0 s l es a0 D a w) (hD:∀ i,i<l.length->D i=true):Rel E γ0 γ N w0 (afterD es s) a w:=by
 have lt:∀ {i:Nat} {f:Ef},es[i]?=some f->i<es.length:=fun hf=>(List.getElem?_eq_some_iff.1 hf).1;have dn:∀ {i:Nat} {f:Ef},es[i]?=some f->D i=true:=fun hf=>hD _ (hlen ▸ lt hf);have inD:∀ r∈rowsD (fun _=>true) es s.M,r∈rowsD D es s.M:=fun r hr=>by
  obtain⟨c,hc,he⟩:=rows_mem.1 hr;refine rows_mem.2 ⟨c,?_,?_⟩
  ·rcases List.mem_append.1 hc with hc | hc
   ·obtain⟨j,f,h1,_,h3⟩:=made_mem.1 hc
    exact List.mem_append_left _ (made_mem.2 ⟨j,f,h1,by rw[Nat.zero_add];exact dn h1,h3⟩)
   ·exact List.mem_append_right _ hc
  ·rw[he]
   exact cur_ext fun j f q h1 _ _=>by rw[Nat.zero_add];exact(dn h1).symm
 have oldV:∀ {x:SV},x.lt s.n=true->x.val γs=x.val γ:=fun {x} hx=>(SV.lt_same (γ:=γs) (δ:=γ) (fun g hg=>(h.old g hg).symm) hx).2.2;refine⟨fun g hg=>(h.old g (Nat.lt_of_lt_of_le hg R0.base)).trans (R0.ag g hg),Nat.le_trans R0.base (Nat.le_add_right _ _),h.z,h.d,fun t x hx=>?_,⟨h.b,fun p hp=>?_,?_⟩,fun r hr=>?_⟩
 ·have hx:look (slotsE es++s.S) t=some x:=hx
  rw[look_append]at hx
  split at hx
  ·obtain⟨i,f,h1,h2⟩:=slots_look hx
   have:=h.sl i f t x h1 (dn h1) h2;exact⟨this.1,this.2.1,SV.lt_mono (show s.n+8*(i+1)<=s.n+8*es.length by have:=lt h1;omega) this.2.2⟩
  ·rename_i hk
   have:=R0.k t x hx;refine⟨?_,this.2.1,SV.lt_mono (Nat.le_add_right _ _) this.2.2⟩;rw[h.kp t fun i o hi _ hd=>hk ?_,this.1,oldV this.2.2];obtain⟨f,h1,⟨p',h2,_⟩,_⟩:=hpass i o hi;obtain⟨y,hy⟩:=effAt_s h2 t hd;exact slots_key h1 hy
 ·obtain⟨r,hr,rfl⟩:=List.mem_map.1 hp
  exact h.rows r (inD r hr)
 ·exact List.pairwise_map.2 ((nodup_ids hn).imp_of_mem fun {p q} hp hq hne=>h.nd p (inD p hp) q (inD q hq) hne)
 ·have hr:r∈rowsD (fun _=>true) es s.M:=hr
  show r.2.1.ok/\r.2.1.lt (s.n+8*es.length)=true/\r.1<s.n+8*es.length;obtain⟨c,hc,he⟩:=rows_mem.1 hr;have hcc:c.ok/\c.lt (s.n+8*es.length)=true/\r.1<s.n+8*es.length:=by
   rcases List.mem_append.1 hc with hc | hc
   ·obtain⟨j,f,h1,_,h3⟩:=made_mem.1 hc
    have:=h.rk j f h1 (dn h1) _ h3;have hj:=lt h1;exact⟨this.1,SV.lt_mono (by omega) this.2.1,Nat.lt_of_lt_of_le this.2.2.2 (by omega)⟩
   ·have:=R0.m _ hc
    exact⟨this.1,SV.lt_mono (Nat.le_add_right _ _) this.2.1,Nat.lt_of_lt_of_le this.2.2 (Nat.le_add_right _ _)⟩
  rcases cur_mem (D:=fun _=>true) (g:=r.1) (es:=es) (i:=0) (c:=c)with h1 | ⟨j,f,h1,_,h3⟩
  ·rw[he,h1]
   exact hcc
  ·rw[<- he]at h3
   have:=h.sk j f _ _ h1 (dn h1) h3;have hj:=lt h1;exact⟨this.1,SV.lt_mono (by omega) this.2,hcc.2.2⟩
theorem drawAny{ms:List (Nat × Nat)}(G:E.Good γ0 w0)(hms:ms=masksA l 0 [])(hdist:distinctB l=true)(hr:rankB l.toArray (fun i=>i)=true)(hp:All ps)(hlen:es.length=l.length)(hpass:∀(i:Nat) o,l[i]?=some o->∃ e,es[i]?=some e/\PassAt E N l ms s es ps i o e)
  (R0:Rel E γ0 γs N w0 s a0 ws) (fin:∀ γ D a w,RelD E γ0 γs γ N w0 s l es a0 D a w->(∀ i,i<l.length->D i=true)->X .normal a w) :
  ∀(fuel:Nat) (listed:Array Bool) (γ:Pl) (a:Act) (w:World),listed.size=l.length->listed.toList.count false=fuel->(∀(i:Nat) o,l[i]?=some o->listed.getD i false=true->∀ e∈o.after,Region.binds .any e=true->listed.getD e.on false=true)->RelD E γ0 γs γ N w0 s l es a0 (fun i=>listed.getD i false) a w->wpAny E.P .any l.toArray X fuel listed a w:=by
 intro fuel
 induction fuel with
 | zero =>
  intro listed γ a w hsz hc hcl h;have hno:false ∉ listed.toList:=List.count_eq_zero.1 (by omega);have hall:∀ i,i<l.length->listed.getD i false=true:=fun i hi=>by
   have hlt:i<listed.size:=by omega
   have hm:listed[i]∈listed.toList:=by simp
   simp only[Array.getD_eq_getD_getElem?,hlt,Array.getElem?_eq_getElem,Option.getD_some];cases h:listed[i]with
   | true=>rfl
   | false=>rw[h]at hm;exact absurd hm hno
  refine⟨List.eq_nil_iff_forall_not_mem.2 fun i hi=>?_,fin _ _ a w h hall⟩;obtain⟨h0,o,ho,_⟩:=mem_ready.1 hi;have hil:i<l.length:=by
   have:=(Array.getElem?_eq_some_iff.1 ho).1;simpa using this
  have:=hall i hil;rw[getD_both h0]at this;cases this
 | succ fuel ih =>
  intro listed γ a w hsz hc hcl h;refine⟨fun hrd=>fin _ _ a w h ?_,fun i hi=>?_⟩
  ·have key:∀ r i,i<r->i<l.length->listed.getD i false=true:=by
    intro r
    induction r with
    | zero=>intro i h;omega
    | succ r ihr =>
     intro i hri hi;cases h:listed.getD i false with
     | true=>rfl
     | false =>
      have ho:l.toArray[i]?=some l[i]:=by simp[hi]
      have:i∈Region.ready .any l.toArray listed:=mem_ready.2 ⟨by simpa[show i<listed.size by omega]using h,l[i],ho,fun e he hb=>by
       have hl:=hr;unfold rankB at hl;rw[List.all_eq_true]at hl;have:=hl i (by simpa using hi);rw[ho]at this;simp only[Array.all_eq_true_iff_forall_mem]at this;have hlt:=this e he;rw[hb]at hlt;simp at hlt;exact ihr e.on (by omega) (by omega)⟩
      rw[hrd]at this;cases this
   exact fun i hi=>key (i+1) i (Nat.lt_succ_self _) hi
  ·obtain⟨h0,o,ho,hal⟩:=mem_ready.1 hi
   have hl':l[i]?=some o:=by simpa using ho
   have hil:i<l.length:=(List.getElem?_eq_some_iff.1 hl').1;have hD:listed.getD i false=false:=getD_both h0;unfold wpOp;rw[ho];dsimp only;have st:=stepD (X:=X) (D:=fun i=>listed.getD i false) (D':=fun j=>(listed.setIfInBounds i true).getD j false) (K:=wpAny E.P .any l.toArray X fuel (listed.setIfInBounds i true)) G hms hdist hr hp hlen hpass R0 hcl hl' hD (fun e he hb=>by simpa using hal e he hb)
    (getD_set_same (by omega)) (fun j hj=>getD_set_ne false (Ne.symm hj)) h fun γ' v w' h'=>ih _ γ' _ _ (by simpa using hsz) ?_ ?_ h'
   ·split
    ·rename_i hw
     rw[if_pos hw]at st;exact .inl st
    ·rename_i hw
     rw[if_neg hw]at st;exact st
   ·have hlt:i<listed.size:=by omega
    have e0:listed[i]=false:=by simpa[hlt]using h0
    rw[Array.toList_setIfInBounds,List.count_set (by simpa using hlt)];have:listed.toList[i]'(by simpa using hlt)=false:=by simpa using e0
    simp only[this];simp;have hpos:0<listed.toList.count false:=List.count_pos_iff.2 (by rw[<- e0];simp);simp at hpos;simp at hc;omega
   ·intro j oj hj hd e he hb
    by_cases q:i=e.on
    ·rw[<- q];exact getD_set_same (by omega)
    ·rw[getD_set_ne false q]
     by_cases ej:i=j
     ·subst ej
      rw[hl']at hj;cases hj;exact by simpa using hal e he hb
     ·rw[getD_set_ne false ej]at hd
      exact hcl j oj hj hd e he hb
theorem drawX_ok(G:E.Good γ0 w0)(mx:E.P.follows .mixedOrders=true){id:Nat}(hx:(drawX E N l s k).wp E.base Q)(R:Rel E γ0 γs N w0 s a0 w)
  (cont:∀ γ s' a' w',Rel E γ0 γ N w0 s' a' w'->(k s').wp E.base Q->X .normal a' w'):(Code.region id l.toArray true).wp E.P X a0 w:=by
 unfold drawX at hx;rw[masksK_eq]at hx
 split at hx
 ·rename_i es ps hX
  split at hx
  ·rename_i hc
   obtain⟨c1,c2,c4⟩:=hc;obtain⟨hp,hk⟩:=needs_wp hx;obtain⟨_,hlen,_,hpass⟩:=passX_ok hX;have hlen:es.length=l.length:=by simpa using hlen
   have hpass:∀(i:Nat) o,l[i]?=some o->∃ e,es[i]?=some e/\PassAt E N l (masksA l 0 []) s es ps i o e:=fun i o hi=>by
    have:=hpass i o hi;simpa using this
   refine wp_region_any mx (drawAny G rfl c1 c2 hp hlen hpass R (fun γ D a w h hD=>cont γ _ a w (h.all hlen hpass R c4 hD) hk) _ _ γs a0 _ (by simp) (by simp) ?_ ?_)
   ·intro i o hi hd
    rw[show(Array.replicate l.toArray.size false).getD i false=false from getD_replicate_false _ _]at hd;cases hd
   ·have nD:∀ i,(Array.replicate l.toArray.size false).getD i false=true->False:=fun i h=>by
     rw[getD_replicate_false]at h;cases h
    have R':=R.below (w':=w.drew) (Below.drew (Below.refl _ _));have inM:∀ r∈rowsD (fun i=>(Array.replicate l.toArray.size false).getD i false) es s.M,r∈s.M:=fun r hr=>by
     obtain⟨c,hc,he⟩:=rows_mem.1 hr;have e1:r.2.1=c:=by
      rw[he];rcases cur_mem (D:=fun i=>(Array.replicate l.toArray.size false).getD i false) (g:=r.1) (es:=es) (i:=0) (c:=c)with h1 | ⟨j,f,_,h2,_⟩
      ·exact h1
      ·exact(nD _ h2).elim
     have e2:r=(r.1,c,r.2.2):=by rw[<- e1]
     rw[e2];rcases List.mem_append.1 hc with hc | hc
     ·obtain⟨j,f,_,h2,_⟩:=made_mem.1 hc
      exact(nD _ h2).elim
     ·exact hc
    refine⟨fun _ _=>rfl,R.z,R.d,fun _ _=>rfl,fun i e t x _ hd=>(nD i hd).elim,fun i e _ hd=>(nD i hd).elim,fun i e g c _ hd=>(nD i hd).elim,R'.h.old,fun r hr=>?_,fun r hr q hq hne=>?_⟩
    ·exact R'.h.rows _ (List.mem_map.2 ⟨r,inM r hr,rfl⟩)
    ·have:=R.h.nd
     exact pair_all (R:=fun p q=>γs p.1≠γs q.1) (fun _ _ h=>Ne.symm h) (List.pairwise_map.1 this) r (inM r hr) q (inM q hq) fun e=>hne (by rw[e])
  ·cases hx
 ·cases hx
end
end Go.Proofs.YtadfjjfklihaaaaGreat.Sy
namespace Go.Proofs.YtadfjjfklihaaaaGreat.Sy
open Go.RowKit
def normL:List (Nat × Option SV)->List (Nat × Option SV)
 | []=>[]
 | p::l=>(p.1,p.2.map normS)::normL l
def normT(s:St):St:=⟨normL s.S,s.M,s.n⟩
def rep(f:St->(Exit->St->Tr)->Tr):Nat->St->(Exit->St->Tr)->Tr
 | 0,_,_=>.bad
 | n+1,s,k=>f s fun e s'=>match e with
  | .normal=>rep f n s' k
  | e=>k e s'
def exec(E:Env)(N:Nat)(hd:Nat->Nat):Code->Nat->Nat->St->(Exit->St->Tr)->Tr
 | .skip,_,_,s,k=>k .normal s
 | .region _ ops draw,_,_,s,k=>match draw with
  | true=>drawX E N ops.toList s (k .normal)
  | false=>seqX E N (fun j=>(ops[j]?).bind (·.dst)) ops.toList s (k .normal)
 | .seq x y,b,d,s,k=>exec E N hd x b d s fun e s'=>match e with
  | .normal=>exec E N hd y b d s' k
  | e=>k e s'
 | .cond c x y,b,d,s,k=>match opnd (look s.S) c with
  | some (.b t)=>.br t (exec E N hd x b d s k) (exec E N hd y b d s k)
  | some (.v (.bool t))=>match t with
   | true=>exec E N hd x b d s k
   | false=>exec E N hd y b d s k
  | _=>.bad
 | .block id c,_,d,s,k=>exec E N hd c id d s fun e s'=>match e with
  | .exit j=>if j=id then k .normal s' else k (.exit j) s'
  | e=>k e s'
 | .loop c,b,d,s,k=>match hd b with
  | 0=>.loop d (normT s) fun s0=>exec E N hd c b (d+1) s0 fun e s'=>match e with
   | .normal=>.cut d (normT s')
   | e=>k e s'
  | n+1=>rep (fun s k=>exec E N hd c b d s k) (n+1) s k
 | .exit id,_,_,s,k=>k (.exit id) s
 | .ret,_,_,s,k=>k .ret s
 | _,_,_,_,_=>.bad
def resX(E:Env)(s:St):ResultVar->Option SV
 | .tmp t=>look s.S t
 | .cell p T=>match look s.S p,tyIn T E.tys with
  | some (.p g o _ z),some y=>match rowIn g s.M with
   | some r=>if z=0 then SV.sub y.m o y.sz r.1 else none
   | none=>none
  | _,_=>none
def finX(E:Env)(rs:Array ResultVar)(e:Exit)(s:St):Tr :=
 match e with
 | .normal | .ret=>match rs.toList with
  | [r]=>match resX E s r with
   | some x=>if x.lt E.base=true then .leaf x else .bad
   | none=>.bad
  | [r,q]=>match resX E s r,resX E s q with
   | some x,some y=>if x.lt E.base=true/\y.lt E.base=true then .leaf (.tu x y)else .bad
   | _,_=>.bad
  | _=>.bad
 | _=>.bad
def argsX:List SV->Nat->List (Nat × Option SV)
 | [],_=>[]
 | x::l,i=>(i,some x)::argsX l (i+1)
section
variable {E:Env} {γ0 γ:Pl} {N n:Nat} {w0 w wx:World} {s:St} {a a0:Act} {o:Oper} {Q:Post} {X:Exit->Act->World->Prop} {hd:Nat->Nat}
theorem subS_look{S:List (Nat × Option SV)}{n:Nat}:∀ {l:List (Nat × Option SV)} {t:Nat} {x:SV},subS S n l->look l t=some x->(∃ y,look S t=some y/\Wk y x)/\x.lt n=true
 | [],_,_,_,h=>by cases h
 | (u,o)::l,t,x,hs,h=>by
  have h':(if u=t then o else look l t)=some x:=h;cases o with
  | none =>
   split at h'
   ·cases h'
   ·exact subS_look (l:=l) hs h'
  | some y =>
   split at h'
   ·rename_i e
    cases h';subst e;exact hs.1
   ·exact subS_look (l:=l) hs.2 h'
theorem Rel.sub{s':St}(R:Rel E γ0 γ N w0 s a w)(h:Sub E.base s s'):Rel E γ0 γ N w0 s' a w:=by
 obtain⟨gs,hgs⟩:=h.M;have hsub:s'.M.Sublist s.M:=by rw[hgs];exact List.filter_sublist
 refine⟨R.ag,h.base,R.z,R.d,fun t x hx=>?_,⟨R.h.old,fun p hp=>R.h.rows p ((hsub.map _).subset hp),R.h.nd.sublist (hsub.map _)⟩,fun r hr=>⟨(R.m r (hsub.subset hr)).1,h.lt r hr⟩⟩;obtain⟨⟨y,hy,hw⟩,hl⟩:=subS_look h.S hx;have:=R.k t y hy;exact⟨this.1.trans (hw.1 γ),hw.2 this.2.1,hl⟩
theorem norm_look:∀ {l:List (Nat × Option SV)} {t:Nat},look (normL l) t=(look l t).map normS
 | [],_=>rfl
 | p::l,t=>by
  show(if p.1=t then p.2.map normS else look (normL l) t)=(if p.1=t then p.2 else look l t).map normS;rw[norm_look]
  split <;> rfl
theorem Rel.norm(R:Rel E γ0 γ N w0 s a w):Rel E γ0 γ N w0 (normT s) a w :=
 ⟨R.ag,R.base,R.z,R.d,fun t x hx=>by
  have hx:look (normL s.S) t=some x:=hx;rw[norm_look]at hx;obtain⟨y,hy,rfl⟩:=Option.map_eq_some_iff.1 hx;have q:=R.k t y hy;have n:=normS_ok (γ:=γ) (n:=s.n) q.2.1 q.2.2;exact⟨q.1.trans n.1.symm,n.2⟩,R.h,R.m⟩
def Alike(d:Nat)(Q Q':Post):Prop:=Q'.leaf=Q.leaf/\∀ d' s,d'<d->(Q'.cut d' s↔Q.cut d' s)
theorem Alike.rfl'{d:Nat}{Q:Post}:Alike d Q Q:=⟨rfl,fun _ _ _=>Iff.rfl⟩
theorem Alike.trans{d:Nat}{Q Q' Q'':Post}(h:Alike d Q Q')(h':Alike d Q' Q''):Alike d Q Q'':=⟨h'.1.trans h.1,fun d' s hd=>(h'.2 d' s hd).trans (h.2 d' s hd)⟩
theorem exec_ok(G:E.Good γ0 w0)(mx:E.P.follows .mixedOrders=true):∀ {c:Code} {b d:Nat} {s:St} {k:Exit->St->Tr} {X:Exit->Act->World->Prop} {Q:Post} {a:Act} {w:World} {γ:Pl},(exec E N hd c b d s k).wp E.base Q->Rel E γ0 γ N w0 s a w ->
  (∀ Q' e γ s' a' w',Alike d Q Q'->Rel E γ0 γ N w0 s' a' w'->(k e s').wp E.base Q'->X e a' w')->c.wp E.P X a w:=by
 intro c
 induction c with
 | skip=>intro b d s k X Q a w γ h R cont;exact wp_skip (cont _ _ _ _ _ _ Alike.rfl' R h)
 | region id ops draw =>
  intro b d s k X Q a w γ h R cont;cases draw with
  | true=>exact drawX_ok (l:=ops.toList) (id:=id) G mx h R fun γ s' a' w' R' hk=>cont Q .normal γ s' a' w' Alike.rfl' R' hk
  | false=>exact wp_region_list (seqX_ok G h R fun γ s' a' w' R' hk=>cont Q .normal γ s' a' w' Alike.rfl' R' hk)
 | seq x y ihx ihy =>
  intro b d s k X Q a w γ h R cont;refine wp_seq (ihx h R fun Q' e γ s' a' w' hQ R' hk=>?_);cases e with
  | normal=>exact ihy hk R' fun Q'' e γ s' a' w' hQ' R'' hk'=>cont _ _ _ _ _ _ (hQ.trans hQ') R'' hk'
  | exit i=>exact cont _ _ _ _ _ _ hQ R' hk
  | goto i=>exact cont _ _ _ _ _ _ hQ R' hk
  | ret=>exact cont _ _ _ _ _ _ hQ R' hk
  | panic i=>exact cont _ _ _ _ _ _ hQ R' hk
  | outgrown=>exact cont _ _ _ _ _ _ hQ R' hk
 | cond c x y ihx ihy =>
  intro b d s k X Q a w γ h R cont;unfold exec at h
  split at h
  ·rename_i t ht
   exact wp_cond_split (opnd_ok R.k ht).1 (fun e=>ihx (h.1 e) R cont) (fun e=>ihy (h.2 e) R cont)
  ·rename_i t ht
   have hv:=(opnd_ok R.k ht).1;cases t with
   | true=>exact wp_cond_true hv (ihx h R cont)
   | false=>exact wp_cond_false hv (ihy h R cont)
  ·cases h
 | block id c ih =>
  intro b d s k X Q a w γ h R cont;refine wp_block (ih h R fun Q' e γ s' a' w' hQ R' hk=>?_);cases e with
  | normal=>exact cont _ _ _ _ _ _ hQ R' hk
  | exit j =>
   show(if j=id then _ else _);dsimp only at hk
   split at hk
   ·rename_i e;rw[if_pos e];exact cont _ _ _ _ _ _ hQ R' hk
   ·rename_i e;rw[if_neg e];exact cont _ _ _ _ _ _ hQ R' hk
  | goto i=>exact cont _ _ _ _ _ _ hQ R' hk
  | ret=>exact cont _ _ _ _ _ _ hQ R' hk
  | panic i=>exact cont _ _ _ _ _ _ hQ R' hk
  | outgrown=>exact cont _ _ _ _ _ _ hQ R' hk
 | loop c ih =>
  intro b d s k X Q a w γ h R cont;unfold exec at h
  split at h
  ·obtain⟨ι,st,μ,⟨i0,h0⟩,hr⟩:=h
   refine wp_loop_ghost (fun n a w=>∃ i γ,μ i=n/\Rel E γ0 γ N w0 (st i) a w) (μ i0) ⟨i0,γ,rfl,R.norm.sub h0⟩ ?_;rintro n a w ⟨i,γ,rfl,R1⟩;refine ih (hr i) R1 fun Q' e γ s' a' w' hQ R' hk=>?_;have up:Alike d Q Q':=⟨hQ.1,fun d' s hd'=>(hQ.2 d' s (Nat.lt_succ_of_lt hd')).trans (by
    show(if d'=d then _ else _)↔_;rw[if_neg (Nat.ne_of_lt hd')])⟩
   cases e with
   | normal =>
    have hc:Q'.cut d (normT s'):=hk;have hc:=(hQ.2 d (normT s') (Nat.lt_succ_self d)).1 hc;dsimp only at hc;rw[if_pos rfl]at hc;obtain⟨j,hj,hs⟩:=hc;exact⟨μ j,hj,j,γ,rfl,R'.norm.sub hs⟩
   | exit i=>exact cont _ _ _ _ _ _ up R' hk
   | goto i=>exact cont _ _ _ _ _ _ up R' hk
   | ret=>exact cont _ _ _ _ _ _ up R' hk
   | panic i=>exact cont _ _ _ _ _ _ up R' hk
   | outgrown=>exact cont _ _ _ _ _ _ up R' hk
  ·rename_i n0 _
   refine wp_loop_ghost (fun n a w=>∃ γ s Q',Alike d Q Q'/\Rel E γ0 γ N w0 s a w/\(rep (fun s k=>exec E N hd c b d s k) n s k).wp E.base Q') (n0+1) ⟨γ,s,Q,Alike.rfl',R,h⟩ ?_;rintro n a w ⟨γ,s,Q',hQ0,R1,h1⟩;cases n with
   | zero=>cases h1
   | succ n =>
    refine ih h1 R1 fun Q'' e γ s' a' w' hQ R' hk=>?_;have hQ1:=hQ0.trans hQ;cases e with
    | normal=>exact⟨n,Nat.lt_succ_self n,γ,s',Q'',hQ1,R',hk⟩
    | exit i=>exact cont _ _ _ _ _ _ hQ1 R' hk
    | goto i=>exact cont _ _ _ _ _ _ hQ1 R' hk
    | ret=>exact cont _ _ _ _ _ _ hQ1 R' hk
    | panic i=>exact cont _ _ _ _ _ _ hQ1 R' hk
    | outgrown=>exact cont _ _ _ _ _ _ hQ1 R' hk
 | exit id=>intro b d s k X Q a w γ h R cont;exact wp_exit (cont _ _ _ _ _ _ Alike.rfl' R h)
 | ret=>intro b d s k X Q a w γ h R cont;exact wp_ret (cont _ _ _ _ _ _ Alike.rfl' R h)
 | _=>intro b d s k X Q a w γ h R cont;cases h
def readR(a:Act):ResultVar->Sem Value
 | .tmp t=>pure (a.tmps.getD t undef)
 | .cell p t=>do loadVar t (<- asAddr (a.tmps.getD p undef))
theorem results_read(P:Program)(fn:Func)(a:Act)(w:World):(results fn a.tmps).run P w=(do let vs <- fn.results.mapM (readR a);pure (if h:vs.size=1 then vs[0]else .tuple vs):Sem Value).run P w:=by
 have e:readR a=(fun r=>(match r with
  | .tmp t=>pure (a.tmps.getD t undef)
  | .cell p t=>do loadVar t (<- asAddr (a.tmps.getD p undef)):Sem Value)):=by
  funext r
  cases r with
  | tmp t=>rfl
  | cell p t=>rfl
 rw[e];rfl
theorem resX_ok(G:E.Good γ0 w0)(R:Rel E γ0 γ N w0 s a w){r:ResultVar}{x:SV}(h:resX E s r=some x):(readR a r).run E.P w=.ok (x.val γ) w:=by
 cases r with
 | tmp t=>exact congrArg (fun v=>Result.ok v w) (R.k t x h).1
 | cell p T =>
  dsimp only[resX]at h
  split at h
  ·rename_i g o' j z y hp ht
   split at h
   ·rename_i r hr
    split at h
    ·rename_i hz
     subst hz;have hm:=R.lies _ (rowIn_ok hr);have ty:=G.tys _ (tyIn_ok ht).1;have hd:=ty.d;have hsz:=ty.sz;rw[(tyIn_ok ht).2]at hd hsz;have hl:=load_ok hm.1 hd hsz h;have e:a.tmps.getD p undef=.pointer (some ⟨γ g,o',none⟩):=by
      rw[(R.k p _ hp).1];show Value.pointer (some ⟨γ g,o'+j*0,none⟩)=_;rw[Nat.mul_zero,Nat.add_zero]
     show(do loadVar T (<- asAddr (a.tmps.getD p undef)):Sem Value).run E.P w=_;rw[e];simp only[Instr.loadAt,Instr.sureAddr,Sem.run_bind,Sem.run_pure,Result.andThen_ok]at hl;simp only[asAddr,Sem.run_bind,Sem.run_pure,Result.andThen_ok];exact hl
    ·cases h
   ·cases h
  ·cases h
theorem finX_ok(G:E.Good γ0 w0)(R:Rel E γ0 γ N w0 s a w){fn:Func}{e:Exit}(h:(finX E fn.results e s).wp E.base Q):bodyPost E.P fn (fun e w'=>∃ r,Q.leaf r/\e=.returned (r.val γ0)/\Below w0.heap.size w0 w') e a w:=by
 have fin:∀ x:SV,x.lt E.base=true->Q.leaf x->(results fn a.tmps).run E.P w=.ok (x.val γ) w->(a.defers=[]/\∃ v,(results fn a.tmps).run E.P w=.ok v w/\∃ r,Q.leaf r/\Ending.returned v=.returned (r.val γ0)/\Below w0.heap.size w0 w):=fun x hl hq hr =>
  ⟨R.d,_,hr,x,hq,by rw[(SV.lt_same R.ag hl).2.2],R.h.old⟩
 have main:(match fn.results.toList with
  | [r]=>match resX E s r with
   | some x=>if x.lt E.base=true then Tr.leaf x else .bad
   | none=>.bad
  | [r,q]=>match resX E s r,resX E s q with
   | some x,some y=>if x.lt E.base=true/\y.lt E.base=true then .leaf (.tu x y)else .bad
   | _,_=>.bad
  | _=>.bad).wp E.base Q->(a.defers=[]/\∃ v,(results fn a.tmps).run E.P w=.ok v w/\∃ r,Q.leaf r/\Ending.returned v=.returned (r.val γ0)/\Below w0.heap.size w0 w):=by
  intro h
  split at h
  ·rename_i r hr
   have hr':fn.results=#[r]:=by apply Array.ext';rw[hr]
   split at h
   ·rename_i x hx
    split at h
    ·rename_i hl
     have h1:=resX_ok G R hx;refine fin x hl h ?_;rw[results_read,hr'];simp[h1]
    ·cases h
   ·cases h
  ·rename_i r q hr
   have hr':fn.results=#[r,q]:=by apply Array.ext';rw[hr]
   split at h
   ·rename_i x y hx hy
    split at h
    ·rename_i hl
     have h1:=resX_ok G R hx;have h2:=resX_ok G R hy;refine fin (.tu x y) (by show(x.lt _&&y.lt _)=true;rw[hl.1,hl.2];rfl) h ?_;rw[results_read,hr'];simp[h1,h2,SV.val]
    ·cases h
   ·cases h
  ·cases h
 unfold finX at h
 split at h
 ·exact main h
 ·exact main h
 ·cases h
theorem args_look:∀ {l:List SV} {i t:Nat} {x:SV},look (argsX l i) t=some x->∃ j,t=i+j/\l[j]?=some x
 | [],_,_,_,h=>by cases h
 | y::l,i,t,x,h=>by
  have h':(if i=t then some y else look (argsX l (i+1)) t)=some x:=h
  split at h'
  ·rename_i e;cases h';exact⟨0,by omega,rfl⟩
  ·obtain⟨j,h1,h2⟩:=args_look h'
   exact⟨j+1,by omega,by simpa using h2⟩
theorem calls_of(G:E.Good γ0 w0)(mx:E.P.follows .mixedOrders=true)(hd:Nat->Nat){f:FuncId}{fn:Func}{c:Code}(hf:E.P.funcs[f]?=some fn)(hb:fn.body=some c)(args:List SV)(ha:∀ x∈args,x.ok/\x.lt E.base=true)(hn:args.length<=fn.ntmps){T:Tr}
  (hT:exec E fn.ntmps hd c 0 0 ⟨argsX args 0,[],E.base⟩ (finX E fn.results)=T) (hQ:T.wp E.base Q):Calls E.P f (args.map (·.val γ0)).toArray w0 fun e w'=>∃ r,Q.leaf r/\e=.returned (r.val γ0)/\Below w0.heap.size w0 w':=by
 refine enter hf hb fun a hz hdf he=>?_;have R0:Rel E γ0 γ0 fn.ntmps w0 ⟨argsX args 0,[],E.base⟩ a w0:=by
  refine⟨fun _ _=>rfl,Nat.le_refl _,by simp at hz;omega,hdf,fun t x hx=>?_,HC.start w0,fun r hr=>by cases hr⟩;obtain⟨j,rfl,hj⟩:=args_look hx;refine⟨?_,ha x (List.mem_of_getElem? hj)⟩;rw[he,Nat.zero_add];simp[hj]
 exact exec_ok (N:=fn.ntmps) G mx (hT ▸ hQ) R0 fun Q' e γ s' a' w' hq R' hk=>(by
  have:=finX_ok G R' (fn:=fn) (e:=e) hk;rw[hq.1]at this;exact this)
end
end Go.Proofs.YtadfjjfklihaaaaGreat.Sy
namespace Go.Proofs.YtadfjjfklihaaaaGreat.Sy
open Go.RowKit
def Tr.diag:Tr->Tr
 | .need (.same g _) t=>.need (.same g g) t.diag
 | .need (.eq x _) t=>.need (.eq x x) t.diag
 | .need p t=>.need p t.diag
 | .br b t f=>.br b t.diag f.diag
 | t=>t
inductive Sh
 | leaf (r:SV)
 | br (b:Bool) (t f:Sh)
 | need (p:Prop) (t:Sh)
 | cut (d:Nat)
 | loop (d:Nat)
 | bad
def Tr.shape:Tr->Sh
 | .leaf r=>.leaf r
 | .br b t f=>.br b t.shape f.shape
 | .need (.same _ _) t=>t.shape
 | .need (.eq _ _) t=>t.shape
 | .need (.ask p) t=>.need p t.shape
 | .cut d _=>.cut d
 | .loop d _ _=>.loop d
 | .bad=>.bad
def Tr.on:List Bool->Tr->Tr
 | b::l,.br _ t f=>match b with
  | true=>Tr.on l t
  | false=>Tr.on l f
 | l,.need _ t=>Tr.on l t
 | _,t=>t
def Sh.wp(Q:Post)(L:List Bool->Prop):Sh->Prop
 | .leaf r=>Q.leaf r
 | .br b t f=>(b=true->t.wp Q fun l=>L (true::l))/\(b=false->f.wp Q fun l=>L (false::l))
 | .need p t=>p/\t.wp Q L
 | .cut _=>L []
 | .loop _=>L []
 | .bad=>False
theorem wp_of_shape{base:Nat}{Q:Post}:∀ {T:Tr} {L:List Bool->Prop},T=T.diag->T.shape.wp Q L->(∀ l,L l->(T.on l).wp base Q)->T.wp base Q
 | .leaf r,_,_,h,_=>h
 | .br b t f,L,hd,h,hL=>by
  have h1:t=t.diag:=by injection hd
  have h2:f=f.diag:=by injection hd
  exact⟨fun e=>wp_of_shape h1 (h.1 e) fun l hl=>hL (true::l) hl,fun e=>wp_of_shape h2 (h.2 e) fun l hl=>hL (false::l) hl⟩
 | .need (.same g g') t,L,hd,h,hL=>by
  have h1:Tr.need (.same g g') t=.need (.same g g) t.diag:=hd;injection h1 with h2 h3
  injection h2 with _ h4
  refine⟨fun hg=>h4 ▸ hg,wp_of_shape h3 h fun l hl=>?_⟩;have:=hL l hl;cases l <;> exact this
 | .need (.eq g g') t,L,hd,h,hL=>by
  have h1:Tr.need (.eq g g') t=.need (.eq g g) t.diag:=hd;injection h1 with h2 h3
  injection h2 with _ h4
  refine⟨h4.symm,wp_of_shape h3 h fun l hl=>?_⟩;have:=hL l hl;cases l <;> exact this
 | .need (.ask p) t,L,hd,h,hL=>by
  have h1:Tr.need (.ask p) t=.need (.ask p) t.diag:=hd;injection h1 with _ h3
  refine⟨h.1,wp_of_shape h3 h.2 fun l hl=>?_⟩;have:=hL l hl;cases l <;> exact this
 | .cut d s,L,_,h,hL=>hL [] h
 | .loop d s b,L,_,h,hL=>hL [] h
 | .bad,_,_,h,_=>h.elim
def Tr.round(s:St):Tr->Tr
 | .loop _ _ b=>b s
 | _=>.bad
def Tr.stOf:Tr->St
 | .loop _ s _=>s
 | _=>⟨[],[],0⟩
def Tr.isLoop(d:Nat):Tr->Bool
 | .loop d' _ _=>d' == d
 | _=>false
def subB(base:Nat)(s':St):Bool:=decide (base<=s'.n)&&s'.M.all (fun r=>r.2.1.lt s'.n&&decide (r.1<s'.n))&&s'.S.all fun p=>match p.2 with
 | some x=>x.lt s'.n
 | none=>true
def Tr.cutOf:Tr->St
 | .cut _ s=>s
 | _=>⟨[],[],0⟩
def Tr.isCut(d:Nat):Tr->Bool
 | .cut d' _=>d' == d
 | _=>false
theorem cut_wp{base:Nat}{Q:Post}{T:Tr}(d:Nat)(hs:T.isCut d=true)(h:Q.cut d T.cutOf):T.wp base Q:=by
 cases T with
 | cut d' s =>
  obtain rfl:d'=d:=by simpa[Tr.isCut]using hs
  exact h
 | _=>cases hs
def Wkt(S:List (Nat × Option SV))(t:Nat)(x:SV):Prop:=∃ y,lookX S t=some y/\Wk y x
theorem Wkt.is{S:List (Nat × Option SV)}{t:Nat}{x:SV}(h:lookX S t=some x):Wkt S t x:=⟨x,h,.rfl'⟩
def eqsW(S:List (Nat × Option SV)):List (Nat × Option SV)->Prop
 | []=>True
 | (t,some x)::l=>Wkt S t x/\eqsW S l
 | (_,none)::l=>eqsW S l
theorem subS_ofW{S:List (Nat × Option SV)}{n:Nat}:∀ {l:List (Nat × Option SV)},eqsW S l->(l.all fun p=>match p.2 with
  | some x=>x.lt n
  | none=>true)=true->subS S n l
 | [],_,_=>trivial
 | (t,some x)::l,h,hb=>by
  rw[List.all_cons,Bool.and_eq_true]at hb;exact⟨⟨h.1,hb.1⟩,subS_ofW h.2 hb.2⟩
 | (t,none)::l,h,hb=>by
  rw[List.all_cons,Bool.and_eq_true]at hb;exact subS_ofW (l:=l) h hb.2
theorem Sub.ofW{base:Nat}{s s':St}(gs:List Nat)(hB:subB base s'=true)(hS:eqsW s.S s'.S)(hM:s'.M=s.M.filter fun r=>gs.contains r.1):Sub base s s':=by
 unfold subB at hB;rw[Bool.and_eq_true,Bool.and_eq_true]at hB;refine⟨of_decide_eq_true hB.1.1,subS_ofW hS hB.2,⟨gs,hM⟩,fun r hr=>?_⟩;have:=List.all_eq_true.1 hB.1.2 r hr;rw[Bool.and_eq_true]at this;exact⟨this.1,of_decide_eq_true this.2⟩
theorem next_wp{base:Nat}{Q:Post}{T:Tr}(d:Nat)(hs:T.isCut d=true){ι:Type}{st:ι->St}{μ:ι->Nat}{i:ι}(j:ι)(hj:μ j<μ i)(h:Sub base T.cutOf (st j)):T.wp base ⟨Q.leaf,fun d' s'=>if d'=d then ∃ j,μ j<μ i/\Sub base s' (st j)else Q.cut d' s'⟩ :=
 cut_wp d hs (by
  dsimp only;rw[if_pos rfl];exact⟨j,hj,h⟩)
theorem loop_wp{base:Nat}{Q:Post}{T:Tr}(d:Nat)(hs:T.isLoop d=true){ι:Type}(st:ι->St)(μ:ι->Nat)(i0:ι)(h0:Sub base T.stOf (st i0))(hr:∀ i,(T.round (st i)).wp base ⟨Q.leaf,fun d' s'=>if d'=d then ∃ j,μ j<μ i/\Sub base s' (st j)else Q.cut d' s'⟩):T.wp base Q:=by
 cases T with
 | loop d' s' b =>
  obtain rfl:d'=d:=by simpa[Tr.isLoop]using hs
  exact⟨ι,st,μ,⟨i0,h0⟩,hr⟩
 | _=>cases hs
def walk(E:Env)(hd:Nat->Nat)(fn:Func)(args:List SV):Tr:=exec E fn.ntmps hd (fn.body.getD .skip) 0 0 ⟨argsX args 0,[],E.base⟩ (finX E fn.results)
theorem calls_sh{E:Env}{γ0:Pl}{w0:World}{Q:SV->Prop}(G:E.Good γ0 w0)(mx:E.P.follows .mixedOrders=true)(hd:Nat->Nat){f:FuncId}{fn:Func}(hf:E.P.funcs[f]?=some fn)(hb:fn.body.isSome=true)(args:List SV)(ha:∀ x∈args,x.ok/\x.lt E.base=true)(hn:decide (args.length<=fn.ntmps)=true)
  (hD:walk E hd fn args=(walk E hd fn args).diag) (Z:Sh) (hZ:(walk E hd fn args).shape=Z) (hW:Z.wp ⟨Q,fun _ _=>False⟩ fun l=>((walk E hd fn args).on l).wp E.base ⟨Q,fun _ _=>False⟩):Calls E.P f (args.map (·.val γ0)).toArray w0 fun e w'=>∃ r,Q r/\e=.returned (r.val γ0)/\Below w0.heap.size w0 w':=by
 obtain⟨c,hc⟩:=Option.isSome_iff_exists.1 hb;have e:fn.body.getD .skip=c:=by rw[hc];rfl
 exact calls_of G mx hd hf hc args ha (of_decide_eq_true hn) rfl (Q:=⟨Q,fun _ _=>False⟩) (by rw[<- e];exact wp_of_shape hD (hZ ▸ hW) fun _ h=>h)
def okAll(base:Nat):List SV->Prop
 | []=>True
 | x::l=>(x.ok/\x.lt base=true)/\okAll base l
theorem okAll_mem{base:Nat}:∀ {l:List SV},okAll base l->∀ x∈l,x.ok/\x.lt base=true
 | [],_,x,h=>by cases h
 | y::l,ha,x,h=>by
  rcases List.mem_cons.1 h with rfl | h
  ·exact ha.1
  ·exact okAll_mem ha.2 x h
theorem calls_at{E:Env}{γ0:Pl}{w0:World}{V:Value}(G:E.Good γ0 w0)(mx:E.P.follows .mixedOrders=true)(hd:Nat->Nat){f:FuncId}{fn:Func}(hf:E.P.funcs[f]?=some fn)(hb:fn.body.isSome=true)(args:List SV)(ha:okAll E.base args)(hn:decide (args.length<=fn.ntmps)=true)
  (hD:walk E hd fn args=(walk E hd fn args).diag) (Z:Sh) (hZ:(walk E hd fn args).shape=Z) (hW:Z.wp ⟨fun r=>r.val γ0=V,fun _ _=>False⟩ fun l=>((walk E hd fn args).on l).wp E.base ⟨fun r=>r.val γ0=V,fun _ _=>False⟩):Calls E.P f (args.map (·.val γ0)).toArray w0 fun e w'=>e=.returned V/\Below w0.heap.size w0 w' :=
 (calls_sh G mx hd hf hb args (okAll_mem ha) hn hD Z hZ hW).mono fun _ _ ⟨_,h1,h2,h3⟩=>⟨by rw[h2,h1],h3⟩
end Go.Proofs.YtadfjjfklihaaaaGreat.Sy
