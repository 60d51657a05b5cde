/- Code walked over values told by letters: it is so. No program is named here. (Cut to what is reached, written closely: SyC · SyX.) -/
import Derived.Test.YtadfjjfklihaaaaGreatP17
set_option linter.all false
set_option maxRecDepth 100000
set_option maxHeartbeats 8000000
namespace Go.Proofs.YtadfjjfklihaaaaGreat.Sy
open Go.RowKit
structure St where
 S:List (Nat × Option SV)
 M:Rows
 n:Nat
inductive Tr
 | leaf (r:SV)
 | br (b:Bool) (t f:Tr)
 | need (p:Ob) (t:Tr)
 | cut (d:Nat) (s:St)
 | loop (d:Nat) (s:St) (body:St->Tr)
 | bad
structure Post where
 leaf:SV->Prop
 cut:Nat->St->Prop
def lookX:List (Nat × Option SV)->Nat->Option SV
 | [],_=>none
 | p::l,t=>if p.1=t then p.2 else lookX l t
def Wk(y x:SV):Prop:=(∀ γ,y.val γ=x.val γ)/\(y.ok->x.ok)
theorem Wk.rfl'{x:SV}:Wk x x:=⟨fun _=>rfl,id⟩
def subS(S:List (Nat × Option SV))(n:Nat):List (Nat × Option SV)->Prop
 | []=>True
 | (t,some x)::l=>((∃ y,lookX S t=some y/\Wk y x)/\x.lt n=true)/\subS S n l
 | (_,none)::l=>subS S n l
structure Sub (base:Nat) (s s':St):Prop where
 base:base<=s'.n
 S:subS s.S s'.n s'.S
 M:∃ gs:List Nat,s'.M=s.M.filter fun r=>gs.contains r.1
 lt:∀ r∈s'.M,r.2.1.lt s'.n=true/\r.1<s'.n
def Tr.wp(base:Nat):Tr->Post->Prop
 | .leaf r,Q=>Q.leaf r
 | .br b t f,Q=>(b=true->t.wp base Q)/\(b=false->f.wp base Q)
 | .need p t,Q=>p.holds/\t.wp base Q
 | .cut d s,Q=>Q.cut d s
 | .loop d s body,Q=>∃(ι:Type) (st:ι->St) (μ:ι->Nat),(∃ i,Sub base s (st i))/\∀ i,(body (st i)).wp base ⟨Q.leaf,fun d' s'=>if d'=d then ∃ j,μ j<μ i/\Sub base s' (st j)else Q.cut d' s'⟩
 | .bad,_=>False
def needs:List Ob->Tr->Tr
 | [],t=>t
 | p::l,t=>.need p (needs l t)
theorem needs_wp{base:Nat}{Q:Post}{t:Tr}:∀ {l:List Ob},(needs l t).wp base Q->All l/\t.wp base Q
 | [],h=>⟨fun p hp=>(by cases hp),h⟩
 | p::l,h=>by
  have ih:=needs_wp h.2;exact⟨fun q hq=>by
   rcases List.mem_cons.1 hq with rfl | hq
   ·exact h.1
   ·exact ih.1 q hq,ih.2⟩
abbrev look:=lookX
def St.put(s:St)(d:Nat)(x:Option SV):St:=⟨(d,x)::s.S,s.M,s.n⟩
def storeIn(g:Nat)(v:SV)(off:Nat):Rows->Option Rows
 | []=>none
 | r::l=>if r.1=g then (SV.put v off r.2.1).map fun x=>(r.1,x,r.2.2)::l else (storeIn g v off l).map (r::·)
def SV.plain:SV->Bool
 | .w _ | .e=>true
 | .ap h t=>h.plain&&t.plain
 | x=>x.one
theorem SV.plain_any:∀ {x:SV},x.plain=true->x.one=true\/x.many=true
 | .w _,_ | .e,_ | .ap _ _,_=>.inr rfl
 | .b _,_ | .i _ _,_ | .na _,_ | .p _ _ _ _,_ | .s _ _ _ _,_ | .fv _ _,_=>.inl rfl
 | .v _,h=>.inl h
theorem SV.plain_cells{γ:Pl}:∀ {x:SV},x.plain=true->∀ c∈x.cells γ,c.oneCell'=true
 | .w x,_,c,hc=>by
  simp only[SV.cells,pw,List.mem_cons,List.not_mem_nil,or_false]at hc;rcases hc with rfl | rfl | rfl | rfl <;> rfl
 | .e,_,c,hc=>by cases hc
 | .ap h t,hp,c,hc=>by
  have hp':h.plain=true/\t.plain=true:=by simpa only[SV.plain,Bool.and_eq_true]using hp
  rcases List.mem_append.1 hc with hc | hc
  ·exact plain_cells hp'.1 c hc
  ·exact plain_cells hp'.2 c hc
 | .b _,_,c,hc | .i _ _,_,c,hc | .na _,_,c,hc | .p _ _ _ _,_,c,hc | .s _ _ _ _,_,c,hc | .fv _ _,_,c,hc=>by
  cases hc with
  | head=>rfl
  | tail _ h=>cases h
 | .v x,hp,c,hc=>by
  cases hc with
  | head=>exact hp
  | tail _ h=>cases h
def mkGo(E:Env)(N d:Nat)(op:Op)(s:St)(k:St->Tr):Tr:=match E.mkr s.n s.M (look s.S) op with
 | some (r,p,R)=>if d<N then needs p (k ⟨(d,some r)::s.S,R++s.M,s.n+R.length⟩)else .bad
 | none=>.bad
def opGo(E:Env)(N:Nat)(o:Oper)(s:St)(k:St->Tr):Tr :=
 match o.op,o.dst with
 | .store T x y,none=>match opnd (look s.S) x,opnd (look s.S) y,tyIn T E.tys with
  | some (.p g off _ z),some v,some ty=>if z=0/\v.plain=true/\v.size=ty.sz then match storeIn g v off s.M with
   | some M=>k ⟨s.S,M,s.n⟩
   | none=>.bad
   else .bad
  | _,_,_=>.bad
 | .alloc T,some d=>match tyIn T E.tys with
  | some ty=>if d<N then k ⟨(d,some (.p s.n 0 0 0))::s.S,(s.n,ty.zero,T)::s.M,s.n+1⟩else .bad
  | none=>.bad
 | .box T x,some d=>match opnd (look s.S) x with
  | some v=>if d<N/\v.plain=true then k ⟨(d,some (.p s.n 0 0 0))::s.S,(s.n,v,T)::s.M,s.n+1⟩else .bad
  | none=>.bad
 | .buildSlice T n parts,some d=>match bsIn T n E.bss,partsOf (look s.S) parts.toList with
  | some b,some l=>if d<N/\l.all (fun x=>decide (x.1<n)&&(x.2.one||x.2.many))=true then match fillS ((List.range n).map fun i=>(i*b.sz,b.sz)) b.zs l with
   | some r=>k ⟨(d,some (.s s.n 0 n n))::s.S,(s.n,r,b.e)::s.M,s.n+1⟩
   | none=>.bad
   else .bad
  | _,_=>.bad
 | .call c,some d=>match c.callee with
  | .value _=>match callX (look s.S) c with
   | some (f,l)=>match E.ctr f s.n s.M l with
    | some (r,p,R)=>if d<N then needs p (k ⟨(d,some r)::s.S,R++s.M,s.n+R.length⟩)else .bad
    | none=>.bad
   | none=>.bad
  | _=>match opVal E (look s.S) s.M (.call c)with
   | some (r,p)=>if d<N then needs p (k (s.put d (some r)))else .bad
   | none=>mkGo E N d (.call c) s k
 | op,some d=>match opVal E (look s.S) s.M op with
  | some (r,p)=>if d<N then needs p (k (s.put d (some r)))else .bad
  | none=>mkGo E N d op s k
 | _,_=>.bad
def underG(g:Bool):List Ob->List Ob
 | []=>[]
 | .same a b::l=>.same (g&&a) b::underG g l
 | .ask p::l=>.ask (g=true->p)::underG g l
 | .eq x y::l=>.eq x y::underG g l
theorem underG_ok{g:Bool}:∀ {l:List Ob},All (underG g l)->g=true->All l
 | [],_,_=>fun p hp=>by cases hp
 | .same a b::l,h,hg=>fun p hp=>by
  rcases List.mem_cons.1 hp with rfl | hp
  ·have h1:(g&&a)=true->b=true:=h _ (.head _)
   rw[hg]at h1;exact h1
  ·exact underG_ok (fun q hq=>h q (.tail _ hq)) hg p hp
 | .eq x y::l,h,hg=>fun p hp=>by
  rcases List.mem_cons.1 hp with rfl | hp
  ·exact h _ (.head _)
  ·exact underG_ok (fun q hq=>h q (.tail _ hq)) hg p hp
 | .ask q::l,h,hg=>fun p hp=>by
  rcases List.mem_cons.1 hp with rfl | hp
  ·have h1:g=true->q:=h _ (.head _)
   exact h1 hg
  ·exact underG_ok (fun q hq=>h q (.tail _ hq)) hg p hp
def stripG:SV->SV
 | .gd _ x=>x
 | x=>x
def tmpsOf(o:Oper):List Nat:=(match o.op with
 | .pick c _ _=>[c]
 | op=>op.operands.toList:List Operand).filterMap fun(x:Operand)=>match x with
 | .tmp t=>some t
 | _=>none
def lkG(lk:Nat->Option SV)(ts:List Nat)(t:Nat):Option SV:=if ts.contains t=true then (lk t).map stripG else lk t
def gEff(b:Bool):SV->Option Bool
 | .b t=>some (if b then t else !t)
 | .gd g (.b t)=>some (g&&(if b then t else !t))
 | .gd g (.v (.bool t))=>some (g&&(if b then t else !t))
 | _=>none
def condG(g:Bool)(lk:Nat->Option SV):List Nat->List Ob
 | []=>[]
 | t::l=>match lk t with
  | some (.gd g' _)=>.same g g'::condG g lk l
  | _=>condG g lk l
theorem condG_mem{g g':Bool}{lk:Nat->Option SV}{y:SV}{t:Nat}:∀ {ts:List Nat},t∈ts->lk t=some (.gd g' y)->Ob.same g g'∈condG g lk ts
 | [],h,_=>by cases h
 | u::l,h,hl=>by
  unfold condG;rcases List.mem_cons.1 h with rfl | h
  ·rw[hl]
   exact .head _
  ·split
   ·exact .tail _ (condG_mem h hl)
   ·exact condG_mem h hl
theorem lkG_ok{γ:Pl}{n:Nat}{lk:Nat->Option SV}{ts:List Nat}{g:Bool}{t:Nat}{x:SV}(hx:lkG lk ts t=some x)(hp:All (condG g lk ts))(hg:g=true):∃ y,lk t=some y/\(y.ok->x.ok)/\(y.lt n=true->x.lt n=true)/\y.val γ=x.val γ:=by
 unfold lkG at hx
 split at hx
 ·rename_i ht
  cases hy:lk t with
  | none=>rw[hy]at hx;cases hx
  | some y =>
   rw[hy]at hx;cases hx;refine⟨y,rfl,?_⟩;cases y with
   | gd g' z =>
    have h1:g'=true:=hp _ (condG_mem (by simpa using ht) hy) hg;subst h1;exact⟨fun h=>h rfl,id,rfl⟩
   | _=>exact⟨id,id,rfl⟩
 ·exact⟨x,hx,id,id,rfl⟩
def valS(E:Env)(n:Nat)(lk:Nat->Option SV)(M:Rows)(o:Oper):Option (SV × List Ob):=match o.op with
 | .call c=>match c.callee with
  | .value _=>match callX lk c with
   | some (f,l)=>match E.ctr f n M l with
    | some (r,p,[])=>some (r,p)
    | _=>none
   | none=>none
  | _=>opVal E lk M (.call c)
 | op=>opVal E lk M op
def opAt(E:Env)(N:Nat)(D:Nat->Option Nat)(o:Oper)(s:St)(k:St->Tr):Tr :=
 match o.guard with
 | none=>opGo E N o s k
 | some (j,b)=>match o.dst,(D j).bind (look s.S)with
  | some d,some (.v (.bool t))=>if d<N then (if t=b then opGo E N o s k else k (s.put d none))else .bad
  | some d,some gx=>if d<N then (match gEff b gx with
   | some e=>match valS E s.n (lkG (look s.S) (tmpsOf o)) s.M o with
    | some (x,p)=>if x.lt s.n=true then needs (underG e p++condG e (look s.S) (tmpsOf o)) (k (s.put d (some (.gd e x))))else .bad
    | none=>.br e (opGo E N o s k) (k (s.put d none))
   | none=>.bad)else .bad
  | _,_=>.bad
def seqX(E:Env)(N:Nat)(D:Nat->Option Nat):List Oper->St->(St->Tr)->Tr
 | [],s,k=>k s
 | o::l,s,k=>opAt E N D o s fun s'=>seqX E N D l s' k
/-! It is so. -/
structure Rel (E:Env) (γ0 γ:Pl) (N:Nat) (w0:World) (s:St) (a:Act) (w:World):Prop where
 ag:Agree E γ0 γ
 base:E.base<=s.n
 z:a.tmps.size=N
 d:a.defers=[]
 k:Holds γ s.n (look s.S) a
 h:HC w0 (s.M.map fun r=>(γ r.1,(r.2.1.cells γ).toArray,r.2.2)) w
 m:∀ r∈s.M,r.2.1.ok/\r.2.1.lt s.n=true/\r.1<s.n
section
variable {E:Env} {γ0 γ:Pl} {N:Nat} {w0 w wx w':World} {s:St} {a:Act} {o:Oper} {x:SV}
theorem Rel.lies(h:Rel E γ0 γ N w0 s a w):Lies γ s.n s.M w:=fun r hr =>
 ⟨(h.h.rows _ (List.mem_map.2 ⟨r,hr,rfl⟩)).2,(h.m r hr).1,(h.m r hr).2.1⟩
theorem Rel.put{d:Nat}(h:Rel E γ0 γ N w0 s a w)(hd:d<N)(ho:x.ok)(hl:x.lt s.n=true):Rel E γ0 γ N w0 (s.put d (some x)) (a.put (some d) (x.val γ)) w :=
 ⟨h.ag,h.base,by rw[put_size];exact h.z,by rw[put_defers];exact h.d,fun t y hy=>by
  unfold St.put look lookX at hy;dsimp only at hy
  split at hy
  ·rename_i e
   cases hy;subst e;exact⟨put_same _ _ _ (by rw[h.z];exact hd),ho,hl⟩
  ·rename_i e
   have:=h.k t y hy;exact⟨by rw[put_other _ _ _ _ (fun q=>e (Option.some.inj q))];exact this.1,this.2⟩,h.h,h.m⟩
theorem Rel.forget{d:Nat}{v:Value}(h:Rel E γ0 γ N w0 s a w):Rel E γ0 γ N w0 (s.put d none) (a.put (some d) v) w :=
 ⟨h.ag,h.base,by rw[put_size];exact h.z,by rw[put_defers];exact h.d,fun t y hy=>by
  unfold St.put look lookX at hy;dsimp only at hy
  split at hy
  ·cases hy
  ·rename_i e
   have:=h.k t y hy;exact⟨by rw[put_other _ _ _ _ (fun q=>e (Option.some.inj q))];exact this.1,this.2⟩,h.h,h.m⟩
theorem Rel.below(h:Rel E γ0 γ N w0 s a w)(hb:Below w.heap.size w w'):Rel E γ0 γ N w0 s a w':=⟨h.ag,h.base,h.z,h.d,h.k,h.h.below hb,h.m⟩
theorem Rel.made{d:Nat}{R:Rows}{δ:Pl}(h:Rel E γ0 γ N w0 s a w)(hd:d<N)(ho:x.ok)(hl:x.lt (s.n+R.length)=true)(hR:∀ q∈R,q.2.1.ok/\q.2.1.lt (s.n+R.length)=true/\s.n<=q.1/\q.1<s.n+R.length)(e:∀ k,k<s.n->δ k=γ k)(hb:Below w.heap.size w w')
  (h1:∀ q∈R,w.heap.size<=δ q.1/\w'.heap[δ q.1]?=some (.cells (q.2.1.cells δ).toArray q.2.2 (0,0))) (h2:R.Pairwise fun p q=>δ p.1≠δ q.1):Rel E γ0 δ N w0 ⟨(d,some x)::s.S,R++s.M,s.n+R.length⟩ (a.put (some d) (x.val δ)) w':=by
 have e':∀ k,k<s.n->γ k=δ k:=fun k hk=>(e k hk).symm;have hh:=h.h.below hb;have em:(s.M.map fun r=>(δ r.1,(r.2.1.cells δ).toArray,r.2.2))=s.M.map fun r=>(γ r.1,(r.2.1.cells γ).toArray,r.2.2) :=
  List.map_congr_left fun r hr=>by
   have:=h.m r hr;rw[<- e' r.1 this.2.2,(SV.lt_same e' this.2.1).2.1]
 refine⟨fun k hk=>(e k (Nat.lt_of_lt_of_le hk h.base)).trans (h.ag k hk),Nat.le_trans h.base (Nat.le_add_right _ _),by rw[put_size];exact h.z,by rw[put_defers];exact h.d,fun t y hy=>?_,?_,fun r hr=>?_⟩
 ·unfold look lookX at hy
  dsimp only at hy
  split at hy
  ·rename_i q
   cases hy;subst q;exact⟨put_same _ _ _ (by rw[h.z];exact hd),ho,hl⟩
  ·rename_i q
   have:=h.k t y hy;refine⟨?_,this.2.1,SV.lt_mono (Nat.le_add_right _ _) this.2.2⟩;rw[put_other _ _ _ _ (fun c=>q (Option.some.inj c)),this.1];exact(SV.lt_same e' this.2.2).2.2
 ·show HC w0 ((R++s.M).map fun r=>(δ r.1,(r.2.1.cells δ).toArray,r.2.2)) _
  rw[List.map_append,em];refine⟨hh.old,fun p hp=>?_,List.pairwise_append.2 ⟨List.pairwise_map.2 h2,hh.nd,fun p hp q hq=>?_⟩⟩
  ·rcases List.mem_append.1 hp with hp | hp
   ·obtain⟨q,hq,rfl⟩:=List.mem_map.1 hp
    have:=h1 q hq;exact⟨Nat.le_trans h.h.old.size this.1,this.2⟩
   ·exact hh.rows p hp
  ·obtain⟨u,hu,rfl⟩:=List.mem_map.1 hp
   have g1:=(h1 u hu).1;have g2:=(Array.getElem?_eq_some_iff.1 (h.h.rows q hq).2).1;show δ u.1≠q.1;omega
 ·rcases List.mem_append.1 hr with hr | hr
  ·have:=hR r hr
   exact⟨this.1,this.2.1,this.2.2.2⟩
  ·have:=h.m r hr
   exact⟨this.1,SV.lt_mono (Nat.le_add_right _ _) this.2.1,Nat.lt_of_lt_of_le this.2.2 (Nat.le_add_right _ _)⟩
theorem Rel.newS{d n:Nat}{T:TypeId}(h:Rel E γ0 γ N w0 s a w)(hd:d<N)(ho:x.ok)(hl:x.lt s.n=true) :
  ∃ δ,Rel E γ0 δ N w0 ⟨(d,some (.s s.n 0 n n))::s.S,(s.n,x,T)::s.M,s.n+1⟩ (a.put (some d) (.slice (some ⟨w.heap.size,0,none⟩) n n)) (w.alloc (.cells (x.cells γ).toArray T)):=by
 obtain⟨δ,hδ⟩:∃ δ:Pl,∀ k,δ k=if k=s.n then w.heap.size else γ k:=⟨_,fun _=>rfl⟩
 have e:∀ k,k<s.n->γ k=δ k:=fun k hk=>by rw[hδ,if_neg (by omega)]
 have q:(SV.s s.n 0 n n).val δ=.slice (some ⟨w.heap.size,0,none⟩) n n:=by
  show Value.slice (some ⟨δ s.n,0,none⟩) n n=_;rw[hδ,if_pos rfl]
 refine⟨δ,?_⟩;rw[<- q];refine h.made (R:=[(s.n,x,T)]) (x:=.s s.n 0 n n) hd trivial (decide_eq_true (Nat.lt_succ_self _)) (fun p hp=>?_) (fun k hk=>(e k hk).symm) ((Below.refl _ _).alloc (Nat.le_refl _) _) (fun p hp=>?_) (List.pairwise_singleton _ _)
 ·simp only[List.mem_cons,List.not_mem_nil,or_false]at hp
  subst hp;exact⟨ho,SV.lt_mono (Nat.le_succ _) hl,Nat.le_refl _,Nat.lt_succ_self _⟩
 ·simp only[List.mem_cons,List.not_mem_nil,or_false]at hp
  subst hp;refine⟨by rw[hδ,if_pos rfl];exact Nat.le_refl _,?_⟩;show(w.alloc _).heap[δ s.n]?=some (.cells (x.cells δ).toArray T (0,0));rw[hδ,if_pos rfl,<- (SV.lt_same e hl).2.1];exact heap_alloc_new _ _
theorem Rel.new{d:Nat}{T:TypeId}(h:Rel E γ0 γ N w0 s a w)(hd:d<N)(ho:x.ok)(hl:x.lt s.n=true) :
  ∃ δ,Rel E γ0 δ N w0 ⟨(d,some (.p s.n 0 0 0))::s.S,(s.n,x,T)::s.M,s.n+1⟩ (a.put (some d) (.pointer (some ⟨w.heap.size,0,none⟩))) (w.alloc (.cells (x.cells γ).toArray T)):=by
 obtain⟨δ,hδ⟩:∃ δ:Pl,∀ k,δ k=if k=s.n then w.heap.size else γ k:=⟨_,fun _=>rfl⟩
 have e:∀ k,k<s.n->γ k=δ k:=fun k hk=>by rw[hδ,if_neg (by omega)]
 refine⟨δ,fun k hk=>?_,Nat.le_succ_of_le h.base,by rw[put_size];exact h.z,by rw[put_defers];exact h.d,fun t y hy=>?_,?_,fun r hr=>?_⟩
 ·rw[<- e k (Nat.lt_of_lt_of_le hk h.base)];exact h.ag k hk
 ·unfold look lookX at hy
  dsimp only at hy
  split at hy
  ·rename_i q
   cases hy;subst q;refine⟨?_,trivial,decide_eq_true (Nat.lt_succ_self _)⟩;rw[put_same _ _ _ (by rw[h.z];exact hd)];show _=Value.pointer (some ⟨δ s.n,0+0*0,none⟩);rw[hδ,if_pos rfl]
  ·rename_i q
   have:=h.k t y hy;refine⟨?_,this.2.1,SV.lt_mono (Nat.le_succ _) this.2.2⟩;rw[put_other _ _ _ _ (fun c=>q (Option.some.inj c)),this.1];exact(SV.lt_same e this.2.2).2.2
 ·have hh:=h.h.new (x.cells γ).toArray T
  have e1:(s.M.map fun r=>(δ r.1,(r.2.1.cells δ).toArray,r.2.2))=s.M.map fun r=>(γ r.1,(r.2.1.cells γ).toArray,r.2.2) :=
   List.map_congr_left fun r hr=>by
    have:=h.m r hr;rw[<- e r.1 this.2.2,(SV.lt_same e this.2.1).2.1]
  show HC w0 ((δ s.n,(x.cells δ).toArray,T)::s.M.map fun r=>(δ r.1,(r.2.1.cells δ).toArray,r.2.2)) _;rw[e1,<- (SV.lt_same e hl).2.1,hδ,if_pos rfl];exact hh
 ·rcases List.mem_cons.1 hr with rfl | hr
  ·exact⟨ho,SV.lt_mono (Nat.le_succ _) hl,Nat.lt_succ_self _⟩
  ·have:=h.m r hr
   exact⟨this.1,SV.lt_mono (Nat.le_succ _) this.2.1,Nat.lt_succ_of_lt this.2.2⟩
theorem setRow_self{g:Nat}{T:TypeId}{cs:Array Value}(hg:w.heap[g]?=some (.cells cs T (0,0))):w.setRow g cs=w:=by
 have e:(w.heap.modify g fun
   | .cells _ elem frozen=>.cells cs elem frozen
   | o=>o)=w.heap:=by
  apply Array.ext_getElem?;intro i;rw[Array.getElem?_modify];by_cases e:g=i
  ·subst e
   rw[if_pos rfl,hg];rfl
  ·rw[if_neg e]
 exact congrArg (fun h=>({ w with heap:=h }:World)) e
theorem setCells_row(g:Nat)(T:TypeId):∀(vs:List Value) (off:Nat) (w:World) (cs:Array Value),w.heap[g]?=some (.cells cs T (0,0))->∃ c',w.setCells g off vs=w.setRow g c'/\c'.size=cs.size/\(off+vs.length<=cs.size->∀ k:Nat,c'[k]?=if off<=k/\k<off+vs.length then vs[k - off]? else cs[k]?)
 | [],off,w,cs,hg=>⟨cs,(setRow_self hg).symm,rfl,fun _ k=>by rw[if_neg (by simp only[List.length_nil];omega)]⟩
 | v::vs,off,w,cs,hg=>by
  have h1:=setCell_eq_setRow w g off cs T (0,0) v hg;obtain⟨c',h2,h3,h4⟩:=setCells_row g T vs (off+1) (w.setRow g (cs.setIfInBounds off v)) (cs.setIfInBounds off v) (setRow_heap w g cs _ T _ hg);refine⟨c',?_,by rw[h3,Array.size_setIfInBounds],fun hf k=>?_⟩
  ·show(w.setCell ⟨g,off,none⟩ v).setCells g (off+1) vs=_
   rw[h1,h2,setRow_setRow]
  ·simp only[List.length_cons]at hf
   rw[h4 (by rw[Array.size_setIfInBounds];omega) k];simp only[List.length_cons];by_cases e:k=off
   ·subst e
    rw[if_neg (by omega),if_pos (by omega),Nat.sub_self,Array.getElem?_setIfInBounds_self_of_lt (by omega)];rfl
   ·by_cases h5:off+1<=k/\k<off+1+vs.length
    ·rw[if_pos h5,if_pos (by omega),show k - off=(k - (off+1))+1 by omega,List.getElem?_cons_succ]
    ·rw[if_neg h5,if_neg (by omega),Array.getElem?_setIfInBounds_ne (by omega)]
theorem store_ok{P:Program}{g off:Nat}{T t:TypeId}{x y v:SV}(hg:w.heap[g]?=some (.cells (x.cells γ).toArray t (0,0)))(hs:(P.info? T).map (·.size)=some v.size)(hp:SV.put v off x=some y)(hv:v.plain=true) :
  (Instr.storeAt T (.pointer (some ⟨g,off,none⟩)) (v.val γ)).run P w=.ok () (w.setRow g (y.cells γ).toArray):=by
 have q:=SV.put_ok γ hp;have qf:=q.fits;have lx:=SV.cells_len γ x;have lv:=SV.cells_len γ v;have hc:(v.val γ).cells=(v.cells γ).toArray:=by
  rcases SV.plain_any hv with h1 | h1
  ·rw[SV.val_one h1,cells_one (SV.one_cell h1)]
  ·rw[SV.val_many h1]
   rfl
 obtain⟨c',h2,h3,h4⟩:=setCells_row g t (v.cells γ) off w _ hg;have e:c'=(y.cells γ).toArray:=by
  apply Array.ext_getElem?;intro k;rw[h4 (by simp only[List.size_toArray];omega) k];simp only[List.getElem?_toArray];rw[q.cells k,lv]
 subst e;have hst:=run_storeCells_cells (P:=P) g off (v.cells γ) 0 w (fun j hj=>by
   rw[cell_of_row w g _ _ t _ hg];simp only[List.getElem?_toArray,Option.isSome_iff_exists];exact⟨_,List.getElem?_eq_getElem (by omega)⟩) (fun j hj=>frozen_of_row w g _ _ t hg) (SV.plain_cells hv)
 rw[Nat.add_zero,h2]at hst;cases hq:P.info? T with
 | none=>rw[hq]at hs;cases hs
 | some i =>
  rw[hq]at hs;have hs':i.size=v.size:=Option.some.inj hs;have hl:(v.cells γ).length=i.size:=by omega
  simp[Instr.storeAt,Instr.sureAddr,storeVar,sizeOf,typeInfo,hq,hc,hl,hst]
theorem storeIn_split{g off:Nat}{v:SV}:∀ {M M':Rows},storeIn g v off M=some M'->∃ A B x T y,M=A++(g,x,T)::B/\M'=A++(g,y,T)::B/\SV.put v off x=some y
 | [],_,h=>by cases h
 | r::l,M',h=>by
  unfold storeIn at h
  split at h
  ·rename_i e
   cases hp:SV.put v off r.2.1 with
   | none=>rw[hp]at h;cases h
   | some y =>
    rw[hp]at h;cases h;subst e;exact⟨[],l,r.2.1,r.2.2,y,rfl,rfl,hp⟩
  ·cases hp:storeIn g v off l with
   | none=>rw[hp]at h;cases h
   | some l' =>
    rw[hp]at h;cases h;obtain⟨A,B,x,T,y,h1,h2,h3⟩:=storeIn_split hp;exact⟨r::A,B,x,T,y,by rw[h1];rfl,by rw[h2];rfl,h3⟩
theorem Rel.store{g off:Nat}{v:SV}{M:Rows}{T:TypeId}(h:Rel E γ0 γ N w0 s a w)(hs:storeIn g v off s.M=some M)(hv:v.plain=true)(ho:v.ok)(hl:v.lt s.n=true)(hT:(E.P.info? T).map (·.size)=some v.size) :
  ∃ w',(Instr.storeAt T (.pointer (some ⟨γ g,off,none⟩)) (v.val γ)).run E.P w=.ok () w'/\Rel E γ0 γ N w0 ⟨s.S,M,s.n⟩ a w':=by
 obtain⟨A,B,x,t,y,h1,h2,h3⟩:=storeIn_split hs;have hm:=h.m (g,x,t) (by rw[h1];simp);have hr:=h.lies (g,x,t) (by rw[h1];simp);have q:=SV.put_ok γ h3;refine⟨_,store_ok hr.1 hT h3 hv,h.ag,h.base,h.z,h.d,h.k,?_,fun r hr=>?_⟩
 ·have hh:=h.h
  rw[h1,List.map_append,List.map_cons]at hh;have:=HC.set _ _ hh (y.cells γ).toArray;show HC w0 (M.map _) _;rw[h2,List.map_append,List.map_cons];exact this
 ·have hr':r∈M:=hr
  rw[h2]at hr';rcases List.mem_append.1 hr' with hr' | hr'
  ·exact h.m r (by rw[h1];exact List.mem_append_left _ hr')
  ·rcases List.mem_cons.1 hr' with rfl | hr'
   ·exact⟨q.ok hm.1 ho,q.lt _ hm.2.1 hl,hm.2.2⟩
   ·exact h.m r (by rw[h1];exact List.mem_append_right _ (.tail _ hr'))
end
end Go.Proofs.YtadfjjfklihaaaaGreat.Sy
namespace Go.Proofs.YtadfjjfklihaaaaGreat.Sy
open Go.RowKit
section
variable {E:Env} {n:Nat} {γ0 γ:Pl} {N:Nat} {w0 w w':World} {s:St} {a:Act} {o:Oper} {x:SV} {k:St->Tr} {Q:Post} {ops:Array Oper} {rest:List Oper} {X:Exit->Act->World->Prop} {P:Program}
def Okay(n:Nat)(lk:Nat->Option SV):Prop:=∀ t x,lk t=some x->x.ok/\x.lt n=true
theorem opnd_okay{lk:Nat->Option SV}{x:Operand}{u:SV}(hk:Okay n lk)(h:opnd lk x=some u):u.ok/\u.lt n=true:=by
 cases x with
 | tmp t=>exact hk t u h
 | const v=>cases h;exact(constS_ok (fun _=>0) n v).2
 | func f=>cases h;exact⟨trivial,rfl⟩
 | global g=>cases h
theorem opnds_okay{lk:Nat->Option SV}(hk:Okay n lk):∀ {l:List Operand} {us:List SV},opnds lk l=some us->∀ u∈us,u.ok/\u.lt n=true
 | [],us,h=>by cases h;exact fun u hu=>(by cases hu)
 | x::l,us,h=>by
  unfold opnds at h
  split at h
  ·rename_i u r hu hr
   cases h;intro v hv;rcases List.mem_cons.1 hv with rfl | hv
   ·exact opnd_okay hk hu
   ·exact opnds_okay hk hr v hv
  ·cases h
theorem parts_okay{lk:Nat->Option SV}(hk:Okay n lk):∀ {l:List (Nat × Operand)} {us:List (Nat × SV)},partsOf lk l=some us->∀ u∈us,u.2.ok/\u.2.lt n=true
 | [],us,h=>by cases h;exact fun u hu=>(by cases hu)
 | x::l,us,h=>by
  unfold partsOf at h
  split at h
  ·rename_i u r hu hr
   cases h;intro v hv;rcases List.mem_cons.1 hv with rfl | hv
   ·exact opnd_okay hk hu
   ·exact parts_okay hk hr v hv
  ·cases h
theorem fillS_okay{fs:List (Nat × Nat)}:∀ {l:List (Nat × SV)} {z r:SV},fillS fs z l=some r->(∀ x∈l,x.2.ok/\x.2.lt n=true)->z.ok->z.lt n=true->r.ok/\r.lt n=true
 | [],z,r,h,_,h1,h2=>by cases h;exact⟨h1,h2⟩
 | (i,x)::l,z,r,h,hl,h1,h2=>by
  unfold fillS at h
  split at h
  ·split at h
   ·split at h
    ·rename_i z' hz
     have q:=SV.put_ok (fun _=>0) hz;have hx:=hl _ (.head _);exact fillS_okay h (fun y hy=>hl y (.tail _ hy)) (q.ok h1 hx.1) (q.lt _ h2 hx.2)
    ·cases h
   ·cases h
  ·cases h
theorem opVal_okay(G:E.Good γ0 w0)(hb:E.base<=n){lk:Nat->Option SV}{M:Rows}{op:Op}{r:SV}{p:List Ob}(hk:Okay n lk)(hM:∀ r∈M,r.2.1.ok/\r.2.1.lt n=true)(h:opVal E lk M op=some (r,p))(hp:All p):r.ok/\r.lt n=true:=by
 cases op with
 | move x=>exact opnd_okay hk (map_nil h)
 | assign x=>exact opnd_okay hk (map_nil h)
 | pick c x y =>
  dsimp only[opVal]at h
  split at h
  ·exact opnd_okay hk (map_nil h)
  ·exact opnd_okay hk (map_nil h)
  ·split at h
   ·cases h
    exact⟨trivial,rfl⟩
   ·cases h
  ·cases h
 | load T x =>
  dsimp only[opVal]at h
  split at h
  ·split at h
   ·rename_i hr
    split at h
    ·have pt:=SV.sub_ok (fun _=>0) (map_nil h)
     have hm:=hM _ (rowIn_ok hr);exact⟨pt.ok hm.1,pt.lt _ hm.2⟩
    ·have hm:=hM _ (rowIn_ok hr)
     have hg:=G.rld _ _ _ _ _ _ _ n h hp hm.2 hm.1;exact⟨hg.1,hg.2.1⟩
   ·have hx':=G.xld _ _ _ _ _ _ _ h hp
    exact⟨hx'.1,SV.lt_mono hb hx'.2.1⟩
  ·cases h
 | build T parts =>
  dsimp only[opVal]at h
  split at h
  ·rename_i l hl
   have q:=parts_okay hk hl
   split at h
   ·rename_i y hy
    split at h
    ·have hb':=G.bld _ _ _ (map_nil h) (fun x hx=>(q x hx).1)
     exact⟨hb'.1,SV.lt_mono (Nat.zero_le _) hb'.2.1⟩
    ·split at h
     ·split at h
      ·rename_i rr hf
       split at h
       ·cases h
        have ty:=G.tys _ (tyIn_ok hy).1;exact fillS_okay hf q ty.zok (SV.lt_mono (Nat.zero_le _) ty.zlt)
       ·cases h
      ·cases h
     ·cases h
   ·cases h
  ·cases h
 | fieldAddr T x i =>
  dsimp only[opVal]at h
  split at h
  ·rename_i hx _
   split at h
   ·split at h
    ·cases h
    ·cases h
     exact⟨trivial,(opnd_okay hk hx).2⟩
   ·cases h
  ·cases h
 | extract x i =>
  dsimp only[opVal]at h
  split at h
  ·rename_i s t hx
   have q:=opnd_okay hk hx;have hl:s.lt n=true/\t.lt n=true:=by
    have:=q.2;simpa only[SV.lt,Bool.and_eq_true]using this
   split at h
   ·cases h
    exact⟨q.1.1,hl.1⟩
   ·split at h
    ·cases h
     exact⟨q.1.2,hl.2⟩
    ·cases h
  ·cases h
 | unOp op T x =>
  cases op <;> first | cases h | skip
  dsimp only[opVal]at h
  split at h
  ·cases h
   exact⟨trivial,rfl⟩
  ·cases h
   exact⟨trivial,rfl⟩
  ·cases h
 | binOp op T x y t =>
  dsimp only[opVal]at h
  split at h
  ·rename_i u v hu hv
   have hg:=G.bop _ _ _ _ _ _ h hp (opnd_okay hk hu).1 (opnd_okay hk hv).1;exact⟨hg.1,SV.lt_mono (Nat.zero_le _) hg.2.1⟩
  ·cases h
 | indexAddr T x y =>
  dsimp only[opVal]at h
  split at h
  ·rename_i u v hu hv
   have q1:=opnd_okay hk hu;have hg:=G.ixa _ _ _ _ _ n h hp q1.2 q1.1 (opnd_okay hk hv).1;exact⟨hg.1,hg.2.1⟩
  ·cases h
 | index T x y =>
  dsimp only[opVal]at h
  split at h
  ·rename_i u v hu hv
   have q1:=opnd_okay hk hu;have hg:=G.idx _ _ _ _ n (map_nil h) q1.2 q1.1 (opnd_okay hk hv).1;exact⟨hg.1,hg.2.1⟩
  ·cases h
 | convert F T x =>
  dsimp only[opVal]at h
  split at h
  ·rename_i u hu
   have q1:=opnd_okay hk hu;have hg:=G.cnv _ _ _ _ n (map_nil h) q1.2 q1.1;exact⟨hg.1,hg.2.1⟩
  ·cases h
 | nilCheck x =>
  dsimp only[opVal]at h
  split at h
  ·rename_i hx
   cases h;exact opnd_okay hk hx
  ·cases h
 | slice T x lo hi m =>
  cases m <;> first | (cases h;done) | skip
  dsimp only[opVal]at h
  split at h
  ·rename_i u l hh hu hl hhh
   have hg:=G.slc _ _ _ _ _ n (map_nil h) (opnd_okay hk hu).2;exact⟨hg.1,hg.2.1⟩
  ·cases h
 | makeFunc f first caps =>
  cases f <;> first | (cases h;done) | skip
  dsimp only[opVal]at h
  split at h
  ·split at h
   ·rename_i l hl
    cases h;exact(tuS_ok (γ:=fun _=>0) (n:=n) (opnds_okay hk hl)).2
   ·cases h
  ·split at h
   ·split at h
    ·rename_i hl
     cases h;exact⟨trivial,(opnds_okay hk hl _ (.head _)).2⟩
    ·cases h
   ·cases h
 | call c =>
  dsimp only[opVal]at h
  split at h
  ·split at h
   ·split at h
    ·cases h
     exact⟨hp _ (.head _),rfl⟩
    ·split at h
     ·cases h
      exact⟨trivial,rfl⟩
     ·cases h
   ·cases h
  ·cases h
 | _=>cases h
theorem callX_okay{n:Nat}{lk:Nat->Option SV}{c:Call}{f:FuncId}{l:List SV}(hk:Okay n lk)(h:callX lk c=some (f,l)):∀ u∈l,u.ok/\u.lt n=true:=by
 unfold callX at h
 split at h
 ·obtain⟨l',hl,e⟩:=Option.map_eq_some_iff.1 h
  cases e;exact opnds_okay hk hl
 ·split at h
  ·rename_i g k x l' ht hl
   split at h
   ·rename_i hc
    cases h;intro u hu;rcases List.mem_append.1 hu with hu | hu
    ·exact opnds_okay hk hl u hu
    ·have:=hk _ _ ht
     exact(capsOf_ok (γ:=fun _=>0) (n:=n) hc).2 this.1 this.2 u hu
   ·cases h
  ·rename_i g x l' ht hl
   cases h;intro u hu;rcases List.mem_cons.1 hu with rfl | hu
   ·exact⟨trivial,(hk _ _ ht).2⟩
   ·exact opnds_okay hk hl u hu
  ·rename_i v l' ht hl
   obtain⟨f',hf,e⟩:=Option.map_eq_some_iff.1 h;cases e;exact opnds_okay hk hl
  ·cases h
 ·cases h
theorem valS_okay(G:E.Good γ0 w0)(hb:E.base<=n){lk:Nat->Option SV}{M:Rows}{r:SV}{p:List Ob}(hk:Okay n lk)(hM:∀ r∈M,r.2.1.ok/\r.2.1.lt n=true)(h:valS E n lk M o=some (r,p))(hp:All p):r.ok:=by
 unfold valS at h
 split at h
 ·split at h
  ·split at h
   ·rename_i f l hl
    split at h
    ·rename_i hr
     cases h;exact(G.ctr _ _ _ _ _ _ _ hr hp hb (callX_okay hk hl) hM).1
    ·cases h
   ·cases h
  ·exact(opVal_okay G hb hk hM h hp).1
 ·exact(opVal_okay G hb hk hM h hp).1
theorem li_value{v:Value}(hw:Region.wanted o (yielded ops a.tmps)=true)(hr:(execOp a.eval o).run P w=.ok (.value v) w')(h:wpList P ops X rest (a.put o.dst v) w'):wpList P ops X (o::rest) a w :=
 wpList_step fun K hK=>by
  rw[if_pos hw];unfold Oper.wp;rw[hr];exact hK _ _ h
theorem li_unit(hw:Region.wanted o (yielded ops a.tmps)=true)(hr:(execOp a.eval o).run P w=.ok .skip w')(h:wpList P ops X rest (a.put o.dst undef) w'):wpList P ops X (o::rest) a w :=
 wpList_step fun K hK=>by
  rw[if_pos hw];unfold Oper.wp;rw[hr];exact hK _ _ h
theorem li_made{f:FuncId}{args:Array Value}{Z:Ending->World->Prop}(hw:Region.wanted o (yielded ops a.tmps)=true)(hr:(execOp a.eval o).run P w=.ok (.enter f args) w)
  (hc:Calls P f args w Z) (h:∀ e w',Z e w'->∃ v,e=.returned v/\wpList P ops X rest (a.put o.dst v) w'):wpList P ops X (o::rest) a w :=
 wpList_step fun K hK=>by
  rw[if_pos hw];unfold Oper.wp;rw[hr];refine Calls.mono hc ?_;intro e w' hz;obtain⟨v,rfl,hh⟩:=h e w' hz;exact hK _ _ hh
theorem made_nil{γ:Pl}{n:Nat}{r:SV}{wx w':World}{e:Ending}(hl:r.lt (n+([]:Rows).length)=true)(h:Made γ n r [] wx e w'):e=.returned (r.val γ)/\Below wx.heap.size wx w':=by
 obtain⟨⟨δ,h1,h2,_⟩,h3⟩:=h;exact⟨by rw[h2,(SV.lt_same h1 hl).2.2],h3⟩
theorem li_call{f:FuncId}{args:Array Value}{v:Value}(hw:Region.wanted o (yielded ops a.tmps)=true)(hr:(execOp a.eval o).run P w=.ok (.enter f args) w)
  (hc:Calls P f args w fun e w'=>e=.returned v/\Below w.heap.size w w') (h:∀ w',Below w.heap.size w w'->wpList P ops X rest (a.put o.dst v) w'):wpList P ops X (o::rest) a w :=
 wpList_step fun K hK=>by
  rw[if_pos hw];unfold Oper.wp;rw[hr];refine Calls.mono hc ?_;rintro e w' ⟨rfl,hb⟩;exact hK _ _ (h w' hb)
theorem callX_ok{γ:Pl}{n:Nat}{lk:Nat->Option SV}{c:Call}{f:FuncId}{l:List SV}(hk:Holds γ n lk a)(ho:o.op=.call c)(h:callX lk c=some (f,l)):execOp a.eval o=callFunc f (l.map (·.val γ)).toArray/\∀ u∈l,u.ok/\u.lt n=true:=by
 refine⟨?_,callX_okay (fun t x ht=>(hk t x ht).2) h⟩;obtain⟨ce,as_,ts⟩:=c;unfold callX at h;dsimp only at h;have key:∀ l',opnds lk as_.toList=some l'->as_.map a.eval=(l'.map (·.val γ)).toArray:=fun l' hl=>by
  apply Array.ext';rw[Array.toList_map];exact(opnds_ok hk hl).1
 split at h
 ·rename_i g
  obtain⟨l',hl,e⟩:=Option.map_eq_some_iff.1 h;cases e;unfold execOp;rw[ho];show(do let d <- resolve a.eval _ o.type;invoke d.target d.args)=_;unfold resolve Deferred.ofValue invoke;simp[Act.eval,key _ hl]
 ·rename_i t
  split at h
  ·rename_i g k x l' ht hl
   split at h
   ·rename_i hc
    cases h;have hv:=(hk t _ ht).1;have hc':=(capsOf_ok (γ:=γ) (n:=n) hc).1;unfold execOp;rw[ho];show(do let d <- resolve a.eval _ o.type;invoke d.target d.args)=_;unfold resolve Deferred.ofValue invoke;have hv':a.eval (.tmp t)=.func (.func f) #[] ((capsOf k x).map (·.val γ)).toArray:=by
     rw[<- hc'];exact hv
    simp[hv',key _ hl]
   ·cases h
  ·rename_i g' l' ht hl
   cases h;have hv:a.eval (.tmp t)=.func (.func f) #[.pointer (some ⟨γ g',0,none⟩)] #[]:=(hk t _ ht).1;unfold execOp;rw[ho];show(do let d <- resolve a.eval _ o.type;invoke d.target d.args)=_;unfold resolve Deferred.ofValue invoke;have e0:(SV.p g' 0 0 0).val γ=.pointer (some ⟨γ g',0,none⟩):=by
    show Value.pointer (some ⟨γ g',0+0*0,none⟩)=_;rw[Nat.mul_zero]
   simp[hv,key _ hl,e0]
  ·rename_i v l' ht hl
   obtain⟨f',hf,e⟩:=Option.map_eq_some_iff.1 h;cases e;have hv:a.eval (.tmp t)=.func (.func f) #[] #[]:=((hk t _ ht).1).trans (fnOf_ok hf);unfold execOp;rw[ho];show(do let d <- resolve a.eval _ o.type;invoke d.target d.args)=_;unfold resolve Deferred.ofValue invoke;simp[hv,key _ hl]
  ·cases h
 ·cases h
theorem fill_congr{f g:Nat->Option (Nat × Nat)}:∀ {l:List (Nat × Value)} {cs:Array Value},(∀ x∈l,f x.1=g x.1)->Instr.fill f cs l=Instr.fill g cs l
 | [],_,_=>rfl
 | (i,v)::l,cs,h=>by
  unfold Instr.fill;have h0:f i=g i:=h (i,v) (.head _);rw[h0];cases g i with
  | none=>rfl
  | some q =>
   obtain⟨off,sz⟩:=q;dsimp only
   split
   ·rfl
   ·exact fill_congr fun x hx=>h x (.tail _ hx)
theorem opVal_go(G:E.Good γ0 w0){d:Nat}{r:SV}{p:List Ob}(hx:(if d<N then needs p (k (s.put d (some r)))else Tr.bad).wp E.base Q)(R:Rel E γ0 γ N w0 s a w)(hw:Region.wanted o (yielded ops a.tmps)=true)(hd:o.dst=some d)(h:opVal E (look s.S) s.M o.op=some (r,p))
  (cont:∀ γ s' a' w',Rel E γ0 γ N w0 s' a' w'->(k s').wp E.base Q->wpList E.P ops X rest a' w'):wpList E.P ops X (o::rest) a w:=by
 split at hx
 ·rename_i hdN
  obtain⟨hp,hk⟩:=needs_wp hx;have q:=opVal_ok G R.ag R.base R.k R.lies R.h.old h hp;refine li_value hw q.1 ?_;rw[hd];exact cont _ _ _ _ (R.put hdN q.2.1 q.2.2) hk
 ·cases hx
theorem mkGo_ok(G:E.Good γ0 w0){d:Nat}(hx:(mkGo E N d o.op s k).wp E.base Q)(R:Rel E γ0 γ N w0 s a w)(hw:Region.wanted o (yielded ops a.tmps)=true)(hd:o.dst=some d)
  (cont:∀ γ s' a' w',Rel E γ0 γ N w0 s' a' w'->(k s').wp E.base Q->wpList E.P ops X rest a' w'):wpList E.P ops X (o::rest) a w:=by
 unfold mkGo at hx
 split at hx
 ·rename_i r p R' hr
  split at hx
  ·rename_i hdN
   obtain⟨hp,hk⟩:=needs_wp hx;have g:=G.mkr _ _ _ _ _ _ _ hr hp R.base (fun t x ht=>(R.k t x ht).2) (fun r hr=>⟨(R.m r hr).1,(R.m r hr).2.1⟩);obtain⟨v,w',h0,⟨δ,h1,h2,h3,h4⟩,h5⟩:=g.2.2.2 γ a o w rfl R.k R.lies;have e:v=r.val δ:=by injection h2
   subst e;refine li_value hw h0 ?_;rw[hd];exact cont _ _ _ _ (R.made hdN g.1 g.2.1 g.2.2.1 h1 h5 h3 h4) hk
  ·cases hx
 ·cases hx
theorem opGo_ok(G:E.Good γ0 w0)(hx:(opGo E N o s k).wp E.base Q)(R:Rel E γ0 γ N w0 s a w)(hw:Region.wanted o (yielded ops a.tmps)=true)
  (cont:∀ γ s' a' w',Rel E γ0 γ N w0 s' a' w'->(k s').wp E.base Q->wpList E.P ops X rest a' w'):wpList E.P ops X (o::rest) a w:=by
 obtain⟨op,ho⟩:∃ op,o.op=op:=⟨_,rfl⟩
 obtain⟨dst,hd⟩:∃ d,o.dst=d:=⟨_,rfl⟩
 unfold opGo at hx;rw[ho,hd]at hx
 split at hx
 ·rename_i T x y
  split at hx
  ·rename_i g off j z v ty hx1 hy1 ht
   split at hx
   ·rename_i hh
    obtain⟨rfl,hv,hz⟩:=hh
    split at hx
    ·rename_i M hM
     have q1:=opnd_ok R.k hx1;have q2:=opnd_ok R.k hy1;have tg:=(G.tys _ (tyIn_ok ht).1).sz;rw[(tyIn_ok ht).2,<- hz]at tg;obtain⟨w',h1,h2⟩:=R.store hM hv q2.2.1 q2.2.2 tg;refine li_unit (w':=w') hw ?_ ?_
     ·unfold execOp
      rw[ho];have e:a.eval x=.pointer (some ⟨γ g,off,none⟩):=by
       rw[q1.1];show Value.pointer (some ⟨γ g,off+j*0,none⟩)=_;rw[Nat.mul_zero,Nat.add_zero]
      simp only[e,q2.1,Sem.run_bind,h1,Result.andThen_ok,Sem.run_pure]
     ·rw[hd]
      exact cont _ _ _ _ h2 hx
    ·cases hx
   ·cases hx
  ·cases hx
 ·rename_i T d
  split at hx
  ·rename_i ty ht
   split at hx
   ·rename_i hdN
    have tg:=G.tys _ (tyIn_ok ht).1;obtain⟨δ,h2⟩:=R.new (T:=T) hdN tg.zok (SV.lt_mono (Nat.zero_le _) tg.zlt);have hz:=tg.zero;rw[(tyIn_ok ht).2,(SV.lt_same (γ:=fun _=>0) (δ:=γ) (n:=0) (fun k hk=>absurd hk (Nat.not_lt_zero _)) tg.zlt).2.1]at hz;refine li_value (v:=.pointer (some ⟨w.heap.size,0,none⟩)) (w':=w.alloc (.cells (ty.zero.cells γ).toArray T)) hw ?_ ?_
    ·unfold execOp
     rw[ho];cases hi:E.P.info? T with
     | none=>rw[hi]at hz;cases hz
     | some it =>
      rw[hi]at hz;cases hzz:it.zero with
      | none=>rw[Option.bind_some,hzz]at hz;cases hz
      | some zv =>
       rw[Option.bind_some,hzz]at hz;have hz':zv.cells=(ty.zero.cells γ).toArray:=Option.some.inj hz;simp[Instr.alloc,zeroValue,typeInfo,hi,hzz,newVar,newRow,hz']
    ·rw[hd]
     exact cont _ _ _ _ h2 hx
   ·cases hx
  ·cases hx
 ·rename_i T x d
  split at hx
  ·rename_i v hv
   split at hx
   ·rename_i hh
    have q:=opnd_ok R.k hv;obtain⟨δ,h2⟩:=R.new (T:=T) hh.1 q.2.1 q.2.2;refine li_value (v:=.pointer (some ⟨w.heap.size,0,none⟩)) (w':=w.alloc (.cells (v.cells γ).toArray T)) hw (run_box ho q.1 ?_) ?_
    ·rcases SV.plain_any hh.2 with h1 | h1
     ·rw[SV.val_one h1,cells_one (SV.one_cell h1)]
     ·rw[SV.val_many h1]
      rfl
    ·rw[hd]
     exact cont _ _ _ _ h2 hx
   ·cases hx
  ·cases hx
 ·rename_i T n parts d
  split at hx
  ·rename_i b l hb hl
   split at hx
   ·rename_i hc
    split at hx
    ·rename_i r hr
     obtain⟨hbm,hbT,hbn⟩:=bsIn_ok hb;have bg:=G.bss _ hbm;have q:=partsOf_ok R.k hl;have hall:=List.all_eq_true.1 hc.2;have hfo:=fillS_okay hr q.2 bg.ok (SV.lt_mono (Nat.zero_le _) bg.lt);obtain⟨δ,h2⟩:=R.newS (n:=n) (T:=b.e) hc.1 hfo.1 hfo.2;refine li_value (v:=.slice (some ⟨w.heap.size,0,none⟩) n n) (w':=w.alloc (.cells (r.cells γ).toArray b.e)) hw ?_ ?_
     ·have hfill:=fill_ok (γ:=γ) hr (fun x hx=>by have:=hall x hx;rw[Bool.and_eq_true]at this;exact this.2)
      have hz:=bg.z;rw[(SV.lt_same (γ:=fun _=>0) (δ:=γ) (n:=0) (fun k hk=>absurd hk (Nat.not_lt_zero _)) bg.lt).2.1]at hz;have hu:=bg.u;rw[hbT]at hu;have hfew:=of_decide_eq_false bg.few;have hpos:=of_decide_eq_false bg.pos;rw[hbn]at hz hfew hpos;cases hi:E.P.info? b.e with
      | none=>rw[hi]at hz;cases hz
      | some it =>
       have hs:=bg.i;rw[hi]at hz hs;have hs':it.size=b.sz:=Option.some.inj hs;cases hzz:it.zero with
       | none=>rw[Option.bind_some,hzz]at hz;cases hz
       | some zv =>
        rw[Option.bind_some,hzz]at hz;have hz':(Array.range (n*b.sz)).map (zv.cells[·%zv.cells.size]!)=(b.zs.cells γ).toArray:=Option.some.inj hz;have hfc:Instr.fill (fun i=>some (i*b.sz,b.sz)) (b.zs.cells γ).toArray (l.map fun x=>(x.1,x.2.val γ))=some (r.cells γ).toArray:=by
         rw[<- hfill];refine fill_congr fun x hx=>?_;obtain⟨y,hy,rfl⟩:=List.mem_map.1 hx;have hlt:y.1<n:=by
          have:=hall y hy;rw[Bool.and_eq_true]at this;exact of_decide_eq_true this.1
         simp[hlt]
        unfold execOp;rw[ho];have hrun:(Instr.buildSlice T n (parts.map fun(x:Nat × Operand)=>(x.1,a.eval x.2))).run E.P w=.ok (.slice (some ⟨w.heap.size,0,none⟩) n n) (w.alloc (.cells (r.cells γ).toArray b.e)):=by
         simp[Instr.buildSlice,run_underlying hu,sizeOf,typeInfo,hi,hs',hfew,hpos,zeroValue,hzz,hz',q.1,hfc,newRow]
        show(do let v <- Instr.buildSlice T n (parts.map fun(x:Nat × Operand)=>(x.1,a.eval x.2));pure (.value v):Sem Next).run E.P w=_;rw[Sem.run_bind,hrun,Result.andThen_ok,Sem.run_pure]
     ·rw[hd]
      exact cont _ _ _ _ h2 hx
    ·cases hx
   ·cases hx
  ·cases hx
 ·rename_i c d
  split at hx
  ·split at hx
   ·rename_i f l hl
    split at hx
    ·rename_i r p R' hr
     split at hx
     ·rename_i hdN
      obtain⟨hp,hk⟩:=needs_wp hx;have q:=callX_ok R.k ho hl;have g:=G.ctr _ _ _ _ _ _ _ hr hp R.base q.2 (fun r hr=>⟨(R.m r hr).1,(R.m r hr).2.1⟩);refine li_made (Z:=Made γ s.n r R' w) hw ((congrArg (fun m=>Sem.run E.P m w) q.1).trans (g.2.2.2.1 _ _)) ?_ fun e w' hz=>?_
      ·exact g.2.2.2.2 γ R.ag w R.h.old R.lies
      ·obtain⟨⟨δ,h1,h2,h3,h4⟩,h5⟩:=hz
       refine⟨_,h2,?_⟩;rw[hd];exact cont _ _ _ _ (R.made hdN g.1 g.2.1 g.2.2.1 h1 h5 h3 h4) hk
     ·cases hx
    ·cases hx
   ·cases hx
  ·split at hx
   ·rename_i r p hr
    exact opVal_go G hx R hw hd (by rw[ho];exact hr) cont
   ·exact mkGo_ok G (by rw[ho];exact hx) R hw hd cont
 ·rename_i op' d _ _ _
  split at hx
  ·rename_i r p hr
   exact opVal_go G hx R hw hd (by rw[ho];exact hr) cont
  ·exact mkGo_ok G (by rw[ho];exact hx) R hw hd cont
 ·cases hx
theorem valS_ok(G:E.Good γ0 w0)(R:Rel E γ0 γ N w0 s a w){lk:Nat->Option SV}{r:SV}{p:List Ob}(hk:Holds γ s.n lk a)(h:valS E s.n lk s.M o=some (r,p))(hp:All p)(hw:Region.wanted o (yielded ops a.tmps)=true)
  (cont:∀ w',Below w.heap.size w w'->wpList E.P ops X rest (a.put o.dst (r.val γ)) w'):r.ok/\wpList E.P ops X (o::rest) a w:=by
 unfold valS at h
 split at h
 ·rename_i c ho
  split at h
  ·split at h
   ·rename_i f l hl
    split at h
    ·rename_i r' p' hr
     cases h;have q:=callX_ok hk ho hl;have g:=G.ctr _ _ _ _ _ _ _ hr hp R.base q.2 (fun r hr=>⟨(R.m r hr).1,(R.m r hr).2.1⟩);refine⟨g.1,li_call (v:=r.val γ) hw ((congrArg (fun m=>Sem.run E.P m w) q.1).trans (g.2.2.2.1 _ _)) ?_ cont⟩;exact(g.2.2.2.2 γ R.ag w R.h.old R.lies).mono fun _ _=>made_nil g.2.1
    ·cases h
   ·cases h
  ·have q:=opVal_ok G R.ag R.base hk R.lies R.h.old (by rw[ho];exact h) hp
   exact⟨q.2.1,li_value hw q.1 (cont w (Below.refl _ _))⟩
 ·have q:=opVal_ok G R.ag R.base hk R.lies R.h.old h hp
  exact⟨q.2.1,li_value hw q.1 (cont w (Below.refl _ _))⟩
theorem Rel.forgetTo{d:Nat}{g:Bool}(R:Rel E γ0 γ N w0 s a w)(hd:d<N)(hg:g=false)(hl:x.lt s.n=true):Rel E γ0 γ N w0 (s.put d (some (.gd g x))) (a.put (some d) undef) w:=by
 have h:=R.put (x:=.gd g x) hd (fun h=>by rw[hg]at h;cases h) hl;have e:(SV.gd g x).val γ=undef:=by
  show(if g=true then x.val γ else undef)=undef;rw[hg];rfl
 rwa [e]at h
theorem wanted_eff{γ:Pl}{d j:Nat}{b e:Bool}{gx:SV}{tmps:Array Value}(hg:o.guard=some (j,b))(hd:(ops[j]?).bind (·.dst)=some d)(hv:tmps.getD d undef=gx.val γ)(h:gEff b gx=some e):Region.wanted o (yielded ops tmps)=e:=by
 have bit:∀ t:Bool,tmps.getD d undef=.bool t->Region.wanted o (yielded ops tmps)=if b=true then t else !t:=fun t ht=>by
  cases b with
  | true =>
   cases t with
   | true=>exact wanted_of hg hd ht
   | false=>exact unwanted_of hg hd ht rfl
  | false =>
   cases t with
   | true=>exact unwanted_of hg hd ht rfl
   | false=>exact wanted_of hg hd ht
 unfold gEff at h
 split at h
 ·rename_i t
  cases h;exact bit t hv
 ·rename_i g t
  cases h;cases g with
  | true=>exact bit t hv
  | false=>exact unwanted_undef hg hd hv
 ·rename_i g t
  cases h;cases g with
  | true=>exact bit t hv
  | false=>exact unwanted_undef hg hd hv
 ·cases h
theorem opAt_ok(G:E.Good γ0 w0)(hx:(opAt E N (fun j=>(ops[j]?).bind (·.dst)) o s k).wp E.base Q)(R:Rel E γ0 γ N w0 s a w)
  (cont:∀ γ s' a' w',Rel E γ0 γ N w0 s' a' w'->(k s').wp E.base Q->wpList E.P ops X rest a' w'):wpList E.P ops X (o::rest) a w:=by
 obtain⟨gd,hg⟩:∃ gd,o.guard=gd:=⟨_,rfl⟩
 obtain⟨dst,hd⟩:∃ d,o.dst=d:=⟨_,rfl⟩
 unfold opAt at hx;rw[hg,hd]at hx
 split at hx
 ·exact opGo_ok G hx R (by unfold Region.wanted;rw[hg]) cont
 ·rename_i j b
  have skip:∀ {d:Nat},o.dst=some d->Region.wanted o (yielded ops a.tmps)=false->(k (s.put d none)).wp E.base Q->wpList E.P ops X (o::rest) a w:=fun hd hw h =>
   wpList_skip hw (by rw[hd];exact cont _ _ _ _ R.forget h)
  split at hx
  ·rename_i d t hk
   split at hx
   ·obtain⟨e,he,hl⟩:=Option.bind_eq_some_iff.1 hk
    have hv:=(R.k _ _ hl).1
    split at hx
    ·rename_i htb
     subst htb;exact opGo_ok G hx R (wanted_of hg he hv) cont
    ·rename_i htb
     exact skip hd (unwanted_of hg he hv (by cases t <;> cases b <;> first | rfl | exact absurd rfl htb)) hx
   ·cases hx
  ·rename_i d gx _ hk
   split at hx
   ·rename_i hdN
    obtain⟨e',he,hl⟩:=Option.bind_eq_some_iff.1 hk;have hv:=(R.k _ _ hl).1
    split at hx
    ·rename_i e hge
     have hw:=wanted_eff hg he hv hge
     split at hx
     ·rename_i r p hr
      split at hx
      ·rename_i hlt
       obtain⟨hp,hk⟩:=needs_wp hx;have hp1:e=true->All p:=underG_ok fun q hq=>hp q (List.mem_append_left _ hq);have hp2:All (condG e (look s.S) (tmpsOf o)):=fun q hq=>hp q (List.mem_append_right _ hq);cases e with
       | true =>
        have hk':Holds γ s.n (lkG (look s.S) (tmpsOf o)) a:=fun u y hy=>by
         obtain⟨z,h1,h2,h3,h4⟩:=lkG_ok (γ:=γ) (n:=s.n) hy hp2 rfl;have:=R.k u z h1;exact⟨this.1.trans h4,h2 this.2.1,h3 this.2.2⟩
        have hok:=valS_okay G R.base (fun u y hy=>(hk' u y hy).2) (fun r hr=>⟨(R.m r hr).1,(R.m r hr).2.1⟩) hr (hp1 rfl);refine(valS_ok G R hk' hr (hp1 rfl) hw fun w' hb=>?_).2;have h:=(R.put (x:=.gd true r) hdN (fun _=>hok) hlt).below hb;rw[hd];exact cont _ _ _ _ h hk
       | false =>
        exact wpList_skip hw (by rw[hd];exact cont _ _ _ _ (R.forgetTo hdN rfl hlt) hk)
      ·cases hx
     ·cases e with
      | true=>exact opGo_ok G (hx.1 rfl) R hw cont
      | false=>exact skip hd hw (hx.2 rfl)
    ·cases hx
   ·cases hx
  ·cases hx
theorem seqX_ok(G:E.Good γ0 w0):∀ {l:List Oper} {s:St} {a:Act} {w:World} {γ:Pl} {k:St->Tr},(seqX E N (fun j=>(ops[j]?).bind (·.dst)) l s k).wp E.base Q->Rel E γ0 γ N w0 s a w ->
  (∀ γ s' a' w',Rel E γ0 γ N w0 s' a' w'->(k s').wp E.base Q->X .normal a' w')->wpList E.P ops X l a w
 | [],_,_,_,_,_,hx,R,cont=>wpList_nil (cont _ _ _ _ R hx)
 | _::_,_,_,_,_,_,hx,R,cont=>opAt_ok G hx R fun _ _ _ _ R' hk=>seqX_ok G hk R' cont
end
end Go.Proofs.YtadfjjfklihaaaaGreat.Sy
