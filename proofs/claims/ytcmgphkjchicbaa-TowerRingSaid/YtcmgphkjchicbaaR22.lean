/- Code walked over values told by letters: operations in the text's order, the control, a function's answer. No program is named here. (Cut to what is reached, written closely: SyC.) -/
import Derived.Test.YtcmgphkjchicbaaR21
set_option linter.all false
set_option maxRecDepth 100000
set_option maxHeartbeats 8000000
namespace Go.Proofs.Ytcmgphkjchicbaa.Sy
open Go.RowKit
structure St where
 S:List (Nat × Option SV)
 M:Rows
 n:Nat
inductive Tr
 | leaf (r:SV)
 | br (b:Bool) (t f:Tr)
 | need (p:Ob) (t:Tr)
 | cut (d:Nat) (s:St)
 | loop (d:Nat) (s:St) (body:St->Tr)
 | bad
structure Post where
 leaf:SV->Prop
 cut:Nat->St->Prop
def lookX:List (Nat × Option SV)->Nat->Option SV
 | [],_=>none
 | p::l,t=>if p.1=t then p.2 else lookX l t
def Wk(y x:SV):Prop:=(∀ γ,y.val γ=x.val γ)/\(y.ok->x.ok)
def subS(S:List (Nat × Option SV))(n:Nat):List (Nat × Option SV)->Prop
 | []=>True
 | (t,some x)::l=>((∃ y,lookX S t=some y/\Wk y x)/\x.lt n=true)/\subS S n l
 | (_,none)::l=>subS S n l
structure Sub (base:Nat) (s s':St):Prop where
 base:base<=s'.n
 S:subS s.S s'.n s'.S
 M:∃ gs:List Nat,s'.M=s.M.filter fun r=>gs.contains r.1
 lt:∀ r∈s'.M,r.2.1.lt s'.n=true/\r.1<s'.n
def Tr.wp(base:Nat):Tr->Post->Prop
 | .leaf r,Q=>Q.leaf r
 | .br b t f,Q=>(b=true->t.wp base Q)/\(b=false->f.wp base Q)
 | .need p t,Q=>p.holds/\t.wp base Q
 | .cut d s,Q=>Q.cut d s
 | .loop d s body,Q=>∃(ι:Type) (st:ι->St) (μ:ι->Nat),(∃ i,Sub base s (st i))/\∀ i,(body (st i)).wp base ⟨Q.leaf,fun d' s'=>if d'=d then ∃ j,μ j<μ i/\Sub base s' (st j)else Q.cut d' s'⟩
 | .bad,_=>False
def needs:List Ob->Tr->Tr
 | [],t=>t
 | p::l,t=>.need p (needs l t)
theorem needs_wp{base:Nat}{Q:Post}{t:Tr}:∀ {l:List Ob},(needs l t).wp base Q->All l/\t.wp base Q
 | [],h=>⟨fun p hp=>(by cases hp),h⟩
 | p::l,h=>by
  have ih:=needs_wp h.2;exact⟨fun q hq=>by
   rcases List.mem_cons.1 hq with rfl | hq
   ·exact h.1
   ·exact ih.1 q hq,ih.2⟩
abbrev look:=lookX
def St.put(s:St)(d:Nat)(x:Option SV):St:=⟨(d,x)::s.S,s.M,s.n⟩
def storeIn(g:Nat)(v:SV)(off:Nat):Rows->Option Rows
 | []=>none
 | r::l=>if r.1=g then (SV.put v off r.2.1).map fun x=>(r.1,x,r.2.2)::l else (storeIn g v off l).map (r::·)
def SV.plain:SV->Bool
 | .w _ | .e=>true
 | .ap h t=>h.plain&&t.plain
 | x=>x.one
theorem SV.plain_any:∀ {x:SV},x.plain=true->x.one=true\/x.many=true
 | .w _,_ | .e,_ | .ap _ _,_=>.inr rfl
 | .b _,_ | .i _ _,_ | .na _,_ | .p _ _ _ _,_ | .s _ _ _ _,_=>.inl rfl
 | .v _,h=>.inl h
theorem SV.plain_cells{γ:Pl}:∀ {x:SV},x.plain=true->∀ c∈x.cells γ,c.oneCell'=true
 | .w x,_,c,hc=>by
  simp only[SV.cells,pw,List.mem_cons,List.not_mem_nil,or_false]at hc;rcases hc with rfl | rfl | rfl | rfl <;> rfl
 | .e,_,c,hc=>by cases hc
 | .ap h t,hp,c,hc=>by
  have hp':h.plain=true/\t.plain=true:=by simpa only[SV.plain,Bool.and_eq_true]using hp
  rcases List.mem_append.1 hc with hc | hc
  ·exact plain_cells hp'.1 c hc
  ·exact plain_cells hp'.2 c hc
 | .b _,_,c,hc | .i _ _,_,c,hc | .na _,_,c,hc | .p _ _ _ _,_,c,hc | .s _ _ _ _,_,c,hc=>by
  cases hc with
  | head=>rfl
  | tail _ h=>cases h
 | .v x,hp,c,hc=>by
  cases hc with
  | head=>exact hp
  | tail _ h=>cases h
def opGo(E:Env)(N:Nat)(o:Oper)(s:St)(k:St->Tr):Tr :=
 match o.op,o.dst with
 | .store T x y,none=>match opnd (look s.S) x,opnd (look s.S) y,tyIn T E.tys with
  | some (.p g off _ z),some v,some ty=>if z=0/\v.plain=true/\v.size=ty.sz then match storeIn g v off s.M with
   | some M=>k ⟨s.S,M,s.n⟩
   | none=>.bad
   else .bad
  | _,_,_=>.bad
 | .alloc T,some d=>match tyIn T E.tys with
  | some ty=>if d<N then k ⟨(d,some (.p s.n 0 0 0))::s.S,(s.n,ty.zero,T)::s.M,s.n+1⟩else .bad
  | none=>.bad
 | .box T x,some d=>match opnd (look s.S) x with
  | some v=>if d<N/\v.plain=true then k ⟨(d,some (.p s.n 0 0 0))::s.S,(s.n,v,T)::s.M,s.n+1⟩else .bad
  | none=>.bad
 | .buildSlice T n parts,some d=>match bsIn T n E.bss,partsOf (look s.S) parts.toList with
  | some b,some l=>if d<N/\l.all (fun x=>decide (x.1<n)&&(x.2.one||x.2.many))=true then match fillS ((List.range n).map fun i=>(i*b.sz,b.sz)) b.zs l with
   | some r=>k ⟨(d,some (.s s.n 0 n n))::s.S,(s.n,r,b.e)::s.M,s.n+1⟩
   | none=>.bad
   else .bad
  | _,_=>.bad
 | .call c,some d=>match c.callee with
  | .value _=>match callX (look s.S) c with
   | some (f,l)=>match E.ctr f s.n s.M l with
    | some (r,p,R)=>if d<N then needs p (k ⟨(d,some r)::s.S,R++s.M,s.n+R.length⟩)else .bad
    | none=>.bad
   | none=>.bad
  | _=>match opVal E (look s.S) s.M (.call c)with
   | some (r,p)=>if d<N then needs p (k (s.put d (some r)))else .bad
   | none=>.bad
 | op,some d=>match opVal E (look s.S) s.M op with
  | some (r,p)=>if d<N then needs p (k (s.put d (some r)))else .bad
  | none=>.bad
 | _,_=>.bad
def underG(g:Bool):List Ob->List Ob
 | []=>[]
 | .same a b::l=>.same (g&&a) b::underG g l
 | .ask p::l=>.ask (g=true->p)::underG g l
 | .eq x y::l=>.eq x y::underG g l
theorem underG_ok{g:Bool}:∀ {l:List Ob},All (underG g l)->g=true->All l
 | [],_,_=>fun p hp=>by cases hp
 | .same a b::l,h,hg=>fun p hp=>by
  rcases List.mem_cons.1 hp with rfl | hp
  ·have h1:(g&&a)=true->b=true:=h _ (.head _)
   rw[hg]at h1;exact h1
  ·exact underG_ok (fun q hq=>h q (.tail _ hq)) hg p hp
 | .eq x y::l,h,hg=>fun p hp=>by
  rcases List.mem_cons.1 hp with rfl | hp
  ·exact h _ (.head _)
  ·exact underG_ok (fun q hq=>h q (.tail _ hq)) hg p hp
 | .ask q::l,h,hg=>fun p hp=>by
  rcases List.mem_cons.1 hp with rfl | hp
  ·have h1:g=true->q:=h _ (.head _)
   exact h1 hg
  ·exact underG_ok (fun q hq=>h q (.tail _ hq)) hg p hp
def stripG:SV->SV
 | .gd _ x=>x
 | x=>x
def tmpsOf(o:Oper):List Nat:=(match o.op with
 | .pick c _ _=>[c]
 | op=>op.operands.toList:List Operand).filterMap fun(x:Operand)=>match x with
 | .tmp t=>some t
 | _=>none
def lkG(lk:Nat->Option SV)(ts:List Nat)(t:Nat):Option SV:=if ts.contains t=true then (lk t).map stripG else lk t
def gEff(b:Bool):SV->Option Bool
 | .b t=>some (if b then t else !t)
 | .gd g (.b t)=>some (g&&(if b then t else !t))
 | .gd g (.v (.bool t))=>some (g&&(if b then t else !t))
 | _=>none
def condG(g:Bool)(lk:Nat->Option SV):List Nat->List Ob
 | []=>[]
 | t::l=>match lk t with
  | some (.gd g' _)=>.same g g'::condG g lk l
  | _=>condG g lk l
theorem condG_mem{g g':Bool}{lk:Nat->Option SV}{y:SV}{t:Nat}:∀ {ts:List Nat},t∈ts->lk t=some (.gd g' y)->Ob.same g g'∈condG g lk ts
 | [],h,_=>by cases h
 | u::l,h,hl=>by
  unfold condG;rcases List.mem_cons.1 h with rfl | h
  ·rw[hl]
   exact .head _
  ·split
   ·exact .tail _ (condG_mem h hl)
   ·exact condG_mem h hl
theorem lkG_ok{γ:Pl}{n:Nat}{lk:Nat->Option SV}{ts:List Nat}{g:Bool}{t:Nat}{x:SV}(hx:lkG lk ts t=some x)(hp:All (condG g lk ts))(hg:g=true):∃ y,lk t=some y/\(y.ok->x.ok)/\(y.lt n=true->x.lt n=true)/\y.val γ=x.val γ:=by
 unfold lkG at hx
 split at hx
 ·rename_i ht
  cases hy:lk t with
  | none=>rw[hy]at hx;cases hx
  | some y =>
   rw[hy]at hx;cases hx;refine⟨y,rfl,?_⟩;cases y with
   | gd g' z =>
    have h1:g'=true:=hp _ (condG_mem (by simpa using ht) hy) hg;subst h1;exact⟨fun h=>h rfl,id,rfl⟩
   | _=>exact⟨id,id,rfl⟩
 ·exact⟨x,hx,id,id,rfl⟩
def valS(E:Env)(n:Nat)(lk:Nat->Option SV)(M:Rows)(o:Oper):Option (SV × List Ob):=match o.op with
 | .call c=>match c.callee with
  | .value _=>match callX lk c with
   | some (f,l)=>match E.ctr f n M l with
    | some (r,p,[])=>some (r,p)
    | _=>none
   | none=>none
  | _=>opVal E lk M (.call c)
 | op=>opVal E lk M op
def opAt(E:Env)(N:Nat)(D:Nat->Option Nat)(o:Oper)(s:St)(k:St->Tr):Tr :=
 match o.guard with
 | none=>opGo E N o s k
 | some (j,b)=>match o.dst,(D j).bind (look s.S)with
  | some d,some (.v (.bool t))=>if d<N then (if t=b then opGo E N o s k else k (s.put d none))else .bad
  | some d,some gx=>if d<N then (match gEff b gx with
   | some e=>match valS E s.n (lkG (look s.S) (tmpsOf o)) s.M o with
    | some (x,p)=>if x.lt s.n=true then needs (underG e p++condG e (look s.S) (tmpsOf o)) (k (s.put d (some (.gd e x))))else .bad
    | none=>.br e (opGo E N o s k) (k (s.put d none))
   | none=>.bad)else .bad
  | _,_=>.bad
def seqX(E:Env)(N:Nat)(D:Nat->Option Nat):List Oper->St->(St->Tr)->Tr
 | [],s,k=>k s
 | o::l,s,k=>opAt E N D o s fun s'=>seqX E N D l s' k
/-! It is so. -/
structure Rel (E:Env) (γ0 γ:Pl) (N:Nat) (w0:World) (s:St) (a:Act) (w:World):Prop where
 ag:Agree E γ0 γ
 base:E.base<=s.n
 z:a.tmps.size=N
 d:a.defers=[]
 k:Holds γ s.n (look s.S) a
 h:HC w0 (s.M.map fun r=>(γ r.1,(r.2.1.cells γ).toArray,r.2.2)) w
 m:∀ r∈s.M,r.2.1.ok/\r.2.1.lt s.n=true/\r.1<s.n
section
variable {E:Env} {γ0 γ:Pl} {N:Nat} {w0 w wx w':World} {s:St} {a:Act} {o:Oper} {x:SV}
theorem Rel.lies(h:Rel E γ0 γ N w0 s a w):Lies γ s.n s.M w:=fun r hr =>
 ⟨(h.h.rows _ (List.mem_map.2 ⟨r,hr,rfl⟩)).2,(h.m r hr).1,(h.m r hr).2.1⟩
theorem Rel.put{d:Nat}(h:Rel E γ0 γ N w0 s a w)(hd:d<N)(ho:x.ok)(hl:x.lt s.n=true):Rel E γ0 γ N w0 (s.put d (some x)) (a.put (some d) (x.val γ)) w :=
 ⟨h.ag,h.base,by rw[put_size];exact h.z,by rw[put_defers];exact h.d,fun t y hy=>by
  unfold St.put look lookX at hy;dsimp only at hy
  split at hy
  ·rename_i e
   cases hy;subst e;exact⟨put_same _ _ _ (by rw[h.z];exact hd),ho,hl⟩
  ·rename_i e
   have:=h.k t y hy;exact⟨by rw[put_other _ _ _ _ (fun q=>e (Option.some.inj q))];exact this.1,this.2⟩,h.h,h.m⟩
theorem Rel.forget{d:Nat}{v:Value}(h:Rel E γ0 γ N w0 s a w):Rel E γ0 γ N w0 (s.put d none) (a.put (some d) v) w :=
 ⟨h.ag,h.base,by rw[put_size];exact h.z,by rw[put_defers];exact h.d,fun t y hy=>by
  unfold St.put look lookX at hy;dsimp only at hy
  split at hy
  ·cases hy
  ·rename_i e
   have:=h.k t y hy;exact⟨by rw[put_other _ _ _ _ (fun q=>e (Option.some.inj q))];exact this.1,this.2⟩,h.h,h.m⟩
theorem Rel.below(h:Rel E γ0 γ N w0 s a w)(hb:Below w.heap.size w w'):Rel E γ0 γ N w0 s a w':=⟨h.ag,h.base,h.z,h.d,h.k,h.h.below hb,h.m⟩
theorem Rel.made{d:Nat}{R:Rows}{δ:Pl}(h:Rel E γ0 γ N w0 s a w)(hd:d<N)(ho:x.ok)(hl:x.lt (s.n+R.length)=true)(hR:∀ q∈R,q.2.1.ok/\q.2.1.lt (s.n+R.length)=true/\s.n<=q.1/\q.1<s.n+R.length)(e:∀ k,k<s.n->δ k=γ k)(hb:Below w.heap.size w w')
  (h1:∀ q∈R,w.heap.size<=δ q.1/\w'.heap[δ q.1]?=some (.cells (q.2.1.cells δ).toArray q.2.2 (0,0))) (h2:R.Pairwise fun p q=>δ p.1≠δ q.1):Rel E γ0 δ N w0 ⟨(d,some x)::s.S,R++s.M,s.n+R.length⟩ (a.put (some d) (x.val δ)) w':=by
 have e':∀ k,k<s.n->γ k=δ k:=fun k hk=>(e k hk).symm;have hh:=h.h.below hb;have em:(s.M.map fun r=>(δ r.1,(r.2.1.cells δ).toArray,r.2.2))=s.M.map fun r=>(γ r.1,(r.2.1.cells γ).toArray,r.2.2) :=
  List.map_congr_left fun r hr=>by
   have:=h.m r hr;rw[<- e' r.1 this.2.2,(SV.lt_same e' this.2.1).2.1]
 refine⟨fun k hk=>(e k (Nat.lt_of_lt_of_le hk h.base)).trans (h.ag k hk),Nat.le_trans h.base (Nat.le_add_right _ _),by rw[put_size];exact h.z,by rw[put_defers];exact h.d,fun t y hy=>?_,?_,fun r hr=>?_⟩
 ·unfold look lookX at hy
  dsimp only at hy
  split at hy
  ·rename_i q
   cases hy;subst q;exact⟨put_same _ _ _ (by rw[h.z];exact hd),ho,hl⟩
  ·rename_i q
   have:=h.k t y hy;refine⟨?_,this.2.1,SV.lt_mono (Nat.le_add_right _ _) this.2.2⟩;rw[put_other _ _ _ _ (fun c=>q (Option.some.inj c)),this.1];exact(SV.lt_same e' this.2.2).2.2
 ·show HC w0 ((R++s.M).map fun r=>(δ r.1,(r.2.1.cells δ).toArray,r.2.2)) _
  rw[List.map_append,em];refine⟨hh.old,fun p hp=>?_,List.pairwise_append.2 ⟨List.pairwise_map.2 h2,hh.nd,fun p hp q hq=>?_⟩⟩
  ·rcases List.mem_append.1 hp with hp | hp
   ·obtain⟨q,hq,rfl⟩:=List.mem_map.1 hp
    have:=h1 q hq;exact⟨Nat.le_trans h.h.old.size this.1,this.2⟩
   ·exact hh.rows p hp
  ·obtain⟨u,hu,rfl⟩:=List.mem_map.1 hp
   have g1:=(h1 u hu).1;have g2:=(Array.getElem?_eq_some_iff.1 (h.h.rows q hq).2).1;show δ u.1≠q.1;omega
 ·rcases List.mem_append.1 hr with hr | hr
  ·have:=hR r hr
   exact⟨this.1,this.2.1,this.2.2.2⟩
  ·have:=h.m r hr
   exact⟨this.1,SV.lt_mono (Nat.le_add_right _ _) this.2.1,Nat.lt_of_lt_of_le this.2.2 (Nat.le_add_right _ _)⟩
theorem Rel.newS{d n:Nat}{T:TypeId}(h:Rel E γ0 γ N w0 s a w)(hd:d<N)(ho:x.ok)(hl:x.lt s.n=true) :
  ∃ δ,Rel E γ0 δ N w0 ⟨(d,some (.s s.n 0 n n))::s.S,(s.n,x,T)::s.M,s.n+1⟩ (a.put (some d) (.slice (some ⟨w.heap.size,0,none⟩) n n)) (w.alloc (.cells (x.cells γ).toArray T)):=by
 obtain⟨δ,hδ⟩:∃ δ:Pl,∀ k,δ k=if k=s.n then w.heap.size else γ k:=⟨_,fun _=>rfl⟩
 have e:∀ k,k<s.n->γ k=δ k:=fun k hk=>by rw[hδ,if_neg (by omega)]
 have q:(SV.s s.n 0 n n).val δ=.slice (some ⟨w.heap.size,0,none⟩) n n:=by
  show Value.slice (some ⟨δ s.n,0,none⟩) n n=_;rw[hδ,if_pos rfl]
 refine⟨δ,?_⟩;rw[<- q];refine h.made (R:=[(s.n,x,T)]) (x:=.s s.n 0 n n) hd trivial (decide_eq_true (Nat.lt_succ_self _)) (fun p hp=>?_) (fun k hk=>(e k hk).symm) ((Below.refl _ _).alloc (Nat.le_refl _) _) (fun p hp=>?_) (List.pairwise_singleton _ _)
 ·simp only[List.mem_cons,List.not_mem_nil,or_false]at hp
  subst hp;exact⟨ho,SV.lt_mono (Nat.le_succ _) hl,Nat.le_refl _,Nat.lt_succ_self _⟩
 ·simp only[List.mem_cons,List.not_mem_nil,or_false]at hp
  subst hp;refine⟨by rw[hδ,if_pos rfl];exact Nat.le_refl _,?_⟩;show(w.alloc _).heap[δ s.n]?=some (.cells (x.cells δ).toArray T (0,0));rw[hδ,if_pos rfl,<- (SV.lt_same e hl).2.1];exact heap_alloc_new _ _
theorem Rel.new{d:Nat}{T:TypeId}(h:Rel E γ0 γ N w0 s a w)(hd:d<N)(ho:x.ok)(hl:x.lt s.n=true) :
  ∃ δ,Rel E γ0 δ N w0 ⟨(d,some (.p s.n 0 0 0))::s.S,(s.n,x,T)::s.M,s.n+1⟩ (a.put (some d) (.pointer (some ⟨w.heap.size,0,none⟩))) (w.alloc (.cells (x.cells γ).toArray T)):=by
 obtain⟨δ,hδ⟩:∃ δ:Pl,∀ k,δ k=if k=s.n then w.heap.size else γ k:=⟨_,fun _=>rfl⟩
 have e:∀ k,k<s.n->γ k=δ k:=fun k hk=>by rw[hδ,if_neg (by omega)]
 refine⟨δ,fun k hk=>?_,Nat.le_succ_of_le h.base,by rw[put_size];exact h.z,by rw[put_defers];exact h.d,fun t y hy=>?_,?_,fun r hr=>?_⟩
 ·rw[<- e k (Nat.lt_of_lt_of_le hk h.base)];exact h.ag k hk
 ·unfold look lookX at hy
  dsimp only at hy
  split at hy
  ·rename_i q
   cases hy;subst q;refine⟨?_,trivial,decide_eq_true (Nat.lt_succ_self _)⟩;rw[put_same _ _ _ (by rw[h.z];exact hd)];show _=Value.pointer (some ⟨δ s.n,0+0*0,none⟩);rw[hδ,if_pos rfl]
  ·rename_i q
   have:=h.k t y hy;refine⟨?_,this.2.1,SV.lt_mono (Nat.le_succ _) this.2.2⟩;rw[put_other _ _ _ _ (fun c=>q (Option.some.inj c)),this.1];exact(SV.lt_same e this.2.2).2.2
 ·have hh:=h.h.new (x.cells γ).toArray T
  have e1:(s.M.map fun r=>(δ r.1,(r.2.1.cells δ).toArray,r.2.2))=s.M.map fun r=>(γ r.1,(r.2.1.cells γ).toArray,r.2.2) :=
   List.map_congr_left fun r hr=>by
    have:=h.m r hr;rw[<- e r.1 this.2.2,(SV.lt_same e this.2.1).2.1]
  show HC w0 ((δ s.n,(x.cells δ).toArray,T)::s.M.map fun r=>(δ r.1,(r.2.1.cells δ).toArray,r.2.2)) _;rw[e1,<- (SV.lt_same e hl).2.1,hδ,if_pos rfl];exact hh
 ·rcases List.mem_cons.1 hr with rfl | hr
  ·exact⟨ho,SV.lt_mono (Nat.le_succ _) hl,Nat.lt_succ_self _⟩
  ·have:=h.m r hr
   exact⟨this.1,SV.lt_mono (Nat.le_succ _) this.2.1,Nat.lt_succ_of_lt this.2.2⟩
theorem setRow_self{g:Nat}{T:TypeId}{cs:Array Value}(hg:w.heap[g]?=some (.cells cs T (0,0))):w.setRow g cs=w:=by
 have e:(w.heap.modify g fun
   | .cells _ elem frozen=>.cells cs elem frozen
   | o=>o)=w.heap:=by
  apply Array.ext_getElem?;intro i;rw[Array.getElem?_modify];by_cases e:g=i
  ·subst e
   rw[if_pos rfl,hg];rfl
  ·rw[if_neg e]
 exact congrArg (fun h=>({ w with heap:=h }:World)) e
theorem setCells_row(g:Nat)(T:TypeId):∀(vs:List Value) (off:Nat) (w:World) (cs:Array Value),w.heap[g]?=some (.cells cs T (0,0))->∃ c',w.setCells g off vs=w.setRow g c'/\c'.size=cs.size/\(off+vs.length<=cs.size->∀ k:Nat,c'[k]?=if off<=k/\k<off+vs.length then vs[k - off]? else cs[k]?)
 | [],off,w,cs,hg=>⟨cs,(setRow_self hg).symm,rfl,fun _ k=>by rw[if_neg (by simp only[List.length_nil];omega)]⟩
 | v::vs,off,w,cs,hg=>by
  have h1:=setCell_eq_setRow w g off cs T (0,0) v hg;obtain⟨c',h2,h3,h4⟩:=setCells_row g T vs (off+1) (w.setRow g (cs.setIfInBounds off v)) (cs.setIfInBounds off v) (setRow_heap w g cs _ T _ hg);refine⟨c',?_,by rw[h3,Array.size_setIfInBounds],fun hf k=>?_⟩
  ·show(w.setCell ⟨g,off,none⟩ v).setCells g (off+1) vs=_
   rw[h1,h2,setRow_setRow]
  ·simp only[List.length_cons]at hf
   rw[h4 (by rw[Array.size_setIfInBounds];omega) k];simp only[List.length_cons];by_cases e:k=off
   ·subst e
    rw[if_neg (by omega),if_pos (by omega),Nat.sub_self,Array.getElem?_setIfInBounds_self_of_lt (by omega)];rfl
   ·by_cases h5:off+1<=k/\k<off+1+vs.length
    ·rw[if_pos h5,if_pos (by omega),show k - off=(k - (off+1))+1 by omega,List.getElem?_cons_succ]
    ·rw[if_neg h5,if_neg (by omega),Array.getElem?_setIfInBounds_ne (by omega)]
theorem store_ok{P:Program}{g off:Nat}{T t:TypeId}{x y v:SV}(hg:w.heap[g]?=some (.cells (x.cells γ).toArray t (0,0)))(hs:(P.info? T).map (·.size)=some v.size)(hp:SV.put v off x=some y)(hv:v.plain=true) :
  (Instr.storeAt T (.pointer (some ⟨g,off,none⟩)) (v.val γ)).run P w=.ok () (w.setRow g (y.cells γ).toArray):=by
 have q:=SV.put_ok γ hp;have qf:=q.fits;have lx:=SV.cells_len γ x;have lv:=SV.cells_len γ v;have hc:(v.val γ).cells=(v.cells γ).toArray:=by
  rcases SV.plain_any hv with h1 | h1
  ·rw[SV.val_one h1,cells_one (SV.one_cell h1)]
  ·rw[SV.val_many h1]
   rfl
 obtain⟨c',h2,h3,h4⟩:=setCells_row g t (v.cells γ) off w _ hg;have e:c'=(y.cells γ).toArray:=by
  apply Array.ext_getElem?;intro k;rw[h4 (by simp only[List.size_toArray];omega) k];simp only[List.getElem?_toArray];rw[q.cells k,lv]
 subst e;have hst:=run_storeCells_cells (P:=P) g off (v.cells γ) 0 w (fun j hj=>by
   rw[cell_of_row w g _ _ t _ hg];simp only[List.getElem?_toArray,Option.isSome_iff_exists];exact⟨_,List.getElem?_eq_getElem (by omega)⟩) (fun j hj=>frozen_of_row w g _ _ t hg) (SV.plain_cells hv)
 rw[Nat.add_zero,h2]at hst;cases hq:P.info? T with
 | none=>rw[hq]at hs;cases hs
 | some i =>
  rw[hq]at hs;have hs':i.size=v.size:=Option.some.inj hs;have hl:(v.cells γ).length=i.size:=by omega
  simp[Instr.storeAt,Instr.sureAddr,storeVar,sizeOf,typeInfo,hq,hc,hl,hst]
theorem storeIn_split{g off:Nat}{v:SV}:∀ {M M':Rows},storeIn g v off M=some M'->∃ A B x T y,M=A++(g,x,T)::B/\M'=A++(g,y,T)::B/\SV.put v off x=some y
 | [],_,h=>by cases h
 | r::l,M',h=>by
  unfold storeIn at h
  split at h
  ·rename_i e
   cases hp:SV.put v off r.2.1 with
   | none=>rw[hp]at h;cases h
   | some y =>
    rw[hp]at h;cases h;subst e;exact⟨[],l,r.2.1,r.2.2,y,rfl,rfl,hp⟩
  ·cases hp:storeIn g v off l with
   | none=>rw[hp]at h;cases h
   | some l' =>
    rw[hp]at h;cases h;obtain⟨A,B,x,T,y,h1,h2,h3⟩:=storeIn_split hp;exact⟨r::A,B,x,T,y,by rw[h1];rfl,by rw[h2];rfl,h3⟩
theorem Rel.store{g off:Nat}{v:SV}{M:Rows}{T:TypeId}(h:Rel E γ0 γ N w0 s a w)(hs:storeIn g v off s.M=some M)(hv:v.plain=true)(ho:v.ok)(hl:v.lt s.n=true)(hT:(E.P.info? T).map (·.size)=some v.size) :
  ∃ w',(Instr.storeAt T (.pointer (some ⟨γ g,off,none⟩)) (v.val γ)).run E.P w=.ok () w'/\Rel E γ0 γ N w0 ⟨s.S,M,s.n⟩ a w':=by
 obtain⟨A,B,x,t,y,h1,h2,h3⟩:=storeIn_split hs;have hm:=h.m (g,x,t) (by rw[h1];simp);have hr:=h.lies (g,x,t) (by rw[h1];simp);have q:=SV.put_ok γ h3;refine⟨_,store_ok hr.1 hT h3 hv,h.ag,h.base,h.z,h.d,h.k,?_,fun r hr=>?_⟩
 ·have hh:=h.h
  rw[h1,List.map_append,List.map_cons]at hh;have:=HC.set _ _ hh (y.cells γ).toArray;show HC w0 (M.map _) _;rw[h2,List.map_append,List.map_cons];exact this
 ·have hr':r∈M:=hr
  rw[h2]at hr';rcases List.mem_append.1 hr' with hr' | hr'
  ·exact h.m r (by rw[h1];exact List.mem_append_left _ hr')
  ·rcases List.mem_cons.1 hr' with rfl | hr'
   ·exact⟨q.ok hm.1 ho,q.lt _ hm.2.1 hl,hm.2.2⟩
   ·exact h.m r (by rw[h1];exact List.mem_append_right _ (.tail _ hr'))
end
end Go.Proofs.Ytcmgphkjchicbaa.Sy
