/- Numbers compared and reckoned, words, whatever lies side by side compared; what is called, by what it answers. (Cut to what is reached, written closely: SyF · SyW · SyB.) -/
import Derived.Test.YtadfjjfklihaaaaGreatP21
import Derived.Deep.LoopGhost
import Derived.Test.YtadfjjfklihaaaaGreatP19
import Derived.Test.YtadfjjfklihaaaaGreatP20
set_option linter.all false
set_option maxRecDepth 100000
set_option maxHeartbeats 8000000
namespace Go.Proofs.YtadfjjfklihaaaaGreat.Sy
open Go.RowKit
def normL:List (Nat × Option SV)->List (Nat × Option SV)
 | []=>[]
 | p::l=>(p.1,p.2.map normS)::normL l
def normT(s:St):St:=⟨normL s.S,s.M,s.n⟩
def rep(f:St->(Exit->St->Tr)->Tr):Nat->St->(Exit->St->Tr)->Tr
 | 0,_,_=>.bad
 | n+1,s,k=>f s fun e s'=>match e with
  | .normal=>rep f n s' k
  | e=>k e s'
def exec(E:Env)(N:Nat)(hd:Nat->Nat):Code->Nat->Nat->St->(Exit->St->Tr)->Tr
 | .skip,_,_,s,k=>k .normal s
 | .region _ ops draw,_,_,s,k=>match draw with
  | true=>drawX E N ops.toList s (k .normal)
  | false=>seqX E N (fun j=>(ops[j]?).bind (·.dst)) ops.toList s (k .normal)
 | .seq x y,b,d,s,k=>exec E N hd x b d s fun e s'=>match e with
  | .normal=>exec E N hd y b d s' k
  | e=>k e s'
 | .cond c x y,b,d,s,k=>match opnd (look s.S) c with
  | some (.b t)=>.br t (exec E N hd x b d s k) (exec E N hd y b d s k)
  | some (.v (.bool t))=>match t with
   | true=>exec E N hd x b d s k
   | false=>exec E N hd y b d s k
  | _=>.bad
 | .block id c,_,d,s,k=>exec E N hd c id d s fun e s'=>match e with
  | .exit j=>if j=id then k .normal s' else k (.exit j) s'
  | e=>k e s'
 | .loop c,b,d,s,k=>match hd b with
  | 0=>.loop d (normT s) fun s0=>exec E N hd c b (d+1) s0 fun e s'=>match e with
   | .normal=>.cut d (normT s')
   | e=>k e s'
  | n+1=>rep (fun s k=>exec E N hd c b d s k) (n+1) s k
 | .exit id,_,_,s,k=>k (.exit id) s
 | .ret,_,_,s,k=>k .ret s
 | _,_,_,_,_=>.bad
def resX(E:Env)(s:St):ResultVar->Option SV
 | .tmp t=>look s.S t
 | .cell p T=>match look s.S p,tyIn T E.tys with
  | some (.p g o _ z),some y=>match rowIn g s.M with
   | some r=>if z=0 then SV.sub y.m o y.sz r.1 else none
   | none=>none
  | _,_=>none
def finX(E:Env)(rs:Array ResultVar)(e:Exit)(s:St):Tr :=
 match e with
 | .normal | .ret=>match rs.toList with
  | [r]=>match resX E s r with
   | some x=>if x.lt E.base=true then .leaf x else .bad
   | none=>.bad
  | [r,q]=>match resX E s r,resX E s q with
   | some x,some y=>if x.lt E.base=true/\y.lt E.base=true then .leaf (.tu x y)else .bad
   | _,_=>.bad
  | _=>.bad
 | _=>.bad
def argsX:List SV->Nat->List (Nat × Option SV)
 | [],_=>[]
 | x::l,i=>(i,some x)::argsX l (i+1)
section
variable {E:Env} {γ0 γ:Pl} {N n:Nat} {w0 w wx:World} {s:St} {a a0:Act} {o:Oper} {Q:Post} {X:Exit->Act->World->Prop} {hd:Nat->Nat}
theorem subS_look{S:List (Nat × Option SV)}{n:Nat}:∀ {l:List (Nat × Option SV)} {t:Nat} {x:SV},subS S n l->look l t=some x->(∃ y,look S t=some y/\Wk y x)/\x.lt n=true
 | [],_,_,_,h=>by cases h
 | (u,o)::l,t,x,hs,h=>by
  have h':(if u=t then o else look l t)=some x:=h;cases o with
  | none =>
   split at h'
   ·cases h'
   ·exact subS_look (l:=l) hs h'
  | some y =>
   split at h'
   ·rename_i e
    cases h';subst e;exact hs.1
   ·exact subS_look (l:=l) hs.2 h'
theorem Rel.sub{s':St}(R:Rel E γ0 γ N w0 s a w)(h:Sub E.base s s'):Rel E γ0 γ N w0 s' a w:=by
 obtain⟨gs,hgs⟩:=h.M;have hsub:s'.M.Sublist s.M:=by rw[hgs];exact List.filter_sublist
 refine⟨R.ag,h.base,R.z,R.d,fun t x hx=>?_,⟨R.h.old,fun p hp=>R.h.rows p ((hsub.map _).subset hp),R.h.nd.sublist (hsub.map _)⟩,fun r hr=>⟨(R.m r (hsub.subset hr)).1,h.lt r hr⟩⟩;obtain⟨⟨y,hy,hw⟩,hl⟩:=subS_look h.S hx;have:=R.k t y hy;exact⟨this.1.trans (hw.1 γ),hw.2 this.2.1,hl⟩
theorem norm_look:∀ {l:List (Nat × Option SV)} {t:Nat},look (normL l) t=(look l t).map normS
 | [],_=>rfl
 | p::l,t=>by
  show(if p.1=t then p.2.map normS else look (normL l) t)=(if p.1=t then p.2 else look l t).map normS;rw[norm_look]
  split <;> rfl
theorem Rel.norm(R:Rel E γ0 γ N w0 s a w):Rel E γ0 γ N w0 (normT s) a w :=
 ⟨R.ag,R.base,R.z,R.d,fun t x hx=>by
  have hx:look (normL s.S) t=some x:=hx;rw[norm_look]at hx;obtain⟨y,hy,rfl⟩:=Option.map_eq_some_iff.1 hx;have q:=R.k t y hy;have n:=normS_ok (γ:=γ) (n:=s.n) q.2.1 q.2.2;exact⟨q.1.trans n.1.symm,n.2⟩,R.h,R.m⟩
def Alike(d:Nat)(Q Q':Post):Prop:=Q'.leaf=Q.leaf/\∀ d' s,d'<d->(Q'.cut d' s↔Q.cut d' s)
theorem Alike.rfl'{d:Nat}{Q:Post}:Alike d Q Q:=⟨rfl,fun _ _ _=>Iff.rfl⟩
theorem Alike.trans{d:Nat}{Q Q' Q'':Post}(h:Alike d Q Q')(h':Alike d Q' Q''):Alike d Q Q'':=⟨h'.1.trans h.1,fun d' s hd=>(h'.2 d' s hd).trans (h.2 d' s hd)⟩
theorem exec_ok(G:E.Good γ0 w0)(mx:E.P.follows .mixedOrders=true):∀ {c:Code} {b d:Nat} {s:St} {k:Exit->St->Tr} {X:Exit->Act->World->Prop} {Q:Post} {a:Act} {w:World} {γ:Pl},(exec E N hd c b d s k).wp E.base Q->Rel E γ0 γ N w0 s a w ->
  (∀ Q' e γ s' a' w',Alike d Q Q'->Rel E γ0 γ N w0 s' a' w'->(k e s').wp E.base Q'->X e a' w')->c.wp E.P X a w:=by
 intro c
 induction c with
 | skip=>intro b d s k X Q a w γ h R cont;exact wp_skip (cont _ _ _ _ _ _ Alike.rfl' R h)
 | region id ops draw =>
  intro b d s k X Q a w γ h R cont;cases draw with
  | true=>exact drawX_ok (l:=ops.toList) (id:=id) G mx h R fun γ s' a' w' R' hk=>cont Q .normal γ s' a' w' Alike.rfl' R' hk
  | false=>exact wp_region_list (seqX_ok G h R fun γ s' a' w' R' hk=>cont Q .normal γ s' a' w' Alike.rfl' R' hk)
 | seq x y ihx ihy =>
  intro b d s k X Q a w γ h R cont;refine wp_seq (ihx h R fun Q' e γ s' a' w' hQ R' hk=>?_);cases e with
  | normal=>exact ihy hk R' fun Q'' e γ s' a' w' hQ' R'' hk'=>cont _ _ _ _ _ _ (hQ.trans hQ') R'' hk'
  | exit i=>exact cont _ _ _ _ _ _ hQ R' hk
  | goto i=>exact cont _ _ _ _ _ _ hQ R' hk
  | ret=>exact cont _ _ _ _ _ _ hQ R' hk
  | panic i=>exact cont _ _ _ _ _ _ hQ R' hk
  | outgrown=>exact cont _ _ _ _ _ _ hQ R' hk
 | cond c x y ihx ihy =>
  intro b d s k X Q a w γ h R cont;unfold exec at h
  split at h
  ·rename_i t ht
   exact wp_cond_split (opnd_ok R.k ht).1 (fun e=>ihx (h.1 e) R cont) (fun e=>ihy (h.2 e) R cont)
  ·rename_i t ht
   have hv:=(opnd_ok R.k ht).1;cases t with
   | true=>exact wp_cond_true hv (ihx h R cont)
   | false=>exact wp_cond_false hv (ihy h R cont)
  ·cases h
 | block id c ih =>
  intro b d s k X Q a w γ h R cont;refine wp_block (ih h R fun Q' e γ s' a' w' hQ R' hk=>?_);cases e with
  | normal=>exact cont _ _ _ _ _ _ hQ R' hk
  | exit j =>
   show(if j=id then _ else _);dsimp only at hk
   split at hk
   ·rename_i e;rw[if_pos e];exact cont _ _ _ _ _ _ hQ R' hk
   ·rename_i e;rw[if_neg e];exact cont _ _ _ _ _ _ hQ R' hk
  | goto i=>exact cont _ _ _ _ _ _ hQ R' hk
  | ret=>exact cont _ _ _ _ _ _ hQ R' hk
  | panic i=>exact cont _ _ _ _ _ _ hQ R' hk
  | outgrown=>exact cont _ _ _ _ _ _ hQ R' hk
 | loop c ih =>
  intro b d s k X Q a w γ h R cont;unfold exec at h
  split at h
  ·obtain⟨ι,st,μ,⟨i0,h0⟩,hr⟩:=h
   refine wp_loop_ghost (fun n a w=>∃ i γ,μ i=n/\Rel E γ0 γ N w0 (st i) a w) (μ i0) ⟨i0,γ,rfl,R.norm.sub h0⟩ ?_;rintro n a w ⟨i,γ,rfl,R1⟩;refine ih (hr i) R1 fun Q' e γ s' a' w' hQ R' hk=>?_;have up:Alike d Q Q':=⟨hQ.1,fun d' s hd'=>(hQ.2 d' s (Nat.lt_succ_of_lt hd')).trans (by
    show(if d'=d then _ else _)↔_;rw[if_neg (Nat.ne_of_lt hd')])⟩
   cases e with
   | normal =>
    have hc:Q'.cut d (normT s'):=hk;have hc:=(hQ.2 d (normT s') (Nat.lt_succ_self d)).1 hc;dsimp only at hc;rw[if_pos rfl]at hc;obtain⟨j,hj,hs⟩:=hc;exact⟨μ j,hj,j,γ,rfl,R'.norm.sub hs⟩
   | exit i=>exact cont _ _ _ _ _ _ up R' hk
   | goto i=>exact cont _ _ _ _ _ _ up R' hk
   | ret=>exact cont _ _ _ _ _ _ up R' hk
   | panic i=>exact cont _ _ _ _ _ _ up R' hk
   | outgrown=>exact cont _ _ _ _ _ _ up R' hk
  ·rename_i n0 _
   refine wp_loop_ghost (fun n a w=>∃ γ s Q',Alike d Q Q'/\Rel E γ0 γ N w0 s a w/\(rep (fun s k=>exec E N hd c b d s k) n s k).wp E.base Q') (n0+1) ⟨γ,s,Q,Alike.rfl',R,h⟩ ?_;rintro n a w ⟨γ,s,Q',hQ0,R1,h1⟩;cases n with
   | zero=>cases h1
   | succ n =>
    refine ih h1 R1 fun Q'' e γ s' a' w' hQ R' hk=>?_;have hQ1:=hQ0.trans hQ;cases e with
    | normal=>exact⟨n,Nat.lt_succ_self n,γ,s',Q'',hQ1,R',hk⟩
    | exit i=>exact cont _ _ _ _ _ _ hQ1 R' hk
    | goto i=>exact cont _ _ _ _ _ _ hQ1 R' hk
    | ret=>exact cont _ _ _ _ _ _ hQ1 R' hk
    | panic i=>exact cont _ _ _ _ _ _ hQ1 R' hk
    | outgrown=>exact cont _ _ _ _ _ _ hQ1 R' hk
 | exit id=>intro b d s k X Q a w γ h R cont;exact wp_exit (cont _ _ _ _ _ _ Alike.rfl' R h)
 | ret=>intro b d s k X Q a w γ h R cont;exact wp_ret (cont _ _ _ _ _ _ Alike.rfl' R h)
 | _=>intro b d s k X Q a w γ h R cont;cases h
def readR(a:Act):ResultVar->Sem Value
 | .tmp t=>pure (a.tmps.getD t undef)
 | .cell p t=>do loadVar t (<- asAddr (a.tmps.getD p undef))
theorem results_read(P:Program)(fn:Func)(a:Act)(w:World):(results fn a.tmps).run P w=(do let vs <- fn.results.mapM (readR a);pure (if h:vs.size=1 then vs[0]else .tuple vs):Sem Value).run P w:=by
 have e:readR a=(fun r=>(match r with
  | .tmp t=>pure (a.tmps.getD t undef)
  | .cell p t=>do loadVar t (<- asAddr (a.tmps.getD p undef)):Sem Value)):=by
  funext r
  cases r with
  | tmp t=>rfl
  | cell p t=>rfl
 rw[e];rfl
theorem resX_ok(G:E.Good γ0 w0)(R:Rel E γ0 γ N w0 s a w){r:ResultVar}{x:SV}(h:resX E s r=some x):(readR a r).run E.P w=.ok (x.val γ) w:=by
 cases r with
 | tmp t=>exact congrArg (fun v=>Result.ok v w) (R.k t x h).1
 | cell p T =>
  dsimp only[resX]at h
  split at h
  ·rename_i g o' j z y hp ht
   split at h
   ·rename_i r hr
    split at h
    ·rename_i hz
     subst hz;have hm:=R.lies _ (rowIn_ok hr);have ty:=G.tys _ (tyIn_ok ht).1;have hd:=ty.d;have hsz:=ty.sz;rw[(tyIn_ok ht).2]at hd hsz;have hl:=load_ok hm.1 hd hsz h;have e:a.tmps.getD p undef=.pointer (some ⟨γ g,o',none⟩):=by
      rw[(R.k p _ hp).1];show Value.pointer (some ⟨γ g,o'+j*0,none⟩)=_;rw[Nat.mul_zero,Nat.add_zero]
     show(do loadVar T (<- asAddr (a.tmps.getD p undef)):Sem Value).run E.P w=_;rw[e];simp only[Instr.loadAt,Instr.sureAddr,Sem.run_bind,Sem.run_pure,Result.andThen_ok]at hl;simp only[asAddr,Sem.run_bind,Sem.run_pure,Result.andThen_ok];exact hl
    ·cases h
   ·cases h
  ·cases h
theorem finX_ok(G:E.Good γ0 w0)(R:Rel E γ0 γ N w0 s a w){fn:Func}{e:Exit}(h:(finX E fn.results e s).wp E.base Q):bodyPost E.P fn (fun e w'=>∃ r,Q.leaf r/\e=.returned (r.val γ0)/\Below w0.heap.size w0 w') e a w:=by
 have fin:∀ x:SV,x.lt E.base=true->Q.leaf x->(results fn a.tmps).run E.P w=.ok (x.val γ) w->(a.defers=[]/\∃ v,(results fn a.tmps).run E.P w=.ok v w/\∃ r,Q.leaf r/\Ending.returned v=.returned (r.val γ0)/\Below w0.heap.size w0 w):=fun x hl hq hr =>
  ⟨R.d,_,hr,x,hq,by rw[(SV.lt_same R.ag hl).2.2],R.h.old⟩
 have main:(match fn.results.toList with
  | [r]=>match resX E s r with
   | some x=>if x.lt E.base=true then Tr.leaf x else .bad
   | none=>.bad
  | [r,q]=>match resX E s r,resX E s q with
   | some x,some y=>if x.lt E.base=true/\y.lt E.base=true then .leaf (.tu x y)else .bad
   | _,_=>.bad
  | _=>.bad).wp E.base Q->(a.defers=[]/\∃ v,(results fn a.tmps).run E.P w=.ok v w/\∃ r,Q.leaf r/\Ending.returned v=.returned (r.val γ0)/\Below w0.heap.size w0 w):=by
  intro h
  split at h
  ·rename_i r hr
   have hr':fn.results=#[r]:=by apply Array.ext';rw[hr]
   split at h
   ·rename_i x hx
    split at h
    ·rename_i hl
     have h1:=resX_ok G R hx;refine fin x hl h ?_;rw[results_read,hr'];simp[h1]
    ·cases h
   ·cases h
  ·rename_i r q hr
   have hr':fn.results=#[r,q]:=by apply Array.ext';rw[hr]
   split at h
   ·rename_i x y hx hy
    split at h
    ·rename_i hl
     have h1:=resX_ok G R hx;have h2:=resX_ok G R hy;refine fin (.tu x y) (by show(x.lt _&&y.lt _)=true;rw[hl.1,hl.2];rfl) h ?_;rw[results_read,hr'];simp[h1,h2,SV.val]
    ·cases h
   ·cases h
  ·cases h
 unfold finX at h
 split at h
 ·exact main h
 ·exact main h
 ·cases h
theorem args_look:∀ {l:List SV} {i t:Nat} {x:SV},look (argsX l i) t=some x->∃ j,t=i+j/\l[j]?=some x
 | [],_,_,_,h=>by cases h
 | y::l,i,t,x,h=>by
  have h':(if i=t then some y else look (argsX l (i+1)) t)=some x:=h
  split at h'
  ·rename_i e;cases h';exact⟨0,by omega,rfl⟩
  ·obtain⟨j,h1,h2⟩:=args_look h'
   exact⟨j+1,by omega,by simpa using h2⟩
theorem calls_of(G:E.Good γ0 w0)(mx:E.P.follows .mixedOrders=true)(hd:Nat->Nat){f:FuncId}{fn:Func}{c:Code}(hf:E.P.funcs[f]?=some fn)(hb:fn.body=some c)(args:List SV)(ha:∀ x∈args,x.ok/\x.lt E.base=true)(hn:args.length<=fn.ntmps){T:Tr}
  (hT:exec E fn.ntmps hd c 0 0 ⟨argsX args 0,[],E.base⟩ (finX E fn.results)=T) (hQ:T.wp E.base Q):Calls E.P f (args.map (·.val γ0)).toArray w0 fun e w'=>∃ r,Q.leaf r/\e=.returned (r.val γ0)/\Below w0.heap.size w0 w':=by
 refine enter hf hb fun a hz hdf he=>?_;have R0:Rel E γ0 γ0 fn.ntmps w0 ⟨argsX args 0,[],E.base⟩ a w0:=by
  refine⟨fun _ _=>rfl,Nat.le_refl _,by simp at hz;omega,hdf,fun t x hx=>?_,HC.start w0,fun r hr=>by cases hr⟩;obtain⟨j,rfl,hj⟩:=args_look hx;refine⟨?_,ha x (List.mem_of_getElem? hj)⟩;rw[he,Nat.zero_add];simp[hj]
 exact exec_ok (N:=fn.ntmps) G mx (hT ▸ hQ) R0 fun Q' e γ s' a' w' hq R' hk=>(by
  have:=finX_ok G R' (fn:=fn) (e:=e) hk;rw[hq.1]at this;exact this)
end
end Go.Proofs.YtadfjjfklihaaaaGreat.Sy
namespace Go.Proofs.YtadfjjfklihaaaaGreat.Sy
open Go.RowKit
def Tr.diag:Tr->Tr
 | .need (.same g _) t=>.need (.same g g) t.diag
 | .need (.eq x _) t=>.need (.eq x x) t.diag
 | .need p t=>.need p t.diag
 | .br b t f=>.br b t.diag f.diag
 | t=>t
inductive Sh
 | leaf (r:SV)
 | br (b:Bool) (t f:Sh)
 | need (p:Prop) (t:Sh)
 | cut (d:Nat)
 | loop (d:Nat)
 | bad
def Tr.shape:Tr->Sh
 | .leaf r=>.leaf r
 | .br b t f=>.br b t.shape f.shape
 | .need (.same _ _) t=>t.shape
 | .need (.eq _ _) t=>t.shape
 | .need (.ask p) t=>.need p t.shape
 | .cut d _=>.cut d
 | .loop d _ _=>.loop d
 | .bad=>.bad
def Tr.on:List Bool->Tr->Tr
 | b::l,.br _ t f=>match b with
  | true=>Tr.on l t
  | false=>Tr.on l f
 | l,.need _ t=>Tr.on l t
 | _,t=>t
def Sh.wp(Q:Post)(L:List Bool->Prop):Sh->Prop
 | .leaf r=>Q.leaf r
 | .br b t f=>(b=true->t.wp Q fun l=>L (true::l))/\(b=false->f.wp Q fun l=>L (false::l))
 | .need p t=>p/\t.wp Q L
 | .cut _=>L []
 | .loop _=>L []
 | .bad=>False
theorem wp_of_shape{base:Nat}{Q:Post}:∀ {T:Tr} {L:List Bool->Prop},T=T.diag->T.shape.wp Q L->(∀ l,L l->(T.on l).wp base Q)->T.wp base Q
 | .leaf r,_,_,h,_=>h
 | .br b t f,L,hd,h,hL=>by
  have h1:t=t.diag:=by injection hd
  have h2:f=f.diag:=by injection hd
  exact⟨fun e=>wp_of_shape h1 (h.1 e) fun l hl=>hL (true::l) hl,fun e=>wp_of_shape h2 (h.2 e) fun l hl=>hL (false::l) hl⟩
 | .need (.same g g') t,L,hd,h,hL=>by
  have h1:Tr.need (.same g g') t=.need (.same g g) t.diag:=hd;injection h1 with h2 h3
  injection h2 with _ h4
  refine⟨fun hg=>h4 ▸ hg,wp_of_shape h3 h fun l hl=>?_⟩;have:=hL l hl;cases l <;> exact this
 | .need (.eq g g') t,L,hd,h,hL=>by
  have h1:Tr.need (.eq g g') t=.need (.eq g g) t.diag:=hd;injection h1 with h2 h3
  injection h2 with _ h4
  refine⟨h4.symm,wp_of_shape h3 h fun l hl=>?_⟩;have:=hL l hl;cases l <;> exact this
 | .need (.ask p) t,L,hd,h,hL=>by
  have h1:Tr.need (.ask p) t=.need (.ask p) t.diag:=hd;injection h1 with _ h3
  refine⟨h.1,wp_of_shape h3 h.2 fun l hl=>?_⟩;have:=hL l hl;cases l <;> exact this
 | .cut d s,L,_,h,hL=>hL [] h
 | .loop d s b,L,_,h,hL=>hL [] h
 | .bad,_,_,h,_=>h.elim
def Tr.round(s:St):Tr->Tr
 | .loop _ _ b=>b s
 | _=>.bad
def Tr.stOf:Tr->St
 | .loop _ s _=>s
 | _=>⟨[],[],0⟩
def Tr.isLoop(d:Nat):Tr->Bool
 | .loop d' _ _=>d' == d
 | _=>false
def subB(base:Nat)(s':St):Bool:=decide (base<=s'.n)&&s'.M.all (fun r=>r.2.1.lt s'.n&&decide (r.1<s'.n))&&s'.S.all fun p=>match p.2 with
 | some x=>x.lt s'.n
 | none=>true
def Tr.cutOf:Tr->St
 | .cut _ s=>s
 | _=>⟨[],[],0⟩
def Tr.isCut(d:Nat):Tr->Bool
 | .cut d' _=>d' == d
 | _=>false
theorem cut_wp{base:Nat}{Q:Post}{T:Tr}(d:Nat)(hs:T.isCut d=true)(h:Q.cut d T.cutOf):T.wp base Q:=by
 cases T with
 | cut d' s =>
  obtain rfl:d'=d:=by simpa[Tr.isCut]using hs
  exact h
 | _=>cases hs
def Wkt(S:List (Nat × Option SV))(t:Nat)(x:SV):Prop:=∃ y,lookX S t=some y/\Wk y x
theorem Wkt.is{S:List (Nat × Option SV)}{t:Nat}{x:SV}(h:lookX S t=some x):Wkt S t x:=⟨x,h,.rfl'⟩
def eqsW(S:List (Nat × Option SV)):List (Nat × Option SV)->Prop
 | []=>True
 | (t,some x)::l=>Wkt S t x/\eqsW S l
 | (_,none)::l=>eqsW S l
theorem subS_ofW{S:List (Nat × Option SV)}{n:Nat}:∀ {l:List (Nat × Option SV)},eqsW S l->(l.all fun p=>match p.2 with
  | some x=>x.lt n
  | none=>true)=true->subS S n l
 | [],_,_=>trivial
 | (t,some x)::l,h,hb=>by
  rw[List.all_cons,Bool.and_eq_true]at hb;exact⟨⟨h.1,hb.1⟩,subS_ofW h.2 hb.2⟩
 | (t,none)::l,h,hb=>by
  rw[List.all_cons,Bool.and_eq_true]at hb;exact subS_ofW (l:=l) h hb.2
theorem Sub.ofW{base:Nat}{s s':St}(gs:List Nat)(hB:subB base s'=true)(hS:eqsW s.S s'.S)(hM:s'.M=s.M.filter fun r=>gs.contains r.1):Sub base s s':=by
 unfold subB at hB;rw[Bool.and_eq_true,Bool.and_eq_true]at hB;refine⟨of_decide_eq_true hB.1.1,subS_ofW hS hB.2,⟨gs,hM⟩,fun r hr=>?_⟩;have:=List.all_eq_true.1 hB.1.2 r hr;rw[Bool.and_eq_true]at this;exact⟨this.1,of_decide_eq_true this.2⟩
theorem next_wp{base:Nat}{Q:Post}{T:Tr}(d:Nat)(hs:T.isCut d=true){ι:Type}{st:ι->St}{μ:ι->Nat}{i:ι}(j:ι)(hj:μ j<μ i)(h:Sub base T.cutOf (st j)):T.wp base ⟨Q.leaf,fun d' s'=>if d'=d then ∃ j,μ j<μ i/\Sub base s' (st j)else Q.cut d' s'⟩ :=
 cut_wp d hs (by
  dsimp only;rw[if_pos rfl];exact⟨j,hj,h⟩)
theorem loop_wp{base:Nat}{Q:Post}{T:Tr}(d:Nat)(hs:T.isLoop d=true){ι:Type}(st:ι->St)(μ:ι->Nat)(i0:ι)(h0:Sub base T.stOf (st i0))(hr:∀ i,(T.round (st i)).wp base ⟨Q.leaf,fun d' s'=>if d'=d then ∃ j,μ j<μ i/\Sub base s' (st j)else Q.cut d' s'⟩):T.wp base Q:=by
 cases T with
 | loop d' s' b =>
  obtain rfl:d'=d:=by simpa[Tr.isLoop]using hs
  exact⟨ι,st,μ,⟨i0,h0⟩,hr⟩
 | _=>cases hs
def walk(E:Env)(hd:Nat->Nat)(fn:Func)(args:List SV):Tr:=exec E fn.ntmps hd (fn.body.getD .skip) 0 0 ⟨argsX args 0,[],E.base⟩ (finX E fn.results)
theorem calls_sh{E:Env}{γ0:Pl}{w0:World}{Q:SV->Prop}(G:E.Good γ0 w0)(mx:E.P.follows .mixedOrders=true)(hd:Nat->Nat){f:FuncId}{fn:Func}(hf:E.P.funcs[f]?=some fn)(hb:fn.body.isSome=true)(args:List SV)(ha:∀ x∈args,x.ok/\x.lt E.base=true)(hn:decide (args.length<=fn.ntmps)=true)
  (hD:walk E hd fn args=(walk E hd fn args).diag) (Z:Sh) (hZ:(walk E hd fn args).shape=Z) (hW:Z.wp ⟨Q,fun _ _=>False⟩ fun l=>((walk E hd fn args).on l).wp E.base ⟨Q,fun _ _=>False⟩):Calls E.P f (args.map (·.val γ0)).toArray w0 fun e w'=>∃ r,Q r/\e=.returned (r.val γ0)/\Below w0.heap.size w0 w':=by
 obtain⟨c,hc⟩:=Option.isSome_iff_exists.1 hb;have e:fn.body.getD .skip=c:=by rw[hc];rfl
 exact calls_of G mx hd hf hc args ha (of_decide_eq_true hn) rfl (Q:=⟨Q,fun _ _=>False⟩) (by rw[<- e];exact wp_of_shape hD (hZ ▸ hW) fun _ h=>h)
def okAll(base:Nat):List SV->Prop
 | []=>True
 | x::l=>(x.ok/\x.lt base=true)/\okAll base l
theorem okAll_mem{base:Nat}:∀ {l:List SV},okAll base l->∀ x∈l,x.ok/\x.lt base=true
 | [],_,x,h=>by cases h
 | y::l,ha,x,h=>by
  rcases List.mem_cons.1 h with rfl | h
  ·exact ha.1
  ·exact okAll_mem ha.2 x h
theorem calls_at{E:Env}{γ0:Pl}{w0:World}{V:Value}(G:E.Good γ0 w0)(mx:E.P.follows .mixedOrders=true)(hd:Nat->Nat){f:FuncId}{fn:Func}(hf:E.P.funcs[f]?=some fn)(hb:fn.body.isSome=true)(args:List SV)(ha:okAll E.base args)(hn:decide (args.length<=fn.ntmps)=true)
  (hD:walk E hd fn args=(walk E hd fn args).diag) (Z:Sh) (hZ:(walk E hd fn args).shape=Z) (hW:Z.wp ⟨fun r=>r.val γ0=V,fun _ _=>False⟩ fun l=>((walk E hd fn args).on l).wp E.base ⟨fun r=>r.val γ0=V,fun _ _=>False⟩):Calls E.P f (args.map (·.val γ0)).toArray w0 fun e w'=>e=.returned V/\Below w0.heap.size w0 w' :=
 (calls_sh G mx hd hf hb args (okAll_mem ha) hn hD Z hZ hW).mono fun _ _ ⟨_,h1,h2,h3⟩=>⟨by rw[h2,h1],h3⟩
end Go.Proofs.YtadfjjfklihaaaaGreat.Sy
namespace Go.Proofs.YtadfjjfklihaaaaGreat.Sy
open Go.RowKit
abbrev Con:=FuncId × (Nat->Rows->List SV->Option (SV × List Ob × Rows))
def conIn(f:FuncId):List Con->Nat->Rows->List SV->Option (SV × List Ob × Rows)
 | [],_,_,_=>none
 | c::l,n,M,us=>if c.1=f then c.2 n M us else conIn f l n M us
structure ConOk (P:Program) (base:Nat) (γ0:Pl) (w0:World) (c:Con):Prop where
 call:∀ as_ wx,(callFunc c.1 as_).run P wx=.ok (.enter c.1 as_) wx
 all:∀ n M l r p R,c.2 n M l=some (r,p,R)->All p->base<=n->(∀ x∈l,x.ok/\x.lt n=true)->(∀ r∈M,r.2.1.ok/\r.2.1.lt n=true)->r.ok/\r.lt (n+R.length)=true/\(∀ q∈R,q.2.1.ok/\q.2.1.lt (n+R.length)=true/\n<=q.1/\q.1<n+R.length) /\
  ∀ γ,(∀ k,k<base->γ k=γ0 k)->∀ wx,Below w0.heap.size w0 wx->Lies γ n M wx->Calls P c.1 (l.map (·.val γ)).toArray wx (Made γ n r R wx)
theorem ConOk.of{P:Program}{base:Nat}{γ0:Pl}{w0:World}{c:Con}(hc:∀ as_ wx,(callFunc c.1 as_).run P wx=.ok (.enter c.1 as_) wx)
  (h:∀ n M l r p R,c.2 n M l=some (r,p,R)->All p->(∀ x∈l,x.ok)->R=[]/\r.ok/\r.lt 0=true/\∀ γ,(∀ k,k<base->γ k=γ0 k)->∀ wx,Below w0.heap.size w0 wx->Lies γ n M wx->Calls P c.1 (l.map (·.val γ)).toArray wx fun e w'=>e=.returned (r.val γ)/\Below wx.heap.size wx w'):ConOk P base γ0 w0 c :=
 ⟨hc,fun n M l r p R h1 h2 hn h3 _=>by
  obtain⟨rfl,q1,q2,q3⟩:=h n M l r p R h1 h2 fun x hx=>(h3 x hx).1;exact⟨q1,SV.lt_mono (Nat.zero_le _) q2,fun q hq=>(by cases hq),fun γ hγ wx hw hL=>(q3 γ hγ wx hw hL).mono fun e w' hh=>⟨⟨γ,fun _ _=>rfl,hh.1,fun q hq=>(by cases hq),.nil⟩,hh.2⟩⟩⟩
theorem conIn_ok{P:Program}{base:Nat}{γ0:Pl}{w0:World}{f:FuncId}{n:Nat}{M:Rows}{us:List SV}{q:SV × List Ob × Rows}:∀ {l:List Con},(∀ c∈l,ConOk P base γ0 w0 c)->conIn f l n M us=some q->∃ c:Con,ConOk P base γ0 w0 c/\c.1=f/\c.2 n M us=some q
 | [],_,h=>by cases h
 | c::l,hl,h=>by
  unfold conIn at h
  split at h
  ·rename_i e;exact⟨c,hl c (.head _),e,h⟩
  ·exact conIn_ok (fun d hd=>hl d (.tail _ hd)) h
def conAll(P:Program)(base:Nat)(γ0:Pl)(w0:World):List Con->Prop
 | []=>True
 | c::l=>ConOk P base γ0 w0 c/\conAll P base γ0 w0 l
theorem conAll_mem{P:Program}{base:Nat}{γ0:Pl}{w0:World}:∀ {l:List Con},conAll P base γ0 w0 l->∀ c∈l,ConOk P base γ0 w0 c
 | [],_,c,h=>by cases h
 | y::l,ha,c,h=>by
  rcases List.mem_cons.1 h with rfl | h
  ·exact ha.1
  ·exact conAll_mem ha.2 c h
/-! Numbers. -/
def eqN(a b:Nat):Bool:=decide (a=b)
def ltN(a b:Nat):Bool:=decide (a<b)
def eqI(a b:Int):Bool:=decide (a=b)
def ltI(a b:Int):Bool:=decide (a<b)
def eqB(a b:Bool):Bool:=a == b
def cloS:SV->Option (IntKind × Int)
 | .v (.int k n)=>some (k,n)
 | _=>none
def intS:SV->Option (IntKind × Int)
 | .i k n=>some (k,n)
 | .na x=>some (.i64,(x:Nat))
 | .v (.int k n)=>some (k,n)
 | _=>none
def bitS:SV->Option Bool
 | .b t=>some t
 | .v (.bool t)=>some t
 | _=>none
def cloO(op:BinOp)(k:IntKind)(a b:Int):Option SV:=match op with
 | .eql=>some (.v (.bool (decide (a=b))))
 | .neq=>some (.v (.bool (!decide (a=b))))
 | .lss=>some (.v (.bool (decide (a<b))))
 | .leq=>some (.v (.bool (decide (a<=b))))
 | .gtr=>some (.v (.bool (decide (a > b))))
 | .geq=>some (.v (.bool (decide (a ≥ b))))
 | .add=>some (.v (.int k (k.wrap (a+b))))
 | .sub=>some (.v (.int k (k.wrap (a - b))))
 | .mul=>some (.v (.int k (k.wrap (a*b))))
 | .quo=>if b=0 then none else some (.v (.int k (k.wrap (a.tdiv b))))
 | .rem=>if b=0 then none else some (.v (.int k (a.tmod b)))
 | _=>none
def natO(op:BinOp)(a b:Nat):Option (SV × List Ob):=match op with
 | .eql=>some (.b (eqN a b),[])
 | .neq=>some (.b (!eqN a b),[])
 | .lss=>some (.b (ltN a b),[])
 | .leq=>some (.b (!ltN b a),[])
 | .gtr=>some (.b (ltN b a),[])
 | .geq=>some (.b (!ltN a b),[])
 | .add=>some (.na (a+b),[.ask (a+b<2^62)])
 | .sub=>some (.i .i64 ((a:Nat) - (b:Nat):Int),[])
 | .mul=>some (.na (a*b),[.ask (a*b<2^62)])
 | .quo=>if b=0 then none else some (.na (a / b),[])
 | .rem=>if b=0 then none else some (.na (a%b),[])
 | _=>none
def shrI(k:IntKind)(a b:Int):Int:=a.fdiv (2^(min b.toNat k.bits))
def andI(k:IntKind)(a b:Int):Int:=k.wrap ((BitVec.ofInt k.bits a &&& BitVec.ofInt k.bits b).toNat:Nat)
def intO(op:BinOp)(k:IntKind)(a b:Int):Option (SV × List Ob):=match op with
 | .eql=>some (.b (eqI a b),[])
 | .neq=>some (.b (!eqI a b),[])
 | .lss=>some (.b (ltI a b),[])
 | .leq=>some (.b (!ltI b a),[])
 | .gtr=>some (.b (ltI b a),[])
 | .geq=>some (.b (!ltI a b),[])
 | .add=>some (.i k (a+b),[.ask (k.wrap (a+b)=a+b)])
 | .sub=>some (.i k (a - b),[.ask (k.wrap (a - b)=a - b)])
 | .rem=>some (.i k (a.tmod b),[.ask (b≠0)])
 | .and=>some (.i k (andI k a b),[])
 | _=>none
def eqL(a b:List Nat):Bool:=decide (a=b)
def eqP(p q:Nat × Nat × Bool):Bool:=decide (p.1=q.1/\p.2.1=q.2.1/\p.2.2=q.2.2)
def ptS:SV->Option (Nat × Nat × Bool)
 | .ap (.w x) (.ap (.w y) (.ap n .e))=>(bitS n).map fun n=>(x,y,n)
 | _=>none
def eqTw(p q:(Nat × Nat) × (Nat × Nat) × Bool):Bool:=decide ((p.1.1=q.1.1/\p.1.2=q.1.2)/\(p.2.1.1=q.2.1.1/\p.2.1.2=q.2.1.2)/\p.2.2=q.2.2)
def twS:SV->Option ((Nat × Nat) × (Nat × Nat) × Bool)
 | .ap (.ap (.w x) (.ap (.w x1) .e)) (.ap (.ap (.w y) (.ap (.w y1) .e)) (.ap n .e))=>(bitS n).map fun n=>((x,x1),(y,y1),n)
 | _=>none
def eqG(T:TypeId)(x y:SV):Option Bool:=match x,y with
 | .w a,.w b=>if T=24 then some (eqN a b)else none
 | x,y=>match bitS x,bitS y with
  | some a,some b=>if T=4 then some (eqB a b)else none
  | _,_=>match wordsS x,wordsS y with
   | some p,some q=>if T=38 then (if p.length=2/\q.length=2 then some (eqL p q)else none)else none
   | _,_=>match ptS x,ptS y with
    | some p,some q=>if T=26 then some (eqP p q)else none
    | _,_=>match twS x,twS y with
     | some p,some q=>if T=47 then some (eqTw p q)else none
     | _,_=>none
def shrS(x y:SV):Option (SV × List Ob):=match intS x,intS y with
 | some p,some q=>some (.i p.1 (shrI p.1 p.2 q.2),[.ask (0<=q.2)])
 | _,_=>none
def bopO(op:BinOp)(T:TypeId)(x y:SV):Option (SV × List Ob):=match cloS x,cloS y with
 | some p,some q=>if p.1=q.1 then (cloO op p.1 p.2 q.2).map (·,[])else none
 | _,_=>match natS x,natS y with
  | some a,some b=>natO op a b
  | _,_=>match intS x,intS y with
   | some p,some q=>if p.1=q.1 then intO op p.1 p.2 q.2 else none
   | _,_=>match op with
    | .eql=>(eqG T x y).map fun t=>(.b t,[])
    | .neq=>(eqG T x y).map fun t=>(.b (!t),[])
    | _=>none
section
variable {P:Program} {γ:Pl} {x y r:SV}
theorem intS_ok{k:IntKind}{n:Int}(h:intS x=some (k,n)):x.val γ=.int k n:=by
 unfold intS at h
 split at h <;> cases h <;> rfl
theorem cloS_ok{k:IntKind}{n:Int}(h:cloS x=some (k,n)):x.val γ=.int k n:=by
 unfold cloS at h
 split at h <;> cases h
 rfl
theorem bitS_ok{t:Bool}(h:bitS x=some t):x.val γ=.bool t:=by
 unfold bitS at h
 split at h <;> cases h <;> rfl
theorem ptS_ok{p:Nat × Nat × Bool}(h:ptS x=some p):x.val γ=.agg (pc p.1 p.2.1 p.2.2)/\(x.ok->p.1<2^256/\p.2.1<2^256):=by
 unfold ptS at h
 split at h
 ·rename_i a b n
  obtain⟨t,ht,rfl⟩:=Option.map_eq_some_iff.1 h;refine⟨?_,fun ho=>⟨ho.1,ho.2.1⟩⟩;have hn:n.cells γ=[.bool t]:=by
   unfold bitS at ht
   split at ht <;> cases ht <;> rfl
  simp[SV.val,SV.cells,hn,pc]
 ·cases h
theorem twS_ok{p:(Nat × Nat) × (Nat × Nat) × Bool}(h:twS x=some p):x.val γ=.agg (tc p.1.1 p.1.2 p.2.1.1 p.2.1.2 p.2.2)/\(x.ok->(p.1.1<2^256/\p.1.2<2^256)/\p.2.1.1<2^256/\p.2.1.2<2^256):=by
 unfold twS at h
 split at h
 ·rename_i a a1 b b1 n
  obtain⟨t,ht,rfl⟩:=Option.map_eq_some_iff.1 h;refine⟨?_,fun ho=>⟨⟨ho.1.1,ho.1.2.1⟩,ho.2.1.1,ho.2.1.2.1⟩⟩;have hn:n.cells γ=[.bool t]:=by
   unfold bitS at ht
   split at ht <;> cases ht <;> rfl
  simp[SV.val,SV.cells,hn,tc]
 ·cases h
theorem int_guard(op:BinOp)(T:TypeId)(ox oy:Operand)(k k':IntKind)(a b:Int)(w:World):(eqGuard op T ox oy (.int k a) (.int k' b)).run P w=.ok () w:=by
 unfold eqGuard;cases op <;> rfl
theorem bool_guard(op:BinOp)(T:TypeId)(ox oy:Operand)(a b:Bool)(w:World):(eqGuard op T ox oy (.bool a) (.bool b)).run P w=.ok () w:=by
 unfold eqGuard;cases op <;> rfl
theorem int_eql(T:TypeId)(k:IntKind)(a b:Int)(w:World):(binOp .eql T (.int k a) (.int k b)).run P w=.ok (.bool (decide (a=b))) w:=by
 cases k <;> rfl
theorem int_neq(T:TypeId)(k:IntKind)(a b:Int)(w:World):(binOp .neq T (.int k a) (.int k b)).run P w=.ok (.bool (!decide (a=b))) w:=by
 cases k <;> rfl
theorem int_lss(T:TypeId)(k:IntKind)(a b:Int)(w:World):(binOp .lss T (.int k a) (.int k b)).run P w=.ok (.bool (decide (a<b))) w:=by
 cases k <;> rfl
theorem int_leq(T:TypeId)(k:IntKind)(a b:Int)(w:World):(binOp .leq T (.int k a) (.int k b)).run P w=.ok (.bool (decide (a<=b))) w:=by
 cases k <;> rfl
theorem int_gtr(T:TypeId)(k:IntKind)(a b:Int)(w:World):(binOp .gtr T (.int k a) (.int k b)).run P w=.ok (.bool (decide (a > b))) w:=by
 cases k <;> rfl
theorem int_geq(T:TypeId)(k:IntKind)(a b:Int)(w:World):(binOp .geq T (.int k a) (.int k b)).run P w=.ok (.bool (decide (a ≥ b))) w:=by
 cases k <;> rfl
theorem int_add(T:TypeId)(k:IntKind)(a b:Int)(w:World):(binOp .add T (.int k a) (.int k b)).run P w=.ok (.int k (k.wrap (a+b))) w:=by
 cases k <;> rfl
theorem int_sub(T:TypeId)(k:IntKind)(a b:Int)(w:World):(binOp .sub T (.int k a) (.int k b)).run P w=.ok (.int k (k.wrap (a - b))) w:=by
 cases k <;> rfl
theorem int_mul(T:TypeId)(k:IntKind)(a b:Int)(w:World):(binOp .mul T (.int k a) (.int k b)).run P w=.ok (.int k (k.wrap (a*b))) w:=by
 cases k <;> rfl
theorem int_quo(T:TypeId)(k:IntKind)(a b:Int)(hb:b≠0)(w:World):(binOp .quo T (.int k a) (.int k b)).run P w=.ok (.int k (k.wrap (a.tdiv b))) w:=by
 cases k <;> simp[binOp,Op.intDiv,hb]
theorem int_rem(T:TypeId)(k:IntKind)(a b:Int)(hb:b≠0)(w:World):(binOp .rem T (.int k a) (.int k b)).run P w=.ok (.int k (a.tmod b)) w:=by
 cases k <;> simp[binOp,Op.intDiv,hb]
theorem int_and(T:TypeId)(k:IntKind)(a b:Int)(w:World):(binOp .and T (.int k a) (.int k b)).run P w=.ok (.int k (andI k a b)) w:=by
 cases k <;> rfl
theorem int_shr(T:TypeId)(k k':IntKind)(a b:Int)(hb:0<=b)(w:World):(binOp .shr T (.int k a) (.int k' b)).run P w=.ok (.int k (shrI k a b)) w:=by
 have h:¬b<0:=by omega
 simp[binOp,Op.shift,h,shrI]
theorem cloO_ok{op:BinOp}{k:IntKind}{a b:Int}(h:cloO op k a b=some r)(T:TypeId)(w:World):r.ok/\r.lt 0=true/\(binOp op T (.int k a) (.int k b)).run P w=.ok (r.val γ) w:=by
 cases op <;> first | (cases h;done) | skip
 ·cases h;exact⟨trivial,rfl,int_add T k a b w⟩
 ·cases h;exact⟨trivial,rfl,int_sub T k a b w⟩
 ·cases h;exact⟨trivial,rfl,int_mul T k a b w⟩
 ·unfold cloO at h
  dsimp only at h
  split at h
  ·cases h
  ·rename_i hb;cases h;exact⟨trivial,rfl,int_quo T k a b hb w⟩
 ·unfold cloO at h
  dsimp only at h
  split at h
  ·cases h
  ·rename_i hb;cases h;exact⟨trivial,rfl,int_rem T k a b hb w⟩
 ·cases h;exact⟨trivial,rfl,int_eql T k a b w⟩
 ·cases h;exact⟨trivial,rfl,int_neq T k a b w⟩
 ·cases h;exact⟨trivial,rfl,int_lss T k a b w⟩
 ·cases h;exact⟨trivial,rfl,int_leq T k a b w⟩
 ·cases h;exact⟨trivial,rfl,int_gtr T k a b w⟩
 ·cases h;exact⟨trivial,rfl,int_geq T k a b w⟩
theorem natO_ok{op:BinOp}{a b:Nat}{p:List Ob}(h:natO op a b=some (r,p))(hp:All p)(ha:a<2^62)(hb62:b<2^62)(T:TypeId)(w:World):r.ok/\r.lt 0=true/\(binOp op T (.int .i64 (a:Nat)) (.int .i64 (b:Nat))).run P w=.ok (r.val γ) w:=by
 have h62:(2:Nat)^62=4611686018427387904:=by decide
 have e1:∀ a b:Nat,decide (((a:Nat):Int)=((b:Nat):Int))=eqN a b:=fun a b=>decide_eq_decide.2 (by omega);have e2:∀ a b:Nat,decide (((a:Nat):Int)<((b:Nat):Int))=ltN a b:=fun a b=>decide_eq_decide.2 (by omega);have e3:∀ a b:Nat,decide (((a:Nat):Int)<=((b:Nat):Int))=!ltN b a:=fun a b=>by
  unfold ltN;rw[<- decide_not];exact decide_eq_decide.2 (by omega)
 cases op <;> first | (cases h;done) | skip
 ·cases h
  have hlt:a+b<2^62:=hp _ (.head _);refine⟨hlt,rfl,(int_add T .i64 a b w).trans ?_⟩;rw[wrap_in (by omega) (by omega)];rfl
 ·cases h
  refine⟨trivial,rfl,(int_sub T .i64 a b w).trans ?_⟩;rw[wrap_in (by omega) (by omega)];rfl
 ·cases h
  have hlt:a*b<2^62:=hp _ (.head _);refine⟨hlt,rfl,(int_mul T .i64 a b w).trans ?_⟩;rw[<- Int.natCast_mul,wrap_in (by omega) (by omega)];rfl
 ·unfold natO at h
  dsimp only at h
  split at h
  ·cases h
  ·rename_i hb
   cases h;have hq:a / b<=a:=Nat.div_le_self a b;refine⟨by show a / b<2^62;omega,rfl,(int_quo T .i64 a b (by omega) w).trans ?_⟩;show Result.ok (Value.int .i64 (IntKind.i64.wrap ((a / b:Nat):Int))) w=Result.ok (Value.int .i64 ((a / b:Nat):Int)) w;generalize a / b=q at hq;rw[wrap_in (by omega) (by omega)]
 ·unfold natO at h
  dsimp only at h
  split at h
  ·cases h
  ·rename_i hb
   cases h;have hq:a%b<=a:=Nat.mod_le a b;exact⟨by show a%b<2^62;omega,rfl,int_rem T .i64 a b (by omega) w⟩
 ·cases h;exact⟨trivial,rfl,(int_eql T .i64 a b w).trans (by rw[e1];rfl)⟩
 ·cases h;exact⟨trivial,rfl,(int_neq T .i64 a b w).trans (by rw[e1];rfl)⟩
 ·cases h;exact⟨trivial,rfl,(int_lss T .i64 a b w).trans (by rw[e2];rfl)⟩
 ·cases h;exact⟨trivial,rfl,(int_leq T .i64 a b w).trans (by rw[e3];rfl)⟩
 ·cases h;exact⟨trivial,rfl,(int_gtr T .i64 a b w).trans (by rw[show decide (((a:Nat):Int) > ((b:Nat):Int))=ltN b a from e2 b a];rfl)⟩
 ·cases h;exact⟨trivial,rfl,(int_geq T .i64 a b w).trans (by rw[show decide (((a:Nat):Int) ≥ ((b:Nat):Int))=!ltN a b from e3 b a];rfl)⟩
theorem intO_ok{op:BinOp}{k:IntKind}{a b:Int}{p:List Ob}(h:intO op k a b=some (r,p))(hp:All p)(T:TypeId)(w:World):r.ok/\r.lt 0=true/\(binOp op T (.int k a) (.int k b)).run P w=.ok (r.val γ) w:=by
 have e3:∀ a b:Int,decide (a<=b)=!ltI b a:=fun a b=>by
  unfold ltI;rw[<- decide_not];exact decide_eq_decide.2 (by omega)
 cases op <;> first | (cases h;done) | skip
 ·cases h
  have hw:k.wrap (a+b)=a+b:=hp _ (.head _);exact⟨trivial,rfl,(int_add T k a b w).trans (by rw[hw];rfl)⟩
 ·cases h
  have hw:k.wrap (a - b)=a - b:=hp _ (.head _);exact⟨trivial,rfl,(int_sub T k a b w).trans (by rw[hw];rfl)⟩
 ·cases h
  exact⟨trivial,rfl,int_rem T k a b (hp _ (.head _)) w⟩
 ·cases h
  exact⟨trivial,rfl,int_and T k a b w⟩
 ·cases h;exact⟨trivial,rfl,int_eql T k a b w⟩
 ·cases h;exact⟨trivial,rfl,int_neq T k a b w⟩
 ·cases h;exact⟨trivial,rfl,int_lss T k a b w⟩
 ·cases h;exact⟨trivial,rfl,(int_leq T k a b w).trans (by rw[e3];rfl)⟩
 ·cases h;exact⟨trivial,rfl,int_gtr T k a b w⟩
 ·cases h;exact⟨trivial,rfl,(int_geq T k a b w).trans (by rw[show decide (a ≥ b)=!ltI a b from e3 b a];rfl)⟩
end
theorem eqG_ok{T:TypeId}{x y:SV}{t:Bool}{γ:Pl}(h:eqG T x y=some t)(hx:x.ok)(hy:y.ok)(ox oy:Operand)(w:World):(∀ op,(eqGuard op T ox oy (x.val γ) (y.val γ)).run Tryz.prog w=.ok () w)/\(binOp .eql T (x.val γ) (y.val γ)).run Tryz.prog w=.ok (.bool t) w/\(binOp .neq T (x.val γ) (y.val γ)).run Tryz.prog w=.ok (.bool (!t)) w:=by
 unfold eqG at h
 split at h
 ·rename_i a b
  split at h
  ·rename_i e
   cases h;subst e;exact⟨fun op=>by cases op <;> kernel_rfl,eqw_run a b hx hy w,new_run a b hx hy w⟩
  ·cases h
 ·split at h
  ·rename_i a b ha hb
   split at h
   ·rename_i e
    cases h;subst e;rw[bitS_ok ha,bitS_ok hb];refine⟨fun op=>bool_guard op _ ox oy a b w,?_,?_⟩
    ·cases a <;> cases b <;> kernel_rfl
    ·cases a <;> cases b <;> kernel_rfl
   ·cases h
  ·split at h
   ·rename_i p q hp hq
    split at h
    ·rename_i e
     split at h
     ·rename_i hl
      cases h;subst e;have m1:=SV.val_many (γ:=γ) (wordsS_ok γ x hp).2.1;have m2:=SV.val_many (γ:=γ) (wordsS_ok γ y hq).2.1;exact⟨fun op=>by rw[m1,m2];cases op <;> kernel_rfl,eqWs_run (k:=2) (d0:=3) eqT_2 (by decide) hp hq hl.1 hl.2 hx hy γ w⟩
     ·cases h
    ·cases h
   ·split at h
    ·rename_i p q hp hq
     split at h
     ·rename_i e
      cases h;subst e;have h1:=ptS_ok (γ:=γ) hp;have h2:=ptS_ok (γ:=γ) hq;rw[h1.1,h2.1];exact⟨fun op=>by cases op <;> kernel_rfl,eqp_run p.2.2 q.2.2 (h1.2 hx).1 (h1.2 hx).2 (h2.2 hy).1 (h2.2 hy).2 w,neqp_run p.2.2 q.2.2 (h1.2 hx).1 (h1.2 hx).2 (h2.2 hy).1 (h2.2 hy).2 w⟩
     ·cases h
    ·split at h
     ·rename_i p q hp hq
      split at h
      ·rename_i e
       cases h;subst e;have h1:=twS_ok (γ:=γ) hp;have h2:=twS_ok (γ:=γ) hq;rw[h1.1,h2.1];exact⟨fun op=>by cases op <;> kernel_rfl,eqt_run p.2.2 q.2.2 (h1.2 hx).1.1 (h1.2 hx).1.2 (h1.2 hx).2.1 (h1.2 hx).2.2 (h2.2 hy).1.1 (h2.2 hy).1.2 (h2.2 hy).2.1 (h2.2 hy).2.2 w,neqt_run p.2.2 q.2.2 (h1.2 hx).1.1 (h1.2 hx).1.2 (h1.2 hx).2.1 (h1.2 hx).2.2 (h2.2 hy).1.1 (h2.2 hy).1.2 (h2.2 hy).2.1 (h2.2 hy).2.2 w⟩
      ·cases h
     ·cases h
theorem bopO_ok{op:BinOp}{T:TypeId}{x y r:SV}{p:List Ob}(h:bopO op T x y=some (r,p))(hp:All p)(hx:x.ok)(hy:y.ok):r.ok/\r.lt 0=true/\∀ γ (ox oy:Operand) wx,(eqGuard op T ox oy (x.val γ) (y.val γ)).run Tryz.prog wx=.ok () wx/\(binOp op T (x.val γ) (y.val γ)).run Tryz.prog wx=.ok (r.val γ) wx:=by
 have w:World:=default;unfold bopO at h
 split at h
 ·rename_i u v hu hv
  obtain⟨k,a⟩:=u;obtain⟨k',b⟩:=v
  split at h
  ·rename_i hk
   dsimp only at hk;subst hk;obtain⟨r',hr,e⟩:=Option.map_eq_some_iff.1 h;cases e;refine⟨(cloO_ok (P:=Tryz.prog) (γ:=fun _=>0) hr T w).1,(cloO_ok (P:=Tryz.prog) (γ:=fun _=>0) hr T w).2.1,fun γ ox oy wx=>?_⟩;rw[cloS_ok hu,cloS_ok hv];exact⟨int_guard op T ox oy _ _ _ _ wx,(cloO_ok hr T wx).2.2⟩
  ·cases h
 ·split at h
  ·rename_i a b ha hb
   have h1:=natS_ok (γ:=fun _=>0) ha hx;have h2:=natS_ok (γ:=fun _=>0) hb hy;refine⟨(natO_ok (P:=Tryz.prog) (γ:=fun _=>0) h hp h1.2 h2.2 T w).1,(natO_ok (P:=Tryz.prog) (γ:=fun _=>0) h hp h1.2 h2.2 T w).2.1,fun γ ox oy wx=>?_⟩;rw[(natS_ok ha hx).1,(natS_ok hb hy).1];exact⟨int_guard op T ox oy _ _ _ _ wx,(natO_ok h hp h1.2 h2.2 T wx).2.2⟩
  ·split at h
   ·rename_i u v hu hv
    obtain⟨k,a⟩:=u;obtain⟨k',b⟩:=v
    split at h
    ·rename_i hk
     dsimp only at hk;subst hk;refine⟨(intO_ok (P:=Tryz.prog) (γ:=fun _=>0) h hp T w).1,(intO_ok (P:=Tryz.prog) (γ:=fun _=>0) h hp T w).2.1,fun γ ox oy wx=>?_⟩;rw[intS_ok hu,intS_ok hv];exact⟨int_guard op T ox oy _ _ _ _ wx,(intO_ok h hp T wx).2.2⟩
    ·cases h
   ·split at h
    ·obtain⟨t,ht,e⟩:=Option.map_eq_some_iff.1 h
     cases e;refine⟨trivial,rfl,fun γ ox oy wx=>?_⟩;have q:=eqG_ok (γ:=γ) ht hx hy ox oy wx;exact⟨q.1 _,q.2.1⟩
    ·obtain⟨t,ht,e⟩:=Option.map_eq_some_iff.1 h
     cases e;refine⟨trivial,rfl,fun γ ox oy wx=>?_⟩;have q:=eqG_ok (γ:=γ) ht hx hy ox oy wx;exact⟨q.1 _,q.2.2⟩
    ·cases h
def bopG(op:BinOp)(T:TypeId)(x y:SV):Option (SV × List Ob):=match op with
 | .shr=>shrS x y
 | op=>bopO op T x y
theorem bopG_ok{op:BinOp}{T:TypeId}{x y r:SV}{p:List Ob}(h:bopG op T x y=some (r,p))(hp:All p)(hx:x.ok)(hy:y.ok):r.ok/\r.lt 0=true/\∀ γ (ox oy:Operand) wx,(eqGuard op T ox oy (x.val γ) (y.val γ)).run Tryz.prog wx=.ok () wx/\(binOp op T (x.val γ) (y.val γ)).run Tryz.prog wx=.ok (r.val γ) wx:=by
 unfold bopG at h
 split at h
 ·unfold shrS at h
  split at h
  ·rename_i u v hu hv
   obtain⟨k,a⟩:=u;obtain⟨k',b⟩:=v;cases h;have hb:0<=b:=hp _ (.head _);refine⟨trivial,rfl,fun γ ox oy wx=>?_⟩;rw[intS_ok hu,intS_ok hv];exact⟨int_guard .shr T ox oy k k' a b wx,int_shr T k k' a b hb wx⟩
  ·cases h
 ·exact bopO_ok h hp hx hy
end Go.Proofs.YtadfjjfklihaaaaGreat.Sy
