/- What field.modulo, New, Curve, Order and Base come to. (Cut to what is reached, written closely: SyF · SyW · FPin · FNeg · FMdl.) -/
import Derived.Test.YthnckclbeecnmaaGreatF20
import Derived.Deep.LoopGhost
import Derived.Test.YthnckclbeecnmaaGreatF15
set_option linter.all false
set_option maxRecDepth 100000
set_option maxHeartbeats 8000000
namespace Go.Proofs.YthnckclbeecnmaaGreat.Sy
open Go.RowKit
def normL:List (Nat × Option SV)->List (Nat × Option SV)
 | []=>[]
 | p::l=>(p.1,p.2.map normS)::normL l
def normT(s:St):St:=⟨normL s.S,s.M,s.n⟩
def rep(f:St->(Exit->St->Tr)->Tr):Nat->St->(Exit->St->Tr)->Tr
 | 0,_,_=>.bad
 | n+1,s,k=>f s fun e s'=>match e with
  | .normal=>rep f n s' k
  | e=>k e s'
def exec(E:Env)(N:Nat)(hd:Nat->Nat):Code->Nat->Nat->St->(Exit->St->Tr)->Tr
 | .skip,_,_,s,k=>k .normal s
 | .region _ ops draw,_,_,s,k=>match draw with
  | true=>drawX E N ops.toList s (k .normal)
  | false=>seqX E N (fun j=>(ops[j]?).bind (·.dst)) ops.toList s (k .normal)
 | .seq x y,b,d,s,k=>exec E N hd x b d s fun e s'=>match e with
  | .normal=>exec E N hd y b d s' k
  | e=>k e s'
 | .cond c x y,b,d,s,k=>match opnd (look s.S) c with
  | some (.b t)=>.br t (exec E N hd x b d s k) (exec E N hd y b d s k)
  | some (.v (.bool t))=>match t with
   | true=>exec E N hd x b d s k
   | false=>exec E N hd y b d s k
  | _=>.bad
 | .block id c,_,d,s,k=>exec E N hd c id d s fun e s'=>match e with
  | .exit j=>if j=id then k .normal s' else k (.exit j) s'
  | e=>k e s'
 | .loop c,b,d,s,k=>match hd b with
  | 0=>.loop d (normT s) fun s0=>exec E N hd c b (d+1) s0 fun e s'=>match e with
   | .normal=>.cut d (normT s')
   | e=>k e s'
  | n+1=>rep (fun s k=>exec E N hd c b d s k) (n+1) s k
 | .exit id,_,_,s,k=>k (.exit id) s
 | .ret,_,_,s,k=>k .ret s
 | _,_,_,_,_=>.bad
def resX(E:Env)(s:St):ResultVar->Option SV
 | .tmp t=>look s.S t
 | .cell p T=>match look s.S p,tyIn T E.tys with
  | some (.p g o _ z),some y=>match rowIn g s.M with
   | some r=>if z=0 then SV.sub y.m o y.sz r.1 else none
   | none=>none
  | _,_=>none
def finX(E:Env)(rs:Array ResultVar)(e:Exit)(s:St):Tr :=
 match e with
 | .normal | .ret=>match rs.toList with
  | [r]=>match resX E s r with
   | some x=>if x.lt E.base=true then .leaf x else .bad
   | none=>.bad
  | [r,q]=>match resX E s r,resX E s q with
   | some x,some y=>if x.lt E.base=true/\y.lt E.base=true then .leaf (.tu x y)else .bad
   | _,_=>.bad
  | _=>.bad
 | _=>.bad
def argsX:List SV->Nat->List (Nat × Option SV)
 | [],_=>[]
 | x::l,i=>(i,some x)::argsX l (i+1)
section
variable {E:Env} {γ0 γ:Pl} {N n:Nat} {w0 w wx:World} {s:St} {a a0:Act} {o:Oper} {Q:Post} {X:Exit->Act->World->Prop} {hd:Nat->Nat}
theorem subS_look{S:List (Nat × Option SV)}{n:Nat}:∀ {l:List (Nat × Option SV)} {t:Nat} {x:SV},subS S n l->look l t=some x->(∃ y,look S t=some y/\Wk y x)/\x.lt n=true
 | [],_,_,_,h=>by cases h
 | (u,o)::l,t,x,hs,h=>by
  have h':(if u=t then o else look l t)=some x:=h;cases o with
  | none =>
   split at h'
   ·cases h'
   ·exact subS_look (l:=l) hs h'
  | some y =>
   split at h'
   ·rename_i e
    cases h';subst e;exact hs.1
   ·exact subS_look (l:=l) hs.2 h'
theorem Rel.sub{s':St}(R:Rel E γ0 γ N w0 s a w)(h:Sub E.base s s'):Rel E γ0 γ N w0 s' a w:=by
 obtain⟨gs,hgs⟩:=h.M;have hsub:s'.M.Sublist s.M:=by rw[hgs];exact List.filter_sublist
 refine⟨R.ag,h.base,R.z,R.d,fun t x hx=>?_,⟨R.h.old,fun p hp=>R.h.rows p ((hsub.map _).subset hp),R.h.nd.sublist (hsub.map _)⟩,fun r hr=>⟨(R.m r (hsub.subset hr)).1,h.lt r hr⟩⟩;obtain⟨⟨y,hy,hw⟩,hl⟩:=subS_look h.S hx;have:=R.k t y hy;exact⟨this.1.trans (hw.1 γ),hw.2 this.2.1,hl⟩
theorem norm_look:∀ {l:List (Nat × Option SV)} {t:Nat},look (normL l) t=(look l t).map normS
 | [],_=>rfl
 | p::l,t=>by
  show(if p.1=t then p.2.map normS else look (normL l) t)=(if p.1=t then p.2 else look l t).map normS;rw[norm_look]
  split <;> rfl
theorem Rel.norm(R:Rel E γ0 γ N w0 s a w):Rel E γ0 γ N w0 (normT s) a w :=
 ⟨R.ag,R.base,R.z,R.d,fun t x hx=>by
  have hx:look (normL s.S) t=some x:=hx;rw[norm_look]at hx;obtain⟨y,hy,rfl⟩:=Option.map_eq_some_iff.1 hx;have q:=R.k t y hy;have n:=normS_ok (γ:=γ) (n:=s.n) q.2.1 q.2.2;exact⟨q.1.trans n.1.symm,n.2⟩,R.h,R.m⟩
def Alike(d:Nat)(Q Q':Post):Prop:=Q'.leaf=Q.leaf/\∀ d' s,d'<d->(Q'.cut d' s↔Q.cut d' s)
theorem Alike.rfl'{d:Nat}{Q:Post}:Alike d Q Q:=⟨rfl,fun _ _ _=>Iff.rfl⟩
theorem Alike.trans{d:Nat}{Q Q' Q'':Post}(h:Alike d Q Q')(h':Alike d Q' Q''):Alike d Q Q'':=⟨h'.1.trans h.1,fun d' s hd=>(h'.2 d' s hd).trans (h.2 d' s hd)⟩
theorem exec_ok(G:E.Good γ0 w0)(mx:E.P.follows .mixedOrders=true):∀ {c:Code} {b d:Nat} {s:St} {k:Exit->St->Tr} {X:Exit->Act->World->Prop} {Q:Post} {a:Act} {w:World} {γ:Pl},(exec E N hd c b d s k).wp E.base Q->Rel E γ0 γ N w0 s a w ->
  (∀ Q' e γ s' a' w',Alike d Q Q'->Rel E γ0 γ N w0 s' a' w'->(k e s').wp E.base Q'->X e a' w')->c.wp E.P X a w:=by
 intro c
 induction c with
 | skip=>intro b d s k X Q a w γ h R cont;exact wp_skip (cont _ _ _ _ _ _ Alike.rfl' R h)
 | region id ops draw =>
  intro b d s k X Q a w γ h R cont;cases draw with
  | true=>exact drawX_ok (l:=ops.toList) (id:=id) G mx h R fun γ s' a' w' R' hk=>cont Q .normal γ s' a' w' Alike.rfl' R' hk
  | false=>exact wp_region_list (seqX_ok G h R fun γ s' a' w' R' hk=>cont Q .normal γ s' a' w' Alike.rfl' R' hk)
 | seq x y ihx ihy =>
  intro b d s k X Q a w γ h R cont;refine wp_seq (ihx h R fun Q' e γ s' a' w' hQ R' hk=>?_);cases e with
  | normal=>exact ihy hk R' fun Q'' e γ s' a' w' hQ' R'' hk'=>cont _ _ _ _ _ _ (hQ.trans hQ') R'' hk'
  | exit i=>exact cont _ _ _ _ _ _ hQ R' hk
  | goto i=>exact cont _ _ _ _ _ _ hQ R' hk
  | ret=>exact cont _ _ _ _ _ _ hQ R' hk
  | panic i=>exact cont _ _ _ _ _ _ hQ R' hk
  | outgrown=>exact cont _ _ _ _ _ _ hQ R' hk
 | cond c x y ihx ihy =>
  intro b d s k X Q a w γ h R cont;unfold exec at h
  split at h
  ·rename_i t ht
   exact wp_cond_split (opnd_ok R.k ht).1 (fun e=>ihx (h.1 e) R cont) (fun e=>ihy (h.2 e) R cont)
  ·rename_i t ht
   have hv:=(opnd_ok R.k ht).1;cases t with
   | true=>exact wp_cond_true hv (ihx h R cont)
   | false=>exact wp_cond_false hv (ihy h R cont)
  ·cases h
 | block id c ih =>
  intro b d s k X Q a w γ h R cont;refine wp_block (ih h R fun Q' e γ s' a' w' hQ R' hk=>?_);cases e with
  | normal=>exact cont _ _ _ _ _ _ hQ R' hk
  | exit j =>
   show(if j=id then _ else _);dsimp only at hk
   split at hk
   ·rename_i e;rw[if_pos e];exact cont _ _ _ _ _ _ hQ R' hk
   ·rename_i e;rw[if_neg e];exact cont _ _ _ _ _ _ hQ R' hk
  | goto i=>exact cont _ _ _ _ _ _ hQ R' hk
  | ret=>exact cont _ _ _ _ _ _ hQ R' hk
  | panic i=>exact cont _ _ _ _ _ _ hQ R' hk
  | outgrown=>exact cont _ _ _ _ _ _ hQ R' hk
 | loop c ih =>
  intro b d s k X Q a w γ h R cont;unfold exec at h
  split at h
  ·obtain⟨ι,st,μ,⟨i0,h0⟩,hr⟩:=h
   refine wp_loop_ghost (fun n a w=>∃ i γ,μ i=n/\Rel E γ0 γ N w0 (st i) a w) (μ i0) ⟨i0,γ,rfl,R.norm.sub h0⟩ ?_;rintro n a w ⟨i,γ,rfl,R1⟩;refine ih (hr i) R1 fun Q' e γ s' a' w' hQ R' hk=>?_;have up:Alike d Q Q':=⟨hQ.1,fun d' s hd'=>(hQ.2 d' s (Nat.lt_succ_of_lt hd')).trans (by
    show(if d'=d then _ else _)↔_;rw[if_neg (Nat.ne_of_lt hd')])⟩
   cases e with
   | normal =>
    have hc:Q'.cut d (normT s'):=hk;have hc:=(hQ.2 d (normT s') (Nat.lt_succ_self d)).1 hc;dsimp only at hc;rw[if_pos rfl]at hc;obtain⟨j,hj,hs⟩:=hc;exact⟨μ j,hj,j,γ,rfl,R'.norm.sub hs⟩
   | exit i=>exact cont _ _ _ _ _ _ up R' hk
   | goto i=>exact cont _ _ _ _ _ _ up R' hk
   | ret=>exact cont _ _ _ _ _ _ up R' hk
   | panic i=>exact cont _ _ _ _ _ _ up R' hk
   | outgrown=>exact cont _ _ _ _ _ _ up R' hk
  ·rename_i n0 _
   refine wp_loop_ghost (fun n a w=>∃ γ s Q',Alike d Q Q'/\Rel E γ0 γ N w0 s a w/\(rep (fun s k=>exec E N hd c b d s k) n s k).wp E.base Q') (n0+1) ⟨γ,s,Q,Alike.rfl',R,h⟩ ?_;rintro n a w ⟨γ,s,Q',hQ0,R1,h1⟩;cases n with
   | zero=>cases h1
   | succ n =>
    refine ih h1 R1 fun Q'' e γ s' a' w' hQ R' hk=>?_;have hQ1:=hQ0.trans hQ;cases e with
    | normal=>exact⟨n,Nat.lt_succ_self n,γ,s',Q'',hQ1,R',hk⟩
    | exit i=>exact cont _ _ _ _ _ _ hQ1 R' hk
    | goto i=>exact cont _ _ _ _ _ _ hQ1 R' hk
    | ret=>exact cont _ _ _ _ _ _ hQ1 R' hk
    | panic i=>exact cont _ _ _ _ _ _ hQ1 R' hk
    | outgrown=>exact cont _ _ _ _ _ _ hQ1 R' hk
 | exit id=>intro b d s k X Q a w γ h R cont;exact wp_exit (cont _ _ _ _ _ _ Alike.rfl' R h)
 | ret=>intro b d s k X Q a w γ h R cont;exact wp_ret (cont _ _ _ _ _ _ Alike.rfl' R h)
 | _=>intro b d s k X Q a w γ h R cont;cases h
def readR(a:Act):ResultVar->Sem Value
 | .tmp t=>pure (a.tmps.getD t undef)
 | .cell p t=>do loadVar t (<- asAddr (a.tmps.getD p undef))
theorem results_read(P:Program)(fn:Func)(a:Act)(w:World):(results fn a.tmps).run P w=(do let vs <- fn.results.mapM (readR a);pure (if h:vs.size=1 then vs[0]else .tuple vs):Sem Value).run P w:=by
 have e:readR a=(fun r=>(match r with
  | .tmp t=>pure (a.tmps.getD t undef)
  | .cell p t=>do loadVar t (<- asAddr (a.tmps.getD p undef)):Sem Value)):=by
  funext r
  cases r with
  | tmp t=>rfl
  | cell p t=>rfl
 rw[e];rfl
theorem resX_ok(G:E.Good γ0 w0)(R:Rel E γ0 γ N w0 s a w){r:ResultVar}{x:SV}(h:resX E s r=some x):(readR a r).run E.P w=.ok (x.val γ) w:=by
 cases r with
 | tmp t=>exact congrArg (fun v=>Result.ok v w) (R.k t x h).1
 | cell p T =>
  dsimp only[resX]at h
  split at h
  ·rename_i g o' j z y hp ht
   split at h
   ·rename_i r hr
    split at h
    ·rename_i hz
     subst hz;have hm:=R.lies _ (rowIn_ok hr);have ty:=G.tys _ (tyIn_ok ht).1;have hd:=ty.d;have hsz:=ty.sz;rw[(tyIn_ok ht).2]at hd hsz;have hl:=load_ok hm.1 hd hsz h;have e:a.tmps.getD p undef=.pointer (some ⟨γ g,o',none⟩):=by
      rw[(R.k p _ hp).1];show Value.pointer (some ⟨γ g,o'+j*0,none⟩)=_;rw[Nat.mul_zero,Nat.add_zero]
     show(do loadVar T (<- asAddr (a.tmps.getD p undef)):Sem Value).run E.P w=_;rw[e];simp only[Instr.loadAt,Instr.sureAddr,Sem.run_bind,Sem.run_pure,Result.andThen_ok]at hl;simp only[asAddr,Sem.run_bind,Sem.run_pure,Result.andThen_ok];exact hl
    ·cases h
   ·cases h
  ·cases h
theorem finX_ok(G:E.Good γ0 w0)(R:Rel E γ0 γ N w0 s a w){fn:Func}{e:Exit}(h:(finX E fn.results e s).wp E.base Q):bodyPost E.P fn (fun e w'=>∃ r,Q.leaf r/\e=.returned (r.val γ0)/\Below w0.heap.size w0 w') e a w:=by
 have fin:∀ x:SV,x.lt E.base=true->Q.leaf x->(results fn a.tmps).run E.P w=.ok (x.val γ) w->(a.defers=[]/\∃ v,(results fn a.tmps).run E.P w=.ok v w/\∃ r,Q.leaf r/\Ending.returned v=.returned (r.val γ0)/\Below w0.heap.size w0 w):=fun x hl hq hr =>
  ⟨R.d,_,hr,x,hq,by rw[(SV.lt_same R.ag hl).2.2],R.h.old⟩
 have main:(match fn.results.toList with
  | [r]=>match resX E s r with
   | some x=>if x.lt E.base=true then Tr.leaf x else .bad
   | none=>.bad
  | [r,q]=>match resX E s r,resX E s q with
   | some x,some y=>if x.lt E.base=true/\y.lt E.base=true then .leaf (.tu x y)else .bad
   | _,_=>.bad
  | _=>.bad).wp E.base Q->(a.defers=[]/\∃ v,(results fn a.tmps).run E.P w=.ok v w/\∃ r,Q.leaf r/\Ending.returned v=.returned (r.val γ0)/\Below w0.heap.size w0 w):=by
  intro h
  split at h
  ·rename_i r hr
   have hr':fn.results=#[r]:=by apply Array.ext';rw[hr]
   split at h
   ·rename_i x hx
    split at h
    ·rename_i hl
     have h1:=resX_ok G R hx;refine fin x hl h ?_;rw[results_read,hr'];simp[h1]
    ·cases h
   ·cases h
  ·rename_i r q hr
   have hr':fn.results=#[r,q]:=by apply Array.ext';rw[hr]
   split at h
   ·rename_i x y hx hy
    split at h
    ·rename_i hl
     have h1:=resX_ok G R hx;have h2:=resX_ok G R hy;refine fin (.tu x y) (by show(x.lt _&&y.lt _)=true;rw[hl.1,hl.2];rfl) h ?_;rw[results_read,hr'];simp[h1,h2,SV.val]
    ·cases h
   ·cases h
  ·cases h
 unfold finX at h
 split at h
 ·exact main h
 ·exact main h
 ·cases h
theorem args_look:∀ {l:List SV} {i t:Nat} {x:SV},look (argsX l i) t=some x->∃ j,t=i+j/\l[j]?=some x
 | [],_,_,_,h=>by cases h
 | y::l,i,t,x,h=>by
  have h':(if i=t then some y else look (argsX l (i+1)) t)=some x:=h
  split at h'
  ·rename_i e;cases h';exact⟨0,by omega,rfl⟩
  ·obtain⟨j,h1,h2⟩:=args_look h'
   exact⟨j+1,by omega,by simpa using h2⟩
theorem calls_of(G:E.Good γ0 w0)(mx:E.P.follows .mixedOrders=true)(hd:Nat->Nat){f:FuncId}{fn:Func}{c:Code}(hf:E.P.funcs[f]?=some fn)(hb:fn.body=some c)(args:List SV)(ha:∀ x∈args,x.ok/\x.lt E.base=true)(hn:args.length<=fn.ntmps){T:Tr}
  (hT:exec E fn.ntmps hd c 0 0 ⟨argsX args 0,[],E.base⟩ (finX E fn.results)=T) (hQ:T.wp E.base Q):Calls E.P f (args.map (·.val γ0)).toArray w0 fun e w'=>∃ r,Q.leaf r/\e=.returned (r.val γ0)/\Below w0.heap.size w0 w':=by
 refine enter hf hb fun a hz hdf he=>?_;have R0:Rel E γ0 γ0 fn.ntmps w0 ⟨argsX args 0,[],E.base⟩ a w0:=by
  refine⟨fun _ _=>rfl,Nat.le_refl _,by simp at hz;omega,hdf,fun t x hx=>?_,HC.start w0,fun r hr=>by cases hr⟩;obtain⟨j,rfl,hj⟩:=args_look hx;refine⟨?_,ha x (List.mem_of_getElem? hj)⟩;rw[he,Nat.zero_add];simp[hj]
 exact exec_ok (N:=fn.ntmps) G mx (hT ▸ hQ) R0 fun Q' e γ s' a' w' hq R' hk=>(by
  have:=finX_ok G R' (fn:=fn) (e:=e) hk;rw[hq.1]at this;exact this)
end
end Go.Proofs.YthnckclbeecnmaaGreat.Sy
namespace Go.Proofs.YthnckclbeecnmaaGreat.Sy
open Go.RowKit
def Tr.diag:Tr->Tr
 | .need (.same g _) t=>.need (.same g g) t.diag
 | .need (.eq x _) t=>.need (.eq x x) t.diag
 | .need p t=>.need p t.diag
 | .br b t f=>.br b t.diag f.diag
 | t=>t
inductive Sh
 | leaf (r:SV)
 | br (b:Bool) (t f:Sh)
 | need (p:Prop) (t:Sh)
 | cut (d:Nat)
 | loop (d:Nat)
 | bad
def Tr.shape:Tr->Sh
 | .leaf r=>.leaf r
 | .br b t f=>.br b t.shape f.shape
 | .need (.same _ _) t=>t.shape
 | .need (.eq _ _) t=>t.shape
 | .need (.ask p) t=>.need p t.shape
 | .cut d _=>.cut d
 | .loop d _ _=>.loop d
 | .bad=>.bad
def Tr.on:List Bool->Tr->Tr
 | b::l,.br _ t f=>match b with
  | true=>Tr.on l t
  | false=>Tr.on l f
 | l,.need _ t=>Tr.on l t
 | _,t=>t
def Sh.wp(Q:Post)(L:List Bool->Prop):Sh->Prop
 | .leaf r=>Q.leaf r
 | .br b t f=>(b=true->t.wp Q fun l=>L (true::l))/\(b=false->f.wp Q fun l=>L (false::l))
 | .need p t=>p/\t.wp Q L
 | .cut _=>L []
 | .loop _=>L []
 | .bad=>False
theorem wp_of_shape{base:Nat}{Q:Post}:∀ {T:Tr} {L:List Bool->Prop},T=T.diag->T.shape.wp Q L->(∀ l,L l->(T.on l).wp base Q)->T.wp base Q
 | .leaf r,_,_,h,_=>h
 | .br b t f,L,hd,h,hL=>by
  have h1:t=t.diag:=by injection hd
  have h2:f=f.diag:=by injection hd
  exact⟨fun e=>wp_of_shape h1 (h.1 e) fun l hl=>hL (true::l) hl,fun e=>wp_of_shape h2 (h.2 e) fun l hl=>hL (false::l) hl⟩
 | .need (.same g g') t,L,hd,h,hL=>by
  have h1:Tr.need (.same g g') t=.need (.same g g) t.diag:=hd;injection h1 with h2 h3
  injection h2 with _ h4
  refine⟨fun hg=>h4 ▸ hg,wp_of_shape h3 h fun l hl=>?_⟩;have:=hL l hl;cases l <;> exact this
 | .need (.eq g g') t,L,hd,h,hL=>by
  have h1:Tr.need (.eq g g') t=.need (.eq g g) t.diag:=hd;injection h1 with h2 h3
  injection h2 with _ h4
  refine⟨h4.symm,wp_of_shape h3 h fun l hl=>?_⟩;have:=hL l hl;cases l <;> exact this
 | .need (.ask p) t,L,hd,h,hL=>by
  have h1:Tr.need (.ask p) t=.need (.ask p) t.diag:=hd;injection h1 with _ h3
  refine⟨h.1,wp_of_shape h3 h.2 fun l hl=>?_⟩;have:=hL l hl;cases l <;> exact this
 | .cut d s,L,_,h,hL=>hL [] h
 | .loop d s b,L,_,h,hL=>hL [] h
 | .bad,_,_,h,_=>h.elim
def Tr.round(s:St):Tr->Tr
 | .loop _ _ b=>b s
 | _=>.bad
def Tr.stOf:Tr->St
 | .loop _ s _=>s
 | _=>⟨[],[],0⟩
def Tr.isLoop(d:Nat):Tr->Bool
 | .loop d' _ _=>d' == d
 | _=>false
def subB(base:Nat)(s':St):Bool:=decide (base<=s'.n)&&s'.M.all (fun r=>r.2.1.lt s'.n&&decide (r.1<s'.n))&&s'.S.all fun p=>match p.2 with
 | some x=>x.lt s'.n
 | none=>true
def Tr.cutOf:Tr->St
 | .cut _ s=>s
 | _=>⟨[],[],0⟩
def Tr.isCut(d:Nat):Tr->Bool
 | .cut d' _=>d' == d
 | _=>false
theorem cut_wp{base:Nat}{Q:Post}{T:Tr}(d:Nat)(hs:T.isCut d=true)(h:Q.cut d T.cutOf):T.wp base Q:=by
 cases T with
 | cut d' s =>
  obtain rfl:d'=d:=by simpa[Tr.isCut]using hs
  exact h
 | _=>cases hs
def Wkt(S:List (Nat × Option SV))(t:Nat)(x:SV):Prop:=∃ y,lookX S t=some y/\Wk y x
theorem Wkt.is{S:List (Nat × Option SV)}{t:Nat}{x:SV}(h:lookX S t=some x):Wkt S t x:=⟨x,h,.rfl'⟩
def eqsW(S:List (Nat × Option SV)):List (Nat × Option SV)->Prop
 | []=>True
 | (t,some x)::l=>Wkt S t x/\eqsW S l
 | (_,none)::l=>eqsW S l
theorem subS_ofW{S:List (Nat × Option SV)}{n:Nat}:∀ {l:List (Nat × Option SV)},eqsW S l->(l.all fun p=>match p.2 with
  | some x=>x.lt n
  | none=>true)=true->subS S n l
 | [],_,_=>trivial
 | (t,some x)::l,h,hb=>by
  rw[List.all_cons,Bool.and_eq_true]at hb;exact⟨⟨h.1,hb.1⟩,subS_ofW h.2 hb.2⟩
 | (t,none)::l,h,hb=>by
  rw[List.all_cons,Bool.and_eq_true]at hb;exact subS_ofW (l:=l) h hb.2
theorem Sub.ofW{base:Nat}{s s':St}(gs:List Nat)(hB:subB base s'=true)(hS:eqsW s.S s'.S)(hM:s'.M=s.M.filter fun r=>gs.contains r.1):Sub base s s':=by
 unfold subB at hB;rw[Bool.and_eq_true,Bool.and_eq_true]at hB;refine⟨of_decide_eq_true hB.1.1,subS_ofW hS hB.2,⟨gs,hM⟩,fun r hr=>?_⟩;have:=List.all_eq_true.1 hB.1.2 r hr;rw[Bool.and_eq_true]at this;exact⟨this.1,of_decide_eq_true this.2⟩
theorem next_wp{base:Nat}{Q:Post}{T:Tr}(d:Nat)(hs:T.isCut d=true){ι:Type}{st:ι->St}{μ:ι->Nat}{i:ι}(j:ι)(hj:μ j<μ i)(h:Sub base T.cutOf (st j)):T.wp base ⟨Q.leaf,fun d' s'=>if d'=d then ∃ j,μ j<μ i/\Sub base s' (st j)else Q.cut d' s'⟩ :=
 cut_wp d hs (by
  dsimp only;rw[if_pos rfl];exact⟨j,hj,h⟩)
theorem loop_wp{base:Nat}{Q:Post}{T:Tr}(d:Nat)(hs:T.isLoop d=true){ι:Type}(st:ι->St)(μ:ι->Nat)(i0:ι)(h0:Sub base T.stOf (st i0))(hr:∀ i,(T.round (st i)).wp base ⟨Q.leaf,fun d' s'=>if d'=d then ∃ j,μ j<μ i/\Sub base s' (st j)else Q.cut d' s'⟩):T.wp base Q:=by
 cases T with
 | loop d' s' b =>
  obtain rfl:d'=d:=by simpa[Tr.isLoop]using hs
  exact⟨ι,st,μ,⟨i0,h0⟩,hr⟩
 | _=>cases hs
def walk(E:Env)(hd:Nat->Nat)(fn:Func)(args:List SV):Tr:=exec E fn.ntmps hd (fn.body.getD .skip) 0 0 ⟨argsX args 0,[],E.base⟩ (finX E fn.results)
theorem calls_sh{E:Env}{γ0:Pl}{w0:World}{Q:SV->Prop}(G:E.Good γ0 w0)(mx:E.P.follows .mixedOrders=true)(hd:Nat->Nat){f:FuncId}{fn:Func}(hf:E.P.funcs[f]?=some fn)(hb:fn.body.isSome=true)(args:List SV)(ha:∀ x∈args,x.ok/\x.lt E.base=true)(hn:decide (args.length<=fn.ntmps)=true)
  (hD:walk E hd fn args=(walk E hd fn args).diag) (Z:Sh) (hZ:(walk E hd fn args).shape=Z) (hW:Z.wp ⟨Q,fun _ _=>False⟩ fun l=>((walk E hd fn args).on l).wp E.base ⟨Q,fun _ _=>False⟩):Calls E.P f (args.map (·.val γ0)).toArray w0 fun e w'=>∃ r,Q r/\e=.returned (r.val γ0)/\Below w0.heap.size w0 w':=by
 obtain⟨c,hc⟩:=Option.isSome_iff_exists.1 hb;have e:fn.body.getD .skip=c:=by rw[hc];rfl
 exact calls_of G mx hd hf hc args ha (of_decide_eq_true hn) rfl (Q:=⟨Q,fun _ _=>False⟩) (by rw[<- e];exact wp_of_shape hD (hZ ▸ hW) fun _ h=>h)
def okAll(base:Nat):List SV->Prop
 | []=>True
 | x::l=>(x.ok/\x.lt base=true)/\okAll base l
theorem okAll_mem{base:Nat}:∀ {l:List SV},okAll base l->∀ x∈l,x.ok/\x.lt base=true
 | [],_,x,h=>by cases h
 | y::l,ha,x,h=>by
  rcases List.mem_cons.1 h with rfl | h
  ·exact ha.1
  ·exact okAll_mem ha.2 x h
theorem calls_at{E:Env}{γ0:Pl}{w0:World}{V:Value}(G:E.Good γ0 w0)(mx:E.P.follows .mixedOrders=true)(hd:Nat->Nat){f:FuncId}{fn:Func}(hf:E.P.funcs[f]?=some fn)(hb:fn.body.isSome=true)(args:List SV)(ha:okAll E.base args)(hn:decide (args.length<=fn.ntmps)=true)
  (hD:walk E hd fn args=(walk E hd fn args).diag) (Z:Sh) (hZ:(walk E hd fn args).shape=Z) (hW:Z.wp ⟨fun r=>r.val γ0=V,fun _ _=>False⟩ fun l=>((walk E hd fn args).on l).wp E.base ⟨fun r=>r.val γ0=V,fun _ _=>False⟩):Calls E.P f (args.map (·.val γ0)).toArray w0 fun e w'=>e=.returned V/\Below w0.heap.size w0 w' :=
 (calls_sh G mx hd hf hb args (okAll_mem ha) hn hD Z hZ hW).mono fun _ _ ⟨_,h1,h2,h3⟩=>⟨by rw[h2,h1],h3⟩
end Go.Proofs.YthnckclbeecnmaaGreat.Sy
namespace Go.Proofs.YthnckclbeecnmaaGreat
open Go.RowKit
-- WHAT partInverse COMES TO.
theorem pinv_any(p:Nat)(hp:p<18446744073709551616)(w:World):Calls Tryz.prog 106 #[.int .u64 (p:Nat)] w fun e w'=>e=.returned (.int .u64 (pin p 5:Nat))/\w=w':=by
 have HP:=Lib.hid hp;clear hp;go_enter Tryz.func106,Tryz.ntmps106
 go_wp2_with fail
 go_loopw [3,5] (fun v iv wr=>∃ k:Nat,k<=5/\iv=.int .i64 k/\v=.int .u64 (pin p k:Nat)/\w=wr) (fun _ iv _=>5 - (intOf iv).toNat)
 case atStart=>exact⟨0,by omega,rfl,rfl,rfl⟩
 case round =>
  obtain⟨k,hk,rfl,rfl,rfl⟩:=hrel;have hk0:(0:Int)<=k:=by omega
  by_cases hlt:k<5
  ·have hlt':(k:Int)<5:=by omega
   have hxl:=pin_lt p k HP.out;have HX:=Lib.hid (show pin p (k+1)=nst p (pin p k) from rfl);obtain⟨x,hx⟩:∃ x,pin p k=x:=⟨_,rfl⟩
   rw[hx]at hxl HX |-
   obtain⟨y,hy⟩:∃ y,p*x%18446744073709551616=y:=⟨_,rfl⟩
   obtain⟨z,hz⟩:∃ z,(18446744073709551616+2 - y)%18446744073709551616=z:=⟨_,rfl⟩
   obtain⟨u,hu⟩:∃ u,x*z%18446744073709551616=u:=⟨_,rfl⟩
   have h1:IntKind.u64.wrap ((p:Int)*x)=(y:Int):=by rw[IntKind.wrap_u64];omega
   have hyl:y<18446744073709551616:=by rw[<- hy];exact Nat.mod_lt _ (by omega)
   have h2:IntKind.u64.wrap (2 - (y:Int))=(z:Int):=by rw[IntKind.wrap_u64,<- hz];omega
   have h3:IntKind.u64.wrap ((x:Int)*z)=(u:Int):=by rw[IntKind.wrap_u64];omega
   have HU:=Lib.hid (show pin p (k+1)=u from by rw[HX.out];unfold nst;rw[hy,hz,hu]);have HK:=Lib.hid hlt;clear hx HX hy hz hu hyl hxl hlt hk
   go_wp2_with fail
   go_roundw
   case rel=>exact⟨k+1,by have:=HK.out;omega,by go_num,by rw[HU.out],trivial⟩
   case measure=>have:=HK.out;simp[intOf];omega
  ·obtain rfl:k=5:=by omega
   have hlt':¬((5:Nat):Int)<5:=by omega
   simp only[Int.cast_ofNat_Int]
   go_wp2_with fail
   go_ret;exact⟨rfl,rfl⟩
open Go.RowKit
theorem pw_zero:pw 0=#[.int .u64 0,.int .u64 0,.int .u64 0,.int .u64 0]:=by kernel_rfl
-- WHAT Neg COMES TO.
theorem fneg_any(F m a:Nat)(ha:a<115792089237316195423570985008687907853269984665640564039457584007913129639936)(w:World)(hF:FldAt w F m):Calls Tryz.prog 64 #[.pointer (some ⟨F,0,none⟩),.agg (pw a)] w fun e w'=>e=.returned (.agg (pw ((0%m+(m - a%m))%m)))/\Below w.heap.size w w':=by
 have H0:=Lib.hid (CW.one hF a);have HT:=Lib.hid (CW.calls (w:=w) (F:=F) (m:=m) (L:=[(w.heap.size+1,#[.int .u64 0,.int .u64 0,.int .u64 0,.int .u64 0]),(w.heap.size,pw a)]) (fun wx hf=>fsub_any F m 0 a (by omega) ha wx hf));rw[pw_zero]at HT;obtain⟨y,hy⟩:∃ y,(0%m+(m - a%m))%m=y:=⟨_,rfl⟩
 rw[hy]at HT |-
 clear hy hF ha;go_enter Tryz.func64,Tryz.ntmps64
 go_wp2_with (refine wpList_ld rfl 24 _ rfl (.pointer (some ⟨w.heap.size,0,none⟩)) (.agg (pw a)) rfl (ld_pw (by exact H0.out.is _ _ (by simp))) ?_)
 refine(HT.out _ H0.out).mono ?_;rintro e w5 ⟨rfl,c⟩;have HC:=Lib.hid c;clear c HT H0
 go_wp2_with (refine wpList_store_row rfl 24 _ _ rfl (w.heap.size+1) (pw y) rfl rfl 24 (#[.int .u64 0,.int .u64 0,.int .u64 0,.int .u64 0]) (by exact HC.out.is _ _ (by simp)) (by rw[pw_size];exact infoW4) (by first | rfl | (rw[pw_size];rfl) | (rw[pw_size,pw_size])) (pw_one _) ?_)
 (try simp only[Act.put])
 refine bodyPost_ret (v:=.agg (pw y)) (results_cell_row (p:=4) rfl _ _ (w.heap.size+1) 24 (pw y) (0,0) _ rfl (setRow_heap _ _ _ _ _ _ (by exact HC.out.is _ (#[.int .u64 0,.int .u64 0,.int .u64 0,.int .u64 0]) (by simp))) Tryz.underlying24 rfl (by rw[pw_size];exact infoW4)) rfl ⟨rfl,below_setRow HC.out.old (by omega) _⟩
open Go.RowKit
theorem arr_lit4(t:Array Value):t=((List.range t.size).map fun i=>t.getD i undef).toArray:=by
 apply Array.ext
 ·simp
 ·intro i h1 h2
  simp[Array.getD,h1]
structure CN (w:World) (m g a:Nat) (wx:World):Prop where
 old:Below w.heap.size w wx
 r0:wx.heap[w.heap.size]?=some (.cells (pw m) 24 (0,0))
 r1:wx.heap[g]?=some (.cells (pw a) 24 (0,0))
 hg:w.heap.size<g
theorem CN.high{w wx:World}{m g a:Nat}(c:CN w m g a wx):g+1<=wx.heap.size:=(Array.getElem?_eq_some_iff.1 c.r1).1
theorem CN.below{w wx w':World}{m g a:Nat}(c:CN w m g a wx)(hb:Below wx.heap.size wx w'):CN w m g a w' :=
 ⟨c.old.trans (hb.mono c.old.size),(hb.block _ (Array.getElem?_eq_some_iff.1 c.r0).1).trans c.r0,(hb.block _ (Array.getElem?_eq_some_iff.1 c.r1).1).trans c.r1,c.hg⟩
theorem CN.drew{w wx:World}{m g a:Nat}(c:CN w m g a wx):CN w m g a wx.drew:=c.below (Below.drew (Below.refl _ _))
theorem CN.rowed{w wx:World}{m g a D:Nat}{cs:Array Value}(c:CN w m g a wx)(hD:g+1<=D):CN w m g a (wx.setRow D cs):=by
 have:=c.hg;exact⟨below_setRow c.old (by omega) _,(setRow_other _ _ _ _ (by omega)).trans c.r0,(setRow_other _ _ _ _ (by omega)).trans c.r1,c.hg⟩
theorem CN.calls{w:World}{m g a:Nat}{f:FuncId}{args:Array Value}{v:Value}(h:∀ wx,Calls Tryz.prog f args wx fun e w'=>e=.returned v/\Below wx.heap.size wx w'):∀ wx,CN w m g a wx->Calls Tryz.prog f args wx fun e w'=>e=.returned v/\CN w m g a w' :=
 fun wx c=>(h wx).mono fun _ _ hh=>⟨hh.1,c.below hh.2⟩
theorem q_un4{P:Program}{ops:Array Oper}{C:World->Prop}{Q:Act->Prop}{a:Act}{o:Oper}{rest:List Oper}(op:UnOp)(T:TypeId)(x:Operand)(u r:Value)(ho:o.op=.unOp op T x)(hw:Region.wanted o (yielded ops a.tmps)=true)(hx:a.eval x=u)
  (hb:∀ w,(Op.unary op u).run P w=.ok r w) (h:wpQuiet P ops C Q rest (a.put o.dst r)):wpQuiet P ops C Q (o::rest) a :=
 q_val r hw (fun w hC=>by
  unfold execOp;rw[ho];simp only[hx,Sem.run_bind,hb w,Result.andThen_ok,Sem.run_pure]) h
def FW(y:Nat)(_:TypeId):Array Value:=pw y
theorem sq_ones(m:Nat):(2^256 - 1 - 0+1)%m*((2^256 - 1 - 0+1)%m)%m=sqr m:=by
 unfold sqr;rw[show(2^256) - 1 - 0+1=2^256 from rfl,<- Nat.mul_mod]
theorem neg_u(a b:Nat)(h:(18446744073709551616 - a)%18446744073709551616=b)(hl:a<18446744073709551616)(w:World):(Op.unary .neg (.int .u64 (a:Nat))).run Tryz.prog w=.ok (.int .u64 (b:Nat)) w:=by
 have e:IntKind.u64.wrap (-(a:Int))=(b:Int):=by rw[IntKind.wrap_u64];omega
 go_simp
theorem pN0(m:Nat):pN m 0=m%18446744073709551616:=by unfold pN;simp
theorem frw_lit{m:Nat}:ar .u64 9 (fun j=>((frw m j:Nat):Int))=#[.int .u64 ((pN m 0:Nat):Int),.int .u64 ((pN m 1:Nat):Int),.int .u64 ((pN m 2:Nat):Int),.int .u64 ((pN m 3:Nat):Int),.int .u64 ((nin m:Nat):Int),.int .u64 ((pN (sqr m) 0:Nat):Int),.int .u64 ((pN (sqr m) 1:Nat):Int),.int .u64 ((pN (sqr m) 2:Nat):Int),.int .u64 ((pN (sqr m) 3:Nat):Int)]:=by
 kernel_rfl
theorem pw4(x:Nat):pw x=#[.int .u64 ((pN x 0:Nat):Int),.int .u64 ((pN x 1:Nat):Int),.int .u64 ((pN x 2:Nat):Int),.int .u64 ((pN x 3:Nat):Int)]:=by
 rw[pw_ar];kernel_rfl
-- WHAT modulo COMES TO.
theorem modulo_any(m:Nat)(ho:m%2=1)(h1:1<m)(hm:m<2^256)(w:World):Calls Tryz.prog 89 #[.agg (pw m)] w fun e w'=>∃ F,e=.returned (.pointer (some ⟨F,0,none⟩))/\FldAt w' F m/\w.heap.size<=F/\Below w.heap.size w w':=by
 have HNT:=Lib.hid (fun wx=>not_pw 0 (by omega) wx);rw[pw_zero]at HNT;have HO:=Lib.hid (And.intro ho (And.intro h1 hm));obtain⟨ao,ha⟩:∃ ao,2^256 - 1 - 0=ao:=⟨_,rfl⟩
 have hal:ao<2^256:=by omega
 rw[ha]at HNT;obtain⟨so,hs⟩:∃ so,(ao+1)%m=so:=⟨_,rfl⟩
 have hsl:so<2^256:=by rw[<- hs];exact Nat.lt_trans (Nat.mod_lt _ (by omega)) hm
 have HAM:=Lib.hid (fun wx=>addmod_pw ao 1 m hal (by omega) (by omega) hm wx);rw[hs]at HAM;have HMM:=Lib.hid (fun wx=>mulmod_pw so so m hsl hsl (by omega) hm wx);rw[<- hs,<- ha,sq_ones,ha,hs]at HMM;rw[pw4 (sqr m)]at HMM;have HPI:=Lib.hid (fun wx=>pinv_any (pN m 0) (pN_lt m 0) wx);have HNI:=Lib.hid (show(18446744073709551616 - pin (pN m 0) 5)%18446744073709551616=nin m from by unfold nin;rw[pN0 m]);have HPL:=Lib.hid (pin_lt (pN m 0) 5 (pN_lt m 0));clear ho h1 hm hal hsl ha hs;go_enter Tryz.func89,Tryz.ntmps89
 go_wp2_with fail
 refine(HNT.out _).mono ?_;rintro e w1 ⟨rfl,hb1⟩;obtain⟨g,hg⟩:∃ g,w1.heap.size=g:=⟨_,rfl⟩
 have H1:=Lib.hid (show CN w m g ao ((w1.alloc (.cells #[.int .u64 0,.int .u64 0,.int .u64 0,.int .u64 0] 24)).setRow w1.heap.size (pw ao)) from by
  have h0:w.heap.size<w1.heap.size:=by have:=hb1.size;rw[World.size_alloc]at this;omega
  rw[<- hg];exact⟨below_setRow (((show Below w.heap.size w (w.alloc (.cells (pw m) 24)) from by go_grown).trans (hb1.mono (by simp))).alloc (by omega) _) (by omega) _,(setRow_other _ _ _ _ (by omega)).trans ((((Below.refl w1.heap.size w1).alloc (Nat.le_refl _) _).block _ h0).trans ((hb1.block _ (by simp)).trans (heap_alloc_new _ _))),setRow_heap _ _ _ _ _ _ (heap_alloc_new _ _),h0⟩)
 have HG:=Lib.hid (And.intro hg (heap_alloc_new w1 (.cells #[.int .u64 0,.int .u64 0,.int .u64 0,.int .u64 0] 24)));clear hb1 hg HNT
 go_wp2_with (refine wpList_store_row rfl 24 _ _ rfl w1.heap.size (pw ao) rfl rfl 24 (#[.int .u64 0,.int .u64 0,.int .u64 0,.int .u64 0]) (by exact HG.out.2) (by rw[pw_size];exact infoW4) (by rw[pw_size];rfl) (pw_one _) ?_)
 obtain⟨w2,hw2⟩:∃ w2,(w1.alloc (.cells #[.int .u64 0,.int .u64 0,.int .u64 0,.int .u64 0] 24)).setRow w1.heap.size (pw ao)=w2:=⟨_,rfl⟩
 rw[hw2]at H1 |-
 rw[HG.out.1];clear hw2 HG;refine region_tie (CN w m g ao) (fun i s wx=>match i with | 0=>s 7=(.agg (pw ao)) | 1=>s 8=(.agg (pw 1)) | 2=>s 9=(.agg (pw m)) | 3=>s 10=(.agg (pw so)) | 4=>∃ D,s 4=.pointer (some ⟨D,0,none⟩)/\(g+1)<=D/\∃ cs:Array Value,wx.heap[D]?=some (.cells cs 24 (0,0))/\cs.size=4 | 5=>∃ D,s 4=.pointer (some ⟨D,0,none⟩)/\(g+1)<=D/\wx.heap[D]?=some (.cells (FW so 24) 24 (0,0)) | _=>True) (RT (g+1) (FW so)) (fun i=>match i with | 0=>[7] | 1=>[8] | 2=>[9] | 3=>[10] | 4=>[4] | 5=>[4] | _=>[]) (fun i=>i) (by kernel_rfl) (by kernel_rfl) H1.out.drew ?_ ?_ ?_ ?_
 ·intro i s s' wx he hp
  match i,he,hp with
  | 0,he,hp=>exact(he 7 (by simp)).symm.trans hp
  | 1,he,hp=>exact(he 8 (by simp)).symm.trans hp
  | 2,he,hp=>exact(he 9 (by simp)).symm.trans hp
  | 3,he,hp=>exact(he 10 (by simp)).symm.trans hp
  | 4,he,hp=>obtain⟨D,h1,h2⟩:=hp;exact⟨D,(he 4 (by simp)).symm.trans h1,h2⟩
  | 5,he,hp=>obtain⟨D,h1,h2⟩:=hp;exact⟨D,(he 4 (by simp)).symm.trans h1,h2⟩
  | _+6,_,_=>trivial
 ·intro i s wa wb hR hp
  match i,hp with
  | 0,hp=>exact hp
  | 1,hp=>exact hp
  | 2,hp=>exact hp
  | 3,hp=>exact hp
  | 4,hp=>obtain⟨D,h1,h2,cs,h3,h4⟩:=hp;obtain⟨cs',h5,h6⟩:=hR.shape _ _ _ _ h3;exact⟨D,h1,h2,cs',h5,h6.trans h4⟩
  | 5,hp=>obtain⟨D,h1,h2,h3⟩:=hp;exact⟨D,h1,h2,hR.keep _ _ _ h3⟩
  | _+6,_=>trivial
 ·refine⟨?_,?_,?_,?_,?_,?_,trivial⟩
  ·intro a wx hC hsz hK
   have h0:a.tmps.getD 3 undef=(.pointer (some ⟨g,0,none⟩)):=hK.1 3 (by kernel_rfl);exact tt_load 24 (.tmp 3) ((.pointer (some ⟨g,0,none⟩))) ((.agg (pw ao))) rfl (by kernel_rfl) h0 (ld_pw hC.r1) hC (slots_put _ _ _ (by rw[hsz];exact of_decide_eq_true (by kernel_rfl))) (RT.refl _ _ _)
  ·intro a wx hC hsz hK
   refine tt_call 71 #[(.int .u64 (1:Nat))] (by kernel_rfl) (by kernel_rfl) ?_;exact(of_wv 1 (by omega) wx).mono fun e w' hh=>⟨_,hh.1,hC.below hh.2,(slots_put _ _ _ (by rw[hsz];exact of_decide_eq_true (by kernel_rfl))),RT.of hC.high hh.2⟩
  ·intro a wx hC hsz hK
   have h0:a.tmps.getD 1 undef=(.pointer (some ⟨w.heap.size,0,none⟩)):=hK.1 1 (by kernel_rfl);exact tt_load 24 (.tmp 1) ((.pointer (some ⟨w.heap.size,0,none⟩))) ((.agg (pw m))) rfl (by kernel_rfl) h0 (ld_pw hC.r0) hC (slots_put _ _ _ (by rw[hsz];exact of_decide_eq_true (by kernel_rfl))) (RT.refl _ _ _)
  ·intro a wx hC hsz hK
   have h0:a.tmps.getD 7 undef=(.agg (pw ao)):=hK.2 ⟨0,.data⟩ (by simp) rfl _ rfl;have h1:a.tmps.getD 8 undef=(.agg (pw 1)):=hK.2 ⟨1,.data⟩ (by simp) rfl _ rfl;have h2:a.tmps.getD 9 undef=(.agg (pw m)):=hK.2 ⟨2,.data⟩ (by simp) rfl _ rfl;refine tt_call 105 #[a.tmps.getD 7 undef,a.tmps.getD 8 undef,a.tmps.getD 9 undef] (by kernel_rfl) (by kernel_rfl) ?_;rw[h0,h1,h2];exact(HAM.out wx).mono fun e w' hh=>⟨_,hh.1,hC.below hh.2,(slots_put _ _ _ (by rw[hsz];exact of_decide_eq_true (by kernel_rfl))),RT.of hC.high hh.2⟩
  ·intro a wx hC hsz hK
   exact tt_new (.pointer (some ⟨wx.heap.size,0,none⟩)) (by kernel_rfl) (by kernel_rfl) (hC.below ((Below.refl _ _).alloc (Nat.le_refl _) _)) ⟨_,(slots_put _ _ _ (by rw[hsz];exact of_decide_eq_true (by kernel_rfl))),hC.high,#[.int .u64 0,.int .u64 0,.int .u64 0,.int .u64 0],heap_alloc_new _ _,rfl⟩ (RT.of hC.high ((Below.refl _ _).alloc (Nat.le_refl _) _))
  ·intro a wx hC hsz hK
   obtain⟨D,h1,h2,cs,h3,h4⟩:=hK.2 ⟨4,.data⟩ (by simp) rfl _ rfl;have h0:a.tmps.getD 10 undef=(.agg (pw so)):=hK.2 ⟨3,.data⟩ (by simp) rfl _ rfl;exact tt_store (by kernel_rfl) rfl (run_store 24 (.tmp 4) (.tmp 10) _ _ rfl h1 h0 (store_w h4 h3)) (hC.rowed h2) ⟨D,h1,h2,setRow_heap _ _ _ _ _ _ h3⟩ (RT.row h2 h3 (by rw[h4];rfl))
 intro f1 wx hC hf1;obtain⟨D,s4',hDl,hD⟩:=hf1 5 _ rfl;have H2:=Lib.hid (show CN w m D so wx from⟨hC.old,hC.r0,hD,by have:=hC.hg;omega⟩);clear hC hD hDl;generalize hAct:putAll _ _ _=G at *;have s1:G.tmps.getD 1 undef=.pointer (some ⟨w.heap.size,0,none⟩):=by subst hAct;kernel_rfl
 have s4c:G.tmps.getD 4 undef=.pointer (some ⟨D,0,none⟩):=s4';have hsz:G.tmps.size=22:=by rw[<- hAct,putAll_size];rfl
 have hdf:G.defers=[]:=by subst hAct;kernel_rfl
 clear hAct hf1 s4' H1 HAM;obtain⟨u0,t0⟩:∃ u,G.tmps.getD 0 undef=u:=⟨_,rfl⟩
 obtain⟨u2,t2⟩:∃ u,G.tmps.getD 2 undef=u:=⟨_,rfl⟩
 obtain⟨u3,t3⟩:∃ u,G.tmps.getD 3 undef=u:=⟨_,rfl⟩
 obtain⟨u5,t5⟩:∃ u,G.tmps.getD 5 undef=u:=⟨_,rfl⟩
 obtain⟨u6,t6⟩:∃ u,G.tmps.getD 6 undef=u:=⟨_,rfl⟩
 obtain⟨u7,t7⟩:∃ u,G.tmps.getD 7 undef=u:=⟨_,rfl⟩
 obtain⟨u8,t8⟩:∃ u,G.tmps.getD 8 undef=u:=⟨_,rfl⟩
 obtain⟨u9,t9⟩:∃ u,G.tmps.getD 9 undef=u:=⟨_,rfl⟩
 obtain⟨u10,t10⟩:∃ u,G.tmps.getD 10 undef=u:=⟨_,rfl⟩
 obtain⟨u11,t11⟩:∃ u,G.tmps.getD 11 undef=u:=⟨_,rfl⟩
 obtain⟨u12,t12⟩:∃ u,G.tmps.getD 12 undef=u:=⟨_,rfl⟩
 obtain⟨u13,t13⟩:∃ u,G.tmps.getD 13 undef=u:=⟨_,rfl⟩
 obtain⟨u14,t14⟩:∃ u,G.tmps.getD 14 undef=u:=⟨_,rfl⟩
 obtain⟨u15,t15⟩:∃ u,G.tmps.getD 15 undef=u:=⟨_,rfl⟩
 obtain⟨u16,t16⟩:∃ u,G.tmps.getD 16 undef=u:=⟨_,rfl⟩
 obtain⟨u17,t17⟩:∃ u,G.tmps.getD 17 undef=u:=⟨_,rfl⟩
 obtain⟨u18,t18⟩:∃ u,G.tmps.getD 18 undef=u:=⟨_,rfl⟩
 obtain⟨u19,t19⟩:∃ u,G.tmps.getD 19 undef=u:=⟨_,rfl⟩
 obtain⟨u20,t20⟩:∃ u,G.tmps.getD 20 undef=u:=⟨_,rfl⟩
 obtain⟨u21,t21⟩:∃ u,G.tmps.getD 21 undef=u:=⟨_,rfl⟩
 obtain⟨tm,df⟩:=G;simp only at *;have hLt:=arr_lit4 tm;rw[hsz]at hLt;simp only[List.range,List.range.loop,List.map]at hLt;rw[t0,s1,t2,t3,s4c,t5,t6,t7,t8,t9,t10,t11,t12,t13,t14,t15,t16,t17,t18,t19,t20,t21]at hLt;subst hLt hdf;clear t0 s1 t2 t3 s4c t5 t6 t7 t8 t9 t10 t11 t12 t13 t14 t15 t16 t17 t18 t19 t20 t21 hsz
 go_wp2_with fail
 refine region_quiet_tail 10 (CN w m D so) (by kernel_rfl) (by kernel_rfl) (H2.out.drew) ?_;simp only[List.take_succ_cons,List.take_zero,List.drop_succ_cons,List.drop_zero]
 with_reducible refine q_load 24 (.tmp 1) (.pointer (some ⟨w.heap.size,0,none⟩)) (.agg #[.int .u64 ((pN m 0:Nat):Int),.int .u64 ((pN m 1:Nat):Int),.int .u64 ((pN m 2:Nat):Int),.int .u64 ((pN m 3:Nat):Int)]) rfl (by kernel_rfl) (by kernel_rfl) (fun _ c=>(by rw[<- pw4];exact ld_pw c.r0)) ?_
 with_reducible refine q_sem2 (Instr.indexAt 24 (.pointer (some ⟨w.heap.size,0,none⟩)) (.int .i64 (0:Nat))) (.pointer (some ⟨w.heap.size,0,none⟩)) (by kernel_rfl) (by kernel_rfl) (fun w' _=>by kernel_rfl) ?_
 with_reducible refine q_load 22 (.tmp 12) (.pointer (some ⟨w.heap.size,0,none⟩)) (.int .u64 (pN m 0:Nat)) rfl (by kernel_rfl) (by kernel_rfl) (fun _ c=>load_u64 _ _ _ _ ((cell_of_row _ _ 0 _ _ _ c.r0).trans (by rw[pw4];simp))) ?_
 with_reducible refine q_call 106 #[.int .u64 (pN m 0:Nat)] (.int .u64 (pin (pN m 0) 5:Nat)) (by kernel_rfl) (fun _=>by kernel_rfl) (fun wx c=>(HPI.out wx).mono fun e w' hh=>⟨hh.1,hh.2 ▸ c⟩) ?_
 with_reducible refine q_un4 .neg 22 (.tmp 14) (.int .u64 (pin (pN m 0) 5:Nat)) (.int .u64 (nin m:Nat)) rfl (by kernel_rfl) (by kernel_rfl) (fun w'=>neg_u _ _ HNI.out HPL.out w') ?_
 with_reducible refine q_load 24 (.tmp 4) (.pointer (some ⟨D,0,none⟩)) (.agg (pw so)) rfl (by kernel_rfl) (by kernel_rfl) (fun _ c=>ld_pw c.r1) ?_
 with_reducible refine q_load 24 (.tmp 4) (.pointer (some ⟨D,0,none⟩)) (.agg (pw so)) rfl (by kernel_rfl) (by kernel_rfl) (fun _ c=>ld_pw c.r1) ?_
 with_reducible refine q_load 24 (.tmp 1) (.pointer (some ⟨w.heap.size,0,none⟩)) (.agg (pw m)) rfl (by kernel_rfl) (by kernel_rfl) (fun _ c=>ld_pw c.r0) ?_
 with_reducible refine q_call 107 #[.agg (pw so),.agg (pw so),.agg (pw m)] (.agg #[.int .u64 ((pN (sqr m) 0:Nat):Int),.int .u64 ((pN (sqr m) 1:Nat):Int),.int .u64 ((pN (sqr m) 2:Nat):Int),.int .u64 ((pN (sqr m) 3:Nat):Int)]) (by kernel_rfl) (fun _=>by kernel_rfl) (CN.calls HMM.out) ?_
 with_reducible refine q_val (.agg #[.int .u64 ((pN m 0:Nat):Int),.int .u64 ((pN m 1:Nat):Int),.int .u64 ((pN m 2:Nat):Int),.int .u64 ((pN m 3:Nat):Int),.int .u64 ((nin m:Nat):Int),.int .u64 ((pN (sqr m) 0:Nat):Int),.int .u64 ((pN (sqr m) 1:Nat):Int),.int .u64 ((pN (sqr m) 2:Nat):Int),.int .u64 ((pN (sqr m) 3:Nat):Int)]) (by kernel_rfl) (fun _ _=>by kernel_rfl) ?_
 with_reducible refine wpQuiet_nil ?_
 intro wx hC;have HC:=Lib.hid hC;clear hC H2;simp only[Act.put,List.setIfInBounds_toArray,List.set_cons_succ,List.set_cons_zero]
 go_wp2_with fail
 go_ret;exact⟨wx.heap.size,rfl,⟨by rw[frw_lit];exact heap_alloc_new _ _,HO.out.1,HO.out.2.1,HO.out.2.2⟩,HC.out.old.size,HC.out.old.alloc HC.out.old.size _⟩
end Go.Proofs.YthnckclbeecnmaaGreat
