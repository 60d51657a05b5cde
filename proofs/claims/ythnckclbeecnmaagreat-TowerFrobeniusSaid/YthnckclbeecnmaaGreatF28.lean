/- The tower made anew; what is exported: sums, products, one. (Cut to what is reached, written closely: SyHk · TwHk · TwU · TwH · TwV · FCrv · TwA.) -/
import Derived.Test.YthnckclbeecnmaaGreatF21
import Derived.Test.YthnckclbeecnmaaGreatF1
import Derived.Test.YthnckclbeecnmaaGreatF26
import Derived.Test.YthnckclbeecnmaaGreatF22
import Derived.Test.YthnckclbeecnmaaGreatF25
set_option linter.all false
set_option maxRecDepth 100000
set_option maxHeartbeats 8000000
namespace Go.Proofs.YthnckclbeecnmaaGreat.Sy
open Go.RowKit
abbrev Hooks:=Nat->Option (St->Option (List Ob × St))
def regsOf:Code->List (Nat × Code)
 | .region id ops draw=>[(id,.region id ops draw)]
 | .seq x y=>regsOf x++regsOf y
 | .cond _ x y=>regsOf x++regsOf y
 | .block _ c=>regsOf c
 | .loop c=>regsOf c
 | _=>[]
def HookOk(E:Env)(γ0:Pl)(N:Nat)(w0:World)(c:Code)(f:St->Option (List Ob × St)):Prop:=∀ s p s',f s=some (p,s')->All p->∀ γ a w (X:Exit->Act->World->Prop),Rel E γ0 γ N w0 s a w->(∀ γ' a' w',Rel E γ0 γ' N w0 s' a' w'->X .normal a' w')->c.wp E.P X a w
def execH(E:Env)(N:Nat)(hd:Nat->Nat)(H:Hooks):Code->Nat->Nat->St->(Exit->St->Tr)->Tr
 | .skip,_,_,s,k=>k .normal s
 | .region id ops draw,_,_,s,k=>match H id with
  | some f=>match f s with
   | some (p,s')=>needs p (k .normal s')
   | none=>.bad
  | none=>match draw with
   | true=>drawX E N ops.toList s (k .normal)
   | false=>seqX E N (fun j=>(ops[j]?).bind (·.dst)) ops.toList s (k .normal)
 | .seq x y,b,d,s,k=>execH E N hd H x b d s fun e s'=>match e with
  | .normal=>execH E N hd H y b d s' k
  | e=>k e s'
 | .cond c x y,b,d,s,k=>match opnd (look s.S) c with
  | some (.b t)=>.br t (execH E N hd H x b d s k) (execH E N hd H y b d s k)
  | some (.v (.bool t))=>match t with
   | true=>execH E N hd H x b d s k
   | false=>execH E N hd H y b d s k
  | _=>.bad
 | .block id c,_,d,s,k=>execH E N hd H c id d s fun e s'=>match e with
  | .exit j=>if j=id then k .normal s' else k (.exit j) s'
  | e=>k e s'
 | .loop c,b,d,s,k=>match hd b with
  | 0=>.loop d (normT s) fun s0=>execH E N hd H c b (d+1) s0 fun e s'=>match e with
   | .normal=>.cut d (normT s')
   | e=>k e s'
  | n+1=>rep (fun s k=>execH E N hd H c b d s k) (n+1) s k
 | .exit id,_,_,s,k=>k (.exit id) s
 | .ret,_,_,s,k=>k .ret s
 | _,_,_,_,_=>.bad
section
variable {E:Env} {γ0 γ:Pl} {N n:Nat} {w0 w wx:World} {s:St} {a a0:Act} {o:Oper} {Q:Post} {X:Exit->Act->World->Prop} {hd:Nat->Nat}
theorem exec_okH{H:Hooks}(G:E.Good γ0 w0)(mx:E.P.follows .mixedOrders=true):∀ {c:Code} {b d:Nat} {s:St} {k:Exit->St->Tr} {X:Exit->Act->World->Prop} {Q:Post} {a:Act} {w:World} {γ:Pl},(∀ r∈regsOf c,∀ f,H r.1=some f->HookOk E γ0 N w0 r.2 f)->(execH E N hd H c b d s k).wp E.base Q->Rel E γ0 γ N w0 s a w ->
  (∀ Q' e γ s' a' w',Alike d Q Q'->Rel E γ0 γ N w0 s' a' w'->(k e s').wp E.base Q'->X e a' w')->c.wp E.P X a w:=by
 intro c
 induction c with
 | skip=>intro b d s k X Q a w γ _ h R cont;exact wp_skip (cont _ _ _ _ _ _ Alike.rfl' R h)
 | region id ops draw =>
  intro b d s k X Q a w γ hH h R cont;have hH:=hH _ (.head _);unfold execH at h
  split at h
  ·rename_i f hf
   split at h
   ·rename_i p s' hs
    obtain⟨hp,hk⟩:=needs_wp h;exact hH f hf s p s' hs hp γ a w X R fun γ' a' w' R'=>cont Q .normal γ' s' a' w' Alike.rfl' R' hk
   ·cases h
  ·cases draw with
   | true=>exact drawX_ok (l:=ops.toList) (id:=id) G mx h R fun γ s' a' w' R' hk=>cont Q .normal γ s' a' w' Alike.rfl' R' hk
   | false=>exact wp_region_list (seqX_ok G h R fun γ s' a' w' R' hk=>cont Q .normal γ s' a' w' Alike.rfl' R' hk)
 | seq x y ihx ihy =>
  intro b d s k X Q a w γ hH h R cont;refine wp_seq (ihx (fun r hr=>hH r (List.mem_append_left _ hr)) h R fun Q' e γ s' a' w' hQ R' hk=>?_);cases e with
  | normal=>exact ihy (fun r hr=>hH r (List.mem_append_right _ hr)) hk R' fun Q'' e γ s' a' w' hQ' R'' hk'=>cont _ _ _ _ _ _ (hQ.trans hQ') R'' hk'
  | exit i=>exact cont _ _ _ _ _ _ hQ R' hk
  | goto i=>exact cont _ _ _ _ _ _ hQ R' hk
  | ret=>exact cont _ _ _ _ _ _ hQ R' hk
  | panic i=>exact cont _ _ _ _ _ _ hQ R' hk
  | outgrown=>exact cont _ _ _ _ _ _ hQ R' hk
 | cond c x y ihx ihy =>
  intro b d s k X Q a w γ hH h R cont;unfold execH at h
  split at h
  ·rename_i t ht
   exact wp_cond_split (opnd_ok R.k ht).1 (fun e=>ihx (fun r hr=>hH r (List.mem_append_left _ hr)) (h.1 e) R cont) (fun e=>ihy (fun r hr=>hH r (List.mem_append_right _ hr)) (h.2 e) R cont)
  ·rename_i t ht
   have hv:=(opnd_ok R.k ht).1;cases t with
   | true=>exact wp_cond_true hv (ihx (fun r hr=>hH r (List.mem_append_left _ hr)) h R cont)
   | false=>exact wp_cond_false hv (ihy (fun r hr=>hH r (List.mem_append_right _ hr)) h R cont)
  ·cases h
 | block id c ih =>
  intro b d s k X Q a w γ hH h R cont;refine wp_block (ih hH h R fun Q' e γ s' a' w' hQ R' hk=>?_);cases e with
  | normal=>exact cont _ _ _ _ _ _ hQ R' hk
  | exit j =>
   show(if j=id then _ else _);dsimp only at hk
   split at hk
   ·rename_i e;rw[if_pos e];exact cont _ _ _ _ _ _ hQ R' hk
   ·rename_i e;rw[if_neg e];exact cont _ _ _ _ _ _ hQ R' hk
  | goto i=>exact cont _ _ _ _ _ _ hQ R' hk
  | ret=>exact cont _ _ _ _ _ _ hQ R' hk
  | panic i=>exact cont _ _ _ _ _ _ hQ R' hk
  | outgrown=>exact cont _ _ _ _ _ _ hQ R' hk
 | loop c ih =>
  intro b d s k X Q a w γ hH h R cont;unfold execH at h
  split at h
  ·obtain⟨ι,st,μ,⟨i0,h0⟩,hr⟩:=h
   refine wp_loop_ghost (fun n a w=>∃ i γ,μ i=n/\Rel E γ0 γ N w0 (st i) a w) (μ i0) ⟨i0,γ,rfl,R.norm.sub h0⟩ ?_;rintro n a w ⟨i,γ,rfl,R1⟩;refine ih hH (hr i) R1 fun Q' e γ s' a' w' hQ R' hk=>?_;have up:Alike d Q Q':=⟨hQ.1,fun d' s hd'=>(hQ.2 d' s (Nat.lt_succ_of_lt hd')).trans (by
    show(if d'=d then _ else _)↔_;rw[if_neg (Nat.ne_of_lt hd')])⟩
   cases e with
   | normal =>
    have hc:Q'.cut d (normT s'):=hk;have hc:=(hQ.2 d (normT s') (Nat.lt_succ_self d)).1 hc;dsimp only at hc;rw[if_pos rfl]at hc;obtain⟨j,hj,hs⟩:=hc;exact⟨μ j,hj,j,γ,rfl,R'.norm.sub hs⟩
   | exit i=>exact cont _ _ _ _ _ _ up R' hk
   | goto i=>exact cont _ _ _ _ _ _ up R' hk
   | ret=>exact cont _ _ _ _ _ _ up R' hk
   | panic i=>exact cont _ _ _ _ _ _ up R' hk
   | outgrown=>exact cont _ _ _ _ _ _ up R' hk
  ·rename_i n0 _
   refine wp_loop_ghost (fun n a w=>∃ γ s Q',Alike d Q Q'/\Rel E γ0 γ N w0 s a w/\(rep (fun s k=>execH E N hd H c b d s k) n s k).wp E.base Q') (n0+1) ⟨γ,s,Q,Alike.rfl',R,h⟩ ?_;rintro n a w ⟨γ,s,Q',hQ0,R1,h1⟩;cases n with
   | zero=>cases h1
   | succ n =>
    refine ih hH h1 R1 fun Q'' e γ s' a' w' hQ R' hk=>?_;have hQ1:=hQ0.trans hQ;cases e with
    | normal=>exact⟨n,Nat.lt_succ_self n,γ,s',Q'',hQ1,R',hk⟩
    | exit i=>exact cont _ _ _ _ _ _ hQ1 R' hk
    | goto i=>exact cont _ _ _ _ _ _ hQ1 R' hk
    | ret=>exact cont _ _ _ _ _ _ hQ1 R' hk
    | panic i=>exact cont _ _ _ _ _ _ hQ1 R' hk
    | outgrown=>exact cont _ _ _ _ _ _ hQ1 R' hk
 | exit id=>intro b d s k X Q a w γ _ h R cont;exact wp_exit (cont _ _ _ _ _ _ Alike.rfl' R h)
 | ret=>intro b d s k X Q a w γ _ h R cont;exact wp_ret (cont _ _ _ _ _ _ Alike.rfl' R h)
 | _=>intro b d s k X Q a w γ _ h R cont;cases h
theorem calls_ofH{H:Hooks}(G:E.Good γ0 w0)(mx:E.P.follows .mixedOrders=true)(hd:Nat->Nat){f:FuncId}{fn:Func}{c:Code}(hf:E.P.funcs[f]?=some fn)(hb:fn.body=some c)(args:List SV)(ha:∀ x∈args,x.ok/\x.lt E.base=true)(hn:args.length<=fn.ntmps){T:Tr}
  (hH:∀ r∈regsOf c,∀ f,H r.1=some f->HookOk E γ0 fn.ntmps w0 r.2 f) (hT:execH E fn.ntmps hd H c 0 0 ⟨argsX args 0,[],E.base⟩ (finX E fn.results)=T) (hQ:T.wp E.base Q):Calls E.P f (args.map (·.val γ0)).toArray w0 fun e w'=>∃ r,Q.leaf r/\e=.returned (r.val γ0)/\Below w0.heap.size w0 w':=by
 refine enter hf hb fun a hz hdf he=>?_;have R0:Rel E γ0 γ0 fn.ntmps w0 ⟨argsX args 0,[],E.base⟩ a w0:=by
  refine⟨fun _ _=>rfl,Nat.le_refl _,by simp at hz;omega,hdf,fun t x hx=>?_,HC.start w0,fun r hr=>by cases hr⟩;obtain⟨j,rfl,hj⟩:=args_look hx;refine⟨?_,ha x (List.mem_of_getElem? hj)⟩;rw[he,Nat.zero_add];simp[hj]
 exact exec_okH (N:=fn.ntmps) G mx hH (hT ▸ hQ) R0 fun Q' e γ s' a' w' hq R' hk=>(by
  have:=finX_ok G R' (fn:=fn) (e:=e) hk;rw[hq.1]at this;exact this)
end
def walkH(E:Env)(hd:Nat->Nat)(H:Hooks)(fn:Func)(args:List SV):Tr:=execH E fn.ntmps hd H (fn.body.getD .skip) 0 0 ⟨argsX args 0,[],E.base⟩ (finX E fn.results)
theorem hooked{c:Code}{H:Hooks}{l:List (Nat × Code)}{p:Nat × Code->Prop}(h:(regsOf c).filter (fun r=>(H r.1).isSome)=l)(hl:∀ r∈l,p r):∀ r∈regsOf c,(H r.1).isSome=true->p r:=fun r hr hs=>hl r (by
 rw[<- h];exact List.mem_filter.2 ⟨hr,hs⟩)
theorem callsH_at{E:Env}{γ0:Pl}{w0:World}{V:Value}(G:E.Good γ0 w0)(mx:E.P.follows .mixedOrders=true)(hd:Nat->Nat)(H:Hooks){f:FuncId}{fn:Func}(hf:E.P.funcs[f]?=some fn)(hb:fn.body.isSome=true)(args:List SV)(ha:okAll E.base args)(hn:decide (args.length<=fn.ntmps)=true)
  (hH:∀ r∈regsOf (fn.body.getD .skip),∀ f,H r.1=some f->HookOk E γ0 fn.ntmps w0 r.2 f)
  (hD:walkH E hd H fn args=(walkH E hd H fn args).diag) (Z:Sh) (hZ:(walkH E hd H fn args).shape=Z) (hW:Z.wp ⟨fun r=>r.val γ0=V,fun _ _=>False⟩ fun l=>((walkH E hd H fn args).on l).wp E.base ⟨fun r=>r.val γ0=V,fun _ _=>False⟩):Calls E.P f (args.map (·.val γ0)).toArray w0 fun e w'=>e=.returned V/\Below w0.heap.size w0 w':=by
 obtain⟨c,hc⟩:=Option.isSome_iff_exists.1 hb;have e:fn.body.getD .skip=c:=by rw[hc];rfl
 have key:=calls_ofH G mx hd hf hc args (okAll_mem ha) (of_decide_eq_true hn) (by rw[<- e];exact hH) rfl (Q:=⟨fun r=>r.val γ0=V,fun _ _=>False⟩) (by rw[<- e];exact wp_of_shape hD (hZ ▸ hW) fun _ h=>h);exact key.mono fun _ _ ⟨_,h1,h2,h3⟩=>⟨by rw[h2,h1],h3⟩
end Go.Proofs.YthnckclbeecnmaaGreat.Sy
namespace Go.Proofs.YthnckclbeecnmaaGreat
open Go.RowKit
def regC(n:Nat):Code->Option Code
 | .region i ops d=>if i=n then some (.region i ops d)else none
 | .block _ c=>regC n c
 | .seq a b=>match regC n a with
  | some c=>some c
  | none=>regC n b
 | .loop c=>regC n c
 | .scope c=>regC n c
 | .cond _ a b=>match regC n a with
  | some c=>some c
  | none=>regC n b
 | _=>none
theorem putAll_other{f:Oper->Value}{t:Nat}:∀ {l:List Oper} {a:Act},(∀ o∈l,o.dst≠some t)->(putAll f l a).tmps.getD t undef=a.tmps.getD t undef
 | [],_,_=>rfl
 | o::l,a,h=>by
  rw[putAll,putAll_other fun q hq=>h q (.tail _ hq),put_other _ _ _ _ (h o (.head _))]
theorem not_dst{l:List Oper}{ks:List Nat}(h:((l.filterMap (·.dst)).all fun d=>ks.contains d)=true){t:Nat}(ht:t ∉ ks):∀ o∈l,o.dst≠some t:=fun o ho e=>by
 have:=List.all_eq_true.1 h t (List.mem_filterMap.2 ⟨o,ho,e⟩);exact ht (by simpa using this)
namespace Sy
section
variable {E:Env} {γ0 γ:Pl} {N:Nat} {w0 w w':World} {s:St} {a a':Act} {L:List (Nat × Option SV)}
theorem look_app:∀ {L S:List (Nat × Option SV)} {t:Nat} {y:SV},look (L++S) t=some y->(t,some y)∈L\/(t ∉ L.map (·.1)/\look S t=some y)
 | [],S,t,y,h=>.inr ⟨by simp,h⟩
 | (u,o)::L,S,t,y,h=>by
  have h':(if u=t then o else look (L++S) t)=some y:=h
  split at h'
  ·rename_i e
   subst e;subst h';exact .inl (.head _)
  ·rename_i e
   rcases look_app h' with h1 | ⟨h1,h2⟩
   ·exact .inl (.tail _ h1)
   ·refine .inr ⟨fun hm=>?_,h2⟩
    rcases List.mem_cons.1 hm with q | q
    ·exact e q.symm
    ·exact h1 q
theorem Rel.hook0(R:Rel E γ0 γ N w0 s a w)(hz:a'.tmps.size=a.tmps.size)(hd:a'.defers=a.defers)(hb:Below w.heap.size w w')
  (hL:∀ t y,(t,some y)∈L->y.lt 0=true/\y.ok/\a'.tmps.getD t undef=y.val fun _=>0) (hk:∀ t,t ∉ L.map (·.1)->a'.tmps.getD t undef=a.tmps.getD t undef):Rel E γ0 γ N w0 ⟨L++s.S,s.M,s.n⟩ a' w':=by
 refine⟨R.ag,R.base,by rw[hz];exact R.z,by rw[hd];exact R.d,fun t y hy=>?_,R.h.below hb,R.m⟩;rcases look_app hy with h | ⟨h1,h2⟩
 ·obtain⟨l0,o1,e⟩:=hL t y h
  refine⟨?_,o1,SV.lt_mono (Nat.zero_le _) l0⟩;rw[e];exact(SV.lt_same (γ:=fun _=>0) (δ:=γ) (n:=0) (fun _ hk=>absurd hk (Nat.not_lt_zero _)) l0).2.2
 ·have:=R.k t y h2
  exact⟨by rw[hk t h1];exact this.1,this.2⟩
theorem Rel.hook1{x:SV}{T:TypeId}{D:Nat}(R:Rel E γ0 γ N w0 s a w)(hz:a'.tmps.size=a.tmps.size)(hd:a'.defers=a.defers)(hb:Below w.heap.size w w')(hD:w.heap.size<=D)(hr:w'.heap[D]?=some (.cells (x.cells fun _=>0).toArray T (0,0)))(ox:x.ok)(lx:x.lt 0=true)
  (hL:∀ t y,(t,some y)∈L->(y=.p s.n 0 0 0/\a'.tmps.getD t undef=.pointer (some ⟨D,0,none⟩))\/(y.lt 0=true/\y.ok/\a'.tmps.getD t undef=y.val fun _=>0)) (hk:∀ t,t ∉ L.map (·.1)->a'.tmps.getD t undef=a.tmps.getD t undef) :
  ∃ δ,Rel E γ0 δ N w0 ⟨L++s.S,(s.n,x,T)::s.M,s.n+1⟩ a' w':=by
 obtain⟨δ,hδ⟩:∃ δ:Pl,∀ k,δ k=if k=s.n then D else γ k:=⟨_,fun _=>rfl⟩
 have e:∀ k,k<s.n->γ k=δ k:=fun k hk=>by rw[hδ,if_neg (by omega)]
 have z:∀ {y:SV},y.lt 0=true->y.cells (fun _=>0)=y.cells δ/\y.val (fun _=>0)=y.val δ:=fun hl=>(SV.lt_same (γ:=fun _=>0) (δ:=δ) (n:=0) (fun _ hk=>absurd hk (Nat.not_lt_zero _)) hl).2;refine⟨δ,fun k hk=>?_,Nat.le_succ_of_le R.base,by rw[hz];exact R.z,by rw[hd];exact R.d,fun t y hy=>?_,?_,fun r hr=>?_⟩
 ·rw[<- e k (Nat.lt_of_lt_of_le hk R.base)];exact R.ag k hk
 ·rcases look_app hy with h | ⟨h1,h2⟩
  ·rcases hL t y h with⟨rfl,e1⟩ | ⟨l0,o1,e1⟩
   ·refine⟨?_,trivial,decide_eq_true (Nat.lt_succ_self _)⟩
    rw[e1];show _=Value.pointer (some ⟨δ s.n,0+0*0,none⟩);rw[hδ,if_pos rfl]
   ·exact⟨by rw[e1];exact(z l0).2,o1,SV.lt_mono (Nat.zero_le _) l0⟩
  ·have:=R.k t y h2
   refine⟨?_,this.2.1,SV.lt_mono (Nat.le_succ _) this.2.2⟩;rw[hk t h1,this.1];exact(SV.lt_same e this.2.2).2.2
 ·have hh:=R.h.below hb
  have e1:(s.M.map fun r=>(δ r.1,(r.2.1.cells δ).toArray,r.2.2))=s.M.map fun r=>(γ r.1,(r.2.1.cells γ).toArray,r.2.2) :=
   List.map_congr_left fun r hr=>by
    have:=R.m r hr;rw[<- e r.1 this.2.2,(SV.lt_same e this.2.1).2.1]
  show HC w0 ((δ s.n,(x.cells δ).toArray,T)::s.M.map fun r=>(δ r.1,(r.2.1.cells δ).toArray,r.2.2)) _;rw[e1,<- (z lx).1,hδ,if_pos rfl];refine⟨hh.old,fun p hp=>?_,List.pairwise_cons.2 ⟨fun q hq=>?_,hh.nd⟩⟩
  ·rcases List.mem_cons.1 hp with rfl | hp
   ·exact⟨Nat.le_trans R.h.old.size hD,hr⟩
   ·exact hh.rows p hp
  ·have g2:=(Array.getElem?_eq_some_iff.1 (R.h.rows q hq).2).1
   show D≠q.1;omega
 ·rcases List.mem_cons.1 hr with rfl | hr
  ·exact⟨ox,SV.lt_mono (Nat.zero_le _) lx,Nat.lt_succ_self _⟩
  ·have:=R.m r hr
   exact⟨this.1,SV.lt_mono (Nat.le_succ _) this.2.1,Nat.lt_succ_of_lt this.2.2⟩
end
end Sy
open Go.RowKit
namespace Sy
theorem F2v_ok{m:Nat}(hm:m<2^256)(z:Zp m × Zp m):(F2s (v2 z)).ok:=⟨Nat.lt_trans z.1.2 hm,Nat.lt_trans z.2.2 hm,trivial⟩
theorem H3v_ok{m:Nat}(hm:m<2^256)(z:(Zp m × Zp m) × (Zp m × Zp m) × (Zp m × Zp m)):(H3s (v6 z)).ok:=⟨F2v_ok hm _,F2v_ok hm _,F2v_ok hm _,trivial⟩
theorem L12v_ok{m:Nat}(hm:m<2^256)(z:((Zp m × Zp m) × (Zp m × Zp m) × (Zp m × Zp m)) × ((Zp m × Zp m) × (Zp m × Zp m) × (Zp m × Zp m))):(L12s (v12 z)).ok:=⟨F2v_ok hm _,F2v_ok hm _,F2v_ok hm _,F2v_ok hm _,F2v_ok hm _,F2v_ok hm _,trivial⟩
theorem add2_is{m:Nat}(hp:Pr m):Is2 m 40 sh2 sh2 fun a b=>F2s (a2 hp a b):=fun _ _ _ hf=>cT2_ok hf (fun _ _=>by kernel_rfl) (fun _ _ _ _=>⟨F2v_ok hf.lt _,rfl⟩) fun F a b oa ob w hF=>by
 refine calls_at (E1_ok (flds_ok (FOk.of hF))) (by kernel_rfl) (fun _=>0) Tryz.func40 (by kernel_rfl) [sG,F2s a,F2s b] ⟨⟨⟨trivial,trivial⟩,rfl⟩,⟨oa,rfl⟩,⟨ob,rfl⟩,trivial⟩ (by kernel_rfl) (by kernel_rfl) (.leaf (F2s ((a.1+b.1)%m,(a.2+b.2)%m))) (by kernel_rfl) ?_;rw[a2_eq hp a b];rfl
theorem sub2_is{m:Nat}(hp:Pr m):Is2 m 42 sh2 sh2 fun a b=>F2s (s2 hp a b):=fun _ _ _ hf=>cT2_ok hf (fun _ _=>by kernel_rfl) (fun _ _ _ _=>⟨F2v_ok hf.lt _,rfl⟩) fun F a b oa ob w hF=>by
 refine calls_at (E1_ok (flds_ok (FOk.of hF))) (by kernel_rfl) (fun _=>0) Tryz.func42 (by kernel_rfl) [sG,F2s a,F2s b] ⟨⟨⟨trivial,trivial⟩,rfl⟩,⟨oa,rfl⟩,⟨ob,rfl⟩,trivial⟩ (by kernel_rfl) (by kernel_rfl) (.leaf (F2s ((a.1%m+(m - b.1%m))%m,(a.2%m+(m - b.2%m))%m))) (by kernel_rfl) ?_;rw[s2_eq hp a b];rfl
theorem mul2_is{m:Nat}(hp:Pr m):Is2 m 44 sh2 sh2 fun a b=>F2s (m2 hp a b):=fun _ _ _ hf=>cT2_ok hf (fun _ _=>by kernel_rfl) (fun _ _ _ _=>⟨F2v_ok hf.lt _,rfl⟩) fun F a b oa ob w hF=>by
 refine calls_at (E1_ok (flds_ok (FOk.of hF))) (by kernel_rfl) (fun _=>0) Tryz.func44 (by kernel_rfl) [sG,F2s a,F2s b] ⟨⟨⟨trivial,trivial⟩,rfl⟩,⟨oa,rfl⟩,⟨ob,rfl⟩,trivial⟩ (by kernel_rfl) (by kernel_rfl) (.leaf (F2s ((a.1*b.1%m%m+(m - a.2*b.2%m%m))%m,(a.1*b.2%m+a.2*b.1%m)%m))) (by kernel_rfl) ?_;rw[m2_eq hp a b];rfl
theorem lifted_is{m:Nat}(hp:Pr m):Is1 m 101 sh2 fun a=>F2s (l2 hp a):=fun _ _ _ hf=>cT1_ok hf (fun _ _=>by kernel_rfl) (fun _ _=>⟨F2v_ok hf.lt _,rfl⟩) fun F a oa w hF=>by
 refine calls_at (E1_ok (more:=cOf::flds true m) ⟨cOf_ok,flds_ok (FOk.of hF)⟩) (by kernel_rfl) (fun _=>0) Tryz.func101 (by kernel_rfl) [sG,F2s a] ⟨⟨⟨trivial,trivial⟩,rfl⟩,⟨oa,rfl⟩,trivial⟩ (by kernel_rfl) (by kernel_rfl) (.leaf (F2s ((a.1*9%m%m+(m - a.2%m))%m,(a.2*9%m+a.1)%m))) (by kernel_rfl) ?_;rw[l2_eq hp a];rfl
end Sy
open Go.RowKit
namespace Sy
theorem halves_is:Is0 72 sh12 fun a=>.tu (H3s a.1) (H3s a.2):=fun _ _ _=>cV1_ok (fun _ _=>by kernel_rfl) (fun a oa=>⟨⟨⟨oa.1,oa.2.2.1,oa.2.2.2.2.1,trivial⟩,oa.2.1,oa.2.2.2.1,oa.2.2.2.2.2.1,trivial⟩,rfl⟩) fun a oa w =>
 calls_at (E1_ok (more:=[]) (γ0:=o0) trivial) (by kernel_rfl) (fun _=>0) Tryz.func72 (by kernel_rfl) [L12s a] ⟨⟨oa,rfl⟩,trivial⟩ (by kernel_rfl) (by kernel_rfl) (.leaf (.tu (H3s a.1) (H3s a.2))) (by kernel_rfl) rfl
theorem whole_is:Is00 73 sh6 sh6 fun a b=>L12s (a,b):=fun _ _ _=>cV2_ok (fun _ _=>by kernel_rfl) (fun a b oa ob=>⟨⟨oa.1,ob.1,oa.2.1,ob.2.1,oa.2.2.1,ob.2.2.1,trivial⟩,rfl⟩) fun a b oa ob w =>
 calls_at (E1_ok (more:=[]) (γ0:=o0) trivial) (by kernel_rfl) (fun _=>0) Tryz.func73 (by kernel_rfl) [H3s a,H3s b] ⟨⟨oa,rfl⟩,⟨ob,rfl⟩,trivial⟩ (by kernel_rfl) (by kernel_rfl) (.leaf (L12s (a,b))) (by kernel_rfl) rfl
section
variable {m:Nat} {A S M:N2->N2->N2} {L:N2->N2}
theorem ah_ok(o:∀ a b,(F2s (A a b)).ok)(a b:N6):(H3s (ah A a b)).ok:=⟨o _ _,o _ _,o _ _,trivial⟩
theorem addHalf_is(o:∀ a b,(F2s (A a b)).ok)(hA:Is2 m 40 sh2 sh2 fun a b=>F2s (A a b)):Is2 m 74 sh6 sh6 fun a b=>H3s (ah A a b):=fun _ _ _ hf=>cT2_ok hf (fun _ _=>by kernel_rfl) (fun a b _ _=>⟨ah_ok o a b,rfl⟩) fun F a b oa ob w hF =>
 calls_at (E1_ok (more:=[cT2 true m 40 sh2 sh2 fun a b=>F2s (A a b)]) ⟨hA _ _ _ (FOk.of hF),trivial⟩) (by kernel_rfl) (fun _=>4) Tryz.func74 (by kernel_rfl) [sG,H3s a,H3s b] ⟨⟨⟨trivial,trivial⟩,rfl⟩,⟨oa,rfl⟩,⟨ob,rfl⟩,trivial⟩ (by kernel_rfl) (by kernel_rfl) (.leaf (H3s (ah A a b))) (by kernel_rfl) rfl
theorem subHalf_is(o:∀ a b,(F2s (S a b)).ok)(hS:Is2 m 42 sh2 sh2 fun a b=>F2s (S a b)):Is2 m 75 sh6 sh6 fun a b=>H3s (ah S a b):=fun _ _ _ hf=>cT2_ok hf (fun _ _=>by kernel_rfl) (fun a b _ _=>⟨ah_ok o a b,rfl⟩) fun F a b oa ob w hF =>
 calls_at (E1_ok (more:=[cT2 true m 42 sh2 sh2 fun a b=>F2s (S a b)]) ⟨hS _ _ _ (FOk.of hF),trivial⟩) (by kernel_rfl) (fun _=>4) Tryz.func75 (by kernel_rfl) [sG,H3s a,H3s b] ⟨⟨⟨trivial,trivial⟩,rfl⟩,⟨oa,rfl⟩,⟨ob,rfl⟩,trivial⟩ (by kernel_rfl) (by kernel_rfl) (.leaf (H3s (ah S a b))) (by kernel_rfl) rfl
theorem shifted_is(o:∀ a,(F2s (L a)).ok)(hL:Is1 m 101 sh2 fun a=>F2s (L a)):Is1 m 77 sh6 fun a=>H3s (shh L a):=fun _ _ _ hf=>cT1_ok hf (fun _ _=>by kernel_rfl) (fun a oa=>⟨⟨o _,oa.1,oa.2.1,trivial⟩,rfl⟩) fun F a oa w hF =>
 calls_at (E1_ok (more:=[cT1 true m 101 sh2 fun a=>F2s (L a)]) ⟨hL _ _ _ (FOk.of hF),trivial⟩) (by kernel_rfl) (fun _=>0) Tryz.func77 (by kernel_rfl) [sG,H3s a] ⟨⟨⟨trivial,trivial⟩,rfl⟩,⟨oa,rfl⟩,trivial⟩ (by kernel_rfl) (by kernel_rfl) (.leaf (H3s (shh L a))) (by kernel_rfl) rfl
/-! What stands across: a function in a function. -/
def Rc(a b o:N6):Rows:=[(1,.ap (.p 0 0 0 0) .e,60),(2,H3s a,82),(3,H3s b,82),(4,H3s o,82)]
def crs3(A S M:N2->N2->N2)(a b o:N6)(i j:Int):Option N2:=if i=1/\j=2 then some (crs A S M a b o 1 2)else if i=0/\j=1 then some (crs A S M a b o 0 1)else if i=0/\j=2 then some (crs A S M a b o 0 2)else none
theorem crs3_some{a b o:N6}{i j:Int}{r:N2}(h:crs3 A S M a b o i j=some r):(i=1/\j=2/\r=crs A S M a b o 1 2)\/(i=0/\j=1/\r=crs A S M a b o 0 1)\/(i=0/\j=2/\r=crs A S M a b o 0 2):=by
 unfold crs3 at h
 split at h
 ·rename_i e;cases h;exact .inl ⟨e.1,e.2,rfl⟩
 ·split at h
  ·rename_i e;cases h;exact .inr (.inl ⟨e.1,e.2,rfl⟩)
  ·split at h
   ·rename_i e;cases h;exact .inr (.inr ⟨e.1,e.2,rfl⟩)
   ·cases h
theorem crs_any(oS:∀ a b,(F2s (S a b)).ok)(hA:Is2 m 40 sh2 sh2 fun a b=>F2s (A a b))(hS:Is2 m 42 sh2 sh2 fun a b=>F2s (S a b))(hM:Is2 m 44 sh2 sh2 fun a b=>F2s (M a b))
  {γ0:Pl} {w:World} (hf:FOk true m γ0 w) (a b o:N6) (hR:RowsOk (Rc a b o) 5 γ0 w) {i j:Int} {r:N2} (h:crs3 A S M a b o i j=some r):Calls Tryz.prog 100 #[.int .i64 i,.int .i64 j,.pointer (some ⟨γ0 1,0,none⟩),.pointer (some ⟨γ0 2,0,none⟩),.pointer (some ⟨γ0 3,0,none⟩),.pointer (some ⟨γ0 4,0,none⟩)] w fun e w'=>e=.returned ((F2s r).val o0)/\Below w.heap.size w w':=by
 have G:=ET_ok (R0:=Rc a b o) (more:=[cT2 true m 40 sh2 sh2 fun a b=>F2s (A a b),cT2 true m 42 sh2 sh2 fun a b=>F2s (S a b),cT2 true m 44 sh2 sh2 fun a b=>F2s (M a b)]) (conAll_mono (b:=1) (base:=5) (by decide) ⟨hA _ _ _ hf,hS _ _ _ hf,hM _ _ _ hf,trivial⟩) hR;rcases crs3_some h with⟨rfl,rfl,rfl⟩ | ⟨rfl,rfl,rfl⟩ | ⟨rfl,rfl,rfl⟩
 ·exact calls_at G (by kernel_rfl) (fun _=>0) Tryz.func100 (by kernel_rfl) [.v (.int .i64 1),.v (.int .i64 2),.p 1 0 0 0,.p 2 0 0 0,.p 3 0 0 0,.p 4 0 0 0] ⟨⟨trivial,rfl⟩,⟨trivial,rfl⟩,⟨trivial,rfl⟩,⟨trivial,rfl⟩,⟨trivial,rfl⟩,⟨trivial,rfl⟩,trivial⟩ (by kernel_rfl) (by kernel_rfl) (.leaf (F2s (crs A S M a b o 1 2))) (by kernel_rfl) rfl
 ·exact calls_at G (by kernel_rfl) (fun _=>0) Tryz.func100 (by kernel_rfl) [.v (.int .i64 0),.v (.int .i64 1),.p 1 0 0 0,.p 2 0 0 0,.p 3 0 0 0,.p 4 0 0 0] ⟨⟨trivial,rfl⟩,⟨trivial,rfl⟩,⟨trivial,rfl⟩,⟨trivial,rfl⟩,⟨trivial,rfl⟩,⟨trivial,rfl⟩,trivial⟩ (by kernel_rfl) (by kernel_rfl) (.leaf (F2s (crs A S M a b o 0 1))) (by kernel_rfl) rfl
 ·exact calls_at G (by kernel_rfl) (fun _=>0) Tryz.func100 (by kernel_rfl) [.v (.int .i64 0),.v (.int .i64 2),.p 1 0 0 0,.p 2 0 0 0,.p 3 0 0 0,.p 4 0 0 0] ⟨⟨trivial,rfl⟩,⟨trivial,rfl⟩,⟨trivial,rfl⟩,⟨trivial,rfl⟩,⟨trivial,rfl⟩,⟨trivial,rfl⟩,trivial⟩ (by kernel_rfl) (by kernel_rfl) (.leaf (F2s (crs A S M a b o 0 2))) (by kernel_rfl) rfl
def cCross(A S M:N2->N2->N2)(m:Nat):Con:=⟨100,fun _ R us=>match us with
 | [.v (.int .i64 i),.v (.int .i64 j),.p gt 0 _ 0,.p ga 0 _ 0,.p gb 0 _ 0,.p go 0 _ 0]=>match rowIn gt R,rowIn ga R,rowIn gb R,rowIn go R with
  | some (.ap (.p 0 0 _ 0) .e,Tt),some (xa,Ta),some (xb,Tb),some (xo,To)=>match d6 xa,d6 xb,d6 xo with
   | some a,some b,some o=>if Tt=60/\Ta=82/\Tb=82/\To=82 then (crs3 A S M a b o i j).map fun r=>(F2s r,[],[])else none
   | _,_,_=>none
  | _,_,_,_=>none
 | _=>none⟩
theorem cCross_ok(oS:∀ a b,(F2s (S a b)).ok)(hA:Is2 m 40 sh2 sh2 fun a b=>F2s (A a b))(hS:Is2 m 42 sh2 sh2 fun a b=>F2s (S a b))(hM:Is2 m 44 sh2 sh2 fun a b=>F2s (M a b)){γ0:Pl}{w0:World}(hf:FOk true m γ0 w0):ConOk Tryz.prog 1 γ0 w0 (cCross A S M m) :=
 ⟨fun _ _=>by kernel_rfl,fun n R us r p R' hr hp hn hok hM'=>by
  unfold cCross at hr;dsimp only at hr
  split at hr
  ·rename_i i j gt _ ga _ gb _ go _
   split at hr
   ·rename_i _ Tt xa Ta xb Tb xo To ht ha hb ho
    split at hr
    ·rename_i a b o da db do_
     split at hr
     ·rename_i hT
      obtain⟨q,hq,e⟩:=Option.map_eq_some_iff.1 hr;cases e;obtain⟨rfl,rfl,rfl,rfl⟩:=hT;have ea:=d6_ok _ _ da;have eb:=d6_ok _ _ db;have eo:=d6_ok _ _ do_;subst ea eb eo;have oq:(F2s q).ok:=by
       rcases crs3_some hq with⟨_,_,rfl⟩ | ⟨_,_,rfl⟩ | ⟨_,_,rfl⟩ <;> exact oS _ _
      refine⟨oq,rfl,fun q hq=>(by cases hq),fun γ hγ wx hw hL=>?_⟩;have lt:=hL _ (rowIn_ok ht);have la:=hL _ (rowIn_ok ha);have lb:=hL _ (rowIn_ok hb);have lo:=hL _ (rowIn_ok ho);obtain⟨δ,hδ⟩:∃ δ:Pl,δ=fun k=>match k with
       | 0=>γ 0
       | 1=>γ gt
       | 2=>γ ga
       | 3=>γ gb
       | _=>γ go:=⟨_,rfl⟩
      have hf':FOk true m δ wx:=⟨hf.odd,hf.big,hf.lt,fun h=>by
       have h1:=(hf.at_ h).below hw;rw[hδ];show FldAt wx (γ 0) m;rw[hγ 0 (by decide)];exact h1⟩
      have hR:RowsOk (Rc a b o) 5 δ wx:=⟨fun q hq=>by
       simp only[Rc,List.mem_cons,List.not_mem_nil,or_false]at hq;rcases hq with rfl | rfl | rfl | rfl
       ·exact⟨by rw[hδ];exact lt.1,⟨trivial,trivial⟩,rfl,(show 1<5 by decide)⟩
       ·exact⟨by rw[hδ];exact la.1,la.2.1,rfl,(show 2<5 by decide)⟩
       ·exact⟨by rw[hδ];exact lb.1,lb.2.1,rfl,(show 3<5 by decide)⟩
       ·exact⟨by rw[hδ];exact lo.1,lo.2.1,rfl,(show 4<5 by decide)⟩⟩
      have g:=crs_any oS hA hS hM hf' a b o hR hq;rw[hδ]at g;exact g.mono fun e w' hh=>⟨⟨γ,fun _ _=>rfl,hh.1.trans (congrArg Ending.returned (val0 (x:=F2s q) rfl).symm),fun q hq=>(by cases hq),.nil⟩,hh.2⟩
     ·cases hr
    ·cases hr
   ·cases hr
  ·cases hr⟩
theorem mulHalf_is(oA:∀ a b,(F2s (A a b)).ok)(oS:∀ a b,(F2s (S a b)).ok)(hA:Is2 m 40 sh2 sh2 fun a b=>F2s (A a b))(hS:Is2 m 42 sh2 sh2 fun a b=>F2s (S a b))(hM:Is2 m 44 sh2 sh2 fun a b=>F2s (M a b))(hL:Is1 m 101 sh2 fun a=>F2s (L a)):Is2 m 76 sh6 sh6 fun a b=>H3s (mh A S M L a b):=fun _ _ _ hf=>cT2_ok hf (fun _ _=>by kernel_rfl) (fun a b _ _=>⟨⟨oA _ _,oA _ _,oA _ _,trivial⟩,rfl⟩) fun F a b oa ob w hF =>
 calls_at (E1_ok (more:=[cCross A S M m,cT2 true m 40 sh2 sh2 fun a b=>F2s (A a b),cT2 true m 44 sh2 sh2 fun a b=>F2s (M a b),cT1 true m 101 sh2 fun a=>F2s (L a)]) ⟨cCross_ok oS hA hS hM (FOk.of hF),hA _ _ _ (FOk.of hF),hM _ _ _ (FOk.of hF),hL _ _ _ (FOk.of hF),trivial⟩) (by kernel_rfl) (fun _=>4) Tryz.func76 (by kernel_rfl) [sG,H3s a,H3s b] ⟨⟨⟨trivial,trivial⟩,rfl⟩,⟨oa,rfl⟩,⟨ob,rfl⟩,trivial⟩ (by kernel_rfl) (by kernel_rfl) (.leaf (H3s (mh A S M L a b))) (by kernel_rfl) rfl
end
end Sy
open Go.RowKit
namespace Sy
section
variable {m:Nat} {A S M:N6->N6->N6} {H:N6->N6}
theorem L12_ok{x y:N6}(hx:(H3s x).ok)(hy:(H3s y).ok):(L12s (x,y)).ok:=⟨hx.1,hy.1,hx.2.1,hy.2.1,hx.2.2.1,hy.2.2.1,trivial⟩
def cHalves:Con:=cV1 72 sh12 fun a=>.tu (H3s a.1) (H3s a.2)
def cWhole:Con:=cV2 73 sh6 sh6 fun a b=>L12s (a,b)
theorem mul12_is(oA:∀ a b,(H3s (A a b)).ok)(oS:∀ a b,(H3s (S a b)).ok)(hA:Is2 m 74 sh6 sh6 fun a b=>H3s (A a b))(hS:Is2 m 75 sh6 sh6 fun a b=>H3s (S a b))(hM:Is2 m 76 sh6 sh6 fun a b=>H3s (M a b))(hH:Is1 m 77 sh6 fun a=>H3s (H a)):Is2 m 49 sh12 sh12 fun a b=>L12s (mt A S M H a b):=fun _ _ _ hf=>cT2_ok hf (fun _ _=>by kernel_rfl) (fun a b _ _=>⟨L12_ok (oA _ _) (oS _ _),rfl⟩) fun F a b oa ob w hF =>
 calls_at (E1_ok (more:=[cHalves,cWhole,cT2 true m 74 sh6 sh6 fun a b=>H3s (A a b),cT2 true m 75 sh6 sh6 fun a b=>H3s (S a b),cT2 true m 76 sh6 sh6 fun a b=>H3s (M a b),cT1 true m 77 sh6 fun a=>H3s (H a)]) ⟨halves_is _ _ _,whole_is _ _ _,hA _ _ _ (FOk.of hF),hS _ _ _ (FOk.of hF),hM _ _ _ (FOk.of hF),hH _ _ _ (FOk.of hF),trivial⟩) (by kernel_rfl) (fun _=>0) Tryz.func49 (by kernel_rfl) [sG,L12s a,L12s b] ⟨⟨⟨trivial,trivial⟩,rfl⟩,⟨oa,rfl⟩,⟨ob,rfl⟩,trivial⟩ (by kernel_rfl) (by kernel_rfl) (.leaf (L12s (mt A S M H a b))) (by kernel_rfl) rfl
end
/-! The letters named. -/
section
variable {m:Nat} (hp:Pr m) (hm:m<2^256)
include hm
theorem addHalf_at:Is2 m 74 sh6 sh6 fun a b=>H3s (a6 hp a b):=addHalf_is (fun _ _=>F2v_ok hm _) (add2_is hp)
theorem subHalf_at:Is2 m 75 sh6 sh6 fun a b=>H3s (s6 hp a b):=subHalf_is (fun _ _=>F2v_ok hm _) (sub2_is hp)
theorem shifted_at:Is1 m 77 sh6 fun a=>H3s (shh (l2 hp) a):=shifted_is (fun _=>F2v_ok hm _) (lifted_is hp)
theorem mulHalf_at:Is2 m 76 sh6 sh6 fun a b=>H3s (m6 hp a b):=by
 have h:=mulHalf_is (A:=a2 hp) (S:=s2 hp) (M:=m2 hp) (L:=l2 hp) (fun _ _=>F2v_ok hm _) (fun _ _=>F2v_ok hm _) (add2_is hp) (sub2_is hp) (mul2_is hp) (lifted_is hp);simp only[m6_eq]at h;exact h
theorem mul12_at:Is2 m 49 sh12 sh12 fun a b=>L12s (m12 hp a b):=by
 have h:=mul12_is (A:=a6 hp) (S:=s6 hp) (M:=m6 hp) (H:=shh (l2 hp)) (fun _ _=>H3v_ok hm _) (fun _ _=>H3v_ok hm _) (addHalf_at hp hm) (subHalf_at hp hm) (mulHalf_at hp hm) (shifted_at hp hm);simp only[m12_eq]at h;exact h
end
end Sy
open Go.RowKit
-- WHAT Base COMES TO.
theorem f_Base(w:World):Calls Tryz.prog 60 #[] w fun e w'=>∃ F,e=.returned (.pointer (some ⟨F,0,none⟩))/\FldAt w' F 21888242871839275222246405745257275088696311157297823662689037894645226208583/\w.heap.size<=F/\Below w.heap.size w w':=by
 have HMO:=Lib.hid (fun wx=>modulo_any 21888242871839275222246405745257275088696311157297823662689037894645226208583 (by omega) (by omega) (by omega) wx);rw[show pw 21888242871839275222246405745257275088696311157297823662689037894645226208583=#[.int .u64 4332616871279656263,.int .u64 10917124144477883021,.int .u64 13281191951274694749,.int .u64 3486998266802970665] from by kernel_rfl]at HMO;go_enter Tryz.func60,Tryz.ntmps60
 go_wp2_with fail
 refine(HMO.out _).mono ?_;rintro e w5 ⟨F,rfl,hF,hs,hb⟩;have HF:=Lib.hid (And.intro hF (And.intro hs hb));clear hF hs hb HMO
 go_wp2_with fail
 go_ret;exact⟨F,rfl,HF.out.1,HF.out.2⟩
open Go.RowKit
theorem fields_any(w:World):Calls Tryz.prog 36 #[] w fun e w'=>∃ F,e=.returned (.agg #[.pointer (some ⟨F,0,none⟩)])/\FldAt w' F 21888242871839275222246405745257275088696311157297823662689037894645226208583/\w.heap.size<=F/\Below w.heap.size w w':=by
 have HCR:=Lib.hid (fun wx=>f_Base wx);go_enter Tryz.func36,Tryz.ntmps36
 go_wp2_with fail
 refine(HCR.out _).mono ?_;rintro e w5 ⟨F,rfl,hF,hs,hb⟩;have HF:=Lib.hid hF;have HS:=Lib.hid hs;have HB:=Lib.hid hb;have hr:=(HB.out.block w.heap.size (by simp)).trans (heap_alloc_new w _);have HR:=Lib.hid hr;clear hF hs hb hr HCR
 go_wp2_with (refine wpList_store_row rfl 60 _ _ rfl w.heap.size #[.pointer (some ⟨F,0,none⟩)] rfl rfl 60 _ (by exact HR.out) (by kernel_rfl) (by rfl) (by kernel_rfl) ?_)
 (try simp only[Act.put])
 refine bodyPost_ret (v:=.agg #[.pointer (some ⟨F,0,none⟩)]) (results_cell_row (p:=0) rfl _ _ w.heap.size 60 #[.pointer (some ⟨F,0,none⟩)] (0,0) _ rfl (setRow_heap _ _ _ _ _ _ HR.out) Tryz.underlying60 rfl (by kernel_rfl)) rfl ⟨F,rfl,?_,?_,?_⟩
 ·have h:=HS.out
  simp at h;exact fld_row HF.out (by omega)
 ·have h:=HS.out
  simp at h;omega
 ·exact below_setRow (((Below.refl _ _).alloc (Nat.le_refl _) _).trans (HB.out.mono (by simp))) (Nat.le_refl _) _
namespace Sy
abbrev pB:Nat:=21888242871839275222246405745257275088696311157297823662689037894645226208583
theorem prB:Pr pB:=prm_21888242871839275222246405745257275088696311157297823662689037894645226208583
theorem ltB:pB<2^256:=by decide
theorem fB(w:World):FOk false pB o0 w:=⟨by decide,by decide,ltB,fun h=>by cases h⟩
def cFields:Con:=⟨36,fun n _ l=>match l with
 | []=>some (.ap (.p n 0 0 0) .e,[],[(n,sFld pB,102)])
 | _=>none⟩
theorem cFields_ok{γ0:Pl}{w0:World}:ConOk Tryz.prog 1 γ0 w0 cFields:=⟨fun _ _=>by kernel_rfl,fun n M l r p R hr hp hn hok _=>by
 simp only[cFields]at hr
 split at hr
 ·cases hr
  refine⟨⟨trivial,trivial⟩,by show(decide (n<n+1)&&true)=true;simp,fun q hq=>?_,fun γ hγ wx hw hL=>?_⟩
  ·simp only[List.mem_cons,List.not_mem_nil,or_false]at hq
   subst hq;exact⟨⟨trivial,trivial,trivial,trivial,trivial,trivial,trivial,trivial,trivial,trivial⟩,rfl,Nat.le_refl _,Nat.lt_succ_self _⟩
  ·refine(fields_any wx).mono fun e w' ⟨F,h1,h2,h3,h4⟩=>?_
   obtain⟨δ,hδ⟩:∃ δ:Pl,∀ k,δ k=if k=n then F else γ k:=⟨_,fun _=>rfl⟩
   refine⟨⟨δ,fun k hk=>by rw[hδ,if_neg (by omega)],?_,fun q hq=>?_,List.pairwise_singleton _ _⟩,h4⟩
   ·rw[h1]
    show _=Ending.returned (.agg #[.pointer (some ⟨δ n,0+0*0,none⟩)]);rw[hδ,if_pos rfl]
   ·simp only[List.mem_cons,List.not_mem_nil,or_false]at hq
    subst hq;refine⟨by rw[hδ,if_pos rfl];exact h3,?_⟩;show w'.heap[δ n]?=_;rw[hδ,if_pos rfl];exact h2.row
 ·cases hr⟩
section
variable {A M:N2->N2->N2} {A12 M12:N12->N12->N12}
theorem Add2_is(o:∀ a b,(F2s (A a b)).ok)(hA:Is2 pB 40 sh2 sh2 fun a b=>F2s (A a b)):Is00 11 sh2 sh2 fun a b=>F2s (A a b):=fun _ _ _=>cV2_ok (fun _ _=>by kernel_rfl) (fun a b _ _=>⟨o a b,rfl⟩) fun a b oa ob w =>
 calls_at (E1_ok (γ0:=o0) (more:=[cFields,cT2 false pB 40 sh2 sh2 fun a b=>F2s (A a b)]) ⟨cFields_ok,hA _ _ _ (fB w),trivial⟩) (by kernel_rfl) (fun _=>0) Tryz.func11 (by kernel_rfl) [F2s a,F2s b] ⟨⟨oa,rfl⟩,⟨ob,rfl⟩,trivial⟩ (by kernel_rfl) (by kernel_rfl) (.leaf (F2s (A a b))) (by kernel_rfl) rfl
theorem Mul2_is(o:∀ a b,(F2s (M a b)).ok)(hM:Is2 pB 44 sh2 sh2 fun a b=>F2s (M a b)):Is00 15 sh2 sh2 fun a b=>F2s (M a b):=fun _ _ _=>cV2_ok (fun _ _=>by kernel_rfl) (fun a b _ _=>⟨o a b,rfl⟩) fun a b oa ob w =>
 calls_at (E1_ok (γ0:=o0) (more:=[cFields,cT2 false pB 44 sh2 sh2 fun a b=>F2s (M a b)]) ⟨cFields_ok,hM _ _ _ (fB w),trivial⟩) (by kernel_rfl) (fun _=>0) Tryz.func15 (by kernel_rfl) [F2s a,F2s b] ⟨⟨oa,rfl⟩,⟨ob,rfl⟩,trivial⟩ (by kernel_rfl) (by kernel_rfl) (.leaf (F2s (M a b))) (by kernel_rfl) rfl
theorem Mul12_is(o:∀ a b,(L12s (M12 a b)).ok)(hM:Is2 pB 49 sh12 sh12 fun a b=>L12s (M12 a b)):Is00 24 sh12 sh12 fun a b=>L12s (M12 a b):=fun _ _ _=>cV2_ok (fun _ _=>by kernel_rfl) (fun a b _ _=>⟨o a b,rfl⟩) fun a b oa ob w =>
 calls_at (E1_ok (γ0:=o0) (more:=[cFields,cT2 false pB 49 sh12 sh12 fun a b=>L12s (M12 a b)]) ⟨cFields_ok,hM _ _ _ (fB w),trivial⟩) (by kernel_rfl) (fun _=>0) Tryz.func24 (by kernel_rfl) [L12s a,L12s b] ⟨⟨oa,rfl⟩,⟨ob,rfl⟩,trivial⟩ (by kernel_rfl) (by kernel_rfl) (.leaf (L12s (M12 a b))) (by kernel_rfl) rfl
end
def one12:N12:=(((1,0),z2,z2),z6)
theorem one12_ok:(L12s one12).ok:=⟨⟨(show 1<2^256 by decide),w0_ok,trivial⟩,F2z_ok,F2z_ok,F2z_ok,F2z_ok,F2z_ok,trivial⟩
def cOne:Con:=conV 46 fun l=>match l with
 | []=>some (L12s one12,[])
 | _=>none
def cOneR:Con:=conV 27 fun l=>match l with
 | []=>some (L12s one12,[])
 | _=>none
theorem cOne_ok{base:Nat}{γ0:Pl}{w0:World}:ConOk Tryz.prog base γ0 w0 cOne:=conV_ok (fun _ _=>by kernel_rfl) fun us r q h hq hok=>by
 split at h
 ·cases h
  exact⟨one12_ok,rfl,fun γ w=>calls_at (E1_ok (γ0:=γ) (more:=[cOf]) ⟨cOf_ok,trivial⟩) (by kernel_rfl) (fun _=>0) Tryz.func46 (by kernel_rfl) [] trivial (by kernel_rfl) (by kernel_rfl) (.leaf (L12s one12)) (by kernel_rfl) rfl⟩
 ·cases h
theorem cOneR_ok{base:Nat}{γ0:Pl}{w0:World}:ConOk Tryz.prog base γ0 w0 cOneR:=conV_ok (fun _ _=>by kernel_rfl) fun us r q h hq hok=>by
 split at h
 ·cases h
  exact⟨one12_ok,rfl,fun γ w=>calls_at (E1_ok (γ0:=γ) (more:=[]) trivial) (by kernel_rfl) (fun _=>0) Tryz.func27 (by kernel_rfl) [] trivial (by kernel_rfl) (by kernel_rfl) (.leaf (L12s one12)) (by kernel_rfl) rfl⟩
 ·cases h
/-! Named: of the pairing's prime. -/
def A2:N2->N2->N2:=a2 prB
def M2:N2->N2->N2:=m2 prB
def M12:N12->N12->N12:=m12 prB
theorem Add2_at:Is00 11 sh2 sh2 fun a b=>F2s (A2 a b):=Add2_is (fun _ _=>F2v_ok ltB _) (add2_is prB)
theorem Mul2_at:Is00 15 sh2 sh2 fun a b=>F2s (M2 a b):=Mul2_is (fun _ _=>F2v_ok ltB _) (mul2_is prB)
theorem Mul12_at:Is00 24 sh12 sh12 fun a b=>L12s (M12 a b):=Mul12_is (fun _ _=>L12v_ok ltB _) (mul12_at prB ltB)
end Sy
end Go.Proofs.YthnckclbeecnmaaGreat
