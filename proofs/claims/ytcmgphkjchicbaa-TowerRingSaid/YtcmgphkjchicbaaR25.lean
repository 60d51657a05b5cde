/- Regions that draw their order: an operation does what is told. No program is named here. (Cut to what is reached, written closely: SyI.) -/
import Derived.Test.YtcmgphkjchicbaaR24
set_option linter.all false
set_option maxRecDepth 100000
set_option maxHeartbeats 8000000
namespace Go.Proofs.Ytcmgphkjchicbaa.Sy
open Go.RowKit
section
variable {E:Env} {γ0 γ γs δ:Pl} {N nx:Nat} {w0 ws w w' wx:World} {s:St} {a a0:Act} {o:Oper} {l:List Oper} {es:List Ef} {D D':Nat->Bool} {lk:Nat->Option SV} {M:Rows} {e:Ef} {p:List Ob} {P:Program} {K:Act->World->Prop} {X:Exit->Act->World->Prop}
theorem ow_value{v:Value}(hr:(execOp a.eval o).run P w=.ok (.value v) w')(h:K (a.put o.dst v) w'):o.wp P a w K X:=by
 unfold Oper.wp;rw[hr];exact h
theorem ow_unit(hr:(execOp a.eval o).run P w=.ok .skip w')(h:K (a.put o.dst undef) w'):o.wp P a w K X:=by
 unfold Oper.wp;rw[hr];exact h
theorem ow_made{f:FuncId}{args:Array Value}{Z:Ending->World->Prop}(hr:(execOp a.eval o).run P w=.ok (.enter f args) w)
  (hc:Calls P f args w Z) (h:∀ e w',Z e w'->∃ v,e=.returned v/\K (a.put o.dst v) w'):o.wp P a w K X:=by
 unfold Oper.wp;rw[hr];refine Calls.mono hc ?_;intro e w' hz;obtain⟨v,rfl,hh⟩:=h e w' hz;exact hh
structure OutE (nx:Nat) (γ δ:Pl) (M:Rows) (e:Ef) (v:Value) (w w':World):Prop where
 d:∀ t x,e.d=some (t,some x)->v=x.val δ/\x.ok/\x.lt (nx+8)=true
 R:∀ q∈e.R,q.2.1.ok/\q.2.1.lt (nx+8)=true/\nx<=q.1/\q.1<nx+8/\w.heap.size<=δ q.1/\w'.heap[δ q.1]?=some (.cells (q.2.1.cells δ).toArray q.2.2 (0,0))
 P:e.R.Pairwise fun p q=>δ p.1≠δ q.1
 n:e.st=none->Below w.heap.size w w'
 s:∀ g c,e.st=some (g,c)->e.R=[]/\c.ok/\c.lt nx=true/\(∃ y T,(g,y,T)∈M)/\w'=w.setRow (γ g) (c.cells γ).toArray
theorem OutE.val{d:Nat}{x:SV}(ho:x.ok)(hl:x.lt (nx+8)=true)(hb:Below w.heap.size w w'):OutE nx γ γ M ⟨some (d,some x),[],none⟩ (x.val γ) w w' :=
 ⟨fun t y h=>by cases h;exact⟨rfl,ho,hl⟩,fun q hq=>(by cases hq),.nil,fun _=>hb,fun g c h=>(by cases h)⟩
theorem OutE.one{d:Nat}{x y:SV}{T:TypeId}(hδ:∀ k,δ k=if k=nx then w.heap.size else γ k)(ho:x.ok)(hl:x.lt (nx+1)=true)(hy:y.ok)(hly:y.lt nx=true):OutE nx γ δ M ⟨some (d,some x),[(nx,y,T)],none⟩ (x.val δ) w (w.alloc (.cells (y.cells γ).toArray T)):=by
 have e:∀ k,k<nx->γ k=δ k:=fun k hk=>by rw[hδ,if_neg (by omega)]
 refine⟨fun t z h=>by cases h;exact⟨rfl,ho,SV.lt_mono (by omega) hl⟩,fun q hq=>?_,List.pairwise_singleton _ _,fun _=>(Below.refl _ _).alloc (Nat.le_refl _) _,fun g c h=>(by cases h)⟩;simp only[List.mem_cons,List.not_mem_nil,or_false]at hq;subst hq;refine⟨hy,SV.lt_mono (by omega) hly,Nat.le_refl _,by omega,by rw[hδ,if_pos rfl];exact Nat.le_refl _,?_⟩;show(w.alloc _).heap[δ nx]?=some (.cells (y.cells δ).toArray T (0,0));rw[hδ,if_pos rfl,<- (SV.lt_same e hly).2.1];exact heap_alloc_new _ _
theorem eff_d(h:effGo E N nx lk M o=some (e,p)):∀ t y,e.d=some (t,y)->o.dst=some t/\t<N:=by
 intro t y hd;obtain⟨op,ho⟩:∃ op,o.op=op:=⟨_,rfl⟩
 obtain⟨dst,hdst⟩:∃ d,o.dst=d:=⟨_,rfl⟩
 unfold effGo at h;rw[ho,hdst]at h;rw[hdst]
 split at h
 ·split at h
  ·split at h
   ·split at h
    ·rename_i r _
     cases hp:SV.put _ _ r.1 with
     | none=>rw[hp]at h;cases h
     | some c=>rw[hp]at h;cases h;cases hd
    ·cases h
   ·cases h
  ·cases h
 ·split at h
  ·split at h
   ·rename_i hN
    cases h;cases hd;exact⟨rfl,hN⟩
   ·cases h
  ·cases h
 ·split at h
  ·split at h
   ·rename_i hN
    cases h;cases hd;exact⟨rfl,hN.1⟩
   ·cases h
  ·cases h
 ·split at h
  ·split at h
   ·rename_i hN
    split at h
    ·cases h;cases hd;exact⟨rfl,hN.1⟩
    ·cases h
   ·cases h
  ·cases h
 ·split at h
  ·split at h
   ·split at h
    ·split at h
     ·rename_i hN
      cases h;cases hd;exact⟨rfl,hN⟩
     ·cases h
    ·cases h
   ·cases h
  ·split at h
   ·split at h
    ·rename_i hN
     cases h;cases hd;exact⟨rfl,hN⟩
    ·cases h
   ·cases h
 ·split at h
  ·split at h
   ·rename_i hN
    cases h;cases hd;exact⟨rfl,hN⟩
   ·cases h
  ·cases h
 ·cases h
theorem effGo_ok(G:E.Good γ0 w0)(hA:Agree E γ0 γ)(hb:E.base<=nx)(hk:Holds γ nx lk a)(hM:Lies γ nx M w)(hB:Below w0.heap.size w0 w)(h:effGo E N nx lk M o=some (e,p))(hp:All p)(hR:e.R.length<=8)
  (hK:∀ δ v w',(∀ g,g<nx->δ g=γ g)->OutE nx γ δ M e v w w'->K (a.put o.dst v) w'):o.wp E.P a w K X:=by
 obtain⟨op,ho⟩:∃ op,o.op=op:=⟨_,rfl⟩
 obtain⟨dst,hd⟩:∃ d,o.dst=d:=⟨_,rfl⟩
 have value:∀ {d:Nat} {r:SV} {p:List Ob},opVal E lk M o.op=some (r,p)->All p->e=⟨some (d,some r),[],none⟩->o.wp E.P a w K X:=fun hr hp he=>by
  have q:=opVal_ok G hA hb hk hM hB hr hp;exact ow_value q.1 (hK γ _ w (fun _ _=>rfl) (by rw[he];exact OutE.val q.2.1 (SV.lt_mono (Nat.le_add_right _ _) q.2.2) (Below.refl _ _)))
 unfold effGo at h;rw[ho,hd]at h
 split at h
 ·rename_i T x y
  split at h
  ·rename_i g off j z v ty hx1 hy1 ht
   split at h
   ·rename_i hh
    obtain⟨rfl,hv,hz⟩:=hh
    split at h
    ·rename_i r hr
     cases hput:SV.put v off r.1 with
     | none=>rw[hput]at h;cases h
     | some c =>
      rw[hput]at h;cases h;have q1:=opnd_ok hk hx1;have q2:=opnd_ok hk hy1;have tg:=(G.tys _ (tyIn_ok ht).1).sz;rw[(tyIn_ok ht).2,<- hz]at tg;have hm:=hM _ (rowIn_ok hr);have hst:=store_ok (P:=E.P) hm.1 tg hput hv;have pk:=SV.put_ok γ hput;refine ow_unit (w':=w.setRow (γ g) (c.cells γ).toArray) ?_ (hK γ _ _ (fun _ _=>rfl) ⟨fun t y h=>(by cases h),fun q hq=>(by cases hq),.nil,fun h=>(by cases h),fun g' c' h=>?_⟩)
      ·unfold execOp
       rw[ho];have e:a.eval x=.pointer (some ⟨γ g,off,none⟩):=by
        rw[q1.1];show Value.pointer (some ⟨γ g,off+j*0,none⟩)=_;rw[Nat.mul_zero,Nat.add_zero]
       simp only[e,q2.1,Sem.run_bind,hst,Result.andThen_ok,Sem.run_pure]
      ·cases h
       exact⟨rfl,pk.ok hm.2.1 q2.2.1,pk.lt _ hm.2.2 q2.2.2,⟨_,_,rowIn_ok hr⟩,rfl⟩
    ·cases h
   ·cases h
  ·cases h
 ·rename_i T d
  split at h
  ·rename_i ty ht
   split at h
   ·cases h
    have tg:=G.tys _ (tyIn_ok ht).1;obtain⟨δ,hδ⟩:∃ δ:Pl,∀ k,δ k=if k=nx then w.heap.size else γ k:=⟨_,fun _=>rfl⟩
    have hz:=tg.zero;rw[(tyIn_ok ht).2,(SV.lt_same (γ:=fun _=>0) (δ:=γ) (n:=0) (fun k hk=>absurd hk (Nat.not_lt_zero _)) tg.zlt).2.1]at hz;refine ow_value (v:=.pointer (some ⟨w.heap.size,0,none⟩)) (w':=w.alloc (.cells (ty.zero.cells γ).toArray T)) ?_ (hK δ _ _ (fun k hk=>by rw[hδ,if_neg (by omega)]) ?_)
    ·unfold execOp
     rw[ho];cases hi:E.P.info? T with
     | none=>rw[hi]at hz;cases hz
     | some it =>
      rw[hi]at hz;cases hzz:it.zero with
      | none=>rw[Option.bind_some,hzz]at hz;cases hz
      | some zv =>
       rw[Option.bind_some,hzz]at hz;have hz':zv.cells=(ty.zero.cells γ).toArray:=Option.some.inj hz;simp[Instr.alloc,zeroValue,typeInfo,hi,hzz,newVar,newRow,hz']
    ·have:=OutE.one (M:=M) (d:=d) (x:=.p nx 0 0 0) (T:=T) hδ trivial (decide_eq_true (Nat.lt_succ_self _)) tg.zok (SV.lt_mono (Nat.zero_le _) tg.zlt)
     have q:(SV.p nx 0 0 0).val δ=.pointer (some ⟨w.heap.size,0,none⟩):=by
      show Value.pointer (some ⟨δ nx,0+0*0,none⟩)=_;rw[hδ,if_pos rfl]
     rwa [q]at this
   ·cases h
  ·cases h
 ·rename_i T x d
  split at h
  ·rename_i v hv
   split at h
   ·rename_i hh
    cases h;have q:=opnd_ok hk hv;obtain⟨δ,hδ⟩:∃ δ:Pl,∀ k,δ k=if k=nx then w.heap.size else γ k:=⟨_,fun _=>rfl⟩
    refine ow_value (v:=.pointer (some ⟨w.heap.size,0,none⟩)) (w':=w.alloc (.cells (v.cells γ).toArray T)) (run_box ho q.1 ?_) (hK δ _ _ (fun k hk=>by rw[hδ,if_neg (by omega)]) ?_)
    ·rcases SV.plain_any hh.2 with h1 | h1
     ·rw[SV.val_one h1,cells_one (SV.one_cell h1)]
     ·rw[SV.val_many h1]
      rfl
    ·have:=OutE.one (M:=M) (d:=d) (x:=.p nx 0 0 0) (T:=T) hδ trivial (decide_eq_true (Nat.lt_succ_self _)) q.2.1 q.2.2
     have q:(SV.p nx 0 0 0).val δ=.pointer (some ⟨w.heap.size,0,none⟩):=by
      show Value.pointer (some ⟨δ nx,0+0*0,none⟩)=_;rw[hδ,if_pos rfl]
     rwa [q]at this
   ·cases h
  ·cases h
 ·rename_i T n parts d
  split at h
  ·rename_i b l hb' hl
   split at h
   ·rename_i hc
    split at h
    ·rename_i r hr
     cases h;obtain⟨hbm,hbT,hbn⟩:=bsIn_ok hb';have bg:=G.bss _ hbm;have q:=partsOf_ok hk hl;have hall:=List.all_eq_true.1 hc.2;have hfo:=fillS_okay hr q.2 bg.ok (SV.lt_mono (Nat.zero_le _) bg.lt);obtain⟨δ,hδ⟩:∃ δ:Pl,∀ k,δ k=if k=nx then w.heap.size else γ k:=⟨_,fun _=>rfl⟩
     refine ow_value (v:=.slice (some ⟨w.heap.size,0,none⟩) n n) (w':=w.alloc (.cells (r.cells γ).toArray b.e)) ?_ (hK δ _ _ (fun k hk=>by rw[hδ,if_neg (by omega)]) ?_)
     ·have hfill:=fill_ok (γ:=γ) hr (fun x hx=>by have:=hall x hx;rw[Bool.and_eq_true]at this;exact this.2)
      have hz:=bg.z;rw[(SV.lt_same (γ:=fun _=>0) (δ:=γ) (n:=0) (fun k hk=>absurd hk (Nat.not_lt_zero _)) bg.lt).2.1]at hz;have hu:=bg.u;rw[hbT]at hu;have hfew:=of_decide_eq_false bg.few;have hpos:=of_decide_eq_false bg.pos;rw[hbn]at hz hfew hpos;cases hi:E.P.info? b.e with
      | none=>rw[hi]at hz;cases hz
      | some it =>
       have hs:=bg.i;rw[hi]at hz hs;have hs':it.size=b.sz:=Option.some.inj hs;cases hzz:it.zero with
       | none=>rw[Option.bind_some,hzz]at hz;cases hz
       | some zv =>
        rw[Option.bind_some,hzz]at hz;have hz':(Array.range (n*b.sz)).map (zv.cells[·%zv.cells.size]!)=(b.zs.cells γ).toArray:=Option.some.inj hz;have hfc:Instr.fill (fun i=>some (i*b.sz,b.sz)) (b.zs.cells γ).toArray (l.map fun x=>(x.1,x.2.val γ))=some (r.cells γ).toArray:=by
         rw[<- hfill];refine fill_congr fun x hx=>?_;obtain⟨y,hy,rfl⟩:=List.mem_map.1 hx;have hlt:y.1<n:=by
          have:=hall y hy;rw[Bool.and_eq_true]at this;exact of_decide_eq_true this.1
         simp[hlt]
        unfold execOp;rw[ho];have hrun:(Instr.buildSlice T n (parts.map fun(x:Nat × Operand)=>(x.1,a.eval x.2))).run E.P w=.ok (.slice (some ⟨w.heap.size,0,none⟩) n n) (w.alloc (.cells (r.cells γ).toArray b.e)):=by
         simp[Instr.buildSlice,run_underlying hu,sizeOf,typeInfo,hi,hs',hfew,hpos,zeroValue,hzz,hz',q.1,hfc,newRow]
        show(do let v <- Instr.buildSlice T n (parts.map fun(x:Nat × Operand)=>(x.1,a.eval x.2));pure (.value v):Sem Next).run E.P w=_;rw[Sem.run_bind,hrun,Result.andThen_ok,Sem.run_pure]
     ·have:=OutE.one (M:=M) (d:=d) (x:=.s nx 0 n n) (T:=b.e) hδ trivial (decide_eq_true (Nat.lt_succ_self _)) hfo.1 hfo.2
      have q:(SV.s nx 0 n n).val δ=.slice (some ⟨w.heap.size,0,none⟩) n n:=by
       show Value.slice (some ⟨δ nx,0,none⟩) n n=_;rw[hδ,if_pos rfl]
      rwa [q]at this
    ·cases h
   ·cases h
  ·cases h
 ·rename_i c d
  split at h
  ·split at h
   ·rename_i f l hl
    split at h
    ·rename_i r p' R' hr
     split at h
     ·cases h
      have q:=callX_ok hk ho hl;have g:=G.ctr _ _ _ _ _ _ _ hr hp hb q.2 (fun r hr=>⟨(hM r hr).2.1,(hM r hr).2.2⟩);have hR':R'.length<=8:=hR;refine ow_made (Z:=Made γ nx r R' w) ((congrArg (fun m=>Sem.run E.P m w) q.1).trans (g.2.2.2.1 _ _)) ?_ fun e w' hz=>?_
      ·exact g.2.2.2.2 γ hA w hB hM
      ·obtain⟨⟨δ,h1,h2,h3,h4⟩,h5⟩:=hz
       refine⟨_,h2,hK δ _ _ h1 ⟨fun t x hx=>?_,fun q hq=>?_,h4,fun _=>h5,fun g c h=>(by cases h)⟩⟩
       ·cases hx
        exact⟨rfl,g.1,SV.lt_mono (by omega) g.2.1⟩
       ·have:=g.2.2.1 q hq
        have h6:=h3 q hq;exact⟨this.1,SV.lt_mono (by omega) this.2.1,this.2.2.1,by omega,h6⟩
     ·cases h
    ·cases h
   ·cases h
  ·split at h
   ·rename_i r p' hr
    split at h
    ·cases h
     exact value (by rw[ho];exact hr) hp rfl
    ·cases h
   ·cases h
 ·rename_i op' d _ _ _ _ _
  split at h
  ·rename_i r p' hr
   split at h
   ·cases h
    exact value (by rw[ho];exact hr) hp rfl
   ·cases h
  ·cases h
 ·cases h
theorem effAt_d{gs:Option SV}(h:effAt E N nx gs lk M o=some (e,p)):∀ t y,e.d=some (t,y)->o.dst=some t/\t<N:=by
 intro t y hd;unfold effAt at h
 split at h
 ·exact eff_d h t y hd
 ·split at h
  ·split at h
   ·exact eff_d h t y hd
   ·split at h
    ·rename_i hdst
     split at h
     ·rename_i hN
      cases h;cases hd;exact⟨hdst,hN⟩
     ·cases h
    ·cases h
     cases hd
  ·split at h
   ·rename_i _ d x p' _ hx
    split at h
    ·cases h
     cases hd;exact eff_d hx _ _ rfl
    ·cases h
   ·cases h
  ·cases h
theorem eff_st(h:effGo E N nx lk M o=some (e,p)):∀ g c,e.st=some (g,c)->∃ y T,(g,y,T)∈M:=by
 intro g c hs;obtain⟨op,ho⟩:∃ op,o.op=op:=⟨_,rfl⟩
 obtain⟨dst,hdst⟩:∃ d,o.dst=d:=⟨_,rfl⟩
 unfold effGo at h;rw[ho,hdst]at h
 split at h
 ·split at h
  ·split at h
   ·split at h
    ·rename_i r hr
     cases hp:SV.put _ _ r.1 with
     | none=>rw[hp]at h;cases h
     | some c =>
      rw[hp]at h;cases h;cases hs;exact⟨_,_,rowIn_ok hr⟩
    ·cases h
   ·cases h
  ·cases h
 ·split at h
  ·split at h
   ·cases h;cases hs
   ·cases h
  ·cases h
 ·split at h
  ·split at h
   ·cases h;cases hs
   ·cases h
  ·cases h
 ·split at h
  ·split at h
   ·split at h
    ·cases h;cases hs
    ·cases h
   ·cases h
  ·cases h
 ·split at h
  ·split at h
   ·split at h
    ·split at h
     ·cases h;cases hs
     ·cases h
    ·cases h
   ·cases h
  ·split at h
   ·split at h
    ·cases h;cases hs
    ·cases h
   ·cases h
 ·split at h
  ·split at h
   ·cases h;cases hs
   ·cases h
  ·cases h
 ·cases h
theorem effAt_st{gs:Option SV}(h:effAt E N nx gs lk M o=some (e,p)):∀ g c,e.st=some (g,c)->∃ y T,(g,y,T)∈M:=by
 intro g c hs;unfold effAt at h
 split at h
 ·exact eff_st h g c hs
 ·split at h
  ·split at h
   ·exact eff_st h g c hs
   ·split at h
    ·split at h
     ·cases h
      cases hs
     ·cases h
    ·cases h
     cases hs
  ·split at h
   ·split at h
    ·cases h
     cases hs
    ·cases h
   ·cases h
  ·cases h
theorem effAt_ok{gs:Option SV}{ops:Array Oper}(G:E.Good γ0 w0)(hA:Agree E γ0 γ)(hb:E.base<=nx)(hk:Holds γ nx lk a)(hM:Lies γ nx M w)(hB:Below w0.heap.size w0 w)(hg:∀ j b x,o.guard=some (j,b)->gs=some x->∃ d,(ops[j]?).bind (·.dst)=some d/\lk d=some x)
  (h:effAt E N nx gs lk M o=some (e,p)) (hp:All p) (hR:e.R.length<=8) (hK:∀ δ v w',(∀ g,g<nx->δ g=γ g)->OutE nx γ δ M e v w w'->K (a.put o.dst v) w'):if Region.wanted o (yielded ops a.tmps)=true then o.wp E.P a w K X else K (a.put o.dst undef) w:=by
 have go:Region.wanted o (yielded ops a.tmps)=true->o.wp E.P a w K X->if Region.wanted o (yielded ops a.tmps)=true then o.wp E.P a w K X else K (a.put o.dst undef) w:=fun h1 h2=>by rw[if_pos h1];exact h2
 have no:Region.wanted o (yielded ops a.tmps)=false->K (a.put o.dst undef) w->if Region.wanted o (yielded ops a.tmps)=true then o.wp E.P a w K X else K (a.put o.dst undef) w:=fun h1 h2=>by rw[if_neg (by rw[h1];simp)];exact h2
 unfold effAt at h
 split at h
 ·rename_i hgd
  exact go (by unfold Region.wanted;rw[hgd]) (effGo_ok G hA hb hk hM hB h hp hR hK)
 ·rename_i j b hgd
  split at h
  ·rename_i t
   obtain⟨d',he,hl⟩:=hg j b _ hgd rfl;have hv:=(hk _ _ hl).1
   split at h
   ·rename_i htb
    subst htb;exact go (wanted_of hgd he hv) (effGo_ok G hA hb hk hM hB h hp hR hK)
   ·rename_i htb
    have hw:=unwanted_of hgd he hv (by cases t <;> cases b <;> first | rfl | exact absurd rfl htb)
    split at h
    ·split at h
     ·cases h
      exact no hw (hK γ _ _ (fun _ _=>rfl) ⟨fun t y h=>(by cases h),fun q hq=>(by cases hq),.nil,fun _=>Below.refl _ _,fun g c h=>(by cases h)⟩)
     ·cases h
    ·cases h
     exact no hw (hK γ _ _ (fun _ _=>rfl) ⟨fun t y h=>(by cases h),fun q hq=>(by cases hq),.nil,fun _=>Below.refl _ _,fun g c h=>(by cases h)⟩)
  ·rename_i gx _
   obtain⟨d',he,hl⟩:=hg j b _ hgd rfl;have hv:=(hk _ _ hl).1
   split at h
   ·rename_i e' d x p' hge hx
    have hw:=wanted_eff hgd he hv hge
    split at h
    ·rename_i hlt
     cases h;have hp1:e'=true->All p':=underG_ok fun q hq=>hp q (List.mem_append_left _ hq);have hp2:All (condG e' lk (tmpsOf o)):=fun q hq=>hp q (List.mem_append_right _ hq);cases e' with
     | true =>
      have hk':Holds γ nx (lkG lk (tmpsOf o)) a:=fun u y hy=>by
       obtain⟨z,h1,h2,h3,h4⟩:=lkG_ok (γ:=γ) (n:=nx) hy hp2 rfl;have:=hk u z h1;exact⟨this.1.trans h4,h2 this.2.1,h3 this.2.2⟩
      refine go hw (effGo_ok G hA hb hk' hM hB hx (hp1 rfl) (Nat.zero_le _) fun δ v w' hδ hO=>hK δ v w' hδ ⟨fun u y h=>?_,fun q hq=>(by cases hq),.nil,fun _=>hO.n rfl,fun g c h=>(by cases h)⟩);cases h;have q:=hO.d d x rfl;exact⟨q.1,fun _=>q.2.1,hlt⟩
     | false =>
      refine no hw (hK γ _ _ (fun _ _=>rfl) ⟨fun u y h=>?_,fun q hq=>(by cases hq),.nil,fun _=>Below.refl _ _,fun g c h=>(by cases h)⟩);cases h;exact⟨rfl,fun h=>(by cases h),hlt⟩
    ·cases h
   ·cases h
  ·cases h
end
end Go.Proofs.Ytcmgphkjchicbaa.Sy
