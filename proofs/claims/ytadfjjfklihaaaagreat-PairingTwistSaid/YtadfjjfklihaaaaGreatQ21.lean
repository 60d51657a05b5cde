/- Regions that draw their order, whole: in whatever order, all comes to the same. No program is named here. (Cut to what is reached, written closely: SyI · SyJ.) -/
import Derived.Test.YtadfjjfklihaaaaGreatQ20
set_option linter.all false
set_option maxRecDepth 100000
set_option maxHeartbeats 8000000
namespace Go.Proofs.YtadfjjfklihaaaaGreat.Sy
open Go.RowKit
section
variable {E:Env} {γ0 γ γs δ:Pl} {N nx:Nat} {w0 ws w w' wx:World} {s:St} {a a0:Act} {o:Oper} {l:List Oper} {es:List Ef} {D D':Nat->Bool} {lk:Nat->Option SV} {M:Rows} {e:Ef} {p:List Ob} {P:Program} {K:Act->World->Prop} {X:Exit->Act->World->Prop}
theorem ow_value{v:Value}(hr:(execOp a.eval o).run P w=.ok (.value v) w')(h:K (a.put o.dst v) w'):o.wp P a w K X:=by
 unfold Oper.wp;rw[hr];exact h
theorem ow_unit(hr:(execOp a.eval o).run P w=.ok .skip w')(h:K (a.put o.dst undef) w'):o.wp P a w K X:=by
 unfold Oper.wp;rw[hr];exact h
theorem ow_made{f:FuncId}{args:Array Value}{Z:Ending->World->Prop}(hr:(execOp a.eval o).run P w=.ok (.enter f args) w)
  (hc:Calls P f args w Z) (h:∀ e w',Z e w'->∃ v,e=.returned v/\K (a.put o.dst v) w'):o.wp P a w K X:=by
 unfold Oper.wp;rw[hr];refine Calls.mono hc ?_;intro e w' hz;obtain⟨v,rfl,hh⟩:=h e w' hz;exact hh
structure OutE (nx:Nat) (γ δ:Pl) (M:Rows) (e:Ef) (v:Value) (w w':World):Prop where
 d:∀ t x,e.d=some (t,some x)->v=x.val δ/\x.ok/\x.lt (nx+8)=true
 R:∀ q∈e.R,q.2.1.ok/\q.2.1.lt (nx+8)=true/\nx<=q.1/\q.1<nx+8/\w.heap.size<=δ q.1/\w'.heap[δ q.1]?=some (.cells (q.2.1.cells δ).toArray q.2.2 (0,0))
 P:e.R.Pairwise fun p q=>δ p.1≠δ q.1
 n:e.st=none->Below w.heap.size w w'
 s:∀ g c,e.st=some (g,c)->e.R=[]/\c.ok/\c.lt nx=true/\(∃ y T,(g,y,T)∈M)/\w'=w.setRow (γ g) (c.cells γ).toArray
theorem OutE.val{d:Nat}{x:SV}(ho:x.ok)(hl:x.lt (nx+8)=true)(hb:Below w.heap.size w w'):OutE nx γ γ M ⟨some (d,some x),[],none⟩ (x.val γ) w w' :=
 ⟨fun t y h=>by cases h;exact⟨rfl,ho,hl⟩,fun q hq=>(by cases hq),.nil,fun _=>hb,fun g c h=>(by cases h)⟩
theorem OutE.one{d:Nat}{x y:SV}{T:TypeId}(hδ:∀ k,δ k=if k=nx then w.heap.size else γ k)(ho:x.ok)(hl:x.lt (nx+1)=true)(hy:y.ok)(hly:y.lt nx=true):OutE nx γ δ M ⟨some (d,some x),[(nx,y,T)],none⟩ (x.val δ) w (w.alloc (.cells (y.cells γ).toArray T)):=by
 have e:∀ k,k<nx->γ k=δ k:=fun k hk=>by rw[hδ,if_neg (by omega)]
 refine⟨fun t z h=>by cases h;exact⟨rfl,ho,SV.lt_mono (by omega) hl⟩,fun q hq=>?_,List.pairwise_singleton _ _,fun _=>(Below.refl _ _).alloc (Nat.le_refl _) _,fun g c h=>(by cases h)⟩;simp only[List.mem_cons,List.not_mem_nil,or_false]at hq;subst hq;refine⟨hy,SV.lt_mono (by omega) hly,Nat.le_refl _,by omega,by rw[hδ,if_pos rfl];exact Nat.le_refl _,?_⟩;show(w.alloc _).heap[δ nx]?=some (.cells (y.cells δ).toArray T (0,0));rw[hδ,if_pos rfl,<- (SV.lt_same e hly).2.1];exact heap_alloc_new _ _
theorem mkEf_d{d:Nat}{op:Op}(h:mkEf E N nx d lk M op=some (e,p)):e.st=none/\∀ t y,e.d=some (t,y)->d=t/\t<N:=by
 unfold mkEf at h
 split at h
 ·split at h
  ·rename_i hN
   cases h;exact⟨rfl,fun t y hd=>by cases hd;exact⟨rfl,hN⟩⟩
  ·cases h
 ·cases h
theorem eff_d(h:effGo E N nx lk M o=some (e,p)):∀ t y,e.d=some (t,y)->o.dst=some t/\t<N:=by
 intro t y hd;obtain⟨op,ho⟩:∃ op,o.op=op:=⟨_,rfl⟩
 obtain⟨dst,hdst⟩:∃ d,o.dst=d:=⟨_,rfl⟩
 unfold effGo at h;rw[ho,hdst]at h;rw[hdst]
 split at h
 ·split at h
  ·split at h
   ·split at h
    ·rename_i r _
     cases hp:SV.put _ _ r.1 with
     | none=>rw[hp]at h;cases h
     | some c=>rw[hp]at h;cases h;cases hd
    ·cases h
   ·cases h
  ·cases h
 ·split at h
  ·split at h
   ·rename_i hN
    cases h;cases hd;exact⟨rfl,hN⟩
   ·cases h
  ·cases h
 ·split at h
  ·split at h
   ·rename_i hN
    cases h;cases hd;exact⟨rfl,hN.1⟩
   ·cases h
  ·cases h
 ·split at h
  ·split at h
   ·rename_i hN
    split at h
    ·cases h;cases hd;exact⟨rfl,hN.1⟩
    ·cases h
   ·cases h
  ·cases h
 ·split at h
  ·split at h
   ·split at h
    ·split at h
     ·rename_i hN
      cases h;cases hd;exact⟨rfl,hN⟩
     ·cases h
    ·cases h
   ·cases h
  ·split at h
   ·split at h
    ·rename_i hN
     cases h;cases hd;exact⟨rfl,hN⟩
    ·cases h
   ·have q:=(mkEf_d h).2 t y hd
    exact⟨congrArg some q.1,q.2⟩
 ·split at h
  ·split at h
   ·rename_i hN
    cases h;cases hd;exact⟨rfl,hN⟩
   ·cases h
  ·have q:=(mkEf_d h).2 t y hd
   exact⟨congrArg some q.1,q.2⟩
 ·cases h
theorem effGo_ok(G:E.Good γ0 w0)(hA:Agree E γ0 γ)(hb:E.base<=nx)(hk:Holds γ nx lk a)(hM:Lies γ nx M w)(hB:Below w0.heap.size w0 w)(h:effGo E N nx lk M o=some (e,p))(hp:All p)(hR:e.R.length<=8)
  (hK:∀ δ v w',(∀ g,g<nx->δ g=γ g)->OutE nx γ δ M e v w w'->K (a.put o.dst v) w'):o.wp E.P a w K X:=by
 obtain⟨op,ho⟩:∃ op,o.op=op:=⟨_,rfl⟩
 obtain⟨dst,hd⟩:∃ d,o.dst=d:=⟨_,rfl⟩
 have value:∀ {d:Nat} {r:SV} {p:List Ob},opVal E lk M o.op=some (r,p)->All p->e=⟨some (d,some r),[],none⟩->o.wp E.P a w K X:=fun hr hp he=>by
  have q:=opVal_ok G hA hb hk hM hB hr hp;exact ow_value q.1 (hK γ _ w (fun _ _=>rfl) (by rw[he];exact OutE.val q.2.1 (SV.lt_mono (Nat.le_add_right _ _) q.2.2) (Below.refl _ _)))
 have makes:∀ {d:Nat} {op:Op},mkEf E N nx d lk M op=some (e,p)->o.op=op->o.wp E.P a w K X:=fun {d op} hm ho=>by
  unfold mkEf at hm
  split at hm
  ·rename_i r p' R' hr
   split at hm
   ·cases hm
    have g:=G.mkr _ _ _ _ _ _ _ hr hp hb (fun t x ht=>(hk t x ht).2) (fun r hr=>⟨(hM r hr).2.1,(hM r hr).2.2⟩);have hR':R'.length<=8:=hR;obtain⟨v,w',h0,⟨δ,h1,h2,h3,h4⟩,h5⟩:=g.2.2.2 γ a o w ho hk hM;have ev:v=r.val δ:=by injection h2
    subst ev;refine ow_value h0 (hK δ _ _ h1 ⟨fun t x hx=>?_,fun q hq=>?_,h4,fun _=>h5,fun g c h=>(by cases h)⟩)
    ·cases hx
     exact⟨rfl,g.1,SV.lt_mono (by omega) g.2.1⟩
    ·have:=g.2.2.1 q hq
     have h6:=h3 q hq;exact⟨this.1,SV.lt_mono (by omega) this.2.1,this.2.2.1,by omega,h6⟩
   ·cases hm
  ·cases hm
 unfold effGo at h;rw[ho,hd]at h
 split at h
 ·rename_i T x y
  split at h
  ·rename_i g off j z v ty hx1 hy1 ht
   split at h
   ·rename_i hh
    obtain⟨rfl,hv,hz⟩:=hh
    split at h
    ·rename_i r hr
     cases hput:SV.put v off r.1 with
     | none=>rw[hput]at h;cases h
     | some c =>
      rw[hput]at h;cases h;have q1:=opnd_ok hk hx1;have q2:=opnd_ok hk hy1;have tg:=(G.tys _ (tyIn_ok ht).1).sz;rw[(tyIn_ok ht).2,<- hz]at tg;have hm:=hM _ (rowIn_ok hr);have hst:=store_ok (P:=E.P) hm.1 tg hput hv;have pk:=SV.put_ok γ hput;refine ow_unit (w':=w.setRow (γ g) (c.cells γ).toArray) ?_ (hK γ _ _ (fun _ _=>rfl) ⟨fun t y h=>(by cases h),fun q hq=>(by cases hq),.nil,fun h=>(by cases h),fun g' c' h=>?_⟩)
      ·unfold execOp
       rw[ho];have e:a.eval x=.pointer (some ⟨γ g,off,none⟩):=by
        rw[q1.1];show Value.pointer (some ⟨γ g,off+j*0,none⟩)=_;rw[Nat.mul_zero,Nat.add_zero]
       simp only[e,q2.1,Sem.run_bind,hst,Result.andThen_ok,Sem.run_pure]
      ·cases h
       exact⟨rfl,pk.ok hm.2.1 q2.2.1,pk.lt _ hm.2.2 q2.2.2,⟨_,_,rowIn_ok hr⟩,rfl⟩
    ·cases h
   ·cases h
  ·cases h
 ·rename_i T d
  split at h
  ·rename_i ty ht
   split at h
   ·cases h
    have tg:=G.tys _ (tyIn_ok ht).1;obtain⟨δ,hδ⟩:∃ δ:Pl,∀ k,δ k=if k=nx then w.heap.size else γ k:=⟨_,fun _=>rfl⟩
    have hz:=tg.zero;rw[(tyIn_ok ht).2,(SV.lt_same (γ:=fun _=>0) (δ:=γ) (n:=0) (fun k hk=>absurd hk (Nat.not_lt_zero _)) tg.zlt).2.1]at hz;refine ow_value (v:=.pointer (some ⟨w.heap.size,0,none⟩)) (w':=w.alloc (.cells (ty.zero.cells γ).toArray T)) ?_ (hK δ _ _ (fun k hk=>by rw[hδ,if_neg (by omega)]) ?_)
    ·unfold execOp
     rw[ho];cases hi:E.P.info? T with
     | none=>rw[hi]at hz;cases hz
     | some it =>
      rw[hi]at hz;cases hzz:it.zero with
      | none=>rw[Option.bind_some,hzz]at hz;cases hz
      | some zv =>
       rw[Option.bind_some,hzz]at hz;have hz':zv.cells=(ty.zero.cells γ).toArray:=Option.some.inj hz;simp[Instr.alloc,zeroValue,typeInfo,hi,hzz,newVar,newRow,hz']
    ·have:=OutE.one (M:=M) (d:=d) (x:=.p nx 0 0 0) (T:=T) hδ trivial (decide_eq_true (Nat.lt_succ_self _)) tg.zok (SV.lt_mono (Nat.zero_le _) tg.zlt)
     have q:(SV.p nx 0 0 0).val δ=.pointer (some ⟨w.heap.size,0,none⟩):=by
      show Value.pointer (some ⟨δ nx,0+0*0,none⟩)=_;rw[hδ,if_pos rfl]
     rwa [q]at this
   ·cases h
  ·cases h
 ·rename_i T x d
  split at h
  ·rename_i v hv
   split at h
   ·rename_i hh
    cases h;have q:=opnd_ok hk hv;obtain⟨δ,hδ⟩:∃ δ:Pl,∀ k,δ k=if k=nx then w.heap.size else γ k:=⟨_,fun _=>rfl⟩
    refine ow_value (v:=.pointer (some ⟨w.heap.size,0,none⟩)) (w':=w.alloc (.cells (v.cells γ).toArray T)) (run_box ho q.1 ?_) (hK δ _ _ (fun k hk=>by rw[hδ,if_neg (by omega)]) ?_)
    ·rcases SV.plain_any hh.2 with h1 | h1
     ·rw[SV.val_one h1,cells_one (SV.one_cell h1)]
     ·rw[SV.val_many h1]
      rfl
    ·have:=OutE.one (M:=M) (d:=d) (x:=.p nx 0 0 0) (T:=T) hδ trivial (decide_eq_true (Nat.lt_succ_self _)) q.2.1 q.2.2
     have q:(SV.p nx 0 0 0).val δ=.pointer (some ⟨w.heap.size,0,none⟩):=by
      show Value.pointer (some ⟨δ nx,0+0*0,none⟩)=_;rw[hδ,if_pos rfl]
     rwa [q]at this
   ·cases h
  ·cases h
 ·rename_i T n parts d
  split at h
  ·rename_i b l hb' hl
   split at h
   ·rename_i hc
    split at h
    ·rename_i r hr
     cases h;obtain⟨hbm,hbT,hbn⟩:=bsIn_ok hb';have bg:=G.bss _ hbm;have q:=partsOf_ok hk hl;have hall:=List.all_eq_true.1 hc.2;have hfo:=fillS_okay hr q.2 bg.ok (SV.lt_mono (Nat.zero_le _) bg.lt);obtain⟨δ,hδ⟩:∃ δ:Pl,∀ k,δ k=if k=nx then w.heap.size else γ k:=⟨_,fun _=>rfl⟩
     refine ow_value (v:=.slice (some ⟨w.heap.size,0,none⟩) n n) (w':=w.alloc (.cells (r.cells γ).toArray b.e)) ?_ (hK δ _ _ (fun k hk=>by rw[hδ,if_neg (by omega)]) ?_)
     ·have hfill:=fill_ok (γ:=γ) hr (fun x hx=>by have:=hall x hx;rw[Bool.and_eq_true]at this;exact this.2)
      have hz:=bg.z;rw[(SV.lt_same (γ:=fun _=>0) (δ:=γ) (n:=0) (fun k hk=>absurd hk (Nat.not_lt_zero _)) bg.lt).2.1]at hz;have hu:=bg.u;rw[hbT]at hu;have hfew:=of_decide_eq_false bg.few;have hpos:=of_decide_eq_false bg.pos;rw[hbn]at hz hfew hpos;cases hi:E.P.info? b.e with
      | none=>rw[hi]at hz;cases hz
      | some it =>
       have hs:=bg.i;rw[hi]at hz hs;have hs':it.size=b.sz:=Option.some.inj hs;cases hzz:it.zero with
       | none=>rw[Option.bind_some,hzz]at hz;cases hz
       | some zv =>
        rw[Option.bind_some,hzz]at hz;have hz':(Array.range (n*b.sz)).map (zv.cells[·%zv.cells.size]!)=(b.zs.cells γ).toArray:=Option.some.inj hz;have hfc:Instr.fill (fun i=>some (i*b.sz,b.sz)) (b.zs.cells γ).toArray (l.map fun x=>(x.1,x.2.val γ))=some (r.cells γ).toArray:=by
         rw[<- hfill];refine fill_congr fun x hx=>?_;obtain⟨y,hy,rfl⟩:=List.mem_map.1 hx;have hlt:y.1<n:=by
          have:=hall y hy;rw[Bool.and_eq_true]at this;exact of_decide_eq_true this.1
         simp[hlt]
        unfold execOp;rw[ho];have hrun:(Instr.buildSlice T n (parts.map fun(x:Nat × Operand)=>(x.1,a.eval x.2))).run E.P w=.ok (.slice (some ⟨w.heap.size,0,none⟩) n n) (w.alloc (.cells (r.cells γ).toArray b.e)):=by
         simp[Instr.buildSlice,run_underlying hu,sizeOf,typeInfo,hi,hs',hfew,hpos,zeroValue,hzz,hz',q.1,hfc,newRow]
        show(do let v <- Instr.buildSlice T n (parts.map fun(x:Nat × Operand)=>(x.1,a.eval x.2));pure (.value v):Sem Next).run E.P w=_;rw[Sem.run_bind,hrun,Result.andThen_ok,Sem.run_pure]
     ·have:=OutE.one (M:=M) (d:=d) (x:=.s nx 0 n n) (T:=b.e) hδ trivial (decide_eq_true (Nat.lt_succ_self _)) hfo.1 hfo.2
      have q:(SV.s nx 0 n n).val δ=.slice (some ⟨w.heap.size,0,none⟩) n n:=by
       show Value.slice (some ⟨δ nx,0,none⟩) n n=_;rw[hδ,if_pos rfl]
      rwa [q]at this
    ·cases h
   ·cases h
  ·cases h
 ·rename_i c d
  split at h
  ·split at h
   ·rename_i f l hl
    split at h
    ·rename_i r p' R' hr
     split at h
     ·cases h
      have q:=callX_ok hk ho hl;have g:=G.ctr _ _ _ _ _ _ _ hr hp hb q.2 (fun r hr=>⟨(hM r hr).2.1,(hM r hr).2.2⟩);have hR':R'.length<=8:=hR;refine ow_made (Z:=Made γ nx r R' w) ((congrArg (fun m=>Sem.run E.P m w) q.1).trans (g.2.2.2.1 _ _)) ?_ fun e w' hz=>?_
      ·exact g.2.2.2.2 γ hA w hB hM
      ·obtain⟨⟨δ,h1,h2,h3,h4⟩,h5⟩:=hz
       refine⟨_,h2,hK δ _ _ h1 ⟨fun t x hx=>?_,fun q hq=>?_,h4,fun _=>h5,fun g c h=>(by cases h)⟩⟩
       ·cases hx
        exact⟨rfl,g.1,SV.lt_mono (by omega) g.2.1⟩
       ·have:=g.2.2.1 q hq
        have h6:=h3 q hq;exact⟨this.1,SV.lt_mono (by omega) this.2.1,this.2.2.1,by omega,h6⟩
     ·cases h
    ·cases h
   ·cases h
  ·split at h
   ·rename_i r p' hr
    split at h
    ·cases h
     exact value (by rw[ho];exact hr) hp rfl
    ·cases h
   ·exact makes h (by rw[ho])
 ·rename_i op' d _ _ _ _ _
  split at h
  ·rename_i r p' hr
   split at h
   ·cases h
    exact value (by rw[ho];exact hr) hp rfl
   ·cases h
  ·exact makes h (by rw[ho])
 ·cases h
theorem effAt_d{gs:Option SV}(h:effAt E N nx gs lk M o=some (e,p)):∀ t y,e.d=some (t,y)->o.dst=some t/\t<N:=by
 intro t y hd;unfold effAt at h
 split at h
 ·exact eff_d h t y hd
 ·split at h
  ·split at h
   ·exact eff_d h t y hd
   ·split at h
    ·rename_i hdst
     split at h
     ·rename_i hN
      cases h;cases hd;exact⟨hdst,hN⟩
     ·cases h
    ·cases h
     cases hd
  ·split at h
   ·rename_i _ d x p' _ hx
    split at h
    ·cases h
     cases hd;exact eff_d hx _ _ rfl
    ·cases h
   ·cases h
  ·cases h
theorem eff_st(h:effGo E N nx lk M o=some (e,p)):∀ g c,e.st=some (g,c)->∃ y T,(g,y,T)∈M:=by
 intro g c hs;obtain⟨op,ho⟩:∃ op,o.op=op:=⟨_,rfl⟩
 obtain⟨dst,hdst⟩:∃ d,o.dst=d:=⟨_,rfl⟩
 unfold effGo at h;rw[ho,hdst]at h
 split at h
 ·split at h
  ·split at h
   ·split at h
    ·rename_i r hr
     cases hp:SV.put _ _ r.1 with
     | none=>rw[hp]at h;cases h
     | some c =>
      rw[hp]at h;cases h;cases hs;exact⟨_,_,rowIn_ok hr⟩
    ·cases h
   ·cases h
  ·cases h
 ·split at h
  ·split at h
   ·cases h;cases hs
   ·cases h
  ·cases h
 ·split at h
  ·split at h
   ·cases h;cases hs
   ·cases h
  ·cases h
 ·split at h
  ·split at h
   ·split at h
    ·cases h;cases hs
    ·cases h
   ·cases h
  ·cases h
 ·split at h
  ·split at h
   ·split at h
    ·split at h
     ·cases h;cases hs
     ·cases h
    ·cases h
   ·cases h
  ·split at h
   ·split at h
    ·cases h;cases hs
    ·cases h
   ·rw[(mkEf_d h).1]at hs
    cases hs
 ·split at h
  ·split at h
   ·cases h;cases hs
   ·cases h
  ·rw[(mkEf_d h).1]at hs
   cases hs
 ·cases h
theorem effAt_st{gs:Option SV}(h:effAt E N nx gs lk M o=some (e,p)):∀ g c,e.st=some (g,c)->∃ y T,(g,y,T)∈M:=by
 intro g c hs;unfold effAt at h
 split at h
 ·exact eff_st h g c hs
 ·split at h
  ·split at h
   ·exact eff_st h g c hs
   ·split at h
    ·split at h
     ·cases h
      cases hs
     ·cases h
    ·cases h
     cases hs
  ·split at h
   ·split at h
    ·cases h
     cases hs
    ·cases h
   ·cases h
  ·cases h
theorem effAt_ok{gs:Option SV}{ops:Array Oper}(G:E.Good γ0 w0)(hA:Agree E γ0 γ)(hb:E.base<=nx)(hk:Holds γ nx lk a)(hM:Lies γ nx M w)(hB:Below w0.heap.size w0 w)(hg:∀ j b x,o.guard=some (j,b)->gs=some x->∃ d,(ops[j]?).bind (·.dst)=some d/\lk d=some x)
  (h:effAt E N nx gs lk M o=some (e,p)) (hp:All p) (hR:e.R.length<=8) (hK:∀ δ v w',(∀ g,g<nx->δ g=γ g)->OutE nx γ δ M e v w w'->K (a.put o.dst v) w'):if Region.wanted o (yielded ops a.tmps)=true then o.wp E.P a w K X else K (a.put o.dst undef) w:=by
 have go:Region.wanted o (yielded ops a.tmps)=true->o.wp E.P a w K X->if Region.wanted o (yielded ops a.tmps)=true then o.wp E.P a w K X else K (a.put o.dst undef) w:=fun h1 h2=>by rw[if_pos h1];exact h2
 have no:Region.wanted o (yielded ops a.tmps)=false->K (a.put o.dst undef) w->if Region.wanted o (yielded ops a.tmps)=true then o.wp E.P a w K X else K (a.put o.dst undef) w:=fun h1 h2=>by rw[if_neg (by rw[h1];simp)];exact h2
 unfold effAt at h
 split at h
 ·rename_i hgd
  exact go (by unfold Region.wanted;rw[hgd]) (effGo_ok G hA hb hk hM hB h hp hR hK)
 ·rename_i j b hgd
  split at h
  ·rename_i t
   obtain⟨d',he,hl⟩:=hg j b _ hgd rfl;have hv:=(hk _ _ hl).1
   split at h
   ·rename_i htb
    subst htb;exact go (wanted_of hgd he hv) (effGo_ok G hA hb hk hM hB h hp hR hK)
   ·rename_i htb
    have hw:=unwanted_of hgd he hv (by cases t <;> cases b <;> first | rfl | exact absurd rfl htb)
    split at h
    ·split at h
     ·cases h
      exact no hw (hK γ _ _ (fun _ _=>rfl) ⟨fun t y h=>(by cases h),fun q hq=>(by cases hq),.nil,fun _=>Below.refl _ _,fun g c h=>(by cases h)⟩)
     ·cases h
    ·cases h
     exact no hw (hK γ _ _ (fun _ _=>rfl) ⟨fun t y h=>(by cases h),fun q hq=>(by cases hq),.nil,fun _=>Below.refl _ _,fun g c h=>(by cases h)⟩)
  ·rename_i gx _
   obtain⟨d',he,hl⟩:=hg j b _ hgd rfl;have hv:=(hk _ _ hl).1
   split at h
   ·rename_i e' d x p' hge hx
    have hw:=wanted_eff hgd he hv hge
    split at h
    ·rename_i hlt
     cases h;have hp1:e'=true->All p':=underG_ok fun q hq=>hp q (List.mem_append_left _ hq);have hp2:All (condG e' lk (tmpsOf o)):=fun q hq=>hp q (List.mem_append_right _ hq);cases e' with
     | true =>
      have hk':Holds γ nx (lkG lk (tmpsOf o)) a:=fun u y hy=>by
       obtain⟨z,h1,h2,h3,h4⟩:=lkG_ok (γ:=γ) (n:=nx) hy hp2 rfl;have:=hk u z h1;exact⟨this.1.trans h4,h2 this.2.1,h3 this.2.2⟩
      refine go hw (effGo_ok G hA hb hk' hM hB hx (hp1 rfl) (Nat.zero_le _) fun δ v w' hδ hO=>hK δ v w' hδ ⟨fun u y h=>?_,fun q hq=>(by cases hq),.nil,fun _=>hO.n rfl,fun g c h=>(by cases h)⟩);cases h;have q:=hO.d d x rfl;exact⟨q.1,fun _=>q.2.1,hlt⟩
     | false =>
      refine no hw (hK γ _ _ (fun _ _=>rfl) ⟨fun u y h=>?_,fun q hq=>(by cases hq),.nil,fun _=>Below.refl _ _,fun g c h=>(by cases h)⟩);cases h;exact⟨rfl,fun h=>(by cases h),hlt⟩
    ·cases h
   ·cases h
  ·cases h
end
end Go.Proofs.YtadfjjfklihaaaaGreat.Sy
namespace Go.Proofs.YtadfjjfklihaaaaGreat.Sy
open Go.RowKit
structure PassAt (E:Env) (N:Nat) (l:List Oper) (ms:List (Nat × Nat)) (s:St) (es:List Ef) (ps:List Ob) (k:Nat) (o:Oper) (e:Ef):Prop where
 eff:∃ p,effAt E N (s.n+8*k) (gsl l (lkW l (lookN ms k) (es.take k) s.S) o) (lkW l (lookN ms k) (es.take k) s.S) (seenM (lookN ms k) o (lkW l (lookN ms k) (es.take k) s.S) (es.take k) s.M) o=some (e,p)/\∀ q∈p,q∈ps
 ok:okEf s.n l ms (es.take k) s.S s.M k e=true
structure RelD (E:Env) (γ0 γs γ:Pl) (N:Nat) (w0:World) (s:St) (l:List Oper) (es:List Ef) (a0:Act) (D:Nat->Bool) (a:Act) (w:World):Prop where
 old:∀ g,g<s.n->γ g=γs g
 z:a.tmps.size=N
 d:a.defers=[]
 kp:∀ t,(∀(i:Nat) o,l[i]?=some o->D i=true->o.dst≠some t)->a.tmps.getD t undef=a0.tmps.getD t undef
 sl:∀(i:Nat) (e:Ef) t x,es[i]?=some e->D i=true->e.d=some (t,some x)->a.tmps.getD t undef=x.val γ/\x.ok/\x.lt (s.n+8*(i+1))=true
 rk:∀(i:Nat) (e:Ef),es[i]?=some e->D i=true->∀ q∈e.R,q.2.1.ok/\q.2.1.lt (s.n+8*(i+1))=true/\s.n+8*i<=q.1/\q.1<s.n+8*(i+1)
 sk:∀(i:Nat) (e:Ef) g c,es[i]?=some e->D i=true->e.st=some (g,c)->c.ok/\c.lt (s.n+8*i)=true
 b:Below w0.heap.size w0 w
 rows:∀ r∈rowsD D es s.M,w0.heap.size<=γ r.1/\w.heap[γ r.1]?=some (.cells (r.2.1.cells γ).toArray r.2.2 (0,0))
 nd:∀ r∈rowsD D es s.M,∀ q∈rowsD D es s.M,r.1≠q.1->γ r.1≠γ q.1
section
variable {E:Env} {γ0 γ γs δ:Pl} {N nx:Nat} {w0 ws w w' wx:World} {s:St} {a a0:Act} {o:Oper} {l:List Oper} {es:List Ef} {D D':Nat->Bool} {ps:List Ob} {Q:Post} {X:Exit->Act->World->Prop} {k:St->Tr}
theorem passX_ok{ms:List (Nat × Nat)}:∀ {r:List Oper} {es0 es:List Ef} {ps0 ps:List Ob},passX E N l ms s r es0 ps0=some (es,ps)->(∀(i:Nat) e,es0[i]?=some e->es[i]?=some e)/\es.length=es0.length+r.length/\(∀ q∈ps0,q∈ps) /\
  ∀(i:Nat) o,r[i]?=some o->∃ e,es[es0.length+i]?=some e/\PassAt E N l ms s es ps (es0.length+i) o e
 | [],es0,es,ps0,ps,h=>by
  cases h;exact⟨fun _ _ h=>h,rfl,fun _ h=>h,fun i o h=>(by cases h)⟩
 | o::r,es0,es,ps0,ps,h=>by
  unfold passX at h
  split at h
  ·rename_i e p he
   split at h
   ·rename_i hok
    obtain⟨h1,h2,h3,h4⟩:=passX_ok h;have hpre:∀(i:Nat) f,es0[i]?=some f->es[i]?=some f:=fun i f hf=>h1 i f (by rw[List.getElem?_append_left (List.getElem?_eq_some_iff.1 hf).1];exact hf);have htk:es.take es0.length=es0:=by
     apply List.ext_getElem?;intro j;rw[List.getElem?_take]
     split
     ·rename_i hj
      rw[List.getElem?_eq_getElem hj];exact hpre j _ (List.getElem?_eq_getElem hj)
     ·rw[List.getElem?_eq_none (by omega)]
    refine⟨hpre,by rw[h2];simp only[List.length_append,List.length_cons,List.length_nil];omega,fun q hq=>h3 q (List.mem_append_left _ hq),fun i oi hi=>?_⟩;cases i with
    | zero =>
     cases hi;refine⟨e,h1 _ _ (by rw[Nat.add_zero,List.getElem?_append_right (Nat.le_refl _),Nat.sub_self];rfl),?_⟩;rw[Nat.add_zero];exact⟨⟨p,by rw[htk];exact he,fun q hq=>h3 q (List.mem_append_right _ hq)⟩,by rw[htk];exact hok⟩
    | succ i =>
     have:=h4 i oi (by simpa using hi);simp only[List.length_append,List.length_cons,List.length_nil]at this;rw[show es0.length+(i+1)=es0.length+(0+1)+i by omega];exact this
   ·cases h
  ·cases h
theorem pair_all{α:Type}{R:α->α->Prop}(hs:∀ x y,R x y->R y x):∀ {l:List α},l.Pairwise R->∀ x∈l,∀ y∈l,x≠y->R x y
 | [],_,x,hx,_,_,_=>by cases hx
 | z::l,h,x,hx,y,hy,hne=>by
  obtain⟨h1,h2⟩:=List.pairwise_cons.1 h;rcases List.mem_cons.1 hx with ex | hx
  ·rcases List.mem_cons.1 hy with ey | hy
   ·exact absurd (ex.trans ey.symm) hne
   ·rw[ex];exact h1 y hy
  ·rcases List.mem_cons.1 hy with ey | hy
   ·rw[ey];exact hs _ _ (h1 x hx)
   ·exact pair_all hs h2 x hx y hy hne
theorem rows_mem{r:Nat × SV × TypeId}{M:Rows}:r∈rowsD D es M↔∃ c,(r.1,c,r.2.2)∈madeD D 0 es++M/\r.2.1=curD D r.1 0 es c:=by
 unfold rowsD;rw[List.mem_map];refine⟨fun⟨q,hq,e⟩=>?_,fun⟨c,hc,e⟩=>⟨(r.1,c,r.2.2),hc,?_⟩⟩
 ·subst e
  exact⟨q.2.1,hq,rfl⟩
 ·show(r.1,curD D r.1 0 es c,r.2.2)=r
  rw[<- e]
theorem mask_done{ms:List (Nat × Nat)}(hms:ms=masksA l 0 [])(hr:rankB l.toArray (fun i=>i)=true)(hcl:∀(i:Nat) o,l[i]?=some o->D i=true->∀ e∈o.after,Region.binds .any e=true->D e.on=true) :
  ∀(k:Nat) o,l[k]?=some o->(∀ e∈o.after,Region.binds .any e=true->D e.on=true)->∀ j,(lookN ms k).testBit j=true->D j=true/\j<k:=by
 have rank:∀(i:Nat) o,l[i]?=some o->∀ e∈o.after,Region.binds .any e=true->e.on<i:=fun i o ho e he hb=>by
  have hl:=hr;unfold rankB at hl;rw[List.all_eq_true]at hl;have:=hl i (by simpa using(List.getElem?_eq_some_iff.1 ho).1);rw[show l.toArray[i]?=some o by simpa using ho]at this;simp only[Array.all_eq_true_iff_forall_mem]at this;have hlt:=this e he;rw[hb]at hlt;simpa using hlt
 have sp:=masks_spec (l:=l) (i:=0) (acc:=[]) (fun t _=>rfl);intro k
 induction k using Nat.strongRecOn with
 | ind k ih =>
  intro o ho hd j hj;rw[hms,show k=0+k by omega]at hj;obtain⟨e,h1,h2,h3⟩:=sp k o ho j hj;have hon:=rank k o ho e h1 h2;rcases h3 with h3 | h3
  ·rw[h3]
   exact⟨hd e h1 h2,hon⟩
  ·have hlt:e.on<l.length:=Nat.lt_trans hon (List.getElem?_eq_some_iff.1 ho).1
   have:=ih e.on hon l[e.on] (List.getElem?_eq_getElem hlt) (hcl e.on _ (List.getElem?_eq_getElem hlt) (hd e h1 h2)) j (by rw[hms];exact h3);exact⟨this.1,Nat.lt_trans this.2 hon⟩
theorem idOk_out{n0 k i m g:Nat}(h:idOk n0 i m g=true)(hne:i≠k)(hm:m.testBit k=false):¬(n0+8*k<=g/\g<n0+8*(k+1)):=by
 intro hc;have hq:(g - n0) / 8=k:=by omega
 unfold idOk at h;rw[hq,Bool.or_eq_true,Bool.or_eq_true]at h;rcases h with h | h | h
 ·have:=of_decide_eq_true h;omega
 ·exact hne (of_decide_eq_true h).symm
 ·rw[hm]at h;cases h
theorem stepD(G:E.Good γ0 w0){ms:List (Nat × Nat)}(hms:ms=masksA l 0 [])(hdist:distinctB l=true)(hr0:rankB l.toArray (fun i=>i)=true)(hp:All ps)(hlen:es.length=l.length)(hpass:∀(i:Nat) o,l[i]?=some o->∃ e,es[i]?=some e/\PassAt E N l ms s es ps i o e)
  (R0:Rel E γ0 γs N w0 s a0 ws) (hcl:∀(i:Nat) o,l[i]?=some o->D i=true->∀ e∈o.after,Region.binds .any e=true->D e.on=true) {k:Nat} (hk:l[k]?=some o) (hD:D k=false) (hrd:∀ e∈o.after,Region.binds .any e=true->D e.on=true)
  (hD1:D' k=true) (hD2:∀ i,i≠k->D' i=D i) (h:RelD E γ0 γs γ N w0 s l es a0 D a w) {K:Act->World->Prop} (hK:∀ γ' v w',RelD E γ0 γs γ' N w0 s l es a0 D' (a.put o.dst v) w'->K (a.put o.dst v) w') :
  if Region.wanted o (yielded l.toArray a.tmps)=true then o.wp E.P a w K X else K (a.put o.dst undef) w:=by
 obtain⟨e,hek,⟨p,heff,hpp⟩,hok⟩:=hpass k o hk;have hkl:k<es.length:=(List.getElem?_eq_some_iff.1 hek).1;have mk:=mask_done hms hr0 hcl k o hk hrd;have mi:∀(i:Nat) f,es[i]?=some f->D i=true->(lookN ms i).testBit k=false:=fun i f hf hi=>by
  have hil:i<l.length:=hlen ▸ (List.getElem?_eq_some_iff.1 hf).1;cases hb:(lookN ms i).testBit k with
  | false=>rfl
  | true =>
   have:=mask_done hms hr0 hcl i l[i] (List.getElem?_eq_getElem hil) (hcl i _ (List.getElem?_eq_getElem hil) hi) k hb;rw[hD]at this;exact absurd this.1 (by simp)
 have tk:∀(i:Nat),i<k->(es.take k)[i]?=es[i]?:=fun i hi=>List.getElem?_take_of_lt hi;have tkk:∀ {i:Nat} {f:Ef},(es.take k)[i]?=some f->i<k/\es[i]?=some f:=fun {i f} hf=>by
  rw[List.getElem?_take]at hf
  split at hf
  ·rename_i hi;exact⟨hi,hf⟩
  ·cases hf
 have okOf:∀(i:Nat) f,es[i]?=some f->okEf s.n l ms (es.take i) s.S s.M i f=true:=fun i f hf=>by
  have hil:i<l.length:=hlen ▸ (List.getElem?_eq_some_iff.1 hf).1;obtain⟨f',h1,h2⟩:=hpass i l[i] (List.getElem?_eq_getElem hil);rw[hf]at h1;cases h1;exact h2.ok
 -- a later store is not done where one reads
 have later:∀(i:Nat) f g c,k<i->es[i]?=some f->f.st=some (g,c)->(seenM (lookN ms k) o (lkW l (lookN ms k) (es.take k) s.S) (es.take k) s.M).any (fun r=>r.1 == g)=true->D i=false:=fun i f g c hi hf hst hu=>by
  cases hdi:D i with
  | false=>rfl
  | true =>
   have ho:=okOf i f hf;unfold okEf at ho;rw[hst]at ho;simp only[Bool.and_eq_true,List.all_eq_true]at ho;have h1:=ho.2.2.2 k (List.mem_range.2 hi);have hu':usedBy l ms (es.take i) s.S s.M g k=true:=by
    unfold usedBy;rw[hk];dsimp only;rw[List.take_take,Nat.min_eq_left (Nat.le_of_lt hi)];exact hu
   rw[hu',mi i f hf hdi]at h1;cases h1
 have hN0:E.base<=s.n+8*k:=Nat.le_trans R0.base (Nat.le_add_right _ _);have hA:Agree E γ0 γ:=fun g hg=>(h.old g (Nat.lt_of_lt_of_le hg R0.base)).trans (R0.ag g hg);have oldV:∀ {x:SV},x.lt s.n=true->x.val γs=x.val γ/\x.cells γs=x.cells γ:=fun {x} hx=>by
  have:=SV.lt_same (γ:=γs) (δ:=γ) (fun g hg=>(h.old g hg).symm) hx;exact⟨this.2.2,this.2.1⟩
 -- what it reads
 have hH:Holds γ (s.n+8*k) (lkW l (lookN ms k) (es.take k) s.S) a:=fun t x hx=>by
  unfold lkW at hx
  split at hx
  ·rename_i h0
   have:=R0.k t x hx;refine⟨?_,this.2.1,SV.lt_mono (Nat.le_add_right _ _) this.2.2⟩;rw[h.kp t (fun i o' hi _=>dstIx_none h0 i o' hi),this.1,(oldV this.2.2).1]
  ·rename_i j hj
   split at hx
   ·rename_i hb
    obtain⟨f,hf,hfd⟩:=Option.bind_eq_some_iff.1 hx;obtain⟨q,hq,hq2⟩:=Option.bind_eq_some_iff.1 hfd;obtain⟨hjk,hfj⟩:=tkk hf;obtain⟨oj,h1,h2⟩:=dstIx_some hj;obtain⟨f',h3,⟨p',h4,_⟩,_⟩:=hpass j oj h1;rw[hfj]at h3;cases h3;have h5:=(effAt_d h4 q.1 q.2 hq).1;rw[h2]at h5;have h6:q=(t,some x):=by
     cases q;cases h5;cases hq2;rfl
    rw[h6]at hq;have:=h.sl j f t x hfj (mk j hb).1 hq;exact⟨this.1,this.2.1,SV.lt_mono (by omega) this.2.2⟩
   ·cases hx
 have hS:∀ r∈seenM (lookN ms k) o (lkW l (lookN ms k) (es.take k) s.S) (es.take k) s.M,r∈rowsD D es s.M/\r.2.1.ok/\r.2.1.lt (s.n+8*k)=true:=fun r hr=>by
  have hr0:=hr;unfold seenM at hr
  split at hr
  ·rw[List.mem_filter]at hr
   obtain⟨hr1,hst⟩:=hr;obtain⟨c,hc,he⟩:=rows_mem.1 hr1;have hst':=stable_spec ((Bool.and_eq_true _ _).mp hst).1;have hany:(seenM (lookN ms k) o (lkW l (lookN ms k) (es.take k) s.S) (es.take k) s.M).any (fun q=>q.1 == r.1)=true:=List.any_eq_true.2 ⟨r,hr0,by simp⟩;have e1:r.2.1=curD D r.1 0 es c:=by
    rw[he,cur_take];refine cur_ext fun j f q h1 h2 h3=>?_;obtain⟨q1,q2⟩:=q;dsimp only at h3;subst h3;rw[Nat.zero_add];rcases Nat.lt_trichotomy j k with hj | hj | hj
    ·have hb:=hst' j f (r.1,q2) (by rw[tk j hj];exact h1) h2 rfl
     rw[Nat.zero_add]at hb;rw[hb,(mk j hb).1];simp[hj]
    ·subst hj
     rw[hD];simp
    ·rw[later j f r.1 q2 hj h1 h2 hany]
     simp[Nat.not_lt.2 (Nat.le_of_lt hj)]
   have hmem:(r.1,c,r.2.2)∈madeD D 0 es++s.M:=by
    rcases List.mem_append.1 hc with hc | hc
    ·obtain⟨j,f,h1,h2,h3⟩:=made_mem.1 hc
     rw[Nat.zero_add]at h2;exact List.mem_append_left _ (made_mem.2 ⟨j,f,(tkk h1).2,by rw[Nat.zero_add];exact(mk j h2).1,h3⟩)
    ·exact List.mem_append_right _ hc
   have hin:r∈rowsD D es s.M:=rows_mem.2 ⟨c,hmem,e1⟩;refine⟨hin,?_⟩;have hcc:c.ok/\c.lt (s.n+8*k)=true:=by
    rcases List.mem_append.1 hc with hc | hc
    ·obtain⟨j,f,h1,h2,h3⟩:=made_mem.1 hc
     rw[Nat.zero_add]at h2;have:=h.rk j f (tkk h1).2 (mk j h2).1 _ h3;exact⟨this.1,SV.lt_mono (by have:=(tkk h1).1;omega) this.2.1⟩
    ·have:=R0.m _ hc
     exact⟨this.1,SV.lt_mono (Nat.le_add_right _ _) this.2.1⟩
   rcases cur_mem (D:=fun i=>(lookN ms k).testBit i) (g:=r.1) (es:=es.take k) (i:=0) (c:=c)with h1 | ⟨j,f,h1,h2,h3⟩
   ·rw[he,h1]
    exact hcc
   ·rw[<- he]at h3
    rw[Nat.zero_add]at h2;have:=h.sk j f r.1 r.2.1 (tkk h1).2 (mk j h2).1 h3;exact⟨this.1,SV.lt_mono (by have:=(tkk h1).1;omega) this.2⟩
  ·cases hr
 have hL:Lies γ (s.n+8*k) (seenM (lookN ms k) o (lkW l (lookN ms k) (es.take k) s.S) (es.take k) s.M) w:=fun r hr=>⟨(h.rows r (hS r hr).1).2,(hS r hr).2⟩
 have hR8:e.R.length<=8:=by
  have ho:=hok;unfold okEf at ho;simp only[Bool.and_eq_true,decide_eq_true_eq]at ho;exact ho.2.1
 refine effAt_ok (ops:=l.toArray) G hA hN0 hH hL h.b (fun j b x hg hgs=>?_) heff (fun q hq=>hp q (hpp q hq)) hR8 fun δ v w' hδ hO=>?_
 ·unfold gsl at hgs
  rw[hg]at hgs;rw[Option.bind_some]at hgs;obtain⟨d',h1,h2⟩:=Option.bind_eq_some_iff.1 hgs;exact⟨d',by simpa using h1,h2⟩
 -- behind it
 obtain⟨γ',hγ'⟩:∃ γ':Pl,∀ g,γ' g=if s.n+8*k<=g/\g<s.n+8*(k+1)then δ g else γ g:=⟨_,fun _=>rfl⟩
 have same1:∀ g,¬(s.n+8*k<=g/\g<s.n+8*(k+1))->γ g=γ' g:=fun g hg=>by rw[hγ',if_neg hg]
 have same2:∀ g,g<s.n+8*(k+1)->δ g=γ' g:=fun g hg=>by
  rw[hγ']
  split
  ·rfl
  ·exact hδ g (by omega)
 have oldS:∀(i:Nat) f t x,es[i]?=some f->D i=true->f.d=some (t,some x)->x.val γ=x.val γ':=fun i f t x hf hi hd=>by
  have ho:=okOf i f hf;unfold okEf at ho;rw[hd]at ho;simp only[Bool.and_eq_true,List.all_eq_true]at ho;have hne:i≠k:=fun e=>by rw[e,hD]at hi;cases hi
  exact(SV.ids_same fun g hg=>same1 g (idOk_out (ho.1.1 g hg) hne (mi i f hf hi))).2.2
 have oldR:∀ r∈rowsD D es s.M,γ r.1=γ' r.1/\r.2.1.cells γ=r.2.1.cells γ':=fun r hr=>by
  obtain⟨c,hc,he⟩:=rows_mem.1 hr;have hcc:γ r.1=γ' r.1/\∀ g∈c.ids,γ g=γ' g:=by
   rcases List.mem_append.1 hc with hc | hc
   ·obtain⟨j,f,h1,h2,h3⟩:=made_mem.1 hc
    rw[Nat.zero_add]at h2;have hne:j≠k:=fun e=>by rw[e,hD]at h2;cases h2
    have ho:=okOf j f h1;unfold okEf at ho;simp only[Bool.and_eq_true,List.all_eq_true]at ho;have:=h.rk j f h1 h2 _ h3;refine⟨same1 _ (fun hc=>?_),fun g hg=>same1 g (idOk_out (ho.1.2 _ h3 g hg) hne (mi j f h1 h2))⟩;have h5:s.n+8*j<=r.1/\r.1<s.n+8*(j+1):=this.2.2;omega
   ·have:=R0.m _ hc
    have h5:r.1<s.n:=this.2.2;exact⟨same1 _ (by omega),fun g hg=>same1 g (by have:=SV.lt_ids this.2.1 g hg;omega)⟩
  refine⟨hcc.1,(SV.ids_same fun g hg=>?_).2.1⟩;rcases cur_mem (D:=D) (g:=r.1) (es:=es) (i:=0) (c:=c)with h1 | ⟨j,f,h1,h2,h3⟩
  ·rw[he,h1]at hg
   exact hcc.2 g hg
  ·rw[<- he]at h3
   rw[Nat.zero_add]at h2;have ho:=okOf j f h1;unfold okEf at ho;rw[h3]at ho;simp only[Bool.and_eq_true,List.all_eq_true]at ho;have hne:j≠k:=fun e=>by rw[e,hD]at h2;cases h2
   exact same1 g (idOk_out (ho.2.2.1 g hg) hne (mi j f h1 h2))
 have inside:∀ r∈rowsD D es s.M,γ r.1<w.heap.size:=fun r hr=>(Array.getElem?_eq_some_iff.1 (h.rows r hr).2).1;have oneOf:∀ i,D' i=true->i=k\/(i≠k/\D i=true):=fun i hi=>by
  by_cases e:i=k
  ·exact .inl e
  ·exact .inr ⟨e,by rw[<- hD2 i e];exact hi⟩
 -- what the rows are
 have split:∀ r∈rowsD D' es s.M,(r∈e.R/\e.st=none)\/∃ q∈rowsD D es s.M,q.1=r.1/\q.2.2=r.2.2/\((r.2.1=q.2.1/\∀ g c,e.st=some (g,c)->g≠r.1)\/∃ c,e.st=some (r.1,c)/\r.2.1=c):=fun r hr=>by
  obtain⟨c,hc,he⟩:=rows_mem.1 hr;have base:(∃ g c,e.st=some (g,c)/\g=r.1)\/(∀ g c,e.st=some (g,c)->g≠r.1):=by
   cases hs:e.st with
   | none=>exact .inr fun g c h=>(by cases h)
   | some q =>
    by_cases hq:q.1=r.1
    ·exact .inl ⟨q.1,q.2,rfl,hq⟩
    ·exact .inr fun g c h=>(by cases h;exact hq)
  have curS:(∀ g c,e.st=some (g,c)->g≠r.1)->curD D' r.1 0 es c=curD D r.1 0 es c:=fun hn=>cur_ext fun j f q h1 h2 h3=>by
   rw[Nat.zero_add];by_cases ej:j=k
   ·subst ej
    rw[hek]at h1;cases h1;exact absurd h3 (hn q.1 q.2 h2)
   ·exact hD2 j ej
  have curW:∀ c',e.st=some (r.1,c')->curD D' r.1 0 es c=c':=fun c' hs=>cur_last (k:=k) hek hs (by rw[Nat.zero_add];exact hD1) fun j f q hj h1 h2 h3=>by
   rw[Nat.zero_add,hD2 j (by omega)];obtain⟨q1,q2⟩:=q;dsimp only at h3;subst h3;obtain⟨_,_,_,⟨y,T,hm⟩,_⟩:=hO.s _ _ hs;exact later j f r.1 q2 hj h1 h2 (List.any_eq_true.2 ⟨_,hm,by simp⟩)
  have fromD:(r.1,c,r.2.2)∈madeD D 0 es++s.M->∃ q∈rowsD D es s.M,q.1=r.1/\q.2.2=r.2.2/\((r.2.1=q.2.1/\∀ g c,e.st=some (g,c)->g≠r.1)\/∃ c,e.st=some (r.1,c)/\r.2.1=c):=fun hm=>by
   refine⟨(r.1,curD D r.1 0 es c,r.2.2),rows_mem.2 ⟨c,hm,rfl⟩,rfl,rfl,?_⟩;rcases base with⟨g,c',hs,hg⟩ | hn
   ·rw[hg]at hs
    exact .inr ⟨c',hs,by rw[he,curW c' hs]⟩
   ·exact .inl ⟨by rw[he,curS hn],hn⟩
  rcases List.mem_append.1 hc with hc | hc
  ·obtain⟨j,f,h1,h2,h3⟩:=made_mem.1 hc
   rw[Nat.zero_add]at h2;rcases oneOf j h2 with ej | ⟨hj,hDj⟩
   ·rw[ej,hek]at h1
    cases h1;have hs:e.st=none:=by
     cases hs:e.st with
     | none=>rfl
     | some q =>
      have:=(hO.s q.1 q.2 hs).1;rw[this]at h3;cases h3
    -- nobody else lays into it
    have hcur:curD D' r.1 0 es c=c:=by
     rcases cur_mem (D:=D') (g:=r.1) (es:=es) (i:=0) (c:=c)with h4 | ⟨i,f,h4,h5,h6⟩
     ·exact h4
     ·exfalso
      rw[Nat.zero_add]at h5;rcases oneOf i h5 with ei | ⟨hi,hDi⟩
      ·rw[ei,hek]at h4
       cases h4;rw[hs]at h6;cases h6
      ·have hil:i<l.length:=hlen ▸ (List.getElem?_eq_some_iff.1 h4).1
       obtain⟨f',g1,⟨p',g2,_⟩,_⟩:=hpass i l[i] (List.getElem?_eq_getElem hil);rw[h4]at g1;cases g1;obtain⟨y,T,hm⟩:=effAt_st g2 _ _ h6;unfold seenM at hm;have kr:=hO.R _ h3;have k1:s.n+8*k<=r.1:=kr.2.2.1;have k2:r.1<s.n+8*k+8:=kr.2.2.2.1
       split at hm
       ·obtain⟨c2,hc2,_⟩:=rows_mem.1 (List.mem_filter.1 hm).1
        rcases List.mem_append.1 hc2 with hc2 | hc2
        ·obtain⟨j2,f2,u1,u2,u3⟩:=made_mem.1 hc2
         rw[Nat.zero_add]at u2;have u1':es[j2]?=some f2:=by
          rw[List.getElem?_take]at u1
          split at u1
          ·exact u1
          ·cases u1
         have dj:=mask_done hms hr0 hcl i l[i] (List.getElem?_eq_getElem hil) (hcl i _ (List.getElem?_eq_getElem hil) hDi) j2 u2;have rr:=h.rk j2 f2 u1' dj.1 _ u3;have r1:s.n+8*j2<=r.1:=rr.2.2.1;have r2:r.1<s.n+8*(j2+1):=rr.2.2.2;have:j2=k:=by omega
         rw[this,hD]at dj;cases dj.1
        ·have:r.1<s.n:=(R0.m _ hc2).2.2
         omega
       ·cases hm
    exact .inl ⟨by
     have:r=(r.1,c,r.2.2):=by
      rw[hcur]at he;rw[<- he]
     rw[this];exact h3,hs⟩
   ·exact .inr (fromD (List.mem_append_left _ (made_mem.2 ⟨j,f,h1,by rw[Nat.zero_add];exact hDj,h3⟩)))
  ·exact .inr (fromD (List.mem_append_right _ hc))
 have nx8:s.n+8*(k+1)=s.n+8*k+8:=by omega
 have newR:∀ r∈e.R,δ r.1=γ' r.1/\r.2.1.cells δ=r.2.1.cells γ':=fun r hr=>by
  have q:=hO.R r hr;exact⟨same2 _ (by rw[nx8];exact q.2.2.2.1),(SV.lt_same (n:=s.n+8*k+8) (fun g hg=>same2 g (by rw[nx8];exact hg)) q.2.1).2.1⟩
 refine hK γ' v w' ⟨fun g hg=>?_,by rw[put_size];exact h.z,by rw[put_defers];exact h.d,fun t ht=>?_,fun i f t x hf hi hd=>?_,fun i f hf hi q hq=>?_,fun i f g c hf hi hs=>?_,?_,fun r hr=>?_,fun r hr q hq hne=>?_⟩
 ·rw[<- same1 g (by omega)]
  exact h.old g hg
 ·rw[put_other _ _ _ _ (ht k o hk hD1)]
  exact h.kp t fun i o' hi hDi=>ht i o' hi (by
   by_cases e:i=k
   ·rw[e];exact hD1
   ·rw[hD2 i e];exact hDi)
 ·rcases oneOf i hi with rfl | ⟨hne,hDi⟩
  ·rw[hek]at hf
   cases hf;have q:=hO.d t x hd;obtain⟨h1,h2⟩:=effAt_d heff t _ hd;rw[h1];refine⟨?_,q.2.1,by rw[nx8];exact q.2.2⟩;rw[put_same _ _ _ (by rw[h.z];exact h2),q.1];exact(SV.lt_same (n:=s.n+8*i+8) (fun g hg=>same2 g (by rw[nx8];exact hg)) q.2.2).2.2
  ·have q:=h.sl i f t x hf hDi hd
   have hil:i<l.length:=hlen ▸ (List.getElem?_eq_some_iff.1 hf).1;obtain⟨f',g1,⟨p',g2,_⟩,_⟩:=hpass i l[i] (List.getElem?_eq_getElem hil);rw[hf]at g1;cases g1;have hdi:=(effAt_d g2 t _ hd).1;refine⟨?_,q.2⟩;rw[put_other _ _ _ _ (fun c=>distinct_spec hdist k i o l[i] t hk (List.getElem?_eq_getElem hil) (Ne.symm hne) c hdi),q.1];exact oldS i f t x hf hDi hd
 ·rcases oneOf i hi with rfl | ⟨hne,hDi⟩
  ·rw[hek]at hf
   cases hf;have:=hO.R q hq;rw[nx8];exact⟨this.1,this.2.1,this.2.2.1,this.2.2.2.1⟩
  ·exact h.rk i f hf hDi q hq
 ·rcases oneOf i hi with rfl | ⟨hne,hDi⟩
  ·rw[hek]at hf
   cases hf;have:=hO.s g c hs;exact⟨this.2.1,this.2.2.1⟩
  ·exact h.sk i f g c hf hDi hs
 ·cases hs:e.st with
  | none=>exact h.b.trans ((hO.n hs).mono h.b.size)
  | some q =>
   obtain⟨_,_,_,⟨y,T,hm⟩,hw⟩:=hO.s q.1 q.2 hs;rw[hw];exact below_setRow h.b (h.rows _ (hS _ hm).1).1 _
 ·rcases split r hr with⟨hr1,_⟩ | ⟨q,hq,e1,e2,h3⟩
  ·have q:=hO.R r hr1
   have n:=newR r hr1;rw[<- n.1,<- n.2];exact⟨Nat.le_trans h.b.size q.2.2.2.2.1,q.2.2.2.2.2⟩
  ·have hq1:=h.rows q hq
   have ho:=oldR q hq;rw[e1]at hq1 ho;rw[<- ho.1];refine⟨hq1.1,?_⟩;rcases h3 with⟨h4,h5⟩ | ⟨c,h4,h5⟩
   ·rw[h4,<- ho.2,<- e2]
    cases hs:e.st with
    | none=>exact((hO.n hs).block _ (Array.getElem?_eq_some_iff.1 hq1.2).1).trans hq1.2
    | some u =>
     obtain⟨_,_,_,⟨y,T,hm⟩,hw⟩:=hO.s u.1 u.2 hs;rw[hw];have hne:=h5 u.1 u.2 hs;have:=h.nd _ (hS _ hm).1 _ hq (by rw[e1];exact hne);rw[e1]at this;exact(setRow_other _ _ _ _ (Ne.symm this)).trans hq1.2
   ·obtain⟨_,_,hcl',_,hw⟩:=hO.s _ c h4
    rw[hw,h5,<- e2,<- (SV.lt_same (n:=s.n+8*k) (γ:=γ) (δ:=γ') (fun g hg=>same1 g (by omega)) hcl').2.1];exact setRow_heap _ _ _ _ _ _ hq1.2
 ·rcases split r hr with⟨hr1,_⟩ | ⟨r2,hr2,e1,_,_⟩
  ·rcases split q hq with⟨hq1,_⟩ | ⟨q2,hq2,f1,_,_⟩
   ·rw[<- (newR r hr1).1,<- (newR q hq1).1]
    exact pair_all (fun _ _ h=>Ne.symm h) hO.P r hr1 q hq1 fun c=>hne (by rw[c])
   ·have a1:=(hO.R r hr1).2.2.2.2.1
    have a2:=inside q2 hq2;rw[<- (newR r hr1).1,<- f1,<- (oldR q2 hq2).1];omega
  ·rcases split q hq with⟨hq1,_⟩ | ⟨q2,hq2,f1,_,_⟩
   ·have a1:=(hO.R q hq1).2.2.2.2.1
    have a2:=inside r2 hr2;rw[<- (newR q hq1).1,<- e1,<- (oldR r2 hr2).1];omega
   ·rw[<- e1,<- f1,<- (oldR r2 hr2).1,<- (oldR q2 hq2).1]
    exact h.nd r2 hr2 q2 hq2 (by rw[e1,f1];exact hne)
end
end Go.Proofs.YtadfjjfklihaaaaGreat.Sy
