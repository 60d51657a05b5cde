/- Regions in the text's order, whose operations read, reckon, and call functions that make memory: XQ's laws serve them too. No program is named here. (Cut to what is reached, written closely: SyX · SyG · SyI · SyJ · SyK · SyF · SyW · FPin · FNeg · FMdl · QL.) -/
import Derived.Test.YtfmpjjhdocejiaaGreatL5
import Derived.Deep.LoopGhost
import Derived.Test.YtfmpjjhdocejiaaGreatL1
set_option linter.all false
set_option maxRecDepth 100000
set_option maxHeartbeats 8000000
namespace Go.Proofs.YtfmpjjhdocejiaaGreat.Sy
open Go.RowKit
section
variable {E:Env} {n:Nat} {γ0 γ:Pl} {N:Nat} {w0 w w':World} {s:St} {a:Act} {o:Oper} {x:SV} {k:St->Tr} {Q:Post} {ops:Array Oper} {rest:List Oper} {X:Exit->Act->World->Prop} {P:Program}
def Okay(n:Nat)(lk:Nat->Option SV):Prop:=∀ t x,lk t=some x->x.ok/\x.lt n=true
theorem opnd_okay{lk:Nat->Option SV}{x:Operand}{u:SV}(hk:Okay n lk)(h:opnd lk x=some u):u.ok/\u.lt n=true:=by
 cases x with
 | tmp t=>exact hk t u h
 | const v=>cases h;exact(constS_ok (fun _=>0) n v).2
 | func f=>cases h;exact⟨trivial,rfl⟩
 | global g=>cases h
theorem opnds_okay{lk:Nat->Option SV}(hk:Okay n lk):∀ {l:List Operand} {us:List SV},opnds lk l=some us->∀ u∈us,u.ok/\u.lt n=true
 | [],us,h=>by cases h;exact fun u hu=>(by cases hu)
 | x::l,us,h=>by
  unfold opnds at h
  split at h
  ·rename_i u r hu hr
   cases h;intro v hv;rcases List.mem_cons.1 hv with rfl | hv
   ·exact opnd_okay hk hu
   ·exact opnds_okay hk hr v hv
  ·cases h
theorem parts_okay{lk:Nat->Option SV}(hk:Okay n lk):∀ {l:List (Nat × Operand)} {us:List (Nat × SV)},partsOf lk l=some us->∀ u∈us,u.2.ok/\u.2.lt n=true
 | [],us,h=>by cases h;exact fun u hu=>(by cases hu)
 | x::l,us,h=>by
  unfold partsOf at h
  split at h
  ·rename_i u r hu hr
   cases h;intro v hv;rcases List.mem_cons.1 hv with rfl | hv
   ·exact opnd_okay hk hu
   ·exact parts_okay hk hr v hv
  ·cases h
theorem fillS_okay{fs:List (Nat × Nat)}:∀ {l:List (Nat × SV)} {z r:SV},fillS fs z l=some r->(∀ x∈l,x.2.ok/\x.2.lt n=true)->z.ok->z.lt n=true->r.ok/\r.lt n=true
 | [],z,r,h,_,h1,h2=>by cases h;exact⟨h1,h2⟩
 | (i,x)::l,z,r,h,hl,h1,h2=>by
  unfold fillS at h
  split at h
  ·split at h
   ·split at h
    ·rename_i z' hz
     have q:=SV.put_ok (fun _=>0) hz;have hx:=hl _ (.head _);exact fillS_okay h (fun y hy=>hl y (.tail _ hy)) (q.ok h1 hx.1) (q.lt _ h2 hx.2)
    ·cases h
   ·cases h
  ·cases h
theorem opVal_okay(G:E.Good γ0 w0)(hb:E.base<=n){lk:Nat->Option SV}{M:Rows}{op:Op}{r:SV}{p:List Ob}(hk:Okay n lk)(hM:∀ r∈M,r.2.1.ok/\r.2.1.lt n=true)(h:opVal E lk M op=some (r,p))(hp:All p):r.ok/\r.lt n=true:=by
 cases op with
 | move x=>exact opnd_okay hk (map_nil h)
 | assign x=>exact opnd_okay hk (map_nil h)
 | pick c x y =>
  dsimp only[opVal]at h
  split at h
  ·exact opnd_okay hk (map_nil h)
  ·exact opnd_okay hk (map_nil h)
  ·split at h
   ·cases h
    exact⟨trivial,rfl⟩
   ·cases h
  ·cases h
 | load T x =>
  dsimp only[opVal]at h
  split at h
  ·split at h
   ·rename_i hr
    split at h
    ·have pt:=SV.sub_ok (fun _=>0) (map_nil h)
     have hm:=hM _ (rowIn_ok hr);exact⟨pt.ok hm.1,pt.lt _ hm.2⟩
    ·cases h
   ·have hx':=G.xld _ _ _ _ _ _ _ h hp
    exact⟨hx'.1,SV.lt_mono hb hx'.2.1⟩
  ·cases h
 | build T parts =>
  dsimp only[opVal]at h
  split at h
  ·rename_i l hl
   have q:=parts_okay hk hl
   split at h
   ·rename_i y hy
    split at h
    ·have hb':=G.bld _ _ _ (map_nil h) (fun x hx=>(q x hx).1)
     exact⟨hb'.1,SV.lt_mono (Nat.zero_le _) hb'.2.1⟩
    ·split at h
     ·split at h
      ·rename_i rr hf
       split at h
       ·cases h
        have ty:=G.tys _ (tyIn_ok hy).1;exact fillS_okay hf q ty.zok (SV.lt_mono (Nat.zero_le _) ty.zlt)
       ·cases h
      ·cases h
     ·cases h
   ·cases h
  ·cases h
 | fieldAddr T x i =>
  dsimp only[opVal]at h
  split at h
  ·rename_i hx _
   split at h
   ·split at h
    ·cases h
    ·cases h
     exact⟨trivial,(opnd_okay hk hx).2⟩
   ·cases h
  ·cases h
 | extract x i =>
  dsimp only[opVal]at h
  split at h
  ·rename_i s t hx
   have q:=opnd_okay hk hx;have hl:s.lt n=true/\t.lt n=true:=by
    have:=q.2;simpa only[SV.lt,Bool.and_eq_true]using this
   split at h
   ·cases h
    exact⟨q.1.1,hl.1⟩
   ·split at h
    ·cases h
     exact⟨q.1.2,hl.2⟩
    ·cases h
  ·cases h
 | unOp op T x =>
  cases op <;> first | cases h | skip
  dsimp only[opVal]at h
  split at h
  ·cases h
   exact⟨trivial,rfl⟩
  ·cases h
   exact⟨trivial,rfl⟩
  ·cases h
 | binOp op T x y t =>
  dsimp only[opVal]at h
  split at h
  ·rename_i u v hu hv
   have hg:=G.bop _ _ _ _ _ _ h hp (opnd_okay hk hu).1 (opnd_okay hk hv).1;exact⟨hg.1,SV.lt_mono (Nat.zero_le _) hg.2.1⟩
  ·cases h
 | indexAddr T x y =>
  dsimp only[opVal]at h
  split at h
  ·rename_i u v hu hv
   have q1:=opnd_okay hk hu;have hg:=G.ixa _ _ _ _ _ n h hp q1.2 q1.1 (opnd_okay hk hv).1;exact⟨hg.1,hg.2.1⟩
  ·cases h
 | call c =>
  dsimp only[opVal]at h
  split at h
  ·split at h
   ·split at h
    ·cases h
     exact⟨hp _ (.head _),rfl⟩
    ·cases h
   ·cases h
  ·cases h
 | _=>cases h
theorem valS_okay(G:E.Good γ0 w0)(hb:E.base<=n){lk:Nat->Option SV}{M:Rows}{r:SV}{p:List Ob}(hk:Okay n lk)(hM:∀ r∈M,r.2.1.ok/\r.2.1.lt n=true)(h:valS E n lk M o=some (r,p))(hp:All p):r.ok:=by
 unfold valS at h
 split at h
 ·split at h
  ·split at h
   ·rename_i l hl
    split at h
    ·rename_i hr
     cases h;exact(G.ctr _ _ _ _ _ _ _ hr hp hb (opnds_okay hk hl) hM).1
    ·cases h
   ·cases h
  ·exact(opVal_okay G hb hk hM h hp).1
 ·exact(opVal_okay G hb hk hM h hp).1
theorem li_value{v:Value}(hw:Region.wanted o (yielded ops a.tmps)=true)(hr:(execOp a.eval o).run P w=.ok (.value v) w')(h:wpList P ops X rest (a.put o.dst v) w'):wpList P ops X (o::rest) a w :=
 wpList_step fun K hK=>by
  rw[if_pos hw];unfold Oper.wp;rw[hr];exact hK _ _ h
theorem li_unit(hw:Region.wanted o (yielded ops a.tmps)=true)(hr:(execOp a.eval o).run P w=.ok .skip w')(h:wpList P ops X rest (a.put o.dst undef) w'):wpList P ops X (o::rest) a w :=
 wpList_step fun K hK=>by
  rw[if_pos hw];unfold Oper.wp;rw[hr];exact hK _ _ h
theorem li_made{f:FuncId}{args:Array Value}{Z:Ending->World->Prop}(hw:Region.wanted o (yielded ops a.tmps)=true)(hr:(execOp a.eval o).run P w=.ok (.enter f args) w)
  (hc:Calls P f args w Z) (h:∀ e w',Z e w'->∃ v,e=.returned v/\wpList P ops X rest (a.put o.dst v) w'):wpList P ops X (o::rest) a w :=
 wpList_step fun K hK=>by
  rw[if_pos hw];unfold Oper.wp;rw[hr];refine Calls.mono hc ?_;intro e w' hz;obtain⟨v,rfl,hh⟩:=h e w' hz;exact hK _ _ hh
theorem made_nil{γ:Pl}{n:Nat}{r:SV}{wx w':World}{e:Ending}(hl:r.lt (n+([]:Rows).length)=true)(h:Made γ n r [] wx e w'):e=.returned (r.val γ)/\Below wx.heap.size wx w':=by
 obtain⟨⟨δ,h1,h2,_⟩,h3⟩:=h;exact⟨by rw[h2,(SV.lt_same h1 hl).2.2],h3⟩
theorem li_call{f:FuncId}{args:Array Value}{v:Value}(hw:Region.wanted o (yielded ops a.tmps)=true)(hr:(execOp a.eval o).run P w=.ok (.enter f args) w)
  (hc:Calls P f args w fun e w'=>e=.returned v/\Below w.heap.size w w') (h:∀ w',Below w.heap.size w w'->wpList P ops X rest (a.put o.dst v) w'):wpList P ops X (o::rest) a w :=
 wpList_step fun K hK=>by
  rw[if_pos hw];unfold Oper.wp;rw[hr];refine Calls.mono hc ?_;rintro e w' ⟨rfl,hb⟩;exact hK _ _ (h w' hb)
theorem run_callFunc{c:Call}{f:FuncId}(ho:o.op=.call c)(hc:c.callee=.value (.func f)):execOp a.eval o=callFunc f (c.args.map a.eval):=by
 obtain⟨ce,as_,ts⟩:=c;dsimp only at hc;subst hc;unfold execOp;rw[ho];show(do let d <- resolve a.eval _ o.type;invoke d.target d.args)=_;unfold resolve Deferred.ofValue invoke;simp[Act.eval]
theorem fill_congr{f g:Nat->Option (Nat × Nat)}:∀ {l:List (Nat × Value)} {cs:Array Value},(∀ x∈l,f x.1=g x.1)->Instr.fill f cs l=Instr.fill g cs l
 | [],_,_=>rfl
 | (i,v)::l,cs,h=>by
  unfold Instr.fill;have h0:f i=g i:=h (i,v) (.head _);rw[h0];cases g i with
  | none=>rfl
  | some q =>
   obtain⟨off,sz⟩:=q;dsimp only
   split
   ·rfl
   ·exact fill_congr fun x hx=>h x (.tail _ hx)
theorem opVal_go(G:E.Good γ0 w0){d:Nat}{r:SV}{p:List Ob}(hx:(if d<N then needs p (k (s.put d (some r)))else Tr.bad).wp E.base Q)(R:Rel E γ0 γ N w0 s a w)(hw:Region.wanted o (yielded ops a.tmps)=true)(hd:o.dst=some d)(h:opVal E (look s.S) s.M o.op=some (r,p))
  (cont:∀ γ s' a' w',Rel E γ0 γ N w0 s' a' w'->(k s').wp E.base Q->wpList E.P ops X rest a' w'):wpList E.P ops X (o::rest) a w:=by
 split at hx
 ·rename_i hdN
  obtain⟨hp,hk⟩:=needs_wp hx;have q:=opVal_ok G R.ag R.base R.k R.lies R.h.old h hp;refine li_value hw q.1 ?_;rw[hd];exact cont _ _ _ _ (R.put hdN q.2.1 q.2.2) hk
 ·cases hx
theorem opGo_ok(G:E.Good γ0 w0)(hx:(opGo E N o s k).wp E.base Q)(R:Rel E γ0 γ N w0 s a w)(hw:Region.wanted o (yielded ops a.tmps)=true)
  (cont:∀ γ s' a' w',Rel E γ0 γ N w0 s' a' w'->(k s').wp E.base Q->wpList E.P ops X rest a' w'):wpList E.P ops X (o::rest) a w:=by
 obtain⟨op,ho⟩:∃ op,o.op=op:=⟨_,rfl⟩
 obtain⟨dst,hd⟩:∃ d,o.dst=d:=⟨_,rfl⟩
 unfold opGo at hx;rw[ho,hd]at hx
 split at hx
 ·rename_i T x y
  split at hx
  ·rename_i g off j z v ty hx1 hy1 ht
   split at hx
   ·rename_i hh
    obtain⟨rfl,hv,hz⟩:=hh
    split at hx
    ·rename_i M hM
     have q1:=opnd_ok R.k hx1;have q2:=opnd_ok R.k hy1;have tg:=(G.tys _ (tyIn_ok ht).1).sz;rw[(tyIn_ok ht).2,<- hz]at tg;obtain⟨w',h1,h2⟩:=R.store hM hv q2.2.1 q2.2.2 tg;refine li_unit (w':=w') hw ?_ ?_
     ·unfold execOp
      rw[ho];have e:a.eval x=.pointer (some ⟨γ g,off,none⟩):=by
       rw[q1.1];show Value.pointer (some ⟨γ g,off+j*0,none⟩)=_;rw[Nat.mul_zero,Nat.add_zero]
      simp only[e,q2.1,Sem.run_bind,h1,Result.andThen_ok,Sem.run_pure]
     ·rw[hd]
      exact cont _ _ _ _ h2 hx
    ·cases hx
   ·cases hx
  ·cases hx
 ·rename_i T d
  split at hx
  ·rename_i ty ht
   split at hx
   ·rename_i hdN
    have tg:=G.tys _ (tyIn_ok ht).1;obtain⟨δ,h2⟩:=R.new (T:=T) hdN tg.zok (SV.lt_mono (Nat.zero_le _) tg.zlt);have hz:=tg.zero;rw[(tyIn_ok ht).2,(SV.lt_same (γ:=fun _=>0) (δ:=γ) (n:=0) (fun k hk=>absurd hk (Nat.not_lt_zero _)) tg.zlt).2.1]at hz;refine li_value (v:=.pointer (some ⟨w.heap.size,0,none⟩)) (w':=w.alloc (.cells (ty.zero.cells γ).toArray T)) hw ?_ ?_
    ·unfold execOp
     rw[ho];cases hi:E.P.info? T with
     | none=>rw[hi]at hz;cases hz
     | some it =>
      rw[hi]at hz;cases hzz:it.zero with
      | none=>rw[Option.bind_some,hzz]at hz;cases hz
      | some zv =>
       rw[Option.bind_some,hzz]at hz;have hz':zv.cells=(ty.zero.cells γ).toArray:=Option.some.inj hz;simp[Instr.alloc,zeroValue,typeInfo,hi,hzz,newVar,newRow,hz']
    ·rw[hd]
     exact cont _ _ _ _ h2 hx
   ·cases hx
  ·cases hx
 ·rename_i T x d
  split at hx
  ·rename_i v hv
   split at hx
   ·rename_i hh
    have q:=opnd_ok R.k hv;obtain⟨δ,h2⟩:=R.new (T:=T) hh.1 q.2.1 q.2.2;refine li_value (v:=.pointer (some ⟨w.heap.size,0,none⟩)) (w':=w.alloc (.cells (v.cells γ).toArray T)) hw (run_box ho q.1 ?_) ?_
    ·rcases SV.plain_any hh.2 with h1 | h1
     ·rw[SV.val_one h1,cells_one (SV.one_cell h1)]
     ·rw[SV.val_many h1]
      rfl
    ·rw[hd]
     exact cont _ _ _ _ h2 hx
   ·cases hx
  ·cases hx
 ·rename_i T n parts d
  split at hx
  ·rename_i b l hb hl
   split at hx
   ·rename_i hc
    split at hx
    ·rename_i r hr
     obtain⟨hbm,hbT,hbn⟩:=bsIn_ok hb;have bg:=G.bss _ hbm;have q:=partsOf_ok R.k hl;have hall:=List.all_eq_true.1 hc.2;have hfo:=fillS_okay hr q.2 bg.ok (SV.lt_mono (Nat.zero_le _) bg.lt);obtain⟨δ,h2⟩:=R.newS (n:=n) (T:=b.e) hc.1 hfo.1 hfo.2;refine li_value (v:=.slice (some ⟨w.heap.size,0,none⟩) n n) (w':=w.alloc (.cells (r.cells γ).toArray b.e)) hw ?_ ?_
     ·have hfill:=fill_ok (γ:=γ) hr (fun x hx=>by have:=hall x hx;rw[Bool.and_eq_true]at this;exact this.2)
      have hz:=bg.z;rw[(SV.lt_same (γ:=fun _=>0) (δ:=γ) (n:=0) (fun k hk=>absurd hk (Nat.not_lt_zero _)) bg.lt).2.1]at hz;have hu:=bg.u;rw[hbT]at hu;have hfew:=of_decide_eq_false bg.few;have hpos:=of_decide_eq_false bg.pos;rw[hbn]at hz hfew hpos;cases hi:E.P.info? b.e with
      | none=>rw[hi]at hz;cases hz
      | some it =>
       have hs:=bg.i;rw[hi]at hz hs;have hs':it.size=b.sz:=Option.some.inj hs;cases hzz:it.zero with
       | none=>rw[Option.bind_some,hzz]at hz;cases hz
       | some zv =>
        rw[Option.bind_some,hzz]at hz;have hz':(Array.range (n*b.sz)).map (zv.cells[·%zv.cells.size]!)=(b.zs.cells γ).toArray:=Option.some.inj hz;have hfc:Instr.fill (fun i=>some (i*b.sz,b.sz)) (b.zs.cells γ).toArray (l.map fun x=>(x.1,x.2.val γ))=some (r.cells γ).toArray:=by
         rw[<- hfill];refine fill_congr fun x hx=>?_;obtain⟨y,hy,rfl⟩:=List.mem_map.1 hx;have hlt:y.1<n:=by
          have:=hall y hy;rw[Bool.and_eq_true]at this;exact of_decide_eq_true this.1
         simp[hlt]
        unfold execOp;rw[ho];have hrun:(Instr.buildSlice T n (parts.map fun(x:Nat × Operand)=>(x.1,a.eval x.2))).run E.P w=.ok (.slice (some ⟨w.heap.size,0,none⟩) n n) (w.alloc (.cells (r.cells γ).toArray b.e)):=by
         simp[Instr.buildSlice,run_underlying hu,sizeOf,typeInfo,hi,hs',hfew,hpos,zeroValue,hzz,hz',q.1,hfc,newRow]
        show(do let v <- Instr.buildSlice T n (parts.map fun(x:Nat × Operand)=>(x.1,a.eval x.2));pure (.value v):Sem Next).run E.P w=_;rw[Sem.run_bind,hrun,Result.andThen_ok,Sem.run_pure]
     ·rw[hd]
      exact cont _ _ _ _ h2 hx
    ·cases hx
   ·cases hx
  ·cases hx
 ·rename_i c d
  split at hx
  ·rename_i f hf
   split at hx
   ·rename_i l hl
    split at hx
    ·rename_i r p R' hr
     split at hx
     ·rename_i hdN
      obtain⟨hp,hk⟩:=needs_wp hx;have q:=opnds_ok R.k hl;have g:=G.ctr _ _ _ _ _ _ _ hr hp R.base q.2 (fun r hr=>⟨(R.m r hr).1,(R.m r hr).2.1⟩);have e:c.args.map a.eval=(l.map (·.val γ)).toArray:=by
       apply Array.ext';rw[Array.toList_map];exact q.1
      refine li_made (Z:=Made γ s.n r R' w) hw ((congrArg (fun m=>Sem.run E.P m w) (run_callFunc ho hf)).trans (g.2.2.2.1 _ _)) ?_ fun e w' hz=>?_
      ·rw[e]
       exact g.2.2.2.2 γ R.ag w R.h.old R.lies
      ·obtain⟨⟨δ,h1,h2,h3,h4⟩,h5⟩:=hz
       refine⟨_,h2,?_⟩;rw[hd];exact cont _ _ _ _ (R.made hdN g.1 g.2.1 g.2.2.1 h1 h5 h3 h4) hk
     ·cases hx
    ·cases hx
   ·cases hx
  ·split at hx
   ·rename_i r p hr
    exact opVal_go G hx R hw hd (by rw[ho];exact hr) cont
   ·cases hx
 ·rename_i op' d _ _ _
  split at hx
  ·rename_i r p hr
   exact opVal_go G hx R hw hd (by rw[ho];exact hr) cont
  ·cases hx
 ·cases hx
theorem valS_ok(G:E.Good γ0 w0)(R:Rel E γ0 γ N w0 s a w){lk:Nat->Option SV}{r:SV}{p:List Ob}(hk:Holds γ s.n lk a)(h:valS E s.n lk s.M o=some (r,p))(hp:All p)(hw:Region.wanted o (yielded ops a.tmps)=true)
  (cont:∀ w',Below w.heap.size w w'->wpList E.P ops X rest (a.put o.dst (r.val γ)) w'):r.ok/\wpList E.P ops X (o::rest) a w:=by
 unfold valS at h
 split at h
 ·rename_i c ho
  split at h
  ·rename_i f hf
   split at h
   ·rename_i l hl
    split at h
    ·rename_i r' p' hr
     cases h;have q:=opnds_ok hk hl;have g:=G.ctr _ _ _ _ _ _ _ hr hp R.base q.2 (fun r hr=>⟨(R.m r hr).1,(R.m r hr).2.1⟩);have e:c.args.map a.eval=(l.map (·.val γ)).toArray:=by
      apply Array.ext';rw[Array.toList_map];exact q.1
     refine⟨g.1,li_call (v:=r.val γ) hw ((congrArg (fun m=>Sem.run E.P m w) (run_callFunc ho hf)).trans (g.2.2.2.1 _ _)) ?_ cont⟩;rw[e];exact(g.2.2.2.2 γ R.ag w R.h.old R.lies).mono fun _ _=>made_nil g.2.1
    ·cases h
   ·cases h
  ·have q:=opVal_ok G R.ag R.base hk R.lies R.h.old (by rw[ho];exact h) hp
   exact⟨q.2.1,li_value hw q.1 (cont w (Below.refl _ _))⟩
 ·have q:=opVal_ok G R.ag R.base hk R.lies R.h.old h hp
  exact⟨q.2.1,li_value hw q.1 (cont w (Below.refl _ _))⟩
theorem Rel.forgetTo{d:Nat}{g:Bool}(R:Rel E γ0 γ N w0 s a w)(hd:d<N)(hg:g=false)(hl:x.lt s.n=true):Rel E γ0 γ N w0 (s.put d (some (.gd g x))) (a.put (some d) undef) w:=by
 have h:=R.put (x:=.gd g x) hd (fun h=>by rw[hg]at h;cases h) hl;have e:(SV.gd g x).val γ=undef:=by
  show(if g=true then x.val γ else undef)=undef;rw[hg];rfl
 rwa [e]at h
theorem wanted_eff{γ:Pl}{d j:Nat}{b e:Bool}{gx:SV}{tmps:Array Value}(hg:o.guard=some (j,b))(hd:(ops[j]?).bind (·.dst)=some d)(hv:tmps.getD d undef=gx.val γ)(h:gEff b gx=some e):Region.wanted o (yielded ops tmps)=e:=by
 have bit:∀ t:Bool,tmps.getD d undef=.bool t->Region.wanted o (yielded ops tmps)=if b=true then t else !t:=fun t ht=>by
  cases b with
  | true =>
   cases t with
   | true=>exact wanted_of hg hd ht
   | false=>exact unwanted_of hg hd ht rfl
  | false =>
   cases t with
   | true=>exact unwanted_of hg hd ht rfl
   | false=>exact wanted_of hg hd ht
 unfold gEff at h
 split at h
 ·rename_i t
  cases h;exact bit t hv
 ·rename_i g t
  cases h;cases g with
  | true=>exact bit t hv
  | false=>exact unwanted_undef hg hd hv
 ·rename_i g t
  cases h;cases g with
  | true=>exact bit t hv
  | false=>exact unwanted_undef hg hd hv
 ·cases h
theorem opAt_ok(G:E.Good γ0 w0)(hx:(opAt E N (fun j=>(ops[j]?).bind (·.dst)) o s k).wp E.base Q)(R:Rel E γ0 γ N w0 s a w)
  (cont:∀ γ s' a' w',Rel E γ0 γ N w0 s' a' w'->(k s').wp E.base Q->wpList E.P ops X rest a' w'):wpList E.P ops X (o::rest) a w:=by
 obtain⟨gd,hg⟩:∃ gd,o.guard=gd:=⟨_,rfl⟩
 obtain⟨dst,hd⟩:∃ d,o.dst=d:=⟨_,rfl⟩
 unfold opAt at hx;rw[hg,hd]at hx
 split at hx
 ·exact opGo_ok G hx R (by unfold Region.wanted;rw[hg]) cont
 ·rename_i j b
  have skip:∀ {d:Nat},o.dst=some d->Region.wanted o (yielded ops a.tmps)=false->(k (s.put d none)).wp E.base Q->wpList E.P ops X (o::rest) a w:=fun hd hw h =>
   wpList_skip hw (by rw[hd];exact cont _ _ _ _ R.forget h)
  split at hx
  ·rename_i d t hk
   split at hx
   ·obtain⟨e,he,hl⟩:=Option.bind_eq_some_iff.1 hk
    have hv:=(R.k _ _ hl).1
    split at hx
    ·rename_i htb
     subst htb;exact opGo_ok G hx R (wanted_of hg he hv) cont
    ·rename_i htb
     exact skip hd (unwanted_of hg he hv (by cases t <;> cases b <;> first | rfl | exact absurd rfl htb)) hx
   ·cases hx
  ·rename_i d gx _ hk
   split at hx
   ·rename_i hdN
    obtain⟨e',he,hl⟩:=Option.bind_eq_some_iff.1 hk;have hv:=(R.k _ _ hl).1
    split at hx
    ·rename_i e hge
     have hw:=wanted_eff hg he hv hge
     split at hx
     ·rename_i r p hr
      split at hx
      ·rename_i hlt
       obtain⟨hp,hk⟩:=needs_wp hx;have hp1:e=true->All p:=underG_ok fun q hq=>hp q (List.mem_append_left _ hq);have hp2:All (condG e (look s.S) (tmpsOf o)):=fun q hq=>hp q (List.mem_append_right _ hq);cases e with
       | true =>
        have hk':Holds γ s.n (lkG (look s.S) (tmpsOf o)) a:=fun u y hy=>by
         obtain⟨z,h1,h2,h3,h4⟩:=lkG_ok (γ:=γ) (n:=s.n) hy hp2 rfl;have:=R.k u z h1;exact⟨this.1.trans h4,h2 this.2.1,h3 this.2.2⟩
        have hok:=valS_okay G R.base (fun u y hy=>(hk' u y hy).2) (fun r hr=>⟨(R.m r hr).1,(R.m r hr).2.1⟩) hr (hp1 rfl);refine(valS_ok G R hk' hr (hp1 rfl) hw fun w' hb=>?_).2;have h:=(R.put (x:=.gd true r) hdN (fun _=>hok) hlt).below hb;rw[hd];exact cont _ _ _ _ h hk
       | false =>
        exact wpList_skip hw (by rw[hd];exact cont _ _ _ _ (R.forgetTo hdN rfl hlt) hk)
      ·cases hx
     ·cases e with
      | true=>exact opGo_ok G (hx.1 rfl) R hw cont
      | false=>exact skip hd hw (hx.2 rfl)
    ·cases hx
   ·cases hx
  ·cases hx
theorem seqX_ok(G:E.Good γ0 w0):∀ {l:List Oper} {s:St} {a:Act} {w:World} {γ:Pl} {k:St->Tr},(seqX E N (fun j=>(ops[j]?).bind (·.dst)) l s k).wp E.base Q->Rel E γ0 γ N w0 s a w ->
  (∀ γ s' a' w',Rel E γ0 γ N w0 s' a' w'->(k s').wp E.base Q->X .normal a' w')->wpList E.P ops X l a w
 | [],_,_,_,_,_,hx,R,cont=>wpList_nil (cont _ _ _ _ R hx)
 | _::_,_,_,_,_,_,hx,R,cont=>opAt_ok G hx R fun _ _ _ _ R' hk=>seqX_ok G hk R' cont
end
end Go.Proofs.YtfmpjjhdocejiaaGreat.Sy
namespace Go.Proofs.YtfmpjjhdocejiaaGreat.Sy
open Go.RowKit
structure Ef where
 d:Option (Nat × Option SV)
 R:Rows
 st:Option (Nat × SV)
def SV.ids:SV->List Nat
 | .p g _ _ _=>[g]
 | .s g _ _ _=>[g]
 | .ap h t=>h.ids++t.ids
 | .tu x y=>x.ids++y.ids
 | .gd _ x=>x.ids
 | _=>[]
def forceN{α:Type}(m:Nat)(k:Nat->α):α:=match m with
 | 0=>k 0
 | n+1=>k (n+1)
def lookN:List (Nat × Nat)->Nat->Nat
 | [],_=>0
 | p::l,t=>if p.1=t then p.2 else lookN l t
def maskOf(acc:List (Nat × Nat)):List Edge->Nat
 | []=>0
 | e::es=>if Region.binds .any e=true then ((1 <<< e.on) ||| lookN acc e.on) ||| maskOf acc es else maskOf acc es
def masksA:List Oper->Nat->List (Nat × Nat)->List (Nat × Nat)
 | [],_,acc=>acc
 | o::l,i,acc=>masksA l (i+1) ((i,maskOf acc o.after.toList)::acc)
def masksK{α:Type}:List Oper->Nat->List (Nat × Nat)->(List (Nat × Nat)->α)->α
 | [],_,acc,k=>k acc
 | o::l,i,acc,k=>forceN (maskOf acc o.after.toList) fun m=>masksK l (i+1) ((i,m)::acc) k
def curD(D:Nat->Bool)(g:Nat):Nat->List Ef->SV->SV
 | _,[],c=>c
 | i,e::l,c=>curD D g (i+1) l (match e.st with
  | some q=>if q.1=g/\D i=true then q.2 else c
  | none=>c)
def madeD(D:Nat->Bool):Nat->List Ef->Rows
 | _,[]=>[]
 | i,e::l=>(if D i=true then e.R else [])++madeD D (i+1) l
def rowsD(D:Nat->Bool)(es:List Ef)(M:Rows):Rows:=(madeD D 0 es++M).map fun r=>(r.1,curD D r.1 0 es r.2.1,r.2.2)
def stableB(m g:Nat):Nat->List Ef->Bool
 | _,[]=>true
 | i,e::l=>(match e.st with
  | some q=>q.1 != g||m.testBit i
  | none=>true)&&stableB m g (i+1) l
def readsM:Op->Bool
 | .load _ _=>true
 | .store _ _ _=>true
 | .call _=>true
 | _=>false
def seenM(m:Nat)(o:Oper)(es:List Ef)(M:Rows):Rows:=if readsM o.op=true then (rowsD (fun i=>m.testBit i) es M).filter fun r=>stableB m r.1 0 es else []
def dstIx:List Oper->Nat->Option Nat
 | [],_=>none
 | o::l,t=>if o.dst=some t then some 0 else (dstIx l t).map (·+1)
def lkW(l:List Oper)(m:Nat)(es:List Ef)(S:List (Nat × Option SV))(t:Nat):Option SV:=match dstIx l t with
 | none=>look S t
 | some j=>if m.testBit j=true then (es[j]?).bind fun e=>e.d.bind (·.2)else none
def effGo(E:Env)(N nx:Nat)(lk:Nat->Option SV)(M:Rows)(o:Oper):Option (Ef × List Ob) :=
 match o.op,o.dst with
 | .store T x y,none=>match opnd lk x,opnd lk y,tyIn T E.tys with
  | some (.p g off _ z),some v,some ty=>if z=0/\v.plain=true/\v.size=ty.sz then match rowIn g M with
   | some r=>(SV.put v off r.1).map fun c=>(⟨none,[],some (g,c)⟩,[])
   | none=>none
   else none
  | _,_,_=>none
 | .alloc T,some d=>match tyIn T E.tys with
  | some ty=>if d<N then some (⟨some (d,some (.p nx 0 0 0)),[(nx,ty.zero,T)],none⟩,[])else none
  | none=>none
 | .box T x,some d=>match opnd lk x with
  | some v=>if d<N/\v.plain=true then some (⟨some (d,some (.p nx 0 0 0)),[(nx,v,T)],none⟩,[])else none
  | none=>none
 | .buildSlice T n parts,some d=>match bsIn T n E.bss,partsOf lk parts.toList with
  | some b,some l=>if d<N/\l.all (fun x=>decide (x.1<n)&&(x.2.one||x.2.many))=true then match fillS ((List.range n).map fun i=>(i*b.sz,b.sz)) b.zs l with
   | some r=>some (⟨some (d,some (.s nx 0 n n)),[(nx,r,b.e)],none⟩,[])
   | none=>none
   else none
  | _,_=>none
 | .call c,some d=>match c.callee with
  | .value (.func f)=>match opnds lk c.args.toList with
   | some l=>match E.ctr f nx M l with
    | some (r,p,R)=>if d<N then some (⟨some (d,some r),R,none⟩,p)else none
    | none=>none
   | none=>none
  | _=>match opVal E lk M (.call c)with
   | some (r,p)=>if d<N then some (⟨some (d,some r),[],none⟩,p)else none
   | none=>none
 | op,some d=>match opVal E lk M op with
  | some (r,p)=>if d<N then some (⟨some (d,some r),[],none⟩,p)else none
  | none=>none
 | _,_=>none
def effAt(E:Env)(N nx:Nat)(gs:Option SV)(lk:Nat->Option SV)(M:Rows)(o:Oper):Option (Ef × List Ob):=match o.guard with
 | none=>effGo E N nx lk M o
 | some (_,b)=>match gs with
  | some (.v (.bool t))=>if t=b then effGo E N nx lk M o else match o.dst with
   | some d=>if d<N then some (⟨some (d,none),[],none⟩,[])else none
   | none=>some (⟨none,[],none⟩,[])
  | some gx=>match gEff b gx,effGo E N nx (lkG lk (tmpsOf o)) M o with
   | some e,some (⟨some (d,some x),[],none⟩,p)=>if x.lt (nx+8)=true then some (⟨some (d,some (.gd e x)),[],none⟩,underG e p++condG e lk (tmpsOf o))else none
   | _,_=>none
  | none=>none
def gsl(l:List Oper)(lk:Nat->Option SV)(o:Oper):Option SV:=o.guard.bind fun q=>((l[q.1]?).bind (·.dst)).bind lk
def idOk(n0 k m g:Nat):Bool:=decide (g<n0)||(decide ((g - n0) / 8=k)||m.testBit ((g - n0) / 8))
def usedBy(l:List Oper)(ms:List (Nat × Nat))(es:List Ef)(M:Rows)(g i:Nat):Bool:=match l[i]? with
 | some o=>(seenM (lookN ms i) o (es.take i) M).any fun r=>r.1 == g
 | none=>false
def okEf(n0:Nat)(l:List Oper)(ms:List (Nat × Nat))(es:List Ef)(M:Rows)(k:Nat)(e:Ef):Bool :=
 ((match e.d with
  | some (_,some x)=>x.ids.all (idOk n0 k (lookN ms k))
  | _=>true)&&e.R.all fun r=>r.2.1.ids.all (idOk n0 k (lookN ms k)))&&(decide (e.R.length<=8)&&match e.st with
  | some (g,c)=>c.ids.all (idOk n0 k (lookN ms k))&&(List.range k).all fun i=>!usedBy l ms es M g i||(lookN ms k).testBit i
  | none=>true)
def passX(E:Env)(N:Nat)(l:List Oper)(ms:List (Nat × Nat))(s:St):List Oper->List Ef->List Ob->Option (List Ef × List Ob)
 | [],es,ps=>some (es,ps)
 | o::r,es,ps=>match effAt E N (s.n+8*es.length) (gsl l (lkW l (lookN ms es.length) es s.S) o) (lkW l (lookN ms es.length) es s.S) (seenM (lookN ms es.length) o es s.M) o with
  | some (e,p)=>if okEf s.n l ms es s.M es.length e=true then passX E N l ms s r (es++[e]) (ps++p)else none
  | none=>none
def slotsE:List Ef->List (Nat × Option SV)
 | []=>[]
 | e::l=>match e.d with
  | some p=>p::slotsE l
  | none=>slotsE l
def afterD(es:List Ef)(s:St):St:=⟨slotsE es++s.S,rowsD (fun _=>true) es s.M,s.n+8*es.length⟩
def nodupB:List Nat->Bool
 | []=>true
 | x::l=>!l.contains x&&nodupB l
def drawX(E:Env)(N:Nat)(l:List Oper)(s:St)(k:St->Tr):Tr:=masksK l 0 [] fun ms=>match passX E N l ms s l [] []with
 | some (es,ps)=>if distinctB l=true/\rankB l.toArray (fun i=>i)=true/\nodupB ((rowsD (fun _=>true) es s.M).map (·.1))=true then needs ps (k (afterD es s))else .bad
 | none=>.bad
/-! The tables. -/
section
variable {E:Env} {γ0 γ γs δ:Pl} {N nx:Nat} {w0 ws w w' wx:World} {s:St} {a a0:Act} {o:Oper} {l:List Oper} {es:List Ef} {D D':Nat->Bool}
theorem forceN_eq{α:Type}(m:Nat)(k:Nat->α):forceN m k=k m:=by cases m <;> rfl
theorem masksK_eq{α:Type}:∀(l:List Oper) (i:Nat) (acc:List (Nat × Nat)) (k:List (Nat × Nat)->α),masksK l i acc k=k (masksA l i acc)
 | [],_,_,_=>rfl
 | o::l,i,acc,k=>by
  unfold masksK masksA;rw[forceN_eq];exact masksK_eq l (i+1) _ k
theorem mask_spec{acc:List (Nat × Nat)}{j:Nat}:∀ {es:List Edge},(maskOf acc es).testBit j=true->∃ e∈es,Region.binds .any e=true/\(j=e.on\/(lookN acc e.on).testBit j=true)
 | [],h=>by simp[maskOf]at h
 | e::es,h=>by
  unfold maskOf at h
  split at h
  ·rename_i hb
   rw[Nat.testBit_or,Nat.testBit_or,Bool.or_eq_true,Bool.or_eq_true]at h;rcases h with(h | h) | h
   ·refine⟨e,.head _,hb,.inl ?_⟩
    rw[Nat.shiftLeft_eq,Nat.one_mul,Nat.testBit_two_pow]at h;exact(of_decide_eq_true h).symm
   ·exact⟨e,.head _,hb,.inr h⟩
   ·obtain⟨e',h1,h2⟩:=mask_spec h
    exact⟨e',.tail _ h1,h2⟩
  ·obtain⟨e',h1,h2⟩:=mask_spec h
   exact⟨e',.tail _ h1,h2⟩
theorem masks_keep:∀ {l:List Oper} {i:Nat} {acc:List (Nat × Nat)} {t:Nat},t<i->lookN (masksA l i acc) t=lookN acc t
 | [],_,_,_,_=>rfl
 | o::l,i,acc,t,h=>by
  unfold masksA;rw[masks_keep (Nat.lt_succ_of_lt h)];show(if i=t then _ else _)=_;rw[if_neg (Nat.ne_of_gt h)]
theorem masks_spec:∀ {l:List Oper} {i:Nat} {acc:List (Nat × Nat)},(∀ t,i<=t->lookN acc t=0)->∀(k:Nat) o,l[k]?=some o->∀ j,(lookN (masksA l i acc) (i+k)).testBit j=true->∃ e∈o.after,Region.binds .any e=true/\(j=e.on\/(lookN (masksA l i acc) e.on).testBit j=true)
 | [],_,_,_,k,o,h,_,_=>by cases h
 | o::l,i,acc,h0,0,o',h,j,hj=>by
  cases h;unfold masksA at hj |-
  have hj:(lookN (masksA l (i+1) ((i,maskOf acc o.after.toList)::acc)) i).testBit j=true:=hj;rw[masks_keep (show i<i+1 by omega)]at hj;have hj':(maskOf acc o.after.toList).testBit j=true:=by
   have e:lookN ((i,maskOf acc o.after.toList)::acc) i=maskOf acc o.after.toList:=by
    show(if i=i then _ else _)=_;rw[if_pos rfl]
   rwa [e]at hj
  obtain⟨e,h1,h2,h3⟩:=mask_spec hj';refine⟨e,by simpa using h1,h2,h3.imp id fun h4=>?_⟩;rcases Nat.lt_or_ge e.on i with hlt | hge
  ·rw[masks_keep (Nat.lt_succ_of_lt hlt)]
   show(if i=e.on then _ else lookN acc e.on).testBit j=true;rw[if_neg (Nat.ne_of_gt hlt)];exact h4
  ·rw[h0 _ hge]at h4
   simp at h4
 | o::l,i,acc,h0,k+1,o',h,j,hj=>by
  unfold masksA at hj |-
  rw[show i+(k+1)=i+1+k by omega]at hj;exact masks_spec (i:=i+1) (fun t ht=>by
   show(if i=t then _ else lookN acc t)=0;rw[if_neg (by omega),h0 t (by omega)]) k o' (by simpa using h) j hj
theorem SV.ids_same{γ δ:Pl}:∀ {x:SV},(∀ g∈x.ids,γ g=δ g)->x.sc γ=x.sc δ/\x.cells γ=x.cells δ/\x.val γ=x.val δ
 | .w _,_ | .e,_ | .b _,_ | .i _ _,_ | .na _,_ | .v _,_=>⟨rfl,rfl,rfl⟩
 | .p g _ _ _,h=>by
  have hg:=h g (.head _);refine⟨?_,?_,?_⟩ <;> simp only[SV.sc,SV.cells,SV.val,hg]
 | .s g _ _ _,h=>by
  have hg:=h g (.head _);refine⟨?_,?_,?_⟩ <;> simp only[SV.sc,SV.cells,SV.val,hg]
 | .ap a t,h=>by
  obtain⟨_,h1,_⟩:=ids_same (x:=a) fun g hg=>h g (List.mem_append_left _ hg);obtain⟨_,h2,_⟩:=ids_same (x:=t) fun g hg=>h g (List.mem_append_right _ hg);refine⟨rfl,?_,?_⟩
  ·simp only[SV.cells,h1,h2]
  ·simp only[SV.val,h1,h2]
 | .tu a t,h=>by
  obtain⟨_,_,h1⟩:=ids_same (x:=a) fun g hg=>h g (List.mem_append_left _ hg);obtain⟨_,_,h2⟩:=ids_same (x:=t) fun g hg=>h g (List.mem_append_right _ hg);exact⟨rfl,rfl,by simp only[SV.val,h1,h2]⟩
 | .gd t x,h=>by
  obtain⟨_,_,h1⟩:=ids_same (x:=x) h;exact⟨rfl,rfl,by simp only[SV.val,h1]⟩
theorem SV.lt_ids{n:Nat}:∀ {x:SV},x.lt n=true->∀ g∈x.ids,g<n
 | .w _,_,g,h | .e,_,g,h | .b _,_,g,h | .i _ _,_,g,h | .na _,_,g,h | .v _,_,g,h=>by cases h
 | .p _ _ _ _,hl,g,h=>by
  cases h with
  | head=>exact of_decide_eq_true hl
  | tail _ h=>cases h
 | .s _ _ _ _,hl,g,h=>by
  cases h with
  | head=>exact of_decide_eq_true hl
  | tail _ h=>cases h
 | .ap a t,hl,g,h=>by
  simp only[SV.lt,Bool.and_eq_true]at hl;rcases List.mem_append.1 h with h | h
  ·exact lt_ids hl.1 g h
  ·exact lt_ids hl.2 g h
 | .tu a t,hl,g,h=>by
  simp only[SV.lt,Bool.and_eq_true]at hl;rcases List.mem_append.1 h with h | h
  ·exact lt_ids hl.1 g h
  ·exact lt_ids hl.2 g h
 | .gd t x,hl,g,h=>lt_ids (x:=x) hl g h
theorem made_mem{r:Nat × SV × TypeId}:∀ {es:List Ef} {i:Nat},r∈madeD D i es↔∃(j:Nat) (e:Ef),es[j]?=some e/\D (i+j)=true/\r∈e.R
 | [],i=>⟨fun h=>(by cases h),fun⟨j,e,h,_⟩=>(by cases h)⟩
 | e::es,i=>by
  unfold madeD;rw[List.mem_append];refine⟨fun h=>?_,fun⟨j,e',h1,h2,h3⟩=>?_⟩
  ·rcases h with h | h
   ·split at h
    ·rename_i hd
     exact⟨0,e,rfl,hd,h⟩
    ·cases h
   ·obtain⟨j,e',h1,h2,h3⟩:=made_mem.1 h
    exact⟨j+1,e',by simpa using h1,by rw[show i+(j+1)=i+1+j by omega];exact h2,h3⟩
  ·cases j with
   | zero =>
    cases h1;rw[Nat.add_zero]at h2;exact .inl (by rw[if_pos h2];exact h3)
   | succ j=>exact .inr (made_mem.2 ⟨j,e',by simpa using h1,by rw[show i+1+j=i+(j+1) by omega];exact h2,h3⟩)
theorem cur_ext{g:Nat}:∀ {es:List Ef} {i:Nat} {c:SV},(∀(j:Nat) (e:Ef) q,es[j]?=some e->e.st=some q->q.1=g->D (i+j)=D' (i+j))->curD D g i es c=curD D' g i es c
 | [],_,_,_=>rfl
 | e::es,i,c,h=>by
  unfold curD;have hx:(match e.st with
    | some q=>if q.1=g/\D i=true then q.2 else c
    | none=>c)=(match e.st with
    | some q=>if q.1=g/\D' i=true then q.2 else c
    | none=>c):=by
   cases hs:e.st with
   | none=>rfl
   | some q =>
    dsimp only;by_cases hq:q.1=g
    ·have:=h 0 e q rfl hs hq
     rw[Nat.add_zero]at this;rw[this]
    ·rw[if_neg (fun c=>hq c.1),if_neg (fun c=>hq c.1)]
  rw[hx];exact cur_ext fun j e' q h1 h2 h3=>by
   have:=h (j+1) e' q (by simpa using h1) h2 h3;rwa [show i+(j+1)=i+1+j by omega]at this
theorem cur_take{g:Nat}:∀ {es:List Ef} {i k:Nat} {c:SV},curD D g i (es.take k) c=curD (fun j=>D j&&decide (j<i+k)) g i es c
 | [],_,_,_=>by rw[List.take_nil];rfl
 | e::es,i,0,c=>by
  rw[List.take_zero];have:∀(es:List Ef) (m:Nat) (c:SV),i<=m->curD (fun j=>D j&&decide (j<i+0)) g m es c=c:=by
   intro es
   induction es with
   | nil=>intro m c _;rfl
   | cons e es ih =>
    intro m c hm;unfold curD;rw[ih _ _ (Nat.le_succ_of_le hm)];cases hs:e.st with
    | none=>rfl
    | some q =>
     dsimp only;rw[if_neg];intro h;have h2:=h.2;rw[Bool.and_eq_true]at h2;have:=of_decide_eq_true h2.2;omega
  exact(this _ _ _ (Nat.le_refl _)).symm
 | e::es,i,k+1,c=>by
  rw[List.take_succ_cons];unfold curD;rw[cur_take (es:=es)];have e1:(fun j=>D j&&decide (j<i+1+k))=fun j=>D j&&decide (j<i+(k+1)):=by
   funext j
   rw[show i+1+k=i+(k+1) by omega]
  rw[e1];congr 1;cases hs:e.st with
  | none=>rfl
  | some q =>
   dsimp only;have:(D i&&decide (i<i+(k+1)))=D i:=by rw[decide_eq_true (by omega),Bool.and_true]
   rw[this]
theorem cur_mem{g:Nat}:∀ {es:List Ef} {i:Nat} {c:SV},curD D g i es c=c\/∃(j:Nat) (e:Ef),es[j]?=some e/\D (i+j)=true/\e.st=some (g,curD D g i es c)
 | [],_,_=>.inl rfl
 | e::es,i,c=>by
  unfold curD;rcases cur_mem (es:=es) (i:=i+1) (c:=match e.st with
    | some q=>if q.1=g/\D i=true then q.2 else c
    | none=>c)with h | ⟨j,e',h1,h2,h3⟩
  ·rw[h]
   cases hs:e.st with
   | none=>exact .inl rfl
   | some q =>
    dsimp only;by_cases hq:q.1=g/\D i=true
    ·rw[if_pos hq]
     exact .inr ⟨0,e,rfl,hq.2,by rw[hs,<- hq.1]⟩
    ·rw[if_neg hq]
     exact .inl rfl
  ·exact .inr ⟨j+1,e',by simpa using h1,by rw[show i+(j+1)=i+1+j by omega];exact h2,h3⟩
theorem cur_last{g:Nat}{c':SV}:∀ {es:List Ef} {i k:Nat} {c:SV} {e:Ef},es[k]?=some e->e.st=some (g,c')->D (i+k)=true->(∀(j:Nat) (f:Ef) q,k<j->es[j]?=some f->f.st=some q->q.1=g->D (i+j)=false)->curD D g i es c=c'
 | [],_,_,_,_,h,_,_,_=>by cases h
 | f::es,i,0,c,e,h,hs,hd,hn=>by
  cases h;unfold curD;rw[hs];dsimp only;rw[if_pos ⟨rfl,hd⟩];have:curD D g (i+1) es c'=curD (fun _=>false) g (i+1) es c':=cur_ext fun j f q h1 h2 h3=>by
   have:=hn (j+1) f q (Nat.succ_pos _) (by simpa using h1) h2 h3;rwa [show i+(j+1)=i+1+j by omega]at this
  rw[this];rcases cur_mem (D:=fun _=>false) (g:=g) (es:=es) (i:=i+1) (c:=c')with h | ⟨_,_,_,h,_⟩
  ·exact h
  ·cases h
 | f::es,i,k+1,c,e,h,hs,hd,hn=>by
  unfold curD;refine cur_last (k:=k) (by simpa using h) hs (by rw[show i+1+k=i+(k+1) by omega];exact hd) fun j f' q hj h1 h2 h3=>?_;have:=hn (j+1) f' q (Nat.succ_lt_succ hj) (by simpa using h1) h2 h3;rwa [show i+(j+1)=i+1+j by omega]at this
theorem stable_spec{m g:Nat}:∀ {es:List Ef} {i:Nat},stableB m g i es=true->∀(j:Nat) (e:Ef) q,es[j]?=some e->e.st=some q->q.1=g->m.testBit (i+j)=true
 | [],_,_,_,_,_,h,_,_=>by cases h
 | f::es,i,hB,0,e,q,h,hs,hq=>by
  cases h;unfold stableB at hB;rw[Bool.and_eq_true,hs]at hB;have:=hB.1;dsimp only at this;rw[Bool.or_eq_true]at this;rcases this with h | h
  ·rw[hq]at h;simp at h
  ·exact h
 | f::es,i,hB,j+1,e,q,h,hs,hq=>by
  unfold stableB at hB;rw[Bool.and_eq_true]at hB;have:=stable_spec hB.2 j e q (by simpa using h) hs hq;rwa [show i+(j+1)=i+1+j by omega]
theorem dstIx_none:∀ {l:List Oper} {t:Nat},dstIx l t=none->∀(i:Nat) o,l[i]?=some o->o.dst≠some t
 | [],_,_,_,_,h=>by cases h
 | o::l,t,h,i,o',hi=>by
  unfold dstIx at h
  split at h
  ·cases h
  ·rename_i e
   cases i with
   | zero=>cases hi;exact e
   | succ i=>exact dstIx_none (l:=l) (by cases hq:dstIx l t with
    | none=>rfl
    | some j=>rw[hq]at h;cases h) i o' (by simpa using hi)
theorem dstIx_some:∀ {l:List Oper} {t j:Nat},dstIx l t=some j->∃ o,l[j]?=some o/\o.dst=some t
 | [],_,_,h=>by cases h
 | o::l,t,j,h=>by
  unfold dstIx at h
  split at h
  ·rename_i e
   cases h;exact⟨o,rfl,e⟩
  ·cases hq:dstIx l t with
   | none=>rw[hq]at h;cases h
   | some i =>
    rw[hq]at h;cases h;obtain⟨q,h1,h2⟩:=dstIx_some hq;exact⟨q,by simpa using h1,h2⟩
end
end Go.Proofs.YtfmpjjhdocejiaaGreat.Sy
namespace Go.Proofs.YtfmpjjhdocejiaaGreat.Sy
open Go.RowKit
section
variable {E:Env} {γ0 γ γs δ:Pl} {N nx:Nat} {w0 ws w w' wx:World} {s:St} {a a0:Act} {o:Oper} {l:List Oper} {es:List Ef} {D D':Nat->Bool} {lk:Nat->Option SV} {M:Rows} {e:Ef} {p:List Ob} {P:Program} {K:Act->World->Prop} {X:Exit->Act->World->Prop}
theorem ow_value{v:Value}(hr:(execOp a.eval o).run P w=.ok (.value v) w')(h:K (a.put o.dst v) w'):o.wp P a w K X:=by
 unfold Oper.wp;rw[hr];exact h
theorem ow_unit(hr:(execOp a.eval o).run P w=.ok .skip w')(h:K (a.put o.dst undef) w'):o.wp P a w K X:=by
 unfold Oper.wp;rw[hr];exact h
theorem ow_made{f:FuncId}{args:Array Value}{Z:Ending->World->Prop}(hr:(execOp a.eval o).run P w=.ok (.enter f args) w)
  (hc:Calls P f args w Z) (h:∀ e w',Z e w'->∃ v,e=.returned v/\K (a.put o.dst v) w'):o.wp P a w K X:=by
 unfold Oper.wp;rw[hr];refine Calls.mono hc ?_;intro e w' hz;obtain⟨v,rfl,hh⟩:=h e w' hz;exact hh
structure OutE (nx:Nat) (γ δ:Pl) (M:Rows) (e:Ef) (v:Value) (w w':World):Prop where
 d:∀ t x,e.d=some (t,some x)->v=x.val δ/\x.ok/\x.lt (nx+8)=true
 R:∀ q∈e.R,q.2.1.ok/\q.2.1.lt (nx+8)=true/\nx<=q.1/\q.1<nx+8/\w.heap.size<=δ q.1/\w'.heap[δ q.1]?=some (.cells (q.2.1.cells δ).toArray q.2.2 (0,0))
 P:e.R.Pairwise fun p q=>δ p.1≠δ q.1
 n:e.st=none->Below w.heap.size w w'
 s:∀ g c,e.st=some (g,c)->e.R=[]/\c.ok/\c.lt nx=true/\(∃ y T,(g,y,T)∈M)/\w'=w.setRow (γ g) (c.cells γ).toArray
theorem OutE.val{d:Nat}{x:SV}(ho:x.ok)(hl:x.lt (nx+8)=true)(hb:Below w.heap.size w w'):OutE nx γ γ M ⟨some (d,some x),[],none⟩ (x.val γ) w w' :=
 ⟨fun t y h=>by cases h;exact⟨rfl,ho,hl⟩,fun q hq=>(by cases hq),.nil,fun _=>hb,fun g c h=>(by cases h)⟩
theorem OutE.one{d:Nat}{x y:SV}{T:TypeId}(hδ:∀ k,δ k=if k=nx then w.heap.size else γ k)(ho:x.ok)(hl:x.lt (nx+1)=true)(hy:y.ok)(hly:y.lt nx=true):OutE nx γ δ M ⟨some (d,some x),[(nx,y,T)],none⟩ (x.val δ) w (w.alloc (.cells (y.cells γ).toArray T)):=by
 have e:∀ k,k<nx->γ k=δ k:=fun k hk=>by rw[hδ,if_neg (by omega)]
 refine⟨fun t z h=>by cases h;exact⟨rfl,ho,SV.lt_mono (by omega) hl⟩,fun q hq=>?_,List.pairwise_singleton _ _,fun _=>(Below.refl _ _).alloc (Nat.le_refl _) _,fun g c h=>(by cases h)⟩;simp only[List.mem_cons,List.not_mem_nil,or_false]at hq;subst hq;refine⟨hy,SV.lt_mono (by omega) hly,Nat.le_refl _,by omega,by rw[hδ,if_pos rfl];exact Nat.le_refl _,?_⟩;show(w.alloc _).heap[δ nx]?=some (.cells (y.cells δ).toArray T (0,0));rw[hδ,if_pos rfl,<- (SV.lt_same e hly).2.1];exact heap_alloc_new _ _
theorem eff_d(h:effGo E N nx lk M o=some (e,p)):∀ t y,e.d=some (t,y)->o.dst=some t/\t<N:=by
 intro t y hd;obtain⟨op,ho⟩:∃ op,o.op=op:=⟨_,rfl⟩
 obtain⟨dst,hdst⟩:∃ d,o.dst=d:=⟨_,rfl⟩
 unfold effGo at h;rw[ho,hdst]at h;rw[hdst]
 split at h
 ·split at h
  ·split at h
   ·split at h
    ·rename_i r _
     cases hp:SV.put _ _ r.1 with
     | none=>rw[hp]at h;cases h
     | some c=>rw[hp]at h;cases h;cases hd
    ·cases h
   ·cases h
  ·cases h
 ·split at h
  ·split at h
   ·rename_i hN
    cases h;cases hd;exact⟨rfl,hN⟩
   ·cases h
  ·cases h
 ·split at h
  ·split at h
   ·rename_i hN
    cases h;cases hd;exact⟨rfl,hN.1⟩
   ·cases h
  ·cases h
 ·split at h
  ·split at h
   ·rename_i hN
    split at h
    ·cases h;cases hd;exact⟨rfl,hN.1⟩
    ·cases h
   ·cases h
  ·cases h
 ·split at h
  ·split at h
   ·split at h
    ·split at h
     ·rename_i hN
      cases h;cases hd;exact⟨rfl,hN⟩
     ·cases h
    ·cases h
   ·cases h
  ·split at h
   ·split at h
    ·rename_i hN
     cases h;cases hd;exact⟨rfl,hN⟩
    ·cases h
   ·cases h
 ·split at h
  ·split at h
   ·rename_i hN
    cases h;cases hd;exact⟨rfl,hN⟩
   ·cases h
  ·cases h
 ·cases h
theorem effGo_ok(G:E.Good γ0 w0)(hA:Agree E γ0 γ)(hb:E.base<=nx)(hk:Holds γ nx lk a)(hM:Lies γ nx M w)(hB:Below w0.heap.size w0 w)(h:effGo E N nx lk M o=some (e,p))(hp:All p)(hR:e.R.length<=8)
  (hK:∀ δ v w',(∀ g,g<nx->δ g=γ g)->OutE nx γ δ M e v w w'->K (a.put o.dst v) w'):o.wp E.P a w K X:=by
 obtain⟨op,ho⟩:∃ op,o.op=op:=⟨_,rfl⟩
 obtain⟨dst,hd⟩:∃ d,o.dst=d:=⟨_,rfl⟩
 have value:∀ {d:Nat} {r:SV} {p:List Ob},opVal E lk M o.op=some (r,p)->All p->e=⟨some (d,some r),[],none⟩->o.wp E.P a w K X:=fun hr hp he=>by
  have q:=opVal_ok G hA hb hk hM hB hr hp;exact ow_value q.1 (hK γ _ w (fun _ _=>rfl) (by rw[he];exact OutE.val q.2.1 (SV.lt_mono (Nat.le_add_right _ _) q.2.2) (Below.refl _ _)))
 unfold effGo at h;rw[ho,hd]at h
 split at h
 ·rename_i T x y
  split at h
  ·rename_i g off j z v ty hx1 hy1 ht
   split at h
   ·rename_i hh
    obtain⟨rfl,hv,hz⟩:=hh
    split at h
    ·rename_i r hr
     cases hput:SV.put v off r.1 with
     | none=>rw[hput]at h;cases h
     | some c =>
      rw[hput]at h;cases h;have q1:=opnd_ok hk hx1;have q2:=opnd_ok hk hy1;have tg:=(G.tys _ (tyIn_ok ht).1).sz;rw[(tyIn_ok ht).2,<- hz]at tg;have hm:=hM _ (rowIn_ok hr);have hst:=store_ok (P:=E.P) hm.1 tg hput hv;have pk:=SV.put_ok γ hput;refine ow_unit (w':=w.setRow (γ g) (c.cells γ).toArray) ?_ (hK γ _ _ (fun _ _=>rfl) ⟨fun t y h=>(by cases h),fun q hq=>(by cases hq),.nil,fun h=>(by cases h),fun g' c' h=>?_⟩)
      ·unfold execOp
       rw[ho];have e:a.eval x=.pointer (some ⟨γ g,off,none⟩):=by
        rw[q1.1];show Value.pointer (some ⟨γ g,off+j*0,none⟩)=_;rw[Nat.mul_zero,Nat.add_zero]
       simp only[e,q2.1,Sem.run_bind,hst,Result.andThen_ok,Sem.run_pure]
      ·cases h
       exact⟨rfl,pk.ok hm.2.1 q2.2.1,pk.lt _ hm.2.2 q2.2.2,⟨_,_,rowIn_ok hr⟩,rfl⟩
    ·cases h
   ·cases h
  ·cases h
 ·rename_i T d
  split at h
  ·rename_i ty ht
   split at h
   ·cases h
    have tg:=G.tys _ (tyIn_ok ht).1;obtain⟨δ,hδ⟩:∃ δ:Pl,∀ k,δ k=if k=nx then w.heap.size else γ k:=⟨_,fun _=>rfl⟩
    have hz:=tg.zero;rw[(tyIn_ok ht).2,(SV.lt_same (γ:=fun _=>0) (δ:=γ) (n:=0) (fun k hk=>absurd hk (Nat.not_lt_zero _)) tg.zlt).2.1]at hz;refine ow_value (v:=.pointer (some ⟨w.heap.size,0,none⟩)) (w':=w.alloc (.cells (ty.zero.cells γ).toArray T)) ?_ (hK δ _ _ (fun k hk=>by rw[hδ,if_neg (by omega)]) ?_)
    ·unfold execOp
     rw[ho];cases hi:E.P.info? T with
     | none=>rw[hi]at hz;cases hz
     | some it =>
      rw[hi]at hz;cases hzz:it.zero with
      | none=>rw[Option.bind_some,hzz]at hz;cases hz
      | some zv =>
       rw[Option.bind_some,hzz]at hz;have hz':zv.cells=(ty.zero.cells γ).toArray:=Option.some.inj hz;simp[Instr.alloc,zeroValue,typeInfo,hi,hzz,newVar,newRow,hz']
    ·have:=OutE.one (M:=M) (d:=d) (x:=.p nx 0 0 0) (T:=T) hδ trivial (decide_eq_true (Nat.lt_succ_self _)) tg.zok (SV.lt_mono (Nat.zero_le _) tg.zlt)
     have q:(SV.p nx 0 0 0).val δ=.pointer (some ⟨w.heap.size,0,none⟩):=by
      show Value.pointer (some ⟨δ nx,0+0*0,none⟩)=_;rw[hδ,if_pos rfl]
     rwa [q]at this
   ·cases h
  ·cases h
 ·rename_i T x d
  split at h
  ·rename_i v hv
   split at h
   ·rename_i hh
    cases h;have q:=opnd_ok hk hv;obtain⟨δ,hδ⟩:∃ δ:Pl,∀ k,δ k=if k=nx then w.heap.size else γ k:=⟨_,fun _=>rfl⟩
    refine ow_value (v:=.pointer (some ⟨w.heap.size,0,none⟩)) (w':=w.alloc (.cells (v.cells γ).toArray T)) (run_box ho q.1 ?_) (hK δ _ _ (fun k hk=>by rw[hδ,if_neg (by omega)]) ?_)
    ·rcases SV.plain_any hh.2 with h1 | h1
     ·rw[SV.val_one h1,cells_one (SV.one_cell h1)]
     ·rw[SV.val_many h1]
      rfl
    ·have:=OutE.one (M:=M) (d:=d) (x:=.p nx 0 0 0) (T:=T) hδ trivial (decide_eq_true (Nat.lt_succ_self _)) q.2.1 q.2.2
     have q:(SV.p nx 0 0 0).val δ=.pointer (some ⟨w.heap.size,0,none⟩):=by
      show Value.pointer (some ⟨δ nx,0+0*0,none⟩)=_;rw[hδ,if_pos rfl]
     rwa [q]at this
   ·cases h
  ·cases h
 ·rename_i T n parts d
  split at h
  ·rename_i b l hb' hl
   split at h
   ·rename_i hc
    split at h
    ·rename_i r hr
     cases h;obtain⟨hbm,hbT,hbn⟩:=bsIn_ok hb';have bg:=G.bss _ hbm;have q:=partsOf_ok hk hl;have hall:=List.all_eq_true.1 hc.2;have hfo:=fillS_okay hr q.2 bg.ok (SV.lt_mono (Nat.zero_le _) bg.lt);obtain⟨δ,hδ⟩:∃ δ:Pl,∀ k,δ k=if k=nx then w.heap.size else γ k:=⟨_,fun _=>rfl⟩
     refine ow_value (v:=.slice (some ⟨w.heap.size,0,none⟩) n n) (w':=w.alloc (.cells (r.cells γ).toArray b.e)) ?_ (hK δ _ _ (fun k hk=>by rw[hδ,if_neg (by omega)]) ?_)
     ·have hfill:=fill_ok (γ:=γ) hr (fun x hx=>by have:=hall x hx;rw[Bool.and_eq_true]at this;exact this.2)
      have hz:=bg.z;rw[(SV.lt_same (γ:=fun _=>0) (δ:=γ) (n:=0) (fun k hk=>absurd hk (Nat.not_lt_zero _)) bg.lt).2.1]at hz;have hu:=bg.u;rw[hbT]at hu;have hfew:=of_decide_eq_false bg.few;have hpos:=of_decide_eq_false bg.pos;rw[hbn]at hz hfew hpos;cases hi:E.P.info? b.e with
      | none=>rw[hi]at hz;cases hz
      | some it =>
       have hs:=bg.i;rw[hi]at hz hs;have hs':it.size=b.sz:=Option.some.inj hs;cases hzz:it.zero with
       | none=>rw[Option.bind_some,hzz]at hz;cases hz
       | some zv =>
        rw[Option.bind_some,hzz]at hz;have hz':(Array.range (n*b.sz)).map (zv.cells[·%zv.cells.size]!)=(b.zs.cells γ).toArray:=Option.some.inj hz;have hfc:Instr.fill (fun i=>some (i*b.sz,b.sz)) (b.zs.cells γ).toArray (l.map fun x=>(x.1,x.2.val γ))=some (r.cells γ).toArray:=by
         rw[<- hfill];refine fill_congr fun x hx=>?_;obtain⟨y,hy,rfl⟩:=List.mem_map.1 hx;have hlt:y.1<n:=by
          have:=hall y hy;rw[Bool.and_eq_true]at this;exact of_decide_eq_true this.1
         simp[hlt]
        unfold execOp;rw[ho];have hrun:(Instr.buildSlice T n (parts.map fun(x:Nat × Operand)=>(x.1,a.eval x.2))).run E.P w=.ok (.slice (some ⟨w.heap.size,0,none⟩) n n) (w.alloc (.cells (r.cells γ).toArray b.e)):=by
         simp[Instr.buildSlice,run_underlying hu,sizeOf,typeInfo,hi,hs',hfew,hpos,zeroValue,hzz,hz',q.1,hfc,newRow]
        show(do let v <- Instr.buildSlice T n (parts.map fun(x:Nat × Operand)=>(x.1,a.eval x.2));pure (.value v):Sem Next).run E.P w=_;rw[Sem.run_bind,hrun,Result.andThen_ok,Sem.run_pure]
     ·have:=OutE.one (M:=M) (d:=d) (x:=.s nx 0 n n) (T:=b.e) hδ trivial (decide_eq_true (Nat.lt_succ_self _)) hfo.1 hfo.2
      have q:(SV.s nx 0 n n).val δ=.slice (some ⟨w.heap.size,0,none⟩) n n:=by
       show Value.slice (some ⟨δ nx,0,none⟩) n n=_;rw[hδ,if_pos rfl]
      rwa [q]at this
    ·cases h
   ·cases h
  ·cases h
 ·rename_i c d
  split at h
  ·rename_i f hf
   split at h
   ·rename_i l hl
    split at h
    ·rename_i r p' R' hr
     split at h
     ·cases h
      have q:=opnds_ok hk hl;have g:=G.ctr _ _ _ _ _ _ _ hr hp hb q.2 (fun r hr=>⟨(hM r hr).2.1,(hM r hr).2.2⟩);have e:c.args.map a.eval=(l.map (·.val γ)).toArray:=by
       apply Array.ext';rw[Array.toList_map];exact q.1
      have hR':R'.length<=8:=hR;refine ow_made (Z:=Made γ nx r R' w) ((congrArg (fun m=>Sem.run E.P m w) (run_callFunc ho hf)).trans (g.2.2.2.1 _ _)) ?_ fun e w' hz=>?_
      ·rw[e]
       exact g.2.2.2.2 γ hA w hB hM
      ·obtain⟨⟨δ,h1,h2,h3,h4⟩,h5⟩:=hz
       refine⟨_,h2,hK δ _ _ h1 ⟨fun t x hx=>?_,fun q hq=>?_,h4,fun _=>h5,fun g c h=>(by cases h)⟩⟩
       ·cases hx
        exact⟨rfl,g.1,SV.lt_mono (by omega) g.2.1⟩
       ·have:=g.2.2.1 q hq
        have h6:=h3 q hq;exact⟨this.1,SV.lt_mono (by omega) this.2.1,this.2.2.1,by omega,h6⟩
     ·cases h
    ·cases h
   ·cases h
  ·split at h
   ·rename_i r p' hr
    split at h
    ·cases h
     exact value (by rw[ho];exact hr) hp rfl
    ·cases h
   ·cases h
 ·rename_i op' d _ _ _ _ _
  split at h
  ·rename_i r p' hr
   split at h
   ·cases h
    exact value (by rw[ho];exact hr) hp rfl
   ·cases h
  ·cases h
 ·cases h
theorem effAt_d{gs:Option SV}(h:effAt E N nx gs lk M o=some (e,p)):∀ t y,e.d=some (t,y)->o.dst=some t/\t<N:=by
 intro t y hd;unfold effAt at h
 split at h
 ·exact eff_d h t y hd
 ·split at h
  ·split at h
   ·exact eff_d h t y hd
   ·split at h
    ·rename_i hdst
     split at h
     ·rename_i hN
      cases h;cases hd;exact⟨hdst,hN⟩
     ·cases h
    ·cases h
     cases hd
  ·split at h
   ·rename_i _ d x p' _ hx
    split at h
    ·cases h
     cases hd;exact eff_d hx _ _ rfl
    ·cases h
   ·cases h
  ·cases h
theorem eff_st(h:effGo E N nx lk M o=some (e,p)):∀ g c,e.st=some (g,c)->∃ y T,(g,y,T)∈M:=by
 intro g c hs;obtain⟨op,ho⟩:∃ op,o.op=op:=⟨_,rfl⟩
 obtain⟨dst,hdst⟩:∃ d,o.dst=d:=⟨_,rfl⟩
 unfold effGo at h;rw[ho,hdst]at h
 split at h
 ·split at h
  ·split at h
   ·split at h
    ·rename_i r hr
     cases hp:SV.put _ _ r.1 with
     | none=>rw[hp]at h;cases h
     | some c =>
      rw[hp]at h;cases h;cases hs;exact⟨_,_,rowIn_ok hr⟩
    ·cases h
   ·cases h
  ·cases h
 ·split at h
  ·split at h
   ·cases h;cases hs
   ·cases h
  ·cases h
 ·split at h
  ·split at h
   ·cases h;cases hs
   ·cases h
  ·cases h
 ·split at h
  ·split at h
   ·split at h
    ·cases h;cases hs
    ·cases h
   ·cases h
  ·cases h
 ·split at h
  ·split at h
   ·split at h
    ·split at h
     ·cases h;cases hs
     ·cases h
    ·cases h
   ·cases h
  ·split at h
   ·split at h
    ·cases h;cases hs
    ·cases h
   ·cases h
 ·split at h
  ·split at h
   ·cases h;cases hs
   ·cases h
  ·cases h
 ·cases h
theorem effAt_st{gs:Option SV}(h:effAt E N nx gs lk M o=some (e,p)):∀ g c,e.st=some (g,c)->∃ y T,(g,y,T)∈M:=by
 intro g c hs;unfold effAt at h
 split at h
 ·exact eff_st h g c hs
 ·split at h
  ·split at h
   ·exact eff_st h g c hs
   ·split at h
    ·split at h
     ·cases h
      cases hs
     ·cases h
    ·cases h
     cases hs
  ·split at h
   ·split at h
    ·cases h
     cases hs
    ·cases h
   ·cases h
  ·cases h
theorem effAt_ok{gs:Option SV}{ops:Array Oper}(G:E.Good γ0 w0)(hA:Agree E γ0 γ)(hb:E.base<=nx)(hk:Holds γ nx lk a)(hM:Lies γ nx M w)(hB:Below w0.heap.size w0 w)(hg:∀ j b x,o.guard=some (j,b)->gs=some x->∃ d,(ops[j]?).bind (·.dst)=some d/\lk d=some x)
  (h:effAt E N nx gs lk M o=some (e,p)) (hp:All p) (hR:e.R.length<=8) (hK:∀ δ v w',(∀ g,g<nx->δ g=γ g)->OutE nx γ δ M e v w w'->K (a.put o.dst v) w'):if Region.wanted o (yielded ops a.tmps)=true then o.wp E.P a w K X else K (a.put o.dst undef) w:=by
 have go:Region.wanted o (yielded ops a.tmps)=true->o.wp E.P a w K X->if Region.wanted o (yielded ops a.tmps)=true then o.wp E.P a w K X else K (a.put o.dst undef) w:=fun h1 h2=>by rw[if_pos h1];exact h2
 have no:Region.wanted o (yielded ops a.tmps)=false->K (a.put o.dst undef) w->if Region.wanted o (yielded ops a.tmps)=true then o.wp E.P a w K X else K (a.put o.dst undef) w:=fun h1 h2=>by rw[if_neg (by rw[h1];simp)];exact h2
 unfold effAt at h
 split at h
 ·rename_i hgd
  exact go (by unfold Region.wanted;rw[hgd]) (effGo_ok G hA hb hk hM hB h hp hR hK)
 ·rename_i j b hgd
  split at h
  ·rename_i t
   obtain⟨d',he,hl⟩:=hg j b _ hgd rfl;have hv:=(hk _ _ hl).1
   split at h
   ·rename_i htb
    subst htb;exact go (wanted_of hgd he hv) (effGo_ok G hA hb hk hM hB h hp hR hK)
   ·rename_i htb
    have hw:=unwanted_of hgd he hv (by cases t <;> cases b <;> first | rfl | exact absurd rfl htb)
    split at h
    ·split at h
     ·cases h
      exact no hw (hK γ _ _ (fun _ _=>rfl) ⟨fun t y h=>(by cases h),fun q hq=>(by cases hq),.nil,fun _=>Below.refl _ _,fun g c h=>(by cases h)⟩)
     ·cases h
    ·cases h
     exact no hw (hK γ _ _ (fun _ _=>rfl) ⟨fun t y h=>(by cases h),fun q hq=>(by cases hq),.nil,fun _=>Below.refl _ _,fun g c h=>(by cases h)⟩)
  ·rename_i gx _
   obtain⟨d',he,hl⟩:=hg j b _ hgd rfl;have hv:=(hk _ _ hl).1
   split at h
   ·rename_i e' d x p' hge hx
    have hw:=wanted_eff hgd he hv hge
    split at h
    ·rename_i hlt
     cases h;have hp1:e'=true->All p':=underG_ok fun q hq=>hp q (List.mem_append_left _ hq);have hp2:All (condG e' lk (tmpsOf o)):=fun q hq=>hp q (List.mem_append_right _ hq);cases e' with
     | true =>
      have hk':Holds γ nx (lkG lk (tmpsOf o)) a:=fun u y hy=>by
       obtain⟨z,h1,h2,h3,h4⟩:=lkG_ok (γ:=γ) (n:=nx) hy hp2 rfl;have:=hk u z h1;exact⟨this.1.trans h4,h2 this.2.1,h3 this.2.2⟩
      refine go hw (effGo_ok G hA hb hk' hM hB hx (hp1 rfl) (Nat.zero_le _) fun δ v w' hδ hO=>hK δ v w' hδ ⟨fun u y h=>?_,fun q hq=>(by cases hq),.nil,fun _=>hO.n rfl,fun g c h=>(by cases h)⟩);cases h;have q:=hO.d d x rfl;exact⟨q.1,fun _=>q.2.1,hlt⟩
     | false =>
      refine no hw (hK γ _ _ (fun _ _=>rfl) ⟨fun u y h=>?_,fun q hq=>(by cases hq),.nil,fun _=>Below.refl _ _,fun g c h=>(by cases h)⟩);cases h;exact⟨rfl,fun h=>(by cases h),hlt⟩
    ·cases h
   ·cases h
  ·cases h
end
end Go.Proofs.YtfmpjjhdocejiaaGreat.Sy
namespace Go.Proofs.YtfmpjjhdocejiaaGreat.Sy
open Go.RowKit
structure PassAt (E:Env) (N:Nat) (l:List Oper) (ms:List (Nat × Nat)) (s:St) (es:List Ef) (ps:List Ob) (k:Nat) (o:Oper) (e:Ef):Prop where
 eff:∃ p,effAt E N (s.n+8*k) (gsl l (lkW l (lookN ms k) (es.take k) s.S) o) (lkW l (lookN ms k) (es.take k) s.S) (seenM (lookN ms k) o (es.take k) s.M) o=some (e,p)/\∀ q∈p,q∈ps
 ok:okEf s.n l ms (es.take k) s.M k e=true
structure RelD (E:Env) (γ0 γs γ:Pl) (N:Nat) (w0:World) (s:St) (l:List Oper) (es:List Ef) (a0:Act) (D:Nat->Bool) (a:Act) (w:World):Prop where
 old:∀ g,g<s.n->γ g=γs g
 z:a.tmps.size=N
 d:a.defers=[]
 kp:∀ t,(∀(i:Nat) o,l[i]?=some o->D i=true->o.dst≠some t)->a.tmps.getD t undef=a0.tmps.getD t undef
 sl:∀(i:Nat) (e:Ef) t x,es[i]?=some e->D i=true->e.d=some (t,some x)->a.tmps.getD t undef=x.val γ/\x.ok/\x.lt (s.n+8*(i+1))=true
 rk:∀(i:Nat) (e:Ef),es[i]?=some e->D i=true->∀ q∈e.R,q.2.1.ok/\q.2.1.lt (s.n+8*(i+1))=true/\s.n+8*i<=q.1/\q.1<s.n+8*(i+1)
 sk:∀(i:Nat) (e:Ef) g c,es[i]?=some e->D i=true->e.st=some (g,c)->c.ok/\c.lt (s.n+8*i)=true
 b:Below w0.heap.size w0 w
 rows:∀ r∈rowsD D es s.M,w0.heap.size<=γ r.1/\w.heap[γ r.1]?=some (.cells (r.2.1.cells γ).toArray r.2.2 (0,0))
 nd:∀ r∈rowsD D es s.M,∀ q∈rowsD D es s.M,r.1≠q.1->γ r.1≠γ q.1
section
variable {E:Env} {γ0 γ γs δ:Pl} {N nx:Nat} {w0 ws w w' wx:World} {s:St} {a a0:Act} {o:Oper} {l:List Oper} {es:List Ef} {D D':Nat->Bool} {ps:List Ob} {Q:Post} {X:Exit->Act->World->Prop} {k:St->Tr}
theorem passX_ok{ms:List (Nat × Nat)}:∀ {r:List Oper} {es0 es:List Ef} {ps0 ps:List Ob},passX E N l ms s r es0 ps0=some (es,ps)->(∀(i:Nat) e,es0[i]?=some e->es[i]?=some e)/\es.length=es0.length+r.length/\(∀ q∈ps0,q∈ps) /\
  ∀(i:Nat) o,r[i]?=some o->∃ e,es[es0.length+i]?=some e/\PassAt E N l ms s es ps (es0.length+i) o e
 | [],es0,es,ps0,ps,h=>by
  cases h;exact⟨fun _ _ h=>h,rfl,fun _ h=>h,fun i o h=>(by cases h)⟩
 | o::r,es0,es,ps0,ps,h=>by
  unfold passX at h
  split at h
  ·rename_i e p he
   split at h
   ·rename_i hok
    obtain⟨h1,h2,h3,h4⟩:=passX_ok h;have hpre:∀(i:Nat) f,es0[i]?=some f->es[i]?=some f:=fun i f hf=>h1 i f (by rw[List.getElem?_append_left (List.getElem?_eq_some_iff.1 hf).1];exact hf);have htk:es.take es0.length=es0:=by
     apply List.ext_getElem?;intro j;rw[List.getElem?_take]
     split
     ·rename_i hj
      rw[List.getElem?_eq_getElem hj];exact hpre j _ (List.getElem?_eq_getElem hj)
     ·rw[List.getElem?_eq_none (by omega)]
    refine⟨hpre,by rw[h2];simp only[List.length_append,List.length_cons,List.length_nil];omega,fun q hq=>h3 q (List.mem_append_left _ hq),fun i oi hi=>?_⟩;cases i with
    | zero =>
     cases hi;refine⟨e,h1 _ _ (by rw[Nat.add_zero,List.getElem?_append_right (Nat.le_refl _),Nat.sub_self];rfl),?_⟩;rw[Nat.add_zero];exact⟨⟨p,by rw[htk];exact he,fun q hq=>h3 q (List.mem_append_right _ hq)⟩,by rw[htk];exact hok⟩
    | succ i =>
     have:=h4 i oi (by simpa using hi);simp only[List.length_append,List.length_cons,List.length_nil]at this;rw[show es0.length+(i+1)=es0.length+(0+1)+i by omega];exact this
   ·cases h
  ·cases h
theorem pair_all{α:Type}{R:α->α->Prop}(hs:∀ x y,R x y->R y x):∀ {l:List α},l.Pairwise R->∀ x∈l,∀ y∈l,x≠y->R x y
 | [],_,x,hx,_,_,_=>by cases hx
 | z::l,h,x,hx,y,hy,hne=>by
  obtain⟨h1,h2⟩:=List.pairwise_cons.1 h;rcases List.mem_cons.1 hx with ex | hx
  ·rcases List.mem_cons.1 hy with ey | hy
   ·exact absurd (ex.trans ey.symm) hne
   ·rw[ex];exact h1 y hy
  ·rcases List.mem_cons.1 hy with ey | hy
   ·rw[ey];exact hs _ _ (h1 x hx)
   ·exact pair_all hs h2 x hx y hy hne
theorem rows_mem{r:Nat × SV × TypeId}{M:Rows}:r∈rowsD D es M↔∃ c,(r.1,c,r.2.2)∈madeD D 0 es++M/\r.2.1=curD D r.1 0 es c:=by
 unfold rowsD;rw[List.mem_map];refine⟨fun⟨q,hq,e⟩=>?_,fun⟨c,hc,e⟩=>⟨(r.1,c,r.2.2),hc,?_⟩⟩
 ·subst e
  exact⟨q.2.1,hq,rfl⟩
 ·show(r.1,curD D r.1 0 es c,r.2.2)=r
  rw[<- e]
theorem mask_done{ms:List (Nat × Nat)}(hms:ms=masksA l 0 [])(hr:rankB l.toArray (fun i=>i)=true)(hcl:∀(i:Nat) o,l[i]?=some o->D i=true->∀ e∈o.after,Region.binds .any e=true->D e.on=true) :
  ∀(k:Nat) o,l[k]?=some o->(∀ e∈o.after,Region.binds .any e=true->D e.on=true)->∀ j,(lookN ms k).testBit j=true->D j=true/\j<k:=by
 have rank:∀(i:Nat) o,l[i]?=some o->∀ e∈o.after,Region.binds .any e=true->e.on<i:=fun i o ho e he hb=>by
  have hl:=hr;unfold rankB at hl;rw[List.all_eq_true]at hl;have:=hl i (by simpa using(List.getElem?_eq_some_iff.1 ho).1);rw[show l.toArray[i]?=some o by simpa using ho]at this;simp only[Array.all_eq_true_iff_forall_mem]at this;have hlt:=this e he;rw[hb]at hlt;simpa using hlt
 have sp:=masks_spec (l:=l) (i:=0) (acc:=[]) (fun t _=>rfl);intro k
 induction k using Nat.strongRecOn with
 | ind k ih =>
  intro o ho hd j hj;rw[hms,show k=0+k by omega]at hj;obtain⟨e,h1,h2,h3⟩:=sp k o ho j hj;have hon:=rank k o ho e h1 h2;rcases h3 with h3 | h3
  ·rw[h3]
   exact⟨hd e h1 h2,hon⟩
  ·have hlt:e.on<l.length:=Nat.lt_trans hon (List.getElem?_eq_some_iff.1 ho).1
   have:=ih e.on hon l[e.on] (List.getElem?_eq_getElem hlt) (hcl e.on _ (List.getElem?_eq_getElem hlt) (hd e h1 h2)) j (by rw[hms];exact h3);exact⟨this.1,Nat.lt_trans this.2 hon⟩
theorem idOk_out{n0 k i m g:Nat}(h:idOk n0 i m g=true)(hne:i≠k)(hm:m.testBit k=false):¬(n0+8*k<=g/\g<n0+8*(k+1)):=by
 intro hc;have hq:(g - n0) / 8=k:=by omega
 unfold idOk at h;rw[hq,Bool.or_eq_true,Bool.or_eq_true]at h;rcases h with h | h | h
 ·have:=of_decide_eq_true h;omega
 ·exact hne (of_decide_eq_true h).symm
 ·rw[hm]at h;cases h
theorem stepD(G:E.Good γ0 w0){ms:List (Nat × Nat)}(hms:ms=masksA l 0 [])(hdist:distinctB l=true)(hr0:rankB l.toArray (fun i=>i)=true)(hp:All ps)(hlen:es.length=l.length)(hpass:∀(i:Nat) o,l[i]?=some o->∃ e,es[i]?=some e/\PassAt E N l ms s es ps i o e)
  (R0:Rel E γ0 γs N w0 s a0 ws) (hcl:∀(i:Nat) o,l[i]?=some o->D i=true->∀ e∈o.after,Region.binds .any e=true->D e.on=true) {k:Nat} (hk:l[k]?=some o) (hD:D k=false) (hrd:∀ e∈o.after,Region.binds .any e=true->D e.on=true)
  (hD1:D' k=true) (hD2:∀ i,i≠k->D' i=D i) (h:RelD E γ0 γs γ N w0 s l es a0 D a w) {K:Act->World->Prop} (hK:∀ γ' v w',RelD E γ0 γs γ' N w0 s l es a0 D' (a.put o.dst v) w'->K (a.put o.dst v) w') :
  if Region.wanted o (yielded l.toArray a.tmps)=true then o.wp E.P a w K X else K (a.put o.dst undef) w:=by
 obtain⟨e,hek,⟨p,heff,hpp⟩,hok⟩:=hpass k o hk;have hkl:k<es.length:=(List.getElem?_eq_some_iff.1 hek).1;have mk:=mask_done hms hr0 hcl k o hk hrd;have mi:∀(i:Nat) f,es[i]?=some f->D i=true->(lookN ms i).testBit k=false:=fun i f hf hi=>by
  have hil:i<l.length:=hlen ▸ (List.getElem?_eq_some_iff.1 hf).1;cases hb:(lookN ms i).testBit k with
  | false=>rfl
  | true =>
   have:=mask_done hms hr0 hcl i l[i] (List.getElem?_eq_getElem hil) (hcl i _ (List.getElem?_eq_getElem hil) hi) k hb;rw[hD]at this;exact absurd this.1 (by simp)
 have tk:∀(i:Nat),i<k->(es.take k)[i]?=es[i]?:=fun i hi=>List.getElem?_take_of_lt hi;have tkk:∀ {i:Nat} {f:Ef},(es.take k)[i]?=some f->i<k/\es[i]?=some f:=fun {i f} hf=>by
  rw[List.getElem?_take]at hf
  split at hf
  ·rename_i hi;exact⟨hi,hf⟩
  ·cases hf
 have okOf:∀(i:Nat) f,es[i]?=some f->okEf s.n l ms (es.take i) s.M i f=true:=fun i f hf=>by
  have hil:i<l.length:=hlen ▸ (List.getElem?_eq_some_iff.1 hf).1;obtain⟨f',h1,h2⟩:=hpass i l[i] (List.getElem?_eq_getElem hil);rw[hf]at h1;cases h1;exact h2.ok
 -- a later store is not done where one reads
 have later:∀(i:Nat) f g c,k<i->es[i]?=some f->f.st=some (g,c)->(seenM (lookN ms k) o (es.take k) s.M).any (fun r=>r.1 == g)=true->D i=false:=fun i f g c hi hf hst hu=>by
  cases hdi:D i with
  | false=>rfl
  | true =>
   have ho:=okOf i f hf;unfold okEf at ho;rw[hst]at ho;simp only[Bool.and_eq_true,List.all_eq_true]at ho;have h1:=ho.2.2.2 k (List.mem_range.2 hi);have hu':usedBy l ms (es.take i) s.M g k=true:=by
    unfold usedBy;rw[hk];dsimp only;rw[List.take_take,Nat.min_eq_left (Nat.le_of_lt hi)];exact hu
   rw[hu',mi i f hf hdi]at h1;cases h1
 have hN0:E.base<=s.n+8*k:=Nat.le_trans R0.base (Nat.le_add_right _ _);have hA:Agree E γ0 γ:=fun g hg=>(h.old g (Nat.lt_of_lt_of_le hg R0.base)).trans (R0.ag g hg);have oldV:∀ {x:SV},x.lt s.n=true->x.val γs=x.val γ/\x.cells γs=x.cells γ:=fun {x} hx=>by
  have:=SV.lt_same (γ:=γs) (δ:=γ) (fun g hg=>(h.old g hg).symm) hx;exact⟨this.2.2,this.2.1⟩
 -- what it reads
 have hH:Holds γ (s.n+8*k) (lkW l (lookN ms k) (es.take k) s.S) a:=fun t x hx=>by
  unfold lkW at hx
  split at hx
  ·rename_i h0
   have:=R0.k t x hx;refine⟨?_,this.2.1,SV.lt_mono (Nat.le_add_right _ _) this.2.2⟩;rw[h.kp t (fun i o' hi _=>dstIx_none h0 i o' hi),this.1,(oldV this.2.2).1]
  ·rename_i j hj
   split at hx
   ·rename_i hb
    obtain⟨f,hf,hfd⟩:=Option.bind_eq_some_iff.1 hx;obtain⟨q,hq,hq2⟩:=Option.bind_eq_some_iff.1 hfd;obtain⟨hjk,hfj⟩:=tkk hf;obtain⟨oj,h1,h2⟩:=dstIx_some hj;obtain⟨f',h3,⟨p',h4,_⟩,_⟩:=hpass j oj h1;rw[hfj]at h3;cases h3;have h5:=(effAt_d h4 q.1 q.2 hq).1;rw[h2]at h5;have h6:q=(t,some x):=by
     cases q;cases h5;cases hq2;rfl
    rw[h6]at hq;have:=h.sl j f t x hfj (mk j hb).1 hq;exact⟨this.1,this.2.1,SV.lt_mono (by omega) this.2.2⟩
   ·cases hx
 have hS:∀ r∈seenM (lookN ms k) o (es.take k) s.M,r∈rowsD D es s.M/\r.2.1.ok/\r.2.1.lt (s.n+8*k)=true:=fun r hr=>by
  have hr0:=hr;unfold seenM at hr
  split at hr
  ·rw[List.mem_filter]at hr
   obtain⟨hr1,hst⟩:=hr;obtain⟨c,hc,he⟩:=rows_mem.1 hr1;have hst':=stable_spec hst;have hany:(seenM (lookN ms k) o (es.take k) s.M).any (fun q=>q.1 == r.1)=true:=List.any_eq_true.2 ⟨r,hr0,by simp⟩;have e1:r.2.1=curD D r.1 0 es c:=by
    rw[he,cur_take];refine cur_ext fun j f q h1 h2 h3=>?_;obtain⟨q1,q2⟩:=q;dsimp only at h3;subst h3;rw[Nat.zero_add];rcases Nat.lt_trichotomy j k with hj | hj | hj
    ·have hb:=hst' j f (r.1,q2) (by rw[tk j hj];exact h1) h2 rfl
     rw[Nat.zero_add]at hb;rw[hb,(mk j hb).1];simp[hj]
    ·subst hj
     rw[hD];simp
    ·rw[later j f r.1 q2 hj h1 h2 hany]
     simp[Nat.not_lt.2 (Nat.le_of_lt hj)]
   have hmem:(r.1,c,r.2.2)∈madeD D 0 es++s.M:=by
    rcases List.mem_append.1 hc with hc | hc
    ·obtain⟨j,f,h1,h2,h3⟩:=made_mem.1 hc
     rw[Nat.zero_add]at h2;exact List.mem_append_left _ (made_mem.2 ⟨j,f,(tkk h1).2,by rw[Nat.zero_add];exact(mk j h2).1,h3⟩)
    ·exact List.mem_append_right _ hc
   have hin:r∈rowsD D es s.M:=rows_mem.2 ⟨c,hmem,e1⟩;refine⟨hin,?_⟩;have hcc:c.ok/\c.lt (s.n+8*k)=true:=by
    rcases List.mem_append.1 hc with hc | hc
    ·obtain⟨j,f,h1,h2,h3⟩:=made_mem.1 hc
     rw[Nat.zero_add]at h2;have:=h.rk j f (tkk h1).2 (mk j h2).1 _ h3;exact⟨this.1,SV.lt_mono (by have:=(tkk h1).1;omega) this.2.1⟩
    ·have:=R0.m _ hc
     exact⟨this.1,SV.lt_mono (Nat.le_add_right _ _) this.2.1⟩
   rcases cur_mem (D:=fun i=>(lookN ms k).testBit i) (g:=r.1) (es:=es.take k) (i:=0) (c:=c)with h1 | ⟨j,f,h1,h2,h3⟩
   ·rw[he,h1]
    exact hcc
   ·rw[<- he]at h3
    rw[Nat.zero_add]at h2;have:=h.sk j f r.1 r.2.1 (tkk h1).2 (mk j h2).1 h3;exact⟨this.1,SV.lt_mono (by have:=(tkk h1).1;omega) this.2⟩
  ·cases hr
 have hL:Lies γ (s.n+8*k) (seenM (lookN ms k) o (es.take k) s.M) w:=fun r hr=>⟨(h.rows r (hS r hr).1).2,(hS r hr).2⟩
 have hR8:e.R.length<=8:=by
  have ho:=hok;unfold okEf at ho;simp only[Bool.and_eq_true,decide_eq_true_eq]at ho;exact ho.2.1
 refine effAt_ok (ops:=l.toArray) G hA hN0 hH hL h.b (fun j b x hg hgs=>?_) heff (fun q hq=>hp q (hpp q hq)) hR8 fun δ v w' hδ hO=>?_
 ·unfold gsl at hgs
  rw[hg]at hgs;rw[Option.bind_some]at hgs;obtain⟨d',h1,h2⟩:=Option.bind_eq_some_iff.1 hgs;exact⟨d',by simpa using h1,h2⟩
 -- behind it
 obtain⟨γ',hγ'⟩:∃ γ':Pl,∀ g,γ' g=if s.n+8*k<=g/\g<s.n+8*(k+1)then δ g else γ g:=⟨_,fun _=>rfl⟩
 have same1:∀ g,¬(s.n+8*k<=g/\g<s.n+8*(k+1))->γ g=γ' g:=fun g hg=>by rw[hγ',if_neg hg]
 have same2:∀ g,g<s.n+8*(k+1)->δ g=γ' g:=fun g hg=>by
  rw[hγ']
  split
  ·rfl
  ·exact hδ g (by omega)
 have oldS:∀(i:Nat) f t x,es[i]?=some f->D i=true->f.d=some (t,some x)->x.val γ=x.val γ':=fun i f t x hf hi hd=>by
  have ho:=okOf i f hf;unfold okEf at ho;rw[hd]at ho;simp only[Bool.and_eq_true,List.all_eq_true]at ho;have hne:i≠k:=fun e=>by rw[e,hD]at hi;cases hi
  exact(SV.ids_same fun g hg=>same1 g (idOk_out (ho.1.1 g hg) hne (mi i f hf hi))).2.2
 have oldR:∀ r∈rowsD D es s.M,γ r.1=γ' r.1/\r.2.1.cells γ=r.2.1.cells γ':=fun r hr=>by
  obtain⟨c,hc,he⟩:=rows_mem.1 hr;have hcc:γ r.1=γ' r.1/\∀ g∈c.ids,γ g=γ' g:=by
   rcases List.mem_append.1 hc with hc | hc
   ·obtain⟨j,f,h1,h2,h3⟩:=made_mem.1 hc
    rw[Nat.zero_add]at h2;have hne:j≠k:=fun e=>by rw[e,hD]at h2;cases h2
    have ho:=okOf j f h1;unfold okEf at ho;simp only[Bool.and_eq_true,List.all_eq_true]at ho;have:=h.rk j f h1 h2 _ h3;refine⟨same1 _ (fun hc=>?_),fun g hg=>same1 g (idOk_out (ho.1.2 _ h3 g hg) hne (mi j f h1 h2))⟩;have h5:s.n+8*j<=r.1/\r.1<s.n+8*(j+1):=this.2.2;omega
   ·have:=R0.m _ hc
    have h5:r.1<s.n:=this.2.2;exact⟨same1 _ (by omega),fun g hg=>same1 g (by have:=SV.lt_ids this.2.1 g hg;omega)⟩
  refine⟨hcc.1,(SV.ids_same fun g hg=>?_).2.1⟩;rcases cur_mem (D:=D) (g:=r.1) (es:=es) (i:=0) (c:=c)with h1 | ⟨j,f,h1,h2,h3⟩
  ·rw[he,h1]at hg
   exact hcc.2 g hg
  ·rw[<- he]at h3
   rw[Nat.zero_add]at h2;have ho:=okOf j f h1;unfold okEf at ho;rw[h3]at ho;simp only[Bool.and_eq_true,List.all_eq_true]at ho;have hne:j≠k:=fun e=>by rw[e,hD]at h2;cases h2
   exact same1 g (idOk_out (ho.2.2.1 g hg) hne (mi j f h1 h2))
 have inside:∀ r∈rowsD D es s.M,γ r.1<w.heap.size:=fun r hr=>(Array.getElem?_eq_some_iff.1 (h.rows r hr).2).1;have oneOf:∀ i,D' i=true->i=k\/(i≠k/\D i=true):=fun i hi=>by
  by_cases e:i=k
  ·exact .inl e
  ·exact .inr ⟨e,by rw[<- hD2 i e];exact hi⟩
 -- what the rows are
 have split:∀ r∈rowsD D' es s.M,(r∈e.R/\e.st=none)\/∃ q∈rowsD D es s.M,q.1=r.1/\q.2.2=r.2.2/\((r.2.1=q.2.1/\∀ g c,e.st=some (g,c)->g≠r.1)\/∃ c,e.st=some (r.1,c)/\r.2.1=c):=fun r hr=>by
  obtain⟨c,hc,he⟩:=rows_mem.1 hr;have base:(∃ g c,e.st=some (g,c)/\g=r.1)\/(∀ g c,e.st=some (g,c)->g≠r.1):=by
   cases hs:e.st with
   | none=>exact .inr fun g c h=>(by cases h)
   | some q =>
    by_cases hq:q.1=r.1
    ·exact .inl ⟨q.1,q.2,rfl,hq⟩
    ·exact .inr fun g c h=>(by cases h;exact hq)
  have curS:(∀ g c,e.st=some (g,c)->g≠r.1)->curD D' r.1 0 es c=curD D r.1 0 es c:=fun hn=>cur_ext fun j f q h1 h2 h3=>by
   rw[Nat.zero_add];by_cases ej:j=k
   ·subst ej
    rw[hek]at h1;cases h1;exact absurd h3 (hn q.1 q.2 h2)
   ·exact hD2 j ej
  have curW:∀ c',e.st=some (r.1,c')->curD D' r.1 0 es c=c':=fun c' hs=>cur_last (k:=k) hek hs (by rw[Nat.zero_add];exact hD1) fun j f q hj h1 h2 h3=>by
   rw[Nat.zero_add,hD2 j (by omega)];obtain⟨q1,q2⟩:=q;dsimp only at h3;subst h3;obtain⟨_,_,_,⟨y,T,hm⟩,_⟩:=hO.s _ _ hs;exact later j f r.1 q2 hj h1 h2 (List.any_eq_true.2 ⟨_,hm,by simp⟩)
  have fromD:(r.1,c,r.2.2)∈madeD D 0 es++s.M->∃ q∈rowsD D es s.M,q.1=r.1/\q.2.2=r.2.2/\((r.2.1=q.2.1/\∀ g c,e.st=some (g,c)->g≠r.1)\/∃ c,e.st=some (r.1,c)/\r.2.1=c):=fun hm=>by
   refine⟨(r.1,curD D r.1 0 es c,r.2.2),rows_mem.2 ⟨c,hm,rfl⟩,rfl,rfl,?_⟩;rcases base with⟨g,c',hs,hg⟩ | hn
   ·rw[hg]at hs
    exact .inr ⟨c',hs,by rw[he,curW c' hs]⟩
   ·exact .inl ⟨by rw[he,curS hn],hn⟩
  rcases List.mem_append.1 hc with hc | hc
  ·obtain⟨j,f,h1,h2,h3⟩:=made_mem.1 hc
   rw[Nat.zero_add]at h2;rcases oneOf j h2 with ej | ⟨hj,hDj⟩
   ·rw[ej,hek]at h1
    cases h1;have hs:e.st=none:=by
     cases hs:e.st with
     | none=>rfl
     | some q =>
      have:=(hO.s q.1 q.2 hs).1;rw[this]at h3;cases h3
    -- nobody else lays into it
    have hcur:curD D' r.1 0 es c=c:=by
     rcases cur_mem (D:=D') (g:=r.1) (es:=es) (i:=0) (c:=c)with h4 | ⟨i,f,h4,h5,h6⟩
     ·exact h4
     ·exfalso
      rw[Nat.zero_add]at h5;rcases oneOf i h5 with ei | ⟨hi,hDi⟩
      ·rw[ei,hek]at h4
       cases h4;rw[hs]at h6;cases h6
      ·have hil:i<l.length:=hlen ▸ (List.getElem?_eq_some_iff.1 h4).1
       obtain⟨f',g1,⟨p',g2,_⟩,_⟩:=hpass i l[i] (List.getElem?_eq_getElem hil);rw[h4]at g1;cases g1;obtain⟨y,T,hm⟩:=effAt_st g2 _ _ h6;unfold seenM at hm;have kr:=hO.R _ h3;have k1:s.n+8*k<=r.1:=kr.2.2.1;have k2:r.1<s.n+8*k+8:=kr.2.2.2.1
       split at hm
       ·obtain⟨c2,hc2,_⟩:=rows_mem.1 (List.mem_filter.1 hm).1
        rcases List.mem_append.1 hc2 with hc2 | hc2
        ·obtain⟨j2,f2,u1,u2,u3⟩:=made_mem.1 hc2
         rw[Nat.zero_add]at u2;have u1':es[j2]?=some f2:=by
          rw[List.getElem?_take]at u1
          split at u1
          ·exact u1
          ·cases u1
         have dj:=mask_done hms hr0 hcl i l[i] (List.getElem?_eq_getElem hil) (hcl i _ (List.getElem?_eq_getElem hil) hDi) j2 u2;have rr:=h.rk j2 f2 u1' dj.1 _ u3;have r1:s.n+8*j2<=r.1:=rr.2.2.1;have r2:r.1<s.n+8*(j2+1):=rr.2.2.2;have:j2=k:=by omega
         rw[this,hD]at dj;cases dj.1
        ·have:r.1<s.n:=(R0.m _ hc2).2.2
         omega
       ·cases hm
    exact .inl ⟨by
     have:r=(r.1,c,r.2.2):=by
      rw[hcur]at he;rw[<- he]
     rw[this];exact h3,hs⟩
   ·exact .inr (fromD (List.mem_append_left _ (made_mem.2 ⟨j,f,h1,by rw[Nat.zero_add];exact hDj,h3⟩)))
  ·exact .inr (fromD (List.mem_append_right _ hc))
 have nx8:s.n+8*(k+1)=s.n+8*k+8:=by omega
 have newR:∀ r∈e.R,δ r.1=γ' r.1/\r.2.1.cells δ=r.2.1.cells γ':=fun r hr=>by
  have q:=hO.R r hr;exact⟨same2 _ (by rw[nx8];exact q.2.2.2.1),(SV.lt_same (n:=s.n+8*k+8) (fun g hg=>same2 g (by rw[nx8];exact hg)) q.2.1).2.1⟩
 refine hK γ' v w' ⟨fun g hg=>?_,by rw[put_size];exact h.z,by rw[put_defers];exact h.d,fun t ht=>?_,fun i f t x hf hi hd=>?_,fun i f hf hi q hq=>?_,fun i f g c hf hi hs=>?_,?_,fun r hr=>?_,fun r hr q hq hne=>?_⟩
 ·rw[<- same1 g (by omega)]
  exact h.old g hg
 ·rw[put_other _ _ _ _ (ht k o hk hD1)]
  exact h.kp t fun i o' hi hDi=>ht i o' hi (by
   by_cases e:i=k
   ·rw[e];exact hD1
   ·rw[hD2 i e];exact hDi)
 ·rcases oneOf i hi with rfl | ⟨hne,hDi⟩
  ·rw[hek]at hf
   cases hf;have q:=hO.d t x hd;obtain⟨h1,h2⟩:=effAt_d heff t _ hd;rw[h1];refine⟨?_,q.2.1,by rw[nx8];exact q.2.2⟩;rw[put_same _ _ _ (by rw[h.z];exact h2),q.1];exact(SV.lt_same (n:=s.n+8*i+8) (fun g hg=>same2 g (by rw[nx8];exact hg)) q.2.2).2.2
  ·have q:=h.sl i f t x hf hDi hd
   have hil:i<l.length:=hlen ▸ (List.getElem?_eq_some_iff.1 hf).1;obtain⟨f',g1,⟨p',g2,_⟩,_⟩:=hpass i l[i] (List.getElem?_eq_getElem hil);rw[hf]at g1;cases g1;have hdi:=(effAt_d g2 t _ hd).1;refine⟨?_,q.2⟩;rw[put_other _ _ _ _ (fun c=>distinct_spec hdist k i o l[i] t hk (List.getElem?_eq_getElem hil) (Ne.symm hne) c hdi),q.1];exact oldS i f t x hf hDi hd
 ·rcases oneOf i hi with rfl | ⟨hne,hDi⟩
  ·rw[hek]at hf
   cases hf;have:=hO.R q hq;rw[nx8];exact⟨this.1,this.2.1,this.2.2.1,this.2.2.2.1⟩
  ·exact h.rk i f hf hDi q hq
 ·rcases oneOf i hi with rfl | ⟨hne,hDi⟩
  ·rw[hek]at hf
   cases hf;have:=hO.s g c hs;exact⟨this.2.1,this.2.2.1⟩
  ·exact h.sk i f g c hf hDi hs
 ·cases hs:e.st with
  | none=>exact h.b.trans ((hO.n hs).mono h.b.size)
  | some q =>
   obtain⟨_,_,_,⟨y,T,hm⟩,hw⟩:=hO.s q.1 q.2 hs;rw[hw];exact below_setRow h.b (h.rows _ (hS _ hm).1).1 _
 ·rcases split r hr with⟨hr1,_⟩ | ⟨q,hq,e1,e2,h3⟩
  ·have q:=hO.R r hr1
   have n:=newR r hr1;rw[<- n.1,<- n.2];exact⟨Nat.le_trans h.b.size q.2.2.2.2.1,q.2.2.2.2.2⟩
  ·have hq1:=h.rows q hq
   have ho:=oldR q hq;rw[e1]at hq1 ho;rw[<- ho.1];refine⟨hq1.1,?_⟩;rcases h3 with⟨h4,h5⟩ | ⟨c,h4,h5⟩
   ·rw[h4,<- ho.2,<- e2]
    cases hs:e.st with
    | none=>exact((hO.n hs).block _ (Array.getElem?_eq_some_iff.1 hq1.2).1).trans hq1.2
    | some u =>
     obtain⟨_,_,_,⟨y,T,hm⟩,hw⟩:=hO.s u.1 u.2 hs;rw[hw];have hne:=h5 u.1 u.2 hs;have:=h.nd _ (hS _ hm).1 _ hq (by rw[e1];exact hne);rw[e1]at this;exact(setRow_other _ _ _ _ (Ne.symm this)).trans hq1.2
   ·obtain⟨_,_,hcl',_,hw⟩:=hO.s _ c h4
    rw[hw,h5,<- e2,<- (SV.lt_same (n:=s.n+8*k) (γ:=γ) (δ:=γ') (fun g hg=>same1 g (by omega)) hcl').2.1];exact setRow_heap _ _ _ _ _ _ hq1.2
 ·rcases split r hr with⟨hr1,_⟩ | ⟨r2,hr2,e1,_,_⟩
  ·rcases split q hq with⟨hq1,_⟩ | ⟨q2,hq2,f1,_,_⟩
   ·rw[<- (newR r hr1).1,<- (newR q hq1).1]
    exact pair_all (fun _ _ h=>Ne.symm h) hO.P r hr1 q hq1 fun c=>hne (by rw[c])
   ·have a1:=(hO.R r hr1).2.2.2.2.1
    have a2:=inside q2 hq2;rw[<- (newR r hr1).1,<- f1,<- (oldR q2 hq2).1];omega
  ·rcases split q hq with⟨hq1,_⟩ | ⟨q2,hq2,f1,_,_⟩
   ·have a1:=(hO.R q hq1).2.2.2.2.1
    have a2:=inside r2 hr2;rw[<- (newR q hq1).1,<- e1,<- (oldR r2 hr2).1];omega
   ·rw[<- e1,<- f1,<- (oldR r2 hr2).1,<- (oldR q2 hq2).1]
    exact h.nd r2 hr2 q2 hq2 (by rw[e1,f1];exact hne)
end
end Go.Proofs.YtfmpjjhdocejiaaGreat.Sy
namespace Go.Proofs.YtfmpjjhdocejiaaGreat.Sy
open Go.RowKit
section
variable {E:Env} {γ0 γ γs δ:Pl} {N nx:Nat} {w0 ws w w' wx:World} {s:St} {a a0:Act} {o:Oper} {l:List Oper} {es:List Ef} {D D':Nat->Bool} {ps:List Ob} {Q:Post} {X:Exit->Act->World->Prop} {k:St->Tr} {lk:Nat->Option SV} {M:Rows} {e:Ef} {p:List Ob}
theorem eff_s(h:effGo E N nx lk M o=some (e,p)):∀ t,o.dst=some t->∃ y,e.d=some (t,y):=by
 intro t hd;unfold effGo at h;rw[hd]at h
 split at h
 ·rename_i e1;cases e1
 ·rename_i e1
  cases e1
  split at h
  ·split at h
   ·cases h;exact⟨_,rfl⟩
   ·cases h
  ·cases h
 ·rename_i e1
  cases e1
  split at h
  ·split at h
   ·cases h;exact⟨_,rfl⟩
   ·cases h
  ·cases h
 ·rename_i e1
  cases e1
  split at h
  ·split at h
   ·split at h
    ·cases h;exact⟨_,rfl⟩
    ·cases h
   ·cases h
  ·cases h
 ·rename_i e1
  cases e1
  split at h
  ·split at h
   ·split at h
    ·split at h
     ·cases h;exact⟨_,rfl⟩
     ·cases h
    ·cases h
   ·cases h
  ·split at h
   ·split at h
    ·cases h;exact⟨_,rfl⟩
    ·cases h
   ·cases h
 ·rename_i e1 _ _ _ _
  cases e1
  split at h
  ·split at h
   ·cases h;exact⟨_,rfl⟩
   ·cases h
  ·cases h
 ·cases h
theorem effAt_s{gs:Option SV}(h:effAt E N nx gs lk M o=some (e,p)):∀ t,o.dst=some t->∃ y,e.d=some (t,y):=by
 intro t hd;unfold effAt at h
 split at h
 ·exact eff_s h t hd
 ·split at h
  ·split at h
   ·exact eff_s h t hd
   ·rw[hd]at h
    dsimp only at h
    split at h
    ·cases h;exact⟨_,rfl⟩
    ·cases h
  ·split at h
   ·rename_i _ d x p' _ hx
    split at h
    ·cases h
     have:=(eff_d hx d _ rfl).1;rw[hd]at this;cases this;exact⟨_,rfl⟩
    ·cases h
   ·cases h
  ·cases h
def keyed(A:List (Nat × Option SV))(t:Nat):Bool:=A.any fun p=>p.1 == t
theorem look_append:∀ {A B:List (Nat × Option SV)} {t:Nat},look (A++B) t=if keyed A t=true then look A t else look B t
 | [],_,_=>rfl
 | p::A,B,t=>by
  have ih:=look_append (A:=A) (B:=B) (t:=t);show(if p.1=t then p.2 else look (A++B) t)=_;unfold keyed at ih |-
  rw[List.any_cons];by_cases h:p.1=t
  ·have hb:(p.1 == t)=true:=beq_iff_eq.2 h
   rw[if_pos h,hb,Bool.true_or,if_pos rfl];show _=if p.1=t then p.2 else look A t
   rw[if_pos h]
  ·have hb:(p.1 == t)=false:=beq_eq_false_iff_ne.2 h
   rw[if_neg h,hb,Bool.false_or,ih];show _=if _ then (if p.1=t then p.2 else look A t)else _
   rw[if_neg h]
theorem slots_look:∀ {es:List Ef} {t:Nat} {x:SV},look (slotsE es) t=some x->∃(i:Nat) (e:Ef),es[i]?=some e/\e.d=some (t,some x)
 | [],_,_,h=>by cases h
 | e::es,t,x,h=>by
  unfold slotsE at h;cases hd:e.d with
  | none =>
   rw[hd]at h;obtain⟨i,f,h1,h2⟩:=slots_look h;exact⟨i+1,f,by simpa using h1,h2⟩
  | some q =>
   rw[hd]at h;have h:(if q.1=t then q.2 else look (slotsE es) t)=some x:=h
   split at h
   ·rename_i hq
    exact⟨0,e,rfl,by rw[hd,<- hq,<- h]⟩
   ·obtain⟨i,f,h1,h2⟩:=slots_look h
    exact⟨i+1,f,by simpa using h1,h2⟩
theorem slots_key:∀ {es:List Ef} {t:Nat} {i:Nat} {e:Ef} {y:Option SV},es[i]?=some e->e.d=some (t,y)->keyed (slotsE es) t=true
 | [],_,_,_,_,h,_=>by cases h
 | f::es,t,0,e,y,h,hd=>by
  cases h;unfold slotsE keyed;rw[hd,List.any_cons];simp
 | f::es,t,i+1,e,y,h,hd=>by
  have:=slots_key (es:=es) (i:=i) (by simpa using h) hd;unfold slotsE
  split
  ·unfold keyed at this |-
   rw[List.any_cons,this,Bool.or_true]
  ·exact this
theorem nodup_ids:∀ {R:Rows},nodupB (R.map (·.1))=true->R.Pairwise fun p q=>p.1≠q.1
 | [],_=>.nil
 | r::R,h=>by
  rw[List.map_cons]at h;unfold nodupB at h;rw[Bool.and_eq_true]at h;refine List.pairwise_cons.2 ⟨fun q hq e=>?_,nodup_ids h.2⟩;have h1:=h.1;have:(R.map (·.1)).contains r.1=true:=by
   rw[List.contains_iff_mem,e];exact List.mem_map.2 ⟨_,hq,rfl⟩
  rw[this]at h1;cases h1
theorem RelD.all{ms:List (Nat × Nat)}(hlen:es.length=l.length)(hpass:∀(i:Nat) o,l[i]?=some o->∃ e,es[i]?=some e/\PassAt E N l ms s es ps i o e)(R0:Rel E γ0 γs N w0 s a0 ws)(hn:nodupB ((rowsD (fun _=>true) es s.M).map (·.1))=true)
  (h:RelD E γ0 γs γ N w0 s l es a0 D a w) (hD:∀ i,i<l.length->D i=true):Rel E γ0 γ N w0 (afterD es s) a w:=by
 have lt:∀ {i:Nat} {f:Ef},es[i]?=some f->i<es.length:=fun hf=>(List.getElem?_eq_some_iff.1 hf).1;have dn:∀ {i:Nat} {f:Ef},es[i]?=some f->D i=true:=fun hf=>hD _ (hlen ▸ lt hf);have inD:∀ r∈rowsD (fun _=>true) es s.M,r∈rowsD D es s.M:=fun r hr=>by
  obtain⟨c,hc,he⟩:=rows_mem.1 hr;refine rows_mem.2 ⟨c,?_,?_⟩
  ·rcases List.mem_append.1 hc with hc | hc
   ·obtain⟨j,f,h1,_,h3⟩:=made_mem.1 hc
    exact List.mem_append_left _ (made_mem.2 ⟨j,f,h1,by rw[Nat.zero_add];exact dn h1,h3⟩)
   ·exact List.mem_append_right _ hc
  ·rw[he]
   exact cur_ext fun j f q h1 _ _=>by rw[Nat.zero_add];exact(dn h1).symm
 have oldV:∀ {x:SV},x.lt s.n=true->x.val γs=x.val γ:=fun {x} hx=>(SV.lt_same (γ:=γs) (δ:=γ) (fun g hg=>(h.old g hg).symm) hx).2.2;refine⟨fun g hg=>(h.old g (Nat.lt_of_lt_of_le hg R0.base)).trans (R0.ag g hg),Nat.le_trans R0.base (Nat.le_add_right _ _),h.z,h.d,fun t x hx=>?_,⟨h.b,fun p hp=>?_,?_⟩,fun r hr=>?_⟩
 ·have hx:look (slotsE es++s.S) t=some x:=hx
  rw[look_append]at hx
  split at hx
  ·obtain⟨i,f,h1,h2⟩:=slots_look hx
   have:=h.sl i f t x h1 (dn h1) h2;exact⟨this.1,this.2.1,SV.lt_mono (show s.n+8*(i+1)<=s.n+8*es.length by have:=lt h1;omega) this.2.2⟩
  ·rename_i hk
   have:=R0.k t x hx;refine⟨?_,this.2.1,SV.lt_mono (Nat.le_add_right _ _) this.2.2⟩;rw[h.kp t fun i o hi _ hd=>hk ?_,this.1,oldV this.2.2];obtain⟨f,h1,⟨p',h2,_⟩,_⟩:=hpass i o hi;obtain⟨y,hy⟩:=effAt_s h2 t hd;exact slots_key h1 hy
 ·obtain⟨r,hr,rfl⟩:=List.mem_map.1 hp
  exact h.rows r (inD r hr)
 ·exact List.pairwise_map.2 ((nodup_ids hn).imp_of_mem fun {p q} hp hq hne=>h.nd p (inD p hp) q (inD q hq) hne)
 ·have hr:r∈rowsD (fun _=>true) es s.M:=hr
  show r.2.1.ok/\r.2.1.lt (s.n+8*es.length)=true/\r.1<s.n+8*es.length;obtain⟨c,hc,he⟩:=rows_mem.1 hr;have hcc:c.ok/\c.lt (s.n+8*es.length)=true/\r.1<s.n+8*es.length:=by
   rcases List.mem_append.1 hc with hc | hc
   ·obtain⟨j,f,h1,_,h3⟩:=made_mem.1 hc
    have:=h.rk j f h1 (dn h1) _ h3;have hj:=lt h1;exact⟨this.1,SV.lt_mono (by omega) this.2.1,Nat.lt_of_lt_of_le this.2.2.2 (by omega)⟩
   ·have:=R0.m _ hc
    exact⟨this.1,SV.lt_mono (Nat.le_add_right _ _) this.2.1,Nat.lt_of_lt_of_le this.2.2 (Nat.le_add_right _ _)⟩
  rcases cur_mem (D:=fun _=>true) (g:=r.1) (es:=es) (i:=0) (c:=c)with h1 | ⟨j,f,h1,_,h3⟩
  ·rw[he,h1]
   exact hcc
  ·rw[<- he]at h3
   have:=h.sk j f _ _ h1 (dn h1) h3;have hj:=lt h1;exact⟨this.1,SV.lt_mono (by omega) this.2,hcc.2.2⟩
theorem drawAny{ms:List (Nat × Nat)}(G:E.Good γ0 w0)(hms:ms=masksA l 0 [])(hdist:distinctB l=true)(hr:rankB l.toArray (fun i=>i)=true)(hp:All ps)(hlen:es.length=l.length)(hpass:∀(i:Nat) o,l[i]?=some o->∃ e,es[i]?=some e/\PassAt E N l ms s es ps i o e)
  (R0:Rel E γ0 γs N w0 s a0 ws) (fin:∀ γ D a w,RelD E γ0 γs γ N w0 s l es a0 D a w->(∀ i,i<l.length->D i=true)->X .normal a w) :
  ∀(fuel:Nat) (listed:Array Bool) (γ:Pl) (a:Act) (w:World),listed.size=l.length->listed.toList.count false=fuel->(∀(i:Nat) o,l[i]?=some o->listed.getD i false=true->∀ e∈o.after,Region.binds .any e=true->listed.getD e.on false=true)->RelD E γ0 γs γ N w0 s l es a0 (fun i=>listed.getD i false) a w->wpAny E.P .any l.toArray X fuel listed a w:=by
 intro fuel
 induction fuel with
 | zero =>
  intro listed γ a w hsz hc hcl h;have hno:false ∉ listed.toList:=List.count_eq_zero.1 (by omega);have hall:∀ i,i<l.length->listed.getD i false=true:=fun i hi=>by
   have hlt:i<listed.size:=by omega
   have hm:listed[i]∈listed.toList:=by simp
   simp only[Array.getD_eq_getD_getElem?,hlt,Array.getElem?_eq_getElem,Option.getD_some];cases h:listed[i]with
   | true=>rfl
   | false=>rw[h]at hm;exact absurd hm hno
  refine⟨List.eq_nil_iff_forall_not_mem.2 fun i hi=>?_,fin _ _ a w h hall⟩;obtain⟨h0,o,ho,_⟩:=mem_ready.1 hi;have hil:i<l.length:=by
   have:=(Array.getElem?_eq_some_iff.1 ho).1;simpa using this
  have:=hall i hil;rw[getD_both h0]at this;cases this
 | succ fuel ih =>
  intro listed γ a w hsz hc hcl h;refine⟨fun hrd=>fin _ _ a w h ?_,fun i hi=>?_⟩
  ·have key:∀ r i,i<r->i<l.length->listed.getD i false=true:=by
    intro r
    induction r with
    | zero=>intro i h;omega
    | succ r ihr =>
     intro i hri hi;cases h:listed.getD i false with
     | true=>rfl
     | false =>
      have ho:l.toArray[i]?=some l[i]:=by simp[hi]
      have:i∈Region.ready .any l.toArray listed:=mem_ready.2 ⟨by simpa[show i<listed.size by omega]using h,l[i],ho,fun e he hb=>by
       have hl:=hr;unfold rankB at hl;rw[List.all_eq_true]at hl;have:=hl i (by simpa using hi);rw[ho]at this;simp only[Array.all_eq_true_iff_forall_mem]at this;have hlt:=this e he;rw[hb]at hlt;simp at hlt;exact ihr e.on (by omega) (by omega)⟩
      rw[hrd]at this;cases this
   exact fun i hi=>key (i+1) i (Nat.lt_succ_self _) hi
  ·obtain⟨h0,o,ho,hal⟩:=mem_ready.1 hi
   have hl':l[i]?=some o:=by simpa using ho
   have hil:i<l.length:=(List.getElem?_eq_some_iff.1 hl').1;have hD:listed.getD i false=false:=getD_both h0;unfold wpOp;rw[ho];dsimp only;have st:=stepD (X:=X) (D:=fun i=>listed.getD i false) (D':=fun j=>(listed.setIfInBounds i true).getD j false) (K:=wpAny E.P .any l.toArray X fuel (listed.setIfInBounds i true)) G hms hdist hr hp hlen hpass R0 hcl hl' hD (fun e he hb=>by simpa using hal e he hb)
    (getD_set_same (by omega)) (fun j hj=>getD_set_ne false (Ne.symm hj)) h fun γ' v w' h'=>ih _ γ' _ _ (by simpa using hsz) ?_ ?_ h'
   ·split
    ·rename_i hw
     rw[if_pos hw]at st;exact .inl st
    ·rename_i hw
     rw[if_neg hw]at st;exact st
   ·have hlt:i<listed.size:=by omega
    have e0:listed[i]=false:=by simpa[hlt]using h0
    rw[Array.toList_setIfInBounds,List.count_set (by simpa using hlt)];have:listed.toList[i]'(by simpa using hlt)=false:=by simpa using e0
    simp only[this];simp;have hpos:0<listed.toList.count false:=List.count_pos_iff.2 (by rw[<- e0];simp);simp at hpos;simp at hc;omega
   ·intro j oj hj hd e he hb
    by_cases q:i=e.on
    ·rw[<- q];exact getD_set_same (by omega)
    ·rw[getD_set_ne false q]
     by_cases ej:i=j
     ·subst ej
      rw[hl']at hj;cases hj;exact by simpa using hal e he hb
     ·rw[getD_set_ne false ej]at hd
      exact hcl j oj hj hd e he hb
theorem drawX_ok(G:E.Good γ0 w0)(mx:E.P.follows .mixedOrders=true){id:Nat}(hx:(drawX E N l s k).wp E.base Q)(R:Rel E γ0 γs N w0 s a0 w)
  (cont:∀ γ s' a' w',Rel E γ0 γ N w0 s' a' w'->(k s').wp E.base Q->X .normal a' w'):(Code.region id l.toArray true).wp E.P X a0 w:=by
 unfold drawX at hx;rw[masksK_eq]at hx
 split at hx
 ·rename_i es ps hX
  split at hx
  ·rename_i hc
   obtain⟨c1,c2,c4⟩:=hc;obtain⟨hp,hk⟩:=needs_wp hx;obtain⟨_,hlen,_,hpass⟩:=passX_ok hX;have hlen:es.length=l.length:=by simpa using hlen
   have hpass:∀(i:Nat) o,l[i]?=some o->∃ e,es[i]?=some e/\PassAt E N l (masksA l 0 []) s es ps i o e:=fun i o hi=>by
    have:=hpass i o hi;simpa using this
   refine wp_region_any mx (drawAny G rfl c1 c2 hp hlen hpass R (fun γ D a w h hD=>cont γ _ a w (h.all hlen hpass R c4 hD) hk) _ _ γs a0 _ (by simp) (by simp) ?_ ?_)
   ·intro i o hi hd
    rw[show(Array.replicate l.toArray.size false).getD i false=false from getD_replicate_false _ _]at hd;cases hd
   ·have nD:∀ i,(Array.replicate l.toArray.size false).getD i false=true->False:=fun i h=>by
     rw[getD_replicate_false]at h;cases h
    have R':=R.below (w':=w.drew) (Below.drew (Below.refl _ _));have inM:∀ r∈rowsD (fun i=>(Array.replicate l.toArray.size false).getD i false) es s.M,r∈s.M:=fun r hr=>by
     obtain⟨c,hc,he⟩:=rows_mem.1 hr;have e1:r.2.1=c:=by
      rw[he];rcases cur_mem (D:=fun i=>(Array.replicate l.toArray.size false).getD i false) (g:=r.1) (es:=es) (i:=0) (c:=c)with h1 | ⟨j,f,_,h2,_⟩
      ·exact h1
      ·exact(nD _ h2).elim
     have e2:r=(r.1,c,r.2.2):=by rw[<- e1]
     rw[e2];rcases List.mem_append.1 hc with hc | hc
     ·obtain⟨j,f,_,h2,_⟩:=made_mem.1 hc
      exact(nD _ h2).elim
     ·exact hc
    refine⟨fun _ _=>rfl,R.z,R.d,fun _ _=>rfl,fun i e t x _ hd=>(nD i hd).elim,fun i e _ hd=>(nD i hd).elim,fun i e g c _ hd=>(nD i hd).elim,R'.h.old,fun r hr=>?_,fun r hr q hq hne=>?_⟩
    ·exact R'.h.rows _ (List.mem_map.2 ⟨r,inM r hr,rfl⟩)
    ·have:=R.h.nd
     exact pair_all (R:=fun p q=>γs p.1≠γs q.1) (fun _ _ h=>Ne.symm h) (List.pairwise_map.1 this) r (inM r hr) q (inM q hq) fun e=>hne (by rw[e])
  ·cases hx
 ·cases hx
end
end Go.Proofs.YtfmpjjhdocejiaaGreat.Sy
namespace Go.Proofs.YtfmpjjhdocejiaaGreat.Sy
open Go.RowKit
def normL:List (Nat × Option SV)->List (Nat × Option SV)
 | []=>[]
 | p::l=>(p.1,p.2.map normS)::normL l
def normT(s:St):St:=⟨normL s.S,s.M,s.n⟩
def rep(f:St->(Exit->St->Tr)->Tr):Nat->St->(Exit->St->Tr)->Tr
 | 0,_,_=>.bad
 | n+1,s,k=>f s fun e s'=>match e with
  | .normal=>rep f n s' k
  | e=>k e s'
def exec(E:Env)(N:Nat)(hd:Nat->Nat):Code->Nat->Nat->St->(Exit->St->Tr)->Tr
 | .skip,_,_,s,k=>k .normal s
 | .region _ ops draw,_,_,s,k=>match draw with
  | true=>drawX E N ops.toList s (k .normal)
  | false=>seqX E N (fun j=>(ops[j]?).bind (·.dst)) ops.toList s (k .normal)
 | .seq x y,b,d,s,k=>exec E N hd x b d s fun e s'=>match e with
  | .normal=>exec E N hd y b d s' k
  | e=>k e s'
 | .cond c x y,b,d,s,k=>match opnd (look s.S) c with
  | some (.b t)=>.br t (exec E N hd x b d s k) (exec E N hd y b d s k)
  | some (.v (.bool t))=>match t with
   | true=>exec E N hd x b d s k
   | false=>exec E N hd y b d s k
  | _=>.bad
 | .block id c,_,d,s,k=>exec E N hd c id d s fun e s'=>match e with
  | .exit j=>if j=id then k .normal s' else k (.exit j) s'
  | e=>k e s'
 | .loop c,b,d,s,k=>match hd b with
  | 0=>.loop d (normT s) fun s0=>exec E N hd c b (d+1) s0 fun e s'=>match e with
   | .normal=>.cut d (normT s')
   | e=>k e s'
  | n+1=>rep (fun s k=>exec E N hd c b d s k) (n+1) s k
 | .exit id,_,_,s,k=>k (.exit id) s
 | .ret,_,_,s,k=>k .ret s
 | _,_,_,_,_=>.bad
def resX(E:Env)(s:St):ResultVar->Option SV
 | .tmp t=>look s.S t
 | .cell p T=>match look s.S p,tyIn T E.tys with
  | some (.p g o _ z),some y=>match rowIn g s.M with
   | some r=>if z=0 then SV.sub y.m o y.sz r.1 else none
   | none=>none
  | _,_=>none
def finX(E:Env)(rs:Array ResultVar)(e:Exit)(s:St):Tr :=
 match e with
 | .normal | .ret=>match rs.toList with
  | [r]=>match resX E s r with
   | some x=>if x.lt E.base=true then .leaf x else .bad
   | none=>.bad
  | [r,q]=>match resX E s r,resX E s q with
   | some x,some y=>if x.lt E.base=true/\y.lt E.base=true then .leaf (.tu x y)else .bad
   | _,_=>.bad
  | _=>.bad
 | _=>.bad
def argsX:List SV->Nat->List (Nat × Option SV)
 | [],_=>[]
 | x::l,i=>(i,some x)::argsX l (i+1)
section
variable {E:Env} {γ0 γ:Pl} {N n:Nat} {w0 w wx:World} {s:St} {a a0:Act} {o:Oper} {Q:Post} {X:Exit->Act->World->Prop} {hd:Nat->Nat}
theorem subS_look{S:List (Nat × Option SV)}{n:Nat}:∀ {l:List (Nat × Option SV)} {t:Nat} {x:SV},subS S n l->look l t=some x->(∃ y,look S t=some y/\Wk y x)/\x.lt n=true
 | [],_,_,_,h=>by cases h
 | (u,o)::l,t,x,hs,h=>by
  have h':(if u=t then o else look l t)=some x:=h;cases o with
  | none =>
   split at h'
   ·cases h'
   ·exact subS_look (l:=l) hs h'
  | some y =>
   split at h'
   ·rename_i e
    cases h';subst e;exact hs.1
   ·exact subS_look (l:=l) hs.2 h'
theorem Rel.sub{s':St}(R:Rel E γ0 γ N w0 s a w)(h:Sub E.base s s'):Rel E γ0 γ N w0 s' a w:=by
 obtain⟨gs,hgs⟩:=h.M;have hsub:s'.M.Sublist s.M:=by rw[hgs];exact List.filter_sublist
 refine⟨R.ag,h.base,R.z,R.d,fun t x hx=>?_,⟨R.h.old,fun p hp=>R.h.rows p ((hsub.map _).subset hp),R.h.nd.sublist (hsub.map _)⟩,fun r hr=>⟨(R.m r (hsub.subset hr)).1,h.lt r hr⟩⟩;obtain⟨⟨y,hy,hw⟩,hl⟩:=subS_look h.S hx;have:=R.k t y hy;exact⟨this.1.trans (hw.1 γ),hw.2 this.2.1,hl⟩
theorem norm_look:∀ {l:List (Nat × Option SV)} {t:Nat},look (normL l) t=(look l t).map normS
 | [],_=>rfl
 | p::l,t=>by
  show(if p.1=t then p.2.map normS else look (normL l) t)=(if p.1=t then p.2 else look l t).map normS;rw[norm_look]
  split <;> rfl
theorem Rel.norm(R:Rel E γ0 γ N w0 s a w):Rel E γ0 γ N w0 (normT s) a w :=
 ⟨R.ag,R.base,R.z,R.d,fun t x hx=>by
  have hx:look (normL s.S) t=some x:=hx;rw[norm_look]at hx;obtain⟨y,hy,rfl⟩:=Option.map_eq_some_iff.1 hx;have q:=R.k t y hy;have n:=normS_ok (γ:=γ) (n:=s.n) q.2.1 q.2.2;exact⟨q.1.trans n.1.symm,n.2⟩,R.h,R.m⟩
def Alike(d:Nat)(Q Q':Post):Prop:=Q'.leaf=Q.leaf/\∀ d' s,d'<d->(Q'.cut d' s↔Q.cut d' s)
theorem Alike.rfl'{d:Nat}{Q:Post}:Alike d Q Q:=⟨rfl,fun _ _ _=>Iff.rfl⟩
theorem Alike.trans{d:Nat}{Q Q' Q'':Post}(h:Alike d Q Q')(h':Alike d Q' Q''):Alike d Q Q'':=⟨h'.1.trans h.1,fun d' s hd=>(h'.2 d' s hd).trans (h.2 d' s hd)⟩
theorem exec_ok(G:E.Good γ0 w0)(mx:E.P.follows .mixedOrders=true):∀ {c:Code} {b d:Nat} {s:St} {k:Exit->St->Tr} {X:Exit->Act->World->Prop} {Q:Post} {a:Act} {w:World} {γ:Pl},(exec E N hd c b d s k).wp E.base Q->Rel E γ0 γ N w0 s a w ->
  (∀ Q' e γ s' a' w',Alike d Q Q'->Rel E γ0 γ N w0 s' a' w'->(k e s').wp E.base Q'->X e a' w')->c.wp E.P X a w:=by
 intro c
 induction c with
 | skip=>intro b d s k X Q a w γ h R cont;exact wp_skip (cont _ _ _ _ _ _ Alike.rfl' R h)
 | region id ops draw =>
  intro b d s k X Q a w γ h R cont;cases draw with
  | true=>exact drawX_ok (l:=ops.toList) (id:=id) G mx h R fun γ s' a' w' R' hk=>cont Q .normal γ s' a' w' Alike.rfl' R' hk
  | false=>exact wp_region_list (seqX_ok G h R fun γ s' a' w' R' hk=>cont Q .normal γ s' a' w' Alike.rfl' R' hk)
 | seq x y ihx ihy =>
  intro b d s k X Q a w γ h R cont;refine wp_seq (ihx h R fun Q' e γ s' a' w' hQ R' hk=>?_);cases e with
  | normal=>exact ihy hk R' fun Q'' e γ s' a' w' hQ' R'' hk'=>cont _ _ _ _ _ _ (hQ.trans hQ') R'' hk'
  | exit i=>exact cont _ _ _ _ _ _ hQ R' hk
  | goto i=>exact cont _ _ _ _ _ _ hQ R' hk
  | ret=>exact cont _ _ _ _ _ _ hQ R' hk
  | panic i=>exact cont _ _ _ _ _ _ hQ R' hk
  | outgrown=>exact cont _ _ _ _ _ _ hQ R' hk
 | cond c x y ihx ihy =>
  intro b d s k X Q a w γ h R cont;unfold exec at h
  split at h
  ·rename_i t ht
   exact wp_cond_split (opnd_ok R.k ht).1 (fun e=>ihx (h.1 e) R cont) (fun e=>ihy (h.2 e) R cont)
  ·rename_i t ht
   have hv:=(opnd_ok R.k ht).1;cases t with
   | true=>exact wp_cond_true hv (ihx h R cont)
   | false=>exact wp_cond_false hv (ihy h R cont)
  ·cases h
 | block id c ih =>
  intro b d s k X Q a w γ h R cont;refine wp_block (ih h R fun Q' e γ s' a' w' hQ R' hk=>?_);cases e with
  | normal=>exact cont _ _ _ _ _ _ hQ R' hk
  | exit j =>
   show(if j=id then _ else _);dsimp only at hk
   split at hk
   ·rename_i e;rw[if_pos e];exact cont _ _ _ _ _ _ hQ R' hk
   ·rename_i e;rw[if_neg e];exact cont _ _ _ _ _ _ hQ R' hk
  | goto i=>exact cont _ _ _ _ _ _ hQ R' hk
  | ret=>exact cont _ _ _ _ _ _ hQ R' hk
  | panic i=>exact cont _ _ _ _ _ _ hQ R' hk
  | outgrown=>exact cont _ _ _ _ _ _ hQ R' hk
 | loop c ih =>
  intro b d s k X Q a w γ h R cont;unfold exec at h
  split at h
  ·obtain⟨ι,st,μ,⟨i0,h0⟩,hr⟩:=h
   refine wp_loop_ghost (fun n a w=>∃ i γ,μ i=n/\Rel E γ0 γ N w0 (st i) a w) (μ i0) ⟨i0,γ,rfl,R.norm.sub h0⟩ ?_;rintro n a w ⟨i,γ,rfl,R1⟩;refine ih (hr i) R1 fun Q' e γ s' a' w' hQ R' hk=>?_;have up:Alike d Q Q':=⟨hQ.1,fun d' s hd'=>(hQ.2 d' s (Nat.lt_succ_of_lt hd')).trans (by
    show(if d'=d then _ else _)↔_;rw[if_neg (Nat.ne_of_lt hd')])⟩
   cases e with
   | normal =>
    have hc:Q'.cut d (normT s'):=hk;have hc:=(hQ.2 d (normT s') (Nat.lt_succ_self d)).1 hc;dsimp only at hc;rw[if_pos rfl]at hc;obtain⟨j,hj,hs⟩:=hc;exact⟨μ j,hj,j,γ,rfl,R'.norm.sub hs⟩
   | exit i=>exact cont _ _ _ _ _ _ up R' hk
   | goto i=>exact cont _ _ _ _ _ _ up R' hk
   | ret=>exact cont _ _ _ _ _ _ up R' hk
   | panic i=>exact cont _ _ _ _ _ _ up R' hk
   | outgrown=>exact cont _ _ _ _ _ _ up R' hk
  ·rename_i n0 _
   refine wp_loop_ghost (fun n a w=>∃ γ s Q',Alike d Q Q'/\Rel E γ0 γ N w0 s a w/\(rep (fun s k=>exec E N hd c b d s k) n s k).wp E.base Q') (n0+1) ⟨γ,s,Q,Alike.rfl',R,h⟩ ?_;rintro n a w ⟨γ,s,Q',hQ0,R1,h1⟩;cases n with
   | zero=>cases h1
   | succ n =>
    refine ih h1 R1 fun Q'' e γ s' a' w' hQ R' hk=>?_;have hQ1:=hQ0.trans hQ;cases e with
    | normal=>exact⟨n,Nat.lt_succ_self n,γ,s',Q'',hQ1,R',hk⟩
    | exit i=>exact cont _ _ _ _ _ _ hQ1 R' hk
    | goto i=>exact cont _ _ _ _ _ _ hQ1 R' hk
    | ret=>exact cont _ _ _ _ _ _ hQ1 R' hk
    | panic i=>exact cont _ _ _ _ _ _ hQ1 R' hk
    | outgrown=>exact cont _ _ _ _ _ _ hQ1 R' hk
 | exit id=>intro b d s k X Q a w γ h R cont;exact wp_exit (cont _ _ _ _ _ _ Alike.rfl' R h)
 | ret=>intro b d s k X Q a w γ h R cont;exact wp_ret (cont _ _ _ _ _ _ Alike.rfl' R h)
 | _=>intro b d s k X Q a w γ h R cont;cases h
def readR(a:Act):ResultVar->Sem Value
 | .tmp t=>pure (a.tmps.getD t undef)
 | .cell p t=>do loadVar t (<- asAddr (a.tmps.getD p undef))
theorem results_read(P:Program)(fn:Func)(a:Act)(w:World):(results fn a.tmps).run P w=(do let vs <- fn.results.mapM (readR a);pure (if h:vs.size=1 then vs[0]else .tuple vs):Sem Value).run P w:=by
 have e:readR a=(fun r=>(match r with
  | .tmp t=>pure (a.tmps.getD t undef)
  | .cell p t=>do loadVar t (<- asAddr (a.tmps.getD p undef)):Sem Value)):=by
  funext r
  cases r with
  | tmp t=>rfl
  | cell p t=>rfl
 rw[e];rfl
theorem resX_ok(G:E.Good γ0 w0)(R:Rel E γ0 γ N w0 s a w){r:ResultVar}{x:SV}(h:resX E s r=some x):(readR a r).run E.P w=.ok (x.val γ) w:=by
 cases r with
 | tmp t=>exact congrArg (fun v=>Result.ok v w) (R.k t x h).1
 | cell p T =>
  dsimp only[resX]at h
  split at h
  ·rename_i g o' j z y hp ht
   split at h
   ·rename_i r hr
    split at h
    ·rename_i hz
     subst hz;have hm:=R.lies _ (rowIn_ok hr);have ty:=G.tys _ (tyIn_ok ht).1;have hd:=ty.d;have hsz:=ty.sz;rw[(tyIn_ok ht).2]at hd hsz;have hl:=load_ok hm.1 hd hsz h;have e:a.tmps.getD p undef=.pointer (some ⟨γ g,o',none⟩):=by
      rw[(R.k p _ hp).1];show Value.pointer (some ⟨γ g,o'+j*0,none⟩)=_;rw[Nat.mul_zero,Nat.add_zero]
     show(do loadVar T (<- asAddr (a.tmps.getD p undef)):Sem Value).run E.P w=_;rw[e];simp only[Instr.loadAt,Instr.sureAddr,Sem.run_bind,Sem.run_pure,Result.andThen_ok]at hl;simp only[asAddr,Sem.run_bind,Sem.run_pure,Result.andThen_ok];exact hl
    ·cases h
   ·cases h
  ·cases h
theorem finX_ok(G:E.Good γ0 w0)(R:Rel E γ0 γ N w0 s a w){fn:Func}{e:Exit}(h:(finX E fn.results e s).wp E.base Q):bodyPost E.P fn (fun e w'=>∃ r,Q.leaf r/\e=.returned (r.val γ0)/\Below w0.heap.size w0 w') e a w:=by
 have fin:∀ x:SV,x.lt E.base=true->Q.leaf x->(results fn a.tmps).run E.P w=.ok (x.val γ) w->(a.defers=[]/\∃ v,(results fn a.tmps).run E.P w=.ok v w/\∃ r,Q.leaf r/\Ending.returned v=.returned (r.val γ0)/\Below w0.heap.size w0 w):=fun x hl hq hr =>
  ⟨R.d,_,hr,x,hq,by rw[(SV.lt_same R.ag hl).2.2],R.h.old⟩
 have main:(match fn.results.toList with
  | [r]=>match resX E s r with
   | some x=>if x.lt E.base=true then Tr.leaf x else .bad
   | none=>.bad
  | [r,q]=>match resX E s r,resX E s q with
   | some x,some y=>if x.lt E.base=true/\y.lt E.base=true then .leaf (.tu x y)else .bad
   | _,_=>.bad
  | _=>.bad).wp E.base Q->(a.defers=[]/\∃ v,(results fn a.tmps).run E.P w=.ok v w/\∃ r,Q.leaf r/\Ending.returned v=.returned (r.val γ0)/\Below w0.heap.size w0 w):=by
  intro h
  split at h
  ·rename_i r hr
   have hr':fn.results=#[r]:=by apply Array.ext';rw[hr]
   split at h
   ·rename_i x hx
    split at h
    ·rename_i hl
     have h1:=resX_ok G R hx;refine fin x hl h ?_;rw[results_read,hr'];simp[h1]
    ·cases h
   ·cases h
  ·rename_i r q hr
   have hr':fn.results=#[r,q]:=by apply Array.ext';rw[hr]
   split at h
   ·rename_i x y hx hy
    split at h
    ·rename_i hl
     have h1:=resX_ok G R hx;have h2:=resX_ok G R hy;refine fin (.tu x y) (by show(x.lt _&&y.lt _)=true;rw[hl.1,hl.2];rfl) h ?_;rw[results_read,hr'];simp[h1,h2,SV.val]
    ·cases h
   ·cases h
  ·cases h
 unfold finX at h
 split at h
 ·exact main h
 ·exact main h
 ·cases h
theorem args_look:∀ {l:List SV} {i t:Nat} {x:SV},look (argsX l i) t=some x->∃ j,t=i+j/\l[j]?=some x
 | [],_,_,_,h=>by cases h
 | y::l,i,t,x,h=>by
  have h':(if i=t then some y else look (argsX l (i+1)) t)=some x:=h
  split at h'
  ·rename_i e;cases h';exact⟨0,by omega,rfl⟩
  ·obtain⟨j,h1,h2⟩:=args_look h'
   exact⟨j+1,by omega,by simpa using h2⟩
theorem calls_of(G:E.Good γ0 w0)(mx:E.P.follows .mixedOrders=true)(hd:Nat->Nat){f:FuncId}{fn:Func}{c:Code}(hf:E.P.funcs[f]?=some fn)(hb:fn.body=some c)(args:List SV)(ha:∀ x∈args,x.ok/\x.lt E.base=true)(hn:args.length<=fn.ntmps){T:Tr}
  (hT:exec E fn.ntmps hd c 0 0 ⟨argsX args 0,[],E.base⟩ (finX E fn.results)=T) (hQ:T.wp E.base Q):Calls E.P f (args.map (·.val γ0)).toArray w0 fun e w'=>∃ r,Q.leaf r/\e=.returned (r.val γ0)/\Below w0.heap.size w0 w':=by
 refine enter hf hb fun a hz hdf he=>?_;have R0:Rel E γ0 γ0 fn.ntmps w0 ⟨argsX args 0,[],E.base⟩ a w0:=by
  refine⟨fun _ _=>rfl,Nat.le_refl _,by simp at hz;omega,hdf,fun t x hx=>?_,HC.start w0,fun r hr=>by cases hr⟩;obtain⟨j,rfl,hj⟩:=args_look hx;refine⟨?_,ha x (List.mem_of_getElem? hj)⟩;rw[he,Nat.zero_add];simp[hj]
 exact exec_ok (N:=fn.ntmps) G mx (hT ▸ hQ) R0 fun Q' e γ s' a' w' hq R' hk=>(by
  have:=finX_ok G R' (fn:=fn) (e:=e) hk;rw[hq.1]at this;exact this)
end
end Go.Proofs.YtfmpjjhdocejiaaGreat.Sy
namespace Go.Proofs.YtfmpjjhdocejiaaGreat.Sy
open Go.RowKit
def Tr.diag:Tr->Tr
 | .need (.same g _) t=>.need (.same g g) t.diag
 | .need (.eq x _) t=>.need (.eq x x) t.diag
 | .need p t=>.need p t.diag
 | .br b t f=>.br b t.diag f.diag
 | t=>t
inductive Sh
 | leaf (r:SV)
 | br (b:Bool) (t f:Sh)
 | need (p:Prop) (t:Sh)
 | cut (d:Nat)
 | loop (d:Nat)
 | bad
def Tr.shape:Tr->Sh
 | .leaf r=>.leaf r
 | .br b t f=>.br b t.shape f.shape
 | .need (.same _ _) t=>t.shape
 | .need (.eq _ _) t=>t.shape
 | .need (.ask p) t=>.need p t.shape
 | .cut d _=>.cut d
 | .loop d _ _=>.loop d
 | .bad=>.bad
def Tr.on:List Bool->Tr->Tr
 | b::l,.br _ t f=>match b with
  | true=>Tr.on l t
  | false=>Tr.on l f
 | l,.need _ t=>Tr.on l t
 | _,t=>t
def Sh.wp(Q:Post)(L:List Bool->Prop):Sh->Prop
 | .leaf r=>Q.leaf r
 | .br b t f=>(b=true->t.wp Q fun l=>L (true::l))/\(b=false->f.wp Q fun l=>L (false::l))
 | .need p t=>p/\t.wp Q L
 | .cut _=>L []
 | .loop _=>L []
 | .bad=>False
theorem wp_of_shape{base:Nat}{Q:Post}:∀ {T:Tr} {L:List Bool->Prop},T=T.diag->T.shape.wp Q L->(∀ l,L l->(T.on l).wp base Q)->T.wp base Q
 | .leaf r,_,_,h,_=>h
 | .br b t f,L,hd,h,hL=>by
  have h1:t=t.diag:=by injection hd
  have h2:f=f.diag:=by injection hd
  exact⟨fun e=>wp_of_shape h1 (h.1 e) fun l hl=>hL (true::l) hl,fun e=>wp_of_shape h2 (h.2 e) fun l hl=>hL (false::l) hl⟩
 | .need (.same g g') t,L,hd,h,hL=>by
  have h1:Tr.need (.same g g') t=.need (.same g g) t.diag:=hd;injection h1 with h2 h3
  injection h2 with _ h4
  refine⟨fun hg=>h4 ▸ hg,wp_of_shape h3 h fun l hl=>?_⟩;have:=hL l hl;cases l <;> exact this
 | .need (.eq g g') t,L,hd,h,hL=>by
  have h1:Tr.need (.eq g g') t=.need (.eq g g) t.diag:=hd;injection h1 with h2 h3
  injection h2 with _ h4
  refine⟨h4.symm,wp_of_shape h3 h fun l hl=>?_⟩;have:=hL l hl;cases l <;> exact this
 | .need (.ask p) t,L,hd,h,hL=>by
  have h1:Tr.need (.ask p) t=.need (.ask p) t.diag:=hd;injection h1 with _ h3
  refine⟨h.1,wp_of_shape h3 h.2 fun l hl=>?_⟩;have:=hL l hl;cases l <;> exact this
 | .cut d s,L,_,h,hL=>hL [] h
 | .loop d s b,L,_,h,hL=>hL [] h
 | .bad,_,_,h,_=>h.elim
def Tr.headOf:Tr->Option (Nat × St)
 | .loop d s _=>some (d,s)
 | _=>none
def Tr.round(s:St):Tr->Tr
 | .loop _ _ b=>b s
 | _=>.bad
def Tr.stOf:Tr->St
 | .loop _ s _=>s
 | _=>⟨[],[],0⟩
def Tr.isLoop(d:Nat):Tr->Bool
 | .loop d' _ _=>d' == d
 | _=>false
def subB(base:Nat)(s':St):Bool:=decide (base<=s'.n)&&s'.M.all (fun r=>r.2.1.lt s'.n&&decide (r.1<s'.n))&&s'.S.all fun p=>match p.2 with
 | some x=>x.lt s'.n
 | none=>true
def Tr.cutOf:Tr->St
 | .cut _ s=>s
 | _=>⟨[],[],0⟩
def Tr.isCut(d:Nat):Tr->Bool
 | .cut d' _=>d' == d
 | _=>false
theorem cut_wp{base:Nat}{Q:Post}{T:Tr}(d:Nat)(hs:T.isCut d=true)(h:Q.cut d T.cutOf):T.wp base Q:=by
 cases T with
 | cut d' s =>
  obtain rfl:d'=d:=by simpa[Tr.isCut]using hs
  exact h
 | _=>cases hs
def eqsS(S:List (Nat × Option SV)):List (Nat × Option SV)->Prop
 | []=>True
 | (t,some x)::l=>lookX S t=some x/\eqsS S l
 | (_,none)::l=>eqsS S l
theorem subS_of{S:List (Nat × Option SV)}{n:Nat}:∀ {l:List (Nat × Option SV)},eqsS S l->(l.all fun p=>match p.2 with
  | some x=>x.lt n
  | none=>true)=true->subS S n l
 | [],_,_=>trivial
 | (t,some x)::l,h,hb=>by
  rw[List.all_cons,Bool.and_eq_true]at hb;exact⟨⟨⟨x,h.1,.rfl'⟩,hb.1⟩,subS_of h.2 hb.2⟩
 | (t,none)::l,h,hb=>by
  rw[List.all_cons,Bool.and_eq_true]at hb;exact subS_of (l:=l) h hb.2
theorem Sub.of{base:Nat}{s s':St}(gs:List Nat)(hB:subB base s'=true)(hS:eqsS s.S s'.S)(hM:s'.M=s.M.filter fun r=>gs.contains r.1):Sub base s s':=by
 unfold subB at hB;rw[Bool.and_eq_true,Bool.and_eq_true]at hB;refine⟨of_decide_eq_true hB.1.1,subS_of hS hB.2,⟨gs,hM⟩,fun r hr=>?_⟩;have:=List.all_eq_true.1 hB.1.2 r hr;rw[Bool.and_eq_true]at this;exact⟨this.1,of_decide_eq_true this.2⟩
theorem next_wp{base:Nat}{Q:Post}{T:Tr}(d:Nat)(hs:T.isCut d=true){ι:Type}{st:ι->St}{μ:ι->Nat}{i:ι}(j:ι)(hj:μ j<μ i)(h:Sub base T.cutOf (st j)):T.wp base ⟨Q.leaf,fun d' s'=>if d'=d then ∃ j,μ j<μ i/\Sub base s' (st j)else Q.cut d' s'⟩ :=
 cut_wp d hs (by
  dsimp only;rw[if_pos rfl];exact⟨j,hj,h⟩)
theorem loop_wp{base:Nat}{Q:Post}{T:Tr}(d:Nat)(hs:T.isLoop d=true){ι:Type}(st:ι->St)(μ:ι->Nat)(i0:ι)(h0:Sub base T.stOf (st i0))(hr:∀ i,(T.round (st i)).wp base ⟨Q.leaf,fun d' s'=>if d'=d then ∃ j,μ j<μ i/\Sub base s' (st j)else Q.cut d' s'⟩):T.wp base Q:=by
 cases T with
 | loop d' s' b =>
  obtain rfl:d'=d:=by simpa[Tr.isLoop]using hs
  exact⟨ι,st,μ,⟨i0,h0⟩,hr⟩
 | _=>cases hs
def walk(E:Env)(hd:Nat->Nat)(fn:Func)(args:List SV):Tr:=exec E fn.ntmps hd (fn.body.getD .skip) 0 0 ⟨argsX args 0,[],E.base⟩ (finX E fn.results)
theorem calls_sh{E:Env}{γ0:Pl}{w0:World}{Q:SV->Prop}(G:E.Good γ0 w0)(mx:E.P.follows .mixedOrders=true)(hd:Nat->Nat){f:FuncId}{fn:Func}(hf:E.P.funcs[f]?=some fn)(hb:fn.body.isSome=true)(args:List SV)(ha:∀ x∈args,x.ok/\x.lt E.base=true)(hn:decide (args.length<=fn.ntmps)=true)
  (hD:walk E hd fn args=(walk E hd fn args).diag) (Z:Sh) (hZ:(walk E hd fn args).shape=Z) (hW:Z.wp ⟨Q,fun _ _=>False⟩ fun l=>((walk E hd fn args).on l).wp E.base ⟨Q,fun _ _=>False⟩):Calls E.P f (args.map (·.val γ0)).toArray w0 fun e w'=>∃ r,Q r/\e=.returned (r.val γ0)/\Below w0.heap.size w0 w':=by
 obtain⟨c,hc⟩:=Option.isSome_iff_exists.1 hb;have e:fn.body.getD .skip=c:=by rw[hc];rfl
 exact calls_of G mx hd hf hc args ha (of_decide_eq_true hn) rfl (Q:=⟨Q,fun _ _=>False⟩) (by rw[<- e];exact wp_of_shape hD (hZ ▸ hW) fun _ h=>h)
def okAll(base:Nat):List SV->Prop
 | []=>True
 | x::l=>(x.ok/\x.lt base=true)/\okAll base l
theorem okAll_mem{base:Nat}:∀ {l:List SV},okAll base l->∀ x∈l,x.ok/\x.lt base=true
 | [],_,x,h=>by cases h
 | y::l,ha,x,h=>by
  rcases List.mem_cons.1 h with rfl | h
  ·exact ha.1
  ·exact okAll_mem ha.2 x h
theorem calls_at{E:Env}{γ0:Pl}{w0:World}{V:Value}(G:E.Good γ0 w0)(mx:E.P.follows .mixedOrders=true)(hd:Nat->Nat){f:FuncId}{fn:Func}(hf:E.P.funcs[f]?=some fn)(hb:fn.body.isSome=true)(args:List SV)(ha:okAll E.base args)(hn:decide (args.length<=fn.ntmps)=true)
  (hD:walk E hd fn args=(walk E hd fn args).diag) (Z:Sh) (hZ:(walk E hd fn args).shape=Z) (hW:Z.wp ⟨fun r=>r.val γ0=V,fun _ _=>False⟩ fun l=>((walk E hd fn args).on l).wp E.base ⟨fun r=>r.val γ0=V,fun _ _=>False⟩):Calls E.P f (args.map (·.val γ0)).toArray w0 fun e w'=>e=.returned V/\Below w0.heap.size w0 w' :=
 (calls_sh G mx hd hf hb args (okAll_mem ha) hn hD Z hZ hW).mono fun _ _ ⟨_,h1,h2,h3⟩=>⟨by rw[h2,h1],h3⟩
end Go.Proofs.YtfmpjjhdocejiaaGreat.Sy
namespace Go.Proofs.YtfmpjjhdocejiaaGreat
open Go.RowKit
-- WHAT partInverse COMES TO.
theorem pinv_any(p:Nat)(hp:p<18446744073709551616)(w:World):Calls Tryz.prog 96 #[.int .u64 (p:Nat)] w fun e w'=>e=.returned (.int .u64 (pin p 5:Nat))/\w=w':=by
 have HP:=Lib.hid hp;clear hp;go_enter Tryz.func96,Tryz.ntmps96
 go_wp2_with fail
 go_loopw [3,5] (fun v iv wr=>∃ k:Nat,k<=5/\iv=.int .i64 k/\v=.int .u64 (pin p k:Nat)/\w=wr) (fun _ iv _=>5 - (intOf iv).toNat)
 case atStart=>exact⟨0,by omega,rfl,rfl,rfl⟩
 case round =>
  obtain⟨k,hk,rfl,rfl,rfl⟩:=hrel;have hk0:(0:Int)<=k:=by omega
  by_cases hlt:k<5
  ·have hlt':(k:Int)<5:=by omega
   have hxl:=pin_lt p k HP.out;have HX:=Lib.hid (show pin p (k+1)=nst p (pin p k) from rfl);obtain⟨x,hx⟩:∃ x,pin p k=x:=⟨_,rfl⟩
   rw[hx]at hxl HX |-
   obtain⟨y,hy⟩:∃ y,p*x%18446744073709551616=y:=⟨_,rfl⟩
   obtain⟨z,hz⟩:∃ z,(18446744073709551616+2 - y)%18446744073709551616=z:=⟨_,rfl⟩
   obtain⟨u,hu⟩:∃ u,x*z%18446744073709551616=u:=⟨_,rfl⟩
   have h1:IntKind.u64.wrap ((p:Int)*x)=(y:Int):=by rw[IntKind.wrap_u64];omega
   have hyl:y<18446744073709551616:=by rw[<- hy];exact Nat.mod_lt _ (by omega)
   have h2:IntKind.u64.wrap (2 - (y:Int))=(z:Int):=by rw[IntKind.wrap_u64,<- hz];omega
   have h3:IntKind.u64.wrap ((x:Int)*z)=(u:Int):=by rw[IntKind.wrap_u64];omega
   have HU:=Lib.hid (show pin p (k+1)=u from by rw[HX.out];unfold nst;rw[hy,hz,hu]);have HK:=Lib.hid hlt;clear hx HX hy hz hu hyl hxl hlt hk
   go_wp2_with fail
   go_roundw
   case rel=>exact⟨k+1,by have:=HK.out;omega,by go_num,by rw[HU.out],trivial⟩
   case measure=>have:=HK.out;simp[intOf];omega
  ·obtain rfl:k=5:=by omega
   have hlt':¬((5:Nat):Int)<5:=by omega
   simp only[Int.cast_ofNat_Int]
   go_wp2_with fail
   go_ret;exact⟨rfl,rfl⟩
open Go.RowKit
theorem pw_zero:pw 0=#[.int .u64 0,.int .u64 0,.int .u64 0,.int .u64 0]:=by kernel_rfl
-- WHAT Neg COMES TO.
theorem fneg_any(F m a:Nat)(ha:a<115792089237316195423570985008687907853269984665640564039457584007913129639936)(w:World)(hF:FldAt w F m):Calls Tryz.prog 51 #[.pointer (some ⟨F,0,none⟩),.agg (pw a)] w fun e w'=>e=.returned (.agg (pw ((0%m+(m - a%m))%m)))/\Below w.heap.size w w':=by
 have H0:=Lib.hid (CW.one hF a);have HT:=Lib.hid (CW.calls (w:=w) (F:=F) (m:=m) (L:=[(w.heap.size+1,#[.int .u64 0,.int .u64 0,.int .u64 0,.int .u64 0]),(w.heap.size,pw a)]) (fun wx hf=>fsub_any F m 0 a (by omega) ha wx hf));rw[pw_zero]at HT;obtain⟨y,hy⟩:∃ y,(0%m+(m - a%m))%m=y:=⟨_,rfl⟩
 rw[hy]at HT |-
 clear hy hF ha;go_enter Tryz.func51,Tryz.ntmps51
 go_wp2_with (refine wpList_ld rfl 24 _ rfl (.pointer (some ⟨w.heap.size,0,none⟩)) (.agg (pw a)) rfl (ld_pw (by exact H0.out.is _ _ (by simp))) ?_)
 refine(HT.out _ H0.out).mono ?_;rintro e w5 ⟨rfl,c⟩;have HC:=Lib.hid c;clear c HT H0
 go_wp2_with (refine wpList_store_row rfl 24 _ _ rfl (w.heap.size+1) (pw y) rfl rfl 24 (#[.int .u64 0,.int .u64 0,.int .u64 0,.int .u64 0]) (by exact HC.out.is _ _ (by simp)) (by rw[pw_size];exact infoW4) (by first | rfl | (rw[pw_size];rfl) | (rw[pw_size,pw_size])) (pw_one _) ?_)
 (try simp only[Act.put])
 refine bodyPost_ret (v:=.agg (pw y)) (results_cell_row (p:=4) rfl _ _ (w.heap.size+1) 24 (pw y) (0,0) _ rfl (setRow_heap _ _ _ _ _ _ (by exact HC.out.is _ (#[.int .u64 0,.int .u64 0,.int .u64 0,.int .u64 0]) (by simp))) Tryz.underlying24 rfl (by rw[pw_size];exact infoW4)) rfl ⟨rfl,below_setRow HC.out.old (by omega) _⟩
open Go.RowKit
theorem arr_lit4(t:Array Value):t=((List.range t.size).map fun i=>t.getD i undef).toArray:=by
 apply Array.ext
 ·simp
 ·intro i h1 h2
  simp[Array.getD,h1]
structure CN (w:World) (m g a:Nat) (wx:World):Prop where
 old:Below w.heap.size w wx
 r0:wx.heap[w.heap.size]?=some (.cells (pw m) 24 (0,0))
 r1:wx.heap[g]?=some (.cells (pw a) 24 (0,0))
 hg:w.heap.size<g
theorem CN.high{w wx:World}{m g a:Nat}(c:CN w m g a wx):g+1<=wx.heap.size:=(Array.getElem?_eq_some_iff.1 c.r1).1
theorem CN.below{w wx w':World}{m g a:Nat}(c:CN w m g a wx)(hb:Below wx.heap.size wx w'):CN w m g a w' :=
 ⟨c.old.trans (hb.mono c.old.size),(hb.block _ (Array.getElem?_eq_some_iff.1 c.r0).1).trans c.r0,(hb.block _ (Array.getElem?_eq_some_iff.1 c.r1).1).trans c.r1,c.hg⟩
theorem CN.drew{w wx:World}{m g a:Nat}(c:CN w m g a wx):CN w m g a wx.drew:=c.below (Below.drew (Below.refl _ _))
theorem CN.rowed{w wx:World}{m g a D:Nat}{cs:Array Value}(c:CN w m g a wx)(hD:g+1<=D):CN w m g a (wx.setRow D cs):=by
 have:=c.hg;exact⟨below_setRow c.old (by omega) _,(setRow_other _ _ _ _ (by omega)).trans c.r0,(setRow_other _ _ _ _ (by omega)).trans c.r1,c.hg⟩
theorem CN.calls{w:World}{m g a:Nat}{f:FuncId}{args:Array Value}{v:Value}(h:∀ wx,Calls Tryz.prog f args wx fun e w'=>e=.returned v/\Below wx.heap.size wx w'):∀ wx,CN w m g a wx->Calls Tryz.prog f args wx fun e w'=>e=.returned v/\CN w m g a w' :=
 fun wx c=>(h wx).mono fun _ _ hh=>⟨hh.1,c.below hh.2⟩
theorem q_un4{P:Program}{ops:Array Oper}{C:World->Prop}{Q:Act->Prop}{a:Act}{o:Oper}{rest:List Oper}(op:UnOp)(T:TypeId)(x:Operand)(u r:Value)(ho:o.op=.unOp op T x)(hw:Region.wanted o (yielded ops a.tmps)=true)(hx:a.eval x=u)
  (hb:∀ w,(Op.unary op u).run P w=.ok r w) (h:wpQuiet P ops C Q rest (a.put o.dst r)):wpQuiet P ops C Q (o::rest) a :=
 q_val r hw (fun w hC=>by
  unfold execOp;rw[ho];simp only[hx,Sem.run_bind,hb w,Result.andThen_ok,Sem.run_pure]) h
def FW(y:Nat)(_:TypeId):Array Value:=pw y
theorem sq_ones(m:Nat):(2^256 - 1 - 0+1)%m*((2^256 - 1 - 0+1)%m)%m=sqr m:=by
 unfold sqr;rw[show(2^256) - 1 - 0+1=2^256 from rfl,<- Nat.mul_mod]
theorem neg_u(a b:Nat)(h:(18446744073709551616 - a)%18446744073709551616=b)(hl:a<18446744073709551616)(w:World):(Op.unary .neg (.int .u64 (a:Nat))).run Tryz.prog w=.ok (.int .u64 (b:Nat)) w:=by
 have e:IntKind.u64.wrap (-(a:Int))=(b:Int):=by rw[IntKind.wrap_u64];omega
 go_simp
theorem pN0(m:Nat):pN m 0=m%18446744073709551616:=by unfold pN;simp
theorem frw_lit{m:Nat}:ar .u64 9 (fun j=>((frw m j:Nat):Int))=#[.int .u64 ((pN m 0:Nat):Int),.int .u64 ((pN m 1:Nat):Int),.int .u64 ((pN m 2:Nat):Int),.int .u64 ((pN m 3:Nat):Int),.int .u64 ((nin m:Nat):Int),.int .u64 ((pN (sqr m) 0:Nat):Int),.int .u64 ((pN (sqr m) 1:Nat):Int),.int .u64 ((pN (sqr m) 2:Nat):Int),.int .u64 ((pN (sqr m) 3:Nat):Int)]:=by
 kernel_rfl
theorem pw4(x:Nat):pw x=#[.int .u64 ((pN x 0:Nat):Int),.int .u64 ((pN x 1:Nat):Int),.int .u64 ((pN x 2:Nat):Int),.int .u64 ((pN x 3:Nat):Int)]:=by
 rw[pw_ar];kernel_rfl
-- WHAT modulo COMES TO.
theorem modulo_any(m:Nat)(ho:m%2=1)(h1:1<m)(hm:m<2^256)(w:World):Calls Tryz.prog 76 #[.agg (pw m)] w fun e w'=>∃ F,e=.returned (.pointer (some ⟨F,0,none⟩))/\FldAt w' F m/\w.heap.size<=F/\Below w.heap.size w w':=by
 have HNT:=Lib.hid (fun wx=>not_pw 0 (by omega) wx);rw[pw_zero]at HNT;have HO:=Lib.hid (And.intro ho (And.intro h1 hm));obtain⟨ao,ha⟩:∃ ao,2^256 - 1 - 0=ao:=⟨_,rfl⟩
 have hal:ao<2^256:=by omega
 rw[ha]at HNT;obtain⟨so,hs⟩:∃ so,(ao+1)%m=so:=⟨_,rfl⟩
 have hsl:so<2^256:=by rw[<- hs];exact Nat.lt_trans (Nat.mod_lt _ (by omega)) hm
 have HAM:=Lib.hid (fun wx=>addmod_pw ao 1 m hal (by omega) (by omega) hm wx);rw[hs]at HAM;have HMM:=Lib.hid (fun wx=>mulmod_pw so so m hsl hsl (by omega) hm wx);rw[<- hs,<- ha,sq_ones,ha,hs]at HMM;rw[pw4 (sqr m)]at HMM;have HPI:=Lib.hid (fun wx=>pinv_any (pN m 0) (pN_lt m 0) wx);have HNI:=Lib.hid (show(18446744073709551616 - pin (pN m 0) 5)%18446744073709551616=nin m from by unfold nin;rw[pN0 m]);have HPL:=Lib.hid (pin_lt (pN m 0) 5 (pN_lt m 0));clear ho h1 hm hal hsl ha hs;go_enter Tryz.func76,Tryz.ntmps76
 go_wp2_with fail
 refine(HNT.out _).mono ?_;rintro e w1 ⟨rfl,hb1⟩;obtain⟨g,hg⟩:∃ g,w1.heap.size=g:=⟨_,rfl⟩
 have H1:=Lib.hid (show CN w m g ao ((w1.alloc (.cells #[.int .u64 0,.int .u64 0,.int .u64 0,.int .u64 0] 24)).setRow w1.heap.size (pw ao)) from by
  have h0:w.heap.size<w1.heap.size:=by have:=hb1.size;rw[World.size_alloc]at this;omega
  rw[<- hg];exact⟨below_setRow (((show Below w.heap.size w (w.alloc (.cells (pw m) 24)) from by go_grown).trans (hb1.mono (by simp))).alloc (by omega) _) (by omega) _,(setRow_other _ _ _ _ (by omega)).trans ((((Below.refl w1.heap.size w1).alloc (Nat.le_refl _) _).block _ h0).trans ((hb1.block _ (by simp)).trans (heap_alloc_new _ _))),setRow_heap _ _ _ _ _ _ (heap_alloc_new _ _),h0⟩)
 have HG:=Lib.hid (And.intro hg (heap_alloc_new w1 (.cells #[.int .u64 0,.int .u64 0,.int .u64 0,.int .u64 0] 24)));clear hb1 hg HNT
 go_wp2_with (refine wpList_store_row rfl 24 _ _ rfl w1.heap.size (pw ao) rfl rfl 24 (#[.int .u64 0,.int .u64 0,.int .u64 0,.int .u64 0]) (by exact HG.out.2) (by rw[pw_size];exact infoW4) (by rw[pw_size];rfl) (pw_one _) ?_)
 obtain⟨w2,hw2⟩:∃ w2,(w1.alloc (.cells #[.int .u64 0,.int .u64 0,.int .u64 0,.int .u64 0] 24)).setRow w1.heap.size (pw ao)=w2:=⟨_,rfl⟩
 rw[hw2]at H1 |-
 rw[HG.out.1];clear hw2 HG;refine region_tie (CN w m g ao) (fun i s wx=>match i with | 0=>s 7=(.agg (pw ao)) | 1=>s 8=(.agg (pw 1)) | 2=>s 9=(.agg (pw m)) | 3=>s 10=(.agg (pw so)) | 4=>∃ D,s 4=.pointer (some ⟨D,0,none⟩)/\(g+1)<=D/\∃ cs:Array Value,wx.heap[D]?=some (.cells cs 24 (0,0))/\cs.size=4 | 5=>∃ D,s 4=.pointer (some ⟨D,0,none⟩)/\(g+1)<=D/\wx.heap[D]?=some (.cells (FW so 24) 24 (0,0)) | _=>True) (RT (g+1) (FW so)) (fun i=>match i with | 0=>[7] | 1=>[8] | 2=>[9] | 3=>[10] | 4=>[4] | 5=>[4] | _=>[]) (fun i=>i) (by kernel_rfl) (by kernel_rfl) H1.out.drew ?_ ?_ ?_ ?_
 ·intro i s s' wx he hp
  match i,he,hp with
  | 0,he,hp=>exact(he 7 (by simp)).symm.trans hp
  | 1,he,hp=>exact(he 8 (by simp)).symm.trans hp
  | 2,he,hp=>exact(he 9 (by simp)).symm.trans hp
  | 3,he,hp=>exact(he 10 (by simp)).symm.trans hp
  | 4,he,hp=>obtain⟨D,h1,h2⟩:=hp;exact⟨D,(he 4 (by simp)).symm.trans h1,h2⟩
  | 5,he,hp=>obtain⟨D,h1,h2⟩:=hp;exact⟨D,(he 4 (by simp)).symm.trans h1,h2⟩
  | _+6,_,_=>trivial
 ·intro i s wa wb hR hp
  match i,hp with
  | 0,hp=>exact hp
  | 1,hp=>exact hp
  | 2,hp=>exact hp
  | 3,hp=>exact hp
  | 4,hp=>obtain⟨D,h1,h2,cs,h3,h4⟩:=hp;obtain⟨cs',h5,h6⟩:=hR.shape _ _ _ _ h3;exact⟨D,h1,h2,cs',h5,h6.trans h4⟩
  | 5,hp=>obtain⟨D,h1,h2,h3⟩:=hp;exact⟨D,h1,h2,hR.keep _ _ _ h3⟩
  | _+6,_=>trivial
 ·refine⟨?_,?_,?_,?_,?_,?_,trivial⟩
  ·intro a wx hC hsz hK
   have h0:a.tmps.getD 3 undef=(.pointer (some ⟨g,0,none⟩)):=hK.1 3 (by kernel_rfl);exact tt_load 24 (.tmp 3) ((.pointer (some ⟨g,0,none⟩))) ((.agg (pw ao))) rfl (by kernel_rfl) h0 (ld_pw hC.r1) hC (slots_put _ _ _ (by rw[hsz];exact of_decide_eq_true (by kernel_rfl))) (RT.refl _ _ _)
  ·intro a wx hC hsz hK
   refine tt_call 70 #[(.int .u64 (1:Nat))] (by kernel_rfl) (by kernel_rfl) ?_;exact(of_wv 1 (by omega) wx).mono fun e w' hh=>⟨_,hh.1,hC.below hh.2,(slots_put _ _ _ (by rw[hsz];exact of_decide_eq_true (by kernel_rfl))),RT.of hC.high hh.2⟩
  ·intro a wx hC hsz hK
   have h0:a.tmps.getD 1 undef=(.pointer (some ⟨w.heap.size,0,none⟩)):=hK.1 1 (by kernel_rfl);exact tt_load 24 (.tmp 1) ((.pointer (some ⟨w.heap.size,0,none⟩))) ((.agg (pw m))) rfl (by kernel_rfl) h0 (ld_pw hC.r0) hC (slots_put _ _ _ (by rw[hsz];exact of_decide_eq_true (by kernel_rfl))) (RT.refl _ _ _)
  ·intro a wx hC hsz hK
   have h0:a.tmps.getD 7 undef=(.agg (pw ao)):=hK.2 ⟨0,.data⟩ (by simp) rfl _ rfl;have h1:a.tmps.getD 8 undef=(.agg (pw 1)):=hK.2 ⟨1,.data⟩ (by simp) rfl _ rfl;have h2:a.tmps.getD 9 undef=(.agg (pw m)):=hK.2 ⟨2,.data⟩ (by simp) rfl _ rfl;refine tt_call 95 #[a.tmps.getD 7 undef,a.tmps.getD 8 undef,a.tmps.getD 9 undef] (by kernel_rfl) (by kernel_rfl) ?_;rw[h0,h1,h2];exact(HAM.out wx).mono fun e w' hh=>⟨_,hh.1,hC.below hh.2,(slots_put _ _ _ (by rw[hsz];exact of_decide_eq_true (by kernel_rfl))),RT.of hC.high hh.2⟩
  ·intro a wx hC hsz hK
   exact tt_new (.pointer (some ⟨wx.heap.size,0,none⟩)) (by kernel_rfl) (by kernel_rfl) (hC.below ((Below.refl _ _).alloc (Nat.le_refl _) _)) ⟨_,(slots_put _ _ _ (by rw[hsz];exact of_decide_eq_true (by kernel_rfl))),hC.high,#[.int .u64 0,.int .u64 0,.int .u64 0,.int .u64 0],heap_alloc_new _ _,rfl⟩ (RT.of hC.high ((Below.refl _ _).alloc (Nat.le_refl _) _))
  ·intro a wx hC hsz hK
   obtain⟨D,h1,h2,cs,h3,h4⟩:=hK.2 ⟨4,.data⟩ (by simp) rfl _ rfl;have h0:a.tmps.getD 10 undef=(.agg (pw so)):=hK.2 ⟨3,.data⟩ (by simp) rfl _ rfl;exact tt_store (by kernel_rfl) rfl (run_store 24 (.tmp 4) (.tmp 10) _ _ rfl h1 h0 (store_w h4 h3)) (hC.rowed h2) ⟨D,h1,h2,setRow_heap _ _ _ _ _ _ h3⟩ (RT.row h2 h3 (by rw[h4];rfl))
 intro f1 wx hC hf1;obtain⟨D,s4',hDl,hD⟩:=hf1 5 _ rfl;have H2:=Lib.hid (show CN w m D so wx from⟨hC.old,hC.r0,hD,by have:=hC.hg;omega⟩);clear hC hD hDl;generalize hAct:putAll _ _ _=G at *;have s1:G.tmps.getD 1 undef=.pointer (some ⟨w.heap.size,0,none⟩):=by subst hAct;kernel_rfl
 have s4c:G.tmps.getD 4 undef=.pointer (some ⟨D,0,none⟩):=s4';have hsz:G.tmps.size=22:=by rw[<- hAct,putAll_size];rfl
 have hdf:G.defers=[]:=by subst hAct;kernel_rfl
 clear hAct hf1 s4' H1 HAM;obtain⟨u0,t0⟩:∃ u,G.tmps.getD 0 undef=u:=⟨_,rfl⟩
 obtain⟨u2,t2⟩:∃ u,G.tmps.getD 2 undef=u:=⟨_,rfl⟩
 obtain⟨u3,t3⟩:∃ u,G.tmps.getD 3 undef=u:=⟨_,rfl⟩
 obtain⟨u5,t5⟩:∃ u,G.tmps.getD 5 undef=u:=⟨_,rfl⟩
 obtain⟨u6,t6⟩:∃ u,G.tmps.getD 6 undef=u:=⟨_,rfl⟩
 obtain⟨u7,t7⟩:∃ u,G.tmps.getD 7 undef=u:=⟨_,rfl⟩
 obtain⟨u8,t8⟩:∃ u,G.tmps.getD 8 undef=u:=⟨_,rfl⟩
 obtain⟨u9,t9⟩:∃ u,G.tmps.getD 9 undef=u:=⟨_,rfl⟩
 obtain⟨u10,t10⟩:∃ u,G.tmps.getD 10 undef=u:=⟨_,rfl⟩
 obtain⟨u11,t11⟩:∃ u,G.tmps.getD 11 undef=u:=⟨_,rfl⟩
 obtain⟨u12,t12⟩:∃ u,G.tmps.getD 12 undef=u:=⟨_,rfl⟩
 obtain⟨u13,t13⟩:∃ u,G.tmps.getD 13 undef=u:=⟨_,rfl⟩
 obtain⟨u14,t14⟩:∃ u,G.tmps.getD 14 undef=u:=⟨_,rfl⟩
 obtain⟨u15,t15⟩:∃ u,G.tmps.getD 15 undef=u:=⟨_,rfl⟩
 obtain⟨u16,t16⟩:∃ u,G.tmps.getD 16 undef=u:=⟨_,rfl⟩
 obtain⟨u17,t17⟩:∃ u,G.tmps.getD 17 undef=u:=⟨_,rfl⟩
 obtain⟨u18,t18⟩:∃ u,G.tmps.getD 18 undef=u:=⟨_,rfl⟩
 obtain⟨u19,t19⟩:∃ u,G.tmps.getD 19 undef=u:=⟨_,rfl⟩
 obtain⟨u20,t20⟩:∃ u,G.tmps.getD 20 undef=u:=⟨_,rfl⟩
 obtain⟨u21,t21⟩:∃ u,G.tmps.getD 21 undef=u:=⟨_,rfl⟩
 obtain⟨tm,df⟩:=G;simp only at *;have hLt:=arr_lit4 tm;rw[hsz]at hLt;simp only[List.range,List.range.loop,List.map]at hLt;rw[t0,s1,t2,t3,s4c,t5,t6,t7,t8,t9,t10,t11,t12,t13,t14,t15,t16,t17,t18,t19,t20,t21]at hLt;subst hLt hdf;clear t0 s1 t2 t3 s4c t5 t6 t7 t8 t9 t10 t11 t12 t13 t14 t15 t16 t17 t18 t19 t20 t21 hsz
 go_wp2_with fail
 refine region_quiet_tail 10 (CN w m D so) (by kernel_rfl) (by kernel_rfl) (H2.out.drew) ?_;simp only[List.take_succ_cons,List.take_zero,List.drop_succ_cons,List.drop_zero]
 with_reducible refine q_load 24 (.tmp 1) (.pointer (some ⟨w.heap.size,0,none⟩)) (.agg #[.int .u64 ((pN m 0:Nat):Int),.int .u64 ((pN m 1:Nat):Int),.int .u64 ((pN m 2:Nat):Int),.int .u64 ((pN m 3:Nat):Int)]) rfl (by kernel_rfl) (by kernel_rfl) (fun _ c=>(by rw[<- pw4];exact ld_pw c.r0)) ?_
 with_reducible refine q_sem2 (Instr.indexAt 24 (.pointer (some ⟨w.heap.size,0,none⟩)) (.int .i64 (0:Nat))) (.pointer (some ⟨w.heap.size,0,none⟩)) (by kernel_rfl) (by kernel_rfl) (fun w' _=>by kernel_rfl) ?_
 with_reducible refine q_load 22 (.tmp 12) (.pointer (some ⟨w.heap.size,0,none⟩)) (.int .u64 (pN m 0:Nat)) rfl (by kernel_rfl) (by kernel_rfl) (fun _ c=>load_u64 _ _ _ _ ((cell_of_row _ _ 0 _ _ _ c.r0).trans (by rw[pw4];simp))) ?_
 with_reducible refine q_call 96 #[.int .u64 (pN m 0:Nat)] (.int .u64 (pin (pN m 0) 5:Nat)) (by kernel_rfl) (fun _=>by kernel_rfl) (fun wx c=>(HPI.out wx).mono fun e w' hh=>⟨hh.1,hh.2 ▸ c⟩) ?_
 with_reducible refine q_un4 .neg 22 (.tmp 14) (.int .u64 (pin (pN m 0) 5:Nat)) (.int .u64 (nin m:Nat)) rfl (by kernel_rfl) (by kernel_rfl) (fun w'=>neg_u _ _ HNI.out HPL.out w') ?_
 with_reducible refine q_load 24 (.tmp 4) (.pointer (some ⟨D,0,none⟩)) (.agg (pw so)) rfl (by kernel_rfl) (by kernel_rfl) (fun _ c=>ld_pw c.r1) ?_
 with_reducible refine q_load 24 (.tmp 4) (.pointer (some ⟨D,0,none⟩)) (.agg (pw so)) rfl (by kernel_rfl) (by kernel_rfl) (fun _ c=>ld_pw c.r1) ?_
 with_reducible refine q_load 24 (.tmp 1) (.pointer (some ⟨w.heap.size,0,none⟩)) (.agg (pw m)) rfl (by kernel_rfl) (by kernel_rfl) (fun _ c=>ld_pw c.r0) ?_
 with_reducible refine q_call 97 #[.agg (pw so),.agg (pw so),.agg (pw m)] (.agg #[.int .u64 ((pN (sqr m) 0:Nat):Int),.int .u64 ((pN (sqr m) 1:Nat):Int),.int .u64 ((pN (sqr m) 2:Nat):Int),.int .u64 ((pN (sqr m) 3:Nat):Int)]) (by kernel_rfl) (fun _=>by kernel_rfl) (CN.calls HMM.out) ?_
 with_reducible refine q_val (.agg #[.int .u64 ((pN m 0:Nat):Int),.int .u64 ((pN m 1:Nat):Int),.int .u64 ((pN m 2:Nat):Int),.int .u64 ((pN m 3:Nat):Int),.int .u64 ((nin m:Nat):Int),.int .u64 ((pN (sqr m) 0:Nat):Int),.int .u64 ((pN (sqr m) 1:Nat):Int),.int .u64 ((pN (sqr m) 2:Nat):Int),.int .u64 ((pN (sqr m) 3:Nat):Int)]) (by kernel_rfl) (fun _ _=>by kernel_rfl) ?_
 with_reducible refine wpQuiet_nil ?_
 intro wx hC;have HC:=Lib.hid hC;clear hC H2;simp only[Act.put,List.setIfInBounds_toArray,List.set_cons_succ,List.set_cons_zero]
 go_wp2_with fail
 go_ret;exact⟨wx.heap.size,rfl,⟨by rw[frw_lit];exact heap_alloc_new _ _,HO.out.1,HO.out.2.1,HO.out.2.2⟩,HC.out.old.size,HC.out.old.alloc HC.out.old.size _⟩
open Go.RowKit
section
variable {P:Program} {ops:Array Oper} {C:World->Prop} {Q:Exit->Act->World->Prop}
theorem wpList_quiet:∀(l:List Oper) (a:Act) (w:World),C w->wpQuiet P ops C (fun a'=>∀ w',C w'->Q .normal a' w') l a->wpList P ops Q l a w
 | [],_,w,hC,h=>h w hC
 | o::l,a,w,hC,h=>by
  unfold wpQuiet at h;unfold wpList
  split
  ·rename_i hw
   rw[if_pos hw]at h;exact .inl (Oper.wp_of_quiet hC (fun a' w' hC' hK=>wpList_quiet l a' w' hC' hK) h)
  ·rename_i hw
   rw[if_neg hw]at h;exact wpList_quiet l _ w hC h
theorem q_region{id:Nat}{l:List Oper}{a:Act}{w:World}(C:World->Prop)(hC:C w)(h:wpQuiet P l.toArray C (fun a'=>∀ w',C w'->Q .normal a' w') l a):(Code.region id l.toArray false).wp P Q a w :=
 wp_region_list (by simpa using wpList_quiet l a w hC (by simpa using h))
end
end Go.Proofs.YtfmpjjhdocejiaaGreat
