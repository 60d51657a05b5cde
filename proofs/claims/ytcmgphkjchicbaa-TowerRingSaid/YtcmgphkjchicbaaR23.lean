/- Code walked over values told by letters: it is so. No program is named here. (Cut to what is reached, written closely: SyX.) -/
import Derived.Test.YtcmgphkjchicbaaR22
set_option linter.all false
set_option maxRecDepth 100000
set_option maxHeartbeats 8000000
namespace Go.Proofs.Ytcmgphkjchicbaa.Sy
open Go.RowKit
section
variable {E:Env} {n:Nat} {γ0 γ:Pl} {N:Nat} {w0 w w':World} {s:St} {a:Act} {o:Oper} {x:SV} {k:St->Tr} {Q:Post} {ops:Array Oper} {rest:List Oper} {X:Exit->Act->World->Prop} {P:Program}
def Okay(n:Nat)(lk:Nat->Option SV):Prop:=∀ t x,lk t=some x->x.ok/\x.lt n=true
theorem opnd_okay{lk:Nat->Option SV}{x:Operand}{u:SV}(hk:Okay n lk)(h:opnd lk x=some u):u.ok/\u.lt n=true:=by
 cases x with
 | tmp t=>exact hk t u h
 | const v=>cases h;exact(constS_ok (fun _=>0) n v).2
 | func f=>cases h;exact⟨trivial,rfl⟩
 | global g=>cases h
theorem opnds_okay{lk:Nat->Option SV}(hk:Okay n lk):∀ {l:List Operand} {us:List SV},opnds lk l=some us->∀ u∈us,u.ok/\u.lt n=true
 | [],us,h=>by cases h;exact fun u hu=>(by cases hu)
 | x::l,us,h=>by
  unfold opnds at h
  split at h
  ·rename_i u r hu hr
   cases h;intro v hv;rcases List.mem_cons.1 hv with rfl | hv
   ·exact opnd_okay hk hu
   ·exact opnds_okay hk hr v hv
  ·cases h
theorem parts_okay{lk:Nat->Option SV}(hk:Okay n lk):∀ {l:List (Nat × Operand)} {us:List (Nat × SV)},partsOf lk l=some us->∀ u∈us,u.2.ok/\u.2.lt n=true
 | [],us,h=>by cases h;exact fun u hu=>(by cases hu)
 | x::l,us,h=>by
  unfold partsOf at h
  split at h
  ·rename_i u r hu hr
   cases h;intro v hv;rcases List.mem_cons.1 hv with rfl | hv
   ·exact opnd_okay hk hu
   ·exact parts_okay hk hr v hv
  ·cases h
theorem fillS_okay{fs:List (Nat × Nat)}:∀ {l:List (Nat × SV)} {z r:SV},fillS fs z l=some r->(∀ x∈l,x.2.ok/\x.2.lt n=true)->z.ok->z.lt n=true->r.ok/\r.lt n=true
 | [],z,r,h,_,h1,h2=>by cases h;exact⟨h1,h2⟩
 | (i,x)::l,z,r,h,hl,h1,h2=>by
  unfold fillS at h
  split at h
  ·split at h
   ·split at h
    ·rename_i z' hz
     have q:=SV.put_ok (fun _=>0) hz;have hx:=hl _ (.head _);exact fillS_okay h (fun y hy=>hl y (.tail _ hy)) (q.ok h1 hx.1) (q.lt _ h2 hx.2)
    ·cases h
   ·cases h
  ·cases h
theorem opVal_okay(G:E.Good γ0 w0)(hb:E.base<=n){lk:Nat->Option SV}{M:Rows}{op:Op}{r:SV}{p:List Ob}(hk:Okay n lk)(hM:∀ r∈M,r.2.1.ok/\r.2.1.lt n=true)(h:opVal E lk M op=some (r,p))(hp:All p):r.ok/\r.lt n=true:=by
 cases op with
 | move x=>exact opnd_okay hk (map_nil h)
 | assign x=>exact opnd_okay hk (map_nil h)
 | pick c x y =>
  dsimp only[opVal]at h
  split at h
  ·exact opnd_okay hk (map_nil h)
  ·exact opnd_okay hk (map_nil h)
  ·split at h
   ·cases h
    exact⟨trivial,rfl⟩
   ·cases h
  ·cases h
 | load T x =>
  dsimp only[opVal]at h
  split at h
  ·split at h
   ·rename_i hr
    split at h
    ·have pt:=SV.sub_ok (fun _=>0) (map_nil h)
     have hm:=hM _ (rowIn_ok hr);exact⟨pt.ok hm.1,pt.lt _ hm.2⟩
    ·cases h
   ·have hx':=G.xld _ _ _ _ _ _ _ h hp
    exact⟨hx'.1,SV.lt_mono hb hx'.2.1⟩
  ·cases h
 | build T parts =>
  dsimp only[opVal]at h
  split at h
  ·rename_i l hl
   have q:=parts_okay hk hl
   split at h
   ·rename_i y hy
    split at h
    ·have hb':=G.bld _ _ _ (map_nil h) (fun x hx=>(q x hx).1)
     exact⟨hb'.1,SV.lt_mono (Nat.zero_le _) hb'.2.1⟩
    ·split at h
     ·split at h
      ·rename_i rr hf
       split at h
       ·cases h
        have ty:=G.tys _ (tyIn_ok hy).1;exact fillS_okay hf q ty.zok (SV.lt_mono (Nat.zero_le _) ty.zlt)
       ·cases h
      ·cases h
     ·cases h
   ·cases h
  ·cases h
 | fieldAddr T x i =>
  dsimp only[opVal]at h
  split at h
  ·rename_i hx _
   split at h
   ·split at h
    ·cases h
    ·cases h
     exact⟨trivial,(opnd_okay hk hx).2⟩
   ·cases h
  ·cases h
 | extract x i =>
  dsimp only[opVal]at h
  split at h
  ·rename_i s t hx
   have q:=opnd_okay hk hx;have hl:s.lt n=true/\t.lt n=true:=by
    have:=q.2;simpa only[SV.lt,Bool.and_eq_true]using this
   split at h
   ·cases h
    exact⟨q.1.1,hl.1⟩
   ·split at h
    ·cases h
     exact⟨q.1.2,hl.2⟩
    ·cases h
  ·cases h
 | unOp op T x =>
  cases op <;> first | cases h | skip
  dsimp only[opVal]at h
  split at h
  ·cases h
   exact⟨trivial,rfl⟩
  ·cases h
   exact⟨trivial,rfl⟩
  ·cases h
 | binOp op T x y t =>
  dsimp only[opVal]at h
  split at h
  ·rename_i u v hu hv
   have hg:=G.bop _ _ _ _ _ _ h hp (opnd_okay hk hu).1 (opnd_okay hk hv).1;exact⟨hg.1,SV.lt_mono (Nat.zero_le _) hg.2.1⟩
  ·cases h
 | indexAddr T x y =>
  dsimp only[opVal]at h
  split at h
  ·rename_i u v hu hv
   have q1:=opnd_okay hk hu;have hg:=G.ixa _ _ _ _ _ n h hp q1.2 q1.1 (opnd_okay hk hv).1;exact⟨hg.1,hg.2.1⟩
  ·cases h
 | index T x y =>
  dsimp only[opVal]at h
  split at h
  ·rename_i u v hu hv
   have q1:=opnd_okay hk hu;have hg:=G.idx _ _ _ _ n (map_nil h) q1.2 q1.1 (opnd_okay hk hv).1;exact⟨hg.1,hg.2.1⟩
  ·cases h
 | nilCheck x =>
  dsimp only[opVal]at h
  split at h
  ·rename_i hx
   cases h;exact opnd_okay hk hx
  ·cases h
 | slice T x lo hi m =>
  cases m <;> first | (cases h;done) | skip
  dsimp only[opVal]at h
  split at h
  ·rename_i u l hh hu hl hhh
   have hg:=G.slc _ _ _ _ _ n (map_nil h) (opnd_okay hk hu).2;exact⟨hg.1,hg.2.1⟩
  ·cases h
 | makeFunc f first caps =>
  cases f <;> first | (cases h;done) | skip
  dsimp only[opVal]at h
  split at h
  ·split at h
   ·rename_i l hl
    cases h;exact(tuS_ok (γ:=fun _=>0) (n:=n) (opnds_okay hk hl)).2
   ·cases h
  ·cases h
 | call c =>
  dsimp only[opVal]at h
  split at h
  ·split at h
   ·split at h
    ·cases h
     exact⟨hp _ (.head _),rfl⟩
    ·cases h
   ·cases h
  ·cases h
 | _=>cases h
theorem callX_okay{n:Nat}{lk:Nat->Option SV}{c:Call}{f:FuncId}{l:List SV}(hk:Okay n lk)(h:callX lk c=some (f,l)):∀ u∈l,u.ok/\u.lt n=true:=by
 unfold callX at h
 split at h
 ·obtain⟨l',hl,e⟩:=Option.map_eq_some_iff.1 h
  cases e;exact opnds_okay hk hl
 ·split at h
  ·rename_i g k x l' ht hl
   split at h
   ·rename_i hc
    cases h;intro u hu;rcases List.mem_append.1 hu with hu | hu
    ·exact opnds_okay hk hl u hu
    ·have:=hk _ _ ht
     exact(capsOf_ok (γ:=fun _=>0) (n:=n) hc).2 this.1 this.2 u hu
   ·cases h
  ·cases h
 ·cases h
theorem valS_okay(G:E.Good γ0 w0)(hb:E.base<=n){lk:Nat->Option SV}{M:Rows}{r:SV}{p:List Ob}(hk:Okay n lk)(hM:∀ r∈M,r.2.1.ok/\r.2.1.lt n=true)(h:valS E n lk M o=some (r,p))(hp:All p):r.ok:=by
 unfold valS at h
 split at h
 ·split at h
  ·split at h
   ·rename_i f l hl
    split at h
    ·rename_i hr
     cases h;exact(G.ctr _ _ _ _ _ _ _ hr hp hb (callX_okay hk hl) hM).1
    ·cases h
   ·cases h
  ·exact(opVal_okay G hb hk hM h hp).1
 ·exact(opVal_okay G hb hk hM h hp).1
theorem li_value{v:Value}(hw:Region.wanted o (yielded ops a.tmps)=true)(hr:(execOp a.eval o).run P w=.ok (.value v) w')(h:wpList P ops X rest (a.put o.dst v) w'):wpList P ops X (o::rest) a w :=
 wpList_step fun K hK=>by
  rw[if_pos hw];unfold Oper.wp;rw[hr];exact hK _ _ h
theorem li_unit(hw:Region.wanted o (yielded ops a.tmps)=true)(hr:(execOp a.eval o).run P w=.ok .skip w')(h:wpList P ops X rest (a.put o.dst undef) w'):wpList P ops X (o::rest) a w :=
 wpList_step fun K hK=>by
  rw[if_pos hw];unfold Oper.wp;rw[hr];exact hK _ _ h
theorem li_made{f:FuncId}{args:Array Value}{Z:Ending->World->Prop}(hw:Region.wanted o (yielded ops a.tmps)=true)(hr:(execOp a.eval o).run P w=.ok (.enter f args) w)
  (hc:Calls P f args w Z) (h:∀ e w',Z e w'->∃ v,e=.returned v/\wpList P ops X rest (a.put o.dst v) w'):wpList P ops X (o::rest) a w :=
 wpList_step fun K hK=>by
  rw[if_pos hw];unfold Oper.wp;rw[hr];refine Calls.mono hc ?_;intro e w' hz;obtain⟨v,rfl,hh⟩:=h e w' hz;exact hK _ _ hh
theorem made_nil{γ:Pl}{n:Nat}{r:SV}{wx w':World}{e:Ending}(hl:r.lt (n+([]:Rows).length)=true)(h:Made γ n r [] wx e w'):e=.returned (r.val γ)/\Below wx.heap.size wx w':=by
 obtain⟨⟨δ,h1,h2,_⟩,h3⟩:=h;exact⟨by rw[h2,(SV.lt_same h1 hl).2.2],h3⟩
theorem li_call{f:FuncId}{args:Array Value}{v:Value}(hw:Region.wanted o (yielded ops a.tmps)=true)(hr:(execOp a.eval o).run P w=.ok (.enter f args) w)
  (hc:Calls P f args w fun e w'=>e=.returned v/\Below w.heap.size w w') (h:∀ w',Below w.heap.size w w'->wpList P ops X rest (a.put o.dst v) w'):wpList P ops X (o::rest) a w :=
 wpList_step fun K hK=>by
  rw[if_pos hw];unfold Oper.wp;rw[hr];refine Calls.mono hc ?_;rintro e w' ⟨rfl,hb⟩;exact hK _ _ (h w' hb)
theorem callX_ok{γ:Pl}{n:Nat}{lk:Nat->Option SV}{c:Call}{f:FuncId}{l:List SV}(hk:Holds γ n lk a)(ho:o.op=.call c)(h:callX lk c=some (f,l)):execOp a.eval o=callFunc f (l.map (·.val γ)).toArray/\∀ u∈l,u.ok/\u.lt n=true:=by
 refine⟨?_,callX_okay (fun t x ht=>(hk t x ht).2) h⟩;obtain⟨ce,as_,ts⟩:=c;unfold callX at h;dsimp only at h;have key:∀ l',opnds lk as_.toList=some l'->as_.map a.eval=(l'.map (·.val γ)).toArray:=fun l' hl=>by
  apply Array.ext';rw[Array.toList_map];exact(opnds_ok hk hl).1
 split at h
 ·rename_i g
  obtain⟨l',hl,e⟩:=Option.map_eq_some_iff.1 h;cases e;unfold execOp;rw[ho];show(do let d <- resolve a.eval _ o.type;invoke d.target d.args)=_;unfold resolve Deferred.ofValue invoke;simp[Act.eval,key _ hl]
 ·rename_i t
  split at h
  ·rename_i g k x l' ht hl
   split at h
   ·rename_i hc
    cases h;have hv:=(hk t _ ht).1;have hc':=(capsOf_ok (γ:=γ) (n:=n) hc).1;unfold execOp;rw[ho];show(do let d <- resolve a.eval _ o.type;invoke d.target d.args)=_;unfold resolve Deferred.ofValue invoke;have hv':a.eval (.tmp t)=.func (.func f) #[] ((capsOf k x).map (·.val γ)).toArray:=by
     rw[<- hc'];exact hv
    simp[hv',key _ hl]
   ·cases h
  ·cases h
 ·cases h
theorem fill_congr{f g:Nat->Option (Nat × Nat)}:∀ {l:List (Nat × Value)} {cs:Array Value},(∀ x∈l,f x.1=g x.1)->Instr.fill f cs l=Instr.fill g cs l
 | [],_,_=>rfl
 | (i,v)::l,cs,h=>by
  unfold Instr.fill;have h0:f i=g i:=h (i,v) (.head _);rw[h0];cases g i with
  | none=>rfl
  | some q =>
   obtain⟨off,sz⟩:=q;dsimp only
   split
   ·rfl
   ·exact fill_congr fun x hx=>h x (.tail _ hx)
theorem opVal_go(G:E.Good γ0 w0){d:Nat}{r:SV}{p:List Ob}(hx:(if d<N then needs p (k (s.put d (some r)))else Tr.bad).wp E.base Q)(R:Rel E γ0 γ N w0 s a w)(hw:Region.wanted o (yielded ops a.tmps)=true)(hd:o.dst=some d)(h:opVal E (look s.S) s.M o.op=some (r,p))
  (cont:∀ γ s' a' w',Rel E γ0 γ N w0 s' a' w'->(k s').wp E.base Q->wpList E.P ops X rest a' w'):wpList E.P ops X (o::rest) a w:=by
 split at hx
 ·rename_i hdN
  obtain⟨hp,hk⟩:=needs_wp hx;have q:=opVal_ok G R.ag R.base R.k R.lies R.h.old h hp;refine li_value hw q.1 ?_;rw[hd];exact cont _ _ _ _ (R.put hdN q.2.1 q.2.2) hk
 ·cases hx
theorem opGo_ok(G:E.Good γ0 w0)(hx:(opGo E N o s k).wp E.base Q)(R:Rel E γ0 γ N w0 s a w)(hw:Region.wanted o (yielded ops a.tmps)=true)
  (cont:∀ γ s' a' w',Rel E γ0 γ N w0 s' a' w'->(k s').wp E.base Q->wpList E.P ops X rest a' w'):wpList E.P ops X (o::rest) a w:=by
 obtain⟨op,ho⟩:∃ op,o.op=op:=⟨_,rfl⟩
 obtain⟨dst,hd⟩:∃ d,o.dst=d:=⟨_,rfl⟩
 unfold opGo at hx;rw[ho,hd]at hx
 split at hx
 ·rename_i T x y
  split at hx
  ·rename_i g off j z v ty hx1 hy1 ht
   split at hx
   ·rename_i hh
    obtain⟨rfl,hv,hz⟩:=hh
    split at hx
    ·rename_i M hM
     have q1:=opnd_ok R.k hx1;have q2:=opnd_ok R.k hy1;have tg:=(G.tys _ (tyIn_ok ht).1).sz;rw[(tyIn_ok ht).2,<- hz]at tg;obtain⟨w',h1,h2⟩:=R.store hM hv q2.2.1 q2.2.2 tg;refine li_unit (w':=w') hw ?_ ?_
     ·unfold execOp
      rw[ho];have e:a.eval x=.pointer (some ⟨γ g,off,none⟩):=by
       rw[q1.1];show Value.pointer (some ⟨γ g,off+j*0,none⟩)=_;rw[Nat.mul_zero,Nat.add_zero]
      simp only[e,q2.1,Sem.run_bind,h1,Result.andThen_ok,Sem.run_pure]
     ·rw[hd]
      exact cont _ _ _ _ h2 hx
    ·cases hx
   ·cases hx
  ·cases hx
 ·rename_i T d
  split at hx
  ·rename_i ty ht
   split at hx
   ·rename_i hdN
    have tg:=G.tys _ (tyIn_ok ht).1;obtain⟨δ,h2⟩:=R.new (T:=T) hdN tg.zok (SV.lt_mono (Nat.zero_le _) tg.zlt);have hz:=tg.zero;rw[(tyIn_ok ht).2,(SV.lt_same (γ:=fun _=>0) (δ:=γ) (n:=0) (fun k hk=>absurd hk (Nat.not_lt_zero _)) tg.zlt).2.1]at hz;refine li_value (v:=.pointer (some ⟨w.heap.size,0,none⟩)) (w':=w.alloc (.cells (ty.zero.cells γ).toArray T)) hw ?_ ?_
    ·unfold execOp
     rw[ho];cases hi:E.P.info? T with
     | none=>rw[hi]at hz;cases hz
     | some it =>
      rw[hi]at hz;cases hzz:it.zero with
      | none=>rw[Option.bind_some,hzz]at hz;cases hz
      | some zv =>
       rw[Option.bind_some,hzz]at hz;have hz':zv.cells=(ty.zero.cells γ).toArray:=Option.some.inj hz;simp[Instr.alloc,zeroValue,typeInfo,hi,hzz,newVar,newRow,hz']
    ·rw[hd]
     exact cont _ _ _ _ h2 hx
   ·cases hx
  ·cases hx
 ·rename_i T x d
  split at hx
  ·rename_i v hv
   split at hx
   ·rename_i hh
    have q:=opnd_ok R.k hv;obtain⟨δ,h2⟩:=R.new (T:=T) hh.1 q.2.1 q.2.2;refine li_value (v:=.pointer (some ⟨w.heap.size,0,none⟩)) (w':=w.alloc (.cells (v.cells γ).toArray T)) hw (run_box ho q.1 ?_) ?_
    ·rcases SV.plain_any hh.2 with h1 | h1
     ·rw[SV.val_one h1,cells_one (SV.one_cell h1)]
     ·rw[SV.val_many h1]
      rfl
    ·rw[hd]
     exact cont _ _ _ _ h2 hx
   ·cases hx
  ·cases hx
 ·rename_i T n parts d
  split at hx
  ·rename_i b l hb hl
   split at hx
   ·rename_i hc
    split at hx
    ·rename_i r hr
     obtain⟨hbm,hbT,hbn⟩:=bsIn_ok hb;have bg:=G.bss _ hbm;have q:=partsOf_ok R.k hl;have hall:=List.all_eq_true.1 hc.2;have hfo:=fillS_okay hr q.2 bg.ok (SV.lt_mono (Nat.zero_le _) bg.lt);obtain⟨δ,h2⟩:=R.newS (n:=n) (T:=b.e) hc.1 hfo.1 hfo.2;refine li_value (v:=.slice (some ⟨w.heap.size,0,none⟩) n n) (w':=w.alloc (.cells (r.cells γ).toArray b.e)) hw ?_ ?_
     ·have hfill:=fill_ok (γ:=γ) hr (fun x hx=>by have:=hall x hx;rw[Bool.and_eq_true]at this;exact this.2)
      have hz:=bg.z;rw[(SV.lt_same (γ:=fun _=>0) (δ:=γ) (n:=0) (fun k hk=>absurd hk (Nat.not_lt_zero _)) bg.lt).2.1]at hz;have hu:=bg.u;rw[hbT]at hu;have hfew:=of_decide_eq_false bg.few;have hpos:=of_decide_eq_false bg.pos;rw[hbn]at hz hfew hpos;cases hi:E.P.info? b.e with
      | none=>rw[hi]at hz;cases hz
      | some it =>
       have hs:=bg.i;rw[hi]at hz hs;have hs':it.size=b.sz:=Option.some.inj hs;cases hzz:it.zero with
       | none=>rw[Option.bind_some,hzz]at hz;cases hz
       | some zv =>
        rw[Option.bind_some,hzz]at hz;have hz':(Array.range (n*b.sz)).map (zv.cells[·%zv.cells.size]!)=(b.zs.cells γ).toArray:=Option.some.inj hz;have hfc:Instr.fill (fun i=>some (i*b.sz,b.sz)) (b.zs.cells γ).toArray (l.map fun x=>(x.1,x.2.val γ))=some (r.cells γ).toArray:=by
         rw[<- hfill];refine fill_congr fun x hx=>?_;obtain⟨y,hy,rfl⟩:=List.mem_map.1 hx;have hlt:y.1<n:=by
          have:=hall y hy;rw[Bool.and_eq_true]at this;exact of_decide_eq_true this.1
         simp[hlt]
        unfold execOp;rw[ho];have hrun:(Instr.buildSlice T n (parts.map fun(x:Nat × Operand)=>(x.1,a.eval x.2))).run E.P w=.ok (.slice (some ⟨w.heap.size,0,none⟩) n n) (w.alloc (.cells (r.cells γ).toArray b.e)):=by
         simp[Instr.buildSlice,run_underlying hu,sizeOf,typeInfo,hi,hs',hfew,hpos,zeroValue,hzz,hz',q.1,hfc,newRow]
        show(do let v <- Instr.buildSlice T n (parts.map fun(x:Nat × Operand)=>(x.1,a.eval x.2));pure (.value v):Sem Next).run E.P w=_;rw[Sem.run_bind,hrun,Result.andThen_ok,Sem.run_pure]
     ·rw[hd]
      exact cont _ _ _ _ h2 hx
    ·cases hx
   ·cases hx
  ·cases hx
 ·rename_i c d
  split at hx
  ·split at hx
   ·rename_i f l hl
    split at hx
    ·rename_i r p R' hr
     split at hx
     ·rename_i hdN
      obtain⟨hp,hk⟩:=needs_wp hx;have q:=callX_ok R.k ho hl;have g:=G.ctr _ _ _ _ _ _ _ hr hp R.base q.2 (fun r hr=>⟨(R.m r hr).1,(R.m r hr).2.1⟩);refine li_made (Z:=Made γ s.n r R' w) hw ((congrArg (fun m=>Sem.run E.P m w) q.1).trans (g.2.2.2.1 _ _)) ?_ fun e w' hz=>?_
      ·exact g.2.2.2.2 γ R.ag w R.h.old R.lies
      ·obtain⟨⟨δ,h1,h2,h3,h4⟩,h5⟩:=hz
       refine⟨_,h2,?_⟩;rw[hd];exact cont _ _ _ _ (R.made hdN g.1 g.2.1 g.2.2.1 h1 h5 h3 h4) hk
     ·cases hx
    ·cases hx
   ·cases hx
  ·split at hx
   ·rename_i r p hr
    exact opVal_go G hx R hw hd (by rw[ho];exact hr) cont
   ·cases hx
 ·rename_i op' d _ _ _
  split at hx
  ·rename_i r p hr
   exact opVal_go G hx R hw hd (by rw[ho];exact hr) cont
  ·cases hx
 ·cases hx
theorem valS_ok(G:E.Good γ0 w0)(R:Rel E γ0 γ N w0 s a w){lk:Nat->Option SV}{r:SV}{p:List Ob}(hk:Holds γ s.n lk a)(h:valS E s.n lk s.M o=some (r,p))(hp:All p)(hw:Region.wanted o (yielded ops a.tmps)=true)
  (cont:∀ w',Below w.heap.size w w'->wpList E.P ops X rest (a.put o.dst (r.val γ)) w'):r.ok/\wpList E.P ops X (o::rest) a w:=by
 unfold valS at h
 split at h
 ·rename_i c ho
  split at h
  ·split at h
   ·rename_i f l hl
    split at h
    ·rename_i r' p' hr
     cases h;have q:=callX_ok hk ho hl;have g:=G.ctr _ _ _ _ _ _ _ hr hp R.base q.2 (fun r hr=>⟨(R.m r hr).1,(R.m r hr).2.1⟩);refine⟨g.1,li_call (v:=r.val γ) hw ((congrArg (fun m=>Sem.run E.P m w) q.1).trans (g.2.2.2.1 _ _)) ?_ cont⟩;exact(g.2.2.2.2 γ R.ag w R.h.old R.lies).mono fun _ _=>made_nil g.2.1
    ·cases h
   ·cases h
  ·have q:=opVal_ok G R.ag R.base hk R.lies R.h.old (by rw[ho];exact h) hp
   exact⟨q.2.1,li_value hw q.1 (cont w (Below.refl _ _))⟩
 ·have q:=opVal_ok G R.ag R.base hk R.lies R.h.old h hp
  exact⟨q.2.1,li_value hw q.1 (cont w (Below.refl _ _))⟩
theorem Rel.forgetTo{d:Nat}{g:Bool}(R:Rel E γ0 γ N w0 s a w)(hd:d<N)(hg:g=false)(hl:x.lt s.n=true):Rel E γ0 γ N w0 (s.put d (some (.gd g x))) (a.put (some d) undef) w:=by
 have h:=R.put (x:=.gd g x) hd (fun h=>by rw[hg]at h;cases h) hl;have e:(SV.gd g x).val γ=undef:=by
  show(if g=true then x.val γ else undef)=undef;rw[hg];rfl
 rwa [e]at h
theorem wanted_eff{γ:Pl}{d j:Nat}{b e:Bool}{gx:SV}{tmps:Array Value}(hg:o.guard=some (j,b))(hd:(ops[j]?).bind (·.dst)=some d)(hv:tmps.getD d undef=gx.val γ)(h:gEff b gx=some e):Region.wanted o (yielded ops tmps)=e:=by
 have bit:∀ t:Bool,tmps.getD d undef=.bool t->Region.wanted o (yielded ops tmps)=if b=true then t else !t:=fun t ht=>by
  cases b with
  | true =>
   cases t with
   | true=>exact wanted_of hg hd ht
   | false=>exact unwanted_of hg hd ht rfl
  | false =>
   cases t with
   | true=>exact unwanted_of hg hd ht rfl
   | false=>exact wanted_of hg hd ht
 unfold gEff at h
 split at h
 ·rename_i t
  cases h;exact bit t hv
 ·rename_i g t
  cases h;cases g with
  | true=>exact bit t hv
  | false=>exact unwanted_undef hg hd hv
 ·rename_i g t
  cases h;cases g with
  | true=>exact bit t hv
  | false=>exact unwanted_undef hg hd hv
 ·cases h
theorem opAt_ok(G:E.Good γ0 w0)(hx:(opAt E N (fun j=>(ops[j]?).bind (·.dst)) o s k).wp E.base Q)(R:Rel E γ0 γ N w0 s a w)
  (cont:∀ γ s' a' w',Rel E γ0 γ N w0 s' a' w'->(k s').wp E.base Q->wpList E.P ops X rest a' w'):wpList E.P ops X (o::rest) a w:=by
 obtain⟨gd,hg⟩:∃ gd,o.guard=gd:=⟨_,rfl⟩
 obtain⟨dst,hd⟩:∃ d,o.dst=d:=⟨_,rfl⟩
 unfold opAt at hx;rw[hg,hd]at hx
 split at hx
 ·exact opGo_ok G hx R (by unfold Region.wanted;rw[hg]) cont
 ·rename_i j b
  have skip:∀ {d:Nat},o.dst=some d->Region.wanted o (yielded ops a.tmps)=false->(k (s.put d none)).wp E.base Q->wpList E.P ops X (o::rest) a w:=fun hd hw h =>
   wpList_skip hw (by rw[hd];exact cont _ _ _ _ R.forget h)
  split at hx
  ·rename_i d t hk
   split at hx
   ·obtain⟨e,he,hl⟩:=Option.bind_eq_some_iff.1 hk
    have hv:=(R.k _ _ hl).1
    split at hx
    ·rename_i htb
     subst htb;exact opGo_ok G hx R (wanted_of hg he hv) cont
    ·rename_i htb
     exact skip hd (unwanted_of hg he hv (by cases t <;> cases b <;> first | rfl | exact absurd rfl htb)) hx
   ·cases hx
  ·rename_i d gx _ hk
   split at hx
   ·rename_i hdN
    obtain⟨e',he,hl⟩:=Option.bind_eq_some_iff.1 hk;have hv:=(R.k _ _ hl).1
    split at hx
    ·rename_i e hge
     have hw:=wanted_eff hg he hv hge
     split at hx
     ·rename_i r p hr
      split at hx
      ·rename_i hlt
       obtain⟨hp,hk⟩:=needs_wp hx;have hp1:e=true->All p:=underG_ok fun q hq=>hp q (List.mem_append_left _ hq);have hp2:All (condG e (look s.S) (tmpsOf o)):=fun q hq=>hp q (List.mem_append_right _ hq);cases e with
       | true =>
        have hk':Holds γ s.n (lkG (look s.S) (tmpsOf o)) a:=fun u y hy=>by
         obtain⟨z,h1,h2,h3,h4⟩:=lkG_ok (γ:=γ) (n:=s.n) hy hp2 rfl;have:=R.k u z h1;exact⟨this.1.trans h4,h2 this.2.1,h3 this.2.2⟩
        have hok:=valS_okay G R.base (fun u y hy=>(hk' u y hy).2) (fun r hr=>⟨(R.m r hr).1,(R.m r hr).2.1⟩) hr (hp1 rfl);refine(valS_ok G R hk' hr (hp1 rfl) hw fun w' hb=>?_).2;have h:=(R.put (x:=.gd true r) hdN (fun _=>hok) hlt).below hb;rw[hd];exact cont _ _ _ _ h hk
       | false =>
        exact wpList_skip hw (by rw[hd];exact cont _ _ _ _ (R.forgetTo hdN rfl hlt) hk)
      ·cases hx
     ·cases e with
      | true=>exact opGo_ok G (hx.1 rfl) R hw cont
      | false=>exact skip hd hw (hx.2 rfl)
    ·cases hx
   ·cases hx
  ·cases hx
theorem seqX_ok(G:E.Good γ0 w0):∀ {l:List Oper} {s:St} {a:Act} {w:World} {γ:Pl} {k:St->Tr},(seqX E N (fun j=>(ops[j]?).bind (·.dst)) l s k).wp E.base Q->Rel E γ0 γ N w0 s a w ->
  (∀ γ s' a' w',Rel E γ0 γ N w0 s' a' w'->(k s').wp E.base Q->X .normal a' w')->wpList E.P ops X l a w
 | [],_,_,_,_,_,hx,R,cont=>wpList_nil (cont _ _ _ _ R hx)
 | _::_,_,_,_,_,_,hx,R,cont=>opAt_ok G hx R fun _ _ _ _ R' hk=>seqX_ok G hk R' cont
end
end Go.Proofs.Ytcmgphkjchicbaa.Sy
