/- Regions that draw their order: what each operation does is told ahead, and that no other one is in its way. No program is named here. (Cut to what is reached, written closely: SyX · SyG.) -/
import Derived.Test.YthnckclbeecnmaaGreatP18
set_option linter.all false
set_option maxRecDepth 100000
set_option maxHeartbeats 8000000
namespace Go.Proofs.YthnckclbeecnmaaGreat.Sy
open Go.RowKit
section
variable {E:Env} {n:Nat} {γ0 γ:Pl} {N:Nat} {w0 w w':World} {s:St} {a:Act} {o:Oper} {x:SV} {k:St->Tr} {Q:Post} {ops:Array Oper} {rest:List Oper} {X:Exit->Act->World->Prop} {P:Program}
def Okay(n:Nat)(lk:Nat->Option SV):Prop:=∀ t x,lk t=some x->x.ok/\x.lt n=true
theorem opnd_okay{lk:Nat->Option SV}{x:Operand}{u:SV}(hk:Okay n lk)(h:opnd lk x=some u):u.ok/\u.lt n=true:=by
 cases x with
 | tmp t=>exact hk t u h
 | const v=>cases h;exact(constS_ok (fun _=>0) n v).2
 | func f=>cases h;exact⟨trivial,rfl⟩
 | global g=>cases h
theorem opnds_okay{lk:Nat->Option SV}(hk:Okay n lk):∀ {l:List Operand} {us:List SV},opnds lk l=some us->∀ u∈us,u.ok/\u.lt n=true
 | [],us,h=>by cases h;exact fun u hu=>(by cases hu)
 | x::l,us,h=>by
  unfold opnds at h
  split at h
  ·rename_i u r hu hr
   cases h;intro v hv;rcases List.mem_cons.1 hv with rfl | hv
   ·exact opnd_okay hk hu
   ·exact opnds_okay hk hr v hv
  ·cases h
theorem parts_okay{lk:Nat->Option SV}(hk:Okay n lk):∀ {l:List (Nat × Operand)} {us:List (Nat × SV)},partsOf lk l=some us->∀ u∈us,u.2.ok/\u.2.lt n=true
 | [],us,h=>by cases h;exact fun u hu=>(by cases hu)
 | x::l,us,h=>by
  unfold partsOf at h
  split at h
  ·rename_i u r hu hr
   cases h;intro v hv;rcases List.mem_cons.1 hv with rfl | hv
   ·exact opnd_okay hk hu
   ·exact parts_okay hk hr v hv
  ·cases h
theorem fillS_okay{fs:List (Nat × Nat)}:∀ {l:List (Nat × SV)} {z r:SV},fillS fs z l=some r->(∀ x∈l,x.2.ok/\x.2.lt n=true)->z.ok->z.lt n=true->r.ok/\r.lt n=true
 | [],z,r,h,_,h1,h2=>by cases h;exact⟨h1,h2⟩
 | (i,x)::l,z,r,h,hl,h1,h2=>by
  unfold fillS at h
  split at h
  ·split at h
   ·split at h
    ·rename_i z' hz
     have q:=SV.put_ok (fun _=>0) hz;have hx:=hl _ (.head _);exact fillS_okay h (fun y hy=>hl y (.tail _ hy)) (q.ok h1 hx.1) (q.lt _ h2 hx.2)
    ·cases h
   ·cases h
  ·cases h
theorem opVal_okay(G:E.Good γ0 w0)(hb:E.base<=n){lk:Nat->Option SV}{M:Rows}{op:Op}{r:SV}{p:List Ob}(hk:Okay n lk)(hM:∀ r∈M,r.2.1.ok/\r.2.1.lt n=true)(h:opVal E lk M op=some (r,p))(hp:All p):r.ok/\r.lt n=true:=by
 cases op with
 | move x=>exact opnd_okay hk (map_nil h)
 | assign x=>exact opnd_okay hk (map_nil h)
 | pick c x y =>
  dsimp only[opVal]at h
  split at h
  ·exact opnd_okay hk (map_nil h)
  ·exact opnd_okay hk (map_nil h)
  ·split at h
   ·cases h
    exact⟨trivial,rfl⟩
   ·cases h
  ·cases h
 | load T x =>
  dsimp only[opVal]at h
  split at h
  ·split at h
   ·rename_i hr
    split at h
    ·have pt:=SV.sub_ok (fun _=>0) (map_nil h)
     have hm:=hM _ (rowIn_ok hr);exact⟨pt.ok hm.1,pt.lt _ hm.2⟩
    ·have hm:=hM _ (rowIn_ok hr)
     have hg:=G.rld _ _ _ _ _ _ _ n h hp hm.2 hm.1;exact⟨hg.1,hg.2.1⟩
   ·have hx':=G.xld _ _ _ _ _ _ _ h hp
    exact⟨hx'.1,SV.lt_mono hb hx'.2.1⟩
  ·cases h
 | build T parts =>
  dsimp only[opVal]at h
  split at h
  ·rename_i l hl
   have q:=parts_okay hk hl
   split at h
   ·rename_i y hy
    split at h
    ·have hb':=G.bld _ _ _ (map_nil h) (fun x hx=>(q x hx).1)
     exact⟨hb'.1,SV.lt_mono (Nat.zero_le _) hb'.2.1⟩
    ·split at h
     ·split at h
      ·rename_i rr hf
       split at h
       ·cases h
        have ty:=G.tys _ (tyIn_ok hy).1;exact fillS_okay hf q ty.zok (SV.lt_mono (Nat.zero_le _) ty.zlt)
       ·cases h
      ·cases h
     ·cases h
   ·cases h
  ·cases h
 | fieldAddr T x i =>
  dsimp only[opVal]at h
  split at h
  ·rename_i hx _
   split at h
   ·split at h
    ·cases h
    ·cases h
     exact⟨trivial,(opnd_okay hk hx).2⟩
   ·cases h
  ·cases h
 | extract x i =>
  dsimp only[opVal]at h
  split at h
  ·rename_i s t hx
   have q:=opnd_okay hk hx;have hl:s.lt n=true/\t.lt n=true:=by
    have:=q.2;simpa only[SV.lt,Bool.and_eq_true]using this
   split at h
   ·cases h
    exact⟨q.1.1,hl.1⟩
   ·split at h
    ·cases h
     exact⟨q.1.2,hl.2⟩
    ·cases h
  ·cases h
 | unOp op T x =>
  cases op <;> first | cases h | skip
  dsimp only[opVal]at h
  split at h
  ·cases h
   exact⟨trivial,rfl⟩
  ·cases h
   exact⟨trivial,rfl⟩
  ·cases h
 | binOp op T x y t =>
  dsimp only[opVal]at h
  split at h
  ·rename_i u v hu hv
   have hg:=G.bop _ _ _ _ _ _ h hp (opnd_okay hk hu).1 (opnd_okay hk hv).1;exact⟨hg.1,SV.lt_mono (Nat.zero_le _) hg.2.1⟩
  ·cases h
 | indexAddr T x y =>
  dsimp only[opVal]at h
  split at h
  ·rename_i u v hu hv
   have q1:=opnd_okay hk hu;have hg:=G.ixa _ _ _ _ _ n h hp q1.2 q1.1 (opnd_okay hk hv).1;exact⟨hg.1,hg.2.1⟩
  ·cases h
 | index T x y =>
  dsimp only[opVal]at h
  split at h
  ·rename_i u v hu hv
   have q1:=opnd_okay hk hu;have hg:=G.idx _ _ _ _ n (map_nil h) q1.2 q1.1 (opnd_okay hk hv).1;exact⟨hg.1,hg.2.1⟩
  ·cases h
 | convert F T x =>
  dsimp only[opVal]at h
  split at h
  ·rename_i u hu
   have q1:=opnd_okay hk hu;have hg:=G.cnv _ _ _ _ n (map_nil h) q1.2 q1.1;exact⟨hg.1,hg.2.1⟩
  ·cases h
 | nilCheck x =>
  dsimp only[opVal]at h
  split at h
  ·rename_i hx
   cases h;exact opnd_okay hk hx
  ·cases h
 | slice T x lo hi m =>
  cases m <;> first | (cases h;done) | skip
  dsimp only[opVal]at h
  split at h
  ·rename_i u l hh hu hl hhh
   have hg:=G.slc _ _ _ _ _ n (map_nil h) (opnd_okay hk hu).2;exact⟨hg.1,hg.2.1⟩
  ·cases h
 | makeFunc f first caps =>
  cases f <;> first | (cases h;done) | skip
  dsimp only[opVal]at h
  split at h
  ·split at h
   ·rename_i l hl
    cases h;exact(tuS_ok (γ:=fun _=>0) (n:=n) (opnds_okay hk hl)).2
   ·cases h
  ·cases h
 | call c =>
  dsimp only[opVal]at h
  split at h
  ·split at h
   ·split at h
    ·cases h
     exact⟨hp _ (.head _),rfl⟩
    ·split at h
     ·cases h
      exact⟨trivial,rfl⟩
     ·cases h
   ·cases h
  ·cases h
 | _=>cases h
theorem callX_okay{n:Nat}{lk:Nat->Option SV}{c:Call}{f:FuncId}{l:List SV}(hk:Okay n lk)(h:callX lk c=some (f,l)):∀ u∈l,u.ok/\u.lt n=true:=by
 unfold callX at h
 split at h
 ·obtain⟨l',hl,e⟩:=Option.map_eq_some_iff.1 h
  cases e;exact opnds_okay hk hl
 ·split at h
  ·rename_i g k x l' ht hl
   split at h
   ·rename_i hc
    cases h;intro u hu;rcases List.mem_append.1 hu with hu | hu
    ·exact opnds_okay hk hl u hu
    ·have:=hk _ _ ht
     exact(capsOf_ok (γ:=fun _=>0) (n:=n) hc).2 this.1 this.2 u hu
   ·cases h
  ·cases h
 ·cases h
theorem valS_okay(G:E.Good γ0 w0)(hb:E.base<=n){lk:Nat->Option SV}{M:Rows}{r:SV}{p:List Ob}(hk:Okay n lk)(hM:∀ r∈M,r.2.1.ok/\r.2.1.lt n=true)(h:valS E n lk M o=some (r,p))(hp:All p):r.ok:=by
 unfold valS at h
 split at h
 ·split at h
  ·split at h
   ·rename_i f l hl
    split at h
    ·rename_i hr
     cases h;exact(G.ctr _ _ _ _ _ _ _ hr hp hb (callX_okay hk hl) hM).1
    ·cases h
   ·cases h
  ·exact(opVal_okay G hb hk hM h hp).1
 ·exact(opVal_okay G hb hk hM h hp).1
theorem li_value{v:Value}(hw:Region.wanted o (yielded ops a.tmps)=true)(hr:(execOp a.eval o).run P w=.ok (.value v) w')(h:wpList P ops X rest (a.put o.dst v) w'):wpList P ops X (o::rest) a w :=
 wpList_step fun K hK=>by
  rw[if_pos hw];unfold Oper.wp;rw[hr];exact hK _ _ h
theorem li_unit(hw:Region.wanted o (yielded ops a.tmps)=true)(hr:(execOp a.eval o).run P w=.ok .skip w')(h:wpList P ops X rest (a.put o.dst undef) w'):wpList P ops X (o::rest) a w :=
 wpList_step fun K hK=>by
  rw[if_pos hw];unfold Oper.wp;rw[hr];exact hK _ _ h
theorem li_made{f:FuncId}{args:Array Value}{Z:Ending->World->Prop}(hw:Region.wanted o (yielded ops a.tmps)=true)(hr:(execOp a.eval o).run P w=.ok (.enter f args) w)
  (hc:Calls P f args w Z) (h:∀ e w',Z e w'->∃ v,e=.returned v/\wpList P ops X rest (a.put o.dst v) w'):wpList P ops X (o::rest) a w :=
 wpList_step fun K hK=>by
  rw[if_pos hw];unfold Oper.wp;rw[hr];refine Calls.mono hc ?_;intro e w' hz;obtain⟨v,rfl,hh⟩:=h e w' hz;exact hK _ _ hh
theorem made_nil{γ:Pl}{n:Nat}{r:SV}{wx w':World}{e:Ending}(hl:r.lt (n+([]:Rows).length)=true)(h:Made γ n r [] wx e w'):e=.returned (r.val γ)/\Below wx.heap.size wx w':=by
 obtain⟨⟨δ,h1,h2,_⟩,h3⟩:=h;exact⟨by rw[h2,(SV.lt_same h1 hl).2.2],h3⟩
theorem li_call{f:FuncId}{args:Array Value}{v:Value}(hw:Region.wanted o (yielded ops a.tmps)=true)(hr:(execOp a.eval o).run P w=.ok (.enter f args) w)
  (hc:Calls P f args w fun e w'=>e=.returned v/\Below w.heap.size w w') (h:∀ w',Below w.heap.size w w'->wpList P ops X rest (a.put o.dst v) w'):wpList P ops X (o::rest) a w :=
 wpList_step fun K hK=>by
  rw[if_pos hw];unfold Oper.wp;rw[hr];refine Calls.mono hc ?_;rintro e w' ⟨rfl,hb⟩;exact hK _ _ (h w' hb)
theorem callX_ok{γ:Pl}{n:Nat}{lk:Nat->Option SV}{c:Call}{f:FuncId}{l:List SV}(hk:Holds γ n lk a)(ho:o.op=.call c)(h:callX lk c=some (f,l)):execOp a.eval o=callFunc f (l.map (·.val γ)).toArray/\∀ u∈l,u.ok/\u.lt n=true:=by
 refine⟨?_,callX_okay (fun t x ht=>(hk t x ht).2) h⟩;obtain⟨ce,as_,ts⟩:=c;unfold callX at h;dsimp only at h;have key:∀ l',opnds lk as_.toList=some l'->as_.map a.eval=(l'.map (·.val γ)).toArray:=fun l' hl=>by
  apply Array.ext';rw[Array.toList_map];exact(opnds_ok hk hl).1
 split at h
 ·rename_i g
  obtain⟨l',hl,e⟩:=Option.map_eq_some_iff.1 h;cases e;unfold execOp;rw[ho];show(do let d <- resolve a.eval _ o.type;invoke d.target d.args)=_;unfold resolve Deferred.ofValue invoke;simp[Act.eval,key _ hl]
 ·rename_i t
  split at h
  ·rename_i g k x l' ht hl
   split at h
   ·rename_i hc
    cases h;have hv:=(hk t _ ht).1;have hc':=(capsOf_ok (γ:=γ) (n:=n) hc).1;unfold execOp;rw[ho];show(do let d <- resolve a.eval _ o.type;invoke d.target d.args)=_;unfold resolve Deferred.ofValue invoke;have hv':a.eval (.tmp t)=.func (.func f) #[] ((capsOf k x).map (·.val γ)).toArray:=by
     rw[<- hc'];exact hv
    simp[hv',key _ hl]
   ·cases h
  ·cases h
 ·cases h
theorem fill_congr{f g:Nat->Option (Nat × Nat)}:∀ {l:List (Nat × Value)} {cs:Array Value},(∀ x∈l,f x.1=g x.1)->Instr.fill f cs l=Instr.fill g cs l
 | [],_,_=>rfl
 | (i,v)::l,cs,h=>by
  unfold Instr.fill;have h0:f i=g i:=h (i,v) (.head _);rw[h0];cases g i with
  | none=>rfl
  | some q =>
   obtain⟨off,sz⟩:=q;dsimp only
   split
   ·rfl
   ·exact fill_congr fun x hx=>h x (.tail _ hx)
theorem opVal_go(G:E.Good γ0 w0){d:Nat}{r:SV}{p:List Ob}(hx:(if d<N then needs p (k (s.put d (some r)))else Tr.bad).wp E.base Q)(R:Rel E γ0 γ N w0 s a w)(hw:Region.wanted o (yielded ops a.tmps)=true)(hd:o.dst=some d)(h:opVal E (look s.S) s.M o.op=some (r,p))
  (cont:∀ γ s' a' w',Rel E γ0 γ N w0 s' a' w'->(k s').wp E.base Q->wpList E.P ops X rest a' w'):wpList E.P ops X (o::rest) a w:=by
 split at hx
 ·rename_i hdN
  obtain⟨hp,hk⟩:=needs_wp hx;have q:=opVal_ok G R.ag R.base R.k R.lies R.h.old h hp;refine li_value hw q.1 ?_;rw[hd];exact cont _ _ _ _ (R.put hdN q.2.1 q.2.2) hk
 ·cases hx
theorem mkGo_ok(G:E.Good γ0 w0){d:Nat}(hx:(mkGo E N d o.op s k).wp E.base Q)(R:Rel E γ0 γ N w0 s a w)(hw:Region.wanted o (yielded ops a.tmps)=true)(hd:o.dst=some d)
  (cont:∀ γ s' a' w',Rel E γ0 γ N w0 s' a' w'->(k s').wp E.base Q->wpList E.P ops X rest a' w'):wpList E.P ops X (o::rest) a w:=by
 unfold mkGo at hx
 split at hx
 ·rename_i r p R' hr
  split at hx
  ·rename_i hdN
   obtain⟨hp,hk⟩:=needs_wp hx;have g:=G.mkr _ _ _ _ _ _ _ hr hp R.base (fun t x ht=>(R.k t x ht).2) (fun r hr=>⟨(R.m r hr).1,(R.m r hr).2.1⟩);obtain⟨v,w',h0,⟨δ,h1,h2,h3,h4⟩,h5⟩:=g.2.2.2 γ a o w rfl R.k R.lies;have e:v=r.val δ:=by injection h2
   subst e;refine li_value hw h0 ?_;rw[hd];exact cont _ _ _ _ (R.made hdN g.1 g.2.1 g.2.2.1 h1 h5 h3 h4) hk
  ·cases hx
 ·cases hx
theorem opGo_ok(G:E.Good γ0 w0)(hx:(opGo E N o s k).wp E.base Q)(R:Rel E γ0 γ N w0 s a w)(hw:Region.wanted o (yielded ops a.tmps)=true)
  (cont:∀ γ s' a' w',Rel E γ0 γ N w0 s' a' w'->(k s').wp E.base Q->wpList E.P ops X rest a' w'):wpList E.P ops X (o::rest) a w:=by
 obtain⟨op,ho⟩:∃ op,o.op=op:=⟨_,rfl⟩
 obtain⟨dst,hd⟩:∃ d,o.dst=d:=⟨_,rfl⟩
 unfold opGo at hx;rw[ho,hd]at hx
 split at hx
 ·rename_i T x y
  split at hx
  ·rename_i g off j z v ty hx1 hy1 ht
   split at hx
   ·rename_i hh
    obtain⟨rfl,hv,hz⟩:=hh
    split at hx
    ·rename_i M hM
     have q1:=opnd_ok R.k hx1;have q2:=opnd_ok R.k hy1;have tg:=(G.tys _ (tyIn_ok ht).1).sz;rw[(tyIn_ok ht).2,<- hz]at tg;obtain⟨w',h1,h2⟩:=R.store hM hv q2.2.1 q2.2.2 tg;refine li_unit (w':=w') hw ?_ ?_
     ·unfold execOp
      rw[ho];have e:a.eval x=.pointer (some ⟨γ g,off,none⟩):=by
       rw[q1.1];show Value.pointer (some ⟨γ g,off+j*0,none⟩)=_;rw[Nat.mul_zero,Nat.add_zero]
      simp only[e,q2.1,Sem.run_bind,h1,Result.andThen_ok,Sem.run_pure]
     ·rw[hd]
      exact cont _ _ _ _ h2 hx
    ·cases hx
   ·cases hx
  ·cases hx
 ·rename_i T d
  split at hx
  ·rename_i ty ht
   split at hx
   ·rename_i hdN
    have tg:=G.tys _ (tyIn_ok ht).1;obtain⟨δ,h2⟩:=R.new (T:=T) hdN tg.zok (SV.lt_mono (Nat.zero_le _) tg.zlt);have hz:=tg.zero;rw[(tyIn_ok ht).2,(SV.lt_same (γ:=fun _=>0) (δ:=γ) (n:=0) (fun k hk=>absurd hk (Nat.not_lt_zero _)) tg.zlt).2.1]at hz;refine li_value (v:=.pointer (some ⟨w.heap.size,0,none⟩)) (w':=w.alloc (.cells (ty.zero.cells γ).toArray T)) hw ?_ ?_
    ·unfold execOp
     rw[ho];cases hi:E.P.info? T with
     | none=>rw[hi]at hz;cases hz
     | some it =>
      rw[hi]at hz;cases hzz:it.zero with
      | none=>rw[Option.bind_some,hzz]at hz;cases hz
      | some zv =>
       rw[Option.bind_some,hzz]at hz;have hz':zv.cells=(ty.zero.cells γ).toArray:=Option.some.inj hz;simp[Instr.alloc,zeroValue,typeInfo,hi,hzz,newVar,newRow,hz']
    ·rw[hd]
     exact cont _ _ _ _ h2 hx
   ·cases hx
  ·cases hx
 ·rename_i T x d
  split at hx
  ·rename_i v hv
   split at hx
   ·rename_i hh
    have q:=opnd_ok R.k hv;obtain⟨δ,h2⟩:=R.new (T:=T) hh.1 q.2.1 q.2.2;refine li_value (v:=.pointer (some ⟨w.heap.size,0,none⟩)) (w':=w.alloc (.cells (v.cells γ).toArray T)) hw (run_box ho q.1 ?_) ?_
    ·rcases SV.plain_any hh.2 with h1 | h1
     ·rw[SV.val_one h1,cells_one (SV.one_cell h1)]
     ·rw[SV.val_many h1]
      rfl
    ·rw[hd]
     exact cont _ _ _ _ h2 hx
   ·cases hx
  ·cases hx
 ·rename_i T n parts d
  split at hx
  ·rename_i b l hb hl
   split at hx
   ·rename_i hc
    split at hx
    ·rename_i r hr
     obtain⟨hbm,hbT,hbn⟩:=bsIn_ok hb;have bg:=G.bss _ hbm;have q:=partsOf_ok R.k hl;have hall:=List.all_eq_true.1 hc.2;have hfo:=fillS_okay hr q.2 bg.ok (SV.lt_mono (Nat.zero_le _) bg.lt);obtain⟨δ,h2⟩:=R.newS (n:=n) (T:=b.e) hc.1 hfo.1 hfo.2;refine li_value (v:=.slice (some ⟨w.heap.size,0,none⟩) n n) (w':=w.alloc (.cells (r.cells γ).toArray b.e)) hw ?_ ?_
     ·have hfill:=fill_ok (γ:=γ) hr (fun x hx=>by have:=hall x hx;rw[Bool.and_eq_true]at this;exact this.2)
      have hz:=bg.z;rw[(SV.lt_same (γ:=fun _=>0) (δ:=γ) (n:=0) (fun k hk=>absurd hk (Nat.not_lt_zero _)) bg.lt).2.1]at hz;have hu:=bg.u;rw[hbT]at hu;have hfew:=of_decide_eq_false bg.few;have hpos:=of_decide_eq_false bg.pos;rw[hbn]at hz hfew hpos;cases hi:E.P.info? b.e with
      | none=>rw[hi]at hz;cases hz
      | some it =>
       have hs:=bg.i;rw[hi]at hz hs;have hs':it.size=b.sz:=Option.some.inj hs;cases hzz:it.zero with
       | none=>rw[Option.bind_some,hzz]at hz;cases hz
       | some zv =>
        rw[Option.bind_some,hzz]at hz;have hz':(Array.range (n*b.sz)).map (zv.cells[·%zv.cells.size]!)=(b.zs.cells γ).toArray:=Option.some.inj hz;have hfc:Instr.fill (fun i=>some (i*b.sz,b.sz)) (b.zs.cells γ).toArray (l.map fun x=>(x.1,x.2.val γ))=some (r.cells γ).toArray:=by
         rw[<- hfill];refine fill_congr fun x hx=>?_;obtain⟨y,hy,rfl⟩:=List.mem_map.1 hx;have hlt:y.1<n:=by
          have:=hall y hy;rw[Bool.and_eq_true]at this;exact of_decide_eq_true this.1
         simp[hlt]
        unfold execOp;rw[ho];have hrun:(Instr.buildSlice T n (parts.map fun(x:Nat × Operand)=>(x.1,a.eval x.2))).run E.P w=.ok (.slice (some ⟨w.heap.size,0,none⟩) n n) (w.alloc (.cells (r.cells γ).toArray b.e)):=by
         simp[Instr.buildSlice,run_underlying hu,sizeOf,typeInfo,hi,hs',hfew,hpos,zeroValue,hzz,hz',q.1,hfc,newRow]
        show(do let v <- Instr.buildSlice T n (parts.map fun(x:Nat × Operand)=>(x.1,a.eval x.2));pure (.value v):Sem Next).run E.P w=_;rw[Sem.run_bind,hrun,Result.andThen_ok,Sem.run_pure]
     ·rw[hd]
      exact cont _ _ _ _ h2 hx
    ·cases hx
   ·cases hx
  ·cases hx
 ·rename_i c d
  split at hx
  ·split at hx
   ·rename_i f l hl
    split at hx
    ·rename_i r p R' hr
     split at hx
     ·rename_i hdN
      obtain⟨hp,hk⟩:=needs_wp hx;have q:=callX_ok R.k ho hl;have g:=G.ctr _ _ _ _ _ _ _ hr hp R.base q.2 (fun r hr=>⟨(R.m r hr).1,(R.m r hr).2.1⟩);refine li_made (Z:=Made γ s.n r R' w) hw ((congrArg (fun m=>Sem.run E.P m w) q.1).trans (g.2.2.2.1 _ _)) ?_ fun e w' hz=>?_
      ·exact g.2.2.2.2 γ R.ag w R.h.old R.lies
      ·obtain⟨⟨δ,h1,h2,h3,h4⟩,h5⟩:=hz
       refine⟨_,h2,?_⟩;rw[hd];exact cont _ _ _ _ (R.made hdN g.1 g.2.1 g.2.2.1 h1 h5 h3 h4) hk
     ·cases hx
    ·cases hx
   ·cases hx
  ·split at hx
   ·rename_i r p hr
    exact opVal_go G hx R hw hd (by rw[ho];exact hr) cont
   ·exact mkGo_ok G (by rw[ho];exact hx) R hw hd cont
 ·rename_i op' d _ _ _
  split at hx
  ·rename_i r p hr
   exact opVal_go G hx R hw hd (by rw[ho];exact hr) cont
  ·exact mkGo_ok G (by rw[ho];exact hx) R hw hd cont
 ·cases hx
theorem valS_ok(G:E.Good γ0 w0)(R:Rel E γ0 γ N w0 s a w){lk:Nat->Option SV}{r:SV}{p:List Ob}(hk:Holds γ s.n lk a)(h:valS E s.n lk s.M o=some (r,p))(hp:All p)(hw:Region.wanted o (yielded ops a.tmps)=true)
  (cont:∀ w',Below w.heap.size w w'->wpList E.P ops X rest (a.put o.dst (r.val γ)) w'):r.ok/\wpList E.P ops X (o::rest) a w:=by
 unfold valS at h
 split at h
 ·rename_i c ho
  split at h
  ·split at h
   ·rename_i f l hl
    split at h
    ·rename_i r' p' hr
     cases h;have q:=callX_ok hk ho hl;have g:=G.ctr _ _ _ _ _ _ _ hr hp R.base q.2 (fun r hr=>⟨(R.m r hr).1,(R.m r hr).2.1⟩);refine⟨g.1,li_call (v:=r.val γ) hw ((congrArg (fun m=>Sem.run E.P m w) q.1).trans (g.2.2.2.1 _ _)) ?_ cont⟩;exact(g.2.2.2.2 γ R.ag w R.h.old R.lies).mono fun _ _=>made_nil g.2.1
    ·cases h
   ·cases h
  ·have q:=opVal_ok G R.ag R.base hk R.lies R.h.old (by rw[ho];exact h) hp
   exact⟨q.2.1,li_value hw q.1 (cont w (Below.refl _ _))⟩
 ·have q:=opVal_ok G R.ag R.base hk R.lies R.h.old h hp
  exact⟨q.2.1,li_value hw q.1 (cont w (Below.refl _ _))⟩
theorem Rel.forgetTo{d:Nat}{g:Bool}(R:Rel E γ0 γ N w0 s a w)(hd:d<N)(hg:g=false)(hl:x.lt s.n=true):Rel E γ0 γ N w0 (s.put d (some (.gd g x))) (a.put (some d) undef) w:=by
 have h:=R.put (x:=.gd g x) hd (fun h=>by rw[hg]at h;cases h) hl;have e:(SV.gd g x).val γ=undef:=by
  show(if g=true then x.val γ else undef)=undef;rw[hg];rfl
 rwa [e]at h
theorem wanted_eff{γ:Pl}{d j:Nat}{b e:Bool}{gx:SV}{tmps:Array Value}(hg:o.guard=some (j,b))(hd:(ops[j]?).bind (·.dst)=some d)(hv:tmps.getD d undef=gx.val γ)(h:gEff b gx=some e):Region.wanted o (yielded ops tmps)=e:=by
 have bit:∀ t:Bool,tmps.getD d undef=.bool t->Region.wanted o (yielded ops tmps)=if b=true then t else !t:=fun t ht=>by
  cases b with
  | true =>
   cases t with
   | true=>exact wanted_of hg hd ht
   | false=>exact unwanted_of hg hd ht rfl
  | false =>
   cases t with
   | true=>exact unwanted_of hg hd ht rfl
   | false=>exact wanted_of hg hd ht
 unfold gEff at h
 split at h
 ·rename_i t
  cases h;exact bit t hv
 ·rename_i g t
  cases h;cases g with
  | true=>exact bit t hv
  | false=>exact unwanted_undef hg hd hv
 ·rename_i g t
  cases h;cases g with
  | true=>exact bit t hv
  | false=>exact unwanted_undef hg hd hv
 ·cases h
theorem opAt_ok(G:E.Good γ0 w0)(hx:(opAt E N (fun j=>(ops[j]?).bind (·.dst)) o s k).wp E.base Q)(R:Rel E γ0 γ N w0 s a w)
  (cont:∀ γ s' a' w',Rel E γ0 γ N w0 s' a' w'->(k s').wp E.base Q->wpList E.P ops X rest a' w'):wpList E.P ops X (o::rest) a w:=by
 obtain⟨gd,hg⟩:∃ gd,o.guard=gd:=⟨_,rfl⟩
 obtain⟨dst,hd⟩:∃ d,o.dst=d:=⟨_,rfl⟩
 unfold opAt at hx;rw[hg,hd]at hx
 split at hx
 ·exact opGo_ok G hx R (by unfold Region.wanted;rw[hg]) cont
 ·rename_i j b
  have skip:∀ {d:Nat},o.dst=some d->Region.wanted o (yielded ops a.tmps)=false->(k (s.put d none)).wp E.base Q->wpList E.P ops X (o::rest) a w:=fun hd hw h =>
   wpList_skip hw (by rw[hd];exact cont _ _ _ _ R.forget h)
  split at hx
  ·rename_i d t hk
   split at hx
   ·obtain⟨e,he,hl⟩:=Option.bind_eq_some_iff.1 hk
    have hv:=(R.k _ _ hl).1
    split at hx
    ·rename_i htb
     subst htb;exact opGo_ok G hx R (wanted_of hg he hv) cont
    ·rename_i htb
     exact skip hd (unwanted_of hg he hv (by cases t <;> cases b <;> first | rfl | exact absurd rfl htb)) hx
   ·cases hx
  ·rename_i d gx _ hk
   split at hx
   ·rename_i hdN
    obtain⟨e',he,hl⟩:=Option.bind_eq_some_iff.1 hk;have hv:=(R.k _ _ hl).1
    split at hx
    ·rename_i e hge
     have hw:=wanted_eff hg he hv hge
     split at hx
     ·rename_i r p hr
      split at hx
      ·rename_i hlt
       obtain⟨hp,hk⟩:=needs_wp hx;have hp1:e=true->All p:=underG_ok fun q hq=>hp q (List.mem_append_left _ hq);have hp2:All (condG e (look s.S) (tmpsOf o)):=fun q hq=>hp q (List.mem_append_right _ hq);cases e with
       | true =>
        have hk':Holds γ s.n (lkG (look s.S) (tmpsOf o)) a:=fun u y hy=>by
         obtain⟨z,h1,h2,h3,h4⟩:=lkG_ok (γ:=γ) (n:=s.n) hy hp2 rfl;have:=R.k u z h1;exact⟨this.1.trans h4,h2 this.2.1,h3 this.2.2⟩
        have hok:=valS_okay G R.base (fun u y hy=>(hk' u y hy).2) (fun r hr=>⟨(R.m r hr).1,(R.m r hr).2.1⟩) hr (hp1 rfl);refine(valS_ok G R hk' hr (hp1 rfl) hw fun w' hb=>?_).2;have h:=(R.put (x:=.gd true r) hdN (fun _=>hok) hlt).below hb;rw[hd];exact cont _ _ _ _ h hk
       | false =>
        exact wpList_skip hw (by rw[hd];exact cont _ _ _ _ (R.forgetTo hdN rfl hlt) hk)
      ·cases hx
     ·cases e with
      | true=>exact opGo_ok G (hx.1 rfl) R hw cont
      | false=>exact skip hd hw (hx.2 rfl)
    ·cases hx
   ·cases hx
  ·cases hx
theorem seqX_ok(G:E.Good γ0 w0):∀ {l:List Oper} {s:St} {a:Act} {w:World} {γ:Pl} {k:St->Tr},(seqX E N (fun j=>(ops[j]?).bind (·.dst)) l s k).wp E.base Q->Rel E γ0 γ N w0 s a w ->
  (∀ γ s' a' w',Rel E γ0 γ N w0 s' a' w'->(k s').wp E.base Q->X .normal a' w')->wpList E.P ops X l a w
 | [],_,_,_,_,_,hx,R,cont=>wpList_nil (cont _ _ _ _ R hx)
 | _::_,_,_,_,_,_,hx,R,cont=>opAt_ok G hx R fun _ _ _ _ R' hk=>seqX_ok G hk R' cont
end
end Go.Proofs.YthnckclbeecnmaaGreat.Sy
namespace Go.Proofs.YthnckclbeecnmaaGreat.Sy
open Go.RowKit
structure Ef where
 d:Option (Nat × Option SV)
 R:Rows
 st:Option (Nat × SV)
def SV.ids:SV->List Nat
 | .p g _ _ _=>[g]
 | .s g _ _ _=>[g]
 | .ap h t=>h.ids++t.ids
 | .tu x y=>x.ids++y.ids
 | .gd _ x=>x.ids
 | .fn _ _ x=>x.ids
 | _=>[]
def forceN{α:Type}(m:Nat)(k:Nat->α):α:=match m with
 | 0=>k 0
 | n+1=>k (n+1)
def lookN:List (Nat × Nat)->Nat->Nat
 | [],_=>0
 | p::l,t=>if p.1=t then p.2 else lookN l t
def maskOf(acc:List (Nat × Nat)):List Edge->Nat
 | []=>0
 | e::es=>if Region.binds .any e=true then ((1 <<< e.on) ||| lookN acc e.on) ||| maskOf acc es else maskOf acc es
def masksA:List Oper->Nat->List (Nat × Nat)->List (Nat × Nat)
 | [],_,acc=>acc
 | o::l,i,acc=>masksA l (i+1) ((i,maskOf acc o.after.toList)::acc)
def masksK{α:Type}:List Oper->Nat->List (Nat × Nat)->(List (Nat × Nat)->α)->α
 | [],_,acc,k=>k acc
 | o::l,i,acc,k=>forceN (maskOf acc o.after.toList) fun m=>masksK l (i+1) ((i,m)::acc) k
def curD(D:Nat->Bool)(g:Nat):Nat->List Ef->SV->SV
 | _,[],c=>c
 | i,e::l,c=>curD D g (i+1) l (match e.st with
  | some q=>if q.1=g/\D i=true then q.2 else c
  | none=>c)
def madeD(D:Nat->Bool):Nat->List Ef->Rows
 | _,[]=>[]
 | i,e::l=>(if D i=true then e.R else [])++madeD D (i+1) l
def rowsD(D:Nat->Bool)(es:List Ef)(M:Rows):Rows:=(madeD D 0 es++M).map fun r=>(r.1,curD D r.1 0 es r.2.1,r.2.2)
def stableB(m g:Nat):Nat->List Ef->Bool
 | _,[]=>true
 | i,e::l=>(match e.st with
  | some q=>q.1 != g||m.testBit i
  | none=>true)&&stableB m g (i+1) l
def readsM:Op->Bool
 | .load _ _=>true
 | .store _ _ _=>true
 | .call _=>true
 | _=>false
def keepR(lk:Nat->Option SV):Op->Nat->Bool
 | .load _ x,g=>match opnd lk x with
  | some (.p h _ _ _)=>h == g
  | _=>true
 | .store _ x _,g=>match opnd lk x with
  | some (.p h _ _ _)=>h == g
  | _=>true
 | _,_=>true
def seenM(m:Nat)(o:Oper)(lk:Nat->Option SV)(es:List Ef)(M:Rows):Rows:=if readsM o.op=true then (rowsD (fun i=>m.testBit i) es M).filter fun r=>stableB m r.1 0 es&&keepR lk o.op r.1 else []
def dstIx:List Oper->Nat->Option Nat
 | [],_=>none
 | o::l,t=>if o.dst=some t then some 0 else (dstIx l t).map (·+1)
def lkW(l:List Oper)(m:Nat)(es:List Ef)(S:List (Nat × Option SV))(t:Nat):Option SV:=match dstIx l t with
 | none=>look S t
 | some j=>if m.testBit j=true then (es[j]?).bind fun e=>e.d.bind (·.2)else none
def mkEf(E:Env)(N nx d:Nat)(lk:Nat->Option SV)(M:Rows)(op:Op):Option (Ef × List Ob):=match E.mkr nx M lk op with
 | some (r,p,R)=>if d<N then some (⟨some (d,some r),R,none⟩,p)else none
 | none=>none
def effGo(E:Env)(N nx:Nat)(lk:Nat->Option SV)(M:Rows)(o:Oper):Option (Ef × List Ob) :=
 match o.op,o.dst with
 | .store T x y,none=>match opnd lk x,opnd lk y,tyIn T E.tys with
  | some (.p g off _ z),some v,some ty=>if z=0/\v.plain=true/\v.size=ty.sz then match rowIn g M with
   | some r=>(SV.put v off r.1).map fun c=>(⟨none,[],some (g,c)⟩,[])
   | none=>none
   else none
  | _,_,_=>none
 | .alloc T,some d=>match tyIn T E.tys with
  | some ty=>if d<N then some (⟨some (d,some (.p nx 0 0 0)),[(nx,ty.zero,T)],none⟩,[])else none
  | none=>none
 | .box T x,some d=>match opnd lk x with
  | some v=>if d<N/\v.plain=true then some (⟨some (d,some (.p nx 0 0 0)),[(nx,v,T)],none⟩,[])else none
  | none=>none
 | .buildSlice T n parts,some d=>match bsIn T n E.bss,partsOf lk parts.toList with
  | some b,some l=>if d<N/\l.all (fun x=>decide (x.1<n)&&(x.2.one||x.2.many))=true then match fillS ((List.range n).map fun i=>(i*b.sz,b.sz)) b.zs l with
   | some r=>some (⟨some (d,some (.s nx 0 n n)),[(nx,r,b.e)],none⟩,[])
   | none=>none
   else none
  | _,_=>none
 | .call c,some d=>match c.callee with
  | .value _=>match callX lk c with
   | some (f,l)=>match E.ctr f nx M l with
    | some (r,p,R)=>if d<N then some (⟨some (d,some r),R,none⟩,p)else none
    | none=>none
   | none=>none
  | _=>match opVal E lk M (.call c)with
   | some (r,p)=>if d<N then some (⟨some (d,some r),[],none⟩,p)else none
   | none=>mkEf E N nx d lk M (.call c)
 | op,some d=>match opVal E lk M op with
  | some (r,p)=>if d<N then some (⟨some (d,some r),[],none⟩,p)else none
  | none=>mkEf E N nx d lk M op
 | _,_=>none
def effAt(E:Env)(N nx:Nat)(gs:Option SV)(lk:Nat->Option SV)(M:Rows)(o:Oper):Option (Ef × List Ob):=match o.guard with
 | none=>effGo E N nx lk M o
 | some (_,b)=>match gs with
  | some (.v (.bool t))=>if t=b then effGo E N nx lk M o else match o.dst with
   | some d=>if d<N then some (⟨some (d,none),[],none⟩,[])else none
   | none=>some (⟨none,[],none⟩,[])
  | some gx=>match gEff b gx,effGo E N nx (lkG lk (tmpsOf o)) M o with
   | some e,some (⟨some (d,some x),[],none⟩,p)=>if x.lt (nx+8)=true then some (⟨some (d,some (.gd e x)),[],none⟩,underG e p++condG e lk (tmpsOf o))else none
   | _,_=>none
  | none=>none
def gsl(l:List Oper)(lk:Nat->Option SV)(o:Oper):Option SV:=o.guard.bind fun q=>((l[q.1]?).bind (·.dst)).bind lk
def idOk(n0 k m g:Nat):Bool:=decide (g<n0)||(decide ((g - n0) / 8=k)||m.testBit ((g - n0) / 8))
def usedBy(l:List Oper)(ms:List (Nat × Nat))(es:List Ef)(S:List (Nat × Option SV))(M:Rows)(g i:Nat):Bool:=match l[i]? with
 | some o=>(seenM (lookN ms i) o (lkW l (lookN ms i) (es.take i) S) (es.take i) M).any fun r=>r.1 == g
 | none=>false
def okEf(n0:Nat)(l:List Oper)(ms:List (Nat × Nat))(es:List Ef)(S:List (Nat × Option SV))(M:Rows)(k:Nat)(e:Ef):Bool :=
 ((match e.d with
  | some (_,some x)=>x.ids.all (idOk n0 k (lookN ms k))
  | _=>true)&&e.R.all fun r=>r.2.1.ids.all (idOk n0 k (lookN ms k)))&&(decide (e.R.length<=8)&&match e.st with
  | some (g,c)=>c.ids.all (idOk n0 k (lookN ms k))&&(List.range k).all fun i=>!usedBy l ms es S M g i||(lookN ms k).testBit i
  | none=>true)
def passX(E:Env)(N:Nat)(l:List Oper)(ms:List (Nat × Nat))(s:St):List Oper->List Ef->List Ob->Option (List Ef × List Ob)
 | [],es,ps=>some (es,ps)
 | o::r,es,ps=>match effAt E N (s.n+8*es.length) (gsl l (lkW l (lookN ms es.length) es s.S) o) (lkW l (lookN ms es.length) es s.S) (seenM (lookN ms es.length) o (lkW l (lookN ms es.length) es s.S) es s.M) o with
  | some (e,p)=>if okEf s.n l ms es s.S s.M es.length e=true then passX E N l ms s r (es++[e]) (ps++p)else none
  | none=>none
def slotsE:List Ef->List (Nat × Option SV)
 | []=>[]
 | e::l=>match e.d with
  | some p=>p::slotsE l
  | none=>slotsE l
def afterD(es:List Ef)(s:St):St:=⟨slotsE es++s.S,rowsD (fun _=>true) es s.M,s.n+8*es.length⟩
def nodupB:List Nat->Bool
 | []=>true
 | x::l=>!l.contains x&&nodupB l
def drawX(E:Env)(N:Nat)(l:List Oper)(s:St)(k:St->Tr):Tr:=masksK l 0 [] fun ms=>match passX E N l ms s l [] []with
 | some (es,ps)=>if distinctB l=true/\rankB l.toArray (fun i=>i)=true/\nodupB ((rowsD (fun _=>true) es s.M).map (·.1))=true then needs ps (k (afterD es s))else .bad
 | none=>.bad
/-! The tables. -/
section
variable {E:Env} {γ0 γ γs δ:Pl} {N nx:Nat} {w0 ws w w' wx:World} {s:St} {a a0:Act} {o:Oper} {l:List Oper} {es:List Ef} {D D':Nat->Bool}
theorem forceN_eq{α:Type}(m:Nat)(k:Nat->α):forceN m k=k m:=by cases m <;> rfl
theorem masksK_eq{α:Type}:∀(l:List Oper) (i:Nat) (acc:List (Nat × Nat)) (k:List (Nat × Nat)->α),masksK l i acc k=k (masksA l i acc)
 | [],_,_,_=>rfl
 | o::l,i,acc,k=>by
  unfold masksK masksA;rw[forceN_eq];exact masksK_eq l (i+1) _ k
theorem mask_spec{acc:List (Nat × Nat)}{j:Nat}:∀ {es:List Edge},(maskOf acc es).testBit j=true->∃ e∈es,Region.binds .any e=true/\(j=e.on\/(lookN acc e.on).testBit j=true)
 | [],h=>by simp[maskOf]at h
 | e::es,h=>by
  unfold maskOf at h
  split at h
  ·rename_i hb
   rw[Nat.testBit_or,Nat.testBit_or,Bool.or_eq_true,Bool.or_eq_true]at h;rcases h with(h | h) | h
   ·refine⟨e,.head _,hb,.inl ?_⟩
    rw[Nat.shiftLeft_eq,Nat.one_mul,Nat.testBit_two_pow]at h;exact(of_decide_eq_true h).symm
   ·exact⟨e,.head _,hb,.inr h⟩
   ·obtain⟨e',h1,h2⟩:=mask_spec h
    exact⟨e',.tail _ h1,h2⟩
  ·obtain⟨e',h1,h2⟩:=mask_spec h
   exact⟨e',.tail _ h1,h2⟩
theorem masks_keep:∀ {l:List Oper} {i:Nat} {acc:List (Nat × Nat)} {t:Nat},t<i->lookN (masksA l i acc) t=lookN acc t
 | [],_,_,_,_=>rfl
 | o::l,i,acc,t,h=>by
  unfold masksA;rw[masks_keep (Nat.lt_succ_of_lt h)];show(if i=t then _ else _)=_;rw[if_neg (Nat.ne_of_gt h)]
theorem masks_spec:∀ {l:List Oper} {i:Nat} {acc:List (Nat × Nat)},(∀ t,i<=t->lookN acc t=0)->∀(k:Nat) o,l[k]?=some o->∀ j,(lookN (masksA l i acc) (i+k)).testBit j=true->∃ e∈o.after,Region.binds .any e=true/\(j=e.on\/(lookN (masksA l i acc) e.on).testBit j=true)
 | [],_,_,_,k,o,h,_,_=>by cases h
 | o::l,i,acc,h0,0,o',h,j,hj=>by
  cases h;unfold masksA at hj |-
  have hj:(lookN (masksA l (i+1) ((i,maskOf acc o.after.toList)::acc)) i).testBit j=true:=hj;rw[masks_keep (show i<i+1 by omega)]at hj;have hj':(maskOf acc o.after.toList).testBit j=true:=by
   have e:lookN ((i,maskOf acc o.after.toList)::acc) i=maskOf acc o.after.toList:=by
    show(if i=i then _ else _)=_;rw[if_pos rfl]
   rwa [e]at hj
  obtain⟨e,h1,h2,h3⟩:=mask_spec hj';refine⟨e,by simpa using h1,h2,h3.imp id fun h4=>?_⟩;rcases Nat.lt_or_ge e.on i with hlt | hge
  ·rw[masks_keep (Nat.lt_succ_of_lt hlt)]
   show(if i=e.on then _ else lookN acc e.on).testBit j=true;rw[if_neg (Nat.ne_of_gt hlt)];exact h4
  ·rw[h0 _ hge]at h4
   simp at h4
 | o::l,i,acc,h0,k+1,o',h,j,hj=>by
  unfold masksA at hj |-
  rw[show i+(k+1)=i+1+k by omega]at hj;exact masks_spec (i:=i+1) (fun t ht=>by
   show(if i=t then _ else lookN acc t)=0;rw[if_neg (by omega),h0 t (by omega)]) k o' (by simpa using h) j hj
theorem SV.ids_same{γ δ:Pl}:∀ {x:SV},(∀ g∈x.ids,γ g=δ g)->x.sc γ=x.sc δ/\x.cells γ=x.cells δ/\x.val γ=x.val δ
 | .w _,_ | .e,_ | .b _,_ | .i _ _,_ | .na _,_ | .v _,_=>⟨rfl,rfl,rfl⟩
 | .p g _ _ _,h=>by
  have hg:=h g (.head _);refine⟨?_,?_,?_⟩ <;> simp only[SV.sc,SV.cells,SV.val,hg]
 | .s g _ _ _,h=>by
  have hg:=h g (.head _);refine⟨?_,?_,?_⟩ <;> simp only[SV.sc,SV.cells,SV.val,hg]
 | .ap a t,h=>by
  obtain⟨_,h1,_⟩:=ids_same (x:=a) fun g hg=>h g (List.mem_append_left _ hg);obtain⟨_,h2,_⟩:=ids_same (x:=t) fun g hg=>h g (List.mem_append_right _ hg);refine⟨rfl,?_,?_⟩
  ·simp only[SV.cells,h1,h2]
  ·simp only[SV.val,h1,h2]
 | .tu a t,h=>by
  obtain⟨_,_,h1⟩:=ids_same (x:=a) fun g hg=>h g (List.mem_append_left _ hg);obtain⟨_,_,h2⟩:=ids_same (x:=t) fun g hg=>h g (List.mem_append_right _ hg);exact⟨rfl,rfl,by simp only[SV.val,h1,h2]⟩
 | .gd t x,h=>by
  obtain⟨_,_,h1⟩:=ids_same (x:=x) h;exact⟨rfl,rfl,by simp only[SV.val,h1]⟩
 | .fn _ _ x,h=>by
  obtain⟨_,_,h1⟩:=ids_same (x:=x) h;exact⟨rfl,rfl,by simp only[SV.val,h1]⟩
theorem SV.lt_ids{n:Nat}:∀ {x:SV},x.lt n=true->∀ g∈x.ids,g<n
 | .w _,_,g,h | .e,_,g,h | .b _,_,g,h | .i _ _,_,g,h | .na _,_,g,h | .v _,_,g,h=>by cases h
 | .p _ _ _ _,hl,g,h=>by
  cases h with
  | head=>exact of_decide_eq_true hl
  | tail _ h=>cases h
 | .s _ _ _ _,hl,g,h=>by
  cases h with
  | head=>exact of_decide_eq_true hl
  | tail _ h=>cases h
 | .ap a t,hl,g,h=>by
  simp only[SV.lt,Bool.and_eq_true]at hl;rcases List.mem_append.1 h with h | h
  ·exact lt_ids hl.1 g h
  ·exact lt_ids hl.2 g h
 | .tu a t,hl,g,h=>by
  simp only[SV.lt,Bool.and_eq_true]at hl;rcases List.mem_append.1 h with h | h
  ·exact lt_ids hl.1 g h
  ·exact lt_ids hl.2 g h
 | .gd t x,hl,g,h=>lt_ids (x:=x) hl g h
 | .fn _ _ x,hl,g,h=>lt_ids (x:=x) hl g h
theorem made_mem{r:Nat × SV × TypeId}:∀ {es:List Ef} {i:Nat},r∈madeD D i es↔∃(j:Nat) (e:Ef),es[j]?=some e/\D (i+j)=true/\r∈e.R
 | [],i=>⟨fun h=>(by cases h),fun⟨j,e,h,_⟩=>(by cases h)⟩
 | e::es,i=>by
  unfold madeD;rw[List.mem_append];refine⟨fun h=>?_,fun⟨j,e',h1,h2,h3⟩=>?_⟩
  ·rcases h with h | h
   ·split at h
    ·rename_i hd
     exact⟨0,e,rfl,hd,h⟩
    ·cases h
   ·obtain⟨j,e',h1,h2,h3⟩:=made_mem.1 h
    exact⟨j+1,e',by simpa using h1,by rw[show i+(j+1)=i+1+j by omega];exact h2,h3⟩
  ·cases j with
   | zero =>
    cases h1;rw[Nat.add_zero]at h2;exact .inl (by rw[if_pos h2];exact h3)
   | succ j=>exact .inr (made_mem.2 ⟨j,e',by simpa using h1,by rw[show i+1+j=i+(j+1) by omega];exact h2,h3⟩)
theorem cur_ext{g:Nat}:∀ {es:List Ef} {i:Nat} {c:SV},(∀(j:Nat) (e:Ef) q,es[j]?=some e->e.st=some q->q.1=g->D (i+j)=D' (i+j))->curD D g i es c=curD D' g i es c
 | [],_,_,_=>rfl
 | e::es,i,c,h=>by
  unfold curD;have hx:(match e.st with
    | some q=>if q.1=g/\D i=true then q.2 else c
    | none=>c)=(match e.st with
    | some q=>if q.1=g/\D' i=true then q.2 else c
    | none=>c):=by
   cases hs:e.st with
   | none=>rfl
   | some q =>
    dsimp only;by_cases hq:q.1=g
    ·have:=h 0 e q rfl hs hq
     rw[Nat.add_zero]at this;rw[this]
    ·rw[if_neg (fun c=>hq c.1),if_neg (fun c=>hq c.1)]
  rw[hx];exact cur_ext fun j e' q h1 h2 h3=>by
   have:=h (j+1) e' q (by simpa using h1) h2 h3;rwa [show i+(j+1)=i+1+j by omega]at this
theorem cur_take{g:Nat}:∀ {es:List Ef} {i k:Nat} {c:SV},curD D g i (es.take k) c=curD (fun j=>D j&&decide (j<i+k)) g i es c
 | [],_,_,_=>by rw[List.take_nil];rfl
 | e::es,i,0,c=>by
  rw[List.take_zero];have:∀(es:List Ef) (m:Nat) (c:SV),i<=m->curD (fun j=>D j&&decide (j<i+0)) g m es c=c:=by
   intro es
   induction es with
   | nil=>intro m c _;rfl
   | cons e es ih =>
    intro m c hm;unfold curD;rw[ih _ _ (Nat.le_succ_of_le hm)];cases hs:e.st with
    | none=>rfl
    | some q =>
     dsimp only;rw[if_neg];intro h;have h2:=h.2;rw[Bool.and_eq_true]at h2;have:=of_decide_eq_true h2.2;omega
  exact(this _ _ _ (Nat.le_refl _)).symm
 | e::es,i,k+1,c=>by
  rw[List.take_succ_cons];unfold curD;rw[cur_take (es:=es)];have e1:(fun j=>D j&&decide (j<i+1+k))=fun j=>D j&&decide (j<i+(k+1)):=by
   funext j
   rw[show i+1+k=i+(k+1) by omega]
  rw[e1];congr 1;cases hs:e.st with
  | none=>rfl
  | some q =>
   dsimp only;have:(D i&&decide (i<i+(k+1)))=D i:=by rw[decide_eq_true (by omega),Bool.and_true]
   rw[this]
theorem cur_mem{g:Nat}:∀ {es:List Ef} {i:Nat} {c:SV},curD D g i es c=c\/∃(j:Nat) (e:Ef),es[j]?=some e/\D (i+j)=true/\e.st=some (g,curD D g i es c)
 | [],_,_=>.inl rfl
 | e::es,i,c=>by
  unfold curD;rcases cur_mem (es:=es) (i:=i+1) (c:=match e.st with
    | some q=>if q.1=g/\D i=true then q.2 else c
    | none=>c)with h | ⟨j,e',h1,h2,h3⟩
  ·rw[h]
   cases hs:e.st with
   | none=>exact .inl rfl
   | some q =>
    dsimp only;by_cases hq:q.1=g/\D i=true
    ·rw[if_pos hq]
     exact .inr ⟨0,e,rfl,hq.2,by rw[hs,<- hq.1]⟩
    ·rw[if_neg hq]
     exact .inl rfl
  ·exact .inr ⟨j+1,e',by simpa using h1,by rw[show i+(j+1)=i+1+j by omega];exact h2,h3⟩
theorem cur_last{g:Nat}{c':SV}:∀ {es:List Ef} {i k:Nat} {c:SV} {e:Ef},es[k]?=some e->e.st=some (g,c')->D (i+k)=true->(∀(j:Nat) (f:Ef) q,k<j->es[j]?=some f->f.st=some q->q.1=g->D (i+j)=false)->curD D g i es c=c'
 | [],_,_,_,_,h,_,_,_=>by cases h
 | f::es,i,0,c,e,h,hs,hd,hn=>by
  cases h;unfold curD;rw[hs];dsimp only;rw[if_pos ⟨rfl,hd⟩];have:curD D g (i+1) es c'=curD (fun _=>false) g (i+1) es c':=cur_ext fun j f q h1 h2 h3=>by
   have:=hn (j+1) f q (Nat.succ_pos _) (by simpa using h1) h2 h3;rwa [show i+(j+1)=i+1+j by omega]at this
  rw[this];rcases cur_mem (D:=fun _=>false) (g:=g) (es:=es) (i:=i+1) (c:=c')with h | ⟨_,_,_,h,_⟩
  ·exact h
  ·cases h
 | f::es,i,k+1,c,e,h,hs,hd,hn=>by
  unfold curD;refine cur_last (k:=k) (by simpa using h) hs (by rw[show i+1+k=i+(k+1) by omega];exact hd) fun j f' q hj h1 h2 h3=>?_;have:=hn (j+1) f' q (Nat.succ_lt_succ hj) (by simpa using h1) h2 h3;rwa [show i+(j+1)=i+1+j by omega]at this
theorem stable_spec{m g:Nat}:∀ {es:List Ef} {i:Nat},stableB m g i es=true->∀(j:Nat) (e:Ef) q,es[j]?=some e->e.st=some q->q.1=g->m.testBit (i+j)=true
 | [],_,_,_,_,_,h,_,_=>by cases h
 | f::es,i,hB,0,e,q,h,hs,hq=>by
  cases h;unfold stableB at hB;rw[Bool.and_eq_true,hs]at hB;have:=hB.1;dsimp only at this;rw[Bool.or_eq_true]at this;rcases this with h | h
  ·rw[hq]at h;simp at h
  ·exact h
 | f::es,i,hB,j+1,e,q,h,hs,hq=>by
  unfold stableB at hB;rw[Bool.and_eq_true]at hB;have:=stable_spec hB.2 j e q (by simpa using h) hs hq;rwa [show i+(j+1)=i+1+j by omega]
theorem dstIx_none:∀ {l:List Oper} {t:Nat},dstIx l t=none->∀(i:Nat) o,l[i]?=some o->o.dst≠some t
 | [],_,_,_,_,h=>by cases h
 | o::l,t,h,i,o',hi=>by
  unfold dstIx at h
  split at h
  ·cases h
  ·rename_i e
   cases i with
   | zero=>cases hi;exact e
   | succ i=>exact dstIx_none (l:=l) (by cases hq:dstIx l t with
    | none=>rfl
    | some j=>rw[hq]at h;cases h) i o' (by simpa using hi)
theorem dstIx_some:∀ {l:List Oper} {t j:Nat},dstIx l t=some j->∃ o,l[j]?=some o/\o.dst=some t
 | [],_,_,h=>by cases h
 | o::l,t,j,h=>by
  unfold dstIx at h
  split at h
  ·rename_i e
   cases h;exact⟨o,rfl,e⟩
  ·cases hq:dstIx l t with
   | none=>rw[hq]at h;cases h
   | some i =>
    rw[hq]at h;cases h;obtain⟨q,h1,h2⟩:=dstIx_some hq;exact⟨q,by simpa using h1,h2⟩
end
end Go.Proofs.YthnckclbeecnmaaGreat.Sy
