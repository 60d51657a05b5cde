/- Code walked over values told by letters: operations in the text's order, the control, a function's answer. No program is named here. (Cut to what is reached, written closely: SyO · SyC.) -/
import Derived.Test.YthnckclbeecnmaaGreatP17
set_option linter.all false
set_option maxRecDepth 100000
set_option maxHeartbeats 8000000
namespace Go.Proofs.YthnckclbeecnmaaGreat.Sy
open Go.RowKit
section
variable {E:Env} {γ0 γ:Pl} {w0 wx:World} {lk:Nat->Option SV} {M:Rows} {n:Nat} {a:Act} {o:Oper} {x y:Operand} {u v r:SV}
theorem map_nil{x:Option SV}{r:SV}{p:List Ob}(h:x.map (·,([]:List Ob))=some (r,p)):x=some r:=by
 cases x with
 | none=>cases h
 | some q=>cases h;rfl
theorem fld_ok{P:Program}{w:World}{T:TypeId}{fs:List (Nat × Nat)}{i g o off sz:Nat}(hf:fieldsOf P T=some fs)(hi:fs[i]?=some (off,sz))(hz:sz≠0) :
  (Instr.fieldAt T (.pointer (some ⟨g,o,none⟩)) i).run P w=.ok (.pointer (some ⟨g,o+off,none⟩)) w:=by
 unfold fieldsOf at hf
 split at hf
 ·rename_i fields hu
  have hm:∀(l:List Field) (r:List (Nat × Nat)),l.mapM (fun(f:Field)=>(P.info? f.type).map fun i=>(f.offset,i.size))=some r->∀(i:Nat) (q:Nat × Nat),r[i]?=some q->∃(f:Field) (t:TypeInfo),l[i]?=some f/\P.info? f.type=some t/\q=(f.offset,t.size):=by
   intro l
   induction l with
   | nil=>intro r h i q hq;simp at h;subst h;simp at hq
   | cons f l ih =>
    intro r h i q hq;simp only[List.mapM_cons,Option.bind_eq_bind,Option.pure_def]at h;cases ht:P.info? f.type with
    | none=>simp[ht]at h
    | some t =>
     cases hr:l.mapM (fun(f:Field)=>(P.info? f.type).map fun i=>(f.offset,i.size))with
     | none=>simp[ht,hr]at h
     | some rest =>
      simp[ht,hr]at h;subst h;cases i with
      | zero=>simp at hq;exact⟨f,t,rfl,ht,hq.symm⟩
      | succ i=>exact ih rest hr i q (by simpa using hq)
  obtain⟨f,t,h1,h2,h3⟩:=hm _ _ hf i _ hi;cases h3;have h1':fields[i]?=some f:=by simpa using h1
  have hadd:∀ j,(⟨g,o,none⟩:Addr).add j=⟨g,o+j,none⟩:=fun j=>by unfold Addr.add;split <;> simp_all
  simp[Instr.fieldAt,run_underlying hu,h1',Instr.sureAddr,fieldPlace,sizeOf,typeInfo,h2,hz,hadd]
 ·cases hf
theorem len_any{P:Program}{T e ty:TypeId}{b:Option Addr}{n c:Nat}(hu:P.underlying T=some (.slice e))(w:World):(Builtin.len_ #[T] ty #[.slice b n c]).run P w=.ok (.int .i64 (n:Nat)) w:=by
 simp[Builtin.len_,run_underlying hu];rfl
theorem gr_sl{P:Program}{w:World}{T:TypeId}{x:Operand}{lo hi:Option Operand}{p v:Value}{l h:Option Value}(ho:o.op=.slice T x lo hi none)(hx:a.eval x=p)(hl:lo.map a.eval=l)(hh:hi.map a.eval=h)(hr:(Instr.sliceAt T p l h none).run P w=.ok v w):(execOp a.eval o).run P w=.ok (.value v) w:=by
 unfold execOp;rw[ho];simp only[hx,hl,hh,Option.map_none,Sem.run_bind,hr,Result.andThen_ok,Sem.run_pure]
theorem gr_ix{P:Program}{w:World}{T:TypeId}{x y:Operand}{p i v:Value}(ho:o.op=.index T x y)(hx:a.eval x=p)(hy:a.eval y=i)(hr:(Instr.index T p i).run P w=.ok v w):(execOp a.eval o).run P w=.ok (.value v) w:=by
 unfold execOp;rw[ho];simp only[hx,hy,Sem.run_bind,hr,Result.andThen_ok,Sem.run_pure]
theorem gr_cv{P:Program}{w:World}{F T:TypeId}{x:Operand}{p v:Value}(ho:o.op=.convert F T x)(hx:a.eval x=p)(hr:(convert F T p).run P w=.ok v w):(execOp a.eval o).run P w=.ok (.value v) w:=by
 unfold execOp;rw[ho];simp only[hx,Sem.run_bind,hr,Result.andThen_ok,Sem.run_pure]
theorem opVal_ok(G:E.Good γ0 w0)(hA:Agree E γ0 γ)(hb:E.base<=n)(hk:Holds γ n lk a)(hM:Lies γ n M wx)(hB:Below w0.heap.size w0 wx){p:List Ob}(h:opVal E lk M o.op=some (r,p))(hp:All p) :
  (execOp a.eval o).run E.P wx=.ok (.value (r.val γ)) wx/\r.ok/\r.lt n=true:=by
 obtain⟨op,ho⟩:∃ op,o.op=op:=⟨_,rfl⟩
 rw[ho]at h;cases op with
 | move x =>
  have q:=opnd_ok hk (map_nil h);exact⟨run_assign (.inr ho) q.1,q.2⟩
 | assign x =>
  have q:=opnd_ok hk (map_nil h);exact⟨run_assign (.inl ho) q.1,q.2⟩
 | pick c x y =>
  dsimp only[opVal]at h
  split at h
  ·rename_i hc
   have q:=opnd_ok hk (map_nil h);exact⟨run_pick2 c x y true _ ho (opnd_ok hk hc).1 (by rw[if_pos rfl];exact q.1),q.2⟩
  ·rename_i hc
   have q:=opnd_ok hk (map_nil h);exact⟨run_pick2 c x y false _ ho (opnd_ok hk hc).1 (by rw[if_neg (by simp)];exact q.1),q.2⟩
  ·rename_i t hc
   split at h
   ·rename_i u p1 v p2 h1 h2
    cases h;refine⟨run_pick2 c x y t _ ho (opnd_ok hk hc).1 ?_,trivial,rfl⟩;cases t with
    | true =>
     rw[if_pos rfl];cases hx:opnd lk x with
     | none=>rw[hx]at h1;cases h1
     | some sx =>
      rw[hx]at h1;rw[(opnd_ok hk hx).1];exact bitOf_ok (γ:=γ) h1 rfl fun q hq=>hp q (List.mem_append_left _ hq)
    | false =>
     rw[if_neg (by simp)];cases hx:opnd lk y with
     | none=>rw[hx]at h2;cases h2
     | some sx =>
      rw[hx]at h2;rw[(opnd_ok hk hx).1];exact bitOf_ok (γ:=γ) h2 rfl fun q hq=>hp q (List.mem_append_right _ hq)
   ·cases h
  ·cases h
 | load T x =>
  dsimp only[opVal]at h
  split at h
  ·rename_i g o' j z y hx hy
   have q:=opnd_ok hk hx;have ty:=G.tys _ (tyIn_ok hy).1
   split at h
   ·rename_i rw_ hr
    split at h
    ·rename_i hz
     subst hz;have hs:=map_nil h;have hm:=hM _ (rowIn_ok hr);have hd:=ty.d;have hsz:=ty.sz;rw[(tyIn_ok hy).2]at hd hsz;have pt:=SV.sub_ok γ hs;refine⟨gr_load ho q.1 ?_,pt.ok hm.2.1,pt.lt _ hm.2.2⟩;show(Instr.loadAt T (.pointer (some ⟨γ g,o'+j*0,none⟩))).run E.P wx=_;rw[Nat.mul_zero,Nat.add_zero];exact load_ok hm.1 hd hsz hs
    ·have hm:=hM _ (rowIn_ok hr)
     have hg:=G.rld _ _ _ _ _ _ _ n h hp hm.2.2 hm.2.1;exact⟨gr_load ho q.1 (hg.2.2 γ _ _ wx hm.1),hg.1,hg.2.1⟩
   ·have hx':=G.xld _ _ _ _ _ _ _ h hp
    exact⟨gr_load ho q.1 (hx'.2.2.2 γ hA wx hB),hx'.1,SV.lt_mono hb hx'.2.1⟩
  ·cases h
 | build T parts =>
  dsimp only[opVal]at h
  split at h
  ·rename_i l hl
   have q:=partsOf_ok hk hl;have hrun:∀ cs,E.P.built T (l.map fun x=>(x.1,x.2.val γ))=some cs->(execOp a.eval o).run E.P wx=.ok (.value (.agg cs)) wx:=by
    intro cs hcs;have e:(parts.map fun(x:Nat × Operand)=>(x.1,a.eval x.2)).toList=l.map fun x=>(x.1,x.2.val γ):=by
     rw[Array.toList_map];exact q.1
    have hr:=run_build (P:=E.P) wx T (parts.map fun(x:Nat × Operand)=>(x.1,a.eval x.2)) cs (by rw[e];exact hcs);unfold execOp;rw[ho];simp only[Sem.run_bind,hr,Result.andThen_ok,Sem.run_pure]
   split at h
   ·rename_i y hy
    split at h
    ·have hb':=G.bld _ _ _ (map_nil h) (fun x hx=>(q.2 x hx).1)
     refine⟨?_,hb'.1,SV.lt_mono (Nat.zero_le _) hb'.2.1⟩;rw[SV.val_many hb'.2.2.1];exact hrun _ (hb'.2.2.2 γ)
    ·rename_i hne
     split at h
     ·rename_i hm
      split at h
      ·rename_i rr hf
       split at h
       ·rename_i hmany
        cases h;have ty:=G.tys _ (tyIn_ok hy).1;have hT:=(tyIn_ok hy).2;have hv:=List.all_eq_true.1 hm.2;have hz:((E.P.info? T).bind (·.zero)).map (·.cells)=some (y.zero.cells γ).toArray:=by
         rw[<- (SV.lt_same (γ:=fun _=>0) (δ:=γ) (n:=0) (fun k hk=>absurd hk (Nat.not_lt_zero _)) ty.zlt).2.1,<- hT];exact ty.zero
        have hfs:=ty.fs hne;rw[hT]at hfs;have hfill:=fill_ok (γ:=γ) hf hv;have hbuilt:E.P.built T (l.map fun x=>(x.1,x.2.val γ))=some (r.cells γ).toArray:=by
         unfold Program.built;unfold fieldsOf at hfs
         split at hfs
         ·rename_i fields hu
          cases hi:E.P.info? T with
          | none=>rw[hi]at hz;cases hz
          | some it =>
           rw[hi]at hz;cases hzz:it.zero with
           | none=>rw[Option.bind_some,hzz]at hz;cases hz
           | some zv =>
            rw[Option.bind_some,hzz]at hz;have hz':zv.cells=(y.zero.cells γ).toArray:=Option.some.inj hz;simp only[hu,hfs,hzz,hz'];exact hfill
         ·cases hfs
        have okp:∀(fs:List (Nat × Nat)) (l:List (Nat × SV)) (z r:SV),fillS fs z l=some r->(∀ x∈l,x.2.ok/\x.2.lt n=true)->z.ok->z.lt n=true->r.ok/\r.lt n=true:=by
         intro fs l
         induction l with
         | nil=>intro z r h _ h1 h2;cases h;exact⟨h1,h2⟩
         | cons x l ih =>
          intro z r h hl h1 h2;obtain⟨i,x⟩:=x;unfold fillS at h
          split at h
          ·split at h
           ·split at h
            ·rename_i z' hz
             have q:=SV.put_ok γ hz;have hx:=hl _ (.head _);exact ih z' r h (fun y hy=>hl y (.tail _ hy)) (q.ok h1 hx.1) (q.lt _ h2 hx.2)
            ·cases h
           ·cases h
          ·cases h
        have:=okp _ _ _ _ hf q.2 ty.zok (SV.lt_mono (Nat.zero_le _) ty.zlt);refine⟨?_,this⟩;rw[SV.val_many hmany];exact hrun _ hbuilt
       ·cases h
      ·cases h
     ·cases h
   ·cases h
  ·cases h
 | fieldAddr T x i =>
  dsimp only[opVal]at h
  split at h
  ·rename_i g o' j z y hx hy
   have q:=opnd_ok hk hx;have ty:=G.tys _ (tyIn_ok hy).1
   split at h
   ·rename_i off sz hf
    split at h
    ·cases h
    ·rename_i hz
     cases h;have hfs:=ty.fs (by intro e;rw[e]at hf;cases hf);rw[(tyIn_ok hy).2]at hfs;refine⟨gr_fld ho q.1 ?_,trivial,q.2.2⟩;show(Instr.fieldAt T (.pointer (some ⟨γ g,o'+j*z,none⟩)) i).run E.P wx=.ok (.pointer (some ⟨γ g,o'+off+j*z,none⟩)) wx;rw[show o'+off+j*z=o'+j*z+off by omega];exact fld_ok hfs hf hz
   ·cases h
  ·cases h
 | extract x i =>
  dsimp only[opVal]at h
  split at h
  ·rename_i s t hx
   have q:=opnd_ok hk hx;have hl:s.lt n=true/\t.lt n=true:=by
    have:=q.2.2;simpa only[SV.lt,Bool.and_eq_true]using this
   split at h
   ·rename_i hi
    cases h;subst hi;exact⟨gr_ext ho q.1 rfl,q.2.1.1,hl.1⟩
   ·split at h
    ·rename_i hi
     cases h;subst hi;exact⟨gr_ext ho q.1 rfl,q.2.1.2,hl.2⟩
    ·cases h
  ·cases h
 | unOp op T x =>
  cases op <;> first | cases h | skip
  dsimp only[opVal]at h
  split at h
  ·rename_i t hx
   cases h;exact⟨gr_un ho (opnd_ok hk hx).1 rfl,trivial,rfl⟩
  ·rename_i t hx
   cases h;exact⟨gr_un ho (opnd_ok hk hx).1 rfl,trivial,rfl⟩
  ·cases h
 | binOp op T x y t =>
  dsimp only[opVal]at h
  split at h
  ·rename_i u v hu hv
   have q1:=opnd_ok hk hu;have q2:=opnd_ok hk hv;have hg:=G.bop _ _ _ _ _ _ h hp q1.2.1 q2.2.1;exact⟨run_bin ho q1.1 q2.1 (hg.2.2 γ x y wx).1 (hg.2.2 γ x y wx).2,hg.1,SV.lt_mono (Nat.zero_le _) hg.2.1⟩
  ·cases h
 | indexAddr T x y =>
  dsimp only[opVal]at h
  split at h
  ·rename_i u v hu hv
   have q1:=opnd_ok hk hu;have q2:=opnd_ok hk hv;have hg:=G.ixa _ _ _ _ _ n h hp q1.2.2 q1.2.1 q2.2.1;exact⟨gr_idx ho q1.1 q2.1 (hg.2.2 γ wx),hg.1,hg.2.1⟩
  ·cases h
 | index T x y =>
  dsimp only[opVal]at h
  split at h
  ·rename_i u v hu hv
   have q1:=opnd_ok hk hu;have q2:=opnd_ok hk hv;have hg:=G.idx _ _ _ _ n (map_nil h) q1.2.2 q1.2.1 q2.2.1;exact⟨gr_ix ho q1.1 q2.1 (hg.2.2 γ wx),hg.1,hg.2.1⟩
  ·cases h
 | convert F T x =>
  dsimp only[opVal]at h
  split at h
  ·rename_i u hu
   have q1:=opnd_ok hk hu;have hg:=G.cnv _ _ _ _ n (map_nil h) q1.2.2 q1.2.1;exact⟨gr_cv ho q1.1 (hg.2.2 γ wx),hg.1,hg.2.1⟩
  ·cases h
 | nilCheck x =>
  dsimp only[opVal]at h
  split at h
  ·rename_i g o' j z hx
   cases h;have q:=opnd_ok hk hx;refine⟨?_,q.2⟩;unfold execOp;rw[ho];simp[q.1,SV.val,SV.sc,Sem.run_pure]
  ·cases h
 | slice T x lo hi m =>
  cases m <;> first | (cases h;done) | skip
  dsimp only[opVal]at h
  split at h
  ·rename_i u l hh hu hl hhh
   have q1:=opnd_ok hk hu;have hg:=G.slc _ _ _ _ _ n (map_nil h) q1.2.2;exact⟨gr_sl ho q1.1 (opndO_ok hk hl) (opndO_ok hk hhh) (hg.2.2 γ wx),hg.1,hg.2.1⟩
  ·cases h
 | makeFunc f first caps =>
  cases f <;> first | (cases h;done) | skip
  dsimp only[opVal]at h
  split at h
  ·rename_i hf
   split at h
   ·rename_i l hl
    cases h;have q:=opnds_ok hk hl;have g:=tuS_ok (γ:=γ) (n:=n) q.2;refine⟨?_,g.2⟩;have e:caps.map a.eval=(l.map (·.val γ)).toArray:=by
     apply Array.ext';rw[Array.toList_map];exact q.1
    unfold execOp;rw[ho];show(do let v <- Instr.makeFunc _ (first.map a.eval) (caps.map a.eval);pure (.value v):Sem Next).run E.P wx=.ok (.value (.func _ #[] (tuL l.length ((tuS l).val γ)).toArray)) wx;rw[g.1,e,Array.eq_empty_of_size_eq_zero hf];simp[Instr.makeFunc,Sem.run_bind,Sem.run_pure]
   ·cases h
  ·cases h
 | call c =>
  dsimp only[opVal]at h
  split at h
  ·rename_i x T hc ha ht
   split at h
   ·rename_i g o' n c' hx
    have q:=opnd_ok hk hx;have main:(∃ e,E.P.underlying T=some (.slice e))->(execOp a.eval o).run E.P wx=.ok (.value (.int .i64 (n:Nat))) wx:=fun⟨e,he⟩=>by
     obtain⟨ce,as_,ts⟩:=c;dsimp only at hc ha ht;have h1:as_=#[x]:=by apply Array.ext';rw[ha]
     have h2:ts=#[T]:=by apply Array.ext';rw[ht]
     subst hc;subst h1;subst h2;have hl:=len_any (ty:=o.type) (b:=some ⟨γ g,o',none⟩) (n:=n) (c:=c') he wx;unfold execOp;rw[ho];show(do let d <- resolve a.eval _ o.type;invoke d.target d.args:Sem Next).run E.P wx=_;unfold resolve invoke;simp only[Sem.run_bind,Sem.run_pure,Result.andThen_ok];rw[show Array.map a.eval #[x]=#[.slice (some ⟨γ g,o',none⟩) n c'] by simp[q.1,SV.val,SV.sc]];unfold builtin;show(do let v <- Builtin.len_ #[T] o.type #[.slice (some ⟨γ g,o',none⟩) n c'];pure (.value v):Sem Next).run E.P wx=.ok (.value (.int .i64 (n:Nat))) wx;rw[Sem.run_bind,hl,Result.andThen_ok,Sem.run_pure]
    split at h
    ·rename_i hT
     cases h;exact⟨main (G.sls T (by simpa using hT)),hp _ (.head _),rfl⟩
    ·split at h
     ·rename_i hT
      cases h;exact⟨main (G.slk T (by simpa using hT)),trivial,rfl⟩
     ·cases h
   ·cases h
  ·cases h
 | _=>cases h
end
end Go.Proofs.YthnckclbeecnmaaGreat.Sy
namespace Go.Proofs.YthnckclbeecnmaaGreat.Sy
open Go.RowKit
structure St where
 S:List (Nat × Option SV)
 M:Rows
 n:Nat
inductive Tr
 | leaf (r:SV)
 | br (b:Bool) (t f:Tr)
 | need (p:Ob) (t:Tr)
 | cut (d:Nat) (s:St)
 | loop (d:Nat) (s:St) (body:St->Tr)
 | bad
structure Post where
 leaf:SV->Prop
 cut:Nat->St->Prop
def lookX:List (Nat × Option SV)->Nat->Option SV
 | [],_=>none
 | p::l,t=>if p.1=t then p.2 else lookX l t
def Wk(y x:SV):Prop:=(∀ γ,y.val γ=x.val γ)/\(y.ok->x.ok)
theorem Wk.rfl'{x:SV}:Wk x x:=⟨fun _=>rfl,id⟩
def subS(S:List (Nat × Option SV))(n:Nat):List (Nat × Option SV)->Prop
 | []=>True
 | (t,some x)::l=>((∃ y,lookX S t=some y/\Wk y x)/\x.lt n=true)/\subS S n l
 | (_,none)::l=>subS S n l
structure Sub (base:Nat) (s s':St):Prop where
 base:base<=s'.n
 S:subS s.S s'.n s'.S
 M:∃ gs:List Nat,s'.M=s.M.filter fun r=>gs.contains r.1
 lt:∀ r∈s'.M,r.2.1.lt s'.n=true/\r.1<s'.n
def Tr.wp(base:Nat):Tr->Post->Prop
 | .leaf r,Q=>Q.leaf r
 | .br b t f,Q=>(b=true->t.wp base Q)/\(b=false->f.wp base Q)
 | .need p t,Q=>p.holds/\t.wp base Q
 | .cut d s,Q=>Q.cut d s
 | .loop d s body,Q=>∃(ι:Type) (st:ι->St) (μ:ι->Nat),(∃ i,Sub base s (st i))/\∀ i,(body (st i)).wp base ⟨Q.leaf,fun d' s'=>if d'=d then ∃ j,μ j<μ i/\Sub base s' (st j)else Q.cut d' s'⟩
 | .bad,_=>False
def needs:List Ob->Tr->Tr
 | [],t=>t
 | p::l,t=>.need p (needs l t)
theorem needs_wp{base:Nat}{Q:Post}{t:Tr}:∀ {l:List Ob},(needs l t).wp base Q->All l/\t.wp base Q
 | [],h=>⟨fun p hp=>(by cases hp),h⟩
 | p::l,h=>by
  have ih:=needs_wp h.2;exact⟨fun q hq=>by
   rcases List.mem_cons.1 hq with rfl | hq
   ·exact h.1
   ·exact ih.1 q hq,ih.2⟩
abbrev look:=lookX
def St.put(s:St)(d:Nat)(x:Option SV):St:=⟨(d,x)::s.S,s.M,s.n⟩
def storeIn(g:Nat)(v:SV)(off:Nat):Rows->Option Rows
 | []=>none
 | r::l=>if r.1=g then (SV.put v off r.2.1).map fun x=>(r.1,x,r.2.2)::l else (storeIn g v off l).map (r::·)
def SV.plain:SV->Bool
 | .w _ | .e=>true
 | .ap h t=>h.plain&&t.plain
 | x=>x.one
theorem SV.plain_any:∀ {x:SV},x.plain=true->x.one=true\/x.many=true
 | .w _,_ | .e,_ | .ap _ _,_=>.inr rfl
 | .b _,_ | .i _ _,_ | .na _,_ | .p _ _ _ _,_ | .s _ _ _ _,_=>.inl rfl
 | .v _,h=>.inl h
theorem SV.plain_cells{γ:Pl}:∀ {x:SV},x.plain=true->∀ c∈x.cells γ,c.oneCell'=true
 | .w x,_,c,hc=>by
  simp only[SV.cells,pw,List.mem_cons,List.not_mem_nil,or_false]at hc;rcases hc with rfl | rfl | rfl | rfl <;> rfl
 | .e,_,c,hc=>by cases hc
 | .ap h t,hp,c,hc=>by
  have hp':h.plain=true/\t.plain=true:=by simpa only[SV.plain,Bool.and_eq_true]using hp
  rcases List.mem_append.1 hc with hc | hc
  ·exact plain_cells hp'.1 c hc
  ·exact plain_cells hp'.2 c hc
 | .b _,_,c,hc | .i _ _,_,c,hc | .na _,_,c,hc | .p _ _ _ _,_,c,hc | .s _ _ _ _,_,c,hc=>by
  cases hc with
  | head=>rfl
  | tail _ h=>cases h
 | .v x,hp,c,hc=>by
  cases hc with
  | head=>exact hp
  | tail _ h=>cases h
def mkGo(E:Env)(N d:Nat)(op:Op)(s:St)(k:St->Tr):Tr:=match E.mkr s.n s.M (look s.S) op with
 | some (r,p,R)=>if d<N then needs p (k ⟨(d,some r)::s.S,R++s.M,s.n+R.length⟩)else .bad
 | none=>.bad
def opGo(E:Env)(N:Nat)(o:Oper)(s:St)(k:St->Tr):Tr :=
 match o.op,o.dst with
 | .store T x y,none=>match opnd (look s.S) x,opnd (look s.S) y,tyIn T E.tys with
  | some (.p g off _ z),some v,some ty=>if z=0/\v.plain=true/\v.size=ty.sz then match storeIn g v off s.M with
   | some M=>k ⟨s.S,M,s.n⟩
   | none=>.bad
   else .bad
  | _,_,_=>.bad
 | .alloc T,some d=>match tyIn T E.tys with
  | some ty=>if d<N then k ⟨(d,some (.p s.n 0 0 0))::s.S,(s.n,ty.zero,T)::s.M,s.n+1⟩else .bad
  | none=>.bad
 | .box T x,some d=>match opnd (look s.S) x with
  | some v=>if d<N/\v.plain=true then k ⟨(d,some (.p s.n 0 0 0))::s.S,(s.n,v,T)::s.M,s.n+1⟩else .bad
  | none=>.bad
 | .buildSlice T n parts,some d=>match bsIn T n E.bss,partsOf (look s.S) parts.toList with
  | some b,some l=>if d<N/\l.all (fun x=>decide (x.1<n)&&(x.2.one||x.2.many))=true then match fillS ((List.range n).map fun i=>(i*b.sz,b.sz)) b.zs l with
   | some r=>k ⟨(d,some (.s s.n 0 n n))::s.S,(s.n,r,b.e)::s.M,s.n+1⟩
   | none=>.bad
   else .bad
  | _,_=>.bad
 | .call c,some d=>match c.callee with
  | .value _=>match callX (look s.S) c with
   | some (f,l)=>match E.ctr f s.n s.M l with
    | some (r,p,R)=>if d<N then needs p (k ⟨(d,some r)::s.S,R++s.M,s.n+R.length⟩)else .bad
    | none=>.bad
   | none=>.bad
  | _=>match opVal E (look s.S) s.M (.call c)with
   | some (r,p)=>if d<N then needs p (k (s.put d (some r)))else .bad
   | none=>mkGo E N d (.call c) s k
 | op,some d=>match opVal E (look s.S) s.M op with
  | some (r,p)=>if d<N then needs p (k (s.put d (some r)))else .bad
  | none=>mkGo E N d op s k
 | _,_=>.bad
def underG(g:Bool):List Ob->List Ob
 | []=>[]
 | .same a b::l=>.same (g&&a) b::underG g l
 | .ask p::l=>.ask (g=true->p)::underG g l
 | .eq x y::l=>.eq x y::underG g l
theorem underG_ok{g:Bool}:∀ {l:List Ob},All (underG g l)->g=true->All l
 | [],_,_=>fun p hp=>by cases hp
 | .same a b::l,h,hg=>fun p hp=>by
  rcases List.mem_cons.1 hp with rfl | hp
  ·have h1:(g&&a)=true->b=true:=h _ (.head _)
   rw[hg]at h1;exact h1
  ·exact underG_ok (fun q hq=>h q (.tail _ hq)) hg p hp
 | .eq x y::l,h,hg=>fun p hp=>by
  rcases List.mem_cons.1 hp with rfl | hp
  ·exact h _ (.head _)
  ·exact underG_ok (fun q hq=>h q (.tail _ hq)) hg p hp
 | .ask q::l,h,hg=>fun p hp=>by
  rcases List.mem_cons.1 hp with rfl | hp
  ·have h1:g=true->q:=h _ (.head _)
   exact h1 hg
  ·exact underG_ok (fun q hq=>h q (.tail _ hq)) hg p hp
def stripG:SV->SV
 | .gd _ x=>x
 | x=>x
def tmpsOf(o:Oper):List Nat:=(match o.op with
 | .pick c _ _=>[c]
 | op=>op.operands.toList:List Operand).filterMap fun(x:Operand)=>match x with
 | .tmp t=>some t
 | _=>none
def lkG(lk:Nat->Option SV)(ts:List Nat)(t:Nat):Option SV:=if ts.contains t=true then (lk t).map stripG else lk t
def gEff(b:Bool):SV->Option Bool
 | .b t=>some (if b then t else !t)
 | .gd g (.b t)=>some (g&&(if b then t else !t))
 | .gd g (.v (.bool t))=>some (g&&(if b then t else !t))
 | _=>none
def condG(g:Bool)(lk:Nat->Option SV):List Nat->List Ob
 | []=>[]
 | t::l=>match lk t with
  | some (.gd g' _)=>.same g g'::condG g lk l
  | _=>condG g lk l
theorem condG_mem{g g':Bool}{lk:Nat->Option SV}{y:SV}{t:Nat}:∀ {ts:List Nat},t∈ts->lk t=some (.gd g' y)->Ob.same g g'∈condG g lk ts
 | [],h,_=>by cases h
 | u::l,h,hl=>by
  unfold condG;rcases List.mem_cons.1 h with rfl | h
  ·rw[hl]
   exact .head _
  ·split
   ·exact .tail _ (condG_mem h hl)
   ·exact condG_mem h hl
theorem lkG_ok{γ:Pl}{n:Nat}{lk:Nat->Option SV}{ts:List Nat}{g:Bool}{t:Nat}{x:SV}(hx:lkG lk ts t=some x)(hp:All (condG g lk ts))(hg:g=true):∃ y,lk t=some y/\(y.ok->x.ok)/\(y.lt n=true->x.lt n=true)/\y.val γ=x.val γ:=by
 unfold lkG at hx
 split at hx
 ·rename_i ht
  cases hy:lk t with
  | none=>rw[hy]at hx;cases hx
  | some y =>
   rw[hy]at hx;cases hx;refine⟨y,rfl,?_⟩;cases y with
   | gd g' z =>
    have h1:g'=true:=hp _ (condG_mem (by simpa using ht) hy) hg;subst h1;exact⟨fun h=>h rfl,id,rfl⟩
   | _=>exact⟨id,id,rfl⟩
 ·exact⟨x,hx,id,id,rfl⟩
def valS(E:Env)(n:Nat)(lk:Nat->Option SV)(M:Rows)(o:Oper):Option (SV × List Ob):=match o.op with
 | .call c=>match c.callee with
  | .value _=>match callX lk c with
   | some (f,l)=>match E.ctr f n M l with
    | some (r,p,[])=>some (r,p)
    | _=>none
   | none=>none
  | _=>opVal E lk M (.call c)
 | op=>opVal E lk M op
def opAt(E:Env)(N:Nat)(D:Nat->Option Nat)(o:Oper)(s:St)(k:St->Tr):Tr :=
 match o.guard with
 | none=>opGo E N o s k
 | some (j,b)=>match o.dst,(D j).bind (look s.S)with
  | some d,some (.v (.bool t))=>if d<N then (if t=b then opGo E N o s k else k (s.put d none))else .bad
  | some d,some gx=>if d<N then (match gEff b gx with
   | some e=>match valS E s.n (lkG (look s.S) (tmpsOf o)) s.M o with
    | some (x,p)=>if x.lt s.n=true then needs (underG e p++condG e (look s.S) (tmpsOf o)) (k (s.put d (some (.gd e x))))else .bad
    | none=>.br e (opGo E N o s k) (k (s.put d none))
   | none=>.bad)else .bad
  | _,_=>.bad
def seqX(E:Env)(N:Nat)(D:Nat->Option Nat):List Oper->St->(St->Tr)->Tr
 | [],s,k=>k s
 | o::l,s,k=>opAt E N D o s fun s'=>seqX E N D l s' k
/-! It is so. -/
structure Rel (E:Env) (γ0 γ:Pl) (N:Nat) (w0:World) (s:St) (a:Act) (w:World):Prop where
 ag:Agree E γ0 γ
 base:E.base<=s.n
 z:a.tmps.size=N
 d:a.defers=[]
 k:Holds γ s.n (look s.S) a
 h:HC w0 (s.M.map fun r=>(γ r.1,(r.2.1.cells γ).toArray,r.2.2)) w
 m:∀ r∈s.M,r.2.1.ok/\r.2.1.lt s.n=true/\r.1<s.n
section
variable {E:Env} {γ0 γ:Pl} {N:Nat} {w0 w wx w':World} {s:St} {a:Act} {o:Oper} {x:SV}
theorem Rel.lies(h:Rel E γ0 γ N w0 s a w):Lies γ s.n s.M w:=fun r hr =>
 ⟨(h.h.rows _ (List.mem_map.2 ⟨r,hr,rfl⟩)).2,(h.m r hr).1,(h.m r hr).2.1⟩
theorem Rel.put{d:Nat}(h:Rel E γ0 γ N w0 s a w)(hd:d<N)(ho:x.ok)(hl:x.lt s.n=true):Rel E γ0 γ N w0 (s.put d (some x)) (a.put (some d) (x.val γ)) w :=
 ⟨h.ag,h.base,by rw[put_size];exact h.z,by rw[put_defers];exact h.d,fun t y hy=>by
  unfold St.put look lookX at hy;dsimp only at hy
  split at hy
  ·rename_i e
   cases hy;subst e;exact⟨put_same _ _ _ (by rw[h.z];exact hd),ho,hl⟩
  ·rename_i e
   have:=h.k t y hy;exact⟨by rw[put_other _ _ _ _ (fun q=>e (Option.some.inj q))];exact this.1,this.2⟩,h.h,h.m⟩
theorem Rel.forget{d:Nat}{v:Value}(h:Rel E γ0 γ N w0 s a w):Rel E γ0 γ N w0 (s.put d none) (a.put (some d) v) w :=
 ⟨h.ag,h.base,by rw[put_size];exact h.z,by rw[put_defers];exact h.d,fun t y hy=>by
  unfold St.put look lookX at hy;dsimp only at hy
  split at hy
  ·cases hy
  ·rename_i e
   have:=h.k t y hy;exact⟨by rw[put_other _ _ _ _ (fun q=>e (Option.some.inj q))];exact this.1,this.2⟩,h.h,h.m⟩
theorem Rel.below(h:Rel E γ0 γ N w0 s a w)(hb:Below w.heap.size w w'):Rel E γ0 γ N w0 s a w':=⟨h.ag,h.base,h.z,h.d,h.k,h.h.below hb,h.m⟩
theorem Rel.made{d:Nat}{R:Rows}{δ:Pl}(h:Rel E γ0 γ N w0 s a w)(hd:d<N)(ho:x.ok)(hl:x.lt (s.n+R.length)=true)(hR:∀ q∈R,q.2.1.ok/\q.2.1.lt (s.n+R.length)=true/\s.n<=q.1/\q.1<s.n+R.length)(e:∀ k,k<s.n->δ k=γ k)(hb:Below w.heap.size w w')
  (h1:∀ q∈R,w.heap.size<=δ q.1/\w'.heap[δ q.1]?=some (.cells (q.2.1.cells δ).toArray q.2.2 (0,0))) (h2:R.Pairwise fun p q=>δ p.1≠δ q.1):Rel E γ0 δ N w0 ⟨(d,some x)::s.S,R++s.M,s.n+R.length⟩ (a.put (some d) (x.val δ)) w':=by
 have e':∀ k,k<s.n->γ k=δ k:=fun k hk=>(e k hk).symm;have hh:=h.h.below hb;have em:(s.M.map fun r=>(δ r.1,(r.2.1.cells δ).toArray,r.2.2))=s.M.map fun r=>(γ r.1,(r.2.1.cells γ).toArray,r.2.2) :=
  List.map_congr_left fun r hr=>by
   have:=h.m r hr;rw[<- e' r.1 this.2.2,(SV.lt_same e' this.2.1).2.1]
 refine⟨fun k hk=>(e k (Nat.lt_of_lt_of_le hk h.base)).trans (h.ag k hk),Nat.le_trans h.base (Nat.le_add_right _ _),by rw[put_size];exact h.z,by rw[put_defers];exact h.d,fun t y hy=>?_,?_,fun r hr=>?_⟩
 ·unfold look lookX at hy
  dsimp only at hy
  split at hy
  ·rename_i q
   cases hy;subst q;exact⟨put_same _ _ _ (by rw[h.z];exact hd),ho,hl⟩
  ·rename_i q
   have:=h.k t y hy;refine⟨?_,this.2.1,SV.lt_mono (Nat.le_add_right _ _) this.2.2⟩;rw[put_other _ _ _ _ (fun c=>q (Option.some.inj c)),this.1];exact(SV.lt_same e' this.2.2).2.2
 ·show HC w0 ((R++s.M).map fun r=>(δ r.1,(r.2.1.cells δ).toArray,r.2.2)) _
  rw[List.map_append,em];refine⟨hh.old,fun p hp=>?_,List.pairwise_append.2 ⟨List.pairwise_map.2 h2,hh.nd,fun p hp q hq=>?_⟩⟩
  ·rcases List.mem_append.1 hp with hp | hp
   ·obtain⟨q,hq,rfl⟩:=List.mem_map.1 hp
    have:=h1 q hq;exact⟨Nat.le_trans h.h.old.size this.1,this.2⟩
   ·exact hh.rows p hp
  ·obtain⟨u,hu,rfl⟩:=List.mem_map.1 hp
   have g1:=(h1 u hu).1;have g2:=(Array.getElem?_eq_some_iff.1 (h.h.rows q hq).2).1;show δ u.1≠q.1;omega
 ·rcases List.mem_append.1 hr with hr | hr
  ·have:=hR r hr
   exact⟨this.1,this.2.1,this.2.2.2⟩
  ·have:=h.m r hr
   exact⟨this.1,SV.lt_mono (Nat.le_add_right _ _) this.2.1,Nat.lt_of_lt_of_le this.2.2 (Nat.le_add_right _ _)⟩
theorem Rel.newS{d n:Nat}{T:TypeId}(h:Rel E γ0 γ N w0 s a w)(hd:d<N)(ho:x.ok)(hl:x.lt s.n=true) :
  ∃ δ,Rel E γ0 δ N w0 ⟨(d,some (.s s.n 0 n n))::s.S,(s.n,x,T)::s.M,s.n+1⟩ (a.put (some d) (.slice (some ⟨w.heap.size,0,none⟩) n n)) (w.alloc (.cells (x.cells γ).toArray T)):=by
 obtain⟨δ,hδ⟩:∃ δ:Pl,∀ k,δ k=if k=s.n then w.heap.size else γ k:=⟨_,fun _=>rfl⟩
 have e:∀ k,k<s.n->γ k=δ k:=fun k hk=>by rw[hδ,if_neg (by omega)]
 have q:(SV.s s.n 0 n n).val δ=.slice (some ⟨w.heap.size,0,none⟩) n n:=by
  show Value.slice (some ⟨δ s.n,0,none⟩) n n=_;rw[hδ,if_pos rfl]
 refine⟨δ,?_⟩;rw[<- q];refine h.made (R:=[(s.n,x,T)]) (x:=.s s.n 0 n n) hd trivial (decide_eq_true (Nat.lt_succ_self _)) (fun p hp=>?_) (fun k hk=>(e k hk).symm) ((Below.refl _ _).alloc (Nat.le_refl _) _) (fun p hp=>?_) (List.pairwise_singleton _ _)
 ·simp only[List.mem_cons,List.not_mem_nil,or_false]at hp
  subst hp;exact⟨ho,SV.lt_mono (Nat.le_succ _) hl,Nat.le_refl _,Nat.lt_succ_self _⟩
 ·simp only[List.mem_cons,List.not_mem_nil,or_false]at hp
  subst hp;refine⟨by rw[hδ,if_pos rfl];exact Nat.le_refl _,?_⟩;show(w.alloc _).heap[δ s.n]?=some (.cells (x.cells δ).toArray T (0,0));rw[hδ,if_pos rfl,<- (SV.lt_same e hl).2.1];exact heap_alloc_new _ _
theorem Rel.new{d:Nat}{T:TypeId}(h:Rel E γ0 γ N w0 s a w)(hd:d<N)(ho:x.ok)(hl:x.lt s.n=true) :
  ∃ δ,Rel E γ0 δ N w0 ⟨(d,some (.p s.n 0 0 0))::s.S,(s.n,x,T)::s.M,s.n+1⟩ (a.put (some d) (.pointer (some ⟨w.heap.size,0,none⟩))) (w.alloc (.cells (x.cells γ).toArray T)):=by
 obtain⟨δ,hδ⟩:∃ δ:Pl,∀ k,δ k=if k=s.n then w.heap.size else γ k:=⟨_,fun _=>rfl⟩
 have e:∀ k,k<s.n->γ k=δ k:=fun k hk=>by rw[hδ,if_neg (by omega)]
 refine⟨δ,fun k hk=>?_,Nat.le_succ_of_le h.base,by rw[put_size];exact h.z,by rw[put_defers];exact h.d,fun t y hy=>?_,?_,fun r hr=>?_⟩
 ·rw[<- e k (Nat.lt_of_lt_of_le hk h.base)];exact h.ag k hk
 ·unfold look lookX at hy
  dsimp only at hy
  split at hy
  ·rename_i q
   cases hy;subst q;refine⟨?_,trivial,decide_eq_true (Nat.lt_succ_self _)⟩;rw[put_same _ _ _ (by rw[h.z];exact hd)];show _=Value.pointer (some ⟨δ s.n,0+0*0,none⟩);rw[hδ,if_pos rfl]
  ·rename_i q
   have:=h.k t y hy;refine⟨?_,this.2.1,SV.lt_mono (Nat.le_succ _) this.2.2⟩;rw[put_other _ _ _ _ (fun c=>q (Option.some.inj c)),this.1];exact(SV.lt_same e this.2.2).2.2
 ·have hh:=h.h.new (x.cells γ).toArray T
  have e1:(s.M.map fun r=>(δ r.1,(r.2.1.cells δ).toArray,r.2.2))=s.M.map fun r=>(γ r.1,(r.2.1.cells γ).toArray,r.2.2) :=
   List.map_congr_left fun r hr=>by
    have:=h.m r hr;rw[<- e r.1 this.2.2,(SV.lt_same e this.2.1).2.1]
  show HC w0 ((δ s.n,(x.cells δ).toArray,T)::s.M.map fun r=>(δ r.1,(r.2.1.cells δ).toArray,r.2.2)) _;rw[e1,<- (SV.lt_same e hl).2.1,hδ,if_pos rfl];exact hh
 ·rcases List.mem_cons.1 hr with rfl | hr
  ·exact⟨ho,SV.lt_mono (Nat.le_succ _) hl,Nat.lt_succ_self _⟩
  ·have:=h.m r hr
   exact⟨this.1,SV.lt_mono (Nat.le_succ _) this.2.1,Nat.lt_succ_of_lt this.2.2⟩
theorem setRow_self{g:Nat}{T:TypeId}{cs:Array Value}(hg:w.heap[g]?=some (.cells cs T (0,0))):w.setRow g cs=w:=by
 have e:(w.heap.modify g fun
   | .cells _ elem frozen=>.cells cs elem frozen
   | o=>o)=w.heap:=by
  apply Array.ext_getElem?;intro i;rw[Array.getElem?_modify];by_cases e:g=i
  ·subst e
   rw[if_pos rfl,hg];rfl
  ·rw[if_neg e]
 exact congrArg (fun h=>({ w with heap:=h }:World)) e
theorem setCells_row(g:Nat)(T:TypeId):∀(vs:List Value) (off:Nat) (w:World) (cs:Array Value),w.heap[g]?=some (.cells cs T (0,0))->∃ c',w.setCells g off vs=w.setRow g c'/\c'.size=cs.size/\(off+vs.length<=cs.size->∀ k:Nat,c'[k]?=if off<=k/\k<off+vs.length then vs[k - off]? else cs[k]?)
 | [],off,w,cs,hg=>⟨cs,(setRow_self hg).symm,rfl,fun _ k=>by rw[if_neg (by simp only[List.length_nil];omega)]⟩
 | v::vs,off,w,cs,hg=>by
  have h1:=setCell_eq_setRow w g off cs T (0,0) v hg;obtain⟨c',h2,h3,h4⟩:=setCells_row g T vs (off+1) (w.setRow g (cs.setIfInBounds off v)) (cs.setIfInBounds off v) (setRow_heap w g cs _ T _ hg);refine⟨c',?_,by rw[h3,Array.size_setIfInBounds],fun hf k=>?_⟩
  ·show(w.setCell ⟨g,off,none⟩ v).setCells g (off+1) vs=_
   rw[h1,h2,setRow_setRow]
  ·simp only[List.length_cons]at hf
   rw[h4 (by rw[Array.size_setIfInBounds];omega) k];simp only[List.length_cons];by_cases e:k=off
   ·subst e
    rw[if_neg (by omega),if_pos (by omega),Nat.sub_self,Array.getElem?_setIfInBounds_self_of_lt (by omega)];rfl
   ·by_cases h5:off+1<=k/\k<off+1+vs.length
    ·rw[if_pos h5,if_pos (by omega),show k - off=(k - (off+1))+1 by omega,List.getElem?_cons_succ]
    ·rw[if_neg h5,if_neg (by omega),Array.getElem?_setIfInBounds_ne (by omega)]
theorem store_ok{P:Program}{g off:Nat}{T t:TypeId}{x y v:SV}(hg:w.heap[g]?=some (.cells (x.cells γ).toArray t (0,0)))(hs:(P.info? T).map (·.size)=some v.size)(hp:SV.put v off x=some y)(hv:v.plain=true) :
  (Instr.storeAt T (.pointer (some ⟨g,off,none⟩)) (v.val γ)).run P w=.ok () (w.setRow g (y.cells γ).toArray):=by
 have q:=SV.put_ok γ hp;have qf:=q.fits;have lx:=SV.cells_len γ x;have lv:=SV.cells_len γ v;have hc:(v.val γ).cells=(v.cells γ).toArray:=by
  rcases SV.plain_any hv with h1 | h1
  ·rw[SV.val_one h1,cells_one (SV.one_cell h1)]
  ·rw[SV.val_many h1]
   rfl
 obtain⟨c',h2,h3,h4⟩:=setCells_row g t (v.cells γ) off w _ hg;have e:c'=(y.cells γ).toArray:=by
  apply Array.ext_getElem?;intro k;rw[h4 (by simp only[List.size_toArray];omega) k];simp only[List.getElem?_toArray];rw[q.cells k,lv]
 subst e;have hst:=run_storeCells_cells (P:=P) g off (v.cells γ) 0 w (fun j hj=>by
   rw[cell_of_row w g _ _ t _ hg];simp only[List.getElem?_toArray,Option.isSome_iff_exists];exact⟨_,List.getElem?_eq_getElem (by omega)⟩) (fun j hj=>frozen_of_row w g _ _ t hg) (SV.plain_cells hv)
 rw[Nat.add_zero,h2]at hst;cases hq:P.info? T with
 | none=>rw[hq]at hs;cases hs
 | some i =>
  rw[hq]at hs;have hs':i.size=v.size:=Option.some.inj hs;have hl:(v.cells γ).length=i.size:=by omega
  simp[Instr.storeAt,Instr.sureAddr,storeVar,sizeOf,typeInfo,hq,hc,hl,hst]
theorem storeIn_split{g off:Nat}{v:SV}:∀ {M M':Rows},storeIn g v off M=some M'->∃ A B x T y,M=A++(g,x,T)::B/\M'=A++(g,y,T)::B/\SV.put v off x=some y
 | [],_,h=>by cases h
 | r::l,M',h=>by
  unfold storeIn at h
  split at h
  ·rename_i e
   cases hp:SV.put v off r.2.1 with
   | none=>rw[hp]at h;cases h
   | some y =>
    rw[hp]at h;cases h;subst e;exact⟨[],l,r.2.1,r.2.2,y,rfl,rfl,hp⟩
  ·cases hp:storeIn g v off l with
   | none=>rw[hp]at h;cases h
   | some l' =>
    rw[hp]at h;cases h;obtain⟨A,B,x,T,y,h1,h2,h3⟩:=storeIn_split hp;exact⟨r::A,B,x,T,y,by rw[h1];rfl,by rw[h2];rfl,h3⟩
theorem Rel.store{g off:Nat}{v:SV}{M:Rows}{T:TypeId}(h:Rel E γ0 γ N w0 s a w)(hs:storeIn g v off s.M=some M)(hv:v.plain=true)(ho:v.ok)(hl:v.lt s.n=true)(hT:(E.P.info? T).map (·.size)=some v.size) :
  ∃ w',(Instr.storeAt T (.pointer (some ⟨γ g,off,none⟩)) (v.val γ)).run E.P w=.ok () w'/\Rel E γ0 γ N w0 ⟨s.S,M,s.n⟩ a w':=by
 obtain⟨A,B,x,t,y,h1,h2,h3⟩:=storeIn_split hs;have hm:=h.m (g,x,t) (by rw[h1];simp);have hr:=h.lies (g,x,t) (by rw[h1];simp);have q:=SV.put_ok γ h3;refine⟨_,store_ok hr.1 hT h3 hv,h.ag,h.base,h.z,h.d,h.k,?_,fun r hr=>?_⟩
 ·have hh:=h.h
  rw[h1,List.map_append,List.map_cons]at hh;have:=HC.set _ _ hh (y.cells γ).toArray;show HC w0 (M.map _) _;rw[h2,List.map_append,List.map_cons];exact this
 ·have hr':r∈M:=hr
  rw[h2]at hr';rcases List.mem_append.1 hr' with hr' | hr'
  ·exact h.m r (by rw[h1];exact List.mem_append_left _ hr')
  ·rcases List.mem_cons.1 hr' with rfl | hr'
   ·exact⟨q.ok hm.1 ho,q.lt _ hm.2.1 hl,hm.2.2⟩
   ·exact h.m r (by rw[h1];exact List.mem_append_right _ (.tail _ hr'))
end
end Go.Proofs.YthnckclbeecnmaaGreat.Sy
