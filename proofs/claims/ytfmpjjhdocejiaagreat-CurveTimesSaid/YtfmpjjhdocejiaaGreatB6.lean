/- Regions that draw their order, whole: in whatever order, all comes to the same. No program is named here. (Cut to what is reached, written closely: SyE · SyO · SyC · SyX · SyG · SyI · SyJ.) -/
import Derived.Test.YtfmpjjhdocejiaaGreatB5
import Derived.Deep.MidRow
set_option linter.all false
set_option maxRecDepth 100000
set_option maxHeartbeats 8000000
namespace Go.Proofs.YtfmpjjhdocejiaaGreat.Sy
open Go.RowKit
structure Ty where
 T:TypeId
 m:Bool
 sz:Nat
 zero:SV
 fs:List (Nat × Nat)
def isRow:TypeDesc->Bool
 | .struct _ | .array _ _=>true
 | _=>false
def fieldsOf(P:Program)(T:TypeId):Option (List (Nat × Nat)) :=
 match P.underlying T with
 | some (.struct fields)=>fields.toList.mapM fun f=>(P.info? f.type).map fun i=>(f.offset,i.size)
 | _=>none
structure Ty.Good (P:Program) (y:Ty):Prop where
 d:(P.underlying y.T).map isRow=some y.m
 sz:(P.info? y.T).map (·.size)=some y.sz
 zero:((P.info? y.T).bind (·.zero)).map (·.cells)=some (y.zero.cells fun _=>0).toArray
 zlt:y.zero.lt 0=true
 zok:y.zero.ok
 fs:y.fs≠[]->fieldsOf P y.T=some y.fs
abbrev Rows:=List (Nat × SV × TypeId)
inductive Ob
 | ask (p:Prop)
 | same (g h:Bool)
 | eq (x y:SV)
def Ob.holds:Ob->Prop
 | .ask p=>p
 | .same g h=>g=true->h=true
 | .eq x y=>x=y
structure Bs where
 T:TypeId
 n:Nat
 e:TypeId
 sz:Nat
 zs:SV
structure Bs.Good (P:Program) (b:Bs):Prop where
 u:P.underlying b.T=some (.slice b.e)
 i:(P.info? b.e).map (·.size)=some b.sz
 z:((P.info? b.e).bind (·.zero)).map (fun v=>(Array.range (b.n*b.sz)).map (v.cells[·%v.cells.size]!))=some (b.zs.cells fun _=>0).toArray
 lt:b.zs.lt 0=true
 ok:b.zs.ok
 few:decide (b.n*b.sz > 2^24)=false
 pos:decide (b.n*b.sz=0)=false
def bsIn(T:TypeId)(n:Nat):List Bs->Option Bs
 | []=>none
 | b::l=>if b.T=T/\b.n=n then some b else bsIn T n l
theorem bsIn_ok{T:TypeId}{n:Nat}{b:Bs}:∀ {l:List Bs},bsIn T n l=some b->b∈l/\b.T=T/\b.n=n
 | [],h=>by cases h
 | c::l,h=>by
  unfold bsIn at h
  split at h
  ·rename_i e;cases h;exact⟨.head _,e⟩
  ·have:=bsIn_ok h;exact⟨.tail _ this.1,this.2⟩
structure Env where
 P:Program
 tys:List Ty
 base:Nat
 ctr:FuncId->Nat->Rows->List SV->Option (SV × List Ob × Rows)
 bop:BinOp->TypeId->SV->SV->Option (SV × List Ob)
 bld:TypeId->List (Nat × SV)->Option SV
 xld:TypeId->Nat->Nat->Nat->Nat->Option (SV × List Ob)
 ixa:TypeId->SV->SV->Option (SV × List Ob)
 sls:List TypeId
 bss:List Bs
def tyIn(T:TypeId):List Ty->Option Ty
 | []=>none
 | y::l=>if y.T=T then some y else tyIn T l
theorem tyIn_ok{T:TypeId}{y:Ty}:∀ {l:List Ty},tyIn T l=some y->y∈l/\y.T=T
 | [],h=>by cases h
 | z::l,h=>by
  unfold tyIn at h
  split at h
  ·cases h;rename_i e;exact⟨.head _,e⟩
  ·have:=tyIn_ok h;exact⟨.tail _ this.1,this.2⟩
def All(l:List Ob):Prop:=∀ p∈l,p.holds
def Agree(E:Env)(γ0 γ:Pl):Prop:=∀ k,k<E.base->γ k=γ0 k
def Lies(γ:Pl)(n:Nat)(M:Rows)(wx:World):Prop:=∀ r∈M,wx.heap[γ r.1]?=some (.cells (r.2.1.cells γ).toArray r.2.2 (0,0))/\r.2.1.ok/\r.2.1.lt n=true
structure Made (γ:Pl) (n:Nat) (r:SV) (R:Rows) (wx:World) (e:Ending) (w':World):Prop where
 out:∃ δ:Pl,(∀ k,k<n->δ k=γ k)/\e=.returned (r.val δ)/\(∀ q∈R,wx.heap.size<=δ q.1/\w'.heap[δ q.1]?=some (.cells (q.2.1.cells δ).toArray q.2.2 (0,0)))/\R.Pairwise fun p q=>δ p.1≠δ q.1
 below:Below wx.heap.size wx w'
structure Env.Good (E:Env) (γ0:Pl) (w0:World):Prop where
 tys:∀ y∈E.tys,y.Good E.P
 ctr:∀ f n M l r p R,E.ctr f n M l=some (r,p,R)->All p->E.base<=n->(∀ x∈l,x.ok/\x.lt n=true)->(∀ r∈M,r.2.1.ok/\r.2.1.lt n=true)->r.ok/\r.lt (n+R.length)=true/\(∀ q∈R,q.2.1.ok/\q.2.1.lt (n+R.length)=true/\n<=q.1/\q.1<n+R.length)/\(∀ l wx,(callFunc f l).run E.P wx=.ok (.enter f l) wx) /\
  ∀ γ,Agree E γ0 γ->∀ wx,Below w0.heap.size w0 wx->Lies γ n M wx->Calls E.P f (l.map (·.val γ)).toArray wx (Made γ n r R wx)
 bop:∀ op T x y r p,E.bop op T x y=some (r,p)->All p->x.ok->y.ok->r.ok/\r.lt 0=true/\∀ γ (ox oy:Operand) wx,(eqGuard op T ox oy (x.val γ) (y.val γ)).run E.P wx=.ok () wx/\(binOp op T (x.val γ) (y.val γ)).run E.P wx=.ok (r.val γ) wx
 bld:∀ T l r,E.bld T l=some r->(∀ x∈l,x.2.ok)->r.ok/\r.lt 0=true/\r.many=true/\∀ γ,E.P.built T (l.map fun x=>(x.1,x.2.val γ))=some (r.cells γ).toArray
 xld:∀ T g o j z r p,E.xld T g o j z=some (r,p)->All p->r.ok/\r.lt E.base=true/\g<E.base/\∀ γ,Agree E γ0 γ->∀ wx,Below w0.heap.size w0 wx->(Instr.loadAt T (.pointer (some ⟨γ g,o+j*z,none⟩))).run E.P wx=.ok (r.val γ) wx
 ixa:∀ T x y r p n,E.ixa T x y=some (r,p)->All p->x.lt n=true->x.ok->y.ok->r.ok/\r.lt n=true/\∀ γ wx,(Instr.indexAt T (x.val γ) (y.val γ)).run E.P wx=.ok (r.val γ) wx
 sls:∀ T∈E.sls,∃ e,E.P.underlying T=some (.slice e)
 bss:∀ b∈E.bss,b.Good E.P
def constS(v:Value):SV:=.v v
theorem constS_ok(γ:Pl)(n:Nat)(v:Value):(constS v).val γ=v/\(constS v).ok/\(constS v).lt n=true:=⟨rfl,trivial,rfl⟩
def natS:SV->Option Nat
 | .na x=>some x
 | .v (.int .i64 (.ofNat k))=>if k<2^62 then some k else none
 | _=>none
theorem natS_ok{γ:Pl}{x:SV}{k:Nat}(h:natS x=some k)(hx:x.ok):x.val γ=.int .i64 (k:Nat)/\k<2^62:=by
 unfold natS at h
 split at h
 ·cases h;exact⟨rfl,hx⟩
 ·split at h
  ·rename_i hk;cases h;exact⟨rfl,hk⟩
  ·cases h
 ·cases h
def normS(x:SV):SV:=match natS x with
 | some k=>.na k
 | none=>x
theorem normS_ok{γ:Pl}{n:Nat}{x:SV}(hx:x.ok)(hl:x.lt n=true):(normS x).val γ=x.val γ/\(normS x).ok/\(normS x).lt n=true:=by
 unfold normS
 split
 ·rename_i k h
  have:=natS_ok (γ:=γ) h hx;exact⟨this.1.symm,this.2,rfl⟩
 ·exact⟨rfl,hx,hl⟩
def opnd(lk:Nat->Option SV):Operand->Option SV
 | .tmp t=>lk t
 | .const v=>some (constS v)
 | .func f=>some (.v (.func (.func f) #[] #[]))
 | .global _=>none
def opnds(lk:Nat->Option SV):List Operand->Option (List SV)
 | []=>some []
 | x::l=>match opnd lk x,opnds lk l with
  | some u,some r=>some (u::r)
  | _,_=>none
def partsOf(lk:Nat->Option SV):List (Nat × Operand)->Option (List (Nat × SV))
 | []=>some []
 | x::l=>match opnd lk x.2,partsOf lk l with
  | some u,some r=>some ((x.1,u)::r)
  | _,_=>none
def bitOf(c:Bool):SV->Option (Bool × List Ob)
 | .b t=>some (t,[])
 | .v (.bool t)=>some (t,[])
 | .gd g (.b t)=>some (t,[.same c g])
 | .gd g (.v (.bool t))=>some (t,[.same c g])
 | _=>none
def rowIn(g:Nat):Rows->Option (SV × TypeId)
 | []=>none
 | r::l=>if r.1=g then some r.2 else rowIn g l
def fillS(fs:List (Nat × Nat)):SV->List (Nat × SV)->Option SV
 | z,[]=>some z
 | z,(i,x)::l=>match fs[i]? with
  | some (off,sz)=>if x.size=sz then match SV.put x off z with
   | some z'=>fillS fs z' l
   | none=>none
   else none
  | none=>none
def opVal(E:Env)(lk:Nat->Option SV)(M:Rows):Op->Option (SV × List Ob)
 | .move x=>(opnd lk x).map (·,[])
 | .assign x=>(opnd lk x).map (·,[])
 | .pick c x y=>match opnd lk c with
  | some (.v (.bool true))=>(opnd lk x).map (·,[])
  | some (.v (.bool false))=>(opnd lk y).map (·,[])
  | some (.b t)=>match (opnd lk x).bind (bitOf t),(opnd lk y).bind (bitOf (!t))with
   | some (u,p),some (v,q)=>some (.b (bif t then u else v),p++q)
   | _,_=>none
  | _=>none
 | .load T x=>match opnd lk x,tyIn T E.tys with
  | some (.p g o j z),some y=>match rowIn g M with
   | some r=>if z=0 then (SV.sub y.m o y.sz r.1).map (·,[])else none
   | none=>E.xld T g o j z
  | _,_=>none
 | .build T parts=>match partsOf lk parts.toList with
  | some l=>match tyIn T E.tys with
   | some y=>if y.fs=[]then (E.bld T l).map (·,[])else if y.m=true/\l.all (fun x=>x.2.one||x.2.many)=true then match fillS y.fs y.zero l with
    | some r=>if r.many=true then some (r,[])else none
    | none=>none
    else none
   | none=>none
  | none=>none
 | .fieldAddr T x i=>match opnd lk x,tyIn T E.tys with
  | some (.p g o j z),some y=>match y.fs[i]? with
   | some (off,sz)=>if sz=0 then none else some (.p g (o+off) j z,[])
   | none=>none
  | _,_=>none
 | .extract x i=>match opnd lk x with
  | some (.tu a b)=>if i=0 then some (a,[])else if i=1 then some (b,[])else none
  | _=>none
 | .unOp .not _ x=>match opnd lk x with
  | some (.b t)=>some (.b (!t),[])
  | some (.v (.bool t))=>some (.v (.bool (!t)),[])
  | _=>none
 | .binOp op T x y _=>match opnd lk x,opnd lk y with
  | some u,some v=>E.bop op T u v
  | _,_=>none
 | .indexAddr T x y=>match opnd lk x,opnd lk y with
  | some u,some v=>E.ixa T u v
  | _,_=>none
 | .call c=>match c.callee,c.args.toList,c.argTypes.toList with
  | .builtin .len,[x],[T]=>match opnd lk x with
   | some (.s _ _ n _)=>if E.sls.contains T=true then some (.na n,[.ask (n<2^62)])else none
   | _=>none
  | _,_,_=>none
 | _=>none
section
variable {E:Env} {γ0 γ:Pl} {w0 wx:World} {lk:Nat->Option SV} {M:Rows} {n:Nat} {a:Act} {o:Oper} {x y:Operand} {u v r:SV}
def Holds(γ:Pl)(n:Nat)(lk:Nat->Option SV)(a:Act):Prop:=∀ t x,lk t=some x->a.tmps.getD t undef=x.val γ/\x.ok/\x.lt n=true
theorem opnd_ok(hk:Holds γ n lk a)(h:opnd lk x=some u):a.eval x=u.val γ/\u.ok/\u.lt n=true:=by
 cases x with
 | tmp t=>exact hk t u h
 | const v=>cases h;have:=constS_ok γ n v;exact⟨this.1.symm,this.2⟩
 | func f=>cases h;exact⟨rfl,trivial,rfl⟩
 | global g=>cases h
theorem opnds_ok(hk:Holds γ n lk a):∀ {l:List Operand} {us:List SV},opnds lk l=some us->l.map a.eval=us.map (·.val γ)/\∀ u∈us,u.ok/\u.lt n=true
 | [],us,h=>by cases h;exact⟨rfl,fun u hu=>by cases hu⟩
 | x::l,us,h=>by
  unfold opnds at h
  split at h
  ·rename_i u r hu hr
   cases h;have h1:=opnd_ok hk hu;have h2:=opnds_ok hk hr;refine⟨by rw[List.map_cons,List.map_cons,h1.1,h2.1],fun v hv=>?_⟩;rcases List.mem_cons.1 hv with rfl | hv
   ·exact h1.2
   ·exact h2.2 v hv
  ·cases h
theorem partsOf_ok(hk:Holds γ n lk a):∀ {l:List (Nat × Operand)} {us:List (Nat × SV)},partsOf lk l=some us->l.map (fun x=>(x.1,a.eval x.2))=us.map (fun x=>(x.1,x.2.val γ))/\∀ u∈us,u.2.ok/\u.2.lt n=true
 | [],us,h=>by cases h;exact⟨rfl,fun u hu=>by cases hu⟩
 | x::l,us,h=>by
  unfold partsOf at h
  split at h
  ·rename_i u r hu hr
   cases h;have h1:=opnd_ok hk hu;have h2:=partsOf_ok hk hr;refine⟨by rw[List.map_cons,List.map_cons,h1.1,h2.1],fun v hv=>?_⟩;rcases List.mem_cons.1 hv with rfl | hv
   ·exact h1.2
   ·exact h2.2 v hv
  ·cases h
theorem bitOf_ok{c:Bool}{x:SV}{t:Bool}{p:List Ob}(h:bitOf c x=some (t,p))(hc:c=true)(hp:All p):x.val γ=.bool t:=by
 unfold bitOf at h
 split at h <;> cases h
 ·rfl
 ·rfl
 ·have:_=true:=hp _ (.head _) hc
  subst this;rfl
 ·have:_=true:=hp _ (.head _) hc
  subst this;rfl
theorem rowIn_ok{g:Nat}{q:SV × TypeId}:∀ {M:Rows},rowIn g M=some q->(g,q.1,q.2)∈M
 | [],h=>by cases h
 | r::l,h=>by
  unfold rowIn at h
  split at h
  ·rename_i e;cases h;subst e;exact .head _
  ·exact .tail _ (rowIn_ok h)
theorem desc_of{P:Program}{T:TypeId}{m:Bool}(h:(P.underlying T).map isRow=some m):∃ d,P.underlying T=some d/\isRow d=m:=by
 cases hu:P.underlying T with
 | none=>rw[hu]at h;cases h
 | some d=>rw[hu]at h;exact⟨d,rfl,Option.some.inj h⟩
theorem ld_one{P:Program}{w:World}{g o:Nat}{cs:Array Value}{t T:TypeId}{d:TypeDesc}{v:Value}(hg:w.heap[g]?=some (.cells cs t (0,0)))(hc:cs[o]?=some v)(hu:P.underlying T=some d)(hd:isRow d=false) :
  (Instr.loadAt T (.pointer (some ⟨g,o,none⟩))).run P w=.ok v w:=by
 have c0:w.cell? ⟨g,o,none⟩=some v:=(cell_of_row _ _ o _ _ _ hg).trans hc;have hagg:(isAgg T).run P w=.ok false w:=by
  unfold isAgg;rw[Sem.run_bind,run_underlying hu w];cases d <;> first | rfl | cases hd
 simp[Instr.loadAt,Instr.sureAddr,loadVar,Sem.run_bind,hagg,c0]
theorem load_ok{P:Program}{w:World}{g off sz:Nat}{t T:TypeId}{m:Bool}{x r:SV}(hg:w.heap[g]?=some (.cells (x.cells γ).toArray t (0,0)))(hd:(P.underlying T).map isRow=some m)(hs:(P.info? T).map (·.size)=some sz)(h:SV.sub m off sz x=some r) :
  (Instr.loadAt T (.pointer (some ⟨g,off,none⟩))).run P w=.ok (r.val γ) w:=by
 have q:=SV.sub_ok γ h;obtain⟨d,hu,hm⟩:=desc_of hd;cases m with
 | true =>
  rw[SV.val_many q.kind];refine ld_mid (r.cells γ).toArray hg (fun j hj=>?_) hu (by cases d <;> first | rfl | cases hm) ?_
  ·have hj':j<sz:=by
    have:=SV.cells_len γ r;rw[List.size_toArray,this,q.size]at hj;exact hj
   simpa using q.cells j hj'
  ·rw[hs,List.size_toArray,SV.cells_len,q.size]
 | false =>
  have ho:r.one=true:=q.kind;refine ld_one hg ?_ hu hm;have h1:=SV.one_size ho;have:=q.cells 0 (by have:=q.size;omega);rw[SV.val_one ho]at this;simpa using this
theorem cells_one{v:Value}(h:v.oneCell'=true):v.cells=#[v]:=by
 cases v <;> first | rfl | cases h
theorem fold_put(off:Nat):∀(vs:List Value) (j0:Nat) (cs:Array Value),off+j0+vs.length<=cs.size->((vs.zipIdx j0).foldl (fun cs (p:Value × Nat)=>cs.setIfInBounds (off+p.2) p.1) cs).size=cs.size /\
  ∀ k:Nat,((vs.zipIdx j0).foldl (fun cs (p:Value × Nat)=>cs.setIfInBounds (off+p.2) p.1) cs)[k]?=if off+j0<=k/\k<off+j0+vs.length then vs[k - (off+j0)]? else cs[k]?
 | [],j0,cs,_=>⟨rfl,fun k=>by rw[if_neg (by simp only[List.length_nil];omega)];rfl⟩
 | v::vs,j0,cs,h=>by
  simp only[List.length_cons]at h;have ih:=fold_put off vs (j0+1) (cs.setIfInBounds (off+j0) v) (by simp only[Array.size_setIfInBounds];omega);simp only[List.zipIdx_cons,List.foldl_cons];refine⟨by rw[ih.1,Array.size_setIfInBounds],fun k=>?_⟩;rw[ih.2 k];simp only[List.length_cons];by_cases h1:k=off+j0
  ·subst h1
   rw[if_neg (by omega),if_pos (by omega),Nat.sub_self];rw[Array.getElem?_setIfInBounds_self_of_lt (by omega)];rfl
  ·by_cases h2:off+(j0+1)<=k/\k<off+(j0+1)+vs.length
   ·rw[if_pos h2,if_pos (by omega),show k - (off+j0)=(k - (off+(j0+1)))+1 by omega,List.getElem?_cons_succ]
   ·rw[if_neg h2,if_neg (by omega),Array.getElem?_setIfInBounds_ne (by omega)]
theorem fill_ok{fs:List (Nat × Nat)}:∀ {l:List (Nat × SV)} {z r:SV},fillS fs z l=some r->(∀ x∈l,(x.2.one||x.2.many)=true)->Instr.fill (fs.toArray[·]?) (z.cells γ).toArray (l.map fun x=>(x.1,x.2.val γ))=some (r.cells γ).toArray
 | [],z,r,h,_=>by cases h;rfl
 | (i,x)::l,z,r,h,hv=>by
  unfold fillS at h
  split at h
  ·rename_i off sz hf
   split at h
   ·rename_i hsz
    split at h
    ·rename_i z' hz
     have q:=SV.put_ok γ hz;have qf:=q.fits;have ih:=fill_ok (l:=l) h (fun y hy=>hv y (.tail _ hy));have hc:(x.val γ).cells=(x.cells γ).toArray:=by
      have:=hv _ (.head _);simp only[Bool.or_eq_true]at this;rcases this with h1 | h1
      ·rw[SV.val_one h1,cells_one (SV.one_cell h1)]
      ·rw[SV.val_many h1]
       rfl
     rw[List.map_cons];unfold Instr.fill;have hf':fs.toArray[i]?=some (off,sz):=by simpa using hf
     have hl:=SV.cells_len γ x;have hlz:=SV.cells_len γ z;have e:((x.cells γ).toArray.zipIdx.foldl (fun cs (p:Value × Nat)=>cs.setIfInBounds (off+p.2) p.1) (z.cells γ).toArray)=(z'.cells γ).toArray:=by
      have f:=fold_put off (x.cells γ) 0 (z.cells γ).toArray (by simp only[List.size_toArray];omega);have e0:(x.cells γ).toArray.zipIdx=((x.cells γ).zipIdx 0).toArray:=by simp
      rw[e0,List.foldl_toArray];apply Array.ext_getElem?;intro k;rw[f.2 k];simp only[List.getElem?_toArray];rw[q.cells k,hl];simp only[Nat.add_zero]
     simp only[hf',hc];rw[if_neg (by simp only[List.size_toArray,Bool.or_eq_true,decide_eq_true_eq,bne_iff_ne,ne_eq,not_or];omega)];exact(congrArg (fun cs=>Instr.fill (fs.toArray[·]?) cs (l.map fun x=>(x.1,x.2.val γ))) e).trans ih
    ·cases h
   ·cases h
  ·cases h
end
end Go.Proofs.YtfmpjjhdocejiaaGreat.Sy
namespace Go.Proofs.YtfmpjjhdocejiaaGreat.Sy
open Go.RowKit
section
variable {E:Env} {γ0 γ:Pl} {w0 wx:World} {lk:Nat->Option SV} {M:Rows} {n:Nat} {a:Act} {o:Oper} {x y:Operand} {u v r:SV}
theorem map_nil{x:Option SV}{r:SV}{p:List Ob}(h:x.map (·,([]:List Ob))=some (r,p)):x=some r:=by
 cases x with
 | none=>cases h
 | some q=>cases h;rfl
theorem fld_ok{P:Program}{w:World}{T:TypeId}{fs:List (Nat × Nat)}{i g o off sz:Nat}(hf:fieldsOf P T=some fs)(hi:fs[i]?=some (off,sz))(hz:sz≠0) :
  (Instr.fieldAt T (.pointer (some ⟨g,o,none⟩)) i).run P w=.ok (.pointer (some ⟨g,o+off,none⟩)) w:=by
 unfold fieldsOf at hf
 split at hf
 ·rename_i fields hu
  have hm:∀(l:List Field) (r:List (Nat × Nat)),l.mapM (fun(f:Field)=>(P.info? f.type).map fun i=>(f.offset,i.size))=some r->∀(i:Nat) (q:Nat × Nat),r[i]?=some q->∃(f:Field) (t:TypeInfo),l[i]?=some f/\P.info? f.type=some t/\q=(f.offset,t.size):=by
   intro l
   induction l with
   | nil=>intro r h i q hq;simp at h;subst h;simp at hq
   | cons f l ih =>
    intro r h i q hq;simp only[List.mapM_cons,Option.bind_eq_bind,Option.pure_def]at h;cases ht:P.info? f.type with
    | none=>simp[ht]at h
    | some t =>
     cases hr:l.mapM (fun(f:Field)=>(P.info? f.type).map fun i=>(f.offset,i.size))with
     | none=>simp[ht,hr]at h
     | some rest =>
      simp[ht,hr]at h;subst h;cases i with
      | zero=>simp at hq;exact⟨f,t,rfl,ht,hq.symm⟩
      | succ i=>exact ih rest hr i q (by simpa using hq)
  obtain⟨f,t,h1,h2,h3⟩:=hm _ _ hf i _ hi;cases h3;have h1':fields[i]?=some f:=by simpa using h1
  have hadd:∀ j,(⟨g,o,none⟩:Addr).add j=⟨g,o+j,none⟩:=fun j=>by unfold Addr.add;split <;> simp_all
  simp[Instr.fieldAt,run_underlying hu,h1',Instr.sureAddr,fieldPlace,sizeOf,typeInfo,h2,hz,hadd]
 ·cases hf
theorem len_any{P:Program}{T e ty:TypeId}{b:Option Addr}{n c:Nat}(hu:P.underlying T=some (.slice e))(w:World):(Builtin.len_ #[T] ty #[.slice b n c]).run P w=.ok (.int .i64 (n:Nat)) w:=by
 simp[Builtin.len_,run_underlying hu];rfl
theorem opVal_ok(G:E.Good γ0 w0)(hA:Agree E γ0 γ)(hb:E.base<=n)(hk:Holds γ n lk a)(hM:Lies γ n M wx)(hB:Below w0.heap.size w0 wx){p:List Ob}(h:opVal E lk M o.op=some (r,p))(hp:All p) :
  (execOp a.eval o).run E.P wx=.ok (.value (r.val γ)) wx/\r.ok/\r.lt n=true:=by
 obtain⟨op,ho⟩:∃ op,o.op=op:=⟨_,rfl⟩
 rw[ho]at h;cases op with
 | move x =>
  have q:=opnd_ok hk (map_nil h);exact⟨run_assign (.inr ho) q.1,q.2⟩
 | assign x =>
  have q:=opnd_ok hk (map_nil h);exact⟨run_assign (.inl ho) q.1,q.2⟩
 | pick c x y =>
  dsimp only[opVal]at h
  split at h
  ·rename_i hc
   have q:=opnd_ok hk (map_nil h);exact⟨run_pick2 c x y true _ ho (opnd_ok hk hc).1 (by rw[if_pos rfl];exact q.1),q.2⟩
  ·rename_i hc
   have q:=opnd_ok hk (map_nil h);exact⟨run_pick2 c x y false _ ho (opnd_ok hk hc).1 (by rw[if_neg (by simp)];exact q.1),q.2⟩
  ·rename_i t hc
   split at h
   ·rename_i u p1 v p2 h1 h2
    cases h;refine⟨run_pick2 c x y t _ ho (opnd_ok hk hc).1 ?_,trivial,rfl⟩;cases t with
    | true =>
     rw[if_pos rfl];cases hx:opnd lk x with
     | none=>rw[hx]at h1;cases h1
     | some sx =>
      rw[hx]at h1;rw[(opnd_ok hk hx).1];exact bitOf_ok (γ:=γ) h1 rfl fun q hq=>hp q (List.mem_append_left _ hq)
    | false =>
     rw[if_neg (by simp)];cases hx:opnd lk y with
     | none=>rw[hx]at h2;cases h2
     | some sx =>
      rw[hx]at h2;rw[(opnd_ok hk hx).1];exact bitOf_ok (γ:=γ) h2 rfl fun q hq=>hp q (List.mem_append_right _ hq)
   ·cases h
  ·cases h
 | load T x =>
  dsimp only[opVal]at h
  split at h
  ·rename_i g o' j z y hx hy
   have q:=opnd_ok hk hx;have ty:=G.tys _ (tyIn_ok hy).1
   split at h
   ·rename_i rw_ hr
    split at h
    ·rename_i hz
     subst hz;have hs:=map_nil h;have hm:=hM _ (rowIn_ok hr);have hd:=ty.d;have hsz:=ty.sz;rw[(tyIn_ok hy).2]at hd hsz;have pt:=SV.sub_ok γ hs;refine⟨gr_load ho q.1 ?_,pt.ok hm.2.1,pt.lt _ hm.2.2⟩;show(Instr.loadAt T (.pointer (some ⟨γ g,o'+j*0,none⟩))).run E.P wx=_;rw[Nat.mul_zero,Nat.add_zero];exact load_ok hm.1 hd hsz hs
    ·cases h
   ·have hx':=G.xld _ _ _ _ _ _ _ h hp
    exact⟨gr_load ho q.1 (hx'.2.2.2 γ hA wx hB),hx'.1,SV.lt_mono hb hx'.2.1⟩
  ·cases h
 | build T parts =>
  dsimp only[opVal]at h
  split at h
  ·rename_i l hl
   have q:=partsOf_ok hk hl;have hrun:∀ cs,E.P.built T (l.map fun x=>(x.1,x.2.val γ))=some cs->(execOp a.eval o).run E.P wx=.ok (.value (.agg cs)) wx:=by
    intro cs hcs;have e:(parts.map fun(x:Nat × Operand)=>(x.1,a.eval x.2)).toList=l.map fun x=>(x.1,x.2.val γ):=by
     rw[Array.toList_map];exact q.1
    have hr:=run_build (P:=E.P) wx T (parts.map fun(x:Nat × Operand)=>(x.1,a.eval x.2)) cs (by rw[e];exact hcs);unfold execOp;rw[ho];simp only[Sem.run_bind,hr,Result.andThen_ok,Sem.run_pure]
   split at h
   ·rename_i y hy
    split at h
    ·have hb':=G.bld _ _ _ (map_nil h) (fun x hx=>(q.2 x hx).1)
     refine⟨?_,hb'.1,SV.lt_mono (Nat.zero_le _) hb'.2.1⟩;rw[SV.val_many hb'.2.2.1];exact hrun _ (hb'.2.2.2 γ)
    ·rename_i hne
     split at h
     ·rename_i hm
      split at h
      ·rename_i rr hf
       split at h
       ·rename_i hmany
        cases h;have ty:=G.tys _ (tyIn_ok hy).1;have hT:=(tyIn_ok hy).2;have hv:=List.all_eq_true.1 hm.2;have hz:((E.P.info? T).bind (·.zero)).map (·.cells)=some (y.zero.cells γ).toArray:=by
         rw[<- (SV.lt_same (γ:=fun _=>0) (δ:=γ) (n:=0) (fun k hk=>absurd hk (Nat.not_lt_zero _)) ty.zlt).2.1,<- hT];exact ty.zero
        have hfs:=ty.fs hne;rw[hT]at hfs;have hfill:=fill_ok (γ:=γ) hf hv;have hbuilt:E.P.built T (l.map fun x=>(x.1,x.2.val γ))=some (r.cells γ).toArray:=by
         unfold Program.built;unfold fieldsOf at hfs
         split at hfs
         ·rename_i fields hu
          cases hi:E.P.info? T with
          | none=>rw[hi]at hz;cases hz
          | some it =>
           rw[hi]at hz;cases hzz:it.zero with
           | none=>rw[Option.bind_some,hzz]at hz;cases hz
           | some zv =>
            rw[Option.bind_some,hzz]at hz;have hz':zv.cells=(y.zero.cells γ).toArray:=Option.some.inj hz;simp only[hu,hfs,hzz,hz'];exact hfill
         ·cases hfs
        have okp:∀(fs:List (Nat × Nat)) (l:List (Nat × SV)) (z r:SV),fillS fs z l=some r->(∀ x∈l,x.2.ok/\x.2.lt n=true)->z.ok->z.lt n=true->r.ok/\r.lt n=true:=by
         intro fs l
         induction l with
         | nil=>intro z r h _ h1 h2;cases h;exact⟨h1,h2⟩
         | cons x l ih =>
          intro z r h hl h1 h2;obtain⟨i,x⟩:=x;unfold fillS at h
          split at h
          ·split at h
           ·split at h
            ·rename_i z' hz
             have q:=SV.put_ok γ hz;have hx:=hl _ (.head _);exact ih z' r h (fun y hy=>hl y (.tail _ hy)) (q.ok h1 hx.1) (q.lt _ h2 hx.2)
            ·cases h
           ·cases h
          ·cases h
        have:=okp _ _ _ _ hf q.2 ty.zok (SV.lt_mono (Nat.zero_le _) ty.zlt);refine⟨?_,this⟩;rw[SV.val_many hmany];exact hrun _ hbuilt
       ·cases h
      ·cases h
     ·cases h
   ·cases h
  ·cases h
 | fieldAddr T x i =>
  dsimp only[opVal]at h
  split at h
  ·rename_i g o' j z y hx hy
   have q:=opnd_ok hk hx;have ty:=G.tys _ (tyIn_ok hy).1
   split at h
   ·rename_i off sz hf
    split at h
    ·cases h
    ·rename_i hz
     cases h;have hfs:=ty.fs (by intro e;rw[e]at hf;cases hf);rw[(tyIn_ok hy).2]at hfs;refine⟨gr_fld ho q.1 ?_,trivial,q.2.2⟩;show(Instr.fieldAt T (.pointer (some ⟨γ g,o'+j*z,none⟩)) i).run E.P wx=.ok (.pointer (some ⟨γ g,o'+off+j*z,none⟩)) wx;rw[show o'+off+j*z=o'+j*z+off by omega];exact fld_ok hfs hf hz
   ·cases h
  ·cases h
 | extract x i =>
  dsimp only[opVal]at h
  split at h
  ·rename_i s t hx
   have q:=opnd_ok hk hx;have hl:s.lt n=true/\t.lt n=true:=by
    have:=q.2.2;simpa only[SV.lt,Bool.and_eq_true]using this
   split at h
   ·rename_i hi
    cases h;subst hi;exact⟨gr_ext ho q.1 rfl,q.2.1.1,hl.1⟩
   ·split at h
    ·rename_i hi
     cases h;subst hi;exact⟨gr_ext ho q.1 rfl,q.2.1.2,hl.2⟩
    ·cases h
  ·cases h
 | unOp op T x =>
  cases op <;> first | cases h | skip
  dsimp only[opVal]at h
  split at h
  ·rename_i t hx
   cases h;exact⟨gr_un ho (opnd_ok hk hx).1 rfl,trivial,rfl⟩
  ·rename_i t hx
   cases h;exact⟨gr_un ho (opnd_ok hk hx).1 rfl,trivial,rfl⟩
  ·cases h
 | binOp op T x y t =>
  dsimp only[opVal]at h
  split at h
  ·rename_i u v hu hv
   have q1:=opnd_ok hk hu;have q2:=opnd_ok hk hv;have hg:=G.bop _ _ _ _ _ _ h hp q1.2.1 q2.2.1;exact⟨run_bin ho q1.1 q2.1 (hg.2.2 γ x y wx).1 (hg.2.2 γ x y wx).2,hg.1,SV.lt_mono (Nat.zero_le _) hg.2.1⟩
  ·cases h
 | indexAddr T x y =>
  dsimp only[opVal]at h
  split at h
  ·rename_i u v hu hv
   have q1:=opnd_ok hk hu;have q2:=opnd_ok hk hv;have hg:=G.ixa _ _ _ _ _ n h hp q1.2.2 q1.2.1 q2.2.1;exact⟨gr_idx ho q1.1 q2.1 (hg.2.2 γ wx),hg.1,hg.2.1⟩
  ·cases h
 | call c =>
  dsimp only[opVal]at h
  split at h
  ·rename_i x T hc ha ht
   split at h
   ·rename_i g o' n c' hx
    split at h
    ·rename_i hT
     cases h;have q:=opnd_ok hk hx;obtain⟨e,he⟩:=G.sls T (by simpa using hT);refine⟨?_,hp _ (.head _),rfl⟩;obtain⟨ce,as_,ts⟩:=c;dsimp only at hc ha ht;have h1:as_=#[x]:=by apply Array.ext';rw[ha]
     have h2:ts=#[T]:=by apply Array.ext';rw[ht]
     subst hc;subst h1;subst h2;have hl:=len_any (ty:=o.type) (b:=some ⟨γ g,o',none⟩) (n:=n) (c:=c') he wx;unfold execOp;rw[ho];show(do let d <- resolve a.eval _ o.type;invoke d.target d.args:Sem Next).run E.P wx=_;unfold resolve invoke;simp only[Sem.run_bind,Sem.run_pure,Result.andThen_ok];rw[show Array.map a.eval #[x]=#[.slice (some ⟨γ g,o',none⟩) n c'] by simp[q.1,SV.val,SV.sc]];unfold builtin;show(do let v <- Builtin.len_ #[T] o.type #[.slice (some ⟨γ g,o',none⟩) n c'];pure (.value v):Sem Next).run E.P wx=.ok (.value (.int .i64 (n:Nat))) wx;rw[Sem.run_bind,hl,Result.andThen_ok,Sem.run_pure]
    ·cases h
   ·cases h
  ·cases h
 | _=>cases h
end
end Go.Proofs.YtfmpjjhdocejiaaGreat.Sy
namespace Go.Proofs.YtfmpjjhdocejiaaGreat.Sy
open Go.RowKit
structure St where
 S:List (Nat × Option SV)
 M:Rows
 n:Nat
inductive Tr
 | leaf (r:SV)
 | br (b:Bool) (t f:Tr)
 | need (p:Ob) (t:Tr)
 | cut (d:Nat) (s:St)
 | loop (d:Nat) (s:St) (body:St->Tr)
 | bad
structure Post where
 leaf:SV->Prop
 cut:Nat->St->Prop
def lookX:List (Nat × Option SV)->Nat->Option SV
 | [],_=>none
 | p::l,t=>if p.1=t then p.2 else lookX l t
def Wk(y x:SV):Prop:=(∀ γ,y.val γ=x.val γ)/\(y.ok->x.ok)
theorem Wk.rfl'{x:SV}:Wk x x:=⟨fun _=>rfl,id⟩
def subS(S:List (Nat × Option SV))(n:Nat):List (Nat × Option SV)->Prop
 | []=>True
 | (t,some x)::l=>((∃ y,lookX S t=some y/\Wk y x)/\x.lt n=true)/\subS S n l
 | (_,none)::l=>subS S n l
structure Sub (base:Nat) (s s':St):Prop where
 base:base<=s'.n
 S:subS s.S s'.n s'.S
 M:∃ gs:List Nat,s'.M=s.M.filter fun r=>gs.contains r.1
 lt:∀ r∈s'.M,r.2.1.lt s'.n=true/\r.1<s'.n
def Tr.wp(base:Nat):Tr->Post->Prop
 | .leaf r,Q=>Q.leaf r
 | .br b t f,Q=>(b=true->t.wp base Q)/\(b=false->f.wp base Q)
 | .need p t,Q=>p.holds/\t.wp base Q
 | .cut d s,Q=>Q.cut d s
 | .loop d s body,Q=>∃(ι:Type) (st:ι->St) (μ:ι->Nat),(∃ i,Sub base s (st i))/\∀ i,(body (st i)).wp base ⟨Q.leaf,fun d' s'=>if d'=d then ∃ j,μ j<μ i/\Sub base s' (st j)else Q.cut d' s'⟩
 | .bad,_=>False
def needs:List Ob->Tr->Tr
 | [],t=>t
 | p::l,t=>.need p (needs l t)
theorem needs_wp{base:Nat}{Q:Post}{t:Tr}:∀ {l:List Ob},(needs l t).wp base Q->All l/\t.wp base Q
 | [],h=>⟨fun p hp=>(by cases hp),h⟩
 | p::l,h=>by
  have ih:=needs_wp h.2;exact⟨fun q hq=>by
   rcases List.mem_cons.1 hq with rfl | hq
   ·exact h.1
   ·exact ih.1 q hq,ih.2⟩
abbrev look:=lookX
def St.put(s:St)(d:Nat)(x:Option SV):St:=⟨(d,x)::s.S,s.M,s.n⟩
def storeIn(g:Nat)(v:SV)(off:Nat):Rows->Option Rows
 | []=>none
 | r::l=>if r.1=g then (SV.put v off r.2.1).map fun x=>(r.1,x,r.2.2)::l else (storeIn g v off l).map (r::·)
def SV.plain:SV->Bool
 | .w _ | .e=>true
 | .ap h t=>h.plain&&t.plain
 | x=>x.one
theorem SV.plain_any:∀ {x:SV},x.plain=true->x.one=true\/x.many=true
 | .w _,_ | .e,_ | .ap _ _,_=>.inr rfl
 | .b _,_ | .i _ _,_ | .na _,_ | .p _ _ _ _,_ | .s _ _ _ _,_=>.inl rfl
 | .v _,h=>.inl h
theorem SV.plain_cells{γ:Pl}:∀ {x:SV},x.plain=true->∀ c∈x.cells γ,c.oneCell'=true
 | .w x,_,c,hc=>by
  simp only[SV.cells,pw,List.mem_cons,List.not_mem_nil,or_false]at hc;rcases hc with rfl | rfl | rfl | rfl <;> rfl
 | .e,_,c,hc=>by cases hc
 | .ap h t,hp,c,hc=>by
  have hp':h.plain=true/\t.plain=true:=by simpa only[SV.plain,Bool.and_eq_true]using hp
  rcases List.mem_append.1 hc with hc | hc
  ·exact plain_cells hp'.1 c hc
  ·exact plain_cells hp'.2 c hc
 | .b _,_,c,hc | .i _ _,_,c,hc | .na _,_,c,hc | .p _ _ _ _,_,c,hc | .s _ _ _ _,_,c,hc=>by
  cases hc with
  | head=>rfl
  | tail _ h=>cases h
 | .v x,hp,c,hc=>by
  cases hc with
  | head=>exact hp
  | tail _ h=>cases h
def opGo(E:Env)(N:Nat)(o:Oper)(s:St)(k:St->Tr):Tr :=
 match o.op,o.dst with
 | .store T x y,none=>match opnd (look s.S) x,opnd (look s.S) y,tyIn T E.tys with
  | some (.p g off _ z),some v,some ty=>if z=0/\v.plain=true/\v.size=ty.sz then match storeIn g v off s.M with
   | some M=>k ⟨s.S,M,s.n⟩
   | none=>.bad
   else .bad
  | _,_,_=>.bad
 | .alloc T,some d=>match tyIn T E.tys with
  | some ty=>if d<N then k ⟨(d,some (.p s.n 0 0 0))::s.S,(s.n,ty.zero,T)::s.M,s.n+1⟩else .bad
  | none=>.bad
 | .box T x,some d=>match opnd (look s.S) x with
  | some v=>if d<N/\v.plain=true then k ⟨(d,some (.p s.n 0 0 0))::s.S,(s.n,v,T)::s.M,s.n+1⟩else .bad
  | none=>.bad
 | .buildSlice T n parts,some d=>match bsIn T n E.bss,partsOf (look s.S) parts.toList with
  | some b,some l=>if d<N/\l.all (fun x=>decide (x.1<n)&&(x.2.one||x.2.many))=true then match fillS ((List.range n).map fun i=>(i*b.sz,b.sz)) b.zs l with
   | some r=>k ⟨(d,some (.s s.n 0 n n))::s.S,(s.n,r,b.e)::s.M,s.n+1⟩
   | none=>.bad
   else .bad
  | _,_=>.bad
 | .call c,some d=>match c.callee with
  | .value (.func f)=>match opnds (look s.S) c.args.toList with
   | some l=>match E.ctr f s.n s.M l with
    | some (r,p,R)=>if d<N then needs p (k ⟨(d,some r)::s.S,R++s.M,s.n+R.length⟩)else .bad
    | none=>.bad
   | none=>.bad
  | _=>match opVal E (look s.S) s.M (.call c)with
   | some (r,p)=>if d<N then needs p (k (s.put d (some r)))else .bad
   | none=>.bad
 | op,some d=>match opVal E (look s.S) s.M op with
  | some (r,p)=>if d<N then needs p (k (s.put d (some r)))else .bad
  | none=>.bad
 | _,_=>.bad
def underG(g:Bool):List Ob->List Ob
 | []=>[]
 | .same a b::l=>.same (g&&a) b::underG g l
 | .ask p::l=>.ask (g=true->p)::underG g l
 | .eq x y::l=>.eq x y::underG g l
theorem underG_ok{g:Bool}:∀ {l:List Ob},All (underG g l)->g=true->All l
 | [],_,_=>fun p hp=>by cases hp
 | .same a b::l,h,hg=>fun p hp=>by
  rcases List.mem_cons.1 hp with rfl | hp
  ·have h1:(g&&a)=true->b=true:=h _ (.head _)
   rw[hg]at h1;exact h1
  ·exact underG_ok (fun q hq=>h q (.tail _ hq)) hg p hp
 | .eq x y::l,h,hg=>fun p hp=>by
  rcases List.mem_cons.1 hp with rfl | hp
  ·exact h _ (.head _)
  ·exact underG_ok (fun q hq=>h q (.tail _ hq)) hg p hp
 | .ask q::l,h,hg=>fun p hp=>by
  rcases List.mem_cons.1 hp with rfl | hp
  ·have h1:g=true->q:=h _ (.head _)
   exact h1 hg
  ·exact underG_ok (fun q hq=>h q (.tail _ hq)) hg p hp
def stripG:SV->SV
 | .gd _ x=>x
 | x=>x
def tmpsOf(o:Oper):List Nat:=(match o.op with
 | .pick c _ _=>[c]
 | op=>op.operands.toList:List Operand).filterMap fun(x:Operand)=>match x with
 | .tmp t=>some t
 | _=>none
def lkG(lk:Nat->Option SV)(ts:List Nat)(t:Nat):Option SV:=if ts.contains t=true then (lk t).map stripG else lk t
def gEff(b:Bool):SV->Option Bool
 | .b t=>some (if b then t else !t)
 | .gd g (.b t)=>some (g&&(if b then t else !t))
 | .gd g (.v (.bool t))=>some (g&&(if b then t else !t))
 | _=>none
def condG(g:Bool)(lk:Nat->Option SV):List Nat->List Ob
 | []=>[]
 | t::l=>match lk t with
  | some (.gd g' _)=>.same g g'::condG g lk l
  | _=>condG g lk l
theorem condG_mem{g g':Bool}{lk:Nat->Option SV}{y:SV}{t:Nat}:∀ {ts:List Nat},t∈ts->lk t=some (.gd g' y)->Ob.same g g'∈condG g lk ts
 | [],h,_=>by cases h
 | u::l,h,hl=>by
  unfold condG;rcases List.mem_cons.1 h with rfl | h
  ·rw[hl]
   exact .head _
  ·split
   ·exact .tail _ (condG_mem h hl)
   ·exact condG_mem h hl
theorem lkG_ok{γ:Pl}{n:Nat}{lk:Nat->Option SV}{ts:List Nat}{g:Bool}{t:Nat}{x:SV}(hx:lkG lk ts t=some x)(hp:All (condG g lk ts))(hg:g=true):∃ y,lk t=some y/\(y.ok->x.ok)/\(y.lt n=true->x.lt n=true)/\y.val γ=x.val γ:=by
 unfold lkG at hx
 split at hx
 ·rename_i ht
  cases hy:lk t with
  | none=>rw[hy]at hx;cases hx
  | some y =>
   rw[hy]at hx;cases hx;refine⟨y,rfl,?_⟩;cases y with
   | gd g' z =>
    have h1:g'=true:=hp _ (condG_mem (by simpa using ht) hy) hg;subst h1;exact⟨fun h=>h rfl,id,rfl⟩
   | _=>exact⟨id,id,rfl⟩
 ·exact⟨x,hx,id,id,rfl⟩
def valS(E:Env)(n:Nat)(lk:Nat->Option SV)(M:Rows)(o:Oper):Option (SV × List Ob):=match o.op with
 | .call c=>match c.callee with
  | .value (.func f)=>match opnds lk c.args.toList with
   | some l=>match E.ctr f n M l with
    | some (r,p,[])=>some (r,p)
    | _=>none
   | none=>none
  | _=>opVal E lk M (.call c)
 | op=>opVal E lk M op
def opAt(E:Env)(N:Nat)(D:Nat->Option Nat)(o:Oper)(s:St)(k:St->Tr):Tr :=
 match o.guard with
 | none=>opGo E N o s k
 | some (j,b)=>match o.dst,(D j).bind (look s.S)with
  | some d,some (.v (.bool t))=>if d<N then (if t=b then opGo E N o s k else k (s.put d none))else .bad
  | some d,some gx=>if d<N then (match gEff b gx with
   | some e=>match valS E s.n (lkG (look s.S) (tmpsOf o)) s.M o with
    | some (x,p)=>if x.lt s.n=true then needs (underG e p++condG e (look s.S) (tmpsOf o)) (k (s.put d (some (.gd e x))))else .bad
    | none=>.br e (opGo E N o s k) (k (s.put d none))
   | none=>.bad)else .bad
  | _,_=>.bad
def seqX(E:Env)(N:Nat)(D:Nat->Option Nat):List Oper->St->(St->Tr)->Tr
 | [],s,k=>k s
 | o::l,s,k=>opAt E N D o s fun s'=>seqX E N D l s' k
/-! It is so. -/
structure Rel (E:Env) (γ0 γ:Pl) (N:Nat) (w0:World) (s:St) (a:Act) (w:World):Prop where
 ag:Agree E γ0 γ
 base:E.base<=s.n
 z:a.tmps.size=N
 d:a.defers=[]
 k:Holds γ s.n (look s.S) a
 h:HC w0 (s.M.map fun r=>(γ r.1,(r.2.1.cells γ).toArray,r.2.2)) w
 m:∀ r∈s.M,r.2.1.ok/\r.2.1.lt s.n=true/\r.1<s.n
section
variable {E:Env} {γ0 γ:Pl} {N:Nat} {w0 w wx w':World} {s:St} {a:Act} {o:Oper} {x:SV}
theorem Rel.lies(h:Rel E γ0 γ N w0 s a w):Lies γ s.n s.M w:=fun r hr =>
 ⟨(h.h.rows _ (List.mem_map.2 ⟨r,hr,rfl⟩)).2,(h.m r hr).1,(h.m r hr).2.1⟩
theorem Rel.put{d:Nat}(h:Rel E γ0 γ N w0 s a w)(hd:d<N)(ho:x.ok)(hl:x.lt s.n=true):Rel E γ0 γ N w0 (s.put d (some x)) (a.put (some d) (x.val γ)) w :=
 ⟨h.ag,h.base,by rw[put_size];exact h.z,by rw[put_defers];exact h.d,fun t y hy=>by
  unfold St.put look lookX at hy;dsimp only at hy
  split at hy
  ·rename_i e
   cases hy;subst e;exact⟨put_same _ _ _ (by rw[h.z];exact hd),ho,hl⟩
  ·rename_i e
   have:=h.k t y hy;exact⟨by rw[put_other _ _ _ _ (fun q=>e (Option.some.inj q))];exact this.1,this.2⟩,h.h,h.m⟩
theorem Rel.forget{d:Nat}{v:Value}(h:Rel E γ0 γ N w0 s a w):Rel E γ0 γ N w0 (s.put d none) (a.put (some d) v) w :=
 ⟨h.ag,h.base,by rw[put_size];exact h.z,by rw[put_defers];exact h.d,fun t y hy=>by
  unfold St.put look lookX at hy;dsimp only at hy
  split at hy
  ·cases hy
  ·rename_i e
   have:=h.k t y hy;exact⟨by rw[put_other _ _ _ _ (fun q=>e (Option.some.inj q))];exact this.1,this.2⟩,h.h,h.m⟩
theorem Rel.below(h:Rel E γ0 γ N w0 s a w)(hb:Below w.heap.size w w'):Rel E γ0 γ N w0 s a w':=⟨h.ag,h.base,h.z,h.d,h.k,h.h.below hb,h.m⟩
theorem Rel.made{d:Nat}{R:Rows}{δ:Pl}(h:Rel E γ0 γ N w0 s a w)(hd:d<N)(ho:x.ok)(hl:x.lt (s.n+R.length)=true)(hR:∀ q∈R,q.2.1.ok/\q.2.1.lt (s.n+R.length)=true/\s.n<=q.1/\q.1<s.n+R.length)(e:∀ k,k<s.n->δ k=γ k)(hb:Below w.heap.size w w')
  (h1:∀ q∈R,w.heap.size<=δ q.1/\w'.heap[δ q.1]?=some (.cells (q.2.1.cells δ).toArray q.2.2 (0,0))) (h2:R.Pairwise fun p q=>δ p.1≠δ q.1):Rel E γ0 δ N w0 ⟨(d,some x)::s.S,R++s.M,s.n+R.length⟩ (a.put (some d) (x.val δ)) w':=by
 have e':∀ k,k<s.n->γ k=δ k:=fun k hk=>(e k hk).symm;have hh:=h.h.below hb;have em:(s.M.map fun r=>(δ r.1,(r.2.1.cells δ).toArray,r.2.2))=s.M.map fun r=>(γ r.1,(r.2.1.cells γ).toArray,r.2.2) :=
  List.map_congr_left fun r hr=>by
   have:=h.m r hr;rw[<- e' r.1 this.2.2,(SV.lt_same e' this.2.1).2.1]
 refine⟨fun k hk=>(e k (Nat.lt_of_lt_of_le hk h.base)).trans (h.ag k hk),Nat.le_trans h.base (Nat.le_add_right _ _),by rw[put_size];exact h.z,by rw[put_defers];exact h.d,fun t y hy=>?_,?_,fun r hr=>?_⟩
 ·unfold look lookX at hy
  dsimp only at hy
  split at hy
  ·rename_i q
   cases hy;subst q;exact⟨put_same _ _ _ (by rw[h.z];exact hd),ho,hl⟩
  ·rename_i q
   have:=h.k t y hy;refine⟨?_,this.2.1,SV.lt_mono (Nat.le_add_right _ _) this.2.2⟩;rw[put_other _ _ _ _ (fun c=>q (Option.some.inj c)),this.1];exact(SV.lt_same e' this.2.2).2.2
 ·show HC w0 ((R++s.M).map fun r=>(δ r.1,(r.2.1.cells δ).toArray,r.2.2)) _
  rw[List.map_append,em];refine⟨hh.old,fun p hp=>?_,List.pairwise_append.2 ⟨List.pairwise_map.2 h2,hh.nd,fun p hp q hq=>?_⟩⟩
  ·rcases List.mem_append.1 hp with hp | hp
   ·obtain⟨q,hq,rfl⟩:=List.mem_map.1 hp
    have:=h1 q hq;exact⟨Nat.le_trans h.h.old.size this.1,this.2⟩
   ·exact hh.rows p hp
  ·obtain⟨u,hu,rfl⟩:=List.mem_map.1 hp
   have g1:=(h1 u hu).1;have g2:=(Array.getElem?_eq_some_iff.1 (h.h.rows q hq).2).1;show δ u.1≠q.1;omega
 ·rcases List.mem_append.1 hr with hr | hr
  ·have:=hR r hr
   exact⟨this.1,this.2.1,this.2.2.2⟩
  ·have:=h.m r hr
   exact⟨this.1,SV.lt_mono (Nat.le_add_right _ _) this.2.1,Nat.lt_of_lt_of_le this.2.2 (Nat.le_add_right _ _)⟩
theorem Rel.newS{d n:Nat}{T:TypeId}(h:Rel E γ0 γ N w0 s a w)(hd:d<N)(ho:x.ok)(hl:x.lt s.n=true) :
  ∃ δ,Rel E γ0 δ N w0 ⟨(d,some (.s s.n 0 n n))::s.S,(s.n,x,T)::s.M,s.n+1⟩ (a.put (some d) (.slice (some ⟨w.heap.size,0,none⟩) n n)) (w.alloc (.cells (x.cells γ).toArray T)):=by
 obtain⟨δ,hδ⟩:∃ δ:Pl,∀ k,δ k=if k=s.n then w.heap.size else γ k:=⟨_,fun _=>rfl⟩
 have e:∀ k,k<s.n->γ k=δ k:=fun k hk=>by rw[hδ,if_neg (by omega)]
 have q:(SV.s s.n 0 n n).val δ=.slice (some ⟨w.heap.size,0,none⟩) n n:=by
  show Value.slice (some ⟨δ s.n,0,none⟩) n n=_;rw[hδ,if_pos rfl]
 refine⟨δ,?_⟩;rw[<- q];refine h.made (R:=[(s.n,x,T)]) (x:=.s s.n 0 n n) hd trivial (decide_eq_true (Nat.lt_succ_self _)) (fun p hp=>?_) (fun k hk=>(e k hk).symm) ((Below.refl _ _).alloc (Nat.le_refl _) _) (fun p hp=>?_) (List.pairwise_singleton _ _)
 ·simp only[List.mem_cons,List.not_mem_nil,or_false]at hp
  subst hp;exact⟨ho,SV.lt_mono (Nat.le_succ _) hl,Nat.le_refl _,Nat.lt_succ_self _⟩
 ·simp only[List.mem_cons,List.not_mem_nil,or_false]at hp
  subst hp;refine⟨by rw[hδ,if_pos rfl];exact Nat.le_refl _,?_⟩;show(w.alloc _).heap[δ s.n]?=some (.cells (x.cells δ).toArray T (0,0));rw[hδ,if_pos rfl,<- (SV.lt_same e hl).2.1];exact heap_alloc_new _ _
theorem Rel.new{d:Nat}{T:TypeId}(h:Rel E γ0 γ N w0 s a w)(hd:d<N)(ho:x.ok)(hl:x.lt s.n=true) :
  ∃ δ,Rel E γ0 δ N w0 ⟨(d,some (.p s.n 0 0 0))::s.S,(s.n,x,T)::s.M,s.n+1⟩ (a.put (some d) (.pointer (some ⟨w.heap.size,0,none⟩))) (w.alloc (.cells (x.cells γ).toArray T)):=by
 obtain⟨δ,hδ⟩:∃ δ:Pl,∀ k,δ k=if k=s.n then w.heap.size else γ k:=⟨_,fun _=>rfl⟩
 have e:∀ k,k<s.n->γ k=δ k:=fun k hk=>by rw[hδ,if_neg (by omega)]
 refine⟨δ,fun k hk=>?_,Nat.le_succ_of_le h.base,by rw[put_size];exact h.z,by rw[put_defers];exact h.d,fun t y hy=>?_,?_,fun r hr=>?_⟩
 ·rw[<- e k (Nat.lt_of_lt_of_le hk h.base)];exact h.ag k hk
 ·unfold look lookX at hy
  dsimp only at hy
  split at hy
  ·rename_i q
   cases hy;subst q;refine⟨?_,trivial,decide_eq_true (Nat.lt_succ_self _)⟩;rw[put_same _ _ _ (by rw[h.z];exact hd)];show _=Value.pointer (some ⟨δ s.n,0+0*0,none⟩);rw[hδ,if_pos rfl]
  ·rename_i q
   have:=h.k t y hy;refine⟨?_,this.2.1,SV.lt_mono (Nat.le_succ _) this.2.2⟩;rw[put_other _ _ _ _ (fun c=>q (Option.some.inj c)),this.1];exact(SV.lt_same e this.2.2).2.2
 ·have hh:=h.h.new (x.cells γ).toArray T
  have e1:(s.M.map fun r=>(δ r.1,(r.2.1.cells δ).toArray,r.2.2))=s.M.map fun r=>(γ r.1,(r.2.1.cells γ).toArray,r.2.2) :=
   List.map_congr_left fun r hr=>by
    have:=h.m r hr;rw[<- e r.1 this.2.2,(SV.lt_same e this.2.1).2.1]
  show HC w0 ((δ s.n,(x.cells δ).toArray,T)::s.M.map fun r=>(δ r.1,(r.2.1.cells δ).toArray,r.2.2)) _;rw[e1,<- (SV.lt_same e hl).2.1,hδ,if_pos rfl];exact hh
 ·rcases List.mem_cons.1 hr with rfl | hr
  ·exact⟨ho,SV.lt_mono (Nat.le_succ _) hl,Nat.lt_succ_self _⟩
  ·have:=h.m r hr
   exact⟨this.1,SV.lt_mono (Nat.le_succ _) this.2.1,Nat.lt_succ_of_lt this.2.2⟩
theorem setRow_self{g:Nat}{T:TypeId}{cs:Array Value}(hg:w.heap[g]?=some (.cells cs T (0,0))):w.setRow g cs=w:=by
 have e:(w.heap.modify g fun
   | .cells _ elem frozen=>.cells cs elem frozen
   | o=>o)=w.heap:=by
  apply Array.ext_getElem?;intro i;rw[Array.getElem?_modify];by_cases e:g=i
  ·subst e
   rw[if_pos rfl,hg];rfl
  ·rw[if_neg e]
 exact congrArg (fun h=>({ w with heap:=h }:World)) e
theorem setCells_row(g:Nat)(T:TypeId):∀(vs:List Value) (off:Nat) (w:World) (cs:Array Value),w.heap[g]?=some (.cells cs T (0,0))->∃ c',w.setCells g off vs=w.setRow g c'/\c'.size=cs.size/\(off+vs.length<=cs.size->∀ k:Nat,c'[k]?=if off<=k/\k<off+vs.length then vs[k - off]? else cs[k]?)
 | [],off,w,cs,hg=>⟨cs,(setRow_self hg).symm,rfl,fun _ k=>by rw[if_neg (by simp only[List.length_nil];omega)]⟩
 | v::vs,off,w,cs,hg=>by
  have h1:=setCell_eq_setRow w g off cs T (0,0) v hg;obtain⟨c',h2,h3,h4⟩:=setCells_row g T vs (off+1) (w.setRow g (cs.setIfInBounds off v)) (cs.setIfInBounds off v) (setRow_heap w g cs _ T _ hg);refine⟨c',?_,by rw[h3,Array.size_setIfInBounds],fun hf k=>?_⟩
  ·show(w.setCell ⟨g,off,none⟩ v).setCells g (off+1) vs=_
   rw[h1,h2,setRow_setRow]
  ·simp only[List.length_cons]at hf
   rw[h4 (by rw[Array.size_setIfInBounds];omega) k];simp only[List.length_cons];by_cases e:k=off
   ·subst e
    rw[if_neg (by omega),if_pos (by omega),Nat.sub_self,Array.getElem?_setIfInBounds_self_of_lt (by omega)];rfl
   ·by_cases h5:off+1<=k/\k<off+1+vs.length
    ·rw[if_pos h5,if_pos (by omega),show k - off=(k - (off+1))+1 by omega,List.getElem?_cons_succ]
    ·rw[if_neg h5,if_neg (by omega),Array.getElem?_setIfInBounds_ne (by omega)]
theorem store_ok{P:Program}{g off:Nat}{T t:TypeId}{x y v:SV}(hg:w.heap[g]?=some (.cells (x.cells γ).toArray t (0,0)))(hs:(P.info? T).map (·.size)=some v.size)(hp:SV.put v off x=some y)(hv:v.plain=true) :
  (Instr.storeAt T (.pointer (some ⟨g,off,none⟩)) (v.val γ)).run P w=.ok () (w.setRow g (y.cells γ).toArray):=by
 have q:=SV.put_ok γ hp;have qf:=q.fits;have lx:=SV.cells_len γ x;have lv:=SV.cells_len γ v;have hc:(v.val γ).cells=(v.cells γ).toArray:=by
  rcases SV.plain_any hv with h1 | h1
  ·rw[SV.val_one h1,cells_one (SV.one_cell h1)]
  ·rw[SV.val_many h1]
   rfl
 obtain⟨c',h2,h3,h4⟩:=setCells_row g t (v.cells γ) off w _ hg;have e:c'=(y.cells γ).toArray:=by
  apply Array.ext_getElem?;intro k;rw[h4 (by simp only[List.size_toArray];omega) k];simp only[List.getElem?_toArray];rw[q.cells k,lv]
 subst e;have hst:=run_storeCells_cells (P:=P) g off (v.cells γ) 0 w (fun j hj=>by
   rw[cell_of_row w g _ _ t _ hg];simp only[List.getElem?_toArray,Option.isSome_iff_exists];exact⟨_,List.getElem?_eq_getElem (by omega)⟩) (fun j hj=>frozen_of_row w g _ _ t hg) (SV.plain_cells hv)
 rw[Nat.add_zero,h2]at hst;cases hq:P.info? T with
 | none=>rw[hq]at hs;cases hs
 | some i =>
  rw[hq]at hs;have hs':i.size=v.size:=Option.some.inj hs;have hl:(v.cells γ).length=i.size:=by omega
  simp[Instr.storeAt,Instr.sureAddr,storeVar,sizeOf,typeInfo,hq,hc,hl,hst]
theorem storeIn_split{g off:Nat}{v:SV}:∀ {M M':Rows},storeIn g v off M=some M'->∃ A B x T y,M=A++(g,x,T)::B/\M'=A++(g,y,T)::B/\SV.put v off x=some y
 | [],_,h=>by cases h
 | r::l,M',h=>by
  unfold storeIn at h
  split at h
  ·rename_i e
   cases hp:SV.put v off r.2.1 with
   | none=>rw[hp]at h;cases h
   | some y =>
    rw[hp]at h;cases h;subst e;exact⟨[],l,r.2.1,r.2.2,y,rfl,rfl,hp⟩
  ·cases hp:storeIn g v off l with
   | none=>rw[hp]at h;cases h
   | some l' =>
    rw[hp]at h;cases h;obtain⟨A,B,x,T,y,h1,h2,h3⟩:=storeIn_split hp;exact⟨r::A,B,x,T,y,by rw[h1];rfl,by rw[h2];rfl,h3⟩
theorem Rel.store{g off:Nat}{v:SV}{M:Rows}{T:TypeId}(h:Rel E γ0 γ N w0 s a w)(hs:storeIn g v off s.M=some M)(hv:v.plain=true)(ho:v.ok)(hl:v.lt s.n=true)(hT:(E.P.info? T).map (·.size)=some v.size) :
  ∃ w',(Instr.storeAt T (.pointer (some ⟨γ g,off,none⟩)) (v.val γ)).run E.P w=.ok () w'/\Rel E γ0 γ N w0 ⟨s.S,M,s.n⟩ a w':=by
 obtain⟨A,B,x,t,y,h1,h2,h3⟩:=storeIn_split hs;have hm:=h.m (g,x,t) (by rw[h1];simp);have hr:=h.lies (g,x,t) (by rw[h1];simp);have q:=SV.put_ok γ h3;refine⟨_,store_ok hr.1 hT h3 hv,h.ag,h.base,h.z,h.d,h.k,?_,fun r hr=>?_⟩
 ·have hh:=h.h
  rw[h1,List.map_append,List.map_cons]at hh;have:=HC.set _ _ hh (y.cells γ).toArray;show HC w0 (M.map _) _;rw[h2,List.map_append,List.map_cons];exact this
 ·have hr':r∈M:=hr
  rw[h2]at hr';rcases List.mem_append.1 hr' with hr' | hr'
  ·exact h.m r (by rw[h1];exact List.mem_append_left _ hr')
  ·rcases List.mem_cons.1 hr' with rfl | hr'
   ·exact⟨q.ok hm.1 ho,q.lt _ hm.2.1 hl,hm.2.2⟩
   ·exact h.m r (by rw[h1];exact List.mem_append_right _ (.tail _ hr'))
end
end Go.Proofs.YtfmpjjhdocejiaaGreat.Sy
namespace Go.Proofs.YtfmpjjhdocejiaaGreat.Sy
open Go.RowKit
section
variable {E:Env} {n:Nat} {γ0 γ:Pl} {N:Nat} {w0 w w':World} {s:St} {a:Act} {o:Oper} {x:SV} {k:St->Tr} {Q:Post} {ops:Array Oper} {rest:List Oper} {X:Exit->Act->World->Prop} {P:Program}
def Okay(n:Nat)(lk:Nat->Option SV):Prop:=∀ t x,lk t=some x->x.ok/\x.lt n=true
theorem opnd_okay{lk:Nat->Option SV}{x:Operand}{u:SV}(hk:Okay n lk)(h:opnd lk x=some u):u.ok/\u.lt n=true:=by
 cases x with
 | tmp t=>exact hk t u h
 | const v=>cases h;exact(constS_ok (fun _=>0) n v).2
 | func f=>cases h;exact⟨trivial,rfl⟩
 | global g=>cases h
theorem opnds_okay{lk:Nat->Option SV}(hk:Okay n lk):∀ {l:List Operand} {us:List SV},opnds lk l=some us->∀ u∈us,u.ok/\u.lt n=true
 | [],us,h=>by cases h;exact fun u hu=>(by cases hu)
 | x::l,us,h=>by
  unfold opnds at h
  split at h
  ·rename_i u r hu hr
   cases h;intro v hv;rcases List.mem_cons.1 hv with rfl | hv
   ·exact opnd_okay hk hu
   ·exact opnds_okay hk hr v hv
  ·cases h
theorem parts_okay{lk:Nat->Option SV}(hk:Okay n lk):∀ {l:List (Nat × Operand)} {us:List (Nat × SV)},partsOf lk l=some us->∀ u∈us,u.2.ok/\u.2.lt n=true
 | [],us,h=>by cases h;exact fun u hu=>(by cases hu)
 | x::l,us,h=>by
  unfold partsOf at h
  split at h
  ·rename_i u r hu hr
   cases h;intro v hv;rcases List.mem_cons.1 hv with rfl | hv
   ·exact opnd_okay hk hu
   ·exact parts_okay hk hr v hv
  ·cases h
theorem fillS_okay{fs:List (Nat × Nat)}:∀ {l:List (Nat × SV)} {z r:SV},fillS fs z l=some r->(∀ x∈l,x.2.ok/\x.2.lt n=true)->z.ok->z.lt n=true->r.ok/\r.lt n=true
 | [],z,r,h,_,h1,h2=>by cases h;exact⟨h1,h2⟩
 | (i,x)::l,z,r,h,hl,h1,h2=>by
  unfold fillS at h
  split at h
  ·split at h
   ·split at h
    ·rename_i z' hz
     have q:=SV.put_ok (fun _=>0) hz;have hx:=hl _ (.head _);exact fillS_okay h (fun y hy=>hl y (.tail _ hy)) (q.ok h1 hx.1) (q.lt _ h2 hx.2)
    ·cases h
   ·cases h
  ·cases h
theorem opVal_okay(G:E.Good γ0 w0)(hb:E.base<=n){lk:Nat->Option SV}{M:Rows}{op:Op}{r:SV}{p:List Ob}(hk:Okay n lk)(hM:∀ r∈M,r.2.1.ok/\r.2.1.lt n=true)(h:opVal E lk M op=some (r,p))(hp:All p):r.ok/\r.lt n=true:=by
 cases op with
 | move x=>exact opnd_okay hk (map_nil h)
 | assign x=>exact opnd_okay hk (map_nil h)
 | pick c x y =>
  dsimp only[opVal]at h
  split at h
  ·exact opnd_okay hk (map_nil h)
  ·exact opnd_okay hk (map_nil h)
  ·split at h
   ·cases h
    exact⟨trivial,rfl⟩
   ·cases h
  ·cases h
 | load T x =>
  dsimp only[opVal]at h
  split at h
  ·split at h
   ·rename_i hr
    split at h
    ·have pt:=SV.sub_ok (fun _=>0) (map_nil h)
     have hm:=hM _ (rowIn_ok hr);exact⟨pt.ok hm.1,pt.lt _ hm.2⟩
    ·cases h
   ·have hx':=G.xld _ _ _ _ _ _ _ h hp
    exact⟨hx'.1,SV.lt_mono hb hx'.2.1⟩
  ·cases h
 | build T parts =>
  dsimp only[opVal]at h
  split at h
  ·rename_i l hl
   have q:=parts_okay hk hl
   split at h
   ·rename_i y hy
    split at h
    ·have hb':=G.bld _ _ _ (map_nil h) (fun x hx=>(q x hx).1)
     exact⟨hb'.1,SV.lt_mono (Nat.zero_le _) hb'.2.1⟩
    ·split at h
     ·split at h
      ·rename_i rr hf
       split at h
       ·cases h
        have ty:=G.tys _ (tyIn_ok hy).1;exact fillS_okay hf q ty.zok (SV.lt_mono (Nat.zero_le _) ty.zlt)
       ·cases h
      ·cases h
     ·cases h
   ·cases h
  ·cases h
 | fieldAddr T x i =>
  dsimp only[opVal]at h
  split at h
  ·rename_i hx _
   split at h
   ·split at h
    ·cases h
    ·cases h
     exact⟨trivial,(opnd_okay hk hx).2⟩
   ·cases h
  ·cases h
 | extract x i =>
  dsimp only[opVal]at h
  split at h
  ·rename_i s t hx
   have q:=opnd_okay hk hx;have hl:s.lt n=true/\t.lt n=true:=by
    have:=q.2;simpa only[SV.lt,Bool.and_eq_true]using this
   split at h
   ·cases h
    exact⟨q.1.1,hl.1⟩
   ·split at h
    ·cases h
     exact⟨q.1.2,hl.2⟩
    ·cases h
  ·cases h
 | unOp op T x =>
  cases op <;> first | cases h | skip
  dsimp only[opVal]at h
  split at h
  ·cases h
   exact⟨trivial,rfl⟩
  ·cases h
   exact⟨trivial,rfl⟩
  ·cases h
 | binOp op T x y t =>
  dsimp only[opVal]at h
  split at h
  ·rename_i u v hu hv
   have hg:=G.bop _ _ _ _ _ _ h hp (opnd_okay hk hu).1 (opnd_okay hk hv).1;exact⟨hg.1,SV.lt_mono (Nat.zero_le _) hg.2.1⟩
  ·cases h
 | indexAddr T x y =>
  dsimp only[opVal]at h
  split at h
  ·rename_i u v hu hv
   have q1:=opnd_okay hk hu;have hg:=G.ixa _ _ _ _ _ n h hp q1.2 q1.1 (opnd_okay hk hv).1;exact⟨hg.1,hg.2.1⟩
  ·cases h
 | call c =>
  dsimp only[opVal]at h
  split at h
  ·split at h
   ·split at h
    ·cases h
     exact⟨hp _ (.head _),rfl⟩
    ·cases h
   ·cases h
  ·cases h
 | _=>cases h
theorem valS_okay(G:E.Good γ0 w0)(hb:E.base<=n){lk:Nat->Option SV}{M:Rows}{r:SV}{p:List Ob}(hk:Okay n lk)(hM:∀ r∈M,r.2.1.ok/\r.2.1.lt n=true)(h:valS E n lk M o=some (r,p))(hp:All p):r.ok:=by
 unfold valS at h
 split at h
 ·split at h
  ·split at h
   ·rename_i l hl
    split at h
    ·rename_i hr
     cases h;exact(G.ctr _ _ _ _ _ _ _ hr hp hb (opnds_okay hk hl) hM).1
    ·cases h
   ·cases h
  ·exact(opVal_okay G hb hk hM h hp).1
 ·exact(opVal_okay G hb hk hM h hp).1
theorem li_value{v:Value}(hw:Region.wanted o (yielded ops a.tmps)=true)(hr:(execOp a.eval o).run P w=.ok (.value v) w')(h:wpList P ops X rest (a.put o.dst v) w'):wpList P ops X (o::rest) a w :=
 wpList_step fun K hK=>by
  rw[if_pos hw];unfold Oper.wp;rw[hr];exact hK _ _ h
theorem li_unit(hw:Region.wanted o (yielded ops a.tmps)=true)(hr:(execOp a.eval o).run P w=.ok .skip w')(h:wpList P ops X rest (a.put o.dst undef) w'):wpList P ops X (o::rest) a w :=
 wpList_step fun K hK=>by
  rw[if_pos hw];unfold Oper.wp;rw[hr];exact hK _ _ h
theorem li_made{f:FuncId}{args:Array Value}{Z:Ending->World->Prop}(hw:Region.wanted o (yielded ops a.tmps)=true)(hr:(execOp a.eval o).run P w=.ok (.enter f args) w)
  (hc:Calls P f args w Z) (h:∀ e w',Z e w'->∃ v,e=.returned v/\wpList P ops X rest (a.put o.dst v) w'):wpList P ops X (o::rest) a w :=
 wpList_step fun K hK=>by
  rw[if_pos hw];unfold Oper.wp;rw[hr];refine Calls.mono hc ?_;intro e w' hz;obtain⟨v,rfl,hh⟩:=h e w' hz;exact hK _ _ hh
theorem made_nil{γ:Pl}{n:Nat}{r:SV}{wx w':World}{e:Ending}(hl:r.lt (n+([]:Rows).length)=true)(h:Made γ n r [] wx e w'):e=.returned (r.val γ)/\Below wx.heap.size wx w':=by
 obtain⟨⟨δ,h1,h2,_⟩,h3⟩:=h;exact⟨by rw[h2,(SV.lt_same h1 hl).2.2],h3⟩
theorem li_call{f:FuncId}{args:Array Value}{v:Value}(hw:Region.wanted o (yielded ops a.tmps)=true)(hr:(execOp a.eval o).run P w=.ok (.enter f args) w)
  (hc:Calls P f args w fun e w'=>e=.returned v/\Below w.heap.size w w') (h:∀ w',Below w.heap.size w w'->wpList P ops X rest (a.put o.dst v) w'):wpList P ops X (o::rest) a w :=
 wpList_step fun K hK=>by
  rw[if_pos hw];unfold Oper.wp;rw[hr];refine Calls.mono hc ?_;rintro e w' ⟨rfl,hb⟩;exact hK _ _ (h w' hb)
theorem run_callFunc{c:Call}{f:FuncId}(ho:o.op=.call c)(hc:c.callee=.value (.func f)):execOp a.eval o=callFunc f (c.args.map a.eval):=by
 obtain⟨ce,as_,ts⟩:=c;dsimp only at hc;subst hc;unfold execOp;rw[ho];show(do let d <- resolve a.eval _ o.type;invoke d.target d.args)=_;unfold resolve Deferred.ofValue invoke;simp[Act.eval]
theorem fill_congr{f g:Nat->Option (Nat × Nat)}:∀ {l:List (Nat × Value)} {cs:Array Value},(∀ x∈l,f x.1=g x.1)->Instr.fill f cs l=Instr.fill g cs l
 | [],_,_=>rfl
 | (i,v)::l,cs,h=>by
  unfold Instr.fill;have h0:f i=g i:=h (i,v) (.head _);rw[h0];cases g i with
  | none=>rfl
  | some q =>
   obtain⟨off,sz⟩:=q;dsimp only
   split
   ·rfl
   ·exact fill_congr fun x hx=>h x (.tail _ hx)
theorem opVal_go(G:E.Good γ0 w0){d:Nat}{r:SV}{p:List Ob}(hx:(if d<N then needs p (k (s.put d (some r)))else Tr.bad).wp E.base Q)(R:Rel E γ0 γ N w0 s a w)(hw:Region.wanted o (yielded ops a.tmps)=true)(hd:o.dst=some d)(h:opVal E (look s.S) s.M o.op=some (r,p))
  (cont:∀ γ s' a' w',Rel E γ0 γ N w0 s' a' w'->(k s').wp E.base Q->wpList E.P ops X rest a' w'):wpList E.P ops X (o::rest) a w:=by
 split at hx
 ·rename_i hdN
  obtain⟨hp,hk⟩:=needs_wp hx;have q:=opVal_ok G R.ag R.base R.k R.lies R.h.old h hp;refine li_value hw q.1 ?_;rw[hd];exact cont _ _ _ _ (R.put hdN q.2.1 q.2.2) hk
 ·cases hx
theorem opGo_ok(G:E.Good γ0 w0)(hx:(opGo E N o s k).wp E.base Q)(R:Rel E γ0 γ N w0 s a w)(hw:Region.wanted o (yielded ops a.tmps)=true)
  (cont:∀ γ s' a' w',Rel E γ0 γ N w0 s' a' w'->(k s').wp E.base Q->wpList E.P ops X rest a' w'):wpList E.P ops X (o::rest) a w:=by
 obtain⟨op,ho⟩:∃ op,o.op=op:=⟨_,rfl⟩
 obtain⟨dst,hd⟩:∃ d,o.dst=d:=⟨_,rfl⟩
 unfold opGo at hx;rw[ho,hd]at hx
 split at hx
 ·rename_i T x y
  split at hx
  ·rename_i g off j z v ty hx1 hy1 ht
   split at hx
   ·rename_i hh
    obtain⟨rfl,hv,hz⟩:=hh
    split at hx
    ·rename_i M hM
     have q1:=opnd_ok R.k hx1;have q2:=opnd_ok R.k hy1;have tg:=(G.tys _ (tyIn_ok ht).1).sz;rw[(tyIn_ok ht).2,<- hz]at tg;obtain⟨w',h1,h2⟩:=R.store hM hv q2.2.1 q2.2.2 tg;refine li_unit (w':=w') hw ?_ ?_
     ·unfold execOp
      rw[ho];have e:a.eval x=.pointer (some ⟨γ g,off,none⟩):=by
       rw[q1.1];show Value.pointer (some ⟨γ g,off+j*0,none⟩)=_;rw[Nat.mul_zero,Nat.add_zero]
      simp only[e,q2.1,Sem.run_bind,h1,Result.andThen_ok,Sem.run_pure]
     ·rw[hd]
      exact cont _ _ _ _ h2 hx
    ·cases hx
   ·cases hx
  ·cases hx
 ·rename_i T d
  split at hx
  ·rename_i ty ht
   split at hx
   ·rename_i hdN
    have tg:=G.tys _ (tyIn_ok ht).1;obtain⟨δ,h2⟩:=R.new (T:=T) hdN tg.zok (SV.lt_mono (Nat.zero_le _) tg.zlt);have hz:=tg.zero;rw[(tyIn_ok ht).2,(SV.lt_same (γ:=fun _=>0) (δ:=γ) (n:=0) (fun k hk=>absurd hk (Nat.not_lt_zero _)) tg.zlt).2.1]at hz;refine li_value (v:=.pointer (some ⟨w.heap.size,0,none⟩)) (w':=w.alloc (.cells (ty.zero.cells γ).toArray T)) hw ?_ ?_
    ·unfold execOp
     rw[ho];cases hi:E.P.info? T with
     | none=>rw[hi]at hz;cases hz
     | some it =>
      rw[hi]at hz;cases hzz:it.zero with
      | none=>rw[Option.bind_some,hzz]at hz;cases hz
      | some zv =>
       rw[Option.bind_some,hzz]at hz;have hz':zv.cells=(ty.zero.cells γ).toArray:=Option.some.inj hz;simp[Instr.alloc,zeroValue,typeInfo,hi,hzz,newVar,newRow,hz']
    ·rw[hd]
     exact cont _ _ _ _ h2 hx
   ·cases hx
  ·cases hx
 ·rename_i T x d
  split at hx
  ·rename_i v hv
   split at hx
   ·rename_i hh
    have q:=opnd_ok R.k hv;obtain⟨δ,h2⟩:=R.new (T:=T) hh.1 q.2.1 q.2.2;refine li_value (v:=.pointer (some ⟨w.heap.size,0,none⟩)) (w':=w.alloc (.cells (v.cells γ).toArray T)) hw (run_box ho q.1 ?_) ?_
    ·rcases SV.plain_any hh.2 with h1 | h1
     ·rw[SV.val_one h1,cells_one (SV.one_cell h1)]
     ·rw[SV.val_many h1]
      rfl
    ·rw[hd]
     exact cont _ _ _ _ h2 hx
   ·cases hx
  ·cases hx
 ·rename_i T n parts d
  split at hx
  ·rename_i b l hb hl
   split at hx
   ·rename_i hc
    split at hx
    ·rename_i r hr
     obtain⟨hbm,hbT,hbn⟩:=bsIn_ok hb;have bg:=G.bss _ hbm;have q:=partsOf_ok R.k hl;have hall:=List.all_eq_true.1 hc.2;have hfo:=fillS_okay hr q.2 bg.ok (SV.lt_mono (Nat.zero_le _) bg.lt);obtain⟨δ,h2⟩:=R.newS (n:=n) (T:=b.e) hc.1 hfo.1 hfo.2;refine li_value (v:=.slice (some ⟨w.heap.size,0,none⟩) n n) (w':=w.alloc (.cells (r.cells γ).toArray b.e)) hw ?_ ?_
     ·have hfill:=fill_ok (γ:=γ) hr (fun x hx=>by have:=hall x hx;rw[Bool.and_eq_true]at this;exact this.2)
      have hz:=bg.z;rw[(SV.lt_same (γ:=fun _=>0) (δ:=γ) (n:=0) (fun k hk=>absurd hk (Nat.not_lt_zero _)) bg.lt).2.1]at hz;have hu:=bg.u;rw[hbT]at hu;have hfew:=of_decide_eq_false bg.few;have hpos:=of_decide_eq_false bg.pos;rw[hbn]at hz hfew hpos;cases hi:E.P.info? b.e with
      | none=>rw[hi]at hz;cases hz
      | some it =>
       have hs:=bg.i;rw[hi]at hz hs;have hs':it.size=b.sz:=Option.some.inj hs;cases hzz:it.zero with
       | none=>rw[Option.bind_some,hzz]at hz;cases hz
       | some zv =>
        rw[Option.bind_some,hzz]at hz;have hz':(Array.range (n*b.sz)).map (zv.cells[·%zv.cells.size]!)=(b.zs.cells γ).toArray:=Option.some.inj hz;have hfc:Instr.fill (fun i=>some (i*b.sz,b.sz)) (b.zs.cells γ).toArray (l.map fun x=>(x.1,x.2.val γ))=some (r.cells γ).toArray:=by
         rw[<- hfill];refine fill_congr fun x hx=>?_;obtain⟨y,hy,rfl⟩:=List.mem_map.1 hx;have hlt:y.1<n:=by
          have:=hall y hy;rw[Bool.and_eq_true]at this;exact of_decide_eq_true this.1
         simp[hlt]
        unfold execOp;rw[ho];have hrun:(Instr.buildSlice T n (parts.map fun(x:Nat × Operand)=>(x.1,a.eval x.2))).run E.P w=.ok (.slice (some ⟨w.heap.size,0,none⟩) n n) (w.alloc (.cells (r.cells γ).toArray b.e)):=by
         simp[Instr.buildSlice,run_underlying hu,sizeOf,typeInfo,hi,hs',hfew,hpos,zeroValue,hzz,hz',q.1,hfc,newRow]
        show(do let v <- Instr.buildSlice T n (parts.map fun(x:Nat × Operand)=>(x.1,a.eval x.2));pure (.value v):Sem Next).run E.P w=_;rw[Sem.run_bind,hrun,Result.andThen_ok,Sem.run_pure]
     ·rw[hd]
      exact cont _ _ _ _ h2 hx
    ·cases hx
   ·cases hx
  ·cases hx
 ·rename_i c d
  split at hx
  ·rename_i f hf
   split at hx
   ·rename_i l hl
    split at hx
    ·rename_i r p R' hr
     split at hx
     ·rename_i hdN
      obtain⟨hp,hk⟩:=needs_wp hx;have q:=opnds_ok R.k hl;have g:=G.ctr _ _ _ _ _ _ _ hr hp R.base q.2 (fun r hr=>⟨(R.m r hr).1,(R.m r hr).2.1⟩);have e:c.args.map a.eval=(l.map (·.val γ)).toArray:=by
       apply Array.ext';rw[Array.toList_map];exact q.1
      refine li_made (Z:=Made γ s.n r R' w) hw ((congrArg (fun m=>Sem.run E.P m w) (run_callFunc ho hf)).trans (g.2.2.2.1 _ _)) ?_ fun e w' hz=>?_
      ·rw[e]
       exact g.2.2.2.2 γ R.ag w R.h.old R.lies
      ·obtain⟨⟨δ,h1,h2,h3,h4⟩,h5⟩:=hz
       refine⟨_,h2,?_⟩;rw[hd];exact cont _ _ _ _ (R.made hdN g.1 g.2.1 g.2.2.1 h1 h5 h3 h4) hk
     ·cases hx
    ·cases hx
   ·cases hx
  ·split at hx
   ·rename_i r p hr
    exact opVal_go G hx R hw hd (by rw[ho];exact hr) cont
   ·cases hx
 ·rename_i op' d _ _ _
  split at hx
  ·rename_i r p hr
   exact opVal_go G hx R hw hd (by rw[ho];exact hr) cont
  ·cases hx
 ·cases hx
theorem valS_ok(G:E.Good γ0 w0)(R:Rel E γ0 γ N w0 s a w){lk:Nat->Option SV}{r:SV}{p:List Ob}(hk:Holds γ s.n lk a)(h:valS E s.n lk s.M o=some (r,p))(hp:All p)(hw:Region.wanted o (yielded ops a.tmps)=true)
  (cont:∀ w',Below w.heap.size w w'->wpList E.P ops X rest (a.put o.dst (r.val γ)) w'):r.ok/\wpList E.P ops X (o::rest) a w:=by
 unfold valS at h
 split at h
 ·rename_i c ho
  split at h
  ·rename_i f hf
   split at h
   ·rename_i l hl
    split at h
    ·rename_i r' p' hr
     cases h;have q:=opnds_ok hk hl;have g:=G.ctr _ _ _ _ _ _ _ hr hp R.base q.2 (fun r hr=>⟨(R.m r hr).1,(R.m r hr).2.1⟩);have e:c.args.map a.eval=(l.map (·.val γ)).toArray:=by
      apply Array.ext';rw[Array.toList_map];exact q.1
     refine⟨g.1,li_call (v:=r.val γ) hw ((congrArg (fun m=>Sem.run E.P m w) (run_callFunc ho hf)).trans (g.2.2.2.1 _ _)) ?_ cont⟩;rw[e];exact(g.2.2.2.2 γ R.ag w R.h.old R.lies).mono fun _ _=>made_nil g.2.1
    ·cases h
   ·cases h
  ·have q:=opVal_ok G R.ag R.base hk R.lies R.h.old (by rw[ho];exact h) hp
   exact⟨q.2.1,li_value hw q.1 (cont w (Below.refl _ _))⟩
 ·have q:=opVal_ok G R.ag R.base hk R.lies R.h.old h hp
  exact⟨q.2.1,li_value hw q.1 (cont w (Below.refl _ _))⟩
theorem Rel.forgetTo{d:Nat}{g:Bool}(R:Rel E γ0 γ N w0 s a w)(hd:d<N)(hg:g=false)(hl:x.lt s.n=true):Rel E γ0 γ N w0 (s.put d (some (.gd g x))) (a.put (some d) undef) w:=by
 have h:=R.put (x:=.gd g x) hd (fun h=>by rw[hg]at h;cases h) hl;have e:(SV.gd g x).val γ=undef:=by
  show(if g=true then x.val γ else undef)=undef;rw[hg];rfl
 rwa [e]at h
theorem wanted_eff{γ:Pl}{d j:Nat}{b e:Bool}{gx:SV}{tmps:Array Value}(hg:o.guard=some (j,b))(hd:(ops[j]?).bind (·.dst)=some d)(hv:tmps.getD d undef=gx.val γ)(h:gEff b gx=some e):Region.wanted o (yielded ops tmps)=e:=by
 have bit:∀ t:Bool,tmps.getD d undef=.bool t->Region.wanted o (yielded ops tmps)=if b=true then t else !t:=fun t ht=>by
  cases b with
  | true =>
   cases t with
   | true=>exact wanted_of hg hd ht
   | false=>exact unwanted_of hg hd ht rfl
  | false =>
   cases t with
   | true=>exact unwanted_of hg hd ht rfl
   | false=>exact wanted_of hg hd ht
 unfold gEff at h
 split at h
 ·rename_i t
  cases h;exact bit t hv
 ·rename_i g t
  cases h;cases g with
  | true=>exact bit t hv
  | false=>exact unwanted_undef hg hd hv
 ·rename_i g t
  cases h;cases g with
  | true=>exact bit t hv
  | false=>exact unwanted_undef hg hd hv
 ·cases h
theorem opAt_ok(G:E.Good γ0 w0)(hx:(opAt E N (fun j=>(ops[j]?).bind (·.dst)) o s k).wp E.base Q)(R:Rel E γ0 γ N w0 s a w)
  (cont:∀ γ s' a' w',Rel E γ0 γ N w0 s' a' w'->(k s').wp E.base Q->wpList E.P ops X rest a' w'):wpList E.P ops X (o::rest) a w:=by
 obtain⟨gd,hg⟩:∃ gd,o.guard=gd:=⟨_,rfl⟩
 obtain⟨dst,hd⟩:∃ d,o.dst=d:=⟨_,rfl⟩
 unfold opAt at hx;rw[hg,hd]at hx
 split at hx
 ·exact opGo_ok G hx R (by unfold Region.wanted;rw[hg]) cont
 ·rename_i j b
  have skip:∀ {d:Nat},o.dst=some d->Region.wanted o (yielded ops a.tmps)=false->(k (s.put d none)).wp E.base Q->wpList E.P ops X (o::rest) a w:=fun hd hw h =>
   wpList_skip hw (by rw[hd];exact cont _ _ _ _ R.forget h)
  split at hx
  ·rename_i d t hk
   split at hx
   ·obtain⟨e,he,hl⟩:=Option.bind_eq_some_iff.1 hk
    have hv:=(R.k _ _ hl).1
    split at hx
    ·rename_i htb
     subst htb;exact opGo_ok G hx R (wanted_of hg he hv) cont
    ·rename_i htb
     exact skip hd (unwanted_of hg he hv (by cases t <;> cases b <;> first | rfl | exact absurd rfl htb)) hx
   ·cases hx
  ·rename_i d gx _ hk
   split at hx
   ·rename_i hdN
    obtain⟨e',he,hl⟩:=Option.bind_eq_some_iff.1 hk;have hv:=(R.k _ _ hl).1
    split at hx
    ·rename_i e hge
     have hw:=wanted_eff hg he hv hge
     split at hx
     ·rename_i r p hr
      split at hx
      ·rename_i hlt
       obtain⟨hp,hk⟩:=needs_wp hx;have hp1:e=true->All p:=underG_ok fun q hq=>hp q (List.mem_append_left _ hq);have hp2:All (condG e (look s.S) (tmpsOf o)):=fun q hq=>hp q (List.mem_append_right _ hq);cases e with
       | true =>
        have hk':Holds γ s.n (lkG (look s.S) (tmpsOf o)) a:=fun u y hy=>by
         obtain⟨z,h1,h2,h3,h4⟩:=lkG_ok (γ:=γ) (n:=s.n) hy hp2 rfl;have:=R.k u z h1;exact⟨this.1.trans h4,h2 this.2.1,h3 this.2.2⟩
        have hok:=valS_okay G R.base (fun u y hy=>(hk' u y hy).2) (fun r hr=>⟨(R.m r hr).1,(R.m r hr).2.1⟩) hr (hp1 rfl);refine(valS_ok G R hk' hr (hp1 rfl) hw fun w' hb=>?_).2;have h:=(R.put (x:=.gd true r) hdN (fun _=>hok) hlt).below hb;rw[hd];exact cont _ _ _ _ h hk
       | false =>
        exact wpList_skip hw (by rw[hd];exact cont _ _ _ _ (R.forgetTo hdN rfl hlt) hk)
      ·cases hx
     ·cases e with
      | true=>exact opGo_ok G (hx.1 rfl) R hw cont
      | false=>exact skip hd hw (hx.2 rfl)
    ·cases hx
   ·cases hx
  ·cases hx
theorem seqX_ok(G:E.Good γ0 w0):∀ {l:List Oper} {s:St} {a:Act} {w:World} {γ:Pl} {k:St->Tr},(seqX E N (fun j=>(ops[j]?).bind (·.dst)) l s k).wp E.base Q->Rel E γ0 γ N w0 s a w ->
  (∀ γ s' a' w',Rel E γ0 γ N w0 s' a' w'->(k s').wp E.base Q->X .normal a' w')->wpList E.P ops X l a w
 | [],_,_,_,_,_,hx,R,cont=>wpList_nil (cont _ _ _ _ R hx)
 | _::_,_,_,_,_,_,hx,R,cont=>opAt_ok G hx R fun _ _ _ _ R' hk=>seqX_ok G hk R' cont
end
end Go.Proofs.YtfmpjjhdocejiaaGreat.Sy
namespace Go.Proofs.YtfmpjjhdocejiaaGreat.Sy
open Go.RowKit
structure Ef where
 d:Option (Nat × Option SV)
 R:Rows
 st:Option (Nat × SV)
def SV.ids:SV->List Nat
 | .p g _ _ _=>[g]
 | .s g _ _ _=>[g]
 | .ap h t=>h.ids++t.ids
 | .tu x y=>x.ids++y.ids
 | .gd _ x=>x.ids
 | _=>[]
def forceN{α:Type}(m:Nat)(k:Nat->α):α:=match m with
 | 0=>k 0
 | n+1=>k (n+1)
def lookN:List (Nat × Nat)->Nat->Nat
 | [],_=>0
 | p::l,t=>if p.1=t then p.2 else lookN l t
def maskOf(acc:List (Nat × Nat)):List Edge->Nat
 | []=>0
 | e::es=>if Region.binds .any e=true then ((1 <<< e.on) ||| lookN acc e.on) ||| maskOf acc es else maskOf acc es
def masksA:List Oper->Nat->List (Nat × Nat)->List (Nat × Nat)
 | [],_,acc=>acc
 | o::l,i,acc=>masksA l (i+1) ((i,maskOf acc o.after.toList)::acc)
def masksK{α:Type}:List Oper->Nat->List (Nat × Nat)->(List (Nat × Nat)->α)->α
 | [],_,acc,k=>k acc
 | o::l,i,acc,k=>forceN (maskOf acc o.after.toList) fun m=>masksK l (i+1) ((i,m)::acc) k
def curD(D:Nat->Bool)(g:Nat):Nat->List Ef->SV->SV
 | _,[],c=>c
 | i,e::l,c=>curD D g (i+1) l (match e.st with
  | some q=>if q.1=g/\D i=true then q.2 else c
  | none=>c)
def madeD(D:Nat->Bool):Nat->List Ef->Rows
 | _,[]=>[]
 | i,e::l=>(if D i=true then e.R else [])++madeD D (i+1) l
def rowsD(D:Nat->Bool)(es:List Ef)(M:Rows):Rows:=(madeD D 0 es++M).map fun r=>(r.1,curD D r.1 0 es r.2.1,r.2.2)
def stableB(m g:Nat):Nat->List Ef->Bool
 | _,[]=>true
 | i,e::l=>(match e.st with
  | some q=>q.1 != g||m.testBit i
  | none=>true)&&stableB m g (i+1) l
def readsM:Op->Bool
 | .load _ _=>true
 | .store _ _ _=>true
 | .call _=>true
 | _=>false
def seenM(m:Nat)(o:Oper)(es:List Ef)(M:Rows):Rows:=if readsM o.op=true then (rowsD (fun i=>m.testBit i) es M).filter fun r=>stableB m r.1 0 es else []
def dstIx:List Oper->Nat->Option Nat
 | [],_=>none
 | o::l,t=>if o.dst=some t then some 0 else (dstIx l t).map (·+1)
def lkW(l:List Oper)(m:Nat)(es:List Ef)(S:List (Nat × Option SV))(t:Nat):Option SV:=match dstIx l t with
 | none=>look S t
 | some j=>if m.testBit j=true then (es[j]?).bind fun e=>e.d.bind (·.2)else none
def effGo(E:Env)(N nx:Nat)(lk:Nat->Option SV)(M:Rows)(o:Oper):Option (Ef × List Ob) :=
 match o.op,o.dst with
 | .store T x y,none=>match opnd lk x,opnd lk y,tyIn T E.tys with
  | some (.p g off _ z),some v,some ty=>if z=0/\v.plain=true/\v.size=ty.sz then match rowIn g M with
   | some r=>(SV.put v off r.1).map fun c=>(⟨none,[],some (g,c)⟩,[])
   | none=>none
   else none
  | _,_,_=>none
 | .alloc T,some d=>match tyIn T E.tys with
  | some ty=>if d<N then some (⟨some (d,some (.p nx 0 0 0)),[(nx,ty.zero,T)],none⟩,[])else none
  | none=>none
 | .box T x,some d=>match opnd lk x with
  | some v=>if d<N/\v.plain=true then some (⟨some (d,some (.p nx 0 0 0)),[(nx,v,T)],none⟩,[])else none
  | none=>none
 | .buildSlice T n parts,some d=>match bsIn T n E.bss,partsOf lk parts.toList with
  | some b,some l=>if d<N/\l.all (fun x=>decide (x.1<n)&&(x.2.one||x.2.many))=true then match fillS ((List.range n).map fun i=>(i*b.sz,b.sz)) b.zs l with
   | some r=>some (⟨some (d,some (.s nx 0 n n)),[(nx,r,b.e)],none⟩,[])
   | none=>none
   else none
  | _,_=>none
 | .call c,some d=>match c.callee with
  | .value (.func f)=>match opnds lk c.args.toList with
   | some l=>match E.ctr f nx M l with
    | some (r,p,R)=>if d<N then some (⟨some (d,some r),R,none⟩,p)else none
    | none=>none
   | none=>none
  | _=>match opVal E lk M (.call c)with
   | some (r,p)=>if d<N then some (⟨some (d,some r),[],none⟩,p)else none
   | none=>none
 | op,some d=>match opVal E lk M op with
  | some (r,p)=>if d<N then some (⟨some (d,some r),[],none⟩,p)else none
  | none=>none
 | _,_=>none
def effAt(E:Env)(N nx:Nat)(gs:Option SV)(lk:Nat->Option SV)(M:Rows)(o:Oper):Option (Ef × List Ob):=match o.guard with
 | none=>effGo E N nx lk M o
 | some (_,b)=>match gs with
  | some (.v (.bool t))=>if t=b then effGo E N nx lk M o else match o.dst with
   | some d=>if d<N then some (⟨some (d,none),[],none⟩,[])else none
   | none=>some (⟨none,[],none⟩,[])
  | some gx=>match gEff b gx,effGo E N nx (lkG lk (tmpsOf o)) M o with
   | some e,some (⟨some (d,some x),[],none⟩,p)=>if x.lt (nx+8)=true then some (⟨some (d,some (.gd e x)),[],none⟩,underG e p++condG e lk (tmpsOf o))else none
   | _,_=>none
  | none=>none
def gsl(l:List Oper)(lk:Nat->Option SV)(o:Oper):Option SV:=o.guard.bind fun q=>((l[q.1]?).bind (·.dst)).bind lk
def idOk(n0 k m g:Nat):Bool:=decide (g<n0)||(decide ((g - n0) / 8=k)||m.testBit ((g - n0) / 8))
def usedBy(l:List Oper)(ms:List (Nat × Nat))(es:List Ef)(M:Rows)(g i:Nat):Bool:=match l[i]? with
 | some o=>(seenM (lookN ms i) o (es.take i) M).any fun r=>r.1 == g
 | none=>false
def okEf(n0:Nat)(l:List Oper)(ms:List (Nat × Nat))(es:List Ef)(M:Rows)(k:Nat)(e:Ef):Bool :=
 ((match e.d with
  | some (_,some x)=>x.ids.all (idOk n0 k (lookN ms k))
  | _=>true)&&e.R.all fun r=>r.2.1.ids.all (idOk n0 k (lookN ms k)))&&(decide (e.R.length<=8)&&match e.st with
  | some (g,c)=>c.ids.all (idOk n0 k (lookN ms k))&&(List.range k).all fun i=>!usedBy l ms es M g i||(lookN ms k).testBit i
  | none=>true)
def passX(E:Env)(N:Nat)(l:List Oper)(ms:List (Nat × Nat))(s:St):List Oper->List Ef->List Ob->Option (List Ef × List Ob)
 | [],es,ps=>some (es,ps)
 | o::r,es,ps=>match effAt E N (s.n+8*es.length) (gsl l (lkW l (lookN ms es.length) es s.S) o) (lkW l (lookN ms es.length) es s.S) (seenM (lookN ms es.length) o es s.M) o with
  | some (e,p)=>if okEf s.n l ms es s.M es.length e=true then passX E N l ms s r (es++[e]) (ps++p)else none
  | none=>none
def slotsE:List Ef->List (Nat × Option SV)
 | []=>[]
 | e::l=>match e.d with
  | some p=>p::slotsE l
  | none=>slotsE l
def afterD(es:List Ef)(s:St):St:=⟨slotsE es++s.S,rowsD (fun _=>true) es s.M,s.n+8*es.length⟩
def nodupB:List Nat->Bool
 | []=>true
 | x::l=>!l.contains x&&nodupB l
def drawX(E:Env)(N:Nat)(l:List Oper)(s:St)(k:St->Tr):Tr:=masksK l 0 [] fun ms=>match passX E N l ms s l [] []with
 | some (es,ps)=>if distinctB l=true/\rankB l.toArray (fun i=>i)=true/\nodupB ((rowsD (fun _=>true) es s.M).map (·.1))=true then needs ps (k (afterD es s))else .bad
 | none=>.bad
/-! The tables. -/
section
variable {E:Env} {γ0 γ γs δ:Pl} {N nx:Nat} {w0 ws w w' wx:World} {s:St} {a a0:Act} {o:Oper} {l:List Oper} {es:List Ef} {D D':Nat->Bool}
theorem forceN_eq{α:Type}(m:Nat)(k:Nat->α):forceN m k=k m:=by cases m <;> rfl
theorem masksK_eq{α:Type}:∀(l:List Oper) (i:Nat) (acc:List (Nat × Nat)) (k:List (Nat × Nat)->α),masksK l i acc k=k (masksA l i acc)
 | [],_,_,_=>rfl
 | o::l,i,acc,k=>by
  unfold masksK masksA;rw[forceN_eq];exact masksK_eq l (i+1) _ k
theorem mask_spec{acc:List (Nat × Nat)}{j:Nat}:∀ {es:List Edge},(maskOf acc es).testBit j=true->∃ e∈es,Region.binds .any e=true/\(j=e.on\/(lookN acc e.on).testBit j=true)
 | [],h=>by simp[maskOf]at h
 | e::es,h=>by
  unfold maskOf at h
  split at h
  ·rename_i hb
   rw[Nat.testBit_or,Nat.testBit_or,Bool.or_eq_true,Bool.or_eq_true]at h;rcases h with(h | h) | h
   ·refine⟨e,.head _,hb,.inl ?_⟩
    rw[Nat.shiftLeft_eq,Nat.one_mul,Nat.testBit_two_pow]at h;exact(of_decide_eq_true h).symm
   ·exact⟨e,.head _,hb,.inr h⟩
   ·obtain⟨e',h1,h2⟩:=mask_spec h
    exact⟨e',.tail _ h1,h2⟩
  ·obtain⟨e',h1,h2⟩:=mask_spec h
   exact⟨e',.tail _ h1,h2⟩
theorem masks_keep:∀ {l:List Oper} {i:Nat} {acc:List (Nat × Nat)} {t:Nat},t<i->lookN (masksA l i acc) t=lookN acc t
 | [],_,_,_,_=>rfl
 | o::l,i,acc,t,h=>by
  unfold masksA;rw[masks_keep (Nat.lt_succ_of_lt h)];show(if i=t then _ else _)=_;rw[if_neg (Nat.ne_of_gt h)]
theorem masks_spec:∀ {l:List Oper} {i:Nat} {acc:List (Nat × Nat)},(∀ t,i<=t->lookN acc t=0)->∀(k:Nat) o,l[k]?=some o->∀ j,(lookN (masksA l i acc) (i+k)).testBit j=true->∃ e∈o.after,Region.binds .any e=true/\(j=e.on\/(lookN (masksA l i acc) e.on).testBit j=true)
 | [],_,_,_,k,o,h,_,_=>by cases h
 | o::l,i,acc,h0,0,o',h,j,hj=>by
  cases h;unfold masksA at hj |-
  have hj:(lookN (masksA l (i+1) ((i,maskOf acc o.after.toList)::acc)) i).testBit j=true:=hj;rw[masks_keep (show i<i+1 by omega)]at hj;have hj':(maskOf acc o.after.toList).testBit j=true:=by
   have e:lookN ((i,maskOf acc o.after.toList)::acc) i=maskOf acc o.after.toList:=by
    show(if i=i then _ else _)=_;rw[if_pos rfl]
   rwa [e]at hj
  obtain⟨e,h1,h2,h3⟩:=mask_spec hj';refine⟨e,by simpa using h1,h2,h3.imp id fun h4=>?_⟩;rcases Nat.lt_or_ge e.on i with hlt | hge
  ·rw[masks_keep (Nat.lt_succ_of_lt hlt)]
   show(if i=e.on then _ else lookN acc e.on).testBit j=true;rw[if_neg (Nat.ne_of_gt hlt)];exact h4
  ·rw[h0 _ hge]at h4
   simp at h4
 | o::l,i,acc,h0,k+1,o',h,j,hj=>by
  unfold masksA at hj |-
  rw[show i+(k+1)=i+1+k by omega]at hj;exact masks_spec (i:=i+1) (fun t ht=>by
   show(if i=t then _ else lookN acc t)=0;rw[if_neg (by omega),h0 t (by omega)]) k o' (by simpa using h) j hj
theorem SV.ids_same{γ δ:Pl}:∀ {x:SV},(∀ g∈x.ids,γ g=δ g)->x.sc γ=x.sc δ/\x.cells γ=x.cells δ/\x.val γ=x.val δ
 | .w _,_ | .e,_ | .b _,_ | .i _ _,_ | .na _,_ | .v _,_=>⟨rfl,rfl,rfl⟩
 | .p g _ _ _,h=>by
  have hg:=h g (.head _);refine⟨?_,?_,?_⟩ <;> simp only[SV.sc,SV.cells,SV.val,hg]
 | .s g _ _ _,h=>by
  have hg:=h g (.head _);refine⟨?_,?_,?_⟩ <;> simp only[SV.sc,SV.cells,SV.val,hg]
 | .ap a t,h=>by
  obtain⟨_,h1,_⟩:=ids_same (x:=a) fun g hg=>h g (List.mem_append_left _ hg);obtain⟨_,h2,_⟩:=ids_same (x:=t) fun g hg=>h g (List.mem_append_right _ hg);refine⟨rfl,?_,?_⟩
  ·simp only[SV.cells,h1,h2]
  ·simp only[SV.val,h1,h2]
 | .tu a t,h=>by
  obtain⟨_,_,h1⟩:=ids_same (x:=a) fun g hg=>h g (List.mem_append_left _ hg);obtain⟨_,_,h2⟩:=ids_same (x:=t) fun g hg=>h g (List.mem_append_right _ hg);exact⟨rfl,rfl,by simp only[SV.val,h1,h2]⟩
 | .gd t x,h=>by
  obtain⟨_,_,h1⟩:=ids_same (x:=x) h;exact⟨rfl,rfl,by simp only[SV.val,h1]⟩
theorem SV.lt_ids{n:Nat}:∀ {x:SV},x.lt n=true->∀ g∈x.ids,g<n
 | .w _,_,g,h | .e,_,g,h | .b _,_,g,h | .i _ _,_,g,h | .na _,_,g,h | .v _,_,g,h=>by cases h
 | .p _ _ _ _,hl,g,h=>by
  cases h with
  | head=>exact of_decide_eq_true hl
  | tail _ h=>cases h
 | .s _ _ _ _,hl,g,h=>by
  cases h with
  | head=>exact of_decide_eq_true hl
  | tail _ h=>cases h
 | .ap a t,hl,g,h=>by
  simp only[SV.lt,Bool.and_eq_true]at hl;rcases List.mem_append.1 h with h | h
  ·exact lt_ids hl.1 g h
  ·exact lt_ids hl.2 g h
 | .tu a t,hl,g,h=>by
  simp only[SV.lt,Bool.and_eq_true]at hl;rcases List.mem_append.1 h with h | h
  ·exact lt_ids hl.1 g h
  ·exact lt_ids hl.2 g h
 | .gd t x,hl,g,h=>lt_ids (x:=x) hl g h
theorem made_mem{r:Nat × SV × TypeId}:∀ {es:List Ef} {i:Nat},r∈madeD D i es↔∃(j:Nat) (e:Ef),es[j]?=some e/\D (i+j)=true/\r∈e.R
 | [],i=>⟨fun h=>(by cases h),fun⟨j,e,h,_⟩=>(by cases h)⟩
 | e::es,i=>by
  unfold madeD;rw[List.mem_append];refine⟨fun h=>?_,fun⟨j,e',h1,h2,h3⟩=>?_⟩
  ·rcases h with h | h
   ·split at h
    ·rename_i hd
     exact⟨0,e,rfl,hd,h⟩
    ·cases h
   ·obtain⟨j,e',h1,h2,h3⟩:=made_mem.1 h
    exact⟨j+1,e',by simpa using h1,by rw[show i+(j+1)=i+1+j by omega];exact h2,h3⟩
  ·cases j with
   | zero =>
    cases h1;rw[Nat.add_zero]at h2;exact .inl (by rw[if_pos h2];exact h3)
   | succ j=>exact .inr (made_mem.2 ⟨j,e',by simpa using h1,by rw[show i+1+j=i+(j+1) by omega];exact h2,h3⟩)
theorem cur_ext{g:Nat}:∀ {es:List Ef} {i:Nat} {c:SV},(∀(j:Nat) (e:Ef) q,es[j]?=some e->e.st=some q->q.1=g->D (i+j)=D' (i+j))->curD D g i es c=curD D' g i es c
 | [],_,_,_=>rfl
 | e::es,i,c,h=>by
  unfold curD;have hx:(match e.st with
    | some q=>if q.1=g/\D i=true then q.2 else c
    | none=>c)=(match e.st with
    | some q=>if q.1=g/\D' i=true then q.2 else c
    | none=>c):=by
   cases hs:e.st with
   | none=>rfl
   | some q =>
    dsimp only;by_cases hq:q.1=g
    ·have:=h 0 e q rfl hs hq
     rw[Nat.add_zero]at this;rw[this]
    ·rw[if_neg (fun c=>hq c.1),if_neg (fun c=>hq c.1)]
  rw[hx];exact cur_ext fun j e' q h1 h2 h3=>by
   have:=h (j+1) e' q (by simpa using h1) h2 h3;rwa [show i+(j+1)=i+1+j by omega]at this
theorem cur_take{g:Nat}:∀ {es:List Ef} {i k:Nat} {c:SV},curD D g i (es.take k) c=curD (fun j=>D j&&decide (j<i+k)) g i es c
 | [],_,_,_=>by rw[List.take_nil];rfl
 | e::es,i,0,c=>by
  rw[List.take_zero];have:∀(es:List Ef) (m:Nat) (c:SV),i<=m->curD (fun j=>D j&&decide (j<i+0)) g m es c=c:=by
   intro es
   induction es with
   | nil=>intro m c _;rfl
   | cons e es ih =>
    intro m c hm;unfold curD;rw[ih _ _ (Nat.le_succ_of_le hm)];cases hs:e.st with
    | none=>rfl
    | some q =>
     dsimp only;rw[if_neg];intro h;have h2:=h.2;rw[Bool.and_eq_true]at h2;have:=of_decide_eq_true h2.2;omega
  exact(this _ _ _ (Nat.le_refl _)).symm
 | e::es,i,k+1,c=>by
  rw[List.take_succ_cons];unfold curD;rw[cur_take (es:=es)];have e1:(fun j=>D j&&decide (j<i+1+k))=fun j=>D j&&decide (j<i+(k+1)):=by
   funext j
   rw[show i+1+k=i+(k+1) by omega]
  rw[e1];congr 1;cases hs:e.st with
  | none=>rfl
  | some q =>
   dsimp only;have:(D i&&decide (i<i+(k+1)))=D i:=by rw[decide_eq_true (by omega),Bool.and_true]
   rw[this]
theorem cur_mem{g:Nat}:∀ {es:List Ef} {i:Nat} {c:SV},curD D g i es c=c\/∃(j:Nat) (e:Ef),es[j]?=some e/\D (i+j)=true/\e.st=some (g,curD D g i es c)
 | [],_,_=>.inl rfl
 | e::es,i,c=>by
  unfold curD;rcases cur_mem (es:=es) (i:=i+1) (c:=match e.st with
    | some q=>if q.1=g/\D i=true then q.2 else c
    | none=>c)with h | ⟨j,e',h1,h2,h3⟩
  ·rw[h]
   cases hs:e.st with
   | none=>exact .inl rfl
   | some q =>
    dsimp only;by_cases hq:q.1=g/\D i=true
    ·rw[if_pos hq]
     exact .inr ⟨0,e,rfl,hq.2,by rw[hs,<- hq.1]⟩
    ·rw[if_neg hq]
     exact .inl rfl
  ·exact .inr ⟨j+1,e',by simpa using h1,by rw[show i+(j+1)=i+1+j by omega];exact h2,h3⟩
theorem cur_last{g:Nat}{c':SV}:∀ {es:List Ef} {i k:Nat} {c:SV} {e:Ef},es[k]?=some e->e.st=some (g,c')->D (i+k)=true->(∀(j:Nat) (f:Ef) q,k<j->es[j]?=some f->f.st=some q->q.1=g->D (i+j)=false)->curD D g i es c=c'
 | [],_,_,_,_,h,_,_,_=>by cases h
 | f::es,i,0,c,e,h,hs,hd,hn=>by
  cases h;unfold curD;rw[hs];dsimp only;rw[if_pos ⟨rfl,hd⟩];have:curD D g (i+1) es c'=curD (fun _=>false) g (i+1) es c':=cur_ext fun j f q h1 h2 h3=>by
   have:=hn (j+1) f q (Nat.succ_pos _) (by simpa using h1) h2 h3;rwa [show i+(j+1)=i+1+j by omega]at this
  rw[this];rcases cur_mem (D:=fun _=>false) (g:=g) (es:=es) (i:=i+1) (c:=c')with h | ⟨_,_,_,h,_⟩
  ·exact h
  ·cases h
 | f::es,i,k+1,c,e,h,hs,hd,hn=>by
  unfold curD;refine cur_last (k:=k) (by simpa using h) hs (by rw[show i+1+k=i+(k+1) by omega];exact hd) fun j f' q hj h1 h2 h3=>?_;have:=hn (j+1) f' q (Nat.succ_lt_succ hj) (by simpa using h1) h2 h3;rwa [show i+(j+1)=i+1+j by omega]at this
theorem stable_spec{m g:Nat}:∀ {es:List Ef} {i:Nat},stableB m g i es=true->∀(j:Nat) (e:Ef) q,es[j]?=some e->e.st=some q->q.1=g->m.testBit (i+j)=true
 | [],_,_,_,_,_,h,_,_=>by cases h
 | f::es,i,hB,0,e,q,h,hs,hq=>by
  cases h;unfold stableB at hB;rw[Bool.and_eq_true,hs]at hB;have:=hB.1;dsimp only at this;rw[Bool.or_eq_true]at this;rcases this with h | h
  ·rw[hq]at h;simp at h
  ·exact h
 | f::es,i,hB,j+1,e,q,h,hs,hq=>by
  unfold stableB at hB;rw[Bool.and_eq_true]at hB;have:=stable_spec hB.2 j e q (by simpa using h) hs hq;rwa [show i+(j+1)=i+1+j by omega]
theorem dstIx_none:∀ {l:List Oper} {t:Nat},dstIx l t=none->∀(i:Nat) o,l[i]?=some o->o.dst≠some t
 | [],_,_,_,_,h=>by cases h
 | o::l,t,h,i,o',hi=>by
  unfold dstIx at h
  split at h
  ·cases h
  ·rename_i e
   cases i with
   | zero=>cases hi;exact e
   | succ i=>exact dstIx_none (l:=l) (by cases hq:dstIx l t with
    | none=>rfl
    | some j=>rw[hq]at h;cases h) i o' (by simpa using hi)
theorem dstIx_some:∀ {l:List Oper} {t j:Nat},dstIx l t=some j->∃ o,l[j]?=some o/\o.dst=some t
 | [],_,_,h=>by cases h
 | o::l,t,j,h=>by
  unfold dstIx at h
  split at h
  ·rename_i e
   cases h;exact⟨o,rfl,e⟩
  ·cases hq:dstIx l t with
   | none=>rw[hq]at h;cases h
   | some i =>
    rw[hq]at h;cases h;obtain⟨q,h1,h2⟩:=dstIx_some hq;exact⟨q,by simpa using h1,h2⟩
end
end Go.Proofs.YtfmpjjhdocejiaaGreat.Sy
namespace Go.Proofs.YtfmpjjhdocejiaaGreat.Sy
open Go.RowKit
section
variable {E:Env} {γ0 γ γs δ:Pl} {N nx:Nat} {w0 ws w w' wx:World} {s:St} {a a0:Act} {o:Oper} {l:List Oper} {es:List Ef} {D D':Nat->Bool} {lk:Nat->Option SV} {M:Rows} {e:Ef} {p:List Ob} {P:Program} {K:Act->World->Prop} {X:Exit->Act->World->Prop}
theorem ow_value{v:Value}(hr:(execOp a.eval o).run P w=.ok (.value v) w')(h:K (a.put o.dst v) w'):o.wp P a w K X:=by
 unfold Oper.wp;rw[hr];exact h
theorem ow_unit(hr:(execOp a.eval o).run P w=.ok .skip w')(h:K (a.put o.dst undef) w'):o.wp P a w K X:=by
 unfold Oper.wp;rw[hr];exact h
theorem ow_made{f:FuncId}{args:Array Value}{Z:Ending->World->Prop}(hr:(execOp a.eval o).run P w=.ok (.enter f args) w)
  (hc:Calls P f args w Z) (h:∀ e w',Z e w'->∃ v,e=.returned v/\K (a.put o.dst v) w'):o.wp P a w K X:=by
 unfold Oper.wp;rw[hr];refine Calls.mono hc ?_;intro e w' hz;obtain⟨v,rfl,hh⟩:=h e w' hz;exact hh
structure OutE (nx:Nat) (γ δ:Pl) (M:Rows) (e:Ef) (v:Value) (w w':World):Prop where
 d:∀ t x,e.d=some (t,some x)->v=x.val δ/\x.ok/\x.lt (nx+8)=true
 R:∀ q∈e.R,q.2.1.ok/\q.2.1.lt (nx+8)=true/\nx<=q.1/\q.1<nx+8/\w.heap.size<=δ q.1/\w'.heap[δ q.1]?=some (.cells (q.2.1.cells δ).toArray q.2.2 (0,0))
 P:e.R.Pairwise fun p q=>δ p.1≠δ q.1
 n:e.st=none->Below w.heap.size w w'
 s:∀ g c,e.st=some (g,c)->e.R=[]/\c.ok/\c.lt nx=true/\(∃ y T,(g,y,T)∈M)/\w'=w.setRow (γ g) (c.cells γ).toArray
theorem OutE.val{d:Nat}{x:SV}(ho:x.ok)(hl:x.lt (nx+8)=true)(hb:Below w.heap.size w w'):OutE nx γ γ M ⟨some (d,some x),[],none⟩ (x.val γ) w w' :=
 ⟨fun t y h=>by cases h;exact⟨rfl,ho,hl⟩,fun q hq=>(by cases hq),.nil,fun _=>hb,fun g c h=>(by cases h)⟩
theorem OutE.one{d:Nat}{x y:SV}{T:TypeId}(hδ:∀ k,δ k=if k=nx then w.heap.size else γ k)(ho:x.ok)(hl:x.lt (nx+1)=true)(hy:y.ok)(hly:y.lt nx=true):OutE nx γ δ M ⟨some (d,some x),[(nx,y,T)],none⟩ (x.val δ) w (w.alloc (.cells (y.cells γ).toArray T)):=by
 have e:∀ k,k<nx->γ k=δ k:=fun k hk=>by rw[hδ,if_neg (by omega)]
 refine⟨fun t z h=>by cases h;exact⟨rfl,ho,SV.lt_mono (by omega) hl⟩,fun q hq=>?_,List.pairwise_singleton _ _,fun _=>(Below.refl _ _).alloc (Nat.le_refl _) _,fun g c h=>(by cases h)⟩;simp only[List.mem_cons,List.not_mem_nil,or_false]at hq;subst hq;refine⟨hy,SV.lt_mono (by omega) hly,Nat.le_refl _,by omega,by rw[hδ,if_pos rfl];exact Nat.le_refl _,?_⟩;show(w.alloc _).heap[δ nx]?=some (.cells (y.cells δ).toArray T (0,0));rw[hδ,if_pos rfl,<- (SV.lt_same e hly).2.1];exact heap_alloc_new _ _
theorem eff_d(h:effGo E N nx lk M o=some (e,p)):∀ t y,e.d=some (t,y)->o.dst=some t/\t<N:=by
 intro t y hd;obtain⟨op,ho⟩:∃ op,o.op=op:=⟨_,rfl⟩
 obtain⟨dst,hdst⟩:∃ d,o.dst=d:=⟨_,rfl⟩
 unfold effGo at h;rw[ho,hdst]at h;rw[hdst]
 split at h
 ·split at h
  ·split at h
   ·split at h
    ·rename_i r _
     cases hp:SV.put _ _ r.1 with
     | none=>rw[hp]at h;cases h
     | some c=>rw[hp]at h;cases h;cases hd
    ·cases h
   ·cases h
  ·cases h
 ·split at h
  ·split at h
   ·rename_i hN
    cases h;cases hd;exact⟨rfl,hN⟩
   ·cases h
  ·cases h
 ·split at h
  ·split at h
   ·rename_i hN
    cases h;cases hd;exact⟨rfl,hN.1⟩
   ·cases h
  ·cases h
 ·split at h
  ·split at h
   ·rename_i hN
    split at h
    ·cases h;cases hd;exact⟨rfl,hN.1⟩
    ·cases h
   ·cases h
  ·cases h
 ·split at h
  ·split at h
   ·split at h
    ·split at h
     ·rename_i hN
      cases h;cases hd;exact⟨rfl,hN⟩
     ·cases h
    ·cases h
   ·cases h
  ·split at h
   ·split at h
    ·rename_i hN
     cases h;cases hd;exact⟨rfl,hN⟩
    ·cases h
   ·cases h
 ·split at h
  ·split at h
   ·rename_i hN
    cases h;cases hd;exact⟨rfl,hN⟩
   ·cases h
  ·cases h
 ·cases h
theorem effGo_ok(G:E.Good γ0 w0)(hA:Agree E γ0 γ)(hb:E.base<=nx)(hk:Holds γ nx lk a)(hM:Lies γ nx M w)(hB:Below w0.heap.size w0 w)(h:effGo E N nx lk M o=some (e,p))(hp:All p)(hR:e.R.length<=8)
  (hK:∀ δ v w',(∀ g,g<nx->δ g=γ g)->OutE nx γ δ M e v w w'->K (a.put o.dst v) w'):o.wp E.P a w K X:=by
 obtain⟨op,ho⟩:∃ op,o.op=op:=⟨_,rfl⟩
 obtain⟨dst,hd⟩:∃ d,o.dst=d:=⟨_,rfl⟩
 have value:∀ {d:Nat} {r:SV} {p:List Ob},opVal E lk M o.op=some (r,p)->All p->e=⟨some (d,some r),[],none⟩->o.wp E.P a w K X:=fun hr hp he=>by
  have q:=opVal_ok G hA hb hk hM hB hr hp;exact ow_value q.1 (hK γ _ w (fun _ _=>rfl) (by rw[he];exact OutE.val q.2.1 (SV.lt_mono (Nat.le_add_right _ _) q.2.2) (Below.refl _ _)))
 unfold effGo at h;rw[ho,hd]at h
 split at h
 ·rename_i T x y
  split at h
  ·rename_i g off j z v ty hx1 hy1 ht
   split at h
   ·rename_i hh
    obtain⟨rfl,hv,hz⟩:=hh
    split at h
    ·rename_i r hr
     cases hput:SV.put v off r.1 with
     | none=>rw[hput]at h;cases h
     | some c =>
      rw[hput]at h;cases h;have q1:=opnd_ok hk hx1;have q2:=opnd_ok hk hy1;have tg:=(G.tys _ (tyIn_ok ht).1).sz;rw[(tyIn_ok ht).2,<- hz]at tg;have hm:=hM _ (rowIn_ok hr);have hst:=store_ok (P:=E.P) hm.1 tg hput hv;have pk:=SV.put_ok γ hput;refine ow_unit (w':=w.setRow (γ g) (c.cells γ).toArray) ?_ (hK γ _ _ (fun _ _=>rfl) ⟨fun t y h=>(by cases h),fun q hq=>(by cases hq),.nil,fun h=>(by cases h),fun g' c' h=>?_⟩)
      ·unfold execOp
       rw[ho];have e:a.eval x=.pointer (some ⟨γ g,off,none⟩):=by
        rw[q1.1];show Value.pointer (some ⟨γ g,off+j*0,none⟩)=_;rw[Nat.mul_zero,Nat.add_zero]
       simp only[e,q2.1,Sem.run_bind,hst,Result.andThen_ok,Sem.run_pure]
      ·cases h
       exact⟨rfl,pk.ok hm.2.1 q2.2.1,pk.lt _ hm.2.2 q2.2.2,⟨_,_,rowIn_ok hr⟩,rfl⟩
    ·cases h
   ·cases h
  ·cases h
 ·rename_i T d
  split at h
  ·rename_i ty ht
   split at h
   ·cases h
    have tg:=G.tys _ (tyIn_ok ht).1;obtain⟨δ,hδ⟩:∃ δ:Pl,∀ k,δ k=if k=nx then w.heap.size else γ k:=⟨_,fun _=>rfl⟩
    have hz:=tg.zero;rw[(tyIn_ok ht).2,(SV.lt_same (γ:=fun _=>0) (δ:=γ) (n:=0) (fun k hk=>absurd hk (Nat.not_lt_zero _)) tg.zlt).2.1]at hz;refine ow_value (v:=.pointer (some ⟨w.heap.size,0,none⟩)) (w':=w.alloc (.cells (ty.zero.cells γ).toArray T)) ?_ (hK δ _ _ (fun k hk=>by rw[hδ,if_neg (by omega)]) ?_)
    ·unfold execOp
     rw[ho];cases hi:E.P.info? T with
     | none=>rw[hi]at hz;cases hz
     | some it =>
      rw[hi]at hz;cases hzz:it.zero with
      | none=>rw[Option.bind_some,hzz]at hz;cases hz
      | some zv =>
       rw[Option.bind_some,hzz]at hz;have hz':zv.cells=(ty.zero.cells γ).toArray:=Option.some.inj hz;simp[Instr.alloc,zeroValue,typeInfo,hi,hzz,newVar,newRow,hz']
    ·have:=OutE.one (M:=M) (d:=d) (x:=.p nx 0 0 0) (T:=T) hδ trivial (decide_eq_true (Nat.lt_succ_self _)) tg.zok (SV.lt_mono (Nat.zero_le _) tg.zlt)
     have q:(SV.p nx 0 0 0).val δ=.pointer (some ⟨w.heap.size,0,none⟩):=by
      show Value.pointer (some ⟨δ nx,0+0*0,none⟩)=_;rw[hδ,if_pos rfl]
     rwa [q]at this
   ·cases h
  ·cases h
 ·rename_i T x d
  split at h
  ·rename_i v hv
   split at h
   ·rename_i hh
    cases h;have q:=opnd_ok hk hv;obtain⟨δ,hδ⟩:∃ δ:Pl,∀ k,δ k=if k=nx then w.heap.size else γ k:=⟨_,fun _=>rfl⟩
    refine ow_value (v:=.pointer (some ⟨w.heap.size,0,none⟩)) (w':=w.alloc (.cells (v.cells γ).toArray T)) (run_box ho q.1 ?_) (hK δ _ _ (fun k hk=>by rw[hδ,if_neg (by omega)]) ?_)
    ·rcases SV.plain_any hh.2 with h1 | h1
     ·rw[SV.val_one h1,cells_one (SV.one_cell h1)]
     ·rw[SV.val_many h1]
      rfl
    ·have:=OutE.one (M:=M) (d:=d) (x:=.p nx 0 0 0) (T:=T) hδ trivial (decide_eq_true (Nat.lt_succ_self _)) q.2.1 q.2.2
     have q:(SV.p nx 0 0 0).val δ=.pointer (some ⟨w.heap.size,0,none⟩):=by
      show Value.pointer (some ⟨δ nx,0+0*0,none⟩)=_;rw[hδ,if_pos rfl]
     rwa [q]at this
   ·cases h
  ·cases h
 ·rename_i T n parts d
  split at h
  ·rename_i b l hb' hl
   split at h
   ·rename_i hc
    split at h
    ·rename_i r hr
     cases h;obtain⟨hbm,hbT,hbn⟩:=bsIn_ok hb';have bg:=G.bss _ hbm;have q:=partsOf_ok hk hl;have hall:=List.all_eq_true.1 hc.2;have hfo:=fillS_okay hr q.2 bg.ok (SV.lt_mono (Nat.zero_le _) bg.lt);obtain⟨δ,hδ⟩:∃ δ:Pl,∀ k,δ k=if k=nx then w.heap.size else γ k:=⟨_,fun _=>rfl⟩
     refine ow_value (v:=.slice (some ⟨w.heap.size,0,none⟩) n n) (w':=w.alloc (.cells (r.cells γ).toArray b.e)) ?_ (hK δ _ _ (fun k hk=>by rw[hδ,if_neg (by omega)]) ?_)
     ·have hfill:=fill_ok (γ:=γ) hr (fun x hx=>by have:=hall x hx;rw[Bool.and_eq_true]at this;exact this.2)
      have hz:=bg.z;rw[(SV.lt_same (γ:=fun _=>0) (δ:=γ) (n:=0) (fun k hk=>absurd hk (Nat.not_lt_zero _)) bg.lt).2.1]at hz;have hu:=bg.u;rw[hbT]at hu;have hfew:=of_decide_eq_false bg.few;have hpos:=of_decide_eq_false bg.pos;rw[hbn]at hz hfew hpos;cases hi:E.P.info? b.e with
      | none=>rw[hi]at hz;cases hz
      | some it =>
       have hs:=bg.i;rw[hi]at hz hs;have hs':it.size=b.sz:=Option.some.inj hs;cases hzz:it.zero with
       | none=>rw[Option.bind_some,hzz]at hz;cases hz
       | some zv =>
        rw[Option.bind_some,hzz]at hz;have hz':(Array.range (n*b.sz)).map (zv.cells[·%zv.cells.size]!)=(b.zs.cells γ).toArray:=Option.some.inj hz;have hfc:Instr.fill (fun i=>some (i*b.sz,b.sz)) (b.zs.cells γ).toArray (l.map fun x=>(x.1,x.2.val γ))=some (r.cells γ).toArray:=by
         rw[<- hfill];refine fill_congr fun x hx=>?_;obtain⟨y,hy,rfl⟩:=List.mem_map.1 hx;have hlt:y.1<n:=by
          have:=hall y hy;rw[Bool.and_eq_true]at this;exact of_decide_eq_true this.1
         simp[hlt]
        unfold execOp;rw[ho];have hrun:(Instr.buildSlice T n (parts.map fun(x:Nat × Operand)=>(x.1,a.eval x.2))).run E.P w=.ok (.slice (some ⟨w.heap.size,0,none⟩) n n) (w.alloc (.cells (r.cells γ).toArray b.e)):=by
         simp[Instr.buildSlice,run_underlying hu,sizeOf,typeInfo,hi,hs',hfew,hpos,zeroValue,hzz,hz',q.1,hfc,newRow]
        show(do let v <- Instr.buildSlice T n (parts.map fun(x:Nat × Operand)=>(x.1,a.eval x.2));pure (.value v):Sem Next).run E.P w=_;rw[Sem.run_bind,hrun,Result.andThen_ok,Sem.run_pure]
     ·have:=OutE.one (M:=M) (d:=d) (x:=.s nx 0 n n) (T:=b.e) hδ trivial (decide_eq_true (Nat.lt_succ_self _)) hfo.1 hfo.2
      have q:(SV.s nx 0 n n).val δ=.slice (some ⟨w.heap.size,0,none⟩) n n:=by
       show Value.slice (some ⟨δ nx,0,none⟩) n n=_;rw[hδ,if_pos rfl]
      rwa [q]at this
    ·cases h
   ·cases h
  ·cases h
 ·rename_i c d
  split at h
  ·rename_i f hf
   split at h
   ·rename_i l hl
    split at h
    ·rename_i r p' R' hr
     split at h
     ·cases h
      have q:=opnds_ok hk hl;have g:=G.ctr _ _ _ _ _ _ _ hr hp hb q.2 (fun r hr=>⟨(hM r hr).2.1,(hM r hr).2.2⟩);have e:c.args.map a.eval=(l.map (·.val γ)).toArray:=by
       apply Array.ext';rw[Array.toList_map];exact q.1
      have hR':R'.length<=8:=hR;refine ow_made (Z:=Made γ nx r R' w) ((congrArg (fun m=>Sem.run E.P m w) (run_callFunc ho hf)).trans (g.2.2.2.1 _ _)) ?_ fun e w' hz=>?_
      ·rw[e]
       exact g.2.2.2.2 γ hA w hB hM
      ·obtain⟨⟨δ,h1,h2,h3,h4⟩,h5⟩:=hz
       refine⟨_,h2,hK δ _ _ h1 ⟨fun t x hx=>?_,fun q hq=>?_,h4,fun _=>h5,fun g c h=>(by cases h)⟩⟩
       ·cases hx
        exact⟨rfl,g.1,SV.lt_mono (by omega) g.2.1⟩
       ·have:=g.2.2.1 q hq
        have h6:=h3 q hq;exact⟨this.1,SV.lt_mono (by omega) this.2.1,this.2.2.1,by omega,h6⟩
     ·cases h
    ·cases h
   ·cases h
  ·split at h
   ·rename_i r p' hr
    split at h
    ·cases h
     exact value (by rw[ho];exact hr) hp rfl
    ·cases h
   ·cases h
 ·rename_i op' d _ _ _ _ _
  split at h
  ·rename_i r p' hr
   split at h
   ·cases h
    exact value (by rw[ho];exact hr) hp rfl
   ·cases h
  ·cases h
 ·cases h
theorem effAt_d{gs:Option SV}(h:effAt E N nx gs lk M o=some (e,p)):∀ t y,e.d=some (t,y)->o.dst=some t/\t<N:=by
 intro t y hd;unfold effAt at h
 split at h
 ·exact eff_d h t y hd
 ·split at h
  ·split at h
   ·exact eff_d h t y hd
   ·split at h
    ·rename_i hdst
     split at h
     ·rename_i hN
      cases h;cases hd;exact⟨hdst,hN⟩
     ·cases h
    ·cases h
     cases hd
  ·split at h
   ·rename_i _ d x p' _ hx
    split at h
    ·cases h
     cases hd;exact eff_d hx _ _ rfl
    ·cases h
   ·cases h
  ·cases h
theorem eff_st(h:effGo E N nx lk M o=some (e,p)):∀ g c,e.st=some (g,c)->∃ y T,(g,y,T)∈M:=by
 intro g c hs;obtain⟨op,ho⟩:∃ op,o.op=op:=⟨_,rfl⟩
 obtain⟨dst,hdst⟩:∃ d,o.dst=d:=⟨_,rfl⟩
 unfold effGo at h;rw[ho,hdst]at h
 split at h
 ·split at h
  ·split at h
   ·split at h
    ·rename_i r hr
     cases hp:SV.put _ _ r.1 with
     | none=>rw[hp]at h;cases h
     | some c =>
      rw[hp]at h;cases h;cases hs;exact⟨_,_,rowIn_ok hr⟩
    ·cases h
   ·cases h
  ·cases h
 ·split at h
  ·split at h
   ·cases h;cases hs
   ·cases h
  ·cases h
 ·split at h
  ·split at h
   ·cases h;cases hs
   ·cases h
  ·cases h
 ·split at h
  ·split at h
   ·split at h
    ·cases h;cases hs
    ·cases h
   ·cases h
  ·cases h
 ·split at h
  ·split at h
   ·split at h
    ·split at h
     ·cases h;cases hs
     ·cases h
    ·cases h
   ·cases h
  ·split at h
   ·split at h
    ·cases h;cases hs
    ·cases h
   ·cases h
 ·split at h
  ·split at h
   ·cases h;cases hs
   ·cases h
  ·cases h
 ·cases h
theorem effAt_st{gs:Option SV}(h:effAt E N nx gs lk M o=some (e,p)):∀ g c,e.st=some (g,c)->∃ y T,(g,y,T)∈M:=by
 intro g c hs;unfold effAt at h
 split at h
 ·exact eff_st h g c hs
 ·split at h
  ·split at h
   ·exact eff_st h g c hs
   ·split at h
    ·split at h
     ·cases h
      cases hs
     ·cases h
    ·cases h
     cases hs
  ·split at h
   ·split at h
    ·cases h
     cases hs
    ·cases h
   ·cases h
  ·cases h
theorem effAt_ok{gs:Option SV}{ops:Array Oper}(G:E.Good γ0 w0)(hA:Agree E γ0 γ)(hb:E.base<=nx)(hk:Holds γ nx lk a)(hM:Lies γ nx M w)(hB:Below w0.heap.size w0 w)(hg:∀ j b x,o.guard=some (j,b)->gs=some x->∃ d,(ops[j]?).bind (·.dst)=some d/\lk d=some x)
  (h:effAt E N nx gs lk M o=some (e,p)) (hp:All p) (hR:e.R.length<=8) (hK:∀ δ v w',(∀ g,g<nx->δ g=γ g)->OutE nx γ δ M e v w w'->K (a.put o.dst v) w'):if Region.wanted o (yielded ops a.tmps)=true then o.wp E.P a w K X else K (a.put o.dst undef) w:=by
 have go:Region.wanted o (yielded ops a.tmps)=true->o.wp E.P a w K X->if Region.wanted o (yielded ops a.tmps)=true then o.wp E.P a w K X else K (a.put o.dst undef) w:=fun h1 h2=>by rw[if_pos h1];exact h2
 have no:Region.wanted o (yielded ops a.tmps)=false->K (a.put o.dst undef) w->if Region.wanted o (yielded ops a.tmps)=true then o.wp E.P a w K X else K (a.put o.dst undef) w:=fun h1 h2=>by rw[if_neg (by rw[h1];simp)];exact h2
 unfold effAt at h
 split at h
 ·rename_i hgd
  exact go (by unfold Region.wanted;rw[hgd]) (effGo_ok G hA hb hk hM hB h hp hR hK)
 ·rename_i j b hgd
  split at h
  ·rename_i t
   obtain⟨d',he,hl⟩:=hg j b _ hgd rfl;have hv:=(hk _ _ hl).1
   split at h
   ·rename_i htb
    subst htb;exact go (wanted_of hgd he hv) (effGo_ok G hA hb hk hM hB h hp hR hK)
   ·rename_i htb
    have hw:=unwanted_of hgd he hv (by cases t <;> cases b <;> first | rfl | exact absurd rfl htb)
    split at h
    ·split at h
     ·cases h
      exact no hw (hK γ _ _ (fun _ _=>rfl) ⟨fun t y h=>(by cases h),fun q hq=>(by cases hq),.nil,fun _=>Below.refl _ _,fun g c h=>(by cases h)⟩)
     ·cases h
    ·cases h
     exact no hw (hK γ _ _ (fun _ _=>rfl) ⟨fun t y h=>(by cases h),fun q hq=>(by cases hq),.nil,fun _=>Below.refl _ _,fun g c h=>(by cases h)⟩)
  ·rename_i gx _
   obtain⟨d',he,hl⟩:=hg j b _ hgd rfl;have hv:=(hk _ _ hl).1
   split at h
   ·rename_i e' d x p' hge hx
    have hw:=wanted_eff hgd he hv hge
    split at h
    ·rename_i hlt
     cases h;have hp1:e'=true->All p':=underG_ok fun q hq=>hp q (List.mem_append_left _ hq);have hp2:All (condG e' lk (tmpsOf o)):=fun q hq=>hp q (List.mem_append_right _ hq);cases e' with
     | true =>
      have hk':Holds γ nx (lkG lk (tmpsOf o)) a:=fun u y hy=>by
       obtain⟨z,h1,h2,h3,h4⟩:=lkG_ok (γ:=γ) (n:=nx) hy hp2 rfl;have:=hk u z h1;exact⟨this.1.trans h4,h2 this.2.1,h3 this.2.2⟩
      refine go hw (effGo_ok G hA hb hk' hM hB hx (hp1 rfl) (Nat.zero_le _) fun δ v w' hδ hO=>hK δ v w' hδ ⟨fun u y h=>?_,fun q hq=>(by cases hq),.nil,fun _=>hO.n rfl,fun g c h=>(by cases h)⟩);cases h;have q:=hO.d d x rfl;exact⟨q.1,fun _=>q.2.1,hlt⟩
     | false =>
      refine no hw (hK γ _ _ (fun _ _=>rfl) ⟨fun u y h=>?_,fun q hq=>(by cases hq),.nil,fun _=>Below.refl _ _,fun g c h=>(by cases h)⟩);cases h;exact⟨rfl,fun h=>(by cases h),hlt⟩
    ·cases h
   ·cases h
  ·cases h
end
end Go.Proofs.YtfmpjjhdocejiaaGreat.Sy
namespace Go.Proofs.YtfmpjjhdocejiaaGreat.Sy
open Go.RowKit
structure PassAt (E:Env) (N:Nat) (l:List Oper) (ms:List (Nat × Nat)) (s:St) (es:List Ef) (ps:List Ob) (k:Nat) (o:Oper) (e:Ef):Prop where
 eff:∃ p,effAt E N (s.n+8*k) (gsl l (lkW l (lookN ms k) (es.take k) s.S) o) (lkW l (lookN ms k) (es.take k) s.S) (seenM (lookN ms k) o (es.take k) s.M) o=some (e,p)/\∀ q∈p,q∈ps
 ok:okEf s.n l ms (es.take k) s.M k e=true
structure RelD (E:Env) (γ0 γs γ:Pl) (N:Nat) (w0:World) (s:St) (l:List Oper) (es:List Ef) (a0:Act) (D:Nat->Bool) (a:Act) (w:World):Prop where
 old:∀ g,g<s.n->γ g=γs g
 z:a.tmps.size=N
 d:a.defers=[]
 kp:∀ t,(∀(i:Nat) o,l[i]?=some o->D i=true->o.dst≠some t)->a.tmps.getD t undef=a0.tmps.getD t undef
 sl:∀(i:Nat) (e:Ef) t x,es[i]?=some e->D i=true->e.d=some (t,some x)->a.tmps.getD t undef=x.val γ/\x.ok/\x.lt (s.n+8*(i+1))=true
 rk:∀(i:Nat) (e:Ef),es[i]?=some e->D i=true->∀ q∈e.R,q.2.1.ok/\q.2.1.lt (s.n+8*(i+1))=true/\s.n+8*i<=q.1/\q.1<s.n+8*(i+1)
 sk:∀(i:Nat) (e:Ef) g c,es[i]?=some e->D i=true->e.st=some (g,c)->c.ok/\c.lt (s.n+8*i)=true
 b:Below w0.heap.size w0 w
 rows:∀ r∈rowsD D es s.M,w0.heap.size<=γ r.1/\w.heap[γ r.1]?=some (.cells (r.2.1.cells γ).toArray r.2.2 (0,0))
 nd:∀ r∈rowsD D es s.M,∀ q∈rowsD D es s.M,r.1≠q.1->γ r.1≠γ q.1
section
variable {E:Env} {γ0 γ γs δ:Pl} {N nx:Nat} {w0 ws w w' wx:World} {s:St} {a a0:Act} {o:Oper} {l:List Oper} {es:List Ef} {D D':Nat->Bool} {ps:List Ob} {Q:Post} {X:Exit->Act->World->Prop} {k:St->Tr}
theorem passX_ok{ms:List (Nat × Nat)}:∀ {r:List Oper} {es0 es:List Ef} {ps0 ps:List Ob},passX E N l ms s r es0 ps0=some (es,ps)->(∀(i:Nat) e,es0[i]?=some e->es[i]?=some e)/\es.length=es0.length+r.length/\(∀ q∈ps0,q∈ps) /\
  ∀(i:Nat) o,r[i]?=some o->∃ e,es[es0.length+i]?=some e/\PassAt E N l ms s es ps (es0.length+i) o e
 | [],es0,es,ps0,ps,h=>by
  cases h;exact⟨fun _ _ h=>h,rfl,fun _ h=>h,fun i o h=>(by cases h)⟩
 | o::r,es0,es,ps0,ps,h=>by
  unfold passX at h
  split at h
  ·rename_i e p he
   split at h
   ·rename_i hok
    obtain⟨h1,h2,h3,h4⟩:=passX_ok h;have hpre:∀(i:Nat) f,es0[i]?=some f->es[i]?=some f:=fun i f hf=>h1 i f (by rw[List.getElem?_append_left (List.getElem?_eq_some_iff.1 hf).1];exact hf);have htk:es.take es0.length=es0:=by
     apply List.ext_getElem?;intro j;rw[List.getElem?_take]
     split
     ·rename_i hj
      rw[List.getElem?_eq_getElem hj];exact hpre j _ (List.getElem?_eq_getElem hj)
     ·rw[List.getElem?_eq_none (by omega)]
    refine⟨hpre,by rw[h2];simp only[List.length_append,List.length_cons,List.length_nil];omega,fun q hq=>h3 q (List.mem_append_left _ hq),fun i oi hi=>?_⟩;cases i with
    | zero =>
     cases hi;refine⟨e,h1 _ _ (by rw[Nat.add_zero,List.getElem?_append_right (Nat.le_refl _),Nat.sub_self];rfl),?_⟩;rw[Nat.add_zero];exact⟨⟨p,by rw[htk];exact he,fun q hq=>h3 q (List.mem_append_right _ hq)⟩,by rw[htk];exact hok⟩
    | succ i =>
     have:=h4 i oi (by simpa using hi);simp only[List.length_append,List.length_cons,List.length_nil]at this;rw[show es0.length+(i+1)=es0.length+(0+1)+i by omega];exact this
   ·cases h
  ·cases h
theorem pair_all{α:Type}{R:α->α->Prop}(hs:∀ x y,R x y->R y x):∀ {l:List α},l.Pairwise R->∀ x∈l,∀ y∈l,x≠y->R x y
 | [],_,x,hx,_,_,_=>by cases hx
 | z::l,h,x,hx,y,hy,hne=>by
  obtain⟨h1,h2⟩:=List.pairwise_cons.1 h;rcases List.mem_cons.1 hx with ex | hx
  ·rcases List.mem_cons.1 hy with ey | hy
   ·exact absurd (ex.trans ey.symm) hne
   ·rw[ex];exact h1 y hy
  ·rcases List.mem_cons.1 hy with ey | hy
   ·rw[ey];exact hs _ _ (h1 x hx)
   ·exact pair_all hs h2 x hx y hy hne
theorem rows_mem{r:Nat × SV × TypeId}{M:Rows}:r∈rowsD D es M↔∃ c,(r.1,c,r.2.2)∈madeD D 0 es++M/\r.2.1=curD D r.1 0 es c:=by
 unfold rowsD;rw[List.mem_map];refine⟨fun⟨q,hq,e⟩=>?_,fun⟨c,hc,e⟩=>⟨(r.1,c,r.2.2),hc,?_⟩⟩
 ·subst e
  exact⟨q.2.1,hq,rfl⟩
 ·show(r.1,curD D r.1 0 es c,r.2.2)=r
  rw[<- e]
theorem mask_done{ms:List (Nat × Nat)}(hms:ms=masksA l 0 [])(hr:rankB l.toArray (fun i=>i)=true)(hcl:∀(i:Nat) o,l[i]?=some o->D i=true->∀ e∈o.after,Region.binds .any e=true->D e.on=true) :
  ∀(k:Nat) o,l[k]?=some o->(∀ e∈o.after,Region.binds .any e=true->D e.on=true)->∀ j,(lookN ms k).testBit j=true->D j=true/\j<k:=by
 have rank:∀(i:Nat) o,l[i]?=some o->∀ e∈o.after,Region.binds .any e=true->e.on<i:=fun i o ho e he hb=>by
  have hl:=hr;unfold rankB at hl;rw[List.all_eq_true]at hl;have:=hl i (by simpa using(List.getElem?_eq_some_iff.1 ho).1);rw[show l.toArray[i]?=some o by simpa using ho]at this;simp only[Array.all_eq_true_iff_forall_mem]at this;have hlt:=this e he;rw[hb]at hlt;simpa using hlt
 have sp:=masks_spec (l:=l) (i:=0) (acc:=[]) (fun t _=>rfl);intro k
 induction k using Nat.strongRecOn with
 | ind k ih =>
  intro o ho hd j hj;rw[hms,show k=0+k by omega]at hj;obtain⟨e,h1,h2,h3⟩:=sp k o ho j hj;have hon:=rank k o ho e h1 h2;rcases h3 with h3 | h3
  ·rw[h3]
   exact⟨hd e h1 h2,hon⟩
  ·have hlt:e.on<l.length:=Nat.lt_trans hon (List.getElem?_eq_some_iff.1 ho).1
   have:=ih e.on hon l[e.on] (List.getElem?_eq_getElem hlt) (hcl e.on _ (List.getElem?_eq_getElem hlt) (hd e h1 h2)) j (by rw[hms];exact h3);exact⟨this.1,Nat.lt_trans this.2 hon⟩
theorem idOk_out{n0 k i m g:Nat}(h:idOk n0 i m g=true)(hne:i≠k)(hm:m.testBit k=false):¬(n0+8*k<=g/\g<n0+8*(k+1)):=by
 intro hc;have hq:(g - n0) / 8=k:=by omega
 unfold idOk at h;rw[hq,Bool.or_eq_true,Bool.or_eq_true]at h;rcases h with h | h | h
 ·have:=of_decide_eq_true h;omega
 ·exact hne (of_decide_eq_true h).symm
 ·rw[hm]at h;cases h
theorem stepD(G:E.Good γ0 w0){ms:List (Nat × Nat)}(hms:ms=masksA l 0 [])(hdist:distinctB l=true)(hr0:rankB l.toArray (fun i=>i)=true)(hp:All ps)(hlen:es.length=l.length)(hpass:∀(i:Nat) o,l[i]?=some o->∃ e,es[i]?=some e/\PassAt E N l ms s es ps i o e)
  (R0:Rel E γ0 γs N w0 s a0 ws) (hcl:∀(i:Nat) o,l[i]?=some o->D i=true->∀ e∈o.after,Region.binds .any e=true->D e.on=true) {k:Nat} (hk:l[k]?=some o) (hD:D k=false) (hrd:∀ e∈o.after,Region.binds .any e=true->D e.on=true)
  (hD1:D' k=true) (hD2:∀ i,i≠k->D' i=D i) (h:RelD E γ0 γs γ N w0 s l es a0 D a w) {K:Act->World->Prop} (hK:∀ γ' v w',RelD E γ0 γs γ' N w0 s l es a0 D' (a.put o.dst v) w'->K (a.put o.dst v) w') :
  if Region.wanted o (yielded l.toArray a.tmps)=true then o.wp E.P a w K X else K (a.put o.dst undef) w:=by
 obtain⟨e,hek,⟨p,heff,hpp⟩,hok⟩:=hpass k o hk;have hkl:k<es.length:=(List.getElem?_eq_some_iff.1 hek).1;have mk:=mask_done hms hr0 hcl k o hk hrd;have mi:∀(i:Nat) f,es[i]?=some f->D i=true->(lookN ms i).testBit k=false:=fun i f hf hi=>by
  have hil:i<l.length:=hlen ▸ (List.getElem?_eq_some_iff.1 hf).1;cases hb:(lookN ms i).testBit k with
  | false=>rfl
  | true =>
   have:=mask_done hms hr0 hcl i l[i] (List.getElem?_eq_getElem hil) (hcl i _ (List.getElem?_eq_getElem hil) hi) k hb;rw[hD]at this;exact absurd this.1 (by simp)
 have tk:∀(i:Nat),i<k->(es.take k)[i]?=es[i]?:=fun i hi=>List.getElem?_take_of_lt hi;have tkk:∀ {i:Nat} {f:Ef},(es.take k)[i]?=some f->i<k/\es[i]?=some f:=fun {i f} hf=>by
  rw[List.getElem?_take]at hf
  split at hf
  ·rename_i hi;exact⟨hi,hf⟩
  ·cases hf
 have okOf:∀(i:Nat) f,es[i]?=some f->okEf s.n l ms (es.take i) s.M i f=true:=fun i f hf=>by
  have hil:i<l.length:=hlen ▸ (List.getElem?_eq_some_iff.1 hf).1;obtain⟨f',h1,h2⟩:=hpass i l[i] (List.getElem?_eq_getElem hil);rw[hf]at h1;cases h1;exact h2.ok
 -- a later store is not done where one reads
 have later:∀(i:Nat) f g c,k<i->es[i]?=some f->f.st=some (g,c)->(seenM (lookN ms k) o (es.take k) s.M).any (fun r=>r.1 == g)=true->D i=false:=fun i f g c hi hf hst hu=>by
  cases hdi:D i with
  | false=>rfl
  | true =>
   have ho:=okOf i f hf;unfold okEf at ho;rw[hst]at ho;simp only[Bool.and_eq_true,List.all_eq_true]at ho;have h1:=ho.2.2.2 k (List.mem_range.2 hi);have hu':usedBy l ms (es.take i) s.M g k=true:=by
    unfold usedBy;rw[hk];dsimp only;rw[List.take_take,Nat.min_eq_left (Nat.le_of_lt hi)];exact hu
   rw[hu',mi i f hf hdi]at h1;cases h1
 have hN0:E.base<=s.n+8*k:=Nat.le_trans R0.base (Nat.le_add_right _ _);have hA:Agree E γ0 γ:=fun g hg=>(h.old g (Nat.lt_of_lt_of_le hg R0.base)).trans (R0.ag g hg);have oldV:∀ {x:SV},x.lt s.n=true->x.val γs=x.val γ/\x.cells γs=x.cells γ:=fun {x} hx=>by
  have:=SV.lt_same (γ:=γs) (δ:=γ) (fun g hg=>(h.old g hg).symm) hx;exact⟨this.2.2,this.2.1⟩
 -- what it reads
 have hH:Holds γ (s.n+8*k) (lkW l (lookN ms k) (es.take k) s.S) a:=fun t x hx=>by
  unfold lkW at hx
  split at hx
  ·rename_i h0
   have:=R0.k t x hx;refine⟨?_,this.2.1,SV.lt_mono (Nat.le_add_right _ _) this.2.2⟩;rw[h.kp t (fun i o' hi _=>dstIx_none h0 i o' hi),this.1,(oldV this.2.2).1]
  ·rename_i j hj
   split at hx
   ·rename_i hb
    obtain⟨f,hf,hfd⟩:=Option.bind_eq_some_iff.1 hx;obtain⟨q,hq,hq2⟩:=Option.bind_eq_some_iff.1 hfd;obtain⟨hjk,hfj⟩:=tkk hf;obtain⟨oj,h1,h2⟩:=dstIx_some hj;obtain⟨f',h3,⟨p',h4,_⟩,_⟩:=hpass j oj h1;rw[hfj]at h3;cases h3;have h5:=(effAt_d h4 q.1 q.2 hq).1;rw[h2]at h5;have h6:q=(t,some x):=by
     cases q;cases h5;cases hq2;rfl
    rw[h6]at hq;have:=h.sl j f t x hfj (mk j hb).1 hq;exact⟨this.1,this.2.1,SV.lt_mono (by omega) this.2.2⟩
   ·cases hx
 have hS:∀ r∈seenM (lookN ms k) o (es.take k) s.M,r∈rowsD D es s.M/\r.2.1.ok/\r.2.1.lt (s.n+8*k)=true:=fun r hr=>by
  have hr0:=hr;unfold seenM at hr
  split at hr
  ·rw[List.mem_filter]at hr
   obtain⟨hr1,hst⟩:=hr;obtain⟨c,hc,he⟩:=rows_mem.1 hr1;have hst':=stable_spec hst;have hany:(seenM (lookN ms k) o (es.take k) s.M).any (fun q=>q.1 == r.1)=true:=List.any_eq_true.2 ⟨r,hr0,by simp⟩;have e1:r.2.1=curD D r.1 0 es c:=by
    rw[he,cur_take];refine cur_ext fun j f q h1 h2 h3=>?_;obtain⟨q1,q2⟩:=q;dsimp only at h3;subst h3;rw[Nat.zero_add];rcases Nat.lt_trichotomy j k with hj | hj | hj
    ·have hb:=hst' j f (r.1,q2) (by rw[tk j hj];exact h1) h2 rfl
     rw[Nat.zero_add]at hb;rw[hb,(mk j hb).1];simp[hj]
    ·subst hj
     rw[hD];simp
    ·rw[later j f r.1 q2 hj h1 h2 hany]
     simp[Nat.not_lt.2 (Nat.le_of_lt hj)]
   have hmem:(r.1,c,r.2.2)∈madeD D 0 es++s.M:=by
    rcases List.mem_append.1 hc with hc | hc
    ·obtain⟨j,f,h1,h2,h3⟩:=made_mem.1 hc
     rw[Nat.zero_add]at h2;exact List.mem_append_left _ (made_mem.2 ⟨j,f,(tkk h1).2,by rw[Nat.zero_add];exact(mk j h2).1,h3⟩)
    ·exact List.mem_append_right _ hc
   have hin:r∈rowsD D es s.M:=rows_mem.2 ⟨c,hmem,e1⟩;refine⟨hin,?_⟩;have hcc:c.ok/\c.lt (s.n+8*k)=true:=by
    rcases List.mem_append.1 hc with hc | hc
    ·obtain⟨j,f,h1,h2,h3⟩:=made_mem.1 hc
     rw[Nat.zero_add]at h2;have:=h.rk j f (tkk h1).2 (mk j h2).1 _ h3;exact⟨this.1,SV.lt_mono (by have:=(tkk h1).1;omega) this.2.1⟩
    ·have:=R0.m _ hc
     exact⟨this.1,SV.lt_mono (Nat.le_add_right _ _) this.2.1⟩
   rcases cur_mem (D:=fun i=>(lookN ms k).testBit i) (g:=r.1) (es:=es.take k) (i:=0) (c:=c)with h1 | ⟨j,f,h1,h2,h3⟩
   ·rw[he,h1]
    exact hcc
   ·rw[<- he]at h3
    rw[Nat.zero_add]at h2;have:=h.sk j f r.1 r.2.1 (tkk h1).2 (mk j h2).1 h3;exact⟨this.1,SV.lt_mono (by have:=(tkk h1).1;omega) this.2⟩
  ·cases hr
 have hL:Lies γ (s.n+8*k) (seenM (lookN ms k) o (es.take k) s.M) w:=fun r hr=>⟨(h.rows r (hS r hr).1).2,(hS r hr).2⟩
 have hR8:e.R.length<=8:=by
  have ho:=hok;unfold okEf at ho;simp only[Bool.and_eq_true,decide_eq_true_eq]at ho;exact ho.2.1
 refine effAt_ok (ops:=l.toArray) G hA hN0 hH hL h.b (fun j b x hg hgs=>?_) heff (fun q hq=>hp q (hpp q hq)) hR8 fun δ v w' hδ hO=>?_
 ·unfold gsl at hgs
  rw[hg]at hgs;rw[Option.bind_some]at hgs;obtain⟨d',h1,h2⟩:=Option.bind_eq_some_iff.1 hgs;exact⟨d',by simpa using h1,h2⟩
 -- behind it
 obtain⟨γ',hγ'⟩:∃ γ':Pl,∀ g,γ' g=if s.n+8*k<=g/\g<s.n+8*(k+1)then δ g else γ g:=⟨_,fun _=>rfl⟩
 have same1:∀ g,¬(s.n+8*k<=g/\g<s.n+8*(k+1))->γ g=γ' g:=fun g hg=>by rw[hγ',if_neg hg]
 have same2:∀ g,g<s.n+8*(k+1)->δ g=γ' g:=fun g hg=>by
  rw[hγ']
  split
  ·rfl
  ·exact hδ g (by omega)
 have oldS:∀(i:Nat) f t x,es[i]?=some f->D i=true->f.d=some (t,some x)->x.val γ=x.val γ':=fun i f t x hf hi hd=>by
  have ho:=okOf i f hf;unfold okEf at ho;rw[hd]at ho;simp only[Bool.and_eq_true,List.all_eq_true]at ho;have hne:i≠k:=fun e=>by rw[e,hD]at hi;cases hi
  exact(SV.ids_same fun g hg=>same1 g (idOk_out (ho.1.1 g hg) hne (mi i f hf hi))).2.2
 have oldR:∀ r∈rowsD D es s.M,γ r.1=γ' r.1/\r.2.1.cells γ=r.2.1.cells γ':=fun r hr=>by
  obtain⟨c,hc,he⟩:=rows_mem.1 hr;have hcc:γ r.1=γ' r.1/\∀ g∈c.ids,γ g=γ' g:=by
   rcases List.mem_append.1 hc with hc | hc
   ·obtain⟨j,f,h1,h2,h3⟩:=made_mem.1 hc
    rw[Nat.zero_add]at h2;have hne:j≠k:=fun e=>by rw[e,hD]at h2;cases h2
    have ho:=okOf j f h1;unfold okEf at ho;simp only[Bool.and_eq_true,List.all_eq_true]at ho;have:=h.rk j f h1 h2 _ h3;refine⟨same1 _ (fun hc=>?_),fun g hg=>same1 g (idOk_out (ho.1.2 _ h3 g hg) hne (mi j f h1 h2))⟩;have h5:s.n+8*j<=r.1/\r.1<s.n+8*(j+1):=this.2.2;omega
   ·have:=R0.m _ hc
    have h5:r.1<s.n:=this.2.2;exact⟨same1 _ (by omega),fun g hg=>same1 g (by have:=SV.lt_ids this.2.1 g hg;omega)⟩
  refine⟨hcc.1,(SV.ids_same fun g hg=>?_).2.1⟩;rcases cur_mem (D:=D) (g:=r.1) (es:=es) (i:=0) (c:=c)with h1 | ⟨j,f,h1,h2,h3⟩
  ·rw[he,h1]at hg
   exact hcc.2 g hg
  ·rw[<- he]at h3
   rw[Nat.zero_add]at h2;have ho:=okOf j f h1;unfold okEf at ho;rw[h3]at ho;simp only[Bool.and_eq_true,List.all_eq_true]at ho;have hne:j≠k:=fun e=>by rw[e,hD]at h2;cases h2
   exact same1 g (idOk_out (ho.2.2.1 g hg) hne (mi j f h1 h2))
 have inside:∀ r∈rowsD D es s.M,γ r.1<w.heap.size:=fun r hr=>(Array.getElem?_eq_some_iff.1 (h.rows r hr).2).1;have oneOf:∀ i,D' i=true->i=k\/(i≠k/\D i=true):=fun i hi=>by
  by_cases e:i=k
  ·exact .inl e
  ·exact .inr ⟨e,by rw[<- hD2 i e];exact hi⟩
 -- what the rows are
 have split:∀ r∈rowsD D' es s.M,(r∈e.R/\e.st=none)\/∃ q∈rowsD D es s.M,q.1=r.1/\q.2.2=r.2.2/\((r.2.1=q.2.1/\∀ g c,e.st=some (g,c)->g≠r.1)\/∃ c,e.st=some (r.1,c)/\r.2.1=c):=fun r hr=>by
  obtain⟨c,hc,he⟩:=rows_mem.1 hr;have base:(∃ g c,e.st=some (g,c)/\g=r.1)\/(∀ g c,e.st=some (g,c)->g≠r.1):=by
   cases hs:e.st with
   | none=>exact .inr fun g c h=>(by cases h)
   | some q =>
    by_cases hq:q.1=r.1
    ·exact .inl ⟨q.1,q.2,rfl,hq⟩
    ·exact .inr fun g c h=>(by cases h;exact hq)
  have curS:(∀ g c,e.st=some (g,c)->g≠r.1)->curD D' r.1 0 es c=curD D r.1 0 es c:=fun hn=>cur_ext fun j f q h1 h2 h3=>by
   rw[Nat.zero_add];by_cases ej:j=k
   ·subst ej
    rw[hek]at h1;cases h1;exact absurd h3 (hn q.1 q.2 h2)
   ·exact hD2 j ej
  have curW:∀ c',e.st=some (r.1,c')->curD D' r.1 0 es c=c':=fun c' hs=>cur_last (k:=k) hek hs (by rw[Nat.zero_add];exact hD1) fun j f q hj h1 h2 h3=>by
   rw[Nat.zero_add,hD2 j (by omega)];obtain⟨q1,q2⟩:=q;dsimp only at h3;subst h3;obtain⟨_,_,_,⟨y,T,hm⟩,_⟩:=hO.s _ _ hs;exact later j f r.1 q2 hj h1 h2 (List.any_eq_true.2 ⟨_,hm,by simp⟩)
  have fromD:(r.1,c,r.2.2)∈madeD D 0 es++s.M->∃ q∈rowsD D es s.M,q.1=r.1/\q.2.2=r.2.2/\((r.2.1=q.2.1/\∀ g c,e.st=some (g,c)->g≠r.1)\/∃ c,e.st=some (r.1,c)/\r.2.1=c):=fun hm=>by
   refine⟨(r.1,curD D r.1 0 es c,r.2.2),rows_mem.2 ⟨c,hm,rfl⟩,rfl,rfl,?_⟩;rcases base with⟨g,c',hs,hg⟩ | hn
   ·rw[hg]at hs
    exact .inr ⟨c',hs,by rw[he,curW c' hs]⟩
   ·exact .inl ⟨by rw[he,curS hn],hn⟩
  rcases List.mem_append.1 hc with hc | hc
  ·obtain⟨j,f,h1,h2,h3⟩:=made_mem.1 hc
   rw[Nat.zero_add]at h2;rcases oneOf j h2 with ej | ⟨hj,hDj⟩
   ·rw[ej,hek]at h1
    cases h1;have hs:e.st=none:=by
     cases hs:e.st with
     | none=>rfl
     | some q =>
      have:=(hO.s q.1 q.2 hs).1;rw[this]at h3;cases h3
    -- nobody else lays into it
    have hcur:curD D' r.1 0 es c=c:=by
     rcases cur_mem (D:=D') (g:=r.1) (es:=es) (i:=0) (c:=c)with h4 | ⟨i,f,h4,h5,h6⟩
     ·exact h4
     ·exfalso
      rw[Nat.zero_add]at h5;rcases oneOf i h5 with ei | ⟨hi,hDi⟩
      ·rw[ei,hek]at h4
       cases h4;rw[hs]at h6;cases h6
      ·have hil:i<l.length:=hlen ▸ (List.getElem?_eq_some_iff.1 h4).1
       obtain⟨f',g1,⟨p',g2,_⟩,_⟩:=hpass i l[i] (List.getElem?_eq_getElem hil);rw[h4]at g1;cases g1;obtain⟨y,T,hm⟩:=effAt_st g2 _ _ h6;unfold seenM at hm;have kr:=hO.R _ h3;have k1:s.n+8*k<=r.1:=kr.2.2.1;have k2:r.1<s.n+8*k+8:=kr.2.2.2.1
       split at hm
       ·obtain⟨c2,hc2,_⟩:=rows_mem.1 (List.mem_filter.1 hm).1
        rcases List.mem_append.1 hc2 with hc2 | hc2
        ·obtain⟨j2,f2,u1,u2,u3⟩:=made_mem.1 hc2
         rw[Nat.zero_add]at u2;have u1':es[j2]?=some f2:=by
          rw[List.getElem?_take]at u1
          split at u1
          ·exact u1
          ·cases u1
         have dj:=mask_done hms hr0 hcl i l[i] (List.getElem?_eq_getElem hil) (hcl i _ (List.getElem?_eq_getElem hil) hDi) j2 u2;have rr:=h.rk j2 f2 u1' dj.1 _ u3;have r1:s.n+8*j2<=r.1:=rr.2.2.1;have r2:r.1<s.n+8*(j2+1):=rr.2.2.2;have:j2=k:=by omega
         rw[this,hD]at dj;cases dj.1
        ·have:r.1<s.n:=(R0.m _ hc2).2.2
         omega
       ·cases hm
    exact .inl ⟨by
     have:r=(r.1,c,r.2.2):=by
      rw[hcur]at he;rw[<- he]
     rw[this];exact h3,hs⟩
   ·exact .inr (fromD (List.mem_append_left _ (made_mem.2 ⟨j,f,h1,by rw[Nat.zero_add];exact hDj,h3⟩)))
  ·exact .inr (fromD (List.mem_append_right _ hc))
 have nx8:s.n+8*(k+1)=s.n+8*k+8:=by omega
 have newR:∀ r∈e.R,δ r.1=γ' r.1/\r.2.1.cells δ=r.2.1.cells γ':=fun r hr=>by
  have q:=hO.R r hr;exact⟨same2 _ (by rw[nx8];exact q.2.2.2.1),(SV.lt_same (n:=s.n+8*k+8) (fun g hg=>same2 g (by rw[nx8];exact hg)) q.2.1).2.1⟩
 refine hK γ' v w' ⟨fun g hg=>?_,by rw[put_size];exact h.z,by rw[put_defers];exact h.d,fun t ht=>?_,fun i f t x hf hi hd=>?_,fun i f hf hi q hq=>?_,fun i f g c hf hi hs=>?_,?_,fun r hr=>?_,fun r hr q hq hne=>?_⟩
 ·rw[<- same1 g (by omega)]
  exact h.old g hg
 ·rw[put_other _ _ _ _ (ht k o hk hD1)]
  exact h.kp t fun i o' hi hDi=>ht i o' hi (by
   by_cases e:i=k
   ·rw[e];exact hD1
   ·rw[hD2 i e];exact hDi)
 ·rcases oneOf i hi with rfl | ⟨hne,hDi⟩
  ·rw[hek]at hf
   cases hf;have q:=hO.d t x hd;obtain⟨h1,h2⟩:=effAt_d heff t _ hd;rw[h1];refine⟨?_,q.2.1,by rw[nx8];exact q.2.2⟩;rw[put_same _ _ _ (by rw[h.z];exact h2),q.1];exact(SV.lt_same (n:=s.n+8*i+8) (fun g hg=>same2 g (by rw[nx8];exact hg)) q.2.2).2.2
  ·have q:=h.sl i f t x hf hDi hd
   have hil:i<l.length:=hlen ▸ (List.getElem?_eq_some_iff.1 hf).1;obtain⟨f',g1,⟨p',g2,_⟩,_⟩:=hpass i l[i] (List.getElem?_eq_getElem hil);rw[hf]at g1;cases g1;have hdi:=(effAt_d g2 t _ hd).1;refine⟨?_,q.2⟩;rw[put_other _ _ _ _ (fun c=>distinct_spec hdist k i o l[i] t hk (List.getElem?_eq_getElem hil) (Ne.symm hne) c hdi),q.1];exact oldS i f t x hf hDi hd
 ·rcases oneOf i hi with rfl | ⟨hne,hDi⟩
  ·rw[hek]at hf
   cases hf;have:=hO.R q hq;rw[nx8];exact⟨this.1,this.2.1,this.2.2.1,this.2.2.2.1⟩
  ·exact h.rk i f hf hDi q hq
 ·rcases oneOf i hi with rfl | ⟨hne,hDi⟩
  ·rw[hek]at hf
   cases hf;have:=hO.s g c hs;exact⟨this.2.1,this.2.2.1⟩
  ·exact h.sk i f g c hf hDi hs
 ·cases hs:e.st with
  | none=>exact h.b.trans ((hO.n hs).mono h.b.size)
  | some q =>
   obtain⟨_,_,_,⟨y,T,hm⟩,hw⟩:=hO.s q.1 q.2 hs;rw[hw];exact below_setRow h.b (h.rows _ (hS _ hm).1).1 _
 ·rcases split r hr with⟨hr1,_⟩ | ⟨q,hq,e1,e2,h3⟩
  ·have q:=hO.R r hr1
   have n:=newR r hr1;rw[<- n.1,<- n.2];exact⟨Nat.le_trans h.b.size q.2.2.2.2.1,q.2.2.2.2.2⟩
  ·have hq1:=h.rows q hq
   have ho:=oldR q hq;rw[e1]at hq1 ho;rw[<- ho.1];refine⟨hq1.1,?_⟩;rcases h3 with⟨h4,h5⟩ | ⟨c,h4,h5⟩
   ·rw[h4,<- ho.2,<- e2]
    cases hs:e.st with
    | none=>exact((hO.n hs).block _ (Array.getElem?_eq_some_iff.1 hq1.2).1).trans hq1.2
    | some u =>
     obtain⟨_,_,_,⟨y,T,hm⟩,hw⟩:=hO.s u.1 u.2 hs;rw[hw];have hne:=h5 u.1 u.2 hs;have:=h.nd _ (hS _ hm).1 _ hq (by rw[e1];exact hne);rw[e1]at this;exact(setRow_other _ _ _ _ (Ne.symm this)).trans hq1.2
   ·obtain⟨_,_,hcl',_,hw⟩:=hO.s _ c h4
    rw[hw,h5,<- e2,<- (SV.lt_same (n:=s.n+8*k) (γ:=γ) (δ:=γ') (fun g hg=>same1 g (by omega)) hcl').2.1];exact setRow_heap _ _ _ _ _ _ hq1.2
 ·rcases split r hr with⟨hr1,_⟩ | ⟨r2,hr2,e1,_,_⟩
  ·rcases split q hq with⟨hq1,_⟩ | ⟨q2,hq2,f1,_,_⟩
   ·rw[<- (newR r hr1).1,<- (newR q hq1).1]
    exact pair_all (fun _ _ h=>Ne.symm h) hO.P r hr1 q hq1 fun c=>hne (by rw[c])
   ·have a1:=(hO.R r hr1).2.2.2.2.1
    have a2:=inside q2 hq2;rw[<- (newR r hr1).1,<- f1,<- (oldR q2 hq2).1];omega
  ·rcases split q hq with⟨hq1,_⟩ | ⟨q2,hq2,f1,_,_⟩
   ·have a1:=(hO.R q hq1).2.2.2.2.1
    have a2:=inside r2 hr2;rw[<- (newR q hq1).1,<- e1,<- (oldR r2 hr2).1];omega
   ·rw[<- e1,<- f1,<- (oldR r2 hr2).1,<- (oldR q2 hq2).1]
    exact h.nd r2 hr2 q2 hq2 (by rw[e1,f1];exact hne)
end
end Go.Proofs.YtfmpjjhdocejiaaGreat.Sy
