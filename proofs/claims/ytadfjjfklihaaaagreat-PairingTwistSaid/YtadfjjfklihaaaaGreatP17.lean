/- What an operation does to values told by letters: it is so. No program is named here. (Cut to what is reached, written closely: SyE · SyO.) -/
import Derived.Test.YtadfjjfklihaaaaGreatP16
import Derived.Deep.MidRow
set_option linter.all false
set_option maxRecDepth 100000
set_option maxHeartbeats 8000000
namespace Go.Proofs.YtadfjjfklihaaaaGreat.Sy
open Go.RowKit
structure Ty where
 T:TypeId
 m:Bool
 sz:Nat
 zero:SV
 fs:List (Nat × Nat)
def isRow:TypeDesc->Bool
 | .struct _ | .array _ _=>true
 | _=>false
def fieldsOf(P:Program)(T:TypeId):Option (List (Nat × Nat)) :=
 match P.underlying T with
 | some (.struct fields)=>fields.toList.mapM fun f=>(P.info? f.type).map fun i=>(f.offset,i.size)
 | _=>none
structure Ty.Good (P:Program) (y:Ty):Prop where
 d:(P.underlying y.T).map isRow=some y.m
 sz:(P.info? y.T).map (·.size)=some y.sz
 zero:((P.info? y.T).bind (·.zero)).map (·.cells)=some (y.zero.cells fun _=>0).toArray
 zlt:y.zero.lt 0=true
 zok:y.zero.ok
 fs:y.fs≠[]->fieldsOf P y.T=some y.fs
abbrev Rows:=List (Nat × SV × TypeId)
inductive Ob
 | ask (p:Prop)
 | same (g h:Bool)
 | eq (x y:SV)
def Ob.holds:Ob->Prop
 | .ask p=>p
 | .same g h=>g=true->h=true
 | .eq x y=>x=y
structure Bs where
 T:TypeId
 n:Nat
 e:TypeId
 sz:Nat
 zs:SV
structure Bs.Good (P:Program) (b:Bs):Prop where
 u:P.underlying b.T=some (.slice b.e)
 i:(P.info? b.e).map (·.size)=some b.sz
 z:((P.info? b.e).bind (·.zero)).map (fun v=>(Array.range (b.n*b.sz)).map (v.cells[·%v.cells.size]!))=some (b.zs.cells fun _=>0).toArray
 lt:b.zs.lt 0=true
 ok:b.zs.ok
 few:decide (b.n*b.sz > 2^24)=false
 pos:decide (b.n*b.sz=0)=false
def bsIn(T:TypeId)(n:Nat):List Bs->Option Bs
 | []=>none
 | b::l=>if b.T=T/\b.n=n then some b else bsIn T n l
theorem bsIn_ok{T:TypeId}{n:Nat}{b:Bs}:∀ {l:List Bs},bsIn T n l=some b->b∈l/\b.T=T/\b.n=n
 | [],h=>by cases h
 | c::l,h=>by
  unfold bsIn at h
  split at h
  ·rename_i e;cases h;exact⟨.head _,e⟩
  ·have:=bsIn_ok h;exact⟨.tail _ this.1,this.2⟩
structure Env where
 P:Program
 tys:List Ty
 base:Nat
 ctr:FuncId->Nat->Rows->List SV->Option (SV × List Ob × Rows)
 bop:BinOp->TypeId->SV->SV->Option (SV × List Ob)
 bld:TypeId->List (Nat × SV)->Option SV
 xld:TypeId->Nat->Nat->Nat->Nat->Option (SV × List Ob)
 ixa:TypeId->SV->SV->Option (SV × List Ob)
 sls:List TypeId
 bss:List Bs
 slc:TypeId->SV->Option SV->Option SV->Option SV
 idx:TypeId->SV->SV->Option SV
 cnv:TypeId->TypeId->SV->Option SV
 rld:TypeId->SV->Nat->Nat->Nat->Option (SV × List Ob)
 slk:List TypeId
 mkr:Nat->Rows->(Nat->Option SV)->Op->Option (SV × List Ob × Rows)
def tyIn(T:TypeId):List Ty->Option Ty
 | []=>none
 | y::l=>if y.T=T then some y else tyIn T l
theorem tyIn_ok{T:TypeId}{y:Ty}:∀ {l:List Ty},tyIn T l=some y->y∈l/\y.T=T
 | [],h=>by cases h
 | z::l,h=>by
  unfold tyIn at h
  split at h
  ·cases h;rename_i e;exact⟨.head _,e⟩
  ·have:=tyIn_ok h;exact⟨.tail _ this.1,this.2⟩
def All(l:List Ob):Prop:=∀ p∈l,p.holds
def Agree(E:Env)(γ0 γ:Pl):Prop:=∀ k,k<E.base->γ k=γ0 k
def Lies(γ:Pl)(n:Nat)(M:Rows)(wx:World):Prop:=∀ r∈M,wx.heap[γ r.1]?=some (.cells (r.2.1.cells γ).toArray r.2.2 (0,0))/\r.2.1.ok/\r.2.1.lt n=true
structure Made (γ:Pl) (n:Nat) (r:SV) (R:Rows) (wx:World) (e:Ending) (w':World):Prop where
 out:∃ δ:Pl,(∀ k,k<n->δ k=γ k)/\e=.returned (r.val δ)/\(∀ q∈R,wx.heap.size<=δ q.1/\w'.heap[δ q.1]?=some (.cells (q.2.1.cells δ).toArray q.2.2 (0,0)))/\R.Pairwise fun p q=>δ p.1≠δ q.1
 below:Below wx.heap.size wx w'
structure Env.Good (E:Env) (γ0:Pl) (w0:World):Prop where
 tys:∀ y∈E.tys,y.Good E.P
 ctr:∀ f n M l r p R,E.ctr f n M l=some (r,p,R)->All p->E.base<=n->(∀ x∈l,x.ok/\x.lt n=true)->(∀ r∈M,r.2.1.ok/\r.2.1.lt n=true)->r.ok/\r.lt (n+R.length)=true/\(∀ q∈R,q.2.1.ok/\q.2.1.lt (n+R.length)=true/\n<=q.1/\q.1<n+R.length)/\(∀ l wx,(callFunc f l).run E.P wx=.ok (.enter f l) wx) /\
  ∀ γ,Agree E γ0 γ->∀ wx,Below w0.heap.size w0 wx->Lies γ n M wx->Calls E.P f (l.map (·.val γ)).toArray wx (Made γ n r R wx)
 bop:∀ op T x y r p,E.bop op T x y=some (r,p)->All p->x.ok->y.ok->r.ok/\r.lt 0=true/\∀ γ (ox oy:Operand) wx,(eqGuard op T ox oy (x.val γ) (y.val γ)).run E.P wx=.ok () wx/\(binOp op T (x.val γ) (y.val γ)).run E.P wx=.ok (r.val γ) wx
 bld:∀ T l r,E.bld T l=some r->(∀ x∈l,x.2.ok)->r.ok/\r.lt 0=true/\r.many=true/\∀ γ,E.P.built T (l.map fun x=>(x.1,x.2.val γ))=some (r.cells γ).toArray
 xld:∀ T g o j z r p,E.xld T g o j z=some (r,p)->All p->r.ok/\r.lt E.base=true/\g<E.base/\∀ γ,Agree E γ0 γ->∀ wx,Below w0.heap.size w0 wx->(Instr.loadAt T (.pointer (some ⟨γ g,o+j*z,none⟩))).run E.P wx=.ok (r.val γ) wx
 ixa:∀ T x y r p n,E.ixa T x y=some (r,p)->All p->x.lt n=true->x.ok->y.ok->r.ok/\r.lt n=true/\∀ γ wx,(Instr.indexAt T (x.val γ) (y.val γ)).run E.P wx=.ok (r.val γ) wx
 sls:∀ T∈E.sls,∃ e,E.P.underlying T=some (.slice e)
 bss:∀ b∈E.bss,b.Good E.P
 slc:∀ T x lo hi r n,E.slc T x lo hi=some r->x.lt n=true->r.ok/\r.lt n=true/\∀ γ wx,(Instr.sliceAt T (x.val γ) (lo.map (·.val γ)) (hi.map (·.val γ)) none).run E.P wx=.ok (r.val γ) wx
 idx:∀ T x y r n,E.idx T x y=some r->x.lt n=true->x.ok->y.ok->r.ok/\r.lt n=true/\∀ γ wx,(Instr.index T (x.val γ) (y.val γ)).run E.P wx=.ok (r.val γ) wx
 cnv:∀ F T x r n,E.cnv F T x=some r->x.lt n=true->x.ok->r.ok/\r.lt n=true/\∀ γ wx,(convert F T (x.val γ)).run E.P wx=.ok (r.val γ) wx
 rld:∀ T x o j z r p n,E.rld T x o j z=some (r,p)->All p->x.lt n=true->x.ok->r.ok/\r.lt n=true/\∀ γ g t wx,wx.heap[g]?=some (.cells (x.cells γ).toArray t (0,0))->(Instr.loadAt T (.pointer (some ⟨g,o+j*z,none⟩))).run E.P wx=.ok (r.val γ) wx
 slk:∀ T∈E.slk,∃ e,E.P.underlying T=some (.slice e)
 mkr:∀ n M lk op r p R,E.mkr n M lk op=some (r,p,R)->All p->E.base<=n->(∀ t x,lk t=some x->x.ok/\x.lt n=true)->(∀ r∈M,r.2.1.ok/\r.2.1.lt n=true)->r.ok/\r.lt (n+R.length)=true/\(∀ q∈R,q.2.1.ok/\q.2.1.lt (n+R.length)=true/\n<=q.1/\q.1<n+R.length) /\
  ∀ γ (a:Act) (o:Oper) wx,o.op=op->(∀ t x,lk t=some x->a.tmps.getD t undef=x.val γ/\x.ok/\x.lt n=true)->Lies γ n M wx->∃ v w',(execOp a.eval o).run E.P wx=.ok (.value v) w'/\Made γ n r R wx (.returned v) w'
def constS(v:Value):SV:=.v v
theorem constS_ok(γ:Pl)(n:Nat)(v:Value):(constS v).val γ=v/\(constS v).ok/\(constS v).lt n=true:=⟨rfl,trivial,rfl⟩
def natS:SV->Option Nat
 | .na x=>some x
 | .v (.int .i64 (.ofNat k))=>if k<2^62 then some k else none
 | _=>none
theorem natS_ok{γ:Pl}{x:SV}{k:Nat}(h:natS x=some k)(hx:x.ok):x.val γ=.int .i64 (k:Nat)/\k<2^62:=by
 unfold natS at h
 split at h
 ·cases h;exact⟨rfl,hx⟩
 ·split at h
  ·rename_i hk;cases h;exact⟨rfl,hk⟩
  ·cases h
 ·cases h
def normS(x:SV):SV:=match natS x with
 | some k=>.na k
 | none=>x
theorem normS_ok{γ:Pl}{n:Nat}{x:SV}(hx:x.ok)(hl:x.lt n=true):(normS x).val γ=x.val γ/\(normS x).ok/\(normS x).lt n=true:=by
 unfold normS
 split
 ·rename_i k h
  have:=natS_ok (γ:=γ) h hx;exact⟨this.1.symm,this.2,rfl⟩
 ·exact⟨rfl,hx,hl⟩
def opnd(lk:Nat->Option SV):Operand->Option SV
 | .tmp t=>lk t
 | .const v=>some (constS v)
 | .func f=>some (.v (.func (.func f) #[] #[]))
 | .global _=>none
def opndO(lk:Nat->Option SV):Option Operand->Option (Option SV)
 | none=>some none
 | some x=>(opnd lk x).map some
def opnds(lk:Nat->Option SV):List Operand->Option (List SV)
 | []=>some []
 | x::l=>match opnd lk x,opnds lk l with
  | some u,some r=>some (u::r)
  | _,_=>none
def fnOf:Value->Option FuncId
 | .func (.func f) a b=>if a.size=0/\b.size=0 then some f else none
 | _=>none
theorem fnOf_ok{v:Value}{f:FuncId}(h:fnOf v=some f):v=.func (.func f) #[] #[]:=by
 unfold fnOf at h
 split at h
 ·split at h
  ·rename_i e
   cases h;rw[Array.eq_empty_of_size_eq_zero e.1,Array.eq_empty_of_size_eq_zero e.2]
  ·cases h
 ·cases h
def callX(lk:Nat->Option SV)(c:Call):Option (FuncId × List SV):=match c.callee with
 | .value (.func f)=>(opnds lk c.args.toList).map (f,·)
 | .value (.tmp t)=>match lk t,opnds lk c.args.toList with
  | some (.fn f k x),some l=>if (capsOf k x).length=k then some (f,l++capsOf k x)else none
  | some (.fv f g),some l=>some (f,.p g 0 0 0::l)
  | some (.v v),some l=>(fnOf v).map (·,l)
  | _,_=>none
 | _=>none
def partsOf(lk:Nat->Option SV):List (Nat × Operand)->Option (List (Nat × SV))
 | []=>some []
 | x::l=>match opnd lk x.2,partsOf lk l with
  | some u,some r=>some ((x.1,u)::r)
  | _,_=>none
def bitOf(c:Bool):SV->Option (Bool × List Ob)
 | .b t=>some (t,[])
 | .v (.bool t)=>some (t,[])
 | .gd g (.b t)=>some (t,[.same c g])
 | .gd g (.v (.bool t))=>some (t,[.same c g])
 | _=>none
def rowIn(g:Nat):Rows->Option (SV × TypeId)
 | []=>none
 | r::l=>if r.1=g then some r.2 else rowIn g l
def fillS(fs:List (Nat × Nat)):SV->List (Nat × SV)->Option SV
 | z,[]=>some z
 | z,(i,x)::l=>match fs[i]? with
  | some (off,sz)=>if x.size=sz then match SV.put x off z with
   | some z'=>fillS fs z' l
   | none=>none
   else none
  | none=>none
def opVal(E:Env)(lk:Nat->Option SV)(M:Rows):Op->Option (SV × List Ob)
 | .move x=>(opnd lk x).map (·,[])
 | .assign x=>(opnd lk x).map (·,[])
 | .pick c x y=>match opnd lk c with
  | some (.v (.bool true))=>(opnd lk x).map (·,[])
  | some (.v (.bool false))=>(opnd lk y).map (·,[])
  | some (.b t)=>match (opnd lk x).bind (bitOf t),(opnd lk y).bind (bitOf (!t))with
   | some (u,p),some (v,q)=>some (.b (bif t then u else v),p++q)
   | _,_=>none
  | _=>none
 | .load T x=>match opnd lk x,tyIn T E.tys with
  | some (.p g o j z),some y=>match rowIn g M with
   | some r=>if z=0 then (SV.sub y.m o y.sz r.1).map (·,[])else E.rld T r.1 o j z
   | none=>E.xld T g o j z
  | _,_=>none
 | .build T parts=>match partsOf lk parts.toList with
  | some l=>match tyIn T E.tys with
   | some y=>if y.fs=[]then (E.bld T l).map (·,[])else if y.m=true/\l.all (fun x=>x.2.one||x.2.many)=true then match fillS y.fs y.zero l with
    | some r=>if r.many=true then some (r,[])else none
    | none=>none
    else none
   | none=>none
  | none=>none
 | .fieldAddr T x i=>match opnd lk x,tyIn T E.tys with
  | some (.p g o j z),some y=>match y.fs[i]? with
   | some (off,sz)=>if sz=0 then none else some (.p g (o+off) j z,[])
   | none=>none
  | _,_=>none
 | .extract x i=>match opnd lk x with
  | some (.tu a b)=>if i=0 then some (a,[])else if i=1 then some (b,[])else none
  | _=>none
 | .unOp .not _ x=>match opnd lk x with
  | some (.b t)=>some (.b (!t),[])
  | some (.v (.bool t))=>some (.v (.bool (!t)),[])
  | _=>none
 | .binOp op T x y _=>match opnd lk x,opnd lk y with
  | some u,some v=>E.bop op T u v
  | _,_=>none
 | .indexAddr T x y=>match opnd lk x,opnd lk y with
  | some u,some v=>E.ixa T u v
  | _,_=>none
 | .index T x y=>match opnd lk x,opnd lk y with
  | some u,some v=>(E.idx T u v).map (·,[])
  | _,_=>none
 | .convert F T x=>match opnd lk x with
  | some u=>(E.cnv F T u).map (·,[])
  | none=>none
 | .nilCheck x=>match opnd lk x with
  | some (.p g o j z)=>some (.p g o j z,[])
  | _=>none
 | .slice T x lo hi none=>match opnd lk x,opndO lk lo,opndO lk hi with
  | some u,some l,some h=>(E.slc T u l h).map (·,[])
  | _,_,_=>none
 | .makeFunc (.func f) first caps=>if first.size=0 then match opnds lk caps.toList with
  | some l=>some (.fn f l.length (tuS l),[])
  | none=>none
  else if caps.size=0 then match opnds lk first.toList with
  | some [.p g 0 _ 0]=>some (.fv f g,[])
  | _=>none
  else none
 | .call c=>match c.callee,c.args.toList,c.argTypes.toList with
  | .builtin .len,[x],[T]=>match opnd lk x with
   | some (.s _ _ n _)=>if E.sls.contains T=true then some (.na n,[.ask (n<2^62)])else if E.slk.contains T=true then some (.v (.int .i64 (n:Nat)),[])else none
   | _=>none
  | _,_,_=>none
 | _=>none
section
variable {E:Env} {γ0 γ:Pl} {w0 wx:World} {lk:Nat->Option SV} {M:Rows} {n:Nat} {a:Act} {o:Oper} {x y:Operand} {u v r:SV}
def Holds(γ:Pl)(n:Nat)(lk:Nat->Option SV)(a:Act):Prop:=∀ t x,lk t=some x->a.tmps.getD t undef=x.val γ/\x.ok/\x.lt n=true
theorem opnd_ok(hk:Holds γ n lk a)(h:opnd lk x=some u):a.eval x=u.val γ/\u.ok/\u.lt n=true:=by
 cases x with
 | tmp t=>exact hk t u h
 | const v=>cases h;have:=constS_ok γ n v;exact⟨this.1.symm,this.2⟩
 | func f=>cases h;exact⟨rfl,trivial,rfl⟩
 | global g=>cases h
theorem opndO_ok(hk:Holds γ n lk a){x:Option Operand}{u:Option SV}(h:opndO lk x=some u):x.map a.eval=u.map (·.val γ):=by
 cases x with
 | none=>cases h;rfl
 | some x =>
  obtain⟨v,hv,e⟩:=Option.map_eq_some_iff.1 h;subst e;exact congrArg some (opnd_ok hk hv).1
theorem opnds_ok(hk:Holds γ n lk a):∀ {l:List Operand} {us:List SV},opnds lk l=some us->l.map a.eval=us.map (·.val γ)/\∀ u∈us,u.ok/\u.lt n=true
 | [],us,h=>by cases h;exact⟨rfl,fun u hu=>by cases hu⟩
 | x::l,us,h=>by
  unfold opnds at h
  split at h
  ·rename_i u r hu hr
   cases h;have h1:=opnd_ok hk hu;have h2:=opnds_ok hk hr;refine⟨by rw[List.map_cons,List.map_cons,h1.1,h2.1],fun v hv=>?_⟩;rcases List.mem_cons.1 hv with rfl | hv
   ·exact h1.2
   ·exact h2.2 v hv
  ·cases h
theorem partsOf_ok(hk:Holds γ n lk a):∀ {l:List (Nat × Operand)} {us:List (Nat × SV)},partsOf lk l=some us->l.map (fun x=>(x.1,a.eval x.2))=us.map (fun x=>(x.1,x.2.val γ))/\∀ u∈us,u.2.ok/\u.2.lt n=true
 | [],us,h=>by cases h;exact⟨rfl,fun u hu=>by cases hu⟩
 | x::l,us,h=>by
  unfold partsOf at h
  split at h
  ·rename_i u r hu hr
   cases h;have h1:=opnd_ok hk hu;have h2:=partsOf_ok hk hr;refine⟨by rw[List.map_cons,List.map_cons,h1.1,h2.1],fun v hv=>?_⟩;rcases List.mem_cons.1 hv with rfl | hv
   ·exact h1.2
   ·exact h2.2 v hv
  ·cases h
theorem bitOf_ok{c:Bool}{x:SV}{t:Bool}{p:List Ob}(h:bitOf c x=some (t,p))(hc:c=true)(hp:All p):x.val γ=.bool t:=by
 unfold bitOf at h
 split at h <;> cases h
 ·rfl
 ·rfl
 ·have:_=true:=hp _ (.head _) hc
  subst this;rfl
 ·have:_=true:=hp _ (.head _) hc
  subst this;rfl
theorem rowIn_ok{g:Nat}{q:SV × TypeId}:∀ {M:Rows},rowIn g M=some q->(g,q.1,q.2)∈M
 | [],h=>by cases h
 | r::l,h=>by
  unfold rowIn at h
  split at h
  ·rename_i e;cases h;subst e;exact .head _
  ·exact .tail _ (rowIn_ok h)
theorem desc_of{P:Program}{T:TypeId}{m:Bool}(h:(P.underlying T).map isRow=some m):∃ d,P.underlying T=some d/\isRow d=m:=by
 cases hu:P.underlying T with
 | none=>rw[hu]at h;cases h
 | some d=>rw[hu]at h;exact⟨d,rfl,Option.some.inj h⟩
theorem ld_one{P:Program}{w:World}{g o:Nat}{cs:Array Value}{t T:TypeId}{d:TypeDesc}{v:Value}(hg:w.heap[g]?=some (.cells cs t (0,0)))(hc:cs[o]?=some v)(hu:P.underlying T=some d)(hd:isRow d=false) :
  (Instr.loadAt T (.pointer (some ⟨g,o,none⟩))).run P w=.ok v w:=by
 have c0:w.cell? ⟨g,o,none⟩=some v:=(cell_of_row _ _ o _ _ _ hg).trans hc;have hagg:(isAgg T).run P w=.ok false w:=by
  unfold isAgg;rw[Sem.run_bind,run_underlying hu w];cases d <;> first | rfl | cases hd
 simp[Instr.loadAt,Instr.sureAddr,loadVar,Sem.run_bind,hagg,c0]
theorem load_ok{P:Program}{w:World}{g off sz:Nat}{t T:TypeId}{m:Bool}{x r:SV}(hg:w.heap[g]?=some (.cells (x.cells γ).toArray t (0,0)))(hd:(P.underlying T).map isRow=some m)(hs:(P.info? T).map (·.size)=some sz)(h:SV.sub m off sz x=some r) :
  (Instr.loadAt T (.pointer (some ⟨g,off,none⟩))).run P w=.ok (r.val γ) w:=by
 have q:=SV.sub_ok γ h;obtain⟨d,hu,hm⟩:=desc_of hd;cases m with
 | true =>
  rw[SV.val_many q.kind];refine ld_mid (r.cells γ).toArray hg (fun j hj=>?_) hu (by cases d <;> first | rfl | cases hm) ?_
  ·have hj':j<sz:=by
    have:=SV.cells_len γ r;rw[List.size_toArray,this,q.size]at hj;exact hj
   simpa using q.cells j hj'
  ·rw[hs,List.size_toArray,SV.cells_len,q.size]
 | false =>
  have ho:r.one=true:=q.kind;refine ld_one hg ?_ hu hm;have h1:=SV.one_size ho;have:=q.cells 0 (by have:=q.size;omega);rw[SV.val_one ho]at this;simpa using this
theorem cells_one{v:Value}(h:v.oneCell'=true):v.cells=#[v]:=by
 cases v <;> first | rfl | cases h
theorem fold_put(off:Nat):∀(vs:List Value) (j0:Nat) (cs:Array Value),off+j0+vs.length<=cs.size->((vs.zipIdx j0).foldl (fun cs (p:Value × Nat)=>cs.setIfInBounds (off+p.2) p.1) cs).size=cs.size /\
  ∀ k:Nat,((vs.zipIdx j0).foldl (fun cs (p:Value × Nat)=>cs.setIfInBounds (off+p.2) p.1) cs)[k]?=if off+j0<=k/\k<off+j0+vs.length then vs[k - (off+j0)]? else cs[k]?
 | [],j0,cs,_=>⟨rfl,fun k=>by rw[if_neg (by simp only[List.length_nil];omega)];rfl⟩
 | v::vs,j0,cs,h=>by
  simp only[List.length_cons]at h;have ih:=fold_put off vs (j0+1) (cs.setIfInBounds (off+j0) v) (by simp only[Array.size_setIfInBounds];omega);simp only[List.zipIdx_cons,List.foldl_cons];refine⟨by rw[ih.1,Array.size_setIfInBounds],fun k=>?_⟩;rw[ih.2 k];simp only[List.length_cons];by_cases h1:k=off+j0
  ·subst h1
   rw[if_neg (by omega),if_pos (by omega),Nat.sub_self];rw[Array.getElem?_setIfInBounds_self_of_lt (by omega)];rfl
  ·by_cases h2:off+(j0+1)<=k/\k<off+(j0+1)+vs.length
   ·rw[if_pos h2,if_pos (by omega),show k - (off+j0)=(k - (off+(j0+1)))+1 by omega,List.getElem?_cons_succ]
   ·rw[if_neg h2,if_neg (by omega),Array.getElem?_setIfInBounds_ne (by omega)]
theorem fill_ok{fs:List (Nat × Nat)}:∀ {l:List (Nat × SV)} {z r:SV},fillS fs z l=some r->(∀ x∈l,(x.2.one||x.2.many)=true)->Instr.fill (fs.toArray[·]?) (z.cells γ).toArray (l.map fun x=>(x.1,x.2.val γ))=some (r.cells γ).toArray
 | [],z,r,h,_=>by cases h;rfl
 | (i,x)::l,z,r,h,hv=>by
  unfold fillS at h
  split at h
  ·rename_i off sz hf
   split at h
   ·rename_i hsz
    split at h
    ·rename_i z' hz
     have q:=SV.put_ok γ hz;have qf:=q.fits;have ih:=fill_ok (l:=l) h (fun y hy=>hv y (.tail _ hy));have hc:(x.val γ).cells=(x.cells γ).toArray:=by
      have:=hv _ (.head _);simp only[Bool.or_eq_true]at this;rcases this with h1 | h1
      ·rw[SV.val_one h1,cells_one (SV.one_cell h1)]
      ·rw[SV.val_many h1]
       rfl
     rw[List.map_cons];unfold Instr.fill;have hf':fs.toArray[i]?=some (off,sz):=by simpa using hf
     have hl:=SV.cells_len γ x;have hlz:=SV.cells_len γ z;have e:((x.cells γ).toArray.zipIdx.foldl (fun cs (p:Value × Nat)=>cs.setIfInBounds (off+p.2) p.1) (z.cells γ).toArray)=(z'.cells γ).toArray:=by
      have f:=fold_put off (x.cells γ) 0 (z.cells γ).toArray (by simp only[List.size_toArray];omega);have e0:(x.cells γ).toArray.zipIdx=((x.cells γ).zipIdx 0).toArray:=by simp
      rw[e0,List.foldl_toArray];apply Array.ext_getElem?;intro k;rw[f.2 k];simp only[List.getElem?_toArray];rw[q.cells k,hl];simp only[Nat.add_zero]
     simp only[hf',hc];rw[if_neg (by simp only[List.size_toArray,Bool.or_eq_true,decide_eq_true_eq,bne_iff_ne,ne_eq,not_or];omega)];exact(congrArg (fun cs=>Instr.fill (fs.toArray[·]?) cs (l.map fun x=>(x.1,x.2.val γ))) e).trans ih
    ·cases h
   ·cases h
  ·cases h
end
end Go.Proofs.YtadfjjfklihaaaaGreat.Sy
namespace Go.Proofs.YtadfjjfklihaaaaGreat.Sy
open Go.RowKit
section
variable {E:Env} {γ0 γ:Pl} {w0 wx:World} {lk:Nat->Option SV} {M:Rows} {n:Nat} {a:Act} {o:Oper} {x y:Operand} {u v r:SV}
theorem map_nil{x:Option SV}{r:SV}{p:List Ob}(h:x.map (·,([]:List Ob))=some (r,p)):x=some r:=by
 cases x with
 | none=>cases h
 | some q=>cases h;rfl
theorem fld_ok{P:Program}{w:World}{T:TypeId}{fs:List (Nat × Nat)}{i g o off sz:Nat}(hf:fieldsOf P T=some fs)(hi:fs[i]?=some (off,sz))(hz:sz≠0) :
  (Instr.fieldAt T (.pointer (some ⟨g,o,none⟩)) i).run P w=.ok (.pointer (some ⟨g,o+off,none⟩)) w:=by
 unfold fieldsOf at hf
 split at hf
 ·rename_i fields hu
  have hm:∀(l:List Field) (r:List (Nat × Nat)),l.mapM (fun(f:Field)=>(P.info? f.type).map fun i=>(f.offset,i.size))=some r->∀(i:Nat) (q:Nat × Nat),r[i]?=some q->∃(f:Field) (t:TypeInfo),l[i]?=some f/\P.info? f.type=some t/\q=(f.offset,t.size):=by
   intro l
   induction l with
   | nil=>intro r h i q hq;simp at h;subst h;simp at hq
   | cons f l ih =>
    intro r h i q hq;simp only[List.mapM_cons,Option.bind_eq_bind,Option.pure_def]at h;cases ht:P.info? f.type with
    | none=>simp[ht]at h
    | some t =>
     cases hr:l.mapM (fun(f:Field)=>(P.info? f.type).map fun i=>(f.offset,i.size))with
     | none=>simp[ht,hr]at h
     | some rest =>
      simp[ht,hr]at h;subst h;cases i with
      | zero=>simp at hq;exact⟨f,t,rfl,ht,hq.symm⟩
      | succ i=>exact ih rest hr i q (by simpa using hq)
  obtain⟨f,t,h1,h2,h3⟩:=hm _ _ hf i _ hi;cases h3;have h1':fields[i]?=some f:=by simpa using h1
  have hadd:∀ j,(⟨g,o,none⟩:Addr).add j=⟨g,o+j,none⟩:=fun j=>by unfold Addr.add;split <;> simp_all
  simp[Instr.fieldAt,run_underlying hu,h1',Instr.sureAddr,fieldPlace,sizeOf,typeInfo,h2,hz,hadd]
 ·cases hf
theorem len_any{P:Program}{T e ty:TypeId}{b:Option Addr}{n c:Nat}(hu:P.underlying T=some (.slice e))(w:World):(Builtin.len_ #[T] ty #[.slice b n c]).run P w=.ok (.int .i64 (n:Nat)) w:=by
 simp[Builtin.len_,run_underlying hu];rfl
theorem gr_sl{P:Program}{w:World}{T:TypeId}{x:Operand}{lo hi:Option Operand}{p v:Value}{l h:Option Value}(ho:o.op=.slice T x lo hi none)(hx:a.eval x=p)(hl:lo.map a.eval=l)(hh:hi.map a.eval=h)(hr:(Instr.sliceAt T p l h none).run P w=.ok v w):(execOp a.eval o).run P w=.ok (.value v) w:=by
 unfold execOp;rw[ho];simp only[hx,hl,hh,Option.map_none,Sem.run_bind,hr,Result.andThen_ok,Sem.run_pure]
theorem gr_ix{P:Program}{w:World}{T:TypeId}{x y:Operand}{p i v:Value}(ho:o.op=.index T x y)(hx:a.eval x=p)(hy:a.eval y=i)(hr:(Instr.index T p i).run P w=.ok v w):(execOp a.eval o).run P w=.ok (.value v) w:=by
 unfold execOp;rw[ho];simp only[hx,hy,Sem.run_bind,hr,Result.andThen_ok,Sem.run_pure]
theorem gr_cv{P:Program}{w:World}{F T:TypeId}{x:Operand}{p v:Value}(ho:o.op=.convert F T x)(hx:a.eval x=p)(hr:(convert F T p).run P w=.ok v w):(execOp a.eval o).run P w=.ok (.value v) w:=by
 unfold execOp;rw[ho];simp only[hx,Sem.run_bind,hr,Result.andThen_ok,Sem.run_pure]
theorem opVal_ok(G:E.Good γ0 w0)(hA:Agree E γ0 γ)(hb:E.base<=n)(hk:Holds γ n lk a)(hM:Lies γ n M wx)(hB:Below w0.heap.size w0 wx){p:List Ob}(h:opVal E lk M o.op=some (r,p))(hp:All p) :
  (execOp a.eval o).run E.P wx=.ok (.value (r.val γ)) wx/\r.ok/\r.lt n=true:=by
 obtain⟨op,ho⟩:∃ op,o.op=op:=⟨_,rfl⟩
 rw[ho]at h;cases op with
 | move x =>
  have q:=opnd_ok hk (map_nil h);exact⟨run_assign (.inr ho) q.1,q.2⟩
 | assign x =>
  have q:=opnd_ok hk (map_nil h);exact⟨run_assign (.inl ho) q.1,q.2⟩
 | pick c x y =>
  dsimp only[opVal]at h
  split at h
  ·rename_i hc
   have q:=opnd_ok hk (map_nil h);exact⟨run_pick2 c x y true _ ho (opnd_ok hk hc).1 (by rw[if_pos rfl];exact q.1),q.2⟩
  ·rename_i hc
   have q:=opnd_ok hk (map_nil h);exact⟨run_pick2 c x y false _ ho (opnd_ok hk hc).1 (by rw[if_neg (by simp)];exact q.1),q.2⟩
  ·rename_i t hc
   split at h
   ·rename_i u p1 v p2 h1 h2
    cases h;refine⟨run_pick2 c x y t _ ho (opnd_ok hk hc).1 ?_,trivial,rfl⟩;cases t with
    | true =>
     rw[if_pos rfl];cases hx:opnd lk x with
     | none=>rw[hx]at h1;cases h1
     | some sx =>
      rw[hx]at h1;rw[(opnd_ok hk hx).1];exact bitOf_ok (γ:=γ) h1 rfl fun q hq=>hp q (List.mem_append_left _ hq)
    | false =>
     rw[if_neg (by simp)];cases hx:opnd lk y with
     | none=>rw[hx]at h2;cases h2
     | some sx =>
      rw[hx]at h2;rw[(opnd_ok hk hx).1];exact bitOf_ok (γ:=γ) h2 rfl fun q hq=>hp q (List.mem_append_right _ hq)
   ·cases h
  ·cases h
 | load T x =>
  dsimp only[opVal]at h
  split at h
  ·rename_i g o' j z y hx hy
   have q:=opnd_ok hk hx;have ty:=G.tys _ (tyIn_ok hy).1
   split at h
   ·rename_i rw_ hr
    split at h
    ·rename_i hz
     subst hz;have hs:=map_nil h;have hm:=hM _ (rowIn_ok hr);have hd:=ty.d;have hsz:=ty.sz;rw[(tyIn_ok hy).2]at hd hsz;have pt:=SV.sub_ok γ hs;refine⟨gr_load ho q.1 ?_,pt.ok hm.2.1,pt.lt _ hm.2.2⟩;show(Instr.loadAt T (.pointer (some ⟨γ g,o'+j*0,none⟩))).run E.P wx=_;rw[Nat.mul_zero,Nat.add_zero];exact load_ok hm.1 hd hsz hs
    ·have hm:=hM _ (rowIn_ok hr)
     have hg:=G.rld _ _ _ _ _ _ _ n h hp hm.2.2 hm.2.1;exact⟨gr_load ho q.1 (hg.2.2 γ _ _ wx hm.1),hg.1,hg.2.1⟩
   ·have hx':=G.xld _ _ _ _ _ _ _ h hp
    exact⟨gr_load ho q.1 (hx'.2.2.2 γ hA wx hB),hx'.1,SV.lt_mono hb hx'.2.1⟩
  ·cases h
 | build T parts =>
  dsimp only[opVal]at h
  split at h
  ·rename_i l hl
   have q:=partsOf_ok hk hl;have hrun:∀ cs,E.P.built T (l.map fun x=>(x.1,x.2.val γ))=some cs->(execOp a.eval o).run E.P wx=.ok (.value (.agg cs)) wx:=by
    intro cs hcs;have e:(parts.map fun(x:Nat × Operand)=>(x.1,a.eval x.2)).toList=l.map fun x=>(x.1,x.2.val γ):=by
     rw[Array.toList_map];exact q.1
    have hr:=run_build (P:=E.P) wx T (parts.map fun(x:Nat × Operand)=>(x.1,a.eval x.2)) cs (by rw[e];exact hcs);unfold execOp;rw[ho];simp only[Sem.run_bind,hr,Result.andThen_ok,Sem.run_pure]
   split at h
   ·rename_i y hy
    split at h
    ·have hb':=G.bld _ _ _ (map_nil h) (fun x hx=>(q.2 x hx).1)
     refine⟨?_,hb'.1,SV.lt_mono (Nat.zero_le _) hb'.2.1⟩;rw[SV.val_many hb'.2.2.1];exact hrun _ (hb'.2.2.2 γ)
    ·rename_i hne
     split at h
     ·rename_i hm
      split at h
      ·rename_i rr hf
       split at h
       ·rename_i hmany
        cases h;have ty:=G.tys _ (tyIn_ok hy).1;have hT:=(tyIn_ok hy).2;have hv:=List.all_eq_true.1 hm.2;have hz:((E.P.info? T).bind (·.zero)).map (·.cells)=some (y.zero.cells γ).toArray:=by
         rw[<- (SV.lt_same (γ:=fun _=>0) (δ:=γ) (n:=0) (fun k hk=>absurd hk (Nat.not_lt_zero _)) ty.zlt).2.1,<- hT];exact ty.zero
        have hfs:=ty.fs hne;rw[hT]at hfs;have hfill:=fill_ok (γ:=γ) hf hv;have hbuilt:E.P.built T (l.map fun x=>(x.1,x.2.val γ))=some (r.cells γ).toArray:=by
         unfold Program.built;unfold fieldsOf at hfs
         split at hfs
         ·rename_i fields hu
          cases hi:E.P.info? T with
          | none=>rw[hi]at hz;cases hz
          | some it =>
           rw[hi]at hz;cases hzz:it.zero with
           | none=>rw[Option.bind_some,hzz]at hz;cases hz
           | some zv =>
            rw[Option.bind_some,hzz]at hz;have hz':zv.cells=(y.zero.cells γ).toArray:=Option.some.inj hz;simp only[hu,hfs,hzz,hz'];exact hfill
         ·cases hfs
        have okp:∀(fs:List (Nat × Nat)) (l:List (Nat × SV)) (z r:SV),fillS fs z l=some r->(∀ x∈l,x.2.ok/\x.2.lt n=true)->z.ok->z.lt n=true->r.ok/\r.lt n=true:=by
         intro fs l
         induction l with
         | nil=>intro z r h _ h1 h2;cases h;exact⟨h1,h2⟩
         | cons x l ih =>
          intro z r h hl h1 h2;obtain⟨i,x⟩:=x;unfold fillS at h
          split at h
          ·split at h
           ·split at h
            ·rename_i z' hz
             have q:=SV.put_ok γ hz;have hx:=hl _ (.head _);exact ih z' r h (fun y hy=>hl y (.tail _ hy)) (q.ok h1 hx.1) (q.lt _ h2 hx.2)
            ·cases h
           ·cases h
          ·cases h
        have:=okp _ _ _ _ hf q.2 ty.zok (SV.lt_mono (Nat.zero_le _) ty.zlt);refine⟨?_,this⟩;rw[SV.val_many hmany];exact hrun _ hbuilt
       ·cases h
      ·cases h
     ·cases h
   ·cases h
  ·cases h
 | fieldAddr T x i =>
  dsimp only[opVal]at h
  split at h
  ·rename_i g o' j z y hx hy
   have q:=opnd_ok hk hx;have ty:=G.tys _ (tyIn_ok hy).1
   split at h
   ·rename_i off sz hf
    split at h
    ·cases h
    ·rename_i hz
     cases h;have hfs:=ty.fs (by intro e;rw[e]at hf;cases hf);rw[(tyIn_ok hy).2]at hfs;refine⟨gr_fld ho q.1 ?_,trivial,q.2.2⟩;show(Instr.fieldAt T (.pointer (some ⟨γ g,o'+j*z,none⟩)) i).run E.P wx=.ok (.pointer (some ⟨γ g,o'+off+j*z,none⟩)) wx;rw[show o'+off+j*z=o'+j*z+off by omega];exact fld_ok hfs hf hz
   ·cases h
  ·cases h
 | extract x i =>
  dsimp only[opVal]at h
  split at h
  ·rename_i s t hx
   have q:=opnd_ok hk hx;have hl:s.lt n=true/\t.lt n=true:=by
    have:=q.2.2;simpa only[SV.lt,Bool.and_eq_true]using this
   split at h
   ·rename_i hi
    cases h;subst hi;exact⟨gr_ext ho q.1 rfl,q.2.1.1,hl.1⟩
   ·split at h
    ·rename_i hi
     cases h;subst hi;exact⟨gr_ext ho q.1 rfl,q.2.1.2,hl.2⟩
    ·cases h
  ·cases h
 | unOp op T x =>
  cases op <;> first | cases h | skip
  dsimp only[opVal]at h
  split at h
  ·rename_i t hx
   cases h;exact⟨gr_un ho (opnd_ok hk hx).1 rfl,trivial,rfl⟩
  ·rename_i t hx
   cases h;exact⟨gr_un ho (opnd_ok hk hx).1 rfl,trivial,rfl⟩
  ·cases h
 | binOp op T x y t =>
  dsimp only[opVal]at h
  split at h
  ·rename_i u v hu hv
   have q1:=opnd_ok hk hu;have q2:=opnd_ok hk hv;have hg:=G.bop _ _ _ _ _ _ h hp q1.2.1 q2.2.1;exact⟨run_bin ho q1.1 q2.1 (hg.2.2 γ x y wx).1 (hg.2.2 γ x y wx).2,hg.1,SV.lt_mono (Nat.zero_le _) hg.2.1⟩
  ·cases h
 | indexAddr T x y =>
  dsimp only[opVal]at h
  split at h
  ·rename_i u v hu hv
   have q1:=opnd_ok hk hu;have q2:=opnd_ok hk hv;have hg:=G.ixa _ _ _ _ _ n h hp q1.2.2 q1.2.1 q2.2.1;exact⟨gr_idx ho q1.1 q2.1 (hg.2.2 γ wx),hg.1,hg.2.1⟩
  ·cases h
 | index T x y =>
  dsimp only[opVal]at h
  split at h
  ·rename_i u v hu hv
   have q1:=opnd_ok hk hu;have q2:=opnd_ok hk hv;have hg:=G.idx _ _ _ _ n (map_nil h) q1.2.2 q1.2.1 q2.2.1;exact⟨gr_ix ho q1.1 q2.1 (hg.2.2 γ wx),hg.1,hg.2.1⟩
  ·cases h
 | convert F T x =>
  dsimp only[opVal]at h
  split at h
  ·rename_i u hu
   have q1:=opnd_ok hk hu;have hg:=G.cnv _ _ _ _ n (map_nil h) q1.2.2 q1.2.1;exact⟨gr_cv ho q1.1 (hg.2.2 γ wx),hg.1,hg.2.1⟩
  ·cases h
 | nilCheck x =>
  dsimp only[opVal]at h
  split at h
  ·rename_i g o' j z hx
   cases h;have q:=opnd_ok hk hx;refine⟨?_,q.2⟩;unfold execOp;rw[ho];simp[q.1,SV.val,SV.sc,Sem.run_pure]
  ·cases h
 | slice T x lo hi m =>
  cases m <;> first | (cases h;done) | skip
  dsimp only[opVal]at h
  split at h
  ·rename_i u l hh hu hl hhh
   have q1:=opnd_ok hk hu;have hg:=G.slc _ _ _ _ _ n (map_nil h) q1.2.2;exact⟨gr_sl ho q1.1 (opndO_ok hk hl) (opndO_ok hk hhh) (hg.2.2 γ wx),hg.1,hg.2.1⟩
  ·cases h
 | makeFunc f first caps =>
  cases f <;> first | (cases h;done) | skip
  dsimp only[opVal]at h
  split at h
  ·rename_i hf
   split at h
   ·rename_i l hl
    cases h;have q:=opnds_ok hk hl;have g:=tuS_ok (γ:=γ) (n:=n) q.2;refine⟨?_,g.2⟩;have e:caps.map a.eval=(l.map (·.val γ)).toArray:=by
     apply Array.ext';rw[Array.toList_map];exact q.1
    unfold execOp;rw[ho];show(do let v <- Instr.makeFunc _ (first.map a.eval) (caps.map a.eval);pure (.value v):Sem Next).run E.P wx=.ok (.value (.func _ #[] (tuL l.length ((tuS l).val γ)).toArray)) wx;rw[g.1,e,Array.eq_empty_of_size_eq_zero hf];simp[Instr.makeFunc,Sem.run_bind,Sem.run_pure]
   ·cases h
  ·split at h
   ·rename_i hc
    split at h
    ·rename_i g j hl
     cases h;have q:=opnds_ok hk hl;refine⟨?_,trivial,(q.2 _ (.head _)).2⟩;have e:first.map a.eval=#[.pointer (some ⟨γ g,0,none⟩)]:=by
      apply Array.ext';rw[Array.toList_map,q.1];show[Value.pointer (some ⟨γ g,0+j*0,none⟩)]=_;rw[Nat.mul_zero]
     unfold execOp;rw[ho];show(do let v <- Instr.makeFunc _ (first.map a.eval) (caps.map a.eval);pure (.value v):Sem Next).run E.P wx=.ok (.value (.func _ #[.pointer (some ⟨γ g,0,none⟩)] #[])) wx;rw[e,Array.eq_empty_of_size_eq_zero hc];simp[Instr.makeFunc,Sem.run_bind,Sem.run_pure]
    ·cases h
   ·cases h
 | call c =>
  dsimp only[opVal]at h
  split at h
  ·rename_i x T hc ha ht
   split at h
   ·rename_i g o' n c' hx
    have q:=opnd_ok hk hx;have main:(∃ e,E.P.underlying T=some (.slice e))->(execOp a.eval o).run E.P wx=.ok (.value (.int .i64 (n:Nat))) wx:=fun⟨e,he⟩=>by
     obtain⟨ce,as_,ts⟩:=c;dsimp only at hc ha ht;have h1:as_=#[x]:=by apply Array.ext';rw[ha]
     have h2:ts=#[T]:=by apply Array.ext';rw[ht]
     subst hc;subst h1;subst h2;have hl:=len_any (ty:=o.type) (b:=some ⟨γ g,o',none⟩) (n:=n) (c:=c') he wx;unfold execOp;rw[ho];show(do let d <- resolve a.eval _ o.type;invoke d.target d.args:Sem Next).run E.P wx=_;unfold resolve invoke;simp only[Sem.run_bind,Sem.run_pure,Result.andThen_ok];rw[show Array.map a.eval #[x]=#[.slice (some ⟨γ g,o',none⟩) n c'] by simp[q.1,SV.val,SV.sc]];unfold builtin;show(do let v <- Builtin.len_ #[T] o.type #[.slice (some ⟨γ g,o',none⟩) n c'];pure (.value v):Sem Next).run E.P wx=.ok (.value (.int .i64 (n:Nat))) wx;rw[Sem.run_bind,hl,Result.andThen_ok,Sem.run_pure]
    split at h
    ·rename_i hT
     cases h;exact⟨main (G.sls T (by simpa using hT)),hp _ (.head _),rfl⟩
    ·split at h
     ·rename_i hT
      cases h;exact⟨main (G.slk T (by simpa using hT)),trivial,rfl⟩
     ·cases h
   ·cases h
  ·cases h
 | _=>cases h
end
end Go.Proofs.YtadfjjfklihaaaaGreat.Sy
