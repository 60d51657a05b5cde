/- What an operation does to values told by letters. No program is named here. (Cut to what is reached, written closely: Go · Gw · Gt · Gi · SyV · SyE.) -/
import Derived.Test.YthnckclbeecnmaaGreatP16
import Derived.Maps.AppendAt
import Derived.Test.YthnckclbeecnmaaGreatProg
import Derived.Test.YthnckclbeecnmaaGreatP5
import Derived.Deep.MidRow
set_option linter.all false
set_option maxRecDepth 100000
set_option maxHeartbeats 8000000
namespace Go.Proofs.YthnckclbeecnmaaGreat
open Go.RowKit
section
variable {P:Program} {ops:Array Oper} {Q:Exit->Act->World->Prop} {C:(Nat->Value)->World->Prop} {φ:Nat->(Nat->Value)->World->Prop} {R:(Nat->Value)->World->World->Prop} {a0:Act}
/-! The tail's operations. -/
variable {rest:List Oper} {o:Oper} {a:Act} {w:World}
theorem run_assign{x:Operand}{v:Value}(ho:o.op=.assign x\/o.op=.move x)(hx:a.eval x=v):(execOp a.eval o).run P w=.ok (.value v) w:=by
 unfold execOp;rcases ho with ho | ho <;> rw[ho] <;> simp only[hx,Sem.run_pure]
end
/-! The control around them. -/
section
variable {P:Program} {Q:Exit->Act->World->Prop} {next:Act->World->Prop} {a:Act} {w:World}
theorem enter{f:FuncId}{fn:Func}{c:Code}{args:Array Value}{R:Ending->World->Prop}(hf:P.funcs[f]?=some fn)(hb:fn.body=some c)
  (h:∀ a:Act,a.tmps.size=args.size+(fn.ntmps - args.size)->a.defers=[]->(∀ t,a.tmps.getD t undef=args.getD t undef)->c.wp P (bodyPost P fn R) a w):Calls P f args w R:=by
 refine calls_of_wp hf hb (h _ (by simp) rfl fun t=>?_);simp only[Array.getD_eq_getD_getElem?,Array.getElem?_append];by_cases ht:t<args.size
 ·simp[ht]
 ·simp only[ht,if_false]
  rw[Array.getElem?_eq_none (by omega:args.size<=t)];by_cases h2:t - args.size<fn.ntmps - args.size
  ·simp[h2]
  ·simp[h2]
end
/-! What a function has made: blocks,apart,behind what was there. -/
structure HC (w:World) (L:List (Nat × Array Value × TypeId)) (wx:World):Prop where
 old:Below w.heap.size w wx
 rows:∀ p∈L,w.heap.size<=p.1/\wx.heap[p.1]?=some (.cells p.2.1 p.2.2 (0,0))
 nd:L.Pairwise fun p q=>p.1≠q.1
section
variable {w wx w':World} {L:List (Nat × Array Value × TypeId)} {g D:Nat} {cs c0:Array Value} {T:TypeId}
theorem HC.start(w:World):HC w [] w:=⟨Below.refl _ _,fun _ h=>(by cases h),.nil⟩
theorem HC.below(c:HC w L wx)(hb:Below wx.heap.size wx w'):HC w L w' :=
 ⟨c.old.trans (hb.mono c.old.size),fun p hp=>⟨(c.rows p hp).1,(hb.block _ (Array.getElem?_eq_some_iff.1 (c.rows p hp).2).1).trans (c.rows p hp).2⟩,c.nd⟩
theorem HC.cons(c:HC w L wx)(hb:Below wx.heap.size wx w')(hD:wx.heap.size<=D)(hr:w'.heap[D]?=some (.cells cs T (0,0))):HC w ((D,cs,T)::L) w':=by
 have h:=c.below hb;refine⟨h.old,fun p hp=>?_,List.pairwise_cons.2 ⟨fun q hq=>?_,c.nd⟩⟩
 ·rcases List.mem_cons.1 hp with rfl | hp
  ·exact⟨Nat.le_trans c.old.size hD,hr⟩
  ·exact h.rows p hp
 ·have:=(Array.getElem?_eq_some_iff.1 (c.rows q hq).2).1
  show D≠q.1;omega
theorem HC.new(c:HC w L wx)(cs:Array Value)(T:TypeId):HC w ((wx.heap.size,cs,T)::L) (wx.alloc (.cells cs T)) :=
 c.cons ((Below.refl _ _).alloc (Nat.le_refl _) _) (Nat.le_refl _) (heap_alloc_new _ _)
theorem HC.set(A B:List (Nat × Array Value × TypeId))(c:HC w (A++(g,c0,T)::B) wx)(cs:Array Value):HC w (A++(g,cs,T)::B) (wx.setRow g cs):=by
 have hg:=c.rows (g,c0,T) (by simp);have hn:=c.nd;rw[List.pairwise_append,List.pairwise_cons]at hn;refine⟨below_setRow c.old hg.1 _,fun p hp=>?_,?_⟩
 ·rcases List.mem_append.1 hp with hp | hp
  ·have:=hn.2.2 p hp (g,c0,T) (by simp)
   have h1:=c.rows p (by simp[hp]);exact⟨h1.1,(setRow_other _ _ _ _ this).trans h1.2⟩
  ·rcases List.mem_cons.1 hp with rfl | hp
   ·exact⟨hg.1,setRow_heap _ _ _ _ _ _ hg.2⟩
   ·have:=hn.2.1.1 p hp
    have h1:=c.rows p (by simp[hp]);exact⟨h1.1,(setRow_other _ _ _ _ (Ne.symm this)).trans h1.2⟩
 ·rw[List.pairwise_append,List.pairwise_cons]
  exact⟨hn.1,⟨hn.2.1.1,hn.2.1.2⟩,fun p hp q hq=>by
   rcases List.mem_cons.1 hq with rfl | hq
   ·exact hn.2.2 p hp (g,c0,T) (by simp)
   ·exact hn.2.2 p hp q (by simp[hq])⟩
end
/-! Loads and stores of rows. -/
section
variable {P:Program} {w:World} {g:Nat} {cs:Array Value} {t:TypeId}
theorem ld_mid{T:TypeId}{d:TypeDesc}{o:Nat}(part:Array Value)(hg:w.heap[g]?=some (.cells cs t (0,0)))(hp:∀ j,j<part.size->cs[o+j]?=part[j]?)(hu:P.underlying T=some d)(hd:(match d with | .struct _ | .array _ _=>true | _=>false)=true)(hi:(P.info? T).map (·.size)=some part.size) :
  (Instr.loadAt T (.pointer (some ⟨g,o,none⟩))).run P w=.ok (.agg part) w:=by
 have hl:(loadCells ⟨g,o,none⟩ part.toList.length).run P w=.ok part.toList.toArray w :=
  run_loadCells_list (P:=P) w ⟨g,o,none⟩ part.toList (fun j v hv=>by
   have hjn:j<part.size:=by
    have:=(List.getElem?_eq_some_iff.1 hv).1;rwa [Array.length_toList]at this
   have hadd:(⟨g,o,none⟩:Addr).add j=⟨g,o+j,none⟩:=by unfold Addr.add;split <;> simp_all
   rw[hadd,cell_of_row w g (o+j) cs t (0,0) hg,hp j hjn,<- Array.getElem?_toList];exact hv)
 have hv:(loadVar T ⟨g,o,none⟩).run P w=.ok (.agg part) w:=by
  cases hq:P.info? T with
  | none=>simp[hq]at hi
  | some i =>
   have hs:i.size=part.size:=by simpa[hq]using hi
   have hagg:(isAgg T).run P w=.ok true w:=by
    unfold isAgg;rw[Sem.run_bind,run_underlying hu w];cases d <;> simp_all
   simp only[Array.length_toList,Array.toArray_toList]at hl;simp[loadVar,Sem.run_bind,hagg,sizeOf,typeInfo,hq,hs,hl]
 simp only[Instr.loadAt,Instr.sureAddr,Sem.run_bind,Sem.run_pure,Result.andThen_ok,hv]
end
open Go.RowKit
section
variable {P:Program} {ops:Array Oper} {Q:Exit->Act->World->Prop} {a0:Act} {w:World} {L:List Sp} {ps:List Nat} {J:Nat->Array Value}
theorem unwanted_undef{ops:Array Oper}{tmps:Array Value}{o:Oper}{j d:Nat}{b:Bool}(hg:o.guard=some (j,b))(hd:(ops[j]?).bind (·.dst)=some d)(hv:tmps.getD d undef=undef):Region.wanted o (yielded ops tmps)=false:=by
 unfold Region.wanted;rw[hg];have e:yielded ops tmps j=none:=by
  unfold yielded;rw[hd];simp only[Option.bind_some];by_cases h:d<tmps.size
  ·rw[Array.getElem?_eq_getElem h]
   have:tmps[d]=undef:=by simpa[h]using hv
   rw[this];rfl
  ·simp[h]
 simp only[e];rfl
theorem run_pick2{a:Act}{o:Oper}{wx:World}(c x y:Operand)(b:Bool)(r:Value)(ho:o.op=.pick c x y)(hc:a.eval c=.bool b)(hr:(if b=true then a.eval x else a.eval y)=r):(execOp a.eval o).run P wx=.ok (.value r) wx:=by
 unfold execOp;rw[ho];simp[asBool,hc,hr,Sem.run_pure]
variable {rest:List Oper} {o:Oper} {a:Act}
theorem run_box{T:TypeId}{x:Operand}{v:Value}{z:Array Value}(ho:o.op=.box T x)(hx:a.eval x=v)(hz:v.cells=z):(execOp a.eval o).run P w=.ok (.value (.pointer (some ⟨w.heap.size,0,none⟩))) (w.alloc (.cells z T)):=by
 subst hz;unfold execOp;simp only[ho,hx,Sem.run_bind,Instr.box,newVar,newRow,run_newObj_alloc,Sem.run_pure,Result.andThen_ok]
theorem run_bin{op:BinOp}{T t:TypeId}{x y:Operand}{u v r:Value}(ho:o.op=.binOp op T x y t)(hx:a.eval x=u)(hy:a.eval y=v)(hg:(eqGuard op T x y u v).run P w=.ok () w)(hb:(binOp op T u v).run P w=.ok r w):(execOp a.eval o).run P w=.ok (.value r) w:=by
 unfold execOp;rw[ho];simp only[hx,hy,Sem.run_bind,hg,hb,Result.andThen_ok,Sem.run_pure]
end
open Go.RowKit
section
variable {P:Program} {ops:Array Oper} {Q:Exit->Act->World->Prop} {rest:List Oper} {o:Oper} {a:Act} {w:World}
theorem gr_load{T:TypeId}{x:Operand}{p v:Value}(ho:o.op=.load T x)(hx:a.eval x=p)(hr:(Instr.loadAt T p).run P w=.ok v w):(execOp a.eval o).run P w=.ok (.value v) w:=by
 unfold execOp;rw[ho];simp only[hx,Sem.run_bind,hr,Result.andThen_ok,Sem.run_pure]
theorem gr_fld{T:TypeId}{x:Operand}{i:Nat}{p v:Value}(ho:o.op=.fieldAddr T x i)(hx:a.eval x=p)(hr:(Instr.fieldAt T p i).run P w=.ok v w):(execOp a.eval o).run P w=.ok (.value v) w:=by
 unfold execOp;rw[ho];simp only[hx,Sem.run_bind,hr,Result.andThen_ok,Sem.run_pure]
theorem gr_idx{T:TypeId}{x y:Operand}{p i v:Value}(ho:o.op=.indexAddr T x y)(hx:a.eval x=p)(hy:a.eval y=i)(hr:(Instr.indexAt T p i).run P w=.ok v w):(execOp a.eval o).run P w=.ok (.value v) w:=by
 unfold execOp;rw[ho];simp only[hx,hy,Sem.run_bind,hr,Result.andThen_ok,Sem.run_pure]
theorem gr_ext{x:Operand}{i:Nat}{p v:Value}(ho:o.op=.extract x i)(hx:a.eval x=p)(hr:(Instr.extract p i).run P w=.ok v w):(execOp a.eval o).run P w=.ok (.value v) w:=by
 unfold execOp;rw[ho];simp only[hx,Sem.run_bind,hr,Result.andThen_ok,Sem.run_pure]
theorem gr_un{op:UnOp}{T:TypeId}{x:Operand}{u r:Value}(ho:o.op=.unOp op T x)(hx:a.eval x=u)(hr:(Op.unary op u).run P w=.ok r w):(execOp a.eval o).run P w=.ok (.value r) w:=by
 unfold execOp;rw[ho];simp only[hx,Sem.run_bind,hr,Result.andThen_ok,Sem.run_pure]
end
open Go.RowKit
theorem wrap_in{x:Int}(h1:-9223372036854775808<=x)(h2:x<9223372036854775808):IntKind.i64.wrap x=x:=by
 rw[IntKind.wrap_i64];omega
theorem at_slice{T e:TypeId}{sz:Nat}{g o n c i:Nat}(hu:Tryz.prog.underlying T=some (.slice e))(hs:(Tryz.prog.info? e).map (·.size)=some sz)(hi:i<n)(w:World):(Instr.indexAt T (.slice (some ⟨g,o,none⟩) n c) (.int .i64 (i:Nat))).run Tryz.prog w=.ok (.pointer (some ⟨g,o+i*sz,none⟩)) w:=by
 cases hq:Tryz.prog.info? e with
 | none=>simp[hq]at hs
 | some it =>
  have h2:it.size=sz:=by simpa[hq]using hs
  have hadd:∀ j,(⟨g,o,none⟩:Addr).add j=⟨g,o+j,none⟩:=fun j=>by unfold Addr.add;split <;> simp_all
  have h0:(0:Int)<=(i:Nat)/\((i:Nat):Int)<(n:Nat):=⟨by omega,by omega⟩
  simp[Instr.indexAt,asIntOf,run_underlying hu,sizeOf,typeInfo,hq,h0,h2,hadd,Result.andThen];intro h;omega
end Go.Proofs.YthnckclbeecnmaaGreat
namespace Go.Proofs.YthnckclbeecnmaaGreat.Sy
open Go.RowKit
inductive SV
 | w (x:Nat)
 | b (t:Bool)
 | i (k:IntKind) (n:Int)
 | na (x:Nat)
 | v (x:Value)
 | p (g o j z:Nat)
 | s (g o n c:Nat)
 | e
 | ap (h t:SV)
 | tu (x y:SV)
 | gd (t:Bool) (x:SV)
 | fn (f:FuncId) (k:Nat) (x:SV)
 deriving Inhabited
abbrev Pl:=Nat->Nat
def tuL:Nat->Value->List Value
 | 0,_=>[]
 | k+1,.tuple a=>a.getD 0 undef::tuL k (a.getD 1 undef)
 | _+1,_=>[]
def SV.sc(γ:Pl):SV->Value
 | .b t=>.bool t
 | .i k n=>.int k n
 | .na x=>.int .i64 (x:Nat)
 | .v x=>x
 | .p g o j z=>.pointer (some ⟨γ g,o+j*z,none⟩)
 | .s g o n c=>.slice (some ⟨γ g,o,none⟩) n c
 | _=>undef
def SV.cells(γ:Pl):SV->List Value
 | .w x=>(pw x).toList
 | .e=>[]
 | .ap h t=>h.cells γ++t.cells γ
 | x=>[x.sc γ]
def SV.val(γ:Pl):SV->Value
 | .w x=>.agg (pw x)
 | .e=>.agg #[]
 | .ap h t=>.agg (h.cells γ++t.cells γ).toArray
 | .tu x y=>.tuple #[x.val γ,y.val γ]
 | .gd t x=>if t=true then x.val γ else undef
 | .fn f k x=>.func (.func f) #[] (tuL k (x.val γ)).toArray
 | x=>x.sc γ
def SV.size:SV->Nat
 | .w _=>4
 | .e=>0
 | .ap h t=>h.size+t.size
 | _=>1
theorem SV.cells_len(γ:Pl):∀ x:SV,(x.cells γ).length=x.size
 | .w _ | .e | .b _ | .i _ _ | .na _ | .v _ | .p _ _ _ _ | .s _ _ _ _ | .tu _ _ | .gd _ _ | .fn _ _ _=>rfl
 | .ap h t=>by simp only[SV.cells,SV.size,List.length_append,cells_len γ h,cells_len γ t]
def SV.many:SV->Bool
 | .w _ | .e | .ap _ _=>true
 | _=>false
def SV.one:SV->Bool
 | .b _ | .i _ _ | .na _ | .p _ _ _ _ | .s _ _ _ _=>true
 | .v x=>x.oneCell'
 | _=>false
theorem SV.one_cell{γ:Pl}:∀ {x:SV},x.one=true->(x.val γ).oneCell'=true
 | .b _,_ | .i _ _,_ | .na _,_ | .p _ _ _ _,_ | .s _ _ _ _,_=>rfl
 | .v _,h=>h
theorem SV.val_many{γ:Pl}:∀ {x:SV},x.many=true->x.val γ=.agg (x.cells γ).toArray
 | .w x,_=>by simp[SV.val,SV.cells]
 | .e,_=>rfl
 | .ap _ _,_=>rfl
theorem SV.val_one{γ:Pl}:∀ {x:SV},x.one=true->x.cells γ=[x.val γ]
 | .b _,_ | .i _ _,_ | .na _,_ | .v _,_ | .p _ _ _ _,_ | .s _ _ _ _,_=>rfl
def SV.lt(n:Nat):SV->Bool
 | .p g _ _ _=>decide (g<n)
 | .s g _ _ _=>decide (g<n)
 | .ap h t=>h.lt n&&t.lt n
 | .tu x y=>x.lt n&&y.lt n
 | .gd _ x=>x.lt n
 | .fn _ _ x=>x.lt n
 | _=>true
theorem SV.lt_same{γ δ:Pl}{n:Nat}(h:∀ k,k<n->γ k=δ k):∀ {x:SV},x.lt n=true->x.sc γ=x.sc δ/\x.cells γ=x.cells δ/\x.val γ=x.val δ
 | .w _,_ | .e,_ | .b _,_ | .i _ _,_ | .na _,_ | .v _,_=>⟨rfl,rfl,rfl⟩
 | .p g _ _ _,hl=>by
  have hg:=h g (of_decide_eq_true hl);refine⟨?_,?_,?_⟩ <;> simp only[SV.sc,SV.cells,SV.val,hg]
 | .s g _ _ _,hl=>by
  have hg:=h g (of_decide_eq_true hl);refine⟨?_,?_,?_⟩ <;> simp only[SV.sc,SV.cells,SV.val,hg]
 | .ap a t,hl=>by
  simp only[SV.lt,Bool.and_eq_true]at hl;obtain⟨_,h1,_⟩:=lt_same h hl.1;obtain⟨_,h2,_⟩:=lt_same h hl.2;refine⟨rfl,?_,?_⟩
  ·simp only[SV.cells,h1,h2]
  ·simp only[SV.val,h1,h2]
 | .tu a t,hl=>by
  simp only[SV.lt,Bool.and_eq_true]at hl;obtain⟨_,_,h1⟩:=lt_same h hl.1;obtain⟨_,_,h2⟩:=lt_same h hl.2;exact⟨rfl,rfl,by simp only[SV.val,h1,h2]⟩
 | .gd t x,hl=>by
  obtain⟨_,_,h1⟩:=lt_same (x:=x) h hl;exact⟨rfl,rfl,by simp only[SV.val,h1]⟩
 | .fn _ _ x,hl=>by
  obtain⟨_,_,h1⟩:=lt_same (x:=x) h hl;exact⟨rfl,rfl,by simp only[SV.val,h1]⟩
theorem SV.lt_mono{n m:Nat}(h:n<=m):∀ {x:SV},x.lt n=true->x.lt m=true
 | .w _,_ | .e,_ | .b _,_ | .i _ _,_ | .na _,_ | .v _,_=>rfl
 | .p g _ _ _,hl=>by have:=of_decide_eq_true hl;exact decide_eq_true (by omega)
 | .s g _ _ _,hl=>by have:=of_decide_eq_true hl;exact decide_eq_true (by omega)
 | .ap a t,hl=>by
  simp only[SV.lt,Bool.and_eq_true]at hl |-
  exact⟨lt_mono h hl.1,lt_mono h hl.2⟩
 | .tu a t,hl=>by
  simp only[SV.lt,Bool.and_eq_true]at hl |-
  exact⟨lt_mono h hl.1,lt_mono h hl.2⟩
 | .gd _ x,hl=>lt_mono (x:=x) h hl
 | .fn _ _ x,hl=>lt_mono (x:=x) h hl
def SV.ok:SV->Prop
 | .w x=>x<2^256
 | .na x=>x<2^62
 | .ap h t=>h.ok/\t.ok
 | .tu x y=>x.ok/\y.ok
 | .gd t x=>t=true->x.ok
 | .fn _ _ x=>x.ok
 | _=>True
def limb(o x:Nat):Int:=((x / 18446744073709551616^o%18446744073709551616:Nat):Int)
def SV.sub(m:Bool)(off sz:Nat):SV->Option SV
 | .w x=>if m then (if off=0/\sz=4 then some (.w x)else none)else if off<4/\sz=1 then some (.i .u64 (limb off x))else none
 | .e=>none
 | .ap h t=>match (if off+sz<=h.size then h.sub m off sz else none)with
  | some r=>some r
  | none=>if m=true/\off=0/\sz=(SV.ap h t).size then some (.ap h t)else if h.size<=off then t.sub m (off - h.size) sz else none
 | x=>if m=false/\off=0/\sz=1/\x.one=true then some x else none
structure Part (γ:Pl) (m:Bool) (off sz:Nat) (x r:SV):Prop where
 size:r.size=sz
 cells:∀ j,j<sz->(x.cells γ)[off+j]?=(r.cells γ)[j]?
 kind:if m=true then r.many=true else r.one=true
 ok:x.ok->r.ok
 lt:∀ n,x.lt n=true->r.lt n=true
theorem pw_limb(γ:Pl)(o x:Nat)(h:o<4):(pw x)[o]?=some ((SV.i .u64 (limb o x)).val γ):=by
 have:o=0\/o=1\/o=2\/o=3:=by omega
 rcases this with rfl | rfl | rfl | rfl
 ·simp[pw,limb,SV.val,SV.sc]
 ·simp[pw,limb,SV.val,SV.sc]
 ·simp[pw,limb,SV.val,SV.sc]
 ·simp[pw,limb,SV.val,SV.sc]
theorem SV.sub_ok(γ:Pl){m:Bool}:∀ {x:SV} {off sz:Nat} {r:SV},x.sub m off sz=some r->Part γ m off sz x r
 | .w x,off,sz,r,h=>by
  unfold SV.sub at h
  split at h
  ·split at h
   ·rename_i hm hh
    cases h;obtain⟨rfl,rfl⟩:=hh;exact⟨rfl,fun j _=>by rw[Nat.zero_add],by rw[if_pos hm];rfl,id,fun _ h=>h⟩
   ·cases h
  ·split at h
   ·rename_i hm hh
    cases h;obtain⟨h1,rfl⟩:=hh;refine⟨rfl,fun j hj=>?_,by rw[if_neg hm];rfl,fun _=>trivial,fun _ _=>rfl⟩;obtain rfl:j=0:=by omega
    show(pw x).toList[off+0]?=_;rw[Nat.add_zero,Array.getElem?_toList,pw_limb γ off x h1];rfl
   ·cases h
 | .e,_,_,_,h=>by cases h
 | .ap a t,off,sz,r,h=>by
  unfold SV.sub at h
  split at h
  ·rename_i r' hr
   cases h
   split at hr
   ·rename_i hh
    have q:=sub_ok γ hr;refine⟨q.size,fun j hj=>?_,q.kind,fun hx=>q.ok hx.1,fun n hn=>q.lt n (by simp only[SV.lt,Bool.and_eq_true]at hn;exact hn.1)⟩;rw[<- q.cells j hj];show(a.cells γ++t.cells γ)[off+j]?=_;rw[List.getElem?_append_left (by rw[SV.cells_len];omega)]
   ·cases hr
  ·split at h
   ·rename_i hh
    cases h;obtain⟨hm,rfl,rfl⟩:=hh;exact⟨rfl,fun j _=>by rw[Nat.zero_add],by rw[if_pos hm];rfl,id,fun _ h=>h⟩
   ·split at h
    ·rename_i hh
     have q:=sub_ok γ h;refine⟨q.size,fun j hj=>?_,q.kind,fun hx=>q.ok hx.2,fun n hn=>q.lt n (by simp only[SV.lt,Bool.and_eq_true]at hn;exact hn.2)⟩;rw[<- q.cells j hj];show(a.cells γ++t.cells γ)[off+j]?=_;rw[List.getElem?_append_right (by rw[SV.cells_len];omega),SV.cells_len];congr 1;omega
    ·cases h
 | .b _,off,sz,r,h | .i _ _,off,sz,r,h | .na _,off,sz,r,h | .v _,off,sz,r,h | .p _ _ _ _,off,sz,r,h | .s _ _ _ _,off,sz,r,h=>by
  unfold SV.sub at h
  split at h
  ·rename_i hh
   cases h;obtain⟨hm,rfl,rfl,ho⟩:=hh;exact⟨rfl,fun j _=>by rw[Nat.zero_add],by rw[hm];exact ho,id,fun _ h=>h⟩
  ·cases h
 | .tu _ _,off,sz,r,h | .gd _ _,off,sz,r,h | .fn _ _ _,off,sz,r,h=>by
  unfold SV.sub at h
  split at h
  ·rename_i hh
   exact absurd hh.2.2.2 (by simp[SV.one])
  ·cases h
def SV.put(r:SV)(off:Nat):SV->Option SV
 | .ap h t=>match (if off+r.size<=h.size then SV.put r off h else none)with
  | some h'=>some (.ap h' t)
  | none=>if off=0/\r.many=true/\(SV.ap h t).size=r.size then some r else if h.size<=off then (SV.put r (off - h.size) t).map (.ap h ·)else none
 | .w _=>if off=0/\r.many=true/\r.size=4 then some r else none
 | .e=>none
 | x=>if off=0/\x.one=true/\r.one=true then some r else none
structure Laid (γ:Pl) (off:Nat) (r x y:SV):Prop where
 size:y.size=x.size
 fits:off+r.size<=x.size
 cells:∀ j,(y.cells γ)[j]?=if off<=j/\j<off+r.size then (r.cells γ)[j - off]? else (x.cells γ)[j]?
 ok:x.ok->r.ok->y.ok
 lt:∀ n,x.lt n=true->r.lt n=true->y.lt n=true
theorem SV.one_size:∀ {x:SV},x.one=true->x.size=1
 | .b _,_ | .i _ _,_ | .na _,_ | .v _,_ | .p _ _ _ _,_ | .s _ _ _ _,_=>rfl
theorem laid_all{γ:Pl}{r x:SV}(h:r.size=x.size):Laid γ 0 r x r :=
 ⟨h,by omega,fun j=>by
  rw[Nat.sub_zero];by_cases hj:j<r.size
  ·rw[if_pos (by omega)]
  ·rw[if_neg (by omega),List.getElem?_eq_none (by rw[SV.cells_len];omega),List.getElem?_eq_none (by rw[SV.cells_len];omega)],fun _ h=>h,fun _ _ h=>h⟩
theorem SV.put_ok(γ:Pl){r:SV}:∀ {x:SV} {off:Nat} {y:SV},SV.put r off x=some y->Laid γ off r x y
 | .w x,off,y,h=>by
  unfold SV.put at h
  split at h
  ·rename_i hh
   cases h;obtain⟨rfl,_,h4⟩:=hh;exact laid_all h4
  ·cases h
 | .e,_,_,h=>by cases h
 | .ap a t,off,y,h=>by
  unfold SV.put at h
  split at h
  ·rename_i a' hp
   cases h
   split at hp
   ·rename_i hh
    have q:=put_ok γ hp;refine⟨by simp only[SV.size,q.size],by simp only[SV.size];omega,fun j=>?_,fun hx hr=>⟨q.ok hx.1 hr,hx.2⟩,fun n hn hr=>by
     simp only[SV.lt,Bool.and_eq_true]at hn |-
     exact⟨q.lt n hn.1 hr,hn.2⟩⟩
    show(a'.cells γ++t.cells γ)[j]?=if _ then _ else (a.cells γ++t.cells γ)[j]?
    rw[List.getElem?_append,List.getElem?_append,SV.cells_len,SV.cells_len,q.size,q.cells j];by_cases hj:j<a.size
    ·simp only[hj,if_true]
    ·rw[if_neg hj,if_neg (by omega),if_neg hj]
   ·cases hp
  ·split at h
   ·rename_i hh
    cases h;obtain⟨rfl,_,h4⟩:=hh;exact laid_all h4.symm
   ·split at h
    ·rename_i hh
     cases hp:SV.put r (off - a.size) t with
     | none=>rw[hp]at h;cases h
     | some t' =>
      rw[hp]at h;cases h;have q:=put_ok γ hp;have qf:=q.fits;refine⟨by simp only[SV.size,q.size],by simp only[SV.size];omega,fun j=>?_,fun hx hr=>⟨hx.1,q.ok hx.2 hr⟩,fun n hn hr=>by
       simp only[SV.lt,Bool.and_eq_true]at hn |-
       exact⟨hn.1,q.lt n hn.2 hr⟩⟩
      show(a.cells γ++t'.cells γ)[j]?=if _ then _ else (a.cells γ++t.cells γ)[j]?
      rw[List.getElem?_append,List.getElem?_append,SV.cells_len,q.cells (j - a.size)];by_cases hj:j<a.size
      ·rw[if_pos hj,if_pos hj,if_neg (by omega)]
      ·rw[if_neg hj,if_neg hj]
       by_cases h2:off<=j/\j<off+r.size
       ·rw[if_pos h2,if_pos (by omega),show j - a.size - (off - a.size)=j - off by omega]
       ·rw[if_neg h2,if_neg (by omega)]
    ·cases h
 | .b _,off,y,h | .i _ _,off,y,h | .na _,off,y,h | .v _,off,y,h | .p _ _ _ _,off,y,h | .s _ _ _ _,off,y,h=>by
  unfold SV.put at h
  split at h
  ·rename_i hh
   cases h;obtain⟨rfl,_,h4⟩:=hh;exact laid_all (SV.one_size h4)
  ·cases h
 | .tu _ _,off,y,h | .gd _ _,off,y,h | .fn _ _ _,off,y,h=>by
  unfold SV.put at h
  split at h
  ·rename_i hh
   exact absurd hh.2.1 (by simp[SV.one])
  ·cases h
def tuS:List SV->SV
 | []=>.e
 | x::l=>.tu x (tuS l)
def capsOf:Nat->SV->List SV
 | 0,_=>[]
 | k+1,.tu x y=>x::capsOf k y
 | _+1,_=>[]
theorem capsOf_ok{γ:Pl}{n:Nat}:∀ {k:Nat} {x:SV},(capsOf k x).length=k->tuL k (x.val γ)=(capsOf k x).map (·.val γ)/\(x.ok->x.lt n=true->∀ u∈capsOf k x,u.ok/\u.lt n=true)
 | 0,_,_=>⟨rfl,fun _ _ u hu=>by cases hu⟩
 | k+1,x,h=>by
  cases x <;> first | (cases h;done) | skip
  rename_i x y;have h':(capsOf k y).length=k:=Nat.succ.inj h;have ih:=capsOf_ok (γ:=γ) (n:=n) h';refine⟨congrArg (x.val γ::·) ih.1,fun ho hl u hu=>?_⟩;simp only[SV.lt,Bool.and_eq_true]at hl;rcases List.mem_cons.1 hu with rfl | hu
  ·exact⟨ho.1,hl.1⟩
  ·exact ih.2 ho.2 hl.2 u hu
theorem tuS_ok{γ:Pl}{n:Nat}:∀ {l:List SV},(∀ u∈l,u.ok/\u.lt n=true)->tuL l.length ((tuS l).val γ)=l.map (·.val γ)/\(tuS l).ok/\(tuS l).lt n=true
 | [],_=>⟨rfl,trivial,rfl⟩
 | x::l,h=>by
  have ih:=tuS_ok (γ:=γ) fun u hu=>h u (.tail _ hu);have hx:=h x (.head _);exact⟨congrArg (x.val γ::·) ih.1,⟨hx.1,ih.2.1⟩,by simp only[tuS,SV.lt,hx.2,ih.2.2,Bool.and_self]⟩
end Go.Proofs.YthnckclbeecnmaaGreat.Sy
namespace Go.Proofs.YthnckclbeecnmaaGreat.Sy
open Go.RowKit
structure Ty where
 T:TypeId
 m:Bool
 sz:Nat
 zero:SV
 fs:List (Nat × Nat)
def isRow:TypeDesc->Bool
 | .struct _ | .array _ _=>true
 | _=>false
def fieldsOf(P:Program)(T:TypeId):Option (List (Nat × Nat)) :=
 match P.underlying T with
 | some (.struct fields)=>fields.toList.mapM fun f=>(P.info? f.type).map fun i=>(f.offset,i.size)
 | _=>none
structure Ty.Good (P:Program) (y:Ty):Prop where
 d:(P.underlying y.T).map isRow=some y.m
 sz:(P.info? y.T).map (·.size)=some y.sz
 zero:((P.info? y.T).bind (·.zero)).map (·.cells)=some (y.zero.cells fun _=>0).toArray
 zlt:y.zero.lt 0=true
 zok:y.zero.ok
 fs:y.fs≠[]->fieldsOf P y.T=some y.fs
abbrev Rows:=List (Nat × SV × TypeId)
inductive Ob
 | ask (p:Prop)
 | same (g h:Bool)
 | eq (x y:SV)
def Ob.holds:Ob->Prop
 | .ask p=>p
 | .same g h=>g=true->h=true
 | .eq x y=>x=y
structure Bs where
 T:TypeId
 n:Nat
 e:TypeId
 sz:Nat
 zs:SV
structure Bs.Good (P:Program) (b:Bs):Prop where
 u:P.underlying b.T=some (.slice b.e)
 i:(P.info? b.e).map (·.size)=some b.sz
 z:((P.info? b.e).bind (·.zero)).map (fun v=>(Array.range (b.n*b.sz)).map (v.cells[·%v.cells.size]!))=some (b.zs.cells fun _=>0).toArray
 lt:b.zs.lt 0=true
 ok:b.zs.ok
 few:decide (b.n*b.sz > 2^24)=false
 pos:decide (b.n*b.sz=0)=false
def bsIn(T:TypeId)(n:Nat):List Bs->Option Bs
 | []=>none
 | b::l=>if b.T=T/\b.n=n then some b else bsIn T n l
theorem bsIn_ok{T:TypeId}{n:Nat}{b:Bs}:∀ {l:List Bs},bsIn T n l=some b->b∈l/\b.T=T/\b.n=n
 | [],h=>by cases h
 | c::l,h=>by
  unfold bsIn at h
  split at h
  ·rename_i e;cases h;exact⟨.head _,e⟩
  ·have:=bsIn_ok h;exact⟨.tail _ this.1,this.2⟩
structure Env where
 P:Program
 tys:List Ty
 base:Nat
 ctr:FuncId->Nat->Rows->List SV->Option (SV × List Ob × Rows)
 bop:BinOp->TypeId->SV->SV->Option (SV × List Ob)
 bld:TypeId->List (Nat × SV)->Option SV
 xld:TypeId->Nat->Nat->Nat->Nat->Option (SV × List Ob)
 ixa:TypeId->SV->SV->Option (SV × List Ob)
 sls:List TypeId
 bss:List Bs
 slc:TypeId->SV->Option SV->Option SV->Option SV
 idx:TypeId->SV->SV->Option SV
 cnv:TypeId->TypeId->SV->Option SV
 rld:TypeId->SV->Nat->Nat->Nat->Option (SV × List Ob)
 slk:List TypeId
 mkr:Nat->Rows->(Nat->Option SV)->Op->Option (SV × List Ob × Rows)
def tyIn(T:TypeId):List Ty->Option Ty
 | []=>none
 | y::l=>if y.T=T then some y else tyIn T l
theorem tyIn_ok{T:TypeId}{y:Ty}:∀ {l:List Ty},tyIn T l=some y->y∈l/\y.T=T
 | [],h=>by cases h
 | z::l,h=>by
  unfold tyIn at h
  split at h
  ·cases h;rename_i e;exact⟨.head _,e⟩
  ·have:=tyIn_ok h;exact⟨.tail _ this.1,this.2⟩
def All(l:List Ob):Prop:=∀ p∈l,p.holds
def Agree(E:Env)(γ0 γ:Pl):Prop:=∀ k,k<E.base->γ k=γ0 k
def Lies(γ:Pl)(n:Nat)(M:Rows)(wx:World):Prop:=∀ r∈M,wx.heap[γ r.1]?=some (.cells (r.2.1.cells γ).toArray r.2.2 (0,0))/\r.2.1.ok/\r.2.1.lt n=true
structure Made (γ:Pl) (n:Nat) (r:SV) (R:Rows) (wx:World) (e:Ending) (w':World):Prop where
 out:∃ δ:Pl,(∀ k,k<n->δ k=γ k)/\e=.returned (r.val δ)/\(∀ q∈R,wx.heap.size<=δ q.1/\w'.heap[δ q.1]?=some (.cells (q.2.1.cells δ).toArray q.2.2 (0,0)))/\R.Pairwise fun p q=>δ p.1≠δ q.1
 below:Below wx.heap.size wx w'
structure Env.Good (E:Env) (γ0:Pl) (w0:World):Prop where
 tys:∀ y∈E.tys,y.Good E.P
 ctr:∀ f n M l r p R,E.ctr f n M l=some (r,p,R)->All p->E.base<=n->(∀ x∈l,x.ok/\x.lt n=true)->(∀ r∈M,r.2.1.ok/\r.2.1.lt n=true)->r.ok/\r.lt (n+R.length)=true/\(∀ q∈R,q.2.1.ok/\q.2.1.lt (n+R.length)=true/\n<=q.1/\q.1<n+R.length)/\(∀ l wx,(callFunc f l).run E.P wx=.ok (.enter f l) wx) /\
  ∀ γ,Agree E γ0 γ->∀ wx,Below w0.heap.size w0 wx->Lies γ n M wx->Calls E.P f (l.map (·.val γ)).toArray wx (Made γ n r R wx)
 bop:∀ op T x y r p,E.bop op T x y=some (r,p)->All p->x.ok->y.ok->r.ok/\r.lt 0=true/\∀ γ (ox oy:Operand) wx,(eqGuard op T ox oy (x.val γ) (y.val γ)).run E.P wx=.ok () wx/\(binOp op T (x.val γ) (y.val γ)).run E.P wx=.ok (r.val γ) wx
 bld:∀ T l r,E.bld T l=some r->(∀ x∈l,x.2.ok)->r.ok/\r.lt 0=true/\r.many=true/\∀ γ,E.P.built T (l.map fun x=>(x.1,x.2.val γ))=some (r.cells γ).toArray
 xld:∀ T g o j z r p,E.xld T g o j z=some (r,p)->All p->r.ok/\r.lt E.base=true/\g<E.base/\∀ γ,Agree E γ0 γ->∀ wx,Below w0.heap.size w0 wx->(Instr.loadAt T (.pointer (some ⟨γ g,o+j*z,none⟩))).run E.P wx=.ok (r.val γ) wx
 ixa:∀ T x y r p n,E.ixa T x y=some (r,p)->All p->x.lt n=true->x.ok->y.ok->r.ok/\r.lt n=true/\∀ γ wx,(Instr.indexAt T (x.val γ) (y.val γ)).run E.P wx=.ok (r.val γ) wx
 sls:∀ T∈E.sls,∃ e,E.P.underlying T=some (.slice e)
 bss:∀ b∈E.bss,b.Good E.P
 slc:∀ T x lo hi r n,E.slc T x lo hi=some r->x.lt n=true->r.ok/\r.lt n=true/\∀ γ wx,(Instr.sliceAt T (x.val γ) (lo.map (·.val γ)) (hi.map (·.val γ)) none).run E.P wx=.ok (r.val γ) wx
 idx:∀ T x y r n,E.idx T x y=some r->x.lt n=true->x.ok->y.ok->r.ok/\r.lt n=true/\∀ γ wx,(Instr.index T (x.val γ) (y.val γ)).run E.P wx=.ok (r.val γ) wx
 cnv:∀ F T x r n,E.cnv F T x=some r->x.lt n=true->x.ok->r.ok/\r.lt n=true/\∀ γ wx,(convert F T (x.val γ)).run E.P wx=.ok (r.val γ) wx
 rld:∀ T x o j z r p n,E.rld T x o j z=some (r,p)->All p->x.lt n=true->x.ok->r.ok/\r.lt n=true/\∀ γ g t wx,wx.heap[g]?=some (.cells (x.cells γ).toArray t (0,0))->(Instr.loadAt T (.pointer (some ⟨g,o+j*z,none⟩))).run E.P wx=.ok (r.val γ) wx
 slk:∀ T∈E.slk,∃ e,E.P.underlying T=some (.slice e)
 mkr:∀ n M lk op r p R,E.mkr n M lk op=some (r,p,R)->All p->E.base<=n->(∀ t x,lk t=some x->x.ok/\x.lt n=true)->(∀ r∈M,r.2.1.ok/\r.2.1.lt n=true)->r.ok/\r.lt (n+R.length)=true/\(∀ q∈R,q.2.1.ok/\q.2.1.lt (n+R.length)=true/\n<=q.1/\q.1<n+R.length) /\
  ∀ γ (a:Act) (o:Oper) wx,o.op=op->(∀ t x,lk t=some x->a.tmps.getD t undef=x.val γ/\x.ok/\x.lt n=true)->Lies γ n M wx->∃ v w',(execOp a.eval o).run E.P wx=.ok (.value v) w'/\Made γ n r R wx (.returned v) w'
def constS(v:Value):SV:=.v v
theorem constS_ok(γ:Pl)(n:Nat)(v:Value):(constS v).val γ=v/\(constS v).ok/\(constS v).lt n=true:=⟨rfl,trivial,rfl⟩
def natS:SV->Option Nat
 | .na x=>some x
 | .v (.int .i64 (.ofNat k))=>if k<2^62 then some k else none
 | _=>none
theorem natS_ok{γ:Pl}{x:SV}{k:Nat}(h:natS x=some k)(hx:x.ok):x.val γ=.int .i64 (k:Nat)/\k<2^62:=by
 unfold natS at h
 split at h
 ·cases h;exact⟨rfl,hx⟩
 ·split at h
  ·rename_i hk;cases h;exact⟨rfl,hk⟩
  ·cases h
 ·cases h
def normS(x:SV):SV:=match natS x with
 | some k=>.na k
 | none=>x
theorem normS_ok{γ:Pl}{n:Nat}{x:SV}(hx:x.ok)(hl:x.lt n=true):(normS x).val γ=x.val γ/\(normS x).ok/\(normS x).lt n=true:=by
 unfold normS
 split
 ·rename_i k h
  have:=natS_ok (γ:=γ) h hx;exact⟨this.1.symm,this.2,rfl⟩
 ·exact⟨rfl,hx,hl⟩
def opnd(lk:Nat->Option SV):Operand->Option SV
 | .tmp t=>lk t
 | .const v=>some (constS v)
 | .func f=>some (.v (.func (.func f) #[] #[]))
 | .global _=>none
def opndO(lk:Nat->Option SV):Option Operand->Option (Option SV)
 | none=>some none
 | some x=>(opnd lk x).map some
def opnds(lk:Nat->Option SV):List Operand->Option (List SV)
 | []=>some []
 | x::l=>match opnd lk x,opnds lk l with
  | some u,some r=>some (u::r)
  | _,_=>none
def callX(lk:Nat->Option SV)(c:Call):Option (FuncId × List SV):=match c.callee with
 | .value (.func f)=>(opnds lk c.args.toList).map (f,·)
 | .value (.tmp t)=>match lk t,opnds lk c.args.toList with
  | some (.fn f k x),some l=>if (capsOf k x).length=k then some (f,l++capsOf k x)else none
  | _,_=>none
 | _=>none
def partsOf(lk:Nat->Option SV):List (Nat × Operand)->Option (List (Nat × SV))
 | []=>some []
 | x::l=>match opnd lk x.2,partsOf lk l with
  | some u,some r=>some ((x.1,u)::r)
  | _,_=>none
def bitOf(c:Bool):SV->Option (Bool × List Ob)
 | .b t=>some (t,[])
 | .v (.bool t)=>some (t,[])
 | .gd g (.b t)=>some (t,[.same c g])
 | .gd g (.v (.bool t))=>some (t,[.same c g])
 | _=>none
def rowIn(g:Nat):Rows->Option (SV × TypeId)
 | []=>none
 | r::l=>if r.1=g then some r.2 else rowIn g l
def fillS(fs:List (Nat × Nat)):SV->List (Nat × SV)->Option SV
 | z,[]=>some z
 | z,(i,x)::l=>match fs[i]? with
  | some (off,sz)=>if x.size=sz then match SV.put x off z with
   | some z'=>fillS fs z' l
   | none=>none
   else none
  | none=>none
def opVal(E:Env)(lk:Nat->Option SV)(M:Rows):Op->Option (SV × List Ob)
 | .move x=>(opnd lk x).map (·,[])
 | .assign x=>(opnd lk x).map (·,[])
 | .pick c x y=>match opnd lk c with
  | some (.v (.bool true))=>(opnd lk x).map (·,[])
  | some (.v (.bool false))=>(opnd lk y).map (·,[])
  | some (.b t)=>match (opnd lk x).bind (bitOf t),(opnd lk y).bind (bitOf (!t))with
   | some (u,p),some (v,q)=>some (.b (bif t then u else v),p++q)
   | _,_=>none
  | _=>none
 | .load T x=>match opnd lk x,tyIn T E.tys with
  | some (.p g o j z),some y=>match rowIn g M with
   | some r=>if z=0 then (SV.sub y.m o y.sz r.1).map (·,[])else E.rld T r.1 o j z
   | none=>E.xld T g o j z
  | _,_=>none
 | .build T parts=>match partsOf lk parts.toList with
  | some l=>match tyIn T E.tys with
   | some y=>if y.fs=[]then (E.bld T l).map (·,[])else if y.m=true/\l.all (fun x=>x.2.one||x.2.many)=true then match fillS y.fs y.zero l with
    | some r=>if r.many=true then some (r,[])else none
    | none=>none
    else none
   | none=>none
  | none=>none
 | .fieldAddr T x i=>match opnd lk x,tyIn T E.tys with
  | some (.p g o j z),some y=>match y.fs[i]? with
   | some (off,sz)=>if sz=0 then none else some (.p g (o+off) j z,[])
   | none=>none
  | _,_=>none
 | .extract x i=>match opnd lk x with
  | some (.tu a b)=>if i=0 then some (a,[])else if i=1 then some (b,[])else none
  | _=>none
 | .unOp .not _ x=>match opnd lk x with
  | some (.b t)=>some (.b (!t),[])
  | some (.v (.bool t))=>some (.v (.bool (!t)),[])
  | _=>none
 | .binOp op T x y _=>match opnd lk x,opnd lk y with
  | some u,some v=>E.bop op T u v
  | _,_=>none
 | .indexAddr T x y=>match opnd lk x,opnd lk y with
  | some u,some v=>E.ixa T u v
  | _,_=>none
 | .index T x y=>match opnd lk x,opnd lk y with
  | some u,some v=>(E.idx T u v).map (·,[])
  | _,_=>none
 | .convert F T x=>match opnd lk x with
  | some u=>(E.cnv F T u).map (·,[])
  | none=>none
 | .nilCheck x=>match opnd lk x with
  | some (.p g o j z)=>some (.p g o j z,[])
  | _=>none
 | .slice T x lo hi none=>match opnd lk x,opndO lk lo,opndO lk hi with
  | some u,some l,some h=>(E.slc T u l h).map (·,[])
  | _,_,_=>none
 | .makeFunc (.func f) first caps=>if first.size=0 then match opnds lk caps.toList with
  | some l=>some (.fn f l.length (tuS l),[])
  | none=>none
  else none
 | .call c=>match c.callee,c.args.toList,c.argTypes.toList with
  | .builtin .len,[x],[T]=>match opnd lk x with
   | some (.s _ _ n _)=>if E.sls.contains T=true then some (.na n,[.ask (n<2^62)])else if E.slk.contains T=true then some (.v (.int .i64 (n:Nat)),[])else none
   | _=>none
  | _,_,_=>none
 | _=>none
section
variable {E:Env} {γ0 γ:Pl} {w0 wx:World} {lk:Nat->Option SV} {M:Rows} {n:Nat} {a:Act} {o:Oper} {x y:Operand} {u v r:SV}
def Holds(γ:Pl)(n:Nat)(lk:Nat->Option SV)(a:Act):Prop:=∀ t x,lk t=some x->a.tmps.getD t undef=x.val γ/\x.ok/\x.lt n=true
theorem opnd_ok(hk:Holds γ n lk a)(h:opnd lk x=some u):a.eval x=u.val γ/\u.ok/\u.lt n=true:=by
 cases x with
 | tmp t=>exact hk t u h
 | const v=>cases h;have:=constS_ok γ n v;exact⟨this.1.symm,this.2⟩
 | func f=>cases h;exact⟨rfl,trivial,rfl⟩
 | global g=>cases h
theorem opndO_ok(hk:Holds γ n lk a){x:Option Operand}{u:Option SV}(h:opndO lk x=some u):x.map a.eval=u.map (·.val γ):=by
 cases x with
 | none=>cases h;rfl
 | some x =>
  obtain⟨v,hv,e⟩:=Option.map_eq_some_iff.1 h;subst e;exact congrArg some (opnd_ok hk hv).1
theorem opnds_ok(hk:Holds γ n lk a):∀ {l:List Operand} {us:List SV},opnds lk l=some us->l.map a.eval=us.map (·.val γ)/\∀ u∈us,u.ok/\u.lt n=true
 | [],us,h=>by cases h;exact⟨rfl,fun u hu=>by cases hu⟩
 | x::l,us,h=>by
  unfold opnds at h
  split at h
  ·rename_i u r hu hr
   cases h;have h1:=opnd_ok hk hu;have h2:=opnds_ok hk hr;refine⟨by rw[List.map_cons,List.map_cons,h1.1,h2.1],fun v hv=>?_⟩;rcases List.mem_cons.1 hv with rfl | hv
   ·exact h1.2
   ·exact h2.2 v hv
  ·cases h
theorem partsOf_ok(hk:Holds γ n lk a):∀ {l:List (Nat × Operand)} {us:List (Nat × SV)},partsOf lk l=some us->l.map (fun x=>(x.1,a.eval x.2))=us.map (fun x=>(x.1,x.2.val γ))/\∀ u∈us,u.2.ok/\u.2.lt n=true
 | [],us,h=>by cases h;exact⟨rfl,fun u hu=>by cases hu⟩
 | x::l,us,h=>by
  unfold partsOf at h
  split at h
  ·rename_i u r hu hr
   cases h;have h1:=opnd_ok hk hu;have h2:=partsOf_ok hk hr;refine⟨by rw[List.map_cons,List.map_cons,h1.1,h2.1],fun v hv=>?_⟩;rcases List.mem_cons.1 hv with rfl | hv
   ·exact h1.2
   ·exact h2.2 v hv
  ·cases h
theorem bitOf_ok{c:Bool}{x:SV}{t:Bool}{p:List Ob}(h:bitOf c x=some (t,p))(hc:c=true)(hp:All p):x.val γ=.bool t:=by
 unfold bitOf at h
 split at h <;> cases h
 ·rfl
 ·rfl
 ·have:_=true:=hp _ (.head _) hc
  subst this;rfl
 ·have:_=true:=hp _ (.head _) hc
  subst this;rfl
theorem rowIn_ok{g:Nat}{q:SV × TypeId}:∀ {M:Rows},rowIn g M=some q->(g,q.1,q.2)∈M
 | [],h=>by cases h
 | r::l,h=>by
  unfold rowIn at h
  split at h
  ·rename_i e;cases h;subst e;exact .head _
  ·exact .tail _ (rowIn_ok h)
theorem desc_of{P:Program}{T:TypeId}{m:Bool}(h:(P.underlying T).map isRow=some m):∃ d,P.underlying T=some d/\isRow d=m:=by
 cases hu:P.underlying T with
 | none=>rw[hu]at h;cases h
 | some d=>rw[hu]at h;exact⟨d,rfl,Option.some.inj h⟩
theorem ld_one{P:Program}{w:World}{g o:Nat}{cs:Array Value}{t T:TypeId}{d:TypeDesc}{v:Value}(hg:w.heap[g]?=some (.cells cs t (0,0)))(hc:cs[o]?=some v)(hu:P.underlying T=some d)(hd:isRow d=false) :
  (Instr.loadAt T (.pointer (some ⟨g,o,none⟩))).run P w=.ok v w:=by
 have c0:w.cell? ⟨g,o,none⟩=some v:=(cell_of_row _ _ o _ _ _ hg).trans hc;have hagg:(isAgg T).run P w=.ok false w:=by
  unfold isAgg;rw[Sem.run_bind,run_underlying hu w];cases d <;> first | rfl | cases hd
 simp[Instr.loadAt,Instr.sureAddr,loadVar,Sem.run_bind,hagg,c0]
theorem load_ok{P:Program}{w:World}{g off sz:Nat}{t T:TypeId}{m:Bool}{x r:SV}(hg:w.heap[g]?=some (.cells (x.cells γ).toArray t (0,0)))(hd:(P.underlying T).map isRow=some m)(hs:(P.info? T).map (·.size)=some sz)(h:SV.sub m off sz x=some r) :
  (Instr.loadAt T (.pointer (some ⟨g,off,none⟩))).run P w=.ok (r.val γ) w:=by
 have q:=SV.sub_ok γ h;obtain⟨d,hu,hm⟩:=desc_of hd;cases m with
 | true =>
  rw[SV.val_many q.kind];refine ld_mid (r.cells γ).toArray hg (fun j hj=>?_) hu (by cases d <;> first | rfl | cases hm) ?_
  ·have hj':j<sz:=by
    have:=SV.cells_len γ r;rw[List.size_toArray,this,q.size]at hj;exact hj
   simpa using q.cells j hj'
  ·rw[hs,List.size_toArray,SV.cells_len,q.size]
 | false =>
  have ho:r.one=true:=q.kind;refine ld_one hg ?_ hu hm;have h1:=SV.one_size ho;have:=q.cells 0 (by have:=q.size;omega);rw[SV.val_one ho]at this;simpa using this
theorem cells_one{v:Value}(h:v.oneCell'=true):v.cells=#[v]:=by
 cases v <;> first | rfl | cases h
theorem fold_put(off:Nat):∀(vs:List Value) (j0:Nat) (cs:Array Value),off+j0+vs.length<=cs.size->((vs.zipIdx j0).foldl (fun cs (p:Value × Nat)=>cs.setIfInBounds (off+p.2) p.1) cs).size=cs.size /\
  ∀ k:Nat,((vs.zipIdx j0).foldl (fun cs (p:Value × Nat)=>cs.setIfInBounds (off+p.2) p.1) cs)[k]?=if off+j0<=k/\k<off+j0+vs.length then vs[k - (off+j0)]? else cs[k]?
 | [],j0,cs,_=>⟨rfl,fun k=>by rw[if_neg (by simp only[List.length_nil];omega)];rfl⟩
 | v::vs,j0,cs,h=>by
  simp only[List.length_cons]at h;have ih:=fold_put off vs (j0+1) (cs.setIfInBounds (off+j0) v) (by simp only[Array.size_setIfInBounds];omega);simp only[List.zipIdx_cons,List.foldl_cons];refine⟨by rw[ih.1,Array.size_setIfInBounds],fun k=>?_⟩;rw[ih.2 k];simp only[List.length_cons];by_cases h1:k=off+j0
  ·subst h1
   rw[if_neg (by omega),if_pos (by omega),Nat.sub_self];rw[Array.getElem?_setIfInBounds_self_of_lt (by omega)];rfl
  ·by_cases h2:off+(j0+1)<=k/\k<off+(j0+1)+vs.length
   ·rw[if_pos h2,if_pos (by omega),show k - (off+j0)=(k - (off+(j0+1)))+1 by omega,List.getElem?_cons_succ]
   ·rw[if_neg h2,if_neg (by omega),Array.getElem?_setIfInBounds_ne (by omega)]
theorem fill_ok{fs:List (Nat × Nat)}:∀ {l:List (Nat × SV)} {z r:SV},fillS fs z l=some r->(∀ x∈l,(x.2.one||x.2.many)=true)->Instr.fill (fs.toArray[·]?) (z.cells γ).toArray (l.map fun x=>(x.1,x.2.val γ))=some (r.cells γ).toArray
 | [],z,r,h,_=>by cases h;rfl
 | (i,x)::l,z,r,h,hv=>by
  unfold fillS at h
  split at h
  ·rename_i off sz hf
   split at h
   ·rename_i hsz
    split at h
    ·rename_i z' hz
     have q:=SV.put_ok γ hz;have qf:=q.fits;have ih:=fill_ok (l:=l) h (fun y hy=>hv y (.tail _ hy));have hc:(x.val γ).cells=(x.cells γ).toArray:=by
      have:=hv _ (.head _);simp only[Bool.or_eq_true]at this;rcases this with h1 | h1
      ·rw[SV.val_one h1,cells_one (SV.one_cell h1)]
      ·rw[SV.val_many h1]
       rfl
     rw[List.map_cons];unfold Instr.fill;have hf':fs.toArray[i]?=some (off,sz):=by simpa using hf
     have hl:=SV.cells_len γ x;have hlz:=SV.cells_len γ z;have e:((x.cells γ).toArray.zipIdx.foldl (fun cs (p:Value × Nat)=>cs.setIfInBounds (off+p.2) p.1) (z.cells γ).toArray)=(z'.cells γ).toArray:=by
      have f:=fold_put off (x.cells γ) 0 (z.cells γ).toArray (by simp only[List.size_toArray];omega);have e0:(x.cells γ).toArray.zipIdx=((x.cells γ).zipIdx 0).toArray:=by simp
      rw[e0,List.foldl_toArray];apply Array.ext_getElem?;intro k;rw[f.2 k];simp only[List.getElem?_toArray];rw[q.cells k,hl];simp only[Nat.add_zero]
     simp only[hf',hc];rw[if_neg (by simp only[List.size_toArray,Bool.or_eq_true,decide_eq_true_eq,bne_iff_ne,ne_eq,not_or];omega)];exact(congrArg (fun cs=>Instr.fill (fs.toArray[·]?) cs (l.map fun x=>(x.1,x.2.val γ))) e).trans ih
    ·cases h
   ·cases h
  ·cases h
end
end Go.Proofs.YthnckclbeecnmaaGreat.Sy
