/- Regions, in a drawn order or in the text's, over frames that are known by some slots alone: a head whose results are described operation by operation, then a tail in one order; and the control around them. No program is named here. (Cut to what is reached, written closely: FOpen · Many · Go.) -/
import Derived.Test.YtphafjbajlcbnaaGreatB15
import Derived.Test.YtphafjbajlcbnaaGreatRows
import Derived.WalkKit
import Derived.ProofKit
import Derived.OpenShut
import Derived.ChangeSlices
import Derived.Deep.DeepHandedRow
import Derived.Lib.LaidTab
import Derived.Laws.IdiomArrays
import Derived.Test.YtphafjbajlcbnaaGreatB4
set_option linter.all false
set_option maxRecDepth 100000
set_option maxHeartbeats 8000000
namespace Go.Proofs.YtphafjbajlcbnaaGreat
open Go.ChangeShapes Go.WideShapes Go.ChangeAt Go.RowKit
theorem A41:ownKnob Tryz.prog.godebug=none:=by kernel_rfl
theorem NC:laidOutB Tryz.prog=true:=by kernel_rfl
theorem UX:Tryz.prog.cellsOf 22=1:=by kernel_rfl
theorem SX:Tryz.prog.cellsOf 24=4:=by kernel_rfl
theorem Fv{x:Int}(h:(Lit.int .u64 x).wf=true):∃ n:Nat,n<18446744073709551616/\x=(n:Int):=by
 obtain⟨h0,h1⟩:=bounds_u64 h;clear h;obtain⟨n,rfl⟩:=Int.eq_ofNat_of_zero_le h0;exact⟨n,τ,rfl⟩
noncomputable def Ia (os:Os):World:=World.holding Tryz.prog os ⟨#[],#[],[]⟩
open Go.RowKit
inductive Sp
 | val (d:Nat) (v:Value)
 | blk (d:Nat) (T:TypeId)
 | laid (p:Nat) (T:TypeId)
 | own (d:Nat) (f:Value->World->Prop)
 | none
def Sp.at_(H:Nat)(J:Nat->Array Value):Sp->(Nat->Value)->World->Prop
 | .val d v,s,_=>s d=v
 | .blk d T,s,w=>∃ D,s d=.pointer (some ⟨D,0,Option.none⟩)/\H<=D/\∃ cs:Array Value,w.heap[D]?=some (.cells cs T (0,0))/\cs.size=(J d).size
 | .laid p T,s,w=>∃ D,s p=.pointer (some ⟨D,0,Option.none⟩)/\H<=D/\w.heap[D]?=some (.cells (J p) T (0,0))
 | .own d f,s,w=>f (s d) w
 | .none,_,_=>True
def Sp.rd:Sp->List Nat
 | .val d _=>[d]
 | .blk d _=>[d]
 | .laid p _=>[p]
 | .own d _=>[d]
 | .none=>[]
def Sp.ok(ps:List Nat):Sp->Prop
 | .own _ f=>ps=[]/\∀ v wa wb,Below wa.heap.size wa wb->f v wa->f v wb
 | .blk d _=>d∈ps
 | .laid d _=>d∈ps
 | _=>True
def Ci(L:List Sp)(i:Nat):Sp:=L.getD i .none
def okL(ps:List Nat):List Sp->Prop
 | []=>True
 | p::l=>p.ok ps/\okL ps l
theorem okL.at_{ps:List Nat}:∀ {L:List Sp},okL ps L->∀ i,(Ci L i).ok ps
 | [],_,i=>by simp[Ci,Sp.ok]
 | p::l,h,0=>by simpa[Ci]using h.1
 | p::l,h,i+1=>by simpa[Ci]using okL.at_ h.2 i
theorem Sp.same{H:Nat}{J:Nat->Array Value}{p:Sp}{s s':Nat->Value}{w:World}(h:∀ t∈p.rd,s t=s' t)(hp:p.at_ H J s w):p.at_ H J s' w:=by
 cases p with
 | val d v=>exact(h d (by simp[Sp.rd])).symm.trans hp
 | blk d T=>obtain⟨D,h1,h2⟩:=hp;exact⟨D,(h d (by simp[Sp.rd])).symm.trans h1,h2⟩
 | laid d T=>obtain⟨D,h1,h2⟩:=hp;exact⟨D,(h d (by simp[Sp.rd])).symm.trans h1,h2⟩
 | own d f=>have e:=h d (by simp[Sp.rd]);exact(congrArg (fun v=>f v w) e).mp hp
 | none=>trivial
structure AN (ps:List Nat) (H:Nat) (s:Nat->Value) (wx:World):Prop where
 at_:∀ p∈ps,∀ q∈ps,p≠q->∀ D,s p=.pointer (some ⟨D,0,none⟩)->H<=D->D<wx.heap.size
 ne:∀ p∈ps,∀ q∈ps,p≠q->∀ D E,s p=.pointer (some ⟨D,0,none⟩)->s q=.pointer (some ⟨E,0,none⟩)->H<=D->H<=E->D≠E
theorem AN.start{ps:List Nat}{H:Nat}{s:Nat->Value}{wx:World}(h:∀ p∈ps,∀ q∈ps,p≠q->∀ D,s p=.pointer (some ⟨D,0,none⟩)->D<H):AN ps H s wx :=
 ⟨fun p hp q hq hne D e hl=>(by have:=h p hp q hq hne D e;omega),fun p hp q hq hne D _ e _ hl _=>(by have:=h p hp q hq hne D e;omega)⟩
theorem AN.put{ps:List Nat}{H:Nat}{s s':Nat->Value}{wx w':World}(h:AN ps H s wx)(e:∀ p∈ps,s' p=s p)(hl:wx.heap.size<=w'.heap.size):AN ps H s' w' :=
 ⟨fun p hp q hq hne D hD hh=>Nat.lt_of_lt_of_le (h.at_ p hp q hq hne D ((e p hp) ▸ hD) hh) hl,fun p hp q hq hne D E h1 h2=>h.ne p hp q hq hne D E ((e p hp) ▸ h1) ((e q hq) ▸ h2)⟩
theorem AN.new{ps:List Nat}{H t:Nat}{s s':Nat->Value}{wx w':World}(h:AN ps H s wx)(e:s' t=.pointer (some ⟨wx.heap.size,0,none⟩))(eo:∀ p∈ps,p≠t->s' p=s p)(hl:wx.heap.size<w'.heap.size):AN ps H s' w':=by
 have ge:∀ p∈ps,∀ D,s' p=.pointer (some ⟨D,0,none⟩)->p≠t->s p=.pointer (some ⟨D,0,none⟩):=fun p hp D hD hne=>(eo p hp hne) ▸ hD;refine⟨fun p hp q hq hne D hD hh=>?_,fun p hp q hq hne D E h1 h2 hh he=>?_⟩
 ·by_cases r:p=t
  ·subst r;rw[e]at hD;cases hD;exact hl
  ·have:=h.at_ p hp q hq hne D (ge p hp D hD r) hh;omega
 ·by_cases a:p=t
  ·subst a
   rw[e]at h1;cases h1;have:=h.at_ q hq p hp (Ne.symm hne) E (ge q hq E h2 (Ne.symm hne)) he;omega
  ·by_cases b:q=t
   ·subst b
    rw[e]at h2;cases h2;have:=h.at_ p hp q hq hne D (ge p hp D h1 a) hh;omega
   ·exact h.ne p hp q hq hne D E (ge p hp D h1 a) (ge q hq E h2 b) hh he
def RNM(H:Nat)(ps:List Nat)(J:Nat->Array Value)(s:Nat->Value)(wa wb:World):Prop:=Below wa.heap.size wa wb\/∃ p∈ps,∃ D,s p=.pointer (some ⟨D,0,none⟩)/\H<=D/\wb=wa.setRow D (J p)
theorem RNM.same{H:Nat}{ps:List Nat}{J:Nat->Array Value}{s:Nat->Value}(wa:World):RNM H ps J s wa wa:=.inl (Below.refl _ _)
def CM(w:World)(ps:List Nat)(s:Nat->Value)(wx:World):Prop:=Below w.heap.size w wx/\AN ps w.heap.size s wx
theorem Sp.keep{w:World}{ps:List Nat}{J:Nat->Array Value}{p:Sp}(ho:p.ok ps){s:Nat->Value}{wa wb:World}(hC:CM w ps s wa)(hR:RNM w.heap.size ps J s wa wb)(hp:p.at_ w.heap.size J s wa):p.at_ w.heap.size J s wb:=by
 cases p with
 | val d v=>exact hp
 | none=>trivial
 | own d f =>
  rcases hR with h | ⟨q,hq,_⟩
  ·exact ho.2 _ _ _ h hp
  ·rw[ho.1]at hq;cases hq
 | blk d T =>
  obtain⟨D,h1,hh,cs,h2,h3⟩:=hp;rcases hR with h | ⟨q,hq,E,hE,he,rfl⟩
  ·exact⟨D,h1,hh,cs,(h.block _ (Array.getElem?_eq_some_iff.1 h2).1).trans h2,h3⟩
  ·by_cases e:D=E
   ·subst e
    have:q=d:=Classical.byContradiction fun hne=>hC.2.ne q hq d ho hne D D hE h1 he hh rfl;subst this;exact⟨D,h1,hh,J q,setRow_heap _ _ _ _ _ _ h2,rfl⟩
   ·exact⟨D,h1,hh,cs,(setRow_other _ _ _ _ e).trans h2,h3⟩
 | laid d T =>
  obtain⟨D,h1,hh,h2⟩:=hp;rcases hR with h | ⟨q,hq,E,hE,he,rfl⟩
  ·exact⟨D,h1,hh,(h.block _ (Array.getElem?_eq_some_iff.1 h2).1).trans h2⟩
  ·by_cases e:D=E
   ·subst e
    have:q=d:=Classical.byContradiction fun hne=>hC.2.ne q hq d ho hne D D hE h1 he hh rfl;subst this;exact⟨D,h1,hh,setRow_heap _ _ _ _ _ _ h2⟩
   ·exact⟨D,h1,hh,(setRow_other _ _ _ _ e).trans h2⟩
theorem JC{ops:Array Oper}{tmps:Array Value}{j d:Nat}{b:Bool}(hd:(ops[j]?).bind (·.dst)=some d)(hv:tmps.getD d undef=.bool b):yielded ops tmps j=some b:=by
 unfold yielded;have e:tmps[d]?=some (.bool b):=by
  by_cases h:d<tmps.size
  ·rw[Array.getElem?_eq_getElem h]
   simpa[h]using hv
  ·simp[h,undef]at hv
 rw[hd];simp only[Option.bind_some,e]
theorem Fw{ops:Array Oper}{tmps:Array Value}{o:Oper}{j d:Nat}{b:Bool}(hg:o.guard=some (j,b))(hd:(ops[j]?).bind (·.dst)=some d)(hv:tmps.getD d undef=.bool b):Region.wanted o (yielded ops tmps)=true:=by
 unfold Region.wanted;rw[hg];simp only[JC hd hv,beq_self_eq_true]
theorem DT{ops:Array Oper}{tmps:Array Value}{o:Oper}{j d:Nat}{b c:Bool}(hg:o.guard=some (j,b))(hd:(ops[j]?).bind (·.dst)=some d)(hv:tmps.getD d undef=.bool c)(hn:(c == b)=false):Region.wanted o (yielded ops tmps)=false:=by
 unfold Region.wanted;rw[hg];simp only[JC hd hv];cases b <;> cases c <;> first | rfl | cases hn
section
variable {P:Program} {ops:Array Oper} {Q:Exit->Act->World->Prop} {a0:Act}
theorem Ct{id:Nat}{l:List Oper}{w:World}(L:List Sp)(ps:List Nat)(J:Nat->Array Value)(rk:Nat->Nat)(hm:P.follows .mixedOrders=true)
  (hB:(AC l&&Cc l.toArray rk&&ownB l.toArray (fun i=>(Ci L i).rd)&&Eo l.toArray)=true) (hO:okL ps L) (h0:∀ p∈ps,∀ q∈ps,p≠q->∀ D,a0.tmps.getD p undef=.pointer (some ⟨D,0,none⟩)->D<w.heap.size)
  (hst:StepsU P l.toArray Q (CM w ps) (fun i s wx=>(Ci L i).at_ w.heap.size J s wx) (RNM w.heap.size ps J) a0 0 l)
  (hQ:∀(f:Oper->Value) wx,Below w.heap.size w wx->AN ps w.heap.size (slots (Aj f l a0)) wx->(∀ i o,l[i]?=some o->(Ci L i).at_ w.heap.size J (slots (Aj f l a0)) wx)->Q .normal (Aj f l a0) wx):(Code.region id l.toArray true).wp P Q a0 w :=
 IB (CM w ps) (fun i s wx=>(Ci L i).at_ w.heap.size J s wx) (RNM w.heap.size ps J) (fun i=>(Ci L i).rd) rk hm hB ⟨Below.drew (Below.refl _ _),AN.start h0⟩ (fun _ _ _ _ h hp=>Sp.same h hp) (fun i _ _ _ hC hR hp=>Sp.keep (hO.at_ i) hC hR hp) hst (fun f wx hC hp=>hQ f wx hC.1 hC.2 hp)
/-! What each kind of operation must do. -/
variable {w:World} {L:List Sp} {ps:List Nat} {J:Nat->Array Value}
abbrev ND(w:World)(L:List Sp)(J:Nat->Array Value):Nat->(Nat->Value)->World->Prop:=fun i s wx=>(Ci L i).at_ w.heap.size J s wx
theorem NE{ps:List Nat}{a:Act}{d:Nat}{v:Value}(h:ps.all (· != d)=true):∀ p∈ps,slots (a.put (some d) v) p=slots a p:=fun p hp=>AA a d p v (by
 have:=List.all_eq_true.1 h p hp;have h2:p≠d:=by simpa using this
 exact fun e=>h2 e.symm)
theorem Ap{k d:Nat}{o:Oper}{a:Act}{wx:World}(v:Value)(hd:o.dst=some d)(hw:Region.wanted o (yielded ops a.tmps)=true)(hr:(execOp a.eval o).run P wx=.ok (.value v) wx)(hC:CM w ps (slots a) wx)(hps:ps.all (· != d)=true)(hsz:d<a.tmps.size)(hv:Ci L k=.val d v):Cf P ops Q (CM w ps) (ND w L J) (RNM w.heap.size ps J) k o a wx :=
 Lp v hw hr (by rw[hd];exact⟨hC.1,hC.2.put (NE hps) (Nat.le_refl _)⟩) (by rw[hd];show(Ci L k).at_ w.heap.size J _ _;rw[hv];exact A8 _ _ _ hsz) (RNM.same _)
theorem Be{k d:Nat}{o:Oper}{a:Act}{wx:World}(s:Sem Value)(v:Value)(hd:o.dst=some d)(hw:Region.wanted o (yielded ops a.tmps)=true)(ho:execOp a.eval o=(do let x <- s;pure (.value x)))(hr:s.run P wx=.ok v wx)(hC:CM w ps (slots a) wx)(hps:ps.all (· != d)=true)(hsz:d<a.tmps.size)(hv:Ci L k=.val d v):Cf P ops Q (CM w ps) (ND w L J) (RNM w.heap.size ps J) k o a wx :=
 Ap v hd hw (by rw[ho];simp only[Sem.run_bind,hr,Result.andThen_ok,Sem.run_pure]) hC hps hsz hv
theorem Ak{k d:Nat}{o:Oper}{a:Act}{wx:World}(T:TypeId)(x:Operand)(p v:Value)(hd:o.dst=some d)(ho:o.op=.load T x)(hw:Region.wanted o (yielded ops a.tmps)=true)(hp:a.eval x=p)
  (hr:(Instr.loadAt T p).run P wx=.ok v wx) (hC:CM w ps (slots a) wx) (hps:ps.all (· != d)=true) (hsz:d<a.tmps.size) (hv:Ci L k=.val d v):Cf P ops Q (CM w ps) (ND w L J) (RNM w.heap.size ps J) k o a wx :=
 Ap v hd hw (by
  unfold execOp;rw[ho];simp only[hp,Sem.run_bind,hr,Result.andThen_ok,Sem.run_pure]) hC hps hsz hv
theorem CS{k d:Nat}{o:Oper}{a:Act}{wx:World}(op:BinOp)(T:TypeId)(x y:Operand)(t:TypeId)(u v r:Value)(hd:o.dst=some d)(ho:o.op=.binOp op T x y t)(hw:Region.wanted o (yielded ops a.tmps)=true)(hx:a.eval x=u)(hy:a.eval y=v)
  (hg:(eqGuard op T x y u v).run P wx=.ok () wx) (hb:(binOp op T u v).run P wx=.ok r wx) (hC:CM w ps (slots a) wx) (hps:ps.all (· != d)=true) (hsz:d<a.tmps.size) (hv:Ci L k=.val d r):Cf P ops Q (CM w ps) (ND w L J) (RNM w.heap.size ps J) k o a wx :=
 Ap r hd hw (by
  unfold execOp;rw[ho];simp only[hx,hy,Sem.run_bind,hg,hb,Result.andThen_ok,Sem.run_pure]) hC hps hsz hv
theorem Bb{k d:Nat}{o:Oper}{a:Act}{wx:World}(f:FuncId)(args:Array Value)(v:Value)(hd:o.dst=some d)(hw:Region.wanted o (yielded ops a.tmps)=true)(he:(execOp a.eval o).run P wx=.ok (.enter f args) wx)
  (hc:Calls P f args wx fun e w'=>e=.returned v/\Below wx.heap.size wx w') (hC:CM w ps (slots a) wx) (hps:ps.all (· != d)=true) (hsz:d<a.tmps.size) (hv:Ci L k=.val d v):Cf P ops Q (CM w ps) (ND w L J) (RNM w.heap.size ps J) k o a wx :=
 IX f args hw he (hc.mono fun e w' hh=>⟨v,hh.1,by rw[hd];exact⟨hC.1.trans (hh.2.mono hC.1.size),hC.2.put (NE hps) hh.2.size⟩,by rw[hd];show(Ci L k).at_ w.heap.size J _ _;rw[hv];exact A8 _ _ _ hsz,.inl hh.2⟩)
theorem Cx{k d:Nat}{o:Oper}{a:Act}{wx:World}(T:TypeId)(z:Array Value)(hd:o.dst=some d)(hw:Region.wanted o (yielded ops a.tmps)=true)(hr:(execOp a.eval o).run P wx=.ok (.value (.pointer (some ⟨wx.heap.size,0,none⟩))) (wx.alloc (.cells z T)))(hC:CM w ps (slots a) wx)(hz:z.size=(J d).size)(hsz:d<a.tmps.size)(hv:Ci L k=.blk d T):Cf P ops Q (CM w ps) (ND w L J) (RNM w.heap.size ps J) k o a wx:=by
 have hb:Below wx.heap.size wx (wx.alloc (.cells z T)):=(Below.refl _ _).alloc (Nat.le_refl _) _;refine OP (.pointer (some ⟨wx.heap.size,0,none⟩)) hw hr ?_ ?_ (.inl hb)
 ·rw[hd]
  exact⟨hC.1.trans (hb.mono hC.1.size),hC.2.new (A8 _ _ _ hsz) (fun p _ hne=>AA _ _ _ _ (Ne.symm hne)) υ⟩
 ·rw[hd]
  show(Ci L k).at_ w.heap.size J _ _;rw[hv];exact⟨_,A8 _ _ _ hsz,hC.1.size,z,heap_alloc_new _ _,hz⟩
theorem Br{k p:Nat}{o:Oper}{a:Act}{wx:World}(T:TypeId)(x y:Operand)(v:Value)(hd:o.dst=none)(ho:o.op=.store T x y)(hw:Region.wanted o (yielded ops a.tmps)=true)(hx:a.eval x=slots a p)(hy:a.eval y=v)(hp:p∈ps)
  (hk:(Sp.blk p T).at_ w.heap.size J (slots a) wx) (hr:∀ D cs,wx.heap[D]?=some (.cells cs T (0,0))->cs.size=(J p).size->(Instr.storeAt T (.pointer (some ⟨D,0,none⟩)) v).run P wx=.ok () (wx.setRow D (J p))) (hC:CM w ps (slots a) wx) (hv:Ci L k=.laid p T):Cf P ops Q (CM w ps) (ND w L J) (RNM w.heap.size ps J) k o a wx:=by
 obtain⟨D,h1,hh,cs,h2,h3⟩:=hk;refine Jo (w':=wx.setRow D (J p)) hw hd ?_ ⟨below_setRow hC.1 hh _,hC.2.put (fun _ _=>rfl) υ⟩ ?_ (.inr ⟨p,hp,D,h1,hh,rfl⟩)
 ·unfold execOp
  rw[ho];simp only[hx,h1,hy,Sem.run_bind,hr D cs h2 h3,Result.andThen_ok,Sem.run_pure]
 ·show(Ci L k).at_ w.heap.size J _ _
  rw[hv];exact⟨D,h1,hh,setRow_heap _ _ _ _ _ _ h2⟩
end
open Go.RowKit
def G5(s n:Nat):Array Bool:=((List.range s).map fun i=>decide (i<n)).toArray
theorem GL(n:Nat):∀ s,((List.range s).map fun i=>decide (i<n)).count false=s - n
 | 0=>by simp
 | s+1=>by
  rw[List.range_succ,List.map_append,List.count_append,GL n s];by_cases h:s<n
  ·simp[h];omega
  ·simp[h];omega
def JD(ops:Array Oper):Nat->Nat->Nat->Bool
 | 0,_,_=>false
 | f+1,i,j=>match ops[i]? with
  | some o=>o.after.any fun e=>Region.binds .any e&&(e.on == j||JD ops f e.on j)
  | none=>false
theorem GM{ops:Array Oper}{listed:Array Bool}(hcl:∀ k o,listed.getD k false=true->ops[k]?=some o->∀ e∈o.after,Region.binds .any e=true->listed.getD e.on false=true) :
  ∀(f i j:Nat),(∀ o,ops[i]?=some o->∀ e∈o.after,Region.binds .any e=true->listed.getD e.on false=true)->JD ops f i j=true->listed.getD j false=true
 | 0,_,_,_,h=>by simp[JD]at h
 | f+1,i,j,hi,h=>by
  unfold JD at h;cases ho:ops[i]? with
  | none=>rw[ho]at h;cases h
  | some o =>
   rw[ho]at h;simp only[Array.any_eq_true]at h;obtain⟨k,hk,h3⟩:=h;have he:o.after[k]∈o.after:=Array.getElem_mem hk;generalize o.after[k]=e at *;simp only[Bool.and_eq_true,Bool.or_eq_true,beq_iff_eq]at h3;have hl:=hi o ho e he h3.1;rcases h3.2 with h4 | h4
   ·rw[<- h4];exact hl
   ·exact GM hcl f e.on j (fun o' ho'=>hcl e.on o' hl ho') h4
def UY(ops:Array Oper)(n:Nat):Bool:=(List.range ops.size).all fun i=>decide (i<n)||(List.range n).all fun j=>JD ops 4 i j
section
variable {P:Program} {ops:Array Oper} {Q:Exit->Act->World->Prop} {C:(Nat->Value)->World->Prop} {φ:Nat->(Nat->Value)->World->Prop} {R:(Nat->Value)->World->World->Prop} {a0:Act}
theorem UZ(n:Nat)(hn:n<=ops.size)(rd:Nat->List Nat)(rk:Nat->Nat)(hdist:AC ops.toList=true)(hlex:Cc ops rk=true)(hon:∀(i:Nat) (o:Oper),ops[i]?=some o->∀ e∈o.after,e.on<ops.size)(hown:ownB ops rd=true)
  (hwait:UY ops n=true) (hseq:Region.seqB .any ops (ops.size - n) n (G5 ops.size n)=true)
  (hrd:∀ i s s' w,(∀ t∈rd i,s t=s' t)->φ i s w->φ i s' w)
  (hφ:∀ i s w w',C s w->R s w w'->φ i s w->φ i s w') (hst:StepsU P ops Q C φ R a0 0 (ops.toList.take n))
  (hQ:∀(a:Act) w,a.tmps.size=a0.tmps.size->a.defers=a0.defers->(∀ t,Bd ops.toList t=false->a.tmps.getD t undef=a0.tmps.getD t undef)->C (slots a) w->(∀ i,i<n->φ i (slots a) w)->wpList P ops Q (ops.toList.drop n) a w) :
  ∀(fuel:Nat) (listed:Array Bool) (a:Act) (w:World),listed.size=ops.size->listed.toList.count false=fuel->(∀ i,n<=i->listed.getD i false=false)->C (slots a) w->a.tmps.size=a0.tmps.size->a.defers=a0.defers ->
   (∀ t,Bd ops.toList t=false->a.tmps.getD t undef=a0.tmps.getD t undef)->(∀ i o,listed.getD i false=true->ops[i]?=some o->φ i (slots a) w/\∀ e∈o.after,Region.binds .any e=true->listed.getD e.on false=true)->wpAny P .any ops Q fuel listed a w:=by
 -- all of the head is done
 have done:∀(fuel:Nat) (listed:Array Bool) (a:Act) (w:World),listed.size=ops.size->listed.toList.count false=fuel->(∀ i,n<=i->listed.getD i false=false)->(∀ i,i<n->listed.getD i false=true)->C (slots a) w->a.tmps.size=a0.tmps.size->a.defers=a0.defers ->
   (∀ t,Bd ops.toList t=false->a.tmps.getD t undef=a0.tmps.getD t undef)->(∀ i o,listed.getD i false=true->ops[i]?=some o->φ i (slots a) w/\∀ e∈o.after,Region.binds .any e=true->listed.getD e.on false=true)->wpAny P .any ops Q fuel listed a w:=by
  intro fuel listed a w hsz hc htl hall hC hs hd hk hp;have hl:listed=G5 ops.size n:=by
   apply Array.ext (by simp[G5,hsz]);intro i h1 h2;by_cases hi:i<n
   ·have:=hall i hi
    simp[h1]at this;simp[G5,this,hi]
   ·have:=htl i τ
    simp[h1]at this;simp[G5,this,hi]
  have hf:fuel=(ops.toList.drop n).length:=by
   rw[<- hc,hl];simp only[G5];rw[GL];simp
  rw[hf];refine wpAny_of_seq _ n listed a w (fun j=>by simp[List.getElem?_drop]) ?_ (hQ a w hs hd hk hC (fun i hi=>?_))
  ·rw[hl,show(ops.toList.drop n).length=ops.size - n by simp];exact hseq
  ·exact(hp i ops[i] (hall i hi) (Array.getElem?_eq_getElem τ)).1
 intro fuel
 induction fuel with
 | zero =>
  intro listed a w hsz hc htl hC hs hd hk hp;have hno:false ∉ listed.toList:=List.count_eq_zero.1 τ;refine done 0 listed a w hsz hc htl (fun i hi=>?_) hC hs hd hk hp;have hlt:i<listed.size:=by omega
  have hm:listed[i]∈listed.toList:=by simp
  simp only[Array.getD_eq_getD_getElem?,hlt,Array.getElem?_eq_getElem,Option.getD_some];cases h:listed[i]with
  | true=>rfl
  | false=>rw[h]at hm;exact absurd hm hno
 | succ fuel ih =>
  intro listed a w hsz hc htl hC hs hd hk hp;by_cases hall:∀ i,i<n->listed.getD i false=true
  ·exact done _ listed a w hsz hc htl hall hC hs hd hk hp
  refine⟨fun hr=>?_,fun i hi=>?_⟩
  ·-- the least that isn't listed would be ready
   exfalso;have key:∀ r i,rk i<r->i<ops.size->listed.getD i false=true:=by
    intro r
    induction r with
    | zero=>intro i h;omega
    | succ r ihr =>
     intro i hri hi;cases h:listed.getD i false with
     | true=>rfl
     | false =>
      have ho:ops[i]?=some ops[i]:=Array.getElem?_eq_getElem hi;have:i∈Region.ready .any ops listed:=mem_ready.2 ⟨by simpa[show i<listed.size by omega]using h,ops[i],ho,fun e he hb=>by
       have hl:=hlex;unfold Cc at hl;rw[List.all_eq_true]at hl;have:=hl i (by simpa using hi);rw[ho]at this;simp only[Array.all_eq_true_iff_forall_mem]at this;have hlt:=this e he;rw[hb]at hlt;simp at hlt;exact ihr e.on τ (hon i _ ho e he)⟩
      rw[hr]at this;cases this
   exact hall fun i hi=>key (rk i+1) i τ τ
  ·obtain⟨h0,o,ho,hal⟩:=mem_ready.1 hi
   have hlt:i<ops.size:=(Array.getElem?_eq_some_iff.1 ho).1;have hin:i<n:=by
    apply Classical.byContradiction;intro hge;refine hall fun j hj=>?_;have hw:=hwait;unfold UY at hw;rw[List.all_eq_true]at hw;have h1:=hw i (by simpa using hlt);simp only[Bool.or_eq_true,decide_eq_true_eq,List.all_eq_true]at h1;rcases h1 with h1 | h1
    ·omega
    have h2:=h1 j (by simpa using hj);exact GM (fun k ok hk hok=>(hp k ok hk hok).2) 4 i j (fun o' ho'=>by rw[ho]at ho';cases ho';exact fun e he hb=>by simpa using hal e he hb) h2
   have hl':ops.toList[i]?=some o:=by simpa using ho
   have hl2:(ops.toList.take n)[i]?=some o:=by rw[List.getElem?_take_of_lt hin];exact hl'
   have hstep:=hst.at_ i o hl2 a w hC hs ⟨hk,fun e he hb oj hj=>(hp e.on oj (by have:=hal e he hb;simpa using this) hj).1⟩;rw[Nat.zero_add]at hstep;have go:∀(v:Value) (w':World),C (slots (a.put o.dst v)) w'->φ i (slots (a.put o.dst v)) w'->(∀ j,φ j (slots a) w->φ j (slots a) w')->wpAny P .any ops Q fuel (listed.setIfInBounds i true) (a.put o.dst v) w':=by
    intro v w' hC' hv hm;refine ih _ _ _ (by simpa using hsz) ?_ ?_ hC' (by rw[Bc];exact hs) (by rw[put_defers];exact hd) ?_ ?_
    ·have hil:i<listed.size:=by omega
     have e0:listed[i]=false:=by simpa[hil]using h0
     rw[Array.toList_setIfInBounds,List.count_set (by simpa using hil)];have:listed.toList[i]'(by simpa using hil)=false:=by simpa using e0
     simp only[this];simp;have hpos:0<listed.toList.count false:=List.count_pos_iff.2 (by rw[<- e0];simp);simp at hpos;simp at hc;omega
    ·intro j hj
     rw[getD_set_ne false (by omega:i≠j)];exact htl j hj
    ·intro t ht
     have hne:o.dst≠some t:=fun e=>by
      simp only[Bd,List.any_eq_false]at ht;exact ht o (List.mem_of_getElem? hl') (by simp[e])
     rw[Al _ _ _ _ hne];exact hk t ht
    ·intro j oj hj hoj
     by_cases e:i=j
     ·subst e
      have:oj=o:=Option.some.inj (hoj.symm.trans ho);subst this;refine⟨hv,fun e he hb=>?_⟩;have h1:=hal e he hb;by_cases q:i=e.on
      ·rw[<- q];exact Ay τ
      ·rw[getD_set_ne false q];simpa using h1
     ·rw[getD_set_ne false e]at hj
      obtain⟨h1,h2⟩:=hp j oj hj hoj;refine⟨hrd j _ _ w' (fun t ht=>?_) (hm _ h1),fun e' he hb=>?_⟩
      ·have hne:o.dst≠some t:=fun hd'=>by
        rcases EL hown hoj ht with h3 | h3 | ⟨e',he,hb,ok,hok,hkd⟩
        ·exact Aw hdist i j o oj t hl' (by simpa using hoj) e hd' h3
        ·simp only[Bd,List.any_eq_false]at h3
         exact h3 o (List.mem_of_getElem? hl') (by simp[hd'])
        ·have h4:=h2 e' he hb
         have h5:i≠e'.on:=fun q=>by rw[<- q,getD_both h0]at h4;cases h4
         exact Aw hdist i e'.on o ok t hl' (by simpa using hok) h5 hd' hkd
       exact(Al _ _ _ _ hne).symm
      ·by_cases q:i=e'.on
       ·rw[<- q];exact Ay τ
       ·rw[getD_set_ne false q];exact h2 e' he hb
   unfold wpOp;rw[ho];simp only;unfold Cf at hstep
   split
   ·rename_i hw
    rw[if_pos hw]at hstep;refine .inl (Oper.wp_mono ?_ hstep);rintro a' w' ⟨v,rfl,hC',hv,hR⟩;exact go v w' hC' hv (fun j h=>hφ j _ w w' hC hR h)
   ·rename_i hw
    rw[if_neg hw]at hstep;exact go undef w hstep.1 hstep.2 (fun j h=>h)
theorem SY(n:Nat)(hn:n<=ops.size)(rd:Nat->List Nat)(hdist:AC ops.toList=true)(hlex:Cc ops (fun i=>i)=true)(hown:ownB ops rd=true)
  (hrd:∀ i s s' w,(∀ t∈rd i,s t=s' t)->φ i s w->φ i s' w)
  (hφ:∀ i s w w',C s w->R s w w'->φ i s w->φ i s w') (hst:StepsU P ops Q C φ R a0 0 (ops.toList.take n))
  (hQ:∀(a:Act) w,a.tmps.size=a0.tmps.size->a.defers=a0.defers->(∀ t,Bd ops.toList t=false->a.tmps.getD t undef=a0.tmps.getD t undef)->C (slots a) w->(∀ i,i<n->φ i (slots a) w)->wpList P ops Q (ops.toList.drop n) a w) :
  ∀(m k:Nat) (a:Act) (w:World),k+m=n->C (slots a) w->a.tmps.size=a0.tmps.size->a.defers=a0.defers ->
   (∀ t,Bd ops.toList t=false->a.tmps.getD t undef=a0.tmps.getD t undef)->(∀ i,i<k->φ i (slots a) w)->wpList P ops Q (ops.toList.drop k) a w:=by
 have back:∀(i:Nat) (o:Oper),ops[i]?=some o->∀ e∈o.after,Region.binds .any e=true->e.on<i:=fun i o ho e he hb=>by
  have hl:=hlex;unfold Cc at hl;rw[List.all_eq_true]at hl;have:=hl i (by simpa using(Array.getElem?_eq_some_iff.1 ho).1);rw[ho]at this;simp only[Array.all_eq_true_iff_forall_mem]at this;have hlt:=this e he;rw[hb]at hlt;simpa using hlt
 intro m
 induction m with
 | zero =>
  intro k a w hkm hC hs hd hk hp;have:k=n:=by omega
  subst this;exact hQ a w hs hd hk hC hp
 | succ m ih =>
  intro k a w hkm hC hs hd hk hp;have hlt:k<ops.size:=by omega
  have ho:ops[k]?=some ops[k]:=Array.getElem?_eq_getElem hlt;have hl':ops.toList[k]?=some ops[k]:=by simp
  have hl2:(ops.toList.take n)[k]?=some ops[k]:=by rw[List.getElem?_take_of_lt τ];exact hl'
  have hstep:=hst.at_ k ops[k] hl2 a w hC hs ⟨hk,fun e he hb oj hj=>hp e.on (back k _ ho e he hb)⟩;rw[Nat.zero_add]at hstep;have go:∀(v:Value) (w':World),C (slots (a.put ops[k].dst v)) w'->φ k (slots (a.put ops[k].dst v)) w'->(∀ j,φ j (slots a) w->φ j (slots a) w')->wpList P ops Q (ops.toList.drop (k+1)) (a.put ops[k].dst v) w':=by
   intro v w' hC' hv hm;refine ih (k+1) _ _ τ hC' (by rw[Bc];exact hs) (by rw[put_defers];exact hd) ?_ ?_
   ·intro t ht
    have hne:ops[k].dst≠some t:=fun e=>by
     simp only[Bd,List.any_eq_false]at ht;exact ht ops[k] (List.mem_of_getElem? hl') (by simp[e])
    rw[Al _ _ _ _ hne];exact hk t ht
   ·intro j hj
    by_cases e:j=k
    ·subst e;exact hv
    ·have hjk:j<k:=by omega
     have hoj:ops[j]?=some ops[j]:=Array.getElem?_eq_getElem τ;refine hrd j _ _ w' (fun t ht=>?_) (hm _ (hp j hjk));have hne:ops[k].dst≠some t:=fun hd'=>by
      rcases EL hown hoj ht with h3 | h3 | ⟨e',he,hb,ok,hok,hkd⟩
      ·exact Aw hdist k j _ ops[j] t hl' υ τ hd' h3
      ·simp only[Bd,List.any_eq_false]at h3
       exact h3 ops[k] (List.mem_of_getElem? hl') (by simp[hd'])
      ·have h4:=back j _ hoj e' he hb
       exact Aw hdist k e'.on _ ok t hl' (by simpa using hok) τ hd' hkd
     exact(Al _ _ _ _ hne).symm
  have hdr:ops.toList.drop k=ops[k]::ops.toList.drop (k+1):=by
   rw[List.drop_eq_getElem_cons (by simpa using hlt)];simp
  rw[hdr];unfold wpList;unfold Cf at hstep
  split
  ·rename_i hw
   rw[if_pos hw]at hstep;refine .inl (Oper.wp_mono ?_ hstep);rintro a' w' ⟨v,rfl,hC',hv,hR⟩;exact go v w' hC' hv (fun j h=>hφ j _ w w' hC hR h)
  ·rename_i hw
   rw[if_neg hw]at hstep;exact go undef w hstep.1 hstep.2 (fun j h=>h)
theorem J3{id:Nat}{l:List Oper}{w:World}(n:Nat)(L:List Sp)(ps:List Nat)(J:Nat->Array Value)(hm:P.follows .mixedOrders=true)
  (hB:(AC l&&Cc l.toArray (fun i=>i)&&ownB l.toArray (fun i=>(Ci L i).rd)&&Eo l.toArray&&decide (n<=l.length)&&UY l.toArray n&&Region.seqB .any l.toArray (l.length - n) n (G5 l.length n))=true)
  (hO:okL ps L) (h0:∀ p∈ps,∀ q∈ps,p≠q->∀ D,a0.tmps.getD p undef=.pointer (some ⟨D,0,none⟩)->D<w.heap.size)
  (hst:StepsU P l.toArray Q (CM w ps) (fun i s wx=>(Ci L i).at_ w.heap.size J s wx) (RNM w.heap.size ps J) a0 0 (l.take n))
  (hQ:∀(a:Act) wx,a.tmps.size=a0.tmps.size->a.defers=a0.defers->(∀ t,Bd l t=false->a.tmps.getD t undef=a0.tmps.getD t undef)->Below w.heap.size w wx->AN ps w.heap.size (slots a) wx->(∀ i,i<n->(Ci L i).at_ w.heap.size J (slots a) wx)->wpList P l.toArray Q (l.drop n) a wx) :
  (Code.region id l.toArray true).wp P Q a0 w:=by
 simp only[Bool.and_eq_true,decide_eq_true_eq]at hB;obtain⟨⟨⟨⟨⟨⟨h1,h2⟩,h3⟩,h4⟩,h5⟩,h6⟩,h7⟩:=hB;refine wp_region_any hm (UZ (C:=CM w ps) (φ:=fun i s wx=>(Ci L i).at_ w.heap.size J s wx) (R:=RNM w.heap.size ps J) (a0:=a0) n (by simpa using h5) (fun i=>(Ci L i).rd) (fun i=>i) h1 h2 (DK h4) h3 h6 (by simpa using h7) (fun _ _ _ _ h hp=>Sp.same h hp) (fun i _ _ _ hC hR hp=>Sp.keep (hO.at_ i) hC hR hp) hst (fun a w hs hd hk hC h=>hQ a w hs hd hk hC.1 hC.2 h) _ _ _ w.drew υ υ ?_ ⟨Below.drew (Below.refl _ _),AN.start h0⟩ rfl rfl (fun _ _=>rfl) ?_)
 ·intro i hi
  exact getD_replicate_false _ _
 ·intro i o hi
  simp at hi;rcases Nat.lt_or_ge i l.length with h | h
  ·simp[h]at hi
  ·simp[Nat.not_lt.2 h]at hi
theorem Av{id:Nat}{l:List Oper}{w:World}(n:Nat)(L:List Sp)(ps:List Nat)(J:Nat->Array Value)
  (hB:(AC l&&Cc l.toArray (fun i=>i)&&ownB l.toArray (fun i=>(Ci L i).rd)&&decide (n<=l.length))=true)
  (hO:okL ps L) (h0:∀ p∈ps,∀ q∈ps,p≠q->∀ D,a0.tmps.getD p undef=.pointer (some ⟨D,0,none⟩)->D<w.heap.size)
  (hst:StepsU P l.toArray Q (CM w ps) (fun i s wx=>(Ci L i).at_ w.heap.size J s wx) (RNM w.heap.size ps J) a0 0 (l.take n))
  (hQ:∀(a:Act) wx,a.tmps.size=a0.tmps.size->a.defers=a0.defers->(∀ t,Bd l t=false->a.tmps.getD t undef=a0.tmps.getD t undef)->Below w.heap.size w wx->AN ps w.heap.size (slots a) wx->(∀ i,i<n->(Ci L i).at_ w.heap.size J (slots a) wx)->wpList P l.toArray Q (l.drop n) a wx) :
  (Code.region id l.toArray false).wp P Q a0 w:=by
 simp only[Bool.and_eq_true,decide_eq_true_eq]at hB;obtain⟨⟨⟨h1,h2⟩,h3⟩,h5⟩:=hB;exact wp_region_list (SY (ops:=l.toArray) (C:=CM w ps) (φ:=fun i s wx=>(Ci L i).at_ w.heap.size J s wx) (R:=RNM w.heap.size ps J) (a0:=a0) n (by simpa using h5) (fun i=>(Ci L i).rd) h1 h2 h3 (fun _ _ _ _ h hp=>Sp.same h hp) (fun i _ _ _ hC hR hp=>Sp.keep (hO.at_ i) hC hR hp) hst (fun a w hs hd hk hC h=>hQ a w hs hd hk hC.1 hC.2 h) n 0 a0 w τ ⟨Below.refl _ _,AN.start h0⟩ rfl rfl (fun _ _=>rfl) (fun i hi=>by omega))
/-! The tail's operations. -/
variable {rest:List Oper} {o:Oper} {a:Act} {w:World}
theorem Cj{T:TypeId}{x y:Operand}{g:Nat}{old cells:Array Value}{t:TypeId}(hgd:o.guard=none)(hd:o.dst=none)(ho:o.op=.store T x y)(hx:a.eval x=.pointer (some ⟨g,0,none⟩))(hy:a.eval y=.agg cells)
  (hg:w.heap[g]?=some (.cells old t (0,0))) (hi:(P.info? T).map (·.size)=some cells.size) (hold:old.size=cells.size) (h1:cells.all (·.oneCell')=true) (h:wpList P ops Q rest a (w.setRow g cells)):wpList P ops Q (o::rest) a w :=
 wpList_store_row hgd T x y ho g cells hx hy t old hg hi hold h1 (by rw[hd];exact h)
theorem AZ{d:Nat}{v:Value}(hgd:o.guard=none)(hd:o.dst=some d)(hlt:d<a.tmps.size)(hr:(execOp a.eval o).run P w=.ok (.value v) w)
  (h:∀ a':Act,a'.tmps.size=a.tmps.size->a'.defers=a.defers->(∀ t,t≠d->a'.tmps.getD t undef=a.tmps.getD t undef)->a'.tmps.getD d undef=v->wpList P ops Q rest a' w):wpList P ops Q (o::rest) a w:=by
 refine wpList_plain hgd fun K hK=>?_;unfold Oper.wp;rw[hr];refine hK _ _ (h _ (Bc _ _ _) (put_defers _ _ _) (fun t ht=>Al _ _ _ _ (by rw[hd];intro e;exact ht (Option.some.inj e).symm)) (by rw[hd];exact BM _ _ _ hlt))
theorem run_assign{x:Operand}{v:Value}(ho:o.op=.assign x\/o.op=.move x)(hx:a.eval x=v):(execOp a.eval o).run P w=.ok (.value v) w:=by
 unfold execOp;rcases ho with ho | ho <;> rw[ho] <;> simp only[hx,Sem.run_pure]
end
/-! The control around them. -/
section
variable {P:Program} {Q:Exit->Act->World->Prop} {next:Act->World->Prop} {a:Act} {w:World}
theorem A9(h:next a w):Exit.then next Q .normal a w:=h
theorem GN(h:Q .ret a w):Exit.then next Q .ret a w:=h
theorem Cu{i:Nat}(h:Q (.exit i) a w):Exit.then next Q (.exit i) a w:=h
theorem BL{i:Nat}(h:Q .normal a w):Exit.inBlock i Q .normal a w:=h
theorem Qu{i:Nat}(h:Q .ret a w):Exit.inBlock i Q .ret a w:=h
theorem GQ{i:Nat}(h:Q .normal a w):Exit.inBlock i Q (.exit i) a w:=by
 show(if i=i then _ else _);rw[if_pos rfl];exact h
theorem enter{f:FuncId}{fn:Func}{c:Code}{args:Array Value}{R:Ending->World->Prop}(hf:P.funcs[f]?=some fn)(hb:fn.body=some c)
  (h:∀ a:Act,a.tmps.size=args.size+(fn.ntmps - args.size)->a.defers=[]->(∀ t,a.tmps.getD t undef=args.getD t undef)->c.wp P (bodyPost P fn R) a w):Calls P f args w R:=by
 refine calls_of_wp hf hb (h _ υ rfl fun t=>?_);simp only[Array.getD_eq_getD_getElem?,Array.getElem?_append];by_cases ht:t<args.size
 ·simp[ht]
 ·simp only[ht,if_false]
  rw[Array.getElem?_eq_none (by omega:args.size<=t)];by_cases h2:t - args.size<fn.ntmps - args.size
  ·simp[h2]
  ·simp[h2]
end
/-! What a function has made: blocks,apart,behind what was there. -/
structure HC (w:World) (L:List (Nat × Array Value × TypeId)) (wx:World):Prop where
 old:Below w.heap.size w wx
 rows:∀ p∈L,w.heap.size<=p.1/\wx.heap[p.1]?=some (.cells p.2.1 p.2.2 (0,0))
 nd:L.Pairwise fun p q=>p.1≠q.1
section
variable {w wx w':World} {L:List (Nat × Array Value × TypeId)} {g D:Nat} {cs c0:Array Value} {T:TypeId}
theorem HC.start(w:World):HC w [] w:=⟨Below.refl _ _,fun _ h=>(by cases h),.nil⟩
theorem HC.is(c:HC w L wx)(hm:(g,cs,T)∈L):wx.heap[g]?=some (.cells cs T (0,0)):=(c.rows _ hm).2
theorem HC.below(c:HC w L wx)(hb:Below wx.heap.size wx w'):HC w L w' :=
 ⟨c.old.trans (hb.mono c.old.size),fun p hp=>⟨(c.rows p hp).1,(hb.block _ (Array.getElem?_eq_some_iff.1 (c.rows p hp).2).1).trans (c.rows p hp).2⟩,c.nd⟩
theorem HC.cons(c:HC w L wx)(hb:Below wx.heap.size wx w')(hD:wx.heap.size<=D)(hr:w'.heap[D]?=some (.cells cs T (0,0))):HC w ((D,cs,T)::L) w':=by
 have h:=c.below hb;refine⟨h.old,fun p hp=>?_,List.pairwise_cons.2 ⟨fun q hq=>?_,c.nd⟩⟩
 ·rcases List.mem_cons.1 hp with rfl | hp
  ·exact⟨Nat.le_trans c.old.size hD,hr⟩
  ·exact h.rows p hp
 ·have:=(Array.getElem?_eq_some_iff.1 (c.rows q hq).2).1
  show D≠q.1;omega
theorem HC.new(c:HC w L wx)(cs:Array Value)(T:TypeId):HC w ((wx.heap.size,cs,T)::L) (wx.alloc (.cells cs T)) :=
 c.cons ((Below.refl _ _).alloc (Nat.le_refl _) _) (Nat.le_refl _) (heap_alloc_new _ _)
theorem HC.set(A B:List (Nat × Array Value × TypeId))(c:HC w (A++(g,c0,T)::B) wx)(cs:Array Value):HC w (A++(g,cs,T)::B) (wx.setRow g cs):=by
 have hg:=c.rows (g,c0,T) υ;have hn:=c.nd;rw[List.pairwise_append,List.pairwise_cons]at hn;refine⟨below_setRow c.old hg.1 _,fun p hp=>?_,?_⟩
 ·rcases List.mem_append.1 hp with hp | hp
  ·have:=hn.2.2 p hp (g,c0,T) υ
   have h1:=c.rows p (by simp[hp]);exact⟨h1.1,(setRow_other _ _ _ _ this).trans h1.2⟩
  ·rcases List.mem_cons.1 hp with rfl | hp
   ·exact⟨hg.1,setRow_heap _ _ _ _ _ _ hg.2⟩
   ·have:=hn.2.1.1 p hp
    have h1:=c.rows p (by simp[hp]);exact⟨h1.1,(setRow_other _ _ _ _ (Ne.symm this)).trans h1.2⟩
 ·rw[List.pairwise_append,List.pairwise_cons]
  exact⟨hn.1,⟨hn.2.1.1,hn.2.1.2⟩,fun p hp q hq=>by
   rcases List.mem_cons.1 hq with rfl | hq
   ·exact hn.2.2 p hp (g,c0,T) υ
   ·exact hn.2.2 p hp q (by simp[hq])⟩
theorem HC.drop1{p:Nat × Array Value × TypeId}(c:HC w (p::L) wx):HC w L wx:=⟨c.old,fun q hq=>c.rows q (List.mem_cons_of_mem _ hq),(List.pairwise_cons.1 c.nd).2⟩
end
/-! Loads and stores of rows. -/
section
variable {P:Program} {w:World} {g:Nat} {cs:Array Value} {t:TypeId}
theorem BV{T:TypeId}{d:TypeDesc}(hg:w.heap[g]?=some (.cells cs t (0,0)))(hu:P.underlying T=some d)(hd:(match d with | .struct _ | .array _ _=>true | _=>false)=true)(hi:(P.info? T).map (·.size)=some cs.size) :
  (Instr.loadAt T (.pointer (some ⟨g,0,none⟩))).run P w=.ok (.agg cs) w:=by
 simp only[Instr.loadAt,Instr.sureAddr,Sem.run_bind,Sem.run_pure,Result.andThen_ok,run_loadVar_row w g t T cs (0,0) d hg hu hd hi]
theorem DY{T:TypeId}{d:TypeDesc}{o:Nat}(part:Array Value)(hg:w.heap[g]?=some (.cells cs t (0,0)))(hp:∀ j,j<part.size->cs[o+j]?=part[j]?)(hu:P.underlying T=some d)(hd:(match d with | .struct _ | .array _ _=>true | _=>false)=true)(hi:(P.info? T).map (·.size)=some part.size) :
  (Instr.loadAt T (.pointer (some ⟨g,o,none⟩))).run P w=.ok (.agg part) w:=by
 have hl:(loadCells ⟨g,o,none⟩ part.toList.length).run P w=.ok part.toList.toArray w :=
  run_loadCells_list (P:=P) w ⟨g,o,none⟩ part.toList (fun j v hv=>by
   have hjn:j<part.size:=by
    have:=(List.getElem?_eq_some_iff.1 hv).1;rwa [Array.length_toList]at this
   have hadd:(⟨g,o,none⟩:Addr).add j=⟨g,o+j,none⟩:=by unfold Addr.add;split <;> simp_all
   rw[hadd,cell_of_row w g (o+j) cs t (0,0) hg,hp j hjn,<- Array.getElem?_toList];exact hv)
 have hv:(loadVar T ⟨g,o,none⟩).run P w=.ok (.agg part) w:=by
  cases hq:P.info? T with
  | none=>simp[hq]at hi
  | some i =>
   have hs:i.size=part.size:=by simpa[hq]using hi
   have hagg:(isAgg T).run P w=.ok true w:=by
    unfold isAgg;rw[Sem.run_bind,run_underlying hu w];cases d <;> simp_all
   simp only[Array.length_toList,Array.toArray_toList]at hl;simp[loadVar,Sem.run_bind,hagg,sizeOf,typeInfo,hq,hs,hl]
 simp only[Instr.loadAt,Instr.sureAddr,Sem.run_bind,Sem.run_pure,Result.andThen_ok,hv]
theorem Po{T:TypeId}{old:Array Value}(hg:w.heap[g]?=some (.cells old t (0,0)))(hi:(P.info? T).map (·.size)=some cs.size)(ho:old.size=cs.size)(h1:cs.all (·.oneCell')=true) :
  (Instr.storeAt T (.pointer (some ⟨g,0,none⟩)) (.agg cs)).run P w=.ok () (w.setRow g cs):=by
 simp only[Instr.storeAt,Instr.sureAddr,Sem.run_bind,Sem.run_pure,Result.andThen_ok,run_storeVar_row w g t T old cs hg hi ho h1]
theorem results_cell_tmp{fn:Func}{p q:Tmp}{ty:TypeId}(h:fn.results=#[.cell p ty,.tmp q])(tmps:Array Value)(cs:Array Value)(d:TypeDesc){v:Value}
  (hp:tmps.getD p undef=.pointer (some ⟨g,0,none⟩)) (hg:w.heap[g]?=some (.cells cs t (0,0)))
  (hu:P.underlying ty=some d) (hd:(match d with | .struct _ | .array _ _=>true | _=>false)=true) (hi:(P.info? ty).map (·.size)=some cs.size) (hq:tmps.getD q undef=v) :
  (results fn tmps).run P w=.ok (.tuple #[.agg cs,v]) w:=by
 have hp':tmps[p]?.getD undef=.pointer (some ⟨g,0,none⟩):=by simpa using hp
 have hq':tmps[q]?.getD undef=v:=by simpa using hq
 simp[results,h,hp',hq',asAddr,run_loadVar_row w g t ty cs (0,0) d hg hu hd hi]
end
end Go.Proofs.YtphafjbajlcbnaaGreat
