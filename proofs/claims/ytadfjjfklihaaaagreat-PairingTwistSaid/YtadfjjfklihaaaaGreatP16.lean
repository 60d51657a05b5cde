/- Values told by letters: words, bits, numbers, addresses by number, what is laid side by side. No program is named here. (Cut to what is reached, written closely: FOpen · Many · Go · Gw · Gt · Gi · SyV.) -/
import Derived.Test.YtadfjjfklihaaaaGreatP15
import Derived.Test.YtadfjjfklihaaaaGreatRows
import Derived.WalkKit
import Derived.ProofKit
import Derived.OpenShut
import Derived.ChangeSlices
import Derived.Deep.DeepHandedRow
import Derived.Lib.LaidTab
import Derived.Laws.IdiomArrays
import Derived.Test.YtadfjjfklihaaaaGreatP4
import Derived.Maps.AppendAt
import Derived.Test.YtadfjjfklihaaaaGreatProg
set_option linter.all false
set_option maxRecDepth 100000
set_option maxHeartbeats 8000000
namespace Go.Proofs.YtadfjjfklihaaaaGreat
open Go.ChangeShapes Go.WideShapes Go.ChangeAt Go.RowKit
theorem ownF:ownKnob Tryz.prog.godebug=none:=by kernel_rfl
theorem laidOutF:laidOutB Tryz.prog=true:=by kernel_rfl
theorem cellsU64:Tryz.prog.cellsOf 22=1:=by kernel_rfl
theorem cellsWord:Tryz.prog.cellsOf 24=4:=by kernel_rfl
theorem list4{α:Type}(l:List α)(h:(⟨l⟩:Array α).size=4):∃ a b c d,l=[a,b,c,d]:=by
 match l,h with
 | [a,b,c,d],_=>exact⟨a,b,c,d,rfl⟩
theorem nat_of_wf{x:Int}(h:(Lit.int .u64 x).wf=true):∃ n:Nat,n<18446744073709551616/\x=(n:Int):=by
 obtain⟨h0,h1⟩:=bounds_u64 h;clear h;obtain⟨n,rfl⟩:=Int.eq_ofNat_of_zero_le h0;exact⟨n,by omega,rfl⟩
theorem open_word{H:Type}{enc:TypeId × Value->H}{W:World}{base b2:Nat}{sp:Nat->Bool}{hd:Bool}{v:Value}{d:DataW H}{ps:List MemPlace}
  (hv:Value.okWide Tryz.prog W .any base 24 v) (h:DataW.Trod enc Tryz.prog W b2 sp hd 24 v d ps):∃ x:Nat,v=wv x:=by
 obtain⟨cs,rfl,hsz,_⟩:∃ cs,v=.agg cs/\cs.size=Tryz.prog.cellsOf 24/\Row.okWide Tryz.prog W .any base 24 cs:=by
  simpa[Value.okWide,Tryz.underlying24]using hv
 rw[cellsWord]at hsz;obtain⟨l⟩:=cs;obtain⟨c0,c1,c2,c3,rfl⟩:=list4 l hsz;obtain⟨fuel,hf⟩:=h;obtain⟨y0,y1,y2,y3,m,hx,hy0,hy1,hy2,hy3⟩:=trod_array4 Tryz.underlying24 cellsU64 hf;obtain⟨x0,e0,rfl,w0⟩:=DataW.trod_int Tryz.underlying22 hy0;obtain⟨x1,e1,rfl,w1⟩:=DataW.trod_int Tryz.underlying22 hy1;obtain⟨x2,e2,rfl,w2⟩:=DataW.trod_int Tryz.underlying22 hy2;obtain⟨x3,e3,rfl,w3⟩:=DataW.trod_int Tryz.underlying22 hy3;simp at e0 e1 e2 e3;subst e0 e1 e2 e3;obtain⟨n0,l0,rfl⟩:=nat_of_wf w0;obtain⟨n1,l1,rfl⟩:=nat_of_wf w1;obtain⟨n2,l2,rfl⟩:=nat_of_wf w2;obtain⟨n3,l3,rfl⟩:=nat_of_wf w3;exact⟨n4 n0 n1 n2 n3,(wv_n4 l0 l1 l2 l3).symm⟩
noncomputable def bareWorld (os:Os):World:=World.holding Tryz.prog os ⟨#[],#[],[]⟩
theorem open_pw{H:Type}{enc:TypeId × Value->H}{W:World}{base b2:Nat}{sp:Nat->Bool}{hd:Bool}{v:Value}{d:DataW H}{ps:List MemPlace}
  (hv:Value.okWide Tryz.prog W .any base 24 v) (h:DataW.Trod enc Tryz.prog W b2 sp hd 24 v d ps):∃ x:Nat,v=.agg (pw x)/\x<2^256:=by
 obtain⟨x,rfl⟩:=open_word hv h;exact⟨x%2^256,by rw[wv_pw,pw_modn],Nat.mod_lt _ (by omega)⟩
open Go.RowKit
inductive Sp
 | val (d:Nat) (v:Value)
 | blk (d:Nat) (T:TypeId)
 | laid (p:Nat) (T:TypeId)
 | own (d:Nat) (f:Value->World->Prop)
 | none
def Sp.at_(H:Nat)(J:Nat->Array Value):Sp->(Nat->Value)->World->Prop
 | .val d v,s,_=>s d=v
 | .blk d T,s,w=>∃ D,s d=.pointer (some ⟨D,0,Option.none⟩)/\H<=D/\∃ cs:Array Value,w.heap[D]?=some (.cells cs T (0,0))/\cs.size=(J d).size
 | .laid p T,s,w=>∃ D,s p=.pointer (some ⟨D,0,Option.none⟩)/\H<=D/\w.heap[D]?=some (.cells (J p) T (0,0))
 | .own d f,s,w=>f (s d) w
 | .none,_,_=>True
def Sp.rd:Sp->List Nat
 | .val d _=>[d]
 | .blk d _=>[d]
 | .laid p _=>[p]
 | .own d _=>[d]
 | .none=>[]
def Sp.ok(ps:List Nat):Sp->Prop
 | .own _ f=>ps=[]/\∀ v wa wb,Below wa.heap.size wa wb->f v wa->f v wb
 | .blk d _=>d∈ps
 | .laid d _=>d∈ps
 | _=>True
def spAt(L:List Sp)(i:Nat):Sp:=L.getD i .none
def okL(ps:List Nat):List Sp->Prop
 | []=>True
 | p::l=>p.ok ps/\okL ps l
theorem okL.at_{ps:List Nat}:∀ {L:List Sp},okL ps L->∀ i,(spAt L i).ok ps
 | [],_,i=>by simp[spAt,Sp.ok]
 | p::l,h,0=>by simpa[spAt]using h.1
 | p::l,h,i+1=>by simpa[spAt]using okL.at_ h.2 i
theorem Sp.same{H:Nat}{J:Nat->Array Value}{p:Sp}{s s':Nat->Value}{w:World}(h:∀ t∈p.rd,s t=s' t)(hp:p.at_ H J s w):p.at_ H J s' w:=by
 cases p with
 | val d v=>exact(h d (by simp[Sp.rd])).symm.trans hp
 | blk d T=>obtain⟨D,h1,h2⟩:=hp;exact⟨D,(h d (by simp[Sp.rd])).symm.trans h1,h2⟩
 | laid d T=>obtain⟨D,h1,h2⟩:=hp;exact⟨D,(h d (by simp[Sp.rd])).symm.trans h1,h2⟩
 | own d f=>have e:=h d (by simp[Sp.rd]);exact(congrArg (fun v=>f v w) e).mp hp
 | none=>trivial
structure AN (ps:List Nat) (H:Nat) (s:Nat->Value) (wx:World):Prop where
 at_:∀ p∈ps,∀ q∈ps,p≠q->∀ D,s p=.pointer (some ⟨D,0,none⟩)->H<=D->D<wx.heap.size
 ne:∀ p∈ps,∀ q∈ps,p≠q->∀ D E,s p=.pointer (some ⟨D,0,none⟩)->s q=.pointer (some ⟨E,0,none⟩)->H<=D->H<=E->D≠E
theorem AN.start{ps:List Nat}{H:Nat}{s:Nat->Value}{wx:World}(h:∀ p∈ps,∀ q∈ps,p≠q->∀ D,s p=.pointer (some ⟨D,0,none⟩)->D<H):AN ps H s wx :=
 ⟨fun p hp q hq hne D e hl=>(by have:=h p hp q hq hne D e;omega),fun p hp q hq hne D _ e _ hl _=>(by have:=h p hp q hq hne D e;omega)⟩
theorem AN.put{ps:List Nat}{H:Nat}{s s':Nat->Value}{wx w':World}(h:AN ps H s wx)(e:∀ p∈ps,s' p=s p)(hl:wx.heap.size<=w'.heap.size):AN ps H s' w' :=
 ⟨fun p hp q hq hne D hD hh=>Nat.lt_of_lt_of_le (h.at_ p hp q hq hne D ((e p hp) ▸ hD) hh) hl,fun p hp q hq hne D E h1 h2=>h.ne p hp q hq hne D E ((e p hp) ▸ h1) ((e q hq) ▸ h2)⟩
theorem AN.new{ps:List Nat}{H t:Nat}{s s':Nat->Value}{wx w':World}(h:AN ps H s wx)(e:s' t=.pointer (some ⟨wx.heap.size,0,none⟩))(eo:∀ p∈ps,p≠t->s' p=s p)(hl:wx.heap.size<w'.heap.size):AN ps H s' w':=by
 have ge:∀ p∈ps,∀ D,s' p=.pointer (some ⟨D,0,none⟩)->p≠t->s p=.pointer (some ⟨D,0,none⟩):=fun p hp D hD hne=>(eo p hp hne) ▸ hD;refine⟨fun p hp q hq hne D hD hh=>?_,fun p hp q hq hne D E h1 h2 hh he=>?_⟩
 ·by_cases r:p=t
  ·subst r;rw[e]at hD;cases hD;exact hl
  ·have:=h.at_ p hp q hq hne D (ge p hp D hD r) hh;omega
 ·by_cases a:p=t
  ·subst a
   rw[e]at h1;cases h1;have:=h.at_ q hq p hp (Ne.symm hne) E (ge q hq E h2 (Ne.symm hne)) he;omega
  ·by_cases b:q=t
   ·subst b
    rw[e]at h2;cases h2;have:=h.at_ p hp q hq hne D (ge p hp D h1 a) hh;omega
   ·exact h.ne p hp q hq hne D E (ge p hp D h1 a) (ge q hq E h2 b) hh he
def RNM(H:Nat)(ps:List Nat)(J:Nat->Array Value)(s:Nat->Value)(wa wb:World):Prop:=Below wa.heap.size wa wb\/∃ p∈ps,∃ D,s p=.pointer (some ⟨D,0,none⟩)/\H<=D/\wb=wa.setRow D (J p)
theorem RNM.same{H:Nat}{ps:List Nat}{J:Nat->Array Value}{s:Nat->Value}(wa:World):RNM H ps J s wa wa:=.inl (Below.refl _ _)
def CM(w:World)(ps:List Nat)(s:Nat->Value)(wx:World):Prop:=Below w.heap.size w wx/\AN ps w.heap.size s wx
theorem Sp.keep{w:World}{ps:List Nat}{J:Nat->Array Value}{p:Sp}(ho:p.ok ps){s:Nat->Value}{wa wb:World}(hC:CM w ps s wa)(hR:RNM w.heap.size ps J s wa wb)(hp:p.at_ w.heap.size J s wa):p.at_ w.heap.size J s wb:=by
 cases p with
 | val d v=>exact hp
 | none=>trivial
 | own d f =>
  rcases hR with h | ⟨q,hq,_⟩
  ·exact ho.2 _ _ _ h hp
  ·rw[ho.1]at hq;cases hq
 | blk d T =>
  obtain⟨D,h1,hh,cs,h2,h3⟩:=hp;rcases hR with h | ⟨q,hq,E,hE,he,rfl⟩
  ·exact⟨D,h1,hh,cs,(h.block _ (Array.getElem?_eq_some_iff.1 h2).1).trans h2,h3⟩
  ·by_cases e:D=E
   ·subst e
    have:q=d:=Classical.byContradiction fun hne=>hC.2.ne q hq d ho hne D D hE h1 he hh rfl;subst this;exact⟨D,h1,hh,J q,setRow_heap _ _ _ _ _ _ h2,rfl⟩
   ·exact⟨D,h1,hh,cs,(setRow_other _ _ _ _ e).trans h2,h3⟩
 | laid d T =>
  obtain⟨D,h1,hh,h2⟩:=hp;rcases hR with h | ⟨q,hq,E,hE,he,rfl⟩
  ·exact⟨D,h1,hh,(h.block _ (Array.getElem?_eq_some_iff.1 h2).1).trans h2⟩
  ·by_cases e:D=E
   ·subst e
    have:q=d:=Classical.byContradiction fun hne=>hC.2.ne q hq d ho hne D D hE h1 he hh rfl;subst this;exact⟨D,h1,hh,setRow_heap _ _ _ _ _ _ h2⟩
   ·exact⟨D,h1,hh,(setRow_other _ _ _ _ e).trans h2⟩
theorem yielded_of{ops:Array Oper}{tmps:Array Value}{j d:Nat}{b:Bool}(hd:(ops[j]?).bind (·.dst)=some d)(hv:tmps.getD d undef=.bool b):yielded ops tmps j=some b:=by
 unfold yielded;have e:tmps[d]?=some (.bool b):=by
  by_cases h:d<tmps.size
  ·rw[Array.getElem?_eq_getElem h]
   simpa[h]using hv
  ·simp[h,undef]at hv
 rw[hd];simp only[Option.bind_some,e]
theorem wanted_of{ops:Array Oper}{tmps:Array Value}{o:Oper}{j d:Nat}{b:Bool}(hg:o.guard=some (j,b))(hd:(ops[j]?).bind (·.dst)=some d)(hv:tmps.getD d undef=.bool b):Region.wanted o (yielded ops tmps)=true:=by
 unfold Region.wanted;rw[hg];simp only[yielded_of hd hv,beq_self_eq_true]
theorem unwanted_of{ops:Array Oper}{tmps:Array Value}{o:Oper}{j d:Nat}{b c:Bool}(hg:o.guard=some (j,b))(hd:(ops[j]?).bind (·.dst)=some d)(hv:tmps.getD d undef=.bool c)(hn:(c == b)=false):Region.wanted o (yielded ops tmps)=false:=by
 unfold Region.wanted;rw[hg];simp only[yielded_of hd hv];cases b <;> cases c <;> first | rfl | cases hn
section
variable {P:Program} {ops:Array Oper} {Q:Exit->Act->World->Prop} {a0:Act}
theorem region_many{id:Nat}{l:List Oper}{w:World}(L:List Sp)(ps:List Nat)(J:Nat->Array Value)(rk:Nat->Nat)(hm:P.follows .mixedOrders=true)
  (hB:(distinctB l&&rankB l.toArray rk&&ownB l.toArray (fun i=>(spAt L i).rd)&&insideB l.toArray)=true) (hO:okL ps L) (h0:∀ p∈ps,∀ q∈ps,p≠q->∀ D,a0.tmps.getD p undef=.pointer (some ⟨D,0,none⟩)->D<w.heap.size)
  (hst:StepsU P l.toArray Q (CM w ps) (fun i s wx=>(spAt L i).at_ w.heap.size J s wx) (RNM w.heap.size ps J) a0 0 l)
  (hQ:∀(f:Oper->Value) wx,Below w.heap.size w wx->AN ps w.heap.size (slots (putAll f l a0)) wx->(∀ i o,l[i]?=some o->(spAt L i).at_ w.heap.size J (slots (putAll f l a0)) wx)->Q .normal (putAll f l a0) wx):(Code.region id l.toArray true).wp P Q a0 w :=
 region_tie2 (CM w ps) (fun i s wx=>(spAt L i).at_ w.heap.size J s wx) (RNM w.heap.size ps J) (fun i=>(spAt L i).rd) rk hm hB ⟨Below.drew (Below.refl _ _),AN.start h0⟩ (fun _ _ _ _ h hp=>Sp.same h hp) (fun i _ _ _ hC hR hp=>Sp.keep (hO.at_ i) hC hR hp) hst (fun f wx hC hp=>hQ f wx hC.1 hC.2 hp)
/-! What each kind of operation must do. -/
variable {w:World} {L:List Sp} {ps:List Nat} {J:Nat->Array Value}
abbrev PhiN(w:World)(L:List Sp)(J:Nat->Array Value):Nat->(Nat->Value)->World->Prop:=fun i s wx=>(spAt L i).at_ w.heap.size J s wx
theorem ps_other{ps:List Nat}{a:Act}{d:Nat}{v:Value}(h:ps.all (· != d)=true):∀ p∈ps,slots (a.put (some d) v) p=slots a p:=fun p hp=>slots_other a d p v (by
 have:=List.all_eq_true.1 h p hp;have h2:p≠d:=by simpa using this
 exact fun e=>h2 e.symm)
theorem mm_val{k d:Nat}{o:Oper}{a:Act}{wx:World}(v:Value)(hd:o.dst=some d)(hw:Region.wanted o (yielded ops a.tmps)=true)(hr:(execOp a.eval o).run P wx=.ok (.value v) wx)(hC:CM w ps (slots a) wx)(hps:ps.all (· != d)=true)(hsz:d<a.tmps.size)(hv:spAt L k=.val d v):StepU P ops Q (CM w ps) (PhiN w L J) (RNM w.heap.size ps J) k o a wx :=
 uu_val v hw hr (by rw[hd];exact⟨hC.1,hC.2.put (ps_other hps) (Nat.le_refl _)⟩) (by rw[hd];show(spAt L k).at_ w.heap.size J _ _;rw[hv];exact slots_put _ _ _ hsz) (RNM.same _)
theorem mm_sem{k d:Nat}{o:Oper}{a:Act}{wx:World}(s:Sem Value)(v:Value)(hd:o.dst=some d)(hw:Region.wanted o (yielded ops a.tmps)=true)(ho:execOp a.eval o=(do let x <- s;pure (.value x)))(hr:s.run P wx=.ok v wx)(hC:CM w ps (slots a) wx)(hps:ps.all (· != d)=true)(hsz:d<a.tmps.size)(hv:spAt L k=.val d v):StepU P ops Q (CM w ps) (PhiN w L J) (RNM w.heap.size ps J) k o a wx :=
 mm_val v hd hw (by rw[ho];simp only[Sem.run_bind,hr,Result.andThen_ok,Sem.run_pure]) hC hps hsz hv
theorem mm_load{k d:Nat}{o:Oper}{a:Act}{wx:World}(T:TypeId)(x:Operand)(p v:Value)(hd:o.dst=some d)(ho:o.op=.load T x)(hw:Region.wanted o (yielded ops a.tmps)=true)(hp:a.eval x=p)
  (hr:(Instr.loadAt T p).run P wx=.ok v wx) (hC:CM w ps (slots a) wx) (hps:ps.all (· != d)=true) (hsz:d<a.tmps.size) (hv:spAt L k=.val d v):StepU P ops Q (CM w ps) (PhiN w L J) (RNM w.heap.size ps J) k o a wx :=
 mm_val v hd hw (by
  unfold execOp;rw[ho];simp only[hp,Sem.run_bind,hr,Result.andThen_ok,Sem.run_pure]) hC hps hsz hv
theorem mm_call{k d:Nat}{o:Oper}{a:Act}{wx:World}(f:FuncId)(args:Array Value)(v:Value)(hd:o.dst=some d)(hw:Region.wanted o (yielded ops a.tmps)=true)(he:(execOp a.eval o).run P wx=.ok (.enter f args) wx)
  (hc:Calls P f args wx fun e w'=>e=.returned v/\Below wx.heap.size wx w') (hC:CM w ps (slots a) wx) (hps:ps.all (· != d)=true) (hsz:d<a.tmps.size) (hv:spAt L k=.val d v):StepU P ops Q (CM w ps) (PhiN w L J) (RNM w.heap.size ps J) k o a wx :=
 uu_call f args hw he (hc.mono fun e w' hh=>⟨v,hh.1,by rw[hd];exact⟨hC.1.trans (hh.2.mono hC.1.size),hC.2.put (ps_other hps) hh.2.size⟩,by rw[hd];show(spAt L k).at_ w.heap.size J _ _;rw[hv];exact slots_put _ _ _ hsz,.inl hh.2⟩)
theorem mm_new{k d:Nat}{o:Oper}{a:Act}{wx:World}(T:TypeId)(z:Array Value)(hd:o.dst=some d)(hw:Region.wanted o (yielded ops a.tmps)=true)(hr:(execOp a.eval o).run P wx=.ok (.value (.pointer (some ⟨wx.heap.size,0,none⟩))) (wx.alloc (.cells z T)))(hC:CM w ps (slots a) wx)(hz:z.size=(J d).size)(hsz:d<a.tmps.size)(hv:spAt L k=.blk d T):StepU P ops Q (CM w ps) (PhiN w L J) (RNM w.heap.size ps J) k o a wx:=by
 have hb:Below wx.heap.size wx (wx.alloc (.cells z T)):=(Below.refl _ _).alloc (Nat.le_refl _) _;refine uu_new (.pointer (some ⟨wx.heap.size,0,none⟩)) hw hr ?_ ?_ (.inl hb)
 ·rw[hd]
  exact⟨hC.1.trans (hb.mono hC.1.size),hC.2.new (slots_put _ _ _ hsz) (fun p _ hne=>slots_other _ _ _ _ (Ne.symm hne)) (by simp)⟩
 ·rw[hd]
  show(spAt L k).at_ w.heap.size J _ _;rw[hv];exact⟨_,slots_put _ _ _ hsz,hC.1.size,z,heap_alloc_new _ _,hz⟩
theorem mm_store{k p:Nat}{o:Oper}{a:Act}{wx:World}(T:TypeId)(x y:Operand)(v:Value)(hd:o.dst=none)(ho:o.op=.store T x y)(hw:Region.wanted o (yielded ops a.tmps)=true)(hx:a.eval x=slots a p)(hy:a.eval y=v)(hp:p∈ps)
  (hk:(Sp.blk p T).at_ w.heap.size J (slots a) wx) (hr:∀ D cs,wx.heap[D]?=some (.cells cs T (0,0))->cs.size=(J p).size->(Instr.storeAt T (.pointer (some ⟨D,0,none⟩)) v).run P wx=.ok () (wx.setRow D (J p))) (hC:CM w ps (slots a) wx) (hv:spAt L k=.laid p T):StepU P ops Q (CM w ps) (PhiN w L J) (RNM w.heap.size ps J) k o a wx:=by
 obtain⟨D,h1,hh,cs,h2,h3⟩:=hk;refine uu_store (w':=wx.setRow D (J p)) hw hd ?_ ⟨below_setRow hC.1 hh _,hC.2.put (fun _ _=>rfl) (by simp)⟩ ?_ (.inr ⟨p,hp,D,h1,hh,rfl⟩)
 ·unfold execOp
  rw[ho];simp only[hx,h1,hy,Sem.run_bind,hr D cs h2 h3,Result.andThen_ok,Sem.run_pure]
 ·show(spAt L k).at_ w.heap.size J _ _
  rw[hv];exact⟨D,h1,hh,setRow_heap _ _ _ _ _ _ h2⟩
end
open Go.RowKit
section
variable {P:Program} {ops:Array Oper} {Q:Exit->Act->World->Prop} {C:(Nat->Value)->World->Prop} {φ:Nat->(Nat->Value)->World->Prop} {R:(Nat->Value)->World->World->Prop} {a0:Act}
/-! The tail's operations. -/
variable {rest:List Oper} {o:Oper} {a:Act} {w:World}
theorem run_assign{x:Operand}{v:Value}(ho:o.op=.assign x\/o.op=.move x)(hx:a.eval x=v):(execOp a.eval o).run P w=.ok (.value v) w:=by
 unfold execOp;rcases ho with ho | ho <;> rw[ho] <;> simp only[hx,Sem.run_pure]
end
/-! The control around them. -/
section
variable {P:Program} {Q:Exit->Act->World->Prop} {next:Act->World->Prop} {a:Act} {w:World}
theorem enter{f:FuncId}{fn:Func}{c:Code}{args:Array Value}{R:Ending->World->Prop}(hf:P.funcs[f]?=some fn)(hb:fn.body=some c)
  (h:∀ a:Act,a.tmps.size=args.size+(fn.ntmps - args.size)->a.defers=[]->(∀ t,a.tmps.getD t undef=args.getD t undef)->c.wp P (bodyPost P fn R) a w):Calls P f args w R:=by
 refine calls_of_wp hf hb (h _ (by simp) rfl fun t=>?_);simp only[Array.getD_eq_getD_getElem?,Array.getElem?_append];by_cases ht:t<args.size
 ·simp[ht]
 ·simp only[ht,if_false]
  rw[Array.getElem?_eq_none (by omega:args.size<=t)];by_cases h2:t - args.size<fn.ntmps - args.size
  ·simp[h2]
  ·simp[h2]
end
/-! What a function has made: blocks,apart,behind what was there. -/
structure HC (w:World) (L:List (Nat × Array Value × TypeId)) (wx:World):Prop where
 old:Below w.heap.size w wx
 rows:∀ p∈L,w.heap.size<=p.1/\wx.heap[p.1]?=some (.cells p.2.1 p.2.2 (0,0))
 nd:L.Pairwise fun p q=>p.1≠q.1
section
variable {w wx w':World} {L:List (Nat × Array Value × TypeId)} {g D:Nat} {cs c0:Array Value} {T:TypeId}
theorem HC.start(w:World):HC w [] w:=⟨Below.refl _ _,fun _ h=>(by cases h),.nil⟩
theorem HC.below(c:HC w L wx)(hb:Below wx.heap.size wx w'):HC w L w' :=
 ⟨c.old.trans (hb.mono c.old.size),fun p hp=>⟨(c.rows p hp).1,(hb.block _ (Array.getElem?_eq_some_iff.1 (c.rows p hp).2).1).trans (c.rows p hp).2⟩,c.nd⟩
theorem HC.cons(c:HC w L wx)(hb:Below wx.heap.size wx w')(hD:wx.heap.size<=D)(hr:w'.heap[D]?=some (.cells cs T (0,0))):HC w ((D,cs,T)::L) w':=by
 have h:=c.below hb;refine⟨h.old,fun p hp=>?_,List.pairwise_cons.2 ⟨fun q hq=>?_,c.nd⟩⟩
 ·rcases List.mem_cons.1 hp with rfl | hp
  ·exact⟨Nat.le_trans c.old.size hD,hr⟩
  ·exact h.rows p hp
 ·have:=(Array.getElem?_eq_some_iff.1 (c.rows q hq).2).1
  show D≠q.1;omega
theorem HC.new(c:HC w L wx)(cs:Array Value)(T:TypeId):HC w ((wx.heap.size,cs,T)::L) (wx.alloc (.cells cs T)) :=
 c.cons ((Below.refl _ _).alloc (Nat.le_refl _) _) (Nat.le_refl _) (heap_alloc_new _ _)
theorem HC.set(A B:List (Nat × Array Value × TypeId))(c:HC w (A++(g,c0,T)::B) wx)(cs:Array Value):HC w (A++(g,cs,T)::B) (wx.setRow g cs):=by
 have hg:=c.rows (g,c0,T) (by simp);have hn:=c.nd;rw[List.pairwise_append,List.pairwise_cons]at hn;refine⟨below_setRow c.old hg.1 _,fun p hp=>?_,?_⟩
 ·rcases List.mem_append.1 hp with hp | hp
  ·have:=hn.2.2 p hp (g,c0,T) (by simp)
   have h1:=c.rows p (by simp[hp]);exact⟨h1.1,(setRow_other _ _ _ _ this).trans h1.2⟩
  ·rcases List.mem_cons.1 hp with rfl | hp
   ·exact⟨hg.1,setRow_heap _ _ _ _ _ _ hg.2⟩
   ·have:=hn.2.1.1 p hp
    have h1:=c.rows p (by simp[hp]);exact⟨h1.1,(setRow_other _ _ _ _ (Ne.symm this)).trans h1.2⟩
 ·rw[List.pairwise_append,List.pairwise_cons]
  exact⟨hn.1,⟨hn.2.1.1,hn.2.1.2⟩,fun p hp q hq=>by
   rcases List.mem_cons.1 hq with rfl | hq
   ·exact hn.2.2 p hp (g,c0,T) (by simp)
   ·exact hn.2.2 p hp q (by simp[hq])⟩
end
/-! Loads and stores of rows. -/
section
variable {P:Program} {w:World} {g:Nat} {cs:Array Value} {t:TypeId}
theorem ld_mid{T:TypeId}{d:TypeDesc}{o:Nat}(part:Array Value)(hg:w.heap[g]?=some (.cells cs t (0,0)))(hp:∀ j,j<part.size->cs[o+j]?=part[j]?)(hu:P.underlying T=some d)(hd:(match d with | .struct _ | .array _ _=>true | _=>false)=true)(hi:(P.info? T).map (·.size)=some part.size) :
  (Instr.loadAt T (.pointer (some ⟨g,o,none⟩))).run P w=.ok (.agg part) w:=by
 have hl:(loadCells ⟨g,o,none⟩ part.toList.length).run P w=.ok part.toList.toArray w :=
  run_loadCells_list (P:=P) w ⟨g,o,none⟩ part.toList (fun j v hv=>by
   have hjn:j<part.size:=by
    have:=(List.getElem?_eq_some_iff.1 hv).1;rwa [Array.length_toList]at this
   have hadd:(⟨g,o,none⟩:Addr).add j=⟨g,o+j,none⟩:=by unfold Addr.add;split <;> simp_all
   rw[hadd,cell_of_row w g (o+j) cs t (0,0) hg,hp j hjn,<- Array.getElem?_toList];exact hv)
 have hv:(loadVar T ⟨g,o,none⟩).run P w=.ok (.agg part) w:=by
  cases hq:P.info? T with
  | none=>simp[hq]at hi
  | some i =>
   have hs:i.size=part.size:=by simpa[hq]using hi
   have hagg:(isAgg T).run P w=.ok true w:=by
    unfold isAgg;rw[Sem.run_bind,run_underlying hu w];cases d <;> simp_all
   simp only[Array.length_toList,Array.toArray_toList]at hl;simp[loadVar,Sem.run_bind,hagg,sizeOf,typeInfo,hq,hs,hl]
 simp only[Instr.loadAt,Instr.sureAddr,Sem.run_bind,Sem.run_pure,Result.andThen_ok,hv]
end
open Go.RowKit
section
variable {P:Program} {ops:Array Oper} {Q:Exit->Act->World->Prop} {a0:Act} {w:World} {L:List Sp} {ps:List Nat} {J:Nat->Array Value}
theorem unwanted_undef{ops:Array Oper}{tmps:Array Value}{o:Oper}{j d:Nat}{b:Bool}(hg:o.guard=some (j,b))(hd:(ops[j]?).bind (·.dst)=some d)(hv:tmps.getD d undef=undef):Region.wanted o (yielded ops tmps)=false:=by
 unfold Region.wanted;rw[hg];have e:yielded ops tmps j=none:=by
  unfold yielded;rw[hd];simp only[Option.bind_some];by_cases h:d<tmps.size
  ·rw[Array.getElem?_eq_getElem h]
   have:tmps[d]=undef:=by simpa[h]using hv
   rw[this];rfl
  ·simp[h]
 simp only[e];rfl
theorem run_pick2{a:Act}{o:Oper}{wx:World}(c x y:Operand)(b:Bool)(r:Value)(ho:o.op=.pick c x y)(hc:a.eval c=.bool b)(hr:(if b=true then a.eval x else a.eval y)=r):(execOp a.eval o).run P wx=.ok (.value r) wx:=by
 unfold execOp;rw[ho];simp[asBool,hc,hr,Sem.run_pure]
variable {rest:List Oper} {o:Oper} {a:Act}
theorem run_box{T:TypeId}{x:Operand}{v:Value}{z:Array Value}(ho:o.op=.box T x)(hx:a.eval x=v)(hz:v.cells=z):(execOp a.eval o).run P w=.ok (.value (.pointer (some ⟨w.heap.size,0,none⟩))) (w.alloc (.cells z T)):=by
 subst hz;unfold execOp;simp only[ho,hx,Sem.run_bind,Instr.box,newVar,newRow,run_newObj_alloc,Sem.run_pure,Result.andThen_ok]
theorem run_bin{op:BinOp}{T t:TypeId}{x y:Operand}{u v r:Value}(ho:o.op=.binOp op T x y t)(hx:a.eval x=u)(hy:a.eval y=v)(hg:(eqGuard op T x y u v).run P w=.ok () w)(hb:(binOp op T u v).run P w=.ok r w):(execOp a.eval o).run P w=.ok (.value r) w:=by
 unfold execOp;rw[ho];simp only[hx,hy,Sem.run_bind,hg,hb,Result.andThen_ok,Sem.run_pure]
end
open Go.RowKit
section
variable {P:Program} {ops:Array Oper} {Q:Exit->Act->World->Prop} {rest:List Oper} {o:Oper} {a:Act} {w:World}
theorem gr_load{T:TypeId}{x:Operand}{p v:Value}(ho:o.op=.load T x)(hx:a.eval x=p)(hr:(Instr.loadAt T p).run P w=.ok v w):(execOp a.eval o).run P w=.ok (.value v) w:=by
 unfold execOp;rw[ho];simp only[hx,Sem.run_bind,hr,Result.andThen_ok,Sem.run_pure]
theorem gr_fld{T:TypeId}{x:Operand}{i:Nat}{p v:Value}(ho:o.op=.fieldAddr T x i)(hx:a.eval x=p)(hr:(Instr.fieldAt T p i).run P w=.ok v w):(execOp a.eval o).run P w=.ok (.value v) w:=by
 unfold execOp;rw[ho];simp only[hx,Sem.run_bind,hr,Result.andThen_ok,Sem.run_pure]
theorem gr_idx{T:TypeId}{x y:Operand}{p i v:Value}(ho:o.op=.indexAddr T x y)(hx:a.eval x=p)(hy:a.eval y=i)(hr:(Instr.indexAt T p i).run P w=.ok v w):(execOp a.eval o).run P w=.ok (.value v) w:=by
 unfold execOp;rw[ho];simp only[hx,hy,Sem.run_bind,hr,Result.andThen_ok,Sem.run_pure]
theorem gr_ext{x:Operand}{i:Nat}{p v:Value}(ho:o.op=.extract x i)(hx:a.eval x=p)(hr:(Instr.extract p i).run P w=.ok v w):(execOp a.eval o).run P w=.ok (.value v) w:=by
 unfold execOp;rw[ho];simp only[hx,Sem.run_bind,hr,Result.andThen_ok,Sem.run_pure]
theorem gr_un{op:UnOp}{T:TypeId}{x:Operand}{u r:Value}(ho:o.op=.unOp op T x)(hx:a.eval x=u)(hr:(Op.unary op u).run P w=.ok r w):(execOp a.eval o).run P w=.ok (.value r) w:=by
 unfold execOp;rw[ho];simp only[hx,Sem.run_bind,hr,Result.andThen_ok,Sem.run_pure]
end
open Go.RowKit
theorem wrap_in{x:Int}(h1:-9223372036854775808<=x)(h2:x<9223372036854775808):IntKind.i64.wrap x=x:=by
 rw[IntKind.wrap_i64];omega
end Go.Proofs.YtadfjjfklihaaaaGreat
namespace Go.Proofs.YtadfjjfklihaaaaGreat.Sy
open Go.RowKit
inductive SV
 | w (x:Nat)
 | b (t:Bool)
 | i (k:IntKind) (n:Int)
 | na (x:Nat)
 | v (x:Value)
 | p (g o j z:Nat)
 | s (g o n c:Nat)
 | e
 | ap (h t:SV)
 | tu (x y:SV)
 | gd (t:Bool) (x:SV)
 | fn (f:FuncId) (k:Nat) (x:SV)
 | fv (f:FuncId) (g:Nat)
 deriving Inhabited
abbrev Pl:=Nat->Nat
def tuL:Nat->Value->List Value
 | 0,_=>[]
 | k+1,.tuple a=>a.getD 0 undef::tuL k (a.getD 1 undef)
 | _+1,_=>[]
def SV.sc(γ:Pl):SV->Value
 | .b t=>.bool t
 | .i k n=>.int k n
 | .na x=>.int .i64 (x:Nat)
 | .v x=>x
 | .p g o j z=>.pointer (some ⟨γ g,o+j*z,none⟩)
 | .s g o n c=>.slice (some ⟨γ g,o,none⟩) n c
 | .fv f g=>.func (.func f) #[.pointer (some ⟨γ g,0,none⟩)] #[]
 | _=>undef
def SV.cells(γ:Pl):SV->List Value
 | .w x=>(pw x).toList
 | .e=>[]
 | .ap h t=>h.cells γ++t.cells γ
 | x=>[x.sc γ]
def SV.val(γ:Pl):SV->Value
 | .w x=>.agg (pw x)
 | .e=>.agg #[]
 | .ap h t=>.agg (h.cells γ++t.cells γ).toArray
 | .tu x y=>.tuple #[x.val γ,y.val γ]
 | .gd t x=>if t=true then x.val γ else undef
 | .fn f k x=>.func (.func f) #[] (tuL k (x.val γ)).toArray
 | x=>x.sc γ
def SV.size:SV->Nat
 | .w _=>4
 | .e=>0
 | .ap h t=>h.size+t.size
 | _=>1
theorem SV.cells_len(γ:Pl):∀ x:SV,(x.cells γ).length=x.size
 | .w _ | .e | .b _ | .i _ _ | .na _ | .v _ | .p _ _ _ _ | .s _ _ _ _ | .tu _ _ | .gd _ _ | .fn _ _ _ | .fv _ _=>rfl
 | .ap h t=>by simp only[SV.cells,SV.size,List.length_append,cells_len γ h,cells_len γ t]
def SV.many:SV->Bool
 | .w _ | .e | .ap _ _=>true
 | _=>false
def SV.one:SV->Bool
 | .b _ | .i _ _ | .na _ | .p _ _ _ _ | .s _ _ _ _ | .fv _ _=>true
 | .v x=>x.oneCell'
 | _=>false
theorem SV.one_cell{γ:Pl}:∀ {x:SV},x.one=true->(x.val γ).oneCell'=true
 | .b _,_ | .i _ _,_ | .na _,_ | .p _ _ _ _,_ | .s _ _ _ _,_ | .fv _ _,_=>rfl
 | .v _,h=>h
theorem SV.val_many{γ:Pl}:∀ {x:SV},x.many=true->x.val γ=.agg (x.cells γ).toArray
 | .w x,_=>by simp[SV.val,SV.cells]
 | .e,_=>rfl
 | .ap _ _,_=>rfl
theorem SV.val_one{γ:Pl}:∀ {x:SV},x.one=true->x.cells γ=[x.val γ]
 | .b _,_ | .i _ _,_ | .na _,_ | .v _,_ | .p _ _ _ _,_ | .s _ _ _ _,_ | .fv _ _,_=>rfl
def SV.lt(n:Nat):SV->Bool
 | .p g _ _ _=>decide (g<n)
 | .s g _ _ _=>decide (g<n)
 | .fv _ g=>decide (g<n)
 | .ap h t=>h.lt n&&t.lt n
 | .tu x y=>x.lt n&&y.lt n
 | .gd _ x=>x.lt n
 | .fn _ _ x=>x.lt n
 | _=>true
theorem SV.lt_same{γ δ:Pl}{n:Nat}(h:∀ k,k<n->γ k=δ k):∀ {x:SV},x.lt n=true->x.sc γ=x.sc δ/\x.cells γ=x.cells δ/\x.val γ=x.val δ
 | .w _,_ | .e,_ | .b _,_ | .i _ _,_ | .na _,_ | .v _,_=>⟨rfl,rfl,rfl⟩
 | .p g _ _ _,hl=>by
  have hg:=h g (of_decide_eq_true hl);refine⟨?_,?_,?_⟩ <;> simp only[SV.sc,SV.cells,SV.val,hg]
 | .s g _ _ _,hl=>by
  have hg:=h g (of_decide_eq_true hl);refine⟨?_,?_,?_⟩ <;> simp only[SV.sc,SV.cells,SV.val,hg]
 | .fv _ g,hl=>by
  have hg:=h g (of_decide_eq_true hl);refine⟨?_,?_,?_⟩ <;> simp only[SV.sc,SV.cells,SV.val,hg]
 | .ap a t,hl=>by
  simp only[SV.lt,Bool.and_eq_true]at hl;obtain⟨_,h1,_⟩:=lt_same h hl.1;obtain⟨_,h2,_⟩:=lt_same h hl.2;refine⟨rfl,?_,?_⟩
  ·simp only[SV.cells,h1,h2]
  ·simp only[SV.val,h1,h2]
 | .tu a t,hl=>by
  simp only[SV.lt,Bool.and_eq_true]at hl;obtain⟨_,_,h1⟩:=lt_same h hl.1;obtain⟨_,_,h2⟩:=lt_same h hl.2;exact⟨rfl,rfl,by simp only[SV.val,h1,h2]⟩
 | .gd t x,hl=>by
  obtain⟨_,_,h1⟩:=lt_same (x:=x) h hl;exact⟨rfl,rfl,by simp only[SV.val,h1]⟩
 | .fn _ _ x,hl=>by
  obtain⟨_,_,h1⟩:=lt_same (x:=x) h hl;exact⟨rfl,rfl,by simp only[SV.val,h1]⟩
theorem SV.lt_mono{n m:Nat}(h:n<=m):∀ {x:SV},x.lt n=true->x.lt m=true
 | .w _,_ | .e,_ | .b _,_ | .i _ _,_ | .na _,_ | .v _,_=>rfl
 | .p g _ _ _,hl=>by have:=of_decide_eq_true hl;exact decide_eq_true (by omega)
 | .s g _ _ _,hl=>by have:=of_decide_eq_true hl;exact decide_eq_true (by omega)
 | .fv _ g,hl=>by have:=of_decide_eq_true hl;exact decide_eq_true (by omega)
 | .ap a t,hl=>by
  simp only[SV.lt,Bool.and_eq_true]at hl |-
  exact⟨lt_mono h hl.1,lt_mono h hl.2⟩
 | .tu a t,hl=>by
  simp only[SV.lt,Bool.and_eq_true]at hl |-
  exact⟨lt_mono h hl.1,lt_mono h hl.2⟩
 | .gd _ x,hl=>lt_mono (x:=x) h hl
 | .fn _ _ x,hl=>lt_mono (x:=x) h hl
def SV.ok:SV->Prop
 | .w x=>x<2^256
 | .na x=>x<2^62
 | .ap h t=>h.ok/\t.ok
 | .tu x y=>x.ok/\y.ok
 | .gd t x=>t=true->x.ok
 | .fn _ _ x=>x.ok
 | _=>True
def limb(o x:Nat):Int:=((x / 18446744073709551616^o%18446744073709551616:Nat):Int)
def SV.sub(m:Bool)(off sz:Nat):SV->Option SV
 | .w x=>if m then (if off=0/\sz=4 then some (.w x)else none)else if off<4/\sz=1 then some (.i .u64 (limb off x))else none
 | .e=>none
 | .ap h t=>match (if off+sz<=h.size then h.sub m off sz else none)with
  | some r=>some r
  | none=>if m=true/\off=0/\sz=(SV.ap h t).size then some (.ap h t)else if h.size<=off then t.sub m (off - h.size) sz else none
 | x=>if m=false/\off=0/\sz=1/\x.one=true then some x else none
structure Part (γ:Pl) (m:Bool) (off sz:Nat) (x r:SV):Prop where
 size:r.size=sz
 cells:∀ j,j<sz->(x.cells γ)[off+j]?=(r.cells γ)[j]?
 kind:if m=true then r.many=true else r.one=true
 ok:x.ok->r.ok
 lt:∀ n,x.lt n=true->r.lt n=true
theorem pw_limb(γ:Pl)(o x:Nat)(h:o<4):(pw x)[o]?=some ((SV.i .u64 (limb o x)).val γ):=by
 have:o=0\/o=1\/o=2\/o=3:=by omega
 rcases this with rfl | rfl | rfl | rfl
 ·simp[pw,limb,SV.val,SV.sc]
 ·simp[pw,limb,SV.val,SV.sc]
 ·simp[pw,limb,SV.val,SV.sc]
 ·simp[pw,limb,SV.val,SV.sc]
theorem SV.sub_ok(γ:Pl){m:Bool}:∀ {x:SV} {off sz:Nat} {r:SV},x.sub m off sz=some r->Part γ m off sz x r
 | .w x,off,sz,r,h=>by
  unfold SV.sub at h
  split at h
  ·split at h
   ·rename_i hm hh
    cases h;obtain⟨rfl,rfl⟩:=hh;exact⟨rfl,fun j _=>by rw[Nat.zero_add],by rw[if_pos hm];rfl,id,fun _ h=>h⟩
   ·cases h
  ·split at h
   ·rename_i hm hh
    cases h;obtain⟨h1,rfl⟩:=hh;refine⟨rfl,fun j hj=>?_,by rw[if_neg hm];rfl,fun _=>trivial,fun _ _=>rfl⟩;obtain rfl:j=0:=by omega
    show(pw x).toList[off+0]?=_;rw[Nat.add_zero,Array.getElem?_toList,pw_limb γ off x h1];rfl
   ·cases h
 | .e,_,_,_,h=>by cases h
 | .ap a t,off,sz,r,h=>by
  unfold SV.sub at h
  split at h
  ·rename_i r' hr
   cases h
   split at hr
   ·rename_i hh
    have q:=sub_ok γ hr;refine⟨q.size,fun j hj=>?_,q.kind,fun hx=>q.ok hx.1,fun n hn=>q.lt n (by simp only[SV.lt,Bool.and_eq_true]at hn;exact hn.1)⟩;rw[<- q.cells j hj];show(a.cells γ++t.cells γ)[off+j]?=_;rw[List.getElem?_append_left (by rw[SV.cells_len];omega)]
   ·cases hr
  ·split at h
   ·rename_i hh
    cases h;obtain⟨hm,rfl,rfl⟩:=hh;exact⟨rfl,fun j _=>by rw[Nat.zero_add],by rw[if_pos hm];rfl,id,fun _ h=>h⟩
   ·split at h
    ·rename_i hh
     have q:=sub_ok γ h;refine⟨q.size,fun j hj=>?_,q.kind,fun hx=>q.ok hx.2,fun n hn=>q.lt n (by simp only[SV.lt,Bool.and_eq_true]at hn;exact hn.2)⟩;rw[<- q.cells j hj];show(a.cells γ++t.cells γ)[off+j]?=_;rw[List.getElem?_append_right (by rw[SV.cells_len];omega),SV.cells_len];congr 1;omega
    ·cases h
 | .b _,off,sz,r,h | .i _ _,off,sz,r,h | .na _,off,sz,r,h | .v _,off,sz,r,h | .p _ _ _ _,off,sz,r,h | .s _ _ _ _,off,sz,r,h | .fv _ _,off,sz,r,h=>by
  unfold SV.sub at h
  split at h
  ·rename_i hh
   cases h;obtain⟨hm,rfl,rfl,ho⟩:=hh;exact⟨rfl,fun j _=>by rw[Nat.zero_add],by rw[hm];exact ho,id,fun _ h=>h⟩
  ·cases h
 | .tu _ _,off,sz,r,h | .gd _ _,off,sz,r,h | .fn _ _ _,off,sz,r,h=>by
  unfold SV.sub at h
  split at h
  ·rename_i hh
   exact absurd hh.2.2.2 (by simp[SV.one])
  ·cases h
def SV.put(r:SV)(off:Nat):SV->Option SV
 | .ap h t=>match (if off+r.size<=h.size then SV.put r off h else none)with
  | some h'=>some (.ap h' t)
  | none=>if off=0/\r.many=true/\(SV.ap h t).size=r.size then some r else if h.size<=off then (SV.put r (off - h.size) t).map (.ap h ·)else none
 | .w _=>if off=0/\r.many=true/\r.size=4 then some r else none
 | .e=>none
 | x=>if off=0/\x.one=true/\r.one=true then some r else none
structure Laid (γ:Pl) (off:Nat) (r x y:SV):Prop where
 size:y.size=x.size
 fits:off+r.size<=x.size
 cells:∀ j,(y.cells γ)[j]?=if off<=j/\j<off+r.size then (r.cells γ)[j - off]? else (x.cells γ)[j]?
 ok:x.ok->r.ok->y.ok
 lt:∀ n,x.lt n=true->r.lt n=true->y.lt n=true
theorem SV.one_size:∀ {x:SV},x.one=true->x.size=1
 | .b _,_ | .i _ _,_ | .na _,_ | .v _,_ | .p _ _ _ _,_ | .s _ _ _ _,_ | .fv _ _,_=>rfl
theorem laid_all{γ:Pl}{r x:SV}(h:r.size=x.size):Laid γ 0 r x r :=
 ⟨h,by omega,fun j=>by
  rw[Nat.sub_zero];by_cases hj:j<r.size
  ·rw[if_pos (by omega)]
  ·rw[if_neg (by omega),List.getElem?_eq_none (by rw[SV.cells_len];omega),List.getElem?_eq_none (by rw[SV.cells_len];omega)],fun _ h=>h,fun _ _ h=>h⟩
theorem SV.put_ok(γ:Pl){r:SV}:∀ {x:SV} {off:Nat} {y:SV},SV.put r off x=some y->Laid γ off r x y
 | .w x,off,y,h=>by
  unfold SV.put at h
  split at h
  ·rename_i hh
   cases h;obtain⟨rfl,_,h4⟩:=hh;exact laid_all h4
  ·cases h
 | .e,_,_,h=>by cases h
 | .ap a t,off,y,h=>by
  unfold SV.put at h
  split at h
  ·rename_i a' hp
   cases h
   split at hp
   ·rename_i hh
    have q:=put_ok γ hp;refine⟨by simp only[SV.size,q.size],by simp only[SV.size];omega,fun j=>?_,fun hx hr=>⟨q.ok hx.1 hr,hx.2⟩,fun n hn hr=>by
     simp only[SV.lt,Bool.and_eq_true]at hn |-
     exact⟨q.lt n hn.1 hr,hn.2⟩⟩
    show(a'.cells γ++t.cells γ)[j]?=if _ then _ else (a.cells γ++t.cells γ)[j]?
    rw[List.getElem?_append,List.getElem?_append,SV.cells_len,SV.cells_len,q.size,q.cells j];by_cases hj:j<a.size
    ·simp only[hj,if_true]
    ·rw[if_neg hj,if_neg (by omega),if_neg hj]
   ·cases hp
  ·split at h
   ·rename_i hh
    cases h;obtain⟨rfl,_,h4⟩:=hh;exact laid_all h4.symm
   ·split at h
    ·rename_i hh
     cases hp:SV.put r (off - a.size) t with
     | none=>rw[hp]at h;cases h
     | some t' =>
      rw[hp]at h;cases h;have q:=put_ok γ hp;have qf:=q.fits;refine⟨by simp only[SV.size,q.size],by simp only[SV.size];omega,fun j=>?_,fun hx hr=>⟨hx.1,q.ok hx.2 hr⟩,fun n hn hr=>by
       simp only[SV.lt,Bool.and_eq_true]at hn |-
       exact⟨hn.1,q.lt n hn.2 hr⟩⟩
      show(a.cells γ++t'.cells γ)[j]?=if _ then _ else (a.cells γ++t.cells γ)[j]?
      rw[List.getElem?_append,List.getElem?_append,SV.cells_len,q.cells (j - a.size)];by_cases hj:j<a.size
      ·rw[if_pos hj,if_pos hj,if_neg (by omega)]
      ·rw[if_neg hj,if_neg hj]
       by_cases h2:off<=j/\j<off+r.size
       ·rw[if_pos h2,if_pos (by omega),show j - a.size - (off - a.size)=j - off by omega]
       ·rw[if_neg h2,if_neg (by omega)]
    ·cases h
 | .b _,off,y,h | .i _ _,off,y,h | .na _,off,y,h | .v _,off,y,h | .p _ _ _ _,off,y,h | .s _ _ _ _,off,y,h | .fv _ _,off,y,h=>by
  unfold SV.put at h
  split at h
  ·rename_i hh
   cases h;obtain⟨rfl,_,h4⟩:=hh;exact laid_all (SV.one_size h4)
  ·cases h
 | .tu _ _,off,y,h | .gd _ _,off,y,h | .fn _ _ _,off,y,h=>by
  unfold SV.put at h
  split at h
  ·rename_i hh
   exact absurd hh.2.1 (by simp[SV.one])
  ·cases h
def tuS:List SV->SV
 | []=>.e
 | x::l=>.tu x (tuS l)
def capsOf:Nat->SV->List SV
 | 0,_=>[]
 | k+1,.tu x y=>x::capsOf k y
 | _+1,_=>[]
theorem capsOf_ok{γ:Pl}{n:Nat}:∀ {k:Nat} {x:SV},(capsOf k x).length=k->tuL k (x.val γ)=(capsOf k x).map (·.val γ)/\(x.ok->x.lt n=true->∀ u∈capsOf k x,u.ok/\u.lt n=true)
 | 0,_,_=>⟨rfl,fun _ _ u hu=>by cases hu⟩
 | k+1,x,h=>by
  cases x <;> first | (cases h;done) | skip
  rename_i x y;have h':(capsOf k y).length=k:=Nat.succ.inj h;have ih:=capsOf_ok (γ:=γ) (n:=n) h';refine⟨congrArg (x.val γ::·) ih.1,fun ho hl u hu=>?_⟩;simp only[SV.lt,Bool.and_eq_true]at hl;rcases List.mem_cons.1 hu with rfl | hu
  ·exact⟨ho.1,hl.1⟩
  ·exact ih.2 ho.2 hl.2 u hu
theorem tuS_ok{γ:Pl}{n:Nat}:∀ {l:List SV},(∀ u∈l,u.ok/\u.lt n=true)->tuL l.length ((tuS l).val γ)=l.map (·.val γ)/\(tuS l).ok/\(tuS l).lt n=true
 | [],_=>⟨rfl,trivial,rfl⟩
 | x::l,h=>by
  have ih:=tuS_ok (γ:=γ) fun u hu=>h u (.tail _ hu);have hx:=h x (.head _);exact⟨congrArg (x.val γ::·) ih.1,⟨hx.1,ih.2.1⟩,by simp only[tuS,SV.lt,hx.2,ih.2.2,Bool.and_self]⟩
end Go.Proofs.YtadfjjfklihaaaaGreat.Sy
