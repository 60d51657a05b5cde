/- Tables of sixteen words: loads, stores, rows. (Cut to what is reached, written closely: SyB · Pair · FTab.) -/
import Derived.Test.YtadfjjfklihaaaaGreatQ22
import Derived.Test.YtadfjjfklihaaaaGreatP19
import Derived.Test.YtadfjjfklihaaaaGreatQ20
import Derived.Test.YtadfjjfklihaaaaGreatP4
import Derived.Deep.MidRow
set_option linter.all false
set_option maxRecDepth 100000
set_option maxHeartbeats 8000000
namespace Go.Proofs.YtadfjjfklihaaaaGreat.Sy
open Go.RowKit
abbrev Con:=FuncId × (Nat->Rows->List SV->Option (SV × List Ob × Rows))
def conIn(f:FuncId):List Con->Nat->Rows->List SV->Option (SV × List Ob × Rows)
 | [],_,_,_=>none
 | c::l,n,M,us=>if c.1=f then c.2 n M us else conIn f l n M us
structure ConOk (P:Program) (base:Nat) (γ0:Pl) (w0:World) (c:Con):Prop where
 call:∀ as_ wx,(callFunc c.1 as_).run P wx=.ok (.enter c.1 as_) wx
 all:∀ n M l r p R,c.2 n M l=some (r,p,R)->All p->base<=n->(∀ x∈l,x.ok/\x.lt n=true)->(∀ r∈M,r.2.1.ok/\r.2.1.lt n=true)->r.ok/\r.lt (n+R.length)=true/\(∀ q∈R,q.2.1.ok/\q.2.1.lt (n+R.length)=true/\n<=q.1/\q.1<n+R.length) /\
  ∀ γ,(∀ k,k<base->γ k=γ0 k)->∀ wx,Below w0.heap.size w0 wx->Lies γ n M wx->Calls P c.1 (l.map (·.val γ)).toArray wx (Made γ n r R wx)
theorem ConOk.of{P:Program}{base:Nat}{γ0:Pl}{w0:World}{c:Con}(hc:∀ as_ wx,(callFunc c.1 as_).run P wx=.ok (.enter c.1 as_) wx)
  (h:∀ n M l r p R,c.2 n M l=some (r,p,R)->All p->(∀ x∈l,x.ok)->R=[]/\r.ok/\r.lt 0=true/\∀ γ,(∀ k,k<base->γ k=γ0 k)->∀ wx,Below w0.heap.size w0 wx->Lies γ n M wx->Calls P c.1 (l.map (·.val γ)).toArray wx fun e w'=>e=.returned (r.val γ)/\Below wx.heap.size wx w'):ConOk P base γ0 w0 c :=
 ⟨hc,fun n M l r p R h1 h2 hn h3 _=>by
  obtain⟨rfl,q1,q2,q3⟩:=h n M l r p R h1 h2 fun x hx=>(h3 x hx).1;exact⟨q1,SV.lt_mono (Nat.zero_le _) q2,fun q hq=>(by cases hq),fun γ hγ wx hw hL=>(q3 γ hγ wx hw hL).mono fun e w' hh=>⟨⟨γ,fun _ _=>rfl,hh.1,fun q hq=>(by cases hq),.nil⟩,hh.2⟩⟩⟩
theorem conIn_ok{P:Program}{base:Nat}{γ0:Pl}{w0:World}{f:FuncId}{n:Nat}{M:Rows}{us:List SV}{q:SV × List Ob × Rows}:∀ {l:List Con},(∀ c∈l,ConOk P base γ0 w0 c)->conIn f l n M us=some q->∃ c:Con,ConOk P base γ0 w0 c/\c.1=f/\c.2 n M us=some q
 | [],_,h=>by cases h
 | c::l,hl,h=>by
  unfold conIn at h
  split at h
  ·rename_i e;exact⟨c,hl c (.head _),e,h⟩
  ·exact conIn_ok (fun d hd=>hl d (.tail _ hd)) h
def conAll(P:Program)(base:Nat)(γ0:Pl)(w0:World):List Con->Prop
 | []=>True
 | c::l=>ConOk P base γ0 w0 c/\conAll P base γ0 w0 l
theorem conAll_mem{P:Program}{base:Nat}{γ0:Pl}{w0:World}:∀ {l:List Con},conAll P base γ0 w0 l->∀ c∈l,ConOk P base γ0 w0 c
 | [],_,c,h=>by cases h
 | y::l,ha,c,h=>by
  rcases List.mem_cons.1 h with rfl | h
  ·exact ha.1
  ·exact conAll_mem ha.2 c h
/-! Numbers. -/
def eqN(a b:Nat):Bool:=decide (a=b)
def ltN(a b:Nat):Bool:=decide (a<b)
def eqI(a b:Int):Bool:=decide (a=b)
def ltI(a b:Int):Bool:=decide (a<b)
def eqB(a b:Bool):Bool:=a == b
def cloS:SV->Option (IntKind × Int)
 | .v (.int k n)=>some (k,n)
 | _=>none
def intS:SV->Option (IntKind × Int)
 | .i k n=>some (k,n)
 | .na x=>some (.i64,(x:Nat))
 | .v (.int k n)=>some (k,n)
 | _=>none
def bitS:SV->Option Bool
 | .b t=>some t
 | .v (.bool t)=>some t
 | _=>none
def cloO(op:BinOp)(k:IntKind)(a b:Int):Option SV:=match op with
 | .eql=>some (.v (.bool (decide (a=b))))
 | .neq=>some (.v (.bool (!decide (a=b))))
 | .lss=>some (.v (.bool (decide (a<b))))
 | .leq=>some (.v (.bool (decide (a<=b))))
 | .gtr=>some (.v (.bool (decide (a > b))))
 | .geq=>some (.v (.bool (decide (a ≥ b))))
 | .add=>some (.v (.int k (k.wrap (a+b))))
 | .sub=>some (.v (.int k (k.wrap (a - b))))
 | .mul=>some (.v (.int k (k.wrap (a*b))))
 | .quo=>if b=0 then none else some (.v (.int k (k.wrap (a.tdiv b))))
 | .rem=>if b=0 then none else some (.v (.int k (a.tmod b)))
 | _=>none
def natO(op:BinOp)(a b:Nat):Option (SV × List Ob):=match op with
 | .eql=>some (.b (eqN a b),[])
 | .neq=>some (.b (!eqN a b),[])
 | .lss=>some (.b (ltN a b),[])
 | .leq=>some (.b (!ltN b a),[])
 | .gtr=>some (.b (ltN b a),[])
 | .geq=>some (.b (!ltN a b),[])
 | .add=>some (.na (a+b),[.ask (a+b<2^62)])
 | .sub=>some (.i .i64 ((a:Nat) - (b:Nat):Int),[])
 | .mul=>some (.na (a*b),[.ask (a*b<2^62)])
 | .quo=>if b=0 then none else some (.na (a / b),[])
 | .rem=>if b=0 then none else some (.na (a%b),[])
 | _=>none
def shrI(k:IntKind)(a b:Int):Int:=a.fdiv (2^(min b.toNat k.bits))
def andI(k:IntKind)(a b:Int):Int:=k.wrap ((BitVec.ofInt k.bits a &&& BitVec.ofInt k.bits b).toNat:Nat)
def intO(op:BinOp)(k:IntKind)(a b:Int):Option (SV × List Ob):=match op with
 | .eql=>some (.b (eqI a b),[])
 | .neq=>some (.b (!eqI a b),[])
 | .lss=>some (.b (ltI a b),[])
 | .leq=>some (.b (!ltI b a),[])
 | .gtr=>some (.b (ltI b a),[])
 | .geq=>some (.b (!ltI a b),[])
 | .add=>some (.i k (a+b),[.ask (k.wrap (a+b)=a+b)])
 | .sub=>some (.i k (a - b),[.ask (k.wrap (a - b)=a - b)])
 | .rem=>some (.i k (a.tmod b),[.ask (b≠0)])
 | .and=>some (.i k (andI k a b),[])
 | _=>none
def eqL(a b:List Nat):Bool:=decide (a=b)
def eqP(p q:Nat × Nat × Bool):Bool:=decide (p.1=q.1/\p.2.1=q.2.1/\p.2.2=q.2.2)
def ptS:SV->Option (Nat × Nat × Bool)
 | .ap (.w x) (.ap (.w y) (.ap n .e))=>(bitS n).map fun n=>(x,y,n)
 | _=>none
def eqTw(p q:(Nat × Nat) × (Nat × Nat) × Bool):Bool:=decide ((p.1.1=q.1.1/\p.1.2=q.1.2)/\(p.2.1.1=q.2.1.1/\p.2.1.2=q.2.1.2)/\p.2.2=q.2.2)
def twS:SV->Option ((Nat × Nat) × (Nat × Nat) × Bool)
 | .ap (.ap (.w x) (.ap (.w x1) .e)) (.ap (.ap (.w y) (.ap (.w y1) .e)) (.ap n .e))=>(bitS n).map fun n=>((x,x1),(y,y1),n)
 | _=>none
def eqG(T:TypeId)(x y:SV):Option Bool:=match x,y with
 | .w a,.w b=>if T=24 then some (eqN a b)else none
 | x,y=>match bitS x,bitS y with
  | some a,some b=>if T=4 then some (eqB a b)else none
  | _,_=>match wordsS x,wordsS y with
   | some p,some q=>if T=38 then (if p.length=2/\q.length=2 then some (eqL p q)else none)else none
   | _,_=>match ptS x,ptS y with
    | some p,some q=>if T=26 then some (eqP p q)else none
    | _,_=>match twS x,twS y with
     | some p,some q=>if T=47 then some (eqTw p q)else none
     | _,_=>none
def shrS(x y:SV):Option (SV × List Ob):=match intS x,intS y with
 | some p,some q=>some (.i p.1 (shrI p.1 p.2 q.2),[.ask (0<=q.2)])
 | _,_=>none
def bopO(op:BinOp)(T:TypeId)(x y:SV):Option (SV × List Ob):=match cloS x,cloS y with
 | some p,some q=>if p.1=q.1 then (cloO op p.1 p.2 q.2).map (·,[])else none
 | _,_=>match natS x,natS y with
  | some a,some b=>natO op a b
  | _,_=>match intS x,intS y with
   | some p,some q=>if p.1=q.1 then intO op p.1 p.2 q.2 else none
   | _,_=>match op with
    | .eql=>(eqG T x y).map fun t=>(.b t,[])
    | .neq=>(eqG T x y).map fun t=>(.b (!t),[])
    | _=>none
section
variable {P:Program} {γ:Pl} {x y r:SV}
theorem intS_ok{k:IntKind}{n:Int}(h:intS x=some (k,n)):x.val γ=.int k n:=by
 unfold intS at h
 split at h <;> cases h <;> rfl
theorem cloS_ok{k:IntKind}{n:Int}(h:cloS x=some (k,n)):x.val γ=.int k n:=by
 unfold cloS at h
 split at h <;> cases h
 rfl
theorem bitS_ok{t:Bool}(h:bitS x=some t):x.val γ=.bool t:=by
 unfold bitS at h
 split at h <;> cases h <;> rfl
theorem ptS_ok{p:Nat × Nat × Bool}(h:ptS x=some p):x.val γ=.agg (pc p.1 p.2.1 p.2.2)/\(x.ok->p.1<2^256/\p.2.1<2^256):=by
 unfold ptS at h
 split at h
 ·rename_i a b n
  obtain⟨t,ht,rfl⟩:=Option.map_eq_some_iff.1 h;refine⟨?_,fun ho=>⟨ho.1,ho.2.1⟩⟩;have hn:n.cells γ=[.bool t]:=by
   unfold bitS at ht
   split at ht <;> cases ht <;> rfl
  simp[SV.val,SV.cells,hn,pc]
 ·cases h
theorem twS_ok{p:(Nat × Nat) × (Nat × Nat) × Bool}(h:twS x=some p):x.val γ=.agg (tc p.1.1 p.1.2 p.2.1.1 p.2.1.2 p.2.2)/\(x.ok->(p.1.1<2^256/\p.1.2<2^256)/\p.2.1.1<2^256/\p.2.1.2<2^256):=by
 unfold twS at h
 split at h
 ·rename_i a a1 b b1 n
  obtain⟨t,ht,rfl⟩:=Option.map_eq_some_iff.1 h;refine⟨?_,fun ho=>⟨⟨ho.1.1,ho.1.2.1⟩,ho.2.1.1,ho.2.1.2.1⟩⟩;have hn:n.cells γ=[.bool t]:=by
   unfold bitS at ht
   split at ht <;> cases ht <;> rfl
  simp[SV.val,SV.cells,hn,tc]
 ·cases h
theorem int_guard(op:BinOp)(T:TypeId)(ox oy:Operand)(k k':IntKind)(a b:Int)(w:World):(eqGuard op T ox oy (.int k a) (.int k' b)).run P w=.ok () w:=by
 unfold eqGuard;cases op <;> rfl
theorem bool_guard(op:BinOp)(T:TypeId)(ox oy:Operand)(a b:Bool)(w:World):(eqGuard op T ox oy (.bool a) (.bool b)).run P w=.ok () w:=by
 unfold eqGuard;cases op <;> rfl
theorem int_eql(T:TypeId)(k:IntKind)(a b:Int)(w:World):(binOp .eql T (.int k a) (.int k b)).run P w=.ok (.bool (decide (a=b))) w:=by
 cases k <;> rfl
theorem int_neq(T:TypeId)(k:IntKind)(a b:Int)(w:World):(binOp .neq T (.int k a) (.int k b)).run P w=.ok (.bool (!decide (a=b))) w:=by
 cases k <;> rfl
theorem int_lss(T:TypeId)(k:IntKind)(a b:Int)(w:World):(binOp .lss T (.int k a) (.int k b)).run P w=.ok (.bool (decide (a<b))) w:=by
 cases k <;> rfl
theorem int_leq(T:TypeId)(k:IntKind)(a b:Int)(w:World):(binOp .leq T (.int k a) (.int k b)).run P w=.ok (.bool (decide (a<=b))) w:=by
 cases k <;> rfl
theorem int_gtr(T:TypeId)(k:IntKind)(a b:Int)(w:World):(binOp .gtr T (.int k a) (.int k b)).run P w=.ok (.bool (decide (a > b))) w:=by
 cases k <;> rfl
theorem int_geq(T:TypeId)(k:IntKind)(a b:Int)(w:World):(binOp .geq T (.int k a) (.int k b)).run P w=.ok (.bool (decide (a ≥ b))) w:=by
 cases k <;> rfl
theorem int_add(T:TypeId)(k:IntKind)(a b:Int)(w:World):(binOp .add T (.int k a) (.int k b)).run P w=.ok (.int k (k.wrap (a+b))) w:=by
 cases k <;> rfl
theorem int_sub(T:TypeId)(k:IntKind)(a b:Int)(w:World):(binOp .sub T (.int k a) (.int k b)).run P w=.ok (.int k (k.wrap (a - b))) w:=by
 cases k <;> rfl
theorem int_mul(T:TypeId)(k:IntKind)(a b:Int)(w:World):(binOp .mul T (.int k a) (.int k b)).run P w=.ok (.int k (k.wrap (a*b))) w:=by
 cases k <;> rfl
theorem int_quo(T:TypeId)(k:IntKind)(a b:Int)(hb:b≠0)(w:World):(binOp .quo T (.int k a) (.int k b)).run P w=.ok (.int k (k.wrap (a.tdiv b))) w:=by
 cases k <;> simp[binOp,Op.intDiv,hb]
theorem int_rem(T:TypeId)(k:IntKind)(a b:Int)(hb:b≠0)(w:World):(binOp .rem T (.int k a) (.int k b)).run P w=.ok (.int k (a.tmod b)) w:=by
 cases k <;> simp[binOp,Op.intDiv,hb]
theorem int_and(T:TypeId)(k:IntKind)(a b:Int)(w:World):(binOp .and T (.int k a) (.int k b)).run P w=.ok (.int k (andI k a b)) w:=by
 cases k <;> rfl
theorem int_shr(T:TypeId)(k k':IntKind)(a b:Int)(hb:0<=b)(w:World):(binOp .shr T (.int k a) (.int k' b)).run P w=.ok (.int k (shrI k a b)) w:=by
 have h:¬b<0:=by omega
 simp[binOp,Op.shift,h,shrI]
theorem cloO_ok{op:BinOp}{k:IntKind}{a b:Int}(h:cloO op k a b=some r)(T:TypeId)(w:World):r.ok/\r.lt 0=true/\(binOp op T (.int k a) (.int k b)).run P w=.ok (r.val γ) w:=by
 cases op <;> first | (cases h;done) | skip
 ·cases h;exact⟨trivial,rfl,int_add T k a b w⟩
 ·cases h;exact⟨trivial,rfl,int_sub T k a b w⟩
 ·cases h;exact⟨trivial,rfl,int_mul T k a b w⟩
 ·unfold cloO at h
  dsimp only at h
  split at h
  ·cases h
  ·rename_i hb;cases h;exact⟨trivial,rfl,int_quo T k a b hb w⟩
 ·unfold cloO at h
  dsimp only at h
  split at h
  ·cases h
  ·rename_i hb;cases h;exact⟨trivial,rfl,int_rem T k a b hb w⟩
 ·cases h;exact⟨trivial,rfl,int_eql T k a b w⟩
 ·cases h;exact⟨trivial,rfl,int_neq T k a b w⟩
 ·cases h;exact⟨trivial,rfl,int_lss T k a b w⟩
 ·cases h;exact⟨trivial,rfl,int_leq T k a b w⟩
 ·cases h;exact⟨trivial,rfl,int_gtr T k a b w⟩
 ·cases h;exact⟨trivial,rfl,int_geq T k a b w⟩
theorem natO_ok{op:BinOp}{a b:Nat}{p:List Ob}(h:natO op a b=some (r,p))(hp:All p)(ha:a<2^62)(hb62:b<2^62)(T:TypeId)(w:World):r.ok/\r.lt 0=true/\(binOp op T (.int .i64 (a:Nat)) (.int .i64 (b:Nat))).run P w=.ok (r.val γ) w:=by
 have h62:(2:Nat)^62=4611686018427387904:=by decide
 have e1:∀ a b:Nat,decide (((a:Nat):Int)=((b:Nat):Int))=eqN a b:=fun a b=>decide_eq_decide.2 (by omega);have e2:∀ a b:Nat,decide (((a:Nat):Int)<((b:Nat):Int))=ltN a b:=fun a b=>decide_eq_decide.2 (by omega);have e3:∀ a b:Nat,decide (((a:Nat):Int)<=((b:Nat):Int))=!ltN b a:=fun a b=>by
  unfold ltN;rw[<- decide_not];exact decide_eq_decide.2 (by omega)
 cases op <;> first | (cases h;done) | skip
 ·cases h
  have hlt:a+b<2^62:=hp _ (.head _);refine⟨hlt,rfl,(int_add T .i64 a b w).trans ?_⟩;rw[wrap_in (by omega) (by omega)];rfl
 ·cases h
  refine⟨trivial,rfl,(int_sub T .i64 a b w).trans ?_⟩;rw[wrap_in (by omega) (by omega)];rfl
 ·cases h
  have hlt:a*b<2^62:=hp _ (.head _);refine⟨hlt,rfl,(int_mul T .i64 a b w).trans ?_⟩;rw[<- Int.natCast_mul,wrap_in (by omega) (by omega)];rfl
 ·unfold natO at h
  dsimp only at h
  split at h
  ·cases h
  ·rename_i hb
   cases h;have hq:a / b<=a:=Nat.div_le_self a b;refine⟨by show a / b<2^62;omega,rfl,(int_quo T .i64 a b (by omega) w).trans ?_⟩;show Result.ok (Value.int .i64 (IntKind.i64.wrap ((a / b:Nat):Int))) w=Result.ok (Value.int .i64 ((a / b:Nat):Int)) w;generalize a / b=q at hq;rw[wrap_in (by omega) (by omega)]
 ·unfold natO at h
  dsimp only at h
  split at h
  ·cases h
  ·rename_i hb
   cases h;have hq:a%b<=a:=Nat.mod_le a b;exact⟨by show a%b<2^62;omega,rfl,int_rem T .i64 a b (by omega) w⟩
 ·cases h;exact⟨trivial,rfl,(int_eql T .i64 a b w).trans (by rw[e1];rfl)⟩
 ·cases h;exact⟨trivial,rfl,(int_neq T .i64 a b w).trans (by rw[e1];rfl)⟩
 ·cases h;exact⟨trivial,rfl,(int_lss T .i64 a b w).trans (by rw[e2];rfl)⟩
 ·cases h;exact⟨trivial,rfl,(int_leq T .i64 a b w).trans (by rw[e3];rfl)⟩
 ·cases h;exact⟨trivial,rfl,(int_gtr T .i64 a b w).trans (by rw[show decide (((a:Nat):Int) > ((b:Nat):Int))=ltN b a from e2 b a];rfl)⟩
 ·cases h;exact⟨trivial,rfl,(int_geq T .i64 a b w).trans (by rw[show decide (((a:Nat):Int) ≥ ((b:Nat):Int))=!ltN a b from e3 b a];rfl)⟩
theorem intO_ok{op:BinOp}{k:IntKind}{a b:Int}{p:List Ob}(h:intO op k a b=some (r,p))(hp:All p)(T:TypeId)(w:World):r.ok/\r.lt 0=true/\(binOp op T (.int k a) (.int k b)).run P w=.ok (r.val γ) w:=by
 have e3:∀ a b:Int,decide (a<=b)=!ltI b a:=fun a b=>by
  unfold ltI;rw[<- decide_not];exact decide_eq_decide.2 (by omega)
 cases op <;> first | (cases h;done) | skip
 ·cases h
  have hw:k.wrap (a+b)=a+b:=hp _ (.head _);exact⟨trivial,rfl,(int_add T k a b w).trans (by rw[hw];rfl)⟩
 ·cases h
  have hw:k.wrap (a - b)=a - b:=hp _ (.head _);exact⟨trivial,rfl,(int_sub T k a b w).trans (by rw[hw];rfl)⟩
 ·cases h
  exact⟨trivial,rfl,int_rem T k a b (hp _ (.head _)) w⟩
 ·cases h
  exact⟨trivial,rfl,int_and T k a b w⟩
 ·cases h;exact⟨trivial,rfl,int_eql T k a b w⟩
 ·cases h;exact⟨trivial,rfl,int_neq T k a b w⟩
 ·cases h;exact⟨trivial,rfl,int_lss T k a b w⟩
 ·cases h;exact⟨trivial,rfl,(int_leq T k a b w).trans (by rw[e3];rfl)⟩
 ·cases h;exact⟨trivial,rfl,int_gtr T k a b w⟩
 ·cases h;exact⟨trivial,rfl,(int_geq T k a b w).trans (by rw[show decide (a ≥ b)=!ltI a b from e3 b a];rfl)⟩
end
theorem eqG_ok{T:TypeId}{x y:SV}{t:Bool}{γ:Pl}(h:eqG T x y=some t)(hx:x.ok)(hy:y.ok)(ox oy:Operand)(w:World):(∀ op,(eqGuard op T ox oy (x.val γ) (y.val γ)).run Tryz.prog w=.ok () w)/\(binOp .eql T (x.val γ) (y.val γ)).run Tryz.prog w=.ok (.bool t) w/\(binOp .neq T (x.val γ) (y.val γ)).run Tryz.prog w=.ok (.bool (!t)) w:=by
 unfold eqG at h
 split at h
 ·rename_i a b
  split at h
  ·rename_i e
   cases h;subst e;exact⟨fun op=>by cases op <;> kernel_rfl,eqw_run a b hx hy w,new_run a b hx hy w⟩
  ·cases h
 ·split at h
  ·rename_i a b ha hb
   split at h
   ·rename_i e
    cases h;subst e;rw[bitS_ok ha,bitS_ok hb];refine⟨fun op=>bool_guard op _ ox oy a b w,?_,?_⟩
    ·cases a <;> cases b <;> kernel_rfl
    ·cases a <;> cases b <;> kernel_rfl
   ·cases h
  ·split at h
   ·rename_i p q hp hq
    split at h
    ·rename_i e
     split at h
     ·rename_i hl
      cases h;subst e;have m1:=SV.val_many (γ:=γ) (wordsS_ok γ x hp).2.1;have m2:=SV.val_many (γ:=γ) (wordsS_ok γ y hq).2.1;exact⟨fun op=>by rw[m1,m2];cases op <;> kernel_rfl,eqWs_run (k:=2) (d0:=3) eqT_2 (by decide) hp hq hl.1 hl.2 hx hy γ w⟩
     ·cases h
    ·cases h
   ·split at h
    ·rename_i p q hp hq
     split at h
     ·rename_i e
      cases h;subst e;have h1:=ptS_ok (γ:=γ) hp;have h2:=ptS_ok (γ:=γ) hq;rw[h1.1,h2.1];exact⟨fun op=>by cases op <;> kernel_rfl,eqp_run p.2.2 q.2.2 (h1.2 hx).1 (h1.2 hx).2 (h2.2 hy).1 (h2.2 hy).2 w,neqp_run p.2.2 q.2.2 (h1.2 hx).1 (h1.2 hx).2 (h2.2 hy).1 (h2.2 hy).2 w⟩
     ·cases h
    ·split at h
     ·rename_i p q hp hq
      split at h
      ·rename_i e
       cases h;subst e;have h1:=twS_ok (γ:=γ) hp;have h2:=twS_ok (γ:=γ) hq;rw[h1.1,h2.1];exact⟨fun op=>by cases op <;> kernel_rfl,eqt_run p.2.2 q.2.2 (h1.2 hx).1.1 (h1.2 hx).1.2 (h1.2 hx).2.1 (h1.2 hx).2.2 (h2.2 hy).1.1 (h2.2 hy).1.2 (h2.2 hy).2.1 (h2.2 hy).2.2 w,neqt_run p.2.2 q.2.2 (h1.2 hx).1.1 (h1.2 hx).1.2 (h1.2 hx).2.1 (h1.2 hx).2.2 (h2.2 hy).1.1 (h2.2 hy).1.2 (h2.2 hy).2.1 (h2.2 hy).2.2 w⟩
      ·cases h
     ·cases h
theorem bopO_ok{op:BinOp}{T:TypeId}{x y r:SV}{p:List Ob}(h:bopO op T x y=some (r,p))(hp:All p)(hx:x.ok)(hy:y.ok):r.ok/\r.lt 0=true/\∀ γ (ox oy:Operand) wx,(eqGuard op T ox oy (x.val γ) (y.val γ)).run Tryz.prog wx=.ok () wx/\(binOp op T (x.val γ) (y.val γ)).run Tryz.prog wx=.ok (r.val γ) wx:=by
 have w:World:=default;unfold bopO at h
 split at h
 ·rename_i u v hu hv
  obtain⟨k,a⟩:=u;obtain⟨k',b⟩:=v
  split at h
  ·rename_i hk
   dsimp only at hk;subst hk;obtain⟨r',hr,e⟩:=Option.map_eq_some_iff.1 h;cases e;refine⟨(cloO_ok (P:=Tryz.prog) (γ:=fun _=>0) hr T w).1,(cloO_ok (P:=Tryz.prog) (γ:=fun _=>0) hr T w).2.1,fun γ ox oy wx=>?_⟩;rw[cloS_ok hu,cloS_ok hv];exact⟨int_guard op T ox oy _ _ _ _ wx,(cloO_ok hr T wx).2.2⟩
  ·cases h
 ·split at h
  ·rename_i a b ha hb
   have h1:=natS_ok (γ:=fun _=>0) ha hx;have h2:=natS_ok (γ:=fun _=>0) hb hy;refine⟨(natO_ok (P:=Tryz.prog) (γ:=fun _=>0) h hp h1.2 h2.2 T w).1,(natO_ok (P:=Tryz.prog) (γ:=fun _=>0) h hp h1.2 h2.2 T w).2.1,fun γ ox oy wx=>?_⟩;rw[(natS_ok ha hx).1,(natS_ok hb hy).1];exact⟨int_guard op T ox oy _ _ _ _ wx,(natO_ok h hp h1.2 h2.2 T wx).2.2⟩
  ·split at h
   ·rename_i u v hu hv
    obtain⟨k,a⟩:=u;obtain⟨k',b⟩:=v
    split at h
    ·rename_i hk
     dsimp only at hk;subst hk;refine⟨(intO_ok (P:=Tryz.prog) (γ:=fun _=>0) h hp T w).1,(intO_ok (P:=Tryz.prog) (γ:=fun _=>0) h hp T w).2.1,fun γ ox oy wx=>?_⟩;rw[intS_ok hu,intS_ok hv];exact⟨int_guard op T ox oy _ _ _ _ wx,(intO_ok h hp T wx).2.2⟩
    ·cases h
   ·split at h
    ·obtain⟨t,ht,e⟩:=Option.map_eq_some_iff.1 h
     cases e;refine⟨trivial,rfl,fun γ ox oy wx=>?_⟩;have q:=eqG_ok (γ:=γ) ht hx hy ox oy wx;exact⟨q.1 _,q.2.1⟩
    ·obtain⟨t,ht,e⟩:=Option.map_eq_some_iff.1 h
     cases e;refine⟨trivial,rfl,fun γ ox oy wx=>?_⟩;have q:=eqG_ok (γ:=γ) ht hx hy ox oy wx;exact⟨q.1 _,q.2.2⟩
    ·cases h
def bopG(op:BinOp)(T:TypeId)(x y:SV):Option (SV × List Ob):=match op with
 | .shr=>shrS x y
 | op=>bopO op T x y
theorem bopG_ok{op:BinOp}{T:TypeId}{x y r:SV}{p:List Ob}(h:bopG op T x y=some (r,p))(hp:All p)(hx:x.ok)(hy:y.ok):r.ok/\r.lt 0=true/\∀ γ (ox oy:Operand) wx,(eqGuard op T ox oy (x.val γ) (y.val γ)).run Tryz.prog wx=.ok () wx/\(binOp op T (x.val γ) (y.val γ)).run Tryz.prog wx=.ok (r.val γ) wx:=by
 unfold bopG at h
 split at h
 ·unfold shrS at h
  split at h
  ·rename_i u v hu hv
   obtain⟨k,a⟩:=u;obtain⟨k',b⟩:=v;cases h;have hb:0<=b:=hp _ (.head _);refine⟨trivial,rfl,fun γ ox oy wx=>?_⟩;rw[intS_ok hu,intS_ok hv];exact⟨int_guard .shr T ox oy k k' a b wx,int_shr T k k' a b hb wx⟩
  ·cases h
 ·exact bopO_ok h hp hx hy
end Go.Proofs.YtadfjjfklihaaaaGreat.Sy
namespace Go.Proofs.YtadfjjfklihaaaaGreat
open Go.RowKit
structure AQ (p q H:Nat) (s:Nat->Value) (wx:World):Prop where
 ap:∀ D,s p=.pointer (some ⟨D,0,none⟩)->H<=D/\D<wx.heap.size
 aq:∀ D,s q=.pointer (some ⟨D,0,none⟩)->H<=D/\D<wx.heap.size
 ne:∀ D E,s p=.pointer (some ⟨D,0,none⟩)->s q=.pointer (some ⟨E,0,none⟩)->D≠E
theorem AQ.start{p q H:Nat}{s:Nat->Value}{wx:World}(h7:s p=undef)(h8:s q=undef):AQ p q H s wx :=
 ⟨fun D hD=>(by rw[h7]at hD;unfold undef at hD;cases hD),fun D hD=>(by rw[h8]at hD;unfold undef at hD;cases hD),fun D E hD=>(by rw[h7]at hD;unfold undef at hD;cases hD)⟩
theorem AQ.put{p q H:Nat}{s s':Nat->Value}{wx w':World}(h:AQ p q H s wx)(e7:s' p=s p)(e8:s' q=s q)(hl:wx.heap.size<=w'.heap.size):AQ p q H s' w' :=
 ⟨fun D hD=>⟨(h.ap D (e7 ▸ hD)).1,Nat.lt_of_lt_of_le (h.ap D (e7 ▸ hD)).2 hl⟩,fun D hD=>⟨(h.aq D (e8 ▸ hD)).1,Nat.lt_of_lt_of_le (h.aq D (e8 ▸ hD)).2 hl⟩,fun D E h1 h2=>h.ne D E (e7 ▸ h1) (e8 ▸ h2)⟩
theorem AQ.newp{p q H:Nat}{s s':Nat->Value}{wx w':World}(h:AQ p q H s wx)(e7:s' p=.pointer (some ⟨wx.heap.size,0,none⟩))(e8:s' q=s q)(hH:H<=wx.heap.size)(hl:wx.heap.size<w'.heap.size):AQ p q H s' w' :=
 ⟨fun D hD=>by rw[e7]at hD;cases hD;exact⟨hH,hl⟩,fun D hD=>⟨(h.aq D (e8 ▸ hD)).1,Nat.lt_trans (h.aq D (e8 ▸ hD)).2 hl⟩,fun D E h1 h2=>by rw[e7]at h1;cases h1;have:=(h.aq E (e8 ▸ h2)).2;omega⟩
theorem AQ.newq{p q H:Nat}{s s':Nat->Value}{wx w':World}(h:AQ p q H s wx)(e8:s' q=.pointer (some ⟨wx.heap.size,0,none⟩))(e7:s' p=s p)(hH:H<=wx.heap.size)(hl:wx.heap.size<w'.heap.size):AQ p q H s' w' :=
 ⟨fun D hD=>⟨(h.ap D (e7 ▸ hD)).1,Nat.lt_trans (h.ap D (e7 ▸ hD)).2 hl⟩,fun D hD=>by rw[e8]at hD;cases hD;exact⟨hH,hl⟩,fun D E h1 h2=>by rw[e8]at h2;cases h2;have:=(h.ap D (e7 ▸ h1)).2;omega⟩
def RM2(p q:Nat)(ca cb:Array Value)(s:Nat->Value)(wa wb:World):Prop:=(wa.heap.size<=wb.heap.size/\∀(k:Nat),k<wa.heap.size->wb.heap[k]?=wa.heap[k]?)\/∃(D:Nat) (cs:Array Value),(s p=.pointer (some ⟨D,0,none⟩)/\cs=ca\/s q=.pointer (some ⟨D,0,none⟩)/\cs=cb)/\wb=wa.setRow D cs
theorem RM2.of{p q:Nat}{ca cb:Array Value}{s:Nat->Value}{wa wb:World}(h:Below wa.heap.size wa wb):RM2 p q ca cb s wa wb:=.inl ⟨h.size,fun k hk=>h.block k hk⟩
theorem RM2.same{p q:Nat}{ca cb:Array Value}{s:Nat->Value}(wa:World):RM2 p q ca cb s wa wa:=.inl ⟨Nat.le_refl _,fun _ _=>rfl⟩
theorem RM2.shape{p q D n:Nat}{T:TypeId}{ca cb:Array Value}{s:Nat->Value}{wa wb:World}(hR:RM2 p q ca cb s wa wb)(ha:ca.size=n)(hb:cb.size=n)(h:∃ cs:Array Value,wa.heap[D]?=some (.cells cs T (0,0))/\cs.size=n):∃ cs:Array Value,wb.heap[D]?=some (.cells cs T (0,0))/\cs.size=n:=by
 obtain⟨cs,e,hs⟩:=h;rcases hR with⟨-,h⟩ | ⟨E,c1,h1,rfl⟩
 ·exact⟨cs,(h D (Array.getElem?_eq_some_iff.1 e).1).trans e,hs⟩
 ·by_cases q:D=E
  ·subst q
   exact⟨c1,setRow_heap _ _ _ _ _ _ e,by rcases h1 with⟨-,rfl⟩ | ⟨-,rfl⟩ <;> assumption⟩
  ·exact⟨cs,(setRow_other _ _ _ _ q).trans e,hs⟩
theorem RM2.keepp{p q D H:Nat}{T:TypeId}{ca cb:Array Value}{s:Nat->Value}{wa wb:World}(hA:AQ p q H s wa)(hR:RM2 p q ca cb s wa wb)(hs:s p=.pointer (some ⟨D,0,none⟩))(e:wa.heap[D]?=some (.cells ca T (0,0))):wb.heap[D]?=some (.cells ca T (0,0)):=by
 rcases hR with⟨-,h⟩ | ⟨E,c1,h1,rfl⟩
 ·exact(h D (Array.getElem?_eq_some_iff.1 e).1).trans e
 ·rcases h1 with⟨h1,rfl⟩ | ⟨h1,rfl⟩
  ·rw[hs]at h1;cases h1;exact setRow_heap _ _ _ _ _ _ e
  ·exact(setRow_other _ _ _ _ (hA.ne D E hs h1)).trans e
theorem RM2.keepq{p q D H:Nat}{T:TypeId}{ca cb:Array Value}{s:Nat->Value}{wa wb:World}(hA:AQ p q H s wa)(hR:RM2 p q ca cb s wa wb)(hs:s q=.pointer (some ⟨D,0,none⟩))(e:wa.heap[D]?=some (.cells cb T (0,0))):wb.heap[D]?=some (.cells cb T (0,0)):=by
 rcases hR with⟨-,h⟩ | ⟨E,c1,h1,rfl⟩
 ·exact(h D (Array.getElem?_eq_some_iff.1 e).1).trans e
 ·rcases h1 with⟨h1,rfl⟩ | ⟨h1,rfl⟩
  ·exact(setRow_other _ _ _ _ (Ne.symm (hA.ne E D h1 hs))).trans e
  ·rw[hs]at h1;cases h1;exact setRow_heap _ _ _ _ _ _ e
open Go.RowKit
def tabF(q:Nat->Nat)(i:Nat):Int:=((pN (q (i / 4)) (i%4):Nat):Int)
theorem info64:(Tryz.prog.info? 163).map (·.size)=some 64:=by kernel_rfl
theorem tab_at{w:World}{V:Nat}{q:Nat->Nat}(h:w.heap[V]?=some (.cells (ar .u64 64 (tabF q)) 163 (0,0)))(k j:Nat)(hk:k<16)(hj:j<4):w.cell? ⟨V,k*4+j,none⟩=some (.int .u64 ((pN (q k) j:Nat):Int)):=by
 refine(cell_of_row _ _ (k*4+j) _ _ _ h).trans ((ar_at _ _ _ _ (by omega)).trans ?_);unfold tabF;rw[show(k*4+j) / 4=k by omega,show(k*4+j)%4=j by omega]
theorem ld_tab{w:World}{V:Nat}{q:Nat->Nat}(h:w.heap[V]?=some (.cells (ar .u64 64 (tabF q)) 163 (0,0)))(k:Nat)(hk:k<16):(Instr.loadAt 24 (.pointer (some ⟨V,k*4,none⟩))).run Tryz.prog w=.ok (.agg (pw (q k))) w:=by
 rw[pw_ar];simp only[Instr.loadAt,Instr.sureAddr,Sem.run_bind,Sem.run_pure,Result.andThen_ok,run_loadVar_part w V (k*4) 4 24 .u64 (fun j=>((pN (q k) j:Nat):Int)) _ (fun j hj=>tab_at h k j hk hj) Tryz.underlying24 rfl infoW4]
theorem ix_tab(V k:Nat)(hk:k<16)(w:World):(Instr.indexAt 163 (.pointer (some ⟨V,0,none⟩)) (.int .i64 (k:Nat))).run Tryz.prog w=.ok (.pointer (some ⟨V,k*4,none⟩)) w:=by
 have h0:(0:Int)<=k:=by omega
 have h1:(k:Int)<16:=by omega
 go_simp
theorem tab_upd(q:Nat->Nat)(k y:Nat):ar .u64 64 (updI (updI (updI (updI (tabF q) (k*4) ((pN y 0:Nat):Int)) (k*4+1) ((pN y 1:Nat):Int)) (k*4+2) ((pN y 2:Nat):Int)) (k*4+3) ((pN y 3:Nat):Int))=ar .u64 64 (tabF (updN q k y)):=ar_congr fun i hi=>by
 unfold updI tabF updN;by_cases h3:i=k*4+3
 ·rw[if_pos h3,if_pos (by omega),show i%4=3 by omega]
 ·rw[if_neg h3]
  by_cases h2:i=k*4+2
  ·rw[if_pos h2,if_pos (by omega),show i%4=2 by omega]
  ·rw[if_neg h2]
   by_cases h1:i=k*4+1
   ·rw[if_pos h1,if_pos (by omega),show i%4=1 by omega]
   ·rw[if_neg h1]
    by_cases h0:i=k*4
    ·rw[if_pos h0,if_pos (by omega),show i%4=0 by omega]
    ·rw[if_neg h0,if_neg (by omega)]
theorem pw_list(y:Nat):(pw y).toList=[.int .u64 ((pN y 0:Nat):Int),.int .u64 ((pN y 1:Nat):Int),.int .u64 ((pN y 2:Nat):Int),.int .u64 ((pN y 3:Nat):Int)]:=by rw[pw4]
theorem tab_row{w:World}{V:Nat}{q:Nat->Nat}(h:w.heap[V]?=some (.cells (ar .u64 64 (tabF q)) 163 (0,0)))(k y:Nat)(hk:k<16):(w.setCells V (k*4) (pw y).toList).heap[V]?=some (.cells (ar .u64 64 (tabF (updN q k y))) 163 (0,0)):=by
 rw[pw_list];simp only[World.setCells];refine(heap_setCell_same _ _ _ _ _ _ (heap_setCell_same _ _ _ _ _ _ (heap_setCell_same _ _ _ _ _ _ (heap_setCell_same _ _ _ _ _ _ h)))).trans ?_;rw[ar_set _ _ _ _ _ (by omega),ar_set _ _ _ _ _ (by omega),ar_set _ _ _ _ _ (by omega),ar_set _ _ _ _ _ (by omega),tab_upd]
theorem tab_other{w:World}{V:Nat}(o y k:Nat)(hk:k≠V):(w.setCells V o (pw y).toList).heap[k]?=w.heap[k]?:=by
 rw[pw_list];simp only[World.setCells];rw[heap_setCell_other _ _ _ _ hk,heap_setCell_other _ _ _ _ hk,heap_setCell_other _ _ _ _ hk,heap_setCell_other _ _ _ _ hk]
theorem tab_below{b:Nat}{w0 w:World}{V:Nat}(o y:Nat)(hb:Below b w0 w)(hV:b<=V):Below b w0 (w.setCells V o (pw y).toList):=by
 rw[pw_list];simp only[World.setCells];exact(((hb.setCell (by exact hV) _).setCell (by exact hV) _).setCell (by exact hV) _).setCell (by exact hV) _
theorem tab_there{w:World}{V:Nat}{q:Nat->Nat}(h:w.heap[V]?=some (.cells (ar .u64 64 (tabF q)) 163 (0,0)))(k:Nat)(hk:k<16)(y:Nat):w.there V (k*4) (pw y).size:=by
 intro j hj;rw[pw_size]at hj;exact⟨by rw[tab_at h k j hk hj];rfl,frozen_of_row _ _ _ _ _ h⟩
end Go.Proofs.YtadfjjfklihaaaaGreat
