/- Tables of sixteen words: loads, stores, rows. (Cut to what is reached, written closely: SyB · Gsp · Pair · FTab.) -/
import Derived.Test.YtphafjbajlcbnaaGreatB22
import Derived.Test.YtphafjbajlcbnaaGreatB18
import Derived.Test.YtphafjbajlcbnaaGreatB4
import Derived.Test.YtphafjbajlcbnaaGreatB17
import Derived.Deep.MidRow
set_option linter.all false
set_option maxRecDepth 100000
set_option maxHeartbeats 8000000
namespace Go.Proofs.YtphafjbajlcbnaaGreat.Sy
open Go.RowKit
abbrev Con:=FuncId × (Nat->Rows->List SV->Option (SV × List Ob × Rows))
def QJ(f:FuncId):List Con->Nat->Rows->List SV->Option (SV × List Ob × Rows)
 | [],_,_,_=>none
 | c::l,n,M,us=>if c.1=f then c.2 n M us else QJ f l n M us
structure ConOk (P:Program) (base:Nat) (γ0:Pl) (w0:World) (c:Con):Prop where
 call:∀ as_ wx,(callFunc c.1 as_).run P wx=.ok (.enter c.1 as_) wx
 all:∀ n M l r p R,c.2 n M l=some (r,p,R)->All p->base<=n->(∀ x∈l,x.ok/\x.lt n=true)->(∀ r∈M,r.2.1.ok/\r.2.1.lt n=true)->r.ok/\r.lt (n+R.length)=true/\(∀ q∈R,q.2.1.ok/\q.2.1.lt (n+R.length)=true/\n<=q.1/\q.1<n+R.length) /\
  ∀ γ,(∀ k,k<base->γ k=γ0 k)->∀ wx,Below w0.heap.size w0 wx->Kt γ n M wx->Calls P c.1 (l.map (·.val γ)).toArray wx (Made γ n r R wx)
theorem ConOk.of{P:Program}{base:Nat}{γ0:Pl}{w0:World}{c:Con}(hc:∀ as_ wx,(callFunc c.1 as_).run P wx=.ok (.enter c.1 as_) wx)
  (h:∀ n M l r p R,c.2 n M l=some (r,p,R)->All p->(∀ x∈l,x.ok)->R=[]/\r.ok/\r.lt 0=true/\∀ γ,(∀ k,k<base->γ k=γ0 k)->∀ wx,Below w0.heap.size w0 wx->Kt γ n M wx->Calls P c.1 (l.map (·.val γ)).toArray wx fun e w'=>e=.returned (r.val γ)/\Below wx.heap.size wx w'):ConOk P base γ0 w0 c :=
 ⟨hc,fun n M l r p R h1 h2 hn h3 _=>by
  obtain⟨rfl,q1,q2,q3⟩:=h n M l r p R h1 h2 fun x hx=>(h3 x hx).1;exact⟨q1,SV.lt_mono (Nat.zero_le _) q2,fun q hq=>(by cases hq),fun γ hγ wx hw hL=>(q3 γ hγ wx hw hL).mono fun e w' hh=>⟨⟨γ,fun _ _=>rfl,hh.1,fun q hq=>(by cases hq),.nil⟩,hh.2⟩⟩⟩
theorem NV{P:Program}{base:Nat}{γ0:Pl}{w0:World}{f:FuncId}{n:Nat}{M:Rows}{us:List SV}{q:SV × List Ob × Rows}:∀ {l:List Con},(∀ c∈l,ConOk P base γ0 w0 c)->QJ f l n M us=some q->∃ c:Con,ConOk P base γ0 w0 c/\c.1=f/\c.2 n M us=some q
 | [],_,h=>by cases h
 | c::l,hl,h=>by
  unfold QJ at h
  split at h
  ·rename_i e;exact⟨c,hl c (.head _),e,h⟩
  ·exact NV (fun d hd=>hl d (.tail _ hd)) h
def ED(P:Program)(base:Nat)(γ0:Pl)(w0:World):List Con->Prop
 | []=>True
 | c::l=>ConOk P base γ0 w0 c/\ED P base γ0 w0 l
theorem JY{P:Program}{base:Nat}{γ0:Pl}{w0:World}:∀ {l:List Con},ED P base γ0 w0 l->∀ c∈l,ConOk P base γ0 w0 c
 | [],_,c,h=>by cases h
 | y::l,ha,c,h=>by
  rcases List.mem_cons.1 h with rfl | h
  ·exact ha.1
  ·exact JY ha.2 c h
theorem ConOk.mono{P:Program}{base b:Nat}{γ0:Pl}{w0:World}{c:Con}(hb:b<=base)(h:ConOk P b γ0 w0 c):ConOk P base γ0 w0 c :=
 ⟨h.call,fun n M l r p R h1 h2 hn h3 h4=>by
  have q:=h.all n M l r p R h1 h2 (Nat.le_trans hb hn) h3 h4;exact⟨q.1,q.2.1,q.2.2.1,fun γ hγ=>q.2.2.2 γ fun k hk=>hγ k (Nat.lt_of_lt_of_le hk hb)⟩⟩
/-! Numbers. -/
def eqN(a b:Nat):Bool:=decide (a=b)
def ltN(a b:Nat):Bool:=decide (a<b)
def eqI(a b:Int):Bool:=decide (a=b)
def ltI(a b:Int):Bool:=decide (a<b)
def eqB(a b:Bool):Bool:=a == b
def eqP(p q:Nat × Nat × Bool):Bool:=decide (p.1=q.1/\p.2.1=q.2.1/\p.2.2=q.2.2)
def Tf:SV->Option (IntKind × Int)
 | .v (.int k n)=>some (k,n)
 | _=>none
def Vv:SV->Option (IntKind × Int)
 | .i k n=>some (k,n)
 | .na x=>some (.i64,(x:Nat))
 | .v (.int k n)=>some (k,n)
 | _=>none
def Pz:SV->Option Bool
 | .b t=>some t
 | .v (.bool t)=>some t
 | _=>none
def ptS:SV->Option (Nat × Nat × Bool)
 | .ap (.w x) (.ap (.w y) (.ap n .e))=>(Pz n).map fun n=>(x,y,n)
 | _=>none
def YM(op:BinOp)(k:IntKind)(a b:Int):Option SV:=match op with
 | .eql=>some (.v (.bool (decide (a=b))))
 | .neq=>some (.v (.bool (!decide (a=b))))
 | .lss=>some (.v (.bool (decide (a<b))))
 | .leq=>some (.v (.bool (decide (a<=b))))
 | .gtr=>some (.v (.bool (decide (a > b))))
 | .geq=>some (.v (.bool (decide (a ≥ b))))
 | .add=>some (.v (.int k (k.wrap (a+b))))
 | .sub=>some (.v (.int k (k.wrap (a - b))))
 | .mul=>some (.v (.int k (k.wrap (a*b))))
 | .quo=>if b=0 then none else some (.v (.int k (k.wrap (a.tdiv b))))
 | .rem=>if b=0 then none else some (.v (.int k (a.tmod b)))
 | _=>none
def A3f(op:BinOp)(a b:Nat):Option (SV × List Ob):=match op with
 | .eql=>some (.b (eqN a b),[])
 | .neq=>some (.b (!eqN a b),[])
 | .lss=>some (.b (ltN a b),[])
 | .leq=>some (.b (!ltN b a),[])
 | .gtr=>some (.b (ltN b a),[])
 | .geq=>some (.b (!ltN a b),[])
 | .add=>some (.na (a+b),[.ask (a+b<2^62)])
 | .sub=>some (.na (a - b),[.ask (b<=a)])
 | _=>none
def A3g(op:BinOp)(k:IntKind)(a b:Int):Option (SV × List Ob):=match op with
 | .eql=>some (.b (eqI a b),[])
 | .neq=>some (.b (!eqI a b),[])
 | .lss=>some (.b (ltI a b),[])
 | .leq=>some (.b (!ltI b a),[])
 | .gtr=>some (.b (ltI b a),[])
 | .geq=>some (.b (!ltI a b),[])
 | .add=>some (.i k (a+b),[.ask (k.wrap (a+b)=a+b)])
 | .sub=>some (.i k (a - b),[.ask (k.wrap (a - b)=a - b)])
 | .rem=>some (.i k (a.tmod b),[.ask (b≠0)])
 | _=>none
def eqG(T:TypeId)(x y:SV):Option Bool:=match x,y with
 | .w a,.w b=>if T=24 then some (eqN a b)else none
 | x,y=>match Pz x,Pz y with
  | some a,some b=>if T=4 then some (eqB a b)else none
  | _,_=>match ptS x,ptS y with
   | some p,some q=>if T=26 then some (eqP p q)else none
   | _,_=>none
def YN(op:BinOp)(T:TypeId)(x y:SV):Option (SV × List Ob):=match Tf x,Tf y with
 | some p,some q=>if p.1=q.1 then (YM op p.1 p.2 q.2).map (·,[])else none
 | _,_=>match Tc x,Tc y with
  | some a,some b=>A3f op a b
  | _,_=>match Vv x,Vv y with
   | some p,some q=>if p.1=q.1 then A3g op p.1 p.2 q.2 else none
   | _,_=>match op with
    | .eql=>(eqG T x y).map fun t=>(.b t,[])
    | .neq=>(eqG T x y).map fun t=>(.b (!t),[])
    | _=>none
section
variable {P:Program} {γ:Pl} {x y r:SV}
theorem M5{k:IntKind}{n:Int}(h:Vv x=some (k,n)):x.val γ=.int k n:=by
 unfold Vv at h
 split at h <;> cases h <;> rfl
theorem J9{k:IntKind}{n:Int}(h:Tf x=some (k,n)):x.val γ=.int k n:=by
 unfold Tf at h
 split at h <;> cases h
 rfl
theorem M6{t:Bool}(h:Pz x=some t):x.val γ=.bool t:=by
 unfold Pz at h
 split at h <;> cases h <;> rfl
theorem Bz{p:Nat × Nat × Bool}(h:ptS x=some p):x.val γ=.agg (pc p.1 p.2.1 p.2.2)/\(x.ok->p.1<2^256/\p.2.1<2^256):=by
 unfold ptS at h
 split at h
 ·rename_i a b n
  obtain⟨t,ht,rfl⟩:=Option.map_eq_some_iff.1 h;refine⟨?_,fun ho=>⟨ho.1,ho.2.1⟩⟩;have hn:n.cells γ=[.bool t]:=by
   unfold Pz at ht
   split at ht <;> cases ht <;> rfl
  show Value.agg ((pw a).toList++((pw b).toList++(n.cells γ++[]))).toArray=_;rw[hn];simp[pc]
 ·cases h
theorem Ij(op:BinOp)(T:TypeId)(ox oy:Operand)(k k':IntKind)(a b:Int)(w:World):(eqGuard op T ox oy (.int k a) (.int k' b)).run P w=.ok () w:=by
 unfold eqGuard;cases op <;> rfl
theorem PD(op:BinOp)(T:TypeId)(ox oy:Operand)(a b:Bool)(w:World):(eqGuard op T ox oy (.bool a) (.bool b)).run P w=.ok () w:=by
 unfold eqGuard;cases op <;> rfl
theorem M7(T:TypeId)(k:IntKind)(a b:Int)(w:World):(binOp .eql T (.int k a) (.int k b)).run P w=.ok (.bool (decide (a=b))) w:=by
 cases k <;> rfl
theorem M8(T:TypeId)(k:IntKind)(a b:Int)(w:World):(binOp .neq T (.int k a) (.int k b)).run P w=.ok (.bool (!decide (a=b))) w:=by
 cases k <;> rfl
theorem M9(T:TypeId)(k:IntKind)(a b:Int)(w:World):(binOp .lss T (.int k a) (.int k b)).run P w=.ok (.bool (decide (a<b))) w:=by
 cases k <;> rfl
theorem Ma(T:TypeId)(k:IntKind)(a b:Int)(w:World):(binOp .leq T (.int k a) (.int k b)).run P w=.ok (.bool (decide (a<=b))) w:=by
 cases k <;> rfl
theorem Mc(T:TypeId)(k:IntKind)(a b:Int)(w:World):(binOp .gtr T (.int k a) (.int k b)).run P w=.ok (.bool (decide (a > b))) w:=by
 cases k <;> rfl
theorem Md(T:TypeId)(k:IntKind)(a b:Int)(w:World):(binOp .geq T (.int k a) (.int k b)).run P w=.ok (.bool (decide (a ≥ b))) w:=by
 cases k <;> rfl
theorem Me(T:TypeId)(k:IntKind)(a b:Int)(w:World):(binOp .add T (.int k a) (.int k b)).run P w=.ok (.int k (k.wrap (a+b))) w:=by
 cases k <;> rfl
theorem Mf(T:TypeId)(k:IntKind)(a b:Int)(w:World):(binOp .sub T (.int k a) (.int k b)).run P w=.ok (.int k (k.wrap (a - b))) w:=by
 cases k <;> rfl
theorem YO(T:TypeId)(k:IntKind)(a b:Int)(w:World):(binOp .mul T (.int k a) (.int k b)).run P w=.ok (.int k (k.wrap (a*b))) w:=by
 cases k <;> rfl
theorem YP(T:TypeId)(k:IntKind)(a b:Int)(hb:b≠0)(w:World):(binOp .quo T (.int k a) (.int k b)).run P w=.ok (.int k (k.wrap (a.tdiv b))) w:=by
 cases k <;> simp[binOp,Op.intDiv,hb]
theorem QK(T:TypeId)(k:IntKind)(a b:Int)(hb:b≠0)(w:World):(binOp .rem T (.int k a) (.int k b)).run P w=.ok (.int k (a.tmod b)) w:=by
 cases k <;> simp[binOp,Op.intDiv,hb]
theorem Mg{op:BinOp}{k:IntKind}{a b:Int}(h:YM op k a b=some r)(T:TypeId)(w:World):r.ok/\r.lt 0=true/\(binOp op T (.int k a) (.int k b)).run P w=.ok (r.val γ) w:=by
 cases op <;> first | (cases h;done) | skip
 ·cases h;exact⟨trivial,rfl,Me T k a b w⟩
 ·cases h;exact⟨trivial,rfl,Mf T k a b w⟩
 ·cases h;exact⟨trivial,rfl,YO T k a b w⟩
 ·unfold YM at h
  dsimp only at h
  split at h
  ·cases h
  ·rename_i hb;cases h;exact⟨trivial,rfl,YP T k a b hb w⟩
 ·unfold YM at h
  dsimp only at h
  split at h
  ·cases h
  ·rename_i hb;cases h;exact⟨trivial,rfl,QK T k a b hb w⟩
 ·cases h;exact⟨trivial,rfl,M7 T k a b w⟩
 ·cases h;exact⟨trivial,rfl,M8 T k a b w⟩
 ·cases h;exact⟨trivial,rfl,M9 T k a b w⟩
 ·cases h;exact⟨trivial,rfl,Ma T k a b w⟩
 ·cases h;exact⟨trivial,rfl,Mc T k a b w⟩
 ·cases h;exact⟨trivial,rfl,Md T k a b w⟩
theorem Mh{op:BinOp}{a b:Nat}{p:List Ob}(h:A3f op a b=some (r,p))(hp:All p)(ha:a<2^62)(T:TypeId)(w:World):r.ok/\r.lt 0=true/\(binOp op T (.int .i64 (a:Nat)) (.int .i64 (b:Nat))).run P w=.ok (r.val γ) w:=by
 have h62:(2:Nat)^62=4611686018427387904:=by decide
 have e1:∀ a b:Nat,decide (((a:Nat):Int)=((b:Nat):Int))=eqN a b:=fun a b=>decide_eq_decide.2 τ;have e2:∀ a b:Nat,decide (((a:Nat):Int)<((b:Nat):Int))=ltN a b:=fun a b=>decide_eq_decide.2 τ;have e3:∀ a b:Nat,decide (((a:Nat):Int)<=((b:Nat):Int))=!ltN b a:=fun a b=>by
  unfold ltN;rw[<- decide_not];exact decide_eq_decide.2 τ
 cases op <;> first | (cases h;done) | skip
 ·cases h
  have hlt:a+b<2^62:=hp _ (.head _);refine⟨hlt,rfl,(Me T .i64 a b w).trans ?_⟩;rw[J7 τ τ];rfl
 ·cases h
  have hlt:b<=a:=hp _ (.head _);refine⟨by show a - b<2^62;omega,rfl,(Mf T .i64 a b w).trans ?_⟩;rw[J7 τ τ,show((a:Nat):Int) - ((b:Nat):Int)=((a - b:Nat):Int) by omega];rfl
 ·cases h;exact⟨trivial,rfl,(M7 T .i64 a b w).trans (by rw[e1];rfl)⟩
 ·cases h;exact⟨trivial,rfl,(M8 T .i64 a b w).trans (by rw[e1];rfl)⟩
 ·cases h;exact⟨trivial,rfl,(M9 T .i64 a b w).trans (by rw[e2];rfl)⟩
 ·cases h;exact⟨trivial,rfl,(Ma T .i64 a b w).trans (by rw[e3];rfl)⟩
 ·cases h;exact⟨trivial,rfl,(Mc T .i64 a b w).trans (by rw[show decide (((a:Nat):Int) > ((b:Nat):Int))=ltN b a from e2 b a];rfl)⟩
 ·cases h;exact⟨trivial,rfl,(Md T .i64 a b w).trans (by rw[show decide (((a:Nat):Int) ≥ ((b:Nat):Int))=!ltN a b from e3 b a];rfl)⟩
theorem Mi{op:BinOp}{k:IntKind}{a b:Int}{p:List Ob}(h:A3g op k a b=some (r,p))(hp:All p)(T:TypeId)(w:World):r.ok/\r.lt 0=true/\(binOp op T (.int k a) (.int k b)).run P w=.ok (r.val γ) w:=by
 have e3:∀ a b:Int,decide (a<=b)=!ltI b a:=fun a b=>by
  unfold ltI;rw[<- decide_not];exact decide_eq_decide.2 τ
 cases op <;> first | (cases h;done) | skip
 ·cases h
  have hw:k.wrap (a+b)=a+b:=hp _ (.head _);exact⟨trivial,rfl,(Me T k a b w).trans (by rw[hw];rfl)⟩
 ·cases h
  have hw:k.wrap (a - b)=a - b:=hp _ (.head _);exact⟨trivial,rfl,(Mf T k a b w).trans (by rw[hw];rfl)⟩
 ·cases h
  exact⟨trivial,rfl,QK T k a b (hp _ (.head _)) w⟩
 ·cases h;exact⟨trivial,rfl,M7 T k a b w⟩
 ·cases h;exact⟨trivial,rfl,M8 T k a b w⟩
 ·cases h;exact⟨trivial,rfl,M9 T k a b w⟩
 ·cases h;exact⟨trivial,rfl,(Ma T k a b w).trans (by rw[e3];rfl)⟩
 ·cases h;exact⟨trivial,rfl,Mc T k a b w⟩
 ·cases h;exact⟨trivial,rfl,(Md T k a b w).trans (by rw[show decide (a ≥ b)=!ltI a b from e3 b a];rfl)⟩
end
theorem Vw{T:TypeId}{x y:SV}{t:Bool}{γ:Pl}(h:eqG T x y=some t)(hx:x.ok)(hy:y.ok)(ox oy:Operand)(w:World):(∀ op,(eqGuard op T ox oy (x.val γ) (y.val γ)).run Tryz.prog w=.ok () w)/\(binOp .eql T (x.val γ) (y.val γ)).run Tryz.prog w=.ok (.bool t) w/\(binOp .neq T (x.val γ) (y.val γ)).run Tryz.prog w=.ok (.bool (!t)) w:=by
 unfold eqG at h
 split at h
 ·rename_i a b
  split at h
  ·rename_i e
   cases h;subst e;exact⟨fun op=>by cases op <;> kernel_rfl,LP a b hx hy w,J6 a b hx hy w⟩
  ·cases h
 ·split at h
  ·rename_i a b ha hb
   split at h
   ·rename_i e
    cases h;subst e;rw[M6 ha,M6 hb];refine⟨fun op=>PD op _ ox oy a b w,?_,?_⟩
    ·cases a <;> cases b <;> kernel_rfl
    ·cases a <;> cases b <;> kernel_rfl
   ·cases h
  ·split at h
   ·rename_i p q hp hq
    split at h
    ·rename_i e
     cases h;subst e;have h1:=Bz (γ:=γ) hp;have h2:=Bz (γ:=γ) hq;rw[h1.1,h2.1];exact⟨fun op=>by cases op <;> kernel_rfl,YL p.2.2 q.2.2 (h1.2 hx).1 (h1.2 hx).2 (h2.2 hy).1 (h2.2 hy).2 w,Vu p.2.2 q.2.2 (h1.2 hx).1 (h1.2 hx).2 (h2.2 hy).1 (h2.2 hy).2 w⟩
    ·cases h
   ·cases h
theorem YQ{op:BinOp}{T:TypeId}{x y r:SV}{p:List Ob}(h:YN op T x y=some (r,p))(hp:All p)(hx:x.ok)(hy:y.ok):r.ok/\r.lt 0=true/\∀ γ (ox oy:Operand) wx,(eqGuard op T ox oy (x.val γ) (y.val γ)).run Tryz.prog wx=.ok () wx/\(binOp op T (x.val γ) (y.val γ)).run Tryz.prog wx=.ok (r.val γ) wx:=by
 have w:World:=default;unfold YN at h
 split at h
 ·rename_i u v hu hv
  obtain⟨k,a⟩:=u;obtain⟨k',b⟩:=v
  split at h
  ·rename_i hk
   dsimp only at hk;subst hk;obtain⟨r',hr,e⟩:=Option.map_eq_some_iff.1 h;cases e;refine⟨(Mg (P:=Tryz.prog) (γ:=fun _=>0) hr T w).1,(Mg (P:=Tryz.prog) (γ:=fun _=>0) hr T w).2.1,fun γ ox oy wx=>?_⟩;rw[J9 hu,J9 hv];exact⟨Ij op T ox oy _ _ _ _ wx,(Mg hr T wx).2.2⟩
  ·cases h
 ·split at h
  ·rename_i a b ha hb
   have h1:=Fy (γ:=fun _=>0) ha hx;refine⟨(Mh (P:=Tryz.prog) (γ:=fun _=>0) h hp h1.2 T w).1,(Mh (P:=Tryz.prog) (γ:=fun _=>0) h hp h1.2 T w).2.1,fun γ ox oy wx=>?_⟩;rw[(Fy ha hx).1,(Fy hb hy).1];exact⟨Ij op T ox oy _ _ _ _ wx,(Mh h hp h1.2 T wx).2.2⟩
  ·split at h
   ·rename_i u v hu hv
    obtain⟨k,a⟩:=u;obtain⟨k',b⟩:=v
    split at h
    ·rename_i hk
     dsimp only at hk;subst hk;refine⟨(Mi (P:=Tryz.prog) (γ:=fun _=>0) h hp T w).1,(Mi (P:=Tryz.prog) (γ:=fun _=>0) h hp T w).2.1,fun γ ox oy wx=>?_⟩;rw[M5 hu,M5 hv];exact⟨Ij op T ox oy _ _ _ _ wx,(Mi h hp T wx).2.2⟩
    ·cases h
   ·split at h
    ·obtain⟨t,ht,e⟩:=Option.map_eq_some_iff.1 h
     cases e;refine⟨trivial,rfl,fun γ ox oy wx=>?_⟩;have q:=Vw (γ:=γ) ht hx hy ox oy wx;exact⟨q.1 _,q.2.1⟩
    ·obtain⟨t,ht,e⟩:=Option.map_eq_some_iff.1 h
     cases e;refine⟨trivial,rfl,fun γ ox oy wx=>?_⟩;have q:=Vw (γ:=γ) ht hx hy ox oy wx;exact⟨q.1 _,q.2.2⟩
    ·cases h
end Go.Proofs.YtphafjbajlcbnaaGreat.Sy
namespace Go.Proofs.YtphafjbajlcbnaaGreat
open Go.RowKit
def jt(T:Nat × Nat × Nat):Array Value:=jc T.1 T.2.1 T.2.2
def gtw(m:Nat)(T:Nat × Nat × Nat):Nat × Nat × Nat :=
 if T.2.2=0 then T else
 let rise:=(T.2.1+T.2.1)%m
 let half:=T.2.1*rise%m
 let square:=(half+half)%m
 let middle:=T.1*square%m
 let xx:=T.1*T.1%m
 let slope:=((xx+xx)%m+xx)%m
 let x:=(slope*slope%m%m+(m - (middle+middle)%m%m))%m
 (x,(slope*((middle%m+(m - x%m))%m)%m%m+(m - half*square%m%m))%m,rise*T.2.2%m)
theorem PE{m X Y Z a b c:Nat}(hm0:0<m)(hmR:m<2^256)(hX:X<2^256)(hY:Y<2^256)(hZ:Z<2^256)(h:gtw m (X,Y,Z)=(a,b,c)):a<2^256/\b<2^256/\c<2^256:=by
 have hm:∀ n,n%m<2^256:=fun n=>Nat.lt_trans (Nat.mod_lt _ hm0) hmR;unfold gtw at h
 split at h
 ·cases h;exact⟨hX,hY,hZ⟩
 ·dsimp only at h
  cases h;exact⟨hm _,hm _,hm _⟩
def gpl(m:Nat)(T:Nat × Nat × Nat)(x y:Nat)(n:Bool):Nat × Nat × Nat :=
 if n=true then T else
 if T.2.2=0 then (x,y,1)else
 let zz:=T.2.2*T.2.2%m
 let across:=(x*zz%m%m+(m - T.1%m))%m
 let up:=(y*(zz*T.2.2%m)%m%m+(m - T.2.1%m))%m
 if across=0/\up=0 then gtw m T else
 let square:=across*across%m
 let cube:=square*across%m
 let middle:=T.1*square%m
 let x3:=(((up*up%m%m+(m - cube%m))%m)%m+(m - (middle+middle)%m%m))%m
 (x3,(up*((middle%m+(m - x3%m))%m)%m%m+(m - T.2.1*cube%m%m))%m,T.2.2*across%m)
theorem PG{m X Y Z x y a b c:Nat}{n:Bool}(hm0:0<m)(hmR:m<2^256)(hX:X<2^256)(hY:Y<2^256)(hZ:Z<2^256)(hx:x<2^256)(hy:y<2^256)(h:gpl m (X,Y,Z) x y n=(a,b,c)):a<2^256/\b<2^256/\c<2^256:=by
 have hm:∀ n,n%m<2^256:=fun n=>Nat.lt_trans (Nat.mod_lt _ hm0) hmR;unfold gpl at h
 split at h
 ·cases h;exact⟨hX,hY,hZ⟩
 ·split at h
  ·cases h;exact⟨hx,hy,τ⟩
  ·dsimp only at h
   split at h
   ·exact PE hm0 hmR hX hY hZ h
   ·cases h
    exact⟨hm _,hm _,hm _⟩
def gpo(m:Nat)(T:Nat × Nat × Nat):Array Value :=
 let i:=T.2.2^(m - 2)%m
 if T.2.2*i%m=1 then
  let square:=i*i%m
  pc (T.1*square%m) (T.2.1*(square*i%m)%m) false
 else pc 0 0 true
def gtu(m x y:Nat)(n:Bool):Array Value:=if n=true then pc 0 0 true else pc x ((0%m+(m - y%m))%m) false
def pls:List (Nat × Nat × Bool)->Array Value
 | []=>#[]
 | p::l=>pc p.1 p.2.1 p.2.2++pls l
theorem Vx:∀(l:List (Nat × Nat × Bool)) (i:Nat) (x y:Nat) (n:Bool),l[i]?=some (x,y,n)->∀ j,j<(pc x y n).size->(pls l)[0+i*9+j]?=(pc x y n)[j]?
 | [],i,x,y,n,h,j,hj=>by simp at h
 | p::l,0,x,y,n,h,j,hj=>by
  simp only[List.getElem?_cons_zero,Option.some.injEq]at h;subst h;rw[show 0+0*9+j=j by omega];show(pc x y n++pls l)[j]?=_;rw[Array.getElem?_append_left hj]
 | p::l,i+1,x,y,n,h,j,hj=>by
  have:=Vx l i x y n (by simpa using h) j hj;show(pc p.1 p.2.1 p.2.2++pls l)[0+(i+1)*9+j]?=_;rw[Array.getElem?_append_right (by rw[Ey];omega),Ey,show 0+(i+1)*9+j - 9=0+i*9+j by omega];exact this
def onB(m:Nat)(p:Nat × Nat × Bool):Bool:=p.2.2||decide (p.1<m/\p.2.1<m/\p.2.1*p.2.1%m=(p.1*p.1%m*p.1%m+7)%m)
theorem A1I{m:Nat}(hm0:0<m)(hmR:m<2^256)(T:Nat × Nat × Nat):∃ x y n,x<2^256/\y<2^256/\gpo m T=pc x y n:=by
 have hm:∀ n,n%m<2^256:=fun n=>Nat.lt_trans (Nat.mod_lt _ hm0) hmR;unfold gpo;dsimp only
 split
 ·exact⟨_,_,_,hm _,hm _,rfl⟩
 ·exact⟨0,0,true,τ,τ,rfl⟩
theorem PH{m:Nat}(hm0:0<m)(hmR:m<2^256){x:Nat}(hx:x<2^256)(y:Nat)(n:Bool):∃ a b c,a<2^256/\b<2^256/\gtu m x y n=pc a b c:=by
 have hm:∀ n,n%m<2^256:=fun n=>Nat.lt_trans (Nat.mod_lt _ hm0) hmR;unfold gtu
 split
 ·exact⟨0,0,true,τ,τ,rfl⟩
 ·exact⟨_,_,_,hx,hm _,rfl⟩
def gsm(m:Nat)(l:List (Nat × Nat × Bool)):Nat × Nat × Nat:=l.foldl (fun T p=>gpl m T p.1 p.2.1 p.2.2) (0,0,0)
open Go.RowKit
structure AQ (p q H:Nat) (s:Nat->Value) (wx:World):Prop where
 ap:∀ D,s p=.pointer (some ⟨D,0,none⟩)->H<=D/\D<wx.heap.size
 aq:∀ D,s q=.pointer (some ⟨D,0,none⟩)->H<=D/\D<wx.heap.size
 ne:∀ D E,s p=.pointer (some ⟨D,0,none⟩)->s q=.pointer (some ⟨E,0,none⟩)->D≠E
theorem AQ.start{p q H:Nat}{s:Nat->Value}{wx:World}(h7:s p=undef)(h8:s q=undef):AQ p q H s wx :=
 ⟨fun D hD=>(by rw[h7]at hD;unfold undef at hD;cases hD),fun D hD=>(by rw[h8]at hD;unfold undef at hD;cases hD),fun D E hD=>(by rw[h7]at hD;unfold undef at hD;cases hD)⟩
theorem AQ.put{p q H:Nat}{s s':Nat->Value}{wx w':World}(h:AQ p q H s wx)(e7:s' p=s p)(e8:s' q=s q)(hl:wx.heap.size<=w'.heap.size):AQ p q H s' w' :=
 ⟨fun D hD=>⟨(h.ap D (e7 ▸ hD)).1,Nat.lt_of_lt_of_le (h.ap D (e7 ▸ hD)).2 hl⟩,fun D hD=>⟨(h.aq D (e8 ▸ hD)).1,Nat.lt_of_lt_of_le (h.aq D (e8 ▸ hD)).2 hl⟩,fun D E h1 h2=>h.ne D E (e7 ▸ h1) (e8 ▸ h2)⟩
theorem AQ.newp{p q H:Nat}{s s':Nat->Value}{wx w':World}(h:AQ p q H s wx)(e7:s' p=.pointer (some ⟨wx.heap.size,0,none⟩))(e8:s' q=s q)(hH:H<=wx.heap.size)(hl:wx.heap.size<w'.heap.size):AQ p q H s' w' :=
 ⟨fun D hD=>by rw[e7]at hD;cases hD;exact⟨hH,hl⟩,fun D hD=>⟨(h.aq D (e8 ▸ hD)).1,Nat.lt_trans (h.aq D (e8 ▸ hD)).2 hl⟩,fun D E h1 h2=>by rw[e7]at h1;cases h1;have:=(h.aq E (e8 ▸ h2)).2;omega⟩
theorem AQ.newq{p q H:Nat}{s s':Nat->Value}{wx w':World}(h:AQ p q H s wx)(e8:s' q=.pointer (some ⟨wx.heap.size,0,none⟩))(e7:s' p=s p)(hH:H<=wx.heap.size)(hl:wx.heap.size<w'.heap.size):AQ p q H s' w' :=
 ⟨fun D hD=>⟨(h.ap D (e7 ▸ hD)).1,Nat.lt_trans (h.ap D (e7 ▸ hD)).2 hl⟩,fun D hD=>by rw[e8]at hD;cases hD;exact⟨hH,hl⟩,fun D E h1 h2=>by rw[e8]at h2;cases h2;have:=(h.ap D (e7 ▸ h1)).2;omega⟩
def RM2(p q:Nat)(ca cb:Array Value)(s:Nat->Value)(wa wb:World):Prop:=(wa.heap.size<=wb.heap.size/\∀(k:Nat),k<wa.heap.size->wb.heap[k]?=wa.heap[k]?)\/∃(D:Nat) (cs:Array Value),(s p=.pointer (some ⟨D,0,none⟩)/\cs=ca\/s q=.pointer (some ⟨D,0,none⟩)/\cs=cb)/\wb=wa.setRow D cs
theorem RM2.of{p q:Nat}{ca cb:Array Value}{s:Nat->Value}{wa wb:World}(h:Below wa.heap.size wa wb):RM2 p q ca cb s wa wb:=.inl ⟨h.size,fun k hk=>h.block k hk⟩
theorem RM2.same{p q:Nat}{ca cb:Array Value}{s:Nat->Value}(wa:World):RM2 p q ca cb s wa wa:=.inl ⟨Nat.le_refl _,fun _ _=>rfl⟩
theorem RM2.shape{p q D n:Nat}{T:TypeId}{ca cb:Array Value}{s:Nat->Value}{wa wb:World}(hR:RM2 p q ca cb s wa wb)(ha:ca.size=n)(hb:cb.size=n)(h:∃ cs:Array Value,wa.heap[D]?=some (.cells cs T (0,0))/\cs.size=n):∃ cs:Array Value,wb.heap[D]?=some (.cells cs T (0,0))/\cs.size=n:=by
 obtain⟨cs,e,hs⟩:=h;rcases hR with⟨-,h⟩ | ⟨E,c1,h1,rfl⟩
 ·exact⟨cs,(h D (Array.getElem?_eq_some_iff.1 e).1).trans e,hs⟩
 ·by_cases q:D=E
  ·subst q
   exact⟨c1,setRow_heap _ _ _ _ _ _ e,by rcases h1 with⟨-,rfl⟩ | ⟨-,rfl⟩ <;> assumption⟩
  ·exact⟨cs,(setRow_other _ _ _ _ q).trans e,hs⟩
theorem RM2.keepp{p q D H:Nat}{T:TypeId}{ca cb:Array Value}{s:Nat->Value}{wa wb:World}(hA:AQ p q H s wa)(hR:RM2 p q ca cb s wa wb)(hs:s p=.pointer (some ⟨D,0,none⟩))(e:wa.heap[D]?=some (.cells ca T (0,0))):wb.heap[D]?=some (.cells ca T (0,0)):=by
 rcases hR with⟨-,h⟩ | ⟨E,c1,h1,rfl⟩
 ·exact(h D (Array.getElem?_eq_some_iff.1 e).1).trans e
 ·rcases h1 with⟨h1,rfl⟩ | ⟨h1,rfl⟩
  ·rw[hs]at h1;cases h1;exact setRow_heap _ _ _ _ _ _ e
  ·exact(setRow_other _ _ _ _ (hA.ne D E hs h1)).trans e
theorem RM2.keepq{p q D H:Nat}{T:TypeId}{ca cb:Array Value}{s:Nat->Value}{wa wb:World}(hA:AQ p q H s wa)(hR:RM2 p q ca cb s wa wb)(hs:s q=.pointer (some ⟨D,0,none⟩))(e:wa.heap[D]?=some (.cells cb T (0,0))):wb.heap[D]?=some (.cells cb T (0,0)):=by
 rcases hR with⟨-,h⟩ | ⟨E,c1,h1,rfl⟩
 ·exact(h D (Array.getElem?_eq_some_iff.1 e).1).trans e
 ·rcases h1 with⟨h1,rfl⟩ | ⟨h1,rfl⟩
  ·exact(setRow_other _ _ _ _ (Ne.symm (hA.ne E D h1 hs))).trans e
  ·rw[hs]at h1;cases h1;exact setRow_heap _ _ _ _ _ _ e
open Go.RowKit
def BG(q:Nat->Nat)(i:Nat):Int:=((pN (q (i / 4)) (i%4):Nat):Int)
theorem PI:(Tryz.prog.info? 115).map (·.size)=some 64:=by kernel_rfl
theorem Vy{w:World}{V:Nat}{q:Nat->Nat}(h:w.heap[V]?=some (.cells (ar .u64 64 (BG q)) 115 (0,0)))(k j:Nat)(hk:k<16)(hj:j<4):w.cell? ⟨V,k*4+j,none⟩=some (.int .u64 ((pN (q k) j:Nat):Int)):=by
 refine(cell_of_row _ _ (k*4+j) _ _ _ h).trans ((Cr _ _ _ _ τ).trans ?_);unfold BG;rw[show(k*4+j) / 4=k by omega,show(k*4+j)%4=j by omega]
theorem PK{w:World}{V:Nat}{q:Nat->Nat}(h:w.heap[V]?=some (.cells (ar .u64 64 (BG q)) 115 (0,0)))(k:Nat)(hk:k<16):(Instr.loadAt 24 (.pointer (some ⟨V,k*4,none⟩))).run Tryz.prog w=.ok (.agg (pw (q k))) w:=by
 rw[Dh];simp only[Instr.loadAt,Instr.sureAddr,Sem.run_bind,Sem.run_pure,Result.andThen_ok,AR w V (k*4) 4 24 .u64 (fun j=>((pN (q k) j:Nat):Int)) _ (fun j hj=>Vy h k j hk hj) Tryz.underlying24 rfl Ab]
theorem Vz(V k:Nat)(hk:k<16)(w:World):(Instr.indexAt 115 (.pointer (some ⟨V,0,none⟩)) (.int .i64 (k:Nat))).run Tryz.prog w=.ok (.pointer (some ⟨V,k*4,none⟩)) w:=by
 have h0:(0:Int)<=k:=by omega
 have h1:(k:Int)<16:=by omega
 go_simp
theorem YR(q:Nat->Nat)(k y:Nat):ar .u64 64 (Es (Es (Es (Es (BG q) (k*4) ((pN y 0:Nat):Int)) (k*4+1) ((pN y 1:Nat):Int)) (k*4+2) ((pN y 2:Nat):Int)) (k*4+3) ((pN y 3:Nat):Int))=ar .u64 64 (BG (AL q k y)):=Ch fun i hi=>by
 unfold Es BG AL;by_cases h3:i=k*4+3
 ·rw[if_pos h3,if_pos τ,show i%4=3 by omega]
 ·rw[if_neg h3]
  by_cases h2:i=k*4+2
  ·rw[if_pos h2,if_pos τ,show i%4=2 by omega]
  ·rw[if_neg h2]
   by_cases h1:i=k*4+1
   ·rw[if_pos h1,if_pos τ,show i%4=1 by omega]
   ·rw[if_neg h1]
    by_cases h0:i=k*4
    ·rw[if_pos h0,if_pos τ,show i%4=0 by omega]
    ·rw[if_neg h0,if_neg τ]
theorem Ja(y:Nat):(pw y).toList=[.int .u64 ((pN y 0:Nat):Int),.int .u64 ((pN y 1:Nat):Int),.int .u64 ((pN y 2:Nat):Int),.int .u64 ((pN y 3:Nat):Int)]:=by rw[pw4]
theorem YS{w:World}{V:Nat}{q:Nat->Nat}(h:w.heap[V]?=some (.cells (ar .u64 64 (BG q)) 115 (0,0)))(k y:Nat)(hk:k<16):(w.setCells V (k*4) (pw y).toList).heap[V]?=some (.cells (ar .u64 64 (BG (AL q k y))) 115 (0,0)):=by
 rw[Ja];simp only[World.setCells];refine(heap_setCell_same _ _ _ _ _ _ (heap_setCell_same _ _ _ _ _ _ (heap_setCell_same _ _ _ _ _ _ (heap_setCell_same _ _ _ _ _ _ h)))).trans ?_;rw[Cg _ _ _ _ _ τ,Cg _ _ _ _ _ τ,Cg _ _ _ _ _ τ,Cg _ _ _ _ _ τ,YR]
theorem Ej{w:World}{V:Nat}(o y k:Nat)(hk:k≠V):(w.setCells V o (pw y).toList).heap[k]?=w.heap[k]?:=by
 rw[Ja];simp only[World.setCells];rw[heap_setCell_other _ _ _ _ hk,heap_setCell_other _ _ _ _ hk,heap_setCell_other _ _ _ _ hk,heap_setCell_other _ _ _ _ hk]
theorem Ik{b:Nat}{w0 w:World}{V:Nat}(o y:Nat)(hb:Below b w0 w)(hV:b<=V):Below b w0 (w.setCells V o (pw y).toList):=by
 rw[Ja];simp only[World.setCells];exact(((hb.setCell (by exact hV) _).setCell (by exact hV) _).setCell (by exact hV) _).setCell (by exact hV) _
theorem Tg{w:World}{V:Nat}{q:Nat->Nat}(h:w.heap[V]?=some (.cells (ar .u64 64 (BG q)) 115 (0,0)))(k:Nat)(hk:k<16)(y:Nat):w.there V (k*4) (pw y).size:=by
 intro j hj;rw[A7]at hj;exact⟨by rw[Vy h k j hk hj];rfl,frozen_of_row _ _ _ _ _ h⟩
end Go.Proofs.YtphafjbajlcbnaaGreat
