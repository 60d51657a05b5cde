/- What an operation does to values told by letters. No program is named here. (Cut to what is reached, written closely: Gk · COpen · Gt · Gi · SyV · SyE.) -/
import Derived.Test.YtphafjbajlcbnaaGreatB17
import Derived.Test.YtphafjbajlcbnaaGreatB16
import Derived.Deep.Strs
import Derived.Maps.AppendAt
import Derived.Test.YtphafjbajlcbnaaGreatProg
import Derived.Test.YtphafjbajlcbnaaGreatB5
import Derived.Deep.MidRow
set_option linter.all false
set_option maxRecDepth 100000
set_option maxHeartbeats 8000000
namespace Go.Proofs.YtphafjbajlcbnaaGreat
open Go.RowKit
def jc(X Y Z:Nat):Array Value:=pw X++pw Y++pw Z
def pc(x y:Nat)(n:Bool):Array Value:=pw x++pw y++#[.bool n]
def tc(k x y:Nat)(n:Bool):Array Value:=pw k++pc x y n
theorem Ey(x y:Nat)(n:Bool):(pc x y n).size=9:=by kernel_rfl
theorem A42(k x y:Nat)(n:Bool):∀ j,j<(pw k).size->(tc k x y n)[0+j]?=(pw k)[j]?:=fun j hj=>by
 rw[A7]at hj;obtain rfl | rfl | rfl | rfl:j=0\/j=1\/j=2\/j=3:=by omega
 all_goals kernel_rfl
theorem Yo(k x y:Nat)(n:Bool):∀ j,j<(pc x y n).size->(tc k x y n)[4+j]?=(pc x y n)[j]?:=fun j hj=>by
 rw[Ey]at hj;obtain rfl | rfl | rfl | rfl | rfl | rfl | rfl | rfl | rfl:j=0\/j=1\/j=2\/j=3\/j=4\/j=5\/j=6\/j=7\/j=8:=by omega
 all_goals kernel_rfl
theorem A1w{w:World}{g o:Nat}{cs:Array Value}{t:TypeId}{b:Int}(hg:w.heap[g]?=some (.cells cs t (0,0)))(hc:cs[o]?=some (.int .i64 b)):(Instr.loadAt 3 (.pointer (some ⟨g,o,none⟩))).run Tryz.prog w=.ok (.int .i64 b) w:=by
 have c0:w.cell? ⟨g,o,none⟩=some (.int .i64 b):=(cell_of_row _ _ o _ _ _ hg).trans hc
 go_simp
open Go.ChangeShapes Go.WideShapes Go.ChangeAt Go.RowKit
theorem Ps:Tryz.prog.cellsOf 26=9:=by kernel_rfl
theorem T9:Tryz.prog.cellsOf 4=1:=by kernel_rfl
theorem A43{α:Type}{l:List α}(h:l.length=4):∃ a b c d,l=[a,b,c,d]:=by
 match l,h with
 | [a,b,c,d],_=>exact⟨a,b,c,d,rfl⟩
theorem Qx{H:Type}{enc:TypeId × Value->H}{W:World}{b2:Nat}{sp:Nat->Bool}{hd:Bool}{fuel:Nat}{cs:List Value}{x:DataW H × List MemPlace}(hl:cs.length=4)(hf:DataW.trod enc Tryz.prog W b2 sp hd fuel 24 cs=some x) :
  ∃ n,cs=(pw n).toList/\n<2^256:=by
 obtain⟨c0,c1,c2,c3,rfl⟩:=A43 hl;obtain⟨y0,y1,y2,y3,m,hx,hy0,hy1,hy2,hy3⟩:=trod_array4 Tryz.underlying24 UX hf;obtain⟨x0,e0,rfl,w0⟩:=DataW.trod_int Tryz.underlying22 hy0;obtain⟨x1,e1,rfl,w1⟩:=DataW.trod_int Tryz.underlying22 hy1;obtain⟨x2,e2,rfl,w2⟩:=DataW.trod_int Tryz.underlying22 hy2;obtain⟨x3,e3,rfl,w3⟩:=DataW.trod_int Tryz.underlying22 hy3;simp at e0 e1 e2 e3;subst e0 e1 e2 e3;obtain⟨n0,l0,rfl⟩:=Fv w0;obtain⟨n1,l1,rfl⟩:=Fv w1;obtain⟨n2,l2,rfl⟩:=Fv w2;obtain⟨n3,l3,rfl⟩:=Fv w3;have e:wv (n4 n0 n1 n2 n3)=.agg (pw (n4 n0 n1 n2 n3)):=BR _;rw[Gm l0 l1 l2 l3]at e;injection e with e
 refine⟨n4 n0 n1 n2 n3,by rw[<- e],?_⟩;unfold n4;omega
theorem Ta{H:Type}{enc:TypeId × Value->H}{W:World}{b2:Nat}{sp:Nat->Bool}{hd:Bool}{fuel:Nat}{cs:List Value}{x:DataW H × List MemPlace}(hf:DataW.trod enc Tryz.prog W b2 sp hd fuel 4 cs=some x):∃ n,cs=[.bool n]:=by
 obtain⟨b,h,_⟩:=DataW.trod_bool Tryz.underlying4 hf;exact⟨b,h⟩
theorem Yp{H:Type}{enc:TypeId × Value->H}{W:World}{b2:Nat}{sp:Nat->Bool}{hd:Bool}{fuel:Nat}{cs:List Value}{x:DataW H × List MemPlace}(hl:cs.length=9)(hf:DataW.trod enc Tryz.prog W b2 sp hd fuel 26 cs=some x) :
  ∃ a b n,cs=(pc a b n).toList/\a<2^256/\b<2^256:=by
 obtain⟨y0,y1,y2,n,_,_,h0,h1,h2⟩:=Go.Deep.trod_struct3 Tryz.underlying26 hf;have h0:DataW.trod enc Tryz.prog W b2 sp hd n 24 ((cs.drop 0).take (Tryz.prog.cellsOf 24))=some y0:=h0;have h1:DataW.trod enc Tryz.prog W b2 sp hd n 24 ((cs.drop 4).take (Tryz.prog.cellsOf 24))=some y1:=h1;have h2:DataW.trod enc Tryz.prog W b2 sp hd n 4 ((cs.drop 8).take (Tryz.prog.cellsOf 4))=some y2:=h2;rw[SX]at h0 h1;rw[T9]at h2;obtain⟨a,ea,la⟩:=Qx (by simp[hl]) h0;obtain⟨b,eb,lb⟩:=Qx (by simp[hl]) h1;obtain⟨t,et⟩:=Ta h2;refine⟨a,b,t,?_,la,lb⟩;have e:cs=cs.take 4++((cs.drop 4).take 4++(cs.drop 8).take 1):=by
  have e1:(cs.drop 8).take 1=cs.drop 8:=List.take_of_length_le (by simp[hl]);rw[e1,show cs.drop 8=(cs.drop 4).drop 4 by rw[List.drop_drop],List.take_append_drop,List.take_append_drop]
 rw[e,eb,et];rw[List.drop_zero]at ea;rw[ea];simp[pc]
theorem Qy{H:Type}{enc:TypeId × Value->H}{W:World}{base b2:Nat}{sp:Nat->Bool}{hd:Bool}{v:Value}{d:DataW H}{ps:List MemPlace}
  (hv:Value.okWide Tryz.prog W .any base 26 v) (h:DataW.Trod enc Tryz.prog W b2 sp hd 26 v d ps):∃ a b n,v=.agg (pc a b n)/\a<2^256/\b<2^256:=by
 obtain⟨cs,rfl,hsz,_⟩:∃ cs,v=.agg cs/\cs.size=Tryz.prog.cellsOf 26/\Row.okWide Tryz.prog W .any base 26 cs:=by
  simpa[Value.okWide,Tryz.underlying26]using hv
 obtain⟨fuel,hf⟩:=h;rw[Ps]at hsz;obtain⟨a,b,n,e,la,lb⟩:=Yp (cs:=cs.toList) (by simpa using hsz) hf;refine⟨a,b,n,?_,la,lb⟩;have:cs=pc a b n:=by
  apply Array.ext';exact e
 rw[this]
open Go.RowKit
section
variable {P:Program} {ops:Array Oper} {Q:Exit->Act->World->Prop} {rest:List Oper} {o:Oper} {a:Act} {w:World}
theorem DU{T:TypeId}{x:Operand}{p v:Value}(ho:o.op=.load T x)(hx:a.eval x=p)(hr:(Instr.loadAt T p).run P w=.ok v w):(execOp a.eval o).run P w=.ok (.value v) w:=by
 unfold execOp;rw[ho];simp only[hx,Sem.run_bind,hr,Result.andThen_ok,Sem.run_pure]
theorem Pv{T:TypeId}{x:Operand}{i:Nat}{p v:Value}(ho:o.op=.fieldAddr T x i)(hx:a.eval x=p)(hr:(Instr.fieldAt T p i).run P w=.ok v w):(execOp a.eval o).run P w=.ok (.value v) w:=by
 unfold execOp;rw[ho];simp only[hx,Sem.run_bind,hr,Result.andThen_ok,Sem.run_pure]
theorem A1x{T:TypeId}{x y:Operand}{p i v:Value}(ho:o.op=.indexAddr T x y)(hx:a.eval x=p)(hy:a.eval y=i)(hr:(Instr.indexAt T p i).run P w=.ok v w):(execOp a.eval o).run P w=.ok (.value v) w:=by
 unfold execOp;rw[ho];simp only[hx,hy,Sem.run_bind,hr,Result.andThen_ok,Sem.run_pure]
theorem V7{x:Operand}{i:Nat}{p v:Value}(ho:o.op=.extract x i)(hx:a.eval x=p)(hr:(Instr.extract p i).run P w=.ok v w):(execOp a.eval o).run P w=.ok (.value v) w:=by
 unfold execOp;rw[ho];simp only[hx,Sem.run_bind,hr,Result.andThen_ok,Sem.run_pure]
theorem Qz{op:UnOp}{T:TypeId}{x:Operand}{u r:Value}(ho:o.op=.unOp op T x)(hx:a.eval x=u)(hr:(Op.unary op u).run P w=.ok r w):(execOp a.eval o).run P w=.ok (.value r) w:=by
 unfold execOp;rw[ho];simp only[hx,Sem.run_bind,hr,Result.andThen_ok,Sem.run_pure]
theorem A1y{s:Sem Value}{v:Value}{w':World}(ho:execOp a.eval o=(do let x <- s;pure (.value x)))(hr:s.run P w=.ok v w'):(execOp a.eval o).run P w=.ok (.value v) w':=by
 rw[ho];simp only[Sem.run_bind,hr,Result.andThen_ok,Sem.run_pure]
theorem JF{d:Nat}{f:FuncId}{args:Array Value}{v:Value}(hgd:o.guard=none)(hd:o.dst=some d)(hlt:d<a.tmps.size)(he:(execOp a.eval o).run P w=.ok (.enter f args) w)
  (hc:Calls P f args w fun e w'=>e=.returned v/\Below w.heap.size w w')
  (h:∀(a':Act) w',Below w.heap.size w w'->a'.tmps.size=a.tmps.size->a'.defers=a.defers->(∀ t,t≠d->a'.tmps.getD t undef=a.tmps.getD t undef)->a'.tmps.getD d undef=v->wpList P ops Q rest a' w'):wpList P ops Q (o::rest) a w :=
 Yl hgd hd hlt he (hc.mono fun _ w' hh=>⟨v,hh.1,(⟨rfl,hh.2⟩:v=v/\Below w.heap.size w w')⟩) (R:=fun u w'=>u=v/\Below w.heap.size w w') (fun a' u w' ⟨e,hb⟩ h1 h2 h3 h4=>h a' w' hb h1 h2 h3 (h4.trans e))
theorem JG{d n:Nat}{T E:TypeId}{parts:List (Nat × Operand × Value)}{cs:Array Value}(hgd:o.guard=none)(hd:o.dst=some d)(hlt:d<a.tmps.size)(ho:o.op=.buildSlice T n (parts.map fun p=>(p.1,p.2.1)).toArray)
  (hx:∀ p∈parts,a.eval p.2.1=p.2.2) (hr:∀ w,(Instr.buildSlice T n (parts.map fun p=>(p.1,p.2.2)).toArray).run P w=.ok (.slice (some ⟨w.heap.size,0,none⟩) n n) (w.alloc (.cells cs E)))
  (h:∀ a':Act,a'.tmps.size=a.tmps.size->a'.defers=a.defers->(∀ t,t≠d->a'.tmps.getD t undef=a.tmps.getD t undef)->a'.tmps.getD d undef=.slice (some ⟨w.heap.size,0,none⟩) n n->wpList P ops Q rest a' (w.alloc (.cells cs E))):wpList P ops Q (o::rest) a w:=by
 have e:((parts.map fun p=>(p.1,p.2.1)).toArray.map fun(p:Nat × Operand)=>(p.1,a.eval p.2))=(parts.map fun p=>(p.1,p.2.2)).toArray:=by
  simp only[List.map_toArray,List.map_map];congr 1;exact List.map_congr_left fun p hp=>by simp[hx p hp]
 refine wpList_plain hgd fun K hK=>?_;unfold Oper.wp execOp;rw[ho];simp only[e,Sem.run_bind,hr,Result.andThen_ok,Sem.run_pure];exact hK _ _ (h _ (Bc _ _ _) (put_defers _ _ _) (fun t ht=>Al _ _ _ _ (by rw[hd];intro e;exact ht (Option.some.inj e).symm)) (by rw[hd];exact BM _ _ _ hlt))
theorem A1z{d:Nat}{v:Value}{w':World}(hgd:o.guard=none)(hd:o.dst=some d)(hlt:d<a.tmps.size)(hr:(execOp a.eval o).run P w=.ok (.value v) w')
  (h:∀ a':Act,a'.tmps.size=a.tmps.size->a'.defers=a.defers->(∀ t,t≠d->a'.tmps.getD t undef=a.tmps.getD t undef)->a'.tmps.getD d undef=v->wpList P ops Q rest a' w'):wpList P ops Q (o::rest) a w:=by
 refine wpList_plain hgd fun K hK=>?_;unfold Oper.wp;rw[hr];exact hK _ _ (h _ (Bc _ _ _) (put_defers _ _ _) (fun t ht=>Al _ _ _ _ (by rw[hd];intro e;exact ht (Option.some.inj e).symm)) (by rw[hd];exact BM _ _ _ hlt))
end
section
variable {P:Program} {ops:Array Oper} {Q:Exit->Act->World->Prop} {w:World} {L:List Sp} {ps:List Nat} {J:Nat->Array Value}
end
theorem HC.grown{w wx w':World}{L:List (Nat × Array Value × TypeId)}{r:Option Nat}(c:HC w L wx)(hg:wx.grownBy w' r)(hb:∀ k,r=some k->w.heap.size<=k/\∀ p∈L,p.1≠k):HC w L w':=by
 refine⟨⟨hg.os.trans c.old.os,hg.tape.trans c.old.tape,hg.output.trans c.old.output,Nat.le_trans c.old.size hg.size,fun k hk=>?_⟩,fun p hp=>?_,c.nd⟩
 ·refine(hg.block k (Nat.lt_of_lt_of_le hk c.old.size) fun e=>?_).trans (c.old.block k hk)
  have:=(hb k e.symm).1;omega
 ·refine⟨(c.rows p hp).1,(hg.block p.1 (Array.getElem?_eq_some_iff.1 (c.rows p hp).2).1 fun e=>?_).trans (c.rows p hp).2⟩
  exact(hb p.1 e.symm).2 p hp rfl
open Go.RowKit
theorem QA(x y:Int)(w:World):(binOp BinOp.lss 3 (.int .i64 x) (.int .i64 y)).run Tryz.prog w=.ok (.bool (decide (x<y))) w:=by kernel_rfl
theorem QB(x y:Int)(w:World):(binOp BinOp.geq 3 (.int .i64 x) (.int .i64 y)).run Tryz.prog w=.ok (.bool (decide (x ≥ y))) w:=by kernel_rfl
theorem Yq(x y:Int)(w:World):(binOp BinOp.add 3 (.int .i64 x) (.int .i64 y)).run Tryz.prog w=.ok (.int .i64 (IntKind.i64.wrap (x+y))) w:=by kernel_rfl
theorem Yr(x y:Int)(w:World):(binOp BinOp.sub 3 (.int .i64 x) (.int .i64 y)).run Tryz.prog w=.ok (.int .i64 (IntKind.i64.wrap (x - y))) w:=by kernel_rfl
theorem J7{x:Int}(h1:-9223372036854775808<=x)(h2:x<9223372036854775808):IntKind.i64.wrap x=x:=by
 rw[IntKind.wrap_i64];omega
theorem LV{x y:Int}(h:x<y)(w:World):(binOp BinOp.lss 3 (.int .i64 x) (.int .i64 y)).run Tryz.prog w=.ok (.bool true) w:=by rw[QA,decide_eq_true h]
theorem Px{x y:Int}(h:¬x<y)(w:World):(binOp BinOp.lss 3 (.int .i64 x) (.int .i64 y)).run Tryz.prog w=.ok (.bool false) w:=by rw[QA,decide_eq_false h]
theorem Yt{x y:Int}(h:x ≥ y)(w:World):(binOp BinOp.geq 3 (.int .i64 x) (.int .i64 y)).run Tryz.prog w=.ok (.bool true) w:=by rw[QB,decide_eq_true h]
theorem A1A{x y:Int}(h:¬x ≥ y)(w:World):(binOp BinOp.geq 3 (.int .i64 x) (.int .i64 y)).run Tryz.prog w=.ok (.bool false) w:=by rw[QB,decide_eq_false h]
theorem JH{x y z:Int}(h1:-9223372036854775808<=z)(h2:z<9223372036854775808)(h:x+y=z)(w:World):(binOp BinOp.add 3 (.int .i64 x) (.int .i64 y)).run Tryz.prog w=.ok (.int .i64 z) w:=by rw[Yq,h,J7 h1 h2]
theorem A1B{x y z:Int}(h1:-9223372036854775808<=z)(h2:z<9223372036854775808)(h:x - y=z)(w:World):(binOp BinOp.sub 3 (.int .i64 x) (.int .i64 y)).run Tryz.prog w=.ok (.int .i64 z) w:=by rw[Yr,h,J7 h1 h2]
theorem JI{T e:TypeId}{sz:Nat}{g o n c i:Nat}(hu:Tryz.prog.underlying T=some (.slice e))(hs:(Tryz.prog.info? e).map (·.size)=some sz)(hi:i<n)(w:World):(Instr.indexAt T (.slice (some ⟨g,o,none⟩) n c) (.int .i64 (i:Nat))).run Tryz.prog w=.ok (.pointer (some ⟨g,o+i*sz,none⟩)) w:=by
 cases hq:Tryz.prog.info? e with
 | none=>simp[hq]at hs
 | some it =>
  have h2:it.size=sz:=by simpa[hq]using hs
  have hadd:∀ j,(⟨g,o,none⟩:Addr).add j=⟨g,o+j,none⟩:=fun j=>by unfold Addr.add;split <;> simp_all
  have h0:(0:Int)<=(i:Nat)/\((i:Nat):Int)<(n:Nat):=⟨τ,τ⟩
  simp[Instr.indexAt,asIntOf,run_underlying hu,sizeOf,typeInfo,hq,h0,h2,hadd,Result.andThen];intro h;omega
theorem Eg{T e:TypeId}{n sz:Nat}{g o i:Nat}(hu:Tryz.prog.underlying T=some (.array n e))(hs:(Tryz.prog.info? e).map (·.size)=some sz)(hi:i<n)(w:World):(Instr.indexAt T (.pointer (some ⟨g,o,none⟩)) (.int .i64 (i:Nat))).run Tryz.prog w=.ok (.pointer (some ⟨g,o+i*sz,none⟩)) w:=by
 cases hq:Tryz.prog.info? e with
 | none=>simp[hq]at hs
 | some it =>
  have h2:it.size=sz:=by simpa[hq]using hs
  have hadd:∀ j,(⟨g,o,none⟩:Addr).add j=⟨g,o+j,none⟩:=fun j=>by unfold Addr.add;split <;> simp_all
  have h0:(0:Int)<=(i:Nat)/\((i:Nat):Int)<(n:Nat):=⟨τ,τ⟩
  simp[Instr.indexAt,asIntOf,Instr.sureAddr,run_underlying hu,sizeOf,typeInfo,hq,h0,h2,hadd,Result.andThen];intro h;omega
theorem KJ{T e ty:TypeId}{b:Option Addr}{n c:Nat}(hu:Tryz.prog.underlying T=some (.slice e))(w:World):(Builtin.len_ #[T] ty #[.slice b n c]).run Tryz.prog w=.ok (.int .i64 (n:Nat)) w:=by
 simp[Builtin.len_,run_underlying hu];rfl
end Go.Proofs.YtphafjbajlcbnaaGreat
namespace Go.Proofs.YtphafjbajlcbnaaGreat.Sy
open Go.RowKit
inductive SV
 | w (x:Nat)
 | b (t:Bool)
 | i (k:IntKind) (n:Int)
 | na (x:Nat)
 | v (x:Value)
 | p (g o j z:Nat)
 | s (g o n c:Nat)
 | e
 | ap (h t:SV)
 | tu (x y:SV)
 | gd (t:Bool) (x:SV)
 deriving Inhabited
abbrev Pl:=Nat->Nat
def SV.sc(γ:Pl):SV->Value
 | .b t=>.bool t
 | .i k n=>.int k n
 | .na x=>.int .i64 (x:Nat)
 | .v x=>x
 | .p g o j z=>.pointer (some ⟨γ g,o+j*z,none⟩)
 | .s g o n c=>.slice (some ⟨γ g,o,none⟩) n c
 | _=>undef
def SV.cells(γ:Pl):SV->List Value
 | .w x=>(pw x).toList
 | .e=>[]
 | .ap h t=>h.cells γ++t.cells γ
 | x=>[x.sc γ]
def SV.val(γ:Pl):SV->Value
 | .w x=>.agg (pw x)
 | .e=>.agg #[]
 | .ap h t=>.agg (h.cells γ++t.cells γ).toArray
 | .tu x y=>.tuple #[x.val γ,y.val γ]
 | .gd t x=>if t=true then x.val γ else undef
 | x=>x.sc γ
def SV.size:SV->Nat
 | .w _=>4
 | .e=>0
 | .ap h t=>h.size+t.size
 | _=>1
theorem SV.cells_len(γ:Pl):∀ x:SV,(x.cells γ).length=x.size
 | .w _ | .e | .b _ | .i _ _ | .na _ | .v _ | .p _ _ _ _ | .s _ _ _ _ | .tu _ _ | .gd _ _=>rfl
 | .ap h t=>by simp only[SV.cells,SV.size,List.length_append,cells_len γ h,cells_len γ t]
def SV.many:SV->Bool
 | .w _ | .e | .ap _ _=>true
 | _=>false
def SV.one:SV->Bool
 | .b _ | .i _ _ | .na _ | .p _ _ _ _ | .s _ _ _ _=>true
 | .v x=>x.oneCell'
 | _=>false
theorem SV.one_cell{γ:Pl}:∀ {x:SV},x.one=true->(x.val γ).oneCell'=true
 | .b _,_ | .i _ _,_ | .na _,_ | .p _ _ _ _,_ | .s _ _ _ _,_=>rfl
 | .v _,h=>h
theorem SV.val_many{γ:Pl}:∀ {x:SV},x.many=true->x.val γ=.agg (x.cells γ).toArray
 | .w x,_=>by simp[SV.val,SV.cells]
 | .e,_=>rfl
 | .ap _ _,_=>rfl
theorem SV.val_one{γ:Pl}:∀ {x:SV},x.one=true->x.cells γ=[x.val γ]
 | .b _,_ | .i _ _,_ | .na _,_ | .v _,_ | .p _ _ _ _,_ | .s _ _ _ _,_=>rfl
def SV.lt(n:Nat):SV->Bool
 | .p g _ _ _=>decide (g<n)
 | .s g _ _ _=>decide (g<n)
 | .ap h t=>h.lt n&&t.lt n
 | .tu x y=>x.lt n&&y.lt n
 | .gd _ x=>x.lt n
 | _=>true
theorem SV.lt_same{γ δ:Pl}{n:Nat}(h:∀ k,k<n->γ k=δ k):∀ {x:SV},x.lt n=true->x.sc γ=x.sc δ/\x.cells γ=x.cells δ/\x.val γ=x.val δ
 | .w _,_ | .e,_ | .b _,_ | .i _ _,_ | .na _,_ | .v _,_=>⟨rfl,rfl,rfl⟩
 | .p g _ _ _,hl=>by
  have hg:=h g (of_decide_eq_true hl);refine⟨?_,?_,?_⟩ <;> simp only[SV.sc,SV.cells,SV.val,hg]
 | .s g _ _ _,hl=>by
  have hg:=h g (of_decide_eq_true hl);refine⟨?_,?_,?_⟩ <;> simp only[SV.sc,SV.cells,SV.val,hg]
 | .ap a t,hl=>by
  simp only[SV.lt,Bool.and_eq_true]at hl;obtain⟨_,h1,_⟩:=lt_same h hl.1;obtain⟨_,h2,_⟩:=lt_same h hl.2;refine⟨rfl,?_,?_⟩
  ·simp only[SV.cells,h1,h2]
  ·simp only[SV.val,h1,h2]
 | .tu a t,hl=>by
  simp only[SV.lt,Bool.and_eq_true]at hl;obtain⟨_,_,h1⟩:=lt_same h hl.1;obtain⟨_,_,h2⟩:=lt_same h hl.2;exact⟨rfl,rfl,by simp only[SV.val,h1,h2]⟩
 | .gd t x,hl=>by
  obtain⟨_,_,h1⟩:=lt_same (x:=x) h hl;exact⟨rfl,rfl,by simp only[SV.val,h1]⟩
theorem SV.lt_mono{n m:Nat}(h:n<=m):∀ {x:SV},x.lt n=true->x.lt m=true
 | .w _,_ | .e,_ | .b _,_ | .i _ _,_ | .na _,_ | .v _,_=>rfl
 | .p g _ _ _,hl=>by have:=of_decide_eq_true hl;exact decide_eq_true τ
 | .s g _ _ _,hl=>by have:=of_decide_eq_true hl;exact decide_eq_true τ
 | .ap a t,hl=>by
  simp only[SV.lt,Bool.and_eq_true]at hl |-
  exact⟨lt_mono h hl.1,lt_mono h hl.2⟩
 | .tu a t,hl=>by
  simp only[SV.lt,Bool.and_eq_true]at hl |-
  exact⟨lt_mono h hl.1,lt_mono h hl.2⟩
 | .gd _ x,hl=>lt_mono (x:=x) h hl
def SV.ok:SV->Prop
 | .w x=>x<2^256
 | .na x=>x<2^62
 | .ap h t=>h.ok/\t.ok
 | .tu x y=>x.ok/\y.ok
 | .gd t x=>t=true->x.ok
 | _=>True
def limb(o x:Nat):Int:=((x / 18446744073709551616^o%18446744073709551616:Nat):Int)
def SV.sub(m:Bool)(off sz:Nat):SV->Option SV
 | .w x=>if m then (if off=0/\sz=4 then some (.w x)else none)else if off<4/\sz=1 then some (.i .u64 (limb off x))else none
 | .e=>none
 | .ap h t=>match (if off+sz<=h.size then h.sub m off sz else none)with
  | some r=>some r
  | none=>if m=true/\off=0/\sz=(SV.ap h t).size then some (.ap h t)else if h.size<=off then t.sub m (off - h.size) sz else none
 | x=>if m=false/\off=0/\sz=1/\x.one=true then some x else none
structure Part (γ:Pl) (m:Bool) (off sz:Nat) (x r:SV):Prop where
 size:r.size=sz
 cells:∀ j,j<sz->(x.cells γ)[off+j]?=(r.cells γ)[j]?
 kind:if m=true then r.many=true else r.one=true
 ok:x.ok->r.ok
 lt:∀ n,x.lt n=true->r.lt n=true
theorem Yu(γ:Pl)(o x:Nat)(h:o<4):(pw x)[o]?=some ((SV.i .u64 (limb o x)).val γ):=by
 have:o=0\/o=1\/o=2\/o=3:=by omega
 rcases this with rfl | rfl | rfl | rfl
 ·simp[pw,limb,SV.val,SV.sc]
 ·simp[pw,limb,SV.val,SV.sc]
 ·simp[pw,limb,SV.val,SV.sc]
 ·simp[pw,limb,SV.val,SV.sc]
theorem SV.sub_ok(γ:Pl){m:Bool}:∀ {x:SV} {off sz:Nat} {r:SV},x.sub m off sz=some r->Part γ m off sz x r
 | .w x,off,sz,r,h=>by
  unfold SV.sub at h
  split at h
  ·split at h
   ·rename_i hm hh
    cases h;obtain⟨rfl,rfl⟩:=hh;exact⟨rfl,fun j _=>by rw[Nat.zero_add],by rw[if_pos hm];rfl,id,fun _ h=>h⟩
   ·cases h
  ·split at h
   ·rename_i hm hh
    cases h;obtain⟨h1,rfl⟩:=hh;refine⟨rfl,fun j hj=>?_,by rw[if_neg hm];rfl,fun _=>trivial,fun _ _=>rfl⟩;obtain rfl:j=0:=by omega
    show(pw x).toList[off+0]?=_;rw[Nat.add_zero,Array.getElem?_toList,Yu γ off x h1];rfl
   ·cases h
 | .e,_,_,_,h=>by cases h
 | .ap a t,off,sz,r,h=>by
  unfold SV.sub at h
  split at h
  ·rename_i r' hr
   cases h
   split at hr
   ·rename_i hh
    have q:=sub_ok γ hr;refine⟨q.size,fun j hj=>?_,q.kind,fun hx=>q.ok hx.1,fun n hn=>q.lt n (by simp only[SV.lt,Bool.and_eq_true]at hn;exact hn.1)⟩;rw[<- q.cells j hj];show(a.cells γ++t.cells γ)[off+j]?=_;rw[List.getElem?_append_left (by rw[SV.cells_len];omega)]
   ·cases hr
  ·split at h
   ·rename_i hh
    cases h;obtain⟨hm,rfl,rfl⟩:=hh;exact⟨rfl,fun j _=>by rw[Nat.zero_add],by rw[if_pos hm];rfl,id,fun _ h=>h⟩
   ·split at h
    ·rename_i hh
     have q:=sub_ok γ h;refine⟨q.size,fun j hj=>?_,q.kind,fun hx=>q.ok hx.2,fun n hn=>q.lt n (by simp only[SV.lt,Bool.and_eq_true]at hn;exact hn.2)⟩;rw[<- q.cells j hj];show(a.cells γ++t.cells γ)[off+j]?=_;rw[List.getElem?_append_right (by rw[SV.cells_len];omega),SV.cells_len];congr 1;omega
    ·cases h
 | .b _,off,sz,r,h | .i _ _,off,sz,r,h | .na _,off,sz,r,h | .v _,off,sz,r,h | .p _ _ _ _,off,sz,r,h | .s _ _ _ _,off,sz,r,h=>by
  unfold SV.sub at h
  split at h
  ·rename_i hh
   cases h;obtain⟨hm,rfl,rfl,ho⟩:=hh;exact⟨rfl,fun j _=>by rw[Nat.zero_add],by rw[hm];exact ho,id,fun _ h=>h⟩
  ·cases h
 | .tu _ _,off,sz,r,h | .gd _ _,off,sz,r,h=>by
  unfold SV.sub at h
  split at h
  ·rename_i hh
   exact absurd hh.2.2.2 (by simp[SV.one])
  ·cases h
def SV.put(r:SV)(off:Nat):SV->Option SV
 | .ap h t=>match (if off+r.size<=h.size then SV.put r off h else none)with
  | some h'=>some (.ap h' t)
  | none=>if off=0/\r.many=true/\(SV.ap h t).size=r.size then some r else if h.size<=off then (SV.put r (off - h.size) t).map (.ap h ·)else none
 | .w _=>if off=0/\r.many=true/\r.size=4 then some r else none
 | .e=>none
 | x=>if off=0/\x.one=true/\r.one=true then some r else none
structure Laid (γ:Pl) (off:Nat) (r x y:SV):Prop where
 size:y.size=x.size
 fits:off+r.size<=x.size
 cells:∀ j,(y.cells γ)[j]?=if off<=j/\j<off+r.size then (r.cells γ)[j - off]? else (x.cells γ)[j]?
 ok:x.ok->r.ok->y.ok
 lt:∀ n,x.lt n=true->r.lt n=true->y.lt n=true
theorem SV.one_size:∀ {x:SV},x.one=true->x.size=1
 | .b _,_ | .i _ _,_ | .na _,_ | .v _,_ | .p _ _ _ _,_ | .s _ _ _ _,_=>rfl
theorem JJ{γ:Pl}{r x:SV}(h:r.size=x.size):Laid γ 0 r x r :=
 ⟨h,τ,fun j=>by
  rw[Nat.sub_zero];by_cases hj:j<r.size
  ·rw[if_pos τ]
  ·rw[if_neg τ,List.getElem?_eq_none (by rw[SV.cells_len];omega),List.getElem?_eq_none (by rw[SV.cells_len];omega)],fun _ h=>h,fun _ _ h=>h⟩
theorem SV.put_ok(γ:Pl){r:SV}:∀ {x:SV} {off:Nat} {y:SV},SV.put r off x=some y->Laid γ off r x y
 | .w x,off,y,h=>by
  unfold SV.put at h
  split at h
  ·rename_i hh
   cases h;obtain⟨rfl,_,h4⟩:=hh;exact JJ h4
  ·cases h
 | .e,_,_,h=>by cases h
 | .ap a t,off,y,h=>by
  unfold SV.put at h
  split at h
  ·rename_i a' hp
   cases h
   split at hp
   ·rename_i hh
    have q:=put_ok γ hp;refine⟨by simp only[SV.size,q.size],by simp only[SV.size];omega,fun j=>?_,fun hx hr=>⟨q.ok hx.1 hr,hx.2⟩,fun n hn hr=>by
     simp only[SV.lt,Bool.and_eq_true]at hn |-
     exact⟨q.lt n hn.1 hr,hn.2⟩⟩
    show(a'.cells γ++t.cells γ)[j]?=if _ then _ else (a.cells γ++t.cells γ)[j]?
    rw[List.getElem?_append,List.getElem?_append,SV.cells_len,SV.cells_len,q.size,q.cells j];by_cases hj:j<a.size
    ·simp only[hj,if_true]
    ·rw[if_neg hj,if_neg τ,if_neg hj]
   ·cases hp
  ·split at h
   ·rename_i hh
    cases h;obtain⟨rfl,_,h4⟩:=hh;exact JJ h4.symm
   ·split at h
    ·rename_i hh
     cases hp:SV.put r (off - a.size) t with
     | none=>rw[hp]at h;cases h
     | some t' =>
      rw[hp]at h;cases h;have q:=put_ok γ hp;have qf:=q.fits;refine⟨by simp only[SV.size,q.size],by simp only[SV.size];omega,fun j=>?_,fun hx hr=>⟨hx.1,q.ok hx.2 hr⟩,fun n hn hr=>by
       simp only[SV.lt,Bool.and_eq_true]at hn |-
       exact⟨hn.1,q.lt n hn.2 hr⟩⟩
      show(a.cells γ++t'.cells γ)[j]?=if _ then _ else (a.cells γ++t.cells γ)[j]?
      rw[List.getElem?_append,List.getElem?_append,SV.cells_len,q.cells (j - a.size)];by_cases hj:j<a.size
      ·rw[if_pos hj,if_pos hj,if_neg τ]
      ·rw[if_neg hj,if_neg hj]
       by_cases h2:off<=j/\j<off+r.size
       ·rw[if_pos h2,if_pos τ,show j - a.size - (off - a.size)=j - off by omega]
       ·rw[if_neg h2,if_neg τ]
    ·cases h
 | .b _,off,y,h | .i _ _,off,y,h | .na _,off,y,h | .v _,off,y,h | .p _ _ _ _,off,y,h | .s _ _ _ _,off,y,h=>by
  unfold SV.put at h
  split at h
  ·rename_i hh
   cases h;obtain⟨rfl,_,h4⟩:=hh;exact JJ (SV.one_size h4)
  ·cases h
 | .tu _ _,off,y,h | .gd _ _,off,y,h=>by
  unfold SV.put at h
  split at h
  ·rename_i hh
   exact absurd hh.2.1 (by simp[SV.one])
  ·cases h
end Go.Proofs.YtphafjbajlcbnaaGreat.Sy
namespace Go.Proofs.YtphafjbajlcbnaaGreat.Sy
open Go.RowKit
structure Ty where
 T:TypeId
 m:Bool
 sz:Nat
 zero:SV
 fs:List (Nat × Nat)
def isRow:TypeDesc->Bool
 | .struct _ | .array _ _=>true
 | _=>false
def fieldsOf(P:Program)(T:TypeId):Option (List (Nat × Nat)) :=
 match P.underlying T with
 | some (.struct fields)=>fields.toList.mapM fun f=>(P.info? f.type).map fun i=>(f.offset,i.size)
 | _=>none
structure Ty.Good (P:Program) (y:Ty):Prop where
 d:(P.underlying y.T).map isRow=some y.m
 sz:(P.info? y.T).map (·.size)=some y.sz
 zero:((P.info? y.T).bind (·.zero)).map (·.cells)=some (y.zero.cells fun _=>0).toArray
 zlt:y.zero.lt 0=true
 zok:y.zero.ok
 fs:y.fs≠[]->fieldsOf P y.T=some y.fs
abbrev Rows:=List (Nat × SV × TypeId)
inductive Ob
 | ask (p:Prop)
 | same (g h:Bool)
 | eq (x y:SV)
def Ob.holds:Ob->Prop
 | .ask p=>p
 | .same g h=>g=true->h=true
 | .eq x y=>x=y
structure Bs where
 T:TypeId
 n:Nat
 e:TypeId
 sz:Nat
 zs:SV
structure Bs.Good (P:Program) (b:Bs):Prop where
 u:P.underlying b.T=some (.slice b.e)
 i:(P.info? b.e).map (·.size)=some b.sz
 z:((P.info? b.e).bind (·.zero)).map (fun v=>(Array.range (b.n*b.sz)).map (v.cells[·%v.cells.size]!))=some (b.zs.cells fun _=>0).toArray
 lt:b.zs.lt 0=true
 ok:b.zs.ok
 few:decide (b.n*b.sz > 2^24)=false
 pos:decide (b.n*b.sz=0)=false
def V8(T:TypeId)(n:Nat):List Bs->Option Bs
 | []=>none
 | b::l=>if b.T=T/\b.n=n then some b else V8 T n l
theorem LW{T:TypeId}{n:Nat}{b:Bs}:∀ {l:List Bs},V8 T n l=some b->b∈l/\b.T=T/\b.n=n
 | [],h=>by cases h
 | c::l,h=>by
  unfold V8 at h
  split at h
  ·rename_i e;cases h;exact⟨.head _,e⟩
  ·have:=LW h;exact⟨.tail _ this.1,this.2⟩
structure Env where
 P:Program
 tys:List Ty
 base:Nat
 ctr:FuncId->Nat->Rows->List SV->Option (SV × List Ob × Rows)
 bop:BinOp->TypeId->SV->SV->Option (SV × List Ob)
 bld:TypeId->List (Nat × SV)->Option SV
 xld:TypeId->Nat->Nat->Nat->Nat->Option (SV × List Ob)
 ixa:TypeId->SV->SV->Option (SV × List Ob)
 sls:List TypeId
 bss:List Bs
 slc:TypeId->SV->Option SV->Option SV->Option SV
def JK(T:TypeId):List Ty->Option Ty
 | []=>none
 | y::l=>if y.T=T then some y else JK T l
theorem Bl{T:TypeId}{y:Ty}:∀ {l:List Ty},JK T l=some y->y∈l/\y.T=T
 | [],h=>by cases h
 | z::l,h=>by
  unfold JK at h
  split at h
  ·cases h;rename_i e;exact⟨.head _,e⟩
  ·have:=Bl h;exact⟨.tail _ this.1,this.2⟩
def All(l:List Ob):Prop:=∀ p∈l,p.holds
def Agree(E:Env)(γ0 γ:Pl):Prop:=∀ k,k<E.base->γ k=γ0 k
def Kt(γ:Pl)(n:Nat)(M:Rows)(wx:World):Prop:=∀ r∈M,wx.heap[γ r.1]?=some (.cells (r.2.1.cells γ).toArray r.2.2 (0,0))/\r.2.1.ok/\r.2.1.lt n=true
structure Made (γ:Pl) (n:Nat) (r:SV) (R:Rows) (wx:World) (e:Ending) (w':World):Prop where
 out:∃ δ:Pl,(∀ k,k<n->δ k=γ k)/\e=.returned (r.val δ)/\(∀ q∈R,wx.heap.size<=δ q.1/\w'.heap[δ q.1]?=some (.cells (q.2.1.cells δ).toArray q.2.2 (0,0)))/\R.Pairwise fun p q=>δ p.1≠δ q.1
 below:Below wx.heap.size wx w'
structure Env.Good (E:Env) (γ0:Pl) (w0:World):Prop where
 tys:∀ y∈E.tys,y.Good E.P
 ctr:∀ f n M l r p R,E.ctr f n M l=some (r,p,R)->All p->E.base<=n->(∀ x∈l,x.ok/\x.lt n=true)->(∀ r∈M,r.2.1.ok/\r.2.1.lt n=true)->r.ok/\r.lt (n+R.length)=true/\(∀ q∈R,q.2.1.ok/\q.2.1.lt (n+R.length)=true/\n<=q.1/\q.1<n+R.length)/\(∀ l wx,(callFunc f l).run E.P wx=.ok (.enter f l) wx) /\
  ∀ γ,Agree E γ0 γ->∀ wx,Below w0.heap.size w0 wx->Kt γ n M wx->Calls E.P f (l.map (·.val γ)).toArray wx (Made γ n r R wx)
 bop:∀ op T x y r p,E.bop op T x y=some (r,p)->All p->x.ok->y.ok->r.ok/\r.lt 0=true/\∀ γ (ox oy:Operand) wx,(eqGuard op T ox oy (x.val γ) (y.val γ)).run E.P wx=.ok () wx/\(binOp op T (x.val γ) (y.val γ)).run E.P wx=.ok (r.val γ) wx
 bld:∀ T l r,E.bld T l=some r->(∀ x∈l,x.2.ok)->r.ok/\r.lt 0=true/\r.many=true/\∀ γ,E.P.built T (l.map fun x=>(x.1,x.2.val γ))=some (r.cells γ).toArray
 xld:∀ T g o j z r p,E.xld T g o j z=some (r,p)->All p->r.ok/\r.lt E.base=true/\g<E.base/\∀ γ,Agree E γ0 γ->∀ wx,Below w0.heap.size w0 wx->(Instr.loadAt T (.pointer (some ⟨γ g,o+j*z,none⟩))).run E.P wx=.ok (r.val γ) wx
 ixa:∀ T x y r p n,E.ixa T x y=some (r,p)->All p->x.lt n=true->x.ok->y.ok->r.ok/\r.lt n=true/\∀ γ wx,(Instr.indexAt T (x.val γ) (y.val γ)).run E.P wx=.ok (r.val γ) wx
 sls:∀ T∈E.sls,∃ e,E.P.underlying T=some (.slice e)
 bss:∀ b∈E.bss,b.Good E.P
 slc:∀ T x lo hi r n,E.slc T x lo hi=some r->x.lt n=true->r.ok/\r.lt n=true/\∀ γ wx,(Instr.sliceAt T (x.val γ) (lo.map (·.val γ)) (hi.map (·.val γ)) none).run E.P wx=.ok (r.val γ) wx
def LX(v:Value):SV:=.v v
theorem KL(γ:Pl)(n:Nat)(v:Value):(LX v).val γ=v/\(LX v).ok/\(LX v).lt n=true:=⟨rfl,trivial,rfl⟩
def Tc:SV->Option Nat
 | .na x=>some x
 | .v (.int .i64 (.ofNat k))=>if k<2^62 then some k else none
 | _=>none
theorem Fy{γ:Pl}{x:SV}{k:Nat}(h:Tc x=some k)(hx:x.ok):x.val γ=.int .i64 (k:Nat)/\k<2^62:=by
 unfold Tc at h
 split at h
 ·cases h;exact⟨rfl,hx⟩
 ·split at h
  ·rename_i hk;cases h;exact⟨rfl,hk⟩
  ·cases h
 ·cases h
def IG(x:SV):SV:=match Tc x with
 | some k=>.na k
 | none=>x
theorem V9{γ:Pl}{n:Nat}{x:SV}(hx:x.ok)(hl:x.lt n=true):(IG x).val γ=x.val γ/\(IG x).ok/\(IG x).lt n=true:=by
 unfold IG
 split
 ·rename_i k h
  have:=Fy (γ:=γ) h hx;exact⟨this.1.symm,this.2,rfl⟩
 ·exact⟨rfl,hx,hl⟩
def Co(lk:Nat->Option SV):Operand->Option SV
 | .tmp t=>lk t
 | .const v=>some (LX v)
 | .func f=>some (.v (.func (.func f) #[] #[]))
 | .global _=>none
def Va(lk:Nat->Option SV):Option Operand->Option (Option SV)
 | none=>some none
 | some x=>(Co lk x).map some
def II(lk:Nat->Option SV):List Operand->Option (List SV)
 | []=>some []
 | x::l=>match Co lk x,II lk l with
  | some u,some r=>some (u::r)
  | _,_=>none
def partsOf(lk:Nat->Option SV):List (Nat × Operand)->Option (List (Nat × SV))
 | []=>some []
 | x::l=>match Co lk x.2,partsOf lk l with
  | some u,some r=>some ((x.1,u)::r)
  | _,_=>none
def QC(c:Bool):SV->Option (Bool × List Ob)
 | .b t=>some (t,[])
 | .v (.bool t)=>some (t,[])
 | .gd g (.b t)=>some (t,[.same c g])
 | .gd g (.v (.bool t))=>some (t,[.same c g])
 | _=>none
def F4(g:Nat):Rows->Option (SV × TypeId)
 | []=>none
 | r::l=>if r.1=g then some r.2 else F4 g l
def FM(fs:List (Nat × Nat)):SV->List (Nat × SV)->Option SV
 | z,[]=>some z
 | z,(i,x)::l=>match fs[i]? with
  | some (off,sz)=>if x.size=sz then match SV.put x off z with
   | some z'=>FM fs z' l
   | none=>none
   else none
  | none=>none
def Bn(E:Env)(lk:Nat->Option SV)(M:Rows):Op->Option (SV × List Ob)
 | .move x=>(Co lk x).map (·,[])
 | .assign x=>(Co lk x).map (·,[])
 | .pick c x y=>match Co lk c with
  | some (.v (.bool true))=>(Co lk x).map (·,[])
  | some (.v (.bool false))=>(Co lk y).map (·,[])
  | some (.b t)=>match (Co lk x).bind (QC t),(Co lk y).bind (QC (!t))with
   | some (u,p),some (v,q)=>some (.b (bif t then u else v),p++q)
   | _,_=>none
  | _=>none
 | .load T x=>match Co lk x,JK T E.tys with
  | some (.p g o j z),some y=>match F4 g M with
   | some r=>if z=0 then (SV.sub y.m o y.sz r.1).map (·,[])else none
   | none=>E.xld T g o j z
  | _,_=>none
 | .build T parts=>match partsOf lk parts.toList with
  | some l=>match JK T E.tys with
   | some y=>if y.fs=[]then (E.bld T l).map (·,[])else if y.m=true/\l.all (fun x=>x.2.one||x.2.many)=true then match FM y.fs y.zero l with
    | some r=>if r.many=true then some (r,[])else none
    | none=>none
    else none
   | none=>none
  | none=>none
 | .fieldAddr T x i=>match Co lk x,JK T E.tys with
  | some (.p g o j z),some y=>match y.fs[i]? with
   | some (off,sz)=>if sz=0 then none else some (.p g (o+off) j z,[])
   | none=>none
  | _,_=>none
 | .extract x i=>match Co lk x with
  | some (.tu a b)=>if i=0 then some (a,[])else if i=1 then some (b,[])else none
  | _=>none
 | .unOp .not _ x=>match Co lk x with
  | some (.b t)=>some (.b (!t),[])
  | some (.v (.bool t))=>some (.v (.bool (!t)),[])
  | _=>none
 | .binOp op T x y _=>match Co lk x,Co lk y with
  | some u,some v=>E.bop op T u v
  | _,_=>none
 | .indexAddr T x y=>match Co lk x,Co lk y with
  | some u,some v=>E.ixa T u v
  | _,_=>none
 | .slice T x lo hi none=>match Co lk x,Va lk lo,Va lk hi with
  | some u,some l,some h=>(E.slc T u l h).map (·,[])
  | _,_,_=>none
 | .call c=>match c.callee,c.args.toList,c.argTypes.toList with
  | .builtin .len,[x],[T]=>match Co lk x with
   | some (.s _ _ n _)=>if E.sls.contains T=true then some (.na n,[.ask (n<2^62)])else none
   | _=>none
  | _,_,_=>none
 | _=>none
section
variable {E:Env} {γ0 γ:Pl} {w0 wx:World} {lk:Nat->Option SV} {M:Rows} {n:Nat} {a:Act} {o:Oper} {x y:Operand} {u v r:SV}
def Holds(γ:Pl)(n:Nat)(lk:Nat->Option SV)(a:Act):Prop:=∀ t x,lk t=some x->a.tmps.getD t undef=x.val γ/\x.ok/\x.lt n=true
theorem Ar(hk:Holds γ n lk a)(h:Co lk x=some u):a.eval x=u.val γ/\u.ok/\u.lt n=true:=by
 cases x with
 | tmp t=>exact hk t u h
 | const v=>cases h;have:=KL γ n v;exact⟨this.1.symm,this.2⟩
 | func f=>cases h;exact⟨rfl,trivial,rfl⟩
 | global g=>cases h
theorem NH(hk:Holds γ n lk a){x:Option Operand}{u:Option SV}(h:Va lk x=some u):x.map a.eval=u.map (·.val γ):=by
 cases x with
 | none=>cases h;rfl
 | some x =>
  obtain⟨v,hv,e⟩:=Option.map_eq_some_iff.1 h;subst e;exact congrArg some (Ar hk hv).1
theorem GR(hk:Holds γ n lk a):∀ {l:List Operand} {us:List SV},II lk l=some us->l.map a.eval=us.map (·.val γ)/\∀ u∈us,u.ok/\u.lt n=true
 | [],us,h=>by cases h;exact⟨rfl,fun u hu=>by cases hu⟩
 | x::l,us,h=>by
  unfold II at h
  split at h
  ·rename_i u r hu hr
   cases h;have h1:=Ar hk hu;have h2:=GR hk hr;refine⟨by rw[List.map_cons,List.map_cons,h1.1,h2.1],fun v hv=>?_⟩;rcases List.mem_cons.1 hv with rfl | hv
   ·exact h1.2
   ·exact h2.2 v hv
  ·cases h
theorem Ez(hk:Holds γ n lk a):∀ {l:List (Nat × Operand)} {us:List (Nat × SV)},partsOf lk l=some us->l.map (fun x=>(x.1,a.eval x.2))=us.map (fun x=>(x.1,x.2.val γ))/\∀ u∈us,u.2.ok/\u.2.lt n=true
 | [],us,h=>by cases h;exact⟨rfl,fun u hu=>by cases hu⟩
 | x::l,us,h=>by
  unfold partsOf at h
  split at h
  ·rename_i u r hu hr
   cases h;have h1:=Ar hk hu;have h2:=Ez hk hr;refine⟨by rw[List.map_cons,List.map_cons,h1.1,h2.1],fun v hv=>?_⟩;rcases List.mem_cons.1 hv with rfl | hv
   ·exact h1.2
   ·exact h2.2 v hv
  ·cases h
theorem NI{c:Bool}{x:SV}{t:Bool}{p:List Ob}(h:QC c x=some (t,p))(hc:c=true)(hp:All p):x.val γ=.bool t:=by
 unfold QC at h
 split at h <;> cases h
 ·rfl
 ·rfl
 ·have:_=true:=hp _ (.head _) hc
  subst this;rfl
 ·have:_=true:=hp _ (.head _) hc
  subst this;rfl
theorem Bu{g:Nat}{q:SV × TypeId}:∀ {M:Rows},F4 g M=some q->(g,q.1,q.2)∈M
 | [],h=>by cases h
 | r::l,h=>by
  unfold F4 at h
  split at h
  ·rename_i e;cases h;subst e;exact .head _
  ·exact .tail _ (Bu h)
theorem Yv{P:Program}{T:TypeId}{m:Bool}(h:(P.underlying T).map isRow=some m):∃ d,P.underlying T=some d/\isRow d=m:=by
 cases hu:P.underlying T with
 | none=>rw[hu]at h;cases h
 | some d=>rw[hu]at h;exact⟨d,rfl,Option.some.inj h⟩
theorem A1C{P:Program}{w:World}{g o:Nat}{cs:Array Value}{t T:TypeId}{d:TypeDesc}{v:Value}(hg:w.heap[g]?=some (.cells cs t (0,0)))(hc:cs[o]?=some v)(hu:P.underlying T=some d)(hd:isRow d=false) :
  (Instr.loadAt T (.pointer (some ⟨g,o,none⟩))).run P w=.ok v w:=by
 have c0:w.cell? ⟨g,o,none⟩=some v:=(cell_of_row _ _ o _ _ _ hg).trans hc;have hagg:(isAgg T).run P w=.ok false w:=by
  unfold isAgg;rw[Sem.run_bind,run_underlying hu w];cases d <;> first | rfl | cases hd
 simp[Instr.loadAt,Instr.sureAddr,loadVar,Sem.run_bind,hagg,c0]
theorem QD{P:Program}{w:World}{g off sz:Nat}{t T:TypeId}{m:Bool}{x r:SV}(hg:w.heap[g]?=some (.cells (x.cells γ).toArray t (0,0)))(hd:(P.underlying T).map isRow=some m)(hs:(P.info? T).map (·.size)=some sz)(h:SV.sub m off sz x=some r) :
  (Instr.loadAt T (.pointer (some ⟨g,off,none⟩))).run P w=.ok (r.val γ) w:=by
 have q:=SV.sub_ok γ h;obtain⟨d,hu,hm⟩:=Yv hd;cases m with
 | true =>
  rw[SV.val_many q.kind];refine DY (r.cells γ).toArray hg (fun j hj=>?_) hu (by cases d <;> first | rfl | cases hm) ?_
  ·have hj':j<sz:=by
    have:=SV.cells_len γ r;rw[List.size_toArray,this,q.size]at hj;exact hj
   simpa using q.cells j hj'
  ·rw[hs,List.size_toArray,SV.cells_len,q.size]
 | false =>
  have ho:r.one=true:=q.kind;refine A1C hg ?_ hu hm;have h1:=SV.one_size ho;have:=q.cells 0 (by have:=q.size;omega);rw[SV.val_one ho]at this;simpa using this
theorem cells_one{v:Value}(h:v.oneCell'=true):v.cells=#[v]:=by
 cases v <;> first | rfl | cases h
theorem NJ(off:Nat):∀(vs:List Value) (j0:Nat) (cs:Array Value),off+j0+vs.length<=cs.size->((vs.zipIdx j0).foldl (fun cs (p:Value × Nat)=>cs.setIfInBounds (off+p.2) p.1) cs).size=cs.size /\
  ∀ k:Nat,((vs.zipIdx j0).foldl (fun cs (p:Value × Nat)=>cs.setIfInBounds (off+p.2) p.1) cs)[k]?=if off+j0<=k/\k<off+j0+vs.length then vs[k - (off+j0)]? else cs[k]?
 | [],j0,cs,_=>⟨rfl,fun k=>by rw[if_neg (by simp only[List.length_nil];omega)];rfl⟩
 | v::vs,j0,cs,h=>by
  simp only[List.length_cons]at h;have ih:=NJ off vs (j0+1) (cs.setIfInBounds (off+j0) v) (by simp only[Array.size_setIfInBounds];omega);simp only[List.zipIdx_cons,List.foldl_cons];refine⟨by rw[ih.1,Array.size_setIfInBounds],fun k=>?_⟩;rw[ih.2 k];simp only[List.length_cons];by_cases h1:k=off+j0
  ·subst h1
   rw[if_neg τ,if_pos τ,Nat.sub_self];rw[Array.getElem?_setIfInBounds_self_of_lt τ];rfl
  ·by_cases h2:off+(j0+1)<=k/\k<off+(j0+1)+vs.length
   ·rw[if_pos h2,if_pos τ,show k - (off+j0)=(k - (off+(j0+1)))+1 by omega,List.getElem?_cons_succ]
   ·rw[if_neg h2,if_neg τ,Array.getElem?_setIfInBounds_ne τ]
theorem J8{fs:List (Nat × Nat)}:∀ {l:List (Nat × SV)} {z r:SV},FM fs z l=some r->(∀ x∈l,(x.2.one||x.2.many)=true)->Instr.fill (fs.toArray[·]?) (z.cells γ).toArray (l.map fun x=>(x.1,x.2.val γ))=some (r.cells γ).toArray
 | [],z,r,h,_=>by cases h;rfl
 | (i,x)::l,z,r,h,hv=>by
  unfold FM at h
  split at h
  ·rename_i off sz hf
   split at h
   ·rename_i hsz
    split at h
    ·rename_i z' hz
     have q:=SV.put_ok γ hz;have qf:=q.fits;have ih:=J8 (l:=l) h (fun y hy=>hv y (.tail _ hy));have hc:(x.val γ).cells=(x.cells γ).toArray:=by
      have:=hv _ (.head _);simp only[Bool.or_eq_true]at this;rcases this with h1 | h1
      ·rw[SV.val_one h1,cells_one (SV.one_cell h1)]
      ·rw[SV.val_many h1]
       rfl
     rw[List.map_cons];unfold Instr.fill;have hf':fs.toArray[i]?=some (off,sz):=by simpa using hf
     have hl:=SV.cells_len γ x;have hlz:=SV.cells_len γ z;have e:((x.cells γ).toArray.zipIdx.foldl (fun cs (p:Value × Nat)=>cs.setIfInBounds (off+p.2) p.1) (z.cells γ).toArray)=(z'.cells γ).toArray:=by
      have f:=NJ off (x.cells γ) 0 (z.cells γ).toArray (by simp only[List.size_toArray];omega);have e0:(x.cells γ).toArray.zipIdx=((x.cells γ).zipIdx 0).toArray:=by simp
      rw[e0,List.foldl_toArray];apply Array.ext_getElem?;intro k;rw[f.2 k];simp only[List.getElem?_toArray];rw[q.cells k,hl];simp only[Nat.add_zero]
     simp only[hf',hc];rw[if_neg (by simp only[List.size_toArray,Bool.or_eq_true,decide_eq_true_eq,bne_iff_ne,ne_eq,not_or];omega)];exact(congrArg (fun cs=>Instr.fill (fs.toArray[·]?) cs (l.map fun x=>(x.1,x.2.val γ))) e).trans ih
    ·cases h
   ·cases h
  ·cases h
end
end Go.Proofs.YtphafjbajlcbnaaGreat.Sy
