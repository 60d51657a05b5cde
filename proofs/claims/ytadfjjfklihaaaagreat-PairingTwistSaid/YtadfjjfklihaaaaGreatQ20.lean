/- Regions that draw their order: what each operation does is told ahead, and that no other one is in its way. No program is named here. (Cut to what is reached, written closely: PrE · COpen · TOpen · SyG.) -/
import Derived.Test.YtadfjjfklihaaaaGreatP19
import Derived.Laws.StructEq
import Derived.Test.YtadfjjfklihaaaaGreatP16
import Derived.Deep.Strs
import Derived.Test.YtadfjjfklihaaaaGreatP18
set_option linter.all false
set_option maxRecDepth 100000
set_option maxHeartbeats 8000000
namespace Go.Proofs.YtadfjjfklihaaaaGreat
open Go.RowKit
def pc(x y:Nat)(n:Bool):Array Value:=pw x++pw y++#[.bool n]
def tc(x0 x1 y0 y1:Nat)(n:Bool):Array Value:=pw x0++pw x1++(pw y0++pw y1)++#[.bool n]
namespace Sy
theorem eqT_W:EqT Tryz.prog .u64 24 4 2:=EqT.base Tryz.underlying24 Tryz.underlying22 (by kernel_rfl)
theorem eqT_2:EqT Tryz.prog .u64 38 (2*4) 3:=EqT.step Tryz.underlying38 (by kernel_rfl) (by kernel_rfl) eqT_W
end Sy
open Sy
theorem pws_limbs(l:List Nat)(x:SV)(h:wordsS x=some l):(x.cells fun _=>0).toArray=((limbs l).map (Value.int .u64)).toArray:=by rw[(wordsS_ok (fun _=>0) x h).1]
theorem eqWd(d:Nat){a b:Nat}(ha:a<2^256)(hb:b<2^256)(w:World):(Op.equalIn (d+2) 24 (.agg (pw a)) (.agg (pw b))).run Tryz.prog w=.ok (decide (a=b)) w:=by
 have ea:(.agg (pw a):Value)=.agg ((limbs [a]).map (Value.int .u64)).toArray:=congrArg Value.agg (pws_limbs [a] (.w a) rfl);have eb:(.agg (pw b):Value)=.agg ((limbs [b]).map (Value.int .u64)).toArray:=congrArg Value.agg (pws_limbs [b] (.w b) rfl);rw[ea,eb,eqT_W d _ _ rfl rfl w];congr 1;refine decide_eq_decide.2 ((limbs_eq (a:=[a]) (b:=[b]) (fun x hx=>by simp only[List.mem_cons,List.not_mem_nil,or_false]at hx;rw[hx];exact ha) (fun x hx=>by simp only[List.mem_cons,List.not_mem_nil,or_false]at hx;rw[hx];exact hb)).trans ?_);simp
theorem eqF2d(d:Nat){a b a' b':Nat}(ha:a<2^256)(hb:b<2^256)(ha':a'<2^256)(hb':b'<2^256)(w:World):(Op.equalIn (d+3) 38 (.agg (pw a++pw b)) (.agg (pw a'++pw b'))).run Tryz.prog w=.ok (decide (a=a'/\b=b')) w:=by
 have e:∀ x y:Nat,(.agg (pw x++pw y):Value)=.agg ((limbs [x,y]).map (Value.int .u64)).toArray:=fun x y=>congrArg Value.agg ((by simp[SV.cells]:pw x++pw y=((SV.ap (.w x) (.ap (.w y) .e)).cells fun _=>0).toArray).trans (pws_limbs [x,y] (.ap (.w x) (.ap (.w y) .e)) rfl));rw[e,e,eqT_2 d _ _ rfl rfl w];congr 1;have two:∀ {x y:Nat},x<2^256->y<2^256->∀ z∈[x,y],z<2^256:=fun hx hy z hz=>by
  simp only[List.mem_cons,List.not_mem_nil,or_false]at hz;rcases hz with rfl | rfl
  ·exact hx
  ·exact hy
 refine decide_eq_decide.2 ((limbs_eq (two ha hb) (two ha' hb')).trans ?_);simp
theorem eqp_in{x y a b:Nat}(n c:Bool)(hx:x<2^256)(hy:y<2^256)(ha:a<2^256)(hb:b<2^256)(w:World):(Op.equalIn 10000 26 (.agg (pc x y n)) (.agg (pc a b c))).run Tryz.prog w=.ok (decide (x=a/\y=b/\n=c)) w:=by
 have p1:∀ w,(part 24 (pc x y n) 0).run Tryz.prog w=.ok (.agg (pw x)) w:=fun w=>by kernel_rfl
 have p2:∀ w,(part 24 (pc x y n) 4).run Tryz.prog w=.ok (.agg (pw y)) w:=fun w=>by kernel_rfl
 have p3:∀ w,(part 4 (pc x y n) 8).run Tryz.prog w=.ok (.bool n) w:=fun w=>by kernel_rfl
 have q1:∀ w,(part 24 (pc a b c) 0).run Tryz.prog w=.ok (.agg (pw a)) w:=fun w=>by kernel_rfl
 have q2:∀ w,(part 24 (pc a b c) 4).run Tryz.prog w=.ok (.agg (pw b)) w:=fun w=>by kernel_rfl
 have q3:∀ w,(part 4 (pc a b c) 8).run Tryz.prog w=.ok (.bool c) w:=fun w=>by kernel_rfl
 have e1:∀ w,(Op.equalIn 9999 24 (.agg (pw x)) (.agg (pw a))).run Tryz.prog w=.ok (decide (x=a)) w:=eqWd 9997 hx ha;have e2:∀ w,(Op.equalIn 9999 24 (.agg (pw y)) (.agg (pw b))).run Tryz.prog w=.ok (decide (y=b)) w:=eqWd 9997 hy hb;have e3:∀ w,(Op.equalIn 9999 4 (.bool n) (.bool c)).run Tryz.prog w=.ok (n == c) w:=fun w=>run_equalIn_bool' w 9998 _ n c Tryz.underlying4;rw[show(10000:Nat)=9999+1 from rfl,run_equalIn_struct w 9999 26 _ _ (by kernel_rfl) (by kernel_rfl)];rw[show Tryz.prog.fieldsOf 26=(match Tryz.prog.underlying 26 with | some (.struct fs)=>fs | _=>#[]) from rfl,Tryz.underlying26];simp only[Op.eqFields,Sem.run_bind,Sem.run_ite,p1,p2,p3,q1,q2,q3,e1,e2,e3,Result.andThen_ok,Sem.run_pure,ne_eq];by_cases h1:x=a <;> by_cases h2:y=b <;> by_cases h3:n=c <;> simp[h1,h2,h3]
theorem eqp_run{x y a b:Nat}(n c:Bool)(hx:x<2^256)(hy:y<2^256)(ha:a<2^256)(hb:b<2^256)(w:World):(binOp BinOp.eql 26 (.agg (pc x y n)) (.agg (pc a b c))).run Tryz.prog w=.ok (.bool (decide (x=a/\y=b/\n=c))) w:=by
 rw[run_eql_struct,eqp_in n c hx hy ha hb];rfl
theorem neqp_run{x y a b:Nat}(n c:Bool)(hx:x<2^256)(hy:y<2^256)(ha:a<2^256)(hb:b<2^256)(w:World):(binOp BinOp.neq 26 (.agg (pc x y n)) (.agg (pc a b c))).run Tryz.prog w=.ok (.bool (!decide (x=a/\y=b/\n=c))) w:=by
 rw[run_neq_struct,eqp_in n c hx hy ha hb];rfl
theorem eqt_in{x x1 y y1 a a1 b b1:Nat}(n c:Bool)(hx:x<2^256)(hx1:x1<2^256)(hy:y<2^256)(hy1:y1<2^256)(ha:a<2^256)(ha1:a1<2^256)(hb:b<2^256)(hb1:b1<2^256)(w:World):(Op.equalIn 10000 47 (.agg (tc x x1 y y1 n)) (.agg (tc a a1 b b1 c))).run Tryz.prog w=.ok (decide ((x=a/\x1=a1)/\(y=b/\y1=b1)/\n=c)) w:=by
 have p1:∀ w,(part 38 (tc x x1 y y1 n) 0).run Tryz.prog w=.ok (.agg (pw x++pw x1)) w:=fun w=>by kernel_rfl
 have p2:∀ w,(part 38 (tc x x1 y y1 n) 8).run Tryz.prog w=.ok (.agg (pw y++pw y1)) w:=fun w=>by kernel_rfl
 have p3:∀ w,(part 4 (tc x x1 y y1 n) 16).run Tryz.prog w=.ok (.bool n) w:=fun w=>by kernel_rfl
 have q1:∀ w,(part 38 (tc a a1 b b1 c) 0).run Tryz.prog w=.ok (.agg (pw a++pw a1)) w:=fun w=>by kernel_rfl
 have q2:∀ w,(part 38 (tc a a1 b b1 c) 8).run Tryz.prog w=.ok (.agg (pw b++pw b1)) w:=fun w=>by kernel_rfl
 have q3:∀ w,(part 4 (tc a a1 b b1 c) 16).run Tryz.prog w=.ok (.bool c) w:=fun w=>by kernel_rfl
 have e1:∀ w,(Op.equalIn 9999 38 (.agg (pw x++pw x1)) (.agg (pw a++pw a1))).run Tryz.prog w=.ok (decide (x=a/\x1=a1)) w:=eqF2d 9996 hx hx1 ha ha1;have e2:∀ w,(Op.equalIn 9999 38 (.agg (pw y++pw y1)) (.agg (pw b++pw b1))).run Tryz.prog w=.ok (decide (y=b/\y1=b1)) w:=eqF2d 9996 hy hy1 hb hb1;have e3:∀ w,(Op.equalIn 9999 4 (.bool n) (.bool c)).run Tryz.prog w=.ok (n == c) w:=fun w=>run_equalIn_bool' w 9998 _ n c Tryz.underlying4;rw[show(10000:Nat)=9999+1 from rfl,run_equalIn_struct w 9999 47 _ _ (by kernel_rfl) (by kernel_rfl)];rw[show Tryz.prog.fieldsOf 47=(match Tryz.prog.underlying 47 with | some (.struct fs)=>fs | _=>#[]) from rfl,Tryz.underlying47];simp only[Op.eqFields,Sem.run_bind,Sem.run_ite,p1,p2,p3,q1,q2,q3,e1,e2,e3,Result.andThen_ok,Sem.run_pure,ne_eq];by_cases h1:x=a/\x1=a1 <;> by_cases h2:y=b/\y1=b1 <;> by_cases h3:n=c <;> simp[h1,h2,h3]
theorem eqt_run{x x1 y y1 a a1 b b1:Nat}(n c:Bool)(hx:x<2^256)(hx1:x1<2^256)(hy:y<2^256)(hy1:y1<2^256)(ha:a<2^256)(ha1:a1<2^256)(hb:b<2^256)(hb1:b1<2^256)(w:World):(binOp BinOp.eql 47 (.agg (tc x x1 y y1 n)) (.agg (tc a a1 b b1 c))).run Tryz.prog w=.ok (.bool (decide ((x=a/\x1=a1)/\(y=b/\y1=b1)/\n=c))) w:=by
 rw[run_eql_struct,eqt_in n c hx hx1 hy hy1 ha ha1 hb hb1];rfl
theorem neqt_run{x x1 y y1 a a1 b b1:Nat}(n c:Bool)(hx:x<2^256)(hx1:x1<2^256)(hy:y<2^256)(hy1:y1<2^256)(ha:a<2^256)(ha1:a1<2^256)(hb:b<2^256)(hb1:b1<2^256)(w:World):(binOp BinOp.neq 47 (.agg (tc x x1 y y1 n)) (.agg (tc a a1 b b1 c))).run Tryz.prog w=.ok (.bool (!decide ((x=a/\x1=a1)/\(y=b/\y1=b1)/\n=c))) w:=by
 rw[run_neq_struct,eqt_in n c hx hx1 hy hy1 ha ha1 hb hb1];rfl
open Go.ChangeShapes Go.WideShapes Go.ChangeAt Go.RowKit
theorem cellsBool:Tryz.prog.cellsOf 4=1:=by kernel_rfl
theorem lst4{α:Type}{l:List α}(h:l.length=4):∃ a b c d,l=[a,b,c,d]:=by
 match l,h with
 | [a,b,c,d],_=>exact⟨a,b,c,d,rfl⟩
theorem pw_trod{H:Type}{enc:TypeId × Value->H}{W:World}{b2:Nat}{sp:Nat->Bool}{hd:Bool}{fuel:Nat}{cs:List Value}{x:DataW H × List MemPlace}(hl:cs.length=4)(hf:DataW.trod enc Tryz.prog W b2 sp hd fuel 24 cs=some x) :
  ∃ n,cs=(pw n).toList/\n<2^256:=by
 obtain⟨c0,c1,c2,c3,rfl⟩:=lst4 hl;obtain⟨y0,y1,y2,y3,m,hx,hy0,hy1,hy2,hy3⟩:=trod_array4 Tryz.underlying24 cellsU64 hf;obtain⟨x0,e0,rfl,w0⟩:=DataW.trod_int Tryz.underlying22 hy0;obtain⟨x1,e1,rfl,w1⟩:=DataW.trod_int Tryz.underlying22 hy1;obtain⟨x2,e2,rfl,w2⟩:=DataW.trod_int Tryz.underlying22 hy2;obtain⟨x3,e3,rfl,w3⟩:=DataW.trod_int Tryz.underlying22 hy3;simp at e0 e1 e2 e3;subst e0 e1 e2 e3;obtain⟨n0,l0,rfl⟩:=nat_of_wf w0;obtain⟨n1,l1,rfl⟩:=nat_of_wf w1;obtain⟨n2,l2,rfl⟩:=nat_of_wf w2;obtain⟨n3,l3,rfl⟩:=nat_of_wf w3;have e:wv (n4 n0 n1 n2 n3)=.agg (pw (n4 n0 n1 n2 n3)):=wv_pw _;rw[wv_n4 l0 l1 l2 l3]at e;injection e with e
 refine⟨n4 n0 n1 n2 n3,by rw[<- e],?_⟩;unfold n4;omega
theorem bool_trod{H:Type}{enc:TypeId × Value->H}{W:World}{b2:Nat}{sp:Nat->Bool}{hd:Bool}{fuel:Nat}{cs:List Value}{x:DataW H × List MemPlace}(hf:DataW.trod enc Tryz.prog W b2 sp hd fuel 4 cs=some x):∃ n,cs=[.bool n]:=by
 obtain⟨b,h,_⟩:=DataW.trod_bool Tryz.underlying4 hf;exact⟨b,h⟩
open Go.ChangeShapes Go.WideShapes Go.ChangeAt Go.RowKit
theorem cellsTwist:Tryz.prog.cellsOf 47=17:=by kernel_rfl
theorem cellsF2':Tryz.prog.cellsOf 38=8:=by kernel_rfl
theorem f2_trod{H:Type}{enc:TypeId × Value->H}{W:World}{b2:Nat}{sp:Nat->Bool}{hd:Bool}{fuel:Nat}{cs:List Value}{x:DataW H × List MemPlace}(hl:cs.length=8)(hf:DataW.trod enc Tryz.prog W b2 sp hd fuel 38 cs=some x) :
  ∃ a b,cs=(pw a++pw b).toList/\a<2^256/\b<2^256:=by
 cases fuel with
 | zero=>simp[DataW.trod]at hf
 | succ fuel =>
  simp only[DataW.trod,Tryz.underlying38,cellsWord]at hf
  split at hf
  ·obtain⟨xs,hm,hx⟩:=Option.map_eq_some_iff.1 hf
   obtain⟨_,_,h0⟩:=Lib.mapM_at hm 0 0 (by rw[List.getElem?_range (by omega)]);obtain⟨_,_,h1⟩:=Lib.mapM_at hm 1 1 (by rw[List.getElem?_range (by omega)]);obtain⟨a,ea,la⟩:=pw_trod (by simp[hl]) h0;obtain⟨b,eb,lb⟩:=pw_trod (by simp[hl]) h1;refine⟨a,b,?_,la,lb⟩;have e:cs=cs.take 4++(cs.drop 4).take 4:=by
    have e1:(cs.drop 4).take 4=cs.drop 4:=List.take_of_length_le (by simp[hl]);rw[e1,List.take_append_drop]
   rw[Nat.zero_mul,List.drop_zero]at ea;rw[Nat.one_mul]at eb;rw[e,ea,eb,Array.toList_append]
  ·cases hf
theorem tc_trod{H:Type}{enc:TypeId × Value->H}{W:World}{b2:Nat}{sp:Nat->Bool}{hd:Bool}{fuel:Nat}{cs:List Value}{x:DataW H × List MemPlace}(hl:cs.length=17)(hf:DataW.trod enc Tryz.prog W b2 sp hd fuel 47 cs=some x) :
  ∃ a a1 b b1 n,cs=(tc a a1 b b1 n).toList/\a<2^256/\a1<2^256/\b<2^256/\b1<2^256:=by
 obtain⟨y0,y1,y2,n,_,_,h0,h1,h2⟩:=Go.Deep.trod_struct3 Tryz.underlying47 hf;have h0:DataW.trod enc Tryz.prog W b2 sp hd n 38 ((cs.drop 0).take (Tryz.prog.cellsOf 38))=some y0:=h0;have h1:DataW.trod enc Tryz.prog W b2 sp hd n 38 ((cs.drop 8).take (Tryz.prog.cellsOf 38))=some y1:=h1;have h2:DataW.trod enc Tryz.prog W b2 sp hd n 4 ((cs.drop 16).take (Tryz.prog.cellsOf 4))=some y2:=h2;rw[cellsF2']at h0 h1;rw[cellsBool]at h2;obtain⟨a,a1,ea,la,la1⟩:=f2_trod (by simp[hl]) h0;obtain⟨b,b1,eb,lb,lb1⟩:=f2_trod (by simp[hl]) h1;obtain⟨t,et⟩:=bool_trod h2;refine⟨a,a1,b,b1,t,?_,la,la1,lb,lb1⟩;have e:cs=cs.take 8++((cs.drop 8).take 8++(cs.drop 16).take 1):=by
  have e1:(cs.drop 16).take 1=cs.drop 16:=List.take_of_length_le (by simp[hl]);rw[e1,show cs.drop 16=(cs.drop 8).drop 8 by rw[List.drop_drop],List.take_append_drop,List.take_append_drop]
 rw[e,eb,et];rw[List.drop_zero]at ea;rw[ea];simp[tc]
theorem open_tw{H:Type}{enc:TypeId × Value->H}{W:World}{base b2:Nat}{sp:Nat->Bool}{hd:Bool}{v:Value}{d:DataW H}{ps:List MemPlace}
  (hv:Value.okWide Tryz.prog W .any base 47 v) (h:DataW.Trod enc Tryz.prog W b2 sp hd 47 v d ps):∃ a a1 b b1 n,v=.agg (tc a a1 b b1 n)/\a<2^256/\a1<2^256/\b<2^256/\b1<2^256:=by
 obtain⟨cs,rfl,hsz,_⟩:∃ cs,v=.agg cs/\cs.size=Tryz.prog.cellsOf 47/\Row.okWide Tryz.prog W .any base 47 cs:=by
  simpa[Value.okWide,Tryz.underlying47]using hv
 obtain⟨fuel,hf⟩:=h;rw[cellsTwist]at hsz;obtain⟨a,a1,b,b1,n,e,ls⟩:=tc_trod (cs:=cs.toList) (by simpa using hsz) hf;refine⟨a,a1,b,b1,n,?_,ls⟩;have:cs=tc a a1 b b1 n:=by
  apply Array.ext';exact e
 rw[this]
end Go.Proofs.YtadfjjfklihaaaaGreat
namespace Go.Proofs.YtadfjjfklihaaaaGreat.Sy
open Go.RowKit
structure Ef where
 d:Option (Nat × Option SV)
 R:Rows
 st:Option (Nat × SV)
def SV.ids:SV->List Nat
 | .p g _ _ _=>[g]
 | .s g _ _ _=>[g]
 | .fv _ g=>[g]
 | .ap h t=>h.ids++t.ids
 | .tu x y=>x.ids++y.ids
 | .gd _ x=>x.ids
 | .fn _ _ x=>x.ids
 | _=>[]
def forceN{α:Type}(m:Nat)(k:Nat->α):α:=match m with
 | 0=>k 0
 | n+1=>k (n+1)
def lookN:List (Nat × Nat)->Nat->Nat
 | [],_=>0
 | p::l,t=>if p.1=t then p.2 else lookN l t
def maskOf(acc:List (Nat × Nat)):List Edge->Nat
 | []=>0
 | e::es=>if Region.binds .any e=true then ((1 <<< e.on) ||| lookN acc e.on) ||| maskOf acc es else maskOf acc es
def masksA:List Oper->Nat->List (Nat × Nat)->List (Nat × Nat)
 | [],_,acc=>acc
 | o::l,i,acc=>masksA l (i+1) ((i,maskOf acc o.after.toList)::acc)
def masksK{α:Type}:List Oper->Nat->List (Nat × Nat)->(List (Nat × Nat)->α)->α
 | [],_,acc,k=>k acc
 | o::l,i,acc,k=>forceN (maskOf acc o.after.toList) fun m=>masksK l (i+1) ((i,m)::acc) k
def curD(D:Nat->Bool)(g:Nat):Nat->List Ef->SV->SV
 | _,[],c=>c
 | i,e::l,c=>curD D g (i+1) l (match e.st with
  | some q=>if q.1=g/\D i=true then q.2 else c
  | none=>c)
def madeD(D:Nat->Bool):Nat->List Ef->Rows
 | _,[]=>[]
 | i,e::l=>(if D i=true then e.R else [])++madeD D (i+1) l
def rowsD(D:Nat->Bool)(es:List Ef)(M:Rows):Rows:=(madeD D 0 es++M).map fun r=>(r.1,curD D r.1 0 es r.2.1,r.2.2)
def stableB(m g:Nat):Nat->List Ef->Bool
 | _,[]=>true
 | i,e::l=>(match e.st with
  | some q=>q.1 != g||m.testBit i
  | none=>true)&&stableB m g (i+1) l
def readsM:Op->Bool
 | .load _ _=>true
 | .store _ _ _=>true
 | .call _=>true
 | _=>false
def keepR(lk:Nat->Option SV):Op->Nat->Bool
 | .load _ x,g=>match opnd lk x with
  | some (.p h _ _ _)=>h == g
  | _=>true
 | .store _ x _,g=>match opnd lk x with
  | some (.p h _ _ _)=>h == g
  | _=>true
 | _,_=>true
def seenM(m:Nat)(o:Oper)(lk:Nat->Option SV)(es:List Ef)(M:Rows):Rows:=if readsM o.op=true then (rowsD (fun i=>m.testBit i) es M).filter fun r=>stableB m r.1 0 es&&keepR lk o.op r.1 else []
def dstIx:List Oper->Nat->Option Nat
 | [],_=>none
 | o::l,t=>if o.dst=some t then some 0 else (dstIx l t).map (·+1)
def lkW(l:List Oper)(m:Nat)(es:List Ef)(S:List (Nat × Option SV))(t:Nat):Option SV:=match dstIx l t with
 | none=>look S t
 | some j=>if m.testBit j=true then (es[j]?).bind fun e=>e.d.bind (·.2)else none
def mkEf(E:Env)(N nx d:Nat)(lk:Nat->Option SV)(M:Rows)(op:Op):Option (Ef × List Ob):=match E.mkr nx M lk op with
 | some (r,p,R)=>if d<N then some (⟨some (d,some r),R,none⟩,p)else none
 | none=>none
def effGo(E:Env)(N nx:Nat)(lk:Nat->Option SV)(M:Rows)(o:Oper):Option (Ef × List Ob) :=
 match o.op,o.dst with
 | .store T x y,none=>match opnd lk x,opnd lk y,tyIn T E.tys with
  | some (.p g off _ z),some v,some ty=>if z=0/\v.plain=true/\v.size=ty.sz then match rowIn g M with
   | some r=>(SV.put v off r.1).map fun c=>(⟨none,[],some (g,c)⟩,[])
   | none=>none
   else none
  | _,_,_=>none
 | .alloc T,some d=>match tyIn T E.tys with
  | some ty=>if d<N then some (⟨some (d,some (.p nx 0 0 0)),[(nx,ty.zero,T)],none⟩,[])else none
  | none=>none
 | .box T x,some d=>match opnd lk x with
  | some v=>if d<N/\v.plain=true then some (⟨some (d,some (.p nx 0 0 0)),[(nx,v,T)],none⟩,[])else none
  | none=>none
 | .buildSlice T n parts,some d=>match bsIn T n E.bss,partsOf lk parts.toList with
  | some b,some l=>if d<N/\l.all (fun x=>decide (x.1<n)&&(x.2.one||x.2.many))=true then match fillS ((List.range n).map fun i=>(i*b.sz,b.sz)) b.zs l with
   | some r=>some (⟨some (d,some (.s nx 0 n n)),[(nx,r,b.e)],none⟩,[])
   | none=>none
   else none
  | _,_=>none
 | .call c,some d=>match c.callee with
  | .value _=>match callX lk c with
   | some (f,l)=>match E.ctr f nx M l with
    | some (r,p,R)=>if d<N then some (⟨some (d,some r),R,none⟩,p)else none
    | none=>none
   | none=>none
  | _=>match opVal E lk M (.call c)with
   | some (r,p)=>if d<N then some (⟨some (d,some r),[],none⟩,p)else none
   | none=>mkEf E N nx d lk M (.call c)
 | op,some d=>match opVal E lk M op with
  | some (r,p)=>if d<N then some (⟨some (d,some r),[],none⟩,p)else none
  | none=>mkEf E N nx d lk M op
 | _,_=>none
def effAt(E:Env)(N nx:Nat)(gs:Option SV)(lk:Nat->Option SV)(M:Rows)(o:Oper):Option (Ef × List Ob):=match o.guard with
 | none=>effGo E N nx lk M o
 | some (_,b)=>match gs with
  | some (.v (.bool t))=>if t=b then effGo E N nx lk M o else match o.dst with
   | some d=>if d<N then some (⟨some (d,none),[],none⟩,[])else none
   | none=>some (⟨none,[],none⟩,[])
  | some gx=>match gEff b gx,effGo E N nx (lkG lk (tmpsOf o)) M o with
   | some e,some (⟨some (d,some x),[],none⟩,p)=>if x.lt (nx+8)=true then some (⟨some (d,some (.gd e x)),[],none⟩,underG e p++condG e lk (tmpsOf o))else none
   | _,_=>none
  | none=>none
def gsl(l:List Oper)(lk:Nat->Option SV)(o:Oper):Option SV:=o.guard.bind fun q=>((l[q.1]?).bind (·.dst)).bind lk
def idOk(n0 k m g:Nat):Bool:=decide (g<n0)||(decide ((g - n0) / 8=k)||m.testBit ((g - n0) / 8))
def usedBy(l:List Oper)(ms:List (Nat × Nat))(es:List Ef)(S:List (Nat × Option SV))(M:Rows)(g i:Nat):Bool:=match l[i]? with
 | some o=>(seenM (lookN ms i) o (lkW l (lookN ms i) (es.take i) S) (es.take i) M).any fun r=>r.1 == g
 | none=>false
def okEf(n0:Nat)(l:List Oper)(ms:List (Nat × Nat))(es:List Ef)(S:List (Nat × Option SV))(M:Rows)(k:Nat)(e:Ef):Bool :=
 ((match e.d with
  | some (_,some x)=>x.ids.all (idOk n0 k (lookN ms k))
  | _=>true)&&e.R.all fun r=>r.2.1.ids.all (idOk n0 k (lookN ms k)))&&(decide (e.R.length<=8)&&match e.st with
  | some (g,c)=>c.ids.all (idOk n0 k (lookN ms k))&&(List.range k).all fun i=>!usedBy l ms es S M g i||(lookN ms k).testBit i
  | none=>true)
def passX(E:Env)(N:Nat)(l:List Oper)(ms:List (Nat × Nat))(s:St):List Oper->List Ef->List Ob->Option (List Ef × List Ob)
 | [],es,ps=>some (es,ps)
 | o::r,es,ps=>match effAt E N (s.n+8*es.length) (gsl l (lkW l (lookN ms es.length) es s.S) o) (lkW l (lookN ms es.length) es s.S) (seenM (lookN ms es.length) o (lkW l (lookN ms es.length) es s.S) es s.M) o with
  | some (e,p)=>if okEf s.n l ms es s.S s.M es.length e=true then passX E N l ms s r (es++[e]) (ps++p)else none
  | none=>none
def slotsE:List Ef->List (Nat × Option SV)
 | []=>[]
 | e::l=>match e.d with
  | some p=>p::slotsE l
  | none=>slotsE l
def afterD(es:List Ef)(s:St):St:=⟨slotsE es++s.S,rowsD (fun _=>true) es s.M,s.n+8*es.length⟩
def nodupB:List Nat->Bool
 | []=>true
 | x::l=>!l.contains x&&nodupB l
def drawX(E:Env)(N:Nat)(l:List Oper)(s:St)(k:St->Tr):Tr:=masksK l 0 [] fun ms=>match passX E N l ms s l [] []with
 | some (es,ps)=>if distinctB l=true/\rankB l.toArray (fun i=>i)=true/\nodupB ((rowsD (fun _=>true) es s.M).map (·.1))=true then needs ps (k (afterD es s))else .bad
 | none=>.bad
/-! The tables. -/
section
variable {E:Env} {γ0 γ γs δ:Pl} {N nx:Nat} {w0 ws w w' wx:World} {s:St} {a a0:Act} {o:Oper} {l:List Oper} {es:List Ef} {D D':Nat->Bool}
theorem forceN_eq{α:Type}(m:Nat)(k:Nat->α):forceN m k=k m:=by cases m <;> rfl
theorem masksK_eq{α:Type}:∀(l:List Oper) (i:Nat) (acc:List (Nat × Nat)) (k:List (Nat × Nat)->α),masksK l i acc k=k (masksA l i acc)
 | [],_,_,_=>rfl
 | o::l,i,acc,k=>by
  unfold masksK masksA;rw[forceN_eq];exact masksK_eq l (i+1) _ k
theorem mask_spec{acc:List (Nat × Nat)}{j:Nat}:∀ {es:List Edge},(maskOf acc es).testBit j=true->∃ e∈es,Region.binds .any e=true/\(j=e.on\/(lookN acc e.on).testBit j=true)
 | [],h=>by simp[maskOf]at h
 | e::es,h=>by
  unfold maskOf at h
  split at h
  ·rename_i hb
   rw[Nat.testBit_or,Nat.testBit_or,Bool.or_eq_true,Bool.or_eq_true]at h;rcases h with(h | h) | h
   ·refine⟨e,.head _,hb,.inl ?_⟩
    rw[Nat.shiftLeft_eq,Nat.one_mul,Nat.testBit_two_pow]at h;exact(of_decide_eq_true h).symm
   ·exact⟨e,.head _,hb,.inr h⟩
   ·obtain⟨e',h1,h2⟩:=mask_spec h
    exact⟨e',.tail _ h1,h2⟩
  ·obtain⟨e',h1,h2⟩:=mask_spec h
   exact⟨e',.tail _ h1,h2⟩
theorem masks_keep:∀ {l:List Oper} {i:Nat} {acc:List (Nat × Nat)} {t:Nat},t<i->lookN (masksA l i acc) t=lookN acc t
 | [],_,_,_,_=>rfl
 | o::l,i,acc,t,h=>by
  unfold masksA;rw[masks_keep (Nat.lt_succ_of_lt h)];show(if i=t then _ else _)=_;rw[if_neg (Nat.ne_of_gt h)]
theorem masks_spec:∀ {l:List Oper} {i:Nat} {acc:List (Nat × Nat)},(∀ t,i<=t->lookN acc t=0)->∀(k:Nat) o,l[k]?=some o->∀ j,(lookN (masksA l i acc) (i+k)).testBit j=true->∃ e∈o.after,Region.binds .any e=true/\(j=e.on\/(lookN (masksA l i acc) e.on).testBit j=true)
 | [],_,_,_,k,o,h,_,_=>by cases h
 | o::l,i,acc,h0,0,o',h,j,hj=>by
  cases h;unfold masksA at hj |-
  have hj:(lookN (masksA l (i+1) ((i,maskOf acc o.after.toList)::acc)) i).testBit j=true:=hj;rw[masks_keep (show i<i+1 by omega)]at hj;have hj':(maskOf acc o.after.toList).testBit j=true:=by
   have e:lookN ((i,maskOf acc o.after.toList)::acc) i=maskOf acc o.after.toList:=by
    show(if i=i then _ else _)=_;rw[if_pos rfl]
   rwa [e]at hj
  obtain⟨e,h1,h2,h3⟩:=mask_spec hj';refine⟨e,by simpa using h1,h2,h3.imp id fun h4=>?_⟩;rcases Nat.lt_or_ge e.on i with hlt | hge
  ·rw[masks_keep (Nat.lt_succ_of_lt hlt)]
   show(if i=e.on then _ else lookN acc e.on).testBit j=true;rw[if_neg (Nat.ne_of_gt hlt)];exact h4
  ·rw[h0 _ hge]at h4
   simp at h4
 | o::l,i,acc,h0,k+1,o',h,j,hj=>by
  unfold masksA at hj |-
  rw[show i+(k+1)=i+1+k by omega]at hj;exact masks_spec (i:=i+1) (fun t ht=>by
   show(if i=t then _ else lookN acc t)=0;rw[if_neg (by omega),h0 t (by omega)]) k o' (by simpa using h) j hj
theorem SV.ids_same{γ δ:Pl}:∀ {x:SV},(∀ g∈x.ids,γ g=δ g)->x.sc γ=x.sc δ/\x.cells γ=x.cells δ/\x.val γ=x.val δ
 | .w _,_ | .e,_ | .b _,_ | .i _ _,_ | .na _,_ | .v _,_=>⟨rfl,rfl,rfl⟩
 | .p g _ _ _,h=>by
  have hg:=h g (.head _);refine⟨?_,?_,?_⟩ <;> simp only[SV.sc,SV.cells,SV.val,hg]
 | .s g _ _ _,h=>by
  have hg:=h g (.head _);refine⟨?_,?_,?_⟩ <;> simp only[SV.sc,SV.cells,SV.val,hg]
 | .fv _ g,h=>by
  have hg:=h g (.head _);refine⟨?_,?_,?_⟩ <;> simp only[SV.sc,SV.cells,SV.val,hg]
 | .ap a t,h=>by
  obtain⟨_,h1,_⟩:=ids_same (x:=a) fun g hg=>h g (List.mem_append_left _ hg);obtain⟨_,h2,_⟩:=ids_same (x:=t) fun g hg=>h g (List.mem_append_right _ hg);refine⟨rfl,?_,?_⟩
  ·simp only[SV.cells,h1,h2]
  ·simp only[SV.val,h1,h2]
 | .tu a t,h=>by
  obtain⟨_,_,h1⟩:=ids_same (x:=a) fun g hg=>h g (List.mem_append_left _ hg);obtain⟨_,_,h2⟩:=ids_same (x:=t) fun g hg=>h g (List.mem_append_right _ hg);exact⟨rfl,rfl,by simp only[SV.val,h1,h2]⟩
 | .gd t x,h=>by
  obtain⟨_,_,h1⟩:=ids_same (x:=x) h;exact⟨rfl,rfl,by simp only[SV.val,h1]⟩
 | .fn _ _ x,h=>by
  obtain⟨_,_,h1⟩:=ids_same (x:=x) h;exact⟨rfl,rfl,by simp only[SV.val,h1]⟩
theorem SV.lt_ids{n:Nat}:∀ {x:SV},x.lt n=true->∀ g∈x.ids,g<n
 | .w _,_,g,h | .e,_,g,h | .b _,_,g,h | .i _ _,_,g,h | .na _,_,g,h | .v _,_,g,h=>by cases h
 | .p _ _ _ _,hl,g,h=>by
  cases h with
  | head=>exact of_decide_eq_true hl
  | tail _ h=>cases h
 | .s _ _ _ _,hl,g,h=>by
  cases h with
  | head=>exact of_decide_eq_true hl
  | tail _ h=>cases h
 | .fv _ _,hl,g,h=>by
  cases h with
  | head=>exact of_decide_eq_true hl
  | tail _ h=>cases h
 | .ap a t,hl,g,h=>by
  simp only[SV.lt,Bool.and_eq_true]at hl;rcases List.mem_append.1 h with h | h
  ·exact lt_ids hl.1 g h
  ·exact lt_ids hl.2 g h
 | .tu a t,hl,g,h=>by
  simp only[SV.lt,Bool.and_eq_true]at hl;rcases List.mem_append.1 h with h | h
  ·exact lt_ids hl.1 g h
  ·exact lt_ids hl.2 g h
 | .gd t x,hl,g,h=>lt_ids (x:=x) hl g h
 | .fn _ _ x,hl,g,h=>lt_ids (x:=x) hl g h
theorem made_mem{r:Nat × SV × TypeId}:∀ {es:List Ef} {i:Nat},r∈madeD D i es↔∃(j:Nat) (e:Ef),es[j]?=some e/\D (i+j)=true/\r∈e.R
 | [],i=>⟨fun h=>(by cases h),fun⟨j,e,h,_⟩=>(by cases h)⟩
 | e::es,i=>by
  unfold madeD;rw[List.mem_append];refine⟨fun h=>?_,fun⟨j,e',h1,h2,h3⟩=>?_⟩
  ·rcases h with h | h
   ·split at h
    ·rename_i hd
     exact⟨0,e,rfl,hd,h⟩
    ·cases h
   ·obtain⟨j,e',h1,h2,h3⟩:=made_mem.1 h
    exact⟨j+1,e',by simpa using h1,by rw[show i+(j+1)=i+1+j by omega];exact h2,h3⟩
  ·cases j with
   | zero =>
    cases h1;rw[Nat.add_zero]at h2;exact .inl (by rw[if_pos h2];exact h3)
   | succ j=>exact .inr (made_mem.2 ⟨j,e',by simpa using h1,by rw[show i+1+j=i+(j+1) by omega];exact h2,h3⟩)
theorem cur_ext{g:Nat}:∀ {es:List Ef} {i:Nat} {c:SV},(∀(j:Nat) (e:Ef) q,es[j]?=some e->e.st=some q->q.1=g->D (i+j)=D' (i+j))->curD D g i es c=curD D' g i es c
 | [],_,_,_=>rfl
 | e::es,i,c,h=>by
  unfold curD;have hx:(match e.st with
    | some q=>if q.1=g/\D i=true then q.2 else c
    | none=>c)=(match e.st with
    | some q=>if q.1=g/\D' i=true then q.2 else c
    | none=>c):=by
   cases hs:e.st with
   | none=>rfl
   | some q =>
    dsimp only;by_cases hq:q.1=g
    ·have:=h 0 e q rfl hs hq
     rw[Nat.add_zero]at this;rw[this]
    ·rw[if_neg (fun c=>hq c.1),if_neg (fun c=>hq c.1)]
  rw[hx];exact cur_ext fun j e' q h1 h2 h3=>by
   have:=h (j+1) e' q (by simpa using h1) h2 h3;rwa [show i+(j+1)=i+1+j by omega]at this
theorem cur_take{g:Nat}:∀ {es:List Ef} {i k:Nat} {c:SV},curD D g i (es.take k) c=curD (fun j=>D j&&decide (j<i+k)) g i es c
 | [],_,_,_=>by rw[List.take_nil];rfl
 | e::es,i,0,c=>by
  rw[List.take_zero];have:∀(es:List Ef) (m:Nat) (c:SV),i<=m->curD (fun j=>D j&&decide (j<i+0)) g m es c=c:=by
   intro es
   induction es with
   | nil=>intro m c _;rfl
   | cons e es ih =>
    intro m c hm;unfold curD;rw[ih _ _ (Nat.le_succ_of_le hm)];cases hs:e.st with
    | none=>rfl
    | some q =>
     dsimp only;rw[if_neg];intro h;have h2:=h.2;rw[Bool.and_eq_true]at h2;have:=of_decide_eq_true h2.2;omega
  exact(this _ _ _ (Nat.le_refl _)).symm
 | e::es,i,k+1,c=>by
  rw[List.take_succ_cons];unfold curD;rw[cur_take (es:=es)];have e1:(fun j=>D j&&decide (j<i+1+k))=fun j=>D j&&decide (j<i+(k+1)):=by
   funext j
   rw[show i+1+k=i+(k+1) by omega]
  rw[e1];congr 1;cases hs:e.st with
  | none=>rfl
  | some q =>
   dsimp only;have:(D i&&decide (i<i+(k+1)))=D i:=by rw[decide_eq_true (by omega),Bool.and_true]
   rw[this]
theorem cur_mem{g:Nat}:∀ {es:List Ef} {i:Nat} {c:SV},curD D g i es c=c\/∃(j:Nat) (e:Ef),es[j]?=some e/\D (i+j)=true/\e.st=some (g,curD D g i es c)
 | [],_,_=>.inl rfl
 | e::es,i,c=>by
  unfold curD;rcases cur_mem (es:=es) (i:=i+1) (c:=match e.st with
    | some q=>if q.1=g/\D i=true then q.2 else c
    | none=>c)with h | ⟨j,e',h1,h2,h3⟩
  ·rw[h]
   cases hs:e.st with
   | none=>exact .inl rfl
   | some q =>
    dsimp only;by_cases hq:q.1=g/\D i=true
    ·rw[if_pos hq]
     exact .inr ⟨0,e,rfl,hq.2,by rw[hs,<- hq.1]⟩
    ·rw[if_neg hq]
     exact .inl rfl
  ·exact .inr ⟨j+1,e',by simpa using h1,by rw[show i+(j+1)=i+1+j by omega];exact h2,h3⟩
theorem cur_last{g:Nat}{c':SV}:∀ {es:List Ef} {i k:Nat} {c:SV} {e:Ef},es[k]?=some e->e.st=some (g,c')->D (i+k)=true->(∀(j:Nat) (f:Ef) q,k<j->es[j]?=some f->f.st=some q->q.1=g->D (i+j)=false)->curD D g i es c=c'
 | [],_,_,_,_,h,_,_,_=>by cases h
 | f::es,i,0,c,e,h,hs,hd,hn=>by
  cases h;unfold curD;rw[hs];dsimp only;rw[if_pos ⟨rfl,hd⟩];have:curD D g (i+1) es c'=curD (fun _=>false) g (i+1) es c':=cur_ext fun j f q h1 h2 h3=>by
   have:=hn (j+1) f q (Nat.succ_pos _) (by simpa using h1) h2 h3;rwa [show i+(j+1)=i+1+j by omega]at this
  rw[this];rcases cur_mem (D:=fun _=>false) (g:=g) (es:=es) (i:=i+1) (c:=c')with h | ⟨_,_,_,h,_⟩
  ·exact h
  ·cases h
 | f::es,i,k+1,c,e,h,hs,hd,hn=>by
  unfold curD;refine cur_last (k:=k) (by simpa using h) hs (by rw[show i+1+k=i+(k+1) by omega];exact hd) fun j f' q hj h1 h2 h3=>?_;have:=hn (j+1) f' q (Nat.succ_lt_succ hj) (by simpa using h1) h2 h3;rwa [show i+(j+1)=i+1+j by omega]at this
theorem stable_spec{m g:Nat}:∀ {es:List Ef} {i:Nat},stableB m g i es=true->∀(j:Nat) (e:Ef) q,es[j]?=some e->e.st=some q->q.1=g->m.testBit (i+j)=true
 | [],_,_,_,_,_,h,_,_=>by cases h
 | f::es,i,hB,0,e,q,h,hs,hq=>by
  cases h;unfold stableB at hB;rw[Bool.and_eq_true,hs]at hB;have:=hB.1;dsimp only at this;rw[Bool.or_eq_true]at this;rcases this with h | h
  ·rw[hq]at h;simp at h
  ·exact h
 | f::es,i,hB,j+1,e,q,h,hs,hq=>by
  unfold stableB at hB;rw[Bool.and_eq_true]at hB;have:=stable_spec hB.2 j e q (by simpa using h) hs hq;rwa [show i+(j+1)=i+1+j by omega]
theorem dstIx_none:∀ {l:List Oper} {t:Nat},dstIx l t=none->∀(i:Nat) o,l[i]?=some o->o.dst≠some t
 | [],_,_,_,_,h=>by cases h
 | o::l,t,h,i,o',hi=>by
  unfold dstIx at h
  split at h
  ·cases h
  ·rename_i e
   cases i with
   | zero=>cases hi;exact e
   | succ i=>exact dstIx_none (l:=l) (by cases hq:dstIx l t with
    | none=>rfl
    | some j=>rw[hq]at h;cases h) i o' (by simpa using hi)
theorem dstIx_some:∀ {l:List Oper} {t j:Nat},dstIx l t=some j->∃ o,l[j]?=some o/\o.dst=some t
 | [],_,_,h=>by cases h
 | o::l,t,j,h=>by
  unfold dstIx at h
  split at h
  ·rename_i e
   cases h;exact⟨o,rfl,e⟩
  ·cases hq:dstIx l t with
   | none=>rw[hq]at h;cases h
   | some i =>
    rw[hq]at h;cases h;obtain⟨q,h1,h2⟩:=dstIx_some hq;exact⟨q,by simpa using h1,h2⟩
end
end Go.Proofs.YtadfjjfklihaaaaGreat.Sy
