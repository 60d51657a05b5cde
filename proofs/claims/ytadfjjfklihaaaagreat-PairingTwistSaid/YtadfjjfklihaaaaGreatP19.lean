/- What field.New and the reference's Is come to; words compared. (Cut to what is reached, written closely: SyAr · SyEq · FPin · FNeg · FMdl · QL · FNew.) -/
import Derived.Test.YtadfjjfklihaaaaGreatP18
import Derived.Test.YtadfjjfklihaaaaGreatP15
import Derived.Test.YtadfjjfklihaaaaGreatP2
import Derived.Test.YtadfjjfklihaaaaGreatP13
import Derived.Deep.DeepCutAuto
set_option linter.all false
set_option maxRecDepth 100000
set_option maxHeartbeats 8000000
namespace Go.Proofs.YtadfjjfklihaaaaGreat.Sy
open Go.RowKit
structure Ar where
 T:TypeId
 n:Nat
 e:TypeId
 sz:Nat
 m:Bool
 zero:SV
structure Ar.Good (P:Program) (y:Ar):Prop where
 u:P.underlying y.T=some (.array y.n y.e)
 sz:(P.info? y.e).map (·.size)=some y.sz
 d:(P.underlying y.e).map isRow=some y.m
 zero:((P.info? y.T).bind (·.zero)).map (·.cells)=some (y.zero.cells fun _=>0).toArray
 zlt:y.zero.lt 0=true
 zok:y.zero.ok
def arIn(T:TypeId):List Ar->Option Ar
 | []=>none
 | y::l=>if y.T=T then some y else arIn T l
theorem arIn_ok{T:TypeId}{y:Ar}:∀ {l:List Ar},arIn T l=some y->y∈l/\y.T=T
 | [],h=>by cases h
 | z::l,h=>by
  unfold arIn at h
  split at h
  ·cases h;rename_i e;exact⟨.head _,e⟩
  ·have:=arIn_ok h;exact⟨.tail _ this.1,this.2⟩
def idxA(l:List Ar)(T:TypeId)(x y:SV):Option SV:=match arIn T l,natS y with
 | some q,some i=>if i<q.n/\x.many=true then SV.sub q.m (i*q.sz) q.sz x else none
 | _,_=>none
theorem part_ok{P:Program}{γ:Pl}{wx:World}{e:TypeId}{m:Bool}{off sz:Nat}{x r:SV}(hd:(P.underlying e).map isRow=some m)(hs:(P.info? e).map (·.size)=some sz)(h:SV.sub m off sz x=some r) :
  (part e (x.cells γ).toArray off).run P wx=.ok (r.val γ) wx:=by
 have q:=SV.sub_ok γ h;obtain⟨d,hu,hm⟩:=desc_of hd;have hl:=SV.cells_len γ r;have hag:(isAgg e).run P wx=.ok m wx:=by
  unfold isAgg;rw[Sem.run_bind,run_underlying hu wx];subst hm;cases d <;> rfl
 have hsz:(sizeOf e).run P wx=.ok sz wx:=by
  cases hi:P.info? e with
  | none=>rw[hi]at hs;cases hs
  | some i =>
   rw[hi]at hs;cases hs;simp[sizeOf,typeInfo,hi]
 unfold part;rw[Sem.run_bind,hag];cases m with
 | true =>
  have ex:List.take sz (List.drop off (x.cells γ))=r.cells γ:=by
   apply List.ext_getElem?;intro j;rw[List.getElem?_take];by_cases hj:j<sz
   ·rw[if_pos hj,List.getElem?_drop,q.cells j hj]
   ·rw[if_neg hj,List.getElem?_eq_none (by rw[hl,q.size];omega)]
  have hv:r.val γ=.agg (r.cells γ).toArray:=SV.val_many q.kind;simp[hsz,ex,hv]
 | false =>
  have ho:r.one=true:=q.kind;have h1:=SV.one_size ho;have h2:=q.cells 0 (by have:=q.size;omega);rw[SV.val_one ho,Nat.add_zero]at h2;have h3:(x.cells γ).toArray[off]?=some (r.val γ):=by simpa using h2
  simp[h3,Sem.run_pure]
theorem idxA_ok{P:Program}{l:List Ar}(hl:∀ q∈l,q.Good P){T:TypeId}{x y r:SV}{n:Nat}(h:idxA l T x y=some r)(hx:x.lt n=true)(ho:x.ok)(hy:y.ok):r.ok/\r.lt n=true/\∀ γ wx,(Instr.index T (x.val γ) (y.val γ)).run P wx=.ok (r.val γ) wx:=by
 unfold idxA at h
 split at h
 ·rename_i q i hq hi
  split at h
  ·rename_i hc
   obtain⟨hq',rfl⟩:=arIn_ok hq;have g:=hl q hq';have pt:=SV.sub_ok (fun _=>0) h;refine⟨pt.ok ho,pt.lt n hx,fun γ wx=>?_⟩;have hp:=part_ok (γ:=γ) (wx:=wx) g.d g.sz h;have hsz:(sizeOf q.e).run P wx=.ok q.sz wx:=by
    have hs:=g.sz;cases hi:P.info? q.e with
    | none=>rw[hi]at hs;cases hs
    | some i =>
     rw[hi]at hs;have:=Option.some.inj hs;simp[sizeOf,typeInfo,hi,this]
   rw[(natS_ok hi hy).1,SV.val_many hc.2];have h0:(0:Int)<=(i:Int)/\(i:Int)<(q.n:Int):=by omega
   simp only[Instr.index,asIntOf,Sem.run_bind,Sem.run_pure,Result.andThen_ok,run_underlying g.u,h0,and_self,if_true,hsz,Int.toNat_natCast];simpa[hsz]using hp
  ·cases h
 ·cases h
def bldA(l:List Ar)(T:TypeId)(ps:List (Nat × SV)):Option SV:=match arIn T l with
 | some q=>if ps.all (fun x=>decide (x.1<q.n)&&(x.2.one||x.2.many)&&x.2.lt 0)=true then match fillS ((List.range q.n).map fun i=>(i*q.sz,q.sz)) q.zero ps with
  | some r=>if r.many=true then some r else none
  | none=>none
  else none
 | none=>none
theorem bldA_ok{P:Program}{l:List Ar}(hl:∀ q∈l,q.Good P){T:TypeId}{ps:List (Nat × SV)}{r:SV}(h:bldA l T ps=some r)(ho:∀ x∈ps,x.2.ok):r.ok/\r.lt 0=true/\r.many=true/\∀ γ,P.built T (ps.map fun x=>(x.1,x.2.val γ))=some (r.cells γ).toArray:=by
 unfold bldA at h
 split at h
 ·rename_i q hq
  split at h
  ·rename_i hall
   split at h
   ·rename_i r' hf
    split at h
    ·rename_i hm
     cases h;obtain⟨hq',rfl⟩:=arIn_ok hq;have g:=hl q hq';have hv:=List.all_eq_true.1 hall;have hlt:∀ x∈ps,x.2.lt 0=true:=fun x hx=>by
      have:=hv x hx;simp only[Bool.and_eq_true]at this;exact this.2
     have okz:=fillS_okay (n:=0) hf (fun x hx=>⟨ho x hx,hlt x hx⟩) g.zok g.zlt;refine⟨okz.1,okz.2,hm,fun γ=>?_⟩;have hz:((P.info? q.T).bind (·.zero)).map (·.cells)=some (q.zero.cells γ).toArray:=by
      rw[<- (SV.lt_same (γ:=fun _=>0) (δ:=γ) (n:=0) (fun k hk=>absurd hk (Nat.not_lt_zero _)) g.zlt).2.1];exact g.zero
     have hfill:=fill_ok (γ:=γ) hf fun x hx=>by
      have:=hv x hx;simp only[Bool.and_eq_true]at this;exact this.1.2
     have hs:=g.sz;unfold Program.built;cases hi:P.info? q.T with
     | none=>rw[hi]at hz;cases hz
     | some it =>
      rw[hi]at hz;cases hzz:it.zero with
      | none=>rw[Option.bind_some,hzz]at hz;cases hz
      | some zv =>
       rw[Option.bind_some,hzz]at hz;have hz':zv.cells=(q.zero.cells γ).toArray:=Option.some.inj hz;cases hie:P.info? q.e with
       | none=>rw[hie]at hs;cases hs
       | some ie =>
        rw[hie]at hs;have hs':ie.size=q.sz:=Option.some.inj hs;simp only[g.u,hzz,hie,hz',hs'];refine(fill_congr fun x hx=>?_).trans hfill;obtain⟨y,hy,rfl⟩:=List.mem_map.1 hx;have h1:=hv y hy;simp only[Bool.and_eq_true,decide_eq_true_eq]at h1;simp[h1.1.1]
    ·cases h
   ·cases h
  ·cases h
 ·cases h
theorem at_arr{P:Program}{T e:TypeId}{n sz:Nat}{g o i:Nat}(hu:P.underlying T=some (.array n e))(hs:(P.info? e).map (·.size)=some sz)(hi:i<n)(w:World):(Instr.indexAt T (.pointer (some ⟨g,o,none⟩)) (.int .i64 (i:Nat))).run P w=.ok (.pointer (some ⟨g,o+i*sz,none⟩)) w:=by
 cases hq:P.info? e with
 | none=>simp[hq]at hs
 | some it =>
  have h2:it.size=sz:=by simpa[hq]using hs
  have hadd:∀ j,(⟨g,o,none⟩:Addr).add j=⟨g,o+j,none⟩:=fun j=>by unfold Addr.add;split <;> simp_all
  have h0:(0:Int)<=(i:Nat)/\((i:Nat):Int)<(n:Nat):=⟨by omega,by omega⟩
  simp[Instr.indexAt,asIntOf,Instr.sureAddr,run_underlying hu,sizeOf,typeInfo,hq,h0,h2,hadd,Result.andThen];intro h;omega
def ixaA(l:List Ar)(T:TypeId)(x y:SV):Option (SV × List Ob):=match x,arIn T l,natS y with
 | .p g o _ 0,some q,some i=>if i<q.n then some (.p g (o+i*q.sz) 0 0,[])else none
 | _,_,_=>none
theorem ixaA_ok{P:Program}{l:List Ar}(hl:∀ q∈l,q.Good P){T:TypeId}{x y r:SV}{p:List Ob}{n:Nat}(h:ixaA l T x y=some (r,p))(hx:x.lt n=true)(hy:y.ok):r.ok/\r.lt n=true/\∀ γ wx,(Instr.indexAt T (x.val γ) (y.val γ)).run P wx=.ok (r.val γ) wx:=by
 unfold ixaA at h
 split at h
 ·rename_i g o j q i hq hi
  split at h
  ·rename_i hc
   cases h;obtain⟨hq',rfl⟩:=arIn_ok hq;have gd:=hl q hq';refine⟨trivial,hx,fun γ wx=>?_⟩;rw[(natS_ok hi hy).1];show(Instr.indexAt _ (.pointer (some ⟨γ g,o+j*0,none⟩)) _).run _ _=.ok (.pointer (some ⟨γ g,o+i*q.sz+0*0,none⟩)) wx;have e:o+i*q.sz+0*0=o+i*q.sz:=by omega
   rw[Nat.mul_zero,Nat.add_zero,e];exact at_arr (g:=γ g) (o:=o) (i:=i) gd.u gd.sz hc wx
  ·cases h
 ·cases h
end Go.Proofs.YtadfjjfklihaaaaGreat.Sy
namespace Go.Proofs.YtadfjjfklihaaaaGreat.Sy
open Go.RowKit
section
variable {P:Program} {κ:IntKind} {T e:TypeId} {n k d0:Nat}
def EqT(P:Program)(κ:IntKind)(T:TypeId)(k d0:Nat):Prop:=∀(d:Nat) (la lb:List Int),la.length=k->lb.length=k->∀ w,(Op.equalIn (d+d0) T (.agg (la.map (Value.int κ)).toArray) (.agg (lb.map (Value.int κ)).toArray)).run P w=.ok (decide (la=lb)) w
theorem forIn_each(w:World)(q:Nat->Bool)(body:Nat->Option Bool × Unit->Sem (ForInStep (Option Bool × Unit))):∀ l:List Nat,
  (∀ i,i∈l->(body i (none,())).run P w=.ok (if q i then .yield (none,())else .done (some false,())) w) ->
  (forIn l (none,()) body).run P w=.ok (if l.all q then (none,())else (some false,())) w
 | [],_=>by simp[Sem.run_pure]
 | a::l,h=>by
  have h1:=h a (by simp);have h2:=forIn_each w q body l (fun i hi=>h i (by simp[hi]));rw[List.forIn_cons,Sem.run_bind,h1,Result.andThen_ok];cases hq:q a with
  | true =>
   simp only[hq,if_true,List.all_cons,Bool.true_and];exact h2
  | false=>simp[hq,Sem.run_pure]
theorem size_run(hs:(P.info? e).map (·.size)=some k)(w:World):(sizeOf e).run P w=.ok k w:=by
 cases hi:P.info? e with
 | none=>rw[hi]at hs;cases hs
 | some i =>
  rw[hi]at hs;cases hs;simp[sizeOf,typeInfo,hi]
theorem EqT.base(hT:P.underlying T=some (.array n e))(hE:P.underlying e=some (.int κ))(hs:(P.info? e).map (·.size)=some 1):EqT P κ T n 2:=fun d a b ha hb w=>by
 have hs:=size_run hs w;have hg:(isAgg e).run P w=.ok false w:=by
  unfold isAgg;rw[Sem.run_bind,run_underlying hE w];rfl
 rw[Op.equalIn];simp only[Sem.run_bind,run_underlying hT,Result.andThen_ok,hs];simp only[Std.Legacy.Range.forIn_eq_forIn_range',Std.Legacy.Range.size,Nat.sub_zero,Nat.add_sub_cancel,Nat.div_one];rw[forIn_each w (fun i=>a[i]? == b[i]?) _ (List.range' 0 n) (fun i hi=>?_)]
 ·have hd:(List.range' 0 n).all (fun i=>a[i]? == b[i]?)=decide (a=b):=by
   rw[Bool.eq_iff_iff,List.all_eq_true,decide_eq_true_iff];refine⟨fun h=>List.ext_getElem? fun i=>?_,fun h i _=>by rw[h];exact beq_self_eq_true _⟩;by_cases hi:i<n
   ·exact eq_of_beq (h i (by rw[List.mem_range'_1];omega))
   ·rw[List.getElem?_eq_none (by omega),List.getElem?_eq_none (by omega)]
  rw[hd];cases decide (a=b) <;> simp[Result.andThen,Sem.run_pure]
 ·have hin:i<n:=by
   rw[List.mem_range'_1]at hi;omega
  have p1:(a.map (Value.int κ)).toArray[i]?=some (.int κ a[i]):=by simp[ha,hin]
  have p2:(b.map (Value.int κ)).toArray[i]?=some (.int κ b[i]):=by simp[hb,hin]
  have he:(Op.equalIn (d+1) e (.int κ a[i]) (.int κ b[i])).run P w=.ok (a[i] == b[i]) w:=by
   rw[Op.equalIn];simp[Sem.run_bind,run_underlying hE,Sem.run_pure]
  have q1:a[i]?=some a[i]:=List.getElem?_eq_getElem _;have q2:b[i]?=some b[i]:=List.getElem?_eq_getElem _;simp only[Sem.run_bind,part,hg,Nat.mul_one,p1,p2,Result.andThen_ok,Bool.false_eq_true,if_false];simp[Sem.run_pure,hg,he,q1,q2];by_cases hq:a[i]=b[i] <;> simp[hq]
def subK{α:Type}(k i:Nat)(l:List α):List α:=(l.drop (i*k)).take k
theorem subK_len{α:Type}{l:List α}{i:Nat}(h:l.length=n*k)(hi:i<n):(subK k i l).length=k:=by
 have h1:i*k+k<=n*k:=by
  rw[<- Nat.succ_mul];exact Nat.mul_le_mul_right _ hi
 simp only[subK,List.length_take,List.length_drop];omega
theorem subK_ext{α:Type}{a b:List α}(ha:a.length=n*k)(hb:b.length=n*k)(h:∀ i,i<n->subK k i a=subK k i b):a=b:=by
 apply List.ext_getElem?;intro j;by_cases hj:j<n*k
 ·have hk:0<k:=Nat.pos_of_ne_zero fun e=>by
   rw[e,Nat.mul_zero]at hj;omega
  have h1:=congrArg (fun l:List α=>l[j%k]?) (h (j / k) (Nat.div_lt_of_lt_mul (by rwa [Nat.mul_comm]at hj)));have h2:j / k*k+j%k=j:=Nat.div_add_mod' j k;simpa[subK,List.getElem?_take,Nat.mod_lt _ hk,List.getElem?_drop,h2]using h1
 ·rw[List.getElem?_eq_none (by omega),List.getElem?_eq_none (by omega)]
theorem EqT.step(hT:P.underlying T=some (.array n e))(hd:(P.underlying e).map isRow=some true)(hs:(P.info? e).map (·.size)=some k)(h:EqT P κ e k d0):EqT P κ T (n*k) (d0+1):=fun d a b ha hb w=>by
 have hs:=size_run hs w;have hg:(isAgg e).run P w=.ok true w:=by
  obtain⟨t,hu,hm⟩:=desc_of hd;unfold isAgg;rw[Sem.run_bind,run_underlying hu w];cases t <;> first | rfl | cases hm
 rw[<- Nat.add_assoc,Op.equalIn];simp only[Sem.run_bind,run_underlying hT,Result.andThen_ok,hs];simp only[Std.Legacy.Range.forIn_eq_forIn_range',Std.Legacy.Range.size,Nat.sub_zero,Nat.add_sub_cancel,Nat.div_one];rw[forIn_each w (fun i=>decide (subK k i a=subK k i b)) _ (List.range' 0 n) (fun i hi=>?_)]
 ·have hd:(List.range' 0 n).all (fun i=>decide (subK k i a=subK k i b))=decide (a=b):=by
   rw[Bool.eq_iff_iff,List.all_eq_true,decide_eq_true_iff];exact⟨fun h=>subK_ext ha hb fun i hi=>of_decide_eq_true (h i (by rw[List.mem_range'_1];omega)),fun h i _=>by rw[h];exact decide_eq_true rfl⟩
  rw[hd];cases decide (a=b) <;> simp[Result.andThen,Sem.run_pure]
 ·have hin:i<n:=by
   rw[List.mem_range'_1]at hi;omega
  have px:∀ l:List Int,(l.map (Value.int κ)).toArray.extract (i*k) (i*k+k)=((subK k i l).map (Value.int κ)).toArray:=fun l=>by
   simp[subK,List.map_take,List.map_drop]
  have he:=h d _ _ (subK_len ha hin) (subK_len hb hin) w;simp only[Sem.run_bind,part,hg,hs,Result.andThen_ok,if_true,Sem.run_pure,px,he];cases hq:decide (subK k i a=subK k i b) <;> simp[Sem.run_pure]
end
def limbs(l:List Nat):List Int:=l.flatMap fun x=>[limb 0 x,limb 1 x,limb 2 x,limb 3 x]
theorem limb_ext{x y:Nat}(hx:x<2^256)(hy:y<2^256)(h0:limb 0 x=limb 0 y)(h1:limb 1 x=limb 1 y)(h2:limb 2 x=limb 2 y)(h3:limb 3 x=limb 3 y):x=y:=by
 simp only[limb,Nat.pow_zero,Nat.div_one,Nat.pow_one]at h0 h1 h2 h3;have e256:(2:Nat)^256=115792089237316195423570985008687907853269984665640564039457584007913129639936:=by decide
 rw[e256]at hx hy;have e2:(18446744073709551616:Nat)^2=340282366920938463463374607431768211456:=by decide
 have e3:(18446744073709551616:Nat)^3=6277101735386680763835789423207666416102355444464034512896:=by decide
 rw[e2]at h2;rw[e3]at h3;omega
theorem limbs_eq:∀ {a b:List Nat},(∀ x∈a,x<2^256)->(∀ x∈b,x<2^256)->(limbs a=limbs b↔a=b)
 | [],[],_,_=>by simp
 | [],y::b,_,_=>by simp[limbs]
 | x::a,[],_,_=>by simp[limbs]
 | x::a,y::b,ha,hb=>by
  have ih:=limbs_eq (a:=a) (b:=b) (fun z hz=>ha z (.tail _ hz)) fun z hz=>hb z (.tail _ hz);constructor
  ·intro h
   have h':limb 0 x::limb 1 x::limb 2 x::limb 3 x::limbs a=limb 0 y::limb 1 y::limb 2 y::limb 3 y::limbs b:=h;simp only[List.cons.injEq]at h';rw[limb_ext (ha x (.head _)) (hb y (.head _)) h'.1 h'.2.1 h'.2.2.1 h'.2.2.2.1,ih.1 h'.2.2.2.2]
  ·intro h
   rw[h]
def wordsS:SV->Option (List Nat)
 | .w x=>some [x]
 | .e=>some []
 | .ap h t=>match wordsS h,wordsS t with
  | some a,some b=>some (a++b)
  | _,_=>none
 | _=>none
theorem wordsS_ok(γ:Pl):∀(x:SV) {l:List Nat},wordsS x=some l->x.cells γ=(limbs l).map (Value.int .u64)/\x.many=true/\(x.ok->∀ z∈l,z<2^256)
 | .w x,l,h=>by
  cases h;refine⟨?_,rfl,fun ho z hz=>by
   rw[List.mem_singleton.1 hz];exact ho⟩
  show(pw x).toList=_;simp[pw,limbs,limb]
 | .e,l,h=>by
  cases h;exact⟨rfl,rfl,fun _ z hz=>by cases hz⟩
 | .ap a t,l,h=>by
  unfold wordsS at h
  split at h
  ·rename_i u v hu hv
   cases h;have h1:=wordsS_ok γ a hu;have h2:=wordsS_ok γ t hv;refine⟨?_,rfl,fun ho z hz=>?_⟩
   ·show a.cells γ++t.cells γ=_
    rw[h1.1,h2.1];simp[limbs]
   ·rcases List.mem_append.1 hz with hz | hz
    ·exact h1.2.2 ho.1 z hz
    ·exact h2.2.2 ho.2 z hz
  ·cases h
 | .b _,_,h | .i _ _,_,h | .na _,_,h | .v _,_,h | .p _ _ _ _,_,h | .s _ _ _ _,_,h | .tu _ _,_,h | .gd _ _,_,h | .fn _ _ _,_,h | .fv _ _,_,h=>by cases h
theorem eqWs_run{P:Program}{T:TypeId}{k d0:Nat}(h:EqT P .u64 T (4*k) d0)(hd:d0<=10000){x y:SV}{a b:List Nat}(hx:wordsS x=some a)(hy:wordsS y=some b)(ha:a.length=k)(hb:b.length=k)(ox:x.ok)(oy:y.ok)(γ:Pl)(w:World) :
  (binOp BinOp.eql T (x.val γ) (y.val γ)).run P w=.ok (.bool (decide (a=b))) w/\(binOp BinOp.neq T (x.val γ) (y.val γ)).run P w=.ok (.bool (!decide (a=b))) w:=by
 have h1:=wordsS_ok γ x hx;have h2:=wordsS_ok γ y hy;have len:∀ l:List Nat,(limbs l).length=4*l.length:=fun l=>by
  induction l with
  | nil=>rfl
  | cons x l ih =>
   show((limbs l).length+1+1+1+1)=4*(l.length+1);omega
 have hr:=h (10000 - d0) (limbs a) (limbs b) (by rw[len,ha]) (by rw[len,hb]) w;rw[Nat.sub_add_cancel hd,<- h1.1,<- h2.1]at hr;have e:decide (limbs a=limbs b)=decide (a=b):=by
  rw[Bool.eq_iff_iff,decide_eq_true_iff,decide_eq_true_iff];exact limbs_eq (h1.2.2 ox) (h2.2.2 oy)
 rw[e]at hr;rw[SV.val_many h1.2.1,SV.val_many h2.2.1];constructor <;> simp[binOp,Op.equal,Op.maxDepth,hr]
end Go.Proofs.YtadfjjfklihaaaaGreat.Sy
namespace Go.Proofs.YtadfjjfklihaaaaGreat
open Go.RowKit
-- WHAT partInverse COMES TO.
theorem pinv_any(p:Nat)(hp:p<18446744073709551616)(w:World):Calls Tryz.prog 126 #[.int .u64 (p:Nat)] w fun e w'=>e=.returned (.int .u64 (pin p 5:Nat))/\w=w':=by
 have HP:=Lib.hid hp;clear hp;go_enter Tryz.func126,Tryz.ntmps126
 go_wp2_with fail
 go_loopw [3,5] (fun v iv wr=>∃ k:Nat,k<=5/\iv=.int .i64 k/\v=.int .u64 (pin p k:Nat)/\w=wr) (fun _ iv _=>5 - (intOf iv).toNat)
 case atStart=>exact⟨0,by omega,rfl,rfl,rfl⟩
 case round =>
  obtain⟨k,hk,rfl,rfl,rfl⟩:=hrel;have hk0:(0:Int)<=k:=by omega
  by_cases hlt:k<5
  ·have hlt':(k:Int)<5:=by omega
   have hxl:=pin_lt p k HP.out;have HX:=Lib.hid (show pin p (k+1)=nst p (pin p k) from rfl);obtain⟨x,hx⟩:∃ x,pin p k=x:=⟨_,rfl⟩
   rw[hx]at hxl HX |-
   obtain⟨y,hy⟩:∃ y,p*x%18446744073709551616=y:=⟨_,rfl⟩
   obtain⟨z,hz⟩:∃ z,(18446744073709551616+2 - y)%18446744073709551616=z:=⟨_,rfl⟩
   obtain⟨u,hu⟩:∃ u,x*z%18446744073709551616=u:=⟨_,rfl⟩
   have h1:IntKind.u64.wrap ((p:Int)*x)=(y:Int):=by rw[IntKind.wrap_u64];omega
   have hyl:y<18446744073709551616:=by rw[<- hy];exact Nat.mod_lt _ (by omega)
   have h2:IntKind.u64.wrap (2 - (y:Int))=(z:Int):=by rw[IntKind.wrap_u64,<- hz];omega
   have h3:IntKind.u64.wrap ((x:Int)*z)=(u:Int):=by rw[IntKind.wrap_u64];omega
   have HU:=Lib.hid (show pin p (k+1)=u from by rw[HX.out];unfold nst;rw[hy,hz,hu]);have HK:=Lib.hid hlt;clear hx HX hy hz hu hyl hxl hlt hk
   go_wp2_with fail
   go_roundw
   case rel=>exact⟨k+1,by have:=HK.out;omega,by go_num,by rw[HU.out],trivial⟩
   case measure=>have:=HK.out;simp[intOf];omega
  ·obtain rfl:k=5:=by omega
   have hlt':¬((5:Nat):Int)<5:=by omega
   simp only[Int.cast_ofNat_Int]
   go_wp2_with fail
   go_ret;exact⟨rfl,rfl⟩
open Go.RowKit
theorem pw_zero:pw 0=#[.int .u64 0,.int .u64 0,.int .u64 0,.int .u64 0]:=by kernel_rfl
-- WHAT Neg COMES TO.
theorem fneg_any(F m a:Nat)(ha:a<115792089237316195423570985008687907853269984665640564039457584007913129639936)(w:World)(hF:FldAt w F m):Calls Tryz.prog 138 #[.pointer (some ⟨F,0,none⟩),.agg (pw a)] w fun e w'=>e=.returned (.agg (pw ((0%m+(m - a%m))%m)))/\Below w.heap.size w w':=by
 have H0:=Lib.hid (CW.one hF a);have HT:=Lib.hid (CW.calls (w:=w) (F:=F) (m:=m) (L:=[(w.heap.size+1,#[.int .u64 0,.int .u64 0,.int .u64 0,.int .u64 0]),(w.heap.size,pw a)]) (fun wx hf=>fsub_any F m 0 a (by omega) ha wx hf));rw[pw_zero]at HT;obtain⟨y,hy⟩:∃ y,(0%m+(m - a%m))%m=y:=⟨_,rfl⟩
 rw[hy]at HT |-
 clear hy hF ha;go_enter Tryz.func138,Tryz.ntmps138
 go_wp2_with (refine wpList_ld rfl 24 _ rfl (.pointer (some ⟨w.heap.size,0,none⟩)) (.agg (pw a)) rfl (ld_pw (by exact H0.out.is _ _ (by simp))) ?_)
 refine(HT.out _ H0.out).mono ?_;rintro e w5 ⟨rfl,c⟩;have HC:=Lib.hid c;clear c HT H0
 go_wp2_with (refine wpList_store_row rfl 24 _ _ rfl (w.heap.size+1) (pw y) rfl rfl 24 (#[.int .u64 0,.int .u64 0,.int .u64 0,.int .u64 0]) (by exact HC.out.is _ _ (by simp)) (by rw[pw_size];exact infoW4) (by first | rfl | (rw[pw_size];rfl) | (rw[pw_size,pw_size])) (pw_one _) ?_)
 (try simp only[Act.put])
 refine bodyPost_ret (v:=.agg (pw y)) (results_cell_row (p:=4) rfl _ _ (w.heap.size+1) 24 (pw y) (0,0) _ rfl (setRow_heap _ _ _ _ _ _ (by exact HC.out.is _ (#[.int .u64 0,.int .u64 0,.int .u64 0,.int .u64 0]) (by simp))) Tryz.underlying24 rfl (by rw[pw_size];exact infoW4)) rfl ⟨rfl,below_setRow HC.out.old (by omega) _⟩
open Go.RowKit
theorem arr_lit4(t:Array Value):t=((List.range t.size).map fun i=>t.getD i undef).toArray:=by
 apply Array.ext
 ·simp
 ·intro i h1 h2
  simp[Array.getD,h1]
structure CN (w:World) (m g a:Nat) (wx:World):Prop where
 old:Below w.heap.size w wx
 r0:wx.heap[w.heap.size]?=some (.cells (pw m) 24 (0,0))
 r1:wx.heap[g]?=some (.cells (pw a) 24 (0,0))
 hg:w.heap.size<g
theorem CN.high{w wx:World}{m g a:Nat}(c:CN w m g a wx):g+1<=wx.heap.size:=(Array.getElem?_eq_some_iff.1 c.r1).1
theorem CN.below{w wx w':World}{m g a:Nat}(c:CN w m g a wx)(hb:Below wx.heap.size wx w'):CN w m g a w' :=
 ⟨c.old.trans (hb.mono c.old.size),(hb.block _ (Array.getElem?_eq_some_iff.1 c.r0).1).trans c.r0,(hb.block _ (Array.getElem?_eq_some_iff.1 c.r1).1).trans c.r1,c.hg⟩
theorem CN.drew{w wx:World}{m g a:Nat}(c:CN w m g a wx):CN w m g a wx.drew:=c.below (Below.drew (Below.refl _ _))
theorem CN.rowed{w wx:World}{m g a D:Nat}{cs:Array Value}(c:CN w m g a wx)(hD:g+1<=D):CN w m g a (wx.setRow D cs):=by
 have:=c.hg;exact⟨below_setRow c.old (by omega) _,(setRow_other _ _ _ _ (by omega)).trans c.r0,(setRow_other _ _ _ _ (by omega)).trans c.r1,c.hg⟩
theorem CN.calls{w:World}{m g a:Nat}{f:FuncId}{args:Array Value}{v:Value}(h:∀ wx,Calls Tryz.prog f args wx fun e w'=>e=.returned v/\Below wx.heap.size wx w'):∀ wx,CN w m g a wx->Calls Tryz.prog f args wx fun e w'=>e=.returned v/\CN w m g a w' :=
 fun wx c=>(h wx).mono fun _ _ hh=>⟨hh.1,c.below hh.2⟩
theorem q_un4{P:Program}{ops:Array Oper}{C:World->Prop}{Q:Act->Prop}{a:Act}{o:Oper}{rest:List Oper}(op:UnOp)(T:TypeId)(x:Operand)(u r:Value)(ho:o.op=.unOp op T x)(hw:Region.wanted o (yielded ops a.tmps)=true)(hx:a.eval x=u)
  (hb:∀ w,(Op.unary op u).run P w=.ok r w) (h:wpQuiet P ops C Q rest (a.put o.dst r)):wpQuiet P ops C Q (o::rest) a :=
 q_val r hw (fun w hC=>by
  unfold execOp;rw[ho];simp only[hx,Sem.run_bind,hb w,Result.andThen_ok,Sem.run_pure]) h
def FW(y:Nat)(_:TypeId):Array Value:=pw y
theorem sq_ones(m:Nat):(2^256 - 1 - 0+1)%m*((2^256 - 1 - 0+1)%m)%m=sqr m:=by
 unfold sqr;rw[show(2^256) - 1 - 0+1=2^256 from rfl,<- Nat.mul_mod]
theorem neg_u(a b:Nat)(h:(18446744073709551616 - a)%18446744073709551616=b)(hl:a<18446744073709551616)(w:World):(Op.unary .neg (.int .u64 (a:Nat))).run Tryz.prog w=.ok (.int .u64 (b:Nat)) w:=by
 have e:IntKind.u64.wrap (-(a:Int))=(b:Int):=by rw[IntKind.wrap_u64];omega
 go_simp
theorem pN0(m:Nat):pN m 0=m%18446744073709551616:=by unfold pN;simp
theorem frw_lit{m:Nat}:ar .u64 9 (fun j=>((frw m j:Nat):Int))=#[.int .u64 ((pN m 0:Nat):Int),.int .u64 ((pN m 1:Nat):Int),.int .u64 ((pN m 2:Nat):Int),.int .u64 ((pN m 3:Nat):Int),.int .u64 ((nin m:Nat):Int),.int .u64 ((pN (sqr m) 0:Nat):Int),.int .u64 ((pN (sqr m) 1:Nat):Int),.int .u64 ((pN (sqr m) 2:Nat):Int),.int .u64 ((pN (sqr m) 3:Nat):Int)]:=by
 kernel_rfl
theorem pw4(x:Nat):pw x=#[.int .u64 ((pN x 0:Nat):Int),.int .u64 ((pN x 1:Nat):Int),.int .u64 ((pN x 2:Nat):Int),.int .u64 ((pN x 3:Nat):Int)]:=by
 rw[pw_ar];kernel_rfl
-- WHAT modulo COMES TO.
theorem modulo_any(m:Nat)(ho:m%2=1)(h1:1<m)(hm:m<2^256)(w:World):Calls Tryz.prog 102 #[.agg (pw m)] w fun e w'=>∃ F,e=.returned (.pointer (some ⟨F,0,none⟩))/\FldAt w' F m/\w.heap.size<=F/\Below w.heap.size w w':=by
 have HNT:=Lib.hid (fun wx=>not_pw 0 (by omega) wx);rw[pw_zero]at HNT;have HO:=Lib.hid (And.intro ho (And.intro h1 hm));obtain⟨ao,ha⟩:∃ ao,2^256 - 1 - 0=ao:=⟨_,rfl⟩
 have hal:ao<2^256:=by omega
 rw[ha]at HNT;obtain⟨so,hs⟩:∃ so,(ao+1)%m=so:=⟨_,rfl⟩
 have hsl:so<2^256:=by rw[<- hs];exact Nat.lt_trans (Nat.mod_lt _ (by omega)) hm
 have HAM:=Lib.hid (fun wx=>addmod_pw ao 1 m hal (by omega) (by omega) hm wx);rw[hs]at HAM;have HMM:=Lib.hid (fun wx=>mulmod_pw so so m hsl hsl (by omega) hm wx);rw[<- hs,<- ha,sq_ones,ha,hs]at HMM;rw[pw4 (sqr m)]at HMM;have HPI:=Lib.hid (fun wx=>pinv_any (pN m 0) (pN_lt m 0) wx);have HNI:=Lib.hid (show(18446744073709551616 - pin (pN m 0) 5)%18446744073709551616=nin m from by unfold nin;rw[pN0 m]);have HPL:=Lib.hid (pin_lt (pN m 0) 5 (pN_lt m 0));clear ho h1 hm hal hsl ha hs;go_enter Tryz.func102,Tryz.ntmps102
 go_wp2_with fail
 refine(HNT.out _).mono ?_;rintro e w1 ⟨rfl,hb1⟩;obtain⟨g,hg⟩:∃ g,w1.heap.size=g:=⟨_,rfl⟩
 have H1:=Lib.hid (show CN w m g ao ((w1.alloc (.cells #[.int .u64 0,.int .u64 0,.int .u64 0,.int .u64 0] 24)).setRow w1.heap.size (pw ao)) from by
  have h0:w.heap.size<w1.heap.size:=by have:=hb1.size;rw[World.size_alloc]at this;omega
  rw[<- hg];exact⟨below_setRow (((show Below w.heap.size w (w.alloc (.cells (pw m) 24)) from by go_grown).trans (hb1.mono (by simp))).alloc (by omega) _) (by omega) _,(setRow_other _ _ _ _ (by omega)).trans ((((Below.refl w1.heap.size w1).alloc (Nat.le_refl _) _).block _ h0).trans ((hb1.block _ (by simp)).trans (heap_alloc_new _ _))),setRow_heap _ _ _ _ _ _ (heap_alloc_new _ _),h0⟩)
 have HG:=Lib.hid (And.intro hg (heap_alloc_new w1 (.cells #[.int .u64 0,.int .u64 0,.int .u64 0,.int .u64 0] 24)));clear hb1 hg HNT
 go_wp2_with (refine wpList_store_row rfl 24 _ _ rfl w1.heap.size (pw ao) rfl rfl 24 (#[.int .u64 0,.int .u64 0,.int .u64 0,.int .u64 0]) (by exact HG.out.2) (by rw[pw_size];exact infoW4) (by rw[pw_size];rfl) (pw_one _) ?_)
 obtain⟨w2,hw2⟩:∃ w2,(w1.alloc (.cells #[.int .u64 0,.int .u64 0,.int .u64 0,.int .u64 0] 24)).setRow w1.heap.size (pw ao)=w2:=⟨_,rfl⟩
 rw[hw2]at H1 |-
 rw[HG.out.1];clear hw2 HG;refine region_tie (CN w m g ao) (fun i s wx=>match i with | 0=>s 7=(.agg (pw ao)) | 1=>s 8=(.agg (pw 1)) | 2=>s 9=(.agg (pw m)) | 3=>s 10=(.agg (pw so)) | 4=>∃ D,s 4=.pointer (some ⟨D,0,none⟩)/\(g+1)<=D/\∃ cs:Array Value,wx.heap[D]?=some (.cells cs 24 (0,0))/\cs.size=4 | 5=>∃ D,s 4=.pointer (some ⟨D,0,none⟩)/\(g+1)<=D/\wx.heap[D]?=some (.cells (FW so 24) 24 (0,0)) | _=>True) (RT (g+1) (FW so)) (fun i=>match i with | 0=>[7] | 1=>[8] | 2=>[9] | 3=>[10] | 4=>[4] | 5=>[4] | _=>[]) (fun i=>i) (by kernel_rfl) (by kernel_rfl) H1.out.drew ?_ ?_ ?_ ?_
 ·intro i s s' wx he hp
  match i,he,hp with
  | 0,he,hp=>exact(he 7 (by simp)).symm.trans hp
  | 1,he,hp=>exact(he 8 (by simp)).symm.trans hp
  | 2,he,hp=>exact(he 9 (by simp)).symm.trans hp
  | 3,he,hp=>exact(he 10 (by simp)).symm.trans hp
  | 4,he,hp=>obtain⟨D,h1,h2⟩:=hp;exact⟨D,(he 4 (by simp)).symm.trans h1,h2⟩
  | 5,he,hp=>obtain⟨D,h1,h2⟩:=hp;exact⟨D,(he 4 (by simp)).symm.trans h1,h2⟩
  | _+6,_,_=>trivial
 ·intro i s wa wb hR hp
  match i,hp with
  | 0,hp=>exact hp
  | 1,hp=>exact hp
  | 2,hp=>exact hp
  | 3,hp=>exact hp
  | 4,hp=>obtain⟨D,h1,h2,cs,h3,h4⟩:=hp;obtain⟨cs',h5,h6⟩:=hR.shape _ _ _ _ h3;exact⟨D,h1,h2,cs',h5,h6.trans h4⟩
  | 5,hp=>obtain⟨D,h1,h2,h3⟩:=hp;exact⟨D,h1,h2,hR.keep _ _ _ h3⟩
  | _+6,_=>trivial
 ·refine⟨?_,?_,?_,?_,?_,?_,trivial⟩
  ·intro a wx hC hsz hK
   have h0:a.tmps.getD 3 undef=(.pointer (some ⟨g,0,none⟩)):=hK.1 3 (by kernel_rfl);exact tt_load 24 (.tmp 3) ((.pointer (some ⟨g,0,none⟩))) ((.agg (pw ao))) rfl (by kernel_rfl) h0 (ld_pw hC.r1) hC (slots_put _ _ _ (by rw[hsz];exact of_decide_eq_true (by kernel_rfl))) (RT.refl _ _ _)
  ·intro a wx hC hsz hK
   refine tt_call 69 #[(.int .u64 (1:Nat))] (by kernel_rfl) (by kernel_rfl) ?_;exact(of_wv 1 (by omega) wx).mono fun e w' hh=>⟨_,hh.1,hC.below hh.2,(slots_put _ _ _ (by rw[hsz];exact of_decide_eq_true (by kernel_rfl))),RT.of hC.high hh.2⟩
  ·intro a wx hC hsz hK
   have h0:a.tmps.getD 1 undef=(.pointer (some ⟨w.heap.size,0,none⟩)):=hK.1 1 (by kernel_rfl);exact tt_load 24 (.tmp 1) ((.pointer (some ⟨w.heap.size,0,none⟩))) ((.agg (pw m))) rfl (by kernel_rfl) h0 (ld_pw hC.r0) hC (slots_put _ _ _ (by rw[hsz];exact of_decide_eq_true (by kernel_rfl))) (RT.refl _ _ _)
  ·intro a wx hC hsz hK
   have h0:a.tmps.getD 7 undef=(.agg (pw ao)):=hK.2 ⟨0,.data⟩ (by simp) rfl _ rfl;have h1:a.tmps.getD 8 undef=(.agg (pw 1)):=hK.2 ⟨1,.data⟩ (by simp) rfl _ rfl;have h2:a.tmps.getD 9 undef=(.agg (pw m)):=hK.2 ⟨2,.data⟩ (by simp) rfl _ rfl;refine tt_call 125 #[a.tmps.getD 7 undef,a.tmps.getD 8 undef,a.tmps.getD 9 undef] (by kernel_rfl) (by kernel_rfl) ?_;rw[h0,h1,h2];exact(HAM.out wx).mono fun e w' hh=>⟨_,hh.1,hC.below hh.2,(slots_put _ _ _ (by rw[hsz];exact of_decide_eq_true (by kernel_rfl))),RT.of hC.high hh.2⟩
  ·intro a wx hC hsz hK
   exact tt_new (.pointer (some ⟨wx.heap.size,0,none⟩)) (by kernel_rfl) (by kernel_rfl) (hC.below ((Below.refl _ _).alloc (Nat.le_refl _) _)) ⟨_,(slots_put _ _ _ (by rw[hsz];exact of_decide_eq_true (by kernel_rfl))),hC.high,#[.int .u64 0,.int .u64 0,.int .u64 0,.int .u64 0],heap_alloc_new _ _,rfl⟩ (RT.of hC.high ((Below.refl _ _).alloc (Nat.le_refl _) _))
  ·intro a wx hC hsz hK
   obtain⟨D,h1,h2,cs,h3,h4⟩:=hK.2 ⟨4,.data⟩ (by simp) rfl _ rfl;have h0:a.tmps.getD 10 undef=(.agg (pw so)):=hK.2 ⟨3,.data⟩ (by simp) rfl _ rfl;exact tt_store (by kernel_rfl) rfl (run_store 24 (.tmp 4) (.tmp 10) _ _ rfl h1 h0 (store_w h4 h3)) (hC.rowed h2) ⟨D,h1,h2,setRow_heap _ _ _ _ _ _ h3⟩ (RT.row h2 h3 (by rw[h4];rfl))
 intro f1 wx hC hf1;obtain⟨D,s4',hDl,hD⟩:=hf1 5 _ rfl;have H2:=Lib.hid (show CN w m D so wx from⟨hC.old,hC.r0,hD,by have:=hC.hg;omega⟩);clear hC hD hDl;generalize hAct:putAll _ _ _=G at *;have s1:G.tmps.getD 1 undef=.pointer (some ⟨w.heap.size,0,none⟩):=by subst hAct;kernel_rfl
 have s4c:G.tmps.getD 4 undef=.pointer (some ⟨D,0,none⟩):=s4';have hsz:G.tmps.size=22:=by rw[<- hAct,putAll_size];rfl
 have hdf:G.defers=[]:=by subst hAct;kernel_rfl
 clear hAct hf1 s4' H1 HAM;obtain⟨u0,t0⟩:∃ u,G.tmps.getD 0 undef=u:=⟨_,rfl⟩
 obtain⟨u2,t2⟩:∃ u,G.tmps.getD 2 undef=u:=⟨_,rfl⟩
 obtain⟨u3,t3⟩:∃ u,G.tmps.getD 3 undef=u:=⟨_,rfl⟩
 obtain⟨u5,t5⟩:∃ u,G.tmps.getD 5 undef=u:=⟨_,rfl⟩
 obtain⟨u6,t6⟩:∃ u,G.tmps.getD 6 undef=u:=⟨_,rfl⟩
 obtain⟨u7,t7⟩:∃ u,G.tmps.getD 7 undef=u:=⟨_,rfl⟩
 obtain⟨u8,t8⟩:∃ u,G.tmps.getD 8 undef=u:=⟨_,rfl⟩
 obtain⟨u9,t9⟩:∃ u,G.tmps.getD 9 undef=u:=⟨_,rfl⟩
 obtain⟨u10,t10⟩:∃ u,G.tmps.getD 10 undef=u:=⟨_,rfl⟩
 obtain⟨u11,t11⟩:∃ u,G.tmps.getD 11 undef=u:=⟨_,rfl⟩
 obtain⟨u12,t12⟩:∃ u,G.tmps.getD 12 undef=u:=⟨_,rfl⟩
 obtain⟨u13,t13⟩:∃ u,G.tmps.getD 13 undef=u:=⟨_,rfl⟩
 obtain⟨u14,t14⟩:∃ u,G.tmps.getD 14 undef=u:=⟨_,rfl⟩
 obtain⟨u15,t15⟩:∃ u,G.tmps.getD 15 undef=u:=⟨_,rfl⟩
 obtain⟨u16,t16⟩:∃ u,G.tmps.getD 16 undef=u:=⟨_,rfl⟩
 obtain⟨u17,t17⟩:∃ u,G.tmps.getD 17 undef=u:=⟨_,rfl⟩
 obtain⟨u18,t18⟩:∃ u,G.tmps.getD 18 undef=u:=⟨_,rfl⟩
 obtain⟨u19,t19⟩:∃ u,G.tmps.getD 19 undef=u:=⟨_,rfl⟩
 obtain⟨u20,t20⟩:∃ u,G.tmps.getD 20 undef=u:=⟨_,rfl⟩
 obtain⟨u21,t21⟩:∃ u,G.tmps.getD 21 undef=u:=⟨_,rfl⟩
 obtain⟨tm,df⟩:=G;simp only at *;have hLt:=arr_lit4 tm;rw[hsz]at hLt;simp only[List.range,List.range.loop,List.map]at hLt;rw[t0,s1,t2,t3,s4c,t5,t6,t7,t8,t9,t10,t11,t12,t13,t14,t15,t16,t17,t18,t19,t20,t21]at hLt;subst hLt hdf;clear t0 s1 t2 t3 s4c t5 t6 t7 t8 t9 t10 t11 t12 t13 t14 t15 t16 t17 t18 t19 t20 t21 hsz
 go_wp2_with fail
 refine region_quiet_tail 10 (CN w m D so) (by kernel_rfl) (by kernel_rfl) (H2.out.drew) ?_;simp only[List.take_succ_cons,List.take_zero,List.drop_succ_cons,List.drop_zero]
 with_reducible refine q_load 24 (.tmp 1) (.pointer (some ⟨w.heap.size,0,none⟩)) (.agg #[.int .u64 ((pN m 0:Nat):Int),.int .u64 ((pN m 1:Nat):Int),.int .u64 ((pN m 2:Nat):Int),.int .u64 ((pN m 3:Nat):Int)]) rfl (by kernel_rfl) (by kernel_rfl) (fun _ c=>(by rw[<- pw4];exact ld_pw c.r0)) ?_
 with_reducible refine q_sem2 (Instr.indexAt 24 (.pointer (some ⟨w.heap.size,0,none⟩)) (.int .i64 (0:Nat))) (.pointer (some ⟨w.heap.size,0,none⟩)) (by kernel_rfl) (by kernel_rfl) (fun w' _=>by kernel_rfl) ?_
 with_reducible refine q_load 22 (.tmp 12) (.pointer (some ⟨w.heap.size,0,none⟩)) (.int .u64 (pN m 0:Nat)) rfl (by kernel_rfl) (by kernel_rfl) (fun _ c=>load_u64 _ _ _ _ ((cell_of_row _ _ 0 _ _ _ c.r0).trans (by rw[pw4];simp))) ?_
 with_reducible refine q_call 126 #[.int .u64 (pN m 0:Nat)] (.int .u64 (pin (pN m 0) 5:Nat)) (by kernel_rfl) (fun _=>by kernel_rfl) (fun wx c=>(HPI.out wx).mono fun e w' hh=>⟨hh.1,hh.2 ▸ c⟩) ?_
 with_reducible refine q_un4 .neg 22 (.tmp 14) (.int .u64 (pin (pN m 0) 5:Nat)) (.int .u64 (nin m:Nat)) rfl (by kernel_rfl) (by kernel_rfl) (fun w'=>neg_u _ _ HNI.out HPL.out w') ?_
 with_reducible refine q_load 24 (.tmp 4) (.pointer (some ⟨D,0,none⟩)) (.agg (pw so)) rfl (by kernel_rfl) (by kernel_rfl) (fun _ c=>ld_pw c.r1) ?_
 with_reducible refine q_load 24 (.tmp 4) (.pointer (some ⟨D,0,none⟩)) (.agg (pw so)) rfl (by kernel_rfl) (by kernel_rfl) (fun _ c=>ld_pw c.r1) ?_
 with_reducible refine q_load 24 (.tmp 1) (.pointer (some ⟨w.heap.size,0,none⟩)) (.agg (pw m)) rfl (by kernel_rfl) (by kernel_rfl) (fun _ c=>ld_pw c.r0) ?_
 with_reducible refine q_call 127 #[.agg (pw so),.agg (pw so),.agg (pw m)] (.agg #[.int .u64 ((pN (sqr m) 0:Nat):Int),.int .u64 ((pN (sqr m) 1:Nat):Int),.int .u64 ((pN (sqr m) 2:Nat):Int),.int .u64 ((pN (sqr m) 3:Nat):Int)]) (by kernel_rfl) (fun _=>by kernel_rfl) (CN.calls HMM.out) ?_
 with_reducible refine q_val (.agg #[.int .u64 ((pN m 0:Nat):Int),.int .u64 ((pN m 1:Nat):Int),.int .u64 ((pN m 2:Nat):Int),.int .u64 ((pN m 3:Nat):Int),.int .u64 ((nin m:Nat):Int),.int .u64 ((pN (sqr m) 0:Nat):Int),.int .u64 ((pN (sqr m) 1:Nat):Int),.int .u64 ((pN (sqr m) 2:Nat):Int),.int .u64 ((pN (sqr m) 3:Nat):Int)]) (by kernel_rfl) (fun _ _=>by kernel_rfl) ?_
 with_reducible refine wpQuiet_nil ?_
 intro wx hC;have HC:=Lib.hid hC;clear hC H2;simp only[Act.put,List.setIfInBounds_toArray,List.set_cons_succ,List.set_cons_zero]
 go_wp2_with fail
 go_ret;exact⟨wx.heap.size,rfl,⟨by rw[frw_lit];exact heap_alloc_new _ _,HO.out.1,HO.out.2.1,HO.out.2.2⟩,HC.out.old.size,HC.out.old.alloc HC.out.old.size _⟩
open Go.RowKit
section
variable {P:Program} {ops:Array Oper} {C:World->Prop} {Q:Exit->Act->World->Prop}
theorem wpList_quiet:∀(l:List Oper) (a:Act) (w:World),C w->wpQuiet P ops C (fun a'=>∀ w',C w'->Q .normal a' w') l a->wpList P ops Q l a w
 | [],_,w,hC,h=>h w hC
 | o::l,a,w,hC,h=>by
  unfold wpQuiet at h;unfold wpList
  split
  ·rename_i hw
   rw[if_pos hw]at h;exact .inl (Oper.wp_of_quiet hC (fun a' w' hC' hK=>wpList_quiet l a' w' hC' hK) h)
  ·rename_i hw
   rw[if_neg hw]at h;exact wpList_quiet l _ w hC h
theorem q_region{id:Nat}{l:List Oper}{a:Act}{w:World}(C:World->Prop)(hC:C w)(h:wpQuiet P l.toArray C (fun a'=>∀ w',C w'->Q .normal a' w') l a):(Code.region id l.toArray false).wp P Q a w :=
 wp_region_list (by simpa using wpList_quiet l a w hC (by simpa using h))
end
open Go.RowKit
theorem eqi_pw(a b:Nat)(ha:a<2^256)(hb:b<2^256):∀ w,(Op.equalIn 10000 24 (.agg (pw a)) (.agg (pw b))).run Tryz.prog w=.ok (decide (a=b)) w:=by
 obtain⟨x0,x1,x2,x3,u0,u1,u2,u3,ex,nx⟩:=wv_parts a;obtain⟨y0,y1,y2,y3,v0,v1,v2,v3,ey,ny⟩:=wv_parts b;rw[wv_pw]at ex ey;rw[ex,ey];intro w;have h:=eqW x0 x1 x2 x3 y0 y1 y2 y3 w;have e:((x0 == y0)&&((x1 == y1)&&((x2 == y2)&&(x3 == y3))))=decide (a=b):=by
  rw[Nat.mod_eq_of_lt ha]at nx;rw[Nat.mod_eq_of_lt hb]at ny;rw[<- nx,<- ny,Bool.eq_iff_iff];simp only[Bool.and_eq_true,beq_iff_eq,decide_eq_true_eq];unfold n4;omega
 rw[e]at h;exact h
theorem eqw_run(a b:Nat)(ha:a<2^256)(hb:b<2^256)(w:World):(binOp BinOp.eql 24 (.agg (pw a)) (.agg (pw b))).run Tryz.prog w=.ok (.bool (decide (a=b))) w:=by
 have h:=eqi_pw a b ha hb;obtain⟨x0,x1,x2,x3,-,-,-,-,ex,-⟩:=wv_parts a;obtain⟨y0,y1,y2,y3,-,-,-,-,ey,-⟩:=wv_parts b;rw[wv_pw]at ex ey;rw[ex,ey]at h |-
 go_simp
theorem new_run(a b:Nat)(ha:a<2^256)(hb:b<2^256)(w:World):(binOp BinOp.neq 24 (.agg (pw a)) (.agg (pw b))).run Tryz.prog w=.ok (.bool (!decide (a=b))) w:=by
 have h:=eqi_pw a b ha hb;obtain⟨x0,x1,x2,x3,-,-,-,-,ex,-⟩:=wv_parts a;obtain⟨y0,y1,y2,y3,-,-,-,-,ey,-⟩:=wv_parts b;rw[wv_pw]at ex ey;rw[ex,ey]at h |-
 go_simp
structure CBm (w:World) (m:Nat) (wx:World):Prop where
 old:Below w.heap.size w wx
 r0:wx.heap[w.heap.size]?=some (.cells (pw m) 24 (0,0))
theorem CBm.below{w wx w':World}{m:Nat}(c:CBm w m wx)(hb:Below wx.heap.size wx w'):CBm w m w' :=
 ⟨c.old.trans (hb.mono c.old.size),(hb.block _ (Array.getElem?_eq_some_iff.1 c.r0).1).trans c.r0⟩
theorem CBm.drew{w wx:World}{m:Nat}(c:CBm w m wx):CBm w m wx.drew:=c.below (Below.drew (Below.refl _ _))
theorem CBm.start(w:World)(m:Nat):CBm w m (w.alloc (.cells (pw m) 24)):=⟨by go_grown,heap_alloc_new _ _⟩
theorem CBm.calls{w:World}{m:Nat}{f:FuncId}{args:Array Value}{v:Value}(h:∀ wx,Calls Tryz.prog f args wx fun e w'=>e=.returned v/\Below wx.heap.size wx w'):∀ wx,CBm w m wx->Calls Tryz.prog f args wx fun e w'=>e=.returned v/\CBm w m w' :=
 fun wx c=>(h wx).mono fun _ _ hh=>⟨hh.1,c.below hh.2⟩
end Go.Proofs.YtadfjjfklihaaaaGreat
