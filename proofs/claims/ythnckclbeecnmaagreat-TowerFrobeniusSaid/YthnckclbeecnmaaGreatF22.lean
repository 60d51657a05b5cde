/- Numbers compared and reckoned, words, whatever lies side by side compared; what is called, by what it answers. (Cut to what is reached, written closely: QL · FNew · SyAr · SyEq · SyB.) -/
import Derived.Test.YthnckclbeecnmaaGreatF2
import Derived.Test.YthnckclbeecnmaaGreatF21
import Derived.Test.YthnckclbeecnmaaGreatF13
import Derived.Deep.DeepCutAuto
import Derived.Test.YthnckclbeecnmaaGreatF18
set_option linter.all false
set_option maxRecDepth 100000
set_option maxHeartbeats 8000000
namespace Go.Proofs.YthnckclbeecnmaaGreat
open Go.RowKit
section
variable {P:Program} {ops:Array Oper} {C:World->Prop} {Q:Exit->Act->World->Prop}
theorem wpList_quiet:∀(l:List Oper) (a:Act) (w:World),C w->wpQuiet P ops C (fun a'=>∀ w',C w'->Q .normal a' w') l a->wpList P ops Q l a w
 | [],_,w,hC,h=>h w hC
 | o::l,a,w,hC,h=>by
  unfold wpQuiet at h;unfold wpList
  split
  ·rename_i hw
   rw[if_pos hw]at h;exact .inl (Oper.wp_of_quiet hC (fun a' w' hC' hK=>wpList_quiet l a' w' hC' hK) h)
  ·rename_i hw
   rw[if_neg hw]at h;exact wpList_quiet l _ w hC h
theorem q_region{id:Nat}{l:List Oper}{a:Act}{w:World}(C:World->Prop)(hC:C w)(h:wpQuiet P l.toArray C (fun a'=>∀ w',C w'->Q .normal a' w') l a):(Code.region id l.toArray false).wp P Q a w :=
 wp_region_list (by simpa using wpList_quiet l a w hC (by simpa using h))
end
open Go.RowKit
theorem eqi_pw(a b:Nat)(ha:a<2^256)(hb:b<2^256):∀ w,(Op.equalIn 10000 24 (.agg (pw a)) (.agg (pw b))).run Tryz.prog w=.ok (decide (a=b)) w:=by
 obtain⟨x0,x1,x2,x3,u0,u1,u2,u3,ex,nx⟩:=wv_parts a;obtain⟨y0,y1,y2,y3,v0,v1,v2,v3,ey,ny⟩:=wv_parts b;rw[wv_pw]at ex ey;rw[ex,ey];intro w;have h:=eqW x0 x1 x2 x3 y0 y1 y2 y3 w;have e:((x0 == y0)&&((x1 == y1)&&((x2 == y2)&&(x3 == y3))))=decide (a=b):=by
  rw[Nat.mod_eq_of_lt ha]at nx;rw[Nat.mod_eq_of_lt hb]at ny;rw[<- nx,<- ny,Bool.eq_iff_iff];simp only[Bool.and_eq_true,beq_iff_eq,decide_eq_true_eq];unfold n4;omega
 rw[e]at h;exact h
theorem eqw_run(a b:Nat)(ha:a<2^256)(hb:b<2^256)(w:World):(binOp BinOp.eql 24 (.agg (pw a)) (.agg (pw b))).run Tryz.prog w=.ok (.bool (decide (a=b))) w:=by
 have h:=eqi_pw a b ha hb;obtain⟨x0,x1,x2,x3,-,-,-,-,ex,-⟩:=wv_parts a;obtain⟨y0,y1,y2,y3,-,-,-,-,ey,-⟩:=wv_parts b;rw[wv_pw]at ex ey;rw[ex,ey]at h |-
 go_simp
theorem new_run(a b:Nat)(ha:a<2^256)(hb:b<2^256)(w:World):(binOp BinOp.neq 24 (.agg (pw a)) (.agg (pw b))).run Tryz.prog w=.ok (.bool (!decide (a=b))) w:=by
 have h:=eqi_pw a b ha hb;obtain⟨x0,x1,x2,x3,-,-,-,-,ex,-⟩:=wv_parts a;obtain⟨y0,y1,y2,y3,-,-,-,-,ey,-⟩:=wv_parts b;rw[wv_pw]at ex ey;rw[ex,ey]at h |-
 go_simp
structure CBm (w:World) (m:Nat) (wx:World):Prop where
 old:Below w.heap.size w wx
 r0:wx.heap[w.heap.size]?=some (.cells (pw m) 24 (0,0))
theorem CBm.below{w wx w':World}{m:Nat}(c:CBm w m wx)(hb:Below wx.heap.size wx w'):CBm w m w' :=
 ⟨c.old.trans (hb.mono c.old.size),(hb.block _ (Array.getElem?_eq_some_iff.1 c.r0).1).trans c.r0⟩
theorem CBm.drew{w wx:World}{m:Nat}(c:CBm w m wx):CBm w m wx.drew:=c.below (Below.drew (Below.refl _ _))
theorem CBm.start(w:World)(m:Nat):CBm w m (w.alloc (.cells (pw m) 24)):=⟨by go_grown,heap_alloc_new _ _⟩
theorem CBm.calls{w:World}{m:Nat}{f:FuncId}{args:Array Value}{v:Value}(h:∀ wx,Calls Tryz.prog f args wx fun e w'=>e=.returned v/\Below wx.heap.size wx w'):∀ wx,CBm w m wx->Calls Tryz.prog f args wx fun e w'=>e=.returned v/\CBm w m w' :=
 fun wx c=>(h wx).mono fun _ _ hh=>⟨hh.1,c.below hh.2⟩
end Go.Proofs.YthnckclbeecnmaaGreat
namespace Go.Proofs.YthnckclbeecnmaaGreat.Sy
open Go.RowKit
structure Ar where
 T:TypeId
 n:Nat
 e:TypeId
 sz:Nat
 m:Bool
 zero:SV
structure Ar.Good (P:Program) (y:Ar):Prop where
 u:P.underlying y.T=some (.array y.n y.e)
 sz:(P.info? y.e).map (·.size)=some y.sz
 d:(P.underlying y.e).map isRow=some y.m
 zero:((P.info? y.T).bind (·.zero)).map (·.cells)=some (y.zero.cells fun _=>0).toArray
 zlt:y.zero.lt 0=true
 zok:y.zero.ok
def arIn(T:TypeId):List Ar->Option Ar
 | []=>none
 | y::l=>if y.T=T then some y else arIn T l
theorem arIn_ok{T:TypeId}{y:Ar}:∀ {l:List Ar},arIn T l=some y->y∈l/\y.T=T
 | [],h=>by cases h
 | z::l,h=>by
  unfold arIn at h
  split at h
  ·cases h;rename_i e;exact⟨.head _,e⟩
  ·have:=arIn_ok h;exact⟨.tail _ this.1,this.2⟩
def idxA(l:List Ar)(T:TypeId)(x y:SV):Option SV:=match arIn T l,natS y with
 | some q,some i=>if i<q.n/\x.many=true then SV.sub q.m (i*q.sz) q.sz x else none
 | _,_=>none
theorem part_ok{P:Program}{γ:Pl}{wx:World}{e:TypeId}{m:Bool}{off sz:Nat}{x r:SV}(hd:(P.underlying e).map isRow=some m)(hs:(P.info? e).map (·.size)=some sz)(h:SV.sub m off sz x=some r) :
  (part e (x.cells γ).toArray off).run P wx=.ok (r.val γ) wx:=by
 have q:=SV.sub_ok γ h;obtain⟨d,hu,hm⟩:=desc_of hd;have hl:=SV.cells_len γ r;have hag:(isAgg e).run P wx=.ok m wx:=by
  unfold isAgg;rw[Sem.run_bind,run_underlying hu wx];subst hm;cases d <;> rfl
 have hsz:(sizeOf e).run P wx=.ok sz wx:=by
  cases hi:P.info? e with
  | none=>rw[hi]at hs;cases hs
  | some i =>
   rw[hi]at hs;cases hs;simp[sizeOf,typeInfo,hi]
 unfold part;rw[Sem.run_bind,hag];cases m with
 | true =>
  have ex:List.take sz (List.drop off (x.cells γ))=r.cells γ:=by
   apply List.ext_getElem?;intro j;rw[List.getElem?_take];by_cases hj:j<sz
   ·rw[if_pos hj,List.getElem?_drop,q.cells j hj]
   ·rw[if_neg hj,List.getElem?_eq_none (by rw[hl,q.size];omega)]
  have hv:r.val γ=.agg (r.cells γ).toArray:=SV.val_many q.kind;simp[hsz,ex,hv]
 | false =>
  have ho:r.one=true:=q.kind;have h1:=SV.one_size ho;have h2:=q.cells 0 (by have:=q.size;omega);rw[SV.val_one ho,Nat.add_zero]at h2;have h3:(x.cells γ).toArray[off]?=some (r.val γ):=by simpa using h2
  simp[h3,Sem.run_pure]
theorem idxA_ok{P:Program}{l:List Ar}(hl:∀ q∈l,q.Good P){T:TypeId}{x y r:SV}{n:Nat}(h:idxA l T x y=some r)(hx:x.lt n=true)(ho:x.ok)(hy:y.ok):r.ok/\r.lt n=true/\∀ γ wx,(Instr.index T (x.val γ) (y.val γ)).run P wx=.ok (r.val γ) wx:=by
 unfold idxA at h
 split at h
 ·rename_i q i hq hi
  split at h
  ·rename_i hc
   obtain⟨hq',rfl⟩:=arIn_ok hq;have g:=hl q hq';have pt:=SV.sub_ok (fun _=>0) h;refine⟨pt.ok ho,pt.lt n hx,fun γ wx=>?_⟩;have hp:=part_ok (γ:=γ) (wx:=wx) g.d g.sz h;have hsz:(sizeOf q.e).run P wx=.ok q.sz wx:=by
    have hs:=g.sz;cases hi:P.info? q.e with
    | none=>rw[hi]at hs;cases hs
    | some i =>
     rw[hi]at hs;have:=Option.some.inj hs;simp[sizeOf,typeInfo,hi,this]
   rw[(natS_ok hi hy).1,SV.val_many hc.2];have h0:(0:Int)<=(i:Int)/\(i:Int)<(q.n:Int):=by omega
   simp only[Instr.index,asIntOf,Sem.run_bind,Sem.run_pure,Result.andThen_ok,run_underlying g.u,h0,and_self,if_true,hsz,Int.toNat_natCast];simpa[hsz]using hp
  ·cases h
 ·cases h
def bldA(l:List Ar)(T:TypeId)(ps:List (Nat × SV)):Option SV:=match arIn T l with
 | some q=>if ps.all (fun x=>decide (x.1<q.n)&&(x.2.one||x.2.many)&&x.2.lt 0)=true then match fillS ((List.range q.n).map fun i=>(i*q.sz,q.sz)) q.zero ps with
  | some r=>if r.many=true then some r else none
  | none=>none
  else none
 | none=>none
theorem bldA_ok{P:Program}{l:List Ar}(hl:∀ q∈l,q.Good P){T:TypeId}{ps:List (Nat × SV)}{r:SV}(h:bldA l T ps=some r)(ho:∀ x∈ps,x.2.ok):r.ok/\r.lt 0=true/\r.many=true/\∀ γ,P.built T (ps.map fun x=>(x.1,x.2.val γ))=some (r.cells γ).toArray:=by
 unfold bldA at h
 split at h
 ·rename_i q hq
  split at h
  ·rename_i hall
   split at h
   ·rename_i r' hf
    split at h
    ·rename_i hm
     cases h;obtain⟨hq',rfl⟩:=arIn_ok hq;have g:=hl q hq';have hv:=List.all_eq_true.1 hall;have hlt:∀ x∈ps,x.2.lt 0=true:=fun x hx=>by
      have:=hv x hx;simp only[Bool.and_eq_true]at this;exact this.2
     have okz:=fillS_okay (n:=0) hf (fun x hx=>⟨ho x hx,hlt x hx⟩) g.zok g.zlt;refine⟨okz.1,okz.2,hm,fun γ=>?_⟩;have hz:((P.info? q.T).bind (·.zero)).map (·.cells)=some (q.zero.cells γ).toArray:=by
      rw[<- (SV.lt_same (γ:=fun _=>0) (δ:=γ) (n:=0) (fun k hk=>absurd hk (Nat.not_lt_zero _)) g.zlt).2.1];exact g.zero
     have hfill:=fill_ok (γ:=γ) hf fun x hx=>by
      have:=hv x hx;simp only[Bool.and_eq_true]at this;exact this.1.2
     have hs:=g.sz;unfold Program.built;cases hi:P.info? q.T with
     | none=>rw[hi]at hz;cases hz
     | some it =>
      rw[hi]at hz;cases hzz:it.zero with
      | none=>rw[Option.bind_some,hzz]at hz;cases hz
      | some zv =>
       rw[Option.bind_some,hzz]at hz;have hz':zv.cells=(q.zero.cells γ).toArray:=Option.some.inj hz;cases hie:P.info? q.e with
       | none=>rw[hie]at hs;cases hs
       | some ie =>
        rw[hie]at hs;have hs':ie.size=q.sz:=Option.some.inj hs;simp only[g.u,hzz,hie,hz',hs'];refine(fill_congr fun x hx=>?_).trans hfill;obtain⟨y,hy,rfl⟩:=List.mem_map.1 hx;have h1:=hv y hy;simp only[Bool.and_eq_true,decide_eq_true_eq]at h1;simp[h1.1.1]
    ·cases h
   ·cases h
  ·cases h
 ·cases h
theorem at_arr{P:Program}{T e:TypeId}{n sz:Nat}{g o i:Nat}(hu:P.underlying T=some (.array n e))(hs:(P.info? e).map (·.size)=some sz)(hi:i<n)(w:World):(Instr.indexAt T (.pointer (some ⟨g,o,none⟩)) (.int .i64 (i:Nat))).run P w=.ok (.pointer (some ⟨g,o+i*sz,none⟩)) w:=by
 cases hq:P.info? e with
 | none=>simp[hq]at hs
 | some it =>
  have h2:it.size=sz:=by simpa[hq]using hs
  have hadd:∀ j,(⟨g,o,none⟩:Addr).add j=⟨g,o+j,none⟩:=fun j=>by unfold Addr.add;split <;> simp_all
  have h0:(0:Int)<=(i:Nat)/\((i:Nat):Int)<(n:Nat):=⟨by omega,by omega⟩
  simp[Instr.indexAt,asIntOf,Instr.sureAddr,run_underlying hu,sizeOf,typeInfo,hq,h0,h2,hadd,Result.andThen];intro h;omega
def ixaA(l:List Ar)(T:TypeId)(x y:SV):Option (SV × List Ob):=match x,arIn T l,natS y with
 | .p g o _ 0,some q,some i=>if i<q.n then some (.p g (o+i*q.sz) 0 0,[])else none
 | _,_,_=>none
theorem ixaA_ok{P:Program}{l:List Ar}(hl:∀ q∈l,q.Good P){T:TypeId}{x y r:SV}{p:List Ob}{n:Nat}(h:ixaA l T x y=some (r,p))(hx:x.lt n=true)(hy:y.ok):r.ok/\r.lt n=true/\∀ γ wx,(Instr.indexAt T (x.val γ) (y.val γ)).run P wx=.ok (r.val γ) wx:=by
 unfold ixaA at h
 split at h
 ·rename_i g o j q i hq hi
  split at h
  ·rename_i hc
   cases h;obtain⟨hq',rfl⟩:=arIn_ok hq;have gd:=hl q hq';refine⟨trivial,hx,fun γ wx=>?_⟩;rw[(natS_ok hi hy).1];show(Instr.indexAt _ (.pointer (some ⟨γ g,o+j*0,none⟩)) _).run _ _=.ok (.pointer (some ⟨γ g,o+i*q.sz+0*0,none⟩)) wx;have e:o+i*q.sz+0*0=o+i*q.sz:=by omega
   rw[Nat.mul_zero,Nat.add_zero,e];exact at_arr (g:=γ g) (o:=o) (i:=i) gd.u gd.sz hc wx
  ·cases h
 ·cases h
end Go.Proofs.YthnckclbeecnmaaGreat.Sy
namespace Go.Proofs.YthnckclbeecnmaaGreat.Sy
open Go.RowKit
section
variable {P:Program} {κ:IntKind} {T e:TypeId} {n k d0:Nat}
def EqT(P:Program)(κ:IntKind)(T:TypeId)(k d0:Nat):Prop:=∀(d:Nat) (la lb:List Int),la.length=k->lb.length=k->∀ w,(Op.equalIn (d+d0) T (.agg (la.map (Value.int κ)).toArray) (.agg (lb.map (Value.int κ)).toArray)).run P w=.ok (decide (la=lb)) w
theorem forIn_each(w:World)(q:Nat->Bool)(body:Nat->Option Bool × Unit->Sem (ForInStep (Option Bool × Unit))):∀ l:List Nat,
  (∀ i,i∈l->(body i (none,())).run P w=.ok (if q i then .yield (none,())else .done (some false,())) w) ->
  (forIn l (none,()) body).run P w=.ok (if l.all q then (none,())else (some false,())) w
 | [],_=>by simp[Sem.run_pure]
 | a::l,h=>by
  have h1:=h a (by simp);have h2:=forIn_each w q body l (fun i hi=>h i (by simp[hi]));rw[List.forIn_cons,Sem.run_bind,h1,Result.andThen_ok];cases hq:q a with
  | true =>
   simp only[hq,if_true,List.all_cons,Bool.true_and];exact h2
  | false=>simp[hq,Sem.run_pure]
theorem size_run(hs:(P.info? e).map (·.size)=some k)(w:World):(sizeOf e).run P w=.ok k w:=by
 cases hi:P.info? e with
 | none=>rw[hi]at hs;cases hs
 | some i =>
  rw[hi]at hs;cases hs;simp[sizeOf,typeInfo,hi]
theorem EqT.base(hT:P.underlying T=some (.array n e))(hE:P.underlying e=some (.int κ))(hs:(P.info? e).map (·.size)=some 1):EqT P κ T n 2:=fun d a b ha hb w=>by
 have hs:=size_run hs w;have hg:(isAgg e).run P w=.ok false w:=by
  unfold isAgg;rw[Sem.run_bind,run_underlying hE w];rfl
 rw[Op.equalIn];simp only[Sem.run_bind,run_underlying hT,Result.andThen_ok,hs];simp only[Std.Legacy.Range.forIn_eq_forIn_range',Std.Legacy.Range.size,Nat.sub_zero,Nat.add_sub_cancel,Nat.div_one];rw[forIn_each w (fun i=>a[i]? == b[i]?) _ (List.range' 0 n) (fun i hi=>?_)]
 ·have hd:(List.range' 0 n).all (fun i=>a[i]? == b[i]?)=decide (a=b):=by
   rw[Bool.eq_iff_iff,List.all_eq_true,decide_eq_true_iff];refine⟨fun h=>List.ext_getElem? fun i=>?_,fun h i _=>by rw[h];exact beq_self_eq_true _⟩;by_cases hi:i<n
   ·exact eq_of_beq (h i (by rw[List.mem_range'_1];omega))
   ·rw[List.getElem?_eq_none (by omega),List.getElem?_eq_none (by omega)]
  rw[hd];cases decide (a=b) <;> simp[Result.andThen,Sem.run_pure]
 ·have hin:i<n:=by
   rw[List.mem_range'_1]at hi;omega
  have p1:(a.map (Value.int κ)).toArray[i]?=some (.int κ a[i]):=by simp[ha,hin]
  have p2:(b.map (Value.int κ)).toArray[i]?=some (.int κ b[i]):=by simp[hb,hin]
  have he:(Op.equalIn (d+1) e (.int κ a[i]) (.int κ b[i])).run P w=.ok (a[i] == b[i]) w:=by
   rw[Op.equalIn];simp[Sem.run_bind,run_underlying hE,Sem.run_pure]
  have q1:a[i]?=some a[i]:=List.getElem?_eq_getElem _;have q2:b[i]?=some b[i]:=List.getElem?_eq_getElem _;simp only[Sem.run_bind,part,hg,Nat.mul_one,p1,p2,Result.andThen_ok,Bool.false_eq_true,if_false];simp[Sem.run_pure,hg,he,q1,q2];by_cases hq:a[i]=b[i] <;> simp[hq]
def subK{α:Type}(k i:Nat)(l:List α):List α:=(l.drop (i*k)).take k
theorem subK_len{α:Type}{l:List α}{i:Nat}(h:l.length=n*k)(hi:i<n):(subK k i l).length=k:=by
 have h1:i*k+k<=n*k:=by
  rw[<- Nat.succ_mul];exact Nat.mul_le_mul_right _ hi
 simp only[subK,List.length_take,List.length_drop];omega
theorem subK_ext{α:Type}{a b:List α}(ha:a.length=n*k)(hb:b.length=n*k)(h:∀ i,i<n->subK k i a=subK k i b):a=b:=by
 apply List.ext_getElem?;intro j;by_cases hj:j<n*k
 ·have hk:0<k:=Nat.pos_of_ne_zero fun e=>by
   rw[e,Nat.mul_zero]at hj;omega
  have h1:=congrArg (fun l:List α=>l[j%k]?) (h (j / k) (Nat.div_lt_of_lt_mul (by rwa [Nat.mul_comm]at hj)));have h2:j / k*k+j%k=j:=Nat.div_add_mod' j k;simpa[subK,List.getElem?_take,Nat.mod_lt _ hk,List.getElem?_drop,h2]using h1
 ·rw[List.getElem?_eq_none (by omega),List.getElem?_eq_none (by omega)]
theorem EqT.step(hT:P.underlying T=some (.array n e))(hd:(P.underlying e).map isRow=some true)(hs:(P.info? e).map (·.size)=some k)(h:EqT P κ e k d0):EqT P κ T (n*k) (d0+1):=fun d a b ha hb w=>by
 have hs:=size_run hs w;have hg:(isAgg e).run P w=.ok true w:=by
  obtain⟨t,hu,hm⟩:=desc_of hd;unfold isAgg;rw[Sem.run_bind,run_underlying hu w];cases t <;> first | rfl | cases hm
 rw[<- Nat.add_assoc,Op.equalIn];simp only[Sem.run_bind,run_underlying hT,Result.andThen_ok,hs];simp only[Std.Legacy.Range.forIn_eq_forIn_range',Std.Legacy.Range.size,Nat.sub_zero,Nat.add_sub_cancel,Nat.div_one];rw[forIn_each w (fun i=>decide (subK k i a=subK k i b)) _ (List.range' 0 n) (fun i hi=>?_)]
 ·have hd:(List.range' 0 n).all (fun i=>decide (subK k i a=subK k i b))=decide (a=b):=by
   rw[Bool.eq_iff_iff,List.all_eq_true,decide_eq_true_iff];exact⟨fun h=>subK_ext ha hb fun i hi=>of_decide_eq_true (h i (by rw[List.mem_range'_1];omega)),fun h i _=>by rw[h];exact decide_eq_true rfl⟩
  rw[hd];cases decide (a=b) <;> simp[Result.andThen,Sem.run_pure]
 ·have hin:i<n:=by
   rw[List.mem_range'_1]at hi;omega
  have px:∀ l:List Int,(l.map (Value.int κ)).toArray.extract (i*k) (i*k+k)=((subK k i l).map (Value.int κ)).toArray:=fun l=>by
   simp[subK,List.map_take,List.map_drop]
  have he:=h d _ _ (subK_len ha hin) (subK_len hb hin) w;simp only[Sem.run_bind,part,hg,hs,Result.andThen_ok,if_true,Sem.run_pure,px,he];cases hq:decide (subK k i a=subK k i b) <;> simp[Sem.run_pure]
end
def limbs(l:List Nat):List Int:=l.flatMap fun x=>[limb 0 x,limb 1 x,limb 2 x,limb 3 x]
theorem limb_ext{x y:Nat}(hx:x<2^256)(hy:y<2^256)(h0:limb 0 x=limb 0 y)(h1:limb 1 x=limb 1 y)(h2:limb 2 x=limb 2 y)(h3:limb 3 x=limb 3 y):x=y:=by
 simp only[limb,Nat.pow_zero,Nat.div_one,Nat.pow_one]at h0 h1 h2 h3;have e256:(2:Nat)^256=115792089237316195423570985008687907853269984665640564039457584007913129639936:=by decide
 rw[e256]at hx hy;have e2:(18446744073709551616:Nat)^2=340282366920938463463374607431768211456:=by decide
 have e3:(18446744073709551616:Nat)^3=6277101735386680763835789423207666416102355444464034512896:=by decide
 rw[e2]at h2;rw[e3]at h3;omega
theorem limbs_eq:∀ {a b:List Nat},(∀ x∈a,x<2^256)->(∀ x∈b,x<2^256)->(limbs a=limbs b↔a=b)
 | [],[],_,_=>by simp
 | [],y::b,_,_=>by simp[limbs]
 | x::a,[],_,_=>by simp[limbs]
 | x::a,y::b,ha,hb=>by
  have ih:=limbs_eq (a:=a) (b:=b) (fun z hz=>ha z (.tail _ hz)) fun z hz=>hb z (.tail _ hz);constructor
  ·intro h
   have h':limb 0 x::limb 1 x::limb 2 x::limb 3 x::limbs a=limb 0 y::limb 1 y::limb 2 y::limb 3 y::limbs b:=h;simp only[List.cons.injEq]at h';rw[limb_ext (ha x (.head _)) (hb y (.head _)) h'.1 h'.2.1 h'.2.2.1 h'.2.2.2.1,ih.1 h'.2.2.2.2]
  ·intro h
   rw[h]
def wordsS:SV->Option (List Nat)
 | .w x=>some [x]
 | .e=>some []
 | .ap h t=>match wordsS h,wordsS t with
  | some a,some b=>some (a++b)
  | _,_=>none
 | _=>none
theorem wordsS_ok(γ:Pl):∀(x:SV) {l:List Nat},wordsS x=some l->x.cells γ=(limbs l).map (Value.int .u64)/\x.many=true/\(x.ok->∀ z∈l,z<2^256)
 | .w x,l,h=>by
  cases h;refine⟨?_,rfl,fun ho z hz=>by
   rw[List.mem_singleton.1 hz];exact ho⟩
  show(pw x).toList=_;simp[pw,limbs,limb]
 | .e,l,h=>by
  cases h;exact⟨rfl,rfl,fun _ z hz=>by cases hz⟩
 | .ap a t,l,h=>by
  unfold wordsS at h
  split at h
  ·rename_i u v hu hv
   cases h;have h1:=wordsS_ok γ a hu;have h2:=wordsS_ok γ t hv;refine⟨?_,rfl,fun ho z hz=>?_⟩
   ·show a.cells γ++t.cells γ=_
    rw[h1.1,h2.1];simp[limbs]
   ·rcases List.mem_append.1 hz with hz | hz
    ·exact h1.2.2 ho.1 z hz
    ·exact h2.2.2 ho.2 z hz
  ·cases h
 | .b _,_,h | .i _ _,_,h | .na _,_,h | .v _,_,h | .p _ _ _ _,_,h | .s _ _ _ _,_,h | .tu _ _,_,h | .gd _ _,_,h | .fn _ _ _,_,h=>by cases h
theorem eqWs_run{P:Program}{T:TypeId}{k d0:Nat}(h:EqT P .u64 T (4*k) d0)(hd:d0<=10000){x y:SV}{a b:List Nat}(hx:wordsS x=some a)(hy:wordsS y=some b)(ha:a.length=k)(hb:b.length=k)(ox:x.ok)(oy:y.ok)(γ:Pl)(w:World) :
  (binOp BinOp.eql T (x.val γ) (y.val γ)).run P w=.ok (.bool (decide (a=b))) w/\(binOp BinOp.neq T (x.val γ) (y.val γ)).run P w=.ok (.bool (!decide (a=b))) w:=by
 have h1:=wordsS_ok γ x hx;have h2:=wordsS_ok γ y hy;have len:∀ l:List Nat,(limbs l).length=4*l.length:=fun l=>by
  induction l with
  | nil=>rfl
  | cons x l ih =>
   show((limbs l).length+1+1+1+1)=4*(l.length+1);omega
 have hr:=h (10000 - d0) (limbs a) (limbs b) (by rw[len,ha]) (by rw[len,hb]) w;rw[Nat.sub_add_cancel hd,<- h1.1,<- h2.1]at hr;have e:decide (limbs a=limbs b)=decide (a=b):=by
  rw[Bool.eq_iff_iff,decide_eq_true_iff,decide_eq_true_iff];exact limbs_eq (h1.2.2 ox) (h2.2.2 oy)
 rw[e]at hr;rw[SV.val_many h1.2.1,SV.val_many h2.2.1];constructor <;> simp[binOp,Op.equal,Op.maxDepth,hr]
end Go.Proofs.YthnckclbeecnmaaGreat.Sy
namespace Go.Proofs.YthnckclbeecnmaaGreat.Sy
open Go.RowKit
abbrev Con:=FuncId × (Nat->Rows->List SV->Option (SV × List Ob × Rows))
def conIn(f:FuncId):List Con->Nat->Rows->List SV->Option (SV × List Ob × Rows)
 | [],_,_,_=>none
 | c::l,n,M,us=>if c.1=f then c.2 n M us else conIn f l n M us
structure ConOk (P:Program) (base:Nat) (γ0:Pl) (w0:World) (c:Con):Prop where
 call:∀ as_ wx,(callFunc c.1 as_).run P wx=.ok (.enter c.1 as_) wx
 all:∀ n M l r p R,c.2 n M l=some (r,p,R)->All p->base<=n->(∀ x∈l,x.ok/\x.lt n=true)->(∀ r∈M,r.2.1.ok/\r.2.1.lt n=true)->r.ok/\r.lt (n+R.length)=true/\(∀ q∈R,q.2.1.ok/\q.2.1.lt (n+R.length)=true/\n<=q.1/\q.1<n+R.length) /\
  ∀ γ,(∀ k,k<base->γ k=γ0 k)->∀ wx,Below w0.heap.size w0 wx->Lies γ n M wx->Calls P c.1 (l.map (·.val γ)).toArray wx (Made γ n r R wx)
theorem ConOk.of{P:Program}{base:Nat}{γ0:Pl}{w0:World}{c:Con}(hc:∀ as_ wx,(callFunc c.1 as_).run P wx=.ok (.enter c.1 as_) wx)
  (h:∀ n M l r p R,c.2 n M l=some (r,p,R)->All p->(∀ x∈l,x.ok)->R=[]/\r.ok/\r.lt 0=true/\∀ γ,(∀ k,k<base->γ k=γ0 k)->∀ wx,Below w0.heap.size w0 wx->Lies γ n M wx->Calls P c.1 (l.map (·.val γ)).toArray wx fun e w'=>e=.returned (r.val γ)/\Below wx.heap.size wx w'):ConOk P base γ0 w0 c :=
 ⟨hc,fun n M l r p R h1 h2 hn h3 _=>by
  obtain⟨rfl,q1,q2,q3⟩:=h n M l r p R h1 h2 fun x hx=>(h3 x hx).1;exact⟨q1,SV.lt_mono (Nat.zero_le _) q2,fun q hq=>(by cases hq),fun γ hγ wx hw hL=>(q3 γ hγ wx hw hL).mono fun e w' hh=>⟨⟨γ,fun _ _=>rfl,hh.1,fun q hq=>(by cases hq),.nil⟩,hh.2⟩⟩⟩
theorem conIn_ok{P:Program}{base:Nat}{γ0:Pl}{w0:World}{f:FuncId}{n:Nat}{M:Rows}{us:List SV}{q:SV × List Ob × Rows}:∀ {l:List Con},(∀ c∈l,ConOk P base γ0 w0 c)->conIn f l n M us=some q->∃ c:Con,ConOk P base γ0 w0 c/\c.1=f/\c.2 n M us=some q
 | [],_,h=>by cases h
 | c::l,hl,h=>by
  unfold conIn at h
  split at h
  ·rename_i e;exact⟨c,hl c (.head _),e,h⟩
  ·exact conIn_ok (fun d hd=>hl d (.tail _ hd)) h
def conAll(P:Program)(base:Nat)(γ0:Pl)(w0:World):List Con->Prop
 | []=>True
 | c::l=>ConOk P base γ0 w0 c/\conAll P base γ0 w0 l
theorem conAll_mem{P:Program}{base:Nat}{γ0:Pl}{w0:World}:∀ {l:List Con},conAll P base γ0 w0 l->∀ c∈l,ConOk P base γ0 w0 c
 | [],_,c,h=>by cases h
 | y::l,ha,c,h=>by
  rcases List.mem_cons.1 h with rfl | h
  ·exact ha.1
  ·exact conAll_mem ha.2 c h
theorem ConOk.mono{P:Program}{base b:Nat}{γ0:Pl}{w0:World}{c:Con}(hb:b<=base)(h:ConOk P b γ0 w0 c):ConOk P base γ0 w0 c :=
 ⟨h.call,fun n M l r p R h1 h2 hn h3 h4=>by
  have q:=h.all n M l r p R h1 h2 (Nat.le_trans hb hn) h3 h4;exact⟨q.1,q.2.1,q.2.2.1,fun γ hγ=>q.2.2.2 γ fun k hk=>hγ k (Nat.lt_of_lt_of_le hk hb)⟩⟩
theorem conAll_mono{P:Program}{base b:Nat}{γ0:Pl}{w0:World}(hb:b<=base):∀ {l:List Con},conAll P b γ0 w0 l->conAll P base γ0 w0 l
 | [],_=>trivial
 | _::_,h=>⟨h.1.mono hb,conAll_mono hb h.2⟩
/-! Numbers. -/
def eqN(a b:Nat):Bool:=decide (a=b)
def ltN(a b:Nat):Bool:=decide (a<b)
def eqI(a b:Int):Bool:=decide (a=b)
def ltI(a b:Int):Bool:=decide (a<b)
def eqB(a b:Bool):Bool:=a == b
def cloS:SV->Option (IntKind × Int)
 | .v (.int k n)=>some (k,n)
 | _=>none
def intS:SV->Option (IntKind × Int)
 | .i k n=>some (k,n)
 | .na x=>some (.i64,(x:Nat))
 | .v (.int k n)=>some (k,n)
 | _=>none
def bitS:SV->Option Bool
 | .b t=>some t
 | .v (.bool t)=>some t
 | _=>none
def cloO(op:BinOp)(k:IntKind)(a b:Int):Option SV:=match op with
 | .eql=>some (.v (.bool (decide (a=b))))
 | .neq=>some (.v (.bool (!decide (a=b))))
 | .lss=>some (.v (.bool (decide (a<b))))
 | .leq=>some (.v (.bool (decide (a<=b))))
 | .gtr=>some (.v (.bool (decide (a > b))))
 | .geq=>some (.v (.bool (decide (a ≥ b))))
 | .add=>some (.v (.int k (k.wrap (a+b))))
 | .sub=>some (.v (.int k (k.wrap (a - b))))
 | .mul=>some (.v (.int k (k.wrap (a*b))))
 | .quo=>if b=0 then none else some (.v (.int k (k.wrap (a.tdiv b))))
 | .rem=>if b=0 then none else some (.v (.int k (a.tmod b)))
 | _=>none
def natO(op:BinOp)(a b:Nat):Option (SV × List Ob):=match op with
 | .eql=>some (.b (eqN a b),[])
 | .neq=>some (.b (!eqN a b),[])
 | .lss=>some (.b (ltN a b),[])
 | .leq=>some (.b (!ltN b a),[])
 | .gtr=>some (.b (ltN b a),[])
 | .geq=>some (.b (!ltN a b),[])
 | .add=>some (.na (a+b),[.ask (a+b<2^62)])
 | .sub=>some (.i .i64 ((a:Nat) - (b:Nat):Int),[])
 | .mul=>some (.na (a*b),[.ask (a*b<2^62)])
 | .quo=>if b=0 then none else some (.na (a / b),[])
 | .rem=>if b=0 then none else some (.na (a%b),[])
 | _=>none
def shrI(k:IntKind)(a b:Int):Int:=a.fdiv (2^(min b.toNat k.bits))
def andI(k:IntKind)(a b:Int):Int:=k.wrap ((BitVec.ofInt k.bits a &&& BitVec.ofInt k.bits b).toNat:Nat)
def intO(op:BinOp)(k:IntKind)(a b:Int):Option (SV × List Ob):=match op with
 | .eql=>some (.b (eqI a b),[])
 | .neq=>some (.b (!eqI a b),[])
 | .lss=>some (.b (ltI a b),[])
 | .leq=>some (.b (!ltI b a),[])
 | .gtr=>some (.b (ltI b a),[])
 | .geq=>some (.b (!ltI a b),[])
 | .add=>some (.i k (a+b),[.ask (k.wrap (a+b)=a+b)])
 | .sub=>some (.i k (a - b),[.ask (k.wrap (a - b)=a - b)])
 | .rem=>some (.i k (a.tmod b),[.ask (b≠0)])
 | .and=>some (.i k (andI k a b),[])
 | _=>none
def eqL(a b:List Nat):Bool:=decide (a=b)
def eqG(T:TypeId)(x y:SV):Option Bool:=match x,y with
 | .w a,.w b=>if T=24 then some (eqN a b)else none
 | x,y=>match bitS x,bitS y with
  | some a,some b=>if T=4 then some (eqB a b)else none
  | _,_=>match wordsS x,wordsS y with
   | some p,some q=>if T=26 then (if p.length=2/\q.length=2 then some (eqL p q)else none)else if T=38 then (if p.length=12/\q.length=12 then some (eqL p q)else none)else none
   | _,_=>none
theorem eqT_W:EqT Tryz.prog .u64 24 4 2:=EqT.base Tryz.underlying24 Tryz.underlying22 (by kernel_rfl)
theorem eqT_2:EqT Tryz.prog .u64 26 (2*4) 3:=EqT.step Tryz.underlying26 (by kernel_rfl) (by kernel_rfl) eqT_W
theorem eqT_12:EqT Tryz.prog .u64 38 (6*8) 4:=EqT.step Tryz.underlying38 (by kernel_rfl) (by kernel_rfl) eqT_2
def shrS(x y:SV):Option (SV × List Ob):=match intS x,intS y with
 | some p,some q=>some (.i p.1 (shrI p.1 p.2 q.2),[.ask (0<=q.2)])
 | _,_=>none
def bopO(op:BinOp)(T:TypeId)(x y:SV):Option (SV × List Ob):=match cloS x,cloS y with
 | some p,some q=>if p.1=q.1 then (cloO op p.1 p.2 q.2).map (·,[])else none
 | _,_=>match natS x,natS y with
  | some a,some b=>natO op a b
  | _,_=>match intS x,intS y with
   | some p,some q=>if p.1=q.1 then intO op p.1 p.2 q.2 else none
   | _,_=>match op with
    | .eql=>(eqG T x y).map fun t=>(.b t,[])
    | .neq=>(eqG T x y).map fun t=>(.b (!t),[])
    | _=>none
section
variable {P:Program} {γ:Pl} {x y r:SV}
theorem intS_ok{k:IntKind}{n:Int}(h:intS x=some (k,n)):x.val γ=.int k n:=by
 unfold intS at h
 split at h <;> cases h <;> rfl
theorem cloS_ok{k:IntKind}{n:Int}(h:cloS x=some (k,n)):x.val γ=.int k n:=by
 unfold cloS at h
 split at h <;> cases h
 rfl
theorem bitS_ok{t:Bool}(h:bitS x=some t):x.val γ=.bool t:=by
 unfold bitS at h
 split at h <;> cases h <;> rfl
theorem int_guard(op:BinOp)(T:TypeId)(ox oy:Operand)(k k':IntKind)(a b:Int)(w:World):(eqGuard op T ox oy (.int k a) (.int k' b)).run P w=.ok () w:=by
 unfold eqGuard;cases op <;> rfl
theorem bool_guard(op:BinOp)(T:TypeId)(ox oy:Operand)(a b:Bool)(w:World):(eqGuard op T ox oy (.bool a) (.bool b)).run P w=.ok () w:=by
 unfold eqGuard;cases op <;> rfl
theorem int_eql(T:TypeId)(k:IntKind)(a b:Int)(w:World):(binOp .eql T (.int k a) (.int k b)).run P w=.ok (.bool (decide (a=b))) w:=by
 cases k <;> rfl
theorem int_neq(T:TypeId)(k:IntKind)(a b:Int)(w:World):(binOp .neq T (.int k a) (.int k b)).run P w=.ok (.bool (!decide (a=b))) w:=by
 cases k <;> rfl
theorem int_lss(T:TypeId)(k:IntKind)(a b:Int)(w:World):(binOp .lss T (.int k a) (.int k b)).run P w=.ok (.bool (decide (a<b))) w:=by
 cases k <;> rfl
theorem int_leq(T:TypeId)(k:IntKind)(a b:Int)(w:World):(binOp .leq T (.int k a) (.int k b)).run P w=.ok (.bool (decide (a<=b))) w:=by
 cases k <;> rfl
theorem int_gtr(T:TypeId)(k:IntKind)(a b:Int)(w:World):(binOp .gtr T (.int k a) (.int k b)).run P w=.ok (.bool (decide (a > b))) w:=by
 cases k <;> rfl
theorem int_geq(T:TypeId)(k:IntKind)(a b:Int)(w:World):(binOp .geq T (.int k a) (.int k b)).run P w=.ok (.bool (decide (a ≥ b))) w:=by
 cases k <;> rfl
theorem int_add(T:TypeId)(k:IntKind)(a b:Int)(w:World):(binOp .add T (.int k a) (.int k b)).run P w=.ok (.int k (k.wrap (a+b))) w:=by
 cases k <;> rfl
theorem int_sub(T:TypeId)(k:IntKind)(a b:Int)(w:World):(binOp .sub T (.int k a) (.int k b)).run P w=.ok (.int k (k.wrap (a - b))) w:=by
 cases k <;> rfl
theorem int_mul(T:TypeId)(k:IntKind)(a b:Int)(w:World):(binOp .mul T (.int k a) (.int k b)).run P w=.ok (.int k (k.wrap (a*b))) w:=by
 cases k <;> rfl
theorem int_quo(T:TypeId)(k:IntKind)(a b:Int)(hb:b≠0)(w:World):(binOp .quo T (.int k a) (.int k b)).run P w=.ok (.int k (k.wrap (a.tdiv b))) w:=by
 cases k <;> simp[binOp,Op.intDiv,hb]
theorem int_rem(T:TypeId)(k:IntKind)(a b:Int)(hb:b≠0)(w:World):(binOp .rem T (.int k a) (.int k b)).run P w=.ok (.int k (a.tmod b)) w:=by
 cases k <;> simp[binOp,Op.intDiv,hb]
theorem int_and(T:TypeId)(k:IntKind)(a b:Int)(w:World):(binOp .and T (.int k a) (.int k b)).run P w=.ok (.int k (andI k a b)) w:=by
 cases k <;> rfl
theorem int_shr(T:TypeId)(k k':IntKind)(a b:Int)(hb:0<=b)(w:World):(binOp .shr T (.int k a) (.int k' b)).run P w=.ok (.int k (shrI k a b)) w:=by
 have h:¬b<0:=by omega
 simp[binOp,Op.shift,h,shrI]
theorem cloO_ok{op:BinOp}{k:IntKind}{a b:Int}(h:cloO op k a b=some r)(T:TypeId)(w:World):r.ok/\r.lt 0=true/\(binOp op T (.int k a) (.int k b)).run P w=.ok (r.val γ) w:=by
 cases op <;> first | (cases h;done) | skip
 ·cases h;exact⟨trivial,rfl,int_add T k a b w⟩
 ·cases h;exact⟨trivial,rfl,int_sub T k a b w⟩
 ·cases h;exact⟨trivial,rfl,int_mul T k a b w⟩
 ·unfold cloO at h
  dsimp only at h
  split at h
  ·cases h
  ·rename_i hb;cases h;exact⟨trivial,rfl,int_quo T k a b hb w⟩
 ·unfold cloO at h
  dsimp only at h
  split at h
  ·cases h
  ·rename_i hb;cases h;exact⟨trivial,rfl,int_rem T k a b hb w⟩
 ·cases h;exact⟨trivial,rfl,int_eql T k a b w⟩
 ·cases h;exact⟨trivial,rfl,int_neq T k a b w⟩
 ·cases h;exact⟨trivial,rfl,int_lss T k a b w⟩
 ·cases h;exact⟨trivial,rfl,int_leq T k a b w⟩
 ·cases h;exact⟨trivial,rfl,int_gtr T k a b w⟩
 ·cases h;exact⟨trivial,rfl,int_geq T k a b w⟩
theorem natO_ok{op:BinOp}{a b:Nat}{p:List Ob}(h:natO op a b=some (r,p))(hp:All p)(ha:a<2^62)(hb62:b<2^62)(T:TypeId)(w:World):r.ok/\r.lt 0=true/\(binOp op T (.int .i64 (a:Nat)) (.int .i64 (b:Nat))).run P w=.ok (r.val γ) w:=by
 have h62:(2:Nat)^62=4611686018427387904:=by decide
 have e1:∀ a b:Nat,decide (((a:Nat):Int)=((b:Nat):Int))=eqN a b:=fun a b=>decide_eq_decide.2 (by omega);have e2:∀ a b:Nat,decide (((a:Nat):Int)<((b:Nat):Int))=ltN a b:=fun a b=>decide_eq_decide.2 (by omega);have e3:∀ a b:Nat,decide (((a:Nat):Int)<=((b:Nat):Int))=!ltN b a:=fun a b=>by
  unfold ltN;rw[<- decide_not];exact decide_eq_decide.2 (by omega)
 cases op <;> first | (cases h;done) | skip
 ·cases h
  have hlt:a+b<2^62:=hp _ (.head _);refine⟨hlt,rfl,(int_add T .i64 a b w).trans ?_⟩;rw[wrap_in (by omega) (by omega)];rfl
 ·cases h
  refine⟨trivial,rfl,(int_sub T .i64 a b w).trans ?_⟩;rw[wrap_in (by omega) (by omega)];rfl
 ·cases h
  have hlt:a*b<2^62:=hp _ (.head _);refine⟨hlt,rfl,(int_mul T .i64 a b w).trans ?_⟩;rw[<- Int.natCast_mul,wrap_in (by omega) (by omega)];rfl
 ·unfold natO at h
  dsimp only at h
  split at h
  ·cases h
  ·rename_i hb
   cases h;have hq:a / b<=a:=Nat.div_le_self a b;refine⟨by show a / b<2^62;omega,rfl,(int_quo T .i64 a b (by omega) w).trans ?_⟩;show Result.ok (Value.int .i64 (IntKind.i64.wrap ((a / b:Nat):Int))) w=Result.ok (Value.int .i64 ((a / b:Nat):Int)) w;generalize a / b=q at hq;rw[wrap_in (by omega) (by omega)]
 ·unfold natO at h
  dsimp only at h
  split at h
  ·cases h
  ·rename_i hb
   cases h;have hq:a%b<=a:=Nat.mod_le a b;exact⟨by show a%b<2^62;omega,rfl,int_rem T .i64 a b (by omega) w⟩
 ·cases h;exact⟨trivial,rfl,(int_eql T .i64 a b w).trans (by rw[e1];rfl)⟩
 ·cases h;exact⟨trivial,rfl,(int_neq T .i64 a b w).trans (by rw[e1];rfl)⟩
 ·cases h;exact⟨trivial,rfl,(int_lss T .i64 a b w).trans (by rw[e2];rfl)⟩
 ·cases h;exact⟨trivial,rfl,(int_leq T .i64 a b w).trans (by rw[e3];rfl)⟩
 ·cases h;exact⟨trivial,rfl,(int_gtr T .i64 a b w).trans (by rw[show decide (((a:Nat):Int) > ((b:Nat):Int))=ltN b a from e2 b a];rfl)⟩
 ·cases h;exact⟨trivial,rfl,(int_geq T .i64 a b w).trans (by rw[show decide (((a:Nat):Int) ≥ ((b:Nat):Int))=!ltN a b from e3 b a];rfl)⟩
theorem intO_ok{op:BinOp}{k:IntKind}{a b:Int}{p:List Ob}(h:intO op k a b=some (r,p))(hp:All p)(T:TypeId)(w:World):r.ok/\r.lt 0=true/\(binOp op T (.int k a) (.int k b)).run P w=.ok (r.val γ) w:=by
 have e3:∀ a b:Int,decide (a<=b)=!ltI b a:=fun a b=>by
  unfold ltI;rw[<- decide_not];exact decide_eq_decide.2 (by omega)
 cases op <;> first | (cases h;done) | skip
 ·cases h
  have hw:k.wrap (a+b)=a+b:=hp _ (.head _);exact⟨trivial,rfl,(int_add T k a b w).trans (by rw[hw];rfl)⟩
 ·cases h
  have hw:k.wrap (a - b)=a - b:=hp _ (.head _);exact⟨trivial,rfl,(int_sub T k a b w).trans (by rw[hw];rfl)⟩
 ·cases h
  exact⟨trivial,rfl,int_rem T k a b (hp _ (.head _)) w⟩
 ·cases h
  exact⟨trivial,rfl,int_and T k a b w⟩
 ·cases h;exact⟨trivial,rfl,int_eql T k a b w⟩
 ·cases h;exact⟨trivial,rfl,int_neq T k a b w⟩
 ·cases h;exact⟨trivial,rfl,int_lss T k a b w⟩
 ·cases h;exact⟨trivial,rfl,(int_leq T k a b w).trans (by rw[e3];rfl)⟩
 ·cases h;exact⟨trivial,rfl,int_gtr T k a b w⟩
 ·cases h;exact⟨trivial,rfl,(int_geq T k a b w).trans (by rw[show decide (a ≥ b)=!ltI a b from e3 b a];rfl)⟩
end
theorem eqG_ok{T:TypeId}{x y:SV}{t:Bool}{γ:Pl}(h:eqG T x y=some t)(hx:x.ok)(hy:y.ok)(ox oy:Operand)(w:World):(∀ op,(eqGuard op T ox oy (x.val γ) (y.val γ)).run Tryz.prog w=.ok () w)/\(binOp .eql T (x.val γ) (y.val γ)).run Tryz.prog w=.ok (.bool t) w/\(binOp .neq T (x.val γ) (y.val γ)).run Tryz.prog w=.ok (.bool (!t)) w:=by
 unfold eqG at h
 split at h
 ·rename_i a b
  split at h
  ·rename_i e
   cases h;subst e;exact⟨fun op=>by cases op <;> kernel_rfl,eqw_run a b hx hy w,new_run a b hx hy w⟩
  ·cases h
 ·split at h
  ·rename_i a b ha hb
   split at h
   ·rename_i e
    cases h;subst e;rw[bitS_ok ha,bitS_ok hb];refine⟨fun op=>bool_guard op _ ox oy a b w,?_,?_⟩
    ·cases a <;> cases b <;> kernel_rfl
    ·cases a <;> cases b <;> kernel_rfl
   ·cases h
  ·split at h
   ·rename_i p q hp hq
    split at h
    ·rename_i e
     split at h
     ·rename_i hl
      cases h;subst e;have m1:=SV.val_many (γ:=γ) (wordsS_ok γ x hp).2.1;have m2:=SV.val_many (γ:=γ) (wordsS_ok γ y hq).2.1;exact⟨fun op=>by rw[m1,m2];cases op <;> kernel_rfl,eqWs_run (k:=2) (d0:=3) eqT_2 (by decide) hp hq hl.1 hl.2 hx hy γ w⟩
     ·cases h
    ·split at h
     ·rename_i e
      split at h
      ·rename_i hl
       cases h;subst e;have m1:=SV.val_many (γ:=γ) (wordsS_ok γ x hp).2.1;have m2:=SV.val_many (γ:=γ) (wordsS_ok γ y hq).2.1;exact⟨fun op=>by rw[m1,m2];cases op <;> kernel_rfl,eqWs_run (k:=12) (d0:=4) eqT_12 (by decide) hp hq hl.1 hl.2 hx hy γ w⟩
      ·cases h
     ·cases h
   ·cases h
theorem bopO_ok{op:BinOp}{T:TypeId}{x y r:SV}{p:List Ob}(h:bopO op T x y=some (r,p))(hp:All p)(hx:x.ok)(hy:y.ok):r.ok/\r.lt 0=true/\∀ γ (ox oy:Operand) wx,(eqGuard op T ox oy (x.val γ) (y.val γ)).run Tryz.prog wx=.ok () wx/\(binOp op T (x.val γ) (y.val γ)).run Tryz.prog wx=.ok (r.val γ) wx:=by
 have w:World:=default;unfold bopO at h
 split at h
 ·rename_i u v hu hv
  obtain⟨k,a⟩:=u;obtain⟨k',b⟩:=v
  split at h
  ·rename_i hk
   dsimp only at hk;subst hk;obtain⟨r',hr,e⟩:=Option.map_eq_some_iff.1 h;cases e;refine⟨(cloO_ok (P:=Tryz.prog) (γ:=fun _=>0) hr T w).1,(cloO_ok (P:=Tryz.prog) (γ:=fun _=>0) hr T w).2.1,fun γ ox oy wx=>?_⟩;rw[cloS_ok hu,cloS_ok hv];exact⟨int_guard op T ox oy _ _ _ _ wx,(cloO_ok hr T wx).2.2⟩
  ·cases h
 ·split at h
  ·rename_i a b ha hb
   have h1:=natS_ok (γ:=fun _=>0) ha hx;have h2:=natS_ok (γ:=fun _=>0) hb hy;refine⟨(natO_ok (P:=Tryz.prog) (γ:=fun _=>0) h hp h1.2 h2.2 T w).1,(natO_ok (P:=Tryz.prog) (γ:=fun _=>0) h hp h1.2 h2.2 T w).2.1,fun γ ox oy wx=>?_⟩;rw[(natS_ok ha hx).1,(natS_ok hb hy).1];exact⟨int_guard op T ox oy _ _ _ _ wx,(natO_ok h hp h1.2 h2.2 T wx).2.2⟩
  ·split at h
   ·rename_i u v hu hv
    obtain⟨k,a⟩:=u;obtain⟨k',b⟩:=v
    split at h
    ·rename_i hk
     dsimp only at hk;subst hk;refine⟨(intO_ok (P:=Tryz.prog) (γ:=fun _=>0) h hp T w).1,(intO_ok (P:=Tryz.prog) (γ:=fun _=>0) h hp T w).2.1,fun γ ox oy wx=>?_⟩;rw[intS_ok hu,intS_ok hv];exact⟨int_guard op T ox oy _ _ _ _ wx,(intO_ok h hp T wx).2.2⟩
    ·cases h
   ·split at h
    ·obtain⟨t,ht,e⟩:=Option.map_eq_some_iff.1 h
     cases e;refine⟨trivial,rfl,fun γ ox oy wx=>?_⟩;have q:=eqG_ok (γ:=γ) ht hx hy ox oy wx;exact⟨q.1 _,q.2.1⟩
    ·obtain⟨t,ht,e⟩:=Option.map_eq_some_iff.1 h
     cases e;refine⟨trivial,rfl,fun γ ox oy wx=>?_⟩;have q:=eqG_ok (γ:=γ) ht hx hy ox oy wx;exact⟨q.1 _,q.2.2⟩
    ·cases h
def bopG(op:BinOp)(T:TypeId)(x y:SV):Option (SV × List Ob):=match op with
 | .shr=>shrS x y
 | op=>bopO op T x y
theorem bopG_ok{op:BinOp}{T:TypeId}{x y r:SV}{p:List Ob}(h:bopG op T x y=some (r,p))(hp:All p)(hx:x.ok)(hy:y.ok):r.ok/\r.lt 0=true/\∀ γ (ox oy:Operand) wx,(eqGuard op T ox oy (x.val γ) (y.val γ)).run Tryz.prog wx=.ok () wx/\(binOp op T (x.val γ) (y.val γ)).run Tryz.prog wx=.ok (r.val γ) wx:=by
 unfold bopG at h
 split at h
 ·unfold shrS at h
  split at h
  ·rename_i u v hu hv
   obtain⟨k,a⟩:=u;obtain⟨k',b⟩:=v;cases h;have hb:0<=b:=hp _ (.head _);refine⟨trivial,rfl,fun γ ox oy wx=>?_⟩;rw[intS_ok hu,intS_ok hv];exact⟨int_guard .shr T ox oy k k' a b wx,int_shr T k k' a b hb wx⟩
  ·cases h
 ·exact bopO_ok h hp hx hy
end Go.Proofs.YthnckclbeecnmaaGreat.Sy
