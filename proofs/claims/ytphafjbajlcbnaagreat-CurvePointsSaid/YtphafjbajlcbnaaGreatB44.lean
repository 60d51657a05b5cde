/- bailiwicklaw08.CurvePoints: the statement about it: whatever the input: true; the input reads as it did. CONDITIONS: none. (Cut to what is reached, written closely: PEn · PLw · CurvePoints.) -/
import Derived.Test.YtphafjbajlcbnaaGreatB42
import Derived.Test.YtphafjbajlcbnaaGreatB43
import Derived.Test.YtphafjbajlcbnaaGreatB18
set_option linter.all false
set_option maxRecDepth 100000
set_option maxHeartbeats 8000000
namespace Go.Proofs.YtphafjbajlcbnaaGreat
open Go.RowKit
namespace Sy
def apL:List Int->SV
 | []=>.e
 | x::l=>.ap (.i .u8 x) (apL l)
theorem FI(γ:Pl):∀ l,(apL l).cells γ=l.map (Value.int .u8)
 | []=>rfl
 | x::l=>by
  show[_]++(apL l).cells γ=_;rw[FI γ l];rfl
theorem MR:∀ l,(apL l).ok
 | []=>trivial
 | _::l=>⟨trivial,MR l⟩
theorem MS(n:Nat):∀ l,(apL l).lt n=true
 | []=>rfl
 | _::l=>by simp only[apL,SV.lt,MS n l,Bool.and_self]
theorem Oy:∀ l,(apL l).many=true
 | []=>rfl
 | _::_=>rfl
theorem MU(γ:Pl)(l:List Int):(apL l).val γ=.agg (l.map (Value.int .u8)).toArray:=by rw[SV.val_many (Oy l),FI]
def l64(f:Nat->Nat):List Int:=(List.range 64).map fun j=>(f j:Int)
def Iz(f:Nat->Nat):SV:=apL (l64 f)
theorem A0p(f:Nat->Nat):((l64 f).map (Value.int .u8)).toArray=r64 f:=by simp[l64,r64,Function.comp_def]
theorem XC(f:Nat->Nat)(γ:Pl):(Iz f).val γ=.agg (r64 f):=by rw[Iz,MU,A0p]
def bsS:SV->Option (List Int)
 | .e=>some []
 | .ap (.i .u8 x) t=>(bsS t).map (x::·)
 | _=>none
theorem XD(x:SV):∀ {l:List Int},bsS x=some l->x=apL l:=by
 induction x with
 | e=>intro l h;cases h;rfl
 | ap a t _ ih =>
  intro l h;cases a <;> first | (cases h;done) | skip
  rename_i k n _;cases k <;> first | (cases h;done) | skip
  obtain⟨l',h',e⟩:=Option.map_eq_some_iff.1 h;subst e;rw[ih h'];rfl
 | _=>intro l h;cases h
theorem Lg(w:World)(q:Nat->Bool)(body:Nat->Option Bool × Unit->Sem (ForInStep (Option Bool × Unit))):∀ l:List Nat,
  (∀ i,i∈l->(body i (none,())).run Tryz.prog w=.ok (if q i then .yield (none,())else .done (some false,())) w) ->
  (forIn l (none,()) body).run Tryz.prog w=.ok (if l.all q then (none,())else (some false,())) w
 | [],_=>by simp[Sem.run_pure]
 | a::l,h=>by
  have h1:=h a υ;have h2:=Lg w q body l (fun i hi=>h i (by simp[hi]));rw[List.forIn_cons,Sem.run_bind,h1,Result.andThen_ok];cases hq:q a with
  | true =>
   simp only[hq,if_true,List.all_cons,Bool.true_and];exact h2
  | false=>simp[hq,Sem.run_pure]
theorem A0q{a b:List Int}(ha:a.length=64)(hb:b.length=64)(w:World):(binOp BinOp.eql 31 (.agg (a.map (Value.int .u8)).toArray) (.agg (b.map (Value.int .u8)).toArray)).run Tryz.prog w=.ok (.bool (decide (a=b))) w:=by
 have hT:=Tryz.underlying31;have hE:=Tryz.underlying5;have hs:(sizeOf 5).run Tryz.prog w=.ok 1 w:=by kernel_rfl
 have hg:(isAgg 5).run Tryz.prog w=.ok false w:=by kernel_rfl
 have h:(Op.equalIn (9998+2) 31 (.agg (a.map (Value.int .u8)).toArray) (.agg (b.map (Value.int .u8)).toArray)).run Tryz.prog w=.ok (decide (a=b)) w:=by
  rw[Op.equalIn];simp only[Sem.run_bind,run_underlying hT,Result.andThen_ok,hs];simp only[Std.Legacy.Range.forIn_eq_forIn_range',Std.Legacy.Range.size,Nat.sub_zero,Nat.add_sub_cancel,Nat.div_one];rw[Lg w (fun i=>a[i]? == b[i]?) _ (List.range' 0 64) (fun i hi=>?_)]
  ·have hd:(List.range' 0 64).all (fun i=>a[i]? == b[i]?)=decide (a=b):=by
    rw[Bool.eq_iff_iff,List.all_eq_true,decide_eq_true_iff];refine⟨fun h=>List.ext_getElem? fun i=>?_,fun h i _=>by rw[h];exact beq_self_eq_true _⟩;by_cases hi:i<64
    ·exact eq_of_beq (h i (by rw[List.mem_range'_1];omega))
    ·rw[List.getElem?_eq_none τ,List.getElem?_eq_none τ]
   rw[hd];cases decide (a=b) <;> simp[Result.andThen,Sem.run_pure]
  ·have hin:i<64:=by
    rw[List.mem_range'_1]at hi;omega
   have p1:(a.map (Value.int .u8)).toArray[i]?=some (.int .u8 a[i]):=by simp[ha,hin]
   have p2:(b.map (Value.int .u8)).toArray[i]?=some (.int .u8 b[i]):=by simp[hb,hin]
   have e:(Op.equalIn (9998+1) 5 (.int .u8 a[i]) (.int .u8 b[i])).run Tryz.prog w=.ok (a[i] == b[i]) w:=by
    rw[Op.equalIn];simp[Sem.run_bind,run_underlying hE,Sem.run_pure]
   have q1:a[i]?=some a[i]:=List.getElem?_eq_getElem _;have q2:b[i]?=some b[i]:=List.getElem?_eq_getElem _;simp only[Sem.run_bind,part,hg,Nat.mul_one,p1,p2,Result.andThen_ok,Bool.false_eq_true,if_false];simp[Sem.run_pure,hg,e,q1,q2];by_cases hq:a[i]=b[i] <;> simp[hq]
 simp[binOp,Op.equal,Op.maxDepth,h]
def XE(op:BinOp)(T:TypeId)(x y:SV):Option (SV × List Ob):=if T=31 then (match op,bsS x,bsS y with
 | .eql,some a,some b=>if a.length=64/\b.length=64 then some (.b (decide (a=b)),[])else none
 | _,_,_=>none)else YN op T x y
def XF(T:TypeId)(l:List (Nat × SV)):Option SV:=if T=31 then (match l with
 | []=>some (Iz fun _=>0)
 | _=>none)else YW T l
def XG(T:TypeId)(x:SV)(lo hi:Option SV):Option SV:=if T=31 then (match x,lo,hi with
 | .p g 0 _ 0,none,some h=>if Tf h=some (.i64,32)then some (.s g 0 32 64)else none
 | .p g 0 _ 0,some l,none=>if Tf l=some (.i64,32)then some (.s g 32 32 32)else none
 | _,_,_=>none)else none
def ty64:Ty:=⟨31,true,64,Iz fun _=>0,[]⟩
theorem A0r:ty64.Good Tryz.prog:=⟨ω,ω,ω,MS 0 _,MR _,fun h=>absurd rfl h⟩
noncomputable def E2 (more:List Con) (bs:List Bs:=[]):Env:={ E1 more bs with tys:=ty64::A1N,bop:=XE,bld:=XF,slc:=XG }
theorem A0X{w0:World}{more:List Con}{γ0:Pl}{bs:List Bs}(hm:ED Tryz.prog 1 γ0 w0 more)(hbs:∀ b∈bs,b.Good Tryz.prog):(E2 more bs).Good γ0 w0:=by
 have G:=Mm hm hbs;refine⟨fun y hy=>?_,G.ctr,fun op T x y r p h hp hx hy=>?_,fun T l r h hl=>?_,G.xld,G.ixa,G.sls,G.bss,fun T x lo hi r n h hx=>?_⟩
 ·rcases List.mem_cons.1 hy with rfl | hy
  ·exact A0r
  ·exact Io QO y hy
 ·replace h:XE op T x y=some (r,p):=h
  unfold XE at h
  split at h
  ·rename_i e
   subst e
   split at h
   ·rename_i a b ha hb
    split at h
    ·rename_i hl
     cases h;refine⟨trivial,rfl,fun γ ox oy wx=>?_⟩;rw[XD x ha,XD y hb,MU,MU];exact⟨ω,A0q hl.1 hl.2 wx⟩
    ·cases h
   ·cases h
  ·exact G.bop op T x y r p h hp hx hy
 ·replace h:XF T l=some r:=h
  unfold XF at h
  split at h
  ·rename_i e
   subst e
   split at h
   ·cases h
    refine⟨MR _,MS 0 _,Oy _,fun γ=>?_⟩;rw[Iz,FI];show Tryz.prog.built 31 []=_;kernel_rfl
   ·cases h
  ·exact G.bld T l r h hl
 ·replace h:XG T x lo hi=some r:=h
  unfold XG at h
  split at h
  ·rename_i e
   subst e
   split at h
   ·rename_i g j hh
    split at h
    ·rename_i hc
     cases h;refine⟨trivial,hx,fun γ wx=>?_⟩;rw[show((some hh:Option SV).map (·.val γ))=some (.int .i64 32) from congrArg some (J9 hc)];show(Instr.sliceAt 31 (.pointer (some ⟨γ g,0+j*0,none⟩)) none (some (.int .i64 32)) none).run Tryz.prog wx=_;rw[Nat.mul_zero];kernel_rfl
    ·cases h
   ·rename_i g j hh
    split at h
    ·rename_i hc
     cases h;refine⟨trivial,hx,fun γ wx=>?_⟩;rw[show((some hh:Option SV).map (·.val γ))=some (.int .i64 32) from congrArg some (J9 hc)];show(Instr.sliceAt 31 (.pointer (some ⟨γ g,0+j*0,none⟩)) (some (.int .i64 32)) none none).run Tryz.prog wx=_;rw[Nat.mul_zero];kernel_rfl
    ·cases h
   ·cases h
  ·cases h
structure Frm where
 row:SV
 o:Nat
 k:Nat
structure Frm.Ok (q:Frm):Prop where
 ok:∃ f:Nat->Nat,(∀ j,j<32->f j<256/\∀ γ,(q.row.cells γ)[q.o+j]?=some (.int .u8 (f j:Nat)))/\Dn f 32=q.k
def RG(o:Nat):List Frm->Option Frm
 | []=>none
 | q::l=>if q.o=o then some q else RG o l
theorem Oz{o:Nat}{q:Frm}:∀ {l:List Frm},RG o l=some q->q∈l/\q.o=o
 | [],h=>by cases h
 | c::l,h=>by
  unfold RG at h
  split at h
  ·rename_i e;cases h;exact⟨.head _,e⟩
  ·have:=Oz h;exact⟨.tail _ this.1,this.2⟩
def RH(fs:List Frm):Con:=⟨17,fun _ M us=>match us with
 | [.s g o 32 _]=>match F4 g M,RG o fs with
  | some (r,_),some q=>some (.w q.k,[.eq r q.row],[])
  | _,_=>none
 | _=>none⟩
theorem OA{base:Nat}{γ0:Pl}{w0:World}{fs:List Frm}(hf:∀ q∈fs,q.Ok):ConOk Tryz.prog base γ0 w0 (RH fs) :=
 .of (fun _ _=>by kernel_rfl) fun n M us r p R hr hp hok=>by
  unfold RH at hr;dsimp only at hr
  split at hr
  ·rename_i g o c
   split at hr
   ·rename_i r' T q hrow hq
    cases hr;obtain⟨hq',rfl⟩:=Oz hq;obtain⟨f,h1,h2⟩:=(hf q hq').ok;have he:r'=q.row:=hp _ (.head _);refine⟨rfl,?_,rfl,fun γ _ wx _ hL=>?_⟩
    ·show q.k<2^256
     rw[<- h2];exact RF 32 fun j hj=>(h1 j hj).1
    ·have hm:=(hL _ (Bu hrow)).1
     rw[he]at hm;show Calls Tryz.prog 17 #[.slice (some ⟨γ g,q.o,none⟩) 32 c] wx _;rw[<- h2];exact Qg (γ g) q.o 32 c f (fun j hj=>(h1 j hj).1) (by decide) wx (Array.getElem?_eq_some_iff.1 hm).1 fun j hj=>by
      rw[cell_of_row _ _ (q.o+j) _ _ _ hm];simpa using(h1 j hj).2 γ
   ·cases hr
  ·cases hr
/-! The reference's Base. -/
def bL:List Nat:=[0x79,0xbe,0x66,0x7e,0xf9,0xdc,0xbb,0xac,0x55,0xa0,0x62,0x95,0xce,0x87,0x0b,0x07,0x02,0x9b,0xfc,0xdb,0x2d,0xce,0x28,0xd9,0x59,0xf2,0x81,0x5b,0x16,0xf8,0x17,0x98]
def apV:List Nat->SV
 | []=>.e
 | x::l=>.ap (.v (.int .u8 (x:Nat))) (apV l)
theorem Lh(γ:Pl):∀ l,(apV l).cells γ=l.map fun x=>Value.int .u8 (x:Nat)
 | []=>rfl
 | x::l=>by
  show[_]++(apV l).cells γ=_;rw[Lh γ l];rfl
def bsB:Bs:=⟨40,32,5,1,apV (List.replicate 32 0)⟩
theorem A2H:bsB.Good Tryz.prog:=⟨Tryz.underlying40,ω,ω,ω,by simp only[bsB,List.replicate,apV,SV.ok,and_self],by decide,by decide⟩
theorem A3R:(⟨apV bL,0,gP.1⟩:Frm).Ok:=⟨fun j=>bL.getD j 0,fun j hj=>⟨by
  have h:∀ j,j<32->bL.getD j 0<256:=by decide +kernel
  exact h j hj,fun γ=>by
   show _=some (Value.int .u8 ((bL.getD j 0:Nat):Int));rw[Lh,Nat.zero_add,List.getElem?_map,List.getD_eq_getElem?_getD,List.getElem?_eq_getElem (show j<bL.length from hj)];rfl⟩,by decide +kernel⟩
def XH:Con:=Hl 25 fun l=>match l with
 | [x,y]=>some (.tu (sPk gP.1 gP.2.1 false) (.v (.int .i64 0)),[.ask (x=.w gP.1/\y=.v (.bool false))])
 | _=>none
theorem A3S{m p n r:Nat}(e:m=p)(h:n^(p / 2^2+1)%p=r)(h2:r*r%m=n%m):sqY m n=r/\sqB m n=true:=by
 subst e;have h1:sqr m n=r:=h;unfold sqY sqB;rw[h1,if_pos h2];exact⟨rfl,decide_eq_true h2⟩
theorem XI:sqY mK (gl mK gP.1)=gP.2.1/\sqB mK (gl mK gP.1)=true:=by
 have h0:gl mK gP.1=A2x:=by kernel_rfl
 rw[h0];exact A3S ω A2y ω
theorem A0Y:liP gP.1 false=gP/\Iy gP.1=false:=by
 have hb:Iy gP.1=false:=by
  unfold Iy;rw[XI.2];decide +kernel
 have hp:eqB false (par (sqY mK (gl mK gP.1)))=true:=by
  rw[XI.1];decide +kernel
 exact⟨(Xy hb hp).trans (by rw[XI.1];rfl),hb⟩
theorem U0{base:Nat}{γ0:Pl}{w0:World}:ConOk Tryz.prog base γ0 w0 XH:=Ca (fun _ _=>by kernel_rfl) fun us r q h hq hok=>by
 split at h
 ·cases h
  obtain⟨rfl,rfl⟩:_/\_:=hq _ (.head _);refine⟨⟨⟨Kn.1,Kn.2,trivial,trivial⟩,trivial⟩,rfl,fun γ w=>?_⟩;have h:=TZ gP.1 false Kn.1 w;rw[A0Y.1,A0Y.2]at h;exact h
 ·cases h
end Sy
open Sy
theorem U1(w:World):Calls Tryz.prog 12 #[] w fun r w'=>r=.returned (.agg (pc gP.1 gP.2.1 false))/\Below w.heap.size w w':=by
 refine AJ (A0X (more:=RH [⟨apV bL,0,gP.1⟩]::XH::[]) (bs:=[bsB]) (γ0:=fun _=>0) ⟨OA (EF A3R),U0,trivial⟩ (EF A2H)) ω (fun _=>0) Tryz.func12 ω [] trivial ω ω
  (.need (SV.w gP.1=.w gP.1/\SV.v (.bool false)=.v (.bool false)) (.leaf (sPk gP.1 gP.2.1 false))) ω ⟨⟨rfl,rfl⟩,?_⟩
 rfl
open Go.RowKit
namespace Sy
def XJ:Con:=TU 9 fun p=>.tu (Iz (byB p.1 p.2.1 p.2.2)) (.i .i64 (byE p.1 p.2.1 p.2.2))
theorem U2{base:Nat}{γ0:Pl}{w0:World}:ConOk Tryz.prog base γ0 w0 XJ:=Hz (fun _ _=>by kernel_rfl) fun p h1 h2=>⟨⟨MR _,trivial⟩,by
  simp only[SV.lt,Iz,MS,Bool.and_self],fun w=>by
  have h:=Qf p.1 p.2.1 p.2.2 h1 h2 w;rw[<- XC _ fun _=>0]at h;exact h⟩
def ngR(p:Nat × Nat × Bool):Nat × Nat × Bool:=if p.2.2=true then (0,0,true)else (p.1,rS mK 0 p.2.1,false)
theorem A2I{p:Nat × Nat × Bool}(h:p.1<2^256):(ngR p).1<2^256/\(ngR p).2.1<2^256:=by
 unfold ngR
 split
 ·exact⟨AV,AV⟩
 ·exact⟨h,A0F _ _ _⟩
def A0Z:Con:=TU 14 fun p=>sP3 (ngR p)
theorem XK{base:Nat}{γ0:Pl}{w0:World}:ConOk Tryz.prog base γ0 w0 A0Z:=Hz (fun _ _=>by kernel_rfl) fun p h1 h2=>⟨(Fa (A2I h1)).1,rfl,fun w=>by
  have h:=Wv p.1 p.2.1 p.2.2 h1 h2 w;rw[Dc];unfold ngR;revert h;cases p.2.2 <;> exact id⟩
def XL:Con:=Hl 12 fun l=>match l with
 | []=>some (sPk gP.1 gP.2.1 false,[])
 | _=>none
theorem U3{base:Nat}{γ0:Pl}{w0:World}:ConOk Tryz.prog base γ0 w0 XL:=Ca (fun _ _=>by kernel_rfl) fun us r q h hq hok=>by
 split at h
 ·cases h
  exact⟨⟨Kn.1,Kn.2,trivial,trivial⟩,rfl,fun γ w=>U1 w⟩
 ·cases h
theorem A2J{p:Nat × Nat × Bool}{P:Pt KK}(h:rel p P):rel (ngR p) (ME FK P):=by
 cases P with
 | none =>
  have hn:p.2.2=true:=h;show(ngR p).2.2=true;unfold ngR;rw[if_pos hn]
 | some a b =>
  have hp:p=(a.1,b.1,false):=h;subst hp;show ngR (a.1,b.1,false)=(a.1,(FK.neg b).1,false);unfold ngR;rw[if_neg Bool.false_ne_true,show rS mK 0 b.1=(0+(mK - b.1))%mK from A0G (by decide) b.2 A0W];exact congrArg (fun y=>(a.1,y,false)) (A2w prK b)
theorem A3T(x j:Nat):bt x j<256:=Nat.mod_lt _ (by decide)
theorem A2K(x y j:Nat):e64 x y j<256:=by
 unfold e64
 split <;> exact A3T _ _
theorem XM(x y:Nat)(n:Bool)(j:Nat):byB x y n j<256:=by
 unfold byB
 split
 ·split
  ·exact Nat.zero_lt_succ _
  ·exact A2K x y j
 ·exact Nat.zero_lt_succ _
theorem XN(f:Nat->Nat)(γ:Pl){j:Nat}(h:j<64):((Iz f).cells γ)[j]?=some (.int .u8 (f j:Nat)):=by
 rw[Iz,FI];simp[l64,h]
def fX(x y:Nat)(n:Bool):Nat:=Dn (byB x y n) 32
def fY(x y:Nat)(n:Bool):Nat:=Dn (fun j=>byB x y n (32+j)) 32
theorem frX(x y:Nat)(n:Bool):(⟨Iz (byB x y n),0,fX x y n⟩:Frm).Ok:=⟨byB x y n,fun j hj=>⟨XM x y n j,fun γ=>by
 rw[Nat.zero_add];exact XN _ γ τ⟩,rfl⟩
theorem frY(x y:Nat)(n:Bool):(⟨Iz (byB x y n),32,fY x y n⟩:Frm).Ok:=⟨fun j=>byB x y n (32+j),fun j hj=>⟨XM x y n _,fun γ=>XN _ γ (show 32+j<64 by omega)⟩,rfl⟩
theorem Gh{f g:Nat->Nat}:∀ n,(∀ j,j<n->f j=g j)->Dn f n=Dn g n
 | 0,_=>rfl
 | n+1,h=>by rw[Dn,Dn,Gh n fun j hj=>h j τ,h n τ]
theorem A3U{x y:Nat}(h:onB mK (x,y,false)=true)(hx:x<2^256):fX x y false=x:=by
 have e:fX x y false=Dn (bt x) 32:=Gh 32 fun j hj=>by
  unfold byB;rw[if_pos h,if_neg Bool.false_ne_true];exact if_pos hj
 rw[e,MQ x 32 (Nat.le_refl _),Nat.sub_self,Nat.pow_zero,Nat.div_one,Nat.mod_eq_of_lt hx]
theorem A3V{x y:Nat}(h:onB mK (x,y,false)=true)(hy:y<2^256):fY x y false=y:=by
 have e:fY x y false=Dn (bt y) 32:=Gh 32 fun j hj=>by
  unfold byB;rw[if_pos h,if_neg Bool.false_ne_true];refine(if_neg τ).trans ?_;rw[Nat.add_sub_cancel_left]
 rw[e,MQ y 32 (Nat.le_refl _),Nat.sub_self,Nat.pow_zero,Nat.div_one,Nat.mod_eq_of_lt hy]
theorem A0s{α:Type}{P:α->Prop}{x y:α}(h:P x)(h':P y):∀ z∈[x,y],P z:=fun z hz=>by
 rcases List.mem_cons.1 hz with rfl | hz
 ·exact h
 ·exact EF h' z hz
theorem A3W(p q:Nat × Nat × Bool):smB p q=(bif (bif p.2.2 then q.2.2 else false)then true else eqP p q):=by
 obtain⟨x,y,n⟩:=p;obtain⟨u,v,k⟩:=q;cases n <;> cases k <;> simp[smB,eqP]
theorem A3X(p:Nat × Nat × Bool):tlB (ngP p) (if onB mK p=true then 0 else 81) (ngR p) (onB mK p)=true:=by
 cases ho:onB mK p with
 | false =>
  rw[show ngP p=(0,0,true) from if_neg (by rw[ho];exact Bool.false_ne_true)];exact A3N _
 | true =>
  rw[show ngP p=canon (ME FK (Ff p)) from if_pos ho,if_pos rfl];exact A2D (A2J (Iw ho).1)
theorem OB(b:Bool):eqB b b=true:=by cases b <;> rfl
theorem XO(p:Nat × Nat × Bool):eqP p p=true:=decide_eq_true ⟨rfl,rfl,rfl⟩
theorem A2L(p q B:Nat × Nat × Bool):(bif (bif (bif !(eqB (onB mK p) (onB mK p))then true else !(eqP B B))then true else !(tlB (ngP p) (if onB mK p=true then 0 else 81) (ngR p) (onB mK p)))then true else !(eqB (smB p q) (bif (bif p.2.2 then q.2.2 else false)then true else eqP p q)))=false:=by
 rw[A3X,<- A3W,OB,OB,XO];rfl
end Sy
open Sy
theorem OC(x y xq yq:Nat)(n nq:Bool)(hx:x<2^256)(hy:y<2^256)(hxq:xq<2^256)(hyq:yq<2^256)(w:World):Calls Tryz.prog 3 #[.agg (pc x y n),.agg (pc xq yq nq)] w fun r w'=>r=.returned (.bool true)/\Below w.heap.size w w':=by
 refine AJ (A0X (more:=XJ::A0Z::XL::Xr::A0O::cOn::A3K::A0Q::Xl::Xv::RH [⟨Iz (byB x y n),0,fX x y n⟩,⟨Iz (byB x y n),32,fY x y n⟩]::[]) (bs:=[]) (γ0:=fun _=>0) ⟨U2,XK,U3,Ov,Xk,Xj,A0k,Xo,Ou,TW,OA (A0s (frX x y n) (frY x y n)),trivial⟩ (fun _ h=>by cases h)) ω (fun _=>0) Tryz.func3 ω [sP x y n,sP xq yq nq] ⟨⟨⟨hx,hy,trivial,trivial⟩,rfl⟩,⟨⟨hxq,hyq,trivial,trivial⟩,rfl⟩,trivial⟩ ω ω
  (let p:=(x,y,n);let q:=(xq,yq,nq);let o:=onB mK p;let e:Int:=if o=true then 0 else 81
  .br (bif (bif (bif !(eqB o o)then true else !(eqP gP gP))then true else !(tlB (ngP p) e (ngR p) o))then true else !(eqB (smB p q) (bif (bif n then nq else false)then true else eqP p q))) (.leaf (.v (.bool false)))
   (.br (!o) (.leaf (.b (bif (bif eqI (byE x y n) 81 then decide (l64 (byB x y n)=l64 fun _=>0)else false)then true else false)))
    (.br n (.leaf (.b (bif (bif eqI (byE x y n) 80 then decide (l64 (byB x y n)=l64 fun _=>0)else false)then true else false)))
     (.leaf (.b (bif (bif (bif eqI (byE x y n) 0 then eqN (fX x y n) x else false)then eqN (fY x y n) y else false)then true else false)))))) ω ⟨fun h=>?_,fun _=>⟨fun h=>?_,fun h=>⟨fun h2=>?_,fun h2=>?_⟩⟩⟩
 ·cases (A2L (x,y,n) (xq,yq,nq) gP).symm.trans h
 ·have ho:¬onB mK (x,y,n)=true:=by
   have h:(!(onB mK (x,y,n)))=true:=h;rw[Bool.not_eq_true]at *;simpa using h
  show Value.bool (bif (bif eqI (byE x y n) 81 then decide (l64 (byB x y n)=l64 fun _=>0)else false)then true else false)=.bool true;rw[show byE x y n=81 from if_neg ho,show byB x y n=(fun _=>0) from if_neg ho,decide_eq_true rfl];rfl
 all_goals
  have ho:onB mK (x,y,n)=true:=by
   have h:(!(onB mK (x,y,n)))=false:=h;simpa using h
  subst h2
 ·show Value.bool (bif (bif eqI (byE x y true) 80 then decide (l64 (byB x y true)=l64 fun _=>0)else false)then true else false)=.bool true
  rw[show byE x y true=80 from if_pos ho,show byB x y true=(fun _=>0) from if_pos ho,decide_eq_true rfl];rfl
 ·show Value.bool (bif (bif (bif eqI (byE x y false) 0 then eqN (fX x y false) x else false)then eqN (fY x y false) y else false)then true else false)=.bool true
  rw[show byE x y false=0 from if_pos ho,A3U ho hx,A3V ho hy];simp[eqI,eqN]
end Go.Proofs.YtphafjbajlcbnaaGreat
namespace Go.Proofs.YtphafjbajlcbnaaGreat.curvePoints
open Go.ChangeShapes Go.WideShapes Go.ChangeAt Go.RowKit
theorem contract(H:Type)(enc:TypeId × Value->H)(W:World)(base:Nat)(args:Array Value)(ds gs:List (DataW H))(before:List MemPlace)
  (hval:∀(j:Nat) t v,Tryz.f3.params[j]?=some t->args[j]?=some v->Value.okWide Tryz.prog W .any base t v)
  (hW:DataW.Whole enc Tryz.prog Tryz.f3.params.toList Rows.curvePointsSpec.vars false W args.toList ds gs before) :
  Calls Tryz.prog 3 args W fun e W'=>∃ v,e=.returned v/\Rows.curvePointsSpec.post enc Tryz.prog Tryz.f3 false true false false W args v W':=by
 have hW':=hW;obtain⟨p,q,hA0,hV,rfl,hfz,hnd⟩:=hW;have hA:DataW.TrodAll enc Tryz.prog W 0 (fun _=>true) true Tryz.f3.params.toList args.toList ds p:=hA0;rw[Tryz.params3]at hA hval;obtain⟨v0,vs0,d0,ds0,p0,q0,hargs,rfl,rfl,h0,r0⟩:=trodAll_cons hA;obtain⟨v1,vs1,d1,ds1,p1,q1,rfl,rfl,rfl,h1,r1⟩:=trodAll_cons r0;obtain⟨rfl,rfl,rfl⟩:=trodAll_nil r1;obtain rfl:args=#[v0,v1]:=by cases args;simp_all
 obtain⟨rfl,rfl⟩:=trodVars_none hV;obtain⟨x0,y0,n0,rfl,X0,Y0⟩:=Qy (hval 0 26 v0 rfl rfl) h0;obtain⟨x1,y1,n1,rfl,X1,Y1⟩:=Qy (hval 1 26 v1 rfl rfl) h1;clear hA0;refine(OC x0 y0 x1 y1 n0 n1 X0 Y0 X1 Y1 W).mono fun e W' ⟨he,hb⟩=>?_;subst he;refine⟨_,rfl,_,_,_,[],p0++(p1++[]),[],hW',trodAll_cons_mk (shut_bool Tryz.underlying4 _) trodAll_mk0,trodAll_cons_mk (Below.trod NC ω (of_decide_eq_true ω) h0 hb (fun x hx=>hW'.lt x (by simp[hx]))) (trodAll_cons_mk (Below.trod NC ω (of_decide_eq_true ω) h1 hb (fun x hx=>hW'.lt x (by simp[hx]))) trodAll_mk0),rfl,hb.frame _,fun h=>by cases h⟩
theorem laid_met(os:Os):laidMet Tryz.prog Rows.curvePointsRow.laid ((Ia os).forCall (fun _ _=>0) ⟨#[],#[.agg #[.int .u64 0,.int .u64 0,.int .u64 0,.int .u64 0,.int .u64 0,.int .u64 0,.int .u64 0,.int .u64 0,.bool false],.agg #[.int .u64 0,.int .u64 0,.int .u64 0,.int .u64 0,.int .u64 0,.int .u64 0,.int .u64 0,.int .u64 0,.bool false]],[]⟩).memory :=
 laidMet_of_run' 80 ω ω
theorem reads(os:Os){H:Type}(enc:TypeId × Value->H):∃ places,DataW.whole enc Tryz.prog ((Ia os).forCall (fun _ _=>0) ⟨#[],#[.agg #[.int .u64 0,.int .u64 0,.int .u64 0,.int .u64 0,.int .u64 0,.int .u64 0,.int .u64 0,.int .u64 0,.bool false],.agg #[.int .u64 0,.int .u64 0,.int .u64 0,.int .u64 0,.int .u64 0,.int .u64 0,.int .u64 0,.int .u64 0,.bool false]],[]⟩).memory Tryz.f3.params.toList Rows.curvePointsSpec.vars false (#[.agg #[.int .u64 0,.int .u64 0,.int .u64 0,.int .u64 0,.int .u64 0,.int .u64 0,.int .u64 0,.int .u64 0,.bool false],.agg #[.int .u64 0,.int .u64 0,.int .u64 0,.int .u64 0,.int .u64 0,.int .u64 0,.int .u64 0,.int .u64 0,.bool false]]:Array Value).toList 80=some ([.agg [.agg [.lit (.int .u64 0),.lit (.int .u64 0),.lit (.int .u64 0),.lit (.int .u64 0)],.agg [.lit (.int .u64 0),.lit (.int .u64 0),.lit (.int .u64 0),.lit (.int .u64 0)],.lit (.bool false)],.agg [.agg [.lit (.int .u64 0),.lit (.int .u64 0),.lit (.int .u64 0),.lit (.int .u64 0)],.agg [.lit (.int .u64 0),.lit (.int .u64 0),.lit (.int .u64 0),.lit (.int .u64 0)],.lit (.bool false)]],[],places) :=
 ⟨[],ω⟩
theorem lifted(os:Os)(started:os.Started)(H:Type)(enc:TypeId × Value->H)(F:Stop.Interp) :
  ReturnsInHanded {} Tryz.checked os 3 .any ((OpenSpec.ofChange Rows.curvePointsSpec).preRow enc Tryz.prog Tryz.f3 Rows.curvePointsRow.domain false Rows.curvePointsRow.laid) (((OpenSpec.ofChange Rows.curvePointsSpec).at F).post enc Tryz.prog Tryz.f3 false true false false):=by
 obtain⟨places,hx⟩:=reads os enc;refine returnsInHanded_of_row (C:=Tryz.checked) (s:=OpenSpec.ofChange Rows.curvePointsSpec) A41 started ω Tryz.func3
  (witness_row_at (enc:=enc) (C:=Tryz.checked) false (Ia os) #[.agg #[.int .u64 0,.int .u64 0,.int .u64 0,.int .u64 0,.int .u64 0,.int .u64 0,.int .u64 0,.int .u64 0,.bool false],.agg #[.int .u64 0,.int .u64 0,.int .u64 0,.int .u64 0,.int .u64 0,.int .u64 0,.int .u64 0,.int .u64 0,.bool false]] rfl ω ω ω
   (OpenSpec.preRow_of_cond 80 hx ω (fun k hk=>by cases hk) ω (laid_met os))) ?_
 intro W base args ds gs before hval hW _ _ _ _ _ _;exact contract H enc W base args ds gs before hval hW
theorem said:Rows.CurvePointsSaid :=
 OpenClaim.holds_of_cond 3 Tryz.f3 rfl rfl rfl rfl rfl rfl rfl ⟨rfl,rfl,rfl,rfl,rfl⟩ rfl rfl rfl rfl rfl ω Tryz.func3 ω
  (of_decide_eq_true ω) (by unfold Func.isWrapper;rw[if_neg (of_decide_eq_false ω)];exact⟨rfl,rfl⟩)
  (fun os started H enc _ F=>by rw[OpenClaim.pre_eq_preRow];exact lifted os started H enc F)
end Go.Proofs.YtphafjbajlcbnaaGreat.curvePoints
