/- The pairing's curve, walked: the first group, by letters of the field's operations. (Cut to what is reached, written closely: TwS · PrCW · PrWW.) -/
import Derived.Test.YtadfjjfklihaaaaGreatP22
import Derived.Test.YtadfjjfklihaaaaGreatP24
import Derived.Test.YtadfjjfklihaaaaGreatP19
import Derived.Test.YtadfjjfklihaaaaGreatP15
import Derived.Test.YtadfjjfklihaaaaGreatP27
set_option linter.all false
set_option maxRecDepth 100000
set_option maxHeartbeats 8000000
namespace Go.Proofs.YtadfjjfklihaaaaGreat.Sy
open Go.RowKit
def sFld(m:Nat):SV:=.ap (.i .u64 (frw m 0:Nat)) (.ap (.i .u64 (frw m 1:Nat)) (.ap (.i .u64 (frw m 2:Nat)) (.ap (.i .u64 (frw m 3:Nat)) (.ap (.i .u64 (frw m 4:Nat)) (.ap (.i .u64 (frw m 5:Nat)) (.ap (.i .u64 (frw m 6:Nat)) (.ap (.i .u64 (frw m 7:Nat)) (.ap (.i .u64 (frw m 8:Nat)) .e))))))))
def isF(ext:Bool)(m:Nat)(M:Rows):SV->Option (List Ob)
 | .p g o _ z=>if o=0/\z=0 then (if ext=true/\g=0 then some []else match rowIn g M with
  | some (c,T)=>if T=145 then some [.eq c (sFld m)]else none
  | none=>none)else none
 | _=>none
structure FOk (ext:Bool) (m:Nat) (γ0:Pl) (w0:World):Prop where
 odd:m%2=1
 big:1<m
 lt:m<2^256
 at_:ext=true->FldAt w0 (γ0 0) m
theorem isF_at{ext:Bool}{m n:Nat}{M:Rows}{x:SV}{p:List Ob}{γ0 γ:Pl}{w0 wx:World}(h:isF ext m M x=some p)(hp:All p)(hf:FOk ext m γ0 w0)(hγ:∀ k,k<1->γ k=γ0 k)(hw:Below w0.heap.size w0 wx)(hL:Lies γ n M wx):∃ F,x.val γ=.pointer (some ⟨F,0,none⟩)/\FldAt wx F m:=by
 cases x <;> first | (cases h;done) | skip
 rename_i g o j z;dsimp only[isF]at h
 split at h
 ·rename_i hz
  obtain⟨rfl,rfl⟩:=hz;refine⟨γ g,by simp[SV.val,SV.sc],?_⟩
  split at h
  ·rename_i he
   rw[he.2,hγ 0 (by decide)];exact(hf.at_ he.1).below hw
  ·split at h
   ·rename_i c T hr
    split at h
    ·rename_i hT
     cases h;have hc:c=sFld m:=hp _ (.head _);have:=(hL _ (rowIn_ok hr)).1;rw[hc,hT]at this;exact⟨this,hf.odd,hf.big,hf.lt⟩
    ·cases h
   ·cases h
 ·cases h
theorem FOk.of{F m:Nat}{w0:World}(h0:FldAt w0 F m):FOk true m (fun _=>F) w0:=⟨h0.odd,h0.big,h0.lt,fun _=>h0⟩
theorem FOk.mod{ext:Bool}{m:Nat}{γ0:Pl}{w0:World}(hf:FOk ext m γ0 w0)(a:Nat):a%m<2^256:=Nat.lt_trans (Nat.mod_lt _ (by have:=hf.big;omega)) hf.lt
def fld2(ext:Bool)(m:Nat)(f:FuncId)(op:Nat->Nat->Nat):Con:=⟨f,fun _ M l=>match l with
 | [x,.w a,.w b]=>(isF ext m M x).map fun p=>(.w (op a b),p,[])
 | _=>none⟩
def fld1(ext:Bool)(m:Nat)(f:FuncId)(op:Nat->SV):Con:=⟨f,fun _ M l=>match l with
 | [x,.w a]=>(isF ext m M x).map fun p=>(op a,p,[])
 | _=>none⟩
theorem val0{γ:Pl}{x:SV}(h:x.lt 0=true):x.val γ=x.val fun _=>0:=(SV.lt_same (γ:=γ) (δ:=fun _=>0) (n:=0) (fun _ hk=>absurd hk (Nat.not_lt_zero _)) h).2.2
theorem fld2_ok{P:Program}{ext:Bool}{m:Nat}{γ0:Pl}{w0:World}{f:FuncId}{op:Nat->Nat->Nat}(hf:FOk ext m γ0 w0)(hc:∀ as_ wx,(callFunc f as_).run P wx=.ok (.enter f as_) wx)(hlt:∀ a b,op a b<2^256)
  (h:∀ F a b,a<2^256->b<2^256->∀ w,FldAt w F m->Calls P f #[.pointer (some ⟨F,0,none⟩),.agg (pw a),.agg (pw b)] w fun e w'=>e=.returned (.agg (pw (op a b)))/\Below w.heap.size w w'):ConOk P 1 γ0 w0 (fld2 ext m f op) :=
 .of hc fun n M l r p R hr hp hok=>by
  unfold fld2 at hr;dsimp only at hr
  split at hr
  ·rename_i x a b
   obtain⟨q,hx,e⟩:=Option.map_eq_some_iff.1 hr;cases e;refine⟨rfl,hlt a b,rfl,fun γ hγ wx hw hL=>?_⟩;obtain⟨F,h1,h2⟩:=isF_at hx hp hf hγ hw hL;show Calls P f #[x.val γ,_,_] wx _;rw[h1];exact h F a b (hok (.w a) (by simp)) (hok (.w b) (by simp)) wx h2
  ·cases hr
theorem fld1_ok{P:Program}{ext:Bool}{m:Nat}{γ0:Pl}{w0:World}{f:FuncId}{op:Nat->SV}(hf:FOk ext m γ0 w0)(hc:∀ as_ wx,(callFunc f as_).run P wx=.ok (.enter f as_) wx)(hlt:∀ a,(op a).ok/\(op a).lt 0=true)
  (h:∀ F a,a<2^256->∀ w,FldAt w F m->Calls P f #[.pointer (some ⟨F,0,none⟩),.agg (pw a)] w fun e w'=>e=.returned ((op a).val fun _=>0)/\Below w.heap.size w w'):ConOk P 1 γ0 w0 (fld1 ext m f op) :=
 .of hc fun n M l r p R hr hp hok=>by
  unfold fld1 at hr;dsimp only at hr
  split at hr
  ·rename_i x a
   obtain⟨q,hx,e⟩:=Option.map_eq_some_iff.1 hr;cases e;refine⟨rfl,(hlt a).1,(hlt a).2,fun γ hγ wx hw hL=>?_⟩;obtain⟨F,h1,h2⟩:=isF_at hx hp hf hγ hw hL;show Calls P f #[x.val γ,_] wx _;rw[h1,val0 (hlt a).2];exact h F a (hok (.w a) (by simp)) wx h2
  ·cases hr
def cMulF(ext:Bool)(m:Nat):Con:=fld2 ext m 67 fun a b=>a*b%m
def cAddF(ext:Bool)(m:Nat):Con:=fld2 ext m 65 fun a b=>(a+b)%m
def cSubF(ext:Bool)(m:Nat):Con:=fld2 ext m 66 fun a b=>(a%m+(m - b%m))%m
def iv(m Z:Nat):Nat:=Z^(m - 2)%m
def cNegF(ext:Bool)(m:Nat):Con:=fld1 ext m 138 fun a=>.w ((0%m+(m - a%m))%m)
def cInvF(ext:Bool)(m:Nat):Con:=fld1 ext m 68 fun a=>.tu (.w (if a*iv m a%m=1 then iv m a else 0)) (.b (eqN (a*iv m a%m) 1))
def cOfF(ext:Bool)(m:Nat):Con:=fld1 ext m 103 fun a=>.w (a%m)
def flds(ext:Bool)(m:Nat):List Con:=[cMulF ext m,cAddF ext m,cSubF ext m,cNegF ext m,cInvF ext m,cOfF ext m]
theorem flds_ok{ext:Bool}{m:Nat}{γ0:Pl}{w0:World}(hf:FOk ext m γ0 w0):conAll Tryz.prog 1 γ0 w0 (flds ext m) :=
 ⟨fld2_ok hf (fun _ _=>by kernel_rfl) (fun _ _=>hf.mod _) fun F a b ha hb w hF=>fmul_any F m a b ha hb w hF,fld2_ok hf (fun _ _=>by kernel_rfl) (fun _ _=>hf.mod _) fun F a b ha hb w hF=>fadd_any F m a b ha hb w hF,fld2_ok hf (fun _ _=>by kernel_rfl) (fun _ _=>hf.mod _) fun F a b ha hb w hF=>fsub_any F m a b ha hb w hF,
  fld1_ok hf (fun _ _=>by kernel_rfl) (fun a=>⟨hf.mod _,rfl⟩) fun F a ha w hF=>fneg_any F m a ha w hF,
  fld1_ok hf (fun _ _=>by kernel_rfl) (fun a=>⟨⟨by
   show(if a*iv m a%m=1 then iv m a else 0)<2^256
   split
   ·exact hf.mod _
   ·decide,trivial⟩,rfl⟩) fun F a ha w hF=>finv_any F m a ha w hF,
  fld1_ok hf (fun _ _=>by kernel_rfl) (fun a=>⟨hf.mod _,rfl⟩) fun F a ha w hF=>fof_any F m a ha w hF,trivial⟩
/-! Two numbers,three of these,six. -/
def F2s(a:N2):SV:=.ap (.w a.1) (.ap (.w a.2) .e)
def z2:N2:=(0,0)
/-! Types. -/
theorem w0_ok:(0:Nat)<2^256:=by decide
theorem F2z_ok:(F2s z2).ok:=⟨w0_ok,w0_ok,trivial⟩
def tyW:Ty:=⟨24,true,4,.w 0,[]⟩
def ty2:Ty:=⟨38,true,8,F2s z2,[]⟩
def tyT:Ty:=⟨148,true,1,.ap (.v (.pointer none)) .e,[(0,1)]⟩
def tyB:Ty:=⟨4,false,1,.v (.bool false),[]⟩
def tyF:Ty:=⟨111,false,1,.v (.pointer none),[]⟩
def tyE:Ty:=⟨32,false,1,.v (.int .i64 0),[]⟩
def tyI:Ty:=⟨3,false,1,.v (.int .i64 0),[]⟩
def tys0:List Ty:=[tyW,ty2,tyT,tyB,tyF,tyE,tyI]
def tyAll(P:Program):List Ty->Prop
 | []=>True
 | y::l=>y.Good P/\tyAll P l
theorem tyAll_mem{P:Program}:∀ {l:List Ty},tyAll P l->∀ y∈l,y.Good P
 | [],_,c,h=>by cases h
 | y::l,ha,c,h=>by
  rcases List.mem_cons.1 h with rfl | h
  ·exact ha.1
  ·exact tyAll_mem ha.2 c h
theorem tys0_ok:tyAll Tryz.prog tys0 :=
 ⟨⟨by kernel_rfl,by kernel_rfl,by kernel_rfl,rfl,w0_ok,fun h=>absurd rfl h⟩,⟨by kernel_rfl,by kernel_rfl,by kernel_rfl,rfl,F2z_ok,fun h=>absurd rfl h⟩,⟨by kernel_rfl,by kernel_rfl,by kernel_rfl,rfl,⟨trivial,trivial⟩,fun _=>by kernel_rfl⟩,⟨by kernel_rfl,by kernel_rfl,by kernel_rfl,rfl,trivial,fun h=>absurd rfl h⟩,⟨by kernel_rfl,by kernel_rfl,by kernel_rfl,rfl,trivial,fun h=>absurd rfl h⟩,⟨by kernel_rfl,by kernel_rfl,by kernel_rfl,rfl,trivial,fun h=>absurd rfl h⟩,⟨by kernel_rfl,by kernel_rfl,by kernel_rfl,rfl,trivial,fun h=>absurd rfl h⟩,trivial⟩
theorem tyAll_app{P:Program}:∀ {l r:List Ty},tyAll P l->tyAll P r->tyAll P (l++r)
 | [],_,_,h=>h
 | _::_,_,h,h'=>⟨h.1,tyAll_app h.2 h'⟩
/-! The pairing's types: a group's functions,places,points,dots. -/
def nf:SV:=.v .nilFunc
def pW0:SV:=.ap (.w 0) (.ap (.w 0) (.ap (.v (.bool false)) .e))
def p20:SV:=.ap (F2s z2) (.ap (F2s z2) (.ap (.v (.bool false)) .e))
def jW0:SV:=.ap (.w 0) (.ap (.w 0) (.ap (.w 0) .e))
def j20:SV:=.ap (F2s z2) (.ap (F2s z2) (.ap (F2s z2) .e))
def cW0:SV:=.ap nf (.ap nf (.ap nf (.ap nf (.ap (.w 0) (.ap (.w 0) (.ap (.v (.bool false)) .e))))))
def c20:SV:=.ap nf (.ap nf (.ap nf (.ap nf (.ap (F2s z2) (.ap (F2s z2) (.ap (.v (.bool false)) .e))))))
theorem pW0_ok:pW0.ok:=⟨w0_ok,w0_ok,trivial,trivial⟩
theorem p20_ok:p20.ok:=⟨F2z_ok,F2z_ok,trivial,trivial⟩
theorem jW0_ok:jW0.ok:=⟨w0_ok,w0_ok,w0_ok,trivial⟩
theorem j20_ok:j20.ok:=⟨F2z_ok,F2z_ok,F2z_ok,trivial⟩
theorem cW0_ok:cW0.ok:=⟨trivial,trivial,trivial,trivial,w0_ok,w0_ok,trivial,trivial⟩
theorem c20_ok:c20.ok:=⟨trivial,trivial,trivial,trivial,F2z_ok,F2z_ok,trivial,trivial⟩
def tyR:Ty:=⟨29,true,1,.ap (.v (.pointer none)) .e,[(0,1)]⟩
def tyRF:Ty:=⟨27,false,1,.v (.pointer none),[]⟩
def tyP:Ty:=⟨26,true,9,pW0,[(0,4),(4,4),(8,1)]⟩
def tyTw:Ty:=⟨47,true,17,p20,[(0,8),(8,8),(16,1)]⟩
def tyD:Ty:=⟨40,true,17,p20,[(0,8),(8,8),(16,1)]⟩
def tyJ:Ty:=⟨81,true,24,j20,[(0,8),(8,8),(16,8)]⟩
def tyPW:Ty:=⟨67,true,9,pW0,[(0,4),(4,4),(8,1)]⟩
def tyP2:Ty:=⟨95,true,17,p20,[(0,8),(8,8),(16,1)]⟩
def tyJW:Ty:=⟨115,true,12,jW0,[(0,4),(4,4),(8,4)]⟩
def tyJ2:Ty:=⟨131,true,24,j20,[(0,8),(8,8),(16,8)]⟩
def tyCW:Ty:=⟨72,true,13,cW0,[(0,1),(1,1),(2,1),(3,1),(4,4),(8,4),(12,1)]⟩
def tyC2:Ty:=⟨92,true,21,c20,[(0,1),(1,1),(2,1),(3,1),(4,8),(12,8),(20,1)]⟩
def tyNW:Ty:=⟨69,false,1,nf,[]⟩
def tyIW:Ty:=⟨70,false,1,nf,[]⟩
def tyN2:Ty:=⟨79,false,1,nf,[]⟩
def tyI2:Ty:=⟨86,false,1,nf,[]⟩
def tyU6:Ty:=⟨22,false,1,.v (.int .u64 0),[]⟩
def tysM:List Ty:=[tyR,tyRF,tyP,tyTw,tyD,tyJ,tyPW,tyP2,tyJW,tyJ2,tyCW,tyC2,tyNW,tyIW,tyN2,tyI2,tyU6]
theorem tysM_ok:tyAll Tryz.prog tysM:=⟨⟨by kernel_rfl,by kernel_rfl,by kernel_rfl,rfl,⟨trivial,trivial⟩,fun _=>by kernel_rfl⟩,⟨by kernel_rfl,by kernel_rfl,by kernel_rfl,rfl,trivial,fun h=>absurd rfl h⟩,⟨by kernel_rfl,by kernel_rfl,by kernel_rfl,rfl,pW0_ok,fun _=>by kernel_rfl⟩,⟨by kernel_rfl,by kernel_rfl,by kernel_rfl,rfl,p20_ok,fun _=>by kernel_rfl⟩,⟨by kernel_rfl,by kernel_rfl,by kernel_rfl,rfl,p20_ok,fun _=>by kernel_rfl⟩,⟨by kernel_rfl,by kernel_rfl,by kernel_rfl,rfl,j20_ok,fun _=>by kernel_rfl⟩,⟨by kernel_rfl,by kernel_rfl,by kernel_rfl,rfl,pW0_ok,fun _=>by kernel_rfl⟩,⟨by kernel_rfl,by kernel_rfl,by kernel_rfl,rfl,p20_ok,fun _=>by kernel_rfl⟩,⟨by kernel_rfl,by kernel_rfl,by kernel_rfl,rfl,jW0_ok,fun _=>by kernel_rfl⟩,⟨by kernel_rfl,by kernel_rfl,by kernel_rfl,rfl,j20_ok,fun _=>by kernel_rfl⟩,⟨by kernel_rfl,by kernel_rfl,by kernel_rfl,rfl,cW0_ok,fun _=>by kernel_rfl⟩,⟨by kernel_rfl,by kernel_rfl,by kernel_rfl,rfl,c20_ok,fun _=>by kernel_rfl⟩,⟨by kernel_rfl,by kernel_rfl,by kernel_rfl,rfl,trivial,fun h=>absurd rfl h⟩,⟨by kernel_rfl,by kernel_rfl,by kernel_rfl,rfl,trivial,fun h=>absurd rfl h⟩,⟨by kernel_rfl,by kernel_rfl,by kernel_rfl,rfl,trivial,fun h=>absurd rfl h⟩,⟨by kernel_rfl,by kernel_rfl,by kernel_rfl,rfl,trivial,fun h=>absurd rfl h⟩,⟨by kernel_rfl,by kernel_rfl,by kernel_rfl,rfl,trivial,fun h=>absurd rfl h⟩,trivial⟩
def arsM:List Ar:=[]
theorem arsM_ok:∀ q∈arsM,q.Good Tryz.prog:=fun q hq=>by cases hq
def tysT:List Ty:=tys0++tysM
theorem tysT_ok:tyAll Tryz.prog tysT:=tyAll_app tys0_ok tysM_ok
def ars0:List Ar:=[⟨38,2,24,4,true,F2s z2⟩]
theorem ars0_ok:∀ q∈ars0,q.Good Tryz.prog:=fun q hq=>by
 simp only[ars0,List.mem_cons,List.not_mem_nil,or_false]at hq;subst hq;exact⟨by kernel_rfl,by kernel_rfl,by kernel_rfl,by kernel_rfl,rfl,F2z_ok⟩
def arsT:List Ar:=ars0++arsM
theorem arsT_ok:∀ q∈arsT,q.Good Tryz.prog:=fun q hq=>(List.mem_append.1 hq).elim (ars0_ok q) (arsM_ok q)
/-! Words made of their parts. -/
def limbS:SV->Option Nat
 | .v (.int .u64 (.ofNat a))=>if a<18446744073709551616 then some a else none
 | _=>none
def bldG(T:TypeId)(l:List (Nat × SV)):Option SV:=if T=24 then match l with
 | []=>some (.w 0)
 | [(0,a)]=>(limbS a).map .w
 | [(0,a),(1,b),(2,c),(3,d)]=>match limbS a,limbS b,limbS c,limbS d with
  | some a,some b,some c,some d=>some (.w (n4 a b c d))
  | _,_,_,_=>none
 | _=>none
 else none
theorem limbS_ok{γ:Pl}{x:SV}{a:Nat}(h:limbS x=some a):x.val γ=.int .u64 (a:Nat)/\a<18446744073709551616:=by
 unfold limbS at h
 split at h
 ·split at h
  ·rename_i hk;cases h;exact⟨rfl,hk⟩
  ·cases h
 ·cases h
theorem bldG_ok{T:TypeId}{l:List (Nat × SV)}{r:SV}(h:bldG T l=some r):r.ok/\r.lt 0=true/\r.many=true/\∀ γ,Tryz.prog.built T (l.map fun x=>(x.1,x.2.val γ))=some (r.cells γ).toArray:=by
 unfold bldG at h
 split at h
 ·rename_i e
  subst e
  split at h
  ·cases h
   exact⟨w0_ok,rfl,rfl,fun γ=>by kernel_rfl⟩
  ·obtain⟨k,hk,e⟩:=Option.map_eq_some_iff.1 h
   subst e;have hlt:=(limbS_ok (γ:=fun _=>0) hk).2;refine⟨Nat.lt_trans hlt (by decide),rfl,rfl,fun γ=>?_⟩;rw[show([(0,_)]:List (Nat × SV)).map (fun x=>(x.1,x.2.val γ))=[(0,.int .u64 (k:Nat))] from congrArg (fun v=>[(0,v)]) (limbS_ok hk).1];show Tryz.prog.built 24 [(0,.int .u64 (k:Nat))]=some (pw k).toList.toArray;rw[show pw k=#[.int .u64 (k:Nat),.int .u64 0,.int .u64 0,.int .u64 0] by
    unfold pw;rw[Nat.mod_eq_of_lt hlt,Nat.div_eq_of_lt hlt,Nat.div_eq_of_lt (show k<340282366920938463463374607431768211456 by omega),Nat.div_eq_of_lt (show k<6277101735386680763835789423207666416102355444464034512896 by omega)];rfl]
   kernel_rfl
  ·split at h
   ·rename_i a b c d ka kb kc kd
    cases h;have la:=limbS_ok (γ:=fun _=>0) ka;have lb:=limbS_ok (γ:=fun _=>0) kb;have lc:=limbS_ok (γ:=fun _=>0) kc;have ld:=limbS_ok (γ:=fun _=>0) kd;refine⟨?_,rfl,rfl,fun γ=>?_⟩
    ·show n4 a b c d<2^256
     have e256:(2:Nat)^256=115792089237316195423570985008687907853269984665640564039457584007913129639936:=by decide
     rw[e256];unfold n4;omega
    ·show Tryz.prog.built 24 [(0,_),(1,_),(2,_),(3,_)]=some (pw (n4 a b c d)).toList.toArray
     rw[(limbS_ok ka).1,(limbS_ok kb).1,(limbS_ok kc).1,(limbS_ok kd).1];rw[show pw (n4 a b c d)=#[.int .u64 (a:Nat),.int .u64 (b:Nat),.int .u64 (c:Nat),.int .u64 (d:Nat)] by
      unfold pw n4;rw[show(a+18446744073709551616*b+340282366920938463463374607431768211456*c+6277101735386680763835789423207666416102355444464034512896*d)%18446744073709551616=a by omega];rw[show(a+18446744073709551616*b+340282366920938463463374607431768211456*c+6277101735386680763835789423207666416102355444464034512896*d) / 18446744073709551616%18446744073709551616=b by omega];rw[show(a+18446744073709551616*b+340282366920938463463374607431768211456*c+6277101735386680763835789423207666416102355444464034512896*d) / 340282366920938463463374607431768211456%18446744073709551616=c by omega];rw[show(a+18446744073709551616*b+340282366920938463463374607431768211456*c+6277101735386680763835789423207666416102355444464034512896*d) / 6277101735386680763835789423207666416102355444464034512896%18446744073709551616=d by omega]]
     kernel_rfl
   ·cases h
  ·cases h
 ·cases h
/-! What one kind becomes of another;places in rows that are not known. -/
def kindIn(T:TypeId):List (TypeId × IntKind)->Option IntKind
 | []=>none
 | p::l=>if p.1=T then some p.2 else kindIn T l
theorem kindIn_ok{T:TypeId}{k:IntKind}:∀ {l:List (TypeId × IntKind)},kindIn T l=some k->(T,k)∈l
 | [],h=>by cases h
 | p::l,h=>by
  unfold kindIn at h
  split at h
  ·rename_i e;cases h;subst e;exact .head _
  ·exact .tail _ (kindIn_ok h)
def kindsM:List (TypeId × IntKind):=[(3,.i64),(123,.u64),(22,.u64)]
theorem kindsM_ok:∀ q∈kindsM,Tryz.prog.underlying q.1=some (.int q.2):=fun q hq=>by
 simp only[kindsM,List.mem_cons,List.not_mem_nil,or_false]at hq;rcases hq with rfl | rfl | rfl
 ·exact Tryz.underlying3
 ·exact Tryz.underlying123
 ·exact Tryz.underlying22
def limbN(j x:Nat):Int:=((x / 18446744073709551616^j%18446744073709551616:Nat):Int)
def rldT(T:TypeId)(x:SV)(o j z:Nat):Option (SV × List Ob):=match x with
 | .w k=>if T=22/\o=0/\z=1 then some (.i .u64 (limbN j k),[.ask (j<4)])else none
 | _=>none
theorem rldT_ok{T:TypeId}{x:SV}{o j z:Nat}{r:SV}{p:List Ob}{n:Nat}(h:rldT T x o j z=some (r,p))(hp:All p)(hx:x.lt n=true)(ho:x.ok):r.ok/\r.lt n=true/\∀ γ g t wx,wx.heap[g]?=some (.cells (x.cells γ).toArray t (0,0))->(Instr.loadAt T (.pointer (some ⟨g,o+j*z,none⟩))).run Tryz.prog wx=.ok (r.val γ) wx:=by
 unfold rldT at h
 split at h
 ·rename_i k
  split at h
  ·rename_i hc
   obtain⟨rfl,rfl,rfl⟩:=hc;cases h;have hj:j<4:=hp _ (.head _);refine⟨trivial,rfl,fun γ g t wx hg=>?_⟩;rw[Nat.zero_add,Nat.mul_one];have hc:wx.cell? ⟨g,j,none⟩=some (.int .u64 (limbN j k)):=by
    rw[cell_of_row _ _ _ _ _ _ hg,List.getElem?_toArray];exact(Array.getElem?_toList ..).trans (pw_limb γ j k hj)
   have hi:(Tryz.prog.underlying 22).map isRow=some false:=by kernel_rfl
   go_simp
   rfl
  ·cases h
 ·cases h
def ixaM(T:TypeId)(x y:SV):Option (SV × List Ob):=match x with
 | .p g 0 _ 0=>match natS y with
  | some i=>if T=24 then some (.p g 0 i 1,[.ask (i<4)])else none
  | none=>none
 | _=>none
theorem at_arrK'{P:Program}{T e:TypeId}{n sz:Nat}{g o:Nat}{k:IntKind}{d:Int}(hu:P.underlying T=some (.array n e))(hs:(P.info? e).map (·.size)=some sz)(h0:0<=d/\d<n)(w:World):(Instr.indexAt T (.pointer (some ⟨g,o,none⟩)) (.int k d)).run P w=.ok (.pointer (some ⟨g,o+d.toNat*sz,none⟩)) w:=by
 cases hq:P.info? e with
 | none=>simp[hq]at hs
 | some it =>
  have h2:it.size=sz:=by simpa[hq]using hs
  have hadd:∀ j,(⟨g,o,none⟩:Addr).add j=⟨g,o+j,none⟩:=fun j=>by unfold Addr.add;split <;> simp_all
  simp[Instr.indexAt,asIntOf,Instr.sureAddr,run_underlying hu,sizeOf,typeInfo,hq,h0,h2,hadd,Result.andThen]
theorem at_arrN{P:Program}{T e:TypeId}{n:Nat}{g o:Nat}{d:Nat}(hu:P.underlying T=some (.array n e))(hs:(P.info? e).map (·.size)=some 1)(h0:d<n)(w:World):(Instr.indexAt T (.pointer (some ⟨g,o,none⟩)) (.int .i64 (d:Nat))).run P w=.ok (.pointer (some ⟨g,o+d,none⟩)) w:=by
 have h1:=at_arrK' (g:=g) (o:=o) (k:=.i64) (d:=(d:Nat)) hu hs ⟨by omega,by omega⟩ w;rw[Int.toNat_natCast,Nat.mul_one]at h1;exact h1
theorem ixaM_ok{T:TypeId}{x y r:SV}{p:List Ob}{n:Nat}(h:ixaM T x y=some (r,p))(hp:All p)(hx:x.lt n=true)(hy:y.ok):r.ok/\r.lt n=true/\∀ γ wx,(Instr.indexAt T (x.val γ) (y.val γ)).run Tryz.prog wx=.ok (r.val γ) wx:=by
 unfold ixaM at h
 split at h
 ·rename_i g j
  split at h
  ·rename_i i hi
   split at h
   ·rename_i hT
    subst hT;cases h;refine⟨trivial,hx,fun γ wx=>?_⟩;rw[(natS_ok hi hy).1];show(Instr.indexAt 24 (.pointer (some ⟨γ g,0+j*0,none⟩)) (.int .i64 (i:Nat))).run Tryz.prog wx=.ok (.pointer (some ⟨γ g,0+i*1,none⟩)) wx;rw[Nat.mul_zero,Nat.mul_one];exact at_arrN Tryz.underlying24 (by kernel_rfl) (hp _ (.head _)) wx
   ·cases h
  ·cases h
 ·cases h
def slcM(_:TypeId)(_:SV)(_ _:Option SV):Option SV:=none
theorem slcM_ok{T:TypeId}{x:SV}{lo hi:Option SV}{r:SV}{n:Nat}(h:slcM T x lo hi=some r)(hx:x.lt n=true):r.ok/\r.lt n=true/\∀ γ wx,(Instr.sliceAt T (x.val γ) (lo.map (·.val γ)) (hi.map (·.val γ)) none).run Tryz.prog wx=.ok (r.val γ) wx:=by cases h
def slkM:List TypeId:=[]
theorem slkM_ok:∀ T∈slkM,∃ e,Tryz.prog.underlying T=some (.slice e):=fun T hT=>by cases hT
def cnvT(F T:TypeId)(x:SV):Option SV:=match kindIn F kindsM,kindIn T kindsM,intS x with
 | some _,some k,some q=>some (.i k (k.wrap q.2))
 | _,_,_=>none
theorem cnvT_ok{F T:TypeId}{x r:SV}{n:Nat}(h:cnvT F T x=some r):r.ok/\r.lt n=true/\∀ γ wx,(convert F T (x.val γ)).run Tryz.prog wx=.ok (r.val γ) wx:=by
 unfold cnvT at h
 split at h
 ·rename_i k' k q hF hT hx
  obtain⟨kx,nx⟩:=q;cases h;refine⟨trivial,rfl,fun γ wx=>?_⟩;have uF:=kindsM_ok _ (kindIn_ok hF);have uT:=kindsM_ok _ (kindIn_ok hT);rw[intS_ok hx];unfold convert;simp only[Sem.run_bind,run_underlying uF,run_underlying uT,Result.andThen_ok];rfl
 ·cases h
def ixaT(T:TypeId)(x y:SV):Option (SV × List Ob):=match ixaA arsT T x y with
 | some r=>some r
 | none=>ixaM T x y
def bldT(T:TypeId)(l:List (Nat × SV)):Option SV:=match bldG T l with
 | some r=>some r
 | none=>bldA arsT T l
def xlR(R0:Rows)(T:TypeId)(g o j z:Nat):Option (SV × List Ob):=match rowIn g R0,tyIn T tysT with
 | some r,some y=>if z=0 then (SV.sub y.m o y.sz r.1).map (·,[])else none
 | _,_=>none
structure RowsOk (R0:Rows) (base:Nat) (γ0:Pl) (w0:World):Prop where
 at_:∀ q∈R0,w0.heap[γ0 q.1]?=some (.cells (q.2.1.cells γ0).toArray q.2.2 (0,0))/\q.2.1.ok/\q.2.1.lt base=true/\q.1<base
theorem xlR_ok{R0:Rows}{base:Nat}{γ0:Pl}{w0:World}(h0:RowsOk R0 base γ0 w0):∀ T g o j z r p,xlR R0 T g o j z=some (r,p)->All p->r.ok/\r.lt base=true/\g<base/\∀ γ,(∀ k,k<base->γ k=γ0 k)->∀ wx,Below w0.heap.size w0 wx->(Instr.loadAt T (.pointer (some ⟨γ g,o+j*z,none⟩))).run Tryz.prog wx=.ok (r.val γ) wx:=fun T g o j z r p h hp=>by
 unfold xlR at h
 split at h
 ·rename_i q y hq hy
  split at h
  ·rename_i hz
   obtain⟨r',hr,e⟩:=Option.map_eq_some_iff.1 h;cases e;subst hz;have hm:=h0.at_ _ (rowIn_ok hq);obtain⟨hy',rfl⟩:=tyIn_ok hy;have gy:=tyAll_mem tysT_ok y hy';have s:=SV.sub_ok (fun _=>0) hr;refine⟨s.ok hm.2.1,s.lt _ hm.2.2.1,hm.2.2.2,fun γ hγ wx hw=>?_⟩;have hlt:=(Array.getElem?_eq_some_iff.1 hm.1).1;have hg:=(hw.block _ hlt).trans hm.1;rw[<- (SV.lt_same (γ:=γ) (δ:=γ0) (n:=base) hγ hm.2.2.1).2.1,<- hγ g hm.2.2.2]at hg;rw[Nat.mul_zero,Nat.add_zero];exact load_ok hg gy.d gy.sz hr
  ·cases h
 ·cases h
noncomputable def ET (base:Nat) (more:List Con) (R0:Rows):Env:=⟨Tryz.prog,tysT,base,fun f n M l=>conIn f more n M l,bopG,bldT,xlR R0,ixaT,[],[],slcM,idxA arsT,cnvT,rldT,slkM,fun _ _ _ _=>none⟩
theorem ET_ok{base:Nat}{w0:World}{more:List Con}{γ0:Pl}{R0:Rows}(hm:conAll Tryz.prog base γ0 w0 more)(h0:RowsOk R0 base γ0 w0):(ET base more R0).Good γ0 w0:=by
 refine⟨tyAll_mem tysT_ok,fun f n M l r p R h hp hn hok hM=>?_,fun op T x y r p h hp hx hy=>bopG_ok h hp hx hy,fun T l r h ho=>?_,xlR_ok h0,fun T x y r p n h hp hx _ hy=>?_,fun _ h=>(by cases h),fun _ h=>(by cases h),fun T x lo hi r n h hx=>slcM_ok h hx,fun T x y r n h hx ho hy=>idxA_ok arsT_ok h hx ho hy,fun _ _ _ _ _ h _ _=>cnvT_ok h,fun _ _ _ _ _ _ _ _ h hp hx ho=>rldT_ok h hp hx ho,slkM_ok,fun _ _ _ _ _ _ _ h=>(by cases h)⟩
 ·obtain⟨c,h1,rfl,h3⟩:=conIn_ok (conAll_mem hm) h
  have:=h1.all n M l r p R h3 hp hn hok hM;exact⟨this.1,this.2.1,this.2.2.1,h1.call,this.2.2.2⟩
 ·replace h:bldT T l=some r:=h
  unfold bldT at h
  split at h
  ·rename_i hb
   cases h;exact bldG_ok hb
  ·exact bldA_ok arsT_ok h ho
 ·replace h:ixaT T x y=some (r,p):=h
  unfold ixaT at h
  split at h
  ·rename_i hb
   cases h;exact ixaA_ok arsT_ok hb hx hy
  ·exact ixaM_ok h hp hx hy
theorem noRows{base:Nat}{γ0:Pl}{w0:World}:RowsOk [] base γ0 w0:=⟨fun _ h=>by cases h⟩
noncomputable def E1 (more:List Con):Env:=ET 1 more []
theorem E1_ok{w0:World}{more:List Con}{γ0:Pl}(hm:conAll Tryz.prog 1 γ0 w0 more):(E1 more).Good γ0 w0:=ET_ok hm noRows
def sG:SV:=.ap (.p 0 0 0 0) .e
def conV(f:FuncId)(g:List SV->Option (SV × List Ob)):Con:=⟨f,fun _ _ l=>(g l).map fun q=>(q.1,q.2,[])⟩
theorem conV_ok{P:Program}{base:Nat}{γ0:Pl}{w0:World}{f:FuncId}{g:List SV->Option (SV × List Ob)}(hc:∀ as_ wx,(callFunc f as_).run P wx=.ok (.enter f as_) wx)
  (h:∀ us r q,g us=some (r,q)->All q->(∀ x∈us,x.ok)->r.ok/\r.lt 0=true/\∀ γ w,Calls P f (us.map (·.val γ)).toArray w fun e w'=>e=.returned (r.val γ)/\Below w.heap.size w w'):ConOk P base γ0 w0 (conV f g) :=
 .of hc fun n M l r p R hr hp hok=>by
  obtain⟨q,hq,e⟩:=Option.map_eq_some_iff.1 hr;cases e;have:=h l q.1 q.2 hq hp hok;exact⟨rfl,this.1,this.2.1,fun γ _ wx _ _=>this.2.2 γ wx⟩
structure Shp (α:Type) where
 enc:α->SV
 dec:SV->Option α
 dec_ok:∀ x a,dec x=some a->x=enc a
 lt:∀ a,(enc a).lt 0=true
def d2:SV->Option N2
 | .ap (.w a) (.ap (.w b) .e)=>some (a,b)
 | _=>none
theorem d2_ok(x:SV)(a:N2)(h:d2 x=some a):x=F2s a:=by
 unfold d2 at h
 split at h
 ·cases h;rfl
 ·cases h
def sh2:Shp N2:=⟨F2s,d2,d2_ok,fun _=>rfl⟩
def o0:Pl:=fun _=>0
section
variable {α β ρ:Type}
def cV1(f:FuncId)(A:Shp α)(op:α->SV):Con:=conV f fun l=>match l with
 | [x]=>(A.dec x).map fun a=>(op a,[])
 | _=>none
def cV2(f:FuncId)(A:Shp α)(B:Shp β)(op:α->β->SV):Con:=conV f fun l=>match l with
 | [x,y]=>match A.dec x,B.dec y with
  | some a,some b=>some (op a b,[])
  | _,_=>none
 | _=>none
theorem cV1_ok{P:Program}{base:Nat}{γ0:Pl}{w0:World}{f:FuncId}{A:Shp α}{op:α->SV}(hc:∀ as_ wx,(callFunc f as_).run P wx=.ok (.enter f as_) wx)(hg:∀ a,(A.enc a).ok->(op a).ok/\(op a).lt 0=true)
  (h:∀ a,(A.enc a).ok->∀ w,Calls P f #[(A.enc a).val o0] w fun e w'=>e=.returned ((op a).val o0)/\Below w.heap.size w w'):ConOk P base γ0 w0 (cV1 f A op) :=
 conV_ok hc fun us r q hr hq hok=>by
  split at hr
  ·rename_i x
   obtain⟨a,ha,e⟩:=Option.map_eq_some_iff.1 hr;cases e;have hx:=A.dec_ok _ _ ha;subst hx;have oa:=hok (A.enc a) (by simp);refine⟨(hg a oa).1,(hg a oa).2,fun γ w=>?_⟩;show Calls P f #[(A.enc a).val γ] w _;rw[val0 (hg a oa).2,val0 (A.lt a)];exact h a oa w
  ·cases hr
theorem cV2_ok{P:Program}{base:Nat}{γ0:Pl}{w0:World}{f:FuncId}{A:Shp α}{B:Shp β}{op:α->β->SV}(hc:∀ as_ wx,(callFunc f as_).run P wx=.ok (.enter f as_) wx)(hg:∀ a b,(A.enc a).ok->(B.enc b).ok->(op a b).ok/\(op a b).lt 0=true)
  (h:∀ a b,(A.enc a).ok->(B.enc b).ok->∀ w,Calls P f #[(A.enc a).val o0,(B.enc b).val o0] w fun e w'=>e=.returned ((op a b).val o0)/\Below w.heap.size w w'):ConOk P base γ0 w0 (cV2 f A B op) :=
 conV_ok hc fun us r q hr hq hok=>by
  split at hr
  ·rename_i x y
   split at hr
   ·rename_i a b ha hb
    cases hr;have hx:=A.dec_ok _ _ ha;have hy:=B.dec_ok _ _ hb;subst hx hy;have oa:=hok (A.enc a) (by simp);have ob:=hok (B.enc b) (by simp);have g:=hg a b oa ob;refine⟨g.1,g.2,fun γ w=>?_⟩;show Calls P f #[(A.enc a).val γ,(B.enc b).val γ] w _;rw[val0 g.2,val0 (A.lt a),val0 (B.lt b)];exact h a b oa ob w
   ·cases hr
  ·cases hr
end
def Is0{α:Type}(f:FuncId)(A:Shp α)(op:α->SV):Prop:=∀ base γ0 w0,ConOk Tryz.prog base γ0 w0 (cV1 f A op)
def Is00{α β:Type}(f:FuncId)(A:Shp α)(B:Shp β)(op:α->β->SV):Prop:=∀ base γ0 w0,ConOk Tryz.prog base γ0 w0 (cV2 f A B op)
end Go.Proofs.YtadfjjfklihaaaaGreat.Sy
namespace Go.Proofs.YtadfjjfklihaaaaGreat
open Go.RowKit
namespace Sy
def dW:SV->Option Nat
 | .w a=>some a
 | _=>none
theorem dW_ok(x:SV)(a:Nat)(h:dW x=some a):x=.w a:=by
 unfold dW at h
 split at h
 ·cases h;rfl
 ·cases h
def shW:Shp Nat:=⟨.w,dW,dW_ok,fun _=>rfl⟩
def cvW(g:Nat):SV:=.ap (.fv 65 g) (.ap (.fv 66 g) (.ap (.fv 67 g) (.ap (.fv 68 g) (.ap (.w 1) (.ap (.w 3) (.ap (.v (.bool false)) .e))))))
theorem cvW_ok:(cvW 0).ok:=⟨trivial,trivial,trivial,trivial,(by decide:(1:Nat)<2^256),(by decide:(3:Nat)<2^256),trivial,trivial⟩
def vcW(F:Nat):Value:=(cvW 0).val fun _=>F
theorem cvW_val(γ:Pl)(k:Nat):(cvW k).val γ=vcW (γ k):=rfl
def conW(ext:Bool)(m:Nat)(f:FuncId)(g:List SV->Option (SV × List Ob)):Con:=⟨f,fun _ M l=>match l with
 | .ap (.fv a k) r::us=>match isF ext m M (.p k 0 0 0),g us with
  | some p,some (x,q)=>some (x,q++(.eq (.ap (.fv a k) r) (cvW k)::p),[])
  | _,_=>none
 | _=>none⟩
theorem conW_ok{P:Program}{ext:Bool}{m:Nat}{γ0:Pl}{w0:World}{f:FuncId}{g:List SV->Option (SV × List Ob)}(hf:FOk ext m γ0 w0)(hc:∀ as_ wx,(callFunc f as_).run P wx=.ok (.enter f as_) wx)
  (h:∀ us r q,g us=some (r,q)->All q->(∀ x∈us,x.ok)->r.ok/\r.lt 0=true/\∀ γ F w,FldAt w F m->Calls P f (vcW F::us.map (·.val γ)).toArray w fun e w'=>e=.returned (r.val γ)/\Below w.heap.size w w'):ConOk P 1 γ0 w0 (conW ext m f g) :=
 .of hc fun n M l r p R hr hp hok=>by
  unfold conW at hr;dsimp only at hr
  split at hr
  ·rename_i a k r1 us
   split at hr
   ·rename_i p' x q hx hq
    cases hr;obtain⟨g1,g2,g3⟩:=h us _ q hq (fun a ha=>hp a (List.mem_append_left _ ha)) fun x hx=>hok x (.tail _ hx);refine⟨rfl,g1,g2,fun γ hγ wx hw hL=>?_⟩;have he:SV.ap (.fv a k) r1=cvW k:=hp _ (List.mem_append_right _ (.head _));obtain⟨F,h1,h2⟩:=isF_at hx (fun a ha=>hp a (List.mem_append_right _ (.tail _ ha))) hf hγ hw hL;have h1':Value.pointer (some ⟨γ k,0+0*0,none⟩)=.pointer (some ⟨F,0,none⟩):=h1;injection h1' with h1'
    injection h1' with h1'
    injection h1' with h1'
    have e2:(SV.ap (.fv a k) r1).val γ=vcW F:=by rw[he,cvW_val,h1']
    have g4:=g3 γ F wx h2;rw[<- e2]at g4;exact g4
   ·cases hr
  ·cases hr
def IsW(m:Nat)(f:FuncId)(g:List SV->Option (SV × List Ob)):Prop:=∀ ext γ0 w0,FOk ext m γ0 w0->ConOk Tryz.prog 1 γ0 w0 (conW ext m f g)
def IsOW(m:Nat)(f:FuncId)(op:Nat->Nat->Nat):Prop:=∀ ext γ0 w0,FOk ext m γ0 w0->ConOk Tryz.prog 1 γ0 w0 (fld2 ext m f op)
def IsJW(m:Nat)(f:FuncId)(op:Nat->Nat × Bool):Prop:=∀ ext γ0 w0,FOk ext m γ0 w0->ConOk Tryz.prog 1 γ0 w0 (fld1 ext m f fun a=>.tu (.w (op a).1) (.b (op a).2))
/-! Places,points. -/
def jSW(T:Nat × Nat × Nat):SV:=.ap (SV.w (T.1)) (.ap (SV.w (T.2.1)) (.ap (SV.w (T.2.2)) .e))
def pSW(P:Nat × Nat × Bool):SV:=.ap (SV.w (P.1)) (.ap (SV.w (P.2.1)) (.ap (.b P.2.2) .e))
def dJW:SV->Option (Nat × Nat × Nat)
 | .ap x (.ap y (.ap z .e))=>match dW x,dW y,dW z with
  | some a,some b,some c=>some (a,b,c)
  | _,_,_=>none
 | _=>none
theorem dJW_ok(x:SV)(T:Nat × Nat × Nat)(h:dJW x=some T):x=jSW T:=by
 unfold dJW at h
 split at h
 ·split at h
  ·rename_i h0 h1 h2
   cases h;rw[dW_ok _ _ h0,dW_ok _ _ h1,dW_ok _ _ h2];rfl
  ·cases h
 ·cases h
def shJW:Shp (Nat × Nat × Nat):=⟨jSW,dJW,dJW_ok,fun _=>rfl⟩
theorem need_sh{p:Prop}{t:Sh}{Q:Post}{L:List Bool->Prop}(hp:p)(h:t.wp Q L):(Sh.need p t).wp Q L:=⟨hp,h⟩
theorem br_sh{b:Bool}{t f:Sh}{Q:Post}{L:List Bool->Prop}(h1:b=true->t.wp Q fun l=>L (true::l))(h2:b=false->f.wp Q fun l=>L (false::l)):(Sh.br b t f).wp Q L:=⟨h1,h2⟩
theorem leaf_sh{r:SV}{Q:Post}{L:List Bool->Prop}(h:Q.leaf r):(Sh.leaf r).wp Q L:=h
theorem loop_sh{d:Nat}{Q:Post}{L:List Bool->Prop}(h:L []):(Sh.loop d).wp Q L:=h
end Sy
open Go.RowKit
namespace Sy
def zJW:Nat × Nat × Nat:=(0,0,0)
def plcW(P:Nat × Nat × Bool):Nat × Nat × Nat:=bif P.2.2 then zJW else (P.1,P.2.1,1)
def zrW(T:Nat × Nat × Nat):Bool:=eqN (T.2.2) (0)
section
variable {A S M:Nat->Nat->Nat} {I:Nat->Nat × Bool}
def blwW(A:Nat->Nat->Nat)(x:Nat):Bool:=eqN (A x 0) (x)
def fitW(A M:Nat->Nat->Nat)(x y:Nat):Bool:=bif (bif blwW A x then blwW A y else false)then eqN (M y y) (A (M (M x x) x) 3)else false
def ptwW(A S M:Nat->Nat->Nat)(T:Nat × Nat × Nat):(Nat × Nat × Nat) × Nat :=
 let d:=A T.2.1 T.2.1
 let mi:=M T.1 (M d d)
 let sq:=M T.1 T.1
 let sl:=A sq (A sq sq)
 let x:=S (M sl sl) (A mi mi)
 ((x,S (M sl (S mi x)) (M d (M T.2.1 (M d d))),M d T.2.2),sl)
def pacW(S M:Nat->Nat->Nat)(T:Nat × Nat × Nat)(x2:Nat):Nat:=S (M x2 (M T.2.2 T.2.2)) T.1
def pupW(S M:Nat->Nat->Nat)(T:Nat × Nat × Nat)(y2:Nat):Nat:=S (M y2 (M (M T.2.2 T.2.2) T.2.2)) T.2.1
def padW(A S M:Nat->Nat->Nat)(T:Nat × Nat × Nat)(x2 y2:Nat):(Nat × Nat × Nat) × Nat :=
 let ac:=pacW S M T x2
 let sl:=pupW S M T y2
 let mi:=M T.1 (M ac ac)
 let th:=M ac (M ac ac)
 let x:=S (M sl sl) (A th (A mi mi))
 ((x,S (M sl (S mi x)) (M T.2.1 th),M T.2.2 ac),sl)
def sameW(S M:Nat->Nat->Nat)(T:Nat × Nat × Nat)(x2 y2:Nat):Bool:=bif eqN (pacW S M T x2) (0)then eqN (pupW S M T y2) (0)else false
def pplW(A S M:Nat->Nat->Nat)(T:Nat × Nat × Nat)(P:Nat × Nat × Bool):(Nat × Nat × Nat) × Nat :=
 bif P.2.2 then (T,0)else bif zrW T then (plcW P,0)else bif sameW S M T P.1 P.2.1 then ptwW A S M T else padW A S M T P.1 P.2.1
def dPW:SV->Option (Nat × Nat × Bool)
 | .ap x (.ap y (.ap (.b n) .e))=>match dW x,dW y with
  | some a,some b=>some (a,b,n)
  | _,_=>none
 | _=>none
theorem dPW_ok(x:SV)(T:Nat × Nat × Bool)(h:dPW x=some T):x=pSW T:=by
 unfold dPW at h
 split at h
 ·split at h
  ·rename_i h0 h1
   cases h;rw[dW_ok _ _ h0,dW_ok _ _ h1];rfl
  ·cases h
 ·cases h
def gNW(op:(Nat)->SV):List SV->Option (SV × List Ob)
 | [xa]=>match dW xa with
  | some a=>some (op a,[])
  | _=>none
 | _=>none
theorem gNW_ok{op:(Nat)->SV}{us:List SV}{r:SV}{q:List Ob}(h:gNW op us=some (r,q)):∃ a,us=[.w a]/\r=op a:=by
 unfold gNW at h
 split at h
 ·split at h
  ·rename_i ha
   cases h;exact⟨_,by rw[dW_ok _ _ ha],rfl⟩
  ·cases h
 ·cases h
def gNNW(op:(Nat)->(Nat)->SV):List SV->Option (SV × List Ob)
 | [xa,xb]=>match dW xa,dW xb with
  | some a,some b=>some (op a b,[])
  | _,_=>none
 | _=>none
theorem gNNW_ok{op:(Nat)->(Nat)->SV}{us:List SV}{r:SV}{q:List Ob}(h:gNNW op us=some (r,q)):∃ a b,us=[.w a,.w b]/\r=op a b:=by
 unfold gNNW at h
 split at h
 ·split at h
  ·rename_i ha hb
   cases h;exact⟨_,_,by rw[dW_ok _ _ ha,dW_ok _ _ hb],rfl⟩
  ·cases h
 ·cases h
def gJW(op:(Nat × Nat × Nat)->SV):List SV->Option (SV × List Ob)
 | [xa]=>match dJW xa with
  | some a=>some (op a,[])
  | _=>none
 | _=>none
theorem gJW_ok{op:(Nat × Nat × Nat)->SV}{us:List SV}{r:SV}{q:List Ob}(h:gJW op us=some (r,q)):∃ a,us=[jSW a]/\r=op a:=by
 unfold gJW at h
 split at h
 ·split at h
  ·rename_i ha
   cases h;exact⟨_,by rw[dJW_ok _ _ ha],rfl⟩
  ·cases h
 ·cases h
def gPW(op:(Nat × Nat × Bool)->SV):List SV->Option (SV × List Ob)
 | [xa]=>match dPW xa with
  | some a=>some (op a,[])
  | _=>none
 | _=>none
theorem gPW_ok{op:(Nat × Nat × Bool)->SV}{us:List SV}{r:SV}{q:List Ob}(h:gPW op us=some (r,q)):∃ a,us=[pSW a]/\r=op a:=by
 unfold gPW at h
 split at h
 ·split at h
  ·rename_i ha
   cases h;exact⟨_,by rw[dPW_ok _ _ ha],rfl⟩
  ·cases h
 ·cases h
def gJPW(op:(Nat × Nat × Nat)->(Nat × Nat × Bool)->SV):List SV->Option (SV × List Ob)
 | [xa,xb]=>match dJW xa,dPW xb with
  | some a,some b=>some (op a b,[])
  | _,_=>none
 | _=>none
theorem gJPW_ok{op:(Nat × Nat × Nat)->(Nat × Nat × Bool)->SV}{us:List SV}{r:SV}{q:List Ob}(h:gJPW op us=some (r,q)):∃ a b,us=[jSW a,pSW b]/\r=op a b:=by
 unfold gJPW at h
 split at h
 ·split at h
  ·rename_i ha hb
   cases h;exact⟨_,_,by rw[dJW_ok _ _ ha,dPW_ok _ _ hb],rfl⟩
  ·cases h
 ·cases h
def gKPW(op:(Nat)->(Nat × Nat × Bool)->SV):List SV->Option (SV × List Ob)
 | [xa,xb]=>match dW xa,dPW xb with
  | some a,some b=>some (op a b,[])
  | _,_=>none
 | _=>none
theorem gKPW_ok{op:(Nat)->(Nat × Nat × Bool)->SV}{us:List SV}{r:SV}{q:List Ob}(h:gKPW op us=some (r,q)):∃ a b,us=[.w a,pSW b]/\r=op a b:=by
 unfold gKPW at h
 split at h
 ·split at h
  ·rename_i ha hb
   cases h;exact⟨_,_,by rw[dW_ok _ _ ha,dPW_ok _ _ hb],rfl⟩
  ·cases h
 ·cases h
def gPPW(op:(Nat × Nat × Bool)->(Nat × Nat × Bool)->SV):List SV->Option (SV × List Ob)
 | [xa,xb]=>match dPW xa,dPW xb with
  | some a,some b=>some (op a b,[])
  | _,_=>none
 | _=>none
theorem gPPW_ok{op:(Nat × Nat × Bool)->(Nat × Nat × Bool)->SV}{us:List SV}{r:SV}{q:List Ob}(h:gPPW op us=some (r,q)):∃ a b,us=[pSW a,pSW b]/\r=op a b:=by
 unfold gPPW at h
 split at h
 ·split at h
  ·rename_i ha hb
   cases h;exact⟨_,_,by rw[dPW_ok _ _ ha,dPW_ok _ _ hb],rfl⟩
  ·cases h
 ·cases h
theorem noneW_is:Is0 75 shJW fun T=>.b (zrW T):=fun _ _ _=>cV1_ok (fun _ _=>by kernel_rfl) (fun _ _=>⟨trivial,rfl⟩) fun T oT w =>
 calls_at (E1_ok (γ0:=o0) (more:=[]) trivial) (by kernel_rfl) (fun _=>0) Tryz.func75 (by kernel_rfl) [jSW T] ⟨⟨oT,rfl⟩,trivial⟩ (by kernel_rfl) (by kernel_rfl) (.leaf (.b (zrW T))) (by kernel_rfl) rfl
theorem plcW_ok{P:Nat × Nat × Bool}(h:(pSW P).ok):(jSW (plcW P)).ok:=by
 unfold plcW;cases P.2.2
 ·exact⟨h.1,h.2.1,(by decide:(1:Nat)<2^256),trivial⟩
 ·exact⟨w0_ok,w0_ok,w0_ok,trivial⟩
theorem belowW_is{m:Nat}(hA:IsOW m 65 A):IsW m 113 (gNW fun a=>SV.b (blwW A a)):=fun _ _ _ hf=>conW_ok hf (fun _ _=>by kernel_rfl) fun us r q hr _ hok=>by
  obtain⟨a,rfl,rfl⟩:=gNW_ok hr;have oa:=hok (.w a) (by simp);have key:=(⟨trivial,rfl⟩:(SV.b (blwW A a)).ok/\(SV.b (blwW A a)).lt 0=true)
  refine⟨key.1,key.2,fun γ F w hF=>?_⟩;simp only[List.map_cons,List.map_nil];rw[val0 (γ:=γ) key.2];rw[val0 (γ:=γ) (x:=.w a) rfl];have h:=calls_at (w0:=w) (V:=(SV.b (blwW A a)).val fun _=>0) (E1_ok (γ0:=fun _=>F) (more:=[fld2 true m 65 A]) ⟨hA _ _ _ (FOk.of hF),trivial⟩) (by kernel_rfl) (fun _=>0) Tryz.func113 (by kernel_rfl) [cvW 0,.w a] ⟨⟨cvW_ok,rfl⟩,⟨oa,rfl⟩,trivial⟩ (by kernel_rfl) (by kernel_rfl)
   (.leaf (.b (blwW A a))) (by kernel_rfl) (leaf_sh (val0 (x:=.b (blwW A a)) rfl))
  exact h
theorem fitW_is{m:Nat}(hA:IsOW m 65 A)(hM:IsOW m 67 M)(hB:IsW m 113 (gNW fun a=>SV.b (blwW A a))):IsW m 74 (gNNW fun a b=>SV.b (fitW A M a b)):=fun _ _ _ hf=>conW_ok hf (fun _ _=>by kernel_rfl) fun us r q hr _ hok=>by
  obtain⟨a,b,rfl,rfl⟩:=gNNW_ok hr;have oa:=hok (.w a) (by simp);have ob:=hok (.w b) (by simp);have key:=(⟨trivial,rfl⟩:(SV.b (fitW A M a b)).ok/\(SV.b (fitW A M a b)).lt 0=true)
  refine⟨key.1,key.2,fun γ F w hF=>?_⟩;simp only[List.map_cons,List.map_nil];rw[val0 (γ:=γ) key.2];rw[val0 (γ:=γ) (x:=.w a) rfl];rw[val0 (γ:=γ) (x:=.w b) rfl];have h:=calls_at (w0:=w) (V:=(SV.b (fitW A M a b)).val fun _=>0) (E1_ok (γ0:=fun _=>F) (more:=[fld2 true m 65 A,fld2 true m 67 M,conW true m 113 (gNW fun a=>SV.b (blwW A a))]) ⟨hA _ _ _ (FOk.of hF),hM _ _ _ (FOk.of hF),hB _ _ _ (FOk.of hF),trivial⟩) (by kernel_rfl) (fun _=>0) Tryz.func74 (by kernel_rfl) [cvW 0,.w a,.w b] ⟨⟨cvW_ok,rfl⟩,⟨oa,rfl⟩,⟨ob,rfl⟩,trivial⟩ (by kernel_rfl) (by kernel_rfl)
   (.leaf (.b (fitW A M a b))) (by kernel_rfl) (leaf_sh (val0 (x:=.b (fitW A M a b)) rfl))
  exact h
theorem placeW_is{m:Nat}:IsW m 71 (gPW fun a=>jSW (plcW a)):=fun _ _ _ hf=>conW_ok hf (fun _ _=>by kernel_rfl) fun us r q hr _ hok=>by
  obtain⟨a,rfl,rfl⟩:=gPW_ok hr;have oa:=hok (pSW a) (by simp);have key:=(⟨plcW_ok oa,rfl⟩:(jSW (plcW a)).ok/\(jSW (plcW a)).lt 0=true)
  refine⟨key.1,key.2,fun γ F w hF=>?_⟩;simp only[List.map_cons,List.map_nil];rw[val0 (γ:=γ) key.2];rw[val0 (γ:=γ) (x:=pSW a) rfl];have h:=calls_at (w0:=w) (V:=(jSW (plcW a)).val fun _=>0) (E1_ok (γ0:=fun _=>F) (more:=[]) trivial) (by kernel_rfl) (fun _=>0) Tryz.func71 (by kernel_rfl) [cvW 0,pSW a] ⟨⟨cvW_ok,rfl⟩,⟨oa,rfl⟩,trivial⟩ (by kernel_rfl) (by kernel_rfl)
   (.br a.2.2 (.leaf (jSW zJW)) (.leaf (jSW (a.1,a.2.1,1)))) (by kernel_rfl) (br_sh (fun h=>leaf_sh (by unfold plcW;rw[h];rfl)) fun h=>leaf_sh (by unfold plcW;rw[h];rfl))
  exact h
theorem twiceW_is{m:Nat}(oA:∀ a b,(A a b)<2^256)(oS:∀ a b,(S a b)<2^256)(oM:∀ a b,(M a b)<2^256)(hA:IsOW m 65 A)(hS:IsOW m 66 S)(hM:IsOW m 67 M):IsW m 111 (gJW fun a=>SV.tu (jSW (ptwW A S M a).1) (SV.w ((ptwW A S M a).2))):=fun _ _ _ hf=>conW_ok hf (fun _ _=>by kernel_rfl) fun us r q hr _ hok=>by
  obtain⟨a,rfl,rfl⟩:=gJW_ok hr;have oa:=hok (jSW a) (by simp);have key:=(⟨⟨⟨oS _ _,oS _ _,oM _ _,trivial⟩,oA _ _⟩,rfl⟩:(SV.tu (jSW (ptwW A S M a).1) (SV.w ((ptwW A S M a).2))).ok/\(SV.tu (jSW (ptwW A S M a).1) (SV.w ((ptwW A S M a).2))).lt 0=true)
  refine⟨key.1,key.2,fun γ F w hF=>?_⟩;simp only[List.map_cons,List.map_nil];rw[val0 (γ:=γ) key.2];rw[val0 (γ:=γ) (x:=jSW a) rfl];have h:=calls_at (w0:=w) (V:=(SV.tu (jSW (ptwW A S M a).1) (SV.w ((ptwW A S M a).2))).val fun _=>0) (E1_ok (γ0:=fun _=>F) (more:=[fld2 true m 65 A,fld2 true m 66 S,fld2 true m 67 M]) ⟨hA _ _ _ (FOk.of hF),hS _ _ _ (FOk.of hF),hM _ _ _ (FOk.of hF),trivial⟩) (by kernel_rfl) (fun _=>0) Tryz.func111 (by kernel_rfl) [cvW 0,jSW a] ⟨⟨cvW_ok,rfl⟩,⟨oa,rfl⟩,trivial⟩ (by kernel_rfl) (by kernel_rfl)
   (.leaf (SV.tu (jSW (ptwW A S M a).1) (SV.w ((ptwW A S M a).2)))) (by kernel_rfl) rfl
  exact h
theorem pplW_ok(oA:∀ a b,(A a b)<2^256)(oS:∀ a b,(S a b)<2^256)(oM:∀ a b,(M a b)<2^256){T:Nat × Nat × Nat}{P:Nat × Nat × Bool}(h:(jSW T).ok)(h':(pSW P).ok):(SV.tu (jSW (pplW A S M T P).1) (SV.w ((pplW A S M T P).2))).ok:=by
 unfold pplW;cases P.2.2
 ·cases zrW T
  ·cases sameW S M T P.1 P.2.1
   ·exact⟨⟨oS _ _,oS _ _,oM _ _,trivial⟩,oS _ _⟩
   ·exact⟨⟨oS _ _,oS _ _,oM _ _,trivial⟩,oA _ _⟩
  ·exact⟨plcW_ok h',w0_ok⟩
 ·exact⟨h,w0_ok⟩
theorem plusW_is{m:Nat}(oA:∀ a b,(A a b)<2^256)(oS:∀ a b,(S a b)<2^256)(oM:∀ a b,(M a b)<2^256)(hA:IsOW m 65 A)(hS:IsOW m 66 S)(hM:IsOW m 67 M)(hT:IsW m 111 (gJW fun a=>SV.tu (jSW (ptwW A S M a).1) (SV.w ((ptwW A S M a).2)))):IsW m 70 (gJPW fun a b=>SV.tu (jSW (pplW A S M a b).1) (SV.w ((pplW A S M a b).2))):=fun _ _ _ hf=>conW_ok hf (fun _ _=>by kernel_rfl) fun us r q hr _ hok=>by
  obtain⟨a,b,rfl,rfl⟩:=gJPW_ok hr;have oa:=hok (jSW a) (by simp);have ob:=hok (pSW b) (by simp);have key:=(⟨pplW_ok oA oS oM oa ob,rfl⟩:(SV.tu (jSW (pplW A S M a b).1) (SV.w ((pplW A S M a b).2))).ok/\(SV.tu (jSW (pplW A S M a b).1) (SV.w ((pplW A S M a b).2))).lt 0=true)
  refine⟨key.1,key.2,fun γ F w hF=>?_⟩;simp only[List.map_cons,List.map_nil];rw[val0 (γ:=γ) key.2];rw[val0 (γ:=γ) (x:=jSW a) rfl];rw[val0 (γ:=γ) (x:=pSW b) rfl];have h:=calls_at (w0:=w) (V:=(SV.tu (jSW (pplW A S M a b).1) (SV.w ((pplW A S M a b).2))).val fun _=>0) (E1_ok (γ0:=fun _=>F) (more:=[fld2 true m 65 A,fld2 true m 66 S,fld2 true m 67 M,conW true m 111 (gJW fun a=>SV.tu (jSW (ptwW A S M a).1) (SV.w ((ptwW A S M a).2))),conW true m 71 (gPW fun a=>jSW (plcW a)),cV1 75 shJW fun T=>.b (zrW T)]) ⟨hA _ _ _ (FOk.of hF),hS _ _ _ (FOk.of hF),hM _ _ _ (FOk.of hF),hT _ _ _ (FOk.of hF),placeW_is _ _ _ (FOk.of hF),noneW_is _ _ _,trivial⟩) (by kernel_rfl) (fun _=>0) Tryz.func70 (by kernel_rfl) [cvW 0,jSW a,pSW b] ⟨⟨cvW_ok,rfl⟩,⟨oa,rfl⟩,⟨ob,rfl⟩,trivial⟩ (by kernel_rfl) (by kernel_rfl)
   (.br b.2.2 (.leaf (.tu (jSW a) (SV.w (0)))) (.br (zrW a) (.leaf (.tu (jSW (plcW b)) (SV.w (0)))) (.br (sameW S M a b.1 b.2.1) (.leaf (SV.tu (jSW (ptwW A S M a).1) (SV.w ((ptwW A S M a).2)))) (.leaf (.tu (jSW (padW A S M a b.1 b.2.1).1) (SV.w ((padW A S M a b.1 b.2.1).2))))))) (by kernel_rfl) (br_sh (fun h=>leaf_sh (by unfold pplW;rw[h];rfl)) fun h=>br_sh (fun h2=>leaf_sh (by unfold pplW;rw[h,h2];rfl)) fun h2=>br_sh (fun h3=>leaf_sh (by unfold pplW;rw[h,h2,h3];rfl)) fun h3=>leaf_sh (by unfold pplW;rw[h,h2,h3];rfl))
  exact h
def pntW(M:Nat->Nat->Nat)(I:Nat->Nat × Bool)(T:Nat × Nat × Nat):Nat × Nat × Bool :=
 bif (I T.2.2).2 then (M T.1 (M (I T.2.2).1 (I T.2.2).1),M T.2.1 (M (M (I T.2.2).1 (I T.2.2).1) (I T.2.2).1),false)else (0,0,true)
theorem pntW_ok(oM:∀ a b,(M a b)<2^256)(T:Nat × Nat × Nat):(pSW (pntW M I T)).ok:=by
 unfold pntW;cases (I T.2.2).2
 ·exact⟨w0_ok,w0_ok,trivial,trivial⟩
 ·exact⟨oM _ _,oM _ _,trivial,trivial⟩
theorem pointW_is{m:Nat}(oM:∀ a b,(M a b)<2^256)(hM:IsOW m 67 M)(hI:IsJW m 68 I):IsW m 72 (gJW fun a=>pSW (pntW M I a)):=fun _ _ _ hf=>conW_ok hf (fun _ _=>by kernel_rfl) fun us r q hr _ hok=>by
  obtain⟨a,rfl,rfl⟩:=gJW_ok hr;have oa:=hok (jSW a) (by simp);have key:=(⟨pntW_ok oM a,rfl⟩:(pSW (pntW M I a)).ok/\(pSW (pntW M I a)).lt 0=true)
  refine⟨key.1,key.2,fun γ F w hF=>?_⟩;simp only[List.map_cons,List.map_nil];rw[val0 (γ:=γ) key.2];rw[val0 (γ:=γ) (x:=jSW a) rfl];have h:=calls_at (w0:=w) (V:=(pSW (pntW M I a)).val fun _=>0) (E1_ok (γ0:=fun _=>F) (more:=[fld2 true m 67 M,fld1 true m 68 fun a=>.tu (.w (I a).1) (.b (I a).2)]) ⟨hM _ _ _ (FOk.of hF),hI _ _ _ (FOk.of hF),trivial⟩) (by kernel_rfl) (fun _=>0) Tryz.func72 (by kernel_rfl) [cvW 0,jSW a] ⟨⟨cvW_ok,rfl⟩,⟨oa,rfl⟩,trivial⟩ (by kernel_rfl) (by kernel_rfl)
   (.br (!(I a.2.2).2) (.leaf (SV.ap (SV.w (0)) (.ap (SV.w (0)) (.ap (.v (.bool true)) .e)))) (.leaf (SV.ap (SV.w (M a.1 (M (I a.2.2).1 (I a.2.2).1))) (.ap (SV.w (M a.2.1 (M (M (I a.2.2).1 (I a.2.2).1) (I a.2.2).1))) (.ap (.v (.bool false)) .e))))) (by kernel_rfl) (br_sh (fun h=>leaf_sh (by unfold pntW;rw[show(I a.2.2).2=false by simpa using h];rfl)) fun h=>leaf_sh (by unfold pntW;rw[show(I a.2.2).2=true by simpa using h];rfl))
  exact h
end
end Sy
end Go.Proofs.YtadfjjfklihaaaaGreat
