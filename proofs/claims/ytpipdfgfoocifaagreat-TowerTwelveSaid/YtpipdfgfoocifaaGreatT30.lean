/- Arrays of arrays of words among the arguments, opened: two words, twelve. (Cut to what is reached, written closely: TwS · TwO.) -/
import Derived.Test.YtpipdfgfoocifaaGreatT25
import Derived.Test.YtpipdfgfoocifaaGreatT28
import Derived.Test.YtpipdfgfoocifaaGreatT24
import Derived.Test.YtpipdfgfoocifaaGreatT17
import Derived.Test.YtpipdfgfoocifaaGreatT29
import Derived.Test.YtpipdfgfoocifaaGreatT18
set_option linter.all false
set_option maxRecDepth 100000
set_option maxHeartbeats 8000000
namespace Go.Proofs.YtpipdfgfoocifaaGreat.Sy
open Go.RowKit
def sFld(m:Nat):SV:=.ap (.i .u64 (frw m 0:Nat)) (.ap (.i .u64 (frw m 1:Nat)) (.ap (.i .u64 (frw m 2:Nat)) (.ap (.i .u64 (frw m 3:Nat)) (.ap (.i .u64 (frw m 4:Nat)) (.ap (.i .u64 (frw m 5:Nat)) (.ap (.i .u64 (frw m 6:Nat)) (.ap (.i .u64 (frw m 7:Nat)) (.ap (.i .u64 (frw m 8:Nat)) .e))))))))
def isF(ext:Bool)(m:Nat)(M:Rows):SV->Option (List Ob)
 | .p g o _ z=>if o=0/\z=0 then (if ext=true/\g=0 then some []else match rowIn g M with
  | some (c,T)=>if T=102 then some [.eq c (sFld m)]else none
  | none=>none)else none
 | _=>none
structure FOk (ext:Bool) (m:Nat) (γ0:Pl) (w0:World):Prop where
 odd:m%2=1
 big:1<m
 lt:m<2^256
 at_:ext=true->FldAt w0 (γ0 0) m
theorem isF_at{ext:Bool}{m n:Nat}{M:Rows}{x:SV}{p:List Ob}{γ0 γ:Pl}{w0 wx:World}(h:isF ext m M x=some p)(hp:All p)(hf:FOk ext m γ0 w0)(hγ:∀ k,k<1->γ k=γ0 k)(hw:Below w0.heap.size w0 wx)(hL:Lies γ n M wx):∃ F,x.val γ=.pointer (some ⟨F,0,none⟩)/\FldAt wx F m:=by
 cases x <;> first | (cases h;done) | skip
 rename_i g o j z;dsimp only[isF]at h
 split at h
 ·rename_i hz
  obtain⟨rfl,rfl⟩:=hz;refine⟨γ g,by simp[SV.val,SV.sc],?_⟩
  split at h
  ·rename_i he
   rw[he.2,hγ 0 (by decide)];exact(hf.at_ he.1).below hw
  ·split at h
   ·rename_i c T hr
    split at h
    ·rename_i hT
     cases h;have hc:c=sFld m:=hp _ (.head _);have:=(hL _ (rowIn_ok hr)).1;rw[hc,hT]at this;exact⟨this,hf.odd,hf.big,hf.lt⟩
    ·cases h
   ·cases h
 ·cases h
theorem FOk.of{F m:Nat}{w0:World}(h0:FldAt w0 F m):FOk true m (fun _=>F) w0:=⟨h0.odd,h0.big,h0.lt,fun _=>h0⟩
theorem FOk.mod{ext:Bool}{m:Nat}{γ0:Pl}{w0:World}(hf:FOk ext m γ0 w0)(a:Nat):a%m<2^256:=Nat.lt_trans (Nat.mod_lt _ (by have:=hf.big;omega)) hf.lt
def fld2(ext:Bool)(m:Nat)(f:FuncId)(op:Nat->Nat->Nat):Con:=⟨f,fun _ M l=>match l with
 | [x,.w a,.w b]=>(isF ext m M x).map fun p=>(.w (op a b),p,[])
 | _=>none⟩
def fld1(ext:Bool)(m:Nat)(f:FuncId)(op:Nat->SV):Con:=⟨f,fun _ M l=>match l with
 | [x,.w a]=>(isF ext m M x).map fun p=>(op a,p,[])
 | _=>none⟩
theorem val0{γ:Pl}{x:SV}(h:x.lt 0=true):x.val γ=x.val fun _=>0:=(SV.lt_same (γ:=γ) (δ:=fun _=>0) (n:=0) (fun _ hk=>absurd hk (Nat.not_lt_zero _)) h).2.2
theorem fld2_ok{P:Program}{ext:Bool}{m:Nat}{γ0:Pl}{w0:World}{f:FuncId}{op:Nat->Nat->Nat}(hf:FOk ext m γ0 w0)(hc:∀ as_ wx,(callFunc f as_).run P wx=.ok (.enter f as_) wx)(hlt:∀ a b,op a b<2^256)
  (h:∀ F a b,a<2^256->b<2^256->∀ w,FldAt w F m->Calls P f #[.pointer (some ⟨F,0,none⟩),.agg (pw a),.agg (pw b)] w fun e w'=>e=.returned (.agg (pw (op a b)))/\Below w.heap.size w w'):ConOk P 1 γ0 w0 (fld2 ext m f op) :=
 .of hc fun n M l r p R hr hp hok=>by
  unfold fld2 at hr;dsimp only at hr
  split at hr
  ·rename_i x a b
   obtain⟨q,hx,e⟩:=Option.map_eq_some_iff.1 hr;cases e;refine⟨rfl,hlt a b,rfl,fun γ hγ wx hw hL=>?_⟩;obtain⟨F,h1,h2⟩:=isF_at hx hp hf hγ hw hL;show Calls P f #[x.val γ,_,_] wx _;rw[h1];exact h F a b (hok (.w a) (by simp)) (hok (.w b) (by simp)) wx h2
  ·cases hr
theorem fld1_ok{P:Program}{ext:Bool}{m:Nat}{γ0:Pl}{w0:World}{f:FuncId}{op:Nat->SV}(hf:FOk ext m γ0 w0)(hc:∀ as_ wx,(callFunc f as_).run P wx=.ok (.enter f as_) wx)(hlt:∀ a,(op a).ok/\(op a).lt 0=true)
  (h:∀ F a,a<2^256->∀ w,FldAt w F m->Calls P f #[.pointer (some ⟨F,0,none⟩),.agg (pw a)] w fun e w'=>e=.returned ((op a).val fun _=>0)/\Below w.heap.size w w'):ConOk P 1 γ0 w0 (fld1 ext m f op) :=
 .of hc fun n M l r p R hr hp hok=>by
  unfold fld1 at hr;dsimp only at hr
  split at hr
  ·rename_i x a
   obtain⟨q,hx,e⟩:=Option.map_eq_some_iff.1 hr;cases e;refine⟨rfl,(hlt a).1,(hlt a).2,fun γ hγ wx hw hL=>?_⟩;obtain⟨F,h1,h2⟩:=isF_at hx hp hf hγ hw hL;show Calls P f #[x.val γ,_] wx _;rw[h1,val0 (hlt a).2];exact h F a (hok (.w a) (by simp)) wx h2
  ·cases hr
def cMulF(ext:Bool)(m:Nat):Con:=fld2 ext m 63 fun a b=>a*b%m
def cAddF(ext:Bool)(m:Nat):Con:=fld2 ext m 62 fun a b=>(a+b)%m
def cSubF(ext:Bool)(m:Nat):Con:=fld2 ext m 69 fun a b=>(a%m+(m - b%m))%m
def iv(m Z:Nat):Nat:=Z^(m - 2)%m
def cNegF(ext:Bool)(m:Nat):Con:=fld1 ext m 64 fun a=>.w ((0%m+(m - a%m))%m)
def cInvF(ext:Bool)(m:Nat):Con:=fld1 ext m 61 fun a=>.tu (.w (if a*iv m a%m=1 then iv m a else 0)) (.b (eqN (a*iv m a%m) 1))
def cOfF(ext:Bool)(m:Nat):Con:=fld1 ext m 70 fun a=>.w (a%m)
def flds(ext:Bool)(m:Nat):List Con:=[cMulF ext m,cAddF ext m,cSubF ext m,cNegF ext m,cInvF ext m,cOfF ext m]
theorem flds_ok{ext:Bool}{m:Nat}{γ0:Pl}{w0:World}(hf:FOk ext m γ0 w0):conAll Tryz.prog 1 γ0 w0 (flds ext m) :=
 ⟨fld2_ok hf (fun _ _=>by kernel_rfl) (fun _ _=>hf.mod _) fun F a b ha hb w hF=>fmul_any F m a b ha hb w hF,fld2_ok hf (fun _ _=>by kernel_rfl) (fun _ _=>hf.mod _) fun F a b ha hb w hF=>fadd_any F m a b ha hb w hF,fld2_ok hf (fun _ _=>by kernel_rfl) (fun _ _=>hf.mod _) fun F a b ha hb w hF=>fsub_any F m a b ha hb w hF,
  fld1_ok hf (fun _ _=>by kernel_rfl) (fun a=>⟨hf.mod _,rfl⟩) fun F a ha w hF=>fneg_any F m a ha w hF,
  fld1_ok hf (fun _ _=>by kernel_rfl) (fun a=>⟨⟨by
   show(if a*iv m a%m=1 then iv m a else 0)<2^256
   split
   ·exact hf.mod _
   ·decide,trivial⟩,rfl⟩) fun F a ha w hF=>finv_any F m a ha w hF,
  fld1_ok hf (fun _ _=>by kernel_rfl) (fun a=>⟨hf.mod _,rfl⟩) fun F a ha w hF=>fof_any F m a ha w hF,trivial⟩
/-! Two numbers,three of these,six. -/
def F2s(a:N2):SV:=.ap (.w a.1) (.ap (.w a.2) .e)
def H3s(a:N6):SV:=.ap (F2s a.1) (.ap (F2s a.2.1) (.ap (F2s a.2.2) .e))
def L12s(a:N12):SV:=.ap (F2s a.1.1) (.ap (F2s a.2.1) (.ap (F2s a.1.2.1) (.ap (F2s a.2.2.1) (.ap (F2s a.1.2.2) (.ap (F2s a.2.2.2) .e)))))
def z2:N2:=(0,0)
def z6:N6:=(z2,z2,z2)
def z12:N12:=(z6,z6)
/-! Types. -/
theorem w0_ok:(0:Nat)<2^256:=by decide
theorem F2z_ok:(F2s z2).ok:=⟨w0_ok,w0_ok,trivial⟩
theorem H3z_ok:(H3s z6).ok:=⟨F2z_ok,F2z_ok,F2z_ok,trivial⟩
theorem L12z_ok:(L12s z12).ok:=⟨F2z_ok,F2z_ok,F2z_ok,F2z_ok,F2z_ok,F2z_ok,trivial⟩
def tyW:Ty:=⟨24,true,4,.w 0,[]⟩
def ty2:Ty:=⟨26,true,8,F2s z2,[]⟩
def ty6:Ty:=⟨82,true,24,H3s z6,[]⟩
def ty12:Ty:=⟨38,true,48,L12s z12,[]⟩
def tyT:Ty:=⟨60,true,1,.ap (.v (.pointer none)) .e,[(0,1)]⟩
def tyB:Ty:=⟨4,false,1,.v (.bool false),[]⟩
def tyF:Ty:=⟨58,false,1,.v (.pointer none),[]⟩
def tyE:Ty:=⟨47,false,1,.v (.int .i64 0),[]⟩
def tyI:Ty:=⟨3,false,1,.v (.int .i64 0),[]⟩
def tys0:List Ty:=[tyW,ty2,ty6,ty12,tyT,tyB,tyF,tyE,tyI]
def tyAll(P:Program):List Ty->Prop
 | []=>True
 | y::l=>y.Good P/\tyAll P l
theorem tyAll_mem{P:Program}:∀ {l:List Ty},tyAll P l->∀ y∈l,y.Good P
 | [],_,c,h=>by cases h
 | y::l,ha,c,h=>by
  rcases List.mem_cons.1 h with rfl | h
  ·exact ha.1
  ·exact tyAll_mem ha.2 c h
theorem tys0_ok:tyAll Tryz.prog tys0 :=
 ⟨⟨by kernel_rfl,by kernel_rfl,by kernel_rfl,rfl,w0_ok,fun h=>absurd rfl h⟩,⟨by kernel_rfl,by kernel_rfl,by kernel_rfl,rfl,F2z_ok,fun h=>absurd rfl h⟩,⟨by kernel_rfl,by kernel_rfl,by kernel_rfl,rfl,H3z_ok,fun h=>absurd rfl h⟩,⟨by kernel_rfl,by kernel_rfl,by kernel_rfl,rfl,L12z_ok,fun h=>absurd rfl h⟩,
  ⟨by kernel_rfl,by kernel_rfl,by kernel_rfl,rfl,⟨trivial,trivial⟩,fun _=>by kernel_rfl⟩,⟨by kernel_rfl,by kernel_rfl,by kernel_rfl,rfl,trivial,fun h=>absurd rfl h⟩,⟨by kernel_rfl,by kernel_rfl,by kernel_rfl,rfl,trivial,fun h=>absurd rfl h⟩,⟨by kernel_rfl,by kernel_rfl,by kernel_rfl,rfl,trivial,fun h=>absurd rfl h⟩,⟨by kernel_rfl,by kernel_rfl,by kernel_rfl,rfl,trivial,fun h=>absurd rfl h⟩,trivial⟩
theorem tyAll_app{P:Program}:∀ {l r:List Ty},tyAll P l->tyAll P r->tyAll P (l++r)
 | [],_,_,h=>h
 | _::_,_,h,h'=>⟨h.1,tyAll_app h.2 h'⟩
def s11:SV:=.ap (F2s z2) (.ap (F2s z2) (.ap (F2s z2) (.ap (F2s z2) (.ap (F2s z2) (.ap (F2s z2) (.ap (F2s z2) (.ap (F2s z2) (.ap (F2s z2) (.ap (F2s z2) (.ap (F2s z2) .e))))))))))
def s16:SV:=let x:=L12s z12;.ap x (.ap x (.ap x (.ap x (.ap x (.ap x (.ap x (.ap x (.ap x (.ap x (.ap x (.ap x (.ap x (.ap x (.ap x (.ap x .e)))))))))))))))
theorem s11_ok:s11.ok:=⟨F2z_ok,F2z_ok,F2z_ok,F2z_ok,F2z_ok,F2z_ok,F2z_ok,F2z_ok,F2z_ok,F2z_ok,F2z_ok,trivial⟩
theorem s16_ok:s16.ok:=⟨L12z_ok,L12z_ok,L12z_ok,L12z_ok,L12z_ok,L12z_ok,L12z_ok,L12z_ok,L12z_ok,L12z_ok,L12z_ok,L12z_ok,L12z_ok,L12z_ok,L12z_ok,L12z_ok,trivial⟩
def tyR:Ty:=⟨29,true,1,.ap (.v (.pointer none)) .e,[(0,1)]⟩
def tyRF:Ty:=⟨27,false,1,.v (.pointer none),[]⟩
def ty11:Ty:=⟨65,true,88,s11,[]⟩
def ty16:Ty:=⟨91,true,768,s16,[]⟩
def tysM:List Ty:=[tyR,tyRF,ty11,ty16]
theorem tysM_ok:tyAll Tryz.prog tysM:=⟨⟨by kernel_rfl,by kernel_rfl,by kernel_rfl,rfl,⟨trivial,trivial⟩,fun _=>by kernel_rfl⟩,⟨by kernel_rfl,by kernel_rfl,by kernel_rfl,rfl,trivial,fun h=>absurd rfl h⟩,⟨by kernel_rfl,by kernel_rfl,by kernel_rfl,rfl,s11_ok,fun h=>absurd rfl h⟩,⟨by kernel_rfl,by kernel_rfl,by kernel_rfl,by kernel_rfl,s16_ok,fun h=>absurd rfl h⟩,trivial⟩
def arsM:List Ar:=[⟨65,11,26,8,true,s11⟩,⟨91,16,38,48,true,s16⟩]
theorem arsM_ok:∀ q∈arsM,q.Good Tryz.prog:=fun q hq=>by
 simp only[arsM,List.mem_cons,List.not_mem_nil,or_false]at hq;rcases hq with rfl | rfl
 ·exact⟨by kernel_rfl,by kernel_rfl,by kernel_rfl,by kernel_rfl,rfl,s11_ok⟩
 ·exact⟨by kernel_rfl,by kernel_rfl,by kernel_rfl,by kernel_rfl,by kernel_rfl,s16_ok⟩
def tysT:List Ty:=tys0++tysM
theorem tysT_ok:tyAll Tryz.prog tysT:=tyAll_app tys0_ok tysM_ok
def ars0:List Ar:=[⟨26,2,24,4,true,F2s z2⟩,⟨82,3,26,8,true,H3s z6⟩,⟨38,6,26,8,true,L12s z12⟩]
theorem ars0_ok:∀ q∈ars0,q.Good Tryz.prog:=fun q hq=>by
 simp only[ars0,List.mem_cons,List.not_mem_nil,or_false]at hq;rcases hq with rfl | rfl | rfl
 ·exact⟨by kernel_rfl,by kernel_rfl,by kernel_rfl,by kernel_rfl,rfl,F2z_ok⟩
 ·exact⟨by kernel_rfl,by kernel_rfl,by kernel_rfl,by kernel_rfl,rfl,H3z_ok⟩
 ·exact⟨by kernel_rfl,by kernel_rfl,by kernel_rfl,by kernel_rfl,rfl,L12z_ok⟩
def arsT:List Ar:=ars0++arsM
theorem arsT_ok:∀ q∈arsT,q.Good Tryz.prog:=fun q hq=>(List.mem_append.1 hq).elim (ars0_ok q) (arsM_ok q)
/-! Words made of their parts. -/
def limbS:SV->Option Nat
 | .v (.int .u64 (.ofNat a))=>if a<18446744073709551616 then some a else none
 | _=>none
def bldG(T:TypeId)(l:List (Nat × SV)):Option SV:=if T=24 then match l with
 | []=>some (.w 0)
 | [(0,a)]=>(limbS a).map .w
 | [(0,a),(1,b),(2,c),(3,d)]=>match limbS a,limbS b,limbS c,limbS d with
  | some a,some b,some c,some d=>some (.w (n4 a b c d))
  | _,_,_,_=>none
 | _=>none
 else none
theorem limbS_ok{γ:Pl}{x:SV}{a:Nat}(h:limbS x=some a):x.val γ=.int .u64 (a:Nat)/\a<18446744073709551616:=by
 unfold limbS at h
 split at h
 ·split at h
  ·rename_i hk;cases h;exact⟨rfl,hk⟩
  ·cases h
 ·cases h
theorem bldG_ok{T:TypeId}{l:List (Nat × SV)}{r:SV}(h:bldG T l=some r):r.ok/\r.lt 0=true/\r.many=true/\∀ γ,Tryz.prog.built T (l.map fun x=>(x.1,x.2.val γ))=some (r.cells γ).toArray:=by
 unfold bldG at h
 split at h
 ·rename_i e
  subst e
  split at h
  ·cases h
   exact⟨w0_ok,rfl,rfl,fun γ=>by kernel_rfl⟩
  ·obtain⟨k,hk,e⟩:=Option.map_eq_some_iff.1 h
   subst e;have hlt:=(limbS_ok (γ:=fun _=>0) hk).2;refine⟨Nat.lt_trans hlt (by decide),rfl,rfl,fun γ=>?_⟩;rw[show([(0,_)]:List (Nat × SV)).map (fun x=>(x.1,x.2.val γ))=[(0,.int .u64 (k:Nat))] from congrArg (fun v=>[(0,v)]) (limbS_ok hk).1];show Tryz.prog.built 24 [(0,.int .u64 (k:Nat))]=some (pw k).toList.toArray;rw[show pw k=#[.int .u64 (k:Nat),.int .u64 0,.int .u64 0,.int .u64 0] by
    unfold pw;rw[Nat.mod_eq_of_lt hlt,Nat.div_eq_of_lt hlt,Nat.div_eq_of_lt (show k<340282366920938463463374607431768211456 by omega),Nat.div_eq_of_lt (show k<6277101735386680763835789423207666416102355444464034512896 by omega)];rfl]
   kernel_rfl
  ·split at h
   ·rename_i a b c d ka kb kc kd
    cases h;have la:=limbS_ok (γ:=fun _=>0) ka;have lb:=limbS_ok (γ:=fun _=>0) kb;have lc:=limbS_ok (γ:=fun _=>0) kc;have ld:=limbS_ok (γ:=fun _=>0) kd;refine⟨?_,rfl,rfl,fun γ=>?_⟩
    ·show n4 a b c d<2^256
     have e256:(2:Nat)^256=115792089237316195423570985008687907853269984665640564039457584007913129639936:=by decide
     rw[e256];unfold n4;omega
    ·show Tryz.prog.built 24 [(0,_),(1,_),(2,_),(3,_)]=some (pw (n4 a b c d)).toList.toArray
     rw[(limbS_ok ka).1,(limbS_ok kb).1,(limbS_ok kc).1,(limbS_ok kd).1];rw[show pw (n4 a b c d)=#[.int .u64 (a:Nat),.int .u64 (b:Nat),.int .u64 (c:Nat),.int .u64 (d:Nat)] by
      unfold pw n4;rw[show(a+18446744073709551616*b+340282366920938463463374607431768211456*c+6277101735386680763835789423207666416102355444464034512896*d)%18446744073709551616=a by omega];rw[show(a+18446744073709551616*b+340282366920938463463374607431768211456*c+6277101735386680763835789423207666416102355444464034512896*d) / 18446744073709551616%18446744073709551616=b by omega];rw[show(a+18446744073709551616*b+340282366920938463463374607431768211456*c+6277101735386680763835789423207666416102355444464034512896*d) / 340282366920938463463374607431768211456%18446744073709551616=c by omega];rw[show(a+18446744073709551616*b+340282366920938463463374607431768211456*c+6277101735386680763835789423207666416102355444464034512896*d) / 6277101735386680763835789423207666416102355444464034512896%18446744073709551616=d by omega]]
     kernel_rfl
   ·cases h
  ·cases h
 ·cases h
def bldT(T:TypeId)(l:List (Nat × SV)):Option SV:=match bldG T l with
 | some r=>some r
 | none=>bldA arsT T l
def xlR(R0:Rows)(T:TypeId)(g o j z:Nat):Option (SV × List Ob):=match rowIn g R0,tyIn T tysT with
 | some r,some y=>if z=0 then (SV.sub y.m o y.sz r.1).map (·,[])else none
 | _,_=>none
structure RowsOk (R0:Rows) (base:Nat) (γ0:Pl) (w0:World):Prop where
 at_:∀ q∈R0,w0.heap[γ0 q.1]?=some (.cells (q.2.1.cells γ0).toArray q.2.2 (0,0))/\q.2.1.ok/\q.2.1.lt base=true/\q.1<base
theorem xlR_ok{R0:Rows}{base:Nat}{γ0:Pl}{w0:World}(h0:RowsOk R0 base γ0 w0):∀ T g o j z r p,xlR R0 T g o j z=some (r,p)->All p->r.ok/\r.lt base=true/\g<base/\∀ γ,(∀ k,k<base->γ k=γ0 k)->∀ wx,Below w0.heap.size w0 wx->(Instr.loadAt T (.pointer (some ⟨γ g,o+j*z,none⟩))).run Tryz.prog wx=.ok (r.val γ) wx:=fun T g o j z r p h hp=>by
 unfold xlR at h
 split at h
 ·rename_i q y hq hy
  split at h
  ·rename_i hz
   obtain⟨r',hr,e⟩:=Option.map_eq_some_iff.1 h;cases e;subst hz;have hm:=h0.at_ _ (rowIn_ok hq);obtain⟨hy',rfl⟩:=tyIn_ok hy;have gy:=tyAll_mem tysT_ok y hy';have s:=SV.sub_ok (fun _=>0) hr;refine⟨s.ok hm.2.1,s.lt _ hm.2.2.1,hm.2.2.2,fun γ hγ wx hw=>?_⟩;have hlt:=(Array.getElem?_eq_some_iff.1 hm.1).1;have hg:=(hw.block _ hlt).trans hm.1;rw[<- (SV.lt_same (γ:=γ) (δ:=γ0) (n:=base) hγ hm.2.2.1).2.1,<- hγ g hm.2.2.2]at hg;rw[Nat.mul_zero,Nat.add_zero];exact load_ok hg gy.d gy.sz hr
  ·cases h
 ·cases h
noncomputable def ET (base:Nat) (more:List Con) (R0:Rows):Env:=⟨Tryz.prog,tysT,base,fun f n M l=>conIn f more n M l,bopG,bldT,xlR R0,fun T x y=>ixaA arsT T x y,[],[],fun _ _ _ _=>none,idxA arsT⟩
theorem ET_ok{base:Nat}{w0:World}{more:List Con}{γ0:Pl}{R0:Rows}(hm:conAll Tryz.prog base γ0 w0 more)(h0:RowsOk R0 base γ0 w0):(ET base more R0).Good γ0 w0:=by
 refine⟨tyAll_mem tysT_ok,fun f n M l r p R h hp hn hok hM=>?_,fun op T x y r p h hp hx hy=>bopG_ok h hp hx hy,fun T l r h ho=>?_,xlR_ok h0,fun T x y r p n h _ hx _ hy=>ixaA_ok arsT_ok h hx hy,fun _ h=>(by cases h),fun _ h=>(by cases h),fun _ _ _ _ _ _ h=>(by cases h),fun T x y r n h hx ho hy=>idxA_ok arsT_ok h hx ho hy⟩
 ·obtain⟨c,h1,rfl,h3⟩:=conIn_ok (conAll_mem hm) h
  have:=h1.all n M l r p R h3 hp hn hok hM;exact⟨this.1,this.2.1,this.2.2.1,h1.call,this.2.2.2⟩
 ·replace h:bldT T l=some r:=h
  unfold bldT at h
  split at h
  ·rename_i hb
   cases h;exact bldG_ok hb
  ·exact bldA_ok arsT_ok h ho
theorem noRows{base:Nat}{γ0:Pl}{w0:World}:RowsOk [] base γ0 w0:=⟨fun _ h=>by cases h⟩
noncomputable def E1 (more:List Con):Env:=ET 1 more []
theorem E1_ok{w0:World}{more:List Con}{γ0:Pl}(hm:conAll Tryz.prog 1 γ0 w0 more):(E1 more).Good γ0 w0:=ET_ok hm noRows
def sG:SV:=.ap (.p 0 0 0 0) .e
def conV(f:FuncId)(g:List SV->Option (SV × List Ob)):Con:=⟨f,fun _ _ l=>(g l).map fun q=>(q.1,q.2,[])⟩
theorem conV_ok{P:Program}{base:Nat}{γ0:Pl}{w0:World}{f:FuncId}{g:List SV->Option (SV × List Ob)}(hc:∀ as_ wx,(callFunc f as_).run P wx=.ok (.enter f as_) wx)
  (h:∀ us r q,g us=some (r,q)->All q->(∀ x∈us,x.ok)->r.ok/\r.lt 0=true/\∀ γ w,Calls P f (us.map (·.val γ)).toArray w fun e w'=>e=.returned (r.val γ)/\Below w.heap.size w w'):ConOk P base γ0 w0 (conV f g) :=
 .of hc fun n M l r p R hr hp hok=>by
  obtain⟨q,hq,e⟩:=Option.map_eq_some_iff.1 hr;cases e;have:=h l q.1 q.2 hq hp hok;exact⟨rfl,this.1,this.2.1,fun γ _ wx _ _=>this.2.2 γ wx⟩
theorem agg_ptr{x:SV}{γ:Pl}{F:Nat}{ext:Bool}{m:Nat}{M:Rows}{p:List Ob}(hx:isF ext m M x=some p)(h:x.val γ=.pointer (some ⟨F,0,none⟩)):(SV.ap x .e).val γ=.agg #[.pointer (some ⟨F,0,none⟩)]:=by
 cases x <;> first | (cases hx;done) | skip
 simpa[SV.val,SV.cells,SV.sc]using h
def conG(ext:Bool)(m:Nat)(f:FuncId)(g:List SV->Option (SV × List Ob)):Con:=⟨f,fun _ M l=>match l with
 | .ap x .e::us=>match isF ext m M x,g us with
  | some p,some (r,q)=>some (r,q++p,[])
  | _,_=>none
 | _=>none⟩
theorem conG_ok{P:Program}{ext:Bool}{m:Nat}{γ0:Pl}{w0:World}{f:FuncId}{g:List SV->Option (SV × List Ob)}(hf:FOk ext m γ0 w0)(hc:∀ as_ wx,(callFunc f as_).run P wx=.ok (.enter f as_) wx)
  (h:∀ us r q,g us=some (r,q)->All q->(∀ x∈us,x.ok)->r.ok/\r.lt 0=true/\∀ γ F w,FldAt w F m->Calls P f (.agg #[.pointer (some ⟨F,0,none⟩)]::us.map (·.val γ)).toArray w fun e w'=>e=.returned (r.val γ)/\Below w.heap.size w w'):ConOk P 1 γ0 w0 (conG ext m f g) :=
 .of hc fun n M l r p R hr hp hok=>by
  unfold conG at hr;dsimp only at hr
  split at hr
  ·rename_i x us
   split at hr
   ·rename_i p' r' q hx hq
    cases hr;obtain⟨g1,g2,g3⟩:=h us r q hq (fun a ha=>hp a (List.mem_append_left _ ha)) fun x hx=>hok x (.tail _ hx);refine⟨rfl,g1,g2,?_⟩;intro γ hγ wx hw hL;obtain⟨F,h1,h2⟩:=isF_at hx (fun a ha=>hp a (List.mem_append_right _ ha)) hf hγ hw hL;have g4:=g3 γ F wx h2;rw[<- agg_ptr hx h1]at g4;exact g4
   ·cases hr
  ·cases hr
def cOf:Con:=conV 71 fun l=>match l with
 | [x]=>(limbS x).map fun k=>(.w k,[])
 | _=>none
theorem cOf_ok{base:Nat}{γ0:Pl}{w0:World}:ConOk Tryz.prog base γ0 w0 cOf:=conV_ok (fun _ _=>by kernel_rfl) fun us r q h hq hok=>by
 split at h
 ·obtain⟨k,hk,e⟩:=Option.map_eq_some_iff.1 h
  cases e;have hlt:=(limbS_ok (γ:=fun _=>0) hk).2;refine⟨Nat.lt_trans hlt (by decide),rfl,fun γ w=>?_⟩;have g:=of_wv k hlt w;rw[<- (limbS_ok (γ:=γ) hk).1]at g;exact g
 ·cases h
structure Shp (α:Type) where
 enc:α->SV
 dec:SV->Option α
 dec_ok:∀ x a,dec x=some a->x=enc a
 lt:∀ a,(enc a).lt 0=true
def d2:SV->Option N2
 | .ap (.w a) (.ap (.w b) .e)=>some (a,b)
 | _=>none
theorem d2_ok(x:SV)(a:N2)(h:d2 x=some a):x=F2s a:=by
 unfold d2 at h
 split at h
 ·cases h;rfl
 ·cases h
def sh2:Shp N2:=⟨F2s,d2,d2_ok,fun _=>rfl⟩
def d6:SV->Option N6
 | .ap x (.ap y (.ap z .e))=>match d2 x,d2 y,d2 z with
  | some a,some b,some c=>some (a,b,c)
  | _,_,_=>none
 | _=>none
theorem d6_ok(x:SV)(a:N6)(h:d6 x=some a):x=H3s a:=by
 unfold d6 at h
 split at h
 ·split at h
  ·rename_i ha hb hc
   cases h;rw[d2_ok _ _ ha,d2_ok _ _ hb,d2_ok _ _ hc];rfl
  ·cases h
 ·cases h
def sh6:Shp N6:=⟨H3s,d6,d6_ok,fun _=>rfl⟩
def d12:SV->Option N12
 | .ap x0 (.ap x1 (.ap x2 (.ap x3 (.ap x4 (.ap x5 .e)))))=>match d2 x0,d2 x1,d2 x2,d2 x3,d2 x4,d2 x5 with
  | some a0,some a1,some a2,some a3,some a4,some a5=>some ((a0,a2,a4),(a1,a3,a5))
  | _,_,_,_,_,_=>none
 | _=>none
theorem d12_ok(x:SV)(a:N12)(h:d12 x=some a):x=L12s a:=by
 unfold d12 at h
 split at h
 ·split at h
  ·rename_i h0 h1 h2 h3 h4 h5
   cases h;rw[d2_ok _ _ h0,d2_ok _ _ h1,d2_ok _ _ h2,d2_ok _ _ h3,d2_ok _ _ h4,d2_ok _ _ h5];rfl
  ·cases h
 ·cases h
def sh12:Shp N12:=⟨L12s,d12,d12_ok,fun _=>rfl⟩
def o0:Pl:=fun _=>0
section
variable {α β ρ:Type}
def cT1(ext:Bool)(m:Nat)(f:FuncId)(A:Shp α)(op:α->SV):Con:=conG ext m f fun l=>match l with
 | [x]=>(A.dec x).map fun a=>(op a,[])
 | _=>none
def cT2(ext:Bool)(m:Nat)(f:FuncId)(A:Shp α)(B:Shp β)(op:α->β->SV):Con:=conG ext m f fun l=>match l with
 | [x,y]=>match A.dec x,B.dec y with
  | some a,some b=>some (op a b,[])
  | _,_=>none
 | _=>none
theorem cT1_ok{P:Program}{ext:Bool}{m:Nat}{γ0:Pl}{w0:World}{f:FuncId}{A:Shp α}{op:α->SV}(hf:FOk ext m γ0 w0)(hc:∀ as_ wx,(callFunc f as_).run P wx=.ok (.enter f as_) wx)(hg:∀ a,(A.enc a).ok->(op a).ok/\(op a).lt 0=true)
  (h:∀ F a,(A.enc a).ok->∀ w,FldAt w F m->Calls P f #[.agg #[.pointer (some ⟨F,0,none⟩)],(A.enc a).val o0] w fun e w'=>e=.returned ((op a).val o0)/\Below w.heap.size w w'):ConOk P 1 γ0 w0 (cT1 ext m f A op) :=
 conG_ok hf hc fun us r q hr hq hok=>by
  split at hr
  ·rename_i x
   obtain⟨a,ha,e⟩:=Option.map_eq_some_iff.1 hr;cases e;have hx:=A.dec_ok _ _ ha;subst hx;have oa:=hok (A.enc a) (by simp);refine⟨(hg a oa).1,(hg a oa).2,fun γ F w hF=>?_⟩;show Calls P f #[.agg #[.pointer (some ⟨F,0,none⟩)],(A.enc a).val γ] w _;rw[val0 (hg a oa).2,val0 (A.lt a)];exact h F a oa w hF
  ·cases hr
theorem cT2_ok{P:Program}{ext:Bool}{m:Nat}{γ0:Pl}{w0:World}{f:FuncId}{A:Shp α}{B:Shp β}{op:α->β->SV}(hf:FOk ext m γ0 w0)(hc:∀ as_ wx,(callFunc f as_).run P wx=.ok (.enter f as_) wx)(hg:∀ a b,(A.enc a).ok->(B.enc b).ok->(op a b).ok/\(op a b).lt 0=true)
  (h:∀ F a b,(A.enc a).ok->(B.enc b).ok->∀ w,FldAt w F m->Calls P f #[.agg #[.pointer (some ⟨F,0,none⟩)],(A.enc a).val o0,(B.enc b).val o0] w fun e w'=>e=.returned ((op a b).val o0)/\Below w.heap.size w w'):ConOk P 1 γ0 w0 (cT2 ext m f A B op) :=
 conG_ok hf hc fun us r q hr hq hok=>by
  split at hr
  ·rename_i x y
   split at hr
   ·rename_i a b ha hb
    cases hr;have hx:=A.dec_ok _ _ ha;have hy:=B.dec_ok _ _ hb;subst hx hy;have oa:=hok (A.enc a) (by simp);have ob:=hok (B.enc b) (by simp);have g:=hg a b oa ob;refine⟨g.1,g.2,fun γ F w hF=>?_⟩;show Calls P f #[.agg #[.pointer (some ⟨F,0,none⟩)],(A.enc a).val γ,(B.enc b).val γ] w _;rw[val0 g.2,val0 (A.lt a),val0 (B.lt b)];exact h F a b oa ob w hF
   ·cases hr
  ·cases hr
def cV1(f:FuncId)(A:Shp α)(op:α->SV):Con:=conV f fun l=>match l with
 | [x]=>(A.dec x).map fun a=>(op a,[])
 | _=>none
def cV2(f:FuncId)(A:Shp α)(B:Shp β)(op:α->β->SV):Con:=conV f fun l=>match l with
 | [x,y]=>match A.dec x,B.dec y with
  | some a,some b=>some (op a b,[])
  | _,_=>none
 | _=>none
theorem cV1_ok{P:Program}{base:Nat}{γ0:Pl}{w0:World}{f:FuncId}{A:Shp α}{op:α->SV}(hc:∀ as_ wx,(callFunc f as_).run P wx=.ok (.enter f as_) wx)(hg:∀ a,(A.enc a).ok->(op a).ok/\(op a).lt 0=true)
  (h:∀ a,(A.enc a).ok->∀ w,Calls P f #[(A.enc a).val o0] w fun e w'=>e=.returned ((op a).val o0)/\Below w.heap.size w w'):ConOk P base γ0 w0 (cV1 f A op) :=
 conV_ok hc fun us r q hr hq hok=>by
  split at hr
  ·rename_i x
   obtain⟨a,ha,e⟩:=Option.map_eq_some_iff.1 hr;cases e;have hx:=A.dec_ok _ _ ha;subst hx;have oa:=hok (A.enc a) (by simp);refine⟨(hg a oa).1,(hg a oa).2,fun γ w=>?_⟩;show Calls P f #[(A.enc a).val γ] w _;rw[val0 (hg a oa).2,val0 (A.lt a)];exact h a oa w
  ·cases hr
theorem cV2_ok{P:Program}{base:Nat}{γ0:Pl}{w0:World}{f:FuncId}{A:Shp α}{B:Shp β}{op:α->β->SV}(hc:∀ as_ wx,(callFunc f as_).run P wx=.ok (.enter f as_) wx)(hg:∀ a b,(A.enc a).ok->(B.enc b).ok->(op a b).ok/\(op a b).lt 0=true)
  (h:∀ a b,(A.enc a).ok->(B.enc b).ok->∀ w,Calls P f #[(A.enc a).val o0,(B.enc b).val o0] w fun e w'=>e=.returned ((op a b).val o0)/\Below w.heap.size w w'):ConOk P base γ0 w0 (cV2 f A B op) :=
 conV_ok hc fun us r q hr hq hok=>by
  split at hr
  ·rename_i x y
   split at hr
   ·rename_i a b ha hb
    cases hr;have hx:=A.dec_ok _ _ ha;have hy:=B.dec_ok _ _ hb;subst hx hy;have oa:=hok (A.enc a) (by simp);have ob:=hok (B.enc b) (by simp);have g:=hg a b oa ob;refine⟨g.1,g.2,fun γ w=>?_⟩;show Calls P f #[(A.enc a).val γ,(B.enc b).val γ] w _;rw[val0 g.2,val0 (A.lt a),val0 (B.lt b)];exact h a b oa ob w
   ·cases hr
  ·cases hr
end
def Is1{α:Type}(m:Nat)(f:FuncId)(A:Shp α)(op:α->SV):Prop:=∀ ext γ0 w0,FOk ext m γ0 w0->ConOk Tryz.prog 1 γ0 w0 (cT1 ext m f A op)
def Is2{α β:Type}(m:Nat)(f:FuncId)(A:Shp α)(B:Shp β)(op:α->β->SV):Prop:=∀ ext γ0 w0,FOk ext m γ0 w0->ConOk Tryz.prog 1 γ0 w0 (cT2 ext m f A B op)
def Is0{α:Type}(f:FuncId)(A:Shp α)(op:α->SV):Prop:=∀ base γ0 w0,ConOk Tryz.prog base γ0 w0 (cV1 f A op)
def Is00{α β:Type}(f:FuncId)(A:Shp α)(B:Shp β)(op:α->β->SV):Prop:=∀ base γ0 w0,ConOk Tryz.prog base γ0 w0 (cV2 f A B op)
end Go.Proofs.YtpipdfgfoocifaaGreat.Sy
namespace Go.Proofs.YtpipdfgfoocifaaGreat
open Go.ChangeShapes Go.WideShapes Go.ChangeAt Go.RowKit
def Ints(T:TypeId)(k:Nat):Prop:=∀(H:Type) (enc:TypeId × Value->H) (w:World) (base:Nat) (sp:Nat->Bool) (held:Bool) (fuel:Nat) (cs:List Value) (d:DataW H) (p:List MemPlace),
 DataW.trod enc Tryz.prog w base sp held fuel T cs=some (d,p)->∀ i,i<k->∃ n:Nat,n<18446744073709551616/\cs[i]?=some (.int .u64 (n:Nat))
theorem ints_one:Ints 22 1:=fun H enc w base sp held fuel cs d p h i hi=>by
 obtain⟨z,hc,-,hw⟩:=DataW.trod_int Tryz.underlying22 h;obtain⟨n,hn,rfl⟩:=nat_of_wf hw;obtain rfl:i=0:=by omega
 exact⟨n,hn,by rw[hc];rfl⟩
theorem ints_arr{T e:TypeId}{n k:Nat}(hu:Tryz.prog.underlying T=some (.array n e))(hc:Tryz.prog.cellsOf e=k)(he:Ints e k):Ints T (n*k):=fun H enc w base sp held fuel cs d p h i hi=>by
 have hk:0<k:=Nat.pos_of_ne_zero fun e=>by
  rw[e,Nat.mul_zero]at hi;omega
 cases fuel with
 | zero=>simp[DataW.trod]at h
 | succ fuel =>
  simp only[DataW.trod,hu,hc]at h
  split at h
  ·obtain⟨xs,hm,hx⟩:=Option.map_eq_some_iff.1 h
   have hq:i / k<n:=Nat.div_lt_of_lt_mul (by rwa [Nat.mul_comm]at hi);have hr:i%k<k:=Nat.mod_lt _ hk;obtain⟨b,hb,hg⟩:=Lib.mapM_at hm (i / k) (i / k) (by rw[List.getElem?_range hq]);obtain⟨n,hn,hcc⟩:=he _ _ _ _ _ _ _ _ _ _ hg (i%k) hr;refine⟨n,hn,?_⟩;rw[List.getElem?_take_of_lt hr,List.getElem?_drop,Nat.div_add_mod']at hcc;exact hcc
  ·cases h
theorem cellsF2:Tryz.prog.cellsOf 26=8:=by kernel_rfl
theorem cellsF12:Tryz.prog.cellsOf 38=48:=by kernel_rfl
theorem ints_W:Ints 24 4:=ints_arr Tryz.underlying24 cellsU64 ints_one
theorem ints_2:Ints 26 8:=ints_arr Tryz.underlying26 cellsWord ints_W
theorem ints_12:Ints 38 48:=ints_arr Tryz.underlying38 cellsF2 ints_2
theorem pw_n4{a b c d:Nat}(h0:a<18446744073709551616)(h1:b<18446744073709551616)(h2:c<18446744073709551616)(h3:d<18446744073709551616):pw (n4 a b c d)=#[.int .u64 (a:Nat),.int .u64 (b:Nat),.int .u64 (c:Nat),.int .u64 (d:Nat)]:=by
 unfold pw n4;rw[show(a+18446744073709551616*b+340282366920938463463374607431768211456*c+6277101735386680763835789423207666416102355444464034512896*d)%18446744073709551616=a by omega];rw[show(a+18446744073709551616*b+340282366920938463463374607431768211456*c+6277101735386680763835789423207666416102355444464034512896*d) / 18446744073709551616%18446744073709551616=b by omega];rw[show(a+18446744073709551616*b+340282366920938463463374607431768211456*c+6277101735386680763835789423207666416102355444464034512896*d) / 340282366920938463463374607431768211456%18446744073709551616=c by omega];rw[show(a+18446744073709551616*b+340282366920938463463374607431768211456*c+6277101735386680763835789423207666416102355444464034512896*d) / 6277101735386680763835789423207666416102355444464034512896%18446744073709551616=d by omega]
theorem n4_below{a b c d:Nat}(h0:a<18446744073709551616)(h1:b<18446744073709551616)(h2:c<18446744073709551616)(h3:d<18446744073709551616):n4 a b c d<2^256:=by
 have e256:(2:Nat)^256=115792089237316195423570985008687907853269984665640564039457584007913129639936:=by decide
 rw[e256];unfold n4;omega
theorem limbs_of{T:TypeId}{k:Nat}(hu:∃ n e,Tryz.prog.underlying T=some (.array n e))(hk:Tryz.prog.cellsOf T=k)(hi:Ints T k){H:Type}{enc:TypeId × Value->H}{W:World}{base b2:Nat}{sp:Nat->Bool}{hd:Bool}{v:Value}{d:DataW H}{ps:List MemPlace}
  (hv:Value.okWide Tryz.prog W .any base T v) (h:DataW.Trod enc Tryz.prog W b2 sp hd T v d ps):∃ z:Nat->Nat,(∀ i,z i<18446744073709551616)/\v=.agg ((List.range k).map fun i=>Value.int .u64 (z i:Nat)).toArray:=by
 obtain⟨n,e,hu⟩:=hu;obtain⟨cs,rfl,hsz,_⟩:∃ cs,v=.agg cs/\cs.size=Tryz.prog.cellsOf T/\Row.okWide Tryz.prog W .any base T cs:=by
  simpa[Value.okWide,hu]using hv
 rw[hk]at hsz;obtain⟨fuel,hf⟩:=h;have h2:∀ i,∃ n:Nat,n<18446744073709551616/\(i<k->cs[i]?=some (.int .u64 (n:Nat))):=fun i=>by
  by_cases hik:i<k
  ·obtain⟨n,a,b⟩:=hi _ _ _ _ _ _ _ _ _ _ hf i hik
   exact⟨n,a,fun _=>by simpa[Value.cells]using b⟩
  ·exact⟨0,by omega,fun h=>absurd h hik⟩
 obtain⟨z,hz⟩:∃ z:Nat->Nat,∀ i,z i<18446744073709551616/\(i<k->cs[i]?=some (.int .u64 (z i:Nat))):=⟨fun i=>Classical.choose (h2 i),fun i=>Classical.choose_spec (h2 i)⟩
 refine⟨z,fun i=>(hz i).1,congrArg Value.agg (Array.ext (by simp[hsz]) fun i a b=>?_)⟩;have hik:i<k:=by omega
 have h3:=(hz i).2 hik;rw[Array.getElem?_eq_getElem a]at h3;rw[Option.some.inj h3];simp
open Sy in
theorem open_f2{H:Type}{enc:TypeId × Value->H}{W:World}{base b2:Nat}{sp:Nat->Bool}{hd:Bool}{v:Value}{d:DataW H}{ps:List MemPlace}
  (hv:Value.okWide Tryz.prog W .any base 26 v) (h:DataW.Trod enc Tryz.prog W b2 sp hd 26 v d ps):∃ a:N2,v=(F2s a).val o0/\(F2s a).ok:=by
 obtain⟨z,hz,rfl⟩:=limbs_of ⟨_,_,Tryz.underlying26⟩ cellsF2 ints_2 hv h;refine⟨(n4 (z 0) (z 1) (z 2) (z 3),n4 (z 4) (z 5) (z 6) (z 7)),?_,n4_below (hz _) (hz _) (hz _) (hz _),n4_below (hz _) (hz _) (hz _) (hz _),trivial⟩;show _=Value.agg ((pw (n4 (z 0) (z 1) (z 2) (z 3))).toList++((pw (n4 (z 4) (z 5) (z 6) (z 7))).toList++[])).toArray;rw[pw_n4 (hz _) (hz _) (hz _) (hz _),pw_n4 (hz _) (hz _) (hz _) (hz _)];rfl
open Sy in
theorem open_f12{H:Type}{enc:TypeId × Value->H}{W:World}{base b2:Nat}{sp:Nat->Bool}{hd:Bool}{v:Value}{d:DataW H}{ps:List MemPlace}
  (hv:Value.okWide Tryz.prog W .any base 38 v) (h:DataW.Trod enc Tryz.prog W b2 sp hd 38 v d ps):∃ a:N12,v=(L12s a).val o0/\(L12s a).ok:=by
 obtain⟨z,hz,rfl⟩:=limbs_of ⟨_,_,Tryz.underlying38⟩ cellsF12 ints_12 hv h
 let q:Nat->Nat:=fun k=>n4 (z (4*k)) (z (4*k+1)) (z (4*k+2)) (z (4*k+3))
 have hq:∀ k,q k<2^256:=fun k=>n4_below (hz _) (hz _) (hz _) (hz _);have hp:∀ k,pw (q k)=#[.int .u64 (z (4*k):Nat),.int .u64 (z (4*k+1):Nat),.int .u64 (z (4*k+2):Nat),.int .u64 (z (4*k+3):Nat)]:=fun k=>pw_n4 (hz _) (hz _) (hz _) (hz _);have o:∀ k,(F2s (q k,q (k+1))).ok:=fun k=>⟨hq _,hq _,trivial⟩
 refine⟨(((q 0,q 1),(q 4,q 5),(q 8,q 9)),((q 2,q 3),(q 6,q 7),(q 10,q 11))),?_,o 0,o 2,o 4,o 6,o 8,o 10,trivial⟩;have hc:∀ k,(F2s (q k,q (k+1))).cells o0=[.int .u64 (z (4*k):Nat),.int .u64 (z (4*k+1):Nat),.int .u64 (z (4*k+2):Nat),.int .u64 (z (4*k+3):Nat),.int .u64 (z (4*(k+1)):Nat),.int .u64 (z (4*(k+1)+1):Nat),.int .u64 (z (4*(k+1)+2):Nat),.int .u64 (z (4*(k+1)+3):Nat)]:=fun k=>by
  show(pw (q k)).toList++((pw (q (k+1))).toList++[])=_;rw[hp,hp];rfl
 show _=Value.agg ((F2s (q 0,q 1)).cells o0++((F2s (q 2,q 3)).cells o0++((F2s (q 4,q 5)).cells o0++((F2s (q 6,q 7)).cells o0++((F2s (q 8,q 9)).cells o0++((F2s (q 10,q 11)).cells o0++[])))))).toArray;rw[hc 0,hc 2,hc 4,hc 6,hc 8,hc 10];rfl
end Go.Proofs.YtpipdfgfoocifaaGreat
