/- What the reference's field's Exp comes to. (Cut to what is reached, written closely: SyA · RBit · RExp.) -/
import Derived.Test.YtphafjbajlcbnaaGreatB27
import Derived.Test.YtphafjbajlcbnaaGreatB32
import Derived.Test.YtphafjbajlcbnaaGreatB14
import Derived.Test.YtphafjbajlcbnaaGreatB29
import Derived.Test.YtphafjbajlcbnaaGreatB16
import Derived.Deep.DeepCutAuto
set_option linter.all false
set_option maxRecDepth 100000
set_option maxHeartbeats 8000000
namespace Go.Proofs.YtphafjbajlcbnaaGreat
open Go.RowKit
namespace Sy
abbrev mK:Nat:=115792089237316195423570985008687907853269984665640564039457584007908834671663
theorem fK(w:World):FOk false mK (fun _=>0) w:=⟨by decide,by decide,by decide,fun h=>by cases h⟩
def Je:Con:=⟨26,fun n _ l=>match l with
 | []=>some (.ap (.p n 0 0 0) .e,[],[(n,A1M mK,103)])
 | _=>none⟩
theorem K9{γ0:Pl}{w0:World}:ConOk Tryz.prog 1 γ0 w0 Je:=⟨fun _ _=>by kernel_rfl,fun n M l r p R hr hp hn hok _=>by
 simp only[Je]at hr
 split at hr
 ·cases hr
  refine⟨⟨trivial,trivial⟩,by show(decide (n<n+1)&&true)=true;simp,fun q hq=>?_,fun γ hγ wx hw hL=>?_⟩
  ·simp only[List.mem_cons,List.not_mem_nil,or_false]at hq
   subst hq;exact⟨⟨trivial,trivial,trivial,trivial,trivial,trivial,trivial,trivial,trivial,trivial⟩,rfl,Nat.le_refl _,Nat.lt_succ_self _⟩
  ·refine(PY wx).mono fun e w' ⟨F,h1,h2,h3,h4⟩=>?_
   obtain⟨δ,hδ⟩:∃ δ:Pl,∀ k,δ k=if k=n then F else γ k:=⟨_,fun _=>rfl⟩
   refine⟨⟨δ,fun k hk=>by rw[hδ,if_neg τ],?_,fun q hq=>?_,List.pairwise_singleton _ _⟩,h4⟩
   ·rw[h1]
    show _=Ending.returned (.agg #[.pointer (some ⟨δ n,0+0*0,none⟩)]);rw[hδ,if_pos rfl]
   ·simp only[List.mem_cons,List.not_mem_nil,or_false]at hq
    subst hq;refine⟨by rw[hδ,if_pos rfl];exact h3,?_⟩;show w'.heap[δ n]?=_;rw[hδ,if_pos rfl];exact h2.row
 ·cases hr⟩
def QZ:SV->Option (List (Nat × Nat × Bool))
 | .e=>some []
 | .ap x t=>match ptS x,QZ t with
  | some p,some l=>some (p::l)
  | _,_=>none
 | _=>none
theorem Ka{γ:Pl}:∀ {c:SV} {l:List (Nat × Nat × Bool)},QZ c=some l->(c.cells γ).toArray=pls l/\(c.ok->∀ p∈l,p.1<2^256/\p.2.1<2^256)
 | .e,l,h=>by cases h;exact⟨rfl,fun _ p hp=>by cases hp⟩
 | .ap x t,l,h=>by
  unfold QZ at h
  split at h
  ·rename_i p r hx hr
   cases h;have ih:=Ka (γ:=γ) hr;have k:=Bz (γ:=γ) hx;refine⟨?_,fun ho q hq=>?_⟩
   ·show(x.cells γ++t.cells γ).toArray=pc p.1 p.2.1 p.2.2++pls r
    rw[<- ih.1];have e:x.cells γ=(pc p.1 p.2.1 p.2.2).toList:=by
     unfold ptS at hx
     split at hx
     ·have h2:=k.1
      have h3:Value.agg (SV.cells γ (SV.ap (.w _) (.ap (.w _) (.ap _ .e)))).toArray=.agg _:=h2;injection h3 with h3
      rw[<- h3]
     ·cases hx
    rw[e];simp
   ·rcases List.mem_cons.1 hq with rfl | hq
    ·exact k.2 ho.1
    ·exact ih.2 ho.2 q hq
  ·cases h
def Zn(ext:Bool)(m:Nat)(f:FuncId)(g:List (Nat × Nat × Bool)->SV):Con:=⟨f,fun _ M us=>match us with
 | [.ap x .e,.s b 0 k _]=>match isF ext m M x,F4 b M with
  | some p,some (c,T)=>match QZ c with
   | some l=>if T=26/\l.length=k/\k<4294967296 then some (g l,p,[])else none
   | none=>none
  | _,_=>none
 | _=>none⟩
theorem R4{ext:Bool}{m:Nat}{γ0:Pl}{w0:World}{f:FuncId}{g:List (Nat × Nat × Bool)->SV}(hf:FOk ext m γ0 w0)(hc:∀ as_ wx,(callFunc f as_).run Tryz.prog wx=.ok (.enter f as_) wx)(hg:∀ l,(∀ p∈l,p.1<2^256/\p.2.1<2^256)->(g l).ok/\(g l).lt 0=true)
  (h:∀ F b c l,(∀ p∈l,p.1<2^256/\p.2.1<2^256)->l.length<4294967296->∀ w,FldAt w F m->w.heap[b]?=some (.cells (pls l) 26 (0,0))->Calls Tryz.prog f #[.agg #[.pointer (some ⟨F,0,none⟩)],.slice (some ⟨b,0,none⟩) l.length c] w fun e w'=>e=.returned ((g l).val fun _=>0)/\Below w.heap.size w w'):ConOk Tryz.prog 1 γ0 w0 (Zn ext m f g) :=
 ⟨hc,fun n M us r p R hr hp hn hok hM=>by
  unfold Zn at hr;dsimp only at hr
  split at hr
  ·rename_i x b k c
   split at hr
   ·rename_i p' c' T hx hrow
    split at hr
    ·rename_i l hl
     split at hr
     ·rename_i hk
      cases hr;obtain⟨rfl,rfl,hk⟩:=hk;have hlt:=(Ka (γ:=fun _=>0) hl).2 (hM _ (Bu hrow)).1;have q:=hg l hlt;refine⟨q.1,SV.lt_mono (Nat.zero_le _) q.2,fun q hq=>(by cases hq),fun γ hγ wx hw hL=>?_⟩;obtain⟨F,h1,h2⟩:=Im hx hp hf hγ hw hL;have hrw:=(hL _ (Bu hrow)).1;rw[(Ka (γ:=γ) hl).1]at hrw;have g4:=h F (γ b) c l hlt hk wx h2 hrw;rw[<- Jb hx h1]at g4;refine g4.mono fun e w' hh=>⟨⟨γ,fun _ _=>rfl,hh.1.trans (congrArg Ending.returned (Mj q.2).symm),fun q hq=>(by cases hq),.nil⟩,hh.2⟩
     ·cases hr
    ·cases hr
   ·cases hr
  ·cases hr⟩
def A0J(ext:Bool)(m:Nat):Con:=Zn ext m 27 fun l=>.b (l.all (onB m))
theorem W9{ext:Bool}{m:Nat}{γ0:Pl}{w0:World}(hf:FOk ext m γ0 w0):ConOk Tryz.prog 1 γ0 w0 (A0J ext m) :=
 R4 hf (fun _ _=>by kernel_rfl) (fun _ _=>⟨trivial,rfl⟩) fun F b c l hl hn w hF hg=>FB F m b c l hl hn w hF hg
def sIf(b:Bool):SV:=.i .i64 (if b=true then 0 else 81)
def sm3(m:Nat)(l:List (Nat × Nat × Bool)):Nat × Nat × Bool:=if l.all (onB m)=true then gpT m (gsm m l)else (0,0,true)
theorem R5(m:Nat)(l:List (Nat × Nat × Bool)):pc (sm3 m l).1 (sm3 m l).2.1 (sm3 m l).2.2=if l.all (onB m)=true then gpo m (gsm m l)else pc 0 0 true:=by
 unfold sm3
 split
 ·rw[<- Jc]
 ·rfl
theorem A28{m:Nat}(h0:0<m)(hm:m<2^256)(l:List (Nat × Nat × Bool)):(sm3 m l).1<2^256/\(sm3 m l).2.1<2^256:=by
 unfold sm3
 split
 ·exact PO h0 hm _
 ·exact⟨AV,AV⟩
def A3w(ext:Bool)(m:Nat):Con:=Zn ext m 38 fun l=>.tu (sP3 (sm3 m l)) (sIf (l.all (onB m)))
theorem Zo{ext:Bool}{m:Nat}{γ0:Pl}{w0:World}(hf:FOk ext m γ0 w0):ConOk Tryz.prog 1 γ0 w0 (A3w ext m) :=
 R4 hf (fun _ _=>by kernel_rfl) (fun l _=>⟨⟨(Fa (A28 (by have:=hf.big;omega) hf.lt l)).1,trivial⟩,rfl⟩) fun F b c l hl hn w hF hg=>by
  have g4:=VN F m b c l hl hn w hF hg;rw[<- R5,<- Dc _ fun _=>0]at g4;exact g4
def zP:SV:=sPk 0 0 false
def bsP(n:Nat)(zs:SV):Bs:=⟨77,n,26,9,zs⟩
theorem Wd:zP.ok:=⟨AV,AV,trivial,trivial⟩
theorem R6:(bsP 1 (.ap zP .e)).Good Tryz.prog:=⟨Tryz.underlying77,ω,ω,rfl,⟨Wd,trivial⟩,by decide,by decide⟩
theorem Zq:(bsP 2 (.ap zP (.ap zP .e))).Good Tryz.prog:=⟨Tryz.underlying77,ω,ω,rfl,⟨Wd,Wd,trivial⟩,by decide,by decide⟩
theorem EF{α:Type}{P:α->Prop}{x:α}(h:P x):∀ y∈[x],P y:=fun y hy=>by
 simp only[List.mem_cons,List.not_mem_nil,or_false]at hy;subst hy;exact h
noncomputable def EP (bs:Bs):Env:=E1 (Je::A0J false mK::A3w false mK::KV::QT false mK::[]) [bs]
theorem We{bs:Bs}{w:World}(hb:bs.Good Tryz.prog):(EP bs).Good (fun _=>0) w:=Mm ⟨K9,W9 (fK w),Zo (fK w),Ho,PQ (fK w),trivial⟩ (EF hb)
end Sy
open Sy
theorem R7(x y:Nat)(n:Bool)(hx:x<2^256)(hy:y<2^256)(w:World):Calls Tryz.prog 10 #[.agg (pc x y n)] w fun r w'=>r=.returned (.bool (onB mK (x,y,n)))/\Below w.heap.size w w':=by
 refine AJ (We R6) ω (fun _=>0) Tryz.func10 ω [sP x y n] ⟨⟨⟨hx,hy,trivial,trivial⟩,rfl⟩,trivial⟩ ω ω
  (.leaf (.b ([(x,y,n)].all (onB mK)))) ω ?_
 show Value.bool ([(x,y,n)].all (onB mK))=_;simp
theorem Wh(x y xq yq:Nat)(n nq:Bool)(hx:x<2^256)(hy:y<2^256)(hxq:xq<2^256)(hyq:yq<2^256)(w:World):Calls Tryz.prog 18 #[.agg (pc x y n),.agg (pc xq yq nq)] w fun r w'=>r=.returned (.tuple #[.agg (if [(x,y,n),(xq,yq,nq)].all (onB mK)=true then gpo mK (gsm mK [(x,y,n),(xq,yq,nq)])else pc 0 0 true),.int .i64 (if [(x,y,n),(xq,yq,nq)].all (onB mK)=true then 0 else 81)])/\Below w.heap.size w w':=by
 refine AJ (We Zq) ω (fun _=>0) Tryz.func18 ω [sP x y n,sP xq yq nq] ⟨⟨⟨hx,hy,trivial,trivial⟩,rfl⟩,⟨⟨hxq,hyq,trivial,trivial⟩,rfl⟩,trivial⟩ ω ω
  (.leaf (.tu (sP3 (sm3 mK [(x,y,n),(xq,yq,nq)])) (sIf ([(x,y,n),(xq,yq,nq)].all (onB mK))))) ω ?_
 rw[<- R5,<- Dc _ fun _=>0];rfl
theorem Wi(x y:Nat)(n:Bool)(hx:x<2^256)(hy:y<2^256)(w:World):Calls Tryz.prog 7 #[.agg (pc x y n)] w fun r w'=>r=.returned (.tuple #[.agg (if onB mK (x,y,n)=true then gtu mK x y n else pc 0 0 true),.int .i64 (if onB mK (x,y,n)=true then 0 else 81)])/\Below w.heap.size w w':=by
 refine AJ (We R6) ω (fun _=>0) Tryz.func7 ω [sP x y n] ⟨⟨⟨hx,hy,trivial,trivial⟩,rfl⟩,trivial⟩ ω ω
  (.br (!([(x,y,n)].all (onB mK))) (.leaf (.tu (sPk 0 0 true) (.v (.int .i64 81)))) (.leaf (.tu (sP3 (gtT mK x y n)) (.v (.int .i64 0))))) ω ⟨fun h=>?_,fun h=>?_⟩
 ·have h:onB mK (x,y,n)=false:=by simpa using h
  rw[h];rfl
 ·have h:onB mK (x,y,n)=true:=by simpa using h
  rw[h];show Value.tuple #[(sP3 (gtT mK x y n)).val _,_]=_;rw[Dc,<- QS];rfl
theorem Tw(x y xq yq:Nat)(n nq:Bool)(hx:x<2^256)(hy:y<2^256)(hxq:xq<2^256)(hyq:yq<2^256)(w:World):Calls Tryz.prog 15 #[.agg (pc x y n),.agg (pc xq yq nq)] w fun r w'=>r=.returned (.bool (if (n||nq)=true then n&&nq else decide (x=xq/\y=yq)))/\Below w.heap.size w w':=by
 refine AJ (El (more:=[]) (γ0:=fun _=>0) trivial) ω (fun _=>0) Tryz.func15 ω [sP x y n,sP xq yq nq] ⟨⟨⟨hx,hy,trivial,trivial⟩,rfl⟩,⟨⟨hxq,hyq,trivial,trivial⟩,rfl⟩,trivial⟩ ω ω
  (.br (bif n then true else nq) (.leaf (.b (bif n then nq else false))) (.leaf (.b (bif eqN x xq then eqN y yq else false)))) ω ⟨fun h=>?_,fun h=>?_⟩
 ·cases n <;> cases nq <;> first | (cases h;done) | rfl
 ·cases n <;> cases nq <;> first | (cases h;done) | skip
  show Value.bool _=.bool _;rw[if_neg υ];congr 1;rw[Bool.eq_iff_iff];simp[eqN]
theorem Tx(w:World):Calls Tryz.prog 11 #[] w fun r w'=>r=.returned (.agg (pc 55066263022277343669578718895168534326250603453777594175500187360389116729240 32670510020758816978083085130507043184471273380659243275938904335757337482424 false))/\Below w.heap.size w w' :=
 AJ (El (more:=[]) (γ0:=fun _=>0) trivial) ω (fun _=>0) Tryz.func11 ω [] trivial ω ω
  (.leaf (sPk 55066263022277343669578718895168534326250603453777594175500187360389116729240 32670510020758816978083085130507043184471273380659243275938904335757337482424 false)) ω rfl
open Go.RowKit
theorem R8(x i:Nat)(hi:i<256)(w:World):Calls Tryz.prog 43 #[wv x,.int .i64 i] w fun e w'=>e=.returned (.int .u64 ((x%2^256 / 2^i%2:Nat):Int))/\Below w.heap.size w w':=by
 rw[BR];obtain⟨p,hp⟩:∃ p:Nat,(i:Int) / 64=(p:Int):=⟨i / 64,τ⟩
 obtain⟨s,hs⟩:∃ s:Nat,(i:Int)%64=(s:Int):=⟨i%64,τ⟩
 have hv:bits .and .u64 (((pN x p:Nat):Int) / 2^s) 1=((x%2^256 / 2^i%2:Nat):Int):=by
  rw[<- A1p x i p s τ τ];have h:=and_one (pN x p / 2^s) (Nat.lt_of_le_of_lt (Nat.div_le_self _ _) (DL x p));simpa using h
 have hpl:=DL x p;have hi0:(0:Int)<=i:=by omega
 have hi1:(i:Int)<256:=by omega
 have hp0:(0:Int)<=p:=by omega
 have hp1:(p:Int)<4:=by omega
 have hs0:(0:Int)<=s:=by omega
 have hs1:(s:Int)<64:=by omega
 have ca:(w.alloc (.cells (pw x) 24)).cell? ⟨w.heap.size,p,none⟩=some (.int .u64 (pN x p:Nat)):=(cell_of_row _ _ p _ _ _ (heap_alloc_new w _)).trans (Qt x p τ);generalize x%2^256 / 2^i%2=c at *;go_enter Tryz.func43,Tryz.ntmps43;go_wp2;go_ret;exact⟨rfl,by go_grown⟩
open Go.RowKit
def rpq(m a x:Nat):Nat:=a^x*2^256%m
theorem Mv{m:Nat}(h1:1<m)(a x:Nat):rpq m a x<m:=Nat.mod_lt _ τ
theorem R9{m:Nat}(ho:m%2=1)(h1:1<m)(a x y:Nat):mnt m (rpq m a x) (rpq m a y)=rpq m a (x+y):=by
 unfold rpq;rw[Jn ho h1,Nat.pow_add]
theorem Zr{m:Nat}(ho:m%2=1)(h1:1<m)(a x:Nat):mnt m (rpq m a x) 1=a^x%m:=by
 unfold rpq;rw[EM ho h1,Nat.mul_one]
theorem Wj{m:Nat}(ho:m%2=1)(h1:1<m)(a:Nat):mnt m 1 (2^256*2^256%m)=rpq m a 0:=by
 unfold rpq;rw[Et ho h1,Nat.pow_zero]
theorem Zt{m:Nat}(ho:m%2=1)(h1:1<m)(a:Nat):mnt m a (2^256*2^256%m)=rpq m a 1:=by
 unfold rpq;rw[Et ho h1,Nat.pow_one]
theorem Wl(e i:Nat):e / 2^(i+1)+e / 2^(i+1)+e / 2^i%2=e / 2^i:=by
 rw[Nat.pow_succ,<- Nat.div_div_eq_div_mul];omega
theorem CRf.put{w wx:World}{G m lo sq g:Nat}{L:List (Nat × Array Value)}{c0:Array Value}(c:CRf w G m lo sq ((g,c0)::L) wx)(hg:w.heap.size<=g)(hL:∀ p∈L,p.1≠g)(cs:Array Value):CRf w G m lo sq ((g,cs)::L) (wx.setRow g cs):=by
 have hG:=c.hG;refine⟨below_setRow c.old hg _,(setRow_other _ _ _ _ τ).trans c.fld,hG,fun p hp=>?_⟩;rcases List.mem_cons.1 hp with rfl | hp
 ·exact setRow_heap _ _ _ _ _ _ (c.rows _ (List.mem_cons_self ..))
 ·exact(setRow_other _ _ _ _ (hL p hp)).trans (c.rows p (List.mem_cons_of_mem _ hp))
theorem Zu(e i:Nat)(he:e<2^256)(hi:i<256)(w:World):Calls Tryz.prog 43 #[.agg (pw e),.int .i64 (i:Nat)] w fun r w'=>r=.returned (.int .u64 ((e / 2^i%2:Nat):Int))/\Below w.heap.size w w':=by
 have h:=R8 e i hi w;rw[Nat.mod_eq_of_lt he]at h;exact h
theorem Wm(G m a e:Nat)(hal:a<2^256)(he:e<2^256)(hm:m<2^256)(h1:1<m)(ho:m%2=1)(w:World)(hF:RFld w G m):Calls Tryz.prog 65 #[(.pointer (some ⟨G,0,none⟩)),.agg (pw a),.agg (pw e)] w fun r w'=>r=.returned (.agg (pw (a^e%m)))/\Below w.heap.size w w':=by
 obtain⟨lo,hll,hlo,hR⟩:=hF;obtain⟨sq,hsq⟩:∃ sq,2^256*2^256%m=sq:=⟨_,rfl⟩
 have hsl:sq<m:=by rw[<- hsq];exact Nat.mod_lt _ τ
 have hp0:=Wj ho h1 a;have hp1:=Zt ho h1 a;rw[hsq]at hp0 hp1 hR;have HOF:=Lib.hid (fun wx (hf:RFat wx G m lo sq)=>QY G m lo sq 1 τ τ hm wx hf);rw[show 1%m=1 from Nat.mod_eq_of_lt h1]at HOF;have HC0:=Lib.hid (fun wx (hf:RFat wx G m lo sq)=>O6 G m lo sq 1 sq h1 hsl hm h1 ho hll hlo wx hf);have HC1:=Lib.hid (fun wx (hf:RFat wx G m lo sq)=>Mt G m lo sq a sq hal (Nat.lt_trans hsl hm) (Nat.mul_lt_mul_of_le_of_lt (Nat.le_of_lt hal) hsl τ) hm h1 ho hll hlo wx hf);rw[hp0]at HC0;rw[hp1]at HC1;have HCUT:=Lib.hid (fun(x y z:Nat) (hz:mnt m x y=z) (hx:x<m) (hy:y<m) wx (hf:RFat wx G m lo sq)=>(show Calls Tryz.prog 55 #[(.pointer (some ⟨G,0,none⟩)),.agg (pw x),.agg (pw y)] wx fun r w'=>r=.returned (.agg (pw z))/\Below wx.heap.size wx w' from hz ▸ O6 G m lo sq x y hx hy hm h1 ho hll hlo wx hf));have HBIT:=Lib.hid (fun i hi wx=>Zu e i he hi wx);have H0:=Lib.hid (CRf.two hR a e);have HO:=Lib.hid (And.intro ho (And.intro h1 he));obtain⟨o,hoo⟩:∃ o,o=1:=⟨_,rfl⟩
 have HOO:=Lib.hid hoo;rw[show(pw 1:Array Value)=#[.int .u64 1,.int .u64 0,.int .u64 0,.int .u64 0] from rfl]at HOF;have HOF2:=Lib.hid (show ∀ wx,RFat wx G m lo sq->Calls Tryz.prog 54 #[(.pointer (some ⟨G,0,none⟩)),.agg #[.int .u64 1,.int .u64 0,.int .u64 0,.int .u64 0]] wx fun r w'=>r=.returned (.agg (pw o))/\Below wx.heap.size wx w' from by rw[hoo];exact HOF.out);have HC02:=Lib.hid (show ∀ wx,RFat wx G m lo sq->Calls Tryz.prog 55 #[(.pointer (some ⟨G,0,none⟩)),.agg (pw o),.agg (pw sq)] wx fun r w'=>r=.returned (.agg (pw (rpq m a 0)))/\Below wx.heap.size wx w' from by rw[hoo];exact HC0.out);obtain⟨p0,hp00⟩:∃ p0,rpq m a 0=p0:=⟨_,rfl⟩
 obtain⟨f,hf0⟩:∃ f,rpq m a 1=f:=⟨_,rfl⟩
 rw[hp00]at HC02;rw[hf0]at HC1;have HPF:=Lib.hid (And.intro hp00 hf0);clear hR hsq hsl hp0 hp1 hal hm h1 ho hll hlo he HOF HC0 hoo hp00 hf0;go_enter Tryz.func65,Tryz.ntmps65
 go_wp2_with fail
 refine(CRf.calls HOF2.out _ H0.out).mono ?_;rintro r w1 ⟨rfl,c1⟩;have H2:=Lib.hid (c1.lay (pw o));have HOD:=Lib.hid ((Array.getElem?_eq_some_iff.1 (c1.is (w.heap.size+1+1) (#[.int .u64 0,.int .u64 0,.int .u64 0,.int .u64 0]) υ)).1);have HN:=Lib.hid (heap_alloc_new w1 (.cells (#[.int .u64 0,.int .u64 0,.int .u64 0,.int .u64 0]) 24));clear c1 H0 HOF2
 go_upto_region 2 with(refine wpList_store_row rfl 24 _ _ rfl (w1.heap.size) (pw o) rfl rfl 24 (#[.int .u64 0,.int .u64 0,.int .u64 0,.int .u64 0]) (by exact HN.out) (by rw[A7];exact Ab) (by first | rfl | (rw[A7];rfl) | (rw[A7,A7])) (Ag _) ?_)
 obtain⟨w2,hw2⟩:∃ w2,(w1.alloc (.cells (#[.int .u64 0,.int .u64 0,.int .u64 0,.int .u64 0]) 24)).setRow w1.heap.size (pw o)=w2:=⟨_,rfl⟩
 have HS2:=Lib.hid (show w1.heap.size<w2.heap.size from by rw[<- hw2,setRow_size];simp);rw[hw2]at H2 |-
 obtain⟨O,hO⟩:∃ O,w1.heap.size=O:=⟨_,rfl⟩
 rw[hO]at H2 HS2 |-
 have HOL:=Lib.hid (show w.heap.size+1+1<O from by rw[<- hO];exact HOD.out);clear hw2 hO HN HOD;simp only[Act.put];refine Ct [.val 14 ((.pointer (some ⟨G,0,none⟩))),.val 15 ((.agg (pw o))),.val 16 ((.pointer (some ⟨G,0,none⟩))),.val 17 ((.pointer (some ⟨G,0,none⟩))),.val 18 ((.pointer (some ⟨G,13,none⟩))),.val 19 ((.agg (pw sq))),.val 20 ((.agg (pw p0))),.val 21 ((.pointer (some ⟨G,0,none⟩))),.val 22 ((.agg (pw a))),.val 23 ((.pointer (some ⟨G,0,none⟩))),.val 24 ((.pointer (some ⟨G,0,none⟩))),.val 25 ((.pointer (some ⟨G,13,none⟩))),.val 26 ((.agg (pw sq))),.val 27 ((.agg (pw f))),.blk 8 24,.blk 9 24,.laid 8 24,.laid 9 24] [8,9] (fun p=>if p=8 then pw p0 else pw f) (fun i=>i) ω ω (by exact⟨trivial,trivial,trivial,trivial,trivial,trivial,trivial,trivial,trivial,trivial,trivial,trivial,trivial,trivial,(by simp[Sp.ok]),(by simp[Sp.ok]),(by simp[Sp.ok]),(by simp[Sp.ok]),trivial⟩) (by intro p hp q hq hne D e;simp only[List.mem_cons,List.not_mem_nil,or_false]at hp;rcases hp with rfl | rfl <;> simp[undef]at e) ?_ ?_
 ·refine⟨?_,?_,?_,?_,?_,?_,?_,?_,?_,?_,?_,?_,?_,?_,?_,?_,?_,?_,trivial⟩
  ·intro ac wx hC hsz hK
   have h0:ac.tmps.getD 0 undef=(.pointer (some ⟨G,0,none⟩)):=hK.1 0 ω;exact Ap ((.pointer (some ⟨G,0,none⟩))) rfl ω (by rw[<- h0];kernel_rfl) hC ω (by rw[hsz];exact of_decide_eq_true ω) rfl
  ·intro ac wx hC hsz hK
   have h0:ac.tmps.getD 7 undef=(.pointer (some ⟨O,0,none⟩)):=hK.1 7 ω;exact Ak 24 (.tmp 7) ((.pointer (some ⟨O,0,none⟩))) ((.agg (pw o))) rfl rfl ω h0 (Ad ((H2.out.below hC.1).is _ _ υ)) hC ω (by rw[hsz];exact of_decide_eq_true ω) rfl
  ·intro ac wx hC hsz hK
   have h0:ac.tmps.getD 0 undef=(.pointer (some ⟨G,0,none⟩)):=hK.1 0 ω;exact Ap ((.pointer (some ⟨G,0,none⟩))) rfl ω (by rw[<- h0];kernel_rfl) hC ω (by rw[hsz];exact of_decide_eq_true ω) rfl
  ·intro ac wx hC hsz hK
   have h0:ac.tmps.getD 16 undef=(.pointer (some ⟨G,0,none⟩)):=hK.2 ⟨2,.data⟩ υ rfl _ rfl;exact Ap ((.pointer (some ⟨G,0,none⟩))) rfl ω (Ao (.tmp 16) _ rfl h0) hC ω (by rw[hsz];exact of_decide_eq_true ω) rfl
  ·intro ac wx hC hsz hK
   have h0:ac.tmps.getD 17 undef=(.pointer (some ⟨G,0,none⟩)):=hK.2 ⟨3,.data⟩ υ rfl _ rfl;refine Be (Instr.fieldAt 83 (ac.tmps.getD 17 undef) 3) ((.pointer (some ⟨G,13,none⟩))) rfl ω ω ?_ hC ω (by rw[hsz];exact of_decide_eq_true ω) rfl;rw[h0];exact(Cz G wx).2.2.2
  ·intro ac wx hC hsz hK
   have h0:ac.tmps.getD 18 undef=(.pointer (some ⟨G,13,none⟩)):=hK.2 ⟨4,.data⟩ υ rfl _ rfl;exact Ak 24 (.tmp 18) ((.pointer (some ⟨G,13,none⟩))) ((.agg (pw sq))) rfl rfl ω h0 (K6 (H2.out.below hC.1).fld) hC ω (by rw[hsz];exact of_decide_eq_true ω) rfl
  ·intro ac wx hC hsz hK
   have h0:ac.tmps.getD 14 undef=(.pointer (some ⟨G,0,none⟩)):=hK.2 ⟨0,.data⟩ υ rfl _ rfl;have h1:ac.tmps.getD 15 undef=(.agg (pw o)):=hK.2 ⟨1,.data⟩ υ rfl _ rfl;have h2:ac.tmps.getD 19 undef=(.agg (pw sq)):=hK.2 ⟨5,.data⟩ υ rfl _ rfl;refine Bb 55 #[ac.tmps.getD 14 undef,ac.tmps.getD 15 undef,ac.tmps.getD 19 undef] ((.agg (pw p0))) rfl ω ω ?_ hC ω (by rw[hsz];exact of_decide_eq_true ω) rfl;rw[h0,h1,h2];exact HC02.out wx (H2.out.below hC.1).fld
  ·intro ac wx hC hsz hK
   have h0:ac.tmps.getD 0 undef=(.pointer (some ⟨G,0,none⟩)):=hK.1 0 ω;exact Ap ((.pointer (some ⟨G,0,none⟩))) rfl ω (by rw[<- h0];kernel_rfl) hC ω (by rw[hsz];exact of_decide_eq_true ω) rfl
  ·intro ac wx hC hsz hK
   have h0:ac.tmps.getD 4 undef=(.pointer (some ⟨w.heap.size,0,none⟩)):=hK.1 4 ω;exact Ak 24 (.tmp 4) ((.pointer (some ⟨w.heap.size,0,none⟩))) ((.agg (pw a))) rfl rfl ω h0 (Ad ((H2.out.below hC.1).is _ _ υ)) hC ω (by rw[hsz];exact of_decide_eq_true ω) rfl
  ·intro ac wx hC hsz hK
   have h0:ac.tmps.getD 0 undef=(.pointer (some ⟨G,0,none⟩)):=hK.1 0 ω;exact Ap ((.pointer (some ⟨G,0,none⟩))) rfl ω (by rw[<- h0];kernel_rfl) hC ω (by rw[hsz];exact of_decide_eq_true ω) rfl
  ·intro ac wx hC hsz hK
   have h0:ac.tmps.getD 23 undef=(.pointer (some ⟨G,0,none⟩)):=hK.2 ⟨9,.data⟩ υ rfl _ rfl;exact Ap ((.pointer (some ⟨G,0,none⟩))) rfl ω (Ao (.tmp 23) _ rfl h0) hC ω (by rw[hsz];exact of_decide_eq_true ω) rfl
  ·intro ac wx hC hsz hK
   have h0:ac.tmps.getD 24 undef=(.pointer (some ⟨G,0,none⟩)):=hK.2 ⟨10,.data⟩ υ rfl _ rfl;refine Be (Instr.fieldAt 83 (ac.tmps.getD 24 undef) 3) ((.pointer (some ⟨G,13,none⟩))) rfl ω ω ?_ hC ω (by rw[hsz];exact of_decide_eq_true ω) rfl;rw[h0];exact(Cz G wx).2.2.2
  ·intro ac wx hC hsz hK
   have h0:ac.tmps.getD 25 undef=(.pointer (some ⟨G,13,none⟩)):=hK.2 ⟨11,.data⟩ υ rfl _ rfl;exact Ak 24 (.tmp 25) ((.pointer (some ⟨G,13,none⟩))) ((.agg (pw sq))) rfl rfl ω h0 (K6 (H2.out.below hC.1).fld) hC ω (by rw[hsz];exact of_decide_eq_true ω) rfl
  ·intro ac wx hC hsz hK
   have h0:ac.tmps.getD 21 undef=(.pointer (some ⟨G,0,none⟩)):=hK.2 ⟨7,.data⟩ υ rfl _ rfl;have h1:ac.tmps.getD 22 undef=(.agg (pw a)):=hK.2 ⟨8,.data⟩ υ rfl _ rfl;have h2:ac.tmps.getD 26 undef=(.agg (pw sq)):=hK.2 ⟨12,.data⟩ υ rfl _ rfl;refine Bb 55 #[ac.tmps.getD 21 undef,ac.tmps.getD 22 undef,ac.tmps.getD 26 undef] ((.agg (pw f))) rfl ω ω ?_ hC ω (by rw[hsz];exact of_decide_eq_true ω) rfl;rw[h0,h1,h2];exact HC1.out wx (H2.out.below hC.1).fld
  ·intro ac wx hC hsz hK
   exact Cx 24 (#[.int .u64 0,.int .u64 0,.int .u64 0,.int .u64 0]) rfl ω ω hC (by first | (rw[A7];rfl) | (simp[A7];done) | rfl) (by rw[hsz];exact of_decide_eq_true ω) rfl
  ·intro ac wx hC hsz hK
   exact Cx 24 (#[.int .u64 0,.int .u64 0,.int .u64 0,.int .u64 0]) rfl ω ω hC (by first | (rw[A7];rfl) | (simp[A7];done) | rfl) (by rw[hsz];exact of_decide_eq_true ω) rfl
  ·intro ac wx hC hsz hK
   have h0:ac.tmps.getD 20 undef=(.agg (pw p0)):=hK.2 ⟨6,.data⟩ υ rfl _ rfl;exact Br (p:=8) 24 (.tmp 8) (.tmp 20) _ rfl rfl ω rfl h0 υ (hK.2 ⟨14,.data⟩ υ rfl _ rfl) (fun D cs h3 h4=>BS (h4.trans (A7 _)) h3) hC rfl
  ·intro ac wx hC hsz hK
   have h0:ac.tmps.getD 27 undef=(.agg (pw f)):=hK.2 ⟨13,.data⟩ υ rfl _ rfl;exact Br (p:=9) 24 (.tmp 9) (.tmp 27) _ rfl rfl ω rfl h0 υ (hK.2 ⟨15,.data⟩ υ rfl _ rfl) (fun D cs h3 h4=>BS (h4.trans (A7 _)) h3) hC rfl
 intro f1 w5 hb5 hap hf5;obtain⟨D,s8,hD,r8⟩:=hf5 16 _ rfl;obtain⟨E,s9,hE,r9⟩:=hf5 17 _ rfl;have hne:D≠E:=hap.ne 8 υ 9 υ (by decide) D E s8 s9 hD hE;have H5:=Lib.hid (show CRf w G m lo sq [(D,pw p0),(E,pw f),(O,pw o),(w.heap.size+1+1,#[.int .u64 0,.int .u64 0,.int .u64 0,.int .u64 0]),(w.heap.size+1,pw e),(w.heap.size,pw a)] w5 from(((H2.out.below hb5).cons r9).cons r8));have HDE:=Lib.hid (show w.heap.size<=D/\∀ p∈([(E,pw f),(O,pw o),(w.heap.size+1+1,#[.int .u64 0,.int .u64 0,.int .u64 0,.int .u64 0]),(w.heap.size+1,pw e),(w.heap.size,pw a)]:List (Nat × Array Value)),p.1≠D from by
  have h1:=HOL.out;have h2:=HS2.out;refine⟨τ,fun p hp=>?_⟩;simp only[List.mem_cons,List.not_mem_nil,or_false]at hp;rcases hp with rfl | rfl | rfl | rfl | rfl <;> simp only[] <;> omega)
 clear hf5 hap hb5 r8 r9 hD hE hne H2 HS2 HC02 HC1;generalize hAct:Aj _ _ _=A1 at *;have s8':A1.tmps.getD 8 undef=.pointer (some ⟨D,0,none⟩):=s8;have s9':A1.tmps.getD 9 undef=.pointer (some ⟨E,0,none⟩):=s9;have s0:A1.tmps.getD 0 undef=(.pointer (some ⟨G,0,none⟩)):=by subst hAct;kernel_rfl
 have s4:A1.tmps.getD 4 undef=.pointer (some ⟨w.heap.size,0,none⟩):=by subst hAct;kernel_rfl
 have s5:A1.tmps.getD 5 undef=.pointer (some ⟨w.heap.size+1,0,none⟩):=by subst hAct;kernel_rfl
 have s6:A1.tmps.getD 6 undef=.pointer (some ⟨w.heap.size+1+1,0,none⟩):=by subst hAct;kernel_rfl
 have s7:A1.tmps.getD 7 undef=.pointer (some ⟨O,0,none⟩):=by subst hAct;kernel_rfl
 have hsz:A1.tmps.size=48:=by rw[<- hAct,Az];rfl
 have hdf:A1.defers=[]:=by subst hAct;kernel_rfl
 clear hAct s8 s9 f1;obtain⟨u1,t1⟩:∃ u,A1.tmps.getD 1 undef=u:=⟨_,rfl⟩
 obtain⟨u2,t2⟩:∃ u,A1.tmps.getD 2 undef=u:=⟨_,rfl⟩
 obtain⟨u3,t3⟩:∃ u,A1.tmps.getD 3 undef=u:=⟨_,rfl⟩
 obtain⟨u10,t10⟩:∃ u,A1.tmps.getD 10 undef=u:=⟨_,rfl⟩
 obtain⟨u11,t11⟩:∃ u,A1.tmps.getD 11 undef=u:=⟨_,rfl⟩
 obtain⟨u12,t12⟩:∃ u,A1.tmps.getD 12 undef=u:=⟨_,rfl⟩
 obtain⟨u13,t13⟩:∃ u,A1.tmps.getD 13 undef=u:=⟨_,rfl⟩
 obtain⟨u14,t14⟩:∃ u,A1.tmps.getD 14 undef=u:=⟨_,rfl⟩
 obtain⟨u15,t15⟩:∃ u,A1.tmps.getD 15 undef=u:=⟨_,rfl⟩
 obtain⟨u16,t16⟩:∃ u,A1.tmps.getD 16 undef=u:=⟨_,rfl⟩
 obtain⟨u17,t17⟩:∃ u,A1.tmps.getD 17 undef=u:=⟨_,rfl⟩
 obtain⟨u18,t18⟩:∃ u,A1.tmps.getD 18 undef=u:=⟨_,rfl⟩
 obtain⟨u19,t19⟩:∃ u,A1.tmps.getD 19 undef=u:=⟨_,rfl⟩
 obtain⟨u20,t20⟩:∃ u,A1.tmps.getD 20 undef=u:=⟨_,rfl⟩
 obtain⟨u21,t21⟩:∃ u,A1.tmps.getD 21 undef=u:=⟨_,rfl⟩
 obtain⟨u22,t22⟩:∃ u,A1.tmps.getD 22 undef=u:=⟨_,rfl⟩
 obtain⟨u23,t23⟩:∃ u,A1.tmps.getD 23 undef=u:=⟨_,rfl⟩
 obtain⟨u24,t24⟩:∃ u,A1.tmps.getD 24 undef=u:=⟨_,rfl⟩
 obtain⟨u25,t25⟩:∃ u,A1.tmps.getD 25 undef=u:=⟨_,rfl⟩
 obtain⟨u26,t26⟩:∃ u,A1.tmps.getD 26 undef=u:=⟨_,rfl⟩
 obtain⟨u27,t27⟩:∃ u,A1.tmps.getD 27 undef=u:=⟨_,rfl⟩
 obtain⟨u28,t28⟩:∃ u,A1.tmps.getD 28 undef=u:=⟨_,rfl⟩
 obtain⟨u29,t29⟩:∃ u,A1.tmps.getD 29 undef=u:=⟨_,rfl⟩
 obtain⟨u30,t30⟩:∃ u,A1.tmps.getD 30 undef=u:=⟨_,rfl⟩
 obtain⟨u31,t31⟩:∃ u,A1.tmps.getD 31 undef=u:=⟨_,rfl⟩
 obtain⟨u32,t32⟩:∃ u,A1.tmps.getD 32 undef=u:=⟨_,rfl⟩
 obtain⟨u33,t33⟩:∃ u,A1.tmps.getD 33 undef=u:=⟨_,rfl⟩
 obtain⟨u34,t34⟩:∃ u,A1.tmps.getD 34 undef=u:=⟨_,rfl⟩
 obtain⟨u35,t35⟩:∃ u,A1.tmps.getD 35 undef=u:=⟨_,rfl⟩
 obtain⟨u36,t36⟩:∃ u,A1.tmps.getD 36 undef=u:=⟨_,rfl⟩
 obtain⟨u37,t37⟩:∃ u,A1.tmps.getD 37 undef=u:=⟨_,rfl⟩
 obtain⟨u38,t38⟩:∃ u,A1.tmps.getD 38 undef=u:=⟨_,rfl⟩
 obtain⟨u39,t39⟩:∃ u,A1.tmps.getD 39 undef=u:=⟨_,rfl⟩
 obtain⟨u40,t40⟩:∃ u,A1.tmps.getD 40 undef=u:=⟨_,rfl⟩
 obtain⟨u41,t41⟩:∃ u,A1.tmps.getD 41 undef=u:=⟨_,rfl⟩
 obtain⟨u42,t42⟩:∃ u,A1.tmps.getD 42 undef=u:=⟨_,rfl⟩
 obtain⟨u43,t43⟩:∃ u,A1.tmps.getD 43 undef=u:=⟨_,rfl⟩
 obtain⟨u44,t44⟩:∃ u,A1.tmps.getD 44 undef=u:=⟨_,rfl⟩
 obtain⟨u45,t45⟩:∃ u,A1.tmps.getD 45 undef=u:=⟨_,rfl⟩
 obtain⟨u46,t46⟩:∃ u,A1.tmps.getD 46 undef=u:=⟨_,rfl⟩
 obtain⟨u47,t47⟩:∃ u,A1.tmps.getD 47 undef=u:=⟨_,rfl⟩
 obtain⟨tm,df⟩:=A1;simp only at *;have hLt:=Fb tm;rw[hsz]at hLt;simp only[List.range,List.range.loop,List.map]at hLt;rw[s0,t1,t2,t3,s4,s5,s6,s7,s8',s9',t10,t11,t12,t13,t14,t15,t16,t17,t18,t19,t20,t21,t22,t23,t24,t25,t26,t27,t28,t29,t30,t31,t32,t33,t34,t35,t36,t37,t38,t39,t40,t41,t42,t43,t44,t45,t46,t47]at hLt;subst hLt hdf;clear s0 t1 t2 t3 s4 s5 s6 s7 s8' s9' t10 t11 t12 t13 t14 t15 t16 t17 t18 t19 t20 t21 t22 t23 t24 t25 t26 t27 t28 t29 t30 t31 t32 t33 t34 t35 t36 t37 t38 t39 t40 t41 t42 t43 t44 t45 t46 t47 hsz
 go_wp2_with fail
 go_loopw [10] (fun iv wr=>∃ j:Nat,j<=256/\iv=.int .i64 ((j:Int) - 1)/\∃ x,x=rpq m a (e / 2^j)/\Hid (CRf w G m lo sq [(D,pw x),(E,pw f),(O,pw o),(w.heap.size+1+1,#[.int .u64 0,.int .u64 0,.int .u64 0,.int .u64 0]),(w.heap.size+1,pw e),(w.heap.size,pw a)] wr)) (fun iv _=>(intOf iv+1).toNat)
 case atStart=>exact⟨256,τ,rfl,p0,by rw[Nat.div_eq_of_lt HO.out.2.2,HPF.out.1],H5⟩
 case round =>
  obtain⟨j,hj,rfl,x,hx,H⟩:=hrel;clear H5;by_cases h0:1<=j
  ·obtain⟨i,rfl⟩:∃ i,j=i+1:=⟨j - 1,τ⟩
   rw[show(((i+1:Nat):Int) - 1)=(i:Int) by omega];have hi0:(0:Int)<=i:=by omega
   have HB:=Lib.hid (HBIT.out i τ);have HBN:=Wl e i;obtain⟨q,hq⟩:∃ q,e / 2^(i+1)=q:=⟨_,rfl⟩
   rw[hq]at HBN hx;obtain⟨b,hb⟩:∃ b,e / 2^i%2=b:=⟨_,rfl⟩
   have hb2:b<2:=by rw[<- hb];exact Nat.mod_lt _ τ
   rw[hb]at HB HBN;obtain⟨y,hy⟩:∃ y,rpq m a (q+q)=y:=⟨_,rfl⟩
   have hxl:x<m:=by rw[hx];exact Mv HO.out.2.1 _ _
   have hyl:y<m:=by rw[<- hy];exact Mv HO.out.2.1 _ _
   have HT:=Lib.hid (HCUT.out x x y (by rw[<- hy,hx];exact R9 HO.out.1 HO.out.2.1 a q q) hxl hxl);have HIJ:=Lib.hid (show i<256/\wrap64 ((i:Int) - 1)=(i:Int) - 1 from⟨τ,by have h:=hj;unfold wrap64;omega⟩);have HYL:=Lib.hid (And.intro hyl (And.intro hy HBN));clear hx hxl hyl hy HBN hq hb hj h0
   go_wp2_with (refine Ae rfl 24 _ rfl (.pointer (some ⟨D,0,none⟩)) (.agg (pw x)) rfl (Ad (by exact H.out.is _ _ υ)) ?_)
   refine(CRf.calls HT.out _ H.out).mono ?_;rintro r w6 ⟨rfl,c6⟩;have H6:=Lib.hid (c6.put HDE.out.1 HDE.out.2 (pw y));have H6B:=Lib.hid c6;clear c6 H HT
   go_upto_region 7 with(refine wpList_store_row rfl 24 _ _ rfl (D) (pw y) rfl rfl 24 (pw x) (by exact H6B.out.is _ _ υ) (by rw[A7];exact Ab) (by first | rfl | (rw[A7];rfl) | (rw[A7,A7])) (Ag _) ?_)
   obtain⟨w7,hw7⟩:∃ w7,w6.setRow D (pw y)=w7:=⟨_,rfl⟩
   rw[hw7]at H6 |-
   clear hw7 H6B
   go_wp2_with (refine Ae rfl 24 _ rfl (.pointer (some ⟨w.heap.size+1,0,none⟩)) (.agg (pw e)) rfl (Ad (by exact H6.out.is _ _ υ)) ?_)
   refine(HB.out _).mono ?_;rintro r w8 ⟨rfl,hb8⟩;have H8:=Lib.hid (H6.out.below hb8);clear hb8 H6 HB;by_cases h1:b=1
   ·subst h1
    have hfl:f<m:=by rw[<- HPF.out.2];exact Mv HO.out.2.1 _ _
    obtain⟨z,hz⟩:∃ z,rpq m a (q+q+1)=z:=⟨_,rfl⟩
    have HT:=Lib.hid (HCUT.out y f z (by rw[<- hz,<- HYL.out.2.1,<- HPF.out.2];exact R9 HO.out.1 HO.out.2.1 a (q+q) 1) HYL.out.1 hfl);have HZ:=Lib.hid hz;clear hfl hz
    go_wp2_with (first | (refine Ae rfl 24 _ rfl (.pointer (some ⟨D,0,none⟩)) (.agg (pw y)) rfl (Ad (by exact H8.out.is _ _ υ)) ?_) | (refine Ae rfl 24 _ rfl (.pointer (some ⟨E,0,none⟩)) (.agg (pw f)) rfl (Ad (by exact H8.out.is _ _ υ)) ?_))
    refine(CRf.calls HT.out _ H8.out).mono ?_;rintro r w9 ⟨rfl,c9⟩;have H9:=Lib.hid c9;clear c9 H8 HT
    go_wp2_with (refine wpList_store_row rfl 24 _ _ rfl (D) (pw z) rfl rfl 24 (pw y) (by exact H9.out.is _ _ υ) (by rw[A7];exact Ab) (by first | rfl | (rw[A7];rfl) | (rw[A7,A7])) (Ag _) ?_)
    go_roundw
    case rel=>exact⟨i,by have:=HIJ.out.1;omega,by rw[HIJ.out.2],z,by rw[<- HZ.out];exact congrArg _ HYL.out.2.2,Lib.hid (H9.out.put HDE.out.1 HDE.out.2 (pw z))⟩
    case measure=>first | (rw[HIJ.out.2];simp[intOf];done) | (rw[HIJ.out.2];simp[intOf];omega) | (simp only[intOf];rw[HIJ.out.2];omega)
   ·have hb0:b=0:=by omega
    subst hb0;clear h1
    go_wp2_with fail
    go_roundw
    case rel=>exact⟨i,by have:=HIJ.out.1;omega,by rw[HIJ.out.2],y,by rw[<- HYL.out.2.1];exact congrArg _ HYL.out.2.2,H8⟩
    case measure=>first | (rw[HIJ.out.2];simp[intOf];done) | (rw[HIJ.out.2];simp[intOf];omega) | (simp only[intOf];rw[HIJ.out.2];omega)
  ·obtain rfl:j=0:=by omega
   rw[Nat.pow_zero,Nat.div_one]at hx;have hxl:x<m:=by rw[hx];exact Mv HO.out.2.1 _ _
   obtain⟨y,hy⟩:∃ y,a^e%m=y:=⟨_,rfl⟩
   have HT:=Lib.hid (HCUT.out x o y (by rw[HOO.out,hx,<- hy];exact Zr HO.out.1 HO.out.2.1 a e) hxl (by rw[HOO.out];exact HO.out.2.1));have HY:=Lib.hid hy;clear hx hxl hy hj h0 HPF HOO;rw[show(((0:Nat):Int) - 1)=-1 from rfl]
   go_wp2_with (first | (refine Ae rfl 24 _ rfl (.pointer (some ⟨D,0,none⟩)) (.agg (pw x)) rfl (Ad (by exact H.out.is _ _ υ)) ?_) | (refine Ae rfl 24 _ rfl (.pointer (some ⟨O,0,none⟩)) (.agg (pw o)) rfl (Ad (by exact H.out.is _ _ υ)) ?_))
   refine(CRf.calls HT.out _ H.out).mono ?_;rintro r w9 ⟨rfl,c9⟩;have H9:=Lib.hid c9;clear c9 H HT
   go_wp2_with (refine wpList_store_row rfl 24 _ _ rfl (w.heap.size+1+1) (pw y) rfl rfl 24 (#[.int .u64 0,.int .u64 0,.int .u64 0,.int .u64 0]) (by exact H9.out.is _ _ υ) (by rw[A7];exact Ab) (by first | rfl | (rw[A7];rfl) | (rw[A7,A7])) (Ag _) ?_)
   (try simp only[Act.put])
   refine bodyPost_ret (v:=.agg (pw y)) (results_cell_row (p:=6) rfl _ _ (w.heap.size+1+1) 24 (pw y) (0,0) _ rfl (setRow_heap _ _ _ _ _ _ (by exact H9.out.is _ (#[.int .u64 0,.int .u64 0,.int .u64 0,.int .u64 0]) υ)) Tryz.underlying24 rfl (by rw[A7];exact Ab)) rfl ⟨by rw[HY.out],below_setRow H9.out.old τ _⟩
theorem Wn(G m a e:Nat)(hal:a<m)(he:e<2^256)(hm:m<2^256)(h1:1<m)(ho:m%2=1)(w:World)(hF:RFld w G m):Calls Tryz.prog 65 #[(.pointer (some ⟨G,0,none⟩)),.agg (pw a),.agg (pw e)] w fun r w'=>r=.returned (.agg (pw (a^e%m)))/\Below w.heap.size w w' :=
 Wm G m a e (Nat.lt_trans hal hm) he hm h1 ho w hF
end Go.Proofs.YtphafjbajlcbnaaGreat
