/- Identities of polynomials in four letters over any commutative ring, held by one great number: what is nought where the letters are high powers of one base, and has few terms of small degrees, is nought everywhere. (Cut to what is reached, written closely: RCub · Rsp · SyR · SyS · FSqrt · Kron.) -/
import Derived.Test.YtphafjbajlcbnaaGreatB34
import Derived.Test.YtphafjbajlcbnaaGreatB23
import Derived.Test.YtphafjbajlcbnaaGreatB29
import Derived.Test.YtphafjbajlcbnaaGreatB33
import Derived.Test.YtphafjbajlcbnaaGreatB26
set_option linter.all false
set_option maxRecDepth 100000
set_option maxHeartbeats 8000000
namespace Go.Proofs.YtphafjbajlcbnaaGreat
open Go.RowKit
theorem CRf.box{w:World}{G m lo sq:Nat}(h:RFat w G m lo sq)(a:Nat):CRf w G m lo sq [(w.heap.size,pw a)] (w.alloc (.cells (pw a) 24)):=(CRf.start h).new (pw a)
theorem TB(G m a:Nat)(hal:a<m)(hm:m<2^256)(h7:7<m)(ho:m%2=1)(w:World)(hF:RFld w G m):Calls Tryz.prog 33 #[(.pointer (some ⟨G,0,none⟩)),.agg (pw a)] w fun r w'=>r=.returned (.agg (pw ((a*a%m*a%m+7)%m)))/\Below w.heap.size w w':=by
 have h1:1<m:=by omega
 obtain⟨lo,hll,hlo,hR⟩:=hF;obtain⟨sq,hsq⟩:∃ sq,2^256*2^256%m=sq:=⟨_,rfl⟩
 have HFL:=Lib.hid (show ∀ wx,RFat wx G m lo sq->RFld wx G m from fun wx h=>⟨lo,hll,hlo,by rw[hsq];exact h⟩);rw[hsq]at hR;have H0:=Lib.hid (CRf.one hR a);have HM1:=Lib.hid (fun wx (c:RFat wx G m lo sq)=>K8 G m a a hal hal hm h1 ho wx (HFL.out wx c));obtain⟨x,hx⟩:∃ x,a*a%m=x:=⟨_,rfl⟩
 have hxl:x<m:=by rw[<- hx];exact Nat.mod_lt _ τ
 rw[hx]at HM1 |-
 have HM2:=Lib.hid (fun wx (c:RFat wx G m lo sq)=>K8 G m x a hxl hal hm h1 ho wx (HFL.out wx c));obtain⟨y,hy⟩:∃ y,x*a%m=y:=⟨_,rfl⟩
 have hyl:y<m:=by rw[<- hy];exact Nat.mod_lt _ τ
 rw[hy]at HM2 |-
 have HAD:=Lib.hid (fun wx (c:RFat wx G m lo sq)=>O5 G m lo sq y 7 hyl h7 hm wx c);obtain⟨z,hz⟩:∃ z,(y+7)%m=z:=⟨_,rfl⟩
 rw[hz]at HAD |-
 clear hsq hR hal hm h1 ho hll hlo h7 hx hxl hy hyl hz HFL;go_enter Tryz.func33,Tryz.ntmps33
 go_wp2_with fail
 refine Aa 10 (CRf w G m lo sq [(w.heap.size+1,#[.int .u64 0,.int .u64 0,.int .u64 0,.int .u64 0]),(w.heap.size,pw a)]) ω ω (H0.out.drew) ?_;simp only[List.take_succ_cons,List.take_zero,List.drop_succ_cons,List.drop_zero]
 with_reducible refine q_val (.pointer (some ⟨G,0,none⟩)) ω (fun _ _=>by kernel_rfl) ?_
 with_reducible refine q_val (.pointer (some ⟨G,0,none⟩)) ω (fun _ _=>by kernel_rfl) ?_
 with_reducible refine q_val (.pointer (some ⟨G,0,none⟩)) ω (fun _ _=>by kernel_rfl) ?_
 with_reducible refine Ac 24 (.tmp 3) (.pointer (some ⟨w.heap.size,0,none⟩)) (.agg (pw a)) rfl ω ω (fun _ c=>Ad (c.is _ _ υ)) ?_
 with_reducible refine Ac 24 (.tmp 3) (.pointer (some ⟨w.heap.size,0,none⟩)) (.agg (pw a)) rfl ω ω (fun _ c=>Ad (c.is _ _ υ)) ?_
 with_reducible refine Ah 32 #[.pointer (some ⟨G,0,none⟩),.agg (pw a),.agg (pw a)] (.agg (pw x)) ω (fun _=>by kernel_rfl) (CRf.calls HM1.out) ?_
 with_reducible refine Ac 24 (.tmp 3) (.pointer (some ⟨w.heap.size,0,none⟩)) (.agg (pw a)) rfl ω ω (fun _ c=>Ad (c.is _ _ υ)) ?_
 with_reducible refine Ah 32 #[.pointer (some ⟨G,0,none⟩),.agg (pw x),.agg (pw a)] (.agg (pw y)) ω (fun _=>by kernel_rfl) (CRf.calls HM2.out) ?_
 with_reducible refine q_val (.agg (pw 7)) ω (fun _ _=>by kernel_rfl) ?_
 with_reducible refine Ah 39 #[.pointer (some ⟨G,0,none⟩),.agg (pw y),.agg (pw 7)] (.agg (pw z)) ω (fun _=>by kernel_rfl) (CRf.calls HAD.out) ?_
 with_reducible refine wpQuiet_nil ?_
 intro wx hC;have HC:=Lib.hid hC;clear hC H0 HM1 HM2 HAD;simp only[Act.put,List.setIfInBounds_toArray,List.set_cons_succ,List.set_cons_zero]
 go_wp2_with (refine wpList_store_row rfl 24 _ _ rfl (w.heap.size+1) (pw z) rfl rfl 24 (#[.int .u64 0,.int .u64 0,.int .u64 0,.int .u64 0]) (by exact HC.out.is _ _ υ) (by rw[A7];exact Ab) (by first | rfl | (rw[A7];rfl) | (rw[A7,A7])) (Ag _) ?_)
 (try simp only[Act.put])
 refine bodyPost_ret (v:=.agg (pw z)) (results_cell_row (p:=4) rfl _ _ (w.heap.size+1) 24 (pw z) (0,0) _ rfl (setRow_heap _ _ _ _ _ _ (by exact HC.out.is _ (#[.int .u64 0,.int .u64 0,.int .u64 0,.int .u64 0]) υ)) Tryz.underlying24 rfl (by rw[A7];exact Ab)) rfl ⟨rfl,below_setRow HC.out.old τ _⟩
theorem PZ(G m a:Nat)(ha:a<2^256)(hm:m<2^256)(h0:0<m)(w:World)(hF:RFld w G m):Calls Tryz.prog 31 #[(.pointer (some ⟨G,0,none⟩)),.agg (pw a)] w fun r w'=>r=.returned (.bool (decide (a<m)))/\Below w.heap.size w w':=by
 obtain⟨lo,hll,hlo,hR⟩:=hF;obtain⟨sq,hsq⟩:∃ sq,2^256*2^256%m=sq:=⟨_,rfl⟩
 rw[hsq]at hR;have H0:=Lib.hid (CRf.box hR a);have HOF:=Lib.hid (fun wx (c:RFat wx G m lo sq)=>QY G m lo sq a ha h0 hm wx c);have HD:decide (a%m=a)=decide (a<m):=by
  rw[decide_eq_decide];exact⟨fun h=>by rw[<- h];exact Nat.mod_lt _ h0,fun h=>Nat.mod_eq_of_lt h⟩
 have HEQ:=Lib.hid (fun wx=>LP (a%m) a (Nat.lt_trans (Nat.mod_lt _ h0) hm) ha wx);rw[HD]at HEQ;obtain⟨x,hx⟩:∃ x,a%m=x:=⟨_,rfl⟩
 obtain⟨b,hb⟩:∃ b,decide (a<m)=b:=⟨_,rfl⟩
 rw[hx]at HOF HEQ;rw[hb]at HEQ |-
 clear hsq hR ha hm h0 hll hlo hx hb HD;go_enter Tryz.func31,Tryz.ntmps31
 go_wp2_with fail
 refine wp_region_quiet (C:=CRf w G m lo sq [(w.heap.size,pw a)]) ω ω (H0.out.drew) ?_;simp only
 with_reducible refine q_val (.pointer (some ⟨G,0,none⟩)) ω (fun _ _=>by kernel_rfl) ?_
 with_reducible refine Ac 24 (.tmp 3) (.pointer (some ⟨w.heap.size,0,none⟩)) (.agg (pw a)) rfl ω ω (fun _ c=>Ad (c.is _ _ υ)) ?_
 with_reducible refine Ah 54 #[.pointer (some ⟨G,0,none⟩),.agg (pw a)] (.agg (pw x)) ω (fun _=>by kernel_rfl) (CRf.calls HOF.out) ?_
 with_reducible refine Ac 24 (.tmp 3) (.pointer (some ⟨w.heap.size,0,none⟩)) (.agg (pw a)) rfl ω ω (fun _ c=>Ad (c.is _ _ υ)) ?_
 with_reducible refine Ce .eql 24 _ _ 24 (.agg (pw x)) (.agg (pw a)) (.bool b) rfl ω ω ω (fun _=>by kernel_rfl) (fun w'=>HEQ.out w') ?_
 with_reducible refine q_val (.bool b) ω (fun _ _=>by kernel_rfl) ?_
 with_reducible refine wpQuiet_nil ?_
 intro wx hC;have HC:=Lib.hid hC;clear hC H0 HOF HEQ;simp only[Act.put,List.setIfInBounds_toArray,List.set_cons_succ,List.set_cons_zero]
 go_wp2_with fail
 go_ret;exact⟨rfl,HC.out.old⟩
open Go.RowKit
def rIv(m z:Nat):Nat:=if z*(z^(m - 2)%m)%m=1 then z^(m - 2)%m else 0
theorem A2c{m:Nat}(hm0:0<m)(hmR:m<2^256)(z:Nat):rIv m z<2^256:=by
 unfold rIv
 split
 ·exact Nat.lt_trans (Nat.mod_lt _ hm0) hmR
 ·omega
open Go.RowKit
namespace Sy
def sRF(m lo:Nat):SV:=let r:Nat->SV:=fun j=>.i .u64 (rfw m lo (2^256*2^256%m) j:Nat)
 .ap (r 0) (.ap (r 1) (.ap (r 2) (.ap (r 3) (.ap (r 4) (.ap (r 5) (.ap (r 6) (.ap (r 7) (.ap (r 8) (.ap (r 9) (.ap (r 10) (.ap (r 11) (.ap (r 12) (.ap (r 13) (.ap (r 14) (.ap (r 15) (.ap (r 16) .e))))))))))))))))
def isR(ext:Bool)(m lo:Nat)(M:Rows):SV->Option (List Ob)
 | .p g o _ z=>if o=0/\z=0 then (if ext=true then (if g=0 then some []else none)else match F4 g M with
  | some (c,T)=>if T=83 then some [.eq c (sRF m lo)]else none
  | none=>none)else none
 | _=>none
structure ROk (ext:Bool) (m lo:Nat) (γ0:Pl) (w0:World):Prop where
 odd:m%2=1
 big:1<m
 lt:m<2^256
 at_:ext=true->RFld w0 (γ0 0) m
 low:ext=false->lo<4294967296/\(lo*qN m 0+1)%4294967296=0
theorem A2d{ext:Bool}{m lo n:Nat}{M:Rows}{x:SV}{p:List Ob}{γ0 γ:Pl}{w0 wx:World}(h:isR ext m lo M x=some p)(hp:All p)(hf:ROk ext m lo γ0 w0)(hγ:∀ k,k<1->γ k=γ0 k)(hw:Below w0.heap.size w0 wx)(hL:Kt γ n M wx):∃ F,x.val γ=.pointer (some ⟨F,0,none⟩)/\RFld wx F m:=by
 cases x <;> first | (cases h;done) | skip
 rename_i g o j z;dsimp only[isR]at h
 split at h
 ·rename_i hz
  obtain⟨rfl,rfl⟩:=hz;refine⟨γ g,by simp[SV.val,SV.sc],?_⟩
  split at h
  ·rename_i he
   split at h
   ·rename_i hg
    rw[hg,hγ 0 (by decide)];exact(hf.at_ he).below hw
   ·cases h
  ·rename_i he
   split at h
   ·rename_i c T hr
    split at h
    ·rename_i hT
     cases h;have hc:c=sRF m lo:=hp _ (.head _);have:=(hL _ (Bu hr)).1;rw[hc,hT]at this;have hl:=hf.low (by simpa using he);exact⟨lo,hl.1,hl.2,this⟩
    ·cases h
   ·cases h
 ·cases h
def Zx(ext:Bool)(m lo:Nat)(f:FuncId)(g:List SV->Option (SV × List Ob)):Con:=⟨f,fun _ M l=>match l with
 | x::us=>match isR ext m lo M x,g us with
  | some p,some (r,q)=>some (r,q++p,[])
  | _,_=>none
 | _=>none⟩
theorem Ra{P:Program}{ext:Bool}{m lo:Nat}{γ0:Pl}{w0:World}{f:FuncId}{g:List SV->Option (SV × List Ob)}(hf:ROk ext m lo γ0 w0)(hc:∀ as_ wx,(callFunc f as_).run P wx=.ok (.enter f as_) wx)
  (h:∀ us r q,g us=some (r,q)->All q->(∀ x∈us,x.ok)->r.ok/\r.lt 0=true/\∀ γ F w,RFld w F m->Calls P f (.pointer (some ⟨F,0,none⟩)::us.map (·.val γ)).toArray w fun e w'=>e=.returned (r.val γ)/\Below w.heap.size w w'):ConOk P 1 γ0 w0 (Zx ext m lo f g) :=
 .of hc fun n M l r p R hr hp hok=>by
  unfold Zx at hr;dsimp only at hr
  split at hr
  ·rename_i x us
   split at hr
   ·rename_i p' r' q hx hq
    cases hr;obtain⟨g1,g2,g3⟩:=h us r q hq (fun a ha=>hp a (List.mem_append_left _ ha)) fun x hx=>hok x (.tail _ hx);refine⟨rfl,g1,g2,?_⟩;intro γ hγ wx hw hL;obtain⟨F,h1,h2⟩:=A2d hx (fun a ha=>hp a (List.mem_append_right _ ha)) hf hγ hw hL;have g4:=g3 γ F wx h2;rw[<- h1]at g4;exact g4
   ·cases hr
  ·cases hr
def Zy(ext:Bool)(m lo:Nat)(f:FuncId)(op:Nat->Nat->Nat):Con:=Zx ext m lo f fun l=>match l with
 | [.w a,.w b]=>some (.w (op a b),[])
 | _=>none
def Wu(ext:Bool)(m lo:Nat)(f:FuncId)(op:Nat->SV × List Ob):Con:=Zx ext m lo f fun l=>match l with
 | [.w a]=>some (op a)
 | _=>none
theorem Mw{P:Program}{ext:Bool}{m lo:Nat}{γ0:Pl}{w0:World}{f:FuncId}{op:Nat->Nat->Nat}(hf:ROk ext m lo γ0 w0)(hc:∀ as_ wx,(callFunc f as_).run P wx=.ok (.enter f as_) wx)(hlt:∀ a b,op a b<2^256)
  (h:∀ F a b,a<2^256->b<2^256->∀ w,RFld w F m->Calls P f #[.pointer (some ⟨F,0,none⟩),.agg (pw a),.agg (pw b)] w fun e w'=>e=.returned (.agg (pw (op a b)))/\Below w.heap.size w w'):ConOk P 1 γ0 w0 (Zy ext m lo f op) :=
 Ra hf hc fun us r q hr hq hok=>by
  split at hr
  ·rename_i a b
   cases hr;exact⟨hlt a b,rfl,fun γ F w hF=>h F a b (hok (.w a) υ) (hok (.w b) υ) w hF⟩
  ·cases hr
theorem Jf{P:Program}{ext:Bool}{m lo:Nat}{γ0:Pl}{w0:World}{f:FuncId}{op:Nat->SV × List Ob}(hf:ROk ext m lo γ0 w0)(hc:∀ as_ wx,(callFunc f as_).run P wx=.ok (.enter f as_) wx)(hlt:∀ a,(op a).1.ok/\(op a).1.lt 0=true)
  (h:∀ F a,a<2^256->All (op a).2->∀ w,RFld w F m->Calls P f #[.pointer (some ⟨F,0,none⟩),.agg (pw a)] w fun e w'=>e=.returned ((op a).1.val fun _=>0)/\Below w.heap.size w w'):ConOk P 1 γ0 w0 (Wu ext m lo f op) :=
 Ra hf hc fun us r q hr hq hok=>by
  split at hr
  ·rename_i a
   have e:op a=(r,q):=Option.some.inj hr;have g1:=hlt a;have g2:=h;rw[e]at g1;refine⟨g1.1,g1.2,fun γ F w hF=>?_⟩;have g4:=h F a (hok (.w a) υ) (by rw[e];exact hq) w hF;rw[e,<- Mj (γ:=γ) g1.2]at g4;exact g4
  ·cases hr
def A3z(ext:Bool)(m lo:Nat):Con:=Zy ext m lo 32 fun a b=>a*b%m
def A3A(ext:Bool)(m lo:Nat):Con:=Zy ext m lo 39 (rA m)
def A3B(ext:Bool)(m lo:Nat):Con:=Zy ext m lo 35 (rS m)
def A3C(ext:Bool)(m lo:Nat):Con:=Wu ext m lo 40 fun a=>(.tu (.w (rIv m a)) (.b (eqN (a*iv m a%m) 1)),[])
def Zz(ext:Bool)(m lo:Nat):Con:=Wu ext m lo 31 fun a=>(.b (ltN a m),[])
def A2e(ext:Bool)(m lo:Nat):Con:=Wu ext m lo 33 fun a=>(.w ((a*a%m*a%m+7)%m),[.ask (a<m/\7<m)])
def refs(ext:Bool)(m lo:Nat):List Con:=[A3z ext m lo,A3A ext m lo,A3B ext m lo,A3C ext m lo,Zz ext m lo,A2e ext m lo]
theorem Rc{ext:Bool}{m lo:Nat}{γ0:Pl}{w0:World}(hf:ROk ext m lo γ0 w0):ED Tryz.prog 1 γ0 w0 (refs ext m lo):=by
 have hm:∀ n,n%m<2^256:=fun n=>Nat.lt_trans (Nat.mod_lt _ (by have:=hf.big;omega)) hf.lt;have h0:0<m:=by have:=hf.big;omega
 refine⟨Mw hf (fun _ _=>by kernel_rfl) (fun _ _=>hm _) fun F a b ha hb w hF=>PV F m a b ha hb hf.lt hf.big hf.odd w hF,Mw hf (fun _ _=>by kernel_rfl) (fun a b=>A3t m a b) fun F a b ha hb w hF=>?_,Mw hf (fun _ _=>by kernel_rfl) (fun a b=>A0F m a b) fun F a b ha hb w hF=>?_,
  Jf hf (fun _ _=>by kernel_rfl) (fun a=>⟨⟨A2c h0 hf.lt a,trivial⟩,rfl⟩) fun F a ha _ w hF=>A29 F m a ha hf.lt hf.big hf.odd w hF,Jf hf (fun _ _=>by kernel_rfl) (fun a=>⟨trivial,rfl⟩) fun F a ha _ w hF=>PZ F m a ha hf.lt h0 w hF,Jf hf (fun _ _=>by kernel_rfl) (fun a=>⟨hm _,rfl⟩) fun F a _ hq w hF=>?_,trivial⟩
 ·obtain⟨lo',_,_,h⟩:=hF
  exact VS F m lo' _ a b ha hb hf.lt w h
 ·obtain⟨lo',_,_,h⟩:=hF
  exact A21 F m lo' _ a b ha hb hf.lt w h
 ·have h7:a<m/\7<m:=hq _ (.head _)
  exact TB F m a h7.1 hf.lt h7.2 hf.odd w hF
abbrev loK:Nat:=3525653809
theorem rK(w:World):ROk false mK loK (fun _=>0) w:=⟨by decide,by decide,by decide,fun h=>(by cases h),fun _=>⟨by decide,ω⟩⟩
theorem A2f{lo q:Nat}(hq:q=4294966319)(h1:lo<4294967296)(h2:(lo*q+1)%4294967296=0):lo=3525653809:=by
 subst hq;have e:(lo*4294966319+1)*3525653809+lo=4294967296*(3525653007*lo)+3525653809:=by omega
 have hY:lo*4294966319+1=4294967296*((lo*4294966319+1) / 4294967296):=by have:=Nat.div_add_mod (lo*4294966319+1) 4294967296;rw[h2,Nat.add_zero]at this;exact this.symm
 rw[hY,Nat.mul_assoc]at e;generalize (lo*4294966319+1) / 4294967296*3525653809=P at e;generalize 3525653007*lo=Q at e;clear h2 hY;omega
theorem A3D{lo:Nat}(h1:lo<4294967296)(h2:(lo*qN mK 0+1)%4294967296=0):lo=loK:=A2f ω h1 h2
def cF:Con:=⟨30,fun n _ l=>match l with
 | []=>some (.p n 0 0 0,[],[(n,sRF mK loK,83)])
 | _=>none⟩
theorem A0K{γ0:Pl}{w0:World}:ConOk Tryz.prog 1 γ0 w0 cF:=⟨fun _ _=>by kernel_rfl,fun n M l r p R hr hp hn hok _=>by
 simp only[cF]at hr
 split at hr
 ·cases hr
  refine⟨trivial,decide_eq_true (Nat.lt_succ_self _),fun q hq=>?_,fun γ hγ wx hw hL=>?_⟩
  ·simp only[List.mem_cons,List.not_mem_nil,or_false]at hq
   subst hq;exact⟨⟨trivial,trivial,trivial,trivial,trivial,trivial,trivial,trivial,trivial,trivial,trivial,trivial,trivial,trivial,trivial,trivial,trivial,trivial⟩,rfl,Nat.le_refl _,Nat.lt_succ_self _⟩
  ·refine(A27 wx).mono fun e w' ⟨F,h1,⟨lo,l1,l2,h2⟩,h3,h4⟩=>?_
   have hlo:=A3D l1 l2;subst hlo;obtain⟨δ,hδ⟩:∃ δ:Pl,∀ k,δ k=if k=n then F else γ k:=⟨_,fun _=>rfl⟩
   refine⟨⟨δ,fun k hk=>by rw[hδ,if_neg τ],?_,fun q hq=>?_,List.pairwise_singleton _ _⟩,h4⟩
   ·rw[h1]
    show _=Ending.returned (.pointer (some ⟨δ n,0+0*0,none⟩));rw[hδ,if_pos rfl]
   ·simp only[List.mem_cons,List.not_mem_nil,or_false]at hq
    subst hq;refine⟨by rw[hδ,if_pos rfl];exact h3,?_⟩;show w'.heap[δ n]?=_;rw[hδ,if_pos rfl];exact h2
 ·cases hr⟩
end Sy
open Sy
theorem TC(w:World):Calls Tryz.prog 19 #[] w fun r w'=>r=.returned (.agg (pc 0 0 true))/\Below w.heap.size w w' :=
 AJ (El (more:=[]) (γ0:=fun _=>0) trivial) ω (fun _=>0) Tryz.func19 ω [] trivial ω ω (.leaf (sPk 0 0 true)) ω rfl
namespace Sy
def Q0:Con:=Hl 19 fun l=>match l with
 | []=>some (sPk 0 0 true,[])
 | _=>none
theorem L8{base:Nat}{γ0:Pl}{w0:World}:ConOk Tryz.prog base γ0 w0 Q0:=Ca (fun _ _=>by kernel_rfl) fun us r q h hq hok=>by
 split at h
 ·cases h
  exact⟨⟨AV,AV,trivial,trivial⟩,rfl,fun γ w=>TC w⟩
 ·cases h
noncomputable def ER:Env:=E1 (cF::Q0::refs false mK loK)
theorem A0L{w:World}:ER.Good (fun _=>0) w:=El ⟨A0K,L8,Rc (rK w)⟩
end Sy
theorem Wv(x y:Nat)(n:Bool)(hx:x<2^256)(hy:y<2^256)(w:World):Calls Tryz.prog 14 #[.agg (pc x y n)] w fun r w'=>r=.returned (.agg (if n=true then pc 0 0 true else pc x (rS mK 0 y) false))/\Below w.heap.size w w':=by
 refine AJ A0L ω (fun _=>0) Tryz.func14 ω [sP x y n] ⟨⟨⟨hx,hy,trivial,trivial⟩,rfl⟩,trivial⟩ ω ω
  (.br n (.leaf (sPk 0 0 true)) (.leaf (sPk x (rS mK 0 y) false))) ω ⟨fun h=>?_,fun h=>?_⟩
 ·subst h;rfl
 ·subst h;rfl
theorem ZA(x y:Nat)(n:Bool)(hx:x<2^256)(hy:y<2^256)(w:World):Calls Tryz.prog 8 #[.agg (pc x y n)] w fun r w'=>r=.returned (.bool (onB mK (x,y,n)))/\Below w.heap.size w w':=by
 let b:=bif ltN x mK then ltN y mK else false
 refine AJ A0L ω (fun _=>0) Tryz.func8 ω [sP x y n] ⟨⟨⟨hx,hy,trivial,trivial⟩,rfl⟩,trivial⟩ ω ω
  (.need ((!n&&b)=true->x<mK/\7<mK) (.leaf (.b (bif n then true else bif b then eqN (y*y%mK) ((x*x%mK*x%mK+7)%mK)else false)))) ω ⟨fun h=>?_,?_⟩
 ·refine⟨?_,by decide⟩
  cases hl:ltN x mK with
  | true=>exact of_decide_eq_true hl
  | false =>
   have h:(!n&&(bif ltN x mK then ltN y mK else false))=true:=h;rw[hl]at h;cases n <;> cases h
 ·show Value.bool (bif n then true else bif (bif ltN x mK then ltN y mK else false)then eqN (y*y%mK) ((x*x%mK*x%mK+7)%mK)else false)=.bool (n||_)
  congr 1;cases n with
  | true=>rfl
  | false =>
   rw[Bool.eq_iff_iff];simp[ltN,eqN,and_assoc]
structure CRing (K:Type) where
 add:K->K->K
 mul:K->K->K
 neg:K->K
 zero:K
 one:K
 add_assoc:∀ a b c,add (add a b) c=add a (add b c)
 add_comm:∀ a b,add a b=add b a
 add_zero:∀ a,add a zero=a
 add_neg:∀ a,add a (neg a)=zero
 mul_assoc:∀ a b c,mul (mul a b) c=mul a (mul b c)
 mul_comm:∀ a b,mul a b=mul b a
 mul_one:∀ a,mul a one=a
 mul_add:∀ a b c,mul a (add b c)=add (mul a b) (mul a c)
structure Ops (R:Type) where
 add:R->R->R
 mul:R->R->R
 sub:R->R->R
namespace CRing
variable {K:Type} (C:CRing K)
def sub(a b:K):K:=C.add a (C.neg b)
def ops:Ops K:=⟨C.add,C.mul,C.sub⟩
theorem zero_add(a:K):C.add C.zero a=a:=by rw[C.add_comm,C.add_zero]
theorem one_mul(a:K):C.mul C.one a=a:=by rw[C.mul_comm,C.mul_one]
theorem add_mul(a b c:K):C.mul (C.add a b) c=C.add (C.mul a c) (C.mul b c):=by rw[C.mul_comm,C.mul_add,C.mul_comm c a,C.mul_comm c b]
theorem add_left(a b c:K):C.add a (C.add b c)=C.add b (C.add a c):=by rw[<- C.add_assoc,C.add_comm a b,C.add_assoc]
theorem add_cancel{a b c:K}(h:C.add a c=C.add b c):a=b:=by
 have h2:=congrArg (fun x=>C.add x (C.neg c)) h;simp only[C.add_assoc,C.add_neg,C.add_zero]at h2;exact h2
theorem mul_zero(a:K):C.mul a C.zero=C.zero:=by
 apply C.add_cancel (c:=C.mul a C.zero);rw[<- C.mul_add,C.add_zero,C.zero_add]
theorem zero_mul(a:K):C.mul C.zero a=C.zero:=by rw[C.mul_comm,C.mul_zero]
theorem swap4(a b c d:K):C.add (C.add a b) (C.add c d)=C.add (C.add a c) (C.add b d):=by
 rw[C.add_assoc,C.add_assoc,C.add_left b c d]
theorem sub_self(a:K):C.sub a a=C.zero:=C.add_neg a
theorem sub_add(a b:K):C.add (C.sub a b) b=a:=by
 unfold sub;rw[C.add_assoc,C.add_comm (C.neg b) b,C.add_neg,C.add_zero]
theorem eq_of_sub{a b:K}(h:C.sub a b=C.zero):a=b:=by rw[<- C.sub_add a b,h,C.zero_add]
theorem neg_zero:C.neg C.zero=C.zero:=by
 have h:=C.add_neg C.zero;rwa [C.zero_add]at h
theorem sub_zero(a:K):C.sub a C.zero=a:=by unfold sub;rw[C.neg_zero,C.add_zero]
theorem mul_neg(a b:K):C.mul a (C.neg b)=C.neg (C.mul a b):=by
 apply C.add_cancel (c:=C.mul a b);rw[<- C.mul_add,C.add_comm (C.neg b) b,C.add_neg,C.mul_zero,C.add_comm,C.add_neg]
theorem mul_sub(a b c:K):C.mul a (C.sub b c)=C.sub (C.mul a b) (C.mul a c):=by unfold sub;rw[C.mul_add,C.mul_neg]
def nat:Nat->K
 | 0=>C.zero
 | n+1=>C.add (nat n) C.one
def pow(a:K):Nat->K
 | 0=>C.one
 | n+1=>C.mul (pow a n) a
theorem pow_add(a:K)(m:Nat):∀ n,C.pow a (m+n)=C.mul (C.pow a m) (C.pow a n)
 | 0=>(C.mul_one _).symm
 | n+1=>by rw[<- Nat.add_assoc,pow,pow,pow_add a m n,C.mul_assoc]
theorem mul4(a b c d:K):C.mul (C.mul a b) (C.mul c d)=C.mul (C.mul a c) (C.mul b d):=by
 rw[C.mul_assoc,C.mul_assoc,<- C.mul_assoc b c d,C.mul_comm b c,C.mul_assoc c b d]
end CRing
abbrev Mn:=Nat × Nat × Nat × Nat
def Mn.mul(m n:Mn):Mn:=(m.1+n.1,m.2.1+n.2.1,m.2.2.1+n.2.2.1,m.2.2.2+n.2.2.2)
def Mn.var:Nat->Mn
 | 0=>(1,0,0,0)
 | 1=>(0,1,0,0)
 | 2=>(0,0,1,0)
 | _=>(0,0,0,1)
inductive Ex
 | v (i:Nat)
 | k (n:Nat)
 | add (a b:Ex)
 | mul (a b:Ex)
 | sub (a b:Ex)
def Ex.ops:Ops Ex:=⟨.add,.mul,.sub⟩
def Kb(p q:List Mn):List Mn:=p.flatMap fun m=>q.map (Mn.mul m)
def Q3(a b:Mn):Mn:=(max a.1 b.1,max a.2.1 b.2.1,max a.2.2.1 b.2.2.1,max a.2.2.2 b.2.2.2)
def IU(p q:Nat × Mn):Nat × Mn:=if p.1=0 then q else if q.1=0 then p else (p.1+q.1,Q3 p.2 q.2)
def L9(p q:Nat × Mn):Nat × Mn:=if p.1=0 then p else if q.1=0 then q else (p.1*q.1,p.2.mul q.2)
namespace Ex
def pm:Ex->List Mn × List Mn
 | .v i=>([Mn.var i],[])
 | .k n=>(List.replicate n (0,0,0,0),[])
 | .add a b=>(a.pm.1++b.pm.1,a.pm.2++b.pm.2)
 | .sub a b=>(a.pm.1++b.pm.2,a.pm.2++b.pm.1)
 | .mul a b=>(Kb a.pm.1 b.pm.1++Kb a.pm.2 b.pm.2,Kb a.pm.1 b.pm.2++Kb a.pm.2 b.pm.1)
def norm:Ex->Nat
 | .v _=>1
 | .k n=>n
 | .add a b=>a.norm+b.norm
 | .sub a b=>a.norm+b.norm
 | .mul a b=>a.norm*b.norm
def nd:Ex->Nat × Mn
 | .v i=>(1,Mn.var i)
 | .k n=>(n,(0,0,0,0))
 | .add a b=>IU a.nd b.nd
 | .sub a b=>IU a.nd b.nd
 | .mul a b=>L9 a.nd b.nd
section
variable {K:Type} (C:CRing K) (r:Nat->K)
def eval:Ex->K
 | .v 0=>r 0
 | .v 1=>r 1
 | .v 2=>r 2
 | .v _=>r 3
 | .k n=>C.nat n
 | .add a b=>C.add a.eval b.eval
 | .sub a b=>C.sub a.eval b.eval
 | .mul a b=>C.mul a.eval b.eval
end
end Ex
section
variable {K:Type} (C:CRing K) (r:Nat->K)
def Mn.val(m:Mn):K:=C.mul (C.mul (C.pow (r 0) m.1) (C.pow (r 1) m.2.1)) (C.mul (C.pow (r 2) m.2.2.1) (C.pow (r 3) m.2.2.2))
def BX:List Mn->K
 | []=>C.zero
 | m::l=>C.add (m.val C r) (BX l)
theorem ZB(m n:Mn):(m.mul n).val C r=C.mul (m.val C r) (n.val C r):=by
 unfold Mn.val Mn.mul;simp only[C.pow_add];rw[C.mul4 (C.pow (r 0) m.1),C.mul4 (C.pow (r 2) m.2.2.1),C.mul4 (C.mul (C.pow (r 0) m.1) (C.pow (r 1) m.2.1))]
theorem BZ(p q:List Mn):BX C r (p++q)=C.add (BX C r p) (BX C r q):=by
 induction p with
 | nil=>exact(C.zero_add _).symm
 | cons m p ih=>rw[List.cons_append,BX,BX,ih,C.add_assoc]
theorem Ww(m:Mn)(q:List Mn):BX C r (q.map (Mn.mul m))=C.mul (m.val C r) (BX C r q):=by
 induction q with
 | nil=>exact(C.mul_zero _).symm
 | cons n q ih=>rw[List.map_cons,BX,BX,ih,ZB,C.mul_add]
theorem Ht(p q:List Mn):BX C r (Kb p q)=C.mul (BX C r p) (BX C r q):=by
 induction p with
 | nil=>exact(C.zero_mul _).symm
 | cons m p ih =>
  show BX C r (q.map (Mn.mul m)++Kb p q)=_;rw[BZ,Ww,ih,BX,C.add_mul]
theorem TD{p q:List Mn}(h:p.Perm q):BX C r p=BX C r q:=by
 induction h with
 | nil=>rfl
 | cons m _ ih=>rw[BX,BX,ih]
 | swap m n l=>rw[BX,BX,BX,BX,C.add_left]
 | trans _ _ h1 h2=>rw[h1,h2]
theorem Wx:Mn.val C r (0,0,0,0)=C.one:=by
 unfold Mn.val CRing.pow;rw[C.mul_one,C.mul_one]
theorem ZC(n:Nat):BX C r (List.replicate n (0,0,0,0))=C.nat n:=by
 induction n with
 | zero=>rfl
 | succ n ih=>rw[List.replicate_succ,BX,ih,Wx,CRing.nat,C.add_comm]
theorem ZE(i:Nat):BX C r [Mn.var i]=(Ex.v i).eval C r:=by
 rw[BX,BX,C.add_zero]
 match i with
 | 0=>unfold Mn.val Mn.var Ex.eval;simp only[CRing.pow,C.mul_one,C.one_mul]
 | 1=>unfold Mn.val Mn.var Ex.eval;simp only[CRing.pow,C.mul_one,C.one_mul]
 | 2=>unfold Mn.val Mn.var Ex.eval;simp only[CRing.pow,C.mul_one,C.one_mul]
 | _+3=>unfold Mn.val Mn.var Ex.eval;simp only[CRing.pow,C.mul_one,C.one_mul]
theorem Mx(e:Ex):C.add (e.eval C r) (BX C r e.pm.2)=BX C r e.pm.1:=by
 induction e with
 | v i=>rw[Ex.pm,ZE];exact C.add_zero _
 | k n=>rw[Ex.pm,ZC];exact C.add_zero _
 | add a b iha ihb=>rw[Ex.pm,Ex.eval,BZ,BZ,C.swap4,iha,ihb]
 | sub a b iha ihb =>
  rw[Ex.pm,Ex.eval,BZ,BZ];rw[<- iha,<- ihb,<- C.add_assoc,<- C.add_assoc];congr 1;rw[C.add_assoc,C.add_comm (BX C r a.pm.2) (b.eval C r),<- C.add_assoc,C.sub_add]
 | mul a b iha ihb =>
  rw[Ex.pm,Ex.eval,BZ,BZ,Ht,Ht,Ht,Ht];rw[<- iha,<- ihb];generalize a.eval C r=x;generalize b.eval C r=y;generalize BX C r a.pm.2=s;generalize BX C r b.pm.2=t;simp only[C.mul_add,C.add_mul,C.add_assoc];congr 1;rw[C.add_comm (C.mul s t) (C.add (C.mul s y) (C.mul s t)),C.add_assoc,C.add_left]
end
def Hu(B:Nat):List Nat->Nat
 | []=>0
 | c::l=>B^c+Hu B l
theorem CV(B:Nat)(l:List Nat):Hu B l=l.count 0+B*Hu B ((l.filter (·≠0)).map Nat.pred):=by
 induction l with
 | nil=>rfl
 | cons c l ih =>
  cases c with
  | zero =>
   rw[Hu,ih,List.count_cons_self,List.filter_cons_of_neg υ];simp only[Nat.pow_zero];omega
  | succ c =>
   rw[Hu,ih,List.count_cons_of_ne υ,List.filter_cons_of_pos υ,List.map_cons,Hu,Nat.pow_succ,Nat.pred_succ,Nat.mul_add,Nat.mul_comm (B^c) B];omega
theorem Kc(l:List Nat)(c:Nat):l.count (c+1)=((l.filter (·≠0)).map Nat.pred).count c:=by
 induction l with
 | nil=>rfl
 | cons d l ih =>
  cases d with
  | zero=>rw[List.count_cons_of_ne υ,List.filter_cons_of_neg υ,ih]
  | succ d =>
   rw[List.filter_cons_of_pos υ,List.map_cons,Nat.pred_succ];by_cases e:d=c
   ·subst e
    rw[List.count_cons_self,List.count_cons_self,ih]
   ·rw[List.count_cons_of_ne τ,List.count_cons_of_ne τ,ih]
theorem Wy(l:List Nat):((l.filter (·≠0)).map Nat.pred).length<=l.length:=by
 rw[List.length_map];exact List.length_filter_le _ _
theorem Wz{B:Nat}:∀(c:Nat) (p q:List Nat),p.length<B->q.length<B->Hu B p=Hu B q->p.count c=q.count c:=by
 intro c
 induction c with
 | zero =>
  intro p q hp hq h;rw[CV B p,CV B q]at h;have h1:=congrArg (·%B) h;simp only[Nat.add_mul_mod_self_left]at h1;rwa [Nat.mod_eq_of_lt (Nat.lt_of_le_of_lt List.count_le_length hp),Nat.mod_eq_of_lt (Nat.lt_of_le_of_lt List.count_le_length hq)]at h1
 | succ c ih =>
  intro p q hp hq h;have h0:p.count 0=q.count 0:=by
   have h2:=h;rw[CV B p,CV B q]at h2;have h1:=congrArg (·%B) h2;simp only[Nat.add_mul_mod_self_left]at h1;rwa [Nat.mod_eq_of_lt (Nat.lt_of_le_of_lt List.count_le_length hp),Nat.mod_eq_of_lt (Nat.lt_of_le_of_lt List.count_le_length hq)]at h1
  rw[Kc,Kc];refine ih _ _ (Nat.lt_of_le_of_lt (Wy p) hp) (Nat.lt_of_le_of_lt (Wy q) hq) ?_;rw[CV B p,CV B q,h0]at h;exact Nat.eq_of_mul_eq_mul_left τ (Nat.add_left_cancel h)
def Mn.code(d:Mn)(m:Mn):Nat:=m.1+(d.1+1)*(m.2.1+(d.2.1+1)*(m.2.2.1+(d.2.2.1+1)*m.2.2.2))
def Mn.back(d:Mn)(c:Nat):Mn:=(c%(d.1+1),c / (d.1+1)%(d.2.1+1),c / (d.1+1) / (d.2.1+1)%(d.2.2.1+1),c / (d.1+1) / (d.2.1+1) / (d.2.2.1+1))
def Mn.le(m d:Mn):Prop:=m.1<=d.1/\m.2.1<=d.2.1/\m.2.2.1<=d.2.2.1/\m.2.2.2<=d.2.2.2
theorem TE{m d:Mn}(h:m.le d):Mn.back d (Mn.code d m)=m:=by
 obtain⟨h1,h2,h3,-⟩:=h;have dm:∀ a n q:Nat,a<=n->(a+(n+1)*q)%(n+1)=a/\(a+(n+1)*q) / (n+1)=q:=fun a n q ha=>⟨by rw[Nat.add_mul_mod_self_left,Nat.mod_eq_of_lt τ],by rw[Nat.add_mul_div_left _ _ τ,Nat.div_eq_of_lt τ,Nat.zero_add]⟩
 unfold Mn.back Mn.code;rw[(dm _ _ _ h1).1,(dm _ _ _ h1).2,(dm _ _ _ h2).1,(dm _ _ _ h2).2,(dm _ _ _ h3).1,(dm _ _ _ h3).2]
theorem Kv{B:Nat}{d:Mn}{p q:List Mn}(hp:∀ m∈p,m.le d)(hq:∀ m∈q,m.le d)(lp:p.length<B)(lq:q.length<B)(h:Hu B (p.map (Mn.code d))=Hu B (q.map (Mn.code d))):p.Perm q:=by
 have hc:(p.map (Mn.code d)).Perm (q.map (Mn.code d)):=List.perm_iff_count.2 fun c=>Wz c _ _ (by rw[List.length_map];exact lp) (by rw[List.length_map];exact lq) h;have h2:=hc.map (Mn.back d);have key:∀ l:List Mn,(∀ m∈l,m.le d)->(l.map (Mn.code d)).map (Mn.back d)=l:=fun l hl=>by
  rw[List.map_map]
  conv=>rhs;rw[<- List.map_id l]
  exact List.map_congr_left fun m hm=>TE (hl m hm)
 rwa [key p hp,key q hq]at h2
theorem WA{p q:List Mn}{m:Mn}(h:m∈Kb p q):∃ x∈p,∃ y∈q,m=x.mul y:=by
 unfold Kb at h;rw[List.mem_flatMap]at h;obtain⟨x,hx,h⟩:=h;rw[List.mem_map]at h;obtain⟨y,hy,h⟩:=h;exact⟨x,hx,y,hy,h.symm⟩
theorem WB(p q:List Mn):(Kb p q).length=p.length*q.length:=by
 unfold Kb
 induction p with
 | nil=>simp
 | cons m p ih=>rw[List.flatMap_cons,List.length_append,ih,List.length_map,List.length_cons,Nat.succ_mul,Nat.add_comm]
theorem A2g{x y d e:Mn}(h1:x.le d)(h2:y.le e):(x.mul y).le (d.mul e):=⟨Nat.add_le_add h1.1 h2.1,Nat.add_le_add h1.2.1 h2.2.1,Nat.add_le_add h1.2.2.1 h2.2.2.1,Nat.add_le_add h1.2.2.2 h2.2.2.2⟩
theorem WC(e:Ex):e.pm.1.length+e.pm.2.length=e.norm:=by
 induction e with
 | v i=>rfl
 | k n=>simp[Ex.pm,Ex.norm]
 | add a b iha ihb=>simp only[Ex.pm,Ex.norm,List.length_append];omega
 | sub a b iha ihb=>simp only[Ex.pm,Ex.norm,List.length_append];omega
 | mul a b iha ihb =>
  simp only[Ex.pm,Ex.norm,List.length_append,WB];rw[<- iha,<- ihb,Nat.add_mul,Nat.mul_add,Nat.mul_add];omega
theorem WE(p q:Nat × Mn):(IU p q).1=p.1+q.1:=by
 unfold IU;by_cases h:p.1=0
 ·rw[if_pos h,h,Nat.zero_add]
 ·rw[if_neg h]
  by_cases h2:q.1=0
  ·rw[if_pos h2,h2,Nat.add_zero]
  ·rw[if_neg h2]
theorem A2h(p q:Nat × Mn):(L9 p q).1=p.1*q.1:=by
 unfold L9;by_cases h:p.1=0
 ·rw[if_pos h,h,Nat.zero_mul]
 ·rw[if_neg h]
  by_cases h2:q.1=0
  ·rw[if_pos h2,h2,Nat.mul_zero]
  ·rw[if_neg h2]
theorem Re(e:Ex):e.nd.1=e.norm:=by
 induction e with
 | v i=>rfl
 | k n=>rfl
 | add a b iha ihb=>rw[Ex.nd,WE,iha,ihb];rfl
 | sub a b iha ihb=>rw[Ex.nd,WE,iha,ihb];rfl
 | mul a b iha ihb=>rw[Ex.nd,A2h,iha,ihb];rfl
theorem Df{e:Ex}(h:e.nd.1=0):e.pm.1=[]/\e.pm.2=[]:=by
 have h1:=WC e;rw[<- Re,h]at h1;exact⟨List.length_eq_zero_iff.1 τ,List.length_eq_zero_iff.1 τ⟩
theorem Rf{a b m:Mn}(h:m.le a):m.le (Q3 a b):=⟨Nat.le_trans h.1 (Nat.le_max_left _ _),Nat.le_trans h.2.1 (Nat.le_max_left _ _),Nat.le_trans h.2.2.1 (Nat.le_max_left _ _),Nat.le_trans h.2.2.2 (Nat.le_max_left _ _)⟩
theorem O8{a b m:Mn}(h:m.le b):m.le (Q3 a b):=⟨Nat.le_trans h.1 (Nat.le_max_right _ _),Nat.le_trans h.2.1 (Nat.le_max_right _ _),Nat.le_trans h.2.2.1 (Nat.le_max_right _ _),Nat.le_trans h.2.2.2 (Nat.le_max_right _ _)⟩
theorem Rh{a b:Ex}{m:Mn}(ha:(∀ m∈a.pm.1,m.le a.nd.2)/\∀ m∈a.pm.2,m.le a.nd.2)(hb:(∀ m∈b.pm.1,m.le b.nd.2)/\∀ m∈b.pm.2,m.le b.nd.2)(h:(m∈a.pm.1\/m∈a.pm.2)\/(m∈b.pm.1\/m∈b.pm.2)):m.le (IU a.nd b.nd).2:=by
 unfold IU;by_cases h1:a.nd.1=0
 ·rw[if_pos h1]
  rw[(Df h1).1,(Df h1).2]at h;rcases h with(h | h) | h | h
  ·cases h
  ·cases h
  ·exact hb.1 m h
  ·exact hb.2 m h
 ·rw[if_neg h1]
  by_cases h2:b.nd.1=0
  ·rw[if_pos h2]
   rw[(Df h2).1,(Df h2).2]at h;rcases h with(h | h) | h | h
   ·exact ha.1 m h
   ·exact ha.2 m h
   ·cases h
   ·cases h
  ·rw[if_neg h2]
   rcases h with(h | h) | h | h
   ·exact Rf (ha.1 m h)
   ·exact Rf (ha.2 m h)
   ·exact O8 (hb.1 m h)
   ·exact O8 (hb.2 m h)
theorem WF(e:Ex):(∀ m∈e.pm.1,m.le e.nd.2)/\∀ m∈e.pm.2,m.le e.nd.2:=by
 induction e with
 | v i =>
  refine⟨fun m hm=>?_,fun m hm=>by cases hm⟩;have:m=Mn.var i:=by simpa[Ex.pm]using hm
  subst this;exact⟨Nat.le_refl _,Nat.le_refl _,Nat.le_refl _,Nat.le_refl _⟩
 | k n =>
  refine⟨fun m hm=>?_,fun m hm=>by cases hm⟩;have:m=(0,0,0,0):=List.eq_of_mem_replicate hm;subst this;exact⟨Nat.le_refl _,Nat.le_refl _,Nat.le_refl _,Nat.le_refl _⟩
 | add a b iha ihb =>
  exact⟨fun m hm=>Rh iha ihb ((List.mem_append.1 hm).imp .inl .inl),fun m hm=>Rh iha ihb ((List.mem_append.1 hm).imp .inr .inr)⟩
 | sub a b iha ihb =>
  exact⟨fun m hm=>Rh iha ihb ((List.mem_append.1 hm).imp .inl .inr),fun m hm=>Rh iha ihb ((List.mem_append.1 hm).imp .inr .inl)⟩
 | mul a b iha ihb =>
  have M:∀ {p q:List Mn} {m:Mn},(p=a.pm.1\/p=a.pm.2)->(q=b.pm.1\/q=b.pm.2)->m∈Kb p q->m.le (Ex.mul a b).nd.2:=fun {p q m} hp hq h=>by
   obtain⟨x,hx,y,hy,rfl⟩:=WA h;have n1:¬a.nd.1=0:=fun e=>by
    rcases hp with rfl | rfl
    ·rw[(Df e).1]at hx;cases hx
    ·rw[(Df e).2]at hx;cases hx
   have n2:¬b.nd.1=0:=fun e=>by
    rcases hq with rfl | rfl
    ·rw[(Df e).1]at hy;cases hy
    ·rw[(Df e).2]at hy;cases hy
   show(x.mul y).le (L9 a.nd b.nd).2;unfold L9;rw[if_neg n1,if_neg n2];refine A2g ?_ ?_
   ·rcases hp with rfl | rfl
    ·exact iha.1 x hx
    ·exact iha.2 x hx
   ·rcases hq with rfl | rfl
    ·exact ihb.1 y hy
    ·exact ihb.2 y hy
  exact⟨fun m hm=>(List.mem_append.1 hm).elim (M (.inl rfl) (.inl rfl)) (M (.inr rfl) (.inr rfl)),fun m hm=>(List.mem_append.1 hm).elim (M (.inl rfl) (.inr rfl)) (M (.inr rfl) (.inl rfl))⟩
def intRing:CRing Int:=⟨(·+·),(·*·),(- ·),0,1,Int.add_assoc,Int.add_comm,Int.add_zero,Int.add_right_neg,Int.mul_assoc,Int.mul_comm,Int.mul_one,Int.mul_add⟩
theorem Jg(a n:Nat):intRing.pow (a:Int) n=((a^n:Nat):Int):=by
 induction n with
 | zero=>rfl
 | succ n ih=>rw[CRing.pow,ih,Nat.pow_succ,Int.natCast_mul];rfl
def kp(B:Nat)(d:Mn):Nat->Int
 | 0=>(B:Nat)
 | 1=>((B^(d.1+1):Nat):Int)
 | 2=>((B^((d.1+1)*(d.2.1+1)):Nat):Int)
 | _=>((B^((d.1+1)*((d.2.1+1)*(d.2.2.1+1))):Nat):Int)
theorem A2i(B:Nat)(d m:Mn):m.val intRing (kp B d)=((B^Mn.code d m:Nat):Int):=by
 show intRing.mul (intRing.mul (intRing.pow ((B:Nat):Int) m.1) (intRing.pow ((B^(d.1+1):Nat):Int) m.2.1)) (intRing.mul (intRing.pow ((B^((d.1+1)*(d.2.1+1)):Nat):Int) m.2.2.1) (intRing.pow ((B^((d.1+1)*((d.2.1+1)*(d.2.2.1+1))):Nat):Int) m.2.2.2))=_;rw[Jg,Jg,Jg,Jg];show((_:Nat):Int)*((_:Nat):Int)*(((_:Nat):Int)*((_:Nat):Int))=_;rw[<- Int.natCast_mul,<- Int.natCast_mul,<- Int.natCast_mul,<- Nat.pow_mul,<- Nat.pow_mul,<- Nat.pow_mul,<- Nat.pow_add,<- Nat.pow_add,<- Nat.pow_add];congr 2;unfold Mn.code;generalize d.1+1=x;generalize d.2.1+1=y;generalize d.2.2.1+1=z;simp only[Nat.mul_add,Nat.mul_assoc,Nat.add_assoc]
theorem WG(B:Nat)(d:Mn)(l:List Mn):BX intRing (kp B d) l=((Hu B (l.map (Mn.code d)):Nat):Int):=by
 induction l with
 | nil=>rfl
 | cons m l ih=>rw[BX,ih,A2i,List.map_cons,Hu,Int.natCast_add];rfl
theorem A44{K:Type}(C:CRing K)(r:Nat->K)(B:Nat)(d:Mn)(e:Ex)(hd:e.nd.2.le d)(hn:e.nd.1<B)(h0:e.eval intRing (kp B d)=0):e.eval C r=C.zero:=by
 have h1:=Mx intRing (kp B d) e;rw[h0,WG,WG]at h1;have h2:Hu B (e.pm.1.map (Mn.code d))=Hu B (e.pm.2.map (Mn.code d)):=by
  have h3:(0:Int)+_=_:=h1;rw[Int.zero_add]at h3;exact(Int.ofNat.inj h3).symm
 have hl:=WC e;rw[<- Re]at hl;have tr:∀ {m:Mn},m.le e.nd.2->m.le d:=fun h=>⟨Nat.le_trans h.1 hd.1,Nat.le_trans h.2.1 hd.2.1,Nat.le_trans h.2.2.1 hd.2.2.1,Nat.le_trans h.2.2.2 hd.2.2.2⟩
 have hp:=Kv (fun m hm=>tr ((WF e).1 m hm)) (fun m hm=>tr ((WF e).2 m hm)) τ τ h2;have h4:=Mx C r e;rw[TD C r hp]at h4;exact C.add_cancel (h4.trans (C.zero_add _).symm)
end Go.Proofs.YtphafjbajlcbnaaGreat
