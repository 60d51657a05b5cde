/- Two numbers: what the document's operations are of numbers below p; no number has the square -1; inverses. (Cut to what is reached, written closely: TwQ · TwL · TwI · EcJac · EcVal · TwNt.) -/
import Derived.Test.YtpipdfgfoocifaaGreatT31
import Derived.Test.YtpipdfgfoocifaaGreatT37
import Derived.Test.YtpipdfgfoocifaaGreatT38
import Derived.Test.YtpipdfgfoocifaaGreatT33
import Derived.Test.YtpipdfgfoocifaaGreatT36
import Derived.Test.YtpipdfgfoocifaaGreatT29
set_option linter.all false
set_option maxRecDepth 100000
set_option maxHeartbeats 8000000
namespace Go.Proofs.YtpipdfgfoocifaaGreat
open Go.RowKit
namespace Sy
def sRF(m lo:Nat):SV:=let r:Nat->SV:=fun j=>.i .u64 (rfw m lo (2^256*2^256%m) j:Nat)
 .ap (r 0) (.ap (r 1) (.ap (r 2) (.ap (r 3) (.ap (r 4) (.ap (r 5) (.ap (r 6) (.ap (r 7) (.ap (r 8) (.ap (r 9) (.ap (r 10) (.ap (r 11) (.ap (r 12) (.ap (r 13) (.ap (r 14) (.ap (r 15) (.ap (r 16) .e))))))))))))))))
def isR(ext:Bool)(m lo:Nat)(M:Rows):SV->Option (List Ob)
 | .p g o _ z=>if o=0/\z=0 then (if ext=true then (if g=0 then some []else none)else match rowIn g M with
  | some (c,T)=>if T=72 then some [.eq c (sRF m lo)]else none
  | none=>none)else none
 | _=>none
structure ROk (ext:Bool) (m lo:Nat) (γ0:Pl) (w0:World):Prop where
 odd:m%2=1
 big:1<m
 lt:m<2^256
 at_:ext=true->RFld w0 (γ0 0) m
 low:ext=false->lo<4294967296/\(lo*qN m 0+1)%4294967296=0
theorem isR_at{ext:Bool}{m lo n:Nat}{M:Rows}{x:SV}{p:List Ob}{γ0 γ:Pl}{w0 wx:World}(h:isR ext m lo M x=some p)(hp:All p)(hf:ROk ext m lo γ0 w0)(hγ:∀ k,k<1->γ k=γ0 k)(hw:Below w0.heap.size w0 wx)(hL:Lies γ n M wx):∃ F,x.val γ=.pointer (some ⟨F,0,none⟩)/\RFld wx F m:=by
 cases x <;> first | (cases h;done) | skip
 rename_i g o j z;dsimp only[isR]at h
 split at h
 ·rename_i hz
  obtain⟨rfl,rfl⟩:=hz;refine⟨γ g,by simp[SV.val,SV.sc],?_⟩
  split at h
  ·rename_i he
   split at h
   ·rename_i hg
    rw[hg,hγ 0 (by decide)];exact(hf.at_ he).below hw
   ·cases h
  ·rename_i he
   split at h
   ·rename_i c T hr
    split at h
    ·rename_i hT
     cases h;have hc:c=sRF m lo:=hp _ (.head _);have:=(hL _ (rowIn_ok hr)).1;rw[hc,hT]at this;have hl:=hf.low (by simpa using he);exact⟨lo,hl.1,hl.2,this⟩
    ·cases h
   ·cases h
 ·cases h
def conR(ext:Bool)(m lo:Nat)(f:FuncId)(g:List SV->Option (SV × List Ob)):Con:=⟨f,fun _ M l=>match l with
 | x::us=>match isR ext m lo M x,g us with
  | some p,some (r,q)=>some (r,q++p,[])
  | _,_=>none
 | _=>none⟩
theorem conR_ok{P:Program}{ext:Bool}{m lo:Nat}{γ0:Pl}{w0:World}{f:FuncId}{g:List SV->Option (SV × List Ob)}(hf:ROk ext m lo γ0 w0)(hc:∀ as_ wx,(callFunc f as_).run P wx=.ok (.enter f as_) wx)
  (h:∀ us r q,g us=some (r,q)->All q->(∀ x∈us,x.ok)->r.ok/\r.lt 0=true/\∀ γ F w,RFld w F m->Calls P f (.pointer (some ⟨F,0,none⟩)::us.map (·.val γ)).toArray w fun e w'=>e=.returned (r.val γ)/\Below w.heap.size w w'):ConOk P 1 γ0 w0 (conR ext m lo f g) :=
 .of hc fun n M l r p R hr hp hok=>by
  unfold conR at hr;dsimp only at hr
  split at hr
  ·rename_i x us
   split at hr
   ·rename_i p' r' q hx hq
    cases hr;obtain⟨g1,g2,g3⟩:=h us r q hq (fun a ha=>hp a (List.mem_append_left _ ha)) fun x hx=>hok x (.tail _ hx);refine⟨rfl,g1,g2,?_⟩;intro γ hγ wx hw hL;obtain⟨F,h1,h2⟩:=isR_at hx (fun a ha=>hp a (List.mem_append_right _ ha)) hf hγ hw hL;have g4:=g3 γ F wx h2;rw[<- h1]at g4;exact g4
   ·cases hr
  ·cases hr
def ref2(ext:Bool)(m lo:Nat)(f:FuncId)(op:Nat->Nat->Nat):Con:=conR ext m lo f fun l=>match l with
 | [.w a,.w b]=>some (.w (op a b),[])
 | _=>none
def ref1(ext:Bool)(m lo:Nat)(f:FuncId)(op:Nat->SV × List Ob):Con:=conR ext m lo f fun l=>match l with
 | [.w a]=>some (op a)
 | _=>none
theorem ref2_ok{P:Program}{ext:Bool}{m lo:Nat}{γ0:Pl}{w0:World}{f:FuncId}{op:Nat->Nat->Nat}(hf:ROk ext m lo γ0 w0)(hc:∀ as_ wx,(callFunc f as_).run P wx=.ok (.enter f as_) wx)(hlt:∀ a b,op a b<2^256)
  (h:∀ F a b,a<2^256->b<2^256->∀ w,RFld w F m->Calls P f #[.pointer (some ⟨F,0,none⟩),.agg (pw a),.agg (pw b)] w fun e w'=>e=.returned (.agg (pw (op a b)))/\Below w.heap.size w w'):ConOk P 1 γ0 w0 (ref2 ext m lo f op) :=
 conR_ok hf hc fun us r q hr hq hok=>by
  split at hr
  ·rename_i a b
   cases hr;exact⟨hlt a b,rfl,fun γ F w hF=>h F a b (hok (.w a) (by simp)) (hok (.w b) (by simp)) w hF⟩
  ·cases hr
theorem ref1_ok{P:Program}{ext:Bool}{m lo:Nat}{γ0:Pl}{w0:World}{f:FuncId}{op:Nat->SV × List Ob}(hf:ROk ext m lo γ0 w0)(hc:∀ as_ wx,(callFunc f as_).run P wx=.ok (.enter f as_) wx)(hlt:∀ a,(op a).1.ok/\(op a).1.lt 0=true)
  (h:∀ F a,a<2^256->All (op a).2->∀ w,RFld w F m->Calls P f #[.pointer (some ⟨F,0,none⟩),.agg (pw a)] w fun e w'=>e=.returned ((op a).1.val fun _=>0)/\Below w.heap.size w w'):ConOk P 1 γ0 w0 (ref1 ext m lo f op) :=
 conR_ok hf hc fun us r q hr hq hok=>by
  split at hr
  ·rename_i a
   have e:op a=(r,q):=Option.some.inj hr;have g1:=hlt a;have g2:=h;rw[e]at g1;refine⟨g1.1,g1.2,fun γ F w hF=>?_⟩;have g4:=h F a (hok (.w a) (by simp)) (by rw[e];exact hq) w hF;rw[e,<- val0 (γ:=γ) g1.2]at g4;exact g4
  ·cases hr
def rIv(m z:Nat):Nat:=if z*iv m z%m=1 then iv m z else 0
theorem rIv_lt{m:Nat}(h0:0<m)(hm:m<2^256)(z:Nat):rIv m z<2^256:=by
 unfold rIv
 split
 ·exact Nat.lt_trans (Nat.mod_lt _ h0) hm
 ·decide
def refs(ext:Bool)(m lo:Nat):List Con:=[ref2 ext m lo 39 fun a b=>a*b%m,ref2 ext m lo 41 (rA m),ref2 ext m lo 43 (rS m),ref1 ext m lo 38 fun a=>(.tu (.w (rIv m a)) (.b (eqN (a*iv m a%m) 1)),[]),ref1 ext m lo 35 fun a=>(.w (a%m),[])]
theorem refs_ok{ext:Bool}{m lo:Nat}{γ0:Pl}{w0:World}(hf:ROk ext m lo γ0 w0):conAll Tryz.prog 1 γ0 w0 (refs ext m lo):=by
 have hm:∀ n,n%m<2^256:=fun n=>Nat.lt_trans (Nat.mod_lt _ (by have:=hf.big;omega)) hf.lt;have h0:0<m:=by have:=hf.big;omega
 refine⟨ref2_ok hf (fun _ _=>by kernel_rfl) (fun _ _=>hm _) fun F a b ha hb w hF=>rmul_w F m a b ha hb hf.lt hf.big hf.odd w hF,ref2_ok hf (fun _ _=>by kernel_rfl) (fun a b=>rA_lt m a b) fun F a b ha hb w hF=>?_,ref2_ok hf (fun _ _=>by kernel_rfl) (fun a b=>rS_lt m a b) fun F a b ha hb w hF=>?_,
  ref1_ok hf (fun _ _=>by kernel_rfl) (fun a=>⟨⟨rIv_lt h0 hf.lt a,trivial⟩,rfl⟩) fun F a ha _ w hF=>rinv_w F m a ha hf.lt hf.big hf.odd w hF,ref1_ok hf (fun _ _=>by kernel_rfl) (fun a=>⟨hm _,rfl⟩) fun F a ha _ w hF=>?_,trivial⟩
 ·obtain⟨lo',_,_,h⟩:=hF
  exact radd_w F m lo' _ a b ha hb hf.lt w h
 ·obtain⟨lo',_,_,h⟩:=hF
  exact rsub_w F m lo' _ a b ha hb hf.lt w h
 ·obtain⟨lo',_,_,h⟩:=hF
  exact rof_any F m lo' _ a ha h0 hf.lt w h
theorem agg_ptrR{x:SV}{γ:Pl}{F:Nat}{ext:Bool}{m lo:Nat}{M:Rows}{p:List Ob}(hx:isR ext m lo M x=some p)(h:x.val γ=.pointer (some ⟨F,0,none⟩)):(SV.ap x .e).val γ=.agg #[.pointer (some ⟨F,0,none⟩)]:=by
 cases x <;> first | (cases hx;done) | skip
 simpa[SV.val,SV.cells,SV.sc]using h
def conH(ext:Bool)(m lo:Nat)(f:FuncId)(g:List SV->Option (SV × List Ob)):Con:=⟨f,fun _ M l=>match l with
 | .ap x .e::us=>match isR ext m lo M x,g us with
  | some p,some (r,q)=>some (r,q++p,[])
  | _,_=>none
 | _=>none⟩
theorem conH_ok{P:Program}{ext:Bool}{m lo:Nat}{γ0:Pl}{w0:World}{f:FuncId}{g:List SV->Option (SV × List Ob)}(hf:ROk ext m lo γ0 w0)(hc:∀ as_ wx,(callFunc f as_).run P wx=.ok (.enter f as_) wx)
  (h:∀ us r q,g us=some (r,q)->All q->(∀ x∈us,x.ok)->r.ok/\r.lt 0=true/\∀ γ F w,RFld w F m->Calls P f (.agg #[.pointer (some ⟨F,0,none⟩)]::us.map (·.val γ)).toArray w fun e w'=>e=.returned (r.val γ)/\Below w.heap.size w w'):ConOk P 1 γ0 w0 (conH ext m lo f g) :=
 .of hc fun n M l r p R hr hp hok=>by
  unfold conH at hr;dsimp only at hr
  split at hr
  ·rename_i x us
   split at hr
   ·rename_i p' r' q hx hq
    cases hr;obtain⟨g1,g2,g3⟩:=h us r q hq (fun a ha=>hp a (List.mem_append_left _ ha)) fun x hx=>hok x (.tail _ hx);refine⟨rfl,g1,g2,?_⟩;intro γ hγ wx hw hL;obtain⟨F,h1,h2⟩:=isR_at hx (fun a ha=>hp a (List.mem_append_right _ ha)) hf hγ hw hL;have g4:=g3 γ F wx h2;rw[<- agg_ptrR hx h1]at g4;exact g4
   ·cases hr
  ·cases hr
section
variable {α β:Type}
def cH1(ext:Bool)(m lo:Nat)(f:FuncId)(A:Shp α)(op:α->SV):Con:=conH ext m lo f fun l=>match l with
 | [x]=>(A.dec x).map fun a=>(op a,[])
 | _=>none
def cH2(ext:Bool)(m lo:Nat)(f:FuncId)(A:Shp α)(B:Shp β)(op:α->β->SV):Con:=conH ext m lo f fun l=>match l with
 | [x,y]=>match A.dec x,B.dec y with
  | some a,some b=>some (op a b,[])
  | _,_=>none
 | _=>none
theorem cH1_ok{P:Program}{ext:Bool}{m lo:Nat}{γ0:Pl}{w0:World}{f:FuncId}{A:Shp α}{op:α->SV}(hf:ROk ext m lo γ0 w0)(hc:∀ as_ wx,(callFunc f as_).run P wx=.ok (.enter f as_) wx)(hg:∀ a,(A.enc a).ok->(op a).ok/\(op a).lt 0=true)
  (h:∀ F a,(A.enc a).ok->∀ w,RFld w F m->Calls P f #[.agg #[.pointer (some ⟨F,0,none⟩)],(A.enc a).val o0] w fun e w'=>e=.returned ((op a).val o0)/\Below w.heap.size w w'):ConOk P 1 γ0 w0 (cH1 ext m lo f A op) :=
 conH_ok hf hc fun us r q hr hq hok=>by
  split at hr
  ·rename_i x
   obtain⟨a,ha,e⟩:=Option.map_eq_some_iff.1 hr;cases e;have hx:=A.dec_ok _ _ ha;subst hx;have oa:=hok (A.enc a) (by simp);refine⟨(hg a oa).1,(hg a oa).2,fun γ F w hF=>?_⟩;show Calls P f #[.agg #[.pointer (some ⟨F,0,none⟩)],(A.enc a).val γ] w _;rw[val0 (hg a oa).2,val0 (A.lt a)];exact h F a oa w hF
  ·cases hr
theorem cH2_ok{P:Program}{ext:Bool}{m lo:Nat}{γ0:Pl}{w0:World}{f:FuncId}{A:Shp α}{B:Shp β}{op:α->β->SV}(hf:ROk ext m lo γ0 w0)(hc:∀ as_ wx,(callFunc f as_).run P wx=.ok (.enter f as_) wx)(hg:∀ a b,(A.enc a).ok->(B.enc b).ok->(op a b).ok/\(op a b).lt 0=true)
  (h:∀ F a b,(A.enc a).ok->(B.enc b).ok->∀ w,RFld w F m->Calls P f #[.agg #[.pointer (some ⟨F,0,none⟩)],(A.enc a).val o0,(B.enc b).val o0] w fun e w'=>e=.returned ((op a b).val o0)/\Below w.heap.size w w'):ConOk P 1 γ0 w0 (cH2 ext m lo f A B op) :=
 conH_ok hf hc fun us r q hr hq hok=>by
  split at hr
  ·rename_i x y
   split at hr
   ·rename_i a b ha hb
    cases hr;have hx:=A.dec_ok _ _ ha;have hy:=B.dec_ok _ _ hb;subst hx hy;have oa:=hok (A.enc a) (by simp);have ob:=hok (B.enc b) (by simp);have g:=hg a b oa ob;refine⟨g.1,g.2,fun γ F w hF=>?_⟩;show Calls P f #[.agg #[.pointer (some ⟨F,0,none⟩)],(A.enc a).val γ,(B.enc b).val γ] w _;rw[val0 g.2,val0 (A.lt a),val0 (B.lt b)];exact h F a b oa ob w hF
   ·cases hr
  ·cases hr
end
structure Big (m:Nat):Prop where
 odd:m%2=1
 big:1<m
 lt:m<2^256
theorem ROk.of{m:Nat}(hb:Big m){F:Nat}{w:World}(h:RFld w F m):ROk true m 0 (fun _=>F) w:=⟨hb.odd,hb.big,hb.lt,fun _=>h,fun h=>(by cases h)⟩
def Ih1{α:Type}(m:Nat)(f:FuncId)(A:Shp α)(op:α->SV):Prop:=∀ ext lo γ0 w0,ROk ext m lo γ0 w0->ConOk Tryz.prog 1 γ0 w0 (cH1 ext m lo f A op)
def Ih2{α β:Type}(m:Nat)(f:FuncId)(A:Shp α)(B:Shp β)(op:α->β->SV):Prop:=∀ ext lo γ0 w0,ROk ext m lo γ0 w0->ConOk Tryz.prog 1 γ0 w0 (cH2 ext m lo f A B op)
/-! Two numbers. -/
def ra2(m:Nat)(a b:N2):N2:=(rA m a.1 b.1,rA m a.2 b.2)
def rs2(m:Nat)(a b:N2):N2:=(rS m a.1 b.1,rS m a.2 b.2)
def rm2(m:Nat)(a b:N2):N2:=(rS m (a.1*b.1%m) (a.2*b.2%m),rA m (a.1*b.2%m) (a.2*b.1%m))
def ro2(m:Nat)(a:N2):N2:=(a.1%m,a.2%m)
def rc2(m:Nat)(a:N2):N2:=(a.1,rS m 0 a.2)
theorem ra2_ok(m:Nat)(a b:N2):(F2s (ra2 m a b)).ok:=⟨rA_lt _ _ _,rA_lt _ _ _,trivial⟩
theorem rs2_ok(m:Nat)(a b:N2):(F2s (rs2 m a b)).ok:=⟨rS_lt _ _ _,rS_lt _ _ _,trivial⟩
theorem rm2_ok(m:Nat)(a b:N2):(F2s (rm2 m a b)).ok:=⟨rS_lt _ _ _,rA_lt _ _ _,trivial⟩
section
variable {m:Nat} (hb:Big m)
include hb
theorem Tadd_is:Ih2 m 12 sh2 sh2 fun a b=>F2s (ra2 m a b):=fun _ _ _ _ hf=>cH2_ok hf (fun _ _=>by kernel_rfl) (fun _ _ _ _=>⟨ra2_ok _ _ _,rfl⟩) fun F a b oa ob w hF =>
 calls_at (E1_ok (refs_ok (ROk.of hb hF))) (by kernel_rfl) (fun _=>0) Tryz.func12 (by kernel_rfl) [sG,F2s a,F2s b] ⟨⟨⟨trivial,trivial⟩,rfl⟩,⟨oa,rfl⟩,⟨ob,rfl⟩,trivial⟩ (by kernel_rfl) (by kernel_rfl) (.leaf (F2s (ra2 m a b))) (by kernel_rfl) rfl
theorem Tsub_is:Ih2 m 14 sh2 sh2 fun a b=>F2s (rs2 m a b):=fun _ _ _ _ hf=>cH2_ok hf (fun _ _=>by kernel_rfl) (fun _ _ _ _=>⟨rs2_ok _ _ _,rfl⟩) fun F a b oa ob w hF =>
 calls_at (E1_ok (refs_ok (ROk.of hb hF))) (by kernel_rfl) (fun _=>0) Tryz.func14 (by kernel_rfl) [sG,F2s a,F2s b] ⟨⟨⟨trivial,trivial⟩,rfl⟩,⟨oa,rfl⟩,⟨ob,rfl⟩,trivial⟩ (by kernel_rfl) (by kernel_rfl) (.leaf (F2s (rs2 m a b))) (by kernel_rfl) rfl
theorem Tmul_is:Ih2 m 16 sh2 sh2 fun a b=>F2s (rm2 m a b):=fun _ _ _ _ hf=>cH2_ok hf (fun _ _=>by kernel_rfl) (fun _ _ _ _=>⟨rm2_ok _ _ _,rfl⟩) fun F a b oa ob w hF =>
 calls_at (E1_ok (refs_ok (ROk.of hb hF))) (by kernel_rfl) (fun _=>0) Tryz.func16 (by kernel_rfl) [sG,F2s a,F2s b] ⟨⟨⟨trivial,trivial⟩,rfl⟩,⟨oa,rfl⟩,⟨ob,rfl⟩,trivial⟩ (by kernel_rfl) (by kernel_rfl) (.leaf (F2s (rm2 m a b))) (by kernel_rfl) rfl
theorem Tof2_is:Ih1 m 8 sh2 fun a=>F2s (ro2 m a):=fun _ _ _ _ hf=>cH1_ok hf (fun _ _=>by kernel_rfl) (fun _ _=>⟨⟨Nat.lt_trans (Nat.mod_lt _ (Nat.lt_of_lt_of_le (by decide) hb.big)) hb.lt,Nat.lt_trans (Nat.mod_lt _ (Nat.lt_of_lt_of_le (by decide) hb.big)) hb.lt,trivial⟩,rfl⟩) fun F a oa w hF =>
 calls_at (E1_ok (refs_ok (ROk.of hb hF))) (by kernel_rfl) (fun _=>0) Tryz.func8 (by kernel_rfl) [sG,F2s a] ⟨⟨⟨trivial,trivial⟩,rfl⟩,⟨oa,rfl⟩,trivial⟩ (by kernel_rfl) (by kernel_rfl) (.leaf (F2s (ro2 m a))) (by kernel_rfl) rfl
theorem Tconj_is:Ih1 m 18 sh2 fun a=>F2s (rc2 m a):=fun _ _ _ _ hf=>cH1_ok hf (fun _ _=>by kernel_rfl) (fun _ oa=>⟨⟨oa.1,rS_lt _ _ _,trivial⟩,rfl⟩) fun F a oa w hF =>
 calls_at (E1_ok (refs_ok (ROk.of hb hF))) (by kernel_rfl) (fun _=>0) Tryz.func18 (by kernel_rfl) [sG,F2s a] ⟨⟨⟨trivial,trivial⟩,rfl⟩,⟨oa,rfl⟩,trivial⟩ (by kernel_rfl) (by kernel_rfl) (.leaf (F2s (rc2 m a))) (by kernel_rfl) rfl
end
def ri2(m:Nat)(C:N2->N2)(M:N2->N2->N2)(a:N2):N2 × Bool:=bif eqN ((M a (C a)).1*iv m (M a (C a)).1%m) 1 then (((C a).1*rIv m (M a (C a)).1%m,(C a).2*rIv m (M a (C a)).1%m),true)else (z2,false)
theorem ri2_ok{m:Nat}(hb:Big m)(C:N2->N2)(M:N2->N2->N2)(a:N2):(F2s (ri2 m C M a).1).ok:=by
 have h:=fun n=>Nat.lt_trans (Nat.mod_lt n (Nat.lt_of_lt_of_le (by decide) hb.big)) hb.lt;unfold ri2;cases eqN ((M a (C a)).1*iv m (M a (C a)).1%m) 1
 ·exact F2z_ok
 ·exact⟨h _,h _,trivial⟩
theorem Tinv_is{m:Nat}(hb:Big m){C:N2->N2}{M:N2->N2->N2}(hC:Ih1 m 18 sh2 fun a=>F2s (C a))(hM:Ih2 m 16 sh2 sh2 fun a b=>F2s (M a b)):Ih1 m 10 sh2 fun a=>.tu (F2s (ri2 m C M a).1) (.b (ri2 m C M a).2):=fun _ _ _ _ hf=>cH1_ok hf (fun _ _=>by kernel_rfl) (fun a _=>⟨⟨ri2_ok hb C M a,trivial⟩,rfl⟩) fun F a oa w hF=>by
 refine calls_at (E1_ok (more:=cH1 true m 0 18 sh2 (fun a=>F2s (C a))::cH2 true m 0 16 sh2 sh2 (fun a b=>F2s (M a b))::refs true m 0) ⟨hC _ _ _ _ (ROk.of hb hF),hM _ _ _ _ (ROk.of hb hF),refs_ok (ROk.of hb hF)⟩) (by kernel_rfl) (fun _=>0) Tryz.func10 (by kernel_rfl) [sG,F2s a] ⟨⟨⟨trivial,trivial⟩,rfl⟩,⟨oa,rfl⟩,trivial⟩ (by kernel_rfl) (by kernel_rfl)
  (.br (!(eqN ((M a (C a)).1*iv m (M a (C a)).1%m) 1)) (.leaf (.tu (F2s z2) (.v (.bool false)))) (.leaf (.tu (F2s ((C a).1*rIv m (M a (C a)).1%m,(C a).2*rIv m (M a (C a)).1%m)) (.v (.bool true))))) (by kernel_rfl) ⟨fun h=>?_,fun h=>?_⟩
 ·have h:eqN ((M a (C a)).1*iv m (M a (C a)).1%m) 1=false:=by simpa using h
  unfold ri2;rw[h];rfl
 ·have h:eqN ((M a (C a)).1*iv m (M a (C a)).1%m) 1=true:=by simpa using h
  unfold ri2;rw[h];rfl
end Sy
theorem tnew_any(w:World):Calls Tryz.prog 7 #[] w fun e w'=>∃ F,e=.returned (.agg #[.pointer (some ⟨F,0,none⟩)])/\RFld w' F 21888242871839275222246405745257275088696311157297823662689037894645226208583/\w.heap.size<=F/\Below w.heap.size w w':=by
 have HCR:=Lib.hid (fun wx=>rbase_any wx);have HNW:=Lib.hid (fun wx=>rnew_any 21888242871839275222246405745257275088696311157297823662689037894645226208583 (by omega) (by omega) (by omega) wx);go_enter Tryz.func7,Tryz.ntmps7
 go_wp2_with fail
 refine(HCR.out _).mono ?_;rintro e w5 ⟨rfl,hb⟩;have HB:=Lib.hid hb;clear hb HCR
 go_wp2_with fail
 refine(HNW.out _).mono ?_;rintro e w6 ⟨v,rfl,⟨F,rfl,hs,lo,h1,h2,h3⟩,hb6⟩;have hB:=HB.out.trans (hb6.mono HB.out.size);have HF:=Lib.hid (show RFat w6 F _ lo _ from h3);have HL:=Lib.hid (And.intro h1 h2);have HS:=Lib.hid (Nat.le_trans HB.out.size hs);have hr:=(hB.block w.heap.size (by simp)).trans (heap_alloc_new w _);have HR:=Lib.hid hr;have HB:=Lib.hid hB;clear hs h1 h2 h3 hb6 hB hr HNW
 go_wp2_with (refine wpList_store_row rfl 29 _ _ rfl w.heap.size #[.pointer (some ⟨F,0,none⟩)] rfl rfl 29 _ (by exact HR.out) (by kernel_rfl) (by rfl) (by kernel_rfl) ?_)
 (try simp only[Act.put])
 refine bodyPost_ret (v:=.agg #[.pointer (some ⟨F,0,none⟩)]) (results_cell_row (p:=0) rfl _ _ w.heap.size 29 #[.pointer (some ⟨F,0,none⟩)] (0,0) _ rfl (setRow_heap _ _ _ _ _ _ HR.out) Tryz.underlying29 rfl (by kernel_rfl)) rfl ⟨F,rfl,⟨lo,HL.out.1,HL.out.2,?_⟩,?_,?_⟩
 ·have h:=HS.out
  simp at h;exact(setRow_other _ _ _ _ (by omega)).trans HF.out
 ·have h:=HS.out
  simp at h;omega
 ·exact below_setRow (((Below.refl _ _).alloc (Nat.le_refl _) _).trans (HB.out.mono (by simp))) (Nat.le_refl _) _
namespace Sy
abbrev loB:Nat:=3834012553
theorem bB:Big pB:=⟨by decide,by decide,ltB⟩
theorem rB(w:World):ROk false pB loB o0 w:=⟨by decide,by decide,ltB,fun h=>(by cases h),fun _=>⟨by decide,by kernel_rfl⟩⟩
theorem lo_genB{lo q:Nat}(hq:q=3632069959)(h1:lo<4294967296)(h2:(lo*q+1)%4294967296=0):lo=3834012553:=by
 subst hq;have e:(lo*3632069959+1)*3834012553+lo=4294967296*(3242260268*lo)+3834012553:=by omega
 have hY:lo*3632069959+1=4294967296*((lo*3632069959+1) / 4294967296):=by have:=Nat.div_add_mod (lo*3632069959+1) 4294967296;rw[h2,Nat.add_zero]at this;exact this.symm
 rw[hY,Nat.mul_assoc]at e;generalize (lo*3632069959+1) / 4294967296*3834012553=P at e;generalize 3242260268*lo=Q at e;clear h2 hY;omega
theorem lo_isB{lo:Nat}(h1:lo<4294967296)(h2:(lo*qN pB 0+1)%4294967296=0):lo=loB:=lo_genB (by kernel_rfl) h1 h2
def cTNew:Con:=⟨7,fun n _ l=>match l with
 | []=>some (.ap (.p n 0 0 0) .e,[],[(n,sRF pB loB,72)])
 | _=>none⟩
theorem cTNew_ok{γ0:Pl}{w0:World}:ConOk Tryz.prog 1 γ0 w0 cTNew:=⟨fun _ _=>by kernel_rfl,fun n M l r p R hr hp hn hok _=>by
 simp only[cTNew]at hr
 split at hr
 ·cases hr
  refine⟨⟨trivial,trivial⟩,by show(decide (n<n+1)&&true)=true;simp,fun q hq=>?_,fun γ hγ wx hw hL=>?_⟩
  ·simp only[List.mem_cons,List.not_mem_nil,or_false]at hq
   subst hq;exact⟨⟨trivial,trivial,trivial,trivial,trivial,trivial,trivial,trivial,trivial,trivial,trivial,trivial,trivial,trivial,trivial,trivial,trivial,trivial⟩,rfl,Nat.le_refl _,Nat.lt_succ_self _⟩
  ·refine(tnew_any wx).mono fun e w' ⟨F,h1,⟨lo,l1,l2,h2⟩,h3,h4⟩=>?_
   have hlo:=lo_isB l1 l2;subst hlo;obtain⟨δ,hδ⟩:∃ δ:Pl,∀ k,δ k=if k=n then F else γ k:=⟨_,fun _=>rfl⟩
   refine⟨⟨δ,fun k hk=>by rw[hδ,if_neg (by omega)],?_,fun q hq=>?_,List.pairwise_singleton _ _⟩,h4⟩
   ·rw[h1]
    show _=Ending.returned (.agg #[.pointer (some ⟨δ n,0+0*0,none⟩)]);rw[hδ,if_pos rfl]
   ·simp only[List.mem_cons,List.not_mem_nil,or_false]at hq
    subst hq;refine⟨by rw[hδ,if_pos rfl];exact h3,?_⟩;show w'.heap[δ n]?=_;rw[hδ,if_pos rfl];exact h2
 ·cases hr⟩
end Sy
open Go.RowKit
namespace Sy
def wl2(a:N2):List Nat:=[a.1,a.2]
def wl12(a:N12):List Nat:=[a.1.1.1,a.1.1.2,a.2.1.1,a.2.1.2,a.1.2.1.1,a.1.2.1.2,a.2.2.1.1,a.2.2.1.2,a.1.2.2.1,a.1.2.2.2,a.2.2.2.1,a.2.2.2.2]
theorem eqL_self(l:List Nat):eqL l l=true:=decide_eq_true rfl
theorem wl12_eq{a b:N12}(h:eqL (wl12 a) (wl12 b)=true):a=b:=by
 have h:=of_decide_eq_true h;simp only[wl12,List.cons.injEq]at h;obtain⟨h1,h2,h3,h4,h5,h6,h7,h8,h9,h10,h11,h12,_⟩:=h;exact Prod.ext (Prod.ext (Prod.ext h1 h2) (Prod.ext (Prod.ext h5 h6) (Prod.ext h9 h10))) (Prod.ext (Prod.ext h3 h4) (Prod.ext (Prod.ext h7 h8) (Prod.ext h11 h12)))
theorem wl2_eq{a b:N2}(h:eqL (wl2 a) (wl2 b)=true):a=b:=by
 have h:=of_decide_eq_true h;simp only[wl2,List.cons.injEq]at h;exact Prod.ext h.1 h.2.1
theorem eqL_iff{a b:N2}:eqL (wl2 a) (wl2 b)=true↔a=b:=⟨wl2_eq,fun h=>by rw[h];exact eqL_self _⟩
theorem eqB_self(b:Bool):eqB b b=true:=by cases b <;> rfl
def eI:N2:=(0,1)
def eW:N12:=(z6,((1,0),z2,z2))
def eV:N12:=(z6,(z2,z2,(1,0)))
def e9:N12:=(((9,1),z2,z2),z6)
section
variable {A M:N2->N2->N2} {T:N12->N12->N12}
theorem lives_gen(hA:Is00 11 sh2 sh2 fun a b=>F2s (A a b))(hM:Is00 15 sh2 sh2 fun a b=>F2s (M a b))(hT:Is00 24 sh12 sh12 fun a b=>L12s (T a b))(w:World):Calls Tryz.prog 19 #[] w fun e w'=>e=.returned (.bool (bif (bif eqL (wl2 (A (M eI eI) (1,0))) (wl2 z2)then eqL (wl12 (T eW eV)) (wl12 e9)else false)then eqL (wl12 one12) (wl12 one12)else false))/\Below w.heap.size w w' :=
 calls_at (E1_ok (γ0:=o0) (more:=[cV2 11 sh2 sh2 fun a b=>F2s (A a b),cV2 15 sh2 sh2 fun a b=>F2s (M a b),cV2 24 sh12 sh12 fun a b=>L12s (T a b),cOne,cOneR]) ⟨hA _ _ _,hM _ _ _,hT _ _ _,cOne_ok,cOneR_ok,trivial⟩) (by kernel_rfl) (fun _=>0) Tryz.func19 (by kernel_rfl) [] trivial (by kernel_rfl) (by kernel_rfl)
  (.leaf (.b (bif (bif eqL (wl2 (A (M eI eI) (1,0))) (wl2 z2)then eqL (wl12 (T eW eV)) (wl12 e9)else false)then eqL (wl12 one12) (wl12 one12)else false))) (by kernel_rfl) rfl
end
theorem lives_1:A2 (M2 eI eI) (1,0)=z2:=by decide +kernel
theorem lives_2:M12 eW eV=e9:=by decide +kernel
theorem lives_any(w:World):Calls Tryz.prog 19 #[] w fun e w'=>e=.returned (.bool true)/\Below w.heap.size w w':=by
 have h:=lives_gen Add2_at Mul2_at Mul12_at w;rw[lives_1,lives_2,eqL_self,eqL_self,eqL_self]at h;exact h
def cLives:Con:=conV 19 fun l=>match l with
 | []=>some (.b true,[])
 | _=>none
theorem cLives_ok{base:Nat}{γ0:Pl}{w0:World}:ConOk Tryz.prog base γ0 w0 cLives:=conV_ok (fun _ _=>by kernel_rfl) fun us r q h hq hok=>by
 split at h
 ·cases h
  exact⟨trivial,rfl,fun γ w=>lives_any w⟩
 ·cases h
end Sy
open Go.RowKit
namespace Sy
def pc2(m:Nat)(a:N2):N2:=(a.1%m,(0%m+(m - a.2%m))%m)
def nw(m:Nat)(a:N2):Nat:=(a.1*a.1%m+a.2*a.2%m)%m
def pi2(m:Nat)(a:N2):N2 × Bool:=((a.1*rIv m (nw m a)%m,(0%m+(m - a.2*rIv m (nw m a)%m%m))%m),eqN (nw m a*iv m (nw m a)%m) 1)
section
variable {m:Nat}
theorem md_ok(hb:1<m)(hm:m<2^256)(a b:Nat):(F2s (a%m,b%m)).ok:=⟨Nat.lt_trans (Nat.mod_lt _ (Nat.lt_of_lt_of_le (by decide) hb)) hm,Nat.lt_trans (Nat.mod_lt _ (Nat.lt_of_lt_of_le (by decide) hb)) hm,trivial⟩
theorem conj2_is:Is1 m 45 sh2 fun a=>F2s (pc2 m a):=fun _ _ _ hf=>cT1_ok hf (fun _ _=>by kernel_rfl) (fun a _=>⟨md_ok hf.big hf.lt _ _,rfl⟩) fun F a oa w hF =>
 calls_at (E1_ok (flds_ok (FOk.of hF))) (by kernel_rfl) (fun _=>0) Tryz.func45 (by kernel_rfl) [sG,F2s a] ⟨⟨⟨trivial,trivial⟩,rfl⟩,⟨oa,rfl⟩,trivial⟩ (by kernel_rfl) (by kernel_rfl) (.leaf (F2s (pc2 m a))) (by kernel_rfl) rfl
theorem inv2_is:Is1 m 37 sh2 fun a=>.tu (F2s (pi2 m a).1) (.b (pi2 m a).2):=fun _ _ _ hf=>cT1_ok hf (fun _ _=>by kernel_rfl) (fun a _=>⟨⟨md_ok hf.big hf.lt _ _,trivial⟩,rfl⟩) fun F a oa w hF =>
 calls_at (E1_ok (flds_ok (FOk.of hF))) (by kernel_rfl) (fun _=>0) Tryz.func37 (by kernel_rfl) [sG,F2s a] ⟨⟨⟨trivial,trivial⟩,rfl⟩,⟨oa,rfl⟩,trivial⟩ (by kernel_rfl) (by kernel_rfl) (.leaf (.tu (F2s (pi2 m a).1) (.b (pi2 m a).2))) (by kernel_rfl) rfl
end
section
variable {S:N2->N2->N2} {C:N2->N2} {I:N2->N2 × Bool}
theorem Sub2_is(o:∀ a b,(F2s (S a b)).ok)(hS:Is2 pB 42 sh2 sh2 fun a b=>F2s (S a b)):Is00 13 sh2 sh2 fun a b=>F2s (S a b):=fun _ _ _=>cV2_ok (fun _ _=>by kernel_rfl) (fun a b _ _=>⟨o a b,rfl⟩) fun a b oa ob w =>
 calls_at (E1_ok (γ0:=o0) (more:=[cFields,cT2 false pB 42 sh2 sh2 fun a b=>F2s (S a b)]) ⟨cFields_ok,hS _ _ _ (fB w),trivial⟩) (by kernel_rfl) (fun _=>0) Tryz.func13 (by kernel_rfl) [F2s a,F2s b] ⟨⟨oa,rfl⟩,⟨ob,rfl⟩,trivial⟩ (by kernel_rfl) (by kernel_rfl) (.leaf (F2s (S a b))) (by kernel_rfl) rfl
theorem Conj2_is(o:∀ a,(F2s (C a)).ok)(hC:Is1 pB 45 sh2 fun a=>F2s (C a)):Is0 17 sh2 fun a=>F2s (C a):=fun _ _ _=>cV1_ok (fun _ _=>by kernel_rfl) (fun a _=>⟨o a,rfl⟩) fun a oa w =>
 calls_at (E1_ok (γ0:=o0) (more:=[cFields,cT1 false pB 45 sh2 fun a=>F2s (C a)]) ⟨cFields_ok,hC _ _ _ (fB w),trivial⟩) (by kernel_rfl) (fun _=>0) Tryz.func17 (by kernel_rfl) [F2s a] ⟨⟨oa,rfl⟩,trivial⟩ (by kernel_rfl) (by kernel_rfl) (.leaf (F2s (C a))) (by kernel_rfl) rfl
theorem Inv2_is(o:∀ a,(F2s (I a).1).ok)(hI:Is1 pB 37 sh2 fun a=>.tu (F2s (I a).1) (.b (I a).2)):Is0 9 sh2 fun a=>.tu (F2s (I a).1) (.b (I a).2):=fun _ _ _=>cV1_ok (fun _ _=>by kernel_rfl) (fun a _=>⟨⟨o a,trivial⟩,rfl⟩) fun a oa w =>
 calls_at (E1_ok (γ0:=o0) (more:=[cFields,cT1 false pB 37 sh2 fun a=>.tu (F2s (I a).1) (.b (I a).2)]) ⟨cFields_ok,hI _ _ _ (fB w),trivial⟩) (by kernel_rfl) (fun _=>0) Tryz.func9 (by kernel_rfl) [F2s a] ⟨⟨oa,rfl⟩,trivial⟩ (by kernel_rfl) (by kernel_rfl) (.leaf (.tu (F2s (I a).1) (.b (I a).2))) (by kernel_rfl) rfl
end
def S2:N2->N2->N2:=s2 prB
theorem Sub2_at:Is00 13 sh2 sh2 fun a b=>F2s (S2 a b):=Sub2_is (fun _ _=>F2v_ok ltB _) (sub2_is prB)
theorem Conj2_at:Is0 17 sh2 fun a=>F2s (pc2 pB a):=Conj2_is (fun _=>md_ok (by decide) ltB _ _) conj2_is
theorem Inv2_at:Is0 9 sh2 fun a=>.tu (F2s (pi2 pB a).1) (.b (pi2 pB a).2):=Inv2_is (fun _=>md_ok (by decide) ltB _ _) inv2_is
theorem Tadd_at:Ih2 pB 12 sh2 sh2 fun a b=>F2s (ra2 pB a b):=Tadd_is bB
theorem Tsub_at:Ih2 pB 14 sh2 sh2 fun a b=>F2s (rs2 pB a b):=Tsub_is bB
theorem Tmul_at:Ih2 pB 16 sh2 sh2 fun a b=>F2s (rm2 pB a b):=Tmul_is bB
theorem Tof2_at:Ih1 pB 8 sh2 fun a=>F2s (ro2 pB a):=Tof2_is bB
theorem Tconj_at:Ih1 pB 18 sh2 fun a=>F2s (rc2 pB a):=Tconj_is bB
theorem Tinv_at:Ih1 pB 10 sh2 fun a=>.tu (F2s (ri2 pB (rc2 pB) (rm2 pB) a).1) (.b (ri2 pB (rc2 pB) (rm2 pB) a).2):=Tinv_is bB Tconj_at Tmul_at
end Sy
section
variable {p:Nat} (hp:Pr p)
theorem v_mul(a b:Zp p):a.1*b.1%p=((zpField hp).mul a b).1:=rfl
theorem v_subr(a b:Zp p):(a.1+(p - b.1))%p=((zpField hp).sub a b).1:=by
 show _=(a.1+(p - b.1)%p)%p;rw[Nat.add_mod_mod]
theorem v_negr(a:Zp p):(0+(p - a.1))%p=((zpField hp).neg a).1:=by
 show _=(p - a.1)%p;rw[Nat.zero_add]
theorem v_inv_iff(a:Zp p):a.1*(a.1^(p - 2)%p)%p=1↔a≠(zpField hp).zero:=by
 refine(invN_iff (n:=a.1) hp).trans ⟨fun h e=>h ?_,fun h hd=>h (zp_ext (Nat.eq_zero_of_dvd_of_lt hd a.2))⟩;rw[e];exact Nat.dvd_zero p
end
open Sy
section
variable {m:Nat} (hp:Pr m) (hm:m<2^256)
include hm
theorem ra2_v(z y:Zp m × Zp m):ra2 m (v2 z) (v2 y)=v2 ((K2 hp).add z y):=Prod.ext (rA_eq z.1.2 y.1.2 hm) (rA_eq z.2.2 y.2.2 hm)
theorem rs2_v(z y:Zp m × Zp m):rs2 m (v2 z) (v2 y)=v2 ((K2 hp).sub z y):=Prod.ext ((rS_eq z.1.2 y.1.2 hm).trans (v_subr hp z.1 y.1)) ((rS_eq z.2.2 y.2.2 hm).trans (v_subr hp z.2 y.2))
theorem rm2_eq(a b:N2):rm2 m a b=m2 hp a b:=by
 have hlt:∀ n,n%m<m:=fun n=>Nat.mod_lt _ hp.pos;rw[<- m2_eq hp a b];refine Prod.ext ?_ ?_
 ·show rS m _ _=_
  rw[rS_eq (hlt _) (hlt _) hm,Nat.mod_mod,Nat.mod_mod]
 ·exact rA_eq (hlt _) (hlt _) hm
theorem rc2_v(z:Zp m × Zp m):rc2 m (v2 z)=v2 (z.1,(K1 hp).neg z.2):=Prod.ext rfl ((rS_eq hp.pos z.2.2 hm).trans (v_negr hp z.2))
omit hm
theorem ro2_eq(a:N2):ro2 m a=v2 (ph2 hp a):=rfl
theorem pc2_eq(a:N2):pc2 m a=v2 (ph hp a.1,(K1 hp).neg (ph hp a.2)):=Prod.ext rfl (ph_neg hp a.2)
def nm(z:Zp m × Zp m):Zp m:=(K1 hp).add ((K1 hp).mul z.1 z.1) ((K1 hp).mul z.2 z.2)
theorem nw_eq(a:N2):nw m a=(nm hp (ph2 hp a)).1:=by
 unfold nw;rw[ph_mul hp,ph_mul hp,ph_add hp,ph_v,ph_v];rfl
theorem mul_conj(z:Zp m × Zp m):(K2 hp).mul z (z.1,(K1 hp).neg z.2)=(nm hp z,(K1 hp).zero):=by
 refine Prod.ext ?_ ?_
 ·show(K1 hp).add ((K1 hp).mul z.1 z.1) ((K1 hp).mul ((K1 hp).neg (K1 hp).one) ((K1 hp).mul z.2 ((K1 hp).neg z.2)))=_
  rw[CRing.mul_m1,CRing.mul_neg,CRing.neg_neg];rfl
 ·show(K1 hp).add ((K1 hp).mul z.1 ((K1 hp).neg z.2)) ((K1 hp).mul z.2 z.1)=_
  rw[CRing.mul_neg,(K1 hp).mul_comm z.2 z.1,(K1 hp).add_comm,(K1 hp).add_neg]
theorem even_pow{a:Nat}(h:a*a%m=1%m):∀ k,a^(2*k)%m=1%m
 | 0=>by simp
 | k+1=>by
  rw[show 2*(k+1)=2*k+2 by omega,Nat.pow_add,Nat.mul_mod,even_pow h k,Nat.pow_two,h,<- Nat.mul_mod]
theorem no_i(h4:m%4=3)(z:Zp m):(K1 hp).add ((K1 hp).mul z z) (K1 hp).one≠(K1 hp).zero:=fun h=>by
 have h1:(z.1*z.1%m+1)%m=0:=congrArg Subtype.val h;have h2:=hp.1;have hz:z.1*z.1%m=m - 1:=by
  have hl:z.1*z.1%m<m:=Nat.mod_lt _ hp.pos;by_cases he:z.1*z.1%m+1<m
  ·rw[Nat.mod_eq_of_lt he]at h1
   omega
  ·omega
 have hd:¬m∣z.1:=fun hd=>by
  rw[Nat.eq_zero_of_dvd_of_lt hd z.2,Nat.mul_zero,Nat.zero_mod]at hz;omega
 have hf:=fermat1 hp z.1 hd;have hs:(m - 1)*(m - 1)%m=1%m:=by
  have e:(m - 1)*(m - 1)=m*(m - 2)+1:=by
   obtain⟨k,hk⟩:∃ k,m=k+2:=⟨m - 2,by omega⟩
   subst hk;simp only[Nat.add_sub_cancel,show k+2 - 1=k+1 by omega,Nat.add_mul,Nat.mul_add];omega
  rw[e,Nat.mul_add_mod]
 have e:m - 1=2*(2*(m / 4)+1):=by omega
 rw[e,Nat.pow_mul,Nat.pow_two,Nat.pow_mod,hz,Nat.pow_succ,Nat.mul_mod,even_pow hs (m / 4),<- Nat.mul_mod,Nat.one_mul,Nat.mod_eq_of_lt (show m - 1<m by omega)]at hf;omega
theorem nm_zero(h4:m%4=3){z:Zp m × Zp m}(h:nm hp z=(K1 hp).zero):z=(K2 hp).zero:=by
 have key:∀ x y:Zp m,(K1 hp).add ((K1 hp).mul x x) ((K1 hp).mul y y)=(K1 hp).zero->y=(K1 hp).zero:=fun x y h=>by
  by_cases hy:y=(K1 hp).zero
  ·exact hy
  ·exfalso
   have hi:=(zpField hp).mul_inv y hy;refine no_i hp h4 ((K1 hp).mul x ((zpField hp).inv y)) ?_;have h2:=congrArg (fun t=>(K1 hp).mul t ((K1 hp).mul ((zpField hp).inv y) ((zpField hp).inv y))) h;rw[CRing.add_mul,CRing.zero_mul,CRing.mul4,CRing.mul4 (K1 hp) y y,show(K1 hp).mul y ((zpField hp).inv y)=(K1 hp).one from hi,(K1 hp).mul_one]at h2;exact h2
 have h2:z.2=(K1 hp).zero:=key z.1 z.2 h;have h1:z.1=(K1 hp).zero:=key z.2 z.1 (by rw[(K1 hp).add_comm];exact h);exact Prod.ext h1 h2
theorem nm_of_zero:nm hp (K2 hp).zero=(K1 hp).zero:=by
 show(K1 hp).add ((K1 hp).mul (K1 hp).zero (K1 hp).zero) ((K1 hp).mul (K1 hp).zero (K1 hp).zero)=_;rw[CRing.mul_zero,(K1 hp).add_zero]
noncomputable def ji (z:Zp m):Zp m:=if (eqN (z.1*iv m z.1%m) 1)=true then (zpField hp).inv z else (K1 hp).zero
theorem rIv_v(z:Zp m):rIv m z.1=(ji hp z).1:=by
 unfold rIv ji eqN;by_cases h:z.1*iv m z.1%m=1
 ·rw[if_pos h,if_pos (decide_eq_true h)]
  rfl
 ·rw[if_neg h,if_neg (by simpa using h)]
  rfl
theorem found_iff(z:Zp m):eqN (z.1*iv m z.1%m) 1=true↔z≠(K1 hp).zero:=by
 unfold eqN;rw[decide_eq_true_iff];exact v_inv_iff hp z
theorem pi2_1(a:N2):(pi2 m a).1=v2 ((K1 hp).mul (ph hp a.1) (ji hp (nm hp (ph2 hp a))),(K1 hp).neg ((K1 hp).mul (ph hp a.2) (ji hp (nm hp (ph2 hp a))))):=by
 unfold pi2;rw[nw_eq hp,rIv_v hp];refine Prod.ext ?_ ?_
 ·show a.1*_%m=_
  rw[ph_mul hp,ph_v];rfl
 ·show(0%m+(m - a.2*_%m%m))%m=_
  rw[ph_neg hp,ph_mul hp,ph_v,ph_v];rfl
theorem pi2_2(a:N2):(pi2 m a).2=eqN ((nm hp (ph2 hp a)).1*iv m (nm hp (ph2 hp a)).1%m) 1:=by
 unfold pi2;rw[nw_eq hp]
theorem ji_zero{z:Zp m}(h:eqN (z.1*iv m z.1%m) 1=false):ji hp z=(K1 hp).zero:=by
 unfold ji;rw[if_neg (by rw[h];simp)]
theorem ji_inv{z:Zp m}(h:eqN (z.1*iv m z.1%m) 1=true):(K1 hp).mul z (ji hp z)=(K1 hp).one:=by
 unfold ji;rw[if_pos h];exact(zpField hp).mul_inv z ((found_iff hp z).1 h)
include hp hm
theorem ri2_eq(a:N2):ri2 m (rc2 m) (rm2 m) (ro2 m a)=pi2 m a:=by
 have hn:(rm2 m (ro2 m a) (rc2 m (ro2 m a))).1=(nm hp (ph2 hp a)).1:=by
  rw[rm2_eq hp hm,ro2_eq hp,rc2_v hp hm];unfold m2;rw[ph2_v,ph2_v,mul_conj];rfl
 unfold ri2;rw[hn];refine Prod.ext ?_ ?_
 ·cases h:eqN ((nm hp (ph2 hp a)).1*iv m (nm hp (ph2 hp a)).1%m) 1 with
  | false =>
   rw[pi2_1 hp,ji_zero hp h];refine Prod.ext ?_ ?_
   ·show 0=((K1 hp).mul (ph hp a.1) (K1 hp).zero).1
    rw[CRing.mul_zero];rfl
   ·show 0=((K1 hp).neg ((K1 hp).mul (ph hp a.2) (K1 hp).zero)).1
    rw[CRing.mul_zero,CRing.neg_zero];rfl
  | true =>
   rw[pi2_1 hp];show((rc2 m (ro2 m a)).1*rIv m _%m,(rc2 m (ro2 m a)).2*rIv m _%m)=_;rw[rIv_v hp,ro2_eq hp,rc2_v hp hm];refine Prod.ext ?_ ?_
   ·exact v_mul hp _ _
   ·refine(v_mul hp _ _).trans (congrArg Subtype.val ?_)
    exact CRing.neg_mul _ _ _
 ·rw[pi2_2 hp]
  cases h:eqN ((nm hp (ph2 hp a)).1*iv m (nm hp (ph2 hp a)).1%m) 1 <;> rfl
omit hm in
theorem found2(h4:m%4=3)(a:N2):(pi2 m a).2=true↔ph2 hp a≠(K2 hp).zero:=by
 rw[pi2_2 hp,found_iff hp];exact⟨fun h e=>h (by rw[e];exact nm_of_zero hp),fun h e=>h (nm_zero hp h4 e)⟩
omit hm in
theorem inv2_mul{a:N2}(h:(pi2 m a).2=true):m2 hp (pi2 m a).1 a=v2 (K2 hp).one:=by
 rw[pi2_2 hp]at h;have hj:=ji_inv hp h;unfold m2;rw[pi2_1 hp,ph2_v];generalize ji hp (nm hp (ph2 hp a))=j at hj;refine congrArg v2 (Prod.ext ?_ ?_)
 ·show(K1 hp).add ((K1 hp).mul ((K1 hp).mul (ph hp a.1) j) (ph hp a.1)) ((K1 hp).mul ((K1 hp).neg (K1 hp).one) ((K1 hp).mul ((K1 hp).neg ((K1 hp).mul (ph hp a.2) j)) (ph hp a.2)))=(K1 hp).one
  rw[CRing.mul_m1,CRing.neg_mul,CRing.neg_neg,<- hj];unfold nm ph2;rw[CRing.add_mul];congr 1 <;> ac_rfl
 ·show(K1 hp).add ((K1 hp).mul ((K1 hp).mul (ph hp a.1) j) (ph hp a.2)) ((K1 hp).mul ((K1 hp).neg ((K1 hp).mul (ph hp a.2) j)) (ph hp a.1))=(K1 hp).zero
  rw[CRing.neg_mul,show(K1 hp).mul ((K1 hp).mul (ph hp a.2) j) (ph hp a.1)=(K1 hp).mul ((K1 hp).mul (ph hp a.1) j) (ph hp a.2) by ac_rfl,(K1 hp).add_neg]
end
end Go.Proofs.YtpipdfgfoocifaaGreat
