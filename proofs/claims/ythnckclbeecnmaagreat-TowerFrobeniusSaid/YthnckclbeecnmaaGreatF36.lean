/- The power p, squares, sixteen powers, the program's, by letters. (Cut to what is reached, written closely: TwQ · TwL · TwI · TwM · TwJ · TwX.) -/
import Derived.Test.YthnckclbeecnmaaGreatF28
import Derived.Test.YthnckclbeecnmaaGreatF34
import Derived.Test.YthnckclbeecnmaaGreatF35
import Derived.Test.YthnckclbeecnmaaGreatF30
import Derived.Test.YthnckclbeecnmaaGreatF33
set_option linter.all false
set_option maxRecDepth 100000
set_option maxHeartbeats 8000000
namespace Go.Proofs.YthnckclbeecnmaaGreat
open Go.RowKit
namespace Sy
def sRF(m lo:Nat):SV:=let r:Nat->SV:=fun j=>.i .u64 (rfw m lo (2^256*2^256%m) j:Nat)
 .ap (r 0) (.ap (r 1) (.ap (r 2) (.ap (r 3) (.ap (r 4) (.ap (r 5) (.ap (r 6) (.ap (r 7) (.ap (r 8) (.ap (r 9) (.ap (r 10) (.ap (r 11) (.ap (r 12) (.ap (r 13) (.ap (r 14) (.ap (r 15) (.ap (r 16) .e))))))))))))))))
def isR(ext:Bool)(m lo:Nat)(M:Rows):SV->Option (List Ob)
 | .p g o _ z=>if o=0/\z=0 then (if ext=true then (if g=0 then some []else none)else match rowIn g M with
  | some (c,T)=>if T=72 then some [.eq c (sRF m lo)]else none
  | none=>none)else none
 | _=>none
structure ROk (ext:Bool) (m lo:Nat) (γ0:Pl) (w0:World):Prop where
 odd:m%2=1
 big:1<m
 lt:m<2^256
 at_:ext=true->RFld w0 (γ0 0) m
 low:ext=false->lo<4294967296/\(lo*qN m 0+1)%4294967296=0
theorem isR_at{ext:Bool}{m lo n:Nat}{M:Rows}{x:SV}{p:List Ob}{γ0 γ:Pl}{w0 wx:World}(h:isR ext m lo M x=some p)(hp:All p)(hf:ROk ext m lo γ0 w0)(hγ:∀ k,k<1->γ k=γ0 k)(hw:Below w0.heap.size w0 wx)(hL:Lies γ n M wx):∃ F,x.val γ=.pointer (some ⟨F,0,none⟩)/\RFld wx F m:=by
 cases x <;> first | (cases h;done) | skip
 rename_i g o j z;dsimp only[isR]at h
 split at h
 ·rename_i hz
  obtain⟨rfl,rfl⟩:=hz;refine⟨γ g,by simp[SV.val,SV.sc],?_⟩
  split at h
  ·rename_i he
   split at h
   ·rename_i hg
    rw[hg,hγ 0 (by decide)];exact(hf.at_ he).below hw
   ·cases h
  ·rename_i he
   split at h
   ·rename_i c T hr
    split at h
    ·rename_i hT
     cases h;have hc:c=sRF m lo:=hp _ (.head _);have:=(hL _ (rowIn_ok hr)).1;rw[hc,hT]at this;have hl:=hf.low (by simpa using he);exact⟨lo,hl.1,hl.2,this⟩
    ·cases h
   ·cases h
 ·cases h
def conR(ext:Bool)(m lo:Nat)(f:FuncId)(g:List SV->Option (SV × List Ob)):Con:=⟨f,fun _ M l=>match l with
 | x::us=>match isR ext m lo M x,g us with
  | some p,some (r,q)=>some (r,q++p,[])
  | _,_=>none
 | _=>none⟩
theorem conR_ok{P:Program}{ext:Bool}{m lo:Nat}{γ0:Pl}{w0:World}{f:FuncId}{g:List SV->Option (SV × List Ob)}(hf:ROk ext m lo γ0 w0)(hc:∀ as_ wx,(callFunc f as_).run P wx=.ok (.enter f as_) wx)
  (h:∀ us r q,g us=some (r,q)->All q->(∀ x∈us,x.ok)->r.ok/\r.lt 0=true/\∀ γ F w,RFld w F m->Calls P f (.pointer (some ⟨F,0,none⟩)::us.map (·.val γ)).toArray w fun e w'=>e=.returned (r.val γ)/\Below w.heap.size w w'):ConOk P 1 γ0 w0 (conR ext m lo f g) :=
 .of hc fun n M l r p R hr hp hok=>by
  unfold conR at hr;dsimp only at hr
  split at hr
  ·rename_i x us
   split at hr
   ·rename_i p' r' q hx hq
    cases hr;obtain⟨g1,g2,g3⟩:=h us r q hq (fun a ha=>hp a (List.mem_append_left _ ha)) fun x hx=>hok x (.tail _ hx);refine⟨rfl,g1,g2,?_⟩;intro γ hγ wx hw hL;obtain⟨F,h1,h2⟩:=isR_at hx (fun a ha=>hp a (List.mem_append_right _ ha)) hf hγ hw hL;have g4:=g3 γ F wx h2;rw[<- h1]at g4;exact g4
   ·cases hr
  ·cases hr
def ref2(ext:Bool)(m lo:Nat)(f:FuncId)(op:Nat->Nat->Nat):Con:=conR ext m lo f fun l=>match l with
 | [.w a,.w b]=>some (.w (op a b),[])
 | _=>none
def ref1(ext:Bool)(m lo:Nat)(f:FuncId)(op:Nat->SV × List Ob):Con:=conR ext m lo f fun l=>match l with
 | [.w a]=>some (op a)
 | _=>none
theorem ref2_ok{P:Program}{ext:Bool}{m lo:Nat}{γ0:Pl}{w0:World}{f:FuncId}{op:Nat->Nat->Nat}(hf:ROk ext m lo γ0 w0)(hc:∀ as_ wx,(callFunc f as_).run P wx=.ok (.enter f as_) wx)(hlt:∀ a b,op a b<2^256)
  (h:∀ F a b,a<2^256->b<2^256->∀ w,RFld w F m->Calls P f #[.pointer (some ⟨F,0,none⟩),.agg (pw a),.agg (pw b)] w fun e w'=>e=.returned (.agg (pw (op a b)))/\Below w.heap.size w w'):ConOk P 1 γ0 w0 (ref2 ext m lo f op) :=
 conR_ok hf hc fun us r q hr hq hok=>by
  split at hr
  ·rename_i a b
   cases hr;exact⟨hlt a b,rfl,fun γ F w hF=>h F a b (hok (.w a) (by simp)) (hok (.w b) (by simp)) w hF⟩
  ·cases hr
theorem ref1_ok{P:Program}{ext:Bool}{m lo:Nat}{γ0:Pl}{w0:World}{f:FuncId}{op:Nat->SV × List Ob}(hf:ROk ext m lo γ0 w0)(hc:∀ as_ wx,(callFunc f as_).run P wx=.ok (.enter f as_) wx)(hlt:∀ a,(op a).1.ok/\(op a).1.lt 0=true)
  (h:∀ F a,a<2^256->All (op a).2->∀ w,RFld w F m->Calls P f #[.pointer (some ⟨F,0,none⟩),.agg (pw a)] w fun e w'=>e=.returned ((op a).1.val fun _=>0)/\Below w.heap.size w w'):ConOk P 1 γ0 w0 (ref1 ext m lo f op) :=
 conR_ok hf hc fun us r q hr hq hok=>by
  split at hr
  ·rename_i a
   have e:op a=(r,q):=Option.some.inj hr;have g1:=hlt a;have g2:=h;rw[e]at g1;refine⟨g1.1,g1.2,fun γ F w hF=>?_⟩;have g4:=h F a (hok (.w a) (by simp)) (by rw[e];exact hq) w hF;rw[e,<- val0 (γ:=γ) g1.2]at g4;exact g4
  ·cases hr
def rIv(m z:Nat):Nat:=if z*iv m z%m=1 then iv m z else 0
theorem rIv_lt{m:Nat}(h0:0<m)(hm:m<2^256)(z:Nat):rIv m z<2^256:=by
 unfold rIv
 split
 ·exact Nat.lt_trans (Nat.mod_lt _ h0) hm
 ·decide
def refs(ext:Bool)(m lo:Nat):List Con:=[ref2 ext m lo 39 fun a b=>a*b%m,ref2 ext m lo 41 (rA m),ref2 ext m lo 43 (rS m),ref1 ext m lo 38 fun a=>(.tu (.w (rIv m a)) (.b (eqN (a*iv m a%m) 1)),[]),ref1 ext m lo 35 fun a=>(.w (a%m),[])]
theorem refs_ok{ext:Bool}{m lo:Nat}{γ0:Pl}{w0:World}(hf:ROk ext m lo γ0 w0):conAll Tryz.prog 1 γ0 w0 (refs ext m lo):=by
 have hm:∀ n,n%m<2^256:=fun n=>Nat.lt_trans (Nat.mod_lt _ (by have:=hf.big;omega)) hf.lt;have h0:0<m:=by have:=hf.big;omega
 refine⟨ref2_ok hf (fun _ _=>by kernel_rfl) (fun _ _=>hm _) fun F a b ha hb w hF=>rmul_w F m a b ha hb hf.lt hf.big hf.odd w hF,ref2_ok hf (fun _ _=>by kernel_rfl) (fun a b=>rA_lt m a b) fun F a b ha hb w hF=>?_,ref2_ok hf (fun _ _=>by kernel_rfl) (fun a b=>rS_lt m a b) fun F a b ha hb w hF=>?_,
  ref1_ok hf (fun _ _=>by kernel_rfl) (fun a=>⟨⟨rIv_lt h0 hf.lt a,trivial⟩,rfl⟩) fun F a ha _ w hF=>rinv_w F m a ha hf.lt hf.big hf.odd w hF,ref1_ok hf (fun _ _=>by kernel_rfl) (fun a=>⟨hm _,rfl⟩) fun F a ha _ w hF=>?_,trivial⟩
 ·obtain⟨lo',_,_,h⟩:=hF
  exact radd_w F m lo' _ a b ha hb hf.lt w h
 ·obtain⟨lo',_,_,h⟩:=hF
  exact rsub_w F m lo' _ a b ha hb hf.lt w h
 ·obtain⟨lo',_,_,h⟩:=hF
  exact rof_any F m lo' _ a ha h0 hf.lt w h
theorem agg_ptrR{x:SV}{γ:Pl}{F:Nat}{ext:Bool}{m lo:Nat}{M:Rows}{p:List Ob}(hx:isR ext m lo M x=some p)(h:x.val γ=.pointer (some ⟨F,0,none⟩)):(SV.ap x .e).val γ=.agg #[.pointer (some ⟨F,0,none⟩)]:=by
 cases x <;> first | (cases hx;done) | skip
 simpa[SV.val,SV.cells,SV.sc]using h
def conH(ext:Bool)(m lo:Nat)(f:FuncId)(g:List SV->Option (SV × List Ob)):Con:=⟨f,fun _ M l=>match l with
 | .ap x .e::us=>match isR ext m lo M x,g us with
  | some p,some (r,q)=>some (r,q++p,[])
  | _,_=>none
 | _=>none⟩
theorem conH_ok{P:Program}{ext:Bool}{m lo:Nat}{γ0:Pl}{w0:World}{f:FuncId}{g:List SV->Option (SV × List Ob)}(hf:ROk ext m lo γ0 w0)(hc:∀ as_ wx,(callFunc f as_).run P wx=.ok (.enter f as_) wx)
  (h:∀ us r q,g us=some (r,q)->All q->(∀ x∈us,x.ok)->r.ok/\r.lt 0=true/\∀ γ F w,RFld w F m->Calls P f (.agg #[.pointer (some ⟨F,0,none⟩)]::us.map (·.val γ)).toArray w fun e w'=>e=.returned (r.val γ)/\Below w.heap.size w w'):ConOk P 1 γ0 w0 (conH ext m lo f g) :=
 .of hc fun n M l r p R hr hp hok=>by
  unfold conH at hr;dsimp only at hr
  split at hr
  ·rename_i x us
   split at hr
   ·rename_i p' r' q hx hq
    cases hr;obtain⟨g1,g2,g3⟩:=h us r q hq (fun a ha=>hp a (List.mem_append_left _ ha)) fun x hx=>hok x (.tail _ hx);refine⟨rfl,g1,g2,?_⟩;intro γ hγ wx hw hL;obtain⟨F,h1,h2⟩:=isR_at hx (fun a ha=>hp a (List.mem_append_right _ ha)) hf hγ hw hL;have g4:=g3 γ F wx h2;rw[<- agg_ptrR hx h1]at g4;exact g4
   ·cases hr
  ·cases hr
section
variable {α β:Type}
def cH1(ext:Bool)(m lo:Nat)(f:FuncId)(A:Shp α)(op:α->SV):Con:=conH ext m lo f fun l=>match l with
 | [x]=>(A.dec x).map fun a=>(op a,[])
 | _=>none
def cH2(ext:Bool)(m lo:Nat)(f:FuncId)(A:Shp α)(B:Shp β)(op:α->β->SV):Con:=conH ext m lo f fun l=>match l with
 | [x,y]=>match A.dec x,B.dec y with
  | some a,some b=>some (op a b,[])
  | _,_=>none
 | _=>none
theorem cH1_ok{P:Program}{ext:Bool}{m lo:Nat}{γ0:Pl}{w0:World}{f:FuncId}{A:Shp α}{op:α->SV}(hf:ROk ext m lo γ0 w0)(hc:∀ as_ wx,(callFunc f as_).run P wx=.ok (.enter f as_) wx)(hg:∀ a,(A.enc a).ok->(op a).ok/\(op a).lt 0=true)
  (h:∀ F a,(A.enc a).ok->∀ w,RFld w F m->Calls P f #[.agg #[.pointer (some ⟨F,0,none⟩)],(A.enc a).val o0] w fun e w'=>e=.returned ((op a).val o0)/\Below w.heap.size w w'):ConOk P 1 γ0 w0 (cH1 ext m lo f A op) :=
 conH_ok hf hc fun us r q hr hq hok=>by
  split at hr
  ·rename_i x
   obtain⟨a,ha,e⟩:=Option.map_eq_some_iff.1 hr;cases e;have hx:=A.dec_ok _ _ ha;subst hx;have oa:=hok (A.enc a) (by simp);refine⟨(hg a oa).1,(hg a oa).2,fun γ F w hF=>?_⟩;show Calls P f #[.agg #[.pointer (some ⟨F,0,none⟩)],(A.enc a).val γ] w _;rw[val0 (hg a oa).2,val0 (A.lt a)];exact h F a oa w hF
  ·cases hr
theorem cH2_ok{P:Program}{ext:Bool}{m lo:Nat}{γ0:Pl}{w0:World}{f:FuncId}{A:Shp α}{B:Shp β}{op:α->β->SV}(hf:ROk ext m lo γ0 w0)(hc:∀ as_ wx,(callFunc f as_).run P wx=.ok (.enter f as_) wx)(hg:∀ a b,(A.enc a).ok->(B.enc b).ok->(op a b).ok/\(op a b).lt 0=true)
  (h:∀ F a b,(A.enc a).ok->(B.enc b).ok->∀ w,RFld w F m->Calls P f #[.agg #[.pointer (some ⟨F,0,none⟩)],(A.enc a).val o0,(B.enc b).val o0] w fun e w'=>e=.returned ((op a b).val o0)/\Below w.heap.size w w'):ConOk P 1 γ0 w0 (cH2 ext m lo f A B op) :=
 conH_ok hf hc fun us r q hr hq hok=>by
  split at hr
  ·rename_i x y
   split at hr
   ·rename_i a b ha hb
    cases hr;have hx:=A.dec_ok _ _ ha;have hy:=B.dec_ok _ _ hb;subst hx hy;have oa:=hok (A.enc a) (by simp);have ob:=hok (B.enc b) (by simp);have g:=hg a b oa ob;refine⟨g.1,g.2,fun γ F w hF=>?_⟩;show Calls P f #[.agg #[.pointer (some ⟨F,0,none⟩)],(A.enc a).val γ,(B.enc b).val γ] w _;rw[val0 g.2,val0 (A.lt a),val0 (B.lt b)];exact h F a b oa ob w hF
   ·cases hr
  ·cases hr
end
structure Big (m:Nat):Prop where
 odd:m%2=1
 big:1<m
 lt:m<2^256
theorem ROk.of{m:Nat}(hb:Big m){F:Nat}{w:World}(h:RFld w F m):ROk true m 0 (fun _=>F) w:=⟨hb.odd,hb.big,hb.lt,fun _=>h,fun h=>(by cases h)⟩
def Ih1{α:Type}(m:Nat)(f:FuncId)(A:Shp α)(op:α->SV):Prop:=∀ ext lo γ0 w0,ROk ext m lo γ0 w0->ConOk Tryz.prog 1 γ0 w0 (cH1 ext m lo f A op)
def Ih2{α β:Type}(m:Nat)(f:FuncId)(A:Shp α)(B:Shp β)(op:α->β->SV):Prop:=∀ ext lo γ0 w0,ROk ext m lo γ0 w0->ConOk Tryz.prog 1 γ0 w0 (cH2 ext m lo f A B op)
/-! Two numbers. -/
def ra2(m:Nat)(a b:N2):N2:=(rA m a.1 b.1,rA m a.2 b.2)
def rm2(m:Nat)(a b:N2):N2:=(rS m (a.1*b.1%m) (a.2*b.2%m),rA m (a.1*b.2%m) (a.2*b.1%m))
def ro2(m:Nat)(a:N2):N2:=(a.1%m,a.2%m)
theorem ra2_ok(m:Nat)(a b:N2):(F2s (ra2 m a b)).ok:=⟨rA_lt _ _ _,rA_lt _ _ _,trivial⟩
theorem rm2_ok(m:Nat)(a b:N2):(F2s (rm2 m a b)).ok:=⟨rS_lt _ _ _,rA_lt _ _ _,trivial⟩
section
variable {m:Nat} (hb:Big m)
include hb
theorem Tadd_is:Ih2 m 12 sh2 sh2 fun a b=>F2s (ra2 m a b):=fun _ _ _ _ hf=>cH2_ok hf (fun _ _=>by kernel_rfl) (fun _ _ _ _=>⟨ra2_ok _ _ _,rfl⟩) fun F a b oa ob w hF =>
 calls_at (E1_ok (refs_ok (ROk.of hb hF))) (by kernel_rfl) (fun _=>0) Tryz.func12 (by kernel_rfl) [sG,F2s a,F2s b] ⟨⟨⟨trivial,trivial⟩,rfl⟩,⟨oa,rfl⟩,⟨ob,rfl⟩,trivial⟩ (by kernel_rfl) (by kernel_rfl) (.leaf (F2s (ra2 m a b))) (by kernel_rfl) rfl
theorem Tmul_is:Ih2 m 16 sh2 sh2 fun a b=>F2s (rm2 m a b):=fun _ _ _ _ hf=>cH2_ok hf (fun _ _=>by kernel_rfl) (fun _ _ _ _=>⟨rm2_ok _ _ _,rfl⟩) fun F a b oa ob w hF =>
 calls_at (E1_ok (refs_ok (ROk.of hb hF))) (by kernel_rfl) (fun _=>0) Tryz.func16 (by kernel_rfl) [sG,F2s a,F2s b] ⟨⟨⟨trivial,trivial⟩,rfl⟩,⟨oa,rfl⟩,⟨ob,rfl⟩,trivial⟩ (by kernel_rfl) (by kernel_rfl) (.leaf (F2s (rm2 m a b))) (by kernel_rfl) rfl
theorem Tof2_is:Ih1 m 8 sh2 fun a=>F2s (ro2 m a):=fun _ _ _ _ hf=>cH1_ok hf (fun _ _=>by kernel_rfl) (fun _ _=>⟨⟨Nat.lt_trans (Nat.mod_lt _ (Nat.lt_of_lt_of_le (by decide) hb.big)) hb.lt,Nat.lt_trans (Nat.mod_lt _ (Nat.lt_of_lt_of_le (by decide) hb.big)) hb.lt,trivial⟩,rfl⟩) fun F a oa w hF =>
 calls_at (E1_ok (refs_ok (ROk.of hb hF))) (by kernel_rfl) (fun _=>0) Tryz.func8 (by kernel_rfl) [sG,F2s a] ⟨⟨⟨trivial,trivial⟩,rfl⟩,⟨oa,rfl⟩,trivial⟩ (by kernel_rfl) (by kernel_rfl) (.leaf (F2s (ro2 m a))) (by kernel_rfl) rfl
end
end Sy
theorem tnew_any(w:World):Calls Tryz.prog 7 #[] w fun e w'=>∃ F,e=.returned (.agg #[.pointer (some ⟨F,0,none⟩)])/\RFld w' F 21888242871839275222246405745257275088696311157297823662689037894645226208583/\w.heap.size<=F/\Below w.heap.size w w':=by
 have HCR:=Lib.hid (fun wx=>rbase_any wx);have HNW:=Lib.hid (fun wx=>rnew_any 21888242871839275222246405745257275088696311157297823662689037894645226208583 (by omega) (by omega) (by omega) wx);go_enter Tryz.func7,Tryz.ntmps7
 go_wp2_with fail
 refine(HCR.out _).mono ?_;rintro e w5 ⟨rfl,hb⟩;have HB:=Lib.hid hb;clear hb HCR
 go_wp2_with fail
 refine(HNW.out _).mono ?_;rintro e w6 ⟨v,rfl,⟨F,rfl,hs,lo,h1,h2,h3⟩,hb6⟩;have hB:=HB.out.trans (hb6.mono HB.out.size);have HF:=Lib.hid (show RFat w6 F _ lo _ from h3);have HL:=Lib.hid (And.intro h1 h2);have HS:=Lib.hid (Nat.le_trans HB.out.size hs);have hr:=(hB.block w.heap.size (by simp)).trans (heap_alloc_new w _);have HR:=Lib.hid hr;have HB:=Lib.hid hB;clear hs h1 h2 h3 hb6 hB hr HNW
 go_wp2_with (refine wpList_store_row rfl 29 _ _ rfl w.heap.size #[.pointer (some ⟨F,0,none⟩)] rfl rfl 29 _ (by exact HR.out) (by kernel_rfl) (by rfl) (by kernel_rfl) ?_)
 (try simp only[Act.put])
 refine bodyPost_ret (v:=.agg #[.pointer (some ⟨F,0,none⟩)]) (results_cell_row (p:=0) rfl _ _ w.heap.size 29 #[.pointer (some ⟨F,0,none⟩)] (0,0) _ rfl (setRow_heap _ _ _ _ _ _ HR.out) Tryz.underlying29 rfl (by kernel_rfl)) rfl ⟨F,rfl,⟨lo,HL.out.1,HL.out.2,?_⟩,?_,?_⟩
 ·have h:=HS.out
  simp at h;exact(setRow_other _ _ _ _ (by omega)).trans HF.out
 ·have h:=HS.out
  simp at h;omega
 ·exact below_setRow (((Below.refl _ _).alloc (Nat.le_refl _) _).trans (HB.out.mono (by simp))) (Nat.le_refl _) _
namespace Sy
abbrev loB:Nat:=3834012553
theorem bB:Big pB:=⟨by decide,by decide,ltB⟩
theorem rB(w:World):ROk false pB loB o0 w:=⟨by decide,by decide,ltB,fun h=>(by cases h),fun _=>⟨by decide,by kernel_rfl⟩⟩
theorem lo_genB{lo q:Nat}(hq:q=3632069959)(h1:lo<4294967296)(h2:(lo*q+1)%4294967296=0):lo=3834012553:=by
 subst hq;have e:(lo*3632069959+1)*3834012553+lo=4294967296*(3242260268*lo)+3834012553:=by omega
 have hY:lo*3632069959+1=4294967296*((lo*3632069959+1) / 4294967296):=by have:=Nat.div_add_mod (lo*3632069959+1) 4294967296;rw[h2,Nat.add_zero]at this;exact this.symm
 rw[hY,Nat.mul_assoc]at e;generalize (lo*3632069959+1) / 4294967296*3834012553=P at e;generalize 3242260268*lo=Q at e;clear h2 hY;omega
theorem lo_isB{lo:Nat}(h1:lo<4294967296)(h2:(lo*qN pB 0+1)%4294967296=0):lo=loB:=lo_genB (by kernel_rfl) h1 h2
def cTNew:Con:=⟨7,fun n _ l=>match l with
 | []=>some (.ap (.p n 0 0 0) .e,[],[(n,sRF pB loB,72)])
 | _=>none⟩
theorem cTNew_ok{γ0:Pl}{w0:World}:ConOk Tryz.prog 1 γ0 w0 cTNew:=⟨fun _ _=>by kernel_rfl,fun n M l r p R hr hp hn hok _=>by
 simp only[cTNew]at hr
 split at hr
 ·cases hr
  refine⟨⟨trivial,trivial⟩,by show(decide (n<n+1)&&true)=true;simp,fun q hq=>?_,fun γ hγ wx hw hL=>?_⟩
  ·simp only[List.mem_cons,List.not_mem_nil,or_false]at hq
   subst hq;exact⟨⟨trivial,trivial,trivial,trivial,trivial,trivial,trivial,trivial,trivial,trivial,trivial,trivial,trivial,trivial,trivial,trivial,trivial,trivial⟩,rfl,Nat.le_refl _,Nat.lt_succ_self _⟩
  ·refine(tnew_any wx).mono fun e w' ⟨F,h1,⟨lo,l1,l2,h2⟩,h3,h4⟩=>?_
   have hlo:=lo_isB l1 l2;subst hlo;obtain⟨δ,hδ⟩:∃ δ:Pl,∀ k,δ k=if k=n then F else γ k:=⟨_,fun _=>rfl⟩
   refine⟨⟨δ,fun k hk=>by rw[hδ,if_neg (by omega)],?_,fun q hq=>?_,List.pairwise_singleton _ _⟩,h4⟩
   ·rw[h1]
    show _=Ending.returned (.agg #[.pointer (some ⟨δ n,0+0*0,none⟩)]);rw[hδ,if_pos rfl]
   ·simp only[List.mem_cons,List.not_mem_nil,or_false]at hq
    subst hq;refine⟨by rw[hδ,if_pos rfl];exact h3,?_⟩;show w'.heap[δ n]?=_;rw[hδ,if_pos rfl];exact h2
 ·cases hr⟩
end Sy
open Go.RowKit
namespace Sy
def wl2(a:N2):List Nat:=[a.1,a.2]
def wl12(a:N12):List Nat:=[a.1.1.1,a.1.1.2,a.2.1.1,a.2.1.2,a.1.2.1.1,a.1.2.1.2,a.2.2.1.1,a.2.2.1.2,a.1.2.2.1,a.1.2.2.2,a.2.2.2.1,a.2.2.2.2]
theorem eqL_self(l:List Nat):eqL l l=true:=decide_eq_true rfl
theorem wl2_eq{a b:N2}(h:eqL (wl2 a) (wl2 b)=true):a=b:=by
 have h:=of_decide_eq_true h;simp only[wl2,List.cons.injEq]at h;exact Prod.ext h.1 h.2.1
def eI:N2:=(0,1)
def eW:N12:=(z6,((1,0),z2,z2))
def eV:N12:=(z6,(z2,z2,(1,0)))
def e9:N12:=(((9,1),z2,z2),z6)
section
variable {A M:N2->N2->N2} {T:N12->N12->N12}
theorem lives_gen(hA:Is00 11 sh2 sh2 fun a b=>F2s (A a b))(hM:Is00 15 sh2 sh2 fun a b=>F2s (M a b))(hT:Is00 24 sh12 sh12 fun a b=>L12s (T a b))(w:World):Calls Tryz.prog 19 #[] w fun e w'=>e=.returned (.bool (bif (bif eqL (wl2 (A (M eI eI) (1,0))) (wl2 z2)then eqL (wl12 (T eW eV)) (wl12 e9)else false)then eqL (wl12 one12) (wl12 one12)else false))/\Below w.heap.size w w' :=
 calls_at (E1_ok (γ0:=o0) (more:=[cV2 11 sh2 sh2 fun a b=>F2s (A a b),cV2 15 sh2 sh2 fun a b=>F2s (M a b),cV2 24 sh12 sh12 fun a b=>L12s (T a b),cOne,cOneR]) ⟨hA _ _ _,hM _ _ _,hT _ _ _,cOne_ok,cOneR_ok,trivial⟩) (by kernel_rfl) (fun _=>0) Tryz.func19 (by kernel_rfl) [] trivial (by kernel_rfl) (by kernel_rfl)
  (.leaf (.b (bif (bif eqL (wl2 (A (M eI eI) (1,0))) (wl2 z2)then eqL (wl12 (T eW eV)) (wl12 e9)else false)then eqL (wl12 one12) (wl12 one12)else false))) (by kernel_rfl) rfl
end
theorem lives_1:A2 (M2 eI eI) (1,0)=z2:=by decide +kernel
theorem lives_2:M12 eW eV=e9:=by decide +kernel
theorem lives_any(w:World):Calls Tryz.prog 19 #[] w fun e w'=>e=.returned (.bool true)/\Below w.heap.size w w':=by
 have h:=lives_gen Add2_at Mul2_at Mul12_at w;rw[lives_1,lives_2,eqL_self,eqL_self,eqL_self]at h;exact h
def cLives:Con:=conV 19 fun l=>match l with
 | []=>some (.b true,[])
 | _=>none
theorem cLives_ok{base:Nat}{γ0:Pl}{w0:World}:ConOk Tryz.prog base γ0 w0 cLives:=conV_ok (fun _ _=>by kernel_rfl) fun us r q h hq hok=>by
 split at h
 ·cases h
  exact⟨trivial,rfl,fun γ w=>lives_any w⟩
 ·cases h
end Sy
open Go.RowKit
namespace Sy
def pc2(m:Nat)(a:N2):N2:=(a.1%m,(0%m+(m - a.2%m))%m)
section
variable {m:Nat}
theorem md_ok(hb:1<m)(hm:m<2^256)(a b:Nat):(F2s (a%m,b%m)).ok:=⟨Nat.lt_trans (Nat.mod_lt _ (Nat.lt_of_lt_of_le (by decide) hb)) hm,Nat.lt_trans (Nat.mod_lt _ (Nat.lt_of_lt_of_le (by decide) hb)) hm,trivial⟩
theorem conj2_is:Is1 m 45 sh2 fun a=>F2s (pc2 m a):=fun _ _ _ hf=>cT1_ok hf (fun _ _=>by kernel_rfl) (fun a _=>⟨md_ok hf.big hf.lt _ _,rfl⟩) fun F a oa w hF =>
 calls_at (E1_ok (flds_ok (FOk.of hF))) (by kernel_rfl) (fun _=>0) Tryz.func45 (by kernel_rfl) [sG,F2s a] ⟨⟨⟨trivial,trivial⟩,rfl⟩,⟨oa,rfl⟩,trivial⟩ (by kernel_rfl) (by kernel_rfl) (.leaf (F2s (pc2 m a))) (by kernel_rfl) rfl
end
theorem Tadd_at:Ih2 pB 12 sh2 sh2 fun a b=>F2s (ra2 pB a b):=Tadd_is bB
theorem Tmul_at:Ih2 pB 16 sh2 sh2 fun a b=>F2s (rm2 pB a b):=Tmul_is bB
theorem Tof2_at:Ih1 pB 8 sh2 fun a=>F2s (ro2 pB a):=Tof2_is bB
end Sy
open Go.RowKit
namespace Sy
def el(a:N12):Nat->N2
 | 0=>a.1.1
 | 1=>a.2.1
 | 2=>a.1.2.1
 | 3=>a.2.2.1
 | 4=>a.1.2.2
 | _=>a.2.2.2
def mp6(O:N2->N2)(h:N6):N6:=(O h.1,O h.2.1,O h.2.2)
def S11s(s:Nat->N2):SV:=.ap (F2s (s 0)) (.ap (F2s (s 1)) (.ap (F2s (s 2)) (.ap (F2s (s 3)) (.ap (F2s (s 4)) (.ap (F2s (s 5)) (.ap (F2s (s 6)) (.ap (F2s (s 7)) (.ap (F2s (s 8)) (.ap (F2s (s 9)) (.ap (F2s (s 10)) .e))))))))))
def upd(A M:N2->N2->N2)(a b:N12)(i:Nat)(s:Nat->N2):Nat->N2:=fun k=>if i<=k/\k<=i+5 then A (s k) (M (el a i) (el b (k - i)))else s k
def sums(A M:N2->N2->N2)(a b:N12):Nat->Nat->N2
 | 0=>fun _=>z2
 | i+1=>if eqL (wl2 (el a i)) (wl2 z2)=true then sums A M a b i else upd A M a b i (sums A M a b i)
def fin12(A M:N2->N2->N2)(s:Nat->N2):N12:=((A (s 0) (M (s 6) (9,1)),A (s 2) (M (s 8) (9,1)),A (s 4) (M (s 10) (9,1))),(A (s 1) (M (s 7) (9,1)),A (s 3) (M (s 9) (9,1)),s 5))
def rmt(A M:N2->N2->N2)(a b:N12):N12:=fin12 A M (sums A M a b 6)
theorem upd_ok{A M:N2->N2->N2}(oA:∀ a b,(F2s (A a b)).ok)(a b:N12)(i:Nat){s:Nat->N2}(hs:∀ k,(F2s (s k)).ok)(k:Nat):(F2s (upd A M a b i s k)).ok:=by
 unfold upd
 split
 ·exact oA _ _
 ·exact hs k
theorem sums_ok{A M:N2->N2->N2}(oA:∀ a b,(F2s (A a b)).ok)(a b:N12):∀ i k,(F2s (sums A M a b i k)).ok
 | 0,_=>F2z_ok
 | i+1,k=>by
  unfold sums
  split
  ·exact sums_ok oA a b i k
  ·exact upd_ok oA a b i (sums_ok oA a b i) k
theorem fin_ok{A M:N2->N2->N2}(oA:∀ a b,(F2s (A a b)).ok){s:Nat->N2}(hs:∀ k,(F2s (s k)).ok):(L12s (fin12 A M s)).ok:=⟨oA _ _,oA _ _,oA _ _,oA _ _,oA _ _,hs _,trivial⟩
theorem Wkt.con{S:List (Nat × Option SV)}{t k:Nat}(h:lookX S t=some (.na k)):Wkt S t (.v (.int .i64 ((k:Nat):Int))):=⟨_,h,fun _=>rfl,fun _=>trivial⟩
section
variable {m:Nat} {A M:N2->N2->N2} {O:N2->N2}
theorem Tof12_is(hb:Big m)(oO:∀ a,(F2s (O a)).ok)(hO:Ih1 m 8 sh2 fun a=>F2s (O a)):Ih1 m 20 sh12 fun a=>L12s (mp6 O a.1,mp6 O a.2):=fun _ _ _ _ hf=>cH1_ok hf (fun _ _=>by kernel_rfl) (fun a _=>⟨⟨oO _,oO _,oO _,oO _,oO _,oO _,trivial⟩,rfl⟩) fun F a oa w hF =>
 calls_at (E1_ok (more:=[cH1 true m 0 8 sh2 fun a=>F2s (O a)]) ⟨hO _ _ _ _ (ROk.of hb hF),trivial⟩) (by kernel_rfl) (fun _=>7) Tryz.func20 (by kernel_rfl) [sG,L12s a] ⟨⟨⟨trivial,trivial⟩,rfl⟩,⟨oa,rfl⟩,trivial⟩ (by kernel_rfl) (by kernel_rfl) (.leaf (L12s (mp6 O a.1,mp6 O a.2))) (by kernel_rfl) rfl
def moreM(m:Nat)(A M:N2->N2->N2):List Con:=[cH2 true m 0 12 sh2 sh2 fun a b=>F2s (A a b),cH2 true m 0 16 sh2 sh2 fun a b=>F2s (M a b)]
def hdM:Nat->Nat
 | 0=>0
 | _=>7
noncomputable def TM (m:Nat) (A M:N2->N2->N2) (a b:N12):Tr:=walk (E1 (moreM m A M)) hdM Tryz.f25 [sG,L12s a,L12s b]
def stM(a b:N12)(i:Nat)(s:Nat->N2):St:=⟨[(3,some (.p 1 0 0 0)),(4,some (.p 2 0 0 0)),(5,some (.p 3 0 0 0)),(6,some (.p 4 0 0 0)),(7,some (.p 5 0 0 0)),(8,some (.v (.int .i64 ((i:Nat):Int))))],[(5,S11s s,65),(4,L12s z12,38),(3,L12s b,38),(2,L12s a,38),(1,sG,29)],6⟩
structure RM (A M:N2->N2->N2) (a b:N12) where
 i:Nat
 s:Nat->N2
 le:i<=6
 is:s=sums A M a b i
 ok:∀ k,(F2s (s k)).ok
theorem sums_skip{a b:N12}{i:Nat}{s:Nat->N2}(h:s=sums A M a b i)(hz:eqL (wl2 (el a i)) (wl2 z2)=true):s=sums A M a b (i+1):=by
 unfold sums;rw[if_pos hz,h]
theorem sums_next{a b:N12}{i:Nat}{s:Nat->N2}(h:s=sums A M a b i)(hz:eqL (wl2 (el a i)) (wl2 z2)=false):upd A M a b i s=sums A M a b (i+1):=by
 unfold sums;rw[if_neg (by rw[hz];simp),h]
theorem Tmul12_is(hb:Big m)(oA:∀ a b,(F2s (A a b)).ok)(hA:Ih2 m 12 sh2 sh2 fun a b=>F2s (A a b))(hM:Ih2 m 16 sh2 sh2 fun a b=>F2s (M a b)):Ih2 m 25 sh12 sh12 fun a b=>L12s (rmt A M a b):=fun _ _ _ _ hf=>cH2_ok hf (fun _ _=>by kernel_rfl) (fun a b _ _=>⟨fin_ok oA (sums_ok oA a b 6),rfl⟩) fun F a b oa ob w hF=>by
 refine calls_at (E1_ok (more:=moreM m A M) ⟨hA _ _ _ _ (ROk.of hb hF),hM _ _ _ _ (ROk.of hb hF),trivial⟩) (by kernel_rfl) hdM Tryz.func25 (by kernel_rfl) [sG,L12s a,L12s b] ⟨⟨⟨trivial,trivial⟩,rfl⟩,⟨oa,rfl⟩,⟨ob,rfl⟩,trivial⟩ (by kernel_rfl) (by kernel_rfl) (.loop 0) (by kernel_rfl) ?_;refine loop_wp (T:=TM m A M a b) 0 (by kernel_rfl) (ι:=RM A M a b) (fun r=>stM a b r.i r.s) (fun r=>6 - r.i) ⟨0,fun _=>z2,Nat.zero_le _,rfl,fun _=>F2z_ok⟩ (Sub.ofW [5,4,3,2,1] (by kernel_rfl) ⟨.is (by kernel_rfl),.is (by kernel_rfl),.is (by kernel_rfl),.is (by kernel_rfl),.is (by kernel_rfl),.con (by kernel_rfl),trivial⟩ (by kernel_rfl)) fun⟨i,s,hi,hs,ho⟩=>?_;have h7:i=0\/i=1\/i=2\/i=3\/i=4\/i=5\/i=6:=by omega
 rcases h7 with rfl | rfl | rfl | rfl | rfl | rfl | rfl
 ·refine wp_of_shape (T:=(TM m A M a b).round (stM a b 0 s)) (by kernel_rfl) (L:=fun L=>(((TM m A M a b).round (stM a b 0 s)).on L).wp 1 _) ?_ fun _ h=>h
  rw[show((TM m A M a b).round (stM a b 0 s)).shape=.br (eqL (wl2 (el a 0)) (wl2 z2)) (.cut 0) (.cut 0) by kernel_rfl];exact⟨fun h=>next_wp 0 (by kernel_rfl) (st:=fun r:RM A M a b=>stM a b r.i r.s) ⟨1,s,by decide,sums_skip hs h,ho⟩ (show 6 - 1<6 - 0 by decide) (Sub.ofW [5,4,3,2,1] (by kernel_rfl) ⟨.is (by kernel_rfl),.is (by kernel_rfl),.is (by kernel_rfl),.is (by kernel_rfl),.is (by kernel_rfl),.con (by kernel_rfl),trivial⟩ (by kernel_rfl)),
   fun h=>next_wp 0 (by kernel_rfl) (st:=fun r:RM A M a b=>stM a b r.i r.s) ⟨1,upd A M a b 0 s,by decide,sums_next hs h,upd_ok oA a b 0 ho⟩ (show 6 - 1<6 - 0 by decide) (Sub.ofW [5,4,3,2,1] (by kernel_rfl) ⟨.is (by kernel_rfl),.is (by kernel_rfl),.is (by kernel_rfl),.is (by kernel_rfl),.is (by kernel_rfl),.con (by kernel_rfl),trivial⟩ (by kernel_rfl))⟩
 ·refine wp_of_shape (T:=(TM m A M a b).round (stM a b 1 s)) (by kernel_rfl) (L:=fun L=>(((TM m A M a b).round (stM a b 1 s)).on L).wp 1 _) ?_ fun _ h=>h
  rw[show((TM m A M a b).round (stM a b 1 s)).shape=.br (eqL (wl2 (el a 1)) (wl2 z2)) (.cut 0) (.cut 0) by kernel_rfl];exact⟨fun h=>next_wp 0 (by kernel_rfl) (st:=fun r:RM A M a b=>stM a b r.i r.s) ⟨2,s,by decide,sums_skip hs h,ho⟩ (show 6 - 2<6 - 1 by decide) (Sub.ofW [5,4,3,2,1] (by kernel_rfl) ⟨.is (by kernel_rfl),.is (by kernel_rfl),.is (by kernel_rfl),.is (by kernel_rfl),.is (by kernel_rfl),.con (by kernel_rfl),trivial⟩ (by kernel_rfl)),
   fun h=>next_wp 0 (by kernel_rfl) (st:=fun r:RM A M a b=>stM a b r.i r.s) ⟨2,upd A M a b 1 s,by decide,sums_next hs h,upd_ok oA a b 1 ho⟩ (show 6 - 2<6 - 1 by decide) (Sub.ofW [5,4,3,2,1] (by kernel_rfl) ⟨.is (by kernel_rfl),.is (by kernel_rfl),.is (by kernel_rfl),.is (by kernel_rfl),.is (by kernel_rfl),.con (by kernel_rfl),trivial⟩ (by kernel_rfl))⟩
 ·refine wp_of_shape (T:=(TM m A M a b).round (stM a b 2 s)) (by kernel_rfl) (L:=fun L=>(((TM m A M a b).round (stM a b 2 s)).on L).wp 1 _) ?_ fun _ h=>h
  rw[show((TM m A M a b).round (stM a b 2 s)).shape=.br (eqL (wl2 (el a 2)) (wl2 z2)) (.cut 0) (.cut 0) by kernel_rfl];exact⟨fun h=>next_wp 0 (by kernel_rfl) (st:=fun r:RM A M a b=>stM a b r.i r.s) ⟨3,s,by decide,sums_skip hs h,ho⟩ (show 6 - 3<6 - 2 by decide) (Sub.ofW [5,4,3,2,1] (by kernel_rfl) ⟨.is (by kernel_rfl),.is (by kernel_rfl),.is (by kernel_rfl),.is (by kernel_rfl),.is (by kernel_rfl),.con (by kernel_rfl),trivial⟩ (by kernel_rfl)),
   fun h=>next_wp 0 (by kernel_rfl) (st:=fun r:RM A M a b=>stM a b r.i r.s) ⟨3,upd A M a b 2 s,by decide,sums_next hs h,upd_ok oA a b 2 ho⟩ (show 6 - 3<6 - 2 by decide) (Sub.ofW [5,4,3,2,1] (by kernel_rfl) ⟨.is (by kernel_rfl),.is (by kernel_rfl),.is (by kernel_rfl),.is (by kernel_rfl),.is (by kernel_rfl),.con (by kernel_rfl),trivial⟩ (by kernel_rfl))⟩
 ·refine wp_of_shape (T:=(TM m A M a b).round (stM a b 3 s)) (by kernel_rfl) (L:=fun L=>(((TM m A M a b).round (stM a b 3 s)).on L).wp 1 _) ?_ fun _ h=>h
  rw[show((TM m A M a b).round (stM a b 3 s)).shape=.br (eqL (wl2 (el a 3)) (wl2 z2)) (.cut 0) (.cut 0) by kernel_rfl];exact⟨fun h=>next_wp 0 (by kernel_rfl) (st:=fun r:RM A M a b=>stM a b r.i r.s) ⟨4,s,by decide,sums_skip hs h,ho⟩ (show 6 - 4<6 - 3 by decide) (Sub.ofW [5,4,3,2,1] (by kernel_rfl) ⟨.is (by kernel_rfl),.is (by kernel_rfl),.is (by kernel_rfl),.is (by kernel_rfl),.is (by kernel_rfl),.con (by kernel_rfl),trivial⟩ (by kernel_rfl)),
   fun h=>next_wp 0 (by kernel_rfl) (st:=fun r:RM A M a b=>stM a b r.i r.s) ⟨4,upd A M a b 3 s,by decide,sums_next hs h,upd_ok oA a b 3 ho⟩ (show 6 - 4<6 - 3 by decide) (Sub.ofW [5,4,3,2,1] (by kernel_rfl) ⟨.is (by kernel_rfl),.is (by kernel_rfl),.is (by kernel_rfl),.is (by kernel_rfl),.is (by kernel_rfl),.con (by kernel_rfl),trivial⟩ (by kernel_rfl))⟩
 ·refine wp_of_shape (T:=(TM m A M a b).round (stM a b 4 s)) (by kernel_rfl) (L:=fun L=>(((TM m A M a b).round (stM a b 4 s)).on L).wp 1 _) ?_ fun _ h=>h
  rw[show((TM m A M a b).round (stM a b 4 s)).shape=.br (eqL (wl2 (el a 4)) (wl2 z2)) (.cut 0) (.cut 0) by kernel_rfl];exact⟨fun h=>next_wp 0 (by kernel_rfl) (st:=fun r:RM A M a b=>stM a b r.i r.s) ⟨5,s,by decide,sums_skip hs h,ho⟩ (show 6 - 5<6 - 4 by decide) (Sub.ofW [5,4,3,2,1] (by kernel_rfl) ⟨.is (by kernel_rfl),.is (by kernel_rfl),.is (by kernel_rfl),.is (by kernel_rfl),.is (by kernel_rfl),.con (by kernel_rfl),trivial⟩ (by kernel_rfl)),
   fun h=>next_wp 0 (by kernel_rfl) (st:=fun r:RM A M a b=>stM a b r.i r.s) ⟨5,upd A M a b 4 s,by decide,sums_next hs h,upd_ok oA a b 4 ho⟩ (show 6 - 5<6 - 4 by decide) (Sub.ofW [5,4,3,2,1] (by kernel_rfl) ⟨.is (by kernel_rfl),.is (by kernel_rfl),.is (by kernel_rfl),.is (by kernel_rfl),.is (by kernel_rfl),.con (by kernel_rfl),trivial⟩ (by kernel_rfl))⟩
 ·refine wp_of_shape (T:=(TM m A M a b).round (stM a b 5 s)) (by kernel_rfl) (L:=fun L=>(((TM m A M a b).round (stM a b 5 s)).on L).wp 1 _) ?_ fun _ h=>h
  rw[show((TM m A M a b).round (stM a b 5 s)).shape=.br (eqL (wl2 (el a 5)) (wl2 z2)) (.cut 0) (.cut 0) by kernel_rfl];exact⟨fun h=>next_wp 0 (by kernel_rfl) (st:=fun r:RM A M a b=>stM a b r.i r.s) ⟨6,s,by decide,sums_skip hs h,ho⟩ (show 6 - 6<6 - 5 by decide) (Sub.ofW [5,4,3,2,1] (by kernel_rfl) ⟨.is (by kernel_rfl),.is (by kernel_rfl),.is (by kernel_rfl),.is (by kernel_rfl),.is (by kernel_rfl),.con (by kernel_rfl),trivial⟩ (by kernel_rfl)),
   fun h=>next_wp 0 (by kernel_rfl) (st:=fun r:RM A M a b=>stM a b r.i r.s) ⟨6,upd A M a b 5 s,by decide,sums_next hs h,upd_ok oA a b 5 ho⟩ (show 6 - 6<6 - 5 by decide) (Sub.ofW [5,4,3,2,1] (by kernel_rfl) ⟨.is (by kernel_rfl),.is (by kernel_rfl),.is (by kernel_rfl),.is (by kernel_rfl),.is (by kernel_rfl),.con (by kernel_rfl),trivial⟩ (by kernel_rfl))⟩
 ·refine wp_of_shape (T:=(TM m A M a b).round (stM a b 6 s)) (by kernel_rfl) (L:=fun L=>(((TM m A M a b).round (stM a b 6 s)).on L).wp 1 _) ?_ fun _ h=>h
  rw[show((TM m A M a b).round (stM a b 6 s)).shape=.leaf (L12s (fin12 A M s)) by kernel_rfl];show(L12s (fin12 A M s)).val _=_;rw[hs];rfl
end
end Sy
open Go.RowKit
namespace Sy
/-! Named. -/
theorem Tof12_at:Ih1 pB 20 sh12 fun a=>L12s (mp6 (ro2 pB) a.1,mp6 (ro2 pB) a.2):=Tof12_is bB (fun _=>md_ok (by decide) ltB _ _) Tof2_at
theorem Tmul12_at:Ih2 pB 25 sh12 sh12 fun a b=>L12s (rmt (ra2 pB) (rm2 pB) a b):=Tmul12_is bB (ra2_ok pB) Tadd_at Tmul_at
end Sy
open Go.RowKit
namespace Sy
def tnB:N2:=(8376118865763821496583973867626364092589906065868298776909617916018768340080,16469823323077808223889137241176536799009286646108169935659301613961712198316)
theorem tnB_ok:(F2s tnB).ok:=⟨show 8376118865763821496583973867626364092589906065868298776909617916018768340080<2^256 by decide,show 16469823323077808223889137241176536799009286646108169935659301613961712198316<2^256 by decide,trivial⟩
def cTurn(t:N2):Con:=conV 83 fun l=>match l with
 | []=>some (F2s t,[])
 | _=>none
theorem cTurn_ok{base:Nat}{γ0:Pl}{w0:World}:ConOk Tryz.prog base γ0 w0 (cTurn tnB):=conV_ok (fun _ _=>by kernel_rfl) fun us r q h hq hok=>by
 split at h
 ·cases h
  exact⟨tnB_ok,rfl,fun γ w=>calls_at (E1_ok (γ0:=γ) (more:=[]) trivial) (by kernel_rfl) (fun _=>0) Tryz.func83 (by kernel_rfl) [] trivial (by kernel_rfl) (by kernel_rfl) (.leaf (F2s tnB)) (by kernel_rfl) rfl⟩
 ·cases h
section
variable {m:Nat} {M:N2->N2->N2} {C:N2->N2} {t:N2}
def tk(M:N2->N2->N2)(t:N2):Nat->N2
 | 0=>(1,0)
 | k+1=>M (tk M t k) t
def pwr(M:N2->N2->N2)(C:N2->N2)(t:N2)(a:N12):N12:=((M (C a.1.1) (tk M t 0),M (C a.1.2.1) (tk M t 2),M (C a.1.2.2) (tk M t 4)),(M (C a.2.1) (tk M t 1),M (C a.2.2.1) (tk M t 3),M (C a.2.2.2) (tk M t 5)))
theorem power_is(ct:∀ base γ0 w0,ConOk Tryz.prog base γ0 w0 (cTurn t))(o:∀ a b,(F2s (M a b)).ok)(hM:Is2 m 44 sh2 sh2 fun a b=>F2s (M a b))(hC:Is1 m 45 sh2 fun a=>F2s (C a)):Is1 m 54 sh12 fun a=>L12s (pwr M C t a):=fun _ _ _ hf=>cT1_ok hf (fun _ _=>by kernel_rfl) (fun a _=>⟨⟨o _ _,o _ _,o _ _,o _ _,o _ _,o _ _,trivial⟩,rfl⟩) fun F a oa w hF =>
 calls_at (E1_ok (more:=[cOf,cTurn t,cT2 true m 44 sh2 sh2 fun a b=>F2s (M a b),cT1 true m 45 sh2 fun a=>F2s (C a)]) ⟨cOf_ok,ct _ _ _,hM _ _ _ (FOk.of hF),hC _ _ _ (FOk.of hF),trivial⟩) (by kernel_rfl) (fun _=>7) Tryz.func54 (by kernel_rfl) [sG,L12s a] ⟨⟨⟨trivial,trivial⟩,rfl⟩,⟨oa,rfl⟩,trivial⟩ (by kernel_rfl) (by kernel_rfl) (.leaf (L12s (pwr M C t a))) (by kernel_rfl) rfl
end
section
variable {m:Nat} {A S M:N6->N6->N6} {H:N6->N6}
def sqt(A S M:N6->N6->N6)(H:N6->N6)(a:N12):N12:=(S (M (A a.1 a.2) (A a.1 (H a.2))) (A (M a.1 a.2) (H (M a.1 a.2))),A (M a.1 a.2) (M a.1 a.2))
theorem square12_is(oA:∀ a b,(H3s (A a b)).ok)(oS:∀ a b,(H3s (S a b)).ok)(hA:Is2 m 74 sh6 sh6 fun a b=>H3s (A a b))(hS:Is2 m 75 sh6 sh6 fun a b=>H3s (S a b))(hM:Is2 m 76 sh6 sh6 fun a b=>H3s (M a b))(hH:Is1 m 77 sh6 fun a=>H3s (H a)):Is1 m 82 sh12 fun a=>L12s (sqt A S M H a):=fun _ _ _ hf=>cT1_ok hf (fun _ _=>by kernel_rfl) (fun a _=>⟨L12_ok (oS _ _) (oA _ _),rfl⟩) fun F a oa w hF =>
 calls_at (E1_ok (more:=[cHalves,cWhole,cT2 true m 74 sh6 sh6 fun a b=>H3s (A a b),cT2 true m 75 sh6 sh6 fun a b=>H3s (S a b),cT2 true m 76 sh6 sh6 fun a b=>H3s (M a b),cT1 true m 77 sh6 fun a=>H3s (H a)]) ⟨halves_is _ _ _,whole_is _ _ _,hA _ _ _ (FOk.of hF),hS _ _ _ (FOk.of hF),hM _ _ _ (FOk.of hF),hH _ _ _ (FOk.of hF),trivial⟩) (by kernel_rfl) (fun _=>0) Tryz.func82 (by kernel_rfl) [sG,L12s a] ⟨⟨⟨trivial,trivial⟩,rfl⟩,⟨oa,rfl⟩,trivial⟩ (by kernel_rfl) (by kernel_rfl) (.leaf (L12s (sqt A S M H a))) (by kernel_rfl) rfl
end
section
variable {m:Nat} {M:N12->N12->N12}
def pws(M:N12->N12->N12)(a:N12):Nat->N12
 | 0=>one12
 | k+1=>M (pws M a k) a
theorem s16f_ok{f:Nat->N12}(h:∀ k,(L12s (f k)).ok):(s16f f).ok:=⟨h _,h _,h _,h _,h _,h _,h _,h _,h _,h _,h _,h _,h _,h _,h _,h _,trivial⟩
theorem pws_ok(o:∀ a b,(L12s (M a b)).ok)(a:N12):∀ k,(L12s (pws M a k)).ok
 | 0=>one12_ok
 | _+1=>o _ _
theorem powers_is(o:∀ a b,(L12s (M a b)).ok)(hM:Is2 m 49 sh12 sh12 fun a b=>L12s (M a b)):Is1 m 81 sh12 fun a=>s16f (pws M a):=fun _ _ _ hf=>cT1_ok hf (fun _ _=>by kernel_rfl) (fun a _=>⟨s16f_ok (pws_ok o a),by kernel_rfl⟩) fun F a oa w hF =>
 calls_at (E1_ok (more:=[cOne,cT2 true m 49 sh12 sh12 fun a b=>L12s (M a b)]) ⟨cOne_ok,hM _ _ _ (FOk.of hF),trivial⟩) (by kernel_rfl) (fun _=>16) Tryz.func81 (by kernel_rfl) [sG,L12s a] ⟨⟨⟨trivial,trivial⟩,rfl⟩,⟨oa,rfl⟩,trivial⟩ (by kernel_rfl) (by kernel_rfl) (.leaf (s16f (pws M a))) (by kernel_rfl) rfl
end
section
variable {C:N12->N12}
theorem Power_is(o:∀ a,(L12s (C a)).ok)(hC:Is1 pB 54 sh12 fun a=>L12s (C a)):Is0 31 sh12 fun a=>L12s (C a):=fun _ _ _=>cV1_ok (fun _ _=>by kernel_rfl) (fun a _=>⟨o a,rfl⟩) fun a oa w =>
 calls_at (E1_ok (γ0:=o0) (more:=[cFields,cT1 false pB 54 sh12 fun a=>L12s (C a)]) ⟨cFields_ok,hC _ _ _ (fB w),trivial⟩) (by kernel_rfl) (fun _=>0) Tryz.func31 (by kernel_rfl) [L12s a] ⟨⟨oa,rfl⟩,trivial⟩ (by kernel_rfl) (by kernel_rfl) (.leaf (L12s (C a))) (by kernel_rfl) rfl
end
def P12:N12->N12:=pwr (m2 prB) (pc2 pB) tnB
theorem P12_ok(a:N12):(L12s (P12 a)).ok:=⟨F2v_ok ltB _,F2v_ok ltB _,F2v_ok ltB _,F2v_ok ltB _,F2v_ok ltB _,F2v_ok ltB _,trivial⟩
theorem Power_at:Is0 31 sh12 fun a=>L12s (P12 a):=Power_is P12_ok (power_is (fun _ _ _=>cTurn_ok) (fun _ _=>F2v_ok ltB _) (mul2_is prB) conj2_is)
end Sy
end Go.Proofs.YthnckclbeecnmaaGreat
