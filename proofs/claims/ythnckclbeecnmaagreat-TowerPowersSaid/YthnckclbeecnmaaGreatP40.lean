/- bailiwicklaw10.TowerPowers: the statement about it: whatever the input: true; the input reads as it did. CONDITIONS: none. (Cut to what is reached, written closely: TwR5 · TwLp · TowerPowers.) -/
import Derived.Test.YthnckclbeecnmaaGreatP39
import Derived.Test.YthnckclbeecnmaaGreatP16
import Derived.Test.YthnckclbeecnmaaGreatP28
set_option linter.all false
set_option maxRecDepth 100000
set_option maxHeartbeats 8000000
namespace Go.Proofs.YthnckclbeecnmaaGreat
open Go.RowKit
theorem run_pickN{P:Program}{a:Act}{o:Oper}{w:World}(c x y:Operand)(b:Bool)(r:Value)(ho:o.op=.pick c x y)(hc:a.eval c=.bool b)(hr:(if b=true then a.eval x else a.eval y)=r):(execOp a.eval o).run P w=.ok (.value r) w:=by
 unfold execOp;rw[ho];simp[asBool,hc,hr,Sem.run_pure]
namespace Sy
theorem of12_calls{w:World}{F:Nat}(a:N12)(oa:(L12s a).ok)(hF:RFld w F pB):Calls Tryz.prog 20 #[.agg #[.pointer (some ⟨F,0,none⟩)],(L12s a).val o0] w fun e w'=>e=.returned ((L12s (v12 (ph12 prB a))).val o0)/\Below w.heap.size w w':=by
 have h:=(Tof12_at true 0 (fun _=>F) w (ROk.of bB hF)).all 1 [] [sG,L12s a] (L12s (v12 (ph12 prB a))) [] [] (by rfl) (fun _ hp=>by cases hp) (Nat.le_refl _) (fun x hx=>by
  simp only[List.mem_cons,List.not_mem_nil,or_false]at hx;rcases hx with rfl | rfl
  ·exact⟨⟨trivial,trivial⟩,rfl⟩
  ·exact⟨oa,rfl⟩) (fun _ hr=>by cases hr)
 have k:=h.2.2.2 (fun _=>F) (fun _ _=>rfl) w (Below.refl _ _) (fun _ hr=>by cases hr);exact k.mono fun e w' hm=>made_nil (γ:=fun _=>F) (n:=1) (r:=L12s (v12 (ph12 prB a))) rfl hm
theorem ne12_same(Y:N12)(oY:(L12s Y).ok)(ox oy:Operand)(wx:World):(eqGuard .neq 38 ox oy ((L12s Y).val o0) ((L12s Y).val o0)).run Tryz.prog wx=.ok () wx/\(binOp .neq 38 ((L12s Y).val o0) ((L12s Y).val o0)).run Tryz.prog wx=.ok (.bool false) wx:=by
 have h:bopG .neq 38 (L12s Y) (L12s Y)=some (.b (!eqL (wl12 Y) (wl12 Y)),[]):=by kernel_rfl
 have k:=(bopG_ok h (fun _ hp=>by cases hp) oY oY).2.2 o0 ox oy wx;rw[eqL_self]at k;exact k
theorem ldT{w:World}{B F:Nat}(hB:w.heap[B]?=some (.cells #[.pointer (some ⟨F,0,none⟩)] 29 (0,0))):(Instr.loadAt 29 (.pointer (some ⟨B,0,none⟩))).run Tryz.prog w=.ok (.agg #[.pointer (some ⟨F,0,none⟩)]) w :=
 have ty:=tyAll_mem tysT_ok tyR (List.mem_append_right _ (.head _))
 load_ok (γ:=fun _=>F) (x:=sG) (r:=sG) hB ty.d ty.sz rfl
end Sy
open Sy
theorem pw_r5{A B C F n:Nat}{a:N12}{e1:Value}{f:Nat->Nat}{a0:Act}{w:World}{X:Exit->Act->World->Prop}(oa:(L12s a).ok)(hz0:a0.tmps.size=64)
  (h3:a0.tmps.getD 3 undef=.pointer (some ⟨A,0,none⟩)) (hA:w.heap[A]?=some (.cells ((L12s a).cells o0).toArray 38 (0,0))) (h7:a0.tmps.getD 7 undef=.pointer (some ⟨B,0,none⟩)) (hB:w.heap[B]?=some (.cells #[.pointer (some ⟨F,0,none⟩)] 29 (0,0))) (hF:RFld w F pB)
  (h8:a0.tmps.getD 8 undef=.pointer (some ⟨C,0,none⟩)) (hC8:w.heap[C]?=some (.cells ((L12s (pw12 prB (ph12 prB a) (natV 4294967296 f n))).cells o0).toArray 38 (0,0))) (h9:a0.tmps.getD 9 undef=.int .i64 0)
  (h2:a0.tmps.getD 2 undef=e1) (he:ArgN w e1 n f) (lf:∀ j,j<n->f j<4294967296) (few:n<=3)
  (hX:∀ a' w',a'.tmps.size=a0.tmps.size->a'.defers=a0.defers->Below w.heap.size w w'->(∀ t,t ∉ [38,26,27,28,29,30,31,32,33,34,35,36,37]->a'.tmps.getD t undef=a0.tmps.getD t undef)->a'.tmps.getD 38 undef=.bool false->X .normal a' w') :
  ((Tryz.f5.body.bind (regC 5)).getD .skip).wp Tryz.prog X a0 w:=by
 have hAl:=(Array.getElem?_eq_some_iff.1 hA).1;have hBl:=(Array.getElem?_eq_some_iff.1 hB).1;have hCl:=(Array.getElem?_eq_some_iff.1 hC8).1;obtain⟨V,hV⟩:∃ V,natV 4294967296 f n=V:=⟨_,rfl⟩
 obtain⟨Y,hY⟩:∃ Y,pw12 prB (ph12 prB a) V=Y:=⟨_,rfl⟩
 have oY:(L12s Y).ok:=hY ▸ pw12_ok _ _;have hAN:ANv V e1 w:=⟨n,f,he,by omega,lf,hV⟩
 rw[hV,hY]at hC8
 conv=>arg 2;whnf
 refine region_many [.val 26 (.int .i64 0),.val 27 (.bool false),.val 28 (.bool false),.val 29 ((L12s Y).val o0),.val 30 (.agg #[.pointer (some ⟨F,0,none⟩)]),.val 31 (.agg #[.pointer (some ⟨F,0,none⟩)]),.val 32 ((L12s a).val o0),.val 33 ((L12s (v12 (ph12 prB a))).val o0),.val 34 e1,.own 35 (RP V),.val 36 ((L12s Y).val o0),.val 37 (.bool false),.val 38 (.bool false)] [] (fun _=>#[]) (fun i=>i) (by kernel_rfl) (by kernel_rfl)
  (by exact⟨trivial,trivial,trivial,trivial,trivial,trivial,trivial,trivial,trivial,⟨rfl,fun v wa wb hb h=>h.below hb⟩,trivial,trivial,trivial,trivial⟩)
  (fun p hp=>by cases hp) ?_ ?_
 ·refine⟨?_,?_,?_,?_,?_,?_,?_,?_,?_,?_,?_,?_,?_,trivial⟩
  ·intro ac wx hC hsz hK
   have h0:=(hK.1 9 (by kernel_rfl)).trans h9;exact mm_val _ rfl (by kernel_rfl) (run_mvN (.tmp 9) _ (.inl rfl) h0) hC (by kernel_rfl) (by rw[hsz,hz0];decide) rfl
  ·intro ac wx hC hsz hK
   have h0:ac.tmps.getD 26 undef=.int .i64 0:=hK.2 ⟨0,.data⟩ (by simp) rfl _ rfl;exact mm_bin .neq 47 (.tmp 26) (.const (.int .i64 0)) 47 _ _ _ rfl rfl (by kernel_rfl) h0 rfl (by kernel_rfl) (by kernel_rfl) hC (by kernel_rfl) (by rw[hsz,hz0];decide) rfl
  ·intro ac wx hC hsz hK
   have h0:ac.tmps.getD 27 undef=.bool false:=hK.2 ⟨1,.data⟩ (by simp) rfl _ rfl;exact mm_val _ rfl (by kernel_rfl) (run_mvN (.tmp 27) _ (.inl rfl) h0) hC (by kernel_rfl) (by rw[hsz,hz0];decide) rfl
  ·intro ac wx hC hsz hK
   have hg:ac.tmps.getD 28 undef=.bool false:=hK.2 ⟨2,.guard⟩ (by simp) rfl _ rfl;have h0:=(hK.1 8 (by kernel_rfl)).trans h8;exact mm_load 38 (.tmp 8) _ _ rfl rfl (wanted_of (d:=28) rfl (by kernel_rfl) hg) h0 (ld12 ((hC.1.block _ hCl).trans hC8)) hC (by kernel_rfl) (by rw[hsz,hz0];decide) rfl
  ·intro ac wx hC hsz hK
   have hg:ac.tmps.getD 28 undef=.bool false:=hK.2 ⟨2,.guard⟩ (by simp) rfl _ rfl;have h0:=(hK.1 7 (by kernel_rfl)).trans h7;exact mm_load 29 (.tmp 7) _ _ rfl rfl (wanted_of (d:=28) rfl (by kernel_rfl) hg) h0 (ldT ((hC.1.block _ hBl).trans hB)) hC (by kernel_rfl) (by rw[hsz,hz0];decide) rfl
  ·intro ac wx hC hsz hK
   have hg:ac.tmps.getD 28 undef=.bool false:=hK.2 ⟨2,.guard⟩ (by simp) rfl _ rfl;have h0:=(hK.1 7 (by kernel_rfl)).trans h7;exact mm_load 29 (.tmp 7) _ _ rfl rfl (wanted_of (d:=28) rfl (by kernel_rfl) hg) h0 (ldT ((hC.1.block _ hBl).trans hB)) hC (by kernel_rfl) (by rw[hsz,hz0];decide) rfl
  ·intro ac wx hC hsz hK
   have hg:ac.tmps.getD 28 undef=.bool false:=hK.2 ⟨2,.guard⟩ (by simp) rfl _ rfl;have h0:=(hK.1 3 (by kernel_rfl)).trans h3;exact mm_load 38 (.tmp 3) _ _ rfl rfl (wanted_of (d:=28) rfl (by kernel_rfl) hg) h0 (ld12 ((hC.1.block _ hAl).trans hA)) hC (by kernel_rfl) (by rw[hsz,hz0];decide) rfl
  ·intro ac wx hC hsz hK
   have hg:ac.tmps.getD 28 undef=.bool false:=hK.2 ⟨2,.guard⟩ (by simp) rfl _ rfl;have h0:ac.tmps.getD 31 undef=.agg #[.pointer (some ⟨F,0,none⟩)]:=hK.2 ⟨5,.data⟩ (by simp) rfl _ rfl;have h1:ac.tmps.getD 32 undef=(L12s a).val o0:=hK.2 ⟨6,.data⟩ (by simp) rfl _ rfl;refine mm_call 20 #[ac.tmps.getD 31 undef,ac.tmps.getD 32 undef] _ rfl (wanted_of (d:=28) rfl (by kernel_rfl) hg) (by kernel_rfl) ?_ hC (by kernel_rfl) (by rw[hsz,hz0];decide) rfl;rw[h0,h1];exact of12_calls a oa (hF.below hC.1)
  ·intro ac wx hC hsz hK
   have hg:ac.tmps.getD 28 undef=.bool false:=hK.2 ⟨2,.guard⟩ (by simp) rfl _ rfl;have h0:=(hK.1 2 (by kernel_rfl)).trans h2;exact mm_val e1 rfl (wanted_of (d:=28) rfl (by kernel_rfl) hg) (run_mvN (.tmp 2) _ (.inl rfl) h0) hC (by kernel_rfl) (by rw[hsz,hz0];decide) rfl
  ·intro ac wx hC hsz hK
   have hg:ac.tmps.getD 28 undef=.bool false:=hK.2 ⟨2,.guard⟩ (by simp) rfl _ rfl;have h0:ac.tmps.getD 34 undef=e1:=hK.2 ⟨8,.data⟩ (by simp) rfl _ rfl;refine mm_callx 30 #[ac.tmps.getD 34 undef] (RP V) rfl (wanted_of (d:=28) rfl (by kernel_rfl) hg) (by kernel_rfl) ?_ hC (by kernel_rfl) (by rw[hsz,hz0];decide) rfl;rw[h0];exact plain_an (hAN.below hC.1)
  ·intro ac wx hC hsz hK
   have hg:ac.tmps.getD 28 undef=.bool false:=hK.2 ⟨2,.guard⟩ (by simp) rfl _ rfl;have h0:ac.tmps.getD 30 undef=.agg #[.pointer (some ⟨F,0,none⟩)]:=hK.2 ⟨4,.data⟩ (by simp) rfl _ rfl;have h1:ac.tmps.getD 33 undef=(L12s (v12 (ph12 prB a))).val o0:=hK.2 ⟨7,.data⟩ (by simp) rfl _ rfl;obtain⟨g,k,c,h,h4,hN,hv,-⟩:RP V (ac.tmps.getD 35 undef) wx:=hK.2 ⟨9,.data⟩ (by simp) rfl _ rfl;refine mm_call 29 #[ac.tmps.getD 30 undef,ac.tmps.getD 33 undef,ac.tmps.getD 35 undef] _ rfl (wanted_of (d:=28) rfl (by kernel_rfl) hg) (by kernel_rfl) ?_ hC (by kernel_rfl) (by rw[hsz,hz0];decide) rfl;rw[h0,h1,h4];have t:=Texp_at hN (ph12 prB a) (hF.below hC.1);rw[hv,hY]at t;exact t
  ·intro ac wx hC hsz hK
   have hg:ac.tmps.getD 28 undef=.bool false:=hK.2 ⟨2,.guard⟩ (by simp) rfl _ rfl;have h0:ac.tmps.getD 29 undef=(L12s Y).val o0:=hK.2 ⟨3,.data⟩ (by simp) rfl _ rfl;have h1:ac.tmps.getD 36 undef=(L12s Y).val o0:=hK.2 ⟨10,.data⟩ (by simp) rfl _ rfl;exact mm_bin .neq 38 (.tmp 29) (.tmp 36) 38 _ _ _ rfl rfl (wanted_of (d:=28) rfl (by kernel_rfl) hg) h0 h1 (ne12_same Y oY _ _ wx).1 (ne12_same Y oY (.tmp 29) (.tmp 36) wx).2 hC (by kernel_rfl) (by rw[hsz,hz0];decide) rfl
  ·intro ac wx hC hsz hK
   have h0:ac.tmps.getD 28 undef=.bool false:=hK.2 ⟨2,.data⟩ (by simp) rfl _ rfl;have h1:ac.tmps.getD 37 undef=.bool false:=hK.2 ⟨11,.data⟩ (by simp) rfl _ rfl;exact mm_val _ rfl (by kernel_rfl) (run_pickN (.tmp 28) (.const (.bool true)) (.tmp 37) false _ rfl h0 h1) hC (by kernel_rfl) (by rw[hsz,hz0];decide) rfl
 ·intro g wx hb _ hf
  generalize hA':putAll g _ a0=a' at hf |-
  have z1:a'.tmps.size=a0.tmps.size:=by rw[<- hA'];exact putAll_size _ _ _
  have z2:a'.defers=a0.defers:=by rw[<- hA'];exact putAll_defers _ _ _
  have z3:∀ t,t ∉ [38,26,27,28,29,30,31,32,33,34,35,36,37]->a'.tmps.getD t undef=a0.tmps.getD t undef:=fun t ht=>by
   rw[<- hA'];exact putAll_other (not_dst (ks:=[38,26,27,28,29,30,31,32,33,34,35,36,37]) (by kernel_rfl) ht)
  clear hA';exact hX a' wx z1 z2 hb z3 (hf 12 _ rfl)
open Go.RowKit
theorem wpList_valN{P:Program}{ops:Array Oper}{rest:List Oper}{o:Oper}{a:Act}{w w':World}{Q:Exit->Act->World->Prop}(hgd:o.guard=none)(v:Value)(hr:(execOp a.eval o).run P w=.ok (.value v) w')(h:wpList P ops Q rest (a.put o.dst v) w'):wpList P ops Q (o::rest) a w :=
 wpList_plain hgd fun _ hK=>by
  unfold Oper.wp;rw[hr];exact hK _ _ h
theorem run_lenN{a:Act}{o:Oper}{w:World}{p:Option Addr}{n c:Nat}(x:Operand)(ho:o.op=.call { callee:=.builtin .len,args:=#[x],argTypes:=#[46] })(hx:a.eval x=.slice p n c):(execOp a.eval o).run Tryz.prog w=.ok (.value (.int .i64 (n:Nat))) w:=by
 have h:=Sy.len_any (P:=Tryz.prog) (T:=46) (ty:=o.type) (b:=p) (n:=n) (c:=c) Tryz.underlying46 w;unfold execOp;simp only[ho,resolve,invoke,builtin,Sem.run_bind,Sem.run_pure,Result.andThen_ok,List.map_toArray,List.map_cons,List.map_nil,hx,h]
open Sy
theorem pw_r2{p:Option Addr}{n c:Nat}{a0:Act}{w:World}{X:Exit->Act->World->Prop}(h2:a0.tmps.getD 2 undef=.slice p n c)(hz:a0.tmps.size=64)
  (hX:∀ a',a'.tmps.size=a0.tmps.size->a'.defers=a0.defers->(∀ t,t ∉ [15,13,14]->a'.tmps.getD t undef=a0.tmps.getD t undef)->a'.tmps.getD 15 undef=.bool (ltI 3 (n:Nat))->X .normal a' w) :
  ((Tryz.f5.body.bind (regC 2)).getD .skip).wp Tryz.prog X a0 w:=by
 conv=>arg 2;whnf
 refine wp_region_list ?_;refine wpList_valN rfl (.slice p n c) (run_mvN (.tmp 2) _ (.inl rfl) h2) ?_;have e1:(a0.put (some 13) (.slice p n c)).tmps.getD 13 undef=.slice p n c:=put_same _ _ _ (by rw[hz];decide);refine wpList_valN rfl (.int .i64 (n:Nat)) (run_lenN (.tmp 13) rfl e1) ?_;have e2:((a0.put (some 13) (.slice p n c)).put (some 14) (.int .i64 (n:Nat))).tmps.getD 14 undef=.int .i64 (n:Nat):=put_same _ _ _ (by rw[put_size,hz];decide);have hb:bopG .gtr 3 (.i .i64 (n:Nat)) (.v (.int .i64 3))=some (.b (ltI 3 (n:Nat)),[]):=by kernel_rfl
 have k:=(bopG_ok hb (fun _ hp=>by cases hp) trivial trivial).2.2 o0 (.tmp 14) (.const (.int .i64 3)) w;refine wpList_valN rfl (.bool (ltI 3 (n:Nat))) (run_bin (t:=3) (x:=.tmp 14) (y:=.const (.int .i64 3)) rfl e2 rfl k.1 k.2) ?_;refine hX _ (by rw[put_size,put_size,put_size]) rfl (fun t ht=>?_) (put_same _ _ _ (by rw[put_size,put_size,hz];decide));simp only[List.mem_cons,List.not_mem_nil,or_false,not_or]at ht;rw[put_other _ _ _ _ (fun e=>ht.1 (Option.some.inj e).symm),put_other _ _ _ _ (fun e=>ht.2.2 (Option.some.inj e).symm),put_other _ _ _ _ (fun e=>ht.2.1 (Option.some.inj e).symm)]
theorem pw_r3{p:Option Addr}{n c:Nat}{a0:Act}{w:World}{X:Exit->Act->World->Prop}(hc:3<=c)(h2:a0.tmps.getD 2 undef=.slice p n c)(hz:a0.tmps.size=64)
  (hX:∀ a',a'.tmps.size=a0.tmps.size->a'.defers=a0.defers->(∀ t,t ∉ [2,16,17]->a'.tmps.getD t undef=a0.tmps.getD t undef)->a'.tmps.getD 2 undef=.slice p 3 c->X .normal a' w) :
  ((Tryz.f5.body.bind (regC 3)).getD .skip).wp Tryz.prog X a0 w:=by
 conv=>arg 2;whnf
 refine wp_region_list ?_;refine wpList_valN rfl (.slice p n c) (run_mvN (.tmp 2) _ (.inl rfl) h2) ?_;have e1:(a0.put (some 16) (.slice p n c)).tmps.getD 16 undef=.slice p n c:=put_same _ _ _ (by rw[hz];decide);have hs3:(Instr.sliceAt 46 (.slice p n c) none (some (.int .i64 3)) none).run Tryz.prog w=.ok (.slice p 3 c) w:=by
  have k:(Instr.slice 46 (.slice p n c) none (some (.int .i64 3)) none).run Tryz.prog w=.ok (.slice p 3 c) w:=slice_nat p n c 3 (by omega) w;unfold Instr.sliceAt;simp only[Sem.run_bind,run_underlying Tryz.underlying46,Result.andThen_ok];exact k
 refine wpList_valN rfl (.slice p 3 c) (Sy.gr_sl (T:=46) (x:=.tmp 16) (lo:=none) (hi:=some (.const (.int .i64 3))) (p:=.slice p n c) (l:=none) (h:=some (.int .i64 3)) rfl e1 rfl rfl hs3) ?_;have e2:((a0.put (some 16) (.slice p n c)).put (some 17) (.slice p 3 c)).tmps.getD 17 undef=.slice p 3 c:=put_same _ _ _ (by rw[put_size,hz];decide);refine wpList_valN rfl (.slice p 3 c) (run_mvN (.tmp 17) _ (.inr rfl) e2) ?_;refine hX _ (by rw[put_size,put_size,put_size]) rfl (fun t ht=>?_) (put_same _ _ _ (by rw[put_size,put_size,hz];decide));simp only[List.mem_cons,List.not_mem_nil,or_false,not_or]at ht;rw[put_other _ _ _ _ (fun e=>ht.1 (Option.some.inj e).symm),put_other _ _ _ _ (fun e=>ht.2.2 (Option.some.inj e).symm),put_other _ _ _ _ (fun e=>ht.2.1 (Option.some.inj e).symm)]
namespace Sy
def hk2(e0:Value)(n:Nat)(s:St):Option (List Ob × St):=match look s.S 2 with
 | some (.v v)=>some ([.ask (v=e0)],⟨[(15,some (.b (ltI 3 (n:Nat)))),(13,none),(14,none)]++s.S,s.M,s.n⟩)
 | _=>none
def hk3(e0 e1:Value)(c:Nat)(s:St):Option (List Ob × St):=match look s.S 2 with
 | some (.v v)=>some ([.ask (v=e0/\3<=c)],⟨[(2,some (.v e1)),(16,none),(17,none)]++s.S,s.M,s.n⟩)
 | _=>none
def hk4(a:N12)(e1:Value)(x:SV)(s:St):Option (List Ob × St):=match look s.S 3,look s.S 2 with
 | some (.p g 0 0 0),some (.v v)=>match rowIn g s.M with
  | some (y,T)=>if T=38 then some ([.ask (y=L12s a/\v=e1)],⟨[(9,some (.v (.int .i64 0))),(8,some (.p s.n 0 0 0)),(18,none),(19,none),(20,none),(21,none),(22,none),(23,none),(24,none),(25,none)]++s.S,(s.n,x,38)::s.M,s.n+1⟩)else none
  | none=>none
 | _,_=>none
def hk5(a:N12)(e1:Value)(x:SV)(s:St):Option (List Ob × St):=match look s.S 3,look s.S 2,look s.S 7,look s.S 8,look s.S 9 with
 | some (.p g3 0 0 0),some (.v v),some (.p g7 0 0 0),some (.p g8 0 0 0),some (.v v9)=>match rowIn g3 s.M,rowIn g7 s.M,rowIn g8 s.M with
  | some (y,T),some (.ap z .e,T7),some (y8,T8)=>match isR false pB loB s.M z with
   | some p=>if T=38/\T7=29/\T8=38 then some (p++[.ask (y=L12s a/\v=e1/\y8=x/\v9=.int .i64 0)],⟨[(38,some (.v (.bool false))),(26,none),(27,none),(28,none),(29,none),(30,none),(31,none),(32,none),(33,none),(34,none),(35,none),(36,none),(37,none)]++s.S,s.M,s.n⟩)else none
   | none=>none
  | _,_,_=>none
 | _,_,_,_,_=>none
section
variable {E:Env} {γ0:Pl} {w0:World} {p:Option Addr} {n m c:Nat} {a:N12} {e1:Value} {f:Nat->Nat}
theorem hk2_ok(hP:E.P=Tryz.prog):HookOk E γ0 64 w0 ((Tryz.f5.body.bind (regC 2)).getD .skip) (hk2 (.slice p n c) n):=by
 intro s q s' h hp γ a w X R cont;unfold hk2 at h
 split at h
 ·rename_i v hv
  cases h;obtain rfl:v=.slice p n c:=hp _ (.head _);rw[hP];refine pw_r2 (R.k 2 _ hv).1 R.z fun a' hz hd hk h15=>cont γ a' w (Rel.hook0 R hz hd (Below.refl _ _) (fun t y hm=>?_) (fun t ht=>hk t ht));simp only[List.mem_cons,List.not_mem_nil,or_false,Prod.mk.injEq,Option.some.injEq,reduceCtorEq,and_false]at hm;obtain⟨rfl,rfl⟩:=hm;exact⟨rfl,trivial,h15⟩
 ·cases h
theorem hk3_ok(hP:E.P=Tryz.prog):HookOk E γ0 64 w0 ((Tryz.f5.body.bind (regC 3)).getD .skip) (hk3 (.slice p n c) (.slice p 3 c) c):=by
 intro s q s' h hp γ a w X R cont;unfold hk3 at h
 split at h
 ·rename_i v hv
  cases h;obtain⟨rfl,hc⟩:v=.slice p n c/\3<=c:=hp _ (.head _);rw[hP];refine pw_r3 hc (R.k 2 _ hv).1 R.z fun a' hz hd hk h2=>cont γ a' w (Rel.hook0 R hz hd (Below.refl _ _) (fun t y hm=>?_) (fun t ht=>hk t ht));simp only[List.mem_cons,List.not_mem_nil,or_false,Prod.mk.injEq,Option.some.injEq,reduceCtorEq,and_false]at hm;obtain⟨rfl,rfl⟩:=hm;exact⟨rfl,trivial,h2⟩
 ·cases h
theorem L12_0(γ:Pl)(a:N12):(L12s a).cells γ=(L12s a).cells o0:=(SV.lt_same (γ:=γ) (δ:=o0) (n:=0) (fun _ hk=>absurd hk (Nat.not_lt_zero _)) (x:=L12s a) rfl).2.1
theorem hk4_ok(hP:E.P=Tryz.prog)(oa:(L12s a).ok)(he:ArgN w0 e1 n f)(lf:∀ j,j<n->f j<4294967296)(few:n<=3):HookOk E γ0 64 w0 ((Tryz.f5.body.bind (regC 4)).getD .skip) (hk4 a e1 (L12s (pw12 prB (ph12 prB a) (natV 4294967296 f n)))):=by
 intro s q s' h hp γ b w X R cont;unfold hk4 at h
 split at h
 ·rename_i g v h3 h2
  split at h
  ·rename_i y T hr
   split at h
   ·rename_i hT
    subst hT;cases h;obtain⟨rfl,rfl⟩:y=L12s a/\v=e1:=hp _ (.head _);have hrow:=(R.lies _ (rowIn_ok hr)).1;dsimp only at hrow;rw[L12_0]at hrow;rw[hP];refine MT.pw_r4 oa R.z (R.k 3 _ h3).1 hrow (R.k 2 _ h2).1 (he.below R.h.old) lf few fun a' w' hz hd hb hk h9 ⟨D,h8,hD,hrD⟩=>?_;obtain⟨δ,hδ⟩:=Rel.hook1 (L:=[(9,some (.v (.int .i64 0))),(8,some (.p s.n 0 0 0)),(18,none),(19,none),(20,none),(21,none),(22,none),(23,none),(24,none),(25,none)]) R hz hd hb hD hrD (pw12_ok _ _) rfl (fun t y hm=>(by
     simp only[List.mem_cons,List.not_mem_nil,or_false,Prod.mk.injEq,Option.some.injEq,reduceCtorEq,and_false]at hm;rcases hm with⟨rfl,rfl⟩ | ⟨rfl,rfl⟩
     ·exact .inr ⟨rfl,trivial,h9⟩
     ·exact .inl ⟨rfl,h8⟩)) (fun t ht=>hk t ht)
    exact cont δ a' w' hδ
   ·cases h
  ·cases h
 ·cases h
theorem ap_row{z:SV}{γ:Pl}{F:Nat}{p:List Ob}{M:Rows}(hi:isR false pB loB M z=some p)(h:z.val γ=.pointer (some ⟨F,0,none⟩)):((SV.ap z .e).cells γ).toArray=#[.pointer (some ⟨F,0,none⟩)]:=by
 cases z <;> first | (cases hi;done) | skip
 simpa[SV.val,SV.cells,SV.sc]using h
theorem hk5_ok(hP:E.P=Tryz.prog)(hE:E.base=1)(hR:ROk false pB loB γ0 w0)(oa:(L12s a).ok)(he:ArgN w0 e1 n f)(lf:∀ j,j<n->f j<4294967296)(few:n<=3):HookOk E γ0 64 w0 ((Tryz.f5.body.bind (regC 5)).getD .skip) (hk5 a e1 (L12s (pw12 prB (ph12 prB a) (natV 4294967296 f n)))):=by
 intro s q s' h hp γ b w X R cont;unfold hk5 at h
 split at h
 ·rename_i g3 v g7 g8 v9 h3 h2 h7 h8 h9
  split at h
  ·rename_i y T z T7 y8 T8 r3 r7 r8
   split at h
   ·rename_i pz hi
    split at h
    ·rename_i hT
     obtain⟨rfl,rfl,rfl⟩:=hT;cases h;obtain⟨rfl,rfl,rfl,rfl⟩:y=L12s a/\v=e1/\y8=L12s (pw12 prB (ph12 prB a) (natV 4294967296 f n))/\v9=.int .i64 0:=hp (.ask _) (List.mem_append_right _ (.head _));obtain⟨F,hz,hF⟩:=isR_at hi (fun o ho=>hp o (List.mem_append_left _ ho)) hR (fun k hk=>R.ag k (by rw[hE];exact hk)) R.h.old R.lies;have hrow:=(R.lies _ (rowIn_ok r3)).1;have hrow8:=(R.lies _ (rowIn_ok r8)).1;have hrow7:=(R.lies _ (rowIn_ok r7)).1;dsimp only at hrow hrow8 hrow7;rw[L12_0]at hrow hrow8;rw[ap_row hi hz]at hrow7;rw[hP];refine pw_r5 oa R.z (R.k 3 _ h3).1 hrow (R.k 7 _ h7).1 hrow7 hF (R.k 8 _ h8).1 hrow8 (R.k 9 _ h9).1 (R.k 2 _ h2).1 (he.below R.h.old) lf few fun a' w' hz hd hb hk h38=>cont γ a' w' (Rel.hook0 R hz hd hb (fun t y hm=>?_) (fun t ht=>hk t ht));simp only[List.mem_cons,List.not_mem_nil,or_false,Prod.mk.injEq,Option.some.injEq,reduceCtorEq,and_false]at hm;obtain⟨rfl,rfl⟩:=hm;exact⟨rfl,trivial,h38⟩
    ·cases h
   ·cases h
  ·cases h
 ·cases h
end
def hkP(a:N12)(p:Option Addr)(n c:Nat)(e1:Value)(x:SV):Hooks:=fun id=>match id with
 | 2=>some (hk2 (.slice p n c) n)
 | 3=>some (hk3 (.slice p n c) (.slice p 3 c) c)
 | 4=>some (hk4 a e1 x)
 | 5=>some (hk5 a e1 x)
 | _=>none
noncomputable def cdP (k:Nat):Code:=(Tryz.f5.body.bind (regC k)).getD .skip
section
variable {PW:N12->N12} {A M:N12->N12->N12} {m:Nat} {f:Nat->Nat}
noncomputable def moreP (PW:N12->N12) (A M:N12->N12->N12):List Con:=[cTNew,cV1 31 sh12 fun a=>L12s (PW a),cV2 22 sh12 sh12 fun a b=>L12s (A a b),cV2 24 sh12 sh12 fun a b=>L12s (M a b),cLives]
def lfP(PW:N12->N12)(A M:N12->N12->N12)(a b:N12):Bool:=bif (bif eqL (wl12 (PW (M a b))) (wl12 (M (PW a) (PW b)))then eqL (wl12 (PW (A a b))) (wl12 (A (PW a) (PW b)))else false)then true else false
theorem hkP_ok{w:World}{a:N12}{p:Option Addr}{n c:Nat}{e1:Value}(oa:(L12s a).ok)(he:ArgN w e1 m f)(lf:∀ j,j<m->f j<4294967296)(few:m<=3) :
  ∀ r∈regsOf (Tryz.f5.body.getD .skip),∀ h,hkP a p n c e1 (L12s (pw12 prB (ph12 prB a) (natV 4294967296 f m))) r.1=some h->HookOk (E1 (moreP PW A M)) o0 64 w r.2 h:=by
 intro r hr h hh;refine hooked (H:=hkP a p n c e1 (L12s (pw12 prB (ph12 prB a) (natV 4294967296 f m)))) (l:=[(2,cdP 2),(3,cdP 3),(4,cdP 4),(5,cdP 5)]) (p:=fun r=>∀ h,hkP a p n c e1 (L12s (pw12 prB (ph12 prB a) (natV 4294967296 f m))) r.1=some h->HookOk (E1 (moreP PW A M)) o0 64 w r.2 h) (by kernel_rfl) (fun r hr=>?_) r hr (by rw[hh];rfl) h hh;simp only[List.mem_cons,List.not_mem_nil,or_false]at hr;rcases hr with rfl | rfl | rfl | rfl
 ·intro h hh;cases hh;exact hk2_ok rfl
 ·intro h hh;cases hh;exact hk3_ok rfl
 ·intro h hh;cases hh;exact hk4_ok rfl oa he lf few
 ·intro h hh;cases hh;exact hk5_ok rfl rfl (rB w) oa he lf few
theorem tpowers_gen(hP:Is0 31 sh12 fun a=>L12s (PW a))(hA:Is00 22 sh12 sh12 fun a b=>L12s (A a b))(hM:Is00 24 sh12 sh12 fun a b=>L12s (M a b))(a b:N12)(oa:(L12s a).ok)(ob:(L12s b).ok)(p:Option Addr)(n c:Nat)(e1:Value)(w:World)
  (he:ArgN w e1 m f) (lf:∀ j,j<m->f j<4294967296) (few:m<=3) (h1:3<n->e1=.slice p 3 c/\3<=c) (h2:¬3<n->e1=.slice p n c) (x:SV) (hx:L12s (pw12 prB (ph12 prB a) (natV 4294967296 f m))=x) :
  Calls Tryz.prog 5 #[(L12s a).val o0,(L12s b).val o0,.slice p n c] w fun e w'=>e=.returned (.bool (lfP PW A M a b))/\Below w.heap.size w w':=by
 have hH:=hkP_ok (PW:=PW) (A:=A) (M:=M) (a:=a) (p:=p) (n:=n) (c:=c) oa he lf few;rw[hx]at hH;refine callsH_at (E1_ok (γ0:=o0) (more:=moreP PW A M) ⟨cTNew_ok,hP _ _ _,hA _ _ _,hM _ _ _,cLives_ok,trivial⟩) (by kernel_rfl) (fun _=>0) (hkP a p n c e1 x) Tryz.func5 (by kernel_rfl) [L12s a,L12s b,.v (.slice p n c)] ⟨⟨oa,rfl⟩,⟨ob,rfl⟩,⟨trivial,rfl⟩,trivial⟩ (by kernel_rfl) hH (by kernel_rfl)
  (.need (Value.slice p n c=.slice p n c) (.br (ltI 3 (n:Nat)) (.need (Value.slice p n c=.slice p n c/\3<=c) (.need (L12s a=L12s a/\Value.slice p 3 c=e1) (.need (L12s a=L12s a/\Value.slice p 3 c=e1/\x=x/\Value.int .i64 0=.int .i64 0) (.leaf (.b (lfP PW A M a b)))))) (.need (L12s a=L12s a/\Value.slice p n c=e1) (.need (L12s a=L12s a/\Value.slice p n c=e1/\x=x/\Value.int .i64 0=.int .i64 0) (.leaf (.b (lfP PW A M a b))))))) (by kernel_rfl) ?_
 refine need_sh rfl (br_sh (fun h=>?_) fun h=>?_)
 ·have h3:=h1 (by have:=of_decide_eq_true h;omega)
  exact need_sh ⟨rfl,h3.2⟩ (need_sh ⟨rfl,h3.1.symm⟩ (need_sh ⟨rfl,h3.1.symm,rfl,rfl⟩ (leaf_sh rfl)))
 ·have h3:=h2 (by have:=of_decide_eq_false h;omega)
  exact need_sh ⟨rfl,h3.symm⟩ (need_sh ⟨rfl,h3.symm,rfl,rfl⟩ (leaf_sh rfl))
end
theorem tpowers_any(a b:N12)(v:Value)(n:Nat)(f:Nat->Nat)(oa:(L12s a).ok)(ob:(L12s b).ok)(w:World)(hv:ArgN w v n f)(lf:∀ j,j<n->f j<4294967296):Calls Tryz.prog 5 #[(L12s a).val o0,(L12s b).val o0,v] w fun e w'=>e=.returned (.bool true)/\Below w.heap.size w w':=by
 obtain⟨p,c,rfl,hc,h0,hr⟩:=hv;have key:∀ e1 m,ArgN w e1 m f->m<=n->m<=3->(3<n->e1=.slice p 3 c/\3<=c)->(¬3<n->e1=.slice p n c)->Calls Tryz.prog 5 #[(L12s a).val o0,(L12s b).val o0,.slice p n c] w fun e w'=>e=.returned (.bool true)/\Below w.heap.size w w':=fun e1 m he hm few g1 g2=>by
  have h:=tpowers_gen Power_at Add12_at Mul12_at a b oa ob p n c e1 w he (fun j hj=>lf j (by omega)) few g1 g2 _ rfl;have e:lfP P12 A12 M12 a b=true:=by
   unfold lfP;rw[P12_mul,P12_add,eqL_self,eqL_self];rfl
  rw[e]at h;exact h
 by_cases h3:3<n
 ·exact key (.slice p 3 c) 3 ⟨p,c,rfl,by omega,h0,hr.less 3 (by omega)⟩ (by omega) (Nat.le_refl _) (fun _=>⟨rfl,by omega⟩) fun h=>absurd h3 h
 ·exact key (.slice p n c) n ⟨p,c,rfl,hc,h0,hr⟩ (Nat.le_refl _) (by omega) (fun h=>absurd h h3) fun _=>rfl
end Sy
end Go.Proofs.YthnckclbeecnmaaGreat
namespace Go.Proofs.YthnckclbeecnmaaGreat.towerPowers
open Go.ChangeShapes Go.WideShapes Go.ChangeAt Go.RowKit
theorem contract(H:Type)(enc:TypeId × Value->H)(W:World)(base:Nat)(args:Array Value)(ds gs:List (DataW H))(before:List MemPlace)
  (hval:∀(j:Nat) t v,Tryz.f5.params[j]?=some t->args[j]?=some v->Value.okWide Tryz.prog W .any base t v)
  (hW:DataW.Whole enc Tryz.prog Tryz.f5.params.toList Rows.towerPowersSpec.vars false W args.toList ds gs before) :
  Calls Tryz.prog 5 args W fun e W'=>∃ v,e=.returned v/\Rows.towerPowersSpec.post enc Tryz.prog Tryz.f5 false true false false W args v W':=by
 have hW':=hW;obtain⟨p,q,hA0,hV,rfl,hfz,hnd⟩:=hW;have hA:DataW.TrodAll enc Tryz.prog W 0 (fun _=>true) true Tryz.f5.params.toList args.toList ds p:=hA0;rw[Tryz.params5]at hA hval;obtain⟨v0,vs0,d0,ds0,p0,q0,hargs,rfl,rfl,h0,r0⟩:=trodAll_cons hA;obtain⟨v1,vs1,d1,ds1,p1,q1,rfl,rfl,rfl,h1,r1⟩:=trodAll_cons r0;obtain⟨v2,vs2,d2,ds2,p2,q2,rfl,rfl,rfl,h2,r2⟩:=trodAll_cons r1;obtain⟨rfl,rfl,rfl⟩:=trodAll_nil r2;obtain rfl:args=#[v0,v1,v2]:=by cases args;simp_all
 obtain⟨rfl,rfl⟩:=trodVars_none hV;obtain⟨x0,rfl,X0⟩:=open_f12 (hval 0 38 v0 rfl rfl) h0;obtain⟨x1,rfl,X1⟩:=open_f12 (hval 1 38 v1 rfl rfl) h1;obtain⟨n2,f2,A2,L2⟩:=open_nat (hval 2 46 v2 rfl rfl) h2;clear hA0;refine(Sy.tpowers_any x0 x1 _ n2 f2 X0 X1 W A2 L2).mono fun e W' ⟨he,hb⟩=>?_;subst he;refine⟨_,rfl,_,_,_,[],p0++(p1++(p2++[])),[],hW',trodAll_cons_mk (shut_bool Tryz.underlying4 _) trodAll_mk0,trodAll_cons_mk (Below.trod laidOutF (by kernel_rfl) (of_decide_eq_true (by kernel_rfl)) h0 hb (fun x hx=>hW'.lt x (by simp[hx]))) (trodAll_cons_mk (Below.trod laidOutF (by kernel_rfl) (of_decide_eq_true (by kernel_rfl)) h1 hb (fun x hx=>hW'.lt x (by simp[hx]))) (trodAll_cons_mk (Below.trod laidOutF (by kernel_rfl) (of_decide_eq_true (by kernel_rfl)) h2 hb (fun x hx=>hW'.lt x (by simp[hx]))) trodAll_mk0)),rfl,hb.frame _,fun h=>by cases h⟩
theorem laid_met(os:Os):laidMet Tryz.prog Rows.towerPowersRow.laid ((bareWorld os).forCall (fun _ _=>0) ⟨#[],#[.agg (List.replicate 48 (Value.int .u64 0)).toArray,.agg (List.replicate 48 (Value.int .u64 0)).toArray,.slice none 0 0],[]⟩).memory :=
 laidMet_of_run' 80 (by kernel_rfl) (by kernel_rfl)
theorem reads(os:Os){H:Type}(enc:TypeId × Value->H):∃ places,DataW.whole enc Tryz.prog ((bareWorld os).forCall (fun _ _=>0) ⟨#[],#[.agg (List.replicate 48 (Value.int .u64 0)).toArray,.agg (List.replicate 48 (Value.int .u64 0)).toArray,.slice none 0 0],[]⟩).memory Tryz.f5.params.toList Rows.towerPowersSpec.vars false (#[.agg (List.replicate 48 (Value.int .u64 0)).toArray,.agg (List.replicate 48 (Value.int .u64 0)).toArray,.slice none 0 0]:Array Value).toList 80=some ([.agg [.agg [.agg [.lit (.int .u64 0),.lit (.int .u64 0),.lit (.int .u64 0),.lit (.int .u64 0)],.agg [.lit (.int .u64 0),.lit (.int .u64 0),.lit (.int .u64 0),.lit (.int .u64 0)]],.agg [.agg [.lit (.int .u64 0),.lit (.int .u64 0),.lit (.int .u64 0),.lit (.int .u64 0)],.agg [.lit (.int .u64 0),.lit (.int .u64 0),.lit (.int .u64 0),.lit (.int .u64 0)]],.agg [.agg [.lit (.int .u64 0),.lit (.int .u64 0),.lit (.int .u64 0),.lit (.int .u64 0)],.agg [.lit (.int .u64 0),.lit (.int .u64 0),.lit (.int .u64 0),.lit (.int .u64 0)]],.agg [.agg [.lit (.int .u64 0),.lit (.int .u64 0),.lit (.int .u64 0),.lit (.int .u64 0)],.agg [.lit (.int .u64 0),.lit (.int .u64 0),.lit (.int .u64 0),.lit (.int .u64 0)]],.agg [.agg [.lit (.int .u64 0),.lit (.int .u64 0),.lit (.int .u64 0),.lit (.int .u64 0)],.agg [.lit (.int .u64 0),.lit (.int .u64 0),.lit (.int .u64 0),.lit (.int .u64 0)]],.agg [.agg [.lit (.int .u64 0),.lit (.int .u64 0),.lit (.int .u64 0),.lit (.int .u64 0)],.agg [.lit (.int .u64 0),.lit (.int .u64 0),.lit (.int .u64 0),.lit (.int .u64 0)]]],.agg [.agg [.agg [.lit (.int .u64 0),.lit (.int .u64 0),.lit (.int .u64 0),.lit (.int .u64 0)],.agg [.lit (.int .u64 0),.lit (.int .u64 0),.lit (.int .u64 0),.lit (.int .u64 0)]],.agg [.agg [.lit (.int .u64 0),.lit (.int .u64 0),.lit (.int .u64 0),.lit (.int .u64 0)],.agg [.lit (.int .u64 0),.lit (.int .u64 0),.lit (.int .u64 0),.lit (.int .u64 0)]],.agg [.agg [.lit (.int .u64 0),.lit (.int .u64 0),.lit (.int .u64 0),.lit (.int .u64 0)],.agg [.lit (.int .u64 0),.lit (.int .u64 0),.lit (.int .u64 0),.lit (.int .u64 0)]],.agg [.agg [.lit (.int .u64 0),.lit (.int .u64 0),.lit (.int .u64 0),.lit (.int .u64 0)],.agg [.lit (.int .u64 0),.lit (.int .u64 0),.lit (.int .u64 0),.lit (.int .u64 0)]],.agg [.agg [.lit (.int .u64 0),.lit (.int .u64 0),.lit (.int .u64 0),.lit (.int .u64 0)],.agg [.lit (.int .u64 0),.lit (.int .u64 0),.lit (.int .u64 0),.lit (.int .u64 0)]],.agg [.agg [.lit (.int .u64 0),.lit (.int .u64 0),.lit (.int .u64 0),.lit (.int .u64 0)],.agg [.lit (.int .u64 0),.lit (.int .u64 0),.lit (.int .u64 0),.lit (.int .u64 0)]]],.nil],[],places) :=
 ⟨[],by kernel_rfl⟩
theorem lifted(os:Os)(started:os.Started)(H:Type)(enc:TypeId × Value->H)(F:Stop.Interp) :
  ReturnsInHanded {} Tryz.checked os 5 .any ((OpenSpec.ofChange Rows.towerPowersSpec).preRow enc Tryz.prog Tryz.f5 Rows.towerPowersRow.domain false Rows.towerPowersRow.laid) (((OpenSpec.ofChange Rows.towerPowersSpec).at F).post enc Tryz.prog Tryz.f5 false true false false):=by
 obtain⟨places,hx⟩:=reads os enc;refine returnsInHanded_of_row (C:=Tryz.checked) (s:=OpenSpec.ofChange Rows.towerPowersSpec) ownF started (by kernel_rfl) Tryz.func5
  (witness_row_at (enc:=enc) (C:=Tryz.checked) false (bareWorld os) #[.agg (List.replicate 48 (Value.int .u64 0)).toArray,.agg (List.replicate 48 (Value.int .u64 0)).toArray,.slice none 0 0] rfl (by kernel_rfl) (by kernel_rfl) (by kernel_rfl)
   (OpenSpec.preRow_of_cond 80 hx (by kernel_rfl) (fun k hk=>by cases hk) (by kernel_rfl) (laid_met os))) ?_
 intro W base args ds gs before hval hW _ _ _ _ _ _;exact contract H enc W base args ds gs before hval hW
theorem said:Rows.TowerPowersSaid :=
 OpenClaim.holds_of_cond 5 Tryz.f5 rfl rfl rfl rfl rfl rfl rfl ⟨rfl,rfl,rfl,rfl,rfl⟩ rfl rfl rfl rfl rfl (by kernel_rfl) Tryz.func5 (by kernel_rfl)
  (of_decide_eq_true (by kernel_rfl)) (by unfold Func.isWrapper;rw[if_neg (of_decide_eq_false (by kernel_rfl))];exact⟨rfl,rfl⟩)
  (fun os started H enc _ F=>by rw[OpenClaim.pre_eq_preRow];exact lifted os started H enc F)
end Go.Proofs.YthnckclbeecnmaaGreat.towerPowers
