/- The document's Power: the number p as a list, and the power by it. (Cut to what is reached, written closely: TwTw · TwR5 · TailM · TwNb · TwRk · TwTp.) -/
import Derived.Test.YthnckclbeecnmaaGreatF37
import Derived.Test.YthnckclbeecnmaaGreatF38
import Derived.Test.YthnckclbeecnmaaGreatF16
import Derived.Test.YthnckclbeecnmaaGreatF2
import Derived.Test.YthnckclbeecnmaaGreatF22
import Derived.Test.YthnckclbeecnmaaGreatF27
set_option linter.all false
set_option maxRecDepth 100000
set_option maxHeartbeats 8000000
namespace Go.Proofs.YthnckclbeecnmaaGreat
open Go.RowKit
namespace Sy
def RO12(a:N12):N12:=(mp6 (ro2 pB) a.1,mp6 (ro2 pB) a.2)
end Sy
open Go.RowKit
namespace Sy
theorem ldT{w:World}{B F:Nat}(hB:w.heap[B]?=some (.cells #[.pointer (some ⟨F,0,none⟩)] 29 (0,0))):(Instr.loadAt 29 (.pointer (some ⟨B,0,none⟩))).run Tryz.prog w=.ok (.agg #[.pointer (some ⟨F,0,none⟩)]) w :=
 have ty:=tyAll_mem tysT_ok tyR (List.mem_append_right _ (.head _))
 load_ok (γ:=fun _=>F) (x:=sG) (r:=sG) hB ty.d ty.sz rfl
end Sy
open Sy
open Go
section
variable {P:Program} {ops:Array Oper} {md:Region.Mode} {C:World->Prop}
def sink1(md:Region.Mode)(ops:Array Oper)(n:Nat):Bool :=
 (List.range n).all fun i=>i == 0||((List.range (n+1)).any fun j=>decide (i<j)&&Region.waitsFor md ops j i)
theorem waits1{n:Nat}{listed:Array Bool}(hs:sink1 md ops n=true)(hc:Region.chainB md ops n=true)(hn:n<ops.size)(inv:HeadInv md ops n listed) :
  ∀(d i:Nat),n - i=d->0<i->i<n->listed.getD i true=false->∀ t,n<=t->t ∉ Region.ready md ops listed:=by
 intro d
 induction d using Nat.strongRecOn with
 | _ d ih =>
  intro i hd h0 hi hun t ht hr;obtain⟨-,ot,hot,hall⟩:=mem_ready.1 hr;have stuck:∀ j oj,ops[j]?=some oj->(∀ e∈oj.after,Region.binds md e=true->listed.getD e.on false=true)->Region.waitsFor md ops j i=true->False:=fun j oj hj h hw=>by
   obtain⟨o',ho',e,he,hb,hon⟩:=Region.waitsFor_spec hw;cases Option.some.inj (ho'.symm.trans hj);have:=h e he hb;rw[hon,getD_both hun]at this;cases this
  rcases Nat.eq_or_lt_of_le ht with rfl | hlt
  ·have h1:=List.all_eq_true.1 hs i (List.mem_range.2 hi)
   simp only[Bool.or_eq_true,beq_iff_eq,show ¬i=0 by omega,false_or]at h1;obtain⟨j,hj,hj2⟩:=List.any_eq_true.1 h1;simp only[Bool.and_eq_true,decide_eq_true_eq]at hj2;have hjn:j<n+1:=List.mem_range.1 hj;by_cases e:j=n
   ·subst e
    exact stuck _ ot hot hall hj2.2
   ·obtain⟨oj,hoj,-⟩:=Region.waitsFor_spec hj2.2
    cases hl:listed.getD j false with
    | true=>exact stuck j oj hoj (inv.closed j oj hoj hl) hj2.2
    | false=>exact ih (n - j) (by omega) j rfl (by omega) (by omega) (getD_in (by rw[inv.size];omega) hl) n (Nat.le_refl _) hr
  ·have htl:t<ops.size:=(Array.getElem?_eq_some_iff.1 hot).1
   have h1:=List.all_eq_true.1 hc t (List.mem_range.2 htl);simp only[Bool.or_eq_true,decide_eq_true_eq,show ¬t<=n by omega,false_or]at h1;obtain⟨o',ho',e,he,hb,hon⟩:=Region.waitsFor_spec h1;cases Option.some.inj (ho'.symm.trans hot);have:=hall e he hb;rw[hon,getD_both (inv.tail (t - 1) (by omega) (by omega))]at this;cases this
theorem head_first1{n i:Nat}{oi:Oper}{v:Value}{L:Array Bool->Act->Prop}(hi:ops[i]?=some oi)(hsel:∀(j:Nat) (o:Oper) cs b,ops[j]?=some o->o.op≠.select cs b)
  (hs:sink1 md ops n=true) (hc:Region.chainB md ops n=true) (hn:n<ops.size) (hin:i<n) (hi0:0<i)
  (hdone:∀ listed a,L listed a->∀ j∈Region.ready md ops listed,n<=j) :
  ∀(f:Nat) (listed:Array Bool) (a:Act),HeadInv md ops n listed ->
   (∀ j oj,ops[j]?=some oj->j≠i->listed.getD j true=false->(∀ e∈oj.after,Region.binds md e=true->e.on≠i)->oi.apart ops oj=true) ->
   i∈Region.ready md ops listed->YieldsIn P ops C oi v a ->
   anyHead P md ops C n L f (listed.setIfInBounds i true) (a.put oi.dst v)->anyHead P md ops C n L (f+1) listed a:=by
 intro f
 induction f with
 | zero =>
  intro listed a inv _ hr hy H;have hun:=(mem_ready.1 hr).1;refine⟨fun h=>(by rw[h]at hr;cases hr),fun j hj=>?_⟩;have hjn:j<n:=by
   rcases Nat.lt_or_ge j n with h | h
   ·exact h
   ·exact absurd hj (waits1 hs hc hn inv _ i rfl hi0 hin hun j h)
  refine⟨hjn,?_⟩;by_cases hji:j=i
  ·subst hji;exact hy.qOp hi H
  ·have:=hdone _ _ H j (ready_mono hj hji)
   omega
 | succ f ih =>
  intro listed a inv hfree hr hy H;have hun:=(mem_ready.1 hr).1;refine⟨fun h=>(by rw[h]at hr;cases hr),fun j hj=>?_⟩;have hjn:j<n:=by
   rcases Nat.lt_or_ge j n with h | h
   ·exact h
   ·exact absurd hj (waits1 hs hc hn inv _ i rfl hi0 hin hun j h)
  refine⟨hjn,?_⟩;by_cases hji:j=i
  ·subst hji;exact hy.qOp hi H
  ·have h1:=(H.2 j (ready_mono hj hji)).2
   obtain⟨hjun,oj,hoj,hall⟩:=mem_ready.1 hj;have hnot:∀ e∈oj.after,Region.binds md e=true->e.on≠i:=fun e he hb heq=>by
    have h1:=hall e he hb;rw[heq,getD_both hun]at h1;cases h1
   have h2:=qOp_put hoj (hfree j oj hoj hji hjun hnot) (fun cs b=>hsel i oi cs b hi) (fun cs b=>hsel j oj cs b hoj) hy h1;have hfree':∀ k ok,ops[k]?=some ok->k≠i->(listed.setIfInBounds j true).getD k true=false ->
     (∀ e∈ok.after,Region.binds md e=true->e.on≠i)->oi.apart ops ok=true:=fun k ok hk hki hun hno=>by
    refine hfree k ok hk hki ?_ hno;by_cases hjk:j=k
    ·subst hjk;exact hjun
    ·rw[getD_set_ne true hjk]at hun;exact hun
   refine qOp_mono (fun a' h3=>ih (listed.setIfInBounds j true) a' (inv.set hj hjn) hfree' (ready_mono hr (Ne.symm hji)) h3.1 ?_) h2;rw[Array.setIfInBounds_comm _ _ hji];exact h3.2
theorem head_lex1{n g:Nat}{Lq:Act->Prop}(hsel:Region.noSelect ops=true)(hs:sink1 md ops n=true)(hc:Region.chainB md ops n=true)(hn:n<ops.size) :
  ∀(l:List Oper) (k:Nat) (listed:Array Bool) (a:Act),0<k->(∀ j,j<l.length->l[j]?=ops[k+j]?)->k+l.length=n->HeadInv md ops n listed ->
  Region.lexHead md ops g l.length k listed=true->wpQuiet P ops C Lq l a ->
  anyHead P md ops C n (fun listed' a'=>Region.seqB md ops g n listed'=true/\Lq a') l.length listed a
 | [],k,listed,a,_,_,hk,_,hB,h=>by
  have:k=n:=by simpa using hk
  subst this;exact⟨by simpa[Region.lexHead]using hB,h⟩
 | o::l,k,listed,a,h0k,hl,hk,inv,hB,h=>by
  have h0:ops[k]?=some o:=by simpa using(hl 0 (by simp)).symm
  simp only[List.length_cons,Region.lexHead,Bool.and_eq_true]at hB;obtain⟨⟨hr,hf⟩,hB'⟩:=hB;have hkn:k<n:=by simp only[List.length_cons]at hk;omega
  have hr':k∈Region.ready md ops listed:=by simpa using hr
  have hst:qOp P ops C k (wpQuiet P ops C Lq l) a:=by unfold qOp;simp only[h0];exact h
  obtain⟨v,hy,hK⟩:=yieldsIn_of_qOp h0 hst;exact head_first1 h0 (Region.noSelect_spec hsel) hs hc hn hkn h0k (fun listed' a' hL=>seqB_ready hL.1) l.length listed a inv (Region.free_spec h0 hf) hr' hy
   (head_lex1 hsel hs hc hn l (k+1) _ _ (by omega) (fun j hj=>by have:=hl (j+1) (by simp;omega);simpa[Nat.add_assoc,Nat.add_comm 1 j]using this) (by simp only[List.length_cons]at hk;omega) (inv.set hr' hkn) hB' hK)
def lexTail1(md:Region.Mode)(ops:Array Oper)(n:Nat):Bool :=
 Region.noSelect ops&&decide (n<ops.size)&&sink1 md ops n&&Region.chainB md ops n&&(Region.ready md ops (Array.replicate ops.size false)).contains 0&&Region.free md ops (Array.replicate ops.size false) 0
  && Region.lexHead md ops (ops.size - n) (n - 1) 1 ((Array.replicate ops.size false).setIfInBounds 0 true)
theorem region_move_tail{id:Nat}{Q:Exit->Act->World->Prop}{a:Act}{w:World}{o:Oper}{l:List Oper}(n:Nat)(C:World->Prop)(v:Value)(hm:P.follows .mixedOrders=true)(hB:lexTail1 .any (o::l).toArray (n+1)=true)(hC:C w.drew)
  (hQ:∀ c a w,Q (.panic c) (a.put o.dst v) w->Q (.panic c) a w) (hy:Yields P (o::l).toArray o v a)
  (h:wpQuiet P (o::l).toArray C (fun a'=>∀ w',C w'->wpList P (o::l).toArray Q (l.drop n) a' w') (l.take n) (a.put o.dst v)):(Code.region id (o::l).toArray true).wp P Q a w:=by
 simp only[lexTail1,Bool.and_eq_true,decide_eq_true_eq]at hB;obtain⟨⟨⟨⟨⟨⟨hsel,hn⟩,hs⟩,hc⟩,hr⟩,hf⟩,hlex⟩:=hB;have hsz:(o::l).toArray.size=l.length+1:=by simp
 have hn':n<l.length:=by rw[hsz]at hn;omega
 have htl:(l.take n).length=n:=by rw[List.length_take];omega
 have hdl:(l.drop n).length=(o::l).toArray.size - (n+1):=by rw[List.length_drop,hsz];omega
 have h0:(o::l).toArray[0]?=some o:=by simp
 have hr':0∈Region.ready .any (o::l).toArray (Array.replicate (o::l).toArray.size false):=by simpa using hr
 have inv0:HeadInv .any (o::l).toArray (n+1) (Array.replicate (o::l).toArray.size false) :=
  ⟨by simp,fun j oj _ hl=>(by rw[getD_replicate_false]at hl;cases hl),fun t _ ht=>getD_in (by simpa using ht) (getD_replicate_false _ _)⟩
 have inv1:=inv0.set hr' (by omega);have H:=head_lex1 (md:=.any) (g:=(o::l).toArray.size - (n+1)) hsel hs hc hn (l.take n) 1 _ (a.put o.dst v) (by omega) (fun j hj=>by
  have hj':j<n:=by rw[htl]at hj;exact hj
  simp[hj',Nat.add_comm 1 j]) (by rw[htl];omega) inv1 (by rw[htl];exact hlex) h
 refine wp_region_any hm ?_;have K:=any_of_head (Q':=Q) (g:=(o::l).toArray.size - (n+1)) (fun listed a' w' hw' hL=>by
  have:=wpAny_of_seq (md:=.any) (Q':=Q) (l.drop n) (n+1) listed a' w' (fun j=>by
   rw[List.getElem?_drop,show n+1+j=(n+j)+1 by omega];simp) (by rw[hdl];exact hL.1) (hL.2 w' hw')
  rwa [hdl]at this) _ _ _ w.drew hC H
 rw[htl,show n+((o::l).toArray.size - (n+1))=l.length by rw[hsz];omega]at K;rw[hsz];rw[hsz]at hf hr K;exact wpAny_take h0 hsel hf hr hQ hy K
end
open Go.RowKit
open Sy (pB)
def RPt(V:Nat)(v:Value)(w:World):Prop:=∃ g n cap f cs,v=.slice (some ⟨g,0,none⟩) n cap/\w.heap[g]?=some (.cells cs 53 (0,0))/\NvA w (some ⟨g,0,none⟩) n cap f/\natV 4294967296 f n=V
theorem rpt_of{w:World}{base g n cap:Nat}{f:Nat->Nat}(h:w.ownsRow base 53 1 (.slice (some ⟨g,0,none⟩) n cap) n (pl f n))(hn:(n:Int)<=35184372088832)(hf:∀ j,j<n->f j<4294967296)(ht:n=0\/f (n - 1)≠0):RPt (natV 4294967296 f n) (.slice (some ⟨g,0,none⟩) n cap) w:=by
 obtain⟨g1,n1,c1,f1,e,hN,hv,-⟩:=rp_of h hn hf ht;rcases h.2 with⟨h1,-⟩ | ⟨g2,cap2,cur,h1,-,h2,-⟩
 ·cases h1
 ·cases h1
  cases e;exact⟨g,n,cap,f1,cur,rfl,h2,hN,hv⟩
theorem plain_ant{V:Nat}{v:Value}{w:World}(h:ANv V v w):Calls Tryz.prog 30 #[v] w fun e w'=>∃ u,e=.returned u/\RPt V u w'/\Below w.heap.size w w':=by
 obtain⟨n,f,⟨a,cap,rfl,hc,hn0,hr⟩,hn,hf,rfl⟩:=h;have hl:=tn_le f n;have key:∀ {m:Nat},m=tn f n->∀ {e:Ending} {w':World},MkR m f w e w'->∃ u,e=.returned u/\RPt (natV 4294967296 f n) u w'/\Below w.heap.size w w':=by
  rintro m rfl e w' ⟨g,c,rfl,h1,h2⟩;exact⟨_,rfl,by rw[<- natV_tn];exact rpt_of h1 (by omega) (fun j hj=>hf j (by omega)) (tn_top f n),h2⟩
 cases a with
 | none =>
  obtain rfl:=hn0 rfl;obtain rfl:n=0:=by omega
  exact(refplainr_none f w).mono fun e w' h=>key rfl h
 | some q=>exact(refplainr_some q n cap f hn hc w hr).mono fun e w' h=>key rfl h
theorem load_u64n{g j:Nat}{y:Int}{w:World}(h:w.cell? ⟨g,j,none⟩=some (.int .u64 y)):(Instr.loadAt 22 (.pointer (some ⟨g,j,none⟩))).run Tryz.prog w=.ok (.int .u64 y) w:=by
 go_simp
theorem two_new(w:World)(x y:Value):∀ j u,([x,y]:List Value)[j]?=some u->(w.alloc (.cells #[x,y] 53)).cell? ((⟨w.heap.size,0,none⟩:Addr).add j)=some u:=fun j u h=>by
 have e:(⟨w.heap.size,0,none⟩:Addr).add j=⟨w.heap.size,j,none⟩:=by cases j <;> simp[Addr.add]
 rw[e,cell_of_row _ _ j _ _ _ (heap_alloc_new w _)]
 match j,h with
 | 0,h=>exact h
 | 1,h=>exact h
 | _+2,h=>cases h
def nbF(j:Nat):Nat:=[3632069959,1008765974,1752287885,2541841041,2172737629,3092268470,3778125865,811880050].getD j 0
theorem nbF_lt:∀ j,nbF j<4294967296
 | 0 | 1 | 2 | 3 | 4 | 5 | 6 | 7=>by decide
 | _+8=>(by decide:0<4294967296)
theorem nbF_val:natV 4294967296 nbF 8=pB:=by kernel_rfl
structure NbRel (w:World) (k:Nat) (v:Value) (wr:World):Prop where
 own:wr.ownsRow (w.heap.size+1) 53 1 v (2*k) (pl nbF (2*k))
 below:Below w.heap.size w wr
 row:wr.heap[w.heap.size]?=some (.cells (pw pB) 24 (0,0))
theorem NbRel.size{w wr:World}{k:Nat}{v:Value}(h:NbRel w k v wr):w.heap.size+1<=wr.heap.size:=(Array.getElem?_eq_some_iff.1 h.row).1
theorem NbRel.drew{w wr:World}{k:Nat}{v:Value}(h:NbRel w k v wr):NbRel w k v wr.drew:=⟨h.own.drew,Below.drew h.below,h.row⟩
theorem nb_next{w w1 w2:World}{k:Nat}{v v' x y:Value}(h:NbRel w k v w1)(hown:w2.ownsRow (w.heap.size+1) 53 1 v' (2*k+2) (pl nbF (2*k)++[x,y]))(hg:(w1.alloc (.cells #[x,y] 53)).grownBy w2 v.ownBlock)(e:pl nbF (2*k)++[x,y]=pl nbF (2*(k+1))):NbRel w (k+1) v' w2:=by
 have hs:=h.size;refine⟨by rw[<- e];exact hown,(h.below.alloc (by omega) _).grown hg (by simp;omega) (fun j hj=>by have:=(h.own.lt j hj).1;omega),?_⟩;rw[hg.block w.heap.size (by simp;omega) (fun q=>by have:=(h.own.lt _ q.symm).1;omega),heap_alloc_old w1 _ (by omega)];exact h.row
theorem NbRel.an{w wr:World}{v:Value}(h:NbRel w 4 v wr):ANv pB v wr:=by
 obtain⟨g,c,rfl,hc,-,hp⟩:=own_pt h.own (by decide);exact⟨8,nbF,⟨_,c,rfl,hc,fun q=>(by cases q),hp.rd⟩,by decide,fun j _=>nbF_lt j,nbF_val⟩
theorem number_p(w:World):Calls Tryz.prog 55 #[.agg (pw pB)] w fun e w'=>∃ u,e=.returned u/\RPt pB u w'/\Below w.heap.size w w':=by
 obtain⟨i0,hi,hz0,hz1,hz2⟩:=info_parts info32;obtain⟨X,hX⟩:∃ X,pw pB=X:=⟨_,rfl⟩
 rw[hX];have HX:=Lib.hid hX;clear hX;go_enter Tryz.func55,Tryz.ntmps55;go_wp2
 go_loopw [3,4] (fun nv iv wr=>∃(u:Value) (k:Nat),u=nv/\k<=4/\iv=.int .i64 k/\Hid (NbRel w k u wr)) (fun _ iv _=>4 - (intOf iv).toNat)
 case atStart =>
  have ho:=World.ownsRow_made (base:=w.heap.size+1) (e:=53) (size:=1) (w.alloc (.cells X 24)) #[] 0 (by simp) (by decide) (by simp);have e0:(w.alloc (.cells X 24)).heap.size=w.heap.size+1:=by simp
  rw[e0]at ho;refine⟨_,0,rfl,by decide,rfl,Lib.hid ⟨ho,by go_grown,?_⟩⟩;rw[HX.out,heap_alloc_old _ _ (by simp)];exact heap_alloc_new _ _
 case round =>
  obtain⟨nv,k,rfl,hk4,rfl,H⟩:=hrel;have hk:k=4\/k=0\/k=1\/k=2\/k=3:=by omega
  rcases hk with hk | hk | hk | hk | hk
  ·subst hk
   have HA:=Lib.hid H.out.an;have HB:=Lib.hid H.out.below;clear H
   go_wp2_with fail
   refine(plain_ant HA.out).mono ?_;rintro e w' ⟨u,rfl,hR,hb⟩;have HR:=Lib.hid hR;have HB2:=Lib.hid (HB.out.trans (hb.mono HB.out.size));clear hR hb HA HB;go_wp2;go_ret;exact⟨_,rfl,HR.out,HB2.out⟩
  ·subst hk
   have ca:wr.drew.cell? ⟨w.heap.size,0,none⟩=some (.int .u64 4332616871279656263):=(cell_of_row _ _ _ _ _ _ H.out.row).trans (by kernel_rfl);have HC:=Lib.hid ca;clear ca
   go_wp2_with fail
   refine region_move_tail 10 (fun wx=>wx=wr.drew) nv (by kernel_rfl) (by kernel_rfl) rfl (fun _ _ _ h=>h) (Or.inl ⟨by rfl,fun _=>by kernel_rfl⟩) ?_;simp only[List.take_succ_cons,List.take_zero,List.drop_succ_cons,List.drop_zero]
   with_reducible refine q_val (.int .i64 0) (by kernel_rfl) (fun _ _=>by kernel_rfl) ?_
   with_reducible refine q_val (.pointer (some ⟨w.heap.size,0,none⟩)) (by kernel_rfl) (fun _ _=>by kernel_rfl) ?_
   with_reducible refine q_load 22 (.tmp 12) (.pointer (some ⟨w.heap.size,0,none⟩)) (.int .u64 4332616871279656263) rfl (by kernel_rfl) (by kernel_rfl) (fun _ c=>load_u64n (c ▸ HC.out)) ?_
   with_reducible refine q_val (.int .u64 3632069959) (by kernel_rfl) (fun _ _=>by kernel_rfl) ?_
   with_reducible refine q_val (.int .u32 3632069959) (by kernel_rfl) (fun _ _=>by kernel_rfl) ?_
   with_reducible refine q_val (.int .i64 0) (by kernel_rfl) (fun _ _=>by kernel_rfl) ?_
   with_reducible refine q_val (.pointer (some ⟨w.heap.size,0,none⟩)) (by kernel_rfl) (fun _ _=>by kernel_rfl) ?_
   with_reducible refine q_load 22 (.tmp 17) (.pointer (some ⟨w.heap.size,0,none⟩)) (.int .u64 4332616871279656263) rfl (by kernel_rfl) (by kernel_rfl) (fun _ c=>load_u64n (c ▸ HC.out)) ?_
   with_reducible refine q_val (.int .u64 1008765974) (by kernel_rfl) (fun _ _=>by kernel_rfl) ?_
   with_reducible refine q_val (.int .u32 1008765974) (by kernel_rfl) (fun _ _=>by kernel_rfl) ?_
   with_reducible refine wpQuiet_nil ?_
   intro w1 hw1;simp only[Act.put,List.setIfInBounds_toArray,List.set_cons_succ,List.set_cons_zero];have H1:=Lib.hid (hw1 ▸ H.out.drew:NbRel w 0 nv w1);have hul:w.heap.size+1<=w1.heap.size:=H1.out.size;clear hw1 H HC
   go_wp2_with (at_builtin;refine wpList_append_own _ rfl _ _ 46 rfl (w.heap.size+1) 53 i0 (.int .u32 0) 1 4 Tryz.underlying46 hi hz0 hz1 hz2 rfl (by decide) _ 0 (pl nbF 0) rfl (World.ownsRow.alloc H1.out.own _) ⟨w1.heap.size,0,none⟩ 2 2 [.int .u32 3632069959,.int .u32 1008765974] rfl rfl ?d111 ?d112 ?d113 ?d114 ?d115 ?_)
   try (case d111=>exact two_new _ _ _)
   try (case d112=>first | rfl | (intro u hu;simp at hu;rcases hu with rfl | rfl <;> rfl))
   try (case d113=>decide)
   try (case d114=>decide)
   try (case d115=>simp;omega)
   intro v' w2 hown' hgrow _;have HN:=Lib.hid (nb_next (k:=0) H1.out hown' hgrow (by kernel_rfl));clear hown' hgrow hul H1;go_wp2
   go_roundw
   case rel=>exact⟨_,1,rfl,by decide,rfl,HN⟩
   case measure=>simp[intOf]
  ·subst hk
   have ca:wr.drew.cell? ⟨w.heap.size,1,none⟩=some (.int .u64 10917124144477883021):=(cell_of_row _ _ _ _ _ _ H.out.row).trans (by kernel_rfl);have HC:=Lib.hid ca;clear ca
   go_wp2_with fail
   refine region_move_tail 10 (fun wx=>wx=wr.drew) nv (by kernel_rfl) (by kernel_rfl) rfl (fun _ _ _ h=>h) (Or.inl ⟨by rfl,fun _=>by kernel_rfl⟩) ?_;simp only[List.take_succ_cons,List.take_zero,List.drop_succ_cons,List.drop_zero]
   with_reducible refine q_val (.int .i64 1) (by kernel_rfl) (fun _ _=>by kernel_rfl) ?_
   with_reducible refine q_val (.pointer (some ⟨w.heap.size,1,none⟩)) (by kernel_rfl) (fun _ _=>by kernel_rfl) ?_
   with_reducible refine q_load 22 (.tmp 12) (.pointer (some ⟨w.heap.size,1,none⟩)) (.int .u64 10917124144477883021) rfl (by kernel_rfl) (by kernel_rfl) (fun _ c=>load_u64n (c ▸ HC.out)) ?_
   with_reducible refine q_val (.int .u64 1752287885) (by kernel_rfl) (fun _ _=>by kernel_rfl) ?_
   with_reducible refine q_val (.int .u32 1752287885) (by kernel_rfl) (fun _ _=>by kernel_rfl) ?_
   with_reducible refine q_val (.int .i64 1) (by kernel_rfl) (fun _ _=>by kernel_rfl) ?_
   with_reducible refine q_val (.pointer (some ⟨w.heap.size,1,none⟩)) (by kernel_rfl) (fun _ _=>by kernel_rfl) ?_
   with_reducible refine q_load 22 (.tmp 17) (.pointer (some ⟨w.heap.size,1,none⟩)) (.int .u64 10917124144477883021) rfl (by kernel_rfl) (by kernel_rfl) (fun _ c=>load_u64n (c ▸ HC.out)) ?_
   with_reducible refine q_val (.int .u64 2541841041) (by kernel_rfl) (fun _ _=>by kernel_rfl) ?_
   with_reducible refine q_val (.int .u32 2541841041) (by kernel_rfl) (fun _ _=>by kernel_rfl) ?_
   with_reducible refine wpQuiet_nil ?_
   intro w1 hw1;simp only[Act.put,List.setIfInBounds_toArray,List.set_cons_succ,List.set_cons_zero];have H1:=Lib.hid (hw1 ▸ H.out.drew:NbRel w 1 nv w1);have hul:w.heap.size+1<=w1.heap.size:=H1.out.size;clear hw1 H HC
   go_wp2_with (at_builtin;refine wpList_append_own _ rfl _ _ 46 rfl (w.heap.size+1) 53 i0 (.int .u32 0) 1 4 Tryz.underlying46 hi hz0 hz1 hz2 rfl (by decide) _ 2 (pl nbF 2) rfl (World.ownsRow.alloc H1.out.own _) ⟨w1.heap.size,0,none⟩ 2 2 [.int .u32 1752287885,.int .u32 2541841041] rfl rfl ?d111 ?d112 ?d113 ?d114 ?d115 ?_)
   try (case d111=>exact two_new _ _ _)
   try (case d112=>first | rfl | (intro u hu;simp at hu;rcases hu with rfl | rfl <;> rfl))
   try (case d113=>decide)
   try (case d114=>decide)
   try (case d115=>simp;omega)
   intro v' w2 hown' hgrow _;have HN:=Lib.hid (nb_next (k:=1) H1.out hown' hgrow (by kernel_rfl));clear hown' hgrow hul H1;go_wp2
   go_roundw
   case rel=>exact⟨_,2,rfl,by decide,rfl,HN⟩
   case measure=>simp[intOf]
  ·subst hk
   have ca:wr.drew.cell? ⟨w.heap.size,2,none⟩=some (.int .u64 13281191951274694749):=(cell_of_row _ _ _ _ _ _ H.out.row).trans (by kernel_rfl);have HC:=Lib.hid ca;clear ca
   go_wp2_with fail
   refine region_move_tail 10 (fun wx=>wx=wr.drew) nv (by kernel_rfl) (by kernel_rfl) rfl (fun _ _ _ h=>h) (Or.inl ⟨by rfl,fun _=>by kernel_rfl⟩) ?_;simp only[List.take_succ_cons,List.take_zero,List.drop_succ_cons,List.drop_zero]
   with_reducible refine q_val (.int .i64 2) (by kernel_rfl) (fun _ _=>by kernel_rfl) ?_
   with_reducible refine q_val (.pointer (some ⟨w.heap.size,2,none⟩)) (by kernel_rfl) (fun _ _=>by kernel_rfl) ?_
   with_reducible refine q_load 22 (.tmp 12) (.pointer (some ⟨w.heap.size,2,none⟩)) (.int .u64 13281191951274694749) rfl (by kernel_rfl) (by kernel_rfl) (fun _ c=>load_u64n (c ▸ HC.out)) ?_
   with_reducible refine q_val (.int .u64 2172737629) (by kernel_rfl) (fun _ _=>by kernel_rfl) ?_
   with_reducible refine q_val (.int .u32 2172737629) (by kernel_rfl) (fun _ _=>by kernel_rfl) ?_
   with_reducible refine q_val (.int .i64 2) (by kernel_rfl) (fun _ _=>by kernel_rfl) ?_
   with_reducible refine q_val (.pointer (some ⟨w.heap.size,2,none⟩)) (by kernel_rfl) (fun _ _=>by kernel_rfl) ?_
   with_reducible refine q_load 22 (.tmp 17) (.pointer (some ⟨w.heap.size,2,none⟩)) (.int .u64 13281191951274694749) rfl (by kernel_rfl) (by kernel_rfl) (fun _ c=>load_u64n (c ▸ HC.out)) ?_
   with_reducible refine q_val (.int .u64 3092268470) (by kernel_rfl) (fun _ _=>by kernel_rfl) ?_
   with_reducible refine q_val (.int .u32 3092268470) (by kernel_rfl) (fun _ _=>by kernel_rfl) ?_
   with_reducible refine wpQuiet_nil ?_
   intro w1 hw1;simp only[Act.put,List.setIfInBounds_toArray,List.set_cons_succ,List.set_cons_zero];have H1:=Lib.hid (hw1 ▸ H.out.drew:NbRel w 2 nv w1);have hul:w.heap.size+1<=w1.heap.size:=H1.out.size;clear hw1 H HC
   go_wp2_with (at_builtin;refine wpList_append_own _ rfl _ _ 46 rfl (w.heap.size+1) 53 i0 (.int .u32 0) 1 4 Tryz.underlying46 hi hz0 hz1 hz2 rfl (by decide) _ 4 (pl nbF 4) rfl (World.ownsRow.alloc H1.out.own _) ⟨w1.heap.size,0,none⟩ 2 2 [.int .u32 2172737629,.int .u32 3092268470] rfl rfl ?d111 ?d112 ?d113 ?d114 ?d115 ?_)
   try (case d111=>exact two_new _ _ _)
   try (case d112=>first | rfl | (intro u hu;simp at hu;rcases hu with rfl | rfl <;> rfl))
   try (case d113=>decide)
   try (case d114=>decide)
   try (case d115=>simp;omega)
   intro v' w2 hown' hgrow _;have HN:=Lib.hid (nb_next (k:=2) H1.out hown' hgrow (by kernel_rfl));clear hown' hgrow hul H1;go_wp2
   go_roundw
   case rel=>exact⟨_,3,rfl,by decide,rfl,HN⟩
   case measure=>simp[intOf]
  ·subst hk
   have ca:wr.drew.cell? ⟨w.heap.size,3,none⟩=some (.int .u64 3486998266802970665):=(cell_of_row _ _ _ _ _ _ H.out.row).trans (by kernel_rfl);have HC:=Lib.hid ca;clear ca
   go_wp2_with fail
   refine region_move_tail 10 (fun wx=>wx=wr.drew) nv (by kernel_rfl) (by kernel_rfl) rfl (fun _ _ _ h=>h) (Or.inl ⟨by rfl,fun _=>by kernel_rfl⟩) ?_;simp only[List.take_succ_cons,List.take_zero,List.drop_succ_cons,List.drop_zero]
   with_reducible refine q_val (.int .i64 3) (by kernel_rfl) (fun _ _=>by kernel_rfl) ?_
   with_reducible refine q_val (.pointer (some ⟨w.heap.size,3,none⟩)) (by kernel_rfl) (fun _ _=>by kernel_rfl) ?_
   with_reducible refine q_load 22 (.tmp 12) (.pointer (some ⟨w.heap.size,3,none⟩)) (.int .u64 3486998266802970665) rfl (by kernel_rfl) (by kernel_rfl) (fun _ c=>load_u64n (c ▸ HC.out)) ?_
   with_reducible refine q_val (.int .u64 3778125865) (by kernel_rfl) (fun _ _=>by kernel_rfl) ?_
   with_reducible refine q_val (.int .u32 3778125865) (by kernel_rfl) (fun _ _=>by kernel_rfl) ?_
   with_reducible refine q_val (.int .i64 3) (by kernel_rfl) (fun _ _=>by kernel_rfl) ?_
   with_reducible refine q_val (.pointer (some ⟨w.heap.size,3,none⟩)) (by kernel_rfl) (fun _ _=>by kernel_rfl) ?_
   with_reducible refine q_load 22 (.tmp 17) (.pointer (some ⟨w.heap.size,3,none⟩)) (.int .u64 3486998266802970665) rfl (by kernel_rfl) (by kernel_rfl) (fun _ c=>load_u64n (c ▸ HC.out)) ?_
   with_reducible refine q_val (.int .u64 811880050) (by kernel_rfl) (fun _ _=>by kernel_rfl) ?_
   with_reducible refine q_val (.int .u32 811880050) (by kernel_rfl) (fun _ _=>by kernel_rfl) ?_
   with_reducible refine wpQuiet_nil ?_
   intro w1 hw1;simp only[Act.put,List.setIfInBounds_toArray,List.set_cons_succ,List.set_cons_zero];have H1:=Lib.hid (hw1 ▸ H.out.drew:NbRel w 3 nv w1);have hul:w.heap.size+1<=w1.heap.size:=H1.out.size;clear hw1 H HC
   go_wp2_with (at_builtin;refine wpList_append_own _ rfl _ _ 46 rfl (w.heap.size+1) 53 i0 (.int .u32 0) 1 4 Tryz.underlying46 hi hz0 hz1 hz2 rfl (by decide) _ 6 (pl nbF 6) rfl (World.ownsRow.alloc H1.out.own _) ⟨w1.heap.size,0,none⟩ 2 2 [.int .u32 3778125865,.int .u32 811880050] rfl rfl ?d111 ?d112 ?d113 ?d114 ?d115 ?_)
   try (case d111=>exact two_new _ _ _)
   try (case d112=>first | rfl | (intro u hu;simp at hu;rcases hu with rfl | rfl <;> rfl))
   try (case d113=>decide)
   try (case d114=>decide)
   try (case d115=>simp;omega)
   intro v' w2 hown' hgrow _;have HN:=Lib.hid (nb_next (k:=3) H1.out hown' hgrow (by kernel_rfl));clear hown' hgrow hul H1;go_wp2
   go_roundw
   case rel=>exact⟨_,4,rfl,by decide,rfl,HN⟩
   case measure=>simp[intOf]
end Go.Proofs.YthnckclbeecnmaaGreat
namespace Go.Proofs.YthnckclbeecnmaaGreat.MT
open Go.RowKit
def Sp.okR(R:World->World->Prop):Sp->Prop
 | .own _ f=>∀ v wa wb,R wa wb->f v wa->f v wb
 | .blk _ _=>False
 | .laid _ _=>False
 | _=>True
def okRL(R:World->World->Prop):List Sp->Prop
 | []=>True
 | p::l=>p.okR R/\okRL R l
theorem okRL.at_{R:World->World->Prop}:∀ {L:List Sp},okRL R L->∀ i,(spAt L i).okR R
 | [],_,i=>by simp[spAt,Sp.okR]
 | p::l,h,0=>by simpa[spAt]using h.1
 | p::l,h,i+1=>by simpa[spAt]using okRL.at_ h.2 i
theorem Sp.keepR{R:World->World->Prop}{H:Nat}{J:Nat->Array Value}{p:Sp}(ho:p.okR R){s:Nat->Value}{wa wb:World}(hR:R wa wb)(hp:p.at_ H J s wa):p.at_ H J s wb:=by
 cases p with
 | val d v=>exact hp
 | none=>trivial
 | own d f=>exact ho _ _ _ hR hp
 | blk d T=>exact ho.elim
 | laid d T=>exact ho.elim
section
variable {P:Program} {Q:Exit->Act->World->Prop} {a0:Act}
abbrev PhiK(L:List Sp):Nat->(Nat->Value)->World->Prop:=fun i s wx=>(spAt L i).at_ 0 (fun _=>#[]) s wx
theorem region_keep{id:Nat}{l:List Oper}{w:World}(L:List Sp)(C:World->Prop)(R:World->World->Prop)(rk:Nat->Nat)(hm:P.follows .mixedOrders=true)
  (hB:(distinctB l&&rankB l.toArray rk&&ownB l.toArray (fun i=>(spAt L i).rd)&&insideB l.toArray)=true) (hO:okRL R L) (hC:C w.drew)
  (hst:StepsU P l.toArray Q (fun _ wx=>C wx) (PhiK L) (fun _=>R) a0 0 l)
  (hQ:∀(f:Oper->Value) wx,C wx->(∀ i o,l[i]?=some o->PhiK L i (slots (putAll f l a0)) wx)->Q .normal (putAll f l a0) wx):(Code.region id l.toArray true).wp P Q a0 w :=
 region_tie2 (fun _ wx=>C wx) (PhiK L) (fun _=>R) (fun i=>(spAt L i).rd) rk hm hB hC (fun _ _ _ _ h hp=>Sp.same h hp) (fun i _ _ _ _ hR hp=>Sp.keepR (hO.at_ i) hR hp) hst hQ
end
end Go.Proofs.YthnckclbeecnmaaGreat.MT
namespace Go.Proofs.YthnckclbeecnmaaGreat
open Go.RowKit
open Sy
theorem RPt.keepT{TT:TypeId}(hT:53≠TT){V:Nat}(v:Value)(wa wb:World)(h:MT.KeepT TT wa wb):RPt V v wa->RPt V v wb:=by
 rintro⟨g,n,c,f,cs,h1,h2,h3,h5⟩;have h4:=h.block h2 hT;refine⟨g,n,c,f,cs,h1,h4,⟨h3.cap,?_,fun q hq=>Nat.lt_of_lt_of_le (h3.blk q hq) (KeepT.size h),h3.lt,h3.few⟩,h5⟩;rcases h3.rd with h0 | ⟨b,o,e,hp⟩
 ·exact .inl h0
 ·cases e
  exact .inr ⟨g,0,rfl,Nat.lt_of_lt_of_le hp.1 (KeepT.size h),fun j hj=>(World.cell?_of_block (a:=⟨g,0+j,none⟩) (show wb.heap[g]?=wa.heap[g]? by rw[h4,h2])).trans (hp.2 j hj)⟩
def RD(D:Nat)(J:Array Value)(wa wb:World):Prop:=Below wa.heap.size wa wb\/(∃ cs,wa.heap[D]?=some (.cells cs 38 (0,0)))/\wb=wa.setRow D J
theorem RD.keepT{D:Nat}{J:Array Value}{wa wb:World}(h:RD D J wa wb):MT.KeepT 38 wa wb:=by
 rcases h with h | ⟨⟨cs,h⟩,rfl⟩
 ·exact .inl h
 ·exact .inr ⟨D,cs,J,h,rfl⟩
structure CDt (w:World) (D:Nat) (wx:World):Prop where
 g:w.grownBy wx (some D)
 row:∃ cs,wx.heap[D]?=some (.cells cs 38 (0,0))/\cs.size=48
theorem CDt.below{w wx w':World}{D:Nat}(h:CDt w D wx)(hb:Below wx.heap.size wx w'):CDt w D w':=by
 obtain⟨cs,h1,h2⟩:=h.row;exact⟨⟨hb.os.trans h.g.os,hb.tape.trans h.g.tape,hb.output.trans h.g.output,Nat.le_trans h.g.size hb.size,fun k hk hne=>(hb.block k (Nat.lt_of_lt_of_le hk h.g.size)).trans (h.g.block k hk hne)⟩,cs,(hb.block _ (Array.getElem?_eq_some_iff.1 h1).1).trans h1,h2⟩
theorem CDt.set{w wx:World}{D:Nat}{J:Array Value}(h:CDt w D wx)(hJ:J.size=48):CDt w D (wx.setRow D J):=by
 obtain⟨cs,h1,h2⟩:=h.row;exact⟨⟨h.g.os,h.g.tape,h.g.output,by simpa using h.g.size,fun k hk hne=>(setRow_other _ _ _ _ (fun e=>hne (by rw[e]))).trans (h.g.block k hk hne)⟩,J,setRow_heap _ _ _ _ _ _ h1,hJ⟩
theorem CDt.get{w wx:World}{D k:Nat}{cs:Array Value}{T:TypeId}(h:CDt w D wx)(hk:w.heap[k]?=some (.cells cs T (0,0)))(hne:k≠D):wx.heap[k]?=some (.cells cs T (0,0)) :=
 (h.g.block k (Array.getElem?_eq_some_iff.1 hk).1 (fun e=>hne (Option.some.inj e))).trans hk
theorem tp_r1{A B D F:Nat}{z:Z12 pB}{cs:Array Value}{a0:Act}{w:World}{X:Exit->Act->World->Prop}(hz0:a0.tmps.size=10)
  (h2:a0.tmps.getD 2 undef=.pointer (some ⟨B,0,none⟩)) (hB:w.heap[B]?=some (.cells #[.pointer (some ⟨F,0,none⟩)] 29 (0,0))) (hF:RFld w F pB)
  (h3:a0.tmps.getD 3 undef=.pointer (some ⟨A,0,none⟩)) (hA:w.heap[A]?=some (.cells ((L12s (v12 z)).cells o0).toArray 38 (0,0)))
  (h4:a0.tmps.getD 4 undef=.pointer (some ⟨D,0,none⟩)) (hD:w.heap[D]?=some (.cells cs 38 (0,0))) (hcs:cs.size=48) (hAD:A≠D)
  (hX:∀ a' w',a'.tmps.size=a0.tmps.size->a'.defers=a0.defers->w.grownBy w' (some D)->(∀ t,t ∉ [5,6,7,8,9]->a'.tmps.getD t undef=a0.tmps.getD t undef)->w'.heap[D]?=some (.cells ((L12s (pw12 prB z pB)).cells o0).toArray 38 (0,0))->X .normal a' w') :
  ((Tryz.f32.body.bind (regC 1)).getD .skip).wp Tryz.prog X a0 w:=by
 have hBD:B≠D:=fun e=>by
  subst e;rw[hB]at hD;injection hD with hD
  injection hD with _ hD
  exact absurd hD (by decide)
 obtain⟨lo,l1,l2,hFr⟩:=hF;have hFD:F≠D:=fun e=>by
  subst e;rw[hFr]at hD;injection hD with hD
  injection hD with _ hD
  exact absurd hD (by decide)
 obtain⟨Y,hY⟩:∃ Y,pw12 prB z pB=Y:=⟨_,rfl⟩
 rw[hY]at hX;have hJ:((L12s Y).cells o0).toArray.size=48:=by kernel_rfl
 conv=>arg 2;whnf
 refine MT.region_keep [.val 5 (.agg #[.pointer (some ⟨F,0,none⟩)]),.val 6 ((L12s (v12 z)).val o0),.val 7 (.agg (pw pB)),.own 8 (RPt pB),.val 9 ((L12s Y).val o0),.own 4 (fun _ wx=>wx.heap[D]?=some (.cells ((L12s Y).cells o0).toArray 38 (0,0)))] (CDt w D) (RD D ((L12s Y).cells o0).toArray) (fun i=>i) (by kernel_rfl) (by kernel_rfl)
  (by
   refine⟨trivial,trivial,trivial,fun v wa wb h=>RPt.keepT (by decide) v wa wb h.keepT,trivial,fun v wa wb h h1=>?_,trivial⟩;rcases h with h | ⟨_,rfl⟩
   ·exact(h.block _ (Array.getElem?_eq_some_iff.1 h1).1).trans h1
   ·exact setRow_heap _ _ _ _ _ _ h1) ⟨⟨rfl,rfl,rfl,Nat.le_refl _,fun _ _ _=>rfl⟩,cs,hD,hcs⟩ ?_ ?_
 ·refine⟨?_,?_,?_,?_,?_,?_,trivial⟩
  ·intro ac wx hC hsz hK
   have h0:=(hK.1 2 (by kernel_rfl)).trans h2;exact uu_load 29 (.tmp 2) _ (.agg #[.pointer (some ⟨F,0,none⟩)]) rfl (by kernel_rfl) h0 (ldT (hC.get hB hBD)) hC (slots_put _ _ _ (by rw[hsz,hz0];decide)) (.inl (Below.refl _ _))
  ·intro ac wx hC hsz hK
   have h0:=(hK.1 3 (by kernel_rfl)).trans h3;exact uu_load 38 (.tmp 3) _ ((L12s (v12 z)).val o0) rfl (by kernel_rfl) h0 (ld12 (hC.get hA hAD)) hC (slots_put _ _ _ (by rw[hsz,hz0];decide)) (.inl (Below.refl _ _))
  ·intro ac wx hC hsz hK
   refine uu_call 34 #[] (by kernel_rfl) (by kernel_rfl) ((rbase_any wx).mono fun e w' ⟨h1,hb⟩=>⟨_,h1,hC.below hb,slots_put _ _ _ (by rw[hsz,hz0];decide),.inl hb⟩)
  ·intro ac wx hC hsz hK
   have h0:ac.tmps.getD 7 undef=.agg (pw pB):=hK.2 ⟨2,.data⟩ (by simp) rfl _ rfl;refine uu_call 55 #[ac.tmps.getD 7 undef] (by kernel_rfl) (by kernel_rfl) ?_;rw[h0];refine(number_p wx).mono fun e w' ⟨u,h1,hr,hb⟩=>⟨u,h1,hC.below hb,?_,.inl hb⟩
   show RPt pB (slots (ac.put (some 8) u) 8) w';rw[slots_put _ _ _ (by rw[hsz,hz0];decide)];exact hr
  ·intro ac wx hC hsz hK
   have h0:ac.tmps.getD 5 undef=.agg #[.pointer (some ⟨F,0,none⟩)]:=hK.2 ⟨0,.data⟩ (by simp) rfl _ rfl;have h1:ac.tmps.getD 6 undef=(L12s (v12 z)).val o0:=hK.2 ⟨1,.data⟩ (by simp) rfl _ rfl;obtain⟨g,n,c,f,ds,h5,-,hN,hv⟩:RPt pB (ac.tmps.getD 8 undef) wx:=hK.2 ⟨3,.data⟩ (by simp) rfl _ rfl;refine uu_call 29 #[ac.tmps.getD 5 undef,ac.tmps.getD 6 undef,ac.tmps.getD 8 undef] (by kernel_rfl) (by kernel_rfl) ?_;rw[h0,h1,h5];have t:=Texp_at hN z ⟨lo,l1,l2,hC.get hFr hFD⟩;rw[hv,hY]at t;exact t.mono fun e w' ⟨h6,hb⟩=>⟨_,h6,hC.below hb,slots_put _ _ _ (by rw[hsz,hz0];decide),.inl hb⟩
  ·intro ac wx hC hsz hK
   have h0:ac.tmps.getD 9 undef=(L12s Y).val o0:=hK.2 ⟨4,.data⟩ (by simp) rfl _ rfl;have h1:=(hK.1 4 (by kernel_rfl)).trans h4;obtain⟨ds,hd1,hd2⟩:=hC.row;refine uu_store (w':=wx.setRow D ((L12s Y).cells o0).toArray) (by kernel_rfl) rfl ?_ (hC.set hJ) (setRow_heap _ _ _ _ _ _ hd1) (.inr ⟨⟨ds,hd1⟩,rfl⟩);unfold execOp;simp only[show ac.eval (.tmp 4)=.pointer (some ⟨D,0,none⟩) from h1,show ac.eval (.tmp 9)=(L12s Y).val o0 from h0,Sem.run_bind,st12 hd1 hd2,Result.andThen_ok,Sem.run_pure]
 ·intro g wx hC hf
  generalize hA':putAll g _ a0=a' at hf |-
  have z1:a'.tmps.size=a0.tmps.size:=by rw[<- hA'];exact putAll_size _ _ _
  have z2:a'.defers=a0.defers:=by rw[<- hA'];exact putAll_defers _ _ _
  have z3:∀ t,t ∉ [5,6,7,8,9]->a'.tmps.getD t undef=a0.tmps.getD t undef:=fun t ht=>by
   rw[<- hA'];exact putAll_other (not_dst (ks:=[5,6,7,8,9]) (by kernel_rfl) ht)
  clear hA';exact hX a' wx z1 z2 hC.g z3 (hf 5 _ rfl)
namespace Sy
def hkT(z:Z12 pB)(x:SV)(s:St):Option (List Ob × St):=match look s.S 2,look s.S 3,look s.S 4 with
 | some (.p g2 0 0 0),some (.p g3 0 0 0),some (.p g4 0 0 0)=>match rowIn g2 s.M,rowIn g3 s.M,rowIn g4 s.M,storeIn g4 x 0 s.M with
  | some (.ap y .e,T2),some (y3,T3),some (y4,T4),some M=>match isR true pB 0 s.M y with
   | some p=>if T2=29/\T3=38/\T4=38/\y4.size=48/\g3≠g4 then some (p++[.ask (y3=L12s (v12 z))],⟨[(5,none),(6,none),(7,none),(8,none),(9,none)]++s.S,M,s.n⟩)else none
   | none=>none
  | _,_,_,_=>none
 | _,_,_=>none
theorem L12_z(γ:Pl)(a:N12):(L12s a).cells γ=(L12s a).cells o0:=(SV.lt_same (γ:=γ) (δ:=o0) (n:=0) (fun _ hk=>absurd hk (Nat.not_lt_zero _)) (x:=L12s a) rfl).2.1
theorem ap_rowT{z:SV}{γ:Pl}{F:Nat}{p:List Ob}{M:Rows}(hi:isR true pB 0 M z=some p)(h:z.val γ=.pointer (some ⟨F,0,none⟩)):((SV.ap z .e).cells γ).toArray=#[.pointer (some ⟨F,0,none⟩)]:=by
 cases z <;> first | (cases hi;done) | skip
 simpa[SV.val,SV.cells,SV.sc]using h
theorem hkT_ok{E:Env}{γ0:Pl}{w0:World}{z:Z12 pB}(hP:E.P=Tryz.prog)(hE:E.base=1)(hR:ROk true pB 0 γ0 w0):HookOk E γ0 10 w0 ((Tryz.f32.body.bind (regC 1)).getD .skip) (hkT z (L12s (pw12 prB z pB))):=by
 intro s q s' h hp γ b w X R cont;unfold hkT at h
 split at h
 ·rename_i g2 g3 g4 k2 k3 k4
  split at h
  ·rename_i y T2 y3 T3 y4 T4 M r2 r3 r4 hs
   split at h
   ·rename_i pz hi
    split at h
    ·rename_i hT
     obtain⟨rfl,rfl,rfl,h48,hne⟩:=hT;cases h;obtain rfl:y3=L12s (v12 z):=hp (.ask _) (List.mem_append_right _ (.head _));obtain⟨F,hz,hF⟩:=isR_at hi (fun o ho=>hp o (List.mem_append_left _ ho)) hR (fun k hk=>R.ag k (by rw[hE];exact hk)) R.h.old R.lies;have hrow3:=(R.lies _ (rowIn_ok r3)).1;have hrow2:=(R.lies _ (rowIn_ok r2)).1;have hrow4:=(R.lies _ (rowIn_ok r4)).1;dsimp only at hrow3 hrow2 hrow4;rw[L12_z]at hrow3;rw[ap_rowT hi hz]at hrow2;have hnd:γ g3≠γ g4:=by
      have hd:=List.pairwise_map.1 R.h.nd;exact pair_all (R:=fun p q:Nat × SV × TypeId=>γ p.1≠γ q.1) (fun _ _ h=>Ne.symm h) hd _ (rowIn_ok r3) _ (rowIn_ok r4) (fun e=>hne (congrArg (·.1) e))
     obtain⟨w1,hst,R1⟩:=R.store (T:=38) hs rfl (pw12_ok _ _) rfl (by rw[hP];exact(tyAll_mem tysT_ok ty12 (List.mem_append_left _ (.tail _ (.tail _ (.tail _ (.head _)))))).sz);rw[hP,(SV.lt_same (γ:=γ) (δ:=o0) (n:=0) (fun _ hk=>absurd hk (Nat.not_lt_zero _)) (x:=L12s (pw12 prB z pB)) rfl).2.2,st12 hrow4 (by simpa[SV.cells_len]using h48)]at hst;injection hst with _ hst
     subst hst;rw[hP];refine tp_r1 R.z (R.k 2 _ k2).1 hrow2 hF (R.k 3 _ k3).1 hrow3 (R.k 4 _ k4).1 hrow4 (by simpa[SV.cells_len]using h48) hnd fun a' w' hz hd hg hk hD=>cont γ a' w' (Rel.hook0 R1 hz hd ⟨hg.os,hg.tape,hg.output,by simpa using hg.size,fun k hk=>?_⟩ (fun t y hm=>?_) (fun t ht=>hk t ht))
     ·by_cases e:k=γ g4
      ·subst e
       rw[hD,setRow_heap _ _ _ _ _ _ hrow4]
      ·rw[setRow_other _ _ _ _ e]
       exact hg.block k (by simpa using hk) (fun q=>e (Option.some.inj q))
     ·simp only[List.mem_cons,List.not_mem_nil,or_false,Prod.mk.injEq,reduceCtorEq,and_false]at hm
    ·cases h
   ·cases h
  ·cases h
 ·cases h
def hkTs(z:Z12 pB)(x:SV):Hooks:=fun id=>match id with
 | 1=>some (hkT z x)
 | _=>none
theorem tpow_calls{w:World}{F:Nat}(z:Z12 pB)(hF:RFld w F pB):Calls Tryz.prog 32 #[.agg #[.pointer (some ⟨F,0,none⟩)],(L12s (v12 z)).val o0] w fun e w'=>e=.returned ((L12s (pw12 prB z pB)).val o0)/\Below w.heap.size w w':=by
 obtain⟨x,hx⟩:∃ x,L12s (pw12 prB z pB)=x:=⟨_,rfl⟩
 obtain⟨Y,hY⟩:∃ Y,pw12 prB z pB=Y:=⟨_,rfl⟩
 obtain⟨a,ha⟩:∃ a,v12 z=a:=⟨_,rfl⟩
 have oa:(L12s a).ok:=ha ▸ L12v_ok ltB z;have hH:∀ r∈regsOf (Tryz.f32.body.getD .skip),∀ h,hkTs z (L12s Y) r.1=some h->HookOk (E1 []) (fun _=>F) 10 w r.2 h:=by
  intro r hr h hh;refine hooked (H:=hkTs z (L12s Y)) (l:=[(1,(Tryz.f32.body.bind (regC 1)).getD .skip)]) (p:=fun r=>∀ h,hkTs z (L12s Y) r.1=some h->HookOk (E1 []) (fun _=>F) 10 w r.2 h) (by kernel_rfl) (fun r hr=>?_) r hr (by rw[hh];rfl) h hh;simp only[List.mem_cons,List.not_mem_nil,or_false]at hr;subst hr;intro h hh;cases hh;rw[<- hY];exact hkT_ok rfl rfl (ROk.of bB hF)
 rw[hY,ha];exact callsH_at (E1_ok (γ0:=fun _=>F) (more:=[]) trivial) (by kernel_rfl) (fun _=>0) (hkTs z (L12s Y)) Tryz.func32 (by kernel_rfl) [sG,L12s a] ⟨⟨⟨trivial,trivial⟩,rfl⟩,⟨oa,rfl⟩,trivial⟩ (by kernel_rfl) hH (by kernel_rfl)
  (.need (L12s a=L12s (v12 z)) (.leaf (L12s Y))) (by kernel_rfl) (need_sh (by rw[ha]) (leaf_sh rfl))
end Sy
end Go.Proofs.YthnckclbeecnmaaGreat
