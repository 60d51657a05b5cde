/- Regions that draw their order: begun, gone through, ended. No program is named here. (Cut to what is reached, written closely: SyJ · SyK.) -/
import Derived.Test.YtadfjjfklihaaaaGreatP20
set_option linter.all false
set_option maxRecDepth 100000
set_option maxHeartbeats 8000000
namespace Go.Proofs.YtadfjjfklihaaaaGreat.Sy
open Go.RowKit
structure PassAt (E:Env) (N:Nat) (l:List Oper) (ms:List (Nat × Nat)) (s:St) (es:List Ef) (ps:List Ob) (k:Nat) (o:Oper) (e:Ef):Prop where
 eff:∃ p,effAt E N (s.n+8*k) (gsl l (lkW l (lookN ms k) (es.take k) s.S) o) (lkW l (lookN ms k) (es.take k) s.S) (seenM (lookN ms k) o (lkW l (lookN ms k) (es.take k) s.S) (es.take k) s.M) o=some (e,p)/\∀ q∈p,q∈ps
 ok:okEf s.n l ms (es.take k) s.S s.M k e=true
structure RelD (E:Env) (γ0 γs γ:Pl) (N:Nat) (w0:World) (s:St) (l:List Oper) (es:List Ef) (a0:Act) (D:Nat->Bool) (a:Act) (w:World):Prop where
 old:∀ g,g<s.n->γ g=γs g
 z:a.tmps.size=N
 d:a.defers=[]
 kp:∀ t,(∀(i:Nat) o,l[i]?=some o->D i=true->o.dst≠some t)->a.tmps.getD t undef=a0.tmps.getD t undef
 sl:∀(i:Nat) (e:Ef) t x,es[i]?=some e->D i=true->e.d=some (t,some x)->a.tmps.getD t undef=x.val γ/\x.ok/\x.lt (s.n+8*(i+1))=true
 rk:∀(i:Nat) (e:Ef),es[i]?=some e->D i=true->∀ q∈e.R,q.2.1.ok/\q.2.1.lt (s.n+8*(i+1))=true/\s.n+8*i<=q.1/\q.1<s.n+8*(i+1)
 sk:∀(i:Nat) (e:Ef) g c,es[i]?=some e->D i=true->e.st=some (g,c)->c.ok/\c.lt (s.n+8*i)=true
 b:Below w0.heap.size w0 w
 rows:∀ r∈rowsD D es s.M,w0.heap.size<=γ r.1/\w.heap[γ r.1]?=some (.cells (r.2.1.cells γ).toArray r.2.2 (0,0))
 nd:∀ r∈rowsD D es s.M,∀ q∈rowsD D es s.M,r.1≠q.1->γ r.1≠γ q.1
section
variable {E:Env} {γ0 γ γs δ:Pl} {N nx:Nat} {w0 ws w w' wx:World} {s:St} {a a0:Act} {o:Oper} {l:List Oper} {es:List Ef} {D D':Nat->Bool} {ps:List Ob} {Q:Post} {X:Exit->Act->World->Prop} {k:St->Tr}
theorem passX_ok{ms:List (Nat × Nat)}:∀ {r:List Oper} {es0 es:List Ef} {ps0 ps:List Ob},passX E N l ms s r es0 ps0=some (es,ps)->(∀(i:Nat) e,es0[i]?=some e->es[i]?=some e)/\es.length=es0.length+r.length/\(∀ q∈ps0,q∈ps) /\
  ∀(i:Nat) o,r[i]?=some o->∃ e,es[es0.length+i]?=some e/\PassAt E N l ms s es ps (es0.length+i) o e
 | [],es0,es,ps0,ps,h=>by
  cases h;exact⟨fun _ _ h=>h,rfl,fun _ h=>h,fun i o h=>(by cases h)⟩
 | o::r,es0,es,ps0,ps,h=>by
  unfold passX at h
  split at h
  ·rename_i e p he
   split at h
   ·rename_i hok
    obtain⟨h1,h2,h3,h4⟩:=passX_ok h;have hpre:∀(i:Nat) f,es0[i]?=some f->es[i]?=some f:=fun i f hf=>h1 i f (by rw[List.getElem?_append_left (List.getElem?_eq_some_iff.1 hf).1];exact hf);have htk:es.take es0.length=es0:=by
     apply List.ext_getElem?;intro j;rw[List.getElem?_take]
     split
     ·rename_i hj
      rw[List.getElem?_eq_getElem hj];exact hpre j _ (List.getElem?_eq_getElem hj)
     ·rw[List.getElem?_eq_none (by omega)]
    refine⟨hpre,by rw[h2];simp only[List.length_append,List.length_cons,List.length_nil];omega,fun q hq=>h3 q (List.mem_append_left _ hq),fun i oi hi=>?_⟩;cases i with
    | zero =>
     cases hi;refine⟨e,h1 _ _ (by rw[Nat.add_zero,List.getElem?_append_right (Nat.le_refl _),Nat.sub_self];rfl),?_⟩;rw[Nat.add_zero];exact⟨⟨p,by rw[htk];exact he,fun q hq=>h3 q (List.mem_append_right _ hq)⟩,by rw[htk];exact hok⟩
    | succ i =>
     have:=h4 i oi (by simpa using hi);simp only[List.length_append,List.length_cons,List.length_nil]at this;rw[show es0.length+(i+1)=es0.length+(0+1)+i by omega];exact this
   ·cases h
  ·cases h
theorem pair_all{α:Type}{R:α->α->Prop}(hs:∀ x y,R x y->R y x):∀ {l:List α},l.Pairwise R->∀ x∈l,∀ y∈l,x≠y->R x y
 | [],_,x,hx,_,_,_=>by cases hx
 | z::l,h,x,hx,y,hy,hne=>by
  obtain⟨h1,h2⟩:=List.pairwise_cons.1 h;rcases List.mem_cons.1 hx with ex | hx
  ·rcases List.mem_cons.1 hy with ey | hy
   ·exact absurd (ex.trans ey.symm) hne
   ·rw[ex];exact h1 y hy
  ·rcases List.mem_cons.1 hy with ey | hy
   ·rw[ey];exact hs _ _ (h1 x hx)
   ·exact pair_all hs h2 x hx y hy hne
theorem rows_mem{r:Nat × SV × TypeId}{M:Rows}:r∈rowsD D es M↔∃ c,(r.1,c,r.2.2)∈madeD D 0 es++M/\r.2.1=curD D r.1 0 es c:=by
 unfold rowsD;rw[List.mem_map];refine⟨fun⟨q,hq,e⟩=>?_,fun⟨c,hc,e⟩=>⟨(r.1,c,r.2.2),hc,?_⟩⟩
 ·subst e
  exact⟨q.2.1,hq,rfl⟩
 ·show(r.1,curD D r.1 0 es c,r.2.2)=r
  rw[<- e]
theorem mask_done{ms:List (Nat × Nat)}(hms:ms=masksA l 0 [])(hr:rankB l.toArray (fun i=>i)=true)(hcl:∀(i:Nat) o,l[i]?=some o->D i=true->∀ e∈o.after,Region.binds .any e=true->D e.on=true) :
  ∀(k:Nat) o,l[k]?=some o->(∀ e∈o.after,Region.binds .any e=true->D e.on=true)->∀ j,(lookN ms k).testBit j=true->D j=true/\j<k:=by
 have rank:∀(i:Nat) o,l[i]?=some o->∀ e∈o.after,Region.binds .any e=true->e.on<i:=fun i o ho e he hb=>by
  have hl:=hr;unfold rankB at hl;rw[List.all_eq_true]at hl;have:=hl i (by simpa using(List.getElem?_eq_some_iff.1 ho).1);rw[show l.toArray[i]?=some o by simpa using ho]at this;simp only[Array.all_eq_true_iff_forall_mem]at this;have hlt:=this e he;rw[hb]at hlt;simpa using hlt
 have sp:=masks_spec (l:=l) (i:=0) (acc:=[]) (fun t _=>rfl);intro k
 induction k using Nat.strongRecOn with
 | ind k ih =>
  intro o ho hd j hj;rw[hms,show k=0+k by omega]at hj;obtain⟨e,h1,h2,h3⟩:=sp k o ho j hj;have hon:=rank k o ho e h1 h2;rcases h3 with h3 | h3
  ·rw[h3]
   exact⟨hd e h1 h2,hon⟩
  ·have hlt:e.on<l.length:=Nat.lt_trans hon (List.getElem?_eq_some_iff.1 ho).1
   have:=ih e.on hon l[e.on] (List.getElem?_eq_getElem hlt) (hcl e.on _ (List.getElem?_eq_getElem hlt) (hd e h1 h2)) j (by rw[hms];exact h3);exact⟨this.1,Nat.lt_trans this.2 hon⟩
theorem idOk_out{n0 k i m g:Nat}(h:idOk n0 i m g=true)(hne:i≠k)(hm:m.testBit k=false):¬(n0+8*k<=g/\g<n0+8*(k+1)):=by
 intro hc;have hq:(g - n0) / 8=k:=by omega
 unfold idOk at h;rw[hq,Bool.or_eq_true,Bool.or_eq_true]at h;rcases h with h | h | h
 ·have:=of_decide_eq_true h;omega
 ·exact hne (of_decide_eq_true h).symm
 ·rw[hm]at h;cases h
theorem stepD(G:E.Good γ0 w0){ms:List (Nat × Nat)}(hms:ms=masksA l 0 [])(hdist:distinctB l=true)(hr0:rankB l.toArray (fun i=>i)=true)(hp:All ps)(hlen:es.length=l.length)(hpass:∀(i:Nat) o,l[i]?=some o->∃ e,es[i]?=some e/\PassAt E N l ms s es ps i o e)
  (R0:Rel E γ0 γs N w0 s a0 ws) (hcl:∀(i:Nat) o,l[i]?=some o->D i=true->∀ e∈o.after,Region.binds .any e=true->D e.on=true) {k:Nat} (hk:l[k]?=some o) (hD:D k=false) (hrd:∀ e∈o.after,Region.binds .any e=true->D e.on=true)
  (hD1:D' k=true) (hD2:∀ i,i≠k->D' i=D i) (h:RelD E γ0 γs γ N w0 s l es a0 D a w) {K:Act->World->Prop} (hK:∀ γ' v w',RelD E γ0 γs γ' N w0 s l es a0 D' (a.put o.dst v) w'->K (a.put o.dst v) w') :
  if Region.wanted o (yielded l.toArray a.tmps)=true then o.wp E.P a w K X else K (a.put o.dst undef) w:=by
 obtain⟨e,hek,⟨p,heff,hpp⟩,hok⟩:=hpass k o hk;have hkl:k<es.length:=(List.getElem?_eq_some_iff.1 hek).1;have mk:=mask_done hms hr0 hcl k o hk hrd;have mi:∀(i:Nat) f,es[i]?=some f->D i=true->(lookN ms i).testBit k=false:=fun i f hf hi=>by
  have hil:i<l.length:=hlen ▸ (List.getElem?_eq_some_iff.1 hf).1;cases hb:(lookN ms i).testBit k with
  | false=>rfl
  | true =>
   have:=mask_done hms hr0 hcl i l[i] (List.getElem?_eq_getElem hil) (hcl i _ (List.getElem?_eq_getElem hil) hi) k hb;rw[hD]at this;exact absurd this.1 (by simp)
 have tk:∀(i:Nat),i<k->(es.take k)[i]?=es[i]?:=fun i hi=>List.getElem?_take_of_lt hi;have tkk:∀ {i:Nat} {f:Ef},(es.take k)[i]?=some f->i<k/\es[i]?=some f:=fun {i f} hf=>by
  rw[List.getElem?_take]at hf
  split at hf
  ·rename_i hi;exact⟨hi,hf⟩
  ·cases hf
 have okOf:∀(i:Nat) f,es[i]?=some f->okEf s.n l ms (es.take i) s.S s.M i f=true:=fun i f hf=>by
  have hil:i<l.length:=hlen ▸ (List.getElem?_eq_some_iff.1 hf).1;obtain⟨f',h1,h2⟩:=hpass i l[i] (List.getElem?_eq_getElem hil);rw[hf]at h1;cases h1;exact h2.ok
 -- a later store is not done where one reads
 have later:∀(i:Nat) f g c,k<i->es[i]?=some f->f.st=some (g,c)->(seenM (lookN ms k) o (lkW l (lookN ms k) (es.take k) s.S) (es.take k) s.M).any (fun r=>r.1 == g)=true->D i=false:=fun i f g c hi hf hst hu=>by
  cases hdi:D i with
  | false=>rfl
  | true =>
   have ho:=okOf i f hf;unfold okEf at ho;rw[hst]at ho;simp only[Bool.and_eq_true,List.all_eq_true]at ho;have h1:=ho.2.2.2 k (List.mem_range.2 hi);have hu':usedBy l ms (es.take i) s.S s.M g k=true:=by
    unfold usedBy;rw[hk];dsimp only;rw[List.take_take,Nat.min_eq_left (Nat.le_of_lt hi)];exact hu
   rw[hu',mi i f hf hdi]at h1;cases h1
 have hN0:E.base<=s.n+8*k:=Nat.le_trans R0.base (Nat.le_add_right _ _);have hA:Agree E γ0 γ:=fun g hg=>(h.old g (Nat.lt_of_lt_of_le hg R0.base)).trans (R0.ag g hg);have oldV:∀ {x:SV},x.lt s.n=true->x.val γs=x.val γ/\x.cells γs=x.cells γ:=fun {x} hx=>by
  have:=SV.lt_same (γ:=γs) (δ:=γ) (fun g hg=>(h.old g hg).symm) hx;exact⟨this.2.2,this.2.1⟩
 -- what it reads
 have hH:Holds γ (s.n+8*k) (lkW l (lookN ms k) (es.take k) s.S) a:=fun t x hx=>by
  unfold lkW at hx
  split at hx
  ·rename_i h0
   have:=R0.k t x hx;refine⟨?_,this.2.1,SV.lt_mono (Nat.le_add_right _ _) this.2.2⟩;rw[h.kp t (fun i o' hi _=>dstIx_none h0 i o' hi),this.1,(oldV this.2.2).1]
  ·rename_i j hj
   split at hx
   ·rename_i hb
    obtain⟨f,hf,hfd⟩:=Option.bind_eq_some_iff.1 hx;obtain⟨q,hq,hq2⟩:=Option.bind_eq_some_iff.1 hfd;obtain⟨hjk,hfj⟩:=tkk hf;obtain⟨oj,h1,h2⟩:=dstIx_some hj;obtain⟨f',h3,⟨p',h4,_⟩,_⟩:=hpass j oj h1;rw[hfj]at h3;cases h3;have h5:=(effAt_d h4 q.1 q.2 hq).1;rw[h2]at h5;have h6:q=(t,some x):=by
     cases q;cases h5;cases hq2;rfl
    rw[h6]at hq;have:=h.sl j f t x hfj (mk j hb).1 hq;exact⟨this.1,this.2.1,SV.lt_mono (by omega) this.2.2⟩
   ·cases hx
 have hS:∀ r∈seenM (lookN ms k) o (lkW l (lookN ms k) (es.take k) s.S) (es.take k) s.M,r∈rowsD D es s.M/\r.2.1.ok/\r.2.1.lt (s.n+8*k)=true:=fun r hr=>by
  have hr0:=hr;unfold seenM at hr
  split at hr
  ·rw[List.mem_filter]at hr
   obtain⟨hr1,hst⟩:=hr;obtain⟨c,hc,he⟩:=rows_mem.1 hr1;have hst':=stable_spec ((Bool.and_eq_true _ _).mp hst).1;have hany:(seenM (lookN ms k) o (lkW l (lookN ms k) (es.take k) s.S) (es.take k) s.M).any (fun q=>q.1 == r.1)=true:=List.any_eq_true.2 ⟨r,hr0,by simp⟩;have e1:r.2.1=curD D r.1 0 es c:=by
    rw[he,cur_take];refine cur_ext fun j f q h1 h2 h3=>?_;obtain⟨q1,q2⟩:=q;dsimp only at h3;subst h3;rw[Nat.zero_add];rcases Nat.lt_trichotomy j k with hj | hj | hj
    ·have hb:=hst' j f (r.1,q2) (by rw[tk j hj];exact h1) h2 rfl
     rw[Nat.zero_add]at hb;rw[hb,(mk j hb).1];simp[hj]
    ·subst hj
     rw[hD];simp
    ·rw[later j f r.1 q2 hj h1 h2 hany]
     simp[Nat.not_lt.2 (Nat.le_of_lt hj)]
   have hmem:(r.1,c,r.2.2)∈madeD D 0 es++s.M:=by
    rcases List.mem_append.1 hc with hc | hc
    ·obtain⟨j,f,h1,h2,h3⟩:=made_mem.1 hc
     rw[Nat.zero_add]at h2;exact List.mem_append_left _ (made_mem.2 ⟨j,f,(tkk h1).2,by rw[Nat.zero_add];exact(mk j h2).1,h3⟩)
    ·exact List.mem_append_right _ hc
   have hin:r∈rowsD D es s.M:=rows_mem.2 ⟨c,hmem,e1⟩;refine⟨hin,?_⟩;have hcc:c.ok/\c.lt (s.n+8*k)=true:=by
    rcases List.mem_append.1 hc with hc | hc
    ·obtain⟨j,f,h1,h2,h3⟩:=made_mem.1 hc
     rw[Nat.zero_add]at h2;have:=h.rk j f (tkk h1).2 (mk j h2).1 _ h3;exact⟨this.1,SV.lt_mono (by have:=(tkk h1).1;omega) this.2.1⟩
    ·have:=R0.m _ hc
     exact⟨this.1,SV.lt_mono (Nat.le_add_right _ _) this.2.1⟩
   rcases cur_mem (D:=fun i=>(lookN ms k).testBit i) (g:=r.1) (es:=es.take k) (i:=0) (c:=c)with h1 | ⟨j,f,h1,h2,h3⟩
   ·rw[he,h1]
    exact hcc
   ·rw[<- he]at h3
    rw[Nat.zero_add]at h2;have:=h.sk j f r.1 r.2.1 (tkk h1).2 (mk j h2).1 h3;exact⟨this.1,SV.lt_mono (by have:=(tkk h1).1;omega) this.2⟩
  ·cases hr
 have hL:Lies γ (s.n+8*k) (seenM (lookN ms k) o (lkW l (lookN ms k) (es.take k) s.S) (es.take k) s.M) w:=fun r hr=>⟨(h.rows r (hS r hr).1).2,(hS r hr).2⟩
 have hR8:e.R.length<=8:=by
  have ho:=hok;unfold okEf at ho;simp only[Bool.and_eq_true,decide_eq_true_eq]at ho;exact ho.2.1
 refine effAt_ok (ops:=l.toArray) G hA hN0 hH hL h.b (fun j b x hg hgs=>?_) heff (fun q hq=>hp q (hpp q hq)) hR8 fun δ v w' hδ hO=>?_
 ·unfold gsl at hgs
  rw[hg]at hgs;rw[Option.bind_some]at hgs;obtain⟨d',h1,h2⟩:=Option.bind_eq_some_iff.1 hgs;exact⟨d',by simpa using h1,h2⟩
 -- behind it
 obtain⟨γ',hγ'⟩:∃ γ':Pl,∀ g,γ' g=if s.n+8*k<=g/\g<s.n+8*(k+1)then δ g else γ g:=⟨_,fun _=>rfl⟩
 have same1:∀ g,¬(s.n+8*k<=g/\g<s.n+8*(k+1))->γ g=γ' g:=fun g hg=>by rw[hγ',if_neg hg]
 have same2:∀ g,g<s.n+8*(k+1)->δ g=γ' g:=fun g hg=>by
  rw[hγ']
  split
  ·rfl
  ·exact hδ g (by omega)
 have oldS:∀(i:Nat) f t x,es[i]?=some f->D i=true->f.d=some (t,some x)->x.val γ=x.val γ':=fun i f t x hf hi hd=>by
  have ho:=okOf i f hf;unfold okEf at ho;rw[hd]at ho;simp only[Bool.and_eq_true,List.all_eq_true]at ho;have hne:i≠k:=fun e=>by rw[e,hD]at hi;cases hi
  exact(SV.ids_same fun g hg=>same1 g (idOk_out (ho.1.1 g hg) hne (mi i f hf hi))).2.2
 have oldR:∀ r∈rowsD D es s.M,γ r.1=γ' r.1/\r.2.1.cells γ=r.2.1.cells γ':=fun r hr=>by
  obtain⟨c,hc,he⟩:=rows_mem.1 hr;have hcc:γ r.1=γ' r.1/\∀ g∈c.ids,γ g=γ' g:=by
   rcases List.mem_append.1 hc with hc | hc
   ·obtain⟨j,f,h1,h2,h3⟩:=made_mem.1 hc
    rw[Nat.zero_add]at h2;have hne:j≠k:=fun e=>by rw[e,hD]at h2;cases h2
    have ho:=okOf j f h1;unfold okEf at ho;simp only[Bool.and_eq_true,List.all_eq_true]at ho;have:=h.rk j f h1 h2 _ h3;refine⟨same1 _ (fun hc=>?_),fun g hg=>same1 g (idOk_out (ho.1.2 _ h3 g hg) hne (mi j f h1 h2))⟩;have h5:s.n+8*j<=r.1/\r.1<s.n+8*(j+1):=this.2.2;omega
   ·have:=R0.m _ hc
    have h5:r.1<s.n:=this.2.2;exact⟨same1 _ (by omega),fun g hg=>same1 g (by have:=SV.lt_ids this.2.1 g hg;omega)⟩
  refine⟨hcc.1,(SV.ids_same fun g hg=>?_).2.1⟩;rcases cur_mem (D:=D) (g:=r.1) (es:=es) (i:=0) (c:=c)with h1 | ⟨j,f,h1,h2,h3⟩
  ·rw[he,h1]at hg
   exact hcc.2 g hg
  ·rw[<- he]at h3
   rw[Nat.zero_add]at h2;have ho:=okOf j f h1;unfold okEf at ho;rw[h3]at ho;simp only[Bool.and_eq_true,List.all_eq_true]at ho;have hne:j≠k:=fun e=>by rw[e,hD]at h2;cases h2
   exact same1 g (idOk_out (ho.2.2.1 g hg) hne (mi j f h1 h2))
 have inside:∀ r∈rowsD D es s.M,γ r.1<w.heap.size:=fun r hr=>(Array.getElem?_eq_some_iff.1 (h.rows r hr).2).1;have oneOf:∀ i,D' i=true->i=k\/(i≠k/\D i=true):=fun i hi=>by
  by_cases e:i=k
  ·exact .inl e
  ·exact .inr ⟨e,by rw[<- hD2 i e];exact hi⟩
 -- what the rows are
 have split:∀ r∈rowsD D' es s.M,(r∈e.R/\e.st=none)\/∃ q∈rowsD D es s.M,q.1=r.1/\q.2.2=r.2.2/\((r.2.1=q.2.1/\∀ g c,e.st=some (g,c)->g≠r.1)\/∃ c,e.st=some (r.1,c)/\r.2.1=c):=fun r hr=>by
  obtain⟨c,hc,he⟩:=rows_mem.1 hr;have base:(∃ g c,e.st=some (g,c)/\g=r.1)\/(∀ g c,e.st=some (g,c)->g≠r.1):=by
   cases hs:e.st with
   | none=>exact .inr fun g c h=>(by cases h)
   | some q =>
    by_cases hq:q.1=r.1
    ·exact .inl ⟨q.1,q.2,rfl,hq⟩
    ·exact .inr fun g c h=>(by cases h;exact hq)
  have curS:(∀ g c,e.st=some (g,c)->g≠r.1)->curD D' r.1 0 es c=curD D r.1 0 es c:=fun hn=>cur_ext fun j f q h1 h2 h3=>by
   rw[Nat.zero_add];by_cases ej:j=k
   ·subst ej
    rw[hek]at h1;cases h1;exact absurd h3 (hn q.1 q.2 h2)
   ·exact hD2 j ej
  have curW:∀ c',e.st=some (r.1,c')->curD D' r.1 0 es c=c':=fun c' hs=>cur_last (k:=k) hek hs (by rw[Nat.zero_add];exact hD1) fun j f q hj h1 h2 h3=>by
   rw[Nat.zero_add,hD2 j (by omega)];obtain⟨q1,q2⟩:=q;dsimp only at h3;subst h3;obtain⟨_,_,_,⟨y,T,hm⟩,_⟩:=hO.s _ _ hs;exact later j f r.1 q2 hj h1 h2 (List.any_eq_true.2 ⟨_,hm,by simp⟩)
  have fromD:(r.1,c,r.2.2)∈madeD D 0 es++s.M->∃ q∈rowsD D es s.M,q.1=r.1/\q.2.2=r.2.2/\((r.2.1=q.2.1/\∀ g c,e.st=some (g,c)->g≠r.1)\/∃ c,e.st=some (r.1,c)/\r.2.1=c):=fun hm=>by
   refine⟨(r.1,curD D r.1 0 es c,r.2.2),rows_mem.2 ⟨c,hm,rfl⟩,rfl,rfl,?_⟩;rcases base with⟨g,c',hs,hg⟩ | hn
   ·rw[hg]at hs
    exact .inr ⟨c',hs,by rw[he,curW c' hs]⟩
   ·exact .inl ⟨by rw[he,curS hn],hn⟩
  rcases List.mem_append.1 hc with hc | hc
  ·obtain⟨j,f,h1,h2,h3⟩:=made_mem.1 hc
   rw[Nat.zero_add]at h2;rcases oneOf j h2 with ej | ⟨hj,hDj⟩
   ·rw[ej,hek]at h1
    cases h1;have hs:e.st=none:=by
     cases hs:e.st with
     | none=>rfl
     | some q =>
      have:=(hO.s q.1 q.2 hs).1;rw[this]at h3;cases h3
    -- nobody else lays into it
    have hcur:curD D' r.1 0 es c=c:=by
     rcases cur_mem (D:=D') (g:=r.1) (es:=es) (i:=0) (c:=c)with h4 | ⟨i,f,h4,h5,h6⟩
     ·exact h4
     ·exfalso
      rw[Nat.zero_add]at h5;rcases oneOf i h5 with ei | ⟨hi,hDi⟩
      ·rw[ei,hek]at h4
       cases h4;rw[hs]at h6;cases h6
      ·have hil:i<l.length:=hlen ▸ (List.getElem?_eq_some_iff.1 h4).1
       obtain⟨f',g1,⟨p',g2,_⟩,_⟩:=hpass i l[i] (List.getElem?_eq_getElem hil);rw[h4]at g1;cases g1;obtain⟨y,T,hm⟩:=effAt_st g2 _ _ h6;unfold seenM at hm;have kr:=hO.R _ h3;have k1:s.n+8*k<=r.1:=kr.2.2.1;have k2:r.1<s.n+8*k+8:=kr.2.2.2.1
       split at hm
       ·obtain⟨c2,hc2,_⟩:=rows_mem.1 (List.mem_filter.1 hm).1
        rcases List.mem_append.1 hc2 with hc2 | hc2
        ·obtain⟨j2,f2,u1,u2,u3⟩:=made_mem.1 hc2
         rw[Nat.zero_add]at u2;have u1':es[j2]?=some f2:=by
          rw[List.getElem?_take]at u1
          split at u1
          ·exact u1
          ·cases u1
         have dj:=mask_done hms hr0 hcl i l[i] (List.getElem?_eq_getElem hil) (hcl i _ (List.getElem?_eq_getElem hil) hDi) j2 u2;have rr:=h.rk j2 f2 u1' dj.1 _ u3;have r1:s.n+8*j2<=r.1:=rr.2.2.1;have r2:r.1<s.n+8*(j2+1):=rr.2.2.2;have:j2=k:=by omega
         rw[this,hD]at dj;cases dj.1
        ·have:r.1<s.n:=(R0.m _ hc2).2.2
         omega
       ·cases hm
    exact .inl ⟨by
     have:r=(r.1,c,r.2.2):=by
      rw[hcur]at he;rw[<- he]
     rw[this];exact h3,hs⟩
   ·exact .inr (fromD (List.mem_append_left _ (made_mem.2 ⟨j,f,h1,by rw[Nat.zero_add];exact hDj,h3⟩)))
  ·exact .inr (fromD (List.mem_append_right _ hc))
 have nx8:s.n+8*(k+1)=s.n+8*k+8:=by omega
 have newR:∀ r∈e.R,δ r.1=γ' r.1/\r.2.1.cells δ=r.2.1.cells γ':=fun r hr=>by
  have q:=hO.R r hr;exact⟨same2 _ (by rw[nx8];exact q.2.2.2.1),(SV.lt_same (n:=s.n+8*k+8) (fun g hg=>same2 g (by rw[nx8];exact hg)) q.2.1).2.1⟩
 refine hK γ' v w' ⟨fun g hg=>?_,by rw[put_size];exact h.z,by rw[put_defers];exact h.d,fun t ht=>?_,fun i f t x hf hi hd=>?_,fun i f hf hi q hq=>?_,fun i f g c hf hi hs=>?_,?_,fun r hr=>?_,fun r hr q hq hne=>?_⟩
 ·rw[<- same1 g (by omega)]
  exact h.old g hg
 ·rw[put_other _ _ _ _ (ht k o hk hD1)]
  exact h.kp t fun i o' hi hDi=>ht i o' hi (by
   by_cases e:i=k
   ·rw[e];exact hD1
   ·rw[hD2 i e];exact hDi)
 ·rcases oneOf i hi with rfl | ⟨hne,hDi⟩
  ·rw[hek]at hf
   cases hf;have q:=hO.d t x hd;obtain⟨h1,h2⟩:=effAt_d heff t _ hd;rw[h1];refine⟨?_,q.2.1,by rw[nx8];exact q.2.2⟩;rw[put_same _ _ _ (by rw[h.z];exact h2),q.1];exact(SV.lt_same (n:=s.n+8*i+8) (fun g hg=>same2 g (by rw[nx8];exact hg)) q.2.2).2.2
  ·have q:=h.sl i f t x hf hDi hd
   have hil:i<l.length:=hlen ▸ (List.getElem?_eq_some_iff.1 hf).1;obtain⟨f',g1,⟨p',g2,_⟩,_⟩:=hpass i l[i] (List.getElem?_eq_getElem hil);rw[hf]at g1;cases g1;have hdi:=(effAt_d g2 t _ hd).1;refine⟨?_,q.2⟩;rw[put_other _ _ _ _ (fun c=>distinct_spec hdist k i o l[i] t hk (List.getElem?_eq_getElem hil) (Ne.symm hne) c hdi),q.1];exact oldS i f t x hf hDi hd
 ·rcases oneOf i hi with rfl | ⟨hne,hDi⟩
  ·rw[hek]at hf
   cases hf;have:=hO.R q hq;rw[nx8];exact⟨this.1,this.2.1,this.2.2.1,this.2.2.2.1⟩
  ·exact h.rk i f hf hDi q hq
 ·rcases oneOf i hi with rfl | ⟨hne,hDi⟩
  ·rw[hek]at hf
   cases hf;have:=hO.s g c hs;exact⟨this.2.1,this.2.2.1⟩
  ·exact h.sk i f g c hf hDi hs
 ·cases hs:e.st with
  | none=>exact h.b.trans ((hO.n hs).mono h.b.size)
  | some q =>
   obtain⟨_,_,_,⟨y,T,hm⟩,hw⟩:=hO.s q.1 q.2 hs;rw[hw];exact below_setRow h.b (h.rows _ (hS _ hm).1).1 _
 ·rcases split r hr with⟨hr1,_⟩ | ⟨q,hq,e1,e2,h3⟩
  ·have q:=hO.R r hr1
   have n:=newR r hr1;rw[<- n.1,<- n.2];exact⟨Nat.le_trans h.b.size q.2.2.2.2.1,q.2.2.2.2.2⟩
  ·have hq1:=h.rows q hq
   have ho:=oldR q hq;rw[e1]at hq1 ho;rw[<- ho.1];refine⟨hq1.1,?_⟩;rcases h3 with⟨h4,h5⟩ | ⟨c,h4,h5⟩
   ·rw[h4,<- ho.2,<- e2]
    cases hs:e.st with
    | none=>exact((hO.n hs).block _ (Array.getElem?_eq_some_iff.1 hq1.2).1).trans hq1.2
    | some u =>
     obtain⟨_,_,_,⟨y,T,hm⟩,hw⟩:=hO.s u.1 u.2 hs;rw[hw];have hne:=h5 u.1 u.2 hs;have:=h.nd _ (hS _ hm).1 _ hq (by rw[e1];exact hne);rw[e1]at this;exact(setRow_other _ _ _ _ (Ne.symm this)).trans hq1.2
   ·obtain⟨_,_,hcl',_,hw⟩:=hO.s _ c h4
    rw[hw,h5,<- e2,<- (SV.lt_same (n:=s.n+8*k) (γ:=γ) (δ:=γ') (fun g hg=>same1 g (by omega)) hcl').2.1];exact setRow_heap _ _ _ _ _ _ hq1.2
 ·rcases split r hr with⟨hr1,_⟩ | ⟨r2,hr2,e1,_,_⟩
  ·rcases split q hq with⟨hq1,_⟩ | ⟨q2,hq2,f1,_,_⟩
   ·rw[<- (newR r hr1).1,<- (newR q hq1).1]
    exact pair_all (fun _ _ h=>Ne.symm h) hO.P r hr1 q hq1 fun c=>hne (by rw[c])
   ·have a1:=(hO.R r hr1).2.2.2.2.1
    have a2:=inside q2 hq2;rw[<- (newR r hr1).1,<- f1,<- (oldR q2 hq2).1];omega
  ·rcases split q hq with⟨hq1,_⟩ | ⟨q2,hq2,f1,_,_⟩
   ·have a1:=(hO.R q hq1).2.2.2.2.1
    have a2:=inside r2 hr2;rw[<- (newR q hq1).1,<- e1,<- (oldR r2 hr2).1];omega
   ·rw[<- e1,<- f1,<- (oldR r2 hr2).1,<- (oldR q2 hq2).1]
    exact h.nd r2 hr2 q2 hq2 (by rw[e1,f1];exact hne)
end
end Go.Proofs.YtadfjjfklihaaaaGreat.Sy
namespace Go.Proofs.YtadfjjfklihaaaaGreat.Sy
open Go.RowKit
section
variable {E:Env} {γ0 γ γs δ:Pl} {N nx:Nat} {w0 ws w w' wx:World} {s:St} {a a0:Act} {o:Oper} {l:List Oper} {es:List Ef} {D D':Nat->Bool} {ps:List Ob} {Q:Post} {X:Exit->Act->World->Prop} {k:St->Tr} {lk:Nat->Option SV} {M:Rows} {e:Ef} {p:List Ob}
theorem mkEf_s{d:Nat}{op:Op}(h:mkEf E N nx d lk M op=some (e,p)):∃ y,e.d=some (d,y):=by
 unfold mkEf at h
 split at h
 ·split at h
  ·cases h;exact⟨_,rfl⟩
  ·cases h
 ·cases h
theorem eff_s(h:effGo E N nx lk M o=some (e,p)):∀ t,o.dst=some t->∃ y,e.d=some (t,y):=by
 intro t hd;unfold effGo at h;rw[hd]at h
 split at h
 ·rename_i e1;cases e1
 ·rename_i e1
  cases e1
  split at h
  ·split at h
   ·cases h;exact⟨_,rfl⟩
   ·cases h
  ·cases h
 ·rename_i e1
  cases e1
  split at h
  ·split at h
   ·cases h;exact⟨_,rfl⟩
   ·cases h
  ·cases h
 ·rename_i e1
  cases e1
  split at h
  ·split at h
   ·split at h
    ·cases h;exact⟨_,rfl⟩
    ·cases h
   ·cases h
  ·cases h
 ·rename_i e1
  cases e1
  split at h
  ·split at h
   ·split at h
    ·split at h
     ·cases h;exact⟨_,rfl⟩
     ·cases h
    ·cases h
   ·cases h
  ·split at h
   ·split at h
    ·cases h;exact⟨_,rfl⟩
    ·cases h
   ·exact mkEf_s h
 ·rename_i e1 _ _ _ _
  cases e1
  split at h
  ·split at h
   ·cases h;exact⟨_,rfl⟩
   ·cases h
  ·exact mkEf_s h
 ·cases h
theorem effAt_s{gs:Option SV}(h:effAt E N nx gs lk M o=some (e,p)):∀ t,o.dst=some t->∃ y,e.d=some (t,y):=by
 intro t hd;unfold effAt at h
 split at h
 ·exact eff_s h t hd
 ·split at h
  ·split at h
   ·exact eff_s h t hd
   ·rw[hd]at h
    dsimp only at h
    split at h
    ·cases h;exact⟨_,rfl⟩
    ·cases h
  ·split at h
   ·rename_i _ d x p' _ hx
    split at h
    ·cases h
     have:=(eff_d hx d _ rfl).1;rw[hd]at this;cases this;exact⟨_,rfl⟩
    ·cases h
   ·cases h
  ·cases h
def keyed(A:List (Nat × Option SV))(t:Nat):Bool:=A.any fun p=>p.1 == t
theorem look_append:∀ {A B:List (Nat × Option SV)} {t:Nat},look (A++B) t=if keyed A t=true then look A t else look B t
 | [],_,_=>rfl
 | p::A,B,t=>by
  have ih:=look_append (A:=A) (B:=B) (t:=t);show(if p.1=t then p.2 else look (A++B) t)=_;unfold keyed at ih |-
  rw[List.any_cons];by_cases h:p.1=t
  ·have hb:(p.1 == t)=true:=beq_iff_eq.2 h
   rw[if_pos h,hb,Bool.true_or,if_pos rfl];show _=if p.1=t then p.2 else look A t
   rw[if_pos h]
  ·have hb:(p.1 == t)=false:=beq_eq_false_iff_ne.2 h
   rw[if_neg h,hb,Bool.false_or,ih];show _=if _ then (if p.1=t then p.2 else look A t)else _
   rw[if_neg h]
theorem slots_look:∀ {es:List Ef} {t:Nat} {x:SV},look (slotsE es) t=some x->∃(i:Nat) (e:Ef),es[i]?=some e/\e.d=some (t,some x)
 | [],_,_,h=>by cases h
 | e::es,t,x,h=>by
  unfold slotsE at h;cases hd:e.d with
  | none =>
   rw[hd]at h;obtain⟨i,f,h1,h2⟩:=slots_look h;exact⟨i+1,f,by simpa using h1,h2⟩
  | some q =>
   rw[hd]at h;have h:(if q.1=t then q.2 else look (slotsE es) t)=some x:=h
   split at h
   ·rename_i hq
    exact⟨0,e,rfl,by rw[hd,<- hq,<- h]⟩
   ·obtain⟨i,f,h1,h2⟩:=slots_look h
    exact⟨i+1,f,by simpa using h1,h2⟩
theorem slots_key:∀ {es:List Ef} {t:Nat} {i:Nat} {e:Ef} {y:Option SV},es[i]?=some e->e.d=some (t,y)->keyed (slotsE es) t=true
 | [],_,_,_,_,h,_=>by cases h
 | f::es,t,0,e,y,h,hd=>by
  cases h;unfold slotsE keyed;rw[hd,List.any_cons];simp
 | f::es,t,i+1,e,y,h,hd=>by
  have:=slots_key (es:=es) (i:=i) (by simpa using h) hd;unfold slotsE
  split
  ·unfold keyed at this |-
   rw[List.any_cons,this,Bool.or_true]
  ·exact this
theorem nodup_ids:∀ {R:Rows},nodupB (R.map (·.1))=true->R.Pairwise fun p q=>p.1≠q.1
 | [],_=>.nil
 | r::R,h=>by
  rw[List.map_cons]at h;unfold nodupB at h;rw[Bool.and_eq_true]at h;refine List.pairwise_cons.2 ⟨fun q hq e=>?_,nodup_ids h.2⟩;have h1:=h.1;have:(R.map (·.1)).contains r.1=true:=by
   rw[List.contains_iff_mem,e];exact List.mem_map.2 ⟨_,hq,rfl⟩
  rw[this]at h1;cases h1
theorem RelD.all{ms:List (Nat × Nat)}(hlen:es.length=l.length)(hpass:∀(i:Nat) o,l[i]?=some o->∃ e,es[i]?=some e/\PassAt E N l ms s es ps i o e)(R0:Rel E γ0 γs N w0 s a0 ws)(hn:nodupB ((rowsD (fun _=>true) es s.M).map (·.1))=true)
  (h:RelD E γ0 γs γ N w0 s l es a0 D a w) (hD:∀ i,i<l.length->D i=true):Rel E γ0 γ N w0 (afterD es s) a w:=by
 have lt:∀ {i:Nat} {f:Ef},es[i]?=some f->i<es.length:=fun hf=>(List.getElem?_eq_some_iff.1 hf).1;have dn:∀ {i:Nat} {f:Ef},es[i]?=some f->D i=true:=fun hf=>hD _ (hlen ▸ lt hf);have inD:∀ r∈rowsD (fun _=>true) es s.M,r∈rowsD D es s.M:=fun r hr=>by
  obtain⟨c,hc,he⟩:=rows_mem.1 hr;refine rows_mem.2 ⟨c,?_,?_⟩
  ·rcases List.mem_append.1 hc with hc | hc
   ·obtain⟨j,f,h1,_,h3⟩:=made_mem.1 hc
    exact List.mem_append_left _ (made_mem.2 ⟨j,f,h1,by rw[Nat.zero_add];exact dn h1,h3⟩)
   ·exact List.mem_append_right _ hc
  ·rw[he]
   exact cur_ext fun j f q h1 _ _=>by rw[Nat.zero_add];exact(dn h1).symm
 have oldV:∀ {x:SV},x.lt s.n=true->x.val γs=x.val γ:=fun {x} hx=>(SV.lt_same (γ:=γs) (δ:=γ) (fun g hg=>(h.old g hg).symm) hx).2.2;refine⟨fun g hg=>(h.old g (Nat.lt_of_lt_of_le hg R0.base)).trans (R0.ag g hg),Nat.le_trans R0.base (Nat.le_add_right _ _),h.z,h.d,fun t x hx=>?_,⟨h.b,fun p hp=>?_,?_⟩,fun r hr=>?_⟩
 ·have hx:look (slotsE es++s.S) t=some x:=hx
  rw[look_append]at hx
  split at hx
  ·obtain⟨i,f,h1,h2⟩:=slots_look hx
   have:=h.sl i f t x h1 (dn h1) h2;exact⟨this.1,this.2.1,SV.lt_mono (show s.n+8*(i+1)<=s.n+8*es.length by have:=lt h1;omega) this.2.2⟩
  ·rename_i hk
   have:=R0.k t x hx;refine⟨?_,this.2.1,SV.lt_mono (Nat.le_add_right _ _) this.2.2⟩;rw[h.kp t fun i o hi _ hd=>hk ?_,this.1,oldV this.2.2];obtain⟨f,h1,⟨p',h2,_⟩,_⟩:=hpass i o hi;obtain⟨y,hy⟩:=effAt_s h2 t hd;exact slots_key h1 hy
 ·obtain⟨r,hr,rfl⟩:=List.mem_map.1 hp
  exact h.rows r (inD r hr)
 ·exact List.pairwise_map.2 ((nodup_ids hn).imp_of_mem fun {p q} hp hq hne=>h.nd p (inD p hp) q (inD q hq) hne)
 ·have hr:r∈rowsD (fun _=>true) es s.M:=hr
  show r.2.1.ok/\r.2.1.lt (s.n+8*es.length)=true/\r.1<s.n+8*es.length;obtain⟨c,hc,he⟩:=rows_mem.1 hr;have hcc:c.ok/\c.lt (s.n+8*es.length)=true/\r.1<s.n+8*es.length:=by
   rcases List.mem_append.1 hc with hc | hc
   ·obtain⟨j,f,h1,_,h3⟩:=made_mem.1 hc
    have:=h.rk j f h1 (dn h1) _ h3;have hj:=lt h1;exact⟨this.1,SV.lt_mono (by omega) this.2.1,Nat.lt_of_lt_of_le this.2.2.2 (by omega)⟩
   ·have:=R0.m _ hc
    exact⟨this.1,SV.lt_mono (Nat.le_add_right _ _) this.2.1,Nat.lt_of_lt_of_le this.2.2 (Nat.le_add_right _ _)⟩
  rcases cur_mem (D:=fun _=>true) (g:=r.1) (es:=es) (i:=0) (c:=c)with h1 | ⟨j,f,h1,_,h3⟩
  ·rw[he,h1]
   exact hcc
  ·rw[<- he]at h3
   have:=h.sk j f _ _ h1 (dn h1) h3;have hj:=lt h1;exact⟨this.1,SV.lt_mono (by omega) this.2,hcc.2.2⟩
theorem drawAny{ms:List (Nat × Nat)}(G:E.Good γ0 w0)(hms:ms=masksA l 0 [])(hdist:distinctB l=true)(hr:rankB l.toArray (fun i=>i)=true)(hp:All ps)(hlen:es.length=l.length)(hpass:∀(i:Nat) o,l[i]?=some o->∃ e,es[i]?=some e/\PassAt E N l ms s es ps i o e)
  (R0:Rel E γ0 γs N w0 s a0 ws) (fin:∀ γ D a w,RelD E γ0 γs γ N w0 s l es a0 D a w->(∀ i,i<l.length->D i=true)->X .normal a w) :
  ∀(fuel:Nat) (listed:Array Bool) (γ:Pl) (a:Act) (w:World),listed.size=l.length->listed.toList.count false=fuel->(∀(i:Nat) o,l[i]?=some o->listed.getD i false=true->∀ e∈o.after,Region.binds .any e=true->listed.getD e.on false=true)->RelD E γ0 γs γ N w0 s l es a0 (fun i=>listed.getD i false) a w->wpAny E.P .any l.toArray X fuel listed a w:=by
 intro fuel
 induction fuel with
 | zero =>
  intro listed γ a w hsz hc hcl h;have hno:false ∉ listed.toList:=List.count_eq_zero.1 (by omega);have hall:∀ i,i<l.length->listed.getD i false=true:=fun i hi=>by
   have hlt:i<listed.size:=by omega
   have hm:listed[i]∈listed.toList:=by simp
   simp only[Array.getD_eq_getD_getElem?,hlt,Array.getElem?_eq_getElem,Option.getD_some];cases h:listed[i]with
   | true=>rfl
   | false=>rw[h]at hm;exact absurd hm hno
  refine⟨List.eq_nil_iff_forall_not_mem.2 fun i hi=>?_,fin _ _ a w h hall⟩;obtain⟨h0,o,ho,_⟩:=mem_ready.1 hi;have hil:i<l.length:=by
   have:=(Array.getElem?_eq_some_iff.1 ho).1;simpa using this
  have:=hall i hil;rw[getD_both h0]at this;cases this
 | succ fuel ih =>
  intro listed γ a w hsz hc hcl h;refine⟨fun hrd=>fin _ _ a w h ?_,fun i hi=>?_⟩
  ·have key:∀ r i,i<r->i<l.length->listed.getD i false=true:=by
    intro r
    induction r with
    | zero=>intro i h;omega
    | succ r ihr =>
     intro i hri hi;cases h:listed.getD i false with
     | true=>rfl
     | false =>
      have ho:l.toArray[i]?=some l[i]:=by simp[hi]
      have:i∈Region.ready .any l.toArray listed:=mem_ready.2 ⟨by simpa[show i<listed.size by omega]using h,l[i],ho,fun e he hb=>by
       have hl:=hr;unfold rankB at hl;rw[List.all_eq_true]at hl;have:=hl i (by simpa using hi);rw[ho]at this;simp only[Array.all_eq_true_iff_forall_mem]at this;have hlt:=this e he;rw[hb]at hlt;simp at hlt;exact ihr e.on (by omega) (by omega)⟩
      rw[hrd]at this;cases this
   exact fun i hi=>key (i+1) i (Nat.lt_succ_self _) hi
  ·obtain⟨h0,o,ho,hal⟩:=mem_ready.1 hi
   have hl':l[i]?=some o:=by simpa using ho
   have hil:i<l.length:=(List.getElem?_eq_some_iff.1 hl').1;have hD:listed.getD i false=false:=getD_both h0;unfold wpOp;rw[ho];dsimp only;have st:=stepD (X:=X) (D:=fun i=>listed.getD i false) (D':=fun j=>(listed.setIfInBounds i true).getD j false) (K:=wpAny E.P .any l.toArray X fuel (listed.setIfInBounds i true)) G hms hdist hr hp hlen hpass R0 hcl hl' hD (fun e he hb=>by simpa using hal e he hb)
    (getD_set_same (by omega)) (fun j hj=>getD_set_ne false (Ne.symm hj)) h fun γ' v w' h'=>ih _ γ' _ _ (by simpa using hsz) ?_ ?_ h'
   ·split
    ·rename_i hw
     rw[if_pos hw]at st;exact .inl st
    ·rename_i hw
     rw[if_neg hw]at st;exact st
   ·have hlt:i<listed.size:=by omega
    have e0:listed[i]=false:=by simpa[hlt]using h0
    rw[Array.toList_setIfInBounds,List.count_set (by simpa using hlt)];have:listed.toList[i]'(by simpa using hlt)=false:=by simpa using e0
    simp only[this];simp;have hpos:0<listed.toList.count false:=List.count_pos_iff.2 (by rw[<- e0];simp);simp at hpos;simp at hc;omega
   ·intro j oj hj hd e he hb
    by_cases q:i=e.on
    ·rw[<- q];exact getD_set_same (by omega)
    ·rw[getD_set_ne false q]
     by_cases ej:i=j
     ·subst ej
      rw[hl']at hj;cases hj;exact by simpa using hal e he hb
     ·rw[getD_set_ne false ej]at hd
      exact hcl j oj hj hd e he hb
theorem drawX_ok(G:E.Good γ0 w0)(mx:E.P.follows .mixedOrders=true){id:Nat}(hx:(drawX E N l s k).wp E.base Q)(R:Rel E γ0 γs N w0 s a0 w)
  (cont:∀ γ s' a' w',Rel E γ0 γ N w0 s' a' w'->(k s').wp E.base Q->X .normal a' w'):(Code.region id l.toArray true).wp E.P X a0 w:=by
 unfold drawX at hx;rw[masksK_eq]at hx
 split at hx
 ·rename_i es ps hX
  split at hx
  ·rename_i hc
   obtain⟨c1,c2,c4⟩:=hc;obtain⟨hp,hk⟩:=needs_wp hx;obtain⟨_,hlen,_,hpass⟩:=passX_ok hX;have hlen:es.length=l.length:=by simpa using hlen
   have hpass:∀(i:Nat) o,l[i]?=some o->∃ e,es[i]?=some e/\PassAt E N l (masksA l 0 []) s es ps i o e:=fun i o hi=>by
    have:=hpass i o hi;simpa using this
   refine wp_region_any mx (drawAny G rfl c1 c2 hp hlen hpass R (fun γ D a w h hD=>cont γ _ a w (h.all hlen hpass R c4 hD) hk) _ _ γs a0 _ (by simp) (by simp) ?_ ?_)
   ·intro i o hi hd
    rw[show(Array.replicate l.toArray.size false).getD i false=false from getD_replicate_false _ _]at hd;cases hd
   ·have nD:∀ i,(Array.replicate l.toArray.size false).getD i false=true->False:=fun i h=>by
     rw[getD_replicate_false]at h;cases h
    have R':=R.below (w':=w.drew) (Below.drew (Below.refl _ _));have inM:∀ r∈rowsD (fun i=>(Array.replicate l.toArray.size false).getD i false) es s.M,r∈s.M:=fun r hr=>by
     obtain⟨c,hc,he⟩:=rows_mem.1 hr;have e1:r.2.1=c:=by
      rw[he];rcases cur_mem (D:=fun i=>(Array.replicate l.toArray.size false).getD i false) (g:=r.1) (es:=es) (i:=0) (c:=c)with h1 | ⟨j,f,_,h2,_⟩
      ·exact h1
      ·exact(nD _ h2).elim
     have e2:r=(r.1,c,r.2.2):=by rw[<- e1]
     rw[e2];rcases List.mem_append.1 hc with hc | hc
     ·obtain⟨j,f,_,h2,_⟩:=made_mem.1 hc
      exact(nD _ h2).elim
     ·exact hc
    refine⟨fun _ _=>rfl,R.z,R.d,fun _ _=>rfl,fun i e t x _ hd=>(nD i hd).elim,fun i e _ hd=>(nD i hd).elim,fun i e g c _ hd=>(nD i hd).elim,R'.h.old,fun r hr=>?_,fun r hr q hq hne=>?_⟩
    ·exact R'.h.rows _ (List.mem_map.2 ⟨r,inM r hr,rfl⟩)
    ·have:=R.h.nd
     exact pair_all (R:=fun p q=>γs p.1≠γs q.1) (fun _ _ h=>Ne.symm h) (List.pairwise_map.1 this) r (inM r hr) q (inM q hq) fun e=>hne (by rw[e])
  ·cases hx
 ·cases hx
end
end Go.Proofs.YtadfjjfklihaaaaGreat.Sy
