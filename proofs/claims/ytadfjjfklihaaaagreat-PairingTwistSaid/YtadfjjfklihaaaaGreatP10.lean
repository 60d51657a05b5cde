/- Slices of an array's parts, by bounds that are not known. (Cut to what is reached, written closely: Step · Raise · Widen · Divide · DivNum · DivRows · DivSl.) -/
import Derived.Test.YtadfjjfklihaaaaGreatP9
import Derived.Test.YtadfjjfklihaaaaGreatP3
import Derived.Laws.IdiomCopy
import Derived.Laws.CopyRow
import Derived.Test.YtadfjjfklihaaaaGreatP6
import Derived.Test.YtadfjjfklihaaaaGreatP7
import Derived.Deep.DeepCutAuto
import Derived.Laws.Rows
import Derived.Test.YtadfjjfklihaaaaGreatP2
import Derived.Test.YtadfjjfklihaaaaGreatP5
import Derived.IntWalk
set_option linter.all false
set_option maxRecDepth 100000
set_option maxHeartbeats 8000000
namespace Go.Proofs.YtadfjjfklihaaaaGreat
open Go.RowKit
theorem Holds.then_{S o k:Nat}{n1 n2:Nat->Nat}{w wr w':World}(h:Holds S o k n1 w wr)(h':Holds S o k n2 wr w'):Holds S o k n2 w w':=by
 refine⟨h.1.trans h'.1,fun j=>?_⟩;rw[h'.2 j];by_cases hj:o<=j/\j<o+k
 ·rw[if_pos hj,if_pos hj]
 ·rw[if_neg hj,if_neg hj,h.2 j,if_neg hj]
theorem But.drawn'{S:Nat}{w w':World}(n:Nat)(h:But S (w.drewN n) w'):But S w w':=⟨h.os,h.tape,h.output,h.size,h.block,h.frozen⟩
theorem Holds.drawn'{S o k:Nat}{ns:Nat->Nat}{w w':World}(n:Nat)(h:Holds S o k ns (w.drewN n) w'):Holds S o k ns w w':=⟨h.1.drawn' n,h.2⟩
def StepPost(S o n:Nat)(r d:Nat->Nat)(w:World)(e:Ending)(w':World):Prop :=
 ∃ ns:Nat->Nat,e=.returned (.int .u64 ((val r (n+1) / val d n:Nat):Int))/\(∀ j,j<n+1->ns j<18446744073709551616)/\val ns (n+1)=val r (n+1)%val d n/\Holds S o (n+1) ns w w'
theorem exit_is{R D N P part debt:Nat}(hD:0<D)(h:N+part*D=R+P*debt)(hz:debt=0)(hl:R / D<=part):part=R / D/\N=R%D:=by
 subst hz;exact part_is hD (by rw[Nat.mul_zero,Nat.add_zero]at h;exact h) hl
theorem owed_is{R D N P part debt:Nat}(hD:0<D)(h:N+part*D=R+P*debt)(hz:debt=1)(hN:N<P):R / D<part:=by
 subst hz;exact part_over hD (by rw[Nat.mul_one]at h;exact h) hN
theorem steppost_mk{S o k q:Nat}{r d cur:Nat->Nat}{w w':World}(hq:q=val r (k+2) / val d (k+1))(h1:∀ j,j<k+2->cur j<18446744073709551616)(h2:val cur (k+2)=val r (k+2)%val d (k+1))(h3:Holds S o (k+2) cur w w') :
  StepPost S o (k+1) r d w (.returned (.int .u64 (q:Int))) w':=⟨cur,by rw[hq],h1,h2,h3⟩
theorem step_any(S o capS D capD k:Nat)(r d:Nat->Nat)(hn:(k:Int)<=100)(hr:∀ j,j<k+2->r j<18446744073709551616)(hd:∀ j,j<k+1->d j<18446744073709551616)
  (hdk:9223372036854775808<=d k) (hlt:val r (k+2)<18446744073709551616*val d (k+1)) (hSD:D≠S) (w:World)
  (hs:∀ j,j<k+2->w.cell? ⟨S,o+j,none⟩=some (.int .u64 (r j))) (hf:∀ j,j<k+2->w.frozen? ⟨S,o+j,none⟩=false)
  (hc:∀ j,j<k+1->w.cell? ⟨D,j,none⟩=some (.int .u64 (d j))) :
  Calls Tryz.prog 149 #[.slice (some ⟨S,o,none⟩) ((k+1+1:Nat)) capS,.slice (some ⟨D,0,none⟩) ((k+1:Nat)) capD] w (StepPost S o (k+1) r d w):=by
 have c1:w.cell? ⟨S,o+(k+1),none⟩=some (.int .u64 (r (k+1))):=hs (k+1) (by omega);have c2:w.cell? ⟨S,o+k,none⟩=some (.int .u64 (r k)):=hs k (by omega);have c3:w.cell? ⟨D,k,none⟩=some (.int .u64 (d k)):=hc k (by omega);have b0:(0:Int)<=k:=by omega
 have hg:=fun w=>guess_any (r (k+1)) (r k) (d k) (hr _ (by omega)) (hr _ (by omega)) (hd _ (by omega)) hdk w;obtain⟨g,eg⟩:∃ g,g=guessN (r (k+1)) (r k) (d k):=⟨_,rfl⟩
 rw[<- eg]at hg;have hgl:g<18446744073709551616:=by
  rw[eg];unfold guessN
  split
  ·omega
  ·rename_i hh
   rw[Nat.div_lt_iff_lt_mul (by omega)];have:=hr k (by omega);generalize d k=y at *;generalize r (k+1)=h at *;have h2:(h+1)*18446744073709551616<=y*18446744073709551616:=Nat.mul_le_mul_right _ (by omega);omega
 have hge:=guess_least (k:=k) hr (by omega) hlt g (by rw[eg];rfl);have hD0:0<val d (k+1):=by
  have:=Nat.mul_pos (Nat.pow_pos (n:=k) (show 0<18446744073709551616 by omega)) (show 0<d k by omega);have:=val_ge d k;omega
 have HG:=Lib.hid hg;clear hg;have HR:=Lib.hid hr;clear hr;have HD:=Lib.hid hd;clear hd;have HS:=Lib.hid hs;clear hs;have HF:=Lib.hid hf;clear hf;have HC:=Lib.hid hc;clear hc;have HN:=Lib.hid hSD;clear hSD;have HGL:=Lib.hid hgl;clear hgl;have HGE:=Lib.hid hge;clear hge;have HD0:=Lib.hid hD0;clear hD0;have HLT:=Lib.hid hlt;clear hlt;clear eg hdk;go_enter Tryz.func149,Tryz.ntmps149
 go_wp2_with fail
 go_quiet ((go_at_call 156;exact Calls.quiet_of (HG.out _)))
 go_wp2_with fail
 refine(take_any S o capS D capD (k+1) g r d (by omega) HR.out HD.out HGL.out HN.out (w.drewN nq) (fun j hj=>HS.out j hj) (fun j hj=>HF.out j hj) (fun j hj=>HC.out j hj)).mono ?_;rintro e w1 ⟨n1,debt,rfl,hd1,hb1,he1,ho1⟩;have H1:=Lib.hid hb1;clear hb1;have E1:=Lib.hid he1;clear he1;have O1:=Lib.hid (ho1.drawn' _);clear ho1
 go_wp2_with fail
 go_loopw [6,7] (fun p q wr=>∃(part debt:Nat) (cur:Nat->Nat),p=.int .u64 part/\q=.int .u64 debt/\Hid (debt<=1/\part<18446744073709551616/\val r (k+2) / val d (k+1)<=part/\(∀ j,j<k+2->cur j<18446744073709551616)/\val cur (k+2)+part*val d (k+1)=val r (k+2)+18446744073709551616^(k+2)*debt/\Holds S o (k+2) cur w wr)) (fun p _ _=>(intOf p).toNat)
 case atStart=>exact⟨g,debt,n1,rfl,rfl,Lib.hid ⟨hd1,HGL.out,HGE.out,H1.out,E1.out,O1.out⟩⟩
 case round =>
  obtain⟨part,debt,cur,rfl,rfl,H⟩:=hrel;have d0:(0:Int)<=debt:=by omega
  have d1:(debt:Int)<=1:=by have:=H.out.1;omega
  have p0:(0:Int)<=part:=by omega
  have p1:(part:Int)<=18446744073709551615:=by have:=H.out.2.1;omega
  by_cases hz:debt=0
  ·as_aux_lemma =>
   have t0:((debt:Int) != 0)=false:=by simp[hz]
   have hE:=exit_is HD0.out H.out.2.2.2.2.1 hz H.out.2.2.1;have HE:=Lib.hid hE;clear hE hz;go_wp2;go_ret;exact steppost_mk HE.out.1 H.out.2.2.2.1 HE.out.2 H.out.2.2.2.2.2
  ·as_aux_lemma =>
   have t0:((debt:Int) != 0)=true:=by simp[hz]
   have d2:(1:Int)<=debt:=by omega
   have ho:=owed_is HD0.out H.out.2.2.2.2.1 (show debt=1 by omega) (val_lt H.out.2.2.2.1);have p3:0<part:=Nat.lt_of_le_of_lt (Nat.zero_le _) ho;have p2:(1:Int)<=part:=by omega
   clear p3;have HO:=Lib.hid ho;clear ho hz
   go_wp2_with fail
   refine(give_any S o capS D capD (k+1) cur d (by omega) H.out.2.2.2.1 HD.out HN.out _ ?_ ?_ ?_).mono ?_
   ·intro j hj
    rw[H.out.2.2.2.2.2.2 (o+j),if_pos (by omega),show o+j - o=j by omega]
   ·intro j hj
    rw[H.out.2.2.2.2.2.1.frozen];exact HF.out j hj
   ·intro j hj
    rw[H.out.2.2.2.2.2.1.cell (p:=⟨D,j,none⟩) HN.out];exact HC.out j hj
   ·rintro e w2 ⟨n2,over,rfl,hd2,hb2,he2,ho2⟩
    have o0:(0:Int)<=over:=by omega
    have o1:(over:Int)<=1:=by omega
    have o2:(over:Int)<=debt:=by omega
    have H2:=Lib.hid hb2;clear hb2;have E2:=Lib.hid he2;clear he2;have O2:=Lib.hid ho2;clear ho2;go_wp2
    go_roundw
    case rel =>
     refine⟨part - 1,debt - over,n2,congrArg (Value.int .u64) (by omega),congrArg (Value.int .u64) (by omega),Lib.hid ⟨by omega,by omega,by have:=HO.out;omega,H2.out,?_,H.out.2.2.2.2.2.then_ O2.out⟩⟩;exact give_part H.out.2.2.2.2.1 E2.out (by omega) (by omega)
    case measure=>simp[intOf];omega
open Go.RowKit
theorem index8(v0 v1 v2 v3 v4 v5 v6 v7:Value)(w:World) :
  (Instr.index 168 (.agg #[v0,v1,v2,v3,v4,v5,v6,v7]) (.int .i64 0)).run Tryz.prog w=.ok v0 w /\
  (Instr.index 168 (.agg #[v0,v1,v2,v3,v4,v5,v6,v7]) (.int .i64 1)).run Tryz.prog w=.ok v1 w /\
  (Instr.index 168 (.agg #[v0,v1,v2,v3,v4,v5,v6,v7]) (.int .i64 2)).run Tryz.prog w=.ok v2 w /\
  (Instr.index 168 (.agg #[v0,v1,v2,v3,v4,v5,v6,v7]) (.int .i64 3)).run Tryz.prog w=.ok v3 w /\
  (Instr.index 168 (.agg #[v0,v1,v2,v3,v4,v5,v6,v7]) (.int .i64 4)).run Tryz.prog w=.ok v4 w /\
  (Instr.index 168 (.agg #[v0,v1,v2,v3,v4,v5,v6,v7]) (.int .i64 5)).run Tryz.prog w=.ok v5 w /\
  (Instr.index 168 (.agg #[v0,v1,v2,v3,v4,v5,v6,v7]) (.int .i64 6)).run Tryz.prog w=.ok v6 w /\
  (Instr.index 168 (.agg #[v0,v1,v2,v3,v4,v5,v6,v7]) (.int .i64 7)).run Tryz.prog w=.ok v7 w :=
 ⟨by kernel_rfl,by kernel_rfl,by kernel_rfl,by kernel_rfl,by kernel_rfl,by kernel_rfl,by kernel_rfl,by kernel_rfl⟩
theorem raise_walk(x0 x1 x2 x3 x4 x5 x6 x7 s t:Nat)(h0:(0:Int)<=s)(h64:(s:Int)<64)(ht:64 - (s:Int)=(t:Int))(w:World) :
  Calls Tryz.prog 148 #[.agg #[.int .u64 x0,.int .u64 x1,.int .u64 x2,.int .u64 x3,.int .u64 x4,.int .u64 x5,.int .u64 x6,.int .u64 x7],.int .i64 s] w fun e w' =>
   e=.returned (.agg #[.int .u64 (bits .or .u64 (0) (IntKind.u64.wrap ((x0:Int)*2^s))),.int .u64 (bits .or .u64 ((x0:Int) / 2^t) (IntKind.u64.wrap ((x1:Int)*2^s))),.int .u64 (bits .or .u64 ((x1:Int) / 2^t) (IntKind.u64.wrap ((x2:Int)*2^s))),.int .u64 (bits .or .u64 ((x2:Int) / 2^t) (IntKind.u64.wrap ((x3:Int)*2^s))),.int .u64 (bits .or .u64 ((x3:Int) / 2^t) (IntKind.u64.wrap ((x4:Int)*2^s))),.int .u64 (bits .or .u64 ((x4:Int) / 2^t) (IntKind.u64.wrap ((x5:Int)*2^s))),.int .u64 (bits .or .u64 ((x5:Int) / 2^t) (IntKind.u64.wrap ((x6:Int)*2^s))),.int .u64 (bits .or .u64 ((x6:Int) / 2^t) (IntKind.u64.wrap ((x7:Int)*2^s))),.int .u64 ((x7:Int) / 2^t)])/\Below w.heap.size w w':=by
 have i0:∀ v0 v1 v2 v3 v4 v5 v6 v7 w,_:=fun v0 v1 v2 v3 v4 v5 v6 v7 w=>(index8 v0 v1 v2 v3 v4 v5 v6 v7 w).1;have i1:∀ v0 v1 v2 v3 v4 v5 v6 v7 w,_:=fun v0 v1 v2 v3 v4 v5 v6 v7 w=>(index8 v0 v1 v2 v3 v4 v5 v6 v7 w).2.1;have i2:∀ v0 v1 v2 v3 v4 v5 v6 v7 w,_:=fun v0 v1 v2 v3 v4 v5 v6 v7 w=>(index8 v0 v1 v2 v3 v4 v5 v6 v7 w).2.2.1;have i3:∀ v0 v1 v2 v3 v4 v5 v6 v7 w,_:=fun v0 v1 v2 v3 v4 v5 v6 v7 w=>(index8 v0 v1 v2 v3 v4 v5 v6 v7 w).2.2.2.1;have i4:∀ v0 v1 v2 v3 v4 v5 v6 v7 w,_:=fun v0 v1 v2 v3 v4 v5 v6 v7 w=>(index8 v0 v1 v2 v3 v4 v5 v6 v7 w).2.2.2.2.1;have i5:∀ v0 v1 v2 v3 v4 v5 v6 v7 w,_:=fun v0 v1 v2 v3 v4 v5 v6 v7 w=>(index8 v0 v1 v2 v3 v4 v5 v6 v7 w).2.2.2.2.2.1;have i6:∀ v0 v1 v2 v3 v4 v5 v6 v7 w,_:=fun v0 v1 v2 v3 v4 v5 v6 v7 w=>(index8 v0 v1 v2 v3 v4 v5 v6 v7 w).2.2.2.2.2.2.1;have i7:∀ v0 v1 v2 v3 v4 v5 v6 v7 w,_:=fun v0 v1 v2 v3 v4 v5 v6 v7 w=>(index8 v0 v1 v2 v3 v4 v5 v6 v7 w).2.2.2.2.2.2.2;go_enter Tryz.func148,Tryz.ntmps148;go_wp2;refine wp_loop_rounds 9 ?_
 iterate 8 (rw[rounds_succ];go_wp2;go_region;go_wp2)
 rw[rounds_succ];go_wp2
 go_returns
 refine⟨?_,by go_grown⟩;rfl
open Go.RowKit
theorem copy4(W:World)(b c:Nat)(a0 a1 a2 a3:Nat)
  (s0:W.cell? ⟨c,0,none⟩=some (.int .u64 a0)) (s1:W.cell? ⟨c,1,none⟩=some (.int .u64 a1)) (s2:W.cell? ⟨c,2,none⟩=some (.int .u64 a2)) (s3:W.cell? ⟨c,3,none⟩=some (.int .u64 a3))
  (d0:(W.cell? ⟨b,0,none⟩).isSome=true) (d1:(W.cell? ⟨b,1,none⟩).isSome=true) (d2:(W.cell? ⟨b,2,none⟩).isSome=true) (d3:(W.cell? ⟨b,3,none⟩).isSome=true)
  (f0:W.frozen? ⟨b,0,none⟩=false) (f1:W.frozen? ⟨b,1,none⟩=false) (f2:W.frozen? ⟨b,2,none⟩=false) (f3:W.frozen? ⟨b,3,none⟩=false) :
  (Builtin.copy_ #[126,126] 3 #[.slice (some ⟨b,0,none⟩) 8 8,.slice (some ⟨c,0,none⟩) 4 4]).run Tryz.prog W =
   .ok (.int .i64 4) ((((W.setCell ⟨b,0,none⟩ (.int .u64 a0)).setCell ⟨b,1,none⟩ (.int .u64 a1)).setCell ⟨b,2,none⟩ (.int .u64 a2)).setCell ⟨b,3,none⟩ (.int .u64 a3)):=by
 have h:=run_copy_cells (P:=Tryz.prog) W 126 126 3 22 b 0 8 8 ⟨c,0,none⟩ 4 4 [.int .u64 a0,.int .u64 a1,.int .u64 a2,.int .u64 a3] Tryz.underlying126 (by kernel_rfl) rfl
  (fun j v hj=>by
   rcases j with _ | _ | _ | _ | j
   ·cases hj;exact s0
   ·cases hj;exact s1
   ·cases hj;exact s2
   ·cases hj;exact s3
   ·simp at hj)
  (fun j hj=>by
   rcases j with _ | _ | _ | _ | j
   ·exact d0
   ·exact d1
   ·exact d2
   ·exact d3
   ·simp at hj;omega)
  (fun j hj=>by
   rcases j with _ | _ | _ | _ | j
   ·exact f0
   ·exact f1
   ·exact f2
   ·exact f3
   ·simp at hj;omega)
  (fun v hv=>by simp at hv;rcases hv with rfl | rfl | rfl | rfl <;> rfl)
 exact h
theorem widen_nil(a0 a1 a2 a3:Nat)(w:World) :
  Calls Tryz.prog 140 #[.agg #[.int .u64 a0,.int .u64 a1,.int .u64 a2,.int .u64 a3],.slice none 0 0] w fun e w' =>
   e=.returned (.agg #[.int .u64 a0,.int .u64 a1,.int .u64 a2,.int .u64 a3,.int .u64 0,.int .u64 0,.int .u64 0,.int .u64 0])/\Below w.heap.size w w':=by
 have hcp:=copy4 ((((w.alloc (.cells #[.int .u64 a0,.int .u64 a1,.int .u64 a2,.int .u64 a3] 24)).alloc (.cells #[.int .u64 0,.int .u64 0,.int .u64 0,.int .u64 0,.int .u64 0,.int .u64 0,.int .u64 0,.int .u64 0] 168)).alloc (.cells #[.int .u64 0,.int .u64 0,.int .u64 0,.int .u64 0,.int .u64 0,.int .u64 0,.int .u64 0,.int .u64 0] 168)).drew) (w.heap.size+1+1) w.heap.size a0 a1 a2 a3
  (by go_cell) (by go_cell) (by go_cell) (by go_cell) (by go_simp) (by go_simp) (by go_simp) (by go_simp) (by go_cell) (by go_cell) (by go_cell) (by go_cell)
 have hcn:=fun W:World=>run_copy_nil (P:=Tryz.prog) W 126 126 3 22 ⟨w.heap.size+1+1,4,none⟩ 4 4 Tryz.underlying126 (by kernel_rfl);go_enter Tryz.func140,Tryz.ntmps140;go_wp2
 go_region
 go_wp2
 go_returns
 refine⟨?_,by go_grown⟩;rfl
open Go.RowKit
theorem after4k{W w1:World}{P:Prop}(b:Nat)(hb:Below W.heap.size W w1)(hB:b<W.heap.size)
  (c0:W.cell? ⟨b,0,none⟩=some (.int .u64 0)) (c1:W.cell? ⟨b,1,none⟩=some (.int .u64 0)) (c2:W.cell? ⟨b,2,none⟩=some (.int .u64 0)) (c3:W.cell? ⟨b,3,none⟩=some (.int .u64 0))
  (f0:W.frozen? ⟨b,0,none⟩=false) (f1:W.frozen? ⟨b,1,none⟩=false) (f2:W.frozen? ⟨b,2,none⟩=false) (f3:W.frozen? ⟨b,3,none⟩=false)
  (k:(w1.cell? ⟨b,0,none⟩=some (.int .u64 0)/\w1.cell? ⟨b,1,none⟩=some (.int .u64 0)/\w1.cell? ⟨b,2,none⟩=some (.int .u64 0)/\w1.cell? ⟨b,3,none⟩=some (.int .u64 0)) ->
   (w1.frozen? ⟨b,0,none⟩=false/\w1.frozen? ⟨b,1,none⟩=false/\w1.frozen? ⟨b,2,none⟩=false/\w1.frozen? ⟨b,3,none⟩=false)->b<w1.heap.size->P):P:=by
 obtain⟨q,f,z,-⟩:=after4 (B:=0) b hb (Below.refl _ _) (Nat.zero_le _) hB c0 c1 c2 c3 f0 f1 f2 f3;exact k q f z
def Is(w:World)(b:Nat)(o:Obj):Prop:=w.heap[b]?=some o
theorem Is.new{w:World}{b:Nat}(o:Obj)(h:b=w.heap.size):Is (w.alloc o) b o:=by subst h;exact heap_alloc_new w o
theorem Is.lt{w:World}{b:Nat}{o:Obj}(h:Is w b o):b<w.heap.size:=by
 rcases Nat.lt_or_ge b w.heap.size with h' | h'
 ·exact h'
 ·unfold Is at h;simp[Array.getElem?_eq_none h']at h
theorem Is.alloc{w:World}{b:Nat}{o:Obj}(h:Is w b o)(o':Obj):Is (w.alloc o') b o:=(Below.heap_alloc w o' b h.lt).trans h
theorem Is.below{w w':World}{b B:Nat}{o:Obj}(h:Is w b o)(hb:Below B w w')(hB:b<B):Is w' b o:=(hb.block b hB).trans h
theorem Is.but{w w':World}{b S:Nat}{o:Obj}(h:Is w b o)(hb:But S w w')(hS:b≠S):Is w' b o:=(hb.block b hS).trans h
theorem Is.set{w:World}{b:Nat}{o:Obj}(h:Is w b o){p:Addr}(hp:b≠p.block)(u:Value):Is (w.setCell p u) b o:=(Below.heap_setCell w p u b hp).trans h
theorem Is.z8{w:World}{b:Nat}{t:TypeId}(h:Is w b (.cells #[.int .u64 0,.int .u64 0,.int .u64 0,.int .u64 0,.int .u64 0,.int .u64 0,.int .u64 0,.int .u64 0] t)):(w.cell? ⟨b,0,none⟩=some (.int .u64 0)/\w.cell? ⟨b,1,none⟩=some (.int .u64 0)/\w.cell? ⟨b,2,none⟩=some (.int .u64 0)/\w.cell? ⟨b,3,none⟩=some (.int .u64 0)/\w.cell? ⟨b,4,none⟩=some (.int .u64 0)/\w.cell? ⟨b,5,none⟩=some (.int .u64 0)/\w.cell? ⟨b,6,none⟩=some (.int .u64 0)/\w.cell? ⟨b,7,none⟩=some (.int .u64 0))/\(w.frozen? ⟨b,0,none⟩=false/\w.frozen? ⟨b,1,none⟩=false/\w.frozen? ⟨b,2,none⟩=false/\w.frozen? ⟨b,3,none⟩=false/\w.frozen? ⟨b,4,none⟩=false/\w.frozen? ⟨b,5,none⟩=false/\w.frozen? ⟨b,6,none⟩=false/\w.frozen? ⟨b,7,none⟩=false):=by
 unfold Is at h;simp[World.cell?,World.frozen?,h]
theorem Is.z4{w:World}{b:Nat}{t:TypeId}(h:Is w b (.cells #[.int .u64 0,.int .u64 0,.int .u64 0,.int .u64 0] t)):(w.cell? ⟨b,0,none⟩=some (.int .u64 0)/\w.cell? ⟨b,1,none⟩=some (.int .u64 0)/\w.cell? ⟨b,2,none⟩=some (.int .u64 0)/\w.cell? ⟨b,3,none⟩=some (.int .u64 0))/\(w.frozen? ⟨b,0,none⟩=false/\w.frozen? ⟨b,1,none⟩=false/\w.frozen? ⟨b,2,none⟩=false/\w.frozen? ⟨b,3,none⟩=false):=by
 unfold Is at h;simp[World.cell?,World.frozen?,h]
open Go.RowKit
theorem val_split(f:Nat->Nat)(i:Nat):∀ k,val f (i+k)=val f i+18446744073709551616^i*val (fun j=>f (i+j)) k
 | 0=>by simp[val]
 | k+1=>by
  show val f (i+k)+18446744073709551616^(i+k)*f (i+k)=val f i+18446744073709551616^i*(val (fun j=>f (i+j)) k+18446744073709551616^k*f (i+k));rw[val_split f i k,Nat.mul_add,<- Nat.mul_assoc,<- Nat.pow_add,Nat.add_assoc]
theorem val_mono(f:Nat->Nat)(i k:Nat):val f i<=val f (i+k):=by rw[val_split];omega
theorem val_zero{f:Nat->Nat}:∀ k,(∀ j,j<k->f j=0)->val f k=0
 | 0,_=>rfl
 | k+1,h=>by rw[val,val_zero k (fun j hj=>h j (by omega)),h k (by omega)];rfl
theorem val_top{f:Nat->Nat}{k N:Nat}(hk:k<=N)(h:∀ j,k<=j->j<N->f j=0):val f N=val f k:=by
 obtain⟨e,rfl⟩:∃ e,N=k+e:=⟨N - k,by omega⟩
 rw[val_split,val_zero e (fun j hj=>h (k+j) (by omega) (by omega))];rfl
theorem val_ztop{f:Nat->Nat}{k N:Nat}(h:val f N<18446744073709551616^k)(j:Nat)(hk:k<=j)(hj:j<N):f j=0:=by
 obtain⟨e,rfl⟩:∃ e,N=j+1+e:=⟨N - (j+1),by omega⟩
 have h1:=val_mono f (j+1) e;have h2:18446744073709551616^j*f j<=val f (j+1):=by rw[val];omega
 have h3:18446744073709551616^k<=18446744073709551616^j:=Nat.pow_le_pow_right (by omega) hk;rcases Nat.eq_zero_or_pos (f j)with h4 | h4
 ·exact h4
 ·have h5:18446744073709551616^j*1<=18446744073709551616^j*f j:=Nat.mul_le_mul_left _ h4
  generalize 18446744073709551616^j*f j=y at *;generalize 18446744073709551616^j=z at *;generalize 18446744073709551616^k=u at *;omega
theorem val_set(f:Nat->Nat)(i x:Nat):∀ N,i<N->val (fun j=>if j=i then x else f j) N+18446744073709551616^i*f i=val f N+18446744073709551616^i*x:=by
 intro N hN;obtain⟨e,rfl⟩:∃ e,N=i+1+e:=⟨N - (i+1),by omega⟩
 rw[val_split,val_split f,val,val,if_pos rfl,val_congr (f:=fun j=>if j=i then x else f j) (g:=f) (n:=i) (fun j hj=>if_neg (by omega)),
  val_congr (f:=fun j=>if i+1+j=i then x else f (i+1+j)) (g:=fun j=>f (i+1+j)) (n:=e) (fun j hj=>if_neg (by omega))]
 omega
theorem np_spec(f:Nat->Nat):∀ n,np f n<=n/\(∀ j,np f n<=j->j<n->f j=0)/\(0<np f n->f (np f n - 1)≠0)
 | 0=>⟨Nat.le_refl _,fun j _ h=>by omega,fun h=>by simp[np]at h⟩
 | n+1=>by
  obtain⟨h1,h2,h3⟩:=np_spec f n;unfold np;by_cases e:f n=0
  ·rw[if_pos e]
   refine⟨by omega,fun j hj hn=>?_,h3⟩;by_cases q:j=n
   ·rw[q];exact e
   ·exact h2 j hj (by omega)
  ·rw[if_neg e]
   exact⟨Nat.le_refl _,fun j hj hn=>by omega,fun _=>e⟩
theorem div_take{cur:Nat->Nat}{D i n:Nat}(hD:D<=18446744073709551616^n)(hin:i+n+1<=9)(hlt:val cur 9<D*18446744073709551616^(i+1)) :
  (∀ j,i+(n+1)<=j->j<9->cur j=0)/\val cur 9=val cur i+18446744073709551616^i*val (fun j=>cur (i+j)) (n+1)/\val (fun j=>cur (i+j)) (n+1)<18446744073709551616*D:=by
 have h1:val cur 9<18446744073709551616^(i+(n+1)):=by
  refine Nat.lt_of_lt_of_le hlt ?_;have:=Nat.mul_le_mul_right (18446744073709551616^(i+1)) hD;rwa [<- Nat.pow_add,show n+(i+1)=i+(n+1) by omega]at this
 have h2:∀ j,i+(n+1)<=j->j<9->cur j=0:=fun j=>val_ztop h1 j;have h3:val cur 9=val cur i+18446744073709551616^i*val (fun j=>cur (i+j)) (n+1):=by
  rw[val_top (k:=i+(n+1)) (by omega) h2,val_split]
 refine⟨h2,h3,?_⟩;rw[h3,Nat.pow_succ]at hlt;have hp:0<18446744073709551616^i:=Nat.pow_pos (by omega);generalize val (fun j=>cur (i+j)) (n+1)=r at *;generalize 18446744073709551616^i=p at *;generalize 18446744073709551616=P at *;refine Nat.lt_of_mul_lt_mul_left (a:=p) (Nat.lt_of_le_of_lt ?_ (Nat.lt_of_lt_of_eq hlt (by rw[Nat.mul_comm p P,<- Nat.mul_assoc,Nat.mul_comm D P,Nat.mul_comm])));omega
def curN(cur ns:Nat->Nat)(i n:Nat):Nat->Nat:=fun j=>if i<=j/\j<i+(n+1)then ns (j - i)else cur j
def quoN(q:Nat->Nat)(i part:Nat):Nat->Nat:=fun j=>if j=i then part else q j
theorem curN_val{cur ns:Nat->Nat}{i n:Nat}(hin:i+n+1<=9)(h0:∀ j,i+(n+1)<=j->j<9->cur j=0):val (curN cur ns i n) 9=val cur i+18446744073709551616^i*val ns (n+1):=by
 rw[val_top (f:=curN cur ns i n) (k:=i+(n+1)) (by omega) (fun j h1 h2=>by unfold curN;rw[if_neg (by omega)];exact h0 j h1 h2),val_split,
  val_congr (f:=curN cur ns i n) (g:=cur) (n:=i) (fun j hj=>by unfold curN;rw[if_neg (by omega)]),
  val_congr (f:=fun j=>curN cur ns i n (i+j)) (g:=ns) (n:=n+1) (fun j hj=>by unfold curN;rw[if_pos (by omega),show i+j - i=j by omega])]
theorem div_arith{X q8 q8' p part r m D c R0:Nat}(h:q8*D+(c+p*r)=R0)(hr:r=D*part+m)(hq:q8'=q8+p*part)(hX:X=c+p*m):q8'*D+X=R0:=by
 subst hq hX hr;rw[<- h];grind
theorem div_round{cur q ns:Nat->Nat}{D R0 i n part:Nat}(hc:∀ j,j<9->cur j<18446744073709551616)(hD0:0<D)(hD:D<=18446744073709551616^n)(hin:i+n+1<=9)(hi:i<8)(hlt:val cur 9<D*18446744073709551616^(i+1))
  (inv:val q 8*D+val cur 9=R0) (hq:q i=0) (hp:part=val (fun j=>cur (i+j)) (n+1) / D) (hns:val ns (n+1)=val (fun j=>cur (i+j)) (n+1)%D) :
  val (quoN q i part) 8*D+val (curN cur ns i n) 9=R0/\val (curN cur ns i n) 9<D*18446744073709551616^i/\part<18446744073709551616:=by
 obtain⟨h0,h1,h2⟩:=div_take hD hin hlt;have h3:=curN_val (ns:=ns) hin h0;have h4:=val_set q i part 8 hi;rw[hq,Nat.mul_zero,Nat.add_zero]at h4;have h5:=val_lt (f:=cur) (n:=i) (fun j hj=>hc j (by omega));rw[h1]at inv;refine⟨div_arith inv (r:=val (fun j=>cur (i+j)) (n+1)) (by rw[hp];exact(Nat.div_add_mod _ _).symm) h4 (by rw[h3,hns]),?_,?_⟩
 ·rw[h3,hns]
  have h6:=Nat.mod_lt (val (fun j=>cur (i+j)) (n+1)) hD0;generalize val (fun j=>cur (i+j)) (n+1)%D=r at *;have h7:18446744073709551616^i*(r+1)<=18446744073709551616^i*D:=Nat.mul_le_mul_left _ h6;rw[Nat.mul_add,Nat.mul_one]at h7;rw[Nat.mul_comm D];generalize 18446744073709551616^i=p at *;generalize p*D=y at *;generalize p*r=z at *;omega
 ·rw[hp,Nat.div_lt_iff_lt_mul hD0];exact h2
theorem div_end{A B D q V s:Nat}(hD:D=B*2^s)(inv:q*D+V=A*2^s)(h:V<D):q=A / B/\V / 2^s=A%B:=by
 have hp:=Nat.two_pow_pos s;have e1:q=A*2^s / D:=by
  rw[<- inv,Nat.add_comm,Nat.mul_comm,Nat.add_mul_div_left _ _ (by omega),Nat.div_eq_of_lt h,Nat.zero_add]
 have e2:V=A*2^s%D:=by
  rw[<- inv,Nat.add_comm,Nat.mul_comm,Nat.add_mul_mod_self_left,Nat.mod_eq_of_lt h]
 rw[hD,Nat.mul_div_mul_right _ _ hp]at e1;rw[hD,Nat.mul_mod_mul_right]at e2;exact⟨e1,by rw[e2,Nat.mul_div_cancel _ hp]⟩
theorem div_start{a b:Nat->Nat}{m n s c:Nat}(ha:∀ j,j<m->a j<18446744073709551616)(hb:b (n - 1)≠0)(hn:0<n)(hc:m+1<=c+n):val a m*2^s<val b n*2^s*18446744073709551616^c:=by
 have h1:=val_lt ha;have h2:18446744073709551616^(n - 1)*b (n - 1)<=val b n:=by
  have:=val_mono b (n - 1+1) 0;rw[show n=n - 1+1 by omega,val,Nat.add_sub_cancel];omega
 have h3:18446744073709551616^(n - 1)*1<=18446744073709551616^(n - 1)*b (n - 1):=Nat.mul_le_mul_left _ (Nat.pos_of_ne_zero hb);have h4:18446744073709551616^m<=18446744073709551616^(n - 1)*18446744073709551616^c:=by
  rw[<- Nat.pow_add];exact Nat.pow_le_pow_right (by omega) (by omega)
 have h5:18446744073709551616^(n - 1)*18446744073709551616^c<=val b n*18446744073709551616^c:=Nat.mul_le_mul_right _ (by omega);have h6:val a m<val b n*18446744073709551616^c:=Nat.lt_of_lt_of_le h1 (Nat.le_trans h4 h5);have hp:=Nat.two_pow_pos s;rw[Nat.mul_right_comm];exact Nat.mul_lt_mul_of_lt_of_le h6 (Nat.le_refl _) hp
open Go.RowKit
def CutE(w W:World)(h:Nat)(ds:Nat->Nat)(v:Value)(wx:World):Prop :=
 ∃ D:Nat,v=.pointer (some ⟨D,0,none⟩)/\h<=D/\D<wx.heap.size/\Below h W wx/\Below w.heap.size w wx/\Holds4 D (.int .u64 (ds 0:Nat)) (.int .u64 (ds 1:Nat)) (.int .u64 (ds 2:Nat)) (.int .u64 (ds 3:Nat)) wx
theorem cutE_mk{w W wx:World}{h D:Nat}{ds:Nat->Nat}(h1:h<=D)(h2:D<wx.heap.size)(h3:Below h W wx)(h4:Below w.heap.size w W)(h6:w.heap.size<=h)(c0:wx.cell? ⟨D,0,none⟩=some (.int .u64 (ds 0:Nat)))(c1:wx.cell? ⟨D,1,none⟩=some (.int .u64 (ds 1:Nat)))(c2:wx.cell? ⟨D,2,none⟩=some (.int .u64 (ds 2:Nat)))(c3:wx.cell? ⟨D,3,none⟩=some (.int .u64 (ds 3:Nat))):CutE w W h ds (.pointer (some ⟨D,0,none⟩)) wx :=
 ⟨D,rfl,h1,h2,h3,h4.trans (h3.mono h6),c0,c1,c2,c3⟩
theorem upto4{P:Nat->Prop}(h0:P 0)(h1:P 1)(h2:P 2)(h3:P 3):∀ j,j<4->P j:=fun j hj=>by
 rcases j with _ | _ | _ | _ | j
 ·exact h0
 ·exact h1
 ·exact h2
 ·exact h3
 ·omega
theorem upto9{P:Nat->Prop}(h0:P 0)(h1:P 1)(h2:P 2)(h3:P 3)(h4:P 4)(h5:P 5)(h6:P 6)(h7:P 7)(h8:P 8):∀ j,j<9->P j:=fun j hj=>by
 rcases j with _ | _ | _ | _ | _ | _ | _ | _ | _ | j
 ·exact h0
 ·exact h1
 ·exact h2
 ·exact h3
 ·exact h4
 ·exact h5
 ·exact h6
 ·exact h7
 ·exact h8
 ·omega
theorem upto8{P:Nat->Prop}(h0:P 0)(h1:P 1)(h2:P 2)(h3:P 3)(h4:P 4)(h5:P 5)(h6:P 6)(h7:P 7):∀ j,j<8->P j:=fun j hj=>by
 rcases j with _ | _ | _ | _ | _ | _ | _ | _ | j
 ·exact h0
 ·exact h1
 ·exact h2
 ·exact h3
 ·exact h4
 ·exact h5
 ·exact h6
 ·exact h7
 ·omega
structure DivW (w:World) (S Q D z:Nat) (ds cur q:Nat->Nat) (wr:World):Prop where
 below:Below w.heap.size w wr
 size:wr.heap.size=z
 r4:Is wr (w.heap.size+1+1) (.cells #[.int .u64 0,.int .u64 0,.int .u64 0,.int .u64 0,.int .u64 0,.int .u64 0,.int .u64 0,.int .u64 0] 168)
 r5:Is wr (w.heap.size+1+1+1) (.cells #[.int .u64 0,.int .u64 0,.int .u64 0,.int .u64 0] 24)
 rest:∀ j,j<9->wr.cell? ⟨S,j,none⟩=some (.int .u64 (cur j:Nat))
 restf:∀ j,j<9->wr.frozen? ⟨S,j,none⟩=false
 quo:∀ j,j<8->wr.cell? ⟨Q,j,none⟩=some (.int .u64 (q j:Nat))
 quof:∀ j,j<8->wr.frozen? ⟨Q,j,none⟩=false
 by_:∀ j,j<4->wr.cell? ⟨D,j,none⟩=some (.int .u64 (ds j:Nat))
theorem DivW.drew{w wr:World}{S Q D z:Nat}{ds cur q:Nat->Nat}(h:DivW w S Q D z ds cur q wr):DivW w S Q D z ds cur q wr.drew :=
 ⟨h.below.drew,h.size,h.r4,h.r5,h.rest,h.restf,h.quo,h.quof,h.by_⟩
theorem DivW.step{w wr w3:World}{S Q D z i n:Nat}{ds cur q ns:Nat->Nat}{part:Nat}(h:DivW w S Q D z ds cur q wr)(hH:Holds S i (n+1) ns wr w3)(hin:i+n+1<=9)(hi:i<8)
  (hSQ:S≠Q) (hSD:D≠S) (hQD:D≠Q) (hS:w.heap.size+1+1+1<S) (hQ:w.heap.size+1+1+1<Q) :
  DivW w S Q D z ds (curN cur ns i n) (quoN q i part) (w3.setCell ⟨Q,i,none⟩ (.int .u64 (part:Nat))):=by
 obtain⟨hb,hc⟩:=hH;have hQc:w3.cell? ⟨Q,i,none⟩=some (.int .u64 (q i:Nat)):=(hb.cell (p:=⟨Q,i,none⟩) (Ne.symm hSQ)).trans (h.quo i hi);refine⟨(But.below h.below hb (by omega)).setCell (by show w.heap.size<=Q;omega) _,?_,(h.r4.but hb (by omega)).set (p:=⟨Q,i,none⟩) (by show _≠Q;omega) _,(h.r5.but hb (by omega)).set (p:=⟨Q,i,none⟩) (by show _≠Q;omega) _,?_,?_,?_,?_,?_⟩
 ·rw[<- h.size,<- hb.size];simp
 ·intro j hj
  rw[World.cell?_setCell_other _ _ _ _ (fun e=>hSQ (congrArg Addr.block e).symm),hc j];unfold curN;by_cases e:i<=j/\j<i+(n+1)
  ·rw[if_pos e,if_pos e]
  ·rw[if_neg e,if_neg e];exact h.rest j hj
 ·intro j hj
  rw[World.frozen?_setCell,hb.frozen];exact h.restf j hj
 ·intro j hj
  unfold quoN;by_cases e:j=i
  ·subst e;rw[if_pos rfl,World.cell?_setCell_same _ _ _ hQc]
  ·rw[if_neg e,World.cell?_setCell_other _ _ _ _ (fun h=>e (congrArg Addr.off h).symm),hb.cell (p:=⟨Q,j,none⟩) (Ne.symm hSQ)];exact h.quo j hj
 ·intro j hj
  rw[World.frozen?_setCell,World.frozen?_of_block (w:=wr) (a:=⟨Q,j,none⟩) (hb.block Q (Ne.symm hSQ))];exact h.quof j hj
 ·intro j hj
  rw[World.cell?_setCell_other _ _ _ _ (fun e=>hQD (congrArg Addr.block e).symm),hb.cell (p:=⟨D,j,none⟩) hSD];exact h.by_ j hj
structure ClQ (w:World) (S Q:Nat) (cur q:Nat->Nat) (wx:World):Prop where
 below:Below w.heap.size w wx
 r4:Is wx (w.heap.size+1+1) (.cells #[.int .u64 0,.int .u64 0,.int .u64 0,.int .u64 0,.int .u64 0,.int .u64 0,.int .u64 0,.int .u64 0] 168)
 r5:Is wx (w.heap.size+1+1+1) (.cells #[.int .u64 0,.int .u64 0,.int .u64 0,.int .u64 0] 24)
 quo:∀ j,j<8->wx.cell? ⟨Q,j,none⟩=some (.int .u64 (q j:Nat))
 rest:∀ j,j<9->wx.cell? ⟨S,j,none⟩=some (.int .u64 (cur j:Nat))
 hQ:Q<wx.heap.size
 hS:S<wx.heap.size
theorem ClQ.grown{w wx w':World}{S Q:Nat}{cur q:Nat->Nat}(h:ClQ w S Q cur q wx)(hb:Below wx.heap.size wx w'):ClQ w S Q cur q w' :=
 ⟨h.below.trans (hb.mono h.below.size),h.r4.below hb h.r4.lt,h.r5.below hb h.r5.lt,fun j hj=>(hb.cell (p:=⟨Q,j,none⟩) h.hQ).trans (h.quo j hj),fun j hj=>(hb.cell (p:=⟨S,j,none⟩) h.hS).trans (h.rest j hj),Nat.lt_of_lt_of_le h.hQ hb.size,Nat.lt_of_lt_of_le h.hS hb.size⟩
theorem ClQ.quos{w wx:World}{S Q:Nat}{cur q:Nat->Nat}(h:ClQ w S Q cur q wx):wx.cell? ⟨Q,0,none⟩=some (.int .u64 (q 0:Nat))/\wx.cell? ⟨Q,1,none⟩=some (.int .u64 (q 1:Nat))/\wx.cell? ⟨Q,2,none⟩=some (.int .u64 (q 2:Nat))/\wx.cell? ⟨Q,3,none⟩=some (.int .u64 (q 3:Nat))/\wx.cell? ⟨Q,4,none⟩=some (.int .u64 (q 4:Nat))/\wx.cell? ⟨Q,5,none⟩=some (.int .u64 (q 5:Nat))/\wx.cell? ⟨Q,6,none⟩=some (.int .u64 (q 6:Nat))/\wx.cell? ⟨Q,7,none⟩=some (.int .u64 (q 7:Nat)) :=
 ⟨h.quo 0 (by omega),h.quo 1 (by omega),h.quo 2 (by omega),h.quo 3 (by omega),h.quo 4 (by omega),h.quo 5 (by omega),h.quo 6 (by omega),h.quo 7 (by omega)⟩
theorem ClQ.rests{w wx:World}{S Q:Nat}{cur q:Nat->Nat}(h:ClQ w S Q cur q wx):wx.cell? ⟨S,0,none⟩=some (.int .u64 (cur 0:Nat))/\wx.cell? ⟨S,1,none⟩=some (.int .u64 (cur 1:Nat))/\wx.cell? ⟨S,2,none⟩=some (.int .u64 (cur 2:Nat))/\wx.cell? ⟨S,3,none⟩=some (.int .u64 (cur 3:Nat)) :=
 ⟨h.rest 0 (by omega),h.rest 1 (by omega),h.rest 2 (by omega),h.rest 3 (by omega)⟩
open Go.RowKit
theorem slice9(S i n:Nat)(h:i+n+1<=9)(w:World):(Instr.sliceAt 178 (.pointer (some ⟨S,0,none⟩)) (some (.int .i64 (i:Nat))) (some (.int .i64 ((i:Int)+(n:Int)+1))) none).run Tryz.prog w=.ok (.slice (some ⟨S,i,none⟩) (n+1) (9 - i)) w:=by
 have hlen:Tryz.prog.arrayLen 178=9:=by kernel_rfl
 have hsz:(sizeOf (Tryz.prog.elem 178)).run Tryz.prog w=.ok 1 w:=by kernel_rfl
 rw[run_sliceAt_array_lh w 178 ⟨S,0,none⟩ (by kernel_rfl) .i64 .i64 _ _ (by omega) (by omega) (by rw[hlen];omega),hsz,hlen];simp only[Result.andThen,slicedAt,Addr.add];rw[if_neg (by omega),show((i:Int)+(n:Int)+1).toNat=i+n+1 by omega,Int.toNat_natCast,show i+n+1 - i=n+1 by omega];simp;omega
theorem slice4(D n:Nat)(h:n<=4)(w:World):(Instr.sliceAt 24 (.pointer (some ⟨D,0,none⟩)) none (some (.int .i64 (n:Nat))) none).run Tryz.prog w=.ok (.slice (some ⟨D,0,none⟩) n 4) w:=by
 have hlen:Tryz.prog.arrayLen 24=4:=by kernel_rfl
 have hsz:(sizeOf (Tryz.prog.elem 24)).run Tryz.prog w=.ok 1 w:=by kernel_rfl
 rw[run_sliceAt_array_h w 24 ⟨D,0,none⟩ (by kernel_rfl) .i64 _ (by omega) (by rw[hlen];omega),hsz,hlen];simp only[Result.andThen,slicedAt,Addr.add];rw[if_neg (by omega),Int.toNat_natCast];simp
end Go.Proofs.YtadfjjfklihaaaaGreat
