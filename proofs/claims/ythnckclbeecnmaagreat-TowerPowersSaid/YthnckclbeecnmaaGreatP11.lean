/- What word.divide comes to for one part by a greater one that has its highest bit: nought, and that part. (Cut to what is reached, written closely: DivRows · DivSl · DivAll · DivSmall.) -/
import Derived.Test.YthnckclbeecnmaaGreatP10
import Derived.Test.YthnckclbeecnmaaGreatP5
import Derived.IntWalk
set_option linter.all false
set_option maxRecDepth 100000
set_option maxHeartbeats 8000000
namespace Go.Proofs.YthnckclbeecnmaaGreat
open Go.RowKit
def CutE(w W:World)(h:Nat)(ds:Nat->Nat)(v:Value)(wx:World):Prop :=
 ∃ D:Nat,v=.pointer (some ⟨D,0,none⟩)/\h<=D/\D<wx.heap.size/\Below h W wx/\Below w.heap.size w wx/\Holds4 D (.int .u64 (ds 0:Nat)) (.int .u64 (ds 1:Nat)) (.int .u64 (ds 2:Nat)) (.int .u64 (ds 3:Nat)) wx
theorem cutE_mk{w W wx:World}{h D:Nat}{ds:Nat->Nat}(h1:h<=D)(h2:D<wx.heap.size)(h3:Below h W wx)(h4:Below w.heap.size w W)(h6:w.heap.size<=h)(c0:wx.cell? ⟨D,0,none⟩=some (.int .u64 (ds 0:Nat)))(c1:wx.cell? ⟨D,1,none⟩=some (.int .u64 (ds 1:Nat)))(c2:wx.cell? ⟨D,2,none⟩=some (.int .u64 (ds 2:Nat)))(c3:wx.cell? ⟨D,3,none⟩=some (.int .u64 (ds 3:Nat))):CutE w W h ds (.pointer (some ⟨D,0,none⟩)) wx :=
 ⟨D,rfl,h1,h2,h3,h4.trans (h3.mono h6),c0,c1,c2,c3⟩
theorem upto4{P:Nat->Prop}(h0:P 0)(h1:P 1)(h2:P 2)(h3:P 3):∀ j,j<4->P j:=fun j hj=>by
 rcases j with _ | _ | _ | _ | j
 ·exact h0
 ·exact h1
 ·exact h2
 ·exact h3
 ·omega
theorem upto9{P:Nat->Prop}(h0:P 0)(h1:P 1)(h2:P 2)(h3:P 3)(h4:P 4)(h5:P 5)(h6:P 6)(h7:P 7)(h8:P 8):∀ j,j<9->P j:=fun j hj=>by
 rcases j with _ | _ | _ | _ | _ | _ | _ | _ | _ | j
 ·exact h0
 ·exact h1
 ·exact h2
 ·exact h3
 ·exact h4
 ·exact h5
 ·exact h6
 ·exact h7
 ·exact h8
 ·omega
theorem upto8{P:Nat->Prop}(h0:P 0)(h1:P 1)(h2:P 2)(h3:P 3)(h4:P 4)(h5:P 5)(h6:P 6)(h7:P 7):∀ j,j<8->P j:=fun j hj=>by
 rcases j with _ | _ | _ | _ | _ | _ | _ | _ | j
 ·exact h0
 ·exact h1
 ·exact h2
 ·exact h3
 ·exact h4
 ·exact h5
 ·exact h6
 ·exact h7
 ·omega
structure DivW (w:World) (S Q D z:Nat) (ds cur q:Nat->Nat) (wr:World):Prop where
 below:Below w.heap.size w wr
 size:wr.heap.size=z
 r4:Is wr (w.heap.size+1+1) (.cells #[.int .u64 0,.int .u64 0,.int .u64 0,.int .u64 0,.int .u64 0,.int .u64 0,.int .u64 0,.int .u64 0] 123)
 r5:Is wr (w.heap.size+1+1+1) (.cells #[.int .u64 0,.int .u64 0,.int .u64 0,.int .u64 0] 24)
 rest:∀ j,j<9->wr.cell? ⟨S,j,none⟩=some (.int .u64 (cur j:Nat))
 restf:∀ j,j<9->wr.frozen? ⟨S,j,none⟩=false
 quo:∀ j,j<8->wr.cell? ⟨Q,j,none⟩=some (.int .u64 (q j:Nat))
 quof:∀ j,j<8->wr.frozen? ⟨Q,j,none⟩=false
 by_:∀ j,j<4->wr.cell? ⟨D,j,none⟩=some (.int .u64 (ds j:Nat))
theorem DivW.drew{w wr:World}{S Q D z:Nat}{ds cur q:Nat->Nat}(h:DivW w S Q D z ds cur q wr):DivW w S Q D z ds cur q wr.drew :=
 ⟨h.below.drew,h.size,h.r4,h.r5,h.rest,h.restf,h.quo,h.quof,h.by_⟩
theorem DivW.step{w wr w3:World}{S Q D z i n:Nat}{ds cur q ns:Nat->Nat}{part:Nat}(h:DivW w S Q D z ds cur q wr)(hH:Holds S i (n+1) ns wr w3)(hin:i+n+1<=9)(hi:i<8)
  (hSQ:S≠Q) (hSD:D≠S) (hQD:D≠Q) (hS:w.heap.size+1+1+1<S) (hQ:w.heap.size+1+1+1<Q) :
  DivW w S Q D z ds (curN cur ns i n) (quoN q i part) (w3.setCell ⟨Q,i,none⟩ (.int .u64 (part:Nat))):=by
 obtain⟨hb,hc⟩:=hH;have hQc:w3.cell? ⟨Q,i,none⟩=some (.int .u64 (q i:Nat)):=(hb.cell (p:=⟨Q,i,none⟩) (Ne.symm hSQ)).trans (h.quo i hi);refine⟨(But.below h.below hb (by omega)).setCell (by show w.heap.size<=Q;omega) _,?_,(h.r4.but hb (by omega)).set (p:=⟨Q,i,none⟩) (by show _≠Q;omega) _,(h.r5.but hb (by omega)).set (p:=⟨Q,i,none⟩) (by show _≠Q;omega) _,?_,?_,?_,?_,?_⟩
 ·rw[<- h.size,<- hb.size];simp
 ·intro j hj
  rw[World.cell?_setCell_other _ _ _ _ (fun e=>hSQ (congrArg Addr.block e).symm),hc j];unfold curN;by_cases e:i<=j/\j<i+(n+1)
  ·rw[if_pos e,if_pos e]
  ·rw[if_neg e,if_neg e];exact h.rest j hj
 ·intro j hj
  rw[World.frozen?_setCell,hb.frozen];exact h.restf j hj
 ·intro j hj
  unfold quoN;by_cases e:j=i
  ·subst e;rw[if_pos rfl,World.cell?_setCell_same _ _ _ hQc]
  ·rw[if_neg e,World.cell?_setCell_other _ _ _ _ (fun h=>e (congrArg Addr.off h).symm),hb.cell (p:=⟨Q,j,none⟩) (Ne.symm hSQ)];exact h.quo j hj
 ·intro j hj
  rw[World.frozen?_setCell,World.frozen?_of_block (w:=wr) (a:=⟨Q,j,none⟩) (hb.block Q (Ne.symm hSQ))];exact h.quof j hj
 ·intro j hj
  rw[World.cell?_setCell_other _ _ _ _ (fun e=>hQD (congrArg Addr.block e).symm),hb.cell (p:=⟨D,j,none⟩) hSD];exact h.by_ j hj
structure ClQ (w:World) (S Q:Nat) (cur q:Nat->Nat) (wx:World):Prop where
 below:Below w.heap.size w wx
 r4:Is wx (w.heap.size+1+1) (.cells #[.int .u64 0,.int .u64 0,.int .u64 0,.int .u64 0,.int .u64 0,.int .u64 0,.int .u64 0,.int .u64 0] 123)
 r5:Is wx (w.heap.size+1+1+1) (.cells #[.int .u64 0,.int .u64 0,.int .u64 0,.int .u64 0] 24)
 quo:∀ j,j<8->wx.cell? ⟨Q,j,none⟩=some (.int .u64 (q j:Nat))
 rest:∀ j,j<9->wx.cell? ⟨S,j,none⟩=some (.int .u64 (cur j:Nat))
 hQ:Q<wx.heap.size
 hS:S<wx.heap.size
theorem ClQ.grown{w wx w':World}{S Q:Nat}{cur q:Nat->Nat}(h:ClQ w S Q cur q wx)(hb:Below wx.heap.size wx w'):ClQ w S Q cur q w' :=
 ⟨h.below.trans (hb.mono h.below.size),h.r4.below hb h.r4.lt,h.r5.below hb h.r5.lt,fun j hj=>(hb.cell (p:=⟨Q,j,none⟩) h.hQ).trans (h.quo j hj),fun j hj=>(hb.cell (p:=⟨S,j,none⟩) h.hS).trans (h.rest j hj),Nat.lt_of_lt_of_le h.hQ hb.size,Nat.lt_of_lt_of_le h.hS hb.size⟩
theorem ClQ.quos{w wx:World}{S Q:Nat}{cur q:Nat->Nat}(h:ClQ w S Q cur q wx):wx.cell? ⟨Q,0,none⟩=some (.int .u64 (q 0:Nat))/\wx.cell? ⟨Q,1,none⟩=some (.int .u64 (q 1:Nat))/\wx.cell? ⟨Q,2,none⟩=some (.int .u64 (q 2:Nat))/\wx.cell? ⟨Q,3,none⟩=some (.int .u64 (q 3:Nat))/\wx.cell? ⟨Q,4,none⟩=some (.int .u64 (q 4:Nat))/\wx.cell? ⟨Q,5,none⟩=some (.int .u64 (q 5:Nat))/\wx.cell? ⟨Q,6,none⟩=some (.int .u64 (q 6:Nat))/\wx.cell? ⟨Q,7,none⟩=some (.int .u64 (q 7:Nat)) :=
 ⟨h.quo 0 (by omega),h.quo 1 (by omega),h.quo 2 (by omega),h.quo 3 (by omega),h.quo 4 (by omega),h.quo 5 (by omega),h.quo 6 (by omega),h.quo 7 (by omega)⟩
theorem ClQ.rests{w wx:World}{S Q:Nat}{cur q:Nat->Nat}(h:ClQ w S Q cur q wx):wx.cell? ⟨S,0,none⟩=some (.int .u64 (cur 0:Nat))/\wx.cell? ⟨S,1,none⟩=some (.int .u64 (cur 1:Nat))/\wx.cell? ⟨S,2,none⟩=some (.int .u64 (cur 2:Nat))/\wx.cell? ⟨S,3,none⟩=some (.int .u64 (cur 3:Nat)) :=
 ⟨h.rest 0 (by omega),h.rest 1 (by omega),h.rest 2 (by omega),h.rest 3 (by omega)⟩
open Go.RowKit
theorem slice9(S i n:Nat)(h:i+n+1<=9)(w:World):(Instr.sliceAt 133 (.pointer (some ⟨S,0,none⟩)) (some (.int .i64 (i:Nat))) (some (.int .i64 ((i:Int)+(n:Int)+1))) none).run Tryz.prog w=.ok (.slice (some ⟨S,i,none⟩) (n+1) (9 - i)) w:=by
 have hlen:Tryz.prog.arrayLen 133=9:=by kernel_rfl
 have hsz:(sizeOf (Tryz.prog.elem 133)).run Tryz.prog w=.ok 1 w:=by kernel_rfl
 rw[run_sliceAt_array_lh w 133 ⟨S,0,none⟩ (by kernel_rfl) .i64 .i64 _ _ (by omega) (by omega) (by rw[hlen];omega),hsz,hlen];simp only[Result.andThen,slicedAt,Addr.add];rw[if_neg (by omega),show((i:Int)+(n:Int)+1).toNat=i+n+1 by omega,Int.toNat_natCast,show i+n+1 - i=n+1 by omega];simp;omega
theorem slice4(D n:Nat)(h:n<=4)(w:World):(Instr.sliceAt 24 (.pointer (some ⟨D,0,none⟩)) none (some (.int .i64 (n:Nat))) none).run Tryz.prog w=.ok (.slice (some ⟨D,0,none⟩) n 4) w:=by
 have hlen:Tryz.prog.arrayLen 24=4:=by kernel_rfl
 have hsz:(sizeOf (Tryz.prog.elem 24)).run Tryz.prog w=.ok 1 w:=by kernel_rfl
 rw[run_sliceAt_array_h w 24 ⟨D,0,none⟩ (by kernel_rfl) .i64 _ (by omega) (by rw[hlen];omega),hsz,hlen];simp only[Result.andThen,slicedAt,Addr.add];rw[if_neg (by omega),Int.toNat_natCast];simp
open Go.RowKit
def DivPostA(ds rs:Nat->Nat)(sr:(Nat->Nat)->Nat->Nat)(n:Nat)(w:World)(e:Ending)(w':World):Prop :=
 ∃ cur q:Nat->Nat,e=.returned (.tuple #[.agg #[.int .u64 (q 0:Nat),.int .u64 (q 1:Nat),.int .u64 (q 2:Nat),.int .u64 (q 3:Nat),.int .u64 (q 4:Nat),.int .u64 (q 5:Nat),.int .u64 (q 6:Nat),.int .u64 (q 7:Nat)],.agg #[.int .u64 (sr cur 0:Nat),.int .u64 (sr cur 1:Nat),.int .u64 (sr cur 2:Nat),.int .u64 (sr cur 3:Nat)]])/\(∀ j,j<9->cur j<18446744073709551616)/\(∀ j,j<8->q j<18446744073709551616)/\val q 8*val ds n+val cur 9=val rs 9/\val cur 9<val ds n/\Below w.heap.size w w'
theorem divide_walk(xs bs ds rs:Nat->Nat)(sr:(Nat->Nat)->Nat->Nat)(n k m s:Nat)(hk:k<=3)(hn:n=k+1)(hm:m<=8)(hs:s<64)(w:World)
  (hP:∀(B:Nat) (w:World),w.cell? ⟨B,0,none⟩=some (.int .u64 (bs 0:Nat))->w.cell? ⟨B,1,none⟩=some (.int .u64 (bs 1:Nat))->w.cell? ⟨B,2,none⟩=some (.int .u64 (bs 2:Nat))->w.cell? ⟨B,3,none⟩=some (.int .u64 (bs 3:Nat)) ->
   Calls Tryz.prog 121 #[.slice (some ⟨B,0,none⟩) 4 4] w fun e w'=>e=.returned (.int .i64 (n:Nat))/\w=w')
  (hL:∀ w,Calls Tryz.prog 122 #[.int .u64 (bs k:Nat)] w fun e w'=>e=.returned (.int .i64 (s:Nat))/\w=w')
  (hShl:∀ w,Calls Tryz.prog 123 #[.agg #[.int .u64 (s:Nat),.int .u64 0,.int .u64 0,.int .u64 0],.agg #[.int .u64 (bs 0:Nat),.int .u64 (bs 1:Nat),.int .u64 (bs 2:Nat),.int .u64 (bs 3:Nat)]] w fun e w'=>e=.returned (.agg #[.int .u64 (ds 0:Nat),.int .u64 (ds 1:Nat),.int .u64 (ds 2:Nat),.int .u64 (ds 3:Nat)])/\Below w.heap.size w w')
  (hR:∀ w,Calls Tryz.prog 124 #[.agg #[.int .u64 (xs 0:Nat),.int .u64 (xs 1:Nat),.int .u64 (xs 2:Nat),.int .u64 (xs 3:Nat),.int .u64 (xs 4:Nat),.int .u64 (xs 5:Nat),.int .u64 (xs 6:Nat),.int .u64 (xs 7:Nat)],.int .i64 (s:Nat)] w fun e w'=>e=.returned (.agg #[.int .u64 (rs 0:Nat),.int .u64 (rs 1:Nat),.int .u64 (rs 2:Nat),.int .u64 (rs 3:Nat),.int .u64 (rs 4:Nat),.int .u64 (rs 5:Nat),.int .u64 (rs 6:Nat),.int .u64 (rs 7:Nat),.int .u64 (rs 8:Nat)])/\Below w.heap.size w w')
  (hPa:∀(B:Nat) (w:World),w.cell? ⟨B,0,none⟩=some (.int .u64 (xs 0:Nat))->w.cell? ⟨B,1,none⟩=some (.int .u64 (xs 1:Nat))->w.cell? ⟨B,2,none⟩=some (.int .u64 (xs 2:Nat))->w.cell? ⟨B,3,none⟩=some (.int .u64 (xs 3:Nat))->w.cell? ⟨B,4,none⟩=some (.int .u64 (xs 4:Nat))->w.cell? ⟨B,5,none⟩=some (.int .u64 (xs 5:Nat))->w.cell? ⟨B,6,none⟩=some (.int .u64 (xs 6:Nat))->w.cell? ⟨B,7,none⟩=some (.int .u64 (xs 7:Nat)) ->
   Calls Tryz.prog 121 #[.slice (some ⟨B,0,none⟩) 8 8] w fun e w'=>e=.returned (.int .i64 (m:Nat))/\w=w')
  (hSr:∀(cur:Nat->Nat),(∀ j,j<9->cur j<18446744073709551616)->∀ w,Calls Tryz.prog 126 #[.agg #[.int .u64 (s:Nat),.int .u64 0,.int .u64 0,.int .u64 0],.agg #[.int .u64 (cur 0:Nat),.int .u64 (cur 1:Nat),.int .u64 (cur 2:Nat),.int .u64 (cur 3:Nat)]] w fun e w'=>e=.returned (.agg #[.int .u64 (sr cur 0:Nat),.int .u64 (sr cur 1:Nat),.int .u64 (sr cur 2:Nat),.int .u64 (sr cur 3:Nat)])/\Below w.heap.size w w')
  (hrl:∀ j,j<9->rs j<18446744073709551616) (hdl:∀ j,j<k+1->ds j<18446744073709551616) (hdk:9223372036854775808<=ds k)
  (hst:val rs 9<val ds n*18446744073709551616^(m+1 - n)) :
  Calls Tryz.prog 115 #[.agg #[.int .u64 (xs 0:Nat),.int .u64 (xs 1:Nat),.int .u64 (xs 2:Nat),.int .u64 (xs 3:Nat),.int .u64 (xs 4:Nat),.int .u64 (xs 5:Nat),.int .u64 (xs 6:Nat),.int .u64 (xs 7:Nat)],.agg #[.int .u64 (bs 0:Nat),.int .u64 (bs 1:Nat),.int .u64 (bs 2:Nat),.int .u64 (bs 3:Nat)]] w (DivPostA ds rs sr n w):=by
 have HPa:=Lib.hid hPa;clear hPa;have HSR:=Lib.hid hSr;clear hSr;have HRL:=Lib.hid hrl;clear hrl;have HDL:=Lib.hid hdl;clear hdl;have HDK:=Lib.hid hdk;clear hdk;have HST:=Lib.hid hst;clear hst;have i4:Is ((((w.alloc (.cells #[.int .u64 (xs 0:Nat),.int .u64 (xs 1:Nat),.int .u64 (xs 2:Nat),.int .u64 (xs 3:Nat),.int .u64 (xs 4:Nat),.int .u64 (xs 5:Nat),.int .u64 (xs 6:Nat),.int .u64 (xs 7:Nat)] 123)).alloc (.cells #[.int .u64 (bs 0:Nat),.int .u64 (bs 1:Nat),.int .u64 (bs 2:Nat),.int .u64 (bs 3:Nat)] 24)).alloc (.cells #[.int .u64 0,.int .u64 0,.int .u64 0,.int .u64 0,.int .u64 0,.int .u64 0,.int .u64 0,.int .u64 0] 123)).alloc (.cells #[.int .u64 0,.int .u64 0,.int .u64 0,.int .u64 0] 24)) (w.heap.size+1+1) (.cells #[.int .u64 0,.int .u64 0,.int .u64 0,.int .u64 0,.int .u64 0,.int .u64 0,.int .u64 0,.int .u64 0] 123):=(Is.new _ (by simp)).alloc _;have i5:Is ((((w.alloc (.cells #[.int .u64 (xs 0:Nat),.int .u64 (xs 1:Nat),.int .u64 (xs 2:Nat),.int .u64 (xs 3:Nat),.int .u64 (xs 4:Nat),.int .u64 (xs 5:Nat),.int .u64 (xs 6:Nat),.int .u64 (xs 7:Nat)] 123)).alloc (.cells #[.int .u64 (bs 0:Nat),.int .u64 (bs 1:Nat),.int .u64 (bs 2:Nat),.int .u64 (bs 3:Nat)] 24)).alloc (.cells #[.int .u64 0,.int .u64 0,.int .u64 0,.int .u64 0,.int .u64 0,.int .u64 0,.int .u64 0,.int .u64 0] 123)).alloc (.cells #[.int .u64 0,.int .u64 0,.int .u64 0,.int .u64 0] 24)) (w.heap.size+1+1+1) (.cells #[.int .u64 0,.int .u64 0,.int .u64 0,.int .u64 0] 24):=Is.new _ (by simp);have I4:=Lib.hid i4;clear i4;have I5:=Lib.hid i5;clear i5;have HP:=Lib.hid hP;clear hP;have HSH:=Lib.hid hShl;clear hShl;have HR:=Lib.hid hR;clear hR;have hof:∀ w,Calls Tryz.prog 71 #[.int .u64 (s:Nat)] w fun e w'=>e=.returned (.agg #[.int .u64 (s:Nat),.int .u64 0,.int .u64 0,.int .u64 0])/\w.alloc (.cells #[.int .u64 (s:Nat),.int .u64 0,.int .u64 0,.int .u64 0] 24)=w':=fun w=>of_exact s w;have HOF:=Lib.hid hof;clear hof;have h0:Below w.heap.size w ((((w.alloc (.cells #[.int .u64 (xs 0:Nat),.int .u64 (xs 1:Nat),.int .u64 (xs 2:Nat),.int .u64 (xs 3:Nat),.int .u64 (xs 4:Nat),.int .u64 (xs 5:Nat),.int .u64 (xs 6:Nat),.int .u64 (xs 7:Nat)] 123)).alloc (.cells #[.int .u64 (bs 0:Nat),.int .u64 (bs 1:Nat),.int .u64 (bs 2:Nat),.int .u64 (bs 3:Nat)] 24)).alloc (.cells #[.int .u64 0,.int .u64 0,.int .u64 0,.int .u64 0,.int .u64 0,.int .u64 0,.int .u64 0,.int .u64 0] 123)).alloc (.cells #[.int .u64 0,.int .u64 0,.int .u64 0,.int .u64 0] 24)):=by go_grown
 have H0:=Lib.hid h0;clear h0;have hnk:(n:Int) - 1=(k:Int):=by omega
 have hk0:(0:Int)<=k:=by omega
 have hk1:(k:Int)<=3:=by omega
 have hk4:(k:Int)<4:=by omega
 have hn0:(1:Int)<=n:=by omega
 have hn4:(n:Int)<=4:=by omega
 have hnz:((n:Int) == 0)=false:=by rw[beq_eq_false_iff_ne];omega
 have hs0:(0:Int)<=s:=by omega
 have hs1:(s:Int)<=63:=by omega
 have us:IntKind.u64.wrap (s:Int)=(s:Int):=by rw[IntKind.wrap_u64];omega
 have hm0:(0:Int)<=m:=by omega
 have hm8:(m:Int)<=8:=by omega
 have ck:((((w.alloc (.cells #[.int .u64 (xs 0:Nat),.int .u64 (xs 1:Nat),.int .u64 (xs 2:Nat),.int .u64 (xs 3:Nat),.int .u64 (xs 4:Nat),.int .u64 (xs 5:Nat),.int .u64 (xs 6:Nat),.int .u64 (xs 7:Nat)] 123)).alloc (.cells #[.int .u64 (bs 0:Nat),.int .u64 (bs 1:Nat),.int .u64 (bs 2:Nat),.int .u64 (bs 3:Nat)] 24)).alloc (.cells #[.int .u64 0,.int .u64 0,.int .u64 0,.int .u64 0,.int .u64 0,.int .u64 0,.int .u64 0,.int .u64 0] 123)).alloc (.cells #[.int .u64 0,.int .u64 0,.int .u64 0,.int .u64 0] 24)).cell? ⟨w.heap.size+1,k,none⟩=some (.int .u64 (bs k:Nat)) :=
  upto4 (P:=fun k=>((((w.alloc (.cells #[.int .u64 (xs 0:Nat),.int .u64 (xs 1:Nat),.int .u64 (xs 2:Nat),.int .u64 (xs 3:Nat),.int .u64 (xs 4:Nat),.int .u64 (xs 5:Nat),.int .u64 (xs 6:Nat),.int .u64 (xs 7:Nat)] 123)).alloc (.cells #[.int .u64 (bs 0:Nat),.int .u64 (bs 1:Nat),.int .u64 (bs 2:Nat),.int .u64 (bs 3:Nat)] 24)).alloc (.cells #[.int .u64 0,.int .u64 0,.int .u64 0,.int .u64 0,.int .u64 0,.int .u64 0,.int .u64 0,.int .u64 0] 123)).alloc (.cells #[.int .u64 0,.int .u64 0,.int .u64 0,.int .u64 0] 24)).cell? ⟨w.heap.size+1,k,none⟩=some (.int .u64 (bs k:Nat))) (by go_cell) (by go_cell) (by go_cell) (by go_cell) k (by omega)
 have HN:=Lib.hid hn;clear hn;go_enter Tryz.func115,Tryz.ntmps115
 go_wp2_with fail
 refine(HP.out (w.heap.size+1) ((((w.alloc (.cells #[.int .u64 (xs 0:Nat),.int .u64 (xs 1:Nat),.int .u64 (xs 2:Nat),.int .u64 (xs 3:Nat),.int .u64 (xs 4:Nat),.int .u64 (xs 5:Nat),.int .u64 (xs 6:Nat),.int .u64 (xs 7:Nat)] 123)).alloc (.cells #[.int .u64 (bs 0:Nat),.int .u64 (bs 1:Nat),.int .u64 (bs 2:Nat),.int .u64 (bs 3:Nat)] 24)).alloc (.cells #[.int .u64 0,.int .u64 0,.int .u64 0,.int .u64 0,.int .u64 0,.int .u64 0,.int .u64 0,.int .u64 0] 123)).alloc (.cells #[.int .u64 0,.int .u64 0,.int .u64 0,.int .u64 0] 24)) (by go_cell) (by go_cell) (by go_cell) (by go_cell)).mono ?_;rintro e w' ⟨rfl,rfl⟩
 go_wp2_with fail
 refine(hL _).mono ?_;rintro e w' ⟨rfl,rfl⟩;clear ck
 go_wp2_with fail
 go_cut [8] (fun v wx=>CutE w ((((w.alloc (.cells #[.int .u64 (xs 0:Nat),.int .u64 (xs 1:Nat),.int .u64 (xs 2:Nat),.int .u64 (xs 3:Nat),.int .u64 (xs 4:Nat),.int .u64 (xs 5:Nat),.int .u64 (xs 6:Nat),.int .u64 (xs 7:Nat)] 123)).alloc (.cells #[.int .u64 (bs 0:Nat),.int .u64 (bs 1:Nat),.int .u64 (bs 2:Nat),.int .u64 (bs 3:Nat)] 24)).alloc (.cells #[.int .u64 0,.int .u64 0,.int .u64 0,.int .u64 0,.int .u64 0,.int .u64 0,.int .u64 0,.int .u64 0] 123)).alloc (.cells #[.int .u64 0,.int .u64 0,.int .u64 0,.int .u64 0] 24)) (w.heap.size+1+1+1+1) ds v wx)
 case first =>
  go_region_with (first | (go_at_call 71;refine(HOF.out _).mono ?_;rintro e w' ⟨rfl,rfl⟩) | (go_at_call 123;refine(HSH.out _).mono ?_;rintro e w' ⟨rfl,hb⟩;(try (refine after4k (w.heap.size+1+1+1+1) hb ?_ ?_ ?_ ?_ ?_ ?_ ?_ ?_ ?_ ?_;(focus (first | (simp;done) | (simp;omega)));(focus (go_cell;done));(focus (go_cell;done));(focus (go_cell;done));(focus (go_cell;done));(focus (go_cell;done));(focus (go_cell;done));(focus (go_cell;done));(focus (go_cell;done));rintro⟨q0,q1,q2,q3⟩ ⟨fq0,fq1,fq2,fq3⟩ zq));(try (refine after4k (w.heap.size+1+1+1+1+1) hb ?_ ?_ ?_ ?_ ?_ ?_ ?_ ?_ ?_ ?_;(focus (first | (simp;done) | (simp;omega)));(focus (go_cell;done));(focus (go_cell;done));(focus (go_cell;done));(focus (go_cell;done));(focus (go_cell;done));(focus (go_cell;done));(focus (go_cell;done));(focus (go_cell;done));rintro⟨r0,r1,r2,r3⟩ ⟨fr0,fr1,fr2,fr3⟩ zr))))
  all_goals go_wp2_with fail
  all_goals go_meet
  all_goals
   have hbs:=hb.size;have hb2:Below (w.heap.size+1+1+1+1) ((((w.alloc (.cells #[.int .u64 (xs 0:Nat),.int .u64 (xs 1:Nat),.int .u64 (xs 2:Nat),.int .u64 (xs 3:Nat),.int .u64 (xs 4:Nat),.int .u64 (xs 5:Nat),.int .u64 (xs 6:Nat),.int .u64 (xs 7:Nat)] 123)).alloc (.cells #[.int .u64 (bs 0:Nat),.int .u64 (bs 1:Nat),.int .u64 (bs 2:Nat),.int .u64 (bs 3:Nat)] 24)).alloc (.cells #[.int .u64 0,.int .u64 0,.int .u64 0,.int .u64 0,.int .u64 0,.int .u64 0,.int .u64 0,.int .u64 0] 123)).alloc (.cells #[.int .u64 0,.int .u64 0,.int .u64 0,.int .u64 0] 24)) w':=Below.trans (by go_grown) (hb.mono (by first | (simp;done) | (simp;omega)));simp at hbs;refine cutE_mk ?_ ?_ ?_ H0.out (by omega) ?_ ?_ ?_ ?_
   ·first | omega | (simp;omega)
   ·first | omega | (simp;done) | (simp;omega)
   ·go_grown
   ·go_cell
   ·go_cell
   ·go_cell
   ·go_cell
 case rest =>
  obtain⟨D,rfl,hD1,hD2,hB1,hB2,cD⟩:=hcut;have a0:wc.cell? ⟨w.heap.size,0,none⟩=some (.int .u64 (xs 0:Nat)):=(hB1.cell (p:=⟨w.heap.size,0,none⟩) (by simp;omega)).trans (by go_cell);have a1:wc.cell? ⟨w.heap.size,1,none⟩=some (.int .u64 (xs 1:Nat)):=(hB1.cell (p:=⟨w.heap.size,1,none⟩) (by simp;omega)).trans (by go_cell);have a2:wc.cell? ⟨w.heap.size,2,none⟩=some (.int .u64 (xs 2:Nat)):=(hB1.cell (p:=⟨w.heap.size,2,none⟩) (by simp;omega)).trans (by go_cell);have a3:wc.cell? ⟨w.heap.size,3,none⟩=some (.int .u64 (xs 3:Nat)):=(hB1.cell (p:=⟨w.heap.size,3,none⟩) (by simp;omega)).trans (by go_cell);have a4:wc.cell? ⟨w.heap.size,4,none⟩=some (.int .u64 (xs 4:Nat)):=(hB1.cell (p:=⟨w.heap.size,4,none⟩) (by simp;omega)).trans (by go_cell);have a5:wc.cell? ⟨w.heap.size,5,none⟩=some (.int .u64 (xs 5:Nat)):=(hB1.cell (p:=⟨w.heap.size,5,none⟩) (by simp;omega)).trans (by go_cell);have a6:wc.cell? ⟨w.heap.size,6,none⟩=some (.int .u64 (xs 6:Nat)):=(hB1.cell (p:=⟨w.heap.size,6,none⟩) (by simp;omega)).trans (by go_cell);have a7:wc.cell? ⟨w.heap.size,7,none⟩=some (.int .u64 (xs 7:Nat)):=(hB1.cell (p:=⟨w.heap.size,7,none⟩) (by simp;omega)).trans (by go_cell)
  go_wp2_with fail
  refine(HR.out _).mono ?_;rintro e w2 ⟨rfl,hb⟩;have hsz:wc.heap.size<=w2.heap.size:=hb.size;have g0:w2.cell? ⟨w.heap.size,0,none⟩=some (.int .u64 (xs 0:Nat)):=(hb.cell (p:=⟨w.heap.size,0,none⟩) (by show w.heap.size<wc.heap.size;omega)).trans a0;have g1:w2.cell? ⟨w.heap.size,1,none⟩=some (.int .u64 (xs 1:Nat)):=(hb.cell (p:=⟨w.heap.size,1,none⟩) (by show w.heap.size<wc.heap.size;omega)).trans a1;have g2:w2.cell? ⟨w.heap.size,2,none⟩=some (.int .u64 (xs 2:Nat)):=(hb.cell (p:=⟨w.heap.size,2,none⟩) (by show w.heap.size<wc.heap.size;omega)).trans a2;have g3:w2.cell? ⟨w.heap.size,3,none⟩=some (.int .u64 (xs 3:Nat)):=(hb.cell (p:=⟨w.heap.size,3,none⟩) (by show w.heap.size<wc.heap.size;omega)).trans a3;have g4:w2.cell? ⟨w.heap.size,4,none⟩=some (.int .u64 (xs 4:Nat)):=(hb.cell (p:=⟨w.heap.size,4,none⟩) (by show w.heap.size<wc.heap.size;omega)).trans a4;have g5:w2.cell? ⟨w.heap.size,5,none⟩=some (.int .u64 (xs 5:Nat)):=(hb.cell (p:=⟨w.heap.size,5,none⟩) (by show w.heap.size<wc.heap.size;omega)).trans a5;have g6:w2.cell? ⟨w.heap.size,6,none⟩=some (.int .u64 (xs 6:Nat)):=(hb.cell (p:=⟨w.heap.size,6,none⟩) (by show w.heap.size<wc.heap.size;omega)).trans a6;have g7:w2.cell? ⟨w.heap.size,7,none⟩=some (.int .u64 (xs 7:Nat)):=(hb.cell (p:=⟨w.heap.size,7,none⟩) (by show w.heap.size<wc.heap.size;omega)).trans a7;obtain⟨y0,y1,y2,y3⟩:=cD.below hb hD2;have J4:=Lib.hid ((I4.out.below hB1 (by omega)).below hb (by omega));have J5:=Lib.hid ((I5.out.below hB1 (by omega)).below hb (by omega));have hB3:Below w.heap.size w w2:=hB2.trans (hb.mono (by omega));clear hb hB1 hB2 a0 a1 a2 a3 a4 a5 a6 a7 cD;have hDlt:D<w2.heap.size:=by omega
  have hwlt:w.heap.size<w2.heap.size:=by omega
  have hl5:w.heap.size+1+1+1<w2.heap.size:=J5.out.lt;have hDW:DivW w w2.heap.size (w2.heap.size+1) D (w2.heap.size+1+1) ds rs (fun _=>0) ((w2.alloc (.cells #[.int .u64 (rs 0:Nat),.int .u64 (rs 1:Nat),.int .u64 (rs 2:Nat),.int .u64 (rs 3:Nat),.int .u64 (rs 4:Nat),.int .u64 (rs 5:Nat),.int .u64 (rs 6:Nat),.int .u64 (rs 7:Nat),.int .u64 (rs 8:Nat)] 133)).alloc (.cells #[.int .u64 0,.int .u64 0,.int .u64 0,.int .u64 0,.int .u64 0,.int .u64 0,.int .u64 0,.int .u64 0] 123)) :=
   ⟨hB3.trans (Below.mono (B:=w2.heap.size) (by go_grown) (by omega)),by simp,(J4.out.alloc _).alloc _,(J5.out.alloc _).alloc _,
    upto9 (P:=fun j=>((w2.alloc (.cells #[.int .u64 (rs 0:Nat),.int .u64 (rs 1:Nat),.int .u64 (rs 2:Nat),.int .u64 (rs 3:Nat),.int .u64 (rs 4:Nat),.int .u64 (rs 5:Nat),.int .u64 (rs 6:Nat),.int .u64 (rs 7:Nat),.int .u64 (rs 8:Nat)] 133)).alloc (.cells #[.int .u64 0,.int .u64 0,.int .u64 0,.int .u64 0,.int .u64 0,.int .u64 0,.int .u64 0,.int .u64 0] 123)).cell? ⟨w2.heap.size,j,none⟩=some (.int .u64 (rs j:Nat))) (by go_cell) (by go_cell) (by go_cell) (by go_cell) (by go_cell) (by go_cell) (by go_cell) (by go_cell) (by go_cell) ,
    upto9 (P:=fun j=>((w2.alloc (.cells #[.int .u64 (rs 0:Nat),.int .u64 (rs 1:Nat),.int .u64 (rs 2:Nat),.int .u64 (rs 3:Nat),.int .u64 (rs 4:Nat),.int .u64 (rs 5:Nat),.int .u64 (rs 6:Nat),.int .u64 (rs 7:Nat),.int .u64 (rs 8:Nat)] 133)).alloc (.cells #[.int .u64 0,.int .u64 0,.int .u64 0,.int .u64 0,.int .u64 0,.int .u64 0,.int .u64 0,.int .u64 0] 123)).frozen? ⟨w2.heap.size,j,none⟩=false) (by go_cell) (by go_cell) (by go_cell) (by go_cell) (by go_cell) (by go_cell) (by go_cell) (by go_cell) (by go_cell) ,
    upto8 (P:=fun j=>((w2.alloc (.cells #[.int .u64 (rs 0:Nat),.int .u64 (rs 1:Nat),.int .u64 (rs 2:Nat),.int .u64 (rs 3:Nat),.int .u64 (rs 4:Nat),.int .u64 (rs 5:Nat),.int .u64 (rs 6:Nat),.int .u64 (rs 7:Nat),.int .u64 (rs 8:Nat)] 133)).alloc (.cells #[.int .u64 0,.int .u64 0,.int .u64 0,.int .u64 0,.int .u64 0,.int .u64 0,.int .u64 0,.int .u64 0] 123)).cell? ⟨w2.heap.size+1,j,none⟩=some (.int .u64 0)) (by go_cell) (by go_cell) (by go_cell) (by go_cell) (by go_cell) (by go_cell) (by go_cell) (by go_cell) ,
    upto8 (P:=fun j=>((w2.alloc (.cells #[.int .u64 (rs 0:Nat),.int .u64 (rs 1:Nat),.int .u64 (rs 2:Nat),.int .u64 (rs 3:Nat),.int .u64 (rs 4:Nat),.int .u64 (rs 5:Nat),.int .u64 (rs 6:Nat),.int .u64 (rs 7:Nat),.int .u64 (rs 8:Nat)] 133)).alloc (.cells #[.int .u64 0,.int .u64 0,.int .u64 0,.int .u64 0,.int .u64 0,.int .u64 0,.int .u64 0,.int .u64 0] 123)).frozen? ⟨w2.heap.size+1,j,none⟩=false) (by go_cell) (by go_cell) (by go_cell) (by go_cell) (by go_cell) (by go_cell) (by go_cell) (by go_cell) ,
    upto4 (P:=fun j=>((w2.alloc (.cells #[.int .u64 (rs 0:Nat),.int .u64 (rs 1:Nat),.int .u64 (rs 2:Nat),.int .u64 (rs 3:Nat),.int .u64 (rs 4:Nat),.int .u64 (rs 5:Nat),.int .u64 (rs 6:Nat),.int .u64 (rs 7:Nat),.int .u64 (rs 8:Nat)] 133)).alloc (.cells #[.int .u64 0,.int .u64 0,.int .u64 0,.int .u64 0,.int .u64 0,.int .u64 0,.int .u64 0,.int .u64 0] 123)).cell? ⟨D,j,none⟩=some (.int .u64 (ds j:Nat))) (by go_cell) (by go_cell) (by go_cell) (by go_cell) ⟩
  have HDW:=Lib.hid hDW;clear hDW;clear y0 y1 y2 y3
  go_wp2_with fail
  refine(HPa.out w.heap.size ((w2.alloc (.cells #[.int .u64 (rs 0:Nat),.int .u64 (rs 1:Nat),.int .u64 (rs 2:Nat),.int .u64 (rs 3:Nat),.int .u64 (rs 4:Nat),.int .u64 (rs 5:Nat),.int .u64 (rs 6:Nat),.int .u64 (rs 7:Nat),.int .u64 (rs 8:Nat)] 133)).alloc (.cells #[.int .u64 0,.int .u64 0,.int .u64 0,.int .u64 0,.int .u64 0,.int .u64 0,.int .u64 0,.int .u64 0] 123)) (by go_cell) (by go_cell) (by go_cell) (by go_cell) (by go_cell) (by go_cell) (by go_cell) (by go_cell)).mono ?_;rintro e w' ⟨rfl,rfl⟩;clear g0 g1 g2 g3 g4 g5 g6 g7;have hle:val rs 9=val (fun _=>0) 8*val ds n+val rs 9:=by rw[val_zero 8 (fun _ _=>rfl)];omega
  have HLE:=Lib.hid hle;clear hle
  go_wp2_with fail
  go_loopw [11] (fun iv wr=>∃(z:Int) (cur q:Nat->Nat),iv=.int .i64 z/\-4<=z/\z<=(m:Int) - n/\Hid (DivW w w2.heap.size (w2.heap.size+1) D (w2.heap.size+1+1) ds cur q wr/\(∀ j,j<9->cur j<18446744073709551616)/\(∀ j,j<8->q j<18446744073709551616)/\(∀ j,j<(z+1).toNat->q j=0)/\val q 8*val ds n+val cur 9=val rs 9/\val cur 9<val ds n*18446744073709551616^(z+1).toNat)) (fun iv _=>(intOf iv+5).toNat)
  case atStart =>
   refine⟨(m:Int) - n,rs,fun _=>0,rfl,by omega,by omega,Lib.hid ⟨HDW.out,HRL.out,fun _ _=>by show 0<_;omega,fun _ _=>rfl,HLE.out.symm,?_⟩⟩;rw[show((m:Int) - n+1).toNat=m+1 - n by omega];exact HST.out
  case round =>
   obtain⟨z,cur,q,rfl,hz0,hz1,H⟩:=hrel;by_cases hz:0<=z
   ·obtain⟨i,rfl⟩:=Int.eq_ofNat_of_zero_le hz
    have hi4:(i:Int)+n<=8:=by omega
    have hi8:(i:Int)<8:=by omega
    have w1:IntKind.i64.wrap ((i:Int)+n)=(i:Int)+n:=IntWalk.i64_in _ (by omega);have w2':IntKind.i64.wrap ((i:Int)+n+1)=(i:Int)+n+1:=IntWalk.i64_in _ (by omega);have w3:IntKind.i64.wrap (i:Int)=(i:Int):=IntWalk.i64_in _ (by omega);have w4:IntKind.i64.wrap (n:Int)=(n:Int):=IntWalk.i64_in _ (by omega);have sl9:=fun w=>slice9 w2.heap.size i n (by omega) w;have sl4:=fun w=>slice4 D n (by omega) w;have hD1:0<val ds n:=by
     have h1:=val_ge ds k;have h2:=Nat.mul_pos (Nat.pow_pos (n:=k) (show 0<18446744073709551616 by omega)) (show 0<ds k by have:=HDK.out;omega);rw[HN.out];omega
    have hDn:val ds n<=18446744073709551616^n:=by rw[HN.out];exact Nat.le_of_lt (val_lt HDL.out)
    have hlt9:val cur 9<val ds n*18446744073709551616^(i+1):=by have:=H.out.2.2.2.2.2;rwa [show((i:Int)+1).toNat=i+1 by omega]at this
    have htk:=div_take (i:=i) hDn (by omega) hlt9;have hcall:=step_any w2.heap.size i (9 - i) D 4 k (fun j=>cur (i+j)) ds (by omega) (fun j hj=>H.out.2.1 _ (by have:=HN.out;omega)) HDL.out HDK.out (by rw[show k+2=n+1 by rw[HN.out],<- HN.out];exact htk.2.2) (by omega) wr.drew (fun j hj=>H.out.1.rest _ (by have:=HN.out;omega)) (fun j hj=>H.out.1.restf _ (by have:=HN.out;omega)) (fun j hj=>H.out.1.by_ _ (by omega));rw[<- HN.out]at hcall;have HCA:=Lib.hid hcall;clear hcall;have HD1:=Lib.hid hD1;clear hD1;have HDn:=Lib.hid hDn;clear hDn;have HLT:=Lib.hid hlt9;clear hlt9 htk;have hqc:∀ w3,But w2.heap.size wr.drew w3->w3.cell? ⟨w2.heap.size+1,i,none⟩=some (.int .u64 (q i:Nat))/\w3.frozen? ⟨w2.heap.size+1,i,none⟩=false:=fun w3 hb =>
     ⟨(hb.cell (p:=⟨w2.heap.size+1,i,none⟩) (by show w2.heap.size+1≠w2.heap.size;omega)).trans (H.out.1.quo i (by omega)),(World.frozen?_of_block (w:=wr.drew) (a:=⟨w2.heap.size+1,i,none⟩) (hb.block (w2.heap.size+1) (by omega))).trans (H.out.1.quof i (by omega))⟩
    have HQC:=Lib.hid hqc;clear hqc;clear hz
    go_wp2_with fail
    go_region_with (go_at_call 125;refine HCA.out.mono ?_;rintro e w3 ⟨ns,rfl,hn1,hn2,hn3⟩;obtain⟨cq,fq⟩:=HQC.out _ hn3.1;have HN1:=Lib.hid hn1;have HN2:=Lib.hid hn2;have HN3:=Lib.hid hn3;clear hn1 hn2 hn3)
    go_wp2_with fail
    go_roundw
    case rel =>
     obtain⟨e1,e2,e3⟩:=div_round (q:=q) (ns:=ns) H.out.2.1 HD1.out HDn.out (by omega) (by omega) HLT.out H.out.2.2.2.2.1 (H.out.2.2.2.1 i (by omega)) rfl HN2.out;have hstep:=H.out.1.drew.step (part:=val (fun j=>cur (i+j)) (n+1) / val ds n) HN3.out (by omega) (by omega) (by omega) (by omega) (by omega) hl5 (by omega);rw[Int.natCast_ediv]at hstep;refine⟨(i:Int) - 1,curN cur ns i n,quoN q i (val (fun j=>cur (i+j)) (n+1) / val ds n),rfl,by omega,by omega,Lib.hid ⟨hstep,fun j hj=>?_,fun j hj=>?_,fun j hj=>?_,e1,?_⟩⟩
     ·unfold curN;split
      ·exact HN1.out _ (by omega)
      ·exact H.out.2.1 j hj
     ·unfold quoN;split
      ·exact e3
      ·exact H.out.2.2.1 j hj
     ·unfold quoN;rw[if_neg (by omega)];exact H.out.2.2.2.1 j (by omega)
     ·rw[show((i:Int) - 1+1).toNat=i by omega];exact e2
    case measure=>simp[intOf];omega
   ·have hend:val cur 9<val ds n:=by have:=H.out.2.2.2.2.2;rwa [show(z+1).toNat=0 by omega,Nat.pow_zero,Nat.mul_one]at this
    have HE:=Lib.hid hend;clear hend;have hlt:z<0:=by omega
    have hzf:decide (0<=z)=false:=by rw[decide_eq_false_iff_not];exact hz
    go_wp2_with fail
    have hat:=arrayAt4;have hcl:ClQ w w2.heap.size (w2.heap.size+1) cur q wr.drew:=⟨H.out.1.below.drew,H.out.1.r4,H.out.1.r5,H.out.1.quo,H.out.1.rest,by show w2.heap.size+1<wr.heap.size;rw[H.out.1.size];omega,by show w2.heap.size<wr.heap.size;rw[H.out.1.size];omega⟩
    refine region_quiet_tail 8 (ClQ w w2.heap.size (w2.heap.size+1) cur q) (by kernel_rfl) (by kernel_rfl) hcl ?_;simp only[List.take_succ_cons,List.take_zero,List.drop_succ_cons,List.drop_zero];clear hcl;refine wpQuiet_step (fun K hK=>?_);rw[if_pos (by rfl)];refine⟨.agg #[.int .u64 (q 0:Nat),.int .u64 (q 1:Nat),.int .u64 (q 2:Nat),.int .u64 (q 3:Nat),.int .u64 (q 4:Nat),.int .u64 (q 5:Nat),.int .u64 (q 6:Nat),.int .u64 (q 7:Nat)],fun wx hC=>?_,hK _ ?_⟩
    ·obtain⟨q0,q1,q2,q3,q4,q5,q6,q7⟩:=hC.quos
     clear hC
     go_simp
    clear hK K;refine wpQuiet_step (fun K hK=>?_)
    go_simp
    refine⟨_,fun _ _=>rfl,hK _ ?_⟩;clear hK K;refine wpQuiet_step (fun K hK=>?_)
    go_simp
    refine⟨_,fun _ _=>rfl,hK _ ?_⟩;clear hK K;refine wpQuiet_step (fun K hK=>?_);rw[if_pos (by rfl)];refine⟨.agg #[.int .u64 (s:Nat),.int .u64 0,.int .u64 0,.int .u64 0],fun wx hC=>?_,hK _ ?_⟩
    ·go_simp
     refine(HOF.out _).mono ?_;rintro e w' ⟨rfl,rfl⟩;exact⟨rfl,hC.grown (by go_grown)⟩
    clear hK K;refine wpQuiet_step (fun K hK=>?_)
    go_simp
    refine⟨_,fun _ _=>rfl,hK _ ?_⟩;clear hK K;refine wpQuiet_step (fun K hK=>?_)
    go_simp
    refine⟨_,fun _ _=>rfl,hK _ ?_⟩;clear hK K;refine wpQuiet_step (fun K hK=>?_);rw[if_pos (by rfl)];refine⟨.agg #[.int .u64 (cur 0:Nat),.int .u64 (cur 1:Nat),.int .u64 (cur 2:Nat),.int .u64 (cur 3:Nat)],fun wx hC=>?_,hK _ ?_⟩
    ·obtain⟨c0,c1,c2,c3⟩:=hC.rests
     clear hC
     go_simp
    clear hK K;refine wpQuiet_step (fun K hK=>?_);rw[if_pos (by rfl)];refine⟨.agg #[.int .u64 (sr cur 0:Nat),.int .u64 (sr cur 1:Nat),.int .u64 (sr cur 2:Nat),.int .u64 (sr cur 3:Nat)],fun wx hC=>?_,hK _ ?_⟩
    ·go_simp
     refine(HSR.out _ H.out.2.1 _).mono ?_;rintro e w' ⟨rfl,hb⟩;exact⟨rfl,hC.grown hb⟩
    clear hK K;refine wpQuiet_nil ?_;intro wx hC;have h4:=hC.r4;have h5:=hC.r5;have hB:=Lib.hid hC.below;clear hC;obtain⟨⟨c0,c1,c2,c3,c4,c5,c6,c7⟩,⟨e0,e1,e2,e3,e4,e5,e6,e7⟩⟩:=h4.z8;obtain⟨⟨k0,k1,k2,k3⟩,⟨l0,l1,l2,l3⟩⟩:=h5.z4;have hlt4:=h4.lt;have hlt5:=h5.lt;clear h4 h5;go_wp2;refine bodyPost_ret (v:=.tuple #[.agg #[.int .u64 (q 0:Nat),.int .u64 (q 1:Nat),.int .u64 (q 2:Nat),.int .u64 (q 3:Nat),.int .u64 (q 4:Nat),.int .u64 (q 5:Nat),.int .u64 (q 6:Nat),.int .u64 (q 7:Nat)],.agg #[.int .u64 (sr cur 0:Nat),.int .u64 (sr cur 1:Nat),.int .u64 (sr cur 2:Nat),.int .u64 (sr cur 3:Nat)]]) (by simp[results,Tryz.results115,go_sem,c0,c1,c2,c3,c4,c5,c6,c7,k0,k1,k2,k3];try rfl) rfl ⟨cur,q,rfl,H.out.2.1,H.out.2.2.1,H.out.2.2.2.2.1,HE.out,?_⟩;have hB2:=hB.out;go_grown
open Go.RowKit
theorem wv_one{x:Nat}(h:x<18446744073709551616):wv x=.agg #[.int .u64 x,.int .u64 0,.int .u64 0,.int .u64 0]:=by
 have:=wv_n4 (a0:=x) (a1:=0) (a2:=0) (a3:=0) h (by omega) (by omega) (by omega);rw[show n4 x 0 0 0=x by unfold n4;omega]at this;exact this
end Go.Proofs.YthnckclbeecnmaaGreat
