/- What word.divide comes to, called with any wide number and any word: quotient and rest; noughts by nought. (Cut to what is reached, written closely: DivAll · DivSmall · DivAny.) -/
import Derived.Test.YtadfjjfklihaaaaGreatP10
set_option linter.all false
set_option maxRecDepth 100000
set_option maxHeartbeats 8000000
namespace Go.Proofs.YtadfjjfklihaaaaGreat
open Go.RowKit
def DivPostA(ds rs:Nat->Nat)(sr:(Nat->Nat)->Nat->Nat)(n:Nat)(w:World)(e:Ending)(w':World):Prop :=
 ∃ cur q:Nat->Nat,e=.returned (.tuple #[.agg #[.int .u64 (q 0:Nat),.int .u64 (q 1:Nat),.int .u64 (q 2:Nat),.int .u64 (q 3:Nat),.int .u64 (q 4:Nat),.int .u64 (q 5:Nat),.int .u64 (q 6:Nat),.int .u64 (q 7:Nat)],.agg #[.int .u64 (sr cur 0:Nat),.int .u64 (sr cur 1:Nat),.int .u64 (sr cur 2:Nat),.int .u64 (sr cur 3:Nat)]])/\(∀ j,j<9->cur j<18446744073709551616)/\(∀ j,j<8->q j<18446744073709551616)/\val q 8*val ds n+val cur 9=val rs 9/\val cur 9<val ds n/\Below w.heap.size w w'
theorem divide_walk(xs bs ds rs:Nat->Nat)(sr:(Nat->Nat)->Nat->Nat)(n k m s:Nat)(hk:k<=3)(hn:n=k+1)(hm:m<=8)(hs:s<64)(w:World)
  (hP:∀(B:Nat) (w:World),w.cell? ⟨B,0,none⟩=some (.int .u64 (bs 0:Nat))->w.cell? ⟨B,1,none⟩=some (.int .u64 (bs 1:Nat))->w.cell? ⟨B,2,none⟩=some (.int .u64 (bs 2:Nat))->w.cell? ⟨B,3,none⟩=some (.int .u64 (bs 3:Nat)) ->
   Calls Tryz.prog 145 #[.slice (some ⟨B,0,none⟩) 4 4] w fun e w'=>e=.returned (.int .i64 (n:Nat))/\w=w')
  (hL:∀ w,Calls Tryz.prog 146 #[.int .u64 (bs k:Nat)] w fun e w'=>e=.returned (.int .i64 (s:Nat))/\w=w')
  (hShl:∀ w,Calls Tryz.prog 147 #[.agg #[.int .u64 (s:Nat),.int .u64 0,.int .u64 0,.int .u64 0],.agg #[.int .u64 (bs 0:Nat),.int .u64 (bs 1:Nat),.int .u64 (bs 2:Nat),.int .u64 (bs 3:Nat)]] w fun e w'=>e=.returned (.agg #[.int .u64 (ds 0:Nat),.int .u64 (ds 1:Nat),.int .u64 (ds 2:Nat),.int .u64 (ds 3:Nat)])/\Below w.heap.size w w')
  (hR:∀ w,Calls Tryz.prog 148 #[.agg #[.int .u64 (xs 0:Nat),.int .u64 (xs 1:Nat),.int .u64 (xs 2:Nat),.int .u64 (xs 3:Nat),.int .u64 (xs 4:Nat),.int .u64 (xs 5:Nat),.int .u64 (xs 6:Nat),.int .u64 (xs 7:Nat)],.int .i64 (s:Nat)] w fun e w'=>e=.returned (.agg #[.int .u64 (rs 0:Nat),.int .u64 (rs 1:Nat),.int .u64 (rs 2:Nat),.int .u64 (rs 3:Nat),.int .u64 (rs 4:Nat),.int .u64 (rs 5:Nat),.int .u64 (rs 6:Nat),.int .u64 (rs 7:Nat),.int .u64 (rs 8:Nat)])/\Below w.heap.size w w')
  (hPa:∀(B:Nat) (w:World),w.cell? ⟨B,0,none⟩=some (.int .u64 (xs 0:Nat))->w.cell? ⟨B,1,none⟩=some (.int .u64 (xs 1:Nat))->w.cell? ⟨B,2,none⟩=some (.int .u64 (xs 2:Nat))->w.cell? ⟨B,3,none⟩=some (.int .u64 (xs 3:Nat))->w.cell? ⟨B,4,none⟩=some (.int .u64 (xs 4:Nat))->w.cell? ⟨B,5,none⟩=some (.int .u64 (xs 5:Nat))->w.cell? ⟨B,6,none⟩=some (.int .u64 (xs 6:Nat))->w.cell? ⟨B,7,none⟩=some (.int .u64 (xs 7:Nat)) ->
   Calls Tryz.prog 145 #[.slice (some ⟨B,0,none⟩) 8 8] w fun e w'=>e=.returned (.int .i64 (m:Nat))/\w=w')
  (hSr:∀(cur:Nat->Nat),(∀ j,j<9->cur j<18446744073709551616)->∀ w,Calls Tryz.prog 150 #[.agg #[.int .u64 (s:Nat),.int .u64 0,.int .u64 0,.int .u64 0],.agg #[.int .u64 (cur 0:Nat),.int .u64 (cur 1:Nat),.int .u64 (cur 2:Nat),.int .u64 (cur 3:Nat)]] w fun e w'=>e=.returned (.agg #[.int .u64 (sr cur 0:Nat),.int .u64 (sr cur 1:Nat),.int .u64 (sr cur 2:Nat),.int .u64 (sr cur 3:Nat)])/\Below w.heap.size w w')
  (hrl:∀ j,j<9->rs j<18446744073709551616) (hdl:∀ j,j<k+1->ds j<18446744073709551616) (hdk:9223372036854775808<=ds k)
  (hst:val rs 9<val ds n*18446744073709551616^(m+1 - n)) :
  Calls Tryz.prog 139 #[.agg #[.int .u64 (xs 0:Nat),.int .u64 (xs 1:Nat),.int .u64 (xs 2:Nat),.int .u64 (xs 3:Nat),.int .u64 (xs 4:Nat),.int .u64 (xs 5:Nat),.int .u64 (xs 6:Nat),.int .u64 (xs 7:Nat)],.agg #[.int .u64 (bs 0:Nat),.int .u64 (bs 1:Nat),.int .u64 (bs 2:Nat),.int .u64 (bs 3:Nat)]] w (DivPostA ds rs sr n w):=by
 have HPa:=Lib.hid hPa;clear hPa;have HSR:=Lib.hid hSr;clear hSr;have HRL:=Lib.hid hrl;clear hrl;have HDL:=Lib.hid hdl;clear hdl;have HDK:=Lib.hid hdk;clear hdk;have HST:=Lib.hid hst;clear hst;have i4:Is ((((w.alloc (.cells #[.int .u64 (xs 0:Nat),.int .u64 (xs 1:Nat),.int .u64 (xs 2:Nat),.int .u64 (xs 3:Nat),.int .u64 (xs 4:Nat),.int .u64 (xs 5:Nat),.int .u64 (xs 6:Nat),.int .u64 (xs 7:Nat)] 168)).alloc (.cells #[.int .u64 (bs 0:Nat),.int .u64 (bs 1:Nat),.int .u64 (bs 2:Nat),.int .u64 (bs 3:Nat)] 24)).alloc (.cells #[.int .u64 0,.int .u64 0,.int .u64 0,.int .u64 0,.int .u64 0,.int .u64 0,.int .u64 0,.int .u64 0] 168)).alloc (.cells #[.int .u64 0,.int .u64 0,.int .u64 0,.int .u64 0] 24)) (w.heap.size+1+1) (.cells #[.int .u64 0,.int .u64 0,.int .u64 0,.int .u64 0,.int .u64 0,.int .u64 0,.int .u64 0,.int .u64 0] 168):=(Is.new _ (by simp)).alloc _;have i5:Is ((((w.alloc (.cells #[.int .u64 (xs 0:Nat),.int .u64 (xs 1:Nat),.int .u64 (xs 2:Nat),.int .u64 (xs 3:Nat),.int .u64 (xs 4:Nat),.int .u64 (xs 5:Nat),.int .u64 (xs 6:Nat),.int .u64 (xs 7:Nat)] 168)).alloc (.cells #[.int .u64 (bs 0:Nat),.int .u64 (bs 1:Nat),.int .u64 (bs 2:Nat),.int .u64 (bs 3:Nat)] 24)).alloc (.cells #[.int .u64 0,.int .u64 0,.int .u64 0,.int .u64 0,.int .u64 0,.int .u64 0,.int .u64 0,.int .u64 0] 168)).alloc (.cells #[.int .u64 0,.int .u64 0,.int .u64 0,.int .u64 0] 24)) (w.heap.size+1+1+1) (.cells #[.int .u64 0,.int .u64 0,.int .u64 0,.int .u64 0] 24):=Is.new _ (by simp);have I4:=Lib.hid i4;clear i4;have I5:=Lib.hid i5;clear i5;have HP:=Lib.hid hP;clear hP;have HSH:=Lib.hid hShl;clear hShl;have HR:=Lib.hid hR;clear hR;have hof:∀ w,Calls Tryz.prog 69 #[.int .u64 (s:Nat)] w fun e w'=>e=.returned (.agg #[.int .u64 (s:Nat),.int .u64 0,.int .u64 0,.int .u64 0])/\w.alloc (.cells #[.int .u64 (s:Nat),.int .u64 0,.int .u64 0,.int .u64 0] 24)=w':=fun w=>of_exact s w;have HOF:=Lib.hid hof;clear hof;have h0:Below w.heap.size w ((((w.alloc (.cells #[.int .u64 (xs 0:Nat),.int .u64 (xs 1:Nat),.int .u64 (xs 2:Nat),.int .u64 (xs 3:Nat),.int .u64 (xs 4:Nat),.int .u64 (xs 5:Nat),.int .u64 (xs 6:Nat),.int .u64 (xs 7:Nat)] 168)).alloc (.cells #[.int .u64 (bs 0:Nat),.int .u64 (bs 1:Nat),.int .u64 (bs 2:Nat),.int .u64 (bs 3:Nat)] 24)).alloc (.cells #[.int .u64 0,.int .u64 0,.int .u64 0,.int .u64 0,.int .u64 0,.int .u64 0,.int .u64 0,.int .u64 0] 168)).alloc (.cells #[.int .u64 0,.int .u64 0,.int .u64 0,.int .u64 0] 24)):=by go_grown
 have H0:=Lib.hid h0;clear h0;have hnk:(n:Int) - 1=(k:Int):=by omega
 have hk0:(0:Int)<=k:=by omega
 have hk1:(k:Int)<=3:=by omega
 have hk4:(k:Int)<4:=by omega
 have hn0:(1:Int)<=n:=by omega
 have hn4:(n:Int)<=4:=by omega
 have hnz:((n:Int) == 0)=false:=by rw[beq_eq_false_iff_ne];omega
 have hs0:(0:Int)<=s:=by omega
 have hs1:(s:Int)<=63:=by omega
 have us:IntKind.u64.wrap (s:Int)=(s:Int):=by rw[IntKind.wrap_u64];omega
 have hm0:(0:Int)<=m:=by omega
 have hm8:(m:Int)<=8:=by omega
 have ck:((((w.alloc (.cells #[.int .u64 (xs 0:Nat),.int .u64 (xs 1:Nat),.int .u64 (xs 2:Nat),.int .u64 (xs 3:Nat),.int .u64 (xs 4:Nat),.int .u64 (xs 5:Nat),.int .u64 (xs 6:Nat),.int .u64 (xs 7:Nat)] 168)).alloc (.cells #[.int .u64 (bs 0:Nat),.int .u64 (bs 1:Nat),.int .u64 (bs 2:Nat),.int .u64 (bs 3:Nat)] 24)).alloc (.cells #[.int .u64 0,.int .u64 0,.int .u64 0,.int .u64 0,.int .u64 0,.int .u64 0,.int .u64 0,.int .u64 0] 168)).alloc (.cells #[.int .u64 0,.int .u64 0,.int .u64 0,.int .u64 0] 24)).cell? ⟨w.heap.size+1,k,none⟩=some (.int .u64 (bs k:Nat)) :=
  upto4 (P:=fun k=>((((w.alloc (.cells #[.int .u64 (xs 0:Nat),.int .u64 (xs 1:Nat),.int .u64 (xs 2:Nat),.int .u64 (xs 3:Nat),.int .u64 (xs 4:Nat),.int .u64 (xs 5:Nat),.int .u64 (xs 6:Nat),.int .u64 (xs 7:Nat)] 168)).alloc (.cells #[.int .u64 (bs 0:Nat),.int .u64 (bs 1:Nat),.int .u64 (bs 2:Nat),.int .u64 (bs 3:Nat)] 24)).alloc (.cells #[.int .u64 0,.int .u64 0,.int .u64 0,.int .u64 0,.int .u64 0,.int .u64 0,.int .u64 0,.int .u64 0] 168)).alloc (.cells #[.int .u64 0,.int .u64 0,.int .u64 0,.int .u64 0] 24)).cell? ⟨w.heap.size+1,k,none⟩=some (.int .u64 (bs k:Nat))) (by go_cell) (by go_cell) (by go_cell) (by go_cell) k (by omega)
 have HN:=Lib.hid hn;clear hn;go_enter Tryz.func139,Tryz.ntmps139
 go_wp2_with fail
 refine(HP.out (w.heap.size+1) ((((w.alloc (.cells #[.int .u64 (xs 0:Nat),.int .u64 (xs 1:Nat),.int .u64 (xs 2:Nat),.int .u64 (xs 3:Nat),.int .u64 (xs 4:Nat),.int .u64 (xs 5:Nat),.int .u64 (xs 6:Nat),.int .u64 (xs 7:Nat)] 168)).alloc (.cells #[.int .u64 (bs 0:Nat),.int .u64 (bs 1:Nat),.int .u64 (bs 2:Nat),.int .u64 (bs 3:Nat)] 24)).alloc (.cells #[.int .u64 0,.int .u64 0,.int .u64 0,.int .u64 0,.int .u64 0,.int .u64 0,.int .u64 0,.int .u64 0] 168)).alloc (.cells #[.int .u64 0,.int .u64 0,.int .u64 0,.int .u64 0] 24)) (by go_cell) (by go_cell) (by go_cell) (by go_cell)).mono ?_;rintro e w' ⟨rfl,rfl⟩
 go_wp2_with fail
 refine(hL _).mono ?_;rintro e w' ⟨rfl,rfl⟩;clear ck
 go_wp2_with fail
 go_cut [8] (fun v wx=>CutE w ((((w.alloc (.cells #[.int .u64 (xs 0:Nat),.int .u64 (xs 1:Nat),.int .u64 (xs 2:Nat),.int .u64 (xs 3:Nat),.int .u64 (xs 4:Nat),.int .u64 (xs 5:Nat),.int .u64 (xs 6:Nat),.int .u64 (xs 7:Nat)] 168)).alloc (.cells #[.int .u64 (bs 0:Nat),.int .u64 (bs 1:Nat),.int .u64 (bs 2:Nat),.int .u64 (bs 3:Nat)] 24)).alloc (.cells #[.int .u64 0,.int .u64 0,.int .u64 0,.int .u64 0,.int .u64 0,.int .u64 0,.int .u64 0,.int .u64 0] 168)).alloc (.cells #[.int .u64 0,.int .u64 0,.int .u64 0,.int .u64 0] 24)) (w.heap.size+1+1+1+1) ds v wx)
 case first =>
  go_region_with (first | (go_at_call 69;refine(HOF.out _).mono ?_;rintro e w' ⟨rfl,rfl⟩) | (go_at_call 147;refine(HSH.out _).mono ?_;rintro e w' ⟨rfl,hb⟩;(try (refine after4k (w.heap.size+1+1+1+1) hb ?_ ?_ ?_ ?_ ?_ ?_ ?_ ?_ ?_ ?_;(focus (first | (simp;done) | (simp;omega)));(focus (go_cell;done));(focus (go_cell;done));(focus (go_cell;done));(focus (go_cell;done));(focus (go_cell;done));(focus (go_cell;done));(focus (go_cell;done));(focus (go_cell;done));rintro⟨q0,q1,q2,q3⟩ ⟨fq0,fq1,fq2,fq3⟩ zq));(try (refine after4k (w.heap.size+1+1+1+1+1) hb ?_ ?_ ?_ ?_ ?_ ?_ ?_ ?_ ?_ ?_;(focus (first | (simp;done) | (simp;omega)));(focus (go_cell;done));(focus (go_cell;done));(focus (go_cell;done));(focus (go_cell;done));(focus (go_cell;done));(focus (go_cell;done));(focus (go_cell;done));(focus (go_cell;done));rintro⟨r0,r1,r2,r3⟩ ⟨fr0,fr1,fr2,fr3⟩ zr))))
  all_goals go_wp2_with fail
  all_goals go_meet
  all_goals
   have hbs:=hb.size;have hb2:Below (w.heap.size+1+1+1+1) ((((w.alloc (.cells #[.int .u64 (xs 0:Nat),.int .u64 (xs 1:Nat),.int .u64 (xs 2:Nat),.int .u64 (xs 3:Nat),.int .u64 (xs 4:Nat),.int .u64 (xs 5:Nat),.int .u64 (xs 6:Nat),.int .u64 (xs 7:Nat)] 168)).alloc (.cells #[.int .u64 (bs 0:Nat),.int .u64 (bs 1:Nat),.int .u64 (bs 2:Nat),.int .u64 (bs 3:Nat)] 24)).alloc (.cells #[.int .u64 0,.int .u64 0,.int .u64 0,.int .u64 0,.int .u64 0,.int .u64 0,.int .u64 0,.int .u64 0] 168)).alloc (.cells #[.int .u64 0,.int .u64 0,.int .u64 0,.int .u64 0] 24)) w':=Below.trans (by go_grown) (hb.mono (by first | (simp;done) | (simp;omega)));simp at hbs;refine cutE_mk ?_ ?_ ?_ H0.out (by omega) ?_ ?_ ?_ ?_
   ·first | omega | (simp;omega)
   ·first | omega | (simp;done) | (simp;omega)
   ·go_grown
   ·go_cell
   ·go_cell
   ·go_cell
   ·go_cell
 case rest =>
  obtain⟨D,rfl,hD1,hD2,hB1,hB2,cD⟩:=hcut;have a0:wc.cell? ⟨w.heap.size,0,none⟩=some (.int .u64 (xs 0:Nat)):=(hB1.cell (p:=⟨w.heap.size,0,none⟩) (by simp;omega)).trans (by go_cell);have a1:wc.cell? ⟨w.heap.size,1,none⟩=some (.int .u64 (xs 1:Nat)):=(hB1.cell (p:=⟨w.heap.size,1,none⟩) (by simp;omega)).trans (by go_cell);have a2:wc.cell? ⟨w.heap.size,2,none⟩=some (.int .u64 (xs 2:Nat)):=(hB1.cell (p:=⟨w.heap.size,2,none⟩) (by simp;omega)).trans (by go_cell);have a3:wc.cell? ⟨w.heap.size,3,none⟩=some (.int .u64 (xs 3:Nat)):=(hB1.cell (p:=⟨w.heap.size,3,none⟩) (by simp;omega)).trans (by go_cell);have a4:wc.cell? ⟨w.heap.size,4,none⟩=some (.int .u64 (xs 4:Nat)):=(hB1.cell (p:=⟨w.heap.size,4,none⟩) (by simp;omega)).trans (by go_cell);have a5:wc.cell? ⟨w.heap.size,5,none⟩=some (.int .u64 (xs 5:Nat)):=(hB1.cell (p:=⟨w.heap.size,5,none⟩) (by simp;omega)).trans (by go_cell);have a6:wc.cell? ⟨w.heap.size,6,none⟩=some (.int .u64 (xs 6:Nat)):=(hB1.cell (p:=⟨w.heap.size,6,none⟩) (by simp;omega)).trans (by go_cell);have a7:wc.cell? ⟨w.heap.size,7,none⟩=some (.int .u64 (xs 7:Nat)):=(hB1.cell (p:=⟨w.heap.size,7,none⟩) (by simp;omega)).trans (by go_cell)
  go_wp2_with fail
  refine(HR.out _).mono ?_;rintro e w2 ⟨rfl,hb⟩;have hsz:wc.heap.size<=w2.heap.size:=hb.size;have g0:w2.cell? ⟨w.heap.size,0,none⟩=some (.int .u64 (xs 0:Nat)):=(hb.cell (p:=⟨w.heap.size,0,none⟩) (by show w.heap.size<wc.heap.size;omega)).trans a0;have g1:w2.cell? ⟨w.heap.size,1,none⟩=some (.int .u64 (xs 1:Nat)):=(hb.cell (p:=⟨w.heap.size,1,none⟩) (by show w.heap.size<wc.heap.size;omega)).trans a1;have g2:w2.cell? ⟨w.heap.size,2,none⟩=some (.int .u64 (xs 2:Nat)):=(hb.cell (p:=⟨w.heap.size,2,none⟩) (by show w.heap.size<wc.heap.size;omega)).trans a2;have g3:w2.cell? ⟨w.heap.size,3,none⟩=some (.int .u64 (xs 3:Nat)):=(hb.cell (p:=⟨w.heap.size,3,none⟩) (by show w.heap.size<wc.heap.size;omega)).trans a3;have g4:w2.cell? ⟨w.heap.size,4,none⟩=some (.int .u64 (xs 4:Nat)):=(hb.cell (p:=⟨w.heap.size,4,none⟩) (by show w.heap.size<wc.heap.size;omega)).trans a4;have g5:w2.cell? ⟨w.heap.size,5,none⟩=some (.int .u64 (xs 5:Nat)):=(hb.cell (p:=⟨w.heap.size,5,none⟩) (by show w.heap.size<wc.heap.size;omega)).trans a5;have g6:w2.cell? ⟨w.heap.size,6,none⟩=some (.int .u64 (xs 6:Nat)):=(hb.cell (p:=⟨w.heap.size,6,none⟩) (by show w.heap.size<wc.heap.size;omega)).trans a6;have g7:w2.cell? ⟨w.heap.size,7,none⟩=some (.int .u64 (xs 7:Nat)):=(hb.cell (p:=⟨w.heap.size,7,none⟩) (by show w.heap.size<wc.heap.size;omega)).trans a7;obtain⟨y0,y1,y2,y3⟩:=cD.below hb hD2;have J4:=Lib.hid ((I4.out.below hB1 (by omega)).below hb (by omega));have J5:=Lib.hid ((I5.out.below hB1 (by omega)).below hb (by omega));have hB3:Below w.heap.size w w2:=hB2.trans (hb.mono (by omega));clear hb hB1 hB2 a0 a1 a2 a3 a4 a5 a6 a7 cD;have hDlt:D<w2.heap.size:=by omega
  have hwlt:w.heap.size<w2.heap.size:=by omega
  have hl5:w.heap.size+1+1+1<w2.heap.size:=J5.out.lt;have hDW:DivW w w2.heap.size (w2.heap.size+1) D (w2.heap.size+1+1) ds rs (fun _=>0) ((w2.alloc (.cells #[.int .u64 (rs 0:Nat),.int .u64 (rs 1:Nat),.int .u64 (rs 2:Nat),.int .u64 (rs 3:Nat),.int .u64 (rs 4:Nat),.int .u64 (rs 5:Nat),.int .u64 (rs 6:Nat),.int .u64 (rs 7:Nat),.int .u64 (rs 8:Nat)] 178)).alloc (.cells #[.int .u64 0,.int .u64 0,.int .u64 0,.int .u64 0,.int .u64 0,.int .u64 0,.int .u64 0,.int .u64 0] 168)) :=
   ⟨hB3.trans (Below.mono (B:=w2.heap.size) (by go_grown) (by omega)),by simp,(J4.out.alloc _).alloc _,(J5.out.alloc _).alloc _,
    upto9 (P:=fun j=>((w2.alloc (.cells #[.int .u64 (rs 0:Nat),.int .u64 (rs 1:Nat),.int .u64 (rs 2:Nat),.int .u64 (rs 3:Nat),.int .u64 (rs 4:Nat),.int .u64 (rs 5:Nat),.int .u64 (rs 6:Nat),.int .u64 (rs 7:Nat),.int .u64 (rs 8:Nat)] 178)).alloc (.cells #[.int .u64 0,.int .u64 0,.int .u64 0,.int .u64 0,.int .u64 0,.int .u64 0,.int .u64 0,.int .u64 0] 168)).cell? ⟨w2.heap.size,j,none⟩=some (.int .u64 (rs j:Nat))) (by go_cell) (by go_cell) (by go_cell) (by go_cell) (by go_cell) (by go_cell) (by go_cell) (by go_cell) (by go_cell) ,
    upto9 (P:=fun j=>((w2.alloc (.cells #[.int .u64 (rs 0:Nat),.int .u64 (rs 1:Nat),.int .u64 (rs 2:Nat),.int .u64 (rs 3:Nat),.int .u64 (rs 4:Nat),.int .u64 (rs 5:Nat),.int .u64 (rs 6:Nat),.int .u64 (rs 7:Nat),.int .u64 (rs 8:Nat)] 178)).alloc (.cells #[.int .u64 0,.int .u64 0,.int .u64 0,.int .u64 0,.int .u64 0,.int .u64 0,.int .u64 0,.int .u64 0] 168)).frozen? ⟨w2.heap.size,j,none⟩=false) (by go_cell) (by go_cell) (by go_cell) (by go_cell) (by go_cell) (by go_cell) (by go_cell) (by go_cell) (by go_cell) ,
    upto8 (P:=fun j=>((w2.alloc (.cells #[.int .u64 (rs 0:Nat),.int .u64 (rs 1:Nat),.int .u64 (rs 2:Nat),.int .u64 (rs 3:Nat),.int .u64 (rs 4:Nat),.int .u64 (rs 5:Nat),.int .u64 (rs 6:Nat),.int .u64 (rs 7:Nat),.int .u64 (rs 8:Nat)] 178)).alloc (.cells #[.int .u64 0,.int .u64 0,.int .u64 0,.int .u64 0,.int .u64 0,.int .u64 0,.int .u64 0,.int .u64 0] 168)).cell? ⟨w2.heap.size+1,j,none⟩=some (.int .u64 0)) (by go_cell) (by go_cell) (by go_cell) (by go_cell) (by go_cell) (by go_cell) (by go_cell) (by go_cell) ,
    upto8 (P:=fun j=>((w2.alloc (.cells #[.int .u64 (rs 0:Nat),.int .u64 (rs 1:Nat),.int .u64 (rs 2:Nat),.int .u64 (rs 3:Nat),.int .u64 (rs 4:Nat),.int .u64 (rs 5:Nat),.int .u64 (rs 6:Nat),.int .u64 (rs 7:Nat),.int .u64 (rs 8:Nat)] 178)).alloc (.cells #[.int .u64 0,.int .u64 0,.int .u64 0,.int .u64 0,.int .u64 0,.int .u64 0,.int .u64 0,.int .u64 0] 168)).frozen? ⟨w2.heap.size+1,j,none⟩=false) (by go_cell) (by go_cell) (by go_cell) (by go_cell) (by go_cell) (by go_cell) (by go_cell) (by go_cell) ,
    upto4 (P:=fun j=>((w2.alloc (.cells #[.int .u64 (rs 0:Nat),.int .u64 (rs 1:Nat),.int .u64 (rs 2:Nat),.int .u64 (rs 3:Nat),.int .u64 (rs 4:Nat),.int .u64 (rs 5:Nat),.int .u64 (rs 6:Nat),.int .u64 (rs 7:Nat),.int .u64 (rs 8:Nat)] 178)).alloc (.cells #[.int .u64 0,.int .u64 0,.int .u64 0,.int .u64 0,.int .u64 0,.int .u64 0,.int .u64 0,.int .u64 0] 168)).cell? ⟨D,j,none⟩=some (.int .u64 (ds j:Nat))) (by go_cell) (by go_cell) (by go_cell) (by go_cell) ⟩
  have HDW:=Lib.hid hDW;clear hDW;clear y0 y1 y2 y3
  go_wp2_with fail
  refine(HPa.out w.heap.size ((w2.alloc (.cells #[.int .u64 (rs 0:Nat),.int .u64 (rs 1:Nat),.int .u64 (rs 2:Nat),.int .u64 (rs 3:Nat),.int .u64 (rs 4:Nat),.int .u64 (rs 5:Nat),.int .u64 (rs 6:Nat),.int .u64 (rs 7:Nat),.int .u64 (rs 8:Nat)] 178)).alloc (.cells #[.int .u64 0,.int .u64 0,.int .u64 0,.int .u64 0,.int .u64 0,.int .u64 0,.int .u64 0,.int .u64 0] 168)) (by go_cell) (by go_cell) (by go_cell) (by go_cell) (by go_cell) (by go_cell) (by go_cell) (by go_cell)).mono ?_;rintro e w' ⟨rfl,rfl⟩;clear g0 g1 g2 g3 g4 g5 g6 g7;have hle:val rs 9=val (fun _=>0) 8*val ds n+val rs 9:=by rw[val_zero 8 (fun _ _=>rfl)];omega
  have HLE:=Lib.hid hle;clear hle
  go_wp2_with fail
  go_loopw [11] (fun iv wr=>∃(z:Int) (cur q:Nat->Nat),iv=.int .i64 z/\-4<=z/\z<=(m:Int) - n/\Hid (DivW w w2.heap.size (w2.heap.size+1) D (w2.heap.size+1+1) ds cur q wr/\(∀ j,j<9->cur j<18446744073709551616)/\(∀ j,j<8->q j<18446744073709551616)/\(∀ j,j<(z+1).toNat->q j=0)/\val q 8*val ds n+val cur 9=val rs 9/\val cur 9<val ds n*18446744073709551616^(z+1).toNat)) (fun iv _=>(intOf iv+5).toNat)
  case atStart =>
   refine⟨(m:Int) - n,rs,fun _=>0,rfl,by omega,by omega,Lib.hid ⟨HDW.out,HRL.out,fun _ _=>by show 0<_;omega,fun _ _=>rfl,HLE.out.symm,?_⟩⟩;rw[show((m:Int) - n+1).toNat=m+1 - n by omega];exact HST.out
  case round =>
   obtain⟨z,cur,q,rfl,hz0,hz1,H⟩:=hrel;by_cases hz:0<=z
   ·obtain⟨i,rfl⟩:=Int.eq_ofNat_of_zero_le hz
    have hi4:(i:Int)+n<=8:=by omega
    have hi8:(i:Int)<8:=by omega
    have w1:IntKind.i64.wrap ((i:Int)+n)=(i:Int)+n:=IntWalk.i64_in _ (by omega);have w2':IntKind.i64.wrap ((i:Int)+n+1)=(i:Int)+n+1:=IntWalk.i64_in _ (by omega);have w3:IntKind.i64.wrap (i:Int)=(i:Int):=IntWalk.i64_in _ (by omega);have w4:IntKind.i64.wrap (n:Int)=(n:Int):=IntWalk.i64_in _ (by omega);have sl9:=fun w=>slice9 w2.heap.size i n (by omega) w;have sl4:=fun w=>slice4 D n (by omega) w;have hD1:0<val ds n:=by
     have h1:=val_ge ds k;have h2:=Nat.mul_pos (Nat.pow_pos (n:=k) (show 0<18446744073709551616 by omega)) (show 0<ds k by have:=HDK.out;omega);rw[HN.out];omega
    have hDn:val ds n<=18446744073709551616^n:=by rw[HN.out];exact Nat.le_of_lt (val_lt HDL.out)
    have hlt9:val cur 9<val ds n*18446744073709551616^(i+1):=by have:=H.out.2.2.2.2.2;rwa [show((i:Int)+1).toNat=i+1 by omega]at this
    have htk:=div_take (i:=i) hDn (by omega) hlt9;have hcall:=step_any w2.heap.size i (9 - i) D 4 k (fun j=>cur (i+j)) ds (by omega) (fun j hj=>H.out.2.1 _ (by have:=HN.out;omega)) HDL.out HDK.out (by rw[show k+2=n+1 by rw[HN.out],<- HN.out];exact htk.2.2) (by omega) wr.drew (fun j hj=>H.out.1.rest _ (by have:=HN.out;omega)) (fun j hj=>H.out.1.restf _ (by have:=HN.out;omega)) (fun j hj=>H.out.1.by_ _ (by omega));rw[<- HN.out]at hcall;have HCA:=Lib.hid hcall;clear hcall;have HD1:=Lib.hid hD1;clear hD1;have HDn:=Lib.hid hDn;clear hDn;have HLT:=Lib.hid hlt9;clear hlt9 htk;have hqc:∀ w3,But w2.heap.size wr.drew w3->w3.cell? ⟨w2.heap.size+1,i,none⟩=some (.int .u64 (q i:Nat))/\w3.frozen? ⟨w2.heap.size+1,i,none⟩=false:=fun w3 hb =>
     ⟨(hb.cell (p:=⟨w2.heap.size+1,i,none⟩) (by show w2.heap.size+1≠w2.heap.size;omega)).trans (H.out.1.quo i (by omega)),(World.frozen?_of_block (w:=wr.drew) (a:=⟨w2.heap.size+1,i,none⟩) (hb.block (w2.heap.size+1) (by omega))).trans (H.out.1.quof i (by omega))⟩
    have HQC:=Lib.hid hqc;clear hqc;clear hz
    go_wp2_with fail
    go_region_with (go_at_call 149;refine HCA.out.mono ?_;rintro e w3 ⟨ns,rfl,hn1,hn2,hn3⟩;obtain⟨cq,fq⟩:=HQC.out _ hn3.1;have HN1:=Lib.hid hn1;have HN2:=Lib.hid hn2;have HN3:=Lib.hid hn3;clear hn1 hn2 hn3)
    go_wp2_with fail
    go_roundw
    case rel =>
     obtain⟨e1,e2,e3⟩:=div_round (q:=q) (ns:=ns) H.out.2.1 HD1.out HDn.out (by omega) (by omega) HLT.out H.out.2.2.2.2.1 (H.out.2.2.2.1 i (by omega)) rfl HN2.out;have hstep:=H.out.1.drew.step (part:=val (fun j=>cur (i+j)) (n+1) / val ds n) HN3.out (by omega) (by omega) (by omega) (by omega) (by omega) hl5 (by omega);rw[Int.natCast_ediv]at hstep;refine⟨(i:Int) - 1,curN cur ns i n,quoN q i (val (fun j=>cur (i+j)) (n+1) / val ds n),rfl,by omega,by omega,Lib.hid ⟨hstep,fun j hj=>?_,fun j hj=>?_,fun j hj=>?_,e1,?_⟩⟩
     ·unfold curN;split
      ·exact HN1.out _ (by omega)
      ·exact H.out.2.1 j hj
     ·unfold quoN;split
      ·exact e3
      ·exact H.out.2.2.1 j hj
     ·unfold quoN;rw[if_neg (by omega)];exact H.out.2.2.2.1 j (by omega)
     ·rw[show((i:Int) - 1+1).toNat=i by omega];exact e2
    case measure=>simp[intOf];omega
   ·have hend:val cur 9<val ds n:=by have:=H.out.2.2.2.2.2;rwa [show(z+1).toNat=0 by omega,Nat.pow_zero,Nat.mul_one]at this
    have HE:=Lib.hid hend;clear hend;have hlt:z<0:=by omega
    have hzf:decide (0<=z)=false:=by rw[decide_eq_false_iff_not];exact hz
    go_wp2_with fail
    have hat:=arrayAt4;have hcl:ClQ w w2.heap.size (w2.heap.size+1) cur q wr.drew:=⟨H.out.1.below.drew,H.out.1.r4,H.out.1.r5,H.out.1.quo,H.out.1.rest,by show w2.heap.size+1<wr.heap.size;rw[H.out.1.size];omega,by show w2.heap.size<wr.heap.size;rw[H.out.1.size];omega⟩
    refine region_quiet_tail 8 (ClQ w w2.heap.size (w2.heap.size+1) cur q) (by kernel_rfl) (by kernel_rfl) hcl ?_;simp only[List.take_succ_cons,List.take_zero,List.drop_succ_cons,List.drop_zero];clear hcl;refine wpQuiet_step (fun K hK=>?_);rw[if_pos (by rfl)];refine⟨.agg #[.int .u64 (q 0:Nat),.int .u64 (q 1:Nat),.int .u64 (q 2:Nat),.int .u64 (q 3:Nat),.int .u64 (q 4:Nat),.int .u64 (q 5:Nat),.int .u64 (q 6:Nat),.int .u64 (q 7:Nat)],fun wx hC=>?_,hK _ ?_⟩
    ·obtain⟨q0,q1,q2,q3,q4,q5,q6,q7⟩:=hC.quos
     clear hC
     go_simp
    clear hK K;refine wpQuiet_step (fun K hK=>?_)
    go_simp
    refine⟨_,fun _ _=>rfl,hK _ ?_⟩;clear hK K;refine wpQuiet_step (fun K hK=>?_)
    go_simp
    refine⟨_,fun _ _=>rfl,hK _ ?_⟩;clear hK K;refine wpQuiet_step (fun K hK=>?_);rw[if_pos (by rfl)];refine⟨.agg #[.int .u64 (s:Nat),.int .u64 0,.int .u64 0,.int .u64 0],fun wx hC=>?_,hK _ ?_⟩
    ·go_simp
     refine(HOF.out _).mono ?_;rintro e w' ⟨rfl,rfl⟩;exact⟨rfl,hC.grown (by go_grown)⟩
    clear hK K;refine wpQuiet_step (fun K hK=>?_)
    go_simp
    refine⟨_,fun _ _=>rfl,hK _ ?_⟩;clear hK K;refine wpQuiet_step (fun K hK=>?_)
    go_simp
    refine⟨_,fun _ _=>rfl,hK _ ?_⟩;clear hK K;refine wpQuiet_step (fun K hK=>?_);rw[if_pos (by rfl)];refine⟨.agg #[.int .u64 (cur 0:Nat),.int .u64 (cur 1:Nat),.int .u64 (cur 2:Nat),.int .u64 (cur 3:Nat)],fun wx hC=>?_,hK _ ?_⟩
    ·obtain⟨c0,c1,c2,c3⟩:=hC.rests
     clear hC
     go_simp
    clear hK K;refine wpQuiet_step (fun K hK=>?_);rw[if_pos (by rfl)];refine⟨.agg #[.int .u64 (sr cur 0:Nat),.int .u64 (sr cur 1:Nat),.int .u64 (sr cur 2:Nat),.int .u64 (sr cur 3:Nat)],fun wx hC=>?_,hK _ ?_⟩
    ·go_simp
     refine(HSR.out _ H.out.2.1 _).mono ?_;rintro e w' ⟨rfl,hb⟩;exact⟨rfl,hC.grown hb⟩
    clear hK K;refine wpQuiet_nil ?_;intro wx hC;have h4:=hC.r4;have h5:=hC.r5;have hB:=Lib.hid hC.below;clear hC;obtain⟨⟨c0,c1,c2,c3,c4,c5,c6,c7⟩,⟨e0,e1,e2,e3,e4,e5,e6,e7⟩⟩:=h4.z8;obtain⟨⟨k0,k1,k2,k3⟩,⟨l0,l1,l2,l3⟩⟩:=h5.z4;have hlt4:=h4.lt;have hlt5:=h5.lt;clear h4 h5;go_wp2;refine bodyPost_ret (v:=.tuple #[.agg #[.int .u64 (q 0:Nat),.int .u64 (q 1:Nat),.int .u64 (q 2:Nat),.int .u64 (q 3:Nat),.int .u64 (q 4:Nat),.int .u64 (q 5:Nat),.int .u64 (q 6:Nat),.int .u64 (q 7:Nat)],.agg #[.int .u64 (sr cur 0:Nat),.int .u64 (sr cur 1:Nat),.int .u64 (sr cur 2:Nat),.int .u64 (sr cur 3:Nat)]]) (by simp[results,Tryz.results139,go_sem,c0,c1,c2,c3,c4,c5,c6,c7,k0,k1,k2,k3];try rfl) rfl ⟨cur,q,rfl,H.out.2.1,H.out.2.2.1,H.out.2.2.2.2.1,HE.out,?_⟩;have hB2:=hB.out;go_grown
open Go.RowKit
theorem wv_one{x:Nat}(h:x<18446744073709551616):wv x=.agg #[.int .u64 x,.int .u64 0,.int .u64 0,.int .u64 0]:=by
 have:=wv_n4 (a0:=x) (a1:=0) (a2:=0) (a3:=0) h (by omega) (by omega) (by omega);rw[show n4 x 0 0 0=x by unfold n4;omega]at this;exact this
open Go.RowKit
def pd(x j:Nat):Nat:=x / 18446744073709551616^j%18446744073709551616
theorem pd_lt(x j:Nat):pd x j<18446744073709551616:=Nat.mod_lt _ (by omega)
theorem val_pd(x:Nat):∀ n,val (pd x) n=x%18446744073709551616^n
 | 0=>by simp[val,Nat.mod_one]
 | n+1=>by rw[val,val_pd x n,Nat.pow_succ,Nat.mod_mul];rfl
theorem val_one(f:Nat->Nat):val f 1=f 0:=by simp[val]
theorem pd_val{f:Nat->Nat}{n:Nat}(h:∀ j,j<n->f j<18446744073709551616)(j:Nat)(hj:j<n):pd (val f n) j=f j:=by
 obtain⟨e,rfl⟩:∃ e,n=j+(1+e):=⟨n - j - 1,by omega⟩
 have h1:=val_lt (f:=f) (n:=j) (fun i hi=>h i (by omega));have h2:=h j (by omega);unfold pd;rw[val_split,val_split (fun i=>f (j+i)) 1 e,val_one,Nat.add_comm,Nat.mul_add_div (Nat.pow_pos (by omega)),Nat.div_eq_of_lt h1,Nat.pow_one];simp only[Nat.add_zero];omega
theorem pd_top{x n:Nat}(h:x<18446744073709551616^n):pd x n=0:=by unfold pd;rw[Nat.div_eq_of_lt h]
theorem wv_row(x:Nat):wv x=.agg #[.int .u64 (pd x 0:Nat),.int .u64 (pd x 1:Nat),.int .u64 (pd x 2:Nat),.int .u64 (pd x 3:Nat)]:=by
 unfold wv pd;simp only[Nat.pow_zero,Nat.div_one,Nat.pow_one,show 18446744073709551616^2=340282366920938463463374607431768211456 by rfl,show 18446744073709551616^3=6277101735386680763835789423207666416102355444464034512896 by rfl]
theorem dv_row(x:Nat):dv x=.agg #[.int .u64 (pd x 0:Nat),.int .u64 (pd x 1:Nat),.int .u64 (pd x 2:Nat),.int .u64 (pd x 3:Nat),.int .u64 (pd x 4:Nat),.int .u64 (pd x 5:Nat),.int .u64 (pd x 6:Nat),.int .u64 (pd x 7:Nat)]:=by
 unfold dv pd;simp only[Nat.pow_zero,Nat.div_one,Nat.pow_one,show 18446744073709551616^2=340282366920938463463374607431768211456 by rfl,show 18446744073709551616^3=6277101735386680763835789423207666416102355444464034512896 by rfl,show 18446744073709551616^4=2^256 by rfl,show 18446744073709551616^5=2135987035920910082395021706169552114602704522356652769947041607822219725780640550022962086936576 by rfl,show 18446744073709551616^6=39402006196394479212279040100143613805079739270465446667948293404245721771497210611414266254884915640806627990306816 by rfl,show 18446744073709551616^7=726838724295606890549323807888004534353641360687318060281490199180639288113397923326191050713763565560762521606266177933534601628614656 by rfl]
theorem raise_num{A s t:Nat}(h:s+t=64)(j:Nat):pd A (j+1)*2^s%18446744073709551616+pd A j / 2^t=pd (A*2^s) (j+1):=by
 have hD:=pow_split h;have hc:=cmb_lt (p:=pd A (j+1)) (q:=pd A j) (pd_lt A j) h;have hS:=Nat.two_pow_pos s;have hT:=Nat.two_pow_pos t;have e1:A*2^s / 18446744073709551616^(j+1)=A / 18446744073709551616^j / 2^t:=by
  rw[Nat.pow_succ,<- hD,Nat.mul_comm (2^s),<- Nat.mul_assoc,Nat.mul_div_mul_right _ _ hS,Nat.div_div_eq_div_mul]
 have e2:A / 18446744073709551616^(j+1)=A / 18446744073709551616^j / 18446744073709551616:=by rw[Nat.pow_succ,Nat.div_div_eq_div_mul]
 unfold pd at hc |-
 rw[e2,Nat.mod_mul_mod]at hc;rw[e1,e2,Nat.mod_mul_mod];generalize A / 18446744073709551616^j=Y at *;have e3:Y / 2^t=Y / 18446744073709551616*2^s+Y%18446744073709551616 / 2^t:=by
  have h1:=Nat.div_add_mod Y 18446744073709551616;have h2:Y / 2^t=(18446744073709551616*(Y / 18446744073709551616)+Y%18446744073709551616) / 2^t:=by rw[h1]
  rw[h2];generalize Y%18446744073709551616=y;generalize Y / 18446744073709551616=Z;rw[<- hD,Nat.mul_comm (2^s),Nat.mul_assoc,Nat.mul_add_div hT,Nat.mul_comm]
 rw[e3,Nat.add_mod,Nat.mod_eq_of_lt (a:=Y%18446744073709551616 / 2^t) (Nat.lt_of_le_of_lt (Nat.div_le_self _ _) (Nat.mod_lt _ (by omega)))];exact(Nat.mod_eq_of_lt hc).symm
theorem raise_low(A s:Nat):pd A 0*2^s%18446744073709551616=pd (A*2^s) 0:=by
 unfold pd;rw[Nat.pow_zero,Nat.div_one,Nat.div_one,Nat.mod_mul_mod]
theorem raise_any(A s:Nat)(hs:s<64)(hA:A<18446744073709551616^8)(w:World):Calls Tryz.prog 148 #[.agg #[.int .u64 (pd A 0:Nat),.int .u64 (pd A 1:Nat),.int .u64 (pd A 2:Nat),.int .u64 (pd A 3:Nat),.int .u64 (pd A 4:Nat),.int .u64 (pd A 5:Nat),.int .u64 (pd A 6:Nat),.int .u64 (pd A 7:Nat)],.int .i64 (s:Nat)] w fun e w'=>e=.returned (.agg #[.int .u64 (pd (A*2^s) 0:Nat),.int .u64 (pd (A*2^s) 1:Nat),.int .u64 (pd (A*2^s) 2:Nat),.int .u64 (pd (A*2^s) 3:Nat),.int .u64 (pd (A*2^s) 4:Nat),.int .u64 (pd (A*2^s) 5:Nat),.int .u64 (pd (A*2^s) 6:Nat),.int .u64 (pd (A*2^s) 7:Nat),.int .u64 (pd (A*2^s) 8:Nat)])/\Below w.heap.size w w':=by
 obtain⟨t,ht⟩:∃ t,s+t=64:=⟨64 - s,by omega⟩
 have h:=raise_walk (pd A 0) (pd A 1) (pd A 2) (pd A 3) (pd A 4) (pd A 5) (pd A 6) (pd A 7) s t (by omega) (by omega) (by omega) w;have e:∀ j,bits .or .u64 ((pd A j:Int) / 2^t) (IntKind.u64.wrap ((pd A (j+1):Int)*2^s))=((pd (A*2^s) (j+1):Nat):Int):=fun j=>by
  rw[cmb_down (p:=pd A j) (q:=pd A (j+1)) (s:=t) (t:=s) (pd_lt _ _) (by omega),Nat.add_comm,raise_num ht]
 have e0:bits .or .u64 0 (IntKind.u64.wrap ((pd A 0:Int)*2^s))=((pd (A*2^s) 0:Nat):Int):=by
  have:=cmb_down (p:=0) (q:=pd A 0) (s:=t) (t:=s) (by omega) (by omega);rw[Nat.zero_div,Nat.zero_add,raise_low]at this;have h0:(((0:Nat):Int) / 2^t)=0:=by simp
  rwa [h0]at this
 have e8:(pd A 7:Int) / 2^t=((pd (A*2^s) 8:Nat):Int):=by
  rw[<- raise_num ht 7,pd_top hA,Nat.zero_mul,Nat.zero_mod,Nat.zero_add];simp
 rw[e0,e 0,e 1,e 2,e 3,e 4,e 5,e 6,e8]at h;exact h
theorem divide_zero(A:Nat)(w:World):Calls Tryz.prog 139 #[.agg #[.int .u64 (pd A 0:Nat),.int .u64 (pd A 1:Nat),.int .u64 (pd A 2:Nat),.int .u64 (pd A 3:Nat),.int .u64 (pd A 4:Nat),.int .u64 (pd A 5:Nat),.int .u64 (pd A 6:Nat),.int .u64 (pd A 7:Nat)],.agg #[.int .u64 0,.int .u64 0,.int .u64 0,.int .u64 0]] w fun e w'=>e=.returned (.tuple #[.agg #[.int .u64 0,.int .u64 0,.int .u64 0,.int .u64 0,.int .u64 0,.int .u64 0,.int .u64 0,.int .u64 0],.agg #[.int .u64 0,.int .u64 0,.int .u64 0,.int .u64 0]])/\Below w.heap.size w w':=by
 have hp:∀(B:Nat) (w:World),w.cell? ⟨B,0,none⟩=some (.int .u64 0)->w.cell? ⟨B,1,none⟩=some (.int .u64 0)->w.cell? ⟨B,2,none⟩=some (.int .u64 0)->w.cell? ⟨B,3,none⟩=some (.int .u64 0)->Calls Tryz.prog 145 #[.slice (some ⟨B,0,none⟩) 4 4] w fun e w'=>e=.returned (.int .i64 0)/\w=w':=fun B w c0 c1 c2 c3 =>
  parts_any B 0 4 4 (fun _=>0) (by omega) w (upto4 (P:=fun j=>w.cell? ⟨B,0+j,none⟩=some (.int .u64 0)) c0 c1 c2 c3)
 go_enter Tryz.func139,Tryz.ntmps139
 go_wp2_with fail
 refine(hp (w.heap.size+1) _ (by go_cell) (by go_cell) (by go_cell) (by go_cell)).mono ?_;rintro e w' ⟨rfl,rfl⟩;go_wp2
 go_returns
 exact⟨rfl,by go_grown⟩
theorem top_part{B n:Nat}(hB:B≠0)(h4:B<18446744073709551616^4)(hn:n=np (pd B) 4):∃ k,k<=3/\n=k+1/\pd B k≠0/\B<18446744073709551616^(k+1)/\B=val (pd B) (k+1):=by
 obtain⟨h1,h2,h3⟩:=np_spec (pd B) 4;have hv:val (pd B) 4=B:=by rw[val_pd,Nat.mod_eq_of_lt h4]
 have hn0:0<np (pd B) 4:=by
  rcases Nat.eq_zero_or_pos (np (pd B) 4)with h | h
  ·rw[h]at h2
   have:=val_zero (f:=pd B) 4 (fun j hj=>h2 j (by omega) hj);omega
  ·exact h
 refine⟨np (pd B) 4 - 1,by omega,by omega,h3 hn0,?_,?_⟩
 ·have:=val_lt (f:=pd B) (n:=np (pd B) 4) (fun j _=>pd_lt _ _)
  rw[<- val_top h1 h2,hv]at this;rwa [show np (pd B) 4 - 1+1=np (pd B) 4 by omega]
 ·rw[show np (pd B) 4 - 1+1=np (pd B) 4 by omega,<- val_top h1 h2,hv]
theorem raised{B k s:Nat}(hb:pd B k≠0)(hB:B<18446744073709551616^(k+1))(hs:s=64 - Lib.bitLen (pd B k)):s<64/\s+Lib.bitLen (pd B k)=64/\B*2^s<18446744073709551616^(k+1)/\9223372036854775808<=pd (B*2^s) k:=by
 obtain⟨h1,h2,h3⟩:=bitLen_bounds (pd B k) (pd_lt _ _) hb;have h4:Lib.bitLen (pd B k)<=64:=by
  rcases Nat.lt_or_ge 64 (Lib.bitLen (pd B k))with h | h
  ·have:=Nat.pow_le_pow_right (n:=2) (by omega) (show 64<=Lib.bitLen (pd B k) - 1 by omega)
   have:=pd_lt B k;omega
  ·exact h
 have hk:pd B k=B / 18446744073709551616^k:=by
  unfold pd;rw[Nat.mod_eq_of_lt];rw[Nat.div_lt_iff_lt_mul (Nat.pow_pos (by omega)),Nat.mul_comm,<- Nat.pow_succ];exact hB
 have h5:B<18446744073709551616^k*2^Lib.bitLen (pd B k):=by
  have:=Nat.div_add_mod B (18446744073709551616^k);have hm:=Nat.mod_lt B (Nat.pow_pos (n:=k) (show 0<18446744073709551616 by omega));rw[<- hk]at this;have h6:18446744073709551616^k*(pd B k+1)<=18446744073709551616^k*2^Lib.bitLen (pd B k):=Nat.mul_le_mul_left _ h3;rw[Nat.mul_add,Nat.mul_one]at h6;generalize 18446744073709551616^k*2^Lib.bitLen (pd B k)=u at *;generalize 18446744073709551616^k*pd B k=v at *;generalize 18446744073709551616^k=y at *;omega
 have h6:18446744073709551616^k*2^(Lib.bitLen (pd B k) - 1)<=B:=by
  have:=Nat.div_mul_le_self B (18446744073709551616^k);rw[<- hk]at this;refine Nat.le_trans ?_ this;rw[Nat.mul_comm];exact Nat.mul_le_mul_right _ h2
 have e64:s+Lib.bitLen (pd B k)=64:=by omega
 have hp:=Nat.two_pow_pos s;have h7:B*2^s<18446744073709551616^(k+1):=by
  have:=Nat.mul_lt_mul_of_pos_right h5 hp;rw[Nat.mul_assoc,<- Nat.pow_add,show Lib.bitLen (pd B k)+s=64 by omega,show(2:Nat)^64=18446744073709551616 by rfl,<- Nat.pow_succ]at this;exact this
 refine⟨by omega,e64,h7,?_⟩;have h8:18446744073709551616^k*9223372036854775808<=B*2^s:=by
  have:=Nat.mul_le_mul_right (2^s) h6;rw[Nat.mul_assoc,<- Nat.pow_add,show Lib.bitLen (pd B k) - 1+s=63 by omega,show(2:Nat)^63=9223372036854775808 by rfl]at this;exact this
 unfold pd;rw[Nat.mod_eq_of_lt (by rw[Nat.div_lt_iff_lt_mul (Nat.pow_pos (by omega)),Nat.mul_comm 18446744073709551616,<- Nat.pow_succ];exact h7),Nat.le_div_iff_mul_le (Nat.pow_pos (by omega)),Nat.mul_comm];exact h8
theorem divide_row(A B:Nat)(hA:A<18446744073709551616^8)(hB:B≠0)(h4:B<18446744073709551616^4)(w:World):Calls Tryz.prog 139 #[.agg #[.int .u64 (pd A 0:Nat),.int .u64 (pd A 1:Nat),.int .u64 (pd A 2:Nat),.int .u64 (pd A 3:Nat),.int .u64 (pd A 4:Nat),.int .u64 (pd A 5:Nat),.int .u64 (pd A 6:Nat),.int .u64 (pd A 7:Nat)],.agg #[.int .u64 (pd B 0:Nat),.int .u64 (pd B 1:Nat),.int .u64 (pd B 2:Nat),.int .u64 (pd B 3:Nat)]] w fun e w'=>e=.returned (.tuple #[dv (A / B),wv (A%B)])/\Below w.heap.size w w':=by
 obtain⟨n,hn⟩:∃ n,n=np (pd B) 4:=⟨_,rfl⟩
 obtain⟨m,hm⟩:∃ m,m=np (pd A) 8:=⟨_,rfl⟩
 obtain⟨k,hk,hnk,hbk,hBk,hBv⟩:=top_part hB h4 hn;obtain⟨s,hs⟩:∃ s,s=64 - Lib.bitLen (pd B k):=⟨_,rfl⟩
 obtain⟨s1,s2,s3,s4⟩:=raised hbk hBk hs;obtain⟨m1,m2,-⟩:=np_spec (pd A) 8;rw[<- hm]at m1 m2;have vA:val (pd A) 8=A:=by rw[val_pd,Nat.mod_eq_of_lt hA]
 have vA2:val (pd A) m=A:=by rw[<- val_top m1 m2,vA]
 have k4:18446744073709551616^(k+1)<=18446744073709551616^4:=Nat.pow_le_pow_right (by omega) (by omega);have s5:B*2^s<18446744073709551616^4:=Nat.lt_of_lt_of_le s3 k4;have vD:val (pd (B*2^s)) n=B*2^s:=by rw[hnk,val_pd,Nat.mod_eq_of_lt s3]
 have hA9:A*2^s<18446744073709551616^9:=by
  have h1:2^s<=2^64:=Nat.pow_le_pow_right (by omega) (by omega);have h2:A*2^s<=A*18446744073709551616:=Nat.mul_le_mul_left _ h1;have h3:A*18446744073709551616<18446744073709551616^8*18446744073709551616:=Nat.mul_lt_mul_of_pos_right hA (by omega);rw[<- Nat.pow_succ]at h3;exact Nat.lt_of_le_of_lt h2 h3
 have vR:val (pd (A*2^s)) 9=A*2^s:=by rw[val_pd,Nat.mod_eq_of_lt hA9]
 have hP4:18446744073709551616^4=2^256:=by rfl
 have hw:=divide_walk (pd A) (pd B) (pd (B*2^s)) (pd (A*2^s)) (fun cur=>pd (val cur 4 / 2^s)) n k m s hk hnk m1 s1 w
  (fun B' w c0 c1 c2 c3=>by
   have:=parts_any B' 0 4 4 (pd B) (by omega) w (upto4 (P:=fun j=>w.cell? ⟨B',0+j,none⟩=some (.int .u64 (pd B j:Nat))) c0 c1 c2 c3);rw[<- hn]at this;exact this)
  (fun w=>(Tryz.bits_LeadingZeros64 (pd B k:Nat) w (by omega) (by have:=pd_lt B k;omega)).mono fun e w' ⟨he,hw⟩=>⟨by rw[he,Int.toNat_natCast,show(64:Int) - (Lib.bitLen (pd B k):Int)=((s:Nat):Int) by omega],hw.symm⟩)
  (fun w=>by
   have h:=shl_any s B w;rw[show min (s%2^256) 256=s by omega,wv_one (x:=s) (by omega),wv_row B,wv_row (B*2^s)]at h;exact h)
  (fun w=>raise_any A s s1 hA w)
  (fun B' w c0 c1 c2 c3 c4 c5 c6 c7=>by
   have:=parts_any B' 0 8 8 (pd A) (by omega) w (upto8 (P:=fun j=>w.cell? ⟨B',0+j,none⟩=some (.int .u64 (pd A j:Nat))) c0 c1 c2 c3 c4 c5 c6 c7);rw[<- hm]at this;exact this)
  (fun cur hc w=>by
   have hv:=val_lt (f:=cur) (n:=4) (fun j hj=>hc j (by omega));have h:=shr_any s (val cur 4) w;rw[show min (s%2^256) 256=s by omega,wv_one (x:=s) (by omega),wv_row (val cur 4),wv_row (_ / _),Nat.mod_eq_of_lt (show val cur 4<2^256 by rw[<- hP4];exact hv)]at h;rw[pd_val (n:=4) (fun j hj=>hc j (by omega)) 0 (by omega),pd_val (n:=4) (fun j hj=>hc j (by omega)) 1 (by omega),pd_val (n:=4) (fun j hj=>hc j (by omega)) 2 (by omega),pd_val (n:=4) (fun j hj=>hc j (by omega)) 3 (by omega)]at h;exact h)
  (fun j _=>pd_lt _ _) (fun j _=>pd_lt _ _) s4
  (by
   have:=div_start (a:=pd A) (b:=pd B) (m:=m) (n:=n) (s:=s) (c:=m+1 - n) (fun j _=>pd_lt _ _) (by rw[hnk];exact hbk) (by omega) (by omega);rw[vA2,hnk,<- hBv,<- hnk]at this;rw[vR,vD];exact this)
 refine hw.mono ?_;rintro e w' ⟨cur,q,rfl,hc,hq,h1,h2,hb⟩;rw[vD]at h1 h2;rw[vR]at h1;obtain⟨h5,h6⟩:=div_end rfl h1 h2;have h7:val cur 9=val cur 4:=val_top (by omega) (fun j h8 h9=>val_ztop (Nat.lt_trans h2 s5) j h8 h9);refine⟨?_,hb⟩;rw[wv_row,<- h6,h7,dv_row,<- h5];rw[pd_val hq 0 (by omega),pd_val hq 1 (by omega),pd_val hq 2 (by omega),pd_val hq 3 (by omega),pd_val hq 4 (by omega),pd_val hq 5 (by omega),pd_val hq 6 (by omega),pd_val hq 7 (by omega)]
-- WHAT divide COMES TO.
theorem divide_any(A B:Nat)(hA:A<13407807929942597099574024998205846127479365820592393377723561443721764030073546976801874298166903427690031858186486050853753882811946569946433649006084096)(hB:B≠0)(h4:B<2^256)(w:World):Calls Tryz.prog 139 #[dv A,wv B] w fun e w'=>e=.returned (.tuple #[dv (A / B),wv (A%B)])/\Below w.heap.size w w':=by
 rw[dv_row A,wv_row B];exact divide_row A B (by rw[show 18446744073709551616^8=13407807929942597099574024998205846127479365820592393377723561443721764030073546976801874298166903427690031858186486050853753882811946569946433649006084096 by rfl];exact hA) hB (by rw[show 18446744073709551616^4=2^256 by rfl];exact h4) w
theorem divide_none(A:Nat)(w:World):Calls Tryz.prog 139 #[dv A,wv 0] w fun e w'=>e=.returned (.tuple #[dv 0,wv 0])/\Below w.heap.size w w':=by
 rw[dv_row A];exact divide_zero A w
end Go.Proofs.YtadfjjfklihaaaaGreat
