/- What word.Shl comes to. (Cut to what is reached, written closely: Small · Steps · Cells · Bytes · Dg · Sum · ShiftNum · Shl.) -/
import Derived.Test.YtadfjjfklihaaaaGreatP4
import Derived.Deep.QuietTactic
import Derived.BigQuiet
import Derived.Test.YtadfjjfklihaaaaGreatProg
import Derived.Test.YtadfjjfklihaaaaGreatP2
import Derived.WalkKit
import Derived.WalkSpells
import Derived.WalkLawsBesides
import Derived.LoopN
import Derived.Handy
import Derived.Outline
import Derived.RegionTactic
import Derived.BigRegion
import Derived.Lib.Hide
import Derived.Test.YtadfjjfklihaaaaGreatP3
import Derived.Laws.Rows
import Derived.Laws.Tables
import Derived.Laws.CopyOwn
import Derived.Laws.Bits64b
import Derived.Laws.OwnMore
import Derived.Deep.AppendLies
import Derived.StillTailTactics
set_option linter.all false
set_option maxRecDepth 100000
set_option maxHeartbeats 8000000
namespace Go.Proofs.YtadfjjfklihaaaaGreat
open Go.RowKit
theorem of_exact(n:Nat)(w:World) :
  Calls Tryz.prog 69 #[.int .u64 n] w fun e w'=>e=.returned (.agg #[.int .u64 n,.int .u64 0,.int .u64 0,.int .u64 0])/\w.alloc (.cells #[.int .u64 n,.int .u64 0,.int .u64 0,.int .u64 0] 24)=w':=by
 go_enter Tryz.func69,Tryz.ntmps69;go_wp2
 go_returns
 exact⟨rfl,rfl⟩
theorem small_yes(a0:Nat)(w:World) :
  Calls Tryz.prog 161 #[.agg #[.int .u64 a0,.int .u64 0,.int .u64 0,.int .u64 0]] w fun e w'=>e=.returned (.tuple #[.int .u64 a0,.bool true])/\Below w.heap.size w w':=by
 have he:∀ w,(Op.equalIn 10000 24 (.agg #[.int .u64 a0,.int .u64 0,.int .u64 0,.int .u64 0]) (.agg #[.int .u64 a0,.int .u64 0,.int .u64 0,.int .u64 0])).run Tryz.prog w=.ok true w:=fun w=>by
  have:=eqW a0 0 0 0 a0 0 0 0 w;simpa using this
 go_enter Tryz.func161,Tryz.ntmps161;go_wp2
 go_region_with (go_at_call 69;refine(of_exact a0 _).mono ?_;rintro e w' ⟨rfl,rfl⟩)
 all_goals go_wp2
 all_goals (go_ret2;exact⟨rfl,by go_grown⟩)
theorem small_no(a0 a1 a2 a3:Nat)(h:¬(a1=0/\a2=0/\a3=0))(w:World) :
  Calls Tryz.prog 161 #[.agg #[.int .u64 a0,.int .u64 a1,.int .u64 a2,.int .u64 a3]] w fun e w'=>e=.returned (.tuple #[.int .u64 0,.bool false])/\Below w.heap.size w w':=by
 have he:∀ w,(Op.equalIn 10000 24 (.agg #[.int .u64 a0,.int .u64 a1,.int .u64 a2,.int .u64 a3]) (.agg #[.int .u64 a0,.int .u64 0,.int .u64 0,.int .u64 0])).run Tryz.prog w=.ok false w:=fun w=>by
  have:=eqW a0 a1 a2 a3 a0 0 0 0 w;have hf:(a0 == a0&&(a1 == 0&&(a2 == 0&&a3 == 0)))=false:=by simpa using h
  rw[hf]at this;exact this
 clear h;go_enter Tryz.func161,Tryz.ntmps161;go_wp2
 go_region_with (go_at_call 69;refine(of_exact a0 _).mono ?_;rintro e w' ⟨rfl,rfl⟩)
 all_goals go_wp2
 all_goals (go_ret2;exact⟨rfl,by go_grown⟩)
open Go.RowKit
-- WHAT Small COMES TO.
theorem small_any(x:Nat)(w:World) :
  Calls Tryz.prog 161 #[wv x] w fun e w'=>e=.returned (.tuple #[.int .u64 ((if x%2^256<18446744073709551616 then x%2^256 else 0:Nat):Int),.bool (decide (x%2^256<18446744073709551616))])/\Below w.heap.size w w':=by
 obtain⟨a0,a1,a2,a3,u0,u1,u2,u3,ea,na⟩:=wv_parts x;rw[ea,<- na];by_cases h:a1=0/\a2=0/\a3=0
 ·obtain⟨rfl,rfl,rfl⟩:=h
  have e:n4 a0 0 0 0=a0:=by unfold n4;omega
  rw[e,if_pos u0,decide_eq_true u0];exact small_yes a0 w
 ·have e:¬n4 a0 a1 a2 a3<18446744073709551616:=by unfold n4;omega
  rw[if_neg e,decide_eq_false e];exact small_no a0 a1 a2 a3 h w
theorem steps_few(a0 a1 a2 a3 n:Nat)(hn:(n:Int)<=256)(w:World)
  (hS:∀ w,Calls Tryz.prog 161 #[.agg #[.int .u64 a0,.int .u64 a1,.int .u64 a2,.int .u64 a3]] w fun e w'=>e=.returned (.tuple #[.int .u64 n,.bool true])/\Below w.heap.size w w') :
  Calls Tryz.prog 154 #[.agg #[.int .u64 a0,.int .u64 a1,.int .u64 a2,.int .u64 a3]] w fun e w'=>e=.returned (.tuple #[.int .i64 ((n / 64:Nat):Int),.int .i64 ((n%64:Nat):Int)])/\Below w.heap.size w w':=by
 have hn':¬(256:Int)<n:=by omega
 have h0:(0:Int)<=n:=by omega
 go_enter Tryz.func154,Tryz.ntmps154
 go_wp2_with fail
 refine(hS _).mono ?_;rintro e w1 ⟨rfl,hb⟩;have hb':Below w.heap.size w w1:=Below.trans (by go_grown) (hb.mono (by simp));clear hb;go_wp2
 go_outline
 go_ret2
 exact⟨by simp,hb'⟩
theorem steps_many(a0 a1 a2 a3 n:Nat)(b:Bool)(hn:b=true->(256:Int)<n)(w:World)
  (hS:∀ w,Calls Tryz.prog 161 #[.agg #[.int .u64 a0,.int .u64 a1,.int .u64 a2,.int .u64 a3]] w fun e w'=>e=.returned (.tuple #[.int .u64 n,.bool b])/\Below w.heap.size w w') :
  Calls Tryz.prog 154 #[.agg #[.int .u64 a0,.int .u64 a1,.int .u64 a2,.int .u64 a3]] w fun e w'=>e=.returned (.tuple #[.int .i64 4,.int .i64 0])/\Below w.heap.size w w':=by
 have h0:(0:Int)<=n:=by omega
 cases b
 all_goals
  try have hn':=hn rfl
  clear hn;go_enter Tryz.func154,Tryz.ntmps154
  go_wp2_with fail
  refine(hS _).mono ?_;rintro e w1 ⟨rfl,hb⟩;have hb':Below w.heap.size w w1:=Below.trans (by go_grown) (hb.mono (by simp));clear hb;go_wp2
  go_ret2
  exact⟨by simp,hb'⟩
-- WHAT steps COMES TO.
theorem steps_any(x:Nat)(w:World) :
  Calls Tryz.prog 154 #[wv x] w fun e w'=>e=.returned (.tuple #[.int .i64 ((min (x%2^256) 256 / 64:Nat):Int),.int .i64 ((min (x%2^256) 256%64:Nat):Int)])/\Below w.heap.size w w':=by
 have hS:=fun w=>small_any x w;obtain⟨a0,a1,a2,a3,u0,u1,u2,u3,ea,na⟩:=wv_parts x;generalize x%2^256=y at *;rw[ea]at hS;rw[ea];by_cases h:y<=256
 ·rw[if_pos (by omega),decide_eq_true (by omega)]at hS
  rw[Nat.min_eq_left h];exact steps_few a0 a1 a2 a3 y (by omega) w hS
 ·rw[Nat.min_eq_right (by omega)]
  exact steps_many a0 a1 a2 a3 _ _ (fun hb=>by rw[if_pos (by simpa using hb)];omega) w hS
open Go.RowKit
def Holds4(B:Nat)(v0 v1 v2 v3:Value)(wx:World):Prop:=wx.cell? ⟨B,0,none⟩=some v0/\wx.cell? ⟨B,1,none⟩=some v1/\wx.cell? ⟨B,2,none⟩=some v2/\wx.cell? ⟨B,3,none⟩=some v3
theorem Holds4.below{B:Nat}{v0 v1 v2 v3:Value}{wx w':World}(h:Holds4 B v0 v1 v2 v3 wx)(hb:Below wx.heap.size wx w')(hB:B<wx.heap.size):Holds4 B v0 v1 v2 v3 w' :=
 ⟨(hb.cell hB).trans h.1,(hb.cell hB).trans h.2.1,(hb.cell hB).trans h.2.2.1,(hb.cell hB).trans h.2.2.2⟩
open Go.RowKit
def pN(x p:Nat):Nat:=x%2^256 / 2^(64*p)%18446744073709551616
theorem pN_le(x p:Nat):pN x p<18446744073709551616:=by unfold pN;omega
theorem heap3(w:World)(A B C:Obj):(((w.alloc A).alloc B).alloc C).heap[w.heap.size]?=some A/\(((w.alloc A).alloc B).alloc C).heap[w.heap.size+1]?=some B/\(((w.alloc A).alloc B).alloc C).heap[w.heap.size+1+1]?=some C:=by
 show(((w.heap.push A).push B).push C)[w.heap.size]?=_/\(((w.heap.push A).push B).push C)[w.heap.size+1]?=_/\(((w.heap.push A).push B).push C)[w.heap.size+1+1]?=_;refine⟨?_,?_,?_⟩
 ·simp[Array.getElem?_push]
  omega
 ·have h:w.heap.size+1≠(((w.heap.push A).push B)).size:=by simp
  rw[Array.getElem?_push,if_neg h,Array.getElem?_push,if_pos (by simp)]
 ·rw[Array.getElem?_push,if_pos (by simp)]
theorem wpList_store_row{P:Program}{ops:Array Oper}{rest:List Oper}{o:Oper}{a:Act}{w:World}{Q:Exit->Act->World->Prop}(hgd:o.guard=none)(ty:TypeId)(x y:Operand)(ho:o.op=.store ty x y)
  (g:Nat) (cells:Array Value) (hx:a.eval x=.pointer (some ⟨g,0,none⟩)) (hy:a.eval y=.agg cells)
  (t:TypeId) (old:Array Value) (hg:w.heap[g]?=some (.cells old t (0,0))) (hi:(P.info? ty).map (·.size)=some cells.size)
  (hold:old.size=cells.size) (h1:cells.all (·.oneCell')=true)
  (h:wpList P ops Q rest (a.put o.dst undef) (w.setRow g cells)):wpList P ops Q (o::rest) a w :=
 wpList_plain hgd fun _ hK=>wp_store_row ty x y ho g cells hx hy t old hg hi hold h1 (hK _ _ h)
open Go.RowKit
def vd(d:Nat->Nat):Nat->Nat
 | 0=>0
 | n+1=>vd d n+65536^n*d n
theorem vd_congr{d e:Nat->Nat}{n:Nat}(h:∀ j,j<n->d j=e j):vd d n=vd e n:=by
 induction n with
 | zero=>rfl
 | succ n ih=>simp only[vd];rw[ih (fun j hj=>h j (by omega)),h n (by omega)]
theorem vd_lt{d:Nat->Nat}{n:Nat}(h:∀ j,j<n->d j<65536):vd d n<65536^n:=by
 induction n with
 | zero=>simp[vd]
 | succ n ih =>
  have h1:=ih (fun j hj=>h j (by omega));have h2:65536^n*d n<=65536^n*65535:=Nat.mul_le_mul_left _ (by have:=h n (by omega);omega);simp only[vd];rw[Nat.pow_succ];omega
theorem vd_mod(X n:Nat):vd (fun j=>X / 65536^j%65536) n=X%65536^n:=by
 induction n with
 | zero=>simp[vd,Nat.mod_one]
 | succ n ih=>simp only[vd];rw[ih,Nat.pow_succ,Nat.mod_mul]
def pad(d:Nat->Nat)(n j:Nat):Nat:=if j<n then d j else 0
theorem vd_pad(d:Nat->Nat)(n k:Nat)(h:n<=k):vd (pad d n) k=vd d n:=by
 induction k with
 | zero =>
  obtain rfl:n=0:=by omega
  rfl
 | succ k ih =>
  by_cases e:n=k+1
  ·subst e;exact vd_congr (fun j hj=>by simp[pad,hj])
  ·simp only[vd]
   rw[ih (by omega),show pad d n k=0 by simp[pad];omega];simp
def dl(d:Nat->Nat)(n:Nat):List Value:=(List.range n).map fun j=>.int .u64 (d j:Nat)
theorem dl_len(d:Nat->Nat)(n:Nat):(dl d n).length=n:=by simp[dl]
theorem dl_at(d:Nat->Nat)(n j:Nat)(h:j<n):(dl d n)[j]?=some (.int .u64 (d j:Nat)):=by simp[dl,h]
def upd(d:Nat->Nat)(k y j:Nat):Nat:=if j=k then y else d j
theorem dl_snoc(d:Nat->Nat)(k y:Nat):dl d k++[.int .u64 (y:Nat)]=dl (upd d k y) (k+1):=by
 unfold dl;rw[List.range_succ,List.map_append];congr 1
 ·apply List.map_congr_left
  intro j hj;have:j<k:=by simpa using hj
  simp[upd,show ¬j=k by omega]
 ·simp[upd]
theorem upd_lt{d:Nat->Nat}{k y:Nat}(h:∀ j,j<k->d j<65536)(hy:y<65536):∀ j,j<k+1->upd d k y j<65536:=fun j hj=>by
 unfold upd;by_cases e:j=k
 ·simp[e,hy]
 ·simp only[e,if_false];exact h j (by omega)
theorem vd_upd(d:Nat->Nat)(k y:Nat):vd (upd d k y) (k+1)=vd d k+65536^k*y:=by
 simp only[vd];rw[vd_congr (d:=upd d k y) (e:=d) (fun j hj=>by simp[upd,show ¬j=k by omega])];simp[upd]
def Dg(w:World)(b n:Nat)(d:Nat->Nat):Prop:=b<w.heap.size/\∀ j,j<n->w.cell? ⟨b,j,none⟩=some (.int .u64 (d j:Nat))
theorem Dg.below{w w':World}{b n:Nat}{d:Nat->Nat}(h:Dg w b n d)(hb:Below w.heap.size w w'):Dg w' b n d :=
 ⟨Nat.lt_of_lt_of_le h.1 hb.size,fun j hj=>(hb.cell (p:=⟨b,j,none⟩) h.1).trans (h.2 j hj)⟩
def MkDg(n V:Nat)(w:World)(e:Ending)(w':World):Prop :=
 ∃(b cap:Nat) (d:Nat->Nat),e=.returned (.slice (some ⟨b,0,none⟩) n cap)/\w.heap.size<=b/\Dg w' b n d/\(∀ j,j<n->d j<65536)/\vd d n=V/\Below w.heap.size w w'
theorem info22:(Tryz.prog.info? 22).map (fun i=>(i.zero,i.size,i.bytes))=some (some (.int .u64 0),1,8):=by kernel_rfl
theorem push_rel{w wr w1:World}{base:Nat}{v v' X:Value}{k y:Nat}{ns:Nat->Nat}(hown:wr.ownsRow base 22 1 v k (dl ns k))(hb:Below base w wr)(hsz:base<=wr.heap.size)
  (hown':w1.ownsRow base 22 1 v' (k+1) (dl ns k++[.int .u64 (y:Nat)])) (hgrow:(wr.alloc (.cells #[X] 22)).grownBy w1 v.ownBlock) :
  w1.ownsRow base 22 1 v' (k+1) (dl (upd ns k y) (k+1))/\Below base w w1:=by
 rw[dl_snoc]at hown';exact⟨hown',(hb.alloc hsz _).grown hgrow (by simp;omega) (fun j hj=>(hown.lt j hj).1)⟩
theorem made_of{w w':World}{base:Nat}{v:Value}{n:Nat}{d:Nat->Nat}(hbs:w.heap.size<=base)(h:w'.ownsRow base 22 1 v n (dl d n))(hn:0<n)(hd:∀ j,j<n->d j<65536)(hb:Below w.heap.size w w'):MkDg n (vd d n) w (.returned v) w':=by
 obtain⟨hl,h1⟩:=h;rcases h1 with⟨-,h0⟩ | ⟨g,cap,cur,rfl,hg,hc,hnc,hm,hcs,ht⟩
 ·omega
 ·refine⟨g,cap,d,rfl,Nat.le_trans hbs hg,⟨(Array.getElem?_eq_some_iff.1 hc).1,fun j hj=>?_⟩,hd,rfl,hb⟩
  rw[cell_of_row _ _ _ _ _ _ hc,<- dl_at d n j hj,<- ht];simp only[Nat.mul_one,List.getElem?_take,hj,if_true];simp
theorem and_low16(z:Nat)(h:z<18446744073709551616):bits .and .u64 z 65535=((z%65536:Nat):Int):=by
 have:=bits_and_u64_nat z 65535 h (by omega);rw[show z &&& 65535=z%65536 from Nat.and_two_pow_sub_one_eq_mod z 16]at this;exact this
theorem dg_of(x k p s:Nat)(hp:k / 4=p)(hs:16*(k%4)=s):pN x p / 2^s%65536=x%115792089237316195423570985008687907853269984665640564039457584007913129639936 / 65536^k%65536:=by
 subst hp hs;unfold pN;have e:18446744073709551616=2^(16*(k%4))*2^(64 - 16*(k%4)):=by rw[<- Nat.pow_add,show 16*(k%4)+(64 - 16*(k%4))=64 by omega]
 have e2:(65536:Nat)=2^16:=by rfl
 rw[e,Nat.mod_mul_right_div_self,e2,Nat.mod_mod_of_dvd _ (Nat.pow_dvd_pow 2 (by omega)),Nat.div_div_eq_div_mul,<- Nat.pow_add,<- Nat.pow_mul,show 64*(k / 4)+16*(k%4)=16*k by omega]
theorem digits_walk(x a0 a1 a2 a3:Nat)(hp:∀ p,p<4->(#[Value.int .u64 a0,.int .u64 a1,.int .u64 a2,.int .u64 a3]:Array Value)[p]?=some (.int .u64 (pN x p:Nat)))(w:World) :
  Calls Tryz.prog 97 #[.agg #[.int .u64 a0,.int .u64 a1,.int .u64 a2,.int .u64 a3]] w (MkDg 16 (x%115792089237316195423570985008687907853269984665640564039457584007913129639936) w):=by
 have HP:=Lib.hid hp;clear hp;obtain⟨i0,hi,hz0,hz1,hz2⟩:=info_parts info22;go_enter Tryz.func97,Tryz.ntmps97;go_wp2
 go_loopw [3,4] (fun v i wr=>∃ k:Nat,k<=16/\i=.int .i64 k/\Hid (wr.ownsRow (w.heap.size+1) 22 1 v k (dl (fun j=>x%115792089237316195423570985008687907853269984665640564039457584007913129639936 / 65536^j%65536) k)/\Below (w.heap.size+1) (w.alloc (.cells #[Value.int .u64 a0,.int .u64 a1,.int .u64 a2,.int .u64 a3] 24)) wr))
  (fun _ i _=>16 - (intOf i).toNat)
 case atStart =>
  refine⟨0,by omega,rfl,Lib.hid ⟨?_,by go_grown⟩⟩;have h:=World.ownsRow_made (base:=w.heap.size+1) (e:=22) (size:=1) (w.alloc (.cells #[Value.int .u64 a0,.int .u64 a1,.int .u64 a2,.int .u64 a3] 24)) #[] 0 (by simp) (by decide) (by simp);rw[World.size_alloc]at h;exact h
 case round =>
  obtain⟨k,hk,rfl,H⟩:=hrel;have hk0:(0:Int)<=k:=by omega
  have hk1:(k:Int)<=16:=by omega
  by_cases hlt:k<16
  ·obtain⟨p,hp⟩:∃ p:Nat,(k:Int) / 4=(p:Int):=⟨k / 4,by omega⟩
   obtain⟨s,hs⟩:∃ s:Nat,16*((k:Int)%4)=(s:Int):=⟨16*(k%4),by omega⟩
   have hp0:(0:Int)<=p:=by omega
   have hp1:(p:Int)<4:=by omega
   have hs0:(0:Int)<=s:=by omega
   have hs1:(s:Int)<64:=by omega
   have ca:wr.cell? ⟨w.heap.size,p,none⟩=some (.int .u64 (pN x p:Nat)):=(H.out.2.cell (p:=⟨w.heap.size,p,none⟩) (Nat.lt_succ_self _)).trans ((cell_of_row _ _ p _ _ _ (heap_alloc_new w _)).trans (HP.out p (by omega)));have hpl:=pN_le x p;have hv:bits .and .u64 (((pN x p:Nat):Int) / 2^s) 65535=((x%115792089237316195423570985008687907853269984665640564039457584007913129639936 / 65536^k%65536:Nat):Int):=by
    rw[<- dg_of x k p s (by omega) (by omega)];have h:=and_low16 (pN x p / 2^s) (Nat.lt_of_le_of_lt (Nat.div_le_self _ _) hpl);simpa using h
   have HV:=Lib.hid hv;clear hv
   go_wp2_with (at_builtin;refine wpList_append_own _ rfl _ _ 126 rfl (w.heap.size+1) 22 i0 (.int .u64 0) 1 8 Tryz.underlying126 hi hz0 hz1 hz2 rfl (by decide) _ _ _ rfl (H.out.1.alloc _) ⟨wr.heap.size,0,none⟩ 1 1 [.int .u64 (bits .and .u64 (((pN x p:Nat):Int) / 2^s) 65535)] rfl rfl ?c1 ?c2 ?c3 ?c4 ?c5 ?_)
   case c1=>exact cell_one_new _ _ _
   case c2=>intro u hu;simp at hu;subst hu;rfl
   case c3=>unfold maxLen;omega
   case c4=>omega
   case c5=>have:=H.out.2.size;simp at this;simp;omega
   intro v' w1 hown' hgrow _;rw[HV.out]at hown';have HN:=Lib.hid (push_rel H.out.1 H.out.2 (by have:=H.out.2.size;simp at this;omega) hown' hgrow);clear hown' hgrow;go_wp2
   go_roundw
   case rel =>
    refine⟨k+1,by omega,by go_num,Lib.hid ⟨?_,HN.out.2⟩⟩;have e:dl (upd (fun j=>x%115792089237316195423570985008687907853269984665640564039457584007913129639936 / 65536^j%65536) k (x%115792089237316195423570985008687907853269984665640564039457584007913129639936 / 65536^k%65536)) (k+1)=dl (fun j=>x%115792089237316195423570985008687907853269984665640564039457584007913129639936 / 65536^j%65536) (k+1):=by
     unfold dl;apply List.map_congr_left;intro j _;unfold upd;by_cases h:j=k <;> simp[h]
    rw[<- e];exact HN.out.1
   case measure=>simp[intOf];omega
  ·obtain rfl:k=16:=by omega
   go_wp2;go_ret;have R:=made_of (w:=w) (by omega) H.out.1 (by omega) (fun j _=>by omega) (Below.trans (by go_grown) (H.out.2.mono (by omega)));rw[vd_mod]at R;rw[show x%115792089237316195423570985008687907853269984665640564039457584007913129639936%65536^16=x%115792089237316195423570985008687907853269984665640564039457584007913129639936 from Nat.mod_mod _ _]at R;exact R
-- WHAT Digits COMES TO.
theorem digits_any(x:Nat)(w:World):Calls Tryz.prog 97 #[wv x] w (MkDg 16 (x%115792089237316195423570985008687907853269984665640564039457584007913129639936) w):=by
 refine digits_walk x _ _ _ _ (fun p hp=>?_) w;have h:p=0\/p=1\/p=2\/p=3:=by omega
 rcases h with rfl | rfl | rfl | rfl
 ·simp[pN]
 ·simp[pN];omega
 ·simp[pN];omega
 ·simp[pN];omega
open Go.RowKit
theorem sum_step{P x c N A B:Nat}(h:N+P*c=A+B)(ak bk:Nat)(hx:x=c+ak+bk):N+P*(x%65536)+P*65536*(x / 65536)=(A+P*ak)+(B+P*bk):=by
 have e:x=x%65536+65536*(x / 65536):=by omega
 have e1:P*x=P*(x%65536)+P*65536*(x / 65536):=by
  rw[Nat.mul_assoc,<- Nat.mul_add,<- e]
 have e2:P*x=P*c+P*ak+P*bk:=by rw[hx,Nat.mul_add,Nat.mul_add]
 omega
def SumRel(w:World)(n m k c:Nat)(da db:Nat->Nat)(v:Value)(wr:World):Prop :=
 c<=1/\∃ ns:Nat->Nat,wr.ownsRow w.heap.size 22 1 v k (dl ns k)/\(∀ j,j<k->ns j<65536)/\vd ns k+65536^k*c=vd (pad da n) k+vd (pad db m) k/\Below w.heap.size w wr/\w.heap.size<wr.heap.size
theorem sum_next{w wr w1:World}{n m k c x:Nat}{da db ns:Nat->Nat}{v v' X:Value}(hc:c<=1)(hown:wr.ownsRow w.heap.size 22 1 v k (dl ns k))(hns:∀ j,j<k->ns j<65536)
  (hv:vd ns k+65536^k*c=vd (pad da n) k+vd (pad db m) k) (hb:Below w.heap.size w wr) (hz:w.heap.size<wr.heap.size) (hx:x=c+pad da n k+pad db m k) (ha:pad da n k<65536) (hbd:pad db m k<65536)
  (hown':w1.ownsRow w.heap.size 22 1 v' (k+1) (dl ns k++[.int .u64 ((x%65536:Nat):Int)])) (hgrow:(wr.alloc (.cells #[X] 22)).grownBy w1 v.ownBlock) :
  SumRel w n m (k+1) (x / 65536) da db v' w1:=by
 obtain⟨ho,hb'⟩:=push_rel hown hb (by omega) hown' hgrow;have hs:=hgrow.size;simp at hs;refine⟨by omega,upd ns k (x%65536),ho,upd_lt hns (by omega),?_,hb',by omega⟩;rw[vd_upd,Nat.pow_succ];exact sum_step hv _ _ hx
theorem sum_any(ba ca bb cb n m:Nat)(da db:Nat->Nat)(hn:(n:Int)<=1000000)(hm:(m:Int)<=1000000)(ha:∀ j,j<n->da j<65536)(hb:∀ j,j<m->db j<65536)(w:World)(hA:Dg w ba n da)(hB:Dg w bb m db) :
  Calls Tryz.prog 81 #[.slice (some ⟨ba,0,none⟩) n ca,.slice (some ⟨bb,0,none⟩) m cb] w (MkDg (max n m+1) (vd da n+vd db m) w):=by
 have Ha:=Lib.hid ha;clear ha;have Hb:=Lib.hid hb;clear hb;have HA:=Lib.hid hA;clear hA;have HB:=Lib.hid hB;clear hB;obtain⟨i0,hi,hz0,hz1,hz2⟩:=info_parts info22;go_enter Tryz.func81,Tryz.ntmps81;go_wp2
 go_loopw [5,6,7] (fun v cv i wr=>∃ k c:Nat,k<=max n m/\i=.int .i64 k/\cv=.int .u64 c/\Hid (SumRel w n m k c da db v wr)) (fun _ _ i _=>max n m - (intOf i).toNat)
 case atStart =>
  refine⟨0,0,by omega,rfl,rfl,Lib.hid ⟨by omega,da,?_,by omega,rfl,by go_grown,by simp⟩⟩;exact World.ownsRow_made (base:=w.heap.size) (e:=22) (size:=1) w #[] 0 (by simp) (by decide) (by simp)
 case round =>
  obtain⟨k,c,hk,rfl,rfl,H⟩:=hrel;have hk0:(0:Int)<=k:=by omega
  have hk1:(k:Int)<=1000000:=by omega
  obtain⟨hc,ns,hown,hns,hval,hbel,hsz⟩:=H.out;have hc0:(0:Int)<=c:=by omega
  have hc1:(c:Int)<=1:=by omega
  have HO:=Lib.hid hown;clear hown;have HNS:=Lib.hid hns;clear hns;have HVAL:=Lib.hid hval;clear hval;have HBEL:=Lib.hid hbel;clear hbel;have HSZ:=Lib.hid hsz;clear hsz;have HC:=Lib.hid hc;clear hc H;by_cases h1:k<n
  ·by_cases h2:k<m
   ·have xa:((da k:Nat):Int)<=65535:=by have:=Ha.out k (by omega);omega
    have xa0:(0:Int)<=(da k:Nat):=by omega
    have ea:wr.cell? ⟨ba,k,none⟩=some (.int .u64 (da k:Nat)):=(HBEL.out.cell (p:=⟨ba,k,none⟩) HA.out.1).trans (HA.out.2 k (by omega));have hka:(k:Int)<(n:Int):=by omega
    have xb:((db k:Nat):Int)<=65535:=by have:=Hb.out k (by omega);omega
    have xb0:(0:Int)<=(db k:Nat):=by omega
    have eb:wr.cell? ⟨bb,k,none⟩=some (.int .u64 (db k:Nat)):=(HBEL.out.cell (p:=⟨bb,k,none⟩) HB.out.1).trans (HB.out.2 k (by omega));have hkb:(k:Int)<(m:Int):=by omega
    obtain⟨x,hx⟩:∃ x:Nat,c+da k+db k=x:=⟨_,rfl⟩
    have hxi:(c:Int)+(da k:Nat)+(db k:Nat)=(x:Int):=by omega
    have hxb:x<200000:=by have:=HC.out;omega
    have hand:bits .and .u64 (x:Int) 65535=((x%65536:Nat):Int):=and_low16 x (by omega);have hxl:(x:Int)<200000:=by omega
    have hx0:(0:Int)<=x:=by omega
    have HAND:=Lib.hid hand;clear hand;have HX:=Lib.hid hx;clear hx
    go_wp2_with (at_builtin;refine wpList_append_own _ rfl (.tmp 43) (.tmp 46) 126 rfl w.heap.size 22 i0 (.int .u64 0) 1 8 Tryz.underlying126 hi hz0 hz1 hz2 rfl (by decide) _ _ _ rfl (HO.out.alloc _) ⟨wr.heap.size,0,none⟩ 1 1 [.int .u64 (bits .and .u64 (x:Int) 65535)] rfl rfl ?d111 ?d112 ?d113 ?d114 ?d115 ?_)
    try (case d111=>exact cell_one_new _ _ _)
    try (case d112=>first | rfl | (intro u hu;simp at hu;subst hu;rfl))
    try (case d113=>unfold maxLen;omega)
    try (case d114=>omega)
    try (case d115=>have:=HSZ.out;first | omega | (simp;omega))
    intro v' w1 hown' hgrow _;rw[HAND.out]at hown';have ea':pad da n k=da k:=by simp only[pad];rw[if_pos (by omega)]
    have eb':pad db m k=db k:=by simp only[pad];rw[if_pos (by omega)]
    have HN:=Lib.hid (sum_next (x:=x) (da:=da) (db:=db) (n:=n) (m:=m) HC.out HO.out HNS.out HVAL.out HBEL.out HSZ.out (by rw[ea',eb'];have:=HX.out;omega) (by rw[ea'];omega) (by rw[eb'];omega) hown' hgrow);clear hown' hgrow ea' eb';go_wp2
    go_roundw
    case rel=>exact⟨k+1,x / 65536,by omega,by go_num,by go_num,HN⟩
    case measure=>simp[intOf];omega
   ·have xa:((da k:Nat):Int)<=65535:=by have:=Ha.out k (by omega);omega
    have xa0:(0:Int)<=(da k:Nat):=by omega
    have ea:wr.cell? ⟨ba,k,none⟩=some (.int .u64 (da k:Nat)):=(HBEL.out.cell (p:=⟨ba,k,none⟩) HA.out.1).trans (HA.out.2 k (by omega));have hka:(k:Int)<(n:Int):=by omega
    have hkb:¬(k:Int)<(m:Int):=by omega
    obtain⟨x,hx⟩:∃ x:Nat,c+da k=x:=⟨_,rfl⟩
    have hxi:(c:Int)+(da k:Nat)=(x:Int):=by omega
    have hxb:x<200000:=by have:=HC.out;omega
    have hand:bits .and .u64 (x:Int) 65535=((x%65536:Nat):Int):=and_low16 x (by omega);have hxl:(x:Int)<200000:=by omega
    have hx0:(0:Int)<=x:=by omega
    have HAND:=Lib.hid hand;clear hand;have HX:=Lib.hid hx;clear hx
    go_wp2_with (at_builtin;refine wpList_append_own _ rfl (.tmp 43) (.tmp 46) 126 rfl w.heap.size 22 i0 (.int .u64 0) 1 8 Tryz.underlying126 hi hz0 hz1 hz2 rfl (by decide) _ _ _ rfl (HO.out.alloc _) ⟨wr.heap.size,0,none⟩ 1 1 [.int .u64 (bits .and .u64 (x:Int) 65535)] rfl rfl ?d101 ?d102 ?d103 ?d104 ?d105 ?_)
    try (case d101=>exact cell_one_new _ _ _)
    try (case d102=>first | rfl | (intro u hu;simp at hu;subst hu;rfl))
    try (case d103=>unfold maxLen;omega)
    try (case d104=>omega)
    try (case d105=>have:=HSZ.out;first | omega | (simp;omega))
    intro v' w1 hown' hgrow _;rw[HAND.out]at hown';have ea':pad da n k=da k:=by simp only[pad];rw[if_pos (by omega)]
    have eb':pad db m k=0:=by simp only[pad];rw[if_neg (by omega)]
    have HN:=Lib.hid (sum_next (x:=x) (da:=da) (db:=db) (n:=n) (m:=m) HC.out HO.out HNS.out HVAL.out HBEL.out HSZ.out (by rw[ea',eb'];have:=HX.out;omega) (by rw[ea'];omega) (by rw[eb'];omega) hown' hgrow);clear hown' hgrow ea' eb';go_wp2
    go_roundw
    case rel=>exact⟨k+1,x / 65536,by omega,by go_num,by go_num,HN⟩
    case measure=>simp[intOf];omega
  ·by_cases h2:k<m
   ·have hka:¬(k:Int)<(n:Int):=by omega
    have xb:((db k:Nat):Int)<=65535:=by have:=Hb.out k (by omega);omega
    have xb0:(0:Int)<=(db k:Nat):=by omega
    have eb:wr.cell? ⟨bb,k,none⟩=some (.int .u64 (db k:Nat)):=(HBEL.out.cell (p:=⟨bb,k,none⟩) HB.out.1).trans (HB.out.2 k (by omega));have hkb:(k:Int)<(m:Int):=by omega
    obtain⟨x,hx⟩:∃ x:Nat,c+db k=x:=⟨_,rfl⟩
    have hxi:(c:Int)+(db k:Nat)=(x:Int):=by omega
    have hxb:x<200000:=by have:=HC.out;omega
    have hand:bits .and .u64 (x:Int) 65535=((x%65536:Nat):Int):=and_low16 x (by omega);have hxl:(x:Int)<200000:=by omega
    have hx0:(0:Int)<=x:=by omega
    have HAND:=Lib.hid hand;clear hand;have HX:=Lib.hid hx;clear hx
    go_wp2_with (at_builtin;refine wpList_append_own _ rfl (.tmp 43) (.tmp 46) 126 rfl w.heap.size 22 i0 (.int .u64 0) 1 8 Tryz.underlying126 hi hz0 hz1 hz2 rfl (by decide) _ _ _ rfl (HO.out.alloc _) ⟨wr.heap.size,0,none⟩ 1 1 [.int .u64 (bits .and .u64 (x:Int) 65535)] rfl rfl ?d011 ?d012 ?d013 ?d014 ?d015 ?_)
    try (case d011=>exact cell_one_new _ _ _)
    try (case d012=>first | rfl | (intro u hu;simp at hu;subst hu;rfl))
    try (case d013=>unfold maxLen;omega)
    try (case d014=>omega)
    try (case d015=>have:=HSZ.out;first | omega | (simp;omega))
    intro v' w1 hown' hgrow _;rw[HAND.out]at hown';have ea':pad da n k=0:=by simp only[pad];rw[if_neg (by omega)]
    have eb':pad db m k=db k:=by simp only[pad];rw[if_pos (by omega)]
    have HN:=Lib.hid (sum_next (x:=x) (da:=da) (db:=db) (n:=n) (m:=m) HC.out HO.out HNS.out HVAL.out HBEL.out HSZ.out (by rw[ea',eb'];have:=HX.out;omega) (by rw[ea'];omega) (by rw[eb'];omega) hown' hgrow);clear hown' hgrow ea' eb';go_wp2
    go_roundw
    case rel=>exact⟨k+1,x / 65536,by omega,by go_num,by go_num,HN⟩
    case measure=>simp[intOf];omega
   ·have hka:¬(k:Int)<(n:Int):=by omega
    have hkb:¬(k:Int)<(m:Int):=by omega
    go_wp2_with (at_builtin;refine wpList_append_own _ rfl (.tmp 50) (.tmp 52) 126 rfl w.heap.size 22 i0 (.int .u64 0) 1 8 Tryz.underlying126 hi hz0 hz1 hz2 rfl (by decide) _ _ _ rfl (HO.out.alloc _) ⟨wr.heap.size,0,none⟩ 1 1 [.int .u64 (c:Int)] rfl rfl ?e1 ?e2 ?e3 ?e4 ?e5 ?_)
    try (case e1=>exact cell_one_new _ _ _)
    try (case e2=>first | rfl | (intro u hu;simp at hu;subst hu;rfl))
    try (case e3=>unfold maxLen;omega)
    try (case e4=>omega)
    try (case e5=>have:=HSZ.out;first | omega | (simp;omega))
    intro v' w1 hown' hgrow _;obtain rfl:k=max n m:=by omega
    obtain⟨ho,hb'⟩:=push_rel HO.out HBEL.out (by have:=HSZ.out;omega) hown' hgrow;have R:=made_of (Nat.le_refl _) ho (by omega) (upd_lt HNS.out (by have:=HC.out;omega)) hb';rw[vd_upd,HVAL.out,vd_pad _ _ _ (by omega),vd_pad _ _ _ (by omega)]at R;have HR:=Lib.hid R;clear hown' hgrow ho hb' R;go_wp2;go_ret;exact HR.out
open Go.RowKit
theorem pow_split{s t:Nat}(h:s+t=64):2^s*2^t=18446744073709551616:=by rw[<- Nat.pow_add,h]
theorem cmb_up{p q s t:Nat}(hq:q<18446744073709551616)(h:s+t=64) :
  bits .or .u64 (IntKind.u64.wrap ((p:Int)*2^s)) ((q:Int) / 2^t)=((p*2^s%18446744073709551616+q / 2^t:Nat):Int):=by
 have hD:=pow_split h;have hT:0<2^t:=Nat.two_pow_pos t;have hqs:q / 2^t<2^s:=by rw[Nat.div_lt_iff_lt_mul hT,hD];exact hq
 have e1:IntKind.u64.wrap ((p:Int)*2^s)=((p*2^s%18446744073709551616:Nat):Int):=by
  rw[IntKind.wrap_u64];have:((p:Int)*2^s)=((p*2^s:Nat):Int):=by simp
  rw[this];omega
 have e2:((q:Int) / 2^t)=((q / 2^t:Nat):Int):=by simp
 have e3:p*2^s%18446744073709551616=2^s*(p%2^t):=by
  rw[<- hD,Nat.mul_comm p,Nat.mul_mod_mul_left]
 have hl:p*2^s%18446744073709551616<18446744073709551616:=Nat.mod_lt _ (by omega);have hr:q / 2^t<18446744073709551616:=Nat.lt_of_le_of_lt (Nat.div_le_self _ _) hq;rw[e1,e2,bits_or_u64_nat _ _ hl hr,e3,<- Nat.two_pow_add_eq_or_of_lt hqs]
theorem cmb_down{p q s t:Nat}(hp:p<18446744073709551616)(h:s+t=64) :
  bits .or .u64 ((p:Int) / 2^s) (IntKind.u64.wrap ((q:Int)*2^t))=((p / 2^s+q*2^t%18446744073709551616:Nat):Int):=by
 have hD:=pow_split h;have hS:0<2^s:=Nat.two_pow_pos s;have hps:p / 2^s<2^t:=by rw[Nat.div_lt_iff_lt_mul hS,Nat.mul_comm,hD];exact hp
 have e1:IntKind.u64.wrap ((q:Int)*2^t)=((q*2^t%18446744073709551616:Nat):Int):=by
  rw[IntKind.wrap_u64];have:((q:Int)*2^t)=((q*2^t:Nat):Int):=by simp
  rw[this];omega
 have e2:((p:Int) / 2^s)=((p / 2^s:Nat):Int):=by simp
 have e3:q*2^t%18446744073709551616=2^t*(q%2^s):=by
  rw[<- hD,Nat.mul_comm (2^s),Nat.mul_comm q,Nat.mul_mod_mul_left]
 have hl:q*2^t%18446744073709551616<18446744073709551616:=Nat.mod_lt _ (by omega);have hr:p / 2^s<18446744073709551616:=Nat.lt_of_le_of_lt (Nat.div_le_self _ _) hp;rw[e1,e2,bits_or_u64_nat _ _ hr hl,e3,Nat.or_comm,<- Nat.two_pow_add_eq_or_of_lt hps,Nat.add_comm]
theorem up_split{p s t:Nat}(h:s+t=64):p*2^s=p*2^s%18446744073709551616+18446744073709551616*(p / 2^t):=by
 have hD:=pow_split h;have hS:0<2^s:=Nat.two_pow_pos s;have e:p*2^s / 18446744073709551616=p / 2^t:=by
  rw[<- hD,Nat.mul_comm p,Nat.mul_div_mul_left _ _ hS]
 have:=Nat.div_add_mod (p*2^s) 18446744073709551616;rw[e]at this;omega
theorem cmb_lt{p q s t:Nat}(hq:q<18446744073709551616)(h:s+t=64):p*2^s%18446744073709551616+q / 2^t<18446744073709551616:=by
 have hD:=pow_split h;have hT:0<2^t:=Nat.two_pow_pos t;have hqs:q / 2^t<2^s:=by rw[Nat.div_lt_iff_lt_mul hT,hD];exact hq
 have e3:p*2^s%18446744073709551616=2^s*(p%2^t):=by
  rw[<- hD,Nat.mul_comm p,Nat.mul_mod_mul_left]
 have hm:p%2^t<2^t:=Nat.mod_lt _ hT;have:2^s*(p%2^t)+2^s<=2^s*2^t:=by
  rw[<- Nat.mul_succ];exact Nat.mul_le_mul_left _ hm
 omega
theorem n4_up(p0 p1 p2 p3:Nat){s t:Nat}(h:s+t=64) :
  n4 (p0*2^s%18446744073709551616+0 / 2^t) (p1*2^s%18446744073709551616+p0 / 2^t) (p2*2^s%18446744073709551616+p1 / 2^t) (p3*2^s%18446744073709551616+p2 / 2^t)
   + 115792089237316195423570985008687907853269984665640564039457584007913129639936*(p3 / 2^t)=n4 p0 p1 p2 p3*2^s:=by
 have h0:=up_split (p:=p0) h;have h1:=up_split (p:=p1) h;have h2:=up_split (p:=p2) h;have h3:=up_split (p:=p3) h;have e:n4 p0 p1 p2 p3*2^s=n4 (p0*2^s) (p1*2^s) (p2*2^s) (p3*2^s):=by unfold n4;grind
 rw[e,Nat.zero_div];unfold n4;generalize p0*2^s=c0 at *;generalize p1*2^s=c1 at *;generalize p2*2^s=c2 at *;generalize p3*2^s=c3 at *;omega
theorem n4_down(p0 p1 p2 p3 p4:Nat){s t:Nat}(h:s+t=64) :
  n4 (p0 / 2^s+p1*2^t%18446744073709551616) (p1 / 2^s+p2*2^t%18446744073709551616) (p2 / 2^s+p3*2^t%18446744073709551616) (p3 / 2^s+p4*2^t%18446744073709551616)
   = n4 p0 p1 p2 p3 / 2^s+6277101735386680763835789423207666416102355444464034512896*(p4*2^t%18446744073709551616):=by
 have hD:=pow_split h;have hS:0<2^s:=Nat.two_pow_pos s;have h1:=up_split (p:=p1) (s:=t) (t:=s) (by omega);have h2:=up_split (p:=p2) (s:=t) (t:=s) (by omega);have h3:=up_split (p:=p3) (s:=t) (t:=s) (by omega)
 -- the whole times 2^t,by parts
 have e:n4 p0 p1 p2 p3=p0+2^s*(p1*2^t+18446744073709551616*(p2*2^t)+340282366920938463463374607431768211456*(p3*2^t)):=by
  unfold n4;have:∀ p,18446744073709551616*p=2^s*(p*2^t):=fun p=>by rw[<- hD];grind
  have a1:=this p1;have a2:=this (18446744073709551616*p2);have a3:=this (340282366920938463463374607431768211456*p3);have b2:18446744073709551616*p2*2^t=18446744073709551616*(p2*2^t):=by grind
  have b3:340282366920938463463374607431768211456*p3*2^t=340282366920938463463374607431768211456*(p3*2^t):=by grind
  rw[b2]at a2;rw[b3]at a3;rw[Nat.mul_add,Nat.mul_add,<- a1,<- a2,<- a3];omega
 rw[e,Nat.add_mul_div_left _ _ hS];unfold n4;generalize p1*2^t=c1 at *;generalize p2*2^t=c2 at *;generalize p3*2^t=c3 at *;generalize p4*2^t=c4 at *;omega
open Go.RowKit
theorem part_neg(i:Int)(b:Nat)(h:i<0)(w:World):Calls Tryz.prog 155 #[.int .i64 i,.pointer (some ⟨b,0,none⟩)] w fun e w'=>e=.returned (.int .u64 0)/\w'=w:=by
 go_enter Tryz.func155,Tryz.ntmps155;go_wp2;go_ret;exact⟨rfl,rfl⟩
theorem part_at(i b:Nat)(v:Value)(h0:(0:Int)<=i)(h:(i:Int)<4)(w:World)(hc:w.cell? ⟨b,i,none⟩=some v):Calls Tryz.prog 155 #[.int .i64 i,.pointer (some ⟨b,0,none⟩)] w fun e w'=>e=.returned v/\w'=w:=by
 go_enter Tryz.func155,Tryz.ntmps155;go_wp2;go_ret;exact⟨rfl,rfl⟩
theorem region_still{P:Program}{id:Nat}{Q:Exit->Act->World->Prop}{a:Act}{w:World}{l:List Oper}(n:Nat)(hm:P.follows .mixedOrders=true)(hB:Region.lexTailB .any l.toArray n=true)
  (h:wpStill P l.toArray w.drew (fun a'=>wpList P l.toArray Q (l.drop n) a' w.drew) (l.take n) a):(Code.region id l.toArray true).wp P Q a w:=wp_region_still_tail n hm hB h
theorem shl_walk(k0 k1 k2 k3 a0 a1 a2 a3 pm p0 p1 p2 p3 s t:Nat)(wh jm j0 j1 j2 j3:Int)(h0:(0:Int)<=s)(h64:(s:Int)<64)
  (ht:IntKind.i64.wrap (64 - (s:Int))=(t:Int)) (ht64:(t:Int)<=64)
  (e0:IntKind.i64.wrap (-wh)=j0) (e1:IntKind.i64.wrap (1 - wh)=j1) (e2:IntKind.i64.wrap (2 - wh)=j2) (e3:IntKind.i64.wrap (3 - wh)=j3)
  (g0:IntKind.i64.wrap (j0 - 1)=jm) (g1:IntKind.i64.wrap (j1 - 1)=j0) (g2:IntKind.i64.wrap (j2 - 1)=j1) (g3:IntKind.i64.wrap (j3 - 1)=j2) (w:World)
  (hC:∀(b:Nat) (W:World),W.cell? ⟨b,0,none⟩=some (.int .u64 a0)->W.cell? ⟨b,1,none⟩=some (.int .u64 a1)->W.cell? ⟨b,2,none⟩=some (.int .u64 a2)->W.cell? ⟨b,3,none⟩=some (.int .u64 a3) ->
   (Calls Tryz.prog 155 #[.int .i64 jm,.pointer (some ⟨b,0,none⟩)] W fun e w'=>e=.returned (.int .u64 pm)/\w'=W) /\
   (Calls Tryz.prog 155 #[.int .i64 j0,.pointer (some ⟨b,0,none⟩)] W fun e w'=>e=.returned (.int .u64 p0)/\w'=W) /\
   (Calls Tryz.prog 155 #[.int .i64 j1,.pointer (some ⟨b,0,none⟩)] W fun e w'=>e=.returned (.int .u64 p1)/\w'=W) /\
   (Calls Tryz.prog 155 #[.int .i64 j2,.pointer (some ⟨b,0,none⟩)] W fun e w'=>e=.returned (.int .u64 p2)/\w'=W) /\
   (Calls Tryz.prog 155 #[.int .i64 j3,.pointer (some ⟨b,0,none⟩)] W fun e w'=>e=.returned (.int .u64 p3)/\w'=W))
  (hS:∀ w,Calls Tryz.prog 154 #[.agg #[.int .u64 k0,.int .u64 k1,.int .u64 k2,.int .u64 k3]] w fun e w'=>e=.returned (.tuple #[.int .i64 wh,.int .i64 s])/\Below w.heap.size w w') :
  Calls Tryz.prog 147 #[.agg #[.int .u64 k0,.int .u64 k1,.int .u64 k2,.int .u64 k3],.agg #[.int .u64 a0,.int .u64 a1,.int .u64 a2,.int .u64 a3]] w fun e w' =>
   e=.returned (.agg #[.int .u64 (bits .or .u64 (IntKind.u64.wrap ((p0:Int)*2^s)) ((pm:Int) / 2^t)),.int .u64 (bits .or .u64 (IntKind.u64.wrap ((p1:Int)*2^s)) ((p0:Int) / 2^t)),.int .u64 (bits .or .u64 (IntKind.u64.wrap ((p2:Int)*2^s)) ((p1:Int) / 2^t)),.int .u64 (bits .or .u64 (IntKind.u64.wrap ((p3:Int)*2^s)) ((p2:Int) / 2^t))])/\Below w.heap.size w w':=by
 have HC:=Lib.hid hC;clear hC;have G0:=Lib.hid g0;clear g0;have G1:=Lib.hid g1;clear g1;have G2:=Lib.hid g2;clear g2;have G3:=Lib.hid g3;clear g3;go_enter Tryz.func147,Tryz.ntmps147
 go_wp2_with fail
 refine(hS _).mono ?_;rintro e w1 ⟨rfl,hb⟩;obtain⟨x0,-,-⟩:=after1 (b:=w.heap.size+1) (i:=0) (v:=.int .u64 a0) hb (by simp) (by go_cell) (by go_cell);obtain⟨x1,-,-⟩:=after1 (b:=w.heap.size+1) (i:=1) (v:=.int .u64 a1) hb (by simp) (by go_cell) (by go_cell);obtain⟨x2,-,-⟩:=after1 (b:=w.heap.size+1) (i:=2) (v:=.int .u64 a2) hb (by simp) (by go_cell) (by go_cell);obtain⟨x3,-,-⟩:=after1 (b:=w.heap.size+1) (i:=3) (v:=.int .u64 a3) hb (by simp) (by go_cell) (by go_cell);obtain⟨⟨q0,q1,q2,q3⟩,⟨f0,f1,f2,f3⟩,hz,hb'⟩:=after4 (w:=w) (B:=w.heap.size) (w.heap.size+1+1) hb (by go_grown) (by simp;omega) (by simp) (by go_cell) (by go_cell) (by go_cell) (by go_cell) (by go_cell) (by go_cell) (by go_cell) (by go_cell);clear hb;have hz1:w.heap.size+1<w1.heap.size:=by omega
 go_wp2;refine wp_loop_rounds 5 ?_;rw[rounds_succ];go_wp2;refine region_still 19 (by kernel_rfl) (by kernel_rfl) ?_;simp only[List.take_succ_cons,List.take_zero,List.drop_succ_cons,List.drop_zero]
 repeat still_step
 still_call (HC.out (w.heap.size+1) _ (by go_cell) (by go_cell) (by go_cell) (by go_cell)).2.1
 have g:=G0.out
 repeat still_step
 clear g
 still_call (HC.out (w.heap.size+1) _ (by go_cell) (by go_cell) (by go_cell) (by go_cell)).1
 repeat still_step
 refine wpStill_nil ?_;go_wp2;rw[rounds_succ];go_wp2;refine region_still 19 (by kernel_rfl) (by kernel_rfl) ?_;simp only[List.take_succ_cons,List.take_zero,List.drop_succ_cons,List.drop_zero]
 repeat still_step
 still_call (HC.out (w.heap.size+1) _ (by go_cell) (by go_cell) (by go_cell) (by go_cell)).2.2.1
 have g:=G1.out
 repeat still_step
 clear g
 still_call (HC.out (w.heap.size+1) _ (by go_cell) (by go_cell) (by go_cell) (by go_cell)).2.1
 repeat still_step
 refine wpStill_nil ?_;go_wp2;rw[rounds_succ];go_wp2;refine region_still 19 (by kernel_rfl) (by kernel_rfl) ?_;simp only[List.take_succ_cons,List.take_zero,List.drop_succ_cons,List.drop_zero]
 repeat still_step
 still_call (HC.out (w.heap.size+1) _ (by go_cell) (by go_cell) (by go_cell) (by go_cell)).2.2.2.1
 have g:=G2.out
 repeat still_step
 clear g
 still_call (HC.out (w.heap.size+1) _ (by go_cell) (by go_cell) (by go_cell) (by go_cell)).2.2.1
 repeat still_step
 refine wpStill_nil ?_;go_wp2;rw[rounds_succ];go_wp2;refine region_still 19 (by kernel_rfl) (by kernel_rfl) ?_;simp only[List.take_succ_cons,List.take_zero,List.drop_succ_cons,List.drop_zero]
 repeat still_step
 still_call (HC.out (w.heap.size+1) _ (by go_cell) (by go_cell) (by go_cell) (by go_cell)).2.2.2.2
 have g:=G3.out
 repeat still_step
 clear g
 still_call (HC.out (w.heap.size+1) _ (by go_cell) (by go_cell) (by go_cell) (by go_cell)).2.2.2.1
 repeat still_step
 refine wpStill_nil ?_;go_wp2;rw[rounds_succ];go_wp2;refine bodyPost_ret (by simp[results,Tryz.results147,go_sem,hz,q0,q1,q2,q3];try rfl) rfl ⟨rfl,?_⟩;go_grown
end Go.Proofs.YtadfjjfklihaaaaGreat
