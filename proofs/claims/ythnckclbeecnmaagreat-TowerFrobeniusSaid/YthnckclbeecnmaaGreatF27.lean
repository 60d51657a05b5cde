/- Lists of parts of one's own: what append leaves, in a block that holds parts alone. (Cut to what is reached, written closely: TwO · NOpenB · NNum · NBase · NLeaf · NWrite · NRaise · NProd · NDiv64 · NHigh · NApi · NOwn · ManyT · TwAp.) -/
import Derived.Test.YthnckclbeecnmaaGreatF16
import Derived.Test.YthnckclbeecnmaaGreatF26
import Derived.ChangeShapes
import Derived.Test.YthnckclbeecnmaaGreatF5
import Derived.Laws.AppendOwnNone
import Derived.Deep.QuietTactic
import Derived.Lib.SliceRun
import Derived.Test.YthnckclbeecnmaaGreatF2
import Derived.BigRegion
import Derived.Laws.Bits64b
import Derived.Lib.ItoaMem
import Derived.Test.YthnckclbeecnmaaGreatF8
import Derived.BigQuiet
import Derived.Lib.ItoaNum
import Derived.Laws.CopyOwn
import Derived.Test.YthnckclbeecnmaaGreatF4
import Derived.Test.YthnckclbeecnmaaGreatF18
set_option linter.all false
set_option maxRecDepth 100000
set_option maxHeartbeats 8000000
namespace Go.Proofs.YthnckclbeecnmaaGreat
open Go.ChangeShapes Go.WideShapes Go.ChangeAt Go.RowKit
def Ints(T:TypeId)(k:Nat):Prop:=∀(H:Type) (enc:TypeId × Value->H) (w:World) (base:Nat) (sp:Nat->Bool) (held:Bool) (fuel:Nat) (cs:List Value) (d:DataW H) (p:List MemPlace),
 DataW.trod enc Tryz.prog w base sp held fuel T cs=some (d,p)->∀ i,i<k->∃ n:Nat,n<18446744073709551616/\cs[i]?=some (.int .u64 (n:Nat))
theorem ints_one:Ints 22 1:=fun H enc w base sp held fuel cs d p h i hi=>by
 obtain⟨z,hc,-,hw⟩:=DataW.trod_int Tryz.underlying22 h;obtain⟨n,hn,rfl⟩:=nat_of_wf hw;obtain rfl:i=0:=by omega
 exact⟨n,hn,by rw[hc];rfl⟩
theorem ints_arr{T e:TypeId}{n k:Nat}(hu:Tryz.prog.underlying T=some (.array n e))(hc:Tryz.prog.cellsOf e=k)(he:Ints e k):Ints T (n*k):=fun H enc w base sp held fuel cs d p h i hi=>by
 have hk:0<k:=Nat.pos_of_ne_zero fun e=>by
  rw[e,Nat.mul_zero]at hi;omega
 cases fuel with
 | zero=>simp[DataW.trod]at h
 | succ fuel =>
  simp only[DataW.trod,hu,hc]at h
  split at h
  ·obtain⟨xs,hm,hx⟩:=Option.map_eq_some_iff.1 h
   have hq:i / k<n:=Nat.div_lt_of_lt_mul (by rwa [Nat.mul_comm]at hi);have hr:i%k<k:=Nat.mod_lt _ hk;obtain⟨b,hb,hg⟩:=Lib.mapM_at hm (i / k) (i / k) (by rw[List.getElem?_range hq]);obtain⟨n,hn,hcc⟩:=he _ _ _ _ _ _ _ _ _ _ hg (i%k) hr;refine⟨n,hn,?_⟩;rw[List.getElem?_take_of_lt hr,List.getElem?_drop,Nat.div_add_mod']at hcc;exact hcc
  ·cases h
theorem cellsF2:Tryz.prog.cellsOf 26=8:=by kernel_rfl
theorem cellsF12:Tryz.prog.cellsOf 38=48:=by kernel_rfl
theorem ints_W:Ints 24 4:=ints_arr Tryz.underlying24 cellsU64 ints_one
theorem ints_2:Ints 26 8:=ints_arr Tryz.underlying26 cellsWord ints_W
theorem ints_12:Ints 38 48:=ints_arr Tryz.underlying38 cellsF2 ints_2
theorem pw_n4{a b c d:Nat}(h0:a<18446744073709551616)(h1:b<18446744073709551616)(h2:c<18446744073709551616)(h3:d<18446744073709551616):pw (n4 a b c d)=#[.int .u64 (a:Nat),.int .u64 (b:Nat),.int .u64 (c:Nat),.int .u64 (d:Nat)]:=by
 unfold pw n4;rw[show(a+18446744073709551616*b+340282366920938463463374607431768211456*c+6277101735386680763835789423207666416102355444464034512896*d)%18446744073709551616=a by omega];rw[show(a+18446744073709551616*b+340282366920938463463374607431768211456*c+6277101735386680763835789423207666416102355444464034512896*d) / 18446744073709551616%18446744073709551616=b by omega];rw[show(a+18446744073709551616*b+340282366920938463463374607431768211456*c+6277101735386680763835789423207666416102355444464034512896*d) / 340282366920938463463374607431768211456%18446744073709551616=c by omega];rw[show(a+18446744073709551616*b+340282366920938463463374607431768211456*c+6277101735386680763835789423207666416102355444464034512896*d) / 6277101735386680763835789423207666416102355444464034512896%18446744073709551616=d by omega]
theorem n4_below{a b c d:Nat}(h0:a<18446744073709551616)(h1:b<18446744073709551616)(h2:c<18446744073709551616)(h3:d<18446744073709551616):n4 a b c d<2^256:=by
 have e256:(2:Nat)^256=115792089237316195423570985008687907853269984665640564039457584007913129639936:=by decide
 rw[e256];unfold n4;omega
theorem limbs_of{T:TypeId}{k:Nat}(hu:∃ n e,Tryz.prog.underlying T=some (.array n e))(hk:Tryz.prog.cellsOf T=k)(hi:Ints T k){H:Type}{enc:TypeId × Value->H}{W:World}{base b2:Nat}{sp:Nat->Bool}{hd:Bool}{v:Value}{d:DataW H}{ps:List MemPlace}
  (hv:Value.okWide Tryz.prog W .any base T v) (h:DataW.Trod enc Tryz.prog W b2 sp hd T v d ps):∃ z:Nat->Nat,(∀ i,z i<18446744073709551616)/\v=.agg ((List.range k).map fun i=>Value.int .u64 (z i:Nat)).toArray:=by
 obtain⟨n,e,hu⟩:=hu;obtain⟨cs,rfl,hsz,_⟩:∃ cs,v=.agg cs/\cs.size=Tryz.prog.cellsOf T/\Row.okWide Tryz.prog W .any base T cs:=by
  simpa[Value.okWide,hu]using hv
 rw[hk]at hsz;obtain⟨fuel,hf⟩:=h;have h2:∀ i,∃ n:Nat,n<18446744073709551616/\(i<k->cs[i]?=some (.int .u64 (n:Nat))):=fun i=>by
  by_cases hik:i<k
  ·obtain⟨n,a,b⟩:=hi _ _ _ _ _ _ _ _ _ _ hf i hik
   exact⟨n,a,fun _=>by simpa[Value.cells]using b⟩
  ·exact⟨0,by omega,fun h=>absurd h hik⟩
 obtain⟨z,hz⟩:∃ z:Nat->Nat,∀ i,z i<18446744073709551616/\(i<k->cs[i]?=some (.int .u64 (z i:Nat))):=⟨fun i=>Classical.choose (h2 i),fun i=>Classical.choose_spec (h2 i)⟩
 refine⟨z,fun i=>(hz i).1,congrArg Value.agg (Array.ext (by simp[hsz]) fun i a b=>?_)⟩;have hik:i<k:=by omega
 have h3:=(hz i).2 hik;rw[Array.getElem?_eq_getElem a]at h3;rw[Option.some.inj h3];simp
open Sy in
theorem open_f12{H:Type}{enc:TypeId × Value->H}{W:World}{base b2:Nat}{sp:Nat->Bool}{hd:Bool}{v:Value}{d:DataW H}{ps:List MemPlace}
  (hv:Value.okWide Tryz.prog W .any base 38 v) (h:DataW.Trod enc Tryz.prog W b2 sp hd 38 v d ps):∃ a:N12,v=(L12s a).val o0/\(L12s a).ok:=by
 obtain⟨z,hz,rfl⟩:=limbs_of ⟨_,_,Tryz.underlying38⟩ cellsF12 ints_12 hv h
 let q:Nat->Nat:=fun k=>n4 (z (4*k)) (z (4*k+1)) (z (4*k+2)) (z (4*k+3))
 have hq:∀ k,q k<2^256:=fun k=>n4_below (hz _) (hz _) (hz _) (hz _);have hp:∀ k,pw (q k)=#[.int .u64 (z (4*k):Nat),.int .u64 (z (4*k+1):Nat),.int .u64 (z (4*k+2):Nat),.int .u64 (z (4*k+3):Nat)]:=fun k=>pw_n4 (hz _) (hz _) (hz _) (hz _);have o:∀ k,(F2s (q k,q (k+1))).ok:=fun k=>⟨hq _,hq _,trivial⟩
 refine⟨(((q 0,q 1),(q 4,q 5),(q 8,q 9)),((q 2,q 3),(q 6,q 7),(q 10,q 11))),?_,o 0,o 2,o 4,o 6,o 8,o 10,trivial⟩;have hc:∀ k,(F2s (q k,q (k+1))).cells o0=[.int .u64 (z (4*k):Nat),.int .u64 (z (4*k+1):Nat),.int .u64 (z (4*k+2):Nat),.int .u64 (z (4*k+3):Nat),.int .u64 (z (4*(k+1)):Nat),.int .u64 (z (4*(k+1)+1):Nat),.int .u64 (z (4*(k+1)+2):Nat),.int .u64 (z (4*(k+1)+3):Nat)]:=fun k=>by
  show(pw (q k)).toList++((pw (q (k+1))).toList++[])=_;rw[hp,hp];rfl
 show _=Value.agg ((F2s (q 0,q 1)).cells o0++((F2s (q 2,q 3)).cells o0++((F2s (q 4,q 5)).cells o0++((F2s (q 6,q 7)).cells o0++((F2s (q 8,q 9)).cells o0++((F2s (q 10,q 11)).cells o0++[])))))).toArray;rw[hc 0,hc 2,hc 4,hc 6,hc 8,hc 10];rfl
open Go.ChangeShapes Go.WideShapes Go.ChangeAt Go.RowKit
theorem open_byte{H:Type}{enc:TypeId × Value->H}{W:World}{base b2:Nat}{sp:Nat->Bool}{hd:Bool}{v:Value}{d:DataW H}{ps:List MemPlace}
  (hv:Value.okWide Tryz.prog W .any base 5 v) (h:DataW.Trod enc Tryz.prog W b2 sp hd 5 v d ps):∃ x:Nat,x<256/\v=.int .u8 (x:Nat):=by
 obtain⟨z,rfl,-,-,w⟩:=open_int Tryz.underlying5 hv h;obtain⟨h0,h1⟩:=bounds_u8 w;clear h hv w;obtain⟨n,rfl⟩:=Int.eq_ofNat_of_zero_le h0;exact⟨n,by omega,rfl⟩
def natV(P:Nat)(f:Nat->Nat):Nat->Nat
 | 0=>0
 | n+1=>natV P f n+P^n*f n
theorem natV_lt{P:Nat}{f:Nat->Nat}{n:Nat}(h:∀ j,j<n->f j<P):natV P f n<P^n:=by
 induction n with
 | zero=>simp[natV]
 | succ n ih =>
  have h1:=ih (fun j hj=>h j (by omega));have h0:=h n (by omega);have h2:P^n*(f n+1)<=P^n*P:=Nat.mul_le_mul_left _ h0;simp only[natV];rw[Nat.pow_succ];rw[Nat.mul_add,Nat.mul_one]at h2;omega
theorem natV_split(P:Nat)(f:Nat->Nat)(n:Nat):∀ m,natV P f (n+m)=natV P f n+P^n*natV P (fun j=>f (n+j)) m
 | 0=>by simp[natV]
 | m+1=>by
  rw[<- Nat.add_assoc];simp only[natV];rw[natV_split P f n m,Nat.mul_add,Nat.pow_add,Nat.mul_assoc,Nat.add_assoc]
theorem natV_digit{P:Nat}{f:Nat->Nat}{n:Nat}(h:∀ j,j<n->f j<P)(j:Nat)(hj:j<n):f j=natV P f n / P^j%P:=by
 have hP:0<P:=Nat.lt_of_le_of_lt (Nat.zero_le _) (h j hj);obtain⟨m,rfl⟩:∃ m,n=j+(m+1):=⟨n - j - 1,by omega⟩
 rw[natV_split,Nat.add_mul_div_left _ _ (Nat.pow_pos hP),Nat.div_eq_of_lt (natV_lt (fun i hi=>h i (by omega))),Nat.zero_add,Nat.add_comm m 1,natV_split];simp only[natV,Nat.pow_zero,Nat.one_mul,Nat.zero_add,Nat.add_zero,Nat.pow_one];rw[Nat.add_mul_mod_self_left,Nat.mod_eq_of_lt (h j hj)]
def tn(f:Nat->Nat):Nat->Nat
 | 0=>0
 | n+1=>if f n=0 then tn f n else n+1
theorem tn_le(f:Nat->Nat):∀ n,tn f n<=n
 | 0=>Nat.le_refl _
 | n+1=>by unfold tn;split;exact Nat.le_succ_of_le (tn_le f n);exact Nat.le_refl _
theorem tn_top(f:Nat->Nat):∀ n,tn f n=0\/f (tn f n - 1)≠0
 | 0=>.inl rfl
 | n+1=>by unfold tn;split;exact tn_top f n;exact .inr (by simpa using ‹¬f n=0›)
theorem natV_tn(P:Nat)(f:Nat->Nat):∀ n,natV P f (tn f n)=natV P f n
 | 0=>rfl
 | n+1=>by
  unfold tn;split
  ·rename_i h;rw[natV_tn P f n];simp only[natV];rw[h];rfl
  ·rfl
open Go.RowKit
def PtN(w:World)(b o n:Nat)(f:Nat->Nat):Prop:=b<w.heap.size/\∀ j,j<n->w.cell? ⟨b,o+j,none⟩=some (.int .u32 (f j:Nat))
def RdA(w:World)(a:Option Addr)(n:Nat)(f:Nat->Nat):Prop:=n=0\/∃ b o,a=some ⟨b,o,none⟩/\PtN w b o n f
theorem PtN.below{w w':World}{b o n:Nat}{f:Nat->Nat}(h:PtN w b o n f)(hb:Below w.heap.size w w'):PtN w' b o n f :=
 ⟨Nat.lt_of_lt_of_le h.1 hb.size,fun j hj=>(hb.cell (p:=⟨b,o+j,none⟩) h.1).trans (h.2 j hj)⟩
theorem RdA.below{w w':World}{a:Option Addr}{n:Nat}{f:Nat->Nat}(h:RdA w a n f)(hb:Below w.heap.size w w'):RdA w' a n f:=by
 rcases h with h | ⟨b,o,ha,hp⟩
 ·exact .inl h
 ·exact .inr ⟨b,o,ha,hp.below hb⟩
theorem RdA.less{w:World}{a:Option Addr}{n:Nat}{f:Nat->Nat}(h:RdA w a n f)(m:Nat)(hm:m<=n):RdA w a m f:=by
 rcases h with rfl | ⟨b,o,ha,hp⟩
 ·exact .inl (by omega)
 ·exact .inr ⟨b,o,ha,hp.1,fun j hj=>hp.2 j (by omega)⟩
theorem PtN.rd{w:World}{b o n:Nat}{f:Nat->Nat}(h:PtN w b o n f):RdA w (some ⟨b,o,none⟩) n f:=.inr ⟨b,o,rfl,h⟩
theorem RdA.at_{w:World}{a:Option Addr}{n:Nat}{f:Nat->Nat}(h:RdA w a n f)(cap k:Nat)(hk:k<n):∃ p:Addr,(∀ w,(Instr.indexAt 46 (.slice a n cap) (.int .i64 (k:Int))).run Tryz.prog w=.ok (.pointer (some p)) w)/\p.block<w.heap.size/\(∃ q,a=some q/\q.block=p.block)/\w.cell? p=some (.int .u32 (f k:Nat)):=by
 rcases h with rfl | ⟨b,o,rfl,hp⟩
 ·omega
 ·refine⟨⟨b,o+k,none⟩,fun w=>?_,hp.1,⟨_,rfl,rfl⟩,hp.2 k hk⟩
  have h0:(0:Int)<=k:=by omega
  have h1:(k:Int)<n:=by omega
  go_simp
theorem slice_nat(a:Option Addr)(len cap h:Nat)(hh:(h:Int)<=cap)(w:World):(Instr.slice 46 (.slice a len cap) none (some (.int .i64 (h:Int))) none).run Tryz.prog w=.ok (.slice a h cap) w:=by
 have hsz:(sizeOf (Tryz.prog.elem 46)).run Tryz.prog w=.ok 1 w:=by kernel_rfl
 rw[run_slice_h w 46 a len cap (by kernel_rfl) .i64 _ (by omega) hh,hsz];cases a <;> simp[Result.andThen,sliced,Addr.add]
theorem trim_any(a:Option Addr)(n cap:Nat)(f:Nat->Nat)(hn:(n:Int)<=140737488355328)(hc:n<=cap)(w:World)(hP:RdA w a n f) :
  Calls Tryz.prog 79 #[.slice a n cap] w fun e w'=>e=.returned (.slice a (tn f n) cap)/\w=w':=by
 have HP:=Lib.hid hP;clear hP;have hsl:∀ h:Nat,(h:Int)<=cap->∀ w,(Instr.slice 46 (.slice a n cap) none (some (.int .i64 (h:Int))) none).run Tryz.prog w=.ok (.slice a h cap) w:=fun h hh w=>slice_nat a n cap h hh w;have HSL:=Lib.hid hsl;clear hsl;go_enter Tryz.func79,Tryz.ntmps79;go_wp2
 go_loop [3] (fun iv=>∃ k:Nat,k<=n/\iv=.int .i64 k/\Hid (tn f n=tn f k)) (fun iv=>(intOf iv).toNat)
 case atStart=>exact⟨n,Nat.le_refl _,rfl,Lib.hid rfl⟩
 case round =>
  obtain⟨k,hk,rfl,H⟩:=hrel;by_cases hk0:k=0
  ·have e:tn f n=k:=by rw[H.out,hk0];rfl
   have hk1:¬(0:Int)<k:=by omega
   have HE:=Lib.hid e;clear e H hk0;have hs:=HSL.out k (by omega);go_wp2;go_ret;exact⟨by rw[HE.out];rfl,rfl⟩
  ·obtain⟨i,hi⟩:∃ i:Nat,(k:Int) - 1=(i:Int):=⟨k - 1,by omega⟩
   have hik:k=i+1:=by omega
   have hi0:(0:Int)<=i:=by omega
   have hi1:(i:Int)<n:=by omega
   have hk1:(0:Int)<k:=by omega
   obtain⟨p,hx,-,-,ca⟩:=HP.out.at_ cap i (by omega);have HIK:=Lib.hid hik;clear hik;by_cases hz:f i=0
   ·have hz':((f i:Nat):Int)=0:=by omega
    have hz2:(((f i:Nat):Int) == 0)=true:=by simp[hz]
    have HZ:=Lib.hid hz;clear hz;go_wp2
    go_round
    case rel=>exact⟨i,by omega,rfl,Lib.hid (by rw[H.out,HIK.out,tn,if_pos HZ.out])⟩
    case measure=>simp[intOf];omega
   ·have hz2:(((f i:Nat):Int) == 0)=false:=by simp[hz]
    have hs:=HSL.out k (by omega);have e:tn f n=k:=by rw[H.out,HIK.out,tn,if_neg hz]
    have HE:=Lib.hid e;clear e H hz;go_wp2;go_ret;exact⟨by rw[HE.out];rfl,rfl⟩
open Go.RowKit
def pl(f:Nat->Nat)(n:Nat):List Value:=(List.range n).map fun j=>.int .u32 (f j:Nat)
theorem pl_len(f:Nat->Nat)(n:Nat):(pl f n).length=n:=by simp[pl]
theorem pl_at(f:Nat->Nat)(n j:Nat)(h:j<n):(pl f n)[j]?=some (.int .u32 (f j:Nat)):=by simp[pl,h]
theorem one_pl(f:Nat->Nat)(n:Nat):∀ u∈pl f n,u.oneCell'=true:=fun u hu=>by
 unfold pl at hu;rw[List.mem_map]at hu;obtain⟨j,-,rfl⟩:=hu;rfl
theorem news_pl{w:World}{b o n:Nat}{f:Nat->Nat}(h:PtN w b o n f):∀ j u,(pl f n)[j]?=some u->w.cell? ((⟨b,o,none⟩:Addr).add j)=some u:=fun j u hj=>by
 have hj2:j<n:=by
  have:=(List.getElem?_eq_some_iff.1 hj).1;rwa [pl_len]at this
 rw[pl_at _ _ _ hj2]at hj;cases hj;have h:=h.2 j hj2;cases j with
 | zero=>simpa[Addr.add]using h
 | succ j=>simpa[Addr.add]using h
theorem own_pt{w:World}{base n:Nat}{v:Value}{f:Nat->Nat}(h:w.ownsRow base 53 1 v n (pl f n))(hn:0<n):∃ g cap,v=.slice (some ⟨g,0,none⟩) n cap/\n<=cap/\base<=g/\PtN w g 0 n f:=by
 obtain⟨-,h1⟩:=h;rcases h1 with⟨-,h0⟩ | ⟨g,cap,cur,rfl,hg,hc,hnc,hm,hcs,ht⟩
 ·omega
 ·refine⟨g,cap,rfl,hnc,hg,(Array.getElem?_eq_some_iff.1 hc).1,fun j hj=>?_⟩
  rw[Nat.zero_add,cell_of_row _ _ _ _ _ _ hc,<- pl_at f n j hj,<- ht];simp only[Nat.mul_one,List.getElem?_take,hj,if_true];simp
theorem bits_u32_nat(a b:Nat)(ha:a<4294967296)(hb:b<4294967296) :
  bits .and .u32 (a:Int) (b:Int)=((a &&& b:Nat):Int)/\bits .or .u32 (a:Int) (b:Int)=((a ||| b:Nat):Int)/\bits .xor .u32 (a:Int) (b:Int)=((a ^^^ b:Nat):Int):=by
 have h1:(BitVec.ofInt 32 (a:Int)).toNat=a:=by
  rw[BitVec.ofInt_natCast,BitVec.toNat_ofNat];exact Nat.mod_eq_of_lt (by omega)
 have h2:(BitVec.ofInt 32 (b:Int)).toNat=b:=by
  rw[BitVec.ofInt_natCast,BitVec.toNat_ofNat];exact Nat.mod_eq_of_lt (by omega)
 refine⟨?_,?_,?_⟩
 ·have hx:a &&& b<2^32:=Nat.and_lt_two_pow _ (by omega)
  show IntKind.u32.wrap ((BitVec.ofInt 32 (a:Int) &&& BitVec.ofInt 32 (b:Int)).toNat:Int)=_;rw[BitVec.toNat_and,h1,h2,IntKind.wrap_u32];omega
 ·have hx:a ||| b<2^32:=Nat.or_lt_two_pow (by omega) (by omega)
  show IntKind.u32.wrap ((BitVec.ofInt 32 (a:Int) ||| BitVec.ofInt 32 (b:Int)).toNat:Int)=_;rw[BitVec.toNat_or,h1,h2,IntKind.wrap_u32];omega
 ·have hx:a ^^^ b<2^32:=Nat.xor_lt_two_pow (by omega) (by omega)
  show IntKind.u32.wrap ((BitVec.ofInt 32 (a:Int) ^^^ BitVec.ofInt 32 (b:Int)).toNat:Int)=_;rw[BitVec.toNat_xor,h1,h2,IntKind.wrap_u32];omega
theorem info32:(Tryz.prog.info? 53).map (fun i=>(i.zero,i.size,i.bytes))=some (some (.int .u32 0),1,4):=by kernel_rfl
open Go.RowKit
theorem bitLen_boundsN(x:Nat)(h:x<18446744073709551616)(h0:x≠0):1<=Lib.bitLen x/\2^(Lib.bitLen x - 1)<=x/\x<2^Lib.bitLen x:=Lib.bitLenAux_bounds 64 x (by omega) h0
open Go.RowKit
theorem bitLen32(x:Nat)(h:x<4294967296):Lib.bitLen x<=32:=by
 by_cases h0:x=0
 ·subst h0;decide
 ·obtain⟨h1,h2,-⟩:=bitLen_boundsN x (by omega) h0
  rcases Nat.lt_or_ge 32 (Lib.bitLen x)with h3 | h3
  ·have:=Nat.pow_le_pow_right (show 0<2 by omega) (show 32<=Lib.bitLen x - 1 by omega)
   omega
  ·exact h3
open Go.RowKit
structure NvA (w:World) (a:Option Addr) (n cap:Nat) (f:Nat->Nat):Prop where
 cap:n<=cap
 rd:RdA w a n f
 blk:∀ q,a=some q->q.block<w.heap.size
 lt:∀ j,j<n->f j<4294967296
 few:(n:Int)<=35184372088832
theorem NvA.below{w w':World}{a:Option Addr}{n cap:Nat}{f:Nat->Nat}(h:NvA w a n cap f)(hb:Below w.heap.size w w'):NvA w' a n cap f :=
 ⟨h.cap,h.rd.below hb,fun q hq=>Nat.lt_of_lt_of_le (h.blk q hq) hb.size,h.lt,h.few⟩
theorem NvA.trim{w:World}{a:Option Addr}{n cap:Nat}{f:Nat->Nat}(h:NvA w a n cap f):NvA w a (tn f n) cap f :=
 ⟨Nat.le_trans (tn_le f n) h.cap,h.rd.less _ (tn_le f n),h.blk,fun j hj=>h.lt j (Nat.lt_of_lt_of_le hj (tn_le f n)),by have:=tn_le f n;have:=h.few;omega⟩
theorem trim_nv{w:World}{a:Option Addr}{n cap:Nat}{f:Nat->Nat}(h:NvA w a n cap f):Calls Tryz.prog 79 #[.slice a n cap] w fun e w'=>e=.returned (.slice a (tn f n) cap)/\w=w':=trim_any a n cap f (by have:=h.few;omega) h.cap w h.rd
open Go.RowKit
def ArgN(w:World)(v:Value)(n:Nat)(f:Nat->Nat):Prop:=∃(a:Option Addr) (cap:Nat),v=.slice a n cap/\n<=cap/\(a=none->cap=0)/\RdA w a n f
end Go.Proofs.YthnckclbeecnmaaGreat
namespace Go.Proofs.YthnckclbeecnmaaGreat.MT
open Go.RowKit
def KeepT(TT:TypeId)(wa wb:World):Prop:=Below wa.heap.size wa wb\/∃ D cs r,wa.heap[D]?=some (.cells cs TT (0,0))/\wb=wa.setRow D r
theorem KeepT.block{TT T:TypeId}{wa wb:World}(h:KeepT TT wa wb){g:Nat}{cs:Array Value}(hg:wa.heap[g]?=some (.cells cs T (0,0)))(hT:T≠TT):wb.heap[g]?=some (.cells cs T (0,0)):=by
 rcases h with h | ⟨D,ds,r,hD,rfl⟩
 ·exact(h.block _ (Array.getElem?_eq_some_iff.1 hg).1).trans hg
 ·by_cases e:g=D
  ·subst e
   rw[hg]at hD;injection hD with hD
   injection hD with _ hD
   exact absurd hD hT
  ·exact(setRow_other _ _ _ _ e).trans hg
inductive Sp
 | val (d:Nat) (v:Value)
 | blk (d:Nat) (T:TypeId)
 | laid (p:Nat) (T:TypeId)
 | own (d:Nat) (f:Value->World->Prop)
 | none
def Sp.at_(H:Nat)(J:Nat->Array Value):Sp->(Nat->Value)->World->Prop
 | .val d v,s,_=>s d=v
 | .blk d T,s,w=>∃ D,s d=.pointer (some ⟨D,0,Option.none⟩)/\H<=D/\∃ cs:Array Value,w.heap[D]?=some (.cells cs T (0,0))/\cs.size=(J d).size
 | .laid p T,s,w=>∃ D,s p=.pointer (some ⟨D,0,Option.none⟩)/\H<=D/\w.heap[D]?=some (.cells (J p) T (0,0))
 | .own d f,s,w=>f (s d) w
 | .none,_,_=>True
def Sp.rd:Sp->List Nat
 | .val d _=>[d]
 | .blk d _=>[d]
 | .laid p _=>[p]
 | .own d _=>[d]
 | .none=>[]
def Sp.ok(TT:TypeId)(ps:List Nat):Sp->Prop
 | .own _ f=>∀ v wa wb,KeepT TT wa wb->f v wa->f v wb
 | .blk d _=>d∈ps
 | .laid d _=>d∈ps
 | _=>True
def spAt(L:List Sp)(i:Nat):Sp:=L.getD i .none
def okL(TT:TypeId)(ps:List Nat):List Sp->Prop
 | []=>True
 | p::l=>p.ok TT ps/\okL TT ps l
theorem okL.at_{TT:TypeId}{ps:List Nat}:∀ {L:List Sp},okL TT ps L->∀ i,(spAt L i).ok TT ps
 | [],_,i=>by simp[spAt,Sp.ok]
 | p::l,h,0=>by simpa[spAt]using h.1
 | p::l,h,i+1=>by simpa[spAt]using okL.at_ h.2 i
theorem Sp.same{H:Nat}{J:Nat->Array Value}{p:Sp}{s s':Nat->Value}{w:World}(h:∀ t∈p.rd,s t=s' t)(hp:p.at_ H J s w):p.at_ H J s' w:=by
 cases p with
 | val d v=>exact(h d (by simp[Sp.rd])).symm.trans hp
 | blk d T=>obtain⟨D,h1,h2⟩:=hp;exact⟨D,(h d (by simp[Sp.rd])).symm.trans h1,h2⟩
 | laid d T=>obtain⟨D,h1,h2⟩:=hp;exact⟨D,(h d (by simp[Sp.rd])).symm.trans h1,h2⟩
 | own d f=>have e:=h d (by simp[Sp.rd]);exact(congrArg (fun v=>f v w) e).mp hp
 | none=>trivial
structure AN (ps:List Nat) (H:Nat) (s:Nat->Value) (wx:World):Prop where
 at_:∀ p∈ps,∀ q∈ps,p≠q->∀ D,s p=.pointer (some ⟨D,0,none⟩)->H<=D->D<wx.heap.size
 ne:∀ p∈ps,∀ q∈ps,p≠q->∀ D E,s p=.pointer (some ⟨D,0,none⟩)->s q=.pointer (some ⟨E,0,none⟩)->H<=D->H<=E->D≠E
theorem AN.start{ps:List Nat}{H:Nat}{s:Nat->Value}{wx:World}(h:∀ p∈ps,∀ q∈ps,p≠q->∀ D,s p=.pointer (some ⟨D,0,none⟩)->D<H):AN ps H s wx :=
 ⟨fun p hp q hq hne D e hl=>(by have:=h p hp q hq hne D e;omega),fun p hp q hq hne D _ e _ hl _=>(by have:=h p hp q hq hne D e;omega)⟩
theorem AN.put{ps:List Nat}{H:Nat}{s s':Nat->Value}{wx w':World}(h:AN ps H s wx)(e:∀ p∈ps,s' p=s p)(hl:wx.heap.size<=w'.heap.size):AN ps H s' w' :=
 ⟨fun p hp q hq hne D hD hh=>Nat.lt_of_lt_of_le (h.at_ p hp q hq hne D ((e p hp) ▸ hD) hh) hl,fun p hp q hq hne D E h1 h2=>h.ne p hp q hq hne D E ((e p hp) ▸ h1) ((e q hq) ▸ h2)⟩
theorem AN.new{ps:List Nat}{H t:Nat}{s s':Nat->Value}{wx w':World}(h:AN ps H s wx)(e:s' t=.pointer (some ⟨wx.heap.size,0,none⟩))(eo:∀ p∈ps,p≠t->s' p=s p)(hl:wx.heap.size<w'.heap.size):AN ps H s' w':=by
 have ge:∀ p∈ps,∀ D,s' p=.pointer (some ⟨D,0,none⟩)->p≠t->s p=.pointer (some ⟨D,0,none⟩):=fun p hp D hD hne=>(eo p hp hne) ▸ hD;refine⟨fun p hp q hq hne D hD hh=>?_,fun p hp q hq hne D E h1 h2 hh he=>?_⟩
 ·by_cases r:p=t
  ·subst r;rw[e]at hD;cases hD;exact hl
  ·have:=h.at_ p hp q hq hne D (ge p hp D hD r) hh;omega
 ·by_cases a:p=t
  ·subst a
   rw[e]at h1;cases h1;have:=h.at_ q hq p hp (Ne.symm hne) E (ge q hq E h2 (Ne.symm hne)) he;omega
  ·by_cases b:q=t
   ·subst b
    rw[e]at h2;cases h2;have:=h.at_ p hp q hq hne D (ge p hp D h1 a) hh;omega
   ·exact h.ne p hp q hq hne D E (ge p hp D h1 a) (ge q hq E h2 b) hh he
def RNM(TT:TypeId)(H:Nat)(ps:List Nat)(J:Nat->Array Value)(s:Nat->Value)(wa wb:World):Prop:=Below wa.heap.size wa wb\/∃ p∈ps,∃ D,s p=.pointer (some ⟨D,0,none⟩)/\H<=D/\(∃ cs,wa.heap[D]?=some (.cells cs TT (0,0)))/\wb=wa.setRow D (J p)
theorem RNM.same{TT:TypeId}{H:Nat}{ps:List Nat}{J:Nat->Array Value}{s:Nat->Value}(wa:World):RNM TT H ps J s wa wa:=.inl (Below.refl _ _)
def CM(w:World)(ps:List Nat)(s:Nat->Value)(wx:World):Prop:=Below w.heap.size w wx/\AN ps w.heap.size s wx
theorem Sp.keep{TT:TypeId}{w:World}{ps:List Nat}{J:Nat->Array Value}{p:Sp}(ho:p.ok TT ps){s:Nat->Value}{wa wb:World}(hC:CM w ps s wa)(hR:RNM TT w.heap.size ps J s wa wb)(hp:p.at_ w.heap.size J s wa):p.at_ w.heap.size J s wb:=by
 cases p with
 | val d v=>exact hp
 | none=>trivial
 | own d f =>
  rcases hR with h | ⟨q,hq,E,hE,he,⟨cs,hcs⟩,e⟩
  ·exact ho _ _ _ (.inl h) hp
  ·exact ho _ _ _ (.inr ⟨E,cs,_,hcs,e⟩) hp
 | blk d T =>
  obtain⟨D,h1,hh,cs,h2,h3⟩:=hp;rcases hR with h | ⟨q,hq,E,hE,he,-,rfl⟩
  ·exact⟨D,h1,hh,cs,(h.block _ (Array.getElem?_eq_some_iff.1 h2).1).trans h2,h3⟩
  ·by_cases e:D=E
   ·subst e
    have:q=d:=Classical.byContradiction fun hne=>hC.2.ne q hq d ho hne D D hE h1 he hh rfl;subst this;exact⟨D,h1,hh,J q,setRow_heap _ _ _ _ _ _ h2,rfl⟩
   ·exact⟨D,h1,hh,cs,(setRow_other _ _ _ _ e).trans h2,h3⟩
 | laid d T =>
  obtain⟨D,h1,hh,h2⟩:=hp;rcases hR with h | ⟨q,hq,E,hE,he,-,rfl⟩
  ·exact⟨D,h1,hh,(h.block _ (Array.getElem?_eq_some_iff.1 h2).1).trans h2⟩
  ·by_cases e:D=E
   ·subst e
    have:q=d:=Classical.byContradiction fun hne=>hC.2.ne q hq d ho hne D D hE h1 he hh rfl;subst this;exact⟨D,h1,hh,setRow_heap _ _ _ _ _ _ h2⟩
   ·exact⟨D,h1,hh,(setRow_other _ _ _ _ e).trans h2⟩
section
variable {P:Program} {ops:Array Oper} {Q:Exit->Act->World->Prop} {a0:Act}
theorem region_many{TT:TypeId}{id:Nat}{l:List Oper}{w:World}(L:List Sp)(ps:List Nat)(J:Nat->Array Value)(rk:Nat->Nat)(hm:P.follows .mixedOrders=true)
  (hB:(distinctB l&&rankB l.toArray rk&&ownB l.toArray (fun i=>(spAt L i).rd)&&insideB l.toArray)=true) (hO:okL TT ps L) (h0:∀ p∈ps,∀ q∈ps,p≠q->∀ D,a0.tmps.getD p undef=.pointer (some ⟨D,0,none⟩)->D<w.heap.size)
  (hst:StepsU P l.toArray Q (CM w ps) (fun i s wx=>(spAt L i).at_ w.heap.size J s wx) (RNM TT w.heap.size ps J) a0 0 l)
  (hQ:∀(f:Oper->Value) wx,Below w.heap.size w wx->AN ps w.heap.size (slots (putAll f l a0)) wx->(∀ i o,l[i]?=some o->(spAt L i).at_ w.heap.size J (slots (putAll f l a0)) wx)->Q .normal (putAll f l a0) wx):(Code.region id l.toArray true).wp P Q a0 w :=
 region_tie2 (CM w ps) (fun i s wx=>(spAt L i).at_ w.heap.size J s wx) (RNM TT w.heap.size ps J) (fun i=>(spAt L i).rd) rk hm hB ⟨Below.drew (Below.refl _ _),AN.start h0⟩ (fun _ _ _ _ h hp=>Sp.same h hp) (fun i _ _ _ hC hR hp=>Sp.keep (hO.at_ i) hC hR hp) hst (fun f wx hC hp=>hQ f wx hC.1 hC.2 hp)
/-! What each kind of operation must do. -/
variable {TT:TypeId} {w:World} {L:List Sp} {ps:List Nat} {J:Nat->Array Value}
abbrev PhiN(w:World)(L:List Sp)(J:Nat->Array Value):Nat->(Nat->Value)->World->Prop:=fun i s wx=>(spAt L i).at_ w.heap.size J s wx
theorem ps_other{ps:List Nat}{a:Act}{d:Nat}{v:Value}(h:ps.all (· != d)=true):∀ p∈ps,slots (a.put (some d) v) p=slots a p:=fun p hp=>slots_other a d p v (by
 have:=List.all_eq_true.1 h p hp;have h2:p≠d:=by simpa using this
 exact fun e=>h2 e.symm)
theorem mm_val{k d:Nat}{o:Oper}{a:Act}{wx:World}(v:Value)(hd:o.dst=some d)(hw:Region.wanted o (yielded ops a.tmps)=true)(hr:(execOp a.eval o).run P wx=.ok (.value v) wx)(hC:CM w ps (slots a) wx)(hps:ps.all (· != d)=true)(hsz:d<a.tmps.size)(hv:spAt L k=.val d v):StepU P ops Q (CM w ps) (PhiN w L J) (RNM TT w.heap.size ps J) k o a wx :=
 uu_val v hw hr (by rw[hd];exact⟨hC.1,hC.2.put (ps_other hps) (Nat.le_refl _)⟩) (by rw[hd];show(spAt L k).at_ w.heap.size J _ _;rw[hv];exact slots_put _ _ _ hsz) (RNM.same _)
theorem mm_load{k d:Nat}{o:Oper}{a:Act}{wx:World}(T:TypeId)(x:Operand)(p v:Value)(hd:o.dst=some d)(ho:o.op=.load T x)(hw:Region.wanted o (yielded ops a.tmps)=true)(hp:a.eval x=p)
  (hr:(Instr.loadAt T p).run P wx=.ok v wx) (hC:CM w ps (slots a) wx) (hps:ps.all (· != d)=true) (hsz:d<a.tmps.size) (hv:spAt L k=.val d v):StepU P ops Q (CM w ps) (PhiN w L J) (RNM TT w.heap.size ps J) k o a wx :=
 mm_val v hd hw (by
  unfold execOp;rw[ho];simp only[hp,Sem.run_bind,hr,Result.andThen_ok,Sem.run_pure]) hC hps hsz hv
theorem mm_call{k d:Nat}{o:Oper}{a:Act}{wx:World}(f:FuncId)(args:Array Value)(v:Value)(hd:o.dst=some d)(hw:Region.wanted o (yielded ops a.tmps)=true)(he:(execOp a.eval o).run P wx=.ok (.enter f args) wx)
  (hc:Calls P f args wx fun e w'=>e=.returned v/\Below wx.heap.size wx w') (hC:CM w ps (slots a) wx) (hps:ps.all (· != d)=true) (hsz:d<a.tmps.size) (hv:spAt L k=.val d v):StepU P ops Q (CM w ps) (PhiN w L J) (RNM TT w.heap.size ps J) k o a wx :=
 uu_call f args hw he (hc.mono fun e w' hh=>⟨v,hh.1,by rw[hd];exact⟨hC.1.trans (hh.2.mono hC.1.size),hC.2.put (ps_other hps) hh.2.size⟩,by rw[hd];show(spAt L k).at_ w.heap.size J _ _;rw[hv];exact slots_put _ _ _ hsz,.inl hh.2⟩)
theorem mm_new{k d:Nat}{o:Oper}{a:Act}{wx:World}(T:TypeId)(z:Array Value)(hd:o.dst=some d)(hw:Region.wanted o (yielded ops a.tmps)=true)(hr:(execOp a.eval o).run P wx=.ok (.value (.pointer (some ⟨wx.heap.size,0,none⟩))) (wx.alloc (.cells z T)))(hC:CM w ps (slots a) wx)(hz:z.size=(J d).size)(hsz:d<a.tmps.size)(hv:spAt L k=.blk d T):StepU P ops Q (CM w ps) (PhiN w L J) (RNM TT w.heap.size ps J) k o a wx:=by
 have hb:Below wx.heap.size wx (wx.alloc (.cells z T)):=(Below.refl _ _).alloc (Nat.le_refl _) _;refine uu_new (.pointer (some ⟨wx.heap.size,0,none⟩)) hw hr ?_ ?_ (.inl hb)
 ·rw[hd]
  exact⟨hC.1.trans (hb.mono hC.1.size),hC.2.new (slots_put _ _ _ hsz) (fun p _ hne=>slots_other _ _ _ _ (Ne.symm hne)) (by simp)⟩
 ·rw[hd]
  show(spAt L k).at_ w.heap.size J _ _;rw[hv];exact⟨_,slots_put _ _ _ hsz,hC.1.size,z,heap_alloc_new _ _,hz⟩
theorem mm_store{k p:Nat}{o:Oper}{a:Act}{wx:World}(T:TypeId)(x y:Operand)(v:Value)(hd:o.dst=none)(ho:o.op=.store T x y)(hw:Region.wanted o (yielded ops a.tmps)=true)(hx:a.eval x=slots a p)(hy:a.eval y=v)(hp:p∈ps)
  (hk:(Sp.blk p T).at_ w.heap.size J (slots a) wx) (hr:∀ D cs,wx.heap[D]?=some (.cells cs T (0,0))->cs.size=(J p).size->(Instr.storeAt T (.pointer (some ⟨D,0,none⟩)) v).run P wx=.ok () (wx.setRow D (J p))) (hC:CM w ps (slots a) wx) (hv:spAt L k=.laid p T) (hT:T=TT):StepU P ops Q (CM w ps) (PhiN w L J) (RNM TT w.heap.size ps J) k o a wx:=by
 obtain⟨D,h1,hh,cs,h2,h3⟩:=hk;refine uu_store (w':=wx.setRow D (J p)) hw hd ?_ ⟨below_setRow hC.1 hh _,hC.2.put (fun _ _=>rfl) (by simp)⟩ ?_ (.inr ⟨p,hp,D,h1,hh,⟨cs,hT ▸ h2⟩,rfl⟩)
 ·unfold execOp
  rw[ho];simp only[hx,h1,hy,Sem.run_bind,hr D cs h2 h3,Result.andThen_ok,Sem.run_pure]
 ·show(spAt L k).at_ w.heap.size J _ _
  rw[hv];exact⟨D,h1,hh,setRow_heap _ _ _ _ _ _ h2⟩
theorem mm_grow{k d:Nat}{o:Oper}{a:Act}{wx:World}(v:Value)(w':World)(g:Value->World->Prop)(hd:o.dst=some d)(hw:Region.wanted o (yielded ops a.tmps)=true)(hr:(execOp a.eval o).run P wx=.ok (.value v) w')(hb:Below wx.heap.size wx w')(hg:g v w')
  (hC:CM w ps (slots a) wx) (hps:ps.all (· != d)=true) (hsz:d<a.tmps.size) (hv:spAt L k=.own d g):StepU P ops Q (CM w ps) (PhiN w L J) (RNM TT w.heap.size ps J) k o a wx :=
 uu_new v hw hr (by rw[hd];exact⟨hC.1.trans (hb.mono hC.1.size),hC.2.put (ps_other hps) hb.size⟩) (by rw[hd];show(spAt L k).at_ w.heap.size J _ _;rw[hv];show g _ _;rw[slots_put _ _ _ hsz];exact hg) (.inl hb)
end
end Go.Proofs.YthnckclbeecnmaaGreat.MT
namespace Go.Proofs.YthnckclbeecnmaaGreat
open Go.RowKit
def LN(n:Nat)(f:Nat->Nat)(v:Value)(w:World):Prop:=∃ g c cs,v=.slice (some ⟨g,0,none⟩) n c/\w.heap[g]?=some (.cells cs 53 (0,0))/\NvA w (some ⟨g,0,none⟩) n c f
theorem KeepT.size{TT:TypeId}{wa wb:World}(h:MT.KeepT TT wa wb):wa.heap.size<=wb.heap.size:=by
 rcases h with h | ⟨D,cs,r,_,rfl⟩
 ·exact h.size
 ·simp
theorem LN.keep{TT:TypeId}(hT:53≠TT){n:Nat}{f:Nat->Nat}(v:Value)(wa wb:World)(h:MT.KeepT TT wa wb):LN n f v wa->LN n f v wb:=by
 rintro⟨g,c,cs,h1,h2,h3⟩;have h4:=h.block h2 hT;refine⟨g,c,cs,h1,h4,h3.cap,?_,fun q hq=>Nat.lt_of_lt_of_le (h3.blk q hq) (KeepT.size h),h3.lt,h3.few⟩;rcases h3.rd with h0 | ⟨b,o,e,hp⟩
 ·exact .inl h0
 ·cases e
  exact .inr ⟨g,0,rfl,Nat.lt_of_lt_of_le hp.1 (KeepT.size h),fun j hj=>(World.cell?_of_block (a:=⟨g,0+j,none⟩) (show wb.heap[g]?=wa.heap[g]? by rw[h4,h2])).trans (hp.2 j hj)⟩
def joinF(n:Nat)(f h:Nat->Nat)(j:Nat):Nat:=if j<n then f j else h (j - n)
theorem pl_join(n m:Nat)(f h:Nat->Nat):pl f n++pl h m=pl (joinF n f h) (n+m):=by
 unfold pl;rw[List.range_add,List.map_append,List.map_map];congr 1
 ·apply List.map_congr_left
  intro j hj;unfold joinF;rw[if_pos (by simpa using hj)]
 ·apply List.map_congr_left
  intro j _;show _=Value.int .u32 ((joinF n f h (n+j):Nat):Int);unfold joinF;rw[if_neg (by omega),show n+j - n=j by omega]
theorem app_grow{w:World}{ty:TypeId}{g o n cap b p m c:Nat}{f h:Nat->Nat}(hf:PtN w g o n f)(hh:PtN w b p m h)(lf:∀ j,j<n->f j<4294967296)(lh:∀ j,j<m->h j<4294967296)(hc:cap<n+m)(few:n+m<=100000) :
  ∃ v' w',(Builtin.append_ #[46,46] ty #[.slice (some ⟨g,o,none⟩) n cap,.slice (some ⟨b,p,none⟩) m c]).run Tryz.prog w=.ok v' w'/\LN (n+m) (joinF n f h) v' w'/\Below w.heap.size w w':=by
 obtain⟨i0,hi,hz0,hz1,hz2⟩:=info_parts info32;have hr:=run_append_grow (P:=Tryz.prog) w 46 ty 53 i0 (.int .u32 0) Tryz.underlying46 hi hz0 ⟨g,o,none⟩ n cap (pl f n) (by rw[pl_len,hz1,Nat.mul_one]) (news_pl hf) ⟨b,p,none⟩ m c (pl h m) (by rw[pl_len,hz1,Nat.mul_one]) (news_pl hh) hc (by omega) (growslice_fits (by omega) (by rw[hz2];omega));refine⟨_,_,hr,?_,(Below.drew (Below.refl _ _)).alloc (Nat.le_refl _) _⟩;have hge:=grownCap_ge w (n+m) cap 53;refine⟨w.heap.size,_,_,rfl,heap_alloc_new w.drew _,hge,.inr ⟨w.heap.size,0,rfl,by simp,fun j hj=>?_⟩,fun q hq=>(by cases hq;simp),fun j hj=>?_,by omega⟩
 ·rw[Nat.zero_add]
  refine(cell_of_row _ _ j _ _ _ (heap_alloc_new w.drew _)).trans ?_;have e:((pl f n).toArray++(pl h m).toArray)=(pl (joinF n f h) (n+m)).toArray:=by rw[<- pl_join];simp
  rw[e,Array.getElem?_append_left (by simp[pl_len];exact hj),List.getElem?_toArray,pl_at _ _ _ hj]
 ·unfold joinF
  split
  ·rename_i h1;exact lf j h1
  ·exact lh _ (by omega)
end Go.Proofs.YthnckclbeecnmaaGreat
