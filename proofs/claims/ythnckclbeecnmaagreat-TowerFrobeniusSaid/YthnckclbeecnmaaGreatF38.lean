/- TowerFrobenius: the regions where lists are made and powers by them taken: none, and one too long. (Cut to what is reached, written closely: TwPn · TwD · NPow · NExp · NFrom · NRPlain · NShifts · NZeros · NRPlainR · NDigits · NRef · NRLen · TwDe · TwR4 · TwR9.) -/
import Derived.Test.YthnckclbeecnmaaGreatF37
import Derived.Test.YthnckclbeecnmaaGreatF27
import Derived.ArgAppend
import Derived.Lib.ItoaMem
import Derived.Test.YthnckclbeecnmaaGreatF1
import Derived.Lib.AppendZerosOnto
import Derived.Test.YthnckclbeecnmaaGreatF5
import Derived.StillTailTactics
import Derived.StillTactics
import Derived.Deep.RegionHeld3
import Derived.Shelf.Spec.TrailingZeros
import Derived.Test.YthnckclbeecnmaaGreatF13
import Derived.Test.YthnckclbeecnmaaGreatF28
set_option linter.all false
set_option maxRecDepth 100000
set_option maxHeartbeats 8000000
namespace Go.Proofs.YthnckclbeecnmaaGreat
open Sy
abbrev Z12(m:Nat):=((Zp m × Zp m) × (Zp m × Zp m) × (Zp m × Zp m)) × ((Zp m × Zp m) × (Zp m × Zp m) × (Zp m × Zp m))
section
variable {m:Nat} (hp:Pr m)
theorem pc2_cj(a:N2):pc2 m a=v2 (cj hp (ph2 hp a)):=pc2_eq hp a
theorem ph_one:ph2 hp (1,0)=(K2 hp).one:=Prod.ext (zp_ext (Nat.mod_eq_of_lt hp.1)) (zp_ext (Nat.zero_mod m))
theorem pwr_fr(t:N2)(a:N12):Sy.pwr (m2 hp) (pc2 m) t a=v12 (fr hp (ph2 hp t) (ph12 hp a)):=by
 have k1:ph2 hp (tk (m2 hp) t 1)=ph2 hp t:=by
  show ph2 hp (m2 hp (1,0) t)=_;rw[m2,ph2_v,ph_one,CRing.one_mul]
 have ks:∀ k,ph2 hp (tk (m2 hp) t (k+1))=(K2 hp).mul (ph2 hp (tk (m2 hp) t k)) (ph2 hp t):=fun k=>by
  show ph2 hp (m2 hp (tk (m2 hp) t k) t)=_;rw[m2,ph2_v]
 have k2:=ks 1;have k3:=ks 2;have k4:=ks 3;have k5:=ks 4;rw[k1]at k2;rw[k2]at k3;rw[k3,CRing.mul_assoc]at k4;rw[k4]at k5;have e:∀(x:N2) (k:Nat),m2 hp (pc2 m x) (tk (m2 hp) t k)=v2 ((K2 hp).mul (cj hp (ph2 hp x)) (ph2 hp (tk (m2 hp) t k))):=fun x k=>by
  rw[m2,pc2_cj hp,ph2_v]
 unfold Sy.pwr;rw[e,e,e,e,e,e,k1,k2,k3,k4,k5];show((v2 ((K2 hp).mul (cj hp (ph2 hp a.1.1)) (ph2 hp (1,0))),_,_),(_,_,_))=_;rw[ph_one,CRing.mul_one];rfl
/-! Times n,n n,.. -/
def scn(n:Zp m × Zp m)(z:Z12 m):Z12 m :=
 ((z.1.1,(K2 hp).mul z.1.2.1 ((K2 hp).mul n n),(K2 hp).mul z.1.2.2 ((K2 hp).mul ((K2 hp).mul n n) ((K2 hp).mul n n))),((K2 hp).mul z.2.1 n,(K2 hp).mul z.2.2.1 ((K2 hp).mul ((K2 hp).mul n n) n),(K2 hp).mul z.2.2.2 ((K2 hp).mul ((K2 hp).mul ((K2 hp).mul n n) ((K2 hp).mul n n)) n)))
theorem fr_fr(t:Zp m × Zp m)(z:Z12 m):fr hp t (fr hp t z)=scn hp ((K2 hp).mul (cj hp t) t) z:=by
 unfold fr scn;refine Prod.ext (Prod.ext ?_ (Prod.ext ?_ ?_)) (Prod.ext ?_ (Prod.ext ?_ ?_))
 ·exact cj_cj hp _
 all_goals
  dsimp only;simp only[cj_mul,cj_cj]
  ac_rfl
theorem scn_sc(n k:Zp m × Zp m)(z:Z12 m):scn hp n (scn hp k z)=scn hp ((K2 hp).mul k n) z:=by
 unfold scn;refine Prod.ext (Prod.ext rfl (Prod.ext ?_ ?_)) (Prod.ext ?_ (Prod.ext ?_ ?_))
 all_goals
  dsimp only
  ac_rfl
theorem scn_one(z:Z12 m):scn hp (K2 hp).one z=z:=by
 unfold scn;simp only[CRing.mul_one]
theorem fr12{t:Zp m × Zp m}(h:scn hp ((K2 hp).mul ((K2 hp).mul ((K2 hp).mul ((K2 hp).mul (cj hp t) t) ((K2 hp).mul (cj hp t) t)) ((K2 hp).mul ((K2 hp).mul (cj hp t) t) ((K2 hp).mul (cj hp t) t))) ((K2 hp).mul ((K2 hp).mul (cj hp t) t) ((K2 hp).mul (cj hp t) t)))=scn hp (K2 hp).one)(z:Z12 m):fr hp t (fr hp t (fr hp t (fr hp t (fr hp t (fr hp t (fr hp t (fr hp t (fr hp t (fr hp t (fr hp t (fr hp t z)))))))))))=z:=by
 rw[fr_fr,fr_fr,fr_fr,fr_fr,fr_fr,fr_fr];generalize (K2 hp).mul (cj hp t) t=n at h |-
 rw[scn_sc,scn_sc,scn_sc,scn_sc,scn_sc];refine Eq.trans ?_ (scn_one hp z);rw[<- h];have e:(K2 hp).mul n ((K2 hp).mul n ((K2 hp).mul n ((K2 hp).mul n ((K2 hp).mul n n))))=(K2 hp).mul ((K2 hp).mul ((K2 hp).mul n n) ((K2 hp).mul n n)) ((K2 hp).mul n n):=by ac_rfl
 rw[e]
theorem sqt_m12(a:N12):sqt (a6 hp) (s6 hp) (m6 hp) (shh (l2 hp)) a=m12 hp a a:=by
 refine Prod.ext ?_ ?_
 ·show s6 hp (m6 hp (a6 hp a.1 a.2) (a6 hp a.1 (shh (l2 hp) a.2))) (a6 hp (m6 hp a.1 a.2) (shh (l2 hp) (m6 hp a.1 a.2)))=v6 ((K6 hp).add ((K6 hp).mul (ph6 hp a.1) (ph6 hp a.1)) ((K6 hp).mul (vv hp) ((K6 hp).mul (ph6 hp a.2) (ph6 hp a.2))))
  simp only[s6,a6,m6,ph6_v,shh_eq];refine congrArg v6 (CRing.sub_of _ ?_);simp only[CRing.mul_add,CRing.add_mul]
  ac_rfl
 ·show a6 hp (m6 hp a.1 a.2) (m6 hp a.1 a.2)=v6 ((K6 hp).add ((K6 hp).mul (ph6 hp a.1) (ph6 hp a.2)) ((K6 hp).mul (ph6 hp a.2) (ph6 hp a.1)))
  simp only[a6,m6,ph6_v];rw[(K6 hp).mul_comm (ph6 hp a.2)]
end
/-! At BN254's prime. -/
def tB:Zp pB × Zp pB:=ph2 prB tnB
theorem tB_n6:(K2 prB).mul ((K2 prB).mul ((K2 prB).mul ((K2 prB).mul (cj prB tB) tB) ((K2 prB).mul (cj prB tB) tB)) ((K2 prB).mul ((K2 prB).mul (cj prB tB) tB) ((K2 prB).mul (cj prB tB) tB))) ((K2 prB).mul ((K2 prB).mul (cj prB tB) tB) ((K2 prB).mul (cj prB tB) tB))=(K2 prB).one:=v2_inj prB (by decide +kernel)
theorem P12_fr(a:N12):P12 a=v12 (fr prB tB (ph12 prB a)):=pwr_fr prB tnB a
theorem P12_twelve(a:N12):P12 (P12 (P12 (P12 (P12 (P12 (P12 (P12 (P12 (P12 (P12 (P12 a)))))))))))=v12 (ph12 prB a):=by
 simp only[P12_fr,ph12_v];rw[fr12 prB (congrArg (scn prB) tB_n6)]
open Sy
theorem and15{x:Nat}(hx:x<4294967296):andI .u32 ((x:Nat):Int) 15=((x%16:Nat):Int):=by
 have h:(BitVec.ofInt 32 ((x:Nat):Int) &&& BitVec.ofInt 32 15).toNat=x%16:=by
  rw[BitVec.toNat_and,BitVec.ofInt_natCast,show BitVec.ofInt 32 15=BitVec.ofNat 32 15 from rfl,BitVec.toNat_ofNat,BitVec.toNat_ofNat,Nat.mod_eq_of_lt (show x<2^32 from hx)];exact Nat.and_two_pow_sub_one_eq_mod x 4
 show IntKind.u32.wrap (((BitVec.ofInt 32 ((x:Nat):Int) &&& BitVec.ofInt 32 15).toNat:Nat):Int)=_;rw[h,IntKind.wrap_u32];omega
theorem and1{x:Nat}(hx:x<4294967296):andI .u32 ((x:Nat):Int) 1=((x%2:Nat):Int):=by
 have h:(BitVec.ofInt 32 ((x:Nat):Int) &&& BitVec.ofInt 32 1).toNat=x%2:=by
  rw[BitVec.toNat_and,BitVec.ofInt_natCast,show BitVec.ofInt 32 1=BitVec.ofNat 32 1 from rfl,BitVec.toNat_ofNat,BitVec.toNat_ofNat,Nat.mod_eq_of_lt (show x<2^32 from hx)];exact Nat.and_two_pow_sub_one_eq_mod x 1
 show IntKind.u32.wrap (((BitVec.ofInt 32 ((x:Nat):Int) &&& BitVec.ofInt 32 1).toNat:Nat):Int)=_;rw[h,IntKind.wrap_u32];omega
theorem shr_num(x k:Nat)(hk:k<=32):shrI .u32 ((x:Nat):Int) ((k:Nat):Int)=((x / 2^k:Nat):Int):=by
 show((x:Nat):Int).fdiv (2^(min ((k:Nat):Int).toNat 32))=_;rw[Int.toNat_natCast,Nat.min_eq_left hk,Int.fdiv_eq_ediv_of_nonneg _ (Int.pow_nonneg (by decide)),Int.natCast_ediv,Int.natCast_pow];rfl
theorem hex_at{f:Nat->Nat}{n t:Nat}(hf:∀ j,j<n->f j<4294967296)(ht:t / 8<n):f (t / 8) / 2^(t%8*4)%16=natV 4294967296 f n / 16^t%16:=by
 have h:=natV_digit hf (t / 8) ht;rw[h];generalize natV 4294967296 f n=V;have e:4294967296^(t / 8)=2^(32*(t / 8)):=by rw[Nat.pow_mul]
 have e2:(4294967296:Nat)=2^(t%8*4)*2^(32 - t%8*4):=by rw[<- Nat.pow_add,show t%8*4+(32 - t%8*4)=32 by omega]
 have e4:16^t=2^(4*t):=by rw[Nat.pow_mul]
 rw[e,e4];have e3:V / 2^(4*t)=V / 2^(32*(t / 8)) / 2^(t%8*4):=by rw[Nat.div_div_eq_div_mul,<- Nat.pow_add,show 32*(t / 8)+t%8*4=4*t by omega]
 rw[e3];generalize V / 2^(32*(t / 8))=X;rw[e2,Nat.mod_mul_right_div_self];exact Nat.mod_mod_of_dvd _ ⟨2^(32 - t%8*4 - 4),by rw[show(16:Nat)=2^4 from rfl,<- Nat.pow_add];congr 1;omega⟩
theorem dgI_is{f:Nat->Nat}{n t:Nat}(hf:∀ j,j<n->f j<4294967296)(ht:t / 8<n):dgI f t=((natV 4294967296 f n / 16^t%16:Nat):Int):=by
 unfold dgI;rw[shr_num _ _ (by omega),and15 (Nat.lt_of_le_of_lt (Nat.div_le_self _ _) (hf _ ht)),hex_at hf ht]
theorem btI_is{f:Nat->Nat}{n t:Nat}(hf:∀ j,j<n->f j<4294967296)(ht:t / 32<n):btI f t=((natV 4294967296 f n / 2^t%2:Nat):Int):=by
 unfold btI;have e:IntKind.u64.wrap ((t%32:Nat):Int)=((t%32:Nat):Int):=by rw[IntKind.wrap_u64];omega
 rw[e,shr_num _ _ (by omega),and1 (Nat.lt_of_le_of_lt (Nat.div_le_self _ _) (hf _ ht)),bit_at hf ht]
theorem l16_at(p:Nat->N12){d:Nat}(h:d<16):(l16 p).getD d z12=p d:=by
 have:d=0\/d=1\/d=2\/d=3\/d=4\/d=5\/d=6\/d=7\/d=8\/d=9\/d=10\/d=11\/d=12\/d=13\/d=14\/d=15:=by omega
 rcases this with rfl | rfl | rfl | rfl | rfl | rfl | rfl | rfl | rfl | rfl | rfl | rfl | rfl | rfl | rfl | rfl <;> rfl
section
variable {m:Nat} (hp:Pr m)
def pw12(z:Z12 m)(k:Nat):N12:=v12 ((K12 hp).pow z k)
theorem pw12_add(z:Z12 m)(j k:Nat):m12 hp (pw12 hp z j) (pw12 hp z k)=pw12 hp z (j+k):=by
 unfold m12 pw12;rw[ph12_v,ph12_v,CRing.pow_add]
theorem pw12_zero(z:Z12 m):pw12 hp z 0=one12:=rfl
theorem pw12_one(a:N12):pw12 hp (ph12 hp a) 1=v12 (ph12 hp a):=by
 show v12 ((K12 hp).pow (ph12 hp a) (0+1))=_;unfold CRing.pow
 first
 | rw[show(K12 hp).pow (ph12 hp a) 0=(K12 hp).one from rfl,CRing.one_mul]
 | rw[show(K12 hp).pow (ph12 hp a) 0=(K12 hp).one from rfl,CRing.mul_one]
theorem pws_is(a:N12):∀ k,pws (m12 hp) a k=pw12 hp (ph12 hp a) k
 | 0=>(pw12_zero hp _).symm
 | k+1=>by
  show m12 hp (pws (m12 hp) a k) a=_;rw[pws_is a k,<- pw12_add,pw12_one];unfold m12;rw[ph12_v]
theorem xgo_is{SQ:N12->N12}(hS:∀ x,SQ x=m12 hp x x)(a:N12){f:Nat->Nat}{V:Nat}:∀ t,(∀ s,s<t->dgI f s=((V / 16^s%16:Nat):Int))->xgo SQ (m12 hp) (pws (m12 hp) a) f t (pw12 hp (ph12 hp a) (V / 16^t))=pw12 hp (ph12 hp a) V
 | 0,_=>by rw[Nat.pow_zero,Nat.div_one];rfl
 | t+1,h=>by
  show xgo SQ (m12 hp) (pws (m12 hp) a) f t (xrd SQ (m12 hp) (pws (m12 hp) a) f t (pw12 hp (ph12 hp a) (V / 16^(t+1))))=_;have e:xrd SQ (m12 hp) (pws (m12 hp) a) f t (pw12 hp (ph12 hp a) (V / 16^(t+1)))=pw12 hp (ph12 hp a) (V / 16^t):=by
   unfold xrd;rw[h t (Nat.lt_succ_self t),Int.toNat_natCast,l16_at _ (Nat.mod_lt _ (by decide)),pws_is];simp only[hS,pw12_add];congr 1;rw[Nat.pow_succ,<- Nat.div_div_eq_div_mul];omega
  rw[e];exact xgo_is hS a t fun s hs=>h s (by omega)
theorem bgo_is{M:N12->N12->N12}(hM:∀ x y:Z12 m,M (v12 x) (v12 y)=v12 ((K12 hp).mul x y))(z:Z12 m){f:Nat->Nat}{V:Nat}:∀ t,(∀ s,s<t->btI f s=((V / 2^s%2:Nat):Int))->bgo M (v12 z) f t (pw12 hp z (V / 2^t))=pw12 hp z V
 | 0,_=>by rw[Nat.pow_zero,Nat.div_one];rfl
 | t+1,h=>by
  show bgo M (v12 z) f t (brd M (v12 z) f t (pw12 hp z (V / 2^(t+1))))=_;have e:brd M (v12 z) f t (pw12 hp z (V / 2^(t+1)))=pw12 hp z (V / 2^t):=by
   unfold brd;rw[h t (Nat.lt_succ_self t)];have q:V / 2^(t+1)=V / 2^t / 2:=by rw[Nat.pow_succ,<- Nat.div_div_eq_div_mul]
   rw[q];generalize V / 2^t=X;have s1:M (pw12 hp z (X / 2)) (pw12 hp z (X / 2))=pw12 hp z (X / 2+X / 2):=by
    unfold pw12;rw[hM,CRing.pow_add]
   have s2:M (pw12 hp z (X / 2+X / 2)) (v12 z)=pw12 hp z (X / 2+X / 2+1):=by
    unfold pw12;rw[hM];rfl
   rw[s1,s2];rcases Nat.mod_two_eq_zero_or_one X with h0 | h0
   ·rw[h0]
    show pw12 hp z (X / 2+X / 2)=_;congr 1;omega
   ·rw[h0]
    show pw12 hp z (X / 2+X / 2+1)=_;congr 1;omega
  rw[e];exact bgo_is hM z t fun s hs=>h s (by omega)
end
open Go.RowKit
theorem rd_add{w:World}{a:Option Addr}{n:Nat}{f:Nat->Nat}(h:RdA w a n f):∀ b,a=some b->∀ j u,(pl f n)[j]?=some u->w.cell? (b.add j)=some u:=fun b hb j u hj=>by
 rcases h with h | ⟨bb,oo,e,hp⟩
 ·subst h;simp[pl]at hj
 ·rw[e]at hb
  injection hb with hb
  subst hb;exact news_pl hp j u hj
open Go.RowKit
theorem blN_le{V k:Nat}(h:V<2^k):blN V<=k:=by
 unfold blN;by_cases e:V=0
 ·rw[if_pos e];exact Nat.zero_le _
 ·rw[if_neg e];exact(Nat.log2_lt e).2 h
theorem pow_32(k:Nat):(4294967296:Nat)^k=2^(32*k):=by rw[Nat.pow_mul]
open Go.RowKit
def MkR(n:Nat)(f:Nat->Nat)(w:World)(e:Ending)(w':World):Prop :=
 ∃ g cap,e=.returned (.slice (some ⟨g,0,none⟩) n cap)/\w'.ownsRow w.heap.size 53 1 (.slice (some ⟨g,0,none⟩) n cap) n (pl f n)/\Below w.heap.size w w'
theorem mk_row{w w':World}{n:Nat}{v:Value}{f:Nat->Nat}(h:w'.ownsRow w.heap.size 53 1 v n (pl f n))(hn:v≠.slice none 0 0)(hw:Below w.heap.size w w'):MkR n f w (.returned v) w':=by
 rcases h.2 with⟨rfl,-⟩ | ⟨g,cap,cur,rfl,-⟩
 ·exact absurd rfl hn
 ·exact⟨g,cap,rfl,h,hw⟩
open Go.RowKit
theorem refplainr_some(q:Addr)(n cap:Nat)(f:Nat->Nat)(hn:(n:Int)<=35184372088832)(hc:n<=cap)(w:World)(hP:RdA w (some q) n f) :
  Calls Tryz.prog 30 #[.slice (some q) n cap] w (MkR (tn f n) f w):=by
 have HP:=Lib.hid hP;clear hP;have hsl:∀ h:Nat,(h:Int)<=cap->∀ w,(Instr.slice 46 (.slice (some q) n cap) none (some (.int .i64 (h:Int))) none).run Tryz.prog w=.ok (.slice (some q) h cap) w:=fun h hh w=>slice_nat (some q) n cap h hh w;have HSL:=Lib.hid hsl;clear hsl;obtain⟨i0,hi,hz0,hz1,hz2⟩:=info_parts info32;go_enter Tryz.func30,Tryz.ntmps30;go_wp2
 go_loop [3] (fun iv=>∃ k:Nat,k<=n/\iv=.int .i64 k/\Hid (tn f n=tn f k)) (fun iv=>(intOf iv).toNat)
 case atStart=>exact⟨n,Nat.le_refl _,rfl,Lib.hid rfl⟩
 case round =>
  obtain⟨k,hk,rfl,H⟩:=hrel;have hkb:(k:Int)<=35184372088832:=by omega
  have hk00:(0:Int)<=k:=by omega
  by_cases hz:k≠0/\f (k - 1)=0
  ·obtain⟨hk0,hz⟩:=hz
   obtain⟨i,hi'⟩:∃ i:Nat,(k:Int) - 1=(i:Int):=⟨k - 1,by omega⟩
   have hik:k=i+1:=by omega
   have hi0:(0:Int)<=i:=by omega
   have hi1:(i:Int)<n:=by omega
   have hk1:(0:Int)<k:=by omega
   rw[show k - 1=i by omega]at hz;obtain⟨p,hx,-,-,ca⟩:=HP.out.at_ cap i (by omega);have hz':((f i:Nat):Int)=0:=by omega
   have hz2':(((f i:Nat):Int) == 0)=true:=by simp[hz]
   have HZ:=Lib.hid (And.intro hz hik);clear hz hik;go_wp2
   go_round
   case rel=>exact⟨i,by omega,rfl,Lib.hid (by rw[H.out,HZ.out.2,tn,if_pos HZ.out.1])⟩
   case measure=>simp[intOf];omega
  ·have e:tn f n=k:=by
    rw[H.out];rcases Nat.eq_zero_or_pos k with h | h
    ·rw[h];rfl
    ·obtain⟨i,rfl⟩:∃ i,k=i+1:=⟨k - 1,by omega⟩
     rw[tn,if_neg (fun h2=>hz ⟨by omega,by simpa using h2⟩)]
   have hs:=HSL.out k (by omega);have hw:=HP.out.less k hk;have hst:k=0\/f (k - 1)≠0:=by
    rcases Nat.eq_zero_or_pos k with h | h
    ·exact .inl h
    ·exact .inr (fun h2=>hz ⟨by omega,h2⟩)
   have HE:=Lib.hid (And.intro e hw);clear e hw hz H;rcases Nat.eq_zero_or_pos k with h0 | h0
   ·have hk1:¬(0:Int)<k:=by omega
    clear h0 hst
    go_wp2_with (at_builtin;refine wpList_append_own _ rfl _ _ 46 rfl w.heap.size 53 i0 (.int .u32 0) 1 4 Tryz.underlying46 hi hz0 hz1 hz2 rfl (by decide) _ 0 [] rfl (World.ownsRow_made (base:=w.heap.size) (e:=53) (size:=1) w #[] 0 (by simp) (by decide) (by simp)) q k cap (pl f k) rfl (by rw[pl_len,Nat.mul_one]) ?c1 ?c2 ?c3 ?c4 ?c5 ?_)
    case c1=>exact rd_add (HE.out.2.below ((Below.refl _ _).alloc (Nat.le_refl _) _)) q rfl
    case c2=>exact one_pl f k
    case c3=>unfold maxLen;omega
    case c4=>omega
    intro v' w1 hown' hgrow hnn;have HF:=Lib.hid (mk_row (w:=w) hown' hnn (((Below.refl _ _).alloc (Nat.le_refl _) _).grown hgrow (by simp) (fun j hj=>by cases hj;exact Nat.le_refl _)));clear hown' hgrow hnn;go_wp2;go_ret;rw[HE.out.1];exact HF.out
   ·obtain⟨i,hi'⟩:∃ i:Nat,(k:Int) - 1=(i:Int):=⟨k - 1,by omega⟩
    have hi0:(0:Int)<=i:=by omega
    have hi1:(i:Int)<n:=by omega
    have hk1:(0:Int)<k:=by omega
    obtain⟨p,hx,-,-,ca⟩:=HP.out.at_ cap i (by omega);have hz2':(((f i:Nat):Int) == 0)=false:=by
     have:=hst.resolve_left (by omega);rw[show k - 1=i by omega]at this;simpa using this
    clear h0 hst
    go_wp2_with (at_builtin;refine wpList_append_own _ rfl _ _ 46 rfl w.heap.size 53 i0 (.int .u32 0) 1 4 Tryz.underlying46 hi hz0 hz1 hz2 rfl (by decide) _ 0 [] rfl (World.ownsRow_made (base:=w.heap.size) (e:=53) (size:=1) w #[] 0 (by simp) (by decide) (by simp)) q k cap (pl f k) rfl (by rw[pl_len,Nat.mul_one]) ?c1 ?c2 ?c3 ?c4 ?c5 ?_)
    case c1=>exact rd_add (HE.out.2.below ((Below.refl _ _).alloc (Nat.le_refl _) _)) q rfl
    case c2=>exact one_pl f k
    case c3=>unfold maxLen;omega
    case c4=>omega
    intro v' w1 hown' hgrow hnn;have HF:=Lib.hid (mk_row (w:=w) hown' hnn (((Below.refl _ _).alloc (Nat.le_refl _) _).grown hgrow (by simp) (fun j hj=>by cases hj;exact Nat.le_refl _)));clear hown' hgrow hnn;go_wp2;go_ret;rw[HE.out.1];exact HF.out
theorem refplainr_none(f:Nat->Nat)(w:World):Calls Tryz.prog 30 #[.slice none 0 0] w (MkR 0 f w):=by
 obtain⟨i0,hi,hz0,hz1,hz2⟩:=info_parts info32;have hs:∀ w,(Instr.slice 46 (.slice none 0 0) none (some (.int .i64 0)) none).run Tryz.prog w=.ok (.slice none 0 0) w:=fun w=>slice_nat none 0 0 0 (by omega) w;go_enter Tryz.func30,Tryz.ntmps30;go_wp2
 go_loop [3] (fun iv=>iv=.int .i64 0) (fun iv=>(intOf iv).toNat)
 case atStart=>rfl
 case round =>
  obtain rfl:=hrel
  go_wp2_with (at_builtin;refine wpList_append_own_none rfl _ _ 46 rfl w.heap.size 53 i0 1 Tryz.underlying46 hi _ 0 [] rfl (World.ownsRow_made (base:=w.heap.size) (e:=53) (size:=1) w #[] 0 (by simp) (by decide) (by simp)) rfl ?_)
  go_wp2;go_ret;exact⟨_,0,rfl,World.ownsRow_made (base:=w.heap.size) (e:=53) (size:=1) w #[] 0 (by simp) (by decide) (by simp),by go_grown⟩
def ANv(V:Nat)(v:Value)(w:World):Prop:=∃ n f,ArgN w v n f/\(n:Int)<=35184372088832/\(∀ j,j<n->f j<4294967296)/\natV 4294967296 f n=V
def RP(V:Nat)(v:Value)(w:World):Prop:=∃ g n cap f,v=.slice (some ⟨g,0,none⟩) n cap/\NvA w (some ⟨g,0,none⟩) n cap f/\natV 4294967296 f n=V/\(n=0\/f (n - 1)≠0)
theorem rp_of{w:World}{base g n cap:Nat}{f:Nat->Nat}(h:w.ownsRow base 53 1 (.slice (some ⟨g,0,none⟩) n cap) n (pl f n))(hn:(n:Int)<=35184372088832)(hf:∀ j,j<n->f j<4294967296)(ht:n=0\/f (n - 1)≠0):RP (natV 4294967296 f n) (.slice (some ⟨g,0,none⟩) n cap) w:=by
 rcases h.2 with⟨h1,-⟩ | ⟨g2,cap2,cur,h1,-,h2,h3,-⟩
 ·cases h1
 ·injection h1 with h1 _ h4
  injection h1 with h1
  injection h1 with h1
  subst h1;subst h4;refine⟨g,n,cap,f,rfl,⟨h3,?_,fun q hq=>by cases hq;exact(Array.getElem?_eq_some_iff.1 h2).1,hf,hn⟩,rfl,ht⟩;rcases Nat.eq_zero_or_pos n with h0 | h0
  ·exact .inl h0
  ·obtain⟨g',c',e,-,-,hp⟩:=own_pt h h0
   injection e with e
   rw[e];injection e with e
   injection e with e
   exact hp.rd
-- WHAT THE REFERENCE's Plain COMES TO,of any argument.
theorem plain_an{V:Nat}{v:Value}{w:World}(h:ANv V v w):Calls Tryz.prog 30 #[v] w fun e w'=>∃ u,e=.returned u/\RP V u w'/\Below w.heap.size w w':=by
 obtain⟨n,f,⟨a,cap,rfl,hc,hn0,hr⟩,hn,hf,rfl⟩:=h;have hl:=tn_le f n;have key:∀ {m:Nat},m=tn f n->∀ {e:Ending} {w':World},MkR m f w e w'->∃ u,e=.returned u/\RP (natV 4294967296 f n) u w'/\Below w.heap.size w w':=by
  rintro m rfl e w' ⟨g,c,rfl,h1,h2⟩;exact⟨_,rfl,by rw[<- natV_tn];exact rp_of h1 (by omega) (fun j hj=>hf j (by omega)) (tn_top f n),h2⟩
 cases a with
 | none =>
  have h0:=hn0 rfl;subst h0;obtain rfl:n=0:=by omega
  exact(refplainr_none f w).mono fun e w' h=>key rfl h
 | some q=>exact(refplainr_some q n cap f hn hc w hr).mono fun e w' h=>key rfl h
open Go.RowKit
theorem bl_is{V k:Nat}(h1:2^k<=V)(h2:V<2^(k+1)):blN V=k+1:=by
 have h0:V≠0:=by have:=Nat.pow_pos (n:=k) (show 0<2 by omega);omega
 have h3:=blN_le h2;have h4:¬blN V<=k:=fun h=>by
  have h5:V<2^blN V:=by
   unfold blN;rw[if_neg h0];exact(Nat.log2_lt h0).1 (Nat.lt_succ_self _)
  have h6:=Nat.pow_le_pow_right (n:=2) (by omega) h;omega
 omega
theorem bit_off{V k:Nat}(h2:V<2^(k+1))(h:V / 2^k%2=0):V<2^k:=by
 have hp:=Nat.pow_pos (n:=k) (show 0<2 by omega);have h3:V / 2^k<2:=by rw[Nat.div_lt_iff_lt_mul hp,Nat.mul_comm,<- Nat.pow_succ];exact h2
 have h4:V / 2^k=0:=by
  generalize V / 2^k=x at h h3;clear hp h2;omega
 rcases Nat.div_eq_zero_iff.1 h4 with h5 | h5
 ·omega
 ·exact h5
theorem bit_on{V k:Nat}(h:V / 2^k%2=1):2^k<=V:=by
 have hp:=Nat.pow_pos (n:=k) (show 0<2 by omega);exact Nat.le_of_not_lt (fun h5=>by rw[Nat.div_eq_of_lt h5]at h;omega)
-- WHAT THE REFERENCE's Len COMES TO.
theorem rlen_an{V:Nat}{v:Value}{w:World}(h:ANv V v w):Calls Tryz.prog 53 #[v] w fun e w'=>e=.returned (.int .i64 ((blN V:Nat):Int))/\Below w.heap.size w w':=by
 have HP:=Lib.hid (plain_an h);clear h;go_enter Tryz.func53,Tryz.ntmps53
 go_wp2_with fail
 refine HP.out.mono ?_;rintro e w1 ⟨u,rfl,⟨g,n,cap,f,rfl,hn,hv,ht⟩,hb⟩;have HB:=Lib.hid hb;have HN:=Lib.hid hn;have HV:=Lib.hid hv;have hnf:=hn.few;clear hv ht hn hb HP;go_wp2
 go_loop [4] (fun iv=>∃ k:Nat,k<=32*n/\iv=.int .i64 k/\Hid (V<2^k)) (fun iv=>(intOf iv).toNat)
 case atStart =>
  refine⟨32*n,Nat.le_refl _,by simp,Lib.hid ?_⟩;rw[<- HV.out,<- pow_32];exact natV_lt HN.out.lt
 case round =>
  obtain⟨k,hk,rfl,H⟩:=hrel;have hk00:(0:Int)<=k:=by omega
  have hkb:(k:Int)<=1125899906842624:=by omega
  rcases k with - | i
  ·have h0:V=0:=by have:=H.out;omega
   have HE:Hid (blN V=0):=Lib.hid (by rw[h0];rfl);clear h0;clear H;go_wp2;go_ret;exact⟨by rw[HE.out];rfl,HB.out⟩
  ·obtain⟨q,hq⟩:∃ q:Nat,(i:Int) / 32=(q:Int):=⟨i / 32,by omega⟩
   obtain⟨r,hr⟩:∃ r:Nat,(i:Int)%32=(r:Int):=⟨i%32,by omega⟩
   have eq:i / 32=q:=by omega
   have er:i%32=r:=by omega
   have hb:=bit_at (n:=n) (i:=i) HN.out.lt (by omega);rw[eq,er,HV.out]at hb;obtain⟨p,hix,-,-,ca⟩:=HN.out.rd.at_ cap q (by omega);have hi0:(0:Int)<=i:=by omega
   have hib:(i:Int)<=1125899906842624:=by omega
   have hr0:(0:Int)<=r:=by omega
   have hr1:(r:Int)<32:=by omega
   have hfl:=HN.out.lt q (by omega);have hand:bits .and .u32 (((f q:Nat):Int) / 2^r) 1=((f q / 2^r%2:Nat):Int):=by
    have e1:((f q:Nat):Int) / 2^r=((f q / 2^r:Nat):Int):=by simp
    have h1:f q / 2^r<4294967296:=Nat.lt_of_le_of_lt (Nat.div_le_self _ _) hfl;have h2:=(bits_u32_nat (f q / 2^r) 1 h1 (by omega)).1;rw[e1];refine Eq.trans h2 ?_;rw[Nat.and_one_is_mod]
   rw[hb]at hand;have hcast:((i+1:Nat):Int)=(i:Int)+1:=by omega
   have hm1:(i:Int)+1 - 1=(i:Int):=by omega
   have hs1:(0:Int)<(i:Int)+1:=by omega
   have hwr:IntKind.u64.wrap (r:Int)=(r:Int):=by rw[IntKind.wrap_u64];omega
   have HC:=Lib.hid hcast;by_cases hz:V / 2^i%2=0
   ·rw[hz]at hand
    have htst:(bits .and .u32 (((f q:Nat):Int) / 2^r) 1 == 0)=true:=by rw[hand];rfl
    have HN2:=Lib.hid (bit_off H.out hz);clear H hz hb hand eq er hfl;go_wp2
    go_round
    case rel=>exact⟨i,by omega,rfl,HN2⟩
    case measure=>first | (simp[intOf];done) | (simp[intOf];omega)
   ·have h1:V / 2^i%2=1:=by omega
    rw[h1]at hand;have htst:(bits .and .u32 (((f q:Nat):Int) / 2^r) 1 == 0)=false:=by rw[hand];rfl
    have HE:=Lib.hid (bl_is (bit_on h1) H.out);clear H hz hb hand eq er hfl h1;go_wp2;go_ret;exact⟨by rw[HE.out];rfl,HB.out⟩
open Go.RowKit
open Sy
theorem blN_lt(V:Nat):V<2^blN V:=by
 unfold blN
 split
 ·rename_i h;rw[h];decide
 ·exact Nat.lt_log2_self
theorem NvA.pt{w:World}{g o n c:Nat}{f:Nat->Nat}(h:NvA w (some ⟨g,o,none⟩) n c f):PtN w g o n f:=by
 refine⟨h.blk _ rfl,fun j hj=>?_⟩;rcases h.rd with h0 | ⟨b,o',e,hp⟩
 ·omega
 ·cases e
  exact hp.2 j hj
theorem NvA.len_le{w:World}{a:Option Addr}{n c:Nat}{f:Nat->Nat}(h:NvA w a n c f):blN (natV 4294967296 f n)<=32*n:=by
 have hV:=natV_lt (P:=4294967296) (f:=f) (n:=n) h.lt;have e:4294967296^n=2^(32*n):=by rw[Nat.pow_mul]
 rw[e]at hV;exact blN_le hV
namespace Sy
theorem square12_at{m:Nat}(hp:Pr m)(hm:m<2^256):Is1 m 82 sh12 fun a=>L12s (m12 hp a a):=by
 have h:=square12_is (A:=a6 hp) (S:=s6 hp) (M:=m6 hp) (H:=shh (l2 hp)) (fun _ _=>H3v_ok hm _) (fun _ _=>H3v_ok hm _) (addHalf_at hp hm) (subHalf_at hp hm) (mulHalf_at hp hm) (shifted_at hp hm);simp only[sqt_m12]at h;exact h
theorem pw12_ok(z:Z12 pB)(k:Nat):(L12s (pw12 prB z k)).ok:=L12v_ok ltB _
theorem exp12_at{w:World}{g o n c F:Nat}{f:Nat->Nat}(h:NvA w (some ⟨g,o,none⟩) n c f)(a:N12)(oa:(L12s a).ok)(hF:FldAt w F pB) :
  Calls Tryz.prog 52 #[.agg #[.pointer (some ⟨F,0,none⟩)],(L12s a).val o0,.slice (some ⟨g,o,none⟩) n c] w fun e w'=>e=.returned ((L12s (pw12 prB (ph12 prB a) (natV 4294967296 f n))).val o0)/\Below w.heap.size w w':=by
 have hl:=h.len_le;have hlt:=blN_lt (natV 4294967296 f n);have hfew:=h.few;have hdg:∀ t,t<(blN (natV 4294967296 f n)+3) / 4->dgI f t=((natV 4294967296 f n / 16^t%16:Nat):Int):=fun t ht=>dgI_is h.lt (by omega);have key:=exp12_walk (m:=pB) (SQ:=fun x=>m12 prB x x) (M:=m12 prB) (PW:=pws (m12 prB)) (fun _ _=>L12v_ok ltB _) (fun a k=>by rw[pws_is];exact pw12_ok _ _) (square12_at prB ltB) (powers_is (fun _ _=>L12v_ok ltB _) (mul12_at prB ltB)) (mul12_at prB ltB) F g o n c (blN (natV 4294967296 f n)) f a oa w hF h.pt
  (by (have:(2:Nat)^60=1152921504606846976:=by decide);omega) (fun t ht=>by omega) (fun t ht=>by rw[hdg t ht];omega) fun wx hb=>by
   exact(len_nv (h.below hb)).mono fun e w' ⟨h1,h2⟩=>⟨h1,h2 ▸ Below.refl _ _⟩
 have q:natV 4294967296 f n / 16^((blN (natV 4294967296 f n)+3) / 4)=0:=by
  rw[show(16:Nat)=2^4 from rfl,<- Nat.pow_mul];exact Nat.div_eq_of_lt (Nat.lt_of_lt_of_le hlt (Nat.pow_le_pow_right (by decide) (by omega)))
 have e:=xgo_is prB (SQ:=fun x=>m12 prB x x) (fun _=>rfl) a (f:=f) (V:=natV 4294967296 f n) ((blN (natV 4294967296 f n)+3) / 4) hdg;rw[q,pw12_zero]at e;rw[show pws (m12 prB) a 0=one12 from rfl,e]at key;exact key
theorem Exp12_at{w:World}{g o n c:Nat}{f:Nat->Nat}(h:NvA w (some ⟨g,o,none⟩) n c f)(a:N12)(oa:(L12s a).ok) :
  Calls Tryz.prog 28 #[(L12s a).val o0,.slice (some ⟨g,o,none⟩) n c] w fun e w'=>e=.returned ((if 4096<blN (natV 4294967296 f n)then SV.tu (L12s z12) (.v (.int .i64 2))else SV.tu (L12s (pw12 prB (ph12 prB a) (natV 4294967296 f n))) (.v (.int .i64 0))).val o0)/\Below w.heap.size w w':=by
 have hl:=h.len_le;have hfew:=h.few;exact Exp12_walk (X:=fun a=>pw12 prB (ph12 prB a) (natV 4294967296 f n)) (fun a=>pw12_ok _ _) g o n c (blN (natV 4294967296 f n)) f a oa w h.pt
  (by (have:(2:Nat)^60=1152921504606846976:=by decide);omega) (fun F a wx oa hb hF=>exp12_at (h.below hb) a oa hF) fun wx hb=>(len_nv (h.below hb)).mono fun e w' ⟨h1,h2⟩=>⟨h1,h2 ▸ Below.refl _ _⟩
theorem Texp_at{w:World}{g o n c F:Nat}{f:Nat->Nat}(h:NvA w (some ⟨g,o,none⟩) n c f)(z:Z12 pB)(hF:RFld w F pB) :
  Calls Tryz.prog 29 #[.agg #[.pointer (some ⟨F,0,none⟩)],(L12s (v12 z)).val o0,.slice (some ⟨g,o,none⟩) n c] w fun e w'=>e=.returned ((L12s (pw12 prB z (natV 4294967296 f n))).val o0)/\Below w.heap.size w w':=by
 have hl:=h.len_le;have hlt:=blN_lt (natV 4294967296 f n);have hfew:=h.few;have hbt:∀ t,t<blN (natV 4294967296 f n)->btI f t=((natV 4294967296 f n / 2^t%2:Nat):Int):=fun t ht=>btI_is h.lt (by omega);have key:=Texp_walk (m:=pB) (M:=rmt (ra2 pB) (rm2 pB)) bB (fun a b=>fin_ok (ra2_ok pB) (sums_ok (ra2_ok pB) a b 6)) Tmul12_at F g o n c (blN (natV 4294967296 f n)) f (v12 z) (L12v_ok ltB z) w hF h.pt
  (by (have:(2:Nat)^60=1152921504606846976:=by decide);omega) (fun t ht=>by omega) fun wx hb=>rlen_an ⟨n,f,⟨some ⟨g,o,none⟩,c,rfl,h.cap,(by intro e;cases e),(h.below hb).rd⟩,h.few,h.lt,rfl⟩
 have q:natV 4294967296 f n / 2^blN (natV 4294967296 f n)=0:=Nat.div_eq_of_lt hlt;have e:=bgo_is prB (M:=rmt (ra2 pB) (rm2 pB)) (fun x y=>rmt_v prB ltB (by decide) x y) z (f:=f) (V:=natV 4294967296 f n) (blN (natV 4294967296 f n)) hbt;rw[q,pw12_zero]at e;rw[e]at key;exact key
end Sy
open Go.RowKit
theorem run_appN{a:Act}{o:Oper}{w w':World}(s y:Operand)(vs vy v':Value)(ho:o.op=.call { callee:=.builtin .append,args:=#[s,y],argTypes:=#[46,46] })(hty:o.type=46)(hs:a.eval s=vs)(hy:a.eval y=vy)
  (hr:(Builtin.append_ #[46,46] 46 #[vs,vy]).run Tryz.prog w=.ok v' w'):(execOp a.eval o).run Tryz.prog w=.ok (.value v') w':=by
 unfold execOp;simp only[ho,hty,resolve,invoke,builtin,Sem.run_bind,Sem.run_pure,Result.andThen_ok,List.map_toArray,List.map_cons,List.map_nil,hs,hy,hr]
theorem run_mvN{P:Program}{a:Act}{o:Oper}{w:World}(x:Operand)(v:Value)(ho:o.op=.move x\/o.op=.assign x)(hx:a.eval x=v):(execOp a.eval o).run P w=.ok (.value v) w:=by
 unfold execOp;rcases ho with ho | ho <;> simp only[ho,hx,Sem.run_pure]
namespace Sy
theorem ld12{w:World}{A:Nat}{a:N12}(hA:w.heap[A]?=some (.cells ((L12s a).cells o0).toArray 38 (0,0))):(Instr.loadAt 38 (.pointer (some ⟨A,0,none⟩))).run Tryz.prog w=.ok ((L12s a).val o0) w :=
 have ty:=tyAll_mem tysT_ok ty12 (List.mem_append_left _ (.tail _ (.tail _ (.tail _ (.head _)))))
 load_ok (γ:=o0) hA ty.d ty.sz rfl
def rowS:List Value->SV
 | []=>.e
 | v::l=>.ap (.v v) (rowS l)
theorem rowS_cells(γ:Pl):∀ l:List Value,(rowS l).cells γ=l
 | []=>rfl
 | v::l=>congrArg (v::·) (rowS_cells γ l)
theorem rowS_size(l:List Value):(rowS l).size=l.length:=by rw[<- SV.cells_len (fun _=>0),rowS_cells]
theorem st12{w:World}{D:Nat}{a:N12}{cs:Array Value}(hD:w.heap[D]?=some (.cells cs 38 (0,0)))(hs:cs.size=48):(Instr.storeAt 38 (.pointer (some ⟨D,0,none⟩)) ((L12s a).val o0)).run Tryz.prog w=.ok () (w.setRow D ((L12s a).cells o0).toArray):=by
 have ty:=tyAll_mem tysT_ok ty12 (List.mem_append_left _ (.tail _ (.tail _ (.tail _ (.head _)))));obtain⟨v,l,hl⟩:∃ v l,cs.toList=v::l:=by
  cases h:cs.toList with
  | nil=>have:=congrArg List.length h;rw[Array.length_toList,hs]at this;cases this
  | cons v l=>exact⟨v,l,rfl⟩
 have hlen:l.length=47:=by have:=congrArg List.length hl;rw[Array.length_toList,hs]at this;simp at this;omega
 refine store_ok (γ:=o0) (x:=rowS cs.toList) (y:=L12s a) (v:=L12s a) (t:=38) (by rw[rowS_cells];simpa using hD) ty.sz ?_ rfl;rw[hl];show SV.put (L12s a) 0 (.ap (.v v) (rowS l))=_;unfold SV.put;have hz:(SV.ap (.v v) (rowS l)).size=(L12s a).size:=by
  show 1+(rowS l).size=48;rw[rowS_size,hlen]
 have h1:¬(0+(L12s a).size<=(SV.v v).size):=by
  show ¬(0+48<=1);decide
 rw[if_neg h1];dsimp only;rw[if_pos ⟨rfl,rfl,hz⟩]
end Sy
namespace MT
open Sy
def zc48:Array Value:=(List.replicate 48 (Value.int .u64 0)).toArray
end MT
open Go.RowKit
theorem natV_none{f:Nat->Nat}:∀ n,(∀ j,j<n->f j=0)->natV 4294967296 f n=0
 | 0,_=>rfl
 | n+1,h=>by
  show natV 4294967296 f n+4294967296^n*f n=0;rw[natV_none n (fun j hj=>h j (by omega)),h n (by omega),Nat.mul_zero]
def zU(n:Nat):Array Value:=(List.replicate n (Value.int .u32 0)).toArray
def LZ(n:Nat)(v:Value)(w:World):Prop:=∃ g,v=.slice (some ⟨g,0,none⟩) n n/\w.heap[g]?=some (.cells (zU n) 53 (0,0))
def L1(v:Value)(w:World):Prop:=∃ g,v=.slice (some ⟨g,0,none⟩) 1 1/\w.heap[g]?=some (.cells #[.int .u32 1] 53 (0,0))
theorem LZ.keep{TT:TypeId}(hT:53≠TT){n:Nat}(v:Value)(wa wb:World)(h:MT.KeepT TT wa wb):LZ n v wa->LZ n v wb:=by
 rintro⟨g,h1,h2⟩;exact⟨g,h1,h.block h2 hT⟩
theorem L1.keep{TT:TypeId}(hT:53≠TT)(v:Value)(wa wb:World)(h:MT.KeepT TT wa wb):L1 v wa->L1 v wb:=by
 rintro⟨g,h1,h2⟩;exact⟨g,h1,h.block h2 hT⟩
theorem pt_z{w:World}{g n:Nat}(h:w.heap[g]?=some (.cells (zU n) 53 (0,0))):PtN w g 0 n fun _=>0:=by
 refine⟨(Array.getElem?_eq_some_iff.1 h).1,fun j hj=>?_⟩;rw[Nat.zero_add,cell_of_row _ _ _ _ _ _ h];unfold zU;rw[List.getElem?_toArray,List.getElem?_replicate,if_pos hj];rfl
theorem pt_1{w:World}{g:Nat}(h:w.heap[g]?=some (.cells #[.int .u32 1] 53 (0,0))):PtN w g 0 1 fun _=>1:=by
 refine⟨(Array.getElem?_eq_some_iff.1 h).1,fun j hj=>?_⟩;obtain rfl:j=0:=by omega
 exact cell_of_row _ _ _ _ _ _ h
theorem LZ.nv{w:World}{g n:Nat}(h:w.heap[g]?=some (.cells (zU n) 53 (0,0)))(few:n<=1000):NvA w (some ⟨g,0,none⟩) n n fun _=>0 :=
 ⟨Nat.le_refl _,.inr ⟨g,0,rfl,pt_z h⟩,fun q hq=>by cases hq;exact(Array.getElem?_eq_some_iff.1 h).1,fun _ _=>by decide,by omega⟩
theorem natV_snoc(f:Nat->Nat)(n:Nat):natV 4294967296 f (n+1)=natV 4294967296 f n+4294967296^n*f n:=rfl
theorem joinF_at(n:Nat)(f h:Nat->Nat):joinF n f h n=h 0:=by
 unfold joinF;rw[if_neg (Nat.lt_irrefl _),Nat.sub_self]
theorem long_gen{n:Nat}:natV 4294967296 (joinF n (fun _=>0) fun _=>1) (n+1)=2^(32*n):=by
 rw[natV_snoc,natV_none n (fun j hj=>by unfold joinF;rw[if_pos hj]),joinF_at,Nat.zero_add,Nat.mul_one,show(4294967296:Nat)=2^32 from rfl,<- Nat.pow_mul]
theorem long_lenG(n:Nat):blN (natV 4294967296 (joinF n (fun _=>0) fun _=>1) (n+1))=32*n+1:=by
 rw[long_gen];exact bl_is (k:=32*n) (Nat.le_refl _) (Nat.pow_lt_pow_right (by decide) (Nat.lt_succ_self _))
theorem long_len:blN (natV 4294967296 (joinF 128 (fun _=>0) fun _=>1) (128+1))=4097:=long_lenG 128
namespace MT
open Sy
theorem fb_r9{A:Nat}{a:N12}{a0:Act}{w:World}{X:Exit->Act->World->Prop}(oa:(L12s a).ok)(hz0:a0.tmps.size=68)(h3:a0.tmps.getD 2 undef=.pointer (some ⟨A,0,none⟩))(hA:w.heap[A]?=some (.cells ((L12s a).cells o0).toArray 38 (0,0)))
  (hX:∀ a' w',a'.tmps.size=a0.tmps.size->a'.defers=a0.defers->Below w.heap.size w w'->(∀ t,t ∉ [9,8,40,41,42,43,44,45]->a'.tmps.getD t undef=a0.tmps.getD t undef)->a'.tmps.getD 9 undef=.int .i64 0 ->
   (∃ D,a'.tmps.getD 8 undef=.pointer (some ⟨D,0,none⟩)/\w.heap.size<=D/\w'.heap[D]?=some (.cells ((L12s one12).cells o0).toArray 38 (0,0)))->X .normal a' w') :
  ((Tryz.f6.body.bind (regC 9)).getD .skip).wp Tryz.prog X a0 w:=by
 have hAl:=(Array.getElem?_eq_some_iff.1 hA).1;obtain⟨Y,hY⟩:∃ Y,one12=Y:=⟨_,rfl⟩
 rw[hY]at hX
 conv=>arg 2;whnf
 refine region_many (TT:=38) [.val 41 ((L12s a).val o0),.own 42 (LZ 200),.val 43 (.tuple #[(L12s Y).val o0,.int .i64 0]),.val 40 (.tuple #[(L12s Y).val o0,.int .i64 0]),.val 44 ((L12s Y).val o0),.val 45 (.int .i64 0),.blk 8 38,.laid 8 38,.val 9 (.int .i64 0)] [8] (fun _=>((L12s Y).cells o0).toArray) (fun i=>i) (by kernel_rfl) (by kernel_rfl)
  (by exact⟨trivial,LZ.keep (by decide),trivial,trivial,trivial,trivial,by simp[Sp.ok],by simp[Sp.ok],trivial,trivial⟩)
  (by intro p hp q hq hne;simp only[List.mem_cons,List.not_mem_nil,or_false]at hp hq;exact absurd (hp.trans hq.symm) hne) ?_ ?_
 ·refine⟨?_,?_,?_,?_,?_,?_,?_,?_,?_,trivial⟩
  ·intro ac wx hC hsz hK
   have h0:=(hK.1 2 (by kernel_rfl)).trans h3;exact mm_load 38 (.tmp 2) _ _ rfl rfl (by kernel_rfl) h0 (ld12 ((hC.1.block _ hAl).trans hA)) hC (by kernel_rfl) (by rw[hsz,hz0];decide) rfl
  ·intro ac wx hC hsz hK
   exact mm_grow (.slice (some ⟨wx.heap.size,0,none⟩) 200 200) (wx.alloc (.cells (zU 200) 53)) (LZ 200) rfl (by kernel_rfl) (by kernel_rfl) ((Below.refl _ _).alloc (Nat.le_refl _) _) ⟨_,rfl,heap_alloc_new _ _⟩ hC (by kernel_rfl) (by rw[hsz,hz0];decide) rfl
  ·intro ac wx hC hsz hK
   have h0:ac.tmps.getD 41 undef=(L12s a).val o0:=hK.2 ⟨0,.data⟩ (by simp) rfl _ rfl;obtain⟨g,h1,hr⟩:LZ 200 (ac.tmps.getD 42 undef) wx:=hK.2 ⟨1,.data⟩ (by simp) rfl _ rfl;refine mm_call 28 #[ac.tmps.getD 41 undef,ac.tmps.getD 42 undef] _ rfl (by kernel_rfl) (by kernel_rfl) ?_ hC (by kernel_rfl) (by rw[hsz,hz0];decide) rfl;rw[h0,h1];refine(Exp12_at (LZ.nv hr (by decide)) a oa).mono fun e w' ⟨h4,h5⟩=>⟨?_,h5⟩
   rw[natV_none 200 (fun _ _=>rfl),if_neg (by decide),pw12_zero,hY]at h4;exact h4
  ·intro ac wx hC hsz hK
   have h0:ac.tmps.getD 43 undef=(.tuple #[(L12s Y).val o0,.int .i64 0]):=hK.2 ⟨2,.data⟩ (by simp) rfl _ rfl;exact mm_val _ rfl (by kernel_rfl) (run_mvN (.tmp 43) _ (.inl rfl) h0) hC (by kernel_rfl) (by rw[hsz,hz0];decide) rfl
  ·intro ac wx hC hsz hK
   have h0:ac.tmps.getD 40 undef=(.tuple #[(L12s Y).val o0,.int .i64 0]):=hK.2 ⟨3,.data⟩ (by simp) rfl _ rfl;exact mm_val _ rfl (by kernel_rfl) (gr_ext (x:=.tmp 40) (i:=0) rfl h0 rfl) hC (by kernel_rfl) (by rw[hsz,hz0];decide) rfl
  ·intro ac wx hC hsz hK
   have h0:ac.tmps.getD 40 undef=(.tuple #[(L12s Y).val o0,.int .i64 0]):=hK.2 ⟨3,.data⟩ (by simp) rfl _ rfl;exact mm_val _ rfl (by kernel_rfl) (gr_ext (x:=.tmp 40) (i:=1) rfl h0 rfl) hC (by kernel_rfl) (by rw[hsz,hz0];decide) rfl
  ·intro ac wx hC hsz hK
   exact mm_new 38 zc48 rfl (by kernel_rfl) (by kernel_rfl) hC (by kernel_rfl) (by rw[hsz,hz0];decide) rfl
  ·intro ac wx hC hsz hK
   have h0:ac.tmps.getD 44 undef=(L12s Y).val o0:=hK.2 ⟨4,.data⟩ (by simp) rfl _ rfl;exact mm_store (p:=8) 38 (.tmp 8) (.tmp 44) _ rfl rfl (by kernel_rfl) rfl h0 (by simp) (hK.2 ⟨6,.data⟩ (by simp) rfl _ rfl) (fun D cs h4 h5=>st12 h4 h5) hC rfl rfl
  ·intro ac wx hC hsz hK
   have h0:ac.tmps.getD 45 undef=.int .i64 0:=hK.2 ⟨5,.data⟩ (by simp) rfl _ rfl;exact mm_val _ rfl (by kernel_rfl) (run_mvN (.tmp 45) _ (.inr rfl) h0) hC (by kernel_rfl) (by rw[hsz,hz0];decide) rfl
 ·intro g wx hb _ hf
  generalize hA':putAll g _ a0=a' at hf |-
  have z1:a'.tmps.size=a0.tmps.size:=by rw[<- hA'];exact putAll_size _ _ _
  have z2:a'.defers=a0.defers:=by rw[<- hA'];exact putAll_defers _ _ _
  have z3:∀ t,t ∉ [9,8,40,41,42,43,44,45]->a'.tmps.getD t undef=a0.tmps.getD t undef:=fun t ht=>by
   rw[<- hA'];exact putAll_other (not_dst (ks:=[9,8,40,41,42,43,44,45]) (by kernel_rfl) ht)
  clear hA';exact hX a' wx z1 z2 hb z3 (hf 8 _ rfl) (hf 7 _ rfl)
theorem fb_r10{A:Nat}{a:N12}{a0:Act}{w:World}{X:Exit->Act->World->Prop}(oa:(L12s a).ok)(hz0:a0.tmps.size=68)(h3:a0.tmps.getD 2 undef=.pointer (some ⟨A,0,none⟩))(hA:w.heap[A]?=some (.cells ((L12s a).cells o0).toArray 38 (0,0)))
  (hX:∀ a' w',a'.tmps.size=a0.tmps.size->a'.defers=a0.defers->Below w.heap.size w w'->(∀ t,t ∉ [11,10,46,47,48,49,50,51,52,53]->a'.tmps.getD t undef=a0.tmps.getD t undef)->a'.tmps.getD 11 undef=.int .i64 2 ->
   (∃ D,a'.tmps.getD 10 undef=.pointer (some ⟨D,0,none⟩)/\w.heap.size<=D/\w'.heap[D]?=some (.cells ((L12s z12).cells o0).toArray 38 (0,0)))->X .normal a' w') :
  ((Tryz.f6.body.bind (regC 10)).getD .skip).wp Tryz.prog X a0 w:=by
 have hAl:=(Array.getElem?_eq_some_iff.1 hA).1;obtain⟨Y,hY⟩:∃ Y,z12=Y:=⟨_,rfl⟩
 rw[hY]at hX
 conv=>arg 2;whnf
 refine region_many (TT:=38) [.val 47 ((L12s a).val o0),.own 48 (LZ 128),.own 49 L1,.own 50 (LN (128+1) (joinF 128 (fun _=>0) fun _=>1)),.val 51 (.tuple #[(L12s Y).val o0,.int .i64 2]),.val 46 (.tuple #[(L12s Y).val o0,.int .i64 2]),.val 52 ((L12s Y).val o0),.val 53 (.int .i64 2),.blk 10 38,.laid 10 38,.val 11 (.int .i64 2)] [10] (fun _=>((L12s Y).cells o0).toArray) (fun i=>i) (by kernel_rfl) (by kernel_rfl)
  (by exact⟨trivial,LZ.keep (by decide),L1.keep (by decide),LN.keep (by decide),trivial,trivial,trivial,trivial,by simp[Sp.ok],by simp[Sp.ok],trivial,trivial⟩)
  (by intro p hp q hq hne;simp only[List.mem_cons,List.not_mem_nil,or_false]at hp hq;exact absurd (hp.trans hq.symm) hne) ?_ ?_
 ·refine⟨?_,?_,?_,?_,?_,?_,?_,?_,?_,?_,?_,trivial⟩
  ·intro ac wx hC hsz hK
   have h0:=(hK.1 2 (by kernel_rfl)).trans h3;exact mm_load 38 (.tmp 2) _ _ rfl rfl (by kernel_rfl) h0 (ld12 ((hC.1.block _ hAl).trans hA)) hC (by kernel_rfl) (by rw[hsz,hz0];decide) rfl
  ·intro ac wx hC hsz hK
   exact mm_grow (.slice (some ⟨wx.heap.size,0,none⟩) 128 128) (wx.alloc (.cells (zU 128) 53)) (LZ 128) rfl (by kernel_rfl) (by kernel_rfl) ((Below.refl _ _).alloc (Nat.le_refl _) _) ⟨_,rfl,heap_alloc_new _ _⟩ hC (by kernel_rfl) (by rw[hsz,hz0];decide) rfl
  ·intro ac wx hC hsz hK
   exact mm_grow (.slice (some ⟨wx.heap.size,0,none⟩) 1 1) (wx.alloc (.cells #[.int .u32 1] 53)) L1 rfl (by kernel_rfl) (by kernel_rfl) ((Below.refl _ _).alloc (Nat.le_refl _) _) ⟨_,rfl,heap_alloc_new _ _⟩ hC (by kernel_rfl) (by rw[hsz,hz0];decide) rfl
  ·intro ac wx hC hsz hK
   obtain⟨g,h0,hg⟩:LZ 128 (ac.tmps.getD 48 undef) wx:=hK.2 ⟨1,.data⟩ (by simp) rfl _ rfl;obtain⟨b,h1,hb1⟩:L1 (ac.tmps.getD 49 undef) wx:=hK.2 ⟨2,.data⟩ (by simp) rfl _ rfl;obtain⟨v',w',hr,hL,hb⟩:=app_grow (ty:=46) (cap:=128) (c:=1) (pt_z hg) (pt_1 hb1) (fun _ _=>by decide) (fun _ _=>by decide) (by decide) (by decide);exact mm_grow v' w' (LN (128+1) (joinF 128 (fun _=>0) fun _=>1)) rfl (by kernel_rfl) (run_appN (.tmp 48) (.tmp 49) _ _ _ rfl rfl h0 h1 hr) hb hL hC (by kernel_rfl) (by rw[hsz,hz0];decide) rfl
  ·intro ac wx hC hsz hK
   have h0:ac.tmps.getD 47 undef=(L12s a).val o0:=hK.2 ⟨0,.data⟩ (by simp) rfl _ rfl;obtain⟨g,c,cs,h1,-,hN⟩:LN (128+1) (joinF 128 (fun _=>0) fun _=>1) (ac.tmps.getD 50 undef) wx:=hK.2 ⟨3,.data⟩ (by simp) rfl _ rfl;refine mm_call 28 #[ac.tmps.getD 47 undef,ac.tmps.getD 50 undef] _ rfl (by kernel_rfl) (by kernel_rfl) ?_ hC (by kernel_rfl) (by rw[hsz,hz0];decide) rfl;rw[h0,h1];refine(Exp12_at hN a oa).mono fun e w' ⟨h4,h5⟩=>⟨?_,h5⟩
   rw[long_len,if_pos (by decide),hY]at h4;exact h4
  ·intro ac wx hC hsz hK
   have h0:ac.tmps.getD 51 undef=(.tuple #[(L12s Y).val o0,.int .i64 2]):=hK.2 ⟨4,.data⟩ (by simp) rfl _ rfl;exact mm_val _ rfl (by kernel_rfl) (run_mvN (.tmp 51) _ (.inl rfl) h0) hC (by kernel_rfl) (by rw[hsz,hz0];decide) rfl
  ·intro ac wx hC hsz hK
   have h0:ac.tmps.getD 46 undef=(.tuple #[(L12s Y).val o0,.int .i64 2]):=hK.2 ⟨5,.data⟩ (by simp) rfl _ rfl;exact mm_val _ rfl (by kernel_rfl) (gr_ext (x:=.tmp 46) (i:=0) rfl h0 rfl) hC (by kernel_rfl) (by rw[hsz,hz0];decide) rfl
  ·intro ac wx hC hsz hK
   have h0:ac.tmps.getD 46 undef=(.tuple #[(L12s Y).val o0,.int .i64 2]):=hK.2 ⟨5,.data⟩ (by simp) rfl _ rfl;exact mm_val _ rfl (by kernel_rfl) (gr_ext (x:=.tmp 46) (i:=1) rfl h0 rfl) hC (by kernel_rfl) (by rw[hsz,hz0];decide) rfl
  ·intro ac wx hC hsz hK
   exact mm_new 38 zc48 rfl (by kernel_rfl) (by kernel_rfl) hC (by kernel_rfl) (by rw[hsz,hz0];decide) rfl
  ·intro ac wx hC hsz hK
   have h0:ac.tmps.getD 52 undef=(L12s Y).val o0:=hK.2 ⟨6,.data⟩ (by simp) rfl _ rfl;exact mm_store (p:=10) 38 (.tmp 10) (.tmp 52) _ rfl rfl (by kernel_rfl) rfl h0 (by simp) (hK.2 ⟨8,.data⟩ (by simp) rfl _ rfl) (fun D cs h4 h5=>st12 h4 h5) hC rfl rfl
  ·intro ac wx hC hsz hK
   have h0:ac.tmps.getD 53 undef=.int .i64 2:=hK.2 ⟨7,.data⟩ (by simp) rfl _ rfl;exact mm_val _ rfl (by kernel_rfl) (run_mvN (.tmp 53) _ (.inr rfl) h0) hC (by kernel_rfl) (by rw[hsz,hz0];decide) rfl
 ·intro g wx hb _ hf
  generalize hA':putAll g _ a0=a' at hf |-
  have z1:a'.tmps.size=a0.tmps.size:=by rw[<- hA'];exact putAll_size _ _ _
  have z2:a'.defers=a0.defers:=by rw[<- hA'];exact putAll_defers _ _ _
  have z3:∀ t,t ∉ [11,10,46,47,48,49,50,51,52,53]->a'.tmps.getD t undef=a0.tmps.getD t undef:=fun t ht=>by
   rw[<- hA'];exact putAll_other (not_dst (ks:=[11,10,46,47,48,49,50,51,52,53]) (by kernel_rfl) ht)
  clear hA';exact hX a' wx z1 z2 hb z3 (hf 10 _ rfl) (hf 9 _ rfl)
end MT
end Go.Proofs.YthnckclbeecnmaaGreat
