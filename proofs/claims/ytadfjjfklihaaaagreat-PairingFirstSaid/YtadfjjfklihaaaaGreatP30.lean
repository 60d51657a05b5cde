/- What the reference's parts comes to. (Cut to what is reached, written closely: RLow · FRCmp · FRPls · FRMin · RFld · RPt.) -/
import Derived.Test.YtadfjjfklihaaaaGreatP29
import Derived.Test.YtadfjjfklihaaaaGreatP19
import Derived.Test.YtadfjjfklihaaaaGreatP23
set_option linter.all false
set_option maxRecDepth 100000
set_option maxHeartbeats 8000000
namespace Go.Proofs.YtadfjjfklihaaaaGreat
def qN(x j:Nat):Nat:=x%115792089237316195423570985008687907853269984665640564039457584007913129639936 / 2^(32*j)%4294967296
theorem qN_lt(x j:Nat):qN x j<4294967296:=Nat.mod_lt _ (by omega)
theorem qn_of(x k p s:Nat)(hp:k / 2=p)(hs:32*(k%2)=s):pN x p / 2^s%4294967296=qN x k:=by
 subst hp hs;unfold pN qN;have e:18446744073709551616=2^(32*(k%2))*2^(64 - 32*(k%2)):=by rw[<- Nat.pow_add,show 32*(k%2)+(64 - 32*(k%2))=64 by omega]
 have e2:(4294967296:Nat)=2^32:=by rfl
 rw[e,Nat.mod_mul_right_div_self,e2,Nat.mod_mod_of_dvd _ (Nat.pow_dvd_pow 2 (by omega)),Nat.div_div_eq_div_mul,<- Nat.pow_add,show 64*(k / 2)+32*(k%2)=32*k by omega]
theorem odd_part:∀ n:Nat,0<n->∃ v r,n=2^v*(2*r+1):=by
 intro n
 induction n using Nat.strongRecOn with
 | ind n ih =>
  intro h;by_cases ho:n%2=1
  ·exact⟨0,n / 2,by rw[Nat.pow_zero,Nat.one_mul];omega⟩
  ·obtain⟨v,r,e⟩:=ih (n / 2) (by omega) (by omega)
   exact⟨v+1,r,by rw[Nat.pow_succ,Nat.mul_comm (2^v) 2,Nat.mul_assoc,<- e];omega⟩
theorem and_compl(r n:Nat)(h:r<2^n):r &&& (2^n - (r+1))=0:=by
 apply Nat.eq_of_testBit_eq;intro i;rw[Nat.testBit_and,Nat.testBit_two_pow_sub_succ h,Nat.zero_testBit];cases Nat.testBit r i <;> simp
theorem and_odd(r s:Nat)(h:r &&& s=0):(2*r+1) &&& (2*s+1)=1:=by
 apply Nat.eq_of_testBit_eq;intro i;cases i with
 | zero=>rw[Nat.testBit_and];simp[Nat.testBit_zero]
 | succ i =>
  have e:Nat.testBit (r &&& s) i=false:=by rw[h,Nat.zero_testBit]
  rw[Nat.testBit_and]at e;rw[Nat.testBit_and,Nat.testBit_succ,Nat.testBit_succ,Nat.testBit_succ,show(2*r+1) / 2=r by omega,show(2*s+1) / 2=s by omega,e];simp
theorem low_bit(L:Nat)(h0:0<L)(hl:L<4294967296):∃ v r,L=2^v*(2*r+1)/\v<32/\L &&& (18446744073709551616 - L)=2^v:=by
 obtain⟨v,r,e⟩:=odd_part L h0;have hv:v<32:=by
  apply Classical.byContradiction;intro hn;have:2^32<=2^v:=Nat.pow_le_pow_right (by omega) (by omega);have h2:2^v*1<=2^v*(2*r+1):=Nat.mul_le_mul_left _ (by omega);omega
 refine⟨v,r,e,hv,?_⟩;have hr:r<2^(63 - v):=by
  apply Classical.byContradiction;intro hn;have h2:2^v*2^(63 - v)<=2^v*r:=Nat.mul_le_mul_left _ (by omega);have h3:2^v*r<=2^v*(2*r+1):=Nat.mul_le_mul_left _ (by omega);rw[<- Nat.pow_add,show v+(63 - v)=63 by omega]at h2;omega
 have e2:18446744073709551616 - L=2^v*(2*(2^(63 - v) - (r+1))+1):=by
  have e3:2^v*(2*2^(63 - v))=18446744073709551616:=by
   rw[show 2*2^(63 - v)=2^(64 - v) by rw[<- Nat.pow_succ',Nat.succ_eq_add_one,show 63 - v+1=64 - v by omega],<- Nat.pow_add,show v+(64 - v)=64 by omega]
  rw[<- e3,e,<- Nat.mul_sub];congr 1;omega
 rw[e2,e,Nat.mul_comm (2^v),Nat.mul_comm (2^v),<- Nat.shiftLeft_eq,<- Nat.shiftLeft_eq,<- Nat.shiftLeft_and_distrib,and_odd _ _ (and_compl _ _ hr),Nat.shiftLeft_eq,Nat.one_mul]
def LowI(m lo:Nat):Prop:=∃ t,t<=32/\lo<2^t/\2^t∣lo*m+1
theorem LowI.lt{m lo:Nat}(h:LowI m lo):lo<4294967296:=by
 obtain⟨t,h1,h2,-⟩:=h;have:2^t<=2^32:=Nat.pow_le_pow_right (by omega) h1;omega
theorem LowI.start{m:Nat}(h:m%2=1):LowI m 1:=⟨1,by omega,by omega,by rw[Nat.dvd_iff_mod_eq_zero];omega⟩
theorem LowI.step{m lo c L:Nat}(h:LowI m lo)(ho:m%2=1)(hc:lo*m%4294967296=c)(hn:c≠4294967295)(hL:4294967295 - c=L):∃ b,L &&& (18446744073709551616 - L)=b/\0<b/\lo+b<4294967296/\LowI m (lo+b):=by
 have hcl:c<4294967296:=by rw[<- hc];exact Nat.mod_lt _ (by omega)
 obtain⟨v,r,e,hv,hb⟩:=low_bit L (by omega) (by omega);obtain⟨t,h1,h2,h3⟩:=h;have hpv:0<2^v:=Nat.pow_pos (by omega)
 -- lo*m+1 and L are together a multiple of 2^32
 obtain⟨z,hz⟩:∃ z,lo*m+1+L=4294967296*z:=⟨lo*m / 4294967296+1,by have:=Nat.div_add_mod (lo*m) 4294967296;omega⟩
 have htL:2^t∣L:=by
  have hd:2^t∣lo*m+1+L:=by
   rw[hz];exact Nat.dvd_trans (show 2^t∣4294967296 from(show(2:Nat)^t∣2^32 from Nat.pow_dvd_pow 2 h1)) (Nat.dvd_mul_right _ _)
  exact(Nat.dvd_add_iff_right h3).2 hd
 have htv:t<=v:=by
  apply Classical.byContradiction;intro hn;have h4:2^(v+1)∣2^v*(2*r+1):=by rw[<- e];exact Nat.dvd_trans (Nat.pow_dvd_pow 2 (by omega)) htL
  rw[Nat.pow_succ]at h4;have:=Nat.dvd_of_mul_dvd_mul_left hpv h4;omega
 have hlo:lo<2^v:=Nat.lt_of_lt_of_le h2 (Nat.pow_le_pow_right (by omega) htv);have hv1:2^(v+1)=2^v*2:=Nat.pow_succ _ _;have hv2:2^(v+1)<=2^32:=Nat.pow_le_pow_right (by omega) (by omega);refine⟨2^v,hb,hpv,by omega,v+1,by omega,by omega,?_⟩;have h5:2^(v+1)∣4294967296:=(show(2:Nat)^(v+1)∣2^32 from Nat.pow_dvd_pow 2 (by omega))
 have h6:(lo+2^v)*m+1+L=4294967296*z+2^v*m:=by rw[Nat.add_mul];omega
 have h7:2^v*m+2^(v+1)*r+2^v=L+2^v*m:=by rw[e,hv1];grind
 obtain⟨u,hu⟩:∃ u,m=2*u+1:=⟨m / 2,by omega⟩
 -- (lo+2^v) m+1=2^32 z+2^v (m - 2r - 1): told with no difference
 have h8:2^(v+1)∣(lo+2^v)*m+1+2^(v+1)*r:=by
  have e9:(lo+2^v)*m+1+2^(v+1)*r=4294967296*z+2^(v+1)*u:=by
   have:2^v*m=2^(v+1)*u+2^v:=by rw[hu,hv1];grind
   have e10:L=2^(v+1)*r+2^v:=by rw[e,hv1];grind
   omega
  rw[e9];exact Nat.dvd_add (Nat.dvd_trans h5 (Nat.dvd_mul_right _ _)) (Nat.dvd_mul_right _ _)
 exact(Nat.dvd_add_iff_left (Nat.dvd_mul_right _ _)).2 h8
theorem LowI.done{m lo:Nat}(hc:lo*m%4294967296=4294967295):(lo*m+1)%4294967296=0:=by omega
open Go.RowKit
structure W2 (w:World) (fa fb:Nat->Nat) (wx:World):Prop where
 old:Below w.heap.size w wx
 ra:wx.heap[w.heap.size]?=some (.cells (ar .u64 4 fun j=>((fa j:Nat):Int)) 24 (0,0))
 rb:wx.heap[w.heap.size+1]?=some (.cells (ar .u64 4 fun j=>((fb j:Nat):Int)) 24 (0,0))
theorem W2.drew{w wx:World}{fa fb:Nat->Nat}(c:W2 w fa fb wx):W2 w fa fb wx.drew:=⟨c.old.drew,c.ra,c.rb⟩
theorem W2.ca{w wx:World}{fa fb:Nat->Nat}(c:W2 w fa fb wx)(j:Nat)(hj:j<4):wx.cell? ⟨w.heap.size,j,none⟩=some (.int .u64 (fa j:Nat)):=(cell_of_row _ _ j _ _ _ c.ra).trans (ar_at _ _ _ _ hj)
theorem W2.cb{w wx:World}{fa fb:Nat->Nat}(c:W2 w fa fb wx)(j:Nat)(hj:j<4):wx.cell? ⟨w.heap.size+1,j,none⟩=some (.int .u64 (fb j:Nat)):=(cell_of_row _ _ j _ _ _ c.rb).trans (ar_at _ _ _ _ hj)
theorem W2.start(w:World)(a b:Nat):W2 w (pN a) (pN b) ((w.alloc (.cells (pw a) 24)).alloc (.cells (pw b) 24)):=by
 refine⟨((Below.refl _ _).alloc (Nat.le_refl _) _).alloc (by simp) _,?_,?_⟩
 ·rw[Below.heap_alloc _ _ _ (by simp),heap_alloc_new,pw_ar]
 ·have:=heap_alloc_new (w.alloc (.cells (pw a) 24)) (.cells (pw b) 24)
  rw[World.size_alloc]at this;rw[this,pw_ar]
theorem moreW_any(a b:Nat)(ha:a<2^256)(hb:b<2^256)(w:World):Calls Tryz.prog 99 #[.agg (pw a),.agg (pw b)] w fun e w'=>e=.returned (.bool (decide (b<=a)))/\Below w.heap.size w w':=by
 have HAB:=Lib.hid (And.intro ha hb);have HS:=Lib.hid (show a / 2^(64*4)=b / 2^(64*4) from by rw[Nat.div_eq_of_lt (by simpa using ha),Nat.div_eq_of_lt (by simpa using hb)]);have HR:=Lib.hid (show ∃ w0,(w.alloc (.cells (pw a) 24)).alloc (.cells (pw b) 24)=w0/\W2 w (pN a) (pN b) w0 from⟨_,rfl,W2.start w a b⟩);clear ha hb;go_enter Tryz.func99,Tryz.ntmps99
 go_wp2_with fail
 obtain⟨w0,hw0,h0⟩:=HR.out;rw[hw0];have H0:=Lib.hid h0;clear hw0 h0 HR
 go_loopw [5] (fun iv wr=>∃(z:Int) (k:Nat),k<=4/\z=(k:Int) - 1/\iv=.int .i64 z/\Hid (a / 2^(64*k)=b / 2^(64*k)/\W2 w (pN a) (pN b) wr)) (fun iv _=>(intOf iv+1).toNat)
 case atStart=>exact⟨3,4,by omega,by omega,rfl,Lib.hid ⟨HS.out,H0.out⟩⟩
 case round =>
  obtain⟨z,k,hk,hz,rfl,H⟩:=hrel;clear H0 HS;by_cases h0:0<=z
  ·obtain⟨j,rfl⟩:=Int.eq_ofNat_of_zero_le h0
   obtain rfl:k=j+1:=by omega
   have hj:j<4:=by omega
   have hj4:(j:Int)<4:=by omega
   have ca:=H.out.2.ca j hj;have cb:=H.out.2.cb j hj;have ta:=Lib.hid (top_step a j HAB.out.1 hj);have tb:=Lib.hid (top_step b j HAB.out.2 hj);have hpl:=pN_le a j;have hql:=pN_le b j;obtain⟨p,hp⟩:∃ p,pN a j=p:=⟨_,rfl⟩
   obtain⟨q,hq⟩:∃ q,pN b j=q:=⟨_,rfl⟩
   rw[hp]at ca ta hpl;rw[hq]at cb tb hql;clear hp hq;have HL:=Lib.hid (And.intro hpl hql);clear hpl hql;by_cases he:p=q
   ·subst he
    clear hk hz hj
    go_wp2_with fail
    go_region
    go_wp2
    go_roundw
    case rel=>exact⟨(j:Int) - 1,j,by omega,rfl,by go_num,Lib.hid ⟨by rw[ta.out,tb.out,H.out.1],H.out.2.drew⟩⟩
    case measure=>simp[intOf]
   ·have hne:¬(p:Int)=(q:Int):=by omega
    by_cases hlt:q<p
    ·have hgt:(q:Int)<(p:Int):=by omega
     have HE:=Lib.hid (show decide (b<=a)=true from decide_eq_true (Nat.le_of_lt (div_lt_of (P:=2^(64*j)) (by rw[ta.out,tb.out,H.out.1];omega))));clear hk hz hj he hlt ta tb HL
     go_wp2_with fail
     go_region
     go_wp2_with fail
     go_region
     go_wp2_with fail
     go_ret;exact⟨by rw[HE.out];first | rfl | (show Ending.returned (.bool (decide (q<p)))=_;rw[decide_eq_false (by omega)]),H.out.2.old.drew.drew⟩
    ·have hgt:¬(q:Int)<(p:Int):=by omega
     have HE:=Lib.hid (show decide (b<=a)=false from decide_eq_false (Nat.not_le.2 (div_lt_of (P:=2^(64*j)) (by rw[ta.out,tb.out,H.out.1];omega))));clear hk hz hj he hlt ta tb HL
     go_wp2_with fail
     go_region
     go_wp2_with fail
     go_region
     go_wp2_with fail
     go_ret;exact⟨by rw[HE.out];first | rfl | (show Ending.returned (.bool (decide (q<p)))=_;rw[decide_eq_false (by omega)]),H.out.2.old.drew.drew⟩
  ·obtain rfl:k=0:=by omega
   have hz':¬(z:Int) ≥ 0:=by omega
   have HE:=Lib.hid (show decide (b<=a)=true from decide_eq_true (by have:=H.out.1;simp at this;omega));clear hz
   go_wp2_with fail
   go_ret;exact⟨by rw[HE.out];rfl,H.out.2.old⟩
open Go.RowKit
structure W3 (w:World) (fa fb:Nat->Nat) (wx:World):Prop extends W2 w fa fb wx where
 rc:wx.heap[w.heap.size+1+1]?=some (.cells (#[.int .u64 0,.int .u64 0,.int .u64 0,.int .u64 0]) 24 (0,0))
theorem W3.drew{w wx:World}{fa fb:Nat->Nat}(c:W3 w fa fb wx):W3 w fa fb wx.drew:=⟨c.toW2.drew,c.rc⟩
theorem W3.start(w:World)(a b:Nat):W3 w (pN a) (pN b) (((w.alloc (.cells (pw a) 24)).alloc (.cells (pw b) 24)).alloc (.cells (#[.int .u64 0,.int .u64 0,.int .u64 0,.int .u64 0]) 24)):=by
 have h:=W2.start w a b;refine⟨⟨h.old.alloc (by simp;omega) _,?_,?_⟩,?_⟩
 ·rw[Below.heap_alloc _ _ _ (by simp;omega),h.ra]
 ·rw[Below.heap_alloc _ _ _ (by simp),h.rb]
 ·have:=heap_alloc_new ((w.alloc (.cells (pw a) 24)).alloc (.cells (pw b) 24)) (.cells (#[.int .u64 0,.int .u64 0,.int .u64 0,.int .u64 0]) 24)
  rwa [World.size_alloc,World.size_alloc]at this
theorem W3.put{w wx:World}{x y k v:Nat}{fb:Nat->Nat}(c:W3 w (mixN x y k) fb wx)(hk:k<4)(hv:v=pN x k):W3 w (mixN x y (k+1)) fb (wx.setCell ⟨w.heap.size,k,none⟩ (.int .u64 (v:Nat))):=by
 subst hv;refine⟨⟨c.old.setCell (Nat.le_refl _) _,?_,(heap_setCell_other _ _ _ _ (by simp)).trans c.rb⟩,(heap_setCell_other _ _ _ _ (by simp;omega)).trans c.rc⟩;refine(heap_setCell_same _ _ _ _ _ _ c.ra).trans ?_;rw[ar_set _ _ _ _ _ hk];congr 2;refine ar_congr fun j _=>?_;unfold updI;rw[mix_next];by_cases e:j=k
 ·rw[if_pos e,if_pos e]
 ·rw[if_neg e,if_neg e]
theorem mix_zero(x y:Nat):mixN x y 0=pN y:=by funext j;simp[mixN]
theorem mix_four(x y:Nat):(ar .u64 4 fun j=>((mixN x y 4 j:Nat):Int))=pw x:=by
 rw[pw_ar];exact ar_congr fun j hj=>by unfold mixN;rw[if_pos hj]
theorem W3.full{w wx:World}{x y:Nat}{fb:Nat->Nat}(c:W3 w (mixN x y 4) fb wx):wx.heap[w.heap.size]?=some (.cells (pw x) 24 (0,0))/\wx.heap[w.heap.size+1+1]?=some (.cells (#[.int .u64 0,.int .u64 0,.int .u64 0,.int .u64 0]) 24 (0,0)):=by
 refine⟨?_,c.rc⟩;have:=c.ra;rwa [mix_four]at this
theorem results_cs{fn:Func}{p q:Tmp}(h:fn.results=#[.cell p 24,.tmp q])(tmps:Array Value)(w:World)(g:Nat)(cs:Array Value)(v:Value)(fr:Nat × Nat)
  (hp:tmps.getD p undef=.pointer (some ⟨g,0,none⟩)) (hq:tmps.getD q undef=v) (hg:w.heap[g]?=some (.cells cs 24 fr))
  (hi:(Tryz.prog.info? 24).map (·.size)=some cs.size) :
  (results fn tmps).run Tryz.prog w=.ok (.tuple #[.agg cs,v]) w:=by
 have hp':tmps[p]?.getD undef=.pointer (some ⟨g,0,none⟩):=by simpa using hp
 have hq':tmps[q]?.getD undef=v:=by simpa using hq
 simp[results,h,hp',hq',asAddr,run_loadVar_row w g 24 24 cs fr _ hg Tryz.underlying24 rfl hi]
theorem plusW_any(a b:Nat)(ha:a<2^256)(hb:b<2^256)(w:World):Calls Tryz.prog 98 #[.agg (pw a),.agg (pw b)] w fun e w'=>e=.returned (.tuple #[.agg (pw (a+b)),.bool (decide (2^256<=a+b))])/\Below w.heap.size w w':=by
 have HAB:=Lib.hid (And.intro ha hb);have HE:=Lib.hid (cy_end a b ha hb);have HR:=Lib.hid (show ∃ w0,((w.alloc (.cells (pw a) 24)).alloc (.cells (pw b) 24)).alloc (.cells (#[.int .u64 0,.int .u64 0,.int .u64 0,.int .u64 0]) 24)=w0/\W3 w (mixN (a+b) a 0) (pN b) w0 from⟨_,rfl,by rw[mix_zero];exact W3.start w a b⟩);clear ha hb;go_enter Tryz.func98,Tryz.ntmps98
 go_wp2_with fail
 obtain⟨w0,hw0,h0⟩:=HR.out;rw[hw0];have H0:=Lib.hid h0;clear hw0 h0 HR
 go_loopw [6,7] (fun ov iv wr=>∃ k c:Nat,k<=4/\c=cyN a b k/\ov=.int .u64 c/\iv=.int .i64 k/\Hid (W3 w (mixN (a+b) a k) (pN b) wr)) (fun _ iv _=>4 - (intOf iv).toNat)
 case atStart=>exact⟨0,0,by omega,(cy_zero _ _).symm,rfl,rfl,H0⟩
 case round =>
  obtain⟨k,c,hk,hc,rfl,rfl,H⟩:=hrel;clear H0;have hk0:(0:Int)<=k:=by omega
  by_cases hlt:k<4
  ·have hk4:(k:Int)<4:=by omega
   have ca:=H.out.ca k hlt;have cb:=H.out.cb k hlt;have fo:=frozen_of_row wr w.heap.size k _ _ H.out.ra;rw[show mixN (a+b) a k k=pN a k from by unfold mixN;rw[if_neg (by omega)]]at ca;obtain⟨hst,hc1,hd1⟩:=cy_step a b k HAB.out.1 HAB.out.2 hlt;have hpl:=pN_le a k;have hql:=pN_le b k;have hsl:=pN_le (a+b) k;have hck:cyN a b k=c:=hc.symm;obtain⟨d,hd⟩:∃ d,cyN a b (k+1)=d:=⟨_,rfl⟩
   obtain⟨p,hp⟩:∃ p,pN a k=p:=⟨_,rfl⟩
   obtain⟨q,hq⟩:∃ q,pN b k=q:=⟨_,rfl⟩
   obtain⟨s,hs⟩:∃ s,pN (a+b) k=s:=⟨_,rfl⟩
   obtain⟨x,hx⟩:∃ x,(p+q)%18446744073709551616=x:=⟨_,rfl⟩
   rw[hck,hd,hp,hq,hs]at hst;rw[hck]at hc1;rw[hd]at hd1;rw[hp]at ca hpl;rw[hq]at cb hql;rw[hs]at hsl;have hxl:x<18446744073709551616:=by omega
   have hX:IntKind.u64.wrap ((p:Int)+(q:Int))=(x:Int):=by rw[IntKind.wrap_u64];omega
   have hY:IntKind.u64.wrap ((x:Int)+(c:Int))=(s:Int):=by rw[IntKind.wrap_u64];omega
   have HN:=Lib.hid (And.intro hd hs);by_cases h1:x<p
   ·have h1':(x:Int)<(p:Int):=by omega
    obtain rfl:d=1:=by omega
    have HK:=Lib.hid hlt;clear hc hk hst hc1 hd1 hpl hql hsl hck hd hp hq hs hx hxl h1 hlt
    go_wp2_with fail
    go_region
    go_wp2_with fail
    go_roundw
    case rel=>exact⟨k+1,1,by have:=HK.out;omega,HN.out.1.symm,rfl,by go_num,Lib.hid (H.out.drew.put HK.out HN.out.2.symm)⟩
    case measure=>have:=HK.out;simp[intOf];omega
   ·have h1':¬(x:Int)<(p:Int):=by omega
    by_cases h2:s<x
    ·have h2':(s:Int)<(x:Int):=by omega
     obtain rfl:d=1:=by omega
     have HK:=Lib.hid hlt;clear hc hk hst hc1 hd1 hpl hql hsl hck hd hp hq hs hx hxl h1 h2 hlt
     go_wp2_with fail
     go_region
     go_wp2_with fail
     go_roundw
     case rel=>exact⟨k+1,1,by have:=HK.out;omega,HN.out.1.symm,rfl,by go_num,Lib.hid (H.out.drew.put HK.out HN.out.2.symm)⟩
     case measure=>have:=HK.out;simp[intOf];omega
    ·have h2':¬(s:Int)<(x:Int):=by omega
     obtain rfl:d=0:=by omega
     have HK:=Lib.hid hlt;clear hc hk hst hc1 hd1 hpl hql hsl hck hd hp hq hs hx hxl h1 h2 hlt
     go_wp2_with fail
     go_region
     go_wp2_with fail
     go_roundw
     case rel=>exact⟨k+1,0,by have:=HK.out;omega,HN.out.1.symm,rfl,by go_num,Lib.hid (H.out.drew.put HK.out HN.out.2.symm)⟩
     case measure=>have:=HK.out;simp[intOf];omega
  ·obtain rfl:k=4:=by omega
   have HF:=Lib.hid H.out.full;rw[HE.out]at hc;have hend:decide (2^256<=a+b)=decide ((c:Int)=1):=by
    rw[hc];by_cases h:(2^256)<=a+b
    ·rw[decide_eq_true h,if_pos h];rfl
    ·rw[decide_eq_false h,if_neg h];rfl
   have HD:=Lib.hid hend;clear hc hend HE hk0
   go_wp2_with (first | (refine wpList_ld rfl 24 _ rfl (.pointer (some ⟨w.heap.size,0,none⟩)) (.agg (pw (a+b))) rfl (ld_pw (by exact HF.out.1)) ?_) | (refine wpList_store_row rfl 24 _ _ rfl (w.heap.size+1+1) (pw (a+b)) rfl rfl 24 (#[.int .u64 0,.int .u64 0,.int .u64 0,.int .u64 0]) (by exact HF.out.2) (by rw[pw_size];exact infoW4) (by rw[pw_size];rfl) (pw_one _) ?_))
   (try simp only[Act.put])
   refine bodyPost_ret (v:=.tuple #[.agg (pw (a+b)),.bool (decide ((c:Int)=1))]) (results_cs (p:=4) (q:=5) rfl _ _ (w.heap.size+1+1) (pw (a+b)) _ (0,0) rfl rfl (setRow_heap _ _ _ _ _ _ HF.out.2) (by rw[pw_size];exact infoW4)) rfl ⟨by rw[HD.out],below_setRow H.out.old (by omega) _⟩
open Go.RowKit
theorem minusW_any(a b:Nat)(ha:a<2^256)(hb:b<2^256)(w:World):Calls Tryz.prog 100 #[.agg (pw a),.agg (pw b)] w fun e w'=>e=.returned (.agg (pw (a+2^256 - b)))/\Below w.heap.size w w':=by
 have HAB:=Lib.hid (And.intro ha hb);have HR:=Lib.hid (show ∃ w0,((w.alloc (.cells (pw a) 24)).alloc (.cells (pw b) 24)).alloc (.cells (#[.int .u64 0,.int .u64 0,.int .u64 0,.int .u64 0]) 24)=w0/\W3 w (mixN (a+2^256 - b) a 0) (pN b) w0 from⟨_,rfl,by rw[mix_zero];exact W3.start w a b⟩);clear ha hb;go_enter Tryz.func100,Tryz.ntmps100
 go_wp2_with fail
 obtain⟨w0,hw0,h0⟩:=HR.out;rw[hw0];have H0:=Lib.hid h0;clear hw0 h0 HR
 go_loopw [5,6] (fun ov iv wr=>∃ k c:Nat,k<=4/\c=bwN a b k/\ov=.int .u64 c/\iv=.int .i64 k/\Hid (W3 w (mixN (a+2^256 - b) a k) (pN b) wr)) (fun _ iv _=>4 - (intOf iv).toNat)
 case atStart=>exact⟨0,0,by omega,(bw_zero _ _).symm,rfl,rfl,H0⟩
 case round =>
  obtain⟨k,c,hk,hc,rfl,rfl,H⟩:=hrel;clear H0;have hk0:(0:Int)<=k:=by omega
  by_cases hlt:k<4
  ·have hk4:(k:Int)<4:=by omega
   have ca:=H.out.ca k hlt;have cb:=H.out.cb k hlt;have fo:=frozen_of_row wr w.heap.size k _ _ H.out.ra;rw[show mixN (a+2^256 - b) a k k=pN a k from by unfold mixN;rw[if_neg (by omega)]]at ca;obtain⟨hst,hc1,hd1⟩:=bw_step a b k HAB.out.1 HAB.out.2 hlt;have hpl:=pN_le a k;have hql:=pN_le b k;have hsl:=pN_le (a+2^256 - b) k;have hck:bwN a b k=c:=hc.symm;obtain⟨d,hd⟩:∃ d,bwN a b (k+1)=d:=⟨_,rfl⟩
   obtain⟨p,hp⟩:∃ p,pN a k=p:=⟨_,rfl⟩
   obtain⟨q,hq⟩:∃ q,pN b k=q:=⟨_,rfl⟩
   obtain⟨s,hs⟩:∃ s,pN (a+2^256 - b) k=s:=⟨_,rfl⟩
   obtain⟨x,hx⟩:∃ x:Nat,IntKind.u64.wrap ((p:Int) - (q:Int))=(x:Int):=⟨(((p:Int) - (q:Int))%18446744073709551616).toNat,by rw[IntKind.wrap_u64];omega⟩
   rw[hck,hd,hp,hq,hs]at hst;rw[hck]at hc1;rw[hd]at hd1;rw[hp]at ca hpl;rw[hq]at cb hql;rw[hs]at hsl;have hxw:=hx;rw[IntKind.wrap_u64]at hxw;have hY:IntKind.u64.wrap ((x:Int) - (c:Int))=(s:Int):=by rw[IntKind.wrap_u64];omega
   have HN:=Lib.hid (And.intro hd hs);have HK:=Lib.hid hlt;by_cases h1:p<q
   ·have h1':(p:Int)<(q:Int):=by omega
    obtain rfl:d=1:=by omega
    clear hc hk hst hc1 hd1 hpl hql hsl hck hd hp hq hs hxw h1 hlt
    go_wp2_with fail
    go_region
    go_wp2_with fail
    go_region
    go_wp2_with fail
    go_roundw
    case rel=>exact⟨k+1,1,by have:=HK.out;omega,HN.out.1.symm,rfl,by go_num,Lib.hid (H.out.drew.drew.put HK.out HN.out.2.symm)⟩
    case measure=>have:=HK.out;simp[intOf];omega
   ·have h1':¬(p:Int)<(q:Int):=by omega
    by_cases h2:p=q
    ·subst h2
     have hcc:c=0\/c=1:=by omega
     rcases hcc with rfl | rfl
     ·obtain rfl:d=0:=by omega
      obtain rfl:s=0:=by omega
      clear hc hk hst hc1 hd1 hpl hql hsl hck hd hp hq hs hxw h1 hlt
      go_wp2_with fail
      go_region
      go_wp2_with fail
      go_region
      go_wp2_with fail
      go_roundw
      case rel=>exact⟨k+1,0,by have:=HK.out;omega,HN.out.1.symm,rfl,by go_num,Lib.hid (H.out.drew.drew.put HK.out HN.out.2.symm)⟩
      case measure=>have:=HK.out;simp[intOf];omega
     ·obtain rfl:d=1:=by omega
      obtain rfl:s=18446744073709551615:=by omega
      clear hc hk hst hc1 hd1 hpl hql hsl hck hd hp hq hs hxw h1 hlt
      go_wp2_with fail
      go_region
      go_wp2_with fail
      go_region
      go_wp2_with fail
      go_roundw
      case rel=>exact⟨k+1,1,by have:=HK.out;omega,HN.out.1.symm,rfl,by go_num,Lib.hid (H.out.drew.drew.put HK.out (by rw[HN.out.2];kernel_rfl))⟩
      case measure=>have:=HK.out;simp[intOf];omega
    ·have h2':¬(p:Int)=(q:Int):=by omega
     obtain rfl:d=0:=by omega
     have HIA:=Lib.hid (show ∀ wx,(Instr.indexAt 24 (.pointer (some ⟨w.heap.size,0,none⟩)) (.int .i64 k)).run Tryz.prog wx=.ok (.pointer (some ⟨w.heap.size,k,none⟩)) wx from fun wx=>by go_simp);have HIB:=Lib.hid (show ∀ wx,(Instr.indexAt 24 (.pointer (some ⟨w.heap.size+1,0,none⟩)) (.int .i64 k)).run Tryz.prog wx=.ok (.pointer (some ⟨w.heap.size+1,k,none⟩)) wx from fun wx=>by go_simp);have HLA:=Lib.hid (show ∀ wx,W3 w (mixN (a+2^256 - b) a k) (pN b) wx->(Instr.loadAt 22 (.pointer (some ⟨w.heap.size,k,none⟩))).run Tryz.prog wx=.ok (.int .u64 (p:Nat)) wx from fun wx c=>by
      have hc:=c.ca k hlt;rw[show mixN (a+2^256 - b) a k k=pN a k from by unfold mixN;rw[if_neg (by omega)],hp]at hc;clear hk hst hlt hp
      go_simp)
     have HLB:=Lib.hid (show ∀ wx,W3 w (mixN (a+2^256 - b) a k) (pN b) wx->(Instr.loadAt 22 (.pointer (some ⟨w.heap.size+1,k,none⟩))).run Tryz.prog wx=.ok (.int .u64 (q:Nat)) wx from fun wx c=>by
      have hc:=c.cb k hlt;rw[hq]at hc;clear hk hst hlt hq
      go_simp)
     have HLS:=Lib.hid (show ∀ wx,(binOp BinOp.lss 22 (.int .u64 (p:Nat)) (.int .u64 (q:Nat))).run Tryz.prog wx=.ok (.bool false) wx from fun wx=>by clear hst;go_simp);have HEQ:=Lib.hid (show ∀ wx,(binOp BinOp.eql 22 (.int .u64 (p:Nat)) (.int .u64 (q:Nat))).run Tryz.prog wx=.ok (.bool false) wx from fun wx=>by clear hst;go_simp);clear hc hk hst hc1 hd1 hpl hql hsl hck hd hp hq hs hxw hlt
     go_wp2_with fail
     go_region
     go_wp2_with fail
     refine wp_region_quiet (C:=W3 w (mixN (a+2^256 - b) a k) (pN b)) (by kernel_rfl) (by kernel_rfl) (H.out.drew.drew) ?_;simp only
     with_reducible refine q_val (.int .i64 (k:Nat)) (by kernel_rfl) (fun _ _=>by kernel_rfl) ?_
     with_reducible refine q_sem2 (Instr.indexAt 24 (.pointer (some ⟨w.heap.size,0,none⟩)) (.int .i64 (k:Nat))) (.pointer (some ⟨w.heap.size,k,none⟩)) (by kernel_rfl) (by kernel_rfl) (fun w' _=>HIA.out w') ?_
     with_reducible refine q_load 22 (.tmp 22) (.pointer (some ⟨w.heap.size,k,none⟩)) (.int .u64 (p:Nat)) rfl (by kernel_rfl) (by kernel_rfl) (fun _ c=>HLA.out _ c) ?_
     with_reducible refine q_val (.int .i64 (k:Nat)) (by kernel_rfl) (fun _ _=>by kernel_rfl) ?_
     with_reducible refine q_sem2 (Instr.indexAt 24 (.pointer (some ⟨w.heap.size+1,0,none⟩)) (.int .i64 (k:Nat))) (.pointer (some ⟨w.heap.size+1,k,none⟩)) (by kernel_rfl) (by kernel_rfl) (fun w' _=>HIB.out w') ?_
     with_reducible refine q_load 22 (.tmp 25) (.pointer (some ⟨w.heap.size+1,k,none⟩)) (.int .u64 (q:Nat)) rfl (by kernel_rfl) (by kernel_rfl) (fun _ c=>HLB.out _ c) ?_
     with_reducible refine q_bin .lss 22 _ _ 22 (.int .u64 (p:Nat)) (.int .u64 (q:Nat)) (.bool false) rfl (by kernel_rfl) (by kernel_rfl) (by kernel_rfl) (fun _=>by kernel_rfl) (fun w'=>HLS.out w') ?_
     with_reducible refine q_val (.bool false) (by kernel_rfl) (fun _ _=>by kernel_rfl) ?_
     with_reducible refine q_val (.int .i64 (k:Nat)) (by kernel_rfl) (fun _ _=>by kernel_rfl) ?_
     with_reducible refine q_sem2 (Instr.indexAt 24 (.pointer (some ⟨w.heap.size,0,none⟩)) (.int .i64 (k:Nat))) (.pointer (some ⟨w.heap.size,k,none⟩)) (by kernel_rfl) (by kernel_rfl) (fun w' _=>HIA.out w') ?_
     with_reducible refine q_load 22 (.tmp 30) (.pointer (some ⟨w.heap.size,k,none⟩)) (.int .u64 (p:Nat)) rfl (by kernel_rfl) (by kernel_rfl) (fun _ c=>HLA.out _ c) ?_
     with_reducible refine q_val (.int .i64 (k:Nat)) (by kernel_rfl) (fun _ _=>by kernel_rfl) ?_
     with_reducible refine q_sem2 (Instr.indexAt 24 (.pointer (some ⟨w.heap.size+1,0,none⟩)) (.int .i64 (k:Nat))) (.pointer (some ⟨w.heap.size+1,k,none⟩)) (by kernel_rfl) (by kernel_rfl) (fun w' _=>HIB.out w') ?_
     with_reducible refine q_load 22 (.tmp 33) (.pointer (some ⟨w.heap.size+1,k,none⟩)) (.int .u64 (q:Nat)) rfl (by kernel_rfl) (by kernel_rfl) (fun _ c=>HLB.out _ c) ?_
     with_reducible refine q_bin .eql 22 _ _ 22 (.int .u64 (p:Nat)) (.int .u64 (q:Nat)) (.bool false) rfl (by kernel_rfl) (by kernel_rfl) (by kernel_rfl) (fun _=>by kernel_rfl) (fun w'=>HEQ.out w') ?_
     with_reducible refine q_val (.bool false) (by kernel_rfl) (fun _ _=>by kernel_rfl) ?_
     with_reducible refine q_skip (by kernel_rfl) ?_
     with_reducible refine q_skip (by kernel_rfl) ?_
     with_reducible refine q_val (.bool false) (by kernel_rfl) (fun _ _=>by kernel_rfl) ?_
     with_reducible refine q_val (.bool false) (by kernel_rfl) (fun _ _=>by kernel_rfl) ?_
     with_reducible refine wpQuiet_nil ?_
     intro wx hC;have HC:=Lib.hid hC;clear hC H ca cb fo;simp only[Act.put,List.setIfInBounds_toArray,List.set_cons_succ,List.set_cons_zero];have fo:=frozen_of_row wx w.heap.size k _ _ HC.out.ra;have ca:=HC.out.ca k HK.out
     go_wp2_with fail
     go_roundw
     case rel=>exact⟨k+1,0,by have:=HK.out;omega,HN.out.1.symm,rfl,by go_num,Lib.hid (HC.out.put HK.out HN.out.2.symm)⟩
     case measure=>have:=HK.out;simp[intOf];omega
  ·obtain rfl:k=4:=by omega
   have HF:=Lib.hid H.out.full;clear hc hk0
   go_wp2_with (first | (refine wpList_ld rfl 24 _ rfl (.pointer (some ⟨w.heap.size,0,none⟩)) (.agg (pw (a+2^256 - b))) rfl (ld_pw (by exact HF.out.1)) ?_) | (refine wpList_store_row rfl 24 _ _ rfl (w.heap.size+1+1) (pw (a+2^256 - b)) rfl rfl 24 (#[.int .u64 0,.int .u64 0,.int .u64 0,.int .u64 0]) (by exact HF.out.2) (by rw[pw_size];exact infoW4) (by rw[pw_size];rfl) (pw_one _) ?_))
   (try simp only[Act.put])
   refine bodyPost_ret (v:=.agg (pw (a+2^256 - b))) (results_cell_row (p:=4) rfl _ _ (w.heap.size+1+1) 24 (pw (a+2^256 - b)) (0,0) _ rfl (setRow_heap _ _ _ _ _ _ HF.out.2) Tryz.underlying24 rfl (by rw[pw_size];exact infoW4)) rfl ⟨rfl,below_setRow H.out.old (by omega) _⟩
open Go.RowKit
def rfw(m lo sq j:Nat):Nat:=if j<4 then pN m j else if j<12 then qN m (j - 4)else if j=12 then lo else pN sq (j - 13)
def RFat(w:World)(G m lo sq:Nat):Prop:=w.heap[G]?=some (.cells (ar .u64 17 fun j=>((rfw m lo sq j:Nat):Int)) 109 (0,0))
theorem RFat.less{w:World}{G m lo sq:Nat}(h:RFat w G m lo sq):G<w.heap.size:=(Array.getElem?_eq_some_iff.1 h).1
theorem RFat.below{w w':World}{G m lo sq:Nat}(h:RFat w G m lo sq)(hb:Below w.heap.size w w'):RFat w' G m lo sq:=(hb.block _ h.less).trans h
theorem RFat.cell{w:World}{G m lo sq:Nat}(h:RFat w G m lo sq)(j:Nat)(hj:j<17):w.cell? ⟨G,j,none⟩=some (.int .u64 (rfw m lo sq j:Nat)):=(cell_of_row _ _ j _ _ _ h).trans (ar_at _ _ _ _ hj)
theorem rfw_m(m lo sq j:Nat)(h:j<4):rfw m lo sq (0+j)=pN m j:=by unfold rfw;rw[Nat.zero_add,if_pos h]
theorem rfw_q(m lo sq j:Nat)(h:j<8):rfw m lo sq (4+j)=qN m j:=by unfold rfw;rw[if_neg (by omega),if_pos (by omega),show 4+j - 4=j by omega]
theorem rfw_lo(m lo sq:Nat):rfw m lo sq 12=lo:=rfl
theorem rfw_sq(m lo sq j:Nat):rfw m lo sq (13+j)=pN sq j:=by unfold rfw;rw[if_neg (by omega),if_neg (by omega),if_neg (by omega),show 13+j - 13=j by omega]
theorem ld_rm{w:World}{G m lo sq:Nat}(h:RFat w G m lo sq):(Instr.loadAt 24 (.pointer (some ⟨G,0,none⟩))).run Tryz.prog w=.ok (.agg (pw m)) w:=by
 rw[pw_ar];simp only[Instr.loadAt,Instr.sureAddr,Sem.run_bind,Sem.run_pure,Result.andThen_ok,run_loadVar_part w G 0 4 24 .u64 (fun j=>((pN m j:Nat):Int)) _ (fun j hj=>(h.cell (0+j) (by omega)).trans (by rw[rfw_m _ _ _ _ hj])) Tryz.underlying24 rfl infoW4]
theorem ld_rsq{w:World}{G m lo sq:Nat}(h:RFat w G m lo sq):(Instr.loadAt 24 (.pointer (some ⟨G,13,none⟩))).run Tryz.prog w=.ok (.agg (pw sq)) w:=by
 rw[pw_ar];simp only[Instr.loadAt,Instr.sureAddr,Sem.run_bind,Sem.run_pure,Result.andThen_ok,run_loadVar_part w G 13 4 24 .u64 (fun j=>((pN sq j:Nat):Int)) _ (fun j hj=>(h.cell (13+j) (by omega)).trans (by rw[rfw_sq])) Tryz.underlying24 rfl infoW4]
theorem rf_at(G:Nat)(w:World):(Instr.fieldAt 109 (.pointer (some ⟨G,0,none⟩)) 0).run Tryz.prog w=.ok (.pointer (some ⟨G,0,none⟩)) w/\(Instr.fieldAt 109 (.pointer (some ⟨G,0,none⟩)) 1).run Tryz.prog w=.ok (.pointer (some ⟨G,4,none⟩)) w/\(Instr.fieldAt 109 (.pointer (some ⟨G,0,none⟩)) 2).run Tryz.prog w=.ok (.pointer (some ⟨G,12,none⟩)) w/\(Instr.fieldAt 109 (.pointer (some ⟨G,0,none⟩)) 3).run Tryz.prog w=.ok (.pointer (some ⟨G,13,none⟩)) w:=by
 refine⟨?_,?_,?_,?_⟩ <;> kernel_rfl
theorem RFat.lo{w:World}{G m lo sq:Nat}(h:RFat w G m lo sq)(l':Nat):RFat (w.setCell ⟨G,12,none⟩ (.int .u64 (l':Nat))) G m l' sq:=by
 refine(heap_setCell_same _ _ _ _ _ _ h).trans ?_;rw[ar_set _ _ _ _ _ (by omega)];congr 2
theorem sq_upd(m lo sq y:Nat):ar .u64 17 (updI (updI (updI (updI (fun j=>((rfw m lo sq j:Nat):Int)) 13 ((pN y 0:Nat):Int)) (13+1) ((pN y 1:Nat):Int)) (13+1+1) ((pN y 2:Nat):Int)) (13+1+1+1) ((pN y 3:Nat):Int))=ar .u64 17 fun j=>((rfw m lo y j:Nat):Int):=by kernel_rfl
theorem RFat.sq{w:World}{G m lo sq:Nat}(h:RFat w G m lo sq)(y:Nat):RFat (w.setCells G 13 (pw y).toList) G m lo y:=by
 unfold RFat;rw[pw_list];simp only[World.setCells];refine(heap_setCell_same _ _ _ _ _ _ (heap_setCell_same _ _ _ _ _ _ (heap_setCell_same _ _ _ _ _ _ (heap_setCell_same _ _ _ _ _ _ h)))).trans ?_;rw[ar_set _ _ _ _ _ (by omega),ar_set _ _ _ _ _ (by omega),ar_set _ _ _ _ _ (by omega),ar_set _ _ _ _ _ (by omega),sq_upd]
theorem RFat.there{w:World}{G m lo sq:Nat}(h:RFat w G m lo sq)(y:Nat):w.there G 13 (pw y).size:=by
 intro j hj;rw[pw_size]at hj;exact⟨by rw[h.cell (13+j) (by omega)];rfl,frozen_of_row _ _ _ _ _ h⟩
structure CRf (w:World) (G m lo sq:Nat) (L:List (Nat × Array Value)) (wx:World):Prop where
 old:Below w.heap.size w wx
 fld:RFat wx G m lo sq
 hG:G<w.heap.size
 rows:∀ p∈L,wx.heap[p.1]?=some (.cells p.2 24 (0,0))
theorem CRf.is{w wx:World}{G m lo sq:Nat}{L:List (Nat × Array Value)}(c:CRf w G m lo sq L wx)(g:Nat)(cs:Array Value)(hm:(g,cs)∈L):wx.heap[g]?=some (.cells cs 24 (0,0)):=c.rows _ hm
theorem CRf.below{w wx w':World}{G m lo sq:Nat}{L:List (Nat × Array Value)}(c:CRf w G m lo sq L wx)(hb:Below wx.heap.size wx w'):CRf w G m lo sq L w' :=
 ⟨c.old.trans (hb.mono c.old.size),c.fld.below hb,c.hG,fun p hp=>(hb.block _ (Array.getElem?_eq_some_iff.1 (c.rows p hp)).1).trans (c.rows p hp)⟩
theorem CRf.drew{w wx:World}{G m lo sq:Nat}{L:List (Nat × Array Value)}(c:CRf w G m lo sq L wx):CRf w G m lo sq L wx.drew:=c.below (Below.drew (Below.refl _ _))
theorem CRf.new{w wx:World}{G m lo sq:Nat}{L:List (Nat × Array Value)}(c:CRf w G m lo sq L wx)(cs:Array Value):CRf w G m lo sq ((wx.heap.size,cs)::L) (wx.alloc (.cells cs 24)):=by
 have h:=c.below ((Below.refl _ _).alloc (Nat.le_refl _) (.cells cs 24));refine⟨h.old,h.fld,h.hG,fun p hp=>?_⟩;rcases List.mem_cons.1 hp with rfl | hp
 ·exact heap_alloc_new _ _
 ·exact h.rows p hp
theorem CRf.cons{w wx:World}{G m lo sq d:Nat}{L:List (Nat × Array Value)}{cs:Array Value}(c:CRf w G m lo sq L wx)(hr:wx.heap[d]?=some (.cells cs 24 (0,0))):CRf w G m lo sq ((d,cs)::L) wx:=by
 refine⟨c.old,c.fld,c.hG,fun p hp=>?_⟩;rcases List.mem_cons.1 hp with rfl | hp
 ·exact hr
 ·exact c.rows p hp
theorem CRf.start{w:World}{G m lo sq:Nat}(h:RFat w G m lo sq):CRf w G m lo sq [] w:=⟨Below.refl _ _,h,h.less,fun p hp=>by cases hp⟩
theorem CRf.two{w:World}{G m lo sq:Nat}(h:RFat w G m lo sq)(a b:Nat):CRf w G m lo sq [(w.heap.size+1+1,#[.int .u64 0,.int .u64 0,.int .u64 0,.int .u64 0]),(w.heap.size+1,pw b),(w.heap.size,pw a)] (((w.alloc (.cells (pw a) 24)).alloc (.cells (pw b) 24)).alloc (.cells (#[.int .u64 0,.int .u64 0,.int .u64 0,.int .u64 0]) 24)):=by
 have:=(((CRf.start h).new (pw a)).new (pw b)).new (#[.int .u64 0,.int .u64 0,.int .u64 0,.int .u64 0]);rwa [World.size_alloc,World.size_alloc]at this
theorem CRf.one{w:World}{G m lo sq:Nat}(h:RFat w G m lo sq)(a:Nat):CRf w G m lo sq [(w.heap.size+1,#[.int .u64 0,.int .u64 0,.int .u64 0,.int .u64 0]),(w.heap.size,pw a)] ((w.alloc (.cells (pw a) 24)).alloc (.cells (#[.int .u64 0,.int .u64 0,.int .u64 0,.int .u64 0]) 24)):=by
 have:=((CRf.start h).new (pw a)).new (#[.int .u64 0,.int .u64 0,.int .u64 0,.int .u64 0]);rwa [World.size_alloc]at this
theorem CRf.calls{w:World}{G m lo sq:Nat}{L:List (Nat × Array Value)}{f:FuncId}{args:Array Value}{v:Value}(h:∀ wx,RFat wx G m lo sq->Calls Tryz.prog f args wx fun e w'=>e=.returned v/\Below wx.heap.size wx w'):∀ wx,CRf w G m lo sq L wx->Calls Tryz.prog f args wx fun e w'=>e=.returned v/\CRf w G m lo sq L w' :=
 fun wx c=>(h wx c.fld).mono fun _ _ hh=>⟨hh.1,c.below hh.2⟩
open Go.RowKit
def q8(x k j:Nat):Nat:=if j<k then qN x j else 0
theorem q8_next(x k j:Nat):q8 x (k+1) j=if j=k then qN x k else q8 x k j:=by
 unfold q8;by_cases e:j=k
 ·subst e;rw[if_pos (by omega),if_pos rfl]
 ·rw[if_neg e]
  by_cases h:j<k
  ·rw[if_pos (by omega),if_pos h]
  ·rw[if_neg (by omega),if_neg h]
theorem q8_zero(x:Nat):(ar .u64 8 fun j=>((q8 x 0 j:Nat):Int))=#[.int .u64 0,.int .u64 0,.int .u64 0,.int .u64 0,.int .u64 0,.int .u64 0,.int .u64 0,.int .u64 0]:=by kernel_rfl
theorem q8_full(x:Nat):(ar .u64 8 fun j=>((q8 x 8 j:Nat):Int))=ar .u64 8 fun j=>((qN x j:Nat):Int):=ar_congr fun j hj=>by unfold q8;rw[if_pos hj]
theorem info8:(Tryz.prog.info? 106).map (·.size)=some 8:=by kernel_rfl
theorem and_low32(z:Nat)(h:z<18446744073709551616):bits .and .u64 z 4294967295=((z%4294967296:Nat):Int):=by
 have:=bits_and_u64_nat z 4294967295 h (by omega);rw[show z &&& 4294967295=z%4294967296 from Nat.and_two_pow_sub_one_eq_mod z 32]at this;exact this
structure CP8 (w:World) (x k:Nat) (wx:World):Prop where
 old:Below w.heap.size w wx
 ra:wx.heap[w.heap.size]?=some (.cells (ar .u64 4 fun j=>((pN x j:Nat):Int)) 24 (0,0))
 rr:wx.heap[w.heap.size+1]?=some (.cells (ar .u64 8 fun j=>((q8 x 0 j:Nat):Int)) 106 (0,0))
 rp:wx.heap[w.heap.size+1+1]?=some (.cells (ar .u64 8 fun j=>((q8 x k j:Nat):Int)) 106 (0,0))
theorem CP8.put{w wx:World}{x k v:Nat}(c:CP8 w x k wx)(hk:k<8)(hv:v=qN x k):CP8 w x (k+1) (wx.setCell ⟨w.heap.size+1+1,k,none⟩ (.int .u64 (v:Nat))):=by
 subst hv;refine⟨c.old.setCell (by simp;omega) _,(heap_setCell_other _ _ _ _ (by simp;omega)).trans c.ra,(heap_setCell_other _ _ _ _ (by simp)).trans c.rr,?_⟩;refine(heap_setCell_same _ _ _ _ _ _ c.rp).trans ?_;rw[ar_set _ _ _ _ _ hk];congr 2;refine ar_congr fun j _=>?_;unfold updI;rw[q8_next];by_cases e:j=k
 ·rw[if_pos e,if_pos e]
 ·rw[if_neg e,if_neg e]
theorem CP8.start(w:World)(x:Nat):CP8 w x 0 (((w.alloc (.cells (pw x) 24)).alloc (.cells (#[.int .u64 0,.int .u64 0,.int .u64 0,.int .u64 0,.int .u64 0,.int .u64 0,.int .u64 0,.int .u64 0]) 106)).alloc (.cells (#[.int .u64 0,.int .u64 0,.int .u64 0,.int .u64 0,.int .u64 0,.int .u64 0,.int .u64 0,.int .u64 0]) 106)):=by
 refine⟨(((Below.refl _ _).alloc (Nat.le_refl _) _).alloc (by simp) _).alloc (by simp;omega) _,?_,?_,?_⟩
 ·rw[Below.heap_alloc _ _ _ (by simp;omega),Below.heap_alloc _ _ _ (by simp),heap_alloc_new,pw_ar]
 ·rw[Below.heap_alloc _ _ _ (by simp),q8_zero]
  have:=heap_alloc_new (w.alloc (.cells (pw x) 24)) (.cells (#[.int .u64 0,.int .u64 0,.int .u64 0,.int .u64 0,.int .u64 0,.int .u64 0,.int .u64 0,.int .u64 0]) 106);rwa [World.size_alloc]at this
 ·rw[q8_zero]
  have:=heap_alloc_new ((w.alloc (.cells (pw x) 24)).alloc (.cells (#[.int .u64 0,.int .u64 0,.int .u64 0,.int .u64 0,.int .u64 0,.int .u64 0,.int .u64 0,.int .u64 0]) 106)) (.cells (#[.int .u64 0,.int .u64 0,.int .u64 0,.int .u64 0,.int .u64 0,.int .u64 0,.int .u64 0,.int .u64 0]) 106);rwa [World.size_alloc,World.size_alloc]at this
theorem rparts_any(x:Nat)(w:World):Calls Tryz.prog 60 #[.agg (pw x)] w fun e w'=>e=.returned (.agg (ar .u64 8 fun j=>((qN x j:Nat):Int)))/\Below w.heap.size w w':=by
 have HI8:Hid ((Tryz.prog.info? 106).map (·.size)=some (ar .u64 8 fun j=>((q8 x 8 j:Nat):Int)).size):=Lib.hid (by rw[ar_size];exact info8);have HR:=Lib.hid (CP8.start w x);go_enter Tryz.func60,Tryz.ntmps60
 go_wp2_with fail
 go_loopw [4] (fun iv wr=>∃ k:Nat,k<=8/\iv=.int .i64 k/\Hid (CP8 w x k wr)) (fun iv _=>8 - (intOf iv).toNat)
 case atStart=>exact⟨0,by omega,rfl,HR⟩
 case round =>
  obtain⟨k,hk,rfl,H⟩:=hrel;clear HR;have hk0:(0:Int)<=k:=by omega
  have hk1:(k:Int)<=8:=by omega
  by_cases hlt:k<8
  ·obtain⟨p,hp⟩:∃ p:Nat,(k:Int) / 2=(p:Int):=⟨k / 2,by omega⟩
   obtain⟨r,hr⟩:∃ r:Nat,(k:Int)%2=(r:Int):=⟨k%2,by omega⟩
   obtain⟨s,hs⟩:∃ s:Nat,32*(r:Int)=(s:Int):=⟨32*r,by omega⟩
   have hp0:(0:Int)<=p:=by omega
   have hp1:(p:Int)<4:=by omega
   have hs0:(0:Int)<=s:=by omega
   have hs1:(s:Int)<64:=by omega
   have hlt':(k:Int)<8:=by omega
   have ca:wr.cell? ⟨w.heap.size,p,none⟩=some (.int .u64 (pN x p:Nat)):=(cell_of_row _ _ p _ _ _ H.out.ra).trans (ar_at _ _ _ _ (by omega));have co:wr.cell? ⟨w.heap.size+1+1,k,none⟩=some (.int .u64 (q8 x k k:Nat)):=(cell_of_row _ _ k _ _ _ H.out.rp).trans (ar_at _ _ _ _ (by omega));have fo:wr.frozen? ⟨w.heap.size+1+1,k,none⟩=false:=frozen_of_row wr _ k _ _ H.out.rp;have hpl:=pN_le x p;have hv:bits .and .u64 (((pN x p:Nat):Int) / 2^s) 4294967295=((qN x k:Nat):Int):=by
    rw[<- qn_of x k p s (by omega) (by omega)];have h:=and_low32 (pN x p / 2^s) (Nat.lt_of_le_of_lt (Nat.div_le_self _ _) hpl);simpa using h
   obtain⟨y,hy⟩:∃ y,qN x k=y:=⟨_,rfl⟩
   rw[hy]at hv;have HV:=Lib.hid hv;have HY:=Lib.hid hy;have HK:=Lib.hid hlt;clear hv hpl hy hlt hk
   go_wp2_with fail
   go_roundw
   case rel=>exact⟨k+1,by have:=HK.out;omega,by go_num,Lib.hid (by rw[HV.out];exact H.out.put HK.out HY.out.symm)⟩
   case measure=>have:=HK.out;simp[intOf];omega
  ·obtain rfl:k=8:=by omega
   go_wp2_with (first | (refine wpList_load_row rfl 106 _ rfl (w.heap.size+1+1) rfl 106 _ (0,0) _ H.out.rp Tryz.underlying106 rfl HI8.out ?_) | (refine wpList_store_row rfl 106 _ _ rfl (w.heap.size+1) (ar .u64 8 fun j=>((q8 x 8 j:Nat):Int)) rfl rfl 106 _ (by exact H.out.rr) HI8.out (by rw[ar_size,ar_size]) (ar_one _ _ _) ?_))
   refine bodyPost_ret (v:=.agg (ar .u64 8 fun j=>((q8 x 8 j:Nat):Int))) (results_cell_row (p:=2) rfl _ _ (w.heap.size+1) 106 _ (0,0) _ rfl (setRow_heap _ _ _ _ _ _ H.out.rr) Tryz.underlying106 rfl HI8.out) rfl ⟨by rw[q8_full],below_setRow H.out.old (by omega) _⟩
end Go.Proofs.YtadfjjfklihaaaaGreat
