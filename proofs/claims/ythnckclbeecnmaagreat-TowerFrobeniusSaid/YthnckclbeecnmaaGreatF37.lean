/- The power p is a ring's map: products and sums go over; twelve times it is nothing. Squares by two products of halves are products. (Cut to what is reached, written closely: NMod · TwY · TwYe · TwZ · EcJac · EcVal · TwNt · TwNu · TwNv · TwPw.) -/
import Derived.Test.YthnckclbeecnmaaGreatF27
import Derived.ArgAppend
import Derived.Test.YthnckclbeecnmaaGreatF36
import Derived.Test.YthnckclbeecnmaaGreatF28
import Derived.Test.YthnckclbeecnmaaGreatF25
import Derived.Test.YthnckclbeecnmaaGreatF26
set_option linter.all false
set_option maxRecDepth 100000
set_option maxHeartbeats 8000000
namespace Go.Proofs.YthnckclbeecnmaaGreat
open Go.RowKit
def blN(V:Nat):Nat:=if V=0 then 0 else Nat.log2 V+1
theorem blN_top{f:Nat->Nat}{k:Nat}(hf:∀ j,j<k+1->f j<4294967296)(h:f k≠0):32*k+Lib.bitLen (f k)=blN (natV 4294967296 f (k+1)):=by
 obtain⟨h1,h2,h3⟩:=bitLen_boundsN (f k) (by have:=hf k (by omega);omega) h;have hl:=natV_lt (P:=4294967296) (f:=f) (n:=k) (fun j hj=>hf j (by omega));have e:4294967296^k=2^(32*k):=by rw[Nat.pow_mul]
 have hV:natV 4294967296 f (k+1)=natV 4294967296 f k+2^(32*k)*f k:=by rw[<- e];rfl
 rw[e]at hl;have hlow:2^(32*k+(Lib.bitLen (f k) - 1))<=natV 4294967296 f (k+1):=by
  rw[hV,Nat.pow_add];have:=Nat.mul_le_mul_left (2^(32*k)) h2;omega
 have hhigh:natV 4294967296 f (k+1)<2^(32*k+Lib.bitLen (f k)):=by
  rw[hV,Nat.pow_add];have:=Nat.mul_le_mul_left (2^(32*k)) (show f k+1<=2^Lib.bitLen (f k) from h3);rw[Nat.mul_add,Nat.mul_one]at this;omega
 have hne:natV 4294967296 f (k+1)≠0:=by
  have:0<2^(32*k+(Lib.bitLen (f k) - 1)):=Nat.pow_pos (by omega);omega
 unfold blN;rw[if_neg hne,(Nat.log2_eq_iff hne).2 ⟨hlow,by rw[show 32*k+(Lib.bitLen (f k) - 1)+1=32*k+Lib.bitLen (f k) by omega];exact hhigh⟩];omega
theorem len_nv{w:World}{a:Option Addr}{n cap:Nat}{f:Nat->Nat}(h:NvA w a n cap f):Calls Tryz.prog 51 #[.slice a n cap] w fun e w'=>e=.returned (.int .i64 ((blN (natV 4294967296 f n):Nat):Int))/\w=w':=by
 have HT:=Lib.hid (trim_nv h);have ht:=h.trim;have htop:=tn_top f n;rw[<- natV_tn];obtain⟨m,hm⟩:∃ m,tn f n=m:=⟨_,rfl⟩
 rw[hm]at HT ht htop |-
 clear hm h;rcases Nat.eq_zero_or_pos m with h0 | h0
 ·have e0:((m:Int) == 0)=true:=by simp[h0]
  have e1:blN (natV 4294967296 f m)=0:=by rw[h0];rfl
  rw[e1];clear h0 e1 ht htop;go_enter Tryz.func51,Tryz.ntmps51
  go_wp2_with fail
  refine HT.out.mono ?_;rintro e w' ⟨rfl,rfl⟩;go_wp2;go_ret;exact⟨rfl,rfl⟩
 ·obtain⟨k,rfl⟩:∃ k,m=k+1:=⟨m - 1,by omega⟩
  have hfk:f k≠0:=by rcases htop with h | h;omega;simpa using h
  have e1:=blN_top ht.lt hfk;rw[<- e1];obtain⟨p,hix,-,-,ca⟩:=ht.rd.at_ cap k (by omega);have hfl:=ht.lt k (by omega);have hkf:=ht.few;have hL:∀ w,Calls Tryz.prog 80 #[.int .u32 (f k:Nat)] w fun e w'=>e=.returned (.int .i64 (Lib.bitLen (f k):Nat))/\w=w':=fun w =>
   (Tryz.bits_Len32 (f k:Nat) w (by omega) (by omega)).mono fun e w' ⟨he,hw⟩=>⟨by rw[he,Int.toNat_natCast],hw.symm⟩
  have HL:=Lib.hid hL;clear hL;have hb:=bitLen32 _ hfl;obtain⟨B,hB⟩:∃ B,Lib.bitLen (f k)=B:=⟨_,rfl⟩
  rw[hB]at hb HL |-
  clear hB e1 hfl hfk htop h0 ht;have e0:((k:Int)+1 == 0)=false:=by rw[beq_eq_false_iff_ne];omega
  have e2:(k:Int)+1 - 1=(k:Int):=by omega
  have hk0:(0:Int)<=k:=by omega
  have hB0:(0:Int)<=B:=by omega
  have hB1:(B:Int)<=32:=by omega
  go_enter Tryz.func51,Tryz.ntmps51
  go_wp2_with fail
  refine HT.out.mono ?_;rintro e w' ⟨rfl,rfl⟩
  go_wp2_with fail
  refine(HL.out _).mono ?_;rintro e w' ⟨rfl,rfl⟩;go_wp2;go_ret;refine⟨?_,rfl⟩;show Ending.returned (.int .i64 (32*(k:Int)+(B:Int)))=_;simp
theorem bit_at{f:Nat->Nat}{n i:Nat}(hf:∀ j,j<n->f j<4294967296)(hi:i / 32<n):f (i / 32) / 2^(i%32)%2=natV 4294967296 f n / 2^i%2:=by
 have h:=natV_digit hf (i / 32) hi;rw[h];generalize natV 4294967296 f n=V;have e:4294967296^(i / 32)=2^(32*(i / 32)):=by rw[Nat.pow_mul]
 have e2:(4294967296:Nat)=2^(i%32)*2^(32 - i%32):=by rw[<- Nat.pow_add,show i%32+(32 - i%32)=32 by omega]
 rw[e];have e3:V / 2^i=V / 2^(32*(i / 32)) / 2^(i%32):=by rw[Nat.div_div_eq_div_mul,<- Nat.pow_add,show 32*(i / 32)+i%32=i by omega]
 rw[e3];generalize V / 2^(32*(i / 32))=X;rw[e2,Nat.mod_mul_right_div_self];exact Nat.mod_mod_of_dvd _ ⟨2^(32 - i%32 - 1),by rw[<- Nat.pow_succ'];congr 1;omega⟩
open Go.RowKit
theorem load_u32p{w:World}{b k:Nat}{y:Nat}(h:w.cell? ⟨b,k,none⟩=some (.int .u32 (y:Nat))):(Instr.loadAt 53 (.pointer (some ⟨b,k,none⟩))).run Tryz.prog w=.ok (.int .u32 (y:Nat)) w:=by
 go_simp
namespace Sy
def tyU:Ty:=⟨53,false,1,.v (.int .u32 0),[]⟩
theorem tyU_ok:tyU.Good Tryz.prog:=⟨by kernel_rfl,by kernel_rfl,by kernel_rfl,rfl,trivial,fun h=>absurd rfl h⟩
def xlU(o0 n0:Nat)(f:Nat->Nat)(T:TypeId)(g o j z:Nat):Option (SV × List Ob):=if T=53/\g=1/\z=1 then some (.i .u32 (f j:Nat),[.ask (o=o0/\j<n0)])else none
noncomputable def EX (o0 n0:Nat) (f:Nat->Nat) (more:List Con):Env:={ ET 2 more []with tys:=tyU::tysT,xld:=xlU o0 n0 f }
theorem EX_ok{o0 n0:Nat}{f:Nat->Nat}{w0:World}{more:List Con}{γ0:Pl}(hm:conAll Tryz.prog 2 γ0 w0 more)(hp:PtN w0 (γ0 1) o0 n0 f):(EX o0 n0 f more).Good γ0 w0:=by
 have h:=ET_ok hm (noRows (base:=2) (γ0:=γ0) (w0:=w0));refine⟨fun y hy=>?_,h.ctr,h.bop,h.bld,fun T g o j z r p hx hq=>?_,h.ixa,h.sls,h.bss,h.slc,h.idx,h.cnv,h.rld,h.slk,h.mkr⟩
 ·rcases List.mem_cons.1 hy with rfl | hy
  ·exact tyU_ok
  ·exact tyAll_mem tysT_ok y hy
 ·replace hx:xlU o0 n0 f T g o j z=some (r,p):=hx
  unfold xlU at hx
  split at hx
  ·rename_i hc
   obtain⟨rfl,rfl,rfl⟩:=hc;cases hx;obtain⟨rfl,hj⟩:o=o0/\j<n0:=hq _ (.head _);refine⟨trivial,rfl,show 1<2 by decide,fun γ hγ wx hw=>?_⟩;rw[hγ 1 (show 1<2 by decide),Nat.mul_one];exact load_u32p ((hp.below hw).2 j hj)
  ·cases hx
def cLenE(f:FuncId)(o0 n0 c0 L:Nat):Con:=⟨f,fun _ _ l=>match l with
 | [.s g o n c]=>if g=1 then some (.na L,[.ask (o=o0/\n=n0/\c=c0)],[])else none
 | _=>none⟩
theorem cLenE_ok{P:Program}{f:FuncId}{o0 n0 c0 L:Nat}{γ0:Pl}{w0:World}(hc:∀ as_ wx,(callFunc f as_).run P wx=.ok (.enter f as_) wx)(hL:L<2^62)
  (h:∀ wx,Below w0.heap.size w0 wx->Calls P f #[.slice (some ⟨γ0 1,o0,none⟩) n0 c0] wx fun e w'=>e=.returned (.int .i64 (L:Nat))/\Below wx.heap.size wx w'):ConOk P 2 γ0 w0 (cLenE f o0 n0 c0 L) :=
 .of hc fun n M l r p R hr hp hok=>by
  unfold cLenE at hr;dsimp only at hr
  split at hr
  ·rename_i g o n1 c
   split at hr
   ·rename_i hg
    subst hg;cases hr;obtain⟨rfl,rfl,rfl⟩:o=o0/\n1=n0/\c=c0:=hp _ (.head _);refine⟨rfl,hL,rfl,fun γ hγ wx hw _=>?_⟩;show Calls P f #[.slice (some ⟨γ 1,o,none⟩) n1 c] wx _;rw[hγ 1 (by decide)];exact h wx hw
   ·cases hr
  ·cases hr
theorem Wkt.nat{S:List (Nat × Option SV)}{t k:Nat}{n:Int}(h:lookX S t=some (.i .i64 n))(hn:n=(k:Int))(hk:k<2^62):Wkt S t (.na k):=⟨_,h,fun _=>by subst hn;rfl,fun _=>hk⟩
theorem Wkt.neg{S:List (Nat × Option SV)}{t:Nat}{n:Int}(h:lookX S t=some (.i .i64 n))(hn:n=-1):Wkt S t (.v (.int .i64 (-1))):=⟨_,h,fun _=>by subst hn;rfl,fun _=>trivial⟩
def dn:Nat->SV
 | 0=>.v (.int .i64 (-1))
 | t+1=>.na t
theorem Wkt.dn{S:List (Nat × Option SV)}{t k:Nat}{n:Int}(h:lookX S t=some (.i .i64 n))(hn:n=(k:Int) - 1)(hk:k<2^62):Wkt S t (dn k):=by
 cases k with
 | zero=>exact .neg h (by omega)
 | succ k=>exact .nat h (by omega) (by omega)
/-! The digits. -/
def dgI(f:Nat->Nat)(t:Nat):Int:=andI .u32 (shrI .u32 ((f (t / 8):Nat):Int) ((t%8*4:Nat):Int)) 15
def l16(p:Nat->N12):List N12:=[p 0,p 1,p 2,p 3,p 4,p 5,p 6,p 7,p 8,p 9,p 10,p 11,p 12,p 13,p 14,p 15]
section
variable {m:Nat} {SQ:N12->N12} {M:N12->N12->N12} {PW:N12->Nat->N12}
def xrd(SQ:N12->N12)(M:N12->N12->N12)(p:Nat->N12)(f:Nat->Nat)(t:Nat)(o:N12):N12:=M (SQ (SQ (SQ (SQ o)))) ((l16 p).getD (dgI f t).toNat z12)
def xgo(SQ:N12->N12)(M:N12->N12->N12)(p:Nat->N12)(f:Nat->Nat):Nat->N12->N12
 | 0,o=>o
 | t+1,o=>xgo SQ M p f t (xrd SQ M p f t o)
def moreX(m:Nat)(SQ:N12->N12)(M:N12->N12->N12)(PW:N12->Nat->N12)(o n c L:Nat):List Con:=[cLenE 51 o n c L,cT1 true m 81 sh12 fun a=>s16f (PW a),cT1 true m 82 sh12 fun a=>L12s (SQ a),cT2 true m 49 sh12 sh12 fun a b=>L12s (M a b)]
def hdX:Nat->Nat
 | 2=>5
 | _=>0
noncomputable def TX (m:Nat) (SQ:N12->N12) (M:N12->N12->N12) (PW:N12->Nat->N12) (f:Nat->Nat) (a:N12) (o n c L:Nat):Tr:=(walk (EX o n f (moreX m SQ M PW o n c L)) hdX Tryz.f52 [sG,L12s a,.s 1 o n c]).on []
def stX(p:Nat->N12)(a:N12)(o n c:Nat)(d:SV)(x:N12):St:=⟨[(2,some (.s 1 o n c)),(3,some (.p 2 0 0 0)),(6,some (.p 4 0 0 0)),(7,some (.p 5 0 0 0)),(8,some (.p 6 0 0 0)),(9,some d)],[(6,L12s x,38),(5,s16f p,91),(4,L12s z12,38),(3,L12s a,38),(2,sG,60)],7⟩
theorem need_sh{p:Prop}{t:Sh}{Q:Post}{L:List Bool->Prop}(hp:p)(h:t.wp Q L):(Sh.need p t).wp Q L:=⟨hp,h⟩
theorem loop_sh{d:Nat}{Q:Post}{L:List Bool->Prop}(h:L []):(Sh.loop d).wp Q L:=h
theorem calls_loop2{E:Env}{γ0:Pl}{w0:World}{V:Value}(G:E.Good γ0 w0)(mx:E.P.follows .mixedOrders=true)(hd:Nat->Nat){f:FuncId}{fn:Func}(hf:E.P.funcs[f]?=some fn)(hb:fn.body.isSome=true)(args:List SV)(ha:okAll E.base args)(hn:decide (args.length<=fn.ntmps)=true)
  (hD:walk E hd fn args=(walk E hd fn args).diag) {p q:Prop} {d:Nat} (hZ:(walk E hd fn args).shape=.need p (.need q (.loop d))) (hp:p) (hq:q) (T:Tr) (hT:(walk E hd fn args).on []=T) (hW:T.wp E.base ⟨fun r=>r.val γ0=V,fun _ _=>False⟩):Calls E.P f (args.map (·.val γ0)).toArray w0 fun e w'=>e=.returned V/\Below w0.heap.size w0 w' :=
 calls_at G mx hd hf hb args ha hn hD _ hZ (need_sh hp (need_sh hq (loop_sh (Eq.mpr (congrArg (fun t=>Tr.wp E.base t _) hT) hW))))
structure RX (SQ:N12->N12) (M:N12->N12->N12) (p:Nat->N12) (f:Nat->Nat) (T:N12) (L:Nat) where
 s:Nat
 x:N12
 le:s<=L
 is:xgo SQ M p f s x=T
 ok:(L12s x).ok
theorem exp12_walk(oM:∀ a b,(L12s (M a b)).ok)(oP:∀ a k,(L12s (PW a k)).ok)(hS:Is1 m 82 sh12 fun a=>L12s (SQ a))(hP:Is1 m 81 sh12 fun a=>s16f (PW a))(hM:Is2 m 49 sh12 sh12 fun a b=>L12s (M a b))
  (F g o n c L:Nat) (f:Nat->Nat) (a:N12) (oa:(L12s a).ok) (w:World) (hF:FldAt w F m) (hp:PtN w g o n f) (hL:L<2^60) (hn:∀ t,t<(L+3) / 4->t / 8<n) (hd:∀ t,t<(L+3) / 4->0<=dgI f t/\dgI f t<16)
  (hl:∀ wx,Below w.heap.size w wx->Calls Tryz.prog 51 #[.slice (some ⟨g,o,none⟩) n c] wx fun e w'=>e=.returned (.int .i64 (L:Nat))/\Below wx.heap.size wx w') :
  Calls Tryz.prog 52 #[.agg #[.pointer (some ⟨F,0,none⟩)],(L12s a).val o0,.slice (some ⟨g,o,none⟩) n c] w fun e w'=>e=.returned ((L12s (xgo SQ M (PW a) f ((L+3) / 4) (PW a 0))).val o0)/\Below w.heap.size w w':=by
 have hf:FOk true m (fun k=>if k=0 then F else g) w:=⟨hF.odd,hF.big,hF.lt,fun _=>hF⟩
 have h60:(2:Nat)^60=1152921504606846976:=by decide
 have h62:(2:Nat)^62=4611686018427387904:=by decide
 refine calls_loop2 (γ0:=fun k=>if k=0 then F else g) (EX_ok (o0:=o) (n0:=n) (f:=f) (more:=moreX m SQ M PW o n c L) ⟨cLenE_ok (fun _ _=>by kernel_rfl) (by omega) hl,(hP _ _ _ hf).mono (by decide),(hS _ _ _ hf).mono (by decide),(hM _ _ _ hf).mono (by decide),trivial⟩ hp) (by kernel_rfl) hdX Tryz.func52 (by kernel_rfl) [sG,L12s a,.s 1 o n c] ⟨⟨⟨trivial,trivial⟩,rfl⟩,⟨oa,rfl⟩,⟨trivial,rfl⟩,trivial⟩ (by kernel_rfl) (by kernel_rfl)
  (p:=o=o/\n=n/\c=c) (q:=L+3<2^62) (d:=0) (by kernel_rfl) ⟨rfl,rfl,rfl⟩ (by omega) (TX m SQ M PW f a o n c L) (by kernel_rfl) ?_
 have eb:(EX o n f (moreX m SQ M PW o n c L)).base=2:=rfl;rw[eb];have hB:∀ k x,subB 2 (stX (PW a) a o n c (dn k) x)=true:=fun k x=>by cases k <;> kernel_rfl
 have h0:Sub 2 (TX m SQ M PW f a o n c L).stOf (stX (PW a) a o n c (dn ((L+3) / 4)) (PW a 0)):=Sub.ofW [6,5,4,3,2] (hB _ _) ⟨.is (by kernel_rfl),.is (by kernel_rfl),.is (by kernel_rfl),.is (by kernel_rfl),.is (by kernel_rfl),.dn (n:=(((L+3) / 4:Nat):Int) - ((1:Nat):Int)) (by kernel_rfl) rfl (by omega),trivial⟩ (by kernel_rfl);have hs:(TX m SQ M PW f a o n c L).isLoop 0=true:=by kernel_rfl
 have d0:∀ x,(TX m SQ M PW f a o n c L).round (stX (PW a) a o n c (dn 0) x)=((TX m SQ M PW f a o n c L).round (stX (PW a) a o n c (dn 0) x)).diag:=fun x=>by kernel_rfl
 have z0:∀ x,((TX m SQ M PW f a o n c L).round (stX (PW a) a o n c (dn 0) x)).shape=.leaf (L12s x):=fun x=>by kernel_rfl
 have d1:∀ t x,(TX m SQ M PW f a o n c L).round (stX (PW a) a o n c (dn (t+1)) x)=((TX m SQ M PW f a o n c L).round (stX (PW a) a o n c (dn (t+1)) x)).diag:=fun t x=>by kernel_rfl
 have z1:∀ t x,((TX m SQ M PW f a o n c L).round (stX (PW a) a o n c (dn (t+1)) x)).shape=.br (!ltN t 0) (.need (t / 8<n) (.need (o=o/\t / 8<n) (.need (t%8*4<2^62) (.need (0<=((t%8*4:Nat):Int)) (.need (0<=dgI f t/\dgI f t<16) (.need ((dgI f t).toNat<16) (.cut 0))))))) (.leaf (L12s x)):=fun t x=>by kernel_rfl
 have n1:∀ t x,t<(L+3) / 4->Sub 2 (((TX m SQ M PW f a o n c L).round (stX (PW a) a o n c (dn (t+1)) x)).on [true]).cutOf (stX (PW a) a o n c (dn t) (xrd SQ M (PW a) f t x)):=fun t x ht=>Sub.ofW [6,5,4,3,2] (hB _ _) ⟨.is (by kernel_rfl),.is (by kernel_rfl),.is (by kernel_rfl),.is (by kernel_rfl),.is (by kernel_rfl),.dn (n:=((t:Nat):Int) - ((1:Nat):Int)) (by kernel_rfl) rfl (by omega),trivial⟩ (by kernel_rfl);have c1:∀ t x,(((TX m SQ M PW f a o n c L).round (stX (PW a) a o n c (dn (t+1)) x)).on [true]).isCut 0=true:=fun t x=>by kernel_rfl
 generalize TX m SQ M PW f a o n c L=T at h0 hs d0 z0 d1 z1 n1 c1 |-
 refine loop_wp (T:=T) 0 hs (ι:=RX SQ M (PW a) f (xgo SQ M (PW a) f ((L+3) / 4) (PW a 0)) ((L+3) / 4)) (fun r=>stX (PW a) a o n c (dn r.s) r.x) (fun r=>r.s) ⟨(L+3) / 4,PW a 0,Nat.le_refl _,rfl,oP a 0⟩ h0 fun⟨s,x,hle,his,hox⟩=>?_;cases s with
 | zero =>
  refine wp_of_shape (d0 x) (L:=fun L'=>((T.round (stX (PW a) a o n c (dn 0) x)).on L').wp 2 _) ?_ fun _ h=>h;rw[z0 x];show(L12s x).val _=_;rw[<- his];rfl
 | succ t =>
  refine wp_of_shape (d1 t x) (L:=fun L'=>((T.round (stX (PW a) a o n c (dn (t+1)) x)).on L').wp 2 _) ?_ fun _ h=>h;rw[z1 t x];have ht:t<(L+3) / 4:=hle;refine⟨fun _=>?_,fun h=>?_⟩
  ·have hdg:=hd t ht
   refine need_sh (hn t ht) (need_sh ⟨rfl,hn t ht⟩ (need_sh (by omega) (need_sh (by omega) (need_sh hdg (need_sh (by omega) ?_)))));exact next_wp 0 (c1 t x) (st:=fun r:RX SQ M (PW a) f (xgo SQ M (PW a) f ((L+3) / 4) (PW a 0)) ((L+3) / 4)=>stX (PW a) a o n c (dn r.s) r.x) ⟨t,xrd SQ M (PW a) f t x,Nat.le_of_lt ht,his,oM _ _⟩ (Nat.lt_succ_self t) (n1 t x ht)
  ·have e:ltN t 0=false:=decide_eq_false (Nat.not_lt_zero t)
   rw[e]at h;cases h
end
end Sy
open Go.RowKit
namespace Sy
theorem br_sh{b:Bool}{t f:Sh}{Q:Post}{L:List Bool->Prop}(h1:b=true->t.wp Q fun l=>L (true::l))(h2:b=false->f.wp Q fun l=>L (false::l)):(Sh.br b t f).wp Q L:=⟨h1,h2⟩
theorem leaf_sh{r:SV}{Q:Post}{L:List Bool->Prop}(h:Q.leaf r):(Sh.leaf r).wp Q L:=h
def cX(ext:Bool)(m:Nat)(f:FuncId)(o0 n0 c0:Nat)(op:N12->N12):Con:=⟨f,fun _ M l=>match l with
 | [.ap x .e,y,.s g o n c]=>if g=1 then (match isF ext m M x,d12 y with
  | some p,some a=>some (L12s (op a),.ask (o=o0/\n=n0/\c=c0)::p,[])
  | _,_=>none)else none
 | _=>none⟩
theorem cX_ok{P:Program}{ext:Bool}{m:Nat}{f:FuncId}{o1 n0 c0:Nat}{op:N12->N12}{γ0:Pl}{w0:World}(hf:FOk ext m γ0 w0)(hc:∀ as_ wx,(callFunc f as_).run P wx=.ok (.enter f as_) wx)(ho:∀ a,(L12s (op a)).ok)
  (h:∀ F a wx,(L12s a).ok->Below w0.heap.size w0 wx->FldAt wx F m->Calls P f #[.agg #[.pointer (some ⟨F,0,none⟩)],(L12s a).val o0,.slice (some ⟨γ0 1,o1,none⟩) n0 c0] wx fun e w'=>e=.returned ((L12s (op a)).val o0)/\Below wx.heap.size wx w'):ConOk P 2 γ0 w0 (cX ext m f o1 n0 c0 op) :=
 .of hc fun n M l r p R hr hp hok=>by
  unfold cX at hr;dsimp only at hr
  split at hr
  ·rename_i x y g o n1 c
   split at hr
   ·rename_i hg
    subst hg
    split at hr
    ·rename_i p' a hx hy
     cases hr;obtain⟨rfl,rfl,rfl⟩:o=o1/\n1=n0/\c=c0:=hp _ (.head _);have ey:=d12_ok _ _ hy;subst ey;have oa:=hok (L12s a) (by simp);refine⟨rfl,ho a,rfl,fun γ hγ wx hw hL=>?_⟩;obtain⟨F,h1,h2⟩:=isF_at hx (fun q hq=>hp q (.tail _ hq)) hf (fun k hk=>hγ k (by omega)) hw hL;have g4:=h F a wx oa hw h2;rw[<- hγ 1 (by decide)]at g4;show Calls P f #[(SV.ap x .e).val γ,(L12s a).val γ,.slice (some ⟨γ 1,o,none⟩) n1 c] wx _;rw[agg_ptr hx h1,val0 (x:=L12s a) rfl,val0 (x:=L12s (op a)) rfl];exact g4
    ·cases hr
   ·cases hr
  ·cases hr
def moreE(X:N12->N12)(o n c L:Nat):List Con:=[cLenE 51 o n c L,cFields,cX false pB 52 o n c X]
theorem Exp12_walk{X:N12->N12}(oX:∀ a,(L12s (X a)).ok)(g o n c L:Nat)(f:Nat->Nat)(a:N12)(oa:(L12s a).ok)(w:World)(hp:PtN w g o n f)(hL:L<2^60)
  (hX:∀ F a wx,(L12s a).ok->Below w.heap.size w wx->FldAt wx F pB->Calls Tryz.prog 52 #[.agg #[.pointer (some ⟨F,0,none⟩)],(L12s a).val o0,.slice (some ⟨g,o,none⟩) n c] wx fun e w'=>e=.returned ((L12s (X a)).val o0)/\Below wx.heap.size wx w')
  (hl:∀ wx,Below w.heap.size w wx->Calls Tryz.prog 51 #[.slice (some ⟨g,o,none⟩) n c] wx fun e w'=>e=.returned (.int .i64 (L:Nat))/\Below wx.heap.size wx w') :
  Calls Tryz.prog 28 #[(L12s a).val o0,.slice (some ⟨g,o,none⟩) n c] w fun e w'=>e=.returned ((if 4096<L then SV.tu (L12s z12) (.v (.int .i64 2))else SV.tu (L12s (X a)) (.v (.int .i64 0))).val o0)/\Below w.heap.size w w':=by
 have h60:(2:Nat)^60=1152921504606846976:=by decide
 have h62:(2:Nat)^62=4611686018427387904:=by decide
 refine calls_at (γ0:=fun _=>g) (EX_ok (o0:=o) (n0:=n) (f:=f) (more:=moreE X o n c L) ⟨cLenE_ok (fun _ _=>by kernel_rfl) (by omega) hl,cFields_ok.mono (by decide),cX_ok (⟨by decide,by decide,ltB,fun h=>by cases h⟩:FOk false pB (fun _=>g) w) (fun _ _=>by kernel_rfl) oX hX,trivial⟩ hp) (by kernel_rfl) (fun _=>0) Tryz.func28 (by kernel_rfl) [L12s a,.s 1 o n c] ⟨⟨oa,rfl⟩,⟨trivial,rfl⟩,trivial⟩ (by kernel_rfl) (by kernel_rfl)
  (.need (o=o/\n=n/\c=c) (.br (ltN 4096 L) (.leaf (.tu (L12s z12) (.v (.int .i64 2)))) (.need (o=o/\n=n/\c=c) (.leaf (.tu (L12s (X a)) (.v (.int .i64 0))))))) (by kernel_rfl)
  (need_sh ⟨rfl,rfl,rfl⟩ (br_sh (fun h=>leaf_sh ?_) (fun h=>need_sh ⟨rfl,rfl,rfl⟩ (leaf_sh ?_))))
 ·rw[if_pos (of_decide_eq_true h)]
  rfl
 ·rw[if_neg (of_decide_eq_false h)]
  rfl
end Sy
open Go.RowKit
namespace Sy
theorem calls_loop1{E:Env}{γ0:Pl}{w0:World}{V:Value}(G:E.Good γ0 w0)(mx:E.P.follows .mixedOrders=true)(hd:Nat->Nat){f:FuncId}{fn:Func}(hf:E.P.funcs[f]?=some fn)(hb:fn.body.isSome=true)(args:List SV)(ha:okAll E.base args)(hn:decide (args.length<=fn.ntmps)=true)
  (hD:walk E hd fn args=(walk E hd fn args).diag) {p:Prop} {d:Nat} (hZ:(walk E hd fn args).shape=.need p (.loop d)) (hp:p) (T:Tr) (hT:(walk E hd fn args).on []=T) (hW:T.wp E.base ⟨fun r=>r.val γ0=V,fun _ _=>False⟩):Calls E.P f (args.map (·.val γ0)).toArray w0 fun e w'=>e=.returned V/\Below w0.heap.size w0 w' :=
 calls_at G mx hd hf hb args ha hn hD _ hZ (need_sh hp (loop_sh (Eq.mpr (congrArg (fun t=>Tr.wp E.base t _) hT) hW)))
def btI(f:Nat->Nat)(t:Nat):Int:=andI .u32 (shrI .u32 ((f (t / 32):Nat):Int) (IntKind.u64.wrap ((t%32:Nat):Int))) 1
section
variable {m:Nat} {M:N12->N12->N12}
def brd(M:N12->N12->N12)(a:N12)(f:Nat->Nat)(t:Nat)(x:N12):N12:=bif eqI (btI f t) 1 then M (M x x) a else M x x
def bgo(M:N12->N12->N12)(a:N12)(f:Nat->Nat):Nat->N12->N12
 | 0,o=>o
 | t+1,o=>bgo M a f t (brd M a f t o)
def moreZ(m:Nat)(M:N12->N12->N12)(o n c L:Nat):List Con:=[cLenE 53 o n c L,cOneR,cH2 true m 0 25 sh12 sh12 fun a b=>L12s (M a b)]
noncomputable def TZ (m:Nat) (M:N12->N12->N12) (f:Nat->Nat) (a:N12) (o n c L:Nat):Tr:=(walk (EX o n f (moreZ m M o n c L)) (fun _=>0) Tryz.f29 [sG,L12s a,.s 1 o n c]).on []
def stZ(a:N12)(o n c:Nat)(d:SV)(x:N12):St:=⟨[(2,some (.s 1 o n c)),(3,some (.p 2 0 0 0)),(4,some (.p 3 0 0 0)),(6,some (.p 4 0 0 0)),(7,some (.p 5 0 0 0)),(8,some d)],[(5,L12s x,38),(4,L12s z12,38),(3,L12s a,38),(2,sG,29)],6⟩
structure RZ (M:N12->N12->N12) (a:N12) (f:Nat->Nat) (T:N12) (L:Nat) where
 s:Nat
 x:N12
 le:s<=L
 is:bgo M a f s x=T
 ok:(L12s x).ok
theorem Texp_walk(hb:Big m)(oM:∀ a b,(L12s (M a b)).ok)(hM:Ih2 m 25 sh12 sh12 fun a b=>L12s (M a b))
  (F g o n c L:Nat) (f:Nat->Nat) (a:N12) (oa:(L12s a).ok) (w:World) (hF:RFld w F m) (hp:PtN w g o n f) (hL:L<2^60) (hn:∀ t,t<L->t / 32<n)
  (hl:∀ wx,Below w.heap.size w wx->Calls Tryz.prog 53 #[.slice (some ⟨g,o,none⟩) n c] wx fun e w'=>e=.returned (.int .i64 (L:Nat))/\Below wx.heap.size wx w') :
  Calls Tryz.prog 29 #[.agg #[.pointer (some ⟨F,0,none⟩)],(L12s a).val o0,.slice (some ⟨g,o,none⟩) n c] w fun e w'=>e=.returned ((L12s (bgo M a f L one12)).val o0)/\Below w.heap.size w w':=by
 have hf:ROk true m 0 (fun k=>if k=0 then F else g) w:=⟨hb.odd,hb.big,hb.lt,fun _=>hF,fun h=>(by cases h)⟩
 have h60:(2:Nat)^60=1152921504606846976:=by decide
 have h62:(2:Nat)^62=4611686018427387904:=by decide
 refine calls_loop1 (γ0:=fun k=>if k=0 then F else g) (EX_ok (o0:=o) (n0:=n) (f:=f) (more:=moreZ m M o n c L) ⟨cLenE_ok (fun _ _=>by kernel_rfl) (by omega) hl,cOneR_ok,(hM _ _ _ _ hf).mono (by decide),trivial⟩ hp) (by kernel_rfl) (fun _=>0) Tryz.func29 (by kernel_rfl) [sG,L12s a,.s 1 o n c] ⟨⟨⟨trivial,trivial⟩,rfl⟩,⟨oa,rfl⟩,⟨trivial,rfl⟩,trivial⟩ (by kernel_rfl) (by kernel_rfl)
  (p:=o=o/\n=n/\c=c) (d:=0) (by kernel_rfl) ⟨rfl,rfl,rfl⟩ (TZ m M f a o n c L) (by kernel_rfl) ?_
 have eb:(EX o n f (moreZ m M o n c L)).base=2:=rfl;rw[eb];have hB:∀ k x,subB 2 (stZ a o n c (dn k) x)=true:=fun k x=>by cases k <;> kernel_rfl
 have h0:Sub 2 (TZ m M f a o n c L).stOf (stZ a o n c (dn L) one12):=Sub.ofW [5,4,3,2] (hB _ _) ⟨.is (by kernel_rfl),.is (by kernel_rfl),.is (by kernel_rfl),.is (by kernel_rfl),.is (by kernel_rfl),.dn (n:=((L:Nat):Int) - ((1:Nat):Int)) (by kernel_rfl) rfl (by omega),trivial⟩ (by kernel_rfl);have hs:(TZ m M f a o n c L).isLoop 0=true:=by kernel_rfl
 have d0:∀ x,(TZ m M f a o n c L).round (stZ a o n c (dn 0) x)=((TZ m M f a o n c L).round (stZ a o n c (dn 0) x)).diag:=fun x=>by kernel_rfl
 have z0:∀ x,((TZ m M f a o n c L).round (stZ a o n c (dn 0) x)).shape=.leaf (L12s x):=fun x=>by kernel_rfl
 have d1:∀ t x,(TZ m M f a o n c L).round (stZ a o n c (dn (t+1)) x)=((TZ m M f a o n c L).round (stZ a o n c (dn (t+1)) x)).diag:=fun t x=>by kernel_rfl
 have z1:∀ t x,((TZ m M f a o n c L).round (stZ a o n c (dn (t+1)) x)).shape=.br (!ltN t 0) (.need (t / 32<n) (.need (o=o/\t / 32<n) (.need (0<=IntKind.u64.wrap ((t%32:Nat):Int)) (.br (eqI (btI f t) 1) (.cut 0) (.cut 0))))) (.leaf (L12s x)):=fun t x=>by kernel_rfl
 have n1:∀ t x,t<L->Sub 2 (((TZ m M f a o n c L).round (stZ a o n c (dn (t+1)) x)).on [true,true]).cutOf (stZ a o n c (dn t) (M (M x x) a)):=fun t x ht=>Sub.ofW [5,4,3,2] (hB _ _) ⟨.is (by kernel_rfl),.is (by kernel_rfl),.is (by kernel_rfl),.is (by kernel_rfl),.is (by kernel_rfl),.dn (n:=((t:Nat):Int) - ((1:Nat):Int)) (by kernel_rfl) rfl (by omega),trivial⟩ (by kernel_rfl);have n2:∀ t x,t<L->Sub 2 (((TZ m M f a o n c L).round (stZ a o n c (dn (t+1)) x)).on [true,false]).cutOf (stZ a o n c (dn t) (M x x)):=fun t x ht=>Sub.ofW [5,4,3,2] (hB _ _) ⟨.is (by kernel_rfl),.is (by kernel_rfl),.is (by kernel_rfl),.is (by kernel_rfl),.is (by kernel_rfl),.dn (n:=((t:Nat):Int) - ((1:Nat):Int)) (by kernel_rfl) rfl (by omega),trivial⟩ (by kernel_rfl);have c1:∀ t x,(((TZ m M f a o n c L).round (stZ a o n c (dn (t+1)) x)).on [true,true]).isCut 0=true:=fun t x=>by kernel_rfl
 have c2:∀ t x,(((TZ m M f a o n c L).round (stZ a o n c (dn (t+1)) x)).on [true,false]).isCut 0=true:=fun t x=>by kernel_rfl
 generalize TZ m M f a o n c L=T at h0 hs d0 z0 d1 z1 n1 n2 c1 c2 |-
 refine loop_wp (T:=T) 0 hs (ι:=RZ M a f (bgo M a f L one12) L) (fun r=>stZ a o n c (dn r.s) r.x) (fun r=>r.s) ⟨L,one12,Nat.le_refl _,rfl,one12_ok⟩ h0 fun⟨s,x,hle,his,hox⟩=>?_;cases s with
 | zero =>
  refine wp_of_shape (d0 x) (L:=fun L'=>((T.round (stZ a o n c (dn 0) x)).on L').wp 2 _) ?_ fun _ h=>h;rw[z0 x];show(L12s x).val _=_;rw[<- his];rfl
 | succ t =>
  refine wp_of_shape (d1 t x) (L:=fun L'=>((T.round (stZ a o n c (dn (t+1)) x)).on L').wp 2 _) ?_ fun _ h=>h;rw[z1 t x];have ht:t<L:=hle;refine⟨fun _=>?_,fun h=>?_⟩
  ·have hw:0<=IntKind.u64.wrap ((t%32:Nat):Int):=by rw[IntKind.wrap_u64];omega
   refine need_sh (hn t ht) (need_sh ⟨rfl,hn t ht⟩ (need_sh hw ⟨fun h=>?_,fun h=>?_⟩))
   ·exact next_wp 0 (c1 t x) (st:=fun r:RZ M a f (bgo M a f L one12) L=>stZ a o n c (dn r.s) r.x) ⟨t,M (M x x) a,Nat.le_of_lt ht,by rw[<- his,bgo,brd,h];rfl,oM _ _⟩ (Nat.lt_succ_self t) (n1 t x ht)
   ·exact next_wp 0 (c2 t x) (st:=fun r:RZ M a f (bgo M a f L one12) L=>stZ a o n c (dn r.s) r.x) ⟨t,M x x,Nat.le_of_lt ht,by rw[<- his,bgo,brd,h];rfl,oM _ _⟩ (Nat.lt_succ_self t) (n2 t x ht)
  ·have e:ltN t 0=false:=decide_eq_false (Nat.not_lt_zero t)
   rw[e]at h;cases h
end
end Sy
open Sy
section
variable {m:Nat} (hp:Pr m) (hm:m<2^256)
include hm
theorem ra2_v(z y:Zp m × Zp m):ra2 m (v2 z) (v2 y)=v2 ((K2 hp).add z y):=Prod.ext (rA_eq z.1.2 y.1.2 hm) (rA_eq z.2.2 y.2.2 hm)
theorem rm2_eq(a b:N2):rm2 m a b=m2 hp a b:=by
 have hlt:∀ n,n%m<m:=fun n=>Nat.mod_lt _ hp.pos;rw[<- m2_eq hp a b];refine Prod.ext ?_ ?_
 ·show rS m _ _=_
  rw[rS_eq (hlt _) (hlt _) hm,Nat.mod_mod,Nat.mod_mod]
 ·exact rA_eq (hlt _) (hlt _) hm
omit hm
theorem pc2_eq(a:N2):pc2 m a=v2 (ph hp a.1,(K1 hp).neg (ph hp a.2)):=Prod.ext rfl (ph_neg hp a.2)
include hp hm
end
open Sy
section
variable {m:Nat} (hp:Pr m)
theorem vv_mul(h:(Zp m × Zp m) × (Zp m × Zp m) × (Zp m × Zp m)):(K6 hp).mul (vv hp) h=((K2 hp).mul (xi hp) h.2.2,h.1,h.2.1):=by
 refine Prod.ext ?_ (Prod.ext ?_ ?_)
 ·show(K2 hp).add ((K2 hp).mul (K2 hp).zero h.1) ((K2 hp).mul (xi hp) ((K2 hp).add ((K2 hp).mul (K2 hp).one h.2.2) ((K2 hp).mul (K2 hp).zero h.2.1)))=_
  simp only[CRing.zero_mul,CRing.one_mul,CRing.add_zero,CRing.zero_add]
 ·show(K2 hp).add ((K2 hp).add ((K2 hp).mul (K2 hp).zero h.2.1) ((K2 hp).mul (K2 hp).one h.1)) ((K2 hp).mul (xi hp) ((K2 hp).mul (K2 hp).zero h.2.2))=_
  simp only[CRing.zero_mul,CRing.one_mul,CRing.add_zero,CRing.zero_add,CRing.mul_zero]
 ·show(K2 hp).add ((K2 hp).add ((K2 hp).mul (K2 hp).zero h.2.2) ((K2 hp).mul (K2 hp).zero h.1)) ((K2 hp).mul (K2 hp).one h.2.1)=_
  simp only[CRing.zero_mul,CRing.one_mul,CRing.add_zero,CRing.zero_add]
theorem ph2_nine(hm:1<m):ph2 hp (9,1)=xi hp:=Prod.ext rfl (zp_ext (Nat.mod_eq_of_lt hm))
include hp in
theorem v2_inj{z y:Zp m × Zp m}(h:v2 z=v2 y):z=y:=by
 have:=congrArg (ph2 hp) h;rwa [ph2_v,ph2_v]at this
def elZ(z:((Zp m × Zp m) × (Zp m × Zp m) × (Zp m × Zp m)) × ((Zp m × Zp m) × (Zp m × Zp m) × (Zp m × Zp m))):Nat->Zp m × Zp m
 | 0=>z.1.1
 | 1=>z.2.1
 | 2=>z.1.2.1
 | 3=>z.2.2.1
 | 4=>z.1.2.2
 | _=>z.2.2.2
theorem el_v(z:((Zp m × Zp m) × (Zp m × Zp m) × (Zp m × Zp m)) × ((Zp m × Zp m) × (Zp m × Zp m) × (Zp m × Zp m))):∀ i,el (v12 z) i=v2 (elZ z i)
 | 0 | 1 | 2 | 3 | 4 | _+5=>rfl
def zsum(z y:((Zp m × Zp m) × (Zp m × Zp m) × (Zp m × Zp m)) × ((Zp m × Zp m) × (Zp m × Zp m) × (Zp m × Zp m))):Nat->Nat->Zp m × Zp m
 | 0,_=>(K2 hp).zero
 | i+1,k=>if i<=k/\k<=i+5 then (K2 hp).add (zsum z y i k) ((K2 hp).mul (elZ z i) (elZ y (k - i)))else zsum z y i k
section
variable (hm:m<2^256)
include hm
theorem rm2_v(z y:Zp m × Zp m):rm2 m (v2 z) (v2 y)=v2 ((K2 hp).mul z y):=by
 rw[rm2_eq hp hm];unfold m2;rw[ph2_v,ph2_v]
theorem sums_v(z y:((Zp m × Zp m) × (Zp m × Zp m) × (Zp m × Zp m)) × ((Zp m × Zp m) × (Zp m × Zp m) × (Zp m × Zp m))):∀ i k,sums (ra2 m) (rm2 m) (v12 z) (v12 y) i k=v2 (zsum hp z y i k)
 | 0,_=>rfl
 | i+1,k=>by
  have ih:=sums_v z y i k;unfold sums zsum
  split
  ·rename_i h
   have h1:v2 (elZ z i)=v2 (K2 hp).zero:=by rw[<- el_v];exact wl2_eq h
   have h2:=v2_inj hp h1;rw[ih,h2]
   split
   ·rw[CRing.zero_mul,(K2 hp).add_zero]
   ·rfl
  ·unfold Sy.upd
   split
   ·rw[ih,el_v,el_v,rm2_v hp hm,ra2_v hp hm]
   ·exact ih
theorem rmt_v(h1:1<m)(z y:((Zp m × Zp m) × (Zp m × Zp m) × (Zp m × Zp m)) × ((Zp m × Zp m) × (Zp m × Zp m) × (Zp m × Zp m))):rmt (ra2 m) (rm2 m) (v12 z) (v12 y)=v12 ((K12 hp).mul z y):=by
 have h9:∀ x,rm2 m (v2 x) (9,1)=v2 ((K2 hp).mul x (xi hp)):=fun x=>by
  rw[rm2_eq hp hm];unfold m2;rw[ph2_v,ph2_nine hp h1]
 have key:∀ k,(ra2 m) (v2 (zsum hp z y 6 k)) (rm2 m (v2 (zsum hp z y 6 (k+6))) (9,1))=v2 ((K2 hp).add (zsum hp z y 6 k) ((K2 hp).mul (zsum hp z y 6 (k+6)) (xi hp))):=fun k=>by rw[h9,ra2_v hp hm]
 have e:(K12 hp).mul z y=((K6 hp).add ((K6 hp).mul z.1 y.1) ((K6 hp).mul (vv hp) ((K6 hp).mul z.2 y.2)),(K6 hp).add ((K6 hp).mul z.1 y.2) ((K6 hp).mul z.2 y.1)):=rfl;rw[e,vv_mul];unfold rmt fin12;simp only[sums_v hp hm];refine Prod.ext (Prod.ext ((key 0).trans (congrArg v2 ?_)) (Prod.ext ((key 2).trans (congrArg v2 ?_)) ((key 4).trans (congrArg v2 ?_)))) (Prod.ext ((key 1).trans (congrArg v2 ?_)) (Prod.ext ((key 3).trans (congrArg v2 ?_)) (congrArg v2 ?_)))
 ·show _=(K2 hp).add ((K2 hp).add ((K2 hp).mul z.1.1 y.1.1) ((K2 hp).mul (xi hp) ((K2 hp).add ((K2 hp).mul z.1.2.1 y.1.2.2) ((K2 hp).mul z.1.2.2 y.1.2.1)))) ((K2 hp).mul (xi hp) ((K2 hp).add ((K2 hp).add ((K2 hp).mul z.2.1 y.2.2.2) ((K2 hp).mul z.2.2.2 y.2.1)) ((K2 hp).mul z.2.2.1 y.2.2.1)))
  simp[zsum,elZ,CRing.zero_add]
  try simp only[CRing.mul_add,CRing.add_mul]
  ac_rfl
 ·show _=(K2 hp).add ((K2 hp).add ((K2 hp).add ((K2 hp).mul z.1.1 y.1.2.1) ((K2 hp).mul z.1.2.1 y.1.1)) ((K2 hp).mul (xi hp) ((K2 hp).mul z.1.2.2 y.1.2.2))) ((K2 hp).add ((K2 hp).mul z.2.1 y.2.1) ((K2 hp).mul (xi hp) ((K2 hp).add ((K2 hp).mul z.2.2.1 y.2.2.2) ((K2 hp).mul z.2.2.2 y.2.2.1))))
  simp[zsum,elZ,CRing.zero_add]
  try simp only[CRing.mul_add,CRing.add_mul]
  ac_rfl
 ·show _=(K2 hp).add ((K2 hp).add ((K2 hp).add ((K2 hp).mul z.1.1 y.1.2.2) ((K2 hp).mul z.1.2.2 y.1.1)) ((K2 hp).mul z.1.2.1 y.1.2.1)) ((K2 hp).add ((K2 hp).add ((K2 hp).mul z.2.1 y.2.2.1) ((K2 hp).mul z.2.2.1 y.2.1)) ((K2 hp).mul (xi hp) ((K2 hp).mul z.2.2.2 y.2.2.2)))
  simp[zsum,elZ,CRing.zero_add]
  try simp only[CRing.mul_add,CRing.add_mul]
  ac_rfl
 ·show _=(K2 hp).add ((K2 hp).add ((K2 hp).mul z.1.1 y.2.1) ((K2 hp).mul (xi hp) ((K2 hp).add ((K2 hp).mul z.1.2.1 y.2.2.2) ((K2 hp).mul z.1.2.2 y.2.2.1)))) ((K2 hp).add ((K2 hp).mul z.2.1 y.1.1) ((K2 hp).mul (xi hp) ((K2 hp).add ((K2 hp).mul z.2.2.1 y.1.2.2) ((K2 hp).mul z.2.2.2 y.1.2.1))))
  simp[zsum,elZ,CRing.zero_add]
  try simp only[CRing.mul_add,CRing.add_mul]
  ac_rfl
 ·show _=(K2 hp).add ((K2 hp).add ((K2 hp).add ((K2 hp).mul z.1.1 y.2.2.1) ((K2 hp).mul z.1.2.1 y.2.1)) ((K2 hp).mul (xi hp) ((K2 hp).mul z.1.2.2 y.2.2.2))) ((K2 hp).add ((K2 hp).add ((K2 hp).mul z.2.1 y.1.2.1) ((K2 hp).mul z.2.2.1 y.1.1)) ((K2 hp).mul (xi hp) ((K2 hp).mul z.2.2.2 y.1.2.2)))
  simp[zsum,elZ,CRing.zero_add]
  try simp only[CRing.mul_add,CRing.add_mul]
  ac_rfl
 ·show _=(K2 hp).add ((K2 hp).add ((K2 hp).add ((K2 hp).mul z.1.1 y.2.2.2) ((K2 hp).mul z.1.2.2 y.2.1)) ((K2 hp).mul z.1.2.1 y.2.2.1)) ((K2 hp).add ((K2 hp).add ((K2 hp).mul z.2.1 y.1.2.2) ((K2 hp).mul z.2.2.2 y.1.1)) ((K2 hp).mul z.2.2.1 y.1.2.1))
  simp[zsum,elZ,CRing.zero_add]
  ac_rfl
end
/-! Inverses. -/
variable {hp}
end
/-! The pairing's prime. -/
open Sy
section
variable {m:Nat} (hp:Pr m)
def cj(z:Zp m × Zp m):Zp m × Zp m:=(z.1,(K1 hp).neg z.2)
theorem cj_add(z y:Zp m × Zp m):cj hp ((K2 hp).add z y)=(K2 hp).add (cj hp z) (cj hp y):=by
 refine Prod.ext rfl ?_;show(K1 hp).neg ((K1 hp).add z.2 y.2)=(K1 hp).add ((K1 hp).neg z.2) ((K1 hp).neg y.2);exact CRing.neg_add (K1 hp) _ _
theorem cj_mul(z y:Zp m × Zp m):cj hp ((K2 hp).mul z y)=(K2 hp).mul (cj hp z) (cj hp y):=by
 refine Prod.ext ?_ ?_
 ·show(K1 hp).add ((K1 hp).mul z.1 y.1) ((K1 hp).mul ((K1 hp).neg (K1 hp).one) ((K1 hp).mul z.2 y.2))=(K1 hp).add ((K1 hp).mul z.1 y.1) ((K1 hp).mul ((K1 hp).neg (K1 hp).one) ((K1 hp).mul ((K1 hp).neg z.2) ((K1 hp).neg y.2)))
  rw[CRing.mul_neg (K1 hp) ((K1 hp).neg z.2) y.2,CRing.neg_mul (K1 hp) z.2 y.2,CRing.neg_neg]
 ·show(K1 hp).neg ((K1 hp).add ((K1 hp).mul z.1 y.2) ((K1 hp).mul z.2 y.1))=(K1 hp).add ((K1 hp).mul z.1 ((K1 hp).neg y.2)) ((K1 hp).mul ((K1 hp).neg z.2) y.1)
  rw[CRing.neg_add (K1 hp),CRing.mul_neg (K1 hp) z.1 y.2,CRing.neg_mul (K1 hp) z.2 y.1]
theorem cj_cj(z:Zp m × Zp m):cj hp (cj hp z)=z:=by
 refine Prod.ext rfl ?_;show(K1 hp).neg ((K1 hp).neg z.2)=z.2;exact CRing.neg_neg (K1 hp) _
def fr(t:Zp m × Zp m)(z:((Zp m × Zp m) × (Zp m × Zp m) × (Zp m × Zp m)) × ((Zp m × Zp m) × (Zp m × Zp m) × (Zp m × Zp m))):((Zp m × Zp m) × (Zp m × Zp m) × (Zp m × Zp m)) × ((Zp m × Zp m) × (Zp m × Zp m) × (Zp m × Zp m)) :=
 ((cj hp z.1.1,(K2 hp).mul (cj hp z.1.2.1) ((K2 hp).mul t t),(K2 hp).mul (cj hp z.1.2.2) ((K2 hp).mul ((K2 hp).mul t t) ((K2 hp).mul t t))),((K2 hp).mul (cj hp z.2.1) t,(K2 hp).mul (cj hp z.2.2.1) ((K2 hp).mul ((K2 hp).mul t t) t),(K2 hp).mul (cj hp z.2.2.2) ((K2 hp).mul ((K2 hp).mul ((K2 hp).mul t t) ((K2 hp).mul t t)) t)))
theorem mul12_c(z y:((Zp m × Zp m) × (Zp m × Zp m) × (Zp m × Zp m)) × ((Zp m × Zp m) × (Zp m × Zp m) × (Zp m × Zp m))):(K12 hp).mul z y=(((K2 hp).add ((K2 hp).add ((K2 hp).mul z.1.1 y.1.1) ((K2 hp).mul (xi hp) ((K2 hp).add ((K2 hp).mul z.1.2.1 y.1.2.2) ((K2 hp).mul z.1.2.2 y.1.2.1)))) ((K2 hp).mul (xi hp) ((K2 hp).add ((K2 hp).add ((K2 hp).mul z.2.1 y.2.2.2) ((K2 hp).mul z.2.2.2 y.2.1)) ((K2 hp).mul z.2.2.1 y.2.2.1))),
  (K2 hp).add ((K2 hp).add ((K2 hp).add ((K2 hp).mul z.1.1 y.1.2.1) ((K2 hp).mul z.1.2.1 y.1.1)) ((K2 hp).mul (xi hp) ((K2 hp).mul z.1.2.2 y.1.2.2))) ((K2 hp).add ((K2 hp).mul z.2.1 y.2.1) ((K2 hp).mul (xi hp) ((K2 hp).add ((K2 hp).mul z.2.2.1 y.2.2.2) ((K2 hp).mul z.2.2.2 y.2.2.1)))),
  (K2 hp).add ((K2 hp).add ((K2 hp).add ((K2 hp).mul z.1.1 y.1.2.2) ((K2 hp).mul z.1.2.2 y.1.1)) ((K2 hp).mul z.1.2.1 y.1.2.1)) ((K2 hp).add ((K2 hp).add ((K2 hp).mul z.2.1 y.2.2.1) ((K2 hp).mul z.2.2.1 y.2.1)) ((K2 hp).mul (xi hp) ((K2 hp).mul z.2.2.2 y.2.2.2)))),
  ((K2 hp).add ((K2 hp).add ((K2 hp).mul z.1.1 y.2.1) ((K2 hp).mul (xi hp) ((K2 hp).add ((K2 hp).mul z.1.2.1 y.2.2.2) ((K2 hp).mul z.1.2.2 y.2.2.1)))) ((K2 hp).add ((K2 hp).mul z.2.1 y.1.1) ((K2 hp).mul (xi hp) ((K2 hp).add ((K2 hp).mul z.2.2.1 y.1.2.2) ((K2 hp).mul z.2.2.2 y.1.2.1)))),
  (K2 hp).add ((K2 hp).add ((K2 hp).add ((K2 hp).mul z.1.1 y.2.2.1) ((K2 hp).mul z.1.2.1 y.2.1)) ((K2 hp).mul (xi hp) ((K2 hp).mul z.1.2.2 y.2.2.2))) ((K2 hp).add ((K2 hp).add ((K2 hp).mul z.2.1 y.1.2.1) ((K2 hp).mul z.2.2.1 y.1.1)) ((K2 hp).mul (xi hp) ((K2 hp).mul z.2.2.2 y.1.2.2))),
  (K2 hp).add ((K2 hp).add ((K2 hp).add ((K2 hp).mul z.1.1 y.2.2.2) ((K2 hp).mul z.1.2.2 y.2.1)) ((K2 hp).mul z.1.2.1 y.2.2.1)) ((K2 hp).add ((K2 hp).add ((K2 hp).mul z.2.1 y.1.2.2) ((K2 hp).mul z.2.2.2 y.1.1)) ((K2 hp).mul z.2.2.1 y.1.2.1)))):=by
 have e:(K12 hp).mul z y=((K6 hp).add ((K6 hp).mul z.1 y.1) ((K6 hp).mul (vv hp) ((K6 hp).mul z.2 y.2)),(K6 hp).add ((K6 hp).mul z.1 y.2) ((K6 hp).mul z.2 y.1)):=rfl;rw[e,vv_mul];rfl
end
end Go.Proofs.YthnckclbeecnmaaGreat
