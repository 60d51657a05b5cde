/- The program's group of points: worlds in which it is boxed; what squareOfY and below come to. (Cut to what is reached, written closely: Gw · FPin · FNeg · FMdl · QL · FNew · GCub.) -/
import Derived.Test.YtphafjbajlcbnaaGreatB16
import Derived.Test.YtphafjbajlcbnaaGreatB15
import Derived.Test.YtphafjbajlcbnaaGreatB2
import Derived.Test.YtphafjbajlcbnaaGreatB13
import Derived.Deep.DeepCutAuto
set_option linter.all false
set_option maxRecDepth 100000
set_option maxHeartbeats 8000000
namespace Go.Proofs.YtphafjbajlcbnaaGreat
open Go.RowKit
section
variable {P:Program} {ops:Array Oper} {Q:Exit->Act->World->Prop} {a0:Act} {w:World} {L:List Sp} {ps:List Nat} {J:Nat->Array Value}
theorem NF{k d:Nat}{o:Oper}{a:Act}{wx:World}(T:TypeId)(parts:List (Nat × Operand × Value))(cs:Array Value)(hd:o.dst=some d)(ho:o.op=.build T (parts.map fun p=>(p.1,p.2.1)).toArray)(hw:Region.wanted o (yielded ops a.tmps)=true)
  (hx:∀ p∈parts,a.eval p.2.1=p.2.2) (hf:P.built T (parts.map fun p=>(p.1,p.2.2))=some cs) (hC:CM w ps (slots a) wx) (hps:ps.all (· != d)=true) (hsz:d<a.tmps.size) (hv:Ci L k=.val d (.agg cs)):Cf P ops Q (CM w ps) (ND w L J) (RNM w.heap.size ps J) k o a wx:=by
 refine Ap (.agg cs) hd hw ?_ hC hps hsz hv;have e:((parts.map fun p=>(p.1,p.2.1)).toArray.map fun(p:Nat × Operand)=>(p.1,a.eval p.2)).toList=parts.map fun p=>(p.1,p.2.2):=by
  simp only[List.map_toArray,List.map_map];exact List.map_congr_left fun p hp=>by simp[hx p hp]
 have hr:=run_build (P:=P) wx T ((parts.map fun p=>(p.1,p.2.1)).toArray.map fun(p:Nat × Operand)=>(p.1,a.eval p.2)) cs (by rw[e];exact hf);unfold execOp;rw[ho];simp only[Sem.run_bind,hr,Result.andThen_ok,Sem.run_pure]
theorem EZ{ops:Array Oper}{tmps:Array Value}{o:Oper}{j d:Nat}{b:Bool}(hg:o.guard=some (j,b))(hd:(ops[j]?).bind (·.dst)=some d)(hv:tmps.getD d undef=undef):Region.wanted o (yielded ops tmps)=false:=by
 unfold Region.wanted;rw[hg];have e:yielded ops tmps j=none:=by
  unfold yielded;rw[hd];simp only[Option.bind_some];by_cases h:d<tmps.size
  ·rw[Array.getElem?_eq_getElem h]
   have:tmps[d]=undef:=by simpa[h]using hv
   rw[this];rfl
  ·simp[h]
 simp only[e];rfl
theorem Ib{a:Act}{o:Oper}{wx:World}(c x y:Operand)(b:Bool)(r:Value)(ho:o.op=.pick c x y)(hc:a.eval c=.bool b)(hr:(if b=true then a.eval x else a.eval y)=r):(execOp a.eval o).run P wx=.ok (.value r) wx:=by
 unfold execOp;rw[ho];simp[asBool,hc,hr,Sem.run_pure]
theorem Qv(b:Bool)(wx:World):(Op.unary .not (.bool b)).run P wx=.ok (.bool (!b)) wx:=rfl
variable {rest:List Oper} {o:Oper} {a:Act}
theorem Eu{d:Nat}{T:TypeId}{z:Array Value}(hgd:o.guard=none)(hd:o.dst=some d)(hlt:d<a.tmps.size)(hr:(execOp a.eval o).run P w=.ok (.value (.pointer (some ⟨w.heap.size,0,none⟩))) (w.alloc (.cells z T)))
  (h:∀ a':Act,a'.tmps.size=a.tmps.size->a'.defers=a.defers->(∀ t,t≠d->a'.tmps.getD t undef=a.tmps.getD t undef)->a'.tmps.getD d undef=.pointer (some ⟨w.heap.size,0,none⟩)->wpList P ops Q rest a' (w.alloc (.cells z T))):wpList P ops Q (o::rest) a w:=by
 refine wpList_plain hgd fun K hK=>?_;unfold Oper.wp;rw[hr];refine hK _ _ (h _ (Bc _ _ _) (put_defers _ _ _) (fun t ht=>Al _ _ _ _ (by rw[hd];intro e;exact ht (Option.some.inj e).symm)) (by rw[hd];exact BM _ _ _ hlt))
theorem Fx{T:TypeId}{x:Operand}{v:Value}{z:Array Value}(ho:o.op=.box T x)(hx:a.eval x=v)(hz:v.cells=z):(execOp a.eval o).run P w=.ok (.value (.pointer (some ⟨w.heap.size,0,none⟩))) (w.alloc (.cells z T)):=by
 subst hz;unfold execOp;simp only[ho,hx,Sem.run_bind,Instr.box,newVar,newRow,run_newObj_alloc,Sem.run_pure,Result.andThen_ok]
theorem Ev{op:BinOp}{T t:TypeId}{x y:Operand}{u v r:Value}(ho:o.op=.binOp op T x y t)(hx:a.eval x=u)(hy:a.eval y=v)(hg:(eqGuard op T x y u v).run P w=.ok () w)(hb:(binOp op T u v).run P w=.ok r w):(execOp a.eval o).run P w=.ok (.value r) w:=by
 unfold execOp;rw[ho];simp only[hx,hy,Sem.run_bind,hg,hb,Result.andThen_ok,Sem.run_pure]
theorem Yl{d:Nat}{f:FuncId}{args:Array Value}{R:Value->World->Prop}(hgd:o.guard=none)(hd:o.dst=some d)(hlt:d<a.tmps.size)(he:(execOp a.eval o).run P w=.ok (.enter f args) w)
  (hc:Calls P f args w fun e w'=>∃ v,e=.returned v/\R v w')
  (h:∀(a':Act) v w',R v w'->a'.tmps.size=a.tmps.size->a'.defers=a.defers->(∀ t,t≠d->a'.tmps.getD t undef=a.tmps.getD t undef)->a'.tmps.getD d undef=v->wpList P ops Q rest a' w'):wpList P ops Q (o::rest) a w:=by
 refine wpList_plain hgd fun K hK=>?_;unfold Oper.wp;rw[he];refine Calls.mono hc ?_;rintro e w' ⟨v,rfl,hR⟩;exact hK _ _ (h _ v w' hR (Bc _ _ _) (put_defers _ _ _) (fun t ht=>Al _ _ _ _ (by rw[hd];intro e;exact ht (Option.some.inj e).symm)) (by rw[hd];exact BM _ _ _ hlt))
end
section
variable {w wx w':World} {L:List (Nat × Array Value × TypeId)} {D E:Nat} {cs es:Array Value} {T S:TypeId}
end
open Go.RowKit
-- WHAT partInverse COMES TO.
theorem V3(p:Nat)(hp:p<18446744073709551616)(w:World):Calls Tryz.prog 96 #[.int .u64 (p:Nat)] w fun e w'=>e=.returned (.int .u64 (pin p 5:Nat))/\w=w':=by
 have HP:=Lib.hid hp;clear hp;go_enter Tryz.func96,Tryz.ntmps96
 go_wp2_with fail
 go_loopw [3,5] (fun v iv wr=>∃ k:Nat,k<=5/\iv=.int .i64 k/\v=.int .u64 (pin p k:Nat)/\w=wr) (fun _ iv _=>5 - (intOf iv).toNat)
 case atStart=>exact⟨0,τ,rfl,rfl,rfl⟩
 case round =>
  obtain⟨k,hk,rfl,rfl,rfl⟩:=hrel;have hk0:(0:Int)<=k:=by omega
  by_cases hlt:k<5
  ·have hlt':(k:Int)<5:=by omega
   have hxl:=OM p k HP.out;have HX:=Lib.hid (show pin p (k+1)=nst p (pin p k) from rfl);obtain⟨x,hx⟩:∃ x,pin p k=x:=⟨_,rfl⟩
   rw[hx]at hxl HX |-
   obtain⟨y,hy⟩:∃ y,p*x%18446744073709551616=y:=⟨_,rfl⟩
   obtain⟨z,hz⟩:∃ z,(18446744073709551616+2 - y)%18446744073709551616=z:=⟨_,rfl⟩
   obtain⟨u,hu⟩:∃ u,x*z%18446744073709551616=u:=⟨_,rfl⟩
   have h1:IntKind.u64.wrap ((p:Int)*x)=(y:Int):=by rw[IntKind.wrap_u64];omega
   have hyl:y<18446744073709551616:=by rw[<- hy];exact Nat.mod_lt _ τ
   have h2:IntKind.u64.wrap (2 - (y:Int))=(z:Int):=by rw[IntKind.wrap_u64,<- hz];omega
   have h3:IntKind.u64.wrap ((x:Int)*z)=(u:Int):=by rw[IntKind.wrap_u64];omega
   have HU:=Lib.hid (show pin p (k+1)=u from by rw[HX.out];unfold nst;rw[hy,hz,hu]);have HK:=Lib.hid hlt;clear hx HX hy hz hu hyl hxl hlt hk
   go_wp2_with fail
   go_roundw
   case rel=>exact⟨k+1,by have:=HK.out;omega,by go_num,by rw[HU.out],trivial⟩
   case measure=>have:=HK.out;simp[intOf];omega
  ·obtain rfl:k=5:=by omega
   have hlt':¬((5:Nat):Int)<5:=by omega
   simp only[Int.cast_ofNat_Int]
   go_wp2_with fail
   go_ret;exact⟨rfl,rfl⟩
open Go.RowKit
theorem Qw:pw 0=#[.int .u64 0,.int .u64 0,.int .u64 0,.int .u64 0]:=by kernel_rfl
-- WHAT Neg COMES TO.
theorem V4(F m a:Nat)(ha:a<115792089237316195423570985008687907853269984665640564039457584007913129639936)(w:World)(hF:FldAt w F m):Calls Tryz.prog 51 #[.pointer (some ⟨F,0,none⟩),.agg (pw a)] w fun e w'=>e=.returned (.agg (pw ((0%m+(m - a%m))%m)))/\Below w.heap.size w w':=by
 have H0:=Lib.hid (CW.one hF a);have HT:=Lib.hid (CW.calls (w:=w) (F:=F) (m:=m) (L:=[(w.heap.size+1,#[.int .u64 0,.int .u64 0,.int .u64 0,.int .u64 0]),(w.heap.size,pw a)]) (fun wx hf=>NB F m 0 a τ ha wx hf));rw[Qw]at HT;obtain⟨y,hy⟩:∃ y,(0%m+(m - a%m))%m=y:=⟨_,rfl⟩
 rw[hy]at HT |-
 clear hy hF ha;go_enter Tryz.func51,Tryz.ntmps51
 go_wp2_with (refine Ae rfl 24 _ rfl (.pointer (some ⟨w.heap.size,0,none⟩)) (.agg (pw a)) rfl (Ad (by exact H0.out.is _ _ υ)) ?_)
 refine(HT.out _ H0.out).mono ?_;rintro e w5 ⟨rfl,c⟩;have HC:=Lib.hid c;clear c HT H0
 go_wp2_with (refine wpList_store_row rfl 24 _ _ rfl (w.heap.size+1) (pw y) rfl rfl 24 (#[.int .u64 0,.int .u64 0,.int .u64 0,.int .u64 0]) (by exact HC.out.is _ _ υ) (by rw[A7];exact Ab) (by first | rfl | (rw[A7];rfl) | (rw[A7,A7])) (Ag _) ?_)
 (try simp only[Act.put])
 refine bodyPost_ret (v:=.agg (pw y)) (results_cell_row (p:=4) rfl _ _ (w.heap.size+1) 24 (pw y) (0,0) _ rfl (setRow_heap _ _ _ _ _ _ (by exact HC.out.is _ (#[.int .u64 0,.int .u64 0,.int .u64 0,.int .u64 0]) υ)) Tryz.underlying24 rfl (by rw[A7];exact Ab)) rfl ⟨rfl,below_setRow HC.out.old τ _⟩
open Go.RowKit
theorem JE(t:Array Value):t=((List.range t.size).map fun i=>t.getD i undef).toArray:=by
 apply Array.ext
 ·simp
 ·intro i h1 h2
  simp[Array.getD,h1]
structure CN (w:World) (m g a:Nat) (wx:World):Prop where
 old:Below w.heap.size w wx
 r0:wx.heap[w.heap.size]?=some (.cells (pw m) 24 (0,0))
 r1:wx.heap[g]?=some (.cells (pw a) 24 (0,0))
 hg:w.heap.size<g
theorem CN.high{w wx:World}{m g a:Nat}(c:CN w m g a wx):g+1<=wx.heap.size:=(Array.getElem?_eq_some_iff.1 c.r1).1
theorem CN.below{w wx w':World}{m g a:Nat}(c:CN w m g a wx)(hb:Below wx.heap.size wx w'):CN w m g a w' :=
 ⟨c.old.trans (hb.mono c.old.size),(hb.block _ (Array.getElem?_eq_some_iff.1 c.r0).1).trans c.r0,(hb.block _ (Array.getElem?_eq_some_iff.1 c.r1).1).trans c.r1,c.hg⟩
theorem CN.drew{w wx:World}{m g a:Nat}(c:CN w m g a wx):CN w m g a wx.drew:=c.below (Below.drew (Below.refl _ _))
theorem CN.rowed{w wx:World}{m g a D:Nat}{cs:Array Value}(c:CN w m g a wx)(hD:g+1<=D):CN w m g a (wx.setRow D cs):=by
 have:=c.hg;exact⟨below_setRow c.old τ _,(setRow_other _ _ _ _ τ).trans c.r0,(setRow_other _ _ _ _ τ).trans c.r1,c.hg⟩
theorem CN.calls{w:World}{m g a:Nat}{f:FuncId}{args:Array Value}{v:Value}(h:∀ wx,Calls Tryz.prog f args wx fun e w'=>e=.returned v/\Below wx.heap.size wx w'):∀ wx,CN w m g a wx->Calls Tryz.prog f args wx fun e w'=>e=.returned v/\CN w m g a w' :=
 fun wx c=>(h wx).mono fun _ _ hh=>⟨hh.1,c.below hh.2⟩
theorem V5{P:Program}{ops:Array Oper}{C:World->Prop}{Q:Act->Prop}{a:Act}{o:Oper}{rest:List Oper}(op:UnOp)(T:TypeId)(x:Operand)(u r:Value)(ho:o.op=.unOp op T x)(hw:Region.wanted o (yielded ops a.tmps)=true)(hx:a.eval x=u)
  (hb:∀ w,(Op.unary op u).run P w=.ok r w) (h:wpQuiet P ops C Q rest (a.put o.dst r)):wpQuiet P ops C Q (o::rest) a :=
 q_val r hw (fun w hC=>by
  unfold execOp;rw[ho];simp only[hx,Sem.run_bind,hb w,Result.andThen_ok,Sem.run_pure]) h
def FW(y:Nat)(_:TypeId):Array Value:=pw y
theorem Ym(m:Nat):(2^256 - 1 - 0+1)%m*((2^256 - 1 - 0+1)%m)%m=sqr m:=by
 unfold sqr;rw[show(2^256) - 1 - 0+1=2^256 from rfl,<- Nat.mul_mod]
theorem A39(a b:Nat)(h:(18446744073709551616 - a)%18446744073709551616=b)(hl:a<18446744073709551616)(w:World):(Op.unary .neg (.int .u64 (a:Nat))).run Tryz.prog w=.ok (.int .u64 (b:Nat)) w:=by
 have e:IntKind.u64.wrap (-(a:Int))=(b:Int):=by rw[IntKind.wrap_u64];omega
 go_simp
theorem pN0(m:Nat):pN m 0=m%18446744073709551616:=by unfold pN;simp
theorem Yn{m:Nat}:ar .u64 9 (fun j=>((frw m j:Nat):Int))=#[.int .u64 ((pN m 0:Nat):Int),.int .u64 ((pN m 1:Nat):Int),.int .u64 ((pN m 2:Nat):Int),.int .u64 ((pN m 3:Nat):Int),.int .u64 ((nin m:Nat):Int),.int .u64 ((pN (sqr m) 0:Nat):Int),.int .u64 ((pN (sqr m) 1:Nat):Int),.int .u64 ((pN (sqr m) 2:Nat):Int),.int .u64 ((pN (sqr m) 3:Nat):Int)]:=by
 kernel_rfl
theorem pw4(x:Nat):pw x=#[.int .u64 ((pN x 0:Nat):Int),.int .u64 ((pN x 1:Nat):Int),.int .u64 ((pN x 2:Nat):Int),.int .u64 ((pN x 3:Nat):Int)]:=by
 rw[Dh];kernel_rfl
-- WHAT modulo COMES TO.
theorem Pp(m:Nat)(ho:m%2=1)(h1:1<m)(hm:m<2^256)(w:World):Calls Tryz.prog 76 #[.agg (pw m)] w fun e w'=>∃ F,e=.returned (.pointer (some ⟨F,0,none⟩))/\FldAt w' F m/\w.heap.size<=F/\Below w.heap.size w w':=by
 have HNT:=Lib.hid (fun wx=>A1t 0 τ wx);rw[Qw]at HNT;have HO:=Lib.hid (And.intro ho (And.intro h1 hm));obtain⟨ao,ha⟩:∃ ao,2^256 - 1 - 0=ao:=⟨_,rfl⟩
 have hal:ao<2^256:=by omega
 rw[ha]at HNT;obtain⟨so,hs⟩:∃ so,(ao+1)%m=so:=⟨_,rfl⟩
 have hsl:so<2^256:=by rw[<- hs];exact Nat.lt_trans (Nat.mod_lt _ τ) hm
 have HAM:=Lib.hid (fun wx=>SQ ao 1 m hal τ τ hm wx);rw[hs]at HAM;have HMM:=Lib.hid (fun wx=>SS so so m hsl hsl τ hm wx);rw[<- hs,<- ha,Ym,ha,hs]at HMM;rw[pw4 (sqr m)]at HMM;have HPI:=Lib.hid (fun wx=>V3 (pN m 0) (Jv m 0) wx);have HNI:=Lib.hid (show(18446744073709551616 - pin (pN m 0) 5)%18446744073709551616=nin m from by unfold nin;rw[pN0 m]);have HPL:=Lib.hid (OM (pN m 0) 5 (Jv m 0));clear ho h1 hm hal hsl ha hs;go_enter Tryz.func76,Tryz.ntmps76
 go_wp2_with fail
 refine(HNT.out _).mono ?_;rintro e w1 ⟨rfl,hb1⟩;obtain⟨g,hg⟩:∃ g,w1.heap.size=g:=⟨_,rfl⟩
 have H1:=Lib.hid (show CN w m g ao ((w1.alloc (.cells #[.int .u64 0,.int .u64 0,.int .u64 0,.int .u64 0] 24)).setRow w1.heap.size (pw ao)) from by
  have h0:w.heap.size<w1.heap.size:=by have:=hb1.size;rw[World.size_alloc]at this;omega
  rw[<- hg];exact⟨below_setRow (((show Below w.heap.size w (w.alloc (.cells (pw m) 24)) from by go_grown).trans (hb1.mono υ)).alloc τ _) τ _,(setRow_other _ _ _ _ τ).trans ((((Below.refl w1.heap.size w1).alloc (Nat.le_refl _) _).block _ h0).trans ((hb1.block _ υ).trans (heap_alloc_new _ _))),setRow_heap _ _ _ _ _ _ (heap_alloc_new _ _),h0⟩)
 have HG:=Lib.hid (And.intro hg (heap_alloc_new w1 (.cells #[.int .u64 0,.int .u64 0,.int .u64 0,.int .u64 0] 24)));clear hb1 hg HNT
 go_wp2_with (refine wpList_store_row rfl 24 _ _ rfl w1.heap.size (pw ao) rfl rfl 24 (#[.int .u64 0,.int .u64 0,.int .u64 0,.int .u64 0]) (by exact HG.out.2) (by rw[A7];exact Ab) (by rw[A7];rfl) (Ag _) ?_)
 obtain⟨w2,hw2⟩:∃ w2,(w1.alloc (.cells #[.int .u64 0,.int .u64 0,.int .u64 0,.int .u64 0] 24)).setRow w1.heap.size (pw ao)=w2:=⟨_,rfl⟩
 rw[hw2]at H1 |-
 rw[HG.out.1];clear hw2 HG;refine BU (CN w m g ao) (fun i s wx=>match i with | 0=>s 7=(.agg (pw ao)) | 1=>s 8=(.agg (pw 1)) | 2=>s 9=(.agg (pw m)) | 3=>s 10=(.agg (pw so)) | 4=>∃ D,s 4=.pointer (some ⟨D,0,none⟩)/\(g+1)<=D/\∃ cs:Array Value,wx.heap[D]?=some (.cells cs 24 (0,0))/\cs.size=4 | 5=>∃ D,s 4=.pointer (some ⟨D,0,none⟩)/\(g+1)<=D/\wx.heap[D]?=some (.cells (FW so 24) 24 (0,0)) | _=>True) (RT (g+1) (FW so)) (fun i=>match i with | 0=>[7] | 1=>[8] | 2=>[9] | 3=>[10] | 4=>[4] | 5=>[4] | _=>[]) (fun i=>i) ω ω H1.out.drew ?_ ?_ ?_ ?_
 ·intro i s s' wx he hp
  match i,he,hp with
  | 0,he,hp=>exact(he 7 υ).symm.trans hp
  | 1,he,hp=>exact(he 8 υ).symm.trans hp
  | 2,he,hp=>exact(he 9 υ).symm.trans hp
  | 3,he,hp=>exact(he 10 υ).symm.trans hp
  | 4,he,hp=>obtain⟨D,h1,h2⟩:=hp;exact⟨D,(he 4 υ).symm.trans h1,h2⟩
  | 5,he,hp=>obtain⟨D,h1,h2⟩:=hp;exact⟨D,(he 4 υ).symm.trans h1,h2⟩
  | _+6,_,_=>trivial
 ·intro i s wa wb hR hp
  match i,hp with
  | 0,hp=>exact hp
  | 1,hp=>exact hp
  | 2,hp=>exact hp
  | 3,hp=>exact hp
  | 4,hp=>obtain⟨D,h1,h2,cs,h3,h4⟩:=hp;obtain⟨cs',h5,h6⟩:=hR.shape _ _ _ _ h3;exact⟨D,h1,h2,cs',h5,h6.trans h4⟩
  | 5,hp=>obtain⟨D,h1,h2,h3⟩:=hp;exact⟨D,h1,h2,hR.keep _ _ _ h3⟩
  | _+6,_=>trivial
 ·refine⟨?_,?_,?_,?_,?_,?_,trivial⟩
  ·intro a wx hC hsz hK
   have h0:a.tmps.getD 3 undef=(.pointer (some ⟨g,0,none⟩)):=hK.1 3 ω;exact Bj 24 (.tmp 3) ((.pointer (some ⟨g,0,none⟩))) ((.agg (pw ao))) rfl ω h0 (Ad hC.r1) hC (A8 _ _ _ (by rw[hsz];exact of_decide_eq_true ω)) (RT.refl _ _ _)
  ·intro a wx hC hsz hK
   refine Bf 70 #[(.int .u64 (1:Nat))] ω ω ?_;exact(FL 1 τ wx).mono fun e w' hh=>⟨_,hh.1,hC.below hh.2,(A8 _ _ _ (by rw[hsz];exact of_decide_eq_true ω)),RT.of hC.high hh.2⟩
  ·intro a wx hC hsz hK
   have h0:a.tmps.getD 1 undef=(.pointer (some ⟨w.heap.size,0,none⟩)):=hK.1 1 ω;exact Bj 24 (.tmp 1) ((.pointer (some ⟨w.heap.size,0,none⟩))) ((.agg (pw m))) rfl ω h0 (Ad hC.r0) hC (A8 _ _ _ (by rw[hsz];exact of_decide_eq_true ω)) (RT.refl _ _ _)
  ·intro a wx hC hsz hK
   have h0:a.tmps.getD 7 undef=(.agg (pw ao)):=hK.2 ⟨0,.data⟩ υ rfl _ rfl;have h1:a.tmps.getD 8 undef=(.agg (pw 1)):=hK.2 ⟨1,.data⟩ υ rfl _ rfl;have h2:a.tmps.getD 9 undef=(.agg (pw m)):=hK.2 ⟨2,.data⟩ υ rfl _ rfl;refine Bf 95 #[a.tmps.getD 7 undef,a.tmps.getD 8 undef,a.tmps.getD 9 undef] ω ω ?_;rw[h0,h1,h2];exact(HAM.out wx).mono fun e w' hh=>⟨_,hh.1,hC.below hh.2,(A8 _ _ _ (by rw[hsz];exact of_decide_eq_true ω)),RT.of hC.high hh.2⟩
  ·intro a wx hC hsz hK
   exact Ep (.pointer (some ⟨wx.heap.size,0,none⟩)) ω ω (hC.below ((Below.refl _ _).alloc (Nat.le_refl _) _)) ⟨_,(A8 _ _ _ (by rw[hsz];exact of_decide_eq_true ω)),hC.high,#[.int .u64 0,.int .u64 0,.int .u64 0,.int .u64 0],heap_alloc_new _ _,rfl⟩ (RT.of hC.high ((Below.refl _ _).alloc (Nat.le_refl _) _))
  ·intro a wx hC hsz hK
   obtain⟨D,h1,h2,cs,h3,h4⟩:=hK.2 ⟨4,.data⟩ υ rfl _ rfl;have h0:a.tmps.getD 10 undef=(.agg (pw so)):=hK.2 ⟨3,.data⟩ υ rfl _ rfl;exact BB ω rfl (run_store 24 (.tmp 4) (.tmp 10) _ _ rfl h1 h0 (BS h4 h3)) (hC.rowed h2) ⟨D,h1,h2,setRow_heap _ _ _ _ _ _ h3⟩ (RT.row h2 h3 (by rw[h4];rfl))
 intro f1 wx hC hf1;obtain⟨D,s4',hDl,hD⟩:=hf1 5 _ rfl;have H2:=Lib.hid (show CN w m D so wx from⟨hC.old,hC.r0,hD,by have:=hC.hg;omega⟩);clear hC hD hDl;generalize hAct:Aj _ _ _=G at *;have s1:G.tmps.getD 1 undef=.pointer (some ⟨w.heap.size,0,none⟩):=by subst hAct;kernel_rfl
 have s4c:G.tmps.getD 4 undef=.pointer (some ⟨D,0,none⟩):=s4';have hsz:G.tmps.size=22:=by rw[<- hAct,Az];rfl
 have hdf:G.defers=[]:=by subst hAct;kernel_rfl
 clear hAct hf1 s4' H1 HAM;obtain⟨u0,t0⟩:∃ u,G.tmps.getD 0 undef=u:=⟨_,rfl⟩
 obtain⟨u2,t2⟩:∃ u,G.tmps.getD 2 undef=u:=⟨_,rfl⟩
 obtain⟨u3,t3⟩:∃ u,G.tmps.getD 3 undef=u:=⟨_,rfl⟩
 obtain⟨u5,t5⟩:∃ u,G.tmps.getD 5 undef=u:=⟨_,rfl⟩
 obtain⟨u6,t6⟩:∃ u,G.tmps.getD 6 undef=u:=⟨_,rfl⟩
 obtain⟨u7,t7⟩:∃ u,G.tmps.getD 7 undef=u:=⟨_,rfl⟩
 obtain⟨u8,t8⟩:∃ u,G.tmps.getD 8 undef=u:=⟨_,rfl⟩
 obtain⟨u9,t9⟩:∃ u,G.tmps.getD 9 undef=u:=⟨_,rfl⟩
 obtain⟨u10,t10⟩:∃ u,G.tmps.getD 10 undef=u:=⟨_,rfl⟩
 obtain⟨u11,t11⟩:∃ u,G.tmps.getD 11 undef=u:=⟨_,rfl⟩
 obtain⟨u12,t12⟩:∃ u,G.tmps.getD 12 undef=u:=⟨_,rfl⟩
 obtain⟨u13,t13⟩:∃ u,G.tmps.getD 13 undef=u:=⟨_,rfl⟩
 obtain⟨u14,t14⟩:∃ u,G.tmps.getD 14 undef=u:=⟨_,rfl⟩
 obtain⟨u15,t15⟩:∃ u,G.tmps.getD 15 undef=u:=⟨_,rfl⟩
 obtain⟨u16,t16⟩:∃ u,G.tmps.getD 16 undef=u:=⟨_,rfl⟩
 obtain⟨u17,t17⟩:∃ u,G.tmps.getD 17 undef=u:=⟨_,rfl⟩
 obtain⟨u18,t18⟩:∃ u,G.tmps.getD 18 undef=u:=⟨_,rfl⟩
 obtain⟨u19,t19⟩:∃ u,G.tmps.getD 19 undef=u:=⟨_,rfl⟩
 obtain⟨u20,t20⟩:∃ u,G.tmps.getD 20 undef=u:=⟨_,rfl⟩
 obtain⟨u21,t21⟩:∃ u,G.tmps.getD 21 undef=u:=⟨_,rfl⟩
 obtain⟨tm,df⟩:=G;simp only at *;have hLt:=JE tm;rw[hsz]at hLt;simp only[List.range,List.range.loop,List.map]at hLt;rw[t0,s1,t2,t3,s4c,t5,t6,t7,t8,t9,t10,t11,t12,t13,t14,t15,t16,t17,t18,t19,t20,t21]at hLt;subst hLt hdf;clear t0 s1 t2 t3 s4c t5 t6 t7 t8 t9 t10 t11 t12 t13 t14 t15 t16 t17 t18 t19 t20 t21 hsz
 go_wp2_with fail
 refine Aa 10 (CN w m D so) ω ω (H2.out.drew) ?_;simp only[List.take_succ_cons,List.take_zero,List.drop_succ_cons,List.drop_zero]
 with_reducible refine Ac 24 (.tmp 1) (.pointer (some ⟨w.heap.size,0,none⟩)) (.agg #[.int .u64 ((pN m 0:Nat):Int),.int .u64 ((pN m 1:Nat):Int),.int .u64 ((pN m 2:Nat):Int),.int .u64 ((pN m 3:Nat):Int)]) rfl ω ω (fun _ c=>(by rw[<- pw4];exact Ad c.r0)) ?_
 with_reducible refine Am (Instr.indexAt 24 (.pointer (some ⟨w.heap.size,0,none⟩)) (.int .i64 (0:Nat))) (.pointer (some ⟨w.heap.size,0,none⟩)) ω ω (fun w' _=>by kernel_rfl) ?_
 with_reducible refine Ac 22 (.tmp 12) (.pointer (some ⟨w.heap.size,0,none⟩)) (.int .u64 (pN m 0:Nat)) rfl ω ω (fun _ c=>Dr _ _ _ _ ((cell_of_row _ _ 0 _ _ _ c.r0).trans (by rw[pw4];simp))) ?_
 with_reducible refine Ah 96 #[.int .u64 (pN m 0:Nat)] (.int .u64 (pin (pN m 0) 5:Nat)) ω (fun _=>by kernel_rfl) (fun wx c=>(HPI.out wx).mono fun e w' hh=>⟨hh.1,hh.2 ▸ c⟩) ?_
 with_reducible refine V5 .neg 22 (.tmp 14) (.int .u64 (pin (pN m 0) 5:Nat)) (.int .u64 (nin m:Nat)) rfl ω ω (fun w'=>A39 _ _ HNI.out HPL.out w') ?_
 with_reducible refine Ac 24 (.tmp 4) (.pointer (some ⟨D,0,none⟩)) (.agg (pw so)) rfl ω ω (fun _ c=>Ad c.r1) ?_
 with_reducible refine Ac 24 (.tmp 4) (.pointer (some ⟨D,0,none⟩)) (.agg (pw so)) rfl ω ω (fun _ c=>Ad c.r1) ?_
 with_reducible refine Ac 24 (.tmp 1) (.pointer (some ⟨w.heap.size,0,none⟩)) (.agg (pw m)) rfl ω ω (fun _ c=>Ad c.r0) ?_
 with_reducible refine Ah 97 #[.agg (pw so),.agg (pw so),.agg (pw m)] (.agg #[.int .u64 ((pN (sqr m) 0:Nat):Int),.int .u64 ((pN (sqr m) 1:Nat):Int),.int .u64 ((pN (sqr m) 2:Nat):Int),.int .u64 ((pN (sqr m) 3:Nat):Int)]) ω (fun _=>by kernel_rfl) (CN.calls HMM.out) ?_
 with_reducible refine q_val (.agg #[.int .u64 ((pN m 0:Nat):Int),.int .u64 ((pN m 1:Nat):Int),.int .u64 ((pN m 2:Nat):Int),.int .u64 ((pN m 3:Nat):Int),.int .u64 ((nin m:Nat):Int),.int .u64 ((pN (sqr m) 0:Nat):Int),.int .u64 ((pN (sqr m) 1:Nat):Int),.int .u64 ((pN (sqr m) 2:Nat):Int),.int .u64 ((pN (sqr m) 3:Nat):Int)]) ω (fun _ _=>by kernel_rfl) ?_
 with_reducible refine wpQuiet_nil ?_
 intro wx hC;have HC:=Lib.hid hC;clear hC H2;simp only[Act.put,List.setIfInBounds_toArray,List.set_cons_succ,List.set_cons_zero]
 go_wp2_with fail
 go_ret;exact⟨wx.heap.size,rfl,⟨by rw[Yn];exact heap_alloc_new _ _,HO.out.1,HO.out.2.1,HO.out.2.2⟩,HC.out.old.size,HC.out.old.alloc HC.out.old.size _⟩
open Go.RowKit
section
variable {P:Program} {ops:Array Oper} {C:World->Prop} {Q:Exit->Act->World->Prop}
theorem Ew:∀(l:List Oper) (a:Act) (w:World),C w->wpQuiet P ops C (fun a'=>∀ w',C w'->Q .normal a' w') l a->wpList P ops Q l a w
 | [],_,w,hC,h=>h w hC
 | o::l,a,w,hC,h=>by
  unfold wpQuiet at h;unfold wpList
  split
  ·rename_i hw
   rw[if_pos hw]at h;exact .inl (Oper.wp_of_quiet hC (fun a' w' hC' hK=>Ew l a' w' hC' hK) h)
  ·rename_i hw
   rw[if_neg hw]at h;exact Ew l _ w hC h
theorem F3{id:Nat}{l:List Oper}{a:Act}{w:World}(C:World->Prop)(hC:C w)(h:wpQuiet P l.toArray C (fun a'=>∀ w',C w'->Q .normal a' w') l a):(Code.region id l.toArray false).wp P Q a w :=
 wp_region_list (by simpa using Ew l a w hC (by simpa using h))
end
open Go.RowKit
theorem V6(a b:Nat)(ha:a<2^256)(hb:b<2^256):∀ w,(Op.equalIn 10000 24 (.agg (pw a)) (.agg (pw b))).run Tryz.prog w=.ok (decide (a=b)) w:=by
 obtain⟨x0,x1,x2,x3,u0,u1,u2,u3,ex,nx⟩:=Ai a;obtain⟨y0,y1,y2,y3,v0,v1,v2,v3,ey,ny⟩:=Ai b;rw[BR]at ex ey;rw[ex,ey];intro w;have h:=eqW x0 x1 x2 x3 y0 y1 y2 y3 w;have e:((x0 == y0)&&((x1 == y1)&&((x2 == y2)&&(x3 == y3))))=decide (a=b):=by
  rw[Nat.mod_eq_of_lt ha]at nx;rw[Nat.mod_eq_of_lt hb]at ny;rw[<- nx,<- ny,Bool.eq_iff_iff];simp only[Bool.and_eq_true,beq_iff_eq,decide_eq_true_eq];unfold n4;omega
 rw[e]at h;exact h
theorem LP(a b:Nat)(ha:a<2^256)(hb:b<2^256)(w:World):(binOp BinOp.eql 24 (.agg (pw a)) (.agg (pw b))).run Tryz.prog w=.ok (.bool (decide (a=b))) w:=by
 have h:=V6 a b ha hb;obtain⟨x0,x1,x2,x3,-,-,-,-,ex,-⟩:=Ai a;obtain⟨y0,y1,y2,y3,-,-,-,-,ey,-⟩:=Ai b;rw[BR]at ex ey;rw[ex,ey]at h |-
 go_simp
theorem J6(a b:Nat)(ha:a<2^256)(hb:b<2^256)(w:World):(binOp BinOp.neq 24 (.agg (pw a)) (.agg (pw b))).run Tryz.prog w=.ok (.bool (!decide (a=b))) w:=by
 have h:=V6 a b ha hb;obtain⟨x0,x1,x2,x3,-,-,-,-,ex,-⟩:=Ai a;obtain⟨y0,y1,y2,y3,-,-,-,-,ey,-⟩:=Ai b;rw[BR]at ex ey;rw[ex,ey]at h |-
 go_simp
structure CBm (w:World) (m:Nat) (wx:World):Prop where
 old:Below w.heap.size w wx
 r0:wx.heap[w.heap.size]?=some (.cells (pw m) 24 (0,0))
theorem CBm.below{w wx w':World}{m:Nat}(c:CBm w m wx)(hb:Below wx.heap.size wx w'):CBm w m w' :=
 ⟨c.old.trans (hb.mono c.old.size),(hb.block _ (Array.getElem?_eq_some_iff.1 c.r0).1).trans c.r0⟩
theorem CBm.drew{w wx:World}{m:Nat}(c:CBm w m wx):CBm w m wx.drew:=c.below (Below.drew (Below.refl _ _))
theorem CBm.start(w:World)(m:Nat):CBm w m (w.alloc (.cells (pw m) 24)):=⟨by go_grown,heap_alloc_new _ _⟩
theorem CBm.calls{w:World}{m:Nat}{f:FuncId}{args:Array Value}{v:Value}(h:∀ wx,Calls Tryz.prog f args wx fun e w'=>e=.returned v/\Below wx.heap.size wx w'):∀ wx,CBm w m wx->Calls Tryz.prog f args wx fun e w'=>e=.returned v/\CBm w m w' :=
 fun wx c=>(h wx).mono fun _ _ hh=>⟨hh.1,c.below hh.2⟩
open Go.RowKit
structure CG (w:World) (F m:Nat) (L:List (Nat × Array Value)) (wx:World):Prop where
 cw:CW w F m L wx
 grp:wx.heap[w.heap.size]?=some (.cells #[.pointer (some ⟨F,0,none⟩)] 53 (0,0))
theorem CG.below{w wx w':World}{F m:Nat}{L:List (Nat × Array Value)}(c:CG w F m L wx)(hb:Below wx.heap.size wx w'):CG w F m L w':=⟨c.cw.below hb,(hb.block _ (Array.getElem?_eq_some_iff.1 c.grp).1).trans c.grp⟩
theorem CG.drew{w wx:World}{F m:Nat}{L:List (Nat × Array Value)}(c:CG w F m L wx):CG w F m L wx.drew:=c.below (Below.drew (Below.refl _ _))
theorem CG.is{w wx:World}{F m:Nat}{L:List (Nat × Array Value)}(c:CG w F m L wx)(g:Nat)(cs:Array Value)(hm:(g,cs)∈L):wx.heap[g]?=some (.cells cs 24 (0,0)):=c.cw.rows _ hm
theorem CG.new{w wx:World}{F m:Nat}{L:List (Nat × Array Value)}(c:CG w F m L wx)(cs:Array Value):CG w F m ((wx.heap.size,cs)::L) (wx.alloc (.cells cs 24)) :=
 ⟨c.cw.new cs,(c.below ((Below.refl _ _).alloc (Nat.le_refl _) (.cells cs 24))).grp⟩
theorem CG.start{w:World}{F m:Nat}(h:FldAt w F m):CG w F m [] (w.alloc (.cells #[.pointer (some ⟨F,0,none⟩)] 53)):=⟨(CW.start h).below ((Below.refl _ _).alloc (Nat.le_refl _) _),heap_alloc_new _ _⟩
theorem CG.box{w:World}{F m:Nat}(h:FldAt w F m)(a:Nat):CG w F m [(w.heap.size+1,pw a)] ((w.alloc (.cells #[.pointer (some ⟨F,0,none⟩)] 53)).alloc (.cells (pw a) 24)):=by
 have:=(CG.start h).new (pw a);rwa [World.size_alloc]at this
theorem CG.one{w:World}{F m:Nat}(h:FldAt w F m)(a:Nat):CG w F m [(w.heap.size+1+1,#[.int .u64 0,.int .u64 0,.int .u64 0,.int .u64 0]),(w.heap.size+1,pw a)] (((w.alloc (.cells #[.pointer (some ⟨F,0,none⟩)] 53)).alloc (.cells (pw a) 24)).alloc (.cells (#[.int .u64 0,.int .u64 0,.int .u64 0,.int .u64 0]) 24)):=by
 have:=(CG.box h a).new (#[.int .u64 0,.int .u64 0,.int .u64 0,.int .u64 0]);rwa [World.size_alloc,World.size_alloc]at this
theorem CG.calls{w:World}{F m:Nat}{L:List (Nat × Array Value)}{f:FuncId}{args:Array Value}{v:Value}(h:∀ wx,FldAt wx F m->Calls Tryz.prog f args wx fun e w'=>e=.returned v/\Below wx.heap.size wx w'):∀ wx,CG w F m L wx->Calls Tryz.prog f args wx fun e w'=>e=.returned v/\CG w F m L w' :=
 fun wx c=>(h wx c.cw.fld).mono fun _ _ hh=>⟨hh.1,c.below hh.2⟩
theorem LQ(g:Nat)(w:World):(Instr.fieldAt 53 (.pointer (some ⟨g,0,none⟩)) 0).run Tryz.prog w=.ok (.pointer (some ⟨g,0,none⟩)) w:=by kernel_rfl
theorem LU{w:World}{g F:Nat}(h:w.heap[g]?=some (.cells #[.pointer (some ⟨F,0,none⟩)] 53 (0,0))):(Instr.loadAt 51 (.pointer (some ⟨g,0,none⟩))).run Tryz.prog w=.ok (.pointer (some ⟨F,0,none⟩)) w:=by
 have c0:w.cell? ⟨g,0,none⟩=some (.pointer (some ⟨F,0,none⟩)):=cell_of_row _ _ 0 _ _ _ h
 go_simp
theorem NG(F m a:Nat)(ha:a<2^256)(w:World)(hF:FldAt w F m):Calls Tryz.prog 46 #[.agg #[.pointer (some ⟨F,0,none⟩)],.agg (pw a)] w fun r w'=>r=.returned (.agg (pw ((a*a%m*a%m+7)%m)))/\Below w.heap.size w w':=by
 have hm:=hF.lt;have hb:=hF.big;have H0:=Lib.hid (CG.one hF a);have HM1:=Lib.hid (fun wx (c:FldAt wx F m)=>Ee F m a a ha ha wx c);obtain⟨x,hx⟩:∃ x,a*a%m=x:=⟨_,rfl⟩
 have hxl:x<2^256:=by rw[<- hx];exact Nat.lt_trans (Nat.mod_lt _ τ) hm
 rw[hx]at HM1 |-
 have HM2:=Lib.hid (fun wx (c:FldAt wx F m)=>Ee F m x a hxl ha wx c);obtain⟨y,hy⟩:∃ y,x*a%m=y:=⟨_,rfl⟩
 have hyl:y<2^256:=by rw[<- hy];exact Nat.lt_trans (Nat.mod_lt _ τ) hm
 rw[hy]at HM2 |-
 have HAD:=Lib.hid (fun wx (c:FldAt wx F m)=>NA F m y 7 hyl τ wx c);obtain⟨z,hz⟩:∃ z,(y+7)%m=z:=⟨_,rfl⟩
 rw[hz]at HAD |-
 clear hF ha hm hb hx hxl hy hyl hz;go_enter Tryz.func46,Tryz.ntmps46
 go_wp2_with fail
 refine Aa 13 (CG w F m [(w.heap.size+1+1,#[.int .u64 0,.int .u64 0,.int .u64 0,.int .u64 0]),(w.heap.size+1,pw a)]) ω ω (H0.out.drew) ?_;simp only[List.take_succ_cons,List.take_zero,List.drop_succ_cons,List.drop_zero]
 with_reducible refine Am (Instr.fieldAt 53 (.pointer (some ⟨w.heap.size,0,none⟩)) 0) (.pointer (some ⟨w.heap.size,0,none⟩)) ω ω (fun w' _=>LQ _ w') ?_
 with_reducible refine Ac 51 (.tmp 5) (.pointer (some ⟨w.heap.size,0,none⟩)) (.pointer (some ⟨F,0,none⟩)) rfl ω ω (fun _ c=>LU c.grp) ?_
 with_reducible refine Am (Instr.fieldAt 53 (.pointer (some ⟨w.heap.size,0,none⟩)) 0) (.pointer (some ⟨w.heap.size,0,none⟩)) ω ω (fun w' _=>LQ _ w') ?_
 with_reducible refine Ac 51 (.tmp 7) (.pointer (some ⟨w.heap.size,0,none⟩)) (.pointer (some ⟨F,0,none⟩)) rfl ω ω (fun _ c=>LU c.grp) ?_
 with_reducible refine Am (Instr.fieldAt 53 (.pointer (some ⟨w.heap.size,0,none⟩)) 0) (.pointer (some ⟨w.heap.size,0,none⟩)) ω ω (fun w' _=>LQ _ w') ?_
 with_reducible refine Ac 51 (.tmp 9) (.pointer (some ⟨w.heap.size,0,none⟩)) (.pointer (some ⟨F,0,none⟩)) rfl ω ω (fun _ c=>LU c.grp) ?_
 with_reducible refine Ac 24 (.tmp 3) (.pointer (some ⟨w.heap.size+1,0,none⟩)) (.agg (pw a)) rfl ω ω (fun _ c=>Ad (c.is _ _ υ)) ?_
 with_reducible refine Ac 24 (.tmp 3) (.pointer (some ⟨w.heap.size+1,0,none⟩)) (.agg (pw a)) rfl ω ω (fun _ c=>Ad (c.is _ _ υ)) ?_
 with_reducible refine Ah 72 #[.pointer (some ⟨F,0,none⟩),.agg (pw a),.agg (pw a)] (.agg (pw x)) ω (fun _=>by kernel_rfl) (CG.calls HM1.out) ?_
 with_reducible refine Ac 24 (.tmp 3) (.pointer (some ⟨w.heap.size+1,0,none⟩)) (.agg (pw a)) rfl ω ω (fun _ c=>Ad (c.is _ _ υ)) ?_
 with_reducible refine Ah 72 #[.pointer (some ⟨F,0,none⟩),.agg (pw x),.agg (pw a)] (.agg (pw y)) ω (fun _=>by kernel_rfl) (CG.calls HM2.out) ?_
 with_reducible refine Ah 70 #[.int .u64 (7:Nat)] (.agg (pw 7)) ω (fun _=>by kernel_rfl) (CG.calls (fun wx _=>FL 7 τ wx)) ?_
 with_reducible refine Ah 74 #[.pointer (some ⟨F,0,none⟩),.agg (pw y),.agg (pw 7)] (.agg (pw z)) ω (fun _=>by kernel_rfl) (CG.calls HAD.out) ?_
 with_reducible refine wpQuiet_nil ?_
 intro wx hC;have HC:=Lib.hid hC;clear hC H0 HM1 HM2 HAD;simp only[Act.put,List.setIfInBounds_toArray,List.set_cons_succ,List.set_cons_zero]
 go_wp2_with (refine wpList_store_row rfl 24 _ _ rfl (w.heap.size+1+1) (pw z) rfl rfl 24 (#[.int .u64 0,.int .u64 0,.int .u64 0,.int .u64 0]) (by exact HC.out.is _ _ υ) (by rw[A7];exact Ab) (by first | rfl | (rw[A7];rfl) | (rw[A7,A7])) (Ag _) ?_)
 (try simp only[Act.put])
 refine bodyPost_ret (v:=.agg (pw z)) (results_cell_row (p:=4) rfl _ _ (w.heap.size+1+1) 24 (pw z) (0,0) _ rfl (setRow_heap _ _ _ _ _ _ (by exact HC.out.is _ (#[.int .u64 0,.int .u64 0,.int .u64 0,.int .u64 0]) υ)) Tryz.underlying24 rfl (by rw[A7];exact Ab)) rfl ⟨rfl,below_setRow HC.out.cw.old τ _⟩
theorem Pq(F m a:Nat)(ha:a<2^256)(w:World)(hF:FldAt w F m):Calls Tryz.prog 47 #[.agg #[.pointer (some ⟨F,0,none⟩)],.agg (pw a)] w fun r w'=>r=.returned (.bool (decide (a<m)))/\Below w.heap.size w w':=by
 have hm:=hF.lt;have h0:0<m:=by have:=hF.big;omega
 have H0:=Lib.hid (CG.box hF a);have HOF:=Lib.hid (fun wx (c:FldAt wx F m)=>GJ F m a ha wx c);have HD:decide (a%m=a)=decide (a<m):=by
  rw[decide_eq_decide];exact⟨fun h=>by rw[<- h];exact Nat.mod_lt _ h0,fun h=>Nat.mod_eq_of_lt h⟩
 have HEQ:=Lib.hid (fun wx=>LP (a%m) a (Nat.lt_trans (Nat.mod_lt _ h0) hm) ha wx);rw[HD]at HEQ;obtain⟨x,hx⟩:∃ x,a%m=x:=⟨_,rfl⟩
 obtain⟨b,hb⟩:∃ b,decide (a<m)=b:=⟨_,rfl⟩
 rw[hx]at HOF HEQ;rw[hb]at HEQ |-
 clear hF ha hm h0 hx hb HD;go_enter Tryz.func47,Tryz.ntmps47
 go_wp2_with fail
 refine wp_region_quiet (C:=CG w F m [(w.heap.size+1,pw a)]) ω ω (H0.out.drew) ?_;simp only
 with_reducible refine Am (Instr.fieldAt 53 (.pointer (some ⟨w.heap.size,0,none⟩)) 0) (.pointer (some ⟨w.heap.size,0,none⟩)) ω ω (fun w' _=>LQ _ w') ?_
 with_reducible refine Ac 51 (.tmp 5) (.pointer (some ⟨w.heap.size,0,none⟩)) (.pointer (some ⟨F,0,none⟩)) rfl ω ω (fun _ c=>LU c.grp) ?_
 with_reducible refine Ac 24 (.tmp 3) (.pointer (some ⟨w.heap.size+1,0,none⟩)) (.agg (pw a)) rfl ω ω (fun _ c=>Ad (c.is _ _ υ)) ?_
 with_reducible refine Ah 73 #[.pointer (some ⟨F,0,none⟩),.agg (pw a)] (.agg (pw x)) ω (fun _=>by kernel_rfl) (CG.calls HOF.out) ?_
 with_reducible refine Ac 24 (.tmp 3) (.pointer (some ⟨w.heap.size+1,0,none⟩)) (.agg (pw a)) rfl ω ω (fun _ c=>Ad (c.is _ _ υ)) ?_
 with_reducible refine Ce .eql 24 _ _ 24 (.agg (pw x)) (.agg (pw a)) (.bool b) rfl ω ω ω (fun _=>by kernel_rfl) (fun w'=>HEQ.out w') ?_
 with_reducible refine q_val (.bool b) ω (fun _ _=>by kernel_rfl) ?_
 with_reducible refine wpQuiet_nil ?_
 intro wx hC;have HC:=Lib.hid hC;clear hC H0 HOF HEQ;simp only[Act.put,List.setIfInBounds_toArray,List.set_cons_succ,List.set_cons_zero]
 go_wp2_with fail
 go_ret;exact⟨rfl,HC.out.cw.old⟩
end Go.Proofs.YtphafjbajlcbnaaGreat
