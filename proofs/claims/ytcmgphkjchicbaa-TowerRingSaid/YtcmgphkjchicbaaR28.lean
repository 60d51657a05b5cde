/- Regions in the text's order, whose operations read, reckon, and call functions that make memory: XQ's laws serve them too. No program is named here. (Cut to what is reached, written closely: SyW · FPin · FNeg · FMdl · QL.) -/
import Derived.Test.YtcmgphkjchicbaaR27
import Derived.Test.YtcmgphkjchicbaaR19
import Derived.Test.YtcmgphkjchicbaaR2
set_option linter.all false
set_option maxRecDepth 100000
set_option maxHeartbeats 8000000
namespace Go.Proofs.Ytcmgphkjchicbaa.Sy
open Go.RowKit
def Tr.diag:Tr->Tr
 | .need (.same g _) t=>.need (.same g g) t.diag
 | .need (.eq x _) t=>.need (.eq x x) t.diag
 | .need p t=>.need p t.diag
 | .br b t f=>.br b t.diag f.diag
 | t=>t
inductive Sh
 | leaf (r:SV)
 | br (b:Bool) (t f:Sh)
 | need (p:Prop) (t:Sh)
 | cut (d:Nat)
 | loop (d:Nat)
 | bad
def Tr.shape:Tr->Sh
 | .leaf r=>.leaf r
 | .br b t f=>.br b t.shape f.shape
 | .need (.same _ _) t=>t.shape
 | .need (.eq _ _) t=>t.shape
 | .need (.ask p) t=>.need p t.shape
 | .cut d _=>.cut d
 | .loop d _ _=>.loop d
 | .bad=>.bad
def Tr.on:List Bool->Tr->Tr
 | b::l,.br _ t f=>match b with
  | true=>Tr.on l t
  | false=>Tr.on l f
 | l,.need _ t=>Tr.on l t
 | _,t=>t
def Sh.wp(Q:Post)(L:List Bool->Prop):Sh->Prop
 | .leaf r=>Q.leaf r
 | .br b t f=>(b=true->t.wp Q fun l=>L (true::l))/\(b=false->f.wp Q fun l=>L (false::l))
 | .need p t=>p/\t.wp Q L
 | .cut _=>L []
 | .loop _=>L []
 | .bad=>False
theorem wp_of_shape{base:Nat}{Q:Post}:∀ {T:Tr} {L:List Bool->Prop},T=T.diag->T.shape.wp Q L->(∀ l,L l->(T.on l).wp base Q)->T.wp base Q
 | .leaf r,_,_,h,_=>h
 | .br b t f,L,hd,h,hL=>by
  have h1:t=t.diag:=by injection hd
  have h2:f=f.diag:=by injection hd
  exact⟨fun e=>wp_of_shape h1 (h.1 e) fun l hl=>hL (true::l) hl,fun e=>wp_of_shape h2 (h.2 e) fun l hl=>hL (false::l) hl⟩
 | .need (.same g g') t,L,hd,h,hL=>by
  have h1:Tr.need (.same g g') t=.need (.same g g) t.diag:=hd;injection h1 with h2 h3
  injection h2 with _ h4
  refine⟨fun hg=>h4 ▸ hg,wp_of_shape h3 h fun l hl=>?_⟩;have:=hL l hl;cases l <;> exact this
 | .need (.eq g g') t,L,hd,h,hL=>by
  have h1:Tr.need (.eq g g') t=.need (.eq g g) t.diag:=hd;injection h1 with h2 h3
  injection h2 with _ h4
  refine⟨h4.symm,wp_of_shape h3 h fun l hl=>?_⟩;have:=hL l hl;cases l <;> exact this
 | .need (.ask p) t,L,hd,h,hL=>by
  have h1:Tr.need (.ask p) t=.need (.ask p) t.diag:=hd;injection h1 with _ h3
  refine⟨h.1,wp_of_shape h3 h.2 fun l hl=>?_⟩;have:=hL l hl;cases l <;> exact this
 | .cut d s,L,_,h,hL=>hL [] h
 | .loop d s b,L,_,h,hL=>hL [] h
 | .bad,_,_,h,_=>h.elim
def walk(E:Env)(hd:Nat->Nat)(fn:Func)(args:List SV):Tr:=exec E fn.ntmps hd (fn.body.getD .skip) 0 0 ⟨argsX args 0,[],E.base⟩ (finX E fn.results)
theorem calls_sh{E:Env}{γ0:Pl}{w0:World}{Q:SV->Prop}(G:E.Good γ0 w0)(mx:E.P.follows .mixedOrders=true)(hd:Nat->Nat){f:FuncId}{fn:Func}(hf:E.P.funcs[f]?=some fn)(hb:fn.body.isSome=true)(args:List SV)(ha:∀ x∈args,x.ok/\x.lt E.base=true)(hn:decide (args.length<=fn.ntmps)=true)
  (hD:walk E hd fn args=(walk E hd fn args).diag) (Z:Sh) (hZ:(walk E hd fn args).shape=Z) (hW:Z.wp ⟨Q,fun _ _=>False⟩ fun l=>((walk E hd fn args).on l).wp E.base ⟨Q,fun _ _=>False⟩):Calls E.P f (args.map (·.val γ0)).toArray w0 fun e w'=>∃ r,Q r/\e=.returned (r.val γ0)/\Below w0.heap.size w0 w':=by
 obtain⟨c,hc⟩:=Option.isSome_iff_exists.1 hb;have e:fn.body.getD .skip=c:=by rw[hc];rfl
 exact calls_of G mx hd hf hc args ha (of_decide_eq_true hn) rfl (Q:=⟨Q,fun _ _=>False⟩) (by rw[<- e];exact wp_of_shape hD (hZ ▸ hW) fun _ h=>h)
def okAll(base:Nat):List SV->Prop
 | []=>True
 | x::l=>(x.ok/\x.lt base=true)/\okAll base l
theorem okAll_mem{base:Nat}:∀ {l:List SV},okAll base l->∀ x∈l,x.ok/\x.lt base=true
 | [],_,x,h=>by cases h
 | y::l,ha,x,h=>by
  rcases List.mem_cons.1 h with rfl | h
  ·exact ha.1
  ·exact okAll_mem ha.2 x h
theorem calls_at{E:Env}{γ0:Pl}{w0:World}{V:Value}(G:E.Good γ0 w0)(mx:E.P.follows .mixedOrders=true)(hd:Nat->Nat){f:FuncId}{fn:Func}(hf:E.P.funcs[f]?=some fn)(hb:fn.body.isSome=true)(args:List SV)(ha:okAll E.base args)(hn:decide (args.length<=fn.ntmps)=true)
  (hD:walk E hd fn args=(walk E hd fn args).diag) (Z:Sh) (hZ:(walk E hd fn args).shape=Z) (hW:Z.wp ⟨fun r=>r.val γ0=V,fun _ _=>False⟩ fun l=>((walk E hd fn args).on l).wp E.base ⟨fun r=>r.val γ0=V,fun _ _=>False⟩):Calls E.P f (args.map (·.val γ0)).toArray w0 fun e w'=>e=.returned V/\Below w0.heap.size w0 w' :=
 (calls_sh G mx hd hf hb args (okAll_mem ha) hn hD Z hZ hW).mono fun _ _ ⟨_,h1,h2,h3⟩=>⟨by rw[h2,h1],h3⟩
end Go.Proofs.Ytcmgphkjchicbaa.Sy
namespace Go.Proofs.Ytcmgphkjchicbaa
open Go.RowKit
-- WHAT partInverse COMES TO.
theorem pinv_any(p:Nat)(hp:p<18446744073709551616)(w:World):Calls Try.prog 71 #[.int .u64 (p:Nat)] w fun e w'=>e=.returned (.int .u64 (pin p 5:Nat))/\w=w':=by
 have HP:=Lib.hid hp;clear hp;go_enter Try.func71,Try.ntmps71
 go_wp2_with fail
 go_loopw [3,5] (fun v iv wr=>∃ k:Nat,k<=5/\iv=.int .i64 k/\v=.int .u64 (pin p k:Nat)/\w=wr) (fun _ iv _=>5 - (intOf iv).toNat)
 case atStart=>exact⟨0,by omega,rfl,rfl,rfl⟩
 case round =>
  obtain⟨k,hk,rfl,rfl,rfl⟩:=hrel;have hk0:(0:Int)<=k:=by omega
  by_cases hlt:k<5
  ·have hlt':(k:Int)<5:=by omega
   have hxl:=pin_lt p k HP.out;have HX:=Lib.hid (show pin p (k+1)=nst p (pin p k) from rfl);obtain⟨x,hx⟩:∃ x,pin p k=x:=⟨_,rfl⟩
   rw[hx]at hxl HX |-
   obtain⟨y,hy⟩:∃ y,p*x%18446744073709551616=y:=⟨_,rfl⟩
   obtain⟨z,hz⟩:∃ z,(18446744073709551616+2 - y)%18446744073709551616=z:=⟨_,rfl⟩
   obtain⟨u,hu⟩:∃ u,x*z%18446744073709551616=u:=⟨_,rfl⟩
   have h1:IntKind.u64.wrap ((p:Int)*x)=(y:Int):=by rw[IntKind.wrap_u64];omega
   have hyl:y<18446744073709551616:=by rw[<- hy];exact Nat.mod_lt _ (by omega)
   have h2:IntKind.u64.wrap (2 - (y:Int))=(z:Int):=by rw[IntKind.wrap_u64,<- hz];omega
   have h3:IntKind.u64.wrap ((x:Int)*z)=(u:Int):=by rw[IntKind.wrap_u64];omega
   have HU:=Lib.hid (show pin p (k+1)=u from by rw[HX.out];unfold nst;rw[hy,hz,hu]);have HK:=Lib.hid hlt;clear hx HX hy hz hu hyl hxl hlt hk
   go_wp2_with fail
   go_roundw
   case rel=>exact⟨k+1,by have:=HK.out;omega,by go_num,by rw[HU.out],trivial⟩
   case measure=>have:=HK.out;simp[intOf];omega
  ·obtain rfl:k=5:=by omega
   have hlt':¬((5:Nat):Int)<5:=by omega
   simp only[Int.cast_ofNat_Int]
   go_wp2_with fail
   go_ret;exact⟨rfl,rfl⟩
open Go.RowKit
theorem pw_zero:pw 0=#[.int .u64 0,.int .u64 0,.int .u64 0,.int .u64 0]:=by kernel_rfl
-- WHAT Neg COMES TO.
theorem fneg_any(F m a:Nat)(ha:a<115792089237316195423570985008687907853269984665640564039457584007913129639936)(w:World)(hF:FldAt w F m):Calls Try.prog 18 #[.pointer (some ⟨F,0,none⟩),.agg (pw a)] w fun e w'=>e=.returned (.agg (pw ((0%m+(m - a%m))%m)))/\Below w.heap.size w w':=by
 have H0:=Lib.hid (CW.one hF a);have HT:=Lib.hid (CW.calls (w:=w) (F:=F) (m:=m) (L:=[(w.heap.size+1,#[.int .u64 0,.int .u64 0,.int .u64 0,.int .u64 0]),(w.heap.size,pw a)]) (fun wx hf=>fsub_any F m 0 a (by omega) ha wx hf));rw[pw_zero]at HT;obtain⟨y,hy⟩:∃ y,(0%m+(m - a%m))%m=y:=⟨_,rfl⟩
 rw[hy]at HT |-
 clear hy hF ha;go_enter Try.func18,Try.ntmps18
 go_wp2_with (refine wpList_ld rfl 24 _ rfl (.pointer (some ⟨w.heap.size,0,none⟩)) (.agg (pw a)) rfl (ld_pw (by exact H0.out.is _ _ (by simp))) ?_)
 refine(HT.out _ H0.out).mono ?_;rintro e w5 ⟨rfl,c⟩;have HC:=Lib.hid c;clear c HT H0
 go_wp2_with (refine wpList_store_row rfl 24 _ _ rfl (w.heap.size+1) (pw y) rfl rfl 24 (#[.int .u64 0,.int .u64 0,.int .u64 0,.int .u64 0]) (by exact HC.out.is _ _ (by simp)) (by rw[pw_size];exact infoW4) (by first | rfl | (rw[pw_size];rfl) | (rw[pw_size,pw_size])) (pw_one _) ?_)
 (try simp only[Act.put])
 refine bodyPost_ret (v:=.agg (pw y)) (results_cell_row (p:=4) rfl _ _ (w.heap.size+1) 24 (pw y) (0,0) _ rfl (setRow_heap _ _ _ _ _ _ (by exact HC.out.is _ (#[.int .u64 0,.int .u64 0,.int .u64 0,.int .u64 0]) (by simp))) Try.underlying24 rfl (by rw[pw_size];exact infoW4)) rfl ⟨rfl,below_setRow HC.out.old (by omega) _⟩
open Go.RowKit
theorem arr_lit4(t:Array Value):t=((List.range t.size).map fun i=>t.getD i undef).toArray:=by
 apply Array.ext
 ·simp
 ·intro i h1 h2
  simp[Array.getD,h1]
structure CN (w:World) (m g a:Nat) (wx:World):Prop where
 old:Below w.heap.size w wx
 r0:wx.heap[w.heap.size]?=some (.cells (pw m) 24 (0,0))
 r1:wx.heap[g]?=some (.cells (pw a) 24 (0,0))
 hg:w.heap.size<g
theorem CN.high{w wx:World}{m g a:Nat}(c:CN w m g a wx):g+1<=wx.heap.size:=(Array.getElem?_eq_some_iff.1 c.r1).1
theorem CN.below{w wx w':World}{m g a:Nat}(c:CN w m g a wx)(hb:Below wx.heap.size wx w'):CN w m g a w' :=
 ⟨c.old.trans (hb.mono c.old.size),(hb.block _ (Array.getElem?_eq_some_iff.1 c.r0).1).trans c.r0,(hb.block _ (Array.getElem?_eq_some_iff.1 c.r1).1).trans c.r1,c.hg⟩
theorem CN.drew{w wx:World}{m g a:Nat}(c:CN w m g a wx):CN w m g a wx.drew:=c.below (Below.drew (Below.refl _ _))
theorem CN.rowed{w wx:World}{m g a D:Nat}{cs:Array Value}(c:CN w m g a wx)(hD:g+1<=D):CN w m g a (wx.setRow D cs):=by
 have:=c.hg;exact⟨below_setRow c.old (by omega) _,(setRow_other _ _ _ _ (by omega)).trans c.r0,(setRow_other _ _ _ _ (by omega)).trans c.r1,c.hg⟩
theorem CN.calls{w:World}{m g a:Nat}{f:FuncId}{args:Array Value}{v:Value}(h:∀ wx,Calls Try.prog f args wx fun e w'=>e=.returned v/\Below wx.heap.size wx w'):∀ wx,CN w m g a wx->Calls Try.prog f args wx fun e w'=>e=.returned v/\CN w m g a w' :=
 fun wx c=>(h wx).mono fun _ _ hh=>⟨hh.1,c.below hh.2⟩
theorem q_un4{P:Program}{ops:Array Oper}{C:World->Prop}{Q:Act->Prop}{a:Act}{o:Oper}{rest:List Oper}(op:UnOp)(T:TypeId)(x:Operand)(u r:Value)(ho:o.op=.unOp op T x)(hw:Region.wanted o (yielded ops a.tmps)=true)(hx:a.eval x=u)
  (hb:∀ w,(Op.unary op u).run P w=.ok r w) (h:wpQuiet P ops C Q rest (a.put o.dst r)):wpQuiet P ops C Q (o::rest) a :=
 q_val r hw (fun w hC=>by
  unfold execOp;rw[ho];simp only[hx,Sem.run_bind,hb w,Result.andThen_ok,Sem.run_pure]) h
def FW(y:Nat)(_:TypeId):Array Value:=pw y
theorem sq_ones(m:Nat):(2^256 - 1 - 0+1)%m*((2^256 - 1 - 0+1)%m)%m=sqr m:=by
 unfold sqr;rw[show(2^256) - 1 - 0+1=2^256 from rfl,<- Nat.mul_mod]
theorem neg_u(a b:Nat)(h:(18446744073709551616 - a)%18446744073709551616=b)(hl:a<18446744073709551616)(w:World):(Op.unary .neg (.int .u64 (a:Nat))).run Try.prog w=.ok (.int .u64 (b:Nat)) w:=by
 have e:IntKind.u64.wrap (-(a:Int))=(b:Int):=by rw[IntKind.wrap_u64];omega
 go_simp
theorem pN0(m:Nat):pN m 0=m%18446744073709551616:=by unfold pN;simp
theorem frw_lit{m:Nat}:ar .u64 9 (fun j=>((frw m j:Nat):Int))=#[.int .u64 ((pN m 0:Nat):Int),.int .u64 ((pN m 1:Nat):Int),.int .u64 ((pN m 2:Nat):Int),.int .u64 ((pN m 3:Nat):Int),.int .u64 ((nin m:Nat):Int),.int .u64 ((pN (sqr m) 0:Nat):Int),.int .u64 ((pN (sqr m) 1:Nat):Int),.int .u64 ((pN (sqr m) 2:Nat):Int),.int .u64 ((pN (sqr m) 3:Nat):Int)]:=by
 kernel_rfl
theorem pw4(x:Nat):pw x=#[.int .u64 ((pN x 0:Nat):Int),.int .u64 ((pN x 1:Nat):Int),.int .u64 ((pN x 2:Nat):Int),.int .u64 ((pN x 3:Nat):Int)]:=by
 rw[pw_ar];kernel_rfl
-- WHAT modulo COMES TO.
theorem modulo_any(m:Nat)(ho:m%2=1)(h1:1<m)(hm:m<2^256)(w:World):Calls Try.prog 35 #[.agg (pw m)] w fun e w'=>∃ F,e=.returned (.pointer (some ⟨F,0,none⟩))/\FldAt w' F m/\w.heap.size<=F/\Below w.heap.size w w':=by
 have HNT:=Lib.hid (fun wx=>not_pw 0 (by omega) wx);rw[pw_zero]at HNT;have HO:=Lib.hid (And.intro ho (And.intro h1 hm));obtain⟨ao,ha⟩:∃ ao,2^256 - 1 - 0=ao:=⟨_,rfl⟩
 have hal:ao<2^256:=by omega
 rw[ha]at HNT;obtain⟨so,hs⟩:∃ so,(ao+1)%m=so:=⟨_,rfl⟩
 have hsl:so<2^256:=by rw[<- hs];exact Nat.lt_trans (Nat.mod_lt _ (by omega)) hm
 have HAM:=Lib.hid (fun wx=>addmod_pw ao 1 m hal (by omega) (by omega) hm wx);rw[hs]at HAM;have HMM:=Lib.hid (fun wx=>mulmod_pw so so m hsl hsl (by omega) hm wx);rw[<- hs,<- ha,sq_ones,ha,hs]at HMM;rw[pw4 (sqr m)]at HMM;have HPI:=Lib.hid (fun wx=>pinv_any (pN m 0) (pN_lt m 0) wx);have HNI:=Lib.hid (show(18446744073709551616 - pin (pN m 0) 5)%18446744073709551616=nin m from by unfold nin;rw[pN0 m]);have HPL:=Lib.hid (pin_lt (pN m 0) 5 (pN_lt m 0));clear ho h1 hm hal hsl ha hs;go_enter Try.func35,Try.ntmps35
 go_wp2_with fail
 refine(HNT.out _).mono ?_;rintro e w1 ⟨rfl,hb1⟩;obtain⟨g,hg⟩:∃ g,w1.heap.size=g:=⟨_,rfl⟩
 have H1:=Lib.hid (show CN w m g ao ((w1.alloc (.cells #[.int .u64 0,.int .u64 0,.int .u64 0,.int .u64 0] 24)).setRow w1.heap.size (pw ao)) from by
  have h0:w.heap.size<w1.heap.size:=by have:=hb1.size;rw[World.size_alloc]at this;omega
  rw[<- hg];exact⟨below_setRow (((show Below w.heap.size w (w.alloc (.cells (pw m) 24)) from by go_grown).trans (hb1.mono (by simp))).alloc (by omega) _) (by omega) _,(setRow_other _ _ _ _ (by omega)).trans ((((Below.refl w1.heap.size w1).alloc (Nat.le_refl _) _).block _ h0).trans ((hb1.block _ (by simp)).trans (heap_alloc_new _ _))),setRow_heap _ _ _ _ _ _ (heap_alloc_new _ _),h0⟩)
 have HG:=Lib.hid (And.intro hg (heap_alloc_new w1 (.cells #[.int .u64 0,.int .u64 0,.int .u64 0,.int .u64 0] 24)));clear hb1 hg HNT
 go_wp2_with (refine wpList_store_row rfl 24 _ _ rfl w1.heap.size (pw ao) rfl rfl 24 (#[.int .u64 0,.int .u64 0,.int .u64 0,.int .u64 0]) (by exact HG.out.2) (by rw[pw_size];exact infoW4) (by rw[pw_size];rfl) (pw_one _) ?_)
 obtain⟨w2,hw2⟩:∃ w2,(w1.alloc (.cells #[.int .u64 0,.int .u64 0,.int .u64 0,.int .u64 0] 24)).setRow w1.heap.size (pw ao)=w2:=⟨_,rfl⟩
 rw[hw2]at H1 |-
 rw[HG.out.1];clear hw2 HG;refine region_tie (CN w m g ao) (fun i s wx=>match i with | 0=>s 7=(.agg (pw ao)) | 1=>s 8=(.agg (pw 1)) | 2=>s 9=(.agg (pw m)) | 3=>s 10=(.agg (pw so)) | 4=>∃ D,s 4=.pointer (some ⟨D,0,none⟩)/\(g+1)<=D/\∃ cs:Array Value,wx.heap[D]?=some (.cells cs 24 (0,0))/\cs.size=4 | 5=>∃ D,s 4=.pointer (some ⟨D,0,none⟩)/\(g+1)<=D/\wx.heap[D]?=some (.cells (FW so 24) 24 (0,0)) | _=>True) (RT (g+1) (FW so)) (fun i=>match i with | 0=>[7] | 1=>[8] | 2=>[9] | 3=>[10] | 4=>[4] | 5=>[4] | _=>[]) (fun i=>i) (by kernel_rfl) (by kernel_rfl) H1.out.drew ?_ ?_ ?_ ?_
 ·intro i s s' wx he hp
  match i,he,hp with
  | 0,he,hp=>exact(he 7 (by simp)).symm.trans hp
  | 1,he,hp=>exact(he 8 (by simp)).symm.trans hp
  | 2,he,hp=>exact(he 9 (by simp)).symm.trans hp
  | 3,he,hp=>exact(he 10 (by simp)).symm.trans hp
  | 4,he,hp=>obtain⟨D,h1,h2⟩:=hp;exact⟨D,(he 4 (by simp)).symm.trans h1,h2⟩
  | 5,he,hp=>obtain⟨D,h1,h2⟩:=hp;exact⟨D,(he 4 (by simp)).symm.trans h1,h2⟩
  | _+6,_,_=>trivial
 ·intro i s wa wb hR hp
  match i,hp with
  | 0,hp=>exact hp
  | 1,hp=>exact hp
  | 2,hp=>exact hp
  | 3,hp=>exact hp
  | 4,hp=>obtain⟨D,h1,h2,cs,h3,h4⟩:=hp;obtain⟨cs',h5,h6⟩:=hR.shape _ _ _ _ h3;exact⟨D,h1,h2,cs',h5,h6.trans h4⟩
  | 5,hp=>obtain⟨D,h1,h2,h3⟩:=hp;exact⟨D,h1,h2,hR.keep _ _ _ h3⟩
  | _+6,_=>trivial
 ·refine⟨?_,?_,?_,?_,?_,?_,trivial⟩
  ·intro a wx hC hsz hK
   have h0:a.tmps.getD 3 undef=(.pointer (some ⟨g,0,none⟩)):=hK.1 3 (by kernel_rfl);exact tt_load 24 (.tmp 3) ((.pointer (some ⟨g,0,none⟩))) ((.agg (pw ao))) rfl (by kernel_rfl) h0 (ld_pw hC.r1) hC (slots_put _ _ _ (by rw[hsz];exact of_decide_eq_true (by kernel_rfl))) (RT.refl _ _ _)
  ·intro a wx hC hsz hK
   refine tt_call 34 #[(.int .u64 (1:Nat))] (by kernel_rfl) (by kernel_rfl) ?_;exact(of_wv 1 (by omega) wx).mono fun e w' hh=>⟨_,hh.1,hC.below hh.2,(slots_put _ _ _ (by rw[hsz];exact of_decide_eq_true (by kernel_rfl))),RT.of hC.high hh.2⟩
  ·intro a wx hC hsz hK
   have h0:a.tmps.getD 1 undef=(.pointer (some ⟨w.heap.size,0,none⟩)):=hK.1 1 (by kernel_rfl);exact tt_load 24 (.tmp 1) ((.pointer (some ⟨w.heap.size,0,none⟩))) ((.agg (pw m))) rfl (by kernel_rfl) h0 (ld_pw hC.r0) hC (slots_put _ _ _ (by rw[hsz];exact of_decide_eq_true (by kernel_rfl))) (RT.refl _ _ _)
  ·intro a wx hC hsz hK
   have h0:a.tmps.getD 7 undef=(.agg (pw ao)):=hK.2 ⟨0,.data⟩ (by simp) rfl _ rfl;have h1:a.tmps.getD 8 undef=(.agg (pw 1)):=hK.2 ⟨1,.data⟩ (by simp) rfl _ rfl;have h2:a.tmps.getD 9 undef=(.agg (pw m)):=hK.2 ⟨2,.data⟩ (by simp) rfl _ rfl;refine tt_call 70 #[a.tmps.getD 7 undef,a.tmps.getD 8 undef,a.tmps.getD 9 undef] (by kernel_rfl) (by kernel_rfl) ?_;rw[h0,h1,h2];exact(HAM.out wx).mono fun e w' hh=>⟨_,hh.1,hC.below hh.2,(slots_put _ _ _ (by rw[hsz];exact of_decide_eq_true (by kernel_rfl))),RT.of hC.high hh.2⟩
  ·intro a wx hC hsz hK
   exact tt_new (.pointer (some ⟨wx.heap.size,0,none⟩)) (by kernel_rfl) (by kernel_rfl) (hC.below ((Below.refl _ _).alloc (Nat.le_refl _) _)) ⟨_,(slots_put _ _ _ (by rw[hsz];exact of_decide_eq_true (by kernel_rfl))),hC.high,#[.int .u64 0,.int .u64 0,.int .u64 0,.int .u64 0],heap_alloc_new _ _,rfl⟩ (RT.of hC.high ((Below.refl _ _).alloc (Nat.le_refl _) _))
  ·intro a wx hC hsz hK
   obtain⟨D,h1,h2,cs,h3,h4⟩:=hK.2 ⟨4,.data⟩ (by simp) rfl _ rfl;have h0:a.tmps.getD 10 undef=(.agg (pw so)):=hK.2 ⟨3,.data⟩ (by simp) rfl _ rfl;exact tt_store (by kernel_rfl) rfl (run_store 24 (.tmp 4) (.tmp 10) _ _ rfl h1 h0 (store_w h4 h3)) (hC.rowed h2) ⟨D,h1,h2,setRow_heap _ _ _ _ _ _ h3⟩ (RT.row h2 h3 (by rw[h4];rfl))
 intro f1 wx hC hf1;obtain⟨D,s4',hDl,hD⟩:=hf1 5 _ rfl;have H2:=Lib.hid (show CN w m D so wx from⟨hC.old,hC.r0,hD,by have:=hC.hg;omega⟩);clear hC hD hDl;generalize hAct:putAll _ _ _=G at *;have s1:G.tmps.getD 1 undef=.pointer (some ⟨w.heap.size,0,none⟩):=by subst hAct;kernel_rfl
 have s4c:G.tmps.getD 4 undef=.pointer (some ⟨D,0,none⟩):=s4';have hsz:G.tmps.size=22:=by rw[<- hAct,putAll_size];rfl
 have hdf:G.defers=[]:=by subst hAct;kernel_rfl
 clear hAct hf1 s4' H1 HAM;obtain⟨u0,t0⟩:∃ u,G.tmps.getD 0 undef=u:=⟨_,rfl⟩
 obtain⟨u2,t2⟩:∃ u,G.tmps.getD 2 undef=u:=⟨_,rfl⟩
 obtain⟨u3,t3⟩:∃ u,G.tmps.getD 3 undef=u:=⟨_,rfl⟩
 obtain⟨u5,t5⟩:∃ u,G.tmps.getD 5 undef=u:=⟨_,rfl⟩
 obtain⟨u6,t6⟩:∃ u,G.tmps.getD 6 undef=u:=⟨_,rfl⟩
 obtain⟨u7,t7⟩:∃ u,G.tmps.getD 7 undef=u:=⟨_,rfl⟩
 obtain⟨u8,t8⟩:∃ u,G.tmps.getD 8 undef=u:=⟨_,rfl⟩
 obtain⟨u9,t9⟩:∃ u,G.tmps.getD 9 undef=u:=⟨_,rfl⟩
 obtain⟨u10,t10⟩:∃ u,G.tmps.getD 10 undef=u:=⟨_,rfl⟩
 obtain⟨u11,t11⟩:∃ u,G.tmps.getD 11 undef=u:=⟨_,rfl⟩
 obtain⟨u12,t12⟩:∃ u,G.tmps.getD 12 undef=u:=⟨_,rfl⟩
 obtain⟨u13,t13⟩:∃ u,G.tmps.getD 13 undef=u:=⟨_,rfl⟩
 obtain⟨u14,t14⟩:∃ u,G.tmps.getD 14 undef=u:=⟨_,rfl⟩
 obtain⟨u15,t15⟩:∃ u,G.tmps.getD 15 undef=u:=⟨_,rfl⟩
 obtain⟨u16,t16⟩:∃ u,G.tmps.getD 16 undef=u:=⟨_,rfl⟩
 obtain⟨u17,t17⟩:∃ u,G.tmps.getD 17 undef=u:=⟨_,rfl⟩
 obtain⟨u18,t18⟩:∃ u,G.tmps.getD 18 undef=u:=⟨_,rfl⟩
 obtain⟨u19,t19⟩:∃ u,G.tmps.getD 19 undef=u:=⟨_,rfl⟩
 obtain⟨u20,t20⟩:∃ u,G.tmps.getD 20 undef=u:=⟨_,rfl⟩
 obtain⟨u21,t21⟩:∃ u,G.tmps.getD 21 undef=u:=⟨_,rfl⟩
 obtain⟨tm,df⟩:=G;simp only at *;have hLt:=arr_lit4 tm;rw[hsz]at hLt;simp only[List.range,List.range.loop,List.map]at hLt;rw[t0,s1,t2,t3,s4c,t5,t6,t7,t8,t9,t10,t11,t12,t13,t14,t15,t16,t17,t18,t19,t20,t21]at hLt;subst hLt hdf;clear t0 s1 t2 t3 s4c t5 t6 t7 t8 t9 t10 t11 t12 t13 t14 t15 t16 t17 t18 t19 t20 t21 hsz
 go_wp2_with fail
 refine region_quiet_tail 10 (CN w m D so) (by kernel_rfl) (by kernel_rfl) (H2.out.drew) ?_;simp only[List.take_succ_cons,List.take_zero,List.drop_succ_cons,List.drop_zero]
 with_reducible refine q_load 24 (.tmp 1) (.pointer (some ⟨w.heap.size,0,none⟩)) (.agg #[.int .u64 ((pN m 0:Nat):Int),.int .u64 ((pN m 1:Nat):Int),.int .u64 ((pN m 2:Nat):Int),.int .u64 ((pN m 3:Nat):Int)]) rfl (by kernel_rfl) (by kernel_rfl) (fun _ c=>(by rw[<- pw4];exact ld_pw c.r0)) ?_
 with_reducible refine q_sem2 (Instr.indexAt 24 (.pointer (some ⟨w.heap.size,0,none⟩)) (.int .i64 (0:Nat))) (.pointer (some ⟨w.heap.size,0,none⟩)) (by kernel_rfl) (by kernel_rfl) (fun w' _=>by kernel_rfl) ?_
 with_reducible refine q_load 22 (.tmp 12) (.pointer (some ⟨w.heap.size,0,none⟩)) (.int .u64 (pN m 0:Nat)) rfl (by kernel_rfl) (by kernel_rfl) (fun _ c=>load_u64 _ _ _ _ ((cell_of_row _ _ 0 _ _ _ c.r0).trans (by rw[pw4];simp))) ?_
 with_reducible refine q_call 71 #[.int .u64 (pN m 0:Nat)] (.int .u64 (pin (pN m 0) 5:Nat)) (by kernel_rfl) (fun _=>by kernel_rfl) (fun wx c=>(HPI.out wx).mono fun e w' hh=>⟨hh.1,hh.2 ▸ c⟩) ?_
 with_reducible refine q_un4 .neg 22 (.tmp 14) (.int .u64 (pin (pN m 0) 5:Nat)) (.int .u64 (nin m:Nat)) rfl (by kernel_rfl) (by kernel_rfl) (fun w'=>neg_u _ _ HNI.out HPL.out w') ?_
 with_reducible refine q_load 24 (.tmp 4) (.pointer (some ⟨D,0,none⟩)) (.agg (pw so)) rfl (by kernel_rfl) (by kernel_rfl) (fun _ c=>ld_pw c.r1) ?_
 with_reducible refine q_load 24 (.tmp 4) (.pointer (some ⟨D,0,none⟩)) (.agg (pw so)) rfl (by kernel_rfl) (by kernel_rfl) (fun _ c=>ld_pw c.r1) ?_
 with_reducible refine q_load 24 (.tmp 1) (.pointer (some ⟨w.heap.size,0,none⟩)) (.agg (pw m)) rfl (by kernel_rfl) (by kernel_rfl) (fun _ c=>ld_pw c.r0) ?_
 with_reducible refine q_call 72 #[.agg (pw so),.agg (pw so),.agg (pw m)] (.agg #[.int .u64 ((pN (sqr m) 0:Nat):Int),.int .u64 ((pN (sqr m) 1:Nat):Int),.int .u64 ((pN (sqr m) 2:Nat):Int),.int .u64 ((pN (sqr m) 3:Nat):Int)]) (by kernel_rfl) (fun _=>by kernel_rfl) (CN.calls HMM.out) ?_
 with_reducible refine q_val (.agg #[.int .u64 ((pN m 0:Nat):Int),.int .u64 ((pN m 1:Nat):Int),.int .u64 ((pN m 2:Nat):Int),.int .u64 ((pN m 3:Nat):Int),.int .u64 ((nin m:Nat):Int),.int .u64 ((pN (sqr m) 0:Nat):Int),.int .u64 ((pN (sqr m) 1:Nat):Int),.int .u64 ((pN (sqr m) 2:Nat):Int),.int .u64 ((pN (sqr m) 3:Nat):Int)]) (by kernel_rfl) (fun _ _=>by kernel_rfl) ?_
 with_reducible refine wpQuiet_nil ?_
 intro wx hC;have HC:=Lib.hid hC;clear hC H2;simp only[Act.put,List.setIfInBounds_toArray,List.set_cons_succ,List.set_cons_zero]
 go_wp2_with fail
 go_ret;exact⟨wx.heap.size,rfl,⟨by rw[frw_lit];exact heap_alloc_new _ _,HO.out.1,HO.out.2.1,HO.out.2.2⟩,HC.out.old.size,HC.out.old.alloc HC.out.old.size _⟩
open Go.RowKit
section
variable {P:Program} {ops:Array Oper} {C:World->Prop} {Q:Exit->Act->World->Prop}
theorem wpList_quiet:∀(l:List Oper) (a:Act) (w:World),C w->wpQuiet P ops C (fun a'=>∀ w',C w'->Q .normal a' w') l a->wpList P ops Q l a w
 | [],_,w,hC,h=>h w hC
 | o::l,a,w,hC,h=>by
  unfold wpQuiet at h;unfold wpList
  split
  ·rename_i hw
   rw[if_pos hw]at h;exact .inl (Oper.wp_of_quiet hC (fun a' w' hC' hK=>wpList_quiet l a' w' hC' hK) h)
  ·rename_i hw
   rw[if_neg hw]at h;exact wpList_quiet l _ w hC h
theorem q_region{id:Nat}{l:List Oper}{a:Act}{w:World}(C:World->Prop)(hC:C w)(h:wpQuiet P l.toArray C (fun a'=>∀ w',C w'->Q .normal a' w') l a):(Code.region id l.toArray false).wp P Q a w :=
 wp_region_list (by simpa using wpList_quiet l a w hC (by simpa using h))
end
end Go.Proofs.Ytcmgphkjchicbaa
