/- What word.divideStep comes to, called with a rest and a divisor that has its highest bit, in two blocks: the quotient's part, and the rest. (Cut to what is reached, written closely: FCl · FScl · Div64 · DivW · Guess · Give · StepNum · Step.) -/
import Derived.Test.YtcmgphkjchicbaaR4
import Derived.WalkKit
import Derived.Test.YtcmgphkjchicbaaR1
import Derived.Deep.LoopGhost
import Derived.BigQuiet
import Derived.Lib.Hide
import Derived.Deep.QuietTactic
import Derived.Lib.ItoaNum
import Derived.Laws.Bits64b
import Derived.Test.YtcmgphkjchicbaaR2
set_option linter.all false
set_option maxRecDepth 100000
set_option maxHeartbeats 8000000
namespace Go.Proofs.Ytcmgphkjchicbaa
open Go.RowKit
structure CW (w:World) (F m:Nat) (L:List (Nat × Array Value)) (wx:World):Prop where
 old:Below w.heap.size w wx
 fld:FldAt wx F m
 hF:F<w.heap.size
 rows:∀ p∈L,wx.heap[p.1]?=some (.cells p.2 24 (0,0))
theorem CW.is{w wx:World}{F m:Nat}{L:List (Nat × Array Value)}(c:CW w F m L wx)(g:Nat)(cs:Array Value)(hm:(g,cs)∈L):wx.heap[g]?=some (.cells cs 24 (0,0)):=c.rows _ hm
theorem CW.below{w wx w':World}{F m:Nat}{L:List (Nat × Array Value)}(c:CW w F m L wx)(hb:Below wx.heap.size wx w'):CW w F m L w' :=
 ⟨c.old.trans (hb.mono c.old.size),c.fld.below hb,c.hF,fun p hp=>(hb.block _ (Array.getElem?_eq_some_iff.1 (c.rows p hp)).1).trans (c.rows p hp)⟩
theorem CW.drew{w wx:World}{F m:Nat}{L:List (Nat × Array Value)}(c:CW w F m L wx):CW w F m L wx.drew:=c.below (Below.drew (Below.refl _ _))
theorem CW.new{w wx:World}{F m:Nat}{L:List (Nat × Array Value)}(c:CW w F m L wx)(cs:Array Value):CW w F m ((wx.heap.size,cs)::L) (wx.alloc (.cells cs 24)):=by
 have h:=c.below ((Below.refl _ _).alloc (Nat.le_refl _) (.cells cs 24));refine⟨h.old,h.fld,h.hF,fun p hp=>?_⟩;rcases List.mem_cons.1 hp with rfl | hp
 ·exact heap_alloc_new _ _
 ·exact h.rows p hp
theorem CW.put{w wx:World}{F m:Nat}{L:List (Nat × Array Value)}(c:CW w F m L wx)(g:Nat)(c0 cs:Array Value)(L':List (Nat × Array Value))(hg:w.heap.size<=g)(hm:(g,c0)∈L)(hs:∀ p∈L',p∈L/\p.1≠g):CW w F m ((g,cs)::L') (wx.setRow g cs):=by
 have h2:=c.hF;refine⟨below_setRow c.old hg _,⟨(setRow_other _ _ _ _ (by omega)).trans c.fld.row,c.fld.odd,c.fld.big,c.fld.lt⟩,c.hF,fun p hp=>?_⟩;rcases List.mem_cons.1 hp with rfl | hp
 ·exact setRow_heap _ _ _ _ _ _ (c.rows _ hm)
 ·exact(setRow_other _ _ _ _ (hs p hp).2).trans (c.rows p (hs p hp).1)
theorem CW.start{w:World}{F m:Nat}(h:FldAt w F m):CW w F m [] w:=⟨Below.refl _ _,h,h.less,fun p hp=>by cases hp⟩
theorem CW.one{w:World}{F m:Nat}(h:FldAt w F m)(a:Nat):CW w F m [(w.heap.size+1,#[.int .u64 0,.int .u64 0,.int .u64 0,.int .u64 0]),(w.heap.size,pw a)] ((w.alloc (.cells (pw a) 24)).alloc (.cells #[.int .u64 0,.int .u64 0,.int .u64 0,.int .u64 0] 24)):=by
 have:=((CW.start h).new (pw a)).new #[.int .u64 0,.int .u64 0,.int .u64 0,.int .u64 0];rwa [World.size_alloc]at this
theorem CW.two{w:World}{F m:Nat}(h:FldAt w F m)(a b:Nat):CW w F m [(w.heap.size+1+1,#[.int .u64 0,.int .u64 0,.int .u64 0,.int .u64 0]),(w.heap.size+1,pw b),(w.heap.size,pw a)] (((w.alloc (.cells (pw a) 24)).alloc (.cells (pw b) 24)).alloc (.cells #[.int .u64 0,.int .u64 0,.int .u64 0,.int .u64 0] 24)):=by
 have:=(((CW.start h).new (pw a)).new (pw b)).new #[.int .u64 0,.int .u64 0,.int .u64 0,.int .u64 0];rwa [World.size_alloc,World.size_alloc]at this
theorem CW.calls{w:World}{F m:Nat}{L:List (Nat × Array Value)}{f:FuncId}{args:Array Value}{v:Value}(h:∀ wx,FldAt wx F m->Calls Try.prog f args wx fun e w'=>e=.returned v/\Below wx.heap.size wx w'):∀ wx,CW w F m L wx->Calls Try.prog f args wx fun e w'=>e=.returned v/\CW w F m L w' :=
 fun wx c=>(h wx c.fld).mono fun _ _ hh=>⟨hh.1,c.below hh.2⟩
theorem prod_lt{a b c m:Nat}(ha:a<c)(hb:b<m):a*b<c*m:=by
 have h1:a*b<=c*b:=Nat.mul_le_mul_right b (Nat.le_of_lt ha);have h2:c*b<c*m:=Nat.mul_lt_mul_of_pos_left hb (by omega);omega
open Go.RowKit
theorem sqr_lt{m:Nat}(h:1<m):sqr m<m:=Nat.mod_lt _ (by omega)
-- WHAT scaled COMES TO.
theorem scaled_any(F m a:Nat)(ha:a<2^256)(w:World)(hF:FldAt w F m):Calls Try.prog 45 #[.pointer (some ⟨F,0,none⟩),.agg (pw a)] w fun e w'=>e=.returned (.agg (pw (a*2^256%m)))/\Below w.heap.size w w':=by
 have H0:=Lib.hid (CW.one hF a);have HT:=Lib.hid (CW.calls (w:=w) (F:=F) (m:=m) (L:=[(w.heap.size+1,#[.int .u64 0,.int .u64 0,.int .u64 0,.int .u64 0]),(w.heap.size,pw a)]) (fun wx hf=>times_any F m a (sqr m) ha (Nat.lt_trans (sqr_lt hf.big) hf.lt) (prod_lt ha (sqr_lt hf.big)) wx hf));have HQ:=Lib.hid (show mnt m a (sqr m)=a*2^256%m from mnt_scaled hF.odd hF.big a);clear hF ha;rw[HQ.out]at HT;obtain⟨y,hy⟩:∃ y,a*2^256%m=y:=⟨_,rfl⟩
 rw[hy]at HT |-
 clear hy HQ;go_enter Try.func45,Try.ntmps45
 go_wp2_with fail
 refine region_quiet_tail 7 (CW w F m [(w.heap.size+1,#[.int .u64 0,.int .u64 0,.int .u64 0,.int .u64 0]),(w.heap.size,pw a)]) (by kernel_rfl) (by kernel_rfl) (H0.out.drew) ?_;simp only[List.take_succ_cons,List.take_zero,List.drop_succ_cons,List.drop_zero]
 with_reducible refine q_val (.pointer (some ⟨F,0,none⟩)) (by kernel_rfl) (fun _ _=>by kernel_rfl) ?_
 with_reducible refine q_load 24 (.tmp 3) (.pointer (some ⟨w.heap.size,0,none⟩)) (.agg (pw a)) rfl (by kernel_rfl) (by kernel_rfl) (fun _ c=>ld_pw (c.is _ _ (by simp))) ?_
 with_reducible refine q_val (.pointer (some ⟨F,0,none⟩)) (by kernel_rfl) (fun _ _=>by kernel_rfl) ?_
 with_reducible refine q_val (.pointer (some ⟨F,0,none⟩)) (by kernel_rfl) (fun _ _=>run_nil (.tmp 7) _ rfl (by kernel_rfl)) ?_
 with_reducible refine q_sem2 (Instr.fieldAt 54 (.pointer (some ⟨F,0,none⟩)) 2) (.pointer (some ⟨F,5,none⟩)) (by kernel_rfl) (by kernel_rfl) (fun w' _=>fld_sq F w') ?_
 with_reducible refine q_load 24 (.tmp 9) (.pointer (some ⟨F,5,none⟩)) (.agg (pw (sqr m))) rfl (by kernel_rfl) (by kernel_rfl) (fun _ c=>ld_sq c.fld) ?_
 with_reducible refine q_call 44 #[.pointer (some ⟨F,0,none⟩),.agg (pw a),.agg (pw (sqr m))] (.agg (pw y)) (by kernel_rfl) (fun _=>by kernel_rfl) (HT.out) ?_
 with_reducible refine wpQuiet_nil ?_
 intro wx hC;have HC:=Lib.hid hC;clear hC H0 HT;simp only[Act.put,List.setIfInBounds_toArray,List.set_cons_succ,List.set_cons_zero]
 go_wp2_with (refine wpList_store_row rfl 24 _ _ rfl (w.heap.size+1) (pw y) rfl rfl 24 (#[.int .u64 0,.int .u64 0,.int .u64 0,.int .u64 0]) (by exact HC.out.is _ _ (by simp)) (by rw[pw_size];exact infoW4) (by first | rfl | (rw[pw_size];rfl) | (rw[pw_size,pw_size])) (pw_one _) ?_)
 (try simp only[Act.put])
 refine bodyPost_ret (v:=.agg (pw y)) (results_cell_row (p:=4) rfl _ _ (w.heap.size+1) 24 (pw y) (0,0) _ rfl (setRow_heap _ _ _ _ _ _ (by exact HC.out.is _ (#[.int .u64 0,.int .u64 0,.int .u64 0,.int .u64 0]) (by simp))) Try.underlying24 rfl (by rw[pw_size];exact infoW4)) rfl ⟨rfl,below_setRow HC.out.old (by omega) _⟩
-- WHAT Mul COMES TO.
theorem fmul_any(F m a b:Nat)(ha:a<2^256)(hb:b<2^256)(w:World)(hF:FldAt w F m):Calls Try.prog 16 #[.pointer (some ⟨F,0,none⟩),.agg (pw a),.agg (pw b)] w fun e w'=>e=.returned (.agg (pw (a*b%m)))/\Below w.heap.size w w':=by
 have H0:=Lib.hid (CW.two hF a b);have HSC:=Lib.hid (CW.calls (w:=w) (F:=F) (m:=m) (L:=[(w.heap.size+1+1,#[.int .u64 0,.int .u64 0,.int .u64 0,.int .u64 0]),(w.heap.size+1,pw b),(w.heap.size,pw a)]) (fun wx hf=>scaled_any F m a ha wx hf));have hlt:a*2^256%m<m:=Nat.mod_lt _ (by have:=hF.big;omega);have HT:=Lib.hid (CW.calls (w:=w) (F:=F) (m:=m) (L:=[(w.heap.size+1+1,#[.int .u64 0,.int .u64 0,.int .u64 0,.int .u64 0]),(w.heap.size+1,pw b),(w.heap.size,pw a)]) (fun wx hf=>times_any F m (a*2^256%m) b (Nat.lt_trans hlt hf.lt) hb (by rw[Nat.mul_comm];exact prod_lt hb hlt) wx hf));rw[mnt_back hF.odd hF.big a b]at HT;obtain⟨y,hy⟩:∃ y,a*b%m=y:=⟨_,rfl⟩
 obtain⟨z,hz⟩:∃ z,a*2^256%m=z:=⟨_,rfl⟩
 rw[hy]at HT |-
 rw[hz]at HT HSC;clear hF ha hb hlt hy hz;go_enter Try.func16,Try.ntmps16
 go_wp2_with fail
 refine region_quiet_tail 6 (CW w F m [(w.heap.size+1+1,#[.int .u64 0,.int .u64 0,.int .u64 0,.int .u64 0]),(w.heap.size+1,pw b),(w.heap.size,pw a)]) (by kernel_rfl) (by kernel_rfl) (H0.out.drew) ?_;simp only[List.take_succ_cons,List.take_zero,List.drop_succ_cons,List.drop_zero]
 with_reducible refine q_val (.pointer (some ⟨F,0,none⟩)) (by kernel_rfl) (fun _ _=>by kernel_rfl) ?_
 with_reducible refine q_val (.pointer (some ⟨F,0,none⟩)) (by kernel_rfl) (fun _ _=>by kernel_rfl) ?_
 with_reducible refine q_load 24 (.tmp 4) (.pointer (some ⟨w.heap.size,0,none⟩)) (.agg (pw a)) rfl (by kernel_rfl) (by kernel_rfl) (fun _ c=>ld_pw (c.is _ _ (by simp))) ?_
 with_reducible refine q_call 45 #[.pointer (some ⟨F,0,none⟩),.agg (pw a)] (.agg (pw z)) (by kernel_rfl) (fun _=>by kernel_rfl) (HSC.out) ?_
 with_reducible refine q_load 24 (.tmp 5) (.pointer (some ⟨w.heap.size+1,0,none⟩)) (.agg (pw b)) rfl (by kernel_rfl) (by kernel_rfl) (fun _ c=>ld_pw (c.is _ _ (by simp))) ?_
 with_reducible refine q_call 44 #[.pointer (some ⟨F,0,none⟩),.agg (pw z),.agg (pw b)] (.agg (pw y)) (by kernel_rfl) (fun _=>by kernel_rfl) (HT.out) ?_
 with_reducible refine wpQuiet_nil ?_
 intro wx hC;have HC:=Lib.hid hC;clear hC H0 HT HSC;simp only[Act.put,List.setIfInBounds_toArray,List.set_cons_succ,List.set_cons_zero]
 go_wp2_with (refine wpList_store_row rfl 24 _ _ rfl (w.heap.size+1+1) (pw y) rfl rfl 24 (#[.int .u64 0,.int .u64 0,.int .u64 0,.int .u64 0]) (by exact HC.out.is _ _ (by simp)) (by rw[pw_size];exact infoW4) (by first | rfl | (rw[pw_size];rfl) | (rw[pw_size,pw_size])) (pw_one _) ?_)
 (try simp only[Act.put])
 refine bodyPost_ret (v:=.agg (pw y)) (results_cell_row (p:=6) rfl _ _ (w.heap.size+1+1) 24 (pw y) (0,0) _ rfl (setRow_heap _ _ _ _ _ _ (by exact HC.out.is _ (#[.int .u64 0,.int .u64 0,.int .u64 0,.int .u64 0]) (by simp))) Try.underlying24 rfl (by rw[pw_size];exact infoW4)) rfl ⟨rfl,below_setRow HC.out.old (by omega) _⟩
open Go.RowKit
theorem quot_of{A y q:Nat}(hy:0<y)(h1:q*y<=A)(h2:A / y<=q):q=A / y :=
 Nat.le_antisymm ((Nat.le_div_iff_mul_le hy).2 h1) h2
structure Half (y1 y0 v u q r:Nat):Prop where
 split:q*y1+r=v
 least:(v*4294967296+u) / (4294967296*y1+y0)<=q
 most:q<=4294967297
 rest:r<4294967296
section
variable {y1 y0 v u q r:Nat} (h31:2147483648<=y1) (h32:y1<4294967296) (hy0:y0<4294967296) (hu:u<4294967296)
include h31 h32 hy0 hu
theorem Half.start(hv:v<4294967296*y1+y0):Half y1 y0 v u (v / y1) (v%y1):=by
 have hpos:0<y1:=by omega
 have hd:=Nat.div_add_mod v y1;have hm:=Nat.mod_lt v hpos;refine⟨by rw[Nat.mul_comm];exact hd,?_,?_,by omega⟩
 ·have hlt:v*4294967296+u<(v / y1+1)*(4294967296*y1+y0):=by
   have h1:v+1<=(v / y1+1)*y1:=by rw[Nat.add_mul,Nat.one_mul,Nat.mul_comm];omega
   have h2:(v+1)*4294967296<=(v / y1+1)*y1*4294967296:=Nat.mul_le_mul_right _ h1;have h3:(v / y1+1)*(4294967296*y1+y0)=(v / y1+1)*y1*4294967296+(v / y1+1)*y0:=by grind
   omega
  have:(v*4294967296+u) / (4294967296*y1+y0)<v / y1+1:=by rw[Nat.div_lt_iff_lt_mul (by omega)];exact hlt
  omega
 ·have:v / y1<4294967298:=by rw[Nat.div_lt_iff_lt_mul hpos];omega
  omega
omit hu in
theorem Half.fits(h:Half y1 y0 v u q r)(h2:q*y0<=4294967296*r+u):q=(v*4294967296+u) / (4294967296*y1+y0):=by
 refine quot_of (by omega) ?_ h.least;have h3:q*(4294967296*y1+y0)=(q*y1)*4294967296+q*y0:=by grind
 have h4:=h.split;omega
omit h31 h32 hy0 in
theorem Half.less(h:Half y1 y0 v u q r)(hv:v<4294967296*y1+y0)(ht:4294967296<=q\/4294967296*r+u<q*y0):(v*4294967296+u) / (4294967296*y1+y0)<q:=by
 rcases ht with ht | ht
 ·refine Nat.lt_of_lt_of_le ?_ ht
  rw[Nat.div_lt_iff_lt_mul (by omega)];omega
 ·rw[Nat.div_lt_iff_lt_mul (by omega)]
  have h3:q*(4294967296*y1+y0)=(q*y1)*4294967296+q*y0:=by grind
  have h4:=h.split;omega
omit h31 h32 hy0 in
theorem Half.down{p:Nat}(h:Half y1 y0 v u (p+1) r)(hv:v<4294967296*y1+y0)(ht:4294967296<=p+1\/4294967296*r+u<(p+1)*y0)(hr:r+y1<4294967296):Half y1 y0 v u p (r+y1):=by
 have hl:=h.less hu hv ht;have h4:=h.split;have h5:=h.most;exact⟨by rw[Nat.add_mul]at h4;omega,by omega,by omega,hr⟩
omit h31 h32 in
theorem Half.ends{p:Nat}(h:Half y1 y0 v u (p+1) r)(hv:v<4294967296*y1+y0)(ht:4294967296<=p+1\/4294967296*r+u<(p+1)*y0)(hr:4294967296<=r+y1):p=(v*4294967296+u) / (4294967296*y1+y0):=by
 have hl:=h.less hu hv ht;have h4:=h.split;have h5:=h.most;refine quot_of (by omega) ?_ (by omega);have h3:p*(4294967296*y1+y0)=(p*y1)*4294967296+p*y0:=by grind
 have h6:p*y0<=4294967296*4294967295:=Nat.mul_le_mul (by omega) (by omega);rw[Nat.add_mul]at h4;omega
omit h31 h32 hy0 in
theorem Half.pos(h:Half y1 y0 v u q r)(hv:v<4294967296*y1+y0)(ht:4294967296<=q\/4294967296*r+u<q*y0):0<q:=by
 exact Nat.lt_of_le_of_lt (Nat.zero_le _) (h.less hu hv ht)
end
theorem halves{y hi u1 u0:Nat}(hy:0<y) :
  (hi*4294967296+u1) / y*4294967296+((hi*4294967296+u1)%y*4294967296+u0) / y=(hi*18446744073709551616+(u1*4294967296+u0)) / y:=by
 have hd:=Nat.div_add_mod (hi*4294967296+u1) y;have e:hi*18446744073709551616+(u1*4294967296+u0)=(hi*4294967296+u1)*4294967296+u0:=by omega
 rw[e];have e2:(hi*4294967296+u1)*4294967296+u0=y*((hi*4294967296+u1) / y*4294967296)+((hi*4294967296+u1)%y*4294967296+u0):=by
  have:(hi*4294967296+u1)*4294967296=(y*((hi*4294967296+u1) / y)+(hi*4294967296+u1)%y)*4294967296:=by rw[hd]
  rw[this]
  grind
 rw[e2,Nat.mul_add_div hy]
open Go.RowKit
def DivPost(q:Nat)(w:World)(e:Ending)(w':World):Prop:=(∃ r:Int,e=.returned (.tuple #[.int .u64 (q:Int),.int .u64 r]))/\w=w'
theorem divpost_mk{q:Nat}{z r:Int}{w:World}(h:z=(q:Int)):DivPost q w (.returned (.tuple #[.int .u64 z,.int .u64 r])) w:=⟨⟨r,by rw[h]⟩,rfl⟩
theorem div64_fin{hi lo y y1 y0 u1 u0 P Q:Nat}(hy:y=4294967296*y1+y0)(hlo:lo=4294967296*u1+u0)(_hpos:0<y1)(_h1:(hi:Int)<y)
  (eP:P=(hi*4294967296+u1) / y) (eQ:Q=((hi*4294967296+u1)%y*4294967296+u0) / (4294967296*y1+y0)):P*4294967296+Q=(hi*18446744073709551616+lo) / y:=by
 rw[<- hy]at eQ;rw[eP,eQ,halves (by omega),hlo,Nat.mul_comm 4294967296 u1]
theorem div64_big(hi lo y y1 y0 u1 u0:Nat)(h0:(0:Int)<hi)(h1:(hi:Int)<y)(hy:y=4294967296*y1+y0)(hlo:lo=4294967296*u1+u0)
  (h31:2147483648<=y1) (h32:y1<4294967296) (hy0:y0<4294967296) (hu1:u1<4294967296) (hu0:u0<4294967296) (w:World)
  (a1:bits .and .u64 (y:Int) 4294967295=(y0:Int)) (a2:bits .and .u64 (lo:Int) 4294967295=(u0:Int)) (a3:bits .or .u64 (hi:Int) 0=(hi:Int))
  (hL:∀ w,Calls Try.prog 96 #[.int .u64 y] w fun e w'=>e=.returned (.int .i64 0)/\w=w') :
  Calls Try.prog 113 #[.int .u64 hi,.int .u64 lo,.int .u64 y] w (DivPost ((hi*18446744073709551616+lo) / y) w):=by
 have hy':(9223372036854775808:Int)<=y:=by omega
 have hy'':(y:Int)<=18446744073709551615:=by omega
 have hlo':(lo:Int)<=18446744073709551615:=by omega
 have n0:((y:Int) == 0)=false:=by simp;omega
 have n1:¬(y:Int)<=hi:=by omega
 have n2:((hi:Int) == 0)=false:=by simp;omega
 have n3:(0:Int)<=hi:=by omega
 have n4:(hi:Int)<=18446744073709551615:=by omega
 have n5:(0:Int)<=lo:=by omega
 have n6:(0:Int)<=y:=by omega
 have d1:(y:Int) / 4294967296=(y1:Int):=by omega
 have d2:(lo:Int) / 4294967296=(u1:Int):=by omega
 have d3:(lo:Int) / 18446744073709551616=0:=by omega
 have m1:(1:Int)<=y1:=by omega
 have m2:(y1:Int)<=4294967295:=by omega
 have m3:(u1:Int)<=4294967295:=by omega
 have m4:(u0:Int)<=4294967295:=by omega
 have m5:(0:Int)<=u1:=by omega
 have m6:(0:Int)<=u0:=by omega
 have m7:(0:Int)<=y1:=by omega
 have H31:=Lib.hid h31;have H32:=Lib.hid h32;have HY0:=Lib.hid hy0;have HU1:=Lib.hid hu1;have HU2:=Lib.hid hu0;have HY:=Lib.hid hy;have HLO:=Lib.hid hlo;have HV1:Hid (hi<4294967296*y1+y0):=Lib.hid (by omega);have hq:=Half.start h31 h32 hy0 hu1 HV1.out;obtain⟨Q,eQ⟩:∃ Q,Q=hi / y1:=⟨_,rfl⟩
 obtain⟨R,eR⟩:∃ R,R=hi%y1:=⟨_,rfl⟩
 rw[<- eQ,<- eR]at hq;have eq1:(hi:Int) / (y1:Int)=(Q:Int):=by rw[eQ];simp
 have eq2:IntKind.u64.wrap ((hi:Int) - IntKind.u64.wrap ((Q:Int)*(y1:Int)))=(R:Int):=by
  have h:=hq.split;rw[<- Int.natCast_mul,IntKind.wrap_u64,IntKind.wrap_u64];omega
 have bQ0:(0:Int)<=Q:=by omega
 have bQ1:(Q:Int)<=4294967297:=by have:=hq.most;omega
 have HQ0:=Lib.hid hq;clear hq eQ eR hy hlo h31 h32 hy0 hu1 hu0 hy';go_enter Try.func113,Try.ntmps113
 go_wp2_with fail
 refine(hL _).mono ?_;rintro e w' ⟨rfl,rfl⟩
 go_wp2_with fail
 go_loop [15,16] (fun a b=>∃ q r:Nat,a=.int .u64 q/\b=.int .u64 r/\Hid (Half y1 y0 hi u1 q r)) (fun a _=>(intOf a).toNat)
 case atStart=>exact⟨_,_,rfl,rfl,HQ0⟩
 case round =>
  obtain⟨q,r,rfl,rfl,H1⟩:=hrel;obtain⟨m,hm⟩:∃ m:Nat,m=q*y0:=⟨_,rfl⟩
  have r0:(0:Int)<=r:=by omega
  have r1:(r:Int)<4294967296:=by have:=H1.out.rest;omega
  have q0:(0:Int)<=q:=by omega
  have q1:(q:Int)<=4294967297:=by have:=H1.out.most;omega
  by_cases hbig:4294967296<=q
  ·have t0:(4294967296:Int)<=q:=by omega
   have ht:Hid (4294967296<=q\/4294967296*r+u1<q*y0):=Lib.hid (Or.inl hbig);have hqp:Hid (q=(q - 1)+1):=Lib.hid (by omega);clear hbig hm;by_cases hr:r+y1<4294967296
   ·have t1:¬(4294967296:Int)<=r+y1:=by omega
    go_wp2
    go_round
    case rel=>exact⟨q - 1,r+y1,congrArg (Value.int .u64) (by have:=hqp.out;omega),by go_num,Lib.hid (Half.down (p:=q - 1) HU1.out (by rw[<- hqp.out];exact H1.out) HV1.out (by rw[<- hqp.out];exact ht.out) hr)⟩
    case measure=>simp[intOf];have:=hqp.out;omega
   ·have t1:(4294967296:Int)<=r+y1:=by omega
    obtain⟨p,ep⟩:∃ p,p=q - 1:=⟨_,rfl⟩
    have HQ1:=Lib.hid (Half.ends (p:=q - 1) HY0.out HU1.out (by rw[<- hqp.out];exact H1.out) HV1.out (by rw[<- hqp.out];exact ht.out) (by omega));rw[<- ep]at HQ1;have hp:(q:Int) - 1=(p:Int):=by have:=hqp.out;omega
    clear ep;clear hr;obtain⟨v,ev⟩:∃ v,v=(hi*4294967296+u1)%y:=⟨_,rfl⟩
    have hv:v<y:=by rw[ev];exact Nat.mod_lt _ (by omega)
    have EP:Hid (p=(hi*4294967296+u1) / y):=Lib.hid (by rw[HY.out];exact HQ1.out);have tv:IntKind.u64.wrap (IntKind.u64.wrap (IntKind.u64.wrap ((hi:Int)*4294967296)+(u1:Int)) - IntKind.u64.wrap ((p:Int)*(y:Int)))=(v:Int):=by
     have hd:=Nat.div_add_mod (hi*4294967296+u1) y;rw[<- EP.out,<- ev,Nat.mul_comm]at hd;rw[<- Int.natCast_mul];generalize p*y=m at *;simp only[IntKind.wrap_u64];omega
    have EV:=Lib.hid ev;have c0:(0:Int)<=v:=by omega
    have c1:(v:Int)<=18446744073709551615:=by omega
    have HV2:Hid (v<4294967296*y1+y0):=Lib.hid (by rw[<- HY.out];exact hv);have g5:p<4294967296:=by
     have h3:=HU1.out;rw[EP.out,Nat.div_lt_iff_lt_mul (by omega)];omega
    have b5:(p:Int)<=4294967295:=by omega
    clear g5;have b6:(0:Int)<=p:=by omega
    have hq2:=Half.start H31.out H32.out HY0.out HU2.out HV2.out;obtain⟨Q2,eQ2⟩:∃ Q,Q=v / y1:=⟨_,rfl⟩
    obtain⟨R2,eR2⟩:∃ R,R=v%y1:=⟨_,rfl⟩
    rw[<- eQ2,<- eR2]at hq2;have eq3:(v:Int) / (y1:Int)=(Q2:Int):=by rw[eQ2];simp
    have eq4:IntKind.u64.wrap ((v:Int) - IntKind.u64.wrap ((Q2:Int)*(y1:Int)))=(R2:Int):=by
     have h:=hq2.split;rw[<- Int.natCast_mul,IntKind.wrap_u64,IntKind.wrap_u64];omega
    have bQ2:(0:Int)<=Q2:=by omega
    have bQ3:(Q2:Int)<=4294967297:=by have:=hq2.most;omega
    have HQ02:=Lib.hid hq2;clear hq2 eQ2 eR2 ev hv
    go_wp2_with fail
    go_loop [18,16] (fun a b=>∃ z rr:Nat,a=.int .u64 z/\b=.int .u64 rr/\Hid (Half y1 y0 v u0 z rr)) (fun a _=>(intOf a).toNat)
    case atStart=>exact⟨_,_,rfl,rfl,HQ02⟩
    case round =>
     obtain⟨z,rr,rfl,rfl,H2⟩:=hrel;obtain⟨mm,hmm⟩:∃ mm:Nat,mm=z*y0:=⟨_,rfl⟩
     have rr0:(0:Int)<=rr:=by omega
     have rr1:(rr:Int)<4294967296:=by have:=H2.out.rest;omega
     have zz0:(0:Int)<=z:=by omega
     have zz1:(z:Int)<=4294967297:=by have:=H2.out.most;omega
     by_cases hbigg:4294967296<=z
     ·have tt0:(4294967296:Int)<=z:=by omega
      have htt:Hid (4294967296<=z\/4294967296*rr+u0<z*y0):=Lib.hid (Or.inl hbigg);have hqpp:Hid (z=(z - 1)+1):=Lib.hid (by omega);clear hbigg hmm;by_cases hrr:rr+y1<4294967296
      ·have tt1:¬(4294967296:Int)<=rr+y1:=by omega
       go_wp2
       go_round
       case rel=>exact⟨z - 1,rr+y1,congrArg (Value.int .u64) (by have:=hqpp.out;omega),by go_num,Lib.hid (Half.down (p:=z - 1) HU2.out (by rw[<- hqpp.out];exact H2.out) HV2.out (by rw[<- hqpp.out];exact htt.out) hrr)⟩
       case measure=>simp[intOf];have:=hqpp.out;omega
      ·have tt1:(4294967296:Int)<=rr+y1:=by omega
       obtain⟨pp,epp⟩:∃ pp,pp=z - 1:=⟨_,rfl⟩
       have HQ2:=Lib.hid (Half.ends (p:=z - 1) HY0.out HU2.out (by rw[<- hqpp.out];exact H2.out) HV2.out (by rw[<- hqpp.out];exact htt.out) (by omega));rw[<- epp]at HQ2;have hpp:(z:Int) - 1=(pp:Int):=by have:=hqpp.out;omega
       clear epp;clear hrr;have fq:=Lib.hid (div64_fin (P:=p) (Q:=pp) HY.out HLO.out (by have:=H31.out;omega) h1 EP.out (by rw[<- EV.out];exact HQ2.out));have g7:pp<4294967296:=by
        have h:=HV2.out;have h3:=HU2.out;have h5:=H31.out;rw[HQ2.out,Nat.div_lt_iff_lt_mul (by omega)];omega
       have b7:(pp:Int)<=4294967295:=by omega
       clear g7;have b8:(0:Int)<=pp:=by omega
       go_wp2
       go_ret2
       exact divpost_mk (by have:=fq.out;omega)
     ·have tt0:¬(4294967296:Int)<=z:=by omega
      have hww:IntKind.u64.wrap ((z:Int)*(y0:Int))=(mm:Int):=by
       have h1:z*y0<=4294967295*4294967295:=Nat.mul_le_mul (by omega) (by have:=HY0.out;omega);rw[<- Int.natCast_mul,<- hmm,IntKind.wrap_u64];omega
      by_cases hgtt:4294967296*rr+u0<mm
      ·have tt2:(4294967296:Int)*rr+u0<mm:=by omega
       have htt:Hid (4294967296<=z\/4294967296*rr+u0<z*y0):=Lib.hid (Or.inr (by rw[<- hmm];exact hgtt));have hposs:=H2.out.pos HU2.out HV2.out htt.out;have hqpp:Hid (z=(z - 1)+1):=Lib.hid (by omega);have zz2:(1:Int)<=z:=by omega
       clear hbigg hmm hgtt hposs;by_cases hrr:rr+y1<4294967296
       ·have tt1:¬(4294967296:Int)<=rr+y1:=by omega
        go_wp2
        go_round
        case rel=>exact⟨z - 1,rr+y1,congrArg (Value.int .u64) (by have:=hqpp.out;omega),by go_num,Lib.hid (Half.down (p:=z - 1) HU2.out (by rw[<- hqpp.out];exact H2.out) HV2.out (by rw[<- hqpp.out];exact htt.out) hrr)⟩
        case measure=>simp[intOf];have:=hqpp.out;omega
       ·have tt1:(4294967296:Int)<=rr+y1:=by omega
        obtain⟨pp,epp⟩:∃ pp,pp=z - 1:=⟨_,rfl⟩
        have HQ2:=Lib.hid (Half.ends (p:=z - 1) HY0.out HU2.out (by rw[<- hqpp.out];exact H2.out) HV2.out (by rw[<- hqpp.out];exact htt.out) (by omega));rw[<- epp]at HQ2;have hpp:(z:Int) - 1=(pp:Int):=by have:=hqpp.out;omega
        clear epp;clear hrr;have fq:=Lib.hid (div64_fin (P:=p) (Q:=pp) HY.out HLO.out (by have:=H31.out;omega) h1 EP.out (by rw[<- EV.out];exact HQ2.out));have g7:pp<4294967296:=by
         have h:=HV2.out;have h3:=HU2.out;have h5:=H31.out;rw[HQ2.out,Nat.div_lt_iff_lt_mul (by omega)];omega
        have b7:(pp:Int)<=4294967295:=by omega
        clear g7;have b8:(0:Int)<=pp:=by omega
        go_wp2
        go_ret2
        exact divpost_mk (by have:=fq.out;omega)
      ·have tt2:¬(4294967296:Int)*rr+u0<mm:=by omega
       have HQ2:=Lib.hid (H2.out.fits H31.out H32.out HY0.out (by rw[<- hmm];omega));clear hbigg hmm hgtt;have fq:=Lib.hid (div64_fin (P:=p) (Q:=z) HY.out HLO.out (by have:=H31.out;omega) h1 EP.out (by rw[<- EV.out];exact HQ2.out));have g7:z<4294967296:=by
        have h:=HV2.out;have h3:=HU2.out;have h5:=H31.out;rw[HQ2.out,Nat.div_lt_iff_lt_mul (by omega)];omega
       have b7:(z:Int)<=4294967295:=by omega
       clear g7;have b8:(0:Int)<=z:=by omega
       go_wp2
       go_ret2
       exact divpost_mk (by have:=fq.out;omega)
  ·have t0:¬(4294967296:Int)<=q:=by omega
   have hw:IntKind.u64.wrap ((q:Int)*(y0:Int))=(m:Int):=by
    have h1:q*y0<=4294967295*4294967295:=Nat.mul_le_mul (by omega) (by have:=HY0.out;omega);rw[<- Int.natCast_mul,<- hm,IntKind.wrap_u64];omega
   by_cases hgt:4294967296*r+u1<m
   ·have t2:(4294967296:Int)*r+u1<m:=by omega
    have ht:Hid (4294967296<=q\/4294967296*r+u1<q*y0):=Lib.hid (Or.inr (by rw[<- hm];exact hgt));have hpos:=H1.out.pos HU1.out HV1.out ht.out;have hqp:Hid (q=(q - 1)+1):=Lib.hid (by omega);have q2:(1:Int)<=q:=by omega
    clear hbig hm hgt hpos;by_cases hr:r+y1<4294967296
    ·have t1:¬(4294967296:Int)<=r+y1:=by omega
     go_wp2
     go_round
     case rel=>exact⟨q - 1,r+y1,congrArg (Value.int .u64) (by have:=hqp.out;omega),by go_num,Lib.hid (Half.down (p:=q - 1) HU1.out (by rw[<- hqp.out];exact H1.out) HV1.out (by rw[<- hqp.out];exact ht.out) hr)⟩
     case measure=>simp[intOf];have:=hqp.out;omega
    ·have t1:(4294967296:Int)<=r+y1:=by omega
     obtain⟨p,ep⟩:∃ p,p=q - 1:=⟨_,rfl⟩
     have HQ1:=Lib.hid (Half.ends (p:=q - 1) HY0.out HU1.out (by rw[<- hqp.out];exact H1.out) HV1.out (by rw[<- hqp.out];exact ht.out) (by omega));rw[<- ep]at HQ1;have hp:(q:Int) - 1=(p:Int):=by have:=hqp.out;omega
     clear ep;clear hr;obtain⟨v,ev⟩:∃ v,v=(hi*4294967296+u1)%y:=⟨_,rfl⟩
     have hv:v<y:=by rw[ev];exact Nat.mod_lt _ (by omega)
     have EP:Hid (p=(hi*4294967296+u1) / y):=Lib.hid (by rw[HY.out];exact HQ1.out);have tv:IntKind.u64.wrap (IntKind.u64.wrap (IntKind.u64.wrap ((hi:Int)*4294967296)+(u1:Int)) - IntKind.u64.wrap ((p:Int)*(y:Int)))=(v:Int):=by
      have hd:=Nat.div_add_mod (hi*4294967296+u1) y;rw[<- EP.out,<- ev,Nat.mul_comm]at hd;rw[<- Int.natCast_mul];generalize p*y=m at *;simp only[IntKind.wrap_u64];omega
     have EV:=Lib.hid ev;have c0:(0:Int)<=v:=by omega
     have c1:(v:Int)<=18446744073709551615:=by omega
     have HV2:Hid (v<4294967296*y1+y0):=Lib.hid (by rw[<- HY.out];exact hv);have g5:p<4294967296:=by
      have h3:=HU1.out;rw[EP.out,Nat.div_lt_iff_lt_mul (by omega)];omega
     have b5:(p:Int)<=4294967295:=by omega
     clear g5;have b6:(0:Int)<=p:=by omega
     have hq2:=Half.start H31.out H32.out HY0.out HU2.out HV2.out;obtain⟨Q2,eQ2⟩:∃ Q,Q=v / y1:=⟨_,rfl⟩
     obtain⟨R2,eR2⟩:∃ R,R=v%y1:=⟨_,rfl⟩
     rw[<- eQ2,<- eR2]at hq2;have eq3:(v:Int) / (y1:Int)=(Q2:Int):=by rw[eQ2];simp
     have eq4:IntKind.u64.wrap ((v:Int) - IntKind.u64.wrap ((Q2:Int)*(y1:Int)))=(R2:Int):=by
      have h:=hq2.split;rw[<- Int.natCast_mul,IntKind.wrap_u64,IntKind.wrap_u64];omega
     have bQ2:(0:Int)<=Q2:=by omega
     have bQ3:(Q2:Int)<=4294967297:=by have:=hq2.most;omega
     have HQ02:=Lib.hid hq2;clear hq2 eQ2 eR2 ev hv
     go_wp2_with fail
     go_loop [18,16] (fun a b=>∃ z rr:Nat,a=.int .u64 z/\b=.int .u64 rr/\Hid (Half y1 y0 v u0 z rr)) (fun a _=>(intOf a).toNat)
     case atStart=>exact⟨_,_,rfl,rfl,HQ02⟩
     case round =>
      obtain⟨z,rr,rfl,rfl,H2⟩:=hrel;obtain⟨mm,hmm⟩:∃ mm:Nat,mm=z*y0:=⟨_,rfl⟩
      have rr0:(0:Int)<=rr:=by omega
      have rr1:(rr:Int)<4294967296:=by have:=H2.out.rest;omega
      have zz0:(0:Int)<=z:=by omega
      have zz1:(z:Int)<=4294967297:=by have:=H2.out.most;omega
      by_cases hbigg:4294967296<=z
      ·have tt0:(4294967296:Int)<=z:=by omega
       have htt:Hid (4294967296<=z\/4294967296*rr+u0<z*y0):=Lib.hid (Or.inl hbigg);have hqpp:Hid (z=(z - 1)+1):=Lib.hid (by omega);clear hbigg hmm;by_cases hrr:rr+y1<4294967296
       ·have tt1:¬(4294967296:Int)<=rr+y1:=by omega
        go_wp2
        go_round
        case rel=>exact⟨z - 1,rr+y1,congrArg (Value.int .u64) (by have:=hqpp.out;omega),by go_num,Lib.hid (Half.down (p:=z - 1) HU2.out (by rw[<- hqpp.out];exact H2.out) HV2.out (by rw[<- hqpp.out];exact htt.out) hrr)⟩
        case measure=>simp[intOf];have:=hqpp.out;omega
       ·have tt1:(4294967296:Int)<=rr+y1:=by omega
        obtain⟨pp,epp⟩:∃ pp,pp=z - 1:=⟨_,rfl⟩
        have HQ2:=Lib.hid (Half.ends (p:=z - 1) HY0.out HU2.out (by rw[<- hqpp.out];exact H2.out) HV2.out (by rw[<- hqpp.out];exact htt.out) (by omega));rw[<- epp]at HQ2;have hpp:(z:Int) - 1=(pp:Int):=by have:=hqpp.out;omega
        clear epp;clear hrr;have fq:=Lib.hid (div64_fin (P:=p) (Q:=pp) HY.out HLO.out (by have:=H31.out;omega) h1 EP.out (by rw[<- EV.out];exact HQ2.out));have g7:pp<4294967296:=by
         have h:=HV2.out;have h3:=HU2.out;have h5:=H31.out;rw[HQ2.out,Nat.div_lt_iff_lt_mul (by omega)];omega
        have b7:(pp:Int)<=4294967295:=by omega
        clear g7;have b8:(0:Int)<=pp:=by omega
        go_wp2
        go_ret2
        exact divpost_mk (by have:=fq.out;omega)
      ·have tt0:¬(4294967296:Int)<=z:=by omega
       have hww:IntKind.u64.wrap ((z:Int)*(y0:Int))=(mm:Int):=by
        have h1:z*y0<=4294967295*4294967295:=Nat.mul_le_mul (by omega) (by have:=HY0.out;omega);rw[<- Int.natCast_mul,<- hmm,IntKind.wrap_u64];omega
       by_cases hgtt:4294967296*rr+u0<mm
       ·have tt2:(4294967296:Int)*rr+u0<mm:=by omega
        have htt:Hid (4294967296<=z\/4294967296*rr+u0<z*y0):=Lib.hid (Or.inr (by rw[<- hmm];exact hgtt));have hposs:=H2.out.pos HU2.out HV2.out htt.out;have hqpp:Hid (z=(z - 1)+1):=Lib.hid (by omega);have zz2:(1:Int)<=z:=by omega
        clear hbigg hmm hgtt hposs;by_cases hrr:rr+y1<4294967296
        ·have tt1:¬(4294967296:Int)<=rr+y1:=by omega
         go_wp2
         go_round
         case rel=>exact⟨z - 1,rr+y1,congrArg (Value.int .u64) (by have:=hqpp.out;omega),by go_num,Lib.hid (Half.down (p:=z - 1) HU2.out (by rw[<- hqpp.out];exact H2.out) HV2.out (by rw[<- hqpp.out];exact htt.out) hrr)⟩
         case measure=>simp[intOf];have:=hqpp.out;omega
        ·have tt1:(4294967296:Int)<=rr+y1:=by omega
         obtain⟨pp,epp⟩:∃ pp,pp=z - 1:=⟨_,rfl⟩
         have HQ2:=Lib.hid (Half.ends (p:=z - 1) HY0.out HU2.out (by rw[<- hqpp.out];exact H2.out) HV2.out (by rw[<- hqpp.out];exact htt.out) (by omega));rw[<- epp]at HQ2;have hpp:(z:Int) - 1=(pp:Int):=by have:=hqpp.out;omega
         clear epp;clear hrr;have fq:=Lib.hid (div64_fin (P:=p) (Q:=pp) HY.out HLO.out (by have:=H31.out;omega) h1 EP.out (by rw[<- EV.out];exact HQ2.out));have g7:pp<4294967296:=by
          have h:=HV2.out;have h3:=HU2.out;have h5:=H31.out;rw[HQ2.out,Nat.div_lt_iff_lt_mul (by omega)];omega
         have b7:(pp:Int)<=4294967295:=by omega
         clear g7;have b8:(0:Int)<=pp:=by omega
         go_wp2
         go_ret2
         exact divpost_mk (by have:=fq.out;omega)
       ·have tt2:¬(4294967296:Int)*rr+u0<mm:=by omega
        have HQ2:=Lib.hid (H2.out.fits H31.out H32.out HY0.out (by rw[<- hmm];omega));clear hbigg hmm hgtt;have fq:=Lib.hid (div64_fin (P:=p) (Q:=z) HY.out HLO.out (by have:=H31.out;omega) h1 EP.out (by rw[<- EV.out];exact HQ2.out));have g7:z<4294967296:=by
         have h:=HV2.out;have h3:=HU2.out;have h5:=H31.out;rw[HQ2.out,Nat.div_lt_iff_lt_mul (by omega)];omega
        have b7:(z:Int)<=4294967295:=by omega
        clear g7;have b8:(0:Int)<=z:=by omega
        go_wp2
        go_ret2
        exact divpost_mk (by have:=fq.out;omega)
   ·have t2:¬(4294967296:Int)*r+u1<m:=by omega
    have HQ1:=Lib.hid (H1.out.fits H31.out H32.out HY0.out (by rw[<- hm];omega));clear hbig hm hgt;obtain⟨v,ev⟩:∃ v,v=(hi*4294967296+u1)%y:=⟨_,rfl⟩
    have hv:v<y:=by rw[ev];exact Nat.mod_lt _ (by omega)
    have EP:Hid (q=(hi*4294967296+u1) / y):=Lib.hid (by rw[HY.out];exact HQ1.out);have tv:IntKind.u64.wrap (IntKind.u64.wrap (IntKind.u64.wrap ((hi:Int)*4294967296)+(u1:Int)) - IntKind.u64.wrap ((q:Int)*(y:Int)))=(v:Int):=by
     have hd:=Nat.div_add_mod (hi*4294967296+u1) y;rw[<- EP.out,<- ev,Nat.mul_comm]at hd;rw[<- Int.natCast_mul];generalize q*y=m at *;simp only[IntKind.wrap_u64];omega
    have EV:=Lib.hid ev;have c0:(0:Int)<=v:=by omega
    have c1:(v:Int)<=18446744073709551615:=by omega
    have HV2:Hid (v<4294967296*y1+y0):=Lib.hid (by rw[<- HY.out];exact hv);have g5:q<4294967296:=by
     have h3:=HU1.out;rw[EP.out,Nat.div_lt_iff_lt_mul (by omega)];omega
    have b5:(q:Int)<=4294967295:=by omega
    clear g5;have b6:(0:Int)<=q:=by omega
    have hq2:=Half.start H31.out H32.out HY0.out HU2.out HV2.out;obtain⟨Q2,eQ2⟩:∃ Q,Q=v / y1:=⟨_,rfl⟩
    obtain⟨R2,eR2⟩:∃ R,R=v%y1:=⟨_,rfl⟩
    rw[<- eQ2,<- eR2]at hq2;have eq3:(v:Int) / (y1:Int)=(Q2:Int):=by rw[eQ2];simp
    have eq4:IntKind.u64.wrap ((v:Int) - IntKind.u64.wrap ((Q2:Int)*(y1:Int)))=(R2:Int):=by
     have h:=hq2.split;rw[<- Int.natCast_mul,IntKind.wrap_u64,IntKind.wrap_u64];omega
    have bQ2:(0:Int)<=Q2:=by omega
    have bQ3:(Q2:Int)<=4294967297:=by have:=hq2.most;omega
    have HQ02:=Lib.hid hq2;clear hq2 eQ2 eR2 ev hv
    go_wp2_with fail
    go_loop [18,16] (fun a b=>∃ z rr:Nat,a=.int .u64 z/\b=.int .u64 rr/\Hid (Half y1 y0 v u0 z rr)) (fun a _=>(intOf a).toNat)
    case atStart=>exact⟨_,_,rfl,rfl,HQ02⟩
    case round =>
     obtain⟨z,rr,rfl,rfl,H2⟩:=hrel;obtain⟨mm,hmm⟩:∃ mm:Nat,mm=z*y0:=⟨_,rfl⟩
     have rr0:(0:Int)<=rr:=by omega
     have rr1:(rr:Int)<4294967296:=by have:=H2.out.rest;omega
     have zz0:(0:Int)<=z:=by omega
     have zz1:(z:Int)<=4294967297:=by have:=H2.out.most;omega
     by_cases hbigg:4294967296<=z
     ·have tt0:(4294967296:Int)<=z:=by omega
      have htt:Hid (4294967296<=z\/4294967296*rr+u0<z*y0):=Lib.hid (Or.inl hbigg);have hqpp:Hid (z=(z - 1)+1):=Lib.hid (by omega);clear hbigg hmm;by_cases hrr:rr+y1<4294967296
      ·have tt1:¬(4294967296:Int)<=rr+y1:=by omega
       go_wp2
       go_round
       case rel=>exact⟨z - 1,rr+y1,congrArg (Value.int .u64) (by have:=hqpp.out;omega),by go_num,Lib.hid (Half.down (p:=z - 1) HU2.out (by rw[<- hqpp.out];exact H2.out) HV2.out (by rw[<- hqpp.out];exact htt.out) hrr)⟩
       case measure=>simp[intOf];have:=hqpp.out;omega
      ·have tt1:(4294967296:Int)<=rr+y1:=by omega
       obtain⟨pp,epp⟩:∃ pp,pp=z - 1:=⟨_,rfl⟩
       have HQ2:=Lib.hid (Half.ends (p:=z - 1) HY0.out HU2.out (by rw[<- hqpp.out];exact H2.out) HV2.out (by rw[<- hqpp.out];exact htt.out) (by omega));rw[<- epp]at HQ2;have hpp:(z:Int) - 1=(pp:Int):=by have:=hqpp.out;omega
       clear epp;clear hrr;have fq:=Lib.hid (div64_fin (P:=q) (Q:=pp) HY.out HLO.out (by have:=H31.out;omega) h1 EP.out (by rw[<- EV.out];exact HQ2.out));have g7:pp<4294967296:=by
        have h:=HV2.out;have h3:=HU2.out;have h5:=H31.out;rw[HQ2.out,Nat.div_lt_iff_lt_mul (by omega)];omega
       have b7:(pp:Int)<=4294967295:=by omega
       clear g7;have b8:(0:Int)<=pp:=by omega
       go_wp2
       go_ret2
       exact divpost_mk (by have:=fq.out;omega)
     ·have tt0:¬(4294967296:Int)<=z:=by omega
      have hww:IntKind.u64.wrap ((z:Int)*(y0:Int))=(mm:Int):=by
       have h1:z*y0<=4294967295*4294967295:=Nat.mul_le_mul (by omega) (by have:=HY0.out;omega);rw[<- Int.natCast_mul,<- hmm,IntKind.wrap_u64];omega
      by_cases hgtt:4294967296*rr+u0<mm
      ·have tt2:(4294967296:Int)*rr+u0<mm:=by omega
       have htt:Hid (4294967296<=z\/4294967296*rr+u0<z*y0):=Lib.hid (Or.inr (by rw[<- hmm];exact hgtt));have hposs:=H2.out.pos HU2.out HV2.out htt.out;have hqpp:Hid (z=(z - 1)+1):=Lib.hid (by omega);have zz2:(1:Int)<=z:=by omega
       clear hbigg hmm hgtt hposs;by_cases hrr:rr+y1<4294967296
       ·have tt1:¬(4294967296:Int)<=rr+y1:=by omega
        go_wp2
        go_round
        case rel=>exact⟨z - 1,rr+y1,congrArg (Value.int .u64) (by have:=hqpp.out;omega),by go_num,Lib.hid (Half.down (p:=z - 1) HU2.out (by rw[<- hqpp.out];exact H2.out) HV2.out (by rw[<- hqpp.out];exact htt.out) hrr)⟩
        case measure=>simp[intOf];have:=hqpp.out;omega
       ·have tt1:(4294967296:Int)<=rr+y1:=by omega
        obtain⟨pp,epp⟩:∃ pp,pp=z - 1:=⟨_,rfl⟩
        have HQ2:=Lib.hid (Half.ends (p:=z - 1) HY0.out HU2.out (by rw[<- hqpp.out];exact H2.out) HV2.out (by rw[<- hqpp.out];exact htt.out) (by omega));rw[<- epp]at HQ2;have hpp:(z:Int) - 1=(pp:Int):=by have:=hqpp.out;omega
        clear epp;clear hrr;have fq:=Lib.hid (div64_fin (P:=q) (Q:=pp) HY.out HLO.out (by have:=H31.out;omega) h1 EP.out (by rw[<- EV.out];exact HQ2.out));have g7:pp<4294967296:=by
         have h:=HV2.out;have h3:=HU2.out;have h5:=H31.out;rw[HQ2.out,Nat.div_lt_iff_lt_mul (by omega)];omega
        have b7:(pp:Int)<=4294967295:=by omega
        clear g7;have b8:(0:Int)<=pp:=by omega
        go_wp2
        go_ret2
        exact divpost_mk (by have:=fq.out;omega)
      ·have tt2:¬(4294967296:Int)*rr+u0<mm:=by omega
       have HQ2:=Lib.hid (H2.out.fits H31.out H32.out HY0.out (by rw[<- hmm];omega));clear hbigg hmm hgtt;have fq:=Lib.hid (div64_fin (P:=q) (Q:=z) HY.out HLO.out (by have:=H31.out;omega) h1 EP.out (by rw[<- EV.out];exact HQ2.out));have g7:z<4294967296:=by
        have h:=HV2.out;have h3:=HU2.out;have h5:=H31.out;rw[HQ2.out,Nat.div_lt_iff_lt_mul (by omega)];omega
       have b7:(z:Int)<=4294967295:=by omega
       clear g7;have b8:(0:Int)<=z:=by omega
       go_wp2
       go_ret2
       exact divpost_mk (by have:=fq.out;omega)
open Go.RowKit
theorem bitLen_bounds(x:Nat)(h:x<18446744073709551616)(h0:x≠0):1<=Lib.bitLen x/\2^(Lib.bitLen x - 1)<=x/\x<2^Lib.bitLen x:=Lib.bitLenAux_bounds 64 x (by omega) h0
theorem bitLen_full(x:Nat)(h:x<18446744073709551616)(h0:9223372036854775808<=x):Lib.bitLen x=64:=by
 obtain⟨-,h2,h3⟩:=bitLen_bounds x h (by omega);have h4:¬Lib.bitLen x<=63:=fun h=>by
  have:=Nat.pow_le_pow_right (n:=2) (by omega) h;omega
 have h5:¬65<=Lib.bitLen x:=fun h=>by
  have:=Nat.pow_le_pow_right (n:=2) (by omega) (show 64<=Lib.bitLen x - 1 by omega);omega
 omega
theorem div64_small(lo y:Nat)(h0:(0:Int)<y)(hlo:(lo:Int)<=18446744073709551615)(w:World) :
  Calls Try.prog 113 #[.int .u64 0,.int .u64 lo,.int .u64 y] w fun e w'=>e=.returned (.tuple #[.int .u64 ((lo / y:Nat):Int),.int .u64 ((lo%y:Nat):Int)])/\w.drew=w':=by
 have n0:((y:Int) == 0)=false:=by simp;omega
 have n1:¬(y:Int)<=0:=by omega
 have n2:(1:Int)<=y:=by omega
 have n3:(0:Int)<=lo:=by omega
 have n4:(lo:Int) / y<=lo:=by rw[<- Int.natCast_ediv];have:=Nat.div_le_self lo y;omega
 have n5:(0:Int)<=(lo:Int) / y:=Int.ediv_nonneg (by omega) (by omega);have n6:IntKind.u64.wrap ((lo:Int) / y)=(lo:Int) / y:=by rw[IntKind.wrap_u64];omega
 go_enter Try.func113,Try.ntmps113
 go_wp2_with fail
 go_region
 go_wp2
 go_ret2
 exact⟨by simp,rfl⟩
def guessN(high next b:Nat):Nat:=if b<=high then 18446744073709551615 else (high*18446744073709551616+next) / b
theorem guess_over(high next b:Nat)(h:(b:Int)<=high)(w:World) :
  Calls Try.prog 108 #[.int .u64 high,.int .u64 next,.int .u64 b] w fun e w'=>e=.returned (.int .u64 18446744073709551615)/\w=w':=by
 go_enter Try.func108,Try.ntmps108;go_wp2;go_ret;exact⟨rfl,rfl⟩
theorem guess_under(high next b q:Nat)(h:¬(b:Int)<=high)(w w1:World)(r:Int)
  (hD:Calls Try.prog 113 #[.int .u64 high,.int .u64 next,.int .u64 b] w fun e w'=>e=.returned (.tuple #[.int .u64 q,.int .u64 r])/\w1=w') :
  Calls Try.prog 108 #[.int .u64 high,.int .u64 next,.int .u64 b] w fun e w'=>e=.returned (.int .u64 q)/\w1=w':=by
 have HD:=Lib.hid hD;clear hD;go_enter Try.func108,Try.ntmps108
 go_wp2_with fail
 refine HD.out.mono ?_;rintro e w' ⟨rfl,rfl⟩;go_wp2;go_ret;exact⟨rfl,rfl⟩
theorem guess_under'(high next b q:Nat)(h:¬(b:Int)<=high)(w:World)
  (hD:Calls Try.prog 113 #[.int .u64 high,.int .u64 next,.int .u64 b] w (DivPost q w)) :
  Calls Try.prog 108 #[.int .u64 high,.int .u64 next,.int .u64 b] w fun e w'=>e=.returned (.int .u64 q)/\w=w':=by
 have HD:=Lib.hid hD;clear hD;go_enter Try.func108,Try.ntmps108
 go_wp2_with fail
 refine HD.out.mono ?_;rintro e w' ⟨⟨r,rfl⟩,rfl⟩;go_wp2;go_ret;exact⟨rfl,rfl⟩
theorem guess_any(high next b:Nat)(hh:high<18446744073709551616)(hn:next<18446744073709551616)(hb:b<18446744073709551616)(hb1:9223372036854775808<=b)(w:World) :
  Calls Try.prog 108 #[.int .u64 high,.int .u64 next,.int .u64 b] w fun e w'=>e=.returned (.int .u64 (guessN high next b:Nat))/\∃ m,w'=w.drewN m:=by
 unfold guessN;by_cases h:b<=high
 ·rw[if_pos h]
  exact(guess_over high next b (by omega) w).mono fun e w' ⟨he,hw⟩=>⟨he,0,hw ▸ rfl⟩
 ·rw[if_neg h]
  by_cases h0:high=0
  ·subst h0
   rw[Nat.zero_mul,Nat.zero_add];exact(guess_under 0 next b (next / b) (by omega) w w.drew _ (div64_small next b (by omega) (by omega) w)).mono fun e w' ⟨he,hw⟩=>⟨he,1,hw ▸ rfl⟩
  ·have hz:Lib.bitLen ((b:Int)).toNat=64:=by rw[Int.toNat_natCast];exact bitLen_full b hb hb1
   have hL:∀ w,Calls Try.prog 96 #[.int .u64 b] w fun e w'=>e=.returned (.int .i64 0)/\w=w':=fun w =>
    (Try.bits_LeadingZeros64 b w (by omega) (by omega)).mono fun e w' ⟨he,hw⟩=>⟨by rw[he,hz];rfl,hw.symm⟩
   have e1:∀ x:Nat,x<18446744073709551616->bits .and .u64 (x:Int) 4294967295=((x%4294967296:Nat):Int):=fun x hx=>by
    have:=bits_and_u64_nat x 4294967295 hx (by omega);rw[show x &&& 4294967295=x%4294967296 from Nat.and_two_pow_sub_one_eq_mod x 32]at this;exact this
   have e2:bits .or .u64 (high:Int) 0=(high:Int):=by
    have:=bits_or_u64_nat high 0 hh (by omega);rw[Nat.or_zero]at this;exact this
   have h:=div64_big high next b (b / 4294967296) (b%4294967296) (next / 4294967296) (next%4294967296) (by omega) (by omega) (by omega) (by omega) (by omega) (by omega) (by omega) (by omega) (by omega) w (e1 b hb) (e1 next hn) e2 hL
   exact(guess_under' high next b _ (by omega) w h).mono fun e w' ⟨he,hw⟩=>⟨he,0,hw ▸ rfl⟩
open Go.RowKit
def GivePost(S o n:Nat)(r d:Nat->Nat)(w:World)(e:Ending)(w':World):Prop :=
 ∃(ns:Nat->Nat) (over:Nat),e=.returned (.int .u64 over)/\over<=1/\(∀ j,j<n+1->ns j<18446744073709551616) /\
  val ns (n+1)+18446744073709551616^(n+1)*over=val r (n+1)+val d n/\Holds S o (n+1) ns w w'
theorem give_step{P rk s c c' dk N R V:Nat}(h:N+P*c=R+V)(h1:s+18446744073709551616*c'=rk+dk+c) :
  N+P*s+P*18446744073709551616*c'=R+P*rk+(V+P*dk):=by
 have e1:P*s+P*(18446744073709551616*c')=P*rk+P*dk+P*c:=by rw[<- Nat.mul_add,<- Nat.mul_add,<- Nat.mul_add,h1]
 rw[Nat.mul_assoc];omega
theorem give_any(S o capS D capD n:Nat)(r d:Nat->Nat)(hn:(n:Int)<=1000)(hr:∀ j,j<n+1->r j<18446744073709551616)(hd:∀ j,j<n->d j<18446744073709551616)
  (hSD:D≠S) (w:World)
  (hs:∀ j,j<n+1->w.cell? ⟨S,o+j,none⟩=some (.int .u64 (r j))) (hf:∀ j,j<n+1->w.frozen? ⟨S,o+j,none⟩=false)
  (hc:∀ j,j<n->w.cell? ⟨D,j,none⟩=some (.int .u64 (d j))) :
  Calls Try.prog 110 #[.slice (some ⟨S,o,none⟩) ((n+1:Nat)) capS,.slice (some ⟨D,0,none⟩) n capD] w (GivePost S o n r d w):=by
 have HR:=Lib.hid hr;clear hr;have HD:=Lib.hid hd;clear hd;have HS:=Lib.hid hs;clear hs;have HF:=Lib.hid hf;clear hf;have HC:=Lib.hid hc;clear hc;have HN:=Lib.hid hSD;clear hSD;go_enter Try.func110,Try.ntmps110;go_wp2
 go_loopw [5,10] (fun c i wr=>∃(k cn:Nat) (ns:Nat->Nat),k<=n/\c=.int .u64 cn/\i=.int .i64 k/\Hid (cn<=1/\(∀ j,j<k->ns j<18446744073709551616)/\val ns k+18446744073709551616^k*cn=val r k+val d k/\Holds S o k ns w wr)) (fun _ i _=>n - (intOf i).toNat)
 case atStart=>exact⟨0,0,r,Nat.zero_le _,rfl,rfl,Lib.hid ⟨by omega,fun j hj=>by omega,by simp[val],Holds.start S o r w⟩⟩
 case round =>
  obtain⟨k,cn,ns,hk,rfl,rfl,H⟩:=hrel;have hk0:(0:Int)<=k:=by omega
  have hk1:(k:Int)<=1000:=by omega
  by_cases hlt:k<n
  ·obtain⟨sn,c',lc,ls,es,hSu⟩:=add64_ex (r k) (d k) cn (HR.out k (by omega)) (HD.out k hlt) H.out.1
   have cd:wr.cell? ⟨D,k,none⟩=some (.int .u64 (d k)):=by rw[H.out.2.2.2.1.cell (p:=⟨D,k,none⟩) HN.out];exact HC.out k hlt
   have cs:wr.cell? ⟨S,o+k,none⟩=some (.int .u64 (r k)):=by rw[H.out.2.2.2.2 (o+k),if_neg (by omega)];exact HS.out k (by omega)
   have cf:wr.frozen? ⟨S,o+k,none⟩=false:=by rw[H.out.2.2.2.1.frozen];exact HF.out k (by omega)
   have ES:=Lib.hid es;clear es;go_wp2
   go_roundw
   case rel =>
    refine⟨k+1,c',fun j=>if j=k then sn else ns j,by omega,rfl,by go_num,Lib.hid ⟨lc,fun j hj=>?_,?_,H.out.2.2.2.next sn (by rw[HS.out k (by omega)];rfl)⟩⟩
    ·by_cases h:j=k
     ·simp only[h,if_true];exact ls
     ·simp only[h,if_false];exact H.out.2.1 j (by omega)
    ·have e1:val (fun j=>if j=k then sn else ns j) k=val ns k:=val_congr (fun j hj=>by simp only[show ¬j=k by omega,if_false])
     simp only[val,e1,if_true];rw[Nat.pow_succ];exact give_step H.out.2.2.1 ES.out
   case measure=>simp[intOf];omega
  ·obtain rfl:k=n:=by omega
   obtain⟨s1,b1,lb1,ls1,es1,hS1⟩:=add64_ex (r k) 0 cn (HR.out k (by omega)) (by omega) H.out.1;have hS2:∀ w,(callFunc 80 #[.int .u64 (r k),.int .u64 0,.int .u64 cn]).run Try.prog w=.ok (.value (.tuple #[.int .u64 s1,.int .u64 b1])) w:=hS1;clear hS1;have ES:=Lib.hid es1;clear es1;have cs:wr.cell? ⟨S,o+k,none⟩=some (.int .u64 (r k)):=by rw[H.out.2.2.2.2 (o+k),if_neg (by omega)];exact HS.out k (by omega)
   have cf:wr.frozen? ⟨S,o+k,none⟩=false:=by rw[H.out.2.2.2.1.frozen];exact HF.out k (by omega)
   go_wp2;go_ret;refine⟨fun j=>if j=k then s1 else ns j,b1,rfl,lb1,fun j hj=>?_,?_,H.out.2.2.2.next s1 (by rw[HS.out k (by omega)];rfl)⟩
   ·by_cases h:j=k
    ·simp only[h,if_true];exact ls1
    ·simp only[h,if_false];exact H.out.2.1 j (by omega)
   ·have e1:val (fun j=>if j=k then s1 else ns j) k=val ns k:=val_congr (fun j hj=>by simp only[show ¬j=k by omega,if_false])
    simp only[val,e1,if_true];have h0:=give_step (P:=18446744073709551616^k) (dk:=0) H.out.2.2.1 ES.out;rw[Nat.pow_succ];omega
open Go.RowKit
theorem val_lt{f:Nat->Nat}{n:Nat}(h:∀ j,j<n->f j<18446744073709551616):val f n<18446744073709551616^n:=by
 induction n with
 | zero=>simp[val]
 | succ n ih =>
  have h1:=ih (fun j hj=>h j (by omega));have h2:=h n (by omega);have h3:18446744073709551616^n*f n<=18446744073709551616^n*18446744073709551615:=Nat.mul_le_mul_left _ (by omega);rw[val,Nat.pow_succ];omega
theorem val_ge(f:Nat->Nat)(n:Nat):18446744073709551616^n*f n<=val f (n+1):=by rw[val];omega
theorem guess_least{r d:Nat->Nat}{k:Nat}(hr:∀ j,j<k+2->r j<18446744073709551616)(hd:0<d k)(hlt:val r (k+2)<18446744073709551616*val d (k+1))(g:Nat)
  (hg:g=if d k<=r (k+1)then 18446744073709551615 else (r (k+1)*18446744073709551616+r k) / d k):val r (k+2) / val d (k+1)<=g:=by
 have hP:0<18446744073709551616^k:=Nat.pow_pos (by omega);have hD:=val_ge d k;have hD0:0<val d (k+1):=Nat.lt_of_lt_of_le (Nat.mul_pos hP hd) hD;rw[hg]
 split
 ·have:val r (k+2) / val d (k+1)<18446744073709551616:=by rw[Nat.div_lt_iff_lt_mul hD0];exact hlt
  omega
 ·rw[Nat.le_div_iff_mul_le hd]
  have hq:=Nat.div_mul_le_self (val r (k+2)) (val d (k+1));generalize val r (k+2) / val d (k+1)=q at *;have hv:=val_lt (fun j hj=>hr j (by omega):∀ j,j<k->r j<18446744073709551616);have h1:q*(18446744073709551616^k*d k)<=q*val d (k+1):=Nat.mul_le_mul_left _ hD;have h2:val r (k+2)=val r k+18446744073709551616^k*(r (k+1)*18446744073709551616+r k):=by
   simp only[val,Nat.pow_succ]
   grind
  have h3:18446744073709551616^k*(q*d k)<18446744073709551616^k*(r (k+1)*18446744073709551616+r k+1):=by
   have:18446744073709551616^k*(q*d k)=q*(18446744073709551616^k*d k):=by grind
   rw[this,Nat.mul_add _ (r (k+1)*18446744073709551616+r k) 1,Nat.mul_one];omega
  have h4:=Nat.lt_of_mul_lt_mul_left h3;omega
theorem part_is{R D N part:Nat}(hD:0<D)(h:N+part*D=R)(hl:R / D<=part):part=R / D/\N=R%D:=by
 have h1:part<=R / D:=by rw[Nat.le_div_iff_mul_le hD];omega
 have e:part=R / D:=by omega
 refine⟨e,?_⟩;have:=Nat.div_add_mod R D;rw[<- e,Nat.mul_comm]at this;omega
theorem part_over{R D N P part:Nat}(hD:0<D)(h:N+part*D=R+P)(hN:N<P):R / D<part:=by
 rw[Nat.div_lt_iff_lt_mul hD];omega
theorem give_part{R D N N' P part over debt:Nat}(h:N+part*D=R+P*debt)(h1:N'+P*over=N+D)(hp:0<part)(ho:over<=debt):N'+(part - 1)*D=R+P*(debt - over):=by
 obtain⟨p,rfl⟩:∃ p,part=p+1:=⟨part - 1,by omega⟩
 obtain⟨e,rfl⟩:∃ e,debt=over+e:=⟨debt - over,by omega⟩
 rw[Nat.add_mul,Nat.one_mul]at h;rw[Nat.mul_add]at h;simp only[Nat.add_sub_cancel,Nat.add_sub_cancel_left];omega
open Go.RowKit
theorem Holds.then_{S o k:Nat}{n1 n2:Nat->Nat}{w wr w':World}(h:Holds S o k n1 w wr)(h':Holds S o k n2 wr w'):Holds S o k n2 w w':=by
 refine⟨h.1.trans h'.1,fun j=>?_⟩;rw[h'.2 j];by_cases hj:o<=j/\j<o+k
 ·rw[if_pos hj,if_pos hj]
 ·rw[if_neg hj,if_neg hj,h.2 j,if_neg hj]
theorem But.drawn'{S:Nat}{w w':World}(n:Nat)(h:But S (w.drewN n) w'):But S w w':=⟨h.os,h.tape,h.output,h.size,h.block,h.frozen⟩
theorem Holds.drawn'{S o k:Nat}{ns:Nat->Nat}{w w':World}(n:Nat)(h:Holds S o k ns (w.drewN n) w'):Holds S o k ns w w':=⟨h.1.drawn' n,h.2⟩
def StepPost(S o n:Nat)(r d:Nat->Nat)(w:World)(e:Ending)(w':World):Prop :=
 ∃ ns:Nat->Nat,e=.returned (.int .u64 ((val r (n+1) / val d n:Nat):Int))/\(∀ j,j<n+1->ns j<18446744073709551616)/\val ns (n+1)=val r (n+1)%val d n/\Holds S o (n+1) ns w w'
theorem exit_is{R D N P part debt:Nat}(hD:0<D)(h:N+part*D=R+P*debt)(hz:debt=0)(hl:R / D<=part):part=R / D/\N=R%D:=by
 subst hz;exact part_is hD (by rw[Nat.mul_zero,Nat.add_zero]at h;exact h) hl
theorem owed_is{R D N P part debt:Nat}(hD:0<D)(h:N+part*D=R+P*debt)(hz:debt=1)(hN:N<P):R / D<part:=by
 subst hz;exact part_over hD (by rw[Nat.mul_one]at h;exact h) hN
theorem steppost_mk{S o k q:Nat}{r d cur:Nat->Nat}{w w':World}(hq:q=val r (k+2) / val d (k+1))(h1:∀ j,j<k+2->cur j<18446744073709551616)(h2:val cur (k+2)=val r (k+2)%val d (k+1))(h3:Holds S o (k+2) cur w w') :
  StepPost S o (k+1) r d w (.returned (.int .u64 (q:Int))) w':=⟨cur,by rw[hq],h1,h2,h3⟩
theorem step_any(S o capS D capD k:Nat)(r d:Nat->Nat)(hn:(k:Int)<=100)(hr:∀ j,j<k+2->r j<18446744073709551616)(hd:∀ j,j<k+1->d j<18446744073709551616)
  (hdk:9223372036854775808<=d k) (hlt:val r (k+2)<18446744073709551616*val d (k+1)) (hSD:D≠S) (w:World)
  (hs:∀ j,j<k+2->w.cell? ⟨S,o+j,none⟩=some (.int .u64 (r j))) (hf:∀ j,j<k+2->w.frozen? ⟨S,o+j,none⟩=false)
  (hc:∀ j,j<k+1->w.cell? ⟨D,j,none⟩=some (.int .u64 (d j))) :
  Calls Try.prog 99 #[.slice (some ⟨S,o,none⟩) ((k+1+1:Nat)) capS,.slice (some ⟨D,0,none⟩) ((k+1:Nat)) capD] w (StepPost S o (k+1) r d w):=by
 have c1:w.cell? ⟨S,o+(k+1),none⟩=some (.int .u64 (r (k+1))):=hs (k+1) (by omega);have c2:w.cell? ⟨S,o+k,none⟩=some (.int .u64 (r k)):=hs k (by omega);have c3:w.cell? ⟨D,k,none⟩=some (.int .u64 (d k)):=hc k (by omega);have b0:(0:Int)<=k:=by omega
 have hg:=fun w=>guess_any (r (k+1)) (r k) (d k) (hr _ (by omega)) (hr _ (by omega)) (hd _ (by omega)) hdk w;obtain⟨g,eg⟩:∃ g,g=guessN (r (k+1)) (r k) (d k):=⟨_,rfl⟩
 rw[<- eg]at hg;have hgl:g<18446744073709551616:=by
  rw[eg];unfold guessN
  split
  ·omega
  ·rename_i hh
   rw[Nat.div_lt_iff_lt_mul (by omega)];have:=hr k (by omega);generalize d k=y at *;generalize r (k+1)=h at *;have h2:(h+1)*18446744073709551616<=y*18446744073709551616:=Nat.mul_le_mul_right _ (by omega);omega
 have hge:=guess_least (k:=k) hr (by omega) hlt g (by rw[eg];rfl);have hD0:0<val d (k+1):=by
  have:=Nat.mul_pos (Nat.pow_pos (n:=k) (show 0<18446744073709551616 by omega)) (show 0<d k by omega);have:=val_ge d k;omega
 have HG:=Lib.hid hg;clear hg;have HR:=Lib.hid hr;clear hr;have HD:=Lib.hid hd;clear hd;have HS:=Lib.hid hs;clear hs;have HF:=Lib.hid hf;clear hf;have HC:=Lib.hid hc;clear hc;have HN:=Lib.hid hSD;clear hSD;have HGL:=Lib.hid hgl;clear hgl;have HGE:=Lib.hid hge;clear hge;have HD0:=Lib.hid hD0;clear hD0;have HLT:=Lib.hid hlt;clear hlt;clear eg hdk;go_enter Try.func99,Try.ntmps99
 go_wp2_with fail
 go_quiet ((go_at_call 108;exact Calls.quiet_of (HG.out _)))
 go_wp2_with fail
 refine(take_any S o capS D capD (k+1) g r d (by omega) HR.out HD.out HGL.out HN.out (w.drewN nq) (fun j hj=>HS.out j hj) (fun j hj=>HF.out j hj) (fun j hj=>HC.out j hj)).mono ?_;rintro e w1 ⟨n1,debt,rfl,hd1,hb1,he1,ho1⟩;have H1:=Lib.hid hb1;clear hb1;have E1:=Lib.hid he1;clear he1;have O1:=Lib.hid (ho1.drawn' _);clear ho1
 go_wp2_with fail
 go_loopw [6,7] (fun p q wr=>∃(part debt:Nat) (cur:Nat->Nat),p=.int .u64 part/\q=.int .u64 debt/\Hid (debt<=1/\part<18446744073709551616/\val r (k+2) / val d (k+1)<=part/\(∀ j,j<k+2->cur j<18446744073709551616)/\val cur (k+2)+part*val d (k+1)=val r (k+2)+18446744073709551616^(k+2)*debt/\Holds S o (k+2) cur w wr)) (fun p _ _=>(intOf p).toNat)
 case atStart=>exact⟨g,debt,n1,rfl,rfl,Lib.hid ⟨hd1,HGL.out,HGE.out,H1.out,E1.out,O1.out⟩⟩
 case round =>
  obtain⟨part,debt,cur,rfl,rfl,H⟩:=hrel;have d0:(0:Int)<=debt:=by omega
  have d1:(debt:Int)<=1:=by have:=H.out.1;omega
  have p0:(0:Int)<=part:=by omega
  have p1:(part:Int)<=18446744073709551615:=by have:=H.out.2.1;omega
  by_cases hz:debt=0
  ·as_aux_lemma =>
   have t0:((debt:Int) != 0)=false:=by simp[hz]
   have hE:=exit_is HD0.out H.out.2.2.2.2.1 hz H.out.2.2.1;have HE:=Lib.hid hE;clear hE hz;go_wp2;go_ret;exact steppost_mk HE.out.1 H.out.2.2.2.1 HE.out.2 H.out.2.2.2.2.2
  ·as_aux_lemma =>
   have t0:((debt:Int) != 0)=true:=by simp[hz]
   have d2:(1:Int)<=debt:=by omega
   have ho:=owed_is HD0.out H.out.2.2.2.2.1 (show debt=1 by omega) (val_lt H.out.2.2.2.1);have p3:0<part:=Nat.lt_of_le_of_lt (Nat.zero_le _) ho;have p2:(1:Int)<=part:=by omega
   clear p3;have HO:=Lib.hid ho;clear ho hz
   go_wp2_with fail
   refine(give_any S o capS D capD (k+1) cur d (by omega) H.out.2.2.2.1 HD.out HN.out _ ?_ ?_ ?_).mono ?_
   ·intro j hj
    rw[H.out.2.2.2.2.2.2 (o+j),if_pos (by omega),show o+j - o=j by omega]
   ·intro j hj
    rw[H.out.2.2.2.2.2.1.frozen];exact HF.out j hj
   ·intro j hj
    rw[H.out.2.2.2.2.2.1.cell (p:=⟨D,j,none⟩) HN.out];exact HC.out j hj
   ·rintro e w2 ⟨n2,over,rfl,hd2,hb2,he2,ho2⟩
    have o0:(0:Int)<=over:=by omega
    have o1:(over:Int)<=1:=by omega
    have o2:(over:Int)<=debt:=by omega
    have H2:=Lib.hid hb2;clear hb2;have E2:=Lib.hid he2;clear he2;have O2:=Lib.hid ho2;clear ho2;go_wp2
    go_roundw
    case rel =>
     refine⟨part - 1,debt - over,n2,congrArg (Value.int .u64) (by omega),congrArg (Value.int .u64) (by omega),Lib.hid ⟨by omega,by omega,by have:=HO.out;omega,H2.out,?_,H.out.2.2.2.2.2.then_ O2.out⟩⟩;exact give_part H.out.2.2.2.2.1 E2.out (by omega) (by omega)
    case measure=>simp[intOf];omega
end Go.Proofs.Ytcmgphkjchicbaa
