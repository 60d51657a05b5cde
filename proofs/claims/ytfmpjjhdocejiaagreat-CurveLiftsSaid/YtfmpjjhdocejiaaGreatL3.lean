/- What word.Div, word.Mod come to, called with any words. (Cut to what is reached, written closely: FCl · FScl · Div64 · DivW · Guess · Give · StepNum · Step · Raise · Widen · Divide · DivNum · DivRows · DivSl · DivAll · DivSmall · DivAny · Divs.) -/
import Derived.Test.YtfmpjjhdocejiaaGreatL2
import Derived.WalkKit
import Derived.Test.YtfmpjjhdocejiaaGreatL1
import Derived.Deep.LoopGhost
import Derived.BigQuiet
import Derived.Lib.Hide
import Derived.Deep.QuietTactic
import Derived.Lib.ItoaNum
import Derived.Laws.Bits64b
import Derived.Laws.IdiomCopy
import Derived.Laws.CopyRow
import Derived.Deep.DeepCutAuto
import Derived.Laws.Rows
import Derived.IntWalk
set_option linter.all false
set_option maxRecDepth 100000
set_option maxHeartbeats 8000000
namespace Go.Proofs.YtfmpjjhdocejiaaGreat
open Go.RowKit
structure CW (w:World) (F m:Nat) (L:List (Nat × Array Value)) (wx:World):Prop where
 old:Below w.heap.size w wx
 fld:FldAt wx F m
 hF:F<w.heap.size
 rows:∀ p∈L,wx.heap[p.1]?=some (.cells p.2 24 (0,0))
theorem CW.is{w wx:World}{F m:Nat}{L:List (Nat × Array Value)}(c:CW w F m L wx)(g:Nat)(cs:Array Value)(hm:(g,cs)∈L):wx.heap[g]?=some (.cells cs 24 (0,0)):=c.rows _ hm
theorem CW.below{w wx w':World}{F m:Nat}{L:List (Nat × Array Value)}(c:CW w F m L wx)(hb:Below wx.heap.size wx w'):CW w F m L w' :=
 ⟨c.old.trans (hb.mono c.old.size),c.fld.below hb,c.hF,fun p hp=>(hb.block _ (Array.getElem?_eq_some_iff.1 (c.rows p hp)).1).trans (c.rows p hp)⟩
theorem CW.drew{w wx:World}{F m:Nat}{L:List (Nat × Array Value)}(c:CW w F m L wx):CW w F m L wx.drew:=c.below (Below.drew (Below.refl _ _))
theorem CW.new{w wx:World}{F m:Nat}{L:List (Nat × Array Value)}(c:CW w F m L wx)(cs:Array Value):CW w F m ((wx.heap.size,cs)::L) (wx.alloc (.cells cs 24)):=by
 have h:=c.below ((Below.refl _ _).alloc (Nat.le_refl _) (.cells cs 24));refine⟨h.old,h.fld,h.hF,fun p hp=>?_⟩;rcases List.mem_cons.1 hp with rfl | hp
 ·exact heap_alloc_new _ _
 ·exact h.rows p hp
theorem CW.put{w wx:World}{F m:Nat}{L:List (Nat × Array Value)}(c:CW w F m L wx)(g:Nat)(c0 cs:Array Value)(L':List (Nat × Array Value))(hg:w.heap.size<=g)(hm:(g,c0)∈L)(hs:∀ p∈L',p∈L/\p.1≠g):CW w F m ((g,cs)::L') (wx.setRow g cs):=by
 have h2:=c.hF;refine⟨below_setRow c.old hg _,⟨(setRow_other _ _ _ _ (by omega)).trans c.fld.row,c.fld.odd,c.fld.big,c.fld.lt⟩,c.hF,fun p hp=>?_⟩;rcases List.mem_cons.1 hp with rfl | hp
 ·exact setRow_heap _ _ _ _ _ _ (c.rows _ hm)
 ·exact(setRow_other _ _ _ _ (hs p hp).2).trans (c.rows p (hs p hp).1)
theorem CW.start{w:World}{F m:Nat}(h:FldAt w F m):CW w F m [] w:=⟨Below.refl _ _,h,h.less,fun p hp=>by cases hp⟩
theorem CW.one{w:World}{F m:Nat}(h:FldAt w F m)(a:Nat):CW w F m [(w.heap.size+1,#[.int .u64 0,.int .u64 0,.int .u64 0,.int .u64 0]),(w.heap.size,pw a)] ((w.alloc (.cells (pw a) 24)).alloc (.cells #[.int .u64 0,.int .u64 0,.int .u64 0,.int .u64 0] 24)):=by
 have:=((CW.start h).new (pw a)).new #[.int .u64 0,.int .u64 0,.int .u64 0,.int .u64 0];rwa [World.size_alloc]at this
theorem CW.two{w:World}{F m:Nat}(h:FldAt w F m)(a b:Nat):CW w F m [(w.heap.size+1+1,#[.int .u64 0,.int .u64 0,.int .u64 0,.int .u64 0]),(w.heap.size+1,pw b),(w.heap.size,pw a)] (((w.alloc (.cells (pw a) 24)).alloc (.cells (pw b) 24)).alloc (.cells #[.int .u64 0,.int .u64 0,.int .u64 0,.int .u64 0] 24)):=by
 have:=(((CW.start h).new (pw a)).new (pw b)).new #[.int .u64 0,.int .u64 0,.int .u64 0,.int .u64 0];rwa [World.size_alloc,World.size_alloc]at this
theorem CW.calls{w:World}{F m:Nat}{L:List (Nat × Array Value)}{f:FuncId}{args:Array Value}{v:Value}(h:∀ wx,FldAt wx F m->Calls Tryz.prog f args wx fun e w'=>e=.returned v/\Below wx.heap.size wx w'):∀ wx,CW w F m L wx->Calls Tryz.prog f args wx fun e w'=>e=.returned v/\CW w F m L w' :=
 fun wx c=>(h wx c.fld).mono fun _ _ hh=>⟨hh.1,c.below hh.2⟩
theorem prod_lt{a b c m:Nat}(ha:a<c)(hb:b<m):a*b<c*m:=by
 have h1:a*b<=c*b:=Nat.mul_le_mul_right b (Nat.le_of_lt ha);have h2:c*b<c*m:=Nat.mul_lt_mul_of_pos_left hb (by omega);omega
open Go.RowKit
theorem sqr_lt{m:Nat}(h:1<m):sqr m<m:=Nat.mod_lt _ (by omega)
-- WHAT scaled COMES TO.
theorem scaled_any(F m a:Nat)(ha:a<2^256)(w:World)(hF:FldAt w F m):Calls Tryz.prog 88 #[.pointer (some ⟨F,0,none⟩),.agg (pw a)] w fun e w'=>e=.returned (.agg (pw (a*2^256%m)))/\Below w.heap.size w w':=by
 have H0:=Lib.hid (CW.one hF a);have HT:=Lib.hid (CW.calls (w:=w) (F:=F) (m:=m) (L:=[(w.heap.size+1,#[.int .u64 0,.int .u64 0,.int .u64 0,.int .u64 0]),(w.heap.size,pw a)]) (fun wx hf=>times_any F m a (sqr m) ha (Nat.lt_trans (sqr_lt hf.big) hf.lt) (prod_lt ha (sqr_lt hf.big)) wx hf));have HQ:=Lib.hid (show mnt m a (sqr m)=a*2^256%m from mnt_scaled hF.odd hF.big a);clear hF ha;rw[HQ.out]at HT;obtain⟨y,hy⟩:∃ y,a*2^256%m=y:=⟨_,rfl⟩
 rw[hy]at HT |-
 clear hy HQ;go_enter Tryz.func88,Tryz.ntmps88
 go_wp2_with fail
 refine region_quiet_tail 7 (CW w F m [(w.heap.size+1,#[.int .u64 0,.int .u64 0,.int .u64 0,.int .u64 0]),(w.heap.size,pw a)]) (by kernel_rfl) (by kernel_rfl) (H0.out.drew) ?_;simp only[List.take_succ_cons,List.take_zero,List.drop_succ_cons,List.drop_zero]
 with_reducible refine q_val (.pointer (some ⟨F,0,none⟩)) (by kernel_rfl) (fun _ _=>by kernel_rfl) ?_
 with_reducible refine q_load 24 (.tmp 3) (.pointer (some ⟨w.heap.size,0,none⟩)) (.agg (pw a)) rfl (by kernel_rfl) (by kernel_rfl) (fun _ c=>ld_pw (c.is _ _ (by simp))) ?_
 with_reducible refine q_val (.pointer (some ⟨F,0,none⟩)) (by kernel_rfl) (fun _ _=>by kernel_rfl) ?_
 with_reducible refine q_val (.pointer (some ⟨F,0,none⟩)) (by kernel_rfl) (fun _ _=>run_nil (.tmp 7) _ rfl (by kernel_rfl)) ?_
 with_reducible refine q_sem2 (Instr.fieldAt 103 (.pointer (some ⟨F,0,none⟩)) 2) (.pointer (some ⟨F,5,none⟩)) (by kernel_rfl) (by kernel_rfl) (fun w' _=>fld_sq F w') ?_
 with_reducible refine q_load 24 (.tmp 9) (.pointer (some ⟨F,5,none⟩)) (.agg (pw (sqr m))) rfl (by kernel_rfl) (by kernel_rfl) (fun _ c=>ld_sq c.fld) ?_
 with_reducible refine q_call 87 #[.pointer (some ⟨F,0,none⟩),.agg (pw a),.agg (pw (sqr m))] (.agg (pw y)) (by kernel_rfl) (fun _=>by kernel_rfl) (HT.out) ?_
 with_reducible refine wpQuiet_nil ?_
 intro wx hC;have HC:=Lib.hid hC;clear hC H0 HT;simp only[Act.put,List.setIfInBounds_toArray,List.set_cons_succ,List.set_cons_zero]
 go_wp2_with (refine wpList_store_row rfl 24 _ _ rfl (w.heap.size+1) (pw y) rfl rfl 24 (#[.int .u64 0,.int .u64 0,.int .u64 0,.int .u64 0]) (by exact HC.out.is _ _ (by simp)) (by rw[pw_size];exact infoW4) (by first | rfl | (rw[pw_size];rfl) | (rw[pw_size,pw_size])) (pw_one _) ?_)
 (try simp only[Act.put])
 refine bodyPost_ret (v:=.agg (pw y)) (results_cell_row (p:=4) rfl _ _ (w.heap.size+1) 24 (pw y) (0,0) _ rfl (setRow_heap _ _ _ _ _ _ (by exact HC.out.is _ (#[.int .u64 0,.int .u64 0,.int .u64 0,.int .u64 0]) (by simp))) Tryz.underlying24 rfl (by rw[pw_size];exact infoW4)) rfl ⟨rfl,below_setRow HC.out.old (by omega) _⟩
-- WHAT Mul COMES TO.
theorem fmul_any(F m a b:Nat)(ha:a<2^256)(hb:b<2^256)(w:World)(hF:FldAt w F m):Calls Tryz.prog 72 #[.pointer (some ⟨F,0,none⟩),.agg (pw a),.agg (pw b)] w fun e w'=>e=.returned (.agg (pw (a*b%m)))/\Below w.heap.size w w':=by
 have H0:=Lib.hid (CW.two hF a b);have HSC:=Lib.hid (CW.calls (w:=w) (F:=F) (m:=m) (L:=[(w.heap.size+1+1,#[.int .u64 0,.int .u64 0,.int .u64 0,.int .u64 0]),(w.heap.size+1,pw b),(w.heap.size,pw a)]) (fun wx hf=>scaled_any F m a ha wx hf));have hlt:a*2^256%m<m:=Nat.mod_lt _ (by have:=hF.big;omega);have HT:=Lib.hid (CW.calls (w:=w) (F:=F) (m:=m) (L:=[(w.heap.size+1+1,#[.int .u64 0,.int .u64 0,.int .u64 0,.int .u64 0]),(w.heap.size+1,pw b),(w.heap.size,pw a)]) (fun wx hf=>times_any F m (a*2^256%m) b (Nat.lt_trans hlt hf.lt) hb (by rw[Nat.mul_comm];exact prod_lt hb hlt) wx hf));rw[mnt_back hF.odd hF.big a b]at HT;obtain⟨y,hy⟩:∃ y,a*b%m=y:=⟨_,rfl⟩
 obtain⟨z,hz⟩:∃ z,a*2^256%m=z:=⟨_,rfl⟩
 rw[hy]at HT |-
 rw[hz]at HT HSC;clear hF ha hb hlt hy hz;go_enter Tryz.func72,Tryz.ntmps72
 go_wp2_with fail
 refine region_quiet_tail 6 (CW w F m [(w.heap.size+1+1,#[.int .u64 0,.int .u64 0,.int .u64 0,.int .u64 0]),(w.heap.size+1,pw b),(w.heap.size,pw a)]) (by kernel_rfl) (by kernel_rfl) (H0.out.drew) ?_;simp only[List.take_succ_cons,List.take_zero,List.drop_succ_cons,List.drop_zero]
 with_reducible refine q_val (.pointer (some ⟨F,0,none⟩)) (by kernel_rfl) (fun _ _=>by kernel_rfl) ?_
 with_reducible refine q_val (.pointer (some ⟨F,0,none⟩)) (by kernel_rfl) (fun _ _=>by kernel_rfl) ?_
 with_reducible refine q_load 24 (.tmp 4) (.pointer (some ⟨w.heap.size,0,none⟩)) (.agg (pw a)) rfl (by kernel_rfl) (by kernel_rfl) (fun _ c=>ld_pw (c.is _ _ (by simp))) ?_
 with_reducible refine q_call 88 #[.pointer (some ⟨F,0,none⟩),.agg (pw a)] (.agg (pw z)) (by kernel_rfl) (fun _=>by kernel_rfl) (HSC.out) ?_
 with_reducible refine q_load 24 (.tmp 5) (.pointer (some ⟨w.heap.size+1,0,none⟩)) (.agg (pw b)) rfl (by kernel_rfl) (by kernel_rfl) (fun _ c=>ld_pw (c.is _ _ (by simp))) ?_
 with_reducible refine q_call 87 #[.pointer (some ⟨F,0,none⟩),.agg (pw z),.agg (pw b)] (.agg (pw y)) (by kernel_rfl) (fun _=>by kernel_rfl) (HT.out) ?_
 with_reducible refine wpQuiet_nil ?_
 intro wx hC;have HC:=Lib.hid hC;clear hC H0 HT HSC;simp only[Act.put,List.setIfInBounds_toArray,List.set_cons_succ,List.set_cons_zero]
 go_wp2_with (refine wpList_store_row rfl 24 _ _ rfl (w.heap.size+1+1) (pw y) rfl rfl 24 (#[.int .u64 0,.int .u64 0,.int .u64 0,.int .u64 0]) (by exact HC.out.is _ _ (by simp)) (by rw[pw_size];exact infoW4) (by first | rfl | (rw[pw_size];rfl) | (rw[pw_size,pw_size])) (pw_one _) ?_)
 (try simp only[Act.put])
 refine bodyPost_ret (v:=.agg (pw y)) (results_cell_row (p:=6) rfl _ _ (w.heap.size+1+1) 24 (pw y) (0,0) _ rfl (setRow_heap _ _ _ _ _ _ (by exact HC.out.is _ (#[.int .u64 0,.int .u64 0,.int .u64 0,.int .u64 0]) (by simp))) Tryz.underlying24 rfl (by rw[pw_size];exact infoW4)) rfl ⟨rfl,below_setRow HC.out.old (by omega) _⟩
open Go.RowKit
theorem quot_of{A y q:Nat}(hy:0<y)(h1:q*y<=A)(h2:A / y<=q):q=A / y :=
 Nat.le_antisymm ((Nat.le_div_iff_mul_le hy).2 h1) h2
structure Half (y1 y0 v u q r:Nat):Prop where
 split:q*y1+r=v
 least:(v*4294967296+u) / (4294967296*y1+y0)<=q
 most:q<=4294967297
 rest:r<4294967296
section
variable {y1 y0 v u q r:Nat} (h31:2147483648<=y1) (h32:y1<4294967296) (hy0:y0<4294967296) (hu:u<4294967296)
include h31 h32 hy0 hu
theorem Half.start(hv:v<4294967296*y1+y0):Half y1 y0 v u (v / y1) (v%y1):=by
 have hpos:0<y1:=by omega
 have hd:=Nat.div_add_mod v y1;have hm:=Nat.mod_lt v hpos;refine⟨by rw[Nat.mul_comm];exact hd,?_,?_,by omega⟩
 ·have hlt:v*4294967296+u<(v / y1+1)*(4294967296*y1+y0):=by
   have h1:v+1<=(v / y1+1)*y1:=by rw[Nat.add_mul,Nat.one_mul,Nat.mul_comm];omega
   have h2:(v+1)*4294967296<=(v / y1+1)*y1*4294967296:=Nat.mul_le_mul_right _ h1;have h3:(v / y1+1)*(4294967296*y1+y0)=(v / y1+1)*y1*4294967296+(v / y1+1)*y0:=by grind
   omega
  have:(v*4294967296+u) / (4294967296*y1+y0)<v / y1+1:=by rw[Nat.div_lt_iff_lt_mul (by omega)];exact hlt
  omega
 ·have:v / y1<4294967298:=by rw[Nat.div_lt_iff_lt_mul hpos];omega
  omega
omit hu in
theorem Half.fits(h:Half y1 y0 v u q r)(h2:q*y0<=4294967296*r+u):q=(v*4294967296+u) / (4294967296*y1+y0):=by
 refine quot_of (by omega) ?_ h.least;have h3:q*(4294967296*y1+y0)=(q*y1)*4294967296+q*y0:=by grind
 have h4:=h.split;omega
omit h31 h32 hy0 in
theorem Half.less(h:Half y1 y0 v u q r)(hv:v<4294967296*y1+y0)(ht:4294967296<=q\/4294967296*r+u<q*y0):(v*4294967296+u) / (4294967296*y1+y0)<q:=by
 rcases ht with ht | ht
 ·refine Nat.lt_of_lt_of_le ?_ ht
  rw[Nat.div_lt_iff_lt_mul (by omega)];omega
 ·rw[Nat.div_lt_iff_lt_mul (by omega)]
  have h3:q*(4294967296*y1+y0)=(q*y1)*4294967296+q*y0:=by grind
  have h4:=h.split;omega
omit h31 h32 hy0 in
theorem Half.down{p:Nat}(h:Half y1 y0 v u (p+1) r)(hv:v<4294967296*y1+y0)(ht:4294967296<=p+1\/4294967296*r+u<(p+1)*y0)(hr:r+y1<4294967296):Half y1 y0 v u p (r+y1):=by
 have hl:=h.less hu hv ht;have h4:=h.split;have h5:=h.most;exact⟨by rw[Nat.add_mul]at h4;omega,by omega,by omega,hr⟩
omit h31 h32 in
theorem Half.ends{p:Nat}(h:Half y1 y0 v u (p+1) r)(hv:v<4294967296*y1+y0)(ht:4294967296<=p+1\/4294967296*r+u<(p+1)*y0)(hr:4294967296<=r+y1):p=(v*4294967296+u) / (4294967296*y1+y0):=by
 have hl:=h.less hu hv ht;have h4:=h.split;have h5:=h.most;refine quot_of (by omega) ?_ (by omega);have h3:p*(4294967296*y1+y0)=(p*y1)*4294967296+p*y0:=by grind
 have h6:p*y0<=4294967296*4294967295:=Nat.mul_le_mul (by omega) (by omega);rw[Nat.add_mul]at h4;omega
omit h31 h32 hy0 in
theorem Half.pos(h:Half y1 y0 v u q r)(hv:v<4294967296*y1+y0)(ht:4294967296<=q\/4294967296*r+u<q*y0):0<q:=by
 exact Nat.lt_of_le_of_lt (Nat.zero_le _) (h.less hu hv ht)
end
theorem halves{y hi u1 u0:Nat}(hy:0<y) :
  (hi*4294967296+u1) / y*4294967296+((hi*4294967296+u1)%y*4294967296+u0) / y=(hi*18446744073709551616+(u1*4294967296+u0)) / y:=by
 have hd:=Nat.div_add_mod (hi*4294967296+u1) y;have e:hi*18446744073709551616+(u1*4294967296+u0)=(hi*4294967296+u1)*4294967296+u0:=by omega
 rw[e];have e2:(hi*4294967296+u1)*4294967296+u0=y*((hi*4294967296+u1) / y*4294967296)+((hi*4294967296+u1)%y*4294967296+u0):=by
  have:(hi*4294967296+u1)*4294967296=(y*((hi*4294967296+u1) / y)+(hi*4294967296+u1)%y)*4294967296:=by rw[hd]
  rw[this]
  grind
 rw[e2,Nat.mul_add_div hy]
open Go.RowKit
def DivPost(q:Nat)(w:World)(e:Ending)(w':World):Prop:=(∃ r:Int,e=.returned (.tuple #[.int .u64 (q:Int),.int .u64 r]))/\w=w'
theorem divpost_mk{q:Nat}{z r:Int}{w:World}(h:z=(q:Int)):DivPost q w (.returned (.tuple #[.int .u64 z,.int .u64 r])) w:=⟨⟨r,by rw[h]⟩,rfl⟩
theorem div64_fin{hi lo y y1 y0 u1 u0 P Q:Nat}(hy:y=4294967296*y1+y0)(hlo:lo=4294967296*u1+u0)(_hpos:0<y1)(_h1:(hi:Int)<y)
  (eP:P=(hi*4294967296+u1) / y) (eQ:Q=((hi*4294967296+u1)%y*4294967296+u0) / (4294967296*y1+y0)):P*4294967296+Q=(hi*18446744073709551616+lo) / y:=by
 rw[<- hy]at eQ;rw[eP,eQ,halves (by omega),hlo,Nat.mul_comm 4294967296 u1]
theorem div64_big(hi lo y y1 y0 u1 u0:Nat)(h0:(0:Int)<hi)(h1:(hi:Int)<y)(hy:y=4294967296*y1+y0)(hlo:lo=4294967296*u1+u0)
  (h31:2147483648<=y1) (h32:y1<4294967296) (hy0:y0<4294967296) (hu1:u1<4294967296) (hu0:u0<4294967296) (w:World)
  (a1:bits .and .u64 (y:Int) 4294967295=(y0:Int)) (a2:bits .and .u64 (lo:Int) 4294967295=(u0:Int)) (a3:bits .or .u64 (hi:Int) 0=(hi:Int))
  (hL:∀ w,Calls Tryz.prog 116 #[.int .u64 y] w fun e w'=>e=.returned (.int .i64 0)/\w=w') :
  Calls Tryz.prog 126 #[.int .u64 hi,.int .u64 lo,.int .u64 y] w (DivPost ((hi*18446744073709551616+lo) / y) w):=by
 have hy':(9223372036854775808:Int)<=y:=by omega
 have hy'':(y:Int)<=18446744073709551615:=by omega
 have hlo':(lo:Int)<=18446744073709551615:=by omega
 have n0:((y:Int) == 0)=false:=by simp;omega
 have n1:¬(y:Int)<=hi:=by omega
 have n2:((hi:Int) == 0)=false:=by simp;omega
 have n3:(0:Int)<=hi:=by omega
 have n4:(hi:Int)<=18446744073709551615:=by omega
 have n5:(0:Int)<=lo:=by omega
 have n6:(0:Int)<=y:=by omega
 have d1:(y:Int) / 4294967296=(y1:Int):=by omega
 have d2:(lo:Int) / 4294967296=(u1:Int):=by omega
 have d3:(lo:Int) / 18446744073709551616=0:=by omega
 have m1:(1:Int)<=y1:=by omega
 have m2:(y1:Int)<=4294967295:=by omega
 have m3:(u1:Int)<=4294967295:=by omega
 have m4:(u0:Int)<=4294967295:=by omega
 have m5:(0:Int)<=u1:=by omega
 have m6:(0:Int)<=u0:=by omega
 have m7:(0:Int)<=y1:=by omega
 have H31:=Lib.hid h31;have H32:=Lib.hid h32;have HY0:=Lib.hid hy0;have HU1:=Lib.hid hu1;have HU2:=Lib.hid hu0;have HY:=Lib.hid hy;have HLO:=Lib.hid hlo;have HV1:Hid (hi<4294967296*y1+y0):=Lib.hid (by omega);have hq:=Half.start h31 h32 hy0 hu1 HV1.out;obtain⟨Q,eQ⟩:∃ Q,Q=hi / y1:=⟨_,rfl⟩
 obtain⟨R,eR⟩:∃ R,R=hi%y1:=⟨_,rfl⟩
 rw[<- eQ,<- eR]at hq;have eq1:(hi:Int) / (y1:Int)=(Q:Int):=by rw[eQ];simp
 have eq2:IntKind.u64.wrap ((hi:Int) - IntKind.u64.wrap ((Q:Int)*(y1:Int)))=(R:Int):=by
  have h:=hq.split;rw[<- Int.natCast_mul,IntKind.wrap_u64,IntKind.wrap_u64];omega
 have bQ0:(0:Int)<=Q:=by omega
 have bQ1:(Q:Int)<=4294967297:=by have:=hq.most;omega
 have HQ0:=Lib.hid hq;clear hq eQ eR hy hlo h31 h32 hy0 hu1 hu0 hy';go_enter Tryz.func126,Tryz.ntmps126
 go_wp2_with fail
 refine(hL _).mono ?_;rintro e w' ⟨rfl,rfl⟩
 go_wp2_with fail
 go_loop [15,16] (fun a b=>∃ q r:Nat,a=.int .u64 q/\b=.int .u64 r/\Hid (Half y1 y0 hi u1 q r)) (fun a _=>(intOf a).toNat)
 case atStart=>exact⟨_,_,rfl,rfl,HQ0⟩
 case round =>
  obtain⟨q,r,rfl,rfl,H1⟩:=hrel;obtain⟨m,hm⟩:∃ m:Nat,m=q*y0:=⟨_,rfl⟩
  have r0:(0:Int)<=r:=by omega
  have r1:(r:Int)<4294967296:=by have:=H1.out.rest;omega
  have q0:(0:Int)<=q:=by omega
  have q1:(q:Int)<=4294967297:=by have:=H1.out.most;omega
  by_cases hbig:4294967296<=q
  ·have t0:(4294967296:Int)<=q:=by omega
   have ht:Hid (4294967296<=q\/4294967296*r+u1<q*y0):=Lib.hid (Or.inl hbig);have hqp:Hid (q=(q - 1)+1):=Lib.hid (by omega);clear hbig hm;by_cases hr:r+y1<4294967296
   ·have t1:¬(4294967296:Int)<=r+y1:=by omega
    go_wp2
    go_round
    case rel=>exact⟨q - 1,r+y1,congrArg (Value.int .u64) (by have:=hqp.out;omega),by go_num,Lib.hid (Half.down (p:=q - 1) HU1.out (by rw[<- hqp.out];exact H1.out) HV1.out (by rw[<- hqp.out];exact ht.out) hr)⟩
    case measure=>simp[intOf];have:=hqp.out;omega
   ·have t1:(4294967296:Int)<=r+y1:=by omega
    obtain⟨p,ep⟩:∃ p,p=q - 1:=⟨_,rfl⟩
    have HQ1:=Lib.hid (Half.ends (p:=q - 1) HY0.out HU1.out (by rw[<- hqp.out];exact H1.out) HV1.out (by rw[<- hqp.out];exact ht.out) (by omega));rw[<- ep]at HQ1;have hp:(q:Int) - 1=(p:Int):=by have:=hqp.out;omega
    clear ep;clear hr;obtain⟨v,ev⟩:∃ v,v=(hi*4294967296+u1)%y:=⟨_,rfl⟩
    have hv:v<y:=by rw[ev];exact Nat.mod_lt _ (by omega)
    have EP:Hid (p=(hi*4294967296+u1) / y):=Lib.hid (by rw[HY.out];exact HQ1.out);have tv:IntKind.u64.wrap (IntKind.u64.wrap (IntKind.u64.wrap ((hi:Int)*4294967296)+(u1:Int)) - IntKind.u64.wrap ((p:Int)*(y:Int)))=(v:Int):=by
     have hd:=Nat.div_add_mod (hi*4294967296+u1) y;rw[<- EP.out,<- ev,Nat.mul_comm]at hd;rw[<- Int.natCast_mul];generalize p*y=m at *;simp only[IntKind.wrap_u64];omega
    have EV:=Lib.hid ev;have c0:(0:Int)<=v:=by omega
    have c1:(v:Int)<=18446744073709551615:=by omega
    have HV2:Hid (v<4294967296*y1+y0):=Lib.hid (by rw[<- HY.out];exact hv);have g5:p<4294967296:=by
     have h3:=HU1.out;rw[EP.out,Nat.div_lt_iff_lt_mul (by omega)];omega
    have b5:(p:Int)<=4294967295:=by omega
    clear g5;have b6:(0:Int)<=p:=by omega
    have hq2:=Half.start H31.out H32.out HY0.out HU2.out HV2.out;obtain⟨Q2,eQ2⟩:∃ Q,Q=v / y1:=⟨_,rfl⟩
    obtain⟨R2,eR2⟩:∃ R,R=v%y1:=⟨_,rfl⟩
    rw[<- eQ2,<- eR2]at hq2;have eq3:(v:Int) / (y1:Int)=(Q2:Int):=by rw[eQ2];simp
    have eq4:IntKind.u64.wrap ((v:Int) - IntKind.u64.wrap ((Q2:Int)*(y1:Int)))=(R2:Int):=by
     have h:=hq2.split;rw[<- Int.natCast_mul,IntKind.wrap_u64,IntKind.wrap_u64];omega
    have bQ2:(0:Int)<=Q2:=by omega
    have bQ3:(Q2:Int)<=4294967297:=by have:=hq2.most;omega
    have HQ02:=Lib.hid hq2;clear hq2 eQ2 eR2 ev hv
    go_wp2_with fail
    go_loop [18,16] (fun a b=>∃ z rr:Nat,a=.int .u64 z/\b=.int .u64 rr/\Hid (Half y1 y0 v u0 z rr)) (fun a _=>(intOf a).toNat)
    case atStart=>exact⟨_,_,rfl,rfl,HQ02⟩
    case round =>
     obtain⟨z,rr,rfl,rfl,H2⟩:=hrel;obtain⟨mm,hmm⟩:∃ mm:Nat,mm=z*y0:=⟨_,rfl⟩
     have rr0:(0:Int)<=rr:=by omega
     have rr1:(rr:Int)<4294967296:=by have:=H2.out.rest;omega
     have zz0:(0:Int)<=z:=by omega
     have zz1:(z:Int)<=4294967297:=by have:=H2.out.most;omega
     by_cases hbigg:4294967296<=z
     ·have tt0:(4294967296:Int)<=z:=by omega
      have htt:Hid (4294967296<=z\/4294967296*rr+u0<z*y0):=Lib.hid (Or.inl hbigg);have hqpp:Hid (z=(z - 1)+1):=Lib.hid (by omega);clear hbigg hmm;by_cases hrr:rr+y1<4294967296
      ·have tt1:¬(4294967296:Int)<=rr+y1:=by omega
       go_wp2
       go_round
       case rel=>exact⟨z - 1,rr+y1,congrArg (Value.int .u64) (by have:=hqpp.out;omega),by go_num,Lib.hid (Half.down (p:=z - 1) HU2.out (by rw[<- hqpp.out];exact H2.out) HV2.out (by rw[<- hqpp.out];exact htt.out) hrr)⟩
       case measure=>simp[intOf];have:=hqpp.out;omega
      ·have tt1:(4294967296:Int)<=rr+y1:=by omega
       obtain⟨pp,epp⟩:∃ pp,pp=z - 1:=⟨_,rfl⟩
       have HQ2:=Lib.hid (Half.ends (p:=z - 1) HY0.out HU2.out (by rw[<- hqpp.out];exact H2.out) HV2.out (by rw[<- hqpp.out];exact htt.out) (by omega));rw[<- epp]at HQ2;have hpp:(z:Int) - 1=(pp:Int):=by have:=hqpp.out;omega
       clear epp;clear hrr;have fq:=Lib.hid (div64_fin (P:=p) (Q:=pp) HY.out HLO.out (by have:=H31.out;omega) h1 EP.out (by rw[<- EV.out];exact HQ2.out));have g7:pp<4294967296:=by
        have h:=HV2.out;have h3:=HU2.out;have h5:=H31.out;rw[HQ2.out,Nat.div_lt_iff_lt_mul (by omega)];omega
       have b7:(pp:Int)<=4294967295:=by omega
       clear g7;have b8:(0:Int)<=pp:=by omega
       go_wp2
       go_ret2
       exact divpost_mk (by have:=fq.out;omega)
     ·have tt0:¬(4294967296:Int)<=z:=by omega
      have hww:IntKind.u64.wrap ((z:Int)*(y0:Int))=(mm:Int):=by
       have h1:z*y0<=4294967295*4294967295:=Nat.mul_le_mul (by omega) (by have:=HY0.out;omega);rw[<- Int.natCast_mul,<- hmm,IntKind.wrap_u64];omega
      by_cases hgtt:4294967296*rr+u0<mm
      ·have tt2:(4294967296:Int)*rr+u0<mm:=by omega
       have htt:Hid (4294967296<=z\/4294967296*rr+u0<z*y0):=Lib.hid (Or.inr (by rw[<- hmm];exact hgtt));have hposs:=H2.out.pos HU2.out HV2.out htt.out;have hqpp:Hid (z=(z - 1)+1):=Lib.hid (by omega);have zz2:(1:Int)<=z:=by omega
       clear hbigg hmm hgtt hposs;by_cases hrr:rr+y1<4294967296
       ·have tt1:¬(4294967296:Int)<=rr+y1:=by omega
        go_wp2
        go_round
        case rel=>exact⟨z - 1,rr+y1,congrArg (Value.int .u64) (by have:=hqpp.out;omega),by go_num,Lib.hid (Half.down (p:=z - 1) HU2.out (by rw[<- hqpp.out];exact H2.out) HV2.out (by rw[<- hqpp.out];exact htt.out) hrr)⟩
        case measure=>simp[intOf];have:=hqpp.out;omega
       ·have tt1:(4294967296:Int)<=rr+y1:=by omega
        obtain⟨pp,epp⟩:∃ pp,pp=z - 1:=⟨_,rfl⟩
        have HQ2:=Lib.hid (Half.ends (p:=z - 1) HY0.out HU2.out (by rw[<- hqpp.out];exact H2.out) HV2.out (by rw[<- hqpp.out];exact htt.out) (by omega));rw[<- epp]at HQ2;have hpp:(z:Int) - 1=(pp:Int):=by have:=hqpp.out;omega
        clear epp;clear hrr;have fq:=Lib.hid (div64_fin (P:=p) (Q:=pp) HY.out HLO.out (by have:=H31.out;omega) h1 EP.out (by rw[<- EV.out];exact HQ2.out));have g7:pp<4294967296:=by
         have h:=HV2.out;have h3:=HU2.out;have h5:=H31.out;rw[HQ2.out,Nat.div_lt_iff_lt_mul (by omega)];omega
        have b7:(pp:Int)<=4294967295:=by omega
        clear g7;have b8:(0:Int)<=pp:=by omega
        go_wp2
        go_ret2
        exact divpost_mk (by have:=fq.out;omega)
      ·have tt2:¬(4294967296:Int)*rr+u0<mm:=by omega
       have HQ2:=Lib.hid (H2.out.fits H31.out H32.out HY0.out (by rw[<- hmm];omega));clear hbigg hmm hgtt;have fq:=Lib.hid (div64_fin (P:=p) (Q:=z) HY.out HLO.out (by have:=H31.out;omega) h1 EP.out (by rw[<- EV.out];exact HQ2.out));have g7:z<4294967296:=by
        have h:=HV2.out;have h3:=HU2.out;have h5:=H31.out;rw[HQ2.out,Nat.div_lt_iff_lt_mul (by omega)];omega
       have b7:(z:Int)<=4294967295:=by omega
       clear g7;have b8:(0:Int)<=z:=by omega
       go_wp2
       go_ret2
       exact divpost_mk (by have:=fq.out;omega)
  ·have t0:¬(4294967296:Int)<=q:=by omega
   have hw:IntKind.u64.wrap ((q:Int)*(y0:Int))=(m:Int):=by
    have h1:q*y0<=4294967295*4294967295:=Nat.mul_le_mul (by omega) (by have:=HY0.out;omega);rw[<- Int.natCast_mul,<- hm,IntKind.wrap_u64];omega
   by_cases hgt:4294967296*r+u1<m
   ·have t2:(4294967296:Int)*r+u1<m:=by omega
    have ht:Hid (4294967296<=q\/4294967296*r+u1<q*y0):=Lib.hid (Or.inr (by rw[<- hm];exact hgt));have hpos:=H1.out.pos HU1.out HV1.out ht.out;have hqp:Hid (q=(q - 1)+1):=Lib.hid (by omega);have q2:(1:Int)<=q:=by omega
    clear hbig hm hgt hpos;by_cases hr:r+y1<4294967296
    ·have t1:¬(4294967296:Int)<=r+y1:=by omega
     go_wp2
     go_round
     case rel=>exact⟨q - 1,r+y1,congrArg (Value.int .u64) (by have:=hqp.out;omega),by go_num,Lib.hid (Half.down (p:=q - 1) HU1.out (by rw[<- hqp.out];exact H1.out) HV1.out (by rw[<- hqp.out];exact ht.out) hr)⟩
     case measure=>simp[intOf];have:=hqp.out;omega
    ·have t1:(4294967296:Int)<=r+y1:=by omega
     obtain⟨p,ep⟩:∃ p,p=q - 1:=⟨_,rfl⟩
     have HQ1:=Lib.hid (Half.ends (p:=q - 1) HY0.out HU1.out (by rw[<- hqp.out];exact H1.out) HV1.out (by rw[<- hqp.out];exact ht.out) (by omega));rw[<- ep]at HQ1;have hp:(q:Int) - 1=(p:Int):=by have:=hqp.out;omega
     clear ep;clear hr;obtain⟨v,ev⟩:∃ v,v=(hi*4294967296+u1)%y:=⟨_,rfl⟩
     have hv:v<y:=by rw[ev];exact Nat.mod_lt _ (by omega)
     have EP:Hid (p=(hi*4294967296+u1) / y):=Lib.hid (by rw[HY.out];exact HQ1.out);have tv:IntKind.u64.wrap (IntKind.u64.wrap (IntKind.u64.wrap ((hi:Int)*4294967296)+(u1:Int)) - IntKind.u64.wrap ((p:Int)*(y:Int)))=(v:Int):=by
      have hd:=Nat.div_add_mod (hi*4294967296+u1) y;rw[<- EP.out,<- ev,Nat.mul_comm]at hd;rw[<- Int.natCast_mul];generalize p*y=m at *;simp only[IntKind.wrap_u64];omega
     have EV:=Lib.hid ev;have c0:(0:Int)<=v:=by omega
     have c1:(v:Int)<=18446744073709551615:=by omega
     have HV2:Hid (v<4294967296*y1+y0):=Lib.hid (by rw[<- HY.out];exact hv);have g5:p<4294967296:=by
      have h3:=HU1.out;rw[EP.out,Nat.div_lt_iff_lt_mul (by omega)];omega
     have b5:(p:Int)<=4294967295:=by omega
     clear g5;have b6:(0:Int)<=p:=by omega
     have hq2:=Half.start H31.out H32.out HY0.out HU2.out HV2.out;obtain⟨Q2,eQ2⟩:∃ Q,Q=v / y1:=⟨_,rfl⟩
     obtain⟨R2,eR2⟩:∃ R,R=v%y1:=⟨_,rfl⟩
     rw[<- eQ2,<- eR2]at hq2;have eq3:(v:Int) / (y1:Int)=(Q2:Int):=by rw[eQ2];simp
     have eq4:IntKind.u64.wrap ((v:Int) - IntKind.u64.wrap ((Q2:Int)*(y1:Int)))=(R2:Int):=by
      have h:=hq2.split;rw[<- Int.natCast_mul,IntKind.wrap_u64,IntKind.wrap_u64];omega
     have bQ2:(0:Int)<=Q2:=by omega
     have bQ3:(Q2:Int)<=4294967297:=by have:=hq2.most;omega
     have HQ02:=Lib.hid hq2;clear hq2 eQ2 eR2 ev hv
     go_wp2_with fail
     go_loop [18,16] (fun a b=>∃ z rr:Nat,a=.int .u64 z/\b=.int .u64 rr/\Hid (Half y1 y0 v u0 z rr)) (fun a _=>(intOf a).toNat)
     case atStart=>exact⟨_,_,rfl,rfl,HQ02⟩
     case round =>
      obtain⟨z,rr,rfl,rfl,H2⟩:=hrel;obtain⟨mm,hmm⟩:∃ mm:Nat,mm=z*y0:=⟨_,rfl⟩
      have rr0:(0:Int)<=rr:=by omega
      have rr1:(rr:Int)<4294967296:=by have:=H2.out.rest;omega
      have zz0:(0:Int)<=z:=by omega
      have zz1:(z:Int)<=4294967297:=by have:=H2.out.most;omega
      by_cases hbigg:4294967296<=z
      ·have tt0:(4294967296:Int)<=z:=by omega
       have htt:Hid (4294967296<=z\/4294967296*rr+u0<z*y0):=Lib.hid (Or.inl hbigg);have hqpp:Hid (z=(z - 1)+1):=Lib.hid (by omega);clear hbigg hmm;by_cases hrr:rr+y1<4294967296
       ·have tt1:¬(4294967296:Int)<=rr+y1:=by omega
        go_wp2
        go_round
        case rel=>exact⟨z - 1,rr+y1,congrArg (Value.int .u64) (by have:=hqpp.out;omega),by go_num,Lib.hid (Half.down (p:=z - 1) HU2.out (by rw[<- hqpp.out];exact H2.out) HV2.out (by rw[<- hqpp.out];exact htt.out) hrr)⟩
        case measure=>simp[intOf];have:=hqpp.out;omega
       ·have tt1:(4294967296:Int)<=rr+y1:=by omega
        obtain⟨pp,epp⟩:∃ pp,pp=z - 1:=⟨_,rfl⟩
        have HQ2:=Lib.hid (Half.ends (p:=z - 1) HY0.out HU2.out (by rw[<- hqpp.out];exact H2.out) HV2.out (by rw[<- hqpp.out];exact htt.out) (by omega));rw[<- epp]at HQ2;have hpp:(z:Int) - 1=(pp:Int):=by have:=hqpp.out;omega
        clear epp;clear hrr;have fq:=Lib.hid (div64_fin (P:=p) (Q:=pp) HY.out HLO.out (by have:=H31.out;omega) h1 EP.out (by rw[<- EV.out];exact HQ2.out));have g7:pp<4294967296:=by
         have h:=HV2.out;have h3:=HU2.out;have h5:=H31.out;rw[HQ2.out,Nat.div_lt_iff_lt_mul (by omega)];omega
        have b7:(pp:Int)<=4294967295:=by omega
        clear g7;have b8:(0:Int)<=pp:=by omega
        go_wp2
        go_ret2
        exact divpost_mk (by have:=fq.out;omega)
      ·have tt0:¬(4294967296:Int)<=z:=by omega
       have hww:IntKind.u64.wrap ((z:Int)*(y0:Int))=(mm:Int):=by
        have h1:z*y0<=4294967295*4294967295:=Nat.mul_le_mul (by omega) (by have:=HY0.out;omega);rw[<- Int.natCast_mul,<- hmm,IntKind.wrap_u64];omega
       by_cases hgtt:4294967296*rr+u0<mm
       ·have tt2:(4294967296:Int)*rr+u0<mm:=by omega
        have htt:Hid (4294967296<=z\/4294967296*rr+u0<z*y0):=Lib.hid (Or.inr (by rw[<- hmm];exact hgtt));have hposs:=H2.out.pos HU2.out HV2.out htt.out;have hqpp:Hid (z=(z - 1)+1):=Lib.hid (by omega);have zz2:(1:Int)<=z:=by omega
        clear hbigg hmm hgtt hposs;by_cases hrr:rr+y1<4294967296
        ·have tt1:¬(4294967296:Int)<=rr+y1:=by omega
         go_wp2
         go_round
         case rel=>exact⟨z - 1,rr+y1,congrArg (Value.int .u64) (by have:=hqpp.out;omega),by go_num,Lib.hid (Half.down (p:=z - 1) HU2.out (by rw[<- hqpp.out];exact H2.out) HV2.out (by rw[<- hqpp.out];exact htt.out) hrr)⟩
         case measure=>simp[intOf];have:=hqpp.out;omega
        ·have tt1:(4294967296:Int)<=rr+y1:=by omega
         obtain⟨pp,epp⟩:∃ pp,pp=z - 1:=⟨_,rfl⟩
         have HQ2:=Lib.hid (Half.ends (p:=z - 1) HY0.out HU2.out (by rw[<- hqpp.out];exact H2.out) HV2.out (by rw[<- hqpp.out];exact htt.out) (by omega));rw[<- epp]at HQ2;have hpp:(z:Int) - 1=(pp:Int):=by have:=hqpp.out;omega
         clear epp;clear hrr;have fq:=Lib.hid (div64_fin (P:=p) (Q:=pp) HY.out HLO.out (by have:=H31.out;omega) h1 EP.out (by rw[<- EV.out];exact HQ2.out));have g7:pp<4294967296:=by
          have h:=HV2.out;have h3:=HU2.out;have h5:=H31.out;rw[HQ2.out,Nat.div_lt_iff_lt_mul (by omega)];omega
         have b7:(pp:Int)<=4294967295:=by omega
         clear g7;have b8:(0:Int)<=pp:=by omega
         go_wp2
         go_ret2
         exact divpost_mk (by have:=fq.out;omega)
       ·have tt2:¬(4294967296:Int)*rr+u0<mm:=by omega
        have HQ2:=Lib.hid (H2.out.fits H31.out H32.out HY0.out (by rw[<- hmm];omega));clear hbigg hmm hgtt;have fq:=Lib.hid (div64_fin (P:=p) (Q:=z) HY.out HLO.out (by have:=H31.out;omega) h1 EP.out (by rw[<- EV.out];exact HQ2.out));have g7:z<4294967296:=by
         have h:=HV2.out;have h3:=HU2.out;have h5:=H31.out;rw[HQ2.out,Nat.div_lt_iff_lt_mul (by omega)];omega
        have b7:(z:Int)<=4294967295:=by omega
        clear g7;have b8:(0:Int)<=z:=by omega
        go_wp2
        go_ret2
        exact divpost_mk (by have:=fq.out;omega)
   ·have t2:¬(4294967296:Int)*r+u1<m:=by omega
    have HQ1:=Lib.hid (H1.out.fits H31.out H32.out HY0.out (by rw[<- hm];omega));clear hbig hm hgt;obtain⟨v,ev⟩:∃ v,v=(hi*4294967296+u1)%y:=⟨_,rfl⟩
    have hv:v<y:=by rw[ev];exact Nat.mod_lt _ (by omega)
    have EP:Hid (q=(hi*4294967296+u1) / y):=Lib.hid (by rw[HY.out];exact HQ1.out);have tv:IntKind.u64.wrap (IntKind.u64.wrap (IntKind.u64.wrap ((hi:Int)*4294967296)+(u1:Int)) - IntKind.u64.wrap ((q:Int)*(y:Int)))=(v:Int):=by
     have hd:=Nat.div_add_mod (hi*4294967296+u1) y;rw[<- EP.out,<- ev,Nat.mul_comm]at hd;rw[<- Int.natCast_mul];generalize q*y=m at *;simp only[IntKind.wrap_u64];omega
    have EV:=Lib.hid ev;have c0:(0:Int)<=v:=by omega
    have c1:(v:Int)<=18446744073709551615:=by omega
    have HV2:Hid (v<4294967296*y1+y0):=Lib.hid (by rw[<- HY.out];exact hv);have g5:q<4294967296:=by
     have h3:=HU1.out;rw[EP.out,Nat.div_lt_iff_lt_mul (by omega)];omega
    have b5:(q:Int)<=4294967295:=by omega
    clear g5;have b6:(0:Int)<=q:=by omega
    have hq2:=Half.start H31.out H32.out HY0.out HU2.out HV2.out;obtain⟨Q2,eQ2⟩:∃ Q,Q=v / y1:=⟨_,rfl⟩
    obtain⟨R2,eR2⟩:∃ R,R=v%y1:=⟨_,rfl⟩
    rw[<- eQ2,<- eR2]at hq2;have eq3:(v:Int) / (y1:Int)=(Q2:Int):=by rw[eQ2];simp
    have eq4:IntKind.u64.wrap ((v:Int) - IntKind.u64.wrap ((Q2:Int)*(y1:Int)))=(R2:Int):=by
     have h:=hq2.split;rw[<- Int.natCast_mul,IntKind.wrap_u64,IntKind.wrap_u64];omega
    have bQ2:(0:Int)<=Q2:=by omega
    have bQ3:(Q2:Int)<=4294967297:=by have:=hq2.most;omega
    have HQ02:=Lib.hid hq2;clear hq2 eQ2 eR2 ev hv
    go_wp2_with fail
    go_loop [18,16] (fun a b=>∃ z rr:Nat,a=.int .u64 z/\b=.int .u64 rr/\Hid (Half y1 y0 v u0 z rr)) (fun a _=>(intOf a).toNat)
    case atStart=>exact⟨_,_,rfl,rfl,HQ02⟩
    case round =>
     obtain⟨z,rr,rfl,rfl,H2⟩:=hrel;obtain⟨mm,hmm⟩:∃ mm:Nat,mm=z*y0:=⟨_,rfl⟩
     have rr0:(0:Int)<=rr:=by omega
     have rr1:(rr:Int)<4294967296:=by have:=H2.out.rest;omega
     have zz0:(0:Int)<=z:=by omega
     have zz1:(z:Int)<=4294967297:=by have:=H2.out.most;omega
     by_cases hbigg:4294967296<=z
     ·have tt0:(4294967296:Int)<=z:=by omega
      have htt:Hid (4294967296<=z\/4294967296*rr+u0<z*y0):=Lib.hid (Or.inl hbigg);have hqpp:Hid (z=(z - 1)+1):=Lib.hid (by omega);clear hbigg hmm;by_cases hrr:rr+y1<4294967296
      ·have tt1:¬(4294967296:Int)<=rr+y1:=by omega
       go_wp2
       go_round
       case rel=>exact⟨z - 1,rr+y1,congrArg (Value.int .u64) (by have:=hqpp.out;omega),by go_num,Lib.hid (Half.down (p:=z - 1) HU2.out (by rw[<- hqpp.out];exact H2.out) HV2.out (by rw[<- hqpp.out];exact htt.out) hrr)⟩
       case measure=>simp[intOf];have:=hqpp.out;omega
      ·have tt1:(4294967296:Int)<=rr+y1:=by omega
       obtain⟨pp,epp⟩:∃ pp,pp=z - 1:=⟨_,rfl⟩
       have HQ2:=Lib.hid (Half.ends (p:=z - 1) HY0.out HU2.out (by rw[<- hqpp.out];exact H2.out) HV2.out (by rw[<- hqpp.out];exact htt.out) (by omega));rw[<- epp]at HQ2;have hpp:(z:Int) - 1=(pp:Int):=by have:=hqpp.out;omega
       clear epp;clear hrr;have fq:=Lib.hid (div64_fin (P:=q) (Q:=pp) HY.out HLO.out (by have:=H31.out;omega) h1 EP.out (by rw[<- EV.out];exact HQ2.out));have g7:pp<4294967296:=by
        have h:=HV2.out;have h3:=HU2.out;have h5:=H31.out;rw[HQ2.out,Nat.div_lt_iff_lt_mul (by omega)];omega
       have b7:(pp:Int)<=4294967295:=by omega
       clear g7;have b8:(0:Int)<=pp:=by omega
       go_wp2
       go_ret2
       exact divpost_mk (by have:=fq.out;omega)
     ·have tt0:¬(4294967296:Int)<=z:=by omega
      have hww:IntKind.u64.wrap ((z:Int)*(y0:Int))=(mm:Int):=by
       have h1:z*y0<=4294967295*4294967295:=Nat.mul_le_mul (by omega) (by have:=HY0.out;omega);rw[<- Int.natCast_mul,<- hmm,IntKind.wrap_u64];omega
      by_cases hgtt:4294967296*rr+u0<mm
      ·have tt2:(4294967296:Int)*rr+u0<mm:=by omega
       have htt:Hid (4294967296<=z\/4294967296*rr+u0<z*y0):=Lib.hid (Or.inr (by rw[<- hmm];exact hgtt));have hposs:=H2.out.pos HU2.out HV2.out htt.out;have hqpp:Hid (z=(z - 1)+1):=Lib.hid (by omega);have zz2:(1:Int)<=z:=by omega
       clear hbigg hmm hgtt hposs;by_cases hrr:rr+y1<4294967296
       ·have tt1:¬(4294967296:Int)<=rr+y1:=by omega
        go_wp2
        go_round
        case rel=>exact⟨z - 1,rr+y1,congrArg (Value.int .u64) (by have:=hqpp.out;omega),by go_num,Lib.hid (Half.down (p:=z - 1) HU2.out (by rw[<- hqpp.out];exact H2.out) HV2.out (by rw[<- hqpp.out];exact htt.out) hrr)⟩
        case measure=>simp[intOf];have:=hqpp.out;omega
       ·have tt1:(4294967296:Int)<=rr+y1:=by omega
        obtain⟨pp,epp⟩:∃ pp,pp=z - 1:=⟨_,rfl⟩
        have HQ2:=Lib.hid (Half.ends (p:=z - 1) HY0.out HU2.out (by rw[<- hqpp.out];exact H2.out) HV2.out (by rw[<- hqpp.out];exact htt.out) (by omega));rw[<- epp]at HQ2;have hpp:(z:Int) - 1=(pp:Int):=by have:=hqpp.out;omega
        clear epp;clear hrr;have fq:=Lib.hid (div64_fin (P:=q) (Q:=pp) HY.out HLO.out (by have:=H31.out;omega) h1 EP.out (by rw[<- EV.out];exact HQ2.out));have g7:pp<4294967296:=by
         have h:=HV2.out;have h3:=HU2.out;have h5:=H31.out;rw[HQ2.out,Nat.div_lt_iff_lt_mul (by omega)];omega
        have b7:(pp:Int)<=4294967295:=by omega
        clear g7;have b8:(0:Int)<=pp:=by omega
        go_wp2
        go_ret2
        exact divpost_mk (by have:=fq.out;omega)
      ·have tt2:¬(4294967296:Int)*rr+u0<mm:=by omega
       have HQ2:=Lib.hid (H2.out.fits H31.out H32.out HY0.out (by rw[<- hmm];omega));clear hbigg hmm hgtt;have fq:=Lib.hid (div64_fin (P:=q) (Q:=z) HY.out HLO.out (by have:=H31.out;omega) h1 EP.out (by rw[<- EV.out];exact HQ2.out));have g7:z<4294967296:=by
        have h:=HV2.out;have h3:=HU2.out;have h5:=H31.out;rw[HQ2.out,Nat.div_lt_iff_lt_mul (by omega)];omega
       have b7:(z:Int)<=4294967295:=by omega
       clear g7;have b8:(0:Int)<=z:=by omega
       go_wp2
       go_ret2
       exact divpost_mk (by have:=fq.out;omega)
open Go.RowKit
theorem bitLen_bounds(x:Nat)(h:x<18446744073709551616)(h0:x≠0):1<=Lib.bitLen x/\2^(Lib.bitLen x - 1)<=x/\x<2^Lib.bitLen x:=Lib.bitLenAux_bounds 64 x (by omega) h0
theorem bitLen_full(x:Nat)(h:x<18446744073709551616)(h0:9223372036854775808<=x):Lib.bitLen x=64:=by
 obtain⟨-,h2,h3⟩:=bitLen_bounds x h (by omega);have h4:¬Lib.bitLen x<=63:=fun h=>by
  have:=Nat.pow_le_pow_right (n:=2) (by omega) h;omega
 have h5:¬65<=Lib.bitLen x:=fun h=>by
  have:=Nat.pow_le_pow_right (n:=2) (by omega) (show 64<=Lib.bitLen x - 1 by omega);omega
 omega
theorem div64_small(lo y:Nat)(h0:(0:Int)<y)(hlo:(lo:Int)<=18446744073709551615)(w:World) :
  Calls Tryz.prog 126 #[.int .u64 0,.int .u64 lo,.int .u64 y] w fun e w'=>e=.returned (.tuple #[.int .u64 ((lo / y:Nat):Int),.int .u64 ((lo%y:Nat):Int)])/\w.drew=w':=by
 have n0:((y:Int) == 0)=false:=by simp;omega
 have n1:¬(y:Int)<=0:=by omega
 have n2:(1:Int)<=y:=by omega
 have n3:(0:Int)<=lo:=by omega
 have n4:(lo:Int) / y<=lo:=by rw[<- Int.natCast_ediv];have:=Nat.div_le_self lo y;omega
 have n5:(0:Int)<=(lo:Int) / y:=Int.ediv_nonneg (by omega) (by omega);have n6:IntKind.u64.wrap ((lo:Int) / y)=(lo:Int) / y:=by rw[IntKind.wrap_u64];omega
 go_enter Tryz.func126,Tryz.ntmps126
 go_wp2_with fail
 go_region
 go_wp2
 go_ret2
 exact⟨by simp,rfl⟩
def guessN(high next b:Nat):Nat:=if b<=high then 18446744073709551615 else (high*18446744073709551616+next) / b
theorem guess_over(high next b:Nat)(h:(b:Int)<=high)(w:World) :
  Calls Tryz.prog 123 #[.int .u64 high,.int .u64 next,.int .u64 b] w fun e w'=>e=.returned (.int .u64 18446744073709551615)/\w=w':=by
 go_enter Tryz.func123,Tryz.ntmps123;go_wp2;go_ret;exact⟨rfl,rfl⟩
theorem guess_under(high next b q:Nat)(h:¬(b:Int)<=high)(w w1:World)(r:Int)
  (hD:Calls Tryz.prog 126 #[.int .u64 high,.int .u64 next,.int .u64 b] w fun e w'=>e=.returned (.tuple #[.int .u64 q,.int .u64 r])/\w1=w') :
  Calls Tryz.prog 123 #[.int .u64 high,.int .u64 next,.int .u64 b] w fun e w'=>e=.returned (.int .u64 q)/\w1=w':=by
 have HD:=Lib.hid hD;clear hD;go_enter Tryz.func123,Tryz.ntmps123
 go_wp2_with fail
 refine HD.out.mono ?_;rintro e w' ⟨rfl,rfl⟩;go_wp2;go_ret;exact⟨rfl,rfl⟩
theorem guess_under'(high next b q:Nat)(h:¬(b:Int)<=high)(w:World)
  (hD:Calls Tryz.prog 126 #[.int .u64 high,.int .u64 next,.int .u64 b] w (DivPost q w)) :
  Calls Tryz.prog 123 #[.int .u64 high,.int .u64 next,.int .u64 b] w fun e w'=>e=.returned (.int .u64 q)/\w=w':=by
 have HD:=Lib.hid hD;clear hD;go_enter Tryz.func123,Tryz.ntmps123
 go_wp2_with fail
 refine HD.out.mono ?_;rintro e w' ⟨⟨r,rfl⟩,rfl⟩;go_wp2;go_ret;exact⟨rfl,rfl⟩
theorem guess_any(high next b:Nat)(hh:high<18446744073709551616)(hn:next<18446744073709551616)(hb:b<18446744073709551616)(hb1:9223372036854775808<=b)(w:World) :
  Calls Tryz.prog 123 #[.int .u64 high,.int .u64 next,.int .u64 b] w fun e w'=>e=.returned (.int .u64 (guessN high next b:Nat))/\∃ m,w'=w.drewN m:=by
 unfold guessN;by_cases h:b<=high
 ·rw[if_pos h]
  exact(guess_over high next b (by omega) w).mono fun e w' ⟨he,hw⟩=>⟨he,0,hw ▸ rfl⟩
 ·rw[if_neg h]
  by_cases h0:high=0
  ·subst h0
   rw[Nat.zero_mul,Nat.zero_add];exact(guess_under 0 next b (next / b) (by omega) w w.drew _ (div64_small next b (by omega) (by omega) w)).mono fun e w' ⟨he,hw⟩=>⟨he,1,hw ▸ rfl⟩
  ·have hz:Lib.bitLen ((b:Int)).toNat=64:=by rw[Int.toNat_natCast];exact bitLen_full b hb hb1
   have hL:∀ w,Calls Tryz.prog 116 #[.int .u64 b] w fun e w'=>e=.returned (.int .i64 0)/\w=w':=fun w =>
    (Tryz.bits_LeadingZeros64 b w (by omega) (by omega)).mono fun e w' ⟨he,hw⟩=>⟨by rw[he,hz];rfl,hw.symm⟩
   have e1:∀ x:Nat,x<18446744073709551616->bits .and .u64 (x:Int) 4294967295=((x%4294967296:Nat):Int):=fun x hx=>by
    have:=bits_and_u64_nat x 4294967295 hx (by omega);rw[show x &&& 4294967295=x%4294967296 from Nat.and_two_pow_sub_one_eq_mod x 32]at this;exact this
   have e2:bits .or .u64 (high:Int) 0=(high:Int):=by
    have:=bits_or_u64_nat high 0 hh (by omega);rw[Nat.or_zero]at this;exact this
   have h:=div64_big high next b (b / 4294967296) (b%4294967296) (next / 4294967296) (next%4294967296) (by omega) (by omega) (by omega) (by omega) (by omega) (by omega) (by omega) (by omega) (by omega) w (e1 b hb) (e1 next hn) e2 hL
   exact(guess_under' high next b _ (by omega) w h).mono fun e w' ⟨he,hw⟩=>⟨he,0,hw ▸ rfl⟩
open Go.RowKit
def GivePost(S o n:Nat)(r d:Nat->Nat)(w:World)(e:Ending)(w':World):Prop :=
 ∃(ns:Nat->Nat) (over:Nat),e=.returned (.int .u64 over)/\over<=1/\(∀ j,j<n+1->ns j<18446744073709551616) /\
  val ns (n+1)+18446744073709551616^(n+1)*over=val r (n+1)+val d n/\Holds S o (n+1) ns w w'
theorem give_step{P rk s c c' dk N R V:Nat}(h:N+P*c=R+V)(h1:s+18446744073709551616*c'=rk+dk+c) :
  N+P*s+P*18446744073709551616*c'=R+P*rk+(V+P*dk):=by
 have e1:P*s+P*(18446744073709551616*c')=P*rk+P*dk+P*c:=by rw[<- Nat.mul_add,<- Nat.mul_add,<- Nat.mul_add,h1]
 rw[Nat.mul_assoc];omega
theorem give_any(S o capS D capD n:Nat)(r d:Nat->Nat)(hn:(n:Int)<=1000)(hr:∀ j,j<n+1->r j<18446744073709551616)(hd:∀ j,j<n->d j<18446744073709551616)
  (hSD:D≠S) (w:World)
  (hs:∀ j,j<n+1->w.cell? ⟨S,o+j,none⟩=some (.int .u64 (r j))) (hf:∀ j,j<n+1->w.frozen? ⟨S,o+j,none⟩=false)
  (hc:∀ j,j<n->w.cell? ⟨D,j,none⟩=some (.int .u64 (d j))) :
  Calls Tryz.prog 125 #[.slice (some ⟨S,o,none⟩) ((n+1:Nat)) capS,.slice (some ⟨D,0,none⟩) n capD] w (GivePost S o n r d w):=by
 have HR:=Lib.hid hr;clear hr;have HD:=Lib.hid hd;clear hd;have HS:=Lib.hid hs;clear hs;have HF:=Lib.hid hf;clear hf;have HC:=Lib.hid hc;clear hc;have HN:=Lib.hid hSD;clear hSD;go_enter Tryz.func125,Tryz.ntmps125;go_wp2
 go_loopw [5,10] (fun c i wr=>∃(k cn:Nat) (ns:Nat->Nat),k<=n/\c=.int .u64 cn/\i=.int .i64 k/\Hid (cn<=1/\(∀ j,j<k->ns j<18446744073709551616)/\val ns k+18446744073709551616^k*cn=val r k+val d k/\Holds S o k ns w wr)) (fun _ i _=>n - (intOf i).toNat)
 case atStart=>exact⟨0,0,r,Nat.zero_le _,rfl,rfl,Lib.hid ⟨by omega,fun j hj=>by omega,by simp[val],Holds.start S o r w⟩⟩
 case round =>
  obtain⟨k,cn,ns,hk,rfl,rfl,H⟩:=hrel;have hk0:(0:Int)<=k:=by omega
  have hk1:(k:Int)<=1000:=by omega
  by_cases hlt:k<n
  ·obtain⟨sn,c',lc,ls,es,hSu⟩:=add64_ex (r k) (d k) cn (HR.out k (by omega)) (HD.out k hlt) H.out.1
   have cd:wr.cell? ⟨D,k,none⟩=some (.int .u64 (d k)):=by rw[H.out.2.2.2.1.cell (p:=⟨D,k,none⟩) HN.out];exact HC.out k hlt
   have cs:wr.cell? ⟨S,o+k,none⟩=some (.int .u64 (r k)):=by rw[H.out.2.2.2.2 (o+k),if_neg (by omega)];exact HS.out k (by omega)
   have cf:wr.frozen? ⟨S,o+k,none⟩=false:=by rw[H.out.2.2.2.1.frozen];exact HF.out k (by omega)
   have ES:=Lib.hid es;clear es;go_wp2
   go_roundw
   case rel =>
    refine⟨k+1,c',fun j=>if j=k then sn else ns j,by omega,rfl,by go_num,Lib.hid ⟨lc,fun j hj=>?_,?_,H.out.2.2.2.next sn (by rw[HS.out k (by omega)];rfl)⟩⟩
    ·by_cases h:j=k
     ·simp only[h,if_true];exact ls
     ·simp only[h,if_false];exact H.out.2.1 j (by omega)
    ·have e1:val (fun j=>if j=k then sn else ns j) k=val ns k:=val_congr (fun j hj=>by simp only[show ¬j=k by omega,if_false])
     simp only[val,e1,if_true];rw[Nat.pow_succ];exact give_step H.out.2.2.1 ES.out
   case measure=>simp[intOf];omega
  ·obtain rfl:k=n:=by omega
   obtain⟨s1,b1,lb1,ls1,es1,hS1⟩:=add64_ex (r k) 0 cn (HR.out k (by omega)) (by omega) H.out.1;have hS2:∀ w,(callFunc 100 #[.int .u64 (r k),.int .u64 0,.int .u64 cn]).run Tryz.prog w=.ok (.value (.tuple #[.int .u64 s1,.int .u64 b1])) w:=hS1;clear hS1;have ES:=Lib.hid es1;clear es1;have cs:wr.cell? ⟨S,o+k,none⟩=some (.int .u64 (r k)):=by rw[H.out.2.2.2.2 (o+k),if_neg (by omega)];exact HS.out k (by omega)
   have cf:wr.frozen? ⟨S,o+k,none⟩=false:=by rw[H.out.2.2.2.1.frozen];exact HF.out k (by omega)
   go_wp2;go_ret;refine⟨fun j=>if j=k then s1 else ns j,b1,rfl,lb1,fun j hj=>?_,?_,H.out.2.2.2.next s1 (by rw[HS.out k (by omega)];rfl)⟩
   ·by_cases h:j=k
    ·simp only[h,if_true];exact ls1
    ·simp only[h,if_false];exact H.out.2.1 j (by omega)
   ·have e1:val (fun j=>if j=k then s1 else ns j) k=val ns k:=val_congr (fun j hj=>by simp only[show ¬j=k by omega,if_false])
    simp only[val,e1,if_true];have h0:=give_step (P:=18446744073709551616^k) (dk:=0) H.out.2.2.1 ES.out;rw[Nat.pow_succ];omega
open Go.RowKit
theorem val_lt{f:Nat->Nat}{n:Nat}(h:∀ j,j<n->f j<18446744073709551616):val f n<18446744073709551616^n:=by
 induction n with
 | zero=>simp[val]
 | succ n ih =>
  have h1:=ih (fun j hj=>h j (by omega));have h2:=h n (by omega);have h3:18446744073709551616^n*f n<=18446744073709551616^n*18446744073709551615:=Nat.mul_le_mul_left _ (by omega);rw[val,Nat.pow_succ];omega
theorem val_ge(f:Nat->Nat)(n:Nat):18446744073709551616^n*f n<=val f (n+1):=by rw[val];omega
theorem guess_least{r d:Nat->Nat}{k:Nat}(hr:∀ j,j<k+2->r j<18446744073709551616)(hd:0<d k)(hlt:val r (k+2)<18446744073709551616*val d (k+1))(g:Nat)
  (hg:g=if d k<=r (k+1)then 18446744073709551615 else (r (k+1)*18446744073709551616+r k) / d k):val r (k+2) / val d (k+1)<=g:=by
 have hP:0<18446744073709551616^k:=Nat.pow_pos (by omega);have hD:=val_ge d k;have hD0:0<val d (k+1):=Nat.lt_of_lt_of_le (Nat.mul_pos hP hd) hD;rw[hg]
 split
 ·have:val r (k+2) / val d (k+1)<18446744073709551616:=by rw[Nat.div_lt_iff_lt_mul hD0];exact hlt
  omega
 ·rw[Nat.le_div_iff_mul_le hd]
  have hq:=Nat.div_mul_le_self (val r (k+2)) (val d (k+1));generalize val r (k+2) / val d (k+1)=q at *;have hv:=val_lt (fun j hj=>hr j (by omega):∀ j,j<k->r j<18446744073709551616);have h1:q*(18446744073709551616^k*d k)<=q*val d (k+1):=Nat.mul_le_mul_left _ hD;have h2:val r (k+2)=val r k+18446744073709551616^k*(r (k+1)*18446744073709551616+r k):=by
   simp only[val,Nat.pow_succ]
   grind
  have h3:18446744073709551616^k*(q*d k)<18446744073709551616^k*(r (k+1)*18446744073709551616+r k+1):=by
   have:18446744073709551616^k*(q*d k)=q*(18446744073709551616^k*d k):=by grind
   rw[this,Nat.mul_add _ (r (k+1)*18446744073709551616+r k) 1,Nat.mul_one];omega
  have h4:=Nat.lt_of_mul_lt_mul_left h3;omega
theorem part_is{R D N part:Nat}(hD:0<D)(h:N+part*D=R)(hl:R / D<=part):part=R / D/\N=R%D:=by
 have h1:part<=R / D:=by rw[Nat.le_div_iff_mul_le hD];omega
 have e:part=R / D:=by omega
 refine⟨e,?_⟩;have:=Nat.div_add_mod R D;rw[<- e,Nat.mul_comm]at this;omega
theorem part_over{R D N P part:Nat}(hD:0<D)(h:N+part*D=R+P)(hN:N<P):R / D<part:=by
 rw[Nat.div_lt_iff_lt_mul hD];omega
theorem give_part{R D N N' P part over debt:Nat}(h:N+part*D=R+P*debt)(h1:N'+P*over=N+D)(hp:0<part)(ho:over<=debt):N'+(part - 1)*D=R+P*(debt - over):=by
 obtain⟨p,rfl⟩:∃ p,part=p+1:=⟨part - 1,by omega⟩
 obtain⟨e,rfl⟩:∃ e,debt=over+e:=⟨debt - over,by omega⟩
 rw[Nat.add_mul,Nat.one_mul]at h;rw[Nat.mul_add]at h;simp only[Nat.add_sub_cancel,Nat.add_sub_cancel_left];omega
open Go.RowKit
theorem Holds.then_{S o k:Nat}{n1 n2:Nat->Nat}{w wr w':World}(h:Holds S o k n1 w wr)(h':Holds S o k n2 wr w'):Holds S o k n2 w w':=by
 refine⟨h.1.trans h'.1,fun j=>?_⟩;rw[h'.2 j];by_cases hj:o<=j/\j<o+k
 ·rw[if_pos hj,if_pos hj]
 ·rw[if_neg hj,if_neg hj,h.2 j,if_neg hj]
theorem But.drawn'{S:Nat}{w w':World}(n:Nat)(h:But S (w.drewN n) w'):But S w w':=⟨h.os,h.tape,h.output,h.size,h.block,h.frozen⟩
theorem Holds.drawn'{S o k:Nat}{ns:Nat->Nat}{w w':World}(n:Nat)(h:Holds S o k ns (w.drewN n) w'):Holds S o k ns w w':=⟨h.1.drawn' n,h.2⟩
def StepPost(S o n:Nat)(r d:Nat->Nat)(w:World)(e:Ending)(w':World):Prop :=
 ∃ ns:Nat->Nat,e=.returned (.int .u64 ((val r (n+1) / val d n:Nat):Int))/\(∀ j,j<n+1->ns j<18446744073709551616)/\val ns (n+1)=val r (n+1)%val d n/\Holds S o (n+1) ns w w'
theorem exit_is{R D N P part debt:Nat}(hD:0<D)(h:N+part*D=R+P*debt)(hz:debt=0)(hl:R / D<=part):part=R / D/\N=R%D:=by
 subst hz;exact part_is hD (by rw[Nat.mul_zero,Nat.add_zero]at h;exact h) hl
theorem owed_is{R D N P part debt:Nat}(hD:0<D)(h:N+part*D=R+P*debt)(hz:debt=1)(hN:N<P):R / D<part:=by
 subst hz;exact part_over hD (by rw[Nat.mul_one]at h;exact h) hN
theorem steppost_mk{S o k q:Nat}{r d cur:Nat->Nat}{w w':World}(hq:q=val r (k+2) / val d (k+1))(h1:∀ j,j<k+2->cur j<18446744073709551616)(h2:val cur (k+2)=val r (k+2)%val d (k+1))(h3:Holds S o (k+2) cur w w') :
  StepPost S o (k+1) r d w (.returned (.int .u64 (q:Int))) w':=⟨cur,by rw[hq],h1,h2,h3⟩
theorem step_any(S o capS D capD k:Nat)(r d:Nat->Nat)(hn:(k:Int)<=100)(hr:∀ j,j<k+2->r j<18446744073709551616)(hd:∀ j,j<k+1->d j<18446744073709551616)
  (hdk:9223372036854775808<=d k) (hlt:val r (k+2)<18446744073709551616*val d (k+1)) (hSD:D≠S) (w:World)
  (hs:∀ j,j<k+2->w.cell? ⟨S,o+j,none⟩=some (.int .u64 (r j))) (hf:∀ j,j<k+2->w.frozen? ⟨S,o+j,none⟩=false)
  (hc:∀ j,j<k+1->w.cell? ⟨D,j,none⟩=some (.int .u64 (d j))) :
  Calls Tryz.prog 119 #[.slice (some ⟨S,o,none⟩) ((k+1+1:Nat)) capS,.slice (some ⟨D,0,none⟩) ((k+1:Nat)) capD] w (StepPost S o (k+1) r d w):=by
 have c1:w.cell? ⟨S,o+(k+1),none⟩=some (.int .u64 (r (k+1))):=hs (k+1) (by omega);have c2:w.cell? ⟨S,o+k,none⟩=some (.int .u64 (r k)):=hs k (by omega);have c3:w.cell? ⟨D,k,none⟩=some (.int .u64 (d k)):=hc k (by omega);have b0:(0:Int)<=k:=by omega
 have hg:=fun w=>guess_any (r (k+1)) (r k) (d k) (hr _ (by omega)) (hr _ (by omega)) (hd _ (by omega)) hdk w;obtain⟨g,eg⟩:∃ g,g=guessN (r (k+1)) (r k) (d k):=⟨_,rfl⟩
 rw[<- eg]at hg;have hgl:g<18446744073709551616:=by
  rw[eg];unfold guessN
  split
  ·omega
  ·rename_i hh
   rw[Nat.div_lt_iff_lt_mul (by omega)];have:=hr k (by omega);generalize d k=y at *;generalize r (k+1)=h at *;have h2:(h+1)*18446744073709551616<=y*18446744073709551616:=Nat.mul_le_mul_right _ (by omega);omega
 have hge:=guess_least (k:=k) hr (by omega) hlt g (by rw[eg];rfl);have hD0:0<val d (k+1):=by
  have:=Nat.mul_pos (Nat.pow_pos (n:=k) (show 0<18446744073709551616 by omega)) (show 0<d k by omega);have:=val_ge d k;omega
 have HG:=Lib.hid hg;clear hg;have HR:=Lib.hid hr;clear hr;have HD:=Lib.hid hd;clear hd;have HS:=Lib.hid hs;clear hs;have HF:=Lib.hid hf;clear hf;have HC:=Lib.hid hc;clear hc;have HN:=Lib.hid hSD;clear hSD;have HGL:=Lib.hid hgl;clear hgl;have HGE:=Lib.hid hge;clear hge;have HD0:=Lib.hid hD0;clear hD0;have HLT:=Lib.hid hlt;clear hlt;clear eg hdk;go_enter Tryz.func119,Tryz.ntmps119
 go_wp2_with fail
 go_quiet ((go_at_call 123;exact Calls.quiet_of (HG.out _)))
 go_wp2_with fail
 refine(take_any S o capS D capD (k+1) g r d (by omega) HR.out HD.out HGL.out HN.out (w.drewN nq) (fun j hj=>HS.out j hj) (fun j hj=>HF.out j hj) (fun j hj=>HC.out j hj)).mono ?_;rintro e w1 ⟨n1,debt,rfl,hd1,hb1,he1,ho1⟩;have H1:=Lib.hid hb1;clear hb1;have E1:=Lib.hid he1;clear he1;have O1:=Lib.hid (ho1.drawn' _);clear ho1
 go_wp2_with fail
 go_loopw [6,7] (fun p q wr=>∃(part debt:Nat) (cur:Nat->Nat),p=.int .u64 part/\q=.int .u64 debt/\Hid (debt<=1/\part<18446744073709551616/\val r (k+2) / val d (k+1)<=part/\(∀ j,j<k+2->cur j<18446744073709551616)/\val cur (k+2)+part*val d (k+1)=val r (k+2)+18446744073709551616^(k+2)*debt/\Holds S o (k+2) cur w wr)) (fun p _ _=>(intOf p).toNat)
 case atStart=>exact⟨g,debt,n1,rfl,rfl,Lib.hid ⟨hd1,HGL.out,HGE.out,H1.out,E1.out,O1.out⟩⟩
 case round =>
  obtain⟨part,debt,cur,rfl,rfl,H⟩:=hrel;have d0:(0:Int)<=debt:=by omega
  have d1:(debt:Int)<=1:=by have:=H.out.1;omega
  have p0:(0:Int)<=part:=by omega
  have p1:(part:Int)<=18446744073709551615:=by have:=H.out.2.1;omega
  by_cases hz:debt=0
  ·as_aux_lemma =>
   have t0:((debt:Int) != 0)=false:=by simp[hz]
   have hE:=exit_is HD0.out H.out.2.2.2.2.1 hz H.out.2.2.1;have HE:=Lib.hid hE;clear hE hz;go_wp2;go_ret;exact steppost_mk HE.out.1 H.out.2.2.2.1 HE.out.2 H.out.2.2.2.2.2
  ·as_aux_lemma =>
   have t0:((debt:Int) != 0)=true:=by simp[hz]
   have d2:(1:Int)<=debt:=by omega
   have ho:=owed_is HD0.out H.out.2.2.2.2.1 (show debt=1 by omega) (val_lt H.out.2.2.2.1);have p3:0<part:=Nat.lt_of_le_of_lt (Nat.zero_le _) ho;have p2:(1:Int)<=part:=by omega
   clear p3;have HO:=Lib.hid ho;clear ho hz
   go_wp2_with fail
   refine(give_any S o capS D capD (k+1) cur d (by omega) H.out.2.2.2.1 HD.out HN.out _ ?_ ?_ ?_).mono ?_
   ·intro j hj
    rw[H.out.2.2.2.2.2.2 (o+j),if_pos (by omega),show o+j - o=j by omega]
   ·intro j hj
    rw[H.out.2.2.2.2.2.1.frozen];exact HF.out j hj
   ·intro j hj
    rw[H.out.2.2.2.2.2.1.cell (p:=⟨D,j,none⟩) HN.out];exact HC.out j hj
   ·rintro e w2 ⟨n2,over,rfl,hd2,hb2,he2,ho2⟩
    have o0:(0:Int)<=over:=by omega
    have o1:(over:Int)<=1:=by omega
    have o2:(over:Int)<=debt:=by omega
    have H2:=Lib.hid hb2;clear hb2;have E2:=Lib.hid he2;clear he2;have O2:=Lib.hid ho2;clear ho2;go_wp2
    go_roundw
    case rel =>
     refine⟨part - 1,debt - over,n2,congrArg (Value.int .u64) (by omega),congrArg (Value.int .u64) (by omega),Lib.hid ⟨by omega,by omega,by have:=HO.out;omega,H2.out,?_,H.out.2.2.2.2.2.then_ O2.out⟩⟩;exact give_part H.out.2.2.2.2.1 E2.out (by omega) (by omega)
    case measure=>simp[intOf];omega
open Go.RowKit
theorem index8(v0 v1 v2 v3 v4 v5 v6 v7:Value)(w:World) :
  (Instr.index 135 (.agg #[v0,v1,v2,v3,v4,v5,v6,v7]) (.int .i64 0)).run Tryz.prog w=.ok v0 w /\
  (Instr.index 135 (.agg #[v0,v1,v2,v3,v4,v5,v6,v7]) (.int .i64 1)).run Tryz.prog w=.ok v1 w /\
  (Instr.index 135 (.agg #[v0,v1,v2,v3,v4,v5,v6,v7]) (.int .i64 2)).run Tryz.prog w=.ok v2 w /\
  (Instr.index 135 (.agg #[v0,v1,v2,v3,v4,v5,v6,v7]) (.int .i64 3)).run Tryz.prog w=.ok v3 w /\
  (Instr.index 135 (.agg #[v0,v1,v2,v3,v4,v5,v6,v7]) (.int .i64 4)).run Tryz.prog w=.ok v4 w /\
  (Instr.index 135 (.agg #[v0,v1,v2,v3,v4,v5,v6,v7]) (.int .i64 5)).run Tryz.prog w=.ok v5 w /\
  (Instr.index 135 (.agg #[v0,v1,v2,v3,v4,v5,v6,v7]) (.int .i64 6)).run Tryz.prog w=.ok v6 w /\
  (Instr.index 135 (.agg #[v0,v1,v2,v3,v4,v5,v6,v7]) (.int .i64 7)).run Tryz.prog w=.ok v7 w :=
 ⟨by kernel_rfl,by kernel_rfl,by kernel_rfl,by kernel_rfl,by kernel_rfl,by kernel_rfl,by kernel_rfl,by kernel_rfl⟩
theorem raise_walk(x0 x1 x2 x3 x4 x5 x6 x7 s t:Nat)(h0:(0:Int)<=s)(h64:(s:Int)<64)(ht:64 - (s:Int)=(t:Int))(w:World) :
  Calls Tryz.prog 118 #[.agg #[.int .u64 x0,.int .u64 x1,.int .u64 x2,.int .u64 x3,.int .u64 x4,.int .u64 x5,.int .u64 x6,.int .u64 x7],.int .i64 s] w fun e w' =>
   e=.returned (.agg #[.int .u64 (bits .or .u64 (0) (IntKind.u64.wrap ((x0:Int)*2^s))),.int .u64 (bits .or .u64 ((x0:Int) / 2^t) (IntKind.u64.wrap ((x1:Int)*2^s))),.int .u64 (bits .or .u64 ((x1:Int) / 2^t) (IntKind.u64.wrap ((x2:Int)*2^s))),.int .u64 (bits .or .u64 ((x2:Int) / 2^t) (IntKind.u64.wrap ((x3:Int)*2^s))),.int .u64 (bits .or .u64 ((x3:Int) / 2^t) (IntKind.u64.wrap ((x4:Int)*2^s))),.int .u64 (bits .or .u64 ((x4:Int) / 2^t) (IntKind.u64.wrap ((x5:Int)*2^s))),.int .u64 (bits .or .u64 ((x5:Int) / 2^t) (IntKind.u64.wrap ((x6:Int)*2^s))),.int .u64 (bits .or .u64 ((x6:Int) / 2^t) (IntKind.u64.wrap ((x7:Int)*2^s))),.int .u64 ((x7:Int) / 2^t)])/\Below w.heap.size w w':=by
 have i0:∀ v0 v1 v2 v3 v4 v5 v6 v7 w,_:=fun v0 v1 v2 v3 v4 v5 v6 v7 w=>(index8 v0 v1 v2 v3 v4 v5 v6 v7 w).1;have i1:∀ v0 v1 v2 v3 v4 v5 v6 v7 w,_:=fun v0 v1 v2 v3 v4 v5 v6 v7 w=>(index8 v0 v1 v2 v3 v4 v5 v6 v7 w).2.1;have i2:∀ v0 v1 v2 v3 v4 v5 v6 v7 w,_:=fun v0 v1 v2 v3 v4 v5 v6 v7 w=>(index8 v0 v1 v2 v3 v4 v5 v6 v7 w).2.2.1;have i3:∀ v0 v1 v2 v3 v4 v5 v6 v7 w,_:=fun v0 v1 v2 v3 v4 v5 v6 v7 w=>(index8 v0 v1 v2 v3 v4 v5 v6 v7 w).2.2.2.1;have i4:∀ v0 v1 v2 v3 v4 v5 v6 v7 w,_:=fun v0 v1 v2 v3 v4 v5 v6 v7 w=>(index8 v0 v1 v2 v3 v4 v5 v6 v7 w).2.2.2.2.1;have i5:∀ v0 v1 v2 v3 v4 v5 v6 v7 w,_:=fun v0 v1 v2 v3 v4 v5 v6 v7 w=>(index8 v0 v1 v2 v3 v4 v5 v6 v7 w).2.2.2.2.2.1;have i6:∀ v0 v1 v2 v3 v4 v5 v6 v7 w,_:=fun v0 v1 v2 v3 v4 v5 v6 v7 w=>(index8 v0 v1 v2 v3 v4 v5 v6 v7 w).2.2.2.2.2.2.1;have i7:∀ v0 v1 v2 v3 v4 v5 v6 v7 w,_:=fun v0 v1 v2 v3 v4 v5 v6 v7 w=>(index8 v0 v1 v2 v3 v4 v5 v6 v7 w).2.2.2.2.2.2.2;go_enter Tryz.func118,Tryz.ntmps118;go_wp2;refine wp_loop_rounds 9 ?_
 iterate 8 (rw[rounds_succ];go_wp2;go_region;go_wp2)
 rw[rounds_succ];go_wp2
 go_returns
 refine⟨?_,by go_grown⟩;rfl
open Go.RowKit
theorem copy4(W:World)(b c:Nat)(a0 a1 a2 a3:Nat)
  (s0:W.cell? ⟨c,0,none⟩=some (.int .u64 a0)) (s1:W.cell? ⟨c,1,none⟩=some (.int .u64 a1)) (s2:W.cell? ⟨c,2,none⟩=some (.int .u64 a2)) (s3:W.cell? ⟨c,3,none⟩=some (.int .u64 a3))
  (d0:(W.cell? ⟨b,0,none⟩).isSome=true) (d1:(W.cell? ⟨b,1,none⟩).isSome=true) (d2:(W.cell? ⟨b,2,none⟩).isSome=true) (d3:(W.cell? ⟨b,3,none⟩).isSome=true)
  (f0:W.frozen? ⟨b,0,none⟩=false) (f1:W.frozen? ⟨b,1,none⟩=false) (f2:W.frozen? ⟨b,2,none⟩=false) (f3:W.frozen? ⟨b,3,none⟩=false) :
  (Builtin.copy_ #[86,86] 3 #[.slice (some ⟨b,0,none⟩) 8 8,.slice (some ⟨c,0,none⟩) 4 4]).run Tryz.prog W =
   .ok (.int .i64 4) ((((W.setCell ⟨b,0,none⟩ (.int .u64 a0)).setCell ⟨b,1,none⟩ (.int .u64 a1)).setCell ⟨b,2,none⟩ (.int .u64 a2)).setCell ⟨b,3,none⟩ (.int .u64 a3)):=by
 have h:=run_copy_cells (P:=Tryz.prog) W 86 86 3 22 b 0 8 8 ⟨c,0,none⟩ 4 4 [.int .u64 a0,.int .u64 a1,.int .u64 a2,.int .u64 a3] Tryz.underlying86 (by kernel_rfl) rfl
  (fun j v hj=>by
   rcases j with _ | _ | _ | _ | j
   ·cases hj;exact s0
   ·cases hj;exact s1
   ·cases hj;exact s2
   ·cases hj;exact s3
   ·simp at hj)
  (fun j hj=>by
   rcases j with _ | _ | _ | _ | j
   ·exact d0
   ·exact d1
   ·exact d2
   ·exact d3
   ·simp at hj;omega)
  (fun j hj=>by
   rcases j with _ | _ | _ | _ | j
   ·exact f0
   ·exact f1
   ·exact f2
   ·exact f3
   ·simp at hj;omega)
  (fun v hv=>by simp at hv;rcases hv with rfl | rfl | rfl | rfl <;> rfl)
 exact h
theorem widen_nil(a0 a1 a2 a3:Nat)(w:World) :
  Calls Tryz.prog 107 #[.agg #[.int .u64 a0,.int .u64 a1,.int .u64 a2,.int .u64 a3],.slice none 0 0] w fun e w' =>
   e=.returned (.agg #[.int .u64 a0,.int .u64 a1,.int .u64 a2,.int .u64 a3,.int .u64 0,.int .u64 0,.int .u64 0,.int .u64 0])/\Below w.heap.size w w':=by
 have hcp:=copy4 ((((w.alloc (.cells #[.int .u64 a0,.int .u64 a1,.int .u64 a2,.int .u64 a3] 24)).alloc (.cells #[.int .u64 0,.int .u64 0,.int .u64 0,.int .u64 0,.int .u64 0,.int .u64 0,.int .u64 0,.int .u64 0] 135)).alloc (.cells #[.int .u64 0,.int .u64 0,.int .u64 0,.int .u64 0,.int .u64 0,.int .u64 0,.int .u64 0,.int .u64 0] 135)).drew) (w.heap.size+1+1) w.heap.size a0 a1 a2 a3
  (by go_cell) (by go_cell) (by go_cell) (by go_cell) (by go_simp) (by go_simp) (by go_simp) (by go_simp) (by go_cell) (by go_cell) (by go_cell) (by go_cell)
 have hcn:=fun W:World=>run_copy_nil (P:=Tryz.prog) W 86 86 3 22 ⟨w.heap.size+1+1,4,none⟩ 4 4 Tryz.underlying86 (by kernel_rfl);go_enter Tryz.func107,Tryz.ntmps107;go_wp2
 go_region
 go_wp2
 go_returns
 refine⟨?_,by go_grown⟩;rfl
open Go.RowKit
theorem after4k{W w1:World}{P:Prop}(b:Nat)(hb:Below W.heap.size W w1)(hB:b<W.heap.size)
  (c0:W.cell? ⟨b,0,none⟩=some (.int .u64 0)) (c1:W.cell? ⟨b,1,none⟩=some (.int .u64 0)) (c2:W.cell? ⟨b,2,none⟩=some (.int .u64 0)) (c3:W.cell? ⟨b,3,none⟩=some (.int .u64 0))
  (f0:W.frozen? ⟨b,0,none⟩=false) (f1:W.frozen? ⟨b,1,none⟩=false) (f2:W.frozen? ⟨b,2,none⟩=false) (f3:W.frozen? ⟨b,3,none⟩=false)
  (k:(w1.cell? ⟨b,0,none⟩=some (.int .u64 0)/\w1.cell? ⟨b,1,none⟩=some (.int .u64 0)/\w1.cell? ⟨b,2,none⟩=some (.int .u64 0)/\w1.cell? ⟨b,3,none⟩=some (.int .u64 0)) ->
   (w1.frozen? ⟨b,0,none⟩=false/\w1.frozen? ⟨b,1,none⟩=false/\w1.frozen? ⟨b,2,none⟩=false/\w1.frozen? ⟨b,3,none⟩=false)->b<w1.heap.size->P):P:=by
 obtain⟨q,f,z,-⟩:=after4 (B:=0) b hb (Below.refl _ _) (Nat.zero_le _) hB c0 c1 c2 c3 f0 f1 f2 f3;exact k q f z
def Is(w:World)(b:Nat)(o:Obj):Prop:=w.heap[b]?=some o
theorem Is.new{w:World}{b:Nat}(o:Obj)(h:b=w.heap.size):Is (w.alloc o) b o:=by subst h;exact heap_alloc_new w o
theorem Is.lt{w:World}{b:Nat}{o:Obj}(h:Is w b o):b<w.heap.size:=by
 rcases Nat.lt_or_ge b w.heap.size with h' | h'
 ·exact h'
 ·unfold Is at h;simp[Array.getElem?_eq_none h']at h
theorem Is.alloc{w:World}{b:Nat}{o:Obj}(h:Is w b o)(o':Obj):Is (w.alloc o') b o:=(Below.heap_alloc w o' b h.lt).trans h
theorem Is.below{w w':World}{b B:Nat}{o:Obj}(h:Is w b o)(hb:Below B w w')(hB:b<B):Is w' b o:=(hb.block b hB).trans h
theorem Is.but{w w':World}{b S:Nat}{o:Obj}(h:Is w b o)(hb:But S w w')(hS:b≠S):Is w' b o:=(hb.block b hS).trans h
theorem Is.set{w:World}{b:Nat}{o:Obj}(h:Is w b o){p:Addr}(hp:b≠p.block)(u:Value):Is (w.setCell p u) b o:=(Below.heap_setCell w p u b hp).trans h
theorem Is.z8{w:World}{b:Nat}{t:TypeId}(h:Is w b (.cells #[.int .u64 0,.int .u64 0,.int .u64 0,.int .u64 0,.int .u64 0,.int .u64 0,.int .u64 0,.int .u64 0] t)):(w.cell? ⟨b,0,none⟩=some (.int .u64 0)/\w.cell? ⟨b,1,none⟩=some (.int .u64 0)/\w.cell? ⟨b,2,none⟩=some (.int .u64 0)/\w.cell? ⟨b,3,none⟩=some (.int .u64 0)/\w.cell? ⟨b,4,none⟩=some (.int .u64 0)/\w.cell? ⟨b,5,none⟩=some (.int .u64 0)/\w.cell? ⟨b,6,none⟩=some (.int .u64 0)/\w.cell? ⟨b,7,none⟩=some (.int .u64 0))/\(w.frozen? ⟨b,0,none⟩=false/\w.frozen? ⟨b,1,none⟩=false/\w.frozen? ⟨b,2,none⟩=false/\w.frozen? ⟨b,3,none⟩=false/\w.frozen? ⟨b,4,none⟩=false/\w.frozen? ⟨b,5,none⟩=false/\w.frozen? ⟨b,6,none⟩=false/\w.frozen? ⟨b,7,none⟩=false):=by
 unfold Is at h;simp[World.cell?,World.frozen?,h]
theorem Is.z4{w:World}{b:Nat}{t:TypeId}(h:Is w b (.cells #[.int .u64 0,.int .u64 0,.int .u64 0,.int .u64 0] t)):(w.cell? ⟨b,0,none⟩=some (.int .u64 0)/\w.cell? ⟨b,1,none⟩=some (.int .u64 0)/\w.cell? ⟨b,2,none⟩=some (.int .u64 0)/\w.cell? ⟨b,3,none⟩=some (.int .u64 0))/\(w.frozen? ⟨b,0,none⟩=false/\w.frozen? ⟨b,1,none⟩=false/\w.frozen? ⟨b,2,none⟩=false/\w.frozen? ⟨b,3,none⟩=false):=by
 unfold Is at h;simp[World.cell?,World.frozen?,h]
open Go.RowKit
theorem val_split(f:Nat->Nat)(i:Nat):∀ k,val f (i+k)=val f i+18446744073709551616^i*val (fun j=>f (i+j)) k
 | 0=>by simp[val]
 | k+1=>by
  show val f (i+k)+18446744073709551616^(i+k)*f (i+k)=val f i+18446744073709551616^i*(val (fun j=>f (i+j)) k+18446744073709551616^k*f (i+k));rw[val_split f i k,Nat.mul_add,<- Nat.mul_assoc,<- Nat.pow_add,Nat.add_assoc]
theorem val_mono(f:Nat->Nat)(i k:Nat):val f i<=val f (i+k):=by rw[val_split];omega
theorem val_zero{f:Nat->Nat}:∀ k,(∀ j,j<k->f j=0)->val f k=0
 | 0,_=>rfl
 | k+1,h=>by rw[val,val_zero k (fun j hj=>h j (by omega)),h k (by omega)];rfl
theorem val_top{f:Nat->Nat}{k N:Nat}(hk:k<=N)(h:∀ j,k<=j->j<N->f j=0):val f N=val f k:=by
 obtain⟨e,rfl⟩:∃ e,N=k+e:=⟨N - k,by omega⟩
 rw[val_split,val_zero e (fun j hj=>h (k+j) (by omega) (by omega))];rfl
theorem val_ztop{f:Nat->Nat}{k N:Nat}(h:val f N<18446744073709551616^k)(j:Nat)(hk:k<=j)(hj:j<N):f j=0:=by
 obtain⟨e,rfl⟩:∃ e,N=j+1+e:=⟨N - (j+1),by omega⟩
 have h1:=val_mono f (j+1) e;have h2:18446744073709551616^j*f j<=val f (j+1):=by rw[val];omega
 have h3:18446744073709551616^k<=18446744073709551616^j:=Nat.pow_le_pow_right (by omega) hk;rcases Nat.eq_zero_or_pos (f j)with h4 | h4
 ·exact h4
 ·have h5:18446744073709551616^j*1<=18446744073709551616^j*f j:=Nat.mul_le_mul_left _ h4
  generalize 18446744073709551616^j*f j=y at *;generalize 18446744073709551616^j=z at *;generalize 18446744073709551616^k=u at *;omega
theorem val_set(f:Nat->Nat)(i x:Nat):∀ N,i<N->val (fun j=>if j=i then x else f j) N+18446744073709551616^i*f i=val f N+18446744073709551616^i*x:=by
 intro N hN;obtain⟨e,rfl⟩:∃ e,N=i+1+e:=⟨N - (i+1),by omega⟩
 rw[val_split,val_split f,val,val,if_pos rfl,val_congr (f:=fun j=>if j=i then x else f j) (g:=f) (n:=i) (fun j hj=>if_neg (by omega)),
  val_congr (f:=fun j=>if i+1+j=i then x else f (i+1+j)) (g:=fun j=>f (i+1+j)) (n:=e) (fun j hj=>if_neg (by omega))]
 omega
theorem np_spec(f:Nat->Nat):∀ n,np f n<=n/\(∀ j,np f n<=j->j<n->f j=0)/\(0<np f n->f (np f n - 1)≠0)
 | 0=>⟨Nat.le_refl _,fun j _ h=>by omega,fun h=>by simp[np]at h⟩
 | n+1=>by
  obtain⟨h1,h2,h3⟩:=np_spec f n;unfold np;by_cases e:f n=0
  ·rw[if_pos e]
   refine⟨by omega,fun j hj hn=>?_,h3⟩;by_cases q:j=n
   ·rw[q];exact e
   ·exact h2 j hj (by omega)
  ·rw[if_neg e]
   exact⟨Nat.le_refl _,fun j hj hn=>by omega,fun _=>e⟩
theorem div_take{cur:Nat->Nat}{D i n:Nat}(hD:D<=18446744073709551616^n)(hin:i+n+1<=9)(hlt:val cur 9<D*18446744073709551616^(i+1)) :
  (∀ j,i+(n+1)<=j->j<9->cur j=0)/\val cur 9=val cur i+18446744073709551616^i*val (fun j=>cur (i+j)) (n+1)/\val (fun j=>cur (i+j)) (n+1)<18446744073709551616*D:=by
 have h1:val cur 9<18446744073709551616^(i+(n+1)):=by
  refine Nat.lt_of_lt_of_le hlt ?_;have:=Nat.mul_le_mul_right (18446744073709551616^(i+1)) hD;rwa [<- Nat.pow_add,show n+(i+1)=i+(n+1) by omega]at this
 have h2:∀ j,i+(n+1)<=j->j<9->cur j=0:=fun j=>val_ztop h1 j;have h3:val cur 9=val cur i+18446744073709551616^i*val (fun j=>cur (i+j)) (n+1):=by
  rw[val_top (k:=i+(n+1)) (by omega) h2,val_split]
 refine⟨h2,h3,?_⟩;rw[h3,Nat.pow_succ]at hlt;have hp:0<18446744073709551616^i:=Nat.pow_pos (by omega);generalize val (fun j=>cur (i+j)) (n+1)=r at *;generalize 18446744073709551616^i=p at *;generalize 18446744073709551616=P at *;refine Nat.lt_of_mul_lt_mul_left (a:=p) (Nat.lt_of_le_of_lt ?_ (Nat.lt_of_lt_of_eq hlt (by rw[Nat.mul_comm p P,<- Nat.mul_assoc,Nat.mul_comm D P,Nat.mul_comm])));omega
def curN(cur ns:Nat->Nat)(i n:Nat):Nat->Nat:=fun j=>if i<=j/\j<i+(n+1)then ns (j - i)else cur j
def quoN(q:Nat->Nat)(i part:Nat):Nat->Nat:=fun j=>if j=i then part else q j
theorem curN_val{cur ns:Nat->Nat}{i n:Nat}(hin:i+n+1<=9)(h0:∀ j,i+(n+1)<=j->j<9->cur j=0):val (curN cur ns i n) 9=val cur i+18446744073709551616^i*val ns (n+1):=by
 rw[val_top (f:=curN cur ns i n) (k:=i+(n+1)) (by omega) (fun j h1 h2=>by unfold curN;rw[if_neg (by omega)];exact h0 j h1 h2),val_split,
  val_congr (f:=curN cur ns i n) (g:=cur) (n:=i) (fun j hj=>by unfold curN;rw[if_neg (by omega)]),
  val_congr (f:=fun j=>curN cur ns i n (i+j)) (g:=ns) (n:=n+1) (fun j hj=>by unfold curN;rw[if_pos (by omega),show i+j - i=j by omega])]
theorem div_arith{X q8 q8' p part r m D c R0:Nat}(h:q8*D+(c+p*r)=R0)(hr:r=D*part+m)(hq:q8'=q8+p*part)(hX:X=c+p*m):q8'*D+X=R0:=by
 subst hq hX hr;rw[<- h];grind
theorem div_round{cur q ns:Nat->Nat}{D R0 i n part:Nat}(hc:∀ j,j<9->cur j<18446744073709551616)(hD0:0<D)(hD:D<=18446744073709551616^n)(hin:i+n+1<=9)(hi:i<8)(hlt:val cur 9<D*18446744073709551616^(i+1))
  (inv:val q 8*D+val cur 9=R0) (hq:q i=0) (hp:part=val (fun j=>cur (i+j)) (n+1) / D) (hns:val ns (n+1)=val (fun j=>cur (i+j)) (n+1)%D) :
  val (quoN q i part) 8*D+val (curN cur ns i n) 9=R0/\val (curN cur ns i n) 9<D*18446744073709551616^i/\part<18446744073709551616:=by
 obtain⟨h0,h1,h2⟩:=div_take hD hin hlt;have h3:=curN_val (ns:=ns) hin h0;have h4:=val_set q i part 8 hi;rw[hq,Nat.mul_zero,Nat.add_zero]at h4;have h5:=val_lt (f:=cur) (n:=i) (fun j hj=>hc j (by omega));rw[h1]at inv;refine⟨div_arith inv (r:=val (fun j=>cur (i+j)) (n+1)) (by rw[hp];exact(Nat.div_add_mod _ _).symm) h4 (by rw[h3,hns]),?_,?_⟩
 ·rw[h3,hns]
  have h6:=Nat.mod_lt (val (fun j=>cur (i+j)) (n+1)) hD0;generalize val (fun j=>cur (i+j)) (n+1)%D=r at *;have h7:18446744073709551616^i*(r+1)<=18446744073709551616^i*D:=Nat.mul_le_mul_left _ h6;rw[Nat.mul_add,Nat.mul_one]at h7;rw[Nat.mul_comm D];generalize 18446744073709551616^i=p at *;generalize p*D=y at *;generalize p*r=z at *;omega
 ·rw[hp,Nat.div_lt_iff_lt_mul hD0];exact h2
theorem div_end{A B D q V s:Nat}(hD:D=B*2^s)(inv:q*D+V=A*2^s)(h:V<D):q=A / B/\V / 2^s=A%B:=by
 have hp:=Nat.two_pow_pos s;have e1:q=A*2^s / D:=by
  rw[<- inv,Nat.add_comm,Nat.mul_comm,Nat.add_mul_div_left _ _ (by omega),Nat.div_eq_of_lt h,Nat.zero_add]
 have e2:V=A*2^s%D:=by
  rw[<- inv,Nat.add_comm,Nat.mul_comm,Nat.add_mul_mod_self_left,Nat.mod_eq_of_lt h]
 rw[hD,Nat.mul_div_mul_right _ _ hp]at e1;rw[hD,Nat.mul_mod_mul_right]at e2;exact⟨e1,by rw[e2,Nat.mul_div_cancel _ hp]⟩
theorem div_start{a b:Nat->Nat}{m n s c:Nat}(ha:∀ j,j<m->a j<18446744073709551616)(hb:b (n - 1)≠0)(hn:0<n)(hc:m+1<=c+n):val a m*2^s<val b n*2^s*18446744073709551616^c:=by
 have h1:=val_lt ha;have h2:18446744073709551616^(n - 1)*b (n - 1)<=val b n:=by
  have:=val_mono b (n - 1+1) 0;rw[show n=n - 1+1 by omega,val,Nat.add_sub_cancel];omega
 have h3:18446744073709551616^(n - 1)*1<=18446744073709551616^(n - 1)*b (n - 1):=Nat.mul_le_mul_left _ (Nat.pos_of_ne_zero hb);have h4:18446744073709551616^m<=18446744073709551616^(n - 1)*18446744073709551616^c:=by
  rw[<- Nat.pow_add];exact Nat.pow_le_pow_right (by omega) (by omega)
 have h5:18446744073709551616^(n - 1)*18446744073709551616^c<=val b n*18446744073709551616^c:=Nat.mul_le_mul_right _ (by omega);have h6:val a m<val b n*18446744073709551616^c:=Nat.lt_of_lt_of_le h1 (Nat.le_trans h4 h5);have hp:=Nat.two_pow_pos s;rw[Nat.mul_right_comm];exact Nat.mul_lt_mul_of_lt_of_le h6 (Nat.le_refl _) hp
open Go.RowKit
def CutE(w W:World)(h:Nat)(ds:Nat->Nat)(v:Value)(wx:World):Prop :=
 ∃ D:Nat,v=.pointer (some ⟨D,0,none⟩)/\h<=D/\D<wx.heap.size/\Below h W wx/\Below w.heap.size w wx/\Holds4 D (.int .u64 (ds 0:Nat)) (.int .u64 (ds 1:Nat)) (.int .u64 (ds 2:Nat)) (.int .u64 (ds 3:Nat)) wx
theorem cutE_mk{w W wx:World}{h D:Nat}{ds:Nat->Nat}(h1:h<=D)(h2:D<wx.heap.size)(h3:Below h W wx)(h4:Below w.heap.size w W)(h6:w.heap.size<=h)(c0:wx.cell? ⟨D,0,none⟩=some (.int .u64 (ds 0:Nat)))(c1:wx.cell? ⟨D,1,none⟩=some (.int .u64 (ds 1:Nat)))(c2:wx.cell? ⟨D,2,none⟩=some (.int .u64 (ds 2:Nat)))(c3:wx.cell? ⟨D,3,none⟩=some (.int .u64 (ds 3:Nat))):CutE w W h ds (.pointer (some ⟨D,0,none⟩)) wx :=
 ⟨D,rfl,h1,h2,h3,h4.trans (h3.mono h6),c0,c1,c2,c3⟩
theorem upto4{P:Nat->Prop}(h0:P 0)(h1:P 1)(h2:P 2)(h3:P 3):∀ j,j<4->P j:=fun j hj=>by
 rcases j with _ | _ | _ | _ | j
 ·exact h0
 ·exact h1
 ·exact h2
 ·exact h3
 ·omega
theorem upto9{P:Nat->Prop}(h0:P 0)(h1:P 1)(h2:P 2)(h3:P 3)(h4:P 4)(h5:P 5)(h6:P 6)(h7:P 7)(h8:P 8):∀ j,j<9->P j:=fun j hj=>by
 rcases j with _ | _ | _ | _ | _ | _ | _ | _ | _ | j
 ·exact h0
 ·exact h1
 ·exact h2
 ·exact h3
 ·exact h4
 ·exact h5
 ·exact h6
 ·exact h7
 ·exact h8
 ·omega
theorem upto8{P:Nat->Prop}(h0:P 0)(h1:P 1)(h2:P 2)(h3:P 3)(h4:P 4)(h5:P 5)(h6:P 6)(h7:P 7):∀ j,j<8->P j:=fun j hj=>by
 rcases j with _ | _ | _ | _ | _ | _ | _ | _ | j
 ·exact h0
 ·exact h1
 ·exact h2
 ·exact h3
 ·exact h4
 ·exact h5
 ·exact h6
 ·exact h7
 ·omega
structure DivW (w:World) (S Q D z:Nat) (ds cur q:Nat->Nat) (wr:World):Prop where
 below:Below w.heap.size w wr
 size:wr.heap.size=z
 r4:Is wr (w.heap.size+1+1) (.cells #[.int .u64 0,.int .u64 0,.int .u64 0,.int .u64 0,.int .u64 0,.int .u64 0,.int .u64 0,.int .u64 0] 135)
 r5:Is wr (w.heap.size+1+1+1) (.cells #[.int .u64 0,.int .u64 0,.int .u64 0,.int .u64 0] 24)
 rest:∀ j,j<9->wr.cell? ⟨S,j,none⟩=some (.int .u64 (cur j:Nat))
 restf:∀ j,j<9->wr.frozen? ⟨S,j,none⟩=false
 quo:∀ j,j<8->wr.cell? ⟨Q,j,none⟩=some (.int .u64 (q j:Nat))
 quof:∀ j,j<8->wr.frozen? ⟨Q,j,none⟩=false
 by_:∀ j,j<4->wr.cell? ⟨D,j,none⟩=some (.int .u64 (ds j:Nat))
theorem DivW.drew{w wr:World}{S Q D z:Nat}{ds cur q:Nat->Nat}(h:DivW w S Q D z ds cur q wr):DivW w S Q D z ds cur q wr.drew :=
 ⟨h.below.drew,h.size,h.r4,h.r5,h.rest,h.restf,h.quo,h.quof,h.by_⟩
theorem DivW.step{w wr w3:World}{S Q D z i n:Nat}{ds cur q ns:Nat->Nat}{part:Nat}(h:DivW w S Q D z ds cur q wr)(hH:Holds S i (n+1) ns wr w3)(hin:i+n+1<=9)(hi:i<8)
  (hSQ:S≠Q) (hSD:D≠S) (hQD:D≠Q) (hS:w.heap.size+1+1+1<S) (hQ:w.heap.size+1+1+1<Q) :
  DivW w S Q D z ds (curN cur ns i n) (quoN q i part) (w3.setCell ⟨Q,i,none⟩ (.int .u64 (part:Nat))):=by
 obtain⟨hb,hc⟩:=hH;have hQc:w3.cell? ⟨Q,i,none⟩=some (.int .u64 (q i:Nat)):=(hb.cell (p:=⟨Q,i,none⟩) (Ne.symm hSQ)).trans (h.quo i hi);refine⟨(But.below h.below hb (by omega)).setCell (by show w.heap.size<=Q;omega) _,?_,(h.r4.but hb (by omega)).set (p:=⟨Q,i,none⟩) (by show _≠Q;omega) _,(h.r5.but hb (by omega)).set (p:=⟨Q,i,none⟩) (by show _≠Q;omega) _,?_,?_,?_,?_,?_⟩
 ·rw[<- h.size,<- hb.size];simp
 ·intro j hj
  rw[World.cell?_setCell_other _ _ _ _ (fun e=>hSQ (congrArg Addr.block e).symm),hc j];unfold curN;by_cases e:i<=j/\j<i+(n+1)
  ·rw[if_pos e,if_pos e]
  ·rw[if_neg e,if_neg e];exact h.rest j hj
 ·intro j hj
  rw[World.frozen?_setCell,hb.frozen];exact h.restf j hj
 ·intro j hj
  unfold quoN;by_cases e:j=i
  ·subst e;rw[if_pos rfl,World.cell?_setCell_same _ _ _ hQc]
  ·rw[if_neg e,World.cell?_setCell_other _ _ _ _ (fun h=>e (congrArg Addr.off h).symm),hb.cell (p:=⟨Q,j,none⟩) (Ne.symm hSQ)];exact h.quo j hj
 ·intro j hj
  rw[World.frozen?_setCell,World.frozen?_of_block (w:=wr) (a:=⟨Q,j,none⟩) (hb.block Q (Ne.symm hSQ))];exact h.quof j hj
 ·intro j hj
  rw[World.cell?_setCell_other _ _ _ _ (fun e=>hQD (congrArg Addr.block e).symm),hb.cell (p:=⟨D,j,none⟩) hSD];exact h.by_ j hj
structure ClQ (w:World) (S Q:Nat) (cur q:Nat->Nat) (wx:World):Prop where
 below:Below w.heap.size w wx
 r4:Is wx (w.heap.size+1+1) (.cells #[.int .u64 0,.int .u64 0,.int .u64 0,.int .u64 0,.int .u64 0,.int .u64 0,.int .u64 0,.int .u64 0] 135)
 r5:Is wx (w.heap.size+1+1+1) (.cells #[.int .u64 0,.int .u64 0,.int .u64 0,.int .u64 0] 24)
 quo:∀ j,j<8->wx.cell? ⟨Q,j,none⟩=some (.int .u64 (q j:Nat))
 rest:∀ j,j<9->wx.cell? ⟨S,j,none⟩=some (.int .u64 (cur j:Nat))
 hQ:Q<wx.heap.size
 hS:S<wx.heap.size
theorem ClQ.grown{w wx w':World}{S Q:Nat}{cur q:Nat->Nat}(h:ClQ w S Q cur q wx)(hb:Below wx.heap.size wx w'):ClQ w S Q cur q w' :=
 ⟨h.below.trans (hb.mono h.below.size),h.r4.below hb h.r4.lt,h.r5.below hb h.r5.lt,fun j hj=>(hb.cell (p:=⟨Q,j,none⟩) h.hQ).trans (h.quo j hj),fun j hj=>(hb.cell (p:=⟨S,j,none⟩) h.hS).trans (h.rest j hj),Nat.lt_of_lt_of_le h.hQ hb.size,Nat.lt_of_lt_of_le h.hS hb.size⟩
theorem ClQ.quos{w wx:World}{S Q:Nat}{cur q:Nat->Nat}(h:ClQ w S Q cur q wx):wx.cell? ⟨Q,0,none⟩=some (.int .u64 (q 0:Nat))/\wx.cell? ⟨Q,1,none⟩=some (.int .u64 (q 1:Nat))/\wx.cell? ⟨Q,2,none⟩=some (.int .u64 (q 2:Nat))/\wx.cell? ⟨Q,3,none⟩=some (.int .u64 (q 3:Nat))/\wx.cell? ⟨Q,4,none⟩=some (.int .u64 (q 4:Nat))/\wx.cell? ⟨Q,5,none⟩=some (.int .u64 (q 5:Nat))/\wx.cell? ⟨Q,6,none⟩=some (.int .u64 (q 6:Nat))/\wx.cell? ⟨Q,7,none⟩=some (.int .u64 (q 7:Nat)) :=
 ⟨h.quo 0 (by omega),h.quo 1 (by omega),h.quo 2 (by omega),h.quo 3 (by omega),h.quo 4 (by omega),h.quo 5 (by omega),h.quo 6 (by omega),h.quo 7 (by omega)⟩
theorem ClQ.rests{w wx:World}{S Q:Nat}{cur q:Nat->Nat}(h:ClQ w S Q cur q wx):wx.cell? ⟨S,0,none⟩=some (.int .u64 (cur 0:Nat))/\wx.cell? ⟨S,1,none⟩=some (.int .u64 (cur 1:Nat))/\wx.cell? ⟨S,2,none⟩=some (.int .u64 (cur 2:Nat))/\wx.cell? ⟨S,3,none⟩=some (.int .u64 (cur 3:Nat)) :=
 ⟨h.rest 0 (by omega),h.rest 1 (by omega),h.rest 2 (by omega),h.rest 3 (by omega)⟩
open Go.RowKit
theorem slice9(S i n:Nat)(h:i+n+1<=9)(w:World):(Instr.sliceAt 146 (.pointer (some ⟨S,0,none⟩)) (some (.int .i64 (i:Nat))) (some (.int .i64 ((i:Int)+(n:Int)+1))) none).run Tryz.prog w=.ok (.slice (some ⟨S,i,none⟩) (n+1) (9 - i)) w:=by
 have hlen:Tryz.prog.arrayLen 146=9:=by kernel_rfl
 have hsz:(sizeOf (Tryz.prog.elem 146)).run Tryz.prog w=.ok 1 w:=by kernel_rfl
 rw[run_sliceAt_array_lh w 146 ⟨S,0,none⟩ (by kernel_rfl) .i64 .i64 _ _ (by omega) (by omega) (by rw[hlen];omega),hsz,hlen];simp only[Result.andThen,slicedAt,Addr.add];rw[if_neg (by omega),show((i:Int)+(n:Int)+1).toNat=i+n+1 by omega,Int.toNat_natCast,show i+n+1 - i=n+1 by omega];simp;omega
theorem slice4(D n:Nat)(h:n<=4)(w:World):(Instr.sliceAt 24 (.pointer (some ⟨D,0,none⟩)) none (some (.int .i64 (n:Nat))) none).run Tryz.prog w=.ok (.slice (some ⟨D,0,none⟩) n 4) w:=by
 have hlen:Tryz.prog.arrayLen 24=4:=by kernel_rfl
 have hsz:(sizeOf (Tryz.prog.elem 24)).run Tryz.prog w=.ok 1 w:=by kernel_rfl
 rw[run_sliceAt_array_h w 24 ⟨D,0,none⟩ (by kernel_rfl) .i64 _ (by omega) (by rw[hlen];omega),hsz,hlen];simp only[Result.andThen,slicedAt,Addr.add];rw[if_neg (by omega),Int.toNat_natCast];simp
open Go.RowKit
def DivPostA(ds rs:Nat->Nat)(sr:(Nat->Nat)->Nat->Nat)(n:Nat)(w:World)(e:Ending)(w':World):Prop :=
 ∃ cur q:Nat->Nat,e=.returned (.tuple #[.agg #[.int .u64 (q 0:Nat),.int .u64 (q 1:Nat),.int .u64 (q 2:Nat),.int .u64 (q 3:Nat),.int .u64 (q 4:Nat),.int .u64 (q 5:Nat),.int .u64 (q 6:Nat),.int .u64 (q 7:Nat)],.agg #[.int .u64 (sr cur 0:Nat),.int .u64 (sr cur 1:Nat),.int .u64 (sr cur 2:Nat),.int .u64 (sr cur 3:Nat)]])/\(∀ j,j<9->cur j<18446744073709551616)/\(∀ j,j<8->q j<18446744073709551616)/\val q 8*val ds n+val cur 9=val rs 9/\val cur 9<val ds n/\Below w.heap.size w w'
theorem divide_walk(xs bs ds rs:Nat->Nat)(sr:(Nat->Nat)->Nat->Nat)(n k m s:Nat)(hk:k<=3)(hn:n=k+1)(hm:m<=8)(hs:s<64)(w:World)
  (hP:∀(B:Nat) (w:World),w.cell? ⟨B,0,none⟩=some (.int .u64 (bs 0:Nat))->w.cell? ⟨B,1,none⟩=some (.int .u64 (bs 1:Nat))->w.cell? ⟨B,2,none⟩=some (.int .u64 (bs 2:Nat))->w.cell? ⟨B,3,none⟩=some (.int .u64 (bs 3:Nat)) ->
   Calls Tryz.prog 115 #[.slice (some ⟨B,0,none⟩) 4 4] w fun e w'=>e=.returned (.int .i64 (n:Nat))/\w=w')
  (hL:∀ w,Calls Tryz.prog 116 #[.int .u64 (bs k:Nat)] w fun e w'=>e=.returned (.int .i64 (s:Nat))/\w=w')
  (hShl:∀ w,Calls Tryz.prog 117 #[.agg #[.int .u64 (s:Nat),.int .u64 0,.int .u64 0,.int .u64 0],.agg #[.int .u64 (bs 0:Nat),.int .u64 (bs 1:Nat),.int .u64 (bs 2:Nat),.int .u64 (bs 3:Nat)]] w fun e w'=>e=.returned (.agg #[.int .u64 (ds 0:Nat),.int .u64 (ds 1:Nat),.int .u64 (ds 2:Nat),.int .u64 (ds 3:Nat)])/\Below w.heap.size w w')
  (hR:∀ w,Calls Tryz.prog 118 #[.agg #[.int .u64 (xs 0:Nat),.int .u64 (xs 1:Nat),.int .u64 (xs 2:Nat),.int .u64 (xs 3:Nat),.int .u64 (xs 4:Nat),.int .u64 (xs 5:Nat),.int .u64 (xs 6:Nat),.int .u64 (xs 7:Nat)],.int .i64 (s:Nat)] w fun e w'=>e=.returned (.agg #[.int .u64 (rs 0:Nat),.int .u64 (rs 1:Nat),.int .u64 (rs 2:Nat),.int .u64 (rs 3:Nat),.int .u64 (rs 4:Nat),.int .u64 (rs 5:Nat),.int .u64 (rs 6:Nat),.int .u64 (rs 7:Nat),.int .u64 (rs 8:Nat)])/\Below w.heap.size w w')
  (hPa:∀(B:Nat) (w:World),w.cell? ⟨B,0,none⟩=some (.int .u64 (xs 0:Nat))->w.cell? ⟨B,1,none⟩=some (.int .u64 (xs 1:Nat))->w.cell? ⟨B,2,none⟩=some (.int .u64 (xs 2:Nat))->w.cell? ⟨B,3,none⟩=some (.int .u64 (xs 3:Nat))->w.cell? ⟨B,4,none⟩=some (.int .u64 (xs 4:Nat))->w.cell? ⟨B,5,none⟩=some (.int .u64 (xs 5:Nat))->w.cell? ⟨B,6,none⟩=some (.int .u64 (xs 6:Nat))->w.cell? ⟨B,7,none⟩=some (.int .u64 (xs 7:Nat)) ->
   Calls Tryz.prog 115 #[.slice (some ⟨B,0,none⟩) 8 8] w fun e w'=>e=.returned (.int .i64 (m:Nat))/\w=w')
  (hSr:∀(cur:Nat->Nat),(∀ j,j<9->cur j<18446744073709551616)->∀ w,Calls Tryz.prog 69 #[.agg #[.int .u64 (s:Nat),.int .u64 0,.int .u64 0,.int .u64 0],.agg #[.int .u64 (cur 0:Nat),.int .u64 (cur 1:Nat),.int .u64 (cur 2:Nat),.int .u64 (cur 3:Nat)]] w fun e w'=>e=.returned (.agg #[.int .u64 (sr cur 0:Nat),.int .u64 (sr cur 1:Nat),.int .u64 (sr cur 2:Nat),.int .u64 (sr cur 3:Nat)])/\Below w.heap.size w w')
  (hrl:∀ j,j<9->rs j<18446744073709551616) (hdl:∀ j,j<k+1->ds j<18446744073709551616) (hdk:9223372036854775808<=ds k)
  (hst:val rs 9<val ds n*18446744073709551616^(m+1 - n)) :
  Calls Tryz.prog 106 #[.agg #[.int .u64 (xs 0:Nat),.int .u64 (xs 1:Nat),.int .u64 (xs 2:Nat),.int .u64 (xs 3:Nat),.int .u64 (xs 4:Nat),.int .u64 (xs 5:Nat),.int .u64 (xs 6:Nat),.int .u64 (xs 7:Nat)],.agg #[.int .u64 (bs 0:Nat),.int .u64 (bs 1:Nat),.int .u64 (bs 2:Nat),.int .u64 (bs 3:Nat)]] w (DivPostA ds rs sr n w):=by
 have HPa:=Lib.hid hPa;clear hPa;have HSR:=Lib.hid hSr;clear hSr;have HRL:=Lib.hid hrl;clear hrl;have HDL:=Lib.hid hdl;clear hdl;have HDK:=Lib.hid hdk;clear hdk;have HST:=Lib.hid hst;clear hst;have i4:Is ((((w.alloc (.cells #[.int .u64 (xs 0:Nat),.int .u64 (xs 1:Nat),.int .u64 (xs 2:Nat),.int .u64 (xs 3:Nat),.int .u64 (xs 4:Nat),.int .u64 (xs 5:Nat),.int .u64 (xs 6:Nat),.int .u64 (xs 7:Nat)] 135)).alloc (.cells #[.int .u64 (bs 0:Nat),.int .u64 (bs 1:Nat),.int .u64 (bs 2:Nat),.int .u64 (bs 3:Nat)] 24)).alloc (.cells #[.int .u64 0,.int .u64 0,.int .u64 0,.int .u64 0,.int .u64 0,.int .u64 0,.int .u64 0,.int .u64 0] 135)).alloc (.cells #[.int .u64 0,.int .u64 0,.int .u64 0,.int .u64 0] 24)) (w.heap.size+1+1) (.cells #[.int .u64 0,.int .u64 0,.int .u64 0,.int .u64 0,.int .u64 0,.int .u64 0,.int .u64 0,.int .u64 0] 135):=(Is.new _ (by simp)).alloc _;have i5:Is ((((w.alloc (.cells #[.int .u64 (xs 0:Nat),.int .u64 (xs 1:Nat),.int .u64 (xs 2:Nat),.int .u64 (xs 3:Nat),.int .u64 (xs 4:Nat),.int .u64 (xs 5:Nat),.int .u64 (xs 6:Nat),.int .u64 (xs 7:Nat)] 135)).alloc (.cells #[.int .u64 (bs 0:Nat),.int .u64 (bs 1:Nat),.int .u64 (bs 2:Nat),.int .u64 (bs 3:Nat)] 24)).alloc (.cells #[.int .u64 0,.int .u64 0,.int .u64 0,.int .u64 0,.int .u64 0,.int .u64 0,.int .u64 0,.int .u64 0] 135)).alloc (.cells #[.int .u64 0,.int .u64 0,.int .u64 0,.int .u64 0] 24)) (w.heap.size+1+1+1) (.cells #[.int .u64 0,.int .u64 0,.int .u64 0,.int .u64 0] 24):=Is.new _ (by simp);have I4:=Lib.hid i4;clear i4;have I5:=Lib.hid i5;clear i5;have HP:=Lib.hid hP;clear hP;have HSH:=Lib.hid hShl;clear hShl;have HR:=Lib.hid hR;clear hR;have hof:∀ w,Calls Tryz.prog 70 #[.int .u64 (s:Nat)] w fun e w'=>e=.returned (.agg #[.int .u64 (s:Nat),.int .u64 0,.int .u64 0,.int .u64 0])/\w.alloc (.cells #[.int .u64 (s:Nat),.int .u64 0,.int .u64 0,.int .u64 0] 24)=w':=fun w=>of_exact s w;have HOF:=Lib.hid hof;clear hof;have h0:Below w.heap.size w ((((w.alloc (.cells #[.int .u64 (xs 0:Nat),.int .u64 (xs 1:Nat),.int .u64 (xs 2:Nat),.int .u64 (xs 3:Nat),.int .u64 (xs 4:Nat),.int .u64 (xs 5:Nat),.int .u64 (xs 6:Nat),.int .u64 (xs 7:Nat)] 135)).alloc (.cells #[.int .u64 (bs 0:Nat),.int .u64 (bs 1:Nat),.int .u64 (bs 2:Nat),.int .u64 (bs 3:Nat)] 24)).alloc (.cells #[.int .u64 0,.int .u64 0,.int .u64 0,.int .u64 0,.int .u64 0,.int .u64 0,.int .u64 0,.int .u64 0] 135)).alloc (.cells #[.int .u64 0,.int .u64 0,.int .u64 0,.int .u64 0] 24)):=by go_grown
 have H0:=Lib.hid h0;clear h0;have hnk:(n:Int) - 1=(k:Int):=by omega
 have hk0:(0:Int)<=k:=by omega
 have hk1:(k:Int)<=3:=by omega
 have hk4:(k:Int)<4:=by omega
 have hn0:(1:Int)<=n:=by omega
 have hn4:(n:Int)<=4:=by omega
 have hnz:((n:Int) == 0)=false:=by rw[beq_eq_false_iff_ne];omega
 have hs0:(0:Int)<=s:=by omega
 have hs1:(s:Int)<=63:=by omega
 have us:IntKind.u64.wrap (s:Int)=(s:Int):=by rw[IntKind.wrap_u64];omega
 have hm0:(0:Int)<=m:=by omega
 have hm8:(m:Int)<=8:=by omega
 have ck:((((w.alloc (.cells #[.int .u64 (xs 0:Nat),.int .u64 (xs 1:Nat),.int .u64 (xs 2:Nat),.int .u64 (xs 3:Nat),.int .u64 (xs 4:Nat),.int .u64 (xs 5:Nat),.int .u64 (xs 6:Nat),.int .u64 (xs 7:Nat)] 135)).alloc (.cells #[.int .u64 (bs 0:Nat),.int .u64 (bs 1:Nat),.int .u64 (bs 2:Nat),.int .u64 (bs 3:Nat)] 24)).alloc (.cells #[.int .u64 0,.int .u64 0,.int .u64 0,.int .u64 0,.int .u64 0,.int .u64 0,.int .u64 0,.int .u64 0] 135)).alloc (.cells #[.int .u64 0,.int .u64 0,.int .u64 0,.int .u64 0] 24)).cell? ⟨w.heap.size+1,k,none⟩=some (.int .u64 (bs k:Nat)) :=
  upto4 (P:=fun k=>((((w.alloc (.cells #[.int .u64 (xs 0:Nat),.int .u64 (xs 1:Nat),.int .u64 (xs 2:Nat),.int .u64 (xs 3:Nat),.int .u64 (xs 4:Nat),.int .u64 (xs 5:Nat),.int .u64 (xs 6:Nat),.int .u64 (xs 7:Nat)] 135)).alloc (.cells #[.int .u64 (bs 0:Nat),.int .u64 (bs 1:Nat),.int .u64 (bs 2:Nat),.int .u64 (bs 3:Nat)] 24)).alloc (.cells #[.int .u64 0,.int .u64 0,.int .u64 0,.int .u64 0,.int .u64 0,.int .u64 0,.int .u64 0,.int .u64 0] 135)).alloc (.cells #[.int .u64 0,.int .u64 0,.int .u64 0,.int .u64 0] 24)).cell? ⟨w.heap.size+1,k,none⟩=some (.int .u64 (bs k:Nat))) (by go_cell) (by go_cell) (by go_cell) (by go_cell) k (by omega)
 have HN:=Lib.hid hn;clear hn;go_enter Tryz.func106,Tryz.ntmps106
 go_wp2_with fail
 refine(HP.out (w.heap.size+1) ((((w.alloc (.cells #[.int .u64 (xs 0:Nat),.int .u64 (xs 1:Nat),.int .u64 (xs 2:Nat),.int .u64 (xs 3:Nat),.int .u64 (xs 4:Nat),.int .u64 (xs 5:Nat),.int .u64 (xs 6:Nat),.int .u64 (xs 7:Nat)] 135)).alloc (.cells #[.int .u64 (bs 0:Nat),.int .u64 (bs 1:Nat),.int .u64 (bs 2:Nat),.int .u64 (bs 3:Nat)] 24)).alloc (.cells #[.int .u64 0,.int .u64 0,.int .u64 0,.int .u64 0,.int .u64 0,.int .u64 0,.int .u64 0,.int .u64 0] 135)).alloc (.cells #[.int .u64 0,.int .u64 0,.int .u64 0,.int .u64 0] 24)) (by go_cell) (by go_cell) (by go_cell) (by go_cell)).mono ?_;rintro e w' ⟨rfl,rfl⟩
 go_wp2_with fail
 refine(hL _).mono ?_;rintro e w' ⟨rfl,rfl⟩;clear ck
 go_wp2_with fail
 go_cut [8] (fun v wx=>CutE w ((((w.alloc (.cells #[.int .u64 (xs 0:Nat),.int .u64 (xs 1:Nat),.int .u64 (xs 2:Nat),.int .u64 (xs 3:Nat),.int .u64 (xs 4:Nat),.int .u64 (xs 5:Nat),.int .u64 (xs 6:Nat),.int .u64 (xs 7:Nat)] 135)).alloc (.cells #[.int .u64 (bs 0:Nat),.int .u64 (bs 1:Nat),.int .u64 (bs 2:Nat),.int .u64 (bs 3:Nat)] 24)).alloc (.cells #[.int .u64 0,.int .u64 0,.int .u64 0,.int .u64 0,.int .u64 0,.int .u64 0,.int .u64 0,.int .u64 0] 135)).alloc (.cells #[.int .u64 0,.int .u64 0,.int .u64 0,.int .u64 0] 24)) (w.heap.size+1+1+1+1) ds v wx)
 case first =>
  go_region_with (first | (go_at_call 70;refine(HOF.out _).mono ?_;rintro e w' ⟨rfl,rfl⟩) | (go_at_call 117;refine(HSH.out _).mono ?_;rintro e w' ⟨rfl,hb⟩;(try (refine after4k (w.heap.size+1+1+1+1) hb ?_ ?_ ?_ ?_ ?_ ?_ ?_ ?_ ?_ ?_;(focus (first | (simp;done) | (simp;omega)));(focus (go_cell;done));(focus (go_cell;done));(focus (go_cell;done));(focus (go_cell;done));(focus (go_cell;done));(focus (go_cell;done));(focus (go_cell;done));(focus (go_cell;done));rintro⟨q0,q1,q2,q3⟩ ⟨fq0,fq1,fq2,fq3⟩ zq));(try (refine after4k (w.heap.size+1+1+1+1+1) hb ?_ ?_ ?_ ?_ ?_ ?_ ?_ ?_ ?_ ?_;(focus (first | (simp;done) | (simp;omega)));(focus (go_cell;done));(focus (go_cell;done));(focus (go_cell;done));(focus (go_cell;done));(focus (go_cell;done));(focus (go_cell;done));(focus (go_cell;done));(focus (go_cell;done));rintro⟨r0,r1,r2,r3⟩ ⟨fr0,fr1,fr2,fr3⟩ zr))))
  all_goals go_wp2_with fail
  all_goals go_meet
  all_goals
   have hbs:=hb.size;have hb2:Below (w.heap.size+1+1+1+1) ((((w.alloc (.cells #[.int .u64 (xs 0:Nat),.int .u64 (xs 1:Nat),.int .u64 (xs 2:Nat),.int .u64 (xs 3:Nat),.int .u64 (xs 4:Nat),.int .u64 (xs 5:Nat),.int .u64 (xs 6:Nat),.int .u64 (xs 7:Nat)] 135)).alloc (.cells #[.int .u64 (bs 0:Nat),.int .u64 (bs 1:Nat),.int .u64 (bs 2:Nat),.int .u64 (bs 3:Nat)] 24)).alloc (.cells #[.int .u64 0,.int .u64 0,.int .u64 0,.int .u64 0,.int .u64 0,.int .u64 0,.int .u64 0,.int .u64 0] 135)).alloc (.cells #[.int .u64 0,.int .u64 0,.int .u64 0,.int .u64 0] 24)) w':=Below.trans (by go_grown) (hb.mono (by first | (simp;done) | (simp;omega)));simp at hbs;refine cutE_mk ?_ ?_ ?_ H0.out (by omega) ?_ ?_ ?_ ?_
   ·first | omega | (simp;omega)
   ·first | omega | (simp;done) | (simp;omega)
   ·go_grown
   ·go_cell
   ·go_cell
   ·go_cell
   ·go_cell
 case rest =>
  obtain⟨D,rfl,hD1,hD2,hB1,hB2,cD⟩:=hcut;have a0:wc.cell? ⟨w.heap.size,0,none⟩=some (.int .u64 (xs 0:Nat)):=(hB1.cell (p:=⟨w.heap.size,0,none⟩) (by simp;omega)).trans (by go_cell);have a1:wc.cell? ⟨w.heap.size,1,none⟩=some (.int .u64 (xs 1:Nat)):=(hB1.cell (p:=⟨w.heap.size,1,none⟩) (by simp;omega)).trans (by go_cell);have a2:wc.cell? ⟨w.heap.size,2,none⟩=some (.int .u64 (xs 2:Nat)):=(hB1.cell (p:=⟨w.heap.size,2,none⟩) (by simp;omega)).trans (by go_cell);have a3:wc.cell? ⟨w.heap.size,3,none⟩=some (.int .u64 (xs 3:Nat)):=(hB1.cell (p:=⟨w.heap.size,3,none⟩) (by simp;omega)).trans (by go_cell);have a4:wc.cell? ⟨w.heap.size,4,none⟩=some (.int .u64 (xs 4:Nat)):=(hB1.cell (p:=⟨w.heap.size,4,none⟩) (by simp;omega)).trans (by go_cell);have a5:wc.cell? ⟨w.heap.size,5,none⟩=some (.int .u64 (xs 5:Nat)):=(hB1.cell (p:=⟨w.heap.size,5,none⟩) (by simp;omega)).trans (by go_cell);have a6:wc.cell? ⟨w.heap.size,6,none⟩=some (.int .u64 (xs 6:Nat)):=(hB1.cell (p:=⟨w.heap.size,6,none⟩) (by simp;omega)).trans (by go_cell);have a7:wc.cell? ⟨w.heap.size,7,none⟩=some (.int .u64 (xs 7:Nat)):=(hB1.cell (p:=⟨w.heap.size,7,none⟩) (by simp;omega)).trans (by go_cell)
  go_wp2_with fail
  refine(HR.out _).mono ?_;rintro e w2 ⟨rfl,hb⟩;have hsz:wc.heap.size<=w2.heap.size:=hb.size;have g0:w2.cell? ⟨w.heap.size,0,none⟩=some (.int .u64 (xs 0:Nat)):=(hb.cell (p:=⟨w.heap.size,0,none⟩) (by show w.heap.size<wc.heap.size;omega)).trans a0;have g1:w2.cell? ⟨w.heap.size,1,none⟩=some (.int .u64 (xs 1:Nat)):=(hb.cell (p:=⟨w.heap.size,1,none⟩) (by show w.heap.size<wc.heap.size;omega)).trans a1;have g2:w2.cell? ⟨w.heap.size,2,none⟩=some (.int .u64 (xs 2:Nat)):=(hb.cell (p:=⟨w.heap.size,2,none⟩) (by show w.heap.size<wc.heap.size;omega)).trans a2;have g3:w2.cell? ⟨w.heap.size,3,none⟩=some (.int .u64 (xs 3:Nat)):=(hb.cell (p:=⟨w.heap.size,3,none⟩) (by show w.heap.size<wc.heap.size;omega)).trans a3;have g4:w2.cell? ⟨w.heap.size,4,none⟩=some (.int .u64 (xs 4:Nat)):=(hb.cell (p:=⟨w.heap.size,4,none⟩) (by show w.heap.size<wc.heap.size;omega)).trans a4;have g5:w2.cell? ⟨w.heap.size,5,none⟩=some (.int .u64 (xs 5:Nat)):=(hb.cell (p:=⟨w.heap.size,5,none⟩) (by show w.heap.size<wc.heap.size;omega)).trans a5;have g6:w2.cell? ⟨w.heap.size,6,none⟩=some (.int .u64 (xs 6:Nat)):=(hb.cell (p:=⟨w.heap.size,6,none⟩) (by show w.heap.size<wc.heap.size;omega)).trans a6;have g7:w2.cell? ⟨w.heap.size,7,none⟩=some (.int .u64 (xs 7:Nat)):=(hb.cell (p:=⟨w.heap.size,7,none⟩) (by show w.heap.size<wc.heap.size;omega)).trans a7;obtain⟨y0,y1,y2,y3⟩:=cD.below hb hD2;have J4:=Lib.hid ((I4.out.below hB1 (by omega)).below hb (by omega));have J5:=Lib.hid ((I5.out.below hB1 (by omega)).below hb (by omega));have hB3:Below w.heap.size w w2:=hB2.trans (hb.mono (by omega));clear hb hB1 hB2 a0 a1 a2 a3 a4 a5 a6 a7 cD;have hDlt:D<w2.heap.size:=by omega
  have hwlt:w.heap.size<w2.heap.size:=by omega
  have hl5:w.heap.size+1+1+1<w2.heap.size:=J5.out.lt;have hDW:DivW w w2.heap.size (w2.heap.size+1) D (w2.heap.size+1+1) ds rs (fun _=>0) ((w2.alloc (.cells #[.int .u64 (rs 0:Nat),.int .u64 (rs 1:Nat),.int .u64 (rs 2:Nat),.int .u64 (rs 3:Nat),.int .u64 (rs 4:Nat),.int .u64 (rs 5:Nat),.int .u64 (rs 6:Nat),.int .u64 (rs 7:Nat),.int .u64 (rs 8:Nat)] 146)).alloc (.cells #[.int .u64 0,.int .u64 0,.int .u64 0,.int .u64 0,.int .u64 0,.int .u64 0,.int .u64 0,.int .u64 0] 135)) :=
   ⟨hB3.trans (Below.mono (B:=w2.heap.size) (by go_grown) (by omega)),by simp,(J4.out.alloc _).alloc _,(J5.out.alloc _).alloc _,
    upto9 (P:=fun j=>((w2.alloc (.cells #[.int .u64 (rs 0:Nat),.int .u64 (rs 1:Nat),.int .u64 (rs 2:Nat),.int .u64 (rs 3:Nat),.int .u64 (rs 4:Nat),.int .u64 (rs 5:Nat),.int .u64 (rs 6:Nat),.int .u64 (rs 7:Nat),.int .u64 (rs 8:Nat)] 146)).alloc (.cells #[.int .u64 0,.int .u64 0,.int .u64 0,.int .u64 0,.int .u64 0,.int .u64 0,.int .u64 0,.int .u64 0] 135)).cell? ⟨w2.heap.size,j,none⟩=some (.int .u64 (rs j:Nat))) (by go_cell) (by go_cell) (by go_cell) (by go_cell) (by go_cell) (by go_cell) (by go_cell) (by go_cell) (by go_cell) ,
    upto9 (P:=fun j=>((w2.alloc (.cells #[.int .u64 (rs 0:Nat),.int .u64 (rs 1:Nat),.int .u64 (rs 2:Nat),.int .u64 (rs 3:Nat),.int .u64 (rs 4:Nat),.int .u64 (rs 5:Nat),.int .u64 (rs 6:Nat),.int .u64 (rs 7:Nat),.int .u64 (rs 8:Nat)] 146)).alloc (.cells #[.int .u64 0,.int .u64 0,.int .u64 0,.int .u64 0,.int .u64 0,.int .u64 0,.int .u64 0,.int .u64 0] 135)).frozen? ⟨w2.heap.size,j,none⟩=false) (by go_cell) (by go_cell) (by go_cell) (by go_cell) (by go_cell) (by go_cell) (by go_cell) (by go_cell) (by go_cell) ,
    upto8 (P:=fun j=>((w2.alloc (.cells #[.int .u64 (rs 0:Nat),.int .u64 (rs 1:Nat),.int .u64 (rs 2:Nat),.int .u64 (rs 3:Nat),.int .u64 (rs 4:Nat),.int .u64 (rs 5:Nat),.int .u64 (rs 6:Nat),.int .u64 (rs 7:Nat),.int .u64 (rs 8:Nat)] 146)).alloc (.cells #[.int .u64 0,.int .u64 0,.int .u64 0,.int .u64 0,.int .u64 0,.int .u64 0,.int .u64 0,.int .u64 0] 135)).cell? ⟨w2.heap.size+1,j,none⟩=some (.int .u64 0)) (by go_cell) (by go_cell) (by go_cell) (by go_cell) (by go_cell) (by go_cell) (by go_cell) (by go_cell) ,
    upto8 (P:=fun j=>((w2.alloc (.cells #[.int .u64 (rs 0:Nat),.int .u64 (rs 1:Nat),.int .u64 (rs 2:Nat),.int .u64 (rs 3:Nat),.int .u64 (rs 4:Nat),.int .u64 (rs 5:Nat),.int .u64 (rs 6:Nat),.int .u64 (rs 7:Nat),.int .u64 (rs 8:Nat)] 146)).alloc (.cells #[.int .u64 0,.int .u64 0,.int .u64 0,.int .u64 0,.int .u64 0,.int .u64 0,.int .u64 0,.int .u64 0] 135)).frozen? ⟨w2.heap.size+1,j,none⟩=false) (by go_cell) (by go_cell) (by go_cell) (by go_cell) (by go_cell) (by go_cell) (by go_cell) (by go_cell) ,
    upto4 (P:=fun j=>((w2.alloc (.cells #[.int .u64 (rs 0:Nat),.int .u64 (rs 1:Nat),.int .u64 (rs 2:Nat),.int .u64 (rs 3:Nat),.int .u64 (rs 4:Nat),.int .u64 (rs 5:Nat),.int .u64 (rs 6:Nat),.int .u64 (rs 7:Nat),.int .u64 (rs 8:Nat)] 146)).alloc (.cells #[.int .u64 0,.int .u64 0,.int .u64 0,.int .u64 0,.int .u64 0,.int .u64 0,.int .u64 0,.int .u64 0] 135)).cell? ⟨D,j,none⟩=some (.int .u64 (ds j:Nat))) (by go_cell) (by go_cell) (by go_cell) (by go_cell) ⟩
  have HDW:=Lib.hid hDW;clear hDW;clear y0 y1 y2 y3
  go_wp2_with fail
  refine(HPa.out w.heap.size ((w2.alloc (.cells #[.int .u64 (rs 0:Nat),.int .u64 (rs 1:Nat),.int .u64 (rs 2:Nat),.int .u64 (rs 3:Nat),.int .u64 (rs 4:Nat),.int .u64 (rs 5:Nat),.int .u64 (rs 6:Nat),.int .u64 (rs 7:Nat),.int .u64 (rs 8:Nat)] 146)).alloc (.cells #[.int .u64 0,.int .u64 0,.int .u64 0,.int .u64 0,.int .u64 0,.int .u64 0,.int .u64 0,.int .u64 0] 135)) (by go_cell) (by go_cell) (by go_cell) (by go_cell) (by go_cell) (by go_cell) (by go_cell) (by go_cell)).mono ?_;rintro e w' ⟨rfl,rfl⟩;clear g0 g1 g2 g3 g4 g5 g6 g7;have hle:val rs 9=val (fun _=>0) 8*val ds n+val rs 9:=by rw[val_zero 8 (fun _ _=>rfl)];omega
  have HLE:=Lib.hid hle;clear hle
  go_wp2_with fail
  go_loopw [11] (fun iv wr=>∃(z:Int) (cur q:Nat->Nat),iv=.int .i64 z/\-4<=z/\z<=(m:Int) - n/\Hid (DivW w w2.heap.size (w2.heap.size+1) D (w2.heap.size+1+1) ds cur q wr/\(∀ j,j<9->cur j<18446744073709551616)/\(∀ j,j<8->q j<18446744073709551616)/\(∀ j,j<(z+1).toNat->q j=0)/\val q 8*val ds n+val cur 9=val rs 9/\val cur 9<val ds n*18446744073709551616^(z+1).toNat)) (fun iv _=>(intOf iv+5).toNat)
  case atStart =>
   refine⟨(m:Int) - n,rs,fun _=>0,rfl,by omega,by omega,Lib.hid ⟨HDW.out,HRL.out,fun _ _=>by show 0<_;omega,fun _ _=>rfl,HLE.out.symm,?_⟩⟩;rw[show((m:Int) - n+1).toNat=m+1 - n by omega];exact HST.out
  case round =>
   obtain⟨z,cur,q,rfl,hz0,hz1,H⟩:=hrel;by_cases hz:0<=z
   ·obtain⟨i,rfl⟩:=Int.eq_ofNat_of_zero_le hz
    have hi4:(i:Int)+n<=8:=by omega
    have hi8:(i:Int)<8:=by omega
    have w1:IntKind.i64.wrap ((i:Int)+n)=(i:Int)+n:=IntWalk.i64_in _ (by omega);have w2':IntKind.i64.wrap ((i:Int)+n+1)=(i:Int)+n+1:=IntWalk.i64_in _ (by omega);have w3:IntKind.i64.wrap (i:Int)=(i:Int):=IntWalk.i64_in _ (by omega);have w4:IntKind.i64.wrap (n:Int)=(n:Int):=IntWalk.i64_in _ (by omega);have sl9:=fun w=>slice9 w2.heap.size i n (by omega) w;have sl4:=fun w=>slice4 D n (by omega) w;have hD1:0<val ds n:=by
     have h1:=val_ge ds k;have h2:=Nat.mul_pos (Nat.pow_pos (n:=k) (show 0<18446744073709551616 by omega)) (show 0<ds k by have:=HDK.out;omega);rw[HN.out];omega
    have hDn:val ds n<=18446744073709551616^n:=by rw[HN.out];exact Nat.le_of_lt (val_lt HDL.out)
    have hlt9:val cur 9<val ds n*18446744073709551616^(i+1):=by have:=H.out.2.2.2.2.2;rwa [show((i:Int)+1).toNat=i+1 by omega]at this
    have htk:=div_take (i:=i) hDn (by omega) hlt9;have hcall:=step_any w2.heap.size i (9 - i) D 4 k (fun j=>cur (i+j)) ds (by omega) (fun j hj=>H.out.2.1 _ (by have:=HN.out;omega)) HDL.out HDK.out (by rw[show k+2=n+1 by rw[HN.out],<- HN.out];exact htk.2.2) (by omega) wr.drew (fun j hj=>H.out.1.rest _ (by have:=HN.out;omega)) (fun j hj=>H.out.1.restf _ (by have:=HN.out;omega)) (fun j hj=>H.out.1.by_ _ (by omega));rw[<- HN.out]at hcall;have HCA:=Lib.hid hcall;clear hcall;have HD1:=Lib.hid hD1;clear hD1;have HDn:=Lib.hid hDn;clear hDn;have HLT:=Lib.hid hlt9;clear hlt9 htk;have hqc:∀ w3,But w2.heap.size wr.drew w3->w3.cell? ⟨w2.heap.size+1,i,none⟩=some (.int .u64 (q i:Nat))/\w3.frozen? ⟨w2.heap.size+1,i,none⟩=false:=fun w3 hb =>
     ⟨(hb.cell (p:=⟨w2.heap.size+1,i,none⟩) (by show w2.heap.size+1≠w2.heap.size;omega)).trans (H.out.1.quo i (by omega)),(World.frozen?_of_block (w:=wr.drew) (a:=⟨w2.heap.size+1,i,none⟩) (hb.block (w2.heap.size+1) (by omega))).trans (H.out.1.quof i (by omega))⟩
    have HQC:=Lib.hid hqc;clear hqc;clear hz
    go_wp2_with fail
    go_region_with (go_at_call 119;refine HCA.out.mono ?_;rintro e w3 ⟨ns,rfl,hn1,hn2,hn3⟩;obtain⟨cq,fq⟩:=HQC.out _ hn3.1;have HN1:=Lib.hid hn1;have HN2:=Lib.hid hn2;have HN3:=Lib.hid hn3;clear hn1 hn2 hn3)
    go_wp2_with fail
    go_roundw
    case rel =>
     obtain⟨e1,e2,e3⟩:=div_round (q:=q) (ns:=ns) H.out.2.1 HD1.out HDn.out (by omega) (by omega) HLT.out H.out.2.2.2.2.1 (H.out.2.2.2.1 i (by omega)) rfl HN2.out;have hstep:=H.out.1.drew.step (part:=val (fun j=>cur (i+j)) (n+1) / val ds n) HN3.out (by omega) (by omega) (by omega) (by omega) (by omega) hl5 (by omega);rw[Int.natCast_ediv]at hstep;refine⟨(i:Int) - 1,curN cur ns i n,quoN q i (val (fun j=>cur (i+j)) (n+1) / val ds n),rfl,by omega,by omega,Lib.hid ⟨hstep,fun j hj=>?_,fun j hj=>?_,fun j hj=>?_,e1,?_⟩⟩
     ·unfold curN;split
      ·exact HN1.out _ (by omega)
      ·exact H.out.2.1 j hj
     ·unfold quoN;split
      ·exact e3
      ·exact H.out.2.2.1 j hj
     ·unfold quoN;rw[if_neg (by omega)];exact H.out.2.2.2.1 j (by omega)
     ·rw[show((i:Int) - 1+1).toNat=i by omega];exact e2
    case measure=>simp[intOf];omega
   ·have hend:val cur 9<val ds n:=by have:=H.out.2.2.2.2.2;rwa [show(z+1).toNat=0 by omega,Nat.pow_zero,Nat.mul_one]at this
    have HE:=Lib.hid hend;clear hend;have hlt:z<0:=by omega
    have hzf:decide (0<=z)=false:=by rw[decide_eq_false_iff_not];exact hz
    go_wp2_with fail
    have hat:=arrayAt4;have hcl:ClQ w w2.heap.size (w2.heap.size+1) cur q wr.drew:=⟨H.out.1.below.drew,H.out.1.r4,H.out.1.r5,H.out.1.quo,H.out.1.rest,by show w2.heap.size+1<wr.heap.size;rw[H.out.1.size];omega,by show w2.heap.size<wr.heap.size;rw[H.out.1.size];omega⟩
    refine region_quiet_tail 8 (ClQ w w2.heap.size (w2.heap.size+1) cur q) (by kernel_rfl) (by kernel_rfl) hcl ?_;simp only[List.take_succ_cons,List.take_zero,List.drop_succ_cons,List.drop_zero];clear hcl;refine wpQuiet_step (fun K hK=>?_);rw[if_pos (by rfl)];refine⟨.agg #[.int .u64 (q 0:Nat),.int .u64 (q 1:Nat),.int .u64 (q 2:Nat),.int .u64 (q 3:Nat),.int .u64 (q 4:Nat),.int .u64 (q 5:Nat),.int .u64 (q 6:Nat),.int .u64 (q 7:Nat)],fun wx hC=>?_,hK _ ?_⟩
    ·obtain⟨q0,q1,q2,q3,q4,q5,q6,q7⟩:=hC.quos
     clear hC
     go_simp
    clear hK K;refine wpQuiet_step (fun K hK=>?_)
    go_simp
    refine⟨_,fun _ _=>rfl,hK _ ?_⟩;clear hK K;refine wpQuiet_step (fun K hK=>?_)
    go_simp
    refine⟨_,fun _ _=>rfl,hK _ ?_⟩;clear hK K;refine wpQuiet_step (fun K hK=>?_);rw[if_pos (by rfl)];refine⟨.agg #[.int .u64 (s:Nat),.int .u64 0,.int .u64 0,.int .u64 0],fun wx hC=>?_,hK _ ?_⟩
    ·go_simp
     refine(HOF.out _).mono ?_;rintro e w' ⟨rfl,rfl⟩;exact⟨rfl,hC.grown (by go_grown)⟩
    clear hK K;refine wpQuiet_step (fun K hK=>?_)
    go_simp
    refine⟨_,fun _ _=>rfl,hK _ ?_⟩;clear hK K;refine wpQuiet_step (fun K hK=>?_)
    go_simp
    refine⟨_,fun _ _=>rfl,hK _ ?_⟩;clear hK K;refine wpQuiet_step (fun K hK=>?_);rw[if_pos (by rfl)];refine⟨.agg #[.int .u64 (cur 0:Nat),.int .u64 (cur 1:Nat),.int .u64 (cur 2:Nat),.int .u64 (cur 3:Nat)],fun wx hC=>?_,hK _ ?_⟩
    ·obtain⟨c0,c1,c2,c3⟩:=hC.rests
     clear hC
     go_simp
    clear hK K;refine wpQuiet_step (fun K hK=>?_);rw[if_pos (by rfl)];refine⟨.agg #[.int .u64 (sr cur 0:Nat),.int .u64 (sr cur 1:Nat),.int .u64 (sr cur 2:Nat),.int .u64 (sr cur 3:Nat)],fun wx hC=>?_,hK _ ?_⟩
    ·go_simp
     refine(HSR.out _ H.out.2.1 _).mono ?_;rintro e w' ⟨rfl,hb⟩;exact⟨rfl,hC.grown hb⟩
    clear hK K;refine wpQuiet_nil ?_;intro wx hC;have h4:=hC.r4;have h5:=hC.r5;have hB:=Lib.hid hC.below;clear hC;obtain⟨⟨c0,c1,c2,c3,c4,c5,c6,c7⟩,⟨e0,e1,e2,e3,e4,e5,e6,e7⟩⟩:=h4.z8;obtain⟨⟨k0,k1,k2,k3⟩,⟨l0,l1,l2,l3⟩⟩:=h5.z4;have hlt4:=h4.lt;have hlt5:=h5.lt;clear h4 h5;go_wp2;refine bodyPost_ret (v:=.tuple #[.agg #[.int .u64 (q 0:Nat),.int .u64 (q 1:Nat),.int .u64 (q 2:Nat),.int .u64 (q 3:Nat),.int .u64 (q 4:Nat),.int .u64 (q 5:Nat),.int .u64 (q 6:Nat),.int .u64 (q 7:Nat)],.agg #[.int .u64 (sr cur 0:Nat),.int .u64 (sr cur 1:Nat),.int .u64 (sr cur 2:Nat),.int .u64 (sr cur 3:Nat)]]) (by simp[results,Tryz.results106,go_sem,c0,c1,c2,c3,c4,c5,c6,c7,k0,k1,k2,k3];try rfl) rfl ⟨cur,q,rfl,H.out.2.1,H.out.2.2.1,H.out.2.2.2.2.1,HE.out,?_⟩;have hB2:=hB.out;go_grown
open Go.RowKit
theorem wv_one{x:Nat}(h:x<18446744073709551616):wv x=.agg #[.int .u64 x,.int .u64 0,.int .u64 0,.int .u64 0]:=by
 have:=wv_n4 (a0:=x) (a1:=0) (a2:=0) (a3:=0) h (by omega) (by omega) (by omega);rw[show n4 x 0 0 0=x by unfold n4;omega]at this;exact this
open Go.RowKit
def pd(x j:Nat):Nat:=x / 18446744073709551616^j%18446744073709551616
theorem pd_lt(x j:Nat):pd x j<18446744073709551616:=Nat.mod_lt _ (by omega)
theorem val_pd(x:Nat):∀ n,val (pd x) n=x%18446744073709551616^n
 | 0=>by simp[val,Nat.mod_one]
 | n+1=>by rw[val,val_pd x n,Nat.pow_succ,Nat.mod_mul];rfl
theorem val_one(f:Nat->Nat):val f 1=f 0:=by simp[val]
theorem pd_val{f:Nat->Nat}{n:Nat}(h:∀ j,j<n->f j<18446744073709551616)(j:Nat)(hj:j<n):pd (val f n) j=f j:=by
 obtain⟨e,rfl⟩:∃ e,n=j+(1+e):=⟨n - j - 1,by omega⟩
 have h1:=val_lt (f:=f) (n:=j) (fun i hi=>h i (by omega));have h2:=h j (by omega);unfold pd;rw[val_split,val_split (fun i=>f (j+i)) 1 e,val_one,Nat.add_comm,Nat.mul_add_div (Nat.pow_pos (by omega)),Nat.div_eq_of_lt h1,Nat.pow_one];simp only[Nat.add_zero];omega
theorem pd_top{x n:Nat}(h:x<18446744073709551616^n):pd x n=0:=by unfold pd;rw[Nat.div_eq_of_lt h]
theorem wv_row(x:Nat):wv x=.agg #[.int .u64 (pd x 0:Nat),.int .u64 (pd x 1:Nat),.int .u64 (pd x 2:Nat),.int .u64 (pd x 3:Nat)]:=by
 unfold wv pd;simp only[Nat.pow_zero,Nat.div_one,Nat.pow_one,show 18446744073709551616^2=340282366920938463463374607431768211456 by rfl,show 18446744073709551616^3=6277101735386680763835789423207666416102355444464034512896 by rfl]
theorem dv_row(x:Nat):dv x=.agg #[.int .u64 (pd x 0:Nat),.int .u64 (pd x 1:Nat),.int .u64 (pd x 2:Nat),.int .u64 (pd x 3:Nat),.int .u64 (pd x 4:Nat),.int .u64 (pd x 5:Nat),.int .u64 (pd x 6:Nat),.int .u64 (pd x 7:Nat)]:=by
 unfold dv pd;simp only[Nat.pow_zero,Nat.div_one,Nat.pow_one,show 18446744073709551616^2=340282366920938463463374607431768211456 by rfl,show 18446744073709551616^3=6277101735386680763835789423207666416102355444464034512896 by rfl,show 18446744073709551616^4=2^256 by rfl,show 18446744073709551616^5=2135987035920910082395021706169552114602704522356652769947041607822219725780640550022962086936576 by rfl,show 18446744073709551616^6=39402006196394479212279040100143613805079739270465446667948293404245721771497210611414266254884915640806627990306816 by rfl,show 18446744073709551616^7=726838724295606890549323807888004534353641360687318060281490199180639288113397923326191050713763565560762521606266177933534601628614656 by rfl]
theorem raise_num{A s t:Nat}(h:s+t=64)(j:Nat):pd A (j+1)*2^s%18446744073709551616+pd A j / 2^t=pd (A*2^s) (j+1):=by
 have hD:=pow_split h;have hc:=cmb_lt (p:=pd A (j+1)) (q:=pd A j) (pd_lt A j) h;have hS:=Nat.two_pow_pos s;have hT:=Nat.two_pow_pos t;have e1:A*2^s / 18446744073709551616^(j+1)=A / 18446744073709551616^j / 2^t:=by
  rw[Nat.pow_succ,<- hD,Nat.mul_comm (2^s),<- Nat.mul_assoc,Nat.mul_div_mul_right _ _ hS,Nat.div_div_eq_div_mul]
 have e2:A / 18446744073709551616^(j+1)=A / 18446744073709551616^j / 18446744073709551616:=by rw[Nat.pow_succ,Nat.div_div_eq_div_mul]
 unfold pd at hc |-
 rw[e2,Nat.mod_mul_mod]at hc;rw[e1,e2,Nat.mod_mul_mod];generalize A / 18446744073709551616^j=Y at *;have e3:Y / 2^t=Y / 18446744073709551616*2^s+Y%18446744073709551616 / 2^t:=by
  have h1:=Nat.div_add_mod Y 18446744073709551616;have h2:Y / 2^t=(18446744073709551616*(Y / 18446744073709551616)+Y%18446744073709551616) / 2^t:=by rw[h1]
  rw[h2];generalize Y%18446744073709551616=y;generalize Y / 18446744073709551616=Z;rw[<- hD,Nat.mul_comm (2^s),Nat.mul_assoc,Nat.mul_add_div hT,Nat.mul_comm]
 rw[e3,Nat.add_mod,Nat.mod_eq_of_lt (a:=Y%18446744073709551616 / 2^t) (Nat.lt_of_le_of_lt (Nat.div_le_self _ _) (Nat.mod_lt _ (by omega)))];exact(Nat.mod_eq_of_lt hc).symm
theorem raise_low(A s:Nat):pd A 0*2^s%18446744073709551616=pd (A*2^s) 0:=by
 unfold pd;rw[Nat.pow_zero,Nat.div_one,Nat.div_one,Nat.mod_mul_mod]
theorem raise_any(A s:Nat)(hs:s<64)(hA:A<18446744073709551616^8)(w:World):Calls Tryz.prog 118 #[.agg #[.int .u64 (pd A 0:Nat),.int .u64 (pd A 1:Nat),.int .u64 (pd A 2:Nat),.int .u64 (pd A 3:Nat),.int .u64 (pd A 4:Nat),.int .u64 (pd A 5:Nat),.int .u64 (pd A 6:Nat),.int .u64 (pd A 7:Nat)],.int .i64 (s:Nat)] w fun e w'=>e=.returned (.agg #[.int .u64 (pd (A*2^s) 0:Nat),.int .u64 (pd (A*2^s) 1:Nat),.int .u64 (pd (A*2^s) 2:Nat),.int .u64 (pd (A*2^s) 3:Nat),.int .u64 (pd (A*2^s) 4:Nat),.int .u64 (pd (A*2^s) 5:Nat),.int .u64 (pd (A*2^s) 6:Nat),.int .u64 (pd (A*2^s) 7:Nat),.int .u64 (pd (A*2^s) 8:Nat)])/\Below w.heap.size w w':=by
 obtain⟨t,ht⟩:∃ t,s+t=64:=⟨64 - s,by omega⟩
 have h:=raise_walk (pd A 0) (pd A 1) (pd A 2) (pd A 3) (pd A 4) (pd A 5) (pd A 6) (pd A 7) s t (by omega) (by omega) (by omega) w;have e:∀ j,bits .or .u64 ((pd A j:Int) / 2^t) (IntKind.u64.wrap ((pd A (j+1):Int)*2^s))=((pd (A*2^s) (j+1):Nat):Int):=fun j=>by
  rw[cmb_down (p:=pd A j) (q:=pd A (j+1)) (s:=t) (t:=s) (pd_lt _ _) (by omega),Nat.add_comm,raise_num ht]
 have e0:bits .or .u64 0 (IntKind.u64.wrap ((pd A 0:Int)*2^s))=((pd (A*2^s) 0:Nat):Int):=by
  have:=cmb_down (p:=0) (q:=pd A 0) (s:=t) (t:=s) (by omega) (by omega);rw[Nat.zero_div,Nat.zero_add,raise_low]at this;have h0:(((0:Nat):Int) / 2^t)=0:=by simp
  rwa [h0]at this
 have e8:(pd A 7:Int) / 2^t=((pd (A*2^s) 8:Nat):Int):=by
  rw[<- raise_num ht 7,pd_top hA,Nat.zero_mul,Nat.zero_mod,Nat.zero_add];simp
 rw[e0,e 0,e 1,e 2,e 3,e 4,e 5,e 6,e8]at h;exact h
theorem divide_zero(A:Nat)(w:World):Calls Tryz.prog 106 #[.agg #[.int .u64 (pd A 0:Nat),.int .u64 (pd A 1:Nat),.int .u64 (pd A 2:Nat),.int .u64 (pd A 3:Nat),.int .u64 (pd A 4:Nat),.int .u64 (pd A 5:Nat),.int .u64 (pd A 6:Nat),.int .u64 (pd A 7:Nat)],.agg #[.int .u64 0,.int .u64 0,.int .u64 0,.int .u64 0]] w fun e w'=>e=.returned (.tuple #[.agg #[.int .u64 0,.int .u64 0,.int .u64 0,.int .u64 0,.int .u64 0,.int .u64 0,.int .u64 0,.int .u64 0],.agg #[.int .u64 0,.int .u64 0,.int .u64 0,.int .u64 0]])/\Below w.heap.size w w':=by
 have hp:∀(B:Nat) (w:World),w.cell? ⟨B,0,none⟩=some (.int .u64 0)->w.cell? ⟨B,1,none⟩=some (.int .u64 0)->w.cell? ⟨B,2,none⟩=some (.int .u64 0)->w.cell? ⟨B,3,none⟩=some (.int .u64 0)->Calls Tryz.prog 115 #[.slice (some ⟨B,0,none⟩) 4 4] w fun e w'=>e=.returned (.int .i64 0)/\w=w':=fun B w c0 c1 c2 c3 =>
  parts_any B 0 4 4 (fun _=>0) (by omega) w (upto4 (P:=fun j=>w.cell? ⟨B,0+j,none⟩=some (.int .u64 0)) c0 c1 c2 c3)
 go_enter Tryz.func106,Tryz.ntmps106
 go_wp2_with fail
 refine(hp (w.heap.size+1) _ (by go_cell) (by go_cell) (by go_cell) (by go_cell)).mono ?_;rintro e w' ⟨rfl,rfl⟩;go_wp2
 go_returns
 exact⟨rfl,by go_grown⟩
theorem top_part{B n:Nat}(hB:B≠0)(h4:B<18446744073709551616^4)(hn:n=np (pd B) 4):∃ k,k<=3/\n=k+1/\pd B k≠0/\B<18446744073709551616^(k+1)/\B=val (pd B) (k+1):=by
 obtain⟨h1,h2,h3⟩:=np_spec (pd B) 4;have hv:val (pd B) 4=B:=by rw[val_pd,Nat.mod_eq_of_lt h4]
 have hn0:0<np (pd B) 4:=by
  rcases Nat.eq_zero_or_pos (np (pd B) 4)with h | h
  ·rw[h]at h2
   have:=val_zero (f:=pd B) 4 (fun j hj=>h2 j (by omega) hj);omega
  ·exact h
 refine⟨np (pd B) 4 - 1,by omega,by omega,h3 hn0,?_,?_⟩
 ·have:=val_lt (f:=pd B) (n:=np (pd B) 4) (fun j _=>pd_lt _ _)
  rw[<- val_top h1 h2,hv]at this;rwa [show np (pd B) 4 - 1+1=np (pd B) 4 by omega]
 ·rw[show np (pd B) 4 - 1+1=np (pd B) 4 by omega,<- val_top h1 h2,hv]
theorem raised{B k s:Nat}(hb:pd B k≠0)(hB:B<18446744073709551616^(k+1))(hs:s=64 - Lib.bitLen (pd B k)):s<64/\s+Lib.bitLen (pd B k)=64/\B*2^s<18446744073709551616^(k+1)/\9223372036854775808<=pd (B*2^s) k:=by
 obtain⟨h1,h2,h3⟩:=bitLen_bounds (pd B k) (pd_lt _ _) hb;have h4:Lib.bitLen (pd B k)<=64:=by
  rcases Nat.lt_or_ge 64 (Lib.bitLen (pd B k))with h | h
  ·have:=Nat.pow_le_pow_right (n:=2) (by omega) (show 64<=Lib.bitLen (pd B k) - 1 by omega)
   have:=pd_lt B k;omega
  ·exact h
 have hk:pd B k=B / 18446744073709551616^k:=by
  unfold pd;rw[Nat.mod_eq_of_lt];rw[Nat.div_lt_iff_lt_mul (Nat.pow_pos (by omega)),Nat.mul_comm,<- Nat.pow_succ];exact hB
 have h5:B<18446744073709551616^k*2^Lib.bitLen (pd B k):=by
  have:=Nat.div_add_mod B (18446744073709551616^k);have hm:=Nat.mod_lt B (Nat.pow_pos (n:=k) (show 0<18446744073709551616 by omega));rw[<- hk]at this;have h6:18446744073709551616^k*(pd B k+1)<=18446744073709551616^k*2^Lib.bitLen (pd B k):=Nat.mul_le_mul_left _ h3;rw[Nat.mul_add,Nat.mul_one]at h6;generalize 18446744073709551616^k*2^Lib.bitLen (pd B k)=u at *;generalize 18446744073709551616^k*pd B k=v at *;generalize 18446744073709551616^k=y at *;omega
 have h6:18446744073709551616^k*2^(Lib.bitLen (pd B k) - 1)<=B:=by
  have:=Nat.div_mul_le_self B (18446744073709551616^k);rw[<- hk]at this;refine Nat.le_trans ?_ this;rw[Nat.mul_comm];exact Nat.mul_le_mul_right _ h2
 have e64:s+Lib.bitLen (pd B k)=64:=by omega
 have hp:=Nat.two_pow_pos s;have h7:B*2^s<18446744073709551616^(k+1):=by
  have:=Nat.mul_lt_mul_of_pos_right h5 hp;rw[Nat.mul_assoc,<- Nat.pow_add,show Lib.bitLen (pd B k)+s=64 by omega,show(2:Nat)^64=18446744073709551616 by rfl,<- Nat.pow_succ]at this;exact this
 refine⟨by omega,e64,h7,?_⟩;have h8:18446744073709551616^k*9223372036854775808<=B*2^s:=by
  have:=Nat.mul_le_mul_right (2^s) h6;rw[Nat.mul_assoc,<- Nat.pow_add,show Lib.bitLen (pd B k) - 1+s=63 by omega,show(2:Nat)^63=9223372036854775808 by rfl]at this;exact this
 unfold pd;rw[Nat.mod_eq_of_lt (by rw[Nat.div_lt_iff_lt_mul (Nat.pow_pos (by omega)),Nat.mul_comm 18446744073709551616,<- Nat.pow_succ];exact h7),Nat.le_div_iff_mul_le (Nat.pow_pos (by omega)),Nat.mul_comm];exact h8
theorem divide_row(A B:Nat)(hA:A<18446744073709551616^8)(hB:B≠0)(h4:B<18446744073709551616^4)(w:World):Calls Tryz.prog 106 #[.agg #[.int .u64 (pd A 0:Nat),.int .u64 (pd A 1:Nat),.int .u64 (pd A 2:Nat),.int .u64 (pd A 3:Nat),.int .u64 (pd A 4:Nat),.int .u64 (pd A 5:Nat),.int .u64 (pd A 6:Nat),.int .u64 (pd A 7:Nat)],.agg #[.int .u64 (pd B 0:Nat),.int .u64 (pd B 1:Nat),.int .u64 (pd B 2:Nat),.int .u64 (pd B 3:Nat)]] w fun e w'=>e=.returned (.tuple #[dv (A / B),wv (A%B)])/\Below w.heap.size w w':=by
 obtain⟨n,hn⟩:∃ n,n=np (pd B) 4:=⟨_,rfl⟩
 obtain⟨m,hm⟩:∃ m,m=np (pd A) 8:=⟨_,rfl⟩
 obtain⟨k,hk,hnk,hbk,hBk,hBv⟩:=top_part hB h4 hn;obtain⟨s,hs⟩:∃ s,s=64 - Lib.bitLen (pd B k):=⟨_,rfl⟩
 obtain⟨s1,s2,s3,s4⟩:=raised hbk hBk hs;obtain⟨m1,m2,-⟩:=np_spec (pd A) 8;rw[<- hm]at m1 m2;have vA:val (pd A) 8=A:=by rw[val_pd,Nat.mod_eq_of_lt hA]
 have vA2:val (pd A) m=A:=by rw[<- val_top m1 m2,vA]
 have k4:18446744073709551616^(k+1)<=18446744073709551616^4:=Nat.pow_le_pow_right (by omega) (by omega);have s5:B*2^s<18446744073709551616^4:=Nat.lt_of_lt_of_le s3 k4;have vD:val (pd (B*2^s)) n=B*2^s:=by rw[hnk,val_pd,Nat.mod_eq_of_lt s3]
 have hA9:A*2^s<18446744073709551616^9:=by
  have h1:2^s<=2^64:=Nat.pow_le_pow_right (by omega) (by omega);have h2:A*2^s<=A*18446744073709551616:=Nat.mul_le_mul_left _ h1;have h3:A*18446744073709551616<18446744073709551616^8*18446744073709551616:=Nat.mul_lt_mul_of_pos_right hA (by omega);rw[<- Nat.pow_succ]at h3;exact Nat.lt_of_le_of_lt h2 h3
 have vR:val (pd (A*2^s)) 9=A*2^s:=by rw[val_pd,Nat.mod_eq_of_lt hA9]
 have hP4:18446744073709551616^4=2^256:=by rfl
 have hw:=divide_walk (pd A) (pd B) (pd (B*2^s)) (pd (A*2^s)) (fun cur=>pd (val cur 4 / 2^s)) n k m s hk hnk m1 s1 w
  (fun B' w c0 c1 c2 c3=>by
   have:=parts_any B' 0 4 4 (pd B) (by omega) w (upto4 (P:=fun j=>w.cell? ⟨B',0+j,none⟩=some (.int .u64 (pd B j:Nat))) c0 c1 c2 c3);rw[<- hn]at this;exact this)
  (fun w=>(Tryz.bits_LeadingZeros64 (pd B k:Nat) w (by omega) (by have:=pd_lt B k;omega)).mono fun e w' ⟨he,hw⟩=>⟨by rw[he,Int.toNat_natCast,show(64:Int) - (Lib.bitLen (pd B k):Int)=((s:Nat):Int) by omega],hw.symm⟩)
  (fun w=>by
   have h:=shl_any s B w;rw[show min (s%2^256) 256=s by omega,wv_one (x:=s) (by omega),wv_row B,wv_row (B*2^s)]at h;exact h)
  (fun w=>raise_any A s s1 hA w)
  (fun B' w c0 c1 c2 c3 c4 c5 c6 c7=>by
   have:=parts_any B' 0 8 8 (pd A) (by omega) w (upto8 (P:=fun j=>w.cell? ⟨B',0+j,none⟩=some (.int .u64 (pd A j:Nat))) c0 c1 c2 c3 c4 c5 c6 c7);rw[<- hm]at this;exact this)
  (fun cur hc w=>by
   have hv:=val_lt (f:=cur) (n:=4) (fun j hj=>hc j (by omega));have h:=shr_any s (val cur 4) w;rw[show min (s%2^256) 256=s by omega,wv_one (x:=s) (by omega),wv_row (val cur 4),wv_row (_ / _),Nat.mod_eq_of_lt (show val cur 4<2^256 by rw[<- hP4];exact hv)]at h;rw[pd_val (n:=4) (fun j hj=>hc j (by omega)) 0 (by omega),pd_val (n:=4) (fun j hj=>hc j (by omega)) 1 (by omega),pd_val (n:=4) (fun j hj=>hc j (by omega)) 2 (by omega),pd_val (n:=4) (fun j hj=>hc j (by omega)) 3 (by omega)]at h;exact h)
  (fun j _=>pd_lt _ _) (fun j _=>pd_lt _ _) s4
  (by
   have:=div_start (a:=pd A) (b:=pd B) (m:=m) (n:=n) (s:=s) (c:=m+1 - n) (fun j _=>pd_lt _ _) (by rw[hnk];exact hbk) (by omega) (by omega);rw[vA2,hnk,<- hBv,<- hnk]at this;rw[vR,vD];exact this)
 refine hw.mono ?_;rintro e w' ⟨cur,q,rfl,hc,hq,h1,h2,hb⟩;rw[vD]at h1 h2;rw[vR]at h1;obtain⟨h5,h6⟩:=div_end rfl h1 h2;have h7:val cur 9=val cur 4:=val_top (by omega) (fun j h8 h9=>val_ztop (Nat.lt_trans h2 s5) j h8 h9);refine⟨?_,hb⟩;rw[wv_row,<- h6,h7,dv_row,<- h5];rw[pd_val hq 0 (by omega),pd_val hq 1 (by omega),pd_val hq 2 (by omega),pd_val hq 3 (by omega),pd_val hq 4 (by omega),pd_val hq 5 (by omega),pd_val hq 6 (by omega),pd_val hq 7 (by omega)]
-- WHAT divide COMES TO.
theorem divide_any(A B:Nat)(hA:A<13407807929942597099574024998205846127479365820592393377723561443721764030073546976801874298166903427690031858186486050853753882811946569946433649006084096)(hB:B≠0)(h4:B<2^256)(w:World):Calls Tryz.prog 106 #[dv A,wv B] w fun e w'=>e=.returned (.tuple #[dv (A / B),wv (A%B)])/\Below w.heap.size w w':=by
 rw[dv_row A,wv_row B];exact divide_row A B (by rw[show 18446744073709551616^8=13407807929942597099574024998205846127479365820592393377723561443721764030073546976801874298166903427690031858186486050853753882811946569946433649006084096 by rfl];exact hA) hB (by rw[show 18446744073709551616^4=2^256 by rfl];exact h4) w
theorem divide_none(A:Nat)(w:World):Calls Tryz.prog 106 #[dv A,wv 0] w fun e w'=>e=.returned (.tuple #[dv 0,wv 0])/\Below w.heap.size w w':=by
 rw[dv_row A];exact divide_zero A w
open Go.RowKit
theorem arr_lit(t:Array Value):t=((List.range t.size).map fun i=>t.getD i undef).toArray:=by
 apply Array.ext
 ·simp
 ·intro i h1 h2
  simp[h1]
structure CR (w:World) (x y:Nat) (wx:World):Prop where
 old:Below w.heap.size w wx
 r0:wx.heap[w.heap.size]?=some (.cells (pw x) 24 (0,0))
 r1:wx.heap[w.heap.size+1]?=some (.cells (pw y) 24 (0,0))
 r2:wx.heap[w.heap.size+1+1]?=some (.cells #[.int .u64 0,.int .u64 0,.int .u64 0,.int .u64 0] 24 (0,0))
theorem CR.high{w wx:World}{x y:Nat}(h:CR w x y wx):w.heap.size+1+1+1<=wx.heap.size:=(Array.getElem?_eq_some_iff.1 h.r2).1
theorem CR.below{w wx w':World}{x y:Nat}(h:CR w x y wx)(hb:Below wx.heap.size wx w'):CR w x y w':=by
 have l:=h.high;exact⟨h.old.trans (hb.mono h.old.size),(hb.block _ (by omega)).trans h.r0,(hb.block _ (by omega)).trans h.r1,(hb.block _ (by omega)).trans h.r2⟩
theorem CR.rowed{w wx:World}{x y g:Nat}{cs:Array Value}(h:CR w x y wx)(hg:w.heap.size+1+1+1<=g):CR w x y (wx.setRow g cs) :=
 ⟨below_setRow h.old (by omega) _,(setRow_other _ _ _ _ (by omega)).trans h.r0,(setRow_other _ _ _ _ (by omega)).trans h.r1,(setRow_other _ _ _ _ (by omega)).trans h.r2⟩
def dw(x:Nat):Array Value:=match dv x with | .agg a=>a | _=>#[]
theorem dv_dw(x:Nat):dv x=.agg (dw x):=rfl
theorem dw_one(x:Nat):(dw x).all (·.oneCell')=true:=by simp[dw,dv,Value.oneCell']
def FQ(q r:Nat)(T:TypeId):Array Value:=if T=135 then dw q else pw r
theorem infoWide:(Tryz.prog.info? 135).map (·.size)=some 8:=by kernel_rfl
theorem store_dw{g q r:Nat}{w:World}{cs:Array Value}(hg:w.heap[g]?=some (.cells cs 135 (0,0)))(hs:cs.size=(FQ q r 135).size):(Instr.storeAt 135 (.pointer (some ⟨g,0,none⟩)) (dv q)).run Tryz.prog w=.ok () (w.setRow g (FQ q r 135)):=by
 rw[dv_dw];show _=Result.ok () (w.setRow g (dw q));simp only[Instr.storeAt,Instr.sureAddr,Sem.run_bind,Sem.run_pure,Result.andThen_ok,run_storeVar_row w g 135 135 cs (dw q) hg infoWide hs (dw_one q)]
theorem store_qw{g q r:Nat}{w:World}{cs:Array Value}(hg:w.heap[g]?=some (.cells cs 24 (0,0)))(hs:cs.size=(FQ q r 24).size):(Instr.storeAt 24 (.pointer (some ⟨g,0,none⟩)) (wv r)).run Tryz.prog w=.ok () (w.setRow g (FQ q r 24)):=store_pw hs hg
theorem widen_any(x:Nat)(w:World):Calls Tryz.prog 107 #[wv x,.slice none 0 0] w fun e w'=>e=.returned (dv (x%2^256))/\Below w.heap.size w w':=by
 obtain⟨a0,a1,a2,a3,u0,u1,u2,u3,ea,na⟩:=wv_parts x;have h:=widen_nil a0 a1 a2 a3 w;rw[ea,<- na];have hn:dv (n4 a0 a1 a2 a3)=.agg #[.int .u64 a0,.int .u64 a1,.int .u64 a2,.int .u64 a3,.int .u64 0,.int .u64 0,.int .u64 0,.int .u64 0]:=by
  have:=dv_n8 (a4:=0) (a5:=0) (a6:=0) (a7:=0) u0 u1 u2 u3 (by omega) (by omega) (by omega) (by omega);rw[show n8 a0 a1 a2 a3 0 0 0 0=n4 a0 a1 a2 a3 by unfold n8 n4;omega]at this;exact this
 rw[hn];exact h
def quoV(a y:Nat):Nat:=if y%2^256=0 then 0 else a / (y%2^256)
def remV(a y:Nat):Nat:=if y%2^256=0 then 0 else a%(y%2^256)
theorem divide_all(a y:Nat)(ha:a<13407807929942597099574024998205846127479365820592393377723561443721764030073546976801874298166903427690031858186486050853753882811946569946433649006084096)(w:World):Calls Tryz.prog 106 #[dv a,wv y] w fun e w'=>e=.returned (.tuple #[dv (quoV a y),wv (remV a y)])/\Below w.heap.size w w':=by
 rw[show wv y=wv (y%2^256) from wv_congr (Nat.mod_mod _ _).symm];unfold quoV remV;by_cases h:y%2^256=0
 ·rw[if_pos h,if_pos h,h];exact divide_none a w
 ·rw[if_neg h,if_neg h];exact divide_any a _ ha h (Nat.mod_lt _ (by omega)) w
-- WHAT word.Mod COMES TO.
theorem mod_any(x y:Nat)(w:World):Calls Tryz.prog 90 #[wv x,wv y] w fun e w'=>e=.returned (wv (remV (x%2^256) y))/\Below w.heap.size w w':=by
 rw[wv_pw x,wv_pw y];go_enter Tryz.func90,Tryz.ntmps90
 go_wp2_with fail
 refine region_tie (CR w x y) (fun i s wx=>match i with | 0=>s 8=wv x | 1=>s 9=dv (x%2^256) | 2=>s 10=wv y | 3=>s 11=.tuple #[dv (quoV (x%2^256) y),wv (remV (x%2^256) y)] | 4=>s 7=.tuple #[dv (quoV (x%2^256) y),wv (remV (x%2^256) y)] | 5=>s 12=dv (quoV (x%2^256) y) | 6=>s 13=wv (remV (x%2^256) y) | 7=>∃ D,s 5=.pointer (some ⟨D,0,none⟩)/\w.heap.size+1+1+1<=D/\∃ cs,wx.heap[D]?=some (.cells cs 135 (0,0))/\cs.size=8 | 8=>∃ D,s 6=.pointer (some ⟨D,0,none⟩)/\w.heap.size+1+1+1<=D/\∃ cs,wx.heap[D]?=some (.cells cs 24 (0,0))/\cs.size=4 | 9=>∃ D,s 5=.pointer (some ⟨D,0,none⟩)/\w.heap.size+1+1+1<=D/\wx.heap[D]?=some (.cells (FQ (quoV (x%2^256) y) (remV (x%2^256) y) 135) 135 (0,0)) | 10=>∃ D,s 6=.pointer (some ⟨D,0,none⟩)/\w.heap.size+1+1+1<=D/\wx.heap[D]?=some (.cells (FQ (quoV (x%2^256) y) (remV (x%2^256) y) 24) 24 (0,0)) | _=>True) (RT (w.heap.size+1+1+1) (FQ (quoV (x%2^256) y) (remV (x%2^256) y))) (fun i=>match i with | 0=>[8] | 1=>[9] | 2=>[10] | 3=>[11] | 4=>[7] | 5=>[12] | 6=>[13] | 7=>[5] | 8=>[6] | 9=>[5] | 10=>[6] | _=>[]) (fun i=>i) (by kernel_rfl) (by kernel_rfl) ⟨by go_grown,(heap3 _ _ _ _).1,(heap3 _ _ _ _).2.1,(heap3 _ _ _ _).2.2⟩ ?_ ?_ ?_ ?_
 ·intro i s s' wx he hp
  match i,he,hp with
  | 0,he,hp=>exact(he 8 (by simp)).symm.trans hp
  | 1,he,hp=>exact(he 9 (by simp)).symm.trans hp
  | 2,he,hp=>exact(he 10 (by simp)).symm.trans hp
  | 3,he,hp=>exact(he 11 (by simp)).symm.trans hp
  | 4,he,hp=>exact(he 7 (by simp)).symm.trans hp
  | 5,he,hp=>exact(he 12 (by simp)).symm.trans hp
  | 6,he,hp=>exact(he 13 (by simp)).symm.trans hp
  | 7,he,hp=>obtain⟨D,h1,h2⟩:=hp;exact⟨D,(he 5 (by simp)).symm.trans h1,h2⟩
  | 8,he,hp=>obtain⟨D,h1,h2⟩:=hp;exact⟨D,(he 6 (by simp)).symm.trans h1,h2⟩
  | 9,he,hp=>obtain⟨D,h1,h2⟩:=hp;exact⟨D,(he 5 (by simp)).symm.trans h1,h2⟩
  | 10,he,hp=>obtain⟨D,h1,h2⟩:=hp;exact⟨D,(he 6 (by simp)).symm.trans h1,h2⟩
  | _+11,_,_=>trivial
 ·intro i s wa wb hR hp
  match i,hp with
  | 0,hp=>exact hp
  | 1,hp=>exact hp
  | 2,hp=>exact hp
  | 3,hp=>exact hp
  | 4,hp=>exact hp
  | 5,hp=>exact hp
  | 6,hp=>exact hp
  | 7,hp=>obtain⟨D,h1,h2,cs,h3,h4⟩:=hp;obtain⟨cs',h5,h6⟩:=hR.shape _ _ _ _ h3;exact⟨D,h1,h2,cs',h5,h6.trans h4⟩
  | 8,hp=>obtain⟨D,h1,h2,cs,h3,h4⟩:=hp;obtain⟨cs',h5,h6⟩:=hR.shape _ _ _ _ h3;exact⟨D,h1,h2,cs',h5,h6.trans h4⟩
  | 9,hp=>obtain⟨D,h1,h2,h3⟩:=hp;exact⟨D,h1,h2,hR.keep _ _ _ h3⟩
  | 10,hp=>obtain⟨D,h1,h2,h3⟩:=hp;exact⟨D,h1,h2,hR.keep _ _ _ h3⟩
  | _+11,_=>trivial
 ·refine⟨?_,?_,?_,?_,?_,?_,?_,?_,?_,?_,?_,trivial⟩
  ·intro a wx hC hsz hK
   have h0:a.tmps.getD 2 undef=.pointer (some ⟨w.heap.size,0,none⟩):=hK.1 2 (by kernel_rfl);exact tt_load 24 (.tmp 2) (.pointer (some ⟨w.heap.size,0,none⟩)) (wv x) rfl (by kernel_rfl) h0 (load_pw hC.r0) hC (slots_put _ _ _ (by rw[hsz];exact of_decide_eq_true (by kernel_rfl))) (RT.refl _ _ _)
  ·intro a wx hC hsz hK
   have h0:a.tmps.getD 8 undef=wv x:=hK.2 ⟨0,.data⟩ (by simp) rfl _ rfl;refine tt_call 107 #[a.tmps.getD 8 undef,.slice none 0 0] (by kernel_rfl) (by kernel_rfl) ?_;rw[h0];exact((fun wx=>widen_any x wx) wx).mono fun e w' hh=>⟨_,hh.1,hC.below hh.2,slots_put _ _ _ (by rw[hsz];exact of_decide_eq_true (by kernel_rfl)),RT.of hC.high hh.2⟩
  ·intro a wx hC hsz hK
   have h0:a.tmps.getD 3 undef=.pointer (some ⟨w.heap.size+1,0,none⟩):=hK.1 3 (by kernel_rfl);exact tt_load 24 (.tmp 3) (.pointer (some ⟨w.heap.size+1,0,none⟩)) (wv y) rfl (by kernel_rfl) h0 (load_pw hC.r1) hC (slots_put _ _ _ (by rw[hsz];exact of_decide_eq_true (by kernel_rfl))) (RT.refl _ _ _)
  ·intro a wx hC hsz hK
   have h0:a.tmps.getD 9 undef=dv (x%2^256):=hK.2 ⟨1,.data⟩ (by simp) rfl _ rfl;have h1:a.tmps.getD 10 undef=wv y:=hK.2 ⟨2,.data⟩ (by simp) rfl _ rfl;refine tt_call 106 #[a.tmps.getD 9 undef,a.tmps.getD 10 undef] (by kernel_rfl) (by kernel_rfl) ?_;rw[h0,h1];exact((fun wx=>divide_all (x%2^256) y (by omega) wx) wx).mono fun e w' hh=>⟨_,hh.1,hC.below hh.2,slots_put _ _ _ (by rw[hsz];exact of_decide_eq_true (by kernel_rfl)),RT.of hC.high hh.2⟩
  ·intro a wx hC hsz hK
   have h0:a.tmps.getD 11 undef=.tuple #[dv (quoV (x%2^256) y),wv (remV (x%2^256) y)]:=hK.2 ⟨3,.data⟩ (by simp) rfl _ rfl;exact tt_val (.tuple #[dv (quoV (x%2^256) y),wv (remV (x%2^256) y)]) (by kernel_rfl) (by rw[<- h0];kernel_rfl) hC (slots_put _ _ _ (by rw[hsz];exact of_decide_eq_true (by kernel_rfl))) (RT.refl _ _ _)
  ·intro a wx hC hsz hK
   have h0:a.tmps.getD 7 undef=.tuple #[dv (quoV (x%2^256) y),wv (remV (x%2^256) y)]:=hK.2 ⟨4,.data⟩ (by simp) rfl _ rfl;refine tt_v (Instr.extract (a.tmps.getD 7 undef) 0) (dv (quoV (x%2^256) y)) (by kernel_rfl) rfl ?_ hC (slots_put _ _ _ (by rw[hsz];exact of_decide_eq_true (by kernel_rfl))) (RT.refl _ _ _);rw[h0];kernel_rfl
  ·intro a wx hC hsz hK
   have h0:a.tmps.getD 7 undef=.tuple #[dv (quoV (x%2^256) y),wv (remV (x%2^256) y)]:=hK.2 ⟨4,.data⟩ (by simp) rfl _ rfl;refine tt_v (Instr.extract (a.tmps.getD 7 undef) 1) (wv (remV (x%2^256) y)) (by kernel_rfl) rfl ?_ hC (slots_put _ _ _ (by rw[hsz];exact of_decide_eq_true (by kernel_rfl))) (RT.refl _ _ _);rw[h0];kernel_rfl
  ·intro a wx hC hsz hK
   exact tt_new (.pointer (some ⟨wx.heap.size,0,none⟩)) (by kernel_rfl) (by kernel_rfl) (hC.below ((Below.refl _ _).alloc (Nat.le_refl _) _)) ⟨_,slots_put _ _ _ (by rw[hsz];exact of_decide_eq_true (by kernel_rfl)),hC.high,#[.int .u64 0,.int .u64 0,.int .u64 0,.int .u64 0,.int .u64 0,.int .u64 0,.int .u64 0,.int .u64 0],heap_alloc_new _ _,rfl⟩ (RT.of hC.high ((Below.refl _ _).alloc (Nat.le_refl _) _))
  ·intro a wx hC hsz hK
   exact tt_new (.pointer (some ⟨wx.heap.size,0,none⟩)) (by kernel_rfl) (by kernel_rfl) (hC.below ((Below.refl _ _).alloc (Nat.le_refl _) _)) ⟨_,slots_put _ _ _ (by rw[hsz];exact of_decide_eq_true (by kernel_rfl)),hC.high,#[.int .u64 0,.int .u64 0,.int .u64 0,.int .u64 0],heap_alloc_new _ _,rfl⟩ (RT.of hC.high ((Below.refl _ _).alloc (Nat.le_refl _) _))
  ·intro a wx hC hsz hK
   obtain⟨D,h1,h2,cs,h3,h4⟩:=hK.2 ⟨7,.data⟩ (by simp) rfl _ rfl;have h0:a.tmps.getD 12 undef=dv (quoV (x%2^256) y):=hK.2 ⟨5,.data⟩ (by simp) rfl _ rfl;exact tt_store (by kernel_rfl) rfl (run_store 135 (.tmp 5) (.tmp 12) _ _ rfl h1 h0 (store_dw h3 h4)) (hC.rowed h2) ⟨D,h1,h2,setRow_heap _ _ _ _ _ _ h3⟩ (RT.row h2 h3 h4)
  ·intro a wx hC hsz hK
   obtain⟨D,h1,h2,cs,h3,h4⟩:=hK.2 ⟨8,.data⟩ (by simp) rfl _ rfl;have h0:a.tmps.getD 13 undef=wv (remV (x%2^256) y):=hK.2 ⟨6,.data⟩ (by simp) rfl _ rfl;exact tt_store (by kernel_rfl) rfl (run_store 24 (.tmp 6) (.tmp 13) _ _ rfl h1 h0 (store_qw h3 h4)) (hC.rowed h2) ⟨D,h1,h2,setRow_heap _ _ _ _ _ _ h3⟩ (RT.row h2 h3 h4)
 ·intro f wx hC hf
  have s8:=hf 0 _ rfl;have s9:=hf 1 _ rfl;have s10:=hf 2 _ rfl;have s11:=hf 3 _ rfl;have s7:=hf 4 _ rfl;have s12:=hf 5 _ rfl;have s13:=hf 6 _ rfl;obtain⟨D5,s5,g5,r5⟩:=hf 9 _ rfl;obtain⟨D6,s6,g6,r6⟩:=hf 10 _ rfl;clear hf;generalize hA:putAll _ _ _=A at *;have hsz:A.tmps.size=15:=by rw[<- hA,putAll_size];rfl
  have t0:A.tmps.getD 0 undef=.agg (pw x):=by subst hA;kernel_rfl
  have t1:A.tmps.getD 1 undef=.agg (pw y):=by subst hA;kernel_rfl
  have t2:A.tmps.getD 2 undef=.pointer (some ⟨w.heap.size,0,none⟩):=by subst hA;kernel_rfl
  have t3:A.tmps.getD 3 undef=.pointer (some ⟨w.heap.size+1,0,none⟩):=by subst hA;kernel_rfl
  have t4:A.tmps.getD 4 undef=.pointer (some ⟨w.heap.size+1+1,0,none⟩):=by subst hA;kernel_rfl
  have t14:A.tmps.getD 14 undef=undef:=by subst hA;kernel_rfl
  have hd:A.defers=[]:=by subst hA;kernel_rfl
  clear hA;obtain⟨tm,df⟩:=A;simp only[slots]at *;have hL:=arr_lit tm;rw[hsz]at hL;simp only[List.range,List.range.loop,List.map]at hL;rw[t0,t1,t2,t3,t4,s5,s6,s7,s8,s9,s10,s11,s12,s13,t14]at hL;subst hL hd;clear t0 t1 t2 t3 t4 s5 s6 s7 s8 s9 s10 s11 s12 s13 t14 hsz;have hr6:wx.heap[D6]?=some (.cells (pw (remV (x%2^256) y)) 24 (0,0)):=r6;clear r5 r6
  go_wp2_with (first | (refine wpList_load_row rfl 24 _ rfl D6 rfl 24 (pw (remV (x%2^256) y)) (0,0) _ hr6 Tryz.underlying24 rfl infoWord ?_) | (refine wpList_store_row rfl 24 _ _ rfl (w.heap.size+1+1) (pw (remV (x%2^256) y)) rfl rfl 24 #[.int .u64 0,.int .u64 0,.int .u64 0,.int .u64 0] hC.r2 infoWord rfl (pw_one _) ?_))
  (try simp only[Exit.inBlock,Exit.then])
  exact bodyPost_ret (v:=.agg (pw (remV (x%2^256) y))) (results_cell_row (p:=4) rfl _ _ (w.heap.size+1+1) 24 _ (0,0) _ rfl (setRow_heap _ _ _ _ _ _ hC.r2) Tryz.underlying24 rfl infoWord) rfl ⟨rfl,below_setRow hC.old (by omega) _⟩
end Go.Proofs.YtfmpjjhdocejiaaGreat
