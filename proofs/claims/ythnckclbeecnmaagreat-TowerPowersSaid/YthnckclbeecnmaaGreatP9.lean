/- What math/bits.Div64 comes to: the walk. (Cut to what is reached, written closely: FCl · FScl · Div64 · DivW.) -/
import Derived.Test.YthnckclbeecnmaaGreatP8
import Derived.WalkKit
import Derived.Test.YthnckclbeecnmaaGreatP2
import Derived.Deep.LoopGhost
import Derived.BigQuiet
import Derived.Lib.Hide
set_option linter.all false
set_option maxRecDepth 100000
set_option maxHeartbeats 8000000
namespace Go.Proofs.YthnckclbeecnmaaGreat
open Go.RowKit
structure CW (w:World) (F m:Nat) (L:List (Nat × Array Value)) (wx:World):Prop where
 old:Below w.heap.size w wx
 fld:FldAt wx F m
 hF:F<w.heap.size
 rows:∀ p∈L,wx.heap[p.1]?=some (.cells p.2 24 (0,0))
theorem CW.is{w wx:World}{F m:Nat}{L:List (Nat × Array Value)}(c:CW w F m L wx)(g:Nat)(cs:Array Value)(hm:(g,cs)∈L):wx.heap[g]?=some (.cells cs 24 (0,0)):=c.rows _ hm
theorem CW.below{w wx w':World}{F m:Nat}{L:List (Nat × Array Value)}(c:CW w F m L wx)(hb:Below wx.heap.size wx w'):CW w F m L w' :=
 ⟨c.old.trans (hb.mono c.old.size),c.fld.below hb,c.hF,fun p hp=>(hb.block _ (Array.getElem?_eq_some_iff.1 (c.rows p hp)).1).trans (c.rows p hp)⟩
theorem CW.drew{w wx:World}{F m:Nat}{L:List (Nat × Array Value)}(c:CW w F m L wx):CW w F m L wx.drew:=c.below (Below.drew (Below.refl _ _))
theorem CW.new{w wx:World}{F m:Nat}{L:List (Nat × Array Value)}(c:CW w F m L wx)(cs:Array Value):CW w F m ((wx.heap.size,cs)::L) (wx.alloc (.cells cs 24)):=by
 have h:=c.below ((Below.refl _ _).alloc (Nat.le_refl _) (.cells cs 24));refine⟨h.old,h.fld,h.hF,fun p hp=>?_⟩;rcases List.mem_cons.1 hp with rfl | hp
 ·exact heap_alloc_new _ _
 ·exact h.rows p hp
theorem CW.put{w wx:World}{F m:Nat}{L:List (Nat × Array Value)}(c:CW w F m L wx)(g:Nat)(c0 cs:Array Value)(L':List (Nat × Array Value))(hg:w.heap.size<=g)(hm:(g,c0)∈L)(hs:∀ p∈L',p∈L/\p.1≠g):CW w F m ((g,cs)::L') (wx.setRow g cs):=by
 have h2:=c.hF;refine⟨below_setRow c.old hg _,⟨(setRow_other _ _ _ _ (by omega)).trans c.fld.row,c.fld.odd,c.fld.big,c.fld.lt⟩,c.hF,fun p hp=>?_⟩;rcases List.mem_cons.1 hp with rfl | hp
 ·exact setRow_heap _ _ _ _ _ _ (c.rows _ hm)
 ·exact(setRow_other _ _ _ _ (hs p hp).2).trans (c.rows p (hs p hp).1)
theorem CW.start{w:World}{F m:Nat}(h:FldAt w F m):CW w F m [] w:=⟨Below.refl _ _,h,h.less,fun p hp=>by cases hp⟩
theorem CW.one{w:World}{F m:Nat}(h:FldAt w F m)(a:Nat):CW w F m [(w.heap.size+1,#[.int .u64 0,.int .u64 0,.int .u64 0,.int .u64 0]),(w.heap.size,pw a)] ((w.alloc (.cells (pw a) 24)).alloc (.cells #[.int .u64 0,.int .u64 0,.int .u64 0,.int .u64 0] 24)):=by
 have:=((CW.start h).new (pw a)).new #[.int .u64 0,.int .u64 0,.int .u64 0,.int .u64 0];rwa [World.size_alloc]at this
theorem CW.two{w:World}{F m:Nat}(h:FldAt w F m)(a b:Nat):CW w F m [(w.heap.size+1+1,#[.int .u64 0,.int .u64 0,.int .u64 0,.int .u64 0]),(w.heap.size+1,pw b),(w.heap.size,pw a)] (((w.alloc (.cells (pw a) 24)).alloc (.cells (pw b) 24)).alloc (.cells #[.int .u64 0,.int .u64 0,.int .u64 0,.int .u64 0] 24)):=by
 have:=(((CW.start h).new (pw a)).new (pw b)).new #[.int .u64 0,.int .u64 0,.int .u64 0,.int .u64 0];rwa [World.size_alloc,World.size_alloc]at this
theorem CW.calls{w:World}{F m:Nat}{L:List (Nat × Array Value)}{f:FuncId}{args:Array Value}{v:Value}(h:∀ wx,FldAt wx F m->Calls Tryz.prog f args wx fun e w'=>e=.returned v/\Below wx.heap.size wx w'):∀ wx,CW w F m L wx->Calls Tryz.prog f args wx fun e w'=>e=.returned v/\CW w F m L w' :=
 fun wx c=>(h wx c.fld).mono fun _ _ hh=>⟨hh.1,c.below hh.2⟩
theorem prod_lt{a b c m:Nat}(ha:a<c)(hb:b<m):a*b<c*m:=by
 have h1:a*b<=c*b:=Nat.mul_le_mul_right b (Nat.le_of_lt ha);have h2:c*b<c*m:=Nat.mul_lt_mul_of_pos_left hb (by omega);omega
open Go.RowKit
theorem sqr_lt{m:Nat}(h:1<m):sqr m<m:=Nat.mod_lt _ (by omega)
-- WHAT scaled COMES TO.
theorem scaled_any(F m a:Nat)(ha:a<2^256)(w:World)(hF:FldAt w F m):Calls Tryz.prog 96 #[.pointer (some ⟨F,0,none⟩),.agg (pw a)] w fun e w'=>e=.returned (.agg (pw (a*2^256%m)))/\Below w.heap.size w w':=by
 have H0:=Lib.hid (CW.one hF a);have HT:=Lib.hid (CW.calls (w:=w) (F:=F) (m:=m) (L:=[(w.heap.size+1,#[.int .u64 0,.int .u64 0,.int .u64 0,.int .u64 0]),(w.heap.size,pw a)]) (fun wx hf=>times_any F m a (sqr m) ha (Nat.lt_trans (sqr_lt hf.big) hf.lt) (prod_lt ha (sqr_lt hf.big)) wx hf));have HQ:=Lib.hid (show mnt m a (sqr m)=a*2^256%m from mnt_scaled hF.odd hF.big a);clear hF ha;rw[HQ.out]at HT;obtain⟨y,hy⟩:∃ y,a*2^256%m=y:=⟨_,rfl⟩
 rw[hy]at HT |-
 clear hy HQ;go_enter Tryz.func96,Tryz.ntmps96
 go_wp2_with fail
 refine region_quiet_tail 7 (CW w F m [(w.heap.size+1,#[.int .u64 0,.int .u64 0,.int .u64 0,.int .u64 0]),(w.heap.size,pw a)]) (by kernel_rfl) (by kernel_rfl) (H0.out.drew) ?_;simp only[List.take_succ_cons,List.take_zero,List.drop_succ_cons,List.drop_zero]
 with_reducible refine q_val (.pointer (some ⟨F,0,none⟩)) (by kernel_rfl) (fun _ _=>by kernel_rfl) ?_
 with_reducible refine q_load 24 (.tmp 3) (.pointer (some ⟨w.heap.size,0,none⟩)) (.agg (pw a)) rfl (by kernel_rfl) (by kernel_rfl) (fun _ c=>ld_pw (c.is _ _ (by simp))) ?_
 with_reducible refine q_val (.pointer (some ⟨F,0,none⟩)) (by kernel_rfl) (fun _ _=>by kernel_rfl) ?_
 with_reducible refine q_val (.pointer (some ⟨F,0,none⟩)) (by kernel_rfl) (fun _ _=>run_nil (.tmp 7) _ rfl (by kernel_rfl)) ?_
 with_reducible refine q_sem2 (Instr.fieldAt 102 (.pointer (some ⟨F,0,none⟩)) 2) (.pointer (some ⟨F,5,none⟩)) (by kernel_rfl) (by kernel_rfl) (fun w' _=>fld_sq F w') ?_
 with_reducible refine q_load 24 (.tmp 9) (.pointer (some ⟨F,5,none⟩)) (.agg (pw (sqr m))) rfl (by kernel_rfl) (by kernel_rfl) (fun _ c=>ld_sq c.fld) ?_
 with_reducible refine q_call 95 #[.pointer (some ⟨F,0,none⟩),.agg (pw a),.agg (pw (sqr m))] (.agg (pw y)) (by kernel_rfl) (fun _=>by kernel_rfl) (HT.out) ?_
 with_reducible refine wpQuiet_nil ?_
 intro wx hC;have HC:=Lib.hid hC;clear hC H0 HT;simp only[Act.put,List.setIfInBounds_toArray,List.set_cons_succ,List.set_cons_zero]
 go_wp2_with (refine wpList_store_row rfl 24 _ _ rfl (w.heap.size+1) (pw y) rfl rfl 24 (#[.int .u64 0,.int .u64 0,.int .u64 0,.int .u64 0]) (by exact HC.out.is _ _ (by simp)) (by rw[pw_size];exact infoW4) (by first | rfl | (rw[pw_size];rfl) | (rw[pw_size,pw_size])) (pw_one _) ?_)
 (try simp only[Act.put])
 refine bodyPost_ret (v:=.agg (pw y)) (results_cell_row (p:=4) rfl _ _ (w.heap.size+1) 24 (pw y) (0,0) _ rfl (setRow_heap _ _ _ _ _ _ (by exact HC.out.is _ (#[.int .u64 0,.int .u64 0,.int .u64 0,.int .u64 0]) (by simp))) Tryz.underlying24 rfl (by rw[pw_size];exact infoW4)) rfl ⟨rfl,below_setRow HC.out.old (by omega) _⟩
-- WHAT Mul COMES TO.
theorem fmul_any(F m a b:Nat)(ha:a<2^256)(hb:b<2^256)(w:World)(hF:FldAt w F m):Calls Tryz.prog 63 #[.pointer (some ⟨F,0,none⟩),.agg (pw a),.agg (pw b)] w fun e w'=>e=.returned (.agg (pw (a*b%m)))/\Below w.heap.size w w':=by
 have H0:=Lib.hid (CW.two hF a b);have HSC:=Lib.hid (CW.calls (w:=w) (F:=F) (m:=m) (L:=[(w.heap.size+1+1,#[.int .u64 0,.int .u64 0,.int .u64 0,.int .u64 0]),(w.heap.size+1,pw b),(w.heap.size,pw a)]) (fun wx hf=>scaled_any F m a ha wx hf));have hlt:a*2^256%m<m:=Nat.mod_lt _ (by have:=hF.big;omega);have HT:=Lib.hid (CW.calls (w:=w) (F:=F) (m:=m) (L:=[(w.heap.size+1+1,#[.int .u64 0,.int .u64 0,.int .u64 0,.int .u64 0]),(w.heap.size+1,pw b),(w.heap.size,pw a)]) (fun wx hf=>times_any F m (a*2^256%m) b (Nat.lt_trans hlt hf.lt) hb (by rw[Nat.mul_comm];exact prod_lt hb hlt) wx hf));rw[mnt_back hF.odd hF.big a b]at HT;obtain⟨y,hy⟩:∃ y,a*b%m=y:=⟨_,rfl⟩
 obtain⟨z,hz⟩:∃ z,a*2^256%m=z:=⟨_,rfl⟩
 rw[hy]at HT |-
 rw[hz]at HT HSC;clear hF ha hb hlt hy hz;go_enter Tryz.func63,Tryz.ntmps63
 go_wp2_with fail
 refine region_quiet_tail 6 (CW w F m [(w.heap.size+1+1,#[.int .u64 0,.int .u64 0,.int .u64 0,.int .u64 0]),(w.heap.size+1,pw b),(w.heap.size,pw a)]) (by kernel_rfl) (by kernel_rfl) (H0.out.drew) ?_;simp only[List.take_succ_cons,List.take_zero,List.drop_succ_cons,List.drop_zero]
 with_reducible refine q_val (.pointer (some ⟨F,0,none⟩)) (by kernel_rfl) (fun _ _=>by kernel_rfl) ?_
 with_reducible refine q_val (.pointer (some ⟨F,0,none⟩)) (by kernel_rfl) (fun _ _=>by kernel_rfl) ?_
 with_reducible refine q_load 24 (.tmp 4) (.pointer (some ⟨w.heap.size,0,none⟩)) (.agg (pw a)) rfl (by kernel_rfl) (by kernel_rfl) (fun _ c=>ld_pw (c.is _ _ (by simp))) ?_
 with_reducible refine q_call 96 #[.pointer (some ⟨F,0,none⟩),.agg (pw a)] (.agg (pw z)) (by kernel_rfl) (fun _=>by kernel_rfl) (HSC.out) ?_
 with_reducible refine q_load 24 (.tmp 5) (.pointer (some ⟨w.heap.size+1,0,none⟩)) (.agg (pw b)) rfl (by kernel_rfl) (by kernel_rfl) (fun _ c=>ld_pw (c.is _ _ (by simp))) ?_
 with_reducible refine q_call 95 #[.pointer (some ⟨F,0,none⟩),.agg (pw z),.agg (pw b)] (.agg (pw y)) (by kernel_rfl) (fun _=>by kernel_rfl) (HT.out) ?_
 with_reducible refine wpQuiet_nil ?_
 intro wx hC;have HC:=Lib.hid hC;clear hC H0 HT HSC;simp only[Act.put,List.setIfInBounds_toArray,List.set_cons_succ,List.set_cons_zero]
 go_wp2_with (refine wpList_store_row rfl 24 _ _ rfl (w.heap.size+1+1) (pw y) rfl rfl 24 (#[.int .u64 0,.int .u64 0,.int .u64 0,.int .u64 0]) (by exact HC.out.is _ _ (by simp)) (by rw[pw_size];exact infoW4) (by first | rfl | (rw[pw_size];rfl) | (rw[pw_size,pw_size])) (pw_one _) ?_)
 (try simp only[Act.put])
 refine bodyPost_ret (v:=.agg (pw y)) (results_cell_row (p:=6) rfl _ _ (w.heap.size+1+1) 24 (pw y) (0,0) _ rfl (setRow_heap _ _ _ _ _ _ (by exact HC.out.is _ (#[.int .u64 0,.int .u64 0,.int .u64 0,.int .u64 0]) (by simp))) Tryz.underlying24 rfl (by rw[pw_size];exact infoW4)) rfl ⟨rfl,below_setRow HC.out.old (by omega) _⟩
open Go.RowKit
theorem quot_of{A y q:Nat}(hy:0<y)(h1:q*y<=A)(h2:A / y<=q):q=A / y :=
 Nat.le_antisymm ((Nat.le_div_iff_mul_le hy).2 h1) h2
structure Half (y1 y0 v u q r:Nat):Prop where
 split:q*y1+r=v
 least:(v*4294967296+u) / (4294967296*y1+y0)<=q
 most:q<=4294967297
 rest:r<4294967296
section
variable {y1 y0 v u q r:Nat} (h31:2147483648<=y1) (h32:y1<4294967296) (hy0:y0<4294967296) (hu:u<4294967296)
include h31 h32 hy0 hu
theorem Half.start(hv:v<4294967296*y1+y0):Half y1 y0 v u (v / y1) (v%y1):=by
 have hpos:0<y1:=by omega
 have hd:=Nat.div_add_mod v y1;have hm:=Nat.mod_lt v hpos;refine⟨by rw[Nat.mul_comm];exact hd,?_,?_,by omega⟩
 ·have hlt:v*4294967296+u<(v / y1+1)*(4294967296*y1+y0):=by
   have h1:v+1<=(v / y1+1)*y1:=by rw[Nat.add_mul,Nat.one_mul,Nat.mul_comm];omega
   have h2:(v+1)*4294967296<=(v / y1+1)*y1*4294967296:=Nat.mul_le_mul_right _ h1;have h3:(v / y1+1)*(4294967296*y1+y0)=(v / y1+1)*y1*4294967296+(v / y1+1)*y0:=by grind
   omega
  have:(v*4294967296+u) / (4294967296*y1+y0)<v / y1+1:=by rw[Nat.div_lt_iff_lt_mul (by omega)];exact hlt
  omega
 ·have:v / y1<4294967298:=by rw[Nat.div_lt_iff_lt_mul hpos];omega
  omega
omit hu in
theorem Half.fits(h:Half y1 y0 v u q r)(h2:q*y0<=4294967296*r+u):q=(v*4294967296+u) / (4294967296*y1+y0):=by
 refine quot_of (by omega) ?_ h.least;have h3:q*(4294967296*y1+y0)=(q*y1)*4294967296+q*y0:=by grind
 have h4:=h.split;omega
omit h31 h32 hy0 in
theorem Half.less(h:Half y1 y0 v u q r)(hv:v<4294967296*y1+y0)(ht:4294967296<=q\/4294967296*r+u<q*y0):(v*4294967296+u) / (4294967296*y1+y0)<q:=by
 rcases ht with ht | ht
 ·refine Nat.lt_of_lt_of_le ?_ ht
  rw[Nat.div_lt_iff_lt_mul (by omega)];omega
 ·rw[Nat.div_lt_iff_lt_mul (by omega)]
  have h3:q*(4294967296*y1+y0)=(q*y1)*4294967296+q*y0:=by grind
  have h4:=h.split;omega
omit h31 h32 hy0 in
theorem Half.down{p:Nat}(h:Half y1 y0 v u (p+1) r)(hv:v<4294967296*y1+y0)(ht:4294967296<=p+1\/4294967296*r+u<(p+1)*y0)(hr:r+y1<4294967296):Half y1 y0 v u p (r+y1):=by
 have hl:=h.less hu hv ht;have h4:=h.split;have h5:=h.most;exact⟨by rw[Nat.add_mul]at h4;omega,by omega,by omega,hr⟩
omit h31 h32 in
theorem Half.ends{p:Nat}(h:Half y1 y0 v u (p+1) r)(hv:v<4294967296*y1+y0)(ht:4294967296<=p+1\/4294967296*r+u<(p+1)*y0)(hr:4294967296<=r+y1):p=(v*4294967296+u) / (4294967296*y1+y0):=by
 have hl:=h.less hu hv ht;have h4:=h.split;have h5:=h.most;refine quot_of (by omega) ?_ (by omega);have h3:p*(4294967296*y1+y0)=(p*y1)*4294967296+p*y0:=by grind
 have h6:p*y0<=4294967296*4294967295:=Nat.mul_le_mul (by omega) (by omega);rw[Nat.add_mul]at h4;omega
omit h31 h32 hy0 in
theorem Half.pos(h:Half y1 y0 v u q r)(hv:v<4294967296*y1+y0)(ht:4294967296<=q\/4294967296*r+u<q*y0):0<q:=by
 exact Nat.lt_of_le_of_lt (Nat.zero_le _) (h.less hu hv ht)
end
theorem halves{y hi u1 u0:Nat}(hy:0<y) :
  (hi*4294967296+u1) / y*4294967296+((hi*4294967296+u1)%y*4294967296+u0) / y=(hi*18446744073709551616+(u1*4294967296+u0)) / y:=by
 have hd:=Nat.div_add_mod (hi*4294967296+u1) y;have e:hi*18446744073709551616+(u1*4294967296+u0)=(hi*4294967296+u1)*4294967296+u0:=by omega
 rw[e];have e2:(hi*4294967296+u1)*4294967296+u0=y*((hi*4294967296+u1) / y*4294967296)+((hi*4294967296+u1)%y*4294967296+u0):=by
  have:(hi*4294967296+u1)*4294967296=(y*((hi*4294967296+u1) / y)+(hi*4294967296+u1)%y)*4294967296:=by rw[hd]
  rw[this]
  grind
 rw[e2,Nat.mul_add_div hy]
open Go.RowKit
def DivPost(q:Nat)(w:World)(e:Ending)(w':World):Prop:=(∃ r:Int,e=.returned (.tuple #[.int .u64 (q:Int),.int .u64 r]))/\w=w'
theorem divpost_mk{q:Nat}{z r:Int}{w:World}(h:z=(q:Int)):DivPost q w (.returned (.tuple #[.int .u64 z,.int .u64 r])) w:=⟨⟨r,by rw[h]⟩,rfl⟩
theorem div64_fin{hi lo y y1 y0 u1 u0 P Q:Nat}(hy:y=4294967296*y1+y0)(hlo:lo=4294967296*u1+u0)(_hpos:0<y1)(_h1:(hi:Int)<y)
  (eP:P=(hi*4294967296+u1) / y) (eQ:Q=((hi*4294967296+u1)%y*4294967296+u0) / (4294967296*y1+y0)):P*4294967296+Q=(hi*18446744073709551616+lo) / y:=by
 rw[<- hy]at eQ;rw[eP,eQ,halves (by omega),hlo,Nat.mul_comm 4294967296 u1]
theorem div64_big(hi lo y y1 y0 u1 u0:Nat)(h0:(0:Int)<hi)(h1:(hi:Int)<y)(hy:y=4294967296*y1+y0)(hlo:lo=4294967296*u1+u0)
  (h31:2147483648<=y1) (h32:y1<4294967296) (hy0:y0<4294967296) (hu1:u1<4294967296) (hu0:u0<4294967296) (w:World)
  (a1:bits .and .u64 (y:Int) 4294967295=(y0:Int)) (a2:bits .and .u64 (lo:Int) 4294967295=(u0:Int)) (a3:bits .or .u64 (hi:Int) 0=(hi:Int))
  (hL:∀ w,Calls Tryz.prog 122 #[.int .u64 y] w fun e w'=>e=.returned (.int .i64 0)/\w=w') :
  Calls Tryz.prog 136 #[.int .u64 hi,.int .u64 lo,.int .u64 y] w (DivPost ((hi*18446744073709551616+lo) / y) w):=by
 have hy':(9223372036854775808:Int)<=y:=by omega
 have hy'':(y:Int)<=18446744073709551615:=by omega
 have hlo':(lo:Int)<=18446744073709551615:=by omega
 have n0:((y:Int) == 0)=false:=by simp;omega
 have n1:¬(y:Int)<=hi:=by omega
 have n2:((hi:Int) == 0)=false:=by simp;omega
 have n3:(0:Int)<=hi:=by omega
 have n4:(hi:Int)<=18446744073709551615:=by omega
 have n5:(0:Int)<=lo:=by omega
 have n6:(0:Int)<=y:=by omega
 have d1:(y:Int) / 4294967296=(y1:Int):=by omega
 have d2:(lo:Int) / 4294967296=(u1:Int):=by omega
 have d3:(lo:Int) / 18446744073709551616=0:=by omega
 have m1:(1:Int)<=y1:=by omega
 have m2:(y1:Int)<=4294967295:=by omega
 have m3:(u1:Int)<=4294967295:=by omega
 have m4:(u0:Int)<=4294967295:=by omega
 have m5:(0:Int)<=u1:=by omega
 have m6:(0:Int)<=u0:=by omega
 have m7:(0:Int)<=y1:=by omega
 have H31:=Lib.hid h31;have H32:=Lib.hid h32;have HY0:=Lib.hid hy0;have HU1:=Lib.hid hu1;have HU2:=Lib.hid hu0;have HY:=Lib.hid hy;have HLO:=Lib.hid hlo;have HV1:Hid (hi<4294967296*y1+y0):=Lib.hid (by omega);have hq:=Half.start h31 h32 hy0 hu1 HV1.out;obtain⟨Q,eQ⟩:∃ Q,Q=hi / y1:=⟨_,rfl⟩
 obtain⟨R,eR⟩:∃ R,R=hi%y1:=⟨_,rfl⟩
 rw[<- eQ,<- eR]at hq;have eq1:(hi:Int) / (y1:Int)=(Q:Int):=by rw[eQ];simp
 have eq2:IntKind.u64.wrap ((hi:Int) - IntKind.u64.wrap ((Q:Int)*(y1:Int)))=(R:Int):=by
  have h:=hq.split;rw[<- Int.natCast_mul,IntKind.wrap_u64,IntKind.wrap_u64];omega
 have bQ0:(0:Int)<=Q:=by omega
 have bQ1:(Q:Int)<=4294967297:=by have:=hq.most;omega
 have HQ0:=Lib.hid hq;clear hq eQ eR hy hlo h31 h32 hy0 hu1 hu0 hy';go_enter Tryz.func136,Tryz.ntmps136
 go_wp2_with fail
 refine(hL _).mono ?_;rintro e w' ⟨rfl,rfl⟩
 go_wp2_with fail
 go_loop [15,16] (fun a b=>∃ q r:Nat,a=.int .u64 q/\b=.int .u64 r/\Hid (Half y1 y0 hi u1 q r)) (fun a _=>(intOf a).toNat)
 case atStart=>exact⟨_,_,rfl,rfl,HQ0⟩
 case round =>
  obtain⟨q,r,rfl,rfl,H1⟩:=hrel;obtain⟨m,hm⟩:∃ m:Nat,m=q*y0:=⟨_,rfl⟩
  have r0:(0:Int)<=r:=by omega
  have r1:(r:Int)<4294967296:=by have:=H1.out.rest;omega
  have q0:(0:Int)<=q:=by omega
  have q1:(q:Int)<=4294967297:=by have:=H1.out.most;omega
  by_cases hbig:4294967296<=q
  ·have t0:(4294967296:Int)<=q:=by omega
   have ht:Hid (4294967296<=q\/4294967296*r+u1<q*y0):=Lib.hid (Or.inl hbig);have hqp:Hid (q=(q - 1)+1):=Lib.hid (by omega);clear hbig hm;by_cases hr:r+y1<4294967296
   ·have t1:¬(4294967296:Int)<=r+y1:=by omega
    go_wp2
    go_round
    case rel=>exact⟨q - 1,r+y1,congrArg (Value.int .u64) (by have:=hqp.out;omega),by go_num,Lib.hid (Half.down (p:=q - 1) HU1.out (by rw[<- hqp.out];exact H1.out) HV1.out (by rw[<- hqp.out];exact ht.out) hr)⟩
    case measure=>simp[intOf];have:=hqp.out;omega
   ·have t1:(4294967296:Int)<=r+y1:=by omega
    obtain⟨p,ep⟩:∃ p,p=q - 1:=⟨_,rfl⟩
    have HQ1:=Lib.hid (Half.ends (p:=q - 1) HY0.out HU1.out (by rw[<- hqp.out];exact H1.out) HV1.out (by rw[<- hqp.out];exact ht.out) (by omega));rw[<- ep]at HQ1;have hp:(q:Int) - 1=(p:Int):=by have:=hqp.out;omega
    clear ep;clear hr;obtain⟨v,ev⟩:∃ v,v=(hi*4294967296+u1)%y:=⟨_,rfl⟩
    have hv:v<y:=by rw[ev];exact Nat.mod_lt _ (by omega)
    have EP:Hid (p=(hi*4294967296+u1) / y):=Lib.hid (by rw[HY.out];exact HQ1.out);have tv:IntKind.u64.wrap (IntKind.u64.wrap (IntKind.u64.wrap ((hi:Int)*4294967296)+(u1:Int)) - IntKind.u64.wrap ((p:Int)*(y:Int)))=(v:Int):=by
     have hd:=Nat.div_add_mod (hi*4294967296+u1) y;rw[<- EP.out,<- ev,Nat.mul_comm]at hd;rw[<- Int.natCast_mul];generalize p*y=m at *;simp only[IntKind.wrap_u64];omega
    have EV:=Lib.hid ev;have c0:(0:Int)<=v:=by omega
    have c1:(v:Int)<=18446744073709551615:=by omega
    have HV2:Hid (v<4294967296*y1+y0):=Lib.hid (by rw[<- HY.out];exact hv);have g5:p<4294967296:=by
     have h3:=HU1.out;rw[EP.out,Nat.div_lt_iff_lt_mul (by omega)];omega
    have b5:(p:Int)<=4294967295:=by omega
    clear g5;have b6:(0:Int)<=p:=by omega
    have hq2:=Half.start H31.out H32.out HY0.out HU2.out HV2.out;obtain⟨Q2,eQ2⟩:∃ Q,Q=v / y1:=⟨_,rfl⟩
    obtain⟨R2,eR2⟩:∃ R,R=v%y1:=⟨_,rfl⟩
    rw[<- eQ2,<- eR2]at hq2;have eq3:(v:Int) / (y1:Int)=(Q2:Int):=by rw[eQ2];simp
    have eq4:IntKind.u64.wrap ((v:Int) - IntKind.u64.wrap ((Q2:Int)*(y1:Int)))=(R2:Int):=by
     have h:=hq2.split;rw[<- Int.natCast_mul,IntKind.wrap_u64,IntKind.wrap_u64];omega
    have bQ2:(0:Int)<=Q2:=by omega
    have bQ3:(Q2:Int)<=4294967297:=by have:=hq2.most;omega
    have HQ02:=Lib.hid hq2;clear hq2 eQ2 eR2 ev hv
    go_wp2_with fail
    go_loop [18,16] (fun a b=>∃ z rr:Nat,a=.int .u64 z/\b=.int .u64 rr/\Hid (Half y1 y0 v u0 z rr)) (fun a _=>(intOf a).toNat)
    case atStart=>exact⟨_,_,rfl,rfl,HQ02⟩
    case round =>
     obtain⟨z,rr,rfl,rfl,H2⟩:=hrel;obtain⟨mm,hmm⟩:∃ mm:Nat,mm=z*y0:=⟨_,rfl⟩
     have rr0:(0:Int)<=rr:=by omega
     have rr1:(rr:Int)<4294967296:=by have:=H2.out.rest;omega
     have zz0:(0:Int)<=z:=by omega
     have zz1:(z:Int)<=4294967297:=by have:=H2.out.most;omega
     by_cases hbigg:4294967296<=z
     ·have tt0:(4294967296:Int)<=z:=by omega
      have htt:Hid (4294967296<=z\/4294967296*rr+u0<z*y0):=Lib.hid (Or.inl hbigg);have hqpp:Hid (z=(z - 1)+1):=Lib.hid (by omega);clear hbigg hmm;by_cases hrr:rr+y1<4294967296
      ·have tt1:¬(4294967296:Int)<=rr+y1:=by omega
       go_wp2
       go_round
       case rel=>exact⟨z - 1,rr+y1,congrArg (Value.int .u64) (by have:=hqpp.out;omega),by go_num,Lib.hid (Half.down (p:=z - 1) HU2.out (by rw[<- hqpp.out];exact H2.out) HV2.out (by rw[<- hqpp.out];exact htt.out) hrr)⟩
       case measure=>simp[intOf];have:=hqpp.out;omega
      ·have tt1:(4294967296:Int)<=rr+y1:=by omega
       obtain⟨pp,epp⟩:∃ pp,pp=z - 1:=⟨_,rfl⟩
       have HQ2:=Lib.hid (Half.ends (p:=z - 1) HY0.out HU2.out (by rw[<- hqpp.out];exact H2.out) HV2.out (by rw[<- hqpp.out];exact htt.out) (by omega));rw[<- epp]at HQ2;have hpp:(z:Int) - 1=(pp:Int):=by have:=hqpp.out;omega
       clear epp;clear hrr;have fq:=Lib.hid (div64_fin (P:=p) (Q:=pp) HY.out HLO.out (by have:=H31.out;omega) h1 EP.out (by rw[<- EV.out];exact HQ2.out));have g7:pp<4294967296:=by
        have h:=HV2.out;have h3:=HU2.out;have h5:=H31.out;rw[HQ2.out,Nat.div_lt_iff_lt_mul (by omega)];omega
       have b7:(pp:Int)<=4294967295:=by omega
       clear g7;have b8:(0:Int)<=pp:=by omega
       go_wp2
       go_ret2
       exact divpost_mk (by have:=fq.out;omega)
     ·have tt0:¬(4294967296:Int)<=z:=by omega
      have hww:IntKind.u64.wrap ((z:Int)*(y0:Int))=(mm:Int):=by
       have h1:z*y0<=4294967295*4294967295:=Nat.mul_le_mul (by omega) (by have:=HY0.out;omega);rw[<- Int.natCast_mul,<- hmm,IntKind.wrap_u64];omega
      by_cases hgtt:4294967296*rr+u0<mm
      ·have tt2:(4294967296:Int)*rr+u0<mm:=by omega
       have htt:Hid (4294967296<=z\/4294967296*rr+u0<z*y0):=Lib.hid (Or.inr (by rw[<- hmm];exact hgtt));have hposs:=H2.out.pos HU2.out HV2.out htt.out;have hqpp:Hid (z=(z - 1)+1):=Lib.hid (by omega);have zz2:(1:Int)<=z:=by omega
       clear hbigg hmm hgtt hposs;by_cases hrr:rr+y1<4294967296
       ·have tt1:¬(4294967296:Int)<=rr+y1:=by omega
        go_wp2
        go_round
        case rel=>exact⟨z - 1,rr+y1,congrArg (Value.int .u64) (by have:=hqpp.out;omega),by go_num,Lib.hid (Half.down (p:=z - 1) HU2.out (by rw[<- hqpp.out];exact H2.out) HV2.out (by rw[<- hqpp.out];exact htt.out) hrr)⟩
        case measure=>simp[intOf];have:=hqpp.out;omega
       ·have tt1:(4294967296:Int)<=rr+y1:=by omega
        obtain⟨pp,epp⟩:∃ pp,pp=z - 1:=⟨_,rfl⟩
        have HQ2:=Lib.hid (Half.ends (p:=z - 1) HY0.out HU2.out (by rw[<- hqpp.out];exact H2.out) HV2.out (by rw[<- hqpp.out];exact htt.out) (by omega));rw[<- epp]at HQ2;have hpp:(z:Int) - 1=(pp:Int):=by have:=hqpp.out;omega
        clear epp;clear hrr;have fq:=Lib.hid (div64_fin (P:=p) (Q:=pp) HY.out HLO.out (by have:=H31.out;omega) h1 EP.out (by rw[<- EV.out];exact HQ2.out));have g7:pp<4294967296:=by
         have h:=HV2.out;have h3:=HU2.out;have h5:=H31.out;rw[HQ2.out,Nat.div_lt_iff_lt_mul (by omega)];omega
        have b7:(pp:Int)<=4294967295:=by omega
        clear g7;have b8:(0:Int)<=pp:=by omega
        go_wp2
        go_ret2
        exact divpost_mk (by have:=fq.out;omega)
      ·have tt2:¬(4294967296:Int)*rr+u0<mm:=by omega
       have HQ2:=Lib.hid (H2.out.fits H31.out H32.out HY0.out (by rw[<- hmm];omega));clear hbigg hmm hgtt;have fq:=Lib.hid (div64_fin (P:=p) (Q:=z) HY.out HLO.out (by have:=H31.out;omega) h1 EP.out (by rw[<- EV.out];exact HQ2.out));have g7:z<4294967296:=by
        have h:=HV2.out;have h3:=HU2.out;have h5:=H31.out;rw[HQ2.out,Nat.div_lt_iff_lt_mul (by omega)];omega
       have b7:(z:Int)<=4294967295:=by omega
       clear g7;have b8:(0:Int)<=z:=by omega
       go_wp2
       go_ret2
       exact divpost_mk (by have:=fq.out;omega)
  ·have t0:¬(4294967296:Int)<=q:=by omega
   have hw:IntKind.u64.wrap ((q:Int)*(y0:Int))=(m:Int):=by
    have h1:q*y0<=4294967295*4294967295:=Nat.mul_le_mul (by omega) (by have:=HY0.out;omega);rw[<- Int.natCast_mul,<- hm,IntKind.wrap_u64];omega
   by_cases hgt:4294967296*r+u1<m
   ·have t2:(4294967296:Int)*r+u1<m:=by omega
    have ht:Hid (4294967296<=q\/4294967296*r+u1<q*y0):=Lib.hid (Or.inr (by rw[<- hm];exact hgt));have hpos:=H1.out.pos HU1.out HV1.out ht.out;have hqp:Hid (q=(q - 1)+1):=Lib.hid (by omega);have q2:(1:Int)<=q:=by omega
    clear hbig hm hgt hpos;by_cases hr:r+y1<4294967296
    ·have t1:¬(4294967296:Int)<=r+y1:=by omega
     go_wp2
     go_round
     case rel=>exact⟨q - 1,r+y1,congrArg (Value.int .u64) (by have:=hqp.out;omega),by go_num,Lib.hid (Half.down (p:=q - 1) HU1.out (by rw[<- hqp.out];exact H1.out) HV1.out (by rw[<- hqp.out];exact ht.out) hr)⟩
     case measure=>simp[intOf];have:=hqp.out;omega
    ·have t1:(4294967296:Int)<=r+y1:=by omega
     obtain⟨p,ep⟩:∃ p,p=q - 1:=⟨_,rfl⟩
     have HQ1:=Lib.hid (Half.ends (p:=q - 1) HY0.out HU1.out (by rw[<- hqp.out];exact H1.out) HV1.out (by rw[<- hqp.out];exact ht.out) (by omega));rw[<- ep]at HQ1;have hp:(q:Int) - 1=(p:Int):=by have:=hqp.out;omega
     clear ep;clear hr;obtain⟨v,ev⟩:∃ v,v=(hi*4294967296+u1)%y:=⟨_,rfl⟩
     have hv:v<y:=by rw[ev];exact Nat.mod_lt _ (by omega)
     have EP:Hid (p=(hi*4294967296+u1) / y):=Lib.hid (by rw[HY.out];exact HQ1.out);have tv:IntKind.u64.wrap (IntKind.u64.wrap (IntKind.u64.wrap ((hi:Int)*4294967296)+(u1:Int)) - IntKind.u64.wrap ((p:Int)*(y:Int)))=(v:Int):=by
      have hd:=Nat.div_add_mod (hi*4294967296+u1) y;rw[<- EP.out,<- ev,Nat.mul_comm]at hd;rw[<- Int.natCast_mul];generalize p*y=m at *;simp only[IntKind.wrap_u64];omega
     have EV:=Lib.hid ev;have c0:(0:Int)<=v:=by omega
     have c1:(v:Int)<=18446744073709551615:=by omega
     have HV2:Hid (v<4294967296*y1+y0):=Lib.hid (by rw[<- HY.out];exact hv);have g5:p<4294967296:=by
      have h3:=HU1.out;rw[EP.out,Nat.div_lt_iff_lt_mul (by omega)];omega
     have b5:(p:Int)<=4294967295:=by omega
     clear g5;have b6:(0:Int)<=p:=by omega
     have hq2:=Half.start H31.out H32.out HY0.out HU2.out HV2.out;obtain⟨Q2,eQ2⟩:∃ Q,Q=v / y1:=⟨_,rfl⟩
     obtain⟨R2,eR2⟩:∃ R,R=v%y1:=⟨_,rfl⟩
     rw[<- eQ2,<- eR2]at hq2;have eq3:(v:Int) / (y1:Int)=(Q2:Int):=by rw[eQ2];simp
     have eq4:IntKind.u64.wrap ((v:Int) - IntKind.u64.wrap ((Q2:Int)*(y1:Int)))=(R2:Int):=by
      have h:=hq2.split;rw[<- Int.natCast_mul,IntKind.wrap_u64,IntKind.wrap_u64];omega
     have bQ2:(0:Int)<=Q2:=by omega
     have bQ3:(Q2:Int)<=4294967297:=by have:=hq2.most;omega
     have HQ02:=Lib.hid hq2;clear hq2 eQ2 eR2 ev hv
     go_wp2_with fail
     go_loop [18,16] (fun a b=>∃ z rr:Nat,a=.int .u64 z/\b=.int .u64 rr/\Hid (Half y1 y0 v u0 z rr)) (fun a _=>(intOf a).toNat)
     case atStart=>exact⟨_,_,rfl,rfl,HQ02⟩
     case round =>
      obtain⟨z,rr,rfl,rfl,H2⟩:=hrel;obtain⟨mm,hmm⟩:∃ mm:Nat,mm=z*y0:=⟨_,rfl⟩
      have rr0:(0:Int)<=rr:=by omega
      have rr1:(rr:Int)<4294967296:=by have:=H2.out.rest;omega
      have zz0:(0:Int)<=z:=by omega
      have zz1:(z:Int)<=4294967297:=by have:=H2.out.most;omega
      by_cases hbigg:4294967296<=z
      ·have tt0:(4294967296:Int)<=z:=by omega
       have htt:Hid (4294967296<=z\/4294967296*rr+u0<z*y0):=Lib.hid (Or.inl hbigg);have hqpp:Hid (z=(z - 1)+1):=Lib.hid (by omega);clear hbigg hmm;by_cases hrr:rr+y1<4294967296
       ·have tt1:¬(4294967296:Int)<=rr+y1:=by omega
        go_wp2
        go_round
        case rel=>exact⟨z - 1,rr+y1,congrArg (Value.int .u64) (by have:=hqpp.out;omega),by go_num,Lib.hid (Half.down (p:=z - 1) HU2.out (by rw[<- hqpp.out];exact H2.out) HV2.out (by rw[<- hqpp.out];exact htt.out) hrr)⟩
        case measure=>simp[intOf];have:=hqpp.out;omega
       ·have tt1:(4294967296:Int)<=rr+y1:=by omega
        obtain⟨pp,epp⟩:∃ pp,pp=z - 1:=⟨_,rfl⟩
        have HQ2:=Lib.hid (Half.ends (p:=z - 1) HY0.out HU2.out (by rw[<- hqpp.out];exact H2.out) HV2.out (by rw[<- hqpp.out];exact htt.out) (by omega));rw[<- epp]at HQ2;have hpp:(z:Int) - 1=(pp:Int):=by have:=hqpp.out;omega
        clear epp;clear hrr;have fq:=Lib.hid (div64_fin (P:=p) (Q:=pp) HY.out HLO.out (by have:=H31.out;omega) h1 EP.out (by rw[<- EV.out];exact HQ2.out));have g7:pp<4294967296:=by
         have h:=HV2.out;have h3:=HU2.out;have h5:=H31.out;rw[HQ2.out,Nat.div_lt_iff_lt_mul (by omega)];omega
        have b7:(pp:Int)<=4294967295:=by omega
        clear g7;have b8:(0:Int)<=pp:=by omega
        go_wp2
        go_ret2
        exact divpost_mk (by have:=fq.out;omega)
      ·have tt0:¬(4294967296:Int)<=z:=by omega
       have hww:IntKind.u64.wrap ((z:Int)*(y0:Int))=(mm:Int):=by
        have h1:z*y0<=4294967295*4294967295:=Nat.mul_le_mul (by omega) (by have:=HY0.out;omega);rw[<- Int.natCast_mul,<- hmm,IntKind.wrap_u64];omega
       by_cases hgtt:4294967296*rr+u0<mm
       ·have tt2:(4294967296:Int)*rr+u0<mm:=by omega
        have htt:Hid (4294967296<=z\/4294967296*rr+u0<z*y0):=Lib.hid (Or.inr (by rw[<- hmm];exact hgtt));have hposs:=H2.out.pos HU2.out HV2.out htt.out;have hqpp:Hid (z=(z - 1)+1):=Lib.hid (by omega);have zz2:(1:Int)<=z:=by omega
        clear hbigg hmm hgtt hposs;by_cases hrr:rr+y1<4294967296
        ·have tt1:¬(4294967296:Int)<=rr+y1:=by omega
         go_wp2
         go_round
         case rel=>exact⟨z - 1,rr+y1,congrArg (Value.int .u64) (by have:=hqpp.out;omega),by go_num,Lib.hid (Half.down (p:=z - 1) HU2.out (by rw[<- hqpp.out];exact H2.out) HV2.out (by rw[<- hqpp.out];exact htt.out) hrr)⟩
         case measure=>simp[intOf];have:=hqpp.out;omega
        ·have tt1:(4294967296:Int)<=rr+y1:=by omega
         obtain⟨pp,epp⟩:∃ pp,pp=z - 1:=⟨_,rfl⟩
         have HQ2:=Lib.hid (Half.ends (p:=z - 1) HY0.out HU2.out (by rw[<- hqpp.out];exact H2.out) HV2.out (by rw[<- hqpp.out];exact htt.out) (by omega));rw[<- epp]at HQ2;have hpp:(z:Int) - 1=(pp:Int):=by have:=hqpp.out;omega
         clear epp;clear hrr;have fq:=Lib.hid (div64_fin (P:=p) (Q:=pp) HY.out HLO.out (by have:=H31.out;omega) h1 EP.out (by rw[<- EV.out];exact HQ2.out));have g7:pp<4294967296:=by
          have h:=HV2.out;have h3:=HU2.out;have h5:=H31.out;rw[HQ2.out,Nat.div_lt_iff_lt_mul (by omega)];omega
         have b7:(pp:Int)<=4294967295:=by omega
         clear g7;have b8:(0:Int)<=pp:=by omega
         go_wp2
         go_ret2
         exact divpost_mk (by have:=fq.out;omega)
       ·have tt2:¬(4294967296:Int)*rr+u0<mm:=by omega
        have HQ2:=Lib.hid (H2.out.fits H31.out H32.out HY0.out (by rw[<- hmm];omega));clear hbigg hmm hgtt;have fq:=Lib.hid (div64_fin (P:=p) (Q:=z) HY.out HLO.out (by have:=H31.out;omega) h1 EP.out (by rw[<- EV.out];exact HQ2.out));have g7:z<4294967296:=by
         have h:=HV2.out;have h3:=HU2.out;have h5:=H31.out;rw[HQ2.out,Nat.div_lt_iff_lt_mul (by omega)];omega
        have b7:(z:Int)<=4294967295:=by omega
        clear g7;have b8:(0:Int)<=z:=by omega
        go_wp2
        go_ret2
        exact divpost_mk (by have:=fq.out;omega)
   ·have t2:¬(4294967296:Int)*r+u1<m:=by omega
    have HQ1:=Lib.hid (H1.out.fits H31.out H32.out HY0.out (by rw[<- hm];omega));clear hbig hm hgt;obtain⟨v,ev⟩:∃ v,v=(hi*4294967296+u1)%y:=⟨_,rfl⟩
    have hv:v<y:=by rw[ev];exact Nat.mod_lt _ (by omega)
    have EP:Hid (q=(hi*4294967296+u1) / y):=Lib.hid (by rw[HY.out];exact HQ1.out);have tv:IntKind.u64.wrap (IntKind.u64.wrap (IntKind.u64.wrap ((hi:Int)*4294967296)+(u1:Int)) - IntKind.u64.wrap ((q:Int)*(y:Int)))=(v:Int):=by
     have hd:=Nat.div_add_mod (hi*4294967296+u1) y;rw[<- EP.out,<- ev,Nat.mul_comm]at hd;rw[<- Int.natCast_mul];generalize q*y=m at *;simp only[IntKind.wrap_u64];omega
    have EV:=Lib.hid ev;have c0:(0:Int)<=v:=by omega
    have c1:(v:Int)<=18446744073709551615:=by omega
    have HV2:Hid (v<4294967296*y1+y0):=Lib.hid (by rw[<- HY.out];exact hv);have g5:q<4294967296:=by
     have h3:=HU1.out;rw[EP.out,Nat.div_lt_iff_lt_mul (by omega)];omega
    have b5:(q:Int)<=4294967295:=by omega
    clear g5;have b6:(0:Int)<=q:=by omega
    have hq2:=Half.start H31.out H32.out HY0.out HU2.out HV2.out;obtain⟨Q2,eQ2⟩:∃ Q,Q=v / y1:=⟨_,rfl⟩
    obtain⟨R2,eR2⟩:∃ R,R=v%y1:=⟨_,rfl⟩
    rw[<- eQ2,<- eR2]at hq2;have eq3:(v:Int) / (y1:Int)=(Q2:Int):=by rw[eQ2];simp
    have eq4:IntKind.u64.wrap ((v:Int) - IntKind.u64.wrap ((Q2:Int)*(y1:Int)))=(R2:Int):=by
     have h:=hq2.split;rw[<- Int.natCast_mul,IntKind.wrap_u64,IntKind.wrap_u64];omega
    have bQ2:(0:Int)<=Q2:=by omega
    have bQ3:(Q2:Int)<=4294967297:=by have:=hq2.most;omega
    have HQ02:=Lib.hid hq2;clear hq2 eQ2 eR2 ev hv
    go_wp2_with fail
    go_loop [18,16] (fun a b=>∃ z rr:Nat,a=.int .u64 z/\b=.int .u64 rr/\Hid (Half y1 y0 v u0 z rr)) (fun a _=>(intOf a).toNat)
    case atStart=>exact⟨_,_,rfl,rfl,HQ02⟩
    case round =>
     obtain⟨z,rr,rfl,rfl,H2⟩:=hrel;obtain⟨mm,hmm⟩:∃ mm:Nat,mm=z*y0:=⟨_,rfl⟩
     have rr0:(0:Int)<=rr:=by omega
     have rr1:(rr:Int)<4294967296:=by have:=H2.out.rest;omega
     have zz0:(0:Int)<=z:=by omega
     have zz1:(z:Int)<=4294967297:=by have:=H2.out.most;omega
     by_cases hbigg:4294967296<=z
     ·have tt0:(4294967296:Int)<=z:=by omega
      have htt:Hid (4294967296<=z\/4294967296*rr+u0<z*y0):=Lib.hid (Or.inl hbigg);have hqpp:Hid (z=(z - 1)+1):=Lib.hid (by omega);clear hbigg hmm;by_cases hrr:rr+y1<4294967296
      ·have tt1:¬(4294967296:Int)<=rr+y1:=by omega
       go_wp2
       go_round
       case rel=>exact⟨z - 1,rr+y1,congrArg (Value.int .u64) (by have:=hqpp.out;omega),by go_num,Lib.hid (Half.down (p:=z - 1) HU2.out (by rw[<- hqpp.out];exact H2.out) HV2.out (by rw[<- hqpp.out];exact htt.out) hrr)⟩
       case measure=>simp[intOf];have:=hqpp.out;omega
      ·have tt1:(4294967296:Int)<=rr+y1:=by omega
       obtain⟨pp,epp⟩:∃ pp,pp=z - 1:=⟨_,rfl⟩
       have HQ2:=Lib.hid (Half.ends (p:=z - 1) HY0.out HU2.out (by rw[<- hqpp.out];exact H2.out) HV2.out (by rw[<- hqpp.out];exact htt.out) (by omega));rw[<- epp]at HQ2;have hpp:(z:Int) - 1=(pp:Int):=by have:=hqpp.out;omega
       clear epp;clear hrr;have fq:=Lib.hid (div64_fin (P:=q) (Q:=pp) HY.out HLO.out (by have:=H31.out;omega) h1 EP.out (by rw[<- EV.out];exact HQ2.out));have g7:pp<4294967296:=by
        have h:=HV2.out;have h3:=HU2.out;have h5:=H31.out;rw[HQ2.out,Nat.div_lt_iff_lt_mul (by omega)];omega
       have b7:(pp:Int)<=4294967295:=by omega
       clear g7;have b8:(0:Int)<=pp:=by omega
       go_wp2
       go_ret2
       exact divpost_mk (by have:=fq.out;omega)
     ·have tt0:¬(4294967296:Int)<=z:=by omega
      have hww:IntKind.u64.wrap ((z:Int)*(y0:Int))=(mm:Int):=by
       have h1:z*y0<=4294967295*4294967295:=Nat.mul_le_mul (by omega) (by have:=HY0.out;omega);rw[<- Int.natCast_mul,<- hmm,IntKind.wrap_u64];omega
      by_cases hgtt:4294967296*rr+u0<mm
      ·have tt2:(4294967296:Int)*rr+u0<mm:=by omega
       have htt:Hid (4294967296<=z\/4294967296*rr+u0<z*y0):=Lib.hid (Or.inr (by rw[<- hmm];exact hgtt));have hposs:=H2.out.pos HU2.out HV2.out htt.out;have hqpp:Hid (z=(z - 1)+1):=Lib.hid (by omega);have zz2:(1:Int)<=z:=by omega
       clear hbigg hmm hgtt hposs;by_cases hrr:rr+y1<4294967296
       ·have tt1:¬(4294967296:Int)<=rr+y1:=by omega
        go_wp2
        go_round
        case rel=>exact⟨z - 1,rr+y1,congrArg (Value.int .u64) (by have:=hqpp.out;omega),by go_num,Lib.hid (Half.down (p:=z - 1) HU2.out (by rw[<- hqpp.out];exact H2.out) HV2.out (by rw[<- hqpp.out];exact htt.out) hrr)⟩
        case measure=>simp[intOf];have:=hqpp.out;omega
       ·have tt1:(4294967296:Int)<=rr+y1:=by omega
        obtain⟨pp,epp⟩:∃ pp,pp=z - 1:=⟨_,rfl⟩
        have HQ2:=Lib.hid (Half.ends (p:=z - 1) HY0.out HU2.out (by rw[<- hqpp.out];exact H2.out) HV2.out (by rw[<- hqpp.out];exact htt.out) (by omega));rw[<- epp]at HQ2;have hpp:(z:Int) - 1=(pp:Int):=by have:=hqpp.out;omega
        clear epp;clear hrr;have fq:=Lib.hid (div64_fin (P:=q) (Q:=pp) HY.out HLO.out (by have:=H31.out;omega) h1 EP.out (by rw[<- EV.out];exact HQ2.out));have g7:pp<4294967296:=by
         have h:=HV2.out;have h3:=HU2.out;have h5:=H31.out;rw[HQ2.out,Nat.div_lt_iff_lt_mul (by omega)];omega
        have b7:(pp:Int)<=4294967295:=by omega
        clear g7;have b8:(0:Int)<=pp:=by omega
        go_wp2
        go_ret2
        exact divpost_mk (by have:=fq.out;omega)
      ·have tt2:¬(4294967296:Int)*rr+u0<mm:=by omega
       have HQ2:=Lib.hid (H2.out.fits H31.out H32.out HY0.out (by rw[<- hmm];omega));clear hbigg hmm hgtt;have fq:=Lib.hid (div64_fin (P:=q) (Q:=z) HY.out HLO.out (by have:=H31.out;omega) h1 EP.out (by rw[<- EV.out];exact HQ2.out));have g7:z<4294967296:=by
        have h:=HV2.out;have h3:=HU2.out;have h5:=H31.out;rw[HQ2.out,Nat.div_lt_iff_lt_mul (by omega)];omega
       have b7:(z:Int)<=4294967295:=by omega
       clear g7;have b8:(0:Int)<=z:=by omega
       go_wp2
       go_ret2
       exact divpost_mk (by have:=fq.out;omega)
end Go.Proofs.YthnckclbeecnmaaGreat
