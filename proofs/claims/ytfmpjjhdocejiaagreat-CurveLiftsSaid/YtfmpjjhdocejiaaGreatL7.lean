/- The program's curve, by values told by letters: its types, what lies at slices, the field's own calls. (Cut to what is reached, written closely: FNew · GCub · Gk · Eqp · SyB · Gsp · Pair · FTab · FPow · FExp · FInv · SyT.) -/
import Derived.Test.YtfmpjjhdocejiaaGreatL6
import Derived.Test.YtfmpjjhdocejiaaGreatL4
import Derived.Deep.DeepCutAuto
import Derived.Test.YtfmpjjhdocejiaaGreatL5
import Derived.Laws.StructEq
import Derived.Test.YtfmpjjhdocejiaaGreatL2
import Derived.Deep.MidRow
set_option linter.all false
set_option maxRecDepth 100000
set_option maxHeartbeats 8000000
namespace Go.Proofs.YtfmpjjhdocejiaaGreat
open Go.RowKit
theorem eqi_pw(a b:Nat)(ha:a<2^256)(hb:b<2^256):∀ w,(Op.equalIn 10000 24 (.agg (pw a)) (.agg (pw b))).run Tryz.prog w=.ok (decide (a=b)) w:=by
 obtain⟨x0,x1,x2,x3,u0,u1,u2,u3,ex,nx⟩:=wv_parts a;obtain⟨y0,y1,y2,y3,v0,v1,v2,v3,ey,ny⟩:=wv_parts b;rw[wv_pw]at ex ey;rw[ex,ey];intro w;have h:=eqW x0 x1 x2 x3 y0 y1 y2 y3 w;have e:((x0 == y0)&&((x1 == y1)&&((x2 == y2)&&(x3 == y3))))=decide (a=b):=by
  rw[Nat.mod_eq_of_lt ha]at nx;rw[Nat.mod_eq_of_lt hb]at ny;rw[<- nx,<- ny,Bool.eq_iff_iff];simp only[Bool.and_eq_true,beq_iff_eq,decide_eq_true_eq];unfold n4;omega
 rw[e]at h;exact h
theorem eqw_run(a b:Nat)(ha:a<2^256)(hb:b<2^256)(w:World):(binOp BinOp.eql 24 (.agg (pw a)) (.agg (pw b))).run Tryz.prog w=.ok (.bool (decide (a=b))) w:=by
 have h:=eqi_pw a b ha hb;obtain⟨x0,x1,x2,x3,-,-,-,-,ex,-⟩:=wv_parts a;obtain⟨y0,y1,y2,y3,-,-,-,-,ey,-⟩:=wv_parts b;rw[wv_pw]at ex ey;rw[ex,ey]at h |-
 go_simp
theorem new_run(a b:Nat)(ha:a<2^256)(hb:b<2^256)(w:World):(binOp BinOp.neq 24 (.agg (pw a)) (.agg (pw b))).run Tryz.prog w=.ok (.bool (!decide (a=b))) w:=by
 have h:=eqi_pw a b ha hb;obtain⟨x0,x1,x2,x3,-,-,-,-,ex,-⟩:=wv_parts a;obtain⟨y0,y1,y2,y3,-,-,-,-,ey,-⟩:=wv_parts b;rw[wv_pw]at ex ey;rw[ex,ey]at h |-
 go_simp
structure CBm (w:World) (m:Nat) (wx:World):Prop where
 old:Below w.heap.size w wx
 r0:wx.heap[w.heap.size]?=some (.cells (pw m) 24 (0,0))
theorem CBm.below{w wx w':World}{m:Nat}(c:CBm w m wx)(hb:Below wx.heap.size wx w'):CBm w m w' :=
 ⟨c.old.trans (hb.mono c.old.size),(hb.block _ (Array.getElem?_eq_some_iff.1 c.r0).1).trans c.r0⟩
theorem CBm.drew{w wx:World}{m:Nat}(c:CBm w m wx):CBm w m wx.drew:=c.below (Below.drew (Below.refl _ _))
theorem CBm.start(w:World)(m:Nat):CBm w m (w.alloc (.cells (pw m) 24)):=⟨by go_grown,heap_alloc_new _ _⟩
theorem CBm.calls{w:World}{m:Nat}{f:FuncId}{args:Array Value}{v:Value}(h:∀ wx,Calls Tryz.prog f args wx fun e w'=>e=.returned v/\Below wx.heap.size wx w'):∀ wx,CBm w m wx->Calls Tryz.prog f args wx fun e w'=>e=.returned v/\CBm w m w' :=
 fun wx c=>(h wx).mono fun _ _ hh=>⟨hh.1,c.below hh.2⟩
open Go.RowKit
structure CG (w:World) (F m:Nat) (L:List (Nat × Array Value)) (wx:World):Prop where
 cw:CW w F m L wx
 grp:wx.heap[w.heap.size]?=some (.cells #[.pointer (some ⟨F,0,none⟩)] 53 (0,0))
theorem CG.below{w wx w':World}{F m:Nat}{L:List (Nat × Array Value)}(c:CG w F m L wx)(hb:Below wx.heap.size wx w'):CG w F m L w':=⟨c.cw.below hb,(hb.block _ (Array.getElem?_eq_some_iff.1 c.grp).1).trans c.grp⟩
theorem CG.drew{w wx:World}{F m:Nat}{L:List (Nat × Array Value)}(c:CG w F m L wx):CG w F m L wx.drew:=c.below (Below.drew (Below.refl _ _))
theorem CG.is{w wx:World}{F m:Nat}{L:List (Nat × Array Value)}(c:CG w F m L wx)(g:Nat)(cs:Array Value)(hm:(g,cs)∈L):wx.heap[g]?=some (.cells cs 24 (0,0)):=c.cw.rows _ hm
theorem CG.new{w wx:World}{F m:Nat}{L:List (Nat × Array Value)}(c:CG w F m L wx)(cs:Array Value):CG w F m ((wx.heap.size,cs)::L) (wx.alloc (.cells cs 24)) :=
 ⟨c.cw.new cs,(c.below ((Below.refl _ _).alloc (Nat.le_refl _) (.cells cs 24))).grp⟩
theorem CG.start{w:World}{F m:Nat}(h:FldAt w F m):CG w F m [] (w.alloc (.cells #[.pointer (some ⟨F,0,none⟩)] 53)):=⟨(CW.start h).below ((Below.refl _ _).alloc (Nat.le_refl _) _),heap_alloc_new _ _⟩
theorem CG.box{w:World}{F m:Nat}(h:FldAt w F m)(a:Nat):CG w F m [(w.heap.size+1,pw a)] ((w.alloc (.cells #[.pointer (some ⟨F,0,none⟩)] 53)).alloc (.cells (pw a) 24)):=by
 have:=(CG.start h).new (pw a);rwa [World.size_alloc]at this
theorem CG.one{w:World}{F m:Nat}(h:FldAt w F m)(a:Nat):CG w F m [(w.heap.size+1+1,#[.int .u64 0,.int .u64 0,.int .u64 0,.int .u64 0]),(w.heap.size+1,pw a)] (((w.alloc (.cells #[.pointer (some ⟨F,0,none⟩)] 53)).alloc (.cells (pw a) 24)).alloc (.cells (#[.int .u64 0,.int .u64 0,.int .u64 0,.int .u64 0]) 24)):=by
 have:=(CG.box h a).new (#[.int .u64 0,.int .u64 0,.int .u64 0,.int .u64 0]);rwa [World.size_alloc,World.size_alloc]at this
theorem CG.calls{w:World}{F m:Nat}{L:List (Nat × Array Value)}{f:FuncId}{args:Array Value}{v:Value}(h:∀ wx,FldAt wx F m->Calls Tryz.prog f args wx fun e w'=>e=.returned v/\Below wx.heap.size wx w'):∀ wx,CG w F m L wx->Calls Tryz.prog f args wx fun e w'=>e=.returned v/\CG w F m L w' :=
 fun wx c=>(h wx c.cw.fld).mono fun _ _ hh=>⟨hh.1,c.below hh.2⟩
theorem grp_at(g:Nat)(w:World):(Instr.fieldAt 53 (.pointer (some ⟨g,0,none⟩)) 0).run Tryz.prog w=.ok (.pointer (some ⟨g,0,none⟩)) w:=by kernel_rfl
theorem ld_grp{w:World}{g F:Nat}(h:w.heap[g]?=some (.cells #[.pointer (some ⟨F,0,none⟩)] 53 (0,0))):(Instr.loadAt 51 (.pointer (some ⟨g,0,none⟩))).run Tryz.prog w=.ok (.pointer (some ⟨F,0,none⟩)) w:=by
 have c0:w.cell? ⟨g,0,none⟩=some (.pointer (some ⟨F,0,none⟩)):=cell_of_row _ _ 0 _ _ _ h
 go_simp
theorem gsquare_any(F m a:Nat)(ha:a<2^256)(w:World)(hF:FldAt w F m):Calls Tryz.prog 46 #[.agg #[.pointer (some ⟨F,0,none⟩)],.agg (pw a)] w fun r w'=>r=.returned (.agg (pw ((a*a%m*a%m+7)%m)))/\Below w.heap.size w w':=by
 have hm:=hF.lt;have hb:=hF.big;have H0:=Lib.hid (CG.one hF a);have HM1:=Lib.hid (fun wx (c:FldAt wx F m)=>fmul_any F m a a ha ha wx c);obtain⟨x,hx⟩:∃ x,a*a%m=x:=⟨_,rfl⟩
 have hxl:x<2^256:=by rw[<- hx];exact Nat.lt_trans (Nat.mod_lt _ (by omega)) hm
 rw[hx]at HM1 |-
 have HM2:=Lib.hid (fun wx (c:FldAt wx F m)=>fmul_any F m x a hxl ha wx c);obtain⟨y,hy⟩:∃ y,x*a%m=y:=⟨_,rfl⟩
 have hyl:y<2^256:=by rw[<- hy];exact Nat.lt_trans (Nat.mod_lt _ (by omega)) hm
 rw[hy]at HM2 |-
 have HAD:=Lib.hid (fun wx (c:FldAt wx F m)=>fadd_any F m y 7 hyl (by omega) wx c);obtain⟨z,hz⟩:∃ z,(y+7)%m=z:=⟨_,rfl⟩
 rw[hz]at HAD |-
 clear hF ha hm hb hx hxl hy hyl hz;go_enter Tryz.func46,Tryz.ntmps46
 go_wp2_with fail
 refine region_quiet_tail 13 (CG w F m [(w.heap.size+1+1,#[.int .u64 0,.int .u64 0,.int .u64 0,.int .u64 0]),(w.heap.size+1,pw a)]) (by kernel_rfl) (by kernel_rfl) (H0.out.drew) ?_;simp only[List.take_succ_cons,List.take_zero,List.drop_succ_cons,List.drop_zero]
 with_reducible refine q_sem2 (Instr.fieldAt 53 (.pointer (some ⟨w.heap.size,0,none⟩)) 0) (.pointer (some ⟨w.heap.size,0,none⟩)) (by kernel_rfl) (by kernel_rfl) (fun w' _=>grp_at _ w') ?_
 with_reducible refine q_load 51 (.tmp 5) (.pointer (some ⟨w.heap.size,0,none⟩)) (.pointer (some ⟨F,0,none⟩)) rfl (by kernel_rfl) (by kernel_rfl) (fun _ c=>ld_grp c.grp) ?_
 with_reducible refine q_sem2 (Instr.fieldAt 53 (.pointer (some ⟨w.heap.size,0,none⟩)) 0) (.pointer (some ⟨w.heap.size,0,none⟩)) (by kernel_rfl) (by kernel_rfl) (fun w' _=>grp_at _ w') ?_
 with_reducible refine q_load 51 (.tmp 7) (.pointer (some ⟨w.heap.size,0,none⟩)) (.pointer (some ⟨F,0,none⟩)) rfl (by kernel_rfl) (by kernel_rfl) (fun _ c=>ld_grp c.grp) ?_
 with_reducible refine q_sem2 (Instr.fieldAt 53 (.pointer (some ⟨w.heap.size,0,none⟩)) 0) (.pointer (some ⟨w.heap.size,0,none⟩)) (by kernel_rfl) (by kernel_rfl) (fun w' _=>grp_at _ w') ?_
 with_reducible refine q_load 51 (.tmp 9) (.pointer (some ⟨w.heap.size,0,none⟩)) (.pointer (some ⟨F,0,none⟩)) rfl (by kernel_rfl) (by kernel_rfl) (fun _ c=>ld_grp c.grp) ?_
 with_reducible refine q_load 24 (.tmp 3) (.pointer (some ⟨w.heap.size+1,0,none⟩)) (.agg (pw a)) rfl (by kernel_rfl) (by kernel_rfl) (fun _ c=>ld_pw (c.is _ _ (by simp))) ?_
 with_reducible refine q_load 24 (.tmp 3) (.pointer (some ⟨w.heap.size+1,0,none⟩)) (.agg (pw a)) rfl (by kernel_rfl) (by kernel_rfl) (fun _ c=>ld_pw (c.is _ _ (by simp))) ?_
 with_reducible refine q_call 72 #[.pointer (some ⟨F,0,none⟩),.agg (pw a),.agg (pw a)] (.agg (pw x)) (by kernel_rfl) (fun _=>by kernel_rfl) (CG.calls HM1.out) ?_
 with_reducible refine q_load 24 (.tmp 3) (.pointer (some ⟨w.heap.size+1,0,none⟩)) (.agg (pw a)) rfl (by kernel_rfl) (by kernel_rfl) (fun _ c=>ld_pw (c.is _ _ (by simp))) ?_
 with_reducible refine q_call 72 #[.pointer (some ⟨F,0,none⟩),.agg (pw x),.agg (pw a)] (.agg (pw y)) (by kernel_rfl) (fun _=>by kernel_rfl) (CG.calls HM2.out) ?_
 with_reducible refine q_call 70 #[.int .u64 (7:Nat)] (.agg (pw 7)) (by kernel_rfl) (fun _=>by kernel_rfl) (CG.calls (fun wx _=>of_wv 7 (by omega) wx)) ?_
 with_reducible refine q_call 74 #[.pointer (some ⟨F,0,none⟩),.agg (pw y),.agg (pw 7)] (.agg (pw z)) (by kernel_rfl) (fun _=>by kernel_rfl) (CG.calls HAD.out) ?_
 with_reducible refine wpQuiet_nil ?_
 intro wx hC;have HC:=Lib.hid hC;clear hC H0 HM1 HM2 HAD;simp only[Act.put,List.setIfInBounds_toArray,List.set_cons_succ,List.set_cons_zero]
 go_wp2_with (refine wpList_store_row rfl 24 _ _ rfl (w.heap.size+1+1) (pw z) rfl rfl 24 (#[.int .u64 0,.int .u64 0,.int .u64 0,.int .u64 0]) (by exact HC.out.is _ _ (by simp)) (by rw[pw_size];exact infoW4) (by first | rfl | (rw[pw_size];rfl) | (rw[pw_size,pw_size])) (pw_one _) ?_)
 (try simp only[Act.put])
 refine bodyPost_ret (v:=.agg (pw z)) (results_cell_row (p:=4) rfl _ _ (w.heap.size+1+1) 24 (pw z) (0,0) _ rfl (setRow_heap _ _ _ _ _ _ (by exact HC.out.is _ (#[.int .u64 0,.int .u64 0,.int .u64 0,.int .u64 0]) (by simp))) Tryz.underlying24 rfl (by rw[pw_size];exact infoW4)) rfl ⟨rfl,below_setRow HC.out.cw.old (by omega) _⟩
theorem gbelow_any(F m a:Nat)(ha:a<2^256)(w:World)(hF:FldAt w F m):Calls Tryz.prog 47 #[.agg #[.pointer (some ⟨F,0,none⟩)],.agg (pw a)] w fun r w'=>r=.returned (.bool (decide (a<m)))/\Below w.heap.size w w':=by
 have hm:=hF.lt;have h0:0<m:=by have:=hF.big;omega
 have H0:=Lib.hid (CG.box hF a);have HOF:=Lib.hid (fun wx (c:FldAt wx F m)=>fof_any F m a ha wx c);have HD:decide (a%m=a)=decide (a<m):=by
  rw[decide_eq_decide];exact⟨fun h=>by rw[<- h];exact Nat.mod_lt _ h0,fun h=>Nat.mod_eq_of_lt h⟩
 have HEQ:=Lib.hid (fun wx=>eqw_run (a%m) a (Nat.lt_trans (Nat.mod_lt _ h0) hm) ha wx);rw[HD]at HEQ;obtain⟨x,hx⟩:∃ x,a%m=x:=⟨_,rfl⟩
 obtain⟨b,hb⟩:∃ b,decide (a<m)=b:=⟨_,rfl⟩
 rw[hx]at HOF HEQ;rw[hb]at HEQ |-
 clear hF ha hm h0 hx hb HD;go_enter Tryz.func47,Tryz.ntmps47
 go_wp2_with fail
 refine wp_region_quiet (C:=CG w F m [(w.heap.size+1,pw a)]) (by kernel_rfl) (by kernel_rfl) (H0.out.drew) ?_;simp only
 with_reducible refine q_sem2 (Instr.fieldAt 53 (.pointer (some ⟨w.heap.size,0,none⟩)) 0) (.pointer (some ⟨w.heap.size,0,none⟩)) (by kernel_rfl) (by kernel_rfl) (fun w' _=>grp_at _ w') ?_
 with_reducible refine q_load 51 (.tmp 5) (.pointer (some ⟨w.heap.size,0,none⟩)) (.pointer (some ⟨F,0,none⟩)) rfl (by kernel_rfl) (by kernel_rfl) (fun _ c=>ld_grp c.grp) ?_
 with_reducible refine q_load 24 (.tmp 3) (.pointer (some ⟨w.heap.size+1,0,none⟩)) (.agg (pw a)) rfl (by kernel_rfl) (by kernel_rfl) (fun _ c=>ld_pw (c.is _ _ (by simp))) ?_
 with_reducible refine q_call 73 #[.pointer (some ⟨F,0,none⟩),.agg (pw a)] (.agg (pw x)) (by kernel_rfl) (fun _=>by kernel_rfl) (CG.calls HOF.out) ?_
 with_reducible refine q_load 24 (.tmp 3) (.pointer (some ⟨w.heap.size+1,0,none⟩)) (.agg (pw a)) rfl (by kernel_rfl) (by kernel_rfl) (fun _ c=>ld_pw (c.is _ _ (by simp))) ?_
 with_reducible refine q_bin .eql 24 _ _ 24 (.agg (pw x)) (.agg (pw a)) (.bool b) rfl (by kernel_rfl) (by kernel_rfl) (by kernel_rfl) (fun _=>by kernel_rfl) (fun w'=>HEQ.out w') ?_
 with_reducible refine q_val (.bool b) (by kernel_rfl) (fun _ _=>by kernel_rfl) ?_
 with_reducible refine wpQuiet_nil ?_
 intro wx hC;have HC:=Lib.hid hC;clear hC H0 HOF HEQ;simp only[Act.put,List.setIfInBounds_toArray,List.set_cons_succ,List.set_cons_zero]
 go_wp2_with fail
 go_ret;exact⟨rfl,HC.out.cw.old⟩
open Go.RowKit
def jc(X Y Z:Nat):Array Value:=pw X++pw Y++pw Z
def pc(x y:Nat)(n:Bool):Array Value:=pw x++pw y++#[.bool n]
def tc(k x y:Nat)(n:Bool):Array Value:=pw k++pc x y n
theorem jc_0(X Y Z:Nat):∀ j,j<(pw X).size->(jc X Y Z)[0+j]?=(pw X)[j]?:=fun j hj=>by
 rw[pw_size]at hj;obtain rfl | rfl | rfl | rfl:j=0\/j=1\/j=2\/j=3:=by omega
 all_goals kernel_rfl
theorem pc_size(x y:Nat)(n:Bool):(pc x y n).size=9:=by kernel_rfl
theorem tc_0(k x y:Nat)(n:Bool):∀ j,j<(pw k).size->(tc k x y n)[0+j]?=(pw k)[j]?:=fun j hj=>by
 rw[pw_size]at hj;obtain rfl | rfl | rfl | rfl:j=0\/j=1\/j=2\/j=3:=by omega
 all_goals kernel_rfl
theorem tc_4(k x y:Nat)(n:Bool):∀ j,j<(pc x y n).size->(tc k x y n)[4+j]?=(pc x y n)[j]?:=fun j hj=>by
 rw[pc_size]at hj;obtain rfl | rfl | rfl | rfl | rfl | rfl | rfl | rfl | rfl:j=0\/j=1\/j=2\/j=3\/j=4\/j=5\/j=6\/j=7\/j=8:=by omega
 all_goals kernel_rfl
theorem ld_int{w:World}{g o:Nat}{cs:Array Value}{t:TypeId}{b:Int}(hg:w.heap[g]?=some (.cells cs t (0,0)))(hc:cs[o]?=some (.int .i64 b)):(Instr.loadAt 3 (.pointer (some ⟨g,o,none⟩))).run Tryz.prog w=.ok (.int .i64 b) w:=by
 have c0:w.cell? ⟨g,o,none⟩=some (.int .i64 b):=(cell_of_row _ _ o _ _ _ hg).trans hc
 go_simp
open Go.RowKit
theorem eqWdn(d a0 a1 a2 a3 b0 b1 b2 b3:Nat)(w:World) :
  (Op.equalIn (d+2) 24 (.agg #[.int .u64 a0,.int .u64 a1,.int .u64 a2,.int .u64 a3]) (.agg #[.int .u64 b0,.int .u64 b1,.int .u64 b2,.int .u64 b3])).run Tryz.prog w=.ok ((a0 == b0)&&((a1 == b1)&&((a2 == b2)&&(a3 == b3)))) w:=by
 have u3:=Tryz.underlying22;have a3':=Tryz.isAgg22;have z3:=Tryz.sizeOf22;rw[show d+2=(d+1)+1 from rfl,Op.equalIn];simp only[Sem.run_bind,run_underlying Tryz.underlying24,Result.andThen_ok];simp only[Std.Legacy.Range.forIn_eq_forIn_range',Std.Legacy.Range.size,Nat.sub_zero,Nat.add_sub_cancel,Nat.div_one,List.range'_succ,List.range'_zero,List.forIn_cons,List.forIn_nil]
 go_simp
 simp only[Int.natCast_inj];by_cases h0:a0=b0
 ·by_cases h1:a1=b1
  ·by_cases h2:a2=b2
   ·by_cases h3:a3=b3
    ·simp[h0,h1,h2,h3]
    ·simp[h0,h1,h2,h3]
   ·simp[h0,h1,h2]
  ·simp[h0,h1]
 ·simp[h0]
theorem eqWd(d:Nat){a b:Nat}(ha:a<2^256)(hb:b<2^256)(w:World):(Op.equalIn (d+2) 24 (.agg (pw a)) (.agg (pw b))).run Tryz.prog w=.ok (decide (a=b)) w:=by
 obtain⟨x0,x1,x2,x3,u0,u1,u2,u3,ex,nx⟩:=wv_parts a;obtain⟨y0,y1,y2,y3,v0,v1,v2,v3,ey,ny⟩:=wv_parts b;rw[wv_pw]at ex ey;rw[ex,ey];have h:=eqWdn d x0 x1 x2 x3 y0 y1 y2 y3 w;have e:((x0 == y0)&&((x1 == y1)&&((x2 == y2)&&(x3 == y3))))=decide (a=b):=by
  rw[Nat.mod_eq_of_lt ha]at nx;rw[Nat.mod_eq_of_lt hb]at ny;rw[<- nx,<- ny,Bool.eq_iff_iff];simp only[Bool.and_eq_true,beq_iff_eq,decide_eq_true_eq];unfold n4;omega
 rw[e]at h;exact h
theorem eqp_in{x y a b:Nat}(n c:Bool)(hx:x<2^256)(hy:y<2^256)(ha:a<2^256)(hb:b<2^256)(w:World):(Op.equalIn 10000 26 (.agg (pc x y n)) (.agg (pc a b c))).run Tryz.prog w=.ok (decide (x=a/\y=b/\n=c)) w:=by
 have p1:∀ w,(part 24 (pc x y n) 0).run Tryz.prog w=.ok (.agg (pw x)) w:=fun w=>by kernel_rfl
 have p2:∀ w,(part 24 (pc x y n) 4).run Tryz.prog w=.ok (.agg (pw y)) w:=fun w=>by kernel_rfl
 have p3:∀ w,(part 4 (pc x y n) 8).run Tryz.prog w=.ok (.bool n) w:=fun w=>by kernel_rfl
 have q1:∀ w,(part 24 (pc a b c) 0).run Tryz.prog w=.ok (.agg (pw a)) w:=fun w=>by kernel_rfl
 have q2:∀ w,(part 24 (pc a b c) 4).run Tryz.prog w=.ok (.agg (pw b)) w:=fun w=>by kernel_rfl
 have q3:∀ w,(part 4 (pc a b c) 8).run Tryz.prog w=.ok (.bool c) w:=fun w=>by kernel_rfl
 have e1:∀ w,(Op.equalIn 9999 24 (.agg (pw x)) (.agg (pw a))).run Tryz.prog w=.ok (decide (x=a)) w:=eqWd 9997 hx ha;have e2:∀ w,(Op.equalIn 9999 24 (.agg (pw y)) (.agg (pw b))).run Tryz.prog w=.ok (decide (y=b)) w:=eqWd 9997 hy hb;have e3:∀ w,(Op.equalIn 9999 4 (.bool n) (.bool c)).run Tryz.prog w=.ok (n == c) w:=fun w=>run_equalIn_bool' w 9998 _ n c Tryz.underlying4;rw[show(10000:Nat)=9999+1 from rfl,run_equalIn_struct w 9999 26 _ _ (by kernel_rfl) (by kernel_rfl)];rw[show Tryz.prog.fieldsOf 26=(match Tryz.prog.underlying 26 with | some (.struct fs)=>fs | _=>#[]) from rfl,Tryz.underlying26];simp only[Op.eqFields,Sem.run_bind,Sem.run_ite,p1,p2,p3,q1,q2,q3,e1,e2,e3,Result.andThen_ok,Sem.run_pure,ne_eq];by_cases h1:x=a <;> by_cases h2:y=b <;> by_cases h3:n=c <;> simp[h1,h2,h3]
theorem eqp_run{x y a b:Nat}(n c:Bool)(hx:x<2^256)(hy:y<2^256)(ha:a<2^256)(hb:b<2^256)(w:World):(binOp BinOp.eql 26 (.agg (pc x y n)) (.agg (pc a b c))).run Tryz.prog w=.ok (.bool (decide (x=a/\y=b/\n=c))) w:=by
 rw[run_eql_struct,eqp_in n c hx hy ha hb];rfl
theorem neqp_run{x y a b:Nat}(n c:Bool)(hx:x<2^256)(hy:y<2^256)(ha:a<2^256)(hb:b<2^256)(w:World):(binOp BinOp.neq 26 (.agg (pc x y n)) (.agg (pc a b c))).run Tryz.prog w=.ok (.bool (!decide (x=a/\y=b/\n=c))) w:=by
 rw[run_neq_struct,eqp_in n c hx hy ha hb];rfl
end Go.Proofs.YtfmpjjhdocejiaaGreat
namespace Go.Proofs.YtfmpjjhdocejiaaGreat.Sy
open Go.RowKit
abbrev Con:=FuncId × (Nat->Rows->List SV->Option (SV × List Ob × Rows))
def conIn(f:FuncId):List Con->Nat->Rows->List SV->Option (SV × List Ob × Rows)
 | [],_,_,_=>none
 | c::l,n,M,us=>if c.1=f then c.2 n M us else conIn f l n M us
structure ConOk (P:Program) (base:Nat) (γ0:Pl) (w0:World) (c:Con):Prop where
 call:∀ as_ wx,(callFunc c.1 as_).run P wx=.ok (.enter c.1 as_) wx
 all:∀ n M l r p R,c.2 n M l=some (r,p,R)->All p->base<=n->(∀ x∈l,x.ok/\x.lt n=true)->(∀ r∈M,r.2.1.ok/\r.2.1.lt n=true)->r.ok/\r.lt (n+R.length)=true/\(∀ q∈R,q.2.1.ok/\q.2.1.lt (n+R.length)=true/\n<=q.1/\q.1<n+R.length) /\
  ∀ γ,(∀ k,k<base->γ k=γ0 k)->∀ wx,Below w0.heap.size w0 wx->Lies γ n M wx->Calls P c.1 (l.map (·.val γ)).toArray wx (Made γ n r R wx)
theorem ConOk.of{P:Program}{base:Nat}{γ0:Pl}{w0:World}{c:Con}(hc:∀ as_ wx,(callFunc c.1 as_).run P wx=.ok (.enter c.1 as_) wx)
  (h:∀ n M l r p R,c.2 n M l=some (r,p,R)->All p->(∀ x∈l,x.ok)->R=[]/\r.ok/\r.lt 0=true/\∀ γ,(∀ k,k<base->γ k=γ0 k)->∀ wx,Below w0.heap.size w0 wx->Lies γ n M wx->Calls P c.1 (l.map (·.val γ)).toArray wx fun e w'=>e=.returned (r.val γ)/\Below wx.heap.size wx w'):ConOk P base γ0 w0 c :=
 ⟨hc,fun n M l r p R h1 h2 hn h3 _=>by
  obtain⟨rfl,q1,q2,q3⟩:=h n M l r p R h1 h2 fun x hx=>(h3 x hx).1;exact⟨q1,SV.lt_mono (Nat.zero_le _) q2,fun q hq=>(by cases hq),fun γ hγ wx hw hL=>(q3 γ hγ wx hw hL).mono fun e w' hh=>⟨⟨γ,fun _ _=>rfl,hh.1,fun q hq=>(by cases hq),.nil⟩,hh.2⟩⟩⟩
theorem conIn_ok{P:Program}{base:Nat}{γ0:Pl}{w0:World}{f:FuncId}{n:Nat}{M:Rows}{us:List SV}{q:SV × List Ob × Rows}:∀ {l:List Con},(∀ c∈l,ConOk P base γ0 w0 c)->conIn f l n M us=some q->∃ c:Con,ConOk P base γ0 w0 c/\c.1=f/\c.2 n M us=some q
 | [],_,h=>by cases h
 | c::l,hl,h=>by
  unfold conIn at h
  split at h
  ·rename_i e;exact⟨c,hl c (.head _),e,h⟩
  ·exact conIn_ok (fun d hd=>hl d (.tail _ hd)) h
def conAll(P:Program)(base:Nat)(γ0:Pl)(w0:World):List Con->Prop
 | []=>True
 | c::l=>ConOk P base γ0 w0 c/\conAll P base γ0 w0 l
theorem conAll_mem{P:Program}{base:Nat}{γ0:Pl}{w0:World}:∀ {l:List Con},conAll P base γ0 w0 l->∀ c∈l,ConOk P base γ0 w0 c
 | [],_,c,h=>by cases h
 | y::l,ha,c,h=>by
  rcases List.mem_cons.1 h with rfl | h
  ·exact ha.1
  ·exact conAll_mem ha.2 c h
theorem ConOk.mono{P:Program}{base b:Nat}{γ0:Pl}{w0:World}{c:Con}(hb:b<=base)(h:ConOk P b γ0 w0 c):ConOk P base γ0 w0 c :=
 ⟨h.call,fun n M l r p R h1 h2 hn h3 h4=>by
  have q:=h.all n M l r p R h1 h2 (Nat.le_trans hb hn) h3 h4;exact⟨q.1,q.2.1,q.2.2.1,fun γ hγ=>q.2.2.2 γ fun k hk=>hγ k (Nat.lt_of_lt_of_le hk hb)⟩⟩
/-! Numbers. -/
def eqN(a b:Nat):Bool:=decide (a=b)
def ltN(a b:Nat):Bool:=decide (a<b)
def eqI(a b:Int):Bool:=decide (a=b)
def ltI(a b:Int):Bool:=decide (a<b)
def eqB(a b:Bool):Bool:=a == b
def eqP(p q:Nat × Nat × Bool):Bool:=decide (p.1=q.1/\p.2.1=q.2.1/\p.2.2=q.2.2)
def cloS:SV->Option (IntKind × Int)
 | .v (.int k n)=>some (k,n)
 | _=>none
def intS:SV->Option (IntKind × Int)
 | .i k n=>some (k,n)
 | .na x=>some (.i64,(x:Nat))
 | .v (.int k n)=>some (k,n)
 | _=>none
def bitS:SV->Option Bool
 | .b t=>some t
 | .v (.bool t)=>some t
 | _=>none
def ptS:SV->Option (Nat × Nat × Bool)
 | .ap (.w x) (.ap (.w y) (.ap n .e))=>(bitS n).map fun n=>(x,y,n)
 | _=>none
def cloO(op:BinOp)(k:IntKind)(a b:Int):Option SV:=match op with
 | .eql=>some (.v (.bool (decide (a=b))))
 | .neq=>some (.v (.bool (!decide (a=b))))
 | .lss=>some (.v (.bool (decide (a<b))))
 | .leq=>some (.v (.bool (decide (a<=b))))
 | .gtr=>some (.v (.bool (decide (a > b))))
 | .geq=>some (.v (.bool (decide (a ≥ b))))
 | .add=>some (.v (.int k (k.wrap (a+b))))
 | .sub=>some (.v (.int k (k.wrap (a - b))))
 | .mul=>some (.v (.int k (k.wrap (a*b))))
 | .quo=>if b=0 then none else some (.v (.int k (k.wrap (a.tdiv b))))
 | .rem=>if b=0 then none else some (.v (.int k (a.tmod b)))
 | _=>none
def natO(op:BinOp)(a b:Nat):Option (SV × List Ob):=match op with
 | .eql=>some (.b (eqN a b),[])
 | .neq=>some (.b (!eqN a b),[])
 | .lss=>some (.b (ltN a b),[])
 | .leq=>some (.b (!ltN b a),[])
 | .gtr=>some (.b (ltN b a),[])
 | .geq=>some (.b (!ltN a b),[])
 | .add=>some (.na (a+b),[.ask (a+b<2^62)])
 | .sub=>some (.na (a - b),[.ask (b<=a)])
 | _=>none
def intO(op:BinOp)(k:IntKind)(a b:Int):Option (SV × List Ob):=match op with
 | .eql=>some (.b (eqI a b),[])
 | .neq=>some (.b (!eqI a b),[])
 | .lss=>some (.b (ltI a b),[])
 | .leq=>some (.b (!ltI b a),[])
 | .gtr=>some (.b (ltI b a),[])
 | .geq=>some (.b (!ltI a b),[])
 | .add=>some (.i k (a+b),[.ask (k.wrap (a+b)=a+b)])
 | .sub=>some (.i k (a - b),[.ask (k.wrap (a - b)=a - b)])
 | .rem=>some (.i k (a.tmod b),[.ask (b≠0)])
 | _=>none
def eqG(T:TypeId)(x y:SV):Option Bool:=match x,y with
 | .w a,.w b=>if T=24 then some (eqN a b)else none
 | x,y=>match bitS x,bitS y with
  | some a,some b=>if T=4 then some (eqB a b)else none
  | _,_=>match ptS x,ptS y with
   | some p,some q=>if T=26 then some (eqP p q)else none
   | _,_=>none
def bopG(op:BinOp)(T:TypeId)(x y:SV):Option (SV × List Ob):=match cloS x,cloS y with
 | some p,some q=>if p.1=q.1 then (cloO op p.1 p.2 q.2).map (·,[])else none
 | _,_=>match natS x,natS y with
  | some a,some b=>natO op a b
  | _,_=>match intS x,intS y with
   | some p,some q=>if p.1=q.1 then intO op p.1 p.2 q.2 else none
   | _,_=>match op with
    | .eql=>(eqG T x y).map fun t=>(.b t,[])
    | .neq=>(eqG T x y).map fun t=>(.b (!t),[])
    | _=>none
section
variable {P:Program} {γ:Pl} {x y r:SV}
theorem intS_ok{k:IntKind}{n:Int}(h:intS x=some (k,n)):x.val γ=.int k n:=by
 unfold intS at h
 split at h <;> cases h <;> rfl
theorem cloS_ok{k:IntKind}{n:Int}(h:cloS x=some (k,n)):x.val γ=.int k n:=by
 unfold cloS at h
 split at h <;> cases h
 rfl
theorem bitS_ok{t:Bool}(h:bitS x=some t):x.val γ=.bool t:=by
 unfold bitS at h
 split at h <;> cases h <;> rfl
theorem ptS_ok{p:Nat × Nat × Bool}(h:ptS x=some p):x.val γ=.agg (pc p.1 p.2.1 p.2.2)/\(x.ok->p.1<2^256/\p.2.1<2^256):=by
 unfold ptS at h
 split at h
 ·rename_i a b n
  obtain⟨t,ht,rfl⟩:=Option.map_eq_some_iff.1 h;refine⟨?_,fun ho=>⟨ho.1,ho.2.1⟩⟩;have hn:n.cells γ=[.bool t]:=by
   unfold bitS at ht
   split at ht <;> cases ht <;> rfl
  show Value.agg ((pw a).toList++((pw b).toList++(n.cells γ++[]))).toArray=_;rw[hn];simp[pc]
 ·cases h
theorem int_guard(op:BinOp)(T:TypeId)(ox oy:Operand)(k k':IntKind)(a b:Int)(w:World):(eqGuard op T ox oy (.int k a) (.int k' b)).run P w=.ok () w:=by
 unfold eqGuard;cases op <;> rfl
theorem bool_guard(op:BinOp)(T:TypeId)(ox oy:Operand)(a b:Bool)(w:World):(eqGuard op T ox oy (.bool a) (.bool b)).run P w=.ok () w:=by
 unfold eqGuard;cases op <;> rfl
theorem int_eql(T:TypeId)(k:IntKind)(a b:Int)(w:World):(binOp .eql T (.int k a) (.int k b)).run P w=.ok (.bool (decide (a=b))) w:=by
 cases k <;> rfl
theorem int_neq(T:TypeId)(k:IntKind)(a b:Int)(w:World):(binOp .neq T (.int k a) (.int k b)).run P w=.ok (.bool (!decide (a=b))) w:=by
 cases k <;> rfl
theorem int_lss(T:TypeId)(k:IntKind)(a b:Int)(w:World):(binOp .lss T (.int k a) (.int k b)).run P w=.ok (.bool (decide (a<b))) w:=by
 cases k <;> rfl
theorem int_leq(T:TypeId)(k:IntKind)(a b:Int)(w:World):(binOp .leq T (.int k a) (.int k b)).run P w=.ok (.bool (decide (a<=b))) w:=by
 cases k <;> rfl
theorem int_gtr(T:TypeId)(k:IntKind)(a b:Int)(w:World):(binOp .gtr T (.int k a) (.int k b)).run P w=.ok (.bool (decide (a > b))) w:=by
 cases k <;> rfl
theorem int_geq(T:TypeId)(k:IntKind)(a b:Int)(w:World):(binOp .geq T (.int k a) (.int k b)).run P w=.ok (.bool (decide (a ≥ b))) w:=by
 cases k <;> rfl
theorem int_add(T:TypeId)(k:IntKind)(a b:Int)(w:World):(binOp .add T (.int k a) (.int k b)).run P w=.ok (.int k (k.wrap (a+b))) w:=by
 cases k <;> rfl
theorem int_sub(T:TypeId)(k:IntKind)(a b:Int)(w:World):(binOp .sub T (.int k a) (.int k b)).run P w=.ok (.int k (k.wrap (a - b))) w:=by
 cases k <;> rfl
theorem int_mul(T:TypeId)(k:IntKind)(a b:Int)(w:World):(binOp .mul T (.int k a) (.int k b)).run P w=.ok (.int k (k.wrap (a*b))) w:=by
 cases k <;> rfl
theorem int_quo(T:TypeId)(k:IntKind)(a b:Int)(hb:b≠0)(w:World):(binOp .quo T (.int k a) (.int k b)).run P w=.ok (.int k (k.wrap (a.tdiv b))) w:=by
 cases k <;> simp[binOp,Op.intDiv,hb]
theorem int_rem(T:TypeId)(k:IntKind)(a b:Int)(hb:b≠0)(w:World):(binOp .rem T (.int k a) (.int k b)).run P w=.ok (.int k (a.tmod b)) w:=by
 cases k <;> simp[binOp,Op.intDiv,hb]
theorem cloO_ok{op:BinOp}{k:IntKind}{a b:Int}(h:cloO op k a b=some r)(T:TypeId)(w:World):r.ok/\r.lt 0=true/\(binOp op T (.int k a) (.int k b)).run P w=.ok (r.val γ) w:=by
 cases op <;> first | (cases h;done) | skip
 ·cases h;exact⟨trivial,rfl,int_add T k a b w⟩
 ·cases h;exact⟨trivial,rfl,int_sub T k a b w⟩
 ·cases h;exact⟨trivial,rfl,int_mul T k a b w⟩
 ·unfold cloO at h
  dsimp only at h
  split at h
  ·cases h
  ·rename_i hb;cases h;exact⟨trivial,rfl,int_quo T k a b hb w⟩
 ·unfold cloO at h
  dsimp only at h
  split at h
  ·cases h
  ·rename_i hb;cases h;exact⟨trivial,rfl,int_rem T k a b hb w⟩
 ·cases h;exact⟨trivial,rfl,int_eql T k a b w⟩
 ·cases h;exact⟨trivial,rfl,int_neq T k a b w⟩
 ·cases h;exact⟨trivial,rfl,int_lss T k a b w⟩
 ·cases h;exact⟨trivial,rfl,int_leq T k a b w⟩
 ·cases h;exact⟨trivial,rfl,int_gtr T k a b w⟩
 ·cases h;exact⟨trivial,rfl,int_geq T k a b w⟩
theorem natO_ok{op:BinOp}{a b:Nat}{p:List Ob}(h:natO op a b=some (r,p))(hp:All p)(ha:a<2^62)(T:TypeId)(w:World):r.ok/\r.lt 0=true/\(binOp op T (.int .i64 (a:Nat)) (.int .i64 (b:Nat))).run P w=.ok (r.val γ) w:=by
 have h62:(2:Nat)^62=4611686018427387904:=by decide
 have e1:∀ a b:Nat,decide (((a:Nat):Int)=((b:Nat):Int))=eqN a b:=fun a b=>decide_eq_decide.2 (by omega);have e2:∀ a b:Nat,decide (((a:Nat):Int)<((b:Nat):Int))=ltN a b:=fun a b=>decide_eq_decide.2 (by omega);have e3:∀ a b:Nat,decide (((a:Nat):Int)<=((b:Nat):Int))=!ltN b a:=fun a b=>by
  unfold ltN;rw[<- decide_not];exact decide_eq_decide.2 (by omega)
 cases op <;> first | (cases h;done) | skip
 ·cases h
  have hlt:a+b<2^62:=hp _ (.head _);refine⟨hlt,rfl,(int_add T .i64 a b w).trans ?_⟩;rw[wrap_in (by omega) (by omega)];rfl
 ·cases h
  have hlt:b<=a:=hp _ (.head _);refine⟨by show a - b<2^62;omega,rfl,(int_sub T .i64 a b w).trans ?_⟩;rw[wrap_in (by omega) (by omega),show((a:Nat):Int) - ((b:Nat):Int)=((a - b:Nat):Int) by omega];rfl
 ·cases h;exact⟨trivial,rfl,(int_eql T .i64 a b w).trans (by rw[e1];rfl)⟩
 ·cases h;exact⟨trivial,rfl,(int_neq T .i64 a b w).trans (by rw[e1];rfl)⟩
 ·cases h;exact⟨trivial,rfl,(int_lss T .i64 a b w).trans (by rw[e2];rfl)⟩
 ·cases h;exact⟨trivial,rfl,(int_leq T .i64 a b w).trans (by rw[e3];rfl)⟩
 ·cases h;exact⟨trivial,rfl,(int_gtr T .i64 a b w).trans (by rw[show decide (((a:Nat):Int) > ((b:Nat):Int))=ltN b a from e2 b a];rfl)⟩
 ·cases h;exact⟨trivial,rfl,(int_geq T .i64 a b w).trans (by rw[show decide (((a:Nat):Int) ≥ ((b:Nat):Int))=!ltN a b from e3 b a];rfl)⟩
theorem intO_ok{op:BinOp}{k:IntKind}{a b:Int}{p:List Ob}(h:intO op k a b=some (r,p))(hp:All p)(T:TypeId)(w:World):r.ok/\r.lt 0=true/\(binOp op T (.int k a) (.int k b)).run P w=.ok (r.val γ) w:=by
 have e3:∀ a b:Int,decide (a<=b)=!ltI b a:=fun a b=>by
  unfold ltI;rw[<- decide_not];exact decide_eq_decide.2 (by omega)
 cases op <;> first | (cases h;done) | skip
 ·cases h
  have hw:k.wrap (a+b)=a+b:=hp _ (.head _);exact⟨trivial,rfl,(int_add T k a b w).trans (by rw[hw];rfl)⟩
 ·cases h
  have hw:k.wrap (a - b)=a - b:=hp _ (.head _);exact⟨trivial,rfl,(int_sub T k a b w).trans (by rw[hw];rfl)⟩
 ·cases h
  exact⟨trivial,rfl,int_rem T k a b (hp _ (.head _)) w⟩
 ·cases h;exact⟨trivial,rfl,int_eql T k a b w⟩
 ·cases h;exact⟨trivial,rfl,int_neq T k a b w⟩
 ·cases h;exact⟨trivial,rfl,int_lss T k a b w⟩
 ·cases h;exact⟨trivial,rfl,(int_leq T k a b w).trans (by rw[e3];rfl)⟩
 ·cases h;exact⟨trivial,rfl,int_gtr T k a b w⟩
 ·cases h;exact⟨trivial,rfl,(int_geq T k a b w).trans (by rw[show decide (a ≥ b)=!ltI a b from e3 b a];rfl)⟩
end
theorem eqG_ok{T:TypeId}{x y:SV}{t:Bool}{γ:Pl}(h:eqG T x y=some t)(hx:x.ok)(hy:y.ok)(ox oy:Operand)(w:World):(∀ op,(eqGuard op T ox oy (x.val γ) (y.val γ)).run Tryz.prog w=.ok () w)/\(binOp .eql T (x.val γ) (y.val γ)).run Tryz.prog w=.ok (.bool t) w/\(binOp .neq T (x.val γ) (y.val γ)).run Tryz.prog w=.ok (.bool (!t)) w:=by
 unfold eqG at h
 split at h
 ·rename_i a b
  split at h
  ·rename_i e
   cases h;subst e;exact⟨fun op=>by cases op <;> kernel_rfl,eqw_run a b hx hy w,new_run a b hx hy w⟩
  ·cases h
 ·split at h
  ·rename_i a b ha hb
   split at h
   ·rename_i e
    cases h;subst e;rw[bitS_ok ha,bitS_ok hb];refine⟨fun op=>bool_guard op _ ox oy a b w,?_,?_⟩
    ·cases a <;> cases b <;> kernel_rfl
    ·cases a <;> cases b <;> kernel_rfl
   ·cases h
  ·split at h
   ·rename_i p q hp hq
    split at h
    ·rename_i e
     cases h;subst e;have h1:=ptS_ok (γ:=γ) hp;have h2:=ptS_ok (γ:=γ) hq;rw[h1.1,h2.1];exact⟨fun op=>by cases op <;> kernel_rfl,eqp_run p.2.2 q.2.2 (h1.2 hx).1 (h1.2 hx).2 (h2.2 hy).1 (h2.2 hy).2 w,neqp_run p.2.2 q.2.2 (h1.2 hx).1 (h1.2 hx).2 (h2.2 hy).1 (h2.2 hy).2 w⟩
    ·cases h
   ·cases h
theorem bopG_ok{op:BinOp}{T:TypeId}{x y r:SV}{p:List Ob}(h:bopG op T x y=some (r,p))(hp:All p)(hx:x.ok)(hy:y.ok):r.ok/\r.lt 0=true/\∀ γ (ox oy:Operand) wx,(eqGuard op T ox oy (x.val γ) (y.val γ)).run Tryz.prog wx=.ok () wx/\(binOp op T (x.val γ) (y.val γ)).run Tryz.prog wx=.ok (r.val γ) wx:=by
 have w:World:=default;unfold bopG at h
 split at h
 ·rename_i u v hu hv
  obtain⟨k,a⟩:=u;obtain⟨k',b⟩:=v
  split at h
  ·rename_i hk
   dsimp only at hk;subst hk;obtain⟨r',hr,e⟩:=Option.map_eq_some_iff.1 h;cases e;refine⟨(cloO_ok (P:=Tryz.prog) (γ:=fun _=>0) hr T w).1,(cloO_ok (P:=Tryz.prog) (γ:=fun _=>0) hr T w).2.1,fun γ ox oy wx=>?_⟩;rw[cloS_ok hu,cloS_ok hv];exact⟨int_guard op T ox oy _ _ _ _ wx,(cloO_ok hr T wx).2.2⟩
  ·cases h
 ·split at h
  ·rename_i a b ha hb
   have h1:=natS_ok (γ:=fun _=>0) ha hx;refine⟨(natO_ok (P:=Tryz.prog) (γ:=fun _=>0) h hp h1.2 T w).1,(natO_ok (P:=Tryz.prog) (γ:=fun _=>0) h hp h1.2 T w).2.1,fun γ ox oy wx=>?_⟩;rw[(natS_ok ha hx).1,(natS_ok hb hy).1];exact⟨int_guard op T ox oy _ _ _ _ wx,(natO_ok h hp h1.2 T wx).2.2⟩
  ·split at h
   ·rename_i u v hu hv
    obtain⟨k,a⟩:=u;obtain⟨k',b⟩:=v
    split at h
    ·rename_i hk
     dsimp only at hk;subst hk;refine⟨(intO_ok (P:=Tryz.prog) (γ:=fun _=>0) h hp T w).1,(intO_ok (P:=Tryz.prog) (γ:=fun _=>0) h hp T w).2.1,fun γ ox oy wx=>?_⟩;rw[intS_ok hu,intS_ok hv];exact⟨int_guard op T ox oy _ _ _ _ wx,(intO_ok h hp T wx).2.2⟩
    ·cases h
   ·split at h
    ·obtain⟨t,ht,e⟩:=Option.map_eq_some_iff.1 h
     cases e;refine⟨trivial,rfl,fun γ ox oy wx=>?_⟩;have q:=eqG_ok (γ:=γ) ht hx hy ox oy wx;exact⟨q.1 _,q.2.1⟩
    ·obtain⟨t,ht,e⟩:=Option.map_eq_some_iff.1 h
     cases e;refine⟨trivial,rfl,fun γ ox oy wx=>?_⟩;have q:=eqG_ok (γ:=γ) ht hx hy ox oy wx;exact⟨q.1 _,q.2.2⟩
    ·cases h
end Go.Proofs.YtfmpjjhdocejiaaGreat.Sy
namespace Go.Proofs.YtfmpjjhdocejiaaGreat
open Go.RowKit
def jt(T:Nat × Nat × Nat):Array Value:=jc T.1 T.2.1 T.2.2
def gtw(m:Nat)(T:Nat × Nat × Nat):Nat × Nat × Nat :=
 if T.2.2=0 then T else
 let rise:=(T.2.1+T.2.1)%m
 let half:=T.2.1*rise%m
 let square:=(half+half)%m
 let middle:=T.1*square%m
 let xx:=T.1*T.1%m
 let slope:=((xx+xx)%m+xx)%m
 let x:=(slope*slope%m%m+(m - (middle+middle)%m%m))%m
 (x,(slope*((middle%m+(m - x%m))%m)%m%m+(m - half*square%m%m))%m,rise*T.2.2%m)
theorem gtw_lt{m X Y Z a b c:Nat}(hm0:0<m)(hmR:m<2^256)(hX:X<2^256)(hY:Y<2^256)(hZ:Z<2^256)(h:gtw m (X,Y,Z)=(a,b,c)):a<2^256/\b<2^256/\c<2^256:=by
 have hm:∀ n,n%m<2^256:=fun n=>Nat.lt_trans (Nat.mod_lt _ hm0) hmR;unfold gtw at h
 split at h
 ·cases h;exact⟨hX,hY,hZ⟩
 ·dsimp only at h
  cases h;exact⟨hm _,hm _,hm _⟩
def gpl(m:Nat)(T:Nat × Nat × Nat)(x y:Nat)(n:Bool):Nat × Nat × Nat :=
 if n=true then T else
 if T.2.2=0 then (x,y,1)else
 let zz:=T.2.2*T.2.2%m
 let across:=(x*zz%m%m+(m - T.1%m))%m
 let up:=(y*(zz*T.2.2%m)%m%m+(m - T.2.1%m))%m
 if across=0/\up=0 then gtw m T else
 let square:=across*across%m
 let cube:=square*across%m
 let middle:=T.1*square%m
 let x3:=(((up*up%m%m+(m - cube%m))%m)%m+(m - (middle+middle)%m%m))%m
 (x3,(up*((middle%m+(m - x3%m))%m)%m%m+(m - T.2.1*cube%m%m))%m,T.2.2*across%m)
theorem gpl_lt{m X Y Z x y a b c:Nat}{n:Bool}(hm0:0<m)(hmR:m<2^256)(hX:X<2^256)(hY:Y<2^256)(hZ:Z<2^256)(hx:x<2^256)(hy:y<2^256)(h:gpl m (X,Y,Z) x y n=(a,b,c)):a<2^256/\b<2^256/\c<2^256:=by
 have hm:∀ n,n%m<2^256:=fun n=>Nat.lt_trans (Nat.mod_lt _ hm0) hmR;unfold gpl at h
 split at h
 ·cases h;exact⟨hX,hY,hZ⟩
 ·split at h
  ·cases h;exact⟨hx,hy,by omega⟩
  ·dsimp only at h
   split at h
   ·exact gtw_lt hm0 hmR hX hY hZ h
   ·cases h
    exact⟨hm _,hm _,hm _⟩
def gpo(m:Nat)(T:Nat × Nat × Nat):Array Value :=
 let i:=T.2.2^(m - 2)%m
 if T.2.2*i%m=1 then
  let square:=i*i%m
  pc (T.1*square%m) (T.2.1*(square*i%m)%m) false
 else pc 0 0 true
def gtu(m x y:Nat)(n:Bool):Array Value:=if n=true then pc 0 0 true else pc x ((0%m+(m - y%m))%m) false
def pls:List (Nat × Nat × Bool)->Array Value
 | []=>#[]
 | p::l=>pc p.1 p.2.1 p.2.2++pls l
theorem pls_at:∀(l:List (Nat × Nat × Bool)) (i:Nat) (x y:Nat) (n:Bool),l[i]?=some (x,y,n)->∀ j,j<(pc x y n).size->(pls l)[0+i*9+j]?=(pc x y n)[j]?
 | [],i,x,y,n,h,j,hj=>by simp at h
 | p::l,0,x,y,n,h,j,hj=>by
  simp only[List.getElem?_cons_zero,Option.some.injEq]at h;subst h;rw[show 0+0*9+j=j by omega];show(pc x y n++pls l)[j]?=_;rw[Array.getElem?_append_left hj]
 | p::l,i+1,x,y,n,h,j,hj=>by
  have:=pls_at l i x y n (by simpa using h) j hj;show(pc p.1 p.2.1 p.2.2++pls l)[0+(i+1)*9+j]?=_;rw[Array.getElem?_append_right (by rw[pc_size];omega),pc_size,show 0+(i+1)*9+j - 9=0+i*9+j by omega];exact this
def onB(m:Nat)(p:Nat × Nat × Bool):Bool:=p.2.2||decide (p.1<m/\p.2.1<m/\p.2.1*p.2.1%m=(p.1*p.1%m*p.1%m+7)%m)
theorem gpo_pc{m:Nat}(hm0:0<m)(hmR:m<2^256)(T:Nat × Nat × Nat):∃ x y n,x<2^256/\y<2^256/\gpo m T=pc x y n:=by
 have hm:∀ n,n%m<2^256:=fun n=>Nat.lt_trans (Nat.mod_lt _ hm0) hmR;unfold gpo;dsimp only
 split
 ·exact⟨_,_,_,hm _,hm _,rfl⟩
 ·exact⟨0,0,true,by omega,by omega,rfl⟩
theorem gtu_pc{m:Nat}(hm0:0<m)(hmR:m<2^256){x:Nat}(hx:x<2^256)(y:Nat)(n:Bool):∃ a b c,a<2^256/\b<2^256/\gtu m x y n=pc a b c:=by
 have hm:∀ n,n%m<2^256:=fun n=>Nat.lt_trans (Nat.mod_lt _ hm0) hmR;unfold gtu
 split
 ·exact⟨0,0,true,by omega,by omega,rfl⟩
 ·exact⟨_,_,_,hx,hm _,rfl⟩
def gsm(m:Nat)(l:List (Nat × Nat × Bool)):Nat × Nat × Nat:=l.foldl (fun T p=>gpl m T p.1 p.2.1 p.2.2) (0,0,0)
open Go.RowKit
structure AQ (p q H:Nat) (s:Nat->Value) (wx:World):Prop where
 ap:∀ D,s p=.pointer (some ⟨D,0,none⟩)->H<=D/\D<wx.heap.size
 aq:∀ D,s q=.pointer (some ⟨D,0,none⟩)->H<=D/\D<wx.heap.size
 ne:∀ D E,s p=.pointer (some ⟨D,0,none⟩)->s q=.pointer (some ⟨E,0,none⟩)->D≠E
theorem AQ.start{p q H:Nat}{s:Nat->Value}{wx:World}(h7:s p=undef)(h8:s q=undef):AQ p q H s wx :=
 ⟨fun D hD=>(by rw[h7]at hD;unfold undef at hD;cases hD),fun D hD=>(by rw[h8]at hD;unfold undef at hD;cases hD),fun D E hD=>(by rw[h7]at hD;unfold undef at hD;cases hD)⟩
theorem AQ.put{p q H:Nat}{s s':Nat->Value}{wx w':World}(h:AQ p q H s wx)(e7:s' p=s p)(e8:s' q=s q)(hl:wx.heap.size<=w'.heap.size):AQ p q H s' w' :=
 ⟨fun D hD=>⟨(h.ap D (e7 ▸ hD)).1,Nat.lt_of_lt_of_le (h.ap D (e7 ▸ hD)).2 hl⟩,fun D hD=>⟨(h.aq D (e8 ▸ hD)).1,Nat.lt_of_lt_of_le (h.aq D (e8 ▸ hD)).2 hl⟩,fun D E h1 h2=>h.ne D E (e7 ▸ h1) (e8 ▸ h2)⟩
theorem AQ.newp{p q H:Nat}{s s':Nat->Value}{wx w':World}(h:AQ p q H s wx)(e7:s' p=.pointer (some ⟨wx.heap.size,0,none⟩))(e8:s' q=s q)(hH:H<=wx.heap.size)(hl:wx.heap.size<w'.heap.size):AQ p q H s' w' :=
 ⟨fun D hD=>by rw[e7]at hD;cases hD;exact⟨hH,hl⟩,fun D hD=>⟨(h.aq D (e8 ▸ hD)).1,Nat.lt_trans (h.aq D (e8 ▸ hD)).2 hl⟩,fun D E h1 h2=>by rw[e7]at h1;cases h1;have:=(h.aq E (e8 ▸ h2)).2;omega⟩
theorem AQ.newq{p q H:Nat}{s s':Nat->Value}{wx w':World}(h:AQ p q H s wx)(e8:s' q=.pointer (some ⟨wx.heap.size,0,none⟩))(e7:s' p=s p)(hH:H<=wx.heap.size)(hl:wx.heap.size<w'.heap.size):AQ p q H s' w' :=
 ⟨fun D hD=>⟨(h.ap D (e7 ▸ hD)).1,Nat.lt_trans (h.ap D (e7 ▸ hD)).2 hl⟩,fun D hD=>by rw[e8]at hD;cases hD;exact⟨hH,hl⟩,fun D E h1 h2=>by rw[e8]at h2;cases h2;have:=(h.ap D (e7 ▸ h1)).2;omega⟩
def RM2(p q:Nat)(ca cb:Array Value)(s:Nat->Value)(wa wb:World):Prop:=(wa.heap.size<=wb.heap.size/\∀(k:Nat),k<wa.heap.size->wb.heap[k]?=wa.heap[k]?)\/∃(D:Nat) (cs:Array Value),(s p=.pointer (some ⟨D,0,none⟩)/\cs=ca\/s q=.pointer (some ⟨D,0,none⟩)/\cs=cb)/\wb=wa.setRow D cs
theorem RM2.of{p q:Nat}{ca cb:Array Value}{s:Nat->Value}{wa wb:World}(h:Below wa.heap.size wa wb):RM2 p q ca cb s wa wb:=.inl ⟨h.size,fun k hk=>h.block k hk⟩
theorem RM2.same{p q:Nat}{ca cb:Array Value}{s:Nat->Value}(wa:World):RM2 p q ca cb s wa wa:=.inl ⟨Nat.le_refl _,fun _ _=>rfl⟩
theorem RM2.shape{p q D n:Nat}{T:TypeId}{ca cb:Array Value}{s:Nat->Value}{wa wb:World}(hR:RM2 p q ca cb s wa wb)(ha:ca.size=n)(hb:cb.size=n)(h:∃ cs:Array Value,wa.heap[D]?=some (.cells cs T (0,0))/\cs.size=n):∃ cs:Array Value,wb.heap[D]?=some (.cells cs T (0,0))/\cs.size=n:=by
 obtain⟨cs,e,hs⟩:=h;rcases hR with⟨-,h⟩ | ⟨E,c1,h1,rfl⟩
 ·exact⟨cs,(h D (Array.getElem?_eq_some_iff.1 e).1).trans e,hs⟩
 ·by_cases q:D=E
  ·subst q
   exact⟨c1,setRow_heap _ _ _ _ _ _ e,by rcases h1 with⟨-,rfl⟩ | ⟨-,rfl⟩ <;> assumption⟩
  ·exact⟨cs,(setRow_other _ _ _ _ q).trans e,hs⟩
theorem RM2.keepp{p q D H:Nat}{T:TypeId}{ca cb:Array Value}{s:Nat->Value}{wa wb:World}(hA:AQ p q H s wa)(hR:RM2 p q ca cb s wa wb)(hs:s p=.pointer (some ⟨D,0,none⟩))(e:wa.heap[D]?=some (.cells ca T (0,0))):wb.heap[D]?=some (.cells ca T (0,0)):=by
 rcases hR with⟨-,h⟩ | ⟨E,c1,h1,rfl⟩
 ·exact(h D (Array.getElem?_eq_some_iff.1 e).1).trans e
 ·rcases h1 with⟨h1,rfl⟩ | ⟨h1,rfl⟩
  ·rw[hs]at h1;cases h1;exact setRow_heap _ _ _ _ _ _ e
  ·exact(setRow_other _ _ _ _ (hA.ne D E hs h1)).trans e
theorem RM2.keepq{p q D H:Nat}{T:TypeId}{ca cb:Array Value}{s:Nat->Value}{wa wb:World}(hA:AQ p q H s wa)(hR:RM2 p q ca cb s wa wb)(hs:s q=.pointer (some ⟨D,0,none⟩))(e:wa.heap[D]?=some (.cells cb T (0,0))):wb.heap[D]?=some (.cells cb T (0,0)):=by
 rcases hR with⟨-,h⟩ | ⟨E,c1,h1,rfl⟩
 ·exact(h D (Array.getElem?_eq_some_iff.1 e).1).trans e
 ·rcases h1 with⟨h1,rfl⟩ | ⟨h1,rfl⟩
  ·exact(setRow_other _ _ _ _ (Ne.symm (hA.ne E D h1 hs))).trans e
  ·rw[hs]at h1;cases h1;exact setRow_heap _ _ _ _ _ _ e
open Go.RowKit
def tabF(q:Nat->Nat)(i:Nat):Int:=((pN (q (i / 4)) (i%4):Nat):Int)
theorem info64:(Tryz.prog.info? 115).map (·.size)=some 64:=by kernel_rfl
theorem tab_at{w:World}{V:Nat}{q:Nat->Nat}(h:w.heap[V]?=some (.cells (ar .u64 64 (tabF q)) 115 (0,0)))(k j:Nat)(hk:k<16)(hj:j<4):w.cell? ⟨V,k*4+j,none⟩=some (.int .u64 ((pN (q k) j:Nat):Int)):=by
 refine(cell_of_row _ _ (k*4+j) _ _ _ h).trans ((ar_at _ _ _ _ (by omega)).trans ?_);unfold tabF;rw[show(k*4+j) / 4=k by omega,show(k*4+j)%4=j by omega]
theorem ld_tab{w:World}{V:Nat}{q:Nat->Nat}(h:w.heap[V]?=some (.cells (ar .u64 64 (tabF q)) 115 (0,0)))(k:Nat)(hk:k<16):(Instr.loadAt 24 (.pointer (some ⟨V,k*4,none⟩))).run Tryz.prog w=.ok (.agg (pw (q k))) w:=by
 rw[pw_ar];simp only[Instr.loadAt,Instr.sureAddr,Sem.run_bind,Sem.run_pure,Result.andThen_ok,run_loadVar_part w V (k*4) 4 24 .u64 (fun j=>((pN (q k) j:Nat):Int)) _ (fun j hj=>tab_at h k j hk hj) Tryz.underlying24 rfl infoW4]
theorem ix_tab(V k:Nat)(hk:k<16)(w:World):(Instr.indexAt 115 (.pointer (some ⟨V,0,none⟩)) (.int .i64 (k:Nat))).run Tryz.prog w=.ok (.pointer (some ⟨V,k*4,none⟩)) w:=by
 have h0:(0:Int)<=k:=by omega
 have h1:(k:Int)<16:=by omega
 go_simp
theorem tab_upd(q:Nat->Nat)(k y:Nat):ar .u64 64 (updI (updI (updI (updI (tabF q) (k*4) ((pN y 0:Nat):Int)) (k*4+1) ((pN y 1:Nat):Int)) (k*4+2) ((pN y 2:Nat):Int)) (k*4+3) ((pN y 3:Nat):Int))=ar .u64 64 (tabF (updN q k y)):=ar_congr fun i hi=>by
 unfold updI tabF updN;by_cases h3:i=k*4+3
 ·rw[if_pos h3,if_pos (by omega),show i%4=3 by omega]
 ·rw[if_neg h3]
  by_cases h2:i=k*4+2
  ·rw[if_pos h2,if_pos (by omega),show i%4=2 by omega]
  ·rw[if_neg h2]
   by_cases h1:i=k*4+1
   ·rw[if_pos h1,if_pos (by omega),show i%4=1 by omega]
   ·rw[if_neg h1]
    by_cases h0:i=k*4
    ·rw[if_pos h0,if_pos (by omega),show i%4=0 by omega]
    ·rw[if_neg h0,if_neg (by omega)]
theorem pw_list(y:Nat):(pw y).toList=[.int .u64 ((pN y 0:Nat):Int),.int .u64 ((pN y 1:Nat):Int),.int .u64 ((pN y 2:Nat):Int),.int .u64 ((pN y 3:Nat):Int)]:=by rw[pw4]
theorem tab_row{w:World}{V:Nat}{q:Nat->Nat}(h:w.heap[V]?=some (.cells (ar .u64 64 (tabF q)) 115 (0,0)))(k y:Nat)(hk:k<16):(w.setCells V (k*4) (pw y).toList).heap[V]?=some (.cells (ar .u64 64 (tabF (updN q k y))) 115 (0,0)):=by
 rw[pw_list];simp only[World.setCells];refine(heap_setCell_same _ _ _ _ _ _ (heap_setCell_same _ _ _ _ _ _ (heap_setCell_same _ _ _ _ _ _ (heap_setCell_same _ _ _ _ _ _ h)))).trans ?_;rw[ar_set _ _ _ _ _ (by omega),ar_set _ _ _ _ _ (by omega),ar_set _ _ _ _ _ (by omega),ar_set _ _ _ _ _ (by omega),tab_upd]
theorem tab_other{w:World}{V:Nat}(o y k:Nat)(hk:k≠V):(w.setCells V o (pw y).toList).heap[k]?=w.heap[k]?:=by
 rw[pw_list];simp only[World.setCells];rw[heap_setCell_other _ _ _ _ hk,heap_setCell_other _ _ _ _ hk,heap_setCell_other _ _ _ _ hk,heap_setCell_other _ _ _ _ hk]
theorem tab_below{b:Nat}{w0 w:World}{V:Nat}(o y:Nat)(hb:Below b w0 w)(hV:b<=V):Below b w0 (w.setCells V o (pw y).toList):=by
 rw[pw_list];simp only[World.setCells];exact(((hb.setCell (by exact hV) _).setCell (by exact hV) _).setCell (by exact hV) _).setCell (by exact hV) _
theorem tab_there{w:World}{V:Nat}{q:Nat->Nat}(h:w.heap[V]?=some (.cells (ar .u64 64 (tabF q)) 115 (0,0)))(k:Nat)(hk:k<16)(y:Nat):w.there V (k*4) (pw y).size:=by
 intro j hj;rw[pw_size]at hj;exact⟨by rw[tab_at h k j hk hj];rfl,frozen_of_row _ _ _ _ _ h⟩
open Go.RowKit
def pwq(m a j:Nat):Nat:=a^j*2^256%m
theorem pwq_next{m:Nat}(ho:m%2=1)(h1:1<m)(a j:Nat):mnt m (pwq m a j) (a*2^256%m)=pwq m a (j+1):=by
 unfold pwq;rw[mnt_both ho h1,show a^(j+1)=a^j*a from rfl]
def tabQ(m a k j:Nat):Nat:=if j<=k then pwq m a j else 0
theorem tabQ_next(m a k:Nat):updN (tabQ m a k) (k+1) (pwq m a (k+1))=tabQ m a (k+1):=by
 funext j
 unfold updN tabQ;by_cases h:j=k+1
 ·rw[if_pos h,if_pos (by omega),h]
 ·rw[if_neg h]
  by_cases h2:j<=k
  ·rw[if_pos h2,if_pos (by omega)]
  ·rw[if_neg h2,if_neg (by omega)]
structure CP (w:World) (F m a:Nat) (wx:World):Prop where
 old:Below w.heap.size w wx
 fld:FldAt wx F m
 hF:F<w.heap.size
 r0:wx.heap[w.heap.size]?=some (.cells (pw a) 24 (0,0))
 r1:wx.heap[w.heap.size+1]?=some (.cells (#[.int .u64 0,.int .u64 0,.int .u64 0,.int .u64 0,.int .u64 0,.int .u64 0,.int .u64 0,.int .u64 0,.int .u64 0,.int .u64 0,.int .u64 0,.int .u64 0,.int .u64 0,.int .u64 0,.int .u64 0,.int .u64 0,.int .u64 0,.int .u64 0,.int .u64 0,.int .u64 0,.int .u64 0,.int .u64 0,.int .u64 0,.int .u64 0,.int .u64 0,.int .u64 0,.int .u64 0,.int .u64 0,.int .u64 0,.int .u64 0,.int .u64 0,.int .u64 0,.int .u64 0,.int .u64 0,.int .u64 0,.int .u64 0,.int .u64 0,.int .u64 0,.int .u64 0,.int .u64 0,.int .u64 0,.int .u64 0,.int .u64 0,.int .u64 0,.int .u64 0,.int .u64 0,.int .u64 0,.int .u64 0,.int .u64 0,.int .u64 0,.int .u64 0,.int .u64 0,.int .u64 0,.int .u64 0,.int .u64 0,.int .u64 0,.int .u64 0,.int .u64 0,.int .u64 0,.int .u64 0,.int .u64 0,.int .u64 0,.int .u64 0,.int .u64 0]) 115 (0,0))
theorem CP.high{w wx:World}{F m a:Nat}(c:CP w F m a wx):w.heap.size+2<=wx.heap.size:=(Array.getElem?_eq_some_iff.1 c.r1).1
theorem CP.below{w wx w':World}{F m a:Nat}(c:CP w F m a wx)(hb:Below wx.heap.size wx w'):CP w F m a w' :=
 ⟨c.old.trans (hb.mono c.old.size),c.fld.below hb,c.hF,(hb.block _ (Array.getElem?_eq_some_iff.1 c.r0).1).trans c.r0,(hb.block _ (Array.getElem?_eq_some_iff.1 c.r1).1).trans c.r1⟩
theorem CP.drew{w wx:World}{F m a:Nat}(c:CP w F m a wx):CP w F m a wx.drew:=c.below (Below.drew (Below.refl _ _))
theorem CP.rowed{w wx:World}{F m a g:Nat}{cs:Array Value}(c:CP w F m a wx)(hg:w.heap.size+2<=g):CP w F m a (wx.setRow g cs):=by
 have h:=c.hF;exact⟨below_setRow c.old (by omega) _,fld_row c.fld (by omega),c.hF,(setRow_other _ _ _ _ (by omega)).trans c.r0,(setRow_other _ _ _ _ (by omega)).trans c.r1⟩
theorem CP.start{w:World}{F m:Nat}(h:FldAt w F m)(a:Nat):CP w F m a ((w.alloc (.cells (pw a) 24)).alloc (.cells (#[.int .u64 0,.int .u64 0,.int .u64 0,.int .u64 0,.int .u64 0,.int .u64 0,.int .u64 0,.int .u64 0,.int .u64 0,.int .u64 0,.int .u64 0,.int .u64 0,.int .u64 0,.int .u64 0,.int .u64 0,.int .u64 0,.int .u64 0,.int .u64 0,.int .u64 0,.int .u64 0,.int .u64 0,.int .u64 0,.int .u64 0,.int .u64 0,.int .u64 0,.int .u64 0,.int .u64 0,.int .u64 0,.int .u64 0,.int .u64 0,.int .u64 0,.int .u64 0,.int .u64 0,.int .u64 0,.int .u64 0,.int .u64 0,.int .u64 0,.int .u64 0,.int .u64 0,.int .u64 0,.int .u64 0,.int .u64 0,.int .u64 0,.int .u64 0,.int .u64 0,.int .u64 0,.int .u64 0,.int .u64 0,.int .u64 0,.int .u64 0,.int .u64 0,.int .u64 0,.int .u64 0,.int .u64 0,.int .u64 0,.int .u64 0,.int .u64 0,.int .u64 0,.int .u64 0,.int .u64 0,.int .u64 0,.int .u64 0,.int .u64 0,.int .u64 0]) 115)):=by
 have hb:Below w.heap.size w (w.alloc (.cells (pw a) 24)):=(Below.refl _ _).alloc (Nat.le_refl _) _;have hb2:Below (w.heap.size+1) (w.alloc (.cells (pw a) 24)) ((w.alloc (.cells (pw a) 24)).alloc (.cells (#[.int .u64 0,.int .u64 0,.int .u64 0,.int .u64 0,.int .u64 0,.int .u64 0,.int .u64 0,.int .u64 0,.int .u64 0,.int .u64 0,.int .u64 0,.int .u64 0,.int .u64 0,.int .u64 0,.int .u64 0,.int .u64 0,.int .u64 0,.int .u64 0,.int .u64 0,.int .u64 0,.int .u64 0,.int .u64 0,.int .u64 0,.int .u64 0,.int .u64 0,.int .u64 0,.int .u64 0,.int .u64 0,.int .u64 0,.int .u64 0,.int .u64 0,.int .u64 0,.int .u64 0,.int .u64 0,.int .u64 0,.int .u64 0,.int .u64 0,.int .u64 0,.int .u64 0,.int .u64 0,.int .u64 0,.int .u64 0,.int .u64 0,.int .u64 0,.int .u64 0,.int .u64 0,.int .u64 0,.int .u64 0,.int .u64 0,.int .u64 0,.int .u64 0,.int .u64 0,.int .u64 0,.int .u64 0,.int .u64 0,.int .u64 0,.int .u64 0,.int .u64 0,.int .u64 0,.int .u64 0,.int .u64 0,.int .u64 0,.int .u64 0,.int .u64 0]) 115)):=(Below.refl _ _).alloc (by simp) _;exact⟨hb.trans (hb2.mono (by omega)),(h.below hb).below (by rw[World.size_alloc];exact hb2),h.less,(hb2.block _ (by omega)).trans (heap_alloc_new _ _),by have:=heap_alloc_new (w.alloc (.cells (pw a) 24)) (.cells (#[.int .u64 0,.int .u64 0,.int .u64 0,.int .u64 0,.int .u64 0,.int .u64 0,.int .u64 0,.int .u64 0,.int .u64 0,.int .u64 0,.int .u64 0,.int .u64 0,.int .u64 0,.int .u64 0,.int .u64 0,.int .u64 0,.int .u64 0,.int .u64 0,.int .u64 0,.int .u64 0,.int .u64 0,.int .u64 0,.int .u64 0,.int .u64 0,.int .u64 0,.int .u64 0,.int .u64 0,.int .u64 0,.int .u64 0,.int .u64 0,.int .u64 0,.int .u64 0,.int .u64 0,.int .u64 0,.int .u64 0,.int .u64 0,.int .u64 0,.int .u64 0,.int .u64 0,.int .u64 0,.int .u64 0,.int .u64 0,.int .u64 0,.int .u64 0,.int .u64 0,.int .u64 0,.int .u64 0,.int .u64 0,.int .u64 0,.int .u64 0,.int .u64 0,.int .u64 0,.int .u64 0,.int .u64 0,.int .u64 0,.int .u64 0,.int .u64 0,.int .u64 0,.int .u64 0,.int .u64 0,.int .u64 0,.int .u64 0,.int .u64 0,.int .u64 0]) 115);rwa [World.size_alloc]at this⟩
structure CK (w:World) (F m a g h e f:Nat) (wx:World):Prop where
 c:CP w F m a wx
 rg:wx.heap[g]?=some (.cells (pw e) 24 (0,0))
 rh:wx.heap[h]?=some (.cells (pw f) 24 (0,0))
theorem CK.below{w wx w':World}{F m a g h e f:Nat}(c:CK w F m a g h e f wx)(hb:Below wx.heap.size wx w'):CK w F m a g h e f w' :=
 ⟨c.c.below hb,(hb.block _ (Array.getElem?_eq_some_iff.1 c.rg).1).trans c.rg,(hb.block _ (Array.getElem?_eq_some_iff.1 c.rh).1).trans c.rh⟩
structure CTb (w:World) (F m a g h e f V:Nat) (q:Nat->Nat) (wx:World):Prop where
 k:CK w F m a g h e f wx
 rV:wx.heap[V]?=some (.cells (ar .u64 64 (tabF q)) 115 (0,0))
 hV:w.heap.size+2<=V/\g<V/\h<V
theorem CTb.below{w wx w':World}{F m a g h e f V:Nat}{q:Nat->Nat}(c:CTb w F m a g h e f V q wx)(hb:Below wx.heap.size wx w'):CTb w F m a g h e f V q w' :=
 ⟨c.k.below hb,(hb.block _ (Array.getElem?_eq_some_iff.1 c.rV).1).trans c.rV,c.hV⟩
theorem CTb.drew{w wx:World}{F m a g h e f V:Nat}{q:Nat->Nat}(c:CTb w F m a g h e f V q wx):CTb w F m a g h e f V q wx.drew:=c.below (Below.drew (Below.refl _ _))
theorem CTb.put{w wx:World}{F m a g h e f V:Nat}{q:Nat->Nat}(c:CTb w F m a g h e f V q wx)(k y:Nat)(hk:k<16):CTb w F m a g h e f V (updN q k y) (wx.setCells V (k*4) (pw y).toList):=by
 have hV:=c.hV;have hF:=c.k.c.hF;exact⟨⟨⟨tab_below _ _ c.k.c.old (by omega),⟨(tab_other _ _ _ (by omega)).trans c.k.c.fld.row,c.k.c.fld.odd,c.k.c.fld.big,c.k.c.fld.lt⟩,hF,(tab_other _ _ _ (by omega)).trans c.k.c.r0,(tab_other _ _ _ (by omega)).trans c.k.c.r1⟩,(tab_other _ _ _ (by omega)).trans c.k.rg,(tab_other _ _ _ (by omega)).trans c.k.rh⟩,tab_row c.rV k y hk,hV⟩
theorem CTb.start{w wx:World}{F m a g h e f:Nat}(c:CK w F m a g h e f wx)(q:Nat->Nat):CTb w F m a g h e f wx.heap.size q ((wx.alloc (.cells (#[.int .u64 0,.int .u64 0,.int .u64 0,.int .u64 0,.int .u64 0,.int .u64 0,.int .u64 0,.int .u64 0,.int .u64 0,.int .u64 0,.int .u64 0,.int .u64 0,.int .u64 0,.int .u64 0,.int .u64 0,.int .u64 0,.int .u64 0,.int .u64 0,.int .u64 0,.int .u64 0,.int .u64 0,.int .u64 0,.int .u64 0,.int .u64 0,.int .u64 0,.int .u64 0,.int .u64 0,.int .u64 0,.int .u64 0,.int .u64 0,.int .u64 0,.int .u64 0,.int .u64 0,.int .u64 0,.int .u64 0,.int .u64 0,.int .u64 0,.int .u64 0,.int .u64 0,.int .u64 0,.int .u64 0,.int .u64 0,.int .u64 0,.int .u64 0,.int .u64 0,.int .u64 0,.int .u64 0,.int .u64 0,.int .u64 0,.int .u64 0,.int .u64 0,.int .u64 0,.int .u64 0,.int .u64 0,.int .u64 0,.int .u64 0,.int .u64 0,.int .u64 0,.int .u64 0,.int .u64 0,.int .u64 0,.int .u64 0,.int .u64 0,.int .u64 0]) 115)).setRow wx.heap.size (ar .u64 64 (tabF q))):=by
 have hb:Below wx.heap.size wx (wx.alloc (.cells (#[.int .u64 0,.int .u64 0,.int .u64 0,.int .u64 0,.int .u64 0,.int .u64 0,.int .u64 0,.int .u64 0,.int .u64 0,.int .u64 0,.int .u64 0,.int .u64 0,.int .u64 0,.int .u64 0,.int .u64 0,.int .u64 0,.int .u64 0,.int .u64 0,.int .u64 0,.int .u64 0,.int .u64 0,.int .u64 0,.int .u64 0,.int .u64 0,.int .u64 0,.int .u64 0,.int .u64 0,.int .u64 0,.int .u64 0,.int .u64 0,.int .u64 0,.int .u64 0,.int .u64 0,.int .u64 0,.int .u64 0,.int .u64 0,.int .u64 0,.int .u64 0,.int .u64 0,.int .u64 0,.int .u64 0,.int .u64 0,.int .u64 0,.int .u64 0,.int .u64 0,.int .u64 0,.int .u64 0,.int .u64 0,.int .u64 0,.int .u64 0,.int .u64 0,.int .u64 0,.int .u64 0,.int .u64 0,.int .u64 0,.int .u64 0,.int .u64 0,.int .u64 0,.int .u64 0,.int .u64 0,.int .u64 0,.int .u64 0,.int .u64 0,.int .u64 0]) 115)):=(Below.refl _ _).alloc (Nat.le_refl _) _;have c':=c.below hb;have lg:=(Array.getElem?_eq_some_iff.1 c.rg).1;have lh:=(Array.getElem?_eq_some_iff.1 c.rh).1;have hi:=c.c.high;exact⟨⟨c'.c.rowed hi,(setRow_other _ _ _ _ (by omega)).trans c'.rg,(setRow_other _ _ _ _ (by omega)).trans c'.rh⟩,setRow_heap _ _ _ _ _ _ (heap_alloc_new _ _),⟨hi,lg,lh⟩⟩
theorem tabQ_0(m a:Nat):(fun j=>if j=0 then 1*2^256%m else 0)=tabQ m a 0:=by
 funext j
 unfold tabQ pwq;by_cases h:j=0
 ·rw[if_pos h,if_pos (by omega),h,Nat.pow_zero]
 ·rw[if_neg h,if_neg (by omega)]
theorem pwq_lt{m:Nat}(h:1<m)(a j:Nat):pwq m a j<m:=Nat.mod_lt _ (by omega)
-- WHAT powers COMES TO.
theorem powers_any(F m ao:Nat)(ha:ao<2^256)(w:World)(hF:FldAt w F m):Calls Tryz.prog 85 #[.pointer (some ⟨F,0,none⟩),.agg (pw ao)] w fun e w'=>e=.returned (.agg (ar .u64 64 (tabF (tabQ m ao 15))))/\Below w.heap.size w w':=by
 have H0:=Lib.hid (CP.start hF ao);have HO:=Lib.hid (And.intro hF.odd (And.intro hF.big hF.lt));have HS1:=Lib.hid (fun wx (c:CP w F m ao wx)=>scaled_any F m 1 (by omega) wx c.fld);have HS2:=Lib.hid (fun wx (c:CP w F m ao wx)=>scaled_any F m ao ha wx c.fld);obtain⟨eo,he⟩:∃ eo,1*2^256%m=eo:=⟨_,rfl⟩
 obtain⟨fo,hf⟩:∃ fo,ao*2^256%m=fo:=⟨_,rfl⟩
 rw[he]at HS1;rw[hf]at HS2;have HE:=Lib.hid (And.intro he hf);clear ha hF he hf;go_enter Tryz.func85,Tryz.ntmps85
 go_wp2_with fail
 refine region_tie2 (fun s wx=>CP w F m ao wx/\AQ 5 6 (w.heap.size+2) s wx) (fun i s wx=>match i with | 0=>s 9=(.pointer (some ⟨F,0,none⟩)) | 1=>s 10=(.agg (pw 1)) | 2=>s 11=(.agg (pw eo)) | 3=>s 12=(.pointer (some ⟨F,0,none⟩)) | 4=>s 13=(.agg (pw ao)) | 5=>s 14=(.agg (pw fo)) | 6=>∃ D,s 5=.pointer (some ⟨D,0,none⟩)/\∃ cs:Array Value,wx.heap[D]?=some (.cells cs 24 (0,0))/\cs.size=4 | 7=>∃ D,s 6=.pointer (some ⟨D,0,none⟩)/\∃ cs:Array Value,wx.heap[D]?=some (.cells cs 24 (0,0))/\cs.size=4 | 8=>∃ D,s 5=.pointer (some ⟨D,0,none⟩)/\wx.heap[D]?=some (.cells (pw eo) 24 (0,0)) | 9=>∃ D,s 6=.pointer (some ⟨D,0,none⟩)/\wx.heap[D]?=some (.cells (pw fo) 24 (0,0)) | _=>True) (RM2 5 6 (pw eo) (pw fo)) (fun i=>match i with | 0=>[9] | 1=>[10] | 2=>[11] | 3=>[12] | 4=>[13] | 5=>[14] | 6=>[5] | 7=>[6] | 8=>[5] | 9=>[6] | _=>[]) (fun i=>i) (by kernel_rfl) (by kernel_rfl) ⟨H0.out.drew,AQ.start (by kernel_rfl) (by kernel_rfl)⟩ ?_ ?_ ?_ ?_
 ·intro i s s' wx he hp
  match i,he,hp with
  | 0,he,hp=>exact(he 9 (by simp)).symm.trans hp
  | 1,he,hp=>exact(he 10 (by simp)).symm.trans hp
  | 2,he,hp=>exact(he 11 (by simp)).symm.trans hp
  | 3,he,hp=>exact(he 12 (by simp)).symm.trans hp
  | 4,he,hp=>exact(he 13 (by simp)).symm.trans hp
  | 5,he,hp=>exact(he 14 (by simp)).symm.trans hp
  | 6,he,hp=>obtain⟨D,h1,h2⟩:=hp;exact⟨D,(he 5 (by simp)).symm.trans h1,h2⟩
  | 7,he,hp=>obtain⟨D,h1,h2⟩:=hp;exact⟨D,(he 6 (by simp)).symm.trans h1,h2⟩
  | 8,he,hp=>obtain⟨D,h1,h2⟩:=hp;exact⟨D,(he 5 (by simp)).symm.trans h1,h2⟩
  | 9,he,hp=>obtain⟨D,h1,h2⟩:=hp;exact⟨D,(he 6 (by simp)).symm.trans h1,h2⟩
  | _+10,_,_=>trivial
 ·intro i s wa wb hC hR hp
  match i,hp with
  | 0,hp=>exact hp
  | 1,hp=>exact hp
  | 2,hp=>exact hp
  | 3,hp=>exact hp
  | 4,hp=>exact hp
  | 5,hp=>exact hp
  | 6,hp=>obtain⟨D,h1,h2⟩:=hp;exact⟨D,h1,hR.shape (pw_size _) (pw_size _) h2⟩
  | 7,hp=>obtain⟨D,h1,h2⟩:=hp;exact⟨D,h1,hR.shape (pw_size _) (pw_size _) h2⟩
  | 8,hp=>obtain⟨D,h1,h2⟩:=hp;exact⟨D,h1,RM2.keepp hC.2 hR h1 h2⟩
  | 9,hp=>obtain⟨D,h1,h2⟩:=hp;exact⟨D,h1,RM2.keepq hC.2 hR h1 h2⟩
  | _+10,_=>trivial
 ·refine⟨?_,?_,?_,?_,?_,?_,?_,?_,?_,?_,trivial⟩
  ·intro a wx hC hsz hK
   have h0:a.tmps.getD 0 undef=(.pointer (some ⟨F,0,none⟩)):=hK.1 0 (by kernel_rfl);exact uu_val ((.pointer (some ⟨F,0,none⟩))) (by kernel_rfl) (by rw[<- h0];kernel_rfl) ⟨hC.1,hC.2.put (slots_other _ 9 5 _ (by omega)) (slots_other _ 9 6 _ (by omega)) (Nat.le_refl _)⟩ (slots_put _ _ _ (by rw[hsz];exact of_decide_eq_true (by kernel_rfl))) (RM2.same _)
  ·intro a wx hC hsz hK
   refine uu_call 70 #[(.int .u64 (1:Nat))] (by kernel_rfl) (by kernel_rfl) ?_;exact(of_wv 1 (by omega) wx).mono fun e w' hh=>⟨_,hh.1,⟨hC.1.below hh.2,hC.2.put (slots_other _ 10 5 _ (by omega)) (slots_other _ 10 6 _ (by omega)) hh.2.size⟩,(slots_put _ _ _ (by rw[hsz];exact of_decide_eq_true (by kernel_rfl))),RM2.of hh.2⟩
  ·intro a wx hC hsz hK
   have h0:a.tmps.getD 9 undef=(.pointer (some ⟨F,0,none⟩)):=hK.2 ⟨0,.data⟩ (by simp) rfl _ rfl;have h1:a.tmps.getD 10 undef=(.agg (pw 1)):=hK.2 ⟨1,.data⟩ (by simp) rfl _ rfl;refine uu_call 88 #[a.tmps.getD 9 undef,a.tmps.getD 10 undef] (by kernel_rfl) (by kernel_rfl) ?_;rw[h0,h1];exact(HS1.out wx hC.1).mono fun e w' hh=>⟨_,hh.1,⟨hC.1.below hh.2,hC.2.put (slots_other _ 11 5 _ (by omega)) (slots_other _ 11 6 _ (by omega)) hh.2.size⟩,(slots_put _ _ _ (by rw[hsz];exact of_decide_eq_true (by kernel_rfl))),RM2.of hh.2⟩
  ·intro a wx hC hsz hK
   have h0:a.tmps.getD 0 undef=(.pointer (some ⟨F,0,none⟩)):=hK.1 0 (by kernel_rfl);exact uu_val ((.pointer (some ⟨F,0,none⟩))) (by kernel_rfl) (by rw[<- h0];kernel_rfl) ⟨hC.1,hC.2.put (slots_other _ 12 5 _ (by omega)) (slots_other _ 12 6 _ (by omega)) (Nat.le_refl _)⟩ (slots_put _ _ _ (by rw[hsz];exact of_decide_eq_true (by kernel_rfl))) (RM2.same _)
  ·intro a wx hC hsz hK
   have h0:a.tmps.getD 3 undef=(.pointer (some ⟨w.heap.size,0,none⟩)):=hK.1 3 (by kernel_rfl);exact uu_load 24 (.tmp 3) ((.pointer (some ⟨w.heap.size,0,none⟩))) ((.agg (pw ao))) rfl (by kernel_rfl) h0 (ld_pw hC.1.r0) ⟨hC.1,hC.2.put (slots_other _ 13 5 _ (by omega)) (slots_other _ 13 6 _ (by omega)) (Nat.le_refl _)⟩ (slots_put _ _ _ (by rw[hsz];exact of_decide_eq_true (by kernel_rfl))) (RM2.same _)
  ·intro a wx hC hsz hK
   have h0:a.tmps.getD 12 undef=(.pointer (some ⟨F,0,none⟩)):=hK.2 ⟨3,.data⟩ (by simp) rfl _ rfl;have h1:a.tmps.getD 13 undef=(.agg (pw ao)):=hK.2 ⟨4,.data⟩ (by simp) rfl _ rfl;refine uu_call 88 #[a.tmps.getD 12 undef,a.tmps.getD 13 undef] (by kernel_rfl) (by kernel_rfl) ?_;rw[h0,h1];exact(HS2.out wx hC.1).mono fun e w' hh=>⟨_,hh.1,⟨hC.1.below hh.2,hC.2.put (slots_other _ 14 5 _ (by omega)) (slots_other _ 14 6 _ (by omega)) hh.2.size⟩,(slots_put _ _ _ (by rw[hsz];exact of_decide_eq_true (by kernel_rfl))),RM2.of hh.2⟩
  ·intro a wx hC hsz hK
   have hb:Below wx.heap.size wx (wx.alloc (.cells #[.int .u64 0,.int .u64 0,.int .u64 0,.int .u64 0] 24)):=(Below.refl _ _).alloc (Nat.le_refl _) _;exact uu_new (.pointer (some ⟨wx.heap.size,0,none⟩)) (by kernel_rfl) (by kernel_rfl) ⟨hC.1.below hb,hC.2.newp (slots_put _ _ _ (by rw[hsz];exact of_decide_eq_true (by kernel_rfl))) (slots_other _ 5 6 _ (by omega)) hC.1.high (by simp)⟩ ⟨_,(slots_put _ _ _ (by rw[hsz];exact of_decide_eq_true (by kernel_rfl))),#[.int .u64 0,.int .u64 0,.int .u64 0,.int .u64 0],heap_alloc_new _ _,rfl⟩ (RM2.of hb)
  ·intro a wx hC hsz hK
   have hb:Below wx.heap.size wx (wx.alloc (.cells #[.int .u64 0,.int .u64 0,.int .u64 0,.int .u64 0] 24)):=(Below.refl _ _).alloc (Nat.le_refl _) _;exact uu_new (.pointer (some ⟨wx.heap.size,0,none⟩)) (by kernel_rfl) (by kernel_rfl) ⟨hC.1.below hb,hC.2.newq (slots_put _ _ _ (by rw[hsz];exact of_decide_eq_true (by kernel_rfl))) (slots_other _ 6 5 _ (by omega)) hC.1.high (by simp)⟩ ⟨_,(slots_put _ _ _ (by rw[hsz];exact of_decide_eq_true (by kernel_rfl))),#[.int .u64 0,.int .u64 0,.int .u64 0,.int .u64 0],heap_alloc_new _ _,rfl⟩ (RM2.of hb)
  ·intro a wx hC hsz hK
   obtain⟨D,h1,cs,h3,h4⟩:=hK.2 ⟨6,.data⟩ (by simp) rfl _ rfl;have h0:a.tmps.getD 11 undef=(.agg (pw eo)):=hK.2 ⟨2,.data⟩ (by simp) rfl _ rfl;exact uu_store (by kernel_rfl) rfl (run_st 24 (.tmp 5) (.tmp 11) _ _ rfl h1 h0 (store_w h4 h3)) ⟨hC.1.rowed (hC.2.ap D h1).1,hC.2.put rfl rfl (by simp)⟩ ⟨D,h1,setRow_heap _ _ _ _ _ _ h3⟩ (.inr ⟨D,pw eo,.inl ⟨h1,rfl⟩,rfl⟩)
  ·intro a wx hC hsz hK
   obtain⟨D,h1,cs,h3,h4⟩:=hK.2 ⟨7,.data⟩ (by simp) rfl _ rfl;have h0:a.tmps.getD 14 undef=(.agg (pw fo)):=hK.2 ⟨5,.data⟩ (by simp) rfl _ rfl;exact uu_store (by kernel_rfl) rfl (run_st 24 (.tmp 6) (.tmp 14) _ _ rfl h1 h0 (store_w h4 h3)) ⟨hC.1.rowed (hC.2.aq D h1).1,hC.2.put rfl rfl (by simp)⟩ ⟨D,h1,setRow_heap _ _ _ _ _ _ h3⟩ (.inr ⟨D,pw fo,.inr ⟨h1,rfl⟩,rfl⟩)
 intro f1 w5 hC hf;obtain⟨D,s5,rp⟩:=hf 8 _ rfl;obtain⟨E,s6,rq⟩:=hf 9 _ rfl;have H6:=Lib.hid (show CK w F m ao D E eo fo w5 from⟨hC.1,rp,rq⟩);clear hf hC rp rq H0 HS1 HS2;generalize hAct:putAll _ _ _=G at *;have s0:G.tmps.getD 0 undef=.pointer (some ⟨F,0,none⟩):=by subst hAct;kernel_rfl
 have s3:G.tmps.getD 3 undef=.pointer (some ⟨w.heap.size,0,none⟩):=by subst hAct;kernel_rfl
 have s4:G.tmps.getD 4 undef=.pointer (some ⟨w.heap.size+1,0,none⟩):=by subst hAct;kernel_rfl
 have s5':G.tmps.getD 5 undef=.pointer (some ⟨D,0,none⟩):=s5;have s6':G.tmps.getD 6 undef=.pointer (some ⟨E,0,none⟩):=s6;have hsz:G.tmps.size=33:=by rw[<- hAct,putAll_size];rfl
 have hdf:G.defers=[]:=by subst hAct;kernel_rfl
 clear hAct s5 s6;obtain⟨u1,t1⟩:∃ u,G.tmps.getD 1 undef=u:=⟨_,rfl⟩
 obtain⟨u2,t2⟩:∃ u,G.tmps.getD 2 undef=u:=⟨_,rfl⟩
 obtain⟨u7,t7⟩:∃ u,G.tmps.getD 7 undef=u:=⟨_,rfl⟩
 obtain⟨u8,t8⟩:∃ u,G.tmps.getD 8 undef=u:=⟨_,rfl⟩
 obtain⟨u9,t9⟩:∃ u,G.tmps.getD 9 undef=u:=⟨_,rfl⟩
 obtain⟨u10,t10⟩:∃ u,G.tmps.getD 10 undef=u:=⟨_,rfl⟩
 obtain⟨u11,t11⟩:∃ u,G.tmps.getD 11 undef=u:=⟨_,rfl⟩
 obtain⟨u12,t12⟩:∃ u,G.tmps.getD 12 undef=u:=⟨_,rfl⟩
 obtain⟨u13,t13⟩:∃ u,G.tmps.getD 13 undef=u:=⟨_,rfl⟩
 obtain⟨u14,t14⟩:∃ u,G.tmps.getD 14 undef=u:=⟨_,rfl⟩
 obtain⟨u15,t15⟩:∃ u,G.tmps.getD 15 undef=u:=⟨_,rfl⟩
 obtain⟨u16,t16⟩:∃ u,G.tmps.getD 16 undef=u:=⟨_,rfl⟩
 obtain⟨u17,t17⟩:∃ u,G.tmps.getD 17 undef=u:=⟨_,rfl⟩
 obtain⟨u18,t18⟩:∃ u,G.tmps.getD 18 undef=u:=⟨_,rfl⟩
 obtain⟨u19,t19⟩:∃ u,G.tmps.getD 19 undef=u:=⟨_,rfl⟩
 obtain⟨u20,t20⟩:∃ u,G.tmps.getD 20 undef=u:=⟨_,rfl⟩
 obtain⟨u21,t21⟩:∃ u,G.tmps.getD 21 undef=u:=⟨_,rfl⟩
 obtain⟨u22,t22⟩:∃ u,G.tmps.getD 22 undef=u:=⟨_,rfl⟩
 obtain⟨u23,t23⟩:∃ u,G.tmps.getD 23 undef=u:=⟨_,rfl⟩
 obtain⟨u24,t24⟩:∃ u,G.tmps.getD 24 undef=u:=⟨_,rfl⟩
 obtain⟨u25,t25⟩:∃ u,G.tmps.getD 25 undef=u:=⟨_,rfl⟩
 obtain⟨u26,t26⟩:∃ u,G.tmps.getD 26 undef=u:=⟨_,rfl⟩
 obtain⟨u27,t27⟩:∃ u,G.tmps.getD 27 undef=u:=⟨_,rfl⟩
 obtain⟨u28,t28⟩:∃ u,G.tmps.getD 28 undef=u:=⟨_,rfl⟩
 obtain⟨u29,t29⟩:∃ u,G.tmps.getD 29 undef=u:=⟨_,rfl⟩
 obtain⟨u30,t30⟩:∃ u,G.tmps.getD 30 undef=u:=⟨_,rfl⟩
 obtain⟨u31,t31⟩:∃ u,G.tmps.getD 31 undef=u:=⟨_,rfl⟩
 obtain⟨u32,t32⟩:∃ u,G.tmps.getD 32 undef=u:=⟨_,rfl⟩
 obtain⟨tm,df⟩:=G;simp only at *;have hLt:=arr_lit4 tm;rw[hsz]at hLt;simp only[List.range,List.range.loop,List.map]at hLt;rw[s0,t1,t2,s3,s4,s5',s6',t7,t8,t9,t10,t11,t12,t13,t14,t15,t16,t17,t18,t19,t20,t21,t22,t23,t24,t25,t26,t27,t28,t29,t30,t31,t32]at hLt;subst hLt hdf;clear s0 t1 t2 s3 s4 s5' s6' t7 t8 t9 t10 t11 t12 t13 t14 t15 t16 t17 t18 t19 t20 t21 t22 t23 t24 t25 t26 t27 t28 t29 t30 t31 t32 hsz;have HV0:=Lib.hid (heap_alloc_new w5 (.cells (#[.int .u64 0,.int .u64 0,.int .u64 0,.int .u64 0,.int .u64 0,.int .u64 0,.int .u64 0,.int .u64 0,.int .u64 0,.int .u64 0,.int .u64 0,.int .u64 0,.int .u64 0,.int .u64 0,.int .u64 0,.int .u64 0,.int .u64 0,.int .u64 0,.int .u64 0,.int .u64 0,.int .u64 0,.int .u64 0,.int .u64 0,.int .u64 0,.int .u64 0,.int .u64 0,.int .u64 0,.int .u64 0,.int .u64 0,.int .u64 0,.int .u64 0,.int .u64 0,.int .u64 0,.int .u64 0,.int .u64 0,.int .u64 0,.int .u64 0,.int .u64 0,.int .u64 0,.int .u64 0,.int .u64 0,.int .u64 0,.int .u64 0,.int .u64 0,.int .u64 0,.int .u64 0,.int .u64 0,.int .u64 0,.int .u64 0,.int .u64 0,.int .u64 0,.int .u64 0,.int .u64 0,.int .u64 0,.int .u64 0,.int .u64 0,.int .u64 0,.int .u64 0,.int .u64 0,.int .u64 0,.int .u64 0,.int .u64 0,.int .u64 0,.int .u64 0]) 115));have HT0:=Lib.hid (CTb.start H6.out (fun j=>if j=0 then eo else 0))
 go_wp2_with (first | (refine wpList_ld rfl 24 _ rfl (.pointer (some ⟨D,0,none⟩)) (.agg #[.int .u64 ((pN eo 0:Nat):Int),.int .u64 ((pN eo 1:Nat):Int),.int .u64 ((pN eo 2:Nat):Int),.int .u64 ((pN eo 3:Nat):Int)]) rfl (by rw[<- pw4];exact ld_pw (by exact H6.out.rg)) ?_) | (refine wpList_store_row rfl 115 _ _ rfl w5.heap.size (ar .u64 64 (tabF (fun j=>if j=0 then eo else 0))) rfl (by kernel_rfl) 115 (#[.int .u64 0,.int .u64 0,.int .u64 0,.int .u64 0,.int .u64 0,.int .u64 0,.int .u64 0,.int .u64 0,.int .u64 0,.int .u64 0,.int .u64 0,.int .u64 0,.int .u64 0,.int .u64 0,.int .u64 0,.int .u64 0,.int .u64 0,.int .u64 0,.int .u64 0,.int .u64 0,.int .u64 0,.int .u64 0,.int .u64 0,.int .u64 0,.int .u64 0,.int .u64 0,.int .u64 0,.int .u64 0,.int .u64 0,.int .u64 0,.int .u64 0,.int .u64 0,.int .u64 0,.int .u64 0,.int .u64 0,.int .u64 0,.int .u64 0,.int .u64 0,.int .u64 0,.int .u64 0,.int .u64 0,.int .u64 0,.int .u64 0,.int .u64 0,.int .u64 0,.int .u64 0,.int .u64 0,.int .u64 0,.int .u64 0,.int .u64 0,.int .u64 0,.int .u64 0,.int .u64 0,.int .u64 0,.int .u64 0,.int .u64 0,.int .u64 0,.int .u64 0,.int .u64 0,.int .u64 0,.int .u64 0,.int .u64 0,.int .u64 0,.int .u64 0]) (by exact HV0.out) (by rw[ar_size];exact info64) (by rw[ar_size];rfl) (ar_one _ _ _) ?_))
 obtain⟨w6,hw6⟩:∃ w6,(w5.alloc (.cells (#[.int .u64 0,.int .u64 0,.int .u64 0,.int .u64 0,.int .u64 0,.int .u64 0,.int .u64 0,.int .u64 0,.int .u64 0,.int .u64 0,.int .u64 0,.int .u64 0,.int .u64 0,.int .u64 0,.int .u64 0,.int .u64 0,.int .u64 0,.int .u64 0,.int .u64 0,.int .u64 0,.int .u64 0,.int .u64 0,.int .u64 0,.int .u64 0,.int .u64 0,.int .u64 0,.int .u64 0,.int .u64 0,.int .u64 0,.int .u64 0,.int .u64 0,.int .u64 0,.int .u64 0,.int .u64 0,.int .u64 0,.int .u64 0,.int .u64 0,.int .u64 0,.int .u64 0,.int .u64 0,.int .u64 0,.int .u64 0,.int .u64 0,.int .u64 0,.int .u64 0,.int .u64 0,.int .u64 0,.int .u64 0,.int .u64 0,.int .u64 0,.int .u64 0,.int .u64 0,.int .u64 0,.int .u64 0,.int .u64 0,.int .u64 0,.int .u64 0,.int .u64 0,.int .u64 0,.int .u64 0,.int .u64 0,.int .u64 0,.int .u64 0,.int .u64 0]) 115)).setRow w5.heap.size (ar .u64 64 (tabF (fun j=>if j=0 then eo else 0)))=w6:=⟨_,rfl⟩
 obtain⟨V,hV⟩:∃ V,w5.heap.size=V:=⟨_,rfl⟩
 rw[hw6,hV]at HT0;rw[hw6,hV];replace HT0:=Lib.hid (show CTb w F m ao D E eo fo V (tabQ m ao 0) w6 from by rw[<- tabQ_0,HE.out.1];exact HT0.out);clear hw6 hV HV0 H6
 go_loopw [19] (fun iv wr=>∃ k:Nat,k<=15/\iv=.int .i64 k/\Hid (CTb w F m ao D E eo fo V (tabQ m ao k) wr)) (fun iv _=>15 - (intOf iv).toNat)
 case atStart=>exact⟨0,by omega,rfl,HT0⟩
 case round =>
  obtain⟨k,hk,rfl,H⟩:=hrel;clear HT0;have hk0:(0:Int)<=k:=by omega
  by_cases hlt:k<15
  ·have hlt':(k:Int)<15:=by omega
   have HT:=Lib.hid (fun wx (c:CTb w F m ao D E eo fo V (tabQ m ao k) wx)=>(times_any F m (pwq m ao k) fo (Nat.lt_trans (pwq_lt HO.out.2.1 ao k) HO.out.2.2) (by rw[<- HE.out.2];exact Nat.lt_trans (Nat.mod_lt _ (by have:=HO.out.2.1;omega)) HO.out.2.2) (prod_lt (Nat.lt_trans (pwq_lt HO.out.2.1 ao k) HO.out.2.2) (by rw[<- HE.out.2];exact Nat.mod_lt _ (by have:=HO.out.2.1;omega))) wx c.k.c.fld).mono fun e w' hh=>(⟨by rw[hh.1,<- HE.out.2,pwq_next HO.out.1 HO.out.2.1],c.below hh.2⟩:e=.returned (.agg (pw (pwq m ao (k+1))))/\CTb w F m ao D E eo fo V (tabQ m ao k) w'));have HN:=Lib.hid (tabQ_next m ao k);have HQK:=Lib.hid (show tabQ m ao k k=pwq m ao k from by unfold tabQ;rw[if_pos (Nat.le_refl _)]);obtain⟨k1,hk1⟩:∃ k1,k+1=k1:=⟨_,rfl⟩
   obtain⟨x,hx⟩:∃ x,pwq m ao k=x:=⟨_,rfl⟩
   obtain⟨y,hy⟩:∃ y,pwq m ao k1=y:=⟨_,rfl⟩
   obtain⟨q,hq⟩:∃ q,tabQ m ao k=q:=⟨_,rfl⟩
   obtain⟨q1,hq1⟩:∃ q1,tabQ m ao k1=q1:=⟨_,rfl⟩
   rw[hk1,hx,hy,hq]at HT;rw[hk1,hy,hq,hq1]at HN;rw[hx,hq]at HQK;rw[hq]at H;have HAD:=Lib.hid (show ∀ w,(binOp BinOp.add 3 (.int .i64 (k:Nat)) (.int .i64 1)).run Tryz.prog w=.ok (.int .i64 (k1:Nat)) w from fun w=>by
    have e:(k:Int)+1=(k1:Int):=by omega
    have e2:IntKind.i64.wrap (k1:Int)=(k1:Int):=by rw[IntKind.wrap_i64];omega
    go_simp)
   have HK:=Lib.hid (And.intro hlt (And.intro hk1 hq1));clear hk1 hx hy hq hq1 hlt hk
   go_wp2_with fail
   refine region_quiet_tail 9 (CTb w F m ao D E eo fo V q) (by kernel_rfl) (by kernel_rfl) (H.out.drew) ?_;simp only[List.take_succ_cons,List.take_zero,List.drop_succ_cons,List.drop_zero]
   with_reducible refine q_val (.int .i64 (k:Nat)) (by kernel_rfl) (fun _ _=>by kernel_rfl) ?_
   with_reducible refine q_bin .add 3 (.tmp 22) _ 3 (.int .i64 (k:Nat)) (.int .i64 1) (.int .i64 (k1:Nat)) rfl (by kernel_rfl) (by kernel_rfl) (by kernel_rfl) (fun _=>by kernel_rfl) (fun w'=>HAD.out w') ?_
   with_reducible refine q_val (.pointer (some ⟨F,0,none⟩)) (by kernel_rfl) (fun _ _=>by kernel_rfl) ?_
   with_reducible refine q_val (.int .i64 (k:Nat)) (by kernel_rfl) (fun _ _=>by kernel_rfl) ?_
   with_reducible refine q_sem2 (Instr.indexAt 115 (.pointer (some ⟨V,0,none⟩)) (.int .i64 (k:Nat))) (.pointer (some ⟨V,k*4,none⟩)) (by kernel_rfl) (by kernel_rfl) (fun w' _=>ix_tab V k (by have:=HK.out;omega) w') ?_
   with_reducible refine q_load 24 (.tmp 26) (.pointer (some ⟨V,k*4,none⟩)) (.agg (pw x)) rfl (by kernel_rfl) (by kernel_rfl) (fun _ c=>(ld_tab c.rV k (by have:=HK.out;omega)).trans (by rw[HQK.out])) ?_
   with_reducible refine q_load 24 (.tmp 6) (.pointer (some ⟨E,0,none⟩)) (.agg (pw fo)) rfl (by kernel_rfl) (by kernel_rfl) (fun _ c=>ld_pw c.k.rh) ?_
   with_reducible refine q_call 87 #[.pointer (some ⟨F,0,none⟩),.agg (pw x),.agg (pw fo)] (.agg (pw y)) (by kernel_rfl) (fun _=>by kernel_rfl) (HT.out) ?_
   with_reducible refine q_sem2 (Instr.indexAt 115 (.pointer (some ⟨V,0,none⟩)) (.int .i64 (k1:Nat))) (.pointer (some ⟨V,k1*4,none⟩)) (by kernel_rfl) (by kernel_rfl) (fun w' _=>ix_tab V k1 (by have:=HK.out;omega) w') ?_
   with_reducible refine wpQuiet_nil ?_
   intro wx hC;have HC:=Lib.hid hC;clear hC H HT;simp only[Act.put,List.setIfInBounds_toArray,List.set_cons_succ,List.set_cons_zero];have HP:=Lib.hid (HC.out.put k1 y (by have:=HK.out;omega));rw[HN.out]at HP;have hth:=tab_there HC.out.rV k1 (by have:=HK.out;omega) y;clear HC
   go_wp2_with (refine wpList_store_mid rfl 24 _ _ rfl V (k1*4) (pw y) rfl rfl (by exact hth) (by rw[pw_size];exact infoW4) (pw_one _) ?_)
   go_roundw
   case rel=>exact⟨k1,by have:=HK.out;omega,by rw[show((k1:Nat):Int)=(k:Int)+1 by have:=HK.out;omega],by rw[HK.out.2.2];exact HP⟩
   case measure=>have:=HK.out;simp[intOf];omega
  ·obtain rfl:k=15:=by omega
   have hlt':¬((15:Nat):Int)<15:=by omega
   obtain⟨q,hq⟩:∃ q,tabQ m ao 15=q:=⟨_,rfl⟩
   rw[hq]at H;have HQ:=Lib.hid hq;clear hq;have HI:Hid ((Tryz.prog.info? 115).map (·.size)=some (ar .u64 64 (tabF q)).size):=Lib.hid (by rw[ar_size];exact info64);simp only[Int.cast_ofNat_Int]
   go_wp2_with (first | (refine wpList_load_row rfl 115 _ rfl V rfl 115 (ar .u64 64 (tabF q)) (0,0) _ (by exact H.out.rV) Tryz.underlying115 rfl HI.out ?_) | (refine wpList_store_row rfl 115 _ _ rfl (w.heap.size+1) (ar .u64 64 (tabF q)) rfl rfl 115 (#[.int .u64 0,.int .u64 0,.int .u64 0,.int .u64 0,.int .u64 0,.int .u64 0,.int .u64 0,.int .u64 0,.int .u64 0,.int .u64 0,.int .u64 0,.int .u64 0,.int .u64 0,.int .u64 0,.int .u64 0,.int .u64 0,.int .u64 0,.int .u64 0,.int .u64 0,.int .u64 0,.int .u64 0,.int .u64 0,.int .u64 0,.int .u64 0,.int .u64 0,.int .u64 0,.int .u64 0,.int .u64 0,.int .u64 0,.int .u64 0,.int .u64 0,.int .u64 0,.int .u64 0,.int .u64 0,.int .u64 0,.int .u64 0,.int .u64 0,.int .u64 0,.int .u64 0,.int .u64 0,.int .u64 0,.int .u64 0,.int .u64 0,.int .u64 0,.int .u64 0,.int .u64 0,.int .u64 0,.int .u64 0,.int .u64 0,.int .u64 0,.int .u64 0,.int .u64 0,.int .u64 0,.int .u64 0,.int .u64 0,.int .u64 0,.int .u64 0,.int .u64 0,.int .u64 0,.int .u64 0,.int .u64 0,.int .u64 0,.int .u64 0,.int .u64 0]) (by exact H.out.k.c.r1) HI.out (by rw[ar_size];rfl) (ar_one _ _ _) ?_))
   (try simp only[Act.put,List.setIfInBounds_toArray,List.set_cons_succ,List.set_cons_zero])
   refine bodyPost_ret (v:=.agg (ar .u64 64 (tabF q))) (results_cell_row (p:=4) rfl _ _ (w.heap.size+1) 115 (ar .u64 64 (tabF q)) (0,0) _ rfl (setRow_heap _ _ _ _ _ _ H.out.k.c.r1) Tryz.underlying115 rfl HI.out) rfl ⟨by rw[HQ.out],below_setRow H.out.k.c.old (by omega) _⟩
open Go.RowKit
theorem mnt_pwq{m:Nat}(ho:m%2=1)(h1:1<m)(a x y:Nat):mnt m (pwq m a x) (pwq m a y)=pwq m a (x+y):=by
 unfold pwq;rw[mnt_both ho h1,Nat.pow_add]
theorem pwq_out{m:Nat}(ho:m%2=1)(h1:1<m)(a x:Nat):mnt m (pwq m a x) 1=a^x%m:=by
 unfold pwq;rw[mnt_back ho h1,Nat.mul_one]
theorem dig_next(e i:Nat):e / 16^(i+1)*16+e / 16^i%16=e / 16^i:=by
 rw[Nat.pow_succ,<- Nat.div_div_eq_div_mul];omega
theorem dig_of(e i:Nat)(he:e<2^256):pN e (i / 16) / 2^(i%16*4)%16=e / 16^i%16:=by
 unfold pN;rw[Nat.mod_eq_of_lt he];have h1:(16:Nat)^i=2^(64*(i / 16))*2^(i%16*4):=by
  rw[<- Nat.pow_add,show(16:Nat)=2^4 from rfl,<- Nat.pow_mul];congr 1;omega
 rw[h1,<- Nat.div_div_eq_div_mul];have h2:18446744073709551616=2^(i%16*4)*(16*2^(60 - i%16*4)):=by
  rw[show 18446744073709551616=2^64 from rfl,show(16:Nat)=2^4 from rfl,<- Nat.pow_add,<- Nat.pow_add];congr 1;omega
 generalize e / 2^(64*(i / 16))=z;rw[h2,Nat.mod_mul_right_div_self,Nat.mod_mul_right_mod]
theorem and_15(z:Nat)(h:z<18446744073709551616):bits .and .u64 (z:Int) 15=((z%16:Nat):Int):=by
 have:=bits_and_u64_nat z 15 h (by omega);rw[show z &&& 15=z%16 from Nat.and_two_pow_sub_one_eq_mod z 4]at this;exact this
theorem ix_tabu(V k:Nat)(hk:k<16)(w:World):(Instr.indexAt 115 (.pointer (some ⟨V,0,none⟩)) (.int .u64 (k:Nat))).run Tryz.prog w=.ok (.pointer (some ⟨V,k*4,none⟩)) w:=by
 have h0:(0:Int)<=k:=by omega
 have h1:(k:Int)<16:=by omega
 go_simp
structure CX (w:World) (F m a e V O:Nat) (q:Nat->Nat) (x:Nat) (wx:World):Prop where
 old:Below w.heap.size w wx
 fld:FldAt wx F m
 hF:F<w.heap.size
 r0:wx.heap[w.heap.size]?=some (.cells (pw a) 24 (0,0))
 r1:wx.heap[w.heap.size+1]?=some (.cells (pw e) 24 (0,0))
 r2:wx.heap[w.heap.size+1+1]?=some (.cells (#[.int .u64 0,.int .u64 0,.int .u64 0,.int .u64 0]) 24 (0,0))
 rV:wx.heap[V]?=some (.cells (ar .u64 64 (tabF q)) 115 (0,0))
 rO:wx.heap[O]?=some (.cells (pw x) 24 (0,0))
 hV:w.heap.size+3<=V/\V<O
theorem CX.below{w wx w':World}{F m a e V O x:Nat}{q:Nat->Nat}(c:CX w F m a e V O q x wx)(hb:Below wx.heap.size wx w'):CX w F m a e V O q x w' :=
 ⟨c.old.trans (hb.mono c.old.size),c.fld.below hb,c.hF,(hb.block _ (Array.getElem?_eq_some_iff.1 c.r0).1).trans c.r0,(hb.block _ (Array.getElem?_eq_some_iff.1 c.r1).1).trans c.r1,(hb.block _ (Array.getElem?_eq_some_iff.1 c.r2).1).trans c.r2,(hb.block _ (Array.getElem?_eq_some_iff.1 c.rV).1).trans c.rV,(hb.block _ (Array.getElem?_eq_some_iff.1 c.rO).1).trans c.rO,c.hV⟩
theorem CX.drew{w wx:World}{F m a e V O x:Nat}{q:Nat->Nat}(c:CX w F m a e V O q x wx):CX w F m a e V O q x wx.drew:=c.below (Below.drew (Below.refl _ _))
theorem CX.put{w wx:World}{F m a e V O x:Nat}{q:Nat->Nat}(c:CX w F m a e V O q x wx)(y:Nat):CX w F m a e V O q y (wx.setRow O (pw y)):=by
 have h:=c.hV;have hF:=c.hF;exact⟨below_setRow c.old (by omega) _,fld_row c.fld (by omega),hF,(setRow_other _ _ _ _ (by omega)).trans c.r0,(setRow_other _ _ _ _ (by omega)).trans c.r1,(setRow_other _ _ _ _ (by omega)).trans c.r2,(setRow_other _ _ _ _ (by omega)).trans c.rV,setRow_heap _ _ _ _ _ _ c.rO,h⟩
theorem CX.times{w:World}{F m a e V O x y z:Nat}{q:Nat->Nat}(hx:x<m)(hy:y<m)(hm:m<2^256)(hz:mnt m x y=z){x0:Nat}:∀ wx,CX w F m a e V O q x0 wx->Calls Tryz.prog 87 #[.pointer (some ⟨F,0,none⟩),.agg (pw x),.agg (pw y)] wx fun e' w'=>e'=.returned (.agg (pw z))/\CX w F m a e V O q x0 w' :=
 fun wx c=>(times_any F m x y (Nat.lt_trans hx hm) (Nat.lt_trans hy hm) (prod_lt (Nat.lt_trans hx hm) hy) wx c.fld).mono fun _ _ hh=>⟨by rw[hh.1,hz],c.below hh.2⟩
theorem CX.start{w w1:World}{F m a e:Nat}{q:Nat->Nat}{cz:Array Value}(hF:FldAt w F m)(hb:Below (w.heap.size+3) (((w.alloc (.cells (pw a) 24)).alloc (.cells (pw e) 24)).alloc (.cells (#[.int .u64 0,.int .u64 0,.int .u64 0,.int .u64 0]) 24)) w1):CX w F m a e w1.heap.size (w1.heap.size+1) q (q 0) ((((w1.alloc (.cells cz 115)).setRow w1.heap.size (ar .u64 64 (tabF q))).alloc (.cells (#[.int .u64 0,.int .u64 0,.int .u64 0,.int .u64 0]) 24)).setRow (w1.heap.size+1) (pw (q 0))):=by
 have c:=CW.two hF a e;have hs:=hb.size;simp only[World.size_alloc]at hs;have hl:=hF.less;have c1:=c.fld.below (hb.mono (by simp));have hb2:Below w1.heap.size w1 (w1.alloc (.cells cz 115)):=(Below.refl _ _).alloc (Nat.le_refl _) _;have hb3:Below w1.heap.size w1 ((w1.alloc (.cells cz 115)).setRow w1.heap.size (ar .u64 64 (tabF q))):=below_setRow hb2 (Nat.le_refl _) _;have hsz:((w1.alloc (.cells cz 115)).setRow w1.heap.size (ar .u64 64 (tabF q))).heap.size=w1.heap.size+1:=by rw[setRow_size];simp
 have hb4:Below w1.heap.size w1 (((w1.alloc (.cells cz 115)).setRow w1.heap.size (ar .u64 64 (tabF q))).alloc (.cells (#[.int .u64 0,.int .u64 0,.int .u64 0,.int .u64 0]) 24)):=hb3.alloc (by rw[hsz];omega) _;have hb5:Below w1.heap.size w1 ((((w1.alloc (.cells cz 115)).setRow w1.heap.size (ar .u64 64 (tabF q))).alloc (.cells (#[.int .u64 0,.int .u64 0,.int .u64 0,.int .u64 0]) 24)).setRow (w1.heap.size+1) (pw (q 0))):=below_setRow hb4 (by omega) _;have hrV:((w1.alloc (.cells cz 115)).setRow w1.heap.size (ar .u64 64 (tabF q))).heap[w1.heap.size]?=some (.cells (ar .u64 64 (tabF q)) 115 (0,0)):=setRow_heap _ _ _ _ _ _ (heap_alloc_new _ _);have hnw:=heap_alloc_new ((w1.alloc (.cells cz 115)).setRow w1.heap.size (ar .u64 64 (tabF q))) (.cells (#[.int .u64 0,.int .u64 0,.int .u64 0,.int .u64 0]) 24);rw[hsz]at hnw;have go:∀ k,k<w.heap.size+3->∀ o,(((w.alloc (.cells (pw a) 24)).alloc (.cells (pw e) 24)).alloc (.cells (#[.int .u64 0,.int .u64 0,.int .u64 0,.int .u64 0]) 24)).heap[k]?=some o->((((w1.alloc (.cells cz 115)).setRow w1.heap.size (ar .u64 64 (tabF q))).alloc (.cells (#[.int .u64 0,.int .u64 0,.int .u64 0,.int .u64 0]) 24)).setRow (w1.heap.size+1) (pw (q 0))).heap[k]?=some o:=fun k hk o ho=>(hb5.block _ (by omega)).trans ((hb.block _ hk).trans ho);exact⟨(c.old.trans (hb.mono (by omega))).trans (hb5.mono (by omega)),c1.below hb5,hl,go _ (by omega) _ (c.is _ _ (by simp)),go _ (by omega) _ (c.is _ _ (by simp)),go _ (by omega) _ (c.is _ _ (by simp)),(setRow_other _ _ _ _ (by omega)).trans ((((Below.refl (w1.heap.size+1) ((w1.alloc (.cells cz 115)).setRow w1.heap.size (ar .u64 64 (tabF q)))).alloc (by rw[hsz];omega) (.cells (#[.int .u64 0,.int .u64 0,.int .u64 0,.int .u64 0]) 24)).block _ (by omega)).trans hrV),setRow_heap _ _ _ _ _ _ hnw,⟨by omega,by omega⟩⟩
-- WHAT Exp COMES TO.
theorem fexp_any(F m a e:Nat)(ha:a<2^256)(he:e<2^256)(w:World)(hF:FldAt w F m):Calls Tryz.prog 71 #[.pointer (some ⟨F,0,none⟩),.agg (pw a),.agg (pw e)] w fun e' w'=>e'=.returned (.agg (pw (a^e%m)))/\Below w.heap.size w w':=by
 have HO:=Lib.hid (And.intro hF.odd (And.intro hF.big (And.intro hF.lt he)));have HFF:=Lib.hid hF;have HC2:=Lib.hid (CW.two hF a e);have HPW:=Lib.hid (fun wx (c:CW w F m [(w.heap.size+1+1,#[.int .u64 0,.int .u64 0,.int .u64 0,.int .u64 0]),(w.heap.size+1,pw e),(w.heap.size,pw a)] wx)=>powers_any F m a ha wx c.fld);have HLN:=Lib.hid (fun wx=>len_pw e wx);have hbl:=bl_le e 256;have hbs:=(bl_spec e 256).1;rw[show(2:Nat)^256=2^256 from rfl,Nat.mod_mod,Nat.mod_eq_of_lt he]at hbs;obtain⟨n,hn⟩:∃ n,bl e 256=n:=⟨_,rfl⟩
 rw[hn]at HLN hbl hbs;obtain⟨L,hL⟩:∃ L,(n+3) / 4=L:=⟨_,rfl⟩
 have HL0:=Lib.hid (show e / 16^L=0 from Nat.div_eq_of_lt (Nat.lt_of_lt_of_le hbs (by rw[show(16:Nat)=2^4 from rfl,<- Nat.pow_mul];exact Nat.pow_le_pow_right (by omega) (by omega))));have HLL:=Lib.hid (show L<=64 by omega);obtain⟨n3,hn3⟩:∃ n3,n+3=n3:=⟨_,rfl⟩
 have e1:(n:Int)+3=(n3:Int):=by omega
 have e2:IntKind.i64.wrap (n3:Int)=(n3:Int):=by rw[IntKind.wrap_i64];omega
 have e3:(n3:Int).tdiv 4=(L:Int):=by rw[Int.tdiv_eq_ediv_of_nonneg (by omega)];omega
 have e4:(n3:Int) / 4=(L:Int):=by omega
 have e5:IntKind.i64.wrap (L:Int)=(L:Int):=by rw[IntKind.wrap_i64];omega
 have e6:IntKind.i64.wrap ((L:Int) - 1)=(L:Int) - 1:=by rw[IntKind.wrap_i64];omega
 have hn30:(0:Int)<=n3:=by omega
 obtain⟨q,hq⟩:∃ q,tabQ m a 15=q:=⟨_,rfl⟩
 rw[hq]at HPW;have HQ:=Lib.hid (show ∀ d,d<16->q d=pwq m a d from fun d hd=>by rw[<- hq];unfold tabQ;rw[if_pos (by omega)]);clear hq hF ha he hbl hbs hn hL hn3;go_enter Tryz.func71,Tryz.ntmps71
 go_wp2_with (refine wpList_ld rfl 24 _ rfl (.pointer (some ⟨w.heap.size,0,none⟩)) (.agg (pw a)) rfl (ld_pw (by exact HC2.out.is _ _ (by simp))) ?_)
 refine(HPW.out _ HC2.out).mono ?_;rintro e' w1 ⟨rfl,hb1⟩;have HX:=Lib.hid (CX.start (cz:=#[.int .u64 0,.int .u64 0,.int .u64 0,.int .u64 0,.int .u64 0,.int .u64 0,.int .u64 0,.int .u64 0,.int .u64 0,.int .u64 0,.int .u64 0,.int .u64 0,.int .u64 0,.int .u64 0,.int .u64 0,.int .u64 0,.int .u64 0,.int .u64 0,.int .u64 0,.int .u64 0,.int .u64 0,.int .u64 0,.int .u64 0,.int .u64 0,.int .u64 0,.int .u64 0,.int .u64 0,.int .u64 0,.int .u64 0,.int .u64 0,.int .u64 0,.int .u64 0,.int .u64 0,.int .u64 0,.int .u64 0,.int .u64 0,.int .u64 0,.int .u64 0,.int .u64 0,.int .u64 0,.int .u64 0,.int .u64 0,.int .u64 0,.int .u64 0,.int .u64 0,.int .u64 0,.int .u64 0,.int .u64 0,.int .u64 0,.int .u64 0,.int .u64 0,.int .u64 0,.int .u64 0,.int .u64 0,.int .u64 0,.int .u64 0,.int .u64 0,.int .u64 0,.int .u64 0,.int .u64 0,.int .u64 0,.int .u64 0,.int .u64 0,.int .u64 0]) (q:=q) HFF.out (hb1.mono (by simp)));have HV0:=Lib.hid (heap_alloc_new w1 (.cells (#[.int .u64 0,.int .u64 0,.int .u64 0,.int .u64 0,.int .u64 0,.int .u64 0,.int .u64 0,.int .u64 0,.int .u64 0,.int .u64 0,.int .u64 0,.int .u64 0,.int .u64 0,.int .u64 0,.int .u64 0,.int .u64 0,.int .u64 0,.int .u64 0,.int .u64 0,.int .u64 0,.int .u64 0,.int .u64 0,.int .u64 0,.int .u64 0,.int .u64 0,.int .u64 0,.int .u64 0,.int .u64 0,.int .u64 0,.int .u64 0,.int .u64 0,.int .u64 0,.int .u64 0,.int .u64 0,.int .u64 0,.int .u64 0,.int .u64 0,.int .u64 0,.int .u64 0,.int .u64 0,.int .u64 0,.int .u64 0,.int .u64 0,.int .u64 0,.int .u64 0,.int .u64 0,.int .u64 0,.int .u64 0,.int .u64 0,.int .u64 0,.int .u64 0,.int .u64 0,.int .u64 0,.int .u64 0,.int .u64 0,.int .u64 0,.int .u64 0,.int .u64 0,.int .u64 0,.int .u64 0,.int .u64 0,.int .u64 0,.int .u64 0,.int .u64 0]) 115));have HV1:=Lib.hid (show((w1.alloc (.cells (#[.int .u64 0,.int .u64 0,.int .u64 0,.int .u64 0,.int .u64 0,.int .u64 0,.int .u64 0,.int .u64 0,.int .u64 0,.int .u64 0,.int .u64 0,.int .u64 0,.int .u64 0,.int .u64 0,.int .u64 0,.int .u64 0,.int .u64 0,.int .u64 0,.int .u64 0,.int .u64 0,.int .u64 0,.int .u64 0,.int .u64 0,.int .u64 0,.int .u64 0,.int .u64 0,.int .u64 0,.int .u64 0,.int .u64 0,.int .u64 0,.int .u64 0,.int .u64 0,.int .u64 0,.int .u64 0,.int .u64 0,.int .u64 0,.int .u64 0,.int .u64 0,.int .u64 0,.int .u64 0,.int .u64 0,.int .u64 0,.int .u64 0,.int .u64 0,.int .u64 0,.int .u64 0,.int .u64 0,.int .u64 0,.int .u64 0,.int .u64 0,.int .u64 0,.int .u64 0,.int .u64 0,.int .u64 0,.int .u64 0,.int .u64 0,.int .u64 0,.int .u64 0,.int .u64 0,.int .u64 0,.int .u64 0,.int .u64 0,.int .u64 0,.int .u64 0]) 115)).setRow w1.heap.size (ar .u64 64 (tabF q))).heap[w1.heap.size]?=some (.cells (ar .u64 64 (tabF q)) 115 (0,0)) from setRow_heap _ _ _ _ _ _ HV0.out);have hsz1:((w1.alloc (.cells (#[.int .u64 0,.int .u64 0,.int .u64 0,.int .u64 0,.int .u64 0,.int .u64 0,.int .u64 0,.int .u64 0,.int .u64 0,.int .u64 0,.int .u64 0,.int .u64 0,.int .u64 0,.int .u64 0,.int .u64 0,.int .u64 0,.int .u64 0,.int .u64 0,.int .u64 0,.int .u64 0,.int .u64 0,.int .u64 0,.int .u64 0,.int .u64 0,.int .u64 0,.int .u64 0,.int .u64 0,.int .u64 0,.int .u64 0,.int .u64 0,.int .u64 0,.int .u64 0,.int .u64 0,.int .u64 0,.int .u64 0,.int .u64 0,.int .u64 0,.int .u64 0,.int .u64 0,.int .u64 0,.int .u64 0,.int .u64 0,.int .u64 0,.int .u64 0,.int .u64 0,.int .u64 0,.int .u64 0,.int .u64 0,.int .u64 0,.int .u64 0,.int .u64 0,.int .u64 0,.int .u64 0,.int .u64 0,.int .u64 0,.int .u64 0,.int .u64 0,.int .u64 0,.int .u64 0,.int .u64 0,.int .u64 0,.int .u64 0,.int .u64 0,.int .u64 0]) 115)).setRow w1.heap.size (ar .u64 64 (tabF q))).heap.size=w1.heap.size+1:=by rw[setRow_size];simp
 have HV2:=Lib.hid (show(((w1.alloc (.cells (#[.int .u64 0,.int .u64 0,.int .u64 0,.int .u64 0,.int .u64 0,.int .u64 0,.int .u64 0,.int .u64 0,.int .u64 0,.int .u64 0,.int .u64 0,.int .u64 0,.int .u64 0,.int .u64 0,.int .u64 0,.int .u64 0,.int .u64 0,.int .u64 0,.int .u64 0,.int .u64 0,.int .u64 0,.int .u64 0,.int .u64 0,.int .u64 0,.int .u64 0,.int .u64 0,.int .u64 0,.int .u64 0,.int .u64 0,.int .u64 0,.int .u64 0,.int .u64 0,.int .u64 0,.int .u64 0,.int .u64 0,.int .u64 0,.int .u64 0,.int .u64 0,.int .u64 0,.int .u64 0,.int .u64 0,.int .u64 0,.int .u64 0,.int .u64 0,.int .u64 0,.int .u64 0,.int .u64 0,.int .u64 0,.int .u64 0,.int .u64 0,.int .u64 0,.int .u64 0,.int .u64 0,.int .u64 0,.int .u64 0,.int .u64 0,.int .u64 0,.int .u64 0,.int .u64 0,.int .u64 0,.int .u64 0,.int .u64 0,.int .u64 0,.int .u64 0]) 115)).setRow w1.heap.size (ar .u64 64 (tabF q))).alloc (.cells (#[.int .u64 0,.int .u64 0,.int .u64 0,.int .u64 0]) 24)).heap[w1.heap.size+1]?=some (.cells (#[.int .u64 0,.int .u64 0,.int .u64 0,.int .u64 0]) 24 (0,0)) from by
  have:=heap_alloc_new ((w1.alloc (.cells (#[.int .u64 0,.int .u64 0,.int .u64 0,.int .u64 0,.int .u64 0,.int .u64 0,.int .u64 0,.int .u64 0,.int .u64 0,.int .u64 0,.int .u64 0,.int .u64 0,.int .u64 0,.int .u64 0,.int .u64 0,.int .u64 0,.int .u64 0,.int .u64 0,.int .u64 0,.int .u64 0,.int .u64 0,.int .u64 0,.int .u64 0,.int .u64 0,.int .u64 0,.int .u64 0,.int .u64 0,.int .u64 0,.int .u64 0,.int .u64 0,.int .u64 0,.int .u64 0,.int .u64 0,.int .u64 0,.int .u64 0,.int .u64 0,.int .u64 0,.int .u64 0,.int .u64 0,.int .u64 0,.int .u64 0,.int .u64 0,.int .u64 0,.int .u64 0,.int .u64 0,.int .u64 0,.int .u64 0,.int .u64 0,.int .u64 0,.int .u64 0,.int .u64 0,.int .u64 0,.int .u64 0,.int .u64 0,.int .u64 0,.int .u64 0,.int .u64 0,.int .u64 0,.int .u64 0,.int .u64 0,.int .u64 0,.int .u64 0,.int .u64 0,.int .u64 0]) 115)).setRow w1.heap.size (ar .u64 64 (tabF q))) (.cells (#[.int .u64 0,.int .u64 0,.int .u64 0,.int .u64 0]) 24);rwa [hsz1]at this)
 have HV3:=Lib.hid (show(((w1.alloc (.cells (#[.int .u64 0,.int .u64 0,.int .u64 0,.int .u64 0,.int .u64 0,.int .u64 0,.int .u64 0,.int .u64 0,.int .u64 0,.int .u64 0,.int .u64 0,.int .u64 0,.int .u64 0,.int .u64 0,.int .u64 0,.int .u64 0,.int .u64 0,.int .u64 0,.int .u64 0,.int .u64 0,.int .u64 0,.int .u64 0,.int .u64 0,.int .u64 0,.int .u64 0,.int .u64 0,.int .u64 0,.int .u64 0,.int .u64 0,.int .u64 0,.int .u64 0,.int .u64 0,.int .u64 0,.int .u64 0,.int .u64 0,.int .u64 0,.int .u64 0,.int .u64 0,.int .u64 0,.int .u64 0,.int .u64 0,.int .u64 0,.int .u64 0,.int .u64 0,.int .u64 0,.int .u64 0,.int .u64 0,.int .u64 0,.int .u64 0,.int .u64 0,.int .u64 0,.int .u64 0,.int .u64 0,.int .u64 0,.int .u64 0,.int .u64 0,.int .u64 0,.int .u64 0,.int .u64 0,.int .u64 0,.int .u64 0,.int .u64 0,.int .u64 0,.int .u64 0]) 115)).setRow w1.heap.size (ar .u64 64 (tabF q))).alloc (.cells (#[.int .u64 0,.int .u64 0,.int .u64 0,.int .u64 0]) 24)).heap[w1.heap.size]?=some (.cells (ar .u64 64 (tabF q)) 115 (0,0)) from by
  have h:=((Below.refl (w1.heap.size+1) ((w1.alloc (.cells (#[.int .u64 0,.int .u64 0,.int .u64 0,.int .u64 0,.int .u64 0,.int .u64 0,.int .u64 0,.int .u64 0,.int .u64 0,.int .u64 0,.int .u64 0,.int .u64 0,.int .u64 0,.int .u64 0,.int .u64 0,.int .u64 0,.int .u64 0,.int .u64 0,.int .u64 0,.int .u64 0,.int .u64 0,.int .u64 0,.int .u64 0,.int .u64 0,.int .u64 0,.int .u64 0,.int .u64 0,.int .u64 0,.int .u64 0,.int .u64 0,.int .u64 0,.int .u64 0,.int .u64 0,.int .u64 0,.int .u64 0,.int .u64 0,.int .u64 0,.int .u64 0,.int .u64 0,.int .u64 0,.int .u64 0,.int .u64 0,.int .u64 0,.int .u64 0,.int .u64 0,.int .u64 0,.int .u64 0,.int .u64 0,.int .u64 0,.int .u64 0,.int .u64 0,.int .u64 0,.int .u64 0,.int .u64 0,.int .u64 0,.int .u64 0,.int .u64 0,.int .u64 0,.int .u64 0,.int .u64 0,.int .u64 0,.int .u64 0,.int .u64 0,.int .u64 0]) 115)).setRow w1.heap.size (ar .u64 64 (tabF q)))).alloc (by rw[hsz1];omega) (.cells (#[.int .u64 0,.int .u64 0,.int .u64 0,.int .u64 0]) 24)).block w1.heap.size (by omega);exact h.trans HV1.out)
 clear hb1 HC2 HPW hsz1
 go_upto_region 3 with(first | (refine wpList_store_row rfl 115 _ _ rfl w1.heap.size (ar .u64 64 (tabF q)) rfl rfl 115 (#[.int .u64 0,.int .u64 0,.int .u64 0,.int .u64 0,.int .u64 0,.int .u64 0,.int .u64 0,.int .u64 0,.int .u64 0,.int .u64 0,.int .u64 0,.int .u64 0,.int .u64 0,.int .u64 0,.int .u64 0,.int .u64 0,.int .u64 0,.int .u64 0,.int .u64 0,.int .u64 0,.int .u64 0,.int .u64 0,.int .u64 0,.int .u64 0,.int .u64 0,.int .u64 0,.int .u64 0,.int .u64 0,.int .u64 0,.int .u64 0,.int .u64 0,.int .u64 0,.int .u64 0,.int .u64 0,.int .u64 0,.int .u64 0,.int .u64 0,.int .u64 0,.int .u64 0,.int .u64 0,.int .u64 0,.int .u64 0,.int .u64 0,.int .u64 0,.int .u64 0,.int .u64 0,.int .u64 0,.int .u64 0,.int .u64 0,.int .u64 0,.int .u64 0,.int .u64 0,.int .u64 0,.int .u64 0,.int .u64 0,.int .u64 0,.int .u64 0,.int .u64 0,.int .u64 0,.int .u64 0,.int .u64 0,.int .u64 0,.int .u64 0,.int .u64 0]) (by exact HV0.out) (by rw[ar_size];exact info64) (by rw[ar_size];rfl) (ar_one _ _ _) ?_) | (refine wpList_ld rfl 24 _ rfl (.pointer (some ⟨w1.heap.size,0,none⟩)) (.agg (pw (q 0))) rfl (ld_tab (by first | exact HV1.out | exact HV3.out) 0 (by omega)) ?_) | (refine wpList_store_row rfl 24 _ _ rfl (w1.heap.size+1) (pw (q 0)) rfl rfl 24 (#[.int .u64 0,.int .u64 0,.int .u64 0,.int .u64 0]) (by exact HV2.out) (by rw[pw_size];exact infoW4) (by rw[pw_size];rfl) (pw_one _) ?_))
 obtain⟨w2,hw2⟩:∃ w2,(((w1.alloc (.cells (#[.int .u64 0,.int .u64 0,.int .u64 0,.int .u64 0,.int .u64 0,.int .u64 0,.int .u64 0,.int .u64 0,.int .u64 0,.int .u64 0,.int .u64 0,.int .u64 0,.int .u64 0,.int .u64 0,.int .u64 0,.int .u64 0,.int .u64 0,.int .u64 0,.int .u64 0,.int .u64 0,.int .u64 0,.int .u64 0,.int .u64 0,.int .u64 0,.int .u64 0,.int .u64 0,.int .u64 0,.int .u64 0,.int .u64 0,.int .u64 0,.int .u64 0,.int .u64 0,.int .u64 0,.int .u64 0,.int .u64 0,.int .u64 0,.int .u64 0,.int .u64 0,.int .u64 0,.int .u64 0,.int .u64 0,.int .u64 0,.int .u64 0,.int .u64 0,.int .u64 0,.int .u64 0,.int .u64 0,.int .u64 0,.int .u64 0,.int .u64 0,.int .u64 0,.int .u64 0,.int .u64 0,.int .u64 0,.int .u64 0,.int .u64 0,.int .u64 0,.int .u64 0,.int .u64 0,.int .u64 0,.int .u64 0,.int .u64 0,.int .u64 0,.int .u64 0]) 115)).setRow w1.heap.size (ar .u64 64 (tabF q))).alloc (.cells (#[.int .u64 0,.int .u64 0,.int .u64 0,.int .u64 0]) 24)).setRow (w1.heap.size+1) (pw (q 0))=w2:=⟨_,rfl⟩
 rw[hw2]at HX |-
 obtain⟨V,hV⟩:∃ V,w1.heap.size=V:=⟨_,rfl⟩
 rw[hV]at HX |-
 obtain⟨O,hO⟩:∃ O,V+1=O:=⟨_,rfl⟩
 rw[hO]at HX |-
 rw[HQ.out 0 (by omega)]at HX |-
 clear hw2 hV hO HV0 HV1 HV2 HV3
 go_wp2_with (refine wpList_ld rfl 24 _ rfl (.pointer (some ⟨w.heap.size+1,0,none⟩)) (.agg (pw e)) rfl (ld_pw (by exact HX.out.r1)) ?_)
 refine(HLN.out _).mono ?_;rintro e' w3 ⟨rfl,hb3⟩;have H3:=Lib.hid (show CX w F m a e V O q (pwq m a (e / 16^L)) w3 from by rw[HL0.out];exact HX.out.below hb3);clear HX hb3 HLN
 go_wp2_with fail
 clear e1 e2 e3 e4 e5 e6 hn30
 go_loopw [9] (fun iv wr=>∃ j:Nat,j<=64/\iv=.int .i64 ((j:Int) - 1)/\Hid (CX w F m a e V O q (pwq m a (e / 16^j)) wr)) (fun iv _=>(intOf iv+1).toNat)
 case atStart=>exact⟨L,HLL.out,rfl,H3⟩
 case round =>
  obtain⟨j,hj,rfl,H⟩:=hrel;clear H3;by_cases h0:1<=j
  ·obtain⟨i,rfl⟩:∃ i,j=i+1:=⟨j - 1,by omega⟩
   rw[show(((i+1:Nat):Int) - 1)=(i:Int) by omega];have hi0:(0:Int)<=i:=by omega
   have HD:=Lib.hid (dig_next e i);have HDO:=Lib.hid (dig_of e i HO.out.2.2.2);obtain⟨d,hd⟩:∃ d,e / 16^(i+1)=d:=⟨_,rfl⟩
   rw[hd]at HD H;have H4:=Lib.hid (show CX w F m a e V O q (pwq m a (d*2^0)) wr from by rw[Nat.pow_zero,Nat.mul_one];exact H.out);have HI:=Lib.hid hj;clear H hd hj h0
   go_wp2_with fail
   go_loopw [25] (fun iv wr=>∃ k:Nat,k<=4/\iv=.int .i64 k/\Hid (CX w F m a e V O q (pwq m a (d*2^k)) wr)) (fun iv _=>4 - (intOf iv).toNat)
   case atStart=>exact⟨0,by omega,rfl,H4⟩
   case round =>
    obtain⟨k,hk,rfl,H⟩:=hrel;clear H4;have hk0:(0:Int)<=k:=by omega
    by_cases hlt:k<4
    ·have hlt':(k:Int)<4:=by omega
     have hxl:=pwq_lt HO.out.2.1 a (d*2^k);have HT:=Lib.hid (CX.times (w:=w) (F:=F) (a:=a) (e:=e) (V:=V) (O:=O) (q:=q) (x0:=pwq m a (d*2^k)) hxl hxl HO.out.2.2.1 ((mnt_pwq HO.out.1 HO.out.2.1 a (d*2^k) (d*2^k)).trans (by rw[show d*2^k+d*2^k=d*2^(k+1) by rw[Nat.pow_succ,<- Nat.mul_assoc];omega])));obtain⟨x,hx⟩:∃ x,pwq m a (d*2^k)=x:=⟨_,rfl⟩
     obtain⟨y,hy⟩:∃ y,pwq m a (d*2^(k+1))=y:=⟨_,rfl⟩
     rw[hx]at H HT;rw[hy]at HT;have HY:=Lib.hid hy;have HK:=Lib.hid hlt;clear hx hy hxl hk hlt
     go_wp2_with (refine wpList_ld rfl 24 _ rfl (.pointer (some ⟨O,0,none⟩)) (.agg (pw x)) rfl (ld_pw (by exact H.out.rO)) ?_)
     refine(HT.out _ H.out).mono ?_;rintro e' w4 ⟨rfl,c4⟩;have H5:=Lib.hid c4;clear c4 H HT
     go_wp2_with (refine wpList_store_row rfl 24 _ _ rfl (O) (pw y) rfl rfl 24 (pw x) (by exact H5.out.rO) (by rw[pw_size];exact infoW4) (by first | rfl | (rw[pw_size];rfl) | (rw[pw_size,pw_size])) (pw_one _) ?_)
     go_roundw
     case rel=>exact⟨k+1,by have:=HK.out;omega,by go_num,Lib.hid (by rw[HY.out];exact H5.out.put y)⟩
     case measure=>have:=HK.out;simp[intOf];omega
    ·obtain rfl:k=4:=by omega
     have hlt':¬((4:Nat):Int)<4:=by omega
     obtain⟨p,hp⟩:∃ p:Nat,i / 16=p:=⟨_,rfl⟩
     obtain⟨r,hr⟩:∃ r:Nat,i%16=r:=⟨_,rfl⟩
     obtain⟨s,hs⟩:∃ s:Nat,r*4=s:=⟨_,rfl⟩
     have hpl:p<4:=by have:=HI.out;omega
     rw[hp,hr,hs]at HDO;obtain⟨z,hz⟩:∃ z,pN e p=z:=⟨_,rfl⟩
     have hzl:z<18446744073709551616:=by rw[<- hz];exact pN_lt _ _
     rw[hz]at HDO;have hcz:wr.cell? ⟨w.heap.size+1,p,none⟩=some (.int .u64 (z:Nat)):=(cell_of_row _ _ p _ _ _ H.out.r1).trans (by rw[pw_ar,ar_at _ _ _ _ hpl,hz]);obtain⟨g,hg⟩:∃ g,e / 16^i%16=g:=⟨_,rfl⟩
     have hg16:g<16:=by rw[<- hg];exact Nat.mod_lt _ (by omega)
     have hzs:(z:Int) / 2^s=((z / 2^s:Nat):Int):=by push_cast;rfl
     have hzsl:z / 2^s<18446744073709551616:=Nat.lt_of_le_of_lt (Nat.div_le_self _ _) hzl;have han:=and_15 (z / 2^s) hzsl;rw[HDO.out,hg]at han;rw[hg]at HD;have f1:(i:Int).tdiv 16=(p:Int):=by rw[Int.tdiv_eq_ediv_of_nonneg hi0];omega
     have f2:(i:Int).tmod 16=(r:Int):=by rw[Int.tmod_eq_emod_of_nonneg hi0];omega
     have f1':(i:Int) / 16=(p:Int):=by omega
     have f2':(i:Int)%16=(r:Int):=by omega
     have f3:(r:Int)*4=(s:Int):=by omega
     have f4:IntKind.i64.wrap (p:Int)=(p:Int):=by rw[IntKind.wrap_i64];omega
     have f5:IntKind.i64.wrap (r:Int)=(r:Int):=by rw[IntKind.wrap_i64];omega
     have f6:IntKind.i64.wrap (s:Int)=(s:Int):=by rw[IntKind.wrap_i64];omega
     have hp0:(0:Int)<=p:=by omega
     have hp4:(p:Int)<4:=by omega
     have hs0:(0:Int)<=s:=by omega
     have hs64:(s:Int)<64:=by omega
     have hz0:(0:Int)<=z:=by omega
     obtain⟨zs,hzse⟩:∃ zs,z / 2^s=zs:=⟨_,rfl⟩
     rw[hzse]at hzs han hzsl;have hzz:IntKind.u64.wrap ((z:Int) / 2^s)=(zs:Int):=by rw[hzs,IntKind.wrap_u64];omega
     have HN1:=Lib.hid (And.intro HI.out hg16);clear hp hr hs hz hg hzse hzsl hpl HDO hzl hg16;simp only[Int.cast_ofNat_Int]
     go_wp2_with fail
     have HQG:=Lib.hid (HQ.out g HN1.out.2);have hxl:=pwq_lt HO.out.2.1 a (d*2^4);have hyl:=pwq_lt HO.out.2.1 a g;have HT:=Lib.hid (CX.times (w:=w) (F:=F) (a:=a) (e:=e) (V:=V) (O:=O) (q:=q) (x0:=pwq m a (d*2^4)) hxl hyl HO.out.2.2.1 ((mnt_pwq HO.out.1 HO.out.2.1 a (d*2^4) g).trans (by rw[show d*2^4+g=e / 16^i from HD.out])));obtain⟨x,hx⟩:∃ x,pwq m a (d*2^4)=x:=⟨_,rfl⟩
     obtain⟨x2,hx2⟩:∃ x2,pwq m a g=x2:=⟨_,rfl⟩
     obtain⟨y,hy⟩:∃ y,pwq m a (e / 16^i)=y:=⟨_,rfl⟩
     rw[hx]at H HT;rw[hx2]at HT HQG;rw[hy]at HT;have HY:=Lib.hid hy;clear hx hx2 hy hxl hyl;refine region_quiet_tail 6 (CX w F m a e V O q x) (by kernel_rfl) (by kernel_rfl) (H.out.drew) ?_;simp only[List.take_succ_cons,List.take_zero,List.drop_succ_cons,List.drop_zero]
     with_reducible refine q_val (.pointer (some ⟨F,0,none⟩)) (by kernel_rfl) (fun _ _=>by kernel_rfl) ?_
     with_reducible refine q_load 24 (.tmp 8) (.pointer (some ⟨O,0,none⟩)) (.agg (pw x)) rfl (by kernel_rfl) (by kernel_rfl) (fun _ c=>ld_pw c.rO) ?_
     with_reducible refine q_val (.int .u64 (g:Nat)) (by kernel_rfl) (fun _ _=>by kernel_rfl) ?_
     with_reducible refine q_sem2 (Instr.indexAt 115 (.pointer (some ⟨V,0,none⟩)) (.int .u64 (g:Nat))) (.pointer (some ⟨V,g*4,none⟩)) (by kernel_rfl) (by kernel_rfl) (fun w' _=>ix_tabu V g HN1.out.2 w') ?_
     with_reducible refine q_load 24 (.tmp 44) (.pointer (some ⟨V,g*4,none⟩)) (.agg (pw x2)) rfl (by kernel_rfl) (by kernel_rfl) (fun _ c=>(ld_tab c.rV g HN1.out.2).trans (by rw[HQG.out])) ?_
     with_reducible refine q_call 87 #[.pointer (some ⟨F,0,none⟩),.agg (pw x),.agg (pw x2)] (.agg (pw y)) (by kernel_rfl) (fun _=>by kernel_rfl) (HT.out) ?_
     with_reducible refine wpQuiet_nil ?_
     intro wx hC;have HG:=Lib.hid hC;clear hC H HT;simp only[Act.put,List.setIfInBounds_toArray,List.set_cons_succ,List.set_cons_zero]
     go_wp2_with (refine wpList_store_row rfl 24 _ _ rfl (O) (pw y) rfl rfl 24 (pw x) (by exact HG.out.rO) (by rw[pw_size];exact infoW4) (by first | rfl | (rw[pw_size];rfl) | (rw[pw_size,pw_size])) (pw_one _) ?_)
     go_roundw
     case rel=>exact⟨i,by have:=HN1.out.1;omega,by go_num,Lib.hid (by rw[HY.out];exact HG.out.put y)⟩
     case measure=>first | (simp[intOf];done) | (simp[intOf];omega)
  ·obtain rfl:j=0:=by omega
   have hxl:=pwq_lt HO.out.2.1 a e;have HT:=Lib.hid (CX.times (w:=w) (F:=F) (a:=a) (e:=e) (V:=V) (O:=O) (q:=q) (x0:=pwq m a e) hxl HO.out.2.1 HO.out.2.2.1 (pwq_out HO.out.1 HO.out.2.1 a e));have H5:=Lib.hid (show CX w F m a e V O q (pwq m a e) wr from by have h:=H.out;rwa [Nat.pow_zero,Nat.div_one]at h);obtain⟨x,hx⟩:∃ x,pwq m a e=x:=⟨_,rfl⟩
   obtain⟨y,hy⟩:∃ y,a^e%m=y:=⟨_,rfl⟩
   rw[hx]at H5 HT;rw[hy]at HT;have HY:=Lib.hid hy;clear hx hy hxl H hj h0;rw[show(((0:Nat):Int) - 1)=-1 from rfl]
   go_wp2_with fail
   refine region_quiet_tail 4 (CX w F m a e V O q x) (by kernel_rfl) (by kernel_rfl) (H5.out.drew) ?_;simp only[List.take_succ_cons,List.take_zero,List.drop_succ_cons,List.drop_zero]
   with_reducible refine q_val (.pointer (some ⟨F,0,none⟩)) (by kernel_rfl) (fun _ _=>by kernel_rfl) ?_
   with_reducible refine q_load 24 (.tmp 8) (.pointer (some ⟨O,0,none⟩)) (.agg (pw x)) rfl (by kernel_rfl) (by kernel_rfl) (fun _ c=>ld_pw c.rO) ?_
   with_reducible refine q_call 70 #[.int .u64 (1:Nat)] (.agg (pw 1)) (by kernel_rfl) (fun _=>by kernel_rfl) (fun wx c=>(of_wv 1 (by omega) wx).mono fun e w' hh=>⟨hh.1,c.below hh.2⟩) ?_
   with_reducible refine q_call 87 #[.pointer (some ⟨F,0,none⟩),.agg (pw x),.agg (pw 1)] (.agg (pw y)) (by kernel_rfl) (fun _=>by kernel_rfl) (HT.out) ?_
   with_reducible refine wpQuiet_nil ?_
   intro wx hC;have HG:=Lib.hid hC;clear hC H5 HT;simp only[Act.put,List.setIfInBounds_toArray,List.set_cons_succ,List.set_cons_zero]
   go_wp2_with (refine wpList_store_row rfl 24 _ _ rfl (w.heap.size+1+1) (pw y) rfl rfl 24 (#[.int .u64 0,.int .u64 0,.int .u64 0,.int .u64 0]) (by exact HG.out.r2) (by rw[pw_size];exact infoW4) (by first | rfl | (rw[pw_size];rfl) | (rw[pw_size,pw_size])) (pw_one _) ?_)
   (try simp only[Act.put])
   refine bodyPost_ret (v:=.agg (pw y)) (results_cell_row (p:=6) rfl _ _ (w.heap.size+1+1) 24 (pw y) (0,0) _ rfl (setRow_heap _ _ _ _ _ _ (by exact HG.out.r2)) Tryz.underlying24 rfl (by rw[pw_size];exact infoW4)) rfl ⟨by rw[HY.out],below_setRow HG.out.old (by omega) _⟩
open Go.RowKit
theorem CW.rowed2{w wx:World}{F m a g:Nat}{cs:Array Value}(c:CW w F m [(w.heap.size+1,#[.int .u64 0,.int .u64 0,.int .u64 0,.int .u64 0]),(w.heap.size,pw a)] wx)(hg:w.heap.size+2<=g):CW w F m [(w.heap.size+1,#[.int .u64 0,.int .u64 0,.int .u64 0,.int .u64 0]),(w.heap.size,pw a)] (wx.setRow g cs):=by
 have hF:=c.hF;refine⟨below_setRow c.old (by omega) _,fld_row c.fld (by omega),hF,fun p hp=>(setRow_other _ _ _ _ ?_).trans (c.rows p hp)⟩;simp only[List.mem_cons,List.not_mem_nil,or_false]at hp;rcases hp with rfl | rfl
 ·show w.heap.size+1≠g;omega
 ·show w.heap.size≠g;omega
theorem CW.high2{w wx:World}{F m a:Nat}(c:CW w F m [(w.heap.size+1,#[.int .u64 0,.int .u64 0,.int .u64 0,.int .u64 0]),(w.heap.size,pw a)] wx):w.heap.size+2<=wx.heap.size:=(Array.getElem?_eq_some_iff.1 (c.is (w.heap.size+1) (#[.int .u64 0,.int .u64 0,.int .u64 0,.int .u64 0]) (by simp))).1
theorem res_cell_tmp{P:Program}{fn:Func}{p u:Tmp}{ty:TypeId}{vb:Value}(h:fn.results=#[.cell p ty,.tmp u])(tmps:Array Value)(w:World)(g:Nat)(t:TypeId)(cs:Array Value)(fr:Nat × Nat)(d:TypeDesc)
  (hp:tmps.getD p undef=.pointer (some ⟨g,0,none⟩)) (hb:tmps.getD u undef=vb) (hg:w.heap[g]?=some (.cells cs t fr))
  (hu:P.underlying ty=some d) (hd:(match d with | .struct _ | .array _ _=>true | _=>false)=true) (hi:(P.info? ty).map (·.size)=some cs.size) :
  (results fn tmps).run P w=.ok (.tuple #[.agg cs,vb]) w:=by
 have hp':tmps[p]?.getD undef=.pointer (some ⟨g,0,none⟩):=by simpa using hp
 have hb':tmps[u]?.getD undef=vb:=by simpa using hb
 simp[results,h,hp',hb',asAddr,run_loadVar_row w g t ty cs fr d hg hu hd hi]
theorem less2{m:Nat}(h1:1<m)(hm:m<2^256):pw (m+(2^256 - 2))=pw (m - 2):=pw_congr (by omega)
-- WHAT Inv COMES TO.
theorem finv_any(F m n:Nat)(ha:n<2^256)(w:World)(hF:FldAt w F m):Calls Tryz.prog 81 #[.pointer (some ⟨F,0,none⟩),.agg (pw n)] w fun e w'=>e=.returned (.tuple #[.agg (pw (if n*(n^(m - 2)%m)%m=1 then n^(m - 2)%m else 0)),.bool (decide (n*(n^(m - 2)%m)%m=1))])/\Below w.heap.size w w':=by
 have H0:=Lib.hid (CW.one hF n);have HO:=Lib.hid (And.intro hF.odd (And.intro hF.big hF.lt));have HEX:=Lib.hid (fun wx (c:CW w F m [(w.heap.size+1,#[.int .u64 0,.int .u64 0,.int .u64 0,.int .u64 0]),(w.heap.size,pw n)] wx)=>fexp_any F m n (m - 2) ha (by have:=hF.lt;omega) wx c.fld);have HSB:=Lib.hid (fun wx=>sub_pw m 2 (by omega) wx);rw[less2 hF.big hF.lt]at HSB;have hil:n^(m - 2)%m<m:=Nat.mod_lt _ (by have:=hF.big;omega);obtain⟨v,hv⟩:∃ v,n^(m - 2)%m=v:=⟨_,rfl⟩
 rw[hv]at HEX hil |-
 obtain⟨u,hu⟩:∃ u,n*v%m=u:=⟨_,rfl⟩
 have HUL:=Lib.hid (show u<2^256 from by rw[<- hu];exact Nat.lt_trans (Nat.mod_lt _ (by have:=hF.big;omega)) hF.lt);have HU:=Lib.hid hu;rw[hu];have HN:=Lib.hid (And.intro ha (Nat.lt_trans hil hF.lt));clear hF ha hil hv hu;go_enter Tryz.func81,Tryz.ntmps81
 go_wp2_with fail
 refine region_tie (CW w F m [(w.heap.size+1,#[.int .u64 0,.int .u64 0,.int .u64 0,.int .u64 0]),(w.heap.size,pw n)]) (fun i s wx=>match i with | 0=>s 7=(.pointer (some ⟨F,0,none⟩)) | 1=>s 8=(.agg (pw n)) | 2=>s 9=(.pointer (some ⟨F,0,none⟩)) | 3=>s 10=(.pointer (some ⟨F,0,none⟩)) | 4=>s 11=(.pointer (some ⟨F,0,none⟩)) | 5=>s 12=(.agg (pw m)) | 6=>s 13=(.agg (pw 2)) | 7=>s 14=(.agg (pw (m - 2))) | 8=>s 15=(.agg (pw v)) | 9=>∃ D,s 6=.pointer (some ⟨D,0,none⟩)/\(w.heap.size+2)<=D/\∃ cs:Array Value,wx.heap[D]?=some (.cells cs 24 (0,0))/\cs.size=4 | 10=>∃ D,s 6=.pointer (some ⟨D,0,none⟩)/\(w.heap.size+2)<=D/\wx.heap[D]?=some (.cells (FW v 24) 24 (0,0)) | _=>True) (RT (w.heap.size+2) (FW v)) (fun i=>match i with | 0=>[7] | 1=>[8] | 2=>[9] | 3=>[10] | 4=>[11] | 5=>[12] | 6=>[13] | 7=>[14] | 8=>[15] | 9=>[6] | 10=>[6] | _=>[]) (fun i=>i) (by kernel_rfl) (by kernel_rfl) H0.out.drew ?_ ?_ ?_ ?_
 ·intro i s s' wx he hp
  match i,he,hp with
  | 0,he,hp=>exact(he 7 (by simp)).symm.trans hp
  | 1,he,hp=>exact(he 8 (by simp)).symm.trans hp
  | 2,he,hp=>exact(he 9 (by simp)).symm.trans hp
  | 3,he,hp=>exact(he 10 (by simp)).symm.trans hp
  | 4,he,hp=>exact(he 11 (by simp)).symm.trans hp
  | 5,he,hp=>exact(he 12 (by simp)).symm.trans hp
  | 6,he,hp=>exact(he 13 (by simp)).symm.trans hp
  | 7,he,hp=>exact(he 14 (by simp)).symm.trans hp
  | 8,he,hp=>exact(he 15 (by simp)).symm.trans hp
  | 9,he,hp=>obtain⟨D,h1,h2⟩:=hp;exact⟨D,(he 6 (by simp)).symm.trans h1,h2⟩
  | 10,he,hp=>obtain⟨D,h1,h2⟩:=hp;exact⟨D,(he 6 (by simp)).symm.trans h1,h2⟩
  | _+11,_,_=>trivial
 ·intro i s wa wb hR hp
  match i,hp with
  | 0,hp=>exact hp
  | 1,hp=>exact hp
  | 2,hp=>exact hp
  | 3,hp=>exact hp
  | 4,hp=>exact hp
  | 5,hp=>exact hp
  | 6,hp=>exact hp
  | 7,hp=>exact hp
  | 8,hp=>exact hp
  | 9,hp=>obtain⟨D,h1,h2,cs,h3,h4⟩:=hp;obtain⟨cs',h5,h6⟩:=hR.shape _ _ _ _ h3;exact⟨D,h1,h2,cs',h5,h6.trans h4⟩
  | 10,hp=>obtain⟨D,h1,h2,h3⟩:=hp;exact⟨D,h1,h2,hR.keep _ _ _ h3⟩
  | _+11,_=>trivial
 ·refine⟨?_,?_,?_,?_,?_,?_,?_,?_,?_,?_,?_,trivial⟩
  ·intro a wx hC hsz hK
   have h0:a.tmps.getD 0 undef=(.pointer (some ⟨F,0,none⟩)):=hK.1 0 (by kernel_rfl);exact tt_val ((.pointer (some ⟨F,0,none⟩))) (by kernel_rfl) (by rw[<- h0];kernel_rfl) hC (slots_put _ _ _ (by rw[hsz];exact of_decide_eq_true (by kernel_rfl))) (RT.refl _ _ _)
  ·intro a wx hC hsz hK
   have h0:a.tmps.getD 3 undef=(.pointer (some ⟨w.heap.size,0,none⟩)):=hK.1 3 (by kernel_rfl);exact tt_load 24 (.tmp 3) ((.pointer (some ⟨w.heap.size,0,none⟩))) ((.agg (pw n))) rfl (by kernel_rfl) h0 (ld_pw (hC.is _ _ (by simp))) hC (slots_put _ _ _ (by rw[hsz];exact of_decide_eq_true (by kernel_rfl))) (RT.refl _ _ _)
  ·intro a wx hC hsz hK
   have h0:a.tmps.getD 0 undef=(.pointer (some ⟨F,0,none⟩)):=hK.1 0 (by kernel_rfl);exact tt_val ((.pointer (some ⟨F,0,none⟩))) (by kernel_rfl) (by rw[<- h0];kernel_rfl) hC (slots_put _ _ _ (by rw[hsz];exact of_decide_eq_true (by kernel_rfl))) (RT.refl _ _ _)
  ·intro a wx hC hsz hK
   have h0:a.tmps.getD 9 undef=(.pointer (some ⟨F,0,none⟩)):=hK.2 ⟨2,.data⟩ (by simp) rfl _ rfl;exact tt_val (.pointer (some ⟨F,0,none⟩)) (by kernel_rfl) (run_nil (.tmp 9) _ rfl (by rw[<- h0];kernel_rfl)) hC (slots_put _ _ _ (by rw[hsz];exact of_decide_eq_true (by kernel_rfl))) (RT.refl _ _ _)
  ·intro a wx hC hsz hK
   have h0:a.tmps.getD 10 undef=(.pointer (some ⟨F,0,none⟩)):=hK.2 ⟨3,.data⟩ (by simp) rfl _ rfl;refine tt_v (Instr.fieldAt 103 (a.tmps.getD 10 undef) 0) ((.pointer (some ⟨F,0,none⟩))) (by kernel_rfl) (by kernel_rfl) ?_ hC (slots_put _ _ _ (by rw[hsz];exact of_decide_eq_true (by kernel_rfl))) (RT.refl _ _ _);rw[h0];exact fld_at F wx
  ·intro a wx hC hsz hK
   have h0:a.tmps.getD 11 undef=(.pointer (some ⟨F,0,none⟩)):=hK.2 ⟨4,.data⟩ (by simp) rfl _ rfl;exact tt_load 24 (.tmp 11) ((.pointer (some ⟨F,0,none⟩))) ((.agg (pw m))) rfl (by kernel_rfl) h0 (ld_m hC.fld) hC (slots_put _ _ _ (by rw[hsz];exact of_decide_eq_true (by kernel_rfl))) (RT.refl _ _ _)
  ·intro a wx hC hsz hK
   refine tt_call 70 #[(.int .u64 (2:Nat))] (by kernel_rfl) (by kernel_rfl) ?_;exact(of_wv 2 (by omega) wx).mono fun e w' hh=>⟨_,hh.1,hC.below hh.2,(slots_put _ _ _ (by rw[hsz];exact of_decide_eq_true (by kernel_rfl))),RT.of hC.high2 hh.2⟩
  ·intro a wx hC hsz hK
   have h0:a.tmps.getD 12 undef=(.agg (pw m)):=hK.2 ⟨5,.data⟩ (by simp) rfl _ rfl;have h1:a.tmps.getD 13 undef=(.agg (pw 2)):=hK.2 ⟨6,.data⟩ (by simp) rfl _ rfl;refine tt_call 98 #[a.tmps.getD 12 undef,a.tmps.getD 13 undef] (by kernel_rfl) (by kernel_rfl) ?_;rw[h0,h1];exact(HSB.out wx).mono fun e w' hh=>⟨_,hh.1,hC.below hh.2,(slots_put _ _ _ (by rw[hsz];exact of_decide_eq_true (by kernel_rfl))),RT.of hC.high2 hh.2⟩
  ·intro a wx hC hsz hK
   have h0:a.tmps.getD 7 undef=(.pointer (some ⟨F,0,none⟩)):=hK.2 ⟨0,.data⟩ (by simp) rfl _ rfl;have h1:a.tmps.getD 8 undef=(.agg (pw n)):=hK.2 ⟨1,.data⟩ (by simp) rfl _ rfl;have h2:a.tmps.getD 14 undef=(.agg (pw (m - 2))):=hK.2 ⟨7,.data⟩ (by simp) rfl _ rfl;refine tt_call 71 #[a.tmps.getD 7 undef,a.tmps.getD 8 undef,a.tmps.getD 14 undef] (by kernel_rfl) (by kernel_rfl) ?_;rw[h0,h1,h2];exact(HEX.out wx hC).mono fun e w' hh=>⟨_,hh.1,hC.below hh.2,(slots_put _ _ _ (by rw[hsz];exact of_decide_eq_true (by kernel_rfl))),RT.of hC.high2 hh.2⟩
  ·intro a wx hC hsz hK
   exact tt_new (.pointer (some ⟨wx.heap.size,0,none⟩)) (by kernel_rfl) (by kernel_rfl) (hC.below ((Below.refl _ _).alloc (Nat.le_refl _) _)) ⟨_,(slots_put _ _ _ (by rw[hsz];exact of_decide_eq_true (by kernel_rfl))),hC.high2,#[.int .u64 0,.int .u64 0,.int .u64 0,.int .u64 0],heap_alloc_new _ _,rfl⟩ (RT.of hC.high2 ((Below.refl _ _).alloc (Nat.le_refl _) _))
  ·intro a wx hC hsz hK
   obtain⟨D,h1,h2,cs,h3,h4⟩:=hK.2 ⟨9,.data⟩ (by simp) rfl _ rfl;have h0:a.tmps.getD 15 undef=(.agg (pw v)):=hK.2 ⟨8,.data⟩ (by simp) rfl _ rfl;exact tt_store (by kernel_rfl) rfl (run_store 24 (.tmp 6) (.tmp 15) _ _ rfl h1 h0 (store_w h4 h3)) (hC.rowed2 h2) ⟨D,h1,h2,setRow_heap _ _ _ _ _ _ h3⟩ (RT.row h2 h3 (by rw[h4];rfl))
 intro f1 w5 hC hf1;obtain⟨E,s6,hE,hrE⟩:=hf1 10 _ rfl;have H2:=Lib.hid (show CW w F m [(E,pw v),(w.heap.size+1,#[.int .u64 0,.int .u64 0,.int .u64 0,.int .u64 0]),(w.heap.size,pw n)] w5 from⟨hC.old,hC.fld,hC.hF,fun p hp=>by
  rcases List.mem_cons.1 hp with rfl | hp
  ·exact hrE
  ·exact hC.rows p hp⟩)
 have HE:=Lib.hid hE;clear hC hE hrE H0 HSB HEX;generalize hAct:putAll _ _ _=G at *;have s0:G.tmps.getD 0 undef=.pointer (some ⟨F,0,none⟩):=by subst hAct;kernel_rfl
 have s3:G.tmps.getD 3 undef=.pointer (some ⟨w.heap.size,0,none⟩):=by subst hAct;kernel_rfl
 have s4:G.tmps.getD 4 undef=.pointer (some ⟨w.heap.size+1,0,none⟩):=by subst hAct;kernel_rfl
 have s5:G.tmps.getD 5 undef=.bool false:=by subst hAct;kernel_rfl
 have s6':G.tmps.getD 6 undef=.pointer (some ⟨E,0,none⟩):=s6;have hsz:G.tmps.size=24:=by rw[<- hAct,putAll_size];rfl
 have hdf:G.defers=[]:=by subst hAct;kernel_rfl
 clear hAct s6 hf1;obtain⟨u1,t1⟩:∃ u,G.tmps.getD 1 undef=u:=⟨_,rfl⟩
 obtain⟨u2,t2⟩:∃ u,G.tmps.getD 2 undef=u:=⟨_,rfl⟩
 obtain⟨u7,t7⟩:∃ u,G.tmps.getD 7 undef=u:=⟨_,rfl⟩
 obtain⟨u8,t8⟩:∃ u,G.tmps.getD 8 undef=u:=⟨_,rfl⟩
 obtain⟨u9,t9⟩:∃ u,G.tmps.getD 9 undef=u:=⟨_,rfl⟩
 obtain⟨u10,t10⟩:∃ u,G.tmps.getD 10 undef=u:=⟨_,rfl⟩
 obtain⟨u11,t11⟩:∃ u,G.tmps.getD 11 undef=u:=⟨_,rfl⟩
 obtain⟨u12,t12⟩:∃ u,G.tmps.getD 12 undef=u:=⟨_,rfl⟩
 obtain⟨u13,t13⟩:∃ u,G.tmps.getD 13 undef=u:=⟨_,rfl⟩
 obtain⟨u14,t14⟩:∃ u,G.tmps.getD 14 undef=u:=⟨_,rfl⟩
 obtain⟨u15,t15⟩:∃ u,G.tmps.getD 15 undef=u:=⟨_,rfl⟩
 obtain⟨u16,t16⟩:∃ u,G.tmps.getD 16 undef=u:=⟨_,rfl⟩
 obtain⟨u17,t17⟩:∃ u,G.tmps.getD 17 undef=u:=⟨_,rfl⟩
 obtain⟨u18,t18⟩:∃ u,G.tmps.getD 18 undef=u:=⟨_,rfl⟩
 obtain⟨u19,t19⟩:∃ u,G.tmps.getD 19 undef=u:=⟨_,rfl⟩
 obtain⟨u20,t20⟩:∃ u,G.tmps.getD 20 undef=u:=⟨_,rfl⟩
 obtain⟨u21,t21⟩:∃ u,G.tmps.getD 21 undef=u:=⟨_,rfl⟩
 obtain⟨u22,t22⟩:∃ u,G.tmps.getD 22 undef=u:=⟨_,rfl⟩
 obtain⟨u23,t23⟩:∃ u,G.tmps.getD 23 undef=u:=⟨_,rfl⟩
 obtain⟨tm,df⟩:=G;simp only at *;have hLt:=arr_lit4 tm;rw[hsz]at hLt;simp only[List.range,List.range.loop,List.map]at hLt;rw[s0,t1,t2,s3,s4,s5,s6',t7,t8,t9,t10,t11,t12,t13,t14,t15,t16,t17,t18,t19,t20,t21,t22,t23]at hLt;subst hLt hdf;clear s0 t1 t2 s3 s4 s5 s6' t7 t8 t9 t10 t11 t12 t13 t14 t15 t16 t17 t18 t19 t20 t21 t22 t23 hsz;have HML:=Lib.hid (fun wx (c:CW w F m [(E,pw v),(w.heap.size+1,#[.int .u64 0,.int .u64 0,.int .u64 0,.int .u64 0]),(w.heap.size,pw n)] wx)=>fmul_any F m n v HN.out.1 HN.out.2 wx c.fld);rw[HU.out]at HML;have HNE:=Lib.hid (fun wx=>new_run u 1 HUL.out (by omega) wx)
 go_upto_region 2 with(fail)
 by_cases h1:u=1
 ·rw[show(!decide (u=1))=false from by rw[h1];rfl]at HNE
  refine q_region (CW w F m [(E,pw v),(w.heap.size+1,#[.int .u64 0,.int .u64 0,.int .u64 0,.int .u64 0]),(w.heap.size,pw n)]) H2.out ?_
  with_reducible refine q_val (.pointer (some ⟨F,0,none⟩)) (by kernel_rfl) (fun _ _=>by kernel_rfl) ?_
  with_reducible refine q_load 24 (.tmp 3) (.pointer (some ⟨w.heap.size,0,none⟩)) (.agg (pw n)) rfl (by kernel_rfl) (by kernel_rfl) (fun _ c=>ld_pw (c.is _ _ (by simp))) ?_
  with_reducible refine q_load 24 (.tmp 6) (.pointer (some ⟨E,0,none⟩)) (.agg (pw v)) rfl (by kernel_rfl) (by kernel_rfl) (fun _ c=>ld_pw (c.is _ _ (by simp))) ?_
  with_reducible refine q_call 72 #[.pointer (some ⟨F,0,none⟩),.agg (pw n),.agg (pw v)] (.agg (pw u)) (by kernel_rfl) (fun _=>by kernel_rfl) (CW.calls (fun wx hf=>fmul_any F m n v HN.out.1 HN.out.2 wx hf |>.mono fun e w' hh=>⟨by rw[hh.1,HU.out],hh.2⟩)) ?_
  with_reducible refine q_call 70 #[.int .u64 (1:Nat)] (.agg (pw 1)) (by kernel_rfl) (fun _=>by kernel_rfl) (CW.calls (fun wx _=>of_wv 1 (by omega) wx)) ?_
  with_reducible refine q_bin .neq 24 _ _ 24 (.agg (pw u)) (.agg (pw 1)) (.bool false) rfl (by kernel_rfl) (by kernel_rfl) (by kernel_rfl) (fun _=>by kernel_rfl) (fun w'=>HNE.out w') ?_
  with_reducible refine wpQuiet_nil ?_
  intro wx hC;have HC:=Lib.hid hC;clear hC H2;simp only[Act.put,List.setIfInBounds_toArray,List.set_cons_succ,List.set_cons_zero]
  go_wp2_with (first | (refine wpList_ld rfl 24 _ rfl (.pointer (some ⟨E,0,none⟩)) (.agg (pw v)) rfl (ld_pw (by exact HC.out.is _ _ (by simp))) ?_) | (refine wpList_store_row rfl 24 _ _ rfl (w.heap.size+1) (pw v) rfl rfl 24 (#[.int .u64 0,.int .u64 0,.int .u64 0,.int .u64 0]) (by exact HC.out.is _ _ (by simp)) (by rw[pw_size];exact infoW4) (by first | rfl | (rw[pw_size];rfl) | (rw[pw_size,pw_size])) (pw_one _) ?_))
  refine bodyPost_ret (v:=.tuple #[.agg (pw v),.bool true]) (res_cell_tmp (p:=4) (u:=5) (vb:=.bool true) rfl _ _ (w.heap.size+1) 24 (pw v) (0,0) _ rfl rfl (setRow_heap _ _ _ _ _ _ (HC.out.is (w.heap.size+1) (#[.int .u64 0,.int .u64 0,.int .u64 0,.int .u64 0]) (by simp))) Tryz.underlying24 rfl (by rw[pw_size];exact infoW4)) rfl ⟨rfl,below_setRow HC.out.old (by omega) _⟩
 ·rw[show(!decide (u=1))=true from by simp[h1]]at HNE
  refine q_region (CW w F m [(E,pw v),(w.heap.size+1,#[.int .u64 0,.int .u64 0,.int .u64 0,.int .u64 0]),(w.heap.size,pw n)]) H2.out ?_
  with_reducible refine q_val (.pointer (some ⟨F,0,none⟩)) (by kernel_rfl) (fun _ _=>by kernel_rfl) ?_
  with_reducible refine q_load 24 (.tmp 3) (.pointer (some ⟨w.heap.size,0,none⟩)) (.agg (pw n)) rfl (by kernel_rfl) (by kernel_rfl) (fun _ c=>ld_pw (c.is _ _ (by simp))) ?_
  with_reducible refine q_load 24 (.tmp 6) (.pointer (some ⟨E,0,none⟩)) (.agg (pw v)) rfl (by kernel_rfl) (by kernel_rfl) (fun _ c=>ld_pw (c.is _ _ (by simp))) ?_
  with_reducible refine q_call 72 #[.pointer (some ⟨F,0,none⟩),.agg (pw n),.agg (pw v)] (.agg (pw u)) (by kernel_rfl) (fun _=>by kernel_rfl) (CW.calls (fun wx hf=>fmul_any F m n v HN.out.1 HN.out.2 wx hf |>.mono fun e w' hh=>⟨by rw[hh.1,HU.out],hh.2⟩)) ?_
  with_reducible refine q_call 70 #[.int .u64 (1:Nat)] (.agg (pw 1)) (by kernel_rfl) (fun _=>by kernel_rfl) (CW.calls (fun wx _=>of_wv 1 (by omega) wx)) ?_
  with_reducible refine q_bin .neq 24 _ _ 24 (.agg (pw u)) (.agg (pw 1)) (.bool true) rfl (by kernel_rfl) (by kernel_rfl) (by kernel_rfl) (fun _=>by kernel_rfl) (fun w'=>HNE.out w') ?_
  with_reducible refine wpQuiet_nil ?_
  intro wx hC;have HC:=Lib.hid hC;clear hC H2;simp only[Act.put,List.setIfInBounds_toArray,List.set_cons_succ,List.set_cons_zero]
  go_wp2_with (refine wpList_store_row rfl 24 _ _ rfl (w.heap.size+1) (pw 0) rfl rfl 24 (#[.int .u64 0,.int .u64 0,.int .u64 0,.int .u64 0]) (by exact HC.out.is _ _ (by simp)) (by rw[pw_size];exact infoW4) (by first | rfl | (rw[pw_size];rfl) | (rw[pw_size,pw_size])) (pw_one _) ?_)
  refine bodyPost_ret (v:=.tuple #[.agg (pw 0),.bool false]) (res_cell_tmp (p:=4) (u:=5) (vb:=.bool false) rfl _ _ (w.heap.size+1) 24 (pw 0) (0,0) _ rfl rfl (setRow_heap _ _ _ _ _ _ (HC.out.is (w.heap.size+1) (#[.int .u64 0,.int .u64 0,.int .u64 0,.int .u64 0]) (by simp))) Tryz.underlying24 rfl (by rw[pw_size];exact infoW4)) rfl ⟨rfl,below_setRow HC.out.old (by omega) _⟩
end Go.Proofs.YtfmpjjhdocejiaaGreat
namespace Go.Proofs.YtfmpjjhdocejiaaGreat.Sy
open Go.RowKit
def sFld(m:Nat):SV:=.ap (.i .u64 (frw m 0:Nat)) (.ap (.i .u64 (frw m 1:Nat)) (.ap (.i .u64 (frw m 2:Nat)) (.ap (.i .u64 (frw m 3:Nat)) (.ap (.i .u64 (frw m 4:Nat)) (.ap (.i .u64 (frw m 5:Nat)) (.ap (.i .u64 (frw m 6:Nat)) (.ap (.i .u64 (frw m 7:Nat)) (.ap (.i .u64 (frw m 8:Nat)) .e))))))))
def isF(ext:Bool)(m:Nat)(M:Rows):SV->Option (List Ob)
 | .p g o _ z=>if o=0/\z=0 then (if ext=true/\g=0 then some []else match rowIn g M with
  | some (c,T)=>if T=103 then some [.eq c (sFld m)]else none
  | none=>none)else none
 | _=>none
structure FOk (ext:Bool) (m:Nat) (γ0:Pl) (w0:World):Prop where
 odd:m%2=1
 big:1<m
 lt:m<2^256
 at_:ext=true->FldAt w0 (γ0 0) m
theorem isF_at{ext:Bool}{m n:Nat}{M:Rows}{x:SV}{p:List Ob}{γ0 γ:Pl}{w0 wx:World}(h:isF ext m M x=some p)(hp:All p)(hf:FOk ext m γ0 w0)(hγ:∀ k,k<1->γ k=γ0 k)(hw:Below w0.heap.size w0 wx)(hL:Lies γ n M wx):∃ F,x.val γ=.pointer (some ⟨F,0,none⟩)/\FldAt wx F m:=by
 cases x <;> first | (cases h;done) | skip
 rename_i g o j z;dsimp only[isF]at h
 split at h
 ·rename_i hz
  obtain⟨rfl,rfl⟩:=hz;refine⟨γ g,by simp[SV.val,SV.sc],?_⟩
  split at h
  ·rename_i he
   rw[he.2,hγ 0 (by decide)];exact(hf.at_ he.1).below hw
  ·split at h
   ·rename_i c T hr
    split at h
    ·rename_i hT
     cases h;have hc:c=sFld m:=hp _ (.head _);have:=(hL _ (rowIn_ok hr)).1;rw[hc,hT]at this;exact⟨this,hf.odd,hf.big,hf.lt⟩
    ·cases h
   ·cases h
 ·cases h
theorem FOk.of{F m:Nat}{w0:World}(h0:FldAt w0 F m):FOk true m (fun _=>F) w0:=⟨h0.odd,h0.big,h0.lt,fun _=>h0⟩
theorem FOk.mod{ext:Bool}{m:Nat}{γ0:Pl}{w0:World}(hf:FOk ext m γ0 w0)(a:Nat):a%m<2^256:=Nat.lt_trans (Nat.mod_lt _ (by have:=hf.big;omega)) hf.lt
def fld2(ext:Bool)(m:Nat)(f:FuncId)(op:Nat->Nat->Nat):Con:=⟨f,fun _ M l=>match l with
 | [x,.w a,.w b]=>(isF ext m M x).map fun p=>(.w (op a b),p,[])
 | _=>none⟩
def fld1(ext:Bool)(m:Nat)(f:FuncId)(op:Nat->SV):Con:=⟨f,fun _ M l=>match l with
 | [x,.w a]=>(isF ext m M x).map fun p=>(op a,p,[])
 | _=>none⟩
theorem val0{γ:Pl}{x:SV}(h:x.lt 0=true):x.val γ=x.val fun _=>0:=(SV.lt_same (γ:=γ) (δ:=fun _=>0) (n:=0) (fun _ hk=>absurd hk (Nat.not_lt_zero _)) h).2.2
theorem fld2_ok{P:Program}{ext:Bool}{m:Nat}{γ0:Pl}{w0:World}{f:FuncId}{op:Nat->Nat->Nat}(hf:FOk ext m γ0 w0)(hc:∀ as_ wx,(callFunc f as_).run P wx=.ok (.enter f as_) wx)(hlt:∀ a b,op a b<2^256)
  (h:∀ F a b,a<2^256->b<2^256->∀ w,FldAt w F m->Calls P f #[.pointer (some ⟨F,0,none⟩),.agg (pw a),.agg (pw b)] w fun e w'=>e=.returned (.agg (pw (op a b)))/\Below w.heap.size w w'):ConOk P 1 γ0 w0 (fld2 ext m f op) :=
 .of hc fun n M l r p R hr hp hok=>by
  unfold fld2 at hr;dsimp only at hr
  split at hr
  ·rename_i x a b
   obtain⟨q,hx,e⟩:=Option.map_eq_some_iff.1 hr;cases e;refine⟨rfl,hlt a b,rfl,fun γ hγ wx hw hL=>?_⟩;obtain⟨F,h1,h2⟩:=isF_at hx hp hf hγ hw hL;show Calls P f #[x.val γ,_,_] wx _;rw[h1];exact h F a b (hok (.w a) (by simp)) (hok (.w b) (by simp)) wx h2
  ·cases hr
theorem fld1_ok{P:Program}{ext:Bool}{m:Nat}{γ0:Pl}{w0:World}{f:FuncId}{op:Nat->SV}(hf:FOk ext m γ0 w0)(hc:∀ as_ wx,(callFunc f as_).run P wx=.ok (.enter f as_) wx)(hlt:∀ a,(op a).ok/\(op a).lt 0=true)
  (h:∀ F a,a<2^256->∀ w,FldAt w F m->Calls P f #[.pointer (some ⟨F,0,none⟩),.agg (pw a)] w fun e w'=>e=.returned ((op a).val fun _=>0)/\Below w.heap.size w w'):ConOk P 1 γ0 w0 (fld1 ext m f op) :=
 .of hc fun n M l r p R hr hp hok=>by
  unfold fld1 at hr;dsimp only at hr
  split at hr
  ·rename_i x a
   obtain⟨q,hx,e⟩:=Option.map_eq_some_iff.1 hr;cases e;refine⟨rfl,(hlt a).1,(hlt a).2,fun γ hγ wx hw hL=>?_⟩;obtain⟨F,h1,h2⟩:=isF_at hx hp hf hγ hw hL;show Calls P f #[x.val γ,_] wx _;rw[h1,val0 (hlt a).2];exact h F a (hok (.w a) (by simp)) wx h2
  ·cases hr
def cMulF(ext:Bool)(m:Nat):Con:=fld2 ext m 72 fun a b=>a*b%m
def cAddF(ext:Bool)(m:Nat):Con:=fld2 ext m 74 fun a b=>(a+b)%m
def cSubF(ext:Bool)(m:Nat):Con:=fld2 ext m 77 fun a b=>(a%m+(m - b%m))%m
def iv(m Z:Nat):Nat:=Z^(m - 2)%m
def cNegF(ext:Bool)(m:Nat):Con:=fld1 ext m 51 fun a=>.w ((0%m+(m - a%m))%m)
def cInvF(ext:Bool)(m:Nat):Con:=fld1 ext m 81 fun a=>.tu (.w (if a*iv m a%m=1 then iv m a else 0)) (.b (eqN (a*iv m a%m) 1))
def flds(ext:Bool)(m:Nat):List Con:=[cMulF ext m,cAddF ext m,cSubF ext m,cNegF ext m,cInvF ext m]
theorem flds_ok{ext:Bool}{m:Nat}{γ0:Pl}{w0:World}(hf:FOk ext m γ0 w0):conAll Tryz.prog 1 γ0 w0 (flds ext m) :=
 ⟨fld2_ok hf (fun _ _=>by kernel_rfl) (fun _ _=>hf.mod _) fun F a b ha hb w hF=>fmul_any F m a b ha hb w hF,fld2_ok hf (fun _ _=>by kernel_rfl) (fun _ _=>hf.mod _) fun F a b ha hb w hF=>fadd_any F m a b ha hb w hF,fld2_ok hf (fun _ _=>by kernel_rfl) (fun _ _=>hf.mod _) fun F a b ha hb w hF=>fsub_any F m a b ha hb w hF,
  fld1_ok hf (fun _ _=>by kernel_rfl) (fun a=>⟨hf.mod _,rfl⟩) fun F a ha w hF=>fneg_any F m a ha w hF,
  fld1_ok hf (fun _ _=>by kernel_rfl) (fun a=>⟨⟨by
   show(if a*iv m a%m=1 then iv m a else 0)<2^256
   split
   ·exact hf.mod _
   ·decide,trivial⟩,rfl⟩) fun F a ha w hF=>finv_any F m a ha w hF,trivial⟩
/-! Types. -/
theorem w0_ok:(0:Nat)<2^256:=by decide
def tyW:Ty:=⟨24,true,4,.w 0,[]⟩
def tyJ:Ty:=⟨90,true,12,.ap (.w 0) (.ap (.w 0) (.ap (.w 0) .e)),[(0,4),(4,4),(8,4)]⟩
def tyP:Ty:=⟨26,true,9,.ap (.w 0) (.ap (.w 0) (.ap (.v (.bool false)) .e)),[(0,4),(4,4),(8,1)]⟩
def tyG:Ty:=⟨53,true,1,.ap (.v (.pointer none)) .e,[(0,1)]⟩
def tyB:Ty:=⟨4,false,1,.v (.bool false),[]⟩
def tyF:Ty:=⟨51,false,1,.v (.pointer none),[]⟩
def tyE:Ty:=⟨27,false,1,.v (.int .i64 0),[]⟩
def tyI:Ty:=⟨3,false,1,.v (.int .i64 0),[]⟩
def tyU:Ty:=⟨22,false,1,.v (.int .u64 0),[]⟩
def tyT:Ty:=⟨68,true,13,.ap (.w 0) (.ap (.ap (.w 0) (.ap (.w 0) (.ap (.v (.bool false)) .e))) .e),[(0,4),(4,9)]⟩
def tyR:Ty:=⟨70,true,12,.ap (.w 0) (.ap (.w 0) (.ap (.w 0) .e)),[(0,4),(4,4),(8,4)]⟩
def tyO:Ty:=⟨44,true,13,.ap (.w 0) (.ap (.ap (.w 0) (.ap (.w 0) (.ap (.v (.bool false)) .e))) .e),[(0,4),(4,9)]⟩
def tysC:List Ty:=[tyW,tyP,tyG,tyF,tyJ,tyB,tyE,tyI,tyU,tyT,tyR,tyO]
def tyAll(P:Program):List Ty->Prop
 | []=>True
 | y::l=>y.Good P/\tyAll P l
theorem tyAll_mem{P:Program}:∀ {l:List Ty},tyAll P l->∀ y∈l,y.Good P
 | [],_,c,h=>by cases h
 | y::l,ha,c,h=>by
  rcases List.mem_cons.1 h with rfl | h
  ·exact ha.1
  ·exact tyAll_mem ha.2 c h
theorem tysC_ok:tyAll Tryz.prog tysC :=
 ⟨⟨by kernel_rfl,by kernel_rfl,by kernel_rfl,rfl,w0_ok,fun h=>absurd rfl h⟩,⟨by kernel_rfl,by kernel_rfl,by kernel_rfl,rfl,⟨w0_ok,w0_ok,trivial,trivial⟩,fun _=>by kernel_rfl⟩,⟨by kernel_rfl,by kernel_rfl,by kernel_rfl,rfl,⟨trivial,trivial⟩,fun _=>by kernel_rfl⟩,⟨by kernel_rfl,by kernel_rfl,by kernel_rfl,rfl,trivial,fun h=>absurd rfl h⟩,
  ⟨by kernel_rfl,by kernel_rfl,by kernel_rfl,rfl,⟨w0_ok,w0_ok,w0_ok,trivial⟩,fun _=>by kernel_rfl⟩,⟨by kernel_rfl,by kernel_rfl,by kernel_rfl,rfl,trivial,fun h=>absurd rfl h⟩,⟨by kernel_rfl,by kernel_rfl,by kernel_rfl,rfl,trivial,fun h=>absurd rfl h⟩,⟨by kernel_rfl,by kernel_rfl,by kernel_rfl,rfl,trivial,fun h=>absurd rfl h⟩,⟨by kernel_rfl,by kernel_rfl,by kernel_rfl,rfl,trivial,fun h=>absurd rfl h⟩,
  ⟨by kernel_rfl,by kernel_rfl,by kernel_rfl,rfl,⟨w0_ok,⟨w0_ok,w0_ok,trivial,trivial⟩,trivial⟩,fun _=>by kernel_rfl⟩,⟨by kernel_rfl,by kernel_rfl,by kernel_rfl,rfl,⟨w0_ok,w0_ok,w0_ok,trivial⟩,fun _=>by kernel_rfl⟩,
  ⟨by kernel_rfl,by kernel_rfl,by kernel_rfl,rfl,⟨w0_ok,⟨w0_ok,w0_ok,trivial,trivial⟩,trivial⟩,fun _=>by kernel_rfl⟩,
  trivial⟩
/-! Arrays and slices. -/
def limbS:SV->Option Nat
 | .v (.int .u64 (.ofNat a))=>if a<18446744073709551616 then some a else none
 | _=>none
def bldG(T:TypeId)(l:List (Nat × SV)):Option SV:=if T=24 then match l with
 | []=>some (.w 0)
 | [(0,a)]=>(limbS a).map .w
 | [(0,a),(1,b),(2,c),(3,d)]=>match limbS a,limbS b,limbS c,limbS d with
  | some a,some b,some c,some d=>some (.w (n4 a b c d))
  | _,_,_,_=>none
 | _=>none
 else none
theorem limbS_ok{γ:Pl}{x:SV}{a:Nat}(h:limbS x=some a):x.val γ=.int .u64 (a:Nat)/\a<18446744073709551616:=by
 unfold limbS at h
 split at h
 ·split at h
  ·rename_i hk;cases h;exact⟨rfl,hk⟩
  ·cases h
 ·cases h
theorem bldG_ok{T:TypeId}{l:List (Nat × SV)}{r:SV}(h:bldG T l=some r):r.ok/\r.lt 0=true/\r.many=true/\∀ γ,Tryz.prog.built T (l.map fun x=>(x.1,x.2.val γ))=some (r.cells γ).toArray:=by
 unfold bldG at h
 split at h
 ·rename_i e
  subst e
  split at h
  ·cases h
   exact⟨w0_ok,rfl,rfl,fun γ=>by kernel_rfl⟩
  ·obtain⟨k,hk,e⟩:=Option.map_eq_some_iff.1 h
   subst e;have hlt:=(limbS_ok (γ:=fun _=>0) hk).2;refine⟨Nat.lt_trans hlt (by decide),rfl,rfl,fun γ=>?_⟩;rw[show([(0,_)]:List (Nat × SV)).map (fun x=>(x.1,x.2.val γ))=[(0,.int .u64 (k:Nat))] from congrArg (fun v=>[(0,v)]) (limbS_ok hk).1];show Tryz.prog.built 24 [(0,.int .u64 (k:Nat))]=some (pw k).toList.toArray;rw[show pw k=#[.int .u64 (k:Nat),.int .u64 0,.int .u64 0,.int .u64 0] by
    unfold pw;rw[Nat.mod_eq_of_lt hlt,Nat.div_eq_of_lt hlt,Nat.div_eq_of_lt (show k<340282366920938463463374607431768211456 by omega),Nat.div_eq_of_lt (show k<6277101735386680763835789423207666416102355444464034512896 by omega)];rfl]
   kernel_rfl
  ·split at h
   ·rename_i a b c d ka kb kc kd
    cases h;have la:=limbS_ok (γ:=fun _=>0) ka;have lb:=limbS_ok (γ:=fun _=>0) kb;have lc:=limbS_ok (γ:=fun _=>0) kc;have ld:=limbS_ok (γ:=fun _=>0) kd;refine⟨?_,rfl,rfl,fun γ=>?_⟩
    ·show n4 a b c d<2^256
     have e256:(2:Nat)^256=115792089237316195423570985008687907853269984665640564039457584007913129639936:=by decide
     rw[e256];unfold n4;omega
    ·show Tryz.prog.built 24 [(0,_),(1,_),(2,_),(3,_)]=some (pw (n4 a b c d)).toList.toArray
     rw[(limbS_ok ka).1,(limbS_ok kb).1,(limbS_ok kc).1,(limbS_ok kd).1];rw[show pw (n4 a b c d)=#[.int .u64 (a:Nat),.int .u64 (b:Nat),.int .u64 (c:Nat),.int .u64 (d:Nat)] by
      unfold pw n4;rw[show(a+18446744073709551616*b+340282366920938463463374607431768211456*c+6277101735386680763835789423207666416102355444464034512896*d)%18446744073709551616=a by omega];rw[show(a+18446744073709551616*b+340282366920938463463374607431768211456*c+6277101735386680763835789423207666416102355444464034512896*d) / 18446744073709551616%18446744073709551616=b by omega];rw[show(a+18446744073709551616*b+340282366920938463463374607431768211456*c+6277101735386680763835789423207666416102355444464034512896*d) / 340282366920938463463374607431768211456%18446744073709551616=c by omega];rw[show(a+18446744073709551616*b+340282366920938463463374607431768211456*c+6277101735386680763835789423207666416102355444464034512896*d) / 6277101735386680763835789423207666416102355444464034512896%18446744073709551616=d by omega]]
     kernel_rfl
   ·cases h
  ·cases h
 ·cases h
def sizeIn(T:TypeId):List (TypeId × Nat)->Option Nat
 | []=>none
 | p::l=>if p.1=T then some p.2 else sizeIn T l
theorem sizeIn_ok{T:TypeId}{z:Nat}:∀ {l:List (TypeId × Nat)},sizeIn T l=some z->(T,z)∈l
 | [],h=>by cases h
 | p::l,h=>by
  unfold sizeIn at h
  split at h
  ·rename_i e;cases h;subst e;exact .head _
  ·exact .tail _ (sizeIn_ok h)
def ixaG(ix:List (TypeId × Nat))(T:TypeId)(x y:SV):Option (SV × List Ob):=match x,natS y with
 | .s g o n _,some i=>match sizeIn T ix with
  | some z=>some (.p g o i z,[.ask (i<n)])
  | none=>none
 | .p g o _ 0,some i=>if T=24/\i<4 then some (.p g (o+i) 0 0,[])else none
 | _,_=>none
noncomputable def EG (base:Nat) (more:List Con) (xl:TypeId->Nat->Nat->Nat->Nat->Option (SV × List Ob)) (ix:List (TypeId × Nat)) (bs:List Bs):Env:=⟨Tryz.prog,tysC,base,fun f n M l=>conIn f more n M l,bopG,bldG,xl,ixaG ix,ix.map (·.1),bs⟩
theorem EG_ok{base:Nat}{w0:World}{more:List Con}{γ0:Pl}{xl:TypeId->Nat->Nat->Nat->Nat->Option (SV × List Ob)}{ix:List (TypeId × Nat)}{bs:List Bs}(hm:conAll Tryz.prog base γ0 w0 more)
  (hx:∀ T g o j z r p,xl T g o j z=some (r,p)->All p->r.ok/\r.lt base=true/\g<base/\∀ γ,(∀ k,k<base->γ k=γ0 k)->∀ wx,Below w0.heap.size w0 wx->(Instr.loadAt T (.pointer (some ⟨γ g,o+j*z,none⟩))).run Tryz.prog wx=.ok (r.val γ) wx)
  (hi:∀ q∈ix,∃ e,Tryz.prog.underlying q.1=some (.slice e)/\(Tryz.prog.info? e).map (·.size)=some q.2) (hbs:∀ b∈bs,b.Good Tryz.prog):(EG base more xl ix bs).Good γ0 w0:=by
 refine⟨tyAll_mem tysC_ok,fun f n M l r p R h hp hn hok hM=>?_,fun op T x y r p h hp hx hy=>bopG_ok h hp hx hy,fun T l r h _=>bldG_ok h,hx,fun T x y r p n h hp hl hx0 hy=>?_,fun T hT=>?_,hbs⟩
 ·obtain⟨c,h1,rfl,h3⟩:=conIn_ok (conAll_mem hm) h
  have:=h1.all n M l r p R h3 hp hn hok hM;exact⟨this.1,this.2.1,this.2.2.1,h1.call,this.2.2.2⟩
 ·clear hx0
  replace h:ixaG ix T x y=some (r,p):=h;unfold ixaG at h
  split at h
  ·rename_i g o n' c i hi'
   split at h
   ·rename_i z hz
    cases h;obtain⟨e,h1,h2⟩:=hi _ (sizeIn_ok hz);exact⟨trivial,hl,fun γ wx=>by
     rw[(natS_ok hi' hy).1];exact at_slice h1 h2 (hp _ (.head _)) wx⟩
   ·cases h
  ·rename_i g o j i hi'
   split at h
   ·rename_i hc
    cases h;obtain⟨rfl,hlt⟩:=hc;exact⟨trivial,hl,fun γ wx=>by
     rw[(natS_ok hi' hy).1];show(Instr.indexAt _ (.pointer (some ⟨γ g,o+j*0,none⟩)) _).run _ _=.ok (.pointer (some ⟨γ g,o+i+0*0,none⟩)) wx;rw[Nat.mul_zero,Nat.add_zero,Nat.zero_mul,Nat.add_zero];have:=at_array (g:=γ g) (o:=o) (i:=i) Tryz.underlying24 (show(Tryz.prog.info? 22).map (·.size)=some 1 by kernel_rfl) hlt wx;rwa [Nat.mul_one]at this⟩
   ·cases h
  ·cases h
 ·obtain⟨q,hq,rfl⟩:=List.mem_map.1 hT
  obtain⟨e,h1,_⟩:=hi q hq;exact⟨e,h1⟩
def noX(_:TypeId)(_ _ _ _:Nat):Option (SV × List Ob):=none
noncomputable def E1 (more:List Con) (bs:List Bs:=[]):Env:=EG 1 more noX [] bs
theorem E1s_ok{w0:World}{more:List Con}{γ0:Pl}{bs:List Bs}(hm:conAll Tryz.prog 1 γ0 w0 more)(hbs:∀ b∈bs,b.Good Tryz.prog):(E1 more bs).Good γ0 w0 :=
 EG_ok hm (fun _ _ _ _ _ _ _ h=>by cases h) (fun _ h=>by cases h) hbs
theorem E1_ok{w0:World}{more:List Con}{γ0:Pl}(hm:conAll Tryz.prog 1 γ0 w0 more):(E1 more).Good γ0 w0:=E1s_ok hm fun _ h=>by cases h
def sJ(T:Nat × Nat × Nat):SV:=.ap (.w T.1) (.ap (.w T.2.1) (.ap (.w T.2.2) .e))
def sP(x y:Nat)(n:Bool):SV:=.ap (.w x) (.ap (.w y) (.ap (.b n) .e))
def sPk(x y:Nat)(n:Bool):SV:=.ap (.w x) (.ap (.w y) (.ap (.v (.bool n)) .e))
def sG:SV:=.ap (.p 0 0 0 0) .e
end Go.Proofs.YtfmpjjhdocejiaaGreat.Sy
