/- What word.AddMod, word.MulMod come to, called with any words. (Cut to what is reached, written closely: DigS · RDM · RMods · PMods.) -/
import Derived.Test.YthnckclbeecnmaaGreatP13
import Derived.Test.YthnckclbeecnmaaGreatP1
import Derived.Test.YthnckclbeecnmaaGreatP12
import Derived.BigRegion
set_option linter.all false
set_option maxRecDepth 100000
set_option maxHeartbeats 8000000
namespace Go.Proofs.YthnckclbeecnmaaGreat
open Go.RowKit
def DS(n V:Nat)(v:Value)(w:World):Prop:=∃(b cap:Nat) (d:Nat->Nat),v=.slice (some ⟨b,0,none⟩) n cap/\Dg w b n d/\(∀ j,j<n->d j<65536)/\vd d n=V
def DR(m V:Nat)(v:Value)(w:World):Prop:=∃ nr,nr<=m+1/\DS nr V v w
def DQ(n m A D:Nat)(v:Value)(w:World):Prop:=∃ qv rv,v=.tuple #[qv,rv]/\DS n (A / D) qv w/\DR m (A%D) rv w
def RN(w w':World):Prop:=w.heap.size<=w'.heap.size/\∀(k:Nat),k<w.heap.size->w'.heap[k]?=w.heap[k]?
theorem RN.refl(w:World):RN w w:=⟨Nat.le_refl _,fun _ _=>rfl⟩
theorem RN.of{w w':World}(h:Below w.heap.size w w'):RN w w':=⟨h.size,fun k hk=>h.block k hk⟩
theorem DS.keep{n V:Nat}{v:Value}{w w':World}(hR:RN w w')(h:DS n V v w):DS n V v w':=by
 obtain⟨b,cap,d,hv,hD,h1,h2⟩:=h;exact⟨b,cap,d,hv,⟨Nat.lt_of_lt_of_le hD.1 hR.1,fun j hj=>(World.cell?_of_block (w:=w) (a:=⟨b,j,none⟩) (hR.2 b hD.1)).trans (hD.2 j hj)⟩,h1,h2⟩
theorem DR.keep{m V:Nat}{v:Value}{w w':World}(hR:RN w w')(h:DR m V v w):DR m V v w':=by
 obtain⟨nr,h1,h2⟩:=h;exact⟨nr,h1,h2.keep hR⟩
theorem DQ.keep{n m A D:Nat}{v:Value}{w w':World}(hR:RN w w')(h:DQ n m A D v w):DQ n m A D v w':=by
 obtain⟨q,r,h1,h2,h3⟩:=h;exact⟨q,r,h1,h2.keep hR,h3.keep hR⟩
theorem mk_ds{n V:Nat}{w w':World}{e:Ending}(h:MkDg n V w e w'):∃ v,e=.returned v/\Below w.heap.size w w'/\DS n V v w':=by
 obtain⟨b,cap,d,rfl,-,hD,h1,h2,hb⟩:=h;exact⟨_,rfl,hb,b,cap,d,rfl,hD,h1,h2⟩
theorem mk_dq{n m A D:Nat}{w w':World}{e:Ending}(h:DivPostR n m A D w e w'):∃ v,e=.returned v/\Below w.heap.size w w'/\DQ n m A D v w':=by
 obtain⟨Q,g,nr,cap,q,dr,rfl,hQ,hg,hl,hq,hr,h1,h2,hb⟩:=h;exact⟨_,rfl,hb,_,_,rfl,⟨Q,n,q,rfl,hQ,hq,h1⟩,nr,hl,g,cap,dr,rfl,hg,hr,h2⟩
theorem digits_ds(x:Nat)(w:World):Calls Tryz.prog 88 #[wv x] w fun e w'=>∃ v,e=.returned v/\Below w.heap.size w w'/\DS 16 (x%2^256) v w':=(digits_any x w).mono fun _ _ h=>mk_ds h
theorem divide_ds{n m A D:Nat}{a b:Value}{w:World}(hn:n<=100)(hm:m<=100)(hD:0<D)(ha:DS n A a w)(hb:DS m D b w):Calls Tryz.prog 87 #[a,b] w fun e w'=>∃ v,e=.returned v/\Below w.heap.size w w'/\DQ n m A D v w':=by
 obtain⟨ba,ca,da,rfl,hA,hal,rfl⟩:=ha;obtain⟨bb,cb,db,rfl,hB,hbl,rfl⟩:=hb;exact(divide_ref ba ca bb cb n m da db (by omega) (by omega) hal hbl hD w hA hB).mono fun _ _ h=>mk_dq h
theorem eqz_run(y:Nat)(b:Bool)(hb:decide (y%2^256=0)=b)(w:World):(binOp BinOp.eql 24 (.agg (pw y)) (.agg #[.int .u64 0,.int .u64 0,.int .u64 0,.int .u64 0])).run Tryz.prog w=.ok (.bool b) w:=by
 obtain⟨y0,y1,y2,y3,u0,u1,u2,u3,ey,ny⟩:=wv_parts y;rw[wv_pw]at ey;rw[ey];have h:∀ w,(Op.equalIn 10000 24 (.agg #[.int .u64 y0,.int .u64 y1,.int .u64 y2,.int .u64 y3]) (.agg #[.int .u64 0,.int .u64 0,.int .u64 0,.int .u64 0])).run Tryz.prog w=.ok b w:=fun w=>by
  have:=eqW y0 y1 y2 y3 0 0 0 0 w;have e:((y0 == 0)&&((y1 == 0)&&((y2 == 0)&&(y3 == 0))))=b:=by
   rw[<- hb,<- ny,Bool.eq_iff_iff];simp only[Bool.and_eq_true,beq_iff_eq,decide_eq_true_eq];unfold n4;omega
  rw[e]at this;exact this
 go_simp
theorem eqz_guard(y:Nat)(o1 o2:Operand)(w:World):(eqGuard BinOp.eql 24 o1 o2 (.agg (pw y)) (.agg #[.int .u64 0,.int .u64 0,.int .u64 0,.int .u64 0])).run Tryz.prog w=.ok () w:=by kernel_rfl
theorem pw_modn(x:Nat):pw (x%2^256)=pw x:=by
 have h:=wv_congr (x:=x%2^256) (y:=x) (Nat.mod_mod _ _);rw[wv_pw,wv_pw]at h;exact Value.agg.inj h
theorem pw_nought{y:Nat}(h:y%2^256=0):pw y=#[.int .u64 0,.int .u64 0,.int .u64 0,.int .u64 0]:=by
 rw[<- pw_modn,h];kernel_rfl
open Go.RowKit
theorem results_two{fn:Func}{p q:Tmp}(h:fn.results=#[.cell p 24,.cell q 24])(tmps:Array Value)(w:World)(g k:Nat)(cs ds:Array Value)(fr:Nat × Nat)
  (hp:tmps.getD p undef=.pointer (some ⟨g,0,none⟩)) (hq:tmps.getD q undef=.pointer (some ⟨k,0,none⟩)) (hg:w.heap[g]?=some (.cells cs 24 fr)) (hk:w.heap[k]?=some (.cells ds 24 fr))
  (hi:(Tryz.prog.info? 24).map (·.size)=some cs.size) (hj:(Tryz.prog.info? 24).map (·.size)=some ds.size) :
  (results fn tmps).run Tryz.prog w=.ok (.tuple #[.agg cs,.agg ds]) w:=by
 have hp':tmps[p]?.getD undef=.pointer (some ⟨g,0,none⟩):=by simpa using hp
 have hq':tmps[q]?.getD undef=.pointer (some ⟨k,0,none⟩):=by simpa using hq
 simp[results,h,hp',hq',asAddr,run_loadVar_row w g 24 24 cs fr _ hg Tryz.underlying24 rfl hi,run_loadVar_row w k 24 24 ds fr _ hk Tryz.underlying24 rfl hj]
structure CD (w:World) (x y:Nat) (wx:World):Prop where
 old:Below w.heap.size w wx
 r0:wx.heap[w.heap.size]?=some (.cells (pw x) 24 (0,0))
 r1:wx.heap[w.heap.size+1]?=some (.cells (pw y) 24 (0,0))
 r2:wx.heap[w.heap.size+1+1]?=some (.cells #[.int .u64 0,.int .u64 0,.int .u64 0,.int .u64 0] 24 (0,0))
 r3:wx.heap[w.heap.size+1+1+1]?=some (.cells #[.int .u64 0,.int .u64 0,.int .u64 0,.int .u64 0] 24 (0,0))
theorem CD.below{w wx w':World}{x y:Nat}(h:CD w x y wx)(hb:Below wx.heap.size wx w'):CD w x y w' :=
 ⟨h.old.trans (hb.mono h.old.size),(hb.block _ (Array.getElem?_eq_some_iff.1 h.r0).1).trans h.r0,(hb.block _ (Array.getElem?_eq_some_iff.1 h.r1).1).trans h.r1,(hb.block _ (Array.getElem?_eq_some_iff.1 h.r2).1).trans h.r2,(hb.block _ (Array.getElem?_eq_some_iff.1 h.r3).1).trans h.r3⟩
theorem heap4(w:World)(A B C D:Obj):((((w.alloc A).alloc B).alloc C).alloc D).heap[w.heap.size]?=some A/\((((w.alloc A).alloc B).alloc C).alloc D).heap[w.heap.size+1]?=some B/\((((w.alloc A).alloc B).alloc C).alloc D).heap[w.heap.size+1+1]?=some C/\((((w.alloc A).alloc B).alloc C).alloc D).heap[w.heap.size+1+1+1]?=some D:=by
 obtain⟨h1,h2,h3⟩:=heap3 w A B C;exact⟨(heap_alloc_old _ _ (by first | (simp;done) | (simp;omega))).trans h1,(heap_alloc_old _ _ (by first | (simp;done) | (simp;omega))).trans h2,(heap_alloc_old _ _ (by first | (simp;done) | (simp;omega))).trans h3,by have:=heap_alloc_new (((w.alloc A).alloc B).alloc C) D;simpa using this⟩
theorem divmod_in(x y:Nat)(hy:¬y%2^256=0)(w:World):Calls Tryz.prog 59 #[.agg (pw x),.agg (pw y)] w fun e w'=>e=.returned (.tuple #[.agg (pw ((x%2^256) / (y%2^256))),.agg (pw ((x%2^256)%(y%2^256)))])/\Below w.heap.size w w':=by
 have hzf:=eqz_run y false (decide_eq_false hy);have hzg:=eqz_guard y;have HY:=Lib.hid (Nat.pos_of_ne_zero hy);clear hy;have hC0:CD w x y ((((w.alloc (.cells (pw x) 24)).alloc (.cells (pw y) 24)).alloc (.cells #[.int .u64 0,.int .u64 0,.int .u64 0,.int .u64 0] 24)).alloc (.cells #[.int .u64 0,.int .u64 0,.int .u64 0,.int .u64 0] 24)):=⟨by go_grown,(heap4 _ _ _ _ _).1,(heap4 _ _ _ _ _).2.1,(heap4 _ _ _ _ _).2.2.1,(heap4 _ _ _ _ _).2.2.2⟩
 have HC0:=Lib.hid hC0;clear hC0;go_enter Tryz.func59,Tryz.ntmps59
 go_wp2_with (refine wpList_load_row rfl 24 _ rfl (w.heap.size+1) rfl 24 (pw y) (0,0) _ HC0.out.r1 Tryz.underlying24 rfl infoWord ?_)
 refine region_tie (CD w x y) (fun i s wx=>match i with | 0=>s 14=wv x | 1=>DS 16 (x%2^256) (s 15) wx | 2=>s 16=wv y | 3=>DS 16 (y%2^256) (s 17) wx | 4=>DQ 16 16 (x%2^256) (y%2^256) (s 18) wx | 5=>DQ 16 16 (x%2^256) (y%2^256) (s 13) wx | 6=>DS 16 ((x%2^256) / (y%2^256)) (s 19) wx | 7=>DR 16 ((x%2^256)%(y%2^256)) (s 20) wx | 8=>DS 16 ((x%2^256) / (y%2^256)) (s 6) wx | 9=>DR 16 ((x%2^256)%(y%2^256)) (s 7) wx | _=>True) RN (fun i=>match i with | 0=>[14] | 1=>[15] | 2=>[16] | 3=>[17] | 4=>[18] | 5=>[13] | 6=>[19] | 7=>[20] | 8=>[6] | 9=>[7] | _=>[]) (fun i=>i) (by kernel_rfl) (by kernel_rfl) (⟨HC0.out.old.drew,HC0.out.r0,HC0.out.r1,HC0.out.r2,HC0.out.r3⟩) ?_ ?_ ?_ ?_
 ·intro i s s' wx he hp
  match i,he,hp with
  | 0,he,hp=>have h:=he 14 (by simp);(first | exact h ▸ hp | (rw[h]at hp;exact hp))
  | 1,he,hp=>have h:=he 15 (by simp);(first | exact h ▸ hp | (rw[h]at hp;exact hp))
  | 2,he,hp=>have h:=he 16 (by simp);(first | exact h ▸ hp | (rw[h]at hp;exact hp))
  | 3,he,hp=>have h:=he 17 (by simp);(first | exact h ▸ hp | (rw[h]at hp;exact hp))
  | 4,he,hp=>have h:=he 18 (by simp);(first | exact h ▸ hp | (rw[h]at hp;exact hp))
  | 5,he,hp=>have h:=he 13 (by simp);(first | exact h ▸ hp | (rw[h]at hp;exact hp))
  | 6,he,hp=>have h:=he 19 (by simp);(first | exact h ▸ hp | (rw[h]at hp;exact hp))
  | 7,he,hp=>have h:=he 20 (by simp);(first | exact h ▸ hp | (rw[h]at hp;exact hp))
  | 8,he,hp=>have h:=he 6 (by simp);(first | exact h ▸ hp | (rw[h]at hp;exact hp))
  | 9,he,hp=>have h:=he 7 (by simp);(first | exact h ▸ hp | (rw[h]at hp;exact hp))
  | _+10,_,_=>trivial
 ·intro i s wa wb hR hp
  match i,hp with
  | 0,hp=>exact hp
  | 1,hp=>exact hp.keep hR
  | 2,hp=>exact hp
  | 3,hp=>exact hp.keep hR
  | 4,hp=>exact hp.keep hR
  | 5,hp=>exact hp.keep hR
  | 6,hp=>exact hp.keep hR
  | 7,hp=>exact hp.keep hR
  | 8,hp=>exact hp.keep hR
  | 9,hp=>exact hp.keep hR
  | _+10,_=>trivial
 ·refine⟨?_,?_,?_,?_,?_,?_,?_,?_,?_,?_,trivial⟩
  ·intro a wx hC hsz hK
   have h0:a.tmps.getD 2 undef=.pointer (some ⟨w.heap.size,0,none⟩):=hK.1 2 (by kernel_rfl);exact tt_load 24 (.tmp 2) (.pointer (some ⟨w.heap.size,0,none⟩)) (wv x) rfl (by kernel_rfl) h0 (load_pw hC.r0) hC (slots_put _ _ _ (by rw[hsz];exact of_decide_eq_true (by kernel_rfl))) (RN.refl _)
  ·intro a wx hC hsz hK
   have h0:=hK.2 ⟨0,.data⟩ (by simp) rfl _ rfl;refine tt_call 88 #[a.tmps.getD 14 undef] (by kernel_rfl) (by kernel_rfl) ?_;rw[show a.tmps.getD 14 undef=_ from h0];refine Calls.mono (digits_ds x wx) ?_;rintro e w' ⟨v,rfl,hb,hv⟩;exact⟨v,rfl,hC.below hb,by rw[slots_put _ _ _ (by rw[hsz];exact of_decide_eq_true (by kernel_rfl))];exact hv,RN.of hb⟩
  ·intro a wx hC hsz hK
   have h0:a.tmps.getD 3 undef=.pointer (some ⟨w.heap.size+1,0,none⟩):=hK.1 3 (by kernel_rfl);exact tt_load 24 (.tmp 3) (.pointer (some ⟨w.heap.size+1,0,none⟩)) (wv y) rfl (by kernel_rfl) h0 (load_pw hC.r1) hC (slots_put _ _ _ (by rw[hsz];exact of_decide_eq_true (by kernel_rfl))) (RN.refl _)
  ·intro a wx hC hsz hK
   have h0:=hK.2 ⟨2,.data⟩ (by simp) rfl _ rfl;refine tt_call 88 #[a.tmps.getD 16 undef] (by kernel_rfl) (by kernel_rfl) ?_;rw[show a.tmps.getD 16 undef=_ from h0];refine Calls.mono (digits_ds y wx) ?_;rintro e w' ⟨v,rfl,hb,hv⟩;exact⟨v,rfl,hC.below hb,by rw[slots_put _ _ _ (by rw[hsz];exact of_decide_eq_true (by kernel_rfl))];exact hv,RN.of hb⟩
  ·intro a wx hC hsz hK
   have h0:=hK.2 ⟨1,.data⟩ (by simp) rfl _ rfl;have h1:=hK.2 ⟨3,.data⟩ (by simp) rfl _ rfl;refine tt_call 87 #[a.tmps.getD 15 undef,a.tmps.getD 17 undef] (by kernel_rfl) (by kernel_rfl) ?_;refine Calls.mono (divide_ds (by omega) (by omega) HY.out h0 h1) ?_;rintro e w' ⟨v,rfl,hb,hv⟩;exact⟨v,rfl,hC.below hb,by rw[slots_put _ _ _ (by rw[hsz];exact of_decide_eq_true (by kernel_rfl))];exact hv,RN.of hb⟩
  ·intro a wx hC hsz hK
   have h0:=hK.2 ⟨4,.data⟩ (by simp) rfl _ rfl;exact tt_val (a.tmps.getD 18 undef) (by kernel_rfl) (by kernel_rfl) hC (by rw[slots_put _ _ _ (by rw[hsz];exact of_decide_eq_true (by kernel_rfl))];exact h0) (RN.refl _)
  ·intro a wx hC hsz hK
   have h0:=hK.2 ⟨5,.data⟩ (by simp) rfl _ rfl;obtain⟨qv,rv,ev,hq,hr⟩:=h0;have ev':a.tmps.getD 13 undef=.tuple #[qv,rv]:=ev;refine tt_v (Instr.extract (a.tmps.getD 13 undef) 0) qv (by kernel_rfl) rfl ?_ hC (by rw[slots_put _ _ _ (by rw[hsz];exact of_decide_eq_true (by kernel_rfl))];exact hq) (RN.refl _);rw[ev'];kernel_rfl
  ·intro a wx hC hsz hK
   have h0:=hK.2 ⟨5,.data⟩ (by simp) rfl _ rfl;obtain⟨qv,rv,ev,hq,hr⟩:=h0;have ev':a.tmps.getD 13 undef=.tuple #[qv,rv]:=ev;refine tt_v (Instr.extract (a.tmps.getD 13 undef) 1) rv (by kernel_rfl) rfl ?_ hC (by rw[slots_put _ _ _ (by rw[hsz];exact of_decide_eq_true (by kernel_rfl))];exact hr) (RN.refl _);rw[ev'];kernel_rfl
  ·intro a wx hC hsz hK
   have h0:=hK.2 ⟨6,.data⟩ (by simp) rfl _ rfl;exact tt_val (a.tmps.getD 19 undef) (by kernel_rfl) (by kernel_rfl) hC (by rw[slots_put _ _ _ (by rw[hsz];exact of_decide_eq_true (by kernel_rfl))];exact h0) (RN.refl _)
  ·intro a wx hC hsz hK
   have h0:=hK.2 ⟨7,.data⟩ (by simp) rfl _ rfl;exact tt_val (a.tmps.getD 20 undef) (by kernel_rfl) (by kernel_rfl) hC (by rw[slots_put _ _ _ (by rw[hsz];exact of_decide_eq_true (by kernel_rfl))];exact h0) (RN.refl _)
 ·intro f wx hC hf
  have s14:=hf 0 _ rfl;obtain⟨b15,c15,d15,s15,g15,l15,v15⟩:=hf 1 _ rfl;have s16:=hf 2 _ rfl;obtain⟨b17,c17,d17,s17,g17,l17,v17⟩:=hf 3 _ rfl;obtain⟨q18,r18,s18,-,-⟩:=hf 4 _ rfl;obtain⟨q13,r13,s13,-,-⟩:=hf 5 _ rfl;obtain⟨b19,c19,d19,s19,g19,l19,v19⟩:=hf 6 _ rfl;obtain⟨n20,m20,b20,c20,d20,s20,g20,l20,v20⟩:=hf 7 _ rfl;obtain⟨b6,c6,d6,s6,g6,l6,v6⟩:=hf 8 _ rfl;obtain⟨n7,m7,b7,c7,d7,s7,g7,l7,v7⟩:=hf 9 _ rfl;clear hf;generalize hA:putAll _ _ _=A at *;have hsz:A.tmps.size=25:=by rw[<- hA,putAll_size];rfl
  have t0:A.tmps.getD 0 undef=.agg (pw x):=by subst hA;kernel_rfl
  have t1:A.tmps.getD 1 undef=.agg (pw y):=by subst hA;kernel_rfl
  have t2:A.tmps.getD 2 undef=.pointer (some ⟨w.heap.size,0,none⟩):=by subst hA;kernel_rfl
  have t3:A.tmps.getD 3 undef=.pointer (some ⟨w.heap.size+1,0,none⟩):=by subst hA;kernel_rfl
  have t4:A.tmps.getD 4 undef=.pointer (some ⟨w.heap.size+1+1,0,none⟩):=by subst hA;kernel_rfl
  have t5:A.tmps.getD 5 undef=.pointer (some ⟨w.heap.size+1+1+1,0,none⟩):=by subst hA;kernel_rfl
  have t8:A.tmps.getD 8 undef=.agg (pw y):=by subst hA;kernel_rfl
  have t9:A.tmps.getD 9 undef=.agg #[.int .u64 0,.int .u64 0,.int .u64 0,.int .u64 0]:=by subst hA;kernel_rfl
  have t10:A.tmps.getD 10 undef=.bool false:=by subst hA;kernel_rfl
  have t11:A.tmps.getD 11 undef=undef:=by subst hA;kernel_rfl
  have t12:A.tmps.getD 12 undef=undef:=by subst hA;kernel_rfl
  have t21:A.tmps.getD 21 undef=undef:=by subst hA;kernel_rfl
  have t22:A.tmps.getD 22 undef=undef:=by subst hA;kernel_rfl
  have t23:A.tmps.getD 23 undef=undef:=by subst hA;kernel_rfl
  have t24:A.tmps.getD 24 undef=undef:=by subst hA;kernel_rfl
  have hd:A.defers=[]:=by subst hA;kernel_rfl
  clear hA;obtain⟨tm,df⟩:=A;simp only[slots]at *;have hL:=arr_lit tm;rw[hsz]at hL;simp only[List.range,List.range.loop,List.map]at hL;rw[t0,t1,t2,t3,t4,t5,s6,s7,t8,t9,t10,t11,t12,s13,s14,s15,s16,s17,s18,s19,s20,t21,t22,t23,t24]at hL;subst hL hd;clear t0 t1 t2 t3 t4 t5 s6 s7 t8 t9 t10 t11 t12 s13 s14 s15 s16 s17 s18 s19 s20 t21 t22 t23 t24 hsz;have HC:=Lib.hid hC;clear hC;have G7:=Lib.hid g7;clear g7
  go_wp2_with fail
  refine(word_any b6 c6 16 d6 (by omega) l6 wx g6).mono ?_;rintro e w1 ⟨rfl,hb1⟩;rw[v6];have HC1:=Lib.hid (HC.out.below hb1);have G71:=Lib.hid (G7.out.below hb1);clear hb1
  go_wp2_with fail
  refine(word_any b7 c7 n7 d7 (by omega) l7 w1 G71.out).mono ?_;rintro e w2 ⟨rfl,hb2⟩;rw[v7];have HC2:=Lib.hid (HC1.out.below hb2);have R3:=Lib.hid ((setRow_other w2 (w.heap.size+1+1) (w.heap.size+1+1+1) (pw ((x%2^256) / (y%2^256))) (by omega)).trans HC2.out.r3);clear hb2
  go_wp2_with (first | (refine wpList_store_row rfl 24 _ _ rfl (w.heap.size+1+1) (pw ((x%2^256) / (y%2^256))) rfl rfl 24 #[.int .u64 0,.int .u64 0,.int .u64 0,.int .u64 0] HC2.out.r2 infoWord rfl (pw_one _) ?_) | (refine wpList_store_row rfl 24 _ _ rfl (w.heap.size+1+1+1) (pw ((x%2^256)%(y%2^256))) rfl rfl 24 #[.int .u64 0,.int .u64 0,.int .u64 0,.int .u64 0] R3.out infoWord rfl (pw_one _) ?_))
  (try simp only[Exit.inBlock,Exit.then])
  have e2:=(setRow_other (w2.setRow (w.heap.size+1+1) (pw ((x%2^256) / (y%2^256)))) (w.heap.size+1+1+1) (w.heap.size+1+1) (pw ((x%2^256)%(y%2^256))) (by omega)).trans (setRow_heap _ _ _ _ _ _ HC2.out.r2);exact bodyPost_ret (v:=.tuple #[.agg (pw ((x%2^256) / (y%2^256))),.agg (pw ((x%2^256)%(y%2^256)))]) (results_two (p:=4) (q:=5) rfl _ _ (w.heap.size+1+1) (w.heap.size+1+1+1) _ _ (0,0) rfl rfl e2 (setRow_heap _ _ _ _ _ _ R3.out) infoWord infoWord) rfl ⟨rfl,below_setRow (below_setRow HC2.out.old (by omega) _) (by omega) _⟩
theorem divmod_nought(x:Nat)(w:World):Calls Tryz.prog 59 #[.agg (pw x),.agg #[.int .u64 0,.int .u64 0,.int .u64 0,.int .u64 0]] w fun e w'=>e=.returned (.tuple #[.agg #[.int .u64 0,.int .u64 0,.int .u64 0,.int .u64 0],.agg #[.int .u64 0,.int .u64 0,.int .u64 0,.int .u64 0]])/\Below w.heap.size w w':=by
 have hzf:∀ w,(binOp BinOp.eql 24 (.agg #[.int .u64 0,.int .u64 0,.int .u64 0,.int .u64 0]) (.agg #[.int .u64 0,.int .u64 0,.int .u64 0,.int .u64 0])).run Tryz.prog w=.ok (.bool true) w:=fun w=>eqz_run 0 true rfl w;have hzg:∀(o1 o2:Operand) w,(eqGuard BinOp.eql 24 o1 o2 (.agg #[.int .u64 0,.int .u64 0,.int .u64 0,.int .u64 0]) (.agg #[.int .u64 0,.int .u64 0,.int .u64 0,.int .u64 0])).run Tryz.prog w=.ok () w:=fun o1 o2 w=>eqz_guard 0 o1 o2 w;go_enter Tryz.func59,Tryz.ntmps59;go_wp2
 go_region
 all_goals (go_wp2;refine bodyPost_ret (v:=.tuple #[.agg #[.int .u64 0,.int .u64 0,.int .u64 0,.int .u64 0],.agg #[.int .u64 0,.int .u64 0,.int .u64 0,.int .u64 0]]) (by simp[results,Tryz.results59,go_sem];try rfl) rfl ⟨rfl,by go_grown⟩)
-- WHAT bailiwickref01.DivMod COMES TO.
theorem divmod_ref(x y:Nat)(w:World):Calls Tryz.prog 59 #[wv x,wv y] w fun e w'=>e=.returned (.tuple #[wv (quoV (x%2^256) y),wv (remV (x%2^256) y)])/\Below w.heap.size w w':=by
 unfold quoV remV;rw[wv_pw x,wv_pw y];by_cases h:y%2^256=0
 ·rw[if_pos h,if_pos h,pw_nought h]
  exact divmod_nought x w
 ·rw[if_neg h,if_neg h]
  exact divmod_in x y h w
open Go.RowKit
structure CT (w:World) (x y z:Nat) (wx:World):Prop where
 old:Below w.heap.size w wx
 r0:wx.heap[w.heap.size]?=some (.cells (pw x) 24 (0,0))
 r1:wx.heap[w.heap.size+1]?=some (.cells (pw y) 24 (0,0))
 r2:wx.heap[w.heap.size+1+1]?=some (.cells (pw z) 24 (0,0))
 r3:wx.heap[w.heap.size+1+1+1]?=some (.cells #[.int .u64 0,.int .u64 0,.int .u64 0,.int .u64 0] 24 (0,0))
theorem CT.below{w wx w':World}{x y z:Nat}(h:CT w x y z wx)(hb:Below wx.heap.size wx w'):CT w x y z w' :=
 ⟨h.old.trans (hb.mono h.old.size),(hb.block _ (Array.getElem?_eq_some_iff.1 h.r0).1).trans h.r0,(hb.block _ (Array.getElem?_eq_some_iff.1 h.r1).1).trans h.r1,(hb.block _ (Array.getElem?_eq_some_iff.1 h.r2).1).trans h.r2,(hb.block _ (Array.getElem?_eq_some_iff.1 h.r3).1).trans h.r3⟩
open Go.RowKit
theorem widen_one(a0 a1 a2 a3 c b:Nat)(w:World)(hb:b<w.heap.size)(hc:w.cell? ⟨b,0,none⟩=some (.int .u64 c)) :
  Calls Tryz.prog 116 #[.agg #[.int .u64 a0,.int .u64 a1,.int .u64 a2,.int .u64 a3],.slice (some ⟨b,0,none⟩) 1 1] w fun e w' =>
   e=.returned (.agg #[.int .u64 a0,.int .u64 a1,.int .u64 a2,.int .u64 a3,.int .u64 c,.int .u64 0,.int .u64 0,.int .u64 0])/\Below w.heap.size w w':=by
 have hcp:=copy4 ((((w.alloc (.cells #[.int .u64 a0,.int .u64 a1,.int .u64 a2,.int .u64 a3] 24)).alloc (.cells #[.int .u64 0,.int .u64 0,.int .u64 0,.int .u64 0,.int .u64 0,.int .u64 0,.int .u64 0,.int .u64 0] 123)).alloc (.cells #[.int .u64 0,.int .u64 0,.int .u64 0,.int .u64 0,.int .u64 0,.int .u64 0,.int .u64 0,.int .u64 0] 123)).drew) (w.heap.size+1+1) w.heap.size a0 a1 a2 a3
  (by go_cell) (by go_cell) (by go_cell) (by go_cell) (by go_simp) (by go_simp) (by go_simp) (by go_simp) (by go_cell) (by go_cell) (by go_cell) (by go_cell)
 have hcn:=run_copy_cells (P:=Tryz.prog) ((((w.alloc (.cells #[.int .u64 a0,.int .u64 a1,.int .u64 a2,.int .u64 a3] 24)).alloc (.cells #[.int .u64 0,.int .u64 0,.int .u64 0,.int .u64 0,.int .u64 0,.int .u64 0,.int .u64 0,.int .u64 0] 123)).alloc (.cells #[.int .u64 a0,.int .u64 a1,.int .u64 a2,.int .u64 a3,.int .u64 0,.int .u64 0,.int .u64 0,.int .u64 0] 123)).drew) 94 94 3 22 (w.heap.size+1+1) 4 4 4 ⟨b,0,none⟩ 1 1 [.int .u64 c] Tryz.underlying94 (by kernel_rfl) rfl
  (fun j v hj=>by
   rcases j with _ | j
   ·cases hj;exact((show Below w.heap.size w ((((w.alloc (.cells #[.int .u64 a0,.int .u64 a1,.int .u64 a2,.int .u64 a3] 24)).alloc (.cells #[.int .u64 0,.int .u64 0,.int .u64 0,.int .u64 0,.int .u64 0,.int .u64 0,.int .u64 0,.int .u64 0] 123)).alloc (.cells #[.int .u64 a0,.int .u64 a1,.int .u64 a2,.int .u64 a3,.int .u64 0,.int .u64 0,.int .u64 0,.int .u64 0] 123)).drew) by go_grown).cell (p:=⟨b,0,none⟩) hb).trans hc
   ·simp at hj)
  (fun j hj=>by
   rcases j with _ | j
   ·exact(congrArg Option.isSome (show World.cell? ((((w.alloc (.cells #[.int .u64 a0,.int .u64 a1,.int .u64 a2,.int .u64 a3] 24)).alloc (.cells #[.int .u64 0,.int .u64 0,.int .u64 0,.int .u64 0,.int .u64 0,.int .u64 0,.int .u64 0,.int .u64 0] 123)).alloc (.cells #[.int .u64 a0,.int .u64 a1,.int .u64 a2,.int .u64 a3,.int .u64 0,.int .u64 0,.int .u64 0,.int .u64 0] 123)).drew) ⟨w.heap.size+1+1,4,none⟩=some (.int .u64 0) by go_cell)).trans rfl
   ·simp at hj)
  (fun j hj=>by
   rcases j with _ | j
   ·show World.frozen? ((((w.alloc (.cells #[.int .u64 a0,.int .u64 a1,.int .u64 a2,.int .u64 a3] 24)).alloc (.cells #[.int .u64 0,.int .u64 0,.int .u64 0,.int .u64 0,.int .u64 0,.int .u64 0,.int .u64 0,.int .u64 0] 123)).alloc (.cells #[.int .u64 a0,.int .u64 a1,.int .u64 a2,.int .u64 a3,.int .u64 0,.int .u64 0,.int .u64 0,.int .u64 0] 123)).drew) ⟨w.heap.size+1+1,4,none⟩=false;go_cell
   ·simp at hj)
  (fun v hv=>by simp at hv;rcases hv with rfl;rfl)
 simp only[World.setCells]at hcn;go_enter Tryz.func116,Tryz.ntmps116;go_wp2
 go_region
 go_wp2
 go_returns
 refine⟨?_,by go_grown⟩;rfl
theorem widen_more(x c b:Nat)(hc:c<18446744073709551616)(w:World)(hb:b<w.heap.size)(h:w.cell? ⟨b,0,none⟩=some (.int .u64 c)):Calls Tryz.prog 116 #[wv x,.slice (some ⟨b,0,none⟩) 1 1] w fun e w'=>e=.returned (dv (x%2^256+2^256*c))/\Below w.heap.size w w':=by
 obtain⟨a0,a1,a2,a3,u0,u1,u2,u3,ea,na⟩:=wv_parts x;have h:=widen_one a0 a1 a2 a3 c b w hb h;rw[ea,<- na];have hn:dv (n4 a0 a1 a2 a3+2^256*c)=.agg #[.int .u64 a0,.int .u64 a1,.int .u64 a2,.int .u64 a3,.int .u64 c,.int .u64 0,.int .u64 0,.int .u64 0]:=by
  have:=dv_n8 (a5:=0) (a6:=0) (a7:=0) u0 u1 u2 u3 hc (by omega) (by omega) (by omega);rw[show n8 a0 a1 a2 a3 c 0 0 0=n4 a0 a1 a2 a3+2^256*c by unfold n8 n4;omega]at this;exact this
 rw[hn];exact h
theorem CT.high{w wx:World}{x y z:Nat}(h:CT w x y z wx):w.heap.size+1+1+1+1<=wx.heap.size:=(Array.getElem?_eq_some_iff.1 h.r3).1
theorem CT.rowed{w wx:World}{x y z g:Nat}{cs:Array Value}(h:CT w x y z wx)(hg:w.heap.size+1+1+1+1<=g):CT w x y z (wx.setRow g cs) :=
 ⟨below_setRow h.old (by omega) _,(setRow_other _ _ _ _ (by omega)).trans h.r0,(setRow_other _ _ _ _ (by omega)).trans h.r1,(setRow_other _ _ _ _ (by omega)).trans h.r2,(setRow_other _ _ _ _ (by omega)).trans h.r3⟩
theorem mul_small(x y:Nat):(x%2^256)*(y%2^256)<13407807929942597099574024998205846127479365820592393377723561443721764030073546976801874298166903427690031858186486050853753882811946569946433649006084096:=by
 have h1:=Nat.mod_lt x (show(2^256) > 0 by omega);have h2:=Nat.mod_lt y (show(2^256) > 0 by omega);have:=Nat.mul_lt_mul'' h1 h2;rwa [show(2^256)*2^256=13407807929942597099574024998205846127479365820592393377723561443721764030073546976801874298166903427690031858186486050853753882811946569946433649006084096 by rfl]at this
-- WHAT word.MulMod COMES TO.
theorem mulmod_any(x y z:Nat)(w:World):Calls Tryz.prog 107 #[wv x,wv y,wv z] w fun e w'=>e=.returned (wv (remV ((x%2^256)*(y%2^256)) z))/\Below w.heap.size w w':=by
 rw[wv_pw x,wv_pw y,wv_pw z];go_enter Tryz.func107,Tryz.ntmps107
 go_wp2_with fail
 refine region_tie (CT w x y z) (fun i s wx=>match i with | 0=>s 10=wv x | 1=>s 11=wv y | 2=>s 12=dv ((x%2^256)*(y%2^256)) | 3=>s 13=wv z | 4=>s 14=.tuple #[dv (quoV ((x%2^256)*(y%2^256)) z),wv (remV ((x%2^256)*(y%2^256)) z)] | 5=>s 9=.tuple #[dv (quoV ((x%2^256)*(y%2^256)) z),wv (remV ((x%2^256)*(y%2^256)) z)] | 6=>s 15=dv (quoV ((x%2^256)*(y%2^256)) z) | 7=>s 16=wv (remV ((x%2^256)*(y%2^256)) z) | 8=>∃ D,s 7=.pointer (some ⟨D,0,none⟩)/\w.heap.size+1+1+1+1<=D/\∃ cs,wx.heap[D]?=some (.cells cs 123 (0,0))/\cs.size=8 | 9=>∃ D,s 8=.pointer (some ⟨D,0,none⟩)/\w.heap.size+1+1+1+1<=D/\∃ cs,wx.heap[D]?=some (.cells cs 24 (0,0))/\cs.size=4 | 10=>∃ D,s 7=.pointer (some ⟨D,0,none⟩)/\w.heap.size+1+1+1+1<=D/\wx.heap[D]?=some (.cells (FQ (quoV ((x%2^256)*(y%2^256)) z) (remV ((x%2^256)*(y%2^256)) z) 123) 123 (0,0)) | 11=>∃ D,s 8=.pointer (some ⟨D,0,none⟩)/\w.heap.size+1+1+1+1<=D/\wx.heap[D]?=some (.cells (FQ (quoV ((x%2^256)*(y%2^256)) z) (remV ((x%2^256)*(y%2^256)) z) 24) 24 (0,0)) | _=>True) (RT (w.heap.size+1+1+1+1) (FQ (quoV ((x%2^256)*(y%2^256)) z) (remV ((x%2^256)*(y%2^256)) z))) (fun i=>match i with | 0=>[10] | 1=>[11] | 2=>[12] | 3=>[13] | 4=>[14] | 5=>[9] | 6=>[15] | 7=>[16] | 8=>[7] | 9=>[8] | 10=>[7] | 11=>[8] | _=>[]) (fun i=>i) (by kernel_rfl) (by kernel_rfl) ⟨Below.drew (by go_grown),(heap4 _ _ _ _ _).1,(heap4 _ _ _ _ _).2.1,(heap4 _ _ _ _ _).2.2.1,(heap4 _ _ _ _ _).2.2.2⟩ ?_ ?_ ?_ ?_
 ·intro i s s' wx he hp
  match i,he,hp with
  | 0,he,hp=>exact(he 10 (by simp)).symm.trans hp
  | 1,he,hp=>exact(he 11 (by simp)).symm.trans hp
  | 2,he,hp=>exact(he 12 (by simp)).symm.trans hp
  | 3,he,hp=>exact(he 13 (by simp)).symm.trans hp
  | 4,he,hp=>exact(he 14 (by simp)).symm.trans hp
  | 5,he,hp=>exact(he 9 (by simp)).symm.trans hp
  | 6,he,hp=>exact(he 15 (by simp)).symm.trans hp
  | 7,he,hp=>exact(he 16 (by simp)).symm.trans hp
  | 8,he,hp=>obtain⟨D,h1,h2⟩:=hp;exact⟨D,(he 7 (by simp)).symm.trans h1,h2⟩
  | 9,he,hp=>obtain⟨D,h1,h2⟩:=hp;exact⟨D,(he 8 (by simp)).symm.trans h1,h2⟩
  | 10,he,hp=>obtain⟨D,h1,h2⟩:=hp;exact⟨D,(he 7 (by simp)).symm.trans h1,h2⟩
  | 11,he,hp=>obtain⟨D,h1,h2⟩:=hp;exact⟨D,(he 8 (by simp)).symm.trans h1,h2⟩
  | _+12,_,_=>trivial
 ·intro i s wa wb hR hp
  match i,hp with
  | 0,hp=>exact hp
  | 1,hp=>exact hp
  | 2,hp=>exact hp
  | 3,hp=>exact hp
  | 4,hp=>exact hp
  | 5,hp=>exact hp
  | 6,hp=>exact hp
  | 7,hp=>exact hp
  | 8,hp=>obtain⟨D,h1,h2,cs,h3,h4⟩:=hp;obtain⟨cs',h5,h6⟩:=hR.shape _ _ _ _ h3;exact⟨D,h1,h2,cs',h5,h6.trans h4⟩
  | 9,hp=>obtain⟨D,h1,h2,cs,h3,h4⟩:=hp;obtain⟨cs',h5,h6⟩:=hR.shape _ _ _ _ h3;exact⟨D,h1,h2,cs',h5,h6.trans h4⟩
  | 10,hp=>obtain⟨D,h1,h2,h3⟩:=hp;exact⟨D,h1,h2,hR.keep _ _ _ h3⟩
  | 11,hp=>obtain⟨D,h1,h2,h3⟩:=hp;exact⟨D,h1,h2,hR.keep _ _ _ h3⟩
  | _+12,_=>trivial
 ·refine⟨?_,?_,?_,?_,?_,?_,?_,?_,?_,?_,?_,?_,trivial⟩
  ·intro a wx hC hsz hK
   have h0:a.tmps.getD 3 undef=.pointer (some ⟨w.heap.size,0,none⟩):=hK.1 3 (by kernel_rfl);exact tt_load 24 (.tmp 3) (.pointer (some ⟨w.heap.size,0,none⟩)) (wv x) rfl (by kernel_rfl) h0 (load_pw hC.r0) hC (slots_put _ _ _ (by rw[hsz];exact of_decide_eq_true (by kernel_rfl))) (RT.refl _ _ _)
  ·intro a wx hC hsz hK
   have h0:a.tmps.getD 4 undef=.pointer (some ⟨w.heap.size+1,0,none⟩):=hK.1 4 (by kernel_rfl);exact tt_load 24 (.tmp 4) (.pointer (some ⟨w.heap.size+1,0,none⟩)) (wv y) rfl (by kernel_rfl) h0 (load_pw hC.r1) hC (slots_put _ _ _ (by rw[hsz];exact of_decide_eq_true (by kernel_rfl))) (RT.refl _ _ _)
  ·intro a wx hC hsz hK
   have h0:a.tmps.getD 10 undef=wv x:=hK.2 ⟨0,.data⟩ (by simp) rfl _ rfl;have h1:a.tmps.getD 11 undef=wv y:=hK.2 ⟨1,.data⟩ (by simp) rfl _ rfl;refine tt_call 117 #[a.tmps.getD 10 undef,a.tmps.getD 11 undef] (by kernel_rfl) (by kernel_rfl) ?_;rw[h0,h1];exact((fun wx=>product_any x y wx) wx).mono fun e w' hh=>⟨_,hh.1,hC.below hh.2,slots_put _ _ _ (by rw[hsz];exact of_decide_eq_true (by kernel_rfl)),RT.of hC.high hh.2⟩
  ·intro a wx hC hsz hK
   have h0:a.tmps.getD 5 undef=.pointer (some ⟨w.heap.size+1+1,0,none⟩):=hK.1 5 (by kernel_rfl);exact tt_load 24 (.tmp 5) (.pointer (some ⟨w.heap.size+1+1,0,none⟩)) (wv z) rfl (by kernel_rfl) h0 (load_pw hC.r2) hC (slots_put _ _ _ (by rw[hsz];exact of_decide_eq_true (by kernel_rfl))) (RT.refl _ _ _)
  ·intro a wx hC hsz hK
   have h0:a.tmps.getD 12 undef=dv ((x%2^256)*(y%2^256)):=hK.2 ⟨2,.data⟩ (by simp) rfl _ rfl;have h1:a.tmps.getD 13 undef=wv z:=hK.2 ⟨3,.data⟩ (by simp) rfl _ rfl;refine tt_call 115 #[a.tmps.getD 12 undef,a.tmps.getD 13 undef] (by kernel_rfl) (by kernel_rfl) ?_;rw[h0,h1];exact((fun wx=>divide_all ((x%2^256)*(y%2^256)) z (mul_small x y) wx) wx).mono fun e w' hh=>⟨_,hh.1,hC.below hh.2,slots_put _ _ _ (by rw[hsz];exact of_decide_eq_true (by kernel_rfl)),RT.of hC.high hh.2⟩
  ·intro a wx hC hsz hK
   have h0:a.tmps.getD 14 undef=.tuple #[dv (quoV ((x%2^256)*(y%2^256)) z),wv (remV ((x%2^256)*(y%2^256)) z)]:=hK.2 ⟨4,.data⟩ (by simp) rfl _ rfl;exact tt_val (.tuple #[dv (quoV ((x%2^256)*(y%2^256)) z),wv (remV ((x%2^256)*(y%2^256)) z)]) (by kernel_rfl) (by rw[<- h0];kernel_rfl) hC (slots_put _ _ _ (by rw[hsz];exact of_decide_eq_true (by kernel_rfl))) (RT.refl _ _ _)
  ·intro a wx hC hsz hK
   have h0:a.tmps.getD 9 undef=.tuple #[dv (quoV ((x%2^256)*(y%2^256)) z),wv (remV ((x%2^256)*(y%2^256)) z)]:=hK.2 ⟨5,.data⟩ (by simp) rfl _ rfl;refine tt_v (Instr.extract (a.tmps.getD 9 undef) 0) (dv (quoV ((x%2^256)*(y%2^256)) z)) (by kernel_rfl) rfl ?_ hC (slots_put _ _ _ (by rw[hsz];exact of_decide_eq_true (by kernel_rfl))) (RT.refl _ _ _);rw[h0];kernel_rfl
  ·intro a wx hC hsz hK
   have h0:a.tmps.getD 9 undef=.tuple #[dv (quoV ((x%2^256)*(y%2^256)) z),wv (remV ((x%2^256)*(y%2^256)) z)]:=hK.2 ⟨5,.data⟩ (by simp) rfl _ rfl;refine tt_v (Instr.extract (a.tmps.getD 9 undef) 1) (wv (remV ((x%2^256)*(y%2^256)) z)) (by kernel_rfl) rfl ?_ hC (slots_put _ _ _ (by rw[hsz];exact of_decide_eq_true (by kernel_rfl))) (RT.refl _ _ _);rw[h0];kernel_rfl
  ·intro a wx hC hsz hK
   exact tt_new (.pointer (some ⟨wx.heap.size,0,none⟩)) (by kernel_rfl) (by kernel_rfl) (hC.below ((Below.refl _ _).alloc (Nat.le_refl _) _)) ⟨_,slots_put _ _ _ (by rw[hsz];exact of_decide_eq_true (by kernel_rfl)),hC.high,#[.int .u64 0,.int .u64 0,.int .u64 0,.int .u64 0,.int .u64 0,.int .u64 0,.int .u64 0,.int .u64 0],heap_alloc_new _ _,rfl⟩ (RT.of hC.high ((Below.refl _ _).alloc (Nat.le_refl _) _))
  ·intro a wx hC hsz hK
   exact tt_new (.pointer (some ⟨wx.heap.size,0,none⟩)) (by kernel_rfl) (by kernel_rfl) (hC.below ((Below.refl _ _).alloc (Nat.le_refl _) _)) ⟨_,slots_put _ _ _ (by rw[hsz];exact of_decide_eq_true (by kernel_rfl)),hC.high,#[.int .u64 0,.int .u64 0,.int .u64 0,.int .u64 0],heap_alloc_new _ _,rfl⟩ (RT.of hC.high ((Below.refl _ _).alloc (Nat.le_refl _) _))
  ·intro a wx hC hsz hK
   obtain⟨D,h1,h2,cs,h3,h4⟩:=hK.2 ⟨8,.data⟩ (by simp) rfl _ rfl;have h0:a.tmps.getD 15 undef=dv (quoV ((x%2^256)*(y%2^256)) z):=hK.2 ⟨6,.data⟩ (by simp) rfl _ rfl;exact tt_store (by kernel_rfl) rfl (run_store 123 (.tmp 7) (.tmp 15) _ _ rfl h1 h0 (store_dw h3 h4)) (hC.rowed h2) ⟨D,h1,h2,setRow_heap _ _ _ _ _ _ h3⟩ (RT.row h2 h3 h4)
  ·intro a wx hC hsz hK
   obtain⟨D,h1,h2,cs,h3,h4⟩:=hK.2 ⟨9,.data⟩ (by simp) rfl _ rfl;have h0:a.tmps.getD 16 undef=wv (remV ((x%2^256)*(y%2^256)) z):=hK.2 ⟨7,.data⟩ (by simp) rfl _ rfl;exact tt_store (by kernel_rfl) rfl (run_store 24 (.tmp 8) (.tmp 16) _ _ rfl h1 h0 (store_qw h3 h4)) (hC.rowed h2) ⟨D,h1,h2,setRow_heap _ _ _ _ _ _ h3⟩ (RT.row h2 h3 h4)
 ·intro f wx hC hf
  have s10:=hf 0 _ rfl;have s11:=hf 1 _ rfl;have s12:=hf 2 _ rfl;have s13:=hf 3 _ rfl;have s14:=hf 4 _ rfl;have s9:=hf 5 _ rfl;have s15:=hf 6 _ rfl;have s16:=hf 7 _ rfl;obtain⟨D7,s7,g7,r7⟩:=hf 10 _ rfl;obtain⟨D8,s8,g8,r8⟩:=hf 11 _ rfl;clear hf;generalize hA:putAll _ _ _=A at *;have hsz:A.tmps.size=18:=by rw[<- hA,putAll_size];rfl
  have t0:A.tmps.getD 0 undef=.agg (pw x):=by subst hA;kernel_rfl
  have t1:A.tmps.getD 1 undef=.agg (pw y):=by subst hA;kernel_rfl
  have t2:A.tmps.getD 2 undef=.agg (pw z):=by subst hA;kernel_rfl
  have t3:A.tmps.getD 3 undef=.pointer (some ⟨w.heap.size,0,none⟩):=by subst hA;kernel_rfl
  have t4:A.tmps.getD 4 undef=.pointer (some ⟨w.heap.size+1,0,none⟩):=by subst hA;kernel_rfl
  have t5:A.tmps.getD 5 undef=.pointer (some ⟨w.heap.size+1+1,0,none⟩):=by subst hA;kernel_rfl
  have t6:A.tmps.getD 6 undef=.pointer (some ⟨w.heap.size+1+1+1,0,none⟩):=by subst hA;kernel_rfl
  have t17:A.tmps.getD 17 undef=undef:=by subst hA;kernel_rfl
  have hd:A.defers=[]:=by subst hA;kernel_rfl
  clear hA;obtain⟨tm,df⟩:=A;simp only[slots]at *;have hL:=arr_lit tm;rw[hsz]at hL;simp only[List.range,List.range.loop,List.map]at hL;rw[t0,t1,t2,t3,t4,t5,t6,s7,s8,s9,s10,s11,s12,s13,s14,s15,s16,t17]at hL;subst hL hd;clear t0 t1 t2 t3 t4 t5 t6 s7 s8 s9 s10 s11 s12 s13 s14 s15 s16 t17 hsz;have hr:wx.heap[D8]?=some (.cells (pw (remV ((x%2^256)*(y%2^256)) z)) 24 (0,0)):=r8;have HC:=Lib.hid hC;clear hC
  go_wp2_with (first | (refine wpList_load_row rfl 24 _ rfl D8 rfl 24 (pw (remV ((x%2^256)*(y%2^256)) z)) (0,0) _ hr Tryz.underlying24 rfl infoWord ?_) | (refine wpList_store_row rfl 24 _ _ rfl (w.heap.size+1+1+1) (pw (remV ((x%2^256)*(y%2^256)) z)) rfl rfl 24 #[.int .u64 0,.int .u64 0,.int .u64 0,.int .u64 0] HC.out.r3 infoWord rfl (pw_one _) ?_))
  (try simp only[Exit.inBlock,Exit.then])
  exact bodyPost_ret (v:=.agg (pw (remV ((x%2^256)*(y%2^256)) z))) (results_cell_row (p:=6) rfl _ _ (w.heap.size+1+1+1) 24 _ (0,0) _ rfl (setRow_heap _ _ _ _ _ _ HC.out.r3) Tryz.underlying24 rfl infoWord) rfl ⟨rfl,below_setRow HC.out.old (by omega) _⟩
end Go.Proofs.YthnckclbeecnmaaGreat
