/- What (*Field).Exp comes to. (Cut to what is reached, written closely: FExp.) -/
import Derived.Test.YthnckclbeecnmaaGreatF23
import Derived.Deep.DeepCutAuto
set_option linter.all false
set_option maxRecDepth 100000
set_option maxHeartbeats 8000000
namespace Go.Proofs.YthnckclbeecnmaaGreat
open Go.RowKit
theorem mnt_pwq{m:Nat}(ho:m%2=1)(h1:1<m)(a x y:Nat):mnt m (pwq m a x) (pwq m a y)=pwq m a (x+y):=by
 unfold pwq;rw[mnt_both ho h1,Nat.pow_add]
theorem pwq_out{m:Nat}(ho:m%2=1)(h1:1<m)(a x:Nat):mnt m (pwq m a x) 1=a^x%m:=by
 unfold pwq;rw[mnt_back ho h1,Nat.mul_one]
theorem dig_next(e i:Nat):e / 16^(i+1)*16+e / 16^i%16=e / 16^i:=by
 rw[Nat.pow_succ,<- Nat.div_div_eq_div_mul];omega
theorem dig_of(e i:Nat)(he:e<2^256):pN e (i / 16) / 2^(i%16*4)%16=e / 16^i%16:=by
 unfold pN;rw[Nat.mod_eq_of_lt he];have h1:(16:Nat)^i=2^(64*(i / 16))*2^(i%16*4):=by
  rw[<- Nat.pow_add,show(16:Nat)=2^4 from rfl,<- Nat.pow_mul];congr 1;omega
 rw[h1,<- Nat.div_div_eq_div_mul];have h2:18446744073709551616=2^(i%16*4)*(16*2^(60 - i%16*4)):=by
  rw[show 18446744073709551616=2^64 from rfl,show(16:Nat)=2^4 from rfl,<- Nat.pow_add,<- Nat.pow_add];congr 1;omega
 generalize e / 2^(64*(i / 16))=z;rw[h2,Nat.mod_mul_right_div_self,Nat.mod_mul_right_mod]
theorem and_15(z:Nat)(h:z<18446744073709551616):bits .and .u64 (z:Int) 15=((z%16:Nat):Int):=by
 have:=bits_and_u64_nat z 15 h (by omega);rw[show z &&& 15=z%16 from Nat.and_two_pow_sub_one_eq_mod z 4]at this;exact this
theorem ix_tabu(V k:Nat)(hk:k<16)(w:World):(Instr.indexAt 113 (.pointer (some ⟨V,0,none⟩)) (.int .u64 (k:Nat))).run Tryz.prog w=.ok (.pointer (some ⟨V,k*4,none⟩)) w:=by
 have h0:(0:Int)<=k:=by omega
 have h1:(k:Int)<16:=by omega
 go_simp
structure CX (w:World) (F m a e V O:Nat) (q:Nat->Nat) (x:Nat) (wx:World):Prop where
 old:Below w.heap.size w wx
 fld:FldAt wx F m
 hF:F<w.heap.size
 r0:wx.heap[w.heap.size]?=some (.cells (pw a) 24 (0,0))
 r1:wx.heap[w.heap.size+1]?=some (.cells (pw e) 24 (0,0))
 r2:wx.heap[w.heap.size+1+1]?=some (.cells (#[.int .u64 0,.int .u64 0,.int .u64 0,.int .u64 0]) 24 (0,0))
 rV:wx.heap[V]?=some (.cells (ar .u64 64 (tabF q)) 113 (0,0))
 rO:wx.heap[O]?=some (.cells (pw x) 24 (0,0))
 hV:w.heap.size+3<=V/\V<O
theorem CX.below{w wx w':World}{F m a e V O x:Nat}{q:Nat->Nat}(c:CX w F m a e V O q x wx)(hb:Below wx.heap.size wx w'):CX w F m a e V O q x w' :=
 ⟨c.old.trans (hb.mono c.old.size),c.fld.below hb,c.hF,(hb.block _ (Array.getElem?_eq_some_iff.1 c.r0).1).trans c.r0,(hb.block _ (Array.getElem?_eq_some_iff.1 c.r1).1).trans c.r1,(hb.block _ (Array.getElem?_eq_some_iff.1 c.r2).1).trans c.r2,(hb.block _ (Array.getElem?_eq_some_iff.1 c.rV).1).trans c.rV,(hb.block _ (Array.getElem?_eq_some_iff.1 c.rO).1).trans c.rO,c.hV⟩
theorem CX.drew{w wx:World}{F m a e V O x:Nat}{q:Nat->Nat}(c:CX w F m a e V O q x wx):CX w F m a e V O q x wx.drew:=c.below (Below.drew (Below.refl _ _))
theorem CX.put{w wx:World}{F m a e V O x:Nat}{q:Nat->Nat}(c:CX w F m a e V O q x wx)(y:Nat):CX w F m a e V O q y (wx.setRow O (pw y)):=by
 have h:=c.hV;have hF:=c.hF;exact⟨below_setRow c.old (by omega) _,fld_row c.fld (by omega),hF,(setRow_other _ _ _ _ (by omega)).trans c.r0,(setRow_other _ _ _ _ (by omega)).trans c.r1,(setRow_other _ _ _ _ (by omega)).trans c.r2,(setRow_other _ _ _ _ (by omega)).trans c.rV,setRow_heap _ _ _ _ _ _ c.rO,h⟩
theorem CX.times{w:World}{F m a e V O x y z:Nat}{q:Nat->Nat}(hx:x<m)(hy:y<m)(hm:m<2^256)(hz:mnt m x y=z){x0:Nat}:∀ wx,CX w F m a e V O q x0 wx->Calls Tryz.prog 95 #[.pointer (some ⟨F,0,none⟩),.agg (pw x),.agg (pw y)] wx fun e' w'=>e'=.returned (.agg (pw z))/\CX w F m a e V O q x0 w' :=
 fun wx c=>(times_any F m x y (Nat.lt_trans hx hm) (Nat.lt_trans hy hm) (prod_lt (Nat.lt_trans hx hm) hy) wx c.fld).mono fun _ _ hh=>⟨by rw[hh.1,hz],c.below hh.2⟩
theorem CX.start{w w1:World}{F m a e:Nat}{q:Nat->Nat}{cz:Array Value}(hF:FldAt w F m)(hb:Below (w.heap.size+3) (((w.alloc (.cells (pw a) 24)).alloc (.cells (pw e) 24)).alloc (.cells (#[.int .u64 0,.int .u64 0,.int .u64 0,.int .u64 0]) 24)) w1):CX w F m a e w1.heap.size (w1.heap.size+1) q (q 0) ((((w1.alloc (.cells cz 113)).setRow w1.heap.size (ar .u64 64 (tabF q))).alloc (.cells (#[.int .u64 0,.int .u64 0,.int .u64 0,.int .u64 0]) 24)).setRow (w1.heap.size+1) (pw (q 0))):=by
 have c:=CW.two hF a e;have hs:=hb.size;simp only[World.size_alloc]at hs;have hl:=hF.less;have c1:=c.fld.below (hb.mono (by simp));have hb2:Below w1.heap.size w1 (w1.alloc (.cells cz 113)):=(Below.refl _ _).alloc (Nat.le_refl _) _;have hb3:Below w1.heap.size w1 ((w1.alloc (.cells cz 113)).setRow w1.heap.size (ar .u64 64 (tabF q))):=below_setRow hb2 (Nat.le_refl _) _;have hsz:((w1.alloc (.cells cz 113)).setRow w1.heap.size (ar .u64 64 (tabF q))).heap.size=w1.heap.size+1:=by rw[setRow_size];simp
 have hb4:Below w1.heap.size w1 (((w1.alloc (.cells cz 113)).setRow w1.heap.size (ar .u64 64 (tabF q))).alloc (.cells (#[.int .u64 0,.int .u64 0,.int .u64 0,.int .u64 0]) 24)):=hb3.alloc (by rw[hsz];omega) _;have hb5:Below w1.heap.size w1 ((((w1.alloc (.cells cz 113)).setRow w1.heap.size (ar .u64 64 (tabF q))).alloc (.cells (#[.int .u64 0,.int .u64 0,.int .u64 0,.int .u64 0]) 24)).setRow (w1.heap.size+1) (pw (q 0))):=below_setRow hb4 (by omega) _;have hrV:((w1.alloc (.cells cz 113)).setRow w1.heap.size (ar .u64 64 (tabF q))).heap[w1.heap.size]?=some (.cells (ar .u64 64 (tabF q)) 113 (0,0)):=setRow_heap _ _ _ _ _ _ (heap_alloc_new _ _);have hnw:=heap_alloc_new ((w1.alloc (.cells cz 113)).setRow w1.heap.size (ar .u64 64 (tabF q))) (.cells (#[.int .u64 0,.int .u64 0,.int .u64 0,.int .u64 0]) 24);rw[hsz]at hnw;have go:∀ k,k<w.heap.size+3->∀ o,(((w.alloc (.cells (pw a) 24)).alloc (.cells (pw e) 24)).alloc (.cells (#[.int .u64 0,.int .u64 0,.int .u64 0,.int .u64 0]) 24)).heap[k]?=some o->((((w1.alloc (.cells cz 113)).setRow w1.heap.size (ar .u64 64 (tabF q))).alloc (.cells (#[.int .u64 0,.int .u64 0,.int .u64 0,.int .u64 0]) 24)).setRow (w1.heap.size+1) (pw (q 0))).heap[k]?=some o:=fun k hk o ho=>(hb5.block _ (by omega)).trans ((hb.block _ hk).trans ho);exact⟨(c.old.trans (hb.mono (by omega))).trans (hb5.mono (by omega)),c1.below hb5,hl,go _ (by omega) _ (c.is _ _ (by simp)),go _ (by omega) _ (c.is _ _ (by simp)),go _ (by omega) _ (c.is _ _ (by simp)),(setRow_other _ _ _ _ (by omega)).trans ((((Below.refl (w1.heap.size+1) ((w1.alloc (.cells cz 113)).setRow w1.heap.size (ar .u64 64 (tabF q)))).alloc (by rw[hsz];omega) (.cells (#[.int .u64 0,.int .u64 0,.int .u64 0,.int .u64 0]) 24)).block _ (by omega)).trans hrV),setRow_heap _ _ _ _ _ _ hnw,⟨by omega,by omega⟩⟩
-- WHAT Exp COMES TO.
theorem fexp_any(F m a e:Nat)(ha:a<2^256)(he:e<2^256)(w:World)(hF:FldAt w F m):Calls Tryz.prog 90 #[.pointer (some ⟨F,0,none⟩),.agg (pw a),.agg (pw e)] w fun e' w'=>e'=.returned (.agg (pw (a^e%m)))/\Below w.heap.size w w':=by
 have HO:=Lib.hid (And.intro hF.odd (And.intro hF.big (And.intro hF.lt he)));have HFF:=Lib.hid hF;have HC2:=Lib.hid (CW.two hF a e);have HPW:=Lib.hid (fun wx (c:CW w F m [(w.heap.size+1+1,#[.int .u64 0,.int .u64 0,.int .u64 0,.int .u64 0]),(w.heap.size+1,pw e),(w.heap.size,pw a)] wx)=>powers_any F m a ha wx c.fld);have HLN:=Lib.hid (fun wx=>len_pw e wx);have hbl:=bl_le e 256;have hbs:=(bl_spec e 256).1;rw[show(2:Nat)^256=2^256 from rfl,Nat.mod_mod,Nat.mod_eq_of_lt he]at hbs;obtain⟨n,hn⟩:∃ n,bl e 256=n:=⟨_,rfl⟩
 rw[hn]at HLN hbl hbs;obtain⟨L,hL⟩:∃ L,(n+3) / 4=L:=⟨_,rfl⟩
 have HL0:=Lib.hid (show e / 16^L=0 from Nat.div_eq_of_lt (Nat.lt_of_lt_of_le hbs (by rw[show(16:Nat)=2^4 from rfl,<- Nat.pow_mul];exact Nat.pow_le_pow_right (by omega) (by omega))));have HLL:=Lib.hid (show L<=64 by omega);obtain⟨n3,hn3⟩:∃ n3,n+3=n3:=⟨_,rfl⟩
 have e1:(n:Int)+3=(n3:Int):=by omega
 have e2:IntKind.i64.wrap (n3:Int)=(n3:Int):=by rw[IntKind.wrap_i64];omega
 have e3:(n3:Int).tdiv 4=(L:Int):=by rw[Int.tdiv_eq_ediv_of_nonneg (by omega)];omega
 have e4:(n3:Int) / 4=(L:Int):=by omega
 have e5:IntKind.i64.wrap (L:Int)=(L:Int):=by rw[IntKind.wrap_i64];omega
 have e6:IntKind.i64.wrap ((L:Int) - 1)=(L:Int) - 1:=by rw[IntKind.wrap_i64];omega
 have hn30:(0:Int)<=n3:=by omega
 obtain⟨q,hq⟩:∃ q,tabQ m a 15=q:=⟨_,rfl⟩
 rw[hq]at HPW;have HQ:=Lib.hid (show ∀ d,d<16->q d=pwq m a d from fun d hd=>by rw[<- hq];unfold tabQ;rw[if_pos (by omega)]);clear hq hF ha he hbl hbs hn hL hn3;go_enter Tryz.func90,Tryz.ntmps90
 go_wp2_with (refine wpList_ld rfl 24 _ rfl (.pointer (some ⟨w.heap.size,0,none⟩)) (.agg (pw a)) rfl (ld_pw (by exact HC2.out.is _ _ (by simp))) ?_)
 refine(HPW.out _ HC2.out).mono ?_;rintro e' w1 ⟨rfl,hb1⟩;have HX:=Lib.hid (CX.start (cz:=#[.int .u64 0,.int .u64 0,.int .u64 0,.int .u64 0,.int .u64 0,.int .u64 0,.int .u64 0,.int .u64 0,.int .u64 0,.int .u64 0,.int .u64 0,.int .u64 0,.int .u64 0,.int .u64 0,.int .u64 0,.int .u64 0,.int .u64 0,.int .u64 0,.int .u64 0,.int .u64 0,.int .u64 0,.int .u64 0,.int .u64 0,.int .u64 0,.int .u64 0,.int .u64 0,.int .u64 0,.int .u64 0,.int .u64 0,.int .u64 0,.int .u64 0,.int .u64 0,.int .u64 0,.int .u64 0,.int .u64 0,.int .u64 0,.int .u64 0,.int .u64 0,.int .u64 0,.int .u64 0,.int .u64 0,.int .u64 0,.int .u64 0,.int .u64 0,.int .u64 0,.int .u64 0,.int .u64 0,.int .u64 0,.int .u64 0,.int .u64 0,.int .u64 0,.int .u64 0,.int .u64 0,.int .u64 0,.int .u64 0,.int .u64 0,.int .u64 0,.int .u64 0,.int .u64 0,.int .u64 0,.int .u64 0,.int .u64 0,.int .u64 0,.int .u64 0]) (q:=q) HFF.out (hb1.mono (by simp)));have HV0:=Lib.hid (heap_alloc_new w1 (.cells (#[.int .u64 0,.int .u64 0,.int .u64 0,.int .u64 0,.int .u64 0,.int .u64 0,.int .u64 0,.int .u64 0,.int .u64 0,.int .u64 0,.int .u64 0,.int .u64 0,.int .u64 0,.int .u64 0,.int .u64 0,.int .u64 0,.int .u64 0,.int .u64 0,.int .u64 0,.int .u64 0,.int .u64 0,.int .u64 0,.int .u64 0,.int .u64 0,.int .u64 0,.int .u64 0,.int .u64 0,.int .u64 0,.int .u64 0,.int .u64 0,.int .u64 0,.int .u64 0,.int .u64 0,.int .u64 0,.int .u64 0,.int .u64 0,.int .u64 0,.int .u64 0,.int .u64 0,.int .u64 0,.int .u64 0,.int .u64 0,.int .u64 0,.int .u64 0,.int .u64 0,.int .u64 0,.int .u64 0,.int .u64 0,.int .u64 0,.int .u64 0,.int .u64 0,.int .u64 0,.int .u64 0,.int .u64 0,.int .u64 0,.int .u64 0,.int .u64 0,.int .u64 0,.int .u64 0,.int .u64 0,.int .u64 0,.int .u64 0,.int .u64 0,.int .u64 0]) 113));have HV1:=Lib.hid (show((w1.alloc (.cells (#[.int .u64 0,.int .u64 0,.int .u64 0,.int .u64 0,.int .u64 0,.int .u64 0,.int .u64 0,.int .u64 0,.int .u64 0,.int .u64 0,.int .u64 0,.int .u64 0,.int .u64 0,.int .u64 0,.int .u64 0,.int .u64 0,.int .u64 0,.int .u64 0,.int .u64 0,.int .u64 0,.int .u64 0,.int .u64 0,.int .u64 0,.int .u64 0,.int .u64 0,.int .u64 0,.int .u64 0,.int .u64 0,.int .u64 0,.int .u64 0,.int .u64 0,.int .u64 0,.int .u64 0,.int .u64 0,.int .u64 0,.int .u64 0,.int .u64 0,.int .u64 0,.int .u64 0,.int .u64 0,.int .u64 0,.int .u64 0,.int .u64 0,.int .u64 0,.int .u64 0,.int .u64 0,.int .u64 0,.int .u64 0,.int .u64 0,.int .u64 0,.int .u64 0,.int .u64 0,.int .u64 0,.int .u64 0,.int .u64 0,.int .u64 0,.int .u64 0,.int .u64 0,.int .u64 0,.int .u64 0,.int .u64 0,.int .u64 0,.int .u64 0,.int .u64 0]) 113)).setRow w1.heap.size (ar .u64 64 (tabF q))).heap[w1.heap.size]?=some (.cells (ar .u64 64 (tabF q)) 113 (0,0)) from setRow_heap _ _ _ _ _ _ HV0.out);have hsz1:((w1.alloc (.cells (#[.int .u64 0,.int .u64 0,.int .u64 0,.int .u64 0,.int .u64 0,.int .u64 0,.int .u64 0,.int .u64 0,.int .u64 0,.int .u64 0,.int .u64 0,.int .u64 0,.int .u64 0,.int .u64 0,.int .u64 0,.int .u64 0,.int .u64 0,.int .u64 0,.int .u64 0,.int .u64 0,.int .u64 0,.int .u64 0,.int .u64 0,.int .u64 0,.int .u64 0,.int .u64 0,.int .u64 0,.int .u64 0,.int .u64 0,.int .u64 0,.int .u64 0,.int .u64 0,.int .u64 0,.int .u64 0,.int .u64 0,.int .u64 0,.int .u64 0,.int .u64 0,.int .u64 0,.int .u64 0,.int .u64 0,.int .u64 0,.int .u64 0,.int .u64 0,.int .u64 0,.int .u64 0,.int .u64 0,.int .u64 0,.int .u64 0,.int .u64 0,.int .u64 0,.int .u64 0,.int .u64 0,.int .u64 0,.int .u64 0,.int .u64 0,.int .u64 0,.int .u64 0,.int .u64 0,.int .u64 0,.int .u64 0,.int .u64 0,.int .u64 0,.int .u64 0]) 113)).setRow w1.heap.size (ar .u64 64 (tabF q))).heap.size=w1.heap.size+1:=by rw[setRow_size];simp
 have HV2:=Lib.hid (show(((w1.alloc (.cells (#[.int .u64 0,.int .u64 0,.int .u64 0,.int .u64 0,.int .u64 0,.int .u64 0,.int .u64 0,.int .u64 0,.int .u64 0,.int .u64 0,.int .u64 0,.int .u64 0,.int .u64 0,.int .u64 0,.int .u64 0,.int .u64 0,.int .u64 0,.int .u64 0,.int .u64 0,.int .u64 0,.int .u64 0,.int .u64 0,.int .u64 0,.int .u64 0,.int .u64 0,.int .u64 0,.int .u64 0,.int .u64 0,.int .u64 0,.int .u64 0,.int .u64 0,.int .u64 0,.int .u64 0,.int .u64 0,.int .u64 0,.int .u64 0,.int .u64 0,.int .u64 0,.int .u64 0,.int .u64 0,.int .u64 0,.int .u64 0,.int .u64 0,.int .u64 0,.int .u64 0,.int .u64 0,.int .u64 0,.int .u64 0,.int .u64 0,.int .u64 0,.int .u64 0,.int .u64 0,.int .u64 0,.int .u64 0,.int .u64 0,.int .u64 0,.int .u64 0,.int .u64 0,.int .u64 0,.int .u64 0,.int .u64 0,.int .u64 0,.int .u64 0,.int .u64 0]) 113)).setRow w1.heap.size (ar .u64 64 (tabF q))).alloc (.cells (#[.int .u64 0,.int .u64 0,.int .u64 0,.int .u64 0]) 24)).heap[w1.heap.size+1]?=some (.cells (#[.int .u64 0,.int .u64 0,.int .u64 0,.int .u64 0]) 24 (0,0)) from by
  have:=heap_alloc_new ((w1.alloc (.cells (#[.int .u64 0,.int .u64 0,.int .u64 0,.int .u64 0,.int .u64 0,.int .u64 0,.int .u64 0,.int .u64 0,.int .u64 0,.int .u64 0,.int .u64 0,.int .u64 0,.int .u64 0,.int .u64 0,.int .u64 0,.int .u64 0,.int .u64 0,.int .u64 0,.int .u64 0,.int .u64 0,.int .u64 0,.int .u64 0,.int .u64 0,.int .u64 0,.int .u64 0,.int .u64 0,.int .u64 0,.int .u64 0,.int .u64 0,.int .u64 0,.int .u64 0,.int .u64 0,.int .u64 0,.int .u64 0,.int .u64 0,.int .u64 0,.int .u64 0,.int .u64 0,.int .u64 0,.int .u64 0,.int .u64 0,.int .u64 0,.int .u64 0,.int .u64 0,.int .u64 0,.int .u64 0,.int .u64 0,.int .u64 0,.int .u64 0,.int .u64 0,.int .u64 0,.int .u64 0,.int .u64 0,.int .u64 0,.int .u64 0,.int .u64 0,.int .u64 0,.int .u64 0,.int .u64 0,.int .u64 0,.int .u64 0,.int .u64 0,.int .u64 0,.int .u64 0]) 113)).setRow w1.heap.size (ar .u64 64 (tabF q))) (.cells (#[.int .u64 0,.int .u64 0,.int .u64 0,.int .u64 0]) 24);rwa [hsz1]at this)
 have HV3:=Lib.hid (show(((w1.alloc (.cells (#[.int .u64 0,.int .u64 0,.int .u64 0,.int .u64 0,.int .u64 0,.int .u64 0,.int .u64 0,.int .u64 0,.int .u64 0,.int .u64 0,.int .u64 0,.int .u64 0,.int .u64 0,.int .u64 0,.int .u64 0,.int .u64 0,.int .u64 0,.int .u64 0,.int .u64 0,.int .u64 0,.int .u64 0,.int .u64 0,.int .u64 0,.int .u64 0,.int .u64 0,.int .u64 0,.int .u64 0,.int .u64 0,.int .u64 0,.int .u64 0,.int .u64 0,.int .u64 0,.int .u64 0,.int .u64 0,.int .u64 0,.int .u64 0,.int .u64 0,.int .u64 0,.int .u64 0,.int .u64 0,.int .u64 0,.int .u64 0,.int .u64 0,.int .u64 0,.int .u64 0,.int .u64 0,.int .u64 0,.int .u64 0,.int .u64 0,.int .u64 0,.int .u64 0,.int .u64 0,.int .u64 0,.int .u64 0,.int .u64 0,.int .u64 0,.int .u64 0,.int .u64 0,.int .u64 0,.int .u64 0,.int .u64 0,.int .u64 0,.int .u64 0,.int .u64 0]) 113)).setRow w1.heap.size (ar .u64 64 (tabF q))).alloc (.cells (#[.int .u64 0,.int .u64 0,.int .u64 0,.int .u64 0]) 24)).heap[w1.heap.size]?=some (.cells (ar .u64 64 (tabF q)) 113 (0,0)) from by
  have h:=((Below.refl (w1.heap.size+1) ((w1.alloc (.cells (#[.int .u64 0,.int .u64 0,.int .u64 0,.int .u64 0,.int .u64 0,.int .u64 0,.int .u64 0,.int .u64 0,.int .u64 0,.int .u64 0,.int .u64 0,.int .u64 0,.int .u64 0,.int .u64 0,.int .u64 0,.int .u64 0,.int .u64 0,.int .u64 0,.int .u64 0,.int .u64 0,.int .u64 0,.int .u64 0,.int .u64 0,.int .u64 0,.int .u64 0,.int .u64 0,.int .u64 0,.int .u64 0,.int .u64 0,.int .u64 0,.int .u64 0,.int .u64 0,.int .u64 0,.int .u64 0,.int .u64 0,.int .u64 0,.int .u64 0,.int .u64 0,.int .u64 0,.int .u64 0,.int .u64 0,.int .u64 0,.int .u64 0,.int .u64 0,.int .u64 0,.int .u64 0,.int .u64 0,.int .u64 0,.int .u64 0,.int .u64 0,.int .u64 0,.int .u64 0,.int .u64 0,.int .u64 0,.int .u64 0,.int .u64 0,.int .u64 0,.int .u64 0,.int .u64 0,.int .u64 0,.int .u64 0,.int .u64 0,.int .u64 0,.int .u64 0]) 113)).setRow w1.heap.size (ar .u64 64 (tabF q)))).alloc (by rw[hsz1];omega) (.cells (#[.int .u64 0,.int .u64 0,.int .u64 0,.int .u64 0]) 24)).block w1.heap.size (by omega);exact h.trans HV1.out)
 clear hb1 HC2 HPW hsz1
 go_upto_region 3 with(first | (refine wpList_store_row rfl 113 _ _ rfl w1.heap.size (ar .u64 64 (tabF q)) rfl rfl 113 (#[.int .u64 0,.int .u64 0,.int .u64 0,.int .u64 0,.int .u64 0,.int .u64 0,.int .u64 0,.int .u64 0,.int .u64 0,.int .u64 0,.int .u64 0,.int .u64 0,.int .u64 0,.int .u64 0,.int .u64 0,.int .u64 0,.int .u64 0,.int .u64 0,.int .u64 0,.int .u64 0,.int .u64 0,.int .u64 0,.int .u64 0,.int .u64 0,.int .u64 0,.int .u64 0,.int .u64 0,.int .u64 0,.int .u64 0,.int .u64 0,.int .u64 0,.int .u64 0,.int .u64 0,.int .u64 0,.int .u64 0,.int .u64 0,.int .u64 0,.int .u64 0,.int .u64 0,.int .u64 0,.int .u64 0,.int .u64 0,.int .u64 0,.int .u64 0,.int .u64 0,.int .u64 0,.int .u64 0,.int .u64 0,.int .u64 0,.int .u64 0,.int .u64 0,.int .u64 0,.int .u64 0,.int .u64 0,.int .u64 0,.int .u64 0,.int .u64 0,.int .u64 0,.int .u64 0,.int .u64 0,.int .u64 0,.int .u64 0,.int .u64 0,.int .u64 0]) (by exact HV0.out) (by rw[ar_size];exact info64) (by rw[ar_size];rfl) (ar_one _ _ _) ?_) | (refine wpList_ld rfl 24 _ rfl (.pointer (some ⟨w1.heap.size,0,none⟩)) (.agg (pw (q 0))) rfl (ld_tab (by first | exact HV1.out | exact HV3.out) 0 (by omega)) ?_) | (refine wpList_store_row rfl 24 _ _ rfl (w1.heap.size+1) (pw (q 0)) rfl rfl 24 (#[.int .u64 0,.int .u64 0,.int .u64 0,.int .u64 0]) (by exact HV2.out) (by rw[pw_size];exact infoW4) (by rw[pw_size];rfl) (pw_one _) ?_))
 obtain⟨w2,hw2⟩:∃ w2,(((w1.alloc (.cells (#[.int .u64 0,.int .u64 0,.int .u64 0,.int .u64 0,.int .u64 0,.int .u64 0,.int .u64 0,.int .u64 0,.int .u64 0,.int .u64 0,.int .u64 0,.int .u64 0,.int .u64 0,.int .u64 0,.int .u64 0,.int .u64 0,.int .u64 0,.int .u64 0,.int .u64 0,.int .u64 0,.int .u64 0,.int .u64 0,.int .u64 0,.int .u64 0,.int .u64 0,.int .u64 0,.int .u64 0,.int .u64 0,.int .u64 0,.int .u64 0,.int .u64 0,.int .u64 0,.int .u64 0,.int .u64 0,.int .u64 0,.int .u64 0,.int .u64 0,.int .u64 0,.int .u64 0,.int .u64 0,.int .u64 0,.int .u64 0,.int .u64 0,.int .u64 0,.int .u64 0,.int .u64 0,.int .u64 0,.int .u64 0,.int .u64 0,.int .u64 0,.int .u64 0,.int .u64 0,.int .u64 0,.int .u64 0,.int .u64 0,.int .u64 0,.int .u64 0,.int .u64 0,.int .u64 0,.int .u64 0,.int .u64 0,.int .u64 0,.int .u64 0,.int .u64 0]) 113)).setRow w1.heap.size (ar .u64 64 (tabF q))).alloc (.cells (#[.int .u64 0,.int .u64 0,.int .u64 0,.int .u64 0]) 24)).setRow (w1.heap.size+1) (pw (q 0))=w2:=⟨_,rfl⟩
 rw[hw2]at HX |-
 obtain⟨V,hV⟩:∃ V,w1.heap.size=V:=⟨_,rfl⟩
 rw[hV]at HX |-
 obtain⟨O,hO⟩:∃ O,V+1=O:=⟨_,rfl⟩
 rw[hO]at HX |-
 rw[HQ.out 0 (by omega)]at HX |-
 clear hw2 hV hO HV0 HV1 HV2 HV3
 go_wp2_with (refine wpList_ld rfl 24 _ rfl (.pointer (some ⟨w.heap.size+1,0,none⟩)) (.agg (pw e)) rfl (ld_pw (by exact HX.out.r1)) ?_)
 refine(HLN.out _).mono ?_;rintro e' w3 ⟨rfl,hb3⟩;have H3:=Lib.hid (show CX w F m a e V O q (pwq m a (e / 16^L)) w3 from by rw[HL0.out];exact HX.out.below hb3);clear HX hb3 HLN
 go_wp2_with fail
 clear e1 e2 e3 e4 e5 e6 hn30
 go_loopw [9] (fun iv wr=>∃ j:Nat,j<=64/\iv=.int .i64 ((j:Int) - 1)/\Hid (CX w F m a e V O q (pwq m a (e / 16^j)) wr)) (fun iv _=>(intOf iv+1).toNat)
 case atStart=>exact⟨L,HLL.out,rfl,H3⟩
 case round =>
  obtain⟨j,hj,rfl,H⟩:=hrel;clear H3;by_cases h0:1<=j
  ·obtain⟨i,rfl⟩:∃ i,j=i+1:=⟨j - 1,by omega⟩
   rw[show(((i+1:Nat):Int) - 1)=(i:Int) by omega];have hi0:(0:Int)<=i:=by omega
   have HD:=Lib.hid (dig_next e i);have HDO:=Lib.hid (dig_of e i HO.out.2.2.2);obtain⟨d,hd⟩:∃ d,e / 16^(i+1)=d:=⟨_,rfl⟩
   rw[hd]at HD H;have H4:=Lib.hid (show CX w F m a e V O q (pwq m a (d*2^0)) wr from by rw[Nat.pow_zero,Nat.mul_one];exact H.out);have HI:=Lib.hid hj;clear H hd hj h0
   go_wp2_with fail
   go_loopw [25] (fun iv wr=>∃ k:Nat,k<=4/\iv=.int .i64 k/\Hid (CX w F m a e V O q (pwq m a (d*2^k)) wr)) (fun iv _=>4 - (intOf iv).toNat)
   case atStart=>exact⟨0,by omega,rfl,H4⟩
   case round =>
    obtain⟨k,hk,rfl,H⟩:=hrel;clear H4;have hk0:(0:Int)<=k:=by omega
    by_cases hlt:k<4
    ·have hlt':(k:Int)<4:=by omega
     have hxl:=pwq_lt HO.out.2.1 a (d*2^k);have HT:=Lib.hid (CX.times (w:=w) (F:=F) (a:=a) (e:=e) (V:=V) (O:=O) (q:=q) (x0:=pwq m a (d*2^k)) hxl hxl HO.out.2.2.1 ((mnt_pwq HO.out.1 HO.out.2.1 a (d*2^k) (d*2^k)).trans (by rw[show d*2^k+d*2^k=d*2^(k+1) by rw[Nat.pow_succ,<- Nat.mul_assoc];omega])));obtain⟨x,hx⟩:∃ x,pwq m a (d*2^k)=x:=⟨_,rfl⟩
     obtain⟨y,hy⟩:∃ y,pwq m a (d*2^(k+1))=y:=⟨_,rfl⟩
     rw[hx]at H HT;rw[hy]at HT;have HY:=Lib.hid hy;have HK:=Lib.hid hlt;clear hx hy hxl hk hlt
     go_wp2_with (refine wpList_ld rfl 24 _ rfl (.pointer (some ⟨O,0,none⟩)) (.agg (pw x)) rfl (ld_pw (by exact H.out.rO)) ?_)
     refine(HT.out _ H.out).mono ?_;rintro e' w4 ⟨rfl,c4⟩;have H5:=Lib.hid c4;clear c4 H HT
     go_wp2_with (refine wpList_store_row rfl 24 _ _ rfl (O) (pw y) rfl rfl 24 (pw x) (by exact H5.out.rO) (by rw[pw_size];exact infoW4) (by first | rfl | (rw[pw_size];rfl) | (rw[pw_size,pw_size])) (pw_one _) ?_)
     go_roundw
     case rel=>exact⟨k+1,by have:=HK.out;omega,by go_num,Lib.hid (by rw[HY.out];exact H5.out.put y)⟩
     case measure=>have:=HK.out;simp[intOf];omega
    ·obtain rfl:k=4:=by omega
     have hlt':¬((4:Nat):Int)<4:=by omega
     obtain⟨p,hp⟩:∃ p:Nat,i / 16=p:=⟨_,rfl⟩
     obtain⟨r,hr⟩:∃ r:Nat,i%16=r:=⟨_,rfl⟩
     obtain⟨s,hs⟩:∃ s:Nat,r*4=s:=⟨_,rfl⟩
     have hpl:p<4:=by have:=HI.out;omega
     rw[hp,hr,hs]at HDO;obtain⟨z,hz⟩:∃ z,pN e p=z:=⟨_,rfl⟩
     have hzl:z<18446744073709551616:=by rw[<- hz];exact pN_lt _ _
     rw[hz]at HDO;have hcz:wr.cell? ⟨w.heap.size+1,p,none⟩=some (.int .u64 (z:Nat)):=(cell_of_row _ _ p _ _ _ H.out.r1).trans (by rw[pw_ar,ar_at _ _ _ _ hpl,hz]);obtain⟨g,hg⟩:∃ g,e / 16^i%16=g:=⟨_,rfl⟩
     have hg16:g<16:=by rw[<- hg];exact Nat.mod_lt _ (by omega)
     have hzs:(z:Int) / 2^s=((z / 2^s:Nat):Int):=by push_cast;rfl
     have hzsl:z / 2^s<18446744073709551616:=Nat.lt_of_le_of_lt (Nat.div_le_self _ _) hzl;have han:=and_15 (z / 2^s) hzsl;rw[HDO.out,hg]at han;rw[hg]at HD;have f1:(i:Int).tdiv 16=(p:Int):=by rw[Int.tdiv_eq_ediv_of_nonneg hi0];omega
     have f2:(i:Int).tmod 16=(r:Int):=by rw[Int.tmod_eq_emod_of_nonneg hi0];omega
     have f1':(i:Int) / 16=(p:Int):=by omega
     have f2':(i:Int)%16=(r:Int):=by omega
     have f3:(r:Int)*4=(s:Int):=by omega
     have f4:IntKind.i64.wrap (p:Int)=(p:Int):=by rw[IntKind.wrap_i64];omega
     have f5:IntKind.i64.wrap (r:Int)=(r:Int):=by rw[IntKind.wrap_i64];omega
     have f6:IntKind.i64.wrap (s:Int)=(s:Int):=by rw[IntKind.wrap_i64];omega
     have hp0:(0:Int)<=p:=by omega
     have hp4:(p:Int)<4:=by omega
     have hs0:(0:Int)<=s:=by omega
     have hs64:(s:Int)<64:=by omega
     have hz0:(0:Int)<=z:=by omega
     obtain⟨zs,hzse⟩:∃ zs,z / 2^s=zs:=⟨_,rfl⟩
     rw[hzse]at hzs han hzsl;have hzz:IntKind.u64.wrap ((z:Int) / 2^s)=(zs:Int):=by rw[hzs,IntKind.wrap_u64];omega
     have HN1:=Lib.hid (And.intro HI.out hg16);clear hp hr hs hz hg hzse hzsl hpl HDO hzl hg16;simp only[Int.cast_ofNat_Int]
     go_wp2_with fail
     have HQG:=Lib.hid (HQ.out g HN1.out.2);have hxl:=pwq_lt HO.out.2.1 a (d*2^4);have hyl:=pwq_lt HO.out.2.1 a g;have HT:=Lib.hid (CX.times (w:=w) (F:=F) (a:=a) (e:=e) (V:=V) (O:=O) (q:=q) (x0:=pwq m a (d*2^4)) hxl hyl HO.out.2.2.1 ((mnt_pwq HO.out.1 HO.out.2.1 a (d*2^4) g).trans (by rw[show d*2^4+g=e / 16^i from HD.out])));obtain⟨x,hx⟩:∃ x,pwq m a (d*2^4)=x:=⟨_,rfl⟩
     obtain⟨x2,hx2⟩:∃ x2,pwq m a g=x2:=⟨_,rfl⟩
     obtain⟨y,hy⟩:∃ y,pwq m a (e / 16^i)=y:=⟨_,rfl⟩
     rw[hx]at H HT;rw[hx2]at HT HQG;rw[hy]at HT;have HY:=Lib.hid hy;clear hx hx2 hy hxl hyl;refine region_quiet_tail 6 (CX w F m a e V O q x) (by kernel_rfl) (by kernel_rfl) (H.out.drew) ?_;simp only[List.take_succ_cons,List.take_zero,List.drop_succ_cons,List.drop_zero]
     with_reducible refine q_val (.pointer (some ⟨F,0,none⟩)) (by kernel_rfl) (fun _ _=>by kernel_rfl) ?_
     with_reducible refine q_load 24 (.tmp 8) (.pointer (some ⟨O,0,none⟩)) (.agg (pw x)) rfl (by kernel_rfl) (by kernel_rfl) (fun _ c=>ld_pw c.rO) ?_
     with_reducible refine q_val (.int .u64 (g:Nat)) (by kernel_rfl) (fun _ _=>by kernel_rfl) ?_
     with_reducible refine q_sem2 (Instr.indexAt 113 (.pointer (some ⟨V,0,none⟩)) (.int .u64 (g:Nat))) (.pointer (some ⟨V,g*4,none⟩)) (by kernel_rfl) (by kernel_rfl) (fun w' _=>ix_tabu V g HN1.out.2 w') ?_
     with_reducible refine q_load 24 (.tmp 44) (.pointer (some ⟨V,g*4,none⟩)) (.agg (pw x2)) rfl (by kernel_rfl) (by kernel_rfl) (fun _ c=>(ld_tab c.rV g HN1.out.2).trans (by rw[HQG.out])) ?_
     with_reducible refine q_call 95 #[.pointer (some ⟨F,0,none⟩),.agg (pw x),.agg (pw x2)] (.agg (pw y)) (by kernel_rfl) (fun _=>by kernel_rfl) (HT.out) ?_
     with_reducible refine wpQuiet_nil ?_
     intro wx hC;have HG:=Lib.hid hC;clear hC H HT;simp only[Act.put,List.setIfInBounds_toArray,List.set_cons_succ,List.set_cons_zero]
     go_wp2_with (refine wpList_store_row rfl 24 _ _ rfl (O) (pw y) rfl rfl 24 (pw x) (by exact HG.out.rO) (by rw[pw_size];exact infoW4) (by first | rfl | (rw[pw_size];rfl) | (rw[pw_size,pw_size])) (pw_one _) ?_)
     go_roundw
     case rel=>exact⟨i,by have:=HN1.out.1;omega,by go_num,Lib.hid (by rw[HY.out];exact HG.out.put y)⟩
     case measure=>first | (simp[intOf];done) | (simp[intOf];omega)
  ·obtain rfl:j=0:=by omega
   have hxl:=pwq_lt HO.out.2.1 a e;have HT:=Lib.hid (CX.times (w:=w) (F:=F) (a:=a) (e:=e) (V:=V) (O:=O) (q:=q) (x0:=pwq m a e) hxl HO.out.2.1 HO.out.2.2.1 (pwq_out HO.out.1 HO.out.2.1 a e));have H5:=Lib.hid (show CX w F m a e V O q (pwq m a e) wr from by have h:=H.out;rwa [Nat.pow_zero,Nat.div_one]at h);obtain⟨x,hx⟩:∃ x,pwq m a e=x:=⟨_,rfl⟩
   obtain⟨y,hy⟩:∃ y,a^e%m=y:=⟨_,rfl⟩
   rw[hx]at H5 HT;rw[hy]at HT;have HY:=Lib.hid hy;clear hx hy hxl H hj h0;rw[show(((0:Nat):Int) - 1)=-1 from rfl]
   go_wp2_with fail
   refine region_quiet_tail 4 (CX w F m a e V O q x) (by kernel_rfl) (by kernel_rfl) (H5.out.drew) ?_;simp only[List.take_succ_cons,List.take_zero,List.drop_succ_cons,List.drop_zero]
   with_reducible refine q_val (.pointer (some ⟨F,0,none⟩)) (by kernel_rfl) (fun _ _=>by kernel_rfl) ?_
   with_reducible refine q_load 24 (.tmp 8) (.pointer (some ⟨O,0,none⟩)) (.agg (pw x)) rfl (by kernel_rfl) (by kernel_rfl) (fun _ c=>ld_pw c.rO) ?_
   with_reducible refine q_call 71 #[.int .u64 (1:Nat)] (.agg (pw 1)) (by kernel_rfl) (fun _=>by kernel_rfl) (fun wx c=>(of_wv 1 (by omega) wx).mono fun e w' hh=>⟨hh.1,c.below hh.2⟩) ?_
   with_reducible refine q_call 95 #[.pointer (some ⟨F,0,none⟩),.agg (pw x),.agg (pw 1)] (.agg (pw y)) (by kernel_rfl) (fun _=>by kernel_rfl) (HT.out) ?_
   with_reducible refine wpQuiet_nil ?_
   intro wx hC;have HG:=Lib.hid hC;clear hC H5 HT;simp only[Act.put,List.setIfInBounds_toArray,List.set_cons_succ,List.set_cons_zero]
   go_wp2_with (refine wpList_store_row rfl 24 _ _ rfl (w.heap.size+1+1) (pw y) rfl rfl 24 (#[.int .u64 0,.int .u64 0,.int .u64 0,.int .u64 0]) (by exact HG.out.r2) (by rw[pw_size];exact infoW4) (by first | rfl | (rw[pw_size];rfl) | (rw[pw_size,pw_size])) (pw_one _) ?_)
   (try simp only[Act.put])
   refine bodyPost_ret (v:=.agg (pw y)) (results_cell_row (p:=6) rfl _ _ (w.heap.size+1+1) 24 (pw y) (0,0) _ rfl (setRow_heap _ _ _ _ _ _ (by exact HG.out.r2)) Tryz.underlying24 rfl (by rw[pw_size];exact infoW4)) rfl ⟨by rw[HY.out],below_setRow HG.out.old (by omega) _⟩
end Go.Proofs.YthnckclbeecnmaaGreat
