/- What (*Field).Inv comes to. (Cut to what is reached, written closely: FExp · FInv.) -/
import Derived.Test.YtadfjjfklihaaaaGreatQ24
import Derived.Deep.DeepCutAuto
set_option linter.all false
set_option maxRecDepth 100000
set_option maxHeartbeats 8000000
namespace Go.Proofs.YtadfjjfklihaaaaGreat
open Go.RowKit
theorem mnt_pwq{m:Nat}(ho:m%2=1)(h1:1<m)(a x y:Nat):mnt m (pwq m a x) (pwq m a y)=pwq m a (x+y):=by
 unfold pwq;rw[mnt_both ho h1,Nat.pow_add]
theorem pwq_out{m:Nat}(ho:m%2=1)(h1:1<m)(a x:Nat):mnt m (pwq m a x) 1=a^x%m:=by
 unfold pwq;rw[mnt_back ho h1,Nat.mul_one]
theorem dig_next(e i:Nat):e / 16^(i+1)*16+e / 16^i%16=e / 16^i:=by
 rw[Nat.pow_succ,<- Nat.div_div_eq_div_mul];omega
theorem dig_of(e i:Nat)(he:e<2^256):pN e (i / 16) / 2^(i%16*4)%16=e / 16^i%16:=by
 unfold pN;rw[Nat.mod_eq_of_lt he];have h1:(16:Nat)^i=2^(64*(i / 16))*2^(i%16*4):=by
  rw[<- Nat.pow_add,show(16:Nat)=2^4 from rfl,<- Nat.pow_mul];congr 1;omega
 rw[h1,<- Nat.div_div_eq_div_mul];have h2:18446744073709551616=2^(i%16*4)*(16*2^(60 - i%16*4)):=by
  rw[show 18446744073709551616=2^64 from rfl,show(16:Nat)=2^4 from rfl,<- Nat.pow_add,<- Nat.pow_add];congr 1;omega
 generalize e / 2^(64*(i / 16))=z;rw[h2,Nat.mod_mul_right_div_self,Nat.mod_mul_right_mod]
theorem and_15(z:Nat)(h:z<18446744073709551616):bits .and .u64 (z:Int) 15=((z%16:Nat):Int):=by
 have:=bits_and_u64_nat z 15 h (by omega);rw[show z &&& 15=z%16 from Nat.and_two_pow_sub_one_eq_mod z 4]at this;exact this
theorem ix_tabu(V k:Nat)(hk:k<16)(w:World):(Instr.indexAt 163 (.pointer (some ⟨V,0,none⟩)) (.int .u64 (k:Nat))).run Tryz.prog w=.ok (.pointer (some ⟨V,k*4,none⟩)) w:=by
 have h0:(0:Int)<=k:=by omega
 have h1:(k:Int)<16:=by omega
 go_simp
structure CX (w:World) (F m a e V O:Nat) (q:Nat->Nat) (x:Nat) (wx:World):Prop where
 old:Below w.heap.size w wx
 fld:FldAt wx F m
 hF:F<w.heap.size
 r0:wx.heap[w.heap.size]?=some (.cells (pw a) 24 (0,0))
 r1:wx.heap[w.heap.size+1]?=some (.cells (pw e) 24 (0,0))
 r2:wx.heap[w.heap.size+1+1]?=some (.cells (#[.int .u64 0,.int .u64 0,.int .u64 0,.int .u64 0]) 24 (0,0))
 rV:wx.heap[V]?=some (.cells (ar .u64 64 (tabF q)) 163 (0,0))
 rO:wx.heap[O]?=some (.cells (pw x) 24 (0,0))
 hV:w.heap.size+3<=V/\V<O
theorem CX.below{w wx w':World}{F m a e V O x:Nat}{q:Nat->Nat}(c:CX w F m a e V O q x wx)(hb:Below wx.heap.size wx w'):CX w F m a e V O q x w' :=
 ⟨c.old.trans (hb.mono c.old.size),c.fld.below hb,c.hF,(hb.block _ (Array.getElem?_eq_some_iff.1 c.r0).1).trans c.r0,(hb.block _ (Array.getElem?_eq_some_iff.1 c.r1).1).trans c.r1,(hb.block _ (Array.getElem?_eq_some_iff.1 c.r2).1).trans c.r2,(hb.block _ (Array.getElem?_eq_some_iff.1 c.rV).1).trans c.rV,(hb.block _ (Array.getElem?_eq_some_iff.1 c.rO).1).trans c.rO,c.hV⟩
theorem CX.drew{w wx:World}{F m a e V O x:Nat}{q:Nat->Nat}(c:CX w F m a e V O q x wx):CX w F m a e V O q x wx.drew:=c.below (Below.drew (Below.refl _ _))
theorem CX.put{w wx:World}{F m a e V O x:Nat}{q:Nat->Nat}(c:CX w F m a e V O q x wx)(y:Nat):CX w F m a e V O q y (wx.setRow O (pw y)):=by
 have h:=c.hV;have hF:=c.hF;exact⟨below_setRow c.old (by omega) _,fld_row c.fld (by omega),hF,(setRow_other _ _ _ _ (by omega)).trans c.r0,(setRow_other _ _ _ _ (by omega)).trans c.r1,(setRow_other _ _ _ _ (by omega)).trans c.r2,(setRow_other _ _ _ _ (by omega)).trans c.rV,setRow_heap _ _ _ _ _ _ c.rO,h⟩
theorem CX.times{w:World}{F m a e V O x y z:Nat}{q:Nat->Nat}(hx:x<m)(hy:y<m)(hm:m<2^256)(hz:mnt m x y=z){x0:Nat}:∀ wx,CX w F m a e V O q x0 wx->Calls Tryz.prog 108 #[.pointer (some ⟨F,0,none⟩),.agg (pw x),.agg (pw y)] wx fun e' w'=>e'=.returned (.agg (pw z))/\CX w F m a e V O q x0 w' :=
 fun wx c=>(times_any F m x y (Nat.lt_trans hx hm) (Nat.lt_trans hy hm) (prod_lt (Nat.lt_trans hx hm) hy) wx c.fld).mono fun _ _ hh=>⟨by rw[hh.1,hz],c.below hh.2⟩
theorem CX.start{w w1:World}{F m a e:Nat}{q:Nat->Nat}{cz:Array Value}(hF:FldAt w F m)(hb:Below (w.heap.size+3) (((w.alloc (.cells (pw a) 24)).alloc (.cells (pw e) 24)).alloc (.cells (#[.int .u64 0,.int .u64 0,.int .u64 0,.int .u64 0]) 24)) w1):CX w F m a e w1.heap.size (w1.heap.size+1) q (q 0) ((((w1.alloc (.cells cz 163)).setRow w1.heap.size (ar .u64 64 (tabF q))).alloc (.cells (#[.int .u64 0,.int .u64 0,.int .u64 0,.int .u64 0]) 24)).setRow (w1.heap.size+1) (pw (q 0))):=by
 have c:=CW.two hF a e;have hs:=hb.size;simp only[World.size_alloc]at hs;have hl:=hF.less;have c1:=c.fld.below (hb.mono (by simp));have hb2:Below w1.heap.size w1 (w1.alloc (.cells cz 163)):=(Below.refl _ _).alloc (Nat.le_refl _) _;have hb3:Below w1.heap.size w1 ((w1.alloc (.cells cz 163)).setRow w1.heap.size (ar .u64 64 (tabF q))):=below_setRow hb2 (Nat.le_refl _) _;have hsz:((w1.alloc (.cells cz 163)).setRow w1.heap.size (ar .u64 64 (tabF q))).heap.size=w1.heap.size+1:=by rw[setRow_size];simp
 have hb4:Below w1.heap.size w1 (((w1.alloc (.cells cz 163)).setRow w1.heap.size (ar .u64 64 (tabF q))).alloc (.cells (#[.int .u64 0,.int .u64 0,.int .u64 0,.int .u64 0]) 24)):=hb3.alloc (by rw[hsz];omega) _;have hb5:Below w1.heap.size w1 ((((w1.alloc (.cells cz 163)).setRow w1.heap.size (ar .u64 64 (tabF q))).alloc (.cells (#[.int .u64 0,.int .u64 0,.int .u64 0,.int .u64 0]) 24)).setRow (w1.heap.size+1) (pw (q 0))):=below_setRow hb4 (by omega) _;have hrV:((w1.alloc (.cells cz 163)).setRow w1.heap.size (ar .u64 64 (tabF q))).heap[w1.heap.size]?=some (.cells (ar .u64 64 (tabF q)) 163 (0,0)):=setRow_heap _ _ _ _ _ _ (heap_alloc_new _ _);have hnw:=heap_alloc_new ((w1.alloc (.cells cz 163)).setRow w1.heap.size (ar .u64 64 (tabF q))) (.cells (#[.int .u64 0,.int .u64 0,.int .u64 0,.int .u64 0]) 24);rw[hsz]at hnw;have go:∀ k,k<w.heap.size+3->∀ o,(((w.alloc (.cells (pw a) 24)).alloc (.cells (pw e) 24)).alloc (.cells (#[.int .u64 0,.int .u64 0,.int .u64 0,.int .u64 0]) 24)).heap[k]?=some o->((((w1.alloc (.cells cz 163)).setRow w1.heap.size (ar .u64 64 (tabF q))).alloc (.cells (#[.int .u64 0,.int .u64 0,.int .u64 0,.int .u64 0]) 24)).setRow (w1.heap.size+1) (pw (q 0))).heap[k]?=some o:=fun k hk o ho=>(hb5.block _ (by omega)).trans ((hb.block _ hk).trans ho);exact⟨(c.old.trans (hb.mono (by omega))).trans (hb5.mono (by omega)),c1.below hb5,hl,go _ (by omega) _ (c.is _ _ (by simp)),go _ (by omega) _ (c.is _ _ (by simp)),go _ (by omega) _ (c.is _ _ (by simp)),(setRow_other _ _ _ _ (by omega)).trans ((((Below.refl (w1.heap.size+1) ((w1.alloc (.cells cz 163)).setRow w1.heap.size (ar .u64 64 (tabF q)))).alloc (by rw[hsz];omega) (.cells (#[.int .u64 0,.int .u64 0,.int .u64 0,.int .u64 0]) 24)).block _ (by omega)).trans hrV),setRow_heap _ _ _ _ _ _ hnw,⟨by omega,by omega⟩⟩
-- WHAT Exp COMES TO.
theorem fexp_any(F m a e:Nat)(ha:a<2^256)(he:e<2^256)(w:World)(hF:FldAt w F m):Calls Tryz.prog 110 #[.pointer (some ⟨F,0,none⟩),.agg (pw a),.agg (pw e)] w fun e' w'=>e'=.returned (.agg (pw (a^e%m)))/\Below w.heap.size w w':=by
 have HO:=Lib.hid (And.intro hF.odd (And.intro hF.big (And.intro hF.lt he)));have HFF:=Lib.hid hF;have HC2:=Lib.hid (CW.two hF a e);have HPW:=Lib.hid (fun wx (c:CW w F m [(w.heap.size+1+1,#[.int .u64 0,.int .u64 0,.int .u64 0,.int .u64 0]),(w.heap.size+1,pw e),(w.heap.size,pw a)] wx)=>powers_any F m a ha wx c.fld);have HLN:=Lib.hid (fun wx=>len_pw e wx);have hbl:=bl_le e 256;have hbs:=(bl_spec e 256).1;rw[show(2:Nat)^256=2^256 from rfl,Nat.mod_mod,Nat.mod_eq_of_lt he]at hbs;obtain⟨n,hn⟩:∃ n,bl e 256=n:=⟨_,rfl⟩
 rw[hn]at HLN hbl hbs;obtain⟨L,hL⟩:∃ L,(n+3) / 4=L:=⟨_,rfl⟩
 have HL0:=Lib.hid (show e / 16^L=0 from Nat.div_eq_of_lt (Nat.lt_of_lt_of_le hbs (by rw[show(16:Nat)=2^4 from rfl,<- Nat.pow_mul];exact Nat.pow_le_pow_right (by omega) (by omega))));have HLL:=Lib.hid (show L<=64 by omega);obtain⟨n3,hn3⟩:∃ n3,n+3=n3:=⟨_,rfl⟩
 have e1:(n:Int)+3=(n3:Int):=by omega
 have e2:IntKind.i64.wrap (n3:Int)=(n3:Int):=by rw[IntKind.wrap_i64];omega
 have e3:(n3:Int).tdiv 4=(L:Int):=by rw[Int.tdiv_eq_ediv_of_nonneg (by omega)];omega
 have e4:(n3:Int) / 4=(L:Int):=by omega
 have e5:IntKind.i64.wrap (L:Int)=(L:Int):=by rw[IntKind.wrap_i64];omega
 have e6:IntKind.i64.wrap ((L:Int) - 1)=(L:Int) - 1:=by rw[IntKind.wrap_i64];omega
 have hn30:(0:Int)<=n3:=by omega
 obtain⟨q,hq⟩:∃ q,tabQ m a 15=q:=⟨_,rfl⟩
 rw[hq]at HPW;have HQ:=Lib.hid (show ∀ d,d<16->q d=pwq m a d from fun d hd=>by rw[<- hq];unfold tabQ;rw[if_pos (by omega)]);clear hq hF ha he hbl hbs hn hL hn3;go_enter Tryz.func110,Tryz.ntmps110
 go_wp2_with (refine wpList_ld rfl 24 _ rfl (.pointer (some ⟨w.heap.size,0,none⟩)) (.agg (pw a)) rfl (ld_pw (by exact HC2.out.is _ _ (by simp))) ?_)
 refine(HPW.out _ HC2.out).mono ?_;rintro e' w1 ⟨rfl,hb1⟩;have HX:=Lib.hid (CX.start (cz:=#[.int .u64 0,.int .u64 0,.int .u64 0,.int .u64 0,.int .u64 0,.int .u64 0,.int .u64 0,.int .u64 0,.int .u64 0,.int .u64 0,.int .u64 0,.int .u64 0,.int .u64 0,.int .u64 0,.int .u64 0,.int .u64 0,.int .u64 0,.int .u64 0,.int .u64 0,.int .u64 0,.int .u64 0,.int .u64 0,.int .u64 0,.int .u64 0,.int .u64 0,.int .u64 0,.int .u64 0,.int .u64 0,.int .u64 0,.int .u64 0,.int .u64 0,.int .u64 0,.int .u64 0,.int .u64 0,.int .u64 0,.int .u64 0,.int .u64 0,.int .u64 0,.int .u64 0,.int .u64 0,.int .u64 0,.int .u64 0,.int .u64 0,.int .u64 0,.int .u64 0,.int .u64 0,.int .u64 0,.int .u64 0,.int .u64 0,.int .u64 0,.int .u64 0,.int .u64 0,.int .u64 0,.int .u64 0,.int .u64 0,.int .u64 0,.int .u64 0,.int .u64 0,.int .u64 0,.int .u64 0,.int .u64 0,.int .u64 0,.int .u64 0,.int .u64 0]) (q:=q) HFF.out (hb1.mono (by simp)));have HV0:=Lib.hid (heap_alloc_new w1 (.cells (#[.int .u64 0,.int .u64 0,.int .u64 0,.int .u64 0,.int .u64 0,.int .u64 0,.int .u64 0,.int .u64 0,.int .u64 0,.int .u64 0,.int .u64 0,.int .u64 0,.int .u64 0,.int .u64 0,.int .u64 0,.int .u64 0,.int .u64 0,.int .u64 0,.int .u64 0,.int .u64 0,.int .u64 0,.int .u64 0,.int .u64 0,.int .u64 0,.int .u64 0,.int .u64 0,.int .u64 0,.int .u64 0,.int .u64 0,.int .u64 0,.int .u64 0,.int .u64 0,.int .u64 0,.int .u64 0,.int .u64 0,.int .u64 0,.int .u64 0,.int .u64 0,.int .u64 0,.int .u64 0,.int .u64 0,.int .u64 0,.int .u64 0,.int .u64 0,.int .u64 0,.int .u64 0,.int .u64 0,.int .u64 0,.int .u64 0,.int .u64 0,.int .u64 0,.int .u64 0,.int .u64 0,.int .u64 0,.int .u64 0,.int .u64 0,.int .u64 0,.int .u64 0,.int .u64 0,.int .u64 0,.int .u64 0,.int .u64 0,.int .u64 0,.int .u64 0]) 163));have HV1:=Lib.hid (show((w1.alloc (.cells (#[.int .u64 0,.int .u64 0,.int .u64 0,.int .u64 0,.int .u64 0,.int .u64 0,.int .u64 0,.int .u64 0,.int .u64 0,.int .u64 0,.int .u64 0,.int .u64 0,.int .u64 0,.int .u64 0,.int .u64 0,.int .u64 0,.int .u64 0,.int .u64 0,.int .u64 0,.int .u64 0,.int .u64 0,.int .u64 0,.int .u64 0,.int .u64 0,.int .u64 0,.int .u64 0,.int .u64 0,.int .u64 0,.int .u64 0,.int .u64 0,.int .u64 0,.int .u64 0,.int .u64 0,.int .u64 0,.int .u64 0,.int .u64 0,.int .u64 0,.int .u64 0,.int .u64 0,.int .u64 0,.int .u64 0,.int .u64 0,.int .u64 0,.int .u64 0,.int .u64 0,.int .u64 0,.int .u64 0,.int .u64 0,.int .u64 0,.int .u64 0,.int .u64 0,.int .u64 0,.int .u64 0,.int .u64 0,.int .u64 0,.int .u64 0,.int .u64 0,.int .u64 0,.int .u64 0,.int .u64 0,.int .u64 0,.int .u64 0,.int .u64 0,.int .u64 0]) 163)).setRow w1.heap.size (ar .u64 64 (tabF q))).heap[w1.heap.size]?=some (.cells (ar .u64 64 (tabF q)) 163 (0,0)) from setRow_heap _ _ _ _ _ _ HV0.out);have hsz1:((w1.alloc (.cells (#[.int .u64 0,.int .u64 0,.int .u64 0,.int .u64 0,.int .u64 0,.int .u64 0,.int .u64 0,.int .u64 0,.int .u64 0,.int .u64 0,.int .u64 0,.int .u64 0,.int .u64 0,.int .u64 0,.int .u64 0,.int .u64 0,.int .u64 0,.int .u64 0,.int .u64 0,.int .u64 0,.int .u64 0,.int .u64 0,.int .u64 0,.int .u64 0,.int .u64 0,.int .u64 0,.int .u64 0,.int .u64 0,.int .u64 0,.int .u64 0,.int .u64 0,.int .u64 0,.int .u64 0,.int .u64 0,.int .u64 0,.int .u64 0,.int .u64 0,.int .u64 0,.int .u64 0,.int .u64 0,.int .u64 0,.int .u64 0,.int .u64 0,.int .u64 0,.int .u64 0,.int .u64 0,.int .u64 0,.int .u64 0,.int .u64 0,.int .u64 0,.int .u64 0,.int .u64 0,.int .u64 0,.int .u64 0,.int .u64 0,.int .u64 0,.int .u64 0,.int .u64 0,.int .u64 0,.int .u64 0,.int .u64 0,.int .u64 0,.int .u64 0,.int .u64 0]) 163)).setRow w1.heap.size (ar .u64 64 (tabF q))).heap.size=w1.heap.size+1:=by rw[setRow_size];simp
 have HV2:=Lib.hid (show(((w1.alloc (.cells (#[.int .u64 0,.int .u64 0,.int .u64 0,.int .u64 0,.int .u64 0,.int .u64 0,.int .u64 0,.int .u64 0,.int .u64 0,.int .u64 0,.int .u64 0,.int .u64 0,.int .u64 0,.int .u64 0,.int .u64 0,.int .u64 0,.int .u64 0,.int .u64 0,.int .u64 0,.int .u64 0,.int .u64 0,.int .u64 0,.int .u64 0,.int .u64 0,.int .u64 0,.int .u64 0,.int .u64 0,.int .u64 0,.int .u64 0,.int .u64 0,.int .u64 0,.int .u64 0,.int .u64 0,.int .u64 0,.int .u64 0,.int .u64 0,.int .u64 0,.int .u64 0,.int .u64 0,.int .u64 0,.int .u64 0,.int .u64 0,.int .u64 0,.int .u64 0,.int .u64 0,.int .u64 0,.int .u64 0,.int .u64 0,.int .u64 0,.int .u64 0,.int .u64 0,.int .u64 0,.int .u64 0,.int .u64 0,.int .u64 0,.int .u64 0,.int .u64 0,.int .u64 0,.int .u64 0,.int .u64 0,.int .u64 0,.int .u64 0,.int .u64 0,.int .u64 0]) 163)).setRow w1.heap.size (ar .u64 64 (tabF q))).alloc (.cells (#[.int .u64 0,.int .u64 0,.int .u64 0,.int .u64 0]) 24)).heap[w1.heap.size+1]?=some (.cells (#[.int .u64 0,.int .u64 0,.int .u64 0,.int .u64 0]) 24 (0,0)) from by
  have:=heap_alloc_new ((w1.alloc (.cells (#[.int .u64 0,.int .u64 0,.int .u64 0,.int .u64 0,.int .u64 0,.int .u64 0,.int .u64 0,.int .u64 0,.int .u64 0,.int .u64 0,.int .u64 0,.int .u64 0,.int .u64 0,.int .u64 0,.int .u64 0,.int .u64 0,.int .u64 0,.int .u64 0,.int .u64 0,.int .u64 0,.int .u64 0,.int .u64 0,.int .u64 0,.int .u64 0,.int .u64 0,.int .u64 0,.int .u64 0,.int .u64 0,.int .u64 0,.int .u64 0,.int .u64 0,.int .u64 0,.int .u64 0,.int .u64 0,.int .u64 0,.int .u64 0,.int .u64 0,.int .u64 0,.int .u64 0,.int .u64 0,.int .u64 0,.int .u64 0,.int .u64 0,.int .u64 0,.int .u64 0,.int .u64 0,.int .u64 0,.int .u64 0,.int .u64 0,.int .u64 0,.int .u64 0,.int .u64 0,.int .u64 0,.int .u64 0,.int .u64 0,.int .u64 0,.int .u64 0,.int .u64 0,.int .u64 0,.int .u64 0,.int .u64 0,.int .u64 0,.int .u64 0,.int .u64 0]) 163)).setRow w1.heap.size (ar .u64 64 (tabF q))) (.cells (#[.int .u64 0,.int .u64 0,.int .u64 0,.int .u64 0]) 24);rwa [hsz1]at this)
 have HV3:=Lib.hid (show(((w1.alloc (.cells (#[.int .u64 0,.int .u64 0,.int .u64 0,.int .u64 0,.int .u64 0,.int .u64 0,.int .u64 0,.int .u64 0,.int .u64 0,.int .u64 0,.int .u64 0,.int .u64 0,.int .u64 0,.int .u64 0,.int .u64 0,.int .u64 0,.int .u64 0,.int .u64 0,.int .u64 0,.int .u64 0,.int .u64 0,.int .u64 0,.int .u64 0,.int .u64 0,.int .u64 0,.int .u64 0,.int .u64 0,.int .u64 0,.int .u64 0,.int .u64 0,.int .u64 0,.int .u64 0,.int .u64 0,.int .u64 0,.int .u64 0,.int .u64 0,.int .u64 0,.int .u64 0,.int .u64 0,.int .u64 0,.int .u64 0,.int .u64 0,.int .u64 0,.int .u64 0,.int .u64 0,.int .u64 0,.int .u64 0,.int .u64 0,.int .u64 0,.int .u64 0,.int .u64 0,.int .u64 0,.int .u64 0,.int .u64 0,.int .u64 0,.int .u64 0,.int .u64 0,.int .u64 0,.int .u64 0,.int .u64 0,.int .u64 0,.int .u64 0,.int .u64 0,.int .u64 0]) 163)).setRow w1.heap.size (ar .u64 64 (tabF q))).alloc (.cells (#[.int .u64 0,.int .u64 0,.int .u64 0,.int .u64 0]) 24)).heap[w1.heap.size]?=some (.cells (ar .u64 64 (tabF q)) 163 (0,0)) from by
  have h:=((Below.refl (w1.heap.size+1) ((w1.alloc (.cells (#[.int .u64 0,.int .u64 0,.int .u64 0,.int .u64 0,.int .u64 0,.int .u64 0,.int .u64 0,.int .u64 0,.int .u64 0,.int .u64 0,.int .u64 0,.int .u64 0,.int .u64 0,.int .u64 0,.int .u64 0,.int .u64 0,.int .u64 0,.int .u64 0,.int .u64 0,.int .u64 0,.int .u64 0,.int .u64 0,.int .u64 0,.int .u64 0,.int .u64 0,.int .u64 0,.int .u64 0,.int .u64 0,.int .u64 0,.int .u64 0,.int .u64 0,.int .u64 0,.int .u64 0,.int .u64 0,.int .u64 0,.int .u64 0,.int .u64 0,.int .u64 0,.int .u64 0,.int .u64 0,.int .u64 0,.int .u64 0,.int .u64 0,.int .u64 0,.int .u64 0,.int .u64 0,.int .u64 0,.int .u64 0,.int .u64 0,.int .u64 0,.int .u64 0,.int .u64 0,.int .u64 0,.int .u64 0,.int .u64 0,.int .u64 0,.int .u64 0,.int .u64 0,.int .u64 0,.int .u64 0,.int .u64 0,.int .u64 0,.int .u64 0,.int .u64 0]) 163)).setRow w1.heap.size (ar .u64 64 (tabF q)))).alloc (by rw[hsz1];omega) (.cells (#[.int .u64 0,.int .u64 0,.int .u64 0,.int .u64 0]) 24)).block w1.heap.size (by omega);exact h.trans HV1.out)
 clear hb1 HC2 HPW hsz1
 go_upto_region 3 with(first | (refine wpList_store_row rfl 163 _ _ rfl w1.heap.size (ar .u64 64 (tabF q)) rfl rfl 163 (#[.int .u64 0,.int .u64 0,.int .u64 0,.int .u64 0,.int .u64 0,.int .u64 0,.int .u64 0,.int .u64 0,.int .u64 0,.int .u64 0,.int .u64 0,.int .u64 0,.int .u64 0,.int .u64 0,.int .u64 0,.int .u64 0,.int .u64 0,.int .u64 0,.int .u64 0,.int .u64 0,.int .u64 0,.int .u64 0,.int .u64 0,.int .u64 0,.int .u64 0,.int .u64 0,.int .u64 0,.int .u64 0,.int .u64 0,.int .u64 0,.int .u64 0,.int .u64 0,.int .u64 0,.int .u64 0,.int .u64 0,.int .u64 0,.int .u64 0,.int .u64 0,.int .u64 0,.int .u64 0,.int .u64 0,.int .u64 0,.int .u64 0,.int .u64 0,.int .u64 0,.int .u64 0,.int .u64 0,.int .u64 0,.int .u64 0,.int .u64 0,.int .u64 0,.int .u64 0,.int .u64 0,.int .u64 0,.int .u64 0,.int .u64 0,.int .u64 0,.int .u64 0,.int .u64 0,.int .u64 0,.int .u64 0,.int .u64 0,.int .u64 0,.int .u64 0]) (by exact HV0.out) (by rw[ar_size];exact info64) (by rw[ar_size];rfl) (ar_one _ _ _) ?_) | (refine wpList_ld rfl 24 _ rfl (.pointer (some ⟨w1.heap.size,0,none⟩)) (.agg (pw (q 0))) rfl (ld_tab (by first | exact HV1.out | exact HV3.out) 0 (by omega)) ?_) | (refine wpList_store_row rfl 24 _ _ rfl (w1.heap.size+1) (pw (q 0)) rfl rfl 24 (#[.int .u64 0,.int .u64 0,.int .u64 0,.int .u64 0]) (by exact HV2.out) (by rw[pw_size];exact infoW4) (by rw[pw_size];rfl) (pw_one _) ?_))
 obtain⟨w2,hw2⟩:∃ w2,(((w1.alloc (.cells (#[.int .u64 0,.int .u64 0,.int .u64 0,.int .u64 0,.int .u64 0,.int .u64 0,.int .u64 0,.int .u64 0,.int .u64 0,.int .u64 0,.int .u64 0,.int .u64 0,.int .u64 0,.int .u64 0,.int .u64 0,.int .u64 0,.int .u64 0,.int .u64 0,.int .u64 0,.int .u64 0,.int .u64 0,.int .u64 0,.int .u64 0,.int .u64 0,.int .u64 0,.int .u64 0,.int .u64 0,.int .u64 0,.int .u64 0,.int .u64 0,.int .u64 0,.int .u64 0,.int .u64 0,.int .u64 0,.int .u64 0,.int .u64 0,.int .u64 0,.int .u64 0,.int .u64 0,.int .u64 0,.int .u64 0,.int .u64 0,.int .u64 0,.int .u64 0,.int .u64 0,.int .u64 0,.int .u64 0,.int .u64 0,.int .u64 0,.int .u64 0,.int .u64 0,.int .u64 0,.int .u64 0,.int .u64 0,.int .u64 0,.int .u64 0,.int .u64 0,.int .u64 0,.int .u64 0,.int .u64 0,.int .u64 0,.int .u64 0,.int .u64 0,.int .u64 0]) 163)).setRow w1.heap.size (ar .u64 64 (tabF q))).alloc (.cells (#[.int .u64 0,.int .u64 0,.int .u64 0,.int .u64 0]) 24)).setRow (w1.heap.size+1) (pw (q 0))=w2:=⟨_,rfl⟩
 rw[hw2]at HX |-
 obtain⟨V,hV⟩:∃ V,w1.heap.size=V:=⟨_,rfl⟩
 rw[hV]at HX |-
 obtain⟨O,hO⟩:∃ O,V+1=O:=⟨_,rfl⟩
 rw[hO]at HX |-
 rw[HQ.out 0 (by omega)]at HX |-
 clear hw2 hV hO HV0 HV1 HV2 HV3
 go_wp2_with (refine wpList_ld rfl 24 _ rfl (.pointer (some ⟨w.heap.size+1,0,none⟩)) (.agg (pw e)) rfl (ld_pw (by exact HX.out.r1)) ?_)
 refine(HLN.out _).mono ?_;rintro e' w3 ⟨rfl,hb3⟩;have H3:=Lib.hid (show CX w F m a e V O q (pwq m a (e / 16^L)) w3 from by rw[HL0.out];exact HX.out.below hb3);clear HX hb3 HLN
 go_wp2_with fail
 clear e1 e2 e3 e4 e5 e6 hn30
 go_loopw [9] (fun iv wr=>∃ j:Nat,j<=64/\iv=.int .i64 ((j:Int) - 1)/\Hid (CX w F m a e V O q (pwq m a (e / 16^j)) wr)) (fun iv _=>(intOf iv+1).toNat)
 case atStart=>exact⟨L,HLL.out,rfl,H3⟩
 case round =>
  obtain⟨j,hj,rfl,H⟩:=hrel;clear H3;by_cases h0:1<=j
  ·obtain⟨i,rfl⟩:∃ i,j=i+1:=⟨j - 1,by omega⟩
   rw[show(((i+1:Nat):Int) - 1)=(i:Int) by omega];have hi0:(0:Int)<=i:=by omega
   have HD:=Lib.hid (dig_next e i);have HDO:=Lib.hid (dig_of e i HO.out.2.2.2);obtain⟨d,hd⟩:∃ d,e / 16^(i+1)=d:=⟨_,rfl⟩
   rw[hd]at HD H;have H4:=Lib.hid (show CX w F m a e V O q (pwq m a (d*2^0)) wr from by rw[Nat.pow_zero,Nat.mul_one];exact H.out);have HI:=Lib.hid hj;clear H hd hj h0
   go_wp2_with fail
   go_loopw [25] (fun iv wr=>∃ k:Nat,k<=4/\iv=.int .i64 k/\Hid (CX w F m a e V O q (pwq m a (d*2^k)) wr)) (fun iv _=>4 - (intOf iv).toNat)
   case atStart=>exact⟨0,by omega,rfl,H4⟩
   case round =>
    obtain⟨k,hk,rfl,H⟩:=hrel;clear H4;have hk0:(0:Int)<=k:=by omega
    by_cases hlt:k<4
    ·have hlt':(k:Int)<4:=by omega
     have hxl:=pwq_lt HO.out.2.1 a (d*2^k);have HT:=Lib.hid (CX.times (w:=w) (F:=F) (a:=a) (e:=e) (V:=V) (O:=O) (q:=q) (x0:=pwq m a (d*2^k)) hxl hxl HO.out.2.2.1 ((mnt_pwq HO.out.1 HO.out.2.1 a (d*2^k) (d*2^k)).trans (by rw[show d*2^k+d*2^k=d*2^(k+1) by rw[Nat.pow_succ,<- Nat.mul_assoc];omega])));obtain⟨x,hx⟩:∃ x,pwq m a (d*2^k)=x:=⟨_,rfl⟩
     obtain⟨y,hy⟩:∃ y,pwq m a (d*2^(k+1))=y:=⟨_,rfl⟩
     rw[hx]at H HT;rw[hy]at HT;have HY:=Lib.hid hy;have HK:=Lib.hid hlt;clear hx hy hxl hk hlt
     go_wp2_with (refine wpList_ld rfl 24 _ rfl (.pointer (some ⟨O,0,none⟩)) (.agg (pw x)) rfl (ld_pw (by exact H.out.rO)) ?_)
     refine(HT.out _ H.out).mono ?_;rintro e' w4 ⟨rfl,c4⟩;have H5:=Lib.hid c4;clear c4 H HT
     go_wp2_with (refine wpList_store_row rfl 24 _ _ rfl (O) (pw y) rfl rfl 24 (pw x) (by exact H5.out.rO) (by rw[pw_size];exact infoW4) (by first | rfl | (rw[pw_size];rfl) | (rw[pw_size,pw_size])) (pw_one _) ?_)
     go_roundw
     case rel=>exact⟨k+1,by have:=HK.out;omega,by go_num,Lib.hid (by rw[HY.out];exact H5.out.put y)⟩
     case measure=>have:=HK.out;simp[intOf];omega
    ·obtain rfl:k=4:=by omega
     have hlt':¬((4:Nat):Int)<4:=by omega
     obtain⟨p,hp⟩:∃ p:Nat,i / 16=p:=⟨_,rfl⟩
     obtain⟨r,hr⟩:∃ r:Nat,i%16=r:=⟨_,rfl⟩
     obtain⟨s,hs⟩:∃ s:Nat,r*4=s:=⟨_,rfl⟩
     have hpl:p<4:=by have:=HI.out;omega
     rw[hp,hr,hs]at HDO;obtain⟨z,hz⟩:∃ z,pN e p=z:=⟨_,rfl⟩
     have hzl:z<18446744073709551616:=by rw[<- hz];exact pN_lt _ _
     rw[hz]at HDO;have hcz:wr.cell? ⟨w.heap.size+1,p,none⟩=some (.int .u64 (z:Nat)):=(cell_of_row _ _ p _ _ _ H.out.r1).trans (by rw[pw_ar,ar_at _ _ _ _ hpl,hz]);obtain⟨g,hg⟩:∃ g,e / 16^i%16=g:=⟨_,rfl⟩
     have hg16:g<16:=by rw[<- hg];exact Nat.mod_lt _ (by omega)
     have hzs:(z:Int) / 2^s=((z / 2^s:Nat):Int):=by push_cast;rfl
     have hzsl:z / 2^s<18446744073709551616:=Nat.lt_of_le_of_lt (Nat.div_le_self _ _) hzl;have han:=and_15 (z / 2^s) hzsl;rw[HDO.out,hg]at han;rw[hg]at HD;have f1:(i:Int).tdiv 16=(p:Int):=by rw[Int.tdiv_eq_ediv_of_nonneg hi0];omega
     have f2:(i:Int).tmod 16=(r:Int):=by rw[Int.tmod_eq_emod_of_nonneg hi0];omega
     have f1':(i:Int) / 16=(p:Int):=by omega
     have f2':(i:Int)%16=(r:Int):=by omega
     have f3:(r:Int)*4=(s:Int):=by omega
     have f4:IntKind.i64.wrap (p:Int)=(p:Int):=by rw[IntKind.wrap_i64];omega
     have f5:IntKind.i64.wrap (r:Int)=(r:Int):=by rw[IntKind.wrap_i64];omega
     have f6:IntKind.i64.wrap (s:Int)=(s:Int):=by rw[IntKind.wrap_i64];omega
     have hp0:(0:Int)<=p:=by omega
     have hp4:(p:Int)<4:=by omega
     have hs0:(0:Int)<=s:=by omega
     have hs64:(s:Int)<64:=by omega
     have hz0:(0:Int)<=z:=by omega
     obtain⟨zs,hzse⟩:∃ zs,z / 2^s=zs:=⟨_,rfl⟩
     rw[hzse]at hzs han hzsl;have hzz:IntKind.u64.wrap ((z:Int) / 2^s)=(zs:Int):=by rw[hzs,IntKind.wrap_u64];omega
     have HN1:=Lib.hid (And.intro HI.out hg16);clear hp hr hs hz hg hzse hzsl hpl HDO hzl hg16;simp only[Int.cast_ofNat_Int]
     go_wp2_with fail
     have HQG:=Lib.hid (HQ.out g HN1.out.2);have hxl:=pwq_lt HO.out.2.1 a (d*2^4);have hyl:=pwq_lt HO.out.2.1 a g;have HT:=Lib.hid (CX.times (w:=w) (F:=F) (a:=a) (e:=e) (V:=V) (O:=O) (q:=q) (x0:=pwq m a (d*2^4)) hxl hyl HO.out.2.2.1 ((mnt_pwq HO.out.1 HO.out.2.1 a (d*2^4) g).trans (by rw[show d*2^4+g=e / 16^i from HD.out])));obtain⟨x,hx⟩:∃ x,pwq m a (d*2^4)=x:=⟨_,rfl⟩
     obtain⟨x2,hx2⟩:∃ x2,pwq m a g=x2:=⟨_,rfl⟩
     obtain⟨y,hy⟩:∃ y,pwq m a (e / 16^i)=y:=⟨_,rfl⟩
     rw[hx]at H HT;rw[hx2]at HT HQG;rw[hy]at HT;have HY:=Lib.hid hy;clear hx hx2 hy hxl hyl;refine region_quiet_tail 6 (CX w F m a e V O q x) (by kernel_rfl) (by kernel_rfl) (H.out.drew) ?_;simp only[List.take_succ_cons,List.take_zero,List.drop_succ_cons,List.drop_zero]
     with_reducible refine q_val (.pointer (some ⟨F,0,none⟩)) (by kernel_rfl) (fun _ _=>by kernel_rfl) ?_
     with_reducible refine q_load 24 (.tmp 8) (.pointer (some ⟨O,0,none⟩)) (.agg (pw x)) rfl (by kernel_rfl) (by kernel_rfl) (fun _ c=>ld_pw c.rO) ?_
     with_reducible refine q_val (.int .u64 (g:Nat)) (by kernel_rfl) (fun _ _=>by kernel_rfl) ?_
     with_reducible refine q_sem2 (Instr.indexAt 163 (.pointer (some ⟨V,0,none⟩)) (.int .u64 (g:Nat))) (.pointer (some ⟨V,g*4,none⟩)) (by kernel_rfl) (by kernel_rfl) (fun w' _=>ix_tabu V g HN1.out.2 w') ?_
     with_reducible refine q_load 24 (.tmp 44) (.pointer (some ⟨V,g*4,none⟩)) (.agg (pw x2)) rfl (by kernel_rfl) (by kernel_rfl) (fun _ c=>(ld_tab c.rV g HN1.out.2).trans (by rw[HQG.out])) ?_
     with_reducible refine q_call 108 #[.pointer (some ⟨F,0,none⟩),.agg (pw x),.agg (pw x2)] (.agg (pw y)) (by kernel_rfl) (fun _=>by kernel_rfl) (HT.out) ?_
     with_reducible refine wpQuiet_nil ?_
     intro wx hC;have HG:=Lib.hid hC;clear hC H HT;simp only[Act.put,List.setIfInBounds_toArray,List.set_cons_succ,List.set_cons_zero]
     go_wp2_with (refine wpList_store_row rfl 24 _ _ rfl (O) (pw y) rfl rfl 24 (pw x) (by exact HG.out.rO) (by rw[pw_size];exact infoW4) (by first | rfl | (rw[pw_size];rfl) | (rw[pw_size,pw_size])) (pw_one _) ?_)
     go_roundw
     case rel=>exact⟨i,by have:=HN1.out.1;omega,by go_num,Lib.hid (by rw[HY.out];exact HG.out.put y)⟩
     case measure=>first | (simp[intOf];done) | (simp[intOf];omega)
  ·obtain rfl:j=0:=by omega
   have hxl:=pwq_lt HO.out.2.1 a e;have HT:=Lib.hid (CX.times (w:=w) (F:=F) (a:=a) (e:=e) (V:=V) (O:=O) (q:=q) (x0:=pwq m a e) hxl HO.out.2.1 HO.out.2.2.1 (pwq_out HO.out.1 HO.out.2.1 a e));have H5:=Lib.hid (show CX w F m a e V O q (pwq m a e) wr from by have h:=H.out;rwa [Nat.pow_zero,Nat.div_one]at h);obtain⟨x,hx⟩:∃ x,pwq m a e=x:=⟨_,rfl⟩
   obtain⟨y,hy⟩:∃ y,a^e%m=y:=⟨_,rfl⟩
   rw[hx]at H5 HT;rw[hy]at HT;have HY:=Lib.hid hy;clear hx hy hxl H hj h0;rw[show(((0:Nat):Int) - 1)=-1 from rfl]
   go_wp2_with fail
   refine region_quiet_tail 4 (CX w F m a e V O q x) (by kernel_rfl) (by kernel_rfl) (H5.out.drew) ?_;simp only[List.take_succ_cons,List.take_zero,List.drop_succ_cons,List.drop_zero]
   with_reducible refine q_val (.pointer (some ⟨F,0,none⟩)) (by kernel_rfl) (fun _ _=>by kernel_rfl) ?_
   with_reducible refine q_load 24 (.tmp 8) (.pointer (some ⟨O,0,none⟩)) (.agg (pw x)) rfl (by kernel_rfl) (by kernel_rfl) (fun _ c=>ld_pw c.rO) ?_
   with_reducible refine q_call 69 #[.int .u64 (1:Nat)] (.agg (pw 1)) (by kernel_rfl) (fun _=>by kernel_rfl) (fun wx c=>(of_wv 1 (by omega) wx).mono fun e w' hh=>⟨hh.1,c.below hh.2⟩) ?_
   with_reducible refine q_call 108 #[.pointer (some ⟨F,0,none⟩),.agg (pw x),.agg (pw 1)] (.agg (pw y)) (by kernel_rfl) (fun _=>by kernel_rfl) (HT.out) ?_
   with_reducible refine wpQuiet_nil ?_
   intro wx hC;have HG:=Lib.hid hC;clear hC H5 HT;simp only[Act.put,List.setIfInBounds_toArray,List.set_cons_succ,List.set_cons_zero]
   go_wp2_with (refine wpList_store_row rfl 24 _ _ rfl (w.heap.size+1+1) (pw y) rfl rfl 24 (#[.int .u64 0,.int .u64 0,.int .u64 0,.int .u64 0]) (by exact HG.out.r2) (by rw[pw_size];exact infoW4) (by first | rfl | (rw[pw_size];rfl) | (rw[pw_size,pw_size])) (pw_one _) ?_)
   (try simp only[Act.put])
   refine bodyPost_ret (v:=.agg (pw y)) (results_cell_row (p:=6) rfl _ _ (w.heap.size+1+1) 24 (pw y) (0,0) _ rfl (setRow_heap _ _ _ _ _ _ (by exact HG.out.r2)) Tryz.underlying24 rfl (by rw[pw_size];exact infoW4)) rfl ⟨by rw[HY.out],below_setRow HG.out.old (by omega) _⟩
open Go.RowKit
theorem CW.rowed2{w wx:World}{F m a g:Nat}{cs:Array Value}(c:CW w F m [(w.heap.size+1,#[.int .u64 0,.int .u64 0,.int .u64 0,.int .u64 0]),(w.heap.size,pw a)] wx)(hg:w.heap.size+2<=g):CW w F m [(w.heap.size+1,#[.int .u64 0,.int .u64 0,.int .u64 0,.int .u64 0]),(w.heap.size,pw a)] (wx.setRow g cs):=by
 have hF:=c.hF;refine⟨below_setRow c.old (by omega) _,fld_row c.fld (by omega),hF,fun p hp=>(setRow_other _ _ _ _ ?_).trans (c.rows p hp)⟩;simp only[List.mem_cons,List.not_mem_nil,or_false]at hp;rcases hp with rfl | rfl
 ·show w.heap.size+1≠g;omega
 ·show w.heap.size≠g;omega
theorem CW.high2{w wx:World}{F m a:Nat}(c:CW w F m [(w.heap.size+1,#[.int .u64 0,.int .u64 0,.int .u64 0,.int .u64 0]),(w.heap.size,pw a)] wx):w.heap.size+2<=wx.heap.size:=(Array.getElem?_eq_some_iff.1 (c.is (w.heap.size+1) (#[.int .u64 0,.int .u64 0,.int .u64 0,.int .u64 0]) (by simp))).1
theorem res_cell_tmp{P:Program}{fn:Func}{p u:Tmp}{ty:TypeId}{vb:Value}(h:fn.results=#[.cell p ty,.tmp u])(tmps:Array Value)(w:World)(g:Nat)(t:TypeId)(cs:Array Value)(fr:Nat × Nat)(d:TypeDesc)
  (hp:tmps.getD p undef=.pointer (some ⟨g,0,none⟩)) (hb:tmps.getD u undef=vb) (hg:w.heap[g]?=some (.cells cs t fr))
  (hu:P.underlying ty=some d) (hd:(match d with | .struct _ | .array _ _=>true | _=>false)=true) (hi:(P.info? ty).map (·.size)=some cs.size) :
  (results fn tmps).run P w=.ok (.tuple #[.agg cs,vb]) w:=by
 have hp':tmps[p]?.getD undef=.pointer (some ⟨g,0,none⟩):=by simpa using hp
 have hb':tmps[u]?.getD undef=vb:=by simpa using hb
 simp[results,h,hp',hb',asAddr,run_loadVar_row w g t ty cs fr d hg hu hd hi]
theorem less2{m:Nat}(h1:1<m)(hm:m<2^256):pw (m+(2^256 - 2))=pw (m - 2):=pw_congr (by omega)
-- WHAT Inv COMES TO.
theorem finv_any(F m n:Nat)(ha:n<2^256)(w:World)(hF:FldAt w F m):Calls Tryz.prog 68 #[.pointer (some ⟨F,0,none⟩),.agg (pw n)] w fun e w'=>e=.returned (.tuple #[.agg (pw (if n*(n^(m - 2)%m)%m=1 then n^(m - 2)%m else 0)),.bool (decide (n*(n^(m - 2)%m)%m=1))])/\Below w.heap.size w w':=by
 have H0:=Lib.hid (CW.one hF n);have HO:=Lib.hid (And.intro hF.odd (And.intro hF.big hF.lt));have HEX:=Lib.hid (fun wx (c:CW w F m [(w.heap.size+1,#[.int .u64 0,.int .u64 0,.int .u64 0,.int .u64 0]),(w.heap.size,pw n)] wx)=>fexp_any F m n (m - 2) ha (by have:=hF.lt;omega) wx c.fld);have HSB:=Lib.hid (fun wx=>sub_pw m 2 (by omega) wx);rw[less2 hF.big hF.lt]at HSB;have hil:n^(m - 2)%m<m:=Nat.mod_lt _ (by have:=hF.big;omega);obtain⟨v,hv⟩:∃ v,n^(m - 2)%m=v:=⟨_,rfl⟩
 rw[hv]at HEX hil |-
 obtain⟨u,hu⟩:∃ u,n*v%m=u:=⟨_,rfl⟩
 have HUL:=Lib.hid (show u<2^256 from by rw[<- hu];exact Nat.lt_trans (Nat.mod_lt _ (by have:=hF.big;omega)) hF.lt);have HU:=Lib.hid hu;rw[hu];have HN:=Lib.hid (And.intro ha (Nat.lt_trans hil hF.lt));clear hF ha hil hv hu;go_enter Tryz.func68,Tryz.ntmps68
 go_wp2_with fail
 refine region_tie (CW w F m [(w.heap.size+1,#[.int .u64 0,.int .u64 0,.int .u64 0,.int .u64 0]),(w.heap.size,pw n)]) (fun i s wx=>match i with | 0=>s 7=(.pointer (some ⟨F,0,none⟩)) | 1=>s 8=(.agg (pw n)) | 2=>s 9=(.pointer (some ⟨F,0,none⟩)) | 3=>s 10=(.pointer (some ⟨F,0,none⟩)) | 4=>s 11=(.pointer (some ⟨F,0,none⟩)) | 5=>s 12=(.agg (pw m)) | 6=>s 13=(.agg (pw 2)) | 7=>s 14=(.agg (pw (m - 2))) | 8=>s 15=(.agg (pw v)) | 9=>∃ D,s 6=.pointer (some ⟨D,0,none⟩)/\(w.heap.size+2)<=D/\∃ cs:Array Value,wx.heap[D]?=some (.cells cs 24 (0,0))/\cs.size=4 | 10=>∃ D,s 6=.pointer (some ⟨D,0,none⟩)/\(w.heap.size+2)<=D/\wx.heap[D]?=some (.cells (FW v 24) 24 (0,0)) | _=>True) (RT (w.heap.size+2) (FW v)) (fun i=>match i with | 0=>[7] | 1=>[8] | 2=>[9] | 3=>[10] | 4=>[11] | 5=>[12] | 6=>[13] | 7=>[14] | 8=>[15] | 9=>[6] | 10=>[6] | _=>[]) (fun i=>i) (by kernel_rfl) (by kernel_rfl) H0.out.drew ?_ ?_ ?_ ?_
 ·intro i s s' wx he hp
  match i,he,hp with
  | 0,he,hp=>exact(he 7 (by simp)).symm.trans hp
  | 1,he,hp=>exact(he 8 (by simp)).symm.trans hp
  | 2,he,hp=>exact(he 9 (by simp)).symm.trans hp
  | 3,he,hp=>exact(he 10 (by simp)).symm.trans hp
  | 4,he,hp=>exact(he 11 (by simp)).symm.trans hp
  | 5,he,hp=>exact(he 12 (by simp)).symm.trans hp
  | 6,he,hp=>exact(he 13 (by simp)).symm.trans hp
  | 7,he,hp=>exact(he 14 (by simp)).symm.trans hp
  | 8,he,hp=>exact(he 15 (by simp)).symm.trans hp
  | 9,he,hp=>obtain⟨D,h1,h2⟩:=hp;exact⟨D,(he 6 (by simp)).symm.trans h1,h2⟩
  | 10,he,hp=>obtain⟨D,h1,h2⟩:=hp;exact⟨D,(he 6 (by simp)).symm.trans h1,h2⟩
  | _+11,_,_=>trivial
 ·intro i s wa wb hR hp
  match i,hp with
  | 0,hp=>exact hp
  | 1,hp=>exact hp
  | 2,hp=>exact hp
  | 3,hp=>exact hp
  | 4,hp=>exact hp
  | 5,hp=>exact hp
  | 6,hp=>exact hp
  | 7,hp=>exact hp
  | 8,hp=>exact hp
  | 9,hp=>obtain⟨D,h1,h2,cs,h3,h4⟩:=hp;obtain⟨cs',h5,h6⟩:=hR.shape _ _ _ _ h3;exact⟨D,h1,h2,cs',h5,h6.trans h4⟩
  | 10,hp=>obtain⟨D,h1,h2,h3⟩:=hp;exact⟨D,h1,h2,hR.keep _ _ _ h3⟩
  | _+11,_=>trivial
 ·refine⟨?_,?_,?_,?_,?_,?_,?_,?_,?_,?_,?_,trivial⟩
  ·intro a wx hC hsz hK
   have h0:a.tmps.getD 0 undef=(.pointer (some ⟨F,0,none⟩)):=hK.1 0 (by kernel_rfl);exact tt_val ((.pointer (some ⟨F,0,none⟩))) (by kernel_rfl) (by rw[<- h0];kernel_rfl) hC (slots_put _ _ _ (by rw[hsz];exact of_decide_eq_true (by kernel_rfl))) (RT.refl _ _ _)
  ·intro a wx hC hsz hK
   have h0:a.tmps.getD 3 undef=(.pointer (some ⟨w.heap.size,0,none⟩)):=hK.1 3 (by kernel_rfl);exact tt_load 24 (.tmp 3) ((.pointer (some ⟨w.heap.size,0,none⟩))) ((.agg (pw n))) rfl (by kernel_rfl) h0 (ld_pw (hC.is _ _ (by simp))) hC (slots_put _ _ _ (by rw[hsz];exact of_decide_eq_true (by kernel_rfl))) (RT.refl _ _ _)
  ·intro a wx hC hsz hK
   have h0:a.tmps.getD 0 undef=(.pointer (some ⟨F,0,none⟩)):=hK.1 0 (by kernel_rfl);exact tt_val ((.pointer (some ⟨F,0,none⟩))) (by kernel_rfl) (by rw[<- h0];kernel_rfl) hC (slots_put _ _ _ (by rw[hsz];exact of_decide_eq_true (by kernel_rfl))) (RT.refl _ _ _)
  ·intro a wx hC hsz hK
   have h0:a.tmps.getD 9 undef=(.pointer (some ⟨F,0,none⟩)):=hK.2 ⟨2,.data⟩ (by simp) rfl _ rfl;exact tt_val (.pointer (some ⟨F,0,none⟩)) (by kernel_rfl) (run_nil (.tmp 9) _ rfl (by rw[<- h0];kernel_rfl)) hC (slots_put _ _ _ (by rw[hsz];exact of_decide_eq_true (by kernel_rfl))) (RT.refl _ _ _)
  ·intro a wx hC hsz hK
   have h0:a.tmps.getD 10 undef=(.pointer (some ⟨F,0,none⟩)):=hK.2 ⟨3,.data⟩ (by simp) rfl _ rfl;refine tt_v (Instr.fieldAt 145 (a.tmps.getD 10 undef) 0) ((.pointer (some ⟨F,0,none⟩))) (by kernel_rfl) (by kernel_rfl) ?_ hC (slots_put _ _ _ (by rw[hsz];exact of_decide_eq_true (by kernel_rfl))) (RT.refl _ _ _);rw[h0];exact fld_at F wx
  ·intro a wx hC hsz hK
   have h0:a.tmps.getD 11 undef=(.pointer (some ⟨F,0,none⟩)):=hK.2 ⟨4,.data⟩ (by simp) rfl _ rfl;exact tt_load 24 (.tmp 11) ((.pointer (some ⟨F,0,none⟩))) ((.agg (pw m))) rfl (by kernel_rfl) h0 (ld_m hC.fld) hC (slots_put _ _ _ (by rw[hsz];exact of_decide_eq_true (by kernel_rfl))) (RT.refl _ _ _)
  ·intro a wx hC hsz hK
   refine tt_call 69 #[(.int .u64 (2:Nat))] (by kernel_rfl) (by kernel_rfl) ?_;exact(of_wv 2 (by omega) wx).mono fun e w' hh=>⟨_,hh.1,hC.below hh.2,(slots_put _ _ _ (by rw[hsz];exact of_decide_eq_true (by kernel_rfl))),RT.of hC.high2 hh.2⟩
  ·intro a wx hC hsz hK
   have h0:a.tmps.getD 12 undef=(.agg (pw m)):=hK.2 ⟨5,.data⟩ (by simp) rfl _ rfl;have h1:a.tmps.getD 13 undef=(.agg (pw 2)):=hK.2 ⟨6,.data⟩ (by simp) rfl _ rfl;refine tt_call 107 #[a.tmps.getD 12 undef,a.tmps.getD 13 undef] (by kernel_rfl) (by kernel_rfl) ?_;rw[h0,h1];exact(HSB.out wx).mono fun e w' hh=>⟨_,hh.1,hC.below hh.2,(slots_put _ _ _ (by rw[hsz];exact of_decide_eq_true (by kernel_rfl))),RT.of hC.high2 hh.2⟩
  ·intro a wx hC hsz hK
   have h0:a.tmps.getD 7 undef=(.pointer (some ⟨F,0,none⟩)):=hK.2 ⟨0,.data⟩ (by simp) rfl _ rfl;have h1:a.tmps.getD 8 undef=(.agg (pw n)):=hK.2 ⟨1,.data⟩ (by simp) rfl _ rfl;have h2:a.tmps.getD 14 undef=(.agg (pw (m - 2))):=hK.2 ⟨7,.data⟩ (by simp) rfl _ rfl;refine tt_call 110 #[a.tmps.getD 7 undef,a.tmps.getD 8 undef,a.tmps.getD 14 undef] (by kernel_rfl) (by kernel_rfl) ?_;rw[h0,h1,h2];exact(HEX.out wx hC).mono fun e w' hh=>⟨_,hh.1,hC.below hh.2,(slots_put _ _ _ (by rw[hsz];exact of_decide_eq_true (by kernel_rfl))),RT.of hC.high2 hh.2⟩
  ·intro a wx hC hsz hK
   exact tt_new (.pointer (some ⟨wx.heap.size,0,none⟩)) (by kernel_rfl) (by kernel_rfl) (hC.below ((Below.refl _ _).alloc (Nat.le_refl _) _)) ⟨_,(slots_put _ _ _ (by rw[hsz];exact of_decide_eq_true (by kernel_rfl))),hC.high2,#[.int .u64 0,.int .u64 0,.int .u64 0,.int .u64 0],heap_alloc_new _ _,rfl⟩ (RT.of hC.high2 ((Below.refl _ _).alloc (Nat.le_refl _) _))
  ·intro a wx hC hsz hK
   obtain⟨D,h1,h2,cs,h3,h4⟩:=hK.2 ⟨9,.data⟩ (by simp) rfl _ rfl;have h0:a.tmps.getD 15 undef=(.agg (pw v)):=hK.2 ⟨8,.data⟩ (by simp) rfl _ rfl;exact tt_store (by kernel_rfl) rfl (run_store 24 (.tmp 6) (.tmp 15) _ _ rfl h1 h0 (store_w h4 h3)) (hC.rowed2 h2) ⟨D,h1,h2,setRow_heap _ _ _ _ _ _ h3⟩ (RT.row h2 h3 (by rw[h4];rfl))
 intro f1 w5 hC hf1;obtain⟨E,s6,hE,hrE⟩:=hf1 10 _ rfl;have H2:=Lib.hid (show CW w F m [(E,pw v),(w.heap.size+1,#[.int .u64 0,.int .u64 0,.int .u64 0,.int .u64 0]),(w.heap.size,pw n)] w5 from⟨hC.old,hC.fld,hC.hF,fun p hp=>by
  rcases List.mem_cons.1 hp with rfl | hp
  ·exact hrE
  ·exact hC.rows p hp⟩)
 have HE:=Lib.hid hE;clear hC hE hrE H0 HSB HEX;generalize hAct:putAll _ _ _=G at *;have s0:G.tmps.getD 0 undef=.pointer (some ⟨F,0,none⟩):=by subst hAct;kernel_rfl
 have s3:G.tmps.getD 3 undef=.pointer (some ⟨w.heap.size,0,none⟩):=by subst hAct;kernel_rfl
 have s4:G.tmps.getD 4 undef=.pointer (some ⟨w.heap.size+1,0,none⟩):=by subst hAct;kernel_rfl
 have s5:G.tmps.getD 5 undef=.bool false:=by subst hAct;kernel_rfl
 have s6':G.tmps.getD 6 undef=.pointer (some ⟨E,0,none⟩):=s6;have hsz:G.tmps.size=24:=by rw[<- hAct,putAll_size];rfl
 have hdf:G.defers=[]:=by subst hAct;kernel_rfl
 clear hAct s6 hf1;obtain⟨u1,t1⟩:∃ u,G.tmps.getD 1 undef=u:=⟨_,rfl⟩
 obtain⟨u2,t2⟩:∃ u,G.tmps.getD 2 undef=u:=⟨_,rfl⟩
 obtain⟨u7,t7⟩:∃ u,G.tmps.getD 7 undef=u:=⟨_,rfl⟩
 obtain⟨u8,t8⟩:∃ u,G.tmps.getD 8 undef=u:=⟨_,rfl⟩
 obtain⟨u9,t9⟩:∃ u,G.tmps.getD 9 undef=u:=⟨_,rfl⟩
 obtain⟨u10,t10⟩:∃ u,G.tmps.getD 10 undef=u:=⟨_,rfl⟩
 obtain⟨u11,t11⟩:∃ u,G.tmps.getD 11 undef=u:=⟨_,rfl⟩
 obtain⟨u12,t12⟩:∃ u,G.tmps.getD 12 undef=u:=⟨_,rfl⟩
 obtain⟨u13,t13⟩:∃ u,G.tmps.getD 13 undef=u:=⟨_,rfl⟩
 obtain⟨u14,t14⟩:∃ u,G.tmps.getD 14 undef=u:=⟨_,rfl⟩
 obtain⟨u15,t15⟩:∃ u,G.tmps.getD 15 undef=u:=⟨_,rfl⟩
 obtain⟨u16,t16⟩:∃ u,G.tmps.getD 16 undef=u:=⟨_,rfl⟩
 obtain⟨u17,t17⟩:∃ u,G.tmps.getD 17 undef=u:=⟨_,rfl⟩
 obtain⟨u18,t18⟩:∃ u,G.tmps.getD 18 undef=u:=⟨_,rfl⟩
 obtain⟨u19,t19⟩:∃ u,G.tmps.getD 19 undef=u:=⟨_,rfl⟩
 obtain⟨u20,t20⟩:∃ u,G.tmps.getD 20 undef=u:=⟨_,rfl⟩
 obtain⟨u21,t21⟩:∃ u,G.tmps.getD 21 undef=u:=⟨_,rfl⟩
 obtain⟨u22,t22⟩:∃ u,G.tmps.getD 22 undef=u:=⟨_,rfl⟩
 obtain⟨u23,t23⟩:∃ u,G.tmps.getD 23 undef=u:=⟨_,rfl⟩
 obtain⟨tm,df⟩:=G;simp only at *;have hLt:=arr_lit4 tm;rw[hsz]at hLt;simp only[List.range,List.range.loop,List.map]at hLt;rw[s0,t1,t2,s3,s4,s5,s6',t7,t8,t9,t10,t11,t12,t13,t14,t15,t16,t17,t18,t19,t20,t21,t22,t23]at hLt;subst hLt hdf;clear s0 t1 t2 s3 s4 s5 s6' t7 t8 t9 t10 t11 t12 t13 t14 t15 t16 t17 t18 t19 t20 t21 t22 t23 hsz;have HML:=Lib.hid (fun wx (c:CW w F m [(E,pw v),(w.heap.size+1,#[.int .u64 0,.int .u64 0,.int .u64 0,.int .u64 0]),(w.heap.size,pw n)] wx)=>fmul_any F m n v HN.out.1 HN.out.2 wx c.fld);rw[HU.out]at HML;have HNE:=Lib.hid (fun wx=>new_run u 1 HUL.out (by omega) wx)
 go_upto_region 2 with(fail)
 by_cases h1:u=1
 ·rw[show(!decide (u=1))=false from by rw[h1];rfl]at HNE
  refine q_region (CW w F m [(E,pw v),(w.heap.size+1,#[.int .u64 0,.int .u64 0,.int .u64 0,.int .u64 0]),(w.heap.size,pw n)]) H2.out ?_
  with_reducible refine q_val (.pointer (some ⟨F,0,none⟩)) (by kernel_rfl) (fun _ _=>by kernel_rfl) ?_
  with_reducible refine q_load 24 (.tmp 3) (.pointer (some ⟨w.heap.size,0,none⟩)) (.agg (pw n)) rfl (by kernel_rfl) (by kernel_rfl) (fun _ c=>ld_pw (c.is _ _ (by simp))) ?_
  with_reducible refine q_load 24 (.tmp 6) (.pointer (some ⟨E,0,none⟩)) (.agg (pw v)) rfl (by kernel_rfl) (by kernel_rfl) (fun _ c=>ld_pw (c.is _ _ (by simp))) ?_
  with_reducible refine q_call 67 #[.pointer (some ⟨F,0,none⟩),.agg (pw n),.agg (pw v)] (.agg (pw u)) (by kernel_rfl) (fun _=>by kernel_rfl) (CW.calls (fun wx hf=>fmul_any F m n v HN.out.1 HN.out.2 wx hf |>.mono fun e w' hh=>⟨by rw[hh.1,HU.out],hh.2⟩)) ?_
  with_reducible refine q_call 69 #[.int .u64 (1:Nat)] (.agg (pw 1)) (by kernel_rfl) (fun _=>by kernel_rfl) (CW.calls (fun wx _=>of_wv 1 (by omega) wx)) ?_
  with_reducible refine q_bin .neq 24 _ _ 24 (.agg (pw u)) (.agg (pw 1)) (.bool false) rfl (by kernel_rfl) (by kernel_rfl) (by kernel_rfl) (fun _=>by kernel_rfl) (fun w'=>HNE.out w') ?_
  with_reducible refine wpQuiet_nil ?_
  intro wx hC;have HC:=Lib.hid hC;clear hC H2;simp only[Act.put,List.setIfInBounds_toArray,List.set_cons_succ,List.set_cons_zero]
  go_wp2_with (first | (refine wpList_ld rfl 24 _ rfl (.pointer (some ⟨E,0,none⟩)) (.agg (pw v)) rfl (ld_pw (by exact HC.out.is _ _ (by simp))) ?_) | (refine wpList_store_row rfl 24 _ _ rfl (w.heap.size+1) (pw v) rfl rfl 24 (#[.int .u64 0,.int .u64 0,.int .u64 0,.int .u64 0]) (by exact HC.out.is _ _ (by simp)) (by rw[pw_size];exact infoW4) (by first | rfl | (rw[pw_size];rfl) | (rw[pw_size,pw_size])) (pw_one _) ?_))
  refine bodyPost_ret (v:=.tuple #[.agg (pw v),.bool true]) (res_cell_tmp (p:=4) (u:=5) (vb:=.bool true) rfl _ _ (w.heap.size+1) 24 (pw v) (0,0) _ rfl rfl (setRow_heap _ _ _ _ _ _ (HC.out.is (w.heap.size+1) (#[.int .u64 0,.int .u64 0,.int .u64 0,.int .u64 0]) (by simp))) Tryz.underlying24 rfl (by rw[pw_size];exact infoW4)) rfl ⟨rfl,below_setRow HC.out.old (by omega) _⟩
 ·rw[show(!decide (u=1))=true from by simp[h1]]at HNE
  refine q_region (CW w F m [(E,pw v),(w.heap.size+1,#[.int .u64 0,.int .u64 0,.int .u64 0,.int .u64 0]),(w.heap.size,pw n)]) H2.out ?_
  with_reducible refine q_val (.pointer (some ⟨F,0,none⟩)) (by kernel_rfl) (fun _ _=>by kernel_rfl) ?_
  with_reducible refine q_load 24 (.tmp 3) (.pointer (some ⟨w.heap.size,0,none⟩)) (.agg (pw n)) rfl (by kernel_rfl) (by kernel_rfl) (fun _ c=>ld_pw (c.is _ _ (by simp))) ?_
  with_reducible refine q_load 24 (.tmp 6) (.pointer (some ⟨E,0,none⟩)) (.agg (pw v)) rfl (by kernel_rfl) (by kernel_rfl) (fun _ c=>ld_pw (c.is _ _ (by simp))) ?_
  with_reducible refine q_call 67 #[.pointer (some ⟨F,0,none⟩),.agg (pw n),.agg (pw v)] (.agg (pw u)) (by kernel_rfl) (fun _=>by kernel_rfl) (CW.calls (fun wx hf=>fmul_any F m n v HN.out.1 HN.out.2 wx hf |>.mono fun e w' hh=>⟨by rw[hh.1,HU.out],hh.2⟩)) ?_
  with_reducible refine q_call 69 #[.int .u64 (1:Nat)] (.agg (pw 1)) (by kernel_rfl) (fun _=>by kernel_rfl) (CW.calls (fun wx _=>of_wv 1 (by omega) wx)) ?_
  with_reducible refine q_bin .neq 24 _ _ 24 (.agg (pw u)) (.agg (pw 1)) (.bool true) rfl (by kernel_rfl) (by kernel_rfl) (by kernel_rfl) (fun _=>by kernel_rfl) (fun w'=>HNE.out w') ?_
  with_reducible refine wpQuiet_nil ?_
  intro wx hC;have HC:=Lib.hid hC;clear hC H2;simp only[Act.put,List.setIfInBounds_toArray,List.set_cons_succ,List.set_cons_zero]
  go_wp2_with (refine wpList_store_row rfl 24 _ _ rfl (w.heap.size+1) (pw 0) rfl rfl 24 (#[.int .u64 0,.int .u64 0,.int .u64 0,.int .u64 0]) (by exact HC.out.is _ _ (by simp)) (by rw[pw_size];exact infoW4) (by first | rfl | (rw[pw_size];rfl) | (rw[pw_size,pw_size])) (pw_one _) ?_)
  refine bodyPost_ret (v:=.tuple #[.agg (pw 0),.bool false]) (res_cell_tmp (p:=4) (u:=5) (vb:=.bool false) rfl _ _ (w.heap.size+1) 24 (pw 0) (0,0) _ rfl rfl (setRow_heap _ _ _ _ _ _ (HC.out.is (w.heap.size+1) (#[.int .u64 0,.int .u64 0,.int .u64 0,.int .u64 0]) (by simp))) Tryz.underlying24 rfl (by rw[pw_size];exact infoW4)) rfl ⟨rfl,below_setRow HC.out.old (by omega) _⟩
end Go.Proofs.YtadfjjfklihaaaaGreat
