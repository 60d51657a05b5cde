/- What the reference's Cut comes to. (Cut to what is reached, written closely: RCut.) -/
import Derived.Test.YtadfjjfklihaaaaGreatQ33
set_option linter.all false
set_option maxRecDepth 100000
set_option maxHeartbeats 8000000
namespace Go.Proofs.YtadfjjfklihaaaaGreat
open Go.RowKit
theorem rcut_w(G m lo sq a b:Nat)(hal:a<115792089237316195423570985008687907853269984665640564039457584007913129639936)(hbl:b<115792089237316195423570985008687907853269984665640564039457584007913129639936)(hab:a*b<115792089237316195423570985008687907853269984665640564039457584007913129639936*m)(hm:m<115792089237316195423570985008687907853269984665640564039457584007913129639936)(h1:1<m)(ho:m%2=1)(hll:lo<4294967296)(hlo:(lo*qN m 0+1)%4294967296=0)(w:World)(hF:RFat w G m lo sq):Calls Tryz.prog 114 #[(.pointer (some ⟨G,0,none⟩)),.agg (pw a),.agg (pw b)] w fun e w'=>e=.returned (.agg (pw (mnt m a b)))/\Below w.heap.size w w':=by
 have H0:=Lib.hid (CRf.two hF a b);have HP:=Lib.hid (fun wx=>rparts_any a wx);have HP2:=Lib.hid (fun wx=>rparts_any b wx);have HAB:=Lib.hid hab;have HB:=Lib.hid (And.intro hal (And.intro hbl (And.intro hm (And.intro h1 (And.intro ho (And.intro hll hlo))))));have HZ:=Lib.hid zero10;clear hF hab hal hbl hm h1 ho hll hlo;go_enter Tryz.func114,Tryz.ntmps114
 go_wp2_with fail
 refine region_many [.val 18 ((.agg (pw a))),.val 19 ((.agg (ar .u64 8 fun j=>((qN a j:Nat):Int)))),.val 20 ((.agg (pw b))),.val 21 ((.agg (ar .u64 8 fun j=>((qN b j:Nat):Int)))),.val 22 ((.agg (ar .u64 10 fun j=>(((fun _=>0:Nat->Nat) j:Nat):Int)))),.blk 7 106,.blk 8 106,.blk 9 166,.laid 7 106,.laid 8 106,.laid 9 166] [7,8,9] (fun p=>if p=7 then (ar .u64 8 fun j=>((qN a j:Nat):Int))else if p=8 then (ar .u64 8 fun j=>((qN b j:Nat):Int))else (ar .u64 10 fun j=>(((fun _=>0:Nat->Nat) j:Nat):Int))) (fun i=>i) (by kernel_rfl) (by kernel_rfl) (by exact⟨trivial,trivial,trivial,trivial,trivial,(by simp[Sp.ok]),(by simp[Sp.ok]),(by simp[Sp.ok]),(by simp[Sp.ok]),(by simp[Sp.ok]),(by simp[Sp.ok]),trivial⟩) (by intro p hp q hq hne D e;simp only[List.mem_cons,List.not_mem_nil,or_false]at hp;rcases hp with rfl | rfl | rfl <;> simp[undef]at e) ?_ ?_
 ·refine⟨?_,?_,?_,?_,?_,?_,?_,?_,?_,?_,?_,trivial⟩
  ·intro ac wx hC hsz hK
   have h0:ac.tmps.getD 4 undef=(.pointer (some ⟨w.heap.size,0,none⟩)):=hK.1 4 (by kernel_rfl);exact mm_load 24 (.tmp 4) ((.pointer (some ⟨w.heap.size,0,none⟩))) ((.agg (pw a))) rfl rfl (by kernel_rfl) h0 (ld_pw ((H0.out.below hC.1).is _ _ (by simp))) hC (by kernel_rfl) (by rw[hsz];exact of_decide_eq_true (by kernel_rfl)) rfl
  ·intro ac wx hC hsz hK
   have h0:ac.tmps.getD 18 undef=(.agg (pw a)):=hK.2 ⟨0,.data⟩ (by simp) rfl _ rfl;refine mm_call 60 #[ac.tmps.getD 18 undef] ((.agg (ar .u64 8 fun j=>((qN a j:Nat):Int)))) rfl (by kernel_rfl) (by kernel_rfl) ?_ hC (by kernel_rfl) (by rw[hsz];exact of_decide_eq_true (by kernel_rfl)) rfl;rw[h0];exact HP.out wx
  ·intro ac wx hC hsz hK
   have h0:ac.tmps.getD 5 undef=(.pointer (some ⟨w.heap.size+1,0,none⟩)):=hK.1 5 (by kernel_rfl);exact mm_load 24 (.tmp 5) ((.pointer (some ⟨w.heap.size+1,0,none⟩))) ((.agg (pw b))) rfl rfl (by kernel_rfl) h0 (ld_pw ((H0.out.below hC.1).is _ _ (by simp))) hC (by kernel_rfl) (by rw[hsz];exact of_decide_eq_true (by kernel_rfl)) rfl
  ·intro ac wx hC hsz hK
   have h0:ac.tmps.getD 20 undef=(.agg (pw b)):=hK.2 ⟨2,.data⟩ (by simp) rfl _ rfl;refine mm_call 60 #[ac.tmps.getD 20 undef] ((.agg (ar .u64 8 fun j=>((qN b j:Nat):Int)))) rfl (by kernel_rfl) (by kernel_rfl) ?_ hC (by kernel_rfl) (by rw[hsz];exact of_decide_eq_true (by kernel_rfl)) rfl;rw[h0];exact HP2.out wx
  ·intro ac wx hC hsz hK
   exact mm_val ((.agg (ar .u64 10 fun j=>(((fun _=>0:Nat->Nat) j:Nat):Int)))) rfl (by kernel_rfl) (by kernel_rfl) hC (by kernel_rfl) (by rw[hsz];exact of_decide_eq_true (by kernel_rfl)) rfl
  ·intro ac wx hC hsz hK
   exact mm_new 106 (#[.int .u64 0,.int .u64 0,.int .u64 0,.int .u64 0,.int .u64 0,.int .u64 0,.int .u64 0,.int .u64 0]) rfl (by kernel_rfl) (by kernel_rfl) hC (by simp[ar_size]) (by rw[hsz];exact of_decide_eq_true (by kernel_rfl)) rfl
  ·intro ac wx hC hsz hK
   exact mm_new 106 (#[.int .u64 0,.int .u64 0,.int .u64 0,.int .u64 0,.int .u64 0,.int .u64 0,.int .u64 0,.int .u64 0]) rfl (by kernel_rfl) (by kernel_rfl) hC (by simp[ar_size]) (by rw[hsz];exact of_decide_eq_true (by kernel_rfl)) rfl
  ·intro ac wx hC hsz hK
   exact mm_new 166 (#[.int .u64 0,.int .u64 0,.int .u64 0,.int .u64 0,.int .u64 0,.int .u64 0,.int .u64 0,.int .u64 0,.int .u64 0,.int .u64 0]) rfl (by kernel_rfl) (by kernel_rfl) hC (by simp[ar_size]) (by rw[hsz];exact of_decide_eq_true (by kernel_rfl)) rfl
  ·intro ac wx hC hsz hK
   have h0:ac.tmps.getD 19 undef=(.agg (ar .u64 8 fun j=>((qN a j:Nat):Int))):=hK.2 ⟨1,.data⟩ (by simp) rfl _ rfl;exact mm_store (p:=7) 106 (.tmp 7) (.tmp 19) _ rfl rfl (by kernel_rfl) rfl h0 (by simp) (hK.2 ⟨5,.data⟩ (by simp) rfl _ rfl) (fun D cs h3 h4=>store_8 (h4.trans (by simp[ar_size])) h3) hC rfl
  ·intro ac wx hC hsz hK
   have h0:ac.tmps.getD 21 undef=(.agg (ar .u64 8 fun j=>((qN b j:Nat):Int))):=hK.2 ⟨3,.data⟩ (by simp) rfl _ rfl;exact mm_store (p:=8) 106 (.tmp 8) (.tmp 21) _ rfl rfl (by kernel_rfl) rfl h0 (by simp) (hK.2 ⟨6,.data⟩ (by simp) rfl _ rfl) (fun D cs h3 h4=>store_8 (h4.trans (by simp[ar_size])) h3) hC rfl
  ·intro ac wx hC hsz hK
   have h0:ac.tmps.getD 22 undef=(.agg (ar .u64 10 fun j=>(((fun _=>0:Nat->Nat) j:Nat):Int))):=hK.2 ⟨4,.data⟩ (by simp) rfl _ rfl;exact mm_store (p:=9) 166 (.tmp 9) (.tmp 22) _ rfl rfl (by kernel_rfl) rfl h0 (by simp) (hK.2 ⟨7,.data⟩ (by simp) rfl _ rfl) (fun D cs h3 h4=>store_10 (h4.trans (by simp[ar_size])) h3) hC rfl
 intro f1 w1 hb1 hap hf1;obtain⟨D7,s7,ge7,r7⟩:=hf1 8 _ rfl;obtain⟨D8,s8,ge8,r8⟩:=hf1 9 _ rfl;obtain⟨D9,s9,ge9,r9⟩:=hf1 10 _ rfl;have n7:D7≠D9:=hap.ne 7 (by simp) 9 (by simp) (by omega) D7 D9 s7 s9 ge7 ge9;have n8:D8≠D9:=hap.ne 8 (by simp) 9 (by simp) (by omega) D8 D9 s8 s9 ge8 ge9;have H1:=Lib.hid (show CCt w G m lo sq a b D7 D8 D9 (fun _=>0) w1 from by
  have c:=H0.out.below hb1;have hs:(((w.alloc (.cells (pw a) 24)).alloc (.cells (pw b) 24)).alloc (.cells (#[.int .u64 0,.int .u64 0,.int .u64 0,.int .u64 0]) 24)).heap.size=w.heap.size+1+1+1:=by simp
  exact⟨c.old,c.fld,c.hG,c.is _ _ (by simp),r7,r8,r9,by omega,n7,n8⟩)
 clear hf1 hap hb1 H0 HP HP2 r7 r8 r9 ge7 ge8 ge9 n7 n8;generalize hAct:putAll _ _ _=A1 at *;have s7':A1.tmps.getD 7 undef=.pointer (some ⟨D7,0,none⟩):=s7;have s8':A1.tmps.getD 8 undef=.pointer (some ⟨D8,0,none⟩):=s8;have s9':A1.tmps.getD 9 undef=.pointer (some ⟨D9,0,none⟩):=s9;have s0:A1.tmps.getD 0 undef=(.pointer (some ⟨G,0,none⟩)):=by subst hAct;kernel_rfl
 have s6:A1.tmps.getD 6 undef=.pointer (some ⟨w.heap.size+1+1,0,none⟩):=by subst hAct;kernel_rfl
 have hsz:A1.tmps.size=147:=by rw[<- hAct,putAll_size];rfl
 have hdf:A1.defers=[]:=by subst hAct;kernel_rfl
 clear hAct s7 s8 s9 f1;obtain⟨u1,t1⟩:∃ u,A1.tmps.getD 1 undef=u:=⟨_,rfl⟩
 obtain⟨u2,t2⟩:∃ u,A1.tmps.getD 2 undef=u:=⟨_,rfl⟩
 obtain⟨u3,t3⟩:∃ u,A1.tmps.getD 3 undef=u:=⟨_,rfl⟩
 obtain⟨u4,t4⟩:∃ u,A1.tmps.getD 4 undef=u:=⟨_,rfl⟩
 obtain⟨u5,t5⟩:∃ u,A1.tmps.getD 5 undef=u:=⟨_,rfl⟩
 obtain⟨u10,t10⟩:∃ u,A1.tmps.getD 10 undef=u:=⟨_,rfl⟩
 obtain⟨u11,t11⟩:∃ u,A1.tmps.getD 11 undef=u:=⟨_,rfl⟩
 obtain⟨u12,t12⟩:∃ u,A1.tmps.getD 12 undef=u:=⟨_,rfl⟩
 obtain⟨u13,t13⟩:∃ u,A1.tmps.getD 13 undef=u:=⟨_,rfl⟩
 obtain⟨u14,t14⟩:∃ u,A1.tmps.getD 14 undef=u:=⟨_,rfl⟩
 obtain⟨u15,t15⟩:∃ u,A1.tmps.getD 15 undef=u:=⟨_,rfl⟩
 obtain⟨u16,t16⟩:∃ u,A1.tmps.getD 16 undef=u:=⟨_,rfl⟩
 obtain⟨u17,t17⟩:∃ u,A1.tmps.getD 17 undef=u:=⟨_,rfl⟩
 obtain⟨u18,t18⟩:∃ u,A1.tmps.getD 18 undef=u:=⟨_,rfl⟩
 obtain⟨u19,t19⟩:∃ u,A1.tmps.getD 19 undef=u:=⟨_,rfl⟩
 obtain⟨u20,t20⟩:∃ u,A1.tmps.getD 20 undef=u:=⟨_,rfl⟩
 obtain⟨u21,t21⟩:∃ u,A1.tmps.getD 21 undef=u:=⟨_,rfl⟩
 obtain⟨u22,t22⟩:∃ u,A1.tmps.getD 22 undef=u:=⟨_,rfl⟩
 obtain⟨u23,t23⟩:∃ u,A1.tmps.getD 23 undef=u:=⟨_,rfl⟩
 obtain⟨u24,t24⟩:∃ u,A1.tmps.getD 24 undef=u:=⟨_,rfl⟩
 obtain⟨u25,t25⟩:∃ u,A1.tmps.getD 25 undef=u:=⟨_,rfl⟩
 obtain⟨u26,t26⟩:∃ u,A1.tmps.getD 26 undef=u:=⟨_,rfl⟩
 obtain⟨u27,t27⟩:∃ u,A1.tmps.getD 27 undef=u:=⟨_,rfl⟩
 obtain⟨u28,t28⟩:∃ u,A1.tmps.getD 28 undef=u:=⟨_,rfl⟩
 obtain⟨u29,t29⟩:∃ u,A1.tmps.getD 29 undef=u:=⟨_,rfl⟩
 obtain⟨u30,t30⟩:∃ u,A1.tmps.getD 30 undef=u:=⟨_,rfl⟩
 obtain⟨u31,t31⟩:∃ u,A1.tmps.getD 31 undef=u:=⟨_,rfl⟩
 obtain⟨u32,t32⟩:∃ u,A1.tmps.getD 32 undef=u:=⟨_,rfl⟩
 obtain⟨u33,t33⟩:∃ u,A1.tmps.getD 33 undef=u:=⟨_,rfl⟩
 obtain⟨u34,t34⟩:∃ u,A1.tmps.getD 34 undef=u:=⟨_,rfl⟩
 obtain⟨u35,t35⟩:∃ u,A1.tmps.getD 35 undef=u:=⟨_,rfl⟩
 obtain⟨u36,t36⟩:∃ u,A1.tmps.getD 36 undef=u:=⟨_,rfl⟩
 obtain⟨u37,t37⟩:∃ u,A1.tmps.getD 37 undef=u:=⟨_,rfl⟩
 obtain⟨u38,t38⟩:∃ u,A1.tmps.getD 38 undef=u:=⟨_,rfl⟩
 obtain⟨u39,t39⟩:∃ u,A1.tmps.getD 39 undef=u:=⟨_,rfl⟩
 obtain⟨u40,t40⟩:∃ u,A1.tmps.getD 40 undef=u:=⟨_,rfl⟩
 obtain⟨u41,t41⟩:∃ u,A1.tmps.getD 41 undef=u:=⟨_,rfl⟩
 obtain⟨u42,t42⟩:∃ u,A1.tmps.getD 42 undef=u:=⟨_,rfl⟩
 obtain⟨u43,t43⟩:∃ u,A1.tmps.getD 43 undef=u:=⟨_,rfl⟩
 obtain⟨u44,t44⟩:∃ u,A1.tmps.getD 44 undef=u:=⟨_,rfl⟩
 obtain⟨u45,t45⟩:∃ u,A1.tmps.getD 45 undef=u:=⟨_,rfl⟩
 obtain⟨u46,t46⟩:∃ u,A1.tmps.getD 46 undef=u:=⟨_,rfl⟩
 obtain⟨u47,t47⟩:∃ u,A1.tmps.getD 47 undef=u:=⟨_,rfl⟩
 obtain⟨u48,t48⟩:∃ u,A1.tmps.getD 48 undef=u:=⟨_,rfl⟩
 obtain⟨u49,t49⟩:∃ u,A1.tmps.getD 49 undef=u:=⟨_,rfl⟩
 obtain⟨u50,t50⟩:∃ u,A1.tmps.getD 50 undef=u:=⟨_,rfl⟩
 obtain⟨u51,t51⟩:∃ u,A1.tmps.getD 51 undef=u:=⟨_,rfl⟩
 obtain⟨u52,t52⟩:∃ u,A1.tmps.getD 52 undef=u:=⟨_,rfl⟩
 obtain⟨u53,t53⟩:∃ u,A1.tmps.getD 53 undef=u:=⟨_,rfl⟩
 obtain⟨u54,t54⟩:∃ u,A1.tmps.getD 54 undef=u:=⟨_,rfl⟩
 obtain⟨u55,t55⟩:∃ u,A1.tmps.getD 55 undef=u:=⟨_,rfl⟩
 obtain⟨u56,t56⟩:∃ u,A1.tmps.getD 56 undef=u:=⟨_,rfl⟩
 obtain⟨u57,t57⟩:∃ u,A1.tmps.getD 57 undef=u:=⟨_,rfl⟩
 obtain⟨u58,t58⟩:∃ u,A1.tmps.getD 58 undef=u:=⟨_,rfl⟩
 obtain⟨u59,t59⟩:∃ u,A1.tmps.getD 59 undef=u:=⟨_,rfl⟩
 obtain⟨u60,t60⟩:∃ u,A1.tmps.getD 60 undef=u:=⟨_,rfl⟩
 obtain⟨u61,t61⟩:∃ u,A1.tmps.getD 61 undef=u:=⟨_,rfl⟩
 obtain⟨u62,t62⟩:∃ u,A1.tmps.getD 62 undef=u:=⟨_,rfl⟩
 obtain⟨u63,t63⟩:∃ u,A1.tmps.getD 63 undef=u:=⟨_,rfl⟩
 obtain⟨u64,t64⟩:∃ u,A1.tmps.getD 64 undef=u:=⟨_,rfl⟩
 obtain⟨u65,t65⟩:∃ u,A1.tmps.getD 65 undef=u:=⟨_,rfl⟩
 obtain⟨u66,t66⟩:∃ u,A1.tmps.getD 66 undef=u:=⟨_,rfl⟩
 obtain⟨u67,t67⟩:∃ u,A1.tmps.getD 67 undef=u:=⟨_,rfl⟩
 obtain⟨u68,t68⟩:∃ u,A1.tmps.getD 68 undef=u:=⟨_,rfl⟩
 obtain⟨u69,t69⟩:∃ u,A1.tmps.getD 69 undef=u:=⟨_,rfl⟩
 obtain⟨u70,t70⟩:∃ u,A1.tmps.getD 70 undef=u:=⟨_,rfl⟩
 obtain⟨u71,t71⟩:∃ u,A1.tmps.getD 71 undef=u:=⟨_,rfl⟩
 obtain⟨u72,t72⟩:∃ u,A1.tmps.getD 72 undef=u:=⟨_,rfl⟩
 obtain⟨u73,t73⟩:∃ u,A1.tmps.getD 73 undef=u:=⟨_,rfl⟩
 obtain⟨u74,t74⟩:∃ u,A1.tmps.getD 74 undef=u:=⟨_,rfl⟩
 obtain⟨u75,t75⟩:∃ u,A1.tmps.getD 75 undef=u:=⟨_,rfl⟩
 obtain⟨u76,t76⟩:∃ u,A1.tmps.getD 76 undef=u:=⟨_,rfl⟩
 obtain⟨u77,t77⟩:∃ u,A1.tmps.getD 77 undef=u:=⟨_,rfl⟩
 obtain⟨u78,t78⟩:∃ u,A1.tmps.getD 78 undef=u:=⟨_,rfl⟩
 obtain⟨u79,t79⟩:∃ u,A1.tmps.getD 79 undef=u:=⟨_,rfl⟩
 obtain⟨u80,t80⟩:∃ u,A1.tmps.getD 80 undef=u:=⟨_,rfl⟩
 obtain⟨u81,t81⟩:∃ u,A1.tmps.getD 81 undef=u:=⟨_,rfl⟩
 obtain⟨u82,t82⟩:∃ u,A1.tmps.getD 82 undef=u:=⟨_,rfl⟩
 obtain⟨u83,t83⟩:∃ u,A1.tmps.getD 83 undef=u:=⟨_,rfl⟩
 obtain⟨u84,t84⟩:∃ u,A1.tmps.getD 84 undef=u:=⟨_,rfl⟩
 obtain⟨u85,t85⟩:∃ u,A1.tmps.getD 85 undef=u:=⟨_,rfl⟩
 obtain⟨u86,t86⟩:∃ u,A1.tmps.getD 86 undef=u:=⟨_,rfl⟩
 obtain⟨u87,t87⟩:∃ u,A1.tmps.getD 87 undef=u:=⟨_,rfl⟩
 obtain⟨u88,t88⟩:∃ u,A1.tmps.getD 88 undef=u:=⟨_,rfl⟩
 obtain⟨u89,t89⟩:∃ u,A1.tmps.getD 89 undef=u:=⟨_,rfl⟩
 obtain⟨u90,t90⟩:∃ u,A1.tmps.getD 90 undef=u:=⟨_,rfl⟩
 obtain⟨u91,t91⟩:∃ u,A1.tmps.getD 91 undef=u:=⟨_,rfl⟩
 obtain⟨u92,t92⟩:∃ u,A1.tmps.getD 92 undef=u:=⟨_,rfl⟩
 obtain⟨u93,t93⟩:∃ u,A1.tmps.getD 93 undef=u:=⟨_,rfl⟩
 obtain⟨u94,t94⟩:∃ u,A1.tmps.getD 94 undef=u:=⟨_,rfl⟩
 obtain⟨u95,t95⟩:∃ u,A1.tmps.getD 95 undef=u:=⟨_,rfl⟩
 obtain⟨u96,t96⟩:∃ u,A1.tmps.getD 96 undef=u:=⟨_,rfl⟩
 obtain⟨u97,t97⟩:∃ u,A1.tmps.getD 97 undef=u:=⟨_,rfl⟩
 obtain⟨u98,t98⟩:∃ u,A1.tmps.getD 98 undef=u:=⟨_,rfl⟩
 obtain⟨u99,t99⟩:∃ u,A1.tmps.getD 99 undef=u:=⟨_,rfl⟩
 obtain⟨u100,t100⟩:∃ u,A1.tmps.getD 100 undef=u:=⟨_,rfl⟩
 obtain⟨u101,t101⟩:∃ u,A1.tmps.getD 101 undef=u:=⟨_,rfl⟩
 obtain⟨u102,t102⟩:∃ u,A1.tmps.getD 102 undef=u:=⟨_,rfl⟩
 obtain⟨u103,t103⟩:∃ u,A1.tmps.getD 103 undef=u:=⟨_,rfl⟩
 obtain⟨u104,t104⟩:∃ u,A1.tmps.getD 104 undef=u:=⟨_,rfl⟩
 obtain⟨u105,t105⟩:∃ u,A1.tmps.getD 105 undef=u:=⟨_,rfl⟩
 obtain⟨u106,t106⟩:∃ u,A1.tmps.getD 106 undef=u:=⟨_,rfl⟩
 obtain⟨u107,t107⟩:∃ u,A1.tmps.getD 107 undef=u:=⟨_,rfl⟩
 obtain⟨u108,t108⟩:∃ u,A1.tmps.getD 108 undef=u:=⟨_,rfl⟩
 obtain⟨u109,t109⟩:∃ u,A1.tmps.getD 109 undef=u:=⟨_,rfl⟩
 obtain⟨u110,t110⟩:∃ u,A1.tmps.getD 110 undef=u:=⟨_,rfl⟩
 obtain⟨u111,t111⟩:∃ u,A1.tmps.getD 111 undef=u:=⟨_,rfl⟩
 obtain⟨u112,t112⟩:∃ u,A1.tmps.getD 112 undef=u:=⟨_,rfl⟩
 obtain⟨u113,t113⟩:∃ u,A1.tmps.getD 113 undef=u:=⟨_,rfl⟩
 obtain⟨u114,t114⟩:∃ u,A1.tmps.getD 114 undef=u:=⟨_,rfl⟩
 obtain⟨u115,t115⟩:∃ u,A1.tmps.getD 115 undef=u:=⟨_,rfl⟩
 obtain⟨u116,t116⟩:∃ u,A1.tmps.getD 116 undef=u:=⟨_,rfl⟩
 obtain⟨u117,t117⟩:∃ u,A1.tmps.getD 117 undef=u:=⟨_,rfl⟩
 obtain⟨u118,t118⟩:∃ u,A1.tmps.getD 118 undef=u:=⟨_,rfl⟩
 obtain⟨u119,t119⟩:∃ u,A1.tmps.getD 119 undef=u:=⟨_,rfl⟩
 obtain⟨u120,t120⟩:∃ u,A1.tmps.getD 120 undef=u:=⟨_,rfl⟩
 obtain⟨u121,t121⟩:∃ u,A1.tmps.getD 121 undef=u:=⟨_,rfl⟩
 obtain⟨u122,t122⟩:∃ u,A1.tmps.getD 122 undef=u:=⟨_,rfl⟩
 obtain⟨u123,t123⟩:∃ u,A1.tmps.getD 123 undef=u:=⟨_,rfl⟩
 obtain⟨u124,t124⟩:∃ u,A1.tmps.getD 124 undef=u:=⟨_,rfl⟩
 obtain⟨u125,t125⟩:∃ u,A1.tmps.getD 125 undef=u:=⟨_,rfl⟩
 obtain⟨u126,t126⟩:∃ u,A1.tmps.getD 126 undef=u:=⟨_,rfl⟩
 obtain⟨u127,t127⟩:∃ u,A1.tmps.getD 127 undef=u:=⟨_,rfl⟩
 obtain⟨u128,t128⟩:∃ u,A1.tmps.getD 128 undef=u:=⟨_,rfl⟩
 obtain⟨u129,t129⟩:∃ u,A1.tmps.getD 129 undef=u:=⟨_,rfl⟩
 obtain⟨u130,t130⟩:∃ u,A1.tmps.getD 130 undef=u:=⟨_,rfl⟩
 obtain⟨u131,t131⟩:∃ u,A1.tmps.getD 131 undef=u:=⟨_,rfl⟩
 obtain⟨u132,t132⟩:∃ u,A1.tmps.getD 132 undef=u:=⟨_,rfl⟩
 obtain⟨u133,t133⟩:∃ u,A1.tmps.getD 133 undef=u:=⟨_,rfl⟩
 obtain⟨u134,t134⟩:∃ u,A1.tmps.getD 134 undef=u:=⟨_,rfl⟩
 obtain⟨u135,t135⟩:∃ u,A1.tmps.getD 135 undef=u:=⟨_,rfl⟩
 obtain⟨u136,t136⟩:∃ u,A1.tmps.getD 136 undef=u:=⟨_,rfl⟩
 obtain⟨u137,t137⟩:∃ u,A1.tmps.getD 137 undef=u:=⟨_,rfl⟩
 obtain⟨u138,t138⟩:∃ u,A1.tmps.getD 138 undef=u:=⟨_,rfl⟩
 obtain⟨u139,t139⟩:∃ u,A1.tmps.getD 139 undef=u:=⟨_,rfl⟩
 obtain⟨u140,t140⟩:∃ u,A1.tmps.getD 140 undef=u:=⟨_,rfl⟩
 obtain⟨u141,t141⟩:∃ u,A1.tmps.getD 141 undef=u:=⟨_,rfl⟩
 obtain⟨u142,t142⟩:∃ u,A1.tmps.getD 142 undef=u:=⟨_,rfl⟩
 obtain⟨u143,t143⟩:∃ u,A1.tmps.getD 143 undef=u:=⟨_,rfl⟩
 obtain⟨u144,t144⟩:∃ u,A1.tmps.getD 144 undef=u:=⟨_,rfl⟩
 obtain⟨u145,t145⟩:∃ u,A1.tmps.getD 145 undef=u:=⟨_,rfl⟩
 obtain⟨u146,t146⟩:∃ u,A1.tmps.getD 146 undef=u:=⟨_,rfl⟩
 obtain⟨tm,df⟩:=A1;simp only at *;have hLt:=arr_litS tm;rw[hsz]at hLt;simp only[List.range,List.range.loop,List.map]at hLt;rw[s0,t1,t2,t3,t4,t5,s6,s7',s8',s9',t10,t11,t12,t13,t14,t15,t16,t17,t18,t19,t20,t21,t22,t23,t24,t25,t26,t27,t28,t29,t30,t31,t32,t33,t34,t35,t36,t37,t38,t39,t40,t41,t42,t43,t44,t45,t46,t47,t48,t49,t50,t51,t52,t53,t54,t55,t56,t57,t58,t59,t60,t61,t62,t63,t64,t65,t66,t67,t68,t69,t70,t71,t72,t73,t74,t75,t76,t77,t78,t79,t80,t81,t82,t83,t84,t85,t86,t87,t88,t89,t90,t91,t92,t93,t94,t95,t96,t97,t98,t99,t100,t101,t102,t103,t104,t105,t106,t107,t108,t109,t110,t111,t112,t113,t114,t115,t116,t117,t118,t119,t120,t121,t122,t123,t124,t125,t126,t127,t128,t129,t130,t131,t132,t133,t134,t135,t136,t137,t138,t139,t140,t141,t142,t143,t144,t145,t146]at hLt;subst hLt hdf;clear s0 t1 t2 t3 t4 t5 s6 s7' s8' s9' t10 t11 t12 t13 t14 t15 t16 t17 t18 t19 t20 t21 t22 t23 t24 t25 t26 t27 t28 t29 t30 t31 t32 t33 t34 t35 t36 t37 t38 t39 t40 t41 t42 t43 t44 t45 t46 t47 t48 t49 t50 t51 t52 t53 t54 t55 t56 t57 t58 t59 t60 t61 t62 t63 t64 t65 t66 t67 t68 t69 t70 t71 t72 t73 t74 t75 t76 t77 t78 t79 t80 t81 t82 t83 t84 t85 t86 t87 t88 t89 t90 t91 t92 t93 t94 t95 t96 t97 t98 t99 t100 t101 t102 t103 t104 t105 t106 t107 t108 t109 t110 t111 t112 t113 t114 t115 t116 t117 t118 t119 t120 t121 t122 t123 t124 t125 t126 t127 t128 t129 t130 t131 t132 t133 t134 t135 t136 t137 t138 t139 t140 t141 t142 t143 t144 t145 t146 hsz;have HZ0:=Lib.hid (CutI.start a (qN b) (by have:=HB.out.2.2.2.1;omega:0<m))
 go_wp2_with fail
 go_loopw [10] (fun iv wr=>∃(k:Nat) (f:Nat->Nat),k<=8/\iv=.int .i64 k/\Hid (CutI m a (qN b) k f/\CCt w G m lo sq a b D7 D8 D9 f wr)) (fun iv _=>8 - (intOf iv).toNat)
 case atStart=>exact⟨0,_,by omega,rfl,Lib.hid ⟨HZ0.out,H1.out⟩⟩
 case round =>
  obtain⟨k,f,hk,rfl,H⟩:=hrel;clear H1 HZ0;have hk0:(0:Int)<=k:=by omega
  by_cases hlt:k<8
  ·have hk8:(k:Int)<8:=by omega
   have HK:=Lib.hid hlt;have HY:=Lib.hid (qN_lt b k);obtain⟨y,hy⟩:∃ y,qN b k=y:=⟨_,rfl⟩
   have HYe:=Lib.hid hy;rw[hy]at HY;clear hlt hk hy
   go_wp2_with fail
   go_loopw [11,12] (fun cv jv wq=>∃(c j:Nat) (f1:Nat->Nat),j<=8/\cv=.int .u64 c/\jv=.int .i64 j/\Hid (In1 f (qN a) y j c f1/\CCt w G m lo sq a b D7 D8 D9 f1 wq)) (fun _ jv _=>8 - (intOf jv).toNat)
   case atStart=>exact⟨0,0,f,by omega,rfl,rfl,Lib.hid ⟨In1.start _ _ _,H.out.2⟩⟩
   case round =>
    obtain⟨c,j,f1,hj,rfl,rfl,I⟩:=hrel;have hj0:(0:Int)<=j:=by omega
    by_cases hlj:j<8
    ·have hj8:(j:Int)<8:=by omega
     have hj10:(j:Int)<10:=by omega
     have ct:=I.out.2.ct j (by omega);have cx:=I.out.2.cx j hlj;have cy:=I.out.2.cy k HK.out;have fz:=I.out.2.fz j;rw[HYe.out]at cy;rw[I.out.1.hi j (Nat.le_refl _)]at ct;have hb:=I.out.1.big (H.out.1.lo j hlj) (qN_lt a j) HY.out;have hcl:=I.out.1.cl;have hfl:=H.out.1.lo j hlj;have hst:=Lib.hid (fun d hd=>I.out.1.step (d:=d) (H.out.1.lo j hlj) (qN_lt a j) HY.out hd);obtain⟨t,ht⟩:∃ t,f j=t:=⟨_,rfl⟩
     obtain⟨x,hx⟩:∃ x,qN a j=x:=⟨_,rfl⟩
     rw[ht]at ct hb hst hfl;rw[hx]at cx hb hst;obtain⟨pr,hpr⟩:∃ pr,x*y=pr:=⟨_,rfl⟩
     rw[hpr]at hb hst;obtain⟨s1,hs1⟩:∃ s1,c+t=s1:=⟨_,rfl⟩
     rw[hs1]at hb hst;obtain⟨d,hd⟩:∃ d,s1+pr=d:=⟨_,rfl⟩
     have hW1:IntKind.u64.wrap ((c:Int)+(t:Int))=(s1:Int):=by rw[IntKind.wrap_u64];omega
     have hW2:IntKind.u64.wrap ((x:Int)*(y:Int))=(pr:Int):=by rw[IntKind.wrap_u64,show(x:Int)*y=(pr:Int) from by rw[<- hpr,Int.natCast_mul]];omega
     have hW3:IntKind.u64.wrap ((s1:Int)+(pr:Int))=(d:Int):=by rw[IntKind.wrap_u64];omega
     have hdl:d<18446744073709551616:=by omega
     obtain⟨dl,hdl2⟩:∃ dl,d%4294967296=dl:=⟨_,rfl⟩
     obtain⟨dh,hdh⟩:∃ dh,d / 4294967296=dh:=⟨_,rfl⟩
     have hA:bits .and .u64 (d:Int) 4294967295=(dl:Int):=by rw[and_low32 d hdl,hdl2]
     have hS:(d:Int) / 4294967296=(dh:Int):=by omega
     have hst:=Lib.hid (hst.out d hd);rw[hdl2,hdh]at hst;have HJ:=Lib.hid hlj;clear hb hcl hfl ht hx hpr hs1 hd hdl hdl2 hdh hlj hj
     go_wp2_with fail
     go_region
     go_wp2_with fail
     go_roundw
     case rel=>exact⟨dh,j+1,updN f1 j dl,by have:=HJ.out;omega,rfl,by go_num,Lib.hid ⟨hst.out,I.out.2.drew.put j dl (by have:=HJ.out;omega)⟩⟩
     case measure=>have:=HJ.out;simp[intOf];omega
    ·have hj8:¬(j:Int)<8:=by omega
     obtain rfl:j=8:=by omega
     have c8:=I.out.2.ct 8 (by omega);have c9:=I.out.2.ct 9 (by omega);have z8:=I.out.2.fz 8;have z9:=I.out.2.fz 9;have ht8:=H.out.1.top HB.out.1 HB.out.2.2.1;have h18:=I.out.1.hi 8 (by omega);have hcl:=I.out.1.cl;obtain⟨t8,hte⟩:∃ t8,f1 8=t8:=⟨_,rfl⟩
     rw[<- h18,hte]at ht8;rw[hte]at c8;obtain⟨e,he⟩:∃ e,c+t8=e:=⟨_,rfl⟩
     have hW:IntKind.u64.wrap ((c:Int)+(t8:Int))=(e:Int):=by rw[IntKind.wrap_u64];omega
     have hel:e<18446744073709551616:=by omega
     obtain⟨el,hel2⟩:∃ el,e%4294967296=el:=⟨_,rfl⟩
     obtain⟨eh,heh⟩:∃ eh,e / 4294967296=eh:=⟨_,rfl⟩
     have hA:bits .and .u64 (e:Int) 4294967295=(el:Int):=by rw[and_low32 e hel,hel2]
     have hS:(e:Int) / 4294967296=(eh:Int):=by omega
     have HE:=Lib.hid (And.intro (show c+f1 8=e from by rw[hte];exact he) (And.intro hel2 (And.intro heh (show e<4294967300 by omega))));have hcl2:=Lib.hid hcl;clear ht8 h18 hte he hel hel2 heh hj hlj hcl
     go_wp2_with fail
     obtain⟨w3,hw3⟩:∃ w3,(wr.setCell ⟨D9,8,none⟩ (.int .u64 (el:Nat))).setCell ⟨D9,9,none⟩ (.int .u64 (eh:Nat))=w3:=⟨_,rfl⟩
     obtain⟨F,hFe⟩:∃ F,updN (updN f1 8 el) 9 eh=F:=⟨_,rfl⟩
     have J:=Lib.hid (show CCt w G m lo sq a b D7 D8 D9 F w3 from by rw[<- hw3,<- hFe];exact(I.out.2.put 8 el (by omega)).put 9 eh (by omega));have HFe:=Lib.hid hFe;have hF0:F 0<4294967296:=by rw[<- hFe,updN_ne _ _ _ (by omega),updN_ne _ _ _ (by omega)];exact I.out.1.lo 0 (by omega)
     have HFl:=Lib.hid (show ∀ i,i<8->F i<4294967296 from fun i hi=>by rw[<- hFe,updN_ne _ _ _ (by omega),updN_ne _ _ _ (by omega)];exact I.out.1.lo i hi);have I1:=Lib.hid I.out.1;rw[hw3];clear hw3 hFe I hW hA hS c8 c9 z8 z9;have ct:=J.out.ct 0 (by omega);have cl:=J.out.cl;have cq:w3.cell? ⟨G,4,none⟩=some (.int .u64 (qN m 0:Nat)):=J.out.cq 0 (by omega);have hql:=qN_lt m 0;have hll:=HB.out.2.2.2.2.2.1;have hlo:=HB.out.2.2.2.2.2.2;obtain⟨x0,hx0⟩:∃ x0,F 0=x0:=⟨_,rfl⟩
     obtain⟨q0,hq0⟩:∃ q0,qN m 0=q0:=⟨_,rfl⟩
     have HX0:=Lib.hid (And.intro hx0 hq0);rw[hx0]at ct hF0;rw[hq0]at cq hql hlo;have hb2:x0*lo<=4294967295*4294967295:=Nat.mul_le_mul (by omega) (by omega);obtain⟨p2,hp2⟩:∃ p2,x0*lo=p2:=⟨_,rfl⟩
     obtain⟨kk,hkk⟩:∃ kk,p2%4294967296=kk:=⟨_,rfl⟩
     rw[hp2]at hb2;have hkl:kk<4294967296:=by omega
     have hb3:kk*q0<=4294967295*4294967295:=Nat.mul_le_mul (by omega) (by omega);have hdv:=cut_low (k:=kk) hlo (by rw[hp2,hkk]);obtain⟨p3,hp3⟩:∃ p3,kk*q0=p3:=⟨_,rfl⟩
     rw[hp3]at hb3 hdv;obtain⟨s3,hs3⟩:∃ s3,x0+p3=s3:=⟨_,rfl⟩
     rw[hs3]at hdv;obtain⟨c3,hc3⟩:∃ c3,s3 / 4294967296=c3:=⟨_,rfl⟩
     have hV2:IntKind.u64.wrap ((x0:Int)*(lo:Int))=(p2:Int):=by rw[IntKind.wrap_u64,show(x0:Int)*lo=(p2:Int) from by rw[<- hp2,Int.natCast_mul]];omega
     have hA2:bits .and .u64 (p2:Int) 4294967295=(kk:Int):=by rw[and_low32 p2 (by omega),hkk]
     have hV3:IntKind.u64.wrap ((kk:Int)*(q0:Int))=(p3:Int):=by rw[IntKind.wrap_u64,show(kk:Int)*q0=(p3:Int) from by rw[<- hp3,Int.natCast_mul]];omega
     have hV4:IntKind.u64.wrap ((x0:Int)+(p3:Int))=(s3:Int):=by rw[IntKind.wrap_u64];omega
     have hS3:(s3:Int) / 4294967296=(c3:Int):=by omega
     have I2:=Lib.hid (show In2 F (qN m) kk 0 c3 F from In2.start (d:=s3) (by rw[HX0.out.1,HX0.out.2,hp3,hs3]) hdv (by omega) hc3);have HKL:=Lib.hid hkl;clear hql hll hlo hx0 hq0 hF0 hb2 hp2 hkk hkl hb3 hdv hp3 hs3 hc3
     go_region
     go_wp2_with fail
     go_region
     go_wp2_with fail
     go_loopw [11,14] (fun cv jv wq=>∃(c i:Nat) (g:Nat->Nat),i<=7/\cv=.int .u64 c/\jv=.int .i64 ((i:Int)+1)/\Hid (In2 F (qN m) kk i c g/\CCt w G m lo sq a b D7 D8 D9 g wq)) (fun _ jv _=>8 - (intOf jv).toNat)
     case atStart=>exact⟨c3,0,F,by omega,rfl,by go_num,Lib.hid ⟨I2.out,J.out.drew.drew⟩⟩
     case round =>
      obtain⟨c,i,g,hi,rfl,rfl,I⟩:=hrel;clear I2 ct cl cq hV2 hA2 hV3 hV4 hS3 J;have hi0:(0:Int)<=i:=by omega
      have hi1:(0:Int)<=(i:Int)+1:=by omega
      by_cases hli:i<7
      ·have hi8:(i:Int)+1<8:=by omega
       have hi10:(i:Int)+1<10:=by omega
       have hi10':(i:Int)<10:=by omega
       have ct:=I.out.2.ct (i+1) (by omega);have ci:=I.out.2.ct i (by omega);have cq:=I.out.2.cq (i+1) (by omega);have fz:=I.out.2.fz i;rw[I.out.1.hi (i+1) (by omega)]at ct;have hb:=I.out.1.big (HFl.out (i+1) (by omega)) (qN_lt m _) HKL.out;have hcl:=I.out.1.cl;have hfl:=HFl.out (i+1) (by omega);have hst:=Lib.hid (fun d hd=>I.out.1.step (d:=d) (HFl.out (i+1) (by omega)) (qN_lt m _) HKL.out hd);obtain⟨t,ht⟩:∃ t,F (i+1)=t:=⟨_,rfl⟩
       obtain⟨x,hx⟩:∃ x,qN m (i+1)=x:=⟨_,rfl⟩
       rw[ht]at ct hb hst hfl;rw[hx]at cq hb hst;obtain⟨pr,hpr⟩:∃ pr,kk*x=pr:=⟨_,rfl⟩
       rw[hpr]at hb hst;obtain⟨s1,hs1⟩:∃ s1,c+t=s1:=⟨_,rfl⟩
       rw[hs1]at hb hst;obtain⟨d,hd⟩:∃ d,s1+pr=d:=⟨_,rfl⟩
       have hW1:IntKind.u64.wrap ((c:Int)+(t:Int))=(s1:Int):=by rw[IntKind.wrap_u64];omega
       have hW2:IntKind.u64.wrap ((kk:Int)*(x:Int))=(pr:Int):=by rw[IntKind.wrap_u64,show(kk:Int)*x=(pr:Int) from by rw[<- hpr,Int.natCast_mul]];omega
       have hW3:IntKind.u64.wrap ((s1:Int)+(pr:Int))=(d:Int):=by rw[IntKind.wrap_u64];omega
       have hdl:d<18446744073709551616:=by omega
       obtain⟨dl,hdl2⟩:∃ dl,d%4294967296=dl:=⟨_,rfl⟩
       obtain⟨dh,hdh⟩:∃ dh,d / 4294967296=dh:=⟨_,rfl⟩
       have hA:bits .and .u64 (d:Int) 4294967295=(dl:Int):=by rw[and_low32 d hdl,hdl2]
       have hS:(d:Int) / 4294967296=(dh:Int):=by omega
       have hst:=Lib.hid (hst.out d hd);rw[hdl2,hdh]at hst;have HI:=Lib.hid hli;clear hb hcl hfl ht hx hpr hs1 hd hdl hdl2 hdh hli hi
       go_wp2_with fail
       go_region
       go_wp2_with fail
       go_roundw
       case rel=>exact⟨dh,i+1,updN g i dl,by have:=HI.out;omega,rfl,by go_num,Lib.hid ⟨hst.out,I.out.2.drew.put i dl (by have:=HI.out;omega)⟩⟩
       case measure=>have:=HI.out;simp[intOf];omega
      ·obtain rfl:i=7:=by omega
       simp only[Int.cast_ofNat_Int];have c8:=I.out.2.ct 8 (by omega);have c9:=I.out.2.ct 9 (by omega);have c7:=I.out.2.ct 7 (by omega);have z8:=I.out.2.fz 8;have z7:=I.out.2.fz 7;have g8:=I.out.1.hi 8 (by omega);have g9:=I.out.1.hi 9 (by omega);have hcl:=I.out.1.cl;have F8:F 8=el:=by rw[<- HFe.out,updN_ne _ _ _ (by omega),updN_at]
       have F9:F 9=eh:=by rw[<- HFe.out,updN_at]
       rw[g8,F8]at c8;rw[g9,F9]at c9;have hel:=HE.out.2.1;have heh:=HE.out.2.2.1;have he5:=HE.out.2.2.2;obtain⟨e2,he2⟩:∃ e2,c+el=e2:=⟨_,rfl⟩
       have hW:IntKind.u64.wrap ((c:Int)+(el:Int))=(e2:Int):=by rw[IntKind.wrap_u64];omega
       obtain⟨l2,hl2⟩:∃ l2,e2%4294967296=l2:=⟨_,rfl⟩
       obtain⟨h2,hh2⟩:∃ h2,e2 / 4294967296=h2:=⟨_,rfl⟩
       have hA:bits .and .u64 (e2:Int) 4294967295=(l2:Int):=by rw[and_low32 e2 (by omega),hl2]
       have hS:(e2:Int) / 4294967296=(h2:Int):=by omega
       obtain⟨t2,ht2⟩:∃ t2,eh+h2=t2:=⟨_,rfl⟩
       have hW2:IntKind.u64.wrap ((eh:Int)+(h2:Int))=(t2:Int):=by rw[IntKind.wrap_u64];omega
       have HU:=Lib.hid (show CutI m a (qN b) (k+1) (updN (updN g 7 l2) 8 t2) from by
        have hh:=H.out.1.step (e2:=e2) (e:=e) (g:=g) HB.out.1 HB.out.2.2.1 (by rw[HYe.out];exact HY.out) HKL.out (by rw[HYe.out];exact I1.out) HE.out.1 (by rw[hel,heh,HFe.out];exact I.out.1) (by rw[g8,F8];exact he2);rw[hl2,hh2,g9,F9,ht2]at hh;exact hh)
       have HC:=Lib.hid ((I.out.2.put 7 l2 (by omega)).put 8 t2 (by omega));clear g8 g9 hcl F8 F9 hel heh he5 he2 hl2 hh2 ht2 hi hli I
       go_wp2_with fail
       go_roundw
       case rel=>exact⟨k+1,_,by have:=HK.out;omega,by go_num,Lib.hid ⟨HU.out,HC.out⟩⟩
       case measure=>have:=HK.out;simp[intOf];omega
  ·have hk8:¬(k:Int)<8:=by omega
   obtain rfl:k=8:=by omega
   have hdn:=H.out.1.done HB.out.2.2.1 HB.out.2.2.2.1 HB.out.2.2.2.2.1 HB.out.2.1 HAB.out;have ht8:=H.out.1.top HB.out.1 HB.out.2.2.1;have hlo8:=H.out.1.lo;have hv8:=vq_lt (n:=8) hlo8;have hv9:vq f 9=vq f 8+115792089237316195423570985008687907853269984665640564039457584007913129639936*f 8:=rfl;have hpf:vq (prt f 8) 8=vq f 8:=vq_congr fun j hj=>by unfold prt;rw[if_pos hj]
   have HWH:=Lib.hid (fun wx=>rwhole_any (prt f 8) (fun j hj=>by unfold prt;rw[if_pos hj];exact hlo8 j hj) wx);rw[hpf]at HWH;obtain⟨v,hv⟩:∃ v,vq f 8=v:=⟨_,rfl⟩
   simp only[Nat.reduceMul,Nat.reducePow]at hv8;rw[hv]at HWH hv8 hv9;obtain⟨t8,hte⟩:∃ t8,f 8=t8:=⟨_,rfl⟩
   rw[hte]at hv9 ht8;rw[hv9]at hdn;have hm:=HB.out.2.2.1;have HMO:=Lib.hid (fun wx=>moreW_any v m hv8 hm wx);have HMI:=Lib.hid (fun wx=>minusW_any v m hv8 hm wx);obtain⟨z,hz⟩:∃ z,pw (mnt m a b)=z:=⟨_,rfl⟩
   rw[<- hdn.1]at hz;have HQ1:=Lib.hid (show t8=1\/m<=v->pw (v+115792089237316195423570985008687907853269984665640564039457584007913129639936 - m)=z from fun h=>by
    rw[<- hz];apply pw_less;have e:(v+115792089237316195423570985008687907853269984665640564039457584007913129639936*t8)%m=v+115792089237316195423570985008687907853269984665640564039457584007913129639936*t8 - m:=by
     rw[Nat.mod_eq_sub_mod (by omega),Nat.mod_eq_of_lt (by omega)]
    omega)
   obtain⟨yy,hyy⟩:∃ yy,v+115792089237316195423570985008687907853269984665640564039457584007913129639936 - m=yy:=⟨_,rfl⟩
   rw[hyy]at HMI HQ1;clear hyy;have HQ2:=Lib.hid (show t8=0->¬m<=v->pw v=z from fun h1 h2=>by
    rw[<- hz,h1,Nat.mul_zero,Nat.add_zero,Nat.mod_eq_of_lt (by omega)])
   have HZe:=Lib.hid (show pw (mnt m a b)=z from by rw[<- hdn.1];exact hz);have HT:=Lib.hid (And.intro hte ht8);have HC:=Lib.hid H.out.2;have HA:=Lib.hid H.out.2.all;clear hdn ht8 hlo8 hv8 hv9 hpf hv hte hm hz H hk;simp only[Int.cast_ofNat_Int]
   go_wp2_with fail
   have K0:=Lib.hid (show CCt w G m lo sq a b D7 D8 D9 f (wr.alloc (.cells (#[.int .u64 0,.int .u64 0,.int .u64 0,.int .u64 0,.int .u64 0,.int .u64 0,.int .u64 0,.int .u64 0]) 106))/\(wr.alloc (.cells (#[.int .u64 0,.int .u64 0,.int .u64 0,.int .u64 0,.int .u64 0,.int .u64 0,.int .u64 0,.int .u64 0]) 106)).heap[wr.heap.size]?=some (.cells (ar .u64 8 fun j=>((prt f 0 j:Nat):Int)) 106 (0,0)) from
    ⟨HC.out.below ((Below.refl _ _).alloc (Nat.le_refl _) _),by rw[prt_zero];exact heap_alloc_new _ _⟩)
   obtain⟨w5,hw5⟩:∃ w5,wr.alloc (.cells (#[.int .u64 0,.int .u64 0,.int .u64 0,.int .u64 0,.int .u64 0,.int .u64 0,.int .u64 0,.int .u64 0]) 106)=w5:=⟨_,rfl⟩
   obtain⟨d5,hd5⟩:∃ d5,wr.heap.size=d5:=⟨_,rfl⟩
   rw[hw5,hd5]at K0;rw[hd5]at HA;rw[hw5,hd5];clear hw5 hd5 HC
   go_loopw [16] (fun iv wq=>∃ i:Nat,i<=8/\iv=.int .i64 i/\Hid (CCt w G m lo sq a b D7 D8 D9 f wq/\wq.heap[d5]?=some (.cells (ar .u64 8 fun j=>((prt f i j:Nat):Int)) 106 (0,0)))) (fun iv _=>8 - (intOf iv).toNat)
   case atStart=>exact⟨0,by omega,rfl,K0⟩
   case round =>
    obtain⟨i,hi,rfl,K⟩:=hrel;clear K0;have hi0:(0:Int)<=i:=by omega
    by_cases hli:i<8
    ·have hi8:(i:Int)<8:=by omega
     have hi10:(i:Int)<10:=by omega
     have ct:=K.out.1.ct i (by omega);have cp:wr.cell? ⟨d5,i,none⟩=some (.int .u64 (prt f i i:Nat)):=(cell_of_row _ _ i _ _ _ K.out.2).trans (ar_at _ _ _ _ (by omega));have fz:wr.frozen? ⟨d5,i,none⟩=false:=frozen_of_row wr _ i _ _ K.out.2;have HI:=Lib.hid hli;have HN:=Lib.hid (And.intro (K.out.1.far HA.out i (.int .u64 (f i:Nat))) (prt_put K.out.2 hli));clear hli hi K
     go_wp2_with fail
     go_roundw
     case rel=>exact⟨i+1,by have:=HI.out;omega,by go_num,HN⟩
     case measure=>have:=HI.out;simp[intOf];omega
    ·obtain rfl:i=8:=by omega
     simp only[Int.cast_ofNat_Int]
     go_wp2_with (refine wpList_load_row rfl 106 _ rfl d5 rfl 106 _ (0,0) _ (by exact K.out.2) Tryz.underlying106 rfl (info8r _) ?_)
     refine(HWH.out _).mono ?_;rintro e w6 ⟨rfl,hb6⟩;have L1:=Lib.hid ((K.out.1.below hb6).lay v);have G1:=Lib.hid (heap_alloc_new w6 (.cells (#[.int .u64 0,.int .u64 0,.int .u64 0,.int .u64 0]) 24));clear hb6 K HWH hi
     go_upto_region 28 with(refine wpList_store_row rfl 24 _ _ rfl w6.heap.size (pw v) rfl rfl 24 (#[.int .u64 0,.int .u64 0,.int .u64 0,.int .u64 0]) (by exact G1.out) (by rw[pw_size];exact infoW4) (by rw[pw_size];rfl) (pw_one _) ?_)
     obtain⟨w7,hw7⟩:∃ w7,(w6.alloc (.cells (#[.int .u64 0,.int .u64 0,.int .u64 0,.int .u64 0]) 24)).setRow w6.heap.size (pw v)=w7:=⟨_,rfl⟩
     obtain⟨g17,hg17⟩:∃ g17,w6.heap.size=g17:=⟨_,rfl⟩
     rw[hw7,hg17]at L1;rw[hw7,hg17];clear hw7 hg17 G1;have ht:=HT.out;by_cases h1:t8=1
     ·subst h1
      have HE:=Lib.hid (HQ1.out (.inl rfl));have H8:=Lib.hid ht.1;clear ht HT HQ1 HQ2 HMO;refine wp_region_quiet (C:=CCu w G m lo sq a b D7 D8 D9 f g17 v) (by kernel_rfl) (by kernel_rfl) (L1.out.drew) ?_;simp only
      with_reducible refine q_sem2 (Instr.indexAt 166 (.pointer (some ⟨D9,0,none⟩)) (.int .i64 8)) (.pointer (some ⟨D9,8,none⟩)) (by kernel_rfl) (by kernel_rfl) (fun w' _=>ix_10 D9 w') ?_
      with_reducible refine q_load 22 (.tmp 129) (.pointer (some ⟨D9,8,none⟩)) (.int .u64 (1:Nat)) rfl (by kernel_rfl) (by kernel_rfl) (fun _ c=>load_u64 _ _ _ _ ((c.c.ct 8 (by omega)).trans (by rw[H8.out]))) ?_
      with_reducible refine q_bin .gtr 22 _ _ 22 (.int .u64 (1:Nat)) (.int .u64 0) (.bool true) rfl (by kernel_rfl) (by kernel_rfl) (by kernel_rfl) (fun _=>by kernel_rfl) (fun w'=>by kernel_rfl) ?_
      with_reducible refine q_val (.bool true) (by kernel_rfl) (fun _ _=>by kernel_rfl) ?_
      with_reducible refine q_skip (by kernel_rfl) ?_
      with_reducible refine q_skip (by kernel_rfl) ?_
      with_reducible refine q_skip (by kernel_rfl) ?_
      with_reducible refine q_skip (by kernel_rfl) ?_
      with_reducible refine q_skip (by kernel_rfl) ?_
      with_reducible refine q_skip (by kernel_rfl) ?_
      with_reducible refine q_val (.bool true) (by kernel_rfl) (fun _ _=>by kernel_rfl) ?_
      with_reducible refine wpQuiet_nil ?_
      intro wx hC;have HC:=Lib.hid hC;clear hC L1;simp only[Act.put,List.setIfInBounds_toArray,List.set_cons_succ,List.set_cons_zero]
      go_wp2_with fail
      refine region_quiet_tail 6 (CCu w G m lo sq a b D7 D8 D9 f g17 v) (by kernel_rfl) (by kernel_rfl) (HC.out.drew) ?_;simp only[List.take_succ_cons,List.take_zero,List.drop_succ_cons,List.drop_zero]
      with_reducible refine q_load 24 (.tmp 17) (.pointer (some ⟨g17,0,none⟩)) (.agg (pw v)) rfl (by kernel_rfl) (by kernel_rfl) (fun _ c=>ld_pw c.rv) ?_
      with_reducible refine q_val (.pointer (some ⟨G,0,none⟩)) (by kernel_rfl) (fun _ _=>by kernel_rfl) ?_
      with_reducible refine q_val (.pointer (some ⟨G,0,none⟩)) (by kernel_rfl) (fun _ _=>run_nil (.tmp 141) _ rfl (by kernel_rfl)) ?_
      with_reducible refine q_sem2 (Instr.fieldAt 109 (.pointer (some ⟨G,0,none⟩)) 0) (.pointer (some ⟨G,0,none⟩)) (by kernel_rfl) (by kernel_rfl) (fun w' _=>(rf_at G w').1) ?_
      with_reducible refine q_load 24 (.tmp 143) (.pointer (some ⟨G,0,none⟩)) (.agg (pw m)) rfl (by kernel_rfl) (by kernel_rfl) (fun _ c=>ld_rm c.c.fld) ?_
      with_reducible refine q_call 100 #[.agg (pw v),.agg (pw m)] (.agg (pw yy)) (by kernel_rfl) (fun _=>by kernel_rfl) (CCu.calls HMI.out) ?_
      with_reducible refine wpQuiet_nil ?_
      intro wx hC;have HC2:=Lib.hid hC;clear hC HC HMI;simp only[Act.put,List.setIfInBounds_toArray,List.set_cons_succ,List.set_cons_zero]
      go_wp2_with (refine wpList_store_row rfl 24 _ _ rfl (w.heap.size+1+1) (pw yy) rfl rfl 24 (#[.int .u64 0,.int .u64 0,.int .u64 0,.int .u64 0]) (by exact HC2.out.c.rr) (by rw[pw_size];exact infoW4) (by first | rfl | (rw[pw_size];rfl) | (rw[pw_size,pw_size])) (pw_one _) ?_)
      (try simp only[Act.put])
      refine bodyPost_ret (v:=.agg (pw yy)) (results_cell_row (p:=6) rfl _ _ (w.heap.size+1+1) 24 (pw yy) (0,0) _ rfl (setRow_heap _ _ _ _ _ _ (by exact HC2.out.c.rr)) Tryz.underlying24 rfl (by rw[pw_size];exact infoW4)) rfl ⟨by rw[HE.out,HZe.out],below_setRow HC2.out.c.old (by omega) _⟩
     ·obtain rfl:t8=0:=by omega
      have H8:=Lib.hid ht.1;by_cases hq:m<=v
      ·rw[decide_eq_true hq]at HMO
       have HE:=Lib.hid (HQ1.out (.inr hq));clear ht HT HQ1 HQ2 hq h1;refine wp_region_quiet (C:=CCu w G m lo sq a b D7 D8 D9 f g17 v) (by kernel_rfl) (by kernel_rfl) (L1.out.drew) ?_;simp only
       with_reducible refine q_sem2 (Instr.indexAt 166 (.pointer (some ⟨D9,0,none⟩)) (.int .i64 8)) (.pointer (some ⟨D9,8,none⟩)) (by kernel_rfl) (by kernel_rfl) (fun w' _=>ix_10 D9 w') ?_
       with_reducible refine q_load 22 (.tmp 129) (.pointer (some ⟨D9,8,none⟩)) (.int .u64 (0:Nat)) rfl (by kernel_rfl) (by kernel_rfl) (fun _ c=>load_u64 _ _ _ _ ((c.c.ct 8 (by omega)).trans (by rw[H8.out]))) ?_
       with_reducible refine q_bin .gtr 22 _ _ 22 (.int .u64 (0:Nat)) (.int .u64 0) (.bool false) rfl (by kernel_rfl) (by kernel_rfl) (by kernel_rfl) (fun _=>by kernel_rfl) (fun w'=>by kernel_rfl) ?_
       with_reducible refine q_val (.bool false) (by kernel_rfl) (fun _ _=>by kernel_rfl) ?_
       with_reducible refine q_load 24 (.tmp 17) (.pointer (some ⟨g17,0,none⟩)) (.agg (pw v)) rfl (by kernel_rfl) (by kernel_rfl) (fun _ c=>ld_pw c.rv) ?_
       with_reducible refine q_val (.pointer (some ⟨G,0,none⟩)) (by kernel_rfl) (fun _ _=>by kernel_rfl) ?_
       with_reducible refine q_val (.pointer (some ⟨G,0,none⟩)) (by kernel_rfl) (fun _ _=>run_nil (.tmp 134) _ rfl (by kernel_rfl)) ?_
       with_reducible refine q_sem2 (Instr.fieldAt 109 (.pointer (some ⟨G,0,none⟩)) 0) (.pointer (some ⟨G,0,none⟩)) (by kernel_rfl) (by kernel_rfl) (fun w' _=>(rf_at G w').1) ?_
       with_reducible refine q_load 24 (.tmp 136) (.pointer (some ⟨G,0,none⟩)) (.agg (pw m)) rfl (by kernel_rfl) (by kernel_rfl) (fun _ c=>ld_rm c.c.fld) ?_
       with_reducible refine q_call 99 #[.agg (pw v),.agg (pw m)] (.bool true) (by kernel_rfl) (fun _=>by kernel_rfl) (CCu.calls HMO.out) ?_
       with_reducible refine q_val (.bool true) (by kernel_rfl) (fun _ _=>by kernel_rfl) ?_
       with_reducible refine wpQuiet_nil ?_
       intro wx hC;have HC:=Lib.hid hC;clear hC L1 HMO;simp only[Act.put,List.setIfInBounds_toArray,List.set_cons_succ,List.set_cons_zero]
       go_wp2_with fail
       refine region_quiet_tail 6 (CCu w G m lo sq a b D7 D8 D9 f g17 v) (by kernel_rfl) (by kernel_rfl) (HC.out.drew) ?_;simp only[List.take_succ_cons,List.take_zero,List.drop_succ_cons,List.drop_zero]
       with_reducible refine q_load 24 (.tmp 17) (.pointer (some ⟨g17,0,none⟩)) (.agg (pw v)) rfl (by kernel_rfl) (by kernel_rfl) (fun _ c=>ld_pw c.rv) ?_
       with_reducible refine q_val (.pointer (some ⟨G,0,none⟩)) (by kernel_rfl) (fun _ _=>by kernel_rfl) ?_
       with_reducible refine q_val (.pointer (some ⟨G,0,none⟩)) (by kernel_rfl) (fun _ _=>run_nil (.tmp 141) _ rfl (by kernel_rfl)) ?_
       with_reducible refine q_sem2 (Instr.fieldAt 109 (.pointer (some ⟨G,0,none⟩)) 0) (.pointer (some ⟨G,0,none⟩)) (by kernel_rfl) (by kernel_rfl) (fun w' _=>(rf_at G w').1) ?_
       with_reducible refine q_load 24 (.tmp 143) (.pointer (some ⟨G,0,none⟩)) (.agg (pw m)) rfl (by kernel_rfl) (by kernel_rfl) (fun _ c=>ld_rm c.c.fld) ?_
       with_reducible refine q_call 100 #[.agg (pw v),.agg (pw m)] (.agg (pw yy)) (by kernel_rfl) (fun _=>by kernel_rfl) (CCu.calls HMI.out) ?_
       with_reducible refine wpQuiet_nil ?_
       intro wx hC;have HC2:=Lib.hid hC;clear hC HC HMI;simp only[Act.put,List.setIfInBounds_toArray,List.set_cons_succ,List.set_cons_zero]
       go_wp2_with (refine wpList_store_row rfl 24 _ _ rfl (w.heap.size+1+1) (pw yy) rfl rfl 24 (#[.int .u64 0,.int .u64 0,.int .u64 0,.int .u64 0]) (by exact HC2.out.c.rr) (by rw[pw_size];exact infoW4) (by first | rfl | (rw[pw_size];rfl) | (rw[pw_size,pw_size])) (pw_one _) ?_)
       (try simp only[Act.put])
       refine bodyPost_ret (v:=.agg (pw yy)) (results_cell_row (p:=6) rfl _ _ (w.heap.size+1+1) 24 (pw yy) (0,0) _ rfl (setRow_heap _ _ _ _ _ _ (by exact HC2.out.c.rr)) Tryz.underlying24 rfl (by rw[pw_size];exact infoW4)) rfl ⟨by rw[HE.out,HZe.out],below_setRow HC2.out.c.old (by omega) _⟩
      ·rw[decide_eq_false hq]at HMO
       have HE:=Lib.hid (HQ2.out rfl hq);clear ht HT HQ1 HQ2 hq h1 HMI;refine wp_region_quiet (C:=CCu w G m lo sq a b D7 D8 D9 f g17 v) (by kernel_rfl) (by kernel_rfl) (L1.out.drew) ?_;simp only
       with_reducible refine q_sem2 (Instr.indexAt 166 (.pointer (some ⟨D9,0,none⟩)) (.int .i64 8)) (.pointer (some ⟨D9,8,none⟩)) (by kernel_rfl) (by kernel_rfl) (fun w' _=>ix_10 D9 w') ?_
       with_reducible refine q_load 22 (.tmp 129) (.pointer (some ⟨D9,8,none⟩)) (.int .u64 (0:Nat)) rfl (by kernel_rfl) (by kernel_rfl) (fun _ c=>load_u64 _ _ _ _ ((c.c.ct 8 (by omega)).trans (by rw[H8.out]))) ?_
       with_reducible refine q_bin .gtr 22 _ _ 22 (.int .u64 (0:Nat)) (.int .u64 0) (.bool false) rfl (by kernel_rfl) (by kernel_rfl) (by kernel_rfl) (fun _=>by kernel_rfl) (fun w'=>by kernel_rfl) ?_
       with_reducible refine q_val (.bool false) (by kernel_rfl) (fun _ _=>by kernel_rfl) ?_
       with_reducible refine q_load 24 (.tmp 17) (.pointer (some ⟨g17,0,none⟩)) (.agg (pw v)) rfl (by kernel_rfl) (by kernel_rfl) (fun _ c=>ld_pw c.rv) ?_
       with_reducible refine q_val (.pointer (some ⟨G,0,none⟩)) (by kernel_rfl) (fun _ _=>by kernel_rfl) ?_
       with_reducible refine q_val (.pointer (some ⟨G,0,none⟩)) (by kernel_rfl) (fun _ _=>run_nil (.tmp 134) _ rfl (by kernel_rfl)) ?_
       with_reducible refine q_sem2 (Instr.fieldAt 109 (.pointer (some ⟨G,0,none⟩)) 0) (.pointer (some ⟨G,0,none⟩)) (by kernel_rfl) (by kernel_rfl) (fun w' _=>(rf_at G w').1) ?_
       with_reducible refine q_load 24 (.tmp 136) (.pointer (some ⟨G,0,none⟩)) (.agg (pw m)) rfl (by kernel_rfl) (by kernel_rfl) (fun _ c=>ld_rm c.c.fld) ?_
       with_reducible refine q_call 99 #[.agg (pw v),.agg (pw m)] (.bool false) (by kernel_rfl) (fun _=>by kernel_rfl) (CCu.calls HMO.out) ?_
       with_reducible refine q_val (.bool false) (by kernel_rfl) (fun _ _=>by kernel_rfl) ?_
       with_reducible refine wpQuiet_nil ?_
       intro wx hC;have HC:=Lib.hid hC;clear hC L1 HMO;simp only[Act.put,List.setIfInBounds_toArray,List.set_cons_succ,List.set_cons_zero]
       go_wp2_with (first | (refine wpList_ld rfl 24 _ rfl (.pointer (some ⟨g17,0,none⟩)) (.agg (pw v)) rfl (ld_pw (by exact HC.out.rv)) ?_) | (refine wpList_store_row rfl 24 _ _ rfl (w.heap.size+1+1) (pw v) rfl rfl 24 (#[.int .u64 0,.int .u64 0,.int .u64 0,.int .u64 0]) (by exact HC.out.c.rr) (by rw[pw_size];exact infoW4) (by first | rfl | (rw[pw_size];rfl) | (rw[pw_size,pw_size])) (pw_one _) ?_))
       (try simp only[Act.put])
       refine bodyPost_ret (v:=.agg (pw v)) (results_cell_row (p:=6) rfl _ _ (w.heap.size+1+1) 24 (pw v) (0,0) _ rfl (setRow_heap _ _ _ _ _ _ (by exact HC.out.c.rr)) Tryz.underlying24 rfl (by rw[pw_size];exact infoW4)) rfl ⟨by rw[HE.out,HZe.out],below_setRow HC.out.c.old (by omega) _⟩
theorem rcut_any(G m lo sq a b:Nat)(hal:a<m)(hbl:b<m)(hm:m<115792089237316195423570985008687907853269984665640564039457584007913129639936)(h1:1<m)(ho:m%2=1)(hll:lo<4294967296)(hlo:(lo*qN m 0+1)%4294967296=0)(w:World)(hF:RFat w G m lo sq):Calls Tryz.prog 114 #[(.pointer (some ⟨G,0,none⟩)),.agg (pw a),.agg (pw b)] w fun e w'=>e=.returned (.agg (pw (mnt m a b)))/\Below w.heap.size w w' :=
 rcut_w G m lo sq a b (Nat.lt_trans hal hm) (Nat.lt_trans hbl hm) (Nat.mul_lt_mul_of_le_of_lt (Nat.le_of_lt (Nat.lt_trans hal hm)) hbl (by omega)) hm h1 ho hll hlo w hF
end Go.Proofs.YtadfjjfklihaaaaGreat
