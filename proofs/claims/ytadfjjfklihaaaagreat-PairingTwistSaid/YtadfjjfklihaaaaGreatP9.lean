/- One part of a long quotient, in plain numbers: the guess by the highest parts is never too small. (Cut to what is reached, written closely: DivW · Guess · Give · StepNum.) -/
import Derived.Test.YtadfjjfklihaaaaGreatP2
import Derived.Test.YtadfjjfklihaaaaGreatP8
import Derived.Deep.LoopGhost
import Derived.BigQuiet
import Derived.Lib.Hide
import Derived.Deep.QuietTactic
import Derived.Lib.ItoaNum
import Derived.Laws.Bits64b
import Derived.Test.YtadfjjfklihaaaaGreatP3
set_option linter.all false
set_option maxRecDepth 100000
set_option maxHeartbeats 8000000
namespace Go.Proofs.YtadfjjfklihaaaaGreat
open Go.RowKit
def DivPost(q:Nat)(w:World)(e:Ending)(w':World):Prop:=(∃ r:Int,e=.returned (.tuple #[.int .u64 (q:Int),.int .u64 r]))/\w=w'
theorem divpost_mk{q:Nat}{z r:Int}{w:World}(h:z=(q:Int)):DivPost q w (.returned (.tuple #[.int .u64 z,.int .u64 r])) w:=⟨⟨r,by rw[h]⟩,rfl⟩
theorem div64_fin{hi lo y y1 y0 u1 u0 P Q:Nat}(hy:y=4294967296*y1+y0)(hlo:lo=4294967296*u1+u0)(_hpos:0<y1)(_h1:(hi:Int)<y)
  (eP:P=(hi*4294967296+u1) / y) (eQ:Q=((hi*4294967296+u1)%y*4294967296+u0) / (4294967296*y1+y0)):P*4294967296+Q=(hi*18446744073709551616+lo) / y:=by
 rw[<- hy]at eQ;rw[eP,eQ,halves (by omega),hlo,Nat.mul_comm 4294967296 u1]
theorem div64_big(hi lo y y1 y0 u1 u0:Nat)(h0:(0:Int)<hi)(h1:(hi:Int)<y)(hy:y=4294967296*y1+y0)(hlo:lo=4294967296*u1+u0)
  (h31:2147483648<=y1) (h32:y1<4294967296) (hy0:y0<4294967296) (hu1:u1<4294967296) (hu0:u0<4294967296) (w:World)
  (a1:bits .and .u64 (y:Int) 4294967295=(y0:Int)) (a2:bits .and .u64 (lo:Int) 4294967295=(u0:Int)) (a3:bits .or .u64 (hi:Int) 0=(hi:Int))
  (hL:∀ w,Calls Tryz.prog 146 #[.int .u64 y] w fun e w'=>e=.returned (.int .i64 0)/\w=w') :
  Calls Tryz.prog 162 #[.int .u64 hi,.int .u64 lo,.int .u64 y] w (DivPost ((hi*18446744073709551616+lo) / y) w):=by
 have hy':(9223372036854775808:Int)<=y:=by omega
 have hy'':(y:Int)<=18446744073709551615:=by omega
 have hlo':(lo:Int)<=18446744073709551615:=by omega
 have n0:((y:Int) == 0)=false:=by simp;omega
 have n1:¬(y:Int)<=hi:=by omega
 have n2:((hi:Int) == 0)=false:=by simp;omega
 have n3:(0:Int)<=hi:=by omega
 have n4:(hi:Int)<=18446744073709551615:=by omega
 have n5:(0:Int)<=lo:=by omega
 have n6:(0:Int)<=y:=by omega
 have d1:(y:Int) / 4294967296=(y1:Int):=by omega
 have d2:(lo:Int) / 4294967296=(u1:Int):=by omega
 have d3:(lo:Int) / 18446744073709551616=0:=by omega
 have m1:(1:Int)<=y1:=by omega
 have m2:(y1:Int)<=4294967295:=by omega
 have m3:(u1:Int)<=4294967295:=by omega
 have m4:(u0:Int)<=4294967295:=by omega
 have m5:(0:Int)<=u1:=by omega
 have m6:(0:Int)<=u0:=by omega
 have m7:(0:Int)<=y1:=by omega
 have H31:=Lib.hid h31;have H32:=Lib.hid h32;have HY0:=Lib.hid hy0;have HU1:=Lib.hid hu1;have HU2:=Lib.hid hu0;have HY:=Lib.hid hy;have HLO:=Lib.hid hlo;have HV1:Hid (hi<4294967296*y1+y0):=Lib.hid (by omega);have hq:=Half.start h31 h32 hy0 hu1 HV1.out;obtain⟨Q,eQ⟩:∃ Q,Q=hi / y1:=⟨_,rfl⟩
 obtain⟨R,eR⟩:∃ R,R=hi%y1:=⟨_,rfl⟩
 rw[<- eQ,<- eR]at hq;have eq1:(hi:Int) / (y1:Int)=(Q:Int):=by rw[eQ];simp
 have eq2:IntKind.u64.wrap ((hi:Int) - IntKind.u64.wrap ((Q:Int)*(y1:Int)))=(R:Int):=by
  have h:=hq.split;rw[<- Int.natCast_mul,IntKind.wrap_u64,IntKind.wrap_u64];omega
 have bQ0:(0:Int)<=Q:=by omega
 have bQ1:(Q:Int)<=4294967297:=by have:=hq.most;omega
 have HQ0:=Lib.hid hq;clear hq eQ eR hy hlo h31 h32 hy0 hu1 hu0 hy';go_enter Tryz.func162,Tryz.ntmps162
 go_wp2_with fail
 refine(hL _).mono ?_;rintro e w' ⟨rfl,rfl⟩
 go_wp2_with fail
 go_loop [15,16] (fun a b=>∃ q r:Nat,a=.int .u64 q/\b=.int .u64 r/\Hid (Half y1 y0 hi u1 q r)) (fun a _=>(intOf a).toNat)
 case atStart=>exact⟨_,_,rfl,rfl,HQ0⟩
 case round =>
  obtain⟨q,r,rfl,rfl,H1⟩:=hrel;obtain⟨m,hm⟩:∃ m:Nat,m=q*y0:=⟨_,rfl⟩
  have r0:(0:Int)<=r:=by omega
  have r1:(r:Int)<4294967296:=by have:=H1.out.rest;omega
  have q0:(0:Int)<=q:=by omega
  have q1:(q:Int)<=4294967297:=by have:=H1.out.most;omega
  by_cases hbig:4294967296<=q
  ·have t0:(4294967296:Int)<=q:=by omega
   have ht:Hid (4294967296<=q\/4294967296*r+u1<q*y0):=Lib.hid (Or.inl hbig);have hqp:Hid (q=(q - 1)+1):=Lib.hid (by omega);clear hbig hm;by_cases hr:r+y1<4294967296
   ·have t1:¬(4294967296:Int)<=r+y1:=by omega
    go_wp2
    go_round
    case rel=>exact⟨q - 1,r+y1,congrArg (Value.int .u64) (by have:=hqp.out;omega),by go_num,Lib.hid (Half.down (p:=q - 1) HU1.out (by rw[<- hqp.out];exact H1.out) HV1.out (by rw[<- hqp.out];exact ht.out) hr)⟩
    case measure=>simp[intOf];have:=hqp.out;omega
   ·have t1:(4294967296:Int)<=r+y1:=by omega
    obtain⟨p,ep⟩:∃ p,p=q - 1:=⟨_,rfl⟩
    have HQ1:=Lib.hid (Half.ends (p:=q - 1) HY0.out HU1.out (by rw[<- hqp.out];exact H1.out) HV1.out (by rw[<- hqp.out];exact ht.out) (by omega));rw[<- ep]at HQ1;have hp:(q:Int) - 1=(p:Int):=by have:=hqp.out;omega
    clear ep;clear hr;obtain⟨v,ev⟩:∃ v,v=(hi*4294967296+u1)%y:=⟨_,rfl⟩
    have hv:v<y:=by rw[ev];exact Nat.mod_lt _ (by omega)
    have EP:Hid (p=(hi*4294967296+u1) / y):=Lib.hid (by rw[HY.out];exact HQ1.out);have tv:IntKind.u64.wrap (IntKind.u64.wrap (IntKind.u64.wrap ((hi:Int)*4294967296)+(u1:Int)) - IntKind.u64.wrap ((p:Int)*(y:Int)))=(v:Int):=by
     have hd:=Nat.div_add_mod (hi*4294967296+u1) y;rw[<- EP.out,<- ev,Nat.mul_comm]at hd;rw[<- Int.natCast_mul];generalize p*y=m at *;simp only[IntKind.wrap_u64];omega
    have EV:=Lib.hid ev;have c0:(0:Int)<=v:=by omega
    have c1:(v:Int)<=18446744073709551615:=by omega
    have HV2:Hid (v<4294967296*y1+y0):=Lib.hid (by rw[<- HY.out];exact hv);have g5:p<4294967296:=by
     have h3:=HU1.out;rw[EP.out,Nat.div_lt_iff_lt_mul (by omega)];omega
    have b5:(p:Int)<=4294967295:=by omega
    clear g5;have b6:(0:Int)<=p:=by omega
    have hq2:=Half.start H31.out H32.out HY0.out HU2.out HV2.out;obtain⟨Q2,eQ2⟩:∃ Q,Q=v / y1:=⟨_,rfl⟩
    obtain⟨R2,eR2⟩:∃ R,R=v%y1:=⟨_,rfl⟩
    rw[<- eQ2,<- eR2]at hq2;have eq3:(v:Int) / (y1:Int)=(Q2:Int):=by rw[eQ2];simp
    have eq4:IntKind.u64.wrap ((v:Int) - IntKind.u64.wrap ((Q2:Int)*(y1:Int)))=(R2:Int):=by
     have h:=hq2.split;rw[<- Int.natCast_mul,IntKind.wrap_u64,IntKind.wrap_u64];omega
    have bQ2:(0:Int)<=Q2:=by omega
    have bQ3:(Q2:Int)<=4294967297:=by have:=hq2.most;omega
    have HQ02:=Lib.hid hq2;clear hq2 eQ2 eR2 ev hv
    go_wp2_with fail
    go_loop [18,16] (fun a b=>∃ z rr:Nat,a=.int .u64 z/\b=.int .u64 rr/\Hid (Half y1 y0 v u0 z rr)) (fun a _=>(intOf a).toNat)
    case atStart=>exact⟨_,_,rfl,rfl,HQ02⟩
    case round =>
     obtain⟨z,rr,rfl,rfl,H2⟩:=hrel;obtain⟨mm,hmm⟩:∃ mm:Nat,mm=z*y0:=⟨_,rfl⟩
     have rr0:(0:Int)<=rr:=by omega
     have rr1:(rr:Int)<4294967296:=by have:=H2.out.rest;omega
     have zz0:(0:Int)<=z:=by omega
     have zz1:(z:Int)<=4294967297:=by have:=H2.out.most;omega
     by_cases hbigg:4294967296<=z
     ·have tt0:(4294967296:Int)<=z:=by omega
      have htt:Hid (4294967296<=z\/4294967296*rr+u0<z*y0):=Lib.hid (Or.inl hbigg);have hqpp:Hid (z=(z - 1)+1):=Lib.hid (by omega);clear hbigg hmm;by_cases hrr:rr+y1<4294967296
      ·have tt1:¬(4294967296:Int)<=rr+y1:=by omega
       go_wp2
       go_round
       case rel=>exact⟨z - 1,rr+y1,congrArg (Value.int .u64) (by have:=hqpp.out;omega),by go_num,Lib.hid (Half.down (p:=z - 1) HU2.out (by rw[<- hqpp.out];exact H2.out) HV2.out (by rw[<- hqpp.out];exact htt.out) hrr)⟩
       case measure=>simp[intOf];have:=hqpp.out;omega
      ·have tt1:(4294967296:Int)<=rr+y1:=by omega
       obtain⟨pp,epp⟩:∃ pp,pp=z - 1:=⟨_,rfl⟩
       have HQ2:=Lib.hid (Half.ends (p:=z - 1) HY0.out HU2.out (by rw[<- hqpp.out];exact H2.out) HV2.out (by rw[<- hqpp.out];exact htt.out) (by omega));rw[<- epp]at HQ2;have hpp:(z:Int) - 1=(pp:Int):=by have:=hqpp.out;omega
       clear epp;clear hrr;have fq:=Lib.hid (div64_fin (P:=p) (Q:=pp) HY.out HLO.out (by have:=H31.out;omega) h1 EP.out (by rw[<- EV.out];exact HQ2.out));have g7:pp<4294967296:=by
        have h:=HV2.out;have h3:=HU2.out;have h5:=H31.out;rw[HQ2.out,Nat.div_lt_iff_lt_mul (by omega)];omega
       have b7:(pp:Int)<=4294967295:=by omega
       clear g7;have b8:(0:Int)<=pp:=by omega
       go_wp2
       go_ret2
       exact divpost_mk (by have:=fq.out;omega)
     ·have tt0:¬(4294967296:Int)<=z:=by omega
      have hww:IntKind.u64.wrap ((z:Int)*(y0:Int))=(mm:Int):=by
       have h1:z*y0<=4294967295*4294967295:=Nat.mul_le_mul (by omega) (by have:=HY0.out;omega);rw[<- Int.natCast_mul,<- hmm,IntKind.wrap_u64];omega
      by_cases hgtt:4294967296*rr+u0<mm
      ·have tt2:(4294967296:Int)*rr+u0<mm:=by omega
       have htt:Hid (4294967296<=z\/4294967296*rr+u0<z*y0):=Lib.hid (Or.inr (by rw[<- hmm];exact hgtt));have hposs:=H2.out.pos HU2.out HV2.out htt.out;have hqpp:Hid (z=(z - 1)+1):=Lib.hid (by omega);have zz2:(1:Int)<=z:=by omega
       clear hbigg hmm hgtt hposs;by_cases hrr:rr+y1<4294967296
       ·have tt1:¬(4294967296:Int)<=rr+y1:=by omega
        go_wp2
        go_round
        case rel=>exact⟨z - 1,rr+y1,congrArg (Value.int .u64) (by have:=hqpp.out;omega),by go_num,Lib.hid (Half.down (p:=z - 1) HU2.out (by rw[<- hqpp.out];exact H2.out) HV2.out (by rw[<- hqpp.out];exact htt.out) hrr)⟩
        case measure=>simp[intOf];have:=hqpp.out;omega
       ·have tt1:(4294967296:Int)<=rr+y1:=by omega
        obtain⟨pp,epp⟩:∃ pp,pp=z - 1:=⟨_,rfl⟩
        have HQ2:=Lib.hid (Half.ends (p:=z - 1) HY0.out HU2.out (by rw[<- hqpp.out];exact H2.out) HV2.out (by rw[<- hqpp.out];exact htt.out) (by omega));rw[<- epp]at HQ2;have hpp:(z:Int) - 1=(pp:Int):=by have:=hqpp.out;omega
        clear epp;clear hrr;have fq:=Lib.hid (div64_fin (P:=p) (Q:=pp) HY.out HLO.out (by have:=H31.out;omega) h1 EP.out (by rw[<- EV.out];exact HQ2.out));have g7:pp<4294967296:=by
         have h:=HV2.out;have h3:=HU2.out;have h5:=H31.out;rw[HQ2.out,Nat.div_lt_iff_lt_mul (by omega)];omega
        have b7:(pp:Int)<=4294967295:=by omega
        clear g7;have b8:(0:Int)<=pp:=by omega
        go_wp2
        go_ret2
        exact divpost_mk (by have:=fq.out;omega)
      ·have tt2:¬(4294967296:Int)*rr+u0<mm:=by omega
       have HQ2:=Lib.hid (H2.out.fits H31.out H32.out HY0.out (by rw[<- hmm];omega));clear hbigg hmm hgtt;have fq:=Lib.hid (div64_fin (P:=p) (Q:=z) HY.out HLO.out (by have:=H31.out;omega) h1 EP.out (by rw[<- EV.out];exact HQ2.out));have g7:z<4294967296:=by
        have h:=HV2.out;have h3:=HU2.out;have h5:=H31.out;rw[HQ2.out,Nat.div_lt_iff_lt_mul (by omega)];omega
       have b7:(z:Int)<=4294967295:=by omega
       clear g7;have b8:(0:Int)<=z:=by omega
       go_wp2
       go_ret2
       exact divpost_mk (by have:=fq.out;omega)
  ·have t0:¬(4294967296:Int)<=q:=by omega
   have hw:IntKind.u64.wrap ((q:Int)*(y0:Int))=(m:Int):=by
    have h1:q*y0<=4294967295*4294967295:=Nat.mul_le_mul (by omega) (by have:=HY0.out;omega);rw[<- Int.natCast_mul,<- hm,IntKind.wrap_u64];omega
   by_cases hgt:4294967296*r+u1<m
   ·have t2:(4294967296:Int)*r+u1<m:=by omega
    have ht:Hid (4294967296<=q\/4294967296*r+u1<q*y0):=Lib.hid (Or.inr (by rw[<- hm];exact hgt));have hpos:=H1.out.pos HU1.out HV1.out ht.out;have hqp:Hid (q=(q - 1)+1):=Lib.hid (by omega);have q2:(1:Int)<=q:=by omega
    clear hbig hm hgt hpos;by_cases hr:r+y1<4294967296
    ·have t1:¬(4294967296:Int)<=r+y1:=by omega
     go_wp2
     go_round
     case rel=>exact⟨q - 1,r+y1,congrArg (Value.int .u64) (by have:=hqp.out;omega),by go_num,Lib.hid (Half.down (p:=q - 1) HU1.out (by rw[<- hqp.out];exact H1.out) HV1.out (by rw[<- hqp.out];exact ht.out) hr)⟩
     case measure=>simp[intOf];have:=hqp.out;omega
    ·have t1:(4294967296:Int)<=r+y1:=by omega
     obtain⟨p,ep⟩:∃ p,p=q - 1:=⟨_,rfl⟩
     have HQ1:=Lib.hid (Half.ends (p:=q - 1) HY0.out HU1.out (by rw[<- hqp.out];exact H1.out) HV1.out (by rw[<- hqp.out];exact ht.out) (by omega));rw[<- ep]at HQ1;have hp:(q:Int) - 1=(p:Int):=by have:=hqp.out;omega
     clear ep;clear hr;obtain⟨v,ev⟩:∃ v,v=(hi*4294967296+u1)%y:=⟨_,rfl⟩
     have hv:v<y:=by rw[ev];exact Nat.mod_lt _ (by omega)
     have EP:Hid (p=(hi*4294967296+u1) / y):=Lib.hid (by rw[HY.out];exact HQ1.out);have tv:IntKind.u64.wrap (IntKind.u64.wrap (IntKind.u64.wrap ((hi:Int)*4294967296)+(u1:Int)) - IntKind.u64.wrap ((p:Int)*(y:Int)))=(v:Int):=by
      have hd:=Nat.div_add_mod (hi*4294967296+u1) y;rw[<- EP.out,<- ev,Nat.mul_comm]at hd;rw[<- Int.natCast_mul];generalize p*y=m at *;simp only[IntKind.wrap_u64];omega
     have EV:=Lib.hid ev;have c0:(0:Int)<=v:=by omega
     have c1:(v:Int)<=18446744073709551615:=by omega
     have HV2:Hid (v<4294967296*y1+y0):=Lib.hid (by rw[<- HY.out];exact hv);have g5:p<4294967296:=by
      have h3:=HU1.out;rw[EP.out,Nat.div_lt_iff_lt_mul (by omega)];omega
     have b5:(p:Int)<=4294967295:=by omega
     clear g5;have b6:(0:Int)<=p:=by omega
     have hq2:=Half.start H31.out H32.out HY0.out HU2.out HV2.out;obtain⟨Q2,eQ2⟩:∃ Q,Q=v / y1:=⟨_,rfl⟩
     obtain⟨R2,eR2⟩:∃ R,R=v%y1:=⟨_,rfl⟩
     rw[<- eQ2,<- eR2]at hq2;have eq3:(v:Int) / (y1:Int)=(Q2:Int):=by rw[eQ2];simp
     have eq4:IntKind.u64.wrap ((v:Int) - IntKind.u64.wrap ((Q2:Int)*(y1:Int)))=(R2:Int):=by
      have h:=hq2.split;rw[<- Int.natCast_mul,IntKind.wrap_u64,IntKind.wrap_u64];omega
     have bQ2:(0:Int)<=Q2:=by omega
     have bQ3:(Q2:Int)<=4294967297:=by have:=hq2.most;omega
     have HQ02:=Lib.hid hq2;clear hq2 eQ2 eR2 ev hv
     go_wp2_with fail
     go_loop [18,16] (fun a b=>∃ z rr:Nat,a=.int .u64 z/\b=.int .u64 rr/\Hid (Half y1 y0 v u0 z rr)) (fun a _=>(intOf a).toNat)
     case atStart=>exact⟨_,_,rfl,rfl,HQ02⟩
     case round =>
      obtain⟨z,rr,rfl,rfl,H2⟩:=hrel;obtain⟨mm,hmm⟩:∃ mm:Nat,mm=z*y0:=⟨_,rfl⟩
      have rr0:(0:Int)<=rr:=by omega
      have rr1:(rr:Int)<4294967296:=by have:=H2.out.rest;omega
      have zz0:(0:Int)<=z:=by omega
      have zz1:(z:Int)<=4294967297:=by have:=H2.out.most;omega
      by_cases hbigg:4294967296<=z
      ·have tt0:(4294967296:Int)<=z:=by omega
       have htt:Hid (4294967296<=z\/4294967296*rr+u0<z*y0):=Lib.hid (Or.inl hbigg);have hqpp:Hid (z=(z - 1)+1):=Lib.hid (by omega);clear hbigg hmm;by_cases hrr:rr+y1<4294967296
       ·have tt1:¬(4294967296:Int)<=rr+y1:=by omega
        go_wp2
        go_round
        case rel=>exact⟨z - 1,rr+y1,congrArg (Value.int .u64) (by have:=hqpp.out;omega),by go_num,Lib.hid (Half.down (p:=z - 1) HU2.out (by rw[<- hqpp.out];exact H2.out) HV2.out (by rw[<- hqpp.out];exact htt.out) hrr)⟩
        case measure=>simp[intOf];have:=hqpp.out;omega
       ·have tt1:(4294967296:Int)<=rr+y1:=by omega
        obtain⟨pp,epp⟩:∃ pp,pp=z - 1:=⟨_,rfl⟩
        have HQ2:=Lib.hid (Half.ends (p:=z - 1) HY0.out HU2.out (by rw[<- hqpp.out];exact H2.out) HV2.out (by rw[<- hqpp.out];exact htt.out) (by omega));rw[<- epp]at HQ2;have hpp:(z:Int) - 1=(pp:Int):=by have:=hqpp.out;omega
        clear epp;clear hrr;have fq:=Lib.hid (div64_fin (P:=p) (Q:=pp) HY.out HLO.out (by have:=H31.out;omega) h1 EP.out (by rw[<- EV.out];exact HQ2.out));have g7:pp<4294967296:=by
         have h:=HV2.out;have h3:=HU2.out;have h5:=H31.out;rw[HQ2.out,Nat.div_lt_iff_lt_mul (by omega)];omega
        have b7:(pp:Int)<=4294967295:=by omega
        clear g7;have b8:(0:Int)<=pp:=by omega
        go_wp2
        go_ret2
        exact divpost_mk (by have:=fq.out;omega)
      ·have tt0:¬(4294967296:Int)<=z:=by omega
       have hww:IntKind.u64.wrap ((z:Int)*(y0:Int))=(mm:Int):=by
        have h1:z*y0<=4294967295*4294967295:=Nat.mul_le_mul (by omega) (by have:=HY0.out;omega);rw[<- Int.natCast_mul,<- hmm,IntKind.wrap_u64];omega
       by_cases hgtt:4294967296*rr+u0<mm
       ·have tt2:(4294967296:Int)*rr+u0<mm:=by omega
        have htt:Hid (4294967296<=z\/4294967296*rr+u0<z*y0):=Lib.hid (Or.inr (by rw[<- hmm];exact hgtt));have hposs:=H2.out.pos HU2.out HV2.out htt.out;have hqpp:Hid (z=(z - 1)+1):=Lib.hid (by omega);have zz2:(1:Int)<=z:=by omega
        clear hbigg hmm hgtt hposs;by_cases hrr:rr+y1<4294967296
        ·have tt1:¬(4294967296:Int)<=rr+y1:=by omega
         go_wp2
         go_round
         case rel=>exact⟨z - 1,rr+y1,congrArg (Value.int .u64) (by have:=hqpp.out;omega),by go_num,Lib.hid (Half.down (p:=z - 1) HU2.out (by rw[<- hqpp.out];exact H2.out) HV2.out (by rw[<- hqpp.out];exact htt.out) hrr)⟩
         case measure=>simp[intOf];have:=hqpp.out;omega
        ·have tt1:(4294967296:Int)<=rr+y1:=by omega
         obtain⟨pp,epp⟩:∃ pp,pp=z - 1:=⟨_,rfl⟩
         have HQ2:=Lib.hid (Half.ends (p:=z - 1) HY0.out HU2.out (by rw[<- hqpp.out];exact H2.out) HV2.out (by rw[<- hqpp.out];exact htt.out) (by omega));rw[<- epp]at HQ2;have hpp:(z:Int) - 1=(pp:Int):=by have:=hqpp.out;omega
         clear epp;clear hrr;have fq:=Lib.hid (div64_fin (P:=p) (Q:=pp) HY.out HLO.out (by have:=H31.out;omega) h1 EP.out (by rw[<- EV.out];exact HQ2.out));have g7:pp<4294967296:=by
          have h:=HV2.out;have h3:=HU2.out;have h5:=H31.out;rw[HQ2.out,Nat.div_lt_iff_lt_mul (by omega)];omega
         have b7:(pp:Int)<=4294967295:=by omega
         clear g7;have b8:(0:Int)<=pp:=by omega
         go_wp2
         go_ret2
         exact divpost_mk (by have:=fq.out;omega)
       ·have tt2:¬(4294967296:Int)*rr+u0<mm:=by omega
        have HQ2:=Lib.hid (H2.out.fits H31.out H32.out HY0.out (by rw[<- hmm];omega));clear hbigg hmm hgtt;have fq:=Lib.hid (div64_fin (P:=p) (Q:=z) HY.out HLO.out (by have:=H31.out;omega) h1 EP.out (by rw[<- EV.out];exact HQ2.out));have g7:z<4294967296:=by
         have h:=HV2.out;have h3:=HU2.out;have h5:=H31.out;rw[HQ2.out,Nat.div_lt_iff_lt_mul (by omega)];omega
        have b7:(z:Int)<=4294967295:=by omega
        clear g7;have b8:(0:Int)<=z:=by omega
        go_wp2
        go_ret2
        exact divpost_mk (by have:=fq.out;omega)
   ·have t2:¬(4294967296:Int)*r+u1<m:=by omega
    have HQ1:=Lib.hid (H1.out.fits H31.out H32.out HY0.out (by rw[<- hm];omega));clear hbig hm hgt;obtain⟨v,ev⟩:∃ v,v=(hi*4294967296+u1)%y:=⟨_,rfl⟩
    have hv:v<y:=by rw[ev];exact Nat.mod_lt _ (by omega)
    have EP:Hid (q=(hi*4294967296+u1) / y):=Lib.hid (by rw[HY.out];exact HQ1.out);have tv:IntKind.u64.wrap (IntKind.u64.wrap (IntKind.u64.wrap ((hi:Int)*4294967296)+(u1:Int)) - IntKind.u64.wrap ((q:Int)*(y:Int)))=(v:Int):=by
     have hd:=Nat.div_add_mod (hi*4294967296+u1) y;rw[<- EP.out,<- ev,Nat.mul_comm]at hd;rw[<- Int.natCast_mul];generalize q*y=m at *;simp only[IntKind.wrap_u64];omega
    have EV:=Lib.hid ev;have c0:(0:Int)<=v:=by omega
    have c1:(v:Int)<=18446744073709551615:=by omega
    have HV2:Hid (v<4294967296*y1+y0):=Lib.hid (by rw[<- HY.out];exact hv);have g5:q<4294967296:=by
     have h3:=HU1.out;rw[EP.out,Nat.div_lt_iff_lt_mul (by omega)];omega
    have b5:(q:Int)<=4294967295:=by omega
    clear g5;have b6:(0:Int)<=q:=by omega
    have hq2:=Half.start H31.out H32.out HY0.out HU2.out HV2.out;obtain⟨Q2,eQ2⟩:∃ Q,Q=v / y1:=⟨_,rfl⟩
    obtain⟨R2,eR2⟩:∃ R,R=v%y1:=⟨_,rfl⟩
    rw[<- eQ2,<- eR2]at hq2;have eq3:(v:Int) / (y1:Int)=(Q2:Int):=by rw[eQ2];simp
    have eq4:IntKind.u64.wrap ((v:Int) - IntKind.u64.wrap ((Q2:Int)*(y1:Int)))=(R2:Int):=by
     have h:=hq2.split;rw[<- Int.natCast_mul,IntKind.wrap_u64,IntKind.wrap_u64];omega
    have bQ2:(0:Int)<=Q2:=by omega
    have bQ3:(Q2:Int)<=4294967297:=by have:=hq2.most;omega
    have HQ02:=Lib.hid hq2;clear hq2 eQ2 eR2 ev hv
    go_wp2_with fail
    go_loop [18,16] (fun a b=>∃ z rr:Nat,a=.int .u64 z/\b=.int .u64 rr/\Hid (Half y1 y0 v u0 z rr)) (fun a _=>(intOf a).toNat)
    case atStart=>exact⟨_,_,rfl,rfl,HQ02⟩
    case round =>
     obtain⟨z,rr,rfl,rfl,H2⟩:=hrel;obtain⟨mm,hmm⟩:∃ mm:Nat,mm=z*y0:=⟨_,rfl⟩
     have rr0:(0:Int)<=rr:=by omega
     have rr1:(rr:Int)<4294967296:=by have:=H2.out.rest;omega
     have zz0:(0:Int)<=z:=by omega
     have zz1:(z:Int)<=4294967297:=by have:=H2.out.most;omega
     by_cases hbigg:4294967296<=z
     ·have tt0:(4294967296:Int)<=z:=by omega
      have htt:Hid (4294967296<=z\/4294967296*rr+u0<z*y0):=Lib.hid (Or.inl hbigg);have hqpp:Hid (z=(z - 1)+1):=Lib.hid (by omega);clear hbigg hmm;by_cases hrr:rr+y1<4294967296
      ·have tt1:¬(4294967296:Int)<=rr+y1:=by omega
       go_wp2
       go_round
       case rel=>exact⟨z - 1,rr+y1,congrArg (Value.int .u64) (by have:=hqpp.out;omega),by go_num,Lib.hid (Half.down (p:=z - 1) HU2.out (by rw[<- hqpp.out];exact H2.out) HV2.out (by rw[<- hqpp.out];exact htt.out) hrr)⟩
       case measure=>simp[intOf];have:=hqpp.out;omega
      ·have tt1:(4294967296:Int)<=rr+y1:=by omega
       obtain⟨pp,epp⟩:∃ pp,pp=z - 1:=⟨_,rfl⟩
       have HQ2:=Lib.hid (Half.ends (p:=z - 1) HY0.out HU2.out (by rw[<- hqpp.out];exact H2.out) HV2.out (by rw[<- hqpp.out];exact htt.out) (by omega));rw[<- epp]at HQ2;have hpp:(z:Int) - 1=(pp:Int):=by have:=hqpp.out;omega
       clear epp;clear hrr;have fq:=Lib.hid (div64_fin (P:=q) (Q:=pp) HY.out HLO.out (by have:=H31.out;omega) h1 EP.out (by rw[<- EV.out];exact HQ2.out));have g7:pp<4294967296:=by
        have h:=HV2.out;have h3:=HU2.out;have h5:=H31.out;rw[HQ2.out,Nat.div_lt_iff_lt_mul (by omega)];omega
       have b7:(pp:Int)<=4294967295:=by omega
       clear g7;have b8:(0:Int)<=pp:=by omega
       go_wp2
       go_ret2
       exact divpost_mk (by have:=fq.out;omega)
     ·have tt0:¬(4294967296:Int)<=z:=by omega
      have hww:IntKind.u64.wrap ((z:Int)*(y0:Int))=(mm:Int):=by
       have h1:z*y0<=4294967295*4294967295:=Nat.mul_le_mul (by omega) (by have:=HY0.out;omega);rw[<- Int.natCast_mul,<- hmm,IntKind.wrap_u64];omega
      by_cases hgtt:4294967296*rr+u0<mm
      ·have tt2:(4294967296:Int)*rr+u0<mm:=by omega
       have htt:Hid (4294967296<=z\/4294967296*rr+u0<z*y0):=Lib.hid (Or.inr (by rw[<- hmm];exact hgtt));have hposs:=H2.out.pos HU2.out HV2.out htt.out;have hqpp:Hid (z=(z - 1)+1):=Lib.hid (by omega);have zz2:(1:Int)<=z:=by omega
       clear hbigg hmm hgtt hposs;by_cases hrr:rr+y1<4294967296
       ·have tt1:¬(4294967296:Int)<=rr+y1:=by omega
        go_wp2
        go_round
        case rel=>exact⟨z - 1,rr+y1,congrArg (Value.int .u64) (by have:=hqpp.out;omega),by go_num,Lib.hid (Half.down (p:=z - 1) HU2.out (by rw[<- hqpp.out];exact H2.out) HV2.out (by rw[<- hqpp.out];exact htt.out) hrr)⟩
        case measure=>simp[intOf];have:=hqpp.out;omega
       ·have tt1:(4294967296:Int)<=rr+y1:=by omega
        obtain⟨pp,epp⟩:∃ pp,pp=z - 1:=⟨_,rfl⟩
        have HQ2:=Lib.hid (Half.ends (p:=z - 1) HY0.out HU2.out (by rw[<- hqpp.out];exact H2.out) HV2.out (by rw[<- hqpp.out];exact htt.out) (by omega));rw[<- epp]at HQ2;have hpp:(z:Int) - 1=(pp:Int):=by have:=hqpp.out;omega
        clear epp;clear hrr;have fq:=Lib.hid (div64_fin (P:=q) (Q:=pp) HY.out HLO.out (by have:=H31.out;omega) h1 EP.out (by rw[<- EV.out];exact HQ2.out));have g7:pp<4294967296:=by
         have h:=HV2.out;have h3:=HU2.out;have h5:=H31.out;rw[HQ2.out,Nat.div_lt_iff_lt_mul (by omega)];omega
        have b7:(pp:Int)<=4294967295:=by omega
        clear g7;have b8:(0:Int)<=pp:=by omega
        go_wp2
        go_ret2
        exact divpost_mk (by have:=fq.out;omega)
      ·have tt2:¬(4294967296:Int)*rr+u0<mm:=by omega
       have HQ2:=Lib.hid (H2.out.fits H31.out H32.out HY0.out (by rw[<- hmm];omega));clear hbigg hmm hgtt;have fq:=Lib.hid (div64_fin (P:=q) (Q:=z) HY.out HLO.out (by have:=H31.out;omega) h1 EP.out (by rw[<- EV.out];exact HQ2.out));have g7:z<4294967296:=by
        have h:=HV2.out;have h3:=HU2.out;have h5:=H31.out;rw[HQ2.out,Nat.div_lt_iff_lt_mul (by omega)];omega
       have b7:(z:Int)<=4294967295:=by omega
       clear g7;have b8:(0:Int)<=z:=by omega
       go_wp2
       go_ret2
       exact divpost_mk (by have:=fq.out;omega)
open Go.RowKit
theorem bitLen_bounds(x:Nat)(h:x<18446744073709551616)(h0:x≠0):1<=Lib.bitLen x/\2^(Lib.bitLen x - 1)<=x/\x<2^Lib.bitLen x:=Lib.bitLenAux_bounds 64 x (by omega) h0
theorem bitLen_full(x:Nat)(h:x<18446744073709551616)(h0:9223372036854775808<=x):Lib.bitLen x=64:=by
 obtain⟨-,h2,h3⟩:=bitLen_bounds x h (by omega);have h4:¬Lib.bitLen x<=63:=fun h=>by
  have:=Nat.pow_le_pow_right (n:=2) (by omega) h;omega
 have h5:¬65<=Lib.bitLen x:=fun h=>by
  have:=Nat.pow_le_pow_right (n:=2) (by omega) (show 64<=Lib.bitLen x - 1 by omega);omega
 omega
theorem div64_small(lo y:Nat)(h0:(0:Int)<y)(hlo:(lo:Int)<=18446744073709551615)(w:World) :
  Calls Tryz.prog 162 #[.int .u64 0,.int .u64 lo,.int .u64 y] w fun e w'=>e=.returned (.tuple #[.int .u64 ((lo / y:Nat):Int),.int .u64 ((lo%y:Nat):Int)])/\w.drew=w':=by
 have n0:((y:Int) == 0)=false:=by simp;omega
 have n1:¬(y:Int)<=0:=by omega
 have n2:(1:Int)<=y:=by omega
 have n3:(0:Int)<=lo:=by omega
 have n4:(lo:Int) / y<=lo:=by rw[<- Int.natCast_ediv];have:=Nat.div_le_self lo y;omega
 have n5:(0:Int)<=(lo:Int) / y:=Int.ediv_nonneg (by omega) (by omega);have n6:IntKind.u64.wrap ((lo:Int) / y)=(lo:Int) / y:=by rw[IntKind.wrap_u64];omega
 go_enter Tryz.func162,Tryz.ntmps162
 go_wp2_with fail
 go_region
 go_wp2
 go_ret2
 exact⟨by simp,rfl⟩
def guessN(high next b:Nat):Nat:=if b<=high then 18446744073709551615 else (high*18446744073709551616+next) / b
theorem guess_over(high next b:Nat)(h:(b:Int)<=high)(w:World) :
  Calls Tryz.prog 156 #[.int .u64 high,.int .u64 next,.int .u64 b] w fun e w'=>e=.returned (.int .u64 18446744073709551615)/\w=w':=by
 go_enter Tryz.func156,Tryz.ntmps156;go_wp2;go_ret;exact⟨rfl,rfl⟩
theorem guess_under(high next b q:Nat)(h:¬(b:Int)<=high)(w w1:World)(r:Int)
  (hD:Calls Tryz.prog 162 #[.int .u64 high,.int .u64 next,.int .u64 b] w fun e w'=>e=.returned (.tuple #[.int .u64 q,.int .u64 r])/\w1=w') :
  Calls Tryz.prog 156 #[.int .u64 high,.int .u64 next,.int .u64 b] w fun e w'=>e=.returned (.int .u64 q)/\w1=w':=by
 have HD:=Lib.hid hD;clear hD;go_enter Tryz.func156,Tryz.ntmps156
 go_wp2_with fail
 refine HD.out.mono ?_;rintro e w' ⟨rfl,rfl⟩;go_wp2;go_ret;exact⟨rfl,rfl⟩
theorem guess_under'(high next b q:Nat)(h:¬(b:Int)<=high)(w:World)
  (hD:Calls Tryz.prog 162 #[.int .u64 high,.int .u64 next,.int .u64 b] w (DivPost q w)) :
  Calls Tryz.prog 156 #[.int .u64 high,.int .u64 next,.int .u64 b] w fun e w'=>e=.returned (.int .u64 q)/\w=w':=by
 have HD:=Lib.hid hD;clear hD;go_enter Tryz.func156,Tryz.ntmps156
 go_wp2_with fail
 refine HD.out.mono ?_;rintro e w' ⟨⟨r,rfl⟩,rfl⟩;go_wp2;go_ret;exact⟨rfl,rfl⟩
theorem guess_any(high next b:Nat)(hh:high<18446744073709551616)(hn:next<18446744073709551616)(hb:b<18446744073709551616)(hb1:9223372036854775808<=b)(w:World) :
  Calls Tryz.prog 156 #[.int .u64 high,.int .u64 next,.int .u64 b] w fun e w'=>e=.returned (.int .u64 (guessN high next b:Nat))/\∃ m,w'=w.drewN m:=by
 unfold guessN;by_cases h:b<=high
 ·rw[if_pos h]
  exact(guess_over high next b (by omega) w).mono fun e w' ⟨he,hw⟩=>⟨he,0,hw ▸ rfl⟩
 ·rw[if_neg h]
  by_cases h0:high=0
  ·subst h0
   rw[Nat.zero_mul,Nat.zero_add];exact(guess_under 0 next b (next / b) (by omega) w w.drew _ (div64_small next b (by omega) (by omega) w)).mono fun e w' ⟨he,hw⟩=>⟨he,1,hw ▸ rfl⟩
  ·have hz:Lib.bitLen ((b:Int)).toNat=64:=by rw[Int.toNat_natCast];exact bitLen_full b hb hb1
   have hL:∀ w,Calls Tryz.prog 146 #[.int .u64 b] w fun e w'=>e=.returned (.int .i64 0)/\w=w':=fun w =>
    (Tryz.bits_LeadingZeros64 b w (by omega) (by omega)).mono fun e w' ⟨he,hw⟩=>⟨by rw[he,hz];rfl,hw.symm⟩
   have e1:∀ x:Nat,x<18446744073709551616->bits .and .u64 (x:Int) 4294967295=((x%4294967296:Nat):Int):=fun x hx=>by
    have:=bits_and_u64_nat x 4294967295 hx (by omega);rw[show x &&& 4294967295=x%4294967296 from Nat.and_two_pow_sub_one_eq_mod x 32]at this;exact this
   have e2:bits .or .u64 (high:Int) 0=(high:Int):=by
    have:=bits_or_u64_nat high 0 hh (by omega);rw[Nat.or_zero]at this;exact this
   have h:=div64_big high next b (b / 4294967296) (b%4294967296) (next / 4294967296) (next%4294967296) (by omega) (by omega) (by omega) (by omega) (by omega) (by omega) (by omega) (by omega) (by omega) w (e1 b hb) (e1 next hn) e2 hL
   exact(guess_under' high next b _ (by omega) w h).mono fun e w' ⟨he,hw⟩=>⟨he,0,hw ▸ rfl⟩
open Go.RowKit
def GivePost(S o n:Nat)(r d:Nat->Nat)(w:World)(e:Ending)(w':World):Prop :=
 ∃(ns:Nat->Nat) (over:Nat),e=.returned (.int .u64 over)/\over<=1/\(∀ j,j<n+1->ns j<18446744073709551616) /\
  val ns (n+1)+18446744073709551616^(n+1)*over=val r (n+1)+val d n/\Holds S o (n+1) ns w w'
theorem give_step{P rk s c c' dk N R V:Nat}(h:N+P*c=R+V)(h1:s+18446744073709551616*c'=rk+dk+c) :
  N+P*s+P*18446744073709551616*c'=R+P*rk+(V+P*dk):=by
 have e1:P*s+P*(18446744073709551616*c')=P*rk+P*dk+P*c:=by rw[<- Nat.mul_add,<- Nat.mul_add,<- Nat.mul_add,h1]
 rw[Nat.mul_assoc];omega
theorem give_any(S o capS D capD n:Nat)(r d:Nat->Nat)(hn:(n:Int)<=1000)(hr:∀ j,j<n+1->r j<18446744073709551616)(hd:∀ j,j<n->d j<18446744073709551616)
  (hSD:D≠S) (w:World)
  (hs:∀ j,j<n+1->w.cell? ⟨S,o+j,none⟩=some (.int .u64 (r j))) (hf:∀ j,j<n+1->w.frozen? ⟨S,o+j,none⟩=false)
  (hc:∀ j,j<n->w.cell? ⟨D,j,none⟩=some (.int .u64 (d j))) :
  Calls Tryz.prog 158 #[.slice (some ⟨S,o,none⟩) ((n+1:Nat)) capS,.slice (some ⟨D,0,none⟩) n capD] w (GivePost S o n r d w):=by
 have HR:=Lib.hid hr;clear hr;have HD:=Lib.hid hd;clear hd;have HS:=Lib.hid hs;clear hs;have HF:=Lib.hid hf;clear hf;have HC:=Lib.hid hc;clear hc;have HN:=Lib.hid hSD;clear hSD;go_enter Tryz.func158,Tryz.ntmps158;go_wp2
 go_loopw [5,10] (fun c i wr=>∃(k cn:Nat) (ns:Nat->Nat),k<=n/\c=.int .u64 cn/\i=.int .i64 k/\Hid (cn<=1/\(∀ j,j<k->ns j<18446744073709551616)/\val ns k+18446744073709551616^k*cn=val r k+val d k/\Holds S o k ns w wr)) (fun _ i _=>n - (intOf i).toNat)
 case atStart=>exact⟨0,0,r,Nat.zero_le _,rfl,rfl,Lib.hid ⟨by omega,fun j hj=>by omega,by simp[val],Holds.start S o r w⟩⟩
 case round =>
  obtain⟨k,cn,ns,hk,rfl,rfl,H⟩:=hrel;have hk0:(0:Int)<=k:=by omega
  have hk1:(k:Int)<=1000:=by omega
  by_cases hlt:k<n
  ·obtain⟨sn,c',lc,ls,es,hSu⟩:=add64_ex (r k) (d k) cn (HR.out k (by omega)) (HD.out k hlt) H.out.1
   have cd:wr.cell? ⟨D,k,none⟩=some (.int .u64 (d k)):=by rw[H.out.2.2.2.1.cell (p:=⟨D,k,none⟩) HN.out];exact HC.out k hlt
   have cs:wr.cell? ⟨S,o+k,none⟩=some (.int .u64 (r k)):=by rw[H.out.2.2.2.2 (o+k),if_neg (by omega)];exact HS.out k (by omega)
   have cf:wr.frozen? ⟨S,o+k,none⟩=false:=by rw[H.out.2.2.2.1.frozen];exact HF.out k (by omega)
   have ES:=Lib.hid es;clear es;go_wp2
   go_roundw
   case rel =>
    refine⟨k+1,c',fun j=>if j=k then sn else ns j,by omega,rfl,by go_num,Lib.hid ⟨lc,fun j hj=>?_,?_,H.out.2.2.2.next sn (by rw[HS.out k (by omega)];rfl)⟩⟩
    ·by_cases h:j=k
     ·simp only[h,if_true];exact ls
     ·simp only[h,if_false];exact H.out.2.1 j (by omega)
    ·have e1:val (fun j=>if j=k then sn else ns j) k=val ns k:=val_congr (fun j hj=>by simp only[show ¬j=k by omega,if_false])
     simp only[val,e1,if_true];rw[Nat.pow_succ];exact give_step H.out.2.2.1 ES.out
   case measure=>simp[intOf];omega
  ·obtain rfl:k=n:=by omega
   obtain⟨s1,b1,lb1,ls1,es1,hS1⟩:=add64_ex (r k) 0 cn (HR.out k (by omega)) (by omega) H.out.1;have hS2:∀ w,(callFunc 133 #[.int .u64 (r k),.int .u64 0,.int .u64 cn]).run Tryz.prog w=.ok (.value (.tuple #[.int .u64 s1,.int .u64 b1])) w:=hS1;clear hS1;have ES:=Lib.hid es1;clear es1;have cs:wr.cell? ⟨S,o+k,none⟩=some (.int .u64 (r k)):=by rw[H.out.2.2.2.2 (o+k),if_neg (by omega)];exact HS.out k (by omega)
   have cf:wr.frozen? ⟨S,o+k,none⟩=false:=by rw[H.out.2.2.2.1.frozen];exact HF.out k (by omega)
   go_wp2;go_ret;refine⟨fun j=>if j=k then s1 else ns j,b1,rfl,lb1,fun j hj=>?_,?_,H.out.2.2.2.next s1 (by rw[HS.out k (by omega)];rfl)⟩
   ·by_cases h:j=k
    ·simp only[h,if_true];exact ls1
    ·simp only[h,if_false];exact H.out.2.1 j (by omega)
   ·have e1:val (fun j=>if j=k then s1 else ns j) k=val ns k:=val_congr (fun j hj=>by simp only[show ¬j=k by omega,if_false])
    simp only[val,e1,if_true];have h0:=give_step (P:=18446744073709551616^k) (dk:=0) H.out.2.2.1 ES.out;rw[Nat.pow_succ];omega
open Go.RowKit
theorem val_lt{f:Nat->Nat}{n:Nat}(h:∀ j,j<n->f j<18446744073709551616):val f n<18446744073709551616^n:=by
 induction n with
 | zero=>simp[val]
 | succ n ih =>
  have h1:=ih (fun j hj=>h j (by omega));have h2:=h n (by omega);have h3:18446744073709551616^n*f n<=18446744073709551616^n*18446744073709551615:=Nat.mul_le_mul_left _ (by omega);rw[val,Nat.pow_succ];omega
theorem val_ge(f:Nat->Nat)(n:Nat):18446744073709551616^n*f n<=val f (n+1):=by rw[val];omega
theorem guess_least{r d:Nat->Nat}{k:Nat}(hr:∀ j,j<k+2->r j<18446744073709551616)(hd:0<d k)(hlt:val r (k+2)<18446744073709551616*val d (k+1))(g:Nat)
  (hg:g=if d k<=r (k+1)then 18446744073709551615 else (r (k+1)*18446744073709551616+r k) / d k):val r (k+2) / val d (k+1)<=g:=by
 have hP:0<18446744073709551616^k:=Nat.pow_pos (by omega);have hD:=val_ge d k;have hD0:0<val d (k+1):=Nat.lt_of_lt_of_le (Nat.mul_pos hP hd) hD;rw[hg]
 split
 ·have:val r (k+2) / val d (k+1)<18446744073709551616:=by rw[Nat.div_lt_iff_lt_mul hD0];exact hlt
  omega
 ·rw[Nat.le_div_iff_mul_le hd]
  have hq:=Nat.div_mul_le_self (val r (k+2)) (val d (k+1));generalize val r (k+2) / val d (k+1)=q at *;have hv:=val_lt (fun j hj=>hr j (by omega):∀ j,j<k->r j<18446744073709551616);have h1:q*(18446744073709551616^k*d k)<=q*val d (k+1):=Nat.mul_le_mul_left _ hD;have h2:val r (k+2)=val r k+18446744073709551616^k*(r (k+1)*18446744073709551616+r k):=by
   simp only[val,Nat.pow_succ]
   grind
  have h3:18446744073709551616^k*(q*d k)<18446744073709551616^k*(r (k+1)*18446744073709551616+r k+1):=by
   have:18446744073709551616^k*(q*d k)=q*(18446744073709551616^k*d k):=by grind
   rw[this,Nat.mul_add _ (r (k+1)*18446744073709551616+r k) 1,Nat.mul_one];omega
  have h4:=Nat.lt_of_mul_lt_mul_left h3;omega
theorem part_is{R D N part:Nat}(hD:0<D)(h:N+part*D=R)(hl:R / D<=part):part=R / D/\N=R%D:=by
 have h1:part<=R / D:=by rw[Nat.le_div_iff_mul_le hD];omega
 have e:part=R / D:=by omega
 refine⟨e,?_⟩;have:=Nat.div_add_mod R D;rw[<- e,Nat.mul_comm]at this;omega
theorem part_over{R D N P part:Nat}(hD:0<D)(h:N+part*D=R+P)(hN:N<P):R / D<part:=by
 rw[Nat.div_lt_iff_lt_mul hD];omega
theorem give_part{R D N N' P part over debt:Nat}(h:N+part*D=R+P*debt)(h1:N'+P*over=N+D)(hp:0<part)(ho:over<=debt):N'+(part - 1)*D=R+P*(debt - over):=by
 obtain⟨p,rfl⟩:∃ p,part=p+1:=⟨part - 1,by omega⟩
 obtain⟨e,rfl⟩:∃ e,debt=over+e:=⟨debt - over,by omega⟩
 rw[Nat.add_mul,Nat.one_mul]at h;rw[Nat.mul_add]at h;simp only[Nat.add_sub_cancel,Nat.add_sub_cancel_left];omega
end Go.Proofs.YtadfjjfklihaaaaGreat
