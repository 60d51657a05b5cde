/- Identities for two points of the curve. (Cut to what is reached, written closely: EcId · EcK · EcSm.) -/
import Derived.Test.YtphafjbajlcbnaaGreatB35
set_option linter.all false
set_option maxRecDepth 100000
set_option maxHeartbeats 8000000
namespace Go.Proofs.YtphafjbajlcbnaaGreat
def Q4{R:Type}(O:Ops R)(c:R):Ops (R × R) :=
 ⟨fun p q=>(O.add p.1 q.1,O.add p.2 q.2),fun p q=>(O.add (O.mul p.1 q.1) (O.mul (O.mul p.2 q.2) c),O.add (O.mul p.1 q.2) (O.mul p.2 q.1)),fun p q=>(O.sub p.1 q.1,O.sub p.2 q.2)⟩
abbrev T8(R:Type):=((R × R) × (R × R)) × ((R × R) × (R × R))
def ZF{R:Type}(O:Ops R)(z c1 c2 c3:R):Ops (T8 R):=Q4 (Q4 (Q4 O c1) (c2,z)) ((c3,z),(z,z))
def emb{R:Type}(z x:R):T8 R:=(((x,z),(z,z)),((z,z),(z,z)))
def yy1{R:Type}(z o:R):T8 R:=(((z,o),(z,z)),((z,z),(z,z)))
def yy2{R:Type}(z o:R):T8 R:=(((z,z),(o,z)),((z,z),(z,z)))
def yy3{R:Type}(z o:R):T8 R:=(((z,z),(z,z)),((o,z),(z,z)))
def Cm{R:Type}(O:Ops R)(t:R)(p q:R × R × R):R × R × R :=
 let a:=O.mul p.1 q.1
 let b:=O.mul p.2.1 q.2.1
 let c:=O.mul t (O.mul p.2.2 q.2.2)
 let d:=O.add (O.mul p.1 q.2.1) (O.mul q.1 p.2.1)
 let e:=O.add (O.mul p.2.1 q.2.2) (O.mul q.2.1 p.2.2)
 let f:=O.mul t (O.add (O.mul p.1 q.2.2) (O.mul q.1 p.2.2))
 let g:=O.add a (O.add a a)
 let m:=O.sub b c
 let n:=O.add b c
 (O.sub (O.mul d m) (O.mul e f),O.add (O.mul n m) (O.mul g f),O.add (O.mul e n) (O.mul g d))
structure Hom {R S:Type} (O:Ops R) (P:Ops S) (f:R->S):Prop where
 add:∀ a b,f (O.add a b)=P.add (f a) (f b)
 mul:∀ a b,f (O.mul a b)=P.mul (f a) (f b)
 sub:∀ a b,f (O.sub a b)=P.sub (f a) (f b)
def DC{R S:Type}(f:R->S)(p:R × R × R):S × S × S:=(f p.1,f p.2.1,f p.2.2)
theorem DD{R S:Type}{O:Ops R}{P:Ops S}{f:R->S}(h:Hom O P f)(t:R)(p q:R × R × R):DC f (Cm O t p q)=Cm P (f t) (DC f p) (DC f q):=by
 simp only[Cm,DC,h.add,h.mul,h.sub]
def Dl{R S:Type}(f:R->S)(p:R × R):S × S:=(f p.1,f p.2)
theorem Em{R S:Type}{O:Ops R}{P:Ops S}{f:R->S}(h:Hom O P f)(c:R):Hom (Q4 O c) (Q4 P (f c)) (Dl f):=by
 constructor <;> intro a b <;> simp only[Q4,Dl,h.add,h.mul,h.sub]
def Ir{R S:Type}(f:R->S):T8 R->T8 S:=Dl (Dl (Dl f))
theorem Oa{R S:Type}{O:Ops R}{P:Ops S}{f:R->S}(h:Hom O P f)(z c1 c2 c3:R):Hom (ZF O z c1 c2 c3) (ZF P (f z) (f c1) (f c2) (f c3)) (Ir f) :=
 Em (Em (Em h c1) (c2,z)) ((c3,z),(z,z))
def cub{R:Type}(O:Ops R)(x b:R):R:=O.add (O.mul (O.mul x x) x) b
def La{R:Type}(O:Ops R)(z x1 x2 x3 b:R):Ops (T8 R):=ZF O z (cub O x1 b) (cub O x2 b) (cub O x3 b)
def cross{R:Type}(O:Ops R)(l r:R × R × R):R × R:=(O.sub (O.mul l.1 r.2.2) (O.mul r.1 l.2.2),O.sub (O.mul l.2.1 r.2.2) (O.mul r.2.1 l.2.2))
theorem TF{R S:Type}{O:Ops R}{P:Ops S}{f:R->S}(h:Hom O P f)(l r:R × R × R):Dl f (cross O l r)=cross P (DC f l) (DC f r):=by
 simp only[cross,Dl,DC,h.mul,h.sub]
def Iu{R:Type}(O:Ops R)(t:R)(p q r:R × R × R):R × R:=cross O (Cm O t (Cm O t p q) r) (Cm O t p (Cm O t q r))
theorem Ke{R S:Type}{O:Ops R}{P:Ops S}{f:R->S}(h:Hom O P f)(t:R)(p q r:R × R × R):Dl f (Iu O t p q r)=Iu P (f t) (DC f p) (DC f q) (DC f r):=by
 unfold Iu;rw[TF h,DD h,DD h,DD h,DD h]
def DF{R:Type}(O:Ops R)(z o x1 x2 x3 b:R):T8 R × T8 R :=
 Iu (La O z x1 x2 x3 b) (emb z (O.add b (O.add b b))) (emb z x1,yy1 z o,emb z o) (emb z x2,yy2 z o,emb z o) (emb z x3,yy3 z o,emb z o)
theorem Gb{R S:Type}{O:Ops R}{P:Ops S}{f:R->S}(h:Hom O P f)(z o x1 x2 x3 b:R):Dl (Ir f) (DF O z o x1 x2 x3 b)=DF P (f z) (f o) (f x1) (f x2) (f x3) (f b):=by
 unfold DF La;have hc:∀ x,f (cub O x b)=cub P (f x) (f b):=fun x=>by simp only[cub,h.add,h.mul]
 rw[Ke (Oa h _ _ _ _),hc,hc,hc];simp only[DC,emb,yy1,yy2,yy3,Ir,Dl,h.add]
def Kw{R:Type}(p:R->Prop)(t:T8 R):Prop:=p t.1.1.1/\p t.1.1.2/\p t.1.2.1/\p t.1.2.2/\p t.2.1.1/\p t.2.1.2/\p t.2.2.1/\p t.2.2.2
def exD:T8 Ex × T8 Ex:=DF Ex.ops (.k 0) (.k 1) (.v 0) (.v 1) (.v 2) (.v 3)
def Oc:Ops (Nat × Mn):=⟨IU,L9,IU⟩
theorem WH:Hom Ex.ops Oc Ex.nd:=⟨fun _ _=>rfl,fun _ _=>rfl,fun _ _=>rfl⟩
theorem Hw{K:Type}(C:CRing K)(r:Nat->K):Hom Ex.ops C.ops (Ex.eval C r):=⟨fun _ _=>rfl,fun _ _=>rfl,fun _ _=>rfl⟩
def small(d:Mn)(B:Nat)(x:Nat × Mn):Prop:=x.1=0\/(x.1<B/\x.2.le d)
instance (d:Mn) (B:Nat) (x:Nat × Mn):Decidable (small d B x):=by unfold small Mn.le;exact inferInstance
instance {R:Type} (p:R->Prop) [DecidablePred p] (t:T8 R):Decidable (Kw p t):=by unfold Kw;exact inferInstance
def dA:Mn:=(9,12,9,9)
theorem Od:let t:=DF Oc (0,0,0,0,0) (1,0,0,0,0) (1,Mn.var 0) (1,Mn.var 1) (1,Mn.var 2) (1,Mn.var 3)
  Kw (small dA (2^28)) t.1/\Kw (small dA (2^28)) t.2:=by decide +kernel
theorem MB:let t:=DF intRing.ops 0 1 (kp (2^28) dA 0) (kp (2^28) dA 1) (kp (2^28) dA 2) (kp (2^28) dA 3)
  Kw (fun x=>x=0) t.1/\Kw (fun x=>x=0) t.2:=by decide +kernel
theorem Kg{K:Type}(C:CRing K)(r:Nat->K)(B:Nat)(d:Mn)(e:Ex)(h:small d B e.nd)(h0:e.eval intRing (kp B d)=0):e.eval C r=C.zero:=by
 rcases h with h | h
 ·have h1:=Mx C r e
  rw[(Df h).1,(Df h).2]at h1;exact(C.add_zero _).symm.trans h1
 ·exact A44 C r B d e h.2 h.1 h0
theorem Hom.comp{R S T:Type}{O:Ops R}{P:Ops S}{Q:Ops T}{f:R->S}{g:S->T}(hg:Hom P Q g)(hf:Hom O P f):Hom O Q fun x=>g (f x) :=
 ⟨fun a b=>by rw[hf.add,hg.add],fun a b=>by rw[hf.mul,hg.mul],fun a b=>by rw[hf.sub,hg.sub]⟩
section
variable {K:Type} (C:CRing K)
def ev2(y:K)(p:K × K):K:=C.add p.1 (C.mul p.2 y)
theorem ZG(a b:K):C.neg (C.add a b)=C.add (C.neg a) (C.neg b):=by
 apply C.add_cancel (c:=C.add a b);rw[C.add_comm (C.neg (C.add a b)),C.add_neg,C.swap4,C.add_comm (C.neg a),C.add_neg,C.add_comm (C.neg b),C.add_neg,C.add_zero]
theorem sub_mul(a b c:K):C.mul (C.sub a b) c=C.sub (C.mul a c) (C.mul b c):=by rw[C.mul_comm,C.mul_sub,C.mul_comm c a,C.mul_comm c b]
theorem MC{y c:K}(h:C.mul y y=c):Hom (Q4 C.ops c) C.ops (ev2 C y):=by
 constructor
 ·intro a b
  show C.add (C.add a.1 b.1) (C.mul (C.add a.2 b.2) y)=C.add (C.add a.1 (C.mul a.2 y)) (C.add b.1 (C.mul b.2 y));rw[C.add_mul,C.swap4]
 ·intro a b
  show C.add (C.add (C.mul a.1 b.1) (C.mul (C.mul a.2 b.2) c)) (C.mul (C.add (C.mul a.1 b.2) (C.mul a.2 b.1)) y)=C.mul (C.add a.1 (C.mul a.2 y)) (C.add b.1 (C.mul b.2 y));rw[<- h,C.mul_add,C.add_mul,C.add_mul,C.add_mul,<- C.mul4,C.mul_assoc a.1 b.2 y,C.mul_assoc a.2 b.1 y,C.mul_assoc a.2 y b.1,C.mul_comm y b.1];rw[C.add_comm (C.mul a.1 (C.mul b.2 y)),C.swap4,C.add_comm (C.mul (C.mul a.2 y) (C.mul b.2 y))]
 ·intro a b
  show C.add (C.sub a.1 b.1) (C.mul (C.sub a.2 b.2) y)=C.sub (C.add a.1 (C.mul a.2 y)) (C.add b.1 (C.mul b.2 y));rw[sub_mul];unfold CRing.sub;rw[ZG,C.swap4]
def ev8(y1 y2 y3:K)(t:T8 K):K:=ev2 C y3 (Dl (ev2 C y2) (Dl (Dl (ev2 C y1)) t))
theorem En(y x:K):ev2 C y (x,C.zero)=x:=by unfold ev2;rw[C.zero_mul,C.add_zero]
theorem Ri{y1 y2 y3 c1 c2 c3:K}(h1:C.mul y1 y1=c1)(h2:C.mul y2 y2=c2)(h3:C.mul y3 y3=c3):Hom (ZF C.ops C.zero c1 c2 c3) C.ops (ev8 C y1 y2 y3):=by
 have H1:=MC C h1;have H2:=MC C h2;have H3:=MC C h3;have A:=Em (Em H1 (c2,C.zero)) ((c3,C.zero),(C.zero,C.zero));have e2:ev2 C y1 (c2,C.zero)=c2:=En C y1 c2;have e3:Dl (ev2 C y1) ((c3,C.zero),(C.zero,C.zero))=(c3,C.zero):=by
  unfold Dl;rw[En,En]
 rw[e2,e3]at A;have B:=Em H2 (c3,C.zero);rw[En]at B;exact(H3.comp B).comp A
theorem Rj(y1 y2 y3 x:K):ev8 C y1 y2 y3 (emb C.zero x)=x:=by
 unfold ev8 emb Dl;simp only[En]
theorem Kh(a:K):C.add C.zero (C.mul C.one a)=a:=by rw[C.one_mul,C.zero_add]
theorem WI(y1 y2 y3:K):ev8 C y1 y2 y3 (yy1 C.zero C.one)=y1:=by
 unfold ev8 yy1;simp only[Dl,ev2,C.zero_mul,C.add_zero,Kh]
theorem WJ(y1 y2 y3:K):ev8 C y1 y2 y3 (yy2 C.zero C.one)=y2:=by
 unfold ev8 yy2;simp only[Dl,ev2,C.zero_mul,C.add_zero,Kh]
theorem A2j(y1 y2 y3:K):ev8 C y1 y2 y3 (yy3 C.zero C.one)=y3:=by
 unfold ev8 yy3;simp only[Dl,ev2,C.zero_mul,C.add_zero,Kh]
def lets(x1 x2 x3 b:K):Nat->K
 | 0=>x1
 | 1=>x2
 | 2=>x3
 | _=>b
theorem Oe(r:Nat->K):(Ex.k 1).eval C r=C.one:=C.zero_add _
theorem Ki{d:Mn}{B:Nat}{t:T8 Ex}(r:Nat->K)(y1 y2 y3:K)(hs:Kw (fun e:Ex=>small d B e.nd) t)(h0:Kw (fun e:Ex=>e.eval intRing (kp B d)=0) t):ev8 C y1 y2 y3 (Ir (Ex.eval C r) t)=C.zero:=by
 have k:=fun e h1 h2=>Kg C r B d e h1 h2;obtain⟨s1,s2,s3,s4,s5,s6,s7,s8⟩:=hs;obtain⟨z1,z2,z3,z4,z5,z6,z7,z8⟩:=h0;unfold ev8 Ir;simp only[Dl,ev2];rw[k _ s1 z1,k _ s2 z2,k _ s3 z3,k _ s4 z4,k _ s5 z5,k _ s6 z6,k _ s7 z7,k _ s8 z8];simp only[C.zero_mul,C.add_zero]
def OnC(b x y:K):Prop:=C.mul y y=cub C.ops x b
theorem ZH{b x1 y1 x2 y2 x3 y3:K}(h1:OnC C b x1 y1)(h2:OnC C b x2 y2)(h3:OnC C b x3 y3) :
  Iu C.ops (C.add b (C.add b b)) (x1,y1,C.one) (x2,y2,C.one) (x3,y3,C.one)=(C.zero,C.zero):=by
 have hE:=Ri C h1 h2 h3;have e:=Gb (Hw C (lets x1 x2 x3 b)) (.k 0) (.k 1) (.v 0) (.v 1) (.v 2) (.v 3);rw[Oe]at e;have e':Dl (Ir (Ex.eval C (lets x1 x2 x3 b))) exD=DF C.ops C.zero C.one x1 x2 x3 b:=e;have f:Dl (ev8 C y1 y2 y3) (DF C.ops C.zero C.one x1 x2 x3 b)=Iu C.ops (C.add b (C.add b b)) (x1,y1,C.one) (x2,y2,C.one) (x3,y3,C.one):=by
  unfold DF La;rw[Ke hE];simp only[DC,Rj,WI,WJ,A2j];rfl
 rw[<- f,<- e'];have hs:=Od;have hn:=MB;have es:=Gb WH (.k 0) (.k 1) (.v 0) (.v 1) (.v 2) (.v 3);have en:=Gb (Hw intRing (kp (2^28) dA)) (.k 0) (.k 1) (.v 0) (.v 1) (.v 2) (.v 3);have es':Dl (Ir Ex.nd) exD=DF Oc (0,0,0,0,0) (1,0,0,0,0) (1,Mn.var 0) (1,Mn.var 1) (1,Mn.var 2) (1,Mn.var 3):=es;have en':Dl (Ir (Ex.eval intRing (kp (2^28) dA))) exD=DF intRing.ops 0 1 (kp (2^28) dA 0) (kp (2^28) dA 1) (kp (2^28) dA 2) (kp (2^28) dA 3):=en;simp only at hs hn;rw[<- es']at hs;rw[<- en']at hn;have k:=fun t hs h0=>Ki C (d:=dA) (B:=2^28) (t:=t) (lets x1 x2 x3 b) y1 y2 y3 hs h0;exact Prod.ext (k exD.1 hs.1 hn.1) (k exD.2 hs.2 hn.2)
end
structure Id2 where
 F:(R:Type)->Ops R->R->R->R->R->R->R->R
 hF:∀ {R S:Type} {O:Ops R} {P:Ops S} {f:R->S},Hom O P f->∀ o x1 y1 x2 y2 b,f (F R O o x1 y1 x2 y2 b)=F S P (f o) (f x1) (f y1) (f x2) (f y2) (f b)
def Id2.T(I:Id2){R:Type}(O:Ops R)(z o x1 x2 x3 b:R):T8 R:=I.F (T8 R) (La O z x1 x2 x3 b) (emb z o) (emb z x1) (yy1 z o) (emb z x2) (yy2 z o) (emb z b)
theorem Id2.T_map(I:Id2){R S:Type}{O:Ops R}{P:Ops S}{f:R->S}(h:Hom O P f)(z o x1 x2 x3 b:R):Ir f (I.T O z o x1 x2 x3 b)=I.T P (f z) (f o) (f x1) (f x2) (f x3) (f b):=by
 unfold Id2.T La;have hc:∀ x,f (cub O x b)=cub P (f x) (f b):=fun x=>by simp only[cub,h.add,h.mul]
 rw[I.hF (Oa h _ _ _ _),hc,hc,hc];simp only[emb,yy1,yy2,Ir,Dl]
def dS:Mn:=(20,20,1,12)
def Id2.Small(I:Id2):Prop:=Kw (small dS (2^50)) (I.T Oc (0,0,0,0,0) (1,0,0,0,0) (1,Mn.var 0) (1,Mn.var 1) (1,Mn.var 2) (1,Mn.var 3))
def Id2.Nought(I:Id2):Prop:=Kw (fun x=>x=0) (I.T intRing.ops 0 1 (kp (2^50) dS 0) (kp (2^50) dS 1) (kp (2^50) dS 2) (kp (2^50) dS 3))
instance (I:Id2):Decidable I.Small:=by unfold Id2.Small;exact inferInstance
instance (I:Id2):Decidable I.Nought:=by unfold Id2.Nought;exact inferInstance
theorem id2(I:Id2)(hs:I.Small)(hn:I.Nought){K:Type}(C:CRing K){b x1 y1 x2 y2:K}(h1:OnC C b x1 y1)(h2:OnC C b x2 y2):I.F K C.ops C.one x1 y1 x2 y2 b=C.zero:=by
 have hE:=Ri C h1 h2 h1;have e:=I.T_map (Hw C (lets x1 x2 x1 b)) (.k 0) (.k 1) (.v 0) (.v 1) (.v 2) (.v 3);rw[Oe]at e;have e':Ir (Ex.eval C (lets x1 x2 x1 b)) (I.T Ex.ops (.k 0) (.k 1) (.v 0) (.v 1) (.v 2) (.v 3))=I.T C.ops C.zero C.one x1 x2 x1 b:=e;have f:ev8 C y1 y2 y1 (I.T C.ops C.zero C.one x1 x2 x1 b)=I.F K C.ops C.one x1 y1 x2 y2 b:=by
  unfold Id2.T La;rw[I.hF hE];simp only[Rj,WI,WJ]
 rw[<- f,<- e'];unfold Id2.Small at hs;unfold Id2.Nought at hn;have es':Ir Ex.nd (I.T Ex.ops (.k 0) (.k 1) (.v 0) (.v 1) (.v 2) (.v 3))=I.T Oc (0,0,0,0,0) (1,0,0,0,0) (1,Mn.var 0) (1,Mn.var 1) (1,Mn.var 2) (1,Mn.var 3):=I.T_map WH (.k 0) (.k 1) (.v 0) (.v 1) (.v 2) (.v 3);have en':Ir (Ex.eval intRing (kp (2^50) dS)) (I.T Ex.ops (.k 0) (.k 1) (.v 0) (.v 1) (.v 2) (.v 3))=I.T intRing.ops 0 1 (kp (2^50) dS 0) (kp (2^50) dS 1) (kp (2^50) dS 2) (kp (2^50) dS 3):=I.T_map (Hw intRing (kp (2^50) dS)) (.k 0) (.k 1) (.v 0) (.v 1) (.v 2) (.v 3);rw[<- es']at hs;rw[<- en']at hn;exact Ki C (d:=dS) (B:=2^50) (lets x1 x2 x1 b) y1 y2 y1 hs hn
theorem Q5{R S:Type}{O:Ops R}{P:Ops S}{f:R->S}(h:Hom O P f)(t a b c d e g:R):f (Cm O t (a,b,c) (d,e,g)).1=(Cm P (f t) (f a,f b,f c) (f d,f e,f g)).1:=congrArg Prod.fst (DD h t (a,b,c) (d,e,g))
theorem Q6{R S:Type}{O:Ops R}{P:Ops S}{f:R->S}(h:Hom O P f)(t a b c d e g:R):f (Cm O t (a,b,c) (d,e,g)).2.1=(Cm P (f t) (f a,f b,f c) (f d,f e,f g)).2.1:=congrArg (fun x=>x.2.1) (DD h t (a,b,c) (d,e,g))
theorem Gc{R S:Type}{O:Ops R}{P:Ops S}{f:R->S}(h:Hom O P f)(t a b c d e g:R):f (Cm O t (a,b,c) (d,e,g)).2.2=(Cm P (f t) (f a,f b,f c) (f d,f e,f g)).2.2:=congrArg (fun x=>x.2.2) (DD h t (a,b,c) (d,e,g))
def idChX:Id2:=⟨fun _ O o x1 y1 x2 y2 b=>(O.sub (O.mul (Cm O (O.add (O.add b b) b) (x1,y1,o) (x2,y2,o)).1 (O.mul (O.sub x2 x1) (O.sub x2 x1))) (O.mul (Cm O (O.add (O.add b b) b) (x1,y1,o) (x2,y2,o)).2.2 (O.sub (O.mul (O.sub y2 y1) (O.sub y2 y1)) (O.mul (O.add x1 x2) (O.mul (O.sub x2 x1) (O.sub x2 x1)))))),fun h _ _ _ _ _ _=>by simp only[h.add,h.mul,h.sub,Q5 h,Gc h]⟩
theorem ZI:idChX.Small:=by decide +kernel
theorem ZJ:idChX.Nought:=by decide +kernel
def idChY:Id2:=⟨fun _ O o x1 y1 x2 y2 b=>(O.sub (O.mul (Cm O (O.add (O.add b b) b) (x1,y1,o) (x2,y2,o)).2.1 (O.mul (O.mul (O.sub x2 x1) (O.sub x2 x1)) (O.sub x2 x1))) (O.mul (Cm O (O.add (O.add b b) b) (x1,y1,o) (x2,y2,o)).2.2 (O.sub (O.mul (O.sub y2 y1) (O.sub (O.mul x1 (O.mul (O.sub x2 x1) (O.sub x2 x1))) (O.sub (O.mul (O.sub y2 y1) (O.sub y2 y1)) (O.mul (O.add x1 x2) (O.mul (O.sub x2 x1) (O.sub x2 x1)))))) (O.mul y1 (O.mul (O.mul (O.sub x2 x1) (O.sub x2 x1)) (O.sub x2 x1)))))),fun h _ _ _ _ _ _=>by simp only[h.add,h.mul,h.sub,Q6 h,Gc h]⟩
theorem ZK:idChY.Small:=by decide +kernel
theorem ZL:idChY.Nought:=by decide +kernel
def idDiff:Id2:=⟨fun _ O o x1 y1 x2 y2 b=>(O.add (Cm O (O.add (O.add b b) b) (x1,y1,o) (x2,y2,o)).2.2 (O.add (O.mul (O.add y1 y2) (O.sub (O.mul (O.add (O.add x1 x1) x2) (O.mul (O.sub x2 x1) (O.sub x2 x1))) (O.mul (O.add y1 y2) (O.add y1 y2)))) (O.mul y1 (O.mul (O.mul (O.sub x2 x1) (O.sub x2 x1)) (O.sub x2 x1))))),fun h _ _ _ _ _ _=>by simp only[h.add,h.mul,h.sub,Gc h]⟩
theorem WK:idDiff.Small:=by decide +kernel
theorem WL:idDiff.Nought:=by decide +kernel
def idDCl:Id2:=⟨fun _ O _ x1 y1 x2 y2 b=>(O.sub (O.mul (O.add (O.mul (O.add y1 y2) (O.sub (O.mul (O.add (O.add x1 x1) x2) (O.mul (O.sub x2 x1) (O.sub x2 x1))) (O.mul (O.add y1 y2) (O.add y1 y2)))) (O.mul y1 (O.mul (O.mul (O.sub x2 x1) (O.sub x2 x1)) (O.sub x2 x1)))) (O.add (O.mul (O.add y1 y2) (O.sub (O.mul (O.add (O.add x1 x1) x2) (O.mul (O.sub x2 x1) (O.sub x2 x1))) (O.mul (O.add y1 y2) (O.add y1 y2)))) (O.mul y1 (O.mul (O.mul (O.sub x2 x1) (O.sub x2 x1)) (O.sub x2 x1))))) (O.add (O.mul (O.mul (O.sub (O.mul (O.add y1 y2) (O.add y1 y2)) (O.mul (O.add x1 x2) (O.mul (O.sub x2 x1) (O.sub x2 x1)))) (O.sub (O.mul (O.add y1 y2) (O.add y1 y2)) (O.mul (O.add x1 x2) (O.mul (O.sub x2 x1) (O.sub x2 x1))))) (O.sub (O.mul (O.add y1 y2) (O.add y1 y2)) (O.mul (O.add x1 x2) (O.mul (O.sub x2 x1) (O.sub x2 x1))))) (O.mul b (O.mul (O.mul (O.mul (O.mul (O.mul (O.sub x2 x1) (O.sub x2 x1)) (O.sub x2 x1)) (O.sub x2 x1)) (O.sub x2 x1)) (O.sub x2 x1))))),fun h _ _ _ _ _ _=>by simp only[h.add,h.mul,h.sub]⟩
theorem ZM:idDCl.Small:=by decide +kernel
theorem ZN:idDCl.Nought:=by decide +kernel
def idClS:Id2:=⟨fun _ O _ x1 y1 x2 y2 b=>(O.sub (O.mul (O.sub (O.mul (O.sub y2 y1) (O.sub (O.mul x1 (O.mul (O.sub x2 x1) (O.sub x2 x1))) (O.sub (O.mul (O.sub y2 y1) (O.sub y2 y1)) (O.mul (O.add x1 x2) (O.mul (O.sub x2 x1) (O.sub x2 x1)))))) (O.mul y1 (O.mul (O.mul (O.sub x2 x1) (O.sub x2 x1)) (O.sub x2 x1)))) (O.sub (O.mul (O.sub y2 y1) (O.sub (O.mul x1 (O.mul (O.sub x2 x1) (O.sub x2 x1))) (O.sub (O.mul (O.sub y2 y1) (O.sub y2 y1)) (O.mul (O.add x1 x2) (O.mul (O.sub x2 x1) (O.sub x2 x1)))))) (O.mul y1 (O.mul (O.mul (O.sub x2 x1) (O.sub x2 x1)) (O.sub x2 x1))))) (O.add (O.mul (O.mul (O.sub (O.mul (O.sub y2 y1) (O.sub y2 y1)) (O.mul (O.add x1 x2) (O.mul (O.sub x2 x1) (O.sub x2 x1)))) (O.sub (O.mul (O.sub y2 y1) (O.sub y2 y1)) (O.mul (O.add x1 x2) (O.mul (O.sub x2 x1) (O.sub x2 x1))))) (O.sub (O.mul (O.sub y2 y1) (O.sub y2 y1)) (O.mul (O.add x1 x2) (O.mul (O.sub x2 x1) (O.sub x2 x1))))) (O.mul b (O.mul (O.mul (O.mul (O.mul (O.mul (O.sub x2 x1) (O.sub x2 x1)) (O.sub x2 x1)) (O.sub x2 x1)) (O.sub x2 x1)) (O.sub x2 x1))))),fun h _ _ _ _ _ _=>by simp only[h.add,h.mul,h.sub]⟩
theorem ZO:idClS.Small:=by decide +kernel
theorem ZP:idClS.Nought:=by decide +kernel
def idDbZ:Id2:=⟨fun _ O o x1 y1 _ _ b=>(O.sub (Cm O (O.add (O.add b b) b) (x1,y1,o) (x1,y1,o)).2.2 (O.add (O.add (O.add (O.add (O.add (O.add (O.add (O.mul (O.mul y1 y1) y1) (O.mul (O.mul y1 y1) y1)) (O.mul (O.mul y1 y1) y1)) (O.mul (O.mul y1 y1) y1)) (O.mul (O.mul y1 y1) y1)) (O.mul (O.mul y1 y1) y1)) (O.mul (O.mul y1 y1) y1)) (O.mul (O.mul y1 y1) y1))),fun h _ _ _ _ _ _=>by simp only[h.add,h.mul,h.sub,Gc h]⟩
theorem ZQ:idDbZ.Small:=by decide +kernel
theorem ZR:idDbZ.Nought:=by decide +kernel
def idDbX:Id2:=⟨fun _ O o x1 y1 _ _ b=>(O.sub (O.mul (Cm O (O.add (O.add b b) b) (x1,y1,o) (x1,y1,o)).1 (O.mul (O.add y1 y1) (O.add y1 y1))) (O.mul (Cm O (O.add (O.add b b) b) (x1,y1,o) (x1,y1,o)).2.2 (O.sub (O.add (O.add (O.add (O.add (O.add (O.add (O.add (O.add (O.mul (O.mul (O.mul x1 x1) x1) x1) (O.mul (O.mul (O.mul x1 x1) x1) x1)) (O.mul (O.mul (O.mul x1 x1) x1) x1)) (O.mul (O.mul (O.mul x1 x1) x1) x1)) (O.mul (O.mul (O.mul x1 x1) x1) x1)) (O.mul (O.mul (O.mul x1 x1) x1) x1)) (O.mul (O.mul (O.mul x1 x1) x1) x1)) (O.mul (O.mul (O.mul x1 x1) x1) x1)) (O.mul (O.mul (O.mul x1 x1) x1) x1)) (O.add (O.add (O.add (O.add (O.add (O.add (O.add (O.mul x1 (O.mul y1 y1)) (O.mul x1 (O.mul y1 y1))) (O.mul x1 (O.mul y1 y1))) (O.mul x1 (O.mul y1 y1))) (O.mul x1 (O.mul y1 y1))) (O.mul x1 (O.mul y1 y1))) (O.mul x1 (O.mul y1 y1))) (O.mul x1 (O.mul y1 y1)))))),fun h _ _ _ _ _ _=>by simp only[h.add,h.mul,h.sub,Q5 h,Gc h]⟩
theorem ZT:idDbX.Small:=by decide +kernel
theorem ZU:idDbX.Nought:=by decide +kernel
def idDbY:Id2:=⟨fun _ O o x1 y1 _ _ b=>(O.sub (O.mul (Cm O (O.add (O.add b b) b) (x1,y1,o) (x1,y1,o)).2.1 (O.mul (O.mul (O.add y1 y1) (O.add y1 y1)) (O.add y1 y1))) (O.mul (Cm O (O.add (O.add b b) b) (x1,y1,o) (x1,y1,o)).2.2 (O.sub (O.mul (O.add (O.add (O.mul x1 x1) (O.mul x1 x1)) (O.mul x1 x1)) (O.sub (O.mul x1 (O.mul (O.add y1 y1) (O.add y1 y1))) (O.sub (O.add (O.add (O.add (O.add (O.add (O.add (O.add (O.add (O.mul (O.mul (O.mul x1 x1) x1) x1) (O.mul (O.mul (O.mul x1 x1) x1) x1)) (O.mul (O.mul (O.mul x1 x1) x1) x1)) (O.mul (O.mul (O.mul x1 x1) x1) x1)) (O.mul (O.mul (O.mul x1 x1) x1) x1)) (O.mul (O.mul (O.mul x1 x1) x1) x1)) (O.mul (O.mul (O.mul x1 x1) x1) x1)) (O.mul (O.mul (O.mul x1 x1) x1) x1)) (O.mul (O.mul (O.mul x1 x1) x1) x1)) (O.add (O.add (O.add (O.add (O.add (O.add (O.add (O.mul x1 (O.mul y1 y1)) (O.mul x1 (O.mul y1 y1))) (O.mul x1 (O.mul y1 y1))) (O.mul x1 (O.mul y1 y1))) (O.mul x1 (O.mul y1 y1))) (O.mul x1 (O.mul y1 y1))) (O.mul x1 (O.mul y1 y1))) (O.mul x1 (O.mul y1 y1)))))) (O.mul y1 (O.mul (O.mul (O.add y1 y1) (O.add y1 y1)) (O.add y1 y1)))))),fun h _ _ _ _ _ _=>by simp only[h.add,h.mul,h.sub,Q6 h,Gc h]⟩
theorem ZV:idDbY.Small:=by decide +kernel
theorem ZW:idDbY.Nought:=by decide +kernel
def idDbC:Id2:=⟨fun _ O _ x1 y1 _ _ b=>(O.sub (O.mul (O.sub (O.mul (O.add (O.add (O.mul x1 x1) (O.mul x1 x1)) (O.mul x1 x1)) (O.sub (O.mul x1 (O.mul (O.add y1 y1) (O.add y1 y1))) (O.sub (O.add (O.add (O.add (O.add (O.add (O.add (O.add (O.add (O.mul (O.mul (O.mul x1 x1) x1) x1) (O.mul (O.mul (O.mul x1 x1) x1) x1)) (O.mul (O.mul (O.mul x1 x1) x1) x1)) (O.mul (O.mul (O.mul x1 x1) x1) x1)) (O.mul (O.mul (O.mul x1 x1) x1) x1)) (O.mul (O.mul (O.mul x1 x1) x1) x1)) (O.mul (O.mul (O.mul x1 x1) x1) x1)) (O.mul (O.mul (O.mul x1 x1) x1) x1)) (O.mul (O.mul (O.mul x1 x1) x1) x1)) (O.add (O.add (O.add (O.add (O.add (O.add (O.add (O.mul x1 (O.mul y1 y1)) (O.mul x1 (O.mul y1 y1))) (O.mul x1 (O.mul y1 y1))) (O.mul x1 (O.mul y1 y1))) (O.mul x1 (O.mul y1 y1))) (O.mul x1 (O.mul y1 y1))) (O.mul x1 (O.mul y1 y1))) (O.mul x1 (O.mul y1 y1)))))) (O.mul y1 (O.mul (O.mul (O.add y1 y1) (O.add y1 y1)) (O.add y1 y1)))) (O.sub (O.mul (O.add (O.add (O.mul x1 x1) (O.mul x1 x1)) (O.mul x1 x1)) (O.sub (O.mul x1 (O.mul (O.add y1 y1) (O.add y1 y1))) (O.sub (O.add (O.add (O.add (O.add (O.add (O.add (O.add (O.add (O.mul (O.mul (O.mul x1 x1) x1) x1) (O.mul (O.mul (O.mul x1 x1) x1) x1)) (O.mul (O.mul (O.mul x1 x1) x1) x1)) (O.mul (O.mul (O.mul x1 x1) x1) x1)) (O.mul (O.mul (O.mul x1 x1) x1) x1)) (O.mul (O.mul (O.mul x1 x1) x1) x1)) (O.mul (O.mul (O.mul x1 x1) x1) x1)) (O.mul (O.mul (O.mul x1 x1) x1) x1)) (O.mul (O.mul (O.mul x1 x1) x1) x1)) (O.add (O.add (O.add (O.add (O.add (O.add (O.add (O.mul x1 (O.mul y1 y1)) (O.mul x1 (O.mul y1 y1))) (O.mul x1 (O.mul y1 y1))) (O.mul x1 (O.mul y1 y1))) (O.mul x1 (O.mul y1 y1))) (O.mul x1 (O.mul y1 y1))) (O.mul x1 (O.mul y1 y1))) (O.mul x1 (O.mul y1 y1)))))) (O.mul y1 (O.mul (O.mul (O.add y1 y1) (O.add y1 y1)) (O.add y1 y1))))) (O.add (O.mul (O.mul (O.sub (O.add (O.add (O.add (O.add (O.add (O.add (O.add (O.add (O.mul (O.mul (O.mul x1 x1) x1) x1) (O.mul (O.mul (O.mul x1 x1) x1) x1)) (O.mul (O.mul (O.mul x1 x1) x1) x1)) (O.mul (O.mul (O.mul x1 x1) x1) x1)) (O.mul (O.mul (O.mul x1 x1) x1) x1)) (O.mul (O.mul (O.mul x1 x1) x1) x1)) (O.mul (O.mul (O.mul x1 x1) x1) x1)) (O.mul (O.mul (O.mul x1 x1) x1) x1)) (O.mul (O.mul (O.mul x1 x1) x1) x1)) (O.add (O.add (O.add (O.add (O.add (O.add (O.add (O.mul x1 (O.mul y1 y1)) (O.mul x1 (O.mul y1 y1))) (O.mul x1 (O.mul y1 y1))) (O.mul x1 (O.mul y1 y1))) (O.mul x1 (O.mul y1 y1))) (O.mul x1 (O.mul y1 y1))) (O.mul x1 (O.mul y1 y1))) (O.mul x1 (O.mul y1 y1)))) (O.sub (O.add (O.add (O.add (O.add (O.add (O.add (O.add (O.add (O.mul (O.mul (O.mul x1 x1) x1) x1) (O.mul (O.mul (O.mul x1 x1) x1) x1)) (O.mul (O.mul (O.mul x1 x1) x1) x1)) (O.mul (O.mul (O.mul x1 x1) x1) x1)) (O.mul (O.mul (O.mul x1 x1) x1) x1)) (O.mul (O.mul (O.mul x1 x1) x1) x1)) (O.mul (O.mul (O.mul x1 x1) x1) x1)) (O.mul (O.mul (O.mul x1 x1) x1) x1)) (O.mul (O.mul (O.mul x1 x1) x1) x1)) (O.add (O.add (O.add (O.add (O.add (O.add (O.add (O.mul x1 (O.mul y1 y1)) (O.mul x1 (O.mul y1 y1))) (O.mul x1 (O.mul y1 y1))) (O.mul x1 (O.mul y1 y1))) (O.mul x1 (O.mul y1 y1))) (O.mul x1 (O.mul y1 y1))) (O.mul x1 (O.mul y1 y1))) (O.mul x1 (O.mul y1 y1))))) (O.sub (O.add (O.add (O.add (O.add (O.add (O.add (O.add (O.add (O.mul (O.mul (O.mul x1 x1) x1) x1) (O.mul (O.mul (O.mul x1 x1) x1) x1)) (O.mul (O.mul (O.mul x1 x1) x1) x1)) (O.mul (O.mul (O.mul x1 x1) x1) x1)) (O.mul (O.mul (O.mul x1 x1) x1) x1)) (O.mul (O.mul (O.mul x1 x1) x1) x1)) (O.mul (O.mul (O.mul x1 x1) x1) x1)) (O.mul (O.mul (O.mul x1 x1) x1) x1)) (O.mul (O.mul (O.mul x1 x1) x1) x1)) (O.add (O.add (O.add (O.add (O.add (O.add (O.add (O.mul x1 (O.mul y1 y1)) (O.mul x1 (O.mul y1 y1))) (O.mul x1 (O.mul y1 y1))) (O.mul x1 (O.mul y1 y1))) (O.mul x1 (O.mul y1 y1))) (O.mul x1 (O.mul y1 y1))) (O.mul x1 (O.mul y1 y1))) (O.mul x1 (O.mul y1 y1))))) (O.mul b (O.mul (O.mul (O.mul (O.mul (O.mul (O.add y1 y1) (O.add y1 y1)) (O.add y1 y1)) (O.add y1 y1)) (O.add y1 y1)) (O.add y1 y1))))),fun h _ _ _ _ _ _=>by simp only[h.add,h.mul,h.sub]⟩
theorem ZX:idDbC.Small:=by decide +kernel
theorem ZY:idDbC.Nought:=by decide +kernel
def idOpX:Id2:=⟨fun _ O o x1 y1 _ _ b=>(Cm O (O.add (O.add b b) b) (x1,y1,o) (x1,(O.sub (O.sub y1 y1) y1),o)).1,fun h _ _ _ _ _ _=>by simp only[h.add,h.sub,Q5 h]⟩
theorem ZZ:idOpX.Small:=by decide +kernel
theorem A00:idOpX.Nought:=by decide +kernel
def idOpZ:Id2:=⟨fun _ O o x1 y1 _ _ b=>(Cm O (O.add (O.add b b) b) (x1,y1,o) (x1,(O.sub (O.sub y1 y1) y1),o)).2.2,fun h _ _ _ _ _ _=>by simp only[h.add,h.sub,Gc h]⟩
theorem A01:idOpZ.Small:=by decide +kernel
theorem A02:idOpZ.Nought:=by decide +kernel
def idOpY:Id2:=⟨fun _ O o x1 y1 _ _ b=>(O.sub (O.mul (Cm O (O.add (O.add b b) b) (x1,y1,o) (x1,(O.sub (O.sub y1 y1) y1),o)).2.1 (Cm O (O.add (O.add b b) b) (x1,y1,o) (x1,(O.sub (O.sub y1 y1) y1),o)).2.1) (O.add (O.mul (O.mul (O.sub (O.add (O.add (O.add (O.add (O.add (O.add (O.add (O.add (O.mul (O.mul (O.mul x1 x1) x1) x1) (O.mul (O.mul (O.mul x1 x1) x1) x1)) (O.mul (O.mul (O.mul x1 x1) x1) x1)) (O.mul (O.mul (O.mul x1 x1) x1) x1)) (O.mul (O.mul (O.mul x1 x1) x1) x1)) (O.mul (O.mul (O.mul x1 x1) x1) x1)) (O.mul (O.mul (O.mul x1 x1) x1) x1)) (O.mul (O.mul (O.mul x1 x1) x1) x1)) (O.mul (O.mul (O.mul x1 x1) x1) x1)) (O.add (O.add (O.add (O.add (O.add (O.add (O.add (O.mul x1 (O.mul y1 y1)) (O.mul x1 (O.mul y1 y1))) (O.mul x1 (O.mul y1 y1))) (O.mul x1 (O.mul y1 y1))) (O.mul x1 (O.mul y1 y1))) (O.mul x1 (O.mul y1 y1))) (O.mul x1 (O.mul y1 y1))) (O.mul x1 (O.mul y1 y1)))) (O.sub (O.add (O.add (O.add (O.add (O.add (O.add (O.add (O.add (O.mul (O.mul (O.mul x1 x1) x1) x1) (O.mul (O.mul (O.mul x1 x1) x1) x1)) (O.mul (O.mul (O.mul x1 x1) x1) x1)) (O.mul (O.mul (O.mul x1 x1) x1) x1)) (O.mul (O.mul (O.mul x1 x1) x1) x1)) (O.mul (O.mul (O.mul x1 x1) x1) x1)) (O.mul (O.mul (O.mul x1 x1) x1) x1)) (O.mul (O.mul (O.mul x1 x1) x1) x1)) (O.mul (O.mul (O.mul x1 x1) x1) x1)) (O.add (O.add (O.add (O.add (O.add (O.add (O.add (O.mul x1 (O.mul y1 y1)) (O.mul x1 (O.mul y1 y1))) (O.mul x1 (O.mul y1 y1))) (O.mul x1 (O.mul y1 y1))) (O.mul x1 (O.mul y1 y1))) (O.mul x1 (O.mul y1 y1))) (O.mul x1 (O.mul y1 y1))) (O.mul x1 (O.mul y1 y1))))) (O.sub (O.add (O.add (O.add (O.add (O.add (O.add (O.add (O.add (O.mul (O.mul (O.mul x1 x1) x1) x1) (O.mul (O.mul (O.mul x1 x1) x1) x1)) (O.mul (O.mul (O.mul x1 x1) x1) x1)) (O.mul (O.mul (O.mul x1 x1) x1) x1)) (O.mul (O.mul (O.mul x1 x1) x1) x1)) (O.mul (O.mul (O.mul x1 x1) x1) x1)) (O.mul (O.mul (O.mul x1 x1) x1) x1)) (O.mul (O.mul (O.mul x1 x1) x1) x1)) (O.mul (O.mul (O.mul x1 x1) x1) x1)) (O.add (O.add (O.add (O.add (O.add (O.add (O.add (O.mul x1 (O.mul y1 y1)) (O.mul x1 (O.mul y1 y1))) (O.mul x1 (O.mul y1 y1))) (O.mul x1 (O.mul y1 y1))) (O.mul x1 (O.mul y1 y1))) (O.mul x1 (O.mul y1 y1))) (O.mul x1 (O.mul y1 y1))) (O.mul x1 (O.mul y1 y1))))) (O.mul b (O.mul (O.mul (O.mul (O.mul (O.mul (O.add y1 y1) (O.add y1 y1)) (O.add y1 y1)) (O.add y1 y1)) (O.add y1 y1)) (O.add y1 y1))))),fun h _ _ _ _ _ _=>by simp only[h.add,h.mul,h.sub,Q6 h]⟩
theorem A03:idOpY.Small:=by decide +kernel
theorem A04:idOpY.Nought:=by decide +kernel
end Go.Proofs.YtphafjbajlcbnaaGreat
