/- The group law of the curve y^2 = x^3 + b over a field in which x^3 + b has no root. (Cut to what is reached, written closely: EcSm · EcGrp.) -/
import Derived.Test.YtadfjjfklihaaaaGreatQ26
set_option linter.all false
set_option maxRecDepth 100000
set_option maxHeartbeats 8000000
namespace Go.Proofs.YtadfjjfklihaaaaGreat
structure Id2 where
 F:(R:Type)->Ops R->R->R->R->R->R->R->R
 hF:∀ {R S:Type} {O:Ops R} {P:Ops S} {f:R->S},Hom O P f->∀ o x1 y1 x2 y2 b,f (F R O o x1 y1 x2 y2 b)=F S P (f o) (f x1) (f y1) (f x2) (f y2) (f b)
def Id2.T(I:Id2){R:Type}(O:Ops R)(z o x1 x2 x3 b:R):T8 R:=I.F (T8 R) (topsC O z x1 x2 x3 b) (emb z o) (emb z x1) (yy1 z o) (emb z x2) (yy2 z o) (emb z b)
theorem Id2.T_map(I:Id2){R S:Type}{O:Ops R}{P:Ops S}{f:R->S}(h:Hom O P f)(z o x1 x2 x3 b:R):map8 f (I.T O z o x1 x2 x3 b)=I.T P (f z) (f o) (f x1) (f x2) (f x3) (f b):=by
 unfold Id2.T topsC;have hc:∀ x,f (cub O x b)=cub P (f x) (f b):=fun x=>by simp only[cub,h.add,h.mul]
 rw[I.hF (tops_map h _ _ _ _),hc,hc,hc];simp only[emb,yy1,yy2,map8,map2]
def dS:Mn:=(20,20,1,12)
def Id2.Small(I:Id2):Prop:=all8 (small dS (2^50)) (I.T ndOps (0,0,0,0,0) (1,0,0,0,0) (1,Mn.var 0) (1,Mn.var 1) (1,Mn.var 2) (1,Mn.var 3))
def Id2.Nought(I:Id2):Prop:=all8 (fun x=>x=0) (I.T intRing.ops 0 1 (kp (2^50) dS 0) (kp (2^50) dS 1) (kp (2^50) dS 2) (kp (2^50) dS 3))
instance (I:Id2):Decidable I.Small:=by unfold Id2.Small;exact inferInstance
instance (I:Id2):Decidable I.Nought:=by unfold Id2.Nought;exact inferInstance
theorem id2(I:Id2)(hs:I.Small)(hn:I.Nought){K:Type}(C:CRing K){b x1 y1 x2 y2:K}(h1:OnC C b x1 y1)(h2:OnC C b x2 y2):I.F K C.ops C.one x1 y1 x2 y2 b=C.zero:=by
 have hE:=ev8_hom C h1 h2 h1;have e:=I.T_map (hom_eval C (lets x1 x2 x1 b)) (.k 0) (.k 1) (.v 0) (.v 1) (.v 2) (.v 3);rw[eval_one]at e;have e':map8 (Ex.eval C (lets x1 x2 x1 b)) (I.T Ex.ops (.k 0) (.k 1) (.v 0) (.v 1) (.v 2) (.v 3))=I.T C.ops C.zero C.one x1 x2 x1 b:=e;have f:ev8 C y1 y2 y1 (I.T C.ops C.zero C.one x1 x2 x1 b)=I.F K C.ops C.one x1 y1 x2 y2 b:=by
  unfold Id2.T topsC;rw[I.hF hE];simp only[ev8_emb,ev8_y1,ev8_y2]
 rw[<- f,<- e'];unfold Id2.Small at hs;unfold Id2.Nought at hn;have es':map8 Ex.nd (I.T Ex.ops (.k 0) (.k 1) (.v 0) (.v 1) (.v 2) (.v 3))=I.T ndOps (0,0,0,0,0) (1,0,0,0,0) (1,Mn.var 0) (1,Mn.var 1) (1,Mn.var 2) (1,Mn.var 3):=I.T_map hom_nd (.k 0) (.k 1) (.v 0) (.v 1) (.v 2) (.v 3);have en':map8 (Ex.eval intRing (kp (2^50) dS)) (I.T Ex.ops (.k 0) (.k 1) (.v 0) (.v 1) (.v 2) (.v 3))=I.T intRing.ops 0 1 (kp (2^50) dS 0) (kp (2^50) dS 1) (kp (2^50) dS 2) (kp (2^50) dS 3):=I.T_map (hom_eval intRing (kp (2^50) dS)) (.k 0) (.k 1) (.v 0) (.v 1) (.v 2) (.v 3);rw[<- es']at hs;rw[<- en']at hn;exact ev8_nought C (d:=dS) (B:=2^50) (lets x1 x2 x1 b) y1 y2 y1 hs hn
theorem cadd_1{R S:Type}{O:Ops R}{P:Ops S}{f:R->S}(h:Hom O P f)(t a b c d e g:R):f (cadd O t (a,b,c) (d,e,g)).1=(cadd P (f t) (f a,f b,f c) (f d,f e,f g)).1:=congrArg Prod.fst (cadd_map h t (a,b,c) (d,e,g))
theorem cadd_2{R S:Type}{O:Ops R}{P:Ops S}{f:R->S}(h:Hom O P f)(t a b c d e g:R):f (cadd O t (a,b,c) (d,e,g)).2.1=(cadd P (f t) (f a,f b,f c) (f d,f e,f g)).2.1:=congrArg (fun x=>x.2.1) (cadd_map h t (a,b,c) (d,e,g))
theorem cadd_3{R S:Type}{O:Ops R}{P:Ops S}{f:R->S}(h:Hom O P f)(t a b c d e g:R):f (cadd O t (a,b,c) (d,e,g)).2.2=(cadd P (f t) (f a,f b,f c) (f d,f e,f g)).2.2:=congrArg (fun x=>x.2.2) (cadd_map h t (a,b,c) (d,e,g))
def idChX:Id2:=⟨fun _ O o x1 y1 x2 y2 b=>(O.sub (O.mul (cadd O (O.add (O.add b b) b) (x1,y1,o) (x2,y2,o)).1 (O.mul (O.sub x2 x1) (O.sub x2 x1))) (O.mul (cadd O (O.add (O.add b b) b) (x1,y1,o) (x2,y2,o)).2.2 (O.sub (O.mul (O.sub y2 y1) (O.sub y2 y1)) (O.mul (O.add x1 x2) (O.mul (O.sub x2 x1) (O.sub x2 x1)))))),fun h _ _ _ _ _ _=>by simp only[h.add,h.mul,h.sub,cadd_1 h,cadd_3 h]⟩
theorem idChX_s:idChX.Small:=by decide +kernel
theorem idChX_n:idChX.Nought:=by decide +kernel
def idChY:Id2:=⟨fun _ O o x1 y1 x2 y2 b=>(O.sub (O.mul (cadd O (O.add (O.add b b) b) (x1,y1,o) (x2,y2,o)).2.1 (O.mul (O.mul (O.sub x2 x1) (O.sub x2 x1)) (O.sub x2 x1))) (O.mul (cadd O (O.add (O.add b b) b) (x1,y1,o) (x2,y2,o)).2.2 (O.sub (O.mul (O.sub y2 y1) (O.sub (O.mul x1 (O.mul (O.sub x2 x1) (O.sub x2 x1))) (O.sub (O.mul (O.sub y2 y1) (O.sub y2 y1)) (O.mul (O.add x1 x2) (O.mul (O.sub x2 x1) (O.sub x2 x1)))))) (O.mul y1 (O.mul (O.mul (O.sub x2 x1) (O.sub x2 x1)) (O.sub x2 x1)))))),fun h _ _ _ _ _ _=>by simp only[h.add,h.mul,h.sub,cadd_2 h,cadd_3 h]⟩
theorem idChY_s:idChY.Small:=by decide +kernel
theorem idChY_n:idChY.Nought:=by decide +kernel
def idDiff:Id2:=⟨fun _ O o x1 y1 x2 y2 b=>(O.add (cadd O (O.add (O.add b b) b) (x1,y1,o) (x2,y2,o)).2.2 (O.add (O.mul (O.add y1 y2) (O.sub (O.mul (O.add (O.add x1 x1) x2) (O.mul (O.sub x2 x1) (O.sub x2 x1))) (O.mul (O.add y1 y2) (O.add y1 y2)))) (O.mul y1 (O.mul (O.mul (O.sub x2 x1) (O.sub x2 x1)) (O.sub x2 x1))))),fun h _ _ _ _ _ _=>by simp only[h.add,h.mul,h.sub,cadd_3 h]⟩
theorem idDiff_s:idDiff.Small:=by decide +kernel
theorem idDiff_n:idDiff.Nought:=by decide +kernel
def idDCl:Id2:=⟨fun _ O _ x1 y1 x2 y2 b=>(O.sub (O.mul (O.add (O.mul (O.add y1 y2) (O.sub (O.mul (O.add (O.add x1 x1) x2) (O.mul (O.sub x2 x1) (O.sub x2 x1))) (O.mul (O.add y1 y2) (O.add y1 y2)))) (O.mul y1 (O.mul (O.mul (O.sub x2 x1) (O.sub x2 x1)) (O.sub x2 x1)))) (O.add (O.mul (O.add y1 y2) (O.sub (O.mul (O.add (O.add x1 x1) x2) (O.mul (O.sub x2 x1) (O.sub x2 x1))) (O.mul (O.add y1 y2) (O.add y1 y2)))) (O.mul y1 (O.mul (O.mul (O.sub x2 x1) (O.sub x2 x1)) (O.sub x2 x1))))) (O.add (O.mul (O.mul (O.sub (O.mul (O.add y1 y2) (O.add y1 y2)) (O.mul (O.add x1 x2) (O.mul (O.sub x2 x1) (O.sub x2 x1)))) (O.sub (O.mul (O.add y1 y2) (O.add y1 y2)) (O.mul (O.add x1 x2) (O.mul (O.sub x2 x1) (O.sub x2 x1))))) (O.sub (O.mul (O.add y1 y2) (O.add y1 y2)) (O.mul (O.add x1 x2) (O.mul (O.sub x2 x1) (O.sub x2 x1))))) (O.mul b (O.mul (O.mul (O.mul (O.mul (O.mul (O.sub x2 x1) (O.sub x2 x1)) (O.sub x2 x1)) (O.sub x2 x1)) (O.sub x2 x1)) (O.sub x2 x1))))),fun h _ _ _ _ _ _=>by simp only[h.add,h.mul,h.sub]⟩
theorem idDCl_s:idDCl.Small:=by decide +kernel
theorem idDCl_n:idDCl.Nought:=by decide +kernel
def idClS:Id2:=⟨fun _ O _ x1 y1 x2 y2 b=>(O.sub (O.mul (O.sub (O.mul (O.sub y2 y1) (O.sub (O.mul x1 (O.mul (O.sub x2 x1) (O.sub x2 x1))) (O.sub (O.mul (O.sub y2 y1) (O.sub y2 y1)) (O.mul (O.add x1 x2) (O.mul (O.sub x2 x1) (O.sub x2 x1)))))) (O.mul y1 (O.mul (O.mul (O.sub x2 x1) (O.sub x2 x1)) (O.sub x2 x1)))) (O.sub (O.mul (O.sub y2 y1) (O.sub (O.mul x1 (O.mul (O.sub x2 x1) (O.sub x2 x1))) (O.sub (O.mul (O.sub y2 y1) (O.sub y2 y1)) (O.mul (O.add x1 x2) (O.mul (O.sub x2 x1) (O.sub x2 x1)))))) (O.mul y1 (O.mul (O.mul (O.sub x2 x1) (O.sub x2 x1)) (O.sub x2 x1))))) (O.add (O.mul (O.mul (O.sub (O.mul (O.sub y2 y1) (O.sub y2 y1)) (O.mul (O.add x1 x2) (O.mul (O.sub x2 x1) (O.sub x2 x1)))) (O.sub (O.mul (O.sub y2 y1) (O.sub y2 y1)) (O.mul (O.add x1 x2) (O.mul (O.sub x2 x1) (O.sub x2 x1))))) (O.sub (O.mul (O.sub y2 y1) (O.sub y2 y1)) (O.mul (O.add x1 x2) (O.mul (O.sub x2 x1) (O.sub x2 x1))))) (O.mul b (O.mul (O.mul (O.mul (O.mul (O.mul (O.sub x2 x1) (O.sub x2 x1)) (O.sub x2 x1)) (O.sub x2 x1)) (O.sub x2 x1)) (O.sub x2 x1))))),fun h _ _ _ _ _ _=>by simp only[h.add,h.mul,h.sub]⟩
theorem idClS_s:idClS.Small:=by decide +kernel
theorem idClS_n:idClS.Nought:=by decide +kernel
def idDbZ:Id2:=⟨fun _ O o x1 y1 _ _ b=>(O.sub (cadd O (O.add (O.add b b) b) (x1,y1,o) (x1,y1,o)).2.2 (O.add (O.add (O.add (O.add (O.add (O.add (O.add (O.mul (O.mul y1 y1) y1) (O.mul (O.mul y1 y1) y1)) (O.mul (O.mul y1 y1) y1)) (O.mul (O.mul y1 y1) y1)) (O.mul (O.mul y1 y1) y1)) (O.mul (O.mul y1 y1) y1)) (O.mul (O.mul y1 y1) y1)) (O.mul (O.mul y1 y1) y1))),fun h _ _ _ _ _ _=>by simp only[h.add,h.mul,h.sub,cadd_3 h]⟩
theorem idDbZ_s:idDbZ.Small:=by decide +kernel
theorem idDbZ_n:idDbZ.Nought:=by decide +kernel
def idDbX:Id2:=⟨fun _ O o x1 y1 _ _ b=>(O.sub (O.mul (cadd O (O.add (O.add b b) b) (x1,y1,o) (x1,y1,o)).1 (O.mul (O.add y1 y1) (O.add y1 y1))) (O.mul (cadd O (O.add (O.add b b) b) (x1,y1,o) (x1,y1,o)).2.2 (O.sub (O.add (O.add (O.add (O.add (O.add (O.add (O.add (O.add (O.mul (O.mul (O.mul x1 x1) x1) x1) (O.mul (O.mul (O.mul x1 x1) x1) x1)) (O.mul (O.mul (O.mul x1 x1) x1) x1)) (O.mul (O.mul (O.mul x1 x1) x1) x1)) (O.mul (O.mul (O.mul x1 x1) x1) x1)) (O.mul (O.mul (O.mul x1 x1) x1) x1)) (O.mul (O.mul (O.mul x1 x1) x1) x1)) (O.mul (O.mul (O.mul x1 x1) x1) x1)) (O.mul (O.mul (O.mul x1 x1) x1) x1)) (O.add (O.add (O.add (O.add (O.add (O.add (O.add (O.mul x1 (O.mul y1 y1)) (O.mul x1 (O.mul y1 y1))) (O.mul x1 (O.mul y1 y1))) (O.mul x1 (O.mul y1 y1))) (O.mul x1 (O.mul y1 y1))) (O.mul x1 (O.mul y1 y1))) (O.mul x1 (O.mul y1 y1))) (O.mul x1 (O.mul y1 y1)))))),fun h _ _ _ _ _ _=>by simp only[h.add,h.mul,h.sub,cadd_1 h,cadd_3 h]⟩
theorem idDbX_s:idDbX.Small:=by decide +kernel
theorem idDbX_n:idDbX.Nought:=by decide +kernel
def idDbY:Id2:=⟨fun _ O o x1 y1 _ _ b=>(O.sub (O.mul (cadd O (O.add (O.add b b) b) (x1,y1,o) (x1,y1,o)).2.1 (O.mul (O.mul (O.add y1 y1) (O.add y1 y1)) (O.add y1 y1))) (O.mul (cadd O (O.add (O.add b b) b) (x1,y1,o) (x1,y1,o)).2.2 (O.sub (O.mul (O.add (O.add (O.mul x1 x1) (O.mul x1 x1)) (O.mul x1 x1)) (O.sub (O.mul x1 (O.mul (O.add y1 y1) (O.add y1 y1))) (O.sub (O.add (O.add (O.add (O.add (O.add (O.add (O.add (O.add (O.mul (O.mul (O.mul x1 x1) x1) x1) (O.mul (O.mul (O.mul x1 x1) x1) x1)) (O.mul (O.mul (O.mul x1 x1) x1) x1)) (O.mul (O.mul (O.mul x1 x1) x1) x1)) (O.mul (O.mul (O.mul x1 x1) x1) x1)) (O.mul (O.mul (O.mul x1 x1) x1) x1)) (O.mul (O.mul (O.mul x1 x1) x1) x1)) (O.mul (O.mul (O.mul x1 x1) x1) x1)) (O.mul (O.mul (O.mul x1 x1) x1) x1)) (O.add (O.add (O.add (O.add (O.add (O.add (O.add (O.mul x1 (O.mul y1 y1)) (O.mul x1 (O.mul y1 y1))) (O.mul x1 (O.mul y1 y1))) (O.mul x1 (O.mul y1 y1))) (O.mul x1 (O.mul y1 y1))) (O.mul x1 (O.mul y1 y1))) (O.mul x1 (O.mul y1 y1))) (O.mul x1 (O.mul y1 y1)))))) (O.mul y1 (O.mul (O.mul (O.add y1 y1) (O.add y1 y1)) (O.add y1 y1)))))),fun h _ _ _ _ _ _=>by simp only[h.add,h.mul,h.sub,cadd_2 h,cadd_3 h]⟩
theorem idDbY_s:idDbY.Small:=by decide +kernel
theorem idDbY_n:idDbY.Nought:=by decide +kernel
def idDbC:Id2:=⟨fun _ O _ x1 y1 _ _ b=>(O.sub (O.mul (O.sub (O.mul (O.add (O.add (O.mul x1 x1) (O.mul x1 x1)) (O.mul x1 x1)) (O.sub (O.mul x1 (O.mul (O.add y1 y1) (O.add y1 y1))) (O.sub (O.add (O.add (O.add (O.add (O.add (O.add (O.add (O.add (O.mul (O.mul (O.mul x1 x1) x1) x1) (O.mul (O.mul (O.mul x1 x1) x1) x1)) (O.mul (O.mul (O.mul x1 x1) x1) x1)) (O.mul (O.mul (O.mul x1 x1) x1) x1)) (O.mul (O.mul (O.mul x1 x1) x1) x1)) (O.mul (O.mul (O.mul x1 x1) x1) x1)) (O.mul (O.mul (O.mul x1 x1) x1) x1)) (O.mul (O.mul (O.mul x1 x1) x1) x1)) (O.mul (O.mul (O.mul x1 x1) x1) x1)) (O.add (O.add (O.add (O.add (O.add (O.add (O.add (O.mul x1 (O.mul y1 y1)) (O.mul x1 (O.mul y1 y1))) (O.mul x1 (O.mul y1 y1))) (O.mul x1 (O.mul y1 y1))) (O.mul x1 (O.mul y1 y1))) (O.mul x1 (O.mul y1 y1))) (O.mul x1 (O.mul y1 y1))) (O.mul x1 (O.mul y1 y1)))))) (O.mul y1 (O.mul (O.mul (O.add y1 y1) (O.add y1 y1)) (O.add y1 y1)))) (O.sub (O.mul (O.add (O.add (O.mul x1 x1) (O.mul x1 x1)) (O.mul x1 x1)) (O.sub (O.mul x1 (O.mul (O.add y1 y1) (O.add y1 y1))) (O.sub (O.add (O.add (O.add (O.add (O.add (O.add (O.add (O.add (O.mul (O.mul (O.mul x1 x1) x1) x1) (O.mul (O.mul (O.mul x1 x1) x1) x1)) (O.mul (O.mul (O.mul x1 x1) x1) x1)) (O.mul (O.mul (O.mul x1 x1) x1) x1)) (O.mul (O.mul (O.mul x1 x1) x1) x1)) (O.mul (O.mul (O.mul x1 x1) x1) x1)) (O.mul (O.mul (O.mul x1 x1) x1) x1)) (O.mul (O.mul (O.mul x1 x1) x1) x1)) (O.mul (O.mul (O.mul x1 x1) x1) x1)) (O.add (O.add (O.add (O.add (O.add (O.add (O.add (O.mul x1 (O.mul y1 y1)) (O.mul x1 (O.mul y1 y1))) (O.mul x1 (O.mul y1 y1))) (O.mul x1 (O.mul y1 y1))) (O.mul x1 (O.mul y1 y1))) (O.mul x1 (O.mul y1 y1))) (O.mul x1 (O.mul y1 y1))) (O.mul x1 (O.mul y1 y1)))))) (O.mul y1 (O.mul (O.mul (O.add y1 y1) (O.add y1 y1)) (O.add y1 y1))))) (O.add (O.mul (O.mul (O.sub (O.add (O.add (O.add (O.add (O.add (O.add (O.add (O.add (O.mul (O.mul (O.mul x1 x1) x1) x1) (O.mul (O.mul (O.mul x1 x1) x1) x1)) (O.mul (O.mul (O.mul x1 x1) x1) x1)) (O.mul (O.mul (O.mul x1 x1) x1) x1)) (O.mul (O.mul (O.mul x1 x1) x1) x1)) (O.mul (O.mul (O.mul x1 x1) x1) x1)) (O.mul (O.mul (O.mul x1 x1) x1) x1)) (O.mul (O.mul (O.mul x1 x1) x1) x1)) (O.mul (O.mul (O.mul x1 x1) x1) x1)) (O.add (O.add (O.add (O.add (O.add (O.add (O.add (O.mul x1 (O.mul y1 y1)) (O.mul x1 (O.mul y1 y1))) (O.mul x1 (O.mul y1 y1))) (O.mul x1 (O.mul y1 y1))) (O.mul x1 (O.mul y1 y1))) (O.mul x1 (O.mul y1 y1))) (O.mul x1 (O.mul y1 y1))) (O.mul x1 (O.mul y1 y1)))) (O.sub (O.add (O.add (O.add (O.add (O.add (O.add (O.add (O.add (O.mul (O.mul (O.mul x1 x1) x1) x1) (O.mul (O.mul (O.mul x1 x1) x1) x1)) (O.mul (O.mul (O.mul x1 x1) x1) x1)) (O.mul (O.mul (O.mul x1 x1) x1) x1)) (O.mul (O.mul (O.mul x1 x1) x1) x1)) (O.mul (O.mul (O.mul x1 x1) x1) x1)) (O.mul (O.mul (O.mul x1 x1) x1) x1)) (O.mul (O.mul (O.mul x1 x1) x1) x1)) (O.mul (O.mul (O.mul x1 x1) x1) x1)) (O.add (O.add (O.add (O.add (O.add (O.add (O.add (O.mul x1 (O.mul y1 y1)) (O.mul x1 (O.mul y1 y1))) (O.mul x1 (O.mul y1 y1))) (O.mul x1 (O.mul y1 y1))) (O.mul x1 (O.mul y1 y1))) (O.mul x1 (O.mul y1 y1))) (O.mul x1 (O.mul y1 y1))) (O.mul x1 (O.mul y1 y1))))) (O.sub (O.add (O.add (O.add (O.add (O.add (O.add (O.add (O.add (O.mul (O.mul (O.mul x1 x1) x1) x1) (O.mul (O.mul (O.mul x1 x1) x1) x1)) (O.mul (O.mul (O.mul x1 x1) x1) x1)) (O.mul (O.mul (O.mul x1 x1) x1) x1)) (O.mul (O.mul (O.mul x1 x1) x1) x1)) (O.mul (O.mul (O.mul x1 x1) x1) x1)) (O.mul (O.mul (O.mul x1 x1) x1) x1)) (O.mul (O.mul (O.mul x1 x1) x1) x1)) (O.mul (O.mul (O.mul x1 x1) x1) x1)) (O.add (O.add (O.add (O.add (O.add (O.add (O.add (O.mul x1 (O.mul y1 y1)) (O.mul x1 (O.mul y1 y1))) (O.mul x1 (O.mul y1 y1))) (O.mul x1 (O.mul y1 y1))) (O.mul x1 (O.mul y1 y1))) (O.mul x1 (O.mul y1 y1))) (O.mul x1 (O.mul y1 y1))) (O.mul x1 (O.mul y1 y1))))) (O.mul b (O.mul (O.mul (O.mul (O.mul (O.mul (O.add y1 y1) (O.add y1 y1)) (O.add y1 y1)) (O.add y1 y1)) (O.add y1 y1)) (O.add y1 y1))))),fun h _ _ _ _ _ _=>by simp only[h.add,h.mul,h.sub]⟩
theorem idDbC_s:idDbC.Small:=by decide +kernel
theorem idDbC_n:idDbC.Nought:=by decide +kernel
def idOpX:Id2:=⟨fun _ O o x1 y1 _ _ b=>(cadd O (O.add (O.add b b) b) (x1,y1,o) (x1,(O.sub (O.sub y1 y1) y1),o)).1,fun h _ _ _ _ _ _=>by simp only[h.add,h.sub,cadd_1 h]⟩
theorem idOpX_s:idOpX.Small:=by decide +kernel
theorem idOpX_n:idOpX.Nought:=by decide +kernel
def idOpZ:Id2:=⟨fun _ O o x1 y1 _ _ b=>(cadd O (O.add (O.add b b) b) (x1,y1,o) (x1,(O.sub (O.sub y1 y1) y1),o)).2.2,fun h _ _ _ _ _ _=>by simp only[h.add,h.sub,cadd_3 h]⟩
theorem idOpZ_s:idOpZ.Small:=by decide +kernel
theorem idOpZ_n:idOpZ.Nought:=by decide +kernel
def idOpY:Id2:=⟨fun _ O o x1 y1 _ _ b=>(O.sub (O.mul (cadd O (O.add (O.add b b) b) (x1,y1,o) (x1,(O.sub (O.sub y1 y1) y1),o)).2.1 (cadd O (O.add (O.add b b) b) (x1,y1,o) (x1,(O.sub (O.sub y1 y1) y1),o)).2.1) (O.add (O.mul (O.mul (O.sub (O.add (O.add (O.add (O.add (O.add (O.add (O.add (O.add (O.mul (O.mul (O.mul x1 x1) x1) x1) (O.mul (O.mul (O.mul x1 x1) x1) x1)) (O.mul (O.mul (O.mul x1 x1) x1) x1)) (O.mul (O.mul (O.mul x1 x1) x1) x1)) (O.mul (O.mul (O.mul x1 x1) x1) x1)) (O.mul (O.mul (O.mul x1 x1) x1) x1)) (O.mul (O.mul (O.mul x1 x1) x1) x1)) (O.mul (O.mul (O.mul x1 x1) x1) x1)) (O.mul (O.mul (O.mul x1 x1) x1) x1)) (O.add (O.add (O.add (O.add (O.add (O.add (O.add (O.mul x1 (O.mul y1 y1)) (O.mul x1 (O.mul y1 y1))) (O.mul x1 (O.mul y1 y1))) (O.mul x1 (O.mul y1 y1))) (O.mul x1 (O.mul y1 y1))) (O.mul x1 (O.mul y1 y1))) (O.mul x1 (O.mul y1 y1))) (O.mul x1 (O.mul y1 y1)))) (O.sub (O.add (O.add (O.add (O.add (O.add (O.add (O.add (O.add (O.mul (O.mul (O.mul x1 x1) x1) x1) (O.mul (O.mul (O.mul x1 x1) x1) x1)) (O.mul (O.mul (O.mul x1 x1) x1) x1)) (O.mul (O.mul (O.mul x1 x1) x1) x1)) (O.mul (O.mul (O.mul x1 x1) x1) x1)) (O.mul (O.mul (O.mul x1 x1) x1) x1)) (O.mul (O.mul (O.mul x1 x1) x1) x1)) (O.mul (O.mul (O.mul x1 x1) x1) x1)) (O.mul (O.mul (O.mul x1 x1) x1) x1)) (O.add (O.add (O.add (O.add (O.add (O.add (O.add (O.mul x1 (O.mul y1 y1)) (O.mul x1 (O.mul y1 y1))) (O.mul x1 (O.mul y1 y1))) (O.mul x1 (O.mul y1 y1))) (O.mul x1 (O.mul y1 y1))) (O.mul x1 (O.mul y1 y1))) (O.mul x1 (O.mul y1 y1))) (O.mul x1 (O.mul y1 y1))))) (O.sub (O.add (O.add (O.add (O.add (O.add (O.add (O.add (O.add (O.mul (O.mul (O.mul x1 x1) x1) x1) (O.mul (O.mul (O.mul x1 x1) x1) x1)) (O.mul (O.mul (O.mul x1 x1) x1) x1)) (O.mul (O.mul (O.mul x1 x1) x1) x1)) (O.mul (O.mul (O.mul x1 x1) x1) x1)) (O.mul (O.mul (O.mul x1 x1) x1) x1)) (O.mul (O.mul (O.mul x1 x1) x1) x1)) (O.mul (O.mul (O.mul x1 x1) x1) x1)) (O.mul (O.mul (O.mul x1 x1) x1) x1)) (O.add (O.add (O.add (O.add (O.add (O.add (O.add (O.mul x1 (O.mul y1 y1)) (O.mul x1 (O.mul y1 y1))) (O.mul x1 (O.mul y1 y1))) (O.mul x1 (O.mul y1 y1))) (O.mul x1 (O.mul y1 y1))) (O.mul x1 (O.mul y1 y1))) (O.mul x1 (O.mul y1 y1))) (O.mul x1 (O.mul y1 y1))))) (O.mul b (O.mul (O.mul (O.mul (O.mul (O.mul (O.add y1 y1) (O.add y1 y1)) (O.add y1 y1)) (O.add y1 y1)) (O.add y1 y1)) (O.add y1 y1))))),fun h _ _ _ _ _ _=>by simp only[h.add,h.mul,h.sub,cadd_2 h]⟩
theorem idOpY_s:idOpY.Small:=by decide +kernel
theorem idOpY_n:idOpY.Nought:=by decide +kernel
structure CField (K:Type) extends CRing K where
 inv:K->K
 mul_inv:∀ a,a≠zero->mul a (inv a)=one
 one_ne:one≠zero
theorem ring4{K:Type}(C:CRing K)(r:Nat->K)(e1 e2:Ex)(h:small (12,12,12,12) (2^30) (Ex.sub e1 e2).nd/\(Ex.sub e1 e2).eval intRing (kp (2^30) (12,12,12,12))=0):e1.eval C r=e2.eval C r :=
 C.eq_of_sub (kron_small C r _ _ (Ex.sub e1 e2) h.1 h.2)
namespace CField
variable {K:Type} (F:CField K)
theorem cancel{a b d:K}(hd:d≠F.zero)(h:F.mul a d=F.mul b d):a=b:=by
 have h2:=congrArg (fun x=>F.mul x (F.inv d)) h;simp only[F.mul_assoc,F.mul_inv d hd,F.mul_one]at h2;exact h2
theorem mul_ne{a b:K}(ha:a≠F.zero)(hb:b≠F.zero):F.mul a b≠F.zero:=fun h=>ha (F.cancel hb (by rw[h,F.zero_mul]))
theorem left_zero{a b:K}(hb:b≠F.zero)(h:F.mul a b=F.zero):a=F.zero:=F.cancel hb (by rw[h,F.zero_mul])
theorem div_mul(a:K){d:K}(hd:d≠F.zero):F.mul (F.mul a (F.inv d)) d=a:=by rw[F.mul_assoc,F.mul_comm (F.inv d),F.mul_inv d hd,F.mul_one]
end CField
inductive Pt (K:Type)
 | none
 | some (x y:K)
section
variable {K:Type} (F:CField K) (b:K)
def Pt.On:Pt K->Prop
 | .none=>True
 | .some x y=>OnC F.toCRing b x y
def lineTo(x1 y1 x2 s:K):Pt K:=.some (F.sub (F.sub (F.mul s s) x1) x2) (F.sub (F.mul s (F.sub x1 (F.sub (F.sub (F.mul s s) x1) x2))) y1)
def psum[DecidableEq K]:Pt K->Pt K->Pt K
 | .none,q=>q
 | p,.none=>p
 | .some x1 y1,.some x2 y2 =>
  if x1=x2 then (if y1≠y2\/y1=F.zero then .none else lineTo F x1 y1 x2 (F.mul (F.add (F.mul x1 x1) (F.add (F.mul x1 x1) (F.mul x1 x1))) (F.inv (F.add y1 y1))))
  else lineTo F x1 y1 x2 (F.mul (F.sub y2 y1) (F.inv (F.sub x2 x1)))
def Pt.emb:Pt K->K × K × K
 | .none=>(F.zero,F.one,F.zero)
 | .some x y=>(x,y,F.one)
def Rep(T:K × K × K):Pt K->Prop
 | .none=>T.1=F.zero/\T.2.2=F.zero/\T.2.1≠F.zero
 | .some x y=>T.2.2≠F.zero/\T.1=F.mul x T.2.2/\T.2.1=F.mul y T.2.2
def tsum(T U:K × K × K):K × K × K:=cadd F.ops (F.add (F.add b b) b) T U
end
section
variable {K:Type} {F:CField K} {b:K}
def idW{K:Type}(F:CField K)(x1 y1 x2 y2:K):K:=(F.add (F.mul (F.add y1 y2) (F.sub (F.mul (F.add (F.add x1 x1) x2) (F.mul (F.sub x2 x1) (F.sub x2 x1))) (F.mul (F.add y1 y2) (F.add y1 y2)))) (F.mul y1 (F.mul (F.mul (F.sub x2 x1) (F.sub x2 x1)) (F.sub x2 x1))))
def idXD{K:Type}(F:CField K)(x1 y1 x2 y2:K):K:=(F.sub (F.mul (F.add y1 y2) (F.add y1 y2)) (F.mul (F.add x1 x2) (F.mul (F.sub x2 x1) (F.sub x2 x1))))
theorem ne_sub(C:CRing K){x1 x2:K}(h:x1≠x2):C.sub x2 x1≠C.zero:=fun e=>h (C.eq_of_sub e).symm
theorem r1(C:CRing K)(s dx sx:K):(C.sub (C.mul (C.mul s dx) (C.mul s dx)) (C.mul sx (C.mul dx dx)))=(C.mul (C.sub (C.mul s s) sx) (C.mul dx dx)):=ring4 C (lets s dx sx C.zero) (.sub (.mul (.mul (.v 0) (.v 1)) (.mul (.v 0) (.v 1))) (.mul (.v 2) (.mul (.v 1) (.v 1)))) (.mul (.sub (.mul (.v 0) (.v 0)) (.v 2)) (.mul (.v 1) (.v 1))) (by decide +kernel)
theorem r2(C:CRing K)(a x1 x2:K):(C.sub a (C.add x1 x2))=(C.sub (C.sub a x1) x2):=ring4 C (lets a x1 x2 C.zero) (.sub (.v 0) (.add (.v 1) (.v 2))) (.sub (.sub (.v 0) (.v 1)) (.v 2)) (by decide +kernel)
theorem r3(C:CRing K)(Z X D:K):C.mul Z (C.mul X D)=C.mul (C.mul X Z) D:=by rw[<- C.mul_assoc,C.mul_comm Z X]
theorem r4(C:CRing K)(s dx m y1:K):(C.sub (C.mul (C.mul s dx) (C.mul m (C.mul dx dx))) (C.mul y1 (C.mul (C.mul dx dx) dx)))=(C.mul (C.sub (C.mul s m) y1) (C.mul (C.mul dx dx) dx)):=ring4 C (lets s dx m y1) (.sub (.mul (.mul (.v 0) (.v 1)) (.mul (.v 2) (.mul (.v 1) (.v 1)))) (.mul (.v 3) (.mul (.mul (.v 1) (.v 1)) (.v 1)))) (.mul (.sub (.mul (.v 0) (.v 2)) (.v 3)) (.mul (.mul (.v 1) (.v 1)) (.v 1))) (by decide +kernel)
theorem r5(C:CRing K)(x1 X D:K):(C.sub (C.mul x1 D) (C.mul X D))=(C.mul (C.sub x1 X) D):=ring4 C (lets x1 X D C.zero) (.sub (.mul (.v 0) (.v 2)) (.mul (.v 1) (.v 2))) (.mul (.sub (.v 0) (.v 1)) (.v 2)) (by decide +kernel)
theorem r6(C:CRing K)(u d b:K):(C.add (C.mul (C.mul (C.mul u (C.mul d d)) (C.mul u (C.mul d d))) (C.mul u (C.mul d d))) (C.mul b (C.mul (C.mul (C.mul (C.mul (C.mul d d) d) d) d) d)))=(C.mul (C.add (C.mul (C.mul u u) u) b) (C.mul (C.mul (C.mul (C.mul (C.mul d d) d) d) d) d)):=ring4 C (lets u d b C.zero) (.add (.mul (.mul (.mul (.v 0) (.mul (.v 1) (.v 1))) (.mul (.v 0) (.mul (.v 1) (.v 1)))) (.mul (.v 0) (.mul (.v 1) (.v 1)))) (.mul (.v 2) (.mul (.mul (.mul (.mul (.mul (.v 1) (.v 1)) (.v 1)) (.v 1)) (.v 1)) (.v 1)))) (.mul (.add (.mul (.mul (.v 0) (.v 0)) (.v 0)) (.v 2)) (.mul (.mul (.mul (.mul (.mul (.v 1) (.v 1)) (.v 1)) (.v 1)) (.v 1)) (.v 1))) (by decide +kernel)
theorem r7(C:CRing K)(v d:K):(C.mul (C.mul v (C.mul (C.mul d d) d)) (C.mul v (C.mul (C.mul d d) d)))=(C.mul (C.mul v v) (C.mul (C.mul (C.mul (C.mul (C.mul d d) d) d) d) d)):=ring4 C (lets v d C.zero C.zero) (.mul (.mul (.v 0) (.mul (.mul (.v 1) (.v 1)) (.v 1))) (.mul (.v 0) (.mul (.mul (.v 1) (.v 1)) (.v 1)))) (.mul (.mul (.v 0) (.v 0)) (.mul (.mul (.mul (.mul (.mul (.v 1) (.v 1)) (.v 1)) (.v 1)) (.v 1)) (.v 1))) (by decide +kernel)
theorem chord{x1 y1 x2 y2:K}(hb:∀ x,cub F.ops x b≠F.zero)(h1:OnC F.toCRing b x1 y1)(h2:OnC F.toCRing b x2 y2)(hne:x1≠x2) :
  Rep F (tsum F b (x1,y1,F.one) (x2,y2,F.one)) (lineTo F x1 y1 x2 (F.mul (F.sub y2 y1) (F.inv (F.sub x2 x1))))/\(lineTo F x1 y1 x2 (F.mul (F.sub y2 y1) (F.inv (F.sub x2 x1)))).On F b:=by
 have hX:=id2 idChX idChX_s idChX_n F.toCRing h1 h2;have hY:=id2 idChY idChY_s idChY_n F.toCRing h1 h2;have hD:=id2 idDiff idDiff_s idDiff_n F.toCRing h1 h2;have hW:=id2 idDCl idDCl_s idDCl_n F.toCRing h1 h2;have hC:=id2 idClS idClS_s idClS_n F.toCRing h1 h2;have hdx:=ne_sub F.toCRing hne;have hs:=F.div_mul (F.sub y2 y1) hdx;obtain⟨s,es⟩:∃ s,F.mul (F.sub y2 y1) (F.inv (F.sub x2 x1))=s:=⟨_,rfl⟩
 rw[es]at hs |-
 obtain⟨S,eS⟩:∃ S,tsum F b (x1,y1,F.one) (x2,y2,F.one)=S:=⟨_,rfl⟩
 have hX':F.sub (F.mul S.1 (F.mul (F.sub x2 x1) (F.sub x2 x1))) (F.mul S.2.2 (F.sub (F.mul (F.sub y2 y1) (F.sub y2 y1)) (F.mul (F.add x1 x2) (F.mul (F.sub x2 x1) (F.sub x2 x1)))))=F.zero:=by rw[<- eS];exact hX
 have hY':F.sub (F.mul S.2.1 (F.mul (F.mul (F.sub x2 x1) (F.sub x2 x1)) (F.sub x2 x1))) (F.mul S.2.2 (F.sub (F.mul (F.sub y2 y1) (F.sub (F.mul x1 (F.mul (F.sub x2 x1) (F.sub x2 x1))) (F.sub (F.mul (F.sub y2 y1) (F.sub y2 y1)) (F.mul (F.add x1 x2) (F.mul (F.sub x2 x1) (F.sub x2 x1)))))) (F.mul y1 (F.mul (F.mul (F.sub x2 x1) (F.sub x2 x1)) (F.sub x2 x1)))))=F.zero:=by rw[<- eS];exact hY
 have hC':F.sub (F.mul (F.sub (F.mul (F.sub y2 y1) (F.sub (F.mul x1 (F.mul (F.sub x2 x1) (F.sub x2 x1))) (F.sub (F.mul (F.sub y2 y1) (F.sub y2 y1)) (F.mul (F.add x1 x2) (F.mul (F.sub x2 x1) (F.sub x2 x1)))))) (F.mul y1 (F.mul (F.mul (F.sub x2 x1) (F.sub x2 x1)) (F.sub x2 x1)))) (F.sub (F.mul (F.sub y2 y1) (F.sub (F.mul x1 (F.mul (F.sub x2 x1) (F.sub x2 x1))) (F.sub (F.mul (F.sub y2 y1) (F.sub y2 y1)) (F.mul (F.add x1 x2) (F.mul (F.sub x2 x1) (F.sub x2 x1)))))) (F.mul y1 (F.mul (F.mul (F.sub x2 x1) (F.sub x2 x1)) (F.sub x2 x1))))) (F.add (F.mul (F.mul (F.sub (F.mul (F.sub y2 y1) (F.sub y2 y1)) (F.mul (F.add x1 x2) (F.mul (F.sub x2 x1) (F.sub x2 x1)))) (F.sub (F.mul (F.sub y2 y1) (F.sub y2 y1)) (F.mul (F.add x1 x2) (F.mul (F.sub x2 x1) (F.sub x2 x1))))) (F.sub (F.mul (F.sub y2 y1) (F.sub y2 y1)) (F.mul (F.add x1 x2) (F.mul (F.sub x2 x1) (F.sub x2 x1))))) (F.mul b (F.mul (F.mul (F.mul (F.mul (F.mul (F.sub x2 x1) (F.sub x2 x1)) (F.sub x2 x1)) (F.sub x2 x1)) (F.sub x2 x1)) (F.sub x2 x1))))=F.zero:=hC
 -- the third number is not nought
 have hZ:S.2.2≠F.zero:=fun e=>by
  have hD':F.add S.2.2 (idW F x1 y1 x2 y2)=F.zero:=by rw[<- eS];exact hD
  rw[e,F.zero_add]at hD';have hW':F.sub (F.mul (idW F x1 y1 x2 y2) (idW F x1 y1 x2 y2)) (F.add (F.mul (F.mul (idXD F x1 y1 x2 y2) (idXD F x1 y1 x2 y2)) (idXD F x1 y1 x2 y2)) (F.mul b (F.mul (F.mul (F.mul (F.mul (F.mul (F.sub x2 x1) (F.sub x2 x1)) (F.sub x2 x1)) (F.sub x2 x1)) (F.sub x2 x1)) (F.sub x2 x1))))=F.zero:=hW;have h3:=F.eq_of_sub hW';rw[hD',F.zero_mul]at h3;have hu:=F.div_mul (idXD F x1 y1 x2 y2) (F.mul_ne hdx hdx);obtain⟨u,eu⟩:∃ u,F.mul (idXD F x1 y1 x2 y2) (F.inv (F.mul (F.sub x2 x1) (F.sub x2 x1)))=u:=⟨_,rfl⟩
  rw[eu]at hu;rw[<- hu,r6]at h3;have hd6:F.mul (F.mul (F.mul (F.mul (F.mul (F.sub x2 x1) (F.sub x2 x1)) (F.sub x2 x1)) (F.sub x2 x1)) (F.sub x2 x1)) (F.sub x2 x1)≠F.zero:=F.mul_ne (F.mul_ne (F.mul_ne (F.mul_ne (F.mul_ne hdx hdx) hdx) hdx) hdx) hdx;exact hb u (F.left_zero hd6 h3.symm)
 rw[eS];generalize F.sub x2 x1=dx at *;rw[<- hs]at hX' hY' hC';rw[r1,r2 F.toCRing (F.mul s s) x1 x2]at hX' hY' hC';rw[r5,r4]at hY' hC';rw[r7]at hC';have hC2:=F.eq_of_sub hC';rw[r6]at hC2;have hd6:F.mul (F.mul (F.mul (F.mul (F.mul dx dx) dx) dx) dx) dx≠F.zero:=F.mul_ne (F.mul_ne (F.mul_ne (F.mul_ne (F.mul_ne hdx hdx) hdx) hdx) hdx) hdx;refine⟨⟨hZ,?_,?_⟩,?_⟩
 ·have h:=F.eq_of_sub hX'
  exact F.cancel (F.mul_ne hdx hdx) (h.trans (r3 F.toCRing _ _ _))
 ·have h:=F.eq_of_sub hY'
  exact F.cancel (F.mul_ne (F.mul_ne hdx hdx) hdx) (h.trans (r3 F.toCRing _ _ _))
 ·exact F.cancel hd6 hC2
theorem r8(C:CRing K)(y1:K):(C.add (C.add (C.add (C.add (C.add (C.add (C.add (C.mul (C.mul y1 y1) y1) (C.mul (C.mul y1 y1) y1)) (C.mul (C.mul y1 y1) y1)) (C.mul (C.mul y1 y1) y1)) (C.mul (C.mul y1 y1) y1)) (C.mul (C.mul y1 y1) y1)) (C.mul (C.mul y1 y1) y1)) (C.mul (C.mul y1 y1) y1))=(C.mul (C.mul (C.add y1 y1) (C.add y1 y1)) (C.add y1 y1)):=ring4 C (lets y1 C.zero C.zero C.zero) (.add (.add (.add (.add (.add (.add (.add (.mul (.mul (.v 0) (.v 0)) (.v 0)) (.mul (.mul (.v 0) (.v 0)) (.v 0))) (.mul (.mul (.v 0) (.v 0)) (.v 0))) (.mul (.mul (.v 0) (.v 0)) (.v 0))) (.mul (.mul (.v 0) (.v 0)) (.v 0))) (.mul (.mul (.v 0) (.v 0)) (.v 0))) (.mul (.mul (.v 0) (.v 0)) (.v 0))) (.mul (.mul (.v 0) (.v 0)) (.v 0))) (.mul (.mul (.add (.v 0) (.v 0)) (.add (.v 0) (.v 0))) (.add (.v 0) (.v 0))) (by decide +kernel)
theorem r9(C:CRing K)(x1 y1:K):(C.sub (C.add (C.add (C.add (C.add (C.add (C.add (C.add (C.add (C.mul (C.mul (C.mul x1 x1) x1) x1) (C.mul (C.mul (C.mul x1 x1) x1) x1)) (C.mul (C.mul (C.mul x1 x1) x1) x1)) (C.mul (C.mul (C.mul x1 x1) x1) x1)) (C.mul (C.mul (C.mul x1 x1) x1) x1)) (C.mul (C.mul (C.mul x1 x1) x1) x1)) (C.mul (C.mul (C.mul x1 x1) x1) x1)) (C.mul (C.mul (C.mul x1 x1) x1) x1)) (C.mul (C.mul (C.mul x1 x1) x1) x1)) (C.add (C.add (C.add (C.add (C.add (C.add (C.add (C.mul x1 (C.mul y1 y1)) (C.mul x1 (C.mul y1 y1))) (C.mul x1 (C.mul y1 y1))) (C.mul x1 (C.mul y1 y1))) (C.mul x1 (C.mul y1 y1))) (C.mul x1 (C.mul y1 y1))) (C.mul x1 (C.mul y1 y1))) (C.mul x1 (C.mul y1 y1))))=(C.sub (C.mul (C.add (C.add (C.mul x1 x1) (C.mul x1 x1)) (C.mul x1 x1)) (C.add (C.add (C.mul x1 x1) (C.mul x1 x1)) (C.mul x1 x1))) (C.mul (C.add x1 x1) (C.mul (C.add y1 y1) (C.add y1 y1)))):=ring4 C (lets x1 y1 C.zero C.zero) (.sub (.add (.add (.add (.add (.add (.add (.add (.add (.mul (.mul (.mul (.v 0) (.v 0)) (.v 0)) (.v 0)) (.mul (.mul (.mul (.v 0) (.v 0)) (.v 0)) (.v 0))) (.mul (.mul (.mul (.v 0) (.v 0)) (.v 0)) (.v 0))) (.mul (.mul (.mul (.v 0) (.v 0)) (.v 0)) (.v 0))) (.mul (.mul (.mul (.v 0) (.v 0)) (.v 0)) (.v 0))) (.mul (.mul (.mul (.v 0) (.v 0)) (.v 0)) (.v 0))) (.mul (.mul (.mul (.v 0) (.v 0)) (.v 0)) (.v 0))) (.mul (.mul (.mul (.v 0) (.v 0)) (.v 0)) (.v 0))) (.mul (.mul (.mul (.v 0) (.v 0)) (.v 0)) (.v 0))) (.add (.add (.add (.add (.add (.add (.add (.mul (.v 0) (.mul (.v 1) (.v 1))) (.mul (.v 0) (.mul (.v 1) (.v 1)))) (.mul (.v 0) (.mul (.v 1) (.v 1)))) (.mul (.v 0) (.mul (.v 1) (.v 1)))) (.mul (.v 0) (.mul (.v 1) (.v 1)))) (.mul (.v 0) (.mul (.v 1) (.v 1)))) (.mul (.v 0) (.mul (.v 1) (.v 1)))) (.mul (.v 0) (.mul (.v 1) (.v 1))))) (.sub (.mul (.add (.add (.mul (.v 0) (.v 0)) (.mul (.v 0) (.v 0))) (.mul (.v 0) (.v 0))) (.add (.add (.mul (.v 0) (.v 0)) (.mul (.v 0) (.v 0))) (.mul (.v 0) (.v 0)))) (.mul (.add (.v 0) (.v 0)) (.mul (.add (.v 1) (.v 1)) (.add (.v 1) (.v 1))))) (by decide +kernel)
theorem r10(C:CRing K)(y1 y2:K):(C.mul (C.sub y1 y2) (C.add y1 y2))=(C.sub (C.mul y1 y1) (C.mul y2 y2)):=ring4 C (lets y1 y2 C.zero C.zero) (.mul (.sub (.v 0) (.v 1)) (.add (.v 0) (.v 1))) (.sub (.mul (.v 0) (.v 0)) (.mul (.v 1) (.v 1))) (by decide +kernel)
theorem tang{x1 y1:K}(h2:∀ a:K,a≠F.zero->F.add a a≠F.zero)(h1:OnC F.toCRing b x1 y1)(hy:y1≠F.zero) :
  Rep F (tsum F b (x1,y1,F.one) (x1,y1,F.one)) (lineTo F x1 y1 x1 (F.mul (F.add (F.mul x1 x1) (F.add (F.mul x1 x1) (F.mul x1 x1))) (F.inv (F.add y1 y1))))/\(lineTo F x1 y1 x1 (F.mul (F.add (F.mul x1 x1) (F.add (F.mul x1 x1) (F.mul x1 x1))) (F.inv (F.add y1 y1)))).On F b:=by
 have hX:=id2 idDbX idDbX_s idDbX_n F.toCRing h1 h1;have hY:=id2 idDbY idDbY_s idDbY_n F.toCRing h1 h1;have hZ:=id2 idDbZ idDbZ_s idDbZ_n F.toCRing h1 h1;have hC:=id2 idDbC idDbC_s idDbC_n F.toCRing h1 h1;have hd:=h2 y1 hy;rw[<- F.add_assoc];have hs:=F.div_mul (F.add (F.add (F.mul x1 x1) (F.mul x1 x1)) (F.mul x1 x1)) hd;obtain⟨s,es⟩:∃ s,F.mul (F.add (F.add (F.mul x1 x1) (F.mul x1 x1)) (F.mul x1 x1)) (F.inv (F.add y1 y1))=s:=⟨_,rfl⟩
 rw[es]at hs |-
 obtain⟨S,eS⟩:∃ S,tsum F b (x1,y1,F.one) (x1,y1,F.one)=S:=⟨_,rfl⟩
 have hZ':F.sub S.2.2 (F.add (F.add (F.add (F.add (F.add (F.add (F.add (F.mul (F.mul y1 y1) y1) (F.mul (F.mul y1 y1) y1)) (F.mul (F.mul y1 y1) y1)) (F.mul (F.mul y1 y1) y1)) (F.mul (F.mul y1 y1) y1)) (F.mul (F.mul y1 y1) y1)) (F.mul (F.mul y1 y1) y1)) (F.mul (F.mul y1 y1) y1))=F.zero:=by rw[<- eS];exact hZ
 have hX':F.sub (F.mul S.1 (F.mul (F.add y1 y1) (F.add y1 y1))) (F.mul S.2.2 (F.sub (F.add (F.add (F.add (F.add (F.add (F.add (F.add (F.add (F.mul (F.mul (F.mul x1 x1) x1) x1) (F.mul (F.mul (F.mul x1 x1) x1) x1)) (F.mul (F.mul (F.mul x1 x1) x1) x1)) (F.mul (F.mul (F.mul x1 x1) x1) x1)) (F.mul (F.mul (F.mul x1 x1) x1) x1)) (F.mul (F.mul (F.mul x1 x1) x1) x1)) (F.mul (F.mul (F.mul x1 x1) x1) x1)) (F.mul (F.mul (F.mul x1 x1) x1) x1)) (F.mul (F.mul (F.mul x1 x1) x1) x1)) (F.add (F.add (F.add (F.add (F.add (F.add (F.add (F.mul x1 (F.mul y1 y1)) (F.mul x1 (F.mul y1 y1))) (F.mul x1 (F.mul y1 y1))) (F.mul x1 (F.mul y1 y1))) (F.mul x1 (F.mul y1 y1))) (F.mul x1 (F.mul y1 y1))) (F.mul x1 (F.mul y1 y1))) (F.mul x1 (F.mul y1 y1)))))=F.zero:=by rw[<- eS];exact hX
 have hY':F.sub (F.mul S.2.1 (F.mul (F.mul (F.add y1 y1) (F.add y1 y1)) (F.add y1 y1))) (F.mul S.2.2 (F.sub (F.mul (F.add (F.add (F.mul x1 x1) (F.mul x1 x1)) (F.mul x1 x1)) (F.sub (F.mul x1 (F.mul (F.add y1 y1) (F.add y1 y1))) (F.sub (F.add (F.add (F.add (F.add (F.add (F.add (F.add (F.add (F.mul (F.mul (F.mul x1 x1) x1) x1) (F.mul (F.mul (F.mul x1 x1) x1) x1)) (F.mul (F.mul (F.mul x1 x1) x1) x1)) (F.mul (F.mul (F.mul x1 x1) x1) x1)) (F.mul (F.mul (F.mul x1 x1) x1) x1)) (F.mul (F.mul (F.mul x1 x1) x1) x1)) (F.mul (F.mul (F.mul x1 x1) x1) x1)) (F.mul (F.mul (F.mul x1 x1) x1) x1)) (F.mul (F.mul (F.mul x1 x1) x1) x1)) (F.add (F.add (F.add (F.add (F.add (F.add (F.add (F.mul x1 (F.mul y1 y1)) (F.mul x1 (F.mul y1 y1))) (F.mul x1 (F.mul y1 y1))) (F.mul x1 (F.mul y1 y1))) (F.mul x1 (F.mul y1 y1))) (F.mul x1 (F.mul y1 y1))) (F.mul x1 (F.mul y1 y1))) (F.mul x1 (F.mul y1 y1)))))) (F.mul y1 (F.mul (F.mul (F.add y1 y1) (F.add y1 y1)) (F.add y1 y1)))))=F.zero:=by rw[<- eS];exact hY
 have hC':F.sub (F.mul (F.sub (F.mul (F.add (F.add (F.mul x1 x1) (F.mul x1 x1)) (F.mul x1 x1)) (F.sub (F.mul x1 (F.mul (F.add y1 y1) (F.add y1 y1))) (F.sub (F.add (F.add (F.add (F.add (F.add (F.add (F.add (F.add (F.mul (F.mul (F.mul x1 x1) x1) x1) (F.mul (F.mul (F.mul x1 x1) x1) x1)) (F.mul (F.mul (F.mul x1 x1) x1) x1)) (F.mul (F.mul (F.mul x1 x1) x1) x1)) (F.mul (F.mul (F.mul x1 x1) x1) x1)) (F.mul (F.mul (F.mul x1 x1) x1) x1)) (F.mul (F.mul (F.mul x1 x1) x1) x1)) (F.mul (F.mul (F.mul x1 x1) x1) x1)) (F.mul (F.mul (F.mul x1 x1) x1) x1)) (F.add (F.add (F.add (F.add (F.add (F.add (F.add (F.mul x1 (F.mul y1 y1)) (F.mul x1 (F.mul y1 y1))) (F.mul x1 (F.mul y1 y1))) (F.mul x1 (F.mul y1 y1))) (F.mul x1 (F.mul y1 y1))) (F.mul x1 (F.mul y1 y1))) (F.mul x1 (F.mul y1 y1))) (F.mul x1 (F.mul y1 y1)))))) (F.mul y1 (F.mul (F.mul (F.add y1 y1) (F.add y1 y1)) (F.add y1 y1)))) (F.sub (F.mul (F.add (F.add (F.mul x1 x1) (F.mul x1 x1)) (F.mul x1 x1)) (F.sub (F.mul x1 (F.mul (F.add y1 y1) (F.add y1 y1))) (F.sub (F.add (F.add (F.add (F.add (F.add (F.add (F.add (F.add (F.mul (F.mul (F.mul x1 x1) x1) x1) (F.mul (F.mul (F.mul x1 x1) x1) x1)) (F.mul (F.mul (F.mul x1 x1) x1) x1)) (F.mul (F.mul (F.mul x1 x1) x1) x1)) (F.mul (F.mul (F.mul x1 x1) x1) x1)) (F.mul (F.mul (F.mul x1 x1) x1) x1)) (F.mul (F.mul (F.mul x1 x1) x1) x1)) (F.mul (F.mul (F.mul x1 x1) x1) x1)) (F.mul (F.mul (F.mul x1 x1) x1) x1)) (F.add (F.add (F.add (F.add (F.add (F.add (F.add (F.mul x1 (F.mul y1 y1)) (F.mul x1 (F.mul y1 y1))) (F.mul x1 (F.mul y1 y1))) (F.mul x1 (F.mul y1 y1))) (F.mul x1 (F.mul y1 y1))) (F.mul x1 (F.mul y1 y1))) (F.mul x1 (F.mul y1 y1))) (F.mul x1 (F.mul y1 y1)))))) (F.mul y1 (F.mul (F.mul (F.add y1 y1) (F.add y1 y1)) (F.add y1 y1))))) (F.add (F.mul (F.mul (F.sub (F.add (F.add (F.add (F.add (F.add (F.add (F.add (F.add (F.mul (F.mul (F.mul x1 x1) x1) x1) (F.mul (F.mul (F.mul x1 x1) x1) x1)) (F.mul (F.mul (F.mul x1 x1) x1) x1)) (F.mul (F.mul (F.mul x1 x1) x1) x1)) (F.mul (F.mul (F.mul x1 x1) x1) x1)) (F.mul (F.mul (F.mul x1 x1) x1) x1)) (F.mul (F.mul (F.mul x1 x1) x1) x1)) (F.mul (F.mul (F.mul x1 x1) x1) x1)) (F.mul (F.mul (F.mul x1 x1) x1) x1)) (F.add (F.add (F.add (F.add (F.add (F.add (F.add (F.mul x1 (F.mul y1 y1)) (F.mul x1 (F.mul y1 y1))) (F.mul x1 (F.mul y1 y1))) (F.mul x1 (F.mul y1 y1))) (F.mul x1 (F.mul y1 y1))) (F.mul x1 (F.mul y1 y1))) (F.mul x1 (F.mul y1 y1))) (F.mul x1 (F.mul y1 y1)))) (F.sub (F.add (F.add (F.add (F.add (F.add (F.add (F.add (F.add (F.mul (F.mul (F.mul x1 x1) x1) x1) (F.mul (F.mul (F.mul x1 x1) x1) x1)) (F.mul (F.mul (F.mul x1 x1) x1) x1)) (F.mul (F.mul (F.mul x1 x1) x1) x1)) (F.mul (F.mul (F.mul x1 x1) x1) x1)) (F.mul (F.mul (F.mul x1 x1) x1) x1)) (F.mul (F.mul (F.mul x1 x1) x1) x1)) (F.mul (F.mul (F.mul x1 x1) x1) x1)) (F.mul (F.mul (F.mul x1 x1) x1) x1)) (F.add (F.add (F.add (F.add (F.add (F.add (F.add (F.mul x1 (F.mul y1 y1)) (F.mul x1 (F.mul y1 y1))) (F.mul x1 (F.mul y1 y1))) (F.mul x1 (F.mul y1 y1))) (F.mul x1 (F.mul y1 y1))) (F.mul x1 (F.mul y1 y1))) (F.mul x1 (F.mul y1 y1))) (F.mul x1 (F.mul y1 y1))))) (F.sub (F.add (F.add (F.add (F.add (F.add (F.add (F.add (F.add (F.mul (F.mul (F.mul x1 x1) x1) x1) (F.mul (F.mul (F.mul x1 x1) x1) x1)) (F.mul (F.mul (F.mul x1 x1) x1) x1)) (F.mul (F.mul (F.mul x1 x1) x1) x1)) (F.mul (F.mul (F.mul x1 x1) x1) x1)) (F.mul (F.mul (F.mul x1 x1) x1) x1)) (F.mul (F.mul (F.mul x1 x1) x1) x1)) (F.mul (F.mul (F.mul x1 x1) x1) x1)) (F.mul (F.mul (F.mul x1 x1) x1) x1)) (F.add (F.add (F.add (F.add (F.add (F.add (F.add (F.mul x1 (F.mul y1 y1)) (F.mul x1 (F.mul y1 y1))) (F.mul x1 (F.mul y1 y1))) (F.mul x1 (F.mul y1 y1))) (F.mul x1 (F.mul y1 y1))) (F.mul x1 (F.mul y1 y1))) (F.mul x1 (F.mul y1 y1))) (F.mul x1 (F.mul y1 y1))))) (F.mul b (F.mul (F.mul (F.mul (F.mul (F.mul (F.add y1 y1) (F.add y1 y1)) (F.add y1 y1)) (F.add y1 y1)) (F.add y1 y1)) (F.add y1 y1))))=F.zero:=hC;have hZn:S.2.2≠F.zero:=by
  rw[F.eq_of_sub hZ',r8];exact F.mul_ne (F.mul_ne hd hd) hd
 rw[eS];rw[r9]at hX' hY' hC';generalize F.add y1 y1=dx at *;rw[<- hs]at hX' hY' hC';rw[r1,r2 F.toCRing (F.mul s s) x1 x1]at hX' hY' hC';rw[r5,r4]at hY' hC';rw[r7]at hC';have hC2:=F.eq_of_sub hC';rw[r6]at hC2;have hd6:F.mul (F.mul (F.mul (F.mul (F.mul dx dx) dx) dx) dx) dx≠F.zero:=F.mul_ne (F.mul_ne (F.mul_ne (F.mul_ne (F.mul_ne hd hd) hd) hd) hd) hd;refine⟨⟨hZn,?_,?_⟩,?_⟩
 ·have h:=F.eq_of_sub hX'
  exact F.cancel (F.mul_ne hd hd) (h.trans (r3 F.toCRing _ _ _))
 ·have h:=F.eq_of_sub hY'
  exact F.cancel (F.mul_ne (F.mul_ne hd hd) hd) (h.trans (r3 F.toCRing _ _ _))
 ·exact F.cancel hd6 hC2
theorem oppo{x1 y1:K}(hb:∀ x,cub F.ops x b≠F.zero)(h2:∀ a:K,a≠F.zero->F.add a a≠F.zero)(h1:OnC F.toCRing b x1 y1)(hy:y1≠F.zero) :
  Rep F (tsum F b (x1,y1,F.one) (x1,F.sub (F.sub y1 y1) y1,F.one)) .none:=by
 have hX:=id2 idOpX idOpX_s idOpX_n F.toCRing h1 h1;have hY:=id2 idOpY idOpY_s idOpY_n F.toCRing h1 h1;have hZ:=id2 idOpZ idOpZ_s idOpZ_n F.toCRing h1 h1;have hd:=h2 y1 hy;obtain⟨S,eS⟩:∃ S,tsum F b (x1,y1,F.one) (x1,F.sub (F.sub y1 y1) y1,F.one)=S:=⟨_,rfl⟩
 have hX':S.1=F.zero:=by rw[<- eS];exact hX
 have hZ':S.2.2=F.zero:=by rw[<- eS];exact hZ
 have hY':F.sub (F.mul S.2.1 S.2.1) (F.add (F.mul (F.mul (F.sub (F.add (F.add (F.add (F.add (F.add (F.add (F.add (F.add (F.mul (F.mul (F.mul x1 x1) x1) x1) (F.mul (F.mul (F.mul x1 x1) x1) x1)) (F.mul (F.mul (F.mul x1 x1) x1) x1)) (F.mul (F.mul (F.mul x1 x1) x1) x1)) (F.mul (F.mul (F.mul x1 x1) x1) x1)) (F.mul (F.mul (F.mul x1 x1) x1) x1)) (F.mul (F.mul (F.mul x1 x1) x1) x1)) (F.mul (F.mul (F.mul x1 x1) x1) x1)) (F.mul (F.mul (F.mul x1 x1) x1) x1)) (F.add (F.add (F.add (F.add (F.add (F.add (F.add (F.mul x1 (F.mul y1 y1)) (F.mul x1 (F.mul y1 y1))) (F.mul x1 (F.mul y1 y1))) (F.mul x1 (F.mul y1 y1))) (F.mul x1 (F.mul y1 y1))) (F.mul x1 (F.mul y1 y1))) (F.mul x1 (F.mul y1 y1))) (F.mul x1 (F.mul y1 y1)))) (F.sub (F.add (F.add (F.add (F.add (F.add (F.add (F.add (F.add (F.mul (F.mul (F.mul x1 x1) x1) x1) (F.mul (F.mul (F.mul x1 x1) x1) x1)) (F.mul (F.mul (F.mul x1 x1) x1) x1)) (F.mul (F.mul (F.mul x1 x1) x1) x1)) (F.mul (F.mul (F.mul x1 x1) x1) x1)) (F.mul (F.mul (F.mul x1 x1) x1) x1)) (F.mul (F.mul (F.mul x1 x1) x1) x1)) (F.mul (F.mul (F.mul x1 x1) x1) x1)) (F.mul (F.mul (F.mul x1 x1) x1) x1)) (F.add (F.add (F.add (F.add (F.add (F.add (F.add (F.mul x1 (F.mul y1 y1)) (F.mul x1 (F.mul y1 y1))) (F.mul x1 (F.mul y1 y1))) (F.mul x1 (F.mul y1 y1))) (F.mul x1 (F.mul y1 y1))) (F.mul x1 (F.mul y1 y1))) (F.mul x1 (F.mul y1 y1))) (F.mul x1 (F.mul y1 y1))))) (F.sub (F.add (F.add (F.add (F.add (F.add (F.add (F.add (F.add (F.mul (F.mul (F.mul x1 x1) x1) x1) (F.mul (F.mul (F.mul x1 x1) x1) x1)) (F.mul (F.mul (F.mul x1 x1) x1) x1)) (F.mul (F.mul (F.mul x1 x1) x1) x1)) (F.mul (F.mul (F.mul x1 x1) x1) x1)) (F.mul (F.mul (F.mul x1 x1) x1) x1)) (F.mul (F.mul (F.mul x1 x1) x1) x1)) (F.mul (F.mul (F.mul x1 x1) x1) x1)) (F.mul (F.mul (F.mul x1 x1) x1) x1)) (F.add (F.add (F.add (F.add (F.add (F.add (F.add (F.mul x1 (F.mul y1 y1)) (F.mul x1 (F.mul y1 y1))) (F.mul x1 (F.mul y1 y1))) (F.mul x1 (F.mul y1 y1))) (F.mul x1 (F.mul y1 y1))) (F.mul x1 (F.mul y1 y1))) (F.mul x1 (F.mul y1 y1))) (F.mul x1 (F.mul y1 y1))))) (F.mul b (F.mul (F.mul (F.mul (F.mul (F.mul (F.add y1 y1) (F.add y1 y1)) (F.add y1 y1)) (F.add y1 y1)) (F.add y1 y1)) (F.add y1 y1))))=F.zero:=by rw[<- eS];exact hY
 rw[eS];refine⟨hX',hZ',fun e=>?_⟩;have h3:=F.eq_of_sub hY';rw[e,F.zero_mul]at h3;have hu:=F.div_mul (F.sub (F.add (F.add (F.add (F.add (F.add (F.add (F.add (F.add (F.mul (F.mul (F.mul x1 x1) x1) x1) (F.mul (F.mul (F.mul x1 x1) x1) x1)) (F.mul (F.mul (F.mul x1 x1) x1) x1)) (F.mul (F.mul (F.mul x1 x1) x1) x1)) (F.mul (F.mul (F.mul x1 x1) x1) x1)) (F.mul (F.mul (F.mul x1 x1) x1) x1)) (F.mul (F.mul (F.mul x1 x1) x1) x1)) (F.mul (F.mul (F.mul x1 x1) x1) x1)) (F.mul (F.mul (F.mul x1 x1) x1) x1)) (F.add (F.add (F.add (F.add (F.add (F.add (F.add (F.mul x1 (F.mul y1 y1)) (F.mul x1 (F.mul y1 y1))) (F.mul x1 (F.mul y1 y1))) (F.mul x1 (F.mul y1 y1))) (F.mul x1 (F.mul y1 y1))) (F.mul x1 (F.mul y1 y1))) (F.mul x1 (F.mul y1 y1))) (F.mul x1 (F.mul y1 y1)))) (F.mul_ne hd hd);obtain⟨u,eu⟩:∃ u,F.mul (F.sub (F.add (F.add (F.add (F.add (F.add (F.add (F.add (F.add (F.mul (F.mul (F.mul x1 x1) x1) x1) (F.mul (F.mul (F.mul x1 x1) x1) x1)) (F.mul (F.mul (F.mul x1 x1) x1) x1)) (F.mul (F.mul (F.mul x1 x1) x1) x1)) (F.mul (F.mul (F.mul x1 x1) x1) x1)) (F.mul (F.mul (F.mul x1 x1) x1) x1)) (F.mul (F.mul (F.mul x1 x1) x1) x1)) (F.mul (F.mul (F.mul x1 x1) x1) x1)) (F.mul (F.mul (F.mul x1 x1) x1) x1)) (F.add (F.add (F.add (F.add (F.add (F.add (F.add (F.mul x1 (F.mul y1 y1)) (F.mul x1 (F.mul y1 y1))) (F.mul x1 (F.mul y1 y1))) (F.mul x1 (F.mul y1 y1))) (F.mul x1 (F.mul y1 y1))) (F.mul x1 (F.mul y1 y1))) (F.mul x1 (F.mul y1 y1))) (F.mul x1 (F.mul y1 y1)))) (F.inv (F.mul (F.add y1 y1) (F.add y1 y1)))=u:=⟨_,rfl⟩
 rw[eu]at hu;rw[<- hu,r6]at h3;exact hb u (F.left_zero (F.mul_ne (F.mul_ne (F.mul_ne (F.mul_ne (F.mul_ne hd hd) hd) hd) hd) hd) h3.symm)
theorem y_ne{x y:K}(hb:∀ x,cub F.ops x b≠F.zero)(h:OnC F.toCRing b x y):y≠F.zero:=fun e=>by
 unfold OnC at h;rw[e,F.zero_mul]at h;exact hb x h.symm
theorem same_x{x y1 y2:K}(h1:OnC F.toCRing b x y1)(h2:OnC F.toCRing b x y2)(hne:y1≠y2):y2=F.sub (F.sub y1 y1) y1:=by
 have h:F.mul (F.sub y1 y2) (F.add y1 y2)=F.zero:=by
  rw[r10,show F.mul y1 y1=F.mul y2 y2 from h1.trans h2.symm,F.sub_self]
 have h0:F.add y1 y2=F.zero:=F.left_zero (fun e=>hne (F.eq_of_sub e)) (by rw[F.mul_comm];exact h);rw[F.sub_self];have e:F.sub F.zero y1=F.neg y1:=by unfold CRing.sub;rw[F.zero_add]
 rw[e];apply F.add_cancel (c:=y1);rw[F.add_comm y2,h0,F.add_comm,F.add_neg]
theorem tsum_none(x y:K):tsum F b (F.zero,F.one,F.zero) (x,y,F.one)=(F.mul x y,F.mul y y,y)/\tsum F b (x,y,F.one) (F.zero,F.one,F.zero)=(F.mul x y,F.mul y y,y):=by
 unfold tsum cadd CRing.ops;simp only[F.zero_mul,F.mul_zero,F.one_mul,F.mul_one,F.zero_add,F.add_zero,F.sub_zero,and_self]
theorem tsum_nones:tsum F b (F.zero,F.one,F.zero) (F.zero,F.one,F.zero)=(F.zero,F.one,F.zero):=by
 unfold tsum cadd CRing.ops;simp only[F.zero_mul,F.mul_zero,F.mul_one,F.add_zero,F.sub_zero]
theorem rep_std[DecidableEq K](hb:∀ x,cub F.ops x b≠F.zero)(h2:∀ a:K,a≠F.zero->F.add a a≠F.zero){p q:Pt K}(hp:p.On F b)(hq:q.On F b):Rep F (tsum F b (p.emb F) (q.emb F)) (psum F p q)/\(psum F p q).On F b:=by
 cases p with
 | none =>
  cases q with
  | none=>exact⟨by show Rep F (tsum F b (F.zero,F.one,F.zero) (F.zero,F.one,F.zero)) .none;rw[tsum_nones];exact⟨rfl,rfl,F.one_ne⟩,trivial⟩
  | some x y =>
   refine⟨?_,hq⟩;show Rep F (tsum F b (F.zero,F.one,F.zero) (x,y,F.one)) (.some x y);rw[(tsum_none x y).1];exact⟨y_ne hb hq,rfl,rfl⟩
 | some x1 y1 =>
  cases q with
  | none =>
   refine⟨?_,hp⟩;show Rep F (tsum F b (x1,y1,F.one) (F.zero,F.one,F.zero)) (.some x1 y1);rw[(tsum_none x1 y1).2];exact⟨y_ne hb hp,rfl,rfl⟩
  | some x2 y2 =>
   have hy:=y_ne hb hp;show Rep F (tsum F b (x1,y1,F.one) (x2,y2,F.one)) (if x1=x2 then _ else _)/\(if x1=x2 then _ else _:Pt K).On F b;by_cases ex:x1=x2
   ·subst ex
    rw[if_pos rfl];by_cases ey:y1=y2
    ·subst ey
     rw[if_neg (fun h=>h.elim (fun h=>h rfl) hy)];exact tang h2 hp hy
    ·rw[if_pos (.inl ey)]
     refine⟨?_,trivial⟩;rw[same_x hp hq ey];exact oppo hb h2 hp hy
   ·rw[if_neg ex]
    exact chord hb hp hq ex
def sc(F:CField K)(s:K)(T:K × K × K):K × K × K:=(F.mul s T.1,F.mul s T.2.1,F.mul s T.2.2)
theorem tsum_sc(s u:K)(T U:K × K × K):tsum F b (sc F s T) (sc F u U)=sc F (F.mul (F.mul s u) (F.mul s u)) (tsum F b T U):=by
 have m4:∀ x y,F.mul (F.mul s x) (F.mul u y)=F.mul (F.mul s u) (F.mul x y):=fun x y=>F.mul4 s x u y;have m4':∀ x y,F.mul (F.mul u x) (F.mul s y)=F.mul (F.mul s u) (F.mul x y):=fun x y=>by rw[F.mul4,F.mul_comm u s]
 have ml:∀ t v x,F.mul t (F.mul v x)=F.mul v (F.mul t x):=fun t v x=>by rw[<- F.mul_assoc,F.mul_comm t v,F.mul_assoc]
 unfold tsum cadd sc CRing.ops;simp only[m4,m4'];generalize F.mul s u=v;simp only[<- F.mul_add,ml _ v,<- F.mul_sub];simp only[F.mul_assoc];simp only[<- F.mul_sub,<- F.mul_add]
theorem rep_sc{s:K}(hs:s≠F.zero){T:K × K × K}{p:Pt K}(h:Rep F T p):Rep F (sc F s T) p:=by
 cases p with
 | none=>exact⟨by show F.mul s T.1=_;rw[h.1,F.mul_zero],by show F.mul s T.2.2=_;rw[h.2.1,F.mul_zero],F.mul_ne hs h.2.2⟩
 | some x y =>
  have ml:∀ t v x,F.mul t (F.mul v x)=F.mul v (F.mul t x):=fun t v x=>by rw[<- F.mul_assoc,F.mul_comm t v,F.mul_assoc]
  exact⟨F.mul_ne hs h.1,by show F.mul s T.1=F.mul x (F.mul s T.2.2);rw[h.2.1,ml],by show F.mul s T.2.1=F.mul y (F.mul s T.2.2);rw[h.2.2,ml]⟩
theorem rep_is{T:K × K × K}{p:Pt K}(h:Rep F T p):∃ s,s≠F.zero/\T=sc F s (p.emb F):=by
 cases p with
 | none =>
  refine⟨T.2.1,h.2.2,?_⟩;show T=(F.mul T.2.1 F.zero,F.mul T.2.1 F.one,F.mul T.2.1 F.zero);rw[F.mul_zero,F.mul_one];exact Prod.ext h.1 (Prod.ext rfl h.2.1)
 | some x y =>
  refine⟨T.2.2,h.1,?_⟩;show T=(F.mul T.2.2 x,F.mul T.2.2 y,F.mul T.2.2 F.one);rw[F.mul_one,F.mul_comm _ x,F.mul_comm _ y];exact Prod.ext h.2.1 (Prod.ext h.2.2 rfl)
theorem rep_sum[DecidableEq K](hb:∀ x,cub F.ops x b≠F.zero)(h2:∀ a:K,a≠F.zero->F.add a a≠F.zero){T U:K × K × K}{p q:Pt K}(hp:p.On F b)(hq:q.On F b)(hT:Rep F T p)(hU:Rep F U q):Rep F (tsum F b T U) (psum F p q):=by
 obtain⟨s,hs,rfl⟩:=rep_is hT;obtain⟨u,hu,rfl⟩:=rep_is hU;rw[tsum_sc];exact rep_sc (F.mul_ne (F.mul_ne hs hu) (F.mul_ne hs hu)) (rep_std hb h2 hp hq).1
theorem rep_emb(p:Pt K):Rep F (p.emb F) p:=by
 cases p with
 | none=>exact⟨rfl,rfl,F.one_ne⟩
 | some x y=>exact⟨F.one_ne,(F.mul_one _).symm,(F.mul_one _).symm⟩
theorem rep_inj{T U:K × K × K}{p q:Pt K}(hT:Rep F T p)(hU:Rep F U q)(h1:F.mul T.1 U.2.2=F.mul U.1 T.2.2)(h2:F.mul T.2.1 U.2.2=F.mul U.2.1 T.2.2):p=q:=by
 cases p with
 | none =>
  cases q with
  | none=>rfl
  | some x y =>
   rw[hT.2.1,F.mul_zero]at h2;exact absurd h2 (F.mul_ne hT.2.2 hU.1)
 | some x y =>
  cases q with
  | none =>
   rw[hU.2.1,F.mul_zero]at h2;exact absurd h2.symm (F.mul_ne hU.2.2 hT.1)
  | some x' y' =>
   have sw:∀ a c d:K,F.mul (F.mul a c) d=F.mul a (F.mul c d):=F.mul_assoc;rw[hT.2.1,hU.2.1,sw,sw,F.mul_comm U.2.2]at h1;rw[hT.2.2,hU.2.2,sw,sw,F.mul_comm U.2.2]at h2;rw[F.cancel (F.mul_ne hT.1 hU.1) h1,F.cancel (F.mul_ne hT.1 hU.1) h2]
theorem psum_assoc[DecidableEq K](hb:∀ x,cub F.ops x b≠F.zero)(h2:∀ a:K,a≠F.zero->F.add a a≠F.zero){p q r:Pt K}(hp:p.On F b)(hq:q.On F b)(hr:r.On F b):psum F (psum F p q) r=psum F p (psum F q r):=by
 have none_r:∀ u:Pt K,psum F u .none=u:=fun u=>by cases u <;> rfl
 cases p with
 | none=>rfl
 | some x1 y1 =>
  cases q with
  | none=>rw[none_r];rfl
  | some x2 y2 =>
   cases r with
   | none=>rw[none_r,none_r]
   | some x3 y3 =>
    have hL:=rep_sum hb h2 (rep_std hb h2 hp hq).2 hr (rep_std hb h2 hp hq).1 (rep_emb (.some x3 y3));have hR:=rep_sum hb h2 hp (rep_std hb h2 hq hr).2 (rep_emb (.some x1 y1)) (rep_std hb h2 hq hr).1;have k:=assoc_K F.toCRing (b:=b) hp hq hr;rw[<- F.add_assoc]at k;exact rep_inj hL hR (F.eq_of_sub (congrArg Prod.fst k)) (F.eq_of_sub (congrArg Prod.snd k))
end
end Go.Proofs.YtadfjjfklihaaaaGreat
