/- What the claim stands on, part 39: QOpen, OpenU. -/
import Derived.Test.YtnaomilkgfkegaaGreatWA0
import Derived.ProofKit
import Derived.Lib.SmallJoins
import Derived.Laws.Cover2
import Derived.OpenShut
import Derived.Deep.Strs
import Derived.Carry
set_option maxRecDepth 100000
namespace Go.Proofs.YtnaomilkgfkegaaGreat
section
open Go.ChangeShapes Go.WideShapes Go.ChangeAt Go.RowKit Go.Joins
theorem Tryz.own:ownKnob Tryz.prog.godebug=none:=by kernel_rfl
end
section
open Go.ChangeShapes Go.WideShapes Go.ChangeAt Go.RowKit Go.Joins Go.Deep
end
section
open Go.ChangeShapes Go.WideShapes Go.ChangeAt Go.RowKit Go.Joins Go.Deep
theorem Tryz.cellsU32:Tryz.prog.cellsOf 22=1:=by kernel_rfl
theorem u32_nat {y:Int} (wf:(Lit.int .u32 y).wf=true):∃ x:Nat,y=(x:Int)∧x < 4294967296:=by
 have h:=wf
 simp [Lit.wf] at h
 have e1:IntKind.u32.min=0:=by decide
 have e2:IntKind.u32.max=4294967295:=by decide
 obtain⟨x,rfl⟩:=Int.eq_ofNat_of_zero_le (by omega:0≤y);exact ⟨x,rfl,by omega⟩
section
variable {H:Type} {enc:TypeId×Value→H} {P:Program} {w:World} {base:Nat} {spare:Nat→Bool} {held:Bool}
theorem trodAll_mk5 {t t' t'' t3 t4:TypeId} {v v' v'' v3 v4:Value} {d d' d'' d3 d4:DataW H} {p p' p'' p3 p4:List MemPlace} (h:DataW.Trod enc P w base spare held t v d p) (h':DataW.Trod enc P w base spare held t' v' d' p')
  (h'':DataW.Trod enc P w base spare held t'' v'' d'' p'') (h3:DataW.Trod enc P w base spare held t3 v3 d3 p3) (h4:DataW.Trod enc P w base spare held t4 v4 d4 p4):DataW.TrodAll enc P w base spare held [t,t',t'',t3,t4] [v,v',v'',v3,v4] [d,d',d'',d3,d4] (p++(p'++(p''++(p3++p4)))):=⟨p,p'++(p''++(p3++p4)),h,trodAll_mk4 h' h'' h3 h4,rfl⟩
theorem trodAll_six {t t' t'' t3 t4 t5:TypeId} {args:Array Value} {ds:List (DataW H)} {ps:List MemPlace} (h:DataW.TrodAll enc P w base spare held [t,t',t'',t3,t4,t5] args.toList ds ps) :
  ∃ v v' v'' v3 v4 v5 d d' d'' d3 d4 d5 p p' p'' p3 p4 p5,args=#[v,v',v'',v3,v4,v5]∧ds=[d,d',d'',d3,d4,d5]∧ps=p++p'++p''++p3++p4++p5∧DataW.Trod enc P w base spare held t v d p∧DataW.Trod enc P w base spare held t' v' d' p'∧DataW.Trod enc P w base spare held t'' v'' d'' p''∧DataW.Trod enc P w base spare held t3 v3 d3 p3∧DataW.Trod enc P w base spare held t4 v4 d4 p4∧DataW.Trod enc P w base spare held t5 v5 d5 p5:=by
 obtain⟨v,vs,d,ds',p,q,hargs,rfl,rfl,hd,hrest⟩:=trodAll_cons h;obtain⟨v',vs',d',ds'',p',q',rfl,rfl,rfl,hd',hrest'⟩:=trodAll_cons hrest;obtain⟨v'',vs'',d'',dsss,p'',q'',rfl,rfl,rfl,hd'',hrest''⟩:=trodAll_cons hrest';obtain⟨v3,vs3,d3,ds3,p3,q3,rfl,rfl,rfl,hd3,hrest3⟩:=trodAll_cons hrest'';obtain⟨v4,vs4,d4,ds4,p4,q4,rfl,rfl,rfl,hd4,hrest4⟩:=trodAll_cons hrest3;obtain⟨v5,vs5,d5,ds5,p5,q5,rfl,rfl,rfl,hd5,hrest5⟩:=trodAll_cons hrest4;obtain⟨rfl,rfl,rfl⟩:=trodAll_nil hrest5;exact ⟨v,v',v'',v3,v4,v5,d,d',d'',d3,d4,d5,p,p',p'',p3,p4,p5,by cases args; simp_all,rfl,by simp,hd,hd',hd'',hd3,hd4,hd5⟩
theorem trodAll_mk6 {t t' t'' t3 t4 t5:TypeId} {v v' v'' v3 v4 v5:Value} {d d' d'' d3 d4 d5:DataW H} {p p' p'' p3 p4 p5:List MemPlace} (h:DataW.Trod enc P w base spare held t v d p) (h':DataW.Trod enc P w base spare held t' v' d' p')
  (h'':DataW.Trod enc P w base spare held t'' v'' d'' p'') (h3:DataW.Trod enc P w base spare held t3 v3 d3 p3) (h4:DataW.Trod enc P w base spare held t4 v4 d4 p4) (h5:DataW.Trod enc P w base spare held t5 v5 d5 p5):DataW.TrodAll enc P w base spare held [t,t',t'',t3,t4,t5] [v,v',v'',v3,v4,v5] [d,d',d'',d3,d4,d5] (p++(p'++(p''++(p3++(p4++p5))))):=⟨p,p'++(p''++(p3++(p4++p5))),h,trodAll_mk5 h' h'' h3 h4 h5,rfl⟩
end
theorem arr6 {α:Type} {cs:Array α} (h:cs.size=6):∃ c0 c1 c2 c3 c4 c5,cs=#[c0,c1,c2,c3,c4,c5]:=by
 obtain⟨l⟩:=cs
 match l,h with
 | [c0,c1,c2,c3,c4,c5],_=>exact ⟨c0,c1,c2,c3,c4,c5,rfl⟩
theorem Tryz.cellsN6:Tryz.prog.cellsOf 24=6:=by kernel_rfl
theorem open_u6 {H:Type} {enc:TypeId×Value→H} {W:World} {base:Nat} {spare:Nat→Bool} {held:Bool} {r:Reach} {b0:Nat} {v:Value} {d:DataW H} {p:List MemPlace} (hv:Value.okWide Tryz.prog W r b0 24 v) (h:DataW.Trod enc Tryz.prog W base spare held 24 v d p) :
  ∃ x0 x1 x2 x3 x4 x5:Int,v = .agg #[.int .u32 x0,.int .u32 x1,.int .u32 x2,.int .u32 x3,.int .u32 x4,.int .u32 x5]∧d = .agg [.lit (.int .u32 x0),.lit (.int .u32 x1),.lit (.int .u32 x2),.lit (.int .u32 x3),.lit (.int .u32 x4),.lit (.int .u32 x5)]∧p=[]∧(Lit.int .u32 x0).wf=true∧(Lit.int .u32 x1).wf=true∧(Lit.int .u32 x2).wf=true∧(Lit.int .u32 x3).wf=true∧(Lit.int .u32 x4).wf=true∧(Lit.int .u32 x5).wf=true:=by
 obtain⟨cs,rfl,hsz,_⟩:∃ cs,v = .agg cs∧cs.size=Tryz.prog.cellsOf 24∧Row.okWide Tryz.prog W r b0 24 cs:=by
  simpa [Value.okWide,Tryz.underlying24] using hv
 obtain⟨c0,c1,c2,c3,c4,c5,rfl⟩:=arr6 (hsz.trans Tryz.cellsN6);obtain⟨fuel,hf⟩:=h;have hf':DataW.trod enc Tryz.prog W base spare held fuel 24 [c0,c1,c2,c3,c4,c5]=some (d,p):=hf;obtain⟨xs,m,rfl,hx,_,hl,hel⟩:=DataW.trod_array Tryz.underlying24 hf'
 match xs,hl with
 | [y0,y1,y2,y3,y4,y5],_ =>
  have g0:=hel 0 (by decide);have g1:=hel 1 (by decide);have g2:=hel 2 (by decide);have g3:=hel 3 (by decide);have g4:=hel 4 (by decide);have g5:=hel 5 (by decide);rw [Tryz.cellsU32] at g0 g1 g2 g3 g4 g5;obtain⟨x0,e0,rfl,w0⟩:=DataW.trod_int Tryz.underlying22 g0;obtain⟨x1,e1,rfl,w1⟩:=DataW.trod_int Tryz.underlying22 g1;obtain⟨x2,e2,rfl,w2⟩:=DataW.trod_int Tryz.underlying22 g2;obtain⟨x3,e3,rfl,w3⟩:=DataW.trod_int Tryz.underlying22 g3;obtain⟨x4,e4,rfl,w4⟩:=DataW.trod_int Tryz.underlying22 g4;obtain⟨x5,e5,rfl,w5⟩:=DataW.trod_int Tryz.underlying22 g5
  simp at e0 e1 e2 e3 e4 e5
  subst e0 e1 e2 e3 e4 e5;simp only [Prod.mk.injEq] at hx;exact ⟨x0,x1,x2,x3,x4,x5,rfl,hx.1,hx.2,w0,w1,w2,w3,w4,w5⟩
theorem shut_u6 {H:Type} {enc:TypeId×Value→H} {W:World} {base:Nat} {spare:Nat→Bool} {held:Bool} {x0 x1 x2 x3 x4 x5:Int} (w0:(Lit.int .u32 x0).wf=true) (w1:(Lit.int .u32 x1).wf=true) (w2:(Lit.int .u32 x2).wf=true) (w3:(Lit.int .u32 x3).wf=true) (w4:(Lit.int .u32 x4).wf=true) (w5:(Lit.int .u32 x5).wf=true) :
  DataW.Trod enc Tryz.prog W base spare held 24 (.agg #[.int .u32 x0,.int .u32 x1,.int .u32 x2,.int .u32 x3,.int .u32 x4,.int .u32 x5]) (.agg [.lit (.int .u32 x0),.lit (.int .u32 x1),.lit (.int .u32 x2),.lit (.int .u32 x3),.lit (.int .u32 x4),.lit (.int .u32 x5)]) []:=
 ⟨2,by simp [DataW.trod,Value.cells,Tryz.underlying24,Tryz.underlying22,Tryz.cellsN6,Tryz.cellsU32,w0,w1,w2,w3,w4,w5,show List.range 6=[0,1,2,3,4,5] from rfl]⟩
theorem arr8 {α:Type} {cs:Array α} (h:cs.size=8):∃ c0 c1 c2 c3 c4 c5 c6 c7,cs=#[c0,c1,c2,c3,c4,c5,c6,c7]:=by
 obtain⟨l⟩:=cs
 match l,h with
 | [c0,c1,c2,c3,c4,c5,c6,c7],_=>exact ⟨c0,c1,c2,c3,c4,c5,c6,c7,rfl⟩
theorem Tryz.cellsN8:Tryz.prog.cellsOf 23=8:=by kernel_rfl
theorem open_u8 {H:Type} {enc:TypeId×Value→H} {W:World} {base:Nat} {spare:Nat→Bool} {held:Bool} {r:Reach} {b0:Nat} {v:Value} {d:DataW H} {p:List MemPlace} (hv:Value.okWide Tryz.prog W r b0 23 v) (h:DataW.Trod enc Tryz.prog W base spare held 23 v d p) :
  ∃ x0 x1 x2 x3 x4 x5 x6 x7:Int,v = .agg #[.int .u32 x0,.int .u32 x1,.int .u32 x2,.int .u32 x3,.int .u32 x4,.int .u32 x5,.int .u32 x6,.int .u32 x7]∧d = .agg [.lit (.int .u32 x0),.lit (.int .u32 x1),.lit (.int .u32 x2),.lit (.int .u32 x3),.lit (.int .u32 x4),.lit (.int .u32 x5),.lit (.int .u32 x6),.lit (.int .u32 x7)]∧p=[]∧(Lit.int .u32 x0).wf=true∧(Lit.int .u32 x1).wf=true∧(Lit.int .u32 x2).wf=true∧(Lit.int .u32 x3).wf=true∧(Lit.int .u32 x4).wf=true∧(Lit.int .u32 x5).wf=true∧(Lit.int .u32 x6).wf=true∧(Lit.int .u32 x7).wf=true:=by
 obtain⟨cs,rfl,hsz,_⟩:∃ cs,v = .agg cs∧cs.size=Tryz.prog.cellsOf 23∧Row.okWide Tryz.prog W r b0 23 cs:=by
  simpa [Value.okWide,Tryz.underlying23] using hv
 obtain⟨c0,c1,c2,c3,c4,c5,c6,c7,rfl⟩:=arr8 (hsz.trans Tryz.cellsN8);obtain⟨fuel,hf⟩:=h;have hf':DataW.trod enc Tryz.prog W base spare held fuel 23 [c0,c1,c2,c3,c4,c5,c6,c7]=some (d,p):=hf;obtain⟨xs,m,rfl,hx,_,hl,hel⟩:=DataW.trod_array Tryz.underlying23 hf'
 match xs,hl with
 | [y0,y1,y2,y3,y4,y5,y6,y7],_ =>
  have g0:=hel 0 (by decide);have g1:=hel 1 (by decide);have g2:=hel 2 (by decide);have g3:=hel 3 (by decide);have g4:=hel 4 (by decide);have g5:=hel 5 (by decide);have g6:=hel 6 (by decide);have g7:=hel 7 (by decide);rw [Tryz.cellsU32] at g0 g1 g2 g3 g4 g5 g6 g7;obtain⟨x0,e0,rfl,w0⟩:=DataW.trod_int Tryz.underlying22 g0;obtain⟨x1,e1,rfl,w1⟩:=DataW.trod_int Tryz.underlying22 g1;obtain⟨x2,e2,rfl,w2⟩:=DataW.trod_int Tryz.underlying22 g2;obtain⟨x3,e3,rfl,w3⟩:=DataW.trod_int Tryz.underlying22 g3;obtain⟨x4,e4,rfl,w4⟩:=DataW.trod_int Tryz.underlying22 g4;obtain⟨x5,e5,rfl,w5⟩:=DataW.trod_int Tryz.underlying22 g5;obtain⟨x6,e6,rfl,w6⟩:=DataW.trod_int Tryz.underlying22 g6;obtain⟨x7,e7,rfl,w7⟩:=DataW.trod_int Tryz.underlying22 g7
  simp at e0 e1 e2 e3 e4 e5 e6 e7
  subst e0 e1 e2 e3 e4 e5 e6 e7;simp only [Prod.mk.injEq] at hx;exact ⟨x0,x1,x2,x3,x4,x5,x6,x7,rfl,hx.1,hx.2,w0,w1,w2,w3,w4,w5,w6,w7⟩
theorem shut_u8 {H:Type} {enc:TypeId×Value→H} {W:World} {base:Nat} {spare:Nat→Bool} {held:Bool} {x0 x1 x2 x3 x4 x5 x6 x7:Int} (w0:(Lit.int .u32 x0).wf=true) (w1:(Lit.int .u32 x1).wf=true) (w2:(Lit.int .u32 x2).wf=true) (w3:(Lit.int .u32 x3).wf=true) (w4:(Lit.int .u32 x4).wf=true) (w5:(Lit.int .u32 x5).wf=true) (w6:(Lit.int .u32 x6).wf=true) (w7:(Lit.int .u32 x7).wf=true) :
  DataW.Trod enc Tryz.prog W base spare held 23 (.agg #[.int .u32 x0,.int .u32 x1,.int .u32 x2,.int .u32 x3,.int .u32 x4,.int .u32 x5,.int .u32 x6,.int .u32 x7]) (.agg [.lit (.int .u32 x0),.lit (.int .u32 x1),.lit (.int .u32 x2),.lit (.int .u32 x3),.lit (.int .u32 x4),.lit (.int .u32 x5),.lit (.int .u32 x6),.lit (.int .u32 x7)]) []:=
 ⟨2,by simp [DataW.trod,Value.cells,Tryz.underlying23,Tryz.underlying22,Tryz.cellsN8,Tryz.cellsU32,w0,w1,w2,w3,w4,w5,w6,w7,show List.range 8=[0,1,2,3,4,5,6,7] from rfl]⟩
end
end Go.Proofs.YtnaomilkgfkegaaGreat
