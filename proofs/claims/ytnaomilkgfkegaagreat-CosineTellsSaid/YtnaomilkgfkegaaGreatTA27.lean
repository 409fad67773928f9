/- What the claim stands on, part 28: QOpen, OPW. -/
import Derived.Test.YtnaomilkgfkegaaGreatTA0
import Derived.ProofKit
import Derived.Lib.SmallJoins
import Derived.Laws.Cover2
import Derived.OpenShut
import Derived.Deep.Strs
set_option maxRecDepth 100000
namespace Go.Proofs.YtnaomilkgfkegaaGreat
section
open Go.ChangeShapes Go.WideShapes Go.ChangeAt Go.RowKit Go.Joins
theorem Tryz.own:ownKnob Tryz.prog.godebug=none:=by kernel_rfl
theorem Tryz.cellsIv:Tryz.prog.cellsOf 31=2:=by kernel_rfl
theorem trod_float {H:Type} {enc:TypeId×Value→H} {P:Program} {w:World} {base:Nat} {spare:Nat→Bool} {held:Bool} {fuel:Nat} {t:TypeId} {k:FloatKind} {v:Value} {x:DataW H×List MemPlace} (ht:P.underlying t=some (.float k)) (h:DataW.trod enc P w base spare held fuel t [v]=some x) :
   ∃ n,v = .float k n∧x=(.lit (.float k n),[])∧(Lit.float k n).wf=true:=by
 cases fuel with
 | zero=>simp [DataW.trod] at h
 | succ n =>
   unfold DataW.trod at h
   rw [ht] at h
   split at h <;> simp_all
end
section
open Go.ChangeShapes Go.WideShapes Go.ChangeAt Go.RowKit Go.Joins Go.Deep
end
section
open Go.ChangeShapes Go.WideShapes Go.ChangeAt Go.RowKit Go.Joins Go.Deep
theorem Tryz.cellsVec:Tryz.prog.cellsOf 33=6:=by kernel_rfl
theorem array6 {α:Type} {cs:Array α} (h:cs.size=6):∃ c0 c1 c2 c3 c4 c5,cs=#[c0,c1,c2,c3,c4,c5]:=by
 obtain⟨l⟩:=cs
 match l,h with
 | [c0,c1,c2,c3,c4,c5],_=>exact ⟨c0,c1,c2,c3,c4,c5,rfl⟩
theorem trod_iv2 {H:Type} {enc:TypeId×Value→H} {w:World} {base:Nat} {spare:Nat→Bool} {held:Bool} {fuel:Nat} {v0 v1:Value} {x:DataW H×List MemPlace} (h:DataW.trod enc Tryz.prog w base spare held fuel 31 [v0,v1]=some x) :
   ∃ lo hi,v0 = .float .f64 lo∧v1 = .float .f64 hi∧x=(.agg [.lit (.float .f64 lo),.lit (.float .f64 hi)],[])∧(Lit.float .f64 lo).wf=true∧(Lit.float .f64 hi).wf=true:=by
 obtain⟨y0,y1,n,hx,_,h0,h1⟩:=trod_struct2 Tryz.underlying31 h
 have k:Tryz.prog.cellsOf 25=1:=by kernel_rfl
 have h0':DataW.trod enc Tryz.prog w base spare held n 25 [v0]=some y0:=by rw [k] at h0; exact h0
 have h1':DataW.trod enc Tryz.prog w base spare held n 25 [v1]=some y1:=by rw [k] at h1; exact h1
 obtain⟨lo,rfl,rfl,w0⟩:=trod_float Tryz.underlying25 h0'
 obtain⟨hi,rfl,rfl,w1⟩:=trod_float Tryz.underlying25 h1'
 exact ⟨lo,hi,rfl,rfl,hx,w0,w1⟩
theorem open_vec {H:Type} {enc:TypeId×Value→H} {W:World} {base:Nat} {spare:Nat→Bool} {held:Bool} {r:Reach} {b0:Nat} {v:Value} {d:DataW H} {p:List MemPlace} (hv:Value.okWide Tryz.prog W r b0 33 v) (h:DataW.Trod enc Tryz.prog W base spare held 33 v d p) :
   ∃ a b c e f g,v = .agg #[.float .f64 a,.float .f64 b,.float .f64 c,.float .f64 e,.float .f64 f,.float .f64 g] ∧
     d = .agg [.agg [.lit (.float .f64 a),.lit (.float .f64 b)],.agg [.lit (.float .f64 c),.lit (.float .f64 e)],.agg [.lit (.float .f64 f),.lit (.float .f64 g)]]∧p=[] ∧
     (Lit.float .f64 a).wf=true∧(Lit.float .f64 b).wf=true∧(Lit.float .f64 c).wf=true∧(Lit.float .f64 e).wf=true∧(Lit.float .f64 f).wf=true∧(Lit.float .f64 g).wf=true:=by
 obtain⟨cs,rfl,hsz⟩:=okWide_struct Tryz.underlying33 hv
 obtain⟨c0,c1,c2,c3,c4,c5,rfl⟩:=array6 (hsz.trans Tryz.cellsVec)
 obtain⟨fuel,hf⟩:=h
 have hf':DataW.trod enc Tryz.prog W base spare held fuel 33 [c0,c1,c2,c3,c4,c5]=some (d,p):=hf
 obtain⟨y0,y1,y2,n,hx,_,h0,h1,h2⟩:=trod_struct3 Tryz.underlying33 hf'
 have h0':DataW.trod enc Tryz.prog W base spare held n 31 [c0,c1]=some y0:=by rw [Tryz.cellsIv] at h0; exact h0
 have h1':DataW.trod enc Tryz.prog W base spare held n 31 [c2,c3]=some y1:=by rw [Tryz.cellsIv] at h1; exact h1
 have h2':DataW.trod enc Tryz.prog W base spare held n 31 [c4,c5]=some y2:=by rw [Tryz.cellsIv] at h2; exact h2
 obtain⟨a,b,rfl,rfl,rfl,w0,w1⟩:=trod_iv2 h0'
 obtain⟨c,e,rfl,rfl,rfl,w2,w3⟩:=trod_iv2 h1'
 obtain⟨f,g,rfl,rfl,rfl,w4,w5⟩:=trod_iv2 h2'
 simp only [Prod.mk.injEq] at hx
 exact ⟨a,b,c,e,f,g,rfl,hx.1,hx.2,w0,w1,w2,w3,w4,w5⟩
theorem trod_float_one {H:Type} {enc:TypeId×Value→H} {P:Program} {w:World} {base:Nat} {spare:Nat→Bool} {held:Bool} {t:TypeId} {k:FloatKind} {n:Nat} (m:Nat) (ht:P.underlying t=some (.float k)) (hw:(Lit.float k n).wf=true):DataW.trod enc P w base spare held (m+1) t [.float k n]=some (.lit (.float k n),[]):=by
 simp [DataW.trod,ht,hw]
theorem trod_iv2_mk {H:Type} {enc:TypeId×Value→H} {w:World} {base:Nat} {spare:Nat→Bool} {held:Bool} {lo hi:Nat} (w0:(Lit.float .f64 lo).wf=true) (w1:(Lit.float .f64 hi).wf=true) :
   DataW.trod enc Tryz.prog w base spare held 2 31 [.float .f64 lo,.float .f64 hi]=some (.agg [.lit (.float .f64 lo),.lit (.float .f64 hi)],[]):=by
 have k:Tryz.prog.cellsOf 25=1:=by kernel_rfl
 have h0:DataW.trod enc Tryz.prog w base spare held 1 25 (([.float .f64 lo,.float .f64 hi].drop 0).take (Tryz.prog.cellsOf 25))=some (.lit (.float .f64 lo),[]):=by rw [k]; exact trod_float_one 0 Tryz.underlying25 w0
 have h1:DataW.trod enc Tryz.prog w base spare held 1 25 (([.float .f64 lo,.float .f64 hi].drop 1).take (Tryz.prog.cellsOf 25))=some (.lit (.float .f64 hi),[]):=by rw [k]; exact trod_float_one 0 Tryz.underlying25 w1
 exact trod_struct2_mk Tryz.underlying31 (by rw [Tryz.cellsIv]; rfl) h0 h1
theorem shut_vec {H:Type} {enc:TypeId×Value→H} {W:World} {base:Nat} {spare:Nat→Bool} {held:Bool} {a b c e f g:Nat} (w0:(Lit.float .f64 a).wf=true) (w1:(Lit.float .f64 b).wf=true) (w2:(Lit.float .f64 c).wf=true) (w3:(Lit.float .f64 e).wf=true) (w4:(Lit.float .f64 f).wf=true) (w5:(Lit.float .f64 g).wf=true) :
   DataW.Trod enc Tryz.prog W base spare held 33 (.agg #[.float .f64 a,.float .f64 b,.float .f64 c,.float .f64 e,.float .f64 f,.float .f64 g]) (.agg [.agg [.lit (.float .f64 a),.lit (.float .f64 b)],.agg [.lit (.float .f64 c),.lit (.float .f64 e)],.agg [.lit (.float .f64 f),.lit (.float .f64 g)]]) []:=by
 have h0:DataW.trod enc Tryz.prog W base spare held 2 31 (([.float .f64 a,.float .f64 b,.float .f64 c,.float .f64 e,.float .f64 f,.float .f64 g].drop 0).take (Tryz.prog.cellsOf 31))=some (.agg [.lit (.float .f64 a),.lit (.float .f64 b)],[]):=by rw [Tryz.cellsIv]; exact trod_iv2_mk w0 w1
 have h1:DataW.trod enc Tryz.prog W base spare held 2 31 (([.float .f64 a,.float .f64 b,.float .f64 c,.float .f64 e,.float .f64 f,.float .f64 g].drop 2).take (Tryz.prog.cellsOf 31))=some (.agg [.lit (.float .f64 c),.lit (.float .f64 e)],[]):=by rw [Tryz.cellsIv]; exact trod_iv2_mk w2 w3
 have h2:DataW.trod enc Tryz.prog W base spare held 2 31 (([.float .f64 a,.float .f64 b,.float .f64 c,.float .f64 e,.float .f64 f,.float .f64 g].drop 4).take (Tryz.prog.cellsOf 31))=some (.agg [.lit (.float .f64 f),.lit (.float .f64 g)],[]):=by rw [Tryz.cellsIv]; exact trod_iv2_mk w4 w5
 exact ⟨3,trod_struct3_mk Tryz.underlying33 (by rw [Tryz.cellsVec]; rfl) h0 h1 h2⟩
end
end Go.Proofs.YtnaomilkgfkegaaGreat
