/- What is told of intervals has what is told of those within them. No conditions. -/
import Derived.Test.YtnaomilkgfkegaaGreatWA37
import Derived.Test.YtnaomilkgfkegaaGreatWA38
import Derived.ProofKit
import Derived.Carry
namespace Go.Proofs.YtnaomilkgfkegaaGreat
open Go.ChangeShapes Go.WideShapes Go.ChangeAt Go.RowKit
set_option maxRecDepth 100000 in
theorem pairsWithin_lifted (os:Os) (started:os.Started) (H:Type) (enc:TypeId×Value→H) :
   ReturnsInHanded {} Tryz.checked os 3 .any (Rows.pairsWithinSpec.pre6 enc Tryz.prog Tryz.f3 Rows.pairsWithinRow.domain false) (Rows.pairsWithinSpec.post enc Tryz.prog Tryz.f3 false true false false):=by
 refine returnsInHanded_of_change (C:=Tryz.checked) Tryz.own started (by kernel_rfl) Tryz.func3
   (ChangeSpec.witness6 (enc:=enc) (C:=Tryz.checked) false ⟨#[],#[.agg #[.int .u32 0,.int .u32 0,.int .u32 0,.int .u32 0,.int .u32 0,.int .u32 0,.int .u32 0,.int .u32 0],.agg #[.int .u32 0,.int .u32 0,.int .u32 0,.int .u32 0,.int .u32 0,.int .u32 0],.int .u8 0,.int .u8 0,.agg #[.int .u32 0,.int .u32 0,.int .u32 0,.int .u32 0,.int .u32 0,.int .u32 0],.agg #[.int .u32 0,.int .u32 0,.int .u32 0,.int .u32 0,.int .u32 0,.int .u32 0]],[]⟩ 8 (by kernel_rfl) (by kernel_rfl) (by kernel_rfl) (by kernel_rfl)) ?_
 intro W base args ds gs before hval0 hW hcnd _
 have hval:∀ (j:Nat) t v,Tryz.f3.params[j]? = some t→args[j]? = some v→Value.okWide Tryz.prog W .any base t v:=hval0
 have hW':=hW
 obtain⟨p,q,hA0,hV,rfl,hfz,hnd⟩:=hW
 have hA:DataW.TrodAll enc Tryz.prog W 0 (fun _=>true) true Tryz.f3.params.toList args.toList ds p:=hA0
 rw [Tryz.params3] at hA hval
 obtain⟨v0,v1,v2,v3,v4,v5,d0,d1,d2,d3,d4,d5,p0,p1,p2,p3,p4,p5,rfl,rfl,rfl,h0,h1,h2,h3,h4,h5⟩:=trodAll_six hA
 obtain⟨rfl,rfl⟩:=trodVars_none hV
 obtain⟨y0_0,y0_1,y0_2,y0_3,y0_4,y0_5,y0_6,y0_7,rfl,rfl,rfl,z0_0,z0_1,z0_2,z0_3,z0_4,z0_5,z0_6,z0_7⟩:=open_u8 (hval 0 23 v0 rfl rfl) h0
 obtain⟨y1_0,y1_1,y1_2,y1_3,y1_4,y1_5,rfl,rfl,rfl,z1_0,z1_1,z1_2,z1_3,z1_4,z1_5⟩:=open_u6 (hval 1 24 v1 rfl rfl) h1
 obtain⟨y2,rfl,rfl,rfl,wf2⟩:=open_int Tryz.underlying5 (hval 2 5 v2 rfl rfl) h2
 obtain⟨y3,rfl,rfl,rfl,wf3⟩:=open_int Tryz.underlying5 (hval 3 5 v3 rfl rfl) h3
 obtain⟨y4_0,y4_1,y4_2,y4_3,y4_4,y4_5,rfl,rfl,rfl,z4_0,z4_1,z4_2,z4_3,z4_4,z4_5⟩:=open_u6 (hval 4 24 v4 rfl rfl) h4
 obtain⟨y5_0,y5_1,y5_2,y5_3,y5_4,y5_5,rfl,rfl,rfl,z5_0,z5_1,z5_2,z5_3,z5_4,z5_5⟩:=open_u6 (hval 5 24 v5 rfl rfl) h5
 clear hA0 hval0
 simp only [List.append_nil] at hW'
 obtain⟨x0_0,rfl,c0_0⟩:=u32_nat z0_0
 obtain⟨x0_1,rfl,c0_1⟩:=u32_nat z0_1
 obtain⟨x0_2,rfl,c0_2⟩:=u32_nat z0_2
 obtain⟨x0_3,rfl,c0_3⟩:=u32_nat z0_3
 obtain⟨x0_4,rfl,c0_4⟩:=u32_nat z0_4
 obtain⟨x0_5,rfl,c0_5⟩:=u32_nat z0_5
 obtain⟨x0_6,rfl,c0_6⟩:=u32_nat z0_6
 obtain⟨x0_7,rfl,c0_7⟩:=u32_nat z0_7
 obtain⟨x1_0,rfl,c1_0⟩:=u32_nat z1_0
 obtain⟨x1_1,rfl,c1_1⟩:=u32_nat z1_1
 obtain⟨x1_2,rfl,c1_2⟩:=u32_nat z1_2
 obtain⟨x1_3,rfl,c1_3⟩:=u32_nat z1_3
 obtain⟨x1_4,rfl,c1_4⟩:=u32_nat z1_4
 obtain⟨x1_5,rfl,c1_5⟩:=u32_nat z1_5
 have b2:0≤y2∧y2 < 256:=by
   have:=wf2
   simp [Lit.wf] at this
   have e1:IntKind.u8.min=0:=by decide
   have e2:IntKind.u8.max=255:=by decide
   omega
 obtain⟨x2,rfl⟩:=Int.eq_ofNat_of_zero_le b2.1
 have l2_:x2 < 256:=by omega
 have b3:0≤y3∧y3 < 256:=by
   have:=wf3
   simp [Lit.wf] at this
   have e1:IntKind.u8.min=0:=by decide
   have e2:IntKind.u8.max=255:=by decide
   omega
 obtain⟨x3,rfl⟩:=Int.eq_ofNat_of_zero_le b3.1
 have l3_:x3 < 256:=by omega
 obtain⟨x4_0,rfl,c4_0⟩:=u32_nat z4_0
 obtain⟨x4_1,rfl,c4_1⟩:=u32_nat z4_1
 obtain⟨x4_2,rfl,c4_2⟩:=u32_nat z4_2
 obtain⟨x4_3,rfl,c4_3⟩:=u32_nat z4_3
 obtain⟨x4_4,rfl,c4_4⟩:=u32_nat z4_4
 obtain⟨x4_5,rfl,c4_5⟩:=u32_nat z4_5
 obtain⟨x5_0,rfl,c5_0⟩:=u32_nat z5_0
 obtain⟨x5_1,rfl,c5_1⟩:=u32_nat z5_1
 obtain⟨x5_2,rfl,c5_2⟩:=u32_nat z5_2
 obtain⟨x5_3,rfl,c5_3⟩:=u32_nat z5_3
 obtain⟨x5_4,rfl,c5_4⟩:=u32_nat z5_4
 obtain⟨x5_5,rfl,c5_5⟩:=u32_nat z5_5
 refine (pairswithin_any x0_0 x0_1 x0_2 x0_3 x0_4 x0_5 x0_6 x0_7 x1_0 x1_1 x1_2 x1_3 x1_4 x1_5 x2 x3 x4_0 x4_1 x4_2 x4_3 x4_4 x4_5 x5_0 x5_1 x5_2 x5_3 x5_4 x5_5 W c0_0 c0_1 c0_2 c0_3 c0_4 c0_5 c0_6 c0_7 c1_0 c1_1 c1_2 c1_3 c1_4 c1_5 l2_ l3_ c4_0 c4_1 c4_2 c4_3 c4_4 c4_5 c5_0 c5_1 c5_2 c5_3 c5_4 c5_5).mono fun e W' ⟨he,hw⟩=>?_
 subst he
 refine ⟨_,rfl,_,_,_,[],[],[],hW',trodAll_mk1 (shut_bool Tryz.underlying4 _),trodAll_mk6 (shut_u8 z0_0 z0_1 z0_2 z0_3 z0_4 z0_5 z0_6 z0_7) (shut_u6 z1_0 z1_1 z1_2 z1_3 z1_4 z1_5) (shut_int Tryz.underlying5 wf2) (shut_int Tryz.underlying5 wf3) (shut_u6 z4_0 z4_1 z4_2 z4_3 z4_4 z4_5) (shut_u6 z5_0 z5_1 z5_2 z5_3 z5_4 z5_5),rfl,hw.frame _,fun h=>by cases h⟩
theorem pairsWithin_holds:Rows.PairsWithinSaid:=
 OpenClaim.holds_of_wide 3 Tryz.f3 rfl rfl rfl rfl rfl rfl rfl ⟨rfl,rfl,rfl,rfl,rfl⟩ rfl rfl rfl rfl rfl (by kernel_rfl) Tryz.func3 (by kernel_rfl)
   (of_decide_eq_true (by kernel_rfl)) (by unfold Func.isWrapper; first | (rw [if_pos (by decide +kernel)]; kernel_rfl) | (rw [if_neg (by decide +kernel)]; exact ⟨rfl,rfl⟩))
   (fun os started H enc _=>pairsWithin_lifted os started H enc)
end Go.Proofs.YtnaomilkgfkegaaGreat