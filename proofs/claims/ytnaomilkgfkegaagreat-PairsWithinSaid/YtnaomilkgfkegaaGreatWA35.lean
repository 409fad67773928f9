/- What the claim stands on, part 36: PaH. -/
import Derived.Test.YtnaomilkgfkegaaGreatWA34
set_option maxRecDepth 100000
namespace Go.Proofs.YtnaomilkgfkegaaGreat
section
open Go.RowKit
theorem mul_told {a b:Res} (fa:Fit a) (fb:Fit b) (pb:Nat) (v:World) (h:Has1 v (pb,#[true])):Calls Tryz.prog 32 #[.pointer (some ⟨pb,0,none⟩),.agg #[a.lo,a.hi],.agg #[b.lo,b.hi]] v fun r w'=>r = .returned (.agg #[.float .f64 (mulR a b).lo,.float .f64 (mulR a b).hi])∧Put ⟨pb,0,none⟩ (.int .i64 (mulR a b).e) v w':=by
 have c:=cMul_any 0 a.lo a.hi b.lo b.hi pb 0 v fa.lo fa.hi fb.lo fb.hi h.pc h.pf;rw [step_two fa fb] at c
 exact c.mono fun _ _ ⟨h1,h2⟩=>⟨h1,h2⟩
theorem dot_told {A B:V3} (iA:InV A pdU) (iB:InV B pdU) (pb:Nat) (v:World) (h:Has1 v (pb,#[true])):Calls Tryz.prog 184 #[.pointer (some ⟨pb,0,none⟩),agV A,agV B] v fun r w'=>r = .returned (.agg #[.float .f64 (Mi.d5 A B).lo,.float .f64 (Mi.d5 A B).hi])∧Put ⟨pb,0,none⟩ (.int .i64 0) v w':=by
 have N:=dot_fits iA iB;have a1:stM 0 A.x B.x=Mi.d1 A B:=step_two iA.x.fit iB.x.fit _;have a2:stM 0 A.y B.y=Mi.d2 A B:=step_two iA.y.fit iB.y.fit _;have a3:stA 0 (Mi.d1 A B) (Mi.d2 A B)=Mi.d3 A B:=step_two N.d1 N.d2 _;have a4:stM 0 A.z B.z=Mi.d4 A B:=step_two iA.z.fit iB.z.fit _;have a5:stA 0 (Mi.d3 A B) (Mi.d4 A B)=Mi.d5 A B:=step_two N.d3 N.d4 _
 have e:dotV 0 A B=Mi.d5 A B:=by
  unfold dotV dot4 dot3 dot2 dot1;simp only [a1,N.d1.e,a2,N.d2.e,a3,N.d3.e,a4,N.d4.e,a5]
 have d:=dot_any (a:=A) (b:=B) 0 iA.fp.wd iB.fp.wd pb v h;rw [e,N.d5.e] at d;exact d
theorem edge_words {a:Res} (f:Fit a):(∀ ts t w,(Builtin.max_ ts t #[a.lo,(13830554455654793216:Nat)]).run Tryz.prog w = .ok (.float .f64 (maxW a.lo m1)) w)∧(∀ ts t w,(Builtin.min_ ts t #[.float .f64 (maxW a.lo m1),(4607182418800017408:Nat)]).run Tryz.prog w = .ok (.float .f64 (edgeR a).lo) w) ∧
  (∀ ts t w,(Builtin.max_ ts t #[a.hi,(13830554455654793216:Nat)]).run Tryz.prog w = .ok (.float .f64 (maxW a.hi m1)) w)∧(∀ ts t w,(Builtin.min_ ts t #[.float .f64 (maxW a.hi m1),(4607182418800017408:Nat)]).run Tryz.prog w = .ok (.float .f64 (edgeR a).hi) w):=by
 obtain⟨l1,l2,_⟩:=max_facts a.lo m1 f.lo (by decide) f.rlo (by decide);obtain⟨h1,h2,_⟩:=max_facts a.hi m1 f.hi (by decide) f.rhi (by decide);rw [edgeR_lo,edgeR_hi];exact ⟨fun ts t w=>(run_less a.lo m1 f.lo (by decide) f.rlo (by decide) ts t w).2,fun ts t w=>(run_less _ u1 l1 (by decide) l2 (by decide) ts t w).1,fun ts t w=>(run_less a.hi m1 f.hi (by decide) f.rhi (by decide) ts t w).2,fun ts t w=>(run_less _ u1 h1 (by decide) h2 (by decide) ts t w).1⟩
theorem bigN_fit:Fit bigN:=.of (by decide +kernel)
theorem bigM_fit:Fit bigM:=.of (by decide +kernel)
section
variable {a b c:Nat} (ha:In (oneR a) ouI) (hb:In (oneR b) ouI) (hc:In (oneR c) ouI)
include ha hb hc
theorem rightL_ok (w:World):Calls Tryz.prog 152 #[ndL a b c] w (Rt (.bool true) w):=
 rightL_walk w (feq_self ha.fit) (feq_self hb.fit) (feq_self hc.fit) (Hd fun q w h=>in_three1 ou_fit ha hb hc q w h rfl rfl rfl)
theorem RightL_ok:RigC (ndL a b c):=fun w=>RightL_walk w (Hd fun w=>kindOfL_walk w (Hd fun w=>rightL_ok ha hb hc w))
variable {A B:V3} (iA:InV A dU) (iB:InV B dU)
include iA iB
theorem askedL_ok (w:World):Calls Tryz.prog 24 #[ndL a b c,agV A,agV B] w (Rt (.tuple #[.agg #[.func (.func 152) #[] #[],.func (.func 153) #[] #[],.func (.func 154) #[] #[]],true]) w):=askedL_walk (c1:=Hd (dir_right iA)) (c2:=Hd (dir_right iB)) (c3:=Hd fun w=>kindOfL_walk w (Hd fun w=>rightL_ok ha hb hc w)) (c4:=Hd (dir_above iA)) (c5:=Hd (dir_above iB)) w
theorem ValL0_ok:ValC (ndL a b c) 0 A B (valueR (oneR a)) 0:=fun w=>ValueL_walk w (by decide) (by decide) (Hd fun w=>askedL_ok ha hb hc iA iB w) (Hd fun w=>valL_walk w (Hd (.inl ⟨rfl,rfl⟩)) (Hd fun w=>value_any ha w))
theorem ValL1_ok:ValC (ndL a b c) 1 A B (valueR (oneR b)) 0:=fun w=>ValueL_walk w (by decide) (by decide) (Hd fun w=>askedL_ok ha hb hc iA iB w) (Hd fun w=>valL_walk w (Hd (.inr (.inl ⟨rfl,rfl⟩))) (Hd fun w=>value_any hb w))
theorem ValL2_ok:ValC (ndL a b c) 2 A B (valueR (oneR c)) 0:=fun w=>ValueL_walk w (by decide) (by decide) (Hd fun w=>askedL_ok ha hb hc iA iB w) (Hd fun w=>valL_walk w (Hd (.inr (.inr ⟨rfl,rfl⟩))) (Hd fun w=>value_any hc w))
theorem ValL3_ok:ValC (ndL a b c) 3 A B (oneR 0) 2:=fun w=>ValueL3_walk w (Hd fun w=>askedL_ok ha hb hc iA iB w)
theorem DenL_ok:DenC (ndL a b c) A B (valueR A.z) 0:=fun w=>DensityL_walk w (Hd fun w=>askedL_ok ha hb hc iA iB w) (Hd fun w=>densL_walk w (Hd fun w=>density_any iA.z w))
end
section
variable {a b c s:Nat} (ha:In (oneR a) ouI) (hb:In (oneR b) ouI) (hc:In (oneR c) ouI) (hs:In (oneR s) ouI)
include ha hb hc hs
theorem rightO_ok (w:World):Calls Tryz.prog 155 #[ndO a b c s] w (Rt (.bool true) w):=
 rightO_walk w (feq_self ha.fit) (feq_self hb.fit) (feq_self hc.fit) (feq_self hs.fit) (Hd fun q w h=>in_one ou_fit hs q w h) (Hd fun q w h=>in_three1 ou_fit ha hb hc q w h rfl rfl rfl)
variable {A B:V3} (iA:InV A dU) (iB:InV B dU)
include iA iB
theorem askedO_ok (w:World):Calls Tryz.prog 24 #[ndO a b c s,agV A,agV B] w (Rt (.tuple #[.agg #[.func (.func 155) #[] #[],.func (.func 156) #[] #[],.func (.func 154) #[] #[]],true]) w):=askedO_walk (c1:=Hd (dir_right iA)) (c2:=Hd (dir_right iB)) (c3:=Hd fun w=>kindOfO_walk w (Hd fun w=>rightO_ok ha hb hc hs w)) (c4:=Hd (dir_above iA)) (c5:=Hd (dir_above iB)) w
theorem DenO_ok:DenC (ndO a b c s) A B (valueR A.z) 0:=fun w=>DensityO_walk w (Hd fun w=>askedO_ok ha hb hc hs iA iB w) (Hd fun w=>densO_walk w (Hd fun w=>density_any iA.z w))
theorem ValO0_ok (he:(Or.st A.z B.z (Pa.t A B)).e=0):ValC (ndO a b c s) 0 A B (Pa.oren (oneR a) (oneR s) A B) 0:=by
 intro w;obtain⟨e1,e2,e3,e4⟩:=edge_words (dot_fits iA iB).d5;exact ValueO_walk w (by decide) (by decide) (Hd fun w=>askedO_ok ha hb hc hs iA iB w) (Hd fun w=>valO_walk w (Hd (.inl ⟨rfl,rfl⟩)) (Hd (dot_told iA iB)) e1 e2 e3 e4 (Hd fun w=>value8 (d:=Pa.t A B) ha hs (pa_dirs iA iB) he w))
theorem ValO0_bad (he:(Or.st A.z B.z (Pa.t A B)).e≠0):ValC (ndO a b c s) 0 A B (oneR 0) (Or.st A.z B.z (Pa.t A B)).e:=by
 intro w;obtain⟨e1,e2,e3,e4⟩:=edge_words (dot_fits iA iB).d5;exact ValueO_walk w (by decide) (by decide) (Hd fun w=>askedO_ok ha hb hc hs iA iB w) (Hd fun w=>valO_walk w (Hd (.inl ⟨rfl,rfl⟩)) (Hd (dot_told iA iB)) e1 e2 e3 e4 (Hd fun w=>value8_bad (d:=Pa.t A B) ha hs (pa_dirs iA iB) he w))
theorem ValO1_ok (he:(Or.st A.z B.z (Pa.t A B)).e=0):ValC (ndO a b c s) 1 A B (Pa.oren (oneR b) (oneR s) A B) 0:=by
 intro w;obtain⟨e1,e2,e3,e4⟩:=edge_words (dot_fits iA iB).d5;exact ValueO_walk w (by decide) (by decide) (Hd fun w=>askedO_ok ha hb hc hs iA iB w) (Hd fun w=>valO_walk w (Hd (.inr (.inl ⟨rfl,rfl⟩))) (Hd (dot_told iA iB)) e1 e2 e3 e4 (Hd fun w=>value8 (d:=Pa.t A B) hb hs (pa_dirs iA iB) he w))
theorem ValO1_bad (he:(Or.st A.z B.z (Pa.t A B)).e≠0):ValC (ndO a b c s) 1 A B (oneR 0) (Or.st A.z B.z (Pa.t A B)).e:=by
 intro w;obtain⟨e1,e2,e3,e4⟩:=edge_words (dot_fits iA iB).d5;exact ValueO_walk w (by decide) (by decide) (Hd fun w=>askedO_ok ha hb hc hs iA iB w) (Hd fun w=>valO_walk w (Hd (.inr (.inl ⟨rfl,rfl⟩))) (Hd (dot_told iA iB)) e1 e2 e3 e4 (Hd fun w=>value8_bad (d:=Pa.t A B) hb hs (pa_dirs iA iB) he w))
theorem ValO2_ok (he:(Or.st A.z B.z (Pa.t A B)).e=0):ValC (ndO a b c s) 2 A B (Pa.oren (oneR c) (oneR s) A B) 0:=by
 intro w;obtain⟨e1,e2,e3,e4⟩:=edge_words (dot_fits iA iB).d5;exact ValueO_walk w (by decide) (by decide) (Hd fun w=>askedO_ok ha hb hc hs iA iB w) (Hd fun w=>valO_walk w (Hd (.inr (.inr ⟨rfl,rfl⟩))) (Hd (dot_told iA iB)) e1 e2 e3 e4 (Hd fun w=>value8 (d:=Pa.t A B) hc hs (pa_dirs iA iB) he w))
theorem ValO2_bad (he:(Or.st A.z B.z (Pa.t A B)).e≠0):ValC (ndO a b c s) 2 A B (oneR 0) (Or.st A.z B.z (Pa.t A B)).e:=by
 intro w;obtain⟨e1,e2,e3,e4⟩:=edge_words (dot_fits iA iB).d5;exact ValueO_walk w (by decide) (by decide) (Hd fun w=>askedO_ok ha hb hc hs iA iB w) (Hd fun w=>valO_walk w (Hd (.inr (.inr ⟨rfl,rfl⟩))) (Hd (dot_told iA iB)) e1 e2 e3 e4 (Hd fun w=>value8_bad (d:=Pa.t A B) hc hs (pa_dirs iA iB) he w))
end
section
variable {a n:Nat} (ha:In (oneR a) aI) (hn:In (oneR n) bigN)
include ha hn
theorem rightP_ok (w:World):Calls Tryz.prog 157 #[ndP a n] w (Rt (.bool true) w):=
 rightP_walk w (feq_self ha.fit) (feq_self hn.fit) (Hd fun q w h=>in_one aI_fit ha q w h) (Hd fun q w h=>in_one bigN_fit hn q w h)
variable {A B:V3} (iA:InV A dU) (iB:InV B dU)
include iA iB
theorem askedP_ok (w:World):Calls Tryz.prog 24 #[ndP a n,agV A,agV B] w (Rt (.tuple #[.agg #[.func (.func 157) #[] #[],.func (.func 158) #[] #[],.func (.func 159) #[] #[]],true]) w):=askedP_walk (c1:=Hd (dir_right iA)) (c2:=Hd (dir_right iB)) (c3:=Hd fun w=>kindOfP_walk w (Hd fun w=>rightP_ok ha hn w)) (c4:=Hd (dir_above iA)) (c5:=Hd (dir_above iB)) w
omit ha hn iA iB in
theorem ValP_arg {e:Int} (ne:e≠0) (hL:LookC A B (oneR a) (oneR 0) (oneR 0) (oneR 0) (oneR 0) e) (k:Int) (w:World):Calls Tryz.prog 158 #[ndP a n,.int .i64 k,agV A,agV B] w (Rt (.tuple #[.agg #[(),()],.int .i64 e]) w):=
 valP_walk w (Hd fun p w _=>mirP_arg w p (Hd hL) (by simpa using ne))
theorem ValP_all (K:KF A B (oneR a)) (k:Int) (w:World):Calls Tryz.prog 158 #[ndP a n,.int .i64 k,agV A,agV B] w (Rt (.tuple #[.agg #[.float .f64 (Pa.pl (oneR a) (oneR n) A B).lo,.float .f64 (Pa.pl (oneR a) (oneR n) A B).hi],.int .i64 (Pa.pl (oneR a) (oneR n) A B).e]) w):=by
 have hc:In (Mi.half A B) bigC:=(lean_u K.M).2;have cL:=look_good iA iB ha K
 have cD:=fun w=>diel_any hc hn w
 have cM:=mul_told K.K.val (di_unit hc hn).fit;unfold LookG LookC at cL;unfold Pa.pl;clear K hc;generalize Mi.val (Mi.lean A B) A.z B.z (oneR a)=V at *;generalize Mi.den (Mi.lean A B) B.z (oneR a)=E at *;generalize Di.out (Mi.half A B) (oneR n)=D at *;generalize Mi.half A B=H at *;generalize Mi.lean A B=L at *;generalize mulR V D=Z at *;exact valP_walk w (Hd fun p w h=>mirP_ok w p (Hd h) (Hd cL) (Hd fun v hv=>plit_walk v p (Hd hv) (Hd cD)) (Hd cM))
theorem DenP_ok {p' q' v' d':Res} {e:Int} (hL:LookC A B (oneR a) p' q' v' d' e):DenC (ndP a n) A B d' e:=fun w=>DensityP_walk w (Hd fun w=>askedP_ok ha hn iA iB w) (Hd fun w=>densP_walk w (Hd hL))
theorem ValP0_of {z:Res} {e:Int} (h:∀ w,Calls Tryz.prog 158 #[ndP a n,true,agV A,agV B] w (Rt (.tuple #[.agg #[z.lo,z.hi],.int .i64 e]) w)):ValC (ndP a n) 0 A B z e:=fun w=>ValueP_walk w (by decide) (by decide) (Hd fun w=>askedP_ok ha hn iA iB w) (Hd h)
theorem ValP1_of {z:Res} {e:Int} (h:∀ w,Calls Tryz.prog 158 #[ndP a n,.int .i64 1,agV A,agV B] w (Rt (.tuple #[.agg #[z.lo,z.hi],.int .i64 e]) w)):ValC (ndP a n) 1 A B z e:=fun w=>ValueP_walk w (by decide) (by decide) (Hd fun w=>askedP_ok ha hn iA iB w) (Hd h)
theorem ValP2_of {z:Res} {e:Int} (h:∀ w,Calls Tryz.prog 158 #[ndP a n,.int .i64 2,agV A,agV B] w (Rt (.tuple #[.agg #[z.lo,z.hi],.int .i64 e]) w)):ValC (ndP a n) 2 A B z e:=fun w=>ValueP_walk w (by decide) (by decide) (Hd fun w=>askedP_ok ha hn iA iB w) (Hd h)
end
section
variable {a p q j s t u:Nat} (ha:In (oneR a) aI) (hp:In (oneR p) bigM) (hq:In (oneR q) bigM) (hj:In (oneR j) bigM) (hs:In (oneR s) bigM) (ht:In (oneR t) bigM) (hu:In (oneR u) bigM)
include ha hp hq hj hs ht hu
theorem rightM_ok (w:World):Calls Tryz.prog 160 #[ndM a p q j s t u] w (Rt (.bool true) w):=
 rightM_walk w (feq_self hp.fit) (feq_self hq.fit) (feq_self hj.fit) (feq_self hs.fit) (feq_self ht.fit) (feq_self hu.fit) (feq_self ha.fit) (Hd fun q w h=>in_one aI_fit ha q w h) (Hd fun x w h=>in_three7 bigM_fit hp hq hj x w h rfl rfl rfl) (Hd fun x w h=>in_three10 bigM_fit hs ht hu x w h rfl rfl rfl)
variable {A B:V3} (iA:InV A dU) (iB:InV B dU)
include iA iB
theorem askedM_ok (w:World):Calls Tryz.prog 24 #[ndM a p q j s t u,agV A,agV B] w (Rt (.tuple #[.agg #[.func (.func 160) #[] #[],.func (.func 161) #[] #[],.func (.func 159) #[] #[]],true]) w):=askedM_walk (c1:=Hd (dir_right iA)) (c2:=Hd (dir_right iB)) (c3:=Hd fun w=>kindOfM_walk w (Hd fun w=>rightM_ok ha hp hq hj hs ht hu w)) (c4:=Hd (dir_above iA)) (c5:=Hd (dir_above iB)) w
omit ha hp hq hj hs ht hu iA iB in
theorem ValM0_arg {e:Int} (ne:e≠0) (hL:LookC A B (oneR a) (oneR 0) (oneR 0) (oneR 0) (oneR 0) e) (w:World):Calls Tryz.prog 161 #[ndM a p q j s t u,true,agV A,agV B] w (Rt (.tuple #[.agg #[(),()],.int .i64 e]) w):=
 valM_walk w (Hd fun x y w _ _=>mirM_arg w x y (Hd hL) (by simpa using ne))
omit hq hj ht hu in
theorem ValM0_bad (K:KF A B (oneR a)) (he:(Co.r33 (Mi.half A B) (oneR p) (oneR s)).e≠0) (w:World):Calls Tryz.prog 161 #[ndM a p q j s t u,true,agV A,agV B] w (Rt (.tuple #[.agg #[(),()],.int .i64 (Co.r33 (Mi.half A B) (oneR p) (oneR s)).e]) w):=by
 have hcc:In (Mi.half A B) bigC:=(lean_u K.M).2;have cL:=look_good iA iB ha K
 have cD:=fun w=>cond_none hcc hp hs w he
 unfold LookG LookC at cL;clear K hcc;generalize Mi.val (Mi.lean A B) A.z B.z (oneR a)=V at *;generalize Mi.den (Mi.lean A B) B.z (oneR a)=E at *;generalize (Co.r33 (Mi.half A B) (oneR p) (oneR s)).e=er at *;generalize Mi.half A B=H at *;generalize Mi.lean A B=L at *;exact valM_walk w (Hd fun x y w g1 g2=>mirM_bad w x (Hd g1) y (Hd g2) (Hd cL) (Hd fun v h1 h2=>mlit_walk v (Hd (.inl ⟨rfl,rfl,rfl⟩)) x y (Hd h1) (Hd h2) (Hd cD)) (by simpa using he))
omit hq hj ht hu in
theorem ValM0_all (K:KF A B (oneR a)) (he:(Co.r33 (Mi.half A B) (oneR p) (oneR s)).e=0) (w:World):Calls Tryz.prog 161 #[ndM a p q j s t u,true,agV A,agV B] w (Rt (.tuple #[.agg #[.float .f64 (Pa.me (oneR a) (oneR p) (oneR s) A B).lo,.float .f64 (Pa.me (oneR a) (oneR p) (oneR s) A B).hi],.int .i64 (Pa.me (oneR a) (oneR p) (oneR s) A B).e]) w):=by
 have hcc:In (Mi.half A B) bigC:=(lean_u K.M).2;have cL:=look_good iA iB ha K
 have cD:=fun w=>cond_some hcc hp hs w he
 have cM:=mul_told K.K.val (co_unit hcc hp hs he).fit;unfold LookG LookC at cL;unfold Pa.me;clear K hcc he;generalize Mi.val (Mi.lean A B) A.z B.z (oneR a)=V at *;generalize Mi.den (Mi.lean A B) B.z (oneR a)=E at *;generalize Co.f (Mi.half A B) (oneR p) (oneR s)=D at *;generalize Mi.half A B=H at *;generalize Mi.lean A B=L at *;generalize mulR V D=Z at *;exact valM_walk w (Hd fun x y w g1 g2=>mirM_ok w x (Hd g1) y (Hd g2) (Hd cL) (Hd fun v h1 h2=>mlit_walk v (Hd (.inl ⟨rfl,rfl,rfl⟩)) x y (Hd h1) (Hd h2) (Hd cD)) (Hd cM))
omit ha hp hq hj hs ht hu iA iB in
theorem ValM1_arg {e:Int} (ne:e≠0) (hL:LookC A B (oneR a) (oneR 0) (oneR 0) (oneR 0) (oneR 0) e) (w:World):Calls Tryz.prog 161 #[ndM a p q j s t u,.int .i64 1,agV A,agV B] w (Rt (.tuple #[.agg #[(),()],.int .i64 e]) w):=
 valM_walk w (Hd fun x y w _ _=>mirM_arg w x y (Hd hL) (by simpa using ne))
omit hp hj hs hu in
theorem ValM1_bad (K:KF A B (oneR a)) (he:(Co.r33 (Mi.half A B) (oneR q) (oneR t)).e≠0) (w:World):Calls Tryz.prog 161 #[ndM a p q j s t u,.int .i64 1,agV A,agV B] w (Rt (.tuple #[.agg #[(),()],.int .i64 (Co.r33 (Mi.half A B) (oneR q) (oneR t)).e]) w):=by
 have hcc:In (Mi.half A B) bigC:=(lean_u K.M).2;have cL:=look_good iA iB ha K
 have cD:=fun w=>cond_none hcc hq ht w he
 unfold LookG LookC at cL;clear K hcc;generalize Mi.val (Mi.lean A B) A.z B.z (oneR a)=V at *;generalize Mi.den (Mi.lean A B) B.z (oneR a)=E at *;generalize (Co.r33 (Mi.half A B) (oneR q) (oneR t)).e=er at *;generalize Mi.half A B=H at *;generalize Mi.lean A B=L at *;exact valM_walk w (Hd fun x y w g1 g2=>mirM_bad w x (Hd g1) y (Hd g2) (Hd cL) (Hd fun v h1 h2=>mlit_walk v (Hd (.inr (.inl ⟨rfl,rfl,rfl⟩))) x y (Hd h1) (Hd h2) (Hd cD)) (by simpa using he))
omit hp hj hs hu in
theorem ValM1_all (K:KF A B (oneR a)) (he:(Co.r33 (Mi.half A B) (oneR q) (oneR t)).e=0) (w:World):Calls Tryz.prog 161 #[ndM a p q j s t u,.int .i64 1,agV A,agV B] w (Rt (.tuple #[.agg #[.float .f64 (Pa.me (oneR a) (oneR q) (oneR t) A B).lo,.float .f64 (Pa.me (oneR a) (oneR q) (oneR t) A B).hi],.int .i64 (Pa.me (oneR a) (oneR q) (oneR t) A B).e]) w):=by
 have hcc:In (Mi.half A B) bigC:=(lean_u K.M).2;have cL:=look_good iA iB ha K
 have cD:=fun w=>cond_some hcc hq ht w he
 have cM:=mul_told K.K.val (co_unit hcc hq ht he).fit;unfold LookG LookC at cL;unfold Pa.me;clear K hcc he;generalize Mi.val (Mi.lean A B) A.z B.z (oneR a)=V at *;generalize Mi.den (Mi.lean A B) B.z (oneR a)=E at *;generalize Co.f (Mi.half A B) (oneR q) (oneR t)=D at *;generalize Mi.half A B=H at *;generalize Mi.lean A B=L at *;generalize mulR V D=Z at *;exact valM_walk w (Hd fun x y w g1 g2=>mirM_ok w x (Hd g1) y (Hd g2) (Hd cL) (Hd fun v h1 h2=>mlit_walk v (Hd (.inr (.inl ⟨rfl,rfl,rfl⟩))) x y (Hd h1) (Hd h2) (Hd cD)) (Hd cM))
omit ha hp hq hj hs ht hu iA iB in
theorem ValM2_arg {e:Int} (ne:e≠0) (hL:LookC A B (oneR a) (oneR 0) (oneR 0) (oneR 0) (oneR 0) e) (w:World):Calls Tryz.prog 161 #[ndM a p q j s t u,.int .i64 2,agV A,agV B] w (Rt (.tuple #[.agg #[(),()],.int .i64 e]) w):=
 valM_walk w (Hd fun x y w _ _=>mirM_arg w x y (Hd hL) (by simpa using ne))
omit hp hq hs ht in
theorem ValM2_bad (K:KF A B (oneR a)) (he:(Co.r33 (Mi.half A B) (oneR j) (oneR u)).e≠0) (w:World):Calls Tryz.prog 161 #[ndM a p q j s t u,.int .i64 2,agV A,agV B] w (Rt (.tuple #[.agg #[(),()],.int .i64 (Co.r33 (Mi.half A B) (oneR j) (oneR u)).e]) w):=by
 have hcc:In (Mi.half A B) bigC:=(lean_u K.M).2;have cL:=look_good iA iB ha K
 have cD:=fun w=>cond_none hcc hj hu w he
 unfold LookG LookC at cL;clear K hcc;generalize Mi.val (Mi.lean A B) A.z B.z (oneR a)=V at *;generalize Mi.den (Mi.lean A B) B.z (oneR a)=E at *;generalize (Co.r33 (Mi.half A B) (oneR j) (oneR u)).e=er at *;generalize Mi.half A B=H at *;generalize Mi.lean A B=L at *;exact valM_walk w (Hd fun x y w g1 g2=>mirM_bad w x (Hd g1) y (Hd g2) (Hd cL) (Hd fun v h1 h2=>mlit_walk v (Hd (.inr (.inr ⟨rfl,rfl,rfl⟩))) x y (Hd h1) (Hd h2) (Hd cD)) (by simpa using he))
omit hp hq hs ht in
theorem ValM2_all (K:KF A B (oneR a)) (he:(Co.r33 (Mi.half A B) (oneR j) (oneR u)).e=0) (w:World):Calls Tryz.prog 161 #[ndM a p q j s t u,.int .i64 2,agV A,agV B] w (Rt (.tuple #[.agg #[.float .f64 (Pa.me (oneR a) (oneR j) (oneR u) A B).lo,.float .f64 (Pa.me (oneR a) (oneR j) (oneR u) A B).hi],.int .i64 (Pa.me (oneR a) (oneR j) (oneR u) A B).e]) w):=by
 have hcc:In (Mi.half A B) bigC:=(lean_u K.M).2;have cL:=look_good iA iB ha K
 have cD:=fun w=>cond_some hcc hj hu w he
 have cM:=mul_told K.K.val (co_unit hcc hj hu he).fit;unfold LookG LookC at cL;unfold Pa.me;clear K hcc he;generalize Mi.val (Mi.lean A B) A.z B.z (oneR a)=V at *;generalize Mi.den (Mi.lean A B) B.z (oneR a)=E at *;generalize Co.f (Mi.half A B) (oneR j) (oneR u)=D at *;generalize Mi.half A B=H at *;generalize Mi.lean A B=L at *;generalize mulR V D=Z at *;exact valM_walk w (Hd fun x y w g1 g2=>mirM_ok w x (Hd g1) y (Hd g2) (Hd cL) (Hd fun v h1 h2=>mlit_walk v (Hd (.inr (.inr ⟨rfl,rfl,rfl⟩))) x y (Hd h1) (Hd h2) (Hd cD)) (Hd cM))
theorem DenM_ok {p' q' v' d':Res} {e:Int} (hL:LookC A B (oneR a) p' q' v' d' e):DenC (ndM a p q j s t u) A B d' e:=fun w=>DensityM_walk w (Hd fun w=>askedM_ok ha hp hq hj hs ht hu iA iB w) (Hd fun w=>densM_walk w (Hd hL))
theorem ValM0_of {z:Res} {e:Int} (h:∀ w,Calls Tryz.prog 161 #[ndM a p q j s t u,true,agV A,agV B] w (Rt (.tuple #[.agg #[z.lo,z.hi],.int .i64 e]) w)):ValC (ndM a p q j s t u) 0 A B z e:=fun w=>ValueM_walk w (by decide) (by decide) (Hd fun w=>askedM_ok ha hp hq hj hs ht hu iA iB w) (Hd h)
theorem ValM1_of {z:Res} {e:Int} (h:∀ w,Calls Tryz.prog 161 #[ndM a p q j s t u,.int .i64 1,agV A,agV B] w (Rt (.tuple #[.agg #[z.lo,z.hi],.int .i64 e]) w)):ValC (ndM a p q j s t u) 1 A B z e:=fun w=>ValueM_walk w (by decide) (by decide) (Hd fun w=>askedM_ok ha hp hq hj hs ht hu iA iB w) (Hd h)
theorem ValM2_of {z:Res} {e:Int} (h:∀ w,Calls Tryz.prog 161 #[ndM a p q j s t u,.int .i64 2,agV A,agV B] w (Rt (.tuple #[.agg #[z.lo,z.hi],.int .i64 e]) w)):ValC (ndM a p q j s t u) 2 A B z e:=fun w=>ValueM_walk w (by decide) (by decide) (Hd fun w=>askedM_ok ha hp hq hj hs ht hu iA iB w) (Hd h)
end
end
end Go.Proofs.YtnaomilkgfkegaaGreat
