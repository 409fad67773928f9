
/- The law IvalTells answers true. -/
import Derived.Test.YtmcecchcbfhfcaaGreatQRcZ
import Derived.Test.YtmcecchcbfhfcaaGreatQLess
import Derived.Deep.CutRange
import Derived.Deep.RegionHeld3
import Derived.LoopTactic
namespace Go.Proofs.YtmcecchcbfhfcaaGreat
open Go.RowKit
attribute [local go_sem] run_store_float

/-- The region of that number. -/
def itRegionOf (n : Nat) : Code → Option Code
  | .region k ops b => if k = n then some (.region k ops b) else none
  | .seq a b => match itRegionOf n a with
    | some c => some c
    | none => itRegionOf n b
  | .cond _ a b => match itRegionOf n a with
    | some c => some c
    | none => itRegionOf n b
  | .block _ c => itRegionOf n c
  | .loop c => itRegionOf n c
  | .scope c => itRegionOf n c
  | _ => none
noncomputable def itReg (n : Nat) : Code := ((Tryz.f3.body.bind (itRegionOf n)).getD .skip)

theorem held_more {P : Program} {md : Region.Mode} {ops : Array Oper} {Q : Exit → Act → World → Prop} {S S' : World → Prop} (h : ∀ w, S' w → S w) : ∀ (n : Nat) (L : Array Bool) (a : Act) (w : World), wpAnyH P md ops Q S' n L a w → wpAnyH P md ops Q S n L a w
  | 0, _, _, _, k => k
  | n + 1, _, _, _, k => ⟨k.1, fun i hi => wpOp_mono (fun _ _ q => ⟨h _ q.1, held_more h n _ _ _ q.2⟩) (k.2 i hi)⟩

/-- Two calculators (c, d), a fresh one (f), an op (o): blocks of the call's own, apart from one another. -/
structure Four (w : World) (o f c d : Nat) (O : Array Value) (ef ec ed : Int) (v : World) : Prop where
  base : Below w.heap.size w v
  ho : Has1 v (o, O)
  hf : Has1 v (f, #[.int .i64 ef])
  hc : Has1 v (c, #[.int .i64 ec])
  hd : Has1 v (d, #[.int .i64 ed])
structure Apart (w : World) (o f c d : Nat) : Prop where
  lf : w.heap.size ≤ f
  lc : w.heap.size ≤ c
  ld : w.heap.size ≤ d
  of : f ≠ o
  oc : c ≠ o
  od : d ≠ o
  fc : f ≠ c
  fd : f ≠ d
  cd : c ≠ d
section
variable {w v v' : World} {o f c d : Nat} {O : Array Value} {ef ec ed e' : Int}
theorem Four.below (h : Four w o f c d O ef ec ed v) (hb : Below v.heap.size v v') : Four w o f c d O ef ec ed v' :=
  ⟨h.base.trans (hb.mono h.base.size), h.ho.below hb, h.hf.below hb, h.hc.below hb, h.hd.below hb⟩
theorem Four.drew (h : Four w o f c d O ef ec ed v) : Four w o f c d O ef ec ed v.drew := ⟨h.base.drew, h.ho, h.hf, h.hc, h.hd⟩
theorem Four.made (h : Four w o f c d O ef ec ed v) (x : Array Value) (t : TypeId) : Four w o f c d O ef ec ed (v.alloc (.cells x t)) := h.below (bel1 _ _)
theorem Four.putc (h : Four w o f c d O ef ec ed v) (A : Apart w o f c d) (hp : Put ⟨c, 0, none⟩ (.int .i64 e') v v') : Four w o f c d O ef e' ed v' :=
  ⟨h.base.trans (hp.lift A.lc h.base.size), h.ho.put A.oc hp, h.hf.put (Ne.symm A.fc) hp, h.hc.own hp, h.hd.put A.cd hp⟩
theorem Four.putd (h : Four w o f c d O ef ec ed v) (A : Apart w o f c d) (hp : Put ⟨d, 0, none⟩ (.int .i64 e') v v') : Four w o f c d O ef ec e' v' :=
  ⟨h.base.trans (hp.lift A.ld h.base.size), h.ho.put A.od hp, h.hf.put (Ne.symm A.fd) hp, h.hc.put (Ne.symm A.cd) hp, h.hd.own hp⟩
theorem Four.putf (h : Four w o f c d O ef ec ed v) (A : Apart w o f c d) (hp : Put ⟨f, 0, none⟩ (.int .i64 e') v v') : Four w o f c d O e' ec ed v' :=
  ⟨h.base.trans (hp.lift A.lf h.base.size), h.ho.put A.of hp, h.hf.own hp, h.hc.put A.fc hp, h.hd.put A.fd hp⟩
/-- A block beside them is put. -/
theorem Four.putx (h : Four w o f c d O ef ec ed v) {x : Nat} (lx : w.heap.size ≤ x) (nx : x ≠ o ∧ x ≠ f ∧ x ≠ c ∧ x ≠ d) {y : Value} (hp : Put ⟨x, 0, none⟩ y v v') : Four w o f c d O ef ec ed v' :=
  ⟨h.base.trans (hp.lift lx h.base.size), h.ho.put nx.1 hp, h.hf.put nx.2.1 hp, h.hc.put nx.2.2.1 hp, h.hd.put nx.2.2.2 hp⟩
theorem Four.new (h : Four w o f c d O ef ec ed v) : w.heap.size ≤ v.heap.size ∧ v.heap.size ≠ o ∧ v.heap.size ≠ f ∧ v.heap.size ≠ c ∧ v.heap.size ≠ d :=
  ⟨h.base.size, Ne.symm (Nat.ne_of_lt h.ho.1), Ne.symm (Nat.ne_of_lt h.hf.1), Ne.symm (Nat.ne_of_lt h.hc.1), Ne.symm (Nat.ne_of_lt h.hd.1)⟩
end
/-- A block beside them: where it is. -/
structure Beyond (w : World) (o f c d x : Nat) (v : World) : Prop where
  has : Has1 v (x, #[.int .i64 0])
  low : w.heap.size ≤ x
  ne : x ≠ o ∧ x ≠ f ∧ x ≠ c ∧ x ≠ d
theorem Beyond.made {w v : World} {o f c d : Nat} {O : Array Value} {ef ec ed : Int} (h : Four w o f c d O ef ec ed v) (t : TypeId) : Beyond w o f c d v.heap.size (v.alloc (.cells #[.int .i64 0] t)) :=
  ⟨Has1.made _ _ _, h.new.1, h.new.2⟩
theorem Beyond.putf {w v v' : World} {o f c d x : Nat} {y : Value} (h : Beyond w o f c d x v) (hp : Put ⟨f, 0, none⟩ y v v') : Beyond w o f c d x v' :=
  ⟨h.has.put (Ne.symm h.ne.2.1) hp, h.low, h.ne⟩

theorem Four.more {w v : World} {o f c d n al ah bl bh : Nat} {ef ec ed : Int} (h : Four w o f c d #[.int .u8 n, .float .f64 al, .float .f64 ah, .float .f64 bl, .float .f64 bh] ef ec ed v) :
    v.cell? ⟨o, 0, none⟩ = some (.int .u8 n) ∧ v.cell? ⟨o, 1, none⟩ = some (.float .f64 al) ∧ v.cell? ⟨o, 2, none⟩ = some (.float .f64 ah) ∧ v.cell? ⟨o, 3, none⟩ = some (.float .f64 bl) ∧ v.cell? ⟨o, 4, none⟩ = some (.float .f64 bh) ∧ v.cell? ⟨d, 0, none⟩ = some (.int .i64 ed) :=
  ⟨h.ho.2.1 0, h.ho.2.1 1, h.ho.2.1 2, h.ho.2.1 3, h.ho.2.1 4, h.hd.2.1 0⟩
/-- Behind the round's test. -/
def ItCut (w : World) (o f c d : Nat) (O : Array Value) (e : Int) (p : Value) (wx : World) : Prop := p = .bool false ∧ ∃ ef, Four w o f c d O ef e e wx

end Go.Proofs.YtmcecchcbfhfcaaGreat

namespace Go.Proofs.YtmcecchcbfhfcaaGreat
open Go.RowKit
attribute [local go_sem] run_store_float

set_option maxRecDepth 1000000 in
set_option maxHeartbeats 16000000 in
theorem it_r5 {al ah bl bh A B p q x n : Nat} {V : Res} {g : Int} {rt hs : Bool} {w wr : World} (M : Hid (Mem w [(q, #[.float .f64 V.lo, .float .f64 V.hi]), (p, #[.float .f64 V.lo, .float .f64 V.hi]), (B, #[.float .f64 bl, .float .f64 bh]), (A, #[.float .f64 al, .float .f64 ah])] wr))
    (c1 : Hid (∀ v : World, Calls Tryz.prog 10 #[.agg #[.float .f64 al, .float .f64 ah]] v fun r w' => r = .returned (.bool rt) ∧ Below v.heap.size v w'))
    (c2 : Hid (∀ v : World, Calls Tryz.prog 11 #[.agg #[.float .f64 al, .float .f64 ah]] v fun r w' => r = .returned (.bool rt) ∧ Below v.heap.size v w'))
    (c3 : Hid (∀ v : World, Calls Tryz.prog 12 #[.agg #[.float .f64 al, .float .f64 ah], .float .f64 x] v fun r w' => r = .returned (.bool hs) ∧ Below v.heap.size v w'))
    (c4 : Hid (∀ v : World, Calls Tryz.prog 13 #[.agg #[.float .f64 al, .float .f64 ah], .float .f64 x] v fun r w' => r = .returned (.bool hs) ∧ Below v.heap.size v w'))
    (c6 : Hid (∀ v : World, Calls Tryz.prog 15 #[.float .f64 n, .float .f64 n] v fun r w' => r = .returned (.bool true) ∧ v = w'))
    {v0 v1 v3 v5 v6 v7 v8 v17 v18 v19 v20 v21 v22 v23 v24 v25 v26 v27 v28 v29 v30 v31 v32 v33 v34 v35 v36 v37 v38 v39 v40 v41 v42 v43 v44 v45 v46 v47 v48 v49 v50 v51 v52 v53 v54 v55 v56 v57 v58 v59 v60 v61 v62 v63 v64 v65 v66 v67 v68 v69 v70 v71 v72 v73 v74 v75 v76 v77 v78 v79 v80 v81 v82 v83 v84 v85 v86 v87 v88 v89 v90 v91 v92 v93 v94 v95 v96 v97 v98 v99 v100 v101 v102 v103 v104 v105 v106 v107 v108 v109 v110 v111 v112 v113 v114 v115 v116 v117 v118 v119 v120 v121 v122 v123 v124 v125 v126 v127 v128 v129 v130 v131 v132 v133 v134 v135 v136 v137 v138 v139 v140 v141 v142 v143 v144 v145 v146 v147 v148 v149 v150 v151 v152 v153 v154 v155 v156 v157 v158 v159 v160 v161 v162 : Value} {c0 : Code} (hc0 : c0 = itReg 5) {J K' : Act → World → Prop} {Q' : Exit → Act → World → Prop}
    (hJ : ∀ (a' : Act) (w' : World), (∃ u46 u47 u48 u49 u50 u51 u52 u53 u54 u55 u56 u57 u58 u59 u60 u61 u62 u63 u64 u65 u66 u67 u68 u69 u70 u71 u72 u73 u74 u75 u76 u77 u78 u79 u80 u81 : Value, (u81 = .bool false ∧ Mem w [(B, #[.float .f64 bl, .float .f64 bh]), (A, #[.float .f64 al, .float .f64 ah])] w') ∧ a' = ⟨(v0 :: v1 :: .float .f64 x :: v3 :: .pointer (some ⟨A, 0, none⟩) :: v5 :: v6 :: v7 :: v8 :: .pointer (some ⟨p, 0, none⟩) :: .int .i64 V.e :: .pointer (some ⟨q, 0, none⟩) :: .int .i64 V.e :: .float .f64 n :: .int .i64 g :: .float .f64 n :: .int .i64 g :: v17 :: v18 :: v19 :: v20 :: v21 :: v22 :: v23 :: v24 :: v25 :: v26 :: v27 :: v28 :: v29 :: v30 :: v31 :: v32 :: v33 :: v34 :: v35 :: v36 :: v37 :: v38 :: v39 :: v40 :: v41 :: v42 :: v43 :: v44 :: v45 :: u46 :: u47 :: u48 :: u49 :: u50 :: u51 :: u52 :: u53 :: u54 :: u55 :: u56 :: u57 :: u58 :: u59 :: u60 :: u61 :: u62 :: u63 :: u64 :: u65 :: u66 :: u67 :: u68 :: u69 :: u70 :: u71 :: u72 :: u73 :: u74 :: u75 :: u76 :: u77 :: u78 :: u79 :: u80 :: u81 :: v82 :: v83 :: v84 :: v85 :: v86 :: v87 :: v88 :: v89 :: v90 :: v91 :: v92 :: v93 :: v94 :: v95 :: v96 :: v97 :: v98 :: v99 :: v100 :: v101 :: v102 :: v103 :: v104 :: v105 :: v106 :: v107 :: v108 :: v109 :: v110 :: v111 :: v112 :: v113 :: v114 :: v115 :: v116 :: v117 :: v118 :: v119 :: v120 :: v121 :: v122 :: v123 :: v124 :: v125 :: v126 :: v127 :: v128 :: v129 :: v130 :: v131 :: v132 :: v133 :: v134 :: v135 :: v136 :: v137 :: v138 :: v139 :: v140 :: v141 :: v142 :: v143 :: v144 :: v145 :: v146 :: v147 :: v148 :: v149 :: v150 :: v151 :: v152 :: v153 :: v154 :: v155 :: v156 :: v157 :: v158 :: v159 :: v160 :: v161 :: v162 :: []).toArray, []⟩) → J a' w') (hK : ∀ (a' : Act) (w' : World), Met J a' w' → K' a' w') :
    Code.wp Tryz.prog c0 (Exit.then K' Q') ⟨(v0 :: v1 :: .float .f64 x :: v3 :: .pointer (some ⟨A, 0, none⟩) :: v5 :: v6 :: v7 :: v8 :: .pointer (some ⟨p, 0, none⟩) :: .int .i64 V.e :: .pointer (some ⟨q, 0, none⟩) :: .int .i64 V.e :: .float .f64 n :: .int .i64 g :: .float .f64 n :: .int .i64 g :: v17 :: v18 :: v19 :: v20 :: v21 :: v22 :: v23 :: v24 :: v25 :: v26 :: v27 :: v28 :: v29 :: v30 :: v31 :: v32 :: v33 :: v34 :: v35 :: v36 :: v37 :: v38 :: v39 :: v40 :: v41 :: v42 :: v43 :: v44 :: v45 :: v46 :: v47 :: v48 :: v49 :: v50 :: v51 :: v52 :: v53 :: v54 :: v55 :: v56 :: v57 :: v58 :: v59 :: v60 :: v61 :: v62 :: v63 :: v64 :: v65 :: v66 :: v67 :: v68 :: v69 :: v70 :: v71 :: v72 :: v73 :: v74 :: v75 :: v76 :: v77 :: v78 :: v79 :: v80 :: v81 :: v82 :: v83 :: v84 :: v85 :: v86 :: v87 :: v88 :: v89 :: v90 :: v91 :: v92 :: v93 :: v94 :: v95 :: v96 :: v97 :: v98 :: v99 :: v100 :: v101 :: v102 :: v103 :: v104 :: v105 :: v106 :: v107 :: v108 :: v109 :: v110 :: v111 :: v112 :: v113 :: v114 :: v115 :: v116 :: v117 :: v118 :: v119 :: v120 :: v121 :: v122 :: v123 :: v124 :: v125 :: v126 :: v127 :: v128 :: v129 :: v130 :: v131 :: v132 :: v133 :: v134 :: v135 :: v136 :: v137 :: v138 :: v139 :: v140 :: v141 :: v142 :: v143 :: v144 :: v145 :: v146 :: v147 :: v148 :: v149 :: v150 :: v151 :: v152 :: v153 :: v154 :: v155 :: v156 :: v157 :: v158 :: v159 :: v160 :: v161 :: v162 :: []).toArray, []⟩ wr := by
  subst hc0
  conv => arg 2; whnf
  have g1 : (rt != rt) = false := by cases rt <;> rfl
  have g2 : (hs != hs) = false := by cases hs <;> rfl
  have k00 : wr.cell? ⟨q, 0, none⟩ = some (.float .f64 V.lo) := (M.out.nth 0 rfl).2.1 0
  have k01 : wr.cell? ⟨q, 1, none⟩ = some (.float .f64 V.hi) := (M.out.nth 0 rfl).2.1 1
  have k10 : wr.cell? ⟨p, 0, none⟩ = some (.float .f64 V.lo) := (M.out.nth 1 rfl).2.1 0
  have k11 : wr.cell? ⟨p, 1, none⟩ = some (.float .f64 V.hi) := (M.out.nth 1 rfl).2.1 1
  have k20 : wr.cell? ⟨B, 0, none⟩ = some (.float .f64 bl) := (M.out.nth 2 rfl).2.1 0
  have k21 : wr.cell? ⟨B, 1, none⟩ = some (.float .f64 bh) := (M.out.nth 2 rfl).2.1 1
  have k30 : wr.cell? ⟨A, 0, none⟩ = some (.float .f64 al) := (M.out.nth 3 rfl).2.1 0
  have k31 : wr.cell? ⟨A, 1, none⟩ = some (.float .f64 ah) := (M.out.nth 3 rfl).2.1 1
  replace M := Lib.hid M.out.drew
  go_region_held3 (fun w' => w'.cell? ⟨q, 0, none⟩ = some (.float .f64 V.lo) ∧ w'.cell? ⟨q, 1, none⟩ = some (.float .f64 V.hi) ∧ w'.cell? ⟨p, 0, none⟩ = some (.float .f64 V.lo) ∧ w'.cell? ⟨p, 1, none⟩ = some (.float .f64 V.hi) ∧ w'.cell? ⟨B, 0, none⟩ = some (.float .f64 bl) ∧ w'.cell? ⟨B, 1, none⟩ = some (.float .f64 bh) ∧ w'.cell? ⟨A, 0, none⟩ = some (.float .f64 al) ∧ w'.cell? ⟨A, 1, none⟩ = some (.float .f64 ah)) (go_keep)
    (first
      | (go_at_call 10; (with_reducible refine (c1.out _).mono ?_); rintro rr w7 ⟨rfl, hb⟩; replace M := Lib.hid (M.out.below hb); clear hb k00 k01 k10 k11 k20 k21 k30 k31; have k00 : w7.cell? ⟨q, 0, none⟩ = some (.float .f64 V.lo) := (M.out.nth 0 rfl).2.1 0; have k01 : w7.cell? ⟨q, 1, none⟩ = some (.float .f64 V.hi) := (M.out.nth 0 rfl).2.1 1; have k10 : w7.cell? ⟨p, 0, none⟩ = some (.float .f64 V.lo) := (M.out.nth 1 rfl).2.1 0; have k11 : w7.cell? ⟨p, 1, none⟩ = some (.float .f64 V.hi) := (M.out.nth 1 rfl).2.1 1; have k20 : w7.cell? ⟨B, 0, none⟩ = some (.float .f64 bl) := (M.out.nth 2 rfl).2.1 0; have k21 : w7.cell? ⟨B, 1, none⟩ = some (.float .f64 bh) := (M.out.nth 2 rfl).2.1 1; have k30 : w7.cell? ⟨A, 0, none⟩ = some (.float .f64 al) := (M.out.nth 3 rfl).2.1 0; have k31 : w7.cell? ⟨A, 1, none⟩ = some (.float .f64 ah) := (M.out.nth 3 rfl).2.1 1)
      | (go_at_call 11; (with_reducible refine (c2.out _).mono ?_); rintro rr w7 ⟨rfl, hb⟩; replace M := Lib.hid (M.out.below hb); clear hb k00 k01 k10 k11 k20 k21 k30 k31; have k00 : w7.cell? ⟨q, 0, none⟩ = some (.float .f64 V.lo) := (M.out.nth 0 rfl).2.1 0; have k01 : w7.cell? ⟨q, 1, none⟩ = some (.float .f64 V.hi) := (M.out.nth 0 rfl).2.1 1; have k10 : w7.cell? ⟨p, 0, none⟩ = some (.float .f64 V.lo) := (M.out.nth 1 rfl).2.1 0; have k11 : w7.cell? ⟨p, 1, none⟩ = some (.float .f64 V.hi) := (M.out.nth 1 rfl).2.1 1; have k20 : w7.cell? ⟨B, 0, none⟩ = some (.float .f64 bl) := (M.out.nth 2 rfl).2.1 0; have k21 : w7.cell? ⟨B, 1, none⟩ = some (.float .f64 bh) := (M.out.nth 2 rfl).2.1 1; have k30 : w7.cell? ⟨A, 0, none⟩ = some (.float .f64 al) := (M.out.nth 3 rfl).2.1 0; have k31 : w7.cell? ⟨A, 1, none⟩ = some (.float .f64 ah) := (M.out.nth 3 rfl).2.1 1)
      | (go_at_call 12; (with_reducible refine (c3.out _).mono ?_); rintro rr w7 ⟨rfl, hb⟩; replace M := Lib.hid (M.out.below hb); clear hb k00 k01 k10 k11 k20 k21 k30 k31; have k00 : w7.cell? ⟨q, 0, none⟩ = some (.float .f64 V.lo) := (M.out.nth 0 rfl).2.1 0; have k01 : w7.cell? ⟨q, 1, none⟩ = some (.float .f64 V.hi) := (M.out.nth 0 rfl).2.1 1; have k10 : w7.cell? ⟨p, 0, none⟩ = some (.float .f64 V.lo) := (M.out.nth 1 rfl).2.1 0; have k11 : w7.cell? ⟨p, 1, none⟩ = some (.float .f64 V.hi) := (M.out.nth 1 rfl).2.1 1; have k20 : w7.cell? ⟨B, 0, none⟩ = some (.float .f64 bl) := (M.out.nth 2 rfl).2.1 0; have k21 : w7.cell? ⟨B, 1, none⟩ = some (.float .f64 bh) := (M.out.nth 2 rfl).2.1 1; have k30 : w7.cell? ⟨A, 0, none⟩ = some (.float .f64 al) := (M.out.nth 3 rfl).2.1 0; have k31 : w7.cell? ⟨A, 1, none⟩ = some (.float .f64 ah) := (M.out.nth 3 rfl).2.1 1)
      | (go_at_call 13; (with_reducible refine (c4.out _).mono ?_); rintro rr w7 ⟨rfl, hb⟩; replace M := Lib.hid (M.out.below hb); clear hb k00 k01 k10 k11 k20 k21 k30 k31; have k00 : w7.cell? ⟨q, 0, none⟩ = some (.float .f64 V.lo) := (M.out.nth 0 rfl).2.1 0; have k01 : w7.cell? ⟨q, 1, none⟩ = some (.float .f64 V.hi) := (M.out.nth 0 rfl).2.1 1; have k10 : w7.cell? ⟨p, 0, none⟩ = some (.float .f64 V.lo) := (M.out.nth 1 rfl).2.1 0; have k11 : w7.cell? ⟨p, 1, none⟩ = some (.float .f64 V.hi) := (M.out.nth 1 rfl).2.1 1; have k20 : w7.cell? ⟨B, 0, none⟩ = some (.float .f64 bl) := (M.out.nth 2 rfl).2.1 0; have k21 : w7.cell? ⟨B, 1, none⟩ = some (.float .f64 bh) := (M.out.nth 2 rfl).2.1 1; have k30 : w7.cell? ⟨A, 0, none⟩ = some (.float .f64 al) := (M.out.nth 3 rfl).2.1 0; have k31 : w7.cell? ⟨A, 1, none⟩ = some (.float .f64 ah) := (M.out.nth 3 rfl).2.1 1)
      | (go_at_call 14; (with_reducible refine (l_same V.lo V.hi _).mono ?_); rintro rr w7 ⟨rfl, hb⟩; replace M := Lib.hid (M.out.below hb); clear hb k00 k01 k10 k11 k20 k21 k30 k31; have k00 : w7.cell? ⟨q, 0, none⟩ = some (.float .f64 V.lo) := (M.out.nth 0 rfl).2.1 0; have k01 : w7.cell? ⟨q, 1, none⟩ = some (.float .f64 V.hi) := (M.out.nth 0 rfl).2.1 1; have k10 : w7.cell? ⟨p, 0, none⟩ = some (.float .f64 V.lo) := (M.out.nth 1 rfl).2.1 0; have k11 : w7.cell? ⟨p, 1, none⟩ = some (.float .f64 V.hi) := (M.out.nth 1 rfl).2.1 1; have k20 : w7.cell? ⟨B, 0, none⟩ = some (.float .f64 bl) := (M.out.nth 2 rfl).2.1 0; have k21 : w7.cell? ⟨B, 1, none⟩ = some (.float .f64 bh) := (M.out.nth 2 rfl).2.1 1; have k30 : w7.cell? ⟨A, 0, none⟩ = some (.float .f64 al) := (M.out.nth 3 rfl).2.1 0; have k31 : w7.cell? ⟨A, 1, none⟩ = some (.float .f64 ah) := (M.out.nth 3 rfl).2.1 1)
      | (go_at_call 15; (with_reducible refine (c6.out _).mono ?_); rintro rr w7 ⟨rfl, rfl⟩))
  all_goals (try go_wp2_with fail)
  all_goals (refine Met.intro (hJ _ _ ?_); clear hJ; (repeat apply Exists.intro); refine ⟨?_, rfl⟩)
  all_goals exact ⟨rfl, M.out.sub (by simp)⟩

set_option maxRecDepth 1000000 in
set_option maxHeartbeats 16000000 in
theorem it_r10 {al ah bl bh A B p q ml mh hl hh : Nat} {k : Bool} {w wr : World} (M : Hid (Mem w [(q, #[.float .f64 ml, .float .f64 mh]), (p, #[.float .f64 ml, .float .f64 mh]), (B, #[.float .f64 bl, .float .f64 bh]), (A, #[.float .f64 al, .float .f64 ah])] wr))
    (c1 : Hid (∀ v : World, Calls Tryz.prog 18 #[.agg #[.float .f64 al, .float .f64 ah], .agg #[.float .f64 bl, .float .f64 bh]] v fun r w' => r = .returned (.agg #[.float .f64 hl, .float .f64 hh]) ∧ Below v.heap.size v w'))
    (c2 : Hid (∀ v : World, Calls Tryz.prog 19 #[.agg #[.float .f64 al, .float .f64 ah], .agg #[.float .f64 bl, .float .f64 bh]] v fun r w' => r = .returned (.agg #[.float .f64 hl, .float .f64 hh]) ∧ Below v.heap.size v w'))
    {v0 v1 v2 v3 v6 v7 v8 v9 v10 v11 v12 v13 v14 v15 v16 v21 v22 v23 v24 v25 v26 v27 v28 v29 v30 v31 v32 v33 v34 v35 v36 v37 v38 v39 v40 v41 v42 v43 v44 v45 v46 v47 v48 v49 v50 v51 v52 v53 v54 v55 v56 v57 v58 v59 v60 v61 v62 v63 v64 v65 v66 v67 v68 v69 v70 v71 v72 v73 v74 v75 v76 v77 v78 v79 v80 v81 v82 v83 v84 v85 v86 v87 v88 v89 v90 v91 v92 v93 v94 v95 v96 v97 v98 v99 v100 v101 v102 v103 v104 v105 v106 v107 v108 v109 v110 v111 v112 v113 v114 v115 v116 v117 v118 v119 v120 v121 v122 v123 v124 v125 v126 v127 v128 v129 v130 v131 v132 v133 v134 v135 v136 v137 v138 v139 v140 v141 v142 v143 v144 v145 v146 v147 v148 v149 v150 v151 v152 v153 v154 v155 v156 v157 v158 v159 v160 v161 v162 : Value} {c0 : Code} (hc0 : c0 = itReg 10) {J K' : Act → World → Prop} {Q' : Exit → Act → World → Prop}
    (hJ : ∀ (a' : Act) (w' : World), (∃ u100 u101 u102 u103 u104 u105 u106 u107 u108 u109 u110 u111 u112 u113 u114 u115 u116 u117 u118 : Value, (u118 = .bool false ∧ Mem w [(B, #[.float .f64 bl, .float .f64 bh]), (A, #[.float .f64 al, .float .f64 ah])] w') ∧ a' = ⟨(v0 :: v1 :: v2 :: v3 :: .pointer (some ⟨A, 0, none⟩) :: .pointer (some ⟨B, 0, none⟩) :: v6 :: v7 :: v8 :: v9 :: v10 :: v11 :: v12 :: v13 :: v14 :: v15 :: v16 :: .pointer (some ⟨p, 0, none⟩) :: .bool k :: .pointer (some ⟨q, 0, none⟩) :: .bool k :: v21 :: v22 :: v23 :: v24 :: v25 :: v26 :: v27 :: v28 :: v29 :: v30 :: v31 :: v32 :: v33 :: v34 :: v35 :: v36 :: v37 :: v38 :: v39 :: v40 :: v41 :: v42 :: v43 :: v44 :: v45 :: v46 :: v47 :: v48 :: v49 :: v50 :: v51 :: v52 :: v53 :: v54 :: v55 :: v56 :: v57 :: v58 :: v59 :: v60 :: v61 :: v62 :: v63 :: v64 :: v65 :: v66 :: v67 :: v68 :: v69 :: v70 :: v71 :: v72 :: v73 :: v74 :: v75 :: v76 :: v77 :: v78 :: v79 :: v80 :: v81 :: v82 :: v83 :: v84 :: v85 :: v86 :: v87 :: v88 :: v89 :: v90 :: v91 :: v92 :: v93 :: v94 :: v95 :: v96 :: v97 :: v98 :: v99 :: u100 :: u101 :: u102 :: u103 :: u104 :: u105 :: u106 :: u107 :: u108 :: u109 :: u110 :: u111 :: u112 :: u113 :: u114 :: u115 :: u116 :: u117 :: u118 :: v119 :: v120 :: v121 :: v122 :: v123 :: v124 :: v125 :: v126 :: v127 :: v128 :: v129 :: v130 :: v131 :: v132 :: v133 :: v134 :: v135 :: v136 :: v137 :: v138 :: v139 :: v140 :: v141 :: v142 :: v143 :: v144 :: v145 :: v146 :: v147 :: v148 :: v149 :: v150 :: v151 :: v152 :: v153 :: v154 :: v155 :: v156 :: v157 :: v158 :: v159 :: v160 :: v161 :: v162 :: []).toArray, []⟩) → J a' w') (hK : ∀ (a' : Act) (w' : World), Met J a' w' → K' a' w') :
    Code.wp Tryz.prog c0 (Exit.then K' Q') ⟨(v0 :: v1 :: v2 :: v3 :: .pointer (some ⟨A, 0, none⟩) :: .pointer (some ⟨B, 0, none⟩) :: v6 :: v7 :: v8 :: v9 :: v10 :: v11 :: v12 :: v13 :: v14 :: v15 :: v16 :: .pointer (some ⟨p, 0, none⟩) :: .bool k :: .pointer (some ⟨q, 0, none⟩) :: .bool k :: v21 :: v22 :: v23 :: v24 :: v25 :: v26 :: v27 :: v28 :: v29 :: v30 :: v31 :: v32 :: v33 :: v34 :: v35 :: v36 :: v37 :: v38 :: v39 :: v40 :: v41 :: v42 :: v43 :: v44 :: v45 :: v46 :: v47 :: v48 :: v49 :: v50 :: v51 :: v52 :: v53 :: v54 :: v55 :: v56 :: v57 :: v58 :: v59 :: v60 :: v61 :: v62 :: v63 :: v64 :: v65 :: v66 :: v67 :: v68 :: v69 :: v70 :: v71 :: v72 :: v73 :: v74 :: v75 :: v76 :: v77 :: v78 :: v79 :: v80 :: v81 :: v82 :: v83 :: v84 :: v85 :: v86 :: v87 :: v88 :: v89 :: v90 :: v91 :: v92 :: v93 :: v94 :: v95 :: v96 :: v97 :: v98 :: v99 :: v100 :: v101 :: v102 :: v103 :: v104 :: v105 :: v106 :: v107 :: v108 :: v109 :: v110 :: v111 :: v112 :: v113 :: v114 :: v115 :: v116 :: v117 :: v118 :: v119 :: v120 :: v121 :: v122 :: v123 :: v124 :: v125 :: v126 :: v127 :: v128 :: v129 :: v130 :: v131 :: v132 :: v133 :: v134 :: v135 :: v136 :: v137 :: v138 :: v139 :: v140 :: v141 :: v142 :: v143 :: v144 :: v145 :: v146 :: v147 :: v148 :: v149 :: v150 :: v151 :: v152 :: v153 :: v154 :: v155 :: v156 :: v157 :: v158 :: v159 :: v160 :: v161 :: v162 :: []).toArray, []⟩ wr := by
  subst hc0
  conv => arg 2; whnf
  have g1 : (k != k) = false := by cases k <;> rfl
  have k00 : wr.cell? ⟨q, 0, none⟩ = some (.float .f64 ml) := (M.out.nth 0 rfl).2.1 0
  have k01 : wr.cell? ⟨q, 1, none⟩ = some (.float .f64 mh) := (M.out.nth 0 rfl).2.1 1
  have k10 : wr.cell? ⟨p, 0, none⟩ = some (.float .f64 ml) := (M.out.nth 1 rfl).2.1 0
  have k11 : wr.cell? ⟨p, 1, none⟩ = some (.float .f64 mh) := (M.out.nth 1 rfl).2.1 1
  have k20 : wr.cell? ⟨B, 0, none⟩ = some (.float .f64 bl) := (M.out.nth 2 rfl).2.1 0
  have k21 : wr.cell? ⟨B, 1, none⟩ = some (.float .f64 bh) := (M.out.nth 2 rfl).2.1 1
  have k30 : wr.cell? ⟨A, 0, none⟩ = some (.float .f64 al) := (M.out.nth 3 rfl).2.1 0
  have k31 : wr.cell? ⟨A, 1, none⟩ = some (.float .f64 ah) := (M.out.nth 3 rfl).2.1 1
  replace M := Lib.hid M.out.drew
  go_region_held3 (fun w' => w'.cell? ⟨q, 0, none⟩ = some (.float .f64 ml) ∧ w'.cell? ⟨q, 1, none⟩ = some (.float .f64 mh) ∧ w'.cell? ⟨p, 0, none⟩ = some (.float .f64 ml) ∧ w'.cell? ⟨p, 1, none⟩ = some (.float .f64 mh) ∧ w'.cell? ⟨B, 0, none⟩ = some (.float .f64 bl) ∧ w'.cell? ⟨B, 1, none⟩ = some (.float .f64 bh) ∧ w'.cell? ⟨A, 0, none⟩ = some (.float .f64 al) ∧ w'.cell? ⟨A, 1, none⟩ = some (.float .f64 ah)) (go_keep)
    (first
      | (go_at_call 18; (with_reducible refine (c1.out _).mono ?_); rintro rr w7 ⟨rfl, hb⟩; replace M := Lib.hid (M.out.below hb); clear hb k00 k01 k10 k11 k20 k21 k30 k31; have k00 : w7.cell? ⟨q, 0, none⟩ = some (.float .f64 ml) := (M.out.nth 0 rfl).2.1 0; have k01 : w7.cell? ⟨q, 1, none⟩ = some (.float .f64 mh) := (M.out.nth 0 rfl).2.1 1; have k10 : w7.cell? ⟨p, 0, none⟩ = some (.float .f64 ml) := (M.out.nth 1 rfl).2.1 0; have k11 : w7.cell? ⟨p, 1, none⟩ = some (.float .f64 mh) := (M.out.nth 1 rfl).2.1 1; have k20 : w7.cell? ⟨B, 0, none⟩ = some (.float .f64 bl) := (M.out.nth 2 rfl).2.1 0; have k21 : w7.cell? ⟨B, 1, none⟩ = some (.float .f64 bh) := (M.out.nth 2 rfl).2.1 1; have k30 : w7.cell? ⟨A, 0, none⟩ = some (.float .f64 al) := (M.out.nth 3 rfl).2.1 0; have k31 : w7.cell? ⟨A, 1, none⟩ = some (.float .f64 ah) := (M.out.nth 3 rfl).2.1 1)
      | (go_at_call 19; (with_reducible refine (c2.out _).mono ?_); rintro rr w7 ⟨rfl, hb⟩; replace M := Lib.hid (M.out.below hb); clear hb k00 k01 k10 k11 k20 k21 k30 k31; have k00 : w7.cell? ⟨q, 0, none⟩ = some (.float .f64 ml) := (M.out.nth 0 rfl).2.1 0; have k01 : w7.cell? ⟨q, 1, none⟩ = some (.float .f64 mh) := (M.out.nth 0 rfl).2.1 1; have k10 : w7.cell? ⟨p, 0, none⟩ = some (.float .f64 ml) := (M.out.nth 1 rfl).2.1 0; have k11 : w7.cell? ⟨p, 1, none⟩ = some (.float .f64 mh) := (M.out.nth 1 rfl).2.1 1; have k20 : w7.cell? ⟨B, 0, none⟩ = some (.float .f64 bl) := (M.out.nth 2 rfl).2.1 0; have k21 : w7.cell? ⟨B, 1, none⟩ = some (.float .f64 bh) := (M.out.nth 2 rfl).2.1 1; have k30 : w7.cell? ⟨A, 0, none⟩ = some (.float .f64 al) := (M.out.nth 3 rfl).2.1 0; have k31 : w7.cell? ⟨A, 1, none⟩ = some (.float .f64 ah) := (M.out.nth 3 rfl).2.1 1)
      | (go_at_call 14; (with_reducible refine (l_same ml mh _).mono ?_); rintro rr w7 ⟨rfl, hb⟩; replace M := Lib.hid (M.out.below hb); clear hb k00 k01 k10 k11 k20 k21 k30 k31; have k00 : w7.cell? ⟨q, 0, none⟩ = some (.float .f64 ml) := (M.out.nth 0 rfl).2.1 0; have k01 : w7.cell? ⟨q, 1, none⟩ = some (.float .f64 mh) := (M.out.nth 0 rfl).2.1 1; have k10 : w7.cell? ⟨p, 0, none⟩ = some (.float .f64 ml) := (M.out.nth 1 rfl).2.1 0; have k11 : w7.cell? ⟨p, 1, none⟩ = some (.float .f64 mh) := (M.out.nth 1 rfl).2.1 1; have k20 : w7.cell? ⟨B, 0, none⟩ = some (.float .f64 bl) := (M.out.nth 2 rfl).2.1 0; have k21 : w7.cell? ⟨B, 1, none⟩ = some (.float .f64 bh) := (M.out.nth 2 rfl).2.1 1; have k30 : w7.cell? ⟨A, 0, none⟩ = some (.float .f64 al) := (M.out.nth 3 rfl).2.1 0; have k31 : w7.cell? ⟨A, 1, none⟩ = some (.float .f64 ah) := (M.out.nth 3 rfl).2.1 1)
      | (go_at_call 14; (with_reducible refine (l_same hl hh _).mono ?_); rintro rr w7 ⟨rfl, hb⟩; replace M := Lib.hid (M.out.below hb); clear hb k00 k01 k10 k11 k20 k21 k30 k31; have k00 : w7.cell? ⟨q, 0, none⟩ = some (.float .f64 ml) := (M.out.nth 0 rfl).2.1 0; have k01 : w7.cell? ⟨q, 1, none⟩ = some (.float .f64 mh) := (M.out.nth 0 rfl).2.1 1; have k10 : w7.cell? ⟨p, 0, none⟩ = some (.float .f64 ml) := (M.out.nth 1 rfl).2.1 0; have k11 : w7.cell? ⟨p, 1, none⟩ = some (.float .f64 mh) := (M.out.nth 1 rfl).2.1 1; have k20 : w7.cell? ⟨B, 0, none⟩ = some (.float .f64 bl) := (M.out.nth 2 rfl).2.1 0; have k21 : w7.cell? ⟨B, 1, none⟩ = some (.float .f64 bh) := (M.out.nth 2 rfl).2.1 1; have k30 : w7.cell? ⟨A, 0, none⟩ = some (.float .f64 al) := (M.out.nth 3 rfl).2.1 0; have k31 : w7.cell? ⟨A, 1, none⟩ = some (.float .f64 ah) := (M.out.nth 3 rfl).2.1 1))
  all_goals (try go_wp2_with fail)
  all_goals (refine Met.intro (hJ _ _ ?_); clear hJ; (repeat apply Exists.intro); refine ⟨?_, rfl⟩)
  all_goals exact ⟨rfl, M.out.sub (by simp)⟩

end Go.Proofs.YtmcecchcbfhfcaaGreat

namespace Go.Proofs.YtmcecchcbfhfcaaGreat
open Go.RowKit
attribute [local go_sem] run_store_float

set_option maxRecDepth 1000000 in
set_option maxHeartbeats 16000000 in
theorem it_r18 {n al ah bl bh o f c d : Nat} {e : Int} {R S : Res} {w wr : World} (A : Hid (Apart w o f c d)) (M : Hid (Four w o f c d #[.int .u8 n, .float .f64 al, .float .f64 ah, .float .f64 bl, .float .f64 bh] 0 e e wr))
    (cA : Hid (∀ (pb : Nat) (v : World), v.cell? ⟨pb, 0, none⟩ = some (.int .i64 e) → v.frozen? ⟨pb, 0, none⟩ = false → Calls Tryz.prog 20 #[.agg #[.int .u8 n, .float .f64 al, .float .f64 ah, .float .f64 bl, .float .f64 bh], .pointer (some ⟨pb, 0, none⟩)] v (Told R pb 0 v)))
    (cF : Hid (∀ (pb : Nat) (v : World), v.cell? ⟨pb, 0, none⟩ = some (.int .i64 0) → v.frozen? ⟨pb, 0, none⟩ = false → Calls Tryz.prog 20 #[.agg #[.int .u8 n, .float .f64 al, .float .f64 ah, .float .f64 bl, .float .f64 bh], .pointer (some ⟨pb, 0, none⟩)] v (Told S pb 0 v)))
    (cO : Hid (∀ (pb : Nat) (v : World), Has1 v (pb, #[.int .i64 e]) → Calls Tryz.prog 21 #[.agg #[.int .u8 n, .float .f64 al, .float .f64 ah, .float .f64 bl, .float .f64 bh], .pointer (some ⟨pb, 0, none⟩)] v (Told R pb 0 v)))
    (cG : Hid (∀ (pb : Nat) (v : World), Has1 v (pb, #[.int .i64 0]) → Calls Tryz.prog 21 #[.agg #[.int .u8 n, .float .f64 al, .float .f64 ah, .float .f64 bl, .float .f64 bh], .pointer (some ⟨pb, 0, none⟩)] v (Told S pb 0 v)))
    {v0 v1 v2 v3 v4 v5 v6 v7 v8 v9 v10 v11 v12 v13 v14 v15 v16 v17 v18 v19 v20 v23 v26 v27 v28 v29 v30 v31 v32 v33 v34 v35 v36 v37 v38 v39 v40 v41 v42 v43 v44 v45 v46 v47 v48 v49 v50 v51 v52 v53 v54 v55 v56 v57 v58 v59 v60 v61 v62 v63 v64 v65 v66 v67 v68 v69 v70 v71 v72 v73 v74 v75 v76 v77 v78 v79 v80 v81 v82 v83 v84 v85 v86 v87 v88 v89 v90 v91 v92 v93 v94 v95 v96 v97 v98 v99 v100 v101 v102 v103 v104 v105 v106 v107 v108 v109 v110 v111 v112 v113 v114 v115 v116 v117 v118 v119 v120 v121 v122 v123 v124 v125 v126 v127 v128 v129 v130 v131 v132 v133 v134 v135 v136 v137 v138 v139 v140 v141 v142 v143 v144 v145 v146 v147 v148 v149 v150 v151 v152 v153 v154 v155 v156 v157 v158 v159 v160 v161 v162 : Value} {c0 : Code} (hc0 : c0 = itReg 18) {J K' : Act → World → Prop} {Q' : Exit → Act → World → Prop}
    (hJ : ∀ (a' : Act) (w' : World), (∃ u131 u132 u133 u134 u135 u136 u137 u138 u139 u140 u141 u142 u143 u144 u145 u146 u147 u148 u149 u150 u151 u152 u153 u154 u155 : Value, ItCut w o f c d #[.int .u8 n, .float .f64 al, .float .f64 ah, .float .f64 bl, .float .f64 bh] R.e u155 w' ∧ a' = ⟨(v0 :: v1 :: v2 :: v3 :: v4 :: v5 :: v6 :: v7 :: v8 :: v9 :: v10 :: v11 :: v12 :: v13 :: v14 :: v15 :: v16 :: v17 :: v18 :: v19 :: v20 :: .pointer (some ⟨c, 0, none⟩) :: .pointer (some ⟨d, 0, none⟩) :: v23 :: .pointer (some ⟨o, 0, none⟩) :: .pointer (some ⟨f, 0, none⟩) :: v26 :: v27 :: v28 :: v29 :: v30 :: v31 :: v32 :: v33 :: v34 :: v35 :: v36 :: v37 :: v38 :: v39 :: v40 :: v41 :: v42 :: v43 :: v44 :: v45 :: v46 :: v47 :: v48 :: v49 :: v50 :: v51 :: v52 :: v53 :: v54 :: v55 :: v56 :: v57 :: v58 :: v59 :: v60 :: v61 :: v62 :: v63 :: v64 :: v65 :: v66 :: v67 :: v68 :: v69 :: v70 :: v71 :: v72 :: v73 :: v74 :: v75 :: v76 :: v77 :: v78 :: v79 :: v80 :: v81 :: v82 :: v83 :: v84 :: v85 :: v86 :: v87 :: v88 :: v89 :: v90 :: v91 :: v92 :: v93 :: v94 :: v95 :: v96 :: v97 :: v98 :: v99 :: v100 :: v101 :: v102 :: v103 :: v104 :: v105 :: v106 :: v107 :: v108 :: v109 :: v110 :: v111 :: v112 :: v113 :: v114 :: v115 :: v116 :: v117 :: v118 :: v119 :: v120 :: v121 :: v122 :: v123 :: v124 :: v125 :: v126 :: v127 :: v128 :: v129 :: v130 :: u131 :: u132 :: u133 :: u134 :: u135 :: u136 :: u137 :: u138 :: u139 :: u140 :: u141 :: u142 :: u143 :: u144 :: u145 :: u146 :: u147 :: u148 :: u149 :: u150 :: u151 :: u152 :: u153 :: u154 :: u155 :: v156 :: v157 :: v158 :: v159 :: v160 :: v161 :: v162 :: []).toArray, []⟩) → J a' w') (hK : ∀ (a' : Act) (w' : World), Met J a' w' → K' a' w') :
    Code.wp Tryz.prog c0 (Exit.then K' Q') ⟨(v0 :: v1 :: v2 :: v3 :: v4 :: v5 :: v6 :: v7 :: v8 :: v9 :: v10 :: v11 :: v12 :: v13 :: v14 :: v15 :: v16 :: v17 :: v18 :: v19 :: v20 :: .pointer (some ⟨c, 0, none⟩) :: .pointer (some ⟨d, 0, none⟩) :: v23 :: .pointer (some ⟨o, 0, none⟩) :: .pointer (some ⟨f, 0, none⟩) :: v26 :: v27 :: v28 :: v29 :: v30 :: v31 :: v32 :: v33 :: v34 :: v35 :: v36 :: v37 :: v38 :: v39 :: v40 :: v41 :: v42 :: v43 :: v44 :: v45 :: v46 :: v47 :: v48 :: v49 :: v50 :: v51 :: v52 :: v53 :: v54 :: v55 :: v56 :: v57 :: v58 :: v59 :: v60 :: v61 :: v62 :: v63 :: v64 :: v65 :: v66 :: v67 :: v68 :: v69 :: v70 :: v71 :: v72 :: v73 :: v74 :: v75 :: v76 :: v77 :: v78 :: v79 :: v80 :: v81 :: v82 :: v83 :: v84 :: v85 :: v86 :: v87 :: v88 :: v89 :: v90 :: v91 :: v92 :: v93 :: v94 :: v95 :: v96 :: v97 :: v98 :: v99 :: v100 :: v101 :: v102 :: v103 :: v104 :: v105 :: v106 :: v107 :: v108 :: v109 :: v110 :: v111 :: v112 :: v113 :: v114 :: v115 :: v116 :: v117 :: v118 :: v119 :: v120 :: v121 :: v122 :: v123 :: v124 :: v125 :: v126 :: v127 :: v128 :: v129 :: v130 :: v131 :: v132 :: v133 :: v134 :: v135 :: v136 :: v137 :: v138 :: v139 :: v140 :: v141 :: v142 :: v143 :: v144 :: v145 :: v146 :: v147 :: v148 :: v149 :: v150 :: v151 :: v152 :: v153 :: v154 :: v155 :: v156 :: v157 :: v158 :: v159 :: v160 :: v161 :: v162 :: []).toArray, []⟩ wr := by
  subst hc0
  conv => arg 2; whnf
  have ko := M.out.ho.five
  replace M := Lib.hid M.out.drew
  refine wp_region_noPanic ?_
  refine wp_region_held_drew (S := fun w' : World => w'.cell? ⟨o, 0, none⟩ = some (.int .u8 n) ∧ w'.cell? ⟨o, 1, none⟩ = some (.float .f64 al) ∧ w'.cell? ⟨o, 2, none⟩ = some (.float .f64 ah) ∧ w'.cell? ⟨o, 3, none⟩ = some (.float .f64 bl) ∧ w'.cell? ⟨o, 4, none⟩ = some (.float .f64 bh)) (by kernel_rfl) M.out.ho.five (fun hHeld => ?_)
  clear ko
  refine wpAnyH_take (i := 0) (oi := _) (v := ?_) rfl (by kernel_rfl) (by kernel_rfl) (by kernel_rfl) (fun _ _ _ h => h) (Or.inl ⟨by rfl, ?_⟩) (by assumption) ?_
  rotate_left; focus (intro w hSw; (try dsimp only at hSw); go_simp; first | done | with_reducible rfl)
  conv => arg 8; simp only [Act.put, go_sem]
  refine wpAnyH_take (i := 2) (oi := _) (v := ?_) rfl (by kernel_rfl) (by kernel_rfl) (by kernel_rfl) (fun _ _ _ h => h) (Or.inl ⟨by rfl, ?_⟩) (by assumption) ?_
  rotate_left; focus (intro w hSw; (try dsimp only at hSw); go_simp; first | done | with_reducible rfl)
  conv => arg 8; simp only [Act.put, go_sem]
  refine wpAnyH_take (i := 3) (oi := _) (v := ?_) rfl (by kernel_rfl) (by kernel_rfl) (by kernel_rfl) (fun _ _ _ h => h) (Or.inl ⟨by rfl, ?_⟩) (by assumption) ?_
  rotate_left; focus (intro w hSw; (try dsimp only at hSw); go_simp; first | done | with_reducible rfl)
  conv => arg 8; simp only [Act.put, go_sem]
  refine wpAnyH_ready (rs := [1]) (by kernel_rfl) (by simp) (AllReadyH.cons (o := _) rfl (fun K hK => ?_) AllReadyH.nil)
  clear hHeld
  go_simp
  refine (cA.out c _ M.out.hc.cell1 M.out.hc.froz1).mono ?_
  rintro rr w7 hT
  obtain ⟨rfl, hp⟩ := hT.open
  replace M := Lib.hid (M.out.putc A.out hp)
  clear hp hT
  try go_wp2_with fail
  refine hK.out _ _ M.out.ho.five (fun hHeld => ?_)
  clear hK K
  conv => arg 8; simp only [Act.put, go_sem]
  refine wpAnyH_ready (rs := [4]) (by kernel_rfl) (by simp) (AllReadyH.cons (o := _) rfl (fun K hK => ?_) AllReadyH.nil)
  clear hHeld
  go_simp
  refine (cO.out d _ M.out.hd).mono ?_
  rintro rr w7 hT
  obtain ⟨rfl, hp⟩ := hT.open
  replace M := Lib.hid (M.out.putd A.out hp)
  clear hp hT
  try go_wp2_with fail
  refine hK.out _ _ M.out.ho.five (fun hHeld => ?_)
  clear hK K
  conv => arg 8; simp only [Act.put, go_sem]
  refine wpAnyH_ready (rs := [5]) (by kernel_rfl) (by simp) (AllReadyH.cons (o := _) rfl (fun K hK => ?_) AllReadyH.nil)
  clear hHeld
  go_simp
  refine (l_same R.lo R.hi _).mono ?_
  rintro rr w7 ⟨rfl, hb⟩
  replace M := Lib.hid (M.out.below hb)
  clear hb
  try go_wp2_with fail
  refine hK.out _ _ M.out.ho.five (fun hHeld => ?_)
  clear hK K
  conv => arg 8; simp only [Act.put, go_sem]
  refine wpAnyH_take (i := 6) (oi := _) (v := ?_) rfl (by kernel_rfl) (by kernel_rfl) (by kernel_rfl) (fun _ _ _ h => h) (Or.inl ⟨by rfl, ?_⟩) (by assumption) ?_
  rotate_left; focus (intro w hSw; (try dsimp only at hSw); go_simp; first | done | with_reducible rfl)
  conv => arg 8; simp only [Act.put, go_sem]
  refine wpAnyH_take (i := 7) (oi := _) (v := ?_) rfl (by kernel_rfl) (by kernel_rfl) (by kernel_rfl) (fun _ _ _ h => h) (Or.inl ⟨by rfl, ?_⟩) (by assumption) ?_
  rotate_left; focus (intro w hSw; (try dsimp only at hSw); go_simp; first | done | with_reducible rfl)
  conv => arg 8; simp only [Act.put, go_sem]
  refine wpAnyH_take (i := 9) (oi := _) (v := ?_) rfl (by kernel_rfl) (by kernel_rfl) (by kernel_rfl) (fun _ _ _ h => h) (Or.inl ⟨by rfl, ?_⟩) (by assumption) ?_
  rotate_left; focus (intro w hSw; (try dsimp only at hSw); go_simp; first | done | with_reducible rfl)
  conv => arg 8; simp only [Act.put, go_sem]
  refine wpAnyH_take (i := 10) (oi := _) (v := ?_) rfl (by kernel_rfl) (by kernel_rfl) (by kernel_rfl) (fun _ _ _ h => h) (Or.inl ⟨by rfl, ?_⟩) (by assumption) ?_
  rotate_left; focus (intro w hSw; (try dsimp only at hSw); go_simp; first | done | with_reducible rfl)
  conv => arg 8; simp only [Act.put, go_sem]
  refine wpAnyH_take (i := 11) (oi := _) (v := ?_) rfl (by kernel_rfl) (by kernel_rfl) (by kernel_rfl) (fun _ _ _ h => h) (Or.inl ⟨by rfl, ?_⟩) (by assumption) ?_
  rotate_left; focus (intro w hSw; (try dsimp only at hSw); go_simp; first | done | with_reducible rfl)
  conv => arg 8; simp only [Act.put, go_sem]
  refine held_more (S' := fun w' : World => w'.cell? ⟨o, 0, none⟩ = some (.int .u8 n) ∧ w'.cell? ⟨o, 1, none⟩ = some (.float .f64 al) ∧ w'.cell? ⟨o, 2, none⟩ = some (.float .f64 ah) ∧ w'.cell? ⟨o, 3, none⟩ = some (.float .f64 bl) ∧ w'.cell? ⟨o, 4, none⟩ = some (.float .f64 bh) ∧ w'.cell? ⟨d, 0, none⟩ = some (.int .i64 R.e)) (fun w h => ⟨h.1, h.2.1, h.2.2.1, h.2.2.2.1, h.2.2.2.2.1⟩) _ _ _ _ ?_
  clear hHeld
  have hHeld := M.out.more
  refine wpAnyH_take (i := 12) (oi := _) (v := ?_) rfl (by kernel_rfl) (by kernel_rfl) (by kernel_rfl) (fun _ _ _ h => h) (Or.inl ⟨by rfl, ?_⟩) (by assumption) ?_
  rotate_left; focus (intro w hSw; (try dsimp only at hSw); go_simp; first | done | with_reducible rfl)
  conv => arg 8; simp only [Act.put, go_sem]
  refine wpAnyH_ready (rs := [8]) (by kernel_rfl) (by simp) (AllReadyH.cons (o := _) rfl (fun K hK => ?_) AllReadyH.nil)
  clear hHeld
  go_simp
  refine (err_any R.e c 0 _ M.out.hc.cell1).mono ?_
  rintro rr w7 ⟨rfl, rfl⟩
  try go_wp2_with fail
  refine hK.out _ _ M.out.more (fun hHeld => ?_)
  clear hK K
  conv => arg 8; simp only [Act.put, go_sem]
  refine wpAnyH_take (i := 13) (oi := _) (v := ?_) rfl (by kernel_rfl) (by kernel_rfl) (by kernel_rfl) (fun _ _ _ h => h) (Or.inl ⟨by rfl, ?_⟩) (by assumption) ?_
  rotate_left; focus (intro w hSw; (try dsimp only at hSw); go_simp; first | done | with_reducible rfl)
  conv => arg 8; simp only [Act.put, go_sem]
  refine wpAnyH_take (i := 14) (oi := _) (v := ?_) rfl (by kernel_rfl) (by kernel_rfl) (by kernel_rfl) (fun _ _ _ h => h) (Or.inl ⟨by rfl, ?_⟩) (by assumption) ?_
  rotate_left; focus (intro w hSw; (try dsimp only at hSw); go_simp; first | done | with_reducible rfl)
  conv => arg 8; simp only [Act.put, go_sem]
  refine wpAnyH_take (i := 15) (oi := _) (v := ?_) rfl (by kernel_rfl) (by kernel_rfl) (by kernel_rfl) (fun _ _ _ h => h) (Or.inl ⟨by rfl, ?_⟩) (by assumption) ?_
  rotate_left; focus (intro w hSw; (try dsimp only at hSw); go_simp; first | done | with_reducible rfl)
  conv => arg 8; simp only [Act.put, go_sem]
  refine wpAnyH_take (i := 16) (oi := _) (v := ?_) rfl (by kernel_rfl) (by kernel_rfl) (by kernel_rfl) (fun _ _ _ h => h) (Or.inl ⟨by rfl, ?_⟩) (by assumption) ?_
  rotate_left; focus (intro w hSw; (try dsimp only at hSw); go_simp; first | done | with_reducible rfl)
  conv => arg 8; simp only [Act.put, go_sem]
  refine wpAnyH_take (i := 18) (oi := _) (v := ?_) rfl (by kernel_rfl) (by kernel_rfl) (by kernel_rfl) (fun _ _ _ h => h) (Or.inl ⟨by rfl, ?_⟩) (by assumption) ?_
  rotate_left; focus (intro w hSw; (try dsimp only at hSw); go_simp; first | done | with_reducible rfl)
  conv => arg 8; simp only [Act.put, go_sem]
  refine wpAnyH_take (i := 19) (oi := _) (v := ?_) rfl (by kernel_rfl) (by kernel_rfl) (by kernel_rfl) (fun _ _ _ h => h) (Or.inl ⟨by rfl, ?_⟩) (by assumption) ?_
  rotate_left; focus (intro w hSw; (try dsimp only at hSw); go_simp; first | done | with_reducible rfl)
  conv => arg 8; simp only [Act.put, go_sem]
  refine wpAnyH_ready (rs := [17, 20]) (by kernel_rfl) (by simp) (AllReadyH.cons (o := _) rfl (fun K hK => ?_) (AllReadyH.cons (o := _) rfl (fun K hK => ?_) AllReadyH.nil))
  · skip
    clear hHeld
    go_simp
    refine (cF.out f _ M.out.hf.cell1 M.out.hf.froz1).mono ?_
    rintro rr w7 hT
    obtain ⟨rfl, hp⟩ := hT.open
    replace M := Lib.hid (M.out.putf A.out hp)
    clear hp hT
    try go_wp2_with fail
    refine hK.out _ _ M.out.more (fun hHeld => ?_)
    clear hK K
    conv => arg 8; simp only [Act.put, go_sem]
    refine wpAnyH_ready (rs := [20]) (by kernel_rfl) (by simp) (AllReadyH.cons (o := _) rfl (fun K hK => ?_) AllReadyH.nil)
    clear hHeld
    go_simp
    have X := Lib.hid (Beyond.made M.out 42)
    replace M := Lib.hid (M.out.made #[.int .i64 0] 42)
    try go_wp2_with fail
    refine hK.out _ _ M.out.more (fun hHeld => ?_)
    clear hK K
    conv => arg 8; simp only [Act.put, go_sem]
    refine wpAnyH_ready (rs := [21]) (by kernel_rfl) (by simp) (AllReadyH.cons (o := _) rfl (fun K hK => ?_) AllReadyH.nil)
    clear hHeld
    go_simp
    refine (cG.out _ _ X.out.has).mono ?_
    rintro rr w7 hT
    obtain ⟨rfl, hp⟩ := hT.open
    replace M := Lib.hid (M.out.putx X.out.low X.out.ne hp)
    clear hp hT
    try go_wp2_with fail
    refine hK.out _ _ M.out.more (fun hHeld => ?_)
    clear hK K
    conv => arg 8; simp only [Act.put, go_sem]
    refine wpAnyH_ready (rs := [22]) (by kernel_rfl) (by simp) (AllReadyH.cons (o := _) rfl (fun K hK => ?_) AllReadyH.nil)
    clear hHeld
    go_simp
    refine (l_same S.lo S.hi _).mono ?_
    rintro rr w7 ⟨rfl, hb⟩
    replace M := Lib.hid (M.out.below hb)
    clear hb
    try go_wp2_with fail
    refine hK.out _ _ M.out.more (fun hHeld => ?_)
    clear hK K
    conv => arg 8; simp only [Act.put, go_sem]
    refine wpAnyH_take (i := 23) (oi := { dst := some 154, op := Op.unOp UnOp.not 4 (Operand.tmp 153), type := 4, pos := "law.go:113", after := #[{ on := 22, ground := Ground.data }, { on := 15, ground := Ground.guard }], guard := some (15, false) }) (v := ?_) rfl (by kernel_rfl) (by kernel_rfl) (by kernel_rfl) (fun _ _ _ h => h) (Or.inl ⟨by rfl, ?_⟩) (by assumption) ?_
    rotate_left; focus (intro w hSw; (try dsimp only at hSw); go_simp; first | done | with_reducible rfl)
    conv => arg 8; simp only [Act.put, go_sem]
    refine wpAnyH_take (i := 24) (oi := { dst := some 155, op := Op.pick (Operand.tmp 146) (Operand.const (Value.bool true)) (Operand.tmp 154), type := 4, pos := "law.go:113", after := #[{ on := 15, ground := Ground.data }, { on := 23, ground := Ground.data }], guard := none }) (v := ?_) rfl (by kernel_rfl) (by kernel_rfl) (by kernel_rfl) (fun _ _ _ h => h) (Or.inl ⟨by rfl, ?_⟩) (by assumption) ?_
    rotate_left; focus (intro w hSw; (try dsimp only at hSw); go_simp; first | done | with_reducible rfl)
    conv => arg 8; simp only [Act.put, go_sem]
    refine wpAnyH_done (by kernel_rfl) ?_ _
    refine NoPanic.normal ?_
    try go_wp2_with fail
    refine Met.intro (hJ _ _ ?_)
    clear hJ
    repeat apply Exists.intro
    refine ⟨?_, rfl⟩
    exact ⟨rfl, _, M.out⟩
  · skip
    clear hHeld
    go_simp
    have X := Lib.hid (Beyond.made M.out 42)
    replace M := Lib.hid (M.out.made #[.int .i64 0] 42)
    try go_wp2_with fail
    refine hK.out _ _ M.out.more (fun hHeld => ?_)
    clear hK K
    conv => arg 8; simp only [Act.put, go_sem]
    refine wpAnyH_ready (rs := [17]) (by kernel_rfl) (by simp) (AllReadyH.cons (o := _) rfl (fun K hK => ?_) AllReadyH.nil)
    clear hHeld
    go_simp
    refine (cF.out f _ M.out.hf.cell1 M.out.hf.froz1).mono ?_
    rintro rr w7 hT
    obtain ⟨rfl, hp⟩ := hT.open
    replace X := Lib.hid (X.out.putf hp)
    replace M := Lib.hid (M.out.putf A.out hp)
    clear hp hT
    try go_wp2_with fail
    refine hK.out _ _ M.out.more (fun hHeld => ?_)
    clear hK K
    conv => arg 8; simp only [Act.put, go_sem]
    refine wpAnyH_ready (rs := [21]) (by kernel_rfl) (by simp) (AllReadyH.cons (o := _) rfl (fun K hK => ?_) AllReadyH.nil)
    clear hHeld
    go_simp
    refine (cG.out _ _ X.out.has).mono ?_
    rintro rr w7 hT
    obtain ⟨rfl, hp⟩ := hT.open
    replace M := Lib.hid (M.out.putx X.out.low X.out.ne hp)
    clear hp hT
    try go_wp2_with fail
    refine hK.out _ _ M.out.more (fun hHeld => ?_)
    clear hK K
    conv => arg 8; simp only [Act.put, go_sem]
    refine wpAnyH_ready (rs := [22]) (by kernel_rfl) (by simp) (AllReadyH.cons (o := _) rfl (fun K hK => ?_) AllReadyH.nil)
    clear hHeld
    go_simp
    refine (l_same S.lo S.hi _).mono ?_
    rintro rr w7 ⟨rfl, hb⟩
    replace M := Lib.hid (M.out.below hb)
    clear hb
    try go_wp2_with fail
    refine hK.out _ _ M.out.more (fun hHeld => ?_)
    clear hK K
    conv => arg 8; simp only [Act.put, go_sem]
    refine wpAnyH_take (i := 23) (oi := { dst := some 154, op := Op.unOp UnOp.not 4 (Operand.tmp 153), type := 4, pos := "law.go:113", after := #[{ on := 22, ground := Ground.data }, { on := 15, ground := Ground.guard }], guard := some (15, false) }) (v := ?_) rfl (by kernel_rfl) (by kernel_rfl) (by kernel_rfl) (fun _ _ _ h => h) (Or.inl ⟨by rfl, ?_⟩) (by assumption) ?_
    rotate_left; focus (intro w hSw; (try dsimp only at hSw); go_simp; first | done | with_reducible rfl)
    conv => arg 8; simp only [Act.put, go_sem]
    refine wpAnyH_take (i := 24) (oi := { dst := some 155, op := Op.pick (Operand.tmp 146) (Operand.const (Value.bool true)) (Operand.tmp 154), type := 4, pos := "law.go:113", after := #[{ on := 15, ground := Ground.data }, { on := 23, ground := Ground.data }], guard := none }) (v := ?_) rfl (by kernel_rfl) (by kernel_rfl) (by kernel_rfl) (fun _ _ _ h => h) (Or.inl ⟨by rfl, ?_⟩) (by assumption) ?_
    rotate_left; focus (intro w hSw; (try dsimp only at hSw); go_simp; first | done | with_reducible rfl)
    conv => arg 8; simp only [Act.put, go_sem]
    refine wpAnyH_done (by kernel_rfl) ?_ _
    refine NoPanic.normal ?_
    try go_wp2_with fail
    refine Met.intro (hJ _ _ ?_)
    clear hJ
    repeat apply Exists.intro
    refine ⟨?_, rfl⟩
    exact ⟨rfl, _, M.out⟩
end Go.Proofs.YtmcecchcbfhfcaaGreat

namespace Go.Proofs.YtmcecchcbfhfcaaGreat
open Go.RowKit
attribute [local go_sem] run_store_float

def itFrom (n : Nat) : Code → Option Code
  | .seq (.region k ops b) c => if k = n then some (.seq (.region k ops b) c) else itFrom n c
  | .seq a b => match itFrom n a with
    | some c => some c
    | none => itFrom n b
  | .block _ c => itFrom n c
  | .scope c => itFrom n c
  | _ => none
noncomputable def itTail : Code := ((Tryz.f3.body.bind (itFrom 13)).getD .skip)

/-- An op that came in. -/
def OpIn (w : World) (g : Addr) (n al ah bl bh : Nat) : Prop := w.cell? g = some (.int .u8 n) ∧ w.cell? ⟨g.block, g.off + 1, none⟩ = some (.float .f64 al) ∧ w.cell? ⟨g.block, g.off + 2, none⟩ = some (.float .f64 ah) ∧ w.cell? ⟨g.block, g.off + 3, none⟩ = some (.float .f64 bl) ∧ w.cell? ⟨g.block, g.off + 4, none⟩ = some (.float .f64 bh) ∧
  n < 256 ∧ al < 18446744073709551616 ∧ ah < 18446744073709551616 ∧ bl < 18446744073709551616 ∧ bh < 18446744073709551616 ∧ g.block < w.heap.size
theorem OpIn.below {w w' : World} {g : Addr} {n al ah bl bh : Nat} (h : OpIn w g n al ah bl bh) (hb : Below w.heap.size w w') : OpIn w' g n al ah bl bh := by
  obtain ⟨h0, h1, h2, h3, h4, l0, l1, l2, l3, l4, l5⟩ := h
  exact ⟨(hb.cell (p := g) l5).trans h0, (hb.cell (p := ⟨g.block, g.off + 1, none⟩) l5).trans h1, (hb.cell (p := ⟨g.block, g.off + 2, none⟩) l5).trans h2, (hb.cell (p := ⟨g.block, g.off + 3, none⟩) l5).trans h3, (hb.cell (p := ⟨g.block, g.off + 4, none⟩) l5).trans h4, l0, l1, l2, l3, l4, Nat.lt_of_lt_of_le l5 hb.size⟩
/-- At the head of a round. -/
def ItRel (w : World) (c d m : Nat) (i : Value) (wr : World) : Prop := ∃ (k : Nat) (e : Int), k ≤ m ∧ i = .int .i64 (k : Int) ∧ Mem w [(d, #[.int .i64 e]), (c, #[.int .i64 e])] wr

set_option maxRecDepth 1000000 in
set_option maxHeartbeats 16000000 in
theorem it_rest_nil {w wq : World} {l : List (Nat × Array Value)} (M : Hid (Mem w l wq))
    {v0 v1 v2 v4 v5 v6 v7 v8 v9 v10 v11 v12 v13 v14 v15 v16 v17 v18 v19 v20 v21 v22 v23 v24 v25 v26 v27 v28 v29 v30 v31 v32 v33 v34 v35 v36 v37 v38 v39 v40 v41 v42 v43 v44 v45 v46 v47 v48 v49 v50 v51 v52 v53 v54 v55 v56 v57 v58 v59 v60 v61 v62 v63 v64 v65 v66 v67 v68 v69 v70 v71 v72 v73 v74 v75 v76 v77 v78 v79 v80 v81 v82 v83 v84 v85 v86 v87 v88 v89 v90 v91 v92 v93 v94 v95 v96 v97 v98 v99 v100 v101 v102 v103 v104 v105 v106 v107 v108 v109 v110 v111 v112 v113 v114 v115 v116 v117 v118 v119 v120 v121 v122 v123 v124 v125 v126 v127 v128 v129 v130 v131 v132 v133 v134 v135 v136 v137 v138 v139 v140 v141 v142 v143 v144 v145 v146 v147 v148 v149 v150 v151 v152 v153 v154 v155 v156 v157 v158 v159 v160 v161 v162 : Value} {c0 c1 : Code} {K' : Act → World → Prop} {Q' : Exit → Act → World → Prop} (hc0 : c0 = itReg 12)
    (hK : ∀ (a' : Act) (w' : World), Code.wp Tryz.prog c1 (bodyPost Tryz.prog Tryz.f3 fun r w' => r = .returned (.bool true) ∧ Below w.heap.size w w') a' w' → K' a' w') (hc1 : c1 = itTail) :
    Code.wp Tryz.prog c0 (Exit.then K' Q') ⟨(v0 :: v1 :: v2 :: .slice none 0 0 :: v4 :: v5 :: v6 :: v7 :: v8 :: v9 :: v10 :: v11 :: v12 :: v13 :: v14 :: v15 :: v16 :: v17 :: v18 :: v19 :: v20 :: v21 :: v22 :: v23 :: v24 :: v25 :: v26 :: v27 :: v28 :: v29 :: v30 :: v31 :: v32 :: v33 :: v34 :: v35 :: v36 :: v37 :: v38 :: v39 :: v40 :: v41 :: v42 :: v43 :: v44 :: v45 :: v46 :: v47 :: v48 :: v49 :: v50 :: v51 :: v52 :: v53 :: v54 :: v55 :: v56 :: v57 :: v58 :: v59 :: v60 :: v61 :: v62 :: v63 :: v64 :: v65 :: v66 :: v67 :: v68 :: v69 :: v70 :: v71 :: v72 :: v73 :: v74 :: v75 :: v76 :: v77 :: v78 :: v79 :: v80 :: v81 :: v82 :: v83 :: v84 :: v85 :: v86 :: v87 :: v88 :: v89 :: v90 :: v91 :: v92 :: v93 :: v94 :: v95 :: v96 :: v97 :: v98 :: v99 :: v100 :: v101 :: v102 :: v103 :: v104 :: v105 :: v106 :: v107 :: v108 :: v109 :: v110 :: v111 :: v112 :: v113 :: v114 :: v115 :: v116 :: v117 :: v118 :: v119 :: v120 :: v121 :: v122 :: v123 :: v124 :: v125 :: v126 :: v127 :: v128 :: v129 :: v130 :: v131 :: v132 :: v133 :: v134 :: v135 :: v136 :: v137 :: v138 :: v139 :: v140 :: v141 :: v142 :: v143 :: v144 :: v145 :: v146 :: v147 :: v148 :: v149 :: v150 :: v151 :: v152 :: v153 :: v154 :: v155 :: v156 :: v157 :: v158 :: v159 :: v160 :: v161 :: v162 :: []).toArray, []⟩ wq := by
  subst hc0
  subst hc1
  replace hK := Lib.hid hK
  have M2 := ((M.out.made #[.int .i64 0] 39).made #[.int .i64 0] 42).sub (k := [(wq.heap.size + 1, #[.int .i64 0]), (wq.heap.size, #[.int .i64 0])]) (by simp)
  replace M2 := Lib.hid M2
  have lw := M.out.base.size
  clear M
  conv => arg 2; whnf
  go_wp2_with fail
  refine hK.out _ _ ?_
  clear hK
  conv => arg 2; whnf
  go_wp2_with fail
  go_loopw [127] (fun i v => i = .int .i64 0 ∧ Below w.heap.size w v) (fun _ _ => 0)
  case atStart => exact ⟨rfl, M2.out.base⟩
  case round =>
    obtain ⟨rfl, hb⟩ := hrel
    have HB := Lib.hid hb
    clear hb M2
    go_wp2_with fail
    refine (pi_any _).mono ?_
    rintro rr w5 ⟨rfl, hb⟩
    replace HB := Lib.hid (HB.out.trans (hb.mono HB.out.size))
    clear hb
    go_wp2_with fail
    refine (rPi_any _).mono ?_
    rintro rr w6 ⟨rfl, hb⟩
    replace HB := Lib.hid (HB.out.trans (hb.mono HB.out.size))
    clear hb
    go_wp2_with fail
    refine (l_same _ _ _).mono ?_
    rintro rr w7 ⟨rfl, hb⟩
    replace HB := Lib.hid (HB.out.trans (hb.mono HB.out.size))
    clear hb
    go_wp2_with fail
    refine (awake2_any _).mono ?_
    rintro rr w8 ⟨rfl, hb⟩
    replace HB := Lib.hid (HB.out.trans (hb.mono HB.out.size))
    clear hb
    go_wp2
    go_ret
    exact ⟨rfl, HB.out⟩

set_option maxRecDepth 1000000 in
set_option maxHeartbeats 16000000 in
theorem it_rest {a : Addr} {len cap m : Nat} {w wq : World} {l : List (Nat × Array Value)} (M : Hid (Mem w l wq)) (hm : m ≤ len) (hm2 : m ≤ 30) (hcc : len ≤ cap)
    (hmin : ∀ ts t w, (Builtin.min_ ts t #[.int .i64 len, .int .i64 30]).run Tryz.prog w = .ok (.int .i64 m) w)
    (hcell : Hid (∀ i, i < len → ∃ n al ah bl bh, OpIn w (a.add (i * 5)) n al ah bl bh))
    {v0 v1 v2 v4 v5 v6 v7 v8 v9 v10 v11 v12 v13 v14 v15 v16 v17 v18 v19 v20 v21 v22 v23 v24 v25 v26 v27 v28 v29 v30 v31 v32 v33 v34 v35 v36 v37 v38 v39 v40 v41 v42 v43 v44 v45 v46 v47 v48 v49 v50 v51 v52 v53 v54 v55 v56 v57 v58 v59 v60 v61 v62 v63 v64 v65 v66 v67 v68 v69 v70 v71 v72 v73 v74 v75 v76 v77 v78 v79 v80 v81 v82 v83 v84 v85 v86 v87 v88 v89 v90 v91 v92 v93 v94 v95 v96 v97 v98 v99 v100 v101 v102 v103 v104 v105 v106 v107 v108 v109 v110 v111 v112 v113 v114 v115 v116 v117 v118 v119 v120 v121 v122 v123 v124 v125 v126 v127 v128 v129 v130 v131 v132 v133 v134 v135 v136 v137 v138 v139 v140 v141 v142 v143 v144 v145 v146 v147 v148 v149 v150 v151 v152 v153 v154 v155 v156 v157 v158 v159 v160 v161 v162 : Value} {c0 c1 : Code} {K' : Act → World → Prop} {Q' : Exit → Act → World → Prop} (hc0 : c0 = itReg 12)
    (hK : ∀ (a' : Act) (w' : World), Code.wp Tryz.prog c1 (bodyPost Tryz.prog Tryz.f3 fun r w' => r = .returned (.bool true) ∧ Below w.heap.size w w') a' w' → K' a' w') (hc1 : c1 = itTail) :
    Code.wp Tryz.prog c0 (Exit.then K' Q') ⟨(v0 :: v1 :: v2 :: .slice (some a) len cap :: v4 :: v5 :: v6 :: v7 :: v8 :: v9 :: v10 :: v11 :: v12 :: v13 :: v14 :: v15 :: v16 :: v17 :: v18 :: v19 :: v20 :: v21 :: v22 :: v23 :: v24 :: v25 :: v26 :: v27 :: v28 :: v29 :: v30 :: v31 :: v32 :: v33 :: v34 :: v35 :: v36 :: v37 :: v38 :: v39 :: v40 :: v41 :: v42 :: v43 :: v44 :: v45 :: v46 :: v47 :: v48 :: v49 :: v50 :: v51 :: v52 :: v53 :: v54 :: v55 :: v56 :: v57 :: v58 :: v59 :: v60 :: v61 :: v62 :: v63 :: v64 :: v65 :: v66 :: v67 :: v68 :: v69 :: v70 :: v71 :: v72 :: v73 :: v74 :: v75 :: v76 :: v77 :: v78 :: v79 :: v80 :: v81 :: v82 :: v83 :: v84 :: v85 :: v86 :: v87 :: v88 :: v89 :: v90 :: v91 :: v92 :: v93 :: v94 :: v95 :: v96 :: v97 :: v98 :: v99 :: v100 :: v101 :: v102 :: v103 :: v104 :: v105 :: v106 :: v107 :: v108 :: v109 :: v110 :: v111 :: v112 :: v113 :: v114 :: v115 :: v116 :: v117 :: v118 :: v119 :: v120 :: v121 :: v122 :: v123 :: v124 :: v125 :: v126 :: v127 :: v128 :: v129 :: v130 :: v131 :: v132 :: v133 :: v134 :: v135 :: v136 :: v137 :: v138 :: v139 :: v140 :: v141 :: v142 :: v143 :: v144 :: v145 :: v146 :: v147 :: v148 :: v149 :: v150 :: v151 :: v152 :: v153 :: v154 :: v155 :: v156 :: v157 :: v158 :: v159 :: v160 :: v161 :: v162 :: []).toArray, []⟩ wq := by
  subst hc0
  subst hc1
  replace hK := Lib.hid hK
  have M2 := ((M.out.made #[.int .i64 0] 39).made #[.int .i64 0] 42).sub (k := [(wq.heap.size + 1, #[.int .i64 0]), (wq.heap.size, #[.int .i64 0])]) (by simp)
  replace M2 := Lib.hid M2
  have lw := M.out.base.size
  clear M
  conv => arg 2; whnf
  go_wp2_with fail
  refine hK.out _ _ ?_
  clear hK
  conv => arg 2; whnf
  go_wp2_with fail
  go_loopw [127] (ItRel w wq.heap.size (wq.heap.size + 1) m) (fun i _ => m - (intOf i).toNat)
  case atStart => exact ⟨0, 0, Nat.zero_le _, rfl, M2.out⟩
  case round =>
    clear M2 hmin
    obtain ⟨k, e, hk, rfl, hM⟩ := hrel
    have M := Lib.hid hM
    clear hM
    by_cases hlt : k < m
    · obtain ⟨n, al, ah, bl, bh, hO⟩ := hcell.out k (by omega)
      obtain ⟨k0, k1, k2, k3, k4, l0, l1, l2, l3, l4, l5⟩ := hO.below M.out.base
      have cA : Hid (∀ (pb : Nat) (v : World), v.cell? ⟨pb, 0, none⟩ = some (.int .i64 e) → v.frozen? ⟨pb, 0, none⟩ = false → Calls Tryz.prog 20 #[.agg #[.int .u8 n, .float .f64 al, .float .f64 ah, .float .f64 bl, .float .f64 bh], .pointer (some ⟨pb, 0, none⟩)] v (Told (askR e al ah bl bh (n % 11)) pb 0 v)) := Lib.hid fun pb v h1 h2 => asked_any e n al ah bl bh pb 0 v l0 l1 l2 l3 l4 h1 h2
      have cF : Hid (∀ (pb : Nat) (v : World), v.cell? ⟨pb, 0, none⟩ = some (.int .i64 0) → v.frozen? ⟨pb, 0, none⟩ = false → Calls Tryz.prog 20 #[.agg #[.int .u8 n, .float .f64 al, .float .f64 ah, .float .f64 bl, .float .f64 bh], .pointer (some ⟨pb, 0, none⟩)] v (Told (askR 0 al ah bl bh (n % 11)) pb 0 v)) := Lib.hid fun pb v h1 h2 => asked_any 0 n al ah bl bh pb 0 v l0 l1 l2 l3 l4 h1 h2
      have cO : Hid (∀ (pb : Nat) (v : World), Has1 v (pb, #[.int .i64 e]) → Calls Tryz.prog 21 #[.agg #[.int .u8 n, .float .f64 al, .float .f64 ah, .float .f64 bl, .float .f64 bh], .pointer (some ⟨pb, 0, none⟩)] v (Told (askR e al ah bl bh (n % 11)) pb 0 v)) := Lib.hid fun pb v h => own_any e n al ah bl bh pb v l0 l1 l2 l3 l4 h
      have cG : Hid (∀ (pb : Nat) (v : World), Has1 v (pb, #[.int .i64 0]) → Calls Tryz.prog 21 #[.agg #[.int .u8 n, .float .f64 al, .float .f64 ah, .float .f64 bl, .float .f64 bh], .pointer (some ⟨pb, 0, none⟩)] v (Told (askR 0 al ah bl bh (n % 11)) pb 0 v)) := Lib.hid fun pb v h => own_any 0 n al ah bl bh pb v l0 l1 l2 l3 l4 h
      generalize askR e al ah bl bh (n % 11) = R at *
      generalize askR 0 al ah bl bh (n % 11) = S at *
      clear hO l0 l1 l2 l3 l4 hcell
      have zc := M.out.size 1 rfl
      have zd := M.out.size 0 rfl
      have F4 : Four w wr.heap.size (wr.heap.size + 1) wq.heap.size (wq.heap.size + 1) #[.int .u8 n, .float .f64 al, .float .f64 ah, .float .f64 bl, .float .f64 bh] 0 e e ((wr.alloc (.cells #[.int .u8 n, .float .f64 al, .float .f64 ah, .float .f64 bl, .float .f64 bh] 44)).alloc (.cells #[.int .i64 0] 39)) := by
        have h := (M.out.made #[.int .u8 n, .float .f64 al, .float .f64 ah, .float .f64 bl, .float .f64 bh] 44).made #[.int .i64 0] 39
        simp only [World.size_alloc] at h
        exact ⟨h.base, h.nth 1 rfl, h.nth 0 rfl, h.nth 3 rfl, h.nth 2 rfl⟩
      have A : Hid (Apart w wr.heap.size (wr.heap.size + 1) wq.heap.size (wq.heap.size + 1)) := Lib.hid (by
        have lv := M.out.base.size
        exact ⟨by omega, by omega, by omega, by omega, by omega, by omega, by omega, by omega, by omega⟩)
      replace F4 := Lib.hid F4
      go_upto_region 18 with fail
      clear k0 k1 k2 k3 k4 M
      go_cut [155] from 131 to 155 (ItCut w wr.heap.size (wr.heap.size + 1) wq.heap.size (wq.heap.size + 1) #[.int .u8 n, .float .f64 al, .float .f64 ah, .float .f64 bl, .float .f64 bh] R.e)
      case first =>
        exact it_r18 A F4 cA cF cO cG (by kernel_rfl) (by assumption) (by assumption)
      case rest =>
        obtain ⟨w4, rfl⟩ : ∃ x : World, x = wc := ⟨_, rfl⟩
        obtain ⟨rfl, ef, hF⟩ := hcut
        have M := Lib.hid (show Mem w [(wq.heap.size + 1, #[.int .i64 R.e]), (wq.heap.size, #[.int .i64 R.e])] w4 from ⟨hF.base, fun p hp => by
          simp only [List.mem_cons, List.not_mem_nil, or_false] at hp
          rcases hp with rfl | rfl
          · exact hF.hd
          · exact hF.hc⟩)
        clear hF F4 cA cF cO cG
        go_wp2_with fail
        go_roundw
        case rel => exact ⟨k + 1, R.e, by omega, congrArg (Value.int .i64) (by omega), M.out⟩
        case measure => simp [intOf]; omega
    · have hkm : k = m := by omega
      subst hkm
      have HB := Lib.hid M.out.base
      clear M hlt hcell
      go_wp2_with fail
      refine (pi_any _).mono ?_
      rintro rr w5 ⟨rfl, hb⟩
      replace HB := Lib.hid (HB.out.trans (hb.mono HB.out.size))
      clear hb
      go_wp2_with fail
      refine (rPi_any _).mono ?_
      rintro rr w6 ⟨rfl, hb⟩
      replace HB := Lib.hid (HB.out.trans (hb.mono HB.out.size))
      clear hb
      go_wp2_with fail
      refine (l_same _ _ _).mono ?_
      rintro rr w7 ⟨rfl, hb⟩
      replace HB := Lib.hid (HB.out.trans (hb.mono HB.out.size))
      clear hb
      go_wp2_with fail
      refine (awake2_any _).mono ?_
      rintro rr w8 ⟨rfl, hb⟩
      replace HB := Lib.hid (HB.out.trans (hb.mono HB.out.size))
      clear hb
      go_wp2
      go_ret
      exact ⟨rfl, HB.out⟩

end Go.Proofs.YtmcecchcbfhfcaaGreat

namespace Go.Proofs.YtmcecchcbfhfcaaGreat
open Go.RowKit
attribute [local go_sem] run_store_float

theorem word_same (a : Nat) (w : World) : Calls Tryz.prog 15 #[.float .f64 a, .float .f64 a] w fun r w' => r = .returned (.bool true) ∧ w = w' := by
  have h := same_any a a w
  rw [decide_eq_true rfl] at h
  exact h

set_option maxRecDepth 1000000 in
set_option maxHeartbeats 16000000 in
theorem it_head_nil (al ah bl bh x n ml mh hl hh : Nat) (V : Res) (g : Int) (rt rb hs k : Bool) (w : World)
    (cV : Hid (∀ v : World, Calls Tryz.prog 6 #[.float .f64 x] v fun r w' => r = .returned (.tuple #[.agg #[.float .f64 V.lo, .float .f64 V.hi], .int .i64 V.e]) ∧ Below v.heap.size v w'))
    (dV : Hid (∀ v : World, Calls Tryz.prog 7 #[.float .f64 x] v fun r w' => r = .returned (.tuple #[.agg #[.float .f64 V.lo, .float .f64 V.hi], .int .i64 V.e]) ∧ Below v.heap.size v w'))
    (cW : Hid (∀ v : World, Calls Tryz.prog 8 #[.agg #[.float .f64 al, .float .f64 ah]] v fun r w' => r = .returned (.tuple #[.float .f64 n, .int .i64 g]) ∧ Below v.heap.size v w'))
    (dW : Hid (∀ v : World, Calls Tryz.prog 9 #[.agg #[.float .f64 al, .float .f64 ah]] v fun r w' => r = .returned (.tuple #[.float .f64 n, .int .i64 g]) ∧ Below v.heap.size v w'))
    (cR : Hid (∀ v : World, Calls Tryz.prog 10 #[.agg #[.float .f64 al, .float .f64 ah]] v fun r w' => r = .returned (.bool rt) ∧ Below v.heap.size v w'))
    (dR : Hid (∀ v : World, Calls Tryz.prog 11 #[.agg #[.float .f64 al, .float .f64 ah]] v fun r w' => r = .returned (.bool rt) ∧ Below v.heap.size v w'))
    (cH : Hid (∀ v : World, Calls Tryz.prog 12 #[.agg #[.float .f64 al, .float .f64 ah], .float .f64 x] v fun r w' => r = .returned (.bool hs) ∧ Below v.heap.size v w'))
    (dH : Hid (∀ v : World, Calls Tryz.prog 13 #[.agg #[.float .f64 al, .float .f64 ah], .float .f64 x] v fun r w' => r = .returned (.bool hs) ∧ Below v.heap.size v w'))
    (cS : Hid (∀ v : World, Calls Tryz.prog 15 #[.float .f64 n, .float .f64 n] v fun r w' => r = .returned (.bool true) ∧ v = w'))
    (dB : Hid (∀ v : World, Calls Tryz.prog 11 #[.agg #[.float .f64 bl, .float .f64 bh]] v fun r w' => r = .returned (.bool rb) ∧ Below v.heap.size v w'))
    (cM : Hid (rt = true → rb = true → (∀ v : World, Calls Tryz.prog 16 #[.agg #[.float .f64 al, .float .f64 ah], .agg #[.float .f64 bl, .float .f64 bh]] v fun r w' => r = .returned (.tuple #[.agg #[.float .f64 ml, .float .f64 mh], .bool k]) ∧ Below v.heap.size v w')))
    (dM : Hid (rt = true → rb = true → (∀ v : World, Calls Tryz.prog 17 #[.agg #[.float .f64 al, .float .f64 ah], .agg #[.float .f64 bl, .float .f64 bh]] v fun r w' => r = .returned (.tuple #[.agg #[.float .f64 ml, .float .f64 mh], .bool k]) ∧ Below v.heap.size v w')))
    (cU : Hid (rt = true → rb = true → (∀ v : World, Calls Tryz.prog 18 #[.agg #[.float .f64 al, .float .f64 ah], .agg #[.float .f64 bl, .float .f64 bh]] v fun r w' => r = .returned (.agg #[.float .f64 hl, .float .f64 hh]) ∧ Below v.heap.size v w')))
    (dU : Hid (rt = true → rb = true → (∀ v : World, Calls Tryz.prog 19 #[.agg #[.float .f64 al, .float .f64 ah], .agg #[.float .f64 bl, .float .f64 bh]] v fun r w' => r = .returned (.agg #[.float .f64 hl, .float .f64 hh]) ∧ Below v.heap.size v w'))) :
    Calls Tryz.prog 3 #[.agg #[.float .f64 al, .float .f64 ah], .agg #[.float .f64 bl, .float .f64 bh], .float .f64 x, .slice none 0 0] w fun r w' => r = .returned (.bool true) ∧ Below w.heap.size w w' := by
  have M : Hid (Mem w [(w.heap.size + 1, #[.float .f64 bl, .float .f64 bh]), (w.heap.size, #[.float .f64 al, .float .f64 ah])] ((w.alloc (.cells #[.float .f64 al, .float .f64 ah] 24)).alloc (.cells #[.float .f64 bl, .float .f64 bh] 24))) := Lib.hid ((Mem.two w #[.float .f64 al, .float .f64 ah] #[.float .f64 bl, .float .f64 bh] 24 24).sub (by simp))
  go_enter Tryz.func3, Tryz.ntmps3
  go_wp2_with fail
  refine (cV.out _).mono ?_
  rintro rr w1 ⟨rfl, hb⟩
  replace M := Lib.hid (M.out.below hb)
  clear hb
  go_wp2_with fail
  have M1 := Lib.hid (M.out.made #[.float .f64 V.lo, .float .f64 V.hi] 24)
  clear M
  have M := M1
  clear M1
  refine (dV.out _).mono ?_
  rintro rr w2 ⟨rfl, hb⟩
  replace M := Lib.hid (M.out.below hb)
  clear hb
  go_upto_region 3 with fail
  have M1 := Lib.hid (M.out.made #[.float .f64 V.lo, .float .f64 V.hi] 24)
  clear M
  have M := M1
  clear M1
  generalize (w2.alloc (Obj.cells #[.float .f64 V.lo, .float .f64 V.hi] 24)) = v2 at *
  have k0 : v2.cell? ⟨w.heap.size, 0, none⟩ = some (.float .f64 al) := (M.out.nth 3 rfl).2.1 0
  have k1 : v2.cell? ⟨w.heap.size, 1, none⟩ = some (.float .f64 ah) := (M.out.nth 3 rfl).2.1 1
  have k2 : v2.cell? ⟨w.heap.size + 1, 0, none⟩ = some (.float .f64 bl) := (M.out.nth 2 rfl).2.1 0
  have k3 : v2.cell? ⟨w.heap.size + 1, 1, none⟩ = some (.float .f64 bh) := (M.out.nth 2 rfl).2.1 1
  go_wp2_with fail
  refine (cW.out _).mono ?_
  rintro rr w3 ⟨rfl, hb⟩
  replace M := Lib.hid (M.out.below hb)
  clear hb
  clear k0 k1 k2 k3
  have k0 : w3.cell? ⟨w.heap.size, 0, none⟩ = some (.float .f64 al) := (M.out.nth 3 rfl).2.1 0
  have k1 : w3.cell? ⟨w.heap.size, 1, none⟩ = some (.float .f64 ah) := (M.out.nth 3 rfl).2.1 1
  have k2 : w3.cell? ⟨w.heap.size + 1, 0, none⟩ = some (.float .f64 bl) := (M.out.nth 2 rfl).2.1 0
  have k3 : w3.cell? ⟨w.heap.size + 1, 1, none⟩ = some (.float .f64 bh) := (M.out.nth 2 rfl).2.1 1
  go_wp2_with fail
  refine (dW.out _).mono ?_
  rintro rr w4 ⟨rfl, hb⟩
  replace M := Lib.hid (M.out.below hb)
  clear hb
  clear k0 k1 k2 k3
  go_upto_region 5 with fail
  go_cut [81] from 46 to 81 (fun v wx => v = .bool false ∧ Mem w [(w.heap.size + 1, #[.float .f64 bl, .float .f64 bh]), (w.heap.size, #[.float .f64 al, .float .f64 ah])] wx)
  case first =>
    exact it_r5 M cR dR cH dH cS (by kernel_rfl) (by assumption) (by assumption)
  case rest =>
    obtain ⟨w5, rfl⟩ : ∃ x : World, x = wc := ⟨_, rfl⟩
    obtain ⟨rfl, hM⟩ := hcut
    clear M
    have M := Lib.hid hM
    clear hM
    have k0 : w5.cell? ⟨w.heap.size, 0, none⟩ = some (.float .f64 al) := (M.out.nth 1 rfl).2.1 0
    have k1 : w5.cell? ⟨w.heap.size, 1, none⟩ = some (.float .f64 ah) := (M.out.nth 1 rfl).2.1 1
    have k2 : w5.cell? ⟨w.heap.size + 1, 0, none⟩ = some (.float .f64 bl) := (M.out.nth 0 rfl).2.1 0
    have k3 : w5.cell? ⟨w.heap.size + 1, 1, none⟩ = some (.float .f64 bh) := (M.out.nth 0 rfl).2.1 1
    go_wp2_with fail
    refine (dR.out _).mono ?_
    rintro rr w6 ⟨rfl, hb⟩
    replace M := Lib.hid (M.out.below hb)
    clear hb
    clear k0 k1 k2 k3
    have k0 : w6.cell? ⟨w.heap.size, 0, none⟩ = some (.float .f64 al) := (M.out.nth 1 rfl).2.1 0
    have k1 : w6.cell? ⟨w.heap.size, 1, none⟩ = some (.float .f64 ah) := (M.out.nth 1 rfl).2.1 1
    have k2 : w6.cell? ⟨w.heap.size + 1, 0, none⟩ = some (.float .f64 bl) := (M.out.nth 0 rfl).2.1 0
    have k3 : w6.cell? ⟨w.heap.size + 1, 1, none⟩ = some (.float .f64 bh) := (M.out.nth 0 rfl).2.1 1
    cases rt
    · go_upto_region 12 with fail
      exact it_rest_nil M (by kernel_rfl) (by assumption) (by kernel_rfl)
    · go_wp2_with fail
      refine (dB.out _).mono ?_
      rintro rr w7 ⟨rfl, hb⟩
      replace M := Lib.hid (M.out.below hb)
      clear hb
      clear k0 k1 k2 k3
      have k0 : w7.cell? ⟨w.heap.size, 0, none⟩ = some (.float .f64 al) := (M.out.nth 1 rfl).2.1 0
      have k1 : w7.cell? ⟨w.heap.size, 1, none⟩ = some (.float .f64 ah) := (M.out.nth 1 rfl).2.1 1
      have k2 : w7.cell? ⟨w.heap.size + 1, 0, none⟩ = some (.float .f64 bl) := (M.out.nth 0 rfl).2.1 0
      have k3 : w7.cell? ⟨w.heap.size + 1, 1, none⟩ = some (.float .f64 bh) := (M.out.nth 0 rfl).2.1 1
      cases rb
      · go_upto_region 12 with fail
        exact it_rest_nil M (by kernel_rfl) (by assumption) (by kernel_rfl)
      · go_wp2_with fail
        refine (cM.out (by simp) (by simp) _).mono ?_
        rintro rr w8 ⟨rfl, hb⟩
        replace M := Lib.hid (M.out.below hb)
        clear hb
        clear k0 k1 k2 k3
        go_upto_region 9 with fail
        have M1 := Lib.hid (M.out.made #[.float .f64 ml, .float .f64 mh] 24)
        clear M
        have M := M1
        clear M1
        generalize (w8.alloc (Obj.cells #[.float .f64 ml, .float .f64 mh] 24)) = v8 at *
        have k0 : v8.cell? ⟨w.heap.size, 0, none⟩ = some (.float .f64 al) := (M.out.nth 2 rfl).2.1 0
        have k1 : v8.cell? ⟨w.heap.size, 1, none⟩ = some (.float .f64 ah) := (M.out.nth 2 rfl).2.1 1
        have k2 : v8.cell? ⟨w.heap.size + 1, 0, none⟩ = some (.float .f64 bl) := (M.out.nth 1 rfl).2.1 0
        have k3 : v8.cell? ⟨w.heap.size + 1, 1, none⟩ = some (.float .f64 bh) := (M.out.nth 1 rfl).2.1 1
        go_wp2_with fail
        refine (dM.out (by simp) (by simp) _).mono ?_
        rintro rr w9 ⟨rfl, hb⟩
        replace M := Lib.hid (M.out.below hb)
        clear hb
        clear k0 k1 k2 k3
        go_upto_region 10 with fail
        have M1 := Lib.hid (M.out.made #[.float .f64 ml, .float .f64 mh] 24)
        clear M
        have M := M1
        clear M1
        generalize (w9.alloc (Obj.cells #[.float .f64 ml, .float .f64 mh] 24)) = v9 at *
        go_cut [118] from 100 to 118 (fun v wx => v = .bool false ∧ Mem w [(w.heap.size + 1, #[.float .f64 bl, .float .f64 bh]), (w.heap.size, #[.float .f64 al, .float .f64 ah])] wx)
        case first =>
          exact it_r10 M (Lib.hid (cU.out (by simp) (by simp))) (Lib.hid (dU.out (by simp) (by simp))) (by kernel_rfl) (by assumption) (by assumption)
        case rest =>
          obtain ⟨w10, rfl⟩ : ∃ x : World, x = wc := ⟨_, rfl⟩
          obtain ⟨rfl, hM⟩ := hcut
          clear M
          have M := Lib.hid hM
          clear hM
          go_upto_region 12 with fail
          exact it_rest_nil M (by kernel_rfl) (by assumption) (by kernel_rfl)

theorem it_any_nil (al ah bl bh x : Nat) (w : World) (la : al < 18446744073709551616) (ha : ah < 18446744073709551616) (lb : bl < 18446744073709551616) (hb : bh < 18446744073709551616) (lx : x < 18446744073709551616) :
    Calls Tryz.prog 3 #[.agg #[.float .f64 al, .float .f64 ah], .agg #[.float .f64 bl, .float .f64 bh], .float .f64 x, .slice none 0 0] w fun r w' => r = .returned (.bool true) ∧ Below w.heap.size w w' :=
  it_head_nil al ah bl bh x _ _ _ _ _ (ofI x) _ _ _ _ _ w (Lib.hid fun v => of_any x v lx) (Lib.hid fun v => rOf_any x v lx) (Lib.hid fun v => width_any al ah v la ha) (Lib.hid fun v => rWidth_any al ah v la ha)
    (Lib.hid fun v => ivRight_any al ah v la ha) (Lib.hid fun v => rRight_any al ah v la ha) (Lib.hid fun v => has_any al ah x v la ha) (Lib.hid fun v => rHas_any al ah x v la ha) (Lib.hid fun v => word_same _ v) (Lib.hid fun v => rRight_any bl bh v lb hb)
    (Lib.hid fun r1 r2 v => meet_any al ah bl bh v la ha lb hb (ivR_parts r1).1 (ivR_parts r1).2.1 (ivR_parts r2).1 (ivR_parts r2).2.1) (Lib.hid fun r1 r2 v => rMeet_any al ah bl bh v la ha lb hb (ivR_parts r1).1 (ivR_parts r1).2.1 (ivR_parts r2).1 (ivR_parts r2).2.1)
    (Lib.hid fun r1 r2 v => hull_any al ah bl bh v la ha lb hb (ivR_parts r1).1 (ivR_parts r1).2.1 (ivR_parts r2).1 (ivR_parts r2).2.1) (Lib.hid fun r1 r2 v => rHull_any al ah bl bh v la ha lb hb (ivR_parts r1).1 (ivR_parts r1).2.1 (ivR_parts r2).1 (ivR_parts r2).2.1)

set_option maxRecDepth 1000000 in
set_option maxHeartbeats 16000000 in
theorem it_head {a : Addr} {len cap m : Nat} (al ah bl bh x n ml mh hl hh : Nat) (V : Res) (g : Int) (rt rb hs k : Bool) (w : World)
    (cV : Hid (∀ v : World, Calls Tryz.prog 6 #[.float .f64 x] v fun r w' => r = .returned (.tuple #[.agg #[.float .f64 V.lo, .float .f64 V.hi], .int .i64 V.e]) ∧ Below v.heap.size v w'))
    (dV : Hid (∀ v : World, Calls Tryz.prog 7 #[.float .f64 x] v fun r w' => r = .returned (.tuple #[.agg #[.float .f64 V.lo, .float .f64 V.hi], .int .i64 V.e]) ∧ Below v.heap.size v w'))
    (cW : Hid (∀ v : World, Calls Tryz.prog 8 #[.agg #[.float .f64 al, .float .f64 ah]] v fun r w' => r = .returned (.tuple #[.float .f64 n, .int .i64 g]) ∧ Below v.heap.size v w'))
    (dW : Hid (∀ v : World, Calls Tryz.prog 9 #[.agg #[.float .f64 al, .float .f64 ah]] v fun r w' => r = .returned (.tuple #[.float .f64 n, .int .i64 g]) ∧ Below v.heap.size v w'))
    (cR : Hid (∀ v : World, Calls Tryz.prog 10 #[.agg #[.float .f64 al, .float .f64 ah]] v fun r w' => r = .returned (.bool rt) ∧ Below v.heap.size v w'))
    (dR : Hid (∀ v : World, Calls Tryz.prog 11 #[.agg #[.float .f64 al, .float .f64 ah]] v fun r w' => r = .returned (.bool rt) ∧ Below v.heap.size v w'))
    (cH : Hid (∀ v : World, Calls Tryz.prog 12 #[.agg #[.float .f64 al, .float .f64 ah], .float .f64 x] v fun r w' => r = .returned (.bool hs) ∧ Below v.heap.size v w'))
    (dH : Hid (∀ v : World, Calls Tryz.prog 13 #[.agg #[.float .f64 al, .float .f64 ah], .float .f64 x] v fun r w' => r = .returned (.bool hs) ∧ Below v.heap.size v w'))
    (cS : Hid (∀ v : World, Calls Tryz.prog 15 #[.float .f64 n, .float .f64 n] v fun r w' => r = .returned (.bool true) ∧ v = w'))
    (dB : Hid (∀ v : World, Calls Tryz.prog 11 #[.agg #[.float .f64 bl, .float .f64 bh]] v fun r w' => r = .returned (.bool rb) ∧ Below v.heap.size v w'))
    (cM : Hid (rt = true → rb = true → (∀ v : World, Calls Tryz.prog 16 #[.agg #[.float .f64 al, .float .f64 ah], .agg #[.float .f64 bl, .float .f64 bh]] v fun r w' => r = .returned (.tuple #[.agg #[.float .f64 ml, .float .f64 mh], .bool k]) ∧ Below v.heap.size v w')))
    (dM : Hid (rt = true → rb = true → (∀ v : World, Calls Tryz.prog 17 #[.agg #[.float .f64 al, .float .f64 ah], .agg #[.float .f64 bl, .float .f64 bh]] v fun r w' => r = .returned (.tuple #[.agg #[.float .f64 ml, .float .f64 mh], .bool k]) ∧ Below v.heap.size v w')))
    (cU : Hid (rt = true → rb = true → (∀ v : World, Calls Tryz.prog 18 #[.agg #[.float .f64 al, .float .f64 ah], .agg #[.float .f64 bl, .float .f64 bh]] v fun r w' => r = .returned (.agg #[.float .f64 hl, .float .f64 hh]) ∧ Below v.heap.size v w')))
    (dU : Hid (rt = true → rb = true → (∀ v : World, Calls Tryz.prog 19 #[.agg #[.float .f64 al, .float .f64 ah], .agg #[.float .f64 bl, .float .f64 bh]] v fun r w' => r = .returned (.agg #[.float .f64 hl, .float .f64 hh]) ∧ Below v.heap.size v w'))) (hm : m ≤ len) (hm2 : m ≤ 30) (hcc : len ≤ cap)
    (hmin : ∀ ts t w, (Builtin.min_ ts t #[.int .i64 len, .int .i64 30]).run Tryz.prog w = .ok (.int .i64 m) w)
    (hcell : Hid (∀ i, i < len → ∃ n al ah bl bh, OpIn w (a.add (i * 5)) n al ah bl bh)) :
    Calls Tryz.prog 3 #[.agg #[.float .f64 al, .float .f64 ah], .agg #[.float .f64 bl, .float .f64 bh], .float .f64 x, .slice (some a) len cap] w fun r w' => r = .returned (.bool true) ∧ Below w.heap.size w w' := by
  replace hmin := Lib.hid hmin
  have M : Hid (Mem w [(w.heap.size + 1, #[.float .f64 bl, .float .f64 bh]), (w.heap.size, #[.float .f64 al, .float .f64 ah])] ((w.alloc (.cells #[.float .f64 al, .float .f64 ah] 24)).alloc (.cells #[.float .f64 bl, .float .f64 bh] 24))) := Lib.hid ((Mem.two w #[.float .f64 al, .float .f64 ah] #[.float .f64 bl, .float .f64 bh] 24 24).sub (by simp))
  go_enter Tryz.func3, Tryz.ntmps3
  go_wp2_with fail
  refine (cV.out _).mono ?_
  rintro rr w1 ⟨rfl, hb⟩
  replace M := Lib.hid (M.out.below hb)
  clear hb
  go_wp2_with fail
  have M1 := Lib.hid (M.out.made #[.float .f64 V.lo, .float .f64 V.hi] 24)
  clear M
  have M := M1
  clear M1
  refine (dV.out _).mono ?_
  rintro rr w2 ⟨rfl, hb⟩
  replace M := Lib.hid (M.out.below hb)
  clear hb
  go_upto_region 3 with fail
  have M1 := Lib.hid (M.out.made #[.float .f64 V.lo, .float .f64 V.hi] 24)
  clear M
  have M := M1
  clear M1
  generalize (w2.alloc (Obj.cells #[.float .f64 V.lo, .float .f64 V.hi] 24)) = v2 at *
  have k0 : v2.cell? ⟨w.heap.size, 0, none⟩ = some (.float .f64 al) := (M.out.nth 3 rfl).2.1 0
  have k1 : v2.cell? ⟨w.heap.size, 1, none⟩ = some (.float .f64 ah) := (M.out.nth 3 rfl).2.1 1
  have k2 : v2.cell? ⟨w.heap.size + 1, 0, none⟩ = some (.float .f64 bl) := (M.out.nth 2 rfl).2.1 0
  have k3 : v2.cell? ⟨w.heap.size + 1, 1, none⟩ = some (.float .f64 bh) := (M.out.nth 2 rfl).2.1 1
  go_wp2_with fail
  refine (cW.out _).mono ?_
  rintro rr w3 ⟨rfl, hb⟩
  replace M := Lib.hid (M.out.below hb)
  clear hb
  clear k0 k1 k2 k3
  have k0 : w3.cell? ⟨w.heap.size, 0, none⟩ = some (.float .f64 al) := (M.out.nth 3 rfl).2.1 0
  have k1 : w3.cell? ⟨w.heap.size, 1, none⟩ = some (.float .f64 ah) := (M.out.nth 3 rfl).2.1 1
  have k2 : w3.cell? ⟨w.heap.size + 1, 0, none⟩ = some (.float .f64 bl) := (M.out.nth 2 rfl).2.1 0
  have k3 : w3.cell? ⟨w.heap.size + 1, 1, none⟩ = some (.float .f64 bh) := (M.out.nth 2 rfl).2.1 1
  go_wp2_with fail
  refine (dW.out _).mono ?_
  rintro rr w4 ⟨rfl, hb⟩
  replace M := Lib.hid (M.out.below hb)
  clear hb
  clear k0 k1 k2 k3
  go_upto_region 5 with fail
  go_cut [81] from 46 to 81 (fun v wx => v = .bool false ∧ Mem w [(w.heap.size + 1, #[.float .f64 bl, .float .f64 bh]), (w.heap.size, #[.float .f64 al, .float .f64 ah])] wx)
  case first =>
    exact it_r5 M cR dR cH dH cS (by kernel_rfl) (by assumption) (by assumption)
  case rest =>
    obtain ⟨w5, rfl⟩ : ∃ x : World, x = wc := ⟨_, rfl⟩
    obtain ⟨rfl, hM⟩ := hcut
    clear M
    have M := Lib.hid hM
    clear hM
    have k0 : w5.cell? ⟨w.heap.size, 0, none⟩ = some (.float .f64 al) := (M.out.nth 1 rfl).2.1 0
    have k1 : w5.cell? ⟨w.heap.size, 1, none⟩ = some (.float .f64 ah) := (M.out.nth 1 rfl).2.1 1
    have k2 : w5.cell? ⟨w.heap.size + 1, 0, none⟩ = some (.float .f64 bl) := (M.out.nth 0 rfl).2.1 0
    have k3 : w5.cell? ⟨w.heap.size + 1, 1, none⟩ = some (.float .f64 bh) := (M.out.nth 0 rfl).2.1 1
    go_wp2_with fail
    refine (dR.out _).mono ?_
    rintro rr w6 ⟨rfl, hb⟩
    replace M := Lib.hid (M.out.below hb)
    clear hb
    clear k0 k1 k2 k3
    have k0 : w6.cell? ⟨w.heap.size, 0, none⟩ = some (.float .f64 al) := (M.out.nth 1 rfl).2.1 0
    have k1 : w6.cell? ⟨w.heap.size, 1, none⟩ = some (.float .f64 ah) := (M.out.nth 1 rfl).2.1 1
    have k2 : w6.cell? ⟨w.heap.size + 1, 0, none⟩ = some (.float .f64 bl) := (M.out.nth 0 rfl).2.1 0
    have k3 : w6.cell? ⟨w.heap.size + 1, 1, none⟩ = some (.float .f64 bh) := (M.out.nth 0 rfl).2.1 1
    cases rt
    · go_upto_region 12 with fail
      exact it_rest M hm hm2 hcc hmin.out hcell (by kernel_rfl) (by assumption) (by kernel_rfl)
    · go_wp2_with fail
      refine (dB.out _).mono ?_
      rintro rr w7 ⟨rfl, hb⟩
      replace M := Lib.hid (M.out.below hb)
      clear hb
      clear k0 k1 k2 k3
      have k0 : w7.cell? ⟨w.heap.size, 0, none⟩ = some (.float .f64 al) := (M.out.nth 1 rfl).2.1 0
      have k1 : w7.cell? ⟨w.heap.size, 1, none⟩ = some (.float .f64 ah) := (M.out.nth 1 rfl).2.1 1
      have k2 : w7.cell? ⟨w.heap.size + 1, 0, none⟩ = some (.float .f64 bl) := (M.out.nth 0 rfl).2.1 0
      have k3 : w7.cell? ⟨w.heap.size + 1, 1, none⟩ = some (.float .f64 bh) := (M.out.nth 0 rfl).2.1 1
      cases rb
      · go_upto_region 12 with fail
        exact it_rest M hm hm2 hcc hmin.out hcell (by kernel_rfl) (by assumption) (by kernel_rfl)
      · go_wp2_with fail
        refine (cM.out (by simp) (by simp) _).mono ?_
        rintro rr w8 ⟨rfl, hb⟩
        replace M := Lib.hid (M.out.below hb)
        clear hb
        clear k0 k1 k2 k3
        go_upto_region 9 with fail
        have M1 := Lib.hid (M.out.made #[.float .f64 ml, .float .f64 mh] 24)
        clear M
        have M := M1
        clear M1
        generalize (w8.alloc (Obj.cells #[.float .f64 ml, .float .f64 mh] 24)) = v8 at *
        have k0 : v8.cell? ⟨w.heap.size, 0, none⟩ = some (.float .f64 al) := (M.out.nth 2 rfl).2.1 0
        have k1 : v8.cell? ⟨w.heap.size, 1, none⟩ = some (.float .f64 ah) := (M.out.nth 2 rfl).2.1 1
        have k2 : v8.cell? ⟨w.heap.size + 1, 0, none⟩ = some (.float .f64 bl) := (M.out.nth 1 rfl).2.1 0
        have k3 : v8.cell? ⟨w.heap.size + 1, 1, none⟩ = some (.float .f64 bh) := (M.out.nth 1 rfl).2.1 1
        go_wp2_with fail
        refine (dM.out (by simp) (by simp) _).mono ?_
        rintro rr w9 ⟨rfl, hb⟩
        replace M := Lib.hid (M.out.below hb)
        clear hb
        clear k0 k1 k2 k3
        go_upto_region 10 with fail
        have M1 := Lib.hid (M.out.made #[.float .f64 ml, .float .f64 mh] 24)
        clear M
        have M := M1
        clear M1
        generalize (w9.alloc (Obj.cells #[.float .f64 ml, .float .f64 mh] 24)) = v9 at *
        go_cut [118] from 100 to 118 (fun v wx => v = .bool false ∧ Mem w [(w.heap.size + 1, #[.float .f64 bl, .float .f64 bh]), (w.heap.size, #[.float .f64 al, .float .f64 ah])] wx)
        case first =>
          exact it_r10 M (Lib.hid (cU.out (by simp) (by simp))) (Lib.hid (dU.out (by simp) (by simp))) (by kernel_rfl) (by assumption) (by assumption)
        case rest =>
          obtain ⟨w10, rfl⟩ : ∃ x : World, x = wc := ⟨_, rfl⟩
          obtain ⟨rfl, hM⟩ := hcut
          clear M
          have M := Lib.hid hM
          clear hM
          go_upto_region 12 with fail
          exact it_rest M hm hm2 hcc hmin.out hcell (by kernel_rfl) (by assumption) (by kernel_rfl)

theorem it_any {a : Addr} {len cap m : Nat} (al ah bl bh x : Nat) (w : World) (la : al < 18446744073709551616) (ha : ah < 18446744073709551616) (lb : bl < 18446744073709551616) (hb : bh < 18446744073709551616) (lx : x < 18446744073709551616) (hm : m ≤ len) (hm2 : m ≤ 30) (hcc : len ≤ cap)
    (hmin : ∀ ts t w, (Builtin.min_ ts t #[.int .i64 len, .int .i64 30]).run Tryz.prog w = .ok (.int .i64 m) w)
    (hcell : ∀ i, i < len → ∃ n al ah bl bh, OpIn w (a.add (i * 5)) n al ah bl bh) :
    Calls Tryz.prog 3 #[.agg #[.float .f64 al, .float .f64 ah], .agg #[.float .f64 bl, .float .f64 bh], .float .f64 x, .slice (some a) len cap] w fun r w' => r = .returned (.bool true) ∧ Below w.heap.size w w' :=
  it_head al ah bl bh x _ _ _ _ _ (ofI x) _ _ _ _ _ w (Lib.hid fun v => of_any x v lx) (Lib.hid fun v => rOf_any x v lx) (Lib.hid fun v => width_any al ah v la ha) (Lib.hid fun v => rWidth_any al ah v la ha)
    (Lib.hid fun v => ivRight_any al ah v la ha) (Lib.hid fun v => rRight_any al ah v la ha) (Lib.hid fun v => has_any al ah x v la ha) (Lib.hid fun v => rHas_any al ah x v la ha) (Lib.hid fun v => word_same _ v) (Lib.hid fun v => rRight_any bl bh v lb hb)
    (Lib.hid fun r1 r2 v => meet_any al ah bl bh v la ha lb hb (ivR_parts r1).1 (ivR_parts r1).2.1 (ivR_parts r2).1 (ivR_parts r2).2.1) (Lib.hid fun r1 r2 v => rMeet_any al ah bl bh v la ha lb hb (ivR_parts r1).1 (ivR_parts r1).2.1 (ivR_parts r2).1 (ivR_parts r2).2.1)
    (Lib.hid fun r1 r2 v => hull_any al ah bl bh v la ha lb hb (ivR_parts r1).1 (ivR_parts r1).2.1 (ivR_parts r2).1 (ivR_parts r2).2.1) (Lib.hid fun r1 r2 v => rHull_any al ah bl bh v la ha lb hb (ivR_parts r1).1 (ivR_parts r1).2.1 (ivR_parts r2).1 (ivR_parts r2).2.1) hm hm2 hcc hmin (Lib.hid hcell)

end Go.Proofs.YtmcecchcbfhfcaaGreat
