
/- The law DirSides: what is behind its loop. -/
import Derived.Test.YtmcecchcbfhfcaaSidesP
namespace Go.Proofs.Ytmcecchcbfhfcaa
open Go.RowKit
attribute [local go_sem] run_store_float

set_option maxRecDepth 1000000 in
set_option maxHeartbeats 16000000 in
theorem sides_tail {a b q s r0 r1 r2 r3 r4 : Nat} {w wr : World} (RA : Hid (a < 18446744073709551616 ∧ b < 18446744073709551616 ∧ rightB a = true ∧ rightB b = true)) (M : Hid (SidesMem w a b q s r0 r1 r2 r3 r4 wr))
    {v0 v1 v4 v5 v6 v7 v8 v9 v10 v11 v12 v13 v14 v15 v16 v17 v18 v19 v20 v21 v22 v23 v24 v25 v26 v27 v28 v29 v30 v31 v32 v33 v34 v35 v36 v37 v38 v39 v40 v41 v42 v43 v44 v45 v46 v47 v48 v49 v50 v51 v52 v53 v54 v55 v56 v57 v58 v59 v60 v61 v62 v63 v64 v65 v66 v67 v68 v69 v70 v71 v72 v73 v74 v75 v76 v77 v78 v79 v80 v81 v82 v83 v84 v85 v86 v87 v88 v89 v90 v91 v92 v93 v94 v95 v96 v97 v98 v99 v100 v101 v102 v103 v104 v105 v106 v107 v108 v109 v110 v111 v112 v113 v114 v115 v116 v117 v118 v119 v120 v121 v122 v123 v124 v125 v126 v127 v128 v129 v130 v131 v132 v133 v134 v135 v136 v137 v138 v139 v140 v141 v142 v143 v144 v145 v146 v147 v148 v149 v150 v151 v152 v153 v154 v155 v156 v157 v158 v159 v160 v161 v162 v163 v164 v165 v166 v167 v168 v169 v170 v171 v172 v173 v174 v175 v176 v177 v178 v179 v180 v181 v182 v183 v184 v185 v186 v187 v188 v189 v190 v191 v192 v193 v194 v195 v196 v197 v198 v199 v200 v201 v202 v203 v204 v205 v206 v207 v208 v209 v210 v211 v212 v213 v214 v215 v216 v217 v218 v219 v220 v221 v222 : Value} {c0 c1 : Code} {K' : Act → World → Prop} {Q' : Exit → Act → World → Prop} (hc0 : c0 = sidesReg 22)
    (hK : ∀ (a' : Act) (w' : World), Code.wp Try.prog c1 (bodyPost Try.prog Try.f4 fun r w' => r = .returned (.bool true) ∧ Below w.heap.size w w') a' w' → K' a' w') (hc1 : c1 = sidesTail) :
    Code.wp Try.prog c0 (Exit.then K' Q') ⟨(v0 :: v1 :: .pointer (some ⟨w.heap.size, 0, none⟩) :: .pointer (some ⟨w.heap.size + 1, 0, none⟩) :: v4 :: v5 :: v6 :: v7 :: v8 :: v9 :: v10 :: v11 :: v12 :: v13 :: v14 :: v15 :: v16 :: v17 :: v18 :: v19 :: v20 :: v21 :: v22 :: v23 :: v24 :: v25 :: v26 :: v27 :: v28 :: v29 :: v30 :: v31 :: v32 :: v33 :: v34 :: v35 :: v36 :: v37 :: v38 :: v39 :: v40 :: v41 :: v42 :: v43 :: v44 :: v45 :: v46 :: v47 :: v48 :: v49 :: v50 :: v51 :: v52 :: v53 :: v54 :: v55 :: v56 :: v57 :: v58 :: v59 :: v60 :: v61 :: v62 :: v63 :: v64 :: v65 :: v66 :: v67 :: v68 :: v69 :: v70 :: v71 :: v72 :: v73 :: v74 :: v75 :: v76 :: v77 :: v78 :: v79 :: v80 :: v81 :: v82 :: v83 :: v84 :: v85 :: v86 :: v87 :: v88 :: v89 :: v90 :: v91 :: v92 :: v93 :: v94 :: v95 :: v96 :: v97 :: v98 :: v99 :: v100 :: v101 :: v102 :: v103 :: v104 :: v105 :: v106 :: v107 :: v108 :: v109 :: v110 :: v111 :: v112 :: v113 :: v114 :: v115 :: v116 :: v117 :: v118 :: v119 :: v120 :: v121 :: v122 :: v123 :: v124 :: v125 :: v126 :: v127 :: v128 :: v129 :: v130 :: v131 :: v132 :: v133 :: v134 :: v135 :: v136 :: v137 :: v138 :: v139 :: v140 :: v141 :: v142 :: v143 :: v144 :: v145 :: v146 :: v147 :: v148 :: v149 :: v150 :: v151 :: v152 :: v153 :: v154 :: v155 :: v156 :: v157 :: v158 :: v159 :: v160 :: v161 :: v162 :: v163 :: v164 :: v165 :: v166 :: v167 :: v168 :: v169 :: v170 :: v171 :: v172 :: v173 :: v174 :: v175 :: v176 :: v177 :: v178 :: v179 :: v180 :: v181 :: v182 :: v183 :: v184 :: v185 :: v186 :: v187 :: v188 :: v189 :: v190 :: v191 :: v192 :: v193 :: v194 :: v195 :: v196 :: v197 :: v198 :: v199 :: v200 :: v201 :: v202 :: v203 :: v204 :: v205 :: v206 :: v207 :: v208 :: v209 :: v210 :: v211 :: v212 :: v213 :: v214 :: v215 :: v216 :: v217 :: v218 :: v219 :: v220 :: v221 :: v222 :: []).toArray, []⟩ wr := by
  subst hc0
  subst hc1
  replace hK := Lib.hid hK
  conv => arg 2; whnf
  obtain ⟨t1, t2, t3⟩ := turn_facts a RA.out.1 RA.out.2.2.1
  obtain ⟨v1, v2, v3⟩ := turn_facts b RA.out.2.1 RA.out.2.2.2
  have cTa := Lib.hid (fun w => turned_any a w RA.out.1 RA.out.2.2.1)
  have cTb := Lib.hid (fun w => turned_any b w RA.out.2.1 RA.out.2.2.2)
  obtain ⟨e, f, m, o, c1, c2, hef⟩ : ∃ (e f : Int) (m o : Nat), Hid (∀ w, Calls Try.prog 14 #[.float .f64 a, .float .f64 b, .bool false] w fun r w' => r = .returned (.tuple #[.float .f64 m, .int .i64 e]) ∧ Below w.heap.size w w') ∧ Hid (∀ w, Calls Try.prog 14 #[.float .f64 (turnW a), .float .f64 b, .bool true] w fun r w' => r = .returned (.tuple #[.float .f64 o, .int .i64 f]) ∧ Below w.heap.size w w') ∧ Hid ((e = 0 ∧ f = 0 ∧ o < 18446744073709551616 ∧ rightB o = true ∧ m = turnW o) ∨ (e = 10 ∧ f = 10)) :=
    ⟨_, _, _, _, fun w => mul_any a b false w RA.out.1 RA.out.2.1, fun w => mul_any (turnW a) b true w t1 RA.out.2.1, mul_mirror a b RA.out.1 RA.out.2.2.1 RA.out.2.2.2⟩
  obtain ⟨g, h, p, z, c3, c4, hgh⟩ : ∃ (g h : Int) (p z : Nat), Hid (∀ w, Calls Try.prog 12 #[.float .f64 a, .float .f64 b, .bool true] w fun r w' => r = .returned (.tuple #[.float .f64 p, .int .i64 g]) ∧ Below w.heap.size w w') ∧ Hid (∀ w, Calls Try.prog 12 #[.float .f64 (turnW a), .float .f64 (turnW b), .bool false] w fun r w' => r = .returned (.tuple #[.float .f64 z, .int .i64 h]) ∧ Below w.heap.size w w') ∧ Hid ((g = 0 ∧ h = 0 ∧ z < 18446744073709551616 ∧ rightB z = true ∧ p = turnW z) ∨ (g = 10 ∧ h = 10)) :=
    ⟨_, _, _, _, fun w => add_any a b true w RA.out.1 RA.out.2.1, fun w => add_any (turnW a) (turnW b) false w t1 v1, add_mirror a b RA.out.1 RA.out.2.1 RA.out.2.2.1 RA.out.2.2.2⟩
  clear t1 t2 t3 v1 v2 v3
  have ca := (M.out.nth 0 rfl).one
  have cb := (M.out.nth 1 rfl).one
  go_wp2_with fail
  refine (c1.out _).mono ?_
  rintro rr w4 ⟨rfl, hb⟩
  replace M : Hid (SidesMem w a b q s r0 r1 r2 r3 r4 w4) := Lib.hid (Mem.below M.out hb)
  clear hb ca cb
  have ca := (M.out.nth 0 rfl).one
  have cb := (M.out.nth 1 rfl).one
  go_wp2_with fail
  refine hK.out _ _ ?_
  clear hK
  conv => arg 2; whnf
  go_upto_region 23 with fail
  go_cut [16, 17] (fun vo vf wx => vo = .float .f64 o ∧ vf = .int .i64 f ∧ SidesMem w a b q s r0 r1 r2 r3 r4 wx)
  case first =>
    replace M : Hid (SidesMem w a b q s r0 r1 r2 r3 r4 w4.drew) := Lib.hid (Mem.drew M.out)
    go_region_held3 (fun w' => w'.cell? ⟨w.heap.size, 0, none⟩ = some (.float .f64 a) ∧ w'.cell? ⟨w.heap.size + 1, 0, none⟩ = some (.float .f64 b)) (go_keep)
      (first
        | (go_at_call 35; refine (cTa.out _).mono ?_; rintro rr w5 ⟨rfl, rfl⟩)
        | (go_at_call 14; refine (c2.out _).mono ?_; rintro rr w5 ⟨rfl, hb⟩; replace M : Hid (SidesMem w a b q s r0 r1 r2 r3 r4 w5) := Lib.hid (Mem.below M.out hb); clear hb ca cb; have ca := (M.out.nth 0 rfl).one; have cb := (M.out.nth 1 rfl).one))
    all_goals (go_wp2_with fail; go_meet)
    all_goals exact ⟨rfl, rfl, M.out⟩
  case rest =>
    clear M ca cb
    obtain ⟨w5, rfl⟩ : ∃ x : World, x = wc := ⟨_, rfl⟩
    obtain ⟨rfl, rfl, hM⟩ := hcut
    have M := Lib.hid hM
    clear hM
    have ca := (M.out.nth 0 rfl).one
    have cb := (M.out.nth 1 rfl).one
    go_wp2_with fail
    refine (c3.out _).mono ?_
    rintro rr w6 ⟨rfl, hb⟩
    replace M : Hid (SidesMem w a b q s r0 r1 r2 r3 r4 w6) := Lib.hid (Mem.below M.out hb)
    clear hb ca cb
    have ca := (M.out.nth 0 rfl).one
    have cb := (M.out.nth 1 rfl).one
    go_upto_region 25 with fail
    go_cut [20, 21] (fun vo vf wx => vo = .float .f64 z ∧ vf = .int .i64 h ∧ SidesMem w a b q s r0 r1 r2 r3 r4 wx)
    case first =>
      replace M : Hid (SidesMem w a b q s r0 r1 r2 r3 r4 w6.drew) := Lib.hid (Mem.drew M.out)
      go_region_held3 (fun w' => w'.cell? ⟨w.heap.size, 0, none⟩ = some (.float .f64 a) ∧ w'.cell? ⟨w.heap.size + 1, 0, none⟩ = some (.float .f64 b)) (go_keep)
        (first
          | (go_at_call 35; (with_reducible refine (cTa.out _).mono ?_); rintro rr w7 ⟨rfl, rfl⟩)
          | (go_at_call 35; (with_reducible refine (cTb.out _).mono ?_); rintro rr w7 ⟨rfl, rfl⟩)
          | (go_at_call 12; refine (c4.out _).mono ?_; rintro rr w7 ⟨rfl, hb⟩; replace M : Hid (SidesMem w a b q s r0 r1 r2 r3 r4 w7) := Lib.hid (Mem.below M.out hb); clear hb ca cb; have ca := (M.out.nth 0 rfl).one; have cb := (M.out.nth 1 rfl).one))
      all_goals (go_wp2_with fail; go_meet)
      all_goals exact ⟨rfl, rfl, M.out⟩
    case rest =>
      clear M ca cb
      obtain ⟨w7, rfl⟩ : ∃ x : World, x = wc := ⟨_, rfl⟩
      obtain ⟨rfl, rfl, hM⟩ := hcut
      have M := Lib.hid hM
      clear hM c1 c2 c3 c4 cTa cTb
      rcases hef.out with ⟨rfl, rfl, lo, ro, rfl⟩ | ⟨rfl, rfl⟩ <;> rcases hgh.out with ⟨rfl, rfl, lz, rz, rfl⟩ | ⟨rfl, rfl⟩
      · have cO := Lib.hid (fun w => turned_any o w lo ro)
        have cZ := Lib.hid (fun w => turned_any z w lz rz)
        have cS1 := Lib.hid (fun w => l_one (turnW o) w)
        have cS2 := Lib.hid (fun w => l_one (turnW z) w)
        clear lo ro lz rz hef hgh
        go_wp2_with fail
        refine (cO.out _).mono ?_
        rintro rr w8 ⟨rfl, rfl⟩
        go_wp2_with fail
        refine (cS1.out _).mono ?_
        rintro rr w8 ⟨rfl, rfl⟩
        go_wp2_with fail
        refine (cZ.out _).mono ?_
        rintro rr w8 ⟨rfl, rfl⟩
        go_wp2_with fail
        refine (cS2.out _).mono ?_
        rintro rr w8 ⟨rfl, rfl⟩
        go_wp2_with fail
        refine (awake_any _).mono ?_
        rintro rr w9 ⟨rfl, hb⟩
        have B := Lib.hid (Mem.below M.out hb).base
        clear hb
        go_wp2
        go_ret
        exact ⟨rfl, B.out⟩
      · have cO := Lib.hid (fun w => turned_any o w lo ro)
        have cS1 := Lib.hid (fun w => l_one (turnW o) w)
        clear lo ro hef hgh
        go_wp2_with fail
        refine (cO.out _).mono ?_
        rintro rr w8 ⟨rfl, rfl⟩
        go_wp2_with fail
        refine (cS1.out _).mono ?_
        rintro rr w8 ⟨rfl, rfl⟩
        go_wp2_with fail
        refine (awake_any _).mono ?_
        rintro rr w9 ⟨rfl, hb⟩
        have B := Lib.hid (Mem.below M.out hb).base
        clear hb
        go_wp2
        go_ret
        exact ⟨rfl, B.out⟩
      · have cZ := Lib.hid (fun w => turned_any z w lz rz)
        have cS2 := Lib.hid (fun w => l_one (turnW z) w)
        clear lz rz hef hgh
        go_wp2_with fail
        refine (cZ.out _).mono ?_
        rintro rr w8 ⟨rfl, rfl⟩
        go_wp2_with fail
        refine (cS2.out _).mono ?_
        rintro rr w8 ⟨rfl, rfl⟩
        go_wp2_with fail
        refine (awake_any _).mono ?_
        rintro rr w9 ⟨rfl, hb⟩
        have B := Lib.hid (Mem.below M.out hb).base
        clear hb
        go_wp2
        go_ret
        exact ⟨rfl, B.out⟩
      · clear hef hgh
        go_wp2_with fail
        refine (awake_any _).mono ?_
        rintro rr w9 ⟨rfl, hb⟩
        have B := Lib.hid (Mem.below M.out hb).base
        clear hb
        go_wp2
        go_ret
        exact ⟨rfl, B.out⟩

end Go.Proofs.Ytmcecchcbfhfcaa
