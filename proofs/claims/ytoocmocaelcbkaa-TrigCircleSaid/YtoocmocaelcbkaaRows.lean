/-
  No cell of these rows narrows 'for every input' (looked for: loops, veiled, ifaces, maps, wideKeys, modest, calm, conditions, laid).
  DERIVED. THE GIVEN ROWS OF THIS SEAT. 10 by the template 'for every input the law returns true; each argument reads behind the call as it read before'; 0 by the template 'total and deterministic' (their statements: YtoocmocaelcbkaaTotals.lean).
  GIVEN WITH THE SEED: the statements are not yours to turn. If you find one false, say at which input.
  Laid BY PROGRAM, IN A SANDBOX (cutbox-rows.mjs): the forced cells as the released guide's own fill.sh prints them over the translation e1c826ed299a071a… (all of the seat's roots in one cut). By AI agents, Wed Nov 11 2026. No macro, syntax, notation, axiom, sorry.
-/
import Derived.Test.YtoocmocaelcbkaaChecked
import GoSem.Claim
import GoSem.ClaimJoined
import GoSem.ClaimMapViews
import Derived.JoinedTies
import Derived.KernelRfl
namespace Go.Proofs.Ytoocmocaelcbkaa
/- THE CELL 'sum', in the pinned program and in every row, IS THE sha256 OF THE DUMP (.gsa) THAT YtoocmocaelcbkaaProg.lean LOADS. Nothing in Lean hashes anything: it is a label: what it is worth is what the hold of that sum in a sandbox is worth. -/
noncomputable def Try.pinned : Pinned := { name := "ytoocmocaelcbkaa", sum := "e1c826ed299a071ac452f28255927d3727b6b119e58ffdada94a1094ca91aaa8", checked := Try.checked }
namespace Rows
def none {H : Type} : Left H := { results := [], args := [] }

/-- 'burnishlaw04.TrigCircle': WHATEVER THE INPUT: true; the input reads as it did. -/
def trigCircleSpec : ChangeSpec := { name := "trigCircle", fn := fun _ => fun
  | [d] => { results := [.lit (.bool true)], args := [d] }
  | _ => none }
def trigCircleRow : OpenClaim := { program := "ytoocmocaelcbkaa", sum := "e1c826ed299a071ac452f28255927d3727b6b119e58ffdada94a1094ca91aaa8", func := "burnish/burnishlaw04.TrigCircle", spec := "trigCircle", inPlace := ["math.Float64bits", "math/bits.Add64", "math/bits.Sub64", "math.Float64frombits"], unfollowed := true, recurses := true, named := ["math/bits.divideError", "math/bits.overflowError"], apart := false }
def TrigCircleSaid : Prop := trigCircleRow.holds Try.pinned (OpenSpec.ofChange trigCircleSpec)

/-- ITS FALSE NEIGHBOUR: 'it returns false'. Refute it at one input. -/
def trigCircleWrong : ChangeSpec := { name := "trigCircle", fn := fun _ => fun
  | [d] => { results := [.lit (.bool false)], args := [d] }
  | _ => none }
def TrigCircleWrongFalsely : Prop := trigCircleRow.holds Try.pinned (OpenSpec.ofChange trigCircleWrong)

/-- 'burnishlaw04.TrigParts': WHATEVER THE INPUT: true; the input reads as it did. -/
def trigPartsSpec : ChangeSpec := { name := "trigParts", fn := fun _ => fun
  | [d1, d2] => { results := [.lit (.bool true)], args := [d1, d2] }
  | _ => none }
def trigPartsRow : OpenClaim := { program := "ytoocmocaelcbkaa", sum := "e1c826ed299a071ac452f28255927d3727b6b119e58ffdada94a1094ca91aaa8", func := "burnish/burnishlaw04.TrigParts", spec := "trigParts", inPlace := ["math.Float64bits", "math/bits.Add64", "math/bits.Sub64", "math.Float64frombits"], unfollowed := true, recurses := true, named := ["math/bits.divideError", "math/bits.overflowError"], apart := false }
def TrigPartsSaid : Prop := trigPartsRow.holds Try.pinned (OpenSpec.ofChange trigPartsSpec)

/-- ITS FALSE NEIGHBOUR: 'it returns false'. Refute it at one input. -/
def trigPartsWrong : ChangeSpec := { name := "trigParts", fn := fun _ => fun
  | [d1, d2] => { results := [.lit (.bool false)], args := [d1, d2] }
  | _ => none }
def TrigPartsWrongFalsely : Prop := trigPartsRow.holds Try.pinned (OpenSpec.ofChange trigPartsWrong)

/-- 'burnishlaw04.TrigHalves': WHATEVER THE INPUT: true; the input reads as it did. -/
def trigHalvesSpec : ChangeSpec := { name := "trigHalves", fn := fun _ => fun
  | [d] => { results := [.lit (.bool true)], args := [d] }
  | _ => none }
def trigHalvesRow : OpenClaim := { program := "ytoocmocaelcbkaa", sum := "e1c826ed299a071ac452f28255927d3727b6b119e58ffdada94a1094ca91aaa8", func := "burnish/burnishlaw04.TrigHalves", spec := "trigHalves", inPlace := ["math.Float64bits", "math/bits.Add64", "math/bits.Sub64", "math.Float64frombits"], unfollowed := true, recurses := true, named := ["math/bits.divideError", "math/bits.overflowError"], apart := false }
def TrigHalvesSaid : Prop := trigHalvesRow.holds Try.pinned (OpenSpec.ofChange trigHalvesSpec)

/-- ITS FALSE NEIGHBOUR: 'it returns false'. Refute it at one input. -/
def trigHalvesWrong : ChangeSpec := { name := "trigHalves", fn := fun _ => fun
  | [d] => { results := [.lit (.bool false)], args := [d] }
  | _ => none }
def TrigHalvesWrongFalsely : Prop := trigHalvesRow.holds Try.pinned (OpenSpec.ofChange trigHalvesWrong)

/-- 'burnishlaw05.VecTimes': WHATEVER THE INPUT: true; the input reads as it did. -/
def vecTimesSpec : ChangeSpec := { name := "vecTimes", fn := fun _ => fun
  | [d1, d2] => { results := [.lit (.bool true)], args := [d1, d2] }
  | _ => none }
def vecTimesRow : OpenClaim := { program := "ytoocmocaelcbkaa", sum := "e1c826ed299a071ac452f28255927d3727b6b119e58ffdada94a1094ca91aaa8", func := "burnish/burnishlaw05.VecTimes", spec := "vecTimes", inPlace := ["math.Float64bits", "math.Float64frombits", "math/bits.Add64", "math/bits.Sub64"], unfollowed := true, recurses := true, named := ["math/bits.divideError", "math/bits.overflowError"], apart := false }
def VecTimesSaid : Prop := vecTimesRow.holds Try.pinned (OpenSpec.ofChange vecTimesSpec)

/-- ITS FALSE NEIGHBOUR: 'it returns false'. Refute it at one input. -/
def vecTimesWrong : ChangeSpec := { name := "vecTimes", fn := fun _ => fun
  | [d1, d2] => { results := [.lit (.bool false)], args := [d1, d2] }
  | _ => none }
def VecTimesWrongFalsely : Prop := vecTimesRow.holds Try.pinned (OpenSpec.ofChange vecTimesWrong)

/-- 'burnishlaw06.FresnelSnell': WHATEVER THE INPUT: true; the input reads as it did. -/
def fresnelSnellSpec : ChangeSpec := { name := "fresnelSnell", fn := fun _ => fun
  | [d1, d2] => { results := [.lit (.bool true)], args := [d1, d2] }
  | _ => none }
def fresnelSnellRow : OpenClaim := { program := "ytoocmocaelcbkaa", sum := "e1c826ed299a071ac452f28255927d3727b6b119e58ffdada94a1094ca91aaa8", func := "burnish/burnishlaw06.FresnelSnell", spec := "fresnelSnell", inPlace := ["math.Float64bits", "math.Float64frombits", "math/bits.Add64", "math/bits.Sub64"], unfollowed := true, recurses := true, named := ["math/bits.divideError", "math/bits.overflowError"], apart := false }
def FresnelSnellSaid : Prop := fresnelSnellRow.holds Try.pinned (OpenSpec.ofChange fresnelSnellSpec)

/-- ITS FALSE NEIGHBOUR: 'it returns false'. Refute it at one input. -/
def fresnelSnellWrong : ChangeSpec := { name := "fresnelSnell", fn := fun _ => fun
  | [d1, d2] => { results := [.lit (.bool false)], args := [d1, d2] }
  | _ => none }
def FresnelSnellWrongFalsely : Prop := fresnelSnellRow.holds Try.pinned (OpenSpec.ofChange fresnelSnellWrong)

/-- 'burnishlaw06.FresnelNormal': WHATEVER THE INPUT: true; the input reads as it did. -/
def fresnelNormalSpec : ChangeSpec := { name := "fresnelNormal", fn := fun _ => fun
  | [d1, d2, d3] => { results := [.lit (.bool true)], args := [d1, d2, d3] }
  | _ => none }
def fresnelNormalRow : OpenClaim := { program := "ytoocmocaelcbkaa", sum := "e1c826ed299a071ac452f28255927d3727b6b119e58ffdada94a1094ca91aaa8", func := "burnish/burnishlaw06.FresnelNormal", spec := "fresnelNormal", inPlace := ["math.Float64bits", "math.Float64frombits", "math/bits.Add64", "math/bits.Sub64"], unfollowed := true, recurses := true, named := ["math/bits.divideError", "math/bits.overflowError"], apart := false }
def FresnelNormalSaid : Prop := fresnelNormalRow.holds Try.pinned (OpenSpec.ofChange fresnelNormalSpec)

/-- ITS FALSE NEIGHBOUR: 'it returns false'. Refute it at one input. -/
def fresnelNormalWrong : ChangeSpec := { name := "fresnelNormal", fn := fun _ => fun
  | [d1, d2, d3] => { results := [.lit (.bool false)], args := [d1, d2, d3] }
  | _ => none }
def FresnelNormalWrongFalsely : Prop := fresnelNormalRow.holds Try.pinned (OpenSpec.ofChange fresnelNormalWrong)

/-- 'burnishlaw06.FresnelComplex': WHATEVER THE INPUT: true; the input reads as it did. -/
def fresnelComplexSpec : ChangeSpec := { name := "fresnelComplex", fn := fun _ => fun
  | [d1, d2, d3] => { results := [.lit (.bool true)], args := [d1, d2, d3] }
  | _ => none }
def fresnelComplexRow : OpenClaim := { program := "ytoocmocaelcbkaa", sum := "e1c826ed299a071ac452f28255927d3727b6b119e58ffdada94a1094ca91aaa8", func := "burnish/burnishlaw06.FresnelComplex", spec := "fresnelComplex", inPlace := ["math.Float64bits", "math.Float64frombits", "math/bits.Add64", "math/bits.Sub64"], unfollowed := true, recurses := true, named := ["math/bits.divideError", "math/bits.overflowError"], apart := false }
def FresnelComplexSaid : Prop := fresnelComplexRow.holds Try.pinned (OpenSpec.ofChange fresnelComplexSpec)

/-- ITS FALSE NEIGHBOUR: 'it returns false'. Refute it at one input. -/
def fresnelComplexWrong : ChangeSpec := { name := "fresnelComplex", fn := fun _ => fun
  | [d1, d2, d3] => { results := [.lit (.bool false)], args := [d1, d2, d3] }
  | _ => none }
def FresnelComplexWrongFalsely : Prop := fresnelComplexRow.holds Try.pinned (OpenSpec.ofChange fresnelComplexWrong)

/-- 'burnishlaw07.LambertRings': WHATEVER THE INPUT: true; the input reads as it did. -/
def lambertRingsSpec : ChangeSpec := { name := "lambertRings", fn := fun _ => fun
  | [d1, d2, d3] => { results := [.lit (.bool true)], args := [d1, d2, d3] }
  | _ => none }
def lambertRingsRow : OpenClaim := { program := "ytoocmocaelcbkaa", sum := "e1c826ed299a071ac452f28255927d3727b6b119e58ffdada94a1094ca91aaa8", func := "burnish/burnishlaw07.LambertRings", spec := "lambertRings", inPlace := ["math.Float64bits", "math.Float64frombits", "math/bits.Add64", "math/bits.Sub64"], unfollowed := true, recurses := true, named := ["math/bits.divideError", "math/bits.overflowError"], apart := false }
def LambertRingsSaid : Prop := lambertRingsRow.holds Try.pinned (OpenSpec.ofChange lambertRingsSpec)

/-- ITS FALSE NEIGHBOUR: 'it returns false'. Refute it at one input. -/
def lambertRingsWrong : ChangeSpec := { name := "lambertRings", fn := fun _ => fun
  | [d1, d2, d3] => { results := [.lit (.bool false)], args := [d1, d2, d3] }
  | _ => none }
def LambertRingsWrongFalsely : Prop := lambertRingsRow.holds Try.pinned (OpenSpec.ofChange lambertRingsWrong)

/-- 'burnishlaw07.LambertFalls': WHATEVER THE INPUT: true; the input reads as it did. -/
def lambertFallsSpec : ChangeSpec := { name := "lambertFalls", fn := fun _ => fun
  | [d1, d2] => { results := [.lit (.bool true)], args := [d1, d2] }
  | _ => none }
def lambertFallsRow : OpenClaim := { program := "ytoocmocaelcbkaa", sum := "e1c826ed299a071ac452f28255927d3727b6b119e58ffdada94a1094ca91aaa8", func := "burnish/burnishlaw07.LambertFalls", spec := "lambertFalls", inPlace := ["math.Float64bits", "math.Float64frombits", "math/bits.Add64", "math/bits.Sub64"], unfollowed := true, recurses := true, named := ["math/bits.divideError", "math/bits.overflowError"], apart := false }
def LambertFallsSaid : Prop := lambertFallsRow.holds Try.pinned (OpenSpec.ofChange lambertFallsSpec)

/-- ITS FALSE NEIGHBOUR: 'it returns false'. Refute it at one input. -/
def lambertFallsWrong : ChangeSpec := { name := "lambertFalls", fn := fun _ => fun
  | [d1, d2] => { results := [.lit (.bool false)], args := [d1, d2] }
  | _ => none }
def LambertFallsWrongFalsely : Prop := lambertFallsRow.holds Try.pinned (OpenSpec.ofChange lambertFallsWrong)

/-- 'burnishlaw07.LambertParts': WHATEVER THE INPUT: true; the input reads as it did. -/
def lambertPartsSpec : ChangeSpec := { name := "lambertParts", fn := fun _ => fun
  | [d1, d2] => { results := [.lit (.bool true)], args := [d1, d2] }
  | _ => none }
def lambertPartsRow : OpenClaim := { program := "ytoocmocaelcbkaa", sum := "e1c826ed299a071ac452f28255927d3727b6b119e58ffdada94a1094ca91aaa8", func := "burnish/burnishlaw07.LambertParts", spec := "lambertParts", inPlace := ["math.Float64bits", "math.Float64frombits", "math/bits.Add64", "math/bits.Sub64"], unfollowed := true, recurses := true, named := ["math/bits.divideError", "math/bits.overflowError"], apart := false }
def LambertPartsSaid : Prop := lambertPartsRow.holds Try.pinned (OpenSpec.ofChange lambertPartsSpec)

/-- ITS FALSE NEIGHBOUR: 'it returns false'. Refute it at one input. -/
def lambertPartsWrong : ChangeSpec := { name := "lambertParts", fn := fun _ => fun
  | [d1, d2] => { results := [.lit (.bool false)], args := [d1, d2] }
  | _ => none }
def LambertPartsWrongFalsely : Prop := lambertPartsRow.holds Try.pinned (OpenSpec.ofChange lambertPartsWrong)

/- THE SECOND FORM. 'bulk': how many values and letters a reading holds, each counted each time it is reached (what is shared counts as often as it is met; a slice's spare places count too). A statement '..UptoSaid' is the law's where the arguments, and the package variables that the reading takes, are together of bulk at most 1048576: NARROWER than '..Said'. Prove '..Said' where nothing that the law and all that it calls make is longer than what came in: it says more and counts as full. Else prove '..UptoSaid'. A law counts once. -/
mutual
def uptoBulk {H : Type} : DataW H → Nat
  | .lit (.string bytes) => bytes.length + 1
  | .lit _ => 1
  | .nil => 1
  | .ptr d => uptoBulk d + 1
  | .slice elems spare => uptoBulkAll elems + uptoBulkAll spare + 1
  | .agg parts => uptoBulkAll parts + 1
  | .iface _ d => uptoBulk d + 1
  | .map entries => uptoBulkEntries entries + 1
  | .held _ => 1
def uptoBulkAll {H : Type} : List (DataW H) → Nat
  | [] => 0
  | d :: r => uptoBulk d + uptoBulkAll r
def uptoBulkEntries {H : Type} : List (Lit × DataW H) → Nat
  | [] => 0
  | x :: r => uptoBulkEntry x + uptoBulkEntries r
def uptoBulkEntry {H : Type} : Lit × DataW H → Nat
  | (.string bytes, d) => bytes.length + uptoBulk d + 1
  | (_, d) => uptoBulk d + 1
 end
def uptoSmall : (H : Type) → List (DataW H) → Bool := fun _ ds => decide (uptoBulkAll ds ≤ 1048576)
def OpenSpec.upto (s : _root_.Go.ChangeSpec) : _root_.Go.OpenSpec := { _root_.Go.OpenSpec.ofChange s with cond := some uptoSmall }

/-- 'burnishlaw04.TrigCircle', WHERE WHAT IT READS IS OF BULK AT MOST 1048576: true; the input reads as it did. -/
def trigCircleUptoRow : OpenClaim := { program := "ytoocmocaelcbkaa", sum := "e1c826ed299a071ac452f28255927d3727b6b119e58ffdada94a1094ca91aaa8", func := "burnish/burnishlaw04.TrigCircle", spec := "trigCircle", inPlace := ["math.Float64bits", "math/bits.Add64", "math/bits.Sub64", "math.Float64frombits"], unfollowed := true, recurses := true, named := ["math/bits.divideError", "math/bits.overflowError"], apart := false, narrowed := true }
def TrigCircleUptoSaid : Prop := trigCircleUptoRow.holds Try.pinned (OpenSpec.upto trigCircleSpec)

/-- 'burnishlaw04.TrigParts', WHERE WHAT IT READS IS OF BULK AT MOST 1048576: true; the input reads as it did. -/
def trigPartsUptoRow : OpenClaim := { program := "ytoocmocaelcbkaa", sum := "e1c826ed299a071ac452f28255927d3727b6b119e58ffdada94a1094ca91aaa8", func := "burnish/burnishlaw04.TrigParts", spec := "trigParts", inPlace := ["math.Float64bits", "math/bits.Add64", "math/bits.Sub64", "math.Float64frombits"], unfollowed := true, recurses := true, named := ["math/bits.divideError", "math/bits.overflowError"], apart := false, narrowed := true }
def TrigPartsUptoSaid : Prop := trigPartsUptoRow.holds Try.pinned (OpenSpec.upto trigPartsSpec)

/-- 'burnishlaw04.TrigHalves', WHERE WHAT IT READS IS OF BULK AT MOST 1048576: true; the input reads as it did. -/
def trigHalvesUptoRow : OpenClaim := { program := "ytoocmocaelcbkaa", sum := "e1c826ed299a071ac452f28255927d3727b6b119e58ffdada94a1094ca91aaa8", func := "burnish/burnishlaw04.TrigHalves", spec := "trigHalves", inPlace := ["math.Float64bits", "math/bits.Add64", "math/bits.Sub64", "math.Float64frombits"], unfollowed := true, recurses := true, named := ["math/bits.divideError", "math/bits.overflowError"], apart := false, narrowed := true }
def TrigHalvesUptoSaid : Prop := trigHalvesUptoRow.holds Try.pinned (OpenSpec.upto trigHalvesSpec)

/-- 'burnishlaw05.VecTimes', WHERE WHAT IT READS IS OF BULK AT MOST 1048576: true; the input reads as it did. -/
def vecTimesUptoRow : OpenClaim := { program := "ytoocmocaelcbkaa", sum := "e1c826ed299a071ac452f28255927d3727b6b119e58ffdada94a1094ca91aaa8", func := "burnish/burnishlaw05.VecTimes", spec := "vecTimes", inPlace := ["math.Float64bits", "math.Float64frombits", "math/bits.Add64", "math/bits.Sub64"], unfollowed := true, recurses := true, named := ["math/bits.divideError", "math/bits.overflowError"], apart := false, narrowed := true }
def VecTimesUptoSaid : Prop := vecTimesUptoRow.holds Try.pinned (OpenSpec.upto vecTimesSpec)

/-- 'burnishlaw06.FresnelSnell', WHERE WHAT IT READS IS OF BULK AT MOST 1048576: true; the input reads as it did. -/
def fresnelSnellUptoRow : OpenClaim := { program := "ytoocmocaelcbkaa", sum := "e1c826ed299a071ac452f28255927d3727b6b119e58ffdada94a1094ca91aaa8", func := "burnish/burnishlaw06.FresnelSnell", spec := "fresnelSnell", inPlace := ["math.Float64bits", "math.Float64frombits", "math/bits.Add64", "math/bits.Sub64"], unfollowed := true, recurses := true, named := ["math/bits.divideError", "math/bits.overflowError"], apart := false, narrowed := true }
def FresnelSnellUptoSaid : Prop := fresnelSnellUptoRow.holds Try.pinned (OpenSpec.upto fresnelSnellSpec)

/-- 'burnishlaw06.FresnelNormal', WHERE WHAT IT READS IS OF BULK AT MOST 1048576: true; the input reads as it did. -/
def fresnelNormalUptoRow : OpenClaim := { program := "ytoocmocaelcbkaa", sum := "e1c826ed299a071ac452f28255927d3727b6b119e58ffdada94a1094ca91aaa8", func := "burnish/burnishlaw06.FresnelNormal", spec := "fresnelNormal", inPlace := ["math.Float64bits", "math.Float64frombits", "math/bits.Add64", "math/bits.Sub64"], unfollowed := true, recurses := true, named := ["math/bits.divideError", "math/bits.overflowError"], apart := false, narrowed := true }
def FresnelNormalUptoSaid : Prop := fresnelNormalUptoRow.holds Try.pinned (OpenSpec.upto fresnelNormalSpec)

/-- 'burnishlaw06.FresnelComplex', WHERE WHAT IT READS IS OF BULK AT MOST 1048576: true; the input reads as it did. -/
def fresnelComplexUptoRow : OpenClaim := { program := "ytoocmocaelcbkaa", sum := "e1c826ed299a071ac452f28255927d3727b6b119e58ffdada94a1094ca91aaa8", func := "burnish/burnishlaw06.FresnelComplex", spec := "fresnelComplex", inPlace := ["math.Float64bits", "math.Float64frombits", "math/bits.Add64", "math/bits.Sub64"], unfollowed := true, recurses := true, named := ["math/bits.divideError", "math/bits.overflowError"], apart := false, narrowed := true }
def FresnelComplexUptoSaid : Prop := fresnelComplexUptoRow.holds Try.pinned (OpenSpec.upto fresnelComplexSpec)

/-- 'burnishlaw07.LambertRings', WHERE WHAT IT READS IS OF BULK AT MOST 1048576: true; the input reads as it did. -/
def lambertRingsUptoRow : OpenClaim := { program := "ytoocmocaelcbkaa", sum := "e1c826ed299a071ac452f28255927d3727b6b119e58ffdada94a1094ca91aaa8", func := "burnish/burnishlaw07.LambertRings", spec := "lambertRings", inPlace := ["math.Float64bits", "math.Float64frombits", "math/bits.Add64", "math/bits.Sub64"], unfollowed := true, recurses := true, named := ["math/bits.divideError", "math/bits.overflowError"], apart := false, narrowed := true }
def LambertRingsUptoSaid : Prop := lambertRingsUptoRow.holds Try.pinned (OpenSpec.upto lambertRingsSpec)

/-- 'burnishlaw07.LambertFalls', WHERE WHAT IT READS IS OF BULK AT MOST 1048576: true; the input reads as it did. -/
def lambertFallsUptoRow : OpenClaim := { program := "ytoocmocaelcbkaa", sum := "e1c826ed299a071ac452f28255927d3727b6b119e58ffdada94a1094ca91aaa8", func := "burnish/burnishlaw07.LambertFalls", spec := "lambertFalls", inPlace := ["math.Float64bits", "math.Float64frombits", "math/bits.Add64", "math/bits.Sub64"], unfollowed := true, recurses := true, named := ["math/bits.divideError", "math/bits.overflowError"], apart := false, narrowed := true }
def LambertFallsUptoSaid : Prop := lambertFallsUptoRow.holds Try.pinned (OpenSpec.upto lambertFallsSpec)

/-- 'burnishlaw07.LambertParts', WHERE WHAT IT READS IS OF BULK AT MOST 1048576: true; the input reads as it did. -/
def lambertPartsUptoRow : OpenClaim := { program := "ytoocmocaelcbkaa", sum := "e1c826ed299a071ac452f28255927d3727b6b119e58ffdada94a1094ca91aaa8", func := "burnish/burnishlaw07.LambertParts", spec := "lambertParts", inPlace := ["math.Float64bits", "math.Float64frombits", "math/bits.Add64", "math/bits.Sub64"], unfollowed := true, recurses := true, named := ["math/bits.divideError", "math/bits.overflowError"], apart := false, narrowed := true }
def LambertPartsUptoSaid : Prop := lambertPartsUptoRow.holds Try.pinned (OpenSpec.upto lambertPartsSpec)

end Rows
end Go.Proofs.Ytoocmocaelcbkaa
