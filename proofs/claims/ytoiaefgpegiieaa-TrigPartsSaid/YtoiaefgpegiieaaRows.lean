/-
  No cell of these rows narrows 'for every input' (looked for: loops, veiled, ifaces, maps, wideKeys, modest, calm, conditions, laid).
  DERIVED. THE GIVEN ROWS OF THIS SEAT. 7 by the template 'for every input the law returns true; each argument reads behind the call as it read before'; 0 by the template 'total and deterministic' (their statements: YtoiaefgpegiieaaTotals.lean).
  GIVEN WITH THE SEED: the statements are not yours to turn. If you find one false, say at which input.
  Laid BY PROGRAM, IN A SANDBOX (cutbox-rows.mjs): the forced cells as the released guide's own fill.sh prints them over the translation 46bbfbf06c3393a0… (all of the seat's roots in one cut). By AI agents, Wed Nov 11 2026. No macro, syntax, notation, axiom, sorry.
-/
import Derived.Test.YtoiaefgpegiieaaChecked
import GoSem.Claim
import GoSem.ClaimJoined
import GoSem.ClaimMapViews
import Derived.JoinedTies
import Derived.KernelRfl
namespace Go.Proofs.Ytoiaefgpegiieaa
/- THE CELL 'sum', in the pinned program and in every row, IS THE sha256 OF THE DUMP (.gsa) THAT YtoiaefgpegiieaaProg.lean LOADS. Nothing in Lean hashes anything: it is a label: what it is worth is what the hold of that sum in a sandbox is worth. -/
noncomputable def Try.pinned : Pinned := { name := "ytoiaefgpegiieaa", sum := "46bbfbf06c3393a081c55f235efad77ceabb397e089b251eecf1dbb8459a5eb9", checked := Try.checked }
namespace Rows
def none {H : Type} : Left H := { results := [], args := [] }

/-- 'burnishlaw04.TrigParts': WHATEVER THE INPUT: true; the input reads as it did. -/
def trigPartsSpec : ChangeSpec := { name := "trigParts", fn := fun _ => fun
  | [d1, d2] => { results := [.lit (.bool true)], args := [d1, d2] }
  | _ => none }
def trigPartsRow : OpenClaim := { program := "ytoiaefgpegiieaa", sum := "46bbfbf06c3393a081c55f235efad77ceabb397e089b251eecf1dbb8459a5eb9", func := "burnish/burnishlaw04.TrigParts", spec := "trigParts", inPlace := ["math.Float64bits", "math/bits.Add64", "math/bits.Sub64", "math.Float64frombits"], unfollowed := true, recurses := true, named := ["math/bits.divideError", "math/bits.overflowError"], apart := false }
def TrigPartsSaid : Prop := trigPartsRow.holds Try.pinned (OpenSpec.ofChange trigPartsSpec)

/-- ITS FALSE NEIGHBOUR: 'it returns false'. Refute it at one input. -/
def trigPartsWrong : ChangeSpec := { name := "trigParts", fn := fun _ => fun
  | [d1, d2] => { results := [.lit (.bool false)], args := [d1, d2] }
  | _ => none }
def TrigPartsWrongFalsely : Prop := trigPartsRow.holds Try.pinned (OpenSpec.ofChange trigPartsWrong)

/-- 'burnishlaw04.TrigHalves': WHATEVER THE INPUT: true; the input reads as it did. -/
def trigHalvesSpec : ChangeSpec := { name := "trigHalves", fn := fun _ => fun
  | [d] => { results := [.lit (.bool true)], args := [d] }
  | _ => none }
def trigHalvesRow : OpenClaim := { program := "ytoiaefgpegiieaa", sum := "46bbfbf06c3393a081c55f235efad77ceabb397e089b251eecf1dbb8459a5eb9", func := "burnish/burnishlaw04.TrigHalves", spec := "trigHalves", inPlace := ["math.Float64bits", "math/bits.Add64", "math/bits.Sub64", "math.Float64frombits"], unfollowed := true, recurses := true, named := ["math/bits.divideError", "math/bits.overflowError"], apart := false }
def TrigHalvesSaid : Prop := trigHalvesRow.holds Try.pinned (OpenSpec.ofChange trigHalvesSpec)

/-- ITS FALSE NEIGHBOUR: 'it returns false'. Refute it at one input. -/
def trigHalvesWrong : ChangeSpec := { name := "trigHalves", fn := fun _ => fun
  | [d] => { results := [.lit (.bool false)], args := [d] }
  | _ => none }
def TrigHalvesWrongFalsely : Prop := trigHalvesRow.holds Try.pinned (OpenSpec.ofChange trigHalvesWrong)

/-- 'burnishlaw05.VecTimes': WHATEVER THE INPUT: true; the input reads as it did. -/
def vecTimesSpec : ChangeSpec := { name := "vecTimes", fn := fun _ => fun
  | [d1, d2] => { results := [.lit (.bool true)], args := [d1, d2] }
  | _ => none }
def vecTimesRow : OpenClaim := { program := "ytoiaefgpegiieaa", sum := "46bbfbf06c3393a081c55f235efad77ceabb397e089b251eecf1dbb8459a5eb9", func := "burnish/burnishlaw05.VecTimes", spec := "vecTimes", inPlace := ["math.Float64bits", "math.Float64frombits", "math/bits.Add64", "math/bits.Sub64"], unfollowed := true, recurses := true, named := ["math/bits.divideError", "math/bits.overflowError"], apart := false }
def VecTimesSaid : Prop := vecTimesRow.holds Try.pinned (OpenSpec.ofChange vecTimesSpec)

/-- ITS FALSE NEIGHBOUR: 'it returns false'. Refute it at one input. -/
def vecTimesWrong : ChangeSpec := { name := "vecTimes", fn := fun _ => fun
  | [d1, d2] => { results := [.lit (.bool false)], args := [d1, d2] }
  | _ => none }
def VecTimesWrongFalsely : Prop := vecTimesRow.holds Try.pinned (OpenSpec.ofChange vecTimesWrong)

/-- 'burnishlaw08.OrenBack': WHATEVER THE INPUT: true; the input reads as it did. -/
def orenBackSpec : ChangeSpec := { name := "orenBack", fn := fun _ => fun
  | [d] => { results := [.lit (.bool true)], args := [d] }
  | _ => none }
def orenBackRow : OpenClaim := { program := "ytoiaefgpegiieaa", sum := "46bbfbf06c3393a081c55f235efad77ceabb397e089b251eecf1dbb8459a5eb9", func := "burnish/burnishlaw08.OrenBack", spec := "orenBack", inPlace := ["math.Float64bits", "math.Float64frombits", "math/bits.Add64", "math/bits.Sub64"], unfollowed := true, recurses := true, named := ["math/bits.divideError", "math/bits.overflowError"], apart := false }
def OrenBackSaid : Prop := orenBackRow.holds Try.pinned (OpenSpec.ofChange orenBackSpec)

/-- ITS FALSE NEIGHBOUR: 'it returns false'. Refute it at one input. -/
def orenBackWrong : ChangeSpec := { name := "orenBack", fn := fun _ => fun
  | [d] => { results := [.lit (.bool false)], args := [d] }
  | _ => none }
def OrenBackWrongFalsely : Prop := orenBackRow.holds Try.pinned (OpenSpec.ofChange orenBackWrong)

/-- 'burnishlaw08.OrenWithin': WHATEVER THE INPUT: true; the input reads as it did. -/
def orenWithinSpec : ChangeSpec := { name := "orenWithin", fn := fun _ => fun
  | [d1, d2] => { results := [.lit (.bool true)], args := [d1, d2] }
  | _ => none }
def orenWithinRow : OpenClaim := { program := "ytoiaefgpegiieaa", sum := "46bbfbf06c3393a081c55f235efad77ceabb397e089b251eecf1dbb8459a5eb9", func := "burnish/burnishlaw08.OrenWithin", spec := "orenWithin", inPlace := ["math.Float64bits", "math.Float64frombits", "math/bits.Add64", "math/bits.Sub64"], unfollowed := true, recurses := true, named := ["math/bits.divideError", "math/bits.overflowError"], apart := false }
def OrenWithinSaid : Prop := orenWithinRow.holds Try.pinned (OpenSpec.ofChange orenWithinSpec)

/-- ITS FALSE NEIGHBOUR: 'it returns false'. Refute it at one input. -/
def orenWithinWrong : ChangeSpec := { name := "orenWithin", fn := fun _ => fun
  | [d1, d2] => { results := [.lit (.bool false)], args := [d1, d2] }
  | _ => none }
def OrenWithinWrongFalsely : Prop := orenWithinRow.holds Try.pinned (OpenSpec.ofChange orenWithinWrong)

/-- 'burnishlaw08.OrenRises': WHATEVER THE INPUT: true; the input reads as it did. -/
def orenRisesSpec : ChangeSpec := { name := "orenRises", fn := fun _ => fun
  | [d] => { results := [.lit (.bool true)], args := [d] }
  | _ => none }
def orenRisesRow : OpenClaim := { program := "ytoiaefgpegiieaa", sum := "46bbfbf06c3393a081c55f235efad77ceabb397e089b251eecf1dbb8459a5eb9", func := "burnish/burnishlaw08.OrenRises", spec := "orenRises", inPlace := ["math.Float64bits", "math.Float64frombits", "math/bits.Add64", "math/bits.Sub64"], unfollowed := true, recurses := true, named := ["math/bits.divideError", "math/bits.overflowError"], apart := false }
def OrenRisesSaid : Prop := orenRisesRow.holds Try.pinned (OpenSpec.ofChange orenRisesSpec)

/-- ITS FALSE NEIGHBOUR: 'it returns false'. Refute it at one input. -/
def orenRisesWrong : ChangeSpec := { name := "orenRises", fn := fun _ => fun
  | [d] => { results := [.lit (.bool false)], args := [d] }
  | _ => none }
def OrenRisesWrongFalsely : Prop := orenRisesRow.holds Try.pinned (OpenSpec.ofChange orenRisesWrong)

/-- 'burnishlaw08.OrenPair': WHATEVER THE INPUT: true; the input reads as it did. -/
def orenPairSpec : ChangeSpec := { name := "orenPair", fn := fun _ => fun
  | [d] => { results := [.lit (.bool true)], args := [d] }
  | _ => none }
def orenPairRow : OpenClaim := { program := "ytoiaefgpegiieaa", sum := "46bbfbf06c3393a081c55f235efad77ceabb397e089b251eecf1dbb8459a5eb9", func := "burnish/burnishlaw08.OrenPair", spec := "orenPair", inPlace := ["math.Float64bits", "math.Float64frombits", "math/bits.Add64", "math/bits.Sub64"], unfollowed := true, recurses := true, named := ["math/bits.divideError", "math/bits.overflowError"], apart := false }
def OrenPairSaid : Prop := orenPairRow.holds Try.pinned (OpenSpec.ofChange orenPairSpec)

/-- ITS FALSE NEIGHBOUR: 'it returns false'. Refute it at one input. -/
def orenPairWrong : ChangeSpec := { name := "orenPair", fn := fun _ => fun
  | [d] => { results := [.lit (.bool false)], args := [d] }
  | _ => none }
def OrenPairWrongFalsely : Prop := orenPairRow.holds Try.pinned (OpenSpec.ofChange orenPairWrong)

/- THE SECOND FORM. 'bulk': how many values and letters a reading holds, each counted each time it is reached (what is shared counts as often as it is met; a slice's spare places count too). A statement '..UptoSaid' is the law's where the arguments, and the package variables that the reading takes, are together of bulk at most 1048576: NARROWER than '..Said'. Prove '..Said' where nothing that the law and all that it calls make is longer than what came in: it says more and counts as full. Else prove '..UptoSaid'. A law counts once. -/
mutual
def uptoBulk {H : Type} : DataW H → Nat
  | .lit (.string bytes) => bytes.length + 1
  | .lit _ => 1
  | .nil => 1
  | .ptr d => uptoBulk d + 1
  | .slice elems spare => uptoBulkAll elems + uptoBulkAll spare + 1
  | .agg parts => uptoBulkAll parts + 1
  | .iface _ d => uptoBulk d + 1
  | .map entries => uptoBulkEntries entries + 1
  | .held _ => 1
def uptoBulkAll {H : Type} : List (DataW H) → Nat
  | [] => 0
  | d :: r => uptoBulk d + uptoBulkAll r
def uptoBulkEntries {H : Type} : List (Lit × DataW H) → Nat
  | [] => 0
  | x :: r => uptoBulkEntry x + uptoBulkEntries r
def uptoBulkEntry {H : Type} : Lit × DataW H → Nat
  | (.string bytes, d) => bytes.length + uptoBulk d + 1
  | (_, d) => uptoBulk d + 1
 end
def uptoSmall : (H : Type) → List (DataW H) → Bool := fun _ ds => decide (uptoBulkAll ds ≤ 1048576)
def OpenSpec.upto (s : _root_.Go.ChangeSpec) : _root_.Go.OpenSpec := { _root_.Go.OpenSpec.ofChange s with cond := some uptoSmall }

/-- 'burnishlaw04.TrigParts', WHERE WHAT IT READS IS OF BULK AT MOST 1048576: true; the input reads as it did. -/
def trigPartsUptoRow : OpenClaim := { program := "ytoiaefgpegiieaa", sum := "46bbfbf06c3393a081c55f235efad77ceabb397e089b251eecf1dbb8459a5eb9", func := "burnish/burnishlaw04.TrigParts", spec := "trigParts", inPlace := ["math.Float64bits", "math/bits.Add64", "math/bits.Sub64", "math.Float64frombits"], unfollowed := true, recurses := true, named := ["math/bits.divideError", "math/bits.overflowError"], apart := false, narrowed := true }
def TrigPartsUptoSaid : Prop := trigPartsUptoRow.holds Try.pinned (OpenSpec.upto trigPartsSpec)

/-- 'burnishlaw04.TrigHalves', WHERE WHAT IT READS IS OF BULK AT MOST 1048576: true; the input reads as it did. -/
def trigHalvesUptoRow : OpenClaim := { program := "ytoiaefgpegiieaa", sum := "46bbfbf06c3393a081c55f235efad77ceabb397e089b251eecf1dbb8459a5eb9", func := "burnish/burnishlaw04.TrigHalves", spec := "trigHalves", inPlace := ["math.Float64bits", "math/bits.Add64", "math/bits.Sub64", "math.Float64frombits"], unfollowed := true, recurses := true, named := ["math/bits.divideError", "math/bits.overflowError"], apart := false, narrowed := true }
def TrigHalvesUptoSaid : Prop := trigHalvesUptoRow.holds Try.pinned (OpenSpec.upto trigHalvesSpec)

/-- 'burnishlaw05.VecTimes', WHERE WHAT IT READS IS OF BULK AT MOST 1048576: true; the input reads as it did. -/
def vecTimesUptoRow : OpenClaim := { program := "ytoiaefgpegiieaa", sum := "46bbfbf06c3393a081c55f235efad77ceabb397e089b251eecf1dbb8459a5eb9", func := "burnish/burnishlaw05.VecTimes", spec := "vecTimes", inPlace := ["math.Float64bits", "math.Float64frombits", "math/bits.Add64", "math/bits.Sub64"], unfollowed := true, recurses := true, named := ["math/bits.divideError", "math/bits.overflowError"], apart := false, narrowed := true }
def VecTimesUptoSaid : Prop := vecTimesUptoRow.holds Try.pinned (OpenSpec.upto vecTimesSpec)

/-- 'burnishlaw08.OrenBack', WHERE WHAT IT READS IS OF BULK AT MOST 1048576: true; the input reads as it did. -/
def orenBackUptoRow : OpenClaim := { program := "ytoiaefgpegiieaa", sum := "46bbfbf06c3393a081c55f235efad77ceabb397e089b251eecf1dbb8459a5eb9", func := "burnish/burnishlaw08.OrenBack", spec := "orenBack", inPlace := ["math.Float64bits", "math.Float64frombits", "math/bits.Add64", "math/bits.Sub64"], unfollowed := true, recurses := true, named := ["math/bits.divideError", "math/bits.overflowError"], apart := false, narrowed := true }
def OrenBackUptoSaid : Prop := orenBackUptoRow.holds Try.pinned (OpenSpec.upto orenBackSpec)

/-- 'burnishlaw08.OrenWithin', WHERE WHAT IT READS IS OF BULK AT MOST 1048576: true; the input reads as it did. -/
def orenWithinUptoRow : OpenClaim := { program := "ytoiaefgpegiieaa", sum := "46bbfbf06c3393a081c55f235efad77ceabb397e089b251eecf1dbb8459a5eb9", func := "burnish/burnishlaw08.OrenWithin", spec := "orenWithin", inPlace := ["math.Float64bits", "math.Float64frombits", "math/bits.Add64", "math/bits.Sub64"], unfollowed := true, recurses := true, named := ["math/bits.divideError", "math/bits.overflowError"], apart := false, narrowed := true }
def OrenWithinUptoSaid : Prop := orenWithinUptoRow.holds Try.pinned (OpenSpec.upto orenWithinSpec)

/-- 'burnishlaw08.OrenRises', WHERE WHAT IT READS IS OF BULK AT MOST 1048576: true; the input reads as it did. -/
def orenRisesUptoRow : OpenClaim := { program := "ytoiaefgpegiieaa", sum := "46bbfbf06c3393a081c55f235efad77ceabb397e089b251eecf1dbb8459a5eb9", func := "burnish/burnishlaw08.OrenRises", spec := "orenRises", inPlace := ["math.Float64bits", "math.Float64frombits", "math/bits.Add64", "math/bits.Sub64"], unfollowed := true, recurses := true, named := ["math/bits.divideError", "math/bits.overflowError"], apart := false, narrowed := true }
def OrenRisesUptoSaid : Prop := orenRisesUptoRow.holds Try.pinned (OpenSpec.upto orenRisesSpec)

/-- 'burnishlaw08.OrenPair', WHERE WHAT IT READS IS OF BULK AT MOST 1048576: true; the input reads as it did. -/
def orenPairUptoRow : OpenClaim := { program := "ytoiaefgpegiieaa", sum := "46bbfbf06c3393a081c55f235efad77ceabb397e089b251eecf1dbb8459a5eb9", func := "burnish/burnishlaw08.OrenPair", spec := "orenPair", inPlace := ["math.Float64bits", "math.Float64frombits", "math/bits.Add64", "math/bits.Sub64"], unfollowed := true, recurses := true, named := ["math/bits.divideError", "math/bits.overflowError"], apart := false, narrowed := true }
def OrenPairUptoSaid : Prop := orenPairUptoRow.holds Try.pinned (OpenSpec.upto orenPairSpec)

end Rows
end Go.Proofs.Ytoiaefgpegiieaa
