/-
  No cell of these rows narrows 'for every input' (looked for: loops, veiled, ifaces, maps, wideKeys, modest, calm, conditions, laid).
  DERIVED. THE GIVEN ROWS OF THIS SEAT. 4 by the template 'for every input the law returns true; each argument reads behind the call as it read before'; 0 by the template 'total and deterministic' (their statements: YtnaomilkgfkegaaTotals.lean).
  GIVEN WITH THE SEED: the statements are not yours to turn. If you find one false, say at which input.
  Laid BY PROGRAM, IN A SANDBOX (cutbox-rows.mjs): the forced cells as the released guide's own fill.sh prints them over the translation 150c6eaacd3e3d50… (all of the seat's roots in one cut). By AI agents, Wed Nov 11 2026. No macro, syntax, notation, axiom, sorry.
-/
import Derived.Test.YtnaomilkgfkegaaChecked
import GoSem.Claim
import GoSem.ClaimJoined
import GoSem.ClaimMapViews
import Derived.JoinedTies
import Derived.KernelRfl
namespace Go.Proofs.Ytnaomilkgfkegaa
/- THE CELL 'sum', in the pinned program and in every row, IS THE sha256 OF THE DUMP (.gsa) THAT YtnaomilkgfkegaaProg.lean LOADS. Nothing in Lean hashes anything: it is a label: what it is worth is what the hold of that sum in a sandbox is worth. -/
noncomputable def Try.pinned : Pinned := { name := "ytnaomilkgfkegaa", sum := "150c6eaacd3e3d50fff551dd487b8e29b1c2e028e8707c43fd08ed4f811cb628", checked := Try.checked }
namespace Rows
def none {H : Type} : Left H := { results := [], args := [] }

/-- 'burnishlaw12.CosineOften': WHATEVER THE INPUT: true; the input reads as it did. -/
def cosineOftenSpec : ChangeSpec := { name := "cosineOften", fn := fun _ => fun
  | [d1, d2, d3] => { results := [.lit (.bool true)], args := [d1, d2, d3] }
  | _ => none }
def cosineOftenRow : OpenClaim := { program := "ytnaomilkgfkegaa", sum := "150c6eaacd3e3d50fff551dd487b8e29b1c2e028e8707c43fd08ed4f811cb628", func := "burnish/burnishlaw12.CosineOften", spec := "cosineOften", inPlace := ["math.Float64bits", "math/bits.Add64", "math/bits.Sub64", "math.Float64frombits"], unfollowed := true, recurses := true, named := ["math/bits.divideError", "math/bits.overflowError"], apart := false }
def CosineOftenSaid : Prop := cosineOftenRow.holds Try.pinned (OpenSpec.ofChange cosineOftenSpec)

/-- ITS FALSE NEIGHBOUR: 'it returns false'. Refute it at one input. -/
def cosineOftenWrong : ChangeSpec := { name := "cosineOften", fn := fun _ => fun
  | [d1, d2, d3] => { results := [.lit (.bool false)], args := [d1, d2, d3] }
  | _ => none }
def CosineOftenWrongFalsely : Prop := cosineOftenRow.holds Try.pinned (OpenSpec.ofChange cosineOftenWrong)

/-- 'burnishlaw12.CosineRound': WHATEVER THE INPUT: true; the input reads as it did. -/
def cosineRoundSpec : ChangeSpec := { name := "cosineRound", fn := fun _ => fun
  | [d1, d2] => { results := [.lit (.bool true)], args := [d1, d2] }
  | _ => none }
def cosineRoundRow : OpenClaim := { program := "ytnaomilkgfkegaa", sum := "150c6eaacd3e3d50fff551dd487b8e29b1c2e028e8707c43fd08ed4f811cb628", func := "burnish/burnishlaw12.CosineRound", spec := "cosineRound", inPlace := ["math.Float64bits", "math/bits.Add64", "math/bits.Sub64", "math.Float64frombits"], unfollowed := true, recurses := true, named := ["math/bits.divideError", "math/bits.overflowError"], apart := false }
def CosineRoundSaid : Prop := cosineRoundRow.holds Try.pinned (OpenSpec.ofChange cosineRoundSpec)

/-- ITS FALSE NEIGHBOUR: 'it returns false'. Refute it at one input. -/
def cosineRoundWrong : ChangeSpec := { name := "cosineRound", fn := fun _ => fun
  | [d1, d2] => { results := [.lit (.bool false)], args := [d1, d2] }
  | _ => none }
def CosineRoundWrongFalsely : Prop := cosineRoundRow.holds Try.pinned (OpenSpec.ofChange cosineRoundWrong)

/-- 'burnishlaw12.CosineFalls': WHATEVER THE INPUT: true; the input reads as it did. -/
def cosineFallsSpec : ChangeSpec := { name := "cosineFalls", fn := fun _ => fun
  | [d1, d2, d3] => { results := [.lit (.bool true)], args := [d1, d2, d3] }
  | _ => none }
def cosineFallsRow : OpenClaim := { program := "ytnaomilkgfkegaa", sum := "150c6eaacd3e3d50fff551dd487b8e29b1c2e028e8707c43fd08ed4f811cb628", func := "burnish/burnishlaw12.CosineFalls", spec := "cosineFalls", inPlace := ["math.Float64bits", "math/bits.Add64", "math/bits.Sub64", "math.Float64frombits"], unfollowed := true, recurses := true, named := ["math/bits.divideError", "math/bits.overflowError"], apart := false }
def CosineFallsSaid : Prop := cosineFallsRow.holds Try.pinned (OpenSpec.ofChange cosineFallsSpec)

/-- ITS FALSE NEIGHBOUR: 'it returns false'. Refute it at one input. -/
def cosineFallsWrong : ChangeSpec := { name := "cosineFalls", fn := fun _ => fun
  | [d1, d2, d3] => { results := [.lit (.bool false)], args := [d1, d2, d3] }
  | _ => none }
def CosineFallsWrongFalsely : Prop := cosineFallsRow.holds Try.pinned (OpenSpec.ofChange cosineFallsWrong)

/-- 'burnishlaw12.CosineMid': WHATEVER THE INPUT: true; the input reads as it did. -/
def cosineMidSpec : ChangeSpec := { name := "cosineMid", fn := fun _ => fun
  | [d] => { results := [.lit (.bool true)], args := [d] }
  | _ => none }
def cosineMidRow : OpenClaim := { program := "ytnaomilkgfkegaa", sum := "150c6eaacd3e3d50fff551dd487b8e29b1c2e028e8707c43fd08ed4f811cb628", func := "burnish/burnishlaw12.CosineMid", spec := "cosineMid", inPlace := ["math.Float64bits", "math/bits.Add64", "math/bits.Sub64", "math.Float64frombits"], unfollowed := true, recurses := true, named := ["math/bits.divideError", "math/bits.overflowError"], apart := false }
def CosineMidSaid : Prop := cosineMidRow.holds Try.pinned (OpenSpec.ofChange cosineMidSpec)

/-- ITS FALSE NEIGHBOUR: 'it returns false'. Refute it at one input. -/
def cosineMidWrong : ChangeSpec := { name := "cosineMid", fn := fun _ => fun
  | [d] => { results := [.lit (.bool false)], args := [d] }
  | _ => none }
def CosineMidWrongFalsely : Prop := cosineMidRow.holds Try.pinned (OpenSpec.ofChange cosineMidWrong)

/- THE SECOND FORM. 'bulk': how many values and letters a reading holds, each counted each time it is reached (what is shared counts as often as it is met; a slice's spare places count too). A statement '..UptoSaid' is the law's where the arguments, and the package variables that the reading takes, are together of bulk at most 1048576: NARROWER than '..Said'. Prove '..Said' where nothing that the law and all that it calls make is longer than what came in: it says more and counts as full. Else prove '..UptoSaid'. A law counts once. -/
mutual
def uptoBulk {H : Type} : DataW H → Nat
  | .lit (.string bytes) => bytes.length + 1
  | .lit _ => 1
  | .nil => 1
  | .ptr d => uptoBulk d + 1
  | .slice elems spare => uptoBulkAll elems + uptoBulkAll spare + 1
  | .agg parts => uptoBulkAll parts + 1
  | .iface _ d => uptoBulk d + 1
  | .map entries => uptoBulkEntries entries + 1
  | .held _ => 1
def uptoBulkAll {H : Type} : List (DataW H) → Nat
  | [] => 0
  | d :: r => uptoBulk d + uptoBulkAll r
def uptoBulkEntries {H : Type} : List (Lit × DataW H) → Nat
  | [] => 0
  | x :: r => uptoBulkEntry x + uptoBulkEntries r
def uptoBulkEntry {H : Type} : Lit × DataW H → Nat
  | (.string bytes, d) => bytes.length + uptoBulk d + 1
  | (_, d) => uptoBulk d + 1
 end
def uptoSmall : (H : Type) → List (DataW H) → Bool := fun _ ds => decide (uptoBulkAll ds ≤ 1048576)
def OpenSpec.upto (s : _root_.Go.ChangeSpec) : _root_.Go.OpenSpec := { _root_.Go.OpenSpec.ofChange s with cond := some uptoSmall }

/-- 'burnishlaw12.CosineOften', WHERE WHAT IT READS IS OF BULK AT MOST 1048576: true; the input reads as it did. -/
def cosineOftenUptoRow : OpenClaim := { program := "ytnaomilkgfkegaa", sum := "150c6eaacd3e3d50fff551dd487b8e29b1c2e028e8707c43fd08ed4f811cb628", func := "burnish/burnishlaw12.CosineOften", spec := "cosineOften", inPlace := ["math.Float64bits", "math/bits.Add64", "math/bits.Sub64", "math.Float64frombits"], unfollowed := true, recurses := true, named := ["math/bits.divideError", "math/bits.overflowError"], apart := false, narrowed := true }
def CosineOftenUptoSaid : Prop := cosineOftenUptoRow.holds Try.pinned (OpenSpec.upto cosineOftenSpec)

/-- 'burnishlaw12.CosineRound', WHERE WHAT IT READS IS OF BULK AT MOST 1048576: true; the input reads as it did. -/
def cosineRoundUptoRow : OpenClaim := { program := "ytnaomilkgfkegaa", sum := "150c6eaacd3e3d50fff551dd487b8e29b1c2e028e8707c43fd08ed4f811cb628", func := "burnish/burnishlaw12.CosineRound", spec := "cosineRound", inPlace := ["math.Float64bits", "math/bits.Add64", "math/bits.Sub64", "math.Float64frombits"], unfollowed := true, recurses := true, named := ["math/bits.divideError", "math/bits.overflowError"], apart := false, narrowed := true }
def CosineRoundUptoSaid : Prop := cosineRoundUptoRow.holds Try.pinned (OpenSpec.upto cosineRoundSpec)

/-- 'burnishlaw12.CosineFalls', WHERE WHAT IT READS IS OF BULK AT MOST 1048576: true; the input reads as it did. -/
def cosineFallsUptoRow : OpenClaim := { program := "ytnaomilkgfkegaa", sum := "150c6eaacd3e3d50fff551dd487b8e29b1c2e028e8707c43fd08ed4f811cb628", func := "burnish/burnishlaw12.CosineFalls", spec := "cosineFalls", inPlace := ["math.Float64bits", "math/bits.Add64", "math/bits.Sub64", "math.Float64frombits"], unfollowed := true, recurses := true, named := ["math/bits.divideError", "math/bits.overflowError"], apart := false, narrowed := true }
def CosineFallsUptoSaid : Prop := cosineFallsUptoRow.holds Try.pinned (OpenSpec.upto cosineFallsSpec)

/-- 'burnishlaw12.CosineMid', WHERE WHAT IT READS IS OF BULK AT MOST 1048576: true; the input reads as it did. -/
def cosineMidUptoRow : OpenClaim := { program := "ytnaomilkgfkegaa", sum := "150c6eaacd3e3d50fff551dd487b8e29b1c2e028e8707c43fd08ed4f811cb628", func := "burnish/burnishlaw12.CosineMid", spec := "cosineMid", inPlace := ["math.Float64bits", "math/bits.Add64", "math/bits.Sub64", "math.Float64frombits"], unfollowed := true, recurses := true, named := ["math/bits.divideError", "math/bits.overflowError"], apart := false, narrowed := true }
def CosineMidUptoSaid : Prop := cosineMidUptoRow.holds Try.pinned (OpenSpec.upto cosineMidSpec)

end Rows
end Go.Proofs.Ytnaomilkgfkegaa
