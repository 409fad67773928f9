/-
  No cell of these rows narrows 'for every input' (looked for: loops, veiled, ifaces, maps, wideKeys, modest, calm, conditions, laid).
  DERIVED. THE GIVEN ROWS OF THIS SEAT. 3 by the template 'for every input the law returns true; each argument reads behind the call as it read before'; 0 by the template 'total and deterministic' (their statements: YthefgkgdadkgbaaTotals.lean).
  GIVEN WITH THE SEED: the statements are not yours to turn. If you find one false, say at which input.
  Laid BY PROGRAM, IN A SANDBOX (cutbox-rows.mjs): the forced cells as the released guide's own fill.sh prints them over the translation 0381a66ce872adff… (all of the seat's roots in one cut). By AI agents, Wed Nov 11 2026. No macro, syntax, notation, axiom, sorry.
-/
import Derived.Test.YthefgkgdadkgbaaChecked
import GoSem.Claim
import GoSem.ClaimJoined
import GoSem.ClaimMapViews
import Derived.JoinedTies
import Derived.KernelRfl
namespace Go.Proofs.Ythefgkgdadkgbaa
/- THE CELL 'sum', in the pinned program and in every row, IS THE sha256 OF THE DUMP (.gsa) THAT YthefgkgdadkgbaaProg.lean LOADS. Nothing in Lean hashes anything: it is a label: what it is worth is what the hold of that sum in a sandbox is worth. -/
noncomputable def Try.pinned : Pinned := { name := "ythefgkgdadkgbaa", sum := "0381a66ce872adff608c8577f50f85907f22d9f6264249874f695d6fbb43e0ee", checked := Try.checked }
namespace Rows
def none {H : Type} : Left H := { results := [], args := [] }

/-- 'burnishlaw10.MicroBack': WHATEVER THE INPUT: true; the input reads as it did. -/
def microBackSpec : ChangeSpec := { name := "microBack", fn := fun _ => fun
  | [d1, d2] => { results := [.lit (.bool true)], args := [d1, d2] }
  | _ => none }
def microBackRow : OpenClaim := { program := "ythefgkgdadkgbaa", sum := "0381a66ce872adff608c8577f50f85907f22d9f6264249874f695d6fbb43e0ee", func := "burnish/burnishlaw10.MicroBack", spec := "microBack", inPlace := ["math.Float64bits", "math.Float64frombits", "math/bits.Add64", "math/bits.Sub64"], unfollowed := true, recurses := true, named := ["math/bits.divideError", "math/bits.overflowError"], apart := false }
def MicroBackSaid : Prop := microBackRow.holds Try.pinned (OpenSpec.ofChange microBackSpec)

/-- ITS FALSE NEIGHBOUR: 'it returns false'. Refute it at one input. -/
def microBackWrong : ChangeSpec := { name := "microBack", fn := fun _ => fun
  | [d1, d2] => { results := [.lit (.bool false)], args := [d1, d2] }
  | _ => none }
def MicroBackWrongFalsely : Prop := microBackRow.holds Try.pinned (OpenSpec.ofChange microBackWrong)

/-- 'burnishlaw10.MicroHalf': WHATEVER THE INPUT: true; the input reads as it did. -/
def microHalfSpec : ChangeSpec := { name := "microHalf", fn := fun _ => fun
  | [d] => { results := [.lit (.bool true)], args := [d] }
  | _ => none }
def microHalfRow : OpenClaim := { program := "ythefgkgdadkgbaa", sum := "0381a66ce872adff608c8577f50f85907f22d9f6264249874f695d6fbb43e0ee", func := "burnish/burnishlaw10.MicroHalf", spec := "microHalf", inPlace := ["math.Float64bits", "math.Float64frombits", "math/bits.Add64", "math/bits.Sub64"], unfollowed := true, recurses := true, named := ["math/bits.divideError", "math/bits.overflowError"], apart := false }
def MicroHalfSaid : Prop := microHalfRow.holds Try.pinned (OpenSpec.ofChange microHalfSpec)

/-- ITS FALSE NEIGHBOUR: 'it returns false'. Refute it at one input. -/
def microHalfWrong : ChangeSpec := { name := "microHalf", fn := fun _ => fun
  | [d] => { results := [.lit (.bool false)], args := [d] }
  | _ => none }
def MicroHalfWrongFalsely : Prop := microHalfRow.holds Try.pinned (OpenSpec.ofChange microHalfWrong)

/-- 'burnishlaw10.MicroShare': WHATEVER THE INPUT: true; the input reads as it did. -/
def microShareSpec : ChangeSpec := { name := "microShare", fn := fun _ => fun
  | [d1, d2] => { results := [.lit (.bool true)], args := [d1, d2] }
  | _ => none }
def microShareRow : OpenClaim := { program := "ythefgkgdadkgbaa", sum := "0381a66ce872adff608c8577f50f85907f22d9f6264249874f695d6fbb43e0ee", func := "burnish/burnishlaw10.MicroShare", spec := "microShare", inPlace := ["math.Float64bits", "math.Float64frombits", "math/bits.Add64", "math/bits.Sub64"], unfollowed := true, recurses := true, named := ["math/bits.divideError", "math/bits.overflowError"], apart := false }
def MicroShareSaid : Prop := microShareRow.holds Try.pinned (OpenSpec.ofChange microShareSpec)

/-- ITS FALSE NEIGHBOUR: 'it returns false'. Refute it at one input. -/
def microShareWrong : ChangeSpec := { name := "microShare", fn := fun _ => fun
  | [d1, d2] => { results := [.lit (.bool false)], args := [d1, d2] }
  | _ => none }
def MicroShareWrongFalsely : Prop := microShareRow.holds Try.pinned (OpenSpec.ofChange microShareWrong)

/- THE SECOND FORM. 'bulk': how many values and letters a reading holds, each counted each time it is reached (what is shared counts as often as it is met; a slice's spare places count too). A statement '..UptoSaid' is the law's where the arguments, and the package variables that the reading takes, are together of bulk at most 1048576: NARROWER than '..Said'. Prove '..Said' where nothing that the law and all that it calls make is longer than what came in: it says more and counts as full. Else prove '..UptoSaid'. A law counts once. -/
mutual
def uptoBulk {H : Type} : DataW H → Nat
  | .lit (.string bytes) => bytes.length + 1
  | .lit _ => 1
  | .nil => 1
  | .ptr d => uptoBulk d + 1
  | .slice elems spare => uptoBulkAll elems + uptoBulkAll spare + 1
  | .agg parts => uptoBulkAll parts + 1
  | .iface _ d => uptoBulk d + 1
  | .map entries => uptoBulkEntries entries + 1
  | .held _ => 1
def uptoBulkAll {H : Type} : List (DataW H) → Nat
  | [] => 0
  | d :: r => uptoBulk d + uptoBulkAll r
def uptoBulkEntries {H : Type} : List (Lit × DataW H) → Nat
  | [] => 0
  | x :: r => uptoBulkEntry x + uptoBulkEntries r
def uptoBulkEntry {H : Type} : Lit × DataW H → Nat
  | (.string bytes, d) => bytes.length + uptoBulk d + 1
  | (_, d) => uptoBulk d + 1
 end
def uptoSmall : (H : Type) → List (DataW H) → Bool := fun _ ds => decide (uptoBulkAll ds ≤ 1048576)
def OpenSpec.upto (s : _root_.Go.ChangeSpec) : _root_.Go.OpenSpec := { _root_.Go.OpenSpec.ofChange s with cond := some uptoSmall }

/-- 'burnishlaw10.MicroBack', WHERE WHAT IT READS IS OF BULK AT MOST 1048576: true; the input reads as it did. -/
def microBackUptoRow : OpenClaim := { program := "ythefgkgdadkgbaa", sum := "0381a66ce872adff608c8577f50f85907f22d9f6264249874f695d6fbb43e0ee", func := "burnish/burnishlaw10.MicroBack", spec := "microBack", inPlace := ["math.Float64bits", "math.Float64frombits", "math/bits.Add64", "math/bits.Sub64"], unfollowed := true, recurses := true, named := ["math/bits.divideError", "math/bits.overflowError"], apart := false, narrowed := true }
def MicroBackUptoSaid : Prop := microBackUptoRow.holds Try.pinned (OpenSpec.upto microBackSpec)

/-- 'burnishlaw10.MicroHalf', WHERE WHAT IT READS IS OF BULK AT MOST 1048576: true; the input reads as it did. -/
def microHalfUptoRow : OpenClaim := { program := "ythefgkgdadkgbaa", sum := "0381a66ce872adff608c8577f50f85907f22d9f6264249874f695d6fbb43e0ee", func := "burnish/burnishlaw10.MicroHalf", spec := "microHalf", inPlace := ["math.Float64bits", "math.Float64frombits", "math/bits.Add64", "math/bits.Sub64"], unfollowed := true, recurses := true, named := ["math/bits.divideError", "math/bits.overflowError"], apart := false, narrowed := true }
def MicroHalfUptoSaid : Prop := microHalfUptoRow.holds Try.pinned (OpenSpec.upto microHalfSpec)

/-- 'burnishlaw10.MicroShare', WHERE WHAT IT READS IS OF BULK AT MOST 1048576: true; the input reads as it did. -/
def microShareUptoRow : OpenClaim := { program := "ythefgkgdadkgbaa", sum := "0381a66ce872adff608c8577f50f85907f22d9f6264249874f695d6fbb43e0ee", func := "burnish/burnishlaw10.MicroShare", spec := "microShare", inPlace := ["math.Float64bits", "math.Float64frombits", "math/bits.Add64", "math/bits.Sub64"], unfollowed := true, recurses := true, named := ["math/bits.divideError", "math/bits.overflowError"], apart := false, narrowed := true }
def MicroShareUptoSaid : Prop := microShareUptoRow.holds Try.pinned (OpenSpec.upto microShareSpec)

end Rows
end Go.Proofs.Ythefgkgdadkgbaa
