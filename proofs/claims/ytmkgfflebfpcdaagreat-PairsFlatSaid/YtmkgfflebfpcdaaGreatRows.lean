/-
  No cell of these rows narrows 'for every input' (looked for: loops, veiled, ifaces, maps, wideKeys, modest, calm, conditions, laid).
  DERIVED. THE GIVEN ROWS OF THIS SEAT. 3 by the template 'for every input the law returns true; each argument reads behind the call as it read before'; 0 by the template 'total and deterministic' (their statements: YtmkgfflebfpcdaaGreatTotals.lean).
  GIVEN WITH THE SEED: the statements are not yours to turn. If you find one false, say at which input.
  Laid BY PROGRAM, IN A SANDBOX (cutbox-rows.mjs): the forced cells as the released guide's own fill.sh prints them over the translation 3153335a21eb8b22… (all of the seat's roots in one cut). By AI agents, Wed Nov 11 2026. No macro, syntax, notation, axiom, sorry.
-/
import Derived.Test.YtmkgfflebfpcdaaGreatChecked
import GoSem.Claim
import GoSem.ClaimJoined
import GoSem.ClaimMapViews
import Derived.JoinedTies
import Derived.KernelRfl
namespace Go.Proofs.YtmkgfflebfpcdaaGreat
/- THE CELL 'sum', in the pinned program and in every row, IS THE sha256 OF THE DUMP (.gsa) THAT YtmkgfflebfpcdaaGreatProg.lean LOADS. Nothing in Lean hashes anything: it is a label: what it is worth is what the hold of that sum in a sandbox is worth. -/
noncomputable def Tryz.pinned : Pinned := { name := "ytmkgfflebfpcdaagreat", sum := "3153335a21eb8b223d96133daf639b46b7237969b01f20d8bc796278f7ca7076", checked := Tryz.checked }
namespace Rows
def none {H : Type} : Left H := { results := [], args := [] }

/-- 'burnishlaw11.PairsBack': WHATEVER THE INPUT: true; the input reads as it did. -/
def pairsBackSpec : ChangeSpec := { name := "pairsBack", fn := fun _ => fun
  | [d1, d2, d3] => { results := [.lit (.bool true)], args := [d1, d2, d3] }
  | _ => none }
def pairsBackRow : OpenClaim := { program := "ytmkgfflebfpcdaagreat", sum := "3153335a21eb8b223d96133daf639b46b7237969b01f20d8bc796278f7ca7076", func := "burnish/burnishlaw11.PairsBack", spec := "pairsBack", inPlace := ["math.Float64bits", "math.Float64frombits", "math/bits.Add64", "math/bits.Sub64"], unfollowed := true, recurses := true, named := ["math/bits.divideError", "math/bits.overflowError"], apart := false }
def PairsBackSaid : Prop := pairsBackRow.holds Tryz.pinned (OpenSpec.ofChange pairsBackSpec)

/-- ITS FALSE NEIGHBOUR: 'it returns false'. Refute it at one input. -/
def pairsBackWrong : ChangeSpec := { name := "pairsBack", fn := fun _ => fun
  | [d1, d2, d3] => { results := [.lit (.bool false)], args := [d1, d2, d3] }
  | _ => none }
def PairsBackWrongFalsely : Prop := pairsBackRow.holds Tryz.pinned (OpenSpec.ofChange pairsBackWrong)

/-- 'burnishlaw11.PairsWithin': WHATEVER THE INPUT: true; the input reads as it did. -/
def pairsWithinSpec : ChangeSpec := { name := "pairsWithin", fn := fun _ => fun
  | [d1, d2, d3, d4, d5, d6] => { results := [.lit (.bool true)], args := [d1, d2, d3, d4, d5, d6] }
  | _ => none }
def pairsWithinRow : OpenClaim := { program := "ytmkgfflebfpcdaagreat", sum := "3153335a21eb8b223d96133daf639b46b7237969b01f20d8bc796278f7ca7076", func := "burnish/burnishlaw11.PairsWithin", spec := "pairsWithin", inPlace := ["math.Float64bits", "math.Float64frombits", "math/bits.Add64", "math/bits.Sub64"], unfollowed := true, recurses := true, named := ["math/bits.divideError", "math/bits.overflowError"], apart := false }
def PairsWithinSaid : Prop := pairsWithinRow.holds Tryz.pinned (OpenSpec.ofChange pairsWithinSpec)

/-- ITS FALSE NEIGHBOUR: 'it returns false'. Refute it at one input. -/
def pairsWithinWrong : ChangeSpec := { name := "pairsWithin", fn := fun _ => fun
  | [d1, d2, d3, d4, d5, d6] => { results := [.lit (.bool false)], args := [d1, d2, d3, d4, d5, d6] }
  | _ => none }
def PairsWithinWrongFalsely : Prop := pairsWithinRow.holds Tryz.pinned (OpenSpec.ofChange pairsWithinWrong)

/-- 'burnishlaw11.PairsFlat': WHATEVER THE INPUT: true; the input reads as it did. -/
def pairsFlatSpec : ChangeSpec := { name := "pairsFlat", fn := fun _ => fun
  | [d1, d2, d3, d4] => { results := [.lit (.bool true)], args := [d1, d2, d3, d4] }
  | _ => none }
def pairsFlatRow : OpenClaim := { program := "ytmkgfflebfpcdaagreat", sum := "3153335a21eb8b223d96133daf639b46b7237969b01f20d8bc796278f7ca7076", func := "burnish/burnishlaw11.PairsFlat", spec := "pairsFlat", inPlace := ["math.Float64bits", "math.Float64frombits", "math/bits.Add64", "math/bits.Sub64"], unfollowed := true, recurses := true, named := ["math/bits.divideError", "math/bits.overflowError"], apart := false }
def PairsFlatSaid : Prop := pairsFlatRow.holds Tryz.pinned (OpenSpec.ofChange pairsFlatSpec)

/-- ITS FALSE NEIGHBOUR: 'it returns false'. Refute it at one input. -/
def pairsFlatWrong : ChangeSpec := { name := "pairsFlat", fn := fun _ => fun
  | [d1, d2, d3, d4] => { results := [.lit (.bool false)], args := [d1, d2, d3, d4] }
  | _ => none }
def PairsFlatWrongFalsely : Prop := pairsFlatRow.holds Tryz.pinned (OpenSpec.ofChange pairsFlatWrong)

/- THE SECOND FORM. 'bulk': how many values and letters a reading holds, each counted each time it is reached (what is shared counts as often as it is met; a slice's spare places count too). A statement '..UptoSaid' is the law's where the arguments, and the package variables that the reading takes, are together of bulk at most 1048576: NARROWER than '..Said'. Prove '..Said' where nothing that the law and all that it calls make is longer than what came in: it says more and counts as full. Else prove '..UptoSaid'. A law counts once. -/
mutual
def uptoBulk {H : Type} : DataW H → Nat
  | .lit (.string bytes) => bytes.length + 1
  | .lit _ => 1
  | .nil => 1
  | .ptr d => uptoBulk d + 1
  | .slice elems spare => uptoBulkAll elems + uptoBulkAll spare + 1
  | .agg parts => uptoBulkAll parts + 1
  | .iface _ d => uptoBulk d + 1
  | .map entries => uptoBulkEntries entries + 1
  | .held _ => 1
def uptoBulkAll {H : Type} : List (DataW H) → Nat
  | [] => 0
  | d :: r => uptoBulk d + uptoBulkAll r
def uptoBulkEntries {H : Type} : List (Lit × DataW H) → Nat
  | [] => 0
  | x :: r => uptoBulkEntry x + uptoBulkEntries r
def uptoBulkEntry {H : Type} : Lit × DataW H → Nat
  | (.string bytes, d) => bytes.length + uptoBulk d + 1
  | (_, d) => uptoBulk d + 1
 end
def uptoSmall : (H : Type) → List (DataW H) → Bool := fun _ ds => decide (uptoBulkAll ds ≤ 1048576)
def OpenSpec.upto (s : _root_.Go.ChangeSpec) : _root_.Go.OpenSpec := { _root_.Go.OpenSpec.ofChange s with cond := some uptoSmall }

/-- 'burnishlaw11.PairsBack', WHERE WHAT IT READS IS OF BULK AT MOST 1048576: true; the input reads as it did. -/
def pairsBackUptoRow : OpenClaim := { program := "ytmkgfflebfpcdaagreat", sum := "3153335a21eb8b223d96133daf639b46b7237969b01f20d8bc796278f7ca7076", func := "burnish/burnishlaw11.PairsBack", spec := "pairsBack", inPlace := ["math.Float64bits", "math.Float64frombits", "math/bits.Add64", "math/bits.Sub64"], unfollowed := true, recurses := true, named := ["math/bits.divideError", "math/bits.overflowError"], apart := false, narrowed := true }
def PairsBackUptoSaid : Prop := pairsBackUptoRow.holds Tryz.pinned (OpenSpec.upto pairsBackSpec)

/-- 'burnishlaw11.PairsWithin', WHERE WHAT IT READS IS OF BULK AT MOST 1048576: true; the input reads as it did. -/
def pairsWithinUptoRow : OpenClaim := { program := "ytmkgfflebfpcdaagreat", sum := "3153335a21eb8b223d96133daf639b46b7237969b01f20d8bc796278f7ca7076", func := "burnish/burnishlaw11.PairsWithin", spec := "pairsWithin", inPlace := ["math.Float64bits", "math.Float64frombits", "math/bits.Add64", "math/bits.Sub64"], unfollowed := true, recurses := true, named := ["math/bits.divideError", "math/bits.overflowError"], apart := false, narrowed := true }
def PairsWithinUptoSaid : Prop := pairsWithinUptoRow.holds Tryz.pinned (OpenSpec.upto pairsWithinSpec)

/-- 'burnishlaw11.PairsFlat', WHERE WHAT IT READS IS OF BULK AT MOST 1048576: true; the input reads as it did. -/
def pairsFlatUptoRow : OpenClaim := { program := "ytmkgfflebfpcdaagreat", sum := "3153335a21eb8b223d96133daf639b46b7237969b01f20d8bc796278f7ca7076", func := "burnish/burnishlaw11.PairsFlat", spec := "pairsFlat", inPlace := ["math.Float64bits", "math.Float64frombits", "math/bits.Add64", "math/bits.Sub64"], unfollowed := true, recurses := true, named := ["math/bits.divideError", "math/bits.overflowError"], apart := false, narrowed := true }
def PairsFlatUptoSaid : Prop := pairsFlatUptoRow.holds Tryz.pinned (OpenSpec.upto pairsFlatSpec)

end Rows
end Go.Proofs.YtmkgfflebfpcdaaGreat
