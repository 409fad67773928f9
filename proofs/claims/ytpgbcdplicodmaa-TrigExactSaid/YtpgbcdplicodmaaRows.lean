/-
  No cell of these rows narrows 'for every input' (looked for: loops, veiled, ifaces, maps, wideKeys, modest, calm, conditions, laid).
  DERIVED. THE GIVEN ROWS OF THIS SEAT. 7 by the template 'for every input the law returns true; each argument reads behind the call as it read before'; 0 by the template 'total and deterministic' (their statements: YtpgbcdplicodmaaTotals.lean).
  GIVEN WITH THE SEED: the statements are not yours to turn. If you find one false, say at which input.
  Laid BY PROGRAM, IN A SANDBOX (cutbox-rows.mjs): the forced cells as the released guide's own fill.sh prints them over the translation d73dfd64616830ed… (all of the seat's roots in one cut). By AI agents, Wed Nov 11 2026. No macro, syntax, notation, axiom, sorry.
-/
import Derived.Test.YtpgbcdplicodmaaChecked
import GoSem.Claim
import GoSem.ClaimJoined
import GoSem.ClaimMapViews
import Derived.JoinedTies
import Derived.KernelRfl
namespace Go.Proofs.Ytpgbcdplicodmaa
/- THE CELL 'sum', in the pinned program and in every row, IS THE sha256 OF THE DUMP (.gsa) THAT YtpgbcdplicodmaaProg.lean LOADS. Nothing in Lean hashes anything: it is a label: what it is worth is what the hold of that sum in a sandbox is worth. -/
noncomputable def Try.pinned : Pinned := { name := "ytpgbcdplicodmaa", sum := "d73dfd64616830ed9e776c36b31e0dda12fc4b0da4be38761a2fcd6795bc5975", checked := Try.checked }
namespace Rows
def none {H : Type} : Left H := { results := [], args := [] }

/-- 'burnishlaw01.DirTells': WHATEVER THE INPUT: true; the input reads as it did. -/
def dirTellsSpec : ChangeSpec := { name := "dirTells", fn := fun _ => fun
  | [d1, d2, d3] => { results := [.lit (.bool true)], args := [d1, d2, d3] }
  | _ => none }
def dirTellsRow : OpenClaim := { program := "ytpgbcdplicodmaa", sum := "d73dfd64616830ed9e776c36b31e0dda12fc4b0da4be38761a2fcd6795bc5975", func := "burnish/burnishlaw01.DirTells", spec := "dirTells", inPlace := ["math.Float64bits", "math/bits.Add64", "math/bits.Sub64", "math.Float64frombits", "math.FMA", "math.sqrt"], unfollowed := true, recurses := true, named := ["math/bits.divideError", "math/bits.overflowError"], apart := false }
def DirTellsSaid : Prop := dirTellsRow.holds Try.pinned (OpenSpec.ofChange dirTellsSpec)

/-- ITS FALSE NEIGHBOUR: 'it returns false'. Refute it at one input. -/
def dirTellsWrong : ChangeSpec := { name := "dirTells", fn := fun _ => fun
  | [d1, d2, d3] => { results := [.lit (.bool false)], args := [d1, d2, d3] }
  | _ => none }
def DirTellsWrongFalsely : Prop := dirTellsRow.holds Try.pinned (OpenSpec.ofChange dirTellsWrong)

/-- 'burnishlaw01.DirSides': WHATEVER THE INPUT: true; the input reads as it did. -/
def dirSidesSpec : ChangeSpec := { name := "dirSides", fn := fun _ => fun
  | [d1, d2] => { results := [.lit (.bool true)], args := [d1, d2] }
  | _ => none }
def dirSidesRow : OpenClaim := { program := "ytpgbcdplicodmaa", sum := "d73dfd64616830ed9e776c36b31e0dda12fc4b0da4be38761a2fcd6795bc5975", func := "burnish/burnishlaw01.DirSides", spec := "dirSides", inPlace := ["math.Float64bits", "math.Float64frombits", "math/bits.Add64", "math/bits.Sub64", "math.sqrt"], unfollowed := true, recurses := true, named := ["math/bits.divideError", "math/bits.overflowError"], apart := false }
def DirSidesSaid : Prop := dirSidesRow.holds Try.pinned (OpenSpec.ofChange dirSidesSpec)

/-- ITS FALSE NEIGHBOUR: 'it returns false'. Refute it at one input. -/
def dirSidesWrong : ChangeSpec := { name := "dirSides", fn := fun _ => fun
  | [d1, d2] => { results := [.lit (.bool false)], args := [d1, d2] }
  | _ => none }
def DirSidesWrongFalsely : Prop := dirSidesRow.holds Try.pinned (OpenSpec.ofChange dirSidesWrong)

/-- 'burnishlaw02.IvalHolds': WHATEVER THE INPUT: true; the input reads as it did. -/
def ivalHoldsSpec : ChangeSpec := { name := "ivalHolds", fn := fun _ => fun
  | [d1, d2, d3] => { results := [.lit (.bool true)], args := [d1, d2, d3] }
  | _ => none }
def ivalHoldsRow : OpenClaim := { program := "ytpgbcdplicodmaa", sum := "d73dfd64616830ed9e776c36b31e0dda12fc4b0da4be38761a2fcd6795bc5975", func := "burnish/burnishlaw02.IvalHolds", spec := "ivalHolds", inPlace := ["math.Float64bits", "math.Float64frombits", "math/bits.Add64", "math/bits.Sub64"], unfollowed := true, recurses := true, named := ["math/bits.divideError", "math/bits.overflowError"], apart := false }
def IvalHoldsSaid : Prop := ivalHoldsRow.holds Try.pinned (OpenSpec.ofChange ivalHoldsSpec)

/-- ITS FALSE NEIGHBOUR: 'it returns false'. Refute it at one input. -/
def ivalHoldsWrong : ChangeSpec := { name := "ivalHolds", fn := fun _ => fun
  | [d1, d2, d3] => { results := [.lit (.bool false)], args := [d1, d2, d3] }
  | _ => none }
def IvalHoldsWrongFalsely : Prop := ivalHoldsRow.holds Try.pinned (OpenSpec.ofChange ivalHoldsWrong)

/-- 'burnishlaw04.TrigCircle': WHATEVER THE INPUT: true; the input reads as it did. -/
def trigCircleSpec : ChangeSpec := { name := "trigCircle", fn := fun _ => fun
  | [d] => { results := [.lit (.bool true)], args := [d] }
  | _ => none }
def trigCircleRow : OpenClaim := { program := "ytpgbcdplicodmaa", sum := "d73dfd64616830ed9e776c36b31e0dda12fc4b0da4be38761a2fcd6795bc5975", func := "burnish/burnishlaw04.TrigCircle", spec := "trigCircle", inPlace := ["math.Float64bits", "math/bits.Add64", "math/bits.Sub64", "math.Float64frombits"], unfollowed := true, recurses := true, named := ["math/bits.divideError", "math/bits.overflowError"], apart := false }
def TrigCircleSaid : Prop := trigCircleRow.holds Try.pinned (OpenSpec.ofChange trigCircleSpec)

/-- ITS FALSE NEIGHBOUR: 'it returns false'. Refute it at one input. -/
def trigCircleWrong : ChangeSpec := { name := "trigCircle", fn := fun _ => fun
  | [d] => { results := [.lit (.bool false)], args := [d] }
  | _ => none }
def TrigCircleWrongFalsely : Prop := trigCircleRow.holds Try.pinned (OpenSpec.ofChange trigCircleWrong)

/-- 'burnishlaw04.TrigParts': WHATEVER THE INPUT: true; the input reads as it did. -/
def trigPartsSpec : ChangeSpec := { name := "trigParts", fn := fun _ => fun
  | [d1, d2] => { results := [.lit (.bool true)], args := [d1, d2] }
  | _ => none }
def trigPartsRow : OpenClaim := { program := "ytpgbcdplicodmaa", sum := "d73dfd64616830ed9e776c36b31e0dda12fc4b0da4be38761a2fcd6795bc5975", func := "burnish/burnishlaw04.TrigParts", spec := "trigParts", inPlace := ["math.Float64bits", "math/bits.Add64", "math/bits.Sub64", "math.Float64frombits"], unfollowed := true, recurses := true, named := ["math/bits.divideError", "math/bits.overflowError"], apart := false }
def TrigPartsSaid : Prop := trigPartsRow.holds Try.pinned (OpenSpec.ofChange trigPartsSpec)

/-- ITS FALSE NEIGHBOUR: 'it returns false'. Refute it at one input. -/
def trigPartsWrong : ChangeSpec := { name := "trigParts", fn := fun _ => fun
  | [d1, d2] => { results := [.lit (.bool false)], args := [d1, d2] }
  | _ => none }
def TrigPartsWrongFalsely : Prop := trigPartsRow.holds Try.pinned (OpenSpec.ofChange trigPartsWrong)

/-- 'burnishlaw04.TrigHalves': WHATEVER THE INPUT: true; the input reads as it did. -/
def trigHalvesSpec : ChangeSpec := { name := "trigHalves", fn := fun _ => fun
  | [d] => { results := [.lit (.bool true)], args := [d] }
  | _ => none }
def trigHalvesRow : OpenClaim := { program := "ytpgbcdplicodmaa", sum := "d73dfd64616830ed9e776c36b31e0dda12fc4b0da4be38761a2fcd6795bc5975", func := "burnish/burnishlaw04.TrigHalves", spec := "trigHalves", inPlace := ["math.Float64bits", "math/bits.Add64", "math/bits.Sub64", "math.Float64frombits"], unfollowed := true, recurses := true, named := ["math/bits.divideError", "math/bits.overflowError"], apart := false }
def TrigHalvesSaid : Prop := trigHalvesRow.holds Try.pinned (OpenSpec.ofChange trigHalvesSpec)

/-- ITS FALSE NEIGHBOUR: 'it returns false'. Refute it at one input. -/
def trigHalvesWrong : ChangeSpec := { name := "trigHalves", fn := fun _ => fun
  | [d] => { results := [.lit (.bool false)], args := [d] }
  | _ => none }
def TrigHalvesWrongFalsely : Prop := trigHalvesRow.holds Try.pinned (OpenSpec.ofChange trigHalvesWrong)

/-- 'burnishlaw04.TrigExact': WHATEVER THE INPUT: true; the input reads as it did. -/
def trigExactSpec : ChangeSpec := { name := "trigExact", fn := fun _ => fun
  | [d] => { results := [.lit (.bool true)], args := [d] }
  | _ => none }
def trigExactRow : OpenClaim := { program := "ytpgbcdplicodmaa", sum := "d73dfd64616830ed9e776c36b31e0dda12fc4b0da4be38761a2fcd6795bc5975", func := "burnish/burnishlaw04.TrigExact", spec := "trigExact", inPlace := ["math.Float64bits", "math/bits.Add64", "math/bits.Sub64", "math.Float64frombits"], unfollowed := true, recurses := true, named := ["math/bits.divideError", "math/bits.overflowError"], apart := false }
def TrigExactSaid : Prop := trigExactRow.holds Try.pinned (OpenSpec.ofChange trigExactSpec)

/-- ITS FALSE NEIGHBOUR: 'it returns false'. Refute it at one input. -/
def trigExactWrong : ChangeSpec := { name := "trigExact", fn := fun _ => fun
  | [d] => { results := [.lit (.bool false)], args := [d] }
  | _ => none }
def TrigExactWrongFalsely : Prop := trigExactRow.holds Try.pinned (OpenSpec.ofChange trigExactWrong)

/- THE SECOND FORM. 'bulk': how many values and letters a reading holds, each counted each time it is reached (what is shared counts as often as it is met; a slice's spare places count too). A statement '..UptoSaid' is the law's where the arguments, and the package variables that the reading takes, are together of bulk at most 1048576: NARROWER than '..Said'. Prove '..Said' where nothing that the law and all that it calls make is longer than what came in: it says more and counts as full. Else prove '..UptoSaid'. A law counts once. -/
mutual
def uptoBulk {H : Type} : DataW H → Nat
  | .lit (.string bytes) => bytes.length + 1
  | .lit _ => 1
  | .nil => 1
  | .ptr d => uptoBulk d + 1
  | .slice elems spare => uptoBulkAll elems + uptoBulkAll spare + 1
  | .agg parts => uptoBulkAll parts + 1
  | .iface _ d => uptoBulk d + 1
  | .map entries => uptoBulkEntries entries + 1
  | .held _ => 1
def uptoBulkAll {H : Type} : List (DataW H) → Nat
  | [] => 0
  | d :: r => uptoBulk d + uptoBulkAll r
def uptoBulkEntries {H : Type} : List (Lit × DataW H) → Nat
  | [] => 0
  | x :: r => uptoBulkEntry x + uptoBulkEntries r
def uptoBulkEntry {H : Type} : Lit × DataW H → Nat
  | (.string bytes, d) => bytes.length + uptoBulk d + 1
  | (_, d) => uptoBulk d + 1
 end
def uptoSmall : (H : Type) → List (DataW H) → Bool := fun _ ds => decide (uptoBulkAll ds ≤ 1048576)
def OpenSpec.upto (s : _root_.Go.ChangeSpec) : _root_.Go.OpenSpec := { _root_.Go.OpenSpec.ofChange s with cond := some uptoSmall }

/-- 'burnishlaw01.DirTells', WHERE WHAT IT READS IS OF BULK AT MOST 1048576: true; the input reads as it did. -/
def dirTellsUptoRow : OpenClaim := { program := "ytpgbcdplicodmaa", sum := "d73dfd64616830ed9e776c36b31e0dda12fc4b0da4be38761a2fcd6795bc5975", func := "burnish/burnishlaw01.DirTells", spec := "dirTells", inPlace := ["math.Float64bits", "math/bits.Add64", "math/bits.Sub64", "math.Float64frombits", "math.FMA", "math.sqrt"], unfollowed := true, recurses := true, named := ["math/bits.divideError", "math/bits.overflowError"], apart := false, narrowed := true }
def DirTellsUptoSaid : Prop := dirTellsUptoRow.holds Try.pinned (OpenSpec.upto dirTellsSpec)

/-- 'burnishlaw01.DirSides', WHERE WHAT IT READS IS OF BULK AT MOST 1048576: true; the input reads as it did. -/
def dirSidesUptoRow : OpenClaim := { program := "ytpgbcdplicodmaa", sum := "d73dfd64616830ed9e776c36b31e0dda12fc4b0da4be38761a2fcd6795bc5975", func := "burnish/burnishlaw01.DirSides", spec := "dirSides", inPlace := ["math.Float64bits", "math.Float64frombits", "math/bits.Add64", "math/bits.Sub64", "math.sqrt"], unfollowed := true, recurses := true, named := ["math/bits.divideError", "math/bits.overflowError"], apart := false, narrowed := true }
def DirSidesUptoSaid : Prop := dirSidesUptoRow.holds Try.pinned (OpenSpec.upto dirSidesSpec)

/-- 'burnishlaw02.IvalHolds', WHERE WHAT IT READS IS OF BULK AT MOST 1048576: true; the input reads as it did. -/
def ivalHoldsUptoRow : OpenClaim := { program := "ytpgbcdplicodmaa", sum := "d73dfd64616830ed9e776c36b31e0dda12fc4b0da4be38761a2fcd6795bc5975", func := "burnish/burnishlaw02.IvalHolds", spec := "ivalHolds", inPlace := ["math.Float64bits", "math.Float64frombits", "math/bits.Add64", "math/bits.Sub64"], unfollowed := true, recurses := true, named := ["math/bits.divideError", "math/bits.overflowError"], apart := false, narrowed := true }
def IvalHoldsUptoSaid : Prop := ivalHoldsUptoRow.holds Try.pinned (OpenSpec.upto ivalHoldsSpec)

/-- 'burnishlaw04.TrigCircle', WHERE WHAT IT READS IS OF BULK AT MOST 1048576: true; the input reads as it did. -/
def trigCircleUptoRow : OpenClaim := { program := "ytpgbcdplicodmaa", sum := "d73dfd64616830ed9e776c36b31e0dda12fc4b0da4be38761a2fcd6795bc5975", func := "burnish/burnishlaw04.TrigCircle", spec := "trigCircle", inPlace := ["math.Float64bits", "math/bits.Add64", "math/bits.Sub64", "math.Float64frombits"], unfollowed := true, recurses := true, named := ["math/bits.divideError", "math/bits.overflowError"], apart := false, narrowed := true }
def TrigCircleUptoSaid : Prop := trigCircleUptoRow.holds Try.pinned (OpenSpec.upto trigCircleSpec)

/-- 'burnishlaw04.TrigParts', WHERE WHAT IT READS IS OF BULK AT MOST 1048576: true; the input reads as it did. -/
def trigPartsUptoRow : OpenClaim := { program := "ytpgbcdplicodmaa", sum := "d73dfd64616830ed9e776c36b31e0dda12fc4b0da4be38761a2fcd6795bc5975", func := "burnish/burnishlaw04.TrigParts", spec := "trigParts", inPlace := ["math.Float64bits", "math/bits.Add64", "math/bits.Sub64", "math.Float64frombits"], unfollowed := true, recurses := true, named := ["math/bits.divideError", "math/bits.overflowError"], apart := false, narrowed := true }
def TrigPartsUptoSaid : Prop := trigPartsUptoRow.holds Try.pinned (OpenSpec.upto trigPartsSpec)

/-- 'burnishlaw04.TrigHalves', WHERE WHAT IT READS IS OF BULK AT MOST 1048576: true; the input reads as it did. -/
def trigHalvesUptoRow : OpenClaim := { program := "ytpgbcdplicodmaa", sum := "d73dfd64616830ed9e776c36b31e0dda12fc4b0da4be38761a2fcd6795bc5975", func := "burnish/burnishlaw04.TrigHalves", spec := "trigHalves", inPlace := ["math.Float64bits", "math/bits.Add64", "math/bits.Sub64", "math.Float64frombits"], unfollowed := true, recurses := true, named := ["math/bits.divideError", "math/bits.overflowError"], apart := false, narrowed := true }
def TrigHalvesUptoSaid : Prop := trigHalvesUptoRow.holds Try.pinned (OpenSpec.upto trigHalvesSpec)

/-- 'burnishlaw04.TrigExact', WHERE WHAT IT READS IS OF BULK AT MOST 1048576: true; the input reads as it did. -/
def trigExactUptoRow : OpenClaim := { program := "ytpgbcdplicodmaa", sum := "d73dfd64616830ed9e776c36b31e0dda12fc4b0da4be38761a2fcd6795bc5975", func := "burnish/burnishlaw04.TrigExact", spec := "trigExact", inPlace := ["math.Float64bits", "math/bits.Add64", "math/bits.Sub64", "math.Float64frombits"], unfollowed := true, recurses := true, named := ["math/bits.divideError", "math/bits.overflowError"], apart := false, narrowed := true }
def TrigExactUptoSaid : Prop := trigExactUptoRow.holds Try.pinned (OpenSpec.upto trigExactSpec)

end Rows
end Go.Proofs.Ytpgbcdplicodmaa
