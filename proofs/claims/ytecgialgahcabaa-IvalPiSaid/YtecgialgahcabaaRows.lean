/-
  No cell of these rows narrows 'for every input' (looked for: loops, veiled, ifaces, maps, wideKeys, modest, calm, conditions, laid).
  DERIVED. THE GIVEN ROWS OF THIS SEAT. 11 by the template 'for every input the law returns true; each argument reads behind the call as it read before'; 0 by the template 'total and deterministic' (their statements: YtecgialgahcabaaTotals.lean).
  GIVEN WITH THE SEED: the statements are not yours to turn. If you find one false, say at which input.
  Laid BY PROGRAM, IN A SANDBOX (cutbox-rows.mjs): the forced cells as the released guide's own fill.sh prints them over the translation c4f69ac071001080… (all of the seat's roots in one cut). By AI agents, Wed Nov 11 2026. No macro, syntax, notation, axiom, sorry.
-/
import Derived.Test.YtecgialgahcabaaChecked
import GoSem.Claim
import GoSem.ClaimJoined
import GoSem.ClaimMapViews
import Derived.JoinedTies
import Derived.KernelRfl
namespace Go.Proofs.Ytecgialgahcabaa
/- THE CELL 'sum', in the pinned program and in every row, IS THE sha256 OF THE DUMP (.gsa) THAT YtecgialgahcabaaProg.lean LOADS. Nothing in Lean hashes anything: it is a label: what it is worth is what the hold of that sum in a sandbox is worth. -/
noncomputable def Try.pinned : Pinned := { name := "ytecgialgahcabaa", sum := "c4f69ac0710010809d22bf3b31a11c013d5f00dc2191335bca56a6773feb0def", checked := Try.checked }
namespace Rows
def none {H : Type} : Left H := { results := [], args := [] }

/-- 'burnishlaw01.DirTells': WHATEVER THE INPUT: true; the input reads as it did. -/
def dirTellsSpec : ChangeSpec := { name := "dirTells", fn := fun _ => fun
  | [d1, d2, d3] => { results := [.lit (.bool true)], args := [d1, d2, d3] }
  | _ => none }
def dirTellsRow : OpenClaim := { program := "ytecgialgahcabaa", sum := "c4f69ac0710010809d22bf3b31a11c013d5f00dc2191335bca56a6773feb0def", func := "burnish/burnishlaw01.DirTells", spec := "dirTells", inPlace := ["math.Float64bits", "math/bits.Add64", "math/bits.Sub64", "math.Float64frombits", "math.FMA", "math.sqrt"], unfollowed := true, recurses := true, named := ["math/bits.divideError", "math/bits.overflowError"], apart := false }
def DirTellsSaid : Prop := dirTellsRow.holds Try.pinned (OpenSpec.ofChange dirTellsSpec)

/-- ITS FALSE NEIGHBOUR: 'it returns false'. Refute it at one input. -/
def dirTellsWrong : ChangeSpec := { name := "dirTells", fn := fun _ => fun
  | [d1, d2, d3] => { results := [.lit (.bool false)], args := [d1, d2, d3] }
  | _ => none }
def DirTellsWrongFalsely : Prop := dirTellsRow.holds Try.pinned (OpenSpec.ofChange dirTellsWrong)

/-- 'burnishlaw01.DirSides': WHATEVER THE INPUT: true; the input reads as it did. -/
def dirSidesSpec : ChangeSpec := { name := "dirSides", fn := fun _ => fun
  | [d1, d2] => { results := [.lit (.bool true)], args := [d1, d2] }
  | _ => none }
def dirSidesRow : OpenClaim := { program := "ytecgialgahcabaa", sum := "c4f69ac0710010809d22bf3b31a11c013d5f00dc2191335bca56a6773feb0def", func := "burnish/burnishlaw01.DirSides", spec := "dirSides", inPlace := ["math.Float64bits", "math.Float64frombits", "math/bits.Add64", "math/bits.Sub64", "math.sqrt"], unfollowed := true, recurses := true, named := ["math/bits.divideError", "math/bits.overflowError"], apart := false }
def DirSidesSaid : Prop := dirSidesRow.holds Try.pinned (OpenSpec.ofChange dirSidesSpec)

/-- ITS FALSE NEIGHBOUR: 'it returns false'. Refute it at one input. -/
def dirSidesWrong : ChangeSpec := { name := "dirSides", fn := fun _ => fun
  | [d1, d2] => { results := [.lit (.bool false)], args := [d1, d2] }
  | _ => none }
def DirSidesWrongFalsely : Prop := dirSidesRow.holds Try.pinned (OpenSpec.ofChange dirSidesWrong)

/-- 'burnishlaw01.DirSums': WHATEVER THE INPUT: true; the input reads as it did. -/
def dirSumsSpec : ChangeSpec := { name := "dirSums", fn := fun _ => fun
  | [d1, d2] => { results := [.lit (.bool true)], args := [d1, d2] }
  | _ => none }
def dirSumsRow : OpenClaim := { program := "ytecgialgahcabaa", sum := "c4f69ac0710010809d22bf3b31a11c013d5f00dc2191335bca56a6773feb0def", func := "burnish/burnishlaw01.DirSums", spec := "dirSums", inPlace := ["math.Float64bits", "math/bits.Add64", "math/bits.Sub64", "math.Float64frombits"], unfollowed := true, recurses := true, named := ["math/bits.divideError", "math/bits.overflowError"], apart := false }
def DirSumsSaid : Prop := dirSumsRow.holds Try.pinned (OpenSpec.ofChange dirSumsSpec)

/-- ITS FALSE NEIGHBOUR: 'it returns false'. Refute it at one input. -/
def dirSumsWrong : ChangeSpec := { name := "dirSums", fn := fun _ => fun
  | [d1, d2] => { results := [.lit (.bool false)], args := [d1, d2] }
  | _ => none }
def DirSumsWrongFalsely : Prop := dirSumsRow.holds Try.pinned (OpenSpec.ofChange dirSumsWrong)

/-- 'burnishlaw01.DirParts': WHATEVER THE INPUT: true; the input reads as it did. -/
def dirPartsSpec : ChangeSpec := { name := "dirParts", fn := fun _ => fun
  | [d1, d2] => { results := [.lit (.bool true)], args := [d1, d2] }
  | _ => none }
def dirPartsRow : OpenClaim := { program := "ytecgialgahcabaa", sum := "c4f69ac0710010809d22bf3b31a11c013d5f00dc2191335bca56a6773feb0def", func := "burnish/burnishlaw01.DirParts", spec := "dirParts", inPlace := ["math.Float64bits", "math.Float64frombits", "math/bits.Add64", "math/bits.Sub64"], unfollowed := true, recurses := true, named := ["math/bits.divideError", "math/bits.overflowError"], apart := false }
def DirPartsSaid : Prop := dirPartsRow.holds Try.pinned (OpenSpec.ofChange dirPartsSpec)

/-- ITS FALSE NEIGHBOUR: 'it returns false'. Refute it at one input. -/
def dirPartsWrong : ChangeSpec := { name := "dirParts", fn := fun _ => fun
  | [d1, d2] => { results := [.lit (.bool false)], args := [d1, d2] }
  | _ => none }
def DirPartsWrongFalsely : Prop := dirPartsRow.holds Try.pinned (OpenSpec.ofChange dirPartsWrong)

/-- 'burnishlaw01.DirGrows': WHATEVER THE INPUT: true; the input reads as it did. -/
def dirGrowsSpec : ChangeSpec := { name := "dirGrows", fn := fun _ => fun
  | [d1, d2, d3, d4] => { results := [.lit (.bool true)], args := [d1, d2, d3, d4] }
  | _ => none }
def dirGrowsRow : OpenClaim := { program := "ytecgialgahcabaa", sum := "c4f69ac0710010809d22bf3b31a11c013d5f00dc2191335bca56a6773feb0def", func := "burnish/burnishlaw01.DirGrows", spec := "dirGrows", inPlace := ["math.Float64bits", "math.Float64frombits", "math/bits.Add64", "math/bits.Sub64"], unfollowed := true, recurses := true, named := ["math/bits.divideError", "math/bits.overflowError"], apart := false }
def DirGrowsSaid : Prop := dirGrowsRow.holds Try.pinned (OpenSpec.ofChange dirGrowsSpec)

/-- ITS FALSE NEIGHBOUR: 'it returns false'. Refute it at one input. -/
def dirGrowsWrong : ChangeSpec := { name := "dirGrows", fn := fun _ => fun
  | [d1, d2, d3, d4] => { results := [.lit (.bool false)], args := [d1, d2, d3, d4] }
  | _ => none }
def DirGrowsWrongFalsely : Prop := dirGrowsRow.holds Try.pinned (OpenSpec.ofChange dirGrowsWrong)

/-- 'burnishlaw01.DirNext': WHATEVER THE INPUT: true; the input reads as it did. -/
def dirNextSpec : ChangeSpec := { name := "dirNext", fn := fun _ => fun
  | [d] => { results := [.lit (.bool true)], args := [d] }
  | _ => none }
def dirNextRow : OpenClaim := { program := "ytecgialgahcabaa", sum := "c4f69ac0710010809d22bf3b31a11c013d5f00dc2191335bca56a6773feb0def", func := "burnish/burnishlaw01.DirNext", spec := "dirNext", inPlace := ["math.Float64bits", "math/bits.Add64", "math/bits.Sub64", "math.Float64frombits"], unfollowed := true, recurses := true, named := ["math/bits.divideError", "math/bits.overflowError"], apart := false }
def DirNextSaid : Prop := dirNextRow.holds Try.pinned (OpenSpec.ofChange dirNextSpec)

/-- ITS FALSE NEIGHBOUR: 'it returns false'. Refute it at one input. -/
def dirNextWrong : ChangeSpec := { name := "dirNext", fn := fun _ => fun
  | [d] => { results := [.lit (.bool false)], args := [d] }
  | _ => none }
def DirNextWrongFalsely : Prop := dirNextRow.holds Try.pinned (OpenSpec.ofChange dirNextWrong)

/-- 'burnishlaw02.IvalHolds': WHATEVER THE INPUT: true; the input reads as it did. -/
def ivalHoldsSpec : ChangeSpec := { name := "ivalHolds", fn := fun _ => fun
  | [d1, d2, d3] => { results := [.lit (.bool true)], args := [d1, d2, d3] }
  | _ => none }
def ivalHoldsRow : OpenClaim := { program := "ytecgialgahcabaa", sum := "c4f69ac0710010809d22bf3b31a11c013d5f00dc2191335bca56a6773feb0def", func := "burnish/burnishlaw02.IvalHolds", spec := "ivalHolds", inPlace := ["math.Float64bits", "math.Float64frombits", "math/bits.Add64", "math/bits.Sub64"], unfollowed := true, recurses := true, named := ["math/bits.divideError", "math/bits.overflowError"], apart := false }
def IvalHoldsSaid : Prop := ivalHoldsRow.holds Try.pinned (OpenSpec.ofChange ivalHoldsSpec)

/-- ITS FALSE NEIGHBOUR: 'it returns false'. Refute it at one input. -/
def ivalHoldsWrong : ChangeSpec := { name := "ivalHolds", fn := fun _ => fun
  | [d1, d2, d3] => { results := [.lit (.bool false)], args := [d1, d2, d3] }
  | _ => none }
def IvalHoldsWrongFalsely : Prop := ivalHoldsRow.holds Try.pinned (OpenSpec.ofChange ivalHoldsWrong)

/-- 'burnishlaw02.IvalLess': WHATEVER THE INPUT: true; the input reads as it did. -/
def ivalLessSpec : ChangeSpec := { name := "ivalLess", fn := fun _ => fun
  | [d1, d2, d3, d4, d5] => { results := [.lit (.bool true)], args := [d1, d2, d3, d4, d5] }
  | _ => none }
def ivalLessRow : OpenClaim := { program := "ytecgialgahcabaa", sum := "c4f69ac0710010809d22bf3b31a11c013d5f00dc2191335bca56a6773feb0def", func := "burnish/burnishlaw02.IvalLess", spec := "ivalLess", inPlace := ["math.Float64bits", "math.Float64frombits", "math/bits.Add64", "math/bits.Sub64"], unfollowed := true, recurses := true, named := ["math/bits.divideError", "math/bits.overflowError"], apart := false }
def IvalLessSaid : Prop := ivalLessRow.holds Try.pinned (OpenSpec.ofChange ivalLessSpec)

/-- ITS FALSE NEIGHBOUR: 'it returns false'. Refute it at one input. -/
def ivalLessWrong : ChangeSpec := { name := "ivalLess", fn := fun _ => fun
  | [d1, d2, d3, d4, d5] => { results := [.lit (.bool false)], args := [d1, d2, d3, d4, d5] }
  | _ => none }
def IvalLessWrongFalsely : Prop := ivalLessRow.holds Try.pinned (OpenSpec.ofChange ivalLessWrong)

/-- 'burnishlaw02.IvalStays': WHATEVER THE INPUT: true; the input reads as it did. -/
def ivalStaysSpec : ChangeSpec := { name := "ivalStays", fn := fun _ => fun
  | [d] => { results := [.lit (.bool true)], args := [d] }
  | _ => none }
def ivalStaysRow : OpenClaim := { program := "ytecgialgahcabaa", sum := "c4f69ac0710010809d22bf3b31a11c013d5f00dc2191335bca56a6773feb0def", func := "burnish/burnishlaw02.IvalStays", spec := "ivalStays", inPlace := ["math.Float64bits", "math/bits.Add64", "math/bits.Sub64", "math.Float64frombits"], unfollowed := true, recurses := true, named := ["math/bits.divideError", "math/bits.overflowError"], apart := false }
def IvalStaysSaid : Prop := ivalStaysRow.holds Try.pinned (OpenSpec.ofChange ivalStaysSpec)

/-- ITS FALSE NEIGHBOUR: 'it returns false'. Refute it at one input. -/
def ivalStaysWrong : ChangeSpec := { name := "ivalStays", fn := fun _ => fun
  | [d] => { results := [.lit (.bool false)], args := [d] }
  | _ => none }
def IvalStaysWrongFalsely : Prop := ivalStaysRow.holds Try.pinned (OpenSpec.ofChange ivalStaysWrong)

/-- 'burnishlaw02.IvalMeets': WHATEVER THE INPUT: true; the input reads as it did. -/
def ivalMeetsSpec : ChangeSpec := { name := "ivalMeets", fn := fun _ => fun
  | [d1, d2, d3] => { results := [.lit (.bool true)], args := [d1, d2, d3] }
  | _ => none }
def ivalMeetsRow : OpenClaim := { program := "ytecgialgahcabaa", sum := "c4f69ac0710010809d22bf3b31a11c013d5f00dc2191335bca56a6773feb0def", func := "burnish/burnishlaw02.IvalMeets", spec := "ivalMeets", inPlace := ["math.Float64bits", "math.Float64frombits", "math/bits.Add64", "math/bits.Sub64"], unfollowed := true, recurses := true, named := ["math/bits.divideError", "math/bits.overflowError"], apart := false }
def IvalMeetsSaid : Prop := ivalMeetsRow.holds Try.pinned (OpenSpec.ofChange ivalMeetsSpec)

/-- ITS FALSE NEIGHBOUR: 'it returns false'. Refute it at one input. -/
def ivalMeetsWrong : ChangeSpec := { name := "ivalMeets", fn := fun _ => fun
  | [d1, d2, d3] => { results := [.lit (.bool false)], args := [d1, d2, d3] }
  | _ => none }
def IvalMeetsWrongFalsely : Prop := ivalMeetsRow.holds Try.pinned (OpenSpec.ofChange ivalMeetsWrong)

/-- 'burnishlaw02.IvalPi': WHATEVER THE INPUT: true; the input reads as it did. -/
def ivalPiSpec : ChangeSpec := { name := "ivalPi", fn := fun _ => fun
  | [d] => { results := [.lit (.bool true)], args := [d] }
  | _ => none }
def ivalPiRow : OpenClaim := { program := "ytecgialgahcabaa", sum := "c4f69ac0710010809d22bf3b31a11c013d5f00dc2191335bca56a6773feb0def", func := "burnish/burnishlaw02.IvalPi", spec := "ivalPi", inPlace := ["math.Float64bits", "math/bits.Add64", "math/bits.Sub64", "math.Float64frombits"], unfollowed := true, recurses := true, named := ["math/bits.divideError", "math/bits.overflowError"], apart := false }
def IvalPiSaid : Prop := ivalPiRow.holds Try.pinned (OpenSpec.ofChange ivalPiSpec)

/-- ITS FALSE NEIGHBOUR: 'it returns false'. Refute it at one input. -/
def ivalPiWrong : ChangeSpec := { name := "ivalPi", fn := fun _ => fun
  | [d] => { results := [.lit (.bool false)], args := [d] }
  | _ => none }
def IvalPiWrongFalsely : Prop := ivalPiRow.holds Try.pinned (OpenSpec.ofChange ivalPiWrong)

/- THE SECOND FORM. 'bulk': how many values and letters a reading holds, each counted each time it is reached (what is shared counts as often as it is met; a slice's spare places count too). A statement '..UptoSaid' is the law's where the arguments, and the package variables that the reading takes, are together of bulk at most 1048576: NARROWER than '..Said'. Prove '..Said' where nothing that the law and all that it calls make is longer than what came in: it says more and counts as full. Else prove '..UptoSaid'. A law counts once. -/
mutual
def uptoBulk {H : Type} : DataW H → Nat
  | .lit (.string bytes) => bytes.length + 1
  | .lit _ => 1
  | .nil => 1
  | .ptr d => uptoBulk d + 1
  | .slice elems spare => uptoBulkAll elems + uptoBulkAll spare + 1
  | .agg parts => uptoBulkAll parts + 1
  | .iface _ d => uptoBulk d + 1
  | .map entries => uptoBulkEntries entries + 1
  | .held _ => 1
def uptoBulkAll {H : Type} : List (DataW H) → Nat
  | [] => 0
  | d :: r => uptoBulk d + uptoBulkAll r
def uptoBulkEntries {H : Type} : List (Lit × DataW H) → Nat
  | [] => 0
  | x :: r => uptoBulkEntry x + uptoBulkEntries r
def uptoBulkEntry {H : Type} : Lit × DataW H → Nat
  | (.string bytes, d) => bytes.length + uptoBulk d + 1
  | (_, d) => uptoBulk d + 1
 end
def uptoSmall : (H : Type) → List (DataW H) → Bool := fun _ ds => decide (uptoBulkAll ds ≤ 1048576)
def OpenSpec.upto (s : _root_.Go.ChangeSpec) : _root_.Go.OpenSpec := { _root_.Go.OpenSpec.ofChange s with cond := some uptoSmall }

/-- 'burnishlaw01.DirTells', WHERE WHAT IT READS IS OF BULK AT MOST 1048576: true; the input reads as it did. -/
def dirTellsUptoRow : OpenClaim := { program := "ytecgialgahcabaa", sum := "c4f69ac0710010809d22bf3b31a11c013d5f00dc2191335bca56a6773feb0def", func := "burnish/burnishlaw01.DirTells", spec := "dirTells", inPlace := ["math.Float64bits", "math/bits.Add64", "math/bits.Sub64", "math.Float64frombits", "math.FMA", "math.sqrt"], unfollowed := true, recurses := true, named := ["math/bits.divideError", "math/bits.overflowError"], apart := false, narrowed := true }
def DirTellsUptoSaid : Prop := dirTellsUptoRow.holds Try.pinned (OpenSpec.upto dirTellsSpec)

/-- 'burnishlaw01.DirSides', WHERE WHAT IT READS IS OF BULK AT MOST 1048576: true; the input reads as it did. -/
def dirSidesUptoRow : OpenClaim := { program := "ytecgialgahcabaa", sum := "c4f69ac0710010809d22bf3b31a11c013d5f00dc2191335bca56a6773feb0def", func := "burnish/burnishlaw01.DirSides", spec := "dirSides", inPlace := ["math.Float64bits", "math.Float64frombits", "math/bits.Add64", "math/bits.Sub64", "math.sqrt"], unfollowed := true, recurses := true, named := ["math/bits.divideError", "math/bits.overflowError"], apart := false, narrowed := true }
def DirSidesUptoSaid : Prop := dirSidesUptoRow.holds Try.pinned (OpenSpec.upto dirSidesSpec)

/-- 'burnishlaw01.DirSums', WHERE WHAT IT READS IS OF BULK AT MOST 1048576: true; the input reads as it did. -/
def dirSumsUptoRow : OpenClaim := { program := "ytecgialgahcabaa", sum := "c4f69ac0710010809d22bf3b31a11c013d5f00dc2191335bca56a6773feb0def", func := "burnish/burnishlaw01.DirSums", spec := "dirSums", inPlace := ["math.Float64bits", "math/bits.Add64", "math/bits.Sub64", "math.Float64frombits"], unfollowed := true, recurses := true, named := ["math/bits.divideError", "math/bits.overflowError"], apart := false, narrowed := true }
def DirSumsUptoSaid : Prop := dirSumsUptoRow.holds Try.pinned (OpenSpec.upto dirSumsSpec)

/-- 'burnishlaw01.DirParts', WHERE WHAT IT READS IS OF BULK AT MOST 1048576: true; the input reads as it did. -/
def dirPartsUptoRow : OpenClaim := { program := "ytecgialgahcabaa", sum := "c4f69ac0710010809d22bf3b31a11c013d5f00dc2191335bca56a6773feb0def", func := "burnish/burnishlaw01.DirParts", spec := "dirParts", inPlace := ["math.Float64bits", "math.Float64frombits", "math/bits.Add64", "math/bits.Sub64"], unfollowed := true, recurses := true, named := ["math/bits.divideError", "math/bits.overflowError"], apart := false, narrowed := true }
def DirPartsUptoSaid : Prop := dirPartsUptoRow.holds Try.pinned (OpenSpec.upto dirPartsSpec)

/-- 'burnishlaw01.DirGrows', WHERE WHAT IT READS IS OF BULK AT MOST 1048576: true; the input reads as it did. -/
def dirGrowsUptoRow : OpenClaim := { program := "ytecgialgahcabaa", sum := "c4f69ac0710010809d22bf3b31a11c013d5f00dc2191335bca56a6773feb0def", func := "burnish/burnishlaw01.DirGrows", spec := "dirGrows", inPlace := ["math.Float64bits", "math.Float64frombits", "math/bits.Add64", "math/bits.Sub64"], unfollowed := true, recurses := true, named := ["math/bits.divideError", "math/bits.overflowError"], apart := false, narrowed := true }
def DirGrowsUptoSaid : Prop := dirGrowsUptoRow.holds Try.pinned (OpenSpec.upto dirGrowsSpec)

/-- 'burnishlaw01.DirNext', WHERE WHAT IT READS IS OF BULK AT MOST 1048576: true; the input reads as it did. -/
def dirNextUptoRow : OpenClaim := { program := "ytecgialgahcabaa", sum := "c4f69ac0710010809d22bf3b31a11c013d5f00dc2191335bca56a6773feb0def", func := "burnish/burnishlaw01.DirNext", spec := "dirNext", inPlace := ["math.Float64bits", "math/bits.Add64", "math/bits.Sub64", "math.Float64frombits"], unfollowed := true, recurses := true, named := ["math/bits.divideError", "math/bits.overflowError"], apart := false, narrowed := true }
def DirNextUptoSaid : Prop := dirNextUptoRow.holds Try.pinned (OpenSpec.upto dirNextSpec)

/-- 'burnishlaw02.IvalHolds', WHERE WHAT IT READS IS OF BULK AT MOST 1048576: true; the input reads as it did. -/
def ivalHoldsUptoRow : OpenClaim := { program := "ytecgialgahcabaa", sum := "c4f69ac0710010809d22bf3b31a11c013d5f00dc2191335bca56a6773feb0def", func := "burnish/burnishlaw02.IvalHolds", spec := "ivalHolds", inPlace := ["math.Float64bits", "math.Float64frombits", "math/bits.Add64", "math/bits.Sub64"], unfollowed := true, recurses := true, named := ["math/bits.divideError", "math/bits.overflowError"], apart := false, narrowed := true }
def IvalHoldsUptoSaid : Prop := ivalHoldsUptoRow.holds Try.pinned (OpenSpec.upto ivalHoldsSpec)

/-- 'burnishlaw02.IvalLess', WHERE WHAT IT READS IS OF BULK AT MOST 1048576: true; the input reads as it did. -/
def ivalLessUptoRow : OpenClaim := { program := "ytecgialgahcabaa", sum := "c4f69ac0710010809d22bf3b31a11c013d5f00dc2191335bca56a6773feb0def", func := "burnish/burnishlaw02.IvalLess", spec := "ivalLess", inPlace := ["math.Float64bits", "math.Float64frombits", "math/bits.Add64", "math/bits.Sub64"], unfollowed := true, recurses := true, named := ["math/bits.divideError", "math/bits.overflowError"], apart := false, narrowed := true }
def IvalLessUptoSaid : Prop := ivalLessUptoRow.holds Try.pinned (OpenSpec.upto ivalLessSpec)

/-- 'burnishlaw02.IvalStays', WHERE WHAT IT READS IS OF BULK AT MOST 1048576: true; the input reads as it did. -/
def ivalStaysUptoRow : OpenClaim := { program := "ytecgialgahcabaa", sum := "c4f69ac0710010809d22bf3b31a11c013d5f00dc2191335bca56a6773feb0def", func := "burnish/burnishlaw02.IvalStays", spec := "ivalStays", inPlace := ["math.Float64bits", "math/bits.Add64", "math/bits.Sub64", "math.Float64frombits"], unfollowed := true, recurses := true, named := ["math/bits.divideError", "math/bits.overflowError"], apart := false, narrowed := true }
def IvalStaysUptoSaid : Prop := ivalStaysUptoRow.holds Try.pinned (OpenSpec.upto ivalStaysSpec)

/-- 'burnishlaw02.IvalMeets', WHERE WHAT IT READS IS OF BULK AT MOST 1048576: true; the input reads as it did. -/
def ivalMeetsUptoRow : OpenClaim := { program := "ytecgialgahcabaa", sum := "c4f69ac0710010809d22bf3b31a11c013d5f00dc2191335bca56a6773feb0def", func := "burnish/burnishlaw02.IvalMeets", spec := "ivalMeets", inPlace := ["math.Float64bits", "math.Float64frombits", "math/bits.Add64", "math/bits.Sub64"], unfollowed := true, recurses := true, named := ["math/bits.divideError", "math/bits.overflowError"], apart := false, narrowed := true }
def IvalMeetsUptoSaid : Prop := ivalMeetsUptoRow.holds Try.pinned (OpenSpec.upto ivalMeetsSpec)

/-- 'burnishlaw02.IvalPi', WHERE WHAT IT READS IS OF BULK AT MOST 1048576: true; the input reads as it did. -/
def ivalPiUptoRow : OpenClaim := { program := "ytecgialgahcabaa", sum := "c4f69ac0710010809d22bf3b31a11c013d5f00dc2191335bca56a6773feb0def", func := "burnish/burnishlaw02.IvalPi", spec := "ivalPi", inPlace := ["math.Float64bits", "math/bits.Add64", "math/bits.Sub64", "math.Float64frombits"], unfollowed := true, recurses := true, named := ["math/bits.divideError", "math/bits.overflowError"], apart := false, narrowed := true }
def IvalPiUptoSaid : Prop := ivalPiUptoRow.holds Try.pinned (OpenSpec.upto ivalPiSpec)

end Rows
end Go.Proofs.Ytecgialgahcabaa
