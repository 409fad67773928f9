/-
  No cell of these rows narrows 'for every input' (looked for: loops, veiled, ifaces, maps, wideKeys, modest, calm, conditions, laid).
  DERIVED. THE GIVEN ROWS OF THIS SEAT. 9 by the template 'for every input the law returns true; each argument reads behind the call as it read before'; 0 by the template 'total and deterministic' (their statements: YtddgcdpmnfdpdaaTotals.lean).
  GIVEN WITH THE SEED: the statements are not yours to turn. If you find one false, say at which input.
  Laid BY PROGRAM, IN A SANDBOX (cutbox-rows.mjs): the forced cells as the released guide's own fill.sh prints them over the translation 01c2a20049699fe3… (all of the seat's roots in one cut). By AI agents, Wed Nov 11 2026. No macro, syntax, notation, axiom, sorry.
-/
import Derived.Test.YtddgcdpmnfdpdaaChecked
import GoSem.Claim
import GoSem.ClaimJoined
import GoSem.ClaimMapViews
import Derived.JoinedTies
import Derived.KernelRfl
namespace Go.Proofs.Ytddgcdpmnfdpdaa
/- THE CELL 'sum', in the pinned program and in every row, IS THE sha256 OF THE DUMP (.gsa) THAT YtddgcdpmnfdpdaaProg.lean LOADS. Nothing in Lean hashes anything: it is a label: what it is worth is what the hold of that sum in a sandbox is worth. -/
noncomputable def Try.pinned : Pinned := { name := "ytddgcdpmnfdpdaa", sum := "01c2a20049699fe391ac154626185f79dd373f2b5d3a97b0b4572572bb6401d5", checked := Try.checked }
namespace Rows
def none {H : Type} : Left H := { results := [], args := [] }

/-- 'burnishlaw01.DirTells': WHATEVER THE INPUT: true; the input reads as it did. -/
def dirTellsSpec : ChangeSpec := { name := "dirTells", fn := fun _ => fun
  | [d1, d2, d3] => { results := [.lit (.bool true)], args := [d1, d2, d3] }
  | _ => none }
def dirTellsRow : OpenClaim := { program := "ytddgcdpmnfdpdaa", sum := "01c2a20049699fe391ac154626185f79dd373f2b5d3a97b0b4572572bb6401d5", func := "burnish/burnishlaw01.DirTells", spec := "dirTells", inPlace := ["math.Float64bits", "math/bits.Add64", "math/bits.Sub64", "math.Float64frombits", "math.FMA", "math.sqrt"], unfollowed := true, recurses := true, named := ["math/bits.divideError", "math/bits.overflowError"], apart := false }
def DirTellsSaid : Prop := dirTellsRow.holds Try.pinned (OpenSpec.ofChange dirTellsSpec)

/-- ITS FALSE NEIGHBOUR: 'it returns false'. Refute it at one input. -/
def dirTellsWrong : ChangeSpec := { name := "dirTells", fn := fun _ => fun
  | [d1, d2, d3] => { results := [.lit (.bool false)], args := [d1, d2, d3] }
  | _ => none }
def DirTellsWrongFalsely : Prop := dirTellsRow.holds Try.pinned (OpenSpec.ofChange dirTellsWrong)

/-- 'burnishlaw01.DirSides': WHATEVER THE INPUT: true; the input reads as it did. -/
def dirSidesSpec : ChangeSpec := { name := "dirSides", fn := fun _ => fun
  | [d1, d2] => { results := [.lit (.bool true)], args := [d1, d2] }
  | _ => none }
def dirSidesRow : OpenClaim := { program := "ytddgcdpmnfdpdaa", sum := "01c2a20049699fe391ac154626185f79dd373f2b5d3a97b0b4572572bb6401d5", func := "burnish/burnishlaw01.DirSides", spec := "dirSides", inPlace := ["math.Float64bits", "math.Float64frombits", "math/bits.Add64", "math/bits.Sub64", "math.sqrt"], unfollowed := true, recurses := true, named := ["math/bits.divideError", "math/bits.overflowError"], apart := false }
def DirSidesSaid : Prop := dirSidesRow.holds Try.pinned (OpenSpec.ofChange dirSidesSpec)

/-- ITS FALSE NEIGHBOUR: 'it returns false'. Refute it at one input. -/
def dirSidesWrong : ChangeSpec := { name := "dirSides", fn := fun _ => fun
  | [d1, d2] => { results := [.lit (.bool false)], args := [d1, d2] }
  | _ => none }
def DirSidesWrongFalsely : Prop := dirSidesRow.holds Try.pinned (OpenSpec.ofChange dirSidesWrong)

/-- 'burnishlaw02.IvalHolds': WHATEVER THE INPUT: true; the input reads as it did. -/
def ivalHoldsSpec : ChangeSpec := { name := "ivalHolds", fn := fun _ => fun
  | [d1, d2, d3] => { results := [.lit (.bool true)], args := [d1, d2, d3] }
  | _ => none }
def ivalHoldsRow : OpenClaim := { program := "ytddgcdpmnfdpdaa", sum := "01c2a20049699fe391ac154626185f79dd373f2b5d3a97b0b4572572bb6401d5", func := "burnish/burnishlaw02.IvalHolds", spec := "ivalHolds", inPlace := ["math.Float64bits", "math.Float64frombits", "math/bits.Add64", "math/bits.Sub64"], unfollowed := true, recurses := true, named := ["math/bits.divideError", "math/bits.overflowError"], apart := false }
def IvalHoldsSaid : Prop := ivalHoldsRow.holds Try.pinned (OpenSpec.ofChange ivalHoldsSpec)

/-- ITS FALSE NEIGHBOUR: 'it returns false'. Refute it at one input. -/
def ivalHoldsWrong : ChangeSpec := { name := "ivalHolds", fn := fun _ => fun
  | [d1, d2, d3] => { results := [.lit (.bool false)], args := [d1, d2, d3] }
  | _ => none }
def IvalHoldsWrongFalsely : Prop := ivalHoldsRow.holds Try.pinned (OpenSpec.ofChange ivalHoldsWrong)

/-- 'burnishlaw02.IvalLess': WHATEVER THE INPUT: true; the input reads as it did. -/
def ivalLessSpec : ChangeSpec := { name := "ivalLess", fn := fun _ => fun
  | [d1, d2, d3, d4, d5] => { results := [.lit (.bool true)], args := [d1, d2, d3, d4, d5] }
  | _ => none }
def ivalLessRow : OpenClaim := { program := "ytddgcdpmnfdpdaa", sum := "01c2a20049699fe391ac154626185f79dd373f2b5d3a97b0b4572572bb6401d5", func := "burnish/burnishlaw02.IvalLess", spec := "ivalLess", inPlace := ["math.Float64bits", "math.Float64frombits", "math/bits.Add64", "math/bits.Sub64"], unfollowed := true, recurses := true, named := ["math/bits.divideError", "math/bits.overflowError"], apart := false }
def IvalLessSaid : Prop := ivalLessRow.holds Try.pinned (OpenSpec.ofChange ivalLessSpec)

/-- ITS FALSE NEIGHBOUR: 'it returns false'. Refute it at one input. -/
def ivalLessWrong : ChangeSpec := { name := "ivalLess", fn := fun _ => fun
  | [d1, d2, d3, d4, d5] => { results := [.lit (.bool false)], args := [d1, d2, d3, d4, d5] }
  | _ => none }
def IvalLessWrongFalsely : Prop := ivalLessRow.holds Try.pinned (OpenSpec.ofChange ivalLessWrong)

/-- 'burnishlaw02.IvalStays': WHATEVER THE INPUT: true; the input reads as it did. -/
def ivalStaysSpec : ChangeSpec := { name := "ivalStays", fn := fun _ => fun
  | [d] => { results := [.lit (.bool true)], args := [d] }
  | _ => none }
def ivalStaysRow : OpenClaim := { program := "ytddgcdpmnfdpdaa", sum := "01c2a20049699fe391ac154626185f79dd373f2b5d3a97b0b4572572bb6401d5", func := "burnish/burnishlaw02.IvalStays", spec := "ivalStays", inPlace := ["math.Float64bits", "math/bits.Add64", "math/bits.Sub64", "math.Float64frombits"], unfollowed := true, recurses := true, named := ["math/bits.divideError", "math/bits.overflowError"], apart := false }
def IvalStaysSaid : Prop := ivalStaysRow.holds Try.pinned (OpenSpec.ofChange ivalStaysSpec)

/-- ITS FALSE NEIGHBOUR: 'it returns false'. Refute it at one input. -/
def ivalStaysWrong : ChangeSpec := { name := "ivalStays", fn := fun _ => fun
  | [d] => { results := [.lit (.bool false)], args := [d] }
  | _ => none }
def IvalStaysWrongFalsely : Prop := ivalStaysRow.holds Try.pinned (OpenSpec.ofChange ivalStaysWrong)

/-- 'burnishlaw03.UnitTells': WHATEVER THE INPUT: true; the input reads as it did. -/
def unitTellsSpec : ChangeSpec := { name := "unitTells", fn := fun _ => fun
  | [d1, d2] => { results := [.lit (.bool true)], args := [d1, d2] }
  | _ => none }
def unitTellsRow : OpenClaim := { program := "ytddgcdpmnfdpdaa", sum := "01c2a20049699fe391ac154626185f79dd373f2b5d3a97b0b4572572bb6401d5", func := "burnish/burnishlaw03.UnitTells", spec := "unitTells", inPlace := ["math.Float64bits", "math.Float64frombits", "math/bits.Add64", "math/bits.Sub64"], unfollowed := true, recurses := true, named := ["math/bits.divideError", "math/bits.overflowError"], apart := false }
def UnitTellsSaid : Prop := unitTellsRow.holds Try.pinned (OpenSpec.ofChange unitTellsSpec)

/-- ITS FALSE NEIGHBOUR: 'it returns false'. Refute it at one input. -/
def unitTellsWrong : ChangeSpec := { name := "unitTells", fn := fun _ => fun
  | [d1, d2] => { results := [.lit (.bool false)], args := [d1, d2] }
  | _ => none }
def UnitTellsWrongFalsely : Prop := unitTellsRow.holds Try.pinned (OpenSpec.ofChange unitTellsWrong)

/-- 'burnishlaw03.UnitOf': WHATEVER THE INPUT: true; the input reads as it did. -/
def unitOfSpec : ChangeSpec := { name := "unitOf", fn := fun _ => fun
  | [d1, d2] => { results := [.lit (.bool true)], args := [d1, d2] }
  | _ => none }
def unitOfRow : OpenClaim := { program := "ytddgcdpmnfdpdaa", sum := "01c2a20049699fe391ac154626185f79dd373f2b5d3a97b0b4572572bb6401d5", func := "burnish/burnishlaw03.UnitOf", spec := "unitOf", inPlace := ["math.Float64bits", "math/bits.Add64", "math/bits.Sub64", "math.Float64frombits"], unfollowed := true, recurses := true, named := ["math/bits.divideError", "math/bits.overflowError"], apart := false }
def UnitOfSaid : Prop := unitOfRow.holds Try.pinned (OpenSpec.ofChange unitOfSpec)

/-- ITS FALSE NEIGHBOUR: 'it returns false'. Refute it at one input. -/
def unitOfWrong : ChangeSpec := { name := "unitOf", fn := fun _ => fun
  | [d1, d2] => { results := [.lit (.bool false)], args := [d1, d2] }
  | _ => none }
def UnitOfWrongFalsely : Prop := unitOfRow.holds Try.pinned (OpenSpec.ofChange unitOfWrong)

/-- 'burnishlaw03.UnitSides': WHATEVER THE INPUT: true; the input reads as it did. -/
def unitSidesSpec : ChangeSpec := { name := "unitSides", fn := fun _ => fun
  | [d1, d2] => { results := [.lit (.bool true)], args := [d1, d2] }
  | _ => none }
def unitSidesRow : OpenClaim := { program := "ytddgcdpmnfdpdaa", sum := "01c2a20049699fe391ac154626185f79dd373f2b5d3a97b0b4572572bb6401d5", func := "burnish/burnishlaw03.UnitSides", spec := "unitSides", inPlace := ["math.Float64bits", "math.Float64frombits", "math/bits.Add64", "math/bits.Sub64"], unfollowed := true, recurses := true, named := ["math/bits.divideError", "math/bits.overflowError"], apart := false }
def UnitSidesSaid : Prop := unitSidesRow.holds Try.pinned (OpenSpec.ofChange unitSidesSpec)

/-- ITS FALSE NEIGHBOUR: 'it returns false'. Refute it at one input. -/
def unitSidesWrong : ChangeSpec := { name := "unitSides", fn := fun _ => fun
  | [d1, d2] => { results := [.lit (.bool false)], args := [d1, d2] }
  | _ => none }
def UnitSidesWrongFalsely : Prop := unitSidesRow.holds Try.pinned (OpenSpec.ofChange unitSidesWrong)

/-- 'burnishlaw03.UnitLeft': WHATEVER THE INPUT: true; the input reads as it did. -/
def unitLeftSpec : ChangeSpec := { name := "unitLeft", fn := fun _ => fun
  | [d1, d2, d3] => { results := [.lit (.bool true)], args := [d1, d2, d3] }
  | _ => none }
def unitLeftRow : OpenClaim := { program := "ytddgcdpmnfdpdaa", sum := "01c2a20049699fe391ac154626185f79dd373f2b5d3a97b0b4572572bb6401d5", func := "burnish/burnishlaw03.UnitLeft", spec := "unitLeft", inPlace := ["math.Float64bits", "math.Float64frombits", "math/bits.Add64", "math/bits.Sub64"], unfollowed := true, recurses := true, named := ["math/bits.divideError", "math/bits.overflowError"], apart := false }
def UnitLeftSaid : Prop := unitLeftRow.holds Try.pinned (OpenSpec.ofChange unitLeftSpec)

/-- ITS FALSE NEIGHBOUR: 'it returns false'. Refute it at one input. -/
def unitLeftWrong : ChangeSpec := { name := "unitLeft", fn := fun _ => fun
  | [d1, d2, d3] => { results := [.lit (.bool false)], args := [d1, d2, d3] }
  | _ => none }
def UnitLeftWrongFalsely : Prop := unitLeftRow.holds Try.pinned (OpenSpec.ofChange unitLeftWrong)

/- THE SECOND FORM. 'bulk': how many values and letters a reading holds, each counted each time it is reached (what is shared counts as often as it is met; a slice's spare places count too). A statement '..UptoSaid' is the law's where the arguments, and the package variables that the reading takes, are together of bulk at most 1048576: NARROWER than '..Said'. Prove '..Said' where nothing that the law and all that it calls make is longer than what came in: it says more and counts as full. Else prove '..UptoSaid'. A law counts once. -/
mutual
def uptoBulk {H : Type} : DataW H → Nat
  | .lit (.string bytes) => bytes.length + 1
  | .lit _ => 1
  | .nil => 1
  | .ptr d => uptoBulk d + 1
  | .slice elems spare => uptoBulkAll elems + uptoBulkAll spare + 1
  | .agg parts => uptoBulkAll parts + 1
  | .iface _ d => uptoBulk d + 1
  | .map entries => uptoBulkEntries entries + 1
  | .held _ => 1
def uptoBulkAll {H : Type} : List (DataW H) → Nat
  | [] => 0
  | d :: r => uptoBulk d + uptoBulkAll r
def uptoBulkEntries {H : Type} : List (Lit × DataW H) → Nat
  | [] => 0
  | x :: r => uptoBulkEntry x + uptoBulkEntries r
def uptoBulkEntry {H : Type} : Lit × DataW H → Nat
  | (.string bytes, d) => bytes.length + uptoBulk d + 1
  | (_, d) => uptoBulk d + 1
 end
def uptoSmall : (H : Type) → List (DataW H) → Bool := fun _ ds => decide (uptoBulkAll ds ≤ 1048576)
def OpenSpec.upto (s : _root_.Go.ChangeSpec) : _root_.Go.OpenSpec := { _root_.Go.OpenSpec.ofChange s with cond := some uptoSmall }

/-- 'burnishlaw01.DirTells', WHERE WHAT IT READS IS OF BULK AT MOST 1048576: true; the input reads as it did. -/
def dirTellsUptoRow : OpenClaim := { program := "ytddgcdpmnfdpdaa", sum := "01c2a20049699fe391ac154626185f79dd373f2b5d3a97b0b4572572bb6401d5", func := "burnish/burnishlaw01.DirTells", spec := "dirTells", inPlace := ["math.Float64bits", "math/bits.Add64", "math/bits.Sub64", "math.Float64frombits", "math.FMA", "math.sqrt"], unfollowed := true, recurses := true, named := ["math/bits.divideError", "math/bits.overflowError"], apart := false, narrowed := true }
def DirTellsUptoSaid : Prop := dirTellsUptoRow.holds Try.pinned (OpenSpec.upto dirTellsSpec)

/-- 'burnishlaw01.DirSides', WHERE WHAT IT READS IS OF BULK AT MOST 1048576: true; the input reads as it did. -/
def dirSidesUptoRow : OpenClaim := { program := "ytddgcdpmnfdpdaa", sum := "01c2a20049699fe391ac154626185f79dd373f2b5d3a97b0b4572572bb6401d5", func := "burnish/burnishlaw01.DirSides", spec := "dirSides", inPlace := ["math.Float64bits", "math.Float64frombits", "math/bits.Add64", "math/bits.Sub64", "math.sqrt"], unfollowed := true, recurses := true, named := ["math/bits.divideError", "math/bits.overflowError"], apart := false, narrowed := true }
def DirSidesUptoSaid : Prop := dirSidesUptoRow.holds Try.pinned (OpenSpec.upto dirSidesSpec)

/-- 'burnishlaw02.IvalHolds', WHERE WHAT IT READS IS OF BULK AT MOST 1048576: true; the input reads as it did. -/
def ivalHoldsUptoRow : OpenClaim := { program := "ytddgcdpmnfdpdaa", sum := "01c2a20049699fe391ac154626185f79dd373f2b5d3a97b0b4572572bb6401d5", func := "burnish/burnishlaw02.IvalHolds", spec := "ivalHolds", inPlace := ["math.Float64bits", "math.Float64frombits", "math/bits.Add64", "math/bits.Sub64"], unfollowed := true, recurses := true, named := ["math/bits.divideError", "math/bits.overflowError"], apart := false, narrowed := true }
def IvalHoldsUptoSaid : Prop := ivalHoldsUptoRow.holds Try.pinned (OpenSpec.upto ivalHoldsSpec)

/-- 'burnishlaw02.IvalLess', WHERE WHAT IT READS IS OF BULK AT MOST 1048576: true; the input reads as it did. -/
def ivalLessUptoRow : OpenClaim := { program := "ytddgcdpmnfdpdaa", sum := "01c2a20049699fe391ac154626185f79dd373f2b5d3a97b0b4572572bb6401d5", func := "burnish/burnishlaw02.IvalLess", spec := "ivalLess", inPlace := ["math.Float64bits", "math.Float64frombits", "math/bits.Add64", "math/bits.Sub64"], unfollowed := true, recurses := true, named := ["math/bits.divideError", "math/bits.overflowError"], apart := false, narrowed := true }
def IvalLessUptoSaid : Prop := ivalLessUptoRow.holds Try.pinned (OpenSpec.upto ivalLessSpec)

/-- 'burnishlaw02.IvalStays', WHERE WHAT IT READS IS OF BULK AT MOST 1048576: true; the input reads as it did. -/
def ivalStaysUptoRow : OpenClaim := { program := "ytddgcdpmnfdpdaa", sum := "01c2a20049699fe391ac154626185f79dd373f2b5d3a97b0b4572572bb6401d5", func := "burnish/burnishlaw02.IvalStays", spec := "ivalStays", inPlace := ["math.Float64bits", "math/bits.Add64", "math/bits.Sub64", "math.Float64frombits"], unfollowed := true, recurses := true, named := ["math/bits.divideError", "math/bits.overflowError"], apart := false, narrowed := true }
def IvalStaysUptoSaid : Prop := ivalStaysUptoRow.holds Try.pinned (OpenSpec.upto ivalStaysSpec)

/-- 'burnishlaw03.UnitTells', WHERE WHAT IT READS IS OF BULK AT MOST 1048576: true; the input reads as it did. -/
def unitTellsUptoRow : OpenClaim := { program := "ytddgcdpmnfdpdaa", sum := "01c2a20049699fe391ac154626185f79dd373f2b5d3a97b0b4572572bb6401d5", func := "burnish/burnishlaw03.UnitTells", spec := "unitTells", inPlace := ["math.Float64bits", "math.Float64frombits", "math/bits.Add64", "math/bits.Sub64"], unfollowed := true, recurses := true, named := ["math/bits.divideError", "math/bits.overflowError"], apart := false, narrowed := true }
def UnitTellsUptoSaid : Prop := unitTellsUptoRow.holds Try.pinned (OpenSpec.upto unitTellsSpec)

/-- 'burnishlaw03.UnitOf', WHERE WHAT IT READS IS OF BULK AT MOST 1048576: true; the input reads as it did. -/
def unitOfUptoRow : OpenClaim := { program := "ytddgcdpmnfdpdaa", sum := "01c2a20049699fe391ac154626185f79dd373f2b5d3a97b0b4572572bb6401d5", func := "burnish/burnishlaw03.UnitOf", spec := "unitOf", inPlace := ["math.Float64bits", "math/bits.Add64", "math/bits.Sub64", "math.Float64frombits"], unfollowed := true, recurses := true, named := ["math/bits.divideError", "math/bits.overflowError"], apart := false, narrowed := true }
def UnitOfUptoSaid : Prop := unitOfUptoRow.holds Try.pinned (OpenSpec.upto unitOfSpec)

/-- 'burnishlaw03.UnitSides', WHERE WHAT IT READS IS OF BULK AT MOST 1048576: true; the input reads as it did. -/
def unitSidesUptoRow : OpenClaim := { program := "ytddgcdpmnfdpdaa", sum := "01c2a20049699fe391ac154626185f79dd373f2b5d3a97b0b4572572bb6401d5", func := "burnish/burnishlaw03.UnitSides", spec := "unitSides", inPlace := ["math.Float64bits", "math.Float64frombits", "math/bits.Add64", "math/bits.Sub64"], unfollowed := true, recurses := true, named := ["math/bits.divideError", "math/bits.overflowError"], apart := false, narrowed := true }
def UnitSidesUptoSaid : Prop := unitSidesUptoRow.holds Try.pinned (OpenSpec.upto unitSidesSpec)

/-- 'burnishlaw03.UnitLeft', WHERE WHAT IT READS IS OF BULK AT MOST 1048576: true; the input reads as it did. -/
def unitLeftUptoRow : OpenClaim := { program := "ytddgcdpmnfdpdaa", sum := "01c2a20049699fe391ac154626185f79dd373f2b5d3a97b0b4572572bb6401d5", func := "burnish/burnishlaw03.UnitLeft", spec := "unitLeft", inPlace := ["math.Float64bits", "math.Float64frombits", "math/bits.Add64", "math/bits.Sub64"], unfollowed := true, recurses := true, named := ["math/bits.divideError", "math/bits.overflowError"], apart := false, narrowed := true }
def UnitLeftUptoSaid : Prop := unitLeftUptoRow.holds Try.pinned (OpenSpec.upto unitLeftSpec)

end Rows
end Go.Proofs.Ytddgcdpmnfdpdaa
