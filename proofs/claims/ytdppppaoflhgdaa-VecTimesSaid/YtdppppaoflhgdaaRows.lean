/-
  No cell of these rows narrows 'for every input' (looked for: loops, veiled, ifaces, maps, wideKeys, modest, calm, conditions, laid).
  DERIVED. THE GIVEN ROWS OF THIS SEAT. 5 by the template 'for every input the law returns true; each argument reads behind the call as it read before'; 0 by the template 'total and deterministic' (their statements: YtdppppaoflhgdaaTotals.lean).
  GIVEN WITH THE SEED: the statements are not yours to turn. If you find one false, say at which input.
  Laid BY PROGRAM, IN A SANDBOX (cutbox-rows.mjs): the forced cells as the released guide's own fill.sh prints them over the translation cbc670b8bf754a79… (all of the seat's roots in one cut). By AI agents, Wed Nov 11 2026. No macro, syntax, notation, axiom, sorry.
-/
import Derived.Test.YtdppppaoflhgdaaChecked
import GoSem.Claim
import GoSem.ClaimJoined
import GoSem.ClaimMapViews
import Derived.JoinedTies
import Derived.KernelRfl
namespace Go.Proofs.Ytdppppaoflhgdaa
/- THE CELL 'sum', in the pinned program and in every row, IS THE sha256 OF THE DUMP (.gsa) THAT YtdppppaoflhgdaaProg.lean LOADS. Nothing in Lean hashes anything: it is a label: what it is worth is what the hold of that sum in a sandbox is worth. -/
noncomputable def Try.pinned : Pinned := { name := "ytdppppaoflhgdaa", sum := "cbc670b8bf754a7950dde9bef3f22e0ec41f1e3565bac0221161126f6dcc3dfb", checked := Try.checked }
namespace Rows
def none {H : Type} : Left H := { results := [], args := [] }

/-- 'burnishlaw05.VecTimes': WHATEVER THE INPUT: true; the input reads as it did. -/
def vecTimesSpec : ChangeSpec := { name := "vecTimes", fn := fun _ => fun
  | [d1, d2] => { results := [.lit (.bool true)], args := [d1, d2] }
  | _ => none }
def vecTimesRow : OpenClaim := { program := "ytdppppaoflhgdaa", sum := "cbc670b8bf754a7950dde9bef3f22e0ec41f1e3565bac0221161126f6dcc3dfb", func := "burnish/burnishlaw05.VecTimes", spec := "vecTimes", inPlace := ["math.Float64bits", "math.Float64frombits", "math/bits.Add64", "math/bits.Sub64"], unfollowed := true, recurses := true, named := ["math/bits.divideError", "math/bits.overflowError"], apart := false }
def VecTimesSaid : Prop := vecTimesRow.holds Try.pinned (OpenSpec.ofChange vecTimesSpec)

/-- ITS FALSE NEIGHBOUR: 'it returns false'. Refute it at one input. -/
def vecTimesWrong : ChangeSpec := { name := "vecTimes", fn := fun _ => fun
  | [d1, d2] => { results := [.lit (.bool false)], args := [d1, d2] }
  | _ => none }
def VecTimesWrongFalsely : Prop := vecTimesRow.holds Try.pinned (OpenSpec.ofChange vecTimesWrong)

/-- 'burnishlaw09.GgxOnce': WHATEVER THE INPUT: true; the input reads as it did. -/
def ggxOnceSpec : ChangeSpec := { name := "ggxOnce", fn := fun _ => fun
  | [d1, d2, d3] => { results := [.lit (.bool true)], args := [d1, d2, d3] }
  | _ => none }
def ggxOnceRow : OpenClaim := { program := "ytdppppaoflhgdaa", sum := "cbc670b8bf754a7950dde9bef3f22e0ec41f1e3565bac0221161126f6dcc3dfb", func := "burnish/burnishlaw09.GgxOnce", spec := "ggxOnce", inPlace := ["math.Float64bits", "math.Float64frombits", "math/bits.Add64", "math/bits.Sub64"], unfollowed := true, recurses := true, named := ["math/bits.divideError", "math/bits.overflowError"], apart := false }
def GgxOnceSaid : Prop := ggxOnceRow.holds Try.pinned (OpenSpec.ofChange ggxOnceSpec)

/-- ITS FALSE NEIGHBOUR: 'it returns false'. Refute it at one input. -/
def ggxOnceWrong : ChangeSpec := { name := "ggxOnce", fn := fun _ => fun
  | [d1, d2, d3] => { results := [.lit (.bool false)], args := [d1, d2, d3] }
  | _ => none }
def GgxOnceWrongFalsely : Prop := ggxOnceRow.holds Try.pinned (OpenSpec.ofChange ggxOnceWrong)

/-- 'burnishlaw09.GgxHides': WHATEVER THE INPUT: true; the input reads as it did. -/
def ggxHidesSpec : ChangeSpec := { name := "ggxHides", fn := fun _ => fun
  | [d1, d2, d3] => { results := [.lit (.bool true)], args := [d1, d2, d3] }
  | _ => none }
def ggxHidesRow : OpenClaim := { program := "ytdppppaoflhgdaa", sum := "cbc670b8bf754a7950dde9bef3f22e0ec41f1e3565bac0221161126f6dcc3dfb", func := "burnish/burnishlaw09.GgxHides", spec := "ggxHides", inPlace := ["math.Float64bits", "math.Float64frombits", "math/bits.Add64", "math/bits.Sub64"], unfollowed := true, recurses := true, named := ["math/bits.divideError", "math/bits.overflowError"], apart := false }
def GgxHidesSaid : Prop := ggxHidesRow.holds Try.pinned (OpenSpec.ofChange ggxHidesSpec)

/-- ITS FALSE NEIGHBOUR: 'it returns false'. Refute it at one input. -/
def ggxHidesWrong : ChangeSpec := { name := "ggxHides", fn := fun _ => fun
  | [d1, d2, d3] => { results := [.lit (.bool false)], args := [d1, d2, d3] }
  | _ => none }
def GgxHidesWrongFalsely : Prop := ggxHidesRow.holds Try.pinned (OpenSpec.ofChange ggxHidesWrong)

/-- 'burnishlaw09.GgxWithin': WHATEVER THE INPUT: true; the input reads as it did. -/
def ggxWithinSpec : ChangeSpec := { name := "ggxWithin", fn := fun _ => fun
  | [d1, d2] => { results := [.lit (.bool true)], args := [d1, d2] }
  | _ => none }
def ggxWithinRow : OpenClaim := { program := "ytdppppaoflhgdaa", sum := "cbc670b8bf754a7950dde9bef3f22e0ec41f1e3565bac0221161126f6dcc3dfb", func := "burnish/burnishlaw09.GgxWithin", spec := "ggxWithin", inPlace := ["math.Float64bits", "math.Float64frombits", "math/bits.Add64", "math/bits.Sub64"], unfollowed := true, recurses := true, named := ["math/bits.divideError", "math/bits.overflowError"], apart := false }
def GgxWithinSaid : Prop := ggxWithinRow.holds Try.pinned (OpenSpec.ofChange ggxWithinSpec)

/-- ITS FALSE NEIGHBOUR: 'it returns false'. Refute it at one input. -/
def ggxWithinWrong : ChangeSpec := { name := "ggxWithin", fn := fun _ => fun
  | [d1, d2] => { results := [.lit (.bool false)], args := [d1, d2] }
  | _ => none }
def GgxWithinWrongFalsely : Prop := ggxWithinRow.holds Try.pinned (OpenSpec.ofChange ggxWithinWrong)

/-- 'burnishlaw09.GgxFlat': WHATEVER THE INPUT: true; the input reads as it did. -/
def ggxFlatSpec : ChangeSpec := { name := "ggxFlat", fn := fun _ => fun
  | [d1, d2] => { results := [.lit (.bool true)], args := [d1, d2] }
  | _ => none }
def ggxFlatRow : OpenClaim := { program := "ytdppppaoflhgdaa", sum := "cbc670b8bf754a7950dde9bef3f22e0ec41f1e3565bac0221161126f6dcc3dfb", func := "burnish/burnishlaw09.GgxFlat", spec := "ggxFlat", inPlace := ["math.Float64bits", "math.Float64frombits", "math/bits.Add64", "math/bits.Sub64"], unfollowed := true, recurses := true, named := ["math/bits.divideError", "math/bits.overflowError"], apart := false }
def GgxFlatSaid : Prop := ggxFlatRow.holds Try.pinned (OpenSpec.ofChange ggxFlatSpec)

/-- ITS FALSE NEIGHBOUR: 'it returns false'. Refute it at one input. -/
def ggxFlatWrong : ChangeSpec := { name := "ggxFlat", fn := fun _ => fun
  | [d1, d2] => { results := [.lit (.bool false)], args := [d1, d2] }
  | _ => none }
def GgxFlatWrongFalsely : Prop := ggxFlatRow.holds Try.pinned (OpenSpec.ofChange ggxFlatWrong)

/- THE SECOND FORM. 'bulk': how many values and letters a reading holds, each counted each time it is reached (what is shared counts as often as it is met; a slice's spare places count too). A statement '..UptoSaid' is the law's where the arguments, and the package variables that the reading takes, are together of bulk at most 1048576: NARROWER than '..Said'. Prove '..Said' where nothing that the law and all that it calls make is longer than what came in: it says more and counts as full. Else prove '..UptoSaid'. A law counts once. -/
mutual
def uptoBulk {H : Type} : DataW H → Nat
  | .lit (.string bytes) => bytes.length + 1
  | .lit _ => 1
  | .nil => 1
  | .ptr d => uptoBulk d + 1
  | .slice elems spare => uptoBulkAll elems + uptoBulkAll spare + 1
  | .agg parts => uptoBulkAll parts + 1
  | .iface _ d => uptoBulk d + 1
  | .map entries => uptoBulkEntries entries + 1
  | .held _ => 1
def uptoBulkAll {H : Type} : List (DataW H) → Nat
  | [] => 0
  | d :: r => uptoBulk d + uptoBulkAll r
def uptoBulkEntries {H : Type} : List (Lit × DataW H) → Nat
  | [] => 0
  | x :: r => uptoBulkEntry x + uptoBulkEntries r
def uptoBulkEntry {H : Type} : Lit × DataW H → Nat
  | (.string bytes, d) => bytes.length + uptoBulk d + 1
  | (_, d) => uptoBulk d + 1
 end
def uptoSmall : (H : Type) → List (DataW H) → Bool := fun _ ds => decide (uptoBulkAll ds ≤ 1048576)
def OpenSpec.upto (s : _root_.Go.ChangeSpec) : _root_.Go.OpenSpec := { _root_.Go.OpenSpec.ofChange s with cond := some uptoSmall }

/-- 'burnishlaw05.VecTimes', WHERE WHAT IT READS IS OF BULK AT MOST 1048576: true; the input reads as it did. -/
def vecTimesUptoRow : OpenClaim := { program := "ytdppppaoflhgdaa", sum := "cbc670b8bf754a7950dde9bef3f22e0ec41f1e3565bac0221161126f6dcc3dfb", func := "burnish/burnishlaw05.VecTimes", spec := "vecTimes", inPlace := ["math.Float64bits", "math.Float64frombits", "math/bits.Add64", "math/bits.Sub64"], unfollowed := true, recurses := true, named := ["math/bits.divideError", "math/bits.overflowError"], apart := false, narrowed := true }
def VecTimesUptoSaid : Prop := vecTimesUptoRow.holds Try.pinned (OpenSpec.upto vecTimesSpec)

/-- 'burnishlaw09.GgxOnce', WHERE WHAT IT READS IS OF BULK AT MOST 1048576: true; the input reads as it did. -/
def ggxOnceUptoRow : OpenClaim := { program := "ytdppppaoflhgdaa", sum := "cbc670b8bf754a7950dde9bef3f22e0ec41f1e3565bac0221161126f6dcc3dfb", func := "burnish/burnishlaw09.GgxOnce", spec := "ggxOnce", inPlace := ["math.Float64bits", "math.Float64frombits", "math/bits.Add64", "math/bits.Sub64"], unfollowed := true, recurses := true, named := ["math/bits.divideError", "math/bits.overflowError"], apart := false, narrowed := true }
def GgxOnceUptoSaid : Prop := ggxOnceUptoRow.holds Try.pinned (OpenSpec.upto ggxOnceSpec)

/-- 'burnishlaw09.GgxHides', WHERE WHAT IT READS IS OF BULK AT MOST 1048576: true; the input reads as it did. -/
def ggxHidesUptoRow : OpenClaim := { program := "ytdppppaoflhgdaa", sum := "cbc670b8bf754a7950dde9bef3f22e0ec41f1e3565bac0221161126f6dcc3dfb", func := "burnish/burnishlaw09.GgxHides", spec := "ggxHides", inPlace := ["math.Float64bits", "math.Float64frombits", "math/bits.Add64", "math/bits.Sub64"], unfollowed := true, recurses := true, named := ["math/bits.divideError", "math/bits.overflowError"], apart := false, narrowed := true }
def GgxHidesUptoSaid : Prop := ggxHidesUptoRow.holds Try.pinned (OpenSpec.upto ggxHidesSpec)

/-- 'burnishlaw09.GgxWithin', WHERE WHAT IT READS IS OF BULK AT MOST 1048576: true; the input reads as it did. -/
def ggxWithinUptoRow : OpenClaim := { program := "ytdppppaoflhgdaa", sum := "cbc670b8bf754a7950dde9bef3f22e0ec41f1e3565bac0221161126f6dcc3dfb", func := "burnish/burnishlaw09.GgxWithin", spec := "ggxWithin", inPlace := ["math.Float64bits", "math.Float64frombits", "math/bits.Add64", "math/bits.Sub64"], unfollowed := true, recurses := true, named := ["math/bits.divideError", "math/bits.overflowError"], apart := false, narrowed := true }
def GgxWithinUptoSaid : Prop := ggxWithinUptoRow.holds Try.pinned (OpenSpec.upto ggxWithinSpec)

/-- 'burnishlaw09.GgxFlat', WHERE WHAT IT READS IS OF BULK AT MOST 1048576: true; the input reads as it did. -/
def ggxFlatUptoRow : OpenClaim := { program := "ytdppppaoflhgdaa", sum := "cbc670b8bf754a7950dde9bef3f22e0ec41f1e3565bac0221161126f6dcc3dfb", func := "burnish/burnishlaw09.GgxFlat", spec := "ggxFlat", inPlace := ["math.Float64bits", "math.Float64frombits", "math/bits.Add64", "math/bits.Sub64"], unfollowed := true, recurses := true, named := ["math/bits.divideError", "math/bits.overflowError"], apart := false, narrowed := true }
def GgxFlatUptoSaid : Prop := ggxFlatUptoRow.holds Try.pinned (OpenSpec.upto ggxFlatSpec)

end Rows
end Go.Proofs.Ytdppppaoflhgdaa
