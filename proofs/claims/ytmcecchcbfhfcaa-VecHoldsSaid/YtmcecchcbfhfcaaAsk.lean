
/- Law file 2: what an op, asked of a calculator, answers: Op.Asked. -/
import Derived.Test.YtmcecchcbfhfcaaAwkB
namespace Go.Proofs.Ytmcecchcbfhfcaa
open Go.RowKit
attribute [local go_sem] run_store_float

/-- What the op number j answers, and what must be right for it. -/
def askI (al ah bl bh : Nat) : Nat → Res
  | 0 => addI al ah bl bh | 1 => subI al ah bl bh | 2 => mulI al ah bl bh | 3 => divI al ah bl bh | 4 => minI al ah bl bh | 5 => maxI al ah bl bh
  | 6 => sqrI al ah | 7 => sqrtI al ah | 8 => negI al ah | 9 => absI al ah | _ => ofI al
def askB (al ah bl bh : Nat) : Nat → Bool
  | 0 => ivR al ah && ivR bl bh | 1 => ivR al ah && ivR bl bh | 2 => ivR al ah && ivR bl bh | 3 => ivR al ah && ivR bl bh | 4 => ivR al ah && ivR bl bh | 5 => ivR al ah && ivR bl bh
  | 6 => ivR al ah | 7 => ivR al ah | 8 => ivR al ah | 9 => ivR al ah | _ => true
def askR (e : Int) (al ah bl bh j : Nat) : Res := stepI e (askB al ah bl bh j) (askI al ah bl bh j)

end Go.Proofs.Ytmcecchcbfhfcaa
