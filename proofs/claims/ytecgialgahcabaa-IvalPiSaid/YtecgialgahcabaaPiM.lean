/- What the law IvalPi works out, round by round: plain functions, worked out by the kernel. -/
import Derived.Test.YtecgialgahcabaaAwkB
namespace Go.Proofs.Ytecgialgahcabaa
open Go.RowKit

def w1W : Nat := 4607182418800017408
def w2W : Nat := 4611686018427387904
def w4W : Nat := 4616189618054758400

/-- One round: the square of the next side, with what comes up on the way. -/
def rA (s : Res) : Res := stepI 0 (ivR w4W w4W && ivR s.lo s.hi) (subI w4W w4W s.lo s.hi)
def rB (s : Res) : Res := stepI 0 (ivR (rA s).lo (rA s).hi) (sqrtI (rA s).lo (rA s).hi)
def rC (s : Res) : Res := stepI 0 (ivR w2W w2W && ivR (rB s).lo (rB s).hi) (addI w2W w2W (rB s).lo (rB s).hi)
def rD (s : Res) : Res := stepI 0 (ivR s.lo s.hi && ivR (rC s).lo (rC s).hi) (divI s.lo s.hi (rC s).lo (rC s).hi)
def sideR : Nat → Res
  | 0 => ⟨0, w1W, w1W⟩
  | k + 1 => rD (sideR k)
/-- How many sides, as a word. -/
def sidesW (k : Nat) : Nat := 4618441417868443648 + k * 4503599627370496
def small (r : Res) : Bool := decide (r.e = 0) && decide (r.lo < 18446744073709551616) && decide (r.hi < 18446744073709551616)
def roundOk (k : Nat) : Bool := small (rA (sideR k)) && small (rB (sideR k)) && small (rC (sideR k)) && small (rD (sideR k)) && decide (floatBits .mul .f64 (sidesW k) w2W = some (sidesW (k + 1)))

/-- Behind the loop. -/
def eA (k : Nat) : Res := stepI 0 true (ofI (sidesW k))
def eB (s : Res) : Res := stepI 0 (ivR s.lo s.hi) (sqrtI s.lo s.hi)
def eC (k : Nat) (s : Res) : Res := stepI 0 (ivR (eA k).lo (eA k).hi && ivR (eB s).lo (eB s).hi) (mulI (eA k).lo (eA k).hi (eB s).lo (eB s).hi)
def eD (k : Nat) (s : Res) : Res := stepI 0 (ivR (eC k s).lo (eC k s).hi && ivR w2W w2W) (divI (eC k s).lo (eC k s).hi w2W w2W)
def fA (s : Res) : Res := stepI 0 (ivR s.lo s.hi && ivR w4W w4W) (divI s.lo s.hi w4W w4W)
def fB (s : Res) : Res := stepI 0 (ivR w1W w1W && ivR (fA s).lo (fA s).hi) (subI w1W w1W (fA s).lo (fA s).hi)
def fC (s : Res) : Res := stepI 0 (ivR (fB s).lo (fB s).hi) (sqrtI (fB s).lo (fB s).hi)
def gA (k : Nat) (s : Res) : Res := stepI 0 (ivR (eD k s).lo (eD k s).hi && ivR (fC s).lo (fC s).hi) (divI (eD k s).lo (eD k s).hi (fC s).lo (fC s).hi)
def endOk (k : Nat) : Bool := small (eA k) && small (eB (sideR k)) && small (eC k (sideR k)) && small (eD k (sideR k)) && small (fA (sideR k)) && small (fB (sideR k)) && small (fC (sideR k)) && small (gA k (sideR k)) &&
  rawLe (eD k (sideR k)).lo 4614256656552045849 && ((FloatKind.f64.format.order (gA k (sideR k)).hi 4614256656552045848 == some Ordering.gt) || (FloatKind.f64.format.order (gA k (sideR k)).hi 4614256656552045848 == some Ordering.eq)) &&
  (decide (k < 12) || match floatBits .sub .f64 (gA k (sideR k)).hi (eD k (sideR k)).lo with | some r => FloatKind.f64.format.order r 4517329193108106637 == some Ordering.lt | none => false)

theorem rounds_ok : ∀ k, k < 20 → roundOk k = true := by decide +kernel
theorem ends_ok : ∀ k, k < 21 → endOk k = true := by decide +kernel

end Go.Proofs.Ytecgialgahcabaa
