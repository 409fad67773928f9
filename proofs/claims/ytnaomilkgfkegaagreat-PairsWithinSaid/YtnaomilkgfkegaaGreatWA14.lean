/- What the claim stands on, part 15: QFB. -/
import Derived.Test.YtnaomilkgfkegaaGreatWA13
set_option maxHeartbeats 16000000
set_option maxRecDepth 100000
namespace Go.Proofs.YtnaomilkgfkegaaGreat
section
open Go.RowKit
attribute [local go_sem] run_store_float
def dielJ6 (w:World) (pb:Nat) (r2l r2h r3l r3h r4l r4h r5l r5h r6l r6h:Nat) (l:RowL) (a0:Act) (k:Nat) (p:List (Option Nat)) (a:Act) (v:World):Prop:=
 ∃ y1 y2 y3 y4 y5 z1:Value,a=((((((a0.put (some 26) y1).put (some 28) y2).put (some 30) y3).put (some 31) y4).put (some 32) y5).put (some 9) z1)∧(0 < k→y1 = .agg #[r2l,r2h])∧(1 < k→y2 = .agg #[r3l,r3h])∧(2 < k→y3 = .agg #[r4l,r4h])∧(3 < k→y4 = .agg #[r5l,r5h])∧(4 < k→y5 = .agg #[r6l,r6h])∧(∀ q,p[0]? = some (some q)→z1 = .pointer (some ⟨q,0,none⟩))∧OwnF w ((pb,#[true]) :: l) [#[(),()]] p v
section
variable {w v:World} {pb:Nat} {r2l r2h r3l r3h r4l r4h r5l r5h r6l r6h:Nat} {l:RowL} {a0 a:Act} {p:List (Option Nat)}
theorem dielJ6_0 (h:dielJ6 w pb r2l r2h r3l r3h r4l r4h r5l r5h r6l r6h l a0 0 p a v):∃ y1 y2 y3 y4 y5 z1:Value,a=((((((a0.put (some 26) y1).put (some 28) y2).put (some 30) y3).put (some 31) y4).put (some 32) y5).put (some 9) z1)∧(∀ q,p[0]? = some (some q)→z1 = .pointer (some ⟨q,0,none⟩))∧OwnF w ((pb,#[true]) :: l) [#[(),()]] p v:=by
 obtain⟨y1,y2,y3,y4,y5,z1,ha,E1,E2,E3,E4,E5,G1,h⟩:=h;exact ⟨y1,y2,y3,y4,y5,z1,ha,G1,h⟩
theorem dielJ6_1 (h:dielJ6 w pb r2l r2h r3l r3h r4l r4h r5l r5h r6l r6h l a0 1 p a v):∃ y2 y3 y4 y5 z1:Value,a=((((((a0.put (some 26) (.agg #[r2l,r2h])).put (some 28) y2).put (some 30) y3).put (some 31) y4).put (some 32) y5).put (some 9) z1)∧(∀ q,p[0]? = some (some q)→z1 = .pointer (some ⟨q,0,none⟩))∧OwnF w ((pb,#[true]) :: l) [#[(),()]] p v:=by
 obtain⟨y1,y2,y3,y4,y5,z1,ha,E1,E2,E3,E4,E5,G1,h⟩:=h;obtain rfl:=E1 (by decide);exact ⟨y2,y3,y4,y5,z1,ha,G1,h⟩
theorem dielJ6_2 (h:dielJ6 w pb r2l r2h r3l r3h r4l r4h r5l r5h r6l r6h l a0 2 p a v):∃ y3 y4 y5 z1:Value,a=((((((a0.put (some 26) (.agg #[r2l,r2h])).put (some 28) (.agg #[r3l,r3h])).put (some 30) y3).put (some 31) y4).put (some 32) y5).put (some 9) z1)∧(∀ q,p[0]? = some (some q)→z1 = .pointer (some ⟨q,0,none⟩))∧OwnF w ((pb,#[true]) :: l) [#[(),()]] p v:=by
 obtain⟨y1,y2,y3,y4,y5,z1,ha,E1,E2,E3,E4,E5,G1,h⟩:=h;obtain rfl:=E1 (by decide);obtain rfl:=E2 (by decide);exact ⟨y3,y4,y5,z1,ha,G1,h⟩
theorem dielJ6_3 (h:dielJ6 w pb r2l r2h r3l r3h r4l r4h r5l r5h r6l r6h l a0 3 p a v):∃ y4 y5 z1:Value,a=((((((a0.put (some 26) (.agg #[r2l,r2h])).put (some 28) (.agg #[r3l,r3h])).put (some 30) (.agg #[r4l,r4h])).put (some 31) y4).put (some 32) y5).put (some 9) z1)∧(∀ q,p[0]? = some (some q)→z1 = .pointer (some ⟨q,0,none⟩))∧OwnF w ((pb,#[true]) :: l) [#[(),()]] p v:=by
 obtain⟨y1,y2,y3,y4,y5,z1,ha,E1,E2,E3,E4,E5,G1,h⟩:=h;obtain rfl:=E1 (by decide);obtain rfl:=E2 (by decide);obtain rfl:=E3 (by decide);exact ⟨y4,y5,z1,ha,G1,h⟩
theorem dielJ6_4 (h:dielJ6 w pb r2l r2h r3l r3h r4l r4h r5l r5h r6l r6h l a0 4 p a v):∃ y5 z1:Value,a=((((((a0.put (some 26) (.agg #[r2l,r2h])).put (some 28) (.agg #[r3l,r3h])).put (some 30) (.agg #[r4l,r4h])).put (some 31) (.agg #[r5l,r5h])).put (some 32) y5).put (some 9) z1)∧(∀ q,p[0]? = some (some q)→z1 = .pointer (some ⟨q,0,none⟩))∧OwnF w ((pb,#[true]) :: l) [#[(),()]] p v:=by
 obtain⟨y1,y2,y3,y4,y5,z1,ha,E1,E2,E3,E4,E5,G1,h⟩:=h;obtain rfl:=E1 (by decide);obtain rfl:=E2 (by decide);obtain rfl:=E3 (by decide);obtain rfl:=E4 (by decide);exact ⟨y5,z1,ha,G1,h⟩
theorem dielJ6_fin {q1:Nat} (h:dielJ6 w pb r2l r2h r3l r3h r4l r4h r5l r5h r6l r6h l a0 5 [some q1] a v):a=((((((a0.put (some 26) (.agg #[r2l,r2h])).put (some 28) (.agg #[r3l,r3h])).put (some 30) (.agg #[r4l,r4h])).put (some 31) (.agg #[r5l,r5h])).put (some 32) (.agg #[r6l,r6h])).put (some 9) (.pointer (some ⟨q1,0,none⟩)))∧OwnF w ((pb,#[true]) :: l) [#[(),()]] [some q1] v:=by
 obtain⟨y1,y2,y3,y4,y5,z1,ha,E1,E2,E3,E4,E5,G1,h⟩:=h;obtain rfl:=E1 (by decide);obtain rfl:=E2 (by decide);obtain rfl:=E3 (by decide);obtain rfl:=E4 (by decide);obtain rfl:=E5 (by decide);obtain rfl:=G1 _ rfl;exact ⟨ha,h⟩
end
def dielJ7 (w:World) (pb:Nat) (r7l r7h r8l r8h:Nat) (l:RowL) (a0:Act) (k:Nat) (p:List (Option Nat)) (a:Act) (v:World):Prop:=
 ∃ y1 y2 z1 z2:Value,a=((((a0.put (some 35) y1).put (some 38) y2).put (some 10) z1).put (some 11) z2)∧(0 < k→y1 = .agg #[r7l,r7h])∧(1 < k→y2 = .agg #[r8l,r8h])∧(∀ q,p[0]? = some (some q)→z1 = .pointer (some ⟨q,0,none⟩))∧(∀ q,p[1]? = some (some q)→z2 = .pointer (some ⟨q,0,none⟩))∧OwnF w ((pb,#[true]) :: l) [#[(),()],#[(),()]] p v
section
variable {w v:World} {pb:Nat} {r7l r7h r8l r8h:Nat} {l:RowL} {a0 a:Act} {p:List (Option Nat)}
theorem dielJ7_0 (h:dielJ7 w pb r7l r7h r8l r8h l a0 0 p a v):∃ y1 y2 z1 z2:Value,a=((((a0.put (some 35) y1).put (some 38) y2).put (some 10) z1).put (some 11) z2)∧(∀ q,p[0]? = some (some q)→z1 = .pointer (some ⟨q,0,none⟩))∧(∀ q,p[1]? = some (some q)→z2 = .pointer (some ⟨q,0,none⟩))∧OwnF w ((pb,#[true]) :: l) [#[(),()],#[(),()]] p v:=by
 obtain⟨y1,y2,z1,z2,ha,E1,E2,G1,G2,h⟩:=h;exact ⟨y1,y2,z1,z2,ha,G1,G2,h⟩
theorem dielJ7_1 (h:dielJ7 w pb r7l r7h r8l r8h l a0 1 p a v):∃ y2 z1 z2:Value,a=((((a0.put (some 35) (.agg #[r7l,r7h])).put (some 38) y2).put (some 10) z1).put (some 11) z2)∧(∀ q,p[0]? = some (some q)→z1 = .pointer (some ⟨q,0,none⟩))∧(∀ q,p[1]? = some (some q)→z2 = .pointer (some ⟨q,0,none⟩))∧OwnF w ((pb,#[true]) :: l) [#[(),()],#[(),()]] p v:=by
 obtain⟨y1,y2,z1,z2,ha,E1,E2,G1,G2,h⟩:=h;obtain rfl:=E1 (by decide);exact ⟨y2,z1,z2,ha,G1,G2,h⟩
theorem dielJ7_fin {q1 q2:Nat} (h:dielJ7 w pb r7l r7h r8l r8h l a0 2 [some q1,some q2] a v):a=((((a0.put (some 35) (.agg #[r7l,r7h])).put (some 38) (.agg #[r8l,r8h])).put (some 10) (.pointer (some ⟨q1,0,none⟩))).put (some 11) (.pointer (some ⟨q2,0,none⟩)))∧OwnF w ((pb,#[true]) :: l) [#[(),()],#[(),()]] [some q1,some q2] v:=by
 obtain⟨y1,y2,z1,z2,ha,E1,E2,G1,G2,h⟩:=h;obtain rfl:=E1 (by decide);obtain rfl:=E2 (by decide);obtain rfl:=G1 _ rfl;obtain rfl:=G2 _ rfl;exact ⟨ha,h⟩
end
def dielJ9 (w:World) (pb:Nat) (r11l r11h r12l r12h r13l r13h r14l r14h r15l r15h r16l r16h:Nat) (l:RowL) (a0:Act) (k:Nat) (p:List (Option Nat)) (a:Act) (v:World):Prop:=
 ∃ y1 y2 y3 y4 y5 y6 z1:Value,a=(((((((a0.put (some 45) y1).put (some 47) y2).put (some 50) y3).put (some 52) y4).put (some 53) y5).put (some 54) y6).put (some 13) z1)∧(0 < k→y1 = .agg #[r11l,r11h])∧(1 < k→y2 = .agg #[r12l,r12h])∧(2 < k→y3 = .agg #[r13l,r13h])∧(3 < k→y4 = .agg #[r14l,r14h])∧(4 < k→y5 = .agg #[r15l,r15h])∧(5 < k→y6 = .agg #[r16l,r16h])∧(∀ q,p[0]? = some (some q)→z1 = .pointer (some ⟨q,0,none⟩))∧OwnF w ((pb,#[true]) :: l) [#[(),()]] p v
section
variable {w v:World} {pb:Nat} {r11l r11h r12l r12h r13l r13h r14l r14h r15l r15h r16l r16h:Nat} {l:RowL} {a0 a:Act} {p:List (Option Nat)}
theorem dielJ9_0 (h:dielJ9 w pb r11l r11h r12l r12h r13l r13h r14l r14h r15l r15h r16l r16h l a0 0 p a v):∃ y1 y2 y3 y4 y5 y6 z1:Value,a=(((((((a0.put (some 45) y1).put (some 47) y2).put (some 50) y3).put (some 52) y4).put (some 53) y5).put (some 54) y6).put (some 13) z1)∧(∀ q,p[0]? = some (some q)→z1 = .pointer (some ⟨q,0,none⟩))∧OwnF w ((pb,#[true]) :: l) [#[(),()]] p v:=by
 obtain⟨y1,y2,y3,y4,y5,y6,z1,ha,E1,E2,E3,E4,E5,E6,G1,h⟩:=h;exact ⟨y1,y2,y3,y4,y5,y6,z1,ha,G1,h⟩
theorem dielJ9_1 (h:dielJ9 w pb r11l r11h r12l r12h r13l r13h r14l r14h r15l r15h r16l r16h l a0 1 p a v):∃ y2 y3 y4 y5 y6 z1:Value,a=(((((((a0.put (some 45) (.agg #[r11l,r11h])).put (some 47) y2).put (some 50) y3).put (some 52) y4).put (some 53) y5).put (some 54) y6).put (some 13) z1)∧(∀ q,p[0]? = some (some q)→z1 = .pointer (some ⟨q,0,none⟩))∧OwnF w ((pb,#[true]) :: l) [#[(),()]] p v:=by
 obtain⟨y1,y2,y3,y4,y5,y6,z1,ha,E1,E2,E3,E4,E5,E6,G1,h⟩:=h;obtain rfl:=E1 (by decide);exact ⟨y2,y3,y4,y5,y6,z1,ha,G1,h⟩
theorem dielJ9_2 (h:dielJ9 w pb r11l r11h r12l r12h r13l r13h r14l r14h r15l r15h r16l r16h l a0 2 p a v):∃ y3 y4 y5 y6 z1:Value,a=(((((((a0.put (some 45) (.agg #[r11l,r11h])).put (some 47) (.agg #[r12l,r12h])).put (some 50) y3).put (some 52) y4).put (some 53) y5).put (some 54) y6).put (some 13) z1)∧(∀ q,p[0]? = some (some q)→z1 = .pointer (some ⟨q,0,none⟩))∧OwnF w ((pb,#[true]) :: l) [#[(),()]] p v:=by
 obtain⟨y1,y2,y3,y4,y5,y6,z1,ha,E1,E2,E3,E4,E5,E6,G1,h⟩:=h;obtain rfl:=E1 (by decide);obtain rfl:=E2 (by decide);exact ⟨y3,y4,y5,y6,z1,ha,G1,h⟩
theorem dielJ9_3 (h:dielJ9 w pb r11l r11h r12l r12h r13l r13h r14l r14h r15l r15h r16l r16h l a0 3 p a v):∃ y4 y5 y6 z1:Value,a=(((((((a0.put (some 45) (.agg #[r11l,r11h])).put (some 47) (.agg #[r12l,r12h])).put (some 50) (.agg #[r13l,r13h])).put (some 52) y4).put (some 53) y5).put (some 54) y6).put (some 13) z1)∧(∀ q,p[0]? = some (some q)→z1 = .pointer (some ⟨q,0,none⟩))∧OwnF w ((pb,#[true]) :: l) [#[(),()]] p v:=by
 obtain⟨y1,y2,y3,y4,y5,y6,z1,ha,E1,E2,E3,E4,E5,E6,G1,h⟩:=h;obtain rfl:=E1 (by decide);obtain rfl:=E2 (by decide);obtain rfl:=E3 (by decide);exact ⟨y4,y5,y6,z1,ha,G1,h⟩
theorem dielJ9_4 (h:dielJ9 w pb r11l r11h r12l r12h r13l r13h r14l r14h r15l r15h r16l r16h l a0 4 p a v):∃ y5 y6 z1:Value,a=(((((((a0.put (some 45) (.agg #[r11l,r11h])).put (some 47) (.agg #[r12l,r12h])).put (some 50) (.agg #[r13l,r13h])).put (some 52) (.agg #[r14l,r14h])).put (some 53) y5).put (some 54) y6).put (some 13) z1)∧(∀ q,p[0]? = some (some q)→z1 = .pointer (some ⟨q,0,none⟩))∧OwnF w ((pb,#[true]) :: l) [#[(),()]] p v:=by
 obtain⟨y1,y2,y3,y4,y5,y6,z1,ha,E1,E2,E3,E4,E5,E6,G1,h⟩:=h;obtain rfl:=E1 (by decide);obtain rfl:=E2 (by decide);obtain rfl:=E3 (by decide);obtain rfl:=E4 (by decide);exact ⟨y5,y6,z1,ha,G1,h⟩
theorem dielJ9_5 (h:dielJ9 w pb r11l r11h r12l r12h r13l r13h r14l r14h r15l r15h r16l r16h l a0 5 p a v):∃ y6 z1:Value,a=(((((((a0.put (some 45) (.agg #[r11l,r11h])).put (some 47) (.agg #[r12l,r12h])).put (some 50) (.agg #[r13l,r13h])).put (some 52) (.agg #[r14l,r14h])).put (some 53) (.agg #[r15l,r15h])).put (some 54) y6).put (some 13) z1)∧(∀ q,p[0]? = some (some q)→z1 = .pointer (some ⟨q,0,none⟩))∧OwnF w ((pb,#[true]) :: l) [#[(),()]] p v:=by
 obtain⟨y1,y2,y3,y4,y5,y6,z1,ha,E1,E2,E3,E4,E5,E6,G1,h⟩:=h;obtain rfl:=E1 (by decide);obtain rfl:=E2 (by decide);obtain rfl:=E3 (by decide);obtain rfl:=E4 (by decide);obtain rfl:=E5 (by decide);exact ⟨y6,z1,ha,G1,h⟩
theorem dielJ9_fin {q1:Nat} (h:dielJ9 w pb r11l r11h r12l r12h r13l r13h r14l r14h r15l r15h r16l r16h l a0 6 [some q1] a v):a=(((((((a0.put (some 45) (.agg #[r11l,r11h])).put (some 47) (.agg #[r12l,r12h])).put (some 50) (.agg #[r13l,r13h])).put (some 52) (.agg #[r14l,r14h])).put (some 53) (.agg #[r15l,r15h])).put (some 54) (.agg #[r16l,r16h])).put (some 13) (.pointer (some ⟨q1,0,none⟩)))∧OwnF w ((pb,#[true]) :: l) [#[(),()]] [some q1] v:=by
 obtain⟨y1,y2,y3,y4,y5,y6,z1,ha,E1,E2,E3,E4,E5,E6,G1,h⟩:=h;obtain rfl:=E1 (by decide);obtain rfl:=E2 (by decide);obtain rfl:=E3 (by decide);obtain rfl:=E4 (by decide);obtain rfl:=E5 (by decide);obtain rfl:=E6 (by decide);obtain rfl:=G1 _ rfl;exact ⟨ha,h⟩
end
def dielJ10 (w:World) (pb:Nat) (r18l r18h r19l r19h r20l r20h r21l r21h:Nat) (l:RowL) (a0:Act) (k:Nat) (p:List (Option Nat)) (a:Act) (v:World):Prop:=
 ∃ y1 y2 y3 y4 y5 y6:Value,a=((((((a0.put (some 55) y1).put (some 57) y2).put (some 60) y3).put (some 61) y4).put (some 62) y5).put (some 63) y6)∧(0 < k→y1 = .agg #[(4602678819172646912:Nat),(4602678819172646912:Nat)])∧(1 < k→y2 = .agg #[r18l,r18h])∧(2 < k→y3 = .agg #[r19l,r19h])∧(3 < k→y4 = .agg #[r20l,r20h])∧(4 < k→y5 = .agg #[r21l,r21h])∧(5 < k→y6 = .int .i64 0)∧OwnF w ((pb,#[true]) :: l) [] p v
section
variable {w v:World} {pb:Nat} {r18l r18h r19l r19h r20l r20h r21l r21h:Nat} {l:RowL} {a0 a:Act} {p:List (Option Nat)}
theorem dielJ10_0 (h:dielJ10 w pb r18l r18h r19l r19h r20l r20h r21l r21h l a0 0 p a v):∃ y1 y2 y3 y4 y5 y6:Value,a=((((((a0.put (some 55) y1).put (some 57) y2).put (some 60) y3).put (some 61) y4).put (some 62) y5).put (some 63) y6)∧OwnF w ((pb,#[true]) :: l) [] p v:=by
 obtain⟨y1,y2,y3,y4,y5,y6,ha,E1,E2,E3,E4,E5,E6,h⟩:=h;exact ⟨y1,y2,y3,y4,y5,y6,ha,h⟩
theorem dielJ10_1 (h:dielJ10 w pb r18l r18h r19l r19h r20l r20h r21l r21h l a0 1 p a v):∃ y2 y3 y4 y5 y6:Value,a=((((((a0.put (some 55) (.agg #[(4602678819172646912:Nat),(4602678819172646912:Nat)])).put (some 57) y2).put (some 60) y3).put (some 61) y4).put (some 62) y5).put (some 63) y6)∧OwnF w ((pb,#[true]) :: l) [] p v:=by
 obtain⟨y1,y2,y3,y4,y5,y6,ha,E1,E2,E3,E4,E5,E6,h⟩:=h;obtain rfl:=E1 (by decide);exact ⟨y2,y3,y4,y5,y6,ha,h⟩
theorem dielJ10_2 (h:dielJ10 w pb r18l r18h r19l r19h r20l r20h r21l r21h l a0 2 p a v):∃ y3 y4 y5 y6:Value,a=((((((a0.put (some 55) (.agg #[(4602678819172646912:Nat),(4602678819172646912:Nat)])).put (some 57) (.agg #[r18l,r18h])).put (some 60) y3).put (some 61) y4).put (some 62) y5).put (some 63) y6)∧OwnF w ((pb,#[true]) :: l) [] p v:=by
 obtain⟨y1,y2,y3,y4,y5,y6,ha,E1,E2,E3,E4,E5,E6,h⟩:=h;obtain rfl:=E1 (by decide);obtain rfl:=E2 (by decide);exact ⟨y3,y4,y5,y6,ha,h⟩
theorem dielJ10_3 (h:dielJ10 w pb r18l r18h r19l r19h r20l r20h r21l r21h l a0 3 p a v):∃ y4 y5 y6:Value,a=((((((a0.put (some 55) (.agg #[(4602678819172646912:Nat),(4602678819172646912:Nat)])).put (some 57) (.agg #[r18l,r18h])).put (some 60) (.agg #[r19l,r19h])).put (some 61) y4).put (some 62) y5).put (some 63) y6)∧OwnF w ((pb,#[true]) :: l) [] p v:=by
 obtain⟨y1,y2,y3,y4,y5,y6,ha,E1,E2,E3,E4,E5,E6,h⟩:=h;obtain rfl:=E1 (by decide);obtain rfl:=E2 (by decide);obtain rfl:=E3 (by decide);exact ⟨y4,y5,y6,ha,h⟩
theorem dielJ10_4 (h:dielJ10 w pb r18l r18h r19l r19h r20l r20h r21l r21h l a0 4 p a v):∃ y5 y6:Value,a=((((((a0.put (some 55) (.agg #[(4602678819172646912:Nat),(4602678819172646912:Nat)])).put (some 57) (.agg #[r18l,r18h])).put (some 60) (.agg #[r19l,r19h])).put (some 61) (.agg #[r20l,r20h])).put (some 62) y5).put (some 63) y6)∧OwnF w ((pb,#[true]) :: l) [] p v:=by
 obtain⟨y1,y2,y3,y4,y5,y6,ha,E1,E2,E3,E4,E5,E6,h⟩:=h;obtain rfl:=E1 (by decide);obtain rfl:=E2 (by decide);obtain rfl:=E3 (by decide);obtain rfl:=E4 (by decide);exact ⟨y5,y6,ha,h⟩
theorem dielJ10_5 (h:dielJ10 w pb r18l r18h r19l r19h r20l r20h r21l r21h l a0 5 p a v):∃ y6:Value,a=((((((a0.put (some 55) (.agg #[(4602678819172646912:Nat),(4602678819172646912:Nat)])).put (some 57) (.agg #[r18l,r18h])).put (some 60) (.agg #[r19l,r19h])).put (some 61) (.agg #[r20l,r20h])).put (some 62) (.agg #[r21l,r21h])).put (some 63) y6)∧OwnF w ((pb,#[true]) :: l) [] p v:=by
 obtain⟨y1,y2,y3,y4,y5,y6,ha,E1,E2,E3,E4,E5,E6,h⟩:=h;obtain rfl:=E1 (by decide);obtain rfl:=E2 (by decide);obtain rfl:=E3 (by decide);obtain rfl:=E4 (by decide);obtain rfl:=E5 (by decide);exact ⟨y6,ha,h⟩
theorem dielJ10_fin (h:dielJ10 w pb r18l r18h r19l r19h r20l r20h r21l r21h l a0 6 [] a v):a=((((((a0.put (some 55) (.agg #[(4602678819172646912:Nat),(4602678819172646912:Nat)])).put (some 57) (.agg #[r18l,r18h])).put (some 60) (.agg #[r19l,r19h])).put (some 61) (.agg #[r20l,r20h])).put (some 62) (.agg #[r21l,r21h])).put (some 63) (.int .i64 0))∧OwnF w ((pb,#[true]) :: l) [] [] v:=by
 obtain⟨y1,y2,y3,y4,y5,y6,ha,E1,E2,E3,E4,E5,E6,h⟩:=h;obtain rfl:=E1 (by decide);obtain rfl:=E2 (by decide);obtain rfl:=E3 (by decide);obtain rfl:=E4 (by decide);obtain rfl:=E5 (by decide);obtain rfl:=E6 (by decide);exact ⟨ha,h⟩
end
theorem diel_walk (a0l a0h a1l a1h r2l r2h r3l r3h r4l r4h r5l r5h r6l r6h r7l r7h r8l r8h r9l r9h r10l r10h r11l r11h r12l r12h r13l r13h r14l r14h r15l r15h r16l r16h r18l r18h r19l r19h r20l r20h r21l r21h:Nat) (w:World)
  (cH:Hid (∀ (q:Nat) (v:World),Has1 v (q,#[a0l,a0h,(),(4607182418800017408:Nat),a1l,a1h,(4607463893776728064:Nat),(4616189618054758400:Nat)])→Calls Tryz.prog 201 #[.slice (some ⟨q,0,none⟩) 2 2] v (Rt (.int .i64 0) v)))
  (d1:Hid (KN 35 0 0 4607182418800017408 4607182418800017408 4607182418800017408))
  (d2:Hid (K1 104 0 0 a1l a1h r2l r2h))
  (d3:Hid (K2 34 0 0 r2l r2h 4607182418800017408 4607182418800017408 r3l r3h))
  (d4:Hid (K1 104 0 0 a0l a0h r4l r4h))
  (d5:Hid (K2 103 0 0 r3l r3h r4l r4h r5l r5h))
  (d6:Hid (K1 30 0 0 r5l r5h r6l r6h))
  (d7:Hid (K2 103 0 0 r6l r6h a0l a0h r7l r7h))
  (d8:Hid (K2 34 0 0 r6l r6h a0l a0h r8l r8h))
  (d9:Hid (K2 60 0 0 r8l r8h r7l r7h r9l r9h))
  (d10:Hid (K1 104 0 0 r9l r9h r10l r10h))
  (d11:Hid (K2 32 0 0 a0l a0h r7l r7h r11l r11h))
  (d12:Hid (K2 34 0 0 r11l r11h 4607182418800017408 4607182418800017408 r12l r12h))
  (d13:Hid (K2 32 0 0 a0l a0h r8l r8h r13l r13h))
  (d14:Hid (K2 103 0 0 r13l r13h 4607182418800017408 4607182418800017408 r14l r14h))
  (d15:Hid (K2 60 0 0 r12l r12h r14l r14h r15l r15h))
  (d16:Hid (K1 104 0 0 r15l r15h r16l r16h))
  (d17:Hid (KN 35 0 0 4602678819172646912 4602678819172646912 4602678819172646912))
  (d18:Hid (K2 32 0 0 4602678819172646912 4602678819172646912 r10l r10h r18l r18h))
  (d19:Hid (K2 103 0 0 4607182418800017408 4607182418800017408 r16l r16h r19l r19h))
  (d20:Hid (K2 32 0 0 r18l r18h r19l r19h r20l r20h))
  (d21:Hid (KI 202 r20l r20h r21l r21h)) :
  Calls Tryz.prog 188 #[.agg #[a0l,a0h],.agg #[a1l,a1h]] w (Rt (.tuple #[.agg #[r21l,r21h],true]) w):=by
 have M0:=Hd (((((Own.nil w).made #[a0l,a0h] 31).made #[a1l,a1h] 31).made #[(),()] 31).made #[a0l,a0h,(),(4607182418800017408:Nat),a1l,a1h,(4607463893776728064:Nat),(4616189618054758400:Nat)] 190);simp only [World.size_alloc] at M0;obtain⟨kk0,kk1⟩:=(M0.out.nth 3 rfl).two;obtain⟨kk2,kk3⟩:=(M0.out.nth 2 rfl).two;go_enter Tryz.func188,Tryz.ntmps188;go_wp2_with fail;refine (cH.out _ _ (M0.out.nth 0 rfl)).mono ?_;rintro r w1 ⟨rfl,hb⟩;have M:=Hd ((M0.out.below hb).tail.made #[true] 74);clear hb M0 kk0 kk1 kk2 kk3 cH;go_wp2_with fail;refine (d1.out _ _ ((M.o.nth 0 rfl))).mono ?_;rintro r u1 ⟨rfl,hp⟩;replace M:=Hd (M.o.putHead hp);clear hp;replace M:=Hd (M.o.made #[(4607182418800017408:Nat),(4607182418800017408:Nat)] 31).front;go_upto_region 6 with fail;replace M:=Hd M.o.drew;refine wp_region_noPanic ?_;refine tails_region (S:=fun w'=>(Cf w' (w.heap.size+1) 0 a1l∧Cf w' (w.heap.size+1) 1 a1h)∧(Cf w' u1.heap.size 0 4607182418800017408∧Cf w' u1.heap.size 1 4607182418800017408)∧(Cf w' w.heap.size 0 a0l∧Cf w' w.heap.size 1 a0h)) [] (by kernel_rfl) ?_ (fun hS=>?_)
 ·exact ⟨(M.o.nth 3 rfl).two,(M.o.nth 1 rfl).two,(M.o.nth 4 rfl).two⟩
 refine tk (x:=?_) 0 rfl (by kernel_rfl) ⟨by rfl,?_⟩ (fun _ _ _ h=>h) hS ?_
 rotate_left; focus (intro w hSw; (try dsimp only at hSw); go_simp; try with_reducible rfl)
 refine tk (x:=?_) 2 rfl (by kernel_rfl) ⟨by rfl,?_⟩ (fun _ _ _ h=>h) hS ?_
 rotate_left; focus (intro w hSw; (try dsimp only at hSw); go_simp; try with_reducible rfl)
 refine tk (x:=?_) 4 rfl (by kernel_rfl) ⟨by rfl,?_⟩ (fun _ _ _ h=>h) hS ?_
 rotate_left; focus (intro w hSw; (try dsimp only at hSw); go_simp; try with_reducible rfl)
 conv=>arg 9; simp only [Act.put,go_sem]
 refine lam_5_1 M (T:=[]) 1 3 5 6 7 8 [26,28,30,31,32,9] 1 (dielJ6 w w1.heap.size r2l r2h r3l r3h r4l r4h r5l r5h r6l r6h) (by kernel_rfl) (by kernel_rfl) ?_ ?_ ?_ ?_ ?_ ?_ ?_ ?_ ?_
 ·intro A hA
  obtain⟨y1,hq1⟩:=put_ex (hA 26 (by simp));obtain⟨y2,hq2⟩:=put_ex (hA 28 (by simp));obtain⟨y3,hq3⟩:=put_ex (hA 30 (by simp));obtain⟨y4,hq4⟩:=put_ex (hA 31 (by simp));obtain⟨y5,hq5⟩:=put_ex (hA 32 (by simp));obtain⟨z1,hq6⟩:=put_ex (hA 9 (by simp));exact ⟨y1,y2,y3,y4,y5,z1,by rw [hq1,hq2,hq3,hq4,hq5,hq6],by omega,by omega,by omega,by omega,by omega,by simp,OwnF.start M.out 1⟩
 ·rintro k p a v ⟨y1,y2,y3,y4,y5,z1,_,_,_,_,_,_,_,h⟩
  exact ⟨(h.own.nth 3 rfl).two,(h.own.nth 1 rfl).two,(h.own.nth 4 rfl).two⟩
 ·intro p a v hJ
  refine os fun K hK=>?_
  obtain⟨y1,y2,y3,y4,y5,z1,rfl,gg1,h⟩:=dielJ6_0 hJ;have h:=Hd h;clear hJ;go_simp;refine (d2.out _ _ ((h.out.own.nth 0 rfl))).mono ?_;rintro rr w5 ⟨rfl,hp⟩
  try go_wp2_with fail
  refine hK.out _ _ ⟨_,y2,y3,y4,y5,z1,?_,fun _=>rfl,by omega,by omega,by omega,by omega,gg1,h.out.putHead hp⟩;kernel_rfl
 ·intro p a v hJ
  refine os fun K hK=>?_
  obtain⟨y2,y3,y4,y5,z1,rfl,gg1,h⟩:=dielJ6_1 hJ;have h:=Hd h;clear hJ;go_simp;refine (d3.out _ _ ((h.out.own.nth 0 rfl))).mono ?_;rintro rr w5 ⟨rfl,hp⟩
  try go_wp2_with fail
  refine hK.out _ _ ⟨_,_,y3,y4,y5,z1,?_,fun _=>rfl,fun _=>rfl,by omega,by omega,by omega,gg1,h.out.putHead hp⟩;kernel_rfl
 ·intro p a v hJ
  refine os fun K hK=>?_
  obtain⟨y3,y4,y5,z1,rfl,gg1,h⟩:=dielJ6_2 hJ;have h:=Hd h;clear hJ;go_simp;refine (d4.out _ _ ((h.out.own.nth 0 rfl))).mono ?_;rintro rr w5 ⟨rfl,hp⟩
  try go_wp2_with fail
  refine hK.out _ _ ⟨_,_,_,y4,y5,z1,?_,fun _=>rfl,fun _=>rfl,fun _=>rfl,by omega,by omega,gg1,h.out.putHead hp⟩;kernel_rfl
 ·intro p a v hJ
  refine os fun K hK=>?_
  obtain⟨y4,y5,z1,rfl,gg1,h⟩:=dielJ6_3 hJ;have h:=Hd h;clear hJ;go_simp;refine (d5.out _ _ ((h.out.own.nth 0 rfl))).mono ?_;rintro rr w5 ⟨rfl,hp⟩
  try go_wp2_with fail
  refine hK.out _ _ ⟨_,_,_,_,y5,z1,?_,fun _=>rfl,fun _=>rfl,fun _=>rfl,fun _=>rfl,by omega,gg1,h.out.putHead hp⟩;kernel_rfl
 ·intro p a v hJ
  refine os fun K hK=>?_
  obtain⟨y5,z1,rfl,gg1,h⟩:=dielJ6_4 hJ;have h:=Hd h;clear hJ;go_simp;refine (d6.out _ _ ((h.out.own.nth 0 rfl))).mono ?_;rintro rr w5 ⟨rfl,hp⟩
  try go_wp2_with fail
  refine hK.out _ _ ⟨_,_,_,_,_,z1,?_,fun _=>rfl,fun _=>rfl,fun _=>rfl,fun _=>rfl,fun _=>rfl,gg1,h.out.putHead hp⟩;kernel_rfl
 ·intro k p a v hp hJ
  refine os fun K hK=>?_
  obtain⟨y1,y2,y3,y4,y5,z1,rfl,ee1,ee2,ee3,ee4,ee5,gg1,h⟩:=hJ;have h:=Hd h;go_simp;refine hK.out _ _ ⟨v.heap.size,y1,y2,y3,y4,y5,.pointer (some ⟨v.heap.size,0,none⟩),?_,ee1,ee2,ee3,ee4,ee5,fun q hq=>ptr_set hq,h.out.alloc hp rfl _⟩;kernel_rfl
 intro p2_1 a v hJ;obtain⟨rfl,h⟩:=dielJ6_fin hJ;clear hJ;replace M:=Hd h.fin1;clear h
 refine tn [] 9 fun K hK=>?_
 have kc:=(M.o.nth 0 rfl).2.1;have kf:=(M.o.nth 0 rfl).2.2;replace M:=Hd (M.o.setHead r6l r6h);go_simp;refine hK.out _ _ (Or.inr ⟨(M.o.nth 4 rfl).two,(M.o.nth 2 rfl).two,(M.o.nth 5 rfl).two⟩) (fun hHeld=>?_);clear hK K hHeld kc kf;refine tails_done (by kernel_rfl) ?_ _;refine NoPanic.normal ?_;clear hS;revert M;generalize ((v.setCell ⟨p2_1,0,none⟩ (r6l:Value)).setCell ⟨p2_1,1,none⟩ (r6h:Value))=W;intro M;replace M:=Hd M.o.front;revert M;generalize W=W2;intro M;go_upto_region 7 with fail;replace M:=Hd M.o.drew;refine wp_region_noPanic ?_;refine tails_region (S:=fun w'=>(Cf w' p2_1 0 r6l∧Cf w' p2_1 1 r6h)∧(Cf w' w.heap.size 0 a0l∧Cf w' w.heap.size 1 a0h)) [] (by kernel_rfl) ?_ (fun hS=>?_)
 ·exact ⟨(M.o.nth 1 rfl).two,(M.o.nth 5 rfl).two⟩
 refine tk (x:=?_) 0 rfl (by kernel_rfl) ⟨by rfl,?_⟩ (fun _ _ _ h=>h) hS ?_
 rotate_left; focus (intro w hSw; (try dsimp only at hSw); go_simp; try with_reducible rfl)
 refine tk (x:=?_) 1 rfl (by kernel_rfl) ⟨by rfl,?_⟩ (fun _ _ _ h=>h) hS ?_
 rotate_left; focus (intro w hSw; (try dsimp only at hSw); go_simp; try with_reducible rfl)
 refine tk (x:=?_) 3 rfl (by kernel_rfl) ⟨by rfl,?_⟩ (fun _ _ _ h=>h) hS ?_
 rotate_left; focus (intro w hSw; (try dsimp only at hSw); go_simp; try with_reducible rfl)
 refine tk (x:=?_) 4 rfl (by kernel_rfl) ⟨by rfl,?_⟩ (fun _ _ _ h=>h) hS ?_
 rotate_left; focus (intro w hSw; (try dsimp only at hSw); go_simp; try with_reducible rfl)
 conv=>arg 9; simp only [Act.put,go_sem]
 refine lam_2_2 M (T:=[]) 2 5 6 7 [35,38,10,11] 2 (dielJ7 w w1.heap.size r7l r7h r8l r8h) (by kernel_rfl) (by kernel_rfl) ?_ ?_ ?_ ?_ ?_ ?_ ?_
 ·intro A hA
  obtain⟨y1,hq1⟩:=put_ex (hA 35 (by simp));obtain⟨y2,hq2⟩:=put_ex (hA 38 (by simp));obtain⟨z1,hq3⟩:=put_ex (hA 10 (by simp));obtain⟨z2,hq4⟩:=put_ex (hA 11 (by simp));exact ⟨y1,y2,z1,z2,by rw [hq1,hq2,hq3,hq4],by omega,by omega,by simp,by simp,OwnF.start M.out 2⟩
 ·rintro k p a v ⟨y1,y2,z1,z2,_,_,_,_,_,h⟩
  exact ⟨(h.own.nth 1 rfl).two,(h.own.nth 5 rfl).two⟩
 ·intro p a v hJ
  refine os fun K hK=>?_
  obtain⟨y1,y2,z1,z2,rfl,gg1,gg2,h⟩:=dielJ7_0 hJ;have h:=Hd h;clear hJ;go_simp;refine (d7.out _ _ ((h.out.own.nth 0 rfl))).mono ?_;rintro rr w5 ⟨rfl,hp⟩
  try go_wp2_with fail
  refine hK.out _ _ ⟨_,y2,z1,z2,?_,fun _=>rfl,by omega,gg1,gg2,h.out.putHead hp⟩;kernel_rfl
 ·intro p a v hJ
  refine os fun K hK=>?_
  obtain⟨y2,z1,z2,rfl,gg1,gg2,h⟩:=dielJ7_1 hJ;have h:=Hd h;clear hJ;go_simp;refine (d8.out _ _ ((h.out.own.nth 0 rfl))).mono ?_;rintro rr w5 ⟨rfl,hp⟩
  try go_wp2_with fail
  refine hK.out _ _ ⟨_,_,z1,z2,?_,fun _=>rfl,fun _=>rfl,gg1,gg2,h.out.putHead hp⟩;kernel_rfl
 ·intro k p a v hp hJ
  refine os fun K hK=>?_
  obtain⟨y1,y2,z1,z2,rfl,ee1,ee2,gg1,gg2,h⟩:=hJ;have h:=Hd h;go_simp;refine hK.out _ _ ⟨v.heap.size,y1,y2,.pointer (some ⟨v.heap.size,0,none⟩),z2,?_,ee1,ee2,fun q hq=>ptr_set hq,ptr_keep 1 (by decide) gg2,h.out.alloc hp rfl _⟩;kernel_rfl
 ·intro k p a v hp hJ
  refine os fun K hK=>?_
  obtain⟨y1,y2,z1,z2,rfl,ee1,ee2,gg1,gg2,h⟩:=hJ;have h:=Hd h;go_simp;refine hK.out _ _ ⟨v.heap.size,y1,y2,z1,.pointer (some ⟨v.heap.size,0,none⟩),?_,ee1,ee2,ptr_keep 0 (by decide) gg1,fun q hq=>ptr_set hq,h.out.alloc hp rfl _⟩;kernel_rfl
 intro p3_1 p3_2 a v hJ;obtain⟨rfl,h⟩:=dielJ7_fin hJ;clear hJ;replace M:=Hd h.fin2;clear h
 refine tn [] 8 fun K hK=>?_
 have kc:=(M.o.nth 0 rfl).2.1;have kf:=(M.o.nth 0 rfl).2.2;replace M:=Hd (M.o.setHead r7l r7h);go_simp;refine hK.out _ _ (Or.inr ⟨(M.o.nth 3 rfl).two,(M.o.nth 7 rfl).two⟩) (fun hHeld=>?_);clear hK K hHeld kc kf
 refine tn [] 9 fun K hK=>?_
 have kc:=(M.o.nth 1 rfl).2.1;have kf:=(M.o.nth 1 rfl).2.2;replace M:=Hd (M.o.setNext (r8l:Value) (r8h:Value));go_simp;refine hK.out _ _ (Or.inr ⟨(M.o.nth 3 rfl).two,(M.o.nth 7 rfl).two⟩) (fun hHeld=>?_);clear hK K hHeld kc kf;refine tails_done (by kernel_rfl) ?_ _;refine NoPanic.normal ?_;clear hS;revert M;generalize ((((v.setCell ⟨p3_1,0,none⟩ (r7l:Value)).setCell ⟨p3_1,1,none⟩ (r7h:Value)).setCell ⟨p3_2,0,none⟩ (r8l:Value)).setCell ⟨p3_2,1,none⟩ (r8h:Value))=W;intro M;replace M:=Hd M.o.front2;revert M;generalize W=W3;intro M;obtain⟨k1,k2⟩:=(M.o.nth 2 rfl).two;obtain⟨k3,k4⟩:=(M.o.nth 1 rfl).two;go_wp2_with fail;refine (d9.out _ _ ((M.o.nth 0 rfl))).mono ?_;rintro r u4 ⟨rfl,hp⟩;replace M:=Hd (M.o.putHead hp);clear hp;clear k1 k2 k3 k4;go_wp2_with fail;refine (d10.out _ _ ((M.o.nth 0 rfl))).mono ?_;rintro r u5 ⟨rfl,hp⟩;replace M:=Hd (M.o.putHead hp);clear hp;replace M:=Hd (M.o.made #[r10l,r10h] 31).front
 go_upto_region 9 with fail;replace M:=Hd M.o.drew;refine wp_region_noPanic ?_;refine tails_region (S:=fun w'=>(Cf w' w.heap.size 0 a0l∧Cf w' w.heap.size 1 a0h)∧(Cf w' p3_1 0 r7l∧Cf w' p3_1 1 r7h)∧(Cf w' u1.heap.size 0 4607182418800017408∧Cf w' u1.heap.size 1 4607182418800017408)∧(Cf w' p3_2 0 r8l∧Cf w' p3_2 1 r8h)) [] (by kernel_rfl) ?_ (fun hS=>?_)
 ·exact ⟨(M.o.nth 8 rfl).two,(M.o.nth 2 rfl).two,(M.o.nth 5 rfl).two,(M.o.nth 3 rfl).two⟩
 refine tk (x:=?_) 0 rfl (by kernel_rfl) ⟨by rfl,?_⟩ (fun _ _ _ h=>h) hS ?_
 rotate_left; focus (intro w hSw; (try dsimp only at hSw); go_simp; try with_reducible rfl)
 refine tk (x:=?_) 1 rfl (by kernel_rfl) ⟨by rfl,?_⟩ (fun _ _ _ h=>h) hS ?_
 rotate_left; focus (intro w hSw; (try dsimp only at hSw); go_simp; try with_reducible rfl)
 refine tk (x:=?_) 3 rfl (by kernel_rfl) ⟨by rfl,?_⟩ (fun _ _ _ h=>h) hS ?_
 rotate_left; focus (intro w hSw; (try dsimp only at hSw); go_simp; try with_reducible rfl)
 refine tk (x:=?_) 5 rfl (by kernel_rfl) ⟨by rfl,?_⟩ (fun _ _ _ h=>h) hS ?_
 rotate_left; focus (intro w hSw; (try dsimp only at hSw); go_simp; try with_reducible rfl)
 refine tk (x:=?_) 6 rfl (by kernel_rfl) ⟨by rfl,?_⟩ (fun _ _ _ h=>h) hS ?_
 rotate_left; focus (intro w hSw; (try dsimp only at hSw); go_simp; try with_reducible rfl)
 refine tk (x:=?_) 8 rfl (by kernel_rfl) ⟨by rfl,?_⟩ (fun _ _ _ h=>h) hS ?_
 rotate_left; focus (intro w hSw; (try dsimp only at hSw); go_simp; try with_reducible rfl)
 conv=>arg 9; simp only [Act.put,go_sem]
 refine lam_6_1 M (T:=[]) 2 4 7 9 10 11 12 [45,47,50,52,53,54,13] 1 (dielJ9 w w1.heap.size r11l r11h r12l r12h r13l r13h r14l r14h r15l r15h r16l r16h) (by kernel_rfl) (by kernel_rfl) ?_ ?_ ?_ ?_ ?_ ?_ ?_ ?_ ?_ ?_
 ·intro A hA
  obtain⟨y1,hq1⟩:=put_ex (hA 45 (by simp));obtain⟨y2,hq2⟩:=put_ex (hA 47 (by simp));obtain⟨y3,hq3⟩:=put_ex (hA 50 (by simp));obtain⟨y4,hq4⟩:=put_ex (hA 52 (by simp));obtain⟨y5,hq5⟩:=put_ex (hA 53 (by simp));obtain⟨y6,hq6⟩:=put_ex (hA 54 (by simp));obtain⟨z1,hq7⟩:=put_ex (hA 13 (by simp));exact ⟨y1,y2,y3,y4,y5,y6,z1,by rw [hq1,hq2,hq3,hq4,hq5,hq6,hq7],by omega,by omega,by omega,by omega,by omega,by omega,by simp,OwnF.start M.out 1⟩
 ·rintro k p a v ⟨y1,y2,y3,y4,y5,y6,z1,_,_,_,_,_,_,_,_,h⟩
  exact ⟨(h.own.nth 8 rfl).two,(h.own.nth 2 rfl).two,(h.own.nth 5 rfl).two,(h.own.nth 3 rfl).two⟩
 ·intro p a v hJ
  refine os fun K hK=>?_
  obtain⟨y1,y2,y3,y4,y5,y6,z1,rfl,gg1,h⟩:=dielJ9_0 hJ;have h:=Hd h;clear hJ;go_simp;refine (d11.out _ _ ((h.out.own.nth 0 rfl))).mono ?_;rintro rr w5 ⟨rfl,hp⟩
  try go_wp2_with fail
  refine hK.out _ _ ⟨_,y2,y3,y4,y5,y6,z1,?_,fun _=>rfl,by omega,by omega,by omega,by omega,by omega,gg1,h.out.putHead hp⟩;kernel_rfl
 ·intro p a v hJ
  refine os fun K hK=>?_
  obtain⟨y2,y3,y4,y5,y6,z1,rfl,gg1,h⟩:=dielJ9_1 hJ;have h:=Hd h;clear hJ;go_simp;refine (d12.out _ _ ((h.out.own.nth 0 rfl))).mono ?_;rintro rr w5 ⟨rfl,hp⟩
  try go_wp2_with fail
  refine hK.out _ _ ⟨_,_,y3,y4,y5,y6,z1,?_,fun _=>rfl,fun _=>rfl,by omega,by omega,by omega,by omega,gg1,h.out.putHead hp⟩;kernel_rfl
 ·intro p a v hJ
  refine os fun K hK=>?_
  obtain⟨y3,y4,y5,y6,z1,rfl,gg1,h⟩:=dielJ9_2 hJ;have h:=Hd h;clear hJ;go_simp;refine (d13.out _ _ ((h.out.own.nth 0 rfl))).mono ?_;rintro rr w5 ⟨rfl,hp⟩
  try go_wp2_with fail
  refine hK.out _ _ ⟨_,_,_,y4,y5,y6,z1,?_,fun _=>rfl,fun _=>rfl,fun _=>rfl,by omega,by omega,by omega,gg1,h.out.putHead hp⟩;kernel_rfl
 ·intro p a v hJ
  refine os fun K hK=>?_
  obtain⟨y4,y5,y6,z1,rfl,gg1,h⟩:=dielJ9_3 hJ;have h:=Hd h;clear hJ;go_simp;refine (d14.out _ _ ((h.out.own.nth 0 rfl))).mono ?_;rintro rr w5 ⟨rfl,hp⟩
  try go_wp2_with fail
  refine hK.out _ _ ⟨_,_,_,_,y5,y6,z1,?_,fun _=>rfl,fun _=>rfl,fun _=>rfl,fun _=>rfl,by omega,by omega,gg1,h.out.putHead hp⟩;kernel_rfl
 ·intro p a v hJ
  refine os fun K hK=>?_
  obtain⟨y5,y6,z1,rfl,gg1,h⟩:=dielJ9_4 hJ;have h:=Hd h;clear hJ;go_simp;refine (d15.out _ _ ((h.out.own.nth 0 rfl))).mono ?_;rintro rr w5 ⟨rfl,hp⟩
  try go_wp2_with fail
  refine hK.out _ _ ⟨_,_,_,_,_,y6,z1,?_,fun _=>rfl,fun _=>rfl,fun _=>rfl,fun _=>rfl,fun _=>rfl,by omega,gg1,h.out.putHead hp⟩;kernel_rfl
 ·intro p a v hJ
  refine os fun K hK=>?_
  obtain⟨y6,z1,rfl,gg1,h⟩:=dielJ9_5 hJ;have h:=Hd h;clear hJ;go_simp;refine (d16.out _ _ ((h.out.own.nth 0 rfl))).mono ?_;rintro rr w5 ⟨rfl,hp⟩
  try go_wp2_with fail
  refine hK.out _ _ ⟨_,_,_,_,_,_,z1,?_,fun _=>rfl,fun _=>rfl,fun _=>rfl,fun _=>rfl,fun _=>rfl,fun _=>rfl,gg1,h.out.putHead hp⟩;kernel_rfl
 ·intro k p a v hp hJ
  refine os fun K hK=>?_
  obtain⟨y1,y2,y3,y4,y5,y6,z1,rfl,ee1,ee2,ee3,ee4,ee5,ee6,gg1,h⟩:=hJ;have h:=Hd h;go_simp;refine hK.out _ _ ⟨v.heap.size,y1,y2,y3,y4,y5,y6,.pointer (some ⟨v.heap.size,0,none⟩),?_,ee1,ee2,ee3,ee4,ee5,ee6,fun q hq=>ptr_set hq,h.out.alloc hp rfl _⟩;kernel_rfl
 intro p6_1 a v hJ;obtain⟨rfl,h⟩:=dielJ9_fin hJ;clear hJ;replace M:=Hd h.fin1;clear h
 refine tn [] 13 fun K hK=>?_
 have kc:=(M.o.nth 0 rfl).2.1;have kf:=(M.o.nth 0 rfl).2.2;replace M:=Hd (M.o.setHead r16l r16h);go_simp;refine hK.out _ _ (Or.inr ⟨(M.o.nth 9 rfl).two,(M.o.nth 3 rfl).two,(M.o.nth 6 rfl).two,(M.o.nth 4 rfl).two⟩) (fun hHeld=>?_);clear hK K hHeld kc kf;refine tails_done (by kernel_rfl) ?_ _;refine NoPanic.normal ?_;clear hS;revert M;generalize ((v.setCell ⟨p6_1,0,none⟩ (r16l:Value)).setCell ⟨p6_1,1,none⟩ (r16h:Value))=W;intro M;replace M:=Hd M.o.front;revert M;generalize W=W6;intro M;go_upto_region 10 with fail;replace M:=Hd M.o.drew;refine wp_region_noPanic ?_;refine tails_region (S:=fun w'=>(Cf w' u5.heap.size 0 r10l∧Cf w' u5.heap.size 1 r10h)∧(Cf w' u1.heap.size 0 4607182418800017408∧Cf w' u1.heap.size 1 4607182418800017408)∧(Cf w' p6_1 0 r16l∧Cf w' p6_1 1 r16h)) [] (by kernel_rfl) ?_ (fun hS=>?_)
 ·exact ⟨(M.o.nth 2 rfl).two,(M.o.nth 6 rfl).two,(M.o.nth 1 rfl).two⟩
 refine tk (x:=?_) 1 rfl (by kernel_rfl) ⟨by rfl,?_⟩ (fun _ _ _ h=>h) hS ?_
 rotate_left; focus (intro w hSw; (try dsimp only at hSw); go_simp; try with_reducible rfl)
 refine tk (x:=?_) 3 rfl (by kernel_rfl) ⟨by rfl,?_⟩ (fun _ _ _ h=>h) hS ?_
 rotate_left; focus (intro w hSw; (try dsimp only at hSw); go_simp; try with_reducible rfl)
 refine tk (x:=?_) 4 rfl (by kernel_rfl) ⟨by rfl,?_⟩ (fun _ _ _ h=>h) hS ?_
 rotate_left; focus (intro w hSw; (try dsimp only at hSw); go_simp; try with_reducible rfl)
 conv=>arg 9; simp only [Act.put,go_sem]
 refine lam_6_0 M (T:=[]) 0 2 5 6 7 8 [55,57,60,61,62,63] 2 (dielJ10 w w1.heap.size r18l r18h r19l r19h r20l r20h r21l r21h) (by kernel_rfl) (by kernel_rfl) ?_ ?_ ?_ ?_ ?_ ?_ ?_ ?_ ?_
 ·intro A hA
  obtain⟨y1,hq1⟩:=put_ex (hA 55 (by simp));obtain⟨y2,hq2⟩:=put_ex (hA 57 (by simp));obtain⟨y3,hq3⟩:=put_ex (hA 60 (by simp));obtain⟨y4,hq4⟩:=put_ex (hA 61 (by simp));obtain⟨y5,hq5⟩:=put_ex (hA 62 (by simp));obtain⟨y6,hq6⟩:=put_ex (hA 63 (by simp));exact ⟨y1,y2,y3,y4,y5,y6,by rw [hq1,hq2,hq3,hq4,hq5,hq6],by omega,by omega,by omega,by omega,by omega,by omega,OwnF.start M.out 0⟩
 ·rintro k p a v ⟨y1,y2,y3,y4,y5,y6,_,_,_,_,_,_,_,h⟩
  exact ⟨(h.own.nth 2 rfl).two,(h.own.nth 6 rfl).two,(h.own.nth 1 rfl).two⟩
 ·intro p a v hJ
  refine os fun K hK=>?_
  obtain⟨y1,y2,y3,y4,y5,y6,rfl,h⟩:=dielJ10_0 hJ;have h:=Hd h;clear hJ;go_simp;refine (d17.out _ _ ((h.out.own.nth 0 rfl))).mono ?_;rintro rr w5 ⟨rfl,hp⟩
  try go_wp2_with fail
  refine hK.out _ _ ⟨_,y2,y3,y4,y5,y6,?_,fun _=>rfl,by omega,by omega,by omega,by omega,by omega,h.out.putHead hp⟩;kernel_rfl
 ·intro p a v hJ
  refine os fun K hK=>?_
  obtain⟨y2,y3,y4,y5,y6,rfl,h⟩:=dielJ10_1 hJ;have h:=Hd h;clear hJ;go_simp;refine (d18.out _ _ ((h.out.own.nth 0 rfl))).mono ?_;rintro rr w5 ⟨rfl,hp⟩
  try go_wp2_with fail
  refine hK.out _ _ ⟨_,_,y3,y4,y5,y6,?_,fun _=>rfl,fun _=>rfl,by omega,by omega,by omega,by omega,h.out.putHead hp⟩;kernel_rfl
 ·intro p a v hJ
  refine os fun K hK=>?_
  obtain⟨y3,y4,y5,y6,rfl,h⟩:=dielJ10_2 hJ;have h:=Hd h;clear hJ;go_simp;refine (d19.out _ _ ((h.out.own.nth 0 rfl))).mono ?_;rintro rr w5 ⟨rfl,hp⟩
  try go_wp2_with fail
  refine hK.out _ _ ⟨_,_,_,y4,y5,y6,?_,fun _=>rfl,fun _=>rfl,fun _=>rfl,by omega,by omega,by omega,h.out.putHead hp⟩;kernel_rfl
 ·intro p a v hJ
  refine os fun K hK=>?_
  obtain⟨y4,y5,y6,rfl,h⟩:=dielJ10_3 hJ;have h:=Hd h;clear hJ;go_simp;refine (d20.out _ _ ((h.out.own.nth 0 rfl))).mono ?_;rintro rr w5 ⟨rfl,hp⟩
  try go_wp2_with fail
  refine hK.out _ _ ⟨_,_,_,_,y5,y6,?_,fun _=>rfl,fun _=>rfl,fun _=>rfl,fun _=>rfl,by omega,by omega,h.out.putHead hp⟩;kernel_rfl
 ·intro p a v hJ
  refine os fun K hK=>?_
  obtain⟨y5,y6,rfl,h⟩:=dielJ10_4 hJ;have h:=Hd h;clear hJ;go_simp;refine (d21.out _).mono ?_;rintro rr w5 ⟨rfl,hp⟩
  try go_wp2_with fail
  refine hK.out _ _ ⟨_,_,_,_,_,y6,?_,fun _=>rfl,fun _=>rfl,fun _=>rfl,fun _=>rfl,fun _=>rfl,by omega,h.out.below hp⟩;kernel_rfl
 ·intro p a v hJ
  refine os fun K hK=>?_
  obtain⟨y6,rfl,h⟩:=dielJ10_5 hJ;have h:=Hd h;clear hJ;go_simp;refine (err_any (0) _ 0 _ ((h.out.own.nth 0 rfl)).pc).mono ?_;rintro rr w5 ⟨rfl,rfl⟩
  try go_wp2_with fail
  refine hK.out _ _ ⟨_,_,_,_,_,_,?_,fun _=>rfl,fun _=>rfl,fun _=>rfl,fun _=>rfl,fun _=>rfl,fun _=>rfl,h.out⟩;kernel_rfl
 intro a v hJ;obtain⟨rfl,h⟩:=dielJ10_fin hJ;clear hJ;replace M:=Hd h.own;clear h
 refine tn [] 9 fun K hK=>?_
 have kc:=(M.o.nth 7 rfl).2.1;have kf:=(M.o.nth 7 rfl).2.2;replace M:=Hd (M.o.set2 7 rfl r21l r21h);go_simp;refine hK.out _ _ (Or.inr ⟨(M.o.nth 2 rfl).two,(M.o.nth 6 rfl).two,(M.o.nth 1 rfl).two⟩) (fun hHeld=>?_);clear hK K hHeld kc kf
 refine tn [] 10 fun K hK=>?_
 go_simp;refine hK.out _ _ (Or.inr ⟨(M.o.nth 2 rfl).two,(M.o.nth 6 rfl).two,(M.o.nth 1 rfl).two⟩) (fun hHeld=>?_);clear hK K hHeld;refine tails_done (by kernel_rfl) ?_ _;refine NoPanic.normal ?_;clear hS;revert M;generalize ((v.setCell ⟨(w.heap.size+1+1),0,none⟩ (r21l:Value)).setCell ⟨(w.heap.size+1+1),1,none⟩ (r21h:Value))=W;intro M;revert M;generalize W=W7;intro M;obtain⟨f1,f2⟩:=(M.o.nth 7 rfl).two;go_wp2;exact bodyPost_ret (v:=.tuple #[.agg #[.float .f64 r21l,.float .f64 r21h],.int .i64 0]) (by simp [results,Tryz.results188,go_sem,f1,f2]) rfl ⟨rfl,M.o.base⟩
end
section
open Go.RowKit
attribute [local go_sem] run_store_float
def condJ7 (w:World) (pb:Nat) (r4l r4h r5l r5h:Nat) (l:RowL) (a0:Act) (k:Nat) (p:List (Option Nat)) (a:Act) (v:World):Prop:=
 ∃ y1 y2 y3 z1:Value,a=((((a0.put (some 38) y1).put (some 40) y2).put (some 41) y3).put (some 12) z1)∧(0 < k→y1 = .agg #[(4607182418800017408:Nat),(4607182418800017408:Nat)])∧(1 < k→y2 = .agg #[r4l,r4h])∧(2 < k→y3 = .agg #[r5l,r5h])∧(∀ q,p[0]? = some (some q)→z1 = .pointer (some ⟨q,0,none⟩))∧OwnF w ((pb,#[true]) :: l) [#[(),()]] p v
section
variable {w v:World} {pb:Nat} {r4l r4h r5l r5h:Nat} {l:RowL} {a0 a:Act} {p:List (Option Nat)}
theorem condJ7_0 (h:condJ7 w pb r4l r4h r5l r5h l a0 0 p a v):∃ y1 y2 y3 z1:Value,a=((((a0.put (some 38) y1).put (some 40) y2).put (some 41) y3).put (some 12) z1)∧(∀ q,p[0]? = some (some q)→z1 = .pointer (some ⟨q,0,none⟩))∧OwnF w ((pb,#[true]) :: l) [#[(),()]] p v:=by
 obtain⟨y1,y2,y3,z1,ha,E1,E2,E3,G1,h⟩:=h;exact ⟨y1,y2,y3,z1,ha,G1,h⟩
theorem condJ7_1 (h:condJ7 w pb r4l r4h r5l r5h l a0 1 p a v):∃ y2 y3 z1:Value,a=((((a0.put (some 38) (.agg #[(4607182418800017408:Nat),(4607182418800017408:Nat)])).put (some 40) y2).put (some 41) y3).put (some 12) z1)∧(∀ q,p[0]? = some (some q)→z1 = .pointer (some ⟨q,0,none⟩))∧OwnF w ((pb,#[true]) :: l) [#[(),()]] p v:=by
 obtain⟨y1,y2,y3,z1,ha,E1,E2,E3,G1,h⟩:=h;obtain rfl:=E1 (by decide);exact ⟨y2,y3,z1,ha,G1,h⟩
theorem condJ7_2 (h:condJ7 w pb r4l r4h r5l r5h l a0 2 p a v):∃ y3 z1:Value,a=((((a0.put (some 38) (.agg #[(4607182418800017408:Nat),(4607182418800017408:Nat)])).put (some 40) (.agg #[r4l,r4h])).put (some 41) y3).put (some 12) z1)∧(∀ q,p[0]? = some (some q)→z1 = .pointer (some ⟨q,0,none⟩))∧OwnF w ((pb,#[true]) :: l) [#[(),()]] p v:=by
 obtain⟨y1,y2,y3,z1,ha,E1,E2,E3,G1,h⟩:=h;obtain rfl:=E1 (by decide);obtain rfl:=E2 (by decide);exact ⟨y3,z1,ha,G1,h⟩
theorem condJ7_fin {q1:Nat} (h:condJ7 w pb r4l r4h r5l r5h l a0 3 [some q1] a v):a=((((a0.put (some 38) (.agg #[(4607182418800017408:Nat),(4607182418800017408:Nat)])).put (some 40) (.agg #[r4l,r4h])).put (some 41) (.agg #[r5l,r5h])).put (some 12) (.pointer (some ⟨q1,0,none⟩)))∧OwnF w ((pb,#[true]) :: l) [#[(),()]] [some q1] v:=by
 obtain⟨y1,y2,y3,z1,ha,E1,E2,E3,G1,h⟩:=h;obtain rfl:=E1 (by decide);obtain rfl:=E2 (by decide);obtain rfl:=E3 (by decide);obtain rfl:=G1 _ rfl;exact ⟨ha,h⟩
end
def condJ8 (w:World) (pb:Nat) (r6l r6h r7l r7h r8l r8h:Nat) (l:RowL) (a0:Act) (k:Nat) (p:List (Option Nat)) (a:Act) (v:World):Prop:=
 ∃ y1 y2 y3 z1:Value,a=((((a0.put (some 43) y1).put (some 45) y2).put (some 46) y3).put (some 13) z1)∧(0 < k→y1 = .agg #[r6l,r6h])∧(1 < k→y2 = .agg #[r7l,r7h])∧(2 < k→y3 = .agg #[r8l,r8h])∧(∀ q,p[0]? = some (some q)→z1 = .pointer (some ⟨q,0,none⟩))∧OwnF w ((pb,#[true]) :: l) [#[(),()]] p v
section
variable {w v:World} {pb:Nat} {r6l r6h r7l r7h r8l r8h:Nat} {l:RowL} {a0 a:Act} {p:List (Option Nat)}
theorem condJ8_0 (h:condJ8 w pb r6l r6h r7l r7h r8l r8h l a0 0 p a v):∃ y1 y2 y3 z1:Value,a=((((a0.put (some 43) y1).put (some 45) y2).put (some 46) y3).put (some 13) z1)∧(∀ q,p[0]? = some (some q)→z1 = .pointer (some ⟨q,0,none⟩))∧OwnF w ((pb,#[true]) :: l) [#[(),()]] p v:=by
 obtain⟨y1,y2,y3,z1,ha,E1,E2,E3,G1,h⟩:=h;exact ⟨y1,y2,y3,z1,ha,G1,h⟩
theorem condJ8_1 (h:condJ8 w pb r6l r6h r7l r7h r8l r8h l a0 1 p a v):∃ y2 y3 z1:Value,a=((((a0.put (some 43) (.agg #[r6l,r6h])).put (some 45) y2).put (some 46) y3).put (some 13) z1)∧(∀ q,p[0]? = some (some q)→z1 = .pointer (some ⟨q,0,none⟩))∧OwnF w ((pb,#[true]) :: l) [#[(),()]] p v:=by
 obtain⟨y1,y2,y3,z1,ha,E1,E2,E3,G1,h⟩:=h;obtain rfl:=E1 (by decide);exact ⟨y2,y3,z1,ha,G1,h⟩
theorem condJ8_2 (h:condJ8 w pb r6l r6h r7l r7h r8l r8h l a0 2 p a v):∃ y3 z1:Value,a=((((a0.put (some 43) (.agg #[r6l,r6h])).put (some 45) (.agg #[r7l,r7h])).put (some 46) y3).put (some 13) z1)∧(∀ q,p[0]? = some (some q)→z1 = .pointer (some ⟨q,0,none⟩))∧OwnF w ((pb,#[true]) :: l) [#[(),()]] p v:=by
 obtain⟨y1,y2,y3,z1,ha,E1,E2,E3,G1,h⟩:=h;obtain rfl:=E1 (by decide);obtain rfl:=E2 (by decide);exact ⟨y3,z1,ha,G1,h⟩
theorem condJ8_fin {q1:Nat} (h:condJ8 w pb r6l r6h r7l r7h r8l r8h l a0 3 [some q1] a v):a=((((a0.put (some 43) (.agg #[r6l,r6h])).put (some 45) (.agg #[r7l,r7h])).put (some 46) (.agg #[r8l,r8h])).put (some 13) (.pointer (some ⟨q1,0,none⟩)))∧OwnF w ((pb,#[true]) :: l) [#[(),()]] [some q1] v:=by
 obtain⟨y1,y2,y3,z1,ha,E1,E2,E3,G1,h⟩:=h;obtain rfl:=E1 (by decide);obtain rfl:=E2 (by decide);obtain rfl:=E3 (by decide);obtain rfl:=G1 _ rfl;exact ⟨ha,h⟩
end
def condJ9 (w:World) (pb:Nat) (r9l r9h r10l r10h r11l r11h r12l r12h:Nat) (l:RowL) (a0:Act) (k:Nat) (p:List (Option Nat)) (a:Act) (v:World):Prop:=
 ∃ y1 y2 y3 y4 z1:Value,a=(((((a0.put (some 48) y1).put (some 50) y2).put (some 51) y3).put (some 53) y4).put (some 14) z1)∧(0 < k→y1 = .agg #[r9l,r9h])∧(1 < k→y2 = .agg #[r10l,r10h])∧(2 < k→y3 = .agg #[r11l,r11h])∧(3 < k→y4 = .agg #[r12l,r12h])∧(∀ q,p[0]? = some (some q)→z1 = .pointer (some ⟨q,0,none⟩))∧OwnF w ((pb,#[true]) :: l) [#[(),()]] p v
section
variable {w v:World} {pb:Nat} {r9l r9h r10l r10h r11l r11h r12l r12h:Nat} {l:RowL} {a0 a:Act} {p:List (Option Nat)}
theorem condJ9_0 (h:condJ9 w pb r9l r9h r10l r10h r11l r11h r12l r12h l a0 0 p a v):∃ y1 y2 y3 y4 z1:Value,a=(((((a0.put (some 48) y1).put (some 50) y2).put (some 51) y3).put (some 53) y4).put (some 14) z1)∧(∀ q,p[0]? = some (some q)→z1 = .pointer (some ⟨q,0,none⟩))∧OwnF w ((pb,#[true]) :: l) [#[(),()]] p v:=by
 obtain⟨y1,y2,y3,y4,z1,ha,E1,E2,E3,E4,G1,h⟩:=h;exact ⟨y1,y2,y3,y4,z1,ha,G1,h⟩
theorem condJ9_1 (h:condJ9 w pb r9l r9h r10l r10h r11l r11h r12l r12h l a0 1 p a v):∃ y2 y3 y4 z1:Value,a=(((((a0.put (some 48) (.agg #[r9l,r9h])).put (some 50) y2).put (some 51) y3).put (some 53) y4).put (some 14) z1)∧(∀ q,p[0]? = some (some q)→z1 = .pointer (some ⟨q,0,none⟩))∧OwnF w ((pb,#[true]) :: l) [#[(),()]] p v:=by
 obtain⟨y1,y2,y3,y4,z1,ha,E1,E2,E3,E4,G1,h⟩:=h;obtain rfl:=E1 (by decide);exact ⟨y2,y3,y4,z1,ha,G1,h⟩
theorem condJ9_2 (h:condJ9 w pb r9l r9h r10l r10h r11l r11h r12l r12h l a0 2 p a v):∃ y3 y4 z1:Value,a=(((((a0.put (some 48) (.agg #[r9l,r9h])).put (some 50) (.agg #[r10l,r10h])).put (some 51) y3).put (some 53) y4).put (some 14) z1)∧(∀ q,p[0]? = some (some q)→z1 = .pointer (some ⟨q,0,none⟩))∧OwnF w ((pb,#[true]) :: l) [#[(),()]] p v:=by
 obtain⟨y1,y2,y3,y4,z1,ha,E1,E2,E3,E4,G1,h⟩:=h;obtain rfl:=E1 (by decide);obtain rfl:=E2 (by decide);exact ⟨y3,y4,z1,ha,G1,h⟩
theorem condJ9_3 (h:condJ9 w pb r9l r9h r10l r10h r11l r11h r12l r12h l a0 3 p a v):∃ y4 z1:Value,a=(((((a0.put (some 48) (.agg #[r9l,r9h])).put (some 50) (.agg #[r10l,r10h])).put (some 51) (.agg #[r11l,r11h])).put (some 53) y4).put (some 14) z1)∧(∀ q,p[0]? = some (some q)→z1 = .pointer (some ⟨q,0,none⟩))∧OwnF w ((pb,#[true]) :: l) [#[(),()]] p v:=by
 obtain⟨y1,y2,y3,y4,z1,ha,E1,E2,E3,E4,G1,h⟩:=h;obtain rfl:=E1 (by decide);obtain rfl:=E2 (by decide);obtain rfl:=E3 (by decide);exact ⟨y4,z1,ha,G1,h⟩
theorem condJ9_fin {q1:Nat} (h:condJ9 w pb r9l r9h r10l r10h r11l r11h r12l r12h l a0 4 [some q1] a v):a=(((((a0.put (some 48) (.agg #[r9l,r9h])).put (some 50) (.agg #[r10l,r10h])).put (some 51) (.agg #[r11l,r11h])).put (some 53) (.agg #[r12l,r12h])).put (some 14) (.pointer (some ⟨q1,0,none⟩)))∧OwnF w ((pb,#[true]) :: l) [#[(),()]] [some q1] v:=by
 obtain⟨y1,y2,y3,y4,z1,ha,E1,E2,E3,E4,G1,h⟩:=h;obtain rfl:=E1 (by decide);obtain rfl:=E2 (by decide);obtain rfl:=E3 (by decide);obtain rfl:=E4 (by decide);obtain rfl:=G1 _ rfl;exact ⟨ha,h⟩
end
def condJ10 (w:World) (pb:Nat) (r13l r13h r15l r15h r16l r16h r17l r17h:Nat) (l:RowL) (a0:Act) (k:Nat) (p:List (Option Nat)) (a:Act) (v:World):Prop:=
 ∃ y1 y2 y3 y4 y5 z1:Value,a=((((((a0.put (some 55) y1).put (some 56) y2).put (some 58) y3).put (some 59) y4).put (some 60) y5).put (some 15) z1)∧(0 < k→y1 = .agg #[r13l,r13h])∧(1 < k→y2 = .agg #[(4616189618054758400:Nat),(4616189618054758400:Nat)])∧(2 < k→y3 = .agg #[r15l,r15h])∧(3 < k→y4 = .agg #[r16l,r16h])∧(4 < k→y5 = .agg #[r17l,r17h])∧(∀ q,p[0]? = some (some q)→z1 = .pointer (some ⟨q,0,none⟩))∧OwnF w ((pb,#[true]) :: l) [#[(),()]] p v
section
variable {w v:World} {pb:Nat} {r13l r13h r15l r15h r16l r16h r17l r17h:Nat} {l:RowL} {a0 a:Act} {p:List (Option Nat)}
theorem condJ10_0 (h:condJ10 w pb r13l r13h r15l r15h r16l r16h r17l r17h l a0 0 p a v):∃ y1 y2 y3 y4 y5 z1:Value,a=((((((a0.put (some 55) y1).put (some 56) y2).put (some 58) y3).put (some 59) y4).put (some 60) y5).put (some 15) z1)∧(∀ q,p[0]? = some (some q)→z1 = .pointer (some ⟨q,0,none⟩))∧OwnF w ((pb,#[true]) :: l) [#[(),()]] p v:=by
 obtain⟨y1,y2,y3,y4,y5,z1,ha,E1,E2,E3,E4,E5,G1,h⟩:=h;exact ⟨y1,y2,y3,y4,y5,z1,ha,G1,h⟩
theorem condJ10_1 (h:condJ10 w pb r13l r13h r15l r15h r16l r16h r17l r17h l a0 1 p a v):∃ y2 y3 y4 y5 z1:Value,a=((((((a0.put (some 55) (.agg #[r13l,r13h])).put (some 56) y2).put (some 58) y3).put (some 59) y4).put (some 60) y5).put (some 15) z1)∧(∀ q,p[0]? = some (some q)→z1 = .pointer (some ⟨q,0,none⟩))∧OwnF w ((pb,#[true]) :: l) [#[(),()]] p v:=by
 obtain⟨y1,y2,y3,y4,y5,z1,ha,E1,E2,E3,E4,E5,G1,h⟩:=h;obtain rfl:=E1 (by decide);exact ⟨y2,y3,y4,y5,z1,ha,G1,h⟩
theorem condJ10_2 (h:condJ10 w pb r13l r13h r15l r15h r16l r16h r17l r17h l a0 2 p a v):∃ y3 y4 y5 z1:Value,a=((((((a0.put (some 55) (.agg #[r13l,r13h])).put (some 56) (.agg #[(4616189618054758400:Nat),(4616189618054758400:Nat)])).put (some 58) y3).put (some 59) y4).put (some 60) y5).put (some 15) z1)∧(∀ q,p[0]? = some (some q)→z1 = .pointer (some ⟨q,0,none⟩))∧OwnF w ((pb,#[true]) :: l) [#[(),()]] p v:=by
 obtain⟨y1,y2,y3,y4,y5,z1,ha,E1,E2,E3,E4,E5,G1,h⟩:=h;obtain rfl:=E1 (by decide);obtain rfl:=E2 (by decide);exact ⟨y3,y4,y5,z1,ha,G1,h⟩
theorem condJ10_3 (h:condJ10 w pb r13l r13h r15l r15h r16l r16h r17l r17h l a0 3 p a v):∃ y4 y5 z1:Value,a=((((((a0.put (some 55) (.agg #[r13l,r13h])).put (some 56) (.agg #[(4616189618054758400:Nat),(4616189618054758400:Nat)])).put (some 58) (.agg #[r15l,r15h])).put (some 59) y4).put (some 60) y5).put (some 15) z1)∧(∀ q,p[0]? = some (some q)→z1 = .pointer (some ⟨q,0,none⟩))∧OwnF w ((pb,#[true]) :: l) [#[(),()]] p v:=by
 obtain⟨y1,y2,y3,y4,y5,z1,ha,E1,E2,E3,E4,E5,G1,h⟩:=h;obtain rfl:=E1 (by decide);obtain rfl:=E2 (by decide);obtain rfl:=E3 (by decide);exact ⟨y4,y5,z1,ha,G1,h⟩
theorem condJ10_4 (h:condJ10 w pb r13l r13h r15l r15h r16l r16h r17l r17h l a0 4 p a v):∃ y5 z1:Value,a=((((((a0.put (some 55) (.agg #[r13l,r13h])).put (some 56) (.agg #[(4616189618054758400:Nat),(4616189618054758400:Nat)])).put (some 58) (.agg #[r15l,r15h])).put (some 59) (.agg #[r16l,r16h])).put (some 60) y5).put (some 15) z1)∧(∀ q,p[0]? = some (some q)→z1 = .pointer (some ⟨q,0,none⟩))∧OwnF w ((pb,#[true]) :: l) [#[(),()]] p v:=by
 obtain⟨y1,y2,y3,y4,y5,z1,ha,E1,E2,E3,E4,E5,G1,h⟩:=h;obtain rfl:=E1 (by decide);obtain rfl:=E2 (by decide);obtain rfl:=E3 (by decide);obtain rfl:=E4 (by decide);exact ⟨y5,z1,ha,G1,h⟩
theorem condJ10_fin {q1:Nat} (h:condJ10 w pb r13l r13h r15l r15h r16l r16h r17l r17h l a0 5 [some q1] a v):a=((((((a0.put (some 55) (.agg #[r13l,r13h])).put (some 56) (.agg #[(4616189618054758400:Nat),(4616189618054758400:Nat)])).put (some 58) (.agg #[r15l,r15h])).put (some 59) (.agg #[r16l,r16h])).put (some 60) (.agg #[r17l,r17h])).put (some 15) (.pointer (some ⟨q1,0,none⟩)))∧OwnF w ((pb,#[true]) :: l) [#[(),()]] [some q1] v:=by
 obtain⟨y1,y2,y3,y4,y5,z1,ha,E1,E2,E3,E4,E5,G1,h⟩:=h;obtain rfl:=E1 (by decide);obtain rfl:=E2 (by decide);obtain rfl:=E3 (by decide);obtain rfl:=E4 (by decide);obtain rfl:=E5 (by decide);obtain rfl:=G1 _ rfl;exact ⟨ha,h⟩
end
def condJ11 (w:World) (pb:Nat) (r18l r18h r20l r20h r21l r21h r22l r22h:Nat) (l:RowL) (a0:Act) (k:Nat) (p:List (Option Nat)) (a:Act) (v:World):Prop:=
 ∃ y1 y2 y3 y4 y5 z1:Value,a=((((((a0.put (some 64) y1).put (some 65) y2).put (some 66) y3).put (some 67) y4).put (some 68) y5).put (some 16) z1)∧(0 < k→y1 = .agg #[r18l,r18h])∧(1 < k→y2 = .agg #[(),()])∧(2 < k→y3 = .agg #[r20l,r20h])∧(3 < k→y4 = .agg #[r21l,r21h])∧(4 < k→y5 = .agg #[r22l,r22h])∧(∀ q,p[0]? = some (some q)→z1 = .pointer (some ⟨q,0,none⟩))∧OwnF w ((pb,#[true]) :: l) [#[(),()]] p v
section
variable {w v:World} {pb:Nat} {r18l r18h r20l r20h r21l r21h r22l r22h:Nat} {l:RowL} {a0 a:Act} {p:List (Option Nat)}
theorem condJ11_0 (h:condJ11 w pb r18l r18h r20l r20h r21l r21h r22l r22h l a0 0 p a v):∃ y1 y2 y3 y4 y5 z1:Value,a=((((((a0.put (some 64) y1).put (some 65) y2).put (some 66) y3).put (some 67) y4).put (some 68) y5).put (some 16) z1)∧(∀ q,p[0]? = some (some q)→z1 = .pointer (some ⟨q,0,none⟩))∧OwnF w ((pb,#[true]) :: l) [#[(),()]] p v:=by
 obtain⟨y1,y2,y3,y4,y5,z1,ha,E1,E2,E3,E4,E5,G1,h⟩:=h;exact ⟨y1,y2,y3,y4,y5,z1,ha,G1,h⟩
theorem condJ11_1 (h:condJ11 w pb r18l r18h r20l r20h r21l r21h r22l r22h l a0 1 p a v):∃ y2 y3 y4 y5 z1:Value,a=((((((a0.put (some 64) (.agg #[r18l,r18h])).put (some 65) y2).put (some 66) y3).put (some 67) y4).put (some 68) y5).put (some 16) z1)∧(∀ q,p[0]? = some (some q)→z1 = .pointer (some ⟨q,0,none⟩))∧OwnF w ((pb,#[true]) :: l) [#[(),()]] p v:=by
 obtain⟨y1,y2,y3,y4,y5,z1,ha,E1,E2,E3,E4,E5,G1,h⟩:=h;obtain rfl:=E1 (by decide);exact ⟨y2,y3,y4,y5,z1,ha,G1,h⟩
theorem condJ11_2 (h:condJ11 w pb r18l r18h r20l r20h r21l r21h r22l r22h l a0 2 p a v):∃ y3 y4 y5 z1:Value,a=((((((a0.put (some 64) (.agg #[r18l,r18h])).put (some 65) (.agg #[(),()])).put (some 66) y3).put (some 67) y4).put (some 68) y5).put (some 16) z1)∧(∀ q,p[0]? = some (some q)→z1 = .pointer (some ⟨q,0,none⟩))∧OwnF w ((pb,#[true]) :: l) [#[(),()]] p v:=by
 obtain⟨y1,y2,y3,y4,y5,z1,ha,E1,E2,E3,E4,E5,G1,h⟩:=h;obtain rfl:=E1 (by decide);obtain rfl:=E2 (by decide);exact ⟨y3,y4,y5,z1,ha,G1,h⟩
theorem condJ11_3 (h:condJ11 w pb r18l r18h r20l r20h r21l r21h r22l r22h l a0 3 p a v):∃ y4 y5 z1:Value,a=((((((a0.put (some 64) (.agg #[r18l,r18h])).put (some 65) (.agg #[(),()])).put (some 66) (.agg #[r20l,r20h])).put (some 67) y4).put (some 68) y5).put (some 16) z1)∧(∀ q,p[0]? = some (some q)→z1 = .pointer (some ⟨q,0,none⟩))∧OwnF w ((pb,#[true]) :: l) [#[(),()]] p v:=by
 obtain⟨y1,y2,y3,y4,y5,z1,ha,E1,E2,E3,E4,E5,G1,h⟩:=h;obtain rfl:=E1 (by decide);obtain rfl:=E2 (by decide);obtain rfl:=E3 (by decide);exact ⟨y4,y5,z1,ha,G1,h⟩
theorem condJ11_4 (h:condJ11 w pb r18l r18h r20l r20h r21l r21h r22l r22h l a0 4 p a v):∃ y5 z1:Value,a=((((((a0.put (some 64) (.agg #[r18l,r18h])).put (some 65) (.agg #[(),()])).put (some 66) (.agg #[r20l,r20h])).put (some 67) (.agg #[r21l,r21h])).put (some 68) y5).put (some 16) z1)∧(∀ q,p[0]? = some (some q)→z1 = .pointer (some ⟨q,0,none⟩))∧OwnF w ((pb,#[true]) :: l) [#[(),()]] p v:=by
 obtain⟨y1,y2,y3,y4,y5,z1,ha,E1,E2,E3,E4,E5,G1,h⟩:=h;obtain rfl:=E1 (by decide);obtain rfl:=E2 (by decide);obtain rfl:=E3 (by decide);obtain rfl:=E4 (by decide);exact ⟨y5,z1,ha,G1,h⟩
theorem condJ11_fin {q1:Nat} (h:condJ11 w pb r18l r18h r20l r20h r21l r21h r22l r22h l a0 5 [some q1] a v):a=((((((a0.put (some 64) (.agg #[r18l,r18h])).put (some 65) (.agg #[(),()])).put (some 66) (.agg #[r20l,r20h])).put (some 67) (.agg #[r21l,r21h])).put (some 68) (.agg #[r22l,r22h])).put (some 16) (.pointer (some ⟨q1,0,none⟩)))∧OwnF w ((pb,#[true]) :: l) [#[(),()]] [some q1] v:=by
 obtain⟨y1,y2,y3,y4,y5,z1,ha,E1,E2,E3,E4,E5,G1,h⟩:=h;obtain rfl:=E1 (by decide);obtain rfl:=E2 (by decide);obtain rfl:=E3 (by decide);obtain rfl:=E4 (by decide);obtain rfl:=E5 (by decide);obtain rfl:=G1 _ rfl;exact ⟨ha,h⟩
end
def condJ13 (w:World) (pb:Nat) (r25l r25h r26l r26h:Nat) (l:RowL) (a0:Act) (k:Nat) (p:List (Option Nat)) (a:Act) (v:World):Prop:=
 ∃ y1 y2 y3 z1:Value,a=((((a0.put (some 72) y1).put (some 74) y2).put (some 76) y3).put (some 18) z1)∧(0 < k→y1 = .agg #[(4611686018427387904:Nat),(4611686018427387904:Nat)])∧(1 < k→y2 = .agg #[r25l,r25h])∧(2 < k→y3 = .agg #[r26l,r26h])∧(∀ q,p[0]? = some (some q)→z1 = .pointer (some ⟨q,0,none⟩))∧OwnF w ((pb,#[true]) :: l) [#[(),()]] p v
section
variable {w v:World} {pb:Nat} {r25l r25h r26l r26h:Nat} {l:RowL} {a0 a:Act} {p:List (Option Nat)}
theorem condJ13_0 (h:condJ13 w pb r25l r25h r26l r26h l a0 0 p a v):∃ y1 y2 y3 z1:Value,a=((((a0.put (some 72) y1).put (some 74) y2).put (some 76) y3).put (some 18) z1)∧(∀ q,p[0]? = some (some q)→z1 = .pointer (some ⟨q,0,none⟩))∧OwnF w ((pb,#[true]) :: l) [#[(),()]] p v:=by
 obtain⟨y1,y2,y3,z1,ha,E1,E2,E3,G1,h⟩:=h;exact ⟨y1,y2,y3,z1,ha,G1,h⟩
theorem condJ13_1 (h:condJ13 w pb r25l r25h r26l r26h l a0 1 p a v):∃ y2 y3 z1:Value,a=((((a0.put (some 72) (.agg #[(4611686018427387904:Nat),(4611686018427387904:Nat)])).put (some 74) y2).put (some 76) y3).put (some 18) z1)∧(∀ q,p[0]? = some (some q)→z1 = .pointer (some ⟨q,0,none⟩))∧OwnF w ((pb,#[true]) :: l) [#[(),()]] p v:=by
 obtain⟨y1,y2,y3,z1,ha,E1,E2,E3,G1,h⟩:=h;obtain rfl:=E1 (by decide);exact ⟨y2,y3,z1,ha,G1,h⟩
theorem condJ13_2 (h:condJ13 w pb r25l r25h r26l r26h l a0 2 p a v):∃ y3 z1:Value,a=((((a0.put (some 72) (.agg #[(4611686018427387904:Nat),(4611686018427387904:Nat)])).put (some 74) (.agg #[r25l,r25h])).put (some 76) y3).put (some 18) z1)∧(∀ q,p[0]? = some (some q)→z1 = .pointer (some ⟨q,0,none⟩))∧OwnF w ((pb,#[true]) :: l) [#[(),()]] p v:=by
 obtain⟨y1,y2,y3,z1,ha,E1,E2,E3,G1,h⟩:=h;obtain rfl:=E1 (by decide);obtain rfl:=E2 (by decide);exact ⟨y3,z1,ha,G1,h⟩
theorem condJ13_fin {q1:Nat} (h:condJ13 w pb r25l r25h r26l r26h l a0 3 [some q1] a v):a=((((a0.put (some 72) (.agg #[(4611686018427387904:Nat),(4611686018427387904:Nat)])).put (some 74) (.agg #[r25l,r25h])).put (some 76) (.agg #[r26l,r26h])).put (some 18) (.pointer (some ⟨q1,0,none⟩)))∧OwnF w ((pb,#[true]) :: l) [#[(),()]] [some q1] v:=by
 obtain⟨y1,y2,y3,z1,ha,E1,E2,E3,G1,h⟩:=h;obtain rfl:=E1 (by decide);obtain rfl:=E2 (by decide);obtain rfl:=E3 (by decide);obtain rfl:=G1 _ rfl;exact ⟨ha,h⟩
end
def condJ15 (w:World) (pb:Nat) (r29l r29h r30l r30h r31l r31h:Nat) (l:RowL) (a0:Act) (k:Nat) (p:List (Option Nat)) (a:Act) (v:World):Prop:=
 ∃ y1 y2 y3 z1:Value,a=((((a0.put (some 83) y1).put (some 85) y2).put (some 86) y3).put (some 20) z1)∧(0 < k→y1 = .agg #[r29l,r29h])∧(1 < k→y2 = .agg #[r30l,r30h])∧(2 < k→y3 = .agg #[r31l,r31h])∧(∀ q,p[0]? = some (some q)→z1 = .pointer (some ⟨q,0,none⟩))∧OwnF w ((pb,#[true]) :: l) [#[(),()]] p v
section
variable {w v:World} {pb:Nat} {r29l r29h r30l r30h r31l r31h:Nat} {l:RowL} {a0 a:Act} {p:List (Option Nat)}
theorem condJ15_0 (h:condJ15 w pb r29l r29h r30l r30h r31l r31h l a0 0 p a v):∃ y1 y2 y3 z1:Value,a=((((a0.put (some 83) y1).put (some 85) y2).put (some 86) y3).put (some 20) z1)∧(∀ q,p[0]? = some (some q)→z1 = .pointer (some ⟨q,0,none⟩))∧OwnF w ((pb,#[true]) :: l) [#[(),()]] p v:=by
 obtain⟨y1,y2,y3,z1,ha,E1,E2,E3,G1,h⟩:=h;exact ⟨y1,y2,y3,z1,ha,G1,h⟩
theorem condJ15_1 (h:condJ15 w pb r29l r29h r30l r30h r31l r31h l a0 1 p a v):∃ y2 y3 z1:Value,a=((((a0.put (some 83) (.agg #[r29l,r29h])).put (some 85) y2).put (some 86) y3).put (some 20) z1)∧(∀ q,p[0]? = some (some q)→z1 = .pointer (some ⟨q,0,none⟩))∧OwnF w ((pb,#[true]) :: l) [#[(),()]] p v:=by
 obtain⟨y1,y2,y3,z1,ha,E1,E2,E3,G1,h⟩:=h;obtain rfl:=E1 (by decide);exact ⟨y2,y3,z1,ha,G1,h⟩
theorem condJ15_2 (h:condJ15 w pb r29l r29h r30l r30h r31l r31h l a0 2 p a v):∃ y3 z1:Value,a=((((a0.put (some 83) (.agg #[r29l,r29h])).put (some 85) (.agg #[r30l,r30h])).put (some 86) y3).put (some 20) z1)∧(∀ q,p[0]? = some (some q)→z1 = .pointer (some ⟨q,0,none⟩))∧OwnF w ((pb,#[true]) :: l) [#[(),()]] p v:=by
 obtain⟨y1,y2,y3,z1,ha,E1,E2,E3,G1,h⟩:=h;obtain rfl:=E1 (by decide);obtain rfl:=E2 (by decide);exact ⟨y3,z1,ha,G1,h⟩
theorem condJ15_fin {q1:Nat} (h:condJ15 w pb r29l r29h r30l r30h r31l r31h l a0 3 [some q1] a v):a=((((a0.put (some 83) (.agg #[r29l,r29h])).put (some 85) (.agg #[r30l,r30h])).put (some 86) (.agg #[r31l,r31h])).put (some 20) (.pointer (some ⟨q1,0,none⟩)))∧OwnF w ((pb,#[true]) :: l) [#[(),()]] [some q1] v:=by
 obtain⟨y1,y2,y3,z1,ha,E1,E2,E3,G1,h⟩:=h;obtain rfl:=E1 (by decide);obtain rfl:=E2 (by decide);obtain rfl:=E3 (by decide);obtain rfl:=G1 _ rfl;exact ⟨ha,h⟩
end
def condJ17 (w:World) (pb:Nat) (r33l r33h r34l r34h r35l r35h:Nat) (ek:Nat→Int) (l:RowL) (a0:Act) (k:Nat) (p:List (Option Nat)) (a:Act) (v:World):Prop:=
 ∃ y1 y2 y3 z1:Value,a=((((a0.put (some 93) y1).put (some 94) y2).put (some 95) y3).put (some 22) z1)∧(0 < k→y1 = .agg #[r33l,r33h])∧(1 < k→y2 = .agg #[r34l,r34h])∧(2 < k→y3 = .agg #[r35l,r35h])∧(∀ q,p[0]? = some (some q)→z1 = .pointer (some ⟨q,0,none⟩))∧OwnF w ((pb,#[.int .i64 (ek k)]) :: l) [#[(),()]] p v
section
variable {w v:World} {pb:Nat} {r33l r33h r34l r34h r35l r35h:Nat} {ek:Nat→Int} {l:RowL} {a0 a:Act} {p:List (Option Nat)}
theorem condJ17_0 (h:condJ17 w pb r33l r33h r34l r34h r35l r35h ek l a0 0 p a v):∃ y1 y2 y3 z1:Value,a=((((a0.put (some 93) y1).put (some 94) y2).put (some 95) y3).put (some 22) z1)∧(∀ q,p[0]? = some (some q)→z1 = .pointer (some ⟨q,0,none⟩))∧OwnF w ((pb,#[.int .i64 (ek 0)]) :: l) [#[(),()]] p v:=by
 obtain⟨y1,y2,y3,z1,ha,E1,E2,E3,G1,h⟩:=h;exact ⟨y1,y2,y3,z1,ha,G1,h⟩
theorem condJ17_1 (h:condJ17 w pb r33l r33h r34l r34h r35l r35h ek l a0 1 p a v):∃ y2 y3 z1:Value,a=((((a0.put (some 93) (.agg #[r33l,r33h])).put (some 94) y2).put (some 95) y3).put (some 22) z1)∧(∀ q,p[0]? = some (some q)→z1 = .pointer (some ⟨q,0,none⟩))∧OwnF w ((pb,#[.int .i64 (ek 1)]) :: l) [#[(),()]] p v:=by
 obtain⟨y1,y2,y3,z1,ha,E1,E2,E3,G1,h⟩:=h;obtain rfl:=E1 (by decide);exact ⟨y2,y3,z1,ha,G1,h⟩
theorem condJ17_2 (h:condJ17 w pb r33l r33h r34l r34h r35l r35h ek l a0 2 p a v):∃ y3 z1:Value,a=((((a0.put (some 93) (.agg #[r33l,r33h])).put (some 94) (.agg #[r34l,r34h])).put (some 95) y3).put (some 22) z1)∧(∀ q,p[0]? = some (some q)→z1 = .pointer (some ⟨q,0,none⟩))∧OwnF w ((pb,#[.int .i64 (ek 2)]) :: l) [#[(),()]] p v:=by
 obtain⟨y1,y2,y3,z1,ha,E1,E2,E3,G1,h⟩:=h;obtain rfl:=E1 (by decide);obtain rfl:=E2 (by decide);exact ⟨y3,z1,ha,G1,h⟩
theorem condJ17_fin {q1:Nat} (h:condJ17 w pb r33l r33h r34l r34h r35l r35h ek l a0 3 [some q1] a v):a=((((a0.put (some 93) (.agg #[r33l,r33h])).put (some 94) (.agg #[r34l,r34h])).put (some 95) (.agg #[r35l,r35h])).put (some 22) (.pointer (some ⟨q1,0,none⟩)))∧OwnF w ((pb,#[.int .i64 (ek 3)]) :: l) [#[(),()]] [some q1] v:=by
 obtain⟨y1,y2,y3,z1,ha,E1,E2,E3,G1,h⟩:=h;obtain rfl:=E1 (by decide);obtain rfl:=E2 (by decide);obtain rfl:=E3 (by decide);obtain rfl:=G1 _ rfl;exact ⟨ha,h⟩
end
def condJ18 (w:World) (pb:Nat) (r36l r36h r37l r37h:Nat) (e:Int) (l:RowL) (a0:Act) (k:Nat) (p:List (Option Nat)) (a:Act) (v:World):Prop:=
 ∃ y1 y2 y3:Value,a=(((a0.put (some 99) y1).put (some 100) y2).put (some 101) y3)∧(0 < k→y1 = .agg #[r36l,r36h])∧(1 < k→y2 = .agg #[r37l,r37h])∧(2 < k→y3 = .int .i64 e)∧OwnF w ((pb,#[.int .i64 e]) :: l) [] p v
section
variable {w v:World} {pb:Nat} {r36l r36h r37l r37h:Nat} {e:Int} {l:RowL} {a0 a:Act} {p:List (Option Nat)}
theorem condJ18_0 (h:condJ18 w pb r36l r36h r37l r37h e l a0 0 p a v):∃ y1 y2 y3:Value,a=(((a0.put (some 99) y1).put (some 100) y2).put (some 101) y3)∧OwnF w ((pb,#[.int .i64 e]) :: l) [] p v:=by
 obtain⟨y1,y2,y3,ha,E1,E2,E3,h⟩:=h;exact ⟨y1,y2,y3,ha,h⟩
theorem condJ18_1 (h:condJ18 w pb r36l r36h r37l r37h e l a0 1 p a v):∃ y2 y3:Value,a=(((a0.put (some 99) (.agg #[r36l,r36h])).put (some 100) y2).put (some 101) y3)∧OwnF w ((pb,#[.int .i64 e]) :: l) [] p v:=by
 obtain⟨y1,y2,y3,ha,E1,E2,E3,h⟩:=h;obtain rfl:=E1 (by decide);exact ⟨y2,y3,ha,h⟩
theorem condJ18_2 (h:condJ18 w pb r36l r36h r37l r37h e l a0 2 p a v):∃ y3:Value,a=(((a0.put (some 99) (.agg #[r36l,r36h])).put (some 100) (.agg #[r37l,r37h])).put (some 101) y3)∧OwnF w ((pb,#[.int .i64 e]) :: l) [] p v:=by
 obtain⟨y1,y2,y3,ha,E1,E2,E3,h⟩:=h;obtain rfl:=E1 (by decide);obtain rfl:=E2 (by decide);exact ⟨y3,ha,h⟩
theorem condJ18_fin (h:condJ18 w pb r36l r36h r37l r37h e l a0 3 [] a v):a=(((a0.put (some 99) (.agg #[r36l,r36h])).put (some 100) (.agg #[r37l,r37h])).put (some 101) (.int .i64 e))∧OwnF w ((pb,#[.int .i64 e]) :: l) [] [] v:=by
 obtain⟨y1,y2,y3,ha,E1,E2,E3,h⟩:=h;obtain rfl:=E1 (by decide);obtain rfl:=E2 (by decide);obtain rfl:=E3 (by decide);exact ⟨ha,h⟩
end
theorem cond_walk (a0l a0h a1l a1h a2l a2h r2l r2h r4l r4h r5l r5h r6l r6h r7l r7h r8l r8h r9l r9h r10l r10h r11l r11h r12l r12h r13l r13h r15l r15h r16l r16h r17l r17h r18l r18h r20l r20h r21l r21h r22l r22h r23l r23h r25l r25h r26l r26h r27l r27h r28l r28h r29l r29h r30l r30h r31l r31h r32l r32h r33l r33h r34l r34h r35l r35h r36l r36h r37l r37h:Nat) (e:Int) (w:World)
  (cH:Hid (∀ (q:Nat) (v:World),Has1 v (q,#[a0l,a0h,(),(4607182418800017408:Nat),a1l,a1h,(4589168020290535424:Nat),(4625196817309499392:Nat),a2l,a2h,(4589168020290535424:Nat),(4625196817309499392:Nat)])→Calls Tryz.prog 201 #[.slice (some ⟨q,0,none⟩) 3 3] v (Rt (.int .i64 0) v)))
  (d1:Hid (KN 35 0 0 4602678819172646912 4602678819172646912 4602678819172646912))
  (d2:Hid (K1 104 0 0 a0l a0h r2l r2h))
  (d3:Hid (KN 35 0 0 4607182418800017408 4607182418800017408 4607182418800017408))
  (d4:Hid (K2 34 0 0 4607182418800017408 4607182418800017408 r2l r2h r4l r4h))
  (d5:Hid (KI 202 r4l r4h r5l r5h))
  (d6:Hid (K1 104 0 0 a1l a1h r6l r6h))
  (d7:Hid (K1 104 0 0 a2l a2h r7l r7h))
  (d8:Hid (K2 32 0 0 r6l r6h r7l r7h r8l r8h))
  (d9:Hid (K1 104 0 0 a1l a1h r9l r9h))
  (d10:Hid (K1 104 0 0 a2l a2h r10l r10h))
  (d11:Hid (K2 34 0 0 r9l r9h r10l r10h r11l r11h))
  (d12:Hid (K2 34 0 0 r11l r11h r5l r5h r12l r12h))
  (d13:Hid (K1 104 0 0 r12l r12h r13l r13h))
  (d14:Hid (KN 35 0 0 4616189618054758400 4616189618054758400 4616189618054758400))
  (d15:Hid (K2 32 0 0 4616189618054758400 4616189618054758400 r8l r8h r15l r15h))
  (d16:Hid (K2 103 0 0 r13l r13h r15l r15h r16l r16h))
  (d17:Hid (K1 30 0 0 r16l r16h r17l r17h))
  (d18:Hid (K2 103 0 0 r17l r17h r12l r12h r18l r18h))
  (d19:Hid (KN 35 0 0 0 0 0))
  (d20:Hid (K2 33 0 0 r18l r18h 0 0 r20l r20h))
  (d21:Hid (K2 32 0 0 4602678819172646912 4602678819172646912 r20l r20h r21l r21h))
  (d22:Hid (K1 30 0 0 r21l r21h r22l r22h))
  (d23:Hid (K2 103 0 0 r17l r17h r2l r2h r23l r23h))
  (d24:Hid (KN 35 0 0 4611686018427387904 4611686018427387904 4611686018427387904))
  (d25:Hid (K2 32 0 0 4611686018427387904 4611686018427387904 r22l r22h r25l r25h))
  (d26:Hid (K2 32 0 0 r25l r25h a0l a0h r26l r26h))
  (d27:Hid (K2 209 0 0 r23l r23h r26l r26h r27l r27h))
  (d28:Hid (KI 202 r27l r27h r28l r28h))
  (d29:Hid (K2 32 0 0 r2l r2h r17l r17h r29l r29h))
  (d30:Hid (K1 104 0 0 r5l r5h r30l r30h))
  (d31:Hid (K2 103 0 0 r29l r29h r30l r30h r31l r31h))
  (d32:Hid (K2 32 0 0 r26l r26h r5l r5h r32l r32h))
  (d33:Hid (K2 209 0 e r31l r31h r32l r32h r33l r33h))
  (d34:Hid (K2 32 e e r28l r28h r33l r33h r34l r34h))
  (d35:Hid (KI 202 r34l r34h r35l r35h))
  (d36:Hid (K2 103 e e r28l r28h r35l r35h r36l r36h))
  (d37:Hid (K2 32 e e 4602678819172646912 4602678819172646912 r36l r36h r37l r37h)) :
  Calls Tryz.prog 191 #[.agg #[a0l,a0h],.agg #[a1l,a1h],.agg #[a2l,a2h]] w (Rt (.tuple #[.agg #[r37l,r37h],.int .i64 e]) w):=by
 have M0:=Hd ((((((Own.nil w).made #[a0l,a0h] 31).made #[a1l,a1h] 31).made #[a2l,a2h] 31).made #[(),()] 31).made #[a0l,a0h,(),(4607182418800017408:Nat),a1l,a1h,(4589168020290535424:Nat),(4625196817309499392:Nat),a2l,a2h,(4589168020290535424:Nat),(4625196817309499392:Nat)] 190);simp only [World.size_alloc] at M0;obtain⟨kk0,kk1⟩:=(M0.out.nth 4 rfl).two;obtain⟨kk2,kk3⟩:=(M0.out.nth 3 rfl).two;obtain⟨kk4,kk5⟩:=(M0.out.nth 2 rfl).two;go_enter Tryz.func191,Tryz.ntmps191;go_wp2_with fail;refine (cH.out _ _ (M0.out.nth 0 rfl)).mono ?_;rintro r w1 ⟨rfl,hb⟩;have M:=Hd ((M0.out.below hb).tail.made #[true] 74);clear hb M0 kk0 kk1 kk2 kk3 kk4 kk5 cH;go_wp2_with fail;refine (d1.out _ _ ((M.o.nth 0 rfl))).mono ?_;rintro r u1 ⟨rfl,hp⟩;replace M:=Hd (M.o.putHead hp);clear hp;replace M:=Hd (M.o.made #[(4602678819172646912:Nat),(4602678819172646912:Nat)] 31).front;obtain⟨k1,k2⟩:=(M.o.nth 5 rfl).two;go_wp2_with fail
 refine (d2.out _ _ ((M.o.nth 0 rfl))).mono ?_;rintro r u2 ⟨rfl,hp⟩;replace M:=Hd (M.o.putHead hp);clear hp;clear k1 k2;replace M:=Hd (M.o.made #[r2l,r2h] 31).front;go_upto_region 7 with fail;replace M:=Hd M.o.drew;refine wp_region_noPanic ?_;refine tails_region (S:=fun w'=>(Cf w' u2.heap.size 0 r2l∧Cf w' u2.heap.size 1 r2h)) [] (by kernel_rfl) ?_ (fun hS=>?_)
 ·exact (M.o.nth 1 rfl).two
 refine tk (x:=?_) 1 rfl (by kernel_rfl) ⟨by rfl,?_⟩ (fun _ _ _ h=>h) hS ?_
 rotate_left; focus (intro w hSw; (try dsimp only at hSw); go_simp; try with_reducible rfl)
 conv=>arg 9; simp only [Act.put,go_sem]
 refine lam_3_1 M (T:=[]) 0 2 3 4 [38,40,41,12] 1 (condJ7 w w1.heap.size r4l r4h r5l r5h) (by kernel_rfl) (by kernel_rfl) ?_ ?_ ?_ ?_ ?_ ?_ ?_
 ·intro A hA
  obtain⟨y1,hq1⟩:=put_ex (hA 38 (by simp));obtain⟨y2,hq2⟩:=put_ex (hA 40 (by simp));obtain⟨y3,hq3⟩:=put_ex (hA 41 (by simp));obtain⟨z1,hq4⟩:=put_ex (hA 12 (by simp));exact ⟨y1,y2,y3,z1,by rw [hq1,hq2,hq3,hq4],by omega,by omega,by omega,by simp,OwnF.start M.out 1⟩
 ·rintro k p a v ⟨y1,y2,y3,z1,_,_,_,_,_,h⟩
  exact (h.own.nth 1 rfl).two
 ·intro p a v hJ
  refine os fun K hK=>?_
  obtain⟨y1,y2,y3,z1,rfl,gg1,h⟩:=condJ7_0 hJ;have h:=Hd h;clear hJ;go_simp;refine (d3.out _ _ ((h.out.own.nth 0 rfl))).mono ?_;rintro rr w5 ⟨rfl,hp⟩
  try go_wp2_with fail
  refine hK.out _ _ ⟨_,y2,y3,z1,?_,fun _=>rfl,by omega,by omega,gg1,h.out.putHead hp⟩;kernel_rfl
 ·intro p a v hJ
  refine os fun K hK=>?_
  obtain⟨y2,y3,z1,rfl,gg1,h⟩:=condJ7_1 hJ;have h:=Hd h;clear hJ;go_simp;refine (d4.out _ _ ((h.out.own.nth 0 rfl))).mono ?_;rintro rr w5 ⟨rfl,hp⟩
  try go_wp2_with fail
  refine hK.out _ _ ⟨_,_,y3,z1,?_,fun _=>rfl,fun _=>rfl,by omega,gg1,h.out.putHead hp⟩;kernel_rfl
 ·intro p a v hJ
  refine os fun K hK=>?_
  obtain⟨y3,z1,rfl,gg1,h⟩:=condJ7_2 hJ;have h:=Hd h;clear hJ;go_simp;refine (d5.out _).mono ?_;rintro rr w5 ⟨rfl,hp⟩
  try go_wp2_with fail
  refine hK.out _ _ ⟨_,_,_,z1,?_,fun _=>rfl,fun _=>rfl,fun _=>rfl,gg1,h.out.below hp⟩;kernel_rfl
 ·intro k p a v hp hJ
  refine os fun K hK=>?_
  obtain⟨y1,y2,y3,z1,rfl,ee1,ee2,ee3,gg1,h⟩:=hJ;have h:=Hd h;go_simp;refine hK.out _ _ ⟨v.heap.size,y1,y2,y3,.pointer (some ⟨v.heap.size,0,none⟩),?_,ee1,ee2,ee3,fun q hq=>ptr_set hq,h.out.alloc hp rfl _⟩;kernel_rfl
 intro p3_1 a v hJ;obtain⟨rfl,h⟩:=condJ7_fin hJ;clear hJ;replace M:=Hd h.fin1;clear h
 refine tn [] 5 fun K hK=>?_
 have kc:=(M.o.nth 0 rfl).2.1;have kf:=(M.o.nth 0 rfl).2.2;replace M:=Hd (M.o.setHead r5l r5h);go_simp;refine hK.out _ _ (Or.inr (M.o.nth 2 rfl).two) (fun hHeld=>?_);clear hK K hHeld kc kf;refine tails_done (by kernel_rfl) ?_ _;refine NoPanic.normal ?_;clear hS;revert M;generalize ((v.setCell ⟨p3_1,0,none⟩ (r5l:Value)).setCell ⟨p3_1,1,none⟩ (r5h:Value))=W;intro M;replace M:=Hd M.o.front;revert M;generalize W=W3;intro M;go_upto_region 8 with fail;replace M:=Hd M.o.drew;refine wp_region_noPanic ?_;refine tails_region (S:=fun w'=>(Cf w' (w.heap.size+1) 0 a1l∧Cf w' (w.heap.size+1) 1 a1h)∧(Cf w' (w.heap.size+1+1) 0 a2l∧Cf w' (w.heap.size+1+1) 1 a2h)) [] (by kernel_rfl) ?_ (fun hS=>?_)
 ·exact ⟨(M.o.nth 6 rfl).two,(M.o.nth 5 rfl).two⟩
 refine tk (x:=?_) 0 rfl (by kernel_rfl) ⟨by rfl,?_⟩ (fun _ _ _ h=>h) hS ?_
 rotate_left; focus (intro w hSw; (try dsimp only at hSw); go_simp; try with_reducible rfl)
 refine tk (x:=?_) 2 rfl (by kernel_rfl) ⟨by rfl,?_⟩ (fun _ _ _ h=>h) hS ?_
 rotate_left; focus (intro w hSw; (try dsimp only at hSw); go_simp; try with_reducible rfl)
 conv=>arg 9; simp only [Act.put,go_sem]
 refine lam_3_1 M (T:=[]) 1 3 4 5 [43,45,46,13] 1 (condJ8 w w1.heap.size r6l r6h r7l r7h r8l r8h) (by kernel_rfl) (by kernel_rfl) ?_ ?_ ?_ ?_ ?_ ?_ ?_
 ·intro A hA
  obtain⟨y1,hq1⟩:=put_ex (hA 43 (by simp));obtain⟨y2,hq2⟩:=put_ex (hA 45 (by simp));obtain⟨y3,hq3⟩:=put_ex (hA 46 (by simp));obtain⟨z1,hq4⟩:=put_ex (hA 13 (by simp));exact ⟨y1,y2,y3,z1,by rw [hq1,hq2,hq3,hq4],by omega,by omega,by omega,by simp,OwnF.start M.out 1⟩
 ·rintro k p a v ⟨y1,y2,y3,z1,_,_,_,_,_,h⟩
  exact ⟨(h.own.nth 6 rfl).two,(h.own.nth 5 rfl).two⟩
 ·intro p a v hJ
  refine os fun K hK=>?_
  obtain⟨y1,y2,y3,z1,rfl,gg1,h⟩:=condJ8_0 hJ;have h:=Hd h;clear hJ;go_simp;refine (d6.out _ _ ((h.out.own.nth 0 rfl))).mono ?_;rintro rr w5 ⟨rfl,hp⟩
  try go_wp2_with fail
  refine hK.out _ _ ⟨_,y2,y3,z1,?_,fun _=>rfl,by omega,by omega,gg1,h.out.putHead hp⟩;kernel_rfl
 ·intro p a v hJ
  refine os fun K hK=>?_
  obtain⟨y2,y3,z1,rfl,gg1,h⟩:=condJ8_1 hJ;have h:=Hd h;clear hJ;go_simp;refine (d7.out _ _ ((h.out.own.nth 0 rfl))).mono ?_;rintro rr w5 ⟨rfl,hp⟩
  try go_wp2_with fail
  refine hK.out _ _ ⟨_,_,y3,z1,?_,fun _=>rfl,fun _=>rfl,by omega,gg1,h.out.putHead hp⟩;kernel_rfl
 ·intro p a v hJ
  refine os fun K hK=>?_
  obtain⟨y3,z1,rfl,gg1,h⟩:=condJ8_2 hJ;have h:=Hd h;clear hJ;go_simp;refine (d8.out _ _ ((h.out.own.nth 0 rfl))).mono ?_;rintro rr w5 ⟨rfl,hp⟩
  try go_wp2_with fail
  refine hK.out _ _ ⟨_,_,_,z1,?_,fun _=>rfl,fun _=>rfl,fun _=>rfl,gg1,h.out.putHead hp⟩;kernel_rfl
 ·intro k p a v hp hJ
  refine os fun K hK=>?_
  obtain⟨y1,y2,y3,z1,rfl,ee1,ee2,ee3,gg1,h⟩:=hJ;have h:=Hd h;go_simp;refine hK.out _ _ ⟨v.heap.size,y1,y2,y3,.pointer (some ⟨v.heap.size,0,none⟩),?_,ee1,ee2,ee3,fun q hq=>ptr_set hq,h.out.alloc hp rfl _⟩;kernel_rfl
 intro p4_1 a v hJ;obtain⟨rfl,h⟩:=condJ8_fin hJ;clear hJ;replace M:=Hd h.fin1;clear h
 refine tn [] 6 fun K hK=>?_
 have kc:=(M.o.nth 0 rfl).2.1;have kf:=(M.o.nth 0 rfl).2.2;replace M:=Hd (M.o.setHead r8l r8h);go_simp;refine hK.out _ _ (Or.inr ⟨(M.o.nth 7 rfl).two,(M.o.nth 6 rfl).two⟩) (fun hHeld=>?_);clear hK K hHeld kc kf;refine tails_done (by kernel_rfl) ?_ _;refine NoPanic.normal ?_;clear hS;revert M;generalize ((v.setCell ⟨p4_1,0,none⟩ (r8l:Value)).setCell ⟨p4_1,1,none⟩ (r8h:Value))=W;intro M;replace M:=Hd M.o.front;revert M;generalize W=W4;intro M;go_upto_region 9 with fail;replace M:=Hd M.o.drew;refine wp_region_noPanic ?_;refine tails_region (S:=fun w'=>(Cf w' (w.heap.size+1) 0 a1l∧Cf w' (w.heap.size+1) 1 a1h)∧(Cf w' (w.heap.size+1+1) 0 a2l∧Cf w' (w.heap.size+1+1) 1 a2h)∧(Cf w' p3_1 0 r5l∧Cf w' p3_1 1 r5h)) [] (by kernel_rfl) ?_ (fun hS=>?_)
 ·exact ⟨(M.o.nth 7 rfl).two,(M.o.nth 6 rfl).two,(M.o.nth 2 rfl).two⟩
 refine tk (x:=?_) 0 rfl (by kernel_rfl) ⟨by rfl,?_⟩ (fun _ _ _ h=>h) hS ?_
 rotate_left; focus (intro w hSw; (try dsimp only at hSw); go_simp; try with_reducible rfl)
 refine tk (x:=?_) 2 rfl (by kernel_rfl) ⟨by rfl,?_⟩ (fun _ _ _ h=>h) hS ?_
 rotate_left; focus (intro w hSw; (try dsimp only at hSw); go_simp; try with_reducible rfl)
 refine tk (x:=?_) 5 rfl (by kernel_rfl) ⟨by rfl,?_⟩ (fun _ _ _ h=>h) hS ?_
 rotate_left; focus (intro w hSw; (try dsimp only at hSw); go_simp; try with_reducible rfl)
 conv=>arg 9; simp only [Act.put,go_sem]
 refine lam_4_1 M (T:=[]) 1 3 4 6 7 [48,50,51,53,14] 1 (condJ9 w w1.heap.size r9l r9h r10l r10h r11l r11h r12l r12h) (by kernel_rfl) (by kernel_rfl) ?_ ?_ ?_ ?_ ?_ ?_ ?_ ?_
 ·intro A hA
  obtain⟨y1,hq1⟩:=put_ex (hA 48 (by simp));obtain⟨y2,hq2⟩:=put_ex (hA 50 (by simp));obtain⟨y3,hq3⟩:=put_ex (hA 51 (by simp));obtain⟨y4,hq4⟩:=put_ex (hA 53 (by simp));obtain⟨z1,hq5⟩:=put_ex (hA 14 (by simp));exact ⟨y1,y2,y3,y4,z1,by rw [hq1,hq2,hq3,hq4,hq5],by omega,by omega,by omega,by omega,by simp,OwnF.start M.out 1⟩
 ·rintro k p a v ⟨y1,y2,y3,y4,z1,_,_,_,_,_,_,h⟩
  exact ⟨(h.own.nth 7 rfl).two,(h.own.nth 6 rfl).two,(h.own.nth 2 rfl).two⟩
 ·intro p a v hJ
  refine os fun K hK=>?_
  obtain⟨y1,y2,y3,y4,z1,rfl,gg1,h⟩:=condJ9_0 hJ;have h:=Hd h;clear hJ;go_simp;refine (d9.out _ _ ((h.out.own.nth 0 rfl))).mono ?_;rintro rr w5 ⟨rfl,hp⟩
  try go_wp2_with fail
  refine hK.out _ _ ⟨_,y2,y3,y4,z1,?_,fun _=>rfl,by omega,by omega,by omega,gg1,h.out.putHead hp⟩;kernel_rfl
 ·intro p a v hJ
  refine os fun K hK=>?_
  obtain⟨y2,y3,y4,z1,rfl,gg1,h⟩:=condJ9_1 hJ;have h:=Hd h;clear hJ;go_simp;refine (d10.out _ _ ((h.out.own.nth 0 rfl))).mono ?_;rintro rr w5 ⟨rfl,hp⟩
  try go_wp2_with fail
  refine hK.out _ _ ⟨_,_,y3,y4,z1,?_,fun _=>rfl,fun _=>rfl,by omega,by omega,gg1,h.out.putHead hp⟩;kernel_rfl
 ·intro p a v hJ
  refine os fun K hK=>?_
  obtain⟨y3,y4,z1,rfl,gg1,h⟩:=condJ9_2 hJ;have h:=Hd h;clear hJ;go_simp;refine (d11.out _ _ ((h.out.own.nth 0 rfl))).mono ?_;rintro rr w5 ⟨rfl,hp⟩
  try go_wp2_with fail
  refine hK.out _ _ ⟨_,_,_,y4,z1,?_,fun _=>rfl,fun _=>rfl,fun _=>rfl,by omega,gg1,h.out.putHead hp⟩;kernel_rfl
 ·intro p a v hJ
  refine os fun K hK=>?_
  obtain⟨y4,z1,rfl,gg1,h⟩:=condJ9_3 hJ;have h:=Hd h;clear hJ;go_simp;refine (d12.out _ _ ((h.out.own.nth 0 rfl))).mono ?_;rintro rr w5 ⟨rfl,hp⟩
  try go_wp2_with fail
  refine hK.out _ _ ⟨_,_,_,_,z1,?_,fun _=>rfl,fun _=>rfl,fun _=>rfl,fun _=>rfl,gg1,h.out.putHead hp⟩;kernel_rfl
 ·intro k p a v hp hJ
  refine os fun K hK=>?_
  obtain⟨y1,y2,y3,y4,z1,rfl,ee1,ee2,ee3,ee4,gg1,h⟩:=hJ;have h:=Hd h;go_simp;refine hK.out _ _ ⟨v.heap.size,y1,y2,y3,y4,.pointer (some ⟨v.heap.size,0,none⟩),?_,ee1,ee2,ee3,ee4,fun q hq=>ptr_set hq,h.out.alloc hp rfl _⟩;kernel_rfl
 intro p5_1 a v hJ;obtain⟨rfl,h⟩:=condJ9_fin hJ;clear hJ;replace M:=Hd h.fin1;clear h
 refine tn [] 8 fun K hK=>?_
 have kc:=(M.o.nth 0 rfl).2.1;have kf:=(M.o.nth 0 rfl).2.2;replace M:=Hd (M.o.setHead r12l r12h);go_simp;refine hK.out _ _ (Or.inr ⟨(M.o.nth 8 rfl).two,(M.o.nth 7 rfl).two,(M.o.nth 3 rfl).two⟩) (fun hHeld=>?_);clear hK K hHeld kc kf;refine tails_done (by kernel_rfl) ?_ _;refine NoPanic.normal ?_;clear hS;revert M;generalize ((v.setCell ⟨p5_1,0,none⟩ (r12l:Value)).setCell ⟨p5_1,1,none⟩ (r12h:Value))=W;intro M;replace M:=Hd M.o.front;revert M;generalize W=W5;intro M;go_upto_region 10 with fail;replace M:=Hd M.o.drew;refine wp_region_noPanic ?_;refine tails_region (S:=fun w'=>(Cf w' p5_1 0 r12l∧Cf w' p5_1 1 r12h)∧(Cf w' p4_1 0 r8l∧Cf w' p4_1 1 r8h)) [] (by kernel_rfl) ?_ (fun hS=>?_)
 ·exact ⟨(M.o.nth 1 rfl).two,(M.o.nth 2 rfl).two⟩
 refine tk (x:=?_) 0 rfl (by kernel_rfl) ⟨by rfl,?_⟩ (fun _ _ _ h=>h) hS ?_
 rotate_left; focus (intro w hSw; (try dsimp only at hSw); go_simp; try with_reducible rfl)
 refine tk (x:=?_) 3 rfl (by kernel_rfl) ⟨by rfl,?_⟩ (fun _ _ _ h=>h) hS ?_
 rotate_left; focus (intro w hSw; (try dsimp only at hSw); go_simp; try with_reducible rfl)
 conv=>arg 9; simp only [Act.put,go_sem]
 refine lam_5_1 M (T:=[]) 1 2 4 5 6 7 [55,56,58,59,60,15] 1 (condJ10 w w1.heap.size r13l r13h r15l r15h r16l r16h r17l r17h) (by kernel_rfl) (by kernel_rfl) ?_ ?_ ?_ ?_ ?_ ?_ ?_ ?_ ?_
 ·intro A hA
  obtain⟨y1,hq1⟩:=put_ex (hA 55 (by simp));obtain⟨y2,hq2⟩:=put_ex (hA 56 (by simp));obtain⟨y3,hq3⟩:=put_ex (hA 58 (by simp));obtain⟨y4,hq4⟩:=put_ex (hA 59 (by simp));obtain⟨y5,hq5⟩:=put_ex (hA 60 (by simp));obtain⟨z1,hq6⟩:=put_ex (hA 15 (by simp));exact ⟨y1,y2,y3,y4,y5,z1,by rw [hq1,hq2,hq3,hq4,hq5,hq6],by omega,by omega,by omega,by omega,by omega,by simp,OwnF.start M.out 1⟩
 ·rintro k p a v ⟨y1,y2,y3,y4,y5,z1,_,_,_,_,_,_,_,h⟩
  exact ⟨(h.own.nth 1 rfl).two,(h.own.nth 2 rfl).two⟩
 ·intro p a v hJ
  refine os fun K hK=>?_
  obtain⟨y1,y2,y3,y4,y5,z1,rfl,gg1,h⟩:=condJ10_0 hJ;have h:=Hd h;clear hJ;go_simp;refine (d13.out _ _ ((h.out.own.nth 0 rfl))).mono ?_;rintro rr w5 ⟨rfl,hp⟩
  try go_wp2_with fail
  refine hK.out _ _ ⟨_,y2,y3,y4,y5,z1,?_,fun _=>rfl,by omega,by omega,by omega,by omega,gg1,h.out.putHead hp⟩;kernel_rfl
 ·intro p a v hJ
  refine os fun K hK=>?_
  obtain⟨y2,y3,y4,y5,z1,rfl,gg1,h⟩:=condJ10_1 hJ;have h:=Hd h;clear hJ;go_simp;refine (d14.out _ _ ((h.out.own.nth 0 rfl))).mono ?_;rintro rr w5 ⟨rfl,hp⟩
  try go_wp2_with fail
  refine hK.out _ _ ⟨_,_,y3,y4,y5,z1,?_,fun _=>rfl,fun _=>rfl,by omega,by omega,by omega,gg1,h.out.putHead hp⟩;kernel_rfl
 ·intro p a v hJ
  refine os fun K hK=>?_
  obtain⟨y3,y4,y5,z1,rfl,gg1,h⟩:=condJ10_2 hJ;have h:=Hd h;clear hJ;go_simp;refine (d15.out _ _ ((h.out.own.nth 0 rfl))).mono ?_;rintro rr w5 ⟨rfl,hp⟩
  try go_wp2_with fail
  refine hK.out _ _ ⟨_,_,_,y4,y5,z1,?_,fun _=>rfl,fun _=>rfl,fun _=>rfl,by omega,by omega,gg1,h.out.putHead hp⟩;kernel_rfl
 ·intro p a v hJ
  refine os fun K hK=>?_
  obtain⟨y4,y5,z1,rfl,gg1,h⟩:=condJ10_3 hJ;have h:=Hd h;clear hJ;go_simp;refine (d16.out _ _ ((h.out.own.nth 0 rfl))).mono ?_;rintro rr w5 ⟨rfl,hp⟩
  try go_wp2_with fail
  refine hK.out _ _ ⟨_,_,_,_,y5,z1,?_,fun _=>rfl,fun _=>rfl,fun _=>rfl,fun _=>rfl,by omega,gg1,h.out.putHead hp⟩;kernel_rfl
 ·intro p a v hJ
  refine os fun K hK=>?_
  obtain⟨y5,z1,rfl,gg1,h⟩:=condJ10_4 hJ;have h:=Hd h;clear hJ;go_simp;refine (d17.out _ _ ((h.out.own.nth 0 rfl))).mono ?_;rintro rr w5 ⟨rfl,hp⟩
  try go_wp2_with fail
  refine hK.out _ _ ⟨_,_,_,_,_,z1,?_,fun _=>rfl,fun _=>rfl,fun _=>rfl,fun _=>rfl,fun _=>rfl,gg1,h.out.putHead hp⟩;kernel_rfl
 ·intro k p a v hp hJ
  refine os fun K hK=>?_
  obtain⟨y1,y2,y3,y4,y5,z1,rfl,ee1,ee2,ee3,ee4,ee5,gg1,h⟩:=hJ;have h:=Hd h;go_simp;refine hK.out _ _ ⟨v.heap.size,y1,y2,y3,y4,y5,.pointer (some ⟨v.heap.size,0,none⟩),?_,ee1,ee2,ee3,ee4,ee5,fun q hq=>ptr_set hq,h.out.alloc hp rfl _⟩;kernel_rfl
 intro p6_1 a v hJ;obtain⟨rfl,h⟩:=condJ10_fin hJ;clear hJ;replace M:=Hd h.fin1;clear h
 refine tn [] 8 fun K hK=>?_
 have kc:=(M.o.nth 0 rfl).2.1;have kf:=(M.o.nth 0 rfl).2.2;replace M:=Hd (M.o.setHead r17l r17h);go_simp;refine hK.out _ _ (Or.inr ⟨(M.o.nth 2 rfl).two,(M.o.nth 3 rfl).two⟩) (fun hHeld=>?_);clear hK K hHeld kc kf;refine tails_done (by kernel_rfl) ?_ _;refine NoPanic.normal ?_;clear hS;revert M;generalize ((v.setCell ⟨p6_1,0,none⟩ (r17l:Value)).setCell ⟨p6_1,1,none⟩ (r17h:Value))=W;intro M;replace M:=Hd M.o.front;revert M;generalize W=W6;intro M;go_upto_region 11 with fail;replace M:=Hd M.o.drew;refine wp_region_noPanic ?_;refine tails_region (S:=fun w'=>(Cf w' u1.heap.size 0 4602678819172646912∧Cf w' u1.heap.size 1 4602678819172646912)∧(Cf w' p6_1 0 r17l∧Cf w' p6_1 1 r17h)∧(Cf w' p5_1 0 r12l∧Cf w' p5_1 1 r12h)) [] (by kernel_rfl) ?_ (fun hS=>?_)
 ·exact ⟨(M.o.nth 6 rfl).two,(M.o.nth 1 rfl).two,(M.o.nth 2 rfl).two⟩
 refine tk (x:=?_) 0 rfl (by kernel_rfl) ⟨by rfl,?_⟩ (fun _ _ _ h=>h) hS ?_
 rotate_left; focus (intro w hSw; (try dsimp only at hSw); go_simp; try with_reducible rfl)
 refine tk (x:=?_) 1 rfl (by kernel_rfl) ⟨by rfl,?_⟩ (fun _ _ _ h=>h) hS ?_
 rotate_left; focus (intro w hSw; (try dsimp only at hSw); go_simp; try with_reducible rfl)
 refine tk (x:=?_) 2 rfl (by kernel_rfl) ⟨by rfl,?_⟩ (fun _ _ _ h=>h) hS ?_
 rotate_left; focus (intro w hSw; (try dsimp only at hSw); go_simp; try with_reducible rfl)
 conv=>arg 9; simp only [Act.put,go_sem]
 refine lam_5_1 M (T:=[]) 3 4 5 6 7 8 [64,65,66,67,68,16] 1 (condJ11 w w1.heap.size r18l r18h r20l r20h r21l r21h r22l r22h) (by kernel_rfl) (by kernel_rfl) ?_ ?_ ?_ ?_ ?_ ?_ ?_ ?_ ?_
 ·intro A hA
  obtain⟨y1,hq1⟩:=put_ex (hA 64 (by simp));obtain⟨y2,hq2⟩:=put_ex (hA 65 (by simp));obtain⟨y3,hq3⟩:=put_ex (hA 66 (by simp));obtain⟨y4,hq4⟩:=put_ex (hA 67 (by simp));obtain⟨y5,hq5⟩:=put_ex (hA 68 (by simp));obtain⟨z1,hq6⟩:=put_ex (hA 16 (by simp));exact ⟨y1,y2,y3,y4,y5,z1,by rw [hq1,hq2,hq3,hq4,hq5,hq6],by omega,by omega,by omega,by omega,by omega,by simp,OwnF.start M.out 1⟩
 ·rintro k p a v ⟨y1,y2,y3,y4,y5,z1,_,_,_,_,_,_,_,h⟩
  exact ⟨(h.own.nth 6 rfl).two,(h.own.nth 1 rfl).two,(h.own.nth 2 rfl).two⟩
 ·intro p a v hJ
  refine os fun K hK=>?_
  obtain⟨y1,y2,y3,y4,y5,z1,rfl,gg1,h⟩:=condJ11_0 hJ;have h:=Hd h;clear hJ;go_simp;refine (d18.out _ _ ((h.out.own.nth 0 rfl))).mono ?_;rintro rr w5 ⟨rfl,hp⟩
  try go_wp2_with fail
  refine hK.out _ _ ⟨_,y2,y3,y4,y5,z1,?_,fun _=>rfl,by omega,by omega,by omega,by omega,gg1,h.out.putHead hp⟩;kernel_rfl
 ·intro p a v hJ
  refine os fun K hK=>?_
  obtain⟨y2,y3,y4,y5,z1,rfl,gg1,h⟩:=condJ11_1 hJ;have h:=Hd h;clear hJ;go_simp;refine (d19.out _ _ ((h.out.own.nth 0 rfl))).mono ?_;rintro rr w5 ⟨rfl,hp⟩
  try go_wp2_with fail
  refine hK.out _ _ ⟨_,_,y3,y4,y5,z1,?_,fun _=>rfl,fun _=>rfl,by omega,by omega,by omega,gg1,h.out.putHead hp⟩;kernel_rfl
 ·intro p a v hJ
  refine os fun K hK=>?_
  obtain⟨y3,y4,y5,z1,rfl,gg1,h⟩:=condJ11_2 hJ;have h:=Hd h;clear hJ;go_simp;refine (d20.out _ _ ((h.out.own.nth 0 rfl))).mono ?_;rintro rr w5 ⟨rfl,hp⟩
  try go_wp2_with fail
  refine hK.out _ _ ⟨_,_,_,y4,y5,z1,?_,fun _=>rfl,fun _=>rfl,fun _=>rfl,by omega,by omega,gg1,h.out.putHead hp⟩;kernel_rfl
 ·intro p a v hJ
  refine os fun K hK=>?_
  obtain⟨y4,y5,z1,rfl,gg1,h⟩:=condJ11_3 hJ;have h:=Hd h;clear hJ;go_simp;refine (d21.out _ _ ((h.out.own.nth 0 rfl))).mono ?_;rintro rr w5 ⟨rfl,hp⟩
  try go_wp2_with fail
  refine hK.out _ _ ⟨_,_,_,_,y5,z1,?_,fun _=>rfl,fun _=>rfl,fun _=>rfl,fun _=>rfl,by omega,gg1,h.out.putHead hp⟩;kernel_rfl
 ·intro p a v hJ
  refine os fun K hK=>?_
  obtain⟨y5,z1,rfl,gg1,h⟩:=condJ11_4 hJ;have h:=Hd h;clear hJ;go_simp;refine (d22.out _ _ ((h.out.own.nth 0 rfl))).mono ?_;rintro rr w5 ⟨rfl,hp⟩
  try go_wp2_with fail
  refine hK.out _ _ ⟨_,_,_,_,_,z1,?_,fun _=>rfl,fun _=>rfl,fun _=>rfl,fun _=>rfl,fun _=>rfl,gg1,h.out.putHead hp⟩;kernel_rfl
 ·intro k p a v hp hJ
  refine os fun K hK=>?_
  obtain⟨y1,y2,y3,y4,y5,z1,rfl,ee1,ee2,ee3,ee4,ee5,gg1,h⟩:=hJ;have h:=Hd h;go_simp;refine hK.out _ _ ⟨v.heap.size,y1,y2,y3,y4,y5,.pointer (some ⟨v.heap.size,0,none⟩),?_,ee1,ee2,ee3,ee4,ee5,fun q hq=>ptr_set hq,h.out.alloc hp rfl _⟩;kernel_rfl
 intro p7_1 a v hJ;obtain⟨rfl,h⟩:=condJ11_fin hJ;clear hJ;replace M:=Hd h.fin1;clear h
 refine tn [] 9 fun K hK=>?_
 have kc:=(M.o.nth 0 rfl).2.1;have kf:=(M.o.nth 0 rfl).2.2;replace M:=Hd (M.o.setHead r22l r22h);go_simp;refine hK.out _ _ (Or.inr ⟨(M.o.nth 7 rfl).two,(M.o.nth 2 rfl).two,(M.o.nth 3 rfl).two⟩) (fun hHeld=>?_);clear hK K hHeld kc kf;refine tails_done (by kernel_rfl) ?_ _;refine NoPanic.normal ?_;clear hS;revert M;generalize ((v.setCell ⟨p7_1,0,none⟩ (r22l:Value)).setCell ⟨p7_1,1,none⟩ (r22h:Value))=W;intro M;replace M:=Hd M.o.front;revert M;generalize W=W7;intro M;obtain⟨k1,k2⟩:=(M.o.nth 2 rfl).two;obtain⟨k3,k4⟩:=(M.o.nth 6 rfl).two;go_wp2_with fail;refine (d23.out _ _ ((M.o.nth 0 rfl))).mono ?_;rintro r u8 ⟨rfl,hp⟩;replace M:=Hd (M.o.putHead hp);clear hp;clear k1 k2 k3 k4;replace M:=Hd (M.o.made #[r23l,r23h] 31).front;go_upto_region 13 with fail;replace M:=Hd M.o.drew;refine wp_region_noPanic ?_;refine tails_region (S:=fun w'=>(Cf w' p7_1 0 r22l∧Cf w' p7_1 1 r22h)∧(Cf w' w.heap.size 0 a0l∧Cf w' w.heap.size 1 a0h)) [] (by kernel_rfl) ?_ (fun hS=>?_)
 ·exact ⟨(M.o.nth 2 rfl).two,(M.o.nth 12 rfl).two⟩
 refine tk (x:=?_) 1 rfl (by kernel_rfl) ⟨by rfl,?_⟩ (fun _ _ _ h=>h) hS ?_
 rotate_left; focus (intro w hSw; (try dsimp only at hSw); go_simp; try with_reducible rfl)
 refine tk (x:=?_) 3 rfl (by kernel_rfl) ⟨by rfl,?_⟩ (fun _ _ _ h=>h) hS ?_
 rotate_left; focus (intro w hSw; (try dsimp only at hSw); go_simp; try with_reducible rfl)
 conv=>arg 9; simp only [Act.put,go_sem]
 refine lam_3_1 M (T:=[]) 0 2 4 5 [72,74,76,18] 1 (condJ13 w w1.heap.size r25l r25h r26l r26h) (by kernel_rfl) (by kernel_rfl) ?_ ?_ ?_ ?_ ?_ ?_ ?_
 ·intro A hA
  obtain⟨y1,hq1⟩:=put_ex (hA 72 (by simp));obtain⟨y2,hq2⟩:=put_ex (hA 74 (by simp));obtain⟨y3,hq3⟩:=put_ex (hA 76 (by simp));obtain⟨z1,hq4⟩:=put_ex (hA 18 (by simp));exact ⟨y1,y2,y3,z1,by rw [hq1,hq2,hq3,hq4],by omega,by omega,by omega,by simp,OwnF.start M.out 1⟩
 ·rintro k p a v ⟨y1,y2,y3,z1,_,_,_,_,_,h⟩
  exact ⟨(h.own.nth 2 rfl).two,(h.own.nth 12 rfl).two⟩
 ·intro p a v hJ
  refine os fun K hK=>?_
  obtain⟨y1,y2,y3,z1,rfl,gg1,h⟩:=condJ13_0 hJ;have h:=Hd h;clear hJ;go_simp;refine (d24.out _ _ ((h.out.own.nth 0 rfl))).mono ?_;rintro rr w5 ⟨rfl,hp⟩
  try go_wp2_with fail
  refine hK.out _ _ ⟨_,y2,y3,z1,?_,fun _=>rfl,by omega,by omega,gg1,h.out.putHead hp⟩;kernel_rfl
 ·intro p a v hJ
  refine os fun K hK=>?_
  obtain⟨y2,y3,z1,rfl,gg1,h⟩:=condJ13_1 hJ;have h:=Hd h;clear hJ;go_simp;refine (d25.out _ _ ((h.out.own.nth 0 rfl))).mono ?_;rintro rr w5 ⟨rfl,hp⟩
  try go_wp2_with fail
  refine hK.out _ _ ⟨_,_,y3,z1,?_,fun _=>rfl,fun _=>rfl,by omega,gg1,h.out.putHead hp⟩;kernel_rfl
 ·intro p a v hJ
  refine os fun K hK=>?_
  obtain⟨y3,z1,rfl,gg1,h⟩:=condJ13_2 hJ;have h:=Hd h;clear hJ;go_simp;refine (d26.out _ _ ((h.out.own.nth 0 rfl))).mono ?_;rintro rr w5 ⟨rfl,hp⟩
  try go_wp2_with fail
  refine hK.out _ _ ⟨_,_,_,z1,?_,fun _=>rfl,fun _=>rfl,fun _=>rfl,gg1,h.out.putHead hp⟩;kernel_rfl
 ·intro k p a v hp hJ
  refine os fun K hK=>?_
  obtain⟨y1,y2,y3,z1,rfl,ee1,ee2,ee3,gg1,h⟩:=hJ;have h:=Hd h;go_simp;refine hK.out _ _ ⟨v.heap.size,y1,y2,y3,.pointer (some ⟨v.heap.size,0,none⟩),?_,ee1,ee2,ee3,fun q hq=>ptr_set hq,h.out.alloc hp rfl _⟩;kernel_rfl
 intro p9_1 a v hJ;obtain⟨rfl,h⟩:=condJ13_fin hJ;clear hJ;replace M:=Hd h.fin1;clear h
 refine tn [] 6 fun K hK=>?_
 have kc:=(M.o.nth 0 rfl).2.1;have kf:=(M.o.nth 0 rfl).2.2;replace M:=Hd (M.o.setHead r26l r26h);go_simp;refine hK.out _ _ (Or.inr ⟨(M.o.nth 3 rfl).two,(M.o.nth 13 rfl).two⟩) (fun hHeld=>?_);clear hK K hHeld kc kf;refine tails_done (by kernel_rfl) ?_ _;refine NoPanic.normal ?_;clear hS;revert M;generalize ((v.setCell ⟨p9_1,0,none⟩ (r26l:Value)).setCell ⟨p9_1,1,none⟩ (r26h:Value))=W;intro M;replace M:=Hd M.o.front;revert M;generalize W=W9;intro M;obtain⟨k1,k2⟩:=(M.o.nth 2 rfl).two;obtain⟨k3,k4⟩:=(M.o.nth 1 rfl).two;go_wp2_with fail;refine (d27.out _ _ ((M.o.nth 0 rfl))).mono ?_;rintro r u10 ⟨rfl,hp⟩;replace M:=Hd (M.o.putHead hp);clear hp;clear k1 k2 k3 k4;go_wp2_with fail;refine (d28.out _).mono ?_;rintro r u11 ⟨rfl,hp⟩;replace M:=Hd (M.o.below hp);clear hp;replace M:=Hd (M.o.made #[r28l,r28h] 31).front;go_upto_region 15 with fail;replace M:=Hd M.o.drew;refine wp_region_noPanic ?_;refine tails_region (S:=fun w'=>(Cf w' u2.heap.size 0 r2l∧Cf w' u2.heap.size 1 r2h)∧(Cf w' p6_1 0 r17l∧Cf w' p6_1 1 r17h)∧(Cf w' p3_1 0 r5l∧Cf w' p3_1 1 r5h)) [] (by kernel_rfl) ?_ (fun hS=>?_)
 ·exact ⟨(M.o.nth 9 rfl).two,(M.o.nth 5 rfl).two,(M.o.nth 8 rfl).two⟩
 refine tk (x:=?_) 0 rfl (by kernel_rfl) ⟨by rfl,?_⟩ (fun _ _ _ h=>h) hS ?_
 rotate_left; focus (intro w hSw; (try dsimp only at hSw); go_simp; try with_reducible rfl)
 refine tk (x:=?_) 1 rfl (by kernel_rfl) ⟨by rfl,?_⟩ (fun _ _ _ h=>h) hS ?_
 rotate_left; focus (intro w hSw; (try dsimp only at hSw); go_simp; try with_reducible rfl)
 refine tk (x:=?_) 3 rfl (by kernel_rfl) ⟨by rfl,?_⟩ (fun _ _ _ h=>h) hS ?_
 rotate_left; focus (intro w hSw; (try dsimp only at hSw); go_simp; try with_reducible rfl)
 conv=>arg 9; simp only [Act.put,go_sem]
 refine lam_3_1 M (T:=[]) 2 4 5 6 [83,85,86,20] 1 (condJ15 w w1.heap.size r29l r29h r30l r30h r31l r31h) (by kernel_rfl) (by kernel_rfl) ?_ ?_ ?_ ?_ ?_ ?_ ?_
 ·intro A hA
  obtain⟨y1,hq1⟩:=put_ex (hA 83 (by simp));obtain⟨y2,hq2⟩:=put_ex (hA 85 (by simp));obtain⟨y3,hq3⟩:=put_ex (hA 86 (by simp));obtain⟨z1,hq4⟩:=put_ex (hA 20 (by simp));exact ⟨y1,y2,y3,z1,by rw [hq1,hq2,hq3,hq4],by omega,by omega,by omega,by simp,OwnF.start M.out 1⟩
 ·rintro k p a v ⟨y1,y2,y3,z1,_,_,_,_,_,h⟩
  exact ⟨(h.own.nth 9 rfl).two,(h.own.nth 5 rfl).two,(h.own.nth 8 rfl).two⟩
 ·intro p a v hJ
  refine os fun K hK=>?_
  obtain⟨y1,y2,y3,z1,rfl,gg1,h⟩:=condJ15_0 hJ;have h:=Hd h;clear hJ;go_simp;refine (d29.out _ _ ((h.out.own.nth 0 rfl))).mono ?_;rintro rr w5 ⟨rfl,hp⟩
  try go_wp2_with fail
  refine hK.out _ _ ⟨_,y2,y3,z1,?_,fun _=>rfl,by omega,by omega,gg1,h.out.putHead hp⟩;kernel_rfl
 ·intro p a v hJ
  refine os fun K hK=>?_
  obtain⟨y2,y3,z1,rfl,gg1,h⟩:=condJ15_1 hJ;have h:=Hd h;clear hJ;go_simp;refine (d30.out _ _ ((h.out.own.nth 0 rfl))).mono ?_;rintro rr w5 ⟨rfl,hp⟩
  try go_wp2_with fail
  refine hK.out _ _ ⟨_,_,y3,z1,?_,fun _=>rfl,fun _=>rfl,by omega,gg1,h.out.putHead hp⟩;kernel_rfl
 ·intro p a v hJ
  refine os fun K hK=>?_
  obtain⟨y3,z1,rfl,gg1,h⟩:=condJ15_2 hJ;have h:=Hd h;clear hJ;go_simp;refine (d31.out _ _ ((h.out.own.nth 0 rfl))).mono ?_;rintro rr w5 ⟨rfl,hp⟩
  try go_wp2_with fail
  refine hK.out _ _ ⟨_,_,_,z1,?_,fun _=>rfl,fun _=>rfl,fun _=>rfl,gg1,h.out.putHead hp⟩;kernel_rfl
 ·intro k p a v hp hJ
  refine os fun K hK=>?_
  obtain⟨y1,y2,y3,z1,rfl,ee1,ee2,ee3,gg1,h⟩:=hJ;have h:=Hd h;go_simp;refine hK.out _ _ ⟨v.heap.size,y1,y2,y3,.pointer (some ⟨v.heap.size,0,none⟩),?_,ee1,ee2,ee3,fun q hq=>ptr_set hq,h.out.alloc hp rfl _⟩;kernel_rfl
 intro p12_1 a v hJ;obtain⟨rfl,h⟩:=condJ15_fin hJ;clear hJ;replace M:=Hd h.fin1;clear h
 refine tn [] 7 fun K hK=>?_
 have kc:=(M.o.nth 0 rfl).2.1;have kf:=(M.o.nth 0 rfl).2.2;replace M:=Hd (M.o.setHead r31l r31h);go_simp;refine hK.out _ _ (Or.inr ⟨(M.o.nth 10 rfl).two,(M.o.nth 6 rfl).two,(M.o.nth 9 rfl).two⟩) (fun hHeld=>?_);clear hK K hHeld kc kf;refine tails_done (by kernel_rfl) ?_ _;refine NoPanic.normal ?_;clear hS;revert M;generalize ((v.setCell ⟨p12_1,0,none⟩ (r31l:Value)).setCell ⟨p12_1,1,none⟩ (r31h:Value))=W;intro M;replace M:=Hd M.o.front;revert M;generalize W=W12;intro M;obtain⟨k1,k2⟩:=(M.o.nth 3 rfl).two;obtain⟨k3,k4⟩:=(M.o.nth 9 rfl).two;go_wp2_with fail;refine (d32.out _ _ ((M.o.nth 0 rfl))).mono ?_;rintro r u13 ⟨rfl,hp⟩;replace M:=Hd (M.o.putHead hp);clear hp;clear k1 k2 k3 k4;replace M:=Hd (M.o.made #[r32l,r32h] 31).front;go_upto_region 17 with fail;replace M:=Hd M.o.drew;refine wp_region_noPanic ?_;refine tails_region (S:=fun w'=>(Cf w' u11.heap.size 0 r28l∧Cf w' u11.heap.size 1 r28h)∧(Cf w' p12_1 0 r31l∧Cf w' p12_1 1 r31h)∧(Cf w' u13.heap.size 0 r32l∧Cf w' u13.heap.size 1 r32h)) [] (by kernel_rfl) ?_ (fun hS=>?_)
 ·exact ⟨(M.o.nth 3 rfl).two,(M.o.nth 2 rfl).two,(M.o.nth 1 rfl).two⟩
 refine tk (x:=?_) 0 rfl (by kernel_rfl) ⟨by rfl,?_⟩ (fun _ _ _ h=>h) hS ?_
 rotate_left; focus (intro w hSw; (try dsimp only at hSw); go_simp; try with_reducible rfl)
 refine tk (x:=?_) 1 rfl (by kernel_rfl) ⟨by rfl,?_⟩ (fun _ _ _ h=>h) hS ?_
 rotate_left; focus (intro w hSw; (try dsimp only at hSw); go_simp; try with_reducible rfl)
 refine tk (x:=?_) 2 rfl (by kernel_rfl) ⟨by rfl,?_⟩ (fun _ _ _ h=>h) hS ?_
 rotate_left; focus (intro w hSw; (try dsimp only at hSw); go_simp; try with_reducible rfl)
 conv=>arg 9; simp only [Act.put,go_sem]
 refine lam_3_1 M (T:=[]) 3 4 5 6 [93,94,95,22] 1 (condJ17 w w1.heap.size r33l r33h r34l r34h r35l r35h (fun k=>[0,e,e,e].getD k 0)) (by kernel_rfl) (by kernel_rfl) ?_ ?_ ?_ ?_ ?_ ?_ ?_
 ·intro A hA
  obtain⟨y1,hq1⟩:=put_ex (hA 93 (by simp));obtain⟨y2,hq2⟩:=put_ex (hA 94 (by simp));obtain⟨y3,hq3⟩:=put_ex (hA 95 (by simp));obtain⟨z1,hq4⟩:=put_ex (hA 22 (by simp));exact ⟨y1,y2,y3,z1,by rw [hq1,hq2,hq3,hq4],by omega,by omega,by omega,by simp,OwnF.start M.out 1⟩
 ·rintro k p a v ⟨y1,y2,y3,z1,_,_,_,_,_,h⟩
  exact ⟨(h.own.nth 3 rfl).two,(h.own.nth 2 rfl).two,(h.own.nth 1 rfl).two⟩
 ·intro p a v hJ
  refine os fun K hK=>?_
  obtain⟨y1,y2,y3,z1,rfl,gg1,h⟩:=condJ17_0 hJ;have h:=Hd h;clear hJ;go_simp;refine (d33.out _ _ ((h.out.own.nth 0 rfl))).mono ?_;rintro rr w5 ⟨rfl,hp⟩
  try go_wp2_with fail
  refine hK.out _ _ ⟨_,y2,y3,z1,?_,fun _=>rfl,by omega,by omega,gg1,h.out.putHead hp⟩;kernel_rfl
 ·intro p a v hJ
  refine os fun K hK=>?_
  obtain⟨y2,y3,z1,rfl,gg1,h⟩:=condJ17_1 hJ;have h:=Hd h;clear hJ;go_simp;refine (d34.out _ _ ((h.out.own.nth 0 rfl))).mono ?_;rintro rr w5 ⟨rfl,hp⟩
  try go_wp2_with fail
  refine hK.out _ _ ⟨_,_,y3,z1,?_,fun _=>rfl,fun _=>rfl,by omega,gg1,h.out.putHead hp⟩;kernel_rfl
 ·intro p a v hJ
  refine os fun K hK=>?_
  obtain⟨y3,z1,rfl,gg1,h⟩:=condJ17_2 hJ;have h:=Hd h;clear hJ;go_simp;refine (d35.out _).mono ?_;rintro rr w5 ⟨rfl,hp⟩
  try go_wp2_with fail
  refine hK.out _ _ ⟨_,_,_,z1,?_,fun _=>rfl,fun _=>rfl,fun _=>rfl,gg1,h.out.below hp⟩;kernel_rfl
 ·intro k p a v hp hJ
  refine os fun K hK=>?_
  obtain⟨y1,y2,y3,z1,rfl,ee1,ee2,ee3,gg1,h⟩:=hJ;have h:=Hd h;go_simp;refine hK.out _ _ ⟨v.heap.size,y1,y2,y3,.pointer (some ⟨v.heap.size,0,none⟩),?_,ee1,ee2,ee3,fun q hq=>ptr_set hq,h.out.alloc hp rfl _⟩;kernel_rfl
 intro p14_1 a v hJ;obtain⟨rfl,h⟩:=condJ17_fin hJ;clear hJ;replace M:=Hd h.fin1;clear h
 refine tn [] 7 fun K hK=>?_
 have kc:=(M.o.nth 0 rfl).2.1;have kf:=(M.o.nth 0 rfl).2.2;replace M:=Hd (M.o.setHead r35l r35h);go_simp;refine hK.out _ _ (Or.inr ⟨(M.o.nth 4 rfl).two,(M.o.nth 3 rfl).two,(M.o.nth 2 rfl).two⟩) (fun hHeld=>?_);clear hK K hHeld kc kf;refine tails_done (by kernel_rfl) ?_ _;refine NoPanic.normal ?_;clear hS;revert M;generalize ((v.setCell ⟨p14_1,0,none⟩ (r35l:Value)).setCell ⟨p14_1,1,none⟩ (r35h:Value))=W;intro M;replace M:Hid (Own w [(w1.heap.size,#[.int .i64 e]),(p14_1,#[r35l,r35h]),(u13.heap.size,#[r32l,r32h]),(p12_1,#[r31l,r31h]),(u11.heap.size,#[r28l,r28h]),(p9_1,#[r26l,r26h]),(u8.heap.size,#[r23l,r23h]),(p7_1,#[r22l,r22h]),(p6_1,#[r17l,r17h]),(p5_1,#[r12l,r12h]),(p4_1,#[r8l,r8h]),(p3_1,#[r5l,r5h]),(u2.heap.size,#[r2l,r2h]),(u1.heap.size,#[(4602678819172646912:Nat),(4602678819172646912:Nat)]),((w.heap.size+1+1+1),#[(),()]),((w.heap.size+1+1),#[a2l,a2h]),((w.heap.size+1),#[a1l,a1h]),(w.heap.size,#[a0l,a0h])] W):=Hd M.o.front
 revert M;generalize W=W14;intro M;go_upto_region 18 with fail;replace M:=Hd M.o.drew;refine wp_region_noPanic ?_;refine tails_region (S:=fun w'=>(Cf w' u1.heap.size 0 4602678819172646912∧Cf w' u1.heap.size 1 4602678819172646912)∧(Cf w' u11.heap.size 0 r28l∧Cf w' u11.heap.size 1 r28h)∧(Cf w' p14_1 0 r35l∧Cf w' p14_1 1 r35h)) [] (by kernel_rfl) ?_ (fun hS=>?_)
 ·exact ⟨(M.o.nth 13 rfl).two,(M.o.nth 4 rfl).two,(M.o.nth 1 rfl).two⟩
 refine tk (x:=?_) 0 rfl (by kernel_rfl) ⟨by rfl,?_⟩ (fun _ _ _ h=>h) hS ?_
 rotate_left; focus (intro w hSw; (try dsimp only at hSw); go_simp; try with_reducible rfl)
 refine tk (x:=?_) 1 rfl (by kernel_rfl) ⟨by rfl,?_⟩ (fun _ _ _ h=>h) hS ?_
 rotate_left; focus (intro w hSw; (try dsimp only at hSw); go_simp; try with_reducible rfl)
 refine tk (x:=?_) 2 rfl (by kernel_rfl) ⟨by rfl,?_⟩ (fun _ _ _ h=>h) hS ?_
 rotate_left; focus (intro w hSw; (try dsimp only at hSw); go_simp; try with_reducible rfl)
 conv=>arg 9; simp only [Act.put,go_sem]
 refine lam_3_0 M (T:=[]) 3 4 5 [99,100,101] 2 (condJ18 w w1.heap.size r36l r36h r37l r37h e) (by kernel_rfl) (by kernel_rfl) ?_ ?_ ?_ ?_ ?_ ?_
 ·intro A hA
  obtain⟨y1,hq1⟩:=put_ex (hA 99 (by simp));obtain⟨y2,hq2⟩:=put_ex (hA 100 (by simp));obtain⟨y3,hq3⟩:=put_ex (hA 101 (by simp));exact ⟨y1,y2,y3,by rw [hq1,hq2,hq3],by omega,by omega,by omega,OwnF.start M.out 0⟩
 ·rintro k p a v ⟨y1,y2,y3,_,_,_,_,h⟩
  exact ⟨(h.own.nth 13 rfl).two,(h.own.nth 4 rfl).two,(h.own.nth 1 rfl).two⟩
 ·intro p a v hJ
  refine os fun K hK=>?_
  obtain⟨y1,y2,y3,rfl,h⟩:=condJ18_0 hJ;have h:=Hd h;clear hJ;go_simp;refine (d36.out _ _ ((h.out.own.nth 0 rfl))).mono ?_;rintro rr w5 ⟨rfl,hp⟩
  try go_wp2_with fail
  refine hK.out _ _ ⟨_,y2,y3,?_,fun _=>rfl,by omega,by omega,h.out.putHead hp⟩;kernel_rfl
 ·intro p a v hJ
  refine os fun K hK=>?_
  obtain⟨y2,y3,rfl,h⟩:=condJ18_1 hJ;have h:=Hd h;clear hJ;go_simp;refine (d37.out _ _ ((h.out.own.nth 0 rfl))).mono ?_;rintro rr w5 ⟨rfl,hp⟩
  try go_wp2_with fail
  refine hK.out _ _ ⟨_,_,y3,?_,fun _=>rfl,fun _=>rfl,by omega,h.out.putHead hp⟩;kernel_rfl
 ·intro p a v hJ
  refine os fun K hK=>?_
  obtain⟨y3,rfl,h⟩:=condJ18_2 hJ;have h:=Hd h;clear hJ;go_simp;refine (err_any (e) _ 0 _ ((h.out.own.nth 0 rfl)).pc).mono ?_;rintro rr w5 ⟨rfl,rfl⟩
  try go_wp2_with fail
  refine hK.out _ _ ⟨_,_,_,?_,fun _=>rfl,fun _=>rfl,fun _=>rfl,h.out⟩;kernel_rfl
 intro a v hJ;obtain⟨rfl,h⟩:=condJ18_fin hJ;clear hJ;replace M:=Hd h.own;clear h
 refine tn [] 6 fun K hK=>?_
 have kc:=(M.o.nth 14 rfl).2.1;have kf:=(M.o.nth 14 rfl).2.2;replace M:=Hd (M.o.set2 14 rfl r37l r37h);go_simp;refine hK.out _ _ (Or.inr ⟨(M.o.nth 13 rfl).two,(M.o.nth 4 rfl).two,(M.o.nth 1 rfl).two⟩) (fun hHeld=>?_);clear hK K hHeld kc kf
 refine tn [] 7 fun K hK=>?_
 go_simp;refine hK.out _ _ (Or.inr ⟨(M.o.nth 13 rfl).two,(M.o.nth 4 rfl).two,(M.o.nth 1 rfl).two⟩) (fun hHeld=>?_);clear hK K hHeld;refine tails_done (by kernel_rfl) ?_ _;refine NoPanic.normal ?_;clear hS;revert M;generalize ((v.setCell ⟨(w.heap.size+1+1+1),0,none⟩ (r37l:Value)).setCell ⟨(w.heap.size+1+1+1),1,none⟩ (r37h:Value))=W;intro M;revert M;generalize W=W15;intro M;obtain⟨f1,f2⟩:=(M.o.nth 14 rfl).two;go_wp2;exact bodyPost_ret (v:=.tuple #[.agg #[.float .f64 r37l,.float .f64 r37h],.int .i64 e]) (by simp [results,Tryz.results191,go_sem,f1,f2]) rfl ⟨rfl,M.o.base⟩
end
end Go.Proofs.YtnaomilkgfkegaaGreat
