/- What the claim stands on, part 1: Base, Put, Mem. -/
import Derived.Test.YtnaomilkgfkegaaGreatRows
import Derived.WalkKit
import Derived.WalkSpells
import Derived.WalkLawsBesides
import Derived.Laws.Externs
import Derived.Lib.Hide
import Derived.Deep.QuietTactic
namespace Go.Proofs.YtnaomilkgfkegaaGreat
section
open Go.RowKit
instance : Coe Nat Value := ⟨fun x => .float .f64 x⟩
instance : Coe Unit Value := ⟨fun _ => .float .f64 0⟩
instance : Coe Bool Value := ⟨fun _ => .int .i64 0⟩
abbrev Rt (x : Value) (w : World) : Ending → World → Prop := fun r w' => r = .returned x ∧ Below w.heap.size w w'
theorem Hd {p : Prop} (h : p) : RowKit.Hid p := h
theorem _root_.Go.RowKit.Hid.o {p : Prop} (h : RowKit.Hid p) : p := h
abbrev CH (f : FuncId) (args : Array Value) (x : Value) : Prop := RowKit.Hid (∀ w, Calls Tryz.prog f args w (Rt x w))
abbrev Cf (w : World) (p k x : Nat) : Prop := w.cell? ⟨p, k, none⟩ = some (x:Value)
theorem bel1 (w:World) (a:Obj):Below w.heap.size w (w.alloc a):=(Below.refl _ _).alloc (Nat.le_refl _) _
theorem bel2 (w:World) (a b:Obj):Below w.heap.size w ((w.alloc a).alloc b):=(bel1 w a).alloc (by simp) _
theorem bel3 (w:World) (a b c:Obj):Below w.heap.size w (((w.alloc a).alloc b).alloc c):=(bel2 w a b).alloc (by simp; omega) _
theorem bel4 (w:World) (a b c d:Obj):Below w.heap.size w ((((w.alloc a).alloc b).alloc c).alloc d):=(bel3 w a b c).alloc (by simp; omega) _
theorem bcell {W w1:World} (hb:Below W.heap.size W w1):(∀ b o,b < W.heap.size→w1.cell? ⟨b,o,none⟩=W.cell? ⟨b,o,none⟩)∧(∀ b o,b < W.heap.size→w1.frozen? ⟨b,o,none⟩=W.frozen? ⟨b,o,none⟩):=
 ⟨fun b o h=>hb.cell (p:=⟨b,o,none⟩) h,fun b o h=>hb.frozen (p:=⟨b,o,none⟩) h⟩
theorem undrew {w w1:World} (h:Below w.drew.heap.size w.drew w1):Below w.heap.size w w1:=⟨h.os,h.tape,h.output,h.size,h.block⟩
theorem Below.drewN {B:Nat} {a w:World} (h:Below B a w) (n:Nat):Below B a (w.drewN n):=⟨h.os,h.tape,h.output,h.size,h.block⟩
theorem after1 {w w1:World} {c:Array Value} {t:TypeId} (hb:Below (w.alloc (.cells c t)).heap.size (w.alloc (.cells c t)) w1) :
  w.heap.size < w1.heap.size∧(∀ i,w1.cell? ⟨w.heap.size,i,none⟩=c[i]?)∧(∀ i,w1.frozen? ⟨w.heap.size,i,none⟩=false)∧Below w.heap.size w w1:=by
 have hs:=hb.size
 have hs':w.heap.size+1≤w1.heap.size:=by simpa using hs
 obtain⟨hc,hf⟩:=bcell hb
 refine ⟨hs',fun i=>?_,fun i=>?_,(bel1 w _).trans (hb.mono (by simp))⟩
 ·rw [hc _ _ (by simp)]; exact World.cell?_alloc_at _ _ _ _ rfl
 ·rw [hf _ _ (by simp)]; exact World.frozen?_alloc_at _ _ _ _ rfl
theorem after2 {w w1:World} {c d:Array Value} {t u:TypeId} (hb:Below ((w.alloc (.cells c t)).alloc (.cells d u)).heap.size ((w.alloc (.cells c t)).alloc (.cells d u)) w1) :
  w.heap.size+1 < w1.heap.size∧w.heap.size < w1.heap.size∧(∀ i,w1.cell? ⟨w.heap.size,i,none⟩=c[i]?)∧(∀ i,w1.frozen? ⟨w.heap.size,i,none⟩=false)∧(∀ i,w1.cell? ⟨w.heap.size+1,i,none⟩=d[i]?)∧(∀ i,w1.frozen? ⟨w.heap.size+1,i,none⟩=false)∧Below w.heap.size w w1:=by
 have hs:=hb.size
 have hs':w.heap.size+1+1≤w1.heap.size:=by simpa using hs
 have hb1:Below (w.alloc (.cells c t)).heap.size (w.alloc (.cells c t)) w1:=(bel1 (w.alloc (.cells c t)) _).trans (hb.mono (by simp))
 obtain⟨_,h2,h3,h4⟩:=after1 hb1
 obtain⟨hc,hf⟩:=bcell hb
 refine ⟨hs',by omega,h2,h3,fun i=>?_,fun i=>?_,h4⟩
 ·rw [hc _ _ (by simp)]; exact World.cell?_alloc_at _ _ _ _ (by simp)
 ·rw [hf _ _ (by simp)]; exact World.frozen?_alloc_at _ _ _ _ (by simp)
theorem after3 {w w1:World} {c d e:Array Value} {t u v:TypeId} (hb:Below (((w.alloc (.cells c t)).alloc (.cells d u)).alloc (.cells e v)).heap.size (((w.alloc (.cells c t)).alloc (.cells d u)).alloc (.cells e v)) w1) :
  w.heap.size+1+1 < w1.heap.size∧w.heap.size+1 < w1.heap.size∧w.heap.size < w1.heap.size∧(∀ i,w1.cell? ⟨w.heap.size,i,none⟩=c[i]?)∧(∀ i,w1.frozen? ⟨w.heap.size,i,none⟩=false)∧(∀ i,w1.cell? ⟨w.heap.size+1,i,none⟩=d[i]?)∧(∀ i,w1.frozen? ⟨w.heap.size+1,i,none⟩=false)∧(∀ i,w1.cell? ⟨w.heap.size+1+1,i,none⟩=e[i]?)∧(∀ i,w1.frozen? ⟨w.heap.size+1+1,i,none⟩=false)∧Below w.heap.size w w1:=by
 have hs:=hb.size
 have hs':w.heap.size+1+1+1≤w1.heap.size:=by simpa using hs
 have hb1:Below ((w.alloc (.cells c t)).alloc (.cells d u)).heap.size ((w.alloc (.cells c t)).alloc (.cells d u)) w1:=(bel1 ((w.alloc (.cells c t)).alloc (.cells d u)) _).trans (hb.mono (by simp))
 obtain⟨_,h1,h2,h3,h4,h5,h6⟩:=after2 hb1
 obtain⟨hc,hf⟩:=bcell hb
 refine ⟨hs',by omega,by omega,h2,h3,h4,h5,fun i=>?_,fun i=>?_,h6⟩
 ·rw [hc _ _ (by simp)]; exact World.cell?_alloc_at _ _ _ _ (by simp)
 ·rw [hf _ _ (by simp)]; exact World.frozen?_alloc_at _ _ _ _ (by simp)
theorem keepB {w1 w2:World} (hb:Below w1.heap.size w1 w2) {k:Nat} {c:Array Value} (hz:k < w1.heap.size) (hc:∀ i,w1.cell? ⟨k,i,none⟩=c[i]?) (hf:∀ i,w1.frozen? ⟨k,i,none⟩=false) :
  k < w2.heap.size∧(∀ i,w2.cell? ⟨k,i,none⟩=c[i]?)∧(∀ i,w2.frozen? ⟨k,i,none⟩=false):=by
 obtain⟨h1,h2⟩:=bcell hb
 exact ⟨Nat.lt_of_lt_of_le hz hb.size,fun i=>(h1 _ _ hz).trans (hc i),fun i=>(h2 _ _ hz).trans (hf i)⟩
theorem run_bits (a:Nat) (w:World):(callFunc 137 #[a]).run Tryz.prog w = .ok (.value (.int .u64 a)) w:=by
 rw [run_callFunc_extern (e:=Extern.MathFloatBits.float64bits) Tryz.func137 (by kernel_rfl) (by kernel_rfl) (by kernel_rfl) (by kernel_rfl)]
 rfl
theorem run_frombits (n:Int) (w:World):(callFunc 148 #[.int .u64 n]).run Tryz.prog w = .ok (.value (.float .f64 n.toNat)) w:=by
 rw [run_callFunc_extern (e:=Extern.MathFloatBits.float64frombits) Tryz.func148 (by kernel_rfl) (by kernel_rfl) (by kernel_rfl) (by kernel_rfl)]
 rfl
def addLo (x y c:Nat):Nat:=(x+y+c) % 18446744073709551616
def addHi (x y c:Nat):Nat:=(x+y+c) / 18446744073709551616
def subLo (x y b:Nat):Nat:=(x+18446744073709551616 - y - b) % 18446744073709551616
def subHi (x y b:Nat):Nat:=if x < y+b then 1 else 0
theorem run_add64 (x y c:Nat) (hc:c≤1) (w:World):(callFunc 176 #[.int .u64 x,.int .u64 y,.int .u64 c]).run Tryz.prog w = .ok (.value (.tuple #[.int .u64 (addLo x y c),.int .u64 (addHi x y c)])) w:=by
 rw [run_callFunc_extern (e:=add64Entry) Tryz.func176 (by kernel_rfl) (by kernel_rfl) (by kernel_rfl) (by kernel_rfl)]
 have:c=0∨c=1:=by omega
 rcases this with rfl | rfl <;> rfl
theorem run_add64_0 (x y:Nat) (w:World):(callFunc 176 #[.int .u64 x,.int .u64 y,.int .u64 0]).run Tryz.prog w = .ok (.value (.tuple #[.int .u64 (addLo x y 0),.int .u64 (addHi x y 0)])) w:=run_add64 x y 0 (by omega) w
def sub64Entry:Array Value→Sem Value:=fun args=>do
 let (x, y, b) ← Extern.MathBitsCarry.three "Sub64" args
 pure (Extern.MathBitsCarry.pair ((x+Extern.MathBitsCarry.m64 - y - b) % Extern.MathBitsCarry.m64) (if x < y+b then 1 else 0))
theorem run_sub64 (x y b:Nat) (hb:b≤1) (w:World):(callFunc 177 #[.int .u64 x,.int .u64 y,.int .u64 b]).run Tryz.prog w = .ok (.value (.tuple #[.int .u64 (subLo x y b),.int .u64 (subHi x y b)])) w:=by
 rw [run_callFunc_extern (e:=sub64Entry) Tryz.func177 (by kernel_rfl) (by kernel_rfl) (by kernel_rfl) (by kernel_rfl)]
 have:b=0∨b=1:=by omega
 rcases this with rfl | rfl <;> rfl
theorem run_sub64_0 (x y:Nat) (w:World):(callFunc 177 #[.int .u64 x,.int .u64 y,.int .u64 0]).run Tryz.prog w = .ok (.value (.tuple #[.int .u64 (subLo x y 0),.int .u64 (subHi x y 0)])) w:=run_sub64 x y 0 (by omega) w
end
section
open Go.RowKit
def Put (p:Addr) (v:Value) (w w':World):Prop:=Below w.heap.size (w.setCell p v) w'
theorem run_store_float (P:Program) (w:World) (a:Addr) (m:Mode) (k:FloatKind) (b:Nat):(store a (.float k b) m).run P w=stored P w a (.float k b) m:=run_store P w a _ m rfl
def putObj (p:Addr) (v:Value):Obj→Obj
 | .cells c elem frozen=>.cells (if p.spot.isSome then c else c.setIfInBounds p.off v) elem frozen
 | o=>o
theorem heap_set (w:World) (p:Addr) (v:Value) (k:Nat):(w.setCell p v).heap[k]? = if p.block=k then w.heap[k]?.map (putObj p v) else w.heap[k]?:=by
 show (w.heap.modify p.block _)[k]? = _
 rw [Array.getElem?_modify]
 rfl
theorem size_set (w:World) (p:Addr) (v:Value):(w.setCell p v).heap.size=w.heap.size:=by simp [World.setCell]
theorem both {B:Nat} {a b:World} (h:Below B a b) (p:Addr) (v:Value):Below B (a.setCell p v) (b.setCell p v):=by
 refine ⟨h.os,h.tape,h.output,by rw [size_set,size_set]; exact h.size,fun k hk=>?_⟩;rw [heap_set,heap_set,h.block k hk]
theorem set_set (w:World) (p:Addr) (u v:Value) (k:Nat):((w.setCell p u).setCell p v).heap[k]? = (w.setCell p v).heap[k]?:=by
 rw [heap_set,heap_set,heap_set]
 by_cases h:p.block=k
 ·rw [if_pos h,if_pos h,if_pos h]
  cases hk:w.heap[k]? with
  | none=>rfl
  | some o =>
   cases o with
   | cells c t f =>
    simp only [Option.map_some,putObj]
    by_cases hs:p.spot.isSome=true
    ·simp [hs]
    ·simp [hs]
   | _=>rfl
 ·rw [if_neg h,if_neg h,if_neg h]
theorem set_self (w:World) (p:Addr) (v:Value) (h:w.cell? p=some v) (k:Nat):(w.setCell p v).heap[k]? = w.heap[k]?:=by
 rw [heap_set]
 by_cases hk:p.block=k
 ·rw [if_pos hk]
  subst hk;unfold World.cell? at h
  split at h
  ·rename_i c e f hb
   rw [hb,Option.map_some]
   by_cases hs:p.spot.isSome=true
   ·simp [putObj,hs]
   ·simp only [putObj,hs] at h ⊢
    congr 2
    have hlt:p.off < c.size:=by
     rcases Nat.lt_or_ge p.off c.size with h' | h'
     ·exact h'
     ·simp [Array.getElem?_eq_none h'] at h
    apply Array.ext
    ·simp
    ·intro i h1 h2
     by_cases hi:p.off=i
     ·subst hi
      simp [hlt] at h ⊢
      exact h.symm
     ·simp; exact Array.getElem_setIfInBounds_ne h2 hi
  ·simp at h
 ·rw [if_neg hk]
theorem cell_lt {w:World} {p:Addr} {v:Value} (h:w.cell? p=some v):p.block < w.heap.size:=by
 rcases Nat.lt_or_ge p.block w.heap.size with g | g
 ·exact g
 ·unfold World.cell? at h
  rw [Array.getElem?_eq_none g] at h
  simp at h
theorem Put.of_below {p:Addr} {v:Value} {w w':World} (hc:w.cell? p=some v) (h:Below w.heap.size w w'):Put p v w w':=
 ⟨h.os,h.tape,h.output,by rw [size_set]; exact h.size,fun k hk=>(h.block k hk).trans (set_self w p v hc k).symm⟩
theorem Put.size {p:Addr} {v:Value} {w w':World} (h:Put p v w w'):w.heap.size≤w'.heap.size:=by
 have:=Below.size h;rw [size_set] at this;exact this
theorem Put.trans {p:Addr} {u v:Value} {a b c:World} (h:Put p u a b) (k:Put p v b c):Put p v a c:=by
 have h':Below a.heap.size (a.setCell p u) b:=h;have k':Below b.heap.size (b.setCell p v) c:=k;have h1:=both h' p v;have h2:=h1.trans (k'.mono h.size);refine ⟨h2.os,h2.tape,h2.output,?_,fun i hi=>(h2.block i hi).trans (set_set a p u v i)⟩;have:=h2.size;rw [size_set,size_set] at this;rw [size_set];exact this
theorem Put.below {p:Addr} {u:Value} {a b c:World} (h:Put p u a b) (k:Below b.heap.size b c):Put p u a c:=by
 have h':Below a.heap.size (a.setCell p u) b:=h;exact h'.trans (k.mono h.size)
theorem Put.after {p:Addr} {u:Value} {a b c:World} (h:Below a.heap.size a b) (k:Put p u b c):Put p u a c:=by
 have k':Below b.heap.size (b.setCell p u) c:=k;exact (both h p u).trans (k'.mono h.size)
theorem Put.cell {p:Addr} {u v:Value} {w w':World} (h:Put p v w w') (hc:w.cell? p=some u):w'.cell? p=some v:=by
 have h':Below w.heap.size (w.setCell p v) w':=h;rw [Below.cell h' (cell_lt hc)];exact World.cell?_setCell_same _ _ _ hc
theorem frozen_set (w:World) (p:Addr) (v:Value) (q:Addr):(w.setCell p v).frozen? q=w.frozen? q:=by
 unfold World.frozen?;rw [heap_set]
 by_cases h:p.block=q.block
 ·rw [if_pos h]
  cases w.heap[q.block]? with
  | none=>rfl
  | some o=>cases o <;> rfl
 ·rw [if_neg h]
theorem Put.frozen {p:Addr} {v:Value} {w w':World} (h:Put p v w w') {q:Addr} (hq:q.block < w.heap.size):w'.frozen? q=w.frozen? q:=by
 have h':Below w.heap.size (w.setCell p v) w':=h;rw [Below.frozen h' hq,frozen_set]
theorem Put.other {p:Addr} {v:Value} {w w':World} (h:Put p v w w') {q:Addr} (hq:q.block < w.heap.size) (hn:p.block≠q.block):w'.cell? q=w.cell? q:=by
 have h':Below w.heap.size (w.setCell p v) w':=h;rw [Below.cell h' hq];exact World.cell?_setCell_other _ _ _ _ (fun e=>hn (by rw [e]))
theorem Put.block {p:Addr} {v:Value} {w w':World} (h:Put p v w w') {k:Nat} {c:Array Value} (hk:k < w.heap.size) (hn:p.block≠k) (hc:∀ i,w.cell? ⟨k,i,none⟩=c[i]?) (hf:∀ i,w.frozen? ⟨k,i,none⟩=false) :
  k < w'.heap.size∧(∀ i,w'.cell? ⟨k,i,none⟩=c[i]?)∧(∀ i,w'.frozen? ⟨k,i,none⟩=false):=
 ⟨Nat.lt_of_lt_of_le hk h.size,fun i=>(h.other (q:=⟨k,i,none⟩) hk hn).trans (hc i),fun i=>(h.frozen (q:=⟨k,i,none⟩) hk).trans (hf i)⟩
theorem Put.lift {B:Nat} {p:Addr} {v:Value} {w w':World} (h:Put p v w w') (hp:B≤p.block) (hB:B≤w.heap.size):Below B w w':=by
 have h':Below w.heap.size (w.setCell p v) w':=h;exact ((Below.refl B w).setCell hp v).trans (h'.mono hB)
end
section
open Go.RowKit
def Has1 (v:World) (p:Nat×Array Value):Prop:=p.1 < v.heap.size∧(∀ i,v.cell? ⟨p.1,i,none⟩=p.2[i]?)∧∀ i,v.frozen? ⟨p.1,i,none⟩=false
theorem Has1.below {v v':World} {p:Nat×Array Value} (h:Has1 v p) (hb:Below v.heap.size v v'):Has1 v' p:=keepB hb h.1 h.2.1 h.2.2
theorem Has1.put {v v':World} {p:Nat×Array Value} (h:Has1 v p) {a:Addr} {x:Value} (ha:a.block≠p.1) (hb:Put a x v v'):Has1 v' p:=hb.block h.1 ha h.2.1 h.2.2
theorem Has1.made (v:World) (c:Array Value) (t:TypeId):Has1 (v.alloc (.cells c t)) (v.heap.size,c):=⟨by simp,fun i=>World.cell?_alloc_at _ _ _ _ rfl,fun i=>World.frozen?_alloc_at _ _ _ _ rfl⟩
theorem Has1.own {v v':World} {b:Nat} {x y:Value} (h:Has1 v (b,#[x])) (hb:Put ⟨b,0,none⟩ y v v'):Has1 v' (b,#[y]):=by
 have h0:v.cell? ⟨b,0,none⟩=some x:=h.2.1 0;refine ⟨Nat.lt_of_lt_of_le h.1 hb.size,fun i=>?_,fun i=>(hb.frozen (q:=⟨b,i,none⟩) h.1).trans (h.2.2 i)⟩
 match i with
 | 0=>exact hb.cell h0
 | n+1 =>
  have h':Below v.heap.size (v.setCell ⟨b,0,none⟩ y) v':=hb;rw [Below.cell h' h.1,World.cell?_setCell_other _ _ _ _ (by simp)];exact h.2.1 (n+1)
theorem Has1.set {v:World} {p:Nat×Array Value} (h:Has1 v p) {a:Addr} {x:Value} (ha:a.block≠p.1):Has1 (v.setCell a x) p:=
 ⟨by rw [size_set]; exact h.1,fun i=>(World.cell?_setCell_other _ _ _ _ (fun e=>ha (by rw [e]))).trans (h.2.1 i),fun i=>(frozen_set _ _ _ _).trans (h.2.2 i)⟩
structure Mem (B:World) (l:List (Nat×Array Value)) (v:World):Prop where
 base:Below B.heap.size B v
 blocks:∀ p,p∈l→Has1 v p
theorem Mem.below {B v v':World} {l:List (Nat×Array Value)} (h:Mem B l v) (hb:Below v.heap.size v v'):Mem B l v':=⟨h.base.trans (hb.mono h.base.size),fun p hp=>(h.blocks p hp).below hb⟩
theorem Mem.made {B v:World} {l:List (Nat×Array Value)} (h:Mem B l v) (c:Array Value) (t:TypeId):Mem B ((v.heap.size,c) :: l) (v.alloc (.cells c t)):=
 ⟨h.base.alloc h.base.size _,fun p hp=>by
  rcases List.mem_cons.1 hp with e | e
  ·rw [e]; exact Has1.made v c t
  ·exact (h.blocks p e).below (bel1 _ _)⟩
theorem Mem.nth {B v:World} {l:List (Nat×Array Value)} (h:Mem B l v) (i:Nat) {p:Nat×Array Value} (hp:l[i]? = some p):Has1 v p:=h.blocks p (List.mem_of_getElem? hp)
end
end Go.Proofs.YtnaomilkgfkegaaGreat
