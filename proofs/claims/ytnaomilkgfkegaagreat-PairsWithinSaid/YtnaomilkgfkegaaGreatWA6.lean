/- What the claim stands on, part 7: DirD, DirDb, DirE. -/
import Derived.Test.YtnaomilkgfkegaaGreatWA4
import Derived.Deep.RegionHeld3
import Derived.IntWalk
set_option maxHeartbeats 20000000
set_option maxRecDepth 100000
namespace Go.Proofs.YtnaomilkgfkegaaGreat
section
open Go.RowKit
theorem product_any (s t:Bool) (m n:Nat) (e f:Int) (w:World) (hm:m < 18446744073709551616) (hn:n < 18446744073709551616) (he0:-3000≤e) (he1:e≤3000) (hf0:-3000≤f) (hf1:f≤3000) :
  Calls Tryz.prog 97 #[.agg #[.bool s,.int .u64 m,.int .i64 e],.agg #[.bool t,.int .u64 n,.int .i64 f]] w (Rt (.agg #[.bool (!(s == t)),.int .u64 (hiW (m*n)),.int .u64 (loW (m*n)),.int .i64 (e+f)]) w):=by
 have cT:=Hd (fun w=>times_any m n w hm hn)
 have ne1:¬ w.heap.size+1+1=w.heap.size:=by omega
 have hsum:IntKind.i64.wrap (e+f)=e+f:=IntWalk.i64_in _ (by omega);clear hm hn he0 he1 hf0 hf1;go_enter Tryz.func97,Tryz.ntmps97;go_wp2
 go_region_held3 (fun w'=>w'.cell? ⟨w.heap.size,0,none⟩=some (.bool s)∧w'.cell? ⟨w.heap.size,1,none⟩=some (.int .u64 m)∧w'.cell? ⟨w.heap.size,2,none⟩=some (.int .i64 e)∧w'.cell? ⟨w.heap.size+1,0,none⟩=some (.bool t)∧w'.cell? ⟨w.heap.size+1,1,none⟩=some (.int .u64 n)∧w'.cell? ⟨w.heap.size+1,2,none⟩=some (.int .i64 f)) (go_keep)
  (first | (refine (cT.out _).mono ?_; rintro r w1 ⟨rfl,hb⟩; obtain⟨hz1,hz2,hz3,hc1,hfr1,hc2,hfr2,hc3,hfr3,HB⟩:=after3 (undrew hb); clear hb))
 go_wp2;refine bodyPost_ret (v:=.agg #[.bool (!(s == t)),.int .u64 (hiW (m*n)),.int .u64 (loW (m*n)),.int .i64 (e+f)]) (by simp [results,Tryz.results97,go_sem,hc3]) rfl ⟨rfl,?_⟩;exact (((HB.setCell (by show _≤w.heap.size+1+1; omega) _).setCell (by show _≤w.heap.size+1+1; omega) _).setCell (by show _≤w.heap.size+1+1; omega) _).setCell (by show _≤w.heap.size+1+1; omega) _
theorem plus_top (m V:Nat) (w:World) (h:m*18446744073709551616+V < 340282366920938463463374607431768211456) :
  Calls Tryz.prog 140 #[.agg #[.int .u64 m,.int .u64 0],.agg #[.int .u64 (hiW V),.int .u64 (loW V)]] w (Rt (.agg #[.int .u64 (hiW (m*18446744073709551616+V)),.int .u64 (loW (m*18446744073709551616+V))]) w):=by
 have c:=plus_any (m*18446744073709551616) V w h
 have e1:hiW (m*18446744073709551616)=m:=by unfold hiW; omega
 have e2:loW (m*18446744073709551616)=0:=by unfold loW; omega
 rw [e1,e2] at c;exact c
theorem minus_top (m V:Nat) (w:World) (h:V≤m*18446744073709551616) (hm:m < 18446744073709551616) :
  Calls Tryz.prog 141 #[.agg #[.int .u64 m,.int .u64 0],.agg #[.int .u64 (hiW V),.int .u64 (loW V)]] w (Rt (.agg #[.int .u64 (hiW (m*18446744073709551616 - V)),.int .u64 (loW (m*18446744073709551616 - V))]) w):=by
 have c:=minus_any (m*18446744073709551616) V w h (by omega)
 have e1:hiW (m*18446744073709551616)=m:=by unfold hiW; omega
 have e2:loW (m*18446744073709551616)=0:=by unfold loW; omega
 rw [e1,e2] at c;exact c
def HoldsB (w:World) (k:Nat) (c:Array Value):Prop:=k < w.heap.size∧(∀ i,w.cell? ⟨k,i,none⟩=c[i]?)∧(∀ i,w.frozen? ⟨k,i,none⟩=false)
theorem HoldsB.below {w1 w2:World} {k:Nat} {c:Array Value} (h:HoldsB w1 k c) (hb:Below w1.heap.size w1 w2):HoldsB w2 k c:=keepB hb h.1 h.2.1 h.2.2
theorem HoldsB.alloc {w:World} {k:Nat} {c:Array Value} (h:HoldsB w k c) (o:Obj):HoldsB (w.alloc o) k c:=h.below (bel1 w o)
theorem HoldsB.fresh (w:World) (c:Array Value) (t:TypeId):HoldsB (w.alloc (.cells c t)) w.heap.size c:=
 ⟨by simp,fun i=>World.cell?_alloc_at _ _ _ _ rfl,fun i=>World.frozen?_alloc_at _ _ _ _ rfl⟩
theorem HoldsB.other {w:World} {k:Nat} {c:Array Value} (h:HoldsB w k c) (p:Addr) (v:Value) (hp:p.block≠k):HoldsB (w.setCell p v) k c:=
 ⟨by simpa [World.setCell] using h.1,fun i=>by rw [World.cell?_setCell_far _ _ _ _ hp]; exact h.2.1 i,fun i=>by rw [World.frozen?_setCell]; exact h.2.2 i⟩
theorem HoldsB.put {w:World} {k j:Nat} {c:Array Value} (h:HoldsB w k c) (hj:j < c.size) (v:Value):HoldsB (w.setCell ⟨k,j,none⟩ v) k (c.set j v hj):=by
 refine ⟨by simpa [World.setCell] using h.1,fun i=>?_,fun i=>by rw [World.frozen?_setCell]; exact h.2.2 i⟩
 by_cases e:i=j
 ·subst e
  rw [World.cell?_setCell_same w ⟨k,i,none⟩ v (u:=c[i]) (by rw [h.2.1 i]; exact Array.getElem?_eq_getElem hj)]
  simp
 ·rw [World.cell?_setCell_other w ⟨k,j,none⟩ ⟨k,i,none⟩ v (by intro g; injection g; omega),h.2.1 i,Array.getElem?_set_ne hj (by omega)]
def SumCut (w:World) (a b c x y:Array Value) (s5 s6:Value) (wx:World):Prop:=
 ∃ p q:Nat,s5 = .pointer (some ⟨p,0,none⟩)∧s6 = .pointer (some ⟨q,0,none⟩)∧p≠q∧w.heap.size+1+1 < p∧w.heap.size+1+1 < q∧HoldsB wx w.heap.size a∧HoldsB wx (w.heap.size+1) b∧HoldsB wx (w.heap.size+1+1) c∧HoldsB wx p x∧HoldsB wx q y∧Below w.heap.size w wx
theorem holds3 {w w1:World} {c d e:Array Value} {t u v:TypeId} (hb:Below (((w.alloc (.cells c t)).alloc (.cells d u)).alloc (.cells e v)).heap.size (((w.alloc (.cells c t)).alloc (.cells d u)).alloc (.cells e v)) w1) :
  HoldsB w1 w.heap.size c∧HoldsB w1 (w.heap.size+1) d∧HoldsB w1 (w.heap.size+1+1) e∧Below w.heap.size w w1:=by
 obtain⟨hz1,hz2,hz3,hc1,hfr1,hc2,hfr2,hc3,hfr3,HB1⟩:=after3 hb;exact ⟨⟨hz3,hc1,hfr1⟩,⟨hz2,hc2,hfr2⟩,⟨hz1,hc3,hfr3⟩,HB1⟩
def Low (w w1:World) (a b c:Array Value) (w2:World):Prop:=HoldsB w2 w.heap.size a∧HoldsB w2 (w.heap.size+1) b∧HoldsB w2 (w.heap.size+1+1) c∧Below w.heap.size w w2∧w1.heap.size≤w2.heap.size
theorem low_of {w w1 w2:World} {a b c:Array Value} (h1:HoldsB w1 w.heap.size a) (h2:HoldsB w1 (w.heap.size+1) b) (h3:HoldsB w1 (w.heap.size+1+1) c) (h4:Below w.heap.size w w1) (hb:Below w1.heap.size w1 w2):Low w w1 a b c w2:=
 ⟨h1.below hb,h2.below hb,h3.below hb,h4.trans (hb.mono (Nat.le_of_lt h1.1)),hb.size⟩
abbrev Three (w w1:World) (a b c:Array Value):Prop:=HoldsB w1 w.heap.size a∧HoldsB w1 (w.heap.size+1) b∧HoldsB w1 (w.heap.size+1+1) c∧Below w.heap.size w w1
theorem meetA {w w1 w2:World} {a b c x y:Array Value} {t:TypeId} (h:Three w w1 a b c) (hb:Below w1.heap.size w1 w2) :
  SumCut w a b c x y (.pointer (some ⟨w2.heap.size,0,none⟩)) (.pointer (some ⟨w2.heap.size+1,0,none⟩)) ((w2.alloc (.cells x t)).alloc (.cells y t)):=by
 obtain⟨k1,k2,k3,k4,k5⟩:=low_of h.1 h.2.1 h.2.2.1 h.2.2.2 hb;have z:=h.2.2.1.1;have f:=HoldsB.fresh (w2.alloc (.cells x t)) y t;rw [World.size_alloc] at f;have z1:=k1.1;exact ⟨_,_,rfl,rfl,by omega,by omega,by omega,(k1.alloc _).alloc _,(k2.alloc _).alloc _,(k3.alloc _).alloc _,(HoldsB.fresh w2 x t).alloc _,f,(k4.alloc (by omega) _).alloc (by rw [World.size_alloc]; omega) _⟩
theorem meetB {w w1 w2:World} {a b c x y:Array Value} {t:TypeId} (h:Three w w1 a b c) (hb:Below w1.heap.size w1 w2) :
  SumCut w a b c x y (.pointer (some ⟨w2.heap.size+1,0,none⟩)) (.pointer (some ⟨w2.heap.size,0,none⟩)) ((w2.alloc (.cells y t)).alloc (.cells x t)):=by
 obtain⟨k1,k2,k3,k4,k5⟩:=low_of h.1 h.2.1 h.2.2.1 h.2.2.2 hb;have z:=h.2.2.1.1;have f:=HoldsB.fresh (w2.alloc (.cells y t)) x t;rw [World.size_alloc] at f;have z1:=k1.1;exact ⟨_,_,rfl,rfl,by omega,by omega,by omega,(k1.alloc _).alloc _,(k2.alloc _).alloc _,(k3.alloc _).alloc _,f,(HoldsB.fresh w2 y t).alloc _,(k4.alloc (by omega) _).alloc (by rw [World.size_alloc]; omega) _⟩
theorem HoldsB.put2 {w:World} {k:Nat} {x y:Value} (h:HoldsB w k #[x,y]) (u v:Value):HoldsB ((w.setCell ⟨k,0,none⟩ u).setCell ⟨k,1,none⟩ v) k #[u,v]:=
 (h.put (j:=0) (Nat.zero_lt_succ 1) u).put (j:=1) (Nat.lt_succ_self 1) v
theorem HoldsB.other2 {w:World} {k g:Nat} {c:Array Value} (h:HoldsB w k c) (u v:Value) (hk:g≠k):HoldsB ((w.setCell ⟨g,0,none⟩ u).setCell ⟨g,1,none⟩ v) k c:=
 (h.other ⟨g,0,none⟩ u hk).other ⟨g,1,none⟩ v hk
theorem bset2 {B:Nat} {w w':World} (h:Below B w w') (g:Nat) (u v:Value) (hg:B≤g):Below B w ((w'.setCell ⟨g,0,none⟩ u).setCell ⟨g,1,none⟩ v):=(h.setCell hg u).setCell hg v
theorem size_set2 (w:World) (g:Nat) (u v:Value):((w.setCell ⟨g,0,none⟩ u).setCell ⟨g,1,none⟩ v).heap.size=w.heap.size:=by simp [World.setCell]
theorem meetC {w w1 w2:World} {a b c:Array Value} {z z' x0 x1 y0 y1:Value} {t:TypeId} (h:Three w w1 a b c) (hb:Below (w1.alloc (.cells #[z,z'] t)).heap.size (w1.alloc (.cells #[z,z'] t)) w2) :
  SumCut w a b c #[x0,x1] #[y0,y1] (.pointer (some ⟨w1.heap.size,0,none⟩)) (.pointer (some ⟨w2.heap.size,0,none⟩)) (((w2.setCell ⟨w1.heap.size,0,none⟩ x0).setCell ⟨w1.heap.size,1,none⟩ x1).alloc (.cells #[y0,y1] t)):=by
 have hn:=(HoldsB.fresh w1 #[z,z'] t).below hb;obtain⟨k1,k2,k3,k4,k5⟩:=low_of h.1 h.2.1 h.2.2.1 h.2.2.2 ((bel1 w1 _).trans (hb.mono (by simp)));have z0:=h.2.2.1.1;have z1:=hn.1;have f:=HoldsB.fresh ((w2.setCell ⟨w1.heap.size,0,none⟩ x0).setCell ⟨w1.heap.size,1,none⟩ x1) #[y0,y1] t;rw [size_set2] at f;exact ⟨_,_,rfl,rfl,by omega,by omega,by omega,(k1.other2 _ _ (by omega)).alloc _,(k2.other2 _ _ (by omega)).alloc _,(k3.other2 _ _ (by omega)).alloc _,(hn.put2 _ _).alloc _,f,(bset2 k4 _ _ _ (by omega)).alloc (by rw [size_set2]; omega) _⟩
theorem meetE {w w1 w2:World} {a b c:Array Value} {z z' x0 x1 y0 y1:Value} {t:TypeId} (h:Three w w1 a b c) (hb:Below (w1.alloc (.cells #[z,z'] t)).heap.size (w1.alloc (.cells #[z,z'] t)) w2) :
  SumCut w a b c #[x0,x1] #[y0,y1] (.pointer (some ⟨w2.heap.size,0,none⟩)) (.pointer (some ⟨w1.heap.size,0,none⟩)) (((w2.setCell ⟨w1.heap.size,0,none⟩ y0).setCell ⟨w1.heap.size,1,none⟩ y1).alloc (.cells #[x0,x1] t)):=by
 have hn:=(HoldsB.fresh w1 #[z,z'] t).below hb;obtain⟨k1,k2,k3,k4,k5⟩:=low_of h.1 h.2.1 h.2.2.1 h.2.2.2 ((bel1 w1 _).trans (hb.mono (by simp)));have z0:=h.2.2.1.1;have z1:=hn.1;have f:=HoldsB.fresh ((w2.setCell ⟨w1.heap.size,0,none⟩ y0).setCell ⟨w1.heap.size,1,none⟩ y1) #[x0,x1] t;rw [size_set2] at f;exact ⟨_,_,rfl,rfl,by omega,by omega,by omega,(k1.other2 _ _ (by omega)).alloc _,(k2.other2 _ _ (by omega)).alloc _,(k3.other2 _ _ (by omega)).alloc _,f,(hn.put2 _ _).alloc _,(bset2 k4 _ _ _ (by omega)).alloc (by rw [size_set2]; omega) _⟩
theorem two_new {w1 w2:World} {z z' y y':Value} {t:TypeId} (hb:Below ((w1.alloc (.cells #[z,z'] t)).alloc (.cells #[y,y'] t)).heap.size ((w1.alloc (.cells #[z,z'] t)).alloc (.cells #[y,y'] t)) w2) :
  HoldsB w2 w1.heap.size #[z,z']∧HoldsB w2 (w1.heap.size+1) #[y,y']∧Below w1.heap.size w1 w2:=by
 have f:=HoldsB.fresh (w1.alloc (.cells #[z,z'] t)) #[y,y'] t;rw [World.size_alloc] at f;exact ⟨((HoldsB.fresh w1 #[z,z'] t).alloc _).below hb,f.below hb,(bel2 w1 _ _).trans (hb.mono (by simp; omega))⟩
theorem meetD {w w1 w2:World} {a b c:Array Value} {z z' y y' x0 x1 y0 y1:Value} {t:TypeId} (h:Three w w1 a b c) (hb:Below ((w1.alloc (.cells #[z,z'] t)).alloc (.cells #[y,y'] t)).heap.size ((w1.alloc (.cells #[z,z'] t)).alloc (.cells #[y,y'] t)) w2) :
  SumCut w a b c #[x0,x1] #[y0,y1] (.pointer (some ⟨w1.heap.size,0,none⟩)) (.pointer (some ⟨w1.heap.size+1,0,none⟩)) ((((w2.setCell ⟨w1.heap.size,0,none⟩ x0).setCell ⟨w1.heap.size,1,none⟩ x1).setCell ⟨w1.heap.size+1,0,none⟩ y0).setCell ⟨w1.heap.size+1,1,none⟩ y1):=by
 obtain⟨n1,n2,hb2⟩:=two_new hb;obtain⟨k1,k2,k3,k4,k5⟩:=low_of h.1 h.2.1 h.2.2.1 h.2.2.2 hb2;have z0:=h.2.2.1.1;exact ⟨_,_,rfl,rfl,by omega,by omega,by omega,(k1.other2 _ _ (by omega)).other2 _ _ (by omega),(k2.other2 _ _ (by omega)).other2 _ _ (by omega),(k3.other2 _ _ (by omega)).other2 _ _ (by omega),(n1.put2 _ _).other2 _ _ (by omega),(n2.other2 _ _ (by omega)).put2 _ _,bset2 (bset2 k4 _ _ _ (by omega)) _ _ _ (by omega)⟩
theorem meetF {w w1 w2:World} {a b c:Array Value} {z z' y y' x0 x1 y0 y1:Value} {t:TypeId} (h:Three w w1 a b c) (hb:Below ((w1.alloc (.cells #[z,z'] t)).alloc (.cells #[y,y'] t)).heap.size ((w1.alloc (.cells #[z,z'] t)).alloc (.cells #[y,y'] t)) w2) :
  SumCut w a b c #[x0,x1] #[y0,y1] (.pointer (some ⟨w1.heap.size+1,0,none⟩)) (.pointer (some ⟨w1.heap.size,0,none⟩)) ((((w2.setCell ⟨w1.heap.size+1,0,none⟩ x0).setCell ⟨w1.heap.size+1,1,none⟩ x1).setCell ⟨w1.heap.size,0,none⟩ y0).setCell ⟨w1.heap.size,1,none⟩ y1):=by
 obtain⟨n1,n2,hb2⟩:=two_new hb;obtain⟨k1,k2,k3,k4,k5⟩:=low_of h.1 h.2.1 h.2.2.1 h.2.2.2 hb2;have z0:=h.2.2.1.1;exact ⟨_,_,rfl,rfl,by omega,by omega,by omega,(k1.other2 _ _ (by omega)).other2 _ _ (by omega),(k2.other2 _ _ (by omega)).other2 _ _ (by omega),(k3.other2 _ _ (by omega)).other2 _ _ (by omega),(n2.put2 _ _).other2 _ _ (by omega),(n1.other2 _ _ (by omega)).put2 _ _,bset2 (bset2 k4 _ _ _ (by omega)) _ _ _ (by omega)⟩
def sumW (same:Bool) (m V:Nat):Nat:=if same then m*18446744073709551616+V else m*18446744073709551616 - V
theorem HoldsB.put3 {w:World} {k:Nat} {x y z:Value} (h:HoldsB w k #[x,y,z]) (u v r:Value):HoldsB (((w.setCell ⟨k,0,none⟩ u).setCell ⟨k,1,none⟩ v).setCell ⟨k,2,none⟩ r) k #[u,v,r]:=
 ((h.put (j:=0) (Nat.zero_lt_succ 2) u).put (j:=1) (Nat.succ_lt_succ (Nat.zero_lt_succ 1)) v).put (j:=2) (Nat.lt_succ_self 2) r
theorem HoldsB.other3 {w:World} {k g:Nat} {c:Array Value} (h:HoldsB w k c) (u v r:Value) (hk:g≠k):HoldsB (((w.setCell ⟨g,0,none⟩ u).setCell ⟨g,1,none⟩ v).setCell ⟨g,2,none⟩ r) k c:=
 ((h.other ⟨g,0,none⟩ u hk).other ⟨g,1,none⟩ v hk).other ⟨g,2,none⟩ r hk
theorem bset3 {B:Nat} {w w':World} (h:Below B w w') (g:Nat) (u v r:Value) (hg:B≤g):Below B w (((w'.setCell ⟨g,0,none⟩ u).setCell ⟨g,1,none⟩ v).setCell ⟨g,2,none⟩ r):=((h.setCell hg u).setCell hg v).setCell hg r
theorem swapped {w w1:World} {x y z x' y' z':Value} {c:Array Value} (h:Three w w1 #[x,y,z] #[x',y',z'] c) :
  Three w ((((((w1.setCell ⟨w.heap.size,0,none⟩ x').setCell ⟨w.heap.size,1,none⟩ y').setCell ⟨w.heap.size,2,none⟩ z').setCell ⟨w.heap.size+1,0,none⟩ x).setCell ⟨w.heap.size+1,1,none⟩ y).setCell ⟨w.heap.size+1,2,none⟩ z) #[x',y',z'] #[x,y,z] c:=by
 obtain⟨h1,h2,h3,h4⟩:=h;exact ⟨(h1.put3 _ _ _).other3 _ _ _ (by omega),(h2.other3 _ _ _ (by omega)).put3 _ _ _,(h3.other3 _ _ _ (by omega)).other3 _ _ _ (by omega),bset3 (bset3 h4 _ _ _ _ (by omega)) _ _ _ _ (by omega)⟩
theorem sum_ord (s t:Bool) (m n:Nat) (e f:Int) (S T:Bool) (M N:Nat) (E F:Int) (w:World) (hm:M < 9007199254740992) (he0:-3000≤E) (he1:E≤3000) (hf0:-3000≤F) (hf1:F≤3000) (hef:0≤E - F)
  (hcase:(nearB e f m n=false∧S=s∧M=m∧E=e∧T=t∧N=n∧F=f)∨(nearB e f m n=true∧S=t∧M=n∧E=f∧T=s∧N=m∧F=e)) (hle:lowerW N (E - F)≤M*18446744073709551616) :
  Calls Tryz.prog 94 #[.agg #[.bool s,.int .u64 m,.int .i64 e],.agg #[.bool t,.int .u64 n,.int .i64 f]] w (Rt (.agg #[.bool S,.int .u64 (hiW (sumW (S == T) M (lowerW N (E - F)))),.int .u64 (loW (sumW (S == T) M (lowerW N (E - F)))),.int .i64 (E - 64)]) w):=by
 have cN:=Hd (fun w=>nearer_any s t m n e f w);have cL:=Hd (fun w=>lowered_any N (E - F) w hef);have cP:=Hd (fun w=>plus_top M (lowerW N (E - F)) w (by omega));have cM:=Hd (fun w=>minus_top M (lowerW N (E - F)) w hle (by omega));have Hsub:=Hd (show IntKind.i64.wrap (E - F)=E - F from IntWalk.i64_in _ (by omega));have Hsub2:=Hd (show IntKind.i64.wrap (E - 64)=E - 64 from IntWalk.i64_in _ (by omega));have Hcase:=Hd hcase;clear hle hm he0 he1 hf0 hf1 hef hcase;go_enter Tryz.func94,Tryz.ntmps94;go_wp2_with fail;refine (cN.out _).mono ?_;rintro r w0 ⟨rfl,hb⟩;have HV:Hid (Three w w0 _ _ _):=Hd (holds3 hb);clear hb
 go_upto_if 9 with fail
 go_cut [] (fun wx=>Three w wx #[.bool S,.int .u64 M,.int .i64 E] #[.bool T,.int .u64 N,.int .i64 F] #[.bool false,.int .u64 0,.int .u64 0,true])
 case first =>
  rcases Hcase.out with ⟨hnear,rfl,rfl,rfl,rfl,rfl,rfl⟩ | ⟨hnear,rfl,rfl,rfl,rfl,rfl,rfl⟩
  ·rw [hnear]
   go_wp2_with fail
   go_meet
   exact HV.out
  ·obtain⟨⟨z1,c1,f1⟩,⟨z2,c2,f2⟩,_,_⟩:=HV.out
   rw [hnear];go_wp2_with fail
   go_meet
   exact swapped HV.out
 case rest =>
  clear HV cN;obtain⟨w1,rfl⟩:∃ x:World,x=wc:=⟨_,rfl⟩;have HW:=Hd hcut;obtain⟨h1,h2,h3,h4⟩:=hcut;have s1:=h1.2.1 1;have s2:=h1.2.1 2;have s3:=h2.2.1 1;have s4:=h2.2.1 2
  have z:w.heap.size+1+1 < w1.heap.size:=h3.1
  have hsub:=Hsub.out;clear h1 h2 h3 h4;go_upto_region 3 with fail
  go_cut [5,6] (SumCut w #[.bool S,.int .u64 M,.int .i64 E] #[.bool T,.int .u64 N,.int .i64 F] #[.bool false,.int .u64 0,.int .u64 0,true] #[.int .u64 M,.int .u64 0] #[.int .u64 (hiW (lowerW N (E - F))),.int .u64 (loW (lowerW N (E - F)))])
  case first =>
   have q1:¬ w1.heap.size=w.heap.size:=by omega
   have q2:¬ w1.heap.size=w.heap.size+1:=by omega
   have q3:¬ w1.heap.size+1=w.heap.size:=by omega
   have q4:¬ w1.heap.size+1=w.heap.size+1:=by omega
   have p1:w.heap.size < w1.heap.size:=by omega
   have p2:w.heap.size < w1.heap.size+1:=by omega
   have p3:w.heap.size < w1.heap.size+1+1:=by omega
   have p4:w.heap.size+1 < w1.heap.size:=by omega
   have p5:w.heap.size+1 < w1.heap.size+1:=by omega
   have p6:w.heap.size+1 < w1.heap.size+1+1:=by omega
   clear z
   go_region_held3 (fun w'=>w'.cell? ⟨w.heap.size,1,none⟩=some (.int .u64 M)∧w'.cell? ⟨w.heap.size,2,none⟩=some (.int .i64 E)∧w'.cell? ⟨w.heap.size+1,1,none⟩=some (.int .u64 N)∧w'.cell? ⟨w.heap.size+1,2,none⟩=some (.int .i64 F)) (first | (simp [*,World.cell?_alloc_past]; done) | go_keep)
    (first
     | (refine (cL.out _).mono ?_; rintro r w2 ⟨rfl,hb0⟩; have hb:=undrew hb0; clear hb0; obtain⟨hbc,hbf⟩:=bcell hb; have hbz:=hb.size; (try simp only [World.size_alloc] at hbc hbf hbz); have y3:¬ w2.heap.size=w.heap.size:=(by omega); have y4:¬ w2.heap.size=w.heap.size+1:=(by omega); have y5:¬ w2.heap.size+1=w.heap.size:=(by omega); have y6:¬ w2.heap.size+1=w.heap.size+1:=(by omega); have x1:w.heap.size < w2.heap.size:=(by omega); have x2:w.heap.size < w2.heap.size+1:=(by omega); have x3:w.heap.size+1 < w2.heap.size:=(by omega); have x4:w.heap.size+1 < w2.heap.size+1:=(by omega); (try have x5:w1.heap.size < w2.heap.size:=(by omega)); (try have x6:w1.heap.size+1 < w2.heap.size:=(by omega)); (try have x7:¬ w2.heap.size=w1.heap.size:=(by omega)); have Hb:=Hd hb; clear hb hbz))
   all_goals (go_wp2_with fail; go_meet)
   ·exact meetA HW.out Hb.out
   ·exact meetB HW.out Hb.out
   ·exact meetC HW.out Hb.out
   ·exact meetD HW.out Hb.out
   ·exact meetE HW.out Hb.out
   ·exact meetF HW.out Hb.out
  case rest =>
   obtain⟨p,q,rfl,rfl,hpq,hp,hq,⟨gz1,gc1,gf1⟩,⟨gz2,gc2,gf2⟩,⟨gz3,gc3,gf3⟩,⟨gz4,gc4,gf4⟩,⟨gz5,gc5,gf5⟩,HX⟩:=hcut;have hsub2:=Hsub2.out;clear s1 s2 s3 s4 z
   have n1:¬ p=w.heap.size:=by omega
   have n2:¬ p=w.heap.size+1+1:=by omega
   have n3:¬ w.heap.size+1+1=w.heap.size:=by omega
   have Hp:=Hd hp;clear hp hq hpq
   cases hst:(S == T)
   ·go_wp2_with fail
    refine (cM.out _).mono ?_;rintro r w3 ⟨rfl,hb⟩;obtain⟨iz1,ic1,if1⟩:=keepB hb gz1 gc1 gf1;obtain⟨iz3,ic3,if3⟩:=keepB hb gz3 gc3 gf3;obtain⟨iz4,ic4,if4⟩:=keepB hb gz4 gc4 gf4;have HY:=Hd (HX.trans (hb.mono (Nat.le_of_lt gz1)));clear hb gc1 gf1 gc2 gf2 gc3 gf3 gc4 gf4 gc5 gf5 gz1 gz2 gz3 gz4 gz5 HX;go_wp2;refine bodyPost_ret (v:=.agg #[.bool S,.int .u64 (hiW (M*18446744073709551616 - lowerW N (E - F))),.int .u64 (loW (M*18446744073709551616 - lowerW N (E - F))),.int .i64 (E - 64)]) (by simp [results,Tryz.results94,go_sem,ic3]) rfl ⟨by rw [hst]; rfl,?_⟩;have hp:=Hp.out
    exact (((bset2 HY.out p _ _ (by omega)).setCell (by show _≤w.heap.size+1+1; omega) _).setCell (by show _≤w.heap.size+1+1; omega) _).setCell (by show _≤w.heap.size+1+1; omega) _ |>.setCell (by show _≤w.heap.size+1+1; omega) _
   ·go_wp2_with fail
    refine (cP.out _).mono ?_;rintro r w3 ⟨rfl,hb⟩;obtain⟨iz1,ic1,if1⟩:=keepB hb gz1 gc1 gf1;obtain⟨iz3,ic3,if3⟩:=keepB hb gz3 gc3 gf3;obtain⟨iz4,ic4,if4⟩:=keepB hb gz4 gc4 gf4;have HY:=Hd (HX.trans (hb.mono (Nat.le_of_lt gz1)));clear hb gc1 gf1 gc2 gf2 gc3 gf3 gc4 gf4 gc5 gf5 gz1 gz2 gz3 gz4 gz5 HX;go_wp2;refine bodyPost_ret (v:=.agg #[.bool S,.int .u64 (hiW (M*18446744073709551616+lowerW N (E - F))),.int .u64 (loW (M*18446744073709551616+lowerW N (E - F))),.int .i64 (E - 64)]) (by simp [results,Tryz.results94,go_sem,ic3]) rfl ⟨by rw [hst]; rfl,?_⟩;have hp:=Hp.out
    exact (((bset2 HY.out p _ _ (by omega)).setCell (by show _≤w.heap.size+1+1; omega) _).setCell (by show _≤w.heap.size+1+1; omega) _).setCell (by show _≤w.heap.size+1+1; omega) _ |>.setCell (by show _≤w.heap.size+1+1; omega) _
end
section
open Go.RowKit
def plusN (s t:Bool) (m n:Nat) (e f:Int):Bool:=if nearB e f m n then t else s
def plusW (s t:Bool) (m n:Nat) (e f:Int):Nat:=if nearB e f m n then sumW (t == s) n (lowerW m (f - e)) else sumW (s == t) m (lowerW n (e - f))
def plusX (m n:Nat) (e f:Int):Int:=if nearB e f m n then f - 64 else e - 64
theorem lower_le (m n:Nat) (e f:Int) (hn:n < 9007199254740992) (h:f < e∨f=e∧n≤m) (hm:f < e→4503599627370496≤m):lowerW n (e - f)≤m*18446744073709551616:=by
 unfold lowerW
 split
 ·rename_i h1
  have:=hm (by omega);omega
 ·rename_i h1
  rcases h with h | ⟨h,h2⟩
  ·have h3:=hm h
   have e63:(2:Nat) ^ 63=9223372036854775808:=by decide
   have h4:2 ^ (64 - (e - f).toNat)≤2 ^ 63:=Nat.pow_le_pow_right (by decide) (by omega);rw [e63] at h4;have h5:=Nat.mul_le_mul_left n h4;exact Nat.le_trans h5 (by clear h4 h5 e63; omega)
  ·have:(e - f).toNat=0:=by omega
   rw [this,show (2:Nat) ^ (64 - 0)=18446744073709551616 by decide];omega
theorem sum_any (s t:Bool) (m n:Nat) (e f:Int) (w:World) (hm:m < 9007199254740992) (hn:n < 9007199254740992) (he0:-1074≤e) (he1:e≤3000) (hf0:-1074≤f) (hf1:f≤3000)
  (hme:-1074 < e→4503599627370496≤m) (hnf:-1074 < f→4503599627370496≤n) :
  Calls Tryz.prog 94 #[.agg #[.bool s,.int .u64 m,.int .i64 e],.agg #[.bool t,.int .u64 n,.int .i64 f]] w (Rt (.agg #[.bool (plusN s t m n e f),.int .u64 (hiW (plusW s t m n e f)),.int .u64 (loW (plusW s t m n e f)),.int .i64 (plusX m n e f)]) w):=by
 cases hc:nearB e f m n
 ·have h:¬ (e < f∨e=f∧(m:Int) < n):=by unfold nearB at hc; exact of_decide_eq_false hc
  have c:=sum_ord s t m n e f s t m n e f w hm (by omega) he1 (by omega) hf1 (by omega) (Or.inl ⟨hc,rfl,rfl,rfl,rfl,rfl,rfl⟩) (lower_le m n e f hn (by omega) (fun g=>hme (by omega)));unfold plusN plusW plusX;rw [hc];exact c
 ·have h:e < f∨e=f∧(m:Int) < n:=by unfold nearB at hc; exact of_decide_eq_true hc
  have c:=sum_ord s t m n e f t s n m f e w hn (by omega) hf1 (by omega) he1 (by omega) (Or.inr ⟨hc,rfl,rfl,rfl,rfl,rfl,rfl⟩) (lower_le n m f e hm (by omega) (fun g=>hnf (by omega)));unfold plusN plusW plusX;rw [hc];exact c
theorem plusW_lt (s t:Bool) (m n:Nat) (e f:Int) (hm:m < 9007199254740992) (hn:n < 9007199254740992) (hme:-1074 < e→4503599627370496≤m) (hnf:-1074 < f→4503599627370496≤n) (he0:-1074≤e) (hf0:-1074≤f) :
  plusW s t m n e f < 340282366920938463463374607431768211456:=by
 unfold plusW
 cases hc:nearB e f m n
 ·have h:¬ (e < f∨e=f∧(m:Int) < n):=by unfold nearB at hc; exact of_decide_eq_false hc
  have:=lower_le m n e f hn (by omega) (fun g=>hme (by omega))
  show sumW _ _ _ < _
  unfold sumW
  split <;> omega
 ·have h:e < f∨e=f∧(m:Int) < n:=by unfold nearB at hc; exact of_decide_eq_true hc
  have:=lower_le n m f e hm (by omega) (fun g=>hnf (by omega))
  show sumW _ _ _ < _
  unfold sumW
  split <;> omega
theorem plusX_in (m n:Nat) (e f:Int) (he0:-1074≤e) (he1:e≤1000) (hf0:-1074≤f) (hf1:f≤1000):-1138≤plusX m n e f∧plusX m n e f≤1000:=by
 unfold plusX; split <;> omega
end
section
open Go.RowKit
theorem mant_lt (a:Nat):mant a < 9007199254740992:=by
 unfold mant
 split <;> omega
theorem expo_in (a:Nat) (h:rightB a=true):-1074≤expo a∧expo a≤971:=by
 unfold rightB at h
 simp at h
 have:rung a < 9218868437227405312:=h.1
 unfold expo
 split <;> omega
theorem mant_norm (a:Nat) (h:-1074 < expo a):4503599627370496≤mant a:=by
 unfold expo at h;unfold mant
 split
 ·rename_i g; rw [if_pos g] at h; omega
 ·omega
def addW (a b:Nat) (up:Bool):Nat:=if rightB a&&rightB b then roundW (plusN (sgnB a) (sgnB b) (mant a) (mant b) (expo a) (expo b)) (plusW (sgnB a) (sgnB b) (mant a) (mant b) (expo a) (expo b)) (plusX (mant a) (mant b) (expo a) (expo b)) up else 0
def addE (a b:Nat) (up:Bool):Int:=if rightB a&&rightB b then roundE (plusN (sgnB a) (sgnB b) (mant a) (mant b) (expo a) (expo b)) (plusW (sgnB a) (sgnB b) (mant a) (mant b) (expo a) (expo b)) (plusX (mant a) (mant b) (expo a) (expo b)) up else 13
theorem add_any (a b:Nat) (up:Bool) (w:World) (ha:a < 18446744073709551616) (hb:b < 18446744073709551616) :
  Calls Tryz.prog 49 #[a,b,.bool up] w (Rt (.tuple #[.float .f64 (addW a b up),.int .i64 (addE a b up)]) w):=by
 have cRa:=Hd (fun w=>right_any a w ha);have cRb:=Hd (fun w=>right_any b w hb);have cSa:=Hd (fun w=>split_any a w ha);have cSb:=Hd (fun w=>split_any b w hb)
 cases ra:rightB a
 ·have e1:addW a b up=0:=if_neg (by rw [ra]; exact Bool.false_ne_true)
  have e2:addE a b up=13:=if_neg (by rw [ra]; exact Bool.false_ne_true);have E:=Hd (And.intro e1 e2);have RA:=Hd ra;clear ha hb e1 e2 ra;go_enter Tryz.func49,Tryz.ntmps49;go_wp2_with fail;refine (cRa.out _).mono ?_;rintro r w1 ⟨rfl,rfl⟩;rw [RA.out];go_wp2
  go_ret2
  exact ⟨ret_pair ⟨E.out.1.symm,E.out.2.symm⟩,Below.refl _ _⟩
 ·cases rb:rightB b
  ·have e1:addW a b up=0:=if_neg (by rw [ra,rb]; decide)
   have e2:addE a b up=13:=if_neg (by rw [ra,rb]; decide);have E:=Hd (And.intro e1 e2);have RA:=Hd ra;have RB:=Hd rb;clear ha hb e1 e2 ra rb;go_enter Tryz.func49,Tryz.ntmps49;go_wp2_with fail;refine (cRa.out _).mono ?_;rintro r w1 ⟨rfl,rfl⟩;rw [RA.out];go_wp2_with fail;refine (cRb.out _).mono ?_;rintro r w1 ⟨rfl,rfl⟩;rw [RB.out];go_wp2
   go_ret2
   exact ⟨ret_pair ⟨E.out.1.symm,E.out.2.symm⟩,Below.refl _ _⟩
  ·have xa:=expo_in a ra
   have xb:=expo_in b rb;have hx:=plusX_in (mant a) (mant b) (expo a) (expo b) xa.1 (by omega) xb.1 (by omega);have cS:=Hd (fun w=>sum_any (sgnB a) (sgnB b) (mant a) (mant b) (expo a) (expo b) w (mant_lt a) (mant_lt b) xa.1 (by omega) xb.1 (by omega) (mant_norm a) (mant_norm b));have cR:=Hd (fun w=>round_any (plusN (sgnB a) (sgnB b) (mant a) (mant b) (expo a) (expo b)) (plusW (sgnB a) (sgnB b) (mant a) (mant b) (expo a) (expo b)) (plusX (mant a) (mant b) (expo a) (expo b)) up w (plusW_lt _ _ _ _ _ _ (mant_lt a) (mant_lt b) (mant_norm a) (mant_norm b) xa.1 xb.1) (by omega) (by omega));have e1:addW a b up=roundW (plusN (sgnB a) (sgnB b) (mant a) (mant b) (expo a) (expo b)) (plusW (sgnB a) (sgnB b) (mant a) (mant b) (expo a) (expo b)) (plusX (mant a) (mant b) (expo a) (expo b)) up:=if_pos (by rw [ra,rb]; decide);have e2:addE a b up=roundE (plusN (sgnB a) (sgnB b) (mant a) (mant b) (expo a) (expo b)) (plusW (sgnB a) (sgnB b) (mant a) (mant b) (expo a) (expo b)) (plusX (mant a) (mant b) (expo a) (expo b)) up:=if_pos (by rw [ra,rb]; decide)
   have E:=Hd (And.intro e1 e2);have RA:=Hd ra;have RB:=Hd rb;clear ha hb e1 e2 ra rb xa xb hx;go_enter Tryz.func49,Tryz.ntmps49;go_wp2_with fail;refine (cRa.out _).mono ?_;rintro r w1 ⟨rfl,rfl⟩;rw [RA.out];go_wp2_with fail;refine (cRb.out _).mono ?_;rintro r w1 ⟨rfl,rfl⟩;rw [RB.out];go_wp2_with fail;refine (cSa.out _).mono ?_;rintro r w1 ⟨rfl,h1⟩;go_wp2_with fail;refine (cSb.out _).mono ?_;rintro r w2 ⟨rfl,h2⟩;go_wp2_with fail;refine (cS.out _).mono ?_;rintro r w3 ⟨rfl,h3⟩;go_wp2_with fail;refine (cR.out _).mono ?_;rintro r w4 ⟨rfl,h4⟩;have HH:=Hd (((h1.trans (h2.mono h1.size)).trans (h3.mono (Nat.le_trans h1.size h2.size))).trans (h4.mono (Nat.le_trans h1.size (Nat.le_trans h2.size h3.size))));clear h1 h2 h3 h4;go_wp2
   go_ret2
   exact ⟨ret_pair ⟨E.out.1.symm,E.out.2.symm⟩,HH.out⟩
def subW (a b:Nat) (up:Bool):Nat:=if rightB a&&rightB b then roundW (plusN (sgnB a) (!sgnB b) (mant a) (mant b) (expo a) (expo b)) (plusW (sgnB a) (!sgnB b) (mant a) (mant b) (expo a) (expo b)) (plusX (mant a) (mant b) (expo a) (expo b)) up else 0
def subE (a b:Nat) (up:Bool):Int:=if rightB a&&rightB b then roundE (plusN (sgnB a) (!sgnB b) (mant a) (mant b) (expo a) (expo b)) (plusW (sgnB a) (!sgnB b) (mant a) (mant b) (expo a) (expo b)) (plusX (mant a) (mant b) (expo a) (expo b)) up else 13
theorem sub_any (a b:Nat) (up:Bool) (w:World) (ha:a < 18446744073709551616) (hb:b < 18446744073709551616) :
  Calls Tryz.prog 51 #[a,b,.bool up] w (Rt (.tuple #[.float .f64 (subW a b up),.int .i64 (subE a b up)]) w):=by
 have cRa:=Hd (fun w=>right_any a w ha);have cRb:=Hd (fun w=>right_any b w hb);have cSa:=Hd (fun w=>split_any a w ha);have cSb:=Hd (fun w=>split_any b w hb)
 cases ra:rightB a
 ·have e1:subW a b up=0:=if_neg (by rw [ra]; exact Bool.false_ne_true)
  have e2:subE a b up=13:=if_neg (by rw [ra]; exact Bool.false_ne_true);have E:=Hd (And.intro e1 e2);have RA:=Hd ra;clear ha hb e1 e2 ra;go_enter Tryz.func51,Tryz.ntmps51;go_wp2_with fail;refine (cRa.out _).mono ?_;rintro r w1 ⟨rfl,rfl⟩;rw [RA.out];go_wp2
  go_ret2
  exact ⟨ret_pair ⟨E.out.1.symm,E.out.2.symm⟩,Below.refl _ _⟩
 ·cases rb:rightB b
  ·have e1:subW a b up=0:=if_neg (by rw [ra,rb]; decide)
   have e2:subE a b up=13:=if_neg (by rw [ra,rb]; decide);have E:=Hd (And.intro e1 e2);have RA:=Hd ra;have RB:=Hd rb;clear ha hb e1 e2 ra rb;go_enter Tryz.func51,Tryz.ntmps51;go_wp2_with fail;refine (cRa.out _).mono ?_;rintro r w1 ⟨rfl,rfl⟩;rw [RA.out];go_wp2_with fail;refine (cRb.out _).mono ?_;rintro r w1 ⟨rfl,rfl⟩;rw [RB.out];go_wp2
   go_ret2
   exact ⟨ret_pair ⟨E.out.1.symm,E.out.2.symm⟩,Below.refl _ _⟩
  ·have xa:=expo_in a ra
   have xb:=expo_in b rb;have hx:=plusX_in (mant a) (mant b) (expo a) (expo b) xa.1 (by omega) xb.1 (by omega);have cN:=Hd (fun w=>negative_any (sgnB b) (mant b) (expo b) w);have cS:=Hd (fun w=>sum_any (sgnB a) (!sgnB b) (mant a) (mant b) (expo a) (expo b) w (mant_lt a) (mant_lt b) xa.1 (by omega) xb.1 (by omega) (mant_norm a) (mant_norm b));have cR:=Hd (fun w=>round_any (plusN (sgnB a) (!sgnB b) (mant a) (mant b) (expo a) (expo b)) (plusW (sgnB a) (!sgnB b) (mant a) (mant b) (expo a) (expo b)) (plusX (mant a) (mant b) (expo a) (expo b)) up w (plusW_lt _ _ _ _ _ _ (mant_lt a) (mant_lt b) (mant_norm a) (mant_norm b) xa.1 xb.1) (by omega) (by omega));have e1:subW a b up=roundW (plusN (sgnB a) (!sgnB b) (mant a) (mant b) (expo a) (expo b)) (plusW (sgnB a) (!sgnB b) (mant a) (mant b) (expo a) (expo b)) (plusX (mant a) (mant b) (expo a) (expo b)) up:=if_pos (by rw [ra,rb]; decide);have e2:subE a b up=roundE (plusN (sgnB a) (!sgnB b) (mant a) (mant b) (expo a) (expo b)) (plusW (sgnB a) (!sgnB b) (mant a) (mant b) (expo a) (expo b)) (plusX (mant a) (mant b) (expo a) (expo b)) up:=if_pos (by rw [ra,rb]; decide)
   have E:=Hd (And.intro e1 e2);have RA:=Hd ra;have RB:=Hd rb;clear ha hb e1 e2 ra rb xa xb hx;go_enter Tryz.func51,Tryz.ntmps51;go_wp2_with fail;refine (cRa.out _).mono ?_;rintro r w1 ⟨rfl,rfl⟩;rw [RA.out];go_wp2_with fail;refine (cRb.out _).mono ?_;rintro r w1 ⟨rfl,rfl⟩;rw [RB.out];go_wp2_with fail;refine (cSa.out _).mono ?_;rintro r w1 ⟨rfl,h1⟩;go_wp2_with fail;refine (cSb.out _).mono ?_;rintro r w2 ⟨rfl,h2⟩;go_wp2_with fail;refine (cN.out _).mono ?_;rintro r w0 ⟨rfl,h0⟩;go_wp2_with fail;refine (cS.out _).mono ?_;rintro r w3 ⟨rfl,h3⟩;go_wp2_with fail;refine (cR.out _).mono ?_;rintro r w4 ⟨rfl,h4⟩;have HH:=Hd ((((h1.trans (h2.mono h1.size)).trans (h0.mono (Nat.le_trans h1.size h2.size))).trans (h3.mono (Nat.le_trans h1.size (Nat.le_trans h2.size h0.size)))).trans (h4.mono (Nat.le_trans h1.size (Nat.le_trans h2.size (Nat.le_trans h0.size h3.size)))));clear h0;clear h1 h2 h3 h4;go_wp2
   go_ret2
   exact ⟨ret_pair ⟨E.out.1.symm,E.out.2.symm⟩,HH.out⟩
def mulW (a b:Nat) (up:Bool):Nat:=if rightB a&&rightB b then roundW (!(sgnB a == sgnB b)) (mant a*mant b) (expo a+expo b) up else 0
def mulE (a b:Nat) (up:Bool):Int:=if rightB a&&rightB b then roundE (!(sgnB a == sgnB b)) (mant a*mant b) (expo a+expo b) up else 13
theorem mul_any (a b:Nat) (up:Bool) (w:World) (ha:a < 18446744073709551616) (hb:b < 18446744073709551616) :
  Calls Tryz.prog 50 #[a,b,.bool up] w (Rt (.tuple #[.float .f64 (mulW a b up),.int .i64 (mulE a b up)]) w):=by
 have cRa:=Hd (fun w=>right_any a w ha);have cRb:=Hd (fun w=>right_any b w hb);have cSa:=Hd (fun w=>split_any a w ha);have cSb:=Hd (fun w=>split_any b w hb)
 cases ra:rightB a
 ·have e1:mulW a b up=0:=if_neg (by rw [ra]; exact Bool.false_ne_true)
  have e2:mulE a b up=13:=if_neg (by rw [ra]; exact Bool.false_ne_true);have E:=Hd (And.intro e1 e2);have RA:=Hd ra;clear ha hb e1 e2 ra;go_enter Tryz.func50,Tryz.ntmps50;go_wp2_with fail;refine (cRa.out _).mono ?_;rintro r w1 ⟨rfl,rfl⟩;rw [RA.out];go_wp2
  go_ret2
  exact ⟨ret_pair ⟨E.out.1.symm,E.out.2.symm⟩,Below.refl _ _⟩
 ·cases rb:rightB b
  ·have e1:mulW a b up=0:=if_neg (by rw [ra,rb]; decide)
   have e2:mulE a b up=13:=if_neg (by rw [ra,rb]; decide);have E:=Hd (And.intro e1 e2);have RA:=Hd ra;have RB:=Hd rb;clear ha hb e1 e2 ra rb;go_enter Tryz.func50,Tryz.ntmps50;go_wp2_with fail;refine (cRa.out _).mono ?_;rintro r w1 ⟨rfl,rfl⟩;rw [RA.out];go_wp2_with fail;refine (cRb.out _).mono ?_;rintro r w1 ⟨rfl,rfl⟩;rw [RB.out];go_wp2
   go_ret2
   exact ⟨ret_pair ⟨E.out.1.symm,E.out.2.symm⟩,Below.refl _ _⟩
  ·have xa:=expo_in a ra
   have xb:=expo_in b rb
   have hmul:mant a*mant b < 340282366920938463463374607431768211456:=Nat.lt_of_le_of_lt (Nat.mul_le_mul (Nat.le_of_lt (mant_lt a)) (Nat.le_of_lt (mant_lt b))) (by decide)
   have ma:=mant_lt a;have mb:=mant_lt b;have cS:=Hd (fun w=>product_any (sgnB a) (sgnB b) (mant a) (mant b) (expo a) (expo b) w (by omega) (by omega) (by omega) (by omega) (by omega) (by omega));have cR:=Hd (fun w=>round_any (!(sgnB a == sgnB b)) (mant a*mant b) (expo a+expo b) up w hmul (by omega) (by omega));clear ma mb hmul;have e1:mulW a b up=roundW (!(sgnB a == sgnB b)) (mant a*mant b) (expo a+expo b) up:=if_pos (by rw [ra,rb]; decide);have e2:mulE a b up=roundE (!(sgnB a == sgnB b)) (mant a*mant b) (expo a+expo b) up:=if_pos (by rw [ra,rb]; decide);have E:=Hd (And.intro e1 e2);have RA:=Hd ra;have RB:=Hd rb;clear ha hb e1 e2 ra rb xa xb;go_enter Tryz.func50,Tryz.ntmps50;go_wp2_with fail;refine (cRa.out _).mono ?_;rintro r w1 ⟨rfl,rfl⟩;rw [RA.out];go_wp2_with fail;refine (cRb.out _).mono ?_;rintro r w1 ⟨rfl,rfl⟩;rw [RB.out];go_wp2_with fail;refine (cSa.out _).mono ?_;rintro r w1 ⟨rfl,h1⟩
   go_wp2_with fail;refine (cSb.out _).mono ?_;rintro r w2 ⟨rfl,h2⟩;go_wp2_with fail;refine (cS.out _).mono ?_;rintro r w3 ⟨rfl,h3⟩;go_wp2_with fail;refine (cR.out _).mono ?_;rintro r w4 ⟨rfl,h4⟩;have HH:=Hd (((h1.trans (h2.mono h1.size)).trans (h3.mono (Nat.le_trans h1.size h2.size))).trans (h4.mono (Nat.le_trans h1.size (Nat.le_trans h2.size h3.size))));clear h1 h2 h3 h4;go_wp2
   go_ret2
   exact ⟨ret_pair ⟨E.out.1.symm,E.out.2.symm⟩,HH.out⟩
end
end Go.Proofs.YtnaomilkgfkegaaGreat
