/- What the claim stands on, part 15: QRc. -/
import Derived.Test.YtnaomilkgfkegaaGreatTA12
import Derived.Test.YtnaomilkgfkegaaGreatTA13
import Derived.Test.YtnaomilkgfkegaaGreatTA0
import Derived.LoopTactic
import Derived.Deep.RegionHeld3
set_option maxHeartbeats 4000000
set_option maxRecDepth 100000
namespace Go.Proofs.YtnaomilkgfkegaaGreat
section
open Go.RowKit
attribute [local go_sem] run_store_float
theorem Has1.cell1 {v:World} {b:Nat} {x:Value} (h:Has1 v (b,#[x])):v.cell? ⟨b,0,none⟩=some x:=h.2.1 0
theorem Has1.froz1 {v:World} {b:Nat} {x:Value} (h:Has1 v (b,#[x])):v.frozen? ⟨b,0,none⟩=false:=h.2.2 0
structure RE (B:World) (pb:Nat) (e:Int) (l:List (Nat×Array Value)) (v:World):Prop where
 put:Put ⟨pb,0,none⟩ (.int .i64 e) B v
 cal:Has1 v (pb,#[.int .i64 e])
 blocks:∀ p,p∈l→Has1 v p∧pb≠p.1∧B.heap.size≤p.1
theorem Put.from_size {p:Addr} {x:Value} {w w':World} (h:Put p x w w'):w.heap.size≤w'.heap.size:=by
 have:=Below.size h
 rw [size_set] at this
 exact this
section
variable {B v v':World} {pb:Nat} {e e':Int} {l:List (Nat×Array Value)}
theorem RE.start (h:Has1 B (pb,#[.int .i64 e])):RE B pb e [] B:=⟨Put.of_below h.cell1 (Below.refl _ _),h,fun p hp=>by cases hp⟩
theorem RE.below (h:RE B pb e l v) (hb:Below v.heap.size v v'):RE B pb e l v':=⟨h.put.below hb,h.cal.below hb,fun p hp=>⟨(h.blocks p hp).1.below hb,(h.blocks p hp).2⟩⟩
theorem RE.putc (h:RE B pb e l v) (hp:Put ⟨pb,0,none⟩ (.int .i64 e') v v'):RE B pb e' l v':=⟨h.put.trans hp,h.cal.own hp,fun p hq=>⟨(h.blocks p hq).1.put (h.blocks p hq).2.1 hp,(h.blocks p hq).2⟩⟩
theorem RE.drew (h:RE B pb e l v):RE B pb e l v.drew:=⟨h.put.below (Below.refl _ _).drew,h.cal,h.blocks⟩
theorem RE.size (h:RE B pb e l v):B.heap.size≤v.heap.size:=h.put.from_size
theorem RE.made (h:RE B pb e l v) (c:Array Value) (t:TypeId):RE B pb e ((v.heap.size,c) :: l) (v.alloc (.cells c t)):=
 ⟨(h.below (bel1 _ _)).put,(h.below (bel1 _ _)).cal,fun p hp=>by
   rcases List.mem_cons.1 hp with q | q
   · rw [q]; exact ⟨Has1.made v c t,Nat.ne_of_lt h.cal.1,h.size⟩
   · exact (h.below (bel1 _ _)).blocks p q⟩
theorem RE.sub (h:RE B pb e l v) {k:List (Nat×Array Value)} (hk:∀ p,p∈k→p∈l):RE B pb e k v:=⟨h.put,h.cal,fun p hp=>h.blocks p (hk p hp)⟩
theorem RE.nth (h:RE B pb e l v) (i:Nat) {p:Nat×Array Value} (hp:l[i]? = some p):Has1 v p:=(h.blocks p (List.mem_of_getElem? hp)).1
theorem RE.from_ (h:RE B pb e l v) (i:Nat) {p:Nat×Array Value} (hp:l[i]? = some p):B.heap.size≤p.1:=(h.blocks p (List.mem_of_getElem? hp)).2.2
theorem RE.ne (h:RE B pb e l v) (i:Nat) {p:Nat×Array Value} (hp:l[i]? = some p):pb≠p.1:=(h.blocks p (List.mem_of_getElem? hp)).2.1
theorem RE.fin (h:RE B pb e l v) {q:Nat} (hq:B.heap.size≤q) (x y:Value):Put ⟨pb,0,none⟩ (.int .i64 e) B ((v.setCell ⟨q,0,none⟩ x).setCell ⟨q,1,none⟩ y):=
 (Below.setCell h.put hq _).setCell hq _
theorem RE.cset (h:RE B pb e l v) (e':Int):RE B pb e' l (v.setCell ⟨pb,0,none⟩ (.int .i64 e')):=h.putc (Below.refl _ _)
end
theorem Has1.set_two {v:World} {q:Nat} {x y:Value} (h:Has1 v (q,#[x,y])) (x' y':Value):Has1 ((v.setCell ⟨q,0,none⟩ x').setCell ⟨q,1,none⟩ y') (q,#[x',y']):=by
 have h0:v.cell? ⟨q,0,none⟩=some x:=h.2.1 0
 have h1:v.cell? ⟨q,1,none⟩=some y:=h.2.1 1
 refine ⟨by rw [size_set,size_set]; exact h.1,fun i=>?_,fun i=>((frozen_set _ _ _ _).trans (frozen_set _ _ _ _)).trans (h.2.2 i)⟩
 match i with
 | 0 =>
   rw [World.cell?_setCell_other _ _ _ _ (by simp)]
   exact World.cell?_setCell_same _ _ _ h0
 | 1=>exact World.cell?_setCell_same _ _ _ (by rw [World.cell?_setCell_other _ _ _ _ (by simp)]; exact h1)
 | n+2 =>
   rw [World.cell?_setCell_other _ _ _ _ (by simp),World.cell?_setCell_other _ _ _ _ (by simp)]
   exact h.2.1 (n+2)
theorem RE.set_two {B v:World} {pb:Nat} {e:Int} {l k:List (Nat×Array Value)} (h:RE B pb e l v) {q:Nat} {x y:Value} (hx:Has1 v (q,#[x,y])) (hn:pb≠q) (hB:B.heap.size≤q) (x' y':Value) (hk:∀ p,p∈k→p=(q,#[x',y'])∨p∈l∧q≠p.1):RE B pb e k ((v.setCell ⟨q,0,none⟩ x').setCell ⟨q,1,none⟩ y') where
 put:=h.fin hB x' y'
 cal:=(h.cal.set (Ne.symm hn)).set (Ne.symm hn)
 blocks:=fun p hp=>by
   rcases hk p hp with e | ⟨e,e'⟩
   · rw [e]; exact ⟨hx.set_two _ _,hn,hB⟩
   · exact ⟨((h.blocks p e).1.set e').set e',(h.blocks p e).2⟩
theorem rRight_any (a b:Nat) (w:World) (ha:a < 18446744073709551616) (hb:b < 18446744073709551616) :
   Calls Tryz.prog 52 #[.agg #[.float .f64 a,.float .f64 b]] w fun e w'=>e = .returned (.bool (ivR a b))∧Below w.heap.size w w':=by
 have cRa:=Lib.hid (fun w=>refRight_any a w ha)
 have cRb:=Lib.hid (fun w=>refRight_any b w hb)
 cases ra:rightB a
 · have E:Hid (ivR a b=false):=by show ivR a b=false; unfold ivR; rw [ra]; rfl
   have RA:=Lib.hid ra
   clear ra ha hb
   go_enter Tryz.func52,Tryz.ntmps52
   go_wp2_with fail
   refine (cRa.out _).mono ?_
   rintro r w1 ⟨rfl,rfl⟩
   rw [RA.out]
   go_wp2
   go_ret
   exact ⟨by rw [E.out]; rfl,bel1 _ _⟩
 · cases rb:rightB b
   · have E:Hid (ivR a b=false):=by show ivR a b=false; unfold ivR; rw [ra,rb]; rfl
     have RA:=Lib.hid ra
     have RB:=Lib.hid rb
     clear ra rb ha hb
     go_enter Tryz.func52,Tryz.ntmps52
     go_wp2_with fail
     refine (cRa.out _).mono ?_
     rintro r w1 ⟨rfl,rfl⟩
     rw [RA.out]
     go_wp2_with fail
     refine (cRb.out _).mono ?_
     rintro r w1 ⟨rfl,rfl⟩
     rw [RB.out]
     go_wp2
     go_ret
     exact ⟨by rw [E.out]; rfl,bel1 _ _⟩
   · have E:Hid (ivR a b=leB a b):=by show ivR a b=leB a b; unfold ivR; rw [ra,rb]; rfl
     have o:=Lib.hid (order_le a b ha hb ra rb)
     have RA:=Lib.hid ra
     have RB:=Lib.hid rb
     clear ra rb ha hb
     go_enter Tryz.func52,Tryz.ntmps52
     go_wp2_with fail
     refine (cRa.out _).mono ?_
     rintro r w1 ⟨rfl,rfl⟩
     rw [RA.out]
     go_wp2_with fail
     refine (cRb.out _).mono ?_
     rintro r w1 ⟨rfl,rfl⟩
     rw [RB.out]
     go_wp2
     go_ret
     exact ⟨by rw [E.out,←o.out]; rfl,bel1 _ _⟩
theorem rLess_any (a b:Nat) (w:World) (ha:a < 18446744073709551616) (hb:b < 18446744073709551616) (ra:rightB a=true) (rb:rightB b=true) :
   Calls Tryz.prog 124 #[.float .f64 a,.float .f64 b] w fun e w'=>e = .returned (.float .f64 (minW a b))∧w=w':=by
 have o:=order_lt b a hb ha rb ra
 unfold minW
 by_cases h:val b < val a
 · rw [decide_eq_true h] at o
   rw [if_pos h]
   go_enter Tryz.func124,Tryz.ntmps124
   go_wp2
   go_ret
   exact ⟨rfl,rfl⟩
 · rw [decide_eq_false h] at o
   rw [if_neg h]
   go_enter Tryz.func124,Tryz.ntmps124
   go_wp2
   go_ret
   exact ⟨rfl,rfl⟩
theorem rMore_any (a b:Nat) (w:World) (ha:a < 18446744073709551616) (hb:b < 18446744073709551616) (ra:rightB a=true) (rb:rightB b=true) :
   Calls Tryz.prog 88 #[.float .f64 a,.float .f64 b] w fun e w'=>e = .returned (.float .f64 (maxW a b))∧w=w':=by
 have o:=order_gt b a hb ha rb ra
 unfold maxW
 by_cases h:val a < val b
 · rw [decide_eq_true h] at o
   rw [if_pos h]
   go_enter Tryz.func88,Tryz.ntmps88
   go_wp2
   go_ret
   exact ⟨rfl,rfl⟩
 · rw [decide_eq_false h] at o
   rw [if_neg h]
   go_enter Tryz.func88,Tryz.ntmps88
   go_wp2
   go_ret
   exact ⟨rfl,rfl⟩
theorem rMinus_any (a:Nat) (w:World) (ha:a < 18446744073709551616) (ra:rightB a=true) :
   Calls Tryz.prog 169 #[.float .f64 a] w fun e w'=>e = .returned (.float .f64 (turnW a))∧w=w':=by
 have o:=order_zero a ha ra
 by_cases h:a=0
 · rw [decide_eq_true h] at o
   have e:turnW a=0:=by rw [h]; rfl
   rw [e]
   go_enter Tryz.func169,Tryz.ntmps169
   go_wp2
   go_ret
   exact ⟨rfl,rfl⟩
 · rw [decide_eq_false h] at o
   have g:=neg_word a ha h
   generalize turnW a=t at g ⊢
   go_enter Tryz.func169,Tryz.ntmps169
   go_wp2
   go_ret
   exact ⟨rfl,rfl⟩
end
section
open Go.RowKit
attribute [local go_sem] run_store_float
def offE (e:Int) (ok:Bool):Int:=if e=0 then (if ok then 0 else 20) else e
theorem four_ivs (v:World) (q al ah bl bh:Nat) (h:Has1 v (q,#[.float .f64 al,.float .f64 ah,.float .f64 bl,.float .f64 bh])) :
   v.cell? ⟨q,0,none⟩=some (.float .f64 al)∧v.cell? ⟨q,1,none⟩=some (.float .f64 ah)∧v.cell? ⟨q,2,none⟩=some (.float .f64 bl)∧v.cell? ⟨q,3,none⟩=some (.float .f64 bh):=⟨h.2.1 0,h.2.1 1,h.2.1 2,h.2.1 3⟩
theorem off2_err (e:Int) (pb q:Nat) (w:World) (hc:Has1 w (pb,#[.int .i64 e])) (he:(e == 0)=false) :
   Calls Tryz.prog 85 #[.pointer (some ⟨pb,0,none⟩),.slice (some ⟨q,0,none⟩) 2 2] w fun r w'=>r = .returned (.bool true)∧Put ⟨pb,0,none⟩ (.int .i64 e) w w':=by
 have c:=hc.cell1
 have hz:=hc.1
 have HC:=Lib.hid hc
 have he':(e != 0)=true:=by unfold bne; rw [he]; rfl
 clear hc
 go_enter Tryz.func85,Tryz.ntmps85
 go_wp2_with fail
 go_loopw [5] (fun i wr=>i = .int .i64 0∧wr=w) (fun _ _=>0)
 case atStart=>exact ⟨rfl,rfl⟩
 case round =>
   obtain⟨rfl,rfl⟩:=hrel
   go_wp2
   go_ret
   exact ⟨rfl,(RE.start HC.out).put⟩
def Off2Rel (w:World) (pb q al ah bl bh:Nat) (r1 r2:Bool) (i:Value) (wr:World):Prop:=
 ((i = .int .i64 0∧RE w pb 0 [] wr)∨(i = .int .i64 1∧RE w pb (if r1 then 0 else 20) [] wr)∨(i = .int .i64 2∧r1=true∧RE w pb (if r2 then 0 else 20) [] wr)) ∧
   Has1 wr (q,#[.float .f64 al,.float .f64 ah,.float .f64 bl,.float .f64 bh])
theorem off2_zero (pb q al ah bl bh:Nat) (r1 r2:Bool) (w:World) (hc:Has1 w (pb,#[.int .i64 0])) (hq:Has1 w (q,#[.float .f64 al,.float .f64 ah,.float .f64 bl,.float .f64 bh])) (hn:pb≠q)
   (c1:Hid (∀ w:World,Calls Tryz.prog 52 #[.agg #[.float .f64 al,.float .f64 ah]] w fun r w'=>r = .returned (.bool r1)∧Below w.heap.size w w'))
   (c2:Hid (∀ w:World,Calls Tryz.prog 52 #[.agg #[.float .f64 bl,.float .f64 bh]] w fun r w'=>r = .returned (.bool r2)∧Below w.heap.size w w')) :
   Calls Tryz.prog 85 #[.pointer (some ⟨pb,0,none⟩),.slice (some ⟨q,0,none⟩) 2 2] w fun r w'=>r = .returned (.bool (!(r1&&r2)))∧Put ⟨pb,0,none⟩ (.int .i64 (offE 0 (r1&&r2))) w w':=by
 have M0:=Lib.hid (RE.start hc)
 have Q0:=Lib.hid hq
 clear hc hq
 go_enter Tryz.func85,Tryz.ntmps85
 go_wp2_with fail
 go_loopw [5] (Off2Rel w pb q al ah bl bh r1 r2) (fun i _=>3 - (intOf i).toNat)
 case atStart=>exact ⟨Or.inl ⟨rfl,M0.out⟩,Q0.out⟩
 case round =>
   clear M0 Q0
   obtain⟨hi,hq⟩:=hrel
   have Q:=Lib.hid hq
   have zq:=hq.1
   obtain⟨k0,k1,k2,k3⟩:=four_ivs _ _ _ _ _ _ hq
   clear hq
   rcases hi with ⟨rfl,hM⟩ | ⟨rfl,hM⟩ | ⟨rfl,hr,hM⟩
   · have M:=Lib.hid hM
     have c:=hM.cal.cell1
     have zp:=hM.cal.1
     clear hM
     go_wp2_with fail
     refine (c1.out _).mono ?_
     rintro r w1 ⟨rfl,hb⟩
     replace M:=Lib.hid (M.out.below hb)
     replace Q:=Lib.hid (Q.out.below hb)
     clear hb c zp k0 k1 k2 k3 zq
     have c:=M.out.cal.cell1
     have cf:=M.out.cal.froz1
     cases r1
     · go_wp2_with fail
       go_roundw
       case rel=>exact ⟨Or.inr (Or.inl ⟨rfl,M.out.cset 20⟩),Q.out.set hn⟩
       case measure=>simp [intOf]
     · go_wp2_with fail
       go_roundw
       case rel=>exact ⟨Or.inr (Or.inl ⟨rfl,M.out⟩),Q.out⟩
       case measure=>simp [intOf]
   · cases r1
     · have M:Hid (RE w pb 20 [] wr):=Lib.hid hM
       have c:=M.out.cal.cell1
       clear hM
       go_wp2
       go_ret
       exact ⟨rfl,M.out.put⟩
     · have M:Hid (RE w pb 0 [] wr):=Lib.hid hM
       have c:=M.out.cal.cell1
       have zp:=M.out.cal.1
       clear hM
       go_wp2_with fail
       refine (c2.out _).mono ?_
       rintro r w1 ⟨rfl,hb⟩
       replace M:=Lib.hid (M.out.below hb)
       replace Q:=Lib.hid (Q.out.below hb)
       clear hb c zp k0 k1 k2 k3 zq
       have c:=M.out.cal.cell1
       have cf:=M.out.cal.froz1
       cases r2
       · go_wp2_with fail
         go_roundw
         case rel=>exact ⟨Or.inr (Or.inr ⟨rfl,rfl,M.out.cset 20⟩),Q.out.set hn⟩
         case measure=>simp [intOf]
       · go_wp2_with fail
         go_roundw
         case rel=>exact ⟨Or.inr (Or.inr ⟨rfl,rfl,M.out⟩),Q.out⟩
         case measure=>simp [intOf]
   · subst hr
     cases r2
     · have M:Hid (RE w pb 20 [] wr):=Lib.hid hM
       have c:=M.out.cal.cell1
       clear hM
       go_wp2
       go_ret
       exact ⟨rfl,M.out.put⟩
     · have M:Hid (RE w pb 0 [] wr):=Lib.hid hM
       have c:=M.out.cal.cell1
       clear hM
       go_wp2
       go_ret
       exact ⟨rfl,M.out.put⟩
theorem off1_err (e:Int) (pb q:Nat) (w:World) (hc:Has1 w (pb,#[.int .i64 e])) (he:(e == 0)=false) :
   Calls Tryz.prog 85 #[.pointer (some ⟨pb,0,none⟩),.slice (some ⟨q,0,none⟩) 1 1] w fun r w'=>r = .returned (.bool true)∧Put ⟨pb,0,none⟩ (.int .i64 e) w w':=by
 have c:=hc.cell1
 have hz:=hc.1
 have HC:=Lib.hid hc
 have he':(e != 0)=true:=by unfold bne; rw [he]; rfl
 clear hc
 go_enter Tryz.func85,Tryz.ntmps85
 go_wp2_with fail
 go_loopw [5] (fun i wr=>i = .int .i64 0∧wr=w) (fun _ _=>0)
 case atStart=>exact ⟨rfl,rfl⟩
 case round =>
   obtain⟨rfl,rfl⟩:=hrel
   go_wp2
   go_ret
   exact ⟨rfl,(RE.start HC.out).put⟩
def Off1Rel (w:World) (pb q al ah:Nat) (r1:Bool) (i:Value) (wr:World):Prop:=
 ((i = .int .i64 0∧RE w pb 0 [] wr)∨(i = .int .i64 1∧RE w pb (if r1 then 0 else 20) [] wr))∧Has1 wr (q,#[.float .f64 al,.float .f64 ah])
theorem off1_zero (pb q al ah:Nat) (r1:Bool) (w:World) (hc:Has1 w (pb,#[.int .i64 0])) (hq:Has1 w (q,#[.float .f64 al,.float .f64 ah])) (hn:pb≠q)
   (c1:Hid (∀ w:World,Calls Tryz.prog 52 #[.agg #[.float .f64 al,.float .f64 ah]] w fun r w'=>r = .returned (.bool r1)∧Below w.heap.size w w')) :
   Calls Tryz.prog 85 #[.pointer (some ⟨pb,0,none⟩),.slice (some ⟨q,0,none⟩) 1 1] w fun r w'=>r = .returned (.bool (!r1))∧Put ⟨pb,0,none⟩ (.int .i64 (offE 0 r1)) w w':=by
 have M0:=Lib.hid (RE.start hc)
 have Q0:=Lib.hid hq
 clear hc hq
 go_enter Tryz.func85,Tryz.ntmps85
 go_wp2_with fail
 go_loopw [5] (Off1Rel w pb q al ah r1) (fun i _=>2 - (intOf i).toNat)
 case atStart=>exact ⟨Or.inl ⟨rfl,M0.out⟩,Q0.out⟩
 case round =>
   clear M0 Q0
   obtain⟨hi,hq⟩:=hrel
   have Q:=Lib.hid hq
   have zq:=hq.1
   have k0:wr.cell? ⟨q,0,none⟩=some (.float .f64 al):=hq.2.1 0
   have k1:wr.cell? ⟨q,1,none⟩=some (.float .f64 ah):=hq.2.1 1
   clear hq
   rcases hi with ⟨rfl,hM⟩ | ⟨rfl,hM⟩
   · have M:=Lib.hid hM
     have c:=hM.cal.cell1
     have zp:=hM.cal.1
     clear hM
     go_wp2_with fail
     refine (c1.out _).mono ?_
     rintro r w1 ⟨rfl,hb⟩
     replace M:=Lib.hid (M.out.below hb)
     replace Q:=Lib.hid (Q.out.below hb)
     clear hb c zp k0 k1 zq
     have c:=M.out.cal.cell1
     have cf:=M.out.cal.froz1
     cases r1
     · go_wp2_with fail
       go_roundw
       case rel=>exact ⟨Or.inr ⟨rfl,M.out.cset 20⟩,Q.out.set hn⟩
       case measure=>simp [intOf]
     · go_wp2_with fail
       go_roundw
       case rel=>exact ⟨Or.inr ⟨rfl,M.out⟩,Q.out⟩
       case measure=>simp [intOf]
   · cases r1
     · have M:Hid (RE w pb 20 [] wr):=Lib.hid hM
       have c:=M.out.cal.cell1
       clear hM
       go_wp2
       go_ret
       exact ⟨rfl,M.out.put⟩
     · have M:Hid (RE w pb 0 [] wr):=Lib.hid hM
       have c:=M.out.cal.cell1
       clear hM
       go_wp2
       go_ret
       exact ⟨rfl,M.out.put⟩
theorem keep_any (lo hi pb:Nat) (e f:Int) (w:World) (hc:Has1 w (pb,#[.int .i64 0])) :
   Calls Tryz.prog 87 #[.pointer (some ⟨pb,0,none⟩),.float .f64 lo,.int .i64 e,.float .f64 hi,.int .i64 f] w (Told (tightR lo e hi f) pb 0 w):=by
 have hz:=hc.1
 have E0:=(RE.start hc).made #[.float .f64 0,.float .f64 0] 31
 have c:=E0.cal.cell1
 have cf:=E0.cal.froz1
 have hn:¬ pb=w.heap.size:=by omega
 by_cases he:e=0
 · have q1:(e != 0)=false:=by rw [he]; rfl
   by_cases hf:f=0
   · have q2:(f != 0)=false:=by rw [hf]; rfl
     have eR:tightR lo e hi f=⟨0,lo,hi⟩:=by unfold tightR; rw [if_pos he,if_pos hf]
     rw [eR]
     have H:=Lib.hid (((RE.start hc).made #[.float .f64 lo,.float .f64 hi] 31).put)
     clear E0 hc eR
     go_enter Tryz.func87,Tryz.ntmps87
     go_wp2
     exact bodyPost_ret (v:=.agg #[.float .f64 lo,.float .f64 hi]) (by simp [results,Tryz.results87,go_sem]) rfl ⟨rfl,H.out⟩
   · have q2:(f != 0)=true:=by simpa using hf
     have eR:tightR lo e hi f=⟨f,0,0⟩:=by unfold tightR; rw [if_pos he,if_neg hf]
     rw [eR]
     have E:=((RE.start hc).cset f).made #[.float .f64 0,.float .f64 0] 31
     simp only [size_set] at E
     replace E:=Lib.hid E
     have c':=E.out.cal.cell1
     clear E0 hc eR
     go_enter Tryz.func87,Tryz.ntmps87
     go_wp2
     exact bodyPost_ret (v:=.agg #[.float .f64 0,.float .f64 0]) (by simp [results,Tryz.results87,go_sem]) rfl ⟨rfl,E.out.put⟩
 · have q1:(e != 0)=true:=by simpa using he
   have eR:tightR lo e hi f=⟨e,0,0⟩:=by unfold tightR; rw [if_neg he]
   rw [eR]
   have E:=((RE.start hc).cset e).made #[.float .f64 0,.float .f64 0] 31
   simp only [size_set] at E
   replace E:=Lib.hid E
   have c':=E.out.cal.cell1
   clear E0 hc eR
   go_enter Tryz.func87,Tryz.ntmps87
   go_wp2
   exact bodyPost_ret (v:=.agg #[.float .f64 0,.float .f64 0]) (by simp [results,Tryz.results87,go_sem]) rfl ⟨rfl,E.out.put⟩
end
section
open Go.RowKit
attribute [local go_sem] run_store_float
theorem off2_any (e:Int) (pb q al ah bl bh:Nat) (w:World) (la:al < 18446744073709551616) (ha:ah < 18446744073709551616) (lb:bl < 18446744073709551616) (hb:bh < 18446744073709551616) (hc:Has1 w (pb,#[.int .i64 e])) (hq:Has1 w (q,#[.float .f64 al,.float .f64 ah,.float .f64 bl,.float .f64 bh])) (hn:pb≠q) :
   Calls Tryz.prog 85 #[.pointer (some ⟨pb,0,none⟩),.slice (some ⟨q,0,none⟩) 2 2] w fun r w'=>r = .returned (.bool (offE e (ivR al ah&&ivR bl bh) != 0))∧Put ⟨pb,0,none⟩ (.int .i64 (offE e (ivR al ah&&ivR bl bh))) w w':=by
 cases he:(e == 0)
 · have h1:e≠0:=by simpa using he
   have h2:offE e (ivR al ah&&ivR bl bh)=e:=if_neg h1
   have h3:(e != 0)=true:=by simpa using h1
   rw [h2,h3]
   exact off2_err e pb q w hc he
 · obtain rfl:e=0:=by simpa using he
   have h:=off2_zero pb q al ah bl bh (ivR al ah) (ivR bl bh) w hc hq hn (Lib.hid fun w=>rRight_any al ah w la ha) (Lib.hid fun w=>rRight_any bl bh w lb hb)
   generalize (ivR al ah&&ivR bl bh)=ok at h ⊢
   cases ok <;> exact h
theorem off1_any (e:Int) (pb q al ah:Nat) (w:World) (la:al < 18446744073709551616) (ha:ah < 18446744073709551616) (hc:Has1 w (pb,#[.int .i64 e])) (hq:Has1 w (q,#[.float .f64 al,.float .f64 ah])) (hn:pb≠q) :
   Calls Tryz.prog 85 #[.pointer (some ⟨pb,0,none⟩),.slice (some ⟨q,0,none⟩) 1 1] w fun r w'=>r = .returned (.bool (offE e (ivR al ah) != 0))∧Put ⟨pb,0,none⟩ (.int .i64 (offE e (ivR al ah))) w w':=by
 cases he:(e == 0)
 · have h1:e≠0:=by simpa using he
   have h2:offE e (ivR al ah)=e:=if_neg h1
   have h3:(e != 0)=true:=by simpa using h1
   rw [h2,h3]
   exact off1_err e pb q w hc he
 · obtain rfl:e=0:=by simpa using he
   have h:=off1_zero pb q al ah (ivR al ah) w hc hq hn (Lib.hid fun w=>rRight_any al ah w la ha)
   generalize ivR al ah=ok at h ⊢
   cases ok <;> exact h
theorem stepI_off {e:Int} {ok:Bool} (R:Res) (h:(offE e ok != 0)=true):stepI e ok R=⟨offE e ok,0,0⟩:=by
 unfold stepI offE
 by_cases he:e=0
 · rw [if_pos he,if_pos he]
   cases ok
   · rfl
   · unfold offE at h; rw [if_pos he] at h; cases h
 · rw [if_neg he,if_neg he]
theorem stepI_on {e:Int} {ok:Bool} (R:Res) (h:(offE e ok != 0)=false):stepI e ok R=R∧offE e ok=0∧e=0∧ok=true:=by
 unfold stepI
 unfold offE at h ⊢
 by_cases he:e=0
 · rw [if_pos he] at h
   cases ok
   · cases h
   · exact ⟨by rw [if_pos he,if_pos rfl],by rw [if_pos he,if_pos rfl],he,rfl⟩
 · rw [if_neg he] at h
   exact absurd (by simpa using h) he
theorem rAdd_off (e f:Int) (al ah bl bh pb:Nat) (w:World) (hc:Has1 w (pb,#[.int .i64 e]))
   (cO:Hid (∀ (v:World) (q:Nat),Has1 v (pb,#[.int .i64 e])→Has1 v (q,#[.float .f64 al,.float .f64 ah,.float .f64 bl,.float .f64 bh])→pb≠q→Calls Tryz.prog 85 #[.pointer (some ⟨pb,0,none⟩),.slice (some ⟨q,0,none⟩) 2 2] v fun r w'=>r = .returned (.bool true)∧Put ⟨pb,0,none⟩ (.int .i64 f) v w')) :
   Calls Tryz.prog 120 #[.pointer (some ⟨pb,0,none⟩),.agg #[.float .f64 al,.float .f64 ah],.agg #[.float .f64 bl,.float .f64 bh]] w (Told ⟨f,0,0⟩ pb 0 w):=by
 have E0:=RE.start hc
 replace E0:=E0.made #[.float .f64 al,.float .f64 ah] 31
 replace E0:=E0.made #[.float .f64 bl,.float .f64 bh] 31
 replace E0:=E0.made #[.float .f64 0,.float .f64 0] 31
 replace E0:=E0.made #[.float .f64 al,.float .f64 ah,.float .f64 bl,.float .f64 bh] 31
 simp only [World.size_alloc] at E0
 replace E0:=Lib.hid E0
 go_enter Tryz.func120,Tryz.ntmps120
 go_wp2_with fail
 refine (cO.out _ _ E0.out.cal (E0.out.nth 0 rfl) (E0.out.ne 0 rfl)).mono ?_
 rintro r w1 ⟨rfl,hp⟩
 have E1:=Lib.hid (E0.out.putc hp)
 clear hp E0 cO
 have zr:w.heap.size+1+1 < w1.heap.size:=(E1.out.nth 1 rfl).1
 have xr0:w1.cell? ⟨w.heap.size+1+1,0,none⟩=some (.float .f64 0):=(E1.out.nth 1 rfl).2.1 0
 have xr1:w1.cell? ⟨w.heap.size+1+1,1,none⟩=some (.float .f64 0):=(E1.out.nth 1 rfl).2.1 1
 have yr:∀ i,w1.frozen? ⟨w.heap.size+1+1,i,none⟩=false:=(E1.out.nth 1 rfl).2.2
 go_wp2
 exact bodyPost_ret (v:=.agg #[.float .f64 0,.float .f64 0]) (by simp [results,Tryz.results120,go_sem,xr0,xr1]) rfl ⟨rfl,E1.out.fin (by show w.heap.size≤w.heap.size+1+1; omega) _ _⟩
theorem rAdd_on (al ah bl bh pb lo hi:Nat) (e f:Int) (R:Res) (w:World) (hc:Has1 w (pb,#[.int .i64 0]))
   (cO:Hid (∀ (v:World) (q:Nat),Has1 v (pb,#[.int .i64 0])→Has1 v (q,#[.float .f64 al,.float .f64 ah,.float .f64 bl,.float .f64 bh])→pb≠q→Calls Tryz.prog 85 #[.pointer (some ⟨pb,0,none⟩),.slice (some ⟨q,0,none⟩) 2 2] v fun r w'=>r = .returned (.bool false)∧Put ⟨pb,0,none⟩ (.int .i64 0) v w'))
   (cL:Hid (∀ v:World,Calls Tryz.prog 101 #[.float .f64 al,.float .f64 bl,.bool false] v fun r w'=>r = .returned (.tuple #[.float .f64 lo,.int .i64 e])∧v=w')) (cH:Hid (∀ v:World,Calls Tryz.prog 101 #[.float .f64 ah,.float .f64 bh,.bool true] v fun r w'=>r = .returned (.tuple #[.float .f64 hi,.int .i64 f])∧v=w'))
   (cK:Hid (∀ v:World,Has1 v (pb,#[.int .i64 0])→Calls Tryz.prog 87 #[.pointer (some ⟨pb,0,none⟩),.float .f64 lo,.int .i64 e,.float .f64 hi,.int .i64 f] v (Told R pb 0 v))) :
   Calls Tryz.prog 120 #[.pointer (some ⟨pb,0,none⟩),.agg #[.float .f64 al,.float .f64 ah],.agg #[.float .f64 bl,.float .f64 bh]] w (Told R pb 0 w):=by
 have E0:=RE.start hc
 replace E0:=E0.made #[.float .f64 al,.float .f64 ah] 31
 replace E0:=E0.made #[.float .f64 bl,.float .f64 bh] 31
 replace E0:=E0.made #[.float .f64 0,.float .f64 0] 31
 replace E0:=E0.made #[.float .f64 al,.float .f64 ah,.float .f64 bl,.float .f64 bh] 31
 simp only [World.size_alloc] at E0
 replace E0:=Lib.hid E0
 go_enter Tryz.func120,Tryz.ntmps120
 go_wp2_with fail
 refine (cO.out _ _ E0.out.cal (E0.out.nth 0 rfl) (E0.out.ne 0 rfl)).mono ?_
 rintro r w1 ⟨rfl,hp⟩
 have E1:=Lib.hid (E0.out.putc hp)
 clear hp E0 cO
 have zr:w.heap.size+1+1 < w1.heap.size:=(E1.out.nth 1 rfl).1
 have xr0:w1.cell? ⟨w.heap.size+1+1,0,none⟩=some (.float .f64 0):=(E1.out.nth 1 rfl).2.1 0
 have xr1:w1.cell? ⟨w.heap.size+1+1,1,none⟩=some (.float .f64 0):=(E1.out.nth 1 rfl).2.1 1
 have yr:∀ i,w1.frozen? ⟨w.heap.size+1+1,i,none⟩=false:=(E1.out.nth 1 rfl).2.2
 have zb:w.heap.size+1 < w1.heap.size:=(E1.out.nth 2 rfl).1
 have xb0:w1.cell? ⟨w.heap.size+1,0,none⟩=some (.float .f64 bl):=(E1.out.nth 2 rfl).2.1 0
 have xb1:w1.cell? ⟨w.heap.size+1,1,none⟩=some (.float .f64 bh):=(E1.out.nth 2 rfl).2.1 1
 have yb:∀ i,w1.frozen? ⟨w.heap.size+1,i,none⟩=false:=(E1.out.nth 2 rfl).2.2
 have za:w.heap.size < w1.heap.size:=(E1.out.nth 3 rfl).1
 have xa0:w1.cell? ⟨w.heap.size,0,none⟩=some (.float .f64 al):=(E1.out.nth 3 rfl).2.1 0
 have xa1:w1.cell? ⟨w.heap.size,1,none⟩=some (.float .f64 ah):=(E1.out.nth 3 rfl).2.1 1
 have ya:∀ i,w1.frozen? ⟨w.heap.size,i,none⟩=false:=(E1.out.nth 3 rfl).2.2
 go_wp2_with fail
 refine (cL.out _).mono ?_
 rintro r w2 ⟨rfl,rfl⟩
 go_wp2_with fail
 refine (cH.out _).mono ?_
 rintro r w2 ⟨rfl,rfl⟩
 go_wp2_with fail
 refine (cK.out _ E1.out.cal).mono ?_
 rintro r w2 hT
 obtain⟨rfl,hp⟩:=hT.open
 have E2:=Lib.hid (E1.out.putc hp)
 clear hp hT E1 zr xr0 xr1 yr zb xb0 xb1 yb za xa0 xa1 ya cK cL cH
 have zr:w.heap.size+1+1 < w2.heap.size:=(E2.out.nth 1 rfl).1
 have xr0:w2.cell? ⟨w.heap.size+1+1,0,none⟩=some (.float .f64 0):=(E2.out.nth 1 rfl).2.1 0
 have xr1:w2.cell? ⟨w.heap.size+1+1,1,none⟩=some (.float .f64 0):=(E2.out.nth 1 rfl).2.1 1
 have yr:∀ i,w2.frozen? ⟨w.heap.size+1+1,i,none⟩=false:=(E2.out.nth 1 rfl).2.2
 go_wp2
 exact bodyPost_ret (v:=.agg #[.float .f64 R.lo,.float .f64 R.hi]) (by simp [results,Tryz.results120,go_sem,xr0,xr1]) rfl ⟨rfl,E2.out.fin (by show w.heap.size≤w.heap.size+1+1; omega) _ _⟩
theorem rAdd_any (e:Int) (al ah bl bh pb:Nat) (w:World) (la:al < 18446744073709551616) (ha:ah < 18446744073709551616) (lb:bl < 18446744073709551616) (hb:bh < 18446744073709551616) (hc:Has1 w (pb,#[.int .i64 e])) :
   Calls Tryz.prog 120 #[.pointer (some ⟨pb,0,none⟩),.agg #[.float .f64 al,.float .f64 ah],.agg #[.float .f64 bl,.float .f64 bh]] w (Told (stepI e (ivR al ah&&ivR bl bh) (addI al ah bl bh)) pb 0 w):=by
 have cO:=fun (v:World) (q:Nat) h1 h2 h3=>off2_any e pb q al ah bl bh v la ha lb hb h1 h2 h3
 cases h:(offE e (ivR al ah&&ivR bl bh) != 0)
 · obtain⟨h1,h2,h3,h4⟩:=stepI_on (addI al ah bl bh) h
   rw [h1]
   rw [h,h2] at cO
   subst h3
   exact rAdd_on al ah bl bh pb _ _ _ _ _ w hc (Lib.hid cO) (Lib.hid fun v=>refAdd_all al bl false v la lb) (Lib.hid fun v=>refAdd_all ah bh true v ha hb) (Lib.hid fun v hv=>keep_any _ _ pb _ _ v hv)
 · rw [stepI_off _ h]
   rw [h] at cO
   exact rAdd_off e _ al ah bl bh pb w hc (Lib.hid cO)
theorem rSub_off (e f:Int) (al ah bl bh pb:Nat) (w:World) (hc:Has1 w (pb,#[.int .i64 e]))
   (cO:Hid (∀ (v:World) (q:Nat),Has1 v (pb,#[.int .i64 e])→Has1 v (q,#[.float .f64 al,.float .f64 ah,.float .f64 bl,.float .f64 bh])→pb≠q→Calls Tryz.prog 85 #[.pointer (some ⟨pb,0,none⟩),.slice (some ⟨q,0,none⟩) 2 2] v fun r w'=>r = .returned (.bool true)∧Put ⟨pb,0,none⟩ (.int .i64 f) v w')) :
   Calls Tryz.prog 42 #[.pointer (some ⟨pb,0,none⟩),.agg #[.float .f64 al,.float .f64 ah],.agg #[.float .f64 bl,.float .f64 bh]] w (Told ⟨f,0,0⟩ pb 0 w):=by
 have E0:=RE.start hc
 replace E0:=E0.made #[.float .f64 al,.float .f64 ah] 31
 replace E0:=E0.made #[.float .f64 bl,.float .f64 bh] 31
 replace E0:=E0.made #[.float .f64 0,.float .f64 0] 31
 replace E0:=E0.made #[.float .f64 al,.float .f64 ah,.float .f64 bl,.float .f64 bh] 31
 simp only [World.size_alloc] at E0
 replace E0:=Lib.hid E0
 go_enter Tryz.func42,Tryz.ntmps42
 go_wp2_with fail
 refine (cO.out _ _ E0.out.cal (E0.out.nth 0 rfl) (E0.out.ne 0 rfl)).mono ?_
 rintro r w1 ⟨rfl,hp⟩
 have E1:=Lib.hid (E0.out.putc hp)
 clear hp E0 cO
 have zr:w.heap.size+1+1 < w1.heap.size:=(E1.out.nth 1 rfl).1
 have xr0:w1.cell? ⟨w.heap.size+1+1,0,none⟩=some (.float .f64 0):=(E1.out.nth 1 rfl).2.1 0
 have xr1:w1.cell? ⟨w.heap.size+1+1,1,none⟩=some (.float .f64 0):=(E1.out.nth 1 rfl).2.1 1
 have yr:∀ i,w1.frozen? ⟨w.heap.size+1+1,i,none⟩=false:=(E1.out.nth 1 rfl).2.2
 go_wp2
 exact bodyPost_ret (v:=.agg #[.float .f64 0,.float .f64 0]) (by simp [results,Tryz.results42,go_sem,xr0,xr1]) rfl ⟨rfl,E1.out.fin (by show w.heap.size≤w.heap.size+1+1; omega) _ _⟩
theorem rSub_on (al ah bl bh pb lo hi:Nat) (e f:Int) (R:Res) (w:World) (hc:Has1 w (pb,#[.int .i64 0]))
   (cO:Hid (∀ (v:World) (q:Nat),Has1 v (pb,#[.int .i64 0])→Has1 v (q,#[.float .f64 al,.float .f64 ah,.float .f64 bl,.float .f64 bh])→pb≠q→Calls Tryz.prog 85 #[.pointer (some ⟨pb,0,none⟩),.slice (some ⟨q,0,none⟩) 2 2] v fun r w'=>r = .returned (.bool false)∧Put ⟨pb,0,none⟩ (.int .i64 0) v w'))
   (cL:Hid (∀ v:World,Calls Tryz.prog 89 #[.float .f64 al,.float .f64 bh,.bool false] v fun r w'=>r = .returned (.tuple #[.float .f64 lo,.int .i64 e])∧v=w')) (cH:Hid (∀ v:World,Calls Tryz.prog 89 #[.float .f64 ah,.float .f64 bl,.bool true] v fun r w'=>r = .returned (.tuple #[.float .f64 hi,.int .i64 f])∧v=w'))
   (cK:Hid (∀ v:World,Has1 v (pb,#[.int .i64 0])→Calls Tryz.prog 87 #[.pointer (some ⟨pb,0,none⟩),.float .f64 lo,.int .i64 e,.float .f64 hi,.int .i64 f] v (Told R pb 0 v))) :
   Calls Tryz.prog 42 #[.pointer (some ⟨pb,0,none⟩),.agg #[.float .f64 al,.float .f64 ah],.agg #[.float .f64 bl,.float .f64 bh]] w (Told R pb 0 w):=by
 have E0:=RE.start hc
 replace E0:=E0.made #[.float .f64 al,.float .f64 ah] 31
 replace E0:=E0.made #[.float .f64 bl,.float .f64 bh] 31
 replace E0:=E0.made #[.float .f64 0,.float .f64 0] 31
 replace E0:=E0.made #[.float .f64 al,.float .f64 ah,.float .f64 bl,.float .f64 bh] 31
 simp only [World.size_alloc] at E0
 replace E0:=Lib.hid E0
 go_enter Tryz.func42,Tryz.ntmps42
 go_wp2_with fail
 refine (cO.out _ _ E0.out.cal (E0.out.nth 0 rfl) (E0.out.ne 0 rfl)).mono ?_
 rintro r w1 ⟨rfl,hp⟩
 have E1:=Lib.hid (E0.out.putc hp)
 clear hp E0 cO
 have zr:w.heap.size+1+1 < w1.heap.size:=(E1.out.nth 1 rfl).1
 have xr0:w1.cell? ⟨w.heap.size+1+1,0,none⟩=some (.float .f64 0):=(E1.out.nth 1 rfl).2.1 0
 have xr1:w1.cell? ⟨w.heap.size+1+1,1,none⟩=some (.float .f64 0):=(E1.out.nth 1 rfl).2.1 1
 have yr:∀ i,w1.frozen? ⟨w.heap.size+1+1,i,none⟩=false:=(E1.out.nth 1 rfl).2.2
 have zb:w.heap.size+1 < w1.heap.size:=(E1.out.nth 2 rfl).1
 have xb0:w1.cell? ⟨w.heap.size+1,0,none⟩=some (.float .f64 bl):=(E1.out.nth 2 rfl).2.1 0
 have xb1:w1.cell? ⟨w.heap.size+1,1,none⟩=some (.float .f64 bh):=(E1.out.nth 2 rfl).2.1 1
 have yb:∀ i,w1.frozen? ⟨w.heap.size+1,i,none⟩=false:=(E1.out.nth 2 rfl).2.2
 have za:w.heap.size < w1.heap.size:=(E1.out.nth 3 rfl).1
 have xa0:w1.cell? ⟨w.heap.size,0,none⟩=some (.float .f64 al):=(E1.out.nth 3 rfl).2.1 0
 have xa1:w1.cell? ⟨w.heap.size,1,none⟩=some (.float .f64 ah):=(E1.out.nth 3 rfl).2.1 1
 have ya:∀ i,w1.frozen? ⟨w.heap.size,i,none⟩=false:=(E1.out.nth 3 rfl).2.2
 go_wp2_with fail
 refine (cL.out _).mono ?_
 rintro r w2 ⟨rfl,rfl⟩
 go_wp2_with fail
 refine (cH.out _).mono ?_
 rintro r w2 ⟨rfl,rfl⟩
 go_wp2_with fail
 refine (cK.out _ E1.out.cal).mono ?_
 rintro r w2 hT
 obtain⟨rfl,hp⟩:=hT.open
 have E2:=Lib.hid (E1.out.putc hp)
 clear hp hT E1 zr xr0 xr1 yr zb xb0 xb1 yb za xa0 xa1 ya cK cL cH
 have zr:w.heap.size+1+1 < w2.heap.size:=(E2.out.nth 1 rfl).1
 have xr0:w2.cell? ⟨w.heap.size+1+1,0,none⟩=some (.float .f64 0):=(E2.out.nth 1 rfl).2.1 0
 have xr1:w2.cell? ⟨w.heap.size+1+1,1,none⟩=some (.float .f64 0):=(E2.out.nth 1 rfl).2.1 1
 have yr:∀ i,w2.frozen? ⟨w.heap.size+1+1,i,none⟩=false:=(E2.out.nth 1 rfl).2.2
 go_wp2
 exact bodyPost_ret (v:=.agg #[.float .f64 R.lo,.float .f64 R.hi]) (by simp [results,Tryz.results42,go_sem,xr0,xr1]) rfl ⟨rfl,E2.out.fin (by show w.heap.size≤w.heap.size+1+1; omega) _ _⟩
theorem rSub_any (e:Int) (al ah bl bh pb:Nat) (w:World) (la:al < 18446744073709551616) (ha:ah < 18446744073709551616) (lb:bl < 18446744073709551616) (hb:bh < 18446744073709551616) (hc:Has1 w (pb,#[.int .i64 e])) :
   Calls Tryz.prog 42 #[.pointer (some ⟨pb,0,none⟩),.agg #[.float .f64 al,.float .f64 ah],.agg #[.float .f64 bl,.float .f64 bh]] w (Told (stepI e (ivR al ah&&ivR bl bh) (subI al ah bl bh)) pb 0 w):=by
 have cO:=fun (v:World) (q:Nat) h1 h2 h3=>off2_any e pb q al ah bl bh v la ha lb hb h1 h2 h3
 cases h:(offE e (ivR al ah&&ivR bl bh) != 0)
 · obtain⟨h1,h2,h3,h4⟩:=stepI_on (subI al ah bl bh) h
   rw [h1]
   rw [h,h2] at cO
   subst h3
   exact rSub_on al ah bl bh pb _ _ _ _ _ w hc (Lib.hid cO) (Lib.hid fun v=>refSub_all al bh false v la hb) (Lib.hid fun v=>refSub_all ah bl true v ha lb) (Lib.hid fun v hv=>keep_any _ _ pb _ _ v hv)
 · rw [stepI_off _ h]
   rw [h] at cO
   exact rSub_off e _ al ah bl bh pb w hc (Lib.hid cO)
theorem rSqrt_off (e f:Int) (al ah pb:Nat) (w:World) (hc:Has1 w (pb,#[.int .i64 e]))
   (cO:Hid (∀ (v:World) (q:Nat),Has1 v (pb,#[.int .i64 e])→Has1 v (q,#[.float .f64 al,.float .f64 ah])→pb≠q→Calls Tryz.prog 85 #[.pointer (some ⟨pb,0,none⟩),.slice (some ⟨q,0,none⟩) 1 1] v fun r w'=>r = .returned (.bool true)∧Put ⟨pb,0,none⟩ (.int .i64 f) v w')) :
   Calls Tryz.prog 40 #[.pointer (some ⟨pb,0,none⟩),.agg #[.float .f64 al,.float .f64 ah]] w (Told ⟨f,0,0⟩ pb 0 w):=by
 have E0:=RE.start hc
 replace E0:=E0.made #[.float .f64 al,.float .f64 ah] 31
 replace E0:=E0.made #[.float .f64 0,.float .f64 0] 31
 replace E0:=E0.made #[.float .f64 al,.float .f64 ah] 31
 simp only [World.size_alloc] at E0
 replace E0:=Lib.hid E0
 go_enter Tryz.func40,Tryz.ntmps40
 go_wp2_with fail
 refine (cO.out _ _ E0.out.cal (E0.out.nth 0 rfl) (E0.out.ne 0 rfl)).mono ?_
 rintro r w1 ⟨rfl,hp⟩
 have E1:=Lib.hid (E0.out.putc hp)
 clear hp E0 cO
 have zr:w.heap.size+1 < w1.heap.size:=(E1.out.nth 1 rfl).1
 have xr0:w1.cell? ⟨w.heap.size+1,0,none⟩=some (.float .f64 0):=(E1.out.nth 1 rfl).2.1 0
 have xr1:w1.cell? ⟨w.heap.size+1,1,none⟩=some (.float .f64 0):=(E1.out.nth 1 rfl).2.1 1
 have yr:∀ i,w1.frozen? ⟨w.heap.size+1,i,none⟩=false:=(E1.out.nth 1 rfl).2.2
 go_wp2
 exact bodyPost_ret (v:=.agg #[.float .f64 0,.float .f64 0]) (by simp [results,Tryz.results40,go_sem,xr0,xr1]) rfl ⟨rfl,E1.out.fin (by show w.heap.size≤w.heap.size+1; omega) _ _⟩
theorem rSqrt_on (al ah pb lo hi:Nat) (e f:Int) (R:Res) (w:World) (hc:Has1 w (pb,#[.int .i64 0]))
   (cO:Hid (∀ (v:World) (q:Nat),Has1 v (pb,#[.int .i64 0])→Has1 v (q,#[.float .f64 al,.float .f64 ah])→pb≠q→Calls Tryz.prog 85 #[.pointer (some ⟨pb,0,none⟩),.slice (some ⟨q,0,none⟩) 1 1] v fun r w'=>r = .returned (.bool false)∧Put ⟨pb,0,none⟩ (.int .i64 0) v w'))
   (cL:Hid (∀ v:World,Calls Tryz.prog 86 #[.float .f64 al,.bool false] v fun r w'=>r = .returned (.tuple #[.float .f64 lo,.int .i64 e])∧v=w')) (cH:Hid (∀ v:World,Calls Tryz.prog 86 #[.float .f64 ah,.bool true] v fun r w'=>r = .returned (.tuple #[.float .f64 hi,.int .i64 f])∧v=w'))
   (cK:Hid (∀ v:World,Has1 v (pb,#[.int .i64 0])→Calls Tryz.prog 87 #[.pointer (some ⟨pb,0,none⟩),.float .f64 lo,.int .i64 e,.float .f64 hi,.int .i64 f] v (Told R pb 0 v))) :
   Calls Tryz.prog 40 #[.pointer (some ⟨pb,0,none⟩),.agg #[.float .f64 al,.float .f64 ah]] w (Told R pb 0 w):=by
 have E0:=RE.start hc
 replace E0:=E0.made #[.float .f64 al,.float .f64 ah] 31
 replace E0:=E0.made #[.float .f64 0,.float .f64 0] 31
 replace E0:=E0.made #[.float .f64 al,.float .f64 ah] 31
 simp only [World.size_alloc] at E0
 replace E0:=Lib.hid E0
 go_enter Tryz.func40,Tryz.ntmps40
 go_wp2_with fail
 refine (cO.out _ _ E0.out.cal (E0.out.nth 0 rfl) (E0.out.ne 0 rfl)).mono ?_
 rintro r w1 ⟨rfl,hp⟩
 have E1:=Lib.hid (E0.out.putc hp)
 clear hp E0 cO
 have zr:w.heap.size+1 < w1.heap.size:=(E1.out.nth 1 rfl).1
 have xr0:w1.cell? ⟨w.heap.size+1,0,none⟩=some (.float .f64 0):=(E1.out.nth 1 rfl).2.1 0
 have xr1:w1.cell? ⟨w.heap.size+1,1,none⟩=some (.float .f64 0):=(E1.out.nth 1 rfl).2.1 1
 have yr:∀ i,w1.frozen? ⟨w.heap.size+1,i,none⟩=false:=(E1.out.nth 1 rfl).2.2
 have za:w.heap.size < w1.heap.size:=(E1.out.nth 2 rfl).1
 have xa0:w1.cell? ⟨w.heap.size,0,none⟩=some (.float .f64 al):=(E1.out.nth 2 rfl).2.1 0
 have xa1:w1.cell? ⟨w.heap.size,1,none⟩=some (.float .f64 ah):=(E1.out.nth 2 rfl).2.1 1
 have ya:∀ i,w1.frozen? ⟨w.heap.size,i,none⟩=false:=(E1.out.nth 2 rfl).2.2
 go_wp2_with fail
 refine (cL.out _).mono ?_
 rintro r w2 ⟨rfl,rfl⟩
 go_wp2_with fail
 refine (cH.out _).mono ?_
 rintro r w2 ⟨rfl,rfl⟩
 go_wp2_with fail
 refine (cK.out _ E1.out.cal).mono ?_
 rintro r w2 hT
 obtain⟨rfl,hp⟩:=hT.open
 have E2:=Lib.hid (E1.out.putc hp)
 clear hp hT E1 zr xr0 xr1 yr za xa0 xa1 ya cK cL cH
 have zr:w.heap.size+1 < w2.heap.size:=(E2.out.nth 1 rfl).1
 have xr0:w2.cell? ⟨w.heap.size+1,0,none⟩=some (.float .f64 0):=(E2.out.nth 1 rfl).2.1 0
 have xr1:w2.cell? ⟨w.heap.size+1,1,none⟩=some (.float .f64 0):=(E2.out.nth 1 rfl).2.1 1
 have yr:∀ i,w2.frozen? ⟨w.heap.size+1,i,none⟩=false:=(E2.out.nth 1 rfl).2.2
 go_wp2
 exact bodyPost_ret (v:=.agg #[.float .f64 R.lo,.float .f64 R.hi]) (by simp [results,Tryz.results40,go_sem,xr0,xr1]) rfl ⟨rfl,E2.out.fin (by show w.heap.size≤w.heap.size+1; omega) _ _⟩
theorem sqrt_keep (al ah:Nat) (la:al < 18446744073709551616) (ra:rightB al=true):tightR (sqrtW al false) (sqrtE al false) (sqrtW ah true) (sqrtE ah true)=sqrtI al ah:=by
 unfold sqrtI
 by_cases g:ltB al 0=true
 · rw [if_pos g]
   have hv:val al < 0:=by unfold ltB at g; rw [decide_eq_true_eq,val_nil] at g; exact g
   have hs:sgnB al=true:=(val_neg al la ra).1 hv
   have e:sqrtE al false=12:=by unfold sqrtE; rw [if_pos ra,if_pos hs]
   rw [e]
   rfl
 · rw [if_neg g]
theorem rSqrt_any (e:Int) (al ah pb:Nat) (w:World) (la:al < 18446744073709551616) (ha:ah < 18446744073709551616) (hc:Has1 w (pb,#[.int .i64 e])) :
   Calls Tryz.prog 40 #[.pointer (some ⟨pb,0,none⟩),.agg #[.float .f64 al,.float .f64 ah]] w (Told (stepI e (ivR al ah) (sqrtI al ah)) pb 0 w):=by
 have cO:=fun (v:World) (q:Nat) h1 h2 h3=>off1_any e pb q al ah v la ha h1 h2 h3
 cases h:(offE e (ivR al ah) != 0)
 · obtain⟨h1,h2,h3,h4⟩:=stepI_on (sqrtI al ah) h
   rw [h1]
   rw [h,h2] at cO
   subst h3
   rw [←sqrt_keep al ah la (ivR_parts h4).1]
   exact rSqrt_on al ah pb _ _ _ _ _ w hc (Lib.hid cO) (Lib.hid fun v=>refSqrt_all al false v la) (Lib.hid fun v=>refSqrt_all ah true v ha) (Lib.hid fun v hv=>keep_any _ _ pb _ _ v hv)
 · rw [stepI_off _ h]
   rw [h] at cO
   exact rSqrt_off e _ al ah pb w hc (Lib.hid cO)
end
section
open Go.RowKit
attribute [local go_sem] run_store_float
theorem rNeg_off (e f:Int) (al ah pb:Nat) (w:World) (hc:Has1 w (pb,#[.int .i64 e]))
   (cO:Hid (∀ (v:World) (q:Nat),Has1 v (pb,#[.int .i64 e])→Has1 v (q,#[.float .f64 al,.float .f64 ah])→pb≠q→Calls Tryz.prog 85 #[.pointer (some ⟨pb,0,none⟩),.slice (some ⟨q,0,none⟩) 1 1] v fun r w'=>r = .returned (.bool true)∧Put ⟨pb,0,none⟩ (.int .i64 f) v w')) :
   Calls Tryz.prog 123 #[.pointer (some ⟨pb,0,none⟩),.agg #[.float .f64 al,.float .f64 ah]] w (Told ⟨f,0,0⟩ pb 0 w):=by
 have E0:=RE.start hc
 replace E0:=E0.made #[.float .f64 al,.float .f64 ah] 31
 replace E0:=E0.made #[.float .f64 0,.float .f64 0] 31
 replace E0:=E0.made #[.float .f64 al,.float .f64 ah] 31
 simp only [World.size_alloc] at E0
 replace E0:=Lib.hid E0
 go_enter Tryz.func123,Tryz.ntmps123
 go_wp2_with fail
 refine (cO.out _ _ E0.out.cal (E0.out.nth 0 rfl) (E0.out.ne 0 rfl)).mono ?_
 rintro r w1 ⟨rfl,hp⟩
 have E1:=Lib.hid (E0.out.putc hp)
 clear hp E0 cO
 have zr:w.heap.size+1 < w1.heap.size:=(E1.out.nth 1 rfl).1
 have xr0:w1.cell? ⟨w.heap.size+1,0,none⟩=some (.float .f64 0):=(E1.out.nth 1 rfl).2.1 0
 have xr1:w1.cell? ⟨w.heap.size+1,1,none⟩=some (.float .f64 0):=(E1.out.nth 1 rfl).2.1 1
 have yr:∀ i,w1.frozen? ⟨w.heap.size+1,i,none⟩=false:=(E1.out.nth 1 rfl).2.2
 go_wp2
 exact bodyPost_ret (v:=.agg #[.float .f64 0,.float .f64 0]) (by simp [results,Tryz.results123,go_sem,xr0,xr1]) rfl ⟨rfl,E1.out.fin (by show w.heap.size≤w.heap.size+1; omega) _ _⟩
theorem rNeg_on (al ah pb lo hi:Nat) (w:World) (hc:Has1 w (pb,#[.int .i64 0]))
   (cO:Hid (∀ (v:World) (q:Nat),Has1 v (pb,#[.int .i64 0])→Has1 v (q,#[.float .f64 al,.float .f64 ah])→pb≠q→Calls Tryz.prog 85 #[.pointer (some ⟨pb,0,none⟩),.slice (some ⟨q,0,none⟩) 1 1] v fun r w'=>r = .returned (.bool false)∧Put ⟨pb,0,none⟩ (.int .i64 0) v w'))
   (c1:Hid (∀ v:World,Calls Tryz.prog 169 #[.float .f64 ah] v fun r w'=>r = .returned (.float .f64 lo)∧v=w')) (c2:Hid (∀ v:World,Calls Tryz.prog 169 #[.float .f64 al] v fun r w'=>r = .returned (.float .f64 hi)∧v=w')) :
   Calls Tryz.prog 123 #[.pointer (some ⟨pb,0,none⟩),.agg #[.float .f64 al,.float .f64 ah]] w (Told ⟨0,lo,hi⟩ pb 0 w):=by
 have E0:=RE.start hc
 replace E0:=E0.made #[.float .f64 al,.float .f64 ah] 31
 replace E0:=E0.made #[.float .f64 0,.float .f64 0] 31
 replace E0:=E0.made #[.float .f64 al,.float .f64 ah] 31
 simp only [World.size_alloc] at E0
 replace E0:=Lib.hid E0
 go_enter Tryz.func123,Tryz.ntmps123
 go_wp2_with fail
 refine (cO.out _ _ E0.out.cal (E0.out.nth 0 rfl) (E0.out.ne 0 rfl)).mono ?_
 rintro r w1 ⟨rfl,hp⟩
 have E1:=Lib.hid (E0.out.putc hp)
 clear hp E0 cO
 have zr:w.heap.size+1 < w1.heap.size:=(E1.out.nth 1 rfl).1
 have xr0:w1.cell? ⟨w.heap.size+1,0,none⟩=some (.float .f64 0):=(E1.out.nth 1 rfl).2.1 0
 have xr1:w1.cell? ⟨w.heap.size+1,1,none⟩=some (.float .f64 0):=(E1.out.nth 1 rfl).2.1 1
 have yr:∀ i,w1.frozen? ⟨w.heap.size+1,i,none⟩=false:=(E1.out.nth 1 rfl).2.2
 have za:w.heap.size < w1.heap.size:=(E1.out.nth 2 rfl).1
 have xa0:w1.cell? ⟨w.heap.size,0,none⟩=some (.float .f64 al):=(E1.out.nth 2 rfl).2.1 0
 have xa1:w1.cell? ⟨w.heap.size,1,none⟩=some (.float .f64 ah):=(E1.out.nth 2 rfl).2.1 1
 have ya:∀ i,w1.frozen? ⟨w.heap.size,i,none⟩=false:=(E1.out.nth 2 rfl).2.2
 go_upto_region 3 with fail
 replace E1:=Lib.hid E1.out.drew
 go_region_held3 (fun w'=>w'.cell? ⟨w.heap.size,0,none⟩=some (.float .f64 al)∧w'.cell? ⟨w.heap.size,1,none⟩=some (.float .f64 ah)) (go_keep)
   (first
     | (go_at_call 169; (with_reducible refine (c1.out _).mono ?_); rintro rr w5 ⟨rfl,rfl⟩)
     | (go_at_call 169; (with_reducible refine (c2.out _).mono ?_); rintro rr w5 ⟨rfl,rfl⟩))
 all_goals go_wp2
 all_goals exact bodyPost_ret (v:=.agg #[.float .f64 lo,.float .f64 hi]) (by simp [results,Tryz.results123,go_sem,xr0,xr1]) rfl ⟨rfl,E1.out.fin (by show w.heap.size≤w.heap.size+1; omega) _ _⟩
theorem rNeg_any (e:Int) (al ah pb:Nat) (w:World) (la:al < 18446744073709551616) (ha:ah < 18446744073709551616) (hc:Has1 w (pb,#[.int .i64 e])) :
   Calls Tryz.prog 123 #[.pointer (some ⟨pb,0,none⟩),.agg #[.float .f64 al,.float .f64 ah]] w (Told (stepI e (ivR al ah) (negI al ah)) pb 0 w):=by
 have cO:=fun (v:World) (q:Nat) h1 h2 h3=>off1_any e pb q al ah v la ha h1 h2 h3
 cases h:(offE e (ivR al ah) != 0)
 · obtain⟨h1,h2,h3,h4⟩:=stepI_on (negI al ah) h
   rw [h1]
   rw [h,h2] at cO
   subst h3
   exact rNeg_on al ah pb _ _ w hc (Lib.hid cO) (Lib.hid fun v=>rMinus_any ah v ha (ivR_parts h4).2.1) (Lib.hid fun v=>rMinus_any al v la (ivR_parts h4).1)
 · rw [stepI_off _ h]
   rw [h] at cO
   exact rNeg_off e _ al ah pb w hc (Lib.hid cO)
theorem rMax_off (e f:Int) (al ah bl bh pb:Nat) (w:World) (hc:Has1 w (pb,#[.int .i64 e]))
   (cO:Hid (∀ (v:World) (q:Nat),Has1 v (pb,#[.int .i64 e])→Has1 v (q,#[.float .f64 al,.float .f64 ah,.float .f64 bl,.float .f64 bh])→pb≠q→Calls Tryz.prog 85 #[.pointer (some ⟨pb,0,none⟩),.slice (some ⟨q,0,none⟩) 2 2] v fun r w'=>r = .returned (.bool true)∧Put ⟨pb,0,none⟩ (.int .i64 f) v w')) :
   Calls Tryz.prog 41 #[.pointer (some ⟨pb,0,none⟩),.agg #[.float .f64 al,.float .f64 ah],.agg #[.float .f64 bl,.float .f64 bh]] w (Told ⟨f,0,0⟩ pb 0 w):=by
 have E0:=RE.start hc
 replace E0:=E0.made #[.float .f64 al,.float .f64 ah] 31
 replace E0:=E0.made #[.float .f64 bl,.float .f64 bh] 31
 replace E0:=E0.made #[.float .f64 0,.float .f64 0] 31
 replace E0:=E0.made #[.float .f64 al,.float .f64 ah,.float .f64 bl,.float .f64 bh] 31
 simp only [World.size_alloc] at E0
 replace E0:=Lib.hid E0
 go_enter Tryz.func41,Tryz.ntmps41
 go_wp2_with fail
 refine (cO.out _ _ E0.out.cal (E0.out.nth 0 rfl) (E0.out.ne 0 rfl)).mono ?_
 rintro r w1 ⟨rfl,hp⟩
 have E1:=Lib.hid (E0.out.putc hp)
 clear hp E0 cO
 have zr:w.heap.size+1+1 < w1.heap.size:=(E1.out.nth 1 rfl).1
 have xr0:w1.cell? ⟨w.heap.size+1+1,0,none⟩=some (.float .f64 0):=(E1.out.nth 1 rfl).2.1 0
 have xr1:w1.cell? ⟨w.heap.size+1+1,1,none⟩=some (.float .f64 0):=(E1.out.nth 1 rfl).2.1 1
 have yr:∀ i,w1.frozen? ⟨w.heap.size+1+1,i,none⟩=false:=(E1.out.nth 1 rfl).2.2
 go_wp2
 exact bodyPost_ret (v:=.agg #[.float .f64 0,.float .f64 0]) (by simp [results,Tryz.results41,go_sem,xr0,xr1]) rfl ⟨rfl,E1.out.fin (by show w.heap.size≤w.heap.size+1+1; omega) _ _⟩
theorem rMax_on (al ah bl bh pb lo hi:Nat) (w:World) (hc:Has1 w (pb,#[.int .i64 0]))
   (cO:Hid (∀ (v:World) (q:Nat),Has1 v (pb,#[.int .i64 0])→Has1 v (q,#[.float .f64 al,.float .f64 ah,.float .f64 bl,.float .f64 bh])→pb≠q→Calls Tryz.prog 85 #[.pointer (some ⟨pb,0,none⟩),.slice (some ⟨q,0,none⟩) 2 2] v fun r w'=>r = .returned (.bool false)∧Put ⟨pb,0,none⟩ (.int .i64 0) v w'))
   (c1:Hid (∀ v:World,Calls Tryz.prog 88 #[.float .f64 al,.float .f64 bl] v fun r w'=>r = .returned (.float .f64 lo)∧v=w')) (c2:Hid (∀ v:World,Calls Tryz.prog 88 #[.float .f64 ah,.float .f64 bh] v fun r w'=>r = .returned (.float .f64 hi)∧v=w')) :
   Calls Tryz.prog 41 #[.pointer (some ⟨pb,0,none⟩),.agg #[.float .f64 al,.float .f64 ah],.agg #[.float .f64 bl,.float .f64 bh]] w (Told ⟨0,lo,hi⟩ pb 0 w):=by
 have E0:=RE.start hc
 replace E0:=E0.made #[.float .f64 al,.float .f64 ah] 31
 replace E0:=E0.made #[.float .f64 bl,.float .f64 bh] 31
 replace E0:=E0.made #[.float .f64 0,.float .f64 0] 31
 replace E0:=E0.made #[.float .f64 al,.float .f64 ah,.float .f64 bl,.float .f64 bh] 31
 simp only [World.size_alloc] at E0
 replace E0:=Lib.hid E0
 go_enter Tryz.func41,Tryz.ntmps41
 go_wp2_with fail
 refine (cO.out _ _ E0.out.cal (E0.out.nth 0 rfl) (E0.out.ne 0 rfl)).mono ?_
 rintro r w1 ⟨rfl,hp⟩
 have E1:=Lib.hid (E0.out.putc hp)
 clear hp E0 cO
 have zr:w.heap.size+1+1 < w1.heap.size:=(E1.out.nth 1 rfl).1
 have xr0:w1.cell? ⟨w.heap.size+1+1,0,none⟩=some (.float .f64 0):=(E1.out.nth 1 rfl).2.1 0
 have xr1:w1.cell? ⟨w.heap.size+1+1,1,none⟩=some (.float .f64 0):=(E1.out.nth 1 rfl).2.1 1
 have yr:∀ i,w1.frozen? ⟨w.heap.size+1+1,i,none⟩=false:=(E1.out.nth 1 rfl).2.2
 have zb:w.heap.size+1 < w1.heap.size:=(E1.out.nth 2 rfl).1
 have xb0:w1.cell? ⟨w.heap.size+1,0,none⟩=some (.float .f64 bl):=(E1.out.nth 2 rfl).2.1 0
 have xb1:w1.cell? ⟨w.heap.size+1,1,none⟩=some (.float .f64 bh):=(E1.out.nth 2 rfl).2.1 1
 have yb:∀ i,w1.frozen? ⟨w.heap.size+1,i,none⟩=false:=(E1.out.nth 2 rfl).2.2
 have za:w.heap.size < w1.heap.size:=(E1.out.nth 3 rfl).1
 have xa0:w1.cell? ⟨w.heap.size,0,none⟩=some (.float .f64 al):=(E1.out.nth 3 rfl).2.1 0
 have xa1:w1.cell? ⟨w.heap.size,1,none⟩=some (.float .f64 ah):=(E1.out.nth 3 rfl).2.1 1
 have ya:∀ i,w1.frozen? ⟨w.heap.size,i,none⟩=false:=(E1.out.nth 3 rfl).2.2
 have n1:¬ w.heap.size=w.heap.size+1+1:=by omega
 have n2:¬ w.heap.size+1+1=w.heap.size:=by omega
 go_upto_region 3 with fail
 replace E1:=Lib.hid E1.out.drew
 go_region_held3 (fun w'=>w'.cell? ⟨w.heap.size,0,none⟩=some (.float .f64 al)∧w'.cell? ⟨w.heap.size,1,none⟩=some (.float .f64 ah)∧w'.cell? ⟨w.heap.size+1,0,none⟩=some (.float .f64 bl)∧w'.cell? ⟨w.heap.size+1,1,none⟩=some (.float .f64 bh)) (go_keep)
   (first
     | (go_at_call 88; (with_reducible refine (c1.out _).mono ?_); rintro rr w5 ⟨rfl,rfl⟩)
     | (go_at_call 88; (with_reducible refine (c2.out _).mono ?_); rintro rr w5 ⟨rfl,rfl⟩))
 all_goals go_wp2
 all_goals exact bodyPost_ret (v:=.agg #[.float .f64 lo,.float .f64 hi]) (by simp [results,Tryz.results41,go_sem,xr0,xr1]) rfl ⟨rfl,E1.out.fin (by show w.heap.size≤w.heap.size+1+1; omega) _ _⟩
theorem rMax_any (e:Int) (al ah bl bh pb:Nat) (w:World) (la:al < 18446744073709551616) (ha:ah < 18446744073709551616) (lb:bl < 18446744073709551616) (hb:bh < 18446744073709551616) (hc:Has1 w (pb,#[.int .i64 e])) :
   Calls Tryz.prog 41 #[.pointer (some ⟨pb,0,none⟩),.agg #[.float .f64 al,.float .f64 ah],.agg #[.float .f64 bl,.float .f64 bh]] w (Told (stepI e (ivR al ah&&ivR bl bh) (maxI al ah bl bh)) pb 0 w):=by
 have cO:=fun (v:World) (q:Nat) h1 h2 h3=>off2_any e pb q al ah bl bh v la ha lb hb h1 h2 h3
 cases h:(offE e (ivR al ah&&ivR bl bh) != 0)
 · obtain⟨h1,h2,h3,h4⟩:=stepI_on (maxI al ah bl bh) h
   rw [h1]
   rw [h,h2] at cO
   subst h3
   obtain⟨r1,r2⟩:=(Bool.and_eq_true _ _).mp h4
   obtain⟨ra,ra',_⟩:=ivR_parts r1
   obtain⟨rb,rb',_⟩:=ivR_parts r2
   exact rMax_on al ah bl bh pb _ _ w hc (Lib.hid cO) (Lib.hid fun v=>rMore_any al bl v la lb ra rb) (Lib.hid fun v=>rMore_any ah bh v ha hb ra' rb')
 · rw [stepI_off _ h]
   rw [h] at cO
   exact rMax_off e _ al ah bl bh pb w hc (Lib.hid cO)
end
section
open Go.RowKit
attribute [local go_sem] run_store_float
theorem rOf_any (a:Nat) (w:World) (ha:a < 18446744073709551616) :
   Calls Tryz.prog 90 #[.float .f64 a] w fun r w'=>r = .returned (.tuple #[(ofI a).val,.int .i64 (ofI a).e])∧Below w.heap.size w w':=by
 have cR:=Lib.hid (fun w=>refRight_any a w ha)
 cases h:rightB a
 · have R:=Lib.hid h
   have E:=Lib.hid (show ofI a=⟨13,0,0⟩ by unfold ofI; rw [h]; rfl)
   clear h
   go_enter Tryz.func90,Tryz.ntmps90
   go_wp2_with fail
   refine (cR.out _).mono ?_
   rintro r w1 ⟨rfl,rfl⟩
   rw [R.out]
   go_wp2
   rw [E.out]
   exact bodyPost_ret (v:=.tuple #[.agg #[.float .f64 0,.float .f64 0],.int .i64 13]) (by simp [results,Tryz.results90,go_sem]) rfl ⟨rfl,bel1 _ _⟩
 · have R:=Lib.hid h
   have E:=Lib.hid (show ofI a=⟨0,a,a⟩ by unfold ofI; rw [h]; rfl)
   clear h
   go_enter Tryz.func90,Tryz.ntmps90
   go_wp2_with fail
   refine (cR.out _).mono ?_
   rintro r w1 ⟨rfl,rfl⟩
   rw [R.out]
   go_wp2
   rw [E.out]
   exact bodyPost_ret (v:=.tuple #[.agg #[.float .f64 a,.float .f64 a],.int .i64 0]) (by simp [results,Tryz.results90,go_sem]) rfl ⟨rfl,bel1 _ _⟩
theorem rHas_any (a b x:Nat) (w:World) (ha:a < 18446744073709551616) (hb:b < 18446744073709551616) :
   Calls Tryz.prog 81 #[.agg #[.float .f64 a,.float .f64 b],.float .f64 x] w fun r w'=>r = .returned (.bool (hasB a b x))∧Below w.heap.size w w':=by
 have cR:=Lib.hid (fun w=>rRight_any a b w ha hb)
 clear ha hb
 cases hr:ivR a b
 · have R:=Lib.hid (show hasB a b x=false by unfold hasB; rw [hr]; rfl)
   have HR:=Lib.hid hr
   clear hr
   go_enter Tryz.func81,Tryz.ntmps81
   go_wp2_with fail
   refine (cR.out _).mono ?_
   rintro r w1 ⟨rfl,hb⟩
   rw [HR.out]
   obtain⟨z1,c1,f1,B⟩:=after1 hb
   have HB:=Lib.hid B
   clear hb B
   go_wp2
   go_ret
   exact ⟨by rw [R.out]; rfl,HB.out⟩
 · have HR:=Lib.hid hr
   cases h1:rawLe a x
   · have R:=Lib.hid (show hasB a b x=false by unfold hasB; rw [hr,h1]; rfl)
     unfold rawLe at h1
     clear hr
     go_enter Tryz.func81,Tryz.ntmps81
     go_wp2_with fail
     refine (cR.out _).mono ?_
     rintro r w1 ⟨rfl,hb⟩
     rw [HR.out]
     obtain⟨z1,c1,f1,B⟩:=after1 hb
     have HB:=Lib.hid B
     clear hb B
     go_wp2
     go_ret
     exact ⟨by rw [R.out]; rfl,HB.out⟩
   · have R:=Lib.hid (show hasB a b x=rawLe x b by unfold hasB; rw [hr,h1]; rfl)
     unfold rawLe at h1
     clear hr
     go_enter Tryz.func81,Tryz.ntmps81
     go_wp2_with fail
     refine (cR.out _).mono ?_
     rintro r w1 ⟨rfl,hb⟩
     rw [HR.out]
     obtain⟨z1,c1,f1,B⟩:=after1 hb
     have HB:=Lib.hid B
     clear hb B
     go_wp2
     go_ret
     exact ⟨by rw [R.out]; rfl,HB.out⟩
theorem rHull_any (al ah bl bh:Nat) (w:World) (la:al < 18446744073709551616) (ha:ah < 18446744073709551616) (lb:bl < 18446744073709551616) (hb:bh < 18446744073709551616) (r1:rightB al=true) (r2:rightB ah=true) (r3:rightB bl=true) (r4:rightB bh=true) :
   Calls Tryz.prog 80 #[.agg #[.float .f64 al,.float .f64 ah],.agg #[.float .f64 bl,.float .f64 bh]] w fun r w'=>r = .returned (.agg #[.float .f64 (minW al bl),.float .f64 (maxW ah bh)])∧Below w.heap.size w w':=by
 have c1:=Lib.hid fun v=>rLess_any al bl v la lb r1 r3
 have c2:=Lib.hid fun v=>rMore_any ah bh v ha hb r2 r4
 clear la ha lb hb r1 r2 r3 r4
 generalize minW al bl=lo at *
 generalize maxW ah bh=hi at *
 have M0:=(((Mem.nil w).made #[.float .f64 al,.float .f64 ah] 31).made #[.float .f64 bl,.float .f64 bh] 31).made #[.float .f64 0,.float .f64 0] 31
 simp only [World.size_alloc] at M0
 replace M0:=Lib.hid M0
 go_enter Tryz.func80,Tryz.ntmps80
 go_upto_region 1 with fail
 generalize (((w.alloc (.cells #[.float .f64 al,.float .f64 ah] 31)).alloc (.cells #[.float .f64 bl,.float .f64 bh] 31)).alloc (.cells #[.float .f64 0,.float .f64 0] 31))=v at *
 have zr:w.heap.size+1+1 < v.heap.size:=(M0.out.nth 0 rfl).1
 have xr0:v.cell? ⟨w.heap.size+1+1,0,none⟩=some (.float .f64 0):=(M0.out.nth 0 rfl).2.1 0
 have xr1:v.cell? ⟨w.heap.size+1+1,1,none⟩=some (.float .f64 0):=(M0.out.nth 0 rfl).2.1 1
 have yr:∀ i,v.frozen? ⟨w.heap.size+1+1,i,none⟩=false:=(M0.out.nth 0 rfl).2.2
 have xb0:v.cell? ⟨w.heap.size+1,0,none⟩=some (.float .f64 bl):=(M0.out.nth 1 rfl).2.1 0
 have xb1:v.cell? ⟨w.heap.size+1,1,none⟩=some (.float .f64 bh):=(M0.out.nth 1 rfl).2.1 1
 have xa0:v.cell? ⟨w.heap.size,0,none⟩=some (.float .f64 al):=(M0.out.nth 2 rfl).2.1 0
 have xa1:v.cell? ⟨w.heap.size,1,none⟩=some (.float .f64 ah):=(M0.out.nth 2 rfl).2.1 1
 have n1:¬ w.heap.size=w.heap.size+1+1:=by omega
 have n2:¬ w.heap.size+1+1=w.heap.size:=by omega
 replace M0:=Lib.hid M0.out.drew
 go_region_held3 (fun w'=>w'.cell? ⟨w.heap.size,0,none⟩=some (.float .f64 al)∧w'.cell? ⟨w.heap.size,1,none⟩=some (.float .f64 ah)∧w'.cell? ⟨w.heap.size+1,0,none⟩=some (.float .f64 bl)∧w'.cell? ⟨w.heap.size+1,1,none⟩=some (.float .f64 bh)) (go_keep)
   (first
     | (go_at_call 124; (with_reducible refine (c1.out _).mono ?_); rintro rr w5 ⟨rfl,rfl⟩)
     | (go_at_call 88; (with_reducible refine (c2.out _).mono ?_); rintro rr w5 ⟨rfl,rfl⟩))
 all_goals go_wp2
 all_goals exact bodyPost_ret (v:=.agg #[.float .f64 lo,.float .f64 hi]) (by simp [results,Tryz.results80,go_sem,xr0,xr1]) rfl ⟨rfl,(Below.setCell M0.out.base (by show w.heap.size≤w.heap.size+1+1; omega) _).setCell (by show w.heap.size≤w.heap.size+1+1; omega) _⟩
theorem rPi_any (w:World) :
   Calls Tryz.prog 119 #[] w fun r w'=>r = .returned (.agg #[.float .f64 4614256656552045848,.float .f64 4614256656552045849])∧Below w.heap.size w w':=by
 have c1:Hid (∀ v:World,Calls Tryz.prog 83 #[.float .f64 4843940237547941144,.int .i64 (-51)] v fun r w'=>r = .returned (.float .f64 4614256656552045848)∧v=w'):=Lib.hid fun v=>ldexp_exact 0 1075 2570638124657944 1024 (-51) v (by decide) (by decide) (by decide) (by decide) (by decide) (by decide) (by decide)
 have c2:Hid (∀ v:World,Calls Tryz.prog 83 #[.float .f64 4843940237547941145,.int .i64 (-51)] v fun r w'=>r = .returned (.float .f64 4614256656552045849)∧v=w'):=Lib.hid fun v=>ldexp_exact 0 1075 2570638124657945 1024 (-51) v (by decide) (by decide) (by decide) (by decide) (by decide) (by decide) (by decide)
 go_enter Tryz.func119,Tryz.ntmps119
 go_wp2_with fail
 refine (c1.out _).mono ?_
 rintro r w1 ⟨rfl,rfl⟩
 go_wp2_with fail
 refine (c2.out _).mono ?_
 rintro r w1 ⟨rfl,rfl⟩
 go_wp2
 exact bodyPost_ret (v:=.agg #[.float .f64 4614256656552045848,.float .f64 4614256656552045849]) (by simp [results,Tryz.results119,go_sem]) rfl ⟨rfl,bel1 _ _⟩
theorem meet_cells {v:World} {q:Nat} {x y:Value} (h:Has1 v (q,#[x,y])) (x' y':Value) (c:Array Value) (t:TypeId):(((v.setCell ⟨q,0,none⟩ x').setCell ⟨q,1,none⟩ y').alloc (.cells c t)).cell? ⟨q,0,none⟩=some x'∧(((v.setCell ⟨q,0,none⟩ x').setCell ⟨q,1,none⟩ y').alloc (.cells c t)).cell? ⟨q,1,none⟩=some y':=by
 have k:=(h.set_two x' y').below (bel1 _ (.cells c t))
 exact ⟨k.2.1 0,k.2.1 1⟩
theorem meet_below {w v:World} {q:Nat} (h:Below w.heap.size w v) (hq:w.heap.size≤q) (x y:Value) (c:Array Value) (t:TypeId):Below w.heap.size w (((v.setCell ⟨q,0,none⟩ x).setCell ⟨q,1,none⟩ y).alloc (.cells c t)).drew:=by
 have B0:Below w.heap.size w ((v.setCell ⟨q,0,none⟩ x).setCell ⟨q,1,none⟩ y):=(Below.setCell h hq x).setCell hq y
 exact (B0.alloc B0.size _).drew
theorem rMeet_walk (al ah bl bh lo hi:Nat) (ok:Bool) (w:World)
   (c1:Hid (∀ v:World,Calls Tryz.prog 88 #[.float .f64 al,.float .f64 bl] v fun r w'=>r = .returned (.float .f64 lo)∧v=w')) (c2:Hid (∀ v:World,Calls Tryz.prog 124 #[.float .f64 ah,.float .f64 bh] v fun r w'=>r = .returned (.float .f64 hi)∧v=w'))
   (o:(FloatKind.f64.format.order lo hi == some Ordering.gt)=!ok) :
   Calls Tryz.prog 168 #[.agg #[.float .f64 al,.float .f64 ah],.agg #[.float .f64 bl,.float .f64 bh]] w fun r w'=>r = .returned (.tuple #[.agg #[.float .f64 (if ok then lo else 0),.float .f64 (if ok then hi else 0)],.bool ok])∧Below w.heap.size w w':=by
 have M0:=(((Mem.nil w).made #[.float .f64 al,.float .f64 ah] 31).made #[.float .f64 bl,.float .f64 bh] 31).made #[.float .f64 0,.float .f64 0] 31
 simp only [World.size_alloc] at M0
 replace M0:=Lib.hid M0
 go_enter Tryz.func168,Tryz.ntmps168
 go_upto_region 1 with fail
 generalize (((w.alloc (.cells #[.float .f64 al,.float .f64 ah] 31)).alloc (.cells #[.float .f64 bl,.float .f64 bh] 31)).alloc (.cells #[.float .f64 0,.float .f64 0] 31))=v at *
 have zr:w.heap.size+1+1 < v.heap.size:=(M0.out.nth 0 rfl).1
 have xr0:v.cell? ⟨w.heap.size+1+1,0,none⟩=some (.float .f64 0):=(M0.out.nth 0 rfl).2.1 0
 have xr1:v.cell? ⟨w.heap.size+1+1,1,none⟩=some (.float .f64 0):=(M0.out.nth 0 rfl).2.1 1
 have yr:∀ i,v.frozen? ⟨w.heap.size+1+1,i,none⟩=false:=(M0.out.nth 0 rfl).2.2
 have xb0:v.cell? ⟨w.heap.size+1,0,none⟩=some (.float .f64 bl):=(M0.out.nth 1 rfl).2.1 0
 have xb1:v.cell? ⟨w.heap.size+1,1,none⟩=some (.float .f64 bh):=(M0.out.nth 1 rfl).2.1 1
 have xa0:v.cell? ⟨w.heap.size,0,none⟩=some (.float .f64 al):=(M0.out.nth 2 rfl).2.1 0
 have xa1:v.cell? ⟨w.heap.size,1,none⟩=some (.float .f64 ah):=(M0.out.nth 2 rfl).2.1 1
 have n1:¬ w.heap.size=w.heap.size+1+1:=by omega
 have n2:¬ w.heap.size+1+1=w.heap.size:=by omega
 have K0:=fun x' y' c t=>(meet_cells (M0.out.nth 0 rfl) x' y' c t).1
 have K1:=fun x' y' c t=>(meet_cells (M0.out.nth 0 rfl) x' y' c t).2
 go_region_held3 (fun w'=>w'.cell? ⟨w.heap.size,0,none⟩=some (.float .f64 al)∧w'.cell? ⟨w.heap.size,1,none⟩=some (.float .f64 ah)∧w'.cell? ⟨w.heap.size+1,0,none⟩=some (.float .f64 bl)∧w'.cell? ⟨w.heap.size+1,1,none⟩=some (.float .f64 bh)) (go_keep)
   (first
     | (go_at_call 124; (with_reducible refine (c2.out _).mono ?_); rintro rr w5 ⟨rfl,rfl⟩)
     | (go_at_call 88; (with_reducible refine (c1.out _).mono ?_); rintro rr w5 ⟨rfl,rfl⟩))
 all_goals cases ok
 all_goals go_wp2
 all_goals first
   | exact bodyPost_ret (v:=.tuple #[.agg #[.float .f64 0,.float .f64 0],.bool false]) (by simp [results,Tryz.results168,go_sem,K0,K1]) rfl ⟨rfl,meet_below M0.out.base (by omega) _ _ _ _⟩
   | exact bodyPost_ret (v:=.tuple #[.agg #[.float .f64 lo,.float .f64 hi],.bool true]) (by simp [results,Tryz.results168,go_sem,K0,K1]) rfl ⟨rfl,meet_below M0.out.base (by omega) _ _ _ _⟩
theorem rMeet_any (al ah bl bh:Nat) (w:World) (la:al < 18446744073709551616) (ha:ah < 18446744073709551616) (lb:bl < 18446744073709551616) (hb:bh < 18446744073709551616) (r1:rightB al=true) (r2:rightB ah=true) (r3:rightB bl=true) (r4:rightB bh=true) :
   Calls Tryz.prog 168 #[.agg #[.float .f64 al,.float .f64 ah],.agg #[.float .f64 bl,.float .f64 bh]] w fun r w'=>r = .returned (.tuple #[.agg #[.float .f64 (meetLo al ah bl bh),.float .f64 (meetHi al ah bl bh)],.bool (bothB al ah bl bh)])∧Below w.heap.size w w':=by
 obtain⟨x1,x2,_⟩:=max_facts al bl la lb r1 r3
 obtain⟨y1,y2,_⟩:=min_facts ah bh ha hb r2 r4
 have o:=order_gt _ _ x1 y1 x2 y2
 have e:decide (val (minW ah bh) < val (maxW al bl))=!bothB al ah bl bh:=by
   unfold bothB leB
   by_cases h:val (maxW al bl)≤val (minW ah bh)
   · rw [decide_eq_true h,decide_eq_false (by omega)]; rfl
   · rw [decide_eq_false h,decide_eq_true (by omega)]; rfl
 rw [e] at o
 exact rMeet_walk al ah bl bh _ _ _ w (Lib.hid fun v=>rMore_any al bl v la lb r1 r3) (Lib.hid fun v=>rLess_any ah bh v ha hb r2 r4) o
end
section
open Go.RowKit
attribute [local go_sem] run_store_float
theorem rNum_err (e:Int) (x pb:Nat) (w:World) (hc:Has1 w (pb,#[.int .i64 e])) (he:(e != 0)=true) :
   Calls Tryz.prog 43 #[.pointer (some ⟨pb,0,none⟩),.float .f64 x] w (Told ⟨e,0,0⟩ pb 0 w):=by
 have E0:=Lib.hid ((RE.start hc).made #[.float .f64 0,.float .f64 0] 31)
 have c:=E0.out.cal.cell1
 have hz:=hc.1
 clear hc
 go_enter Tryz.func43,Tryz.ntmps43
 go_wp2
 exact bodyPost_ret (v:=.agg #[.float .f64 0,.float .f64 0]) (by simp [results,Tryz.results43,go_sem]) rfl ⟨rfl,E0.out.put⟩
theorem num_put {B v:World} {pb:Nat} {e e':Int} {l:List (Nat×Array Value)} {q:Nat} (h:RE B pb e l v) (hq:B.heap.size≤q) (x y:Value) (c:Array Value) (t:TypeId):Put ⟨pb,0,none⟩ (.int .i64 e') B ((((v.setCell ⟨pb,0,none⟩ (.int .i64 e')).setCell ⟨q,0,none⟩ x).setCell ⟨q,1,none⟩ y).alloc (.cells c t)):=
 Put.below ((h.cset e').fin hq x y) (bel1 _ _)
theorem rNum_on (x pb lo hi:Nat) (e:Int) (w:World) (hc:Has1 w (pb,#[.int .i64 0]))
   (cO:Hid (∀ v:World,Calls Tryz.prog 90 #[.float .f64 x] v fun r w'=>r = .returned (.tuple #[.agg #[.float .f64 lo,.float .f64 hi],.int .i64 e])∧Below v.heap.size v w')) :
   Calls Tryz.prog 43 #[.pointer (some ⟨pb,0,none⟩),.float .f64 x] w (Told ⟨e,lo,hi⟩ pb 0 w):=by
 have E0:=Lib.hid ((RE.start hc).made #[.float .f64 0,.float .f64 0] 31)
 have c:=E0.out.cal.cell1
 have hz:=hc.1
 clear hc
 go_enter Tryz.func43,Tryz.ntmps43
 go_wp2_with fail
 refine (cO.out _).mono ?_
 rintro r w1 ⟨rfl,hb⟩
 have E1:=Lib.hid (E0.out.below hb)
 clear hb c E0
 have c:=E1.out.cal.cell1
 have cf:=E1.out.cal.froz1
 have zp:=E1.out.cal.1
 have np:¬ pb=w.heap.size:=by omega
 have np':¬ w.heap.size=pb:=by omega
 have zr:w.heap.size < w1.heap.size:=(E1.out.nth 0 rfl).1
 have xr0:w1.cell? ⟨w.heap.size,0,none⟩=some (.float .f64 0):=(E1.out.nth 0 rfl).2.1 0
 have xr1:w1.cell? ⟨w.heap.size,1,none⟩=some (.float .f64 0):=(E1.out.nth 0 rfl).2.1 1
 have yr:∀ i,w1.frozen? ⟨w.heap.size,i,none⟩=false:=(E1.out.nth 0 rfl).2.2
 have K0:=fun x' y' c t=>(meet_cells ((E1.out.cset e).nth 0 rfl) x' y' c t).1
 have K1:=fun x' y' c t=>(meet_cells ((E1.out.cset e).nth 0 rfl) x' y' c t).2
 go_wp2
 exact bodyPost_ret (v:=.agg #[.float .f64 lo,.float .f64 hi]) (by simp [results,Tryz.results43,go_sem,K0,K1]) rfl ⟨rfl,num_put E1.out (Nat.le_refl _) _ _ _ _⟩
theorem rNum_any (e:Int) (x pb:Nat) (w:World) (lx:x < 18446744073709551616) (hc:Has1 w (pb,#[.int .i64 e])) :
   Calls Tryz.prog 43 #[.pointer (some ⟨pb,0,none⟩),.float .f64 x] w (Told (stepI e true (ofI x)) pb 0 w):=by
 by_cases he:e=0
 · subst he
   have h:stepI 0 true (ofI x)=ofI x:=rfl
   rw [h]
   exact rNum_on x pb _ _ _ w hc (Lib.hid fun v=>rOf_any x v lx)
 · have h:stepI e true (ofI x)=⟨e,0,0⟩:=if_neg he
   rw [h]
   exact rNum_err e x pb w hc (by simpa using he)
theorem maxW_turn (a b:Nat) (la:a < 18446744073709551616) (lb:b < 18446744073709551616) (ra:rightB a=true) (rb:rightB b=true):maxW a b=maxW b a:=by
 unfold maxW
 by_cases h:val a < val b
 · rw [if_pos h,if_neg (by omega)]
 · rw [if_neg h]
   by_cases g:val b < val a
   · rw [if_pos g]
   · rw [if_neg g]
     exact val_inj la lb ra rb (by omega)
theorem rAbs_off (e f:Int) (al ah pb:Nat) (w:World) (hc:Has1 w (pb,#[.int .i64 e]))
   (cO:Hid (∀ (v:World) (q:Nat),Has1 v (pb,#[.int .i64 e])→Has1 v (q,#[.float .f64 al,.float .f64 ah])→pb≠q→Calls Tryz.prog 85 #[.pointer (some ⟨pb,0,none⟩),.slice (some ⟨q,0,none⟩) 1 1] v fun r w'=>r = .returned (.bool true)∧Put ⟨pb,0,none⟩ (.int .i64 f) v w')) (hf:(f != 0)=true) :
   Calls Tryz.prog 193 #[.pointer (some ⟨pb,0,none⟩),.agg #[.float .f64 al,.float .f64 ah]] w (Told ⟨f,0,0⟩ pb 0 w):=by
 have E0:=RE.start hc
 replace E0:=E0.made #[.float .f64 al,.float .f64 ah] 31
 replace E0:=E0.made #[.float .f64 0,.float .f64 0] 31
 replace E0:=E0.made #[.float .f64 al,.float .f64 ah] 31
 simp only [World.size_alloc] at E0
 replace E0:=Lib.hid E0
 go_enter Tryz.func193,Tryz.ntmps193
 go_wp2_with fail
 refine (cO.out _ _ E0.out.cal (E0.out.nth 0 rfl) (E0.out.ne 0 rfl)).mono ?_
 rintro r w1 ⟨rfl,hp⟩
 have E1:=Lib.hid (E0.out.putc hp)
 clear hp E0 cO
 have zr:w.heap.size+1 < w1.heap.size:=(E1.out.nth 1 rfl).1
 have xr0:w1.cell? ⟨w.heap.size+1,0,none⟩=some (.float .f64 0):=(E1.out.nth 1 rfl).2.1 0
 have xr1:w1.cell? ⟨w.heap.size+1,1,none⟩=some (.float .f64 0):=(E1.out.nth 1 rfl).2.1 1
 have yr:∀ i,w1.frozen? ⟨w.heap.size+1,i,none⟩=false:=(E1.out.nth 1 rfl).2.2
 have c:=E1.out.cal.cell1
 go_wp2
 exact bodyPost_ret (v:=.agg #[.float .f64 0,.float .f64 0]) (by simp [results,Tryz.results193,go_sem,xr0,xr1]) rfl ⟨rfl,E1.out.fin (by show w.heap.size≤w.heap.size+1; omega) _ _⟩
theorem rAbs_pos (al ah pb:Nat) (w:World) (hc:Has1 w (pb,#[.int .i64 0]))
   (cO:Hid (∀ (v:World) (q:Nat),Has1 v (pb,#[.int .i64 0])→Has1 v (q,#[.float .f64 al,.float .f64 ah])→pb≠q→Calls Tryz.prog 85 #[.pointer (some ⟨pb,0,none⟩),.slice (some ⟨q,0,none⟩) 1 1] v fun r w'=>r = .returned (.bool false)∧Put ⟨pb,0,none⟩ (.int .i64 0) v w'))
   (o1:((FloatKind.f64.format.order al 0 == some Ordering.gt) || (FloatKind.f64.format.order al 0 == some Ordering.eq))=true) :
   Calls Tryz.prog 193 #[.pointer (some ⟨pb,0,none⟩),.agg #[.float .f64 al,.float .f64 ah]] w (Told ⟨0,al,ah⟩ pb 0 w):=by
 have E0:=RE.start hc
 replace E0:=E0.made #[.float .f64 al,.float .f64 ah] 31
 replace E0:=E0.made #[.float .f64 0,.float .f64 0] 31
 replace E0:=E0.made #[.float .f64 al,.float .f64 ah] 31
 simp only [World.size_alloc] at E0
 replace E0:=Lib.hid E0
 go_enter Tryz.func193,Tryz.ntmps193
 go_wp2_with fail
 refine (cO.out _ _ E0.out.cal (E0.out.nth 0 rfl) (E0.out.ne 0 rfl)).mono ?_
 rintro r w1 ⟨rfl,hp⟩
 have E1:=Lib.hid (E0.out.putc hp)
 clear hp E0 cO
 have zr:w.heap.size+1 < w1.heap.size:=(E1.out.nth 1 rfl).1
 have xr0:w1.cell? ⟨w.heap.size+1,0,none⟩=some (.float .f64 0):=(E1.out.nth 1 rfl).2.1 0
 have xr1:w1.cell? ⟨w.heap.size+1,1,none⟩=some (.float .f64 0):=(E1.out.nth 1 rfl).2.1 1
 have yr:∀ i,w1.frozen? ⟨w.heap.size+1,i,none⟩=false:=(E1.out.nth 1 rfl).2.2
 have za:w.heap.size < w1.heap.size:=(E1.out.nth 2 rfl).1
 have xa0:w1.cell? ⟨w.heap.size,0,none⟩=some (.float .f64 al):=(E1.out.nth 2 rfl).2.1 0
 have xa1:w1.cell? ⟨w.heap.size,1,none⟩=some (.float .f64 ah):=(E1.out.nth 2 rfl).2.1 1
 have ya:∀ i,w1.frozen? ⟨w.heap.size,i,none⟩=false:=(E1.out.nth 2 rfl).2.2
 have c:=E1.out.cal.cell1
 go_wp2
 exact bodyPost_ret (v:=.agg #[.float .f64 al,.float .f64 ah]) (by simp [results,Tryz.results193,go_sem,xr0,xr1]) rfl ⟨rfl,E1.out.fin (by show w.heap.size≤w.heap.size+1; omega) _ _⟩
theorem rAbs_neg (al ah pb:Nat) (R:Res) (w:World) (hc:Has1 w (pb,#[.int .i64 0]))
   (cO:Hid (∀ (v:World) (q:Nat),Has1 v (pb,#[.int .i64 0])→Has1 v (q,#[.float .f64 al,.float .f64 ah])→pb≠q→Calls Tryz.prog 85 #[.pointer (some ⟨pb,0,none⟩),.slice (some ⟨q,0,none⟩) 1 1] v fun r w'=>r = .returned (.bool false)∧Put ⟨pb,0,none⟩ (.int .i64 0) v w'))
   (o1:((FloatKind.f64.format.order al 0 == some Ordering.gt) || (FloatKind.f64.format.order al 0 == some Ordering.eq))=false) (o2:((FloatKind.f64.format.order ah 0 == some Ordering.lt) || (FloatKind.f64.format.order ah 0 == some Ordering.eq))=true)
   (cN:Hid (∀ v:World,Has1 v (pb,#[.int .i64 0])→Calls Tryz.prog 123 #[.pointer (some ⟨pb,0,none⟩),.agg #[.float .f64 al,.float .f64 ah]] v (Told R pb 0 v))) :
   Calls Tryz.prog 193 #[.pointer (some ⟨pb,0,none⟩),.agg #[.float .f64 al,.float .f64 ah]] w (Told R pb 0 w):=by
 have E0:=RE.start hc
 replace E0:=E0.made #[.float .f64 al,.float .f64 ah] 31
 replace E0:=E0.made #[.float .f64 0,.float .f64 0] 31
 replace E0:=E0.made #[.float .f64 al,.float .f64 ah] 31
 simp only [World.size_alloc] at E0
 replace E0:=Lib.hid E0
 go_enter Tryz.func193,Tryz.ntmps193
 go_wp2_with fail
 refine (cO.out _ _ E0.out.cal (E0.out.nth 0 rfl) (E0.out.ne 0 rfl)).mono ?_
 rintro r w1 ⟨rfl,hp⟩
 have E1:=Lib.hid (E0.out.putc hp)
 clear hp E0 cO
 have zr:w.heap.size+1 < w1.heap.size:=(E1.out.nth 1 rfl).1
 have xr0:w1.cell? ⟨w.heap.size+1,0,none⟩=some (.float .f64 0):=(E1.out.nth 1 rfl).2.1 0
 have xr1:w1.cell? ⟨w.heap.size+1,1,none⟩=some (.float .f64 0):=(E1.out.nth 1 rfl).2.1 1
 have yr:∀ i,w1.frozen? ⟨w.heap.size+1,i,none⟩=false:=(E1.out.nth 1 rfl).2.2
 have za:w.heap.size < w1.heap.size:=(E1.out.nth 2 rfl).1
 have xa0:w1.cell? ⟨w.heap.size,0,none⟩=some (.float .f64 al):=(E1.out.nth 2 rfl).2.1 0
 have xa1:w1.cell? ⟨w.heap.size,1,none⟩=some (.float .f64 ah):=(E1.out.nth 2 rfl).2.1 1
 have ya:∀ i,w1.frozen? ⟨w.heap.size,i,none⟩=false:=(E1.out.nth 2 rfl).2.2
 have c:=E1.out.cal.cell1
 go_wp2_with fail
 refine (cN.out _ E1.out.cal).mono ?_
 rintro r w2 hT
 obtain⟨rfl,hp⟩:=hT.open
 have E2:=Lib.hid (E1.out.putc hp)
 clear hp hT E1 zr xr0 xr1 yr za xa0 xa1 ya cN c
 have zr:w.heap.size+1 < w2.heap.size:=(E2.out.nth 1 rfl).1
 have xr0:w2.cell? ⟨w.heap.size+1,0,none⟩=some (.float .f64 0):=(E2.out.nth 1 rfl).2.1 0
 have xr1:w2.cell? ⟨w.heap.size+1,1,none⟩=some (.float .f64 0):=(E2.out.nth 1 rfl).2.1 1
 have yr:∀ i,w2.frozen? ⟨w.heap.size+1,i,none⟩=false:=(E2.out.nth 1 rfl).2.2
 go_wp2
 exact bodyPost_ret (v:=.agg #[.float .f64 R.lo,.float .f64 R.hi]) (by simp [results,Tryz.results193,go_sem,xr0,xr1]) rfl ⟨rfl,E2.out.fin (by show w.heap.size≤w.heap.size+1; omega) _ _⟩
theorem rAbs_mid (al ah pb:Nat) (t m:Nat) (w:World) (hc:Has1 w (pb,#[.int .i64 0]))
   (cO:Hid (∀ (v:World) (q:Nat),Has1 v (pb,#[.int .i64 0])→Has1 v (q,#[.float .f64 al,.float .f64 ah])→pb≠q→Calls Tryz.prog 85 #[.pointer (some ⟨pb,0,none⟩),.slice (some ⟨q,0,none⟩) 1 1] v fun r w'=>r = .returned (.bool false)∧Put ⟨pb,0,none⟩ (.int .i64 0) v w'))
   (o1:((FloatKind.f64.format.order al 0 == some Ordering.gt) || (FloatKind.f64.format.order al 0 == some Ordering.eq))=false) (o2:((FloatKind.f64.format.order ah 0 == some Ordering.lt) || (FloatKind.f64.format.order ah 0 == some Ordering.eq))=false)
   (c1:Hid (∀ v:World,Calls Tryz.prog 169 #[.float .f64 al] v fun r w'=>r = .returned (.float .f64 t)∧v=w')) (c2:Hid (∀ v:World,Calls Tryz.prog 88 #[.float .f64 t,.float .f64 ah] v fun r w'=>r = .returned (.float .f64 m)∧v=w')) :
   Calls Tryz.prog 193 #[.pointer (some ⟨pb,0,none⟩),.agg #[.float .f64 al,.float .f64 ah]] w (Told ⟨0,0,m⟩ pb 0 w):=by
 have E0:=RE.start hc
 replace E0:=E0.made #[.float .f64 al,.float .f64 ah] 31
 replace E0:=E0.made #[.float .f64 0,.float .f64 0] 31
 replace E0:=E0.made #[.float .f64 al,.float .f64 ah] 31
 simp only [World.size_alloc] at E0
 replace E0:=Lib.hid E0
 go_enter Tryz.func193,Tryz.ntmps193
 go_wp2_with fail
 refine (cO.out _ _ E0.out.cal (E0.out.nth 0 rfl) (E0.out.ne 0 rfl)).mono ?_
 rintro r w1 ⟨rfl,hp⟩
 have E1:=Lib.hid (E0.out.putc hp)
 clear hp E0 cO
 have zr:w.heap.size+1 < w1.heap.size:=(E1.out.nth 1 rfl).1
 have xr0:w1.cell? ⟨w.heap.size+1,0,none⟩=some (.float .f64 0):=(E1.out.nth 1 rfl).2.1 0
 have xr1:w1.cell? ⟨w.heap.size+1,1,none⟩=some (.float .f64 0):=(E1.out.nth 1 rfl).2.1 1
 have yr:∀ i,w1.frozen? ⟨w.heap.size+1,i,none⟩=false:=(E1.out.nth 1 rfl).2.2
 have za:w.heap.size < w1.heap.size:=(E1.out.nth 2 rfl).1
 have xa0:w1.cell? ⟨w.heap.size,0,none⟩=some (.float .f64 al):=(E1.out.nth 2 rfl).2.1 0
 have xa1:w1.cell? ⟨w.heap.size,1,none⟩=some (.float .f64 ah):=(E1.out.nth 2 rfl).2.1 1
 have ya:∀ i,w1.frozen? ⟨w.heap.size,i,none⟩=false:=(E1.out.nth 2 rfl).2.2
 have c:=E1.out.cal.cell1
 go_upto_region 7 with fail
 replace E1:=Lib.hid E1.out.drew
 go_region_held3 (fun w'=>w'.cell? ⟨w.heap.size,0,none⟩=some (.float .f64 al)∧w'.cell? ⟨w.heap.size,1,none⟩=some (.float .f64 ah)) (go_keep)
   (first
     | (go_at_call 169; (with_reducible refine (c1.out _).mono ?_); rintro rr w5 ⟨rfl,rfl⟩)
     | (go_at_call 88; (with_reducible refine (c2.out _).mono ?_); rintro rr w5 ⟨rfl,rfl⟩))
 all_goals go_wp2
 all_goals exact bodyPost_ret (v:=.agg #[.float .f64 0,.float .f64 m]) (by simp [results,Tryz.results193,go_sem,xr0,xr1]) rfl ⟨rfl,E1.out.fin (by show w.heap.size≤w.heap.size+1; omega) _ _⟩
theorem rAbs_any (e:Int) (al ah pb:Nat) (w:World) (la:al < 18446744073709551616) (ha:ah < 18446744073709551616) (hc:Has1 w (pb,#[.int .i64 e])) :
   Calls Tryz.prog 193 #[.pointer (some ⟨pb,0,none⟩),.agg #[.float .f64 al,.float .f64 ah]] w (Told (stepI e (ivR al ah) (absI al ah)) pb 0 w):=by
 have cO:=fun (v:World) (q:Nat) h1 h2 h3=>off1_any e pb q al ah v la ha h1 h2 h3
 cases h:(offE e (ivR al ah) != 0)
 · obtain⟨h1,h2,h3,h4⟩:=stepI_on (absI al ah) h
   rw [h1]
   rw [h,h2] at cO
   subst h3
   have g1:=ge_zero al la (ivR_parts h4).1
   have g2:=le_zero ah ha (ivR_parts h4).2.1
   cases p1:leB 0 al
   · cases p2:leB ah 0
     · have e1:absI al ah=⟨0,0,maxW (turnW al) ah⟩:=by
         obtain⟨t1,t2,_⟩:=turn_facts al la (ivR_parts h4).1
         unfold absI absLo absHi
         rw [p1,p2,if_neg Bool.false_ne_true,if_neg Bool.false_ne_true,if_neg Bool.false_ne_true,if_neg Bool.false_ne_true,maxW_turn ah _ ha t1 (ivR_parts h4).2.1 t2]
       obtain⟨t1,t2,_⟩:=turn_facts al la (ivR_parts h4).1
       rw [e1]
       exact rAbs_mid al ah pb _ _ w hc (Lib.hid cO) (g1.trans p1) (g2.trans p2) (Lib.hid fun v=>rMinus_any al v la (ivR_parts h4).1) (Lib.hid fun v=>rMore_any _ ah v t1 ha t2 (ivR_parts h4).2.1)
     · have e1:absI al ah=negI al ah:=by
         unfold absI absLo absHi negI
         rw [p1,p2,if_neg Bool.false_ne_true,if_neg Bool.false_ne_true,if_pos rfl,if_pos rfl]
       rw [e1]
       refine rAbs_neg al ah pb _ w hc (Lib.hid cO) (g1.trans p1) (g2.trans p2) (Lib.hid fun v hv=>?_)
       have:=rNeg_any 0 al ah pb v la ha hv
       rw [h4] at this
       exact this
   · have e1:absI al ah=⟨0,al,ah⟩:=by
       unfold absI absLo absHi
       rw [p1,if_pos rfl,if_pos rfl]
     rw [e1]
     exact rAbs_pos al ah pb w hc (Lib.hid cO) (g1.trans p1)
 · rw [stepI_off _ h]
   rw [h] at cO
   exact rAbs_off e _ al ah pb w hc (Lib.hid cO) h
theorem rSqr_off (e f g:Int) (al ah lo hi pb:Nat) (A:Res) (w:World) (hc:Has1 w (pb,#[.int .i64 e])) (hA:(A.e != 0)=true)
   (cA:Hid (∀ v:World,Has1 v (pb,#[.int .i64 e])→Calls Tryz.prog 193 #[.pointer (some ⟨pb,0,none⟩),.agg #[.float .f64 al,.float .f64 ah]] v (Told A pb 0 v)))
   (cL:Hid (∀ v:World,Calls Tryz.prog 100 #[.float .f64 A.lo,.float .f64 A.lo,.bool false] v fun r w'=>r = .returned (.tuple #[.float .f64 lo,.int .i64 f])∧v=w')) (cH:Hid (∀ v:World,Calls Tryz.prog 100 #[.float .f64 A.hi,.float .f64 A.hi,.bool true] v fun r w'=>r = .returned (.tuple #[.float .f64 hi,.int .i64 g])∧v=w')) :
   Calls Tryz.prog 166 #[.pointer (some ⟨pb,0,none⟩),.agg #[.float .f64 al,.float .f64 ah]] w (Told ⟨A.e,0,0⟩ pb 0 w):=by
 have E0:=RE.start hc
 replace E0:=E0.made #[.float .f64 al,.float .f64 ah] 31
 replace E0:=E0.made #[.float .f64 0,.float .f64 0] 31
 simp only [World.size_alloc] at E0
 replace E0:=Lib.hid E0
 have hz:=hc.1
 go_enter Tryz.func166,Tryz.ntmps166
 go_wp2_with fail
 refine (cA.out _ E0.out.cal).mono ?_
 rintro r w1 hT
 obtain⟨rfl,hp⟩:=hT.open
 have E1:=Lib.hid (E0.out.putc hp)
 clear hp hT E0 cA
 have zr:w.heap.size+1 < w1.heap.size:=(E1.out.nth 0 rfl).1
 have xr0:w1.cell? ⟨w.heap.size+1,0,none⟩=some (.float .f64 0):=(E1.out.nth 0 rfl).2.1 0
 have xr1:w1.cell? ⟨w.heap.size+1,1,none⟩=some (.float .f64 0):=(E1.out.nth 0 rfl).2.1 1
 have yr:∀ i,w1.frozen? ⟨w.heap.size+1,i,none⟩=false:=(E1.out.nth 0 rfl).2.2
 have za:w.heap.size < w1.heap.size:=(E1.out.nth 1 rfl).1
 have xa0:w1.cell? ⟨w.heap.size,0,none⟩=some (.float .f64 al):=(E1.out.nth 1 rfl).2.1 0
 have xa1:w1.cell? ⟨w.heap.size,1,none⟩=some (.float .f64 ah):=(E1.out.nth 1 rfl).2.1 1
 have ya:∀ i,w1.frozen? ⟨w.heap.size,i,none⟩=false:=(E1.out.nth 1 rfl).2.2
 have E2:=Lib.hid (E1.out.set_two (k:=[(w.heap.size+1,#[.float .f64 0,.float .f64 0]),(w.heap.size,#[.float .f64 A.lo,.float .f64 A.hi])]) (E1.out.nth 1 rfl) (E1.out.ne 1 rfl) (Nat.le_refl _) (.float .f64 A.lo) (.float .f64 A.hi) (by simp))
 have c:=E2.out.cal.cell1
 have q0:((w1.setCell ⟨w.heap.size,0,none⟩ (.float .f64 A.lo)).setCell ⟨w.heap.size,1,none⟩ (.float .f64 A.hi)).cell? ⟨w.heap.size,0,none⟩=some (.float .f64 A.lo):=(E2.out.nth 1 rfl).2.1 0
 have q1:((w1.setCell ⟨w.heap.size,0,none⟩ (.float .f64 A.lo)).setCell ⟨w.heap.size,1,none⟩ (.float .f64 A.hi)).cell? ⟨w.heap.size,1,none⟩=some (.float .f64 A.hi):=(E2.out.nth 1 rfl).2.1 1
 have q2:((w1.setCell ⟨w.heap.size,0,none⟩ (.float .f64 A.lo)).setCell ⟨w.heap.size,1,none⟩ (.float .f64 A.hi)).cell? ⟨w.heap.size+1,0,none⟩=some (.float .f64 0):=(E2.out.nth 0 rfl).2.1 0
 have q3:((w1.setCell ⟨w.heap.size,0,none⟩ (.float .f64 A.lo)).setCell ⟨w.heap.size,1,none⟩ (.float .f64 A.hi)).cell? ⟨w.heap.size+1,1,none⟩=some (.float .f64 0):=(E2.out.nth 0 rfl).2.1 1
 go_wp2_with fail
 refine (cL.out _).mono ?_
 rintro r w2 ⟨rfl,rfl⟩
 go_wp2_with fail
 refine (cH.out _).mono ?_
 rintro r w2 ⟨rfl,rfl⟩
 go_wp2
 exact bodyPost_ret (v:=.agg #[.float .f64 0,.float .f64 0]) (by simp [results,Tryz.results166,go_sem,q2,q3]) rfl ⟨rfl,E2.out.fin (by show w.heap.size≤w.heap.size+1; omega) _ _⟩
theorem rSqr_on (e f g:Int) (al ah lo hi pb:Nat) (A R:Res) (w:World) (hc:Has1 w (pb,#[.int .i64 e])) (hA:A.e=0)
   (cA:Hid (∀ v:World,Has1 v (pb,#[.int .i64 e])→Calls Tryz.prog 193 #[.pointer (some ⟨pb,0,none⟩),.agg #[.float .f64 al,.float .f64 ah]] v (Told A pb 0 v)))
   (cL:Hid (∀ v:World,Calls Tryz.prog 100 #[.float .f64 A.lo,.float .f64 A.lo,.bool false] v fun r w'=>r = .returned (.tuple #[.float .f64 lo,.int .i64 f])∧v=w')) (cH:Hid (∀ v:World,Calls Tryz.prog 100 #[.float .f64 A.hi,.float .f64 A.hi,.bool true] v fun r w'=>r = .returned (.tuple #[.float .f64 hi,.int .i64 g])∧v=w'))
   (cK:Hid (∀ v:World,Has1 v (pb,#[.int .i64 0])→Calls Tryz.prog 87 #[.pointer (some ⟨pb,0,none⟩),.float .f64 lo,.int .i64 f,.float .f64 hi,.int .i64 g] v (Told R pb 0 v))) :
   Calls Tryz.prog 166 #[.pointer (some ⟨pb,0,none⟩),.agg #[.float .f64 al,.float .f64 ah]] w (Told R pb 0 w):=by
 have E0:=RE.start hc
 replace E0:=E0.made #[.float .f64 al,.float .f64 ah] 31
 replace E0:=E0.made #[.float .f64 0,.float .f64 0] 31
 simp only [World.size_alloc] at E0
 replace E0:=Lib.hid E0
 have hz:=hc.1
 go_enter Tryz.func166,Tryz.ntmps166
 go_wp2_with fail
 refine (cA.out _ E0.out.cal).mono ?_
 rintro r w1 hT
 obtain⟨rfl,hp⟩:=hT.open
 have E1:=Lib.hid (E0.out.putc hp)
 clear hp hT E0 cA
 have zr:w.heap.size+1 < w1.heap.size:=(E1.out.nth 0 rfl).1
 have xr0:w1.cell? ⟨w.heap.size+1,0,none⟩=some (.float .f64 0):=(E1.out.nth 0 rfl).2.1 0
 have xr1:w1.cell? ⟨w.heap.size+1,1,none⟩=some (.float .f64 0):=(E1.out.nth 0 rfl).2.1 1
 have yr:∀ i,w1.frozen? ⟨w.heap.size+1,i,none⟩=false:=(E1.out.nth 0 rfl).2.2
 have za:w.heap.size < w1.heap.size:=(E1.out.nth 1 rfl).1
 have xa0:w1.cell? ⟨w.heap.size,0,none⟩=some (.float .f64 al):=(E1.out.nth 1 rfl).2.1 0
 have xa1:w1.cell? ⟨w.heap.size,1,none⟩=some (.float .f64 ah):=(E1.out.nth 1 rfl).2.1 1
 have ya:∀ i,w1.frozen? ⟨w.heap.size,i,none⟩=false:=(E1.out.nth 1 rfl).2.2
 have E2:=Lib.hid (E1.out.set_two (k:=[(w.heap.size+1,#[.float .f64 0,.float .f64 0]),(w.heap.size,#[.float .f64 A.lo,.float .f64 A.hi])]) (E1.out.nth 1 rfl) (E1.out.ne 1 rfl) (Nat.le_refl _) (.float .f64 A.lo) (.float .f64 A.hi) (by simp))
 have c:=E2.out.cal.cell1
 rw [hA] at E2 c
 have q0:((w1.setCell ⟨w.heap.size,0,none⟩ (.float .f64 A.lo)).setCell ⟨w.heap.size,1,none⟩ (.float .f64 A.hi)).cell? ⟨w.heap.size,0,none⟩=some (.float .f64 A.lo):=(E2.out.nth 1 rfl).2.1 0
 have q1:((w1.setCell ⟨w.heap.size,0,none⟩ (.float .f64 A.lo)).setCell ⟨w.heap.size,1,none⟩ (.float .f64 A.hi)).cell? ⟨w.heap.size,1,none⟩=some (.float .f64 A.hi):=(E2.out.nth 1 rfl).2.1 1
 have q2:((w1.setCell ⟨w.heap.size,0,none⟩ (.float .f64 A.lo)).setCell ⟨w.heap.size,1,none⟩ (.float .f64 A.hi)).cell? ⟨w.heap.size+1,0,none⟩=some (.float .f64 0):=(E2.out.nth 0 rfl).2.1 0
 have q3:((w1.setCell ⟨w.heap.size,0,none⟩ (.float .f64 A.lo)).setCell ⟨w.heap.size,1,none⟩ (.float .f64 A.hi)).cell? ⟨w.heap.size+1,1,none⟩=some (.float .f64 0):=(E2.out.nth 0 rfl).2.1 1
 clear E1
 go_wp2_with fail
 refine (cL.out _).mono ?_
 rintro r w2 ⟨rfl,rfl⟩
 go_wp2_with fail
 refine (cH.out _).mono ?_
 rintro r w2 ⟨rfl,rfl⟩
 go_wp2_with fail
 refine (cK.out _ E2.out.cal).mono ?_
 rintro r w2 hT
 obtain⟨rfl,hp⟩:=hT.open
 have E3:=Lib.hid (E2.out.putc hp)
 clear hp hT E2 zr xr0 xr1 yr za xa0 xa1 ya cK cL cH q0 q1 q2 q3 c
 have zr:w.heap.size+1 < w2.heap.size:=(E3.out.nth 0 rfl).1
 have xr0:w2.cell? ⟨w.heap.size+1,0,none⟩=some (.float .f64 0):=(E3.out.nth 0 rfl).2.1 0
 have xr1:w2.cell? ⟨w.heap.size+1,1,none⟩=some (.float .f64 0):=(E3.out.nth 0 rfl).2.1 1
 have yr:∀ i,w2.frozen? ⟨w.heap.size+1,i,none⟩=false:=(E3.out.nth 0 rfl).2.2
 go_wp2
 exact bodyPost_ret (v:=.agg #[.float .f64 R.lo,.float .f64 R.hi]) (by simp [results,Tryz.results166,go_sem,xr0,xr1]) rfl ⟨rfl,E3.out.fin (by show w.heap.size≤w.heap.size+1; omega) _ _⟩
theorem rSqr_any (e:Int) (al ah pb:Nat) (w:World) (la:al < 18446744073709551616) (ha:ah < 18446744073709551616) (hc:Has1 w (pb,#[.int .i64 e])) :
   Calls Tryz.prog 166 #[.pointer (some ⟨pb,0,none⟩),.agg #[.float .f64 al,.float .f64 ah]] w (Told (stepI e (ivR al ah) (sqrI al ah)) pb 0 w):=by
 have cA:=fun (v:World) (hv:Has1 v (pb,#[.int .i64 e]))=>rAbs_any e al ah pb v la ha hv
 cases h:(offE e (ivR al ah) != 0)
 · obtain⟨h1,h2,h3,h4⟩:=stepI_on (sqrI al ah) h
   rw [h1]
   have h5:=(stepI_on (absI al ah) h).1
   rw [h5] at cA
   obtain⟨ra,ra',rab⟩:=ivR_parts h4
   obtain⟨p1,p2⟩:=abs_lt al ah la ha ra ra'
   exact rSqr_on e _ _ al ah _ _ pb (absI al ah) _ w hc rfl (Lib.hid cA) (Lib.hid fun v=>refMul_all _ _ false v p1 p1) (Lib.hid fun v=>refMul_all _ _ true v p2 p2) (Lib.hid fun v hv=>keep_any _ _ pb _ _ v hv)
 · rw [stepI_off _ h]
   rw [stepI_off _ h] at cA
   exact rSqr_off e _ _ al ah _ _ pb ⟨offE e (ivR al ah),0,0⟩ w hc h (Lib.hid cA) (Lib.hid fun v=>refMul_all 0 0 false v (by decide) (by decide)) (Lib.hid fun v=>refMul_all 0 0 true v (by decide) (by decide))
end
end Go.Proofs.YtnaomilkgfkegaaGreat
