/- What the claim stands on, part 23: PaK. -/
import Derived.Test.YtmkgfflebfpcdaaGreatPA17
import Derived.Deep.RegionHeld3
import Derived.Deep.RegionWith
import Derived.ChangeMaps4
import Derived.Carry
set_option maxHeartbeats 16000000
set_option maxRecDepth 100000
namespace Go.Proofs.YtmkgfflebfpcdaaGreat
section
open Go.RowKit Go.MapKept Go.ChangeMaps
attribute [local go_sem] run_store_float run_store_fun run_store_nilfun
def kL:Value:=.agg #[.func (.func 61) #[] #[],.func (.func 62) #[] #[],.func (.func 63) #[] #[]]
def kO:Value:=.agg #[.func (.func 64) #[] #[],.func (.func 65) #[] #[],.func (.func 63) #[] #[]]
def kP:Value:=.agg #[.func (.func 66) #[] #[],.func (.func 67) #[] #[],.func (.func 68) #[] #[]]
def kM:Value:=.agg #[.func (.func 69) #[] #[],.func (.func 70) #[] #[],.func (.func 68) #[] #[]]
def ent (k:Int) (v:Value) (c:Nat):MapEntry:=⟨.int .u8 k,v,c⟩
def tab (n:Nat):Array MapEntry:=((List.range n).map fun (i:Nat)=>ent ((i:Int)+1) (match i with | 0=>kL | 1=>kO | 2=>kP | _=>kM) i:List MapEntry).toArray
abbrev TabAt (b n:Nat) (w:World):Prop:=w.heap[b]? = some (.map (tab n) n)
theorem u8_at:Tryz.prog.underlying 5=some (.int .u8):=Tryz.underlying5
theorem run_put {w:World} {b n:Nat} {v:Value} (k:Int) (hb:TabAt b n w) (h:Instr.findNow (.int .u8) (.int .u8 k) (tab n).toList 0=some none) (e:tab (n+1)=(tab n).push ⟨.int .u8 k,v,n⟩) :
   ∃ w',(Instr.mapUpdate 93 (.map (some b)) (.int .u8 k) v).run Tryz.prog w = .ok () w'∧TabAt b (n+1) w'∧∀ B:World,B.heap.size≤b→Below B.heap.size B w→Below B.heap.size B w':=by
 refine ⟨setBlock w b (.map (tab (n+1)) (n+1)),?_,?_,?_⟩
 · rw [e]
   simp [Instr.mapUpdate,run_underlying Tryz.underlying93,MapKept.run_getObj_map hb,run_checkKey u8_at (k:=.int .u8 k) rfl,run_findKey u8_at h,MapKept.run_setObj_map _ hb,Result.andThen,setBlock]
 · exact (MapKept.heap_set hb).1
 · intro B hB hw
   refine ⟨hw.os,hw.tape,hw.output,by simpa [setBlock] using hw.size,fun k hk=>?_⟩
   rw [←hw.block k hk]
   exact (MapKept.heap_set hb).2 k (by omega)
theorem TabAt.below {b n:Nat} {w w':World} (h:TabAt b n w) (hb:Below w.heap.size w w'):TabAt b n w':=by
 rw [TabAt,hb.block b (Array.getElem?_eq_some_iff.1 h).1]; exact h
theorem TabAt.alloc {b n:Nat} {w:World} (h:TabAt b n w) (o:Obj):TabAt b n (w.alloc o):=h.below ((Below.refl _ _).alloc (Nat.le_refl _) _)
theorem run_look {w:World} {b:Nat} (hb:TabAt b 4 w) {k:Int} {j:Nat} {v:Value} (h:Instr.findNow (.int .u8) (.int .u8 k) (tab 4).toList 0=some (some (j,v))) :
   (Instr.lookup 93 (.map (some b)) (.int .u8 k) true).run Tryz.prog w = .ok (.tuple #[v,.bool true]) w:=by
 simp [Instr.lookup,run_underlying Tryz.underlying93,MapKept.run_getObj_map hb,run_checkKey u8_at (k:=.int .u8 k) rfl,run_findKey u8_at h,Result.andThen]
theorem run_look_none {w:World} {b:Nat} (hb:TabAt b 4 w) {k:Int} (h:Instr.findNow (.int .u8) (.int .u8 k) (tab 4).toList 0=some none) :
   (Instr.lookup 93 (.map (some b)) (.int .u8 k) true).run Tryz.prog w = .ok (.tuple #[.agg #[.nilFunc,.nilFunc,.nilFunc],.bool false]) w:=by
 have z:(zeroValue 67).run Tryz.prog w = .ok (.agg #[.nilFunc,.nilFunc,.nilFunc]) w:=by kernel_rfl
 simp [Instr.lookup,run_underlying Tryz.underlying93,MapKept.run_getObj_map hb,run_checkKey u8_at (k:=.int .u8 k) rfl,run_findKey u8_at h,Result.andThen,z]
theorem kinds_any (w:World):Calls Tryz.prog 50 #[] w fun r w'=>(∃ b,r = .returned (.map (some b))∧TabAt b 4 w')∧Below w.heap.size w w':=by
 have t0:TabAt w.heap.size 0 (w.alloc (.map #[] 0)):=(MapKept.heap_alloc w _).1
 have b0:Below w.heap.size w (w.alloc (.map #[] 0)):=(Below.refl _ _).alloc (Nat.le_refl _) _
 obtain⟨w1,e1,t1,f1⟩:=run_put (v:=kL) 1 t0 (by rfl) (by rfl)
 obtain⟨w2,e2,t2,f2⟩:=run_put (v:=kO) 2 t1 (by rfl) (by rfl)
 obtain⟨w3,e3,t3,f3⟩:=run_put (v:=kP) 3 t2 (by rfl) (by rfl)
 obtain⟨w4,e4,t4,f4⟩:=run_put (v:=kM) 4 t3 (by rfl) (by rfl)
 have b4:=f4 w (Nat.le_refl _) (f3 w (Nat.le_refl _) (f2 w (Nat.le_refl _) (f1 w (Nat.le_refl _) b0)))
 unfold kL at e1
 unfold kO at e2
 unfold kP at e3
 unfold kM at e4
 clear f1 f2 f3 f4 t0 t1 t2 t3 b0
 have hmm:=@run_makeMap Tryz.prog
 replace t4:=Lib.hid t4
 replace b4:=Lib.hid b4
 go_enter Tryz.func50,Tryz.ntmps50
 go_wp2
 go_ret
 exact ⟨⟨_,rfl,t4.out⟩,b4.out⟩
theorem kindOfL_walk {r0 r1 r2:Nat} (w:World)
   (cR:Hid (∀ w,Calls Tryz.prog 61 #[.agg #[.int .u8 1,r0,r1,r2,(),(),(),(),(),(),(),(),(),(),(),(),(),true,true]] w (Rt (.bool true) w))) :
   Calls Tryz.prog 26 #[.agg #[.int .u8 1,r0,r1,r2,(),(),(),(),(),(),(),(),(),(),(),(),(),true,true]] w (Rt (.tuple #[.agg #[.func (.func 61) #[] #[],.func (.func 62) #[] #[],.func (.func 63) #[] #[]],.bool true]) w):=by
 have M:=Lib.hid (((Own.nil w).made #[.int .u8 1,r0,r1,r2,(),(),(),(),(),(),(),(),(),(),(),(),(),true,true] 28).made #[.nilFunc,.nilFunc,.nilFunc] 67)
 simp only [World.size_alloc] at M
 go_enter Tryz.func26,Tryz.ntmps26
 go_upto_region 1 with fail
 replace M:=Lib.hid M.out.drew
 revert M
 generalize ((w.alloc (.cells #[.int .u8 1,r0,r1,r2,(),(),(),(),(),(),(),(),(),(),(),(),(),true,true] 28)).alloc (.cells #[.nilFunc,.nilFunc,.nilFunc] 67))=W0_
 intro M
 have k1:W0_.drew.cell? ⟨w.heap.size,0,none⟩=some (.int .u8 1):=(M.out.nth 1 rfl).2.1 0
 have k0:W0_.cell? ⟨w.heap.size,0,none⟩=some (.int .u8 1):=k1
 have ka:(W0_.alloc (.cells #[.nilFunc,.nilFunc,.nilFunc] 67)).cell? ⟨w.heap.size,0,none⟩=some (.int .u8 1):=((M.out.made #[.nilFunc,.nilFunc,.nilFunc] 67).nth 2 rfl).2.1 0
 go_cut [4,5] (fun p b wx=>∃ q,p = .pointer (some ⟨q,0,none⟩)∧b = .bool true∧Own w [(q,#[.func (.func 61) #[] #[],.func (.func 62) #[] #[],.func (.func 63) #[] #[]]),(w.heap.size+1,#[.nilFunc,.nilFunc,.nilFunc]),(w.heap.size,#[.int .u8 1,r0,r1,r2,(),(),(),(),(),(),(),(),(),(),(),(),(),true,true])] wx)
 case first =>
   go_region_with (first
     | (go_at_call 50; (with_reducible refine (kinds_any _).mono ?_); rintro rr w5 ⟨⟨b,rfl,hT⟩,hb⟩; replace M:=Lib.hid (M.out.below hb); clear hb k1; have k1:w5.cell? ⟨w.heap.size,0,none⟩=some (.int .u8 1):=(M.out.nth 1 rfl).2.1 0; have k2:(w5.alloc (.cells #[.nilFunc,.nilFunc,.nilFunc] 67)).cell? ⟨w.heap.size,0,none⟩=some (.int .u8 1):=((M.out.made #[.nilFunc,.nilFunc,.nilFunc] 67).nth 2 rfl).2.1 0; have el:=run_look hT (v:=.agg #[.func (.func 61) #[] #[],.func (.func 62) #[] #[],.func (.func 63) #[] #[]]) (j:=0) (k:=1) (by rfl); have el':=run_look (hT.alloc (.cells #[.nilFunc,.nilFunc,.nilFunc] 67)) (v:=.agg #[.func (.func 61) #[] #[],.func (.func 62) #[] #[],.func (.func 63) #[] #[]]) (j:=0) (k:=1) (by rfl))
     | (go_at_call 50; (with_reducible refine (kinds_any _).mono ?_); rintro rr w5 ⟨⟨b,rfl,hT⟩,hb⟩; replace M:=Lib.hid ((M.out.made #[.nilFunc,.nilFunc,.nilFunc] 67).below hb); clear hb k1; have k1:w5.cell? ⟨w.heap.size,0,none⟩=some (.int .u8 1):=(M.out.nth 2 rfl).2.1 0; have kc:∀ i,w5.cell? ⟨W0_.heap.size,i,none⟩=#[Value.nilFunc,Value.nilFunc,Value.nilFunc][i]?:=(M.out.nth 0 rfl).2.1; have kf:∀ i,w5.frozen? ⟨W0_.heap.size,i,none⟩=false:=(M.out.nth 0 rfl).2.2; have el:=run_look hT (v:=.agg #[.func (.func 61) #[] #[],.func (.func 62) #[] #[],.func (.func 63) #[] #[]]) (j:=0) (k:=1) (by rfl)))
   all_goals (go_wp2_with fail; go_meet)
   all_goals first | exact ⟨_,rfl,rfl,M.out.made _ _⟩ | exact ⟨_,rfl,rfl,(((M.out.setIn 0 rfl 0 (.func (.func 61) #[] #[])).setIn 0 rfl 1 (.func (.func 62) #[] #[])).setIn 0 rfl 2 (.func (.func 63) #[] #[])).to (by rfl)⟩
 case rest =>
   obtain⟨q,rfl,rfl,hM⟩:=hcut
   clear k0 k1 ka M
   have M:=Lib.hid hM
   clear hM
   obtain⟨k1,k2,k3⟩:=(M.out.nth 0 rfl).three
   go_upto_region 2 with fail
   repeat ((fail_if_success refine wpl_node (by kernel_rfl) rfl rfl (M.out.nth 2 rfl) ?_); go_step)
   refine wpl_node (by kernel_rfl) rfl rfl (M.out.nth 2 rfl) ?_
   simp only [Act.put,go_sem]
   go_wp2_with fail
   refine (cR.out _).mono ?_
   rintro r w6 ⟨rfl,hb⟩
   replace M:=Lib.hid (M.out.below hb)
   clear hb k1 k2 k3
   obtain⟨k1,k2,k3⟩:=(M.out.nth 0 rfl).three
   have kc:=(M.out.nth 1 rfl).2.1
   have kf:=(M.out.nth 1 rfl).2.2
   replace M:=Lib.hid (((M.out.setIn 1 rfl 0 (.func (.func 61) #[] #[])).setIn 1 rfl 1 (.func (.func 62) #[] #[])).setIn 1 rfl 2 (.func (.func 63) #[] #[]))
   go_wp2
   obtain⟨f1,f2,f3⟩:_∧_∧_:=Has1.three (x:=(.func (.func 61) #[] #[])) (y:=(.func (.func 62) #[] #[])) (z:=(.func (.func 63) #[] #[])) (M.out.nth 1 rfl)
   exact bodyPost_ret (v:=.tuple #[.agg #[.func (.func 61) #[] #[],.func (.func 62) #[] #[],.func (.func 63) #[] #[]],.bool true]) (by simp [results,Tryz.results26,go_sem,f1,f2,f3]) rfl ⟨rfl,M.out.base⟩
theorem kindOfO_walk {r0 r1 r2 sg:Nat} (w:World)
   (cR:Hid (∀ w,Calls Tryz.prog 64 #[.agg #[.int .u8 2,r0,r1,r2,(),(),(),(),(),(),(),(),(),sg,(),(),(),true,true]] w (Rt (.bool true) w))) :
   Calls Tryz.prog 26 #[.agg #[.int .u8 2,r0,r1,r2,(),(),(),(),(),(),(),(),(),sg,(),(),(),true,true]] w (Rt (.tuple #[.agg #[.func (.func 64) #[] #[],.func (.func 65) #[] #[],.func (.func 63) #[] #[]],.bool true]) w):=by
 have M:=Lib.hid (((Own.nil w).made #[.int .u8 2,r0,r1,r2,(),(),(),(),(),(),(),(),(),sg,(),(),(),true,true] 28).made #[.nilFunc,.nilFunc,.nilFunc] 67)
 simp only [World.size_alloc] at M
 go_enter Tryz.func26,Tryz.ntmps26
 go_upto_region 1 with fail
 replace M:=Lib.hid M.out.drew
 revert M
 generalize ((w.alloc (.cells #[.int .u8 2,r0,r1,r2,(),(),(),(),(),(),(),(),(),sg,(),(),(),true,true] 28)).alloc (.cells #[.nilFunc,.nilFunc,.nilFunc] 67))=W0_
 intro M
 have k1:W0_.drew.cell? ⟨w.heap.size,0,none⟩=some (.int .u8 2):=(M.out.nth 1 rfl).2.1 0
 have k0:W0_.cell? ⟨w.heap.size,0,none⟩=some (.int .u8 2):=k1
 have ka:(W0_.alloc (.cells #[.nilFunc,.nilFunc,.nilFunc] 67)).cell? ⟨w.heap.size,0,none⟩=some (.int .u8 2):=((M.out.made #[.nilFunc,.nilFunc,.nilFunc] 67).nth 2 rfl).2.1 0
 go_cut [4,5] (fun p b wx=>∃ q,p = .pointer (some ⟨q,0,none⟩)∧b = .bool true∧Own w [(q,#[.func (.func 64) #[] #[],.func (.func 65) #[] #[],.func (.func 63) #[] #[]]),(w.heap.size+1,#[.nilFunc,.nilFunc,.nilFunc]),(w.heap.size,#[.int .u8 2,r0,r1,r2,(),(),(),(),(),(),(),(),(),sg,(),(),(),true,true])] wx)
 case first =>
   go_region_with (first
     | (go_at_call 50; (with_reducible refine (kinds_any _).mono ?_); rintro rr w5 ⟨⟨b,rfl,hT⟩,hb⟩; replace M:=Lib.hid (M.out.below hb); clear hb k1; have k1:w5.cell? ⟨w.heap.size,0,none⟩=some (.int .u8 2):=(M.out.nth 1 rfl).2.1 0; have k2:(w5.alloc (.cells #[.nilFunc,.nilFunc,.nilFunc] 67)).cell? ⟨w.heap.size,0,none⟩=some (.int .u8 2):=((M.out.made #[.nilFunc,.nilFunc,.nilFunc] 67).nth 2 rfl).2.1 0; have el:=run_look hT (v:=.agg #[.func (.func 64) #[] #[],.func (.func 65) #[] #[],.func (.func 63) #[] #[]]) (j:=1) (k:=2) (by rfl); have el':=run_look (hT.alloc (.cells #[.nilFunc,.nilFunc,.nilFunc] 67)) (v:=.agg #[.func (.func 64) #[] #[],.func (.func 65) #[] #[],.func (.func 63) #[] #[]]) (j:=1) (k:=2) (by rfl))
     | (go_at_call 50; (with_reducible refine (kinds_any _).mono ?_); rintro rr w5 ⟨⟨b,rfl,hT⟩,hb⟩; replace M:=Lib.hid ((M.out.made #[.nilFunc,.nilFunc,.nilFunc] 67).below hb); clear hb k1; have k1:w5.cell? ⟨w.heap.size,0,none⟩=some (.int .u8 2):=(M.out.nth 2 rfl).2.1 0; have kc:∀ i,w5.cell? ⟨W0_.heap.size,i,none⟩=#[Value.nilFunc,Value.nilFunc,Value.nilFunc][i]?:=(M.out.nth 0 rfl).2.1; have kf:∀ i,w5.frozen? ⟨W0_.heap.size,i,none⟩=false:=(M.out.nth 0 rfl).2.2; have el:=run_look hT (v:=.agg #[.func (.func 64) #[] #[],.func (.func 65) #[] #[],.func (.func 63) #[] #[]]) (j:=1) (k:=2) (by rfl)))
   all_goals (go_wp2_with fail; go_meet)
   all_goals first | exact ⟨_,rfl,rfl,M.out.made _ _⟩ | exact ⟨_,rfl,rfl,(((M.out.setIn 0 rfl 0 (.func (.func 64) #[] #[])).setIn 0 rfl 1 (.func (.func 65) #[] #[])).setIn 0 rfl 2 (.func (.func 63) #[] #[])).to (by rfl)⟩
 case rest =>
   obtain⟨q,rfl,rfl,hM⟩:=hcut
   clear k0 k1 ka M
   have M:=Lib.hid hM
   clear hM
   obtain⟨k1,k2,k3⟩:=(M.out.nth 0 rfl).three
   go_upto_region 2 with fail
   repeat ((fail_if_success refine wpl_node (by kernel_rfl) rfl rfl (M.out.nth 2 rfl) ?_); go_step)
   refine wpl_node (by kernel_rfl) rfl rfl (M.out.nth 2 rfl) ?_
   simp only [Act.put,go_sem]
   go_wp2_with fail
   refine (cR.out _).mono ?_
   rintro r w6 ⟨rfl,hb⟩
   replace M:=Lib.hid (M.out.below hb)
   clear hb k1 k2 k3
   obtain⟨k1,k2,k3⟩:=(M.out.nth 0 rfl).three
   have kc:=(M.out.nth 1 rfl).2.1
   have kf:=(M.out.nth 1 rfl).2.2
   replace M:=Lib.hid (((M.out.setIn 1 rfl 0 (.func (.func 64) #[] #[])).setIn 1 rfl 1 (.func (.func 65) #[] #[])).setIn 1 rfl 2 (.func (.func 63) #[] #[]))
   go_wp2
   obtain⟨f1,f2,f3⟩:_∧_∧_:=Has1.three (x:=(.func (.func 64) #[] #[])) (y:=(.func (.func 65) #[] #[])) (z:=(.func (.func 63) #[] #[])) (M.out.nth 1 rfl)
   exact bodyPost_ret (v:=.tuple #[.agg #[.func (.func 64) #[] #[],.func (.func 65) #[] #[],.func (.func 63) #[] #[]],.bool true]) (by simp [results,Tryz.results26,go_sem,f1,f2,f3]) rfl ⟨rfl,M.out.base⟩
theorem kindOfP_walk {al io:Nat} (w:World)
   (cR:Hid (∀ w,Calls Tryz.prog 66 #[.agg #[.int .u8 3,(),(),(),(),(),(),(),(),(),(),(),(),(),al,io,(),true,true]] w (Rt (.bool true) w))) :
   Calls Tryz.prog 26 #[.agg #[.int .u8 3,(),(),(),(),(),(),(),(),(),(),(),(),(),al,io,(),true,true]] w (Rt (.tuple #[.agg #[.func (.func 66) #[] #[],.func (.func 67) #[] #[],.func (.func 68) #[] #[]],.bool true]) w):=by
 have M:=Lib.hid (((Own.nil w).made #[.int .u8 3,(),(),(),(),(),(),(),(),(),(),(),(),(),al,io,(),true,true] 28).made #[.nilFunc,.nilFunc,.nilFunc] 67)
 simp only [World.size_alloc] at M
 go_enter Tryz.func26,Tryz.ntmps26
 go_upto_region 1 with fail
 replace M:=Lib.hid M.out.drew
 revert M
 generalize ((w.alloc (.cells #[.int .u8 3,(),(),(),(),(),(),(),(),(),(),(),(),(),al,io,(),true,true] 28)).alloc (.cells #[.nilFunc,.nilFunc,.nilFunc] 67))=W0_
 intro M
 have k1:W0_.drew.cell? ⟨w.heap.size,0,none⟩=some (.int .u8 3):=(M.out.nth 1 rfl).2.1 0
 have k0:W0_.cell? ⟨w.heap.size,0,none⟩=some (.int .u8 3):=k1
 have ka:(W0_.alloc (.cells #[.nilFunc,.nilFunc,.nilFunc] 67)).cell? ⟨w.heap.size,0,none⟩=some (.int .u8 3):=((M.out.made #[.nilFunc,.nilFunc,.nilFunc] 67).nth 2 rfl).2.1 0
 go_cut [4,5] (fun p b wx=>∃ q,p = .pointer (some ⟨q,0,none⟩)∧b = .bool true∧Own w [(q,#[.func (.func 66) #[] #[],.func (.func 67) #[] #[],.func (.func 68) #[] #[]]),(w.heap.size+1,#[.nilFunc,.nilFunc,.nilFunc]),(w.heap.size,#[.int .u8 3,(),(),(),(),(),(),(),(),(),(),(),(),(),al,io,(),true,true])] wx)
 case first =>
   go_region_with (first
     | (go_at_call 50; (with_reducible refine (kinds_any _).mono ?_); rintro rr w5 ⟨⟨b,rfl,hT⟩,hb⟩; replace M:=Lib.hid (M.out.below hb); clear hb k1; have k1:w5.cell? ⟨w.heap.size,0,none⟩=some (.int .u8 3):=(M.out.nth 1 rfl).2.1 0; have k2:(w5.alloc (.cells #[.nilFunc,.nilFunc,.nilFunc] 67)).cell? ⟨w.heap.size,0,none⟩=some (.int .u8 3):=((M.out.made #[.nilFunc,.nilFunc,.nilFunc] 67).nth 2 rfl).2.1 0; have el:=run_look hT (v:=.agg #[.func (.func 66) #[] #[],.func (.func 67) #[] #[],.func (.func 68) #[] #[]]) (j:=2) (k:=3) (by rfl); have el':=run_look (hT.alloc (.cells #[.nilFunc,.nilFunc,.nilFunc] 67)) (v:=.agg #[.func (.func 66) #[] #[],.func (.func 67) #[] #[],.func (.func 68) #[] #[]]) (j:=2) (k:=3) (by rfl))
     | (go_at_call 50; (with_reducible refine (kinds_any _).mono ?_); rintro rr w5 ⟨⟨b,rfl,hT⟩,hb⟩; replace M:=Lib.hid ((M.out.made #[.nilFunc,.nilFunc,.nilFunc] 67).below hb); clear hb k1; have k1:w5.cell? ⟨w.heap.size,0,none⟩=some (.int .u8 3):=(M.out.nth 2 rfl).2.1 0; have kc:∀ i,w5.cell? ⟨W0_.heap.size,i,none⟩=#[Value.nilFunc,Value.nilFunc,Value.nilFunc][i]?:=(M.out.nth 0 rfl).2.1; have kf:∀ i,w5.frozen? ⟨W0_.heap.size,i,none⟩=false:=(M.out.nth 0 rfl).2.2; have el:=run_look hT (v:=.agg #[.func (.func 66) #[] #[],.func (.func 67) #[] #[],.func (.func 68) #[] #[]]) (j:=2) (k:=3) (by rfl)))
   all_goals (go_wp2_with fail; go_meet)
   all_goals first | exact ⟨_,rfl,rfl,M.out.made _ _⟩ | exact ⟨_,rfl,rfl,(((M.out.setIn 0 rfl 0 (.func (.func 66) #[] #[])).setIn 0 rfl 1 (.func (.func 67) #[] #[])).setIn 0 rfl 2 (.func (.func 68) #[] #[])).to (by rfl)⟩
 case rest =>
   obtain⟨q,rfl,rfl,hM⟩:=hcut
   clear k0 k1 ka M
   have M:=Lib.hid hM
   clear hM
   obtain⟨k1,k2,k3⟩:=(M.out.nth 0 rfl).three
   go_upto_region 2 with fail
   repeat ((fail_if_success refine wpl_node (by kernel_rfl) rfl rfl (M.out.nth 2 rfl) ?_); go_step)
   refine wpl_node (by kernel_rfl) rfl rfl (M.out.nth 2 rfl) ?_
   simp only [Act.put,go_sem]
   go_wp2_with fail
   refine (cR.out _).mono ?_
   rintro r w6 ⟨rfl,hb⟩
   replace M:=Lib.hid (M.out.below hb)
   clear hb k1 k2 k3
   obtain⟨k1,k2,k3⟩:=(M.out.nth 0 rfl).three
   have kc:=(M.out.nth 1 rfl).2.1
   have kf:=(M.out.nth 1 rfl).2.2
   replace M:=Lib.hid (((M.out.setIn 1 rfl 0 (.func (.func 66) #[] #[])).setIn 1 rfl 1 (.func (.func 67) #[] #[])).setIn 1 rfl 2 (.func (.func 68) #[] #[]))
   go_wp2
   obtain⟨f1,f2,f3⟩:_∧_∧_:=Has1.three (x:=(.func (.func 66) #[] #[])) (y:=(.func (.func 67) #[] #[])) (z:=(.func (.func 68) #[] #[])) (M.out.nth 1 rfl)
   exact bodyPost_ret (v:=.tuple #[.agg #[.func (.func 66) #[] #[],.func (.func 67) #[] #[],.func (.func 68) #[] #[]],.bool true]) (by simp [results,Tryz.results26,go_sem,f1,f2,f3]) rfl ⟨rfl,M.out.base⟩
theorem kindOfM_walk {al p0 p1 p2 q0 q1 q2:Nat} (w:World)
   (cR:Hid (∀ w,Calls Tryz.prog 69 #[.agg #[.int .u8 4,(),(),(),(),(),(),p0,p1,p2,q0,q1,q2,(),al,(),(),true,true]] w (Rt (.bool true) w))) :
   Calls Tryz.prog 26 #[.agg #[.int .u8 4,(),(),(),(),(),(),p0,p1,p2,q0,q1,q2,(),al,(),(),true,true]] w (Rt (.tuple #[.agg #[.func (.func 69) #[] #[],.func (.func 70) #[] #[],.func (.func 68) #[] #[]],.bool true]) w):=by
 have M:=Lib.hid (((Own.nil w).made #[.int .u8 4,(),(),(),(),(),(),p0,p1,p2,q0,q1,q2,(),al,(),(),true,true] 28).made #[.nilFunc,.nilFunc,.nilFunc] 67)
 simp only [World.size_alloc] at M
 go_enter Tryz.func26,Tryz.ntmps26
 go_upto_region 1 with fail
 replace M:=Lib.hid M.out.drew
 revert M
 generalize ((w.alloc (.cells #[.int .u8 4,(),(),(),(),(),(),p0,p1,p2,q0,q1,q2,(),al,(),(),true,true] 28)).alloc (.cells #[.nilFunc,.nilFunc,.nilFunc] 67))=W0_
 intro M
 have k1:W0_.drew.cell? ⟨w.heap.size,0,none⟩=some (.int .u8 4):=(M.out.nth 1 rfl).2.1 0
 have k0:W0_.cell? ⟨w.heap.size,0,none⟩=some (.int .u8 4):=k1
 have ka:(W0_.alloc (.cells #[.nilFunc,.nilFunc,.nilFunc] 67)).cell? ⟨w.heap.size,0,none⟩=some (.int .u8 4):=((M.out.made #[.nilFunc,.nilFunc,.nilFunc] 67).nth 2 rfl).2.1 0
 go_cut [4,5] (fun p b wx=>∃ q,p = .pointer (some ⟨q,0,none⟩)∧b = .bool true∧Own w [(q,#[.func (.func 69) #[] #[],.func (.func 70) #[] #[],.func (.func 68) #[] #[]]),(w.heap.size+1,#[.nilFunc,.nilFunc,.nilFunc]),(w.heap.size,#[.int .u8 4,(),(),(),(),(),(),p0,p1,p2,q0,q1,q2,(),al,(),(),true,true])] wx)
 case first =>
   go_region_with (first
     | (go_at_call 50; (with_reducible refine (kinds_any _).mono ?_); rintro rr w5 ⟨⟨b,rfl,hT⟩,hb⟩; replace M:=Lib.hid (M.out.below hb); clear hb k1; have k1:w5.cell? ⟨w.heap.size,0,none⟩=some (.int .u8 4):=(M.out.nth 1 rfl).2.1 0; have k2:(w5.alloc (.cells #[.nilFunc,.nilFunc,.nilFunc] 67)).cell? ⟨w.heap.size,0,none⟩=some (.int .u8 4):=((M.out.made #[.nilFunc,.nilFunc,.nilFunc] 67).nth 2 rfl).2.1 0; have el:=run_look hT (v:=.agg #[.func (.func 69) #[] #[],.func (.func 70) #[] #[],.func (.func 68) #[] #[]]) (j:=3) (k:=4) (by rfl); have el':=run_look (hT.alloc (.cells #[.nilFunc,.nilFunc,.nilFunc] 67)) (v:=.agg #[.func (.func 69) #[] #[],.func (.func 70) #[] #[],.func (.func 68) #[] #[]]) (j:=3) (k:=4) (by rfl))
     | (go_at_call 50; (with_reducible refine (kinds_any _).mono ?_); rintro rr w5 ⟨⟨b,rfl,hT⟩,hb⟩; replace M:=Lib.hid ((M.out.made #[.nilFunc,.nilFunc,.nilFunc] 67).below hb); clear hb k1; have k1:w5.cell? ⟨w.heap.size,0,none⟩=some (.int .u8 4):=(M.out.nth 2 rfl).2.1 0; have kc:∀ i,w5.cell? ⟨W0_.heap.size,i,none⟩=#[Value.nilFunc,Value.nilFunc,Value.nilFunc][i]?:=(M.out.nth 0 rfl).2.1; have kf:∀ i,w5.frozen? ⟨W0_.heap.size,i,none⟩=false:=(M.out.nth 0 rfl).2.2; have el:=run_look hT (v:=.agg #[.func (.func 69) #[] #[],.func (.func 70) #[] #[],.func (.func 68) #[] #[]]) (j:=3) (k:=4) (by rfl)))
   all_goals (go_wp2_with fail; go_meet)
   all_goals first | exact ⟨_,rfl,rfl,M.out.made _ _⟩ | exact ⟨_,rfl,rfl,(((M.out.setIn 0 rfl 0 (.func (.func 69) #[] #[])).setIn 0 rfl 1 (.func (.func 70) #[] #[])).setIn 0 rfl 2 (.func (.func 68) #[] #[])).to (by rfl)⟩
 case rest =>
   obtain⟨q,rfl,rfl,hM⟩:=hcut
   clear k0 k1 ka M
   have M:=Lib.hid hM
   clear hM
   obtain⟨k1,k2,k3⟩:=(M.out.nth 0 rfl).three
   go_upto_region 2 with fail
   repeat ((fail_if_success refine wpl_node (by kernel_rfl) rfl rfl (M.out.nth 2 rfl) ?_); go_step)
   refine wpl_node (by kernel_rfl) rfl rfl (M.out.nth 2 rfl) ?_
   simp only [Act.put,go_sem]
   go_wp2_with fail
   refine (cR.out _).mono ?_
   rintro r w6 ⟨rfl,hb⟩
   replace M:=Lib.hid (M.out.below hb)
   clear hb k1 k2 k3
   obtain⟨k1,k2,k3⟩:=(M.out.nth 0 rfl).three
   have kc:=(M.out.nth 1 rfl).2.1
   have kf:=(M.out.nth 1 rfl).2.2
   replace M:=Lib.hid (((M.out.setIn 1 rfl 0 (.func (.func 69) #[] #[])).setIn 1 rfl 1 (.func (.func 70) #[] #[])).setIn 1 rfl 2 (.func (.func 68) #[] #[]))
   go_wp2
   obtain⟨f1,f2,f3⟩:_∧_∧_:=Has1.three (x:=(.func (.func 69) #[] #[])) (y:=(.func (.func 70) #[] #[])) (z:=(.func (.func 68) #[] #[])) (M.out.nth 1 rfl)
   exact bodyPost_ret (v:=.tuple #[.agg #[.func (.func 69) #[] #[],.func (.func 70) #[] #[],.func (.func 68) #[] #[]],.bool true]) (by simp [results,Tryz.results26,go_sem,f1,f2,f3]) rfl ⟨rfl,M.out.base⟩
theorem kindOfN_walk (w:World) :
   Calls Tryz.prog 26 #[.agg #[.int .u8 0,(),(),(),(),(),(),(),(),(),(),(),(),(),(),(),(),true,true]] w (Rt (.tuple #[.agg #[.nilFunc,.nilFunc,.nilFunc],.bool false]) w):=by
 have M:=Lib.hid (((Own.nil w).made #[.int .u8 0,(),(),(),(),(),(),(),(),(),(),(),(),(),(),(),(),true,true] 28).made #[.nilFunc,.nilFunc,.nilFunc] 67)
 simp only [World.size_alloc] at M
 go_enter Tryz.func26,Tryz.ntmps26
 go_upto_region 1 with fail
 replace M:=Lib.hid M.out.drew
 revert M
 generalize ((w.alloc (.cells #[.int .u8 0,(),(),(),(),(),(),(),(),(),(),(),(),(),(),(),(),true,true] 28)).alloc (.cells #[.nilFunc,.nilFunc,.nilFunc] 67))=W0_
 intro M
 have k1:W0_.drew.cell? ⟨w.heap.size,0,none⟩=some (.int .u8 0):=(M.out.nth 1 rfl).2.1 0
 have k0:W0_.cell? ⟨w.heap.size,0,none⟩=some (.int .u8 0):=k1
 have ka:(W0_.alloc (.cells #[.nilFunc,.nilFunc,.nilFunc] 67)).cell? ⟨w.heap.size,0,none⟩=some (.int .u8 0):=((M.out.made #[.nilFunc,.nilFunc,.nilFunc] 67).nth 2 rfl).2.1 0
 go_cut [4,5] (fun p b wx=>∃ q,p = .pointer (some ⟨q,0,none⟩)∧b = .bool false∧Own w [(q,#[.nilFunc,.nilFunc,.nilFunc]),(w.heap.size+1,#[.nilFunc,.nilFunc,.nilFunc]),(w.heap.size,#[.int .u8 0,(),(),(),(),(),(),(),(),(),(),(),(),(),(),(),(),true,true])] wx)
 case first =>
   go_region_with (first
     | (go_at_call 50; (with_reducible refine (kinds_any _).mono ?_); rintro rr w5 ⟨⟨b,rfl,hT⟩,hb⟩; replace M:=Lib.hid (M.out.below hb); clear hb k1; have k1:w5.cell? ⟨w.heap.size,0,none⟩=some (.int .u8 0):=(M.out.nth 1 rfl).2.1 0; have k2:(w5.alloc (.cells #[.nilFunc,.nilFunc,.nilFunc] 67)).cell? ⟨w.heap.size,0,none⟩=some (.int .u8 0):=((M.out.made #[.nilFunc,.nilFunc,.nilFunc] 67).nth 2 rfl).2.1 0; have el:=run_look_none hT (k:=0) (by rfl); have el':=run_look_none (hT.alloc (.cells #[.nilFunc,.nilFunc,.nilFunc] 67)) (k:=0) (by rfl))
     | (go_at_call 50; (with_reducible refine (kinds_any _).mono ?_); rintro rr w5 ⟨⟨b,rfl,hT⟩,hb⟩; replace M:=Lib.hid ((M.out.made #[.nilFunc,.nilFunc,.nilFunc] 67).below hb); clear hb k1; have k1:w5.cell? ⟨w.heap.size,0,none⟩=some (.int .u8 0):=(M.out.nth 2 rfl).2.1 0; have kc:∀ i,w5.cell? ⟨W0_.heap.size,i,none⟩=#[Value.nilFunc,Value.nilFunc,Value.nilFunc][i]?:=(M.out.nth 0 rfl).2.1; have kf:∀ i,w5.frozen? ⟨W0_.heap.size,i,none⟩=false:=(M.out.nth 0 rfl).2.2; have el:=run_look_none hT (k:=0) (by rfl)))
   all_goals (go_wp2_with fail; go_meet)
   all_goals first | exact ⟨_,rfl,rfl,M.out.made _ _⟩ | exact ⟨_,rfl,rfl,(((M.out.setIn 0 rfl 0 (.nilFunc)).setIn 0 rfl 1 (.nilFunc)).setIn 0 rfl 2 (.nilFunc)).to (by rfl)⟩
 case rest =>
   obtain⟨q,rfl,rfl,hM⟩:=hcut
   clear k0 k1 ka M
   have M:=Lib.hid hM
   clear hM
   obtain⟨k1,k2,k3⟩:=(M.out.nth 0 rfl).three
   have kc:=(M.out.nth 1 rfl).2.1
   have kf:=(M.out.nth 1 rfl).2.2
   replace M:=Lib.hid (((M.out.setIn 1 rfl 0 (.nilFunc)).setIn 1 rfl 1 (.nilFunc)).setIn 1 rfl 2 (.nilFunc))
   go_wp2
   obtain⟨f1,f2,f3⟩:_∧_∧_:=Has1.three (x:=(.nilFunc)) (y:=(.nilFunc)) (z:=(.nilFunc)) (M.out.nth 1 rfl)
   exact bodyPost_ret (v:=.tuple #[.agg #[.nilFunc,.nilFunc,.nilFunc],.bool false]) (by simp [results,Tryz.results26,go_sem,f1,f2,f3]) rfl ⟨rfl,M.out.base⟩
end
end Go.Proofs.YtmkgfflebfpcdaaGreat
