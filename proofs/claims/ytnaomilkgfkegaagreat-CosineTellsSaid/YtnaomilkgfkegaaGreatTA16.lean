/- What the claim stands on, part 17: QRcZ. -/
import Derived.Test.YtnaomilkgfkegaaGreatTA14
import Derived.Test.YtnaomilkgfkegaaGreatTA15
set_option maxHeartbeats 16000000
set_option maxRecDepth 100000
namespace Go.Proofs.YtnaomilkgfkegaaGreat
section
open Go.RowKit
attribute [local go_sem] run_store_float
theorem alloc_put {B v:World} {pb:Nat} {e:Int} {l:List (Nat×Array Value)} {q:Nat} (h:RE B pb e l v) (hq:B.heap.size≤q) (x y:Value) (c:Array Value) (t:TypeId):Put ⟨pb,0,none⟩ (.int .i64 e) B (((v.setCell ⟨q,0,none⟩ x).setCell ⟨q,1,none⟩ y).alloc (.cells c t)):=
 Put.below (h.fin hq x y) (bel1 _ _)
def fourL (w:World) (al ah bl bh lo hi:Nat):List (Nat×Array Value):=[(w.heap.size+1+1+1+1+1,#[.float .f64 lo,.float .f64 hi]),(w.heap.size+1+1+1+1,#[.float .f64 bl,.float .f64 bh,.float .f64 bl,.float .f64 bh]),(w.heap.size+1+1+1,#[.float .f64 al,.float .f64 al,.float .f64 ah,.float .f64 ah]),(w.heap.size+1+1,#[.float .f64 0,.float .f64 0])]
theorem fourL_set (w:World) (al ah bl bh lo hi lo' hi':Nat):∀ p,p∈fourL w al ah bl bh lo' hi'→p=(w.heap.size+1+1+1+1+1,#[.float .f64 lo',.float .f64 hi'])∨p∈fourL w al ah bl bh lo hi∧w.heap.size+1+1+1+1+1≠p.1:=by
 intro p hp
 simp only [fourL,List.mem_cons] at hp
 rcases hp with rfl | rfl | rfl | rfl | h
 · exact Or.inl rfl
 · exact Or.inr ⟨by simp [fourL],by show w.heap.size+1+1+1+1+1≠w.heap.size+1+1+1+1; omega⟩
 · exact Or.inr ⟨by simp [fourL],by show w.heap.size+1+1+1+1+1≠w.heap.size+1+1+1; omega⟩
 · exact Or.inr ⟨by simp [fourL],by show w.heap.size+1+1+1+1+1≠w.heap.size+1+1; omega⟩
 · cases h
def FourRel (w:World) (pb al ah bl bh:Nat) (r O:Nat→Res) (i:Value) (wr:World):Prop:=
 ((i = .int .i64 0∧RE w pb 0 (fourL w al ah bl bh 0 0) wr)∨(i = .int .i64 1∧(r 0).e=0∧RE w pb 0 (fourL w al ah bl bh (O 1).lo (O 1).hi) wr)∨(i = .int .i64 2∧(r 0).e=0∧(r 1).e=0∧RE w pb 0 (fourL w al ah bl bh (O 2).lo (O 2).hi) wr) ∨
   (i = .int .i64 3∧(r 0).e=0∧(r 1).e=0∧(r 2).e=0∧RE w pb 0 (fourL w al ah bl bh (O 3).lo (O 3).hi) wr)∨(i = .int .i64 4∧(r 0).e=0∧(r 1).e=0∧(r 2).e=0∧(r 3).e=0∧RE w pb 0 (fourL w al ah bl bh (O 4).lo (O 4).hi) wr))
def fourR (r O:Nat→Res):Res:=if (r 0).e=0 then (if (r 1).e=0 then (if (r 2).e=0 then (if (r 3).e=0 then ⟨0,(O 4).lo,(O 4).hi⟩ else ⟨(r 3).e,0,0⟩) else ⟨(r 2).e,0,0⟩) else ⟨(r 1).e,0,0⟩) else ⟨(r 0).e,0,0⟩
theorem four_Mul (al ah bl bh pb:Nat) (L H:Nat→Nat) (E G:Nat→Int) (r O:Nat→Res) (w:World) (hc:Has1 w (pb,#[.int .i64 0]))
   (l0:Hid (∀ v:World,Calls Tryz.prog 100 #[.float .f64 al,.float .f64 bl,.bool false] v fun r w'=>r = .returned (.tuple #[.float .f64 (L 0),.int .i64 (E 0)])∧v=w')) (h0:Hid (∀ v:World,Calls Tryz.prog 100 #[.float .f64 al,.float .f64 bl,.bool true] v fun r w'=>r = .returned (.tuple #[.float .f64 (H 0),.int .i64 (G 0)])∧v=w'))
   (l1:Hid (∀ v:World,Calls Tryz.prog 100 #[.float .f64 al,.float .f64 bh,.bool false] v fun r w'=>r = .returned (.tuple #[.float .f64 (L 1),.int .i64 (E 1)])∧v=w')) (h1:Hid (∀ v:World,Calls Tryz.prog 100 #[.float .f64 al,.float .f64 bh,.bool true] v fun r w'=>r = .returned (.tuple #[.float .f64 (H 1),.int .i64 (G 1)])∧v=w'))
   (l2:Hid (∀ v:World,Calls Tryz.prog 100 #[.float .f64 ah,.float .f64 bl,.bool false] v fun r w'=>r = .returned (.tuple #[.float .f64 (L 2),.int .i64 (E 2)])∧v=w')) (h2:Hid (∀ v:World,Calls Tryz.prog 100 #[.float .f64 ah,.float .f64 bl,.bool true] v fun r w'=>r = .returned (.tuple #[.float .f64 (H 2),.int .i64 (G 2)])∧v=w'))
   (l3:Hid (∀ v:World,Calls Tryz.prog 100 #[.float .f64 ah,.float .f64 bh,.bool false] v fun r w'=>r = .returned (.tuple #[.float .f64 (L 3),.int .i64 (E 3)])∧v=w')) (h3:Hid (∀ v:World,Calls Tryz.prog 100 #[.float .f64 ah,.float .f64 bh,.bool true] v fun r w'=>r = .returned (.tuple #[.float .f64 (H 3),.int .i64 (G 3)])∧v=w'))
   (cK:Hid (∀ k,k < 4→∀ v:World,Has1 v (pb,#[.int .i64 0])→Calls Tryz.prog 87 #[.pointer (some ⟨pb,0,none⟩),.float .f64 (L k),.int .i64 (E k),.float .f64 (H k),.int .i64 (G k)] v (Told (r k) pb 0 v)))
   (cH0:Hid ((r 0).e=0→∀ v:World,Calls Tryz.prog 80 #[.agg #[.float .f64 (r 0).lo,.float .f64 (r 0).hi],.agg #[.float .f64 (r 0).lo,.float .f64 (r 0).hi]] v fun rr w'=>rr = .returned (.agg #[.float .f64 (O 1).lo,.float .f64 (O 1).hi])∧Below v.heap.size v w'))
   (cH1:Hid ((r 0).e=0→(r 1).e=0→∀ v:World,Calls Tryz.prog 80 #[.agg #[.float .f64 (O 1).lo,.float .f64 (O 1).hi],.agg #[.float .f64 (r 1).lo,.float .f64 (r 1).hi]] v fun rr w'=>rr = .returned (.agg #[.float .f64 (O 2).lo,.float .f64 (O 2).hi])∧Below v.heap.size v w'))
   (cH2:Hid ((r 0).e=0→(r 1).e=0→(r 2).e=0→∀ v:World,Calls Tryz.prog 80 #[.agg #[.float .f64 (O 2).lo,.float .f64 (O 2).hi],.agg #[.float .f64 (r 2).lo,.float .f64 (r 2).hi]] v fun rr w'=>rr = .returned (.agg #[.float .f64 (O 3).lo,.float .f64 (O 3).hi])∧Below v.heap.size v w'))
   (cH3:Hid ((r 0).e=0→(r 1).e=0→(r 2).e=0→(r 3).e=0→∀ v:World,Calls Tryz.prog 80 #[.agg #[.float .f64 (O 3).lo,.float .f64 (O 3).hi],.agg #[.float .f64 (r 3).lo,.float .f64 (r 3).hi]] v fun rr w'=>rr = .returned (.agg #[.float .f64 (O 4).lo,.float .f64 (O 4).hi])∧Below v.heap.size v w')) :
   Calls Tryz.prog 92 #[.pointer (some ⟨pb,0,none⟩),.agg #[.float .f64 al,.float .f64 ah],.agg #[.float .f64 bl,.float .f64 bh],.bool false] w (Told (fourR r O) pb 0 w):=by
 have E0:=((((((RE.start hc).made #[.float .f64 al,.float .f64 ah] 31).made #[.float .f64 bl,.float .f64 bh] 31).made #[.float .f64 0,.float .f64 0] 31).made #[.float .f64 al,.float .f64 al,.float .f64 ah,.float .f64 ah] 25).made #[.float .f64 bl,.float .f64 bh,.float .f64 bl,.float .f64 bh] 25).made #[.float .f64 0,.float .f64 0] 31
 simp only [World.size_alloc] at E0
 replace E0:=Lib.hid (E0.sub (k:=fourL w al ah bl bh 0 0) (by simp [fourL]))
 have hz:=hc.1
 clear hc
 go_enter Tryz.func92,Tryz.ntmps92
 go_wp2_with fail
 go_loopw [12] (FourRel w pb al ah bl bh r O) (fun i _=>5 - (intOf i).toNat)
 case atStart=>exact Or.inl ⟨rfl,E0.out⟩
 case round =>
   clear E0
   rcases hrel with ⟨rfl,hM⟩ | ⟨rfl,k0,hM⟩ | ⟨rfl,k0,k1,hM⟩ | ⟨rfl,k0,k1,k2,hM⟩ | ⟨rfl,k0,k1,k2,k3,hM⟩
   · have M:=Lib.hid hM
     clear hM
     have zo:w.heap.size+1+1+1+1+1 < wr.heap.size:=(M.out.nth 0 rfl).1
     have co0:wr.cell? ⟨w.heap.size+1+1+1+1+1,0,none⟩=some (.float .f64 0):=(M.out.nth 0 rfl).2.1 0
     have co1:wr.cell? ⟨w.heap.size+1+1+1+1+1,1,none⟩=some (.float .f64 0):=(M.out.nth 0 rfl).2.1 1
     have fo:∀ i,wr.frozen? ⟨w.heap.size+1+1+1+1+1,i,none⟩=false:=(M.out.nth 0 rfl).2.2
     have zy:w.heap.size+1+1+1+1 < wr.heap.size:=(M.out.nth 1 rfl).1
     have cy0:wr.cell? ⟨w.heap.size+1+1+1+1,0,none⟩=some (.float .f64 bl):=(M.out.nth 1 rfl).2.1 0
     have cy1:wr.cell? ⟨w.heap.size+1+1+1+1,1,none⟩=some (.float .f64 bh):=(M.out.nth 1 rfl).2.1 1
     have cy2:wr.cell? ⟨w.heap.size+1+1+1+1,2,none⟩=some (.float .f64 bl):=(M.out.nth 1 rfl).2.1 2
     have cy3:wr.cell? ⟨w.heap.size+1+1+1+1,3,none⟩=some (.float .f64 bh):=(M.out.nth 1 rfl).2.1 3
     have zx:w.heap.size+1+1+1 < wr.heap.size:=(M.out.nth 2 rfl).1
     have cx0:wr.cell? ⟨w.heap.size+1+1+1,0,none⟩=some (.float .f64 al):=(M.out.nth 2 rfl).2.1 0
     have cx1:wr.cell? ⟨w.heap.size+1+1+1,1,none⟩=some (.float .f64 al):=(M.out.nth 2 rfl).2.1 1
     have cx2:wr.cell? ⟨w.heap.size+1+1+1,2,none⟩=some (.float .f64 ah):=(M.out.nth 2 rfl).2.1 2
     have cx3:wr.cell? ⟨w.heap.size+1+1+1,3,none⟩=some (.float .f64 ah):=(M.out.nth 2 rfl).2.1 3
     have zr:w.heap.size+1+1 < wr.heap.size:=(M.out.nth 3 rfl).1
     have cr0:wr.cell? ⟨w.heap.size+1+1,0,none⟩=some (.float .f64 0):=(M.out.nth 3 rfl).2.1 0
     have cr1:wr.cell? ⟨w.heap.size+1+1,1,none⟩=some (.float .f64 0):=(M.out.nth 3 rfl).2.1 1
     have fr:∀ i,wr.frozen? ⟨w.heap.size+1+1,i,none⟩=false:=(M.out.nth 3 rfl).2.2
     have zp:=M.out.cal.1
     go_upto_region 12 with fail
     have M1:=Lib.hid M.out.drew
     go_region_held3 (fun w'=>w'.cell? ⟨w.heap.size+1+1+1,0,none⟩=some (.float .f64 al)∧w'.cell? ⟨w.heap.size+1+1+1+1,0,none⟩=some (.float .f64 bl)) (go_keep)
       (first
         | (go_at_call 100; (with_reducible refine (l0.out _).mono ?_); rintro rr w5 ⟨rfl,rfl⟩))
     go_upto_region 13 with fail
     have M2:=Lib.hid M1.out.drew
     go_region_held3 (fun w'=>w'.cell? ⟨w.heap.size+1+1+1,0,none⟩=some (.float .f64 al)∧w'.cell? ⟨w.heap.size+1+1+1+1,0,none⟩=some (.float .f64 bl)) (go_keep)
       (first
         | (go_at_call 100; (with_reducible refine (h0.out _).mono ?_); rintro rr w5 ⟨rfl,rfl⟩))
     go_wp2_with fail
     refine (cK.out 0 (by decide) _ M2.out.cal).mono ?_
     rintro rr w2 hT
     obtain⟨rfl,hp⟩:=hT.open
     have M3:=Lib.hid (M2.out.putc hp)
     clear hp hT M M1 M2 zo co0 co1 fo zy cy0 cy1 cy2 cy3 zx cx0 cx1 cx2 cx3 zr cr0 cr1 fr zp
     have zo:w.heap.size+1+1+1+1+1 < w2.heap.size:=(M3.out.nth 0 rfl).1
     have co0:w2.cell? ⟨w.heap.size+1+1+1+1+1,0,none⟩=some (.float .f64 0):=(M3.out.nth 0 rfl).2.1 0
     have co1:w2.cell? ⟨w.heap.size+1+1+1+1+1,1,none⟩=some (.float .f64 0):=(M3.out.nth 0 rfl).2.1 1
     have fo:∀ i,w2.frozen? ⟨w.heap.size+1+1+1+1+1,i,none⟩=false:=(M3.out.nth 0 rfl).2.2
     have zr:w.heap.size+1+1 < w2.heap.size:=(M3.out.nth 3 rfl).1
     have cr0:w2.cell? ⟨w.heap.size+1+1,0,none⟩=some (.float .f64 0):=(M3.out.nth 3 rfl).2.1 0
     have cr1:w2.cell? ⟨w.heap.size+1+1,1,none⟩=some (.float .f64 0):=(M3.out.nth 3 rfl).2.1 1
     have fr:∀ i,w2.frozen? ⟨w.heap.size+1+1,i,none⟩=false:=(M3.out.nth 3 rfl).2.2
     have zp:=M3.out.cal.1
     have cp:=M3.out.cal.cell1
     have np:¬ pb=w2.heap.size:=by omega
     have np':¬ w2.heap.size=pb:=by omega
     have no:¬ w.heap.size+1+1+1+1+1=w2.heap.size:=by omega
     have no':¬ w2.heap.size=w.heap.size+1+1+1+1+1:=by omega
     have nr:¬ w.heap.size+1+1=w2.heap.size:=by omega
     by_cases he:(r 0).e=0
     · have he':((r 0).e != 0)=false:=by rw [he]; rfl
       have M4:=((M3.out.set_two (k:=fourL w al ah bl bh (r 0).lo (r 0).hi) (M3.out.nth 0 rfl) (M3.out.ne 0 rfl) (M3.out.from_ 0 rfl) (.float .f64 (r 0).lo) (.float .f64 (r 0).hi) (fourL_set w al ah bl bh _ _ _ _)).below (bel1 _ (.cells #[.float .f64 (r 0).lo,.float .f64 (r 0).hi] 31)))
       have d0:=fun x' y' c t=>(meet_cells (M3.out.nth 0 rfl) x' y' c t).1
       have d1:=fun x' y' c t=>(meet_cells (M3.out.nth 0 rfl) x' y' c t).2
       replace M4:=Lib.hid M4
       rw [he] at M4
       go_wp2_with fail
       refine (cH0.out he _).mono ?_
       rintro rr w3 ⟨rfl,hb⟩
       have M5:=Lib.hid (M4.out.below hb)
       clear hb M3 M4 zo co0 co1 fo zr cr0 cr1 fr zp cp np np' no no' nr d0 d1
       have zo:w.heap.size+1+1+1+1+1 < w3.heap.size:=(M5.out.nth 0 rfl).1
       have co0:w3.cell? ⟨w.heap.size+1+1+1+1+1,0,none⟩=some (.float .f64 (r 0).lo):=(M5.out.nth 0 rfl).2.1 0
       have co1:w3.cell? ⟨w.heap.size+1+1+1+1+1,1,none⟩=some (.float .f64 (r 0).hi):=(M5.out.nth 0 rfl).2.1 1
       have fo:∀ i,w3.frozen? ⟨w.heap.size+1+1+1+1+1,i,none⟩=false:=(M5.out.nth 0 rfl).2.2
       have M6:=Lib.hid (M5.out.set_two (k:=fourL w al ah bl bh (O 1).lo (O 1).hi) (M5.out.nth 0 rfl) (M5.out.ne 0 rfl) (M5.out.from_ 0 rfl) (.float .f64 (O 1).lo) (.float .f64 (O 1).hi) (fourL_set w al ah bl bh _ _ _ _))
       go_wp2_with fail
       go_roundw
       case rel=>exact Or.inr (Or.inl ⟨rfl,he,M6.out⟩)
       case measure=>simp [intOf]
     · have hS:fourR r O=⟨(r 0).e,0,0⟩:=if_neg he
       have he':((r 0).e != 0)=true:=by simpa using he
       have K0:=fun x' y' c t=>(meet_cells (M3.out.nth 3 rfl) x' y' c t).1
       have K1:=fun x' y' c t=>(meet_cells (M3.out.nth 3 rfl) x' y' c t).2
       go_wp2
       rw [hS]
       exact bodyPost_ret (v:=.agg #[.float .f64 0,.float .f64 0]) (by simp [results,Tryz.results92,go_sem,K0,K1]) rfl ⟨rfl,alloc_put M3.out (q:=w.heap.size+1+1) (by omega) _ _ _ _⟩
   · have M:=Lib.hid hM
     clear hM
     have zo:w.heap.size+1+1+1+1+1 < wr.heap.size:=(M.out.nth 0 rfl).1
     have co0:wr.cell? ⟨w.heap.size+1+1+1+1+1,0,none⟩=some (.float .f64 (O 1).lo):=(M.out.nth 0 rfl).2.1 0
     have co1:wr.cell? ⟨w.heap.size+1+1+1+1+1,1,none⟩=some (.float .f64 (O 1).hi):=(M.out.nth 0 rfl).2.1 1
     have fo:∀ i,wr.frozen? ⟨w.heap.size+1+1+1+1+1,i,none⟩=false:=(M.out.nth 0 rfl).2.2
     have zy:w.heap.size+1+1+1+1 < wr.heap.size:=(M.out.nth 1 rfl).1
     have cy0:wr.cell? ⟨w.heap.size+1+1+1+1,0,none⟩=some (.float .f64 bl):=(M.out.nth 1 rfl).2.1 0
     have cy1:wr.cell? ⟨w.heap.size+1+1+1+1,1,none⟩=some (.float .f64 bh):=(M.out.nth 1 rfl).2.1 1
     have cy2:wr.cell? ⟨w.heap.size+1+1+1+1,2,none⟩=some (.float .f64 bl):=(M.out.nth 1 rfl).2.1 2
     have cy3:wr.cell? ⟨w.heap.size+1+1+1+1,3,none⟩=some (.float .f64 bh):=(M.out.nth 1 rfl).2.1 3
     have zx:w.heap.size+1+1+1 < wr.heap.size:=(M.out.nth 2 rfl).1
     have cx0:wr.cell? ⟨w.heap.size+1+1+1,0,none⟩=some (.float .f64 al):=(M.out.nth 2 rfl).2.1 0
     have cx1:wr.cell? ⟨w.heap.size+1+1+1,1,none⟩=some (.float .f64 al):=(M.out.nth 2 rfl).2.1 1
     have cx2:wr.cell? ⟨w.heap.size+1+1+1,2,none⟩=some (.float .f64 ah):=(M.out.nth 2 rfl).2.1 2
     have cx3:wr.cell? ⟨w.heap.size+1+1+1,3,none⟩=some (.float .f64 ah):=(M.out.nth 2 rfl).2.1 3
     have zr:w.heap.size+1+1 < wr.heap.size:=(M.out.nth 3 rfl).1
     have cr0:wr.cell? ⟨w.heap.size+1+1,0,none⟩=some (.float .f64 0):=(M.out.nth 3 rfl).2.1 0
     have cr1:wr.cell? ⟨w.heap.size+1+1,1,none⟩=some (.float .f64 0):=(M.out.nth 3 rfl).2.1 1
     have fr:∀ i,wr.frozen? ⟨w.heap.size+1+1,i,none⟩=false:=(M.out.nth 3 rfl).2.2
     have zp:=M.out.cal.1
     go_upto_region 12 with fail
     have M1:=Lib.hid M.out.drew
     go_region_held3 (fun w'=>w'.cell? ⟨w.heap.size+1+1+1,1,none⟩=some (.float .f64 al)∧w'.cell? ⟨w.heap.size+1+1+1+1,1,none⟩=some (.float .f64 bh)) (go_keep)
       (first
         | (go_at_call 100; (with_reducible refine (l1.out _).mono ?_); rintro rr w5 ⟨rfl,rfl⟩))
     go_upto_region 13 with fail
     have M2:=Lib.hid M1.out.drew
     go_region_held3 (fun w'=>w'.cell? ⟨w.heap.size+1+1+1,1,none⟩=some (.float .f64 al)∧w'.cell? ⟨w.heap.size+1+1+1+1,1,none⟩=some (.float .f64 bh)) (go_keep)
       (first
         | (go_at_call 100; (with_reducible refine (h1.out _).mono ?_); rintro rr w5 ⟨rfl,rfl⟩))
     go_wp2_with fail
     refine (cK.out 1 (by decide) _ M2.out.cal).mono ?_
     rintro rr w2 hT
     obtain⟨rfl,hp⟩:=hT.open
     have M3:=Lib.hid (M2.out.putc hp)
     clear hp hT M M1 M2 zo co0 co1 fo zy cy0 cy1 cy2 cy3 zx cx0 cx1 cx2 cx3 zr cr0 cr1 fr zp
     have zo:w.heap.size+1+1+1+1+1 < w2.heap.size:=(M3.out.nth 0 rfl).1
     have co0:w2.cell? ⟨w.heap.size+1+1+1+1+1,0,none⟩=some (.float .f64 (O 1).lo):=(M3.out.nth 0 rfl).2.1 0
     have co1:w2.cell? ⟨w.heap.size+1+1+1+1+1,1,none⟩=some (.float .f64 (O 1).hi):=(M3.out.nth 0 rfl).2.1 1
     have fo:∀ i,w2.frozen? ⟨w.heap.size+1+1+1+1+1,i,none⟩=false:=(M3.out.nth 0 rfl).2.2
     have zr:w.heap.size+1+1 < w2.heap.size:=(M3.out.nth 3 rfl).1
     have cr0:w2.cell? ⟨w.heap.size+1+1,0,none⟩=some (.float .f64 0):=(M3.out.nth 3 rfl).2.1 0
     have cr1:w2.cell? ⟨w.heap.size+1+1,1,none⟩=some (.float .f64 0):=(M3.out.nth 3 rfl).2.1 1
     have fr:∀ i,w2.frozen? ⟨w.heap.size+1+1,i,none⟩=false:=(M3.out.nth 3 rfl).2.2
     have zp:=M3.out.cal.1
     have cp:=M3.out.cal.cell1
     have np:¬ pb=w2.heap.size:=by omega
     have np':¬ w2.heap.size=pb:=by omega
     have no:¬ w.heap.size+1+1+1+1+1=w2.heap.size:=by omega
     have no':¬ w2.heap.size=w.heap.size+1+1+1+1+1:=by omega
     have nr:¬ w.heap.size+1+1=w2.heap.size:=by omega
     by_cases he:(r 1).e=0
     · have he':((r 1).e != 0)=false:=by rw [he]; rfl
       have M4:=Lib.hid (M3.out.below (bel1 _ (.cells #[.float .f64 (r 1).lo,.float .f64 (r 1).hi] 31)))
       rw [he] at M4
       go_wp2_with fail
       refine (cH1.out k0 he _).mono ?_
       rintro rr w3 ⟨rfl,hb⟩
       have M5:=Lib.hid (M4.out.below hb)
       clear hb M3 M4 zo co0 co1 fo zr cr0 cr1 fr zp cp np np' no no' nr
       have zo:w.heap.size+1+1+1+1+1 < w3.heap.size:=(M5.out.nth 0 rfl).1
       have co0:w3.cell? ⟨w.heap.size+1+1+1+1+1,0,none⟩=some (.float .f64 (O 1).lo):=(M5.out.nth 0 rfl).2.1 0
       have co1:w3.cell? ⟨w.heap.size+1+1+1+1+1,1,none⟩=some (.float .f64 (O 1).hi):=(M5.out.nth 0 rfl).2.1 1
       have fo:∀ i,w3.frozen? ⟨w.heap.size+1+1+1+1+1,i,none⟩=false:=(M5.out.nth 0 rfl).2.2
       have M6:=Lib.hid (M5.out.set_two (k:=fourL w al ah bl bh (O 2).lo (O 2).hi) (M5.out.nth 0 rfl) (M5.out.ne 0 rfl) (M5.out.from_ 0 rfl) (.float .f64 (O 2).lo) (.float .f64 (O 2).hi) (fourL_set w al ah bl bh _ _ _ _))
       go_wp2_with fail
       go_roundw
       case rel=>exact Or.inr (Or.inr (Or.inl ⟨rfl,k0,he,M6.out⟩))
       case measure=>simp [intOf]
     · have hS:fourR r O=⟨(r 1).e,0,0⟩:=by unfold fourR; simp only [k0,if_true,if_neg he]
       have he':((r 1).e != 0)=true:=by simpa using he
       have K0:=fun x' y' c t=>(meet_cells (M3.out.nth 3 rfl) x' y' c t).1
       have K1:=fun x' y' c t=>(meet_cells (M3.out.nth 3 rfl) x' y' c t).2
       go_wp2
       rw [hS]
       exact bodyPost_ret (v:=.agg #[.float .f64 0,.float .f64 0]) (by simp [results,Tryz.results92,go_sem,K0,K1]) rfl ⟨rfl,alloc_put M3.out (q:=w.heap.size+1+1) (by omega) _ _ _ _⟩
   · have M:=Lib.hid hM
     clear hM
     have zo:w.heap.size+1+1+1+1+1 < wr.heap.size:=(M.out.nth 0 rfl).1
     have co0:wr.cell? ⟨w.heap.size+1+1+1+1+1,0,none⟩=some (.float .f64 (O 2).lo):=(M.out.nth 0 rfl).2.1 0
     have co1:wr.cell? ⟨w.heap.size+1+1+1+1+1,1,none⟩=some (.float .f64 (O 2).hi):=(M.out.nth 0 rfl).2.1 1
     have fo:∀ i,wr.frozen? ⟨w.heap.size+1+1+1+1+1,i,none⟩=false:=(M.out.nth 0 rfl).2.2
     have zy:w.heap.size+1+1+1+1 < wr.heap.size:=(M.out.nth 1 rfl).1
     have cy0:wr.cell? ⟨w.heap.size+1+1+1+1,0,none⟩=some (.float .f64 bl):=(M.out.nth 1 rfl).2.1 0
     have cy1:wr.cell? ⟨w.heap.size+1+1+1+1,1,none⟩=some (.float .f64 bh):=(M.out.nth 1 rfl).2.1 1
     have cy2:wr.cell? ⟨w.heap.size+1+1+1+1,2,none⟩=some (.float .f64 bl):=(M.out.nth 1 rfl).2.1 2
     have cy3:wr.cell? ⟨w.heap.size+1+1+1+1,3,none⟩=some (.float .f64 bh):=(M.out.nth 1 rfl).2.1 3
     have zx:w.heap.size+1+1+1 < wr.heap.size:=(M.out.nth 2 rfl).1
     have cx0:wr.cell? ⟨w.heap.size+1+1+1,0,none⟩=some (.float .f64 al):=(M.out.nth 2 rfl).2.1 0
     have cx1:wr.cell? ⟨w.heap.size+1+1+1,1,none⟩=some (.float .f64 al):=(M.out.nth 2 rfl).2.1 1
     have cx2:wr.cell? ⟨w.heap.size+1+1+1,2,none⟩=some (.float .f64 ah):=(M.out.nth 2 rfl).2.1 2
     have cx3:wr.cell? ⟨w.heap.size+1+1+1,3,none⟩=some (.float .f64 ah):=(M.out.nth 2 rfl).2.1 3
     have zr:w.heap.size+1+1 < wr.heap.size:=(M.out.nth 3 rfl).1
     have cr0:wr.cell? ⟨w.heap.size+1+1,0,none⟩=some (.float .f64 0):=(M.out.nth 3 rfl).2.1 0
     have cr1:wr.cell? ⟨w.heap.size+1+1,1,none⟩=some (.float .f64 0):=(M.out.nth 3 rfl).2.1 1
     have fr:∀ i,wr.frozen? ⟨w.heap.size+1+1,i,none⟩=false:=(M.out.nth 3 rfl).2.2
     have zp:=M.out.cal.1
     go_upto_region 12 with fail
     have M1:=Lib.hid M.out.drew
     go_region_held3 (fun w'=>w'.cell? ⟨w.heap.size+1+1+1,2,none⟩=some (.float .f64 ah)∧w'.cell? ⟨w.heap.size+1+1+1+1,2,none⟩=some (.float .f64 bl)) (go_keep)
       (first
         | (go_at_call 100; (with_reducible refine (l2.out _).mono ?_); rintro rr w5 ⟨rfl,rfl⟩))
     go_upto_region 13 with fail
     have M2:=Lib.hid M1.out.drew
     go_region_held3 (fun w'=>w'.cell? ⟨w.heap.size+1+1+1,2,none⟩=some (.float .f64 ah)∧w'.cell? ⟨w.heap.size+1+1+1+1,2,none⟩=some (.float .f64 bl)) (go_keep)
       (first
         | (go_at_call 100; (with_reducible refine (h2.out _).mono ?_); rintro rr w5 ⟨rfl,rfl⟩))
     go_wp2_with fail
     refine (cK.out 2 (by decide) _ M2.out.cal).mono ?_
     rintro rr w2 hT
     obtain⟨rfl,hp⟩:=hT.open
     have M3:=Lib.hid (M2.out.putc hp)
     clear hp hT M M1 M2 zo co0 co1 fo zy cy0 cy1 cy2 cy3 zx cx0 cx1 cx2 cx3 zr cr0 cr1 fr zp
     have zo:w.heap.size+1+1+1+1+1 < w2.heap.size:=(M3.out.nth 0 rfl).1
     have co0:w2.cell? ⟨w.heap.size+1+1+1+1+1,0,none⟩=some (.float .f64 (O 2).lo):=(M3.out.nth 0 rfl).2.1 0
     have co1:w2.cell? ⟨w.heap.size+1+1+1+1+1,1,none⟩=some (.float .f64 (O 2).hi):=(M3.out.nth 0 rfl).2.1 1
     have fo:∀ i,w2.frozen? ⟨w.heap.size+1+1+1+1+1,i,none⟩=false:=(M3.out.nth 0 rfl).2.2
     have zr:w.heap.size+1+1 < w2.heap.size:=(M3.out.nth 3 rfl).1
     have cr0:w2.cell? ⟨w.heap.size+1+1,0,none⟩=some (.float .f64 0):=(M3.out.nth 3 rfl).2.1 0
     have cr1:w2.cell? ⟨w.heap.size+1+1,1,none⟩=some (.float .f64 0):=(M3.out.nth 3 rfl).2.1 1
     have fr:∀ i,w2.frozen? ⟨w.heap.size+1+1,i,none⟩=false:=(M3.out.nth 3 rfl).2.2
     have zp:=M3.out.cal.1
     have cp:=M3.out.cal.cell1
     have np:¬ pb=w2.heap.size:=by omega
     have np':¬ w2.heap.size=pb:=by omega
     have no:¬ w.heap.size+1+1+1+1+1=w2.heap.size:=by omega
     have no':¬ w2.heap.size=w.heap.size+1+1+1+1+1:=by omega
     have nr:¬ w.heap.size+1+1=w2.heap.size:=by omega
     by_cases he:(r 2).e=0
     · have he':((r 2).e != 0)=false:=by rw [he]; rfl
       have M4:=Lib.hid (M3.out.below (bel1 _ (.cells #[.float .f64 (r 2).lo,.float .f64 (r 2).hi] 31)))
       rw [he] at M4
       go_wp2_with fail
       refine (cH2.out k0 k1 he _).mono ?_
       rintro rr w3 ⟨rfl,hb⟩
       have M5:=Lib.hid (M4.out.below hb)
       clear hb M3 M4 zo co0 co1 fo zr cr0 cr1 fr zp cp np np' no no' nr
       have zo:w.heap.size+1+1+1+1+1 < w3.heap.size:=(M5.out.nth 0 rfl).1
       have co0:w3.cell? ⟨w.heap.size+1+1+1+1+1,0,none⟩=some (.float .f64 (O 2).lo):=(M5.out.nth 0 rfl).2.1 0
       have co1:w3.cell? ⟨w.heap.size+1+1+1+1+1,1,none⟩=some (.float .f64 (O 2).hi):=(M5.out.nth 0 rfl).2.1 1
       have fo:∀ i,w3.frozen? ⟨w.heap.size+1+1+1+1+1,i,none⟩=false:=(M5.out.nth 0 rfl).2.2
       have M6:=Lib.hid (M5.out.set_two (k:=fourL w al ah bl bh (O 3).lo (O 3).hi) (M5.out.nth 0 rfl) (M5.out.ne 0 rfl) (M5.out.from_ 0 rfl) (.float .f64 (O 3).lo) (.float .f64 (O 3).hi) (fourL_set w al ah bl bh _ _ _ _))
       go_wp2_with fail
       go_roundw
       case rel=>exact Or.inr (Or.inr (Or.inr (Or.inl ⟨rfl,k0,k1,he,M6.out⟩)))
       case measure=>simp [intOf]
     · have hS:fourR r O=⟨(r 2).e,0,0⟩:=by unfold fourR; simp only [k0,k1,if_true,if_neg he]
       have he':((r 2).e != 0)=true:=by simpa using he
       have K0:=fun x' y' c t=>(meet_cells (M3.out.nth 3 rfl) x' y' c t).1
       have K1:=fun x' y' c t=>(meet_cells (M3.out.nth 3 rfl) x' y' c t).2
       go_wp2
       rw [hS]
       exact bodyPost_ret (v:=.agg #[.float .f64 0,.float .f64 0]) (by simp [results,Tryz.results92,go_sem,K0,K1]) rfl ⟨rfl,alloc_put M3.out (q:=w.heap.size+1+1) (by omega) _ _ _ _⟩
   · have M:=Lib.hid hM
     clear hM
     have zo:w.heap.size+1+1+1+1+1 < wr.heap.size:=(M.out.nth 0 rfl).1
     have co0:wr.cell? ⟨w.heap.size+1+1+1+1+1,0,none⟩=some (.float .f64 (O 3).lo):=(M.out.nth 0 rfl).2.1 0
     have co1:wr.cell? ⟨w.heap.size+1+1+1+1+1,1,none⟩=some (.float .f64 (O 3).hi):=(M.out.nth 0 rfl).2.1 1
     have fo:∀ i,wr.frozen? ⟨w.heap.size+1+1+1+1+1,i,none⟩=false:=(M.out.nth 0 rfl).2.2
     have zy:w.heap.size+1+1+1+1 < wr.heap.size:=(M.out.nth 1 rfl).1
     have cy0:wr.cell? ⟨w.heap.size+1+1+1+1,0,none⟩=some (.float .f64 bl):=(M.out.nth 1 rfl).2.1 0
     have cy1:wr.cell? ⟨w.heap.size+1+1+1+1,1,none⟩=some (.float .f64 bh):=(M.out.nth 1 rfl).2.1 1
     have cy2:wr.cell? ⟨w.heap.size+1+1+1+1,2,none⟩=some (.float .f64 bl):=(M.out.nth 1 rfl).2.1 2
     have cy3:wr.cell? ⟨w.heap.size+1+1+1+1,3,none⟩=some (.float .f64 bh):=(M.out.nth 1 rfl).2.1 3
     have zx:w.heap.size+1+1+1 < wr.heap.size:=(M.out.nth 2 rfl).1
     have cx0:wr.cell? ⟨w.heap.size+1+1+1,0,none⟩=some (.float .f64 al):=(M.out.nth 2 rfl).2.1 0
     have cx1:wr.cell? ⟨w.heap.size+1+1+1,1,none⟩=some (.float .f64 al):=(M.out.nth 2 rfl).2.1 1
     have cx2:wr.cell? ⟨w.heap.size+1+1+1,2,none⟩=some (.float .f64 ah):=(M.out.nth 2 rfl).2.1 2
     have cx3:wr.cell? ⟨w.heap.size+1+1+1,3,none⟩=some (.float .f64 ah):=(M.out.nth 2 rfl).2.1 3
     have zr:w.heap.size+1+1 < wr.heap.size:=(M.out.nth 3 rfl).1
     have cr0:wr.cell? ⟨w.heap.size+1+1,0,none⟩=some (.float .f64 0):=(M.out.nth 3 rfl).2.1 0
     have cr1:wr.cell? ⟨w.heap.size+1+1,1,none⟩=some (.float .f64 0):=(M.out.nth 3 rfl).2.1 1
     have fr:∀ i,wr.frozen? ⟨w.heap.size+1+1,i,none⟩=false:=(M.out.nth 3 rfl).2.2
     have zp:=M.out.cal.1
     go_upto_region 12 with fail
     have M1:=Lib.hid M.out.drew
     go_region_held3 (fun w'=>w'.cell? ⟨w.heap.size+1+1+1,3,none⟩=some (.float .f64 ah)∧w'.cell? ⟨w.heap.size+1+1+1+1,3,none⟩=some (.float .f64 bh)) (go_keep)
       (first
         | (go_at_call 100; (with_reducible refine (l3.out _).mono ?_); rintro rr w5 ⟨rfl,rfl⟩))
     go_upto_region 13 with fail
     have M2:=Lib.hid M1.out.drew
     go_region_held3 (fun w'=>w'.cell? ⟨w.heap.size+1+1+1,3,none⟩=some (.float .f64 ah)∧w'.cell? ⟨w.heap.size+1+1+1+1,3,none⟩=some (.float .f64 bh)) (go_keep)
       (first
         | (go_at_call 100; (with_reducible refine (h3.out _).mono ?_); rintro rr w5 ⟨rfl,rfl⟩))
     go_wp2_with fail
     refine (cK.out 3 (by decide) _ M2.out.cal).mono ?_
     rintro rr w2 hT
     obtain⟨rfl,hp⟩:=hT.open
     have M3:=Lib.hid (M2.out.putc hp)
     clear hp hT M M1 M2 zo co0 co1 fo zy cy0 cy1 cy2 cy3 zx cx0 cx1 cx2 cx3 zr cr0 cr1 fr zp
     have zo:w.heap.size+1+1+1+1+1 < w2.heap.size:=(M3.out.nth 0 rfl).1
     have co0:w2.cell? ⟨w.heap.size+1+1+1+1+1,0,none⟩=some (.float .f64 (O 3).lo):=(M3.out.nth 0 rfl).2.1 0
     have co1:w2.cell? ⟨w.heap.size+1+1+1+1+1,1,none⟩=some (.float .f64 (O 3).hi):=(M3.out.nth 0 rfl).2.1 1
     have fo:∀ i,w2.frozen? ⟨w.heap.size+1+1+1+1+1,i,none⟩=false:=(M3.out.nth 0 rfl).2.2
     have zr:w.heap.size+1+1 < w2.heap.size:=(M3.out.nth 3 rfl).1
     have cr0:w2.cell? ⟨w.heap.size+1+1,0,none⟩=some (.float .f64 0):=(M3.out.nth 3 rfl).2.1 0
     have cr1:w2.cell? ⟨w.heap.size+1+1,1,none⟩=some (.float .f64 0):=(M3.out.nth 3 rfl).2.1 1
     have fr:∀ i,w2.frozen? ⟨w.heap.size+1+1,i,none⟩=false:=(M3.out.nth 3 rfl).2.2
     have zp:=M3.out.cal.1
     have cp:=M3.out.cal.cell1
     have np:¬ pb=w2.heap.size:=by omega
     have np':¬ w2.heap.size=pb:=by omega
     have no:¬ w.heap.size+1+1+1+1+1=w2.heap.size:=by omega
     have no':¬ w2.heap.size=w.heap.size+1+1+1+1+1:=by omega
     have nr:¬ w.heap.size+1+1=w2.heap.size:=by omega
     by_cases he:(r 3).e=0
     · have he':((r 3).e != 0)=false:=by rw [he]; rfl
       have M4:=Lib.hid (M3.out.below (bel1 _ (.cells #[.float .f64 (r 3).lo,.float .f64 (r 3).hi] 31)))
       rw [he] at M4
       go_wp2_with fail
       refine (cH3.out k0 k1 k2 he _).mono ?_
       rintro rr w3 ⟨rfl,hb⟩
       have M5:=Lib.hid (M4.out.below hb)
       clear hb M3 M4 zo co0 co1 fo zr cr0 cr1 fr zp cp np np' no no' nr
       have zo:w.heap.size+1+1+1+1+1 < w3.heap.size:=(M5.out.nth 0 rfl).1
       have co0:w3.cell? ⟨w.heap.size+1+1+1+1+1,0,none⟩=some (.float .f64 (O 3).lo):=(M5.out.nth 0 rfl).2.1 0
       have co1:w3.cell? ⟨w.heap.size+1+1+1+1+1,1,none⟩=some (.float .f64 (O 3).hi):=(M5.out.nth 0 rfl).2.1 1
       have fo:∀ i,w3.frozen? ⟨w.heap.size+1+1+1+1+1,i,none⟩=false:=(M5.out.nth 0 rfl).2.2
       have M6:=Lib.hid (M5.out.set_two (k:=fourL w al ah bl bh (O 4).lo (O 4).hi) (M5.out.nth 0 rfl) (M5.out.ne 0 rfl) (M5.out.from_ 0 rfl) (.float .f64 (O 4).lo) (.float .f64 (O 4).hi) (fourL_set w al ah bl bh _ _ _ _))
       go_wp2_with fail
       go_roundw
       case rel=>exact Or.inr (Or.inr (Or.inr (Or.inr (⟨rfl,k0,k1,k2,he,M6.out⟩))))
       case measure=>simp [intOf]
     · have hS:fourR r O=⟨(r 3).e,0,0⟩:=by unfold fourR; simp only [k0,k1,k2,if_true,if_neg he]
       have he':((r 3).e != 0)=true:=by simpa using he
       have K0:=fun x' y' c t=>(meet_cells (M3.out.nth 3 rfl) x' y' c t).1
       have K1:=fun x' y' c t=>(meet_cells (M3.out.nth 3 rfl) x' y' c t).2
       go_wp2
       rw [hS]
       exact bodyPost_ret (v:=.agg #[.float .f64 0,.float .f64 0]) (by simp [results,Tryz.results92,go_sem,K0,K1]) rfl ⟨rfl,alloc_put M3.out (q:=w.heap.size+1+1) (by omega) _ _ _ _⟩
   · have M:=Lib.hid hM
     clear hM
     have zo:w.heap.size+1+1+1+1+1 < wr.heap.size:=(M.out.nth 0 rfl).1
     have co0:wr.cell? ⟨w.heap.size+1+1+1+1+1,0,none⟩=some (.float .f64 (O 4).lo):=(M.out.nth 0 rfl).2.1 0
     have co1:wr.cell? ⟨w.heap.size+1+1+1+1+1,1,none⟩=some (.float .f64 (O 4).hi):=(M.out.nth 0 rfl).2.1 1
     have fo:∀ i,wr.frozen? ⟨w.heap.size+1+1+1+1+1,i,none⟩=false:=(M.out.nth 0 rfl).2.2
     have zr:w.heap.size+1+1 < wr.heap.size:=(M.out.nth 3 rfl).1
     have cr0:wr.cell? ⟨w.heap.size+1+1,0,none⟩=some (.float .f64 0):=(M.out.nth 3 rfl).2.1 0
     have cr1:wr.cell? ⟨w.heap.size+1+1,1,none⟩=some (.float .f64 0):=(M.out.nth 3 rfl).2.1 1
     have fr:∀ i,wr.frozen? ⟨w.heap.size+1+1,i,none⟩=false:=(M.out.nth 3 rfl).2.2
     have hS:fourR r O=⟨0,(O 4).lo,(O 4).hi⟩:=by unfold fourR; simp only [k0,k1,k2,k3,if_true]
     go_wp2
     rw [hS]
     exact bodyPost_ret (v:=.agg #[.float .f64 (O 4).lo,.float .f64 (O 4).hi]) (by simp [results,Tryz.results92,go_sem,cr0,cr1]) rfl ⟨rfl,M.out.fin (q:=w.heap.size+1+1) (by omega) _ _⟩
theorem four_Div (al ah bl bh pb:Nat) (L H:Nat→Nat) (E G:Nat→Int) (r O:Nat→Res) (w:World) (hc:Has1 w (pb,#[.int .i64 0]))
   (l0:Hid (∀ v:World,Calls Tryz.prog 136 #[.float .f64 al,.float .f64 bl,.bool false] v fun r w'=>r = .returned (.tuple #[.float .f64 (L 0),.int .i64 (E 0)])∧v=w')) (h0:Hid (∀ v:World,Calls Tryz.prog 136 #[.float .f64 al,.float .f64 bl,.bool true] v fun r w'=>r = .returned (.tuple #[.float .f64 (H 0),.int .i64 (G 0)])∧v=w'))
   (l1:Hid (∀ v:World,Calls Tryz.prog 136 #[.float .f64 al,.float .f64 bh,.bool false] v fun r w'=>r = .returned (.tuple #[.float .f64 (L 1),.int .i64 (E 1)])∧v=w')) (h1:Hid (∀ v:World,Calls Tryz.prog 136 #[.float .f64 al,.float .f64 bh,.bool true] v fun r w'=>r = .returned (.tuple #[.float .f64 (H 1),.int .i64 (G 1)])∧v=w'))
   (l2:Hid (∀ v:World,Calls Tryz.prog 136 #[.float .f64 ah,.float .f64 bl,.bool false] v fun r w'=>r = .returned (.tuple #[.float .f64 (L 2),.int .i64 (E 2)])∧v=w')) (h2:Hid (∀ v:World,Calls Tryz.prog 136 #[.float .f64 ah,.float .f64 bl,.bool true] v fun r w'=>r = .returned (.tuple #[.float .f64 (H 2),.int .i64 (G 2)])∧v=w'))
   (l3:Hid (∀ v:World,Calls Tryz.prog 136 #[.float .f64 ah,.float .f64 bh,.bool false] v fun r w'=>r = .returned (.tuple #[.float .f64 (L 3),.int .i64 (E 3)])∧v=w')) (h3:Hid (∀ v:World,Calls Tryz.prog 136 #[.float .f64 ah,.float .f64 bh,.bool true] v fun r w'=>r = .returned (.tuple #[.float .f64 (H 3),.int .i64 (G 3)])∧v=w'))
   (cK:Hid (∀ k,k < 4→∀ v:World,Has1 v (pb,#[.int .i64 0])→Calls Tryz.prog 87 #[.pointer (some ⟨pb,0,none⟩),.float .f64 (L k),.int .i64 (E k),.float .f64 (H k),.int .i64 (G k)] v (Told (r k) pb 0 v)))
   (cH0:Hid ((r 0).e=0→∀ v:World,Calls Tryz.prog 80 #[.agg #[.float .f64 (r 0).lo,.float .f64 (r 0).hi],.agg #[.float .f64 (r 0).lo,.float .f64 (r 0).hi]] v fun rr w'=>rr = .returned (.agg #[.float .f64 (O 1).lo,.float .f64 (O 1).hi])∧Below v.heap.size v w'))
   (cH1:Hid ((r 0).e=0→(r 1).e=0→∀ v:World,Calls Tryz.prog 80 #[.agg #[.float .f64 (O 1).lo,.float .f64 (O 1).hi],.agg #[.float .f64 (r 1).lo,.float .f64 (r 1).hi]] v fun rr w'=>rr = .returned (.agg #[.float .f64 (O 2).lo,.float .f64 (O 2).hi])∧Below v.heap.size v w'))
   (cH2:Hid ((r 0).e=0→(r 1).e=0→(r 2).e=0→∀ v:World,Calls Tryz.prog 80 #[.agg #[.float .f64 (O 2).lo,.float .f64 (O 2).hi],.agg #[.float .f64 (r 2).lo,.float .f64 (r 2).hi]] v fun rr w'=>rr = .returned (.agg #[.float .f64 (O 3).lo,.float .f64 (O 3).hi])∧Below v.heap.size v w'))
   (cH3:Hid ((r 0).e=0→(r 1).e=0→(r 2).e=0→(r 3).e=0→∀ v:World,Calls Tryz.prog 80 #[.agg #[.float .f64 (O 3).lo,.float .f64 (O 3).hi],.agg #[.float .f64 (r 3).lo,.float .f64 (r 3).hi]] v fun rr w'=>rr = .returned (.agg #[.float .f64 (O 4).lo,.float .f64 (O 4).hi])∧Below v.heap.size v w')) :
   Calls Tryz.prog 92 #[.pointer (some ⟨pb,0,none⟩),.agg #[.float .f64 al,.float .f64 ah],.agg #[.float .f64 bl,.float .f64 bh],.bool true] w (Told (fourR r O) pb 0 w):=by
 have E0:=((((((RE.start hc).made #[.float .f64 al,.float .f64 ah] 31).made #[.float .f64 bl,.float .f64 bh] 31).made #[.float .f64 0,.float .f64 0] 31).made #[.float .f64 al,.float .f64 al,.float .f64 ah,.float .f64 ah] 25).made #[.float .f64 bl,.float .f64 bh,.float .f64 bl,.float .f64 bh] 25).made #[.float .f64 0,.float .f64 0] 31
 simp only [World.size_alloc] at E0
 replace E0:=Lib.hid (E0.sub (k:=fourL w al ah bl bh 0 0) (by simp [fourL]))
 have hz:=hc.1
 clear hc
 go_enter Tryz.func92,Tryz.ntmps92
 go_wp2_with fail
 go_loopw [12] (FourRel w pb al ah bl bh r O) (fun i _=>5 - (intOf i).toNat)
 case atStart=>exact Or.inl ⟨rfl,E0.out⟩
 case round =>
   clear E0
   rcases hrel with ⟨rfl,hM⟩ | ⟨rfl,k0,hM⟩ | ⟨rfl,k0,k1,hM⟩ | ⟨rfl,k0,k1,k2,hM⟩ | ⟨rfl,k0,k1,k2,k3,hM⟩
   · have M:=Lib.hid hM
     clear hM
     have zo:w.heap.size+1+1+1+1+1 < wr.heap.size:=(M.out.nth 0 rfl).1
     have co0:wr.cell? ⟨w.heap.size+1+1+1+1+1,0,none⟩=some (.float .f64 0):=(M.out.nth 0 rfl).2.1 0
     have co1:wr.cell? ⟨w.heap.size+1+1+1+1+1,1,none⟩=some (.float .f64 0):=(M.out.nth 0 rfl).2.1 1
     have fo:∀ i,wr.frozen? ⟨w.heap.size+1+1+1+1+1,i,none⟩=false:=(M.out.nth 0 rfl).2.2
     have zy:w.heap.size+1+1+1+1 < wr.heap.size:=(M.out.nth 1 rfl).1
     have cy0:wr.cell? ⟨w.heap.size+1+1+1+1,0,none⟩=some (.float .f64 bl):=(M.out.nth 1 rfl).2.1 0
     have cy1:wr.cell? ⟨w.heap.size+1+1+1+1,1,none⟩=some (.float .f64 bh):=(M.out.nth 1 rfl).2.1 1
     have cy2:wr.cell? ⟨w.heap.size+1+1+1+1,2,none⟩=some (.float .f64 bl):=(M.out.nth 1 rfl).2.1 2
     have cy3:wr.cell? ⟨w.heap.size+1+1+1+1,3,none⟩=some (.float .f64 bh):=(M.out.nth 1 rfl).2.1 3
     have zx:w.heap.size+1+1+1 < wr.heap.size:=(M.out.nth 2 rfl).1
     have cx0:wr.cell? ⟨w.heap.size+1+1+1,0,none⟩=some (.float .f64 al):=(M.out.nth 2 rfl).2.1 0
     have cx1:wr.cell? ⟨w.heap.size+1+1+1,1,none⟩=some (.float .f64 al):=(M.out.nth 2 rfl).2.1 1
     have cx2:wr.cell? ⟨w.heap.size+1+1+1,2,none⟩=some (.float .f64 ah):=(M.out.nth 2 rfl).2.1 2
     have cx3:wr.cell? ⟨w.heap.size+1+1+1,3,none⟩=some (.float .f64 ah):=(M.out.nth 2 rfl).2.1 3
     have zr:w.heap.size+1+1 < wr.heap.size:=(M.out.nth 3 rfl).1
     have cr0:wr.cell? ⟨w.heap.size+1+1,0,none⟩=some (.float .f64 0):=(M.out.nth 3 rfl).2.1 0
     have cr1:wr.cell? ⟨w.heap.size+1+1,1,none⟩=some (.float .f64 0):=(M.out.nth 3 rfl).2.1 1
     have fr:∀ i,wr.frozen? ⟨w.heap.size+1+1,i,none⟩=false:=(M.out.nth 3 rfl).2.2
     have zp:=M.out.cal.1
     go_upto_region 10 with fail
     have M1:=Lib.hid M.out.drew
     go_region_held3 (fun w'=>w'.cell? ⟨w.heap.size+1+1+1,0,none⟩=some (.float .f64 al)∧w'.cell? ⟨w.heap.size+1+1+1+1,0,none⟩=some (.float .f64 bl)) (go_keep)
       (first
         | (go_at_call 136; (with_reducible refine (l0.out _).mono ?_); rintro rr w5 ⟨rfl,rfl⟩))
     go_upto_region 11 with fail
     have M2:=Lib.hid M1.out.drew
     go_region_held3 (fun w'=>w'.cell? ⟨w.heap.size+1+1+1,0,none⟩=some (.float .f64 al)∧w'.cell? ⟨w.heap.size+1+1+1+1,0,none⟩=some (.float .f64 bl)) (go_keep)
       (first
         | (go_at_call 136; (with_reducible refine (h0.out _).mono ?_); rintro rr w5 ⟨rfl,rfl⟩))
     go_wp2_with fail
     refine (cK.out 0 (by decide) _ M2.out.cal).mono ?_
     rintro rr w2 hT
     obtain⟨rfl,hp⟩:=hT.open
     have M3:=Lib.hid (M2.out.putc hp)
     clear hp hT M M1 M2 zo co0 co1 fo zy cy0 cy1 cy2 cy3 zx cx0 cx1 cx2 cx3 zr cr0 cr1 fr zp
     have zo:w.heap.size+1+1+1+1+1 < w2.heap.size:=(M3.out.nth 0 rfl).1
     have co0:w2.cell? ⟨w.heap.size+1+1+1+1+1,0,none⟩=some (.float .f64 0):=(M3.out.nth 0 rfl).2.1 0
     have co1:w2.cell? ⟨w.heap.size+1+1+1+1+1,1,none⟩=some (.float .f64 0):=(M3.out.nth 0 rfl).2.1 1
     have fo:∀ i,w2.frozen? ⟨w.heap.size+1+1+1+1+1,i,none⟩=false:=(M3.out.nth 0 rfl).2.2
     have zr:w.heap.size+1+1 < w2.heap.size:=(M3.out.nth 3 rfl).1
     have cr0:w2.cell? ⟨w.heap.size+1+1,0,none⟩=some (.float .f64 0):=(M3.out.nth 3 rfl).2.1 0
     have cr1:w2.cell? ⟨w.heap.size+1+1,1,none⟩=some (.float .f64 0):=(M3.out.nth 3 rfl).2.1 1
     have fr:∀ i,w2.frozen? ⟨w.heap.size+1+1,i,none⟩=false:=(M3.out.nth 3 rfl).2.2
     have zp:=M3.out.cal.1
     have cp:=M3.out.cal.cell1
     have np:¬ pb=w2.heap.size:=by omega
     have np':¬ w2.heap.size=pb:=by omega
     have no:¬ w.heap.size+1+1+1+1+1=w2.heap.size:=by omega
     have no':¬ w2.heap.size=w.heap.size+1+1+1+1+1:=by omega
     have nr:¬ w.heap.size+1+1=w2.heap.size:=by omega
     by_cases he:(r 0).e=0
     · have he':((r 0).e != 0)=false:=by rw [he]; rfl
       have M4:=((M3.out.set_two (k:=fourL w al ah bl bh (r 0).lo (r 0).hi) (M3.out.nth 0 rfl) (M3.out.ne 0 rfl) (M3.out.from_ 0 rfl) (.float .f64 (r 0).lo) (.float .f64 (r 0).hi) (fourL_set w al ah bl bh _ _ _ _)).below (bel1 _ (.cells #[.float .f64 (r 0).lo,.float .f64 (r 0).hi] 31)))
       have d0:=fun x' y' c t=>(meet_cells (M3.out.nth 0 rfl) x' y' c t).1
       have d1:=fun x' y' c t=>(meet_cells (M3.out.nth 0 rfl) x' y' c t).2
       replace M4:=Lib.hid M4
       rw [he] at M4
       go_wp2_with fail
       refine (cH0.out he _).mono ?_
       rintro rr w3 ⟨rfl,hb⟩
       have M5:=Lib.hid (M4.out.below hb)
       clear hb M3 M4 zo co0 co1 fo zr cr0 cr1 fr zp cp np np' no no' nr d0 d1
       have zo:w.heap.size+1+1+1+1+1 < w3.heap.size:=(M5.out.nth 0 rfl).1
       have co0:w3.cell? ⟨w.heap.size+1+1+1+1+1,0,none⟩=some (.float .f64 (r 0).lo):=(M5.out.nth 0 rfl).2.1 0
       have co1:w3.cell? ⟨w.heap.size+1+1+1+1+1,1,none⟩=some (.float .f64 (r 0).hi):=(M5.out.nth 0 rfl).2.1 1
       have fo:∀ i,w3.frozen? ⟨w.heap.size+1+1+1+1+1,i,none⟩=false:=(M5.out.nth 0 rfl).2.2
       have M6:=Lib.hid (M5.out.set_two (k:=fourL w al ah bl bh (O 1).lo (O 1).hi) (M5.out.nth 0 rfl) (M5.out.ne 0 rfl) (M5.out.from_ 0 rfl) (.float .f64 (O 1).lo) (.float .f64 (O 1).hi) (fourL_set w al ah bl bh _ _ _ _))
       go_wp2_with fail
       go_roundw
       case rel=>exact Or.inr (Or.inl ⟨rfl,he,M6.out⟩)
       case measure=>simp [intOf]
     · have hS:fourR r O=⟨(r 0).e,0,0⟩:=if_neg he
       have he':((r 0).e != 0)=true:=by simpa using he
       have K0:=fun x' y' c t=>(meet_cells (M3.out.nth 3 rfl) x' y' c t).1
       have K1:=fun x' y' c t=>(meet_cells (M3.out.nth 3 rfl) x' y' c t).2
       go_wp2
       rw [hS]
       exact bodyPost_ret (v:=.agg #[.float .f64 0,.float .f64 0]) (by simp [results,Tryz.results92,go_sem,K0,K1]) rfl ⟨rfl,alloc_put M3.out (q:=w.heap.size+1+1) (by omega) _ _ _ _⟩
   · have M:=Lib.hid hM
     clear hM
     have zo:w.heap.size+1+1+1+1+1 < wr.heap.size:=(M.out.nth 0 rfl).1
     have co0:wr.cell? ⟨w.heap.size+1+1+1+1+1,0,none⟩=some (.float .f64 (O 1).lo):=(M.out.nth 0 rfl).2.1 0
     have co1:wr.cell? ⟨w.heap.size+1+1+1+1+1,1,none⟩=some (.float .f64 (O 1).hi):=(M.out.nth 0 rfl).2.1 1
     have fo:∀ i,wr.frozen? ⟨w.heap.size+1+1+1+1+1,i,none⟩=false:=(M.out.nth 0 rfl).2.2
     have zy:w.heap.size+1+1+1+1 < wr.heap.size:=(M.out.nth 1 rfl).1
     have cy0:wr.cell? ⟨w.heap.size+1+1+1+1,0,none⟩=some (.float .f64 bl):=(M.out.nth 1 rfl).2.1 0
     have cy1:wr.cell? ⟨w.heap.size+1+1+1+1,1,none⟩=some (.float .f64 bh):=(M.out.nth 1 rfl).2.1 1
     have cy2:wr.cell? ⟨w.heap.size+1+1+1+1,2,none⟩=some (.float .f64 bl):=(M.out.nth 1 rfl).2.1 2
     have cy3:wr.cell? ⟨w.heap.size+1+1+1+1,3,none⟩=some (.float .f64 bh):=(M.out.nth 1 rfl).2.1 3
     have zx:w.heap.size+1+1+1 < wr.heap.size:=(M.out.nth 2 rfl).1
     have cx0:wr.cell? ⟨w.heap.size+1+1+1,0,none⟩=some (.float .f64 al):=(M.out.nth 2 rfl).2.1 0
     have cx1:wr.cell? ⟨w.heap.size+1+1+1,1,none⟩=some (.float .f64 al):=(M.out.nth 2 rfl).2.1 1
     have cx2:wr.cell? ⟨w.heap.size+1+1+1,2,none⟩=some (.float .f64 ah):=(M.out.nth 2 rfl).2.1 2
     have cx3:wr.cell? ⟨w.heap.size+1+1+1,3,none⟩=some (.float .f64 ah):=(M.out.nth 2 rfl).2.1 3
     have zr:w.heap.size+1+1 < wr.heap.size:=(M.out.nth 3 rfl).1
     have cr0:wr.cell? ⟨w.heap.size+1+1,0,none⟩=some (.float .f64 0):=(M.out.nth 3 rfl).2.1 0
     have cr1:wr.cell? ⟨w.heap.size+1+1,1,none⟩=some (.float .f64 0):=(M.out.nth 3 rfl).2.1 1
     have fr:∀ i,wr.frozen? ⟨w.heap.size+1+1,i,none⟩=false:=(M.out.nth 3 rfl).2.2
     have zp:=M.out.cal.1
     go_upto_region 10 with fail
     have M1:=Lib.hid M.out.drew
     go_region_held3 (fun w'=>w'.cell? ⟨w.heap.size+1+1+1,1,none⟩=some (.float .f64 al)∧w'.cell? ⟨w.heap.size+1+1+1+1,1,none⟩=some (.float .f64 bh)) (go_keep)
       (first
         | (go_at_call 136; (with_reducible refine (l1.out _).mono ?_); rintro rr w5 ⟨rfl,rfl⟩))
     go_upto_region 11 with fail
     have M2:=Lib.hid M1.out.drew
     go_region_held3 (fun w'=>w'.cell? ⟨w.heap.size+1+1+1,1,none⟩=some (.float .f64 al)∧w'.cell? ⟨w.heap.size+1+1+1+1,1,none⟩=some (.float .f64 bh)) (go_keep)
       (first
         | (go_at_call 136; (with_reducible refine (h1.out _).mono ?_); rintro rr w5 ⟨rfl,rfl⟩))
     go_wp2_with fail
     refine (cK.out 1 (by decide) _ M2.out.cal).mono ?_
     rintro rr w2 hT
     obtain⟨rfl,hp⟩:=hT.open
     have M3:=Lib.hid (M2.out.putc hp)
     clear hp hT M M1 M2 zo co0 co1 fo zy cy0 cy1 cy2 cy3 zx cx0 cx1 cx2 cx3 zr cr0 cr1 fr zp
     have zo:w.heap.size+1+1+1+1+1 < w2.heap.size:=(M3.out.nth 0 rfl).1
     have co0:w2.cell? ⟨w.heap.size+1+1+1+1+1,0,none⟩=some (.float .f64 (O 1).lo):=(M3.out.nth 0 rfl).2.1 0
     have co1:w2.cell? ⟨w.heap.size+1+1+1+1+1,1,none⟩=some (.float .f64 (O 1).hi):=(M3.out.nth 0 rfl).2.1 1
     have fo:∀ i,w2.frozen? ⟨w.heap.size+1+1+1+1+1,i,none⟩=false:=(M3.out.nth 0 rfl).2.2
     have zr:w.heap.size+1+1 < w2.heap.size:=(M3.out.nth 3 rfl).1
     have cr0:w2.cell? ⟨w.heap.size+1+1,0,none⟩=some (.float .f64 0):=(M3.out.nth 3 rfl).2.1 0
     have cr1:w2.cell? ⟨w.heap.size+1+1,1,none⟩=some (.float .f64 0):=(M3.out.nth 3 rfl).2.1 1
     have fr:∀ i,w2.frozen? ⟨w.heap.size+1+1,i,none⟩=false:=(M3.out.nth 3 rfl).2.2
     have zp:=M3.out.cal.1
     have cp:=M3.out.cal.cell1
     have np:¬ pb=w2.heap.size:=by omega
     have np':¬ w2.heap.size=pb:=by omega
     have no:¬ w.heap.size+1+1+1+1+1=w2.heap.size:=by omega
     have no':¬ w2.heap.size=w.heap.size+1+1+1+1+1:=by omega
     have nr:¬ w.heap.size+1+1=w2.heap.size:=by omega
     by_cases he:(r 1).e=0
     · have he':((r 1).e != 0)=false:=by rw [he]; rfl
       have M4:=Lib.hid (M3.out.below (bel1 _ (.cells #[.float .f64 (r 1).lo,.float .f64 (r 1).hi] 31)))
       rw [he] at M4
       go_wp2_with fail
       refine (cH1.out k0 he _).mono ?_
       rintro rr w3 ⟨rfl,hb⟩
       have M5:=Lib.hid (M4.out.below hb)
       clear hb M3 M4 zo co0 co1 fo zr cr0 cr1 fr zp cp np np' no no' nr
       have zo:w.heap.size+1+1+1+1+1 < w3.heap.size:=(M5.out.nth 0 rfl).1
       have co0:w3.cell? ⟨w.heap.size+1+1+1+1+1,0,none⟩=some (.float .f64 (O 1).lo):=(M5.out.nth 0 rfl).2.1 0
       have co1:w3.cell? ⟨w.heap.size+1+1+1+1+1,1,none⟩=some (.float .f64 (O 1).hi):=(M5.out.nth 0 rfl).2.1 1
       have fo:∀ i,w3.frozen? ⟨w.heap.size+1+1+1+1+1,i,none⟩=false:=(M5.out.nth 0 rfl).2.2
       have M6:=Lib.hid (M5.out.set_two (k:=fourL w al ah bl bh (O 2).lo (O 2).hi) (M5.out.nth 0 rfl) (M5.out.ne 0 rfl) (M5.out.from_ 0 rfl) (.float .f64 (O 2).lo) (.float .f64 (O 2).hi) (fourL_set w al ah bl bh _ _ _ _))
       go_wp2_with fail
       go_roundw
       case rel=>exact Or.inr (Or.inr (Or.inl ⟨rfl,k0,he,M6.out⟩))
       case measure=>simp [intOf]
     · have hS:fourR r O=⟨(r 1).e,0,0⟩:=by unfold fourR; simp only [k0,if_true,if_neg he]
       have he':((r 1).e != 0)=true:=by simpa using he
       have K0:=fun x' y' c t=>(meet_cells (M3.out.nth 3 rfl) x' y' c t).1
       have K1:=fun x' y' c t=>(meet_cells (M3.out.nth 3 rfl) x' y' c t).2
       go_wp2
       rw [hS]
       exact bodyPost_ret (v:=.agg #[.float .f64 0,.float .f64 0]) (by simp [results,Tryz.results92,go_sem,K0,K1]) rfl ⟨rfl,alloc_put M3.out (q:=w.heap.size+1+1) (by omega) _ _ _ _⟩
   · have M:=Lib.hid hM
     clear hM
     have zo:w.heap.size+1+1+1+1+1 < wr.heap.size:=(M.out.nth 0 rfl).1
     have co0:wr.cell? ⟨w.heap.size+1+1+1+1+1,0,none⟩=some (.float .f64 (O 2).lo):=(M.out.nth 0 rfl).2.1 0
     have co1:wr.cell? ⟨w.heap.size+1+1+1+1+1,1,none⟩=some (.float .f64 (O 2).hi):=(M.out.nth 0 rfl).2.1 1
     have fo:∀ i,wr.frozen? ⟨w.heap.size+1+1+1+1+1,i,none⟩=false:=(M.out.nth 0 rfl).2.2
     have zy:w.heap.size+1+1+1+1 < wr.heap.size:=(M.out.nth 1 rfl).1
     have cy0:wr.cell? ⟨w.heap.size+1+1+1+1,0,none⟩=some (.float .f64 bl):=(M.out.nth 1 rfl).2.1 0
     have cy1:wr.cell? ⟨w.heap.size+1+1+1+1,1,none⟩=some (.float .f64 bh):=(M.out.nth 1 rfl).2.1 1
     have cy2:wr.cell? ⟨w.heap.size+1+1+1+1,2,none⟩=some (.float .f64 bl):=(M.out.nth 1 rfl).2.1 2
     have cy3:wr.cell? ⟨w.heap.size+1+1+1+1,3,none⟩=some (.float .f64 bh):=(M.out.nth 1 rfl).2.1 3
     have zx:w.heap.size+1+1+1 < wr.heap.size:=(M.out.nth 2 rfl).1
     have cx0:wr.cell? ⟨w.heap.size+1+1+1,0,none⟩=some (.float .f64 al):=(M.out.nth 2 rfl).2.1 0
     have cx1:wr.cell? ⟨w.heap.size+1+1+1,1,none⟩=some (.float .f64 al):=(M.out.nth 2 rfl).2.1 1
     have cx2:wr.cell? ⟨w.heap.size+1+1+1,2,none⟩=some (.float .f64 ah):=(M.out.nth 2 rfl).2.1 2
     have cx3:wr.cell? ⟨w.heap.size+1+1+1,3,none⟩=some (.float .f64 ah):=(M.out.nth 2 rfl).2.1 3
     have zr:w.heap.size+1+1 < wr.heap.size:=(M.out.nth 3 rfl).1
     have cr0:wr.cell? ⟨w.heap.size+1+1,0,none⟩=some (.float .f64 0):=(M.out.nth 3 rfl).2.1 0
     have cr1:wr.cell? ⟨w.heap.size+1+1,1,none⟩=some (.float .f64 0):=(M.out.nth 3 rfl).2.1 1
     have fr:∀ i,wr.frozen? ⟨w.heap.size+1+1,i,none⟩=false:=(M.out.nth 3 rfl).2.2
     have zp:=M.out.cal.1
     go_upto_region 10 with fail
     have M1:=Lib.hid M.out.drew
     go_region_held3 (fun w'=>w'.cell? ⟨w.heap.size+1+1+1,2,none⟩=some (.float .f64 ah)∧w'.cell? ⟨w.heap.size+1+1+1+1,2,none⟩=some (.float .f64 bl)) (go_keep)
       (first
         | (go_at_call 136; (with_reducible refine (l2.out _).mono ?_); rintro rr w5 ⟨rfl,rfl⟩))
     go_upto_region 11 with fail
     have M2:=Lib.hid M1.out.drew
     go_region_held3 (fun w'=>w'.cell? ⟨w.heap.size+1+1+1,2,none⟩=some (.float .f64 ah)∧w'.cell? ⟨w.heap.size+1+1+1+1,2,none⟩=some (.float .f64 bl)) (go_keep)
       (first
         | (go_at_call 136; (with_reducible refine (h2.out _).mono ?_); rintro rr w5 ⟨rfl,rfl⟩))
     go_wp2_with fail
     refine (cK.out 2 (by decide) _ M2.out.cal).mono ?_
     rintro rr w2 hT
     obtain⟨rfl,hp⟩:=hT.open
     have M3:=Lib.hid (M2.out.putc hp)
     clear hp hT M M1 M2 zo co0 co1 fo zy cy0 cy1 cy2 cy3 zx cx0 cx1 cx2 cx3 zr cr0 cr1 fr zp
     have zo:w.heap.size+1+1+1+1+1 < w2.heap.size:=(M3.out.nth 0 rfl).1
     have co0:w2.cell? ⟨w.heap.size+1+1+1+1+1,0,none⟩=some (.float .f64 (O 2).lo):=(M3.out.nth 0 rfl).2.1 0
     have co1:w2.cell? ⟨w.heap.size+1+1+1+1+1,1,none⟩=some (.float .f64 (O 2).hi):=(M3.out.nth 0 rfl).2.1 1
     have fo:∀ i,w2.frozen? ⟨w.heap.size+1+1+1+1+1,i,none⟩=false:=(M3.out.nth 0 rfl).2.2
     have zr:w.heap.size+1+1 < w2.heap.size:=(M3.out.nth 3 rfl).1
     have cr0:w2.cell? ⟨w.heap.size+1+1,0,none⟩=some (.float .f64 0):=(M3.out.nth 3 rfl).2.1 0
     have cr1:w2.cell? ⟨w.heap.size+1+1,1,none⟩=some (.float .f64 0):=(M3.out.nth 3 rfl).2.1 1
     have fr:∀ i,w2.frozen? ⟨w.heap.size+1+1,i,none⟩=false:=(M3.out.nth 3 rfl).2.2
     have zp:=M3.out.cal.1
     have cp:=M3.out.cal.cell1
     have np:¬ pb=w2.heap.size:=by omega
     have np':¬ w2.heap.size=pb:=by omega
     have no:¬ w.heap.size+1+1+1+1+1=w2.heap.size:=by omega
     have no':¬ w2.heap.size=w.heap.size+1+1+1+1+1:=by omega
     have nr:¬ w.heap.size+1+1=w2.heap.size:=by omega
     by_cases he:(r 2).e=0
     · have he':((r 2).e != 0)=false:=by rw [he]; rfl
       have M4:=Lib.hid (M3.out.below (bel1 _ (.cells #[.float .f64 (r 2).lo,.float .f64 (r 2).hi] 31)))
       rw [he] at M4
       go_wp2_with fail
       refine (cH2.out k0 k1 he _).mono ?_
       rintro rr w3 ⟨rfl,hb⟩
       have M5:=Lib.hid (M4.out.below hb)
       clear hb M3 M4 zo co0 co1 fo zr cr0 cr1 fr zp cp np np' no no' nr
       have zo:w.heap.size+1+1+1+1+1 < w3.heap.size:=(M5.out.nth 0 rfl).1
       have co0:w3.cell? ⟨w.heap.size+1+1+1+1+1,0,none⟩=some (.float .f64 (O 2).lo):=(M5.out.nth 0 rfl).2.1 0
       have co1:w3.cell? ⟨w.heap.size+1+1+1+1+1,1,none⟩=some (.float .f64 (O 2).hi):=(M5.out.nth 0 rfl).2.1 1
       have fo:∀ i,w3.frozen? ⟨w.heap.size+1+1+1+1+1,i,none⟩=false:=(M5.out.nth 0 rfl).2.2
       have M6:=Lib.hid (M5.out.set_two (k:=fourL w al ah bl bh (O 3).lo (O 3).hi) (M5.out.nth 0 rfl) (M5.out.ne 0 rfl) (M5.out.from_ 0 rfl) (.float .f64 (O 3).lo) (.float .f64 (O 3).hi) (fourL_set w al ah bl bh _ _ _ _))
       go_wp2_with fail
       go_roundw
       case rel=>exact Or.inr (Or.inr (Or.inr (Or.inl ⟨rfl,k0,k1,he,M6.out⟩)))
       case measure=>simp [intOf]
     · have hS:fourR r O=⟨(r 2).e,0,0⟩:=by unfold fourR; simp only [k0,k1,if_true,if_neg he]
       have he':((r 2).e != 0)=true:=by simpa using he
       have K0:=fun x' y' c t=>(meet_cells (M3.out.nth 3 rfl) x' y' c t).1
       have K1:=fun x' y' c t=>(meet_cells (M3.out.nth 3 rfl) x' y' c t).2
       go_wp2
       rw [hS]
       exact bodyPost_ret (v:=.agg #[.float .f64 0,.float .f64 0]) (by simp [results,Tryz.results92,go_sem,K0,K1]) rfl ⟨rfl,alloc_put M3.out (q:=w.heap.size+1+1) (by omega) _ _ _ _⟩
   · have M:=Lib.hid hM
     clear hM
     have zo:w.heap.size+1+1+1+1+1 < wr.heap.size:=(M.out.nth 0 rfl).1
     have co0:wr.cell? ⟨w.heap.size+1+1+1+1+1,0,none⟩=some (.float .f64 (O 3).lo):=(M.out.nth 0 rfl).2.1 0
     have co1:wr.cell? ⟨w.heap.size+1+1+1+1+1,1,none⟩=some (.float .f64 (O 3).hi):=(M.out.nth 0 rfl).2.1 1
     have fo:∀ i,wr.frozen? ⟨w.heap.size+1+1+1+1+1,i,none⟩=false:=(M.out.nth 0 rfl).2.2
     have zy:w.heap.size+1+1+1+1 < wr.heap.size:=(M.out.nth 1 rfl).1
     have cy0:wr.cell? ⟨w.heap.size+1+1+1+1,0,none⟩=some (.float .f64 bl):=(M.out.nth 1 rfl).2.1 0
     have cy1:wr.cell? ⟨w.heap.size+1+1+1+1,1,none⟩=some (.float .f64 bh):=(M.out.nth 1 rfl).2.1 1
     have cy2:wr.cell? ⟨w.heap.size+1+1+1+1,2,none⟩=some (.float .f64 bl):=(M.out.nth 1 rfl).2.1 2
     have cy3:wr.cell? ⟨w.heap.size+1+1+1+1,3,none⟩=some (.float .f64 bh):=(M.out.nth 1 rfl).2.1 3
     have zx:w.heap.size+1+1+1 < wr.heap.size:=(M.out.nth 2 rfl).1
     have cx0:wr.cell? ⟨w.heap.size+1+1+1,0,none⟩=some (.float .f64 al):=(M.out.nth 2 rfl).2.1 0
     have cx1:wr.cell? ⟨w.heap.size+1+1+1,1,none⟩=some (.float .f64 al):=(M.out.nth 2 rfl).2.1 1
     have cx2:wr.cell? ⟨w.heap.size+1+1+1,2,none⟩=some (.float .f64 ah):=(M.out.nth 2 rfl).2.1 2
     have cx3:wr.cell? ⟨w.heap.size+1+1+1,3,none⟩=some (.float .f64 ah):=(M.out.nth 2 rfl).2.1 3
     have zr:w.heap.size+1+1 < wr.heap.size:=(M.out.nth 3 rfl).1
     have cr0:wr.cell? ⟨w.heap.size+1+1,0,none⟩=some (.float .f64 0):=(M.out.nth 3 rfl).2.1 0
     have cr1:wr.cell? ⟨w.heap.size+1+1,1,none⟩=some (.float .f64 0):=(M.out.nth 3 rfl).2.1 1
     have fr:∀ i,wr.frozen? ⟨w.heap.size+1+1,i,none⟩=false:=(M.out.nth 3 rfl).2.2
     have zp:=M.out.cal.1
     go_upto_region 10 with fail
     have M1:=Lib.hid M.out.drew
     go_region_held3 (fun w'=>w'.cell? ⟨w.heap.size+1+1+1,3,none⟩=some (.float .f64 ah)∧w'.cell? ⟨w.heap.size+1+1+1+1,3,none⟩=some (.float .f64 bh)) (go_keep)
       (first
         | (go_at_call 136; (with_reducible refine (l3.out _).mono ?_); rintro rr w5 ⟨rfl,rfl⟩))
     go_upto_region 11 with fail
     have M2:=Lib.hid M1.out.drew
     go_region_held3 (fun w'=>w'.cell? ⟨w.heap.size+1+1+1,3,none⟩=some (.float .f64 ah)∧w'.cell? ⟨w.heap.size+1+1+1+1,3,none⟩=some (.float .f64 bh)) (go_keep)
       (first
         | (go_at_call 136; (with_reducible refine (h3.out _).mono ?_); rintro rr w5 ⟨rfl,rfl⟩))
     go_wp2_with fail
     refine (cK.out 3 (by decide) _ M2.out.cal).mono ?_
     rintro rr w2 hT
     obtain⟨rfl,hp⟩:=hT.open
     have M3:=Lib.hid (M2.out.putc hp)
     clear hp hT M M1 M2 zo co0 co1 fo zy cy0 cy1 cy2 cy3 zx cx0 cx1 cx2 cx3 zr cr0 cr1 fr zp
     have zo:w.heap.size+1+1+1+1+1 < w2.heap.size:=(M3.out.nth 0 rfl).1
     have co0:w2.cell? ⟨w.heap.size+1+1+1+1+1,0,none⟩=some (.float .f64 (O 3).lo):=(M3.out.nth 0 rfl).2.1 0
     have co1:w2.cell? ⟨w.heap.size+1+1+1+1+1,1,none⟩=some (.float .f64 (O 3).hi):=(M3.out.nth 0 rfl).2.1 1
     have fo:∀ i,w2.frozen? ⟨w.heap.size+1+1+1+1+1,i,none⟩=false:=(M3.out.nth 0 rfl).2.2
     have zr:w.heap.size+1+1 < w2.heap.size:=(M3.out.nth 3 rfl).1
     have cr0:w2.cell? ⟨w.heap.size+1+1,0,none⟩=some (.float .f64 0):=(M3.out.nth 3 rfl).2.1 0
     have cr1:w2.cell? ⟨w.heap.size+1+1,1,none⟩=some (.float .f64 0):=(M3.out.nth 3 rfl).2.1 1
     have fr:∀ i,w2.frozen? ⟨w.heap.size+1+1,i,none⟩=false:=(M3.out.nth 3 rfl).2.2
     have zp:=M3.out.cal.1
     have cp:=M3.out.cal.cell1
     have np:¬ pb=w2.heap.size:=by omega
     have np':¬ w2.heap.size=pb:=by omega
     have no:¬ w.heap.size+1+1+1+1+1=w2.heap.size:=by omega
     have no':¬ w2.heap.size=w.heap.size+1+1+1+1+1:=by omega
     have nr:¬ w.heap.size+1+1=w2.heap.size:=by omega
     by_cases he:(r 3).e=0
     · have he':((r 3).e != 0)=false:=by rw [he]; rfl
       have M4:=Lib.hid (M3.out.below (bel1 _ (.cells #[.float .f64 (r 3).lo,.float .f64 (r 3).hi] 31)))
       rw [he] at M4
       go_wp2_with fail
       refine (cH3.out k0 k1 k2 he _).mono ?_
       rintro rr w3 ⟨rfl,hb⟩
       have M5:=Lib.hid (M4.out.below hb)
       clear hb M3 M4 zo co0 co1 fo zr cr0 cr1 fr zp cp np np' no no' nr
       have zo:w.heap.size+1+1+1+1+1 < w3.heap.size:=(M5.out.nth 0 rfl).1
       have co0:w3.cell? ⟨w.heap.size+1+1+1+1+1,0,none⟩=some (.float .f64 (O 3).lo):=(M5.out.nth 0 rfl).2.1 0
       have co1:w3.cell? ⟨w.heap.size+1+1+1+1+1,1,none⟩=some (.float .f64 (O 3).hi):=(M5.out.nth 0 rfl).2.1 1
       have fo:∀ i,w3.frozen? ⟨w.heap.size+1+1+1+1+1,i,none⟩=false:=(M5.out.nth 0 rfl).2.2
       have M6:=Lib.hid (M5.out.set_two (k:=fourL w al ah bl bh (O 4).lo (O 4).hi) (M5.out.nth 0 rfl) (M5.out.ne 0 rfl) (M5.out.from_ 0 rfl) (.float .f64 (O 4).lo) (.float .f64 (O 4).hi) (fourL_set w al ah bl bh _ _ _ _))
       go_wp2_with fail
       go_roundw
       case rel=>exact Or.inr (Or.inr (Or.inr (Or.inr (⟨rfl,k0,k1,k2,he,M6.out⟩))))
       case measure=>simp [intOf]
     · have hS:fourR r O=⟨(r 3).e,0,0⟩:=by unfold fourR; simp only [k0,k1,k2,if_true,if_neg he]
       have he':((r 3).e != 0)=true:=by simpa using he
       have K0:=fun x' y' c t=>(meet_cells (M3.out.nth 3 rfl) x' y' c t).1
       have K1:=fun x' y' c t=>(meet_cells (M3.out.nth 3 rfl) x' y' c t).2
       go_wp2
       rw [hS]
       exact bodyPost_ret (v:=.agg #[.float .f64 0,.float .f64 0]) (by simp [results,Tryz.results92,go_sem,K0,K1]) rfl ⟨rfl,alloc_put M3.out (q:=w.heap.size+1+1) (by omega) _ _ _ _⟩
   · have M:=Lib.hid hM
     clear hM
     have zo:w.heap.size+1+1+1+1+1 < wr.heap.size:=(M.out.nth 0 rfl).1
     have co0:wr.cell? ⟨w.heap.size+1+1+1+1+1,0,none⟩=some (.float .f64 (O 4).lo):=(M.out.nth 0 rfl).2.1 0
     have co1:wr.cell? ⟨w.heap.size+1+1+1+1+1,1,none⟩=some (.float .f64 (O 4).hi):=(M.out.nth 0 rfl).2.1 1
     have fo:∀ i,wr.frozen? ⟨w.heap.size+1+1+1+1+1,i,none⟩=false:=(M.out.nth 0 rfl).2.2
     have zr:w.heap.size+1+1 < wr.heap.size:=(M.out.nth 3 rfl).1
     have cr0:wr.cell? ⟨w.heap.size+1+1,0,none⟩=some (.float .f64 0):=(M.out.nth 3 rfl).2.1 0
     have cr1:wr.cell? ⟨w.heap.size+1+1,1,none⟩=some (.float .f64 0):=(M.out.nth 3 rfl).2.1 1
     have fr:∀ i,wr.frozen? ⟨w.heap.size+1+1,i,none⟩=false:=(M.out.nth 3 rfl).2.2
     have hS:fourR r O=⟨0,(O 4).lo,(O 4).hi⟩:=by unfold fourR; simp only [k0,k1,k2,k3,if_true]
     go_wp2
     rw [hS]
     exact bodyPost_ret (v:=.agg #[.float .f64 (O 4).lo,.float .f64 (O 4).hi]) (by simp [results,Tryz.results92,go_sem,cr0,cr1]) rfl ⟨rfl,M.out.fin (q:=w.heap.size+1+1) (by omega) _ _⟩
end
section
open Go.RowKit
attribute [local go_sem] run_store_float
def outR (r:Nat→Res):Nat→Res
 | 0=>⟨0,0,0⟩
 | 1=>⟨0,minW (r 0).lo (r 0).lo,maxW (r 0).hi (r 0).hi⟩
 | k+2=>⟨0,minW (outR r (k+1)).lo (r (k+1)).lo,maxW (outR r (k+1)).hi (r (k+1)).hi⟩
def Word (x:Nat):Prop:=x < 18446744073709551616∧rightB x=true
theorem Word.min {a b:Nat} (ha:Word a) (hb:Word b):Word (minW a b):=by unfold minW; split <;> assumption
theorem Word.max {a b:Nat} (ha:Word a) (hb:Word b):Word (maxW a b):=by unfold maxW; split <;> assumption
theorem val_minW (a b:Nat):val (minW a b)=min (val a) (val b):=by unfold minW; split <;> omega
theorem val_maxW (a b:Nat):val (maxW a b)=max (val a) (val b):=by unfold maxW; split <;> omega
theorem minW_self (a:Nat):minW a a=a:=by unfold minW; split <;> rfl
theorem maxW_self (a:Nat):maxW a a=a:=by unfold maxW; split <;> rfl
theorem four_is {r:Nat→Res} {R:Res} (hr:∀ k,k < 4→(r k).e=0∨r k=⟨10,0,0⟩) (hn:∀ k,k < 4→(r k).e=0→Word (r k).lo∧Word (r k).hi)
   (hW:R.e=0→∀ k,k < 4→(r k).e=0∧val R.lo≤val (r k).lo∧val (r k).hi≤val R.hi) (hC:R.e=0→(∃ k,k < 4∧R.lo=(r k).lo)∧∃ k,k < 4∧R.hi=(r k).hi)
   (hR:R.e≠0→R=⟨10,0,0⟩∧∃ k,k < 4∧(r k).e≠0):fourR r (outR r)=R:=by
 by_cases he:R.e=0
 · have w0:=hW he 0 (by decide)
   have w1:=hW he 1 (by decide)
   have w2:=hW he 2 (by decide)
   have w3:=hW he 3 (by decide)
   have n0:=hn 0 (by decide) w0.1
   have n1:=hn 1 (by decide) w1.1
   have n2:=hn 2 (by decide) w2.1
   have n3:=hn 3 (by decide) w3.1
   obtain⟨⟨j,hj,ej⟩,⟨i,hi,ei⟩⟩:=hC he
   have e:fourR r (outR r)=⟨0,(outR r 4).lo,(outR r 4).hi⟩:=by
     unfold fourR
     rw [if_pos w0.1,if_pos w1.1,if_pos w2.1,if_pos w3.1]
   have elo:(outR r 4).lo=minW (minW (minW (r 0).lo (r 1).lo) (r 2).lo) (r 3).lo:=by
     show minW (minW (minW (minW (r 0).lo (r 0).lo) (r 1).lo) (r 2).lo) (r 3).lo=_
     rw [minW_self]
   have ehi:(outR r 4).hi=maxW (maxW (maxW (r 0).hi (r 1).hi) (r 2).hi) (r 3).hi:=by
     show maxW (maxW (maxW (maxW (r 0).hi (r 0).hi) (r 1).hi) (r 2).hi) (r 3).hi=_
     rw [maxW_self]
   have q1:(outR r 4).lo=R.lo:=by
     have wl:=((n0.1.min n1.1).min n2.1).min n3.1
     rw [←elo] at wl
     have wr:Word R.lo:=by
       rw [ej]
       rcases (show j=0∨j=1∨j=2∨j=3 by omega) with rfl | rfl | rfl | rfl
       · exact n0.1
       · exact n1.1
       · exact n2.1
       · exact n3.1
     refine val_inj wl.1 wr.1 wl.2 wr.2 ?_
     rw [elo,val_minW,val_minW,val_minW]
     rcases (show j=0∨j=1∨j=2∨j=3 by omega) with rfl | rfl | rfl | rfl <;> rw [ej] at w0 w1 w2 w3 ⊢ <;> omega
   have q2:(outR r 4).hi=R.hi:=by
     have wl:=((n0.2.max n1.2).max n2.2).max n3.2
     rw [←ehi] at wl
     have wr:Word R.hi:=by
       rw [ei]
       rcases (show i=0∨i=1∨i=2∨i=3 by omega) with rfl | rfl | rfl | rfl
       · exact n0.2
       · exact n1.2
       · exact n2.2
       · exact n3.2
     refine val_inj wl.1 wr.1 wl.2 wr.2 ?_
     rw [ehi,val_maxW,val_maxW,val_maxW]
     rcases (show i=0∨i=1∨i=2∨i=3 by omega) with rfl | rfl | rfl | rfl <;> rw [ei] at w0 w1 w2 w3 ⊢ <;> omega
   rw [e,q1,q2,←he]
 · obtain⟨h1,k,hk,h2⟩:=hR he
   rw [h1]
   unfold fourR
   have f:∀ k,k < 4→(r k).e≠0→(r k).e=10:=fun k hk h=>by
     rcases hr k hk with g | g
     · exact absurd g h
     · rw [g]
   by_cases g0:(r 0).e=0
   · rw [if_pos g0]
     by_cases g1:(r 1).e=0
     · rw [if_pos g1]
       by_cases g2:(r 2).e=0
       · rw [if_pos g2]
         by_cases g3:(r 3).e=0
         · exfalso
           rcases (show k=0∨k=1∨k=2∨k=3 by omega) with rfl | rfl | rfl | rfl <;> exact absurd (by assumption) h2
         · rw [if_neg g3,f 3 (by decide) g3]
       · rw [if_neg g2,f 2 (by decide) g2]
     · rw [if_neg g1,f 1 (by decide) g1]
   · rw [if_neg g0,f 0 (by decide) g0]
theorem down_e {s:Nat} {T:Int} {c:Nat} {e:Int} (h:Down s T c e):e=0∨(e=10∧c=0):=by
 rcases h with ⟨h,_⟩ | ⟨h,g,_⟩
 · exact Or.inl h
 · exact Or.inr ⟨h,g⟩
theorem up_e {s:Nat} {T:Int} {c:Nat} {e:Int} (h:Up s T c e):e=0∨(e=10∧c=0):=by
 rcases h with ⟨h,_⟩ | ⟨h,g,_⟩
 · exact Or.inl h
 · exact Or.inr ⟨h,g⟩
theorem tight_form {lo hi:Nat} {e f:Int} (he:e=0∨e=10) (hf:f=0∨f=10):(tightR lo e hi f).e=0∨tightR lo e hi f=⟨10,0,0⟩:=by
 unfold tightR
 rcases he with rfl | rfl
 · rcases hf with rfl | rfl
   · exact Or.inl rfl
   · exact Or.inr rfl
 · exact Or.inr rfl
theorem mul_e (a b:Nat) (ra:rightB a=true) (rb:rightB b=true) (up:Bool):mulE a b up=0∨mulE a b up=10:=by
 cases up
 · rcases down_e ((mul_dir a b ra rb false).1 rfl) with h | h
   · exact Or.inl h
   · exact Or.inr h.1
 · rcases up_e ((mul_dir a b ra rb true).2 rfl) with h | h
   · exact Or.inl h
   · exact Or.inr h.1
theorem div_e (a b:Nat) (ra:rightB a=true) (rb:rightB b=true) (lb:b < 18446744073709551616) (b0:b≠0) (up:Bool):divE a b up=0∨divE a b up=10:=by
 cases up
 · rcases down_e ((div_dir a b ra rb lb b0 false).1 rfl) with h | h
   · exact Or.inl h
   · exact Or.inr h.1
 · rcases up_e ((div_dir a b ra rb lb b0 true).2 rfl) with h | h
   · exact Or.inl h
   · exact Or.inr h.1
def fourX (al ah:Nat):Nat→Nat | 0=>al | 1=>al | 2=>ah | _=>ah
def fourY (bl bh:Nat):Nat→Nat | 0=>bl | 1=>bh | 2=>bl | _=>bh
def pointM (x y:Nat):Res:=tightR (mulW x y false) (mulE x y false) (mulW x y true) (mulE x y true)
def pointD (x y:Nat):Res:=tightR (divW x y false) (divE x y false) (divW x y true) (divE x y true)
theorem pairZ_in (al ah bl bh u v:Nat) (hu:u=al∨u=ah) (hv:v=bl∨v=bh):∃ k,k < 4∧fourX al ah k=u∧fourY bl bh k=v:=by
 rcases hu with rfl | rfl <;> rcases hv with rfl | rfl
 · exact ⟨0,by decide,rfl,rfl⟩
 · exact ⟨1,by decide,rfl,rfl⟩
 · exact ⟨2,by decide,rfl,rfl⟩
 · exact ⟨3,by decide,rfl,rfl⟩
def OfEnds (P:Nat→Nat→Res) (al ah bl bh:Nat) (R:Res):Prop:=
 (R.e=0→(∃ u v,(u=al∨u=ah)∧(v=bl∨v=bh)∧((P u v).e=0→R.lo=(P u v).lo))∧∃ u v,(u=al∨u=ah)∧(v=bl∨v=bh)∧((P u v).e=0→R.hi=(P u v).hi)) ∧
 (R.e≠0→R=⟨10,0,0⟩∧∃ u v,(u=al∨u=ah)∧(v=bl∨v=bh)∧(P u v).e≠0)
theorem tight_lo {lo hi:Nat} {e f:Int} (h:(tightR lo e hi f).e=0):(tightR lo e hi f).lo=lo∧(tightR lo e hi f).hi=hi:=by
 obtain⟨_,_,h3⟩:=tight_e h
 rw [h3]; exact ⟨rfl,rfl⟩
theorem tight_bad {lo hi:Nat} {e f:Int} (h:e≠0∨f≠0):(tightR lo e hi f).e≠0:=fun g=>by
 obtain⟨h1,h2,_⟩:=tight_e g
 rcases h with h | h
 · exact h h1
 · exact h h2
theorem low_in (al ah bl:Nat):lowOf al ah bl=al∨lowOf al ah bl=ah:=by unfold lowOf; split <;> simp
theorem high_in (al ah bl:Nat):highOf al ah bl=al∨highOf al ah bl=ah:=by unfold highOf; split <;> simp
theorem ends_in (bl bh:Nat) (u:Bool):endW bl bh u=bl∨endW bl bh u=bh:=by unfold endW; split <;> simp
theorem ends_mul1 (al ah bl bh:Nat) (a1:rightB al=true) (a2:rightB ah=true) (b1:rightB bl=true) (b2:rightB bh=true):OfEnds pointM al ah bl bh (mul1 al ah bl bh):=by
 have rr:∀ u,(u=al∨u=ah)→rightB u=true:=fun u h=>by rcases h with rfl | rfl <;> assumption
 have ss:∀ u,(u=bl∨u=bh)→rightB u=true:=fun u h=>by rcases h with rfl | rfl <;> assumption
 unfold mul1
 obtain⟨x,hx⟩:∃ x,x=lowOf al ah bl:=⟨_,rfl⟩
 obtain⟨y,hy⟩:∃ y,y=endW bl bh (ltB (lowOf al ah bl) 0):=⟨_,rfl⟩
 obtain⟨z,hz⟩:∃ z,z=highOf al ah bl:=⟨_,rfl⟩
 obtain⟨t,ht⟩:∃ t,t=endW bl bh (leB 0 (highOf al ah bl)):=⟨_,rfl⟩
 have x1:x=al∨x=ah:=by rw [hx]; exact low_in al ah bl
 have y1:y=bl∨y=bh:=by rw [hy]; exact ends_in bl bh _
 have z1:z=al∨z=ah:=by rw [hz]; exact high_in al ah bl
 have t1:t=bl∨t=bh:=by rw [ht]; exact ends_in bl bh _
 rw [←hy,←ht,←hx,←hz]
 refine ⟨fun h=>?_,fun h=>?_⟩
 · obtain⟨g1,g2⟩:=tight_lo h
   rw [g1,g2]
   exact ⟨⟨x,y,x1,y1,fun k=>(tight_lo k).1.symm⟩,⟨z,t,z1,t1,fun k=>(tight_lo k).2.symm⟩⟩
 · rcases tight_form (lo:=mulW x y false) (hi:=mulW z t true) (mul_e x y (rr x x1) (ss y y1) false) (mul_e z t (rr z z1) (ss t t1) true) with g | g
   · exact absurd g h
   · refine ⟨g,?_⟩
     by_cases k:mulE x y false=0
     · by_cases k2:mulE z t true=0
       · rw [k,k2] at h
         exact absurd rfl h
       · exact ⟨z,t,z1,t1,tight_bad (Or.inr k2)⟩
     · exact ⟨x,y,x1,y1,tight_bad (Or.inl k)⟩
theorem pointM_swap (x y:Nat):pointM x y=pointM y x:=by
 have h:∀ up,mulW x y up=mulW y x up∧mulE x y up=mulE y x up:=fun up=>by
   unfold mulW mulE
   rw [Bool.and_comm,Nat.mul_comm (mant x),Int.add_comm (expo x),Bool.beq_comm]
   exact ⟨rfl,rfl⟩
 unfold pointM
 rw [(h false).1,(h false).2,(h true).1,(h true).2]
theorem OfEnds.swap {al ah bl bh:Nat} {R:Res} (h:OfEnds pointM bl bh al ah R):OfEnds pointM al ah bl bh R:=by
 refine ⟨fun g=>?_,fun g=>?_⟩
 · obtain⟨⟨u,v,hu,hv,k⟩,⟨u',v',hu',hv',k'⟩⟩:=h.1 g
   exact ⟨⟨v,u,hv,hu,by rw [pointM_swap]; exact k⟩,⟨v',u',hv',hu',by rw [pointM_swap]; exact k'⟩⟩
 · obtain⟨g1,u,v,hu,hv,k⟩:=h.2 g
   exact ⟨g1,v,u,hv,hu,by rw [pointM_swap]; exact k⟩
theorem ends_mulJ (al ah bl bh:Nat) (a1:rightB al=true) (a2:rightB ah=true) (b1:rightB bl=true) (b2:rightB bh=true):OfEnds pointM al ah bl bh (mulJ al ah bl bh):=by
 unfold mulJ
 cases crossB bl bh
 · rw [if_neg Bool.false_ne_true]
   exact ends_mul1 al ah bl bh a1 a2 b1 b2
 · rw [if_pos rfl]
   exact (ends_mul1 bl bh al ah b1 b2 a1 a2).swap
theorem point_mul (x y:Nat):mulI x x y y=pointM x y:=by
 have c:∀ x:Nat,crossB x x=false:=fun x=>by
   unfold crossB ltB
   rw [val_nil]
   by_cases h:val x < 0
   · rw [decide_eq_true h,decide_eq_false (by omega)]; rfl
   · rw [decide_eq_false h]; rfl
 have l:∀ b,lowOf x x b=x:=fun b=>by unfold lowOf; split <;> rfl
 have g:∀ b,highOf x x b=x:=fun b=>by unfold highOf; split <;> rfl
 have e:∀ u,endW y y u=y:=fun u=>by unfold endW; split <;> rfl
 unfold mulI
 rw [c,Bool.false_and,if_neg Bool.false_ne_true]
 unfold mulJ
 rw [c,if_neg Bool.false_ne_true]
 unfold mul1
 rw [l,g,e,e]
 rfl
theorem OfEnds.wide {u al ah bl bh:Nat} {R:Res} (hu:u=al∨u=ah) (h:OfEnds pointM u u bl bh R):OfEnds pointM al ah bl bh R:=by
 have f:∀ x,(x=u∨x=u)→x=al∨x=ah:=fun x hx=>by
   rcases hx with rfl | rfl <;> exact hu
 refine ⟨fun g=>?_,fun g=>?_⟩
 · obtain⟨⟨x,v,hx,hv,k⟩,⟨x',v',hx',hv',k'⟩⟩:=h.1 g
   exact ⟨⟨x,v,f x hx,hv,k⟩,⟨x',v',f x' hx',hv',k'⟩⟩
 · obtain⟨g1,x,v,hx,hv,k⟩:=h.2 g
   exact ⟨g1,x,v,f x hx,hv,k⟩
theorem OfEnds.join {P:Nat→Nat→Res} {al ah bl bh:Nat} {R S:Res} (h:OfEnds P al ah bl bh R) (k:OfEnds P al ah bl bh S):OfEnds P al ah bl bh (joinR R S):=by
 unfold joinR
 by_cases h1:R.e=0
 · rw [if_pos h1]
   by_cases h2:S.e=0
   · rw [if_pos h2]
     refine ⟨fun _=>?_,fun g=>absurd rfl g⟩
     obtain⟨A,B⟩:=h.1 h1
     obtain⟨C,D⟩:=k.1 h2
     refine ⟨?_,?_⟩
     · show ∃ u v,_∧_∧(_→minW R.lo S.lo=_)
       unfold minW; split
       · exact C
       · exact A
     · show ∃ u v,_∧_∧(_→maxW R.hi S.hi=_)
       unfold maxW; split
       · exact D
       · exact B
   · rw [if_neg h2]
     obtain⟨g1,g2⟩:=k.2 h2
     refine ⟨fun g=>absurd g h2,fun _=>⟨by rw [g1],g2⟩⟩
 · rw [if_neg h1]
   obtain⟨g1,g2⟩:=h.2 h1
   exact ⟨fun g=>absurd g h1,fun _=>⟨by rw [g1],g2⟩⟩
theorem ends_mul (al ah bl bh:Nat) (a1:rightB al=true) (a2:rightB ah=true) (b1:rightB bl=true) (b2:rightB bh=true):OfEnds pointM al ah bl bh (mulI al ah bl bh):=by
 unfold mulI
 cases (crossB al ah&&crossB bl bh)
 · rw [if_neg Bool.false_ne_true]
   exact ends_mulJ al ah bl bh a1 a2 b1 b2
 · rw [if_pos rfl]
   exact ((ends_mulJ al al bl bh a1 a1 b1 b2).wide (Or.inl rfl)).join ((ends_mulJ ah ah bl bh a2 a2 b1 b2).wide (Or.inr rfl))
theorem ivR_same (x:Nat) (rx:rightB x=true):ivR x x=true:=by
 unfold ivR leB
 rw [rx,decide_eq_true (Int.le_refl _)]; rfl
theorem four_of {P:Nat→Nat→Res} {al ah bl bh:Nat} {R:Res} (hE:OfEnds P al ah bl bh R)
   (form:∀ u v,(u=al∨u=ah)→(v=bl∨v=bh)→(P u v).e=0∨P u v=⟨10,0,0⟩) (num:∀ u v,(u=al∨u=ah)→(v=bl∨v=bh)→(P u v).e=0→Word (P u v).lo∧Word (P u v).hi)
   (win:∀ u v,(u=al∨u=ah)→(v=bl∨v=bh)→Within (P u v) R) :
   fourR (fun k=>P (fourX al ah k) (fourY bl bh k)) (outR fun k=>P (fourX al ah k) (fourY bl bh k))=R:=by
 have xin:∀ k,fourX al ah k=al∨fourX al ah k=ah:=fun k=>by
   match k with
   | 0=>exact Or.inl rfl
   | 1=>exact Or.inl rfl
   | 2=>exact Or.inr rfl
   | _+3=>exact Or.inr rfl
 have yin:∀ k,fourY bl bh k=bl∨fourY bl bh k=bh:=fun k=>by
   match k with
   | 0=>exact Or.inl rfl
   | 1=>exact Or.inr rfl
   | 2=>exact Or.inl rfl
   | _+3=>exact Or.inr rfl
 refine four_is (fun k _=>form _ _ (xin k) (yin k)) (fun k _ h=>num _ _ (xin k) (yin k) h) (fun he k _=>win _ _ (xin k) (yin k) he) (fun he=>?_) (fun he=>?_)
 · obtain⟨⟨u,v,hu,hv,k1⟩,⟨u',v',hu',hv',k2⟩⟩:=hE.1 he
   obtain⟨k,hk,ex,ey⟩:=pairZ_in al ah bl bh u v hu hv
   obtain⟨k',hk',ex',ey'⟩:=pairZ_in al ah bl bh u' v' hu' hv'
   refine ⟨⟨k,hk,?_⟩,⟨k',hk',?_⟩⟩
   · show R.lo=(P (fourX al ah k) (fourY bl bh k)).lo
     rw [ex,ey]
     exact k1 (win u v hu hv he).1
   · show R.hi=(P (fourX al ah k') (fourY bl bh k')).hi
     rw [ex',ey']
     exact k2 (win u' v' hu' hv' he).1
 · obtain⟨g1,u,v,hu,hv,k1⟩:=hE.2 he
   obtain⟨k,hk,ex,ey⟩:=pairZ_in al ah bl bh u v hu hv
   exact ⟨g1,k,hk,by show (P (fourX al ah k) (fourY bl bh k)).e≠0; rw [ex,ey]; exact k1⟩
theorem four_mul (al ah bl bh:Nat) (la:al < 18446744073709551616) (ha:ah < 18446744073709551616) (lb:bl < 18446744073709551616) (hb:bh < 18446744073709551616) (hr:ivR al ah=true) (hs:ivR bl bh=true) :
   fourR (fun k=>pointM (fourX al ah k) (fourY bl bh k)) (outR fun k=>pointM (fourX al ah k) (fourY bl bh k))=mulI al ah bl bh:=by
 obtain⟨a1,a2,a3⟩:=ivR_parts hr
 obtain⟨b1,b2,b3⟩:=ivR_parts hs
 have rr:∀ u,(u=al∨u=ah)→u < 18446744073709551616∧rightB u=true∧val al≤val u∧val u≤val ah:=fun u h=>by
   rcases h with rfl | rfl
   · exact ⟨la,a1,Int.le_refl _,a3⟩
   · exact ⟨ha,a2,a3,Int.le_refl _⟩
 have ss:∀ u,(u=bl∨u=bh)→u < 18446744073709551616∧rightB u=true∧val bl≤val u∧val u≤val bh:=fun u h=>by
   rcases h with rfl | rfl
   · exact ⟨lb,b1,Int.le_refl _,b3⟩
   · exact ⟨hb,b2,b3,Int.le_refl _⟩
 refine four_of (ends_mul al ah bl bh a1 a2 b1 b2) (fun u v hu hv=>?_) (fun u v hu hv h=>?_) (fun u v hu hv=>?_)
 · exact tight_form (mul_e u v (rr u hu).2.1 (ss v hv).2.1 false) (mul_e u v (rr u hu).2.1 (ss v hv).2.1 true)
 · obtain⟨h1,h2,h3⟩:=tight_e h
   unfold pointM
   rw [h3]
   exact ⟨num_mul u v false h1,num_mul u v true h2⟩
 · obtain⟨u1,u2,u3,u4⟩:=rr u hu
   obtain⟨v1,v2,v3,v4⟩:=ss v hv
   rw [←point_mul]
   exact mul_within al ah bl bh u u v v la ha lb hb u1 u1 v1 v1 hr hs (ivR_same u u2) (ivR_same v v2) u3 u4 v3 v4
theorem ends_div (al ah bl bh:Nat) (a1:rightB al=true) (a2:rightB ah=true) (b1:rightB bl=true) (b2:rightB bh=true) (lb:bl < 18446744073709551616) (hb:bh < 18446744073709551616) (n1:bl≠0) (n2:bh≠0):OfEnds pointD al ah bl bh (div1 al ah bl bh):=by
 have rr:∀ u,(u=al∨u=ah)→rightB u=true:=fun u h=>by rcases h with rfl | rfl <;> assumption
 have ss:∀ u,(u=bl∨u=bh)→rightB u=true∧u < 18446744073709551616∧u≠0:=fun u h=>by
   rcases h with rfl | rfl
   · exact ⟨b1,lb,n1⟩
   · exact ⟨b2,hb,n2⟩
 unfold div1
 obtain⟨x,hx⟩:∃ x,x=lowOf al ah bl:=⟨_,rfl⟩
 obtain⟨y,hy⟩:∃ y,y=endW bl bh (leB 0 (lowOf al ah bl)):=⟨_,rfl⟩
 obtain⟨z,hz⟩:∃ z,z=highOf al ah bl:=⟨_,rfl⟩
 obtain⟨t,ht⟩:∃ t,t=endW bl bh (ltB (highOf al ah bl) 0):=⟨_,rfl⟩
 have x1:x=al∨x=ah:=by rw [hx]; exact low_in al ah bl
 have y1:y=bl∨y=bh:=by rw [hy]; exact ends_in bl bh _
 have z1:z=al∨z=ah:=by rw [hz]; exact high_in al ah bl
 have t1:t=bl∨t=bh:=by rw [ht]; exact ends_in bl bh _
 rw [←hy,←ht,←hx,←hz]
 refine ⟨fun h=>?_,fun h=>?_⟩
 · obtain⟨g1,g2⟩:=tight_lo h
   rw [g1,g2]
   exact ⟨⟨x,y,x1,y1,fun k=>(tight_lo k).1.symm⟩,⟨z,t,z1,t1,fun k=>(tight_lo k).2.symm⟩⟩
 · rcases tight_form (lo:=divW x y false) (hi:=divW z t true) (div_e x y (rr x x1) (ss y y1).1 (ss y y1).2.1 (ss y y1).2.2 false) (div_e z t (rr z z1) (ss t t1).1 (ss t t1).2.1 (ss t t1).2.2 true) with g | g
   · exact absurd g h
   · refine ⟨g,?_⟩
     by_cases k:divE x y false=0
     · by_cases k2:divE z t true=0
       · rw [k,k2] at h
         exact absurd rfl h
       · exact ⟨z,t,z1,t1,tight_bad (Or.inr k2)⟩
     · exact ⟨x,y,x1,y1,tight_bad (Or.inl k)⟩
theorem four_div (al ah bl bh:Nat) (la:al < 18446744073709551616) (ha:ah < 18446744073709551616) (lb:bl < 18446744073709551616) (hb:bh < 18446744073709551616) (hr:ivR al ah=true) (hs:ivR bl bh=true) (hz:hasB bl bh 0=false) :
   fourR (fun k=>pointD (fourX al ah k) (fourY bl bh k)) (outR fun k=>pointD (fourX al ah k) (fourY bl bh k))=divI al ah bl bh:=by
 obtain⟨a1,a2,a3⟩:=ivR_parts hr
 obtain⟨b1,b2,b3⟩:=ivR_parts hs
 have e1:divI al ah bl bh=div1 al ah bl bh:=by unfold divI; rw [hz,if_neg Bool.false_ne_true]
 have hz':¬ (val bl≤0∧0≤val bh):=by
   rw [has_zero lb hb hs] at hz
   exact of_decide_eq_false hz
 have rr:∀ u,(u=al∨u=ah)→u < 18446744073709551616∧rightB u=true∧val al≤val u∧val u≤val ah:=fun u h=>by
   rcases h with rfl | rfl
   · exact ⟨la,a1,Int.le_refl _,a3⟩
   · exact ⟨ha,a2,a3,Int.le_refl _⟩
 have ss:∀ u,(u=bl∨u=bh)→u < 18446744073709551616∧rightB u=true∧val bl≤val u∧val u≤val bh∧u≠0:=fun u h=>by
   rcases h with rfl | rfl
   · exact ⟨lb,b1,Int.le_refl _,b3,fun h=>by
       have z0:val u=0:=by rw [h]; exact val_nil
       omega⟩
   · exact ⟨hb,b2,b3,Int.le_refl _,fun h=>by
       have z0:val u=0:=by rw [h]; exact val_nil
       omega⟩
 have n1:=(ss bl (Or.inl rfl)).2.2.2.2
 have n2:=(ss bh (Or.inr rfl)).2.2.2.2
 rw [e1]
 refine four_of (ends_div al ah bl bh a1 a2 b1 b2 lb hb n1 n2) (fun u v hu hv=>?_) (fun u v hu hv h=>?_) (fun u v hu hv=>?_)
 · obtain⟨v1,v2,_,_,v5⟩:=ss v hv
   exact tight_form (div_e u v (rr u hu).2.1 v2 v1 v5 false) (div_e u v (rr u hu).2.1 v2 v1 v5 true)
 · obtain⟨h1,h2,h3⟩:=tight_e h
   obtain⟨v1,_⟩:=ss v hv
   unfold pointD
   rw [h3]
   exact ⟨num_div u v false v1 h1,num_div u v true v1 h2⟩
 · obtain⟨u1,u2,u3,u4⟩:=rr u hu
   obtain⟨v1,v2,v3,v4,v5⟩:=ss v hv
   have p:divI u u v v=pointD u v:=by
     have l:∀ b,lowOf u u b=u:=fun b=>by unfold lowOf; split <;> rfl
     have g:∀ b,highOf u u b=u:=fun b=>by unfold highOf; split <;> rfl
     have e:∀ k,endW v v k=v:=fun k=>by unfold endW; split <;> rfl
     have hv0:hasB v v 0=false:=by
       rw [has_zero v1 v1 (ivR_same v v2)]
       exact decide_eq_false (by omega)
     unfold divI
     rw [hv0,if_neg Bool.false_ne_true]
     unfold div1
     rw [l,g,e,e]
     rfl
   rw [←p,←e1]
   exact div_within al ah bl bh u u v v lb hb v1 v1 hr hs (ivR_same u u2) (ivR_same v v2) u3 u4 v3 v4
end
section
open Go.RowKit
attribute [local go_sem] run_store_float
theorem rMul_off (e f:Int) (al ah bl bh pb:Nat) (w:World) (hc:Has1 w (pb,#[.int .i64 e]))
   (cO:Hid (∀ (v:World) (q:Nat),Has1 v (pb,#[.int .i64 e])→Has1 v (q,#[.float .f64 al,.float .f64 ah,.float .f64 bl,.float .f64 bh])→pb≠q→Calls Tryz.prog 85 #[.pointer (some ⟨pb,0,none⟩),.slice (some ⟨q,0,none⟩) 2 2] v fun r w'=>r = .returned (.bool true)∧Put ⟨pb,0,none⟩ (.int .i64 f) v w')) :
   Calls Tryz.prog 45 #[.pointer (some ⟨pb,0,none⟩),.agg #[.float .f64 al,.float .f64 ah],.agg #[.float .f64 bl,.float .f64 bh]] w (Told ⟨f,0,0⟩ pb 0 w):=by
 have E0:=RE.start hc
 replace E0:=E0.made #[.float .f64 al,.float .f64 ah] 31
 replace E0:=E0.made #[.float .f64 bl,.float .f64 bh] 31
 replace E0:=E0.made #[.float .f64 0,.float .f64 0] 31
 replace E0:=E0.made #[.float .f64 al,.float .f64 ah,.float .f64 bl,.float .f64 bh] 31
 simp only [World.size_alloc] at E0
 replace E0:=Lib.hid E0
 go_enter Tryz.func45,Tryz.ntmps45
 go_wp2_with fail
 refine (cO.out _ _ E0.out.cal (E0.out.nth 0 rfl) (E0.out.ne 0 rfl)).mono ?_
 rintro r w1 ⟨rfl,hp⟩
 have E1:=Lib.hid (E0.out.putc hp)
 clear hp E0 cO
 have zr:w.heap.size+1+1 < w1.heap.size:=(E1.out.nth 1 rfl).1
 have xr0:w1.cell? ⟨w.heap.size+1+1,0,none⟩=some (.float .f64 0):=(E1.out.nth 1 rfl).2.1 0
 have xr1:w1.cell? ⟨w.heap.size+1+1,1,none⟩=some (.float .f64 0):=(E1.out.nth 1 rfl).2.1 1
 have yr:∀ i,w1.frozen? ⟨w.heap.size+1+1,i,none⟩=false:=(E1.out.nth 1 rfl).2.2
 go_wp2
 exact bodyPost_ret (v:=.agg #[.float .f64 0,.float .f64 0]) (by simp [results,Tryz.results45,go_sem,xr0,xr1]) rfl ⟨rfl,E1.out.fin (by show w.heap.size≤w.heap.size+1+1; omega) _ _⟩
theorem rMul_on (al ah bl bh pb:Nat) (R:Res) (w:World) (hc:Has1 w (pb,#[.int .i64 0]))
   (cO:Hid (∀ (v:World) (q:Nat),Has1 v (pb,#[.int .i64 0])→Has1 v (q,#[.float .f64 al,.float .f64 ah,.float .f64 bl,.float .f64 bh])→pb≠q→Calls Tryz.prog 85 #[.pointer (some ⟨pb,0,none⟩),.slice (some ⟨q,0,none⟩) 2 2] v fun r w'=>r = .returned (.bool false)∧Put ⟨pb,0,none⟩ (.int .i64 0) v w'))
   (cF:Hid (∀ v:World,Has1 v (pb,#[.int .i64 0])→Calls Tryz.prog 92 #[.pointer (some ⟨pb,0,none⟩),.agg #[.float .f64 al,.float .f64 ah],.agg #[.float .f64 bl,.float .f64 bh],.bool false] v (Told R pb 0 v))) :
   Calls Tryz.prog 45 #[.pointer (some ⟨pb,0,none⟩),.agg #[.float .f64 al,.float .f64 ah],.agg #[.float .f64 bl,.float .f64 bh]] w (Told R pb 0 w):=by
 have E0:=RE.start hc
 replace E0:=E0.made #[.float .f64 al,.float .f64 ah] 31
 replace E0:=E0.made #[.float .f64 bl,.float .f64 bh] 31
 replace E0:=E0.made #[.float .f64 0,.float .f64 0] 31
 replace E0:=E0.made #[.float .f64 al,.float .f64 ah,.float .f64 bl,.float .f64 bh] 31
 simp only [World.size_alloc] at E0
 replace E0:=Lib.hid E0
 go_enter Tryz.func45,Tryz.ntmps45
 go_wp2_with fail
 refine (cO.out _ _ E0.out.cal (E0.out.nth 0 rfl) (E0.out.ne 0 rfl)).mono ?_
 rintro r w1 ⟨rfl,hp⟩
 have E1:=Lib.hid (E0.out.putc hp)
 clear hp E0 cO
 have zr:w.heap.size+1+1 < w1.heap.size:=(E1.out.nth 1 rfl).1
 have xr0:w1.cell? ⟨w.heap.size+1+1,0,none⟩=some (.float .f64 0):=(E1.out.nth 1 rfl).2.1 0
 have xr1:w1.cell? ⟨w.heap.size+1+1,1,none⟩=some (.float .f64 0):=(E1.out.nth 1 rfl).2.1 1
 have yr:∀ i,w1.frozen? ⟨w.heap.size+1+1,i,none⟩=false:=(E1.out.nth 1 rfl).2.2
 have zb:w.heap.size+1 < w1.heap.size:=(E1.out.nth 2 rfl).1
 have xb0:w1.cell? ⟨w.heap.size+1,0,none⟩=some (.float .f64 bl):=(E1.out.nth 2 rfl).2.1 0
 have xb1:w1.cell? ⟨w.heap.size+1,1,none⟩=some (.float .f64 bh):=(E1.out.nth 2 rfl).2.1 1
 have yb:∀ i,w1.frozen? ⟨w.heap.size+1,i,none⟩=false:=(E1.out.nth 2 rfl).2.2
 have za:w.heap.size < w1.heap.size:=(E1.out.nth 3 rfl).1
 have xa0:w1.cell? ⟨w.heap.size,0,none⟩=some (.float .f64 al):=(E1.out.nth 3 rfl).2.1 0
 have xa1:w1.cell? ⟨w.heap.size,1,none⟩=some (.float .f64 ah):=(E1.out.nth 3 rfl).2.1 1
 have ya:∀ i,w1.frozen? ⟨w.heap.size,i,none⟩=false:=(E1.out.nth 3 rfl).2.2
 go_wp2_with fail
 refine (cF.out _ E1.out.cal).mono ?_
 rintro r w2 hT
 obtain⟨rfl,hp⟩:=hT.open
 have E2:=Lib.hid (E1.out.putc hp)
 clear hp hT E1 zr xr0 xr1 yr zb xb0 xb1 yb za xa0 xa1 ya cF
 have zr:w.heap.size+1+1 < w2.heap.size:=(E2.out.nth 1 rfl).1
 have xr0:w2.cell? ⟨w.heap.size+1+1,0,none⟩=some (.float .f64 0):=(E2.out.nth 1 rfl).2.1 0
 have xr1:w2.cell? ⟨w.heap.size+1+1,1,none⟩=some (.float .f64 0):=(E2.out.nth 1 rfl).2.1 1
 have yr:∀ i,w2.frozen? ⟨w.heap.size+1+1,i,none⟩=false:=(E2.out.nth 1 rfl).2.2
 go_wp2
 exact bodyPost_ret (v:=.agg #[.float .f64 R.lo,.float .f64 R.hi]) (by simp [results,Tryz.results45,go_sem,xr0,xr1]) rfl ⟨rfl,E2.out.fin (by show w.heap.size≤w.heap.size+1+1; omega) _ _⟩
theorem num_pointM (x y:Nat) (h:(pointM x y).e=0):Word (pointM x y).lo∧Word (pointM x y).hi:=by
 obtain⟨h1,h2,h3⟩:=tight_e h
 unfold pointM
 rw [h3]
 exact ⟨num_mul x y false h1,num_mul x y true h2⟩
theorem num_pointD (x y:Nat) (ly:y < 18446744073709551616) (h:(pointD x y).e=0):Word (pointD x y).lo∧Word (pointD x y).hi:=by
 obtain⟨h1,h2,h3⟩:=tight_e h
 unfold pointD
 rw [h3]
 exact ⟨num_div x y false ly h1,num_div x y true ly h2⟩
theorem fourY_lt (bl bh:Nat) (lb:bl < 18446744073709551616) (hb:bh < 18446744073709551616) (k:Nat):fourY bl bh k < 18446744073709551616:=by
 match k with
 | 0=>exact lb
 | 1=>exact hb
 | 2=>exact lb
 | _+3=>exact hb
theorem rMul_any (e:Int) (al ah bl bh pb:Nat) (w:World) (la:al < 18446744073709551616) (ha:ah < 18446744073709551616) (lb:bl < 18446744073709551616) (hb:bh < 18446744073709551616) (hc:Has1 w (pb,#[.int .i64 e])) :
   Calls Tryz.prog 45 #[.pointer (some ⟨pb,0,none⟩),.agg #[.float .f64 al,.float .f64 ah],.agg #[.float .f64 bl,.float .f64 bh]] w (Told (stepI e (ivR al ah&&ivR bl bh) (mulI al ah bl bh)) pb 0 w):=by
 have cO:=fun (v:World) (q:Nat) h1 h2 h3=>off2_any e pb q al ah bl bh v la ha lb hb h1 h2 h3
 cases h:(offE e (ivR al ah&&ivR bl bh) != 0)
 · obtain⟨h1,h2,h3,h4⟩:=stepI_on (mulI al ah bl bh) h
   rw [h1]
   rw [h,h2] at cO
   subst h3
   obtain⟨r1,r2⟩:=(Bool.and_eq_true _ _).mp h4
   rw [←four_mul al ah bl bh la ha lb hb r1 r2]
   have N:=fun k (h:(pointM (fourX al ah k) (fourY bl bh k)).e=0)=>num_pointM _ _ h
   have hu0:=fun (h0:(pointM (fourX al ah 0) (fourY bl bh 0)).e=0) (v:World)=>rHull_any _ _ _ _ v (N 0 h0).1.1 (N 0 h0).2.1 (N 0 h0).1.1 (N 0 h0).2.1 (N 0 h0).1.2 (N 0 h0).2.2 (N 0 h0).1.2 (N 0 h0).2.2
   have o1:=fun (h0:(pointM (fourX al ah 0) (fourY bl bh 0)).e=0)=>And.intro ((N 0 h0).1.min (N 0 h0).1) ((N 0 h0).2.max (N 0 h0).2)
   have hu1:=fun (h0:(pointM (fourX al ah 0) (fourY bl bh 0)).e=0) (h1:(pointM (fourX al ah 1) (fourY bl bh 1)).e=0) (v:World)=>rHull_any _ _ _ _ v (o1 h0).1.1 (o1 h0).2.1 (N 1 h1).1.1 (N 1 h1).2.1 (o1 h0).1.2 (o1 h0).2.2 (N 1 h1).1.2 (N 1 h1).2.2
   have o2:=fun (h0:(pointM (fourX al ah 0) (fourY bl bh 0)).e=0) (h1:(pointM (fourX al ah 1) (fourY bl bh 1)).e=0)=>And.intro ((o1 h0).1.min (N 1 h1).1) ((o1 h0).2.max (N 1 h1).2)
   have hu2:=fun (h0:(pointM (fourX al ah 0) (fourY bl bh 0)).e=0) (h1:(pointM (fourX al ah 1) (fourY bl bh 1)).e=0) (h2:(pointM (fourX al ah 2) (fourY bl bh 2)).e=0) (v:World)=>rHull_any _ _ _ _ v (o2 h0 h1).1.1 (o2 h0 h1).2.1 (N 2 h2).1.1 (N 2 h2).2.1 (o2 h0 h1).1.2 (o2 h0 h1).2.2 (N 2 h2).1.2 (N 2 h2).2.2
   have o3:=fun (h0:(pointM (fourX al ah 0) (fourY bl bh 0)).e=0) (h1:(pointM (fourX al ah 1) (fourY bl bh 1)).e=0) (h2:(pointM (fourX al ah 2) (fourY bl bh 2)).e=0)=>And.intro ((o2 h0 h1).1.min (N 2 h2).1) ((o2 h0 h1).2.max (N 2 h2).2)
   have hu3:=fun (h0:(pointM (fourX al ah 0) (fourY bl bh 0)).e=0) (h1:(pointM (fourX al ah 1) (fourY bl bh 1)).e=0) (h2:(pointM (fourX al ah 2) (fourY bl bh 2)).e=0) (h3:(pointM (fourX al ah 3) (fourY bl bh 3)).e=0) (v:World)=>rHull_any _ _ _ _ v (o3 h0 h1 h2).1.1 (o3 h0 h1 h2).2.1 (N 3 h3).1.1 (N 3 h3).2.1 (o3 h0 h1 h2).1.2 (o3 h0 h1 h2).2.2 (N 3 h3).1.2 (N 3 h3).2.2
   exact rMul_on al ah bl bh pb _ w hc (Lib.hid cO) (Lib.hid fun v hv=>four_Mul al ah bl bh pb (fun k=>mulW (fourX al ah k) (fourY bl bh k) false) (fun k=>mulW (fourX al ah k) (fourY bl bh k) true) (fun k=>mulE (fourX al ah k) (fourY bl bh k) false) (fun k=>mulE (fourX al ah k) (fourY bl bh k) true) (fun k=>pointM (fourX al ah k) (fourY bl bh k)) (outR fun k=>pointM (fourX al ah k) (fourY bl bh k)) v hv (Lib.hid fun v=>refMul_all al bl false v la lb) (Lib.hid fun v=>refMul_all al bl true v la lb) (Lib.hid fun v=>refMul_all al bh false v la hb) (Lib.hid fun v=>refMul_all al bh true v la hb) (Lib.hid fun v=>refMul_all ah bl false v ha lb) (Lib.hid fun v=>refMul_all ah bl true v ha lb) (Lib.hid fun v=>refMul_all ah bh false v ha hb) (Lib.hid fun v=>refMul_all ah bh true v ha hb) (Lib.hid fun k _ v hv=>keep_any _ _ pb _ _ v hv) (Lib.hid hu0) (Lib.hid hu1) (Lib.hid hu2) (Lib.hid hu3))
 · rw [stepI_off _ h]
   rw [h] at cO
   exact rMul_off e _ al ah bl bh pb w hc (Lib.hid cO)
theorem rDiv_off (e f:Int) (al ah bl bh pb:Nat) (w:World) (hc:Has1 w (pb,#[.int .i64 e]))
   (cO:Hid (∀ (v:World) (q:Nat),Has1 v (pb,#[.int .i64 e])→Has1 v (q,#[.float .f64 al,.float .f64 ah,.float .f64 bl,.float .f64 bh])→pb≠q→Calls Tryz.prog 85 #[.pointer (some ⟨pb,0,none⟩),.slice (some ⟨q,0,none⟩) 2 2] v fun r w'=>r = .returned (.bool true)∧Put ⟨pb,0,none⟩ (.int .i64 f) v w')) :
   Calls Tryz.prog 167 #[.pointer (some ⟨pb,0,none⟩),.agg #[.float .f64 al,.float .f64 ah],.agg #[.float .f64 bl,.float .f64 bh]] w (Told ⟨f,0,0⟩ pb 0 w):=by
 have E0:=RE.start hc
 replace E0:=E0.made #[.float .f64 al,.float .f64 ah] 31
 replace E0:=E0.made #[.float .f64 bl,.float .f64 bh] 31
 replace E0:=E0.made #[.float .f64 0,.float .f64 0] 31
 replace E0:=E0.made #[.float .f64 al,.float .f64 ah,.float .f64 bl,.float .f64 bh] 31
 simp only [World.size_alloc] at E0
 replace E0:=Lib.hid E0
 go_enter Tryz.func167,Tryz.ntmps167
 go_wp2_with fail
 refine (cO.out _ _ E0.out.cal (E0.out.nth 0 rfl) (E0.out.ne 0 rfl)).mono ?_
 rintro r w1 ⟨rfl,hp⟩
 have E1:=Lib.hid (E0.out.putc hp)
 clear hp E0 cO
 have zr:w.heap.size+1+1 < w1.heap.size:=(E1.out.nth 1 rfl).1
 have xr0:w1.cell? ⟨w.heap.size+1+1,0,none⟩=some (.float .f64 0):=(E1.out.nth 1 rfl).2.1 0
 have xr1:w1.cell? ⟨w.heap.size+1+1,1,none⟩=some (.float .f64 0):=(E1.out.nth 1 rfl).2.1 1
 have yr:∀ i,w1.frozen? ⟨w.heap.size+1+1,i,none⟩=false:=(E1.out.nth 1 rfl).2.2
 go_wp2
 exact bodyPost_ret (v:=.agg #[.float .f64 0,.float .f64 0]) (by simp [results,Tryz.results167,go_sem,xr0,xr1]) rfl ⟨rfl,E1.out.fin (by show w.heap.size≤w.heap.size+1+1; omega) _ _⟩
theorem rDiv_zero (al ah bl bh pb:Nat) (w:World) (hc:Has1 w (pb,#[.int .i64 0]))
   (cO:Hid (∀ (v:World) (q:Nat),Has1 v (pb,#[.int .i64 0])→Has1 v (q,#[.float .f64 al,.float .f64 ah,.float .f64 bl,.float .f64 bh])→pb≠q→Calls Tryz.prog 85 #[.pointer (some ⟨pb,0,none⟩),.slice (some ⟨q,0,none⟩) 2 2] v fun r w'=>r = .returned (.bool false)∧Put ⟨pb,0,none⟩ (.int .i64 0) v w')) (o1:((FloatKind.f64.format.order bl 0 == some Ordering.lt) || (FloatKind.f64.format.order bl 0 == some Ordering.eq))=true) (o2:((FloatKind.f64.format.order bh 0 == some Ordering.gt) || (FloatKind.f64.format.order bh 0 == some Ordering.eq))=true) :
   Calls Tryz.prog 167 #[.pointer (some ⟨pb,0,none⟩),.agg #[.float .f64 al,.float .f64 ah],.agg #[.float .f64 bl,.float .f64 bh]] w (Told ⟨11,0,0⟩ pb 0 w):=by
 have E0:=RE.start hc
 replace E0:=E0.made #[.float .f64 al,.float .f64 ah] 31
 replace E0:=E0.made #[.float .f64 bl,.float .f64 bh] 31
 replace E0:=E0.made #[.float .f64 0,.float .f64 0] 31
 replace E0:=E0.made #[.float .f64 al,.float .f64 ah,.float .f64 bl,.float .f64 bh] 31
 simp only [World.size_alloc] at E0
 replace E0:=Lib.hid E0
 go_enter Tryz.func167,Tryz.ntmps167
 go_wp2_with fail
 refine (cO.out _ _ E0.out.cal (E0.out.nth 0 rfl) (E0.out.ne 0 rfl)).mono ?_
 rintro r w1 ⟨rfl,hp⟩
 have E1:=Lib.hid (E0.out.putc hp)
 clear hp E0 cO
 have zr:w.heap.size+1+1 < w1.heap.size:=(E1.out.nth 1 rfl).1
 have xr0:w1.cell? ⟨w.heap.size+1+1,0,none⟩=some (.float .f64 0):=(E1.out.nth 1 rfl).2.1 0
 have xr1:w1.cell? ⟨w.heap.size+1+1,1,none⟩=some (.float .f64 0):=(E1.out.nth 1 rfl).2.1 1
 have yr:∀ i,w1.frozen? ⟨w.heap.size+1+1,i,none⟩=false:=(E1.out.nth 1 rfl).2.2
 have zb:w.heap.size+1 < w1.heap.size:=(E1.out.nth 2 rfl).1
 have xb0:w1.cell? ⟨w.heap.size+1,0,none⟩=some (.float .f64 bl):=(E1.out.nth 2 rfl).2.1 0
 have xb1:w1.cell? ⟨w.heap.size+1,1,none⟩=some (.float .f64 bh):=(E1.out.nth 2 rfl).2.1 1
 have yb:∀ i,w1.frozen? ⟨w.heap.size+1,i,none⟩=false:=(E1.out.nth 2 rfl).2.2
 have c:=E1.out.cal.cell1
 have cf:=E1.out.cal.froz1
 have E2:=Lib.hid (E1.out.cset 11)
 have q0:(w1.setCell ⟨pb,0,none⟩ (.int .i64 11)).cell? ⟨w.heap.size+1+1,0,none⟩=some (.float .f64 0):=(E2.out.nth 1 rfl).2.1 0
 have q1:(w1.setCell ⟨pb,0,none⟩ (.int .i64 11)).cell? ⟨w.heap.size+1+1,1,none⟩=some (.float .f64 0):=(E2.out.nth 1 rfl).2.1 1
 have np:¬ pb=w.heap.size+1+1:=E1.out.ne 1 rfl
 have np':¬ w.heap.size+1+1=pb:=fun h=>np h.symm
 go_wp2
 exact bodyPost_ret (v:=.agg #[.float .f64 0,.float .f64 0]) (by simp [results,Tryz.results167,go_sem,q0,q1]) rfl ⟨rfl,E2.out.fin (by show w.heap.size≤w.heap.size+1+1; omega) _ _⟩
theorem rDiv_on (al ah bl bh pb:Nat) (R:Res) (w:World) (hc:Has1 w (pb,#[.int .i64 0]))
   (cO:Hid (∀ (v:World) (q:Nat),Has1 v (pb,#[.int .i64 0])→Has1 v (q,#[.float .f64 al,.float .f64 ah,.float .f64 bl,.float .f64 bh])→pb≠q→Calls Tryz.prog 85 #[.pointer (some ⟨pb,0,none⟩),.slice (some ⟨q,0,none⟩) 2 2] v fun r w'=>r = .returned (.bool false)∧Put ⟨pb,0,none⟩ (.int .i64 0) v w')) (og:((FloatKind.f64.format.order bl 0 == some Ordering.lt) || (FloatKind.f64.format.order bl 0 == some Ordering.eq))=false∨((FloatKind.f64.format.order bl 0 == some Ordering.lt) || (FloatKind.f64.format.order bl 0 == some Ordering.eq))=true∧((FloatKind.f64.format.order bh 0 == some Ordering.gt) || (FloatKind.f64.format.order bh 0 == some Ordering.eq))=false)
   (cF:Hid (∀ v:World,Has1 v (pb,#[.int .i64 0])→Calls Tryz.prog 92 #[.pointer (some ⟨pb,0,none⟩),.agg #[.float .f64 al,.float .f64 ah],.agg #[.float .f64 bl,.float .f64 bh],.bool true] v (Told R pb 0 v))) :
   Calls Tryz.prog 167 #[.pointer (some ⟨pb,0,none⟩),.agg #[.float .f64 al,.float .f64 ah],.agg #[.float .f64 bl,.float .f64 bh]] w (Told R pb 0 w):=by
 have E0:=RE.start hc
 replace E0:=E0.made #[.float .f64 al,.float .f64 ah] 31
 replace E0:=E0.made #[.float .f64 bl,.float .f64 bh] 31
 replace E0:=E0.made #[.float .f64 0,.float .f64 0] 31
 replace E0:=E0.made #[.float .f64 al,.float .f64 ah,.float .f64 bl,.float .f64 bh] 31
 simp only [World.size_alloc] at E0
 replace E0:=Lib.hid E0
 go_enter Tryz.func167,Tryz.ntmps167
 go_wp2_with fail
 refine (cO.out _ _ E0.out.cal (E0.out.nth 0 rfl) (E0.out.ne 0 rfl)).mono ?_
 rintro r w1 ⟨rfl,hp⟩
 have E1:=Lib.hid (E0.out.putc hp)
 clear hp E0 cO
 have zr:w.heap.size+1+1 < w1.heap.size:=(E1.out.nth 1 rfl).1
 have xr0:w1.cell? ⟨w.heap.size+1+1,0,none⟩=some (.float .f64 0):=(E1.out.nth 1 rfl).2.1 0
 have xr1:w1.cell? ⟨w.heap.size+1+1,1,none⟩=some (.float .f64 0):=(E1.out.nth 1 rfl).2.1 1
 have yr:∀ i,w1.frozen? ⟨w.heap.size+1+1,i,none⟩=false:=(E1.out.nth 1 rfl).2.2
 have zb:w.heap.size+1 < w1.heap.size:=(E1.out.nth 2 rfl).1
 have xb0:w1.cell? ⟨w.heap.size+1,0,none⟩=some (.float .f64 bl):=(E1.out.nth 2 rfl).2.1 0
 have xb1:w1.cell? ⟨w.heap.size+1,1,none⟩=some (.float .f64 bh):=(E1.out.nth 2 rfl).2.1 1
 have yb:∀ i,w1.frozen? ⟨w.heap.size+1,i,none⟩=false:=(E1.out.nth 2 rfl).2.2
 have za:w.heap.size < w1.heap.size:=(E1.out.nth 3 rfl).1
 have xa0:w1.cell? ⟨w.heap.size,0,none⟩=some (.float .f64 al):=(E1.out.nth 3 rfl).2.1 0
 have xa1:w1.cell? ⟨w.heap.size,1,none⟩=some (.float .f64 ah):=(E1.out.nth 3 rfl).2.1 1
 have ya:∀ i,w1.frozen? ⟨w.heap.size,i,none⟩=false:=(E1.out.nth 3 rfl).2.2
 rcases og with o1 | ⟨o1,o2⟩
 all_goals
  go_wp2_with fail
  refine (cF.out _ E1.out.cal).mono ?_
  rintro r w2 hT
  obtain⟨rfl,hp⟩:=hT.open
  have E2:=Lib.hid (E1.out.putc hp)
  clear hp hT E1 zr xr0 xr1 yr zb xb0 xb1 yb za xa0 xa1 ya cF
  have zr:w.heap.size+1+1 < w2.heap.size:=(E2.out.nth 1 rfl).1
  have xr0:w2.cell? ⟨w.heap.size+1+1,0,none⟩=some (.float .f64 0):=(E2.out.nth 1 rfl).2.1 0
  have xr1:w2.cell? ⟨w.heap.size+1+1,1,none⟩=some (.float .f64 0):=(E2.out.nth 1 rfl).2.1 1
  have yr:∀ i,w2.frozen? ⟨w.heap.size+1+1,i,none⟩=false:=(E2.out.nth 1 rfl).2.2
  go_wp2
  exact bodyPost_ret (v:=.agg #[.float .f64 R.lo,.float .f64 R.hi]) (by simp [results,Tryz.results167,go_sem,xr0,xr1]) rfl ⟨rfl,E2.out.fin (by show w.heap.size≤w.heap.size+1+1; omega) _ _⟩
theorem rDiv_any (e:Int) (al ah bl bh pb:Nat) (w:World) (la:al < 18446744073709551616) (ha:ah < 18446744073709551616) (lb:bl < 18446744073709551616) (hb:bh < 18446744073709551616) (hc:Has1 w (pb,#[.int .i64 e])) :
   Calls Tryz.prog 167 #[.pointer (some ⟨pb,0,none⟩),.agg #[.float .f64 al,.float .f64 ah],.agg #[.float .f64 bl,.float .f64 bh]] w (Told (stepI e (ivR al ah&&ivR bl bh) (divI al ah bl bh)) pb 0 w):=by
 have cO:=fun (v:World) (q:Nat) h1 h2 h3=>off2_any e pb q al ah bl bh v la ha lb hb h1 h2 h3
 cases h:(offE e (ivR al ah&&ivR bl bh) != 0)
 · obtain⟨h1,h2,h3,h4⟩:=stepI_on (divI al ah bl bh) h
   rw [h1]
   rw [h,h2] at cO
   subst h3
   obtain⟨r1,r2⟩:=(Bool.and_eq_true _ _).mp h4
   obtain⟨b1,b2,_⟩:=ivR_parts r2
   have g1:=le_zero bl lb b1
   have g2:=ge_zero bh hb b2
   have hz:=has_zero lb hb r2
   cases hq:hasB bl bh 0
   · rw [←four_div al ah bl bh la ha lb hb r1 r2 hq]
     have og:((FloatKind.f64.format.order bl 0 == some Ordering.lt) || (FloatKind.f64.format.order bl 0 == some Ordering.eq))=false∨((FloatKind.f64.format.order bl 0 == some Ordering.lt) || (FloatKind.f64.format.order bl 0 == some Ordering.eq))=true∧((FloatKind.f64.format.order bh 0 == some Ordering.gt) || (FloatKind.f64.format.order bh 0 == some Ordering.eq))=false:=by
       rw [hq] at hz
       have hz':=of_decide_eq_false hz.symm
       rw [g1,g2]
       unfold leB
       rw [val_nil]
       by_cases p:val bl≤0
       · exact Or.inr ⟨decide_eq_true p,decide_eq_false (by omega)⟩
       · exact Or.inl (decide_eq_false p)
     have N:=fun k (h:(pointD (fourX al ah k) (fourY bl bh k)).e=0)=>num_pointD _ _ (fourY_lt bl bh lb hb k) h
     have hu0:=fun (h0:(pointD (fourX al ah 0) (fourY bl bh 0)).e=0) (v:World)=>rHull_any _ _ _ _ v (N 0 h0).1.1 (N 0 h0).2.1 (N 0 h0).1.1 (N 0 h0).2.1 (N 0 h0).1.2 (N 0 h0).2.2 (N 0 h0).1.2 (N 0 h0).2.2
     have o1:=fun (h0:(pointD (fourX al ah 0) (fourY bl bh 0)).e=0)=>And.intro ((N 0 h0).1.min (N 0 h0).1) ((N 0 h0).2.max (N 0 h0).2)
     have hu1:=fun (h0:(pointD (fourX al ah 0) (fourY bl bh 0)).e=0) (h1:(pointD (fourX al ah 1) (fourY bl bh 1)).e=0) (v:World)=>rHull_any _ _ _ _ v (o1 h0).1.1 (o1 h0).2.1 (N 1 h1).1.1 (N 1 h1).2.1 (o1 h0).1.2 (o1 h0).2.2 (N 1 h1).1.2 (N 1 h1).2.2
     have o2:=fun (h0:(pointD (fourX al ah 0) (fourY bl bh 0)).e=0) (h1:(pointD (fourX al ah 1) (fourY bl bh 1)).e=0)=>And.intro ((o1 h0).1.min (N 1 h1).1) ((o1 h0).2.max (N 1 h1).2)
     have hu2:=fun (h0:(pointD (fourX al ah 0) (fourY bl bh 0)).e=0) (h1:(pointD (fourX al ah 1) (fourY bl bh 1)).e=0) (h2:(pointD (fourX al ah 2) (fourY bl bh 2)).e=0) (v:World)=>rHull_any _ _ _ _ v (o2 h0 h1).1.1 (o2 h0 h1).2.1 (N 2 h2).1.1 (N 2 h2).2.1 (o2 h0 h1).1.2 (o2 h0 h1).2.2 (N 2 h2).1.2 (N 2 h2).2.2
     have o3:=fun (h0:(pointD (fourX al ah 0) (fourY bl bh 0)).e=0) (h1:(pointD (fourX al ah 1) (fourY bl bh 1)).e=0) (h2:(pointD (fourX al ah 2) (fourY bl bh 2)).e=0)=>And.intro ((o2 h0 h1).1.min (N 2 h2).1) ((o2 h0 h1).2.max (N 2 h2).2)
     have hu3:=fun (h0:(pointD (fourX al ah 0) (fourY bl bh 0)).e=0) (h1:(pointD (fourX al ah 1) (fourY bl bh 1)).e=0) (h2:(pointD (fourX al ah 2) (fourY bl bh 2)).e=0) (h3:(pointD (fourX al ah 3) (fourY bl bh 3)).e=0) (v:World)=>rHull_any _ _ _ _ v (o3 h0 h1 h2).1.1 (o3 h0 h1 h2).2.1 (N 3 h3).1.1 (N 3 h3).2.1 (o3 h0 h1 h2).1.2 (o3 h0 h1 h2).2.2 (N 3 h3).1.2 (N 3 h3).2.2
     exact rDiv_on al ah bl bh pb _ w hc (Lib.hid cO) og (Lib.hid fun v hv=>four_Div al ah bl bh pb (fun k=>divW (fourX al ah k) (fourY bl bh k) false) (fun k=>divW (fourX al ah k) (fourY bl bh k) true) (fun k=>divE (fourX al ah k) (fourY bl bh k) false) (fun k=>divE (fourX al ah k) (fourY bl bh k) true) (fun k=>pointD (fourX al ah k) (fourY bl bh k)) (outR fun k=>pointD (fourX al ah k) (fourY bl bh k)) v hv (Lib.hid fun v=>refDiv_all al bl false v la lb) (Lib.hid fun v=>refDiv_all al bl true v la lb) (Lib.hid fun v=>refDiv_all al bh false v la hb) (Lib.hid fun v=>refDiv_all al bh true v la hb) (Lib.hid fun v=>refDiv_all ah bl false v ha lb) (Lib.hid fun v=>refDiv_all ah bl true v ha lb) (Lib.hid fun v=>refDiv_all ah bh false v ha hb) (Lib.hid fun v=>refDiv_all ah bh true v ha hb) (Lib.hid fun k _ v hv=>keep_any _ _ pb _ _ v hv) (Lib.hid hu0) (Lib.hid hu1) (Lib.hid hu2) (Lib.hid hu3))
   · have e1:divI al ah bl bh=⟨11,0,0⟩:=if_pos hq
     rw [e1]
     rw [hq] at hz
     have hz':=of_decide_eq_true hz.symm
     refine rDiv_zero al ah bl bh pb w hc (Lib.hid cO) ?_ ?_
     · rw [g1]; unfold leB; rw [val_nil]; exact decide_eq_true hz'.1
     · rw [g2]; unfold leB; rw [val_nil]; exact decide_eq_true hz'.2
 · rw [stepI_off _ h]
   rw [h] at cO
   exact rDiv_off e _ al ah bl bh pb w hc (Lib.hid cO)
end
section
open Go.RowKit
attribute [local go_sem] run_store_float
end
end Go.Proofs.YtnaomilkgfkegaaGreat
