import Derived.Test.YtdhinkgjiapigaaGreatDoorLocksA
import Derived.Test.YtdhinkgjiapigaaGreatDoorConc
import Derived.Test.YtdhinkgjiapigaaGreatDoorWhyW
namespace Go.Proofs.YtdhinkgjiapigaaGreatDoor
open Go.RowKit Go.Deep
open Classical
def madeD (n m:Nat) (hold:Int):PlanD:=⟨(n:Int) + 1,(List.range m).map fun i:Nat=>(i:Int),[⟨(List.range n).map fun i:Nat=>(i:Int),(List.range m).map fun i:Nat=>((i:Int),2),[],[],[(n:Int)]⟩],[[true]],hold⟩
structure MadeB (w:World) (n:Nat) (hold:Int) (W:World) (s u l:Value):Prop where
 below:Below w.heap.size w W
 res:∃ g,W.rowIs w.heap.size 27 5 g
 bools:W.rowIs (w.heap.size + 1) 4 1 (fun i=>(#[.bool true]:Array Value)[i]!)
 bars:W.rowIs (w.heap.size + 1 + 1) 36 1 (fun i=>(#[.slice (some ⟨w.heap.size + 1,0,none⟩) 1 1]:Array Value)[i]!)
 plan:W.rowIs (w.heap.size + 1 + 1 + 1) 27 5 (fun i=>(#[.int .i64 ((n:Int) + 1),s,.slice none 0 0,.slice (some ⟨w.heap.size + 1 + 1,0,none⟩) 1 1,.int .i64 hold]:Array Value)[i]!)
 near:W.rowIs (w.heap.size + 1 + 1 + 1 + 1) 3 1 (fun i=>(#[.int .i64 n]:Array Value)[i]!)
 way:W.rowIs (w.heap.size + 1 + 1 + 1 + 1 + 1) 51 5 (fun i=>(#[u,l,.slice none 0 0,.slice none 0 0,.slice (some ⟨w.heap.size + 1 + 1 + 1 + 1,0,none⟩) 1 1]:Array Value)[i]!)
theorem MadeB.but {w:World} {n:Nat} {hold:Int} {W W':World} {s u l:Value} {K:Nat → Prop} (h:MadeB w n hold W s u l) (hB:But K W W') (hk:∀ c,c < w.heap.size + 1 + 1 + 1 + 1 + 1 + 1 → K c):MadeB w n hold W' s u l:=by
 obtain ⟨g,hg⟩:=h.res
 exact ⟨h.below.trans (hB.below h.below.size fun c hc=>hk c (by omega)),⟨g,hB.row hg (hk _ (by omega))⟩,hB.row h.bools (hk _ (by omega)),hB.row h.bars (hk _ (by omega)),hB.row h.plan (hk _ (by omega)),hB.row h.near (hk _ (by omega)),hB.row h.way (hk _ (by omega))⟩
theorem MadeB.sec {w:World} {n:Nat} {hold:Int} {W:World} {s u l:Value} (h:MadeB w n hold W s u l) (u':Value):MadeB w n hold (W.setCell ⟨w.heap.size + 1 + 1 + 1 + 1 + 1,0,none⟩ u') s u' l:=by
 have hj:¬ ((fun c=>c ≠ w.heap.size + 1 + 1 + 1 + 1 + 1) (⟨w.heap.size + 1 + 1 + 1 + 1 + 1,0,none⟩:Addr).block):=fun z=>z rfl
 have hB:=(But.refl (fun c=>c ≠ w.heap.size + 1 + 1 + 1 + 1 + 1) W).setCell hj u'
 obtain ⟨g,hg⟩:=h.res
 refine ⟨h.below.trans (hB.below h.below.size fun c hc=>by omega),⟨g,hB.row hg (by omega)⟩,hB.row h.bools (by omega),hB.row h.bars (by omega),hB.row h.plan (by omega),hB.row h.near (by omega),(h.way.set 0 u').congr fun i hi=>?_⟩
 rcases i with _ | _ | _ | _ | _ | i
 ·rfl
 ·rfl
 ·rfl
 ·rfl
 ·rfl
 ·omega
theorem MadeB.lie {w:World} {n:Nat} {hold:Int} {W:World} {s u l:Value} (h:MadeB w n hold W s u l) (l':Value):MadeB w n hold (W.setCell ⟨w.heap.size + 1 + 1 + 1 + 1 + 1,1,none⟩ l') s u l':=by
 have hj:¬ ((fun c=>c ≠ w.heap.size + 1 + 1 + 1 + 1 + 1) (⟨w.heap.size + 1 + 1 + 1 + 1 + 1,1,none⟩:Addr).block):=fun z=>z rfl
 have hB:=(But.refl (fun c=>c ≠ w.heap.size + 1 + 1 + 1 + 1 + 1) W).setCell hj l'
 obtain ⟨g,hg⟩:=h.res
 refine ⟨h.below.trans (hB.below h.below.size fun c hc=>by omega),⟨g,hB.row hg (by omega)⟩,hB.row h.bools (by omega),hB.row h.bars (by omega),hB.row h.plan (by omega),hB.row h.near (by omega),(h.way.set 1 l').congr fun i hi=>?_⟩
 rcases i with _ | _ | _ | _ | _ | i
 ·rfl
 ·rfl
 ·rfl
 ·rfl
 ·rfl
 ·omega
theorem MadeB.sw {w:World} {n:Nat} {hold:Int} {W:World} {s u l:Value} (h:MadeB w n hold W s u l) (s':Value):MadeB w n hold (W.setCell ⟨w.heap.size + 1 + 1 + 1,1,none⟩ s') s' u l:=by
 have hj:¬ ((fun c=>c ≠ w.heap.size + 1 + 1 + 1) (⟨w.heap.size + 1 + 1 + 1,1,none⟩:Addr).block):=fun z=>z rfl
 have hB:=(But.refl (fun c=>c ≠ w.heap.size + 1 + 1 + 1) W).setCell hj s'
 obtain ⟨g,hg⟩:=h.res
 refine ⟨h.below.trans (hB.below h.below.size fun c hc=>by omega),⟨g,hB.row hg (by omega)⟩,hB.row h.bools (by omega),hB.row h.bars (by omega),(h.plan.set 1 s').congr fun i hi=>?_,hB.row h.near (by omega),hB.row h.way (by omega)⟩
 rcases i with _ | _ | _ | _ | _ | i
 ·rfl
 ·rfl
 ·rfl
 ·rfl
 ·rfl
 ·omega
theorem range_int (k:Nat):ints ((List.range (k + 1)).map fun i:Nat=>(i:Int)) = ints ((List.range k).map fun i:Nat=>(i:Int)) ++ [.int .i64 (k:Int)]:=by rw [List.range_succ,List.map_append,ints_append]; rfl
theorem range_lie (k:Nat):cells2 ((List.range (k + 1)).map fun i:Nat=>((i:Int),(2:Int))) = cells2 ((List.range k).map fun i:Nat=>((i:Int),(2:Int))) ++ [.int .i64 (k:Int),.int .i64 2]:=by
 rw [List.range_succ,List.map_append]
 unfold cells2
 rw [List.flatMap_append]
 rfl
theorem one_src {W:World} {t:TypeId} {x:Value}:1 = 0 ∨ ∃ A,(some (⟨W.heap.size,0,none⟩:Addr)) = some A ∧ ∀ j u,([x]:List Value)[j]? = some u → (W.alloc (.cells #[x] t)).cell? (A.add j) = some u:=by
 refine .inr ⟨_,rfl,fun j u hj=>?_⟩
 rw [addr_add,Nat.zero_add]
 have hj1:j < 1:=(List.getElem?_eq_some_iff.1 hj).1
 rw [(rowIs_new W t #[x]).cell (by simpa using hj1)]
 rcases j with _ | j
 ·exact hj
 ·omega
theorem two_src {W:World} {t:TypeId} {x y:Value}:1 = 0 ∨ ∃ A,(some (⟨W.heap.size,0,none⟩:Addr)) = some A ∧ ∀ j u,([x,y]:List Value)[j]? = some u → (W.alloc (.cells #[x,y] t)).cell? (A.add j) = some u:=by
 refine .inr ⟨_,rfl,fun j u hj=>?_⟩
 rw [addr_add,Nat.zero_add]
 have hj1:j < 2:=(List.getElem?_eq_some_iff.1 hj).1
 rw [(rowIs_new W t #[x,y]).cell (by simpa using hj1)]
 rcases j with _ | _ | j
 ·exact hj
 ·exact hj
 ·omega
set_option maxRecDepth 100000 in
set_option maxHeartbeats 8000000 in
theorem madeWay_any (n m:Nat) (hold:Int) (w:World) (hn:n ≤ 1000) (hm:m ≤ 1000) :
  Calls Tryz.prog 25 #[.int .i64 n,.int .i64 m,.int .i64 hold] w fun e w'=>∃ v1 v2 v3,e = .returned (.agg #[.int .i64 (madeD n m hold).sections,v1,v2,v3,.int .i64 (madeD n m hold).hold]) ∧ Below w.heap.size w w' ∧ PlanAt (In w') w' v1 v2 v3 (madeD n m hold) ∧ WaysC (In w') w' v2 (madeD n m hold).ways:=by
 have hrow:∀ (W:World) (c:Array Value) (t:TypeId),(W.alloc (.cells c t)).rowIs W.heap.size t c.size (fun i=>c[i]!):=fun W c t=>rowIs_new W t c
 have M0:MadeB w n hold ((((((w.alloc (.cells #[.int .i64 0,.slice none 0 0,.slice none 0 0,.slice none 0 0,.int .i64 0] 27)).alloc (.cells #[.bool true] 4)).alloc (.cells #[.slice (some ⟨w.heap.size + 1,0,none⟩) 1 1] 36)).alloc (.cells #[.int .i64 ((n:Int) + 1),.slice none 0 0,.slice none 0 0,.slice (some ⟨w.heap.size + 1 + 1,0,none⟩) 1 1,.int .i64 hold] 27)).alloc (.cells #[.int .i64 n] 3)).alloc (.cells #[.slice none 0 0,.slice none 0 0,.slice none 0 0,.slice none 0 0,.slice (some ⟨w.heap.size + 1 + 1 + 1 + 1,0,none⟩) 1 1] 51)) (.slice none 0 0) (.slice none 0 0) (.slice none 0 0):=by
  have B1:=boxes3 w 27 4 36 #[.int .i64 0,.slice none 0 0,.slice none 0 0,.slice none 0 0,.int .i64 0] #[.bool true] #[.slice (some ⟨w.heap.size + 1,0,none⟩) 1 1]
  have B2:=((B1.snoc (by simp) 27 #[.int .i64 ((n:Int) + 1),.slice none 0 0,.slice none 0 0,.slice (some ⟨w.heap.size + 1 + 1,0,none⟩) 1 1,.int .i64 hold]).snoc (by simp) 3 #[.int .i64 n]).snoc (by simp) 51 #[.slice none 0 0,.slice none 0 0,.slice none 0 0,.slice none 0 0,.slice (some ⟨w.heap.size + 1 + 1 + 1 + 1,0,none⟩) 1 1]
  exact ⟨B2.below,⟨_,B2.row 0 _ _ rfl⟩,B2.row 1 _ _ rfl,B2.row 2 _ _ rfl,B2.row 3 _ _ rfl,B2.row 4 _ _ rfl,B2.row 5 _ _ rfl⟩
 have HM0:=hide M0
 clear M0 hrow
 go_enter Tryz.func25,Tryz.ntmps25
 go_wp2
 obtain ⟨W0,hW0⟩:∃ W0,W0 = ((((((w.alloc (.cells #[.int .i64 0,.slice none 0 0,.slice none 0 0,.slice none 0 0,.int .i64 0] 27)).alloc (.cells #[.bool true] 4)).alloc (.cells #[.slice (some ⟨w.heap.size + 1,0,none⟩) 1 1] 36)).alloc (.cells #[.int .i64 ((n:Int) + 1),.slice none 0 0,.slice none 0 0,.slice (some ⟨w.heap.size + 1 + 1,0,none⟩) 1 1,.int .i64 hold] 27)).alloc (.cells #[.int .i64 n] 3)).alloc (.cells #[.slice none 0 0,.slice none 0 0,.slice none 0 0,.slice none 0 0,.slice (some ⟨w.heap.size + 1 + 1 + 1 + 1,0,none⟩) 1 1] 51)):=⟨_,rfl⟩
 rw [← hW0] at HM0 ⊢
 clear hW0
 go_loopw [9] (fun z wr=>∃ (k:Nat) (u:Value),k ≤ n ∧ z = .int .i64 k ∧ MadeB w n hold wr (.slice none 0 0) u (.slice none 0 0) ∧ wr.ownsRow (w.heap.size + 1 + 1 + 1 + 1 + 1 + 1) 3 1 u k (ints ((List.range k).map fun i:Nat=>(i:Int)))) (fun z _=>n - (intOf z).toNat)
 case atStart=>exact ⟨0,_,Nat.zero_le _,rfl,HM0.out,World.ownsRow_nil _ _ _ _⟩
 case round=>
  obtain ⟨k,u,hk,rfl,hM,hown⟩:=hrel
  rename World=>wA
  clear HM0
  obtain ⟨a5,c5,rfl⟩:=own_slice hown
  by_cases hlt:k < n
  ·have y0:wA.cell? ⟨w.heap.size + 1 + 1 + 1 + 1 + 1,0,none⟩ = some (.slice a5 k c5):=hM.way.cell (i:=0) (by omega)
   have hkn:(k:Int) < (n:Int):=by omega
   have hbn:=below_new wA (.cells #[.int .i64 (k:Int)] 3)
   have hwl:=hM.way.lt
   have OWY:=hide (own_but (K:=fun _=>True) hown (But.of_calls hbn) fun _ _=>trivial)
   have SRC:=hide (one_src (W:=wA) (t:=3) (x:=.int .i64 (k:Int)))
   have ONE:Hid (∀ u ∈ ([.int .i64 (k:Int)]:List Value),u.oneCell' = true):=by
    intro u hu
    simp at hu
    subst hu
    rfl
   have HM7:Hid (k + 1 ≤ maxLen):=by show k + 1 ≤ maxLen; unfold maxLen; omega
   have HM8:Hid ((k + 1) * 8 ≤ 140737488355328):=by show (k + 1) * 8 ≤ 140737488355328; omega
   have HZY:Hid (w.heap.size + 1 + 1 + 1 + 1 + 1 + 1 ≤ (wA.alloc (.cells #[.int .i64 (k:Int)] 3)).heap.size):=by show w.heap.size + 1 + 1 + 1 + 1 + 1 + 1 ≤ _; rw [World.size_alloc]; omega
   obtain ⟨xs,hxs⟩:∃ xs,xs = ints ((List.range k).map fun i:Nat=>(i:Int)):=⟨_,rfl⟩
   have HXS:=hide hxs
   rw [← hxs] at OWY
   have HBA:=hide hM
   have HBN:=hide hbn
   clear hxs hM hown hbn
   go_wp2_with (at_builtin; refine wpList_append_any rfl _ _ 23 rfl (w.heap.size + 1 + 1 + 1 + 1 + 1 + 1) 3 (.int .i64 0) 1 8 Tryz.underlying23 Tryz.infoInt rfl (by decide) (.slice a5 k c5) k xs rfl OWY.out (some ⟨wA.heap.size,0,none⟩) 1 1 [.int .i64 (k:Int)] rfl rfl SRC.out ONE.out HM7.out HM8.out HZY.out ?_)
   intro u5 w5 hown5 hgr5
   obtain ⟨a6,c6,rfl⟩:=own_slice hown5
   have M5:=(HBA.out.but (K:=fun _=>True) (But.of_calls HBN.out) fun _ _=>trivial).but (K:=fun c=>c < w.heap.size + 1 + 1 + 1 + 1 + 1 + 1) (But.of_below (own_snoc OWY.out hgr5 (Nat.le_refl _) HZY.out) fun _ _ z=>z) fun _ z=>z
   have y3:w5.cell? ⟨w.heap.size + 1 + 1 + 1 + 1 + 1,0,none⟩ = some (.slice a5 k c5):=M5.way.cell (i:=0) (by omega)
   have z3:=M5.way.frozen 0
   have FIN:=hide (And.intro (M5.sec (.slice a6 (k + 1) c6)) (show (w5.setCell ⟨w.heap.size + 1 + 1 + 1 + 1 + 1,0,none⟩ (.slice a6 (k + 1) c6)).ownsRow (w.heap.size + 1 + 1 + 1 + 1 + 1 + 1) 3 1 (.slice a6 (k + 1) c6) (k + 1) (ints ((List.range (k + 1)).map fun i:Nat=>(i:Int))) by
    rw [range_int,← HXS.out]
    exact own_but (K:=fun c=>c ≠ w.heap.size + 1 + 1 + 1 + 1 + 1) hown5 ((But.refl _ _).setCell (fun z=>z rfl) _) fun g hg=>by have:=(own_block hown5 hg).1; omega))
   clear M5 hown5 hgr5 OWY SRC ONE HBA HBN y0
   go_wp2
   go_roundw
   case rel=>exact ⟨k + 1,_,by omega,by go_num,FIN.out.1,FIN.out.2⟩
   case measure=>simp [intOf]; omega
  ·obtain rfl:k = n:=by omega
   have HMA:=hide hM
   have HU:=hide hown
   have hwl:w.heap.size + 1 + 1 + 1 + 1 + 1 + 1 ≤ wA.heap.size:=hM.way.lt
   clear hM hown hlt hk
   go_wp2
   go_loopw [10] (fun z wr=>∃ (j:Nat) (s l:Value),j ≤ m ∧ z = .int .i64 j ∧ MadeB w k hold wr s (.slice a5 k c5) l ∧ wr.ownsRow wA.heap.size 3 1 s j (ints ((List.range j).map fun i:Nat=>(i:Int))) ∧ wr.ownsRow wA.heap.size 58 2 l j (cells2 ((List.range j).map fun i:Nat=>((i:Int),(2:Int)))) ∧ But (fun c=>w.heap.size + 1 + 1 + 1 + 1 + 1 + 1 ≤ c ∧ c < wA.heap.size) wA wr) (fun z _=>m - (intOf z).toNat)
   case atStart=>exact ⟨0,_,_,Nat.zero_le _,rfl,HMA.out,World.ownsRow_nil _ _ _ _,World.ownsRow_nil _ _ _ _,But.refl _ _⟩
   case round=>
    obtain ⟨j,s,l,hj,rfl,hM,hs,hl,hB⟩:=hrel
    rename World=>wB
    clear HMA
    obtain ⟨b5,d5,rfl⟩:=own_slice hs
    obtain ⟨b6,d6,rfl⟩:=own_slice hl
    have hzB:=hB.size
    by_cases hlt:j < m
    ·have y1:wB.cell? ⟨w.heap.size + 1 + 1 + 1,1,none⟩ = some (.slice b5 j d5):=hM.plan.cell (i:=1) (by omega)
     have hbn:=below_new wB (.cells #[.int .i64 (j:Int)] 3)
     have hjm:(j:Int) < (m:Int):=by omega
     have OWY:=hide (own_but (K:=fun _=>True) hs (But.of_calls hbn) fun _ _=>trivial)
     have hl1:=own_but (K:=fun _=>True) hl (But.of_calls hbn) fun _ _=>trivial
     have SRC:=hide (one_src (W:=wB) (t:=3) (x:=.int .i64 (j:Int)))
     have ONE:Hid (∀ u ∈ ([.int .i64 (j:Int)]:List Value),u.oneCell' = true):=by
      intro u hu
      simp at hu
      subst hu
      rfl
     have HM7:Hid (j + 1 ≤ maxLen):=by show j + 1 ≤ maxLen; unfold maxLen; omega
     have HM8:Hid ((j + 1) * 8 ≤ 140737488355328):=by show (j + 1) * 8 ≤ 140737488355328; omega
     have HZY:Hid (wA.heap.size ≤ (wB.alloc (.cells #[.int .i64 (j:Int)] 3)).heap.size):=Nat.le_trans hzB hbn.size
     obtain ⟨xs,hxs⟩:∃ xs,xs = ints ((List.range j).map fun i:Nat=>(i:Int)):=⟨_,rfl⟩
     have HXS:=hide hxs
     rw [← hxs] at OWY
     have M1:=hM.but (K:=fun _=>True) (But.of_calls hbn) fun _ _=>trivial
     have HM1:=hide M1
     have HL1:=hide hl1
     have HB1:=hide (hB.call hbn)
     clear hxs hM hs hl hbn hB hl1 M1
     go_wp2_with (at_builtin; refine wpList_append_any rfl _ _ 23 rfl wA.heap.size 3 (.int .i64 0) 1 8 Tryz.underlying23 Tryz.infoInt rfl (by decide) (.slice b5 j d5) j xs rfl OWY.out (some ⟨wB.heap.size,0,none⟩) 1 1 [.int .i64 (j:Int)] rfl rfl SRC.out ONE.out HM7.out HM8.out HZY.out ?_)
     intro u5 w5 hown5 hgr5
     obtain ⟨b7,d7,rfl⟩:=own_slice hown5
     have hg5:=own_snoc OWY.out hgr5 (Nat.le_refl _) HZY.out
     have M5:=HM1.out.but (K:=fun c=>c < wA.heap.size) (But.of_below hg5 fun _ _ z=>z) fun c hc=>by omega
     have hBg:But (fun c=>some c ≠ (Value.slice b5 j d5).ownBlock) (wB.alloc (.cells #[.int .i64 (j:Int)] 3)) w5:=⟨hgr5.os,hgr5.tape,hgr5.output,hgr5.size,fun c hc hk=>hgr5.block c hc hk⟩
     have hl5:=own_but HL1.out hBg fun g hg e=>by
      obtain ⟨-,⟨-,hz⟩ | ⟨g2,cap2,cur2,e2,-,hh2,-⟩⟩:=id HL1.out
      ·obtain ⟨-,⟨ee,-⟩ | ⟨g3,cap3,cur3,e3,-,hh3,-⟩⟩:=id HL1.out
       ·rw [ee] at hg; cases hg
       ·have e4:=hg; rw [e3] at e4; cases e4
        obtain ⟨-,⟨ee5,-⟩ | ⟨g4,cap4,cur4,e5,-,hh4,-⟩⟩:=id OWY.out
        ·rw [ee5] at e; cases e
        ·rw [e5] at e; cases e
         rw [hh3] at hh4
         cases hh4
      ·have e4:=hg; rw [e2] at e4; cases e4
       obtain ⟨-,⟨ee5,-⟩ | ⟨g4,cap4,cur4,e5,-,hh4,-⟩⟩:=id OWY.out
       ·rw [ee5] at e; cases e
       ·rw [e5] at e; cases e
        rw [hh2] at hh4
        cases hh4
     have y3:w5.cell? ⟨w.heap.size + 1 + 1 + 1,1,none⟩ = some (.slice b5 j d5):=M5.plan.cell (i:=1) (by omega)
     have z3:=M5.plan.frozen 1
     have M6:=M5.sw (.slice b7 (j + 1) d7)
     have hB6:But (fun c=>c ≠ w.heap.size + 1 + 1 + 1) w5 (w5.setCell ⟨w.heap.size + 1 + 1 + 1,1,none⟩ (.slice b7 (j + 1) d7)):=(But.refl _ _).setCell (fun z=>z rfl) _
     have hs6:=own_but hown5 hB6 fun g hg=>by have:=(own_block hown5 hg).1; omega
     have hl6:=own_but hl5 hB6 fun g hg=>by have:=(own_block hl5 hg).1; omega
     have hBB6:=(HB1.out.trans (But.of_below (K:=fun c=>w.heap.size + 1 + 1 + 1 + 1 + 1 + 1 ≤ c ∧ c < wA.heap.size) hg5 fun c _ z=>z.2)).trans (hB6.mono fun c _ hc=>by omega)
     have y2:(w5.setCell ⟨w.heap.size + 1 + 1 + 1,1,none⟩ (.slice b7 (j + 1) d7)).cell? ⟨w.heap.size + 1 + 1 + 1 + 1 + 1,1,none⟩ = some (.slice b6 j d6):=M6.way.cell (i:=1) (by omega)
     have hz6:=hBB6.size
     obtain ⟨W6,hW6⟩:∃ W,W = w5.setCell ⟨w.heap.size + 1 + 1 + 1,1,none⟩ (.slice b7 (j + 1) d7):=⟨_,rfl⟩
     rw [← hW6] at M6 hs6 hl6 hBB6 y2 hz6
     have hn7:=below_new W6 (.cells #[.int .i64 (j:Int),.int .i64 2] 58)
     have OWZ:=hide (own_but (K:=fun _=>True) hl6 (But.of_calls hn7) fun _ _=>trivial)
     have hs7:=own_but (K:=fun _=>True) hs6 (But.of_calls hn7) fun _ _=>trivial
     have M7:=M6.but (K:=fun _=>True) (But.of_calls hn7) fun _ _=>trivial
     have SRD:=hide (two_src (W:=W6) (t:=58) (x:=.int .i64 (j:Int)) (y:=.int .i64 2))
     have ONF:Hid (∀ u ∈ ([.int .i64 (j:Int),.int .i64 2]:List Value),u.oneCell' = true):=by
      intro u hu
      simp at hu
      rcases hu with rfl | rfl <;> rfl
     have HM9:Hid ((j + 1) * 16 ≤ 140737488355328):=by show (j + 1) * 16 ≤ 140737488355328; omega
     have HZZ:Hid (wA.heap.size ≤ (W6.alloc (.cells #[.int .i64 (j:Int),.int .i64 2] 58)).heap.size):=Nat.le_trans hz6 hn7.size
     obtain ⟨ys,hys⟩:∃ ys,ys = cells2 ((List.range j).map fun i:Nat=>((i:Int),(2:Int))):=⟨_,rfl⟩
     have HYS:=hide hys
     rw [← hys] at OWZ
     have HM7':=hide M7
     have HS7:=hide hs7
     have HB7:=hide (hBB6.call hn7)
     clear hys M5 M6 M7 hs6 hl6 hs7 hBB6 hB6 hl5 hBg hg5 hown5 hgr5 OWY SRC ONE HM1 HL1 HB1 hn7 y1
     go_upto_region 11 with fail
     rw [← hW6]
     clear hW6 y3 z3
     go_wp2_with (at_builtin; refine wpList_append_any rfl _ _ 49 rfl wA.heap.size 58 (.agg #[.int .i64 0,.int .i64 0]) 2 16 Tryz.underlying49 Tryz.infoLie rfl (by decide) (.slice b6 j d6) j ys rfl OWZ.out (some ⟨W6.heap.size,0,none⟩) 1 1 [.int .i64 (j:Int),.int .i64 2] rfl rfl SRD.out ONF.out HM7.out HM9.out HZZ.out ?_)
     intro u8 w8 hown8 hgr8
     obtain ⟨b8,d8,rfl⟩:=own_slice hown8
     have hg8:=own_snoc OWZ.out hgr8 (Nat.le_refl _) HZZ.out
     have M8:=HM7'.out.but (K:=fun c=>c < wA.heap.size) (But.of_below hg8 fun _ _ z=>z) fun c hc=>by omega
     have hBg:But (fun c=>some c ≠ (Value.slice b6 j d6).ownBlock) (W6.alloc (.cells #[.int .i64 (j:Int),.int .i64 2] 58)) w8:=⟨hgr8.os,hgr8.tape,hgr8.output,hgr8.size,fun c hc hk=>hgr8.block c hc hk⟩
     have hs8:=own_but HS7.out hBg fun g hg e=>by
      obtain ⟨-,⟨ee,-⟩ | ⟨g3,cap3,cur3,e3,-,hh3,-⟩⟩:=id HS7.out
      ·rw [ee] at hg; cases hg
      ·have e4:=hg; rw [e3] at e4; cases e4
       obtain ⟨-,⟨ee5,-⟩ | ⟨g4,cap4,cur4,e5,-,hh4,-⟩⟩:=id OWZ.out
       ·rw [ee5] at e; cases e
       ·rw [e5] at e; cases e
        rw [hh3] at hh4
        cases hh4
     have y4:w8.cell? ⟨w.heap.size + 1 + 1 + 1 + 1 + 1,1,none⟩ = some (.slice b6 j d6):=M8.way.cell (i:=1) (by omega)
     have z4:=M8.way.frozen 1
     have hB9:But (fun c=>c ≠ w.heap.size + 1 + 1 + 1 + 1 + 1) w8 (w8.setCell ⟨w.heap.size + 1 + 1 + 1 + 1 + 1,1,none⟩ (.slice b8 (j + 1) d8)):=(But.refl _ _).setCell (fun z=>z rfl) _
     have FIN:=hide (And.intro (M8.lie (.slice b8 (j + 1) d8)) (And.intro (show (w8.setCell ⟨w.heap.size + 1 + 1 + 1 + 1 + 1,1,none⟩ (.slice b8 (j + 1) d8)).ownsRow wA.heap.size 3 1 (.slice b7 (j + 1) d7) (j + 1) (ints ((List.range (j + 1)).map fun i:Nat=>(i:Int))) by
      rw [range_int,← HXS.out]
      exact own_but hs8 hB9 fun g hg=>by have:=(own_block hs8 hg).1; omega) (And.intro (show (w8.setCell ⟨w.heap.size + 1 + 1 + 1 + 1 + 1,1,none⟩ (.slice b8 (j + 1) d8)).ownsRow wA.heap.size 58 2 (.slice b8 (j + 1) d8) (j + 1) (cells2 ((List.range (j + 1)).map fun i:Nat=>((i:Int),(2:Int)))) by
      rw [range_lie,← HYS.out]
      exact own_but hown8 hB9 fun g hg=>by have:=(own_block hown8 hg).1; omega) ((HB7.out.trans (But.of_below (K:=fun c=>w.heap.size + 1 + 1 + 1 + 1 + 1 + 1 ≤ c ∧ c < wA.heap.size) hg8 fun c _ z=>z.2)).trans (hB9.mono fun c _ hc=>by omega)))))
     clear M8 hs8 hBg hown8 hgr8 hg8 hB9 OWZ SRD ONF HM7' HS7 HB7 y2
     go_wp2
     go_roundw
     case rel=>exact ⟨j + 1,_,_,by omega,by go_num,FIN.out⟩
     case measure=>simp [intOf]; omega
    ·obtain rfl:j = m:=by omega
     have hGR:=hM.res
     have HM:=hide hM
     have q0:wB.cell? ⟨w.heap.size + 1 + 1 + 1 + 1 + 1,0,none⟩ = some (.slice a5 k c5):=hM.way.cell (i:=0) (by omega)
     have q1:wB.cell? ⟨w.heap.size + 1 + 1 + 1 + 1 + 1,1,none⟩ = some (.slice b6 j d6):=hM.way.cell (i:=1) (by omega)
     have q2:wB.cell? ⟨w.heap.size + 1 + 1 + 1 + 1 + 1,2,none⟩ = some (.slice none 0 0):=hM.way.cell (i:=2) (by omega)
     have q3:wB.cell? ⟨w.heap.size + 1 + 1 + 1 + 1 + 1,3,none⟩ = some (.slice none 0 0):=hM.way.cell (i:=3) (by omega)
     have q4:wB.cell? ⟨w.heap.size + 1 + 1 + 1 + 1 + 1,4,none⟩ = some (.slice (some ⟨w.heap.size + 1 + 1 + 1 + 1,0,none⟩) 1 1):=hM.way.cell (i:=4) (by omega)
     have hbn:=below_new wB (.cells #[.slice a5 k c5,.slice b6 j d6,.slice none 0 0,.slice none 0 0,.slice (some ⟨w.heap.size + 1 + 1 + 1 + 1,0,none⟩) 1 1] 51)
     have hrn:(wB.alloc (.cells #[.slice a5 k c5,.slice b6 j d6,.slice none 0 0,.slice none 0 0,.slice (some ⟨w.heap.size + 1 + 1 + 1 + 1,0,none⟩) 1 1] 51)).rowIs wB.heap.size 51 5 (fun i=>(#[.slice a5 k c5,.slice b6 j d6,.slice none 0 0,.slice none 0 0,.slice (some ⟨w.heap.size + 1 + 1 + 1 + 1,0,none⟩) 1 1]:Array Value)[i]!):=rowIs_new wB 51 #[.slice a5 k c5,.slice b6 j d6,.slice none 0 0,.slice none 0 0,.slice (some ⟨w.heap.size + 1 + 1 + 1 + 1,0,none⟩) 1 1]
     have MC:=hM.but (K:=fun _=>True) (But.of_calls hbn) fun _ _=>trivial
     have p2:(wB.alloc (.cells #[.slice a5 k c5,.slice b6 j d6,.slice none 0 0,.slice none 0 0,.slice (some ⟨w.heap.size + 1 + 1 + 1 + 1,0,none⟩) 1 1] 51)).cell? ⟨w.heap.size + 1 + 1 + 1,2,none⟩ = some (.slice none 0 0):=MC.plan.cell (i:=2) (by omega)
     have f2:=MC.plan.frozen 2
     obtain ⟨WC,hWC⟩:∃ W,W = wB.alloc (.cells #[.slice a5 k c5,.slice b6 j d6,.slice none 0 0,.slice none 0 0,.slice (some ⟨w.heap.size + 1 + 1 + 1 + 1,0,none⟩) 1 1] 51):=⟨_,rfl⟩
     rw [← hWC] at hbn hrn MC
     have hj3:∀ o:Nat,¬ ((fun c=>c ≠ w.heap.size + 1 + 1 + 1) (⟨w.heap.size + 1 + 1 + 1,o,none⟩:Addr).block):=fun o z=>z rfl
     have hB3:=(But.refl (fun c=>c ≠ w.heap.size + 1 + 1 + 1) WC).setCell (hj3 2) (.slice (some ⟨wB.heap.size,0,none⟩) 1 1)
     have hpl:=MC.plan.set 2 (.slice (some ⟨wB.heap.size,0,none⟩) 1 1)
     obtain ⟨WD,hWD⟩:∃ W,W = WC.setCell ⟨w.heap.size + 1 + 1 + 1,2,none⟩ (.slice (some ⟨wB.heap.size,0,none⟩) 1 1):=⟨_,rfl⟩
     rw [← hWD] at hpl hB3
     have e0:WD.cell? ⟨w.heap.size + 1 + 1 + 1,0,none⟩ = some (.int .i64 ((k:Int) + 1)):=hpl.cell (i:=0) (by omega)
     have e1:WD.cell? ⟨w.heap.size + 1 + 1 + 1,1,none⟩ = some (.slice b5 j d5):=hpl.cell (i:=1) (by omega)
     have e2:WD.cell? ⟨w.heap.size + 1 + 1 + 1,2,none⟩ = some (.slice (some ⟨wB.heap.size,0,none⟩) 1 1):=hpl.cell (i:=2) (by omega)
     have e3:WD.cell? ⟨w.heap.size + 1 + 1 + 1,3,none⟩ = some (.slice (some ⟨w.heap.size + 1 + 1,0,none⟩) 1 1):=hpl.cell (i:=3) (by omega)
     have e4:WD.cell? ⟨w.heap.size + 1 + 1 + 1,4,none⟩ = some (.int .i64 hold):=hpl.cell (i:=4) (by omega)
     obtain ⟨gR,hR⟩:=MC.res
     have hR3:=hB3.row hR (by omega)
     have r0:=hR3.cell (i:=0) (by omega)
     have r1:=hR3.cell (i:=1) (by omega)
     have r2:=hR3.cell (i:=2) (by omega)
     have r3:=hR3.cell (i:=3) (by omega)
     have r4:=hR3.cell (i:=4) (by omega)
     have k0:=hR3.frozen 0
     have k1:=hR3.frozen 1
     have k2:=hR3.frozen 2
     have k3:=hR3.frozen 3
     have k4:=hR3.frozen 4
     have HMC:=hide MC
     have HB3:=hide hB3
     have HBN:=hide hbn
     have HRN:=hide hrn
     have HS:=hide hs
     have HL:=hide hl
     have HBB:=hide hB
     have hwB:w.heap.size + 1 + 1 + 1 + 1 + 1 + 1 ≤ wB.heap.size:=Nat.le_trans hwl hzB
     clear hM hs hl hB hbn hrn MC hB3 hpl hR hR3 hGR
     go_upto_region 13 with fail
     rw [← hWC,← hWD]
     clear hWC hWD p2 f2 q0 q1 q2 q3 q4
     go_wp2
     refine bodyPost_ret (v:=.agg #[.int .i64 ((k:Int) + 1),.slice b5 j d5,.slice (some ⟨wB.heap.size,0,none⟩) 1 1,.slice (some ⟨w.heap.size + 1 + 1,0,none⟩) 1 1,.int .i64 hold]) (by simp [results,Tryz.results25,go_sem,r0,r1,r2,r3,r4]) rfl ?_
     have hk0:∀ o:Nat,¬ ((fun c=>c ≠ w.heap.size) (⟨w.heap.size,o,none⟩:Addr).block):=fun o z=>z rfl
     obtain ⟨WE,hWE⟩:∃ W,W = ((((WD.setCell ⟨w.heap.size,0,none⟩ (.int .i64 ((k:Int) + 1))).setCell ⟨w.heap.size,1,none⟩ (.slice b5 j d5)).setCell ⟨w.heap.size,2,none⟩ (.slice (some ⟨wB.heap.size,0,none⟩) 1 1)).setCell ⟨w.heap.size,3,none⟩ (.slice (some ⟨w.heap.size + 1 + 1,0,none⟩) 1 1)).setCell ⟨w.heap.size,4,none⟩ (.int .i64 hold):=⟨_,rfl⟩
     rw [← hWE]
     have hBR:But (fun c=>c ≠ w.heap.size) WD WE:=by
      rw [hWE]
      exact (((((But.refl (fun c=>c ≠ w.heap.size) WD).setCell (hk0 0) _).setCell (hk0 1) _).setCell (hk0 2) _).setCell (hk0 3) _).setCell (hk0 4) _
     have hBF:But (fun c=>c ≠ w.heap.size + 1 + 1 + 1 ∧ c ≠ w.heap.size) WC WE:=(HB3.out.mono (L:=fun c=>c ≠ w.heap.size + 1 + 1 + 1 ∧ c ≠ w.heap.size) fun c _ hc=>hc.1).trans (hBR.mono fun c _ hc=>hc.2)
     have hBW:But (fun c=>c ≠ w.heap.size + 1 + 1 + 1 ∧ c ≠ w.heap.size) wB WE:=(But.of_calls HBN.out).trans hBF
     have hBA:But (fun c=>w.heap.size + 1 + 1 + 1 + 1 + 1 + 1 ≤ c ∧ c < wA.heap.size) wA WE:=HBB.out.trans (hBW.mono fun c _ hc=>by omega)
     have hsz:=hBW.size
     have hszc:=HBN.out.size
     have hin:∀ {c b:Nat},c < b → b ≤ wB.heap.size → In WE c:=fun h1 h2=>Nat.lt_of_lt_of_le (Nat.lt_of_lt_of_le h1 h2) hsz
     have hlu:((List.range k).map fun i:Nat=>(i:Int)).length = k:=by simp
     have hls:((List.range j).map fun i:Nat=>(i:Int)).length = j:=by simp
     have hll:((List.range j).map fun i:Nat=>((i:Int),(2:Int))).length = j:=by simp
     have hU:=(own_ints HU.out).2.keep (Q:=In WE) (hBA.same fun b hb=>⟨hb.2,hb⟩) fun b hb=>hin hb.2 hzB
     have hSw:=(own_ints HS.out).2.keep (Q:=In WE) (hBW.same fun b hb=>⟨hb.2,by omega⟩) fun b hb=>hin hb.2 (Nat.le_refl _)
     have hLi:=(own_lies1 HL.out).keep (Q:=In WE) (hBW.same fun b hb=>⟨hb.2,by omega⟩) fun b hb=>hin hb.2 (Nat.le_refl _)
     have hnr:=hBW.row HM.out.near (by omega)
     have hbl:=hBW.row HM.out.bools (by omega)
     have hbr:=hBW.row HM.out.bars (by omega)
     have hwy:=hBF.row HRN.out (by omega)
     have hN:Ints (In WE) WE (.slice (some ⟨w.heap.size + 1 + 1 + 1 + 1,0,none⟩) 1 1) [(k:Int)]:=⟨_,_,rfl,.inr ⟨_,0,rfl,hnr.lt,fun i hi x hx=>by
      obtain rfl:i = 0:=by simp at hi; omega
      cases hx
      exact hnr.cell (i:=0) (by omega)⟩⟩
     have hE:Ints (In WE) WE (.slice none 0 0) []:=⟨_,_,rfl,.inl rfl⟩
     have hE2:Lies (In WE) WE (.slice none 0 0) []:=⟨_,_,rfl,.inl rfl⟩
     have hcap:Capped (.slice a5 k c5):=by
      obtain ⟨-,⟨e,e'⟩ | ⟨g,cap,cur,e,-,-,hc,-⟩⟩:=id HU.out
      ·injection e with _ e8 e9
       exact ⟨_,_,_,rfl,by omega⟩
      ·injection e with _ e8 e9
       exact ⟨_,_,_,rfl,by omega⟩
     have hWA:WayAt (In WE) WE (.slice a5 k c5) (.slice b6 j d6) (.slice none 0 0) (.slice none 0 0) (.slice (some ⟨w.heap.size + 1 + 1 + 1 + 1,0,none⟩) 1 1) ⟨(List.range k).map fun i:Nat=>(i:Int),(List.range j).map fun i:Nat=>((i:Int),2),[],[],[(k:Int)]⟩:=⟨hU,hLi,hE2,hE,hN⟩
     have hWC2:WaysC (In WE) WE (.slice (some ⟨wB.heap.size,0,none⟩) 1 1) (madeD k j hold).ways:=⟨_,_,rfl,.inr ⟨_,0,rfl,hwy.lt,fun i hi x hx=>by
      obtain rfl:i = 0:=by
       have:i < 1:=hi
       omega
      cases hx
      exact ⟨_,_,_,_,_,⟨hWA,hcap⟩,hwy.cell (i:=0) (by omega),hwy.cell (i:=1) (by omega),hwy.cell (i:=2) (by omega),hwy.cell (i:=3) (by omega),hwy.cell (i:=4) (by omega)⟩⟩⟩
     refine ⟨_,_,_,rfl,?_,⟨hSw,hWC2.ways,⟨_,_,rfl,.inr ⟨_,0,rfl,hbr.lt,fun i hi x hx=>?_⟩⟩⟩,hWC2⟩
     ·exact HM.out.below.trans (hBW.below HM.out.below.size fun c hc=>by omega)
     ·obtain rfl:i = 0:=by
       have:i < 1:=hi
       omega
      cases hx
      refine ⟨_,⟨_,_,rfl,.inr ⟨_,0,rfl,hbl.lt,fun i hi x hx=>?_⟩⟩,hbr.cell (i:=0) (by omega)⟩
      obtain rfl:i = 0:=by
       have:i < 1:=hi
       omega
      cases hx
      exact hbl.cell (i:=0) (by omega)
end Go.Proofs.YtdhinkgjiapigaaGreatDoor
