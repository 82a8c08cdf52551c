import Derived.Test.YtdhinkgjiapigaaGreatDoorDoS3
import Derived.Test.YtdhinkgjiapigaaGreatDoorSpec7
import Derived.Deep.RegionLaw
import Derived.Deep.AppendLies
import Derived.Test.YtdhinkgjiapigaaGreatDoorRunJ
namespace Go.Proofs.YtdhinkgjiapigaaGreatDoor
open Go.RowKit Go.Deep
open Classical
set_option maxRecDepth 100000 in
set_option maxHeartbeats 4000000 in
theorem specBegin_any (v1 v2 v3:Value) (p:PlanD) (w:World) (hp:PlanAt (In w) w v1 v2 v3 p) (hs:p.Small 1048576) :
  Calls Tryz.prog 26 #[.agg #[.int .i64 p.sections,v1,v2,v3,.int .i64 p.hold]] w fun e w'=>∃ u1 u2 u3,e = .returned (.agg #[.bool (beginOf p).ok,u1,u2,u3]) ∧ Below w.heap.size w w' ∧ FrameM (w.heap.size + 1) w' u1 u2 u3 (beginOf p):=by
 have T0:=boxes2 w 27 40 #[.int .i64 p.sections,v1,v2,v3,.int .i64 p.hold] #[.bool false,.slice none 0 0,.slice none 0 0,.slice none 0 0]
 have HK:=hide fun (W:World) (h:Below w.heap.size w W)=>hp.keep (Q:=In W) (In.keep h).1 (In.keep h).2
 have HS:=hide hs
 obtain ⟨⟨a1,c1,rfl,-⟩,⟨a2,c2,rfl,-⟩,⟨a3,c3,rfl,-⟩⟩:=id hp
 clear hp hs
 have b0:=T0.cell (j:=0) (i:=0) rfl rfl
 have b1:=T0.cell (j:=0) (i:=1) rfl rfl
 have b2:=T0.cell (j:=0) (i:=2) rfl rfl
 have b3:=T0.cell (j:=0) (i:=3) rfl rfl
 have b4:=T0.cell (j:=0) (i:=4) rfl rfl
 rw [Nat.add_zero] at b0 b1 b2 b3 b4
 go_enter Tryz.func26,Tryz.ntmps26
 go_wp2_with fail
 refine (l1ok_any _ _ _ p _ (HK.out _ T0.below) HS.out).mono ?_
 clear b0 b1 b2 b3 b4
 rintro e w1 ⟨rfl,hb⟩
 have T1:=T0.call hb
 clear T0 hb
 have r0:=T1.cell (j:=1) (i:=0) rfl rfl
 have r1:=T1.cell (j:=1) (i:=1) rfl rfl
 have r2:=T1.cell (j:=1) (i:=2) rfl rfl
 have r3:=T1.cell (j:=1) (i:=3) rfl rfl
 have k0:=T1.frozen (j:=1) 0 rfl
 have k1:=T1.frozen (j:=1) 1 rfl
 have k2:=T1.frozen (j:=1) 2 rfl
 have k3:=T1.frozen (j:=1) 3 rfl
 by_cases hr:Right p
 case neg=>
  rw [B_false hr]
  have HR:=hide hr
  have HT:=hide T1.below
  clear hr T1
  go_wp2
  refine bodyPost_ret (v:=.agg #[.bool false,.slice none 0 0,.slice none 0 0,.slice none 0 0]) (by simp [results,Tryz.results26,go_sem,r0,r1,r2,r3]) rfl ?_
  have hz:beginOf p = noFrame:=if_neg HR.out
  rw [hz]
  have pz:w.heap.size ≤ w.heap.size + 1:=by omega
  exact ⟨_,_,_,rfl,(((HT.out.setCell (p:=⟨w.heap.size + 1,0,none⟩) pz _).setCell (p:=⟨w.heap.size + 1,1,none⟩) pz _).setCell (p:=⟨w.heap.size + 1,2,none⟩) pz _).setCell (p:=⟨w.heap.size + 1,3,none⟩) pz _,noFrameM _ _⟩
 rw [B_true hr]
 have hpr:=hr.parts
 have HR:=hide hr
 have hsec:1 ≤ p.sections ∧ p.sections ≤ 60:=hpr.1.1
 obtain ⟨n,hn⟩:∃ n:Nat,p.sections = n:=⟨p.sections.toNat,by omega⟩
 have hway:∀ x ∈ p.ways,1 ≤ x.sections.length ∧ x.sections.length ≤ 30:=fun x hx=>by
  obtain ⟨i,hi⟩:=List.getElem?_of_mem hx
  have hw:=Right.way HR.out hi
  refine ⟨?_,hw.2.1.2⟩
  rcases Nat.eq_zero_or_pos x.sections.length with e | e
  ·exact absurd (List.length_eq_zero_iff.1 e) hw.1
  ·exact e
 have HWAY:=hide hway
 have hsw:p.switches.length ≤ 40:=hpr.1.2.1
 have hwl:p.ways.length ≤ 100:=hpr.1.2.2.1
 have hmk:=run_make_row' (P:=Tryz.prog) 36 4 (.bool false) 1 Tryz.underlying36 Tryz.infoBool rfl .i64 .i64 n (by omega) (by omega)
 have q0:=T1.cell (j:=0) (i:=0) rfl rfl
 rw [Nat.add_zero] at q0
 rw [hn] at q0 hsec ⊢
 have HN:=hide hn
 have HT1:=hide T1
 have hz1:w.heap.size + 1 < w1.heap.size:=T1.lt (j:=1) rfl
 have T3:=(T1.call (below_new w1 (.cells (madeCells #[.bool false] n) 4))).call (below_new _ (.cells #[.bool true,.slice (some ⟨w1.heap.size,0,none⟩) n n,.slice none 0 0,.slice none 0 0] 40))
 have q1:=T3.cell (j:=0) (i:=1) rfl rfl
 rw [Nat.add_zero] at q1
 have hbo:=made_bools (W:=w1) (n:=n) (by omega)
 have BF0:BegF w #[.int .i64 p.sections,.slice a1 p.switches.length c1,.slice a2 p.ways.length c2,.slice a3 p.bars.length c3,.int .i64 p.hold] n (w1.heap.size + 1) ((w1.alloc (.cells (madeCells #[.bool false] n) 4)).alloc (.cells #[.bool true,.slice (some ⟨w1.heap.size,0,none⟩) n n,.slice none 0 0,.slice none 0 0] 40)) (.slice (some ⟨w1.heap.size,0,none⟩) n n) (.slice none 0 0) (.slice none 0 0) w1.heap.size:=by
  refine ⟨T3.below,T3.row 0 _ _ rfl,⟨_,T3.row 1 _ _ rfl⟩,?_,hbo.but (K:=fun _=>True) (But.of_calls (below_new _ _)) trivial,hz1,Nat.lt_succ_self _⟩
  have:=rowIs_new (w1.alloc (.cells (madeCells #[.bool false] n) 4)) 40 #[.bool true,.slice (some ⟨w1.heap.size,0,none⟩) n n,.slice none 0 0,.slice none 0 0]
  rw [World.size_alloc] at this
  exact this
 have HBF:=hide BF0
 clear hr hpr hway hn T1 r0 r1 r2 r3 k0 k1 k2 k3 T3 BF0 hbo HT1
 go_wp2
 clear q0 q1
 generalize hW3:((w1.alloc (.cells (madeCells #[.bool false] n) 4)).alloc (.cells #[.bool true,.slice (some ⟨w1.heap.size,0,none⟩) n n,.slice none 0 0,.slice none 0 0] 40)) = W3 at HBF ⊢
 obtain ⟨fb,hfb⟩:∃ fb,fb = w1.heap.size + 1:=⟨_,rfl⟩
 obtain ⟨bo,hbo⟩:∃ bo,bo = w1.heap.size:=⟨_,rfl⟩
 rw [← hfb,← hbo] at HBF ⊢
 obtain ⟨pc,hpc⟩:∃ pc:Array Value,pc = #[.int .i64 p.sections,.slice a1 p.switches.length c1,.slice a2 p.ways.length c2,.slice a3 p.bars.length c3,.int .i64 p.hold]:=⟨_,rfl⟩
 rw [← hpc] at HBF
 have HPC:=hide hpc
 have HBO:Hid (w.heap.size + 1 < bo):=by show w.heap.size + 1 < bo; omega
 have HFB:Hid (w.heap.size + 1 < fb):=by show w.heap.size + 1 < fb; omega
 clear hW3 hpc hfb hbo hz1 w1
 go_loopw [17] (fun z wr=>∃ (k:Nat) (u2:Value),k ≤ p.switches.length ∧ z = .int .i64 k ∧ BegF w pc n fb wr (.slice (some ⟨bo,0,none⟩) n n) u2 (.slice none 0 0) bo ∧ wr.ownsRow (fb + 1) 46 2 u2 k (cells2 (List.replicate k (1,1)))) (fun z _=>p.switches.length - (intOf z).toNat)
 case atStart=>exact ⟨0,_,Nat.zero_le _,rfl,HBF.out,World.ownsRow_nil _ _ _ _⟩
 case round=>
  obtain ⟨k,u2,hk,rfl,hbf,hown⟩:=hrel
  rename World=>wA
  obtain ⟨a5,c5,rfl⟩:=own_slice hown
  by_cases hlt:k < p.switches.length
  ·have y2:wA.cell? ⟨fb,2,none⟩ = some (.slice a5 k c5):=hbf.out.cell (i:=2) (by omega)
   have hfl:fb < wA.heap.size:=hbf.out.lt
   have hbn:=below_new wA (.cells #[.int .i64 1,.int .i64 1] 46)
   have OWY:=hide (own_but (K:=fun _=>True) hown (But.of_calls hbn) fun _ _=>trivial)
   have SRC:Hid (1 = 0 ∨ ∃ A,(some (⟨wA.heap.size,0,none⟩:Addr)) = some A ∧ ∀ j u,([.int .i64 1,.int .i64 1]:List Value)[j]? = some u → (wA.alloc (.cells #[.int .i64 1,.int .i64 1] 46)).cell? (A.add j) = some u):=by
    refine .inr ⟨_,rfl,fun j u hj=>?_⟩
    rw [addr_add,Nat.zero_add]
    have hj1:j < 2:=(List.getElem?_eq_some_iff.1 hj).1
    rw [(rowIs_new wA 46 #[.int .i64 1,.int .i64 1]).cell (by simpa using hj1)]
    rcases j with _ | _ | j
    ·exact hj
    ·exact hj
    ·omega
   have ONE:Hid (∀ u ∈ ([.int .i64 1,.int .i64 1]:List Value),u.oneCell' = true):=by
    intro u hu
    simp at hu
    subst hu
    rfl
   have HM7:Hid (k + 1 ≤ maxLen):=by show k + 1 ≤ maxLen; unfold maxLen; omega
   have HM8:Hid ((k + 1) * 16 ≤ 140737488355328):=by show (k + 1) * 16 ≤ 140737488355328; omega
   have HZY:Hid (fb + 1 ≤ (wA.alloc (.cells #[.int .i64 1,.int .i64 1] 46)).heap.size):=by show fb + 1 ≤ _; rw [World.size_alloc]; omega
   obtain ⟨xs,hxs⟩:∃ xs,xs = cells2 (List.replicate k (1,1)):=⟨_,rfl⟩
   have HXS:=hide hxs
   rw [← hxs] at OWY
   have HBA:=hide hbf
   have HBN:=hide hbn
   clear hxs hbf hown hbn
   go_wp2_with (at_builtin; refine wpList_append_any rfl _ _ 37 rfl (fb + 1) 46 (.agg #[.int .i64 0,.int .i64 0]) 2 16 Tryz.underlying37 Tryz.infoPoint rfl (by decide) (.slice a5 k c5) k xs rfl OWY.out (some ⟨wA.heap.size,0,none⟩) 1 1 [.int .i64 1,.int .i64 1] rfl rfl SRC.out ONE.out HM7.out HM8.out HZY.out ?_)
   intro u5 w5 hown5 hgr5
   obtain ⟨a6,c6,rfl⟩:=own_slice hown5
   have BF5:=(HBA.out.call HBN.out).but (K:=fun c=>c < fb + 1) (But.of_below (own_snoc OWY.out hgr5 (Nat.le_refl _) HZY.out) fun _ _ z=>z) fun _ z=>z
   have y3:w5.cell? ⟨fb,2,none⟩ = some (.slice a5 k c5):=BF5.out.cell (i:=2) (by omega)
   have z3:=BF5.out.frozen 2
   have FIN:=hide (And.intro (BF5.lay2 (.slice a6 (k + 1) c6)) (show (w5.setCell ⟨fb,2,none⟩ (.slice a6 (k + 1) c6)).ownsRow (fb + 1) 46 2 (.slice a6 (k + 1) c6) (k + 1) (cells2 (List.replicate (k + 1) (1,1))) by
    rw [← cells2_ones,← HXS.out]
    exact own_far (K:=fun c=>c ≠ fb) hown5 ((But.refl _ _).setCell (fun z=>z rfl) _) fun c hc _=>by omega))
   clear BF5 hown5 hgr5 OWY SRC ONE HBA HBN y2
   go_wp2
   go_roundw
   case rel=>exact ⟨k + 1,_,by omega,by go_num,FIN.out.1,FIN.out.2⟩
   case measure=>simp [intOf]; omega
  ·obtain rfl:k = p.switches.length:=by omega
   obtain ⟨bp,hOP,hbp⟩:=own_points (l:=List.replicate p.switches.length (1,1)) hown (by rw [List.length_replicate])
   have hl2:(List.replicate p.switches.length ((1,1):Int × Int)).length = p.switches.length:=List.length_replicate
   have HOP:=hide hOP
   have HBP:=hide hbp
   have HBA:=hide hbf
   have x2:wA.cell? ⟨w.heap.size,2,none⟩ = some (.slice a2 p.ways.length c2):=by have:=hbf.box.cell (i:=2) (by omega); rw [HPC.out] at this; exact this
   clear hown hbf hOP hbp hlt hk
   go_wp2
   clear x2
   go_loopw [29] (fun z wr=>∃ (k:Nat) (xs:List Value) (u3:Value) (bb:Nat → Nat),k ≤ p.ways.length ∧ z = .int .i64 k ∧ BegF w pc n fb wr (.slice (some ⟨bo,0,none⟩) n n) (.slice a5 p.switches.length c5) u3 bo ∧ OPoints wr (.slice a5 p.switches.length c5) (List.replicate p.switches.length (1,1)) bp ∧
    wr.ownsRow (fb + 1) 44 5 u3 k xs ∧ HeldsX wr (fb + 1) (idles p.ways) k xs bb ∧ (∀ i j,i < k → j < k → bb i = bb j → i = j)) (fun z _=>p.ways.length - (intOf z).toNat)
   case atStart=>exact ⟨0,[],.slice none 0 0,fun _=>0,Nat.zero_le _,rfl,HBA.out,HOP.out,World.ownsRow_nil _ _ _ _,fun j _ hj=>by omega,fun i j hi=>by omega⟩
   case round=>
    obtain ⟨k,xs,u3,bb,hk,rfl,hbf,hop,hown,hX,hinj⟩:=hrel
    rename World=>wB
    obtain ⟨a7,c7,rfl⟩:=own_slice hown
    by_cases hlt:k < p.ways.length
    ·obtain ⟨x,hx⟩:=get_some p.ways (hide rfl) hlt
     obtain ⟨-,hW,-⟩:=HK.out wB hbf.below
     obtain ⟨aw,cw,ew,hcw⟩:=hW
     cases ew
     obtain h0 | ⟨b2,o2,rfl,-,hcw⟩:=hcw
     ·omega
     obtain ⟨v0,v1,v2,v3,v4,hxa,g0,g1,g2,g3,g4⟩:=hcw k hlt x hx
     obtain ⟨s0,e0,rfl⟩:=hxa.1.size
     obtain ⟨s1,e1,rfl⟩:=hxa.2.1.size
     obtain ⟨s2,e2,rfl⟩:=hxa.2.2.1.size
     obtain ⟨s3,e3,rfl⟩:=hxa.2.2.2.1.size
     obtain ⟨s4,e4,rfl⟩:=hxa.2.2.2.2.size
     have hxl:=HWAY.out x (List.mem_of_getElem? hx)
     have hmk2:=run_make_row' (P:=Tryz.prog) 36 4 (.bool false) 1 Tryz.underlying36 Tryz.infoBool rfl .i64 .i64 x.sections.length (by omega) (by omega)
     have hfl:fb < wB.heap.size:=hbf.out.lt
     have hbn:=below_new wB (.cells #[.slice s0 x.sections.length e0,.slice s1 x.lies.length e1,.slice s2 x.flanks.length e2,.slice s3 x.over.length e3,.slice s4 x.near.length e4] 51)
     have y3:(wB.alloc (.cells #[.slice s0 x.sections.length e0,.slice s1 x.lies.length e1,.slice s2 x.flanks.length e2,.slice s3 x.over.length e3,.slice s4 x.near.length e4] 51)).cell? ⟨fb,3,none⟩ = some (.slice a7 k c7):=(hbf.call hbn).out.cell (i:=3) (by omega)
     have z3:=(hbf.call hbn).out.frozen 3
     have yw:(wB.alloc (.cells #[.slice s0 x.sections.length e0,.slice s1 x.lies.length e1,.slice s2 x.flanks.length e2,.slice s3 x.over.length e3,.slice s4 x.near.length e4] 51)).cell? ⟨wB.heap.size,0,none⟩ = some (.slice s0 x.sections.length e0):=by simp
     have Hx:=hide hx
     have HBB:=hide hbf
     have HOPB:=hide hop
     have HOW:=hide hown
     have HX:=hide hX
     have HIN:=hide hinj
     clear hx hcw hxa hbf hop hown hX hinj
     obtain ⟨i0,hi0,hz0,hz1,hz2⟩:=info_parts Tryz.infoHeld
     obtain ⟨WY,hWY⟩:∃ W,W = ((((wB.alloc (.cells #[.slice s0 x.sections.length e0,.slice s1 x.lies.length e1,.slice s2 x.flanks.length e2,.slice s3 x.over.length e3,.slice s4 x.near.length e4] 51)).alloc (.cells (madeCells #[.bool false] x.sections.length) 4)).alloc (.cells #[.int .i64 0,.int .i64 0,.slice (some ⟨wB.heap.size + 1,0,none⟩) x.sections.length x.sections.length,.bool false,.int .i64 0] 44)).drew):=⟨_,rfl⟩
     have C3:=boxes3 wB 51 4 44 #[.slice s0 x.sections.length e0,.slice s1 x.lies.length e1,.slice s2 x.flanks.length e2,.slice s3 x.over.length e3,.slice s4 x.near.length e4] (madeCells #[.bool false] x.sections.length) #[.int .i64 0,.int .i64 0,.slice (some ⟨wB.heap.size + 1,0,none⟩) x.sections.length x.sections.length,.bool false,.int .i64 0]
     have C4:=C3.call (below_drew _)
     rw [← hWY] at C4
     have HZW:Hid (WY.heap.size = wB.heap.size + 1 + 1 + 1):=by show WY.heap.size = _; rw [hWY]; simp
     have OWY:=hide (own_but (K:=fun _=>True) HOW.out (But.of_calls C4.below) fun _ _=>trivial)
     have SRC:Hid (∀ j u,([.int .i64 0,.int .i64 0,.slice (some ⟨wB.heap.size + 1,0,none⟩) x.sections.length x.sections.length,.bool false,.int .i64 0]:List Value)[j]? = some u → WY.cell? ((⟨wB.heap.size + 1 + 1,0,none⟩:Addr).add j) = some u):=by
      intro j u hj
      rw [addr_add,Nat.zero_add]
      have hj5:j < 5:=(List.getElem?_eq_some_iff.1 hj).1
      rw [(C4.row 2 _ _ rfl).cell (by simpa using hj5)]
      rcases j with _ | _ | _ | _ | _ | j
      ·exact hj
      ·exact hj
      ·exact hj
      ·exact hj
      ·exact hj
      ·omega
     have ONE:Hid (∀ u ∈ ([.int .i64 0,.int .i64 0,.slice (some ⟨wB.heap.size + 1,0,none⟩) x.sections.length x.sections.length,.bool false,.int .i64 0]:List Value),u.oneCell' = true):=by
      intro u hu
      simp at hu
      rcases hu with rfl | rfl | rfl | rfl <;> rfl
     have HM7:Hid (k + 1 ≤ maxLen):=by show k + 1 ≤ maxLen; unfold maxLen; omega
     have HM8:Hid ((k + 1) * 56 ≤ 140737488355328):=by show (k + 1) * 56 ≤ 140737488355328; omega
     have HZY:Hid (fb + 1 ≤ WY.heap.size):=by show fb + 1 ≤ WY.heap.size; rw [HZW.out]; omega
     have HC4:=hide C4
     have hfar:∀ w5:World,WY.grownBy w5 (Value.slice a7 k c7).ownBlock → BegF w pc n fb w5 (.slice (some ⟨bo,0,none⟩) n n) (.slice a5 p.switches.length c5) (.slice a7 k c7) bo ∧ w5.cell? ⟨wB.heap.size,0,none⟩ = some (.slice s0 x.sections.length e0):=fun w5 hg=>by
      refine ⟨(HBB.out.call HC4.out.below).but (K:=fun c=>c < fb + 1) (But.of_below (own_snoc OWY.out hg (Nat.le_refl _) HZY.out) fun _ _ z=>z) fun _ z=>z,?_⟩
      rw [hg.cell_far ⟨wB.heap.size,0,none⟩ (by show wB.heap.size < _; rw [HZW.out]; omega) (fun e=>by have:=(own_block HOW.out e.symm).2.1; simp at this)]
      exact HC4.out.cell (j:=0) (i:=0) rfl rfl
     have HFAR:=hide hfar
     have HMB:Hid (OBools WY (.slice (some ⟨wB.heap.size + 1,0,none⟩) x.sections.length x.sections.length) (idleD x.sections.length).been (wB.heap.size + 1)):=by
      have:=made_bools (W:=wB.alloc (.cells #[.slice s0 x.sections.length e0,.slice s1 x.lies.length e1,.slice s2 x.flanks.length e2,.slice s3 x.over.length e3,.slice s4 x.near.length e4] 51)) (n:=x.sections.length) (by omega)
      rw [World.size_alloc] at this
      show OBools WY _ _ _
      rw [hWY]
      exact (this.but (K:=fun _=>True) (But.of_calls (below_new _ _)) trivial).but (K:=fun _=>True) (But.of_calls (below_drew _)) trivial
     have hlj:∀ j,j < k → bb j < wB.heap.size ∧ fb + 1 ≤ bb j:=fun j hj=>by
      obtain ⟨y,hy⟩:=get_some (idles p.ways) (hide (idles_length _)) (show j < p.ways.length by omega)
      obtain ⟨_,_,⟨_,_,hu⟩,_,_,hm⟩:=HX.out j y hj hy
      exact ⟨hu.lt,hm⟩
     have hfin:∀ (w5:World) (g5 c5':Nat),WY.grownBy w5 (Value.slice a7 k c7).ownBlock → w5.ownsRow (fb + 1) 44 5 (.slice (some ⟨g5,0,none⟩) (k + 1) c5') (k + 1) (xs ++ [.int .i64 0,.int .i64 0,.slice (some ⟨wB.heap.size + 1,0,none⟩) x.sections.length x.sections.length,.bool false,.int .i64 0]) →
       BegF w pc n fb (w5.setCell ⟨fb,3,none⟩ (.slice (some ⟨g5,0,none⟩) (k + 1) c5')) (.slice (some ⟨bo,0,none⟩) n n) (.slice a5 p.switches.length c5) (.slice (some ⟨g5,0,none⟩) (k + 1) c5') bo ∧ OPoints (w5.setCell ⟨fb,3,none⟩ (.slice (some ⟨g5,0,none⟩) (k + 1) c5')) (.slice a5 p.switches.length c5) (List.replicate p.switches.length (1,1)) bp ∧
       (w5.setCell ⟨fb,3,none⟩ (.slice (some ⟨g5,0,none⟩) (k + 1) c5')).ownsRow (fb + 1) 44 5 (.slice (some ⟨g5,0,none⟩) (k + 1) c5') (k + 1) (xs ++ [.int .i64 0,.int .i64 0,.slice (some ⟨wB.heap.size + 1,0,none⟩) x.sections.length x.sections.length,.bool false,.int .i64 0]) ∧
       HeldsX (w5.setCell ⟨fb,3,none⟩ (.slice (some ⟨g5,0,none⟩) (k + 1) c5')) (fb + 1) (idles p.ways) (k + 1) (xs ++ [.int .i64 0,.int .i64 0,.slice (some ⟨wB.heap.size + 1,0,none⟩) x.sections.length x.sections.length,.bool false,.int .i64 0]) (fun j=>if j = k then wB.heap.size + 1 else bb j) ∧
       ∀ i j,i < k + 1 → j < k + 1 → (if i = k then wB.heap.size + 1 else bb i) = (if j = k then wB.heap.size + 1 else bb j) → i = j:=fun w5 g5 c5' hg ho=>by
      have hnb:∀ c,c ≠ fb → c ≠ (⟨fb,3,none⟩:Addr).block:=fun c hc=>hc
      have hO:∀ {v:Value} {l:List Bool} {b:Nat},OBools WY v l b → b ≠ fb → OBools (w5.setCell ⟨fb,3,none⟩ (.slice (some ⟨g5,0,none⟩) (k + 1) c5')) v l b:=fun hb hne=>(hb.held hg OWY.out).of_block (Below.heap_setCell _ _ _ _ (hnb _ hne))
      refine ⟨(HFAR.out w5 hg).1.lay3 _,?_,own_far (K:=fun c=>c ≠ fb) ho ((But.refl _ _).setCell (fun z=>z rfl) _) fun c hc _=>by omega,?_,fun i j hi hj=>?_⟩
      ·refine (OPoints.held (HOPB.out.but (K:=fun _=>True) (But.of_calls HC4.out.below) fun _=>trivial) hg OWY.out).but (K:=fun c=>c ≠ fb) ((But.refl _ _).setCell (fun z=>z rfl) _) fun z=>?_
       have:=HBP.out z; omega
      ·exact HeldsX.snoc (W':=w5.setCell ⟨fb,3,none⟩ (.slice (some ⟨g5,0,none⟩) (k + 1) c5')) HX.out HOW.out.1 (idles_get Hx.out) (hO HMB.out (by omega)) (by omega) fun j y v hj hy hv=>hO (hv.but (K:=fun _=>True) (But.of_calls HC4.out.below) trivial) (by have:=(hlj j hj).2; omega)
      ·by_cases e1:i = k <;> by_cases e2:j = k
       ·intro _; omega
       ·rw [if_pos e1,if_neg e2]; intro z; have:=(hlj j (by omega)).1; omega
       ·rw [if_neg e1,if_pos e2]; intro z; have:=(hlj i (by omega)).1; omega
       ·rw [if_neg e1,if_neg e2]; exact HIN.out i j (by omega) (by omega)
     have HFIN:=hide hfin
     clear hfin hlj
     rw [hWY] at OWY SRC HZY HFAR HFIN
     have y3a:((wB.alloc (.cells #[.slice s0 x.sections.length e0,.slice s1 x.lies.length e1,.slice s2 x.flanks.length e2,.slice s3 x.over.length e3,.slice s4 x.near.length e4] 51)).alloc (.cells (madeCells #[.bool false] x.sections.length) 4)).cell? ⟨fb,3,none⟩ = some (.slice a7 k c7):=(HBB.out.call (boxes2 wB 51 4 _ _).below).out.cell (i:=3) (by omega)
     have y3b:(((wB.alloc (.cells #[.slice s0 x.sections.length e0,.slice s1 x.lies.length e1,.slice s2 x.flanks.length e2,.slice s3 x.over.length e3,.slice s4 x.near.length e4] 51)).alloc (.cells (madeCells #[.bool false] x.sections.length) 4)).alloc (.cells #[.int .i64 0,.int .i64 0,.slice (some ⟨wB.heap.size + 1,0,none⟩) x.sections.length x.sections.length,.bool false,.int .i64 0] 44)).cell? ⟨fb,3,none⟩ = some (.slice a7 k c7):=(HBB.out.call C3.below).out.cell (i:=3) (by omega)
     have HWY:=hide hWY
     clear C3 C4 hfar hWY
     go_wp2_with fail
     clear g0 g1 g2 g3 g4
     go_region_law
      ((refine step_append_lies _ (by rfl) _ _ _ (by rfl) (fb + 1) 44 i0 _ 5 56 Tryz.underlying38 hi0 hz0 hz1 hz2 rfl (by omega) (.slice a7 k c7) k xs (by rfl) OWY.out ⟨wB.heap.size + 1 + 1,0,none⟩ 1 1 [.int .i64 0,.int .i64 0,.slice (some ⟨wB.heap.size + 1,0,none⟩) x.sections.length x.sections.length,.bool false,.int .i64 0] (by rfl) (by rfl) SRC.out ONE.out (by omega) HM7.out HM8.out HZY.out (wB.heap.size + 1 + 1 + 1) (by simp) ?_; intro g5 c5' w5 hown5 hgr5 hat5 hlt5; have BF5:=(HFAR.out w5 hgr5).1; have y5:w5.cell? ⟨fb,3,none⟩ = some (.slice a7 k c7):=BF5.out.cell (i:=3) (by omega); have z5:=BF5.out.frozen 3; have yw5:=(HFAR.out w5 hgr5).2))
     all_goals
      go_wp2
      go_roundw
      case rel=>exact ⟨k + 1,_,_,_,by omega,by go_num,HFIN.out w5 _ _ hgr5 hown5⟩
      case measure=>simp [intOf]; omega
    ·obtain rfl:k = p.ways.length:=by omega
     obtain ⟨bw,hOH,hbw⟩:=own_helds hown hX (idles_length _).symm
     obtain ⟨gR,hR⟩:=hbf.res
     have t0:wB.cell? ⟨fb,0,none⟩ = some (.bool true):=hbf.out.cell (i:=0) (by omega)
     have t1:wB.cell? ⟨fb,1,none⟩ = some (.slice (some ⟨bo,0,none⟩) n n):=hbf.out.cell (i:=1) (by omega)
     have t2:wB.cell? ⟨fb,2,none⟩ = some (.slice a5 p.switches.length c5):=hbf.out.cell (i:=2) (by omega)
     have t3:wB.cell? ⟨fb,3,none⟩ = some (.slice a7 p.ways.length c7):=hbf.out.cell (i:=3) (by omega)
     have r0:=hR.cell (i:=0) (by omega)
     have r1:=hR.cell (i:=1) (by omega)
     have r2:=hR.cell (i:=2) (by omega)
     have r3:=hR.cell (i:=3) (by omega)
     have k0:=hR.frozen 0
     have k1:=hR.frozen 1
     have k2:=hR.frozen 2
     have k3:=hR.frozen 3
     have fr:OFrame (fun c=>w.heap.size + 1 + 1 ≤ c) wB (.slice (some ⟨bo,0,none⟩) n n) (.slice a5 p.switches.length c5) (.slice a7 p.ways.length c7) (beginD p) bo bp bw bb:=by
      refine ⟨?_,hop,?_,hbf.po,fun z=>?_,fun z=>?_,fun i hi=>?_,fun i j hi hj=>hinj i j ?_ ?_,fun i hi=>?_⟩
      ·show OBools wB _ (List.replicate p.sections.toNat false) bo
       rw [HN.out,Int.toNat_natCast]
       exact hbf.occ
      ·exact hOH
      ·have:=HBP.out z; have:=hbf.po; have:=hbf.pf; omega
      ·have:=hbw z; have:=hbf.po; have:=hbf.pf; omega
      ·obtain ⟨y,hy⟩:=get_some (idles p.ways) (hide rfl) hi
       have:=(hX i y (by rw [← idles_length]; exact hi) hy).2.2.2.2.2
       have:=hbf.po; have:=hbf.pf; omega
      ·rw [← idles_length]; exact hi
      ·rw [← idles_length]; exact hj
      ·obtain ⟨y,hy⟩:=get_some (idles p.ways) (hide rfl) hi
       have:=(hX i y (by rw [← idles_length]; exact hi) hy).2.2.2.2.2
       have:=hbf.pf; omega
     have HFR:=hide fr
     have HBW:=hide hbf.below
     clear fr hR hOH hbw hX hinj hown hop hbf hlt
     go_wp2
     refine bodyPost_ret (v:=.agg #[.bool true,.slice (some ⟨bo,0,none⟩) n n,.slice a5 p.switches.length c5,.slice a7 p.ways.length c7]) (by simp [results,Tryz.results26,go_sem,r0,r1,r2,r3]) rfl ?_
     have hz:beginOf p = beginD p:=if_pos HR.out
     rw [hz]
     have pz:w.heap.size ≤ w.heap.size + 1:=by omega
     have hk:∀ o:Nat,¬ ((fun c=>c ≠ w.heap.size + 1) (⟨w.heap.size + 1,o,none⟩:Addr).block):=fun o z=>z rfl
     refine ⟨_,_,_,rfl,(((HBW.out.setCell (p:=⟨w.heap.size + 1,0,none⟩) pz _).setCell (p:=⟨w.heap.size + 1,1,none⟩) pz _).setCell (p:=⟨w.heap.size + 1,2,none⟩) pz _).setCell (p:=⟨w.heap.size + 1,3,none⟩) pz _,.inl ⟨bo,bp,bw,bb,?_⟩⟩
     exact HFR.out.but (Q:=fun c=>w.heap.size + 1 ≤ c) (((((But.refl (fun c=>c ≠ w.heap.size + 1) wB).setCell (hk 0) _).setCell (hk 1) _).setCell (hk 2) _).setCell (hk 3) _) (fun c hc=>by omega) fun c hc=>by omega
end Go.Proofs.YtdhinkgjiapigaaGreatDoor
namespace Go.Proofs.YtdhinkgjiapigaaGreatDoor
open Go.RowKit Go.Deep
open Classical
theorem RunB.put {w:World} {pc:Array Value} {fb:Nat} {W:World} {v:Value} {xs:List Value} {lo:Nat → Nat} {l:List (Int × FrameD)} {f x:FrameD} {u1 u2 u3 n1 n2 n3:Value} {bo bp bw:Nat} {bb:Nat → Nat} {P:Nat → Prop} (h:RunB w pc fb W v xs lo l f u1 u2 u3) (hF:OFrame P W n1 n2 n3 x bo bp bw bb) (hl:∀ c,P c → w.heap.size ≤ c) :
  RunB w pc fb ((((W.setCell ⟨fb,0,none⟩ (.bool x.ok)).setCell ⟨fb,1,none⟩ n1).setCell ⟨fb,2,none⟩ n2).setCell ⟨fb,3,none⟩ n3) v xs lo l x n1 n2 n3 ∧ OFrame P ((((W.setCell ⟨fb,0,none⟩ (.bool x.ok)).setCell ⟨fb,1,none⟩ n1).setCell ⟨fb,2,none⟩ n2).setCell ⟨fb,3,none⟩ n3) n1 n2 n3 x bo bp bw bb ∧ But (fun c=>c ≠ fb) W ((((W.setCell ⟨fb,0,none⟩ (.bool x.ok)).setCell ⟨fb,1,none⟩ n1).setCell ⟨fb,2,none⟩ n2).setCell ⟨fb,3,none⟩ n3):=by
 have hj:∀ o:Nat,¬ ((fun c=>c ≠ fb) (⟨fb,o,none⟩:Addr).block):=fun o z=>z rfl
 have hB:=((((But.refl (fun c=>c ≠ fb) W).setCell (hj 0) (.bool x.ok)).setCell (hj 1) n1).setCell (hj 2) n2).setCell (hj 3) n3
 have hbx:∀ (P:Nat → Prop) v1 v2 v3 d bo bp bw bb,OFrame P W v1 v2 v3 d bo bp bw bb → OFrame P ((((W.setCell ⟨fb,0,none⟩ (.bool x.ok)).setCell ⟨fb,1,none⟩ n1).setCell ⟨fb,2,none⟩ n2).setCell ⟨fb,3,none⟩ n3) v1 v2 v3 d bo bp bw bb:=fun P v1 v2 v3 d bo bp bw bb k=>k.boxed h.fbox ⟨by decide,by decide,by decide⟩ hB fun _ z=>z
 refine ⟨⟨h.below.trans (hB.below h.below.size fun c hc=>by have:=h.fbl; omega),hB.row h.box (by have:=h.fbl; omega),?_,?_,h.dones.map hbx,⟨bo,bp,bw,bb,(hbx _ _ _ _ _ _ _ _ _ hF).but (K:=fun _=>True) (But.refl _ _) (fun _ _=>trivial) hl⟩,Nat.le_trans h.top hB.size,h.low,h.step,h.fbl⟩,hbx _ _ _ _ _ _ _ _ _ hF,hB⟩
 ·refine ((((h.fbox.set 0 _).set 1 _).set 2 _).set 3 _).congr fun i hi=>?_
  rcases i with _ | _ | _ | _ | i
  ·rfl
  ·rfl
  ·rfl
  ·rfl
  ·omega
 ·exact own_but h.own hB fun g hg' e=>(own_block h.own hg').2.2 _ _ _ _ h.fbox (by decide) e.symm
theorem RunB.add {w:World} {pc:Array Value} {fb hi:Nat} {W w5:World} {v v':Value} {xs:List Value} {lo:Nat → Nat} {l:List (Int × FrameD)} {f:FrameD} {u1 u2 u3 n1 n2 n3:Value} {x:Int × FrameD} {bo bp bw:Nat} {bb:Nat → Nat} (h:RunB w pc fb W v xs lo l f u1 u2 u3) (hF:OFrame (fun c=>lo l.length ≤ c ∧ c < hi) W n1 n2 n3 x.2 bo bp bw bb) (hhi:hi ≤ W.heap.size) (hlo:lo l.length ≤ hi)
  (hown:w5.ownsRow w.heap.size 42 5 v' (l.length + 1) (xs ++ [.int .i64 x.1,.bool x.2.ok,n1,n2,n3])) (hg:W.grownBy w5 v.ownBlock) :
  RunB w pc fb w5 v' (xs ++ [.int .i64 x.1,.bool x.2.ok,n1,n2,n3]) (fun j=>if j = l.length + 1 then hi else lo j) (l ++ [x]) f u1 u2 u3:=by
 have hBg:But (fun c=>some c ≠ v.ownBlock) W w5:=⟨hg.os,hg.tape,hg.output,hg.size,fun c hc hk=>hg.block c hc hk⟩
 have hty:∀ {b t N:Nat} {g:Nat → Value},W.rowIs b t N g → t ≠ 42 → some b ≠ v.ownBlock:=fun hr ht e=>(own_block h.own e.symm).2.2 _ _ _ _ hr ht rfl
 have hll:(l ++ [x]).length = l.length + 1:=by rw [List.length_append]; rfl
 have h5:Below w.heap.size w w5:=h.below.trans (own_snoc h.own hg (Nat.le_refl _) h.below.size)
 obtain ⟨bo',bp',bw',bb',hf⟩:=h.frame
 refine ⟨h5,hBg.row h.box (hty h.box (by decide)),hBg.row h.fbox (hty h.fbox (by decide)),by rw [hll]; exact hown,(h.dones.map fun P v1 v2 v3 d bo bp bw bb k=>k.grown hg h.own).snoc h.own.1 (hF.grown hg h.own),⟨bo',bp',bw',bb',hf.grown hg h.own⟩,?_,fun j=>?_,fun j hj'=>?_,h.fbl⟩
 ·rw [hll,if_pos rfl]
  exact Nat.le_trans hhi hBg.size
 ·by_cases e:j = l.length + 1
  ·rw [if_pos e]
   exact Nat.le_trans (h.low l.length) hlo
  ·rw [if_neg e]
   exact h.low j
 ·rw [hll] at hj'
  by_cases e:j = l.length
  ·rw [if_neg (show ¬ j = l.length + 1 by omega),if_pos (show j + 1 = l.length + 1 by omega),e]
   exact hlo
  ·rw [if_neg (show ¬ j = l.length + 1 by omega),if_neg (show ¬ j + 1 = l.length + 1 by omega)]
   exact h.step j (by omega)
set_option maxRecDepth 100000 in
set_option maxHeartbeats 8000000 in
theorem specRun_any (p1 p2 p3 ve:Value) (p:PlanD) (es:List (Int × Int × Int)) (w:World) (hp:PlanAt (In w) w p1 p2 p3 p) (hev:Evs (In w) w ve es) (hs:p.Small 1048576) (hes:es.length ≤ 1048576) :
  Calls Tryz.prog 13 #[.agg #[.int .i64 p.sections,p1,p2,p3,.int .i64 p.hold],ve] w fun e w'=>∃ v,e = .returned v ∧ Below w.heap.size w w' ∧ DonesR w w' v (runOf p es):=by
 have KP:=hide fun (W:World) (h:Below w.heap.size w W)=>hp.keep (Q:=In W) (In.keep h).1 (In.keep h).2
 have KE:=hide fun (W:World) (h:Below w.heap.size w W)=>hev.keep (Q:=In W) (In.keep h).1 (In.keep h).2
 obtain ⟨a1,c1,rfl⟩:=hp.1.size
 obtain ⟨a2,c2,rfl⟩:=hp.2.1.size
 obtain ⟨a3,c3,rfl⟩:=hp.2.2.size
 obtain ⟨ae,ce,rfl,-⟩:=id hev
 have T0:=boxes1 w 27 #[.int .i64 p.sections,.slice a1 p.switches.length c1,.slice a2 p.ways.length c2,.slice a3 p.bars.length c3,.int .i64 p.hold]
 have HS:=hide hs
 have hno:¬ (Right p ∧ es.length ≤ 1000) → runOf p es = []:=fun h=>if_neg h
 have HNO:=hide hno
 clear hp hev hs hno
 go_enter Tryz.func13,Tryz.ntmps13
 go_wp2_with fail
 refine (l1ok_any _ _ _ p _ (KP.out _ T0.below) HS.out).mono ?_
 rintro e w1 ⟨rfl,hb⟩
 have T1:=T0.call hb
 clear T0 hb
 by_cases hr:Right p
 case neg=>
  rw [B_false hr]
  have HNR:=hide (HNO.out fun z=>hr z.1)
  have HT:=hide T1.below
  clear hr T1
  go_wp2
  go_ret
  refine ⟨_,rfl,HT.out,?_⟩
  rw [HNR.out]
  exact donesR_nil HT.out.size
 rw [B_true hr]
 by_cases hl:es.length ≤ 1000
 case neg=>
  have HNR:=hide (HNO.out fun z=>hl z.2)
  have HT:=hide T1.below
  have hgt:(1000:Int) < (es.length:Int):=by omega
  have hgd:decide ((1000:Int) < (es.length:Int)) = true:=decide_eq_true hgt
  clear hr T1 hl hgt
  go_wp2
  go_ret
  refine ⟨_,rfl,HT.out,?_⟩
  rw [HNR.out]
  exact donesR_nil HT.out.size
 have HRUN:=hide (show runOf p es = runsD p (beginD p) es from if_pos ⟨hr,hl⟩)
 have hgd:decide ((1000:Int) < (es.length:Int)) = false:=decide_eq_false (by omega)
 have HR:=hide hr
 have m0:=T1.cell (j:=0) (i:=0) rfl rfl
 have m1:=T1.cell (j:=0) (i:=1) rfl rfl
 have m2:=T1.cell (j:=0) (i:=2) rfl rfl
 have m3:=T1.cell (j:=0) (i:=3) rfl rfl
 have m4:=T1.cell (j:=0) (i:=4) rfl rfl
 rw [Nat.add_zero] at m0 m1 m2 m3 m4
 have HBEG:=hide (specBegin_any _ _ _ p w1 (KP.out _ T1.below) HS.out)
 clear hr hl HNO
 go_wp2_with fail
 refine HBEG.out.mono ?_
 clear m0 m1 m2 m3 m4 HBEG
 rintro e w3 ⟨u1,u2,u3,rfl,hb,hfm⟩
 have hz:beginOf p = beginD p:=if_pos HR.out
 rw [hz] at hfm ⊢
 have T3:=T1.call hb
 obtain ⟨bo,bp,bw,bb,hF⟩:=hfm.own (frame_occ (begin_frame HR.out))
 obtain ⟨q1,s1,q2,s2,q3,s3,rfl,rfl,rfl⟩:=hfm.slices
 have hbn:=below_new w3 (.cells #[.bool (beginD p).ok,.slice q1 (beginD p).occ.length s1,.slice q2 (beginD p).points.length s2,.slice q3 (beginD p).ways.length s3] 40)
 have hrn:=rowIs_new w3 40 #[.bool (beginD p).ok,.slice q1 (beginD p).occ.length s1,.slice q2 (beginD p).points.length s2,.slice q3 (beginD p).ways.length s3]
 have T4:=T3.call hbn
 have RB:RunB w #[.int .i64 p.sections,.slice a1 p.switches.length c1,.slice a2 p.ways.length c2,.slice a3 p.bars.length c3,.int .i64 p.hold] w3.heap.size (w3.alloc (.cells #[.bool (beginD p).ok,.slice q1 (beginD p).occ.length s1,.slice q2 (beginD p).points.length s2,.slice q3 (beginD p).ways.length s3] 40)) (.slice none 0 0) [] (fun _=>(w3.alloc (.cells #[.bool (beginD p).ok,.slice q1 (beginD p).occ.length s1,.slice q2 (beginD p).points.length s2,.slice q3 (beginD p).ways.length s3] 40)).heap.size) [] (beginD p) (.slice q1 (beginD p).occ.length s1) (.slice q2 (beginD p).points.length s2) (.slice q3 (beginD p).ways.length s3):=
  ⟨T4.below,T4.row 0 _ _ rfl,hrn,World.ownsRow_nil _ _ _ _,(fun j _ hj=>by cases hj),⟨bo,bp,bw,bb,hF.but (K:=fun _=>True) (But.of_calls hbn) (fun _ _=>trivial) fun c hc=>by have:=T1.below.size; omega⟩,Nat.le_refl _,fun _=>T4.below.size,(fun j hj=>absurd hj (by show ¬ j < 0; omega)),T3.lt (j:=0) rfl⟩
 have HRB:=hide RB
 clear T3 T4 T1 hF hfm hb hbn hrn RB hz
 go_wp2
 obtain ⟨W4,hW4⟩:∃ W,W = w3.alloc (.cells #[.bool (beginD p).ok,.slice q1 (beginD p).occ.length s1,.slice q2 (beginD p).points.length s2,.slice q3 (beginD p).ways.length s3] 40):=⟨_,rfl⟩
 obtain ⟨fb,hfb⟩:∃ fb,fb = w3.heap.size:=⟨_,rfl⟩
 rw [← hW4,← hfb] at HRB
 rw [← hW4,← hfb]
 clear hW4 hfb w3
 obtain ⟨F,hF⟩:∃ F,F = beginD p:=⟨_,rfl⟩
 have HFF:=hide hF
 rw [← hF] at HRB
 clear hF
 go_loopw [6,22] (fun o z wr=>∃ (k:Nat) (xs:List Value) (lo:Nat → Nat) (u1 u2 u3:Value),k ≤ es.length ∧ z = .int .i64 k ∧ RunB w #[.int .i64 p.sections,.slice a1 p.switches.length c1,.slice a2 p.ways.length c2,.slice a3 p.bars.length c3,.int .i64 p.hold] fb wr o xs lo (runsD p F (es.take k)) (lastF F (runsD p F (es.take k))) u1 u2 u3) (fun _ z _=>es.length - (intOf z).toNat)
 case atStart=>exact ⟨0,_,_,_,_,_,Nat.zero_le _,rfl,HRB.out⟩
 case round=>
  obtain ⟨k,xs,lo,u1,u2,u3,hk,rfl,RB⟩:=hrel
  rename World=>wr
  rename Value=>vo
  have hlk:=runs_length p F es k hk
  obtain ⟨L,hL⟩:∃ L,L = runsD p F (es.take k):=⟨_,rfl⟩
  rw [← hL] at hlk RB
  obtain ⟨f,hf⟩:∃ f,f = lastF F L:=⟨_,rfl⟩
  rw [← hf] at RB
  have hfr:FrameR p f:=by
   have:=runs_frame HR.out es k hk
   rw [← HFF.out,← hL,← hf] at this
   exact this
  have HL:=hide hL
  have Hf:=hide hf
  clear hL hf HRB
  obtain ⟨a5,c5,e5⟩:=own_slice RB.own
  rw [hlk] at e5
  subst e5
  by_cases hlt:k < es.length
  ·obtain ⟨⟨op,of,lie⟩,hx⟩:=get_some es (hide rfl) hlt
   obtain ⟨ae',ce',e,h0 | ⟨be,oe,rfl,hbe,hce⟩⟩:=KE.out wr RB.below
   ·omega
   cases e
   obtain ⟨g0,g1,g2⟩:=hce k hlt _ hx
   simp only at g0 g1 g2
   obtain ⟨bo,bp,bw,bb,hF⟩:=RB.frame
   have hFA:=hF.read
   obtain ⟨o1,m1,rfl⟩:=hFA.1.size
   obtain ⟨o2,m2,rfl⟩:=hFA.2.1.size
   obtain ⟨o3,m3,rfl⟩:=hFA.2.2.size
   have hbn:=below_new wr (.cells #[.int .i64 op,.int .i64 of,.int .i64 lie] 55)
   have hrn:=rowIs_new wr 55 #[.int .i64 op,.int .i64 of,.int .i64 lie]
   have R1:=RB.call hbn
   have hFB:=(hF.bound (Q:=In wr) fun _ _ z=>z).read.keep (Q:=In (wr.alloc (.cells #[.int .i64 op,.int .i64 of,.int .i64 lie] 55))) (In.keep hbn).1 (In.keep hbn).2
   have KFB:=hide fun (W:World) (h:Below (wr.alloc (.cells #[.int .i64 op,.int .i64 of,.int .i64 lie] 55)).heap.size (wr.alloc (.cells #[.int .i64 op,.int .i64 of,.int .i64 lie] 55)) W)=>hFB.keep (Q:=In W) (In.keep h).1 (In.keep h).2
   have HRO:=hide (specDo_any _ _ _ _ _ _ p f op of lie (wr.alloc (.cells #[.int .i64 op,.int .i64 of,.int .i64 lie] 55)) (KP.out _ R1.below) hFB HS.out (frame_smalls hfr))
   have y0:(wr.alloc (.cells #[.int .i64 op,.int .i64 of,.int .i64 lie] 55)).cell? ⟨w.heap.size,0,none⟩ = some (.int .i64 p.sections):=R1.box.cell (i:=0) (by omega)
   have y1:(wr.alloc (.cells #[.int .i64 op,.int .i64 of,.int .i64 lie] 55)).cell? ⟨w.heap.size,1,none⟩ = some (.slice a1 p.switches.length c1):=R1.box.cell (i:=1) (by omega)
   have y2:(wr.alloc (.cells #[.int .i64 op,.int .i64 of,.int .i64 lie] 55)).cell? ⟨w.heap.size,2,none⟩ = some (.slice a2 p.ways.length c2):=R1.box.cell (i:=2) (by omega)
   have y3:(wr.alloc (.cells #[.int .i64 op,.int .i64 of,.int .i64 lie] 55)).cell? ⟨w.heap.size,3,none⟩ = some (.slice a3 p.bars.length c3):=R1.box.cell (i:=3) (by omega)
   have y4:(wr.alloc (.cells #[.int .i64 op,.int .i64 of,.int .i64 lie] 55)).cell? ⟨w.heap.size,4,none⟩ = some (.int .i64 p.hold):=R1.box.cell (i:=4) (by omega)
   have x0:(wr.alloc (.cells #[.int .i64 op,.int .i64 of,.int .i64 lie] 55)).cell? ⟨fb,0,none⟩ = some (.bool f.ok):=R1.fbox.cell (i:=0) (by omega)
   have x1:(wr.alloc (.cells #[.int .i64 op,.int .i64 of,.int .i64 lie] 55)).cell? ⟨fb,1,none⟩ = some (.slice o1 f.occ.length m1):=R1.fbox.cell (i:=1) (by omega)
   have x2:(wr.alloc (.cells #[.int .i64 op,.int .i64 of,.int .i64 lie] 55)).cell? ⟨fb,2,none⟩ = some (.slice o2 f.points.length m2):=R1.fbox.cell (i:=2) (by omega)
   have x3:(wr.alloc (.cells #[.int .i64 op,.int .i64 of,.int .i64 lie] 55)).cell? ⟨fb,3,none⟩ = some (.slice o3 f.ways.length m3):=R1.fbox.cell (i:=3) (by omega)
   have hkl:(k:Int) < (es.length:Int):=by omega
   have HX:=hide hx
   have HRB:=hide RB
   have HFR:=hide hfr
   have HBN:=hide hbn
   have hzb:=hbn.size
   obtain ⟨X,hX⟩:∃ X,X = stepD p f (op,of,lie):=⟨_,rfl⟩
   have HXX:=hide hX
   clear RB R1 hF hFA hFB hce hx hfr hbn hrn
   by_cases hev:EventD p.sections p.switches.length p.ways.length op of lie
   case pos=>
    have hdo:doOf p f op of lie = X:=by rw [hX,stepD_yes (show EvOf p (op,of,lie) from hev)]; exact if_pos ⟨HFR.out,hev⟩
    rw [hdo] at HRO
    have hxf:FrameR p X.2:=by rw [hX]; exact step_frame HFR.out _
    have hc1:X.1 ≠ 1:=by rw [hX,stepD_yes (show EvOf p (op,of,lie) from hev)]; exact evD_code _ _ _ _ _
    have hc2:(X.1 == 1) = false:=by simpa using hc1
    have hc3:decide (X.1 = 1) = false:=by simpa using hc1
    have HXF:=hide hxf
    clear hX hdo hev hxf
    go_wp2_with fail
    refine HRO.out.mono ?_
    clear y0 y1 y2 y3 y4 x0 x1 x2 x3 g0 g1 g2 HRO
    rintro e w2 ⟨n1,n2,n3,rfl,hb2,hm2⟩
    have hb12:Below wr.heap.size wr w2:=HBN.out.trans (hb2.mono HBN.out.size)
    obtain ⟨bo2,bp2,bw2,bb2,hF2⟩:=hm2.own (frame_occ HXF.out)
    obtain ⟨gO,NO,t1,rfl,-⟩:=id hF2.occ
    obtain ⟨a6,t2,rfl,-⟩:=id hF2.points
    obtain ⟨a7,t3,rfl,-⟩:=id hF2.ways
    have hn3:=below_new w2 (.cells #[.int .i64 X.1,.bool X.2.ok,.slice (some ⟨bo2,0,none⟩) X.2.occ.length t1,.slice a6 X.2.points.length t2,.slice a7 X.2.ways.length t3] 42)
    have hbd:=hb12.trans (hn3.mono hb12.size)
    have hdb:(w2.alloc (.cells #[.int .i64 X.1,.bool X.2.ok,.slice (some ⟨bo2,0,none⟩) X.2.occ.length t1,.slice a6 X.2.points.length t2,.slice a7 X.2.ways.length t3] 42)).rowIs w2.heap.size 42 5 (fun i=>(#[.int .i64 X.1,.bool X.2.ok,.slice (some ⟨bo2,0,none⟩) X.2.occ.length t1,.slice a6 X.2.points.length t2,.slice a7 X.2.ways.length t3]:Array Value)[i]!):=rowIs_new w2 42 #[.int .i64 X.1,.bool X.2.ok,.slice (some ⟨bo2,0,none⟩) X.2.occ.length t1,.slice a6 X.2.points.length t2,.slice a7 X.2.ways.length t3]
    have hFd:=(hF2.but (K:=fun _=>True) (Q:=fun c=>wr.heap.size ≤ c) (But.of_calls hn3) (fun _ _=>trivial) fun c hc=>by omega).bound fun c h1 h2=>And.intro h1 h2
    obtain ⟨Wd,hWd⟩:∃ W,W = w2.alloc (.cells #[.int .i64 X.1,.bool X.2.ok,.slice (some ⟨bo2,0,none⟩) X.2.occ.length t1,.slice a6 X.2.points.length t2,.slice a7 X.2.ways.length t3] 42):=⟨_,rfl⟩
    obtain ⟨db,hdbe⟩:∃ db,db = w2.heap.size:=⟨_,rfl⟩
    rw [← hWd] at hbd hdb hFd
    rw [← hdbe] at hdb
    have c0:Wd.cell? ⟨db,0,none⟩ = some (.int .i64 X.1):=hdb.cell (i:=0) (by simp)
    clear hn3 hF2 hm2 hb2 hb12
    go_upto_region 9 with fail
    rw [← hWd,← hdbe]
    clear hWd hdbe
    have R3:=HRB.out.call hbd
    have hf3:=R3.fbox
    have d0:Wd.cell? ⟨db,0,none⟩ = some (.int .i64 X.1):=hdb.cell (i:=0) (by omega)
    have d1:Wd.cell? ⟨db,1,none⟩ = some (.bool X.2.ok):=hdb.cell (i:=1) (by omega)
    have d2:Wd.cell? ⟨db,2,none⟩ = some (.slice (some ⟨bo2,0,none⟩) X.2.occ.length t1):=hdb.cell (i:=2) (by omega)
    have d3:Wd.cell? ⟨db,3,none⟩ = some (.slice a6 X.2.points.length t2):=hdb.cell (i:=3) (by omega)
    have d4:Wd.cell? ⟨db,4,none⟩ = some (.slice a7 X.2.ways.length t3):=hdb.cell (i:=4) (by omega)
    have x0:=hf3.cell (i:=0) (by omega)
    have x1:=hf3.cell (i:=1) (by omega)
    have x2:=hf3.cell (i:=2) (by omega)
    have x3:=hf3.cell (i:=3) (by omega)
    have k0:=hf3.frozen 0
    have k1:=hf3.frozen 1
    have k2:=hf3.frozen 2
    have k3:=hf3.frozen 3
    obtain ⟨RP,hFP,hBP⟩:=R3.put (x:=X.2) hFd fun c hc=>Nat.le_trans HRB.out.below.size hc.1
    have hne:db ≠ fb:=rowIs_ne hdb hf3 (by decide)
    have hdP:=hBP.row hdb hne
    have z0:((((Wd.setCell ⟨fb,0,none⟩ (.bool X.2.ok)).setCell ⟨fb,1,none⟩ (.slice (some ⟨bo2,0,none⟩) X.2.occ.length t1)).setCell ⟨fb,2,none⟩ (.slice a6 X.2.points.length t2)).setCell ⟨fb,3,none⟩ (.slice a7 X.2.ways.length t3)).cell? ⟨db,0,none⟩ = some (.int .i64 X.1):=hdP.cell (i:=0) (by omega)
    have z1:((((Wd.setCell ⟨fb,0,none⟩ (.bool X.2.ok)).setCell ⟨fb,1,none⟩ (.slice (some ⟨bo2,0,none⟩) X.2.occ.length t1)).setCell ⟨fb,2,none⟩ (.slice a6 X.2.points.length t2)).setCell ⟨fb,3,none⟩ (.slice a7 X.2.ways.length t3)).cell? ⟨db,1,none⟩ = some (.bool X.2.ok):=hdP.cell (i:=1) (by omega)
    have z2:((((Wd.setCell ⟨fb,0,none⟩ (.bool X.2.ok)).setCell ⟨fb,1,none⟩ (.slice (some ⟨bo2,0,none⟩) X.2.occ.length t1)).setCell ⟨fb,2,none⟩ (.slice a6 X.2.points.length t2)).setCell ⟨fb,3,none⟩ (.slice a7 X.2.ways.length t3)).cell? ⟨db,2,none⟩ = some (.slice (some ⟨bo2,0,none⟩) X.2.occ.length t1):=hdP.cell (i:=2) (by omega)
    have z3:((((Wd.setCell ⟨fb,0,none⟩ (.bool X.2.ok)).setCell ⟨fb,1,none⟩ (.slice (some ⟨bo2,0,none⟩) X.2.occ.length t1)).setCell ⟨fb,2,none⟩ (.slice a6 X.2.points.length t2)).setCell ⟨fb,3,none⟩ (.slice a7 X.2.ways.length t3)).cell? ⟨db,3,none⟩ = some (.slice a6 X.2.points.length t2):=hdP.cell (i:=3) (by omega)
    have z4:((((Wd.setCell ⟨fb,0,none⟩ (.bool X.2.ok)).setCell ⟨fb,1,none⟩ (.slice (some ⟨bo2,0,none⟩) X.2.occ.length t1)).setCell ⟨fb,2,none⟩ (.slice a6 X.2.points.length t2)).setCell ⟨fb,3,none⟩ (.slice a7 X.2.ways.length t3)).cell? ⟨db,4,none⟩ = some (.slice a7 X.2.ways.length t3):=hdP.cell (i:=4) (by omega)
    have hzP:((((Wd.setCell ⟨fb,0,none⟩ (.bool X.2.ok)).setCell ⟨fb,1,none⟩ (.slice (some ⟨bo2,0,none⟩) X.2.occ.length t1)).setCell ⟨fb,2,none⟩ (.slice a6 X.2.points.length t2)).setCell ⟨fb,3,none⟩ (.slice a7 X.2.ways.length t3)).heap.size = Wd.heap.size:=by simp
    have hn5:=below_new ((((Wd.setCell ⟨fb,0,none⟩ (.bool X.2.ok)).setCell ⟨fb,1,none⟩ (.slice (some ⟨bo2,0,none⟩) X.2.occ.length t1)).setCell ⟨fb,2,none⟩ (.slice a6 X.2.points.length t2)).setCell ⟨fb,3,none⟩ (.slice a7 X.2.ways.length t3)) (.cells #[.int .i64 X.1,.bool X.2.ok,.slice (some ⟨bo2,0,none⟩) X.2.occ.length t1,.slice a6 X.2.points.length t2,.slice a7 X.2.ways.length t3] 42)
    have hr5:=rowIs_new ((((Wd.setCell ⟨fb,0,none⟩ (.bool X.2.ok)).setCell ⟨fb,1,none⟩ (.slice (some ⟨bo2,0,none⟩) X.2.occ.length t1)).setCell ⟨fb,2,none⟩ (.slice a6 X.2.points.length t2)).setCell ⟨fb,3,none⟩ (.slice a7 X.2.ways.length t3)) 42 #[.int .i64 X.1,.bool X.2.ok,.slice (some ⟨bo2,0,none⟩) X.2.occ.length t1,.slice a6 X.2.points.length t2,.slice a7 X.2.ways.length t3]
    rw [hzP] at hr5
    have R5:=RP.call hn5
    have hF5:=hFP.but (K:=fun _=>True) (Q:=fun c=>lo L.length ≤ c ∧ c < Wd.heap.size) (But.of_calls hn5) (fun _ _=>trivial) fun c hc=>⟨Nat.le_trans HRB.out.top hc.1,hc.2⟩
    have SRC:Hid (1 = 0 ∨ ∃ A,(some (⟨Wd.heap.size,0,none⟩:Addr)) = some A ∧ ∀ j u,([.int .i64 X.1,.bool X.2.ok,.slice (some ⟨bo2,0,none⟩) X.2.occ.length t1,.slice a6 X.2.points.length t2,.slice a7 X.2.ways.length t3]:List Value)[j]? = some u → (((((Wd.setCell ⟨fb,0,none⟩ (.bool X.2.ok)).setCell ⟨fb,1,none⟩ (.slice (some ⟨bo2,0,none⟩) X.2.occ.length t1)).setCell ⟨fb,2,none⟩ (.slice a6 X.2.points.length t2)).setCell ⟨fb,3,none⟩ (.slice a7 X.2.ways.length t3)).alloc (.cells #[.int .i64 X.1,.bool X.2.ok,.slice (some ⟨bo2,0,none⟩) X.2.occ.length t1,.slice a6 X.2.points.length t2,.slice a7 X.2.ways.length t3] 42)).cell? (A.add j) = some u):=by
     refine .inr ⟨_,rfl,fun j u hj=>?_⟩
     rw [addr_add,Nat.zero_add]
     have hj5:j < 5:=(List.getElem?_eq_some_iff.1 hj).1
     rw [hr5.cell (by simpa using hj5)]
     rcases j with _ | _ | _ | _ | _ | j
     ·exact hj
     ·exact hj
     ·exact hj
     ·exact hj
     ·exact hj
     ·omega
    have ONE:Hid (∀ u ∈ ([.int .i64 X.1,.bool X.2.ok,.slice (some ⟨bo2,0,none⟩) X.2.occ.length t1,.slice a6 X.2.points.length t2,.slice a7 X.2.ways.length t3]:List Value),u.oneCell' = true):=by
     intro u hu
     simp at hu
     rcases hu with rfl | rfl | rfl | rfl | rfl <;> rfl
    have HM7:Hid (k + 1 ≤ maxLen):=by show k + 1 ≤ maxLen; unfold maxLen; omega
    have HM8:Hid ((k + 1) * 88 ≤ 140737488355328):=by show (k + 1) * 88 ≤ 140737488355328; omega
    have hown5:=R5.own
    rw [hlk] at hown5
    have OWY:=hide hown5
    have HZY:Hid (w.heap.size ≤ (((((Wd.setCell ⟨fb,0,none⟩ (.bool X.2.ok)).setCell ⟨fb,1,none⟩ (.slice (some ⟨bo2,0,none⟩) X.2.occ.length t1)).setCell ⟨fb,2,none⟩ (.slice a6 X.2.points.length t2)).setCell ⟨fb,3,none⟩ (.slice a7 X.2.ways.length t3)).alloc (.cells #[.int .i64 X.1,.bool X.2.ok,.slice (some ⟨bo2,0,none⟩) X.2.occ.length t1,.slice a6 X.2.points.length t2,.slice a7 X.2.ways.length t3] 42)).heap.size):=R5.below.size
    have HR5:=hide R5
    have HF5:=hide hF5
    have hz5:Wd.heap.size ≤ (((((Wd.setCell ⟨fb,0,none⟩ (.bool X.2.ok)).setCell ⟨fb,1,none⟩ (.slice (some ⟨bo2,0,none⟩) X.2.occ.length t1)).setCell ⟨fb,2,none⟩ (.slice a6 X.2.points.length t2)).setCell ⟨fb,3,none⟩ (.slice a7 X.2.ways.length t3)).alloc (.cells #[.int .i64 X.1,.bool X.2.ok,.slice (some ⟨bo2,0,none⟩) X.2.occ.length t1,.slice a6 X.2.points.length t2,.slice a7 X.2.ways.length t3] 42)).heap.size:=Nat.le_trans (Nat.le_of_eq hzP.symm) hn5.size
    have HZ5:=hide hz5
    have HLO:Hid (lo L.length ≤ Wd.heap.size):=Nat.le_trans HRB.out.top hbd.size
    clear R3 hf3 RP hFP hBP hdP hn5 hr5 R5 hF5 hown5 hzP hne hdb hFd hbd hz5
    go_wp2_with (at_builtin; refine wpList_append_any rfl _ _ 31 rfl w.heap.size 42 (.agg #[.int .i64 0,.bool false,.slice none 0 0,.slice none 0 0,.slice none 0 0]) 5 88 Tryz.underlying31 Tryz.infoDone rfl (by decide) (.slice a5 k c5) k xs rfl OWY.out (some ⟨Wd.heap.size,0,none⟩) 1 1 [.int .i64 X.1,.bool X.2.ok,.slice (some ⟨bo2,0,none⟩) X.2.occ.length t1,.slice a6 X.2.points.length t2,.slice a7 X.2.ways.length t3] rfl rfl SRC.out ONE.out HM7.out HM8.out HZY.out ?_)
    intro u5 w6 hown6 hgr6
    obtain ⟨a8,c8,rfl⟩:=own_slice hown6
    have FIN:=hide (HR5.out.add (x:=X) HF5.out HZ5.out HLO.out (by rw [hlk]; exact hown6) hgr6)
    clear hown6 hgr6 SRC ONE OWY HR5 HF5 HRB d0 d1 d2 d3 d4 x0 x1 x2 x3 k0 k1 k2 k3 z0 z1 z2 z3 z4
    go_wp2
    go_roundw
    case rel=>exact ⟨k + 1,_,_,_,_,_,by omega,by go_num,by rw [runs_take p F HX.out,← HL.out,lastF_snoc,← Hf.out,← HXX.out]; exact FIN.out⟩
    case measure=>simp [intOf]; omega
   case neg=>
    have hdo:doOf p f op of lie = (1,noFrame):=if_neg fun z=>hev z.2
    have hXe:X = (1,f):=hX.trans (stepD_no (show ¬ EvOf p (op,of,lie) from hev))
    rw [hdo] at HRO
    have HXE:=hide hXe
    clear hX hdo hev hXe
    go_wp2_with fail
    refine HRO.out.mono ?_
    clear y0 y1 y2 y3 y4 x0 x1 x2 x3 g0 g1 g2 HRO
    rintro e w2 ⟨n1,n2,n3,rfl,hb2,hm2⟩
    have hb12:Below wr.heap.size wr w2:=HBN.out.trans (hb2.mono HBN.out.size)
    obtain ⟨r1,i1,r2,i2,r3,i3,rfl,rfl,rfl⟩:=hm2.slices
    have hn3:=below_new w2 (.cells #[.int .i64 1,.bool noFrame.ok,.slice r1 noFrame.occ.length i1,.slice r2 noFrame.points.length i2,.slice r3 noFrame.ways.length i3] 42)
    have hrd:(w2.alloc (.cells #[.int .i64 1,.bool noFrame.ok,.slice r1 noFrame.occ.length i1,.slice r2 noFrame.points.length i2,.slice r3 noFrame.ways.length i3] 42)).rowIs w2.heap.size 42 5 (fun i=>(#[.int .i64 1,.bool noFrame.ok,.slice r1 noFrame.occ.length i1,.slice r2 noFrame.points.length i2,.slice r3 noFrame.ways.length i3]:Array Value)[i]!):=rowIs_new w2 42 #[.int .i64 1,.bool noFrame.ok,.slice r1 noFrame.occ.length i1,.slice r2 noFrame.points.length i2,.slice r3 noFrame.ways.length i3]
    have hb13:=hb12.trans (hn3.mono hb12.size)
    have hb23:=hb2.trans (hn3.mono hb2.size)
    obtain ⟨W3,hW3⟩:∃ W,W = w2.alloc (.cells #[.int .i64 1,.bool noFrame.ok,.slice r1 noFrame.occ.length i1,.slice r2 noFrame.points.length i2,.slice r3 noFrame.ways.length i3] 42):=⟨_,rfl⟩
    obtain ⟨db,hdbe⟩:∃ db,db = w2.heap.size:=⟨_,rfl⟩
    rw [← hW3] at hb13 hb23 hrd
    rw [← hdbe] at hrd
    have R3:=HRB.out.call hb13
    have v0:W3.cell? ⟨fb,0,none⟩ = some (.bool f.ok):=R3.fbox.cell (i:=0) (by omega)
    have v1:W3.cell? ⟨fb,1,none⟩ = some (.slice o1 f.occ.length m1):=R3.fbox.cell (i:=1) (by omega)
    have v2:W3.cell? ⟨fb,2,none⟩ = some (.slice o2 f.points.length m2):=R3.fbox.cell (i:=2) (by omega)
    have v3:W3.cell? ⟨fb,3,none⟩ = some (.slice o3 f.ways.length m3):=R3.fbox.cell (i:=3) (by omega)
    have c0:W3.cell? ⟨db,0,none⟩ = some (.int .i64 1):=hrd.cell (i:=0) (by simp)
    have HC:=hide (l2copy_any f.ok _ _ _ f W3 (KFB.out _ hb23) (frame_smalls HFR.out) (frame_occ HFR.out) (frame_been HFR.out))
    have hbs3:=hb13.size
    have hdw:wr.heap.size ≤ db:=by rw [hdbe]; exact hb12.size
    clear hn3 hm2 hb2 hb12 hb23 R3
    go_upto_region 9 with fail
    rw [← hW3,← hdbe]
    clear hW3 hdbe
    go_wp2_with fail
    refine HC.out.mono ?_
    clear HC v0 v1 v2 v3 c0
    rintro e w4 ⟨n1,n2,n3,bo2,bp2,bw2,bb2,rfl,hb4,hF4⟩
    have hfx:f = X.2:=by rw [HXE.out]
    have hox:f.ok = X.2.ok:=by rw [HXE.out]
    have h1x:(1:Int) = X.1:=by rw [HXE.out]
    rw [hfx] at hF4
    obtain ⟨gO,NO,t1,rfl,-⟩:=id hF4.occ
    obtain ⟨a6,t2,rfl,-⟩:=id hF4.points
    obtain ⟨a7,t3,rfl,-⟩:=id hF4.ways
    have hr4:=rowIs_calls hrd hb4
    have s0:=hr4.cell (i:=0) (by simp)
    have s1:=hr4.cell (i:=1) (by simp)
    have s2:=hr4.cell (i:=2) (by simp)
    have s3:=hr4.cell (i:=3) (by simp)
    have s4:=hr4.cell (i:=4) (by simp)
    have k1:=hr4.frozen 1
    have k2:=hr4.frozen 2
    have k3:=hr4.frozen 3
    have k4:=hr4.frozen 4
    have hj:∀ o:Nat,¬ ((fun c=>c ≠ db) (⟨db,o,none⟩:Addr).block):=fun o z=>z rfl
    have hB:=((((But.refl (fun c=>c ≠ db) w4).setCell (hj 1) (.bool X.2.ok)).setCell (hj 2) (.slice (some ⟨bo2,0,none⟩) X.2.occ.length t1)).setCell (hj 3) (.slice a6 X.2.points.length t2)).setCell (hj 4) (.slice a7 X.2.ways.length t3)
    have hb14:=hb13.trans (hb4.mono hb13.size)
    have hbd:=hb14.trans (hB.below hb14.size fun c hc=>by omega)
    have hdb:=(((hr4.set 1 (.bool X.2.ok)).set 2 (.slice (some ⟨bo2,0,none⟩) X.2.occ.length t1)).set 3 (.slice a6 X.2.points.length t2)).set 4 (.slice a7 X.2.ways.length t3)
    have hdb:=hdb.congr (g:=fun i=>(#[.int .i64 X.1,.bool X.2.ok,.slice (some ⟨bo2,0,none⟩) X.2.occ.length t1,.slice a6 X.2.points.length t2,.slice a7 X.2.ways.length t3]:Array Value)[i]!) fun i hi=>by
     rw [← h1x]
     rcases i with _ | _ | _ | _ | _ | i
     ·rfl
     ·rfl
     ·rfl
     ·rfl
     ·rfl
     ·omega
    have hFd:=((hF4.boxed hr4 ⟨by decide,by decide,by decide⟩ hB fun _ z=>z).but (K:=fun _=>True) (Q:=fun c=>wr.heap.size ≤ c) (But.refl _ _) (fun _ _=>trivial) fun c hc=>Nat.le_trans hbs3 hc.1).bound fun c h1 h2=>And.intro h1 h2
    obtain ⟨Wd,hWd⟩:∃ W,W = (((w4.setCell ⟨db,1,none⟩ (.bool X.2.ok)).setCell ⟨db,2,none⟩ (.slice (some ⟨bo2,0,none⟩) X.2.occ.length t1)).setCell ⟨db,3,none⟩ (.slice a6 X.2.points.length t2)).setCell ⟨db,4,none⟩ (.slice a7 X.2.ways.length t3):=⟨_,rfl⟩
    rw [← hWd] at hbd hdb hFd
    rw [hox]
    rw [hfx]
    clear hr4 hB hb14 hF4 hb4 hrd hb13 hfx hox h1x
    go_upto_region 11 with fail
    rw [← hWd]
    clear hWd s0 s1 s2 s3 s4 k1 k2 k3 k4
    have R3:=HRB.out.call hbd
    have hf3:=R3.fbox
    have d0:Wd.cell? ⟨db,0,none⟩ = some (.int .i64 X.1):=hdb.cell (i:=0) (by omega)
    have d1:Wd.cell? ⟨db,1,none⟩ = some (.bool X.2.ok):=hdb.cell (i:=1) (by omega)
    have d2:Wd.cell? ⟨db,2,none⟩ = some (.slice (some ⟨bo2,0,none⟩) X.2.occ.length t1):=hdb.cell (i:=2) (by omega)
    have d3:Wd.cell? ⟨db,3,none⟩ = some (.slice a6 X.2.points.length t2):=hdb.cell (i:=3) (by omega)
    have d4:Wd.cell? ⟨db,4,none⟩ = some (.slice a7 X.2.ways.length t3):=hdb.cell (i:=4) (by omega)
    have x0:=hf3.cell (i:=0) (by omega)
    have x1:=hf3.cell (i:=1) (by omega)
    have x2:=hf3.cell (i:=2) (by omega)
    have x3:=hf3.cell (i:=3) (by omega)
    have k0:=hf3.frozen 0
    have k1:=hf3.frozen 1
    have k2:=hf3.frozen 2
    have k3:=hf3.frozen 3
    obtain ⟨RP,hFP,hBP⟩:=R3.put (x:=X.2) hFd fun c hc=>Nat.le_trans HRB.out.below.size hc.1
    have hne:db ≠ fb:=rowIs_ne hdb hf3 (by decide)
    have hdP:=hBP.row hdb hne
    have z0:((((Wd.setCell ⟨fb,0,none⟩ (.bool X.2.ok)).setCell ⟨fb,1,none⟩ (.slice (some ⟨bo2,0,none⟩) X.2.occ.length t1)).setCell ⟨fb,2,none⟩ (.slice a6 X.2.points.length t2)).setCell ⟨fb,3,none⟩ (.slice a7 X.2.ways.length t3)).cell? ⟨db,0,none⟩ = some (.int .i64 X.1):=hdP.cell (i:=0) (by omega)
    have z1:((((Wd.setCell ⟨fb,0,none⟩ (.bool X.2.ok)).setCell ⟨fb,1,none⟩ (.slice (some ⟨bo2,0,none⟩) X.2.occ.length t1)).setCell ⟨fb,2,none⟩ (.slice a6 X.2.points.length t2)).setCell ⟨fb,3,none⟩ (.slice a7 X.2.ways.length t3)).cell? ⟨db,1,none⟩ = some (.bool X.2.ok):=hdP.cell (i:=1) (by omega)
    have z2:((((Wd.setCell ⟨fb,0,none⟩ (.bool X.2.ok)).setCell ⟨fb,1,none⟩ (.slice (some ⟨bo2,0,none⟩) X.2.occ.length t1)).setCell ⟨fb,2,none⟩ (.slice a6 X.2.points.length t2)).setCell ⟨fb,3,none⟩ (.slice a7 X.2.ways.length t3)).cell? ⟨db,2,none⟩ = some (.slice (some ⟨bo2,0,none⟩) X.2.occ.length t1):=hdP.cell (i:=2) (by omega)
    have z3:((((Wd.setCell ⟨fb,0,none⟩ (.bool X.2.ok)).setCell ⟨fb,1,none⟩ (.slice (some ⟨bo2,0,none⟩) X.2.occ.length t1)).setCell ⟨fb,2,none⟩ (.slice a6 X.2.points.length t2)).setCell ⟨fb,3,none⟩ (.slice a7 X.2.ways.length t3)).cell? ⟨db,3,none⟩ = some (.slice a6 X.2.points.length t2):=hdP.cell (i:=3) (by omega)
    have z4:((((Wd.setCell ⟨fb,0,none⟩ (.bool X.2.ok)).setCell ⟨fb,1,none⟩ (.slice (some ⟨bo2,0,none⟩) X.2.occ.length t1)).setCell ⟨fb,2,none⟩ (.slice a6 X.2.points.length t2)).setCell ⟨fb,3,none⟩ (.slice a7 X.2.ways.length t3)).cell? ⟨db,4,none⟩ = some (.slice a7 X.2.ways.length t3):=hdP.cell (i:=4) (by omega)
    have hzP:((((Wd.setCell ⟨fb,0,none⟩ (.bool X.2.ok)).setCell ⟨fb,1,none⟩ (.slice (some ⟨bo2,0,none⟩) X.2.occ.length t1)).setCell ⟨fb,2,none⟩ (.slice a6 X.2.points.length t2)).setCell ⟨fb,3,none⟩ (.slice a7 X.2.ways.length t3)).heap.size = Wd.heap.size:=by simp
    have hn5:=below_new ((((Wd.setCell ⟨fb,0,none⟩ (.bool X.2.ok)).setCell ⟨fb,1,none⟩ (.slice (some ⟨bo2,0,none⟩) X.2.occ.length t1)).setCell ⟨fb,2,none⟩ (.slice a6 X.2.points.length t2)).setCell ⟨fb,3,none⟩ (.slice a7 X.2.ways.length t3)) (.cells #[.int .i64 X.1,.bool X.2.ok,.slice (some ⟨bo2,0,none⟩) X.2.occ.length t1,.slice a6 X.2.points.length t2,.slice a7 X.2.ways.length t3] 42)
    have hr5:=rowIs_new ((((Wd.setCell ⟨fb,0,none⟩ (.bool X.2.ok)).setCell ⟨fb,1,none⟩ (.slice (some ⟨bo2,0,none⟩) X.2.occ.length t1)).setCell ⟨fb,2,none⟩ (.slice a6 X.2.points.length t2)).setCell ⟨fb,3,none⟩ (.slice a7 X.2.ways.length t3)) 42 #[.int .i64 X.1,.bool X.2.ok,.slice (some ⟨bo2,0,none⟩) X.2.occ.length t1,.slice a6 X.2.points.length t2,.slice a7 X.2.ways.length t3]
    rw [hzP] at hr5
    have R5:=RP.call hn5
    have hF5:=hFP.but (K:=fun _=>True) (Q:=fun c=>lo L.length ≤ c ∧ c < Wd.heap.size) (But.of_calls hn5) (fun _ _=>trivial) fun c hc=>⟨Nat.le_trans HRB.out.top hc.1,hc.2⟩
    have SRC:Hid (1 = 0 ∨ ∃ A,(some (⟨Wd.heap.size,0,none⟩:Addr)) = some A ∧ ∀ j u,([.int .i64 X.1,.bool X.2.ok,.slice (some ⟨bo2,0,none⟩) X.2.occ.length t1,.slice a6 X.2.points.length t2,.slice a7 X.2.ways.length t3]:List Value)[j]? = some u → (((((Wd.setCell ⟨fb,0,none⟩ (.bool X.2.ok)).setCell ⟨fb,1,none⟩ (.slice (some ⟨bo2,0,none⟩) X.2.occ.length t1)).setCell ⟨fb,2,none⟩ (.slice a6 X.2.points.length t2)).setCell ⟨fb,3,none⟩ (.slice a7 X.2.ways.length t3)).alloc (.cells #[.int .i64 X.1,.bool X.2.ok,.slice (some ⟨bo2,0,none⟩) X.2.occ.length t1,.slice a6 X.2.points.length t2,.slice a7 X.2.ways.length t3] 42)).cell? (A.add j) = some u):=by
     refine .inr ⟨_,rfl,fun j u hj=>?_⟩
     rw [addr_add,Nat.zero_add]
     have hj5:j < 5:=(List.getElem?_eq_some_iff.1 hj).1
     rw [hr5.cell (by simpa using hj5)]
     rcases j with _ | _ | _ | _ | _ | j
     ·exact hj
     ·exact hj
     ·exact hj
     ·exact hj
     ·exact hj
     ·omega
    have ONE:Hid (∀ u ∈ ([.int .i64 X.1,.bool X.2.ok,.slice (some ⟨bo2,0,none⟩) X.2.occ.length t1,.slice a6 X.2.points.length t2,.slice a7 X.2.ways.length t3]:List Value),u.oneCell' = true):=by
     intro u hu
     simp at hu
     rcases hu with rfl | rfl | rfl | rfl | rfl <;> rfl
    have HM7:Hid (k + 1 ≤ maxLen):=by show k + 1 ≤ maxLen; unfold maxLen; omega
    have HM8:Hid ((k + 1) * 88 ≤ 140737488355328):=by show (k + 1) * 88 ≤ 140737488355328; omega
    have hown5:=R5.own
    rw [hlk] at hown5
    have OWY:=hide hown5
    have HZY:Hid (w.heap.size ≤ (((((Wd.setCell ⟨fb,0,none⟩ (.bool X.2.ok)).setCell ⟨fb,1,none⟩ (.slice (some ⟨bo2,0,none⟩) X.2.occ.length t1)).setCell ⟨fb,2,none⟩ (.slice a6 X.2.points.length t2)).setCell ⟨fb,3,none⟩ (.slice a7 X.2.ways.length t3)).alloc (.cells #[.int .i64 X.1,.bool X.2.ok,.slice (some ⟨bo2,0,none⟩) X.2.occ.length t1,.slice a6 X.2.points.length t2,.slice a7 X.2.ways.length t3] 42)).heap.size):=R5.below.size
    have HR5:=hide R5
    have HF5:=hide hF5
    have hz5:Wd.heap.size ≤ (((((Wd.setCell ⟨fb,0,none⟩ (.bool X.2.ok)).setCell ⟨fb,1,none⟩ (.slice (some ⟨bo2,0,none⟩) X.2.occ.length t1)).setCell ⟨fb,2,none⟩ (.slice a6 X.2.points.length t2)).setCell ⟨fb,3,none⟩ (.slice a7 X.2.ways.length t3)).alloc (.cells #[.int .i64 X.1,.bool X.2.ok,.slice (some ⟨bo2,0,none⟩) X.2.occ.length t1,.slice a6 X.2.points.length t2,.slice a7 X.2.ways.length t3] 42)).heap.size:=Nat.le_trans (Nat.le_of_eq hzP.symm) hn5.size
    have HZ5:=hide hz5
    have HLO:Hid (lo L.length ≤ Wd.heap.size):=Nat.le_trans HRB.out.top hbd.size
    clear R3 hf3 RP hFP hBP hdP hn5 hr5 R5 hF5 hown5 hzP hne hdb hFd hbd hz5
    go_wp2_with (at_builtin; refine wpList_append_any rfl _ _ 31 rfl w.heap.size 42 (.agg #[.int .i64 0,.bool false,.slice none 0 0,.slice none 0 0,.slice none 0 0]) 5 88 Tryz.underlying31 Tryz.infoDone rfl (by decide) (.slice a5 k c5) k xs rfl OWY.out (some ⟨Wd.heap.size,0,none⟩) 1 1 [.int .i64 X.1,.bool X.2.ok,.slice (some ⟨bo2,0,none⟩) X.2.occ.length t1,.slice a6 X.2.points.length t2,.slice a7 X.2.ways.length t3] rfl rfl SRC.out ONE.out HM7.out HM8.out HZY.out ?_)
    intro u5 w6 hown6 hgr6
    obtain ⟨a8,c8,rfl⟩:=own_slice hown6
    have FIN:=hide (HR5.out.add (x:=X) HF5.out HZ5.out HLO.out (by rw [hlk]; exact hown6) hgr6)
    clear hown6 hgr6 SRC ONE OWY HR5 HF5 HRB d0 d1 d2 d3 d4 x0 x1 x2 x3 k0 k1 k2 k3 z0 z1 z2 z3 z4
    go_wp2
    go_roundw
    case rel=>exact ⟨k + 1,_,_,_,_,_,by omega,by go_num,by rw [runs_take p F HX.out,← HL.out,lastF_snoc,← Hf.out,← HXX.out]; exact FIN.out⟩
    case measure=>simp [intOf]; omega
  ·obtain rfl:k = es.length:=by omega
   have HRB:=hide RB
   clear RB hfr
   go_wp2
   go_ret
   refine ⟨_,rfl,HRB.out.below,?_⟩
   have e:runOf p es = L:=by rw [HRUN.out,HL.out,List.take_length,HFF.out]
   rw [e]
   have h1:=HRB.out.own
   rw [hlk] at h1
   exact ⟨xs,lo,by rw [hlk]; exact h1,HRB.out.dones,HRB.out.top,HRB.out.low,HRB.out.step⟩
end Go.Proofs.YtdhinkgjiapigaaGreatDoor
