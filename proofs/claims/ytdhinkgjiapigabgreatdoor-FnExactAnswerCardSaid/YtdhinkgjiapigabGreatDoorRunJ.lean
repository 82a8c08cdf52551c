import Derived.Test.YtdhinkgjiapigabGreatDoorDoS3
import Derived.Test.YtdhinkgjiapigabGreatDoorSpec7
import Derived.Test.YtdhinkgjiapigabGreatDoorEvA
import Derived.Deep.RegionLaw
import Derived.Deep.AppendLies
import Derived.Test.YtdhinkgjiapigabGreatDoorRunD
import Derived.Test.YtdhinkgjiapigabGreatDoorDoK3
import Derived.Laws.MakeOwn
namespace Go.Proofs.YtdhinkgjiapigabGreatDoor
open Go.RowKit Go.Deep
open Classical
set_option maxRecDepth 100000 in
set_option maxHeartbeats 4000000 in
theorem zjd (v1 v2 v3:Value) (p:PlanD) (w:World) (hp:PlanAt (In w) w v1 v2 v3 p) (hs:p.Small 1048576) (hg:w.cell? ⟨1,0,none⟩ = some zrv) :
  Calls Tryz.prog 100 #[.agg #[.int .i64 p.sections,v1,v2,v3,.int .i64 p.hold]] w fun e w'=>∃ u1 u2 u3,e = .returned (.agg #[.bool (zdd p).ok,u1,u2,u3]) ∧ Below w.heap.size w w' ∧ FrameM (w.heap.size + 1) w' u1 u2 u3 (zdd p):=by
 have T0:=zbc w 37 42 #[.int .i64 p.sections,v1,v2,v3,.int .i64 p.hold] #[.bool false,.slice none 0 0,.slice none 0 0,.slice none 0 0];have HK:=zaa fun (W:World) (h:Below w.heap.size w W)=>hp.keep (Q:=In W) (In.keep h).1 (In.keep h).2;have HS:=zaa hs;obtain ⟨⟨a1,c1,rfl,-⟩,⟨a2,c2,rfl,-⟩,⟨a3,c3,rfl,-⟩⟩:=id hp;clear hp hs;have b0:=T0.cell (j:=0) (i:=0) rfl rfl;have b1:=T0.cell (j:=0) (i:=1) rfl rfl;have b2:=T0.cell (j:=0) (i:=2) rfl rfl;have b3:=T0.cell (j:=0) (i:=3) rfl rfl;have b4:=T0.cell (j:=0) (i:=4) rfl rfl;rw [Nat.add_zero] at b0 b1 b2 b3 b4;go_enter Tryz.func100,Tryz.ntmps100
 go_wp2_with fail
 refine (zfh _ _ _ p _ (HK.out _ T0.below) HS.out (ck hg T0.below)).mono ?_;clear b0 b1 b2 b3 b4;rintro e w1 ⟨rfl,hb⟩;have T1:=T0.call hb;clear T0 hb;have r0:=T1.cell (j:=1) (i:=0) rfl rfl;have r1:=T1.cell (j:=1) (i:=1) rfl rfl;have r2:=T1.cell (j:=1) (i:=2) rfl rfl;have r3:=T1.cell (j:=1) (i:=3) rfl rfl;have k0:=T1.frozen (j:=1) 0 rfl;have k1:=T1.frozen (j:=1) 1 rfl;have k2:=T1.frozen (j:=1) 2 rfl;have k3:=T1.frozen (j:=1) 3 rfl;by_cases hr:Right p
 case neg=>
  rw [zae hr];have HR:=zaa hr;have HT:=zaa T1.below;clear hr T1;go_wp2;refine bodyPost_ret (v:=.agg #[.bool false,.slice none 0 0,.slice none 0 0,.slice none 0 0]) (by simp [results,Tryz.results100,go_sem,r0,r1,r2,r3]) rfl ?_;have hz:zdd p = zex:=if_neg HR.out;rw [hz]
  have pz:w.heap.size ≤ w.heap.size + 1:=by omega
  exact ⟨_,_,_,rfl,(((HT.out.setCell (p:=⟨w.heap.size + 1,0,none⟩) pz _).setCell (p:=⟨w.heap.size + 1,1,none⟩) pz _).setCell (p:=⟨w.heap.size + 1,2,none⟩) pz _).setCell (p:=⟨w.heap.size + 1,3,none⟩) pz _,zgr _ _⟩
 rw [zam hr];have hpr:=hr.parts;have HR:=zaa hr;have hsec:1 ≤ p.sections ∧ p.sections ≤ 60:=hpr.1.1;obtain ⟨n,hn⟩:∃ n:Nat,p.sections = n:=⟨p.sections.toNat,by omega⟩
 have hway:∀ x ∈ p.ways,1 ≤ x.sections.length ∧ x.sections.length ≤ 30:=fun x hx=>by
  obtain ⟨i,hi⟩:=List.getElem?_of_mem hx;have hw:=Right.way HR.out hi;refine ⟨?_,hw.2.1.2⟩;rcases Nat.eq_zero_or_pos x.sections.length with e | e
  ·exact absurd (List.length_eq_zero_iff.1 e) hw.1
  ·exact e
 have HWAY:=zaa hway;have hsw:p.switches.length ≤ 40:=hpr.1.2.1;have hwl:p.ways.length ≤ 100:=hpr.1.2.2.1;have hmk:=run_make_row' (P:=Tryz.prog) 27 4 (.bool false) 1 Tryz.underlying27 Tryz.infoBool rfl .i64 .i64 n (by omega) (by omega);have q0:=T1.cell (j:=0) (i:=0) rfl rfl;rw [Nat.add_zero] at q0;rw [hn] at q0 hsec ⊢;have HN:=zaa hn;have HT1:=zaa T1;have hz1:w.heap.size + 1 < w1.heap.size:=T1.lt (j:=1) rfl;have T3:=(T1.call (zab w1 (.cells (madeCells #[.bool false] n) 4))).call (zab _ (.cells #[.bool true,.slice (some ⟨w1.heap.size,0,none⟩) n n,.slice none 0 0,.slice none 0 0] 42));have q1:=T3.cell (j:=0) (i:=1) rfl rfl;rw [Nat.add_zero] at q1;have hbo:=zeh (W:=w1) (n:=n) (by omega)
 have BF0:BegF w #[.int .i64 p.sections,.slice a1 p.switches.length c1,.slice a2 p.ways.length c2,.slice a3 p.bars.length c3,.int .i64 p.hold] n (w1.heap.size + 1) ((w1.alloc (.cells (madeCells #[.bool false] n) 4)).alloc (.cells #[.bool true,.slice (some ⟨w1.heap.size,0,none⟩) n n,.slice none 0 0,.slice none 0 0] 42)) (.slice (some ⟨w1.heap.size,0,none⟩) n n) (.slice none 0 0) (.slice none 0 0) w1.heap.size:=by
  refine ⟨T3.below,T3.row 0 _ _ rfl,⟨_,T3.row 1 _ _ rfl⟩,?_,hbo.but (K:=fun _=>True) (But.of_calls (zab _ _)) trivial,hz1,Nat.lt_succ_self _⟩;have:=zak (w1.alloc (.cells (madeCells #[.bool false] n) 4)) 42 #[.bool true,.slice (some ⟨w1.heap.size,0,none⟩) n n,.slice none 0 0,.slice none 0 0];rw [World.size_alloc] at this;exact this
 have HBF:=zaa BF0;clear hr hpr hway hn T1 r0 r1 r2 r3 k0 k1 k2 k3 T3 BF0 hbo HT1;go_wp2;clear q0 q1;generalize hW3:((w1.alloc (.cells (madeCells #[.bool false] n) 4)).alloc (.cells #[.bool true,.slice (some ⟨w1.heap.size,0,none⟩) n n,.slice none 0 0,.slice none 0 0] 42)) = W3 at HBF ⊢;obtain ⟨fb,hfb⟩:∃ fb,fb = w1.heap.size + 1:=⟨_,rfl⟩;obtain ⟨bo,hbo⟩:∃ bo,bo = w1.heap.size:=⟨_,rfl⟩;rw [← hfb,← hbo] at HBF ⊢;obtain ⟨pc,hpc⟩:∃ pc:Array Value,pc = #[.int .i64 p.sections,.slice a1 p.switches.length c1,.slice a2 p.ways.length c2,.slice a3 p.bars.length c3,.int .i64 p.hold]:=⟨_,rfl⟩;rw [← hpc] at HBF;have HPC:=zaa hpc
 have HBO:Hid (w.heap.size + 1 < bo):=by show w.heap.size + 1 < bo; omega
 have HFB:Hid (w.heap.size + 1 < fb):=by show w.heap.size + 1 < fb; omega
 clear hW3 hpc hfb hbo hz1 w1
 go_loopw [17] (fun z wr=>∃ (k:Nat) (u2:Value),k ≤ p.switches.length ∧ z = .int .i64 k ∧ BegF w pc n fb wr (.slice (some ⟨bo,0,none⟩) n n) u2 (.slice none 0 0) bo ∧ wr.ownsRow (fb + 1) 90 2 u2 k (zau (List.replicate k (1,1)))) (fun z _=>p.switches.length - (intOf z).toNat)
 case atStart=>exact ⟨0,_,Nat.zero_le _,rfl,HBF.out,World.ownsRow_nil _ _ _ _⟩
 case round=>
  obtain ⟨k,u2,hk,rfl,hbf,hown⟩:=hrel;rename World=>wA;obtain ⟨a5,c5,rfl⟩:=zag hown;by_cases hlt:k < p.switches.length
  ·have y2:wA.cell? ⟨fb,2,none⟩ = some (.slice a5 k c5):=hbf.out.cell (i:=2) (by omega);have hfl:fb < wA.heap.size:=hbf.out.lt;have hbn:=zab wA (.cells #[.int .i64 1,.int .i64 1] 90);have OWY:=zaa (za3 (K:=fun _=>True) hown (But.of_calls hbn) fun _ _=>trivial)
   have SRC:Hid (1 = 0 ∨ ∃ A,(some (⟨wA.heap.size,0,none⟩:Addr)) = some A ∧ ∀ j u,([.int .i64 1,.int .i64 1]:List Value)[j]? = some u → (wA.alloc (.cells #[.int .i64 1,.int .i64 1] 90)).cell? (A.add j) = some u):=by
    refine .inr ⟨_,rfl,fun j u hj=>?_⟩;rw [zbp,Nat.zero_add];have hj1:j < 2:=(List.getElem?_eq_some_iff.1 hj).1;rw [(zak wA 90 #[.int .i64 1,.int .i64 1]).cell (by simpa using hj1)];rcases j with _ | _ | j
    ·exact hj
    ·exact hj
    ·omega
   have ONE:Hid (∀ u ∈ ([.int .i64 1,.int .i64 1]:List Value),u.oneCell' = true):=by
    intro u hu;simp at hu;subst hu;rfl
   have HM7:Hid (k + 1 ≤ maxLen):=by show k + 1 ≤ maxLen; unfold maxLen; omega
   have HM8:Hid ((k + 1) * 16 ≤ 140737488355328):=by show (k + 1) * 16 ≤ 140737488355328; omega
   have HZY:Hid (fb + 1 ≤ (wA.alloc (.cells #[.int .i64 1,.int .i64 1] 90)).heap.size):=by show fb + 1 ≤ _; rw [World.size_alloc]; omega
   obtain ⟨xs,hxs⟩:∃ xs,xs = zau (List.replicate k (1,1)):=⟨_,rfl⟩;have HXS:=zaa hxs;rw [← hxs] at OWY;have HBA:=zaa hbf;have HBN:=zaa hbn;clear hxs hbf hown hbn
   go_wp2_with (at_builtin; refine zai rfl _ _ 39 rfl (fb + 1) 90 (.agg #[.int .i64 0,.int .i64 0]) 2 16 Tryz.underlying39 Tryz.infoPoint rfl (by decide) (.slice a5 k c5) k xs rfl OWY.out (some ⟨wA.heap.size,0,none⟩) 1 1 [.int .i64 1,.int .i64 1] rfl rfl SRC.out ONE.out HM7.out HM8.out HZY.out ?_)
   intro u5 w5 hown5 hgr5;obtain ⟨a6,c6,rfl⟩:=zag hown5;have BF5:=(HBA.out.call HBN.out).but (K:=fun c=>c < fb + 1) (But.of_below (zbm OWY.out hgr5 (Nat.le_refl _) HZY.out) fun _ _ z=>z) fun _ z=>z;have y3:w5.cell? ⟨fb,2,none⟩ = some (.slice a5 k c5):=BF5.out.cell (i:=2) (by omega);have z3:=BF5.out.frozen 2
   have FIN:=zaa (And.intro (BF5.lay2 (.slice a6 (k + 1) c6)) (show (w5.setCell ⟨fb,2,none⟩ (.slice a6 (k + 1) c6)).ownsRow (fb + 1) 90 2 (.slice a6 (k + 1) c6) (k + 1) (zau (List.replicate (k + 1) (1,1))) by
    rw [← zgz,← HXS.out]
    exact zba (K:=fun c=>c ≠ fb) hown5 ((But.refl _ _).setCell (fun z=>z rfl) _) fun c hc _=>by omega))
   clear BF5 hown5 hgr5 OWY SRC ONE HBA HBN y2;go_wp2;go_roundw
   case rel=>exact ⟨k + 1,_,by omega,by go_num,FIN.out.1,FIN.out.2⟩
   case measure=>simp [intOf]; omega
  ·obtain rfl:k = p.switches.length:=by omega
   obtain ⟨bp,hOP,hbp⟩:=zcy (l:=List.replicate p.switches.length (1,1)) hown (by rw [List.length_replicate]);have hl2:(List.replicate p.switches.length ((1,1):Int × Int)).length = p.switches.length:=List.length_replicate;have HOP:=zaa hOP;have HBP:=zaa hbp;have HBA:=zaa hbf
   have x2:wA.cell? ⟨w.heap.size,2,none⟩ = some (.slice a2 p.ways.length c2):=by have:=hbf.box.cell (i:=2) (by omega); rw [HPC.out] at this; exact this
   clear hown hbf hOP hbp hlt hk;go_wp2;clear x2
   go_loopw [29] (fun z wr=>∃ (k:Nat) (xs:List Value) (u3:Value) (bb:Nat → Nat),k ≤ p.ways.length ∧ z = .int .i64 k ∧ BegF w pc n fb wr (.slice (some ⟨bo,0,none⟩) n n) (.slice a5 p.switches.length c5) u3 bo ∧ OPoints wr (.slice a5 p.switches.length c5) (List.replicate p.switches.length (1,1)) bp ∧
    wr.ownsRow (fb + 1) 93 5 u3 k xs ∧ HeldsX wr (fb + 1) (zdw p.ways) k xs bb ∧ (∀ i j,i < k → j < k → bb i = bb j → i = j)) (fun z _=>p.ways.length - (intOf z).toNat)
   case atStart=>exact ⟨0,[],.slice none 0 0,fun _=>0,Nat.zero_le _,rfl,HBA.out,HOP.out,World.ownsRow_nil _ _ _ _,fun j _ hj=>by omega,fun i j hi=>by omega⟩
   case round=>
    obtain ⟨k,xs,u3,bb,hk,rfl,hbf,hop,hown,hX,hinj⟩:=hrel;rename World=>wB;obtain ⟨a7,c7,rfl⟩:=zag hown;by_cases hlt:k < p.ways.length
    ·obtain ⟨x,hx⟩:=zac p.ways (zaa rfl) hlt;obtain ⟨-,hW,-⟩:=HK.out wB hbf.below;obtain ⟨aw,cw,ew,hcw⟩:=hW
     cases ew
     obtain h0 | ⟨b2,o2,rfl,-,hcw⟩:=hcw
     ·omega
     obtain ⟨v0,v1,v2,v3,v4,hxa,g0,g1,g2,g3,g4⟩:=hcw k hlt x hx;obtain ⟨s0,e0,rfl⟩:=hxa.1.size;obtain ⟨s1,e1,rfl⟩:=hxa.2.1.size;obtain ⟨s2,e2,rfl⟩:=hxa.2.2.1.size;obtain ⟨s3,e3,rfl⟩:=hxa.2.2.2.1.size;obtain ⟨s4,e4,rfl⟩:=hxa.2.2.2.2.size;have hxl:=HWAY.out x (List.mem_of_getElem? hx);have hmk2:=run_make_row' (P:=Tryz.prog) 27 4 (.bool false) 1 Tryz.underlying27 Tryz.infoBool rfl .i64 .i64 x.sections.length (by omega) (by omega);have hfl:fb < wB.heap.size:=hbf.out.lt;have hbn:=zab wB (.cells #[.slice s0 x.sections.length e0,.slice s1 x.lies.length e1,.slice s2 x.flanks.length e2,.slice s3 x.over.length e3,.slice s4 x.near.length e4] 122);have y3:(wB.alloc (.cells #[.slice s0 x.sections.length e0,.slice s1 x.lies.length e1,.slice s2 x.flanks.length e2,.slice s3 x.over.length e3,.slice s4 x.near.length e4] 122)).cell? ⟨fb,3,none⟩ = some (.slice a7 k c7):=(hbf.call hbn).out.cell (i:=3) (by omega);have z3:=(hbf.call hbn).out.frozen 3
     have yw:(wB.alloc (.cells #[.slice s0 x.sections.length e0,.slice s1 x.lies.length e1,.slice s2 x.flanks.length e2,.slice s3 x.over.length e3,.slice s4 x.near.length e4] 122)).cell? ⟨wB.heap.size,0,none⟩ = some (.slice s0 x.sections.length e0):=by simp
     have Hx:=zaa hx;have HXA:=zaa hxa;have HBB:=zaa hbf;have HOPB:=zaa hop;have HOW:=zaa hown;have HX:=zaa hX;have HIN:=zaa hinj;clear hx hcw hxa hbf hop hown hX hinj;obtain ⟨i0,hi0,hz0,hz1,hz2⟩:=info_parts Tryz.infoHeld;have hWx:=(HXA.out.1.keep (In.keep hbn).1 (In.keep hbn).2);have HWX:=zaa (hWx.keep (In.keep (zaf _)).1 (In.keep (zaf _)).2)
     have hlj:∀ j,j < k → bb j < wB.heap.size ∧ fb + 1 ≤ bb j:=fun j hj=>by
      obtain ⟨y,hy⟩:=zac (zdw p.ways) (zaa (zay _)) (show j < p.ways.length by omega);obtain ⟨_,_,⟨_,_,hu⟩,_,_,hm⟩:=HX.out j y hj hy;exact ⟨hu.lt,hm⟩
     have hall:∀ (w4:World) (v:Value) (b4:Nat),OBools w4 v (zc3 x.sections.length).been b4 → wB.heap.size + 1 ≤ b4 → Below wB.heap.size wB w4 →
       (w4.alloc (.cells #[.int .i64 0,.int .i64 0,v,.bool false,.int .i64 0] 93)).ownsRow (fb + 1) 93 5 (.slice a7 k c7) k xs ∧
       (∀ j u,([.int .i64 0,.int .i64 0,v,.bool false,.int .i64 0]:List Value)[j]? = some u → (w4.alloc (.cells #[.int .i64 0,.int .i64 0,v,.bool false,.int .i64 0] 93)).cell? ((⟨w4.heap.size,0,none⟩:Addr).add j) = some u) ∧ fb + 1 ≤ (w4.alloc (.cells #[.int .i64 0,.int .i64 0,v,.bool false,.int .i64 0] 93)).heap.size ∧ w4.cell? ⟨fb,3,none⟩ = some (.slice a7 k c7) ∧ (w4.alloc (.cells #[.int .i64 0,.int .i64 0,v,.bool false,.int .i64 0] 93)).cell? ⟨fb,3,none⟩ = some (.slice a7 k c7) ∧
       ∀ (w5:World) (g5 c5':Nat),(w4.alloc (.cells #[.int .i64 0,.int .i64 0,v,.bool false,.int .i64 0] 93)).grownBy w5 (Value.slice a7 k c7).ownBlock → w5.ownsRow (fb + 1) 93 5 (.slice (some ⟨g5,0,none⟩) (k + 1) c5') (k + 1) (xs ++ [.int .i64 0,.int .i64 0,v,.bool false,.int .i64 0]) →
        (w5.cell? ⟨fb,3,none⟩ = some (.slice a7 k c7) ∧ w5.frozen? ⟨fb,3,none⟩ = false) ∧ BegF w pc n fb (w5.setCell ⟨fb,3,none⟩ (.slice (some ⟨g5,0,none⟩) (k + 1) c5')) (.slice (some ⟨bo,0,none⟩) n n) (.slice a5 p.switches.length c5) (.slice (some ⟨g5,0,none⟩) (k + 1) c5') bo ∧ OPoints (w5.setCell ⟨fb,3,none⟩ (.slice (some ⟨g5,0,none⟩) (k + 1) c5')) (.slice a5 p.switches.length c5) (List.replicate p.switches.length (1,1)) bp ∧
        (w5.setCell ⟨fb,3,none⟩ (.slice (some ⟨g5,0,none⟩) (k + 1) c5')).ownsRow (fb + 1) 93 5 (.slice (some ⟨g5,0,none⟩) (k + 1) c5') (k + 1) (xs ++ [.int .i64 0,.int .i64 0,v,.bool false,.int .i64 0]) ∧
        HeldsX (w5.setCell ⟨fb,3,none⟩ (.slice (some ⟨g5,0,none⟩) (k + 1) c5')) (fb + 1) (zdw p.ways) (k + 1) (xs ++ [.int .i64 0,.int .i64 0,v,.bool false,.int .i64 0]) (fun j=>if j = k then b4 else bb j) ∧
        ∀ i j,i < k + 1 → j < k + 1 → (if i = k then b4 else bb i) = (if j = k then b4 else bb j) → i = j:=fun w4 v b4 hO4 hb4 hB4=>by
      have hsz4:=hB4.size;have hC:Below wB.heap.size wB (w4.alloc (.cells #[.int .i64 0,.int .i64 0,v,.bool false,.int .i64 0] 93)):=hB4.trans ((zab w4 _).mono hB4.size);have hOW:=za3 (K:=fun _=>True) HOW.out (But.of_calls hC) fun _ _=>trivial
      have hZ:fb + 1 ≤ (w4.alloc (.cells #[.int .i64 0,.int .i64 0,v,.bool false,.int .i64 0] 93)).heap.size:=by rw [World.size_alloc]; omega
      refine ⟨hOW,fun j u hj=>?_,hZ,(HBB.out.call hB4).out.cell (i:=3) (by omega),(HBB.out.call hC).out.cell (i:=3) (by omega),fun w5 g5 c5' hg ho=>?_⟩
      ·rw [zbp,Nat.zero_add];have hj5:j < 5:=(List.getElem?_eq_some_iff.1 hj).1;rw [(zak w4 93 #[.int .i64 0,.int .i64 0,v,.bool false,.int .i64 0]).cell (by simpa using hj5)];rcases j with _ | _ | _ | _ | _ | j
       ·exact hj
       ·exact hj
       ·exact hj
       ·exact hj
       ·exact hj
       ·omega
      ·have BF5:=(HBB.out.call hC).but (K:=fun c=>c < fb + 1) (But.of_below (zbm hOW hg (Nat.le_refl _) hZ) fun _ _ z=>z) fun _ z=>z;have hnb:∀ c,c ≠ fb → c ≠ (⟨fb,3,none⟩:Addr).block:=fun c hc=>hc;have hO:∀ {v':Value} {l:List Bool} {b:Nat},OBools (w4.alloc (.cells #[.int .i64 0,.int .i64 0,v,.bool false,.int .i64 0] 93)) v' l b → b ≠ fb → OBools (w5.setCell ⟨fb,3,none⟩ (.slice (some ⟨g5,0,none⟩) (k + 1) c5')) v' l b:=fun hb hne=>(hb.held hg hOW).of_block (Below.heap_setCell _ _ _ _ (hnb _ hne));refine ⟨⟨BF5.out.cell (i:=3) (by omega),BF5.out.frozen 3⟩,BF5.lay3 _,?_,zba (K:=fun c=>c ≠ fb) ho ((But.refl _ _).setCell (fun z=>z rfl) _) fun c hc _=>by omega,?_,fun i j hi hj=>?_⟩
       ·refine (OPoints.held (HOPB.out.but (K:=fun _=>True) (But.of_calls hC) fun _=>trivial) hg hOW).but (K:=fun c=>c ≠ fb) ((But.refl _ _).setCell (fun z=>z rfl) _) fun z=>?_;have:=HBP.out z; omega
       ·exact HeldsX.snoc (W':=(w5.setCell ⟨fb,3,none⟩ (.slice (some ⟨g5,0,none⟩) (k + 1) c5'))) HX.out HOW.out.1 (ze8 Hx.out) (hO (hO4.but (K:=fun _=>True) (But.of_calls (zab _ _)) trivial) (by omega)) (by omega) fun j y v hj hy hv=>hO (hv.but (K:=fun _=>True) (But.of_calls hC) trivial) (by have:=(hlj j hj).2; omega)
       ·by_cases e1:i = k <;> by_cases e2:j = k
        ·intro _; omega
        ·rw [if_pos e1,if_neg e2]; intro z; have:=(hlj j (by omega)).1; omega
        ·rw [if_neg e1,if_pos e2]; intro z; have:=(hlj i (by omega)).1; omega
        ·rw [if_neg e1,if_neg e2]; exact HIN.out i j (by omega) (by omega)
     have HALL:=zaa hall
     have HM7:Hid (k + 1 ≤ maxLen):=by show k + 1 ≤ maxLen; unfold maxLen; omega
     have HM8:Hid ((k + 1) * 56 ≤ 140737488355328):=by show (k + 1) * 56 ≤ 140737488355328; omega
     have ONE:Hid (∀ (a:Option Addr) (n c:Nat),∀ u ∈ ([.int .i64 0,.int .i64 0,.slice a n c,.bool false,.int .i64 0]:List Value),u.oneCell' = true):=by
      intro a n c u hu;simp at hu
      rcases hu with rfl | rfl | rfl | rfl <;> rfl
     have HBN:=zaa hbn;clear hall hlj hWx hbn
     go_wp2_with fail
     clear g0 g1 g2 g3 g4
     go_region_law
      (first
       | (refine step_append_lies _ (by rfl) _ _ _ (by rfl) (fb + 1) 93 i0 _ 5 56 Tryz.underlying40 hi0 hz0 hz1 hz2 rfl (by omega) (.slice a7 k c7) k xs (by rfl) HA.out.1 ⟨w4.heap.size,0,none⟩ 1 1 _ (by rfl) (by rfl) HA.out.2.1 (ONE.out _ _ _) (by omega) HM7.out HM8.out HA.out.2.2.1 (w4.heap.size + 1) (by simp) ?_; intro g5 c5' w5 hown5 hgr5 hat5 hlt5; have y5:=(HA.out.2.2.2.2.2 w5 _ _ hgr5 hown5).1.1; have z5:=(HA.out.2.2.2.2.2 w5 _ _ hgr5 hown5).1.2)
       | (go_simp; go_at_call 149; refine (zog _ _ _ _ _ x.sections _ HWX.out (by omega) (by omega)).mono ?_; rintro e w4 ⟨a4,c4,b4,rfl,ho4,hb4,hbl4⟩; have HA:=zaa (HALL.out w4 _ b4 ho4 (by simpa using hb4) (HBN.out.trans (((zaf _).trans hbl4).mono HBN.out.size))); have y4:=HA.out.2.2.2.1; have y4b:=HA.out.2.2.2.2.1; clear ho4 hb4 hbl4))
     all_goals
      go_wp2;go_roundw
      case rel=>exact ⟨k + 1,_,_,_,by omega,by go_num,(HA.out.2.2.2.2.2 w5 _ _ hgr5 hown5).2⟩
      case measure=>simp [intOf]; omega
    ·obtain rfl:k = p.ways.length:=by omega
     obtain ⟨bw,hOH,hbw⟩:=zhc hown hX (zay _).symm;obtain ⟨gR,hR⟩:=hbf.res;have t0:wB.cell? ⟨fb,0,none⟩ = some (.bool true):=hbf.out.cell (i:=0) (by omega);have t1:wB.cell? ⟨fb,1,none⟩ = some (.slice (some ⟨bo,0,none⟩) n n):=hbf.out.cell (i:=1) (by omega);have t2:wB.cell? ⟨fb,2,none⟩ = some (.slice a5 p.switches.length c5):=hbf.out.cell (i:=2) (by omega);have t3:wB.cell? ⟨fb,3,none⟩ = some (.slice a7 p.ways.length c7):=hbf.out.cell (i:=3) (by omega);have r0:=hR.cell (i:=0) (by omega);have r1:=hR.cell (i:=1) (by omega);have r2:=hR.cell (i:=2) (by omega);have r3:=hR.cell (i:=3) (by omega);have k0:=hR.frozen 0;have k1:=hR.frozen 1;have k2:=hR.frozen 2;have k3:=hR.frozen 3
     have fr:OFrame (fun c=>w.heap.size + 1 + 1 ≤ c) wB (.slice (some ⟨bo,0,none⟩) n n) (.slice a5 p.switches.length c5) (.slice a7 p.ways.length c7) (zaq p) bo bp bw bb:=by
      refine ⟨?_,hop,?_,hbf.po,fun z=>?_,fun z=>?_,fun i hi=>?_,fun i j hi hj=>hinj i j ?_ ?_,fun i hi=>?_⟩
      ·show OBools wB _ (List.replicate p.sections.toNat false) bo;rw [HN.out,Int.toNat_natCast];exact hbf.occ
      ·exact hOH
      ·have:=HBP.out z; have:=hbf.po; have:=hbf.pf; omega
      ·have:=hbw z; have:=hbf.po; have:=hbf.pf; omega
      ·obtain ⟨y,hy⟩:=zac (zdw p.ways) (zaa rfl) hi;have:=(hX i y (by rw [← zay]; exact hi) hy).2.2.2.2.2;have:=hbf.po; have:=hbf.pf; omega
      ·rw [← zay]; exact hi
      ·rw [← zay]; exact hj
      ·obtain ⟨y,hy⟩:=zac (zdw p.ways) (zaa rfl) hi;have:=(hX i y (by rw [← zay]; exact hi) hy).2.2.2.2.2;have:=hbf.pf; omega
     have HFR:=zaa fr;have HBW:=zaa hbf.below;clear fr hR hOH hbw hX hinj hown hop hbf hlt;go_wp2;refine bodyPost_ret (v:=.agg #[.bool true,.slice (some ⟨bo,0,none⟩) n n,.slice a5 p.switches.length c5,.slice a7 p.ways.length c7]) (by simp [results,Tryz.results100,go_sem,r0,r1,r2,r3]) rfl ?_;have hz:zdd p = zaq p:=if_pos HR.out;rw [hz]
     have pz:w.heap.size ≤ w.heap.size + 1:=by omega
     have hk:∀ o:Nat,¬ ((fun c=>c ≠ w.heap.size + 1) (⟨w.heap.size + 1,o,none⟩:Addr).block):=fun o z=>z rfl;refine ⟨_,_,_,rfl,(((HBW.out.setCell (p:=⟨w.heap.size + 1,0,none⟩) pz _).setCell (p:=⟨w.heap.size + 1,1,none⟩) pz _).setCell (p:=⟨w.heap.size + 1,2,none⟩) pz _).setCell (p:=⟨w.heap.size + 1,3,none⟩) pz _,.inl ⟨bo,bp,bw,bb,?_⟩⟩
     exact HFR.out.but (Q:=fun c=>w.heap.size + 1 ≤ c) (((((But.refl (fun c=>c ≠ w.heap.size + 1) wB).setCell (hk 0) _).setCell (hk 1) _).setCell (hk 2) _).setCell (hk 3) _) (fun c hc=>by omega) fun c hc=>by omega
end Go.Proofs.YtdhinkgjiapigabGreatDoor
namespace Go.Proofs.YtdhinkgjiapigabGreatDoor
open Go.RowKit Go.Deep
open Classical
theorem Tryz.infoDone:(Tryz.prog.info? 50).map (fun i=>(i.zero,i.size,i.bytes)) = some (some (.agg #[.int .i64 0,.bool false,.slice none 0 0,.slice none 0 0,.slice none 0 0]),5,88):=by kernel_rfl
set_option maxRecDepth 100000 in
set_option maxHeartbeats 8000000 in
theorem zo0 (p1 p2 p3 f1 f2 f3:Value) (p:PlanD) (d:FrameD) (op of lie:Int) (w:World) (hp:PlanAt (In w) w p1 p2 p3 p) (hwc:WaysC (In w) w p2 p.ways) (hf:FrameAt (In w) w f1 f2 f3 d) (hs:p.Small 1048576) (hR:zas p d) :
  Calls Tryz.prog 101 #[.agg #[.int .i64 p.sections,p1,p2,p3,.int .i64 p.hold],.agg #[.bool d.ok,f1,f2,f3],.agg #[.int .i64 op,.int .i64 of,.int .i64 lie]] w fun e w'=>∃ u1 u2 u3 bo bp bw bb,e = .returned (.agg #[.int .i64 (zdx p d (op,of,lie)).1,.bool (zdx p d (op,of,lie)).2.ok,u1,u2,u3]) ∧ Below w.heap.size w w' ∧ OFrame (New w w') w' u1 u2 u3 (zdx p d (op,of,lie)).2 bo bp bw bb:=by
 have KP:=zaa fun (W:World) (h:Below w.heap.size w W)=>hp.keep (Q:=In W) (In.keep h).1 (In.keep h).2;have KC:=zaa fun (W:World) (h:Below w.heap.size w W)=>hwc.keep (Q:=In W) (In.keep h).1 (In.keep h).2;have KF:=zaa fun (W:World) (h:Below w.heap.size w W)=>hf.keep (Q:=In W) (In.keep h).1 (In.keep h).2;obtain ⟨a1,c1,rfl⟩:=hp.1.size;obtain ⟨a2,c2,rfl⟩:=hp.2.1.size;obtain ⟨a3,c3,rfl⟩:=hp.2.2.size;obtain ⟨o1,m1,rfl⟩:=hf.1.size;obtain ⟨o2,m2,rfl⟩:=hf.2.1.size;obtain ⟨o3,m3,rfl⟩:=hf.2.2.size;have T0:=zn1 w 37 42 52 50 #[.int .i64 p.sections,.slice a1 p.switches.length c1,.slice a2 p.ways.length c2,.slice a3 p.bars.length c3,.int .i64 p.hold] #[.bool d.ok,.slice o1 d.occ.length m1,.slice o2 d.points.length m2,.slice o3 d.ways.length m3] #[.int .i64 op,.int .i64 of,.int .i64 lie] #[.int .i64 0,.bool false,.slice none 0 0,.slice none 0 0,.slice none 0 0];have HS:=zaa hs;have HR:=zaa hR;have hm:p.switches.length ≤ 1048576:=hs.1;have hn:p.ways.length ≤ 1048576:=hs.2.1;clear hp hwc hf hs hR;obtain ⟨R,hR⟩:∃ R,R = zdx p d (op,of,lie):=⟨_,rfl⟩;rw [← hR];go_enter Tryz.func101,Tryz.ntmps101
 go_wp2_with fail
 refine (zla p.sections a1 a2 p.switches.length p.ways.length c1 c2 (.slice a3 p.bars.length c3) (.int .i64 p.hold) op of lie _ hm hn).mono ?_;rintro e w2 ⟨rfl,hb⟩;have T2:=T0.call hb;clear T0 hb;have b0:=T2.cell (j:=0) (i:=0) rfl rfl;have b1:=T2.cell (j:=0) (i:=1) rfl rfl;have b2:=T2.cell (j:=0) (i:=2) rfl rfl;have b3:=T2.cell (j:=0) (i:=3) rfl rfl;have b4:=T2.cell (j:=0) (i:=4) rfl rfl;have f0:=T2.cell (j:=1) (i:=0) rfl rfl;have f1:=T2.cell (j:=1) (i:=1) rfl rfl;have f2:=T2.cell (j:=1) (i:=2) rfl rfl;have f3:=T2.cell (j:=1) (i:=3) rfl rfl;have e0:=T2.cell (j:=2) (i:=0) rfl rfl;have e1:=T2.cell (j:=2) (i:=1) rfl rfl;have e2:=T2.cell (j:=2) (i:=2) rfl rfl;rw [Nat.add_zero] at b0 b1 b2 b3 b4
 have hfin:∀ (w3:World) (u1 u2 u3:Value) (bo bp bw:Nat) (bb:Nat → Nat),Below w2.heap.size w2 w3 → OFrame (New w2 w3) w3 u1 u2 u3 R.2 bo bp bw bb → Hid (OFrame (fun c=>w2.heap.size ≤ c) w3 u1 u2 u3 R.2 bo bp bw bb) ∧ Boxes w [(37,#[.int .i64 p.sections,.slice a1 p.switches.length c1,.slice a2 p.ways.length c2,.slice a3 p.bars.length c3,.int .i64 p.hold]),(42,#[.bool d.ok,.slice o1 d.occ.length m1,.slice o2 d.points.length m2,.slice o3 d.ways.length m3]),(52,#[.int .i64 op,.int .i64 of,.int .i64 lie]),(50,#[.int .i64 0,.bool false,.slice none 0 0,.slice none 0 0,.slice none 0 0])] w3:=fun w3 u1 u2 u3 bo bp bw bb hb hF=>
  ⟨hF.but (K:=fun _=>True) (But.refl _ _) (fun _ _=>trivial) fun _ z=>z.1,T2.call hb⟩
 have hz2:w.heap.size + 3 < w2.heap.size:=T2.lt (j:=3) rfl;by_cases hev:za5 p.sections p.switches.length p.ways.length op of lie
 case neg=>
  rw [zae hev];have hRe:R = (1,d):=hR.trans (zgt hev);have HC:=zaa (ze6 _ _ _ d w2 (KF.out _ T2.below) (zd1 HR.out) (ze7 HR.out) (zh7 HR.out));have HFI:=zaa hfin;clear hfin hev hR T2 b0 b1 b2 b3 b4 e0 e1 e2
  go_wp2_with fail
  refine HC.out.mono ?_;rintro e w3 ⟨u1,u2,u3,bo,bp,bw,bb,rfl,hb,hF⟩
  have hd2:d = R.2:=by rw [hRe]
  have hc1:(1:Int) = R.1:=by rw [hRe]
  rw [hd2] at hF;obtain ⟨HF,T3⟩:=HFI.out w3 u1 u2 u3 bo bp bw bb hb hF;obtain ⟨g1,N1,q1,rfl,-⟩:=id hF.occ;obtain ⟨a4,q2,rfl,-⟩:=id hF.points;obtain ⟨a5,q3,rfl,-⟩:=id hF.ways;have r0:=T3.cell (j:=3) (i:=0) rfl rfl;have r1:=T3.cell (j:=3) (i:=1) rfl rfl;have r2:=T3.cell (j:=3) (i:=2) rfl rfl;have r3:=T3.cell (j:=3) (i:=3) rfl rfl;have r4:=T3.cell (j:=3) (i:=4) rfl rfl;have k0:=T3.frozen (j:=3) 0 rfl;have k1:=T3.frozen (j:=3) 1 rfl;have k2:=T3.frozen (j:=3) 2 rfl;have k3:=T3.frozen (j:=3) 3 rfl;have k4:=T3.frozen (j:=3) 4 rfl;have HT:=zaa T3.below
  have hok:d.ok = R.2.ok:=by rw [hRe]
  rw [hok];have HC1:=zaa hc1;clear hF hb HFI HC T3 f0 f1 f2 f3 hd2 hc1 hok hRe;go_wp2;refine bodyPost_ret (v:=.agg #[.int .i64 1,.bool R.2.ok,.slice (some ⟨bo,0,none⟩) R.2.occ.length q1,.slice a4 R.2.points.length q2,.slice a5 R.2.ways.length q3]) (by simp [results,Tryz.results101,go_sem,r0,r1,r2,r3,r4]) rfl ?_
  have pz:w.heap.size ≤ w.heap.size + 3:=by omega
  have hk:∀ o:Nat,¬ ((fun c=>c ≠ w.heap.size + 3) (⟨w.heap.size + 3,o,none⟩:Addr).block):=fun o z=>z rfl;refine ⟨_,_,_,bo,bp,bw,bb,by rw [← HC1.out],((((HT.out.setCell (p:=⟨w.heap.size + 3,0,none⟩) pz _).setCell (p:=⟨w.heap.size + 3,1,none⟩) pz _).setCell (p:=⟨w.heap.size + 3,2,none⟩) pz _).setCell (p:=⟨w.heap.size + 3,3,none⟩) pz _).setCell (p:=⟨w.heap.size + 3,4,none⟩) pz _,?_⟩;exact (HF.out.but (Q:=fun c=>w2.heap.size ≤ c) ((((((But.refl (fun c=>c ≠ w.heap.size + 3) w3).setCell (hk 0) _).setCell (hk 1) _).setCell (hk 2) _).setCell (hk 3) _).setCell (hk 4) _) (fun c hc=>by omega) fun _ z=>z).bound fun c hc hl=>⟨by omega,hl⟩
 rw [zam hev];have hRe:R = doD p d op of lie:=hR.trans (zfk hev);have HC:=zaa (zmn _ _ _ _ _ _ p d op of lie w2 (KP.out _ T2.below) (KC.out _ T2.below) (KF.out _ T2.below) HS.out (zd1 HR.out) HR.out hev);rw [← hRe] at HC;have HFI:=zaa hfin;clear hfin hev hR hRe T2
 go_wp2_with fail
 refine HC.out.mono ?_;rintro e w3 ⟨u1,u2,u3,rfl,hb,bo,bp,bw,bb,hF⟩;obtain ⟨HF,T3⟩:=HFI.out w3 u1 u2 u3 bo bp bw bb hb hF;obtain ⟨g1,N1,q1,rfl,-⟩:=id hF.occ;obtain ⟨a4,q2,rfl,-⟩:=id hF.points;obtain ⟨a5,q3,rfl,-⟩:=id hF.ways;have r0:=T3.cell (j:=3) (i:=0) rfl rfl;have r1:=T3.cell (j:=3) (i:=1) rfl rfl;have r2:=T3.cell (j:=3) (i:=2) rfl rfl;have r3:=T3.cell (j:=3) (i:=3) rfl rfl;have r4:=T3.cell (j:=3) (i:=4) rfl rfl;have k0:=T3.frozen (j:=3) 0 rfl;have k1:=T3.frozen (j:=3) 1 rfl;have k2:=T3.frozen (j:=3) 2 rfl;have k3:=T3.frozen (j:=3) 3 rfl;have k4:=T3.frozen (j:=3) 4 rfl;have HT:=zaa T3.below;clear hF hb HFI HC T3 f0 f1 f2 f3 b0 b1 b2 b3 b4 e0 e1 e2;go_wp2;refine bodyPost_ret (v:=.agg #[.int .i64 R.1,.bool R.2.ok,.slice (some ⟨bo,0,none⟩) R.2.occ.length q1,.slice a4 R.2.points.length q2,.slice a5 R.2.ways.length q3]) (by simp [results,Tryz.results101,go_sem,r0,r1,r2,r3,r4]) rfl ?_
 have pz:w.heap.size ≤ w.heap.size + 3:=by omega
 have hk:∀ o:Nat,¬ ((fun c=>c ≠ w.heap.size + 3) (⟨w.heap.size + 3,o,none⟩:Addr).block):=fun o z=>z rfl;refine ⟨_,_,_,bo,bp,bw,bb,rfl,((((HT.out.setCell (p:=⟨w.heap.size + 3,0,none⟩) pz _).setCell (p:=⟨w.heap.size + 3,1,none⟩) pz _).setCell (p:=⟨w.heap.size + 3,2,none⟩) pz _).setCell (p:=⟨w.heap.size + 3,3,none⟩) pz _).setCell (p:=⟨w.heap.size + 3,4,none⟩) pz _,?_⟩;exact (HF.out.but (Q:=fun c=>w2.heap.size ≤ c) ((((((But.refl (fun c=>c ≠ w.heap.size + 3) w3).setCell (hk 0) _).setCell (hk 1) _).setCell (hk 2) _).setCell (hk 3) _).setCell (hk 4) _) (fun c hc=>by omega) fun _ z=>z).bound fun c hc hl=>⟨by omega,hl⟩
end Go.Proofs.YtdhinkgjiapigabGreatDoor
namespace Go.Proofs.YtdhinkgjiapigabGreatDoor
open Go.RowKit Go.Deep
open Classical
theorem zij {p:PlanD} (hp:Right p) (es:List (Int × Int × Int)) (k:Nat) (hk:k ≤ es.length):zas p (zhy (zaq p) (zdu p (zaq p) (es.take k))):=by
 induction k with
 | zero=>exact zdp hp
 | succ k ih=>
  obtain ⟨e,he⟩:=zac es (zaa rfl) (show k < es.length by omega);rw [zd9 p (zaq p) he,zid];exact zim (ih (by omega)) e
structure RunB (w:World) (pc:Array Value) (fb:Nat) (W:World) (v:Value) (xs:List Value) (lo:Nat → Nat) (l:List (Int × FrameD)) (f:FrameD) (u1 u2 u3:Value):Prop where
 below:Below w.heap.size w W
 box:W.rowIs w.heap.size 37 5 (fun i=>pc[i]!)
 fbox:W.rowIs fb 42 4 (fun i=>(#[.bool f.ok,u1,u2,u3]:Array Value)[i]!)
 own:W.ownsRow w.heap.size 50 5 v l.length xs
 dones:DonesX W l xs lo
 frame:∃ bo bp bw bb,OFrame (fun c=>w.heap.size ≤ c) W u1 u2 u3 f bo bp bw bb
 top:lo l.length ≤ W.heap.size
 low:∀ j,w.heap.size ≤ lo j
 step:∀ j,j < l.length → lo j ≤ lo (j + 1)
 fbl:w.heap.size < fb
theorem RunB.call {w:World} {pc:Array Value} {fb:Nat} {W W':World} {v:Value} {xs:List Value} {lo:Nat → Nat} {l:List (Int × FrameD)} {f:FrameD} {u1 u2 u3:Value} (h:RunB w pc fb W v xs lo l f u1 u2 u3) (hB:Below W.heap.size W W'):RunB w pc fb W' v xs lo l f u1 u2 u3:=by
 obtain ⟨bo,bp,bw,bb,hf⟩:=h.frame;exact ⟨h.below.trans (hB.mono h.below.size),zah h.box hB,zah h.fbox hB,za3 (K:=fun _=>True) h.own (But.of_calls hB) fun _ _=>trivial,h.dones.map fun _ _ _ _ _ _ _ _ _ k=>k.but (K:=fun _=>True) (But.of_calls hB) (fun _ _=>trivial) fun _ z=>z,⟨bo,bp,bw,bb,hf.but (K:=fun _=>True) (But.of_calls hB) (fun _ _=>trivial) fun _ z=>z⟩,Nat.le_trans h.top hB.size,h.low,h.step,h.fbl⟩
theorem RunB.next {w:World} {pc:Array Value} {fb:Nat} {W W4 w5:World} {v v':Value} {xs:List Value} {lo:Nat → Nat} {l:List (Int × FrameD)} {f:FrameD} {u1 u2 u3 n1 n2 n3:Value} {x:Int × FrameD} {bo bp bw:Nat} {bb:Nat → Nat} (h:RunB w pc fb W v xs lo l f u1 u2 u3) (hB:Below W.heap.size W W4) (hF:OFrame (fun c=>W.heap.size ≤ c ∧ c < W4.heap.size) W4 n1 n2 n3 x.2 bo bp bw bb)
  (hown:w5.ownsRow w.heap.size 50 5 v' (l.length + 1) (xs ++ [.int .i64 x.1,.bool x.2.ok,n1,n2,n3])) (hg:W4.grownBy w5 v.ownBlock) :
  RunB w pc fb ((((w5.setCell ⟨fb,0,none⟩ (.bool x.2.ok)).setCell ⟨fb,1,none⟩ n1).setCell ⟨fb,2,none⟩ n2).setCell ⟨fb,3,none⟩ n3) v' (xs ++ [.int .i64 x.1,.bool x.2.ok,n1,n2,n3]) (fun j=>if j = l.length + 1 then W4.heap.size else lo j) (l ++ [x]) x.2 n1 n2 n3:=by
 have R4:=h.call hB;have hBg:But (fun c=>some c ≠ v.ownBlock) W4 w5:=⟨hg.os,hg.tape,hg.output,hg.size,fun c hc hk=>hg.block c hc hk⟩;have hty:∀ {b t N:Nat} {g:Nat → Value},W4.rowIs b t N g → t ≠ 50 → some b ≠ v.ownBlock:=fun hr ht e=>(zat R4.own e.symm).2.2 _ _ _ _ hr ht rfl;have hb5:=hBg.row R4.box (hty R4.box (by decide));have hf5:=hBg.row R4.fbox (hty R4.fbox (by decide));have hj:∀ o:Nat,¬ ((fun c=>c ≠ fb) (⟨fb,o,none⟩:Addr).block):=fun o z=>z rfl;have hB6:=((((But.refl (fun c=>c ≠ fb) w5).setCell (hj 0) (.bool x.2.ok)).setCell (hj 1) n1).setCell (hj 2) n2).setCell (hj 3) n3;have hbx:∀ (P:Nat → Prop) v1 v2 v3 d bo bp bw bb,OFrame P W4 v1 v2 v3 d bo bp bw bb → OFrame P ((((w5.setCell ⟨fb,0,none⟩ (.bool x.2.ok)).setCell ⟨fb,1,none⟩ n1).setCell ⟨fb,2,none⟩ n2).setCell ⟨fb,3,none⟩ n3) v1 v2 v3 d bo bp bw bb:=fun P v1 v2 v3 d bo bp bw bb k=>(k.grown hg R4.own).boxed hf5 ⟨by decide,by decide,by decide⟩ hB6 fun _ z=>z
 have hll:(l ++ [x]).length = l.length + 1:=by rw [List.length_append]; rfl
 have h5:Below w.heap.size w w5:=R4.below.trans (zbm R4.own hg (Nat.le_refl _) R4.below.size);refine ⟨h5.trans (hB6.below h5.size fun c hc=>by have:=h.fbl; omega),hB6.row hb5 (by have:=h.fbl; omega),?_,?_,?_,⟨bo,bp,bw,bb,(hbx _ _ _ _ _ _ _ _ _ hF).but (K:=fun _=>True) (But.refl _ _) (fun _ _=>trivial) fun c hc=>Nat.le_trans h.below.size hc.1⟩,?_,fun j=>?_,fun j hj'=>?_,h.fbl⟩
 ·refine ((((hf5.set 0 _).set 1 _).set 2 _).set 3 _).congr fun i hi=>?_;rcases i with _ | _ | _ | _ | i
  ·rfl
  ·rfl
  ·rfl
  ·rfl
  ·omega
 ·rw [hll];exact za3 hown hB6 fun g hg' e=>(zat hown hg').2.2 _ _ _ _ hf5 (by decide) e.symm
 ·exact (h.dones.map fun P v1 v2 v3 d bo bp bw bb k=>hbx P v1 v2 v3 d bo bp bw bb (k.but (K:=fun _=>True) (But.of_calls hB) (fun _ _=>trivial) fun _ z=>z)).snoc h.own.1 ((hbx _ _ _ _ _ _ _ _ _ hF).but (K:=fun _=>True) (But.refl _ _) (fun _ _=>trivial) fun c hc=>⟨Nat.le_trans h.top hc.1,hc.2⟩)
 ·rw [hll,if_pos rfl];exact Nat.le_trans hBg.size hB6.size
 ·by_cases e:j = l.length + 1
  ·rw [if_pos e];exact R4.below.size
  ·rw [if_neg e];exact h.low j
 ·rw [hll] at hj';by_cases e:j = l.length
  ·rw [if_neg (show ¬ j = l.length + 1 by omega),if_pos (show j + 1 = l.length + 1 by omega),e];exact Nat.le_trans h.top hB.size
  ·rw [if_neg (show ¬ j = l.length + 1 by omega),if_neg (show ¬ j + 1 = l.length + 1 by omega)];exact h.step j (by omega)
def DonesR (w w':World) (v:Value) (l:List (Int × FrameD)):Prop:=
 ∃ xs lo,w'.ownsRow w.heap.size 50 5 v l.length xs ∧ DonesX w' l xs lo ∧ lo l.length ≤ w'.heap.size ∧ (∀ j,w.heap.size ≤ lo j) ∧ ∀ j,j < l.length → lo j ≤ lo (j + 1)
theorem zh6 {w w':World} (hs:w.heap.size ≤ w'.heap.size):DonesR w w' (.slice none 0 0) []:=⟨[],fun _=>w.heap.size,World.ownsRow_nil _ _ _ _,(fun j _ hj=>by cases hj),hs,fun _=>Nat.le_refl _,fun j hj=>absurd hj (by show ¬ j < 0; omega)⟩
set_option maxRecDepth 100000 in
set_option maxHeartbeats 8000000 in
theorem zqw (p1 p2 p3 ve:Value) (p:PlanD) (es:List (Int × Int × Int)) (w:World) (hp:PlanAt (In w) w p1 p2 p3 p) (hwc:WaysC (In w) w p2 p.ways) (hev:Evs (In w) w ve es) (hs:p.Small 1048576) (hes:es.length ≤ 1048576) (hg:w.cell? ⟨1,0,none⟩ = some zrv) :
  Calls Tryz.prog 32 #[.agg #[.int .i64 p.sections,p1,p2,p3,.int .i64 p.hold],ve] w fun e w'=>∃ v,e = .returned v ∧ Below w.heap.size w w' ∧ DonesR w w' v (zp2 p es):=by
 have KP:=zaa fun (W:World) (h:Below w.heap.size w W)=>hp.keep (Q:=In W) (In.keep h).1 (In.keep h).2;have KC:=zaa fun (W:World) (h:Below w.heap.size w W)=>hwc.keep (Q:=In W) (In.keep h).1 (In.keep h).2;have KE:=zaa fun (W:World) (h:Below w.heap.size w W)=>hev.keep (Q:=In W) (In.keep h).1 (In.keep h).2;obtain ⟨a1,c1,rfl⟩:=hp.1.size;obtain ⟨a2,c2,rfl⟩:=hp.2.1.size;obtain ⟨a3,c3,rfl⟩:=hp.2.2.size;obtain ⟨ae,ce,rfl,-⟩:=id hev;have T0:=zaw w 37 #[.int .i64 p.sections,.slice a1 p.switches.length c1,.slice a2 p.ways.length c2,.slice a3 p.bars.length c3,.int .i64 p.hold];have HS:=zaa hs;have HG:=zaa hg;have hno:¬ (Right p ∧ es.length ≤ 1000) → zp2 p es = []:=fun h=>if_neg h;have HNO:=zaa hno;clear hp hwc hev hs hg hno;go_enter Tryz.func32,Tryz.ntmps32
 go_wp2_with fail
 refine (zfh _ _ _ p _ (KP.out _ T0.below) HS.out (ck HG.out T0.below)).mono ?_;rintro e w1 ⟨rfl,hb⟩;have T1:=T0.call hb;clear T0 hb;by_cases hr:Right p
 case neg=>
  rw [zae hr];have HNR:=zaa (HNO.out fun z=>hr z.1);have HT:=zaa T1.below;clear hr T1;go_wp2;go_ret;refine ⟨_,rfl,HT.out,?_⟩;rw [HNR.out];exact zh6 HT.out.size
 rw [zam hr];by_cases hl:es.length ≤ 1000
 case neg=>
  have HNR:=zaa (HNO.out fun z=>hl z.2);have HT:=zaa T1.below
  have hgt:(1000:Int) < (es.length:Int):=by omega
  have hgd:decide ((1000:Int) < (es.length:Int)) = true:=decide_eq_true hgt;clear hr T1 hl hgt;go_wp2;go_ret;refine ⟨_,rfl,HT.out,?_⟩;rw [HNR.out];exact zh6 HT.out.size
 have HRUN:=zaa (show zp2 p es = zdu p (zaq p) es from if_pos ⟨hr,hl⟩);have hgd:decide ((1000:Int) < (es.length:Int)) = false:=decide_eq_false (by omega);have HR:=zaa hr
 obtain ⟨i0,hi0⟩:∃ i,Tryz.prog.info? 50 = some i:=by
  have:=Tryz.infoDone
  cases e:Tryz.prog.info? 50 with
  | none=>rw [e] at this; cases this
  | some i=>exact ⟨i,rfl⟩
 have hif:=Tryz.infoDone;rw [hi0] at hif;simp only [Option.map_some,Option.some.injEq,Prod.mk.injEq] at hif;obtain ⟨wm,hmk,hown0,hgm⟩:=run_make_own (P:=Tryz.prog) (w:=w1) w.heap.size 61 50 i0 (.agg #[.int .i64 0,.bool false,.slice none 0 0,.slice none 0 0,.slice none 0 0]) 5 Tryz.underlying61 hi0 hif.1 hif.2.1 .i64 .i64 es.length (by rw [hif.2.2]; omega) (by unfold maxLen; omega) T1.below.size;have hbm:=zer hgm;have Tm:=T1.call hbm;have m0:=Tm.cell (j:=0) (i:=0) rfl rfl;have m1:=Tm.cell (j:=0) (i:=1) rfl rfl;have m2:=Tm.cell (j:=0) (i:=2) rfl rfl;have m3:=Tm.cell (j:=0) (i:=3) rfl rfl;have m4:=Tm.cell (j:=0) (i:=4) rfl rfl;rw [Nat.add_zero] at m0 m1 m2 m3 m4;have HOW:=zaa hown0;have HBEG:=zaa (zjd _ _ _ p wm (KP.out _ Tm.below) HS.out (ck HG.out Tm.below));clear hr hl hown0 hgm hbm hif hi0 T1 HNO
 go_wp2_with fail
 refine HBEG.out.mono ?_;clear m0 m1 m2 m3 m4 HBEG hmk;rintro e w3 ⟨u1,u2,u3,rfl,hb,hfm⟩;have hz:zdd p = zaq p:=if_pos HR.out;rw [hz] at hfm ⊢;have T3:=Tm.call hb;obtain ⟨bo,bp,bw,bb,hF⟩:=hfm.own (ze7 (zdp HR.out));obtain ⟨q1,s1,q2,s2,q3,s3,rfl,rfl,rfl⟩:=hfm.slices;have hbn:=zab w3 (.cells #[.bool (zaq p).ok,.slice q1 (zaq p).occ.length s1,.slice q2 (zaq p).points.length s2,.slice q3 (zaq p).ways.length s3] 42);have hrn:=zak w3 42 #[.bool (zaq p).ok,.slice q1 (zaq p).occ.length s1,.slice q2 (zaq p).points.length s2,.slice q3 (zaq p).ways.length s3];have T4:=T3.call hbn;have hbm4:=hb.trans (hbn.mono hb.size)
 have RB:RunB w #[.int .i64 p.sections,.slice a1 p.switches.length c1,.slice a2 p.ways.length c2,.slice a3 p.bars.length c3,.int .i64 p.hold] w3.heap.size (w3.alloc (.cells #[.bool (zaq p).ok,.slice q1 (zaq p).occ.length s1,.slice q2 (zaq p).points.length s2,.slice q3 (zaq p).ways.length s3] 42)) (.slice (some ⟨w1.heap.size,0,none⟩) 0 es.length) [] (fun _=>(w3.alloc (.cells #[.bool (zaq p).ok,.slice q1 (zaq p).occ.length s1,.slice q2 (zaq p).points.length s2,.slice q3 (zaq p).ways.length s3] 42)).heap.size) [] (zaq p) (.slice q1 (zaq p).occ.length s1) (.slice q2 (zaq p).points.length s2) (.slice q3 (zaq p).ways.length s3):=
  ⟨T4.below,T4.row 0 _ _ rfl,hrn,za3 (K:=fun _=>True) HOW.out (But.of_calls hbm4) fun _ _=>trivial,(fun j _ hj=>by cases hj),⟨bo,bp,bw,bb,hF.but (K:=fun _=>True) (But.of_calls hbn) (fun _ _=>trivial) fun c hc=>by have:=Tm.below.size; omega⟩,Nat.le_refl _,fun _=>T4.below.size,(fun j hj=>absurd hj (by show ¬ j < 0; omega)),T3.lt (j:=0) rfl⟩
 have HRB:=zaa RB;clear T3 T4 Tm hF hfm hb hbn hrn hbm4 RB hz HOW;go_wp2;obtain ⟨W4,hW4⟩:∃ W,W = w3.alloc (.cells #[.bool (zaq p).ok,.slice q1 (zaq p).occ.length s1,.slice q2 (zaq p).points.length s2,.slice q3 (zaq p).ways.length s3] 42):=⟨_,rfl⟩;obtain ⟨fb,hfb⟩:∃ fb,fb = w3.heap.size:=⟨_,rfl⟩;rw [← hW4,← hfb] at HRB;rw [← hW4,← hfb];clear hW4 hfb w3;obtain ⟨F,hF⟩:∃ F,F = zaq p:=⟨_,rfl⟩;have HFF:=zaa hF;rw [← hF] at HRB;clear hF
 go_loopw [5,25] (fun o z wr=>∃ (k:Nat) (xs:List Value) (lo:Nat → Nat) (u1 u2 u3:Value),k ≤ es.length ∧ z = .int .i64 k ∧ RunB w #[.int .i64 p.sections,.slice a1 p.switches.length c1,.slice a2 p.ways.length c2,.slice a3 p.bars.length c3,.int .i64 p.hold] fb wr o xs lo (zdu p F (es.take k)) (zhy F (zdu p F (es.take k))) u1 u2 u3) (fun _ z _=>es.length - (intOf z).toNat)
 case atStart=>exact ⟨0,_,_,_,_,_,Nat.zero_le _,rfl,HRB.out⟩
 case round=>
  obtain ⟨k,xs,lo,u1,u2,u3,hk,rfl,RB⟩:=hrel;rename World=>wr;rename Value=>vo;have hlk:=zez p F es k hk;obtain ⟨L,hL⟩:∃ L,L = zdu p F (es.take k):=⟨_,rfl⟩;rw [← hL] at hlk RB;obtain ⟨f,hf⟩:∃ f,f = zhy F L:=⟨_,rfl⟩;rw [← hf] at RB
  have hfr:zas p f:=by
   have:=zij HR.out es k hk;rw [← HFF.out,← hL,← hf] at this;exact this
  have HL:=zaa hL;have Hf:=zaa hf;clear hL hf HRB;obtain ⟨a5,c5,e5⟩:=zag RB.own;rw [hlk] at e5;subst e5;by_cases hlt:k < es.length
  ·obtain ⟨⟨op,of,lie⟩,hx⟩:=zac es (zaa rfl) hlt;obtain ⟨ae',ce',e,h0 | ⟨be,oe,rfl,hbe,hce⟩⟩:=KE.out wr RB.below
   ·omega
   cases e
   obtain ⟨g0,g1,g2⟩:=hce k hlt _ hx;simp only at g0 g1 g2;obtain ⟨bo,bp,bw,bb,hF⟩:=RB.frame;have hFA:=hF.read;obtain ⟨o1,m1,rfl⟩:=hFA.1.size;obtain ⟨o2,m2,rfl⟩:=hFA.2.1.size;obtain ⟨o3,m3,rfl⟩:=hFA.2.2.size;have hbn:=zab wr (.cells #[.int .i64 op,.int .i64 of,.int .i64 lie] 52);have hrn:=zak wr 52 #[.int .i64 op,.int .i64 of,.int .i64 lie];have R1:=RB.call hbn;have hFB:=(hF.bound (Q:=In wr) fun _ _ z=>z).read.keep (Q:=In (wr.alloc (.cells #[.int .i64 op,.int .i64 of,.int .i64 lie] 52))) (In.keep hbn).1 (In.keep hbn).2;have HRO:=zaa (zo0 _ _ _ _ _ _ p f op of lie (wr.alloc (.cells #[.int .i64 op,.int .i64 of,.int .i64 lie] 52)) (KP.out _ R1.below) (KC.out _ R1.below) hFB HS.out hfr);have y0:(wr.alloc (.cells #[.int .i64 op,.int .i64 of,.int .i64 lie] 52)).cell? ⟨w.heap.size,0,none⟩ = some (.int .i64 p.sections):=R1.box.cell (i:=0) (by omega);have y1:(wr.alloc (.cells #[.int .i64 op,.int .i64 of,.int .i64 lie] 52)).cell? ⟨w.heap.size,1,none⟩ = some (.slice a1 p.switches.length c1):=R1.box.cell (i:=1) (by omega);have y2:(wr.alloc (.cells #[.int .i64 op,.int .i64 of,.int .i64 lie] 52)).cell? ⟨w.heap.size,2,none⟩ = some (.slice a2 p.ways.length c2):=R1.box.cell (i:=2) (by omega);have y3:(wr.alloc (.cells #[.int .i64 op,.int .i64 of,.int .i64 lie] 52)).cell? ⟨w.heap.size,3,none⟩ = some (.slice a3 p.bars.length c3):=R1.box.cell (i:=3) (by omega);have y4:(wr.alloc (.cells #[.int .i64 op,.int .i64 of,.int .i64 lie] 52)).cell? ⟨w.heap.size,4,none⟩ = some (.int .i64 p.hold):=R1.box.cell (i:=4) (by omega);have x0:(wr.alloc (.cells #[.int .i64 op,.int .i64 of,.int .i64 lie] 52)).cell? ⟨fb,0,none⟩ = some (.bool f.ok):=R1.fbox.cell (i:=0) (by omega);have x1:(wr.alloc (.cells #[.int .i64 op,.int .i64 of,.int .i64 lie] 52)).cell? ⟨fb,1,none⟩ = some (.slice o1 f.occ.length m1):=R1.fbox.cell (i:=1) (by omega);have x2:(wr.alloc (.cells #[.int .i64 op,.int .i64 of,.int .i64 lie] 52)).cell? ⟨fb,2,none⟩ = some (.slice o2 f.points.length m2):=R1.fbox.cell (i:=2) (by omega);have x3:(wr.alloc (.cells #[.int .i64 op,.int .i64 of,.int .i64 lie] 52)).cell? ⟨fb,3,none⟩ = some (.slice o3 f.ways.length m3):=R1.fbox.cell (i:=3) (by omega)
   have hkl:(k:Int) < (es.length:Int):=by omega
   have HX:=zaa hx;have HRB:=zaa RB;have HFR:=zaa hfr;have HBN:=zaa hbn;obtain ⟨X,hX⟩:∃ X,X = zdx p f (op,of,lie):=⟨_,rfl⟩;rw [← hX] at HRO;have HXX:=zaa hX;clear RB R1 hF hFA hFB hce hx hfr hbn hrn hX
   go_wp2_with fail
   refine HRO.out.mono ?_;clear y0 y1 y2 y3 y4 x0 x1 x2 x3 g0 g1 g2 HRO;rintro e w2 ⟨n1,n2,n3,bo2,bp2,bw2,bb2,rfl,hb2,hF2⟩;have hb12:Below wr.heap.size wr w2:=HBN.out.trans (hb2.mono HBN.out.size);obtain ⟨gO,NO,t1,rfl,-⟩:=id hF2.occ;obtain ⟨a6,t2,rfl,-⟩:=id hF2.points;obtain ⟨a7,t3,rfl,-⟩:=id hF2.ways;have hn3:=zab w2 (.cells #[.int .i64 X.1,.bool X.2.ok,.slice (some ⟨bo2,0,none⟩) X.2.occ.length t1,.slice a6 X.2.points.length t2,.slice a7 X.2.ways.length t3] 50);have hn4:=zab (w2.alloc (.cells #[.int .i64 X.1,.bool X.2.ok,.slice (some ⟨bo2,0,none⟩) X.2.occ.length t1,.slice a6 X.2.points.length t2,.slice a7 X.2.ways.length t3] 50)) (.cells #[.int .i64 X.1,.bool X.2.ok,.slice (some ⟨bo2,0,none⟩) X.2.occ.length t1,.slice a6 X.2.points.length t2,.slice a7 X.2.ways.length t3] 50);have h34:=hn3.trans (hn4.mono hn3.size);have h14:=hb12.trans (h34.mono hb12.size);have hr3:=zak w2 50 #[.int .i64 X.1,.bool X.2.ok,.slice (some ⟨bo2,0,none⟩) X.2.occ.length t1,.slice a6 X.2.points.length t2,.slice a7 X.2.ways.length t3];have hr4:=zak (w2.alloc (.cells #[.int .i64 X.1,.bool X.2.ok,.slice (some ⟨bo2,0,none⟩) X.2.occ.length t1,.slice a6 X.2.points.length t2,.slice a7 X.2.ways.length t3] 50)) 50 #[.int .i64 X.1,.bool X.2.ok,.slice (some ⟨bo2,0,none⟩) X.2.occ.length t1,.slice a6 X.2.points.length t2,.slice a7 X.2.ways.length t3]
   have hz3:(w2.alloc (.cells #[.int .i64 X.1,.bool X.2.ok,.slice (some ⟨bo2,0,none⟩) X.2.occ.length t1,.slice a6 X.2.points.length t2,.slice a7 X.2.ways.length t3] 50)).heap.size = w2.heap.size + 1:=by simp
   have hz4:((w2.alloc (.cells #[.int .i64 X.1,.bool X.2.ok,.slice (some ⟨bo2,0,none⟩) X.2.occ.length t1,.slice a6 X.2.points.length t2,.slice a7 X.2.ways.length t3] 50)).alloc (.cells #[.int .i64 X.1,.bool X.2.ok,.slice (some ⟨bo2,0,none⟩) X.2.occ.length t1,.slice a6 X.2.points.length t2,.slice a7 X.2.ways.length t3] 50)).heap.size = w2.heap.size + 1 + 1:=by simp
   have HF4:Hid (OFrame (fun c=>wr.heap.size ≤ c ∧ c < ((w2.alloc (.cells #[.int .i64 X.1,.bool X.2.ok,.slice (some ⟨bo2,0,none⟩) X.2.occ.length t1,.slice a6 X.2.points.length t2,.slice a7 X.2.ways.length t3] 50)).alloc (.cells #[.int .i64 X.1,.bool X.2.ok,.slice (some ⟨bo2,0,none⟩) X.2.occ.length t1,.slice a6 X.2.points.length t2,.slice a7 X.2.ways.length t3] 50)).heap.size) ((w2.alloc (.cells #[.int .i64 X.1,.bool X.2.ok,.slice (some ⟨bo2,0,none⟩) X.2.occ.length t1,.slice a6 X.2.points.length t2,.slice a7 X.2.ways.length t3] 50)).alloc (.cells #[.int .i64 X.1,.bool X.2.ok,.slice (some ⟨bo2,0,none⟩) X.2.occ.length t1,.slice a6 X.2.points.length t2,.slice a7 X.2.ways.length t3] 50)) (.slice (some ⟨bo2,0,none⟩) X.2.occ.length t1) (.slice a6 X.2.points.length t2) (.slice a7 X.2.ways.length t3) X.2 bo2 bp2 bw2 bb2):=by
    refine (hF2.but (K:=fun _=>True) (Q:=fun c=>wr.heap.size ≤ c) (But.of_calls h34) (fun _ _=>trivial) fun c hc=>?_).bound fun c h1 h2=>⟨h1,h2⟩;have:=hc.1;rw [World.size_alloc] at this;omega
   have SRC:Hid (1 = 0 ∨ ∃ A,(some (⟨w2.heap.size + 1,0,none⟩:Addr)) = some A ∧ ∀ j u,([.int .i64 X.1,.bool X.2.ok,.slice (some ⟨bo2,0,none⟩) X.2.occ.length t1,.slice a6 X.2.points.length t2,.slice a7 X.2.ways.length t3]:List Value)[j]? = some u → ((w2.alloc (.cells #[.int .i64 X.1,.bool X.2.ok,.slice (some ⟨bo2,0,none⟩) X.2.occ.length t1,.slice a6 X.2.points.length t2,.slice a7 X.2.ways.length t3] 50)).alloc (.cells #[.int .i64 X.1,.bool X.2.ok,.slice (some ⟨bo2,0,none⟩) X.2.occ.length t1,.slice a6 X.2.points.length t2,.slice a7 X.2.ways.length t3] 50)).cell? (A.add j) = some u):=by
    refine .inr ⟨_,rfl,fun j u hj=>?_⟩;rw [zbp,Nat.zero_add];have hj5:j < 5:=(List.getElem?_eq_some_iff.1 hj).1;rw [hz3] at hr4;rw [hr4.cell (by simpa using hj5)];rcases j with _ | _ | _ | _ | _ | j
    ·exact hj
    ·exact hj
    ·exact hj
    ·exact hj
    ·exact hj
    ·omega
   have ONE:Hid (∀ u ∈ ([.int .i64 X.1,.bool X.2.ok,.slice (some ⟨bo2,0,none⟩) X.2.occ.length t1,.slice a6 X.2.points.length t2,.slice a7 X.2.ways.length t3]:List Value),u.oneCell' = true):=by
    intro u hu;simp at hu
    rcases hu with rfl | rfl | rfl | rfl | rfl <;> rfl
   have HM7:Hid (k + 1 ≤ maxLen):=by show k + 1 ≤ maxLen; unfold maxLen; omega
   have HM8:Hid ((k + 1) * 88 ≤ 140737488355328):=by show (k + 1) * 88 ≤ 140737488355328; omega
   have R4:=HRB.out.call h14;have hown4:=R4.own;rw [hlk] at hown4;have OWY:=zaa hown4;have HZY:Hid (w.heap.size ≤ ((w2.alloc (.cells #[.int .i64 X.1,.bool X.2.ok,.slice (some ⟨bo2,0,none⟩) X.2.occ.length t1,.slice a6 X.2.points.length t2,.slice a7 X.2.ways.length t3] 50)).alloc (.cells #[.int .i64 X.1,.bool X.2.ok,.slice (some ⟨bo2,0,none⟩) X.2.occ.length t1,.slice a6 X.2.points.length t2,.slice a7 X.2.ways.length t3] 50)).heap.size):=R4.below.size;have H14:=zaa h14;have HD3:Hid (((w2.alloc (.cells #[.int .i64 X.1,.bool X.2.ok,.slice (some ⟨bo2,0,none⟩) X.2.occ.length t1,.slice a6 X.2.points.length t2,.slice a7 X.2.ways.length t3] 50)).alloc (.cells #[.int .i64 X.1,.bool X.2.ok,.slice (some ⟨bo2,0,none⟩) X.2.occ.length t1,.slice a6 X.2.points.length t2,.slice a7 X.2.ways.length t3] 50)).rowIs w2.heap.size 50 5 (fun i=>(#[.int .i64 X.1,.bool X.2.ok,.slice (some ⟨bo2,0,none⟩) X.2.occ.length t1,.slice a6 X.2.points.length t2,.slice a7 X.2.ways.length t3]:Array Value)[i]!)):=zah hr3 hn4;have HFB4:=zaa R4.fbox;have hwr2:=hb12.size;clear hF2 hb2 hn3 hn4 h34 h14 hr3 hr4 R4 hown4 hz3 hz4 hb12
   go_wp2_with (at_builtin; refine zai rfl _ _ 61 rfl w.heap.size 50 (.agg #[.int .i64 0,.bool false,.slice none 0 0,.slice none 0 0,.slice none 0 0]) 5 88 Tryz.underlying61 Tryz.infoDone rfl (by decide) (.slice a5 k c5) k xs rfl OWY.out (some ⟨w2.heap.size + 1,0,none⟩) 1 1 [.int .i64 X.1,.bool X.2.ok,.slice (some ⟨bo2,0,none⟩) X.2.occ.length t1,.slice a6 X.2.points.length t2,.slice a7 X.2.ways.length t3] rfl rfl SRC.out ONE.out HM7.out HM8.out HZY.out ?_)
   intro u5 w5 hown5 hgr5;obtain ⟨a8,c8,rfl⟩:=zag hown5;have hBg:But (fun c=>some c ≠ (Value.slice a5 k c5).ownBlock) ((w2.alloc (.cells #[.int .i64 X.1,.bool X.2.ok,.slice (some ⟨bo2,0,none⟩) X.2.occ.length t1,.slice a6 X.2.points.length t2,.slice a7 X.2.ways.length t3] 50)).alloc (.cells #[.int .i64 X.1,.bool X.2.ok,.slice (some ⟨bo2,0,none⟩) X.2.occ.length t1,.slice a6 X.2.points.length t2,.slice a7 X.2.ways.length t3] 50)) w5:=⟨hgr5.os,hgr5.tape,hgr5.output,hgr5.size,fun c hc hk=>hgr5.block c hc hk⟩
   have hD5:=hBg.row HD3.out fun e=>by
    have h1:=HRB.out.own;rw [hlk] at h1;have:=(zat h1 e.symm).2.1;omega
   have hf5:=hBg.row HFB4.out fun e=>(zat OWY.out e.symm).2.2 _ _ _ _ HFB4.out (by decide) rfl;have FIN:=zaa (HRB.out.next H14.out HF4.out (by rw [hlk]; exact hown5) hgr5);have d1:w5.cell? ⟨w2.heap.size,1,none⟩ = some (.bool X.2.ok):=hD5.cell (i:=1) (by omega);have d2:w5.cell? ⟨w2.heap.size,2,none⟩ = some (.slice (some ⟨bo2,0,none⟩) X.2.occ.length t1):=hD5.cell (i:=2) (by omega);have d3:w5.cell? ⟨w2.heap.size,3,none⟩ = some (.slice a6 X.2.points.length t2):=hD5.cell (i:=3) (by omega);have d4:w5.cell? ⟨w2.heap.size,4,none⟩ = some (.slice a7 X.2.ways.length t3):=hD5.cell (i:=4) (by omega);have x0:=hf5.cell (i:=0) (by omega);have x1:=hf5.cell (i:=1) (by omega);have x2:=hf5.cell (i:=2) (by omega);have x3:=hf5.cell (i:=3) (by omega);have k0:=hf5.frozen 0;have k1:=hf5.frozen 1;have k2:=hf5.frozen 2;have k3:=hf5.frozen 3;clear hD5 hf5 hBg hown5 hgr5 HF4 SRC ONE OWY HD3 HFB4 H14 HRB;go_wp2;go_roundw
   case rel=>exact ⟨k + 1,_,_,_,_,_,by omega,by go_num,by rw [zd9 p F HX.out,← HL.out,zid,← Hf.out,← HXX.out]; exact FIN.out⟩
   case measure=>simp [intOf]; omega
  ·obtain rfl:k = es.length:=by omega
   have HRB:=zaa RB;clear RB hfr;go_wp2;go_ret;refine ⟨_,rfl,HRB.out.below,?_⟩
   have e:zp2 p es = L:=by rw [HRUN.out,HL.out,List.take_length,HFF.out]
   rw [e];have h1:=HRB.out.own;rw [hlk] at h1;exact ⟨xs,lo,by rw [hlk]; exact h1,HRB.out.dones,HRB.out.top,HRB.out.low,HRB.out.step⟩
end Go.Proofs.YtdhinkgjiapigabGreatDoor
