import Derived.Test.YtdhinkgjiapigabGreatDoorConc
import Derived.Test.YtdhinkgjiapigabGreatDoorLocksA
import Derived.Test.YtdhinkgjiapigabGreatDoorWhyW
import Derived.Test.YtdhinkgjiapigabGreatDoorToA
import Derived.Test.YtdhinkgjiapigabGreatDoorDoS3
import Derived.Test.YtdhinkgjiapigabGreatDoorRunD
import Derived.Test.YtdhinkgjiapigabGreatDoorRunJ
import Derived.Test.YtdhinkgjiapigabGreatDoorSpec7
import Derived.Deep.RegionLaw
import Derived.Deep.AppendLies
import Derived.Test.YtdhinkgjiapigabGreatDoorDoI4
import Derived.Deep.DeepCutAuto
namespace Go.Proofs.YtdhinkgjiapigabGreatDoor
open Go.RowKit Go.Deep
open Classical
end Go.Proofs.YtdhinkgjiapigabGreatDoor
namespace Go.Proofs.YtdhinkgjiapigabGreatDoor
open Go.RowKit Go.Deep
open Classical
end Go.Proofs.YtdhinkgjiapigabGreatDoor
namespace Go.Proofs.YtdhinkgjiapigabGreatDoor
open Go.RowKit Go.Deep
end Go.Proofs.YtdhinkgjiapigabGreatDoor
namespace Go.Proofs.YtdhinkgjiapigabGreatDoor
open Go.RowKit Go.Deep
open Classical
theorem Tryz.infoEvent:(Tryz.prog.info? 52).map (fun i=>(i.zero,i.size,i.bytes)) = some (some (.agg #[.int .i64 0,.int .i64 0,.int .i64 0]),3,24):=by kernel_rfl
end Go.Proofs.YtdhinkgjiapigabGreatDoor
namespace Go.Proofs.YtdhinkgjiapigabGreatDoor
open Go.RowKit Go.Deep
open Classical
def DonesA (P:Nat → Prop) (w:World) (v:Value) (l:List (Int × FrameD)):Prop:=
 Sl P v l.length fun b off i=>∀ x,l[i]? = some x → ∃ u1 u2 u3,FrameAt P w u1 u2 u3 x.2 ∧ w.cell? ⟨b,off + i * 5,none⟩ = some (.int .i64 x.1) ∧ w.cell? ⟨b,off + i * 5 + 1,none⟩ = some (.bool x.2.ok) ∧ w.cell? ⟨b,off + i * 5 + 2,none⟩ = some u1 ∧ w.cell? ⟨b,off + i * 5 + 3,none⟩ = some u2 ∧ w.cell? ⟨b,off + i * 5 + 4,none⟩ = some u3
theorem DonesA.keep {P Q:Nat → Prop} {w w':World} {v:Value} {l:List (Int × FrameD)} (h:DonesA P w v l) (hs:Same P w w') (hP:∀ b,P b → Q b):DonesA Q w' v l:=
 Sl.imp h hP fun b off i hb _ he x hx=>by
  obtain ⟨u1,u2,u3,hf,hc⟩:=he x hx
  refine ⟨u1,u2,u3,hf.keep hs hP,?_⟩
  rw [hs b hb,hs b hb,hs b hb,hs b hb,hs b hb]; exact hc
theorem DonesR.read {w w':World} {v:Value} {l:List (Int × FrameD)} (h:DonesR w w' v l):DonesA (fun c=>w.heap.size ≤ c ∧ c < w'.heap.size) w' v l:=by
 obtain ⟨xs,lo,hown,hd,htop,hlow,hst⟩:=h
 have hle:∀ j,j ≤ l.length → lo j ≤ w'.heap.size:=fun j hj=>by
  have:∀ n,j + n = l.length → lo j ≤ w'.heap.size:=fun n=>by
   induction n generalizing j with
   | zero=>intro e; rw [show j = l.length by omega]; exact htop
   | succ n ih=>intro e; exact Nat.le_trans (hst j (by omega)) (ih (j + 1) (by omega) (by omega))
  exact this (l.length - j) (by omega)
 rcases Nat.eq_zero_or_pos l.length with z | z
 ·obtain ⟨a,c,rfl⟩:=zag hown;exact ⟨a,c,rfl,.inl z⟩
 ·obtain ⟨g,cap,f,rfl,hb,hr,hN,hf⟩:=zdt hown z;refine ⟨_,cap,rfl,.inr ⟨g,0,rfl,⟨hb,hr.lt⟩,fun i hi x hx=>?_⟩⟩;obtain ⟨u1,u2,u3,bo,bp,bw,bb,h0,h1,h2,h3,h4,h5⟩:=hd i x hx;refine ⟨u1,u2,u3,(h5.bound fun c hc hl=>⟨Nat.le_trans (hlow i) hc.1,hl⟩).read,?_⟩;rw [Nat.zero_add,hr.cell (by omega),hr.cell (by omega),hr.cell (by omega),hr.cell (by omega),hr.cell (by omega),hf _ _ h0,hf _ _ h1,hf _ _ h2,hf _ _ h3,hf _ _ h4];exact ⟨rfl,rfl,rfl,rfl,rfl⟩
end Go.Proofs.YtdhinkgjiapigabGreatDoor
namespace Go.Proofs.YtdhinkgjiapigabGreatDoor
open Go.RowKit Go.Deep
open Classical
end Go.Proofs.YtdhinkgjiapigabGreatDoor
namespace Go.Proofs.YtdhinkgjiapigabGreatDoor
open Go.RowKit Go.Deep
open Classical
end Go.Proofs.YtdhinkgjiapigabGreatDoor
namespace Go.Proofs.YtdhinkgjiapigabGreatDoor
open Go.RowKit Go.Deep
open Classical
set_option maxRecDepth 100000 in
set_option maxHeartbeats 4000000 in
theorem zjs (v1 v2 v3:Value) (p:PlanD) (w:World) (hp:PlanAt (In w) w v1 v2 v3 p) (hs:p.Small 1048576) :
  Calls Tryz.prog 99 #[.agg #[.int .i64 p.sections,v1,v2,v3,.int .i64 p.hold]] w fun e w'=>∃ u1 u2 u3,e = .returned (.agg #[.bool (zdd p).ok,u1,u2,u3]) ∧ Below w.heap.size w w' ∧ FrameM (w.heap.size + 1) w' u1 u2 u3 (zdd p):=by
 have T0:=zbc w 37 42 #[.int .i64 p.sections,v1,v2,v3,.int .i64 p.hold] #[.bool false,.slice none 0 0,.slice none 0 0,.slice none 0 0];have HK:=zaa fun (W:World) (h:Below w.heap.size w W)=>hp.keep (Q:=In W) (In.keep h).1 (In.keep h).2;have HS:=zaa hs;obtain ⟨⟨a1,c1,rfl,-⟩,⟨a2,c2,rfl,-⟩,⟨a3,c3,rfl,-⟩⟩:=id hp;clear hp hs;have b0:=T0.cell (j:=0) (i:=0) rfl rfl;have b1:=T0.cell (j:=0) (i:=1) rfl rfl;have b2:=T0.cell (j:=0) (i:=2) rfl rfl;have b3:=T0.cell (j:=0) (i:=3) rfl rfl;have b4:=T0.cell (j:=0) (i:=4) rfl rfl;rw [Nat.add_zero] at b0 b1 b2 b3 b4;go_enter Tryz.func99,Tryz.ntmps99
 go_wp2_with fail
 refine (zl2 _ _ _ p _ (HK.out _ T0.below) HS.out).mono ?_;clear b0 b1 b2 b3 b4;rintro e w1 ⟨rfl,hb⟩;have T1:=T0.call hb;clear T0 hb;have r0:=T1.cell (j:=1) (i:=0) rfl rfl;have r1:=T1.cell (j:=1) (i:=1) rfl rfl;have r2:=T1.cell (j:=1) (i:=2) rfl rfl;have r3:=T1.cell (j:=1) (i:=3) rfl rfl;have k0:=T1.frozen (j:=1) 0 rfl;have k1:=T1.frozen (j:=1) 1 rfl;have k2:=T1.frozen (j:=1) 2 rfl;have k3:=T1.frozen (j:=1) 3 rfl;by_cases hr:Right p
 case neg=>
  rw [zae hr];have HR:=zaa hr;have HT:=zaa T1.below;clear hr T1;go_wp2;refine bodyPost_ret (v:=.agg #[.bool false,.slice none 0 0,.slice none 0 0,.slice none 0 0]) (by simp [results,Tryz.results99,go_sem,r0,r1,r2,r3]) rfl ?_;have hz:zdd p = zex:=if_neg HR.out;rw [hz]
  have pz:w.heap.size ≤ w.heap.size + 1:=by omega
  exact ⟨_,_,_,rfl,(((HT.out.setCell (p:=⟨w.heap.size + 1,0,none⟩) pz _).setCell (p:=⟨w.heap.size + 1,1,none⟩) pz _).setCell (p:=⟨w.heap.size + 1,2,none⟩) pz _).setCell (p:=⟨w.heap.size + 1,3,none⟩) pz _,zgr _ _⟩
 rw [zam hr];have hpr:=hr.parts;have HR:=zaa hr;have hsec:1 ≤ p.sections ∧ p.sections ≤ 60:=hpr.1.1;obtain ⟨n,hn⟩:∃ n:Nat,p.sections = n:=⟨p.sections.toNat,by omega⟩
 have hway:∀ x ∈ p.ways,1 ≤ x.sections.length ∧ x.sections.length ≤ 30:=fun x hx=>by
  obtain ⟨i,hi⟩:=List.getElem?_of_mem hx;have hw:=Right.way HR.out hi;refine ⟨?_,hw.2.1.2⟩;rcases Nat.eq_zero_or_pos x.sections.length with e | e
  ·exact absurd (List.length_eq_zero_iff.1 e) hw.1
  ·exact e
 have HWAY:=zaa hway;have hsw:p.switches.length ≤ 40:=hpr.1.2.1;have hwl:p.ways.length ≤ 100:=hpr.1.2.2.1;have hmk:=run_make_row' (P:=Tryz.prog) 27 4 (.bool false) 1 Tryz.underlying27 Tryz.infoBool rfl .i64 .i64 n (by omega) (by omega);have q0:=T1.cell (j:=0) (i:=0) rfl rfl;rw [Nat.add_zero] at q0;rw [hn] at q0 hsec ⊢;have HN:=zaa hn;have HT1:=zaa T1;have hz1:w.heap.size + 1 < w1.heap.size:=T1.lt (j:=1) rfl;have T3:=(T1.call (zab w1 (.cells (madeCells #[.bool false] n) 4))).call (zab _ (.cells #[.bool true,.slice (some ⟨w1.heap.size,0,none⟩) n n,.slice none 0 0,.slice none 0 0] 42));have q1:=T3.cell (j:=0) (i:=1) rfl rfl;rw [Nat.add_zero] at q1;have hbo:=zeh (W:=w1) (n:=n) (by omega)
 have BF0:BegF w #[.int .i64 p.sections,.slice a1 p.switches.length c1,.slice a2 p.ways.length c2,.slice a3 p.bars.length c3,.int .i64 p.hold] n (w1.heap.size + 1) ((w1.alloc (.cells (madeCells #[.bool false] n) 4)).alloc (.cells #[.bool true,.slice (some ⟨w1.heap.size,0,none⟩) n n,.slice none 0 0,.slice none 0 0] 42)) (.slice (some ⟨w1.heap.size,0,none⟩) n n) (.slice none 0 0) (.slice none 0 0) w1.heap.size:=by
  refine ⟨T3.below,T3.row 0 _ _ rfl,⟨_,T3.row 1 _ _ rfl⟩,?_,hbo.but (K:=fun _=>True) (But.of_calls (zab _ _)) trivial,hz1,Nat.lt_succ_self _⟩;have:=zak (w1.alloc (.cells (madeCells #[.bool false] n) 4)) 42 #[.bool true,.slice (some ⟨w1.heap.size,0,none⟩) n n,.slice none 0 0,.slice none 0 0];rw [World.size_alloc] at this;exact this
 have HBF:=zaa BF0;clear hr hpr hway hn T1 r0 r1 r2 r3 k0 k1 k2 k3 T3 BF0 hbo HT1;go_wp2;clear q0 q1;generalize hW3:((w1.alloc (.cells (madeCells #[.bool false] n) 4)).alloc (.cells #[.bool true,.slice (some ⟨w1.heap.size,0,none⟩) n n,.slice none 0 0,.slice none 0 0] 42)) = W3 at HBF ⊢;obtain ⟨fb,hfb⟩:∃ fb,fb = w1.heap.size + 1:=⟨_,rfl⟩;obtain ⟨bo,hbo⟩:∃ bo,bo = w1.heap.size:=⟨_,rfl⟩;rw [← hfb,← hbo] at HBF ⊢;obtain ⟨pc,hpc⟩:∃ pc:Array Value,pc = #[.int .i64 p.sections,.slice a1 p.switches.length c1,.slice a2 p.ways.length c2,.slice a3 p.bars.length c3,.int .i64 p.hold]:=⟨_,rfl⟩;rw [← hpc] at HBF;have HPC:=zaa hpc
 have HBO:Hid (w.heap.size + 1 < bo):=by show w.heap.size + 1 < bo; omega
 have HFB:Hid (w.heap.size + 1 < fb):=by show w.heap.size + 1 < fb; omega
 clear hW3 hpc hfb hbo hz1 w1
 go_loopw [17] (fun z wr=>∃ (k:Nat) (u2:Value),k ≤ p.switches.length ∧ z = .int .i64 k ∧ BegF w pc n fb wr (.slice (some ⟨bo,0,none⟩) n n) u2 (.slice none 0 0) bo ∧ wr.ownsRow (fb + 1) 90 2 u2 k (zau (List.replicate k (1,1)))) (fun z _=>p.switches.length - (intOf z).toNat)
 case atStart=>exact ⟨0,_,Nat.zero_le _,rfl,HBF.out,World.ownsRow_nil _ _ _ _⟩
 case round=>
  obtain ⟨k,u2,hk,rfl,hbf,hown⟩:=hrel;rename World=>wA;obtain ⟨a5,c5,rfl⟩:=zag hown;by_cases hlt:k < p.switches.length
  ·have y2:wA.cell? ⟨fb,2,none⟩ = some (.slice a5 k c5):=hbf.out.cell (i:=2) (by omega);have hfl:fb < wA.heap.size:=hbf.out.lt;have hbn:=zab wA (.cells #[.int .i64 1,.int .i64 1] 90);have OWY:=zaa (za3 (K:=fun _=>True) hown (But.of_calls hbn) fun _ _=>trivial)
   have SRC:Hid (1 = 0 ∨ ∃ A,(some (⟨wA.heap.size,0,none⟩:Addr)) = some A ∧ ∀ j u,([.int .i64 1,.int .i64 1]:List Value)[j]? = some u → (wA.alloc (.cells #[.int .i64 1,.int .i64 1] 90)).cell? (A.add j) = some u):=by
    refine .inr ⟨_,rfl,fun j u hj=>?_⟩;rw [zbp,Nat.zero_add];have hj1:j < 2:=(List.getElem?_eq_some_iff.1 hj).1;rw [(zak wA 90 #[.int .i64 1,.int .i64 1]).cell (by simpa using hj1)];rcases j with _ | _ | j
    ·exact hj
    ·exact hj
    ·omega
   have ONE:Hid (∀ u ∈ ([.int .i64 1,.int .i64 1]:List Value),u.oneCell' = true):=by
    intro u hu;simp at hu;subst hu;rfl
   have HM7:Hid (k + 1 ≤ maxLen):=by show k + 1 ≤ maxLen; unfold maxLen; omega
   have HM8:Hid ((k + 1) * 16 ≤ 140737488355328):=by show (k + 1) * 16 ≤ 140737488355328; omega
   have HZY:Hid (fb + 1 ≤ (wA.alloc (.cells #[.int .i64 1,.int .i64 1] 90)).heap.size):=by show fb + 1 ≤ _; rw [World.size_alloc]; omega
   obtain ⟨xs,hxs⟩:∃ xs,xs = zau (List.replicate k (1,1)):=⟨_,rfl⟩;have HXS:=zaa hxs;rw [← hxs] at OWY;have HBA:=zaa hbf;have HBN:=zaa hbn;clear hxs hbf hown hbn
   go_wp2_with (at_builtin; refine zai rfl _ _ 39 rfl (fb + 1) 90 (.agg #[.int .i64 0,.int .i64 0]) 2 16 Tryz.underlying39 Tryz.infoPoint rfl (by decide) (.slice a5 k c5) k xs rfl OWY.out (some ⟨wA.heap.size,0,none⟩) 1 1 [.int .i64 1,.int .i64 1] rfl rfl SRC.out ONE.out HM7.out HM8.out HZY.out ?_)
   intro u5 w5 hown5 hgr5;obtain ⟨a6,c6,rfl⟩:=zag hown5;have BF5:=(HBA.out.call HBN.out).but (K:=fun c=>c < fb + 1) (But.of_below (zbm OWY.out hgr5 (Nat.le_refl _) HZY.out) fun _ _ z=>z) fun _ z=>z;have y3:w5.cell? ⟨fb,2,none⟩ = some (.slice a5 k c5):=BF5.out.cell (i:=2) (by omega);have z3:=BF5.out.frozen 2
   have FIN:=zaa (And.intro (BF5.lay2 (.slice a6 (k + 1) c6)) (show (w5.setCell ⟨fb,2,none⟩ (.slice a6 (k + 1) c6)).ownsRow (fb + 1) 90 2 (.slice a6 (k + 1) c6) (k + 1) (zau (List.replicate (k + 1) (1,1))) by
    rw [← zgz,← HXS.out]
    exact zba (K:=fun c=>c ≠ fb) hown5 ((But.refl _ _).setCell (fun z=>z rfl) _) fun c hc _=>by omega))
   clear BF5 hown5 hgr5 OWY SRC ONE HBA HBN y2;go_wp2;go_roundw
   case rel=>exact ⟨k + 1,_,by omega,by go_num,FIN.out.1,FIN.out.2⟩
   case measure=>simp [intOf]; omega
  ·obtain rfl:k = p.switches.length:=by omega
   obtain ⟨bp,hOP,hbp⟩:=zcy (l:=List.replicate p.switches.length (1,1)) hown (by rw [List.length_replicate]);have hl2:(List.replicate p.switches.length ((1,1):Int × Int)).length = p.switches.length:=List.length_replicate;have HOP:=zaa hOP;have HBP:=zaa hbp;have HBA:=zaa hbf
   have x2:wA.cell? ⟨w.heap.size,2,none⟩ = some (.slice a2 p.ways.length c2):=by have:=hbf.box.cell (i:=2) (by omega); rw [HPC.out] at this; exact this
   clear hown hbf hOP hbp hlt hk;go_wp2;clear x2
   go_loopw [29] (fun z wr=>∃ (k:Nat) (xs:List Value) (u3:Value) (bb:Nat → Nat),k ≤ p.ways.length ∧ z = .int .i64 k ∧ BegF w pc n fb wr (.slice (some ⟨bo,0,none⟩) n n) (.slice a5 p.switches.length c5) u3 bo ∧ OPoints wr (.slice a5 p.switches.length c5) (List.replicate p.switches.length (1,1)) bp ∧
    wr.ownsRow (fb + 1) 93 5 u3 k xs ∧ HeldsX wr (fb + 1) (zdw p.ways) k xs bb ∧ (∀ i j,i < k → j < k → bb i = bb j → i = j)) (fun z _=>p.ways.length - (intOf z).toNat)
   case atStart=>exact ⟨0,[],.slice none 0 0,fun _=>0,Nat.zero_le _,rfl,HBA.out,HOP.out,World.ownsRow_nil _ _ _ _,fun j _ hj=>by omega,fun i j hi=>by omega⟩
   case round=>
    obtain ⟨k,xs,u3,bb,hk,rfl,hbf,hop,hown,hX,hinj⟩:=hrel;rename World=>wB;obtain ⟨a7,c7,rfl⟩:=zag hown;by_cases hlt:k < p.ways.length
    ·obtain ⟨x,hx⟩:=zac p.ways (zaa rfl) hlt;obtain ⟨-,hW,-⟩:=HK.out wB hbf.below;obtain ⟨aw,cw,ew,hcw⟩:=hW
     cases ew
     obtain h0 | ⟨b2,o2,rfl,-,hcw⟩:=hcw
     ·omega
     obtain ⟨v0,v1,v2,v3,v4,hxa,g0,g1,g2,g3,g4⟩:=hcw k hlt x hx;obtain ⟨s0,e0,rfl⟩:=hxa.1.size;obtain ⟨s1,e1,rfl⟩:=hxa.2.1.size;obtain ⟨s2,e2,rfl⟩:=hxa.2.2.1.size;obtain ⟨s3,e3,rfl⟩:=hxa.2.2.2.1.size;obtain ⟨s4,e4,rfl⟩:=hxa.2.2.2.2.size;have hxl:=HWAY.out x (List.mem_of_getElem? hx);have hmk2:=run_make_row' (P:=Tryz.prog) 27 4 (.bool false) 1 Tryz.underlying27 Tryz.infoBool rfl .i64 .i64 x.sections.length (by omega) (by omega);have hfl:fb < wB.heap.size:=hbf.out.lt;have hbn:=zab wB (.cells #[.slice s0 x.sections.length e0,.slice s1 x.lies.length e1,.slice s2 x.flanks.length e2,.slice s3 x.over.length e3,.slice s4 x.near.length e4] 122);have y3:(wB.alloc (.cells #[.slice s0 x.sections.length e0,.slice s1 x.lies.length e1,.slice s2 x.flanks.length e2,.slice s3 x.over.length e3,.slice s4 x.near.length e4] 122)).cell? ⟨fb,3,none⟩ = some (.slice a7 k c7):=(hbf.call hbn).out.cell (i:=3) (by omega);have z3:=(hbf.call hbn).out.frozen 3
     have yw:(wB.alloc (.cells #[.slice s0 x.sections.length e0,.slice s1 x.lies.length e1,.slice s2 x.flanks.length e2,.slice s3 x.over.length e3,.slice s4 x.near.length e4] 122)).cell? ⟨wB.heap.size,0,none⟩ = some (.slice s0 x.sections.length e0):=by simp
     have Hx:=zaa hx;have HBB:=zaa hbf;have HOPB:=zaa hop;have HOW:=zaa hown;have HX:=zaa hX;have HIN:=zaa hinj;clear hx hcw hxa hbf hop hown hX hinj;obtain ⟨i0,hi0,hz0,hz1,hz2⟩:=info_parts Tryz.infoHeld;obtain ⟨WY,hWY⟩:∃ W,W = ((((wB.alloc (.cells #[.slice s0 x.sections.length e0,.slice s1 x.lies.length e1,.slice s2 x.flanks.length e2,.slice s3 x.over.length e3,.slice s4 x.near.length e4] 122)).alloc (.cells (madeCells #[.bool false] x.sections.length) 4)).alloc (.cells #[.int .i64 0,.int .i64 0,.slice (some ⟨wB.heap.size + 1,0,none⟩) x.sections.length x.sections.length,.bool false,.int .i64 0] 93)).drew):=⟨_,rfl⟩;have C3:=zbs wB 122 4 93 #[.slice s0 x.sections.length e0,.slice s1 x.lies.length e1,.slice s2 x.flanks.length e2,.slice s3 x.over.length e3,.slice s4 x.near.length e4] (madeCells #[.bool false] x.sections.length) #[.int .i64 0,.int .i64 0,.slice (some ⟨wB.heap.size + 1,0,none⟩) x.sections.length x.sections.length,.bool false,.int .i64 0];have C4:=C3.call (zaf _);rw [← hWY] at C4
     have HZW:Hid (WY.heap.size = wB.heap.size + 1 + 1 + 1):=by show WY.heap.size = _; rw [hWY]; simp
     have OWY:=zaa (za3 (K:=fun _=>True) HOW.out (But.of_calls C4.below) fun _ _=>trivial)
     have SRC:Hid (∀ j u,([.int .i64 0,.int .i64 0,.slice (some ⟨wB.heap.size + 1,0,none⟩) x.sections.length x.sections.length,.bool false,.int .i64 0]:List Value)[j]? = some u → WY.cell? ((⟨wB.heap.size + 1 + 1,0,none⟩:Addr).add j) = some u):=by
      intro j u hj;rw [zbp,Nat.zero_add];have hj5:j < 5:=(List.getElem?_eq_some_iff.1 hj).1;rw [(C4.row 2 _ _ rfl).cell (by simpa using hj5)];rcases j with _ | _ | _ | _ | _ | j
      ·exact hj
      ·exact hj
      ·exact hj
      ·exact hj
      ·exact hj
      ·omega
     have ONE:Hid (∀ u ∈ ([.int .i64 0,.int .i64 0,.slice (some ⟨wB.heap.size + 1,0,none⟩) x.sections.length x.sections.length,.bool false,.int .i64 0]:List Value),u.oneCell' = true):=by
      intro u hu;simp at hu
      rcases hu with rfl | rfl | rfl | rfl <;> rfl
     have HM7:Hid (k + 1 ≤ maxLen):=by show k + 1 ≤ maxLen; unfold maxLen; omega
     have HM8:Hid ((k + 1) * 56 ≤ 140737488355328):=by show (k + 1) * 56 ≤ 140737488355328; omega
     have HZY:Hid (fb + 1 ≤ WY.heap.size):=by show fb + 1 ≤ WY.heap.size; rw [HZW.out]; omega
     have HC4:=zaa C4
     have hfar:∀ w5:World,WY.grownBy w5 (Value.slice a7 k c7).ownBlock → BegF w pc n fb w5 (.slice (some ⟨bo,0,none⟩) n n) (.slice a5 p.switches.length c5) (.slice a7 k c7) bo ∧ w5.cell? ⟨wB.heap.size,0,none⟩ = some (.slice s0 x.sections.length e0):=fun w5 hg=>by
      refine ⟨(HBB.out.call HC4.out.below).but (K:=fun c=>c < fb + 1) (But.of_below (zbm OWY.out hg (Nat.le_refl _) HZY.out) fun _ _ z=>z) fun _ z=>z,?_⟩;rw [hg.cell_far ⟨wB.heap.size,0,none⟩ (by show wB.heap.size < _; rw [HZW.out]; omega) (fun e=>by have:=(zat HOW.out e.symm).2.1; simp at this)];exact HC4.out.cell (j:=0) (i:=0) rfl rfl
     have HFAR:=zaa hfar
     have HMB:Hid (OBools WY (.slice (some ⟨wB.heap.size + 1,0,none⟩) x.sections.length x.sections.length) (zc3 x.sections.length).been (wB.heap.size + 1)):=by
      have:=zeh (W:=wB.alloc (.cells #[.slice s0 x.sections.length e0,.slice s1 x.lies.length e1,.slice s2 x.flanks.length e2,.slice s3 x.over.length e3,.slice s4 x.near.length e4] 122)) (n:=x.sections.length) (by omega);rw [World.size_alloc] at this;show OBools WY _ _ _;rw [hWY];exact (this.but (K:=fun _=>True) (But.of_calls (zab _ _)) trivial).but (K:=fun _=>True) (But.of_calls (zaf _)) trivial
     have hlj:∀ j,j < k → bb j < wB.heap.size ∧ fb + 1 ≤ bb j:=fun j hj=>by
      obtain ⟨y,hy⟩:=zac (zdw p.ways) (zaa (zay _)) (show j < p.ways.length by omega);obtain ⟨_,_,⟨_,_,hu⟩,_,_,hm⟩:=HX.out j y hj hy;exact ⟨hu.lt,hm⟩
     have hfin:∀ (w5:World) (g5 c5':Nat),WY.grownBy w5 (Value.slice a7 k c7).ownBlock → w5.ownsRow (fb + 1) 93 5 (.slice (some ⟨g5,0,none⟩) (k + 1) c5') (k + 1) (xs ++ [.int .i64 0,.int .i64 0,.slice (some ⟨wB.heap.size + 1,0,none⟩) x.sections.length x.sections.length,.bool false,.int .i64 0]) →
       BegF w pc n fb (w5.setCell ⟨fb,3,none⟩ (.slice (some ⟨g5,0,none⟩) (k + 1) c5')) (.slice (some ⟨bo,0,none⟩) n n) (.slice a5 p.switches.length c5) (.slice (some ⟨g5,0,none⟩) (k + 1) c5') bo ∧ OPoints (w5.setCell ⟨fb,3,none⟩ (.slice (some ⟨g5,0,none⟩) (k + 1) c5')) (.slice a5 p.switches.length c5) (List.replicate p.switches.length (1,1)) bp ∧
       (w5.setCell ⟨fb,3,none⟩ (.slice (some ⟨g5,0,none⟩) (k + 1) c5')).ownsRow (fb + 1) 93 5 (.slice (some ⟨g5,0,none⟩) (k + 1) c5') (k + 1) (xs ++ [.int .i64 0,.int .i64 0,.slice (some ⟨wB.heap.size + 1,0,none⟩) x.sections.length x.sections.length,.bool false,.int .i64 0]) ∧
       HeldsX (w5.setCell ⟨fb,3,none⟩ (.slice (some ⟨g5,0,none⟩) (k + 1) c5')) (fb + 1) (zdw p.ways) (k + 1) (xs ++ [.int .i64 0,.int .i64 0,.slice (some ⟨wB.heap.size + 1,0,none⟩) x.sections.length x.sections.length,.bool false,.int .i64 0]) (fun j=>if j = k then wB.heap.size + 1 else bb j) ∧
       ∀ i j,i < k + 1 → j < k + 1 → (if i = k then wB.heap.size + 1 else bb i) = (if j = k then wB.heap.size + 1 else bb j) → i = j:=fun w5 g5 c5' hg ho=>by
      have hnb:∀ c,c ≠ fb → c ≠ (⟨fb,3,none⟩:Addr).block:=fun c hc=>hc;have hO:∀ {v:Value} {l:List Bool} {b:Nat},OBools WY v l b → b ≠ fb → OBools (w5.setCell ⟨fb,3,none⟩ (.slice (some ⟨g5,0,none⟩) (k + 1) c5')) v l b:=fun hb hne=>(hb.held hg OWY.out).of_block (Below.heap_setCell _ _ _ _ (hnb _ hne));refine ⟨(HFAR.out w5 hg).1.lay3 _,?_,zba (K:=fun c=>c ≠ fb) ho ((But.refl _ _).setCell (fun z=>z rfl) _) fun c hc _=>by omega,?_,fun i j hi hj=>?_⟩
      ·refine (OPoints.held (HOPB.out.but (K:=fun _=>True) (But.of_calls HC4.out.below) fun _=>trivial) hg OWY.out).but (K:=fun c=>c ≠ fb) ((But.refl _ _).setCell (fun z=>z rfl) _) fun z=>?_;have:=HBP.out z; omega
      ·exact HeldsX.snoc (W':=w5.setCell ⟨fb,3,none⟩ (.slice (some ⟨g5,0,none⟩) (k + 1) c5')) HX.out HOW.out.1 (ze8 Hx.out) (hO HMB.out (by omega)) (by omega) fun j y v hj hy hv=>hO (hv.but (K:=fun _=>True) (But.of_calls HC4.out.below) trivial) (by have:=(hlj j hj).2; omega)
      ·by_cases e1:i = k <;> by_cases e2:j = k
       ·intro _; omega
       ·rw [if_pos e1,if_neg e2]; intro z; have:=(hlj j (by omega)).1; omega
       ·rw [if_neg e1,if_pos e2]; intro z; have:=(hlj i (by omega)).1; omega
       ·rw [if_neg e1,if_neg e2]; exact HIN.out i j (by omega) (by omega)
     have HFIN:=zaa hfin;clear hfin hlj;rw [hWY] at OWY SRC HZY HFAR HFIN;have y3a:((wB.alloc (.cells #[.slice s0 x.sections.length e0,.slice s1 x.lies.length e1,.slice s2 x.flanks.length e2,.slice s3 x.over.length e3,.slice s4 x.near.length e4] 122)).alloc (.cells (madeCells #[.bool false] x.sections.length) 4)).cell? ⟨fb,3,none⟩ = some (.slice a7 k c7):=(HBB.out.call (zbc wB 122 4 _ _).below).out.cell (i:=3) (by omega);have y3b:(((wB.alloc (.cells #[.slice s0 x.sections.length e0,.slice s1 x.lies.length e1,.slice s2 x.flanks.length e2,.slice s3 x.over.length e3,.slice s4 x.near.length e4] 122)).alloc (.cells (madeCells #[.bool false] x.sections.length) 4)).alloc (.cells #[.int .i64 0,.int .i64 0,.slice (some ⟨wB.heap.size + 1,0,none⟩) x.sections.length x.sections.length,.bool false,.int .i64 0] 93)).cell? ⟨fb,3,none⟩ = some (.slice a7 k c7):=(HBB.out.call C3.below).out.cell (i:=3) (by omega);have HWY:=zaa hWY;clear C3 C4 hfar hWY
     go_wp2_with fail
     clear g0 g1 g2 g3 g4
     go_region_law
      ((refine step_append_lies _ (by rfl) _ _ _ (by rfl) (fb + 1) 93 i0 _ 5 56 Tryz.underlying40 hi0 hz0 hz1 hz2 rfl (by omega) (.slice a7 k c7) k xs (by rfl) OWY.out ⟨wB.heap.size + 1 + 1,0,none⟩ 1 1 [.int .i64 0,.int .i64 0,.slice (some ⟨wB.heap.size + 1,0,none⟩) x.sections.length x.sections.length,.bool false,.int .i64 0] (by rfl) (by rfl) SRC.out ONE.out (by omega) HM7.out HM8.out HZY.out (wB.heap.size + 1 + 1 + 1) (by simp) ?_; intro g5 c5' w5 hown5 hgr5 hat5 hlt5; have BF5:=(HFAR.out w5 hgr5).1; have y5:w5.cell? ⟨fb,3,none⟩ = some (.slice a7 k c7):=BF5.out.cell (i:=3) (by omega); have z5:=BF5.out.frozen 3; have yw5:=(HFAR.out w5 hgr5).2))
     all_goals
      go_wp2;go_roundw
      case rel=>exact ⟨k + 1,_,_,_,by omega,by go_num,HFIN.out w5 _ _ hgr5 hown5⟩
      case measure=>simp [intOf]; omega
    ·obtain rfl:k = p.ways.length:=by omega
     obtain ⟨bw,hOH,hbw⟩:=zhc hown hX (zay _).symm;obtain ⟨gR,hR⟩:=hbf.res;have t0:wB.cell? ⟨fb,0,none⟩ = some (.bool true):=hbf.out.cell (i:=0) (by omega);have t1:wB.cell? ⟨fb,1,none⟩ = some (.slice (some ⟨bo,0,none⟩) n n):=hbf.out.cell (i:=1) (by omega);have t2:wB.cell? ⟨fb,2,none⟩ = some (.slice a5 p.switches.length c5):=hbf.out.cell (i:=2) (by omega);have t3:wB.cell? ⟨fb,3,none⟩ = some (.slice a7 p.ways.length c7):=hbf.out.cell (i:=3) (by omega);have r0:=hR.cell (i:=0) (by omega);have r1:=hR.cell (i:=1) (by omega);have r2:=hR.cell (i:=2) (by omega);have r3:=hR.cell (i:=3) (by omega);have k0:=hR.frozen 0;have k1:=hR.frozen 1;have k2:=hR.frozen 2;have k3:=hR.frozen 3
     have fr:OFrame (fun c=>w.heap.size + 1 + 1 ≤ c) wB (.slice (some ⟨bo,0,none⟩) n n) (.slice a5 p.switches.length c5) (.slice a7 p.ways.length c7) (zaq p) bo bp bw bb:=by
      refine ⟨?_,hop,?_,hbf.po,fun z=>?_,fun z=>?_,fun i hi=>?_,fun i j hi hj=>hinj i j ?_ ?_,fun i hi=>?_⟩
      ·show OBools wB _ (List.replicate p.sections.toNat false) bo;rw [HN.out,Int.toNat_natCast];exact hbf.occ
      ·exact hOH
      ·have:=HBP.out z; have:=hbf.po; have:=hbf.pf; omega
      ·have:=hbw z; have:=hbf.po; have:=hbf.pf; omega
      ·obtain ⟨y,hy⟩:=zac (zdw p.ways) (zaa rfl) hi;have:=(hX i y (by rw [← zay]; exact hi) hy).2.2.2.2.2;have:=hbf.po; have:=hbf.pf; omega
      ·rw [← zay]; exact hi
      ·rw [← zay]; exact hj
      ·obtain ⟨y,hy⟩:=zac (zdw p.ways) (zaa rfl) hi;have:=(hX i y (by rw [← zay]; exact hi) hy).2.2.2.2.2;have:=hbf.pf; omega
     have HFR:=zaa fr;have HBW:=zaa hbf.below;clear fr hR hOH hbw hX hinj hown hop hbf hlt;go_wp2;refine bodyPost_ret (v:=.agg #[.bool true,.slice (some ⟨bo,0,none⟩) n n,.slice a5 p.switches.length c5,.slice a7 p.ways.length c7]) (by simp [results,Tryz.results99,go_sem,r0,r1,r2,r3]) rfl ?_;have hz:zdd p = zaq p:=if_pos HR.out;rw [hz]
     have pz:w.heap.size ≤ w.heap.size + 1:=by omega
     have hk:∀ o:Nat,¬ ((fun c=>c ≠ w.heap.size + 1) (⟨w.heap.size + 1,o,none⟩:Addr).block):=fun o z=>z rfl;refine ⟨_,_,_,rfl,(((HBW.out.setCell (p:=⟨w.heap.size + 1,0,none⟩) pz _).setCell (p:=⟨w.heap.size + 1,1,none⟩) pz _).setCell (p:=⟨w.heap.size + 1,2,none⟩) pz _).setCell (p:=⟨w.heap.size + 1,3,none⟩) pz _,.inl ⟨bo,bp,bw,bb,?_⟩⟩
     exact HFR.out.but (Q:=fun c=>w.heap.size + 1 ≤ c) (((((But.refl (fun c=>c ≠ w.heap.size + 1) wB).setCell (hk 0) _).setCell (hk 1) _).setCell (hk 2) _).setCell (hk 3) _) (fun c hc=>by omega) fun c hc=>by omega
end Go.Proofs.YtdhinkgjiapigabGreatDoor
namespace Go.Proofs.YtdhinkgjiapigabGreatDoor
open Go.RowKit Go.Deep
open Classical
end Go.Proofs.YtdhinkgjiapigabGreatDoor
namespace Go.Proofs.YtdhinkgjiapigabGreatDoor
open Go.RowKit Go.Deep
open Classical
end Go.Proofs.YtdhinkgjiapigabGreatDoor
namespace Go.Proofs.YtdhinkgjiapigabGreatDoor
open Go.RowKit Go.Deep
open Classical
end Go.Proofs.YtdhinkgjiapigabGreatDoor
namespace Go.Proofs.YtdhinkgjiapigabGreatDoor
open Go.RowKit Go.Deep
open Classical
def zc2 (l:List (Int × Int × Int)):List Value:=l.flatMap fun e=>[.int .i64 e.1,.int .i64 e.2.1,.int .i64 e.2.2]
theorem zk9 (l:List (Int × Int × Int)) (i:Nat) (x:Int × Int × Int) (h:l[i]? = some x):(zc2 l)[i * 3]? = some (.int .i64 x.1) ∧ (zc2 l)[i * 3 + 1]? = some (.int .i64 x.2.1) ∧ (zc2 l)[i * 3 + 2]? = some (.int .i64 x.2.2):=by
 unfold zc2
 induction l generalizing i with
 | nil=>simp at h
 | cons a l ih=>
  cases i with
  | zero=>simp at h; subst h; exact ⟨rfl,rfl,rfl⟩
  | succ i=>
   have:=ih i (by simpa using h);rw [List.flatMap_cons];refine ⟨?_,?_,?_⟩
   ·rw [List.getElem?_append_right (by simp; omega)];simpa [show (i + 1) * 3 - 3 = i * 3 by omega] using this.1
   ·rw [List.getElem?_append_right (by simp; omega)];simpa [show (i + 1) * 3 + 1 - 3 = i * 3 + 1 by omega] using this.2.1
   ·rw [List.getElem?_append_right (by simp; omega)];simpa [show (i + 1) * 3 + 2 - 3 = i * 3 + 2 by omega] using this.2.2
theorem zqz {w:World} {base:Nat} {v:Value} {l:List (Int × Int × Int)} {n:Nat} (h:w.ownsRow base 52 3 v n (zc2 l)) (hl:n = l.length):Evs (fun c=>base ≤ c ∧ c < w.heap.size) w v l:=by
 subst hl;rcases Nat.eq_zero_or_pos l.length with z | z
 ·obtain ⟨a,c,rfl⟩:=zag h;exact ⟨a,c,rfl,.inl z⟩
 ·obtain ⟨g,cap,f,rfl,hb,hr,hN,hf⟩:=zdt h z;refine ⟨_,cap,rfl,.inr ⟨g,0,rfl,⟨hb,hr.lt⟩,fun i hi x hx=>?_⟩⟩;obtain ⟨h0,h1,h2⟩:=zk9 l i x hx;rw [Nat.zero_add,hr.cell (by omega),hr.cell (by omega),hr.cell (by omega),hf _ _ h0,hf _ _ h1,hf _ _ h2];exact ⟨rfl,rfl,rfl⟩
theorem zj1 (l:List (Int × Int × Int)) (e:Int × Int × Int):zc2 (l ++ [e]) = zc2 l ++ [.int .i64 e.1,.int .i64 e.2.1,.int .i64 e.2.2]:=by
 unfold zc2;rw [List.flatMap_append];rfl
end Go.Proofs.YtdhinkgjiapigabGreatDoor
