import Derived.Test.YtdhinkgjiapigaaGreatDoorPassW
import Derived.Test.YtdhinkgjiapigaaGreatDoorBackF
import Derived.Deep.DeepCutAuto
namespace Go.Proofs.YtdhinkgjiapigaaGreatDoor
open Go.RowKit Go.Deep
open Classical
theorem wByte2 (a:Option Addr) (n c:Nat) (w:World) (hv:Bys (In w) w (.slice a n c) n) (hn:n ≤ 1048576) :
  Calls Tryz.prog 24 #[.slice a n c,.int .i64 2] w fun e w'=>∃ x:Int,e = .returned (.int .i64 x) ∧ 0 ≤ x ∧ x ≤ 255 ∧ w' = w:=wByte_any a n c 2 w hv hn (by omega)
theorem runsP_all {p:PlanD} (hp:Right p) (es:List (Int × Int × Int)) (k:Nat) (hk:k ≤ es.length):∀ x ∈ runsD p (beginD p) (es.take k),FrameR p x.2:=by
 induction k with
 | zero=>intro x hx; cases hx
 | succ k ih=>
  obtain ⟨e,he⟩:=get_some es (hide rfl) (show k < es.length by omega)
  rw [runs_take p (beginD p) he]
  intro x hx
  rcases List.mem_append.1 hx with z | z
  ·exact ih (by omega) x z
  ·obtain rfl:=List.mem_singleton.1 z
   exact step_frame (runs_frame hp es k (by omega)) e
theorem runP_smalls {p:PlanD} (hp:Right p) (es:List (Int × Int × Int)):∀ x ∈ runsD p (beginD p) es,x.2.Small 1048576:=fun x hx=>by
 have h:=runsP_all hp es es.length (Nat.le_refl _)
 rw [List.take_length] at h
 exact frame_smalls (h x hx)
theorem dones_at2 {base:Nat} {W:World} {v:Value} {l:List (Int × FrameD)} {lo:Nat → Nat} {i:Nat} {x:Int × FrameD} {g:HeldD} (h:DonesO base W v l lo) (hi:l[i]? = some x) (hw:x.2.ways = [g]):∃ gb cap u1 bo n2 c2 a3 n3 c3 bw cw,v = .slice (some ⟨gb,0,none⟩) l.length cap ∧ W.cell? ⟨gb,i * 5,none⟩ = some (.int .i64 x.1) ∧ W.cell? ⟨gb,i * 5 + 1,none⟩ = some (.bool u1) ∧ W.cell? ⟨gb,i * 5 + 2,none⟩ = some (.slice (some ⟨bo,0,none⟩) n2 c2) ∧ W.cell? ⟨gb,i * 5 + 3,none⟩ = some (.slice a3 n3 c3) ∧ W.cell? ⟨gb,i * 5 + 4,none⟩ = some (.slice (some ⟨bw,0,none⟩) 1 cw) ∧ W.cell? ⟨bw,0,none⟩ = some (.int .i64 g.state) ∧ W.cell? ⟨bw,1,none⟩ = some (.int .i64 g.gone):=by
 obtain ⟨⟨a,cap,rfl,hc⟩,-,-,-⟩:=h
 have hil:i < l.length:=(List.getElem?_eq_some_iff.1 hi).1
 obtain z | ⟨gb,N,f,rfl,hg,hr,hN,hf⟩:=hc
 ·omega
 obtain ⟨bo,bp,bw,bb,h0,h1,h2⟩:=hf i x hi
 obtain ⟨aw,cw,e,hcw⟩:=h2.ways
 rw [hw] at hcw e
 obtain z | ⟨rfl,f2,N2,hr2,hN2,hf2⟩:=hcw
 ·exact absurd (show [g].length = 0 from z) (by simp)
 obtain ⟨k0,k1,-⟩:=hf2 0 g rfl
 have hl1:[g].length * 5 ≤ N2:=hN2
 simp at hl1
 obtain ⟨g5,N5,c5,e5,-⟩:=h2.occ
 obtain ⟨a6,c6,e6,-⟩:=h2.points
 refine ⟨gb,cap,x.2.ok,bo,_,c5,a6,_,c6,bw,cw,rfl,by rw [hr.cell (by omega),h0],by rw [hr.cell (by omega),h1],by rw [hr.cell (by omega),e5],by rw [hr.cell (by omega),e6],by rw [hr.cell (by omega),e]; rfl,by rw [hr2.cell (by omega),show (0:Nat) = 0 * 5 by rfl,k0],by rw [hr2.cell (by omega),show (1:Nat) = 0 * 5 + 1 by rfl,k1]⟩
theorem made_small {n m:Nat} (hn:n ≤ 100) (hm:m ≤ 100) (hold:Int):(madeD n m hold).Small 1048576:=by
 have e1:((List.range m).map fun i:Nat=>(i:Int)).length = m:=by simp
 have e2:((List.range n).map fun i:Nat=>(i:Int)).length = n:=by simp
 have e3:((List.range m).map fun i:Nat=>((i:Int),(2:Int))).length = m:=by simp
 refine ⟨by show ((List.range m).map fun i:Nat=>(i:Int)).length ≤ 1048576; omega,by show 1 ≤ 1048576; omega,fun x hx=>?_,by show 1 ≤ 1048576; omega,fun x hx=>?_⟩
 ·obtain rfl:=List.mem_singleton.1 hx
  exact ⟨by show ((List.range n).map fun i:Nat=>(i:Int)).length ≤ 1048576; omega,by show ((List.range m).map fun i:Nat=>((i:Int),(2:Int))).length ≤ 1048576; omega,by show 0 ≤ 1048576; omega,by show 0 ≤ 1048576; omega,by show 1 ≤ 1048576; omega⟩
 ·obtain rfl:=List.mem_singleton.1 hx
  show 1 ≤ 1048576
  omega
set_option maxRecDepth 100000 in
set_option maxHeartbeats 40000000 in
theorem lawPs_any (a:Option Addr) (n c:Nat) (w:World) (hv:Bys (In w) w (.slice a n c) n) (hn:n ≤ 9223372036854775807) (hg:w.cell? ⟨1,0,none⟩ = some errT) :
  Calls Tryz.prog 8 #[.slice a n c] w fun e w'=>e = .returned (.bool true) ∧ Below w.heap.size w w':=by
 have KB:=hide fun (W:World) (h:Below w.heap.size w W)=>hv.keep (Q:=In W) (In.keep h).1 (In.keep h).2
 have HG:=hide hg
 have HB0:=hide (Below.refl w.heap.size w)
 clear hv hg
 by_cases hs:n ≤ 1048576
 case neg=>
  have hgd:decide ((1048576:Int) < (n:Int)) = true:=decide_eq_true (by omega)
  go_enter Tryz.func8,Tryz.ntmps8
  go_wp2
  go_ret
  exact ⟨rfl,HB0.out⟩
 have hgd:decide ((1048576:Int) < (n:Int)) = false:=decide_eq_false (by omega)
 go_enter Tryz.func8,Tryz.ntmps8
 go_wp2_with fail
 refine (wByte0 a n c w (KB.out _ HB0.out) hs).mono ?_
 rintro e w1 ⟨x,rfl,hx0,hx1,hw1⟩
 have hw2:=hw1.symm
 subst hw2
 clear hw1
 obtain ⟨N,hN⟩:∃ N:Nat,2 + x % 7 = (N:Int):=⟨(2 + x % 7).toNat,by omega⟩
 have hN1:2 ≤ N:=by omega
 have hN2:N ≤ 8:=by omega
 have hmx:0 ≤ x % 7 ∧ x % 7 < 7:=by omega
 go_wp2_with fail
 clear hmx hN hx0 hx1
 refine (wByte1 a n c w (KB.out _ HB0.out) hs).mono ?_
 rintro e w1 ⟨x2,rfl,hx20,hx21,hw1⟩
 have hw2:=hw1.symm
 subst hw2
 clear hw1
 obtain ⟨m,hm⟩:∃ m:Nat,x2 % ((N:Int) + 1) = (m:Int):=⟨(x2 % ((N:Int) + 1)).toNat,by have:=Int.emod_nonneg x2 (show (N:Int) + 1 ≠ 0 by omega); omega⟩
 have hm2:m ≤ N:=by have:=Int.emod_lt_of_pos x2 (show (0:Int) < (N:Int) + 1 by omega); omega
 have hnz:(N:Int) + 1 ≠ 0:=by omega
 have hnzb:((N:Int) + 1 == 0) = false:=by simp; omega
 have htm:Int.tmod x2 ((N:Int) + 1) = (m:Int):=by rw [Int.tmod_eq_emod_of_nonneg hx20]; exact hm
 go_wp2_with fail
 clear htm hnz hnzb hm hx20 hx21
 refine (wByte2 a n c w (KB.out _ HB0.out) hs).mono ?_
 rintro e w1 ⟨x3,rfl,hx0,hx1,hw1⟩
 have hw2:=hw1.symm
 subst hw2
 clear hw1
 obtain ⟨l,hl⟩:∃ l:Nat,1 + x3 % 2 = (l:Int):=⟨(1 + x3 % 2).toNat,by omega⟩
 have hl1:1 ≤ l:=by omega
 have hl2:l ≤ 2:=by omega
 have hmx:0 ≤ x3 % 2 ∧ x3 % 2 < 2:=by omega
 go_wp2_with fail
 clear hmx hl hx0 hx1
 refine (madeWay_any N m 5 _ (by omega) (by omega)).mono ?_
 rintro e w2 ⟨v1,v2,v3,rfl,hb2,hp2,hc2⟩
 have HB2:=hide hb2
 have HRT:=hide (made_right (n:=N) (m:=m) (hold:=5) (by omega) (by omega) hm2 ⟨by omega,by omega⟩)
 have HS0:=hide (made_small (n:=N) (m:=m) (by omega) (by omega) 5)
 obtain ⟨P,hP⟩:∃ P,P = madeD N m 5:=⟨_,rfl⟩
 have HPS:=hide (fun i y=>pass_set hN1 hN2 hm2 hl1 hl2 i y)
 have HPG:=hide (fun k=>pass_go hN1 hN2 hm2 hl1 hl2 k)
 rw [← hP] at hp2 hc2 HRT HS0
 simp only [← hP] at HPS HPG
 rw [← hP]
 clear hP
 obtain ⟨y1,z1,e1⟩:=hp2.1.size
 obtain ⟨y2,z2,e2⟩:=hp2.2.1.size
 obtain ⟨y3,z3,e3⟩:=hp2.2.2.size
 generalize hL1:P.switches.length = n1 at e1
 generalize hL2:P.ways.length = n2 at e2
 generalize hL3:P.bars.length = n3 at e3
 clear hL1 hL2 hL3
 subst e1 e2 e3
 have KP:=hide fun (W:World) (h:Below w2.heap.size w2 W)=>hp2.keep (Q:=In W) (In.keep h).1 (In.keep h).2
 have KC:=hide fun (W:World) (h:Below w2.heap.size w2 W)=>hc2.keep (Q:=In W) (In.keep h).1 (In.keep h).2
 have T4:=boxes1 w2 27 #[.int .i64 P.sections,.slice y1 n1 z1,.slice y2 n2 z2,.slice y3 n3 z3,.int .i64 P.hold]
 obtain ⟨wP,hwP⟩:∃ W,W = w2.alloc (.cells #[.int .i64 P.sections,.slice y1 n1 z1,.slice y2 n2 z2,.slice y3 n3 z3,.int .i64 P.hold] 27):=⟨_,rfl⟩
 have HOW:=hide (evs_lit wP [(1,0,0)] (by show 1 ≤ 1000; omega))
 have HN6:=hide (below_new wP (.cells #[.int .i64 1,.int .i64 0,.int .i64 0] 55))
 rw [← hwP] at T4
 have HBP:=hide (HB2.out.trans (T4.below.mono HB2.out.size))
 have HT:=hide T4
 have hwPs:wP.heap.size = w2.heap.size + 1:=by rw [hwP]; simp
 clear hb2 hp2 hc2 T4
 go_upto_region 8 with fail
 obtain ⟨W6,hW6⟩:∃ W,W = wP.alloc (.cells #[.int .i64 1,.int .i64 0,.int .i64 0] 55):=⟨_,rfl⟩
 have HOW6:Hid (W6.ownsRow wP.heap.size 55 3 (.slice (some ⟨wP.heap.size,0,none⟩) 1 1) (0 + 1) (evCells (evP0 m 0))):=by
  show W6.ownsRow _ _ _ _ _ _
  rw [hW6]
  exact HOW.out
 rw [← hwP,← hW6,← hwPs]
 rw [← hW6] at HN6
 clear hW6 HOW hwP hwPs
 go_wp2
 go_loopw [7,8] (fun o z wr=>∃ (k:Nat),k ≤ m ∧ z = .int .i64 k ∧ wr.ownsRow wP.heap.size 55 3 o (k + 1) (evCells (evP0 m k)) ∧ Below wP.heap.size wP wr) (fun _ z _=>m - (intOf z).toNat)
 case atStart=>exact ⟨0,Nat.zero_le _,rfl,HOW6.out,HN6.out⟩
 case round=>
  obtain ⟨k,hk,rfl,hown7,hBw7⟩:=hrel
  rename World=>wr
  rename Value=>vo
  obtain ⟨al,ca,e⟩:=own_slice hown7
  subst e
  clear HOW6
  by_cases hlt:k < m
  ·obtain ⟨nn,hnn⟩:∃ nn,nn = k + 1:=⟨_,rfl⟩
   have hnb:nn ≤ 100:=by omega
   obtain ⟨xs,hxs⟩:∃ xs,xs = evCells (evP0 m k):=⟨_,rfl⟩
   rw [← hnn,← hxs] at hown7
   rw [← hnn]
   have HNN:=hide hnn
   have HXS:=hide hxs
   have hkH:(k:Int) < (m:Int):=by omega
   clear hnn hxs
   have hbn7:=below_new wr (.cells #[.int .i64 5,.int .i64 ((m:Int) - 1 - (k:Int)),.int .i64 2] 55)
   have OWY7:=hide (own_but (K:=fun _=>True) hown7 (But.of_calls hbn7) fun _ _=>trivial)
   have SRC7:=hide (three_src (W:=wr) (t:=55) (x:=.int .i64 5) (y:=.int .i64 ((m:Int) - 1 - (k:Int))) (z:=.int .i64 2))
   have ONE7:=hide (three_one (x:= 5) (y:= ((m:Int) - 1 - (k:Int))) (z:= 2))
   have HMA7:Hid (nn + 1 ≤ maxLen):=by show nn + 1 ≤ maxLen; unfold maxLen; omega
   have HMB7:Hid ((nn + 1) * 24 ≤ 140737488355328):=by show (nn + 1) * 24 ≤ 140737488355328; omega
   have HZY7:Hid (wP.heap.size ≤ (wr.alloc (.cells #[.int .i64 5,.int .i64 ((m:Int) - 1 - (k:Int)),.int .i64 2] 55)).heap.size):=Nat.le_trans hBw7.size hbn7.size
   have HBW7:=hide (hBw7.trans (hbn7.mono hBw7.size))
   clear hown7 hbn7 hBw7
   go_wp2_with (at_builtin; refine wpList_append_any rfl _ _ 28 rfl wP.heap.size 55 (.agg #[.int .i64 0,.int .i64 0,.int .i64 0]) 3 24 Tryz.underlying28 Tryz.infoEvent rfl (by decide) (.slice al (nn) ca) (nn) (xs) rfl OWY7.out (some ⟨wr.heap.size,0,none⟩) 1 1 [.int .i64 5,.int .i64 ((m:Int) - 1 - (k:Int)),.int .i64 2] rfl rfl SRC7.out ONE7.out HMA7.out HMB7.out HZY7.out ?_)
   intro u7 w7 ho7 hgr7
   have hB7:=HBW7.out.trans (own_snoc OWY7.out hgr7 (Nat.le_refl _) HZY7.out)
   obtain ⟨al7,ca7,rfl⟩:=own_slice ho7
   clear OWY7 SRC7 ONE7 HBW7 hgr7
   have FIN:Hid (w7.ownsRow wP.heap.size 55 3 (.slice al7 (nn + 1) ca7) (k + 1 + 1) (evCells (evP0 m (k + 1)))):=by
    show w7.ownsRow _ _ _ _ _ _
    rw [evP0_succ,evCells_snoc,← HXS.out,← HNN.out]
    exact ho7
   have HB8:=hide hB7
   clear ho7 hB7
   go_wp2
   go_roundw
   case rel=>exact ⟨k + 1,by omega,by go_num,FIN.out,HB8.out⟩
   case measure=>simp [intOf]; omega
  ·obtain rfl:m = k:=by omega
   have HRW:=hide (HBP.out.trans (hBw7.mono HBP.out.size))
   have T9:=HT.out.call hBw7
   have g0:wr.cell? ⟨w2.heap.size,0,none⟩ = some (.int .i64 P.sections):=T9.cell (j:=0) (i:=0) rfl rfl
   have g1:wr.cell? ⟨w2.heap.size,1,none⟩ = some (.slice y1 n1 z1):=T9.cell (j:=0) (i:=1) rfl rfl
   have g2:wr.cell? ⟨w2.heap.size,2,none⟩ = some (.slice y2 n2 z2):=T9.cell (j:=0) (i:=2) rfl rfl
   have g3:wr.cell? ⟨w2.heap.size,3,none⟩ = some (.slice y3 n3 z3):=T9.cell (j:=0) (i:=3) rfl rfl
   have g4:wr.cell? ⟨w2.heap.size,4,none⟩ = some (.int .i64 P.hold):=T9.cell (j:=0) (i:=4) rfl rfl
   have hev:=own_evs hown7 ((show m + 1 = (evP0 m m).length by simp [evP0]))
   have hrun:runOf P (evP0 m m) = runsD P (beginD P) (evP0 m m):=if_pos ⟨HRT.out,by rw [← (show m + 1 = (evP0 m m).length by simp [evP0])]; omega⟩
   have HRC:=hide (implRun_any _ _ _ _ P (evP0 m m) wr (KP.out _ T9.below) (KC.out _ T9.below) (hev.keep (same_refl _ _) (Q:=In wr) fun b hb=>hb.2) HS0.out (by rw [← (show m + 1 = (evP0 m m).length by simp [evP0])]; omega) (ck HG.out HRW.out))
   rw [hrun] at HRC
   clear T9 hev hrun hlt hk
   go_wp2_with fail
   refine HRC.out.mono ?_
   rintro e wG ⟨vg,rfl,hbG,hdg⟩
   obtain ⟨L,hL⟩:∃ L,L = runsD P (beginD P) (evP0 m m):=⟨_,rfl⟩
   rw [← hL] at hdg
   have hLM:L.length = m + 1:=by rw [hL,runs_len]; simp [evP0]
   have HR3:Hid (∀ (i:Nat) y,L[i]? = some y → ∃ g,y.2.ways = [g] ∧ y.1 = 0 ∧ g.state = if i = m then 2 else 1):=by
    show ∀ (i:Nat) y,L[i]? = some y → ∃ g,y.2.ways = [g] ∧ y.1 = 0 ∧ g.state = if i = m then 2 else 1
    rw [hL]
    exact HPS.out
   obtain ⟨lo3,hdo⟩:=hdg.owned
   have HDG:=hide hdo
   obtain ⟨⟨ag,cg,eg,-⟩,-⟩:=id hdo
   rw [hLM] at eg
   subst eg
   obtain ⟨M,hM⟩:∃ M,M = m + 1:=⟨_,rfl⟩
   have hM1:M ≤ 100:=by omega
   have hMi:(m:Int) + 1 = (M:Int):=by omega
   have HLM:Hid (L.length = M):=hLM.trans hM.symm
   have HM:=hide hM
   rw [← hM]
   have HBG:=hide (HRW.out.trans (hbG.mono HRW.out.size))
   have HGB:=hide hbG
   have HBQ0:=hide (Below.refl wG.heap.size wG)
   rw [← hM] at hown7 HDG
   have HOW7:=hide hown7
   have HBW7:=hide hBw7
   clear hdg hdo hbG HRC g0 g1 g2 g3 g4 hL hLM hM hown7 hBw7 HPS
   go_wp2
   go_loopw [55] (fun z wq=>∃ (i:Nat),i ≤ M ∧ z = .int .i64 i ∧ Below wG.heap.size wG wq) (fun z _=>M - (intOf z).toNat)
   case atStart=>exact ⟨0,Nat.zero_le _,rfl,HBQ0.out⟩
   case round=>
    obtain ⟨i,hi,rfl,hbq⟩:=hrel
    rename World=>wq
    by_cases hlt:i < M
    ·obtain ⟨y,hy⟩:=get_some L (hide HLM.out) hlt
     obtain ⟨g,hgw,hg0,hgs⟩:=HR3.out i y hy
     obtain ⟨gq,kq,u1,bo,n4,c2,a3,n5,c3,bw,cw,eq,x0,x1,x2',x3',x4,xS,-⟩:=dones_at2 (HDG.out.but (K:=fun _=>True) (But.of_calls hbq) fun _ _=>trivial) hy hgw
     rw [HLM.out] at eq
     injection eq with e1 e2 e3
     subst e1
     rw [hgs] at xS
     rw [hg0] at x0
     have hbn:=below_new wq (.cells #[.int .i64 0,.bool u1,.slice (some ⟨bo,0,none⟩) n4 c2,.slice a3 n5 c3,.slice (some ⟨bw,0,none⟩) 1 cw] 42)
     have hrn:(wq.alloc (.cells #[.int .i64 0,.bool u1,.slice (some ⟨bo,0,none⟩) n4 c2,.slice a3 n5 c3,.slice (some ⟨bw,0,none⟩) 1 cw] 42)).rowIs wq.heap.size 42 5 (fun i=>(#[.int .i64 0,.bool u1,.slice (some ⟨bo,0,none⟩) n4 c2,.slice a3 n5 c3,.slice (some ⟨bw,0,none⟩) 1 cw]:Array Value)[i]!):=rowIs_new wq 42 #[.int .i64 0,.bool u1,.slice (some ⟨bo,0,none⟩) n4 c2,.slice a3 n5 c3,.slice (some ⟨bw,0,none⟩) 1 cw]
     have tS:=ckb' xS hbn
     have r0:(wq.alloc (.cells #[.int .i64 0,.bool u1,.slice (some ⟨bo,0,none⟩) n4 c2,.slice a3 n5 c3,.slice (some ⟨bw,0,none⟩) 1 cw] 42)).cell? ⟨wq.heap.size,0,none⟩ = some (.int .i64 0):=hrn.cell (i:=0) (by omega)
     have r4:(wq.alloc (.cells #[.int .i64 0,.bool u1,.slice (some ⟨bo,0,none⟩) n4 c2,.slice a3 n5 c3,.slice (some ⟨bw,0,none⟩) 1 cw] 42)).cell? ⟨wq.heap.size,4,none⟩ = some (.slice (some ⟨bw,0,none⟩) 1 cw):=hrn.cell (i:=4) (by omega)
     have HBQ:=hide (hbq.trans (hbn.mono hbq.size))
     have hiM:(i:Int) < (M:Int):=by omega
     clear hbq hbn hrn hy hgw hgs e2 e3 HBQ0 hg0
     by_cases q0:i = m
     ·rw [if_pos q0] at xS tS
      have b0:((i:Int) == (m:Int)) = true:=by simp; omega
      clear q0
      go_wp2
      go_roundw
      case rel=>exact ⟨i + 1,by omega,by go_num,HBQ.out⟩
      case measure=>simp [intOf]; omega
     ·rw [if_neg q0] at xS tS
      have b0:((i:Int) == (m:Int)) = false:=by simp; omega
      clear q0
      go_wp2
      go_roundw
      case rel=>exact ⟨i + 1,by omega,by go_num,HBQ.out⟩
      case measure=>simp [intOf]; omega
    ·have hBq:=HGB.out.trans (hbq.mono HGB.out.size)
     have HOW9:=hide (own_but (K:=fun _=>True) HOW7.out (But.of_calls hBq) fun _ _=>trivial)
     have HB9:=hide (HBW7.out.trans (hBq.mono HBW7.out.size))
     have HST:Hid (wq.ownsRow wP.heap.size 55 3 (.slice al M ca) (m + 1 + lenP N l 0) (evCells (evP N m l 0))):=by
      show wq.ownsRow _ _ _ _ _ _
      rw [lenP_zero,evP_zero,Nat.add_zero,← HM.out]
      exact HOW9.out
     clear hBq hbq HOW9 HOW7 HBW7 HGB HBQ0 HDG HR3 HLM HBG HRW
     go_wp2
     go_loopw [7,13] (fun o z wr=>∃ (k:Nat),k < N + l ∧ z = .int .i64 k ∧ wr.ownsRow wP.heap.size 55 3 o (m + 1 + lenP N l k) (evCells (evP N m l k)) ∧ Below wP.heap.size wP wr) (fun _ z _=>N + l - (intOf z).toNat)
     case atStart=>exact ⟨0,by omega,rfl,HST.out,HB9.out⟩
     case round=>
      obtain ⟨k,hk,rfl,hown7,hBw7⟩:=hrel
      rename World=>wv
      rename Value=>vo
      obtain ⟨al',ca',e⟩:=own_slice hown7
      subst e
      clear HST HB9
      have hkc:(k:Int) < (N:Int) + (l:Int):=by omega
      obtain ⟨nn,hnn⟩:∃ nn,nn = m + 1 + lenP N l k:=⟨_,rfl⟩
      have hnb:nn ≤ 100:=by rw [hnn]; unfold lenP; omega
      obtain ⟨xs,hxs⟩:∃ xs,xs = evCells (evP N m l k):=⟨_,rfl⟩
      rw [← hnn,← hxs] at hown7
      rw [← hnn]
      have HNN:=hide hnn
      have HXS:=hide hxs
      clear hnn hxs
      by_cases cN:k < N
      ·have b1:decide ((k:Int) < (N:Int)) = true:=by simp; omega
       have hkl:k + 1 ≠ N + l:=by omega
       have hbn7:=below_new wv (.cells #[.int .i64 3,.int .i64 (k:Int),.int .i64 0] 55)
       have OWY7:=hide (own_but (K:=fun _=>True) hown7 (But.of_calls hbn7) fun _ _=>trivial)
       have SRC7:=hide (three_src (W:=wv) (t:=55) (x:=.int .i64 3) (y:=.int .i64 (k:Int)) (z:=.int .i64 0))
       have ONE7:=hide (three_one (x:= 3) (y:= (k:Int)) (z:= 0))
       have HMA7:Hid (nn + 1 ≤ maxLen):=by show nn + 1 ≤ maxLen; unfold maxLen; omega
       have HMB7:Hid ((nn + 1) * 24 ≤ 140737488355328):=by show (nn + 1) * 24 ≤ 140737488355328; omega
       have HZY7:Hid (wP.heap.size ≤ (wv.alloc (.cells #[.int .i64 3,.int .i64 (k:Int),.int .i64 0] 55)).heap.size):=Nat.le_trans hBw7.size hbn7.size
       have HBW7:=hide (hBw7.trans (hbn7.mono hBw7.size))
       clear hown7 hbn7 hBw7
       go_wp2_with (at_builtin; refine wpList_append_any rfl _ _ 28 rfl wP.heap.size 55 (.agg #[.int .i64 0,.int .i64 0,.int .i64 0]) 3 24 Tryz.underlying28 Tryz.infoEvent rfl (by decide) (.slice al' (nn) ca') (nn) (xs) rfl OWY7.out (some ⟨wv.heap.size,0,none⟩) 1 1 [.int .i64 3,.int .i64 (k:Int),.int .i64 0] rfl rfl SRC7.out ONE7.out HMA7.out HMB7.out HZY7.out ?_)
       intro u7 w7 ho7 hgr7
       have hB7:=HBW7.out.trans (own_snoc OWY7.out hgr7 (Nat.le_refl _) HZY7.out)
       obtain ⟨al7,ca7,rfl⟩:=own_slice ho7
       clear OWY7 SRC7 ONE7 HBW7 hgr7
       by_cases cl:l ≤ k
       ·have b2:decide ((l:Int) ≤ (k:Int)) = true:=by simp; omega
        have hbn8:=below_new w7 (.cells #[.int .i64 4,.int .i64 ((k:Int) - (l:Int)),.int .i64 0] 55)
        have OWY8:=hide (own_but (K:=fun _=>True) ho7 (But.of_calls hbn8) fun _ _=>trivial)
        have SRC8:=hide (three_src (W:=w7) (t:=55) (x:=.int .i64 4) (y:=.int .i64 ((k:Int) - (l:Int))) (z:=.int .i64 0))
        have ONE8:=hide (three_one (x:= 4) (y:= ((k:Int) - (l:Int))) (z:= 0))
        have HMA8:Hid (nn + 1 + 1 ≤ maxLen):=by show nn + 1 + 1 ≤ maxLen; unfold maxLen; omega
        have HMB8:Hid ((nn + 1 + 1) * 24 ≤ 140737488355328):=by show (nn + 1 + 1) * 24 ≤ 140737488355328; omega
        have HZY8:Hid (wP.heap.size ≤ (w7.alloc (.cells #[.int .i64 4,.int .i64 ((k:Int) - (l:Int)),.int .i64 0] 55)).heap.size):=Nat.le_trans hB7.size hbn8.size
        have HBW8:=hide (hB7.trans (hbn8.mono hB7.size))
        clear ho7 hbn8 hB7
        go_wp2_with (at_builtin; refine wpList_append_any rfl _ _ 28 rfl wP.heap.size 55 (.agg #[.int .i64 0,.int .i64 0,.int .i64 0]) 3 24 Tryz.underlying28 Tryz.infoEvent rfl (by decide) (.slice al7 (nn + 1) ca7) (nn + 1) (xs ++ [.int .i64 3,.int .i64 (k:Int),.int .i64 0]) rfl OWY8.out (some ⟨w7.heap.size,0,none⟩) 1 1 [.int .i64 4,.int .i64 ((k:Int) - (l:Int)),.int .i64 0] rfl rfl SRC8.out ONE8.out HMA8.out HMB8.out HZY8.out ?_)
        intro u8 w8 ho8 hgr8
        have hB8:=HBW8.out.trans (own_snoc OWY8.out hgr8 (Nat.le_refl _) HZY8.out)
        obtain ⟨al8,ca8,rfl⟩:=own_slice ho8
        clear OWY8 SRC8 ONE8 HBW8 hgr8
        have FIN:Hid (w8.ownsRow wP.heap.size 55 3 (.slice al8 (nn + 1 + 1) ca8) (m + 1 + lenP N l (k + 1)) (evCells (evP N m l (k + 1)))):=by
         show w8.ownsRow _ _ _ _ _ _
         have e1:m + 1 + lenP N l (k + 1) = nn + 1 + 1:=by rw [HNN.out]; unfold lenP; omega
         rw [e1,evP_succ,evPR,if_pos cN,if_pos cl,← List.append_assoc,evCells_snoc,evCells_snoc,← HXS.out,List.append_assoc]
         exact ho8
        
        have HB8:=hide hB8
        clear ho8
        have HRW:=hide (HBP.out.trans (hB8.mono HBP.out.size))
        have T9:=HT.out.call hB8
        have g0:w8.cell? ⟨w2.heap.size,0,none⟩ = some (.int .i64 P.sections):=T9.cell (j:=0) (i:=0) rfl rfl
        have g1:w8.cell? ⟨w2.heap.size,1,none⟩ = some (.slice y1 n1 z1):=T9.cell (j:=0) (i:=1) rfl rfl
        have g2:w8.cell? ⟨w2.heap.size,2,none⟩ = some (.slice y2 n2 z2):=T9.cell (j:=0) (i:=2) rfl rfl
        have g3:w8.cell? ⟨w2.heap.size,3,none⟩ = some (.slice y3 n3 z3):=T9.cell (j:=0) (i:=3) rfl rfl
        have g4:w8.cell? ⟨w2.heap.size,4,none⟩ = some (.int .i64 P.hold):=T9.cell (j:=0) (i:=4) rfl rfl
        have hlen:m + 1 + lenP N l (k + 1) = (evP N m l (k + 1)).length:=(evP_length N m l (k + 1)).symm
        have hlenb:(evP N m l (k + 1)).length ≤ 100:=by rw [← hlen]; unfold lenP; omega
        have hev:=own_evs FIN.out hlen
        have hrun:runOf P (evP N m l (k + 1)) = runsD P (beginD P) (evP N m l (k + 1)):=if_pos ⟨HRT.out,by omega⟩
        have HRC:=hide (implRun_any _ _ _ _ P (evP N m l (k + 1)) w8 (KP.out _ T9.below) (KC.out _ T9.below) (hev.keep (same_refl _ _) (Q:=In w8) fun b hb=>hb.2) HS0.out (by omega) (ck HG.out HRW.out))
        rw [hrun] at HRC
        obtain ⟨y,g,hy,hgw,hgA,hgB⟩:=HPG.out k hk
        obtain ⟨L,hL⟩:∃ L,L = runsD P (beginD P) (evP N m l (k + 1)):=⟨_,rfl⟩
        have HSM:Hid (∀ x ∈ L,x.2.Small 1048576):=by
         show ∀ x ∈ L,x.2.Small 1048576
         rw [hL]
         exact runP_smalls HRT.out _
        have HEV:=hide hev
        have HRUN:=hide hrun
        rw [← hL] at HRC hy HRUN
        have hlL:L.length = (evP N m l (k + 1)).length:=by rw [hL,runs_len]
        obtain ⟨M1,hM1⟩:∃ M1,(evP N m l (k + 1)).length = M1 + 1:=⟨(evP N m l (k + 1)).length - 1,by omega⟩
        rw [hM1] at hlL hy
        rw [Nat.add_sub_cancel] at hy
        have hM1b:M1 ≤ 100:=by omega
        have HY:=hide hy
        have HGW:=hide hgw
        have HGA:=hide hgA
        have HGB:=hide hgB
        have HLL:=hide hlL
        have HLB:=hide hlenb
        have HT9:=hide T9
        clear T9 hev hrun hL hlen hlenb hM1 hlL hy hgw hgA hgB hB8
        go_wp2_with fail
        refine HRC.out.mono ?_
        rintro e wG ⟨vg,rfl,hbG,hdg⟩
        obtain ⟨lo3,hdo⟩:=hdg.owned
        obtain ⟨gq,kq,u1,bo,n4,c2,a3,n5,c3,bw,cw,eq,x0,x1,x2',x3',x4,xS,xG⟩:=dones_at2 hdo HY.out HGW.out
        rw [HLL.out] at eq
        subst eq
        have HDG:=hide hdo
        have HBG:=hide hbG
        have hMi:((M1:Int) + 1) - 1 = (M1:Int):=by omega
        clear hdg hdo hbG HRC g0 g1 g2 g3 g4
        obtain ⟨hst,hgn⟩:=HGB.out hkl
        rw [hst] at xS
        rw [hgn] at xG
        obtain ⟨G,hG⟩:∃ G:Nat,k + 1 = l + G:=⟨k + 1 - l,by omega⟩
        have hGi:(k:Int) - (l:Int) + 1 = (G:Int):=by omega
        have hGe:k + 1 - l = G:=by omega
        rw [hGe] at xG
        have d0:decide ((G:Int) < 0) = false:=decide_eq_false (by omega)
        have d1:((G:Int) == (N:Int)) = false:=by simp; omega
        clear hG hGe hgn hst
        have HFN:=hide (own_but (K:=fun _=>True) FIN.out (But.of_calls HBG.out) fun _ _=>trivial)
        have HBN:=hide (HB8.out.trans (HBG.out.mono HB8.out.size))
        clear HBG FIN HDG HGA HGB
        go_wp2
        go_roundw
        case rel=>exact ⟨k + 1,by omega,by go_num,HFN.out,HBN.out⟩
        case measure=>simp [intOf]; omega
       ·have b2:decide ((l:Int) ≤ (k:Int)) = false:=by simp; omega
        have FIN:Hid (w7.ownsRow wP.heap.size 55 3 (.slice al7 (nn + 1) ca7) (m + 1 + lenP N l (k + 1)) (evCells (evP N m l (k + 1)))):=by
         show w7.ownsRow _ _ _ _ _ _
         have e1:m + 1 + lenP N l (k + 1) = nn + 1:=by rw [HNN.out]; unfold lenP; omega
         rw [e1,evP_succ,evPR,if_pos cN,if_neg cl,List.append_nil,evCells_snoc,← HXS.out]
         exact ho7
        have hB8:=hB7
        have HB8:=hide hB8
        clear ho7 hB7
        have HRW:=hide (HBP.out.trans (hB8.mono HBP.out.size))
        have T9:=HT.out.call hB8
        have g0:w7.cell? ⟨w2.heap.size,0,none⟩ = some (.int .i64 P.sections):=T9.cell (j:=0) (i:=0) rfl rfl
        have g1:w7.cell? ⟨w2.heap.size,1,none⟩ = some (.slice y1 n1 z1):=T9.cell (j:=0) (i:=1) rfl rfl
        have g2:w7.cell? ⟨w2.heap.size,2,none⟩ = some (.slice y2 n2 z2):=T9.cell (j:=0) (i:=2) rfl rfl
        have g3:w7.cell? ⟨w2.heap.size,3,none⟩ = some (.slice y3 n3 z3):=T9.cell (j:=0) (i:=3) rfl rfl
        have g4:w7.cell? ⟨w2.heap.size,4,none⟩ = some (.int .i64 P.hold):=T9.cell (j:=0) (i:=4) rfl rfl
        have hlen:m + 1 + lenP N l (k + 1) = (evP N m l (k + 1)).length:=(evP_length N m l (k + 1)).symm
        have hlenb:(evP N m l (k + 1)).length ≤ 100:=by rw [← hlen]; unfold lenP; omega
        have hev:=own_evs FIN.out hlen
        have hrun:runOf P (evP N m l (k + 1)) = runsD P (beginD P) (evP N m l (k + 1)):=if_pos ⟨HRT.out,by omega⟩
        have HRC:=hide (implRun_any _ _ _ _ P (evP N m l (k + 1)) w7 (KP.out _ T9.below) (KC.out _ T9.below) (hev.keep (same_refl _ _) (Q:=In w7) fun b hb=>hb.2) HS0.out (by omega) (ck HG.out HRW.out))
        rw [hrun] at HRC
        obtain ⟨y,g,hy,hgw,hgA,hgB⟩:=HPG.out k hk
        obtain ⟨L,hL⟩:∃ L,L = runsD P (beginD P) (evP N m l (k + 1)):=⟨_,rfl⟩
        have HSM:Hid (∀ x ∈ L,x.2.Small 1048576):=by
         show ∀ x ∈ L,x.2.Small 1048576
         rw [hL]
         exact runP_smalls HRT.out _
        have HEV:=hide hev
        have HRUN:=hide hrun
        rw [← hL] at HRC hy HRUN
        have hlL:L.length = (evP N m l (k + 1)).length:=by rw [hL,runs_len]
        obtain ⟨M1,hM1⟩:∃ M1,(evP N m l (k + 1)).length = M1 + 1:=⟨(evP N m l (k + 1)).length - 1,by omega⟩
        rw [hM1] at hlL hy
        rw [Nat.add_sub_cancel] at hy
        have hM1b:M1 ≤ 100:=by omega
        have HY:=hide hy
        have HGW:=hide hgw
        have HGA:=hide hgA
        have HGB:=hide hgB
        have HLL:=hide hlL
        have HLB:=hide hlenb
        have HT9:=hide T9
        clear T9 hev hrun hL hlen hlenb hM1 hlL hy hgw hgA hgB hB8
        go_wp2_with fail
        refine HRC.out.mono ?_
        rintro e wG ⟨vg,rfl,hbG,hdg⟩
        obtain ⟨lo3,hdo⟩:=hdg.owned
        obtain ⟨gq,kq,u1,bo,n4,c2,a3,n5,c3,bw,cw,eq,x0,x1,x2',x3',x4,xS,xG⟩:=dones_at2 hdo HY.out HGW.out
        rw [HLL.out] at eq
        subst eq
        have HDG:=hide hdo
        have HBG:=hide hbG
        have hMi:((M1:Int) + 1) - 1 = (M1:Int):=by omega
        clear hdg hdo hbG HRC g0 g1 g2 g3 g4
        by_cases cz:k + 1 < l
        ·obtain ⟨hst,hgn⟩:=HGB.out hkl
         rw [hst] at xS
         rw [hgn] at xG
         have hGe:k + 1 - l = 0:=by omega
         rw [hGe] at xG
         have xG0:wG.cell? ⟨bw,1,none⟩ = some (.int .i64 0):=xG
         have d0:decide ((k:Int) - (l:Int) + 1 < 0) = true:=by simp; omega
         have d1:((0:Int) == (N:Int)) = false:=by simp; omega
         clear hGe hgn hst xG
         have HFN:=hide (own_but (K:=fun _=>True) FIN.out (But.of_calls HBG.out) fun _ _=>trivial)
         have HBN:=hide (HB8.out.trans (HBG.out.mono HB8.out.size))
         clear HBG FIN HDG HGA HGB
         go_wp2
         go_roundw
         case rel=>exact ⟨k + 1,by omega,by go_num,HFN.out,HBN.out⟩
         case measure=>simp [intOf]; omega
        ·obtain ⟨hst,hgn⟩:=HGB.out hkl
         rw [hst] at xS
         rw [hgn] at xG
         obtain ⟨G,hG⟩:∃ G:Nat,k + 1 = l + G:=⟨k + 1 - l,by omega⟩
         have hGi:(k:Int) - (l:Int) + 1 = (G:Int):=by omega
         have hGe:k + 1 - l = G:=by omega
         rw [hGe] at xG
         have d0:decide ((G:Int) < 0) = false:=decide_eq_false (by omega)
         have d1:((G:Int) == (N:Int)) = false:=by simp; omega
         clear hG hGe hgn hst
         have HFN:=hide (own_but (K:=fun _=>True) FIN.out (But.of_calls HBG.out) fun _ _=>trivial)
         have HBN:=hide (HB8.out.trans (HBG.out.mono HB8.out.size))
         clear HBG FIN HDG HGA HGB
         go_wp2
         go_roundw
         case rel=>exact ⟨k + 1,by omega,by go_num,HFN.out,HBN.out⟩
         case measure=>simp [intOf]; omega
      ·have b1:decide ((k:Int) < (N:Int)) = false:=by simp; omega
       have b2:decide ((l:Int) ≤ (k:Int)) = true:=by simp; omega
       have cl:l ≤ k:=by omega
       have hbn7:=below_new wv (.cells #[.int .i64 4,.int .i64 ((k:Int) - (l:Int)),.int .i64 0] 55)
       have OWY7:=hide (own_but (K:=fun _=>True) hown7 (But.of_calls hbn7) fun _ _=>trivial)
       have SRC7:=hide (three_src (W:=wv) (t:=55) (x:=.int .i64 4) (y:=.int .i64 ((k:Int) - (l:Int))) (z:=.int .i64 0))
       have ONE7:=hide (three_one (x:= 4) (y:= ((k:Int) - (l:Int))) (z:= 0))
       have HMA7:Hid (nn + 1 ≤ maxLen):=by show nn + 1 ≤ maxLen; unfold maxLen; omega
       have HMB7:Hid ((nn + 1) * 24 ≤ 140737488355328):=by show (nn + 1) * 24 ≤ 140737488355328; omega
       have HZY7:Hid (wP.heap.size ≤ (wv.alloc (.cells #[.int .i64 4,.int .i64 ((k:Int) - (l:Int)),.int .i64 0] 55)).heap.size):=Nat.le_trans hBw7.size hbn7.size
       have HBW7:=hide (hBw7.trans (hbn7.mono hBw7.size))
       clear hown7 hbn7 hBw7
       go_wp2_with (at_builtin; refine wpList_append_any rfl _ _ 28 rfl wP.heap.size 55 (.agg #[.int .i64 0,.int .i64 0,.int .i64 0]) 3 24 Tryz.underlying28 Tryz.infoEvent rfl (by decide) (.slice al' (nn) ca') (nn) (xs) rfl OWY7.out (some ⟨wv.heap.size,0,none⟩) 1 1 [.int .i64 4,.int .i64 ((k:Int) - (l:Int)),.int .i64 0] rfl rfl SRC7.out ONE7.out HMA7.out HMB7.out HZY7.out ?_)
       intro u7 w7 ho7 hgr7
       have hB7:=HBW7.out.trans (own_snoc OWY7.out hgr7 (Nat.le_refl _) HZY7.out)
       obtain ⟨al7,ca7,rfl⟩:=own_slice ho7
       clear OWY7 SRC7 ONE7 HBW7 hgr7
       have FIN:Hid (w7.ownsRow wP.heap.size 55 3 (.slice al7 (nn + 1) ca7) (m + 1 + lenP N l (k + 1)) (evCells (evP N m l (k + 1)))):=by
        show w7.ownsRow _ _ _ _ _ _
        have e1:m + 1 + lenP N l (k + 1) = nn + 1:=by rw [HNN.out]; unfold lenP; omega
        rw [e1,evP_succ,evPR,if_neg cN,if_pos cl,List.nil_append,evCells_snoc,← HXS.out]
        exact ho7
       have hB8:=hB7
       have HB8:=hide hB8
       clear ho7 hB7
       have HRW:=hide (HBP.out.trans (hB8.mono HBP.out.size))
       have T9:=HT.out.call hB8
       have g0:w7.cell? ⟨w2.heap.size,0,none⟩ = some (.int .i64 P.sections):=T9.cell (j:=0) (i:=0) rfl rfl
       have g1:w7.cell? ⟨w2.heap.size,1,none⟩ = some (.slice y1 n1 z1):=T9.cell (j:=0) (i:=1) rfl rfl
       have g2:w7.cell? ⟨w2.heap.size,2,none⟩ = some (.slice y2 n2 z2):=T9.cell (j:=0) (i:=2) rfl rfl
       have g3:w7.cell? ⟨w2.heap.size,3,none⟩ = some (.slice y3 n3 z3):=T9.cell (j:=0) (i:=3) rfl rfl
       have g4:w7.cell? ⟨w2.heap.size,4,none⟩ = some (.int .i64 P.hold):=T9.cell (j:=0) (i:=4) rfl rfl
       have hlen:m + 1 + lenP N l (k + 1) = (evP N m l (k + 1)).length:=(evP_length N m l (k + 1)).symm
       have hlenb:(evP N m l (k + 1)).length ≤ 100:=by rw [← hlen]; unfold lenP; omega
       have hev:=own_evs FIN.out hlen
       have hrun:runOf P (evP N m l (k + 1)) = runsD P (beginD P) (evP N m l (k + 1)):=if_pos ⟨HRT.out,by omega⟩
       have HRC:=hide (implRun_any _ _ _ _ P (evP N m l (k + 1)) w7 (KP.out _ T9.below) (KC.out _ T9.below) (hev.keep (same_refl _ _) (Q:=In w7) fun b hb=>hb.2) HS0.out (by omega) (ck HG.out HRW.out))
       rw [hrun] at HRC
       obtain ⟨y,g,hy,hgw,hgA,hgB⟩:=HPG.out k hk
       obtain ⟨L,hL⟩:∃ L,L = runsD P (beginD P) (evP N m l (k + 1)):=⟨_,rfl⟩
       have HSM:Hid (∀ x ∈ L,x.2.Small 1048576):=by
        show ∀ x ∈ L,x.2.Small 1048576
        rw [hL]
        exact runP_smalls HRT.out _
       have HEV:=hide hev
       have HRUN:=hide hrun
       rw [← hL] at HRC hy HRUN
       have hlL:L.length = (evP N m l (k + 1)).length:=by rw [hL,runs_len]
       obtain ⟨M1,hM1⟩:∃ M1,(evP N m l (k + 1)).length = M1 + 1:=⟨(evP N m l (k + 1)).length - 1,by omega⟩
       rw [hM1] at hlL hy
       rw [Nat.add_sub_cancel] at hy
       have hM1b:M1 ≤ 100:=by omega
       have HY:=hide hy
       have HGW:=hide hgw
       have HGA:=hide hgA
       have HGB:=hide hgB
       have HLL:=hide hlL
       have HLB:=hide hlenb
       have HT9:=hide T9
       clear T9 hev hrun hL hlen hlenb hM1 hlL hy hgw hgA hgB hB8
       go_wp2_with fail
       refine HRC.out.mono ?_
       rintro e wG ⟨vg,rfl,hbG,hdg⟩
       obtain ⟨lo3,hdo⟩:=hdg.owned
       obtain ⟨gq,kq,u1,bo,n4,c2,a3,n5,c3,bw,cw,eq,x0,x1,x2',x3',x4,xS,xG⟩:=dones_at2 hdo HY.out HGW.out
       rw [HLL.out] at eq
       subst eq
       have HDG:=hide hdo
       have HBG:=hide hbG
       have hMi:((M1:Int) + 1) - 1 = (M1:Int):=by omega
       clear hdg hdo hbG HRC g0 g1 g2 g3 g4
       by_cases hkl:k + 1 = N + l
       ·rw [HGA.out hkl] at xS
        have hGi:(k:Int) - (l:Int) + 1 = (N:Int):=by omega
        have d0:decide ((N:Int) < 0) = false:=decide_eq_false (by omega)
        have d1:((N:Int) == (N:Int)) = true:=by simp
        have hbG2:=HBG.out
        have T10:=HT9.out.call hbG2
        have g0:wG.cell? ⟨w2.heap.size,0,none⟩ = some (.int .i64 P.sections):=T10.cell (j:=0) (i:=0) rfl rfl
        have g1:wG.cell? ⟨w2.heap.size,1,none⟩ = some (.slice y1 n1 z1):=T10.cell (j:=0) (i:=1) rfl rfl
        have g2:wG.cell? ⟨w2.heap.size,2,none⟩ = some (.slice y2 n2 z2):=T10.cell (j:=0) (i:=2) rfl rfl
        have g3:wG.cell? ⟨w2.heap.size,3,none⟩ = some (.slice y3 n3 z3):=T10.cell (j:=0) (i:=3) rfl rfl
        have g4:wG.cell? ⟨w2.heap.size,4,none⟩ = some (.int .i64 P.hold):=T10.cell (j:=0) (i:=4) rfl rfl
        have HSR:=hide (specRun_any _ _ _ _ P (evP N m l (k + 1)) wG (KP.out _ T10.below) ((HEV.out.keep (same_refl _ _) (Q:=In w7) fun b hb=>hb.2).keep (Q:=In wG) (In.keep hbG2).1 (In.keep hbG2).2) HS0.out (by have:=HLB.out; omega))
        rw [HRUN.out] at HSR
        clear T10 hbG2 HGA HGB
        go_wp2_with fail
        refine HSR.out.mono ?_
        rintro e wS ⟨vs,rfl,hbS,hds⟩
        have HBS:=hide hbS
        obtain ⟨los,hdos⟩:=hds.owned
        have hq1:=(HDG.out.but (K:=fun _=>True) (But.of_calls hbS) fun _ _=>trivial).read
        have hq2:=hdos.read
        have HWD:=hide (wDone_any _ _ L wS hq1 hq2 (by have:=HLL.out; omega) HSM.out)
        clear hbS hds hdos hq1 hq2 HSR g0 g1 g2 g3 g4
        go_wp2_with fail
        refine HWD.out.mono ?_
        rintro e wE ⟨rfl,hbE⟩
        have HBE:=hide hbE
        clear HWD hbE
        go_wp2
        go_ret
        have b1:=HRW.out.trans (HBG.out.mono HRW.out.size)
        have b2:=b1.trans (HBS.out.mono b1.size)
        exact ⟨rfl,b2.trans (HBE.out.mono b2.size)⟩
       ·obtain ⟨hst,hgn⟩:=HGB.out hkl
        rw [hst] at xS
        rw [hgn] at xG
        obtain ⟨G,hG⟩:∃ G:Nat,k + 1 = l + G:=⟨k + 1 - l,by omega⟩
        have hGi:(k:Int) - (l:Int) + 1 = (G:Int):=by omega
        have hGe:k + 1 - l = G:=by omega
        rw [hGe] at xG
        have d0:decide ((G:Int) < 0) = false:=decide_eq_false (by omega)
        have d1:((G:Int) == (N:Int)) = false:=by simp; omega
        clear hG hGe hgn hst
        have HFN:=hide (own_but (K:=fun _=>True) FIN.out (But.of_calls HBG.out) fun _ _=>trivial)
        have HBN:=hide (HB8.out.trans (HBG.out.mono HB8.out.size))
        clear HBG FIN HDG HGA HGB
        go_wp2
        go_roundw
        case rel=>exact ⟨k + 1,by omega,by go_num,HFN.out,HBN.out⟩
        case measure=>simp [intOf]; omega
end Go.Proofs.YtdhinkgjiapigaaGreatDoor
