import Derived.Test.YtdhinkgjiapigabGreatDoorToA
import Derived.Test.YtdhinkgjiapigabGreatDoorBase
import Derived.Test.YtdhinkgjiapigabGreatDoorSpec3
import Derived.Test.YtdhinkgjiapigabGreatDoorSpec5
namespace Go.Proofs.YtdhinkgjiapigabGreatDoor
open Go.RowKit Go.Deep
def zde (w:World) (b o:Nat):Nat:=(intOf ((w.cell? ⟨b,o,none⟩).getD (.bool false))).toNat
theorem zr6 {W:World} {bw N i:Nat} {f:Nat → Value} (hr:W.rowIs bw 93 N f) (u0 u1 u2 u3 u4:Value) :
  ∃ g,(((((W.setCell ⟨bw,i * 5,none⟩ u0).setCell ⟨bw,i * 5 + 1,none⟩ u1).setCell ⟨bw,i * 5 + 2,none⟩ u2).setCell ⟨bw,i * 5 + 3,none⟩ u3).setCell ⟨bw,i * 5 + 4,none⟩ u4).rowIs bw 93 N g ∧
   (g (i * 5) = u0 ∧ g (i * 5 + 1) = u1 ∧ g (i * 5 + 2) = u2 ∧ g (i * 5 + 3) = u3 ∧ g (i * 5 + 4) = u4) ∧ ∀ q,q < i * 5 ∨ i * 5 + 5 ≤ q → g q = f q:=by
 have h5:=((((hr.set (i * 5) u0).set (i * 5 + 1) u1).set (i * 5 + 2) u2).set (i * 5 + 3) u3).set (i * 5 + 4) u4;refine ⟨_,h5,⟨?_,?_,?_,?_,?_⟩,fun q hq=>?_⟩
 ·rw [if_neg (by omega),if_neg (by omega),if_neg (by omega),if_neg (by omega),if_pos rfl]
 ·rw [if_neg (by omega),if_neg (by omega),if_neg (by omega),if_pos rfl]
 ·rw [if_neg (by omega),if_neg (by omega),if_pos rfl]
 ·rw [if_neg (by omega),if_pos rfl]
 ·rw [if_pos rfl]
 ·rw [if_neg (by omega),if_neg (by omega),if_neg (by omega),if_neg (by omega),if_neg (by omega)]
set_option maxHeartbeats 1000000 in
theorem zfx (bw N i:Nat) (f:Nat → Value) (a:Option Addr) (n cap:Nat) (w:World) (hr:w.rowIs bw 93 N f) (hi:i * 5 + 5 ≤ N) (hf:f (i * 5 + 2) = .slice a n cap) (hn:n ≤ 1048576) :
  Calls Tryz.prog 90 #[.pointer (some ⟨bw,i * 5,none⟩)] w fun e w'=>e = .returned (.tuple #[]) ∧ ∀ b,HeldStep w w' bw N i f b (zc3 n):=by
 have hmk:=run_make_row' (P:=Tryz.prog) 27 4 (.bool false) 1 Tryz.underlying27 Tryz.infoBool rfl .i64 .i64 n (by omega) (by omega);have q0:=hr.cell (i:=i * 5) (by omega);have q1:=hr.cell (i:=i * 5 + 1) (by omega);have q2:=hr.cell (i:=i * 5 + 2) (by omega);have q3:=hr.cell (i:=i * 5 + 3) (by omega);have q4:=hr.cell (i:=i * 5 + 4) (by omega);have r0:=hr.frozen (i * 5);have r1:=hr.frozen (i * 5 + 1);have r2:=hr.frozen (i * 5 + 2);have r3:=hr.frozen (i * 5 + 3);have r4:=hr.frozen (i * 5 + 4);have hlt:=hr.lt;rw [hf] at q2;have HR:=zaa hr;clear hr hf;go_enter Tryz.func90,Tryz.ntmps90;go_wp2;refine bodyPost_end (v:=.tuple #[]) (by simp [results,Tryz.results90,go_sem]) rfl ⟨rfl,fun b=>?_⟩;obtain ⟨g,hg,⟨g0,g1,g2,g3,g4⟩,hgq⟩:=zr6 (i:=i) HR.out (.int .i64 0) (.int .i64 0) (.slice (some ⟨w.heap.size,0,none⟩) n n) (.bool false) (.int .i64 0);have hk:¬ ((fun c=>c ≠ bw ∧ c ≠ b) bw):=fun h=>h.1 rfl;refine ⟨(((((((But.refl _ w).setCell hk _).setCell hk _).setCell hk _).setCell hk _).setCell hk _).alloc _),g,w.heap.size,hg.alloc _,⟨g0,g1,?_,g3,g4⟩,fun q _ hq=>hgq q hq,.inr (Nat.le_refl _)⟩;refine ⟨fun _=>.bool false,n,n,by rw [g2]; simp [zc3],?_,by simp [zc3],fun k x hx=>?_⟩
 ·have:=World.rowIs_made (((((w.setCell ⟨bw,i * 5,none⟩ (.int .i64 0)).setCell ⟨bw,i * 5 + 1,none⟩ (.int .i64 0)).setCell ⟨bw,i * 5 + 2,none⟩ (.slice (some ⟨w.heap.size,0,none⟩) n n)).setCell ⟨bw,i * 5 + 3,none⟩ (.bool false)).setCell ⟨bw,i * 5 + 4,none⟩ (.int .i64 0)) (.bool false) n 4;simpa using this
 ·have hx':(List.replicate n false)[k]? = some x:=hx;rw [List.getElem?_replicate] at hx';split at hx'
  ·cases hx'; rfl
  ·cases hx'
theorem zns {W W':World} {b o:Nat} {v:Value} (h:W.cell? ⟨b,o,none⟩ = some v) (hb:Below W.heap.size W W'):W'.cell? ⟨b,o,none⟩ = some v:=
 (hb.cell (p:=⟨b,o,none⟩) (World.block_lt_of_cell? _ _ h)).trans h
theorem HeldO.cells {w:World} {bw N i:Nat} {f:Nat → Value} {h:HeldD} {b:Nat} (hr:w.rowIs bw 93 N f) (hi:i * 5 + 5 ≤ N) (ho:HeldO w f i h b) :
  ∃ cap,w.cell? ⟨bw,i * 5,none⟩ = some (.int .i64 h.state) ∧ w.cell? ⟨bw,i * 5 + 1,none⟩ = some (.int .i64 h.gone) ∧ w.cell? ⟨bw,i * 5 + 2,none⟩ = some (.slice (some ⟨b,0,none⟩) h.been.length cap) ∧ w.cell? ⟨bw,i * 5 + 3,none⟩ = some (.bool h.shown) ∧ w.cell? ⟨bw,i * 5 + 4,none⟩ = some (.int .i64 h.timer) ∧
   f (i * 5 + 2) = .slice (some ⟨b,0,none⟩) h.been.length cap ∧ ∃ g M,w.rowIs b 4 M g ∧ h.been.length ≤ M ∧ ∀ (k:Nat) x,h.been[k]? = some x → g k = .bool x:=by
 obtain ⟨h0,h1,⟨g,M,cap,hv,hg,hM,hx⟩,h3,h4⟩:=ho;refine ⟨cap,?_,?_,?_,?_,?_,hv,g,M,hg,hM,hx⟩
 ·rw [hr.cell (by omega),h0]
 ·rw [hr.cell (by omega),h1]
 ·rw [hr.cell (by omega),hv]
 ·rw [hr.cell (by omega),h3]
 ·rw [hr.cell (by omega),h4]
theorem HeldStep.after {w w1 w2:World} {bw N i:Nat} {f f1:Nat → Value} {b b1:Nat} {y:HeldD} (e:But (fun c=>c ≠ bw ∧ c ≠ b) w w1) (hf:∀ q,q < N → q < i * 5 ∨ i * 5 + 5 ≤ q → f1 q = f q) (hb:b1 = b ∨ w.heap.size ≤ b1)
  (k:HeldStep w1 w2 bw N i f1 b1 y):HeldStep w w2 bw N i f b y:=by
 obtain ⟨e2,f2,b2,hr2,ho2,hf2,hb2⟩:=k;refine ⟨?_,f2,b2,hr2,ho2,fun q hN hq=>(hf2 q hN hq).trans (hf q hN hq),?_⟩
 ·refine ⟨e2.os.trans e.os,e2.tape.trans e.tape,e2.output.trans e.output,Nat.le_trans e.size e2.size,fun c hc hk=>?_⟩;exact (e2.block c (Nat.lt_of_lt_of_le hc e.size) ⟨hk.1,by rcases hb with q | q; rw [q]; exact hk.2; omega⟩).trans (e.block c hc hk)
 ·have:=e.size;rcases hb2 with q | q
  ·rw [q]; exact hb
  ·exact .inr (by omega)
theorem zmc {w W0 wo W:World} {bw b:Nat} (h0:Below w.heap.size w W0) (B1:But (fun c=>c ≠ b) W0 wo) (B2:But (fun c=>c ≠ bw) wo W):But (fun c=>c ≠ bw ∧ c ≠ b) w W:=
 ((But.of_calls h0).trans (B1.mono fun _ _ h=>h.2)).trans (B2.mono fun _ _ h=>h.1)
theorem zmd {wr:World} {bw N o k2 m:Nat} {f':Nat → Value} (hr:wr.rowIs bw 93 N f') (ho:o < N):zde ((wr.drewN m).setCell ⟨bw,o,none⟩ (.int .i64 ((k2:Int) + 1))) bw o = k2 + 1:=by
 unfold zde;rw [((zal hr (zan _ m)).set o _).cell ho,if_pos rfl];simp [intOf]
theorem zoz {w W0 wo W:World} {bw b N M i:Nat} {f f1 g:Nat → Value} {h:HeldD} {bd:List Bool} {k:Nat} (h0:Below w.heap.size w W0) (B1:But (fun c=>c ≠ b) W0 wo) (B2:But (fun c=>c ≠ bw) wo W) (hne:bw ≠ b)
  (hg:wo.rowIs b 4 M g) (hM:h.been.length ≤ M) (hl:bd.length = h.been.length) (hbd:∀ (j:Nat) y,bd[j]? = some y → g j = .bool y) (hr:W.rowIs bw 93 N f1) (hk:f1 (i * 5 + 1) = .int .i64 k) (hq:∀ q,q ≠ i * 5 + 1 → f1 q = f q) (ho:HeldO w f i h b) :
  HeldStep w W bw N i f b { h with been:=bd,gone:=k }:=by
 refine ⟨zmc h0 B1 B2,f1,b,hr,⟨?_,hk,?_,?_,?_⟩,fun q _ hq2=>hq q (by omega),.inl rfl⟩
 ·rw [hq _ (by omega)]; exact ho.1
 ·rw [hq _ (by omega)];obtain ⟨-,-,⟨g0,M0,cap,hv,-,-,-⟩,-,-⟩:=ho;exact ⟨g,M,cap,by rw [hv,hl],B2.row hg hne.symm,by rw [hl]; exact hM,hbd⟩
 ·rw [hq _ (by omega)]; exact ho.2.2.2.1
 ·rw [hq _ (by omega)]; exact ho.2.2.2.2
set_option maxRecDepth 100000 in
set_option maxHeartbeats 2000000 in
theorem zm4 (P:Nat → Prop) (v0 v1 u1 u2 u3 u4:Value) (occ:List Bool) (secs:List Int) (h:HeldD) (bf bw N i b:Nat) (f:Nat → Value) (w:World)
  (hsec:Ints P w v0 secs) (hocc:Bools P w v1 occ) (hP:∀ c,P c → c < w.heap.size ∧ c ≠ bw ∧ c ≠ b) (hbox:w.cell? ⟨bf,1,none⟩ = some v1) (hbf:bf ≠ bw ∧ bf ≠ b)
  (hr:w.rowIs bw 93 N f) (hi:i * 5 + 5 ≤ N) (ho:HeldO w f i h b)
  (hlen:h.been.length = secs.length) (h30:secs.length ≤ 30) (hin:∀ s ∈ secs,0 ≤ s ∧ s < occ.length) (_hol:occ.length ≤ 1048576) (hg0:0 ≤ h.gone) (hg1:h.gone ≤ secs.length) :
  Calls Tryz.prog 132 #[.agg #[v0,u1,u2,u3,u4],.pointer (some ⟨bf,0,none⟩),.pointer (some ⟨bw,i * 5,none⟩)] w fun e w'=>e = .returned (.tuple #[]) ∧ HeldStep w w' bw N i f b (zcb occ secs h):=by
 have T0:=zaw w 122 #[v0,u1,u2,u3,u4];obtain ⟨a0,c0,rfl,hs0⟩:=hsec;obtain ⟨a1,c1,rfl,ho0⟩:=hocc;have HS:=zaa hs0;have HOC:=zaa ho0;have HIN:=zaa hin;have HPP:=zaa hP;obtain ⟨capb,q0,q1,q2,q3,q4,q5,g,M,hg,hM,hgx⟩:=ho.cells hr hi;clear hs0 ho0 hin hP q0 q1 q3 q4 q5;go_enter Tryz.func132,Tryz.ntmps132;go_wp2;have hbl:=hg.lt;have hwl:=hr.lt;have hne:bw ≠ b:=zbb hr hg (by decide);have B0:But (fun c=>c ≠ b) (w.alloc (.cells #[.slice a0 secs.length c0,u1,u2,u3,u4] 122)) (w.alloc (.cells #[.slice a0 secs.length c0,u1,u2,u3,u4] 122)):=But.refl _ _
 have bx0:(w.alloc (.cells #[.slice a0 secs.length c0,u1,u2,u3,u4] 122)).cell? ⟨w.heap.size,0,none⟩ = some (.slice a0 secs.length c0):=by simp
 have hr0:=hr.alloc (.cells #[.slice a0 secs.length c0,u1,u2,u3,u4] 122);have hg00:=hg.alloc (.cells #[.slice a0 secs.length c0,u1,u2,u3,u4] 122);have hbox0:=zns hbox (zab w (.cells #[.slice a0 secs.length c0,u1,u2,u3,u4] 122));have HB0:=zaa bx0;have HBOX:=zaa hbox0;have HGX:=zaa hgx;have HQ2:=zaa q2;have HBX0:=zaa hbox;have HO:=zaa ho;obtain ⟨W0,hW0⟩:∃ W0,W0 = w.alloc (.cells #[.slice a0 secs.length c0,u1,u2,u3,u4] 122):=⟨_,rfl⟩
 have hz0:W0.heap.size = w.heap.size + 1:=by rw [hW0]; simp
 have HZ0:=zaa hz0;have HW0:=zaa hW0;have RD0:Hid (∀ (c o:Nat) (v:Value),w.cell? ⟨c,o,none⟩ = some v → (w.alloc (.cells #[.slice a0 secs.length c0,u1,u2,u3,u4] 122)).cell? ⟨c,o,none⟩ = some v):=fun c o v hv=>zns hv (zab w _);rw [← hW0] at B0 hr0 hg00 hbox0 bx0 HB0 HBOX T0 RD0 ⊢;clear hgx q2 hbox bx0 hbox0 ho hW0 hz0
 go_loopw [16] (fun z wr=>∃ (k:Nat) (g':Nat → Value),k ≤ secs.length ∧ z = .int .i64 k ∧ But (fun c=>c ≠ b) W0 wr ∧ wr.rowIs b 4 M g' ∧ ∀ (j:Nat) x,h.been[j]? = some x → g' j = .bool (if j < k then x || za1 occ (secs.getD j 0) else x)) (fun z _=>secs.length - (intOf z).toNat)
 case atStart=>exact ⟨0,g,Nat.zero_le _,rfl,B0,hg00,fun j x hx=>by rw [if_neg (by omega)]; exact HGX.out j x hx⟩
 case round=>
  obtain ⟨k,g',hk,rfl,B1,hg1',hgx1⟩:=hrel;have HGX1:=zaa hgx1;clear hgx1 B0;by_cases hlt:k < secs.length
  ·obtain h0 | ⟨bs,os,rfl,hPs,hcs⟩:=HS.out
   ·omega
   obtain ⟨s,hs⟩:=zac secs (zaa rfl) hlt;have hin:=HIN.out s (List.mem_of_getElem? hs);obtain ⟨hin0,hin1⟩:=hin;obtain h0 | ⟨bc,oc,rfl,hPc,hcc⟩:=HOC.out
   ·omega
   obtain ⟨o,ho⟩:∃ o,occ[s.toNat]? = some o:=⟨occ[s.toNat]'(by omega),List.getElem?_eq_getElem _⟩;obtain ⟨y,hy⟩:=zac h.been (zaa hlen) hlt;have s0:=B1.cell (RD0.out _ _ _ (hcs k hlt s hs)) (HPP.out bs hPs).2.2;have o0:=B1.cell (RD0.out _ _ _ (hcc s.toNat (by omega) o ho)) (HPP.out bc hPc).2.2;have x0:=B1.cell HBOX.out hbf.2;have p2:=B1.cell (RD0.out _ _ _ HQ2.out) hne;have gk:=hg1'.cell (i:=k) (by omega);have fk:=hg1'.frozen k
   have hkb:(k:Int) < (h.been.length:Int):=by omega
   have Hs:=zaa hs;have Hoc:=zaa ho;have Hy:=zaa hy;clear hs ho hy hcs hcc
   cases o
   ·go_wp2;go_roundw
    case rel=>exact ⟨k + 1,g',by omega,by go_num,B1,hg1',fun j x hx=>by
     rw [HGX1.out j x hx];by_cases e:j = k
     ·subst e;rw [if_neg (by omega),if_pos (by omega),List.getD_eq_getElem?_getD,Hs.out];simp [zc5 Hoc.out]
     ·by_cases e2:j < k
      ·rw [if_pos e2,if_pos (by omega)]
      ·rw [if_neg e2,if_neg (by omega)]⟩
    case measure=>simp [intOf]; omega
   ·go_wp2;go_roundw
    case rel=>exact ⟨k + 1,_,by omega,by go_num,B1.setCell (fun z=>z rfl) _,hg1'.set k _,fun j x hx=>by
     by_cases e:j = k
     ·subst e;rw [if_pos rfl,if_pos (by omega),List.getD_eq_getElem?_getD,Hs.out];simp [zc5 Hoc.out]
     ·rw [if_neg e,HGX1.out j x hx];by_cases e2:j < k
      ·rw [if_pos e2,if_pos (by omega)]
      ·rw [if_neg e2,if_neg (by omega)]⟩
    case measure=>simp [intOf]; omega
  ·have hbd:∀ (j:Nat) y,(za2 occ secs h.been)[j]? = some y → g' j = .bool y:=fun j y hy=>by
    have hj:j < secs.length:=by
     have:=(List.getElem?_eq_some_iff.1 hy).1;rw [za4 hlen] at this;exact this
    obtain ⟨z,hz⟩:=zac h.been (zaa hlen) hj;obtain ⟨s,hs⟩:=zac secs (zaa rfl) hj;rw [zdy hs hz] at hy
    cases hy
    rw [HGX1.out j z hz,if_pos (by omega),List.getD_eq_getElem?_getD,hs];rfl
   have HBD:=zaa hbd;have hdl:(za2 occ secs h.been).length = secs.length:=za4 hlen;obtain ⟨bd,hbde⟩:∃ bd,bd = za2 occ secs h.been:=⟨_,rfl⟩;have HDE:=zaa hbde;rw [← hbde] at HBD hdl;have HR1:=B1.row hr0 hne;have HB1:=zaa B1;have HHR1:=zaa HR1;clear hbd HGX1 hbde B1 HR1;rename World=>wo;go_wp2
   go_loopw [] (fun wr=>∃ (k:Nat) (f':Nat → Value),k ≤ secs.length ∧ zbd occ secs bd h.gone.toNat = zbd occ secs bd k ∧ But (fun c=>c ≠ bw) wo wr ∧ wr.rowIs bw 93 N f' ∧ f' (i * 5 + 1) = .int .i64 k ∧ ∀ q,q ≠ i * 5 + 1 → f' q = f q) (fun wr=>secs.length - zde wr bw (i * 5 + 1))
   case atStart=>
    exact ⟨h.gone.toNat,f,by omega,rfl,But.refl _ _,HHR1.out,by rw [HO.out.2.1]; congr 1; omega,fun _ _=>rfl⟩
   case round=>
    obtain ⟨k2,f',hk2,hgo,B2,hr2,hfk,hfq⟩:=hrel;have HGO:=zaa hgo;have HFQ:=zaa hfq;have HFK:=zaa hfk;have p1:=hr2.cell (i:=i * 5 + 1) (by omega);rw [hfk] at p1;have hfk2:=hr2.frozen (i * 5 + 1)
    have hcn:zde wr bw (i * 5 + 1) = k2:=by simp [zde,p1,intOf]
    have HCN:=zaa hcn;clear hgo hfq hfk hcn;by_cases hlt2:k2 < secs.length
    ·obtain h0 | ⟨bs,os,rfl,hPs,hcs⟩:=HS.out
     ·omega
     obtain ⟨s,hs⟩:=zac secs (zaa rfl) hlt2;have hin:=HIN.out s (List.mem_of_getElem? hs);obtain ⟨hin0,hin1⟩:=hin;obtain h0 | ⟨bc,oc,rfl,hPc,hcc⟩:=HOC.out
     ·omega
     obtain ⟨o,ho⟩:∃ o,occ[s.toNat]? = some o:=⟨occ[s.toNat]'(by omega),List.getElem?_eq_getElem _⟩;obtain ⟨y,hy⟩:=zac bd (zaa hdl) hlt2;have s0:=B2.cell (HB1.out.cell (RD0.out _ _ _ (hcs k2 hlt2 s hs)) (HPP.out bs hPs).2.2) (HPP.out bs hPs).2.1;have o0:=B2.cell (HB1.out.cell (RD0.out _ _ _ (hcc s.toNat (by omega) o ho)) (HPP.out bc hPc).2.2) (HPP.out bc hPc).2.1;have x0:=B2.cell (HB1.out.cell HBOX.out hbf.2) hbf.1;have x1:=B2.cell (HB1.out.cell HB0.out (by have:=HZ0.out; omega)) (by omega);have p2:=hr2.cell (i:=i * 5 + 2) (by omega);have p20:=HQ2.out;rw [hr.cell (by omega)] at p20;rw [HFQ.out _ (by omega),Option.some.inj p20] at p2;have gk:=(B2.row hg1' hne.symm).cell (i:=k2) (by omega);rw [HBD.out k2 y hy] at gk
     have hkb:(k2:Int) < (h.been.length:Int):=by omega
     have hks:(k2:Int) < (secs.length:Int):=by omega
     have hstop:zkj occ secs bd k2 = false → ∀ {W:World},Below wr.heap.size wr W → HeldStep w W bw N i f b (zcb occ secs h):=fun hno W hW=>by
      have hgd:zbd occ secs bd h.gone.toNat = k2:=HGO.out.trans (zeg (by omega) hno);unfold zcb;rw [← HDE.out,hgd,if_neg (by omega)];exact zoz (by rw [HW0.out]; exact zab _ _) HB1.out (B2.call hW) hne hg1' hM (hdl.trans hlen.symm) HBD.out (zal hr2 hW) HFK.out HFQ.out HO.out
     have hnext:zkj occ secs bd k2 = true → ∀ m:Nat,∃ (k:Nat) (f':Nat → Value),k ≤ secs.length ∧ zbd occ secs bd h.gone.toNat = zbd occ secs bd k ∧ But (fun c=>c ≠ bw) wo ((wr.drewN m).setCell ⟨bw,i * 5 + 1,none⟩ (.int .i64 ((k2:Int) + 1))) ∧ ((wr.drewN m).setCell ⟨bw,i * 5 + 1,none⟩ (.int .i64 ((k2:Int) + 1))).rowIs bw 93 N f' ∧ f' (i * 5 + 1) = .int .i64 k ∧ ∀ q,q ≠ i * 5 + 1 → f' q = f q:=fun hyes m=>
      ⟨k2 + 1,_,by omega,HGO.out.trans (zh8 (by omega) hyes),(B2.call (zan _ _)).setCell (fun z=>z rfl) _,(zal hr2 (zan _ m)).set _ _,by rw [if_pos rfl]; go_num,fun q hq=>by rw [if_neg hq]; exact HFQ.out q hq⟩
     have HNX:=zaa hnext;clear hnext;have HST:=zaa hstop;have Hs:=zaa hs;have Hoc:=zaa (zc5 ho);have Hy:=zaa hy;clear hs ho hy hcs hcc p20 hstop
     cases y
     ·go_wp2
      go_quiet (fail)
      go_wp2;refine bodyPost_ret (v:=.tuple #[]) (by simp [results,Tryz.results132,go_sem]) rfl ⟨rfl,HST.out ?_ (zan _ _)⟩;rw [zd7 Hs.out Hy.out]; rfl
     ·cases o
      ·by_cases hl3:k2 + 1 < secs.length
       ·obtain ⟨z,hz⟩:=zac bd (zaa hdl) hl3;have gz:=(B2.row hg1' hne.symm).cell (i:=k2 + 1) (by omega);rw [HBD.out _ z hz] at gz;have Hz:=zaa hz
        have hl4:(k2:Int) < (secs.length:Int) - 1:=by omega
        have hl5:(k2:Int) + 1 < (h.been.length:Int):=by omega
        clear hz
        cases z
        ·go_wp2
         go_quiet (fail)
         go_wp2;refine bodyPost_ret (v:=.tuple #[]) (by simp [results,Tryz.results132,go_sem]) rfl ⟨rfl,HST.out ?_ (zan _ _)⟩;rw [zff Hs.out Hy.out Hz.out,Hoc.out]; rfl
        ·go_wp2
         go_quiet (fail)
         go_wp2;go_roundw
         case rel=>exact HNX.out (by rw [zff Hs.out Hy.out Hz.out,Hoc.out]; rfl) _
         case measure=>rw [HCN.out,zmd hr2 (by omega)]; omega
       ·have hl4:decide ((k2:Int) < (secs.length:Int) - 1) = false:=by simp; omega
        go_wp2
        go_quiet (fail)
        go_wp2;go_roundw
        case rel=>exact HNX.out (by rw [zkk Hs.out Hy.out (by omega),Hoc.out]; rfl) _
        case measure=>rw [HCN.out,zmd hr2 (by omega)]; omega
      ·go_wp2
       go_quiet (fail)
       go_wp2;refine bodyPost_ret (v:=.tuple #[]) (by simp [results,Tryz.results132,go_sem]) rfl ⟨rfl,HST.out ?_ (zan _ _)⟩;rw [zd7 Hs.out Hy.out,Hoc.out]; rfl
    ·have p20:=HQ2.out;rw [hr.cell (by omega)] at p20
     have p2:f' (i * 5 + 2) = .slice (some ⟨b,0,none⟩) h.been.length capb:=by rw [HFQ.out _ (by omega)]; exact Option.some.inj p20
     have P2:=zaa p2;clear p20 p2
     go_wp2_with fail
     refine (zfx bw N i f' _ h.been.length capb wr hr2 hi P2.out (by omega)).mono ?_;rintro e w3 ⟨rfl,hs3⟩
     have hfin:HeldStep w w3 bw N i f b (zcb occ secs h):=by
      have hgd:zbd occ secs bd h.gone.toNat = bd.length:=(HGO.out.trans (zj3 (by omega))).trans (by omega);unfold zcb;rw [← HDE.out,hgd,if_pos rfl,hdl,← hlen];exact HeldStep.after (zmc (by rw [HW0.out]; exact zab _ _) HB1.out B2) (fun q _ hq=>HFQ.out q (by omega)) (.inl rfl) (hs3 b)
     have HF:=zaa hfin;clear hfin hs3;go_wp2;exact bodyPost_end (v:=.tuple #[]) (by simp [results,Tryz.results132,go_sem]) rfl ⟨rfl,HF.out⟩
end Go.Proofs.YtdhinkgjiapigabGreatDoor
namespace Go.Proofs.YtdhinkgjiapigabGreatDoor
open Go.RowKit Go.Deep
def znm (occ:List Bool) (w:WayD) (h:HeldD):HeldD:=if h.state ≠ 4 ∧ za1 occ (w.sections.getD 0 0) = true then { h with state:=4,timer:=0 } else h
def zep (occ:List Bool) (points:List (Int × Int)) (w:WayD) (h:HeldD):HeldD:=
 if h.state = 1 ∨ h.state = 2 then (if za9 occ points w = true then { h with state:=2,shown:=true } else { h with state:=1 }) else h
def zgk (occ:List Bool) (w:WayD) (h:HeldD):HeldD:=if h.state = 4 then zcb occ w.sections h else h
def zar (occ:List Bool) (points:List (Int × Int)) (w:WayD) (h:HeldD):HeldD:=
 if h.state = 0 then h else zgk occ w (zep occ points w (znm occ w h))
def zbu (ways:List WayD) (d:FrameD):FrameD:={ d with ways:=List.zipWith (zar d.occ d.points) ways d.ways }
theorem zbj {occ points w} {h:HeldD} (e:h.state = 0):zar occ points w h = h:=by unfold zar; rw [if_pos e]
theorem zgu {occ w} {h:HeldD} (e4:h.state ≠ 4) (ho:za1 occ (w.sections.getD 0 0) = true):znm occ w h = { h with state:=4,timer:=0 }:=if_pos ⟨e4,ho⟩
theorem zfl {occ w} {h:HeldD} (ho:za1 occ (w.sections.getD 0 0) = false):znm occ w h = h:=if_neg fun q=>by rw [ho] at q; exact Bool.noConfusion q.2
theorem zpb {occ w} {h:HeldD} (e4:h.state = 4):znm occ w h = h:=if_neg fun q=>q.1 e4
theorem zc1 {occ points w} {h:HeldD} (e1:h.state ≠ 1) (e2:h.state ≠ 2):zep occ points w h = h:=if_neg fun q=>q.elim e1 e2
theorem zmp {occ points w} {h:HeldD} (e:h.state = 1 ∨ h.state = 2) (hp:za9 occ points w = true):zep occ points w h = { h with state:=2,shown:=true }:=by unfold zep; rw [if_pos e,if_pos hp]
theorem zmo {occ points w} {h:HeldD} (e:h.state = 1 ∨ h.state = 2) (hp:za9 occ points w = false):zep occ points w h = { h with state:=1 }:=by unfold zep; rw [if_pos e,if_neg (by rw [hp]; decide)]
theorem zn9 {occ w} {h:HeldD} (e:h.state = 4):zgk occ w h = zcb occ w.sections h:=if_pos e
theorem zi9 {occ w} {h:HeldD} (e:h.state ≠ 4):zgk occ w h = h:=if_neg e
theorem zdo {occ points w} {h:HeldD} (e:h.state ≠ 0) (e4:h.state ≠ 4) (ho:za1 occ (w.sections.getD 0 0) = true):zar occ points w h = zcb occ w.sections { h with state:=4,timer:=0 }:=by
 unfold zar;rw [if_neg e,zgu e4 ho,zc1 (by simp) (by simp),zn9 rfl]
theorem zb9 {occ points w} {h:HeldD} (e4:h.state = 4):zar occ points w h = zcb occ w.sections h:=by
 unfold zar;rw [if_neg (by omega),zpb e4,zc1 (by omega) (by omega),zn9 e4]
theorem zce {occ points w} {h:HeldD} (e:h.state = 1 ∨ h.state = 2) (ho:za1 occ (w.sections.getD 0 0) = false) (hp:za9 occ points w = true):zar occ points w h = { h with state:=2,shown:=true }:=by
 unfold zar;rw [if_neg (by omega),zfl ho,zmp e hp,zi9 (by simp)]
theorem zc8 {occ points w} {h:HeldD} (e:h.state = 1 ∨ h.state = 2) (ho:za1 occ (w.sections.getD 0 0) = false) (hp:za9 occ points w = false):zar occ points w h = { h with state:=1 }:=by
 unfold zar;rw [if_neg (by omega),zfl ho,zmo e hp,zi9 (by simp)]
theorem zda {occ points w} {h:HeldD} (e4:h.state ≠ 4) (e1:h.state ≠ 1) (e2:h.state ≠ 2) (ho:za1 occ (w.sections.getD 0 0) = false):zar occ points w h = h:=by
 by_cases e:h.state = 0
 ·exact zbj e
 ·unfold zar;rw [if_neg e,zfl ho,zc1 e1 e2,zi9 e4]
def SetR (P:Nat → Prop) (W0:World) (v1 v2 v3:Value) (d:FrameD) (ways:List WayD) (bo bp bw:Nat) (i:Nat) (W:World):Prop:=
 ∃ (cur:List HeldD) (bb:Nat → Nat),cur.length = d.ways.length ∧ (∀ (j:Nat) x h,j < i → ways[j]? = some x → d.ways[j]? = some h → cur[j]? = some (zar d.occ d.points x h)) ∧ (∀ j:Nat,i ≤ j → cur[j]? = d.ways[j]?) ∧
  OFrame (fun c=>P c ∨ W0.heap.size ≤ c) W v1 v2 v3 { d with ways:=cur } bo bp bw bb ∧ But (fun c=>¬ P c) W0 W
theorem SetR.next {P:Nat → Prop} {W0:World} {v1 v2 v3:Value} {d:FrameD} {ways:List WayD} {bo bp bw:Nat} {i:Nat} {W W':World} {cur:List HeldD} {bb:Nat → Nat} {x:WayD} {h:HeldD} {f:Nat → Value} {N:Nat}
  (hl:cur.length = d.ways.length) (h1:∀ (j:Nat) x h,j < i → ways[j]? = some x → d.ways[j]? = some h → cur[j]? = some (zar d.occ d.points x h)) (h2:∀ j:Nat,i ≤ j → cur[j]? = d.ways[j]?)
  (hf:OFrame (fun c=>P c ∨ W0.heap.size ≤ c) W v1 v2 v3 { d with ways:=cur } bo bp bw bb) (hb:But (fun c=>¬ P c) W0 W) (hi:i < d.ways.length) (hx:ways[i]? = some x) (hh:d.ways[i]? = some h)
  (hr:W.rowIs bw 93 N f) (hs:HeldStep W W' bw N i f (bb i) (zar d.occ d.points x h)):SetR P W0 v1 v2 v3 d ways bo bp bw (i + 1) W':=by
 obtain ⟨bb',hf',e⟩:=hf.step (Q:=fun c=>P c ∨ W0.heap.size ≤ c) (i:=i) (by show i < cur.length; omega) (x:=zar d.occ d.points x h) (w':=W')
  (fun f' N' hr' _ _=>hs.from hr hr') (fun _ q=>q) (fun c q _=>.inr (Nat.le_trans hb.size q))
 refine ⟨cur.set i (zar d.occ d.points x h),bb',by rw [List.length_set]; exact hl,fun j y g hj hy hg=>?_,fun j hj=>?_,hf',?_⟩
 ·by_cases e2:j = i
  ·subst e2;rw [hx] at hy; rw [hh] at hg
   cases hy; cases hg
   rw [List.getElem?_set_self (by omega)]
  ·rw [List.getElem?_set_ne (Ne.symm e2)];exact h1 j y g (by omega) hy hg
 ·rw [List.getElem?_set_ne (by omega)];exact h2 j (by omega)
 ·refine ⟨e.os.trans hb.os,e.tape.trans hb.tape,e.output.trans hb.output,Nat.le_trans hb.size e.size,fun c hc hk=>?_⟩;refine (e.block c (Nat.lt_of_lt_of_le hc hb.size) ⟨fun q=>?_,fun q=>?_⟩).trans (hb.block c hc hk)
  ·rcases hf.pw (by show cur.length ≠ 0; omega) with z | z
   ·exact hk (q ▸ z)
   ·omega
  ·rcases hf.pb i (by show i < cur.length; omega) with z | z
   ·exact hk (q ▸ z)
   ·omega
theorem SetR.end {P:Nat → Prop} {W0:World} {v1 v2 v3:Value} {d:FrameD} {ways:List WayD} {bo bp bw:Nat} {n:Nat} {W:World} (h:SetR P W0 v1 v2 v3 d ways bo bp bw n W) (hl:d.ways.length = ways.length) (hn:n = ways.length) :
  ∃ bb,OFrame (fun c=>P c ∨ W0.heap.size ≤ c) W v1 v2 v3 (zbu ways d) bo bp bw bb ∧ But (fun c=>¬ P c) W0 W:=by
 obtain ⟨cur,bb,h0,h1,-,hf,hb⟩:=h
 have:cur = List.zipWith (zar d.occ d.points) ways d.ways:=by
  apply List.ext_getElem?;intro j;rw [List.getElem?_zipWith];by_cases hj:j < ways.length
  ·obtain ⟨x,hx⟩:=zac ways (zaa rfl) hj;obtain ⟨y,hy⟩:=zac d.ways (zaa hl) hj;rw [h1 j x y (by omega) hx hy,hx,hy]
  ·rw [List.getElem?_eq_none (by omega),List.getElem?_eq_none (by omega:ways.length ≤ j)]
 rw [this] at hf;exact ⟨bb,hf,hb⟩
end Go.Proofs.YtdhinkgjiapigabGreatDoor
namespace Go.Proofs.YtdhinkgjiapigabGreatDoor
open Go.RowKit Go.Deep
def Fits (ways:List WayD) (d:FrameD):Prop:=
 d.ways.length = ways.length ∧ ways.length ≤ 100 ∧ d.occ.length ≤ 1048576 ∧ d.points.length ≤ 1048576 ∧
 ∀ (i:Nat) x h,ways[i]? = some x → d.ways[i]? = some h → h.been.length = x.sections.length ∧ 0 < x.sections.length ∧ x.Small 30 ∧ 0 ≤ h.gone ∧ h.gone ≤ x.sections.length ∧
  (∀ y,(y ∈ x.lies ∨ y ∈ x.flanks) → 0 ≤ y.1 ∧ y.1 < d.points.length) ∧ ∀ s,(s ∈ x.sections ∨ s ∈ x.over) → 0 ≤ s ∧ s < d.occ.length
set_option maxRecDepth 100000 in
set_option maxHeartbeats 4000000 in
theorem za8 (P Q:Nat → Prop) (n hd ok p1 p2 p3 v1 v2 v3:Value) (d:FrameD) (ways:List WayD) (bo bp bw bf:Nat) (bb:Nat → Nat) (w:World)
  (hp:Ways Q w p2 ways) (hQ:∀ c,Q c → c < w.heap.size ∧ ¬ P c) (hc0:w.cell? ⟨bf,0,none⟩ = some ok) (hc1:w.cell? ⟨bf,1,none⟩ = some v1) (hc2:w.cell? ⟨bf,2,none⟩ = some v2) (hc3:w.cell? ⟨bf,3,none⟩ = some v3) (hbf:¬ P bf)
  (hf:OFrame P w v1 v2 v3 d bo bp bw bb) (hfit:Fits ways d) (hPl:∀ c,P c → c < w.heap.size) :
  Calls Tryz.prog 68 #[.agg #[n,p1,p2,p3,hd],.pointer (some ⟨bf,0,none⟩)] w fun e w'=>e = .returned (.tuple #[]) ∧ ∃ bb',OFrame (fun c=>P c ∨ New w w' c) w' v1 v2 v3 (zbu ways d) bo bp bw bb' ∧ But (fun c=>¬ P c) w w':=by
 obtain ⟨hlen,h100,hol,hpl,hfit⟩:=hfit;have HFIT:=zaa hfit;obtain ⟨a2,k2,rfl,-⟩:=id hp;have HP:=zaa hp;have HQ:=zaa hQ;obtain ⟨g1,N1,q1,rfl,-⟩:=id hf.occ;obtain ⟨a4,q2,rfl,-⟩:=id hf.points;obtain ⟨a3,q3,rfl,-⟩:=id hf.ways;have B00:=zab w (.cells #[n,p1,.slice a2 ways.length k2,p3,hd] 37);have T0:=zaw w 37 #[n,p1,.slice a2 ways.length k2,p3,hd];have hblt:=World.block_lt_of_cell? _ _ hc0;have d0:=ckb hc0 B00;have d1:=ckb hc1 B00;have d2:=ckb hc2 B00;have d3:=ckb hc3 B00
 have start:SetR P (w.alloc (.cells #[n,p1,.slice a2 ways.length k2,p3,hd] 37)) (.slice (some ⟨bo,0,none⟩) d.occ.length q1) (.slice a4 d.points.length q2) (.slice a3 d.ways.length q3) d ways bo bp bw 0 (w.alloc (.cells #[n,p1,.slice a2 ways.length k2,p3,hd] 37)):=
  ⟨d.ways,bb,rfl,fun j _ _ hj=>by omega,fun _ _=>rfl,hf.but (K:=fun _=>True) (But.of_calls B00) (fun _ _=>trivial) fun _ z=>.inl z,But.refl _ _⟩
 have HST:=zaa start;have HF:=zaa hf;clear hfit hp hQ start hf;go_enter Tryz.func68,Tryz.ntmps68;go_wp2;obtain ⟨W0,hW0⟩:∃ W0,W0 = w.alloc (.cells #[n,p1,.slice a2 ways.length k2,p3,hd] 37):=⟨_,rfl⟩
 have e0:W0.cell? ⟨w.heap.size,0,none⟩ = some n:=by rw [hW0]; exact T0.cell (j:=0) (i:=0) rfl rfl
 have e1:W0.cell? ⟨w.heap.size,1,none⟩ = some p1:=by rw [hW0]; exact T0.cell (j:=0) (i:=1) rfl rfl
 have e2:W0.cell? ⟨w.heap.size,2,none⟩ = some (.slice a2 ways.length k2):=by rw [hW0]; exact T0.cell (j:=0) (i:=2) rfl rfl
 have e3:W0.cell? ⟨w.heap.size,3,none⟩ = some p3:=by rw [hW0]; exact T0.cell (j:=0) (i:=3) rfl rfl
 have e4:W0.cell? ⟨w.heap.size,4,none⟩ = some hd:=by rw [hW0]; exact T0.cell (j:=0) (i:=4) rfl rfl
 have hz:W0.heap.size = w.heap.size + 1:=by rw [hW0]; simp
 have HBOX:=zaa (And.intro d0 (And.intro d1 (And.intro d2 (And.intro d3 (And.intro e0 (And.intro e1 (And.intro e2 (And.intro e3 e4))))))));have HB0:=zaa B00;have HZ:=zaa hz;have HNP:Hid (¬ P w.heap.size):=fun z=>absurd (hPl _ z) (Nat.lt_irrefl _);rw [← hW0] at HST HB0 HBOX ⊢;clear d0 d1 d2 d3 e0 e1 e2 e3 e4 B00 T0 hc0 hc1 hc2 hc3 hW0 hz hPl
 go_loopw [12] (fun z wr=>∃ (i:Nat),i ≤ ways.length ∧ z = .int .i64 i ∧ SetR P W0 (.slice (some ⟨bo,0,none⟩) d.occ.length q1) (.slice a4 d.points.length q2) (.slice a3 d.ways.length q3) d ways bo bp bw i wr) (fun z _=>ways.length - (intOf z).toNat)
 case atStart=>exact ⟨0,by omega,rfl,HST.out⟩
 case round=>
  obtain ⟨i,hi,rfl,hset⟩:=hrel;by_cases hlt:i < ways.length
  ·obtain ⟨x,hx⟩:=zac ways (zaa rfl) hlt;obtain ⟨h,hh⟩:=zac d.ways (zaa hlen) hlt;obtain ⟨cur,bb2,hl2,hs1,hs2,hf2,hb2⟩:=hset
   have hlt3:(i:Int) < (d.ways.length:Int):=by omega
   have hlt4:(i:Int) < (ways.length:Int):=by omega
   obtain ⟨m0,m1,m2,m3,m4,m5,m6,m7,m8⟩:=HBOX.out;replace m0:=hb2.cell m0 hbf;replace m1:=hb2.cell m1 hbf;replace m2:=hb2.cell m2 hbf;replace m3:=hb2.cell m3 hbf;replace m4:=hb2.cell m4 HNP.out;replace m5:=hb2.cell m5 HNP.out;replace m6:=hb2.cell m6 HNP.out;replace m7:=hb2.cell m7 HNP.out;replace m8:=hb2.cell m8 HNP.out;obtain ⟨hbe,hpos,hsm,hg0,hg1,hly,hsc⟩:=HFIT.out i x h hx hh;have hcur:cur[i]? = some h:=(hs2 i (Nat.le_refl _)).trans hh
   obtain ⟨f,N,ha3,hr,hN,hHO⟩:∃ f N,a3 = some ⟨bw,0,none⟩ ∧ wr.rowIs bw 93 N f ∧ cur.length * 5 ≤ N ∧ ∀ (j:Nat) y,cur[j]? = some y → HeldO wr f j y (bb2 j):=by
    obtain ⟨a,cap,hv,h0 | ⟨ha,f,N,hr,hN,hHO⟩⟩:=hf2.ways
    ·have h0':cur.length = 0:=h0;omega
    ·injection hv with ea _ _;exact ⟨f,N,ea.trans ha,hr,hN,hHO⟩
   subst ha3;have ho:=hHO i h hcur
   have hiN:i * 5 + 5 ≤ N:=by omega
   have hbwP:∀ c,c < W0.heap.size → ¬ P c → c ≠ bw ∧ c ≠ bb2 i:=fun c hc hk=>by
    refine ⟨fun q=>?_,fun q=>?_⟩
    ·rcases hf2.pw (by show cur.length ≠ 0; omega) with z | z
     ·exact hk (q ▸ z)
     ·omega
    ·rcases hf2.pb i (by show i < cur.length; omega) with z | z
     ·exact hk (q ▸ z)
     ·omega
   have hboP:bo ≠ bw ∧ bo ≠ bb2 i:=by
    obtain ⟨g,M,c,-,hg,-⟩:=hf2.occ;exact ⟨zbb hg hr (by decide),fun q=>hf2.off i (by show i < cur.length; omega) q.symm⟩
   have hbfw:=hbwP bf (by have:=HZ.out; omega) hbf;have hbxw:=hbwP w.heap.size (by have:=HZ.out; omega) HNP.out
   have hsQ:Same Q w wr:=fun c hc o=>by
    have h1:=HQ.out c hc;exact (World.cell?_of_block (w:=W0) (hb2.block c (by have:=HZ.out; omega) h1.2)).trans (HB0.out.cell (p:=⟨c,o,none⟩) h1.1)
   obtain ⟨v0,v1,v2,v3,v4,bq,oq,hway,ha2,r0,r1,r2,r3,r4⟩:∃ v0 v1 v2 v3 v4 bq oq,WayAt Q wr v0 v1 v2 v3 v4 x ∧ a2 = some ⟨bq,oq,none⟩ ∧ wr.cell? ⟨bq,oq + i * 5,none⟩ = some v0 ∧ wr.cell? ⟨bq,oq + i * 5 + 1,none⟩ = some v1 ∧ wr.cell? ⟨bq,oq + i * 5 + 2,none⟩ = some v2 ∧ wr.cell? ⟨bq,oq + i * 5 + 3,none⟩ = some v3 ∧ wr.cell? ⟨bq,oq + i * 5 + 4,none⟩ = some v4:=by
    obtain ⟨a,cap,hv,h0 | ⟨bq,oq,ha,hQb,hcw⟩⟩:=HP.out.keep hsQ fun _ z=>z
    ·omega
    ·cases hv
     obtain ⟨v0,v1,v2,v3,v4,hw,hc⟩:=hcw i hlt x hx;exact ⟨v0,v1,v2,v3,v4,bq,oq,hw,ha,hc⟩
   subst ha2;obtain ⟨hx0,hx1,hx2,hx3,hx4⟩:=id hway;obtain ⟨s,hs⟩:=zac x.sections (zaa rfl) hpos;obtain ⟨hsi0,hsi1⟩:=hsc s (.inl (List.mem_of_getElem? hs));obtain ⟨o,hoc⟩:∃ o,d.occ[s.toNat]? = some o:=⟨d.occ[s.toNat]'(by omega),List.getElem?_eq_getElem _⟩
   have hoA:za1 d.occ (x.sections.getD 0 0) = o:=by rw [List.getD_eq_getElem?_getD,hs]; exact zc5 hoc
   have hOB:=hf2.occ;obtain ⟨a0,c0,rfl,hb0⟩:=id hx0;obtain ⟨aa1,cc1,rfl,-⟩:=id hx1;obtain ⟨aa2,cc2,rfl,-⟩:=id hx2;obtain ⟨aa3,cc3,rfl,-⟩:=id hx3;obtain ⟨aa4,cc4,rfl,-⟩:=id hx4;obtain hb0 | ⟨bs,os,rfl,hQs,hcs⟩:=hb0
   ·omega
   have s0:=hcs 0 hpos s hs
   have o0:wr.cell? ⟨bo,s.toNat,none⟩ = some (.bool o):=by
    obtain ⟨g,M,c,hv,hg,hM,hgx⟩:=hOB;rw [hg.cell (by have:d.occ.length ≤ M:=hM; omega),hgx _ _ hoc]
   obtain ⟨capb,t0,t1,t2,t3,t4,-,-⟩:=ho.cells hr hiN;have BW:=zab wr (.cells #[.slice (some ⟨bs,os,none⟩) x.sections.length c0,.slice aa1 x.lies.length cc1,.slice aa2 x.flanks.length cc2,.slice aa3 x.over.length cc3,.slice aa4 x.near.length cc4] 122);have TW:=zaw wr 122 #[.slice (some ⟨bs,os,none⟩) x.sections.length c0,.slice aa1 x.lies.length cc1,.slice aa2 x.flanks.length cc2,.slice aa3 x.over.length cc3,.slice aa4 x.near.length cc4];have hrW:=hr.alloc (.cells #[.slice (some ⟨bs,os,none⟩) x.sections.length c0,.slice aa1 x.lies.length cc1,.slice aa2 x.flanks.length cc2,.slice aa3 x.over.length cc3,.slice aa4 x.near.length cc4] 122);have hoW:=ho.but (K:=fun _=>True) (But.of_calls BW) trivial
   have fin:∀ W',HeldStep wr W' bw N i f (bb2 i) (zar d.occ d.points x h) → SetR P W0 (.slice (some ⟨bo,0,none⟩) d.occ.length q1) (.slice a4 d.points.length q2) (.slice (some ⟨bw,0,none⟩) d.ways.length q3) d ways bo bp bw (i + 1) W':=
    fun W' hs=>SetR.next hl2 hs1 hs2 hf2 hb2 (by omega) hx hh hr hs
   have y0:=ckb t0 BW;have y1:=ckb t1 BW;have y2:=ckb t2 BW;have y3:=ckb t3 BW;have y4:=ckb t4 BW;have fz0:=hrW.frozen (i * 5);have fz3:=hrW.frozen (i * 5 + 3);have fz4:=hrW.frozen (i * 5 + 4);have n0:=ckb m0 BW;have n1:=ckb m1 BW;have n2:=ckb m2 BW;have n3:=ckb m3 BW;have n4:=ckb m4 BW;have n5:=ckb m5 BW;have n6:=ckb m6 BW;have n7:=ckb m7 BW;have n8:=ckb m8 BW
   have hposI:(0:Int) < (x.sections.length:Int):=by omega
   rw [Nat.add_zero] at s0;have so:=ckb s0 BW;have oo:=ckb o0 BW
   have pass:∀ (W:World) (f':Nat → Value) (h':HeldD),But (fun c=>c ≠ bw) wr W → W.rowIs bw 93 N f' → HeldO W f' i h' (bb2 i) → h'.been = h.been → h'.gone = h.gone →
     Calls Tryz.prog 132 #[.agg #[.slice (some ⟨bs,os,none⟩) x.sections.length c0,.slice aa1 x.lies.length cc1,.slice aa2 x.flanks.length cc2,.slice aa3 x.over.length cc3,.slice aa4 x.near.length cc4],.pointer (some ⟨bf,0,none⟩),.pointer (some ⟨bw,i * 5,none⟩)] W fun e w'=>e = .returned (.tuple #[]) ∧ HeldStep W w' bw N i f' (bb2 i) (zcb d.occ x.sections h'):=fun W f' h' hB hr' ho' eb eg=>by
    have hsame:∀ {R:Nat → Prop},(∀ c,R c → c < wr.heap.size ∧ c ≠ bw) → Same R wr W:=fun hR=>hB.same fun c hc=>hR c hc;refine zm4 (fun c=>c < wr.heap.size ∧ c ≠ bw ∧ c ≠ bb2 i) _ (.slice (some ⟨bo,0,none⟩) d.occ.length q1) _ _ _ _ d.occ x.sections h' bf bw N i (bb2 i) f' W ?_ ?_ (fun c hc=>⟨Nat.lt_of_lt_of_le hc.1 hB.size,hc.2⟩) (hB.cell m1 hbfw.1) hbfw hr' hiN ho' (by rw [eb]; exact hbe) hsm.1 (fun s hs=>hsc s (.inl hs)) hol (by rw [eg]; exact hg0) (by rw [eg]; exact hg1)
    ·exact (hx0.keep (zax _ _) (Q:=fun c=>c < wr.heap.size ∧ c ≠ bw ∧ c ≠ bb2 i) fun c hc=>⟨by have:=(HQ.out c hc).1; have:=HB0.out.size; have:=hb2.size; omega,hbwP c (by have:=(HQ.out c hc).1; have:=HZ.out; omega) (HQ.out c hc).2⟩).keep (hsame fun c hc=>⟨hc.1,hc.2.1⟩) fun _ z=>z
    ·exact (OBools.read (P:=fun c=>c < wr.heap.size ∧ c ≠ bw ∧ c ≠ bb2 i) hOB ⟨hOB.lt,hboP⟩).keep (hsame fun c hc=>⟨hc.1,hc.2.1⟩) fun _ z=>z
   have PASS:=zaa pass;clear pass;have FIN:=zaa fin;have HX:=zaa hx;have HOA:=zaa hoA;clear hs1 hs2 hx hh hcs hoA fin hcur hHO;by_cases z0:h.state = 0
   ·have z0':(h.state == 0) = true:=by simp [z0]
    have Z0:=zaa z0;clear z0;go_wp2;go_roundw
    case rel=>exact ⟨i + 1,by omega,by go_num,FIN.out _ (by rw [zbj Z0.out]; exact HeldStep.none hr ho BW)⟩
    case measure=>simp [intOf]; omega
   have z0':(h.state == 0) = false:=by simp [z0]
   have Z0:=zaa z0;clear z0;have hbww:bw ≠ wr.heap.size:=Nat.ne_of_lt hr.lt;have bwf:=hbfw.1.symm;have bwx:=hbxw.1.symm;have bwo:=hboP.1.symm;by_cases z4:h.state = 4
   ·have z4':(h.state != 4) = false:=by simp [z4]
    have z4'':(h.state == 4) = true:=by simp [z4]
    have z1':(h.state == 1) = false:=by simp [z4]
    have z2':(h.state == 2) = false:=by simp [z4]
    have Z4:=zaa z4;clear z4;go_wp2
    go_quiet (fail)
    have BQ:=BW.trans ((zan (wr.alloc (.cells #[.slice (some ⟨bs,os,none⟩) x.sections.length c0,.slice aa1 x.lies.length cc1,.slice aa2 x.flanks.length cc2,.slice aa3 x.over.length cc3,.slice aa4 x.near.length cc4] 122)) nq).mono BW.size)
    go_wp2_with fail
    refine (PASS.out _ f h (But.of_calls BQ) (zal hr BQ) (ho.but (K:=fun _=>True) (But.of_calls BQ) trivial) rfl rfl).mono ?_;rintro e w3 ⟨rfl,hs3⟩;have hn:=FIN.out w3 (by rw [zb9 Z4.out]; exact HeldStep.after (But.of_calls BQ) (fun _ _ _=>rfl) (.inl rfl) hs3);have HN:=zaa hn;clear hn hs3;go_wp2;go_roundw
    case rel=>exact ⟨i + 1,by omega,by go_num,HN.out⟩
    case measure=>simp [intOf]; omega
   have z4':(h.state != 4) = true:=by simp [z4]
   have Z4:=zaa z4
   cases o
   case true=>
    clear z4;go_wp2
    go_quiet (fail)
    have BQ:=BW.trans ((zan (wr.alloc (.cells #[.slice (some ⟨bs,os,none⟩) x.sections.length c0,.slice aa1 x.lies.length cc1,.slice aa2 x.flanks.length cc2,.slice aa3 x.over.length cc3,.slice aa4 x.near.length cc4] 122)) nq).mono BW.size);have hrQ:=zal hr BQ;have hoQ:=ho.but (K:=fun _=>True) (But.of_calls BQ) trivial;have hoQ1:=hoQ.state hrQ 4;have hrQ1:=hrQ.set (i * 5) (.int .i64 4);have hoQ2:=hoQ1.timer hrQ1 0;have hrQ2:=hrQ1.set (i * 5 + 4) (.int .i64 0);have hBQ:But (fun c=>c ≠ bw) wr ((((wr.alloc (.cells #[.slice (some ⟨bs,os,none⟩) x.sections.length c0,.slice aa1 x.lies.length cc1,.slice aa2 x.flanks.length cc2,.slice aa3 x.over.length cc3,.slice aa4 x.near.length cc4] 122)).drewN nq).setCell ⟨bw,i * 5,none⟩ (.int .i64 4)).setCell ⟨bw,i * 5 + 4,none⟩ (.int .i64 0)):=((But.of_calls BQ).setCell (fun z=>z rfl) _).setCell (fun z=>z rfl) _;have HOQ:=zaa hoQ2;have HRQ:=zaa hrQ2;have HBQ:=zaa hBQ;clear hoQ hrQ hoQ1 hrQ1 hoQ2 hrQ2 hBQ
    go_wp2_with fail
    refine (PASS.out _ _ { h with state:=4,timer:=0 } HBQ.out HRQ.out HOQ.out rfl rfl).mono ?_;rintro e w3 ⟨rfl,hs3⟩
    have hn:=FIN.out w3 (by
     rw [zdo Z0.out Z4.out HOA.out]
     exact HeldStep.after (HBQ.out.mono fun _ _ z=>z.1) (fun q _ hq=>by rw [if_neg (by omega),if_neg (by omega)]) (.inl rfl) hs3)
    have HN:=zaa hn;clear hn hs3;go_wp2;go_roundw
    case rel=>exact ⟨i + 1,by omega,by go_num,HN.out⟩
    case measure=>simp [intOf]; omega
   case false=>
    have z4'':(h.state == 4) = false:=by simp [z4]
    clear z4;by_cases z12:h.state = 1 ∨ h.state = 2
    ·have zz:((h.state == 1) = true) ∨ ((h.state == 1) = false ∧ (h.state == 2) = true):=by
      rcases z12 with e | e
      ·exact .inl (by simp [e])
      ·exact .inr ⟨by simp [e],by simp [e]⟩
     have Z12:=zaa z12;clear z12;rcases zz with zz1 | ⟨zz1,zz2⟩
     all_goals
      go_wp2
      go_quiet (fail)
      have BQ:=BW.trans ((zan (wr.alloc (.cells #[.slice (some ⟨bs,os,none⟩) x.sections.length c0,.slice aa1 x.lies.length cc1,.slice aa2 x.flanks.length cc2,.slice aa3 x.over.length cc3,.slice aa4 x.near.length cc4] 122)) nq).mono BW.size);have hrQ:=zal hr BQ;have hoQ:=ho.but (K:=fun _=>True) (But.of_calls BQ) trivial;have hoQ1:=hoQ.state hrQ 1;have hrQ1:=hrQ.set (i * 5) (.int .i64 1);have hBQ:But (fun c=>c ≠ bw) wr (((wr.alloc (.cells #[.slice (some ⟨bs,os,none⟩) x.sections.length c0,.slice aa1 x.lies.length cc1,.slice aa2 x.flanks.length cc2,.slice aa3 x.over.length cc3,.slice aa4 x.near.length cc4] 122)).drewN nq).setCell ⟨bw,i * 5,none⟩ (.int .i64 1)):=(But.of_calls BQ).setCell (fun z=>z rfl) _;have HOQ:=zaa hoQ1;have HRQ:=zaa hrQ1;have HBQ:=zaa hBQ;clear hoQ hrQ hoQ1 hrQ1 hBQ;go_wp2;generalize hX:World.setCell (World.drewN _ nq) _ _ = X at HOQ HRQ HBQ ⊢;have hneX:=Ext.any X;have E0:=Ext.cell (HBQ.out.cell m0 hbfw.1);have E1:=Ext.cell (HBQ.out.cell m1 hbfw.1);have E2:=Ext.cell (HBQ.out.cell m2 hbfw.1);have E3:=Ext.cell (HBQ.out.cell m3 hbfw.1);have E4:=Ext.cell (HBQ.out.cell m4 hbxw.1);have E5:=Ext.cell (HBQ.out.cell m5 hbxw.1);have E6:=Ext.cell (HBQ.out.cell m6 hbxw.1);have E7:=Ext.cell (HBQ.out.cell m7 hbxw.1);have E8:=Ext.cell (HBQ.out.cell m8 hbxw.1)
      have hq:∀ nn:Ext X,Calls Tryz.prog 106 #[.agg #[n,p1,.slice (some ⟨bq,oq,none⟩) ways.length k2,p3,hd],.agg #[ok,.slice (some ⟨bo,0,none⟩) d.occ.length q1,.slice a4 d.points.length q2,.slice (some ⟨bw,0,none⟩) ways.length q3],.int .i64 i] nn.w fun e w'=>e = .returned (.bool (za9 d.occ d.points x)) ∧ Below nn.w.heap.size nn.w w':=fun nn=>by
       have hsX:Same (fun c=>c < wr.heap.size ∧ c ≠ bw) wr nn.w:=(HBQ.out.same fun c hc=>hc).trans (za0 nn.below fun c hc=>Nat.lt_of_lt_of_le hc.1 HBQ.out.size);have hin:∀ c,c < wr.heap.size ∧ c ≠ bw → In nn.w c:=fun c hc=>Nat.lt_of_lt_of_le hc.1 (Nat.le_trans HBQ.out.size nn.below.size);refine zka n hd ok p1 _ p3 _ _ _ ways d i x nn.w ?_ ?_ ?_ HX.out h100 hsm hly hsc ⟨hpl,hol⟩
       ·exact ((HP.out.keep hsQ fun _ z=>z).keep (zax _ _) (Q:=fun c=>c < wr.heap.size ∧ c ≠ bw) fun c hc=>⟨by have:=(HQ.out c hc).1; have:=HB0.out.size; have:=hb2.size; omega,(hbwP c (by have:=(HQ.out c hc).1; have:=HZ.out; omega) (HQ.out c hc).2).1⟩).keep hsX hin
       ·exact (OBools.read (P:=fun c=>c < wr.heap.size ∧ c ≠ bw) hOB ⟨hOB.lt,hboP.1⟩).keep hsX hin
       ·refine (OPoints.read (P:=fun c=>c < wr.heap.size ∧ c ≠ bw) hf2.points fun z=>?_).keep hsX hin;obtain ⟨_,_,_,h0 | ⟨_,g,M,hg,_⟩⟩:=hf2.points
        ·exact absurd h0 z
        ·exact ⟨hg.lt,zbb hg hr (by decide)⟩
      have HQQ:=zaa hq;clear hq
      cases hpv:za9 d.occ d.points x
      ·rw [hpv] at HQQ;have HPV:=zaa hpv;clear hpv;refine zaj (by kernel_rfl) (by kernel_rfl) ?_
       repeat (go_big_quiet_step ((go_at_call 106; exact zaz (HQQ.out _))))
       refine wpQuiet_nil ?_;rintro _ ⟨nn,rfl⟩;have hrN:=zal HRQ.out nn.below;have u0:=hrN.cell (i:=i * 5) (by omega);rw [if_pos rfl] at u0;clear hrN;go_wp2;go_roundw
       case rel=>exact ⟨i + 1,by omega,by go_num,FIN.out _ (by
        rw [zc8 Z12.out HOA.out HPV.out]
        exact HeldStep.after (HBQ.out.mono fun _ _ z=>z.1) (fun q _ hq=>by rw [if_neg (by omega)]) (.inl rfl) (HeldStep.none HRQ.out HOQ.out nn.below))⟩
       case measure=>simp [intOf]; omega
      ·rw [hpv] at HQQ;have HPV:=zaa hpv;clear hpv;refine zaj (by kernel_rfl) (by kernel_rfl) ?_
       repeat (go_big_quiet_step ((go_at_call 106; exact zaz (HQQ.out _))))
       refine wpQuiet_nil ?_;rintro _ ⟨nn,rfl⟩;have hrN:=zal HRQ.out nn.below;have hoN:=HOQ.out.but (K:=fun _=>True) (But.of_calls nn.below) trivial;have u0:=hrN.cell (i:=i * 5) (by omega);have u3:=hrN.cell (i:=i * 5 + 3) (by omega);have w0:=hrN.frozen (i * 5);have w3:=hrN.frozen (i * 5 + 3)
       have hn:HeldStep wr ((nn.w.setCell ⟨bw,i * 5,none⟩ (.int .i64 2)).setCell ⟨bw,i * 5 + 3,none⟩ (.bool true)) bw N i f (bb2 i) { h with state:=2,shown:=true }:=by
        refine HeldStep.after (f1:=fun j=>if j = i * 5 then .int .i64 1 else f j) (HBQ.out.mono fun _ _ z=>z.1) (fun q _ hq=>by rw [if_neg (by omega)]) (.inl rfl) ?_;refine HeldStep.after (But.of_calls nn.below) (fun _ _ _=>rfl) (.inl rfl) ?_;have h5:=HeldStep.store (q:=i * 5 + 3) (hrN.set (i * 5) (.int .i64 2)) (by omega) ((hoN.state hrN 2).shown (hrN.set (i * 5) (.int .i64 2)) true);exact HeldStep.after ((But.refl _ _).setCell (fun z=>z.1 rfl) _) (fun q _ hq=>by rw [if_neg (by omega)]) (.inl rfl) h5
       have HN:=zaa hn;clear hrN hoN hn;go_wp2;go_roundw
       case rel=>exact ⟨i + 1,by omega,by go_num,FIN.out _ (by
        rw [zce Z12.out HOA.out HPV.out]
        exact HN.out)⟩
       case measure=>simp [intOf]; omega
    ·have z1':(h.state == 1) = false:=by simp; omega
     have z2':(h.state == 2) = false:=by simp; omega
     have Z12:=zaa z12;clear z12;go_wp2
     go_quiet (fail)
     have BQ:=BW.trans ((zan (wr.alloc (.cells #[.slice (some ⟨bs,os,none⟩) x.sections.length c0,.slice aa1 x.lies.length cc1,.slice aa2 x.flanks.length cc2,.slice aa3 x.over.length cc3,.slice aa4 x.near.length cc4] 122)) nq).mono BW.size);go_wp2;go_roundw
     case rel=>exact ⟨i + 1,by omega,by go_num,FIN.out _ (by
      rw [zda Z4.out (fun z=>Z12.out (.inl z)) (fun z=>Z12.out (.inr z)) HOA.out]
      exact HeldStep.none hr ho BQ)⟩
     case measure=>simp [intOf]; omega
  ·have hfin:∃ bb',OFrame (fun c=>P c ∨ New w wr c) wr (.slice (some ⟨bo,0,none⟩) d.occ.length q1) (.slice a4 d.points.length q2) (.slice a3 d.ways.length q3) (zbu ways d) bo bp bw bb' ∧ But (fun c=>¬ P c) w wr:=by
    obtain ⟨bb',hf',hb'⟩:=hset.end hlen (by omega);exact ⟨bb',hf'.bound fun c hc hl=>hc.imp id fun z=>⟨by have:=HZ.out; omega,hl⟩,(But.of_calls HB0.out).trans hb'⟩
   have HFI:=zaa hfin;clear hfin hset;go_wp2;exact bodyPost_end (v:=.tuple #[]) (by simp [results,Tryz.results68,go_sem]) rfl ⟨rfl,HFI.out⟩
end Go.Proofs.YtdhinkgjiapigabGreatDoor
