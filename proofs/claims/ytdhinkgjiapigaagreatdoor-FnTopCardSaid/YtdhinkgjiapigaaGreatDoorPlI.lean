import Derived.Test.YtdhinkgjiapigaaGreatDoorSpec7
import Derived.Test.YtdhinkgjiapigaaGreatDoorWantA
import Derived.Test.YtdhinkgjiapigaaGreatDoorColl
import Derived.Test.YtdhinkgjiapigaaGreatDoorLocksA
namespace Go.Proofs.YtdhinkgjiapigaaGreatDoor
open Classical
def zub (p:aK) (d:aF) (s:Int) (i:Nat):Bool:=match p.aB[i]?,d.aB[i]? with
 | some x,some h=>(x.aA.drop h.gone.toNat).any (· == s)
 | _,_=>false
def zud (p:aK) (d:aF) (s:Int) (i:Nat):Bool:=match p.aB[i]?,d.aB[i]? with
 | some x,some h=>iP x h s
 | _,_=>false
theorem Ju {p:aK}{d:aF}{s:Int}{i:Nat}{x:aT}{h:aM}(b:p.aB[i]?=some x) (a:d.aB[i]?=some h):zub p d s i=(x.aA.drop h.gone.toNat).any (· == s):=by
 unfold zub; rw[b,a]
theorem Er (p:aK) (d:aF) (s:Int) (i:Nat):zud p d s i=(zub p d s i&&uC d.aB i):=by
 unfold zud zub uC
 cases p.aB[i]? with
 | none=>rfl
 | some x=>
  cases d.aB[i]? with
  | none=>rfl
  | some h=>show iP x h s=_; unfold iP; rw[Bool.and_comm]; rfl
theorem zF {p:aK}{d:aF}(h:cJ p d) {i:Nat}{x:aT}{g:aM}(e:p.aB[i]?=some x) (c:d.aB[i]?=some g):0<=g.gone∧g.gone<x.aA.length:=by
 have:=(h.2.2.2.2.2.2.1 i (List.getElem?_eq_some_iff.1 c).1 x g e c).1;obtain⟨a,b⟩:=this.2.2.1;exact⟨a,by omega⟩
def vX (p:aK) (d:aF) (q:Nat) (i:Nat):Bool:=match p.aB[i]?,d.aB[i]? with
 | some x,some h=>uB p.aE x h q
 | _,_=>false
theorem Cq {p:aK}{d:aF}{q i:Nat}{x:aT}{h:aM}(b:p.aB[i]?=some x) (a:d.aB[i]?=some h):vX p d q i=uB p.aE x h q:=by
 unfold vX; rw[b,a]
theorem D7 {α:Type}{f:α->Bool}{l:List α}(h:l.any f=true):∃y,l.find? f=some y:=by
 cases e:l.find? f with
 | none=>
  rw[List.find?_eq_none] at e;obtain⟨y,b,a⟩:=List.any_eq_true.1 h;exact absurd a (by simpa using e y b)
 | some y=>exact⟨y,rfl⟩
theorem DI {α:Type}{f:α->Bool}{l:List α}(h:l.any f=false):l.find? f=none:=by
 rw[List.find?_eq_none];intro y b a;rw[List.any_eq_true.2 ⟨y,b,a⟩] at h
 cases h
theorem Hu {b:List Int}{x:aT}{h:aM}{q:Nat}(d:h.state≠0) (g:∀y,(y∈x.aQ∨y∈x.aJ)->1<=y.2):decide (0<oJ b x h q)=uB b x h q:=by
 unfold uB
 cases hf:x.aJ.any (fun y=>y.1 == (q:Int)) with
 | true=>
  obtain⟨y,e⟩:=D7 hf;rw[C8 d e];have:=g y (.inr (List.mem_of_find?_eq_some e));simp; omega
 | false=>
  have a:=DI hf
  have f:((q:Int)).toNat=q:=by simp
  cases hk:(x.aA.drop h.gone.toNat).any (· == b.getD q 0) with
  | false=>
   have:x.aQ.find? (fun y=>y.1 == (q:Int)&&iP x h (b.getD ((q:Int)).toNat 0))=none:=by
    rw[List.find?_eq_none];intro y _;rw[f];unfold iP;rw[hk]; simp
   rw[A9 d a this];simp
  | true=>
   have c:iP x h (b.getD q 0)=true:=by unfold iP; rw[hk]; simp[d]
   cases ha:x.aQ.any (fun y=>y.1 == (q:Int)) with
   | true=>
    obtain⟨y,e⟩:=D7 ha
    have:x.aQ.find? (fun y=>y.1 == (q:Int)&&iP x h (b.getD ((q:Int)).toNat 0))=some y:=by
     rw[f,c]; simpa using e
    rw[Cp d a this];have:=g y (.inl (List.mem_of_find?_eq_some e));simp; omega
   | false=>
    have i:=DI ha
    have:x.aQ.find? (fun y=>y.1 == (q:Int)&&iP x h (b.getD ((q:Int)).toNat 0))=none:=by
     rw[f,c]; simpa using i
    rw[A9 d a this];simp
theorem GN {p:aK}{d:aF}(e:cJ p d) (q:Nat):((gI d.aB d.aB.length).filter (vX p d q)).map (fun i:Nat=>(i:Int))=gS p d q:=by
 unfold gS gI;rw[List.filter_filter,e.2.2.2.2.1];congr 1;apply List.filter_congr;intro i hi;rw[List.mem_range] at hi;obtain⟨x,g⟩:=bG p.aB (aD rfl) hi;obtain⟨h,f⟩:=bG d.aB (aD e.2.2.2.2.1) hi;rw[Cq g f,xI f];unfold pR;rw[g,f];by_cases c:h.state=0
 ·show _=decide (0<oJ p.aE x h q);rw[A8 c]; simp[c]
 ·show _=decide (0<oJ p.aE x h q);rw[Hu c fun y k=>?_]
  ·simp[c]
  ·have b:=e.1.way g;rcases k with z | z
   ·obtain⟨j,a⟩:=List.getElem?_of_mem z;exact (b.2.2.2.2.1.1 j (List.getElem?_eq_some_iff.1 a).1 y a).1.2.1
   ·obtain⟨j,a⟩:=List.getElem?_of_mem z;exact (b.2.2.2.2.2.1.1 j (List.getElem?_eq_some_iff.1 a).1 y a).1.2.1
section
open Go.Deep Go.RowKit Go.Shelf
theorem DG (l:List Nat):oL l=dD (l.map fun i:Nat=>(i:Int)):=by unfold oL dD; rw[List.map_map]; rfl
set_option maxRecDepth 100000 in
set_option maxHeartbeats 8000000 in
theorem Aj (p1 Y p3 f1 f2 f3:Value) (p:aK) (d:aF) (q:Nat) (w:World) (O:aZ (In w) w p1 Y p3 p) (hc:cE (In w) w Y p.aB) (N:bB (In w) w f1 f2 f3 d) (hs:p.Small 1048576) (hd:d.Small 1048576) (M:cJ p d) (hq:q<p.aE.length) :
  Calls Tryz.prog 60 #[.agg #[.int .i64 p.aA,p1,Y,p3,.int .i64 p.aI],.agg #[.bool d.ok,f1,f2,f3],.int .i64 (q:Int)] w fun e w'=>∃v,e=.returned v∧Below w.heap.size w w'∧∃m,w'.ownsRow w.heap.size 3 1 v m (dD (gS p d q)):=by
 have r:=eB w 27 40 #[.int .i64 p.aA,p1,Y,p3,.int .i64 p.aI] #[.bool d.ok,f1,f2,f3];have KI:=aD fun (W:World) (h:Below w.heap.size w W)=>O.1.keep (Q:=In W) (In.keep h).1 (In.keep h).2;have KC:=aD fun (W:World) (h:Below w.heap.size w W)=>hc.keep (Q:=In W) (In.keep h).1 (In.keep h).2;have KH:=aD fun (W:World) (h:Below w.heap.size w W)=>N.2.2.keep (Q:=In W) (In.keep h).1 (In.keep h).2;obtain⟨z,C,rfl⟩:=O.1.size;obtain⟨A,D,rfl⟩:=O.2.1.size;obtain⟨B,E,rfl⟩:=O.2.2.size;obtain⟨k,a,rfl⟩:=N.1.size;obtain⟨l,c,rfl⟩:=N.2.1.size;obtain⟨o3,f,rfl⟩:=N.2.2.size;have HS:=aD hs;have HD:=aD hd;have aG:=aD M
 have P:Calls Tryz.prog 56 #[.agg #[.bool d.ok,.slice k d.aH.length a,.slice l d.aC.length c,.slice o3 d.aB.length f]] ((w.alloc (.cells #[.int .i64 p.aA,.slice z p.aE.length C,.slice A p.aB.length D,.slice B p.aO.length E,.int .i64 p.aI] 27)).alloc (.cells #[.bool d.ok,.slice k d.aH.length a,.slice l d.aC.length c,.slice o3 d.aB.length f] 40)).drew fun e u=>e=.returned (.func (.func 99) #[] #[.pointer (some ⟨w.heap.size+1+1,0,none⟩)])∧u=((w.alloc (.cells #[.int .i64 p.aA,.slice z p.aE.length C,.slice A p.aB.length D,.slice B p.aO.length E,.int .i64 p.aI] 27)).alloc (.cells #[.bool d.ok,.slice k d.aH.length a,.slice l d.aC.length c,.slice o3 d.aB.length f] 40)).drew.alloc (.cells #[.bool d.ok,.slice k d.aH.length a,.slice l d.aC.length c,.slice o3 d.aB.length f] 40)∧bD w [(27,#[.int .i64 p.aA,.slice z p.aE.length C,.slice A p.aB.length D,.slice B p.aO.length E,.int .i64 p.aI]),(40,#[.bool d.ok,.slice k d.aH.length a,.slice l d.aC.length c,.slice o3 d.aB.length f])] u:=by
  refine (Ah _ _ _ _ _).mono ?_;rintro e u ⟨rfl,rfl⟩;exact⟨by simp,rfl,(r.call (cT _)).call (bC _ _)⟩
 have HQ:=aD P
 have I:∀u n,u=((w.alloc (.cells #[.int .i64 p.aA,.slice z p.aE.length C,.slice A p.aB.length D,.slice B p.aO.length E,.int .i64 p.aI] 27)).alloc (.cells #[.bool d.ok,.slice k d.aH.length a,.slice l d.aC.length c,.slice o3 d.aB.length f] 40)).drew.alloc (.cells #[.bool d.ok,.slice k d.aH.length a,.slice l d.aC.length c,.slice o3 d.aB.length f] 40)->n=(u.alloc (.cells #[.func (.func 99) #[] #[.pointer (some ⟨w.heap.size+1+1,0,none⟩)]] 96)).alloc (.cells #[.func (.func 102) #[.agg #[.int .i64 p.aA,.slice z p.aE.length C,.slice A p.aB.length D,.slice B p.aO.length E,.int .i64 p.aI,.bool d.ok,.slice k d.aH.length a,.slice l d.aC.length c,.slice o3 d.aB.length f,.int .i64 (q:Int)]] #[]] 99) ->
   Calls Tryz.prog 101 #[.func (.func 98) #[] #[.pointer (some ⟨u.heap.size,0,none⟩),.pointer (some ⟨u.heap.size+1,0,none⟩)]] n fun e w'=>∃v,e=.returned v∧Below w.heap.size w w'∧∃m,w'.ownsRow w.heap.size 3 1 v m (dD (gS p d q)):=fun u n s t=>by
  have a9:u.heap.size=w.heap.size+3:=by rw[s]; simp
  have H:=iE ((w.alloc (.cells #[.int .i64 p.aA,.slice z p.aE.length C,.slice A p.aB.length D,.slice B p.aO.length E,.int .i64 p.aI] 27)).alloc (.cells #[.bool d.ok,.slice k d.aH.length a,.slice l d.aC.length c,.slice o3 d.aB.length f] 40)).drew 40 96 99 #[.bool d.ok,.slice k d.aH.length a,.slice l d.aC.length c,.slice o3 d.aB.length f] #[.func (.func 99) #[] #[.pointer (some ⟨w.heap.size+1+1,0,none⟩)]] #[.func (.func 102) #[.agg #[.int .i64 p.aA,.slice z p.aE.length C,.slice A p.aB.length D,.slice B p.aO.length E,.int .i64 p.aI,.bool d.ok,.slice k d.aH.length a,.slice l d.aC.length c,.slice o3 d.aB.length f,.int .i64 (q:Int)]] #[]];rw[← s,← t] at H
  have a8:((w.alloc (.cells #[.int .i64 p.aA,.slice z p.aE.length C,.slice A p.aB.length D,.slice B p.aO.length E,.int .i64 p.aI] 27)).alloc (.cells #[.bool d.ok,.slice k d.aH.length a,.slice l d.aC.length c,.slice o3 d.aB.length f] 40)).drew.heap.size=w.heap.size+2:=by simp
  have aJ:n.heap.size=w.heap.size+5:=by rw[t]; simp; omega
  have Tc:=(r.call (cT _)).call H.below;have o:=Tc.below;have T:=H.c 0 0 rfl rfl;have U:=H.c 0 1 rfl rfl;have V:=H.c 0 2 rfl rfl;have X:=H.c 0 3 rfl rfl;have cV:=H.c 1 0 rfl rfl;have cK:=H.c 2 0 rfl rfl;rw[a8] at T U V X cV cK;have hl:d.aB.length=p.aB.length:=M.2.2.2.2.1
  have K:∀x W,x∈gI d.aB d.aB.length->Below n.heap.size n W->Calls Tryz.prog 102 ((#[.agg #[.int .i64 p.aA,.slice z p.aE.length C,.slice A p.aB.length D,.slice B p.aO.length E,.int .i64 p.aI,.bool d.ok,.slice k d.aH.length a,.slice l d.aC.length c,.slice o3 d.aB.length f,.int .i64 (q:Int)]]:Array Value).push (.int .i64 (x:Int))) W fun e W'=>e=.returned (.bool (vX p d q x))∧Below W.heap.size W W':=fun x W hx hW=>by
   have hB:Below w.heap.size w W:=o.trans (hW.mono o.size);have a7:=(xQ hx).1;obtain⟨y,S⟩:=bG p.aB (aD rfl) (show x<p.aB.length by omega);obtain⟨g,hg⟩:=bG d.aB (aD rfl) a7;obtain⟨q1,q2⟩:=zF M S hg;rw[Cq S hg];exact GM _ _ _ _ _ _ _ _ _ p.aE p.aB d.aB x y g q W (KI.out W hB) (KC.out W hB) (KH.out W hB) ⟨_,_,_,rfl⟩ ⟨_,_,_,rfl⟩ ⟨_,_,_,rfl⟩ ⟨_,rfl⟩ ⟨_,rfl⟩ ⟨_,rfl⟩ S hg HS.out.2.1 HD.out.2.2.1 (HS.out.2.2.1 y (List.mem_of_getElem? S)) q1 q2 hq HS.out.1
  have a6:=AX 99 102 #[.pointer (some ⟨w.heap.size+1+1,0,none⟩)] #[.agg #[.int .i64 p.aA,.slice z p.aE.length C,.slice A p.aB.length D,.slice B p.aO.length E,.int .i64 p.aI,.bool d.ok,.slice k d.aH.length a,.slice l d.aC.length c,.slice o3 d.aB.length f,.int .i64 (q:Int)]] n.heap.size 0 (w.heap.size+2+1) (w.heap.size+2+2) (gI d.aB d.aB.length) (vX p d q) n (by omega) (by omega) (Nat.le_refl _)
   (enters_of Tryz.func99 (by kernel_rfl) rfl) (enters_of Tryz.func102 (by kernel_rfl) rfl) cV cK
   (AZ _ _ _ _ d.aB n.heap.size (w.heap.size+1+1) n (by omega) (Nat.le_refl _) T U V X ((KH.out n o).keep (hU _ _) fun b hb=>hb) HD.out.2.2.1) K
  rw[a9];refine (A6 98 _ n.heap.size (3+0) ((gI d.aB d.aB.length).filter (vX p d q)) n (enters_of Tryz.func98 (by kernel_rfl) rfl) (Nat.le_refl _) (Nat.le_trans (List.length_filter_le _ _) (Nat.le_trans (List.length_filter_le _ _) (by rw[List.length_range]; exact HD.out.2.2.1))) a6).mono ?_;rintro e w5 ⟨v,rfl,G,J⟩;rw[DG,GN M] at J;exact⟨v,rfl,o.trans (G.mono o.size),_,nV J o.size⟩
 have L:=aD I;clear P I hs hd O hc N M;have b0:=r.c 0 0 rfl rfl;have b1:=r.c 0 1 rfl rfl;have b2:=r.c 0 2 rfl rfl;have b3:=r.c 0 3 rfl rfl;have b4:=r.c 0 4 rfl rfl;have e0:=r.c 1 0 rfl rfl;have e1:=r.c 1 1 rfl rfl;have e2:=r.c 1 2 rfl rfl;have e3:=r.c 1 3 rfl rfl;rw[Nat.add_zero] at b0 b1 b2 b3 b4;go_enter Tryz.func60,Tryz.ntmps60;go_wp2
 go_region_with (first | (go_at_call 56; refine HQ.out.mono ?_; rintro e u ⟨rfl,s,F⟩; have a4:=aD s; clear s; have T:=F.c 0 0 rfl rfl; have U:=F.c 0 1 rfl rfl; have V:=F.c 0 2 rfl rfl; have X:=F.c 0 3 rfl rfl; have k4:=F.c 0 4 rfl rfl; rw[Nat.add_zero] at T U V X k4; have l0:=F.c 1 0 rfl rfl; have l1:=F.c 1 1 rfl rfl; have l2:=F.c 1 2 rfl rfl; have l3:=F.c 1 3 rfl rfl) | (go_at_call 55; refine (Ab _ _ _ _ _).mono ?_; rintro e n ⟨rfl,t⟩; have a5:=aD t; clear t) | (go_at_call 101; refine (L.out _ _ a4.out a5.out).mono ?_; rintro e w5 ⟨v,rfl,G,R⟩; have Z:=aD G; have a0:=aD R; clear G R))
 all_goals
  go_wp2;go_ret;exact⟨v,rfl,Z.out,a0.out⟩
end
end Go.Proofs.YtdhinkgjiapigaaGreatDoor
