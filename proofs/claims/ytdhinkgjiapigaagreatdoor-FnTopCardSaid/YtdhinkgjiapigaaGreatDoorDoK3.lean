import Derived.Test.YtdhinkgjiapigaaGreatDoorDoI6
import Derived.Test.YtdhinkgjiapigaaGreatDoorDoI9
import Derived.Test.YtdhinkgjiapigaaGreatDoorDoK1
namespace Go.Proofs.YtdhinkgjiapigaaGreatDoor
open Classical
section
open Go.Deep Go.RowKit
set_option maxRecDepth 100000 in
set_option maxHeartbeats 4000000 in
theorem Iy (P:Nat->Prop) (p1 T p3 v1 v2 v3:Value) (p:aK) (d:aF) (k:Nat) (a:Int) (bo bp bw:Nat) (bb:Nat->Nat) (w:World) (O:aZ (In w) w p1 T p3 p) (hc:cE (In w) w T p.aB) (hf:aP P w v1 v2 v3 d bo bp bw bb) (hs:p.Small 1048576) (R:d.Small 1048576) (Z:cJ p d) (hk:k<p.aE.length) :
  Calls Tryz.prog 167 #[.agg #[.int .i64 p.aA,p1,T,p3,.int .i64 p.aI],.agg #[.bool d.ok,v1,v2,v3],.agg #[.int .i64 6,.int .i64 (k:Int),.int .i64 a]] w fun e w'=>kD P w v1 v2 v3 bo bp bw (cO p d 6 (k:Int) a) e w':=by
 have f:=iE w 27 40 55 #[.int .i64 p.aA,p1,T,p3,.int .i64 p.aI] #[.bool d.ok,v1,v2,v3] #[.int .i64 6,.int .i64 (k:Int),.int .i64 a];have l:=(hf.bound (Q:=In w) fun _ _ h=>h).read;have KP:=aD fun (W:World) (h:Below w.heap.size w W)=>O.keep (Q:=In W) (In.keep h).1 (In.keep h).2;have KC:=aD fun (W:World) (h:Below w.heap.size w W)=>hc.keep (Q:=In W) (In.keep h).1 (In.keep h).2;have KF:=aD fun (W:World) (h:Below w.heap.size w W)=>l.keep (Q:=In W) (In.keep h).1 (In.keep h).2;have X:=aD fun (W:World) (h:Below w.heap.size w W)=>hf.but (K:=fun _=>True) (Q:=P) (But.aG h) (fun _ _=>trivial) fun _ z=>z;obtain⟨a1,c1,rfl⟩:=O.1.size;obtain⟨a2,c2,rfl⟩:=O.2.1.size;obtain⟨a3,c3,rfl⟩:=O.2.2.size;obtain⟨o1,m1,rfl⟩:=l.1.size;obtain⟨o2,m2,rfl⟩:=l.2.1.size;obtain⟨o3,m3,rfl⟩:=l.2.2.size;have HS:=aD hs;have HD:=aD R;have y:=aD Z;have F:=aD Z.2.2.2.1;have aO:p.aE.length<=1048576:=hs.1;have aM:d.aH.length<=1048576:=R.1;have aN:d.aC.length<=1048576:=R.2.1
 have L:cO p d 6 (k:Int) a=mW p d k a:=by simp[cO]
 have g:=aD L;clear hs R O hf l hc Z L;go_enter Tryz.func167,Tryz.ntmps167;have b0:=f.c 0 0 rfl rfl;have b1:=f.c 0 1 rfl rfl;have b2:=f.c 0 2 rfl rfl;have b3:=f.c 0 3 rfl rfl;have b4:=f.c 0 4 rfl rfl;have e0:=f.c 1 0 rfl rfl;have Y:=f.c 1 1 rfl rfl;have e2:=f.c 1 2 rfl rfl;have e3:=f.c 1 3 rfl rfl;have y0:=f.c 2 0 rfl rfl;have V:=f.c 2 1 rfl rfl;have y2:=f.c 2 2 rfl rfl;rw[Nat.add_zero] at b0 b1 b2 b3 b4
 go_wp2_with fail
 refine (Aj _ _ _ _ _ _ p d k _ (KP.out _ f.below) (KC.out _ f.below) (KF.out _ f.below) HS.out HD.out y.out hk).mono ?_;clear b0 b1 b2 b3 b4 e0 Y e2 e3 y0 V y2;rintro e wV ⟨vp,rfl,J,S,C⟩
 have N:S=(gS p d (k:Int)).length:=by have:=C.1; rw[tP] at this; omega
 obtain⟨a5,a6,rfl⟩:=zag C;have m:=f.call J;have G:=aD N;clear C N J f;by_cases hm:0<S
 case pos=>
  have aL:(0:Int)<(S:Int):=by omega
  have E:=aD (show cO p d 6 (k:Int) a=(2,d) by rw[g.out]; unfold mW; rw[if_pos (by rw[← G.out]; exact hm)]);clear hm;go_wp2;go_ret;exact kD.of E.out (X.out _ m.below) (But.aG m.below)
 obtain rfl:S=0:=by omega
 obtain⟨U,s⟩:=bG p.aE (aD rfl) hk;have D:bN U 0 (p.aA-1):=Classical.byContradiction fun e=>y.out.1.parts.2.1 k ⟨U,s,e⟩;obtain⟨x,rfl⟩:∃t:Nat,U=t:=⟨U.toNat,by have:=D.1; omega⟩
 have a0:x<d.aH.length:=by have:=D.2; have:=y.out.2.2.1; omega
 obtain⟨o,ho⟩:=bG d.aH (aD rfl) a0
 have M:eA d.aH (p.aE.getD k 0)=o:=by
  rw[List.getD_eq_getElem?_getD,s];unfold eA;show (match d.aH[((x:Int)).toNat]? with | some b=>b | none=>false)=o;rw[show ((x:Int)).toNat=x by simp,ho]
 have H:=aD (show mW p d k a=if o=true then (3,d) else (0,{ d with aC:=kB d.aC k fun v=>(a,v.2) }) by unfold mW; rw[if_neg (by rw[← G.out]; omega),M]);obtain⟨bs,os,cs,e5,-,gs⟩:=BO (KP.out _ m.below).1 s;obtain⟨bq,oo,cq,e4,-,go⟩:=xO (KF.out _ m.below).1 ho
 cases e4
 cases e5
 have x1:=m.c 0 1 rfl rfl;have z1:=m.c 1 1 rfl rfl;have V:wV.cell? ⟨w.heap.size+1+1,1,none⟩=some (.int .i64 (k:Int)):=m.c 2 1 rfl rfl;rw[Nat.add_zero] at x1
 have aJ:(k:Int)<(p.aE.length:Int):=by omega
 have a8:(0:Int)<=(k:Int):=Int.natCast_nonneg _
 have aQ:(x:Int)<(d.aH.length:Int):=by omega
 have a4:(0:Int)<=(x:Int):=Int.natCast_nonneg _;have n:=m.call (cT _);clear D ho s M hm
 go_wp2_with fail
 go_region_held3 (fun w'=>w'.cell? ⟨w.heap.size+1,1,none⟩=some (.slice (some ⟨bq,oo,none⟩) d.aH.length m1)∧w'.cell? ⟨w.heap.size,1,none⟩=some (.slice (some ⟨bs,os,none⟩) p.aE.length c1)∧w'.cell? ⟨w.heap.size+1+1,1,none⟩=some (.int .i64 (k:Int))∧w'.cell? ⟨bs,os+k,none⟩=some (.int .i64 (x:Int))∧w'.cell? ⟨bq,oo+x,none⟩=some (.bool o)) (go_keep) (fail)
 obtain⟨W6,I⟩:∃W,W=wV.drew:=⟨_,rfl⟩;rw[← I] at n ⊢;clear I x1 V z1 gs go m
 cases o
 case true=>
  have E:=aD (show cO p d 6 (k:Int) a=(3,d) by rw[g.out,H.out]; rfl);go_wp2;go_ret;exact kD.of E.out (X.out _ n.below) (But.aG n.below)
 obtain⟨v,r⟩:=bG d.aC (aD F.out) hk;have B:=X.out _ n.below;obtain⟨a7,Y,g0,g1,z0,z1⟩:=B.aC.cells r
 cases Y
 have u:kB d.aC k (fun v=>(a,v.2))=d.aC.set k (if 0=0 then (a,v.2) else (v.1,a)):=by rw[uZ _ r]; rfl
 obtain⟨q,A⟩:=B.put r 0 (by omega) a;rw[← u] at q;simp only[Nat.add_zero] at q A;have HX:=aD q;have HB:=aD ((But.aG (K:=fun c=>¬P c) n.below).trans A);have E:=aD (show cO p d 6 (k:Int) a=(0,{ d with aC:=kB d.aC k fun v=>(a,v.2) }) by rw[g.out,H.out]; rfl);have V:W6.cell? ⟨w.heap.size+1+1,1,none⟩=some (.int .i64 (k:Int)):=n.c 2 1 rfl rfl;have y2:W6.cell? ⟨w.heap.size+1+1,2,none⟩=some (.int .i64 a):=n.c 2 2 rfl rfl;have e2:=n.c 1 2 rfl rfl
 have a9:(k:Int)<(d.aC.length:Int):=by have:=F.out; omega
 clear q A r u B n;go_wp2;go_ret;exact kD.of E.out HX.out HB.out
theorem Tryz.AF (w:World):(Instr.index 208 (.agg #[.nilFunc,.func (.func 162) #[] #[],.func (.func 163) #[] #[],.func (.func 164) #[] #[],.func (.func 165) #[] #[],.func (.func 166) #[] #[],.func (.func 167) #[] #[],.func (.func 168) #[] #[]]) (.int .i64 1)).run Tryz.prog w=.ok (.func (.func 162) #[] #[]) w:=by kernel_rfl
theorem Tryz.AG (w:World):(Instr.index 208 (.agg #[.nilFunc,.func (.func 162) #[] #[],.func (.func 163) #[] #[],.func (.func 164) #[] #[],.func (.func 165) #[] #[],.func (.func 166) #[] #[],.func (.func 167) #[] #[],.func (.func 168) #[] #[]]) (.int .i64 2)).run Tryz.prog w=.ok (.func (.func 163) #[] #[]) w:=by kernel_rfl
theorem Tryz.AH (w:World):(Instr.index 208 (.agg #[.nilFunc,.func (.func 162) #[] #[],.func (.func 163) #[] #[],.func (.func 164) #[] #[],.func (.func 165) #[] #[],.func (.func 166) #[] #[],.func (.func 167) #[] #[],.func (.func 168) #[] #[]]) (.int .i64 3)).run Tryz.prog w=.ok (.func (.func 164) #[] #[]) w:=by kernel_rfl
theorem Tryz.AI (w:World):(Instr.index 208 (.agg #[.nilFunc,.func (.func 162) #[] #[],.func (.func 163) #[] #[],.func (.func 164) #[] #[],.func (.func 165) #[] #[],.func (.func 166) #[] #[],.func (.func 167) #[] #[],.func (.func 168) #[] #[]]) (.int .i64 4)).run Tryz.prog w=.ok (.func (.func 165) #[] #[]) w:=by kernel_rfl
theorem Tryz.AJ (w:World):(Instr.index 208 (.agg #[.nilFunc,.func (.func 162) #[] #[],.func (.func 163) #[] #[],.func (.func 164) #[] #[],.func (.func 165) #[] #[],.func (.func 166) #[] #[],.func (.func 167) #[] #[],.func (.func 168) #[] #[]]) (.int .i64 5)).run Tryz.prog w=.ok (.func (.func 166) #[] #[]) w:=by kernel_rfl
theorem Tryz.AK (w:World):(Instr.index 208 (.agg #[.nilFunc,.func (.func 162) #[] #[],.func (.func 163) #[] #[],.func (.func 164) #[] #[],.func (.func 165) #[] #[],.func (.func 166) #[] #[],.func (.func 167) #[] #[],.func (.func 168) #[] #[]]) (.int .i64 6)).run Tryz.prog w=.ok (.func (.func 167) #[] #[]) w:=by kernel_rfl
theorem Tryz.AL (w:World):(Instr.index 208 (.agg #[.nilFunc,.func (.func 162) #[] #[],.func (.func 163) #[] #[],.func (.func 164) #[] #[],.func (.func 165) #[] #[],.func (.func 166) #[] #[],.func (.func 167) #[] #[],.func (.func 168) #[] #[]]) (.int .i64 7)).run Tryz.prog w=.ok (.func (.func 168) #[] #[]) w:=by kernel_rfl
def lK (op:Int):FuncId:=
 if op=1 then 162 else if op=2 then 163 else if op=3 then 164 else if op=4 then 165 else if op=5 then 166 else if op=6 then 167 else 168
set_option maxRecDepth 100000 in
set_option maxHeartbeats 2000000 in
theorem Fo (a:Int) (b:1<=a) (c:a<=7) (w:World):Calls Tryz.prog 115 #[.int .i64 a] w fun e w'=>e=.returned (.func (.func (lK a)) #[] #[])∧Below w.heap.size w w':=by
 have d:=Below.refl w.heap.size w
 obtain rfl | rfl | rfl | rfl | rfl | rfl | rfl:a=1∨a=2∨a=3∨a=4∨a=5∨a=6∨a=7:=by omega
 ·have hi:=Tryz.AF;clear b c;go_enter Tryz.func115,Tryz.ntmps115;go_wp2;go_ret;exact⟨rfl,d⟩
 ·have hi:=Tryz.AG;clear b c;go_enter Tryz.func115,Tryz.ntmps115;go_wp2;go_ret;exact⟨rfl,d⟩
 ·have hi:=Tryz.AH;clear b c;go_enter Tryz.func115,Tryz.ntmps115;go_wp2;go_ret;exact⟨rfl,d⟩
 ·have hi:=Tryz.AI;clear b c;go_enter Tryz.func115,Tryz.ntmps115;go_wp2;go_ret;exact⟨rfl,d⟩
 ·have hi:=Tryz.AJ;clear b c;go_enter Tryz.func115,Tryz.ntmps115;go_wp2;go_ret;exact⟨rfl,d⟩
 ·have hi:=Tryz.AK;clear b c;go_enter Tryz.func115,Tryz.ntmps115;go_wp2;go_ret;exact⟨rfl,d⟩
 ·have hi:=Tryz.AL;clear b c;go_enter Tryz.func115,Tryz.ntmps115;go_wp2;go_ret;exact⟨rfl,d⟩
end
theorem Ch {n:Nat}{s:bL}(h:iF n s):iG (bO n s)=some s:=by
 cases s using bL.by with
 | idle=>rfl
 | set b=>rfl
 | clear=>rfl
 | taking t=>rfl
 | used g l b=>
  show some (bL.used g (pad (l.take n)) b)=some (.used g l b);rw[← h.2.2.2]
theorem vK {p:aK}{d:aF}(a:cJ p d) {i:Nat}{x:aT}{h:aM}(e:p.aB[i]?=some x) (c:d.aB[i]?=some h):∃s,iG h=some s∧pU p.aI x.aA.length s∧iF x.aA.length s∧bO x.aA.length s=h:=by
 have b:=tV a.1 a.2.2.1 a.2.2.2.1 a.2.2.2.2.1 a.2.2.2.2.2.2.1;exact yC (b.2.2.2.2 i x h e c).2.2.1.1 (a.2.2.2.2.2.2.1 i (List.getElem?_eq_some_iff.1 c).1 x h e c).1
theorem Di {p:aK}{d:aF}(e:cJ p d):Stand p.aB d:=fun _ _ _ g f=>by
 obtain⟨s,a,-,b,c⟩:=vK e g f
 exact⟨s,a,b,c⟩
theorem Stand.aB {aB:List aT}{d e:aF}(h:Stand aB d) (a:e.aB=d.aB):Stand aB e:=fun i x g c b=>h i x g c (a ▸ b)
theorem Stand.put {aB:List aT}{d e:aF}(h:Stand aB d) {k:Nat}{x:aT}(j:aB[k]?=some x) {s:bL}(c:iF x.aA.length s) (f:e.aB=d.aB.set k (bO x.aA.length s)):Stand aB e:=fun i z g b a=>by
 rw[f] at a
 rcases zjp a with ⟨rfl,rfl⟩ | ⟨-,a⟩
 ·rw[j] at b
  cases b
  exact⟨s,Ch c,c,rfl⟩
 ·exact h i z g b a
theorem Al {p:aK}{d:aF}{i:Nat}{x:aT}{h:aM}(e:kQ p d i x h=0):h.state=0:=by
 unfold kQ pT at e;by_cases z:h.state=0
 ·exact z
 ·rw[if_pos (by simp[z])] at e
  cases e
theorem Cn {n:Nat}{s:bL}{h:aM}(c:bO n s=h) (a:h.state=0):h=bO n .idle:=by
 subst c
 cases s using bL.by with
 | idle=>rfl
 | set b=>cases a
 | clear=>cases a
 | taking t=>cases a
 | used g l b=>cases a
theorem IK {n:Nat}{s:bL}{h:aM}{aI:Int}(d:bO n s=h) (c:pU aI n s) (a:h.aL.length=n):∃s',iF n s->iF n s'∧bO n s'=dW h:=by
 subst d
 cases s using bL.by with
 | taking t=>
  refine⟨rB t,fun _=>⟨?_,?_⟩⟩
  ·unfold rB; split <;> trivial
  ·have f:1<=t:=c.1;unfold dW rB;rw[if_pos (show (bO n (.taking t)).state=3 from rfl)];by_cases e:t<=1
   ·rw[if_pos e,if_pos (show (bO n (.taking t)).aN-1=0 by show t-1=0; omega),a]; rfl
   ·rw[if_neg e,if_neg (show ¬(bO n (.taking t)).aN-1=0 by show ¬t-1=0; omega)]; rfl
 | idle=>exact⟨.idle,fun z=>⟨z,by unfold dW; rw[if_neg (show ¬(bO n (.idle)).state=3 from (by decide:¬(0:Int)=3))]⟩⟩
 | set b=>exact⟨.set b,fun z=>⟨z,by unfold dW; rw[if_neg (show ¬(bO n (.set b)).state=3 from (by decide:¬(1:Int)=3))]⟩⟩
 | clear=>exact⟨.clear,fun z=>⟨z,by unfold dW; rw[if_neg (show ¬(bO n (.clear)).state=3 from (by decide:¬(2:Int)=3))]⟩⟩
 | used g l b=>exact⟨.used g l b,fun z=>⟨z,by unfold dW; rw[if_neg (show ¬(bO n (.used g l b)).state=3 from (by decide:¬(4:Int)=3))]⟩⟩
theorem I6 {p:aK}{d:aF}(c:cJ p d) (z of q:Int):Stand p.aB (cO p d z of q).2:=by
 have h:=Di c;have j:=tV c.1 c.2.2.1 c.2.2.2.1 c.2.2.2.2.1 c.2.2.2.2.2.2.1;unfold cO;split
 ·split
  ·rename_i x g a k
   obtain⟨s,-,-,m,n⟩:=vK c a k;unfold oN;split
   ·rename_i e
    refine h.put a (s:=.set false) trivial ?_;rw[Cn n (Al e)];rfl
   ·exact h
  ·exact h
 split
 ·split
  ·rename_i x g a k
   obtain⟨s,-,-,m,n⟩:=vK c a k;have y:=(j.2.2.2.2 _ x g a k).1;unfold jP;split
   ·rename_i e
    unfold iO;split
    ·rename_i r
     refine h.put a (s:=.taking p.aI) trivial ?_
     have u:g.aR=true:=by
      rw[Bool.and_eq_true] at r;exact r.1
     subst n
     cases s using bL.by with
     | idle=>rcases e with e | e <;> cases e
     | set b=>
      have:b=true:=u;subst this;rfl
     | clear=>rfl
     | taking t=>rcases e with e | e <;> cases e
     | used g l b=>rcases e with e | e <;> cases e
    ·refine h.put a (s:=.idle) trivial ?_;rw[y];rfl
   ·exact h
  ·exact h
 split
 ·exact h.aB rfl
 split
 ·exact h.aB rfl
 split
 ·exact h.aB rfl
 split
 ·unfold mW;split
  ·exact h
  split
  ·exact h
  ·exact h.aB rfl
 ·intro i x g a k;change (d.aB.map dW)[i]?=some g at k;rw[List.getElem?_map] at k;obtain⟨v,o,rfl⟩:=Option.map_eq_some_iff.1 k;obtain⟨s,-,w,m,n⟩:=vK c a o;obtain⟨A,f⟩:=IK n w (j.2.2.2.2 i x v a o).1;exact⟨A,by rw[← (f m).2]; exact Ch (f m).1,(f m).1,(f m).2⟩
theorem GU {p:aK}{d:aF}(a:cJ p d) (i:Nat) (h:aM) (b:d.aB[i]?=some h) (e:h.state=3):1<=h.aN∧h.aN<=1048576:=by
 obtain⟨x,j⟩:=bG p.aB (aD rfl) (show i<p.aB.length by have:=(List.getElem?_eq_some_iff.1 b).1; have:=a.2.2.2.2.1; omega);have f:=(a.2.2.2.2.2.2.1 i (List.getElem?_eq_some_iff.1 b).1 x h j b).1;have c:=(f.2.2.2.2.2.1 e).2;have g:=a.1.parts.1.2.2.2;exact⟨c.1,by have:=c.2; have:=g.2; omega⟩
theorem Gv {p:aK}{d:aF}(c:cJ p d) {i:Nat}{x:aT}{h:aM}(f:p.aB[i]?=some x) (e:d.aB[i]?=some h) (a:h.state=0):h=bO x.aA.length .idle:=by
 obtain⟨s,-,-,-,b⟩:=vK c f e;exact Cn b a
theorem BA {p:aK}{d:aF}(b:cJ p d):∀x∈d.aB,0<x.aL.length:=fun h c=>by
 obtain⟨i,hi⟩:=List.getElem?_of_mem c
 obtain⟨x,e⟩:=bG p.aB (aD rfl) (show i<p.aB.length by have:=(List.getElem?_eq_some_iff.1 hi).1; have:=b.2.2.2.2.1; omega)
 have a:=(tV b.1 b.2.2.1 b.2.2.2.1 b.2.2.2.2.1 b.2.2.2.2.2.2.1).2.2.2.2 i x h e hi
 have:=a.1
 have:=a.2.1
 omega
section
open Go.Deep Go.RowKit
theorem IL (P Q:Nat->Prop) (n g o v1 v2 v3:Value) (p:aK) (d:aF) (D of f:Int) (i j l:Nat) (bb:Nat->Nat) (w:World)
  (A:aZ (In w) w n g o p) (C:cE (In w) w g p.aB) (H:eY Q w g p.aB) (G:∀c,Q c->c<w.heap.size∧¬P c) (t:aP P w v1 v2 v3 d i j l bb) (B:p.Small 1048576) (r:d.Small 1048576) (b:cJ p d) (L:fI p.aA p.aE.length p.aB.length D of f) (v:∀c,P c->c<w.heap.size) :
  Calls Tryz.prog (lK D) #[.agg #[.int .i64 p.aA,n,g,o,.int .i64 p.aI],.agg #[.bool d.ok,v1,v2,v3],.agg #[.int .i64 D,.int .i64 of,.int .i64 f]] w fun e w'=>kD P w v1 v2 v3 i j l (cO p d D of f) e w':=by
 have q:=tV b.1 b.2.2.1 b.2.2.2.1 b.2.2.2.2.1 b.2.2.2.2.2.2.1;rcases L with ⟨E,a,rfl⟩ | ⟨F,a,rfl⟩ | ⟨rfl,a,z⟩ | ⟨rfl,a,z⟩ | ⟨rfl,rfl,rfl⟩
 ·obtain⟨k,rfl⟩:∃k:Nat,of=k:=⟨of.toNat,by have:=a.1; omega⟩
  have m:k<p.aB.length:=by have:=a.2; omega
  obtain⟨x,u⟩:=bG p.aB (aD rfl) m;obtain⟨h,y⟩:=bG d.aB (aD b.2.2.2.2.1) m;obtain⟨f1,I,J,O,R,K,S⟩:=q.2.2.2.2 k x h u y;rcases E with rfl | rfl
  ·rw[show lK 1=162 by simp[lK]];exact zqt P Q n g o v1 v2 v3 p d k x h i j l bb w A C H G t u y (Gv b u y) J I K B r b v
  ·rw[show lK 2=163 by simp[lK]];obtain⟨s,M,-,T,N⟩:=vK b u y;exact GK P Q _ _ n g o v1 v2 v3 p d k x h s i j l bb w H G t u y M N f1 J I (fun s B=>by rw[b.2.2.1]; exact (b.1.way u).2.2.2.1.mem B) B.2.1 r.2.2.1 r.1
 ·obtain⟨k,rfl⟩:∃k:Nat,of=k:=⟨of.toNat,by have:=a.1; omega⟩
  have m:k<d.aH.length:=by have:=a.2; have:=b.2.2.1; omega
  rcases F with rfl | rfl
  ·rw[show lK 3=164 by simp[lK]];exact Gs P _ n g o _ _ v1 v2 v3 p d k i j l bb w t m r.1
  ·rw[show lK 4=165 by simp[lK]];exact IV P _ n g o _ _ v1 v2 v3 p d k i j l bb w t m r.1
 ·obtain⟨k,rfl⟩:∃k:Nat,of=k:=⟨of.toNat,by have:=a.1; omega⟩
  have m:k<d.aC.length:=by have:=a.2; have:=b.2.2.2.1; omega
  rw[show lK 5=166 by simp[lK]];exact IU P _ n g o _ _ v1 v2 v3 p d k f i j l bb w t m r.2.1
 ·obtain⟨k,rfl⟩:∃k:Nat,of=k:=⟨of.toNat,by have:=a.1; omega⟩
  have m:k<p.aE.length:=by have:=a.2; omega
  rw[show lK 6=167 by simp[lK]];exact Iy P n g o v1 v2 v3 p d k f i j l bb w A C t B r b m
 ·rw[show lK 7=168 by simp[lK]];exact I9 P Q _ _ _ n g o v1 v2 v3 p d i j l bb w H G t q (Di b) v (GU b)
theorem JN (p:aK) (d:aF) (b of a:Int):(cO p d b of a).2.ok=d.ok:=by
 unfold cO;split
 ·split
  ·unfold oN; split <;> rfl
  ·rfl
 split
 ·split
  ·unfold jP; split <;> rfl
  ·rfl
 split
 ·rfl
 split
 ·rfl
 split
 ·rfl
 split
 ·unfold mW; split
  ·rfl
  split <;> rfl
 ·rfl
theorem IM (a:Int) (b:1<=a) (c:a<=7) (args:Array Value) (w:World):(callFunc (lK a) args).run Tryz.prog w=.ok (.enter (lK a) args) w:=by
 obtain rfl | rfl | rfl | rfl | rfl | rfl | rfl:a=1∨a=2∨a=3∨a=4∨a=5∨a=6∨a=7:=by omega
 ·kernel_rfl
 ·kernel_rfl
 ·kernel_rfl
 ·kernel_rfl
 ·kernel_rfl
 ·kernel_rfl
 ·kernel_rfl
set_option maxRecDepth 100000 in
set_option maxHeartbeats 8000000 in
theorem Gm (p1 p2 p3 f1 f2 f3:Value) (p:aK) (d:aF) (l of a:Int) (w:World) (hp:aZ (In w) w p1 p2 p3 p) (bI:cE (In w) w p2 p.aB) (hf:bB (In w) w f1 f2 f3 d) (hs:p.Small 1048576) (hd:d.Small 1048576) (hR:cJ p d) (hE:fI p.aA p.aE.length p.aB.length l of a) :
  Calls Tryz.prog 68 #[.agg #[.int .i64 p.aA,p1,p2,p3,.int .i64 p.aI],.agg #[.bool d.ok,f1,f2,f3],.agg #[.int .i64 l,.int .i64 of,.int .i64 a]] w fun e w'=>∃u1 u2 u3,e=.returned (.agg #[.int .i64 (jR p d l of a).1,.bool (jR p d l of a).2.ok,u1,u2,u3])∧Below w.heap.size w w'∧∃bo bp bw bb,aP (New w w') w' u1 u2 u3 (jR p d l of a).2 bo bp bw bb:=by
 have KP:=aD fun (W:World) (h:Below w.heap.size w W)=>hp.keep (Q:=In W) (In.keep h).1 (In.keep h).2;have KQ:=aD fun (W:World) (h:Below w.heap.size w W)=>hp.2.1.keep (Q:=In w) (In.keep h).1 fun _ z=>z;have KC:=aD fun (W:World) (h:Below w.heap.size w W)=>bI.keep (Q:=In W) (In.keep h).1 (In.keep h).2;have KF:=aD fun (W:World) (h:Below w.heap.size w W)=>hf.keep (Q:=In W) (In.keep h).1 (In.keep h).2;obtain⟨a1,c1,rfl⟩:=hp.1.size;obtain⟨a2,c2,rfl⟩:=hp.2.1.size;obtain⟨a3,c3,rfl⟩:=hp.2.2.size;obtain⟨o1,m1,rfl⟩:=hf.1.size;obtain⟨o2,m2,rfl⟩:=hf.2.1.size;obtain⟨o3,m3,rfl⟩:=hf.2.2.size;have T0:=B9 w 27 40 55 42 #[.int .i64 p.aA,.slice a1 p.aE.length c1,.slice a2 p.aB.length c2,.slice a3 p.aO.length c3,.int .i64 p.aI] #[.bool d.ok,.slice o1 d.aH.length m1,.slice o2 d.aC.length m2,.slice o3 d.aB.length m3] #[.int .i64 l,.int .i64 of,.int .i64 a] #[.int .i64 0,.bool false,.slice none 0 0,.slice none 0 0,.slice none 0 0]
 have L:1<=l∧l<=7:=by
  rcases hE with ⟨h,-⟩ | ⟨h,-⟩ | ⟨h,-⟩ | ⟨h,-⟩ | ⟨h,-⟩ <;> omega
 have HS:=aD hs;have HD:=aD hd;have Y:=aD hR;have HE:=aD hE
 have ho:0<d.aH.length:=by have:=hR.2.2.1; have:=hR.1.parts.1.1.1; omega
 have hB:=CK _ _ _ d _ (KF.out _ T0.below) hd ho (BA hR);have HB:=aD hB;clear hp bI hf hs hd hR hE hB;go_enter Tryz.func68,Tryz.ntmps68
 go_wp2_with fail
 refine HB.out.mono ?_;rintro e M ⟨u1,u2,u3,bo,bp,bw,bb,rfl,a6,hF⟩;clear HB;have T1:=T0.call a6
 have bQ:((((w.alloc (.cells #[.int .i64 p.aA,.slice a1 p.aE.length c1,.slice a2 p.aB.length c2,.slice a3 p.aO.length c3,.int .i64 p.aI] 27)).alloc (.cells #[.bool d.ok,.slice o1 d.aH.length m1,.slice o2 d.aC.length m2,.slice o3 d.aB.length m3] 40)).alloc (.cells #[.int .i64 l,.int .i64 of,.int .i64 a] 55)).alloc (.cells #[.int .i64 0,.bool false,.slice none 0 0,.slice none 0 0,.slice none 0 0] 42)).heap.size=w.heap.size+4:=by simp
 have HF:Hid (aP (fun c=>w.heap.size+4<=c∧c<M.heap.size) M u1 u2 u3 d bo bp bw bb):=hF.bound fun c n hl=>⟨by have:=n.1; omega,hl⟩;obtain⟨g1,N1,U,rfl,-⟩:=id hF.aH;obtain⟨N,V,rfl,-⟩:=id hF.aC;obtain⟨O,X,rfl,-⟩:=id hF.aB
 have bH:w.heap.size+4<=M.heap.size:=by have:=a6.size; omega
 clear a6 hF T0 bQ;have TN:=cZ M 40 #[.bool d.ok,.slice (some ⟨bo,0,none⟩) d.aH.length U,.slice N d.aC.length V,.slice O d.aB.length X];have H:=bC M (.cells #[.bool d.ok,.slice (some ⟨bo,0,none⟩) d.aH.length U,.slice N d.aC.length V,.slice O d.aB.length X] 40);have y:=T1.call H
 go_upto_region 2 with fail
 obtain⟨r,a0⟩:∃r,r=M.alloc (.cells #[.bool d.ok,.slice (some ⟨bo,0,none⟩) d.aH.length U,.slice N d.aC.length V,.slice O d.aB.length X] 40):=⟨_,rfl⟩
 have bR:r.heap.size=M.heap.size+1:=by rw[a0]; simp
 rw[← a0] at TN H y ⊢;obtain⟨f,I⟩:∃f,f=M.heap.size:=⟨_,rfl⟩;clear a0
 have bL:Hid (aP (fun c=>w.heap.size+4<=c∧c<f) r (.slice (some ⟨bo,0,none⟩) d.aH.length U) (.slice N d.aC.length V) (.slice O d.aB.length X) d bo bp bw bb):=by
  show aP _ _ _ _ _ _ _ _ _ _;rw[I];exact HF.out.but (K:=fun _=>True) (But.aG H) (fun _ _=>trivial) fun _ z=>z
 have bG:∀W,But (fun c=>¬(w.heap.size+4<=c∧c<f)) r W->W.cell? ⟨w.heap.size,0,none⟩=some (.int .i64 p.aA)∧W.cell? ⟨w.heap.size,1,none⟩=some (.slice a1 p.aE.length c1)∧W.cell? ⟨w.heap.size,2,none⟩=some (.slice a2 p.aB.length c2)∧W.cell? ⟨w.heap.size,3,none⟩=some (.slice a3 p.aO.length c3)∧W.cell? ⟨w.heap.size,4,none⟩=some (.int .i64 p.aI)∧W.cell? ⟨w.heap.size+2,0,none⟩=some (.int .i64 l)∧W.cell? ⟨w.heap.size+2,1,none⟩=some (.int .i64 of)∧W.cell? ⟨w.heap.size+2,2,none⟩=some (.int .i64 a)∧W.cell? ⟨f,0,none⟩=some (.bool d.ok)∧W.cell? ⟨f,1,none⟩=some (.slice (some ⟨bo,0,none⟩) d.aH.length U)∧W.cell? ⟨f,2,none⟩=some (.slice N d.aC.length V)∧W.cell? ⟨f,3,none⟩=some (.slice O d.aB.length X):=fun W hW=>by
  have e0:w.heap.size+0=w.heap.size:=rfl;have x0:∀(i:Nat) v,r.cell? ⟨w.heap.size+0,i,none⟩=some v->W.cell? ⟨w.heap.size,i,none⟩=some v:=fun i v hv=>hW.cell hv (by omega);have x2:∀(i:Nat) v,r.cell? ⟨w.heap.size+2,i,none⟩=some v->W.cell? ⟨w.heap.size+2,i,none⟩=some v:=fun i v hv=>hW.cell hv (by omega)
  have xn:∀(i:Nat) v,r.cell? ⟨M.heap.size+0,i,none⟩=some v->W.cell? ⟨f,i,none⟩=some v:=fun i v hv=>by rw[I]; exact hW.cell hv (by omega)
  exact⟨x0 _ _ (y.c 0 0 rfl rfl),x0 _ _ (y.c 0 1 rfl rfl),x0 _ _ (y.c 0 2 rfl rfl),x0 _ _ (y.c 0 3 rfl rfl),x0 _ _ (y.c 0 4 rfl rfl),x2 _ _ (y.c 2 0 rfl rfl),x2 _ _ (y.c 2 1 rfl rfl),x2 _ _ (y.c 2 2 rfl rfl),xn _ _ (TN.c 0 0 rfl rfl),xn _ _ (TN.c 0 1 rfl rfl),xn _ _ (TN.c 0 2 rfl rfl),xn _ _ (TN.c 0 3 rfl rfl)⟩
 have KS:=aD bG;have aM:Hid (∃g,r.rowIs (w.heap.size+3) 42 5 g):=⟨_,y.row 3 _ _ rfl⟩;have F:=aD y.below
 have bS:w.heap.size+4<=f∧f<r.heap.size:=by omega
 rw[← I] at ⊢;clear bG TN H y T1 HF I bR bH;refine mV (S:=fun W=>W.cell? ⟨w.heap.size,0,none⟩=some (.int .i64 p.aA)∧W.cell? ⟨w.heap.size,1,none⟩=some (.slice a1 p.aE.length c1)∧W.cell? ⟨w.heap.size,2,none⟩=some (.slice a2 p.aB.length c2)∧W.cell? ⟨w.heap.size,3,none⟩=some (.slice a3 p.aO.length c3)∧W.cell? ⟨w.heap.size,4,none⟩=some (.int .i64 p.aI)∧W.cell? ⟨w.heap.size+2,0,none⟩=some (.int .i64 l)∧W.cell? ⟨w.heap.size+2,1,none⟩=some (.int .i64 of)∧W.cell? ⟨w.heap.size+2,2,none⟩=some (.int .i64 a)∧W.cell? ⟨f,0,none⟩=some (.bool d.ok)∧W.cell? ⟨f,1,none⟩=some (.slice (some ⟨bo,0,none⟩) d.aH.length U)∧W.cell? ⟨f,2,none⟩=some (.slice N d.aC.length V)∧W.cell? ⟨f,3,none⟩=some (.slice O d.aB.length X)) 7 (by kernel_rfl) (KS.out _ (But.aG (cT _))) (fun hS=>?_);obtain⟨wA,a8⟩:∃wA,wA=r.drew:=⟨_,rfl⟩
 have Z:Below r.heap.size r wA:=by rw[a8]; exact cT _
 rw[← a8] at hS ⊢;clear a8;refine bM (v:=?v0) At.z (by kernel_rfl) (fun _ _ _ h=>h) rfl ?h0 hS ?_
 case h0=>intro _ s;(try dsimp only at s);go_simp;try with_reducible rfl
 try simp only[Act.put,sA,sB,sC]
 refine bM (v:=?v1) At.z.s (by kernel_rfl) (fun _ _ _ h=>h) rfl ?h1 hS ?_
 case h1=>intro _ s;(try dsimp only at s);go_simp;try with_reducible rfl
 try simp only[Act.put,sA,sB,sC]
 refine bM (v:=?v3) At.z.s.s.s (by kernel_rfl) (fun _ _ _ h=>h) rfl ?h3 hS ?_
 case h3=>intro _ s;(try dsimp only at s);go_simp;try with_reducible rfl
 try simp only[Act.put,sA,sB,sC]
 refine bM (v:=?v4) At.z.s.s.s.s (by kernel_rfl) (fun _ _ _ h=>h) rfl ?h4 hS ?_
 case h4=>intro _ s;(try dsimp only at s);go_simp;try with_reducible rfl
 try simp only[Act.put,sA,sB,sC]
 refine bM (v:=?v5) At.z.f (by kernel_rfl) (fun _ _ _ h=>h) rfl ?h5 hS ?_
 case h5=>intro _ s;(try dsimp only at s);go_simp;try with_reducible rfl
 try simp only[Act.put,sA,sB,sC]
 refine dX (i:=2) At.z.s.s (by kernel_rfl) (fun K P=>?_);go_simp;refine (Fo l L.1 L.2 _).mono ?_;rintro e wB ⟨rfl,bD⟩;have t:=Z.trans (bD.mono Z.size);have aY:=KS.out _ (But.aG t);refine P.out _ _ aY ?_;clear P K hS bD Z;clear wA
 try simp only[Act.put,sA,sB,sC]
 refine dX (i:=6) At.z.f.s (by kernel_rfl) (fun K P=>?_);have bF:=IM l L.1 L.2;go_simp;clear bF;have J:Below w.heap.size w wB:=F.out.trans (t.mono F.out.size);have bT:=t.size;have C:=IL (fun c=>w.heap.size+4<=c∧c<f) (In w) _ _ _ _ _ _ p d l of a bo bp bw bb wB (KP.out _ J) (KC.out _ J) (KQ.out _ J) (fun c n=>⟨by have:c<w.heap.size:=n; omega,fun z=>by have:c<w.heap.size:=n; omega⟩) (bL.out.but (K:=fun _=>True) (But.aG t) (fun _ _=>trivial) fun _ z=>z) HS.out HD.out Y.out HE.out (fun c n=>by omega);refine C.mono ?_;rintro e wC ⟨rfl,bP,aT,bE⟩;clear C;have B:=(But.aG (K:=fun c=>¬(w.heap.size+4<=c∧c<f)) t).trans bE;have bA:=KS.out _ B;refine P.out _ _ bA ?_;clear P K aY
 try simp only[Act.put,sA,sB,sC]
 refine iQ (m:=7) At.z.f.s.s (by kernel_rfl) (by kernel_rfl) (fun K P=>?_);go_simp;refine P.out _ _ ?_;clear P K;obtain⟨b0,b1,b2,b3,b4,b5,b6,b7,b8,b9,aQ,aR⟩:=bA;have aJ:=aD aT;have R:Below w.heap.size w wC:=F.out.trans (B.below F.out.size fun c n=>by omega);have bJ:=aD B;have A:=aD R;have bU:=B.size;obtain⟨D,u⟩:∃D,D=(cO p d l of a).2:=⟨_,rfl⟩;obtain⟨cd,a7⟩:∃cd,cd=(cO p d l of a).1:=⟨_,rfl⟩
 have aL:Hid (Fits p.aB D):=by
  show Fits p.aB D;rw[u];exact Da (tV Y.out.1 Y.out.2.2.1 Y.out.2.2.2.1 Y.out.2.2.2.2.1 Y.out.2.2.2.2.2.2.1) l of a
 have aN:Hid (Stand p.aB D):=by
  show Stand p.aB D;rw[u];exact I6 Y.out l of a
 have bK:Hid (jR p d l of a=(cd,kN p.aB D)):=by
  show jR p d l of a=(cd,kN p.aB D);rw[u,a7];rfl
 have bO:Hid (D.ok=d.ok):=by
  show D.ok=d.ok;rw[u];exact JN p d l of a
 rw[← u] at aJ;rw[← a7];clear aT bE B R t J a7 u
 go_wp2_with fail
 refine (Hm (fun c=>(w.heap.size+4<=c∧c<f)∨New wB wC c) (In w) _ _ _ _ _ _ _ _ _ D p.aB bo bp bw bP wC (KQ.out _ A.out) (fun c n=>⟨by have:c<w.heap.size:=n; omega,fun z=>by have h1:c<w.heap.size:=n; exact z.elim (fun z=>by omega) fun z=>by have:=z.1; omega⟩) aJ.out aL.out aN.out (fun c n=>n.elim (fun z=>by omega) fun z=>z.2)).mono ?_;rintro e wD ⟨rfl,aS,aU,G⟩;have x:∀(b i:Nat) v,wC.cell? ⟨b,i,none⟩=some v->¬((w.heap.size+4<=b∧b<f)∨New wB wC b)->wD.cell? ⟨b,i,none⟩=some v:=fun b i v hv hk=>G.cell hv hk
 have E:¬((w.heap.size+4<=f∧f<f)∨New wB wC f):=fun z=>by
  rcases z with z | z
  ·omega
  ·have:=z.1; omega
 have d8:=x _ _ _ b8 E;have d9:=x _ _ _ b9 E;have bV:=x _ _ _ aQ E;have bW:=x _ _ _ aR E;obtain⟨gR,aW⟩:=aM.out;have aX:=bJ.out.row aW (by omega)
 have k:=G.row aX (fun z=>by
  rcases z with z | z
  ·omega
  ·have:=z.1; omega)
 have r0:=k.cell (i:=0) (by omega);have r1:=k.cell (i:=1) (by omega);have r2:=k.cell (i:=2) (by omega);have r3:=k.cell (i:=3) (by omega);have r4:=k.cell (i:=4) (by omega);have k0:=k.frozen 0;have k1:=k.frozen 1;have k2:=k.frozen 2;have k3:=k.frozen 3;have k4:=k.frozen 4
 have T:Below w.heap.size w wD:=A.out.trans (G.below A.out.size fun c n z=>by
  rcases z with z | z
  ·omega
  ·have:=z.1; omega)
 have aV:aP (fun c=>w.heap.size+4<=c) wD (.slice (some ⟨bo,0,none⟩) d.aH.length U) (.slice N d.aC.length V) (.slice O d.aB.length X) (kN p.aB D) bo bp bw aS:=aU.bound fun c n _=>by
  rcases n with (z | z) | z
  ·omega
  ·have:=z.1; omega
  ·have:=z.1; omega
 have bN:=aD aV;have a9:=aD T;clear aU G x E aW aX k aV T b0 b1 b2 b3 b4 b5 b6 b7 b8 b9 aQ aR;go_wp2;refine bodyPost_ret (v:=.agg #[.int .i64 cd,.bool d.ok,.slice (some ⟨bo,0,none⟩) d.aH.length U,.slice N d.aC.length V,.slice O d.aB.length X]) (by simp[results,Tryz.results68,go_sem,r0,r1,r2,r3,r4]) rfl ?_;rw[bK.out];refine⟨_,_,_,by rw[← bO.out]; rfl,?_,bo,bp,bw,aS,?_⟩
 ·have q:w.heap.size<=w.heap.size+3:=by omega
  exact ((((a9.out.setCell (p:=⟨w.heap.size+3,0,none⟩) q _).setCell (p:=⟨w.heap.size+3,1,none⟩) q _).setCell (p:=⟨w.heap.size+3,2,none⟩) q _).setCell (p:=⟨w.heap.size+3,3,none⟩) q _).setCell (p:=⟨w.heap.size+3,4,none⟩) q _
 ·have hk:∀o:Nat,¬((fun c=>c≠w.heap.size+3) (⟨w.heap.size+3,o,none⟩:Addr).block):=fun o z=>z rfl;exact (bN.out.but (Q:=fun c=>w.heap.size+4<=c) ((((((But.refl (fun c=>c≠w.heap.size+3) wD).setCell (hk 0) _).setCell (hk 1) _).setCell (hk 2) _).setCell (hk 3) _).setCell (hk 4) _) (fun c n=>by omega) fun _ z=>z).bound fun c n hl=>⟨by omega,hl⟩
end
end Go.Proofs.YtdhinkgjiapigaaGreatDoor
