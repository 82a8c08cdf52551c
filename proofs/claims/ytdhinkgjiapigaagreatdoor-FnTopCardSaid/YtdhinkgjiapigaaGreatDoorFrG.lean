import Derived.Test.YtdhinkgjiapigaaGreatDoorSettle2
import Derived.Test.YtdhinkgjiapigaaGreatDoorFrA
import Derived.Deep.MidRow
namespace Go.Proofs.YtdhinkgjiapigaaGreatDoor
abbrev bL:=Unit ⊕ Bool ⊕ Unit ⊕ Int ⊕ (Int×List Bool×Bool)
abbrev bL.idle:bL:=.inl ()
abbrev bL.set (aR:Bool):bL:=.inr (.inl aR)
abbrev bL.clear:bL:=.inr (.inr (.inl ()))
abbrev bL.taking (t:Int):bL:=.inr (.inr (.inr (.inl t)))
abbrev bL.used (gone:Int) (aL:List Bool) (aR:Bool):bL:=.inr (.inr (.inr (.inr (gone,aL,aR))))
theorem bL.by {motive:bL->Prop}(idle:motive .idle) (set:∀b,motive (.set b)) (clear:motive .clear) (taking:∀t,motive (.taking t)) (used:∀g l b,motive (.used g l b)) (s:bL):motive s:=
 match s with
 | .inl ()=>idle
 | .inr (.inl b)=>set b
 | .inr (.inr (.inl ()))=>clear
 | .inr (.inr (.inr (.inl t)))=>taking t
 | .inr (.inr (.inr (.inr (g,l,b))))=>used g l b
def pad (l:List Bool):List Bool:=l++List.replicate (30-l.length) false
def iG (h:aM):Option bL:=
 if h.state=0 then some .idle else if h.state=1 then some (.set h.aR) else if h.state=2 then some .clear else if h.state=3 then some (.taking h.aN) else if h.state=4 then some (.used h.gone (pad h.aL) h.aR) else none
def bO (n:Nat):bL->aM
 | .inl _=>⟨0,0,List.replicate n false,false,0⟩
 | .inr (.inl b)=>⟨1,0,List.replicate n false,b,0⟩
 | .inr (.inr (.inl _))=>⟨2,0,List.replicate n false,true,0⟩
 | .inr (.inr (.inr (.inl t)))=>⟨3,0,List.replicate n false,true,t⟩
 | .inr (.inr (.inr (.inr (g,l,b))))=>⟨4,g,l.take n,b,0⟩
def pU (aI:Int) (n:Nat):bL->Prop
 | .inr (.inr (.inr (.inl t)))=>bN t 1 aI
 | .inr (.inr (.inr (.inr (g,l,_))))=>bN g 0 ((n:Int)-1)∧∀k:Nat,(k:Int)<g->l[k]?=some true
 | _=>True
def iF (n:Nat):bL->Prop
 | .inr (.inr (.inr (.inr (g,l,_))))=>l.length=30∧0<=g∧g<n∧l=pad (l.take n)
 | _=>True
def zJ:bL->bL
 | .inr (.inl b)=>.used 0 (List.replicate 30 false) b
 | .inr (.inr (.inl _))=>.used 0 (List.replicate 30 false) true
 | .inr (.inr (.inr (.inl _)))=>.used 0 (List.replicate 30 false) true
 | s=>s
def pQ (aH:List Bool) (secs:List Int) (g:Int) (l:List Bool) (b:Bool):bL:=
 if eH aH secs (dZ aH secs (l.take secs.length)) g.toNat=secs.length then .idle else .used (eH aH secs (dZ aH secs (l.take secs.length)) g.toNat) (pad (dZ aH secs (l.take secs.length))) b
def mL (aH:List Bool) (aC:List (Int×Int)) (w:aT) (b:Bool):bL:=if jT aH aC w=true then .clear else .set b
def zrw (aH:List Bool) (aC:List (Int×Int)) (w:aT):bL->bL
 | .inr (.inl b)=>mL aH aC w b
 | .inr (.inr (.inl _))=>mL aH aC w true
 | .inr (.inr (.inr (.inr (g,l,b))))=>pQ aH w.aA g l b
 | s=>s
def mU (aH:List Bool) (aC:List (Int×Int)) (w:aT) (s:bL):bL:=
 zrw aH aC w (if eA aH (w.aA.getD 0 0)=true then zJ s else s)
theorem vA {l:List Bool}(h:l.length<=30):(pad l).length=30:=by unfold pad; rw[List.length_append,List.length_replicate]; omega
theorem BU {l:List Bool}:(pad l).take l.length=l:=by unfold pad; rw[List.take_left']; rfl
theorem I0 {l:List Bool}{n:Nat}(h:l.length=n):(pad l).take n=l:=by subst h; exact BU
theorem EG {l:List Bool}(_h:l.length<=30) {n:Nat}(a:l.length=n):pad l=pad ((pad l).take n):=by subst a; rw[BU]
theorem Fu {n:Nat}(h:n<=30):List.replicate 30 false=pad (List.replicate n false):=by
 unfold pad;rw[List.length_replicate,List.replicate_append_replicate];congr 1;omega
theorem Dj {n:Nat}(h:n<=30):(List.replicate 30 false).take n=List.replicate n false:=by
 rw[List.take_replicate,Nat.min_eq_left h]
theorem yC {aI:Int}{n:Nat}{h:aM}(q:n<=30) (m:fD aI n h):∃s,iG h=some s∧pU aI n s∧iF n s∧bO n s=h:=by
 obtain⟨state,gone,aL,aR,aN⟩:=h;obtain⟨g,j,e,l,o,p,c⟩:=m;simp only at g j e l o p c
 have a:state≠4->aL=List.replicate n false∧gone=0:=fun f=>by
  refine⟨List.eq_replicate_iff.2 ⟨j,fun b r=>?_⟩,(l f).2⟩;obtain⟨i,hi⟩:=List.getElem?_of_mem r;exact (l f).1 i b hi
 have f:state=0∨state=1∨state=2∨state=3∨state=4:=by have:=g.1; have:=g.2; omega
 rcases f with rfl | rfl | rfl | rfl | rfl
 ·obtain⟨rfl,rfl⟩:=a (by decide);obtain⟨rfl,d,-⟩:=c (by decide);obtain rfl:=d rfl;exact⟨.idle,rfl,trivial,trivial,rfl⟩
 ·obtain⟨rfl,rfl⟩:=a (by decide);obtain⟨rfl,-,-⟩:=c (by decide);exact⟨.set aR,rfl,trivial,trivial,rfl⟩
 ·obtain⟨rfl,rfl⟩:=a (by decide);obtain⟨rfl,-,d⟩:=c (by decide);obtain rfl:=d rfl;exact⟨.clear,rfl,trivial,trivial,rfl⟩
 ·obtain⟨rfl,rfl⟩:=a (by decide);obtain⟨rfl,d⟩:=p rfl;exact⟨.taking aN,rfl,d,trivial,rfl⟩
 ·obtain⟨rfl,-,-⟩:=c (by decide);subst j;refine⟨.used gone (pad aL) aR,rfl,⟨e,fun k m=>?_⟩,⟨vA q,e.1,by have:=e.2; omega,EG q rfl⟩,?_⟩
  ·have:=o k m;unfold pad;rw[List.getElem?_append_left (List.getElem?_eq_some_iff.1 this).1];exact this
  ·show aM.mk 4 gone ((pad aL).take aL.length) aR 0=_; rw[BU]
theorem Jm {aI:Int}{n:Nat}{h:aM}{s:bL}(f:h.aL.length=n) (o:1<=n) (p:n<=30) (q:iG h=some s) (a:pU aI n s) (d:bO n s=h):fD aI n h:=by
 have c:∀(k:Nat) b,(List.replicate n false)[k]?=some b->b=false:=fun k b f=>by
  have:=List.mem_of_getElem? f;exact (List.mem_replicate.1 this).2
 cases s using bL.by with
 | idle=>subst d; exact⟨by simp only[bO,bN]; omega,by simp[bO],by simp only[bO,bN]; omega,fun _=>⟨c,rfl⟩,fun k a=>by simp only[bO] at a; omega,fun z=>by simp[bO] at z,fun _=>⟨rfl,fun _=>rfl,fun z=>by simp[bO] at z⟩⟩
 | set b=>subst d; exact⟨by simp only[bO,bN]; omega,by simp[bO],by simp only[bO,bN]; omega,fun _=>⟨c,rfl⟩,fun k a=>by simp only[bO] at a; omega,fun z=>by simp[bO] at z,fun _=>⟨rfl,fun z=>by simp[bO] at z,fun z=>by simp[bO] at z⟩⟩
 | clear=>subst d; exact⟨by simp only[bO,bN]; omega,by simp[bO],by simp only[bO,bN]; omega,fun _=>⟨c,rfl⟩,fun k a=>by simp only[bO] at a; omega,fun z=>by simp[bO] at z,fun _=>⟨rfl,fun z=>by simp[bO] at z,fun _=>rfl⟩⟩
 | taking t=>subst d; exact⟨by simp only[bO,bN]; omega,by simp[bO],by simp only[bO,bN]; omega,fun _=>⟨c,rfl⟩,fun k a=>by simp only[bO] at a; omega,fun _=>⟨rfl,a⟩,fun z=>by simp[bO] at z⟩
 | used g l b=>
  obtain⟨e,j⟩:=a
  have m:(l.take n).length=n:=by have:=congrArg (fun x=>x.aL.length) d; exact this.trans f
  subst d;refine⟨by simp only[bO,bN]; omega,m,e,fun z=>by simp[bO] at z,fun k a=>?_,fun z=>by simp[bO] at z,fun _=>⟨rfl,fun z=>by simp[bO] at z,fun z=>by simp[bO] at z⟩⟩;show (l.take n)[k]?=some true;have i:(k:Int)<g:=a;rw[List.getElem?_take,if_pos (by have:=e.2; omega)];exact j k i
theorem Ag {aH:List Bool}{secs:List Int}{g:Int}{l:List Bool}{b:Bool}(h:iF secs.length (.used g l b)) (j:secs.length<=30) :
  bO secs.length (pQ aH secs g l b)=jV aH secs (bO secs.length (.used g l b))∧iF secs.length (pQ aH secs g l b):=by
 have d:(l.take secs.length).length=secs.length:=by rw[List.length_take]; have:=h.1; omega
 have a:(dZ aH secs (l.take secs.length)).length=secs.length:=rK d;have i:=Dr (nY aH secs (dZ aH secs (l.take secs.length))) ((dZ aH secs (l.take secs.length)).length-g.toNat) g.toNat;have f:=h.2.2.1;have c:=h.2.1;unfold pQ jV;rw[show (bO secs.length (.used g l b)).aL=l.take secs.length from rfl,show (bO secs.length (.used g l b)).gone=g from rfl,a];by_cases e:eH aH secs (dZ aH secs (l.take secs.length)) g.toNat=secs.length
 ·rw[if_pos e,if_pos e];exact⟨rfl,trivial⟩
 ·rw[if_neg e,if_neg e];refine⟨?_,vA (by omega),by omega,?_,EG (by omega) a⟩
  ·show aM.mk 4 _ ((pad (dZ aH secs (l.take secs.length))).take secs.length) b 0=_;rw[I0 a];rfl
  ·unfold eH at e ⊢;omega
theorem CY {n:Nat}{s:bL}(h:iF n s) (d:1<=n) (c:n<=30):iF n (zJ s):=by
 have a:∀b,iF n (.used 0 (List.replicate 30 false) b):=fun b=>⟨by simp,by omega,by omega,by rw[Dj c]; exact Fu c⟩
 cases s using bL.by with
 | idle=>exact h
 | set b=>exact a b
 | clear=>exact a true
 | taking t=>exact a true
 | used g l b=>exact h
theorem BZ {aH:List Bool}{aC:List (Int×Int)}{w:aT}{s:bL}(h:iF w.aA.length s) (d:1<=w.aA.length) (a:w.aA.length<=30) :
  bO w.aA.length (mU aH aC w s)=eC aH aC w (bO w.aA.length s)∧iF w.aA.length (mU aH aC w s):=by
 have c:∀b,bO w.aA.length (pQ aH w.aA 0 (List.replicate 30 false) b)=jV aH w.aA ⟨4,0,List.replicate w.aA.length false,b,0⟩∧iF w.aA.length (pQ aH w.aA 0 (List.replicate 30 false) b):=fun b=>by
  have:=Ag (aH:=aH) (secs:=w.aA) (g:=0) (l:=List.replicate 30 false) (b:=b) (CY (s:=.set b) trivial d a) a;rw[show bO w.aA.length (.used 0 (List.replicate 30 false) b)=⟨4,0,List.replicate w.aA.length false,b,0⟩ by simp only[bO,Dj a]] at this;exact this
 unfold mU
 cases ho:eA aH (w.aA.getD 0 0) with
 | true=>
  rw[if_pos rfl]
  cases s using bL.by with
  | idle=>exact⟨(tG rfl).symm,trivial⟩
  | set b=>rw[xL (by simp[bO]) (by simp[bO]) ho]; exact c b
  | clear=>rw[xL (by simp[bO]) (by simp[bO]) ho]; exact c true
  | taking t=>rw[xL (by simp[bO]) (by simp[bO]) ho]; exact c true
  | used g l b=>rw[vH rfl]; exact Ag h a
 | false=>
  rw[if_neg (by decide)]
  cases s using bL.by with
  | idle=>exact⟨(tG rfl).symm,trivial⟩
  | set b=>
   cases hp:jT aH aC w with
   | true=>rw[xF (.inl rfl) ho hp]; show bO _ (mL aH aC w _)=_∧iF _ (mL aH aC w _); unfold mL; rw[if_pos hp]; exact⟨rfl,trivial⟩
   | false=>rw[xE (.inl rfl) ho hp]; show bO _ (mL aH aC w _)=_∧iF _ (mL aH aC w _); unfold mL; rw[if_neg (by rw[hp]; decide)]; exact⟨rfl,trivial⟩
  | clear=>
   cases hp:jT aH aC w with
   | true=>rw[xF (.inr rfl) ho hp]; show bO _ (mL aH aC w _)=_∧iF _ (mL aH aC w _); unfold mL; rw[if_pos hp]; exact⟨rfl,trivial⟩
   | false=>rw[xE (.inr rfl) ho hp]; show bO _ (mL aH aC w _)=_∧iF _ (mL aH aC w _); unfold mL; rw[if_neg (by rw[hp]; decide)]; exact⟨rfl,trivial⟩
  | taking t=>rw[yN (by simp[bO]) (by simp[bO]) (by simp[bO]) ho]; exact⟨rfl,trivial⟩
  | used g l b=>rw[vH rfl]; exact Ag h a
theorem Jg {n:Nat}{s t:bL}(b:iF n s) (c:iF n t) (e:bO n s=bO n t):s=t:=by
 cases s using bL.by <;> cases t using bL.by <;> simp[bO] at e <;> try rfl
 ·rw[e]
 ·rw[e]
 ·obtain⟨rfl,a,rfl⟩:=e;rw[b.2.2.2,c.2.2.2,a]
section
open Go.Deep Go.RowKit
def dI (g:Int) (l:List Bool) (b:Bool):Array Value:=(.int .i64 g :: (l.map Value.bool++[.bool b])).toArray
def dO:bL->Value
 | .inl _=>.iface 103 (.agg #[])
 | .inr (.inl b)=>.iface 185 (.agg #[.bool b])
 | .inr (.inr (.inl _))=>.iface 187 (.agg #[])
 | .inr (.inr (.inr (.inl t)))=>.iface 235 (.agg #[.int .i64 t])
 | .inr (.inr (.inr (.inr (g,l,b))))=>.iface 190 (.agg (dI g l b))
theorem Tryz.eF (v:Value) (w:World):(Instr.typeAssert (.iface 103 v) 134 185 true).run Tryz.prog w=.ok (.tuple #[.agg #[.bool false],.bool false]) w:=by kernel_rfl
theorem Tryz.dL (v:Value) (w:World):(Instr.typeAssert (.iface 103 v) 134 187 true).run Tryz.prog w=.ok (.tuple #[.agg #[],.bool false]) w:=by kernel_rfl
theorem Tryz.fS (v:Value) (w:World):(Instr.typeAssert (.iface 103 v) 134 235 true).run Tryz.prog w=.ok (.tuple #[.agg #[.int .i64 0],.bool false]) w:=by kernel_rfl
theorem Tryz.gW (v:Value) (w:World):(Instr.typeAssert (.iface 103 v) 134 190 true).run Tryz.prog w=.ok (.tuple #[.agg (dI 0 (List.replicate 30 false) false),.bool false]) w:=by kernel_rfl
theorem Tryz.dY (v:Value) (w:World):(Instr.typeAssert (.iface 185 v) 134 185 true).run Tryz.prog w=.ok (.tuple #[v,.bool true]) w:=by kernel_rfl
theorem Tryz.lC (v:Value) (w:World):(Instr.typeAssert (.iface 185 v) 134 187 true).run Tryz.prog w=.ok (.tuple #[.agg #[],.bool false]) w:=by kernel_rfl
theorem Tryz.gG (v:Value) (w:World):(Instr.typeAssert (.iface 185 v) 134 235 true).run Tryz.prog w=.ok (.tuple #[.agg #[.int .i64 0],.bool false]) w:=by kernel_rfl
theorem Tryz.dV (v:Value) (w:World):(Instr.typeAssert (.iface 187 v) 134 185 true).run Tryz.prog w=.ok (.tuple #[.agg #[.bool false],.bool false]) w:=by kernel_rfl
theorem Tryz.dB (v:Value) (w:World):(Instr.typeAssert (.iface 187 v) 134 187 true).run Tryz.prog w=.ok (.tuple #[v,.bool true]) w:=by kernel_rfl
theorem Tryz.fF (v:Value) (w:World):(Instr.typeAssert (.iface 187 v) 134 235 true).run Tryz.prog w=.ok (.tuple #[.agg #[.int .i64 0],.bool false]) w:=by kernel_rfl
theorem Tryz.dM (v:Value) (w:World):(Instr.typeAssert (.iface 235 v) 134 185 true).run Tryz.prog w=.ok (.tuple #[.agg #[.bool false],.bool false]) w:=by kernel_rfl
theorem Tryz.cW (v:Value) (w:World):(Instr.typeAssert (.iface 235 v) 134 187 true).run Tryz.prog w=.ok (.tuple #[.agg #[],.bool false]) w:=by kernel_rfl
theorem Tryz.eT (v:Value) (w:World):(Instr.typeAssert (.iface 235 v) 134 235 true).run Tryz.prog w=.ok (.tuple #[v,.bool true]) w:=by kernel_rfl
theorem Tryz.fT (v:Value) (w:World):(Instr.typeAssert (.iface 235 v) 134 190 true).run Tryz.prog w=.ok (.tuple #[.agg (dI 0 (List.replicate 30 false) false),.bool false]) w:=by kernel_rfl
theorem Tryz.eG (v:Value) (w:World):(Instr.typeAssert (.iface 190 v) 134 185 true).run Tryz.prog w=.ok (.tuple #[.agg #[.bool false],.bool false]) w:=by kernel_rfl
theorem Tryz.dN (v:Value) (w:World):(Instr.typeAssert (.iface 190 v) 134 187 true).run Tryz.prog w=.ok (.tuple #[.agg #[],.bool false]) w:=by kernel_rfl
theorem Tryz.fU (v:Value) (w:World):(Instr.typeAssert (.iface 190 v) 134 235 true).run Tryz.prog w=.ok (.tuple #[.agg #[.int .i64 0],.bool false]) w:=by kernel_rfl
theorem Tryz.gX (v:Value) (w:World):(Instr.typeAssert (.iface 190 v) 134 190 true).run Tryz.prog w=.ok (.tuple #[v,.bool true]) w:=by kernel_rfl
end
section
open Classical Go.Deep Go.RowKit
set_option maxRecDepth 100000 in
set_option maxHeartbeats 2000000 in
theorem yM (ok f1 d l f g h i j:Value) (z:Bool) (aH:List Bool) (aC:List (Int×Int)) (x:aT) (w:World) (b:Bools (In w) w f1 aH) (c:Lies (In w) w d aC) (v:cC (In w) w f g h i j x)
  (u:x.Small 30) (t:∀y,(y∈x.aQ∨y∈x.aJ)->0<=y.1∧y.1<aC.length) (r:∀s,(s∈x.aA∨s∈x.over)->0<=s∧s<aH.length) (A:aC.length<=1048576∧aH.length<=1048576) :
  Calls Tryz.prog 145 #[.agg #[ok,f1,d,l],.agg #[f,g,h,i,j],.bool z] w fun e w'=>e=.returned (dO (mL aH aC x z))∧Below w.heap.size w w':=by
 have a:=eB w 40 51 #[ok,f1,d,l] #[f,g,h,i,j];have n:=b.keep (In.keep a.below).1 (In.keep a.below).2;have o:=c.keep (In.keep a.below).1 (In.keep a.below).2;have p:=v.keep (In.keep a.below).1 (In.keep a.below).2;go_enter Tryz.func145,Tryz.ntmps145
 go_wp2_with fail
 refine (H9 ok f1 d l f g h i j aH aC x _ n o p u t r A).mono ?_;rintro e B ⟨rfl,q⟩;have m:=a.call q;clear a q n o p b c v u t r
 cases hp:jT aH aC x with
 | true=>
  have k:=aD hp;clear hp;go_wp2;go_ret;exact⟨by unfold mL; rw[if_pos k.out]; rfl,m.below⟩
 | false=>
  have k:=aD hp;clear hp;go_wp2;go_ret;exact⟨by unfold mL; rw[if_neg (by rw[k.out]; decide)]; rfl,m.below⟩
set_option maxRecDepth 100000 in
set_option maxHeartbeats 2000000 in
theorem GD (s:bL) (w:World):Calls Tryz.prog 144 #[dO s] w fun e w'=>e=.returned (dO (zJ s))∧Below w.heap.size w w':=by
 cases s using bL.by with
 | idle=>
  show Calls _ _ #[.iface 103 (.agg #[])] _ _;have d:=Tryz.eF;have c:=Tryz.dL;have a:=Tryz.fS;go_enter Tryz.func144,Tryz.ntmps144;go_wp2;go_ret;exact⟨rfl,Below.refl _ _⟩
 | set b=>
  show Calls _ _ #[.iface 185 (.agg #[.bool b])] _ _;have d:=Tryz.dY;have c:=Tryz.lC;have a:=Tryz.gG;go_enter Tryz.func144,Tryz.ntmps144;go_wp2;go_ret;exact⟨rfl,bC _ _⟩
 | clear=>
  show Calls _ _ #[.iface 187 (.agg #[])] _ _;have d:=Tryz.dV;have c:=Tryz.dB;have a:=Tryz.fF;go_enter Tryz.func144,Tryz.ntmps144;go_wp2;go_ret;exact⟨rfl,Below.refl _ _⟩
 | taking t=>
  show Calls _ _ #[.iface 235 (.agg #[.int .i64 t])] _ _;have d:=Tryz.dM;have c:=Tryz.cW;have a:=Tryz.eT;go_enter Tryz.func144,Tryz.ntmps144;go_wp2;go_ret;exact⟨rfl,Below.refl _ _⟩
 | used g l b=>
  show Calls _ _ #[.iface 190 (.agg (dI g l b))] _ _;have d:=Tryz.eG;have c:=Tryz.dN;have a:=Tryz.fU;go_enter Tryz.func144,Tryz.ntmps144;go_wp2;go_ret;exact⟨rfl,Below.refl _ _⟩
theorem pO (g:Int) (l:List Bool) (b:Bool):(dI g l b).toList=.int .i64 g :: (l.map Value.bool++[.bool b]):=by simp[dI]
theorem tQ {g:Int}{l:List Bool}{b:Bool}(h:l.length=30):(dI g l b).size=32:=by
 rw[← Array.length_toList,pO];simp[h]
theorem B8 {W:World}{u t:Nat}{g:Int}{l:List Bool}{b:Bool}(h:W.rowIs u t (dI g l b).size (fun i=>(dI g l b)[i]!)) (c:l.length=30) :
  ∃f:Nat->Value,W.rowIs u t 32 f∧f 0=.int .i64 g∧f 31=.bool b∧∀(j:Nat) x,l[j]?=some x->f (1+j)=.bool x:=by
 have o:(dI g l b).size=32:=tQ c
 have a:∀(i:Nat) v,(dI g l b).toList[i]?=some v->(dI g l b)[i]! = v:=fun i v e=>by
  rw[Array.getElem?_toList] at e;obtain⟨d,m⟩:=Array.getElem?_eq_some_iff.1 e;rw[getElem!_pos _ i d];exact m
 refine⟨fun i=>(dI g l b)[i]!,by rw[o] at h; exact h,a 0 _ (by rw[pO]; rfl),a 31 _ ?_,fun j x k=>a _ _ ?_⟩
 ·rw[pO,List.getElem?_cons_succ,List.getElem?_append_right (by simp[c])];simp[c]
 ·have n:j<l.length:=(List.getElem?_eq_some_iff.1 k).1;rw[pO,Nat.add_comm,List.getElem?_cons_succ,List.getElem?_append_left (by simpa using n),List.getElem?_map,k];rfl
theorem Tryz.gZ:(Tryz.prog.info? 190).map (·.size)=some 32:=by kernel_rfl
theorem Hr {W:World}{u t:Nat}{f:Nat->Value}{g:Int}{l:List Bool}{b:Bool}(o:W.rowIs u t 32 f) (c:l.length=30) (h:f 0=.int .i64 g) (k:f 31=.bool b) (m:∀(j:Nat) x,l[j]?=some x->f (1+j)=.bool x) :
  W.rangeAt u 0 (dI g l b).toList:=by
 intro j v a
 have n:j<32:=by have:=(List.getElem?_eq_some_iff.1 a).1; rw[Array.length_toList,tQ c] at this; exact this
 rw[Nat.zero_add,o.cell n];rw[pO] at a;rcases j with _ | j
 ·rw[h]; exact a
 ·rw[List.getElem?_cons_succ] at a;by_cases e:j<30
  ·rw[List.getElem?_append_left (by simpa [c] using e),List.getElem?_map] at a;obtain⟨x,d⟩:=eU l (i:=j) (by omega);rw[d] at a;rw[show j+1=1+j by omega,m j x d];exact a
  ·obtain rfl:j=30:=by omega
   rw[List.getElem?_append_right (by simp[c])] at a;simp[c] at a;rw[k,a]
theorem DU {g:Int}{l:List Bool}{b:Bool}(a:l.length=30):(Tryz.prog.info? 190).map (·.size)=some (dI g l b).toList.length:=by rw[Tryz.gZ,Array.length_toList,tQ a]
theorem Dl {wr:World}{u t m a:Nat}{b:Nat->Value}(c:wr.rowIs u t 32 b):rM ((wr.drewN m).setCell ⟨u,0,none⟩ (.int .i64 ((a:Int)+1))) u 0=a+1:=by
 unfold rM;rw[((eV c (fC _ m)).set 0 _).cell (by omega),if_pos rfl];simp[intOf]
set_option maxRecDepth 100000 in
set_option maxHeartbeats 8000000 in
theorem zig (ok f1 O T u0 u1 u2 u3 u4:Value) (aH:List Bool) (secs:List Int) (g:Int) (l:List Bool) (b:Bool) (w:World) (bH:Bools (In w) w f1 aH) (bK:Ints (In w) w u0 secs) (aT:iF secs.length (.used g l b)) (bQ:secs.length<=30)
  (aV:∀s∈secs,0<=s∧s<aH.length) (_ho:aH.length<=1048576) :
  Calls Tryz.prog 146 #[.agg (dI g l b),.agg #[ok,f1,O,T],.agg #[u0,u1,u2,u3,u4]] w fun e w'=>e=.returned (dO (pQ aH secs g l b))∧Below w.heap.size w w':=by
 obtain⟨hl,bT,bU,W⟩:=aT;have T0:=iE w 190 40 51 (dI g l b) #[ok,f1,O,T] #[u0,u1,u2,u3,u4];obtain⟨f,aB,b4,n,b5⟩:=B8 (T0.row 0 _ _ rfl) hl;rw[Nat.add_zero] at aB;obtain⟨a1,c1,rfl,q1⟩:=bH;obtain⟨a0,c0,rfl,q0⟩:=bK;have aK:=aD q1;have HS:=aD q0;have aG:=aD aV;have aL:=aD W
 have b2:(l.take secs.length).length=secs.length:=by rw[List.length_take]; omega
 have bC:=aD b4;have bD:=aD n;have bE:=aD b5;have k1:(((w.alloc (.cells (dI g l b) 190)).alloc (.cells #[ok,.slice a1 aH.length c1,O,T] 40)).alloc (.cells #[.slice a0 secs.length c0,u1,u2,u3,u4] 51)).cell? ⟨w.heap.size+1,1,none⟩=some (.slice a1 aH.length c1):=T0.c 1 1 rfl rfl;have a:(((w.alloc (.cells (dI g l b) 190)).alloc (.cells #[ok,.slice a1 aH.length c1,O,T] 40)).alloc (.cells #[.slice a0 secs.length c0,u1,u2,u3,u4] 51)).cell? ⟨w.heap.size+1+1,0,none⟩=some (.slice a0 secs.length c0):=T0.c 2 0 rfl rfl;have aQ:=T0.below;clear q1 q0 aV W b4 n b5;go_enter Tryz.func146,Tryz.ntmps146;go_wp2;generalize bG:((w.alloc (.cells (dI g l b) 190)).alloc (.cells #[ok,.slice a1 aH.length c1,O,T] 40)).alloc (.cells #[.slice a0 secs.length c0,u1,u2,u3,u4] 51)=W0 at *;have aI:=aD k1;have aJ:=aD a;have C:=aD aQ;have aO:=aD aB;clear bG k1 a aQ aB T0
 go_loopw [13] (fun z wr=>∃(k:Nat) (S:Nat->Value),k<=secs.length∧z=.int .i64 k∧But (fun c=>c≠w.heap.size) W0 wr∧wr.rowIs w.heap.size 190 32 S∧S 0=.int .i64 g∧S 31=.bool b∧∀(j:Nat) x,l[j]?=some x->S (1+j)=.bool (if j<k then x || eA aH (secs.getD j 0) else x)) (fun z _=>secs.length-(intOf z).toNat)
 case atStart=>exact⟨0,f,Nat.zero_le _,rfl,But.refl _ _,aO.out,bC.out,bD.out,fun j x Y=>by rw[if_neg (by omega)]; exact bE.out j x Y⟩
 case round=>
  obtain⟨k,S,hk,rfl,hB,hr,e0,aP,ej⟩:=hrel;have HB:=aD hB;have E0:=aD e0;have aC:=aD aP;have EJ:=aD ej;clear hB e0 aP ej;have x1:=HB.out.cell aI.out (by show w.heap.size+1≠w.heap.size; omega);have x2:=HB.out.cell aJ.out (by show w.heap.size+1+1≠w.heap.size; omega);by_cases b1:k<secs.length
  ·obtain h0 | ⟨bs,os,rfl,a8,K⟩:=HS.out
   ·omega
   obtain⟨s,E⟩:=eU secs b1;obtain⟨aW,aX⟩:=aG.out s (List.mem_of_getElem? E);obtain h0 | ⟨bc,oc,rfl,a7,J⟩:=aK.out
   ·omega
   obtain⟨o,t⟩:∃o,aH[s.toNat]?=some o:=⟨aH[s.toNat]'(by omega),List.getElem?_eq_getElem _⟩;obtain⟨y,u⟩:=eU l (i:=k) (by omega);have s0:=HB.out.cell (bP (K k b1 s E) C.out) (by show bs≠w.heap.size; have:bs<w.heap.size:=a8; omega);have o0:=HB.out.cell (bP (J s.toNat (by omega) o t) C.out) (by show bc≠w.heap.size; have:bc<w.heap.size:=a7; omega);have gk:=hr.cell (i:=1+k) (by omega);rw[EJ.out k y u,if_neg (by omega)] at gk;have fk:=hr.frozen (1+k)
   have aY:(k:Int)<30:=by omega
   have Hs:=aD E;have D:=aD t;have Hy:=aD u;clear E t u K J
   have h:∀v,v=Value.bool (y || o)->∃(k1:Nat) (f1:Nat->Value),k1<=secs.length∧Value.int .i64 ((k:Int)+1)=.int .i64 k1∧But (fun c=>c≠w.heap.size) W0 (wr.setCell ⟨w.heap.size,1+k,none⟩ v)∧(wr.setCell ⟨w.heap.size,1+k,none⟩ v).rowIs w.heap.size 190 32 f1∧f1 0=.int .i64 g∧f1 31=.bool b∧∀(j:Nat) x,l[j]?=some x->f1 (1+j)=.bool (if j<k1 then x || eA aH (secs.getD j 0) else x):=fun v hv=>by
    refine⟨k+1,_,by omega,by go_num,HB.out.setCell (fun z=>z rfl) _,hr.set (1+k) _,?_,?_,fun j x Y=>?_⟩
    ·rw[if_neg (by omega)]; exact E0.out
    ·rw[if_neg (by omega)]; exact aC.out
    ·by_cases e:j=k
     ·subst e;rw[Hy.out] at Y
      cases Y
      rw[if_pos rfl,if_pos (by omega),hv,List.getD_eq_getElem?_getD,Hs.out];simp[uX D.out]
     ·rw[if_neg (by omega),EJ.out j x Y];by_cases e2:j<k
      ·rw[if_pos e2,if_pos (by omega)]
      ·rw[if_neg e2,if_neg (by omega)]
   have F:=aD h;clear h
   cases y
   ·go_wp2;go_roundw
    case rel=>exact F.out _ (by simp)
    case measure=>simp[intOf]; omega
   ·go_wp2;go_roundw
    case rel=>exact F.out _ (by simp)
    case measure=>simp[intOf]; omega
  ·have bX:k=secs.length:=by omega
   have I:(dZ aH secs (l.take secs.length)).length=secs.length:=rK b2
   have a9:∀(j:Nat) y,(pad (dZ aH secs (l.take secs.length)))[j]?=some y->S (1+j)=.bool y:=fun j y u=>by
    have bO:j<30:=by have:=(List.getElem?_eq_some_iff.1 u).1; rw[vA (by omega)] at this; exact this
    obtain⟨z,P⟩:=eU l (i:=j) (by omega);rw[EJ.out j z P];by_cases e:j<secs.length
    ·obtain⟨s,E⟩:=eU secs e;unfold pad at u;rw[List.getElem?_append_left (by omega),xN E (by rw[List.getElem?_take,if_pos e]; exact P)] at u
     cases u
     rw[if_pos (by omega),List.getD_eq_getElem?_getD,E];rfl
    ·unfold pad at u;rw[List.getElem?_append_right (by omega)] at u;have bL:=List.mem_of_getElem? u;have bM:=(List.mem_replicate.1 bL).2;rw[aL.out] at P;unfold pad at P;rw[List.getElem?_append_right (by omega)] at P;have bN:=(List.mem_replicate.1 (List.mem_of_getElem? P)).2;rw[if_neg (by omega),bM,bN]
   obtain⟨r,H⟩:∃r,r=dZ aH secs (l.take secs.length):=⟨_,rfl⟩;rw[← H] at I a9;have aF:=aD H;have Z:=aD a9;have b3:(pad r).length=30:=vA (by omega);have aM:=aD b3;have bF:=aD hr;have d:=aD I;clear H a9 b3 hr I aO EJ;rename World=>wo;go_wp2
   go_loopw [] (fun wr=>∃(a:Nat) (O:Nat->Value),a<=secs.length∧eH aH secs r g.toNat=eH aH secs r a∧But (fun c=>c≠w.heap.size) W0 wr∧wr.rowIs w.heap.size 190 32 O∧O 0=.int .i64 a∧∀q,q≠0->O q=S q) (fun wr=>secs.length-rM wr w.heap.size 0)
   case atStart=>exact⟨g.toNat,S,by omega,rfl,HB.out,bF.out,by rw[E0.out]; congr 1; omega,fun _ _=>rfl⟩
   case round=>
    obtain⟨a,O,bW,aU,B2,n,U,V⟩:=hrel;have a3:=aD aU;have a2:=aD V;have bS:=aD U;have Q:=aD B2;have p0:=n.cell (i:=0) (by omega);rw[U] at p0;have z0:=n.frozen 0
    have aS:rM wr w.heap.size 0=a:=by simp[rM,p0,intOf]
    have aE:=aD aS;clear x1 x2;have x1:=B2.cell aI.out (by show w.heap.size+1≠w.heap.size; omega);have x2:=B2.cell aJ.out (by show w.heap.size+1+1≠w.heap.size; omega)
    have A:∀m,Below w.heap.size w (wr.drewN m):=fun m=>by
     have h1:Below w.heap.size w wr:=C.out.trans (Q.out.below C.out.size fun x Y=>by show x≠w.heap.size; omega);exact h1.trans ((fC _ m).mono h1.size)
    have R:=aD A;obtain⟨N,B⟩:∃N,N=(dI a (pad r) b).toList:=⟨_,rfl⟩
    have b0:∀m,(wr.drewN m).rangeAt w.heap.size 0 N:=fun m=>by
     rw[B];exact Hr (eV n (fC _ m)) aM.out U ((V 31 (by omega)).trans aC.out) fun j x Y=>(V (1+j) (by omega)).trans (Z.out j x Y)
    have b6:(Tryz.prog.info? 190).map (·.size)=some N.length:=by rw[B]; exact DU aM.out
    have a4:=aD b0;have a6:=aD b6
    have aR:N.toArray=dI a (pad r) b:=by rw[B,Array.toArray_toList]
    have bA:=aD aR;clear b0 b6 B aR;clear aU V U aS A B2
    have X:eH aH secs r g.toNat≠secs.length->eH aH secs r g.toNat=a->dO (pQ aH secs g l b)=.iface 190 (.agg N.toArray):=fun h1 h2=>by
     unfold pQ;rw[← aF.out,if_neg h1,h2,bA.out];rfl
    have aN:=aD X;clear X;by_cases p:a<secs.length
    ·obtain h0 | ⟨bs,os,rfl,a8,K⟩:=HS.out
     ·omega
     obtain⟨s,E⟩:=eU secs p;obtain⟨aW,aX⟩:=aG.out s (List.mem_of_getElem? E);obtain h0 | ⟨bc,oc,rfl,a7,J⟩:=aK.out
     ·omega
     obtain⟨o,t⟩:∃o,aH[s.toNat]?=some o:=⟨aH[s.toNat]'(by omega),List.getElem?_eq_getElem _⟩;obtain⟨y,u⟩:=eU r (i:=a) (by rw[d.out]; exact p)
     have b8:(pad r)[a]?=some y:=by unfold pad; rw[List.getElem?_append_left (by rw[d.out]; exact p)]; exact u
     have s0:=Q.out.cell (bP (K a p s E) C.out) (by show bs≠w.heap.size; have:bs<w.heap.size:=a8; omega);have o0:=Q.out.cell (bP (J s.toNat (by omega) o t) C.out) (by show bc≠w.heap.size; have:bc<w.heap.size:=a7; omega);have gk:=n.cell (i:=1+a) (by omega);rw[a2.out _ (by omega),Z.out a y b8] at gk
     have aY:(a:Int)<30:=by omega
     have bY:(a:Int)<(secs.length:Int):=by omega
     have c2:(a:Int)<=(secs.length:Int)-1:=by omega
     have M:nY aH secs r a=false->dO (pQ aH secs g l b)=.iface 190 (.agg N.toArray):=fun bJ=>by
      have aA:eH aH secs r g.toNat=a:=a3.out.trans (Ac (by rw[d.out]; exact p) bJ);exact aN.out (by omega) aA
     have h:nY aH secs r a=true->∀m:Nat,∃(k:Nat) (T:Nat->Value),k<=secs.length∧eH aH secs r g.toNat=eH aH secs r k∧But (fun c=>c≠w.heap.size) W0 ((wr.drewN m).setCell ⟨w.heap.size,0,none⟩ (.int .i64 ((a:Int)+1)))∧((wr.drewN m).setCell ⟨w.heap.size,0,none⟩ (.int .i64 ((a:Int)+1))).rowIs w.heap.size 190 32 T∧T 0=.int .i64 k∧∀q,q≠0->T q=S q:=fun b7 m=>
      ⟨a+1,_,by omega,a3.out.trans (Ce (by rw[d.out]; exact p) b7),(Q.out.call (fC _ _)).setCell (fun z=>z rfl) _,(eV n (fC _ m)).set 0 _,by rw[if_pos rfl]; go_num,fun q hq=>by rw[if_neg hq]; exact a2.out q hq⟩
     have F:=aD h;have a5:=aD M;have Hs:=aD E;have D:=aD (uX t);have Hy:=aD u;have G:=aD n;clear h M E t u K J b8 n
     cases y
     ·go_wp2
      go_quiet (fail)
      go_wp2_with (refine wpList_load_mid rfl 190 _ rfl w.heap.size 0 rfl N _ (a4.out _) Tryz.underlying190 rfl a6.out ?_)
      go_wp2;go_ret;exact⟨by rw[a5.out (by rw[vN Hs.out Hy.out]; rfl)]; rfl,R.out _⟩
     ·cases o
      ·by_cases aZ:a+1<secs.length
       ·obtain⟨z,P⟩:=eU r (i:=a+1) (by rw[d.out]; exact aZ)
        have b9:(pad r)[a+1]?=some z:=by unfold pad; rw[List.getElem?_append_left (by rw[d.out]; exact aZ)]; exact P
        have gz:=G.out.cell (i:=1+(a+1)) (by omega);rw[a2.out _ (by omega),Z.out _ z b9] at gz;have Hz:=aD P
        have bI:((a:Int) == (secs.length:Int)-1)=false:=by simp; omega
        have bZ:(a:Int)+1<30:=by omega
        clear P b9
        cases z
        ·go_wp2
         go_quiet (fail)
         go_wp2_with (refine wpList_load_mid rfl 190 _ rfl w.heap.size 0 rfl N _ (a4.out _) Tryz.underlying190 rfl a6.out ?_)
         go_wp2;go_ret;exact⟨by rw[a5.out (by rw[zB Hs.out Hy.out Hz.out,D.out]; rfl)]; rfl,R.out _⟩
        ·go_wp2
         go_quiet (fail)
         go_wp2;go_roundw
         case rel=>exact F.out (by rw[zB Hs.out Hy.out Hz.out,D.out]; rfl) _
         case measure=>rw[aE.out,Dl G.out]; omega
       ·have bI:((a:Int) == (secs.length:Int)-1)=true:=by simp; omega
        go_wp2
        go_quiet (fail)
        go_wp2;go_roundw
        case rel=>exact F.out (by rw[DK Hs.out Hy.out (by rw[d.out]; omega),D.out]; rfl) _
        case measure=>rw[aE.out,Dl G.out]; omega
      ·go_wp2
       go_quiet (fail)
       go_wp2_with (refine wpList_load_mid rfl 190 _ rfl w.heap.size 0 rfl N _ (a4.out _) Tryz.underlying190 rfl a6.out ?_)
       go_wp2;go_ret;exact⟨by rw[a5.out (by rw[vN Hs.out Hy.out,D.out]; rfl)]; rfl,R.out _⟩
    ·have L:dO (pQ aH secs g l b)=dO .idle:=by
      have aA:eH aH secs r g.toNat=secs.length:=(a3.out.trans (Ct (by rw[d.out]; omega))).trans (by omega);unfold pQ;rw[← aF.out,if_pos aA]
     have bB:=aD L
     have bR:decide ((a:Int)<=(secs.length:Int)-1)=false:=by simp; omega
     have bV:(secs.length:Int)-1<(a:Int):=by omega
     clear L;go_wp2
     go_quiet (fail)
     go_wp2;go_ret;exact⟨by rw[bB.out]; rfl,R.out _⟩
theorem vJ {B:Nat}{a:World}{b:Nat}(c:B<=b):∀(d:List Value) (o:Nat) (w:World),Below B a w->Below B a (w.setCells b o d)
 | [],_,_,h=>h
 | v :: r,o,w,h=>by
  rw[World.setCells]
  exact vJ c r (o+1) _ (h.setCell c v)
theorem yV {W:World}{t:TypeId}{Z:Array Value}(b:Z.size=32):(W.alloc (.cells Z t)).there W.heap.size 0 32:=fun j c=>by
 have a:=dH W t Z
 rw[b] at a
 rw[Nat.zero_add]
 exact⟨by rw[a.cell c]; rfl,a.frozen j⟩
theorem Dk {W:World}{t:TypeId}{Z a:Array Value}(c:a.size=32) (b:Z.size=32):Below W.heap.size W ((W.alloc (.cells Z t)).setCells W.heap.size 0 a.toList)∧((W.alloc (.cells Z t)).setCells W.heap.size 0 a.toList).rangeAt W.heap.size 0 a.toList:=
 ⟨vJ (Nat.le_refl _) _ _ _ (bC _ _),World.rangeAt_setCells_same _ _ _ _ (by rw[Array.length_toList,c]; exact yV b)⟩
theorem BI {g:Int}{l:List Bool}{b:Bool}:(dI g l b).all (·.oneCell')=true:=by
 unfold dI;refine all_oneCell_toArray fun v a=>?_;rcases List.mem_cons.1 a with rfl | a
 ·rfl
 ·rcases List.mem_append.1 a with a | a
  ·obtain⟨x,-,rfl⟩:=List.mem_map.1 a;rfl
  ·rcases List.mem_singleton.1 a with rfl;rfl
set_option maxRecDepth 100000 in
set_option maxHeartbeats 8000000 in
theorem D6 (ok f1 M S u0 N O P Q:Value) (s:bL) (aH:List Bool) (aC:List (Int×Int)) (x:aT) (w:World) (aR:Bools (In w) w f1 aH) (aS:Lies (In w) w M aC) (hx:cC (In w) w u0 N O P Q x)
  (hs:x.Small 30) (hl:∀y,(y∈x.aQ∨y∈x.aJ)->0<=y.1∧y.1<aC.length) (hc:∀s,(s∈x.aA∨s∈x.over)->0<=s∧s<aH.length) (hz:aC.length<=1048576∧aH.length<=1048576) (aZ:1<=x.aA.length) (a8:iF x.aA.length s) :
  Calls Tryz.prog 96 #[.agg #[ok,f1,M,S],.agg #[u0,N,O,P,Q],dO s] w fun e w'=>e=.returned (dO (mU aH aC x s))∧Below w.heap.size w w':=by
 have T0:=eB w 40 51 #[ok,f1,M,S] #[u0,N,O,P,Q];have aU:∀W,Below w.heap.size w W->Bools (In W) W f1 aH:=fun W h=>aR.keep (In.keep h).1 (In.keep h).2;have aV:∀W,Below w.heap.size w W->Lies (In W) W M aC:=fun W h=>aS.keep (In.keep h).1 (In.keep h).2;have aW:∀W,Below w.heap.size w W->cC (In W) W u0 N O P Q x:=fun W h=>hx.keep (In.keep h).1 (In.keep h).2;have K1:=aD aU;have K2:=aD aV;have K3:=aD aW;have HL:=aD hl;have HC:=aD hc;have HS:=aD hs;have HF:=aD a8;obtain⟨z1,z2⟩:=hz;obtain⟨sv,aL⟩:∃v,v=dO s:=⟨_,rfl⟩;rw[← aL];have a6:=aD aL;obtain⟨a0,c0,rfl,q0⟩:=hx.1;obtain⟨a1,c1,rfl,q1⟩:=aR;obtain h0 | ⟨bs,os,rfl,b7,aP⟩:=q0
 ·omega
 obtain⟨s0,a7⟩:=eU x.aA (i:=0) (by omega);obtain⟨b4,b5⟩:=hc s0 (.inl (List.mem_of_getElem? a7));obtain h0 | ⟨bc,oc,rfl,b6,aO⟩:=q1
 ·omega
 obtain⟨o,aK⟩:∃o,aH[s0.toNat]?=some o:=⟨aH[s0.toNat]'(by omega),List.getElem?_eq_getElem _⟩;have g0:=bP (aP 0 (by omega) s0 a7) T0.below;have g1:=bP (aO s0.toNat (by omega) o aK) T0.below;rw[Nat.add_zero] at g0
 have aX:eA aH (x.aA.getD 0 0)=o:=by rw[List.getD_eq_getElem?_getD,a7]; exact uX aK
 have aN:=aD aX
 have b8:(0:Int)<(x.aA.length:Int):=by omega
 have hT:∀m,bD w [(40,#[ok,.slice (some ⟨bc,oc,none⟩) aH.length c1,M,S]),(51,#[.slice (some ⟨bs,os,none⟩) x.aA.length c0,N,O,P,Q])] ((((w.alloc (.cells #[ok,.slice (some ⟨bc,oc,none⟩) aH.length c1,M,S] 40)).alloc (.cells #[.slice (some ⟨bs,os,none⟩) x.aA.length c0,N,O,P,Q] 51))).drewN m):=fun m=>T0.call (pG _ m);have HT:=aD hT;clear hT aU aV aW aS hx hl hc hs a8 aL aP aO a7 aK aX T0;go_enter Tryz.func96,Tryz.ntmps96
 cases o with
 | false=>
  go_wp2
  go_quiet (fail)
  have q:=HT.out nq;generalize World.drewN _ nq=a at q ⊢
  have aY:mU aH aC x s=zrw aH aC x s:=by unfold mU; rw[aN.out,if_neg (by decide)]
  obtain⟨R,C⟩:∃R,R=s:=⟨_,rfl⟩
  have u:Hid (sv=dO R):=by rw[C]; exact a6
  have T:Hid (iF x.aA.length R):=by rw[C]; exact HF
  have z:Hid (mU aH aC x s=zrw aH aC x R):=by rw[C]; exact aY
  clear aY C a6 HF HT g0 g1
  cases R using bL.by with
  | idle=>
   have D:sv=.iface 103 (.agg #[]):=u.out;subst D;have n:=Tryz.eF (.agg #[]);have f:=Tryz.dL (.agg #[]);have r:=Tryz.gW (.agg #[]);go_wp2;go_ret;exact⟨by rw[z.out]; rfl,q.below⟩
  | taking t=>
   have D:sv=.iface 235 (.agg #[.int .i64 t]):=u.out;subst D;have n:=Tryz.dM (.agg #[.int .i64 t]);have f:=Tryz.cW (.agg #[.int .i64 t]);have r:=Tryz.fT (.agg #[.int .i64 t]);go_wp2;go_ret;exact⟨by rw[z.out]; rfl,q.below⟩
  | set sb=>
   have D:sv=.iface 185 (.agg #[.bool sb]):=u.out;subst D;have n:=Tryz.dY (.agg #[.bool sb]);have c:=q.call (bC a (.cells #[.bool sb] 185));have H:=c.c 0 0 rfl rfl;have I:=c.c 0 1 rfl rfl;have J:=c.c 0 2 rfl rfl;have K:=c.c 0 3 rfl rfl;have Y:=c.c 1 0 rfl rfl;have d1:=c.c 1 1 rfl rfl;have d2:=c.c 1 2 rfl rfl;have d3:=c.c 1 3 rfl rfl;have d4:=c.c 1 4 rfl rfl;rw[Nat.add_zero] at H I J K
   go_wp2_with fail
   refine (yM ok _ M S _ N O P Q sb aH aC x _ (K1.out _ c.below) (K2.out _ c.below) (K3.out _ c.below) HS.out HL.out HC.out ⟨z1,z2⟩).mono ?_;clear H I J K Y d1 d2 d3 d4;rintro e w3 ⟨rfl,A⟩;have X:=c.call A;clear A;go_wp2;go_ret;exact⟨by rw[z.out]; rfl,X.below⟩
  | clear=>
   have D:sv=.iface 187 (.agg #[]):=u.out;subst D;have n:=Tryz.dV (.agg #[]);have f:=Tryz.dB (.agg #[]);have c:=q.call (bC a (.cells #[] 187));have H:=c.c 0 0 rfl rfl;have I:=c.c 0 1 rfl rfl;have J:=c.c 0 2 rfl rfl;have K:=c.c 0 3 rfl rfl;have Y:=c.c 1 0 rfl rfl;have d1:=c.c 1 1 rfl rfl;have d2:=c.c 1 2 rfl rfl;have d3:=c.c 1 3 rfl rfl;have d4:=c.c 1 4 rfl rfl;rw[Nat.add_zero] at H I J K
   go_wp2_with fail
   refine (yM ok _ M S _ N O P Q true aH aC x _ (K1.out _ c.below) (K2.out _ c.below) (K3.out _ c.below) HS.out HL.out HC.out ⟨z1,z2⟩).mono ?_;clear H I J K Y d1 d2 d3 d4;rintro e w3 ⟨rfl,A⟩;have X:=c.call A;clear A;go_wp2;go_ret;exact⟨by rw[z.out]; rfl,X.below⟩
  | used g l b=>
   obtain⟨d,p⟩:∃d,d=dI g l b:=⟨_,rfl⟩
   have D:sv=.iface 190 (.agg d):=by rw[p]; exact u.out
   clear u;subst D;have n:=Tryz.eG (.agg d);have f:=Tryz.dN (.agg d);have r:=Tryz.gX (.agg d)
   have B:d.size=32:=by rw[p,tQ T.out.1]
   have a4:∀Z:Array Value,Z.size=32->(a.alloc (.cells Z 190)).there a.heap.size 0 d.size:=fun Z hZ=>by rw[B]; exact yV hZ
   have L:(Tryz.prog.info? 190).map (·.size)=some d.size:=by rw[B]; exact Tryz.gZ
   have G:d.all (·.oneCell')=true:=by rw[p]; exact BI
   have E:(Tryz.prog.info? 190).map (·.size)=some d.toList.length:=by rw[Array.length_toList]; exact L
   have aG:=aD a4;have aF:=aD L;have V:=aD G;have U:=aD E;have aB:=aD p;have a9:=aD B;clear a4 L G E p B;have a2:∀Z:Array Value,Below a.heap.size a ((a.alloc (.cells Z 190)).setCells a.heap.size 0 d.toList):=fun Z=>vJ (Nat.le_refl _) _ _ _ (bC _ _);have a3:∀Z:Array Value,Z.size=32->((a.alloc (.cells Z 190)).setCells a.heap.size 0 d.toList).rangeAt a.heap.size 0 d.toList:=fun Z hZ=>(Dk a9.out hZ).2;have aE:=aD a3;have k:=aD a2;clear a3 a2;have H:∀Z:Array Value,((a.alloc (.cells Z 190)).setCells a.heap.size 0 d.toList).cell? ⟨w.heap.size,0,none⟩=some (ok):=fun Z=>(q.call (k.out Z)).c 0 0 rfl rfl;have I:∀Z:Array Value,((a.alloc (.cells Z 190)).setCells a.heap.size 0 d.toList).cell? ⟨w.heap.size,1,none⟩=some (.slice (some ⟨bc,oc,none⟩) aH.length c1):=fun Z=>(q.call (k.out Z)).c 0 1 rfl rfl;have J:∀Z:Array Value,((a.alloc (.cells Z 190)).setCells a.heap.size 0 d.toList).cell? ⟨w.heap.size,2,none⟩=some (M):=fun Z=>(q.call (k.out Z)).c 0 2 rfl rfl;have K:∀Z:Array Value,((a.alloc (.cells Z 190)).setCells a.heap.size 0 d.toList).cell? ⟨w.heap.size,3,none⟩=some (S):=fun Z=>(q.call (k.out Z)).c 0 3 rfl rfl;have Y:∀Z:Array Value,((a.alloc (.cells Z 190)).setCells a.heap.size 0 d.toList).cell? ⟨w.heap.size+1,0,none⟩=some (.slice (some ⟨bs,os,none⟩) x.aA.length c0):=fun Z=>(q.call (k.out Z)).c 1 0 rfl rfl
   have d1:∀Z:Array Value,((a.alloc (.cells Z 190)).setCells a.heap.size 0 d.toList).cell? ⟨w.heap.size+1,1,none⟩=some (N):=fun Z=>(q.call (k.out Z)).c 1 1 rfl rfl;have d2:∀Z:Array Value,((a.alloc (.cells Z 190)).setCells a.heap.size 0 d.toList).cell? ⟨w.heap.size+1,2,none⟩=some (O):=fun Z=>(q.call (k.out Z)).c 1 2 rfl rfl;have d3:∀Z:Array Value,((a.alloc (.cells Z 190)).setCells a.heap.size 0 d.toList).cell? ⟨w.heap.size+1,3,none⟩=some (P):=fun Z=>(q.call (k.out Z)).c 1 3 rfl rfl;have d4:∀Z:Array Value,((a.alloc (.cells Z 190)).setCells a.heap.size 0 d.toList).cell? ⟨w.heap.size+1,4,none⟩=some (Q):=fun Z=>(q.call (k.out Z)).c 1 4 rfl rfl
   go_wp2_with (first | (refine wpList_store_mid rfl 190 _ _ rfl a.heap.size 0 d rfl rfl (aG.out _ rfl) aF.out V.out ?_) | (refine wpList_load_mid rfl 190 _ rfl a.heap.size 0 rfl d.toList _ (aE.out _ rfl) Tryz.underlying190 rfl U.out ?_))
   generalize hG:World.setCells (World.alloc a _) a.heap.size 0 d.toList=W2
   have F:Below a.heap.size a W2:=by rw[← hG]; exact k.out _
   have c:=q.call F;clear hG F
   try rw[Array.toArray_toList]
   rw[aB.out];refine (zig ok _ M S _ N O P Q aH x.aA g l b _ (K1.out _ c.below) (K3.out _ c.below).1 T.out HS.out.1 (fun y hy=>HC.out y (.inl hy)) z2).mono ?_;clear H I J K Y d1 d2 d3 d4;rintro e w3 ⟨rfl,A⟩;have X:=c.call A;clear A;go_wp2;go_ret;exact⟨by rw[z.out]; rfl,X.below⟩
 | true=>
  go_wp2
  go_quiet (fail)
  have q:=HT.out nq;generalize World.drewN _ nq=W0 at q ⊢;have aI:=GD s W0;rw[← a6.out] at aI
  go_wp2_with fail
  refine aI.mono ?_;rintro e a ⟨rfl,A⟩;replace q:=q.call A;obtain⟨R,C⟩:∃R,R=zJ s:=⟨_,rfl⟩;rw[← C]
  have T:Hid (iF x.aA.length R):=by rw[C]; exact CY HF.out aZ HS.out.1
  have z:Hid (mU aH aC x s=zrw aH aC x R):=by rw[C]; show mU aH aC x s=_; unfold mU; rw[aN.out,if_pos rfl]
  obtain⟨a5,aM⟩:∃v,v=dO R:=⟨_,rfl⟩;rw[← aM];have u:=aD aM;clear aI A C a6 HF HT g0 g1 aM
  cases R using bL.by with
  | idle=>
   have D:a5=.iface 103 (.agg #[]):=u.out;subst D;have n:=Tryz.eF (.agg #[]);have f:=Tryz.dL (.agg #[]);have r:=Tryz.gW (.agg #[]);go_wp2;go_ret;exact⟨by rw[z.out]; rfl,q.below⟩
  | taking t=>
   have D:a5=.iface 235 (.agg #[.int .i64 t]):=u.out;subst D;have n:=Tryz.dM (.agg #[.int .i64 t]);have f:=Tryz.cW (.agg #[.int .i64 t]);have r:=Tryz.fT (.agg #[.int .i64 t]);go_wp2;go_ret;exact⟨by rw[z.out]; rfl,q.below⟩
  | set sb=>
   have D:a5=.iface 185 (.agg #[.bool sb]):=u.out;subst D;have n:=Tryz.dY (.agg #[.bool sb]);have c:=q.call (bC a (.cells #[.bool sb] 185));have H:=c.c 0 0 rfl rfl;have I:=c.c 0 1 rfl rfl;have J:=c.c 0 2 rfl rfl;have K:=c.c 0 3 rfl rfl;have Y:=c.c 1 0 rfl rfl;have d1:=c.c 1 1 rfl rfl;have d2:=c.c 1 2 rfl rfl;have d3:=c.c 1 3 rfl rfl;have d4:=c.c 1 4 rfl rfl;rw[Nat.add_zero] at H I J K
   go_wp2_with fail
   refine (yM ok _ M S _ N O P Q sb aH aC x _ (K1.out _ c.below) (K2.out _ c.below) (K3.out _ c.below) HS.out HL.out HC.out ⟨z1,z2⟩).mono ?_;clear H I J K Y d1 d2 d3 d4;rintro e w3 ⟨rfl,A⟩;have X:=c.call A;clear A;go_wp2;go_ret;exact⟨by rw[z.out]; rfl,X.below⟩
  | clear=>
   have D:a5=.iface 187 (.agg #[]):=u.out;subst D;have n:=Tryz.dV (.agg #[]);have f:=Tryz.dB (.agg #[]);have c:=q.call (bC a (.cells #[] 187));have H:=c.c 0 0 rfl rfl;have I:=c.c 0 1 rfl rfl;have J:=c.c 0 2 rfl rfl;have K:=c.c 0 3 rfl rfl;have Y:=c.c 1 0 rfl rfl;have d1:=c.c 1 1 rfl rfl;have d2:=c.c 1 2 rfl rfl;have d3:=c.c 1 3 rfl rfl;have d4:=c.c 1 4 rfl rfl;rw[Nat.add_zero] at H I J K
   go_wp2_with fail
   refine (yM ok _ M S _ N O P Q true aH aC x _ (K1.out _ c.below) (K2.out _ c.below) (K3.out _ c.below) HS.out HL.out HC.out ⟨z1,z2⟩).mono ?_;clear H I J K Y d1 d2 d3 d4;rintro e w3 ⟨rfl,A⟩;have X:=c.call A;clear A;go_wp2;go_ret;exact⟨by rw[z.out]; rfl,X.below⟩
  | used g l b=>
   obtain⟨d,p⟩:∃d,d=dI g l b:=⟨_,rfl⟩
   have D:a5=.iface 190 (.agg d):=by rw[p]; exact u.out
   clear u;subst D;have n:=Tryz.eG (.agg d);have f:=Tryz.dN (.agg d);have r:=Tryz.gX (.agg d)
   have B:d.size=32:=by rw[p,tQ T.out.1]
   have a4:∀Z:Array Value,Z.size=32->(a.alloc (.cells Z 190)).there a.heap.size 0 d.size:=fun Z hZ=>by rw[B]; exact yV hZ
   have L:(Tryz.prog.info? 190).map (·.size)=some d.size:=by rw[B]; exact Tryz.gZ
   have G:d.all (·.oneCell')=true:=by rw[p]; exact BI
   have E:(Tryz.prog.info? 190).map (·.size)=some d.toList.length:=by rw[Array.length_toList]; exact L
   have aG:=aD a4;have aF:=aD L;have V:=aD G;have U:=aD E;have aB:=aD p;have a9:=aD B;clear a4 L G E p B;have a2:∀Z:Array Value,Below a.heap.size a ((a.alloc (.cells Z 190)).setCells a.heap.size 0 d.toList):=fun Z=>vJ (Nat.le_refl _) _ _ _ (bC _ _);have a3:∀Z:Array Value,Z.size=32->((a.alloc (.cells Z 190)).setCells a.heap.size 0 d.toList).rangeAt a.heap.size 0 d.toList:=fun Z hZ=>(Dk a9.out hZ).2;have aE:=aD a3;have k:=aD a2;clear a3 a2;have H:∀Z:Array Value,((a.alloc (.cells Z 190)).setCells a.heap.size 0 d.toList).cell? ⟨w.heap.size,0,none⟩=some (ok):=fun Z=>(q.call (k.out Z)).c 0 0 rfl rfl;have I:∀Z:Array Value,((a.alloc (.cells Z 190)).setCells a.heap.size 0 d.toList).cell? ⟨w.heap.size,1,none⟩=some (.slice (some ⟨bc,oc,none⟩) aH.length c1):=fun Z=>(q.call (k.out Z)).c 0 1 rfl rfl;have J:∀Z:Array Value,((a.alloc (.cells Z 190)).setCells a.heap.size 0 d.toList).cell? ⟨w.heap.size,2,none⟩=some (M):=fun Z=>(q.call (k.out Z)).c 0 2 rfl rfl;have K:∀Z:Array Value,((a.alloc (.cells Z 190)).setCells a.heap.size 0 d.toList).cell? ⟨w.heap.size,3,none⟩=some (S):=fun Z=>(q.call (k.out Z)).c 0 3 rfl rfl;have Y:∀Z:Array Value,((a.alloc (.cells Z 190)).setCells a.heap.size 0 d.toList).cell? ⟨w.heap.size+1,0,none⟩=some (.slice (some ⟨bs,os,none⟩) x.aA.length c0):=fun Z=>(q.call (k.out Z)).c 1 0 rfl rfl
   have d1:∀Z:Array Value,((a.alloc (.cells Z 190)).setCells a.heap.size 0 d.toList).cell? ⟨w.heap.size+1,1,none⟩=some (N):=fun Z=>(q.call (k.out Z)).c 1 1 rfl rfl;have d2:∀Z:Array Value,((a.alloc (.cells Z 190)).setCells a.heap.size 0 d.toList).cell? ⟨w.heap.size+1,2,none⟩=some (O):=fun Z=>(q.call (k.out Z)).c 1 2 rfl rfl;have d3:∀Z:Array Value,((a.alloc (.cells Z 190)).setCells a.heap.size 0 d.toList).cell? ⟨w.heap.size+1,3,none⟩=some (P):=fun Z=>(q.call (k.out Z)).c 1 3 rfl rfl;have d4:∀Z:Array Value,((a.alloc (.cells Z 190)).setCells a.heap.size 0 d.toList).cell? ⟨w.heap.size+1,4,none⟩=some (Q):=fun Z=>(q.call (k.out Z)).c 1 4 rfl rfl
   go_wp2_with (first | (refine wpList_store_mid rfl 190 _ _ rfl a.heap.size 0 d rfl rfl (aG.out _ rfl) aF.out V.out ?_) | (refine wpList_load_mid rfl 190 _ rfl a.heap.size 0 rfl d.toList _ (aE.out _ rfl) Tryz.underlying190 rfl U.out ?_))
   generalize hG:World.setCells (World.alloc a _) a.heap.size 0 d.toList=W2
   have F:Below a.heap.size a W2:=by rw[← hG]; exact k.out _
   have c:=q.call F;clear hG F
   try rw[Array.toArray_toList]
   rw[aB.out];refine (zig ok _ M S _ N O P Q aH x.aA g l b _ (K1.out _ c.below) (K3.out _ c.below).1 T.out HS.out.1 (fun y hy=>HC.out y (.inl hy)) z2).mono ?_;clear H I J K Y d1 d2 d3 d4;rintro e w3 ⟨rfl,A⟩;have X:=c.call A;clear A;go_wp2;go_ret;exact⟨by rw[z.out]; rfl,X.below⟩
theorem Ga {W:World}{u t:Nat}{f:Nat->Value}{g:Int}{l:List Bool}{b:Bool}(d:W.rowIs u t 32 f) (o:l.length<=30) (k:f 0=.int .i64 g) (m:f 31=.bool b) (n:∀j,j<30->f (1+j)=.bool false) :
  (W.setCells u 1 (l.map Value.bool)).rangeAt u 0 (dI g (pad l) b).toList:=by
 intro j v a;have c:=vA o
 have p:j<32:=by have:=(List.getElem?_eq_some_iff.1 a).1; rw[Array.length_toList,tQ c] at this; exact this
 rw[pO] at a;rw[Nat.zero_add];rcases j with _ | j
 ·rw[World.cell?_setCells_out u _ 1 W ⟨u,0,none⟩ fun _ _=>.inl (by show 0<1; omega),d.cell (by omega),k];exact a
 ·rw[List.getElem?_cons_succ] at a;by_cases e:j<l.length
  ·rw[show j+1=1+j by omega,World.cell?_setCells_in u (l.map Value.bool) 1 W (fun i hi=>by rw[d.cell (by simp at hi; omega)]; rfl) j (by simpa using e)];rw[List.getElem?_append_left (by simp; omega),List.getElem?_map] at a;unfold pad at a;rw[List.getElem?_append_left e,List.getElem?_eq_getElem e] at a;simpa using a
  ·rw[World.cell?_setCells_out u _ 1 W ⟨u,j+1,none⟩ fun _ _=>.inr (by simp; omega),d.cell (by omega)];by_cases h:j<30
   ·rw[List.getElem?_append_left (by simp; omega),List.getElem?_map] at a;unfold pad at a;rw[List.getElem?_append_right (by omega),List.getElem?_replicate,if_pos (by omega)] at a;rw[show j+1=1+j by omega,n j h];exact a
   ·obtain rfl:j=30:=by omega
    rw[List.getElem?_append_right (by simp; omega)] at a;simp[c] at a;rw[m,a]
theorem CM {u t n:Nat}:∀(b:List Value) (o:Nat) {W:World}{f:Nat->Value},W.rowIs u t n f->∃f',(W.setCells u o b).rowIs u t n f'∧(∀(j:Nat) v,b[j]?=some v->f' (o+j)=v)∧∀q,q<o∨o+b.length<=q->f' q=f q
 | [],_,_,f,h=>⟨f,h,fun j v i=>by simp at i,fun _ _=>rfl⟩
 | v :: r,o,W,f,h=>by
  obtain⟨f',e,g,c⟩:=CM r (o+1) (h.set o v)
  refine⟨f',e,fun j x a=>?_,fun q d=>?_⟩
  ·rcases j with _ | j
   ·cases a
    rw[Nat.add_zero,c o (.inl (by omega)),if_pos rfl]
   ·rw[List.getElem?_cons_succ] at a
    rw[show o+(j+1)=o+1+j by omega]
    exact g j x a
  ·rw[c q (by simp at d; omega),if_neg (by simp at d; omega)]
def vG:Option bL->Value
 | some s=>dO s
 | none=>.nilIface
theorem GJ {w:World}{c:Array Value}{t:TypeId}{Z a:Array Value}(h:Z.size=32):bD w [(t,c)] (((w.alloc (.cells c t)).alloc (.cells Z 190)).setCells (w.heap.size+1) 0 a.toList)∧∃f,(((w.alloc (.cells c t)).alloc (.cells Z 190)).setCells (w.heap.size+1) 0 a.toList).rowIs (w.heap.size+1) 190 32 f∧∀(j:Nat) v,a.toList[j]?=some v->f (0+j)=v:=by
 have T:=cZ w t c
 have b:(w.alloc (.cells c t)).heap.size=w.heap.size+1:=by simp
 have d:=dH (w.alloc (.cells c t)) 190 Z;rw[b,h] at d;obtain⟨f,e,g,-⟩:=CM a.toList 0 d;refine⟨T.call ?_,f,e,g⟩;rw[b];exact vJ (Nat.le_refl _) _ _ _ (by have:=bC (w.alloc (.cells c t)) (.cells Z 190); rwa [b] at this)
set_option maxRecDepth 100000 in
set_option maxHeartbeats 8000000 in
theorem yO (h:aM) (v2:Value) (w:World) (hb:Bools (In w) w v2 h.aL) (U:h.aL.length<=30) (V:1<=h.aL.length) :
  Calls Tryz.prog 142 #[.agg #[.int .i64 h.state,.int .i64 h.gone,v2,.bool h.aR,.int .i64 h.aN]] w fun e w'=>e=.returned (vG (iG h))∧Below w.heap.size w w':=by
 obtain⟨state,gone,aL,aR,aN⟩:=h;simp only at hb U V ⊢;have u:=cZ w 44 #[.int .i64 state,.int .i64 gone,v2,.bool aR,.int .i64 aN];obtain⟨a2,z,rfl,B⟩:=hb;by_cases m:state=0
 ·subst m;clear B;go_enter Tryz.func142,Tryz.ntmps142;go_wp2;go_ret;exact⟨rfl,u.below⟩
 by_cases r:state=1
 ·subst r;clear B m;go_enter Tryz.func142,Tryz.ntmps142;go_wp2;go_ret;exact⟨rfl,u.below⟩
 by_cases A:state=2
 ·subst A;clear B m r;go_enter Tryz.func142,Tryz.ntmps142;go_wp2;go_ret;exact⟨rfl,u.below⟩
 by_cases F:state=3
 ·subst F;clear B m r A;go_enter Tryz.func142,Tryz.ntmps142;go_wp2;go_ret;exact⟨rfl,u.below⟩
 by_cases N:state=4
 ·subst N;clear m r A F;obtain hz | ⟨bb,C,rfl,a0,hcb⟩:=B
  ·omega
  have n:vG (iG ⟨4,gone,aL,aR,aN⟩)=.iface 190 (.agg (dI gone (pad aL) aR)):=rfl;rw[n];clear n;have R:=aD hcb;clear hcb u;go_enter Tryz.func142,Tryz.ntmps142
  have M:∀Z:Array Value,Z.size=32->((w.alloc (.cells #[.int .i64 4,.int .i64 gone,.slice (some ⟨bb,C,none⟩) aL.length z,.bool aR,.int .i64 aN] 44)).alloc (.cells Z 190)).there (w.heap.size+1) 0 (dI gone (List.replicate 30 false) aR).size:=fun Z hZ=>by
   rw[tQ (by rw[List.length_replicate])];have:=yV (W:=w.alloc (.cells #[.int .i64 4,.int .i64 gone,.slice (some ⟨bb,C,none⟩) aL.length z,.bool aR,.int .i64 aN] 44)) (t:=190) hZ
   rwa [show (w.alloc (.cells #[.int .i64 4,.int .i64 gone,.slice (some ⟨bb,C,none⟩) aL.length z,.bool aR,.int .i64 aN] 44)).heap.size=w.heap.size+1 by simp] at this
  have p:(Tryz.prog.info? 190).map (·.size)=some (dI gone (List.replicate 30 false) aR).size:=by rw[tQ (by rw[List.length_replicate])]; exact Tryz.gZ
  have D:=aD M;have l:=aD p;clear M p
  go_wp2_with (refine wpList_store_mid rfl 190 _ _ rfl (w.heap.size+1) 0 (dI gone (List.replicate 30 false) aR) rfl rfl (D.out _ rfl) l.out BI ?_)
  generalize hG:World.setCells (World.alloc (World.alloc w _) _) (w.heap.size+1) 0 _=W1
  have x:bD w [(44,#[.int .i64 4,.int .i64 gone,.slice (some ⟨bb,C,none⟩) aL.length z,.bool aR,.int .i64 aN])] W1∧∃f,W1.rowIs (w.heap.size+1) 190 32 f∧∀(j:Nat) v,(dI gone (List.replicate 30 false) aR).toList[j]?=some v->f (0+j)=v:=by
   rw[← hG];exact GJ rfl
  obtain⟨x,T,o,d⟩:=x;clear hG;have g:=eV o (cT _);have G:T 0=.int .i64 gone:=d 0 _ (by rw[pO]; rfl)
  have I:∀(j:Nat),j<30->T (1+j)=.bool false:=fun j O=>by
   have:=d (1+j) (.bool false) (by rw[pO,Nat.add_comm,List.getElem?_cons_succ,List.getElem?_append_left (by simpa using O),List.getElem?_map,List.getElem?_replicate,if_pos O]; rfl)
   rwa [Nat.zero_add] at this
  have H:T 31=.bool aR:=d 31 _ (by rw[pO,List.getElem?_cons_succ,List.getElem?_append_right (by rw[List.length_map,List.length_replicate]; omega),List.length_map,List.length_replicate]; rfl);clear d o D l;obtain⟨s,b⟩:∃s,s=aL.map Value.bool:=⟨_,rfl⟩
  have a1:∀Y,(Builtin.copy_ #[36,36] Y #[.slice (some ⟨w.heap.size+1,1,none⟩) 30 30,.slice (some ⟨bb,C,none⟩) aL.length z]).run Tryz.prog W1.drew=.ok (goInt s.length) (W1.drew.setCells (w.heap.size+1) 1 s):=fun Y=>
   run_copy_cells (P:=Tryz.prog) _ 36 36 Y 4 (w.heap.size+1) 1 30 30 ⟨bb,C,none⟩ aL.length z s Tryz.underlying36 (by kernel_rfl) (by rw[b,List.length_map]; show aL.length=min aL.length 30; omega)
    (fun j v q=>by
     rw[b,List.getElem?_map] at q
     obtain⟨y,X⟩:∃y,aL[j]?=some y:=by
      cases hh:aL[j]? with
      | none=>rw[hh] at q; cases q
      | some y=>exact⟨y,rfl⟩
     rw[X] at q
     cases q
     rw[Addr.add_mid]
     exact bP (R.out j (List.getElem?_eq_some_iff.1 X).1 y X) (x.call (cT _)).below)
    (fun j O=>by rw[g.cell (by rw[b,List.length_map] at O; omega)]; rfl) (fun j _=>g.frozen _)
    (fun v q=>by rw[b] at q; obtain⟨y,-,rfl⟩:=List.mem_map.1 q; rfl)
  have c:Below w.heap.size w (W1.drew.setCells (w.heap.size+1) 1 s)∧(W1.drew.setCells (w.heap.size+1) 1 s).rangeAt (w.heap.size+1) 0 (dI gone (pad aL) aR).toList:=
   ⟨vJ (by omega) _ _ _ (x.call (cT _)).below,by rw[b]; exact Ga g U G H I⟩
  obtain⟨E,a⟩:∃E,E=(dI gone (pad aL) aR).toList:=⟨_,rfl⟩
  have L:(Tryz.prog.info? 190).map (·.size)=some E.length:=by rw[a]; exact DU (vA U)
  have J:E.toArray=dI gone (pad aL) aR:=by rw[a,Array.toArray_toList]
  rw[← a] at c;have k:=aD c;have S:=aD L;have Q:=aD J;have k2:=x.c 0 2 rfl rfl;rw[Nat.add_zero] at k2;clear c L J a g G H I b x;go_wp2
  go_region
  go_wp2_with (refine wpList_load_mid rfl 190 _ rfl (w.heap.size+1) 0 rfl E _ k.out.2 Tryz.underlying190 rfl S.out ?_)
  go_wp2;go_ret;exact⟨by rw[← Q.out]; rfl,k.out.1⟩
 ·have k0:(state == 0)=false:=by simpa using m
  have k1:(state == 1)=false:=by simpa using r
  have k2:(state == 2)=false:=by simpa using A
  have k3:(state == 3)=false:=by simpa using F
  have k4:(state == 4)=false:=by simpa using N
  have K:iG ⟨state,gone,aL,aR,aN⟩=none:=by unfold iG; rw[if_neg m,if_neg r,if_neg A,if_neg F,if_neg N]
  rw[K];clear B m r A F N K;go_enter Tryz.func142,Tryz.ntmps142;go_wp2;go_ret;exact⟨rfl,u.below⟩
set_option maxHeartbeats 1000000 in
theorem J5 (v:Value) (l:List Bool) (w:World) (n:Bools (In w) w v l) (s:l.length<=1048576) :
  Calls Tryz.prog 247 #[v,.bool false] w fun e w'=>∃r:Int,e=.returned (.int .i64 r)∧decide (0<=r)=!(l.all id)∧w'=w:=by
 obtain⟨a,k,rfl,d⟩:=n;have j:=aD d;clear d;go_enter Tryz.func247,Tryz.ntmps247;go_wp2
 go_loop [8] (fun z=>∃(q:Nat),q<=l.length∧z=.int .i64 q∧(l.take q).all id=true) (fun z=>l.length-(intOf z).toNat)
 case atStart=>exact⟨0,Nat.zero_le _,rfl,by simp⟩
 case round=>
  obtain⟨q,t,rfl,c⟩:=hrel;have h:=aD c;clear c;by_cases f:q<l.length
  ·obtain p | ⟨b,off,rfl,m,d⟩:=j.out
   ·omega
   obtain⟨y,g⟩:=eU l f;have o:=d q f y g;have i:=aD g;clear g d
   cases y
   ·go_wp2;go_ret;exact⟨q,rfl,by rw[vD i.out (by rfl)]; simp,rfl⟩
   ·go_wp2
    go_round
    case rel=>exact⟨q+1,by omega,by go_num,xT h.out i.out rfl⟩
    case measure=>simp[intOf]; omega
  ·go_wp2;go_ret;exact⟨-1,rfl,by rw[xV h.out (by omega)]; rfl,rfl⟩
set_option maxHeartbeats 1000000 in
theorem JZ (v:Value) (l:List Bool) (w:World) (c:Bools (In w) w v l) (g:l.length<=1048576) :
  Calls Tryz.prog 246 #[v,.bool false] w fun e w'=>e=.returned (.bool (!(l.all id)))∧w'=w:=by
 have hi:=J5 v l w c g;obtain⟨a,f,rfl,-⟩:=c;go_enter Tryz.func246,Tryz.ntmps246
 go_wp2_with fail
 refine hi.mono ?_;rintro e h ⟨r,rfl,b,rfl⟩;have d:=aD b;clear hi b;go_wp2;go_ret;exact⟨bI (by rw[← d.out]),rfl⟩
set_option maxHeartbeats 2000000 in
theorem JX (v u:Value) (l r:List Bool) (w:World) (U:Bools (In w) w v l) (T:Bools (In w) w u r) (Y:l.length<=1048576) (_hr:r.length<=1048576) :
  Calls Tryz.prog 143 #[v,u] w fun e w'=>e=.returned (.bool (B (l=r)))∧Below w.heap.size w w':=by
 obtain⟨a,O,rfl,t⟩:=U;obtain⟨V,I,rfl,d⟩:=T;have N:=aD t;have E:=aD d;clear t d;by_cases g:l.length=r.length
 case neg=>
  have C:((l.length:Int) != (r.length:Int))=true:=by simp; omega
  have k:=aD g;clear g;go_enter Tryz.func143,Tryz.ntmps143;go_wp2;go_ret;exact⟨bI (bE fun e=>k.out (by rw[e])).symm,Below.refl _ _⟩
 have C:((l.length:Int) != (r.length:Int))=false:=by simp; omega
 have k:=aD g;clear g;go_enter Tryz.func143,Tryz.ntmps143;go_wp2
 go_loopw [13] (fun z wr=>∃(q:Nat),q<=l.length∧z=.int .i64 q∧(∀j,j<q->l[j]?=r[j]?)∧Below w.heap.size w wr) (fun z _=>l.length-(intOf z).toNat)
 case atStart=>exact⟨0,Nat.zero_le _,rfl,fun j K=>by omega,Below.refl _ _⟩
 case round=>
  obtain⟨q,Z,rfl,h,s⟩:=hrel;have G:=aD h;have c:=aD s;clear h s;by_cases A:q<l.length
  ·obtain Q | ⟨b,off,rfl,R,t⟩:=N.out
   ·omega
   obtain Q | ⟨b',M,rfl,J,d⟩:=E.out
   ·have:=k.out; omega
   obtain⟨y,F⟩:=eU l A;obtain⟨D,m⟩:=eU r (i:=q) (by have:=k.out; omega);have W:=bP (t q A y F) c.out;have X:=bP (d q (by have:=k.out; omega) D m) c.out
   have L:(q:Int)<(r.length:Int):=by have:=k.out; omega
   have H:=aD F;have p:=aD m;clear F t m d;have f:y≠D->B (l=r)=false:=fun S=>bE fun e=>S (by have C:=H.out; rw[e,p.out] at C; exact (Option.some.inj C).symm)
   have x:y=D->∀j,j<q+1->l[j]?=r[j]?:=fun e j K=>by
    by_cases P:j=q
    ·subst P; rw[H.out,p.out,e]
    ·exact G.out j (by omega)
   have o:=aD f;have n:=aD x;clear f x
   cases y <;> cases D
   ·go_wp2
    go_quiet (fail)
    go_wp2;go_roundw
    case rel=>exact⟨q+1,by omega,by go_num,n.out (by first | rfl | trivial),c.out.trans ((pG _ _).mono c.out.size)⟩
    case measure=>simp[intOf]; omega
   ·go_wp2
    go_quiet (fail)
    go_wp2;go_ret;exact⟨bI (o.out (by decide)).symm,c.out.trans ((pG _ _).mono c.out.size)⟩
   ·go_wp2
    go_quiet (fail)
    go_wp2;go_ret;exact⟨bI (o.out (by decide)).symm,c.out.trans ((pG _ _).mono c.out.size)⟩
   ·go_wp2
    go_quiet (fail)
    go_wp2;go_roundw
    case rel=>exact⟨q+1,by omega,by go_num,n.out (by first | rfl | trivial),c.out.trans ((pG _ _).mono c.out.size)⟩
    case measure=>simp[intOf]; omega
  ·go_wp2;go_ret;refine⟨bI (bQ ?_).symm,c.out⟩;apply List.ext_getElem?;intro j;by_cases K:j<l.length
   ·exact G.out j (by omega)
   ·rw[List.getElem?_eq_none (by omega),List.getElem?_eq_none (by have:=k.out; omega)]
end
end Go.Proofs.YtdhinkgjiapigaaGreatDoor
