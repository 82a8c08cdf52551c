import Derived.Test.YtdhinkgjiapigaaGreatDoorConc
import Derived.Test.YtdhinkgjiapigaaGreatDoorFrIC
import Derived.Deep.RegionHeld3
import Derived.Test.YtdhinkgjiapigaaGreatDoorWhyS
namespace Go.Proofs.YtdhinkgjiapigaaGreatDoor
open Classical Go.Deep Go.RowKit
def lJ (aB:List aT):List aM:=aB.map fun x=>jQ x.aA.length
def bT (p:aK):aF:=⟨true,List.replicate p.aA.toNat false,List.replicate p.aE.length (1,1),lJ p.aB⟩
def iA:aF:=⟨false,[],[],[]⟩
def qZ (p:aK) [Decidable (Right p)]:aF:=if Right p then bT p else iA
theorem yP {aB:List aT}{k:Nat}{x:aT}(h:aB[k]?=some x):(lJ aB)[k]?=some (jQ x.aA.length):=by unfold lJ; rw[List.getElem?_map,h]; rfl
theorem oE (aB:List aT):(lJ aB).length=aB.length:=by unfold lJ; rw[List.length_map]
theorem Cc (k:Nat):dC (List.replicate k ((1,1):Int×Int))++[.int .i64 1,.int .i64 1]=dC (List.replicate (k+1) (1,1)):=by
 rw[List.replicate_succ'];unfold dC;rw[List.flatMap_append];rfl
theorem zK (B:Nat) (w:World):cQ B w (.slice none 0 0) (.slice none 0 0) (.slice none 0 0) iA:=.inr ⟨rfl,rfl,rfl,rfl,rfl,rfl⟩
structure eI (w:World) (pc:Array Value) (n fb:Nat) (W:World) (u1 u2 u3:Value) (bo:Nat):Prop where
 below:Below w.heap.size w W
 box:W.rowIs w.heap.size 27 5 (fun i=>pc[i]!)
 res:∃g,W.rowIs (w.heap.size+1) 40 4 g
 out:W.rowIs fb 40 4 (fun i=>(#[.bool true,u1,u2,u3]:Array Value)[i]!)
 aH:aV W u1 (List.replicate n false) bo
 po:w.heap.size+1<bo
 pf:bo<fb
theorem eI.but {w:World}{f:Array Value}{n d:Nat}{W W':World}{g i j:Value}{e:Nat}(h:eI w f n d W g i j e) {K:Nat->Prop}(a:But K W W') (b:∀c,c<d+1->K c):eI w f n d W' g i j e:=by
 have k:=h.po;have l:=h.pf;exact⟨h.below.trans (a.below h.below.size fun c m=>b c (by omega)),a.row h.box (b _ (by omega)),h.res.imp fun _ z=>a.row z (b _ (by omega)),a.row h.out (b _ (by omega)),h.aH.but a (b _ (by omega)),k,l⟩
theorem eI.call {w:World}{c:Array Value}{n b:Nat}{W W':World}{d e f:Value}{a:Nat}(h:eI w c n b W d e f a) (g:Below W.heap.size W W'):eI w c n b W' d e f a:=
 h.but (K:=fun _=>True) (But.aG g) fun _ _=>trivial
theorem eI.wX {w:World}{e:Array Value}{n a:Nat}{W:World}{f m g:Value}{d:Nat}(h:eI w e n a W f m g d) (u:Value):eI w e n a (W.setCell ⟨a,2,none⟩ u) f u g d:=by
 have j:=h.po;have k:=h.pf;have b:∀c:Nat,c≠a->c≠(⟨a,2,none⟩:Addr).block:=fun c l=>l;refine⟨h.below.setCell (by show w.heap.size<=a; omega) _,h.box.setOther (b _ (by omega)) _,h.res.imp fun _ z=>z.setOther (b _ (by omega)) _,?_,h.aH.of_block (Below.heap_setCell _ _ _ _ (b _ (by omega))),j,k⟩;refine (h.out.set 2 u).congr fun i hi=>?_;rcases i with _ | _ | _ | _ | i
 ·rfl
 ·rfl
 ·rfl
 ·rfl
 ·omega
theorem eI.wY {w:World}{e:Array Value}{n a:Nat}{W:World}{f g m:Value}{d:Nat}(h:eI w e n a W f g m d) (u:Value):eI w e n a (W.setCell ⟨a,3,none⟩ u) f g u d:=by
 have j:=h.po;have k:=h.pf;have b:∀c:Nat,c≠a->c≠(⟨a,3,none⟩:Addr).block:=fun c l=>l;refine⟨h.below.setCell (by show w.heap.size<=a; omega) _,h.box.setOther (b _ (by omega)) _,h.res.imp fun _ z=>z.setOther (b _ (by omega)) _,?_,h.aH.of_block (Below.heap_setCell _ _ _ _ (b _ (by omega))),j,k⟩;refine (h.out.set 3 u).congr fun i hi=>?_;rcases i with _ | _ | _ | _ | i
 ·rfl
 ·rfl
 ·rfl
 ·rfl
 ·omega
theorem bH.held {W W':World}{v:Value}{l:List (Int×Int)}{b:Nat}{base size n:Nat}{u:Value}{xs:List Value}(h:bH W v l b) (k:W.grownBy W' u.ownBlock) (d:W.ownsRow base 44 size u n xs):bH W' v l b:=by
 obtain⟨a,c,rfl,i | ⟨rfl,f,N,g,j⟩⟩:=h
 ·exact⟨a,c,rfl,.inl i⟩
 ·exact⟨_,c,rfl,.inr ⟨rfl,f,N,g.of_block (k.block b g.lt fun e=>(gJ d e.symm).2.2 _ _ _ _ g (by decide) rfl),j⟩⟩
theorem aV.held {W W':World}{v:Value}{l:List Bool}{b:Nat}{base size n:Nat}{u:Value}{xs:List Value}(h:aV W v l b) (i:W.grownBy W' u.ownBlock) (a:W.ownsRow base 44 size u n xs):aV W' v l b:=by
 obtain⟨f,N,c,j,d,g⟩:=h;exact⟨f,N,c,j,d.of_block (i.block b d.lt fun e=>(gJ a e.symm).2.2 _ _ _ _ d (by decide) rfl),g⟩
theorem IN (h j k l m:Value) (secs:List Int) (w:World) (r:Ints (In w) w h secs) (g:1<=secs.length) (o:secs.length<=30) :
  Calls Tryz.prog 58 #[.agg #[],.agg #[h,j,k,l,m]] w fun e w'=>∃a c b,e=.returned (.agg #[.int .i64 0,.int .i64 0,.slice a secs.length c,.bool false,.int .i64 0])∧aV w' (.slice a secs.length c) (jQ secs.length).aL b∧w.heap.size<=b∧Below w.heap.size w w':=by
 refine (uW h j k l m secs w r g o).mono ?_;rintro e w' ⟨v,b,rfl,p,n,d⟩;obtain⟨f,N,c,rfl,q⟩:=p
 have i:(bO secs.length bL.idle).aL.length=secs.length:=by simp[bO]
 rw[i] at *;exact⟨_,_,b,rfl,⟨f,N,c,by simp[jQ],by rw[← i] at *; exact q⟩,n,d⟩
def kB (aC:List (Int×Int)) (k:Nat) (g:Int×Int->Int×Int):List (Int×Int):=match aC[k]? with
 | some pt=>aC.set k (g pt)
 | none=>aC
def B7 (aC:List (Int×Int)) (y:Int×Int):List (Int×Int):=kB aC y.1.toNat fun pt=>(y.2,pt.2)
def fZ (aC l:List (Int×Int)):List (Int×Int):=l.foldl B7 aC
theorem xH (aC:List (Int×Int)) (k:Nat) (g:Int×Int->Int×Int):(kB aC k g).length=aC.length:=by
 unfold kB;split
 ·exact List.length_set
 ·rfl
theorem uZ {aC:List (Int×Int)}{k:Nat}{a:Int×Int}(g:Int×Int->Int×Int) (h:aC[k]?=some a):kB aC k g=aC.set k (g a):=by unfold kB; rw[h]
theorem vI (aC l:List (Int×Int)):(fZ aC l).length=aC.length:=by
 induction l generalizing aC with
 | nil=>rfl
 | cons y l ih=>exact (ih (B7 aC y)).trans (xH _ _ _)
theorem CV (aC l:List (Int×Int)) (y:Int×Int):fZ aC (l++[y])=B7 (fZ aC l) y:=by unfold fZ; rw[List.foldl_append]; rfl
theorem C9 (aC l r:List (Int×Int)):fZ aC (l++r)=fZ (fZ aC l) r:=by unfold fZ; rw[List.foldl_append]
def oN (p:aK) (d:aF) (i:Nat) (x:aT) (h:aM):Int×aF:=
 if kQ p d i x h=0 then (0,{ d with aC:=fZ d.aC (x.aQ++x.aJ),aB:=d.aB.set i { h with state:=1 } }) else (kQ p d i x h,d)
def vE (aH:List Bool) (x:aT):Bool:=x.aW.any (eA aH)
def iO (aI:Int) (aH:List Bool) (x:aT) (h:aM):aM:=if (h.aR&&vE aH x)=true then { h with state:=3,aN:=aI } else jQ h.aL.length
def jP (p:aK) (d:aF) (i:Nat) (x:aT) (h:aM):Int×aF:=
 if h.state=1∨h.state=2 then (0,{ d with aB:=d.aB.set i (iO p.aI d.aH x h) }) else (2,d)
def dW (h:aM):aM:=if h.state=3 then (if h.aN-1=0 then jQ h.aL.length else { h with aN:=h.aN-1 }) else h
def mW (p:aK) (d:aF) (q:Nat) (lie:Int):Int×aF:=
 if 0<(gS p d q).length then (2,d) else if eA d.aH (p.aE.getD q 0)=true then (3,d) else (0,{ d with aC:=kB d.aC q fun pt=>(lie,pt.2) })
def cO (p:aK) (d:aF) (op of lie:Int):Int×aF:=
 if op=1 then (match p.aB[of.toNat]?,d.aB[of.toNat]? with
  | some x,some h=>oN p d of.toNat x h
  | _,_=>(0,d))
 else if op=2 then (match p.aB[of.toNat]?,d.aB[of.toNat]? with
  | some x,some h=>jP p d of.toNat x h
  | _,_=>(0,d))
 else if op=3 then (0,{ d with aH:=d.aH.set of.toNat true })
 else if op=4 then (0,{ d with aH:=d.aH.set of.toNat false })
 else if op=5 then (0,{ d with aC:=kB d.aC of.toNat fun pt=>(pt.1,lie) })
 else if op=6 then mW p d of.toNat lie
 else (0,{ d with aB:=d.aB.map dW })
def jR (p:aK) (d:aF) (op of lie:Int):Int×aF:=((cO p d op of lie).1,kN p.aB (cO p d op of lie).2)
theorem Fits.aH {aB:List aT}{d:aF}(h:Fits aB d) {l:List Bool}(a:l.length=d.aH.length):Fits aB { d with aH:=l }:=
 ⟨h.1,h.2.1,by show l.length<=_; rw[a]; exact h.2.2.1,h.2.2.2.1,fun i x g p n=>by
  obtain⟨b,c,e,f,j,k,m⟩:=h.2.2.2.2 i x g p n
  exact⟨b,c,e,f,j,k,fun s o=>by have:=m s o; show 0<=s∧s<(l.length:Int); rw[a]; exact this⟩⟩
theorem Fits.aC {aB:List aT}{d:aF}(h:Fits aB d) {l:List (Int×Int)}(a:l.length=d.aC.length):Fits aB { d with aC:=l }:=
 ⟨h.1,h.2.1,h.2.2.1,by show l.length<=_; rw[a]; exact h.2.2.2.1,fun i x g o n=>by
  obtain⟨b,c,e,f,j,k,m⟩:=h.2.2.2.2 i x g o n
  exact⟨b,c,e,f,j,fun y p=>by have:=k y p; show 0<=y.1∧y.1<(l.length:Int); rw[a]; exact this,m⟩⟩
theorem Fits.aB {aB:List aT}{d:aF}(h:Fits aB d) {l:List aM}(j:l.length=d.aB.length) (r:∀(i:Nat) g g',d.aB[i]?=some g->l[i]?=some g'->g'.aL.length=g.aL.length∧(g'.gone=g.gone∨g'.gone=0)):Fits aB { d with aB:=l }:=
 ⟨by show l.length=_; rw[j]; exact h.1,h.2.1,h.2.2.1,h.2.2.2.1,fun i x g s f=>by
  have hi:i<d.aB.length:=by rw[← j]; exact (List.getElem?_eq_some_iff.1 f).1
  obtain⟨c,a⟩:=zR d.aB hi
  obtain⟨m,n,o,t,u,p,q⟩:=h.2.2.2.2 i x c s a
  obtain⟨k,b⟩:=r i c g a f
  refine⟨k.trans m,n,o,?_,?_,p,q⟩
  ·rcases b with e | e <;> omega
  ·rcases b with e | e <;> omega⟩
theorem zjp {α:Type}{l:List α}{i j:Nat}{x y:α}(h:(l.set i x)[j]?=some y):(j=i∧y=x)∨(j≠i∧l[j]?=some y):=by
 by_cases e:i=j
 ·subst e
  have hi:i<l.length:=by have:=(List.getElem?_eq_some_iff.1 h).1; rw[List.length_set] at this; exact this
  rw[List.getElem?_set_self hi] at h;exact .inl ⟨rfl,(Option.some.inj h).symm⟩
 ·rw[List.getElem?_set_ne e] at h;exact .inr ⟨fun q=>e q.symm,h⟩
theorem Fits.set {aB:List aT}{d:aF}(h:Fits aB d) {i:Nat}{g b:aM}(hi:d.aB[i]?=some g) (k:b.aL.length=g.aL.length) (l:b.gone=g.gone∨b.gone=0):Fits aB { d with aB:=d.aB.set i b }:=
 h.aB List.length_set fun j a m c f=>by
  rcases zjp f with ⟨rfl,rfl⟩ | ⟨-,e⟩
  ·rw[hi] at c; cases c; exact⟨k,l⟩
  ·rw[c] at e; cases e; exact⟨rfl,.inl rfl⟩
theorem Cv (n:Nat):(jQ n).aL.length=n:=by simp[jQ]
theorem IJ (h:aM):(dW h).aL.length=h.aL.length∧((dW h).gone=h.gone∨(dW h).gone=0):=by
 unfold dW;split
 ·split
  ·exact⟨Cv _,.inr rfl⟩
  ·exact⟨rfl,.inl rfl⟩
 ·exact⟨rfl,.inl rfl⟩
theorem Cz (aI:Int) (aH:List Bool) (x:aT) (h:aM):(iO aI aH x h).aL.length=h.aL.length∧((iO aI aH x h).gone=h.gone∨(iO aI aH x h).gone=0):=by
 unfold iO;split
 ·exact⟨rfl,.inl rfl⟩
 ·exact⟨Cv _,.inr rfl⟩
theorem Da {p:aK}{d:aF}(h:Fits p.aB d) (f of c:Int):Fits p.aB (cO p d f of c).2:=by
 unfold cO;split
 ·split
  ·rename_i x g e a
   unfold oN;split
   ·exact (h.aC (vI _ _)).set a rfl (.inl rfl)
   ·exact h
  ·exact h
 split
 ·split
  ·rename_i x g e a
   unfold jP;split
   ·exact h.set a (Cz _ _ _ _).1 (Cz _ _ _ _).2
   ·exact h
  ·exact h
 split
 ·exact h.aH List.length_set
 split
 ·exact h.aH List.length_set
 split
 ·exact h.aC (xH _ _ _)
 split
 ·unfold mW;split
  ·exact h
  split
  ·exact h
  ·exact h.aC (xH _ _ _)
 ·refine h.aB (List.length_map _) fun i g j a b=>?_;rw[List.getElem?_map,a] at b
  cases b
  exact IJ g
theorem bH.put {w:World}{v:Value}{l:List (Int×Int)}{b k:Nat}{c:Int×Int}(h:bH w v l b) (n:l[k]?=some c) (j:Nat) (r:j<2) (u:Int) :
  bH (w.setCell ⟨b,k*2+j,none⟩ (.int .i64 u)) v (l.set k (if j=0 then (u,c.2) else (c.1,u))) b:=by
 have s:=(List.getElem?_eq_some_iff.1 n).1;obtain⟨a,d,rfl,q | ⟨rfl,f,N,p,o,m⟩⟩:=h
 ·omega
 ·refine⟨_,d,by rw[List.length_set],.inr ⟨rfl,_,N,p.set (k*2+j) (.int .i64 u),by rw[List.length_set]; exact o,fun i x g=>?_⟩⟩;rcases zjp g with ⟨rfl,rfl⟩ | ⟨t,g⟩
  ·obtain⟨e,f1⟩:=m i c n;rcases j with _ | _ | j
   ·exact⟨by simp,by simp[f1]⟩
   ·exact⟨by simp[e],by simp⟩
   ·omega
  ·obtain⟨e,f1⟩:=m i x g;rw[if_neg (by omega),if_neg (by omega)];exact⟨e,f1⟩
theorem aP.put {P:Nat->Prop}{w:World}{v1 v2 v3:Value}{d:aF}{m b n:Nat}{bb:Nat->Nat}(h:aP P w v1 v2 v3 d m b n bb) {k:Nat}{g:Int×Int}(p:d.aC[k]?=some g) (j:Nat) (s:j<2) (u:Int) :
  aP P (w.setCell ⟨b,k*2+j,none⟩ (.int .i64 u)) v1 v2 v3 { d with aC:=d.aC.set k (if j=0 then (u,g.2) else (g.1,u)) } m b n bb∧But (fun c=>¬P c) w (w.setCell ⟨b,k*2+j,none⟩ (.int .i64 u)):=by
 have t:=(List.getElem?_eq_some_iff.1 p).1
 have r:d.aC.length≠0:=by omega
 obtain⟨N,f,e⟩:=h.aC.row r;refine⟨h.pB ?_ (fun z=>?_) (fun i hi=>?_) ((But.refl _ _).setCell (fun z=>z rfl) _) (h.aC.put p j s u) List.length_set,(But.refl _ _).setCell (fun z=>z (h.pp r)) _⟩
 ·obtain⟨l,o,a⟩:=h.aH.row;intro q;rw[← q] at a;exact absurd (xK e a) (by decide)
 ·obtain⟨l,o,a⟩:=h.aB.row z;intro q;rw[← q] at a;exact absurd (xK e a) (by decide)
 ·obtain⟨l,o,a⟩:=h.aB.aL hi;intro q;rw[← q] at a;exact absurd (xK e a) (by decide)
theorem bH.cells {w:World}{v:Value}{l:List (Int×Int)}{b k:Nat}{d:Int×Int}(h:bH w v l b) (e:l[k]?=some d):∃cap,v=.slice (some ⟨b,0,none⟩) l.length cap∧w.cell? ⟨b,k*2,none⟩=some (.int .i64 d.1)∧w.cell? ⟨b,k*2+1,none⟩=some (.int .i64 d.2)∧w.frozen? ⟨b,k*2,none⟩=false∧w.frozen? ⟨b,k*2+1,none⟩=false:=by
 have n:=(List.getElem?_eq_some_iff.1 e).1;obtain⟨a,cap,rfl,j | ⟨rfl,f,N,c,m,i⟩⟩:=h
 ·omega
 ·obtain⟨g,f1⟩:=i k d e;exact⟨cap,rfl,by rw[c.cell (by omega),g],by rw[c.cell (by omega),f1],c.frozen _,c.frozen _⟩
theorem aV.put {w:World}{v:Value}{l:List Bool}{b k:Nat}(h:aV w v l b) (m:k<l.length) (u:Bool):aV (w.setCell ⟨b,k,none⟩ (.bool u)) v (l.set k u) b:=by
 obtain⟨f,N,a,rfl,g,d,e⟩:=h;refine⟨_,N,a,by rw[List.length_set],g.set k (.bool u),by rw[List.length_set]; exact d,fun i x c=>?_⟩;rcases zjp c with ⟨rfl,rfl⟩ | ⟨j,c⟩
 ·rw[if_pos rfl]
 ·rw[if_neg j]; exact e i x c
theorem aV.cells {w:World}{v:Value}{l:List Bool}{b k:Nat}{x:Bool}(h:aV w v l b) (a:l[k]?=some x):∃cap,v=.slice (some ⟨b,0,none⟩) l.length cap∧w.cell? ⟨b,k,none⟩=some (.bool x)∧w.frozen? ⟨b,k,none⟩=false:=by
 have g:=(List.getElem?_eq_some_iff.1 a).1;obtain⟨f,N,cap,rfl,c,e,d⟩:=h;exact⟨cap,rfl,by rw[c.cell (by omega),d k x a],c.frozen _⟩
theorem aP.kZ {P:Nat->Prop}{w:World}{v1 v2 v3:Value}{d:aF}{a b e:Nat}{bb:Nat->Nat}(h:aP P w v1 v2 v3 d a b e bb) {k:Nat}(f:k<d.aH.length) (u:Bool) :
  aP P (w.setCell ⟨a,k,none⟩ (.bool u)) v1 v2 v3 { d with aH:=d.aH.set k u } a b e bb∧But (fun c=>¬P c) w (w.setCell ⟨a,k,none⟩ (.bool u)):=
 ⟨h.uT ((But.refl _ _).setCell (fun z=>z rfl) _) (h.aH.put f u),(But.refl _ _).setCell (fun z=>z h.po) _⟩
theorem dK.cells {w:World}{v:Value}{l:List aM}{b:Nat}{bb:Nat->Nat}{i:Nat}{h:aM}(c:dK w v l b bb) (hi:l[i]?=some h):∃cap f N,v=.slice (some ⟨b,0,none⟩) l.length cap∧w.rowIs b 44 N f∧i*5+5<=N∧cB w f i h (bb i):=by
 have j:=(List.getElem?_eq_some_iff.1 hi).1;obtain⟨a,cap,rfl,e | ⟨rfl,f,N,d,g,c⟩⟩:=c
 ·omega
 ·exact⟨cap,f,N,rfl,d,by omega,c i h hi⟩
theorem aP.lY {P:Nat->Prop}{w:World}{v1 v2 v3:Value}{d:aF}{e j a:Nat}{bb:Nat->Nat}(h:aP P w v1 v2 v3 d e j a bb) {i:Nat}{g:aM}(hi:d.aB[i]?=some g) (s:Int) :
  ∃bb',aP P (w.setCell ⟨a,i*5,none⟩ (.int .i64 s)) v1 v2 v3 { d with aB:=d.aB.set i { g with state:=s } } e j a bb'∧But (fun c=>¬P c) w (w.setCell ⟨a,i*5,none⟩ (.int .i64 s)):=by
 have n:=(List.getElem?_eq_some_iff.1 hi).1
 obtain⟨bb',k,-⟩:=h.step (Q:=P) n (x:={ g with state:=s }) (w':=w.setCell ⟨a,i*5,none⟩ (.int .i64 s))
  (fun f N l _ o=>aX.store l ⟨by omega,by omega⟩ ((o g hi).state l s)) (fun _ z=>z) (fun b k m=>by rw[World.size_setCell] at m; omega)
 exact⟨bb',k,(But.refl _ _).setCell (fun z=>z (h.pw (by omega))) _⟩
set_option maxRecDepth 100000 in
set_option maxHeartbeats 4000000 in
theorem IS (P Q:Nat->Prop) (n Y ok p1 p2 p3 v1 v2 v3:Value) (d:aF) (aB:List aT) (i:Nat) (x:aT) (h:aM) (bo g o M:Nat) (bb:Nat->Nat) (w:World)
  (hp:eY Q w p2 aB) (hQ:∀c,Q c->c<w.heap.size∧¬P c) (bV:w.cell? ⟨M,0,none⟩=some ok) (b0:w.cell? ⟨M,2,none⟩=some v2) (bW:w.cell? ⟨M,3,none⟩=some v3) (aZ:¬P M)
  (hf:aP P w v1 v2 v3 d bo g o bb) (hx:aB[i]?=some x) (hh:d.aB[i]?=some h) (aX:∀c,P c->c<w.heap.size) (hs:x.Small 30) (L:∀y,(y∈x.aQ∨y∈x.aJ)->0<=y.1∧y.1<d.aC.length) (_hl1:aB.length<=100) (_hl2:d.aB.length<=1048576) (_hl3:d.aC.length<=1048576) :
  Calls Tryz.prog 82 #[.agg #[n,p1,p2,p3,Y],.pointer (some ⟨M,0,none⟩),.int .i64 i] w fun e w'=>e=.returned (.tuple #[])∧∃bb',aP P w' v1 v2 v3 { d with aC:=fZ d.aC (x.aQ++x.aJ),aB:=d.aB.set i { h with state:=1 } } bo g o bb'∧But (fun c=>¬P c) w w':=by
 have bX:i<aB.length:=(List.getElem?_eq_some_iff.1 hx).1;have cB:i<d.aB.length:=(List.getElem?_eq_some_iff.1 hh).1;obtain⟨a2,k2,rfl,X⟩:=id hp;obtain h0 | ⟨b2,o2,rfl,c9,X⟩:=X
 ·omega
 obtain⟨u0,u1,u2,u3,u4,s,g0,g1,g2,g3,g4⟩:=X i bX x hx;obtain⟨s0,e0,rfl⟩:=s.1.size;obtain⟨E,C,rfl⟩:=s.2.1.size;obtain⟨F,D,rfl⟩:=s.2.2.1.size;obtain⟨s3,e3,rfl⟩:=s.2.2.2.1.size;obtain⟨s4,O,rfl⟩:=s.2.2.2.2.size;obtain⟨cw,fw,Nw,rfl,bD,c8,bB⟩:=hf.aB.cells hh
 obtain⟨ap,cp,rfl⟩:∃a c,v2=.slice a d.aC.length c:=by obtain⟨a,c,e,-⟩:=hf.aC; exact⟨_,_,e⟩
 have c1:M<w.heap.size:=World.block_lt_of_cell? _ _ bV;have T1:=cZ w 27 #[n,p1,.slice (some ⟨b2,o2,none⟩) aB.length k2,p3,Y];have T2:=eB w 27 51 #[n,p1,.slice (some ⟨b2,o2,none⟩) aB.length k2,p3,Y] #[.slice s0 x.aA.length e0,.slice E x.aQ.length C,.slice F x.aJ.length D,.slice s3 x.over.length e3,.slice s4 x.aW.length O];have G0:=bP g0 T1.below;have G1:=bP g1 T1.below;have G2:=bP g2 T1.below;have G3:=bP g3 T1.below;have G4:=bP g4 T1.below;have C3:=mP bW T2.below;have I:=dP bD T2.below;have S0:=I.cell (i:=i*5) (by omega);have Z0:=I.frozen (i*5);rw[bB.1] at S0
 have c3:(i:Int)<(aB.length:Int):=by omega
 have c4:(i:Int)<(d.aB.length:Int):=by omega
 obtain⟨bR,b1,R⟩:=(hf.but (K:=fun _=>True) (Q:=P) (But.aG T2.below) (fun _ _=>trivial) fun _ z=>z).lY hh 1;have aK:=aD b1;have aE:Hid (But (fun c=>¬P c) w _):=(But.aG T2.below).trans R;have bQ:=aD T2;have H:∀c,w.heap.size<=c->¬P c:=fun c hc z=>absurd (aX c z) (by omega);have aO:=aD H;have w1:=R.cell (T2.c 1 1 rfl rfl) (H _ (by omega));have w2:=R.cell (T2.c 1 2 rfl rfl) (H _ (by omega));have a4:=aD s;have HQ:=aD hQ;have HY:=aD L;have aI:=aD b0;have a3:¬(¬P o):=fun z=>z (hf.pw (by omega));have cE:w.heap.size+1≠o:=fun e=>a3 (e ▸ H _ (by omega));obtain⟨-,bZ,bY,-⟩:=hs;clear X s g0 g1 g2 g3 g4 bD I bB hf hp hQ b1 R T1 T2 L hx hh b0 a3 aX H;go_enter Tryz.func82,Tryz.ntmps82;go_wp2;obtain⟨W3,u⟩:∃W,W=(((w.alloc (.cells #[n,p1,.slice (some ⟨b2,o2,none⟩) aB.length k2,p3,Y] 27)).alloc (.cells #[.slice s0 x.aA.length e0,.slice E x.aQ.length C,.slice F x.aJ.length D,.slice s3 x.over.length e3,.slice s4 x.aW.length O] 51)).setCell ⟨o,i*5,none⟩ (.int .i64 1)).alloc (.cells #[.slice E x.aQ.length C,.slice F x.aJ.length D] 49):=⟨_,rfl⟩;rw[← u]
 have a0:(((w.alloc (.cells #[n,p1,.slice (some ⟨b2,o2,none⟩) aB.length k2,p3,Y] 27)).alloc (.cells #[.slice s0 x.aA.length e0,.slice E x.aQ.length C,.slice F x.aJ.length D,.slice s3 x.over.length e3,.slice s4 x.aW.length O] 51)).setCell ⟨o,i*5,none⟩ (.int .i64 1)).heap.size=w.heap.size+1+1:=by rw[World.size_setCell]; simp
 have S:Below (((w.alloc (.cells #[n,p1,.slice (some ⟨b2,o2,none⟩) aB.length k2,p3,Y] 27)).alloc (.cells #[.slice s0 x.aA.length e0,.slice E x.aQ.length C,.slice F x.aJ.length D,.slice s3 x.over.length e3,.slice s4 x.aW.length O] 51)).setCell ⟨o,i*5,none⟩ (.int .i64 1)).heap.size (((w.alloc (.cells #[n,p1,.slice (some ⟨b2,o2,none⟩) aB.length k2,p3,Y] 27)).alloc (.cells #[.slice s0 x.aA.length e0,.slice E x.aQ.length C,.slice F x.aJ.length D,.slice s3 x.over.length e3,.slice s4 x.aW.length O] 51)).setCell ⟨o,i*5,none⟩ (.int .i64 1)) W3:=by rw[u]; exact bC _ _
 have L0:W3.cell? ⟨w.heap.size+1+1,0,none⟩=some (.slice E x.aQ.length C):=by
  rw[u,← a0]; exact (dH (((w.alloc (.cells #[n,p1,.slice (some ⟨b2,o2,none⟩) aB.length k2,p3,Y] 27)).alloc (.cells #[.slice s0 x.aA.length e0,.slice E x.aQ.length C,.slice F x.aJ.length D,.slice s3 x.over.length e3,.slice s4 x.aW.length O] 51)).setCell ⟨o,i*5,none⟩ (.int .i64 1)) 49 #[.slice E x.aQ.length C,.slice F x.aJ.length D]).cell (i:=0) (by simp)
 have L1:W3.cell? ⟨w.heap.size+1+1,1,none⟩=some (.slice F x.aJ.length D):=by
  rw[u,← a0]; exact (dH (((w.alloc (.cells #[n,p1,.slice (some ⟨b2,o2,none⟩) aB.length k2,p3,Y] 27)).alloc (.cells #[.slice s0 x.aA.length e0,.slice E x.aQ.length C,.slice F x.aJ.length D,.slice s3 x.over.length e3,.slice s4 x.aW.length O] 51)).setCell ⟨o,i*5,none⟩ (.int .i64 1)) 49 #[.slice E x.aQ.length C,.slice F x.aJ.length D]).cell (i:=1) (by simp)
 have aL:=aD (aK.out.but (K:=fun _=>True) (Q:=P) (But.aG S) (fun _ _=>trivial) fun _ z=>z);have aH:=aD (aE.out.call S);have bK:=aD L0;have bL:=aD L1
 have cF:w.heap.size+1+1<W3.heap.size:=by have:=S.size; rw[u]; rw[World.size_alloc,a0]; omega
 have a5:Hid (∀W,But (fun c=>¬P c) W3 W->Lies (In W) W (.slice E x.aQ.length C) x.aQ∧Lies (In W) W (.slice F x.aJ.length D) x.aJ∧W.cell? ⟨M,2,none⟩=some (.slice ap d.aC.length cp)):=fun W hW=>by
  have a9:=aH.out.trans hW;have J:Same Q w W:=a9.same fun c hc=>HQ.out c hc;have b7:∀c,Q c->In W c:=fun c hc=>Nat.lt_of_lt_of_le (HQ.out c hc).1 a9.size;exact⟨a4.out.2.1.keep J b7,a4.out.2.2.1.keep J b7,a9.cell aI.out aZ⟩
 clear u a0 S L0 L1 aK aE bQ a4 HQ aI G0 G1 G2 G3 G4 C3 S0 Z0 w1 w2
 go_loopw [29] (fun z wr=>∃(a:Nat) (bb':Nat->Nat),a<=2∧z=.int .i64 a∧aP P wr v1 (.slice ap d.aC.length cp) (.slice (some ⟨o,0,none⟩) d.aB.length cw) { d with aC:=fZ d.aC (([x.aQ,x.aJ].take a).flatten),aB:=d.aB.set i { h with state:=1 } } bo g o bb'∧But (fun c=>¬P c) W3 wr) (fun z _=>2-(intOf z).toNat)
 case atStart=>exact⟨0,bR,by omega,rfl,aL.out,But.refl _ _⟩
 case round=>
  obtain⟨a,aR,ha,rfl,b4,aY⟩:=hrel;rename World=>wA;have t:=aD b4;have G:=aD aY;clear b4 aY aL;by_cases bU:a<2
  ·obtain⟨l,hl⟩:∃l,[x.aQ,x.aJ][a]?=some l:=bG _ (aD rfl) bU
   obtain⟨sl,cl,V,b8,bA⟩:∃sl cl,wA.cell? ⟨w.heap.size+1+1,a,none⟩=some (.slice sl l.length cl)∧(∀W,But (fun c=>¬P c) W3 W->Lies (In W) W (.slice sl l.length cl) l)∧∀y∈l,0<=y.1∧y.1<d.aC.length:=by
    rcases a with _ | _ | a
    ·cases hl
     exact⟨_,_,G.out.cell bK.out (aO.out _ (by omega)),fun W hW=>(a5.out W hW).1,fun y L=>HY.out y (.inl L)⟩
    ·cases hl
     exact⟨_,_,G.out.cell bL.out (aO.out _ (by omega)),fun W hW=>(a5.out W hW).2.1,fun y L=>HY.out y (.inr L)⟩
    ·omega
   have c5:l.length<=30:=by
    rcases a with _ | _ | a
    ·cases hl; exact bZ
    ·cases hl; exact bY
    ·omega
   have b6:(([x.aQ,x.aJ].take (a+1)).flatten)=(([x.aQ,x.aJ].take a).flatten)++l:=by
    rw[List.take_add_one,hl]; simp
   have bJ:=aD b6;have bM:=aD b8;have bN:=aD bA
   have c0:(a:Int)<2:=by omega
   clear hl b8 bA b6;go_wp2;clear V;obtain⟨N,U⟩:∃q,q=fZ d.aC (([x.aQ,x.aJ].take a).flatten):=⟨_,rfl⟩;have bO:=aD U
   have aV:N.length=d.aC.length:=by rw[U]; exact vI _ _
   rw[← U] at t;clear U
   go_loopw [35] (fun z wr=>∃(k:Nat) (bb':Nat->Nat),k<=l.length∧z=.int .i64 k∧aP P wr v1 (.slice ap d.aC.length cp) (.slice (some ⟨o,0,none⟩) d.aB.length cw) { d with aC:=fZ N (l.take k),aB:=d.aB.set i { h with state:=1 } } bo g o bb'∧But (fun c=>¬P c) W3 wr) (fun z _=>l.length-(intOf z).toNat)
   case atStart=>exact⟨0,aR,by omega,rfl,t.out,G.out⟩
   case round=>
    obtain⟨k,a6,hk,rfl,r,A⟩:=hrel;rename World=>m;by_cases b9:k<l.length
    ·obtain⟨y,L⟩:=bG l (aD rfl) b9;obtain⟨ya,f⟩:=y;obtain⟨bE,bF⟩:=bN.out _ (List.mem_of_getElem? L);simp only at bE bF;obtain⟨b,rfl⟩:∃b:Nat,ya=b:=⟨ya.toNat,by omega⟩;have a7:(fZ N (l.take k)).length=d.aC.length:=(vI _ _).trans aV;obtain⟨pt,Z⟩:=bG (fZ N (l.take k)) (aD a7) (show b<d.aC.length by omega);obtain⟨bT,aS,g0,-,z0,-⟩:=r.aC.cells Z;have aU:(Value.slice ap d.aC.length cp)=.slice (some ⟨g,0,none⟩) d.aC.length bT:=aS.trans (by rw[a7])
     cases aU
     obtain⟨al,c6,O,h0 | ⟨bl,ol,e5,cA,V⟩⟩:=bM.out m A
     ·omega
     cases O
     cases e5
     obtain⟨q0,q1⟩:=V k b9 _ L;simp only at q0 q1;have c2:=(a5.out m A).2.2;have B:=bC m (.cells #[.int .i64 (b:Int),.int .i64 f] 58);have T:=cZ m 58 #[.int .i64 (b:Int),.int .i64 f];have bS:=mP c2 B;have c7:=mP g0 B;have cG:(m.alloc (.cells #[.int .i64 (b:Int),.int .i64 f] 58)).frozen? ⟨g,b*2,none⟩=false:=(B.frozen (p:=⟨g,b*2,none⟩) (World.block_lt_of_cell? _ _ g0)).trans z0;have t0:(m.alloc (.cells #[.int .i64 (b:Int),.int .i64 f] 58)).cell? ⟨m.heap.size,0,none⟩=some (.int .i64 (b:Int)):=T.c 0 0 rfl rfl;have t1:(m.alloc (.cells #[.int .i64 (b:Int),.int .i64 f] 58)).cell? ⟨m.heap.size,1,none⟩=some (.int .i64 f):=T.c 0 1 rfl rfl;have a1:P g:=r.pp (by show (fZ N (l.take k)).length≠0; omega);have n1:M≠g:=fun e=>aZ (e ▸ a1)
     have n2:m.heap.size≠g:=by have:=World.block_lt_of_cell? _ _ g0; simp only at this; omega
     have cD:(b:Int)<(d.aC.length:Int):=bF;have cC:(0:Int)<=(b:Int):=bE;have a8:=(r.but (K:=fun _=>True) (Q:=P) (But.aG B) (fun _ _=>trivial) fun _ z=>z).put Z 0 (by omega) f
     have b3:aP P ((m.alloc (.cells #[.int .i64 (b:Int),.int .i64 f] 58)).setCell ⟨g,b*2,none⟩ (.int .i64 f)) v1 (.slice (some ⟨g,0,none⟩) d.aC.length cp) (.slice (some ⟨o,0,none⟩) d.aB.length cw) { d with aC:=fZ N (l.take (k+1)),aB:=d.aB.set i { h with state:=1 } } bo g o a6:=by
      have e:fZ N (l.take (k+1))=(fZ N (l.take k)).set b (f,pt.2):=by
       rw[List.take_add_one,L];show fZ N (l.take k++[((b:Int),f)])=_;rw[CV];exact uZ _ Z
      rw[e];exact a8.1
     have aN:=aD (And.intro (b3.but (K:=fun _=>True) (Q:=P) (But.aG (cT _)) (fun _ _=>trivial) fun _ z=>z) (((A.call B).trans a8.2).call (cT _)));have K2:((m.alloc (.cells #[.int .i64 (b:Int),.int .i64 f] 58)).setCell ⟨g,b*2,none⟩ (.int .i64 f)).drew.cell? ⟨M,2,none⟩=some (.slice (some ⟨g,0,none⟩) d.aC.length cp):=(World.cell?_setCell_other _ _ _ _ (fun e=>n1 (congrArg Addr.block e).symm)).trans bS;have K0:((m.alloc (.cells #[.int .i64 (b:Int),.int .i64 f] 58)).setCell ⟨g,b*2,none⟩ (.int .i64 f)).drew.cell? ⟨m.heap.size,0,none⟩=some (.int .i64 (b:Int)):=(World.cell?_setCell_other _ _ _ _ (fun e=>n2 (congrArg Addr.block e).symm)).trans t0;have K1:((m.alloc (.cells #[.int .i64 (b:Int),.int .i64 f] 58)).setCell ⟨g,b*2,none⟩ (.int .i64 f)).drew.cell? ⟨m.heap.size,1,none⟩=some (.int .i64 f):=(World.cell?_setCell_other _ _ _ _ (fun e=>n2 (congrArg Addr.block e).symm)).trans t1;clear a8 b3 r A V L Z T a7 a1 t G B c2 g0 z0 aS
     go_wp2_with fail
     clear q0 q1
     go_region_held3 (fun w'=>w'.cell? ⟨M,2,none⟩=some (.slice (some ⟨g,0,none⟩) d.aC.length cp)∧w'.cell? ⟨m.heap.size,0,none⟩=some (.int .i64 (b:Int))∧w'.cell? ⟨m.heap.size,1,none⟩=some (.int .i64 f)) (first | go_keep | exact⟨K2,K0,K1⟩) (fail)
     all_goals
      go_wp2;go_roundw
      case rel=>exact⟨k+1,a6,by omega,by go_num,aN.out⟩
      case measure=>simp[intOf]; omega
    ·obtain rfl:k=l.length:=by omega
     rw[List.take_length] at r;have bI:=aD r;have bH:=aD A;clear r A t;go_wp2;go_roundw
     case rel=>exact⟨a+1,a6,by omega,by go_num,by rw[bJ.out,C9,← bO.out]; exact bI.out,bH.out⟩
     case measure=>simp[intOf]; omega
  ·obtain rfl:a=2:=by omega
   have b5:(([x.aQ,x.aJ].take 2).flatten)=x.aQ++x.aJ:=by simp
   rw[b5] at t;go_wp2;refine bodyPost_end (v:=.tuple #[]) (by simp[results,Tryz.results82,go_sem]) rfl ⟨rfl,aR,t.out,aH.out.trans G.out⟩
theorem aP.lZ {P:Nat->Prop}{w:World}{v1 v2 v3:Value}{d:aF}{e j a:Nat}{bb:Nat->Nat}(h:aP P w v1 v2 v3 d e j a bb) {i:Nat}{g:aM}(hi:d.aB[i]?=some g) (s:Int) :
  ∃bb',aP P (w.setCell ⟨a,i*5+4,none⟩ (.int .i64 s)) v1 v2 v3 { d with aB:=d.aB.set i { g with aN:=s } } e j a bb'∧But (fun c=>¬P c) w (w.setCell ⟨a,i*5+4,none⟩ (.int .i64 s)):=by
 have n:=(List.getElem?_eq_some_iff.1 hi).1
 obtain⟨bb',k,-⟩:=h.step (Q:=P) n (x:={ g with aN:=s }) (w':=w.setCell ⟨a,i*5+4,none⟩ (.int .i64 s))
  (fun f N l _ o=>aX.store l ⟨by omega,by omega⟩ ((o g hi).aN l s)) (fun _ z=>z) (fun b k m=>by rw[World.size_setCell] at m; omega)
 exact⟨bb',k,(But.refl _ _).setCell (fun z=>z (h.pw (by omega))) _⟩
theorem aP.qO {P:Nat->Prop}{w w':World}{v1 v2 v3:Value}{d:aF}{m o a N:Nat}{bb:Nat->Nat}{f:Nat->Value}(h:aP P w v1 v2 v3 d m o a bb) {i:Nat}{g:aM}(hi:d.aB[i]?=some g) (r:w.rowIs a 44 N f) {n:Nat}(s:∀b,aX w w' a N i f b (jQ n)) :
  ∃bb',aP (fun c=>P c∨New w w' c) w' v1 v2 v3 { d with aB:=d.aB.set i (jQ n) } m o a bb'∧But (fun c=>¬P c) w w':=by
 have q:=(List.getElem?_eq_some_iff.1 hi).1;obtain⟨bb',j,k⟩:=h.step (Q:=fun c=>P c∨New w w' c) q (x:=jQ n) (w':=w') (fun u t l _ _=>(s (bb i)).from r l) (fun _ z=>.inl z) (fun b j k=>.inr ⟨j,k⟩);exact⟨bb',j,k.mono fun c _ p=>⟨fun e=>p (e ▸ h.pw (by omega)),fun e=>p (e ▸ h.pb i q)⟩⟩
set_option maxRecDepth 100000 in
set_option maxHeartbeats 4000000 in
theorem Gf (P Q:Nat->Prop) (n ok v p2 y v1 v2 v3:Value) (p:aK) (d:aF) (i:Nat) (x:aT) (h:aM) (bo bp m bf:Nat) (bb:Nat->Nat) (w:World)
  (hp:eY Q w p2 p.aB) (_hQ:∀c,Q c->c<w.heap.size∧¬P c) (_hc0:w.cell? ⟨bf,0,none⟩=some ok) (a9:w.cell? ⟨bf,1,none⟩=some v1) (aA:w.cell? ⟨bf,3,none⟩=some v3)
  (hf:aP P w v1 v2 v3 d bo bp m bb) (hx:p.aB[i]?=some x) (hh:d.aB[i]?=some h) (hs:x.Small 30) (hy:∀s∈x.aW,0<=s∧s<d.aH.length) (a8:h.aL.length<=1048576) (_hl1:p.aB.length<=100) (_hl2:d.aB.length<=1048576) (_hl3:d.aH.length<=1048576) :
  Calls Tryz.prog 83 #[.agg #[n,v,p2,y,.int .i64 p.aI],.pointer (some ⟨bf,0,none⟩),.int .i64 i] w fun e w'=>e=.returned (.int .i64 (jP p d i x h).1)∧∃bb',aP (fun c=>P c∨New w w' c) w' v1 v2 v3 (jP p d i x h).2 bo bp m bb'∧But (fun c=>¬P c) w w':=by
 have b4:i<p.aB.length:=(List.getElem?_eq_some_iff.1 hx).1;have b5:i<d.aB.length:=(List.getElem?_eq_some_iff.1 hh).1;obtain⟨a2,B,rfl,E⟩:=id hp;obtain h0 | ⟨A,C,rfl,b3,E⟩:=E
 ·omega
 obtain⟨u0,u1,u2,u3,u4,aV,g0,g1,g2,g3,g4⟩:=E i b4 x hx;obtain⟨s4,e4,rfl,aJ⟩:=aV.2.2.2.2;obtain⟨cw,fw,Nw,rfl,F,b1,g⟩:=hf.aB.cells hh;obtain⟨fo,No,co,rfl,aU,bD,aE⟩:=id hf.aH;have D:=cZ w 27 #[n,v,.slice (some ⟨A,C,none⟩) p.aB.length B,y,.int .i64 p.aI];have G4:=bP g4 D.below;have C1:=mP a9 D.below;have C3:=mP aA D.below;have a:=dP F D.below;have N:=dP aU D.below;have S0:=a.cell (i:=i*5) (by omega);have S3:=a.cell (i:=i*5+3) (by omega);have S4:=a.cell (i:=i*5+4) (by omega);have Z0:=a.frozen (i*5);have Z4:=a.frozen (i*5+4);rw[g.1] at S0;rw[g.2.2.2.1] at S3;rw[g.2.2.2.2] at S4
 have b9:(i:Int)<(p.aB.length:Int):=by omega
 have bA:(i:Int)<(d.aB.length:Int):=by omega
 have b8:m<w.heap.size:=F.lt;have a4:=aD F;have b0:=aD g.2.2.2.2;have aX:=aD hf;have Z:=aD (hf.but (K:=fun _=>True) (Q:=P) (But.aG D.below) (fun _ _=>trivial) fun _ z=>z);have a6:=aD D
 have HB:Hid (fw (i*5+2)=.slice (some ⟨bb i,0,none⟩) h.aL.length ((match fw (i*5+2) with | .slice _ _ c=>c | _=>0))):=by
  obtain⟨f',N',c',e,-⟩:=g.2.2.1;show _=_;rw[e]
 have aO:x.aW.length=0∨∃b off,s4=some ⟨b,off,none⟩∧∀(k:Nat) s,x.aW[k]?=some s->(w.alloc (.cells #[n,v,.slice (some ⟨A,C,none⟩) p.aB.length B,y,.int .i64 p.aI] 27)).cell? ⟨b,off+k,none⟩=some (.int .i64 s):=by
  rcases aJ with e | ⟨b,off,e,hb,he⟩
  ·exact .inl e
  ·exact .inr ⟨b,off,e,fun k s X=>bP (he k (List.getElem?_eq_some_iff.1 X).1 s X) (Below.mono D.below (Nat.le_refl _))⟩
 have aY:=aD aO;have a3:=aD a
 have HO:Hid (∀(k:Nat) o,d.aH[k]?=some o->(w.alloc (.cells #[n,v,.slice (some ⟨A,C,none⟩) p.aB.length B,y,.int .i64 p.aI] 27)).cell? ⟨bo,k,none⟩=some (.bool o)):=fun k o X=>by
  rw[N.cell (by have:=(List.getElem?_eq_some_iff.1 X).1; omega),aE k o X]
 have HY:=aD hy;have HH:=aD hh;obtain⟨-,-,-,-,bH⟩:=hs;clear E aV g0 g1 g2 g3 g4 F a g hf hp _hQ D hy hx hh aJ aO aU N aE _hc0 a9 aA b3;have L:(h.state=1∨h.state=2)->jP p d i x h=(0,{ d with aB:=d.aB.set i (iO p.aI d.aH x h) }):=fun e=>if_pos e;have M:¬(h.state=1∨h.state=2)->jP p d i x h=(2,d):=fun e=>if_neg e;have G:=aD L;have H:=aD M;clear L M;go_enter Tryz.func83,Tryz.ntmps83;by_cases z0:h.state=1∨h.state=2
 case neg=>
  have q1:(h.state != 1)=true:=by simp; omega
  have q2:(h.state != 2)=true:=by simp; omega
  have HZ:=aD (H.out z0);clear z0;go_wp2;go_ret;rw[HZ.out];exact⟨rfl,bb,Z.out.but (K:=fun _=>True) (But.refl _ _) (fun _ _=>trivial) fun _ z=>.inl z,But.aG a6.out.below⟩
 have HZ:=aD (G.out z0)
 have b7:(h.state != 1)=false∨((h.state != 1)=true∧(h.state != 2)=false):=by
  rcases z0 with e | e
  ·exact .inl (by simp[e])
  ·exact .inr ⟨by simp[e],by simp[e]⟩
 obtain⟨V,U⟩:∃b,h.aR=b:=⟨_,rfl⟩;rw[U] at S3;have a5:=aD U;clear z0 G H U
 have J:∀(k:Nat) s o,x.aW[k]?=some s->eA d.aH s=o->(V&&(x.aW.take k).any (eA d.aH))=false->(V&&(x.aW.take (k+1)).any (eA d.aH))=(o&&V):=fun k s o h1 h2 h3=>by
  rw[List.take_add_one,h1];simp only[Option.toList_some,List.any_append,List.any_cons,List.any_nil,Bool.or_false,h2]
  cases V
  ·simp
  ·simp only[Bool.true_and] at h3 ⊢;rw[h3];simp
 have Y:=aD J;clear J;rcases b7 with q1 | ⟨q1,q2⟩
 all_goals
  go_wp2
  go_loop [35] (fun z=>∃(k:Nat),k<=x.aW.length∧z=.int .i64 k∧(V&&(x.aW.take k).any (eA d.aH))=false) (fun z=>x.aW.length-(intOf z).toNat)
  case atStart=>exact⟨0,by omega,rfl,by simp⟩
  case round=>
   obtain⟨k,X,rfl,aQ⟩:=hrel;have a1:=aD aQ;clear aQ;by_cases b6:k<x.aW.length
   ·obtain h0 | ⟨b,off,rfl,r⟩:=aY.out
    ·omega
    obtain⟨s,u⟩:=bG x.aW (aD rfl) b6;obtain⟨bE,bF⟩:=HY.out s (List.mem_of_getElem? u);obtain⟨W,rfl⟩:∃W:Nat,s=W:=⟨s.toNat,by omega⟩;obtain⟨o,ho⟩:=bG d.aH (aD rfl) (show W<d.aH.length by omega);have m0:=r k _ u;have m1:=HO.out W o ho
    have T:eA d.aH (W:Int)=o:=by unfold eA; rw[show ((W:Int)).toNat=W by simp,ho]
    have HA:=aD (Y.out k _ o u T a1.out);have a0:=aD (List.mem_of_getElem? u);have aZ:=aD T;clear r u ho T
    cases o
    ·go_wp2
     go_round
     case rel=>exact⟨k+1,by omega,by go_num,HA.out⟩
     case measure=>simp[intOf]; omega
    ·cases V
     ·go_wp2
      go_round
      case rel=>exact⟨k+1,by omega,by go_num,by rfl⟩
      case measure=>simp[intOf]; omega
     ·obtain⟨bB,t,q⟩:=aX.out.lY HH.out 3;obtain⟨S,aC,a7⟩:=t.lZ (i:=i) (List.getElem?_set_self b5) p.aI
      have f:iO p.aI d.aH x h={ h with state:=3,aN:=p.aI }:=by
       unfold iO;rw[a5.out];have:vE d.aH x=true:=List.any_eq_true.2 ⟨_,a0.out,aZ.out⟩;rw[this]; rfl
      have O:((d.aB.set i { h with state:=3 }).set i { h with state:=3,aN:=p.aI })=d.aB.set i { h with state:=3,aN:=p.aI }:=List.set_set _;have aS:=dP (a4.out.set (i*5) (.int .i64 3)) (bC (w.setCell ⟨m,i*5,none⟩ (.int .i64 3)) (.cells #[n,v,.slice (some ⟨A,C,none⟩) p.aB.length B,y,.int .i64 p.aI] 27))
      have S9:((w.setCell ⟨m,i*5,none⟩ (.int .i64 3)).alloc (.cells #[n,v,.slice (some ⟨A,C,none⟩) p.aB.length B,y,.int .i64 p.aI] 27)).cell? ⟨m,i*5+4,none⟩=some (.int .i64 h.aN):=by rw[aS.cell (by omega),if_neg (by omega),b0.out]
      have Z9:((w.setCell ⟨m,i*5,none⟩ (.int .i64 3)).alloc (.cells #[n,v,.slice (some ⟨A,C,none⟩) p.aB.length B,y,.int .i64 p.aI] 27)).frozen? ⟨m,i*5+4,none⟩=false:=aS.frozen _
      have H4:((w.setCell ⟨m,i*5,none⟩ (.int .i64 3)).alloc (.cells #[n,v,.slice (some ⟨A,C,none⟩) p.aB.length B,y,.int .i64 p.aI] 27)).cell? ⟨w.heap.size,4,none⟩=some (.int .i64 p.aI):=by
       have:=(cZ (w.setCell ⟨m,i*5,none⟩ (.int .i64 3)) 27 #[n,v,.slice (some ⟨A,C,none⟩) p.aB.length B,y,.int .i64 p.aI]).c 0 4 rfl rfl;rw[World.size_setCell] at this;exact this
      have l:=aD (And.intro (aC.but (K:=fun _=>True) (Q:=P) (But.aG (bC _ (.cells #[n,v,.slice (some ⟨A,C,none⟩) p.aB.length B,y,.int .i64 p.aI] 27))) (fun _ _=>trivial) fun _ z=>z) ((q.trans a7).call (bC _ (.cells #[n,v,.slice (some ⟨A,C,none⟩) p.aB.length B,y,.int .i64 p.aI] 27))));have HE:=aD (And.intro f O);clear t aC q a7 f O;go_wp2;go_ret;rw[HZ.out,HE.out.1];refine⟨rfl,⟨S,?_⟩,l.out.2⟩;have h9:=l.out.1;rw[HE.out.2] at h9;exact h9.but (K:=fun _=>True) (But.refl _ _) (fun _ _=>trivial) fun _ z=>.inl z
   ·have I:(V&&vE d.aH x)=false:=by
     have:=a1.out;rw[List.take_of_length_le (by omega)] at this;exact this
    have f:iO p.aI d.aH x h=jQ h.aL.length:=by
     unfold iO;rw[a5.out,I]; rfl
    have HE:=aD f;clear I f
    go_wp2_with fail
    refine (As m Nw i fw _ h.aL.length _ _ a3.out b1 HB.out a8).mono ?_;rintro e w2 ⟨rfl,R⟩;obtain⟨S,t,q⟩:=Z.out.qO HH.out a3.out R;have l:=aD (And.intro t ((But.aG (K:=fun c=>¬P c) a6.out.below).trans q));clear t q R;go_wp2;go_ret;rw[HZ.out,HE.out];refine⟨rfl,S,l.out.1.but (K:=fun _=>True) (But.refl _ _) (fun _ _=>trivial) fun c hc=>?_,l.out.2⟩;rcases hc with z | z
    ·exact .inl z
    ·exact .inr ⟨by have:=z.1; rw[World.size_alloc] at this; omega,z.2⟩
def uD (p:aK) (d:aF) (op of lie:Int) [Decidable (cJ p d∧fI p.aA p.aE.length p.aB.length op of lie)]:Int×aF:=
 if cJ p d∧fI p.aA p.aE.length p.aB.length op of lie then jR p d op of lie else (1,iA)
def iH (P:Nat->Prop) (W0:World) (v1 v2 v3:Value) (d:aF) (bo bp bw:Nat) (i:Nat) (W:World):Prop:=
 ∃(cur:List aM) (bb:Nat->Nat),cur.length=d.aB.length∧(∀(j:Nat) h,j<i->d.aB[j]?=some h->cur[j]?=some (dW h))∧(∀j:Nat,i<=j->cur[j]?=d.aB[j]?) ∧
  aP P W v1 v2 v3 { d with aB:=cur } bo bp bw bb∧But (fun c=>¬P c) W0 W
theorem iH.next {P:Nat->Prop}{f W W':World}{v1 v2 v3:Value}{d:aF}{k l m i:Nat}{cur:List aM}{bb:Nat->Nat}{h:aM}(o:cur.length=d.aB.length) (p:∀(j:Nat) h,j<i->d.aB[j]?=some h->cur[j]?=some (dW h)) (q:∀j:Nat,i<=j->cur[j]?=d.aB[j]?) (n:d.aB[i]?=some h)
  (s:aP P W' v1 v2 v3 { d with aB:=cur.set i (dW h) } k l m bb) (r:But (fun c=>¬P c) f W) (a:But (fun c=>¬P c) W W'):iH P f v1 v2 v3 d k l m (i+1) W':=by
 have hi:i<cur.length:=by rw[o]; exact (List.getElem?_eq_some_iff.1 n).1
 refine⟨cur.set i (dW h),bb,by rw[List.length_set]; exact o,fun j g t b=>?_,fun j t=>?_,s,r.trans a⟩
 ·by_cases e:j=i
  ·subst e;rw[n] at b
   cases b
   exact List.getElem?_set_self hi
  ·rw[List.getElem?_set_ne (Ne.symm e)];exact p j g (by omega) b
 ·rw[List.getElem?_set_ne (by omega)];exact q j (by omega)
theorem iH.end {P:Nat->Prop}{a W:World}{v1 v2 v3:Value}{d:aF}{b e f n:Nat}(h:iH P a v1 v2 v3 d b e f n W) (p:n=d.aB.length):∃bb,aP P W v1 v2 v3 { d with aB:=d.aB.map dW } b e f bb∧But (fun c=>¬P c) a W:=by
 obtain⟨cur,bb,o,k,-,g,l⟩:=h
 have:cur=d.aB.map dW:=by
  apply List.ext_getElem?;intro j;rw[List.getElem?_map];by_cases m:j<d.aB.length
  ·obtain⟨x,i⟩:=zR d.aB m;rw[k j x (by omega) i,i]; rfl
  ·rw[List.getElem?_eq_none (by omega),List.getElem?_eq_none (by omega)]; rfl
 rw[this] at g;exact⟨bb,g,l⟩
theorem B9 (w:World) (e f g h:TypeId) (a b c d:Array Value):bD w [(e,a),(f,b),(g,c),(h,d)] ((((w.alloc (.cells a e)).alloc (.cells b f)).alloc (.cells c g)).alloc (.cells d h)):=
 (iE w e f g a b c).snoc (by simp) h d
set_option maxRecDepth 100000 in
set_option maxHeartbeats 16000000 in
theorem Du (p1 p2 p3 f1 f2 f3:Value) (p:aK) (d:aF) (op of A:Int) (w:World) (hp:aZ (In w) w p1 p2 p3 p) (hf:bB (In w) w f1 f2 f3 d) (hs:p.Small 1048576) (hd:d.Small 1048576) :
  Calls Tryz.prog 38 #[.agg #[.int .i64 p.aA,p1,p2,p3,.int .i64 p.aI],.agg #[.bool d.ok,f1,f2,f3],.agg #[.int .i64 op,.int .i64 of,.int .i64 A]] w fun e w'=>∃u1 u2 u3,e=.returned (.agg #[.int .i64 (uD p d op of A).1,.bool (uD p d op of A).2.ok,u1,u2,u3])∧Below w.heap.size w w'∧cQ (w.heap.size+1) w' u1 u2 u3 (uD p d op of A).2:=by
 have KP:=aD fun (W:World) (h:Below w.heap.size w W)=>hp.keep (Q:=In W) (In.keep h).1 (In.keep h).2;have KF:=aD fun (W:World) (h:Below w.heap.size w W)=>hf.keep (Q:=In W) (In.keep h).1 (In.keep h).2;obtain⟨a1,c1,rfl⟩:=hp.1.size;obtain⟨a2,c2,rfl⟩:=hp.2.1.size;obtain⟨a3,c3,rfl⟩:=hp.2.2.size;obtain⟨o1,m1,rfl⟩:=hf.1.size;obtain⟨o2,m2,rfl⟩:=hf.2.1.size;obtain⟨o3,m3,rfl⟩:=hf.2.2.size;have HP:=aD hp;have T0:=B9 w 27 40 55 42 #[.int .i64 p.aA,.slice a1 p.aE.length c1,.slice a2 p.aB.length c2,.slice a3 p.aO.length c3,.int .i64 p.aI] #[.bool d.ok,.slice o1 d.aH.length m1,.slice o2 d.aC.length m2,.slice o3 d.aB.length m3] #[.int .i64 op,.int .i64 of,.int .i64 A] #[.int .i64 0,.bool false,.slice none 0 0,.slice none 0 0,.slice none 0 0];have HS:=aD hs;have HD:=aD hd;have eE:p.aB.length<=1048576:=hs.2.1;have eC:p.aE.length<=1048576:=hs.1;clear hs hd hp hf;go_enter Tryz.func38,Tryz.ntmps38;have V:=T0.c 0 0 rfl rfl;have X:=T0.c 0 1 rfl rfl;have Y:=T0.c 0 2 rfl rfl;have Z:=T0.c 0 3 rfl rfl;have b4:=T0.c 0 4 rfl rfl;have e0:=T0.c 1 0 rfl rfl;have e1:=T0.c 1 1 rfl rfl;have e2:=T0.c 1 2 rfl rfl;have e3:=T0.c 1 3 rfl rfl;have v0:=T0.c 2 0 rfl rfl;have v1:=T0.c 2 1 rfl rfl;have v2:=T0.c 2 2 rfl rfl;rw[Nat.add_zero] at V X Y Z b4
 go_wp2_with fail
 refine (FR _ _ _ _ _ _ p d _ (KP.out _ T0.below) (KF.out _ T0.below) HS.out HD.out).mono ?_;clear V X Y Z b4 e0 e1 e2 e3 v0 v1 v2;rintro e w1 ⟨rfl,hb⟩;have T1:=T0.call hb;clear T0 hb;have V:=T1.c 0 0 rfl rfl;have X:=T1.c 0 1 rfl rfl;have Y:=T1.c 0 2 rfl rfl;have Z:=T1.c 0 3 rfl rfl;have b4:=T1.c 0 4 rfl rfl;have e0:=T1.c 1 0 rfl rfl;have e1:=T1.c 1 1 rfl rfl;have e2:=T1.c 1 2 rfl rfl;have e3:=T1.c 1 3 rfl rfl;have v0:=T1.c 2 0 rfl rfl;have v1:=T1.c 2 1 rfl rfl;have v2:=T1.c 2 2 rfl rfl;have r0:=T1.c 3 0 rfl rfl;have r1:=T1.c 3 1 rfl rfl;have r2:=T1.c 3 2 rfl rfl;have r3:=T1.c 3 3 rfl rfl;have r4:=T1.c 3 4 rfl rfl;have k0:=T1.frozen (j:=3) 0 rfl;have k1:=T1.frozen (j:=3) 1 rfl;have k2:=T1.frozen (j:=3) 2 rfl;have k3:=T1.frozen (j:=3) 3 rfl;have k4:=T1.frozen (j:=3) 4 rfl;rw[Nat.add_zero] at V X Y Z b4;have dM:¬(cJ p d∧fI p.aA p.aE.length p.aB.length op of A)->uD p d op of A=(1,iA):=fun h=>if_neg h;have cI:=aD dM;clear dM;by_cases bF:cJ p d
 case neg=>
  rw[bE bF];have F:=aD (cI.out fun z=>bF z.1);have HT:=aD T1.below;clear bF T1;go_wp2;refine bodyPost_ret (v:=.agg #[.int .i64 1,.bool false,.slice none 0 0,.slice none 0 0,.slice none 0 0]) (by simp[results,Tryz.results38,go_sem,r0,r1,r2,r3,r4]) rfl ?_;rw[F.out]
  have B:w.heap.size<=w.heap.size+3:=by omega
  exact⟨_,_,_,rfl,((((HT.out.setCell (p:=⟨w.heap.size+3,0,none⟩) B _).setCell (p:=⟨w.heap.size+3,1,none⟩) B _).setCell (p:=⟨w.heap.size+3,2,none⟩) B _).setCell (p:=⟨w.heap.size+3,3,none⟩) B _).setCell (p:=⟨w.heap.size+3,4,none⟩) B _,zK _ _⟩
 rw[bQ bF];have F:=aD bF;have bU:=bF.1.parts.1.1;clear bF
 go_wp2_with fail
 refine (G5 p.aA a1 a2 p.aE.length p.aB.length c1 c2 _ _ op of A _ eC eE bU.1 bU.2).mono ?_;clear V X Y Z b4 e0 e1 e2 e3 v0 v1 v2 r0 r1 r2 r3 r4 k0 k1 k2 k3 k4;rintro e w2 ⟨rfl,hb⟩;have T2:=T1.call hb;clear T1 hb;have V:=T2.c 0 0 rfl rfl;have X:=T2.c 0 1 rfl rfl;have Y:=T2.c 0 2 rfl rfl;have Z:=T2.c 0 3 rfl rfl;have b4:=T2.c 0 4 rfl rfl;have e0:=T2.c 1 0 rfl rfl;have e1:=T2.c 1 1 rfl rfl;have e2:=T2.c 1 2 rfl rfl;have e3:=T2.c 1 3 rfl rfl;have v0:=T2.c 2 0 rfl rfl;have v1:=T2.c 2 1 rfl rfl;have v2:=T2.c 2 2 rfl rfl;have r0:=T2.c 3 0 rfl rfl;have r1:=T2.c 3 1 rfl rfl;have r2:=T2.c 3 2 rfl rfl;have r3:=T2.c 3 3 rfl rfl;have r4:=T2.c 3 4 rfl rfl;have k0:=T2.frozen (j:=3) 0 rfl;have k1:=T2.frozen (j:=3) 1 rfl;have k2:=T2.frozen (j:=3) 2 rfl;have k3:=T2.frozen (j:=3) 3 rfl;have k4:=T2.frozen (j:=3) 4 rfl;rw[Nat.add_zero] at V X Y Z b4;by_cases a0:fI p.aA p.aE.length p.aB.length op of A
 case neg=>
  rw[bE a0];have F:=aD (cI.out fun z=>a0 z.2);have HT:=aD T2.below;clear a0 T2;go_wp2;refine bodyPost_ret (v:=.agg #[.int .i64 1,.bool false,.slice none 0 0,.slice none 0 0,.slice none 0 0]) (by simp[results,Tryz.results38,go_sem,r0,r1,r2,r3,r4]) rfl ?_;rw[F.out]
  have B:w.heap.size<=w.heap.size+3:=by omega
  exact⟨_,_,_,rfl,((((HT.out.setCell (p:=⟨w.heap.size+3,0,none⟩) B _).setCell (p:=⟨w.heap.size+3,1,none⟩) B _).setCell (p:=⟨w.heap.size+3,2,none⟩) B _).setCell (p:=⟨w.heap.size+3,3,none⟩) B _).setCell (p:=⟨w.heap.size+3,4,none⟩) B _,zK _ _⟩
 rw[bQ a0];have dT:=aD a0;have aW:=aD (show uD p d op of A=jR p d op of A from if_pos ⟨F.out,a0⟩);clear a0 cI r0 r1 r2 r3 r4 k0 k1 k2 k3 k4
 have aU:∀g∈d.aB,0<g.aL.length:=fun g hg=>by
  obtain⟨j,hj⟩:=List.getElem?_of_mem hg;have e9:=(List.getElem?_eq_some_iff.1 hj).1;obtain⟨x,hx⟩:=bG p.aB (aD rfl) (show j<p.aB.length by have:=F.out.2.2.2.2.1; omega);obtain⟨⟨-,hb,-⟩,-⟩:=F.out.2.2.2.2.2.2.1 j e9 x g hx hj;rw[hb];exact List.length_pos_iff.2 (F.out.1.way hx).1
 have dN:0<d.aH.length:=by have:=F.out.2.2.1; have:=bU.1; omega
 go_wp2_with fail
 refine (BL d.ok _ _ _ d _ (KF.out _ T2.below) HD.out dN aU).mono ?_;clear V X Y Z b4 e0 e1 e2 e3 v0 v1 v2 aU;rintro e H ⟨u1,u2,u3,I,bp,bw,bb,rfl,cP,aV⟩;have T3:=T2.call cP;obtain⟨fo,No,co,rfl,-⟩:=id aV.aH;obtain⟨ap,cp,rfl,-⟩:=id aV.aC;obtain⟨aw,cw,rfl,-⟩:=id aV.aB;have cR:=bC H (.cells #[.bool d.ok,.slice (some ⟨I,0,none⟩) d.aH.length co,.slice ap d.aC.length cp,.slice aw d.aB.length cw] 40);have T4:=T3.call cR;have X4:=cZ H 40 #[.bool d.ok,.slice (some ⟨I,0,none⟩) d.aH.length co,.slice ap d.aC.length cp,.slice aw d.aB.length cw];have cX:=aV.but (K:=fun _=>True) (Q:=New w2 H) (But.aG cR) (fun _ _=>trivial) fun _ z=>z
 have bM:∀c,c<w2.heap.size∨H.heap.size<=c->¬New w2 H c:=fun c r hn=>by have:=hn.1; have:=hn.2; omega
 have eW:w.heap.size+3<w2.heap.size:=T2.lt (j:=3) rfl;have eI:=cP.size
 go_upto_region 4 with fail
 obtain⟨J,cN⟩:∃W,W=H.alloc (.cells #[.bool d.ok,.slice (some ⟨I,0,none⟩) d.aH.length co,.slice ap d.aC.length cp,.slice aw d.aB.length cw] 40):=⟨_,rfl⟩;rw[← cN] at T4 X4 cX ⊢
 have eX:J.heap.size=H.heap.size+1:=by rw[cN]; simp
 have S:=aD cX
 have bR:∀W,But (fun c=>¬New w2 H c) J W->((W.cell? ⟨w.heap.size,0,none⟩=some (.int .i64 p.aA)∧W.cell? ⟨w.heap.size,1,none⟩=some (.slice a1 p.aE.length c1)∧W.cell? ⟨w.heap.size,2,none⟩=some (.slice a2 p.aB.length c2)∧W.cell? ⟨w.heap.size,3,none⟩=some (.slice a3 p.aO.length c3)∧W.cell? ⟨w.heap.size,4,none⟩=some (.int .i64 p.aI)) ∧
   (W.cell? ⟨w.heap.size+1,0,none⟩=some (.bool d.ok)∧W.cell? ⟨w.heap.size+1,1,none⟩=some (.slice o1 d.aH.length m1)∧W.cell? ⟨w.heap.size+1,2,none⟩=some (.slice o2 d.aC.length m2)∧W.cell? ⟨w.heap.size+1,3,none⟩=some (.slice o3 d.aB.length m3)) ∧
   (W.cell? ⟨w.heap.size+2,0,none⟩=some (.int .i64 op)∧W.cell? ⟨w.heap.size+2,1,none⟩=some (.int .i64 of)∧W.cell? ⟨w.heap.size+2,2,none⟩=some (.int .i64 A)) ∧
   (W.cell? ⟨H.heap.size,0,none⟩=some (.bool d.ok)∧W.cell? ⟨H.heap.size,1,none⟩=some (.slice (some ⟨I,0,none⟩) d.aH.length co)∧W.cell? ⟨H.heap.size,2,none⟩=some (.slice ap d.aC.length cp)∧W.cell? ⟨H.heap.size,3,none⟩=some (.slice aw d.aB.length cw)) ∧
   W.rowIs (w.heap.size+3) 42 5 (fun i=>(#[.int .i64 0,.bool false,.slice none 0 0,.slice none 0 0,.slice none 0 0]:Array Value)[i]!)∧Below w.heap.size w W):=fun W hW=>by
  have q:∀(j i:Nat) {t:TypeId}{c:Array Value}{v:Value},[(27,#[.int .i64 p.aA,.slice a1 p.aE.length c1,.slice a2 p.aB.length c2,.slice a3 p.aO.length c3,.int .i64 p.aI]),(40,#[.bool d.ok,.slice o1 d.aH.length m1,.slice o2 d.aC.length m2,.slice o3 d.aB.length m3]),(55,#[.int .i64 op,.int .i64 of,.int .i64 A]),(42,#[.int .i64 0,.bool false,.slice none 0 0,.slice none 0 0,.slice none 0 0])][j]?=some (t,c)->c[i]?=some v->W.cell? ⟨w.heap.size+j,i,none⟩=some v:=fun j i t c v T L=>hW.cell (T4.cell T L) (bM _ (.inl (by have:=T2.lt T; omega)));have x:∀(i:Nat) {v:Value},(#[.bool d.ok,.slice (some ⟨I,0,none⟩) d.aH.length co,.slice ap d.aC.length cp,.slice aw d.aB.length cw]:Array Value)[i]?=some v->W.cell? ⟨H.heap.size,i,none⟩=some v:=fun i v L=>hW.cell (X4.cell (j:=0) rfl L) (bM _ (.inr (by omega)));exact⟨⟨q 0 0 rfl rfl,q 0 1 rfl rfl,q 0 2 rfl rfl,q 0 3 rfl rfl,q 0 4 rfl rfl⟩,⟨q 1 0 rfl rfl,q 1 1 rfl rfl,q 1 2 rfl rfl,q 1 3 rfl rfl⟩,⟨q 2 0 rfl rfl,q 2 1 rfl rfl,q 2 2 rfl rfl⟩,⟨x 0 rfl,x 1 rfl,x 2 rfl,x 3 rfl⟩,hW.row (T4.row 3 _ _ rfl) (bM _ (.inl (by omega))),T4.below.trans (hW.below T4.below.size fun c r=>bM c (.inl (by omega)))⟩
 have u:=aD bR;have bD:Fits p.aB d:=tV F.out.1 F.out.2.2.1 F.out.2.2.2.1 F.out.2.2.2.2.1 F.out.2.2.2.2.2.2.1;have b9:=aD bD;have a4:=aD fun (op of A:Int)=>Da bD op of A;have cK:=aD bM;have dK:d.aB.length=p.aB.length:=F.out.2.2.2.2.1;have b6:=aD dK;have dJ:d.aC.length=p.aE.length:=F.out.2.2.2.1;have b5:=aD dJ;have bV:p.aB.length<=100:=F.out.1.parts.1.2.2.1;clear bR bD bM cN T2 T3 T4 X4 aV cX cR cP dK dJ;rcases dT.out with ⟨T,L,rfl⟩ | ⟨T,L,rfl⟩ | ⟨rfl,L,h3⟩ | ⟨rfl,L,h3⟩ | ⟨rfl,rfl,rfl⟩
 ·rcases T with rfl | rfl
  ·obtain⟨k,rfl⟩:∃k:Nat,of=k:=⟨of.toNat,by have:=L.1; omega⟩
   have hk:k<p.aB.length:=by have:=L.2; omega
   obtain⟨x,hx⟩:=bG p.aB (aD rfl) hk;obtain⟨h,hh⟩:=bG d.aB (aD b6.out) hk;have G:=u.out J (But.refl _ _);have v0:J.cell? ⟨w.heap.size+1+1,0,none⟩=_:=G.2.2.1.1;have v1:J.cell? ⟨w.heap.size+1+1,1,none⟩=_:=G.2.2.1.2.1;have v2:J.cell? ⟨w.heap.size+1+1,2,none⟩=_:=G.2.2.1.2.2;obtain⟨⟨V,X,Y,Z,b4⟩,⟨e0,e1,e2,e3⟩,-⟩:=id G
   go_wp2_with fail
   refine (IT _ _ _ _ _ _ p d k x h _ (KP.out _ G.2.2.2.2.2) (KF.out _ G.2.2.2.2.2) HS.out HD.out F.out hx hh).mono ?_;clear V X Y Z b4 e0 e1 e2 e3 v0 v1 v2;rintro e wV ⟨rfl,bA⟩
   have a0:cO p d 1 (k:Int) 0=oN p d k x h:=by simp[cO,hx,hh]
   have a9:=S.out.but (K:=fun _=>True) (Q:=New w2 H) (But.aG bA) (fun _ _=>trivial) fun _ z=>z;have C:But (fun c=>¬New w2 H c) J wV:=But.aG bA;obtain⟨cd,cV⟩:∃c,kQ p d k x h=c:=⟨_,rfl⟩;have c7:=aD (show oN p d k x h=if cd=0 then (0,{ d with aC:=fZ d.aC (x.aQ++x.aJ),aB:=d.aB.set k { h with state:=1 } }) else (cd,d) by unfold oN; rw[cV]);rw[cV];have a7:=aD a0;clear cV a0;by_cases ec:cd=0
   case neg=>
    have eO:(cd == 0)=false:=by simp[ec]
    have dS:=aD ec;clear ec hx hh G S;have f:=aD (u.out _ C);have P:=aD C.size;have HX:=aD (a9.bound (Q:=fun c=>w2.heap.size<=c∧c≠H.heap.size∧c<wV.heap.size) fun c T L=>⟨T.1,by have:=T.2; omega,L⟩);have HE:=aD (show cO p d 1 (k:Int) 0=(cd,d) by rw[a7.out,c7.out,if_neg dS.out]);have O:=aD b9.out;obtain⟨⟨V,X,Y,Z,b4⟩,-⟩:=f.out;clear a9 C
    go_wp2_with fail
    refine (qW _ (In w) _ _ _ _ _ _ _ _ _ _ p.aB I _ bw H.heap.size _ _ (HP.out.2.1.keep (fW f.out.2.2.2.2.2 fun _ h=>h) fun _ h=>h) (fun c r=>⟨Nat.lt_of_lt_of_le r f.out.2.2.2.2.2.size,fun z=>absurd z.1 (by have:c<w.heap.size:=r; omega)⟩) f.out.2.2.2.1.1 f.out.2.2.2.1.2.1 f.out.2.2.2.1.2.2.1 f.out.2.2.2.1.2.2.2 (fun z=>z.2.1 rfl) HX.out O.out fun c r=>r.2.2).mono ?_;clear V X Y Z b4;rintro e n ⟨rfl,R,E,a⟩;have c0:=a.cell f.out.2.2.2.1.1 (fun z=>z.2.1 rfl);have aS:=a.cell f.out.2.2.2.1.2.1 (fun z=>z.2.1 rfl);have aT:=a.cell f.out.2.2.2.1.2.2.1 (fun z=>z.2.1 rfl);have a8:=a.cell f.out.2.2.2.1.2.2.2 (fun z=>z.2.1 rfl);have m:=a.row f.out.2.2.2.2.1 (fun z=>absurd z.1 (by omega));have r0:n.cell? ⟨w.heap.size+1+1+1,0,none⟩=_:=m.cell (i:=0) (by omega);have r1:n.cell? ⟨w.heap.size+1+1+1,1,none⟩=_:=m.cell (i:=1) (by omega);have r2:n.cell? ⟨w.heap.size+1+1+1,2,none⟩=_:=m.cell (i:=2) (by omega);have r3:n.cell? ⟨w.heap.size+1+1+1,3,none⟩=_:=m.cell (i:=3) (by omega);have r4:n.cell? ⟨w.heap.size+1+1+1,4,none⟩=_:=m.cell (i:=4) (by omega);have k0:n.frozen? ⟨w.heap.size+1+1+1,0,none⟩=false:=m.frozen 0;have k1:n.frozen? ⟨w.heap.size+1+1+1,1,none⟩=false:=m.frozen 1;have k2:n.frozen? ⟨w.heap.size+1+1+1,2,none⟩=false:=m.frozen 2;have k3:n.frozen? ⟨w.heap.size+1+1+1,3,none⟩=false:=m.frozen 3;have k4:n.frozen? ⟨w.heap.size+1+1+1,4,none⟩=false:=m.frozen 4
    have M:=aD (f.out.2.2.2.2.2.trans (a.below f.out.2.2.2.2.2.size fun c r z=>absurd z.1 (by omega)));have N:=aD E;clear E a m;go_wp2;refine bodyPost_ret (v:=.agg #[.int .i64 (cd),.bool d.ok,.slice (some ⟨I,0,none⟩) d.aH.length co,.slice (ap) d.aC.length cp,.slice (aw) d.aB.length cw]) (by simp[results,Tryz.results38,go_sem,r0,r1,r2,r3,r4]) rfl ?_;rw[aW.out];unfold jR;rw[HE.out]
    have B:w.heap.size<=w.heap.size+1+1+1:=by omega
    refine⟨_,_,_,rfl,((((M.out.setCell (p:=⟨w.heap.size+1+1+1,0,none⟩) B _).setCell (p:=⟨w.heap.size+1+1+1,1,none⟩) B _).setCell (p:=⟨w.heap.size+1+1+1,2,none⟩) B _).setCell (p:=⟨w.heap.size+1+1+1,3,none⟩) B _).setCell (p:=⟨w.heap.size+1+1+1,4,none⟩) B _,.inl ⟨I,bp,bw,R,?_⟩⟩;have l:∀o:Nat,¬((fun c=>c≠w.heap.size+1+1+1) (⟨w.heap.size+1+1+1,o,none⟩:Addr).block):=fun o z=>z rfl;have a6:=P.out;refine N.out.but (Q:=fun c=>w.heap.size+1<=c) ((((((But.refl (fun c=>c≠w.heap.size+1+1+1) n).setCell (l 0) _).setCell (l 1) _).setCell (l 2) _).setCell (l 3) _).setCell (l 4) _) (fun c r=>?_) fun c r=>?_
    ·rcases r with z | z
     ·have:=z.1; omega
     ·have:=z.1; omega
    ·rcases r with z | z
     ·have:=z.1; omega
     ·have:=z.1; omega
   subst ec;have b8:=F.out.1.way hx;have aR:=u.out _ C
   have bH:=aD (IS (New w2 H) (In w) (.int .i64 p.aA) (.int .i64 p.aI) (.bool d.ok) (.slice a1 p.aE.length c1) _ (.slice a3 p.aO.length c3) _ _ _ d p.aB k x h I bp bw H.heap.size bb wV (HP.out.2.1.keep (fW aR.2.2.2.2.2 fun _ h=>h) fun _ h=>h) (fun c r=>⟨Nat.lt_of_lt_of_le r aR.2.2.2.2.2.size,cK.out c (.inl (by have:c<w.heap.size:=r; omega))⟩) aR.2.2.2.1.1 aR.2.2.2.1.2.2.1 aR.2.2.2.1.2.2.2 (cK.out _ (.inr (Nat.le_refl _))) a9 hx hh (fun c r=>by have:=r.2; have:=bA.size; omega) b8.small (fun y hy=>by
    rw[b5.out];rcases hy with hy | hy
    ·exact b8.2.2.2.2.1.mem hy
    ·exact b8.2.2.2.2.2.1.mem hy) bV (by have:=b6.out; omega) (by have:=b5.out; omega))
   obtain⟨⟨V,X,Y,Z,b4⟩,-,⟨v0,v1,v2⟩,-⟩:=id aR;have d3:wV.cell? ⟨w.heap.size+1+1,1,none⟩=_:=v1;have bI:=aD C;clear a9 b8 G S aR C v0 v1 v2 hx hh
   go_wp2_with fail
   refine bH.out.mono ?_;clear V X Y Z b4 d3 bH;rintro e wU ⟨rfl,cL,aY,aX⟩;have C:=bI.out.trans aX;have f:=aD (u.out _ C);have P:=aD C.size;have HX:=aD (aY.bound (Q:=fun c=>w2.heap.size<=c∧c≠H.heap.size∧c<wU.heap.size) fun c T L=>⟨T.1,by have:=T.2; omega,L⟩);have HE:=aD (show cO p d 1 (k:Int) 0=(0,{ d with aC:=fZ d.aC (x.aQ++x.aJ),aB:=d.aB.set k { h with state:=1 } }) by rw[a7.out,c7.out]; first | exact if_pos rfl | exact if_pos trivial);have O:=aD (show Fits p.aB { d with aC:=fZ d.aC (x.aQ++x.aJ),aB:=d.aB.set k { h with state:=1 } } by have:=a4.out 1 (k:Int) 0; rw[HE.out] at this; exact this);obtain⟨⟨V,X,Y,Z,b4⟩,-⟩:=f.out;clear aY aX C
   go_wp2_with fail
   refine (qW _ (In w) _ _ _ _ _ _ _ _ _ _ p.aB I _ bw H.heap.size _ _ (HP.out.2.1.keep (fW f.out.2.2.2.2.2 fun _ h=>h) fun _ h=>h) (fun c r=>⟨Nat.lt_of_lt_of_le r f.out.2.2.2.2.2.size,fun z=>absurd z.1 (by have:c<w.heap.size:=r; omega)⟩) f.out.2.2.2.1.1 f.out.2.2.2.1.2.1 f.out.2.2.2.1.2.2.1 f.out.2.2.2.1.2.2.2 (fun z=>z.2.1 rfl) HX.out O.out fun c r=>r.2.2).mono ?_;clear V X Y Z b4;rintro e n ⟨rfl,R,E,a⟩;have c0:=a.cell f.out.2.2.2.1.1 (fun z=>z.2.1 rfl);have aS:=a.cell f.out.2.2.2.1.2.1 (fun z=>z.2.1 rfl);have aT:=a.cell f.out.2.2.2.1.2.2.1 (fun z=>z.2.1 rfl);have a8:=a.cell f.out.2.2.2.1.2.2.2 (fun z=>z.2.1 rfl);have m:=a.row f.out.2.2.2.2.1 (fun z=>absurd z.1 (by omega));have r0:n.cell? ⟨w.heap.size+1+1+1,0,none⟩=_:=m.cell (i:=0) (by omega);have r1:n.cell? ⟨w.heap.size+1+1+1,1,none⟩=_:=m.cell (i:=1) (by omega);have r2:n.cell? ⟨w.heap.size+1+1+1,2,none⟩=_:=m.cell (i:=2) (by omega);have r3:n.cell? ⟨w.heap.size+1+1+1,3,none⟩=_:=m.cell (i:=3) (by omega);have r4:n.cell? ⟨w.heap.size+1+1+1,4,none⟩=_:=m.cell (i:=4) (by omega);have k0:n.frozen? ⟨w.heap.size+1+1+1,0,none⟩=false:=m.frozen 0;have k1:n.frozen? ⟨w.heap.size+1+1+1,1,none⟩=false:=m.frozen 1;have k2:n.frozen? ⟨w.heap.size+1+1+1,2,none⟩=false:=m.frozen 2;have k3:n.frozen? ⟨w.heap.size+1+1+1,3,none⟩=false:=m.frozen 3;have k4:n.frozen? ⟨w.heap.size+1+1+1,4,none⟩=false:=m.frozen 4
   have M:=aD (f.out.2.2.2.2.2.trans (a.below f.out.2.2.2.2.2.size fun c r z=>absurd z.1 (by omega)));have N:=aD E;clear E a m;go_wp2;refine bodyPost_ret (v:=.agg #[.int .i64 (0),.bool d.ok,.slice (some ⟨I,0,none⟩) d.aH.length co,.slice (ap) d.aC.length cp,.slice (aw) d.aB.length cw]) (by simp[results,Tryz.results38,go_sem,r0,r1,r2,r3,r4]) rfl ?_;rw[aW.out];unfold jR;rw[HE.out]
   have B:w.heap.size<=w.heap.size+1+1+1:=by omega
   refine⟨_,_,_,rfl,((((M.out.setCell (p:=⟨w.heap.size+1+1+1,0,none⟩) B _).setCell (p:=⟨w.heap.size+1+1+1,1,none⟩) B _).setCell (p:=⟨w.heap.size+1+1+1,2,none⟩) B _).setCell (p:=⟨w.heap.size+1+1+1,3,none⟩) B _).setCell (p:=⟨w.heap.size+1+1+1,4,none⟩) B _,.inl ⟨I,bp,bw,R,?_⟩⟩;have l:∀o:Nat,¬((fun c=>c≠w.heap.size+1+1+1) (⟨w.heap.size+1+1+1,o,none⟩:Addr).block):=fun o z=>z rfl;have a6:=P.out;refine N.out.but (Q:=fun c=>w.heap.size+1<=c) ((((((But.refl (fun c=>c≠w.heap.size+1+1+1) n).setCell (l 0) _).setCell (l 1) _).setCell (l 2) _).setCell (l 3) _).setCell (l 4) _) (fun c r=>?_) fun c r=>?_
   ·rcases r with z | z
    ·have:=z.1; omega
    ·have:=z.1; omega
   ·rcases r with z | z
    ·have:=z.1; omega
    ·have:=z.1; omega
  ·obtain⟨k,rfl⟩:∃k:Nat,of=k:=⟨of.toNat,by have:=L.1; omega⟩
   have hk:k<p.aB.length:=by have:=L.2; omega
   obtain⟨x,hx⟩:=bG p.aB (aD rfl) hk;obtain⟨h,hh⟩:=bG d.aB (aD b6.out) hk;have G:=u.out J (But.refl _ _);have v0:J.cell? ⟨w.heap.size+1+1,0,none⟩=_:=G.2.2.1.1;have v1:J.cell? ⟨w.heap.size+1+1,1,none⟩=_:=G.2.2.1.2.1;have v2:J.cell? ⟨w.heap.size+1+1,2,none⟩=_:=G.2.2.1.2.2;have b8:=F.out.1.way hx;have d4:=aD (Gf (New w2 H) (In w) (.int .i64 p.aA) (.bool d.ok) (.slice a1 p.aE.length c1) _ (.slice a3 p.aO.length c3) _ _ _ p d k x h I bp bw H.heap.size bb J (HP.out.2.1.keep (fW G.2.2.2.2.2 fun _ h=>h) fun _ h=>h) (fun c r=>⟨Nat.lt_of_lt_of_le r G.2.2.2.2.2.size,cK.out c (.inl (by have:c<w.heap.size:=r; omega))⟩) G.2.2.2.1.1 G.2.2.2.1.2.1 G.2.2.2.1.2.2.2 S.out hx hh b8.small (fun s hs=>by rw[F.out.2.2.1]; exact b8.2.2.2.1.mem hs) (HD.out.2.2.2 h (List.mem_of_getElem? hh)) bV (by have:=b6.out; omega) HD.out.1)
   have a0:cO p d 2 (k:Int) 0=jP p d k x h:=by simp[cO,hx,hh]
   have a7:=aD a0;obtain⟨⟨V,X,Y,Z,b4⟩,-⟩:=id G;clear a0 b8 G hx hh S
   go_wp2_with fail
   refine d4.out.mono ?_;clear V X Y Z b4 d4;rintro e wU ⟨rfl,cL,aY,aX⟩;obtain⟨cd,DX,bY⟩:∃c D,jP p d k x h=(c,D):=⟨_,_,rfl⟩;rw[bY] at aY ⊢;have f:=aD (u.out _ aX);have P:=aD aX.size
   have HX:=aD (aY.bound (Q:=fun c=>w2.heap.size<=c∧c≠H.heap.size∧c<wU.heap.size) fun c T L=>by
    rcases T with z | z
    ·exact⟨z.1,by have:=z.2; omega,L⟩
    ·exact⟨by have:=z.1; omega,by have:=z.1; omega,L⟩)
   have HE:=aD (show cO p d 2 (k:Int) 0=(cd,DX) by rw[a7.out,bY]);have O:=aD (show Fits p.aB DX by have:=a4.out 2 (k:Int) 0; rw[HE.out] at this; exact this)
   have dO:DX.ok=d.ok:=by
    have:(jP p d k x h).2.ok=d.ok:=by unfold jP; split <;> rfl
    rw[bY] at this;exact this
   have dX:=aD dO;obtain⟨⟨V,X,Y,Z,b4⟩,-⟩:=f.out;clear aY aX bY dO
   go_wp2_with fail
   refine (qW _ (In w) _ _ _ _ _ _ _ _ _ _ p.aB I _ bw H.heap.size _ _ (HP.out.2.1.keep (fW f.out.2.2.2.2.2 fun _ h=>h) fun _ h=>h) (fun c r=>⟨Nat.lt_of_lt_of_le r f.out.2.2.2.2.2.size,fun z=>absurd z.1 (by have:c<w.heap.size:=r; omega)⟩) f.out.2.2.2.1.1 f.out.2.2.2.1.2.1 f.out.2.2.2.1.2.2.1 f.out.2.2.2.1.2.2.2 (fun z=>z.2.1 rfl) HX.out O.out fun c r=>r.2.2).mono ?_;clear V X Y Z b4;rintro e n ⟨rfl,R,E,a⟩;have c0:=a.cell f.out.2.2.2.1.1 (fun z=>z.2.1 rfl);have aS:=a.cell f.out.2.2.2.1.2.1 (fun z=>z.2.1 rfl);have aT:=a.cell f.out.2.2.2.1.2.2.1 (fun z=>z.2.1 rfl);have a8:=a.cell f.out.2.2.2.1.2.2.2 (fun z=>z.2.1 rfl);have m:=a.row f.out.2.2.2.2.1 (fun z=>absurd z.1 (by omega));have r0:n.cell? ⟨w.heap.size+1+1+1,0,none⟩=_:=m.cell (i:=0) (by omega);have r1:n.cell? ⟨w.heap.size+1+1+1,1,none⟩=_:=m.cell (i:=1) (by omega);have r2:n.cell? ⟨w.heap.size+1+1+1,2,none⟩=_:=m.cell (i:=2) (by omega);have r3:n.cell? ⟨w.heap.size+1+1+1,3,none⟩=_:=m.cell (i:=3) (by omega);have r4:n.cell? ⟨w.heap.size+1+1+1,4,none⟩=_:=m.cell (i:=4) (by omega);have k0:n.frozen? ⟨w.heap.size+1+1+1,0,none⟩=false:=m.frozen 0;have k1:n.frozen? ⟨w.heap.size+1+1+1,1,none⟩=false:=m.frozen 1;have k2:n.frozen? ⟨w.heap.size+1+1+1,2,none⟩=false:=m.frozen 2;have k3:n.frozen? ⟨w.heap.size+1+1+1,3,none⟩=false:=m.frozen 3;have k4:n.frozen? ⟨w.heap.size+1+1+1,4,none⟩=false:=m.frozen 4
   have M:=aD (f.out.2.2.2.2.2.trans (a.below f.out.2.2.2.2.2.size fun c r z=>absurd z.1 (by omega)));have N:=aD E;clear E a m;go_wp2;refine bodyPost_ret (v:=.agg #[.int .i64 (cd),.bool d.ok,.slice (some ⟨I,0,none⟩) d.aH.length co,.slice (ap) d.aC.length cp,.slice (aw) d.aB.length cw]) (by simp[results,Tryz.results38,go_sem,r0,r1,r2,r3,r4]) rfl ?_;rw[aW.out];unfold jR;rw[HE.out]
   have B:w.heap.size<=w.heap.size+1+1+1:=by omega
   refine⟨_,_,_,by rw[show (kN p.aB DX).ok=d.ok from dX.out],((((M.out.setCell (p:=⟨w.heap.size+1+1+1,0,none⟩) B _).setCell (p:=⟨w.heap.size+1+1+1,1,none⟩) B _).setCell (p:=⟨w.heap.size+1+1+1,2,none⟩) B _).setCell (p:=⟨w.heap.size+1+1+1,3,none⟩) B _).setCell (p:=⟨w.heap.size+1+1+1,4,none⟩) B _,.inl ⟨I,bp,bw,R,?_⟩⟩;have l:∀o:Nat,¬((fun c=>c≠w.heap.size+1+1+1) (⟨w.heap.size+1+1+1,o,none⟩:Addr).block):=fun o z=>z rfl;have a6:=P.out;refine N.out.but (Q:=fun c=>w.heap.size+1<=c) ((((((But.refl (fun c=>c≠w.heap.size+1+1+1) n).setCell (l 0) _).setCell (l 1) _).setCell (l 2) _).setCell (l 3) _).setCell (l 4) _) (fun c r=>?_) fun c r=>?_
   ·rcases r with z | z
    ·have:=z.1; omega
    ·have:=z.1; omega
   ·rcases r with z | z
    ·have:=z.1; omega
    ·have:=z.1; omega
 ·rcases T with rfl | rfl
  ·obtain⟨k,rfl⟩:∃k:Nat,of=k:=⟨of.toNat,by have:=L.1; omega⟩
   have hk:k<d.aH.length:=by have:=L.2; have:=F.out.2.2.1; omega
   obtain⟨o,ho⟩:=bG d.aH (aD rfl) hk;obtain⟨cq,e1,g0,z0⟩:=S.out.aH.cells ho
   cases e1
   have G:=u.out J (But.refl _ _);have v0:J.cell? ⟨w.heap.size+1+1,0,none⟩=_:=G.2.2.1.1;have v1:J.cell? ⟨w.heap.size+1+1,1,none⟩=_:=G.2.2.1.2.1;have v2:J.cell? ⟨w.heap.size+1+1,2,none⟩=_:=G.2.2.1.2.2;have aS:=G.2.2.2.1.2.1;obtain⟨U,a5⟩:=S.out.kZ hk true;have f:=aD (u.out _ a5);have P:=aD a5.size;have HX:=aD (U.bound (Q:=fun c=>w2.heap.size<=c∧c≠H.heap.size∧c<(J.setCell ⟨I,k,none⟩ (.bool true)).heap.size) fun c T L=>⟨T.1,by have:=T.2; omega,L⟩);have HE:=aD (show cO p d 3 (k:Int) 0=(0,{ d with aH:=d.aH.set k true }) by simp[cO]);have O:=aD (show Fits p.aB { d with aH:=d.aH.set k true } by have:=a4.out 3 (k:Int) 0; rw[HE.out] at this; exact this);obtain⟨⟨V,X,Y,Z,b4⟩,-⟩:=f.out
   have cY:(k:Int)<(d.aH.length:Int):=by omega
   clear U a5 G ho S
   go_wp2_with fail
   refine (qW _ (In w) _ _ _ _ _ _ _ _ _ _ p.aB I _ bw H.heap.size _ _ (HP.out.2.1.keep (fW f.out.2.2.2.2.2 fun _ h=>h) fun _ h=>h) (fun c r=>⟨Nat.lt_of_lt_of_le r f.out.2.2.2.2.2.size,fun z=>absurd z.1 (by have:c<w.heap.size:=r; omega)⟩) f.out.2.2.2.1.1 f.out.2.2.2.1.2.1 f.out.2.2.2.1.2.2.1 f.out.2.2.2.1.2.2.2 (fun z=>z.2.1 rfl) HX.out O.out fun c r=>r.2.2).mono ?_;clear V X Y Z b4;rintro e n ⟨rfl,R,E,a⟩;have c0:=a.cell f.out.2.2.2.1.1 (fun z=>z.2.1 rfl);have aS:=a.cell f.out.2.2.2.1.2.1 (fun z=>z.2.1 rfl);have aT:=a.cell f.out.2.2.2.1.2.2.1 (fun z=>z.2.1 rfl);have a8:=a.cell f.out.2.2.2.1.2.2.2 (fun z=>z.2.1 rfl);have m:=a.row f.out.2.2.2.2.1 (fun z=>absurd z.1 (by omega));have r0:n.cell? ⟨w.heap.size+1+1+1,0,none⟩=_:=m.cell (i:=0) (by omega);have r1:n.cell? ⟨w.heap.size+1+1+1,1,none⟩=_:=m.cell (i:=1) (by omega);have r2:n.cell? ⟨w.heap.size+1+1+1,2,none⟩=_:=m.cell (i:=2) (by omega);have r3:n.cell? ⟨w.heap.size+1+1+1,3,none⟩=_:=m.cell (i:=3) (by omega);have r4:n.cell? ⟨w.heap.size+1+1+1,4,none⟩=_:=m.cell (i:=4) (by omega);have k0:n.frozen? ⟨w.heap.size+1+1+1,0,none⟩=false:=m.frozen 0;have k1:n.frozen? ⟨w.heap.size+1+1+1,1,none⟩=false:=m.frozen 1;have k2:n.frozen? ⟨w.heap.size+1+1+1,2,none⟩=false:=m.frozen 2;have k3:n.frozen? ⟨w.heap.size+1+1+1,3,none⟩=false:=m.frozen 3;have k4:n.frozen? ⟨w.heap.size+1+1+1,4,none⟩=false:=m.frozen 4
   have M:=aD (f.out.2.2.2.2.2.trans (a.below f.out.2.2.2.2.2.size fun c r z=>absurd z.1 (by omega)));have N:=aD E;clear E a m;go_wp2;refine bodyPost_ret (v:=.agg #[.int .i64 (0),.bool d.ok,.slice (some ⟨I,0,none⟩) d.aH.length co,.slice (ap) d.aC.length cp,.slice (aw) d.aB.length cw]) (by simp[results,Tryz.results38,go_sem,r0,r1,r2,r3,r4]) rfl ?_;rw[aW.out];unfold jR;rw[HE.out]
   have B:w.heap.size<=w.heap.size+1+1+1:=by omega
   refine⟨_,_,_,rfl,((((M.out.setCell (p:=⟨w.heap.size+1+1+1,0,none⟩) B _).setCell (p:=⟨w.heap.size+1+1+1,1,none⟩) B _).setCell (p:=⟨w.heap.size+1+1+1,2,none⟩) B _).setCell (p:=⟨w.heap.size+1+1+1,3,none⟩) B _).setCell (p:=⟨w.heap.size+1+1+1,4,none⟩) B _,.inl ⟨I,bp,bw,R,?_⟩⟩;have l:∀o:Nat,¬((fun c=>c≠w.heap.size+1+1+1) (⟨w.heap.size+1+1+1,o,none⟩:Addr).block):=fun o z=>z rfl;have a6:=P.out;refine N.out.but (Q:=fun c=>w.heap.size+1<=c) ((((((But.refl (fun c=>c≠w.heap.size+1+1+1) n).setCell (l 0) _).setCell (l 1) _).setCell (l 2) _).setCell (l 3) _).setCell (l 4) _) (fun c r=>?_) fun c r=>?_
   ·rcases r with z | z
    ·have:=z.1; omega
    ·have:=z.1; omega
   ·rcases r with z | z
    ·have:=z.1; omega
    ·have:=z.1; omega
  ·obtain⟨k,rfl⟩:∃k:Nat,of=k:=⟨of.toNat,by have:=L.1; omega⟩
   have hk:k<d.aH.length:=by have:=L.2; have:=F.out.2.2.1; omega
   obtain⟨o,ho⟩:=bG d.aH (aD rfl) hk;obtain⟨cq,e1,g0,z0⟩:=S.out.aH.cells ho
   cases e1
   have G:=u.out J (But.refl _ _);have v0:J.cell? ⟨w.heap.size+1+1,0,none⟩=_:=G.2.2.1.1;have v1:J.cell? ⟨w.heap.size+1+1,1,none⟩=_:=G.2.2.1.2.1;have v2:J.cell? ⟨w.heap.size+1+1,2,none⟩=_:=G.2.2.1.2.2;have aS:=G.2.2.2.1.2.1;obtain⟨U,a5⟩:=S.out.kZ hk false;have f:=aD (u.out _ a5);have P:=aD a5.size;have HX:=aD (U.bound (Q:=fun c=>w2.heap.size<=c∧c≠H.heap.size∧c<(J.setCell ⟨I,k,none⟩ (.bool false)).heap.size) fun c T L=>⟨T.1,by have:=T.2; omega,L⟩);have HE:=aD (show cO p d 4 (k:Int) 0=(0,{ d with aH:=d.aH.set k false }) by simp[cO]);have O:=aD (show Fits p.aB { d with aH:=d.aH.set k false } by have:=a4.out 4 (k:Int) 0; rw[HE.out] at this; exact this);obtain⟨⟨V,X,Y,Z,b4⟩,-⟩:=f.out
   have cY:(k:Int)<(d.aH.length:Int):=by omega
   clear U a5 G ho S
   go_wp2_with fail
   refine (qW _ (In w) _ _ _ _ _ _ _ _ _ _ p.aB I _ bw H.heap.size _ _ (HP.out.2.1.keep (fW f.out.2.2.2.2.2 fun _ h=>h) fun _ h=>h) (fun c r=>⟨Nat.lt_of_lt_of_le r f.out.2.2.2.2.2.size,fun z=>absurd z.1 (by have:c<w.heap.size:=r; omega)⟩) f.out.2.2.2.1.1 f.out.2.2.2.1.2.1 f.out.2.2.2.1.2.2.1 f.out.2.2.2.1.2.2.2 (fun z=>z.2.1 rfl) HX.out O.out fun c r=>r.2.2).mono ?_;clear V X Y Z b4;rintro e n ⟨rfl,R,E,a⟩;have c0:=a.cell f.out.2.2.2.1.1 (fun z=>z.2.1 rfl);have aS:=a.cell f.out.2.2.2.1.2.1 (fun z=>z.2.1 rfl);have aT:=a.cell f.out.2.2.2.1.2.2.1 (fun z=>z.2.1 rfl);have a8:=a.cell f.out.2.2.2.1.2.2.2 (fun z=>z.2.1 rfl);have m:=a.row f.out.2.2.2.2.1 (fun z=>absurd z.1 (by omega));have r0:n.cell? ⟨w.heap.size+1+1+1,0,none⟩=_:=m.cell (i:=0) (by omega);have r1:n.cell? ⟨w.heap.size+1+1+1,1,none⟩=_:=m.cell (i:=1) (by omega);have r2:n.cell? ⟨w.heap.size+1+1+1,2,none⟩=_:=m.cell (i:=2) (by omega);have r3:n.cell? ⟨w.heap.size+1+1+1,3,none⟩=_:=m.cell (i:=3) (by omega);have r4:n.cell? ⟨w.heap.size+1+1+1,4,none⟩=_:=m.cell (i:=4) (by omega);have k0:n.frozen? ⟨w.heap.size+1+1+1,0,none⟩=false:=m.frozen 0;have k1:n.frozen? ⟨w.heap.size+1+1+1,1,none⟩=false:=m.frozen 1;have k2:n.frozen? ⟨w.heap.size+1+1+1,2,none⟩=false:=m.frozen 2;have k3:n.frozen? ⟨w.heap.size+1+1+1,3,none⟩=false:=m.frozen 3;have k4:n.frozen? ⟨w.heap.size+1+1+1,4,none⟩=false:=m.frozen 4
   have M:=aD (f.out.2.2.2.2.2.trans (a.below f.out.2.2.2.2.2.size fun c r z=>absurd z.1 (by omega)));have N:=aD E;clear E a m;go_wp2;refine bodyPost_ret (v:=.agg #[.int .i64 (0),.bool d.ok,.slice (some ⟨I,0,none⟩) d.aH.length co,.slice (ap) d.aC.length cp,.slice (aw) d.aB.length cw]) (by simp[results,Tryz.results38,go_sem,r0,r1,r2,r3,r4]) rfl ?_;rw[aW.out];unfold jR;rw[HE.out]
   have B:w.heap.size<=w.heap.size+1+1+1:=by omega
   refine⟨_,_,_,rfl,((((M.out.setCell (p:=⟨w.heap.size+1+1+1,0,none⟩) B _).setCell (p:=⟨w.heap.size+1+1+1,1,none⟩) B _).setCell (p:=⟨w.heap.size+1+1+1,2,none⟩) B _).setCell (p:=⟨w.heap.size+1+1+1,3,none⟩) B _).setCell (p:=⟨w.heap.size+1+1+1,4,none⟩) B _,.inl ⟨I,bp,bw,R,?_⟩⟩;have l:∀o:Nat,¬((fun c=>c≠w.heap.size+1+1+1) (⟨w.heap.size+1+1+1,o,none⟩:Addr).block):=fun o z=>z rfl;have a6:=P.out;refine N.out.but (Q:=fun c=>w.heap.size+1<=c) ((((((But.refl (fun c=>c≠w.heap.size+1+1+1) n).setCell (l 0) _).setCell (l 1) _).setCell (l 2) _).setCell (l 3) _).setCell (l 4) _) (fun c r=>?_) fun c r=>?_
   ·rcases r with z | z
    ·have:=z.1; omega
    ·have:=z.1; omega
   ·rcases r with z | z
    ·have:=z.1; omega
    ·have:=z.1; omega
 ·obtain⟨k,rfl⟩:∃k:Nat,of=k:=⟨of.toNat,by have:=L.1; omega⟩
  have hk:k<p.aE.length:=by have:=L.2; omega
  obtain⟨pt,aM⟩:=bG d.aC (aD b5.out) hk;obtain⟨cq,e1,g0,g1,z0,z1⟩:=S.out.aC.cells aM
  cases e1
  have U:=S.out.put aM 1 (by omega) A
  have b7:kB d.aC k (fun pt=>(pt.1,A))=d.aC.set k (if 1=0 then (A,pt.2) else (pt.1,A)):=by rw[uZ _ aM]; rfl
  obtain⟨U,a5⟩:=U;rw[← b7] at U;have f:=aD (u.out _ a5);have P:=aD a5.size;have HX:=aD (U.bound (Q:=fun c=>w2.heap.size<=c∧c≠H.heap.size∧c<(J.setCell ⟨bp,k*2+1,none⟩ (.int .i64 A)).heap.size) fun c T L=>⟨T.1,by have:=T.2; omega,L⟩);have HE:=aD (show cO p d 5 (k:Int) A=(0,{ d with aC:=kB d.aC k fun pt=>(pt.1,A) }) by simp[cO]);have O:=aD (show Fits p.aB { d with aC:=kB d.aC k fun pt=>(pt.1,A) } by have:=a4.out 5 (k:Int) A; rw[HE.out] at this; exact this);have G:=u.out J (But.refl _ _);have v0:J.cell? ⟨w.heap.size+1+1,0,none⟩=_:=G.2.2.1.1;have v1:J.cell? ⟨w.heap.size+1+1,1,none⟩=_:=G.2.2.1.2.1;have v2:J.cell? ⟨w.heap.size+1+1,2,none⟩=_:=G.2.2.1.2.2;have aT:=G.2.2.2.1.2.2.1;obtain⟨⟨V,X,Y,Z,b4⟩,-⟩:=f.out
  have cY:(k:Int)<(d.aC.length:Int):=by have:=b5.out; omega
  have eB:d.aC.length<=1048576:=by have:=b5.out; omega
  clear U a5 G aM S b7
  go_wp2_with fail
  refine (qW _ (In w) _ _ _ _ _ _ _ _ _ _ p.aB I _ bw H.heap.size _ _ (HP.out.2.1.keep (fW f.out.2.2.2.2.2 fun _ h=>h) fun _ h=>h) (fun c r=>⟨Nat.lt_of_lt_of_le r f.out.2.2.2.2.2.size,fun z=>absurd z.1 (by have:c<w.heap.size:=r; omega)⟩) f.out.2.2.2.1.1 f.out.2.2.2.1.2.1 f.out.2.2.2.1.2.2.1 f.out.2.2.2.1.2.2.2 (fun z=>z.2.1 rfl) HX.out O.out fun c r=>r.2.2).mono ?_;clear V X Y Z b4;rintro e n ⟨rfl,R,E,a⟩;have c0:=a.cell f.out.2.2.2.1.1 (fun z=>z.2.1 rfl);have aS:=a.cell f.out.2.2.2.1.2.1 (fun z=>z.2.1 rfl);have aT:=a.cell f.out.2.2.2.1.2.2.1 (fun z=>z.2.1 rfl);have a8:=a.cell f.out.2.2.2.1.2.2.2 (fun z=>z.2.1 rfl);have m:=a.row f.out.2.2.2.2.1 (fun z=>absurd z.1 (by omega));have r0:n.cell? ⟨w.heap.size+1+1+1,0,none⟩=_:=m.cell (i:=0) (by omega);have r1:n.cell? ⟨w.heap.size+1+1+1,1,none⟩=_:=m.cell (i:=1) (by omega);have r2:n.cell? ⟨w.heap.size+1+1+1,2,none⟩=_:=m.cell (i:=2) (by omega);have r3:n.cell? ⟨w.heap.size+1+1+1,3,none⟩=_:=m.cell (i:=3) (by omega);have r4:n.cell? ⟨w.heap.size+1+1+1,4,none⟩=_:=m.cell (i:=4) (by omega);have k0:n.frozen? ⟨w.heap.size+1+1+1,0,none⟩=false:=m.frozen 0;have k1:n.frozen? ⟨w.heap.size+1+1+1,1,none⟩=false:=m.frozen 1;have k2:n.frozen? ⟨w.heap.size+1+1+1,2,none⟩=false:=m.frozen 2;have k3:n.frozen? ⟨w.heap.size+1+1+1,3,none⟩=false:=m.frozen 3;have k4:n.frozen? ⟨w.heap.size+1+1+1,4,none⟩=false:=m.frozen 4
  have M:=aD (f.out.2.2.2.2.2.trans (a.below f.out.2.2.2.2.2.size fun c r z=>absurd z.1 (by omega)));have N:=aD E;clear E a m;go_wp2;refine bodyPost_ret (v:=.agg #[.int .i64 (0),.bool d.ok,.slice (some ⟨I,0,none⟩) d.aH.length co,.slice (some ⟨bp,0,none⟩) d.aC.length cp,.slice (aw) d.aB.length cw]) (by simp[results,Tryz.results38,go_sem,r0,r1,r2,r3,r4]) rfl ?_;rw[aW.out];unfold jR;rw[HE.out]
  have B:w.heap.size<=w.heap.size+1+1+1:=by omega
  refine⟨_,_,_,rfl,((((M.out.setCell (p:=⟨w.heap.size+1+1+1,0,none⟩) B _).setCell (p:=⟨w.heap.size+1+1+1,1,none⟩) B _).setCell (p:=⟨w.heap.size+1+1+1,2,none⟩) B _).setCell (p:=⟨w.heap.size+1+1+1,3,none⟩) B _).setCell (p:=⟨w.heap.size+1+1+1,4,none⟩) B _,.inl ⟨I,bp,bw,R,?_⟩⟩;have l:∀o:Nat,¬((fun c=>c≠w.heap.size+1+1+1) (⟨w.heap.size+1+1+1,o,none⟩:Addr).block):=fun o z=>z rfl;have a6:=P.out;refine N.out.but (Q:=fun c=>w.heap.size+1<=c) ((((((But.refl (fun c=>c≠w.heap.size+1+1+1) n).setCell (l 0) _).setCell (l 1) _).setCell (l 2) _).setCell (l 3) _).setCell (l 4) _) (fun c r=>?_) fun c r=>?_
  ·rcases r with z | z
   ·have:=z.1; omega
   ·have:=z.1; omega
  ·rcases r with z | z
   ·have:=z.1; omega
   ·have:=z.1; omega
 ·obtain⟨k,rfl⟩:∃k:Nat,of=k:=⟨of.toNat,by have:=L.1; omega⟩
  have hk:k<p.aE.length:=by have:=L.2; omega
  have G:=u.out J (But.refl _ _);have v0:J.cell? ⟨w.heap.size+1+1,0,none⟩=_:=G.2.2.1.1;have v1:J.cell? ⟨w.heap.size+1+1,1,none⟩=_:=G.2.2.1.2.1;have v2:J.cell? ⟨w.heap.size+1+1,2,none⟩=_:=G.2.2.1.2.2;obtain⟨⟨V,X,Y,Z,b4⟩,⟨e0,e1,e2,e3⟩,-⟩:=id G
  have d9:=aD (Aw (.int .i64 p.aA) (.int .i64 p.aI) (.bool d.ok) _ _ (.slice a3 p.aO.length c3) (.slice o1 d.aH.length m1) (.slice o2 d.aC.length m2) _ p d k J (KP.out _ G.2.2.2.2.2).1 (KP.out _ G.2.2.2.2.2).2.1 (KF.out _ G.2.2.2.2.2).2.2 b6.out HS.out (fun q g hg=>by
   obtain⟨z,hz⟩:=bG p.aB (aD rfl) (show q<p.aB.length by have:=(List.getElem?_eq_some_iff.1 hg).1; have:=b6.out; omega)
   exact (zF F.out hz hg).1) hk)
  clear G
  go_wp2_with fail
  refine d9.out.mono ?_;clear V X Y Z b4 e0 e1 e2 e3 v0 v1 v2 d9;rintro e wV ⟨vp,rfl,bA,mp,d1⟩
  have dL:mp=(gS p d (k:Int)).length:=by have:=d1.1; rw[tP] at this; omega
  obtain⟨eL,eM,rfl⟩:=zag d1;have a9:=S.out.but (K:=fun _=>True) (Q:=New w2 H) (But.aG bA) (fun _ _=>trivial) fun _ z=>z;have C:But (fun c=>¬New w2 H c) J wV:=But.aG bA
  have a0:cO p d 6 (k:Int) A=mW p d k A:=by simp[cO]
  have a7:=aD a0;have d7:=aD dL;clear a0 d1 dL bA S;by_cases hm:0<mp
  case pos=>
   have eT:(0:Int)<(mp:Int):=by omega
   have HM:=aD hm;clear hm;have f:=aD (u.out _ C);have P:=aD C.size;have HX:=aD (a9.bound (Q:=fun c=>w2.heap.size<=c∧c≠H.heap.size∧c<wV.heap.size) fun c T L=>⟨T.1,by have:=T.2; omega,L⟩);have HE:=aD (show cO p d 6 (k:Int) A=(2,d) by rw[a7.out]; unfold mW; rw[if_pos (by rw[← d7.out]; exact HM.out)]);have O:=aD b9.out;obtain⟨⟨V,X,Y,Z,b4⟩,-⟩:=f.out;clear a9 C
   go_wp2_with fail
   refine (qW _ (In w) _ _ _ _ _ _ _ _ _ _ p.aB I _ bw H.heap.size _ _ (HP.out.2.1.keep (fW f.out.2.2.2.2.2 fun _ h=>h) fun _ h=>h) (fun c r=>⟨Nat.lt_of_lt_of_le r f.out.2.2.2.2.2.size,fun z=>absurd z.1 (by have:c<w.heap.size:=r; omega)⟩) f.out.2.2.2.1.1 f.out.2.2.2.1.2.1 f.out.2.2.2.1.2.2.1 f.out.2.2.2.1.2.2.2 (fun z=>z.2.1 rfl) HX.out O.out fun c r=>r.2.2).mono ?_;clear V X Y Z b4;rintro e n ⟨rfl,R,E,a⟩;have c0:=a.cell f.out.2.2.2.1.1 (fun z=>z.2.1 rfl);have aS:=a.cell f.out.2.2.2.1.2.1 (fun z=>z.2.1 rfl);have aT:=a.cell f.out.2.2.2.1.2.2.1 (fun z=>z.2.1 rfl);have a8:=a.cell f.out.2.2.2.1.2.2.2 (fun z=>z.2.1 rfl);have m:=a.row f.out.2.2.2.2.1 (fun z=>absurd z.1 (by omega));have r0:n.cell? ⟨w.heap.size+1+1+1,0,none⟩=_:=m.cell (i:=0) (by omega);have r1:n.cell? ⟨w.heap.size+1+1+1,1,none⟩=_:=m.cell (i:=1) (by omega);have r2:n.cell? ⟨w.heap.size+1+1+1,2,none⟩=_:=m.cell (i:=2) (by omega);have r3:n.cell? ⟨w.heap.size+1+1+1,3,none⟩=_:=m.cell (i:=3) (by omega);have r4:n.cell? ⟨w.heap.size+1+1+1,4,none⟩=_:=m.cell (i:=4) (by omega);have k0:n.frozen? ⟨w.heap.size+1+1+1,0,none⟩=false:=m.frozen 0;have k1:n.frozen? ⟨w.heap.size+1+1+1,1,none⟩=false:=m.frozen 1;have k2:n.frozen? ⟨w.heap.size+1+1+1,2,none⟩=false:=m.frozen 2;have k3:n.frozen? ⟨w.heap.size+1+1+1,3,none⟩=false:=m.frozen 3;have k4:n.frozen? ⟨w.heap.size+1+1+1,4,none⟩=false:=m.frozen 4
   have M:=aD (f.out.2.2.2.2.2.trans (a.below f.out.2.2.2.2.2.size fun c r z=>absurd z.1 (by omega)));have N:=aD E;clear E a m;go_wp2;refine bodyPost_ret (v:=.agg #[.int .i64 (2),.bool d.ok,.slice (some ⟨I,0,none⟩) d.aH.length co,.slice (ap) d.aC.length cp,.slice (aw) d.aB.length cw]) (by simp[results,Tryz.results38,go_sem,r0,r1,r2,r3,r4]) rfl ?_;rw[aW.out];unfold jR;rw[HE.out]
   have B:w.heap.size<=w.heap.size+1+1+1:=by omega
   refine⟨_,_,_,rfl,((((M.out.setCell (p:=⟨w.heap.size+1+1+1,0,none⟩) B _).setCell (p:=⟨w.heap.size+1+1+1,1,none⟩) B _).setCell (p:=⟨w.heap.size+1+1+1,2,none⟩) B _).setCell (p:=⟨w.heap.size+1+1+1,3,none⟩) B _).setCell (p:=⟨w.heap.size+1+1+1,4,none⟩) B _,.inl ⟨I,bp,bw,R,?_⟩⟩;have l:∀o:Nat,¬((fun c=>c≠w.heap.size+1+1+1) (⟨w.heap.size+1+1+1,o,none⟩:Addr).block):=fun o z=>z rfl;have a6:=P.out;refine N.out.but (Q:=fun c=>w.heap.size+1<=c) ((((((But.refl (fun c=>c≠w.heap.size+1+1+1) n).setCell (l 0) _).setCell (l 1) _).setCell (l 2) _).setCell (l 3) _).setCell (l 4) _) (fun c r=>?_) fun c r=>?_
   ·rcases r with z | z
    ·have:=z.1; omega
    ·have:=z.1; omega
   ·rcases r with z | z
    ·have:=z.1; omega
    ·have:=z.1; omega
  obtain rfl:mp=0:=by omega
  obtain⟨sq,c6⟩:=bG p.aE (aD rfl) hk;have d2:bN sq 0 (p.aA-1):=Classical.byContradiction fun e=>F.out.1.parts.2.1 k ⟨sq,c6,e⟩;obtain⟨sn,rfl⟩:∃t:Nat,sq=t:=⟨sq.toNat,by have:=d2.1; omega⟩
  have eD:sn<d.aH.length:=by have:=d2.2; have:=F.out.2.2.1; omega
  obtain⟨o,ho⟩:=bG d.aH (aD rfl) eD
  have dI:eA d.aH (p.aE.getD k 0)=o:=by
   rw[List.getD_eq_getElem?_getD,c6];unfold eA;show (match d.aH[((sn:Int)).toNat]? with | some b=>b | none=>false)=o;rw[show ((sn:Int)).toNat=sn by simp,ho]
  have d8:=aD (show mW p d k A=if o=true then (3,d) else (0,{ d with aC:=kB d.aC k fun pt=>(A,pt.2) }) by unfold mW; rw[if_neg (by rw[← d7.out]; omega),dI]);have aR:=u.out _ C;obtain⟨⟨-,x1,-⟩,⟨-,y1,-⟩,⟨-,v1,v2⟩,-⟩:=id aR;have d3:wV.cell? ⟨w.heap.size+1+1,1,none⟩=some (.int .i64 (k:Int)):=v1;obtain⟨bs,os,cs,e5,-,gs⟩:=BO (KP.out _ aR.2.2.2.2.2).1 c6;obtain⟨bq,oo,cq,e4,-,go⟩:=xO (KF.out _ aR.2.2.2.2.2).1 ho
  cases e4
  cases e5
  have cC:=a9.but (K:=fun _=>True) (Q:=New w2 H) (But.aG (cT _)) (fun _ _=>trivial) fun _ z=>z;have cB:=C.call (cT _)
  have eS:(k:Int)<(p.aE.length:Int):=by omega
  have eR:(0:Int)<=(k:Int):=Int.natCast_nonneg _
  have eU:(sn:Int)<(d.aH.length:Int):=by omega
  have eH:(0:Int)<=(sn:Int):=Int.natCast_nonneg _;have bX:=aD cC;have bW:=aD cB;clear a9 C cC cB aR d2 ho c6 dI hm
  go_wp2_with fail
  go_region_held3 (fun w'=>w'.cell? ⟨w.heap.size+1,1,none⟩=some (.slice (some ⟨bq,oo,none⟩) d.aH.length m1)∧w'.cell? ⟨w.heap.size,1,none⟩=some (.slice (some ⟨bs,os,none⟩) p.aE.length c1)∧w'.cell? ⟨w.heap.size+1+1,1,none⟩=some (.int .i64 (k:Int))∧w'.cell? ⟨bs,os+k,none⟩=some (.int .i64 (sn:Int))∧w'.cell? ⟨bq,oo+sn,none⟩=some (.bool o)) (go_keep) (fail)
  obtain⟨W6,dF⟩:∃W,W=wV.drew:=⟨_,rfl⟩;rw[← dF] at bX bW ⊢;clear dF x1 y1 v1 v2 d3 gs go
  cases o
  case true=>
   have a9:=bX.out;have C:=bW.out;have f:=aD (u.out _ C);have P:=aD C.size;have HX:=aD (a9.bound (Q:=fun c=>w2.heap.size<=c∧c≠H.heap.size∧c<W6.heap.size) fun c T L=>⟨T.1,by have:=T.2; omega,L⟩);have HE:=aD (show cO p d 6 (k:Int) A=(3,d) by rw[a7.out,d8.out]; rfl);have O:=aD b9.out;obtain⟨⟨V,X,Y,Z,b4⟩,-⟩:=f.out;clear a9 C
   go_wp2_with fail
   refine (qW _ (In w) _ _ _ _ _ _ _ _ _ _ p.aB I _ bw H.heap.size _ _ (HP.out.2.1.keep (fW f.out.2.2.2.2.2 fun _ h=>h) fun _ h=>h) (fun c r=>⟨Nat.lt_of_lt_of_le r f.out.2.2.2.2.2.size,fun z=>absurd z.1 (by have:c<w.heap.size:=r; omega)⟩) f.out.2.2.2.1.1 f.out.2.2.2.1.2.1 f.out.2.2.2.1.2.2.1 f.out.2.2.2.1.2.2.2 (fun z=>z.2.1 rfl) HX.out O.out fun c r=>r.2.2).mono ?_;clear V X Y Z b4;rintro e n ⟨rfl,R,E,a⟩;have c0:=a.cell f.out.2.2.2.1.1 (fun z=>z.2.1 rfl);have aS:=a.cell f.out.2.2.2.1.2.1 (fun z=>z.2.1 rfl);have aT:=a.cell f.out.2.2.2.1.2.2.1 (fun z=>z.2.1 rfl);have a8:=a.cell f.out.2.2.2.1.2.2.2 (fun z=>z.2.1 rfl);have m:=a.row f.out.2.2.2.2.1 (fun z=>absurd z.1 (by omega));have r0:n.cell? ⟨w.heap.size+1+1+1,0,none⟩=_:=m.cell (i:=0) (by omega);have r1:n.cell? ⟨w.heap.size+1+1+1,1,none⟩=_:=m.cell (i:=1) (by omega);have r2:n.cell? ⟨w.heap.size+1+1+1,2,none⟩=_:=m.cell (i:=2) (by omega);have r3:n.cell? ⟨w.heap.size+1+1+1,3,none⟩=_:=m.cell (i:=3) (by omega);have r4:n.cell? ⟨w.heap.size+1+1+1,4,none⟩=_:=m.cell (i:=4) (by omega);have k0:n.frozen? ⟨w.heap.size+1+1+1,0,none⟩=false:=m.frozen 0;have k1:n.frozen? ⟨w.heap.size+1+1+1,1,none⟩=false:=m.frozen 1;have k2:n.frozen? ⟨w.heap.size+1+1+1,2,none⟩=false:=m.frozen 2;have k3:n.frozen? ⟨w.heap.size+1+1+1,3,none⟩=false:=m.frozen 3;have k4:n.frozen? ⟨w.heap.size+1+1+1,4,none⟩=false:=m.frozen 4
   have M:=aD (f.out.2.2.2.2.2.trans (a.below f.out.2.2.2.2.2.size fun c r z=>absurd z.1 (by omega)));have N:=aD E;clear E a m;go_wp2;refine bodyPost_ret (v:=.agg #[.int .i64 (3),.bool d.ok,.slice (some ⟨I,0,none⟩) d.aH.length co,.slice (ap) d.aC.length cp,.slice (aw) d.aB.length cw]) (by simp[results,Tryz.results38,go_sem,r0,r1,r2,r3,r4]) rfl ?_;rw[aW.out];unfold jR;rw[HE.out]
   have B:w.heap.size<=w.heap.size+1+1+1:=by omega
   refine⟨_,_,_,rfl,((((M.out.setCell (p:=⟨w.heap.size+1+1+1,0,none⟩) B _).setCell (p:=⟨w.heap.size+1+1+1,1,none⟩) B _).setCell (p:=⟨w.heap.size+1+1+1,2,none⟩) B _).setCell (p:=⟨w.heap.size+1+1+1,3,none⟩) B _).setCell (p:=⟨w.heap.size+1+1+1,4,none⟩) B _,.inl ⟨I,bp,bw,R,?_⟩⟩;have l:∀o:Nat,¬((fun c=>c≠w.heap.size+1+1+1) (⟨w.heap.size+1+1+1,o,none⟩:Addr).block):=fun o z=>z rfl;have a6:=P.out;refine N.out.but (Q:=fun c=>w.heap.size+1<=c) ((((((But.refl (fun c=>c≠w.heap.size+1+1+1) n).setCell (l 0) _).setCell (l 1) _).setCell (l 2) _).setCell (l 3) _).setCell (l 4) _) (fun c r=>?_) fun c r=>?_
   ·rcases r with z | z
    ·have:=z.1; omega
    ·have:=z.1; omega
   ·rcases r with z | z
    ·have:=z.1; omega
    ·have:=z.1; omega
  obtain⟨pt,aM⟩:=bG d.aC (aD b5.out) hk;obtain⟨eN,e1,g0,g1,z0,z1⟩:=bX.out.aC.cells aM
  cases e1
  have U:=bX.out.put aM 0 (by omega) A
  have b7:kB d.aC k (fun pt=>(A,pt.2))=d.aC.set k (if 0=0 then (A,pt.2) else (pt.1,A)):=by rw[uZ _ aM]; rfl
  obtain⟨U,a5⟩:=U;rw[← b7] at U;simp only[Nat.add_zero] at U a5;have C:=bW.out.trans a5;have f:=aD (u.out _ C);have P:=aD C.size;have HX:=aD (U.bound (Q:=fun c=>w2.heap.size<=c∧c≠H.heap.size∧c<(W6.setCell ⟨bp,k*2,none⟩ (.int .i64 A)).heap.size) fun c T L=>⟨T.1,by have:=T.2; omega,L⟩);have HE:=aD (show cO p d 6 (k:Int) A=(0,{ d with aC:=kB d.aC k fun pt=>(A,pt.2) }) by rw[a7.out,d8.out]; rfl);have O:=aD (show Fits p.aB { d with aC:=kB d.aC k fun pt=>(A,pt.2) } by have:=a4.out 6 (k:Int) A; rw[HE.out] at this; exact this);have c4:=u.out _ bW.out;have aT:=c4.2.2.2.1.2.2.1;have eY:W6.cell? ⟨w.heap.size+1+1,1,none⟩=some (.int .i64 (k:Int)):=c4.2.2.1.2.1;have eZ:W6.cell? ⟨w.heap.size+1+1,2,none⟩=some (.int .i64 A):=c4.2.2.1.2.2;obtain⟨⟨V,X,Y,Z,b4⟩,-⟩:=f.out
  have cY:(k:Int)<(d.aC.length:Int):=by have:=b5.out; omega
  have eB:d.aC.length<=1048576:=by have:=b5.out; omega
  clear U a5 C aM b7 c4
  go_wp2_with fail
  refine (qW _ (In w) _ _ _ _ _ _ _ _ _ _ p.aB I _ bw H.heap.size _ _ (HP.out.2.1.keep (fW f.out.2.2.2.2.2 fun _ h=>h) fun _ h=>h) (fun c r=>⟨Nat.lt_of_lt_of_le r f.out.2.2.2.2.2.size,fun z=>absurd z.1 (by have:c<w.heap.size:=r; omega)⟩) f.out.2.2.2.1.1 f.out.2.2.2.1.2.1 f.out.2.2.2.1.2.2.1 f.out.2.2.2.1.2.2.2 (fun z=>z.2.1 rfl) HX.out O.out fun c r=>r.2.2).mono ?_;clear V X Y Z b4;rintro e n ⟨rfl,R,E,a⟩;have c0:=a.cell f.out.2.2.2.1.1 (fun z=>z.2.1 rfl);have aS:=a.cell f.out.2.2.2.1.2.1 (fun z=>z.2.1 rfl);have aT:=a.cell f.out.2.2.2.1.2.2.1 (fun z=>z.2.1 rfl);have a8:=a.cell f.out.2.2.2.1.2.2.2 (fun z=>z.2.1 rfl);have m:=a.row f.out.2.2.2.2.1 (fun z=>absurd z.1 (by omega));have r0:n.cell? ⟨w.heap.size+1+1+1,0,none⟩=_:=m.cell (i:=0) (by omega);have r1:n.cell? ⟨w.heap.size+1+1+1,1,none⟩=_:=m.cell (i:=1) (by omega);have r2:n.cell? ⟨w.heap.size+1+1+1,2,none⟩=_:=m.cell (i:=2) (by omega);have r3:n.cell? ⟨w.heap.size+1+1+1,3,none⟩=_:=m.cell (i:=3) (by omega);have r4:n.cell? ⟨w.heap.size+1+1+1,4,none⟩=_:=m.cell (i:=4) (by omega);have k0:n.frozen? ⟨w.heap.size+1+1+1,0,none⟩=false:=m.frozen 0;have k1:n.frozen? ⟨w.heap.size+1+1+1,1,none⟩=false:=m.frozen 1;have k2:n.frozen? ⟨w.heap.size+1+1+1,2,none⟩=false:=m.frozen 2;have k3:n.frozen? ⟨w.heap.size+1+1+1,3,none⟩=false:=m.frozen 3;have k4:n.frozen? ⟨w.heap.size+1+1+1,4,none⟩=false:=m.frozen 4
  have M:=aD (f.out.2.2.2.2.2.trans (a.below f.out.2.2.2.2.2.size fun c r z=>absurd z.1 (by omega)));have N:=aD E;clear E a m;go_wp2;refine bodyPost_ret (v:=.agg #[.int .i64 (0),.bool d.ok,.slice (some ⟨I,0,none⟩) d.aH.length co,.slice (some ⟨bp,0,none⟩) d.aC.length cp,.slice (aw) d.aB.length cw]) (by simp[results,Tryz.results38,go_sem,r0,r1,r2,r3,r4]) rfl ?_;rw[aW.out];unfold jR;rw[HE.out]
  have B:w.heap.size<=w.heap.size+1+1+1:=by omega
  refine⟨_,_,_,rfl,((((M.out.setCell (p:=⟨w.heap.size+1+1+1,0,none⟩) B _).setCell (p:=⟨w.heap.size+1+1+1,1,none⟩) B _).setCell (p:=⟨w.heap.size+1+1+1,2,none⟩) B _).setCell (p:=⟨w.heap.size+1+1+1,3,none⟩) B _).setCell (p:=⟨w.heap.size+1+1+1,4,none⟩) B _,.inl ⟨I,bp,bw,R,?_⟩⟩;have l:∀o:Nat,¬((fun c=>c≠w.heap.size+1+1+1) (⟨w.heap.size+1+1+1,o,none⟩:Addr).block):=fun o z=>z rfl;have a6:=P.out;refine N.out.but (Q:=fun c=>w.heap.size+1<=c) ((((((But.refl (fun c=>c≠w.heap.size+1+1+1) n).setCell (l 0) _).setCell (l 1) _).setCell (l 2) _).setCell (l 3) _).setCell (l 4) _) (fun c r=>?_) fun c r=>?_
  ·rcases r with z | z
   ·have:=z.1; omega
   ·have:=z.1; omega
  ·rcases r with z | z
   ·have:=z.1; omega
   ·have:=z.1; omega
 ·have aU:∀g∈d.aB,g.aL.length<=1048576:=HD.out.2.2.2;have G:=u.out J (But.refl _ _);have v0:J.cell? ⟨w.heap.size+1+1,0,none⟩=_:=G.2.2.1.1;have v1:J.cell? ⟨w.heap.size+1+1,1,none⟩=_:=G.2.2.1.2.1;have v2:J.cell? ⟨w.heap.size+1+1,2,none⟩=_:=G.2.2.1.2.2;have a8:=G.2.2.2.1.2.2.2;have bK:aP (fun c=>w2.heap.size<=c∧c≠H.heap.size) J (.slice (some ⟨I,0,none⟩) d.aH.length co) (.slice ap d.aC.length cp) (.slice aw d.aB.length cw) d I bp bw bb:=S.out.but (K:=fun _=>True) (But.refl _ _) (fun _ _=>trivial) fun c r=>⟨r.1,by have:=r.2; omega⟩;have bP:=aD bK;have cF:=aD aU
  have eQ:d.aB.length<=100:=by have:=b6.out; omega
  have aM:∀W,But (fun c=>¬(w2.heap.size<=c∧c≠H.heap.size)) J W->But (fun c=>¬New w2 H c) J W:=fun W hW=>hW.mono fun c r hn hz=>hn ⟨hz.1,by have:=hz.2; omega⟩;have cA:=aD aM;clear aU bK aM G S;go_wp2;clear v0 v1 v2 a8
  go_loopw [101] (fun z wr=>∃(i:Nat),i<=d.aB.length∧z=.int .i64 i∧iH (fun c=>w2.heap.size<=c∧c≠H.heap.size) J (.slice (some ⟨I,0,none⟩) d.aH.length co) (.slice ap d.aC.length cp) (.slice aw d.aB.length cw) d I bp bw i wr) (fun z _=>d.aB.length-(intOf z).toNat)
  case atStart=>exact⟨0,Nat.zero_le _,rfl,d.aB,bb,rfl,fun j h hj=>by omega,fun _ _=>rfl,bP.out,But.refl _ _⟩
  case round=>
   obtain⟨i,hi,rfl,dP⟩:=hrel;rename World=>wV;by_cases d0:i<d.aB.length
   ·obtain⟨h,hh⟩:=bG d.aB (aD rfl) d0;obtain⟨cur,cM,cW,dH,cU,bL,bJ⟩:=dP
    have bS:cur[i]?=some h:=by rw[cU i (Nat.le_refl _)]; exact hh
    obtain⟨cq,fw,Nw,dD,bT,e8,bZ⟩:=bL.aB.cells bS;have dE:(Value.slice aw d.aB.length cw)=.slice (some ⟨bw,0,none⟩) d.aB.length cq:=dD.trans (by show Value.slice _ cur.length _=_; rw[cW])
    cases dE
    have a8:=(u.out _ (cA.out _ bJ)).2.2.2.1.2.2.2;have S0:=bT.cell (i:=i*5) (by omega);have S4:=bT.cell (i:=i*5+4) (by omega);have Z4:=bT.frozen (i*5+4);rw[bZ.1] at S0;rw[bZ.2.2.2.2] at S4
    have eG:(i:Int)<(d.aB.length:Int):=by omega
    have bO:=aD cW;have cG:=aD dH;have cH:=aD cU;have d6:=aD bL;have bI:=aD bJ;have HH:=aD hh;have d5:=aD bS;have dG:=cF.out h (List.mem_of_getElem? hh);have dY:=aD bT;have dV:=aD bZ.2.2.1;clear cW dH cU bL bJ hh bS bT bZ bP dD;by_cases e3:h.state=3
    case neg=>
     have e7:(h.state != 3)=true:=by simp[e3]
     have HT:=aD (show dW h=h from if_neg e3);clear e3;go_wp2;go_roundw
     case rel=>
      refine⟨i+1,by omega,by go_num,iH.next (bb:=cM) bO.out cG.out cH.out HH.out ?_ bI.out (But.refl _ _)⟩
      rw[HT.out,show cur.set i h=cur from by
       apply List.ext_getElem?;intro j;by_cases e:i=j
       ·subst e; rw[List.getElem?_set_self (by have:=bO.out; omega),d5.out]
       ·rw[List.getElem?_set_ne e]]
      exact d6.out
     case measure=>simp[intOf]; omega
    have e7:(h.state != 3)=false:=by simp[e3]
    obtain⟨dZ,bK,cS⟩:=d6.out.lZ d5.out (h.aN-1);have c5:=dY.out.set (i*5+4) (.int .i64 (h.aN-1))
    have eK:(wV.setCell ⟨bw,i*5+4,none⟩ (.int .i64 (h.aN-1))).cell? ⟨bw,i*5+4,none⟩=some (.int .i64 (h.aN-1)):=by rw[c5.cell (by omega),if_pos rfl]
    have c9:=aD bK;have c8:=aD cS;have dA:=aD c5
    have eV:1<=h.aN∧h.aN<=300:=by
     obtain⟨x,hx⟩:=bG p.aB (aD rfl) (show i<p.aB.length by have:=b6.out; omega);have:=(F.out.2.2.2.2.2.2.1 i d0 x h hx HH.out).1.2.2.2.2.2.1 e3;have eF:=F.out.1.parts.1.2.2.2.2;exact⟨this.2.1,by have:=this.2.2; omega⟩
    by_cases e0:h.aN-1=0
    case neg=>
     have e6:(h.aN-1 == 0)=false:=by simp[e0]
     have HT:=aD (show dW h={ h with aN:=h.aN-1 } by unfold dW; rw[if_pos e3,if_neg e0]);clear e0 e3 bK cS c5;go_wp2;go_roundw
     case rel=>exact⟨i+1,by omega,by go_num,iH.next (bb:=dZ) bO.out cG.out cH.out HH.out (by rw[HT.out]; exact c9.out) bI.out c8.out⟩
     case measure=>simp[intOf]; omega
    have e6:(h.aN-1 == 0)=true:=by simp[e0]
    have HT:=aD (show dW h=jQ h.aL.length by unfold dW; rw[if_pos e3,if_pos e0]);obtain⟨eP,eJ,dB,dC,-⟩:=id dV.out
    have dQ:Hid ((fun j=>if j=i*5+4 then Value.int .i64 (h.aN-1) else fw j) (i*5+2)=.slice (some ⟨cM i,0,none⟩) h.aL.length dB):=by
     show (if i*5+2=i*5+4 then _ else _)=_;rw[if_neg (by omega)];exact dC
    clear e0 e3 bK cS c5 dC
    go_wp2_with fail
    refine (As bw Nw i _ _ h.aL.length dB _ dA.out e8 dQ.out dG).mono ?_;rintro e wU ⟨rfl,cE⟩;obtain⟨cL,aY,aX⟩:=c9.out.qO (i:=i) (g:={ h with aN:=h.aN-1 }) (List.getElem?_set_self (by have:=bO.out; omega)) dA.out cE;have cD:(cur.set i { h with aN:=h.aN-1 }).set i (jQ h.aL.length)=cur.set i (jQ h.aL.length):=List.set_set _;have dU:=aD aY;have dR:=aD aX;have bH:=aD cD;clear cE aY aX cD;go_wp2;go_roundw
    case rel=>
     refine⟨i+1,by omega,by go_num,iH.next (bb:=cL) bO.out cG.out cH.out HH.out ?_ bI.out (c8.out.trans dR.out)⟩;rw[HT.out];have h9:=dU.out;rw[bH.out] at h9;refine h9.but (K:=fun _=>True) (But.refl _ _) (fun _ _=>trivial) fun c r=>?_;rcases r with z | z
     ·exact z
     ·have T:=z.1;rw[World.size_setCell] at T;have L:=bI.out.size;exact⟨by omega,by omega⟩
    case measure=>simp[intOf]; omega
   ·obtain rfl:i=d.aB.length:=by omega
    obtain⟨cM,bL,bJ⟩:=dP.end rfl;have C:=cA.out _ bJ;have f:=aD (u.out _ C);have P:=aD C.size;have HX:=aD (bL.bound (Q:=fun c=>w2.heap.size<=c∧c≠H.heap.size∧c<wV.heap.size) fun c T L=>⟨T.1,T.2,L⟩);have HE:=aD (show cO p d 7 0 0=(0,{ d with aB:=d.aB.map dW }) by simp[cO]);have O:=aD (show Fits p.aB { d with aB:=d.aB.map dW } by have:=a4.out 7 0 0; rw[HE.out] at this; exact this);obtain⟨⟨V,X,Y,Z,b4⟩,-⟩:=f.out;clear bL bJ C bP d0 hi
    go_wp2_with fail
    refine (qW _ (In w) _ _ _ _ _ _ _ _ _ _ p.aB I _ bw H.heap.size _ _ (HP.out.2.1.keep (fW f.out.2.2.2.2.2 fun _ h=>h) fun _ h=>h) (fun c r=>⟨Nat.lt_of_lt_of_le r f.out.2.2.2.2.2.size,fun z=>absurd z.1 (by have:c<w.heap.size:=r; omega)⟩) f.out.2.2.2.1.1 f.out.2.2.2.1.2.1 f.out.2.2.2.1.2.2.1 f.out.2.2.2.1.2.2.2 (fun z=>z.2.1 rfl) HX.out O.out fun c r=>r.2.2).mono ?_;clear V X Y Z b4;rintro e n ⟨rfl,R,E,a⟩;have c0:=a.cell f.out.2.2.2.1.1 (fun z=>z.2.1 rfl);have aS:=a.cell f.out.2.2.2.1.2.1 (fun z=>z.2.1 rfl);have aT:=a.cell f.out.2.2.2.1.2.2.1 (fun z=>z.2.1 rfl);have a8:=a.cell f.out.2.2.2.1.2.2.2 (fun z=>z.2.1 rfl);have m:=a.row f.out.2.2.2.2.1 (fun z=>absurd z.1 (by omega));have r0:n.cell? ⟨w.heap.size+1+1+1,0,none⟩=_:=m.cell (i:=0) (by omega);have r1:n.cell? ⟨w.heap.size+1+1+1,1,none⟩=_:=m.cell (i:=1) (by omega);have r2:n.cell? ⟨w.heap.size+1+1+1,2,none⟩=_:=m.cell (i:=2) (by omega);have r3:n.cell? ⟨w.heap.size+1+1+1,3,none⟩=_:=m.cell (i:=3) (by omega);have r4:n.cell? ⟨w.heap.size+1+1+1,4,none⟩=_:=m.cell (i:=4) (by omega);have k0:n.frozen? ⟨w.heap.size+1+1+1,0,none⟩=false:=m.frozen 0;have k1:n.frozen? ⟨w.heap.size+1+1+1,1,none⟩=false:=m.frozen 1;have k2:n.frozen? ⟨w.heap.size+1+1+1,2,none⟩=false:=m.frozen 2;have k3:n.frozen? ⟨w.heap.size+1+1+1,3,none⟩=false:=m.frozen 3;have k4:n.frozen? ⟨w.heap.size+1+1+1,4,none⟩=false:=m.frozen 4
    have M:=aD (f.out.2.2.2.2.2.trans (a.below f.out.2.2.2.2.2.size fun c r z=>absurd z.1 (by omega)));have N:=aD E;clear E a m;go_wp2;refine bodyPost_ret (v:=.agg #[.int .i64 (0),.bool d.ok,.slice (some ⟨I,0,none⟩) d.aH.length co,.slice (ap) d.aC.length cp,.slice (aw) d.aB.length cw]) (by simp[results,Tryz.results38,go_sem,r0,r1,r2,r3,r4]) rfl ?_;rw[aW.out];unfold jR;rw[HE.out]
    have B:w.heap.size<=w.heap.size+1+1+1:=by omega
    refine⟨_,_,_,rfl,((((M.out.setCell (p:=⟨w.heap.size+1+1+1,0,none⟩) B _).setCell (p:=⟨w.heap.size+1+1+1,1,none⟩) B _).setCell (p:=⟨w.heap.size+1+1+1,2,none⟩) B _).setCell (p:=⟨w.heap.size+1+1+1,3,none⟩) B _).setCell (p:=⟨w.heap.size+1+1+1,4,none⟩) B _,.inl ⟨I,bp,bw,R,?_⟩⟩;have l:∀o:Nat,¬((fun c=>c≠w.heap.size+1+1+1) (⟨w.heap.size+1+1+1,o,none⟩:Addr).block):=fun o z=>z rfl;have a6:=P.out;refine N.out.but (Q:=fun c=>w.heap.size+1<=c) ((((((But.refl (fun c=>c≠w.heap.size+1+1+1) n).setCell (l 0) _).setCell (l 1) _).setCell (l 2) _).setCell (l 3) _).setCell (l 4) _) (fun c r=>?_) fun c r=>?_
    ·rcases r with z | z
     ·have:=z.1; omega
     ·have:=z.1; omega
    ·rcases r with z | z
     ·have:=z.1; omega
     ·have:=z.1; omega
end Go.Proofs.YtdhinkgjiapigaaGreatDoor
