import Derived.Test.YtdhinkgjiapigabGreatDoorConc
import Derived.Test.YtdhinkgjiapigabGreatDoorSpec3
import Derived.Test.YtdhinkgjiapigabGreatDoorCopyA
import Derived.Test.YtdhinkgjiapigabGreatDoorLocksA
import Derived.Test.YtdhinkgjiapigabGreatDoorToA
import Derived.Test.YtdhinkgjiapigabGreatDoorFrIC
import Derived.Test.YtdhinkgjiapigabGreatDoorBarW
import Derived.Test.YtdhinkgjiapigabGreatDoorSettle2
import Derived.Test.YtdhinkgjiapigabGreatDoorEvA
import Derived.Deep.RegionHeld3
import Derived.Test.YtdhinkgjiapigabGreatDoorWhyS
import Derived.Deep.DeepCutAuto
namespace Go.Proofs.YtdhinkgjiapigabGreatDoor
open Go.RowKit Go.Deep
open Classical
def zdw (ways:List WayD):List HeldD:=ways.map fun x=>zc3 x.sections.length
def zaq (p:PlanD):FrameD:=⟨true,List.replicate p.sections.toNat false,List.replicate p.switches.length (1,1),zdw p.ways⟩
def zex:FrameD:=⟨false,[],[],[]⟩
def zdd (p:PlanD) [Decidable (Right p)]:FrameD:=if Right p then zaq p else zex
theorem ze8 {ways:List WayD} {k:Nat} {x:WayD} (h:ways[k]? = some x):(zdw ways)[k]? = some (zc3 x.sections.length):=by unfold zdw; rw [List.getElem?_map,h]; rfl
theorem zay (ways:List WayD):(zdw ways).length = ways.length:=by unfold zdw; rw [List.length_map]
theorem zgz (k:Nat):zau (List.replicate k ((1,1):Int × Int)) ++ [.int .i64 1,.int .i64 1] = zau (List.replicate (k + 1) (1,1)):=by
 rw [List.replicate_succ'];unfold zau;rw [List.flatMap_append];rfl
theorem zgr (B:Nat) (w:World):FrameM B w (.slice none 0 0) (.slice none 0 0) (.slice none 0 0) zex:=.inr ⟨rfl,rfl,rfl,rfl,rfl,rfl⟩
structure BegF (w:World) (pc:Array Value) (n fb:Nat) (W:World) (u1 u2 u3:Value) (bo:Nat):Prop where
 below:Below w.heap.size w W
 box:W.rowIs w.heap.size 37 5 (fun i=>pc[i]!)
 res:∃ g,W.rowIs (w.heap.size + 1) 42 4 g
 out:W.rowIs fb 42 4 (fun i=>(#[.bool true,u1,u2,u3]:Array Value)[i]!)
 occ:OBools W u1 (List.replicate n false) bo
 po:w.heap.size + 1 < bo
 pf:bo < fb
theorem BegF.but {w:World} {pc:Array Value} {n fb:Nat} {W W':World} {u1 u2 u3:Value} {bo:Nat} (h:BegF w pc n fb W u1 u2 u3 bo) {K:Nat → Prop} (hB:But K W W') (hk:∀ c,c < fb + 1 → K c):BegF w pc n fb W' u1 u2 u3 bo:=by
 have h1:=h.po;have h2:=h.pf;exact ⟨h.below.trans (hB.below h.below.size fun c hc=>hk c (by omega)),hB.row h.box (hk _ (by omega)),h.res.imp fun _ z=>hB.row z (hk _ (by omega)),hB.row h.out (hk _ (by omega)),h.occ.but hB (hk _ (by omega)),h1,h2⟩
theorem BegF.call {w:World} {pc:Array Value} {n fb:Nat} {W W':World} {u1 u2 u3:Value} {bo:Nat} (h:BegF w pc n fb W u1 u2 u3 bo) (hB:Below W.heap.size W W'):BegF w pc n fb W' u1 u2 u3 bo:=
 h.but (K:=fun _=>True) (But.of_calls hB) fun _ _=>trivial
theorem BegF.lay2 {w:World} {pc:Array Value} {n fb:Nat} {W:World} {u1 u2 u3:Value} {bo:Nat} (h:BegF w pc n fb W u1 u2 u3 bo) (u:Value):BegF w pc n fb (W.setCell ⟨fb,2,none⟩ u) u1 u u3 bo:=by
 have h1:=h.po;have h2:=h.pf;have ne:∀ c:Nat,c ≠ fb → c ≠ (⟨fb,2,none⟩:Addr).block:=fun c hc=>hc;refine ⟨h.below.setCell (by show w.heap.size ≤ fb; omega) _,h.box.setOther (ne _ (by omega)) _,h.res.imp fun _ z=>z.setOther (ne _ (by omega)) _,?_,h.occ.of_block (Below.heap_setCell _ _ _ _ (ne _ (by omega))),h1,h2⟩;refine (h.out.set 2 u).congr fun i hi=>?_;rcases i with _ | _ | _ | _ | i
 ·rfl
 ·rfl
 ·rfl
 ·rfl
 ·omega
theorem BegF.lay3 {w:World} {pc:Array Value} {n fb:Nat} {W:World} {u1 u2 u3:Value} {bo:Nat} (h:BegF w pc n fb W u1 u2 u3 bo) (u:Value):BegF w pc n fb (W.setCell ⟨fb,3,none⟩ u) u1 u2 u bo:=by
 have h1:=h.po;have h2:=h.pf;have ne:∀ c:Nat,c ≠ fb → c ≠ (⟨fb,3,none⟩:Addr).block:=fun c hc=>hc;refine ⟨h.below.setCell (by show w.heap.size ≤ fb; omega) _,h.box.setOther (ne _ (by omega)) _,h.res.imp fun _ z=>z.setOther (ne _ (by omega)) _,?_,h.occ.of_block (Below.heap_setCell _ _ _ _ (ne _ (by omega))),h1,h2⟩;refine (h.out.set 3 u).congr fun i hi=>?_;rcases i with _ | _ | _ | _ | i
 ·rfl
 ·rfl
 ·rfl
 ·rfl
 ·omega
theorem OPoints.held {W W':World} {v:Value} {l:List (Int × Int)} {b:Nat} {base size n:Nat} {u:Value} {xs:List Value} (h:OPoints W v l b) (hg:W.grownBy W' u.ownBlock) (hown:W.ownsRow base 93 size u n xs):OPoints W' v l b:=by
 obtain ⟨a,cap,rfl,h0 | ⟨rfl,f,N,hr,hN⟩⟩:=h
 ·exact ⟨a,cap,rfl,.inl h0⟩
 ·exact ⟨_,cap,rfl,.inr ⟨rfl,f,N,hr.of_block (hg.block b hr.lt fun e=>(zat hown e.symm).2.2 _ _ _ _ hr (by decide) rfl),hN⟩⟩
theorem OBools.held {W W':World} {v:Value} {l:List Bool} {b:Nat} {base size n:Nat} {u:Value} {xs:List Value} (h:OBools W v l b) (hg:W.grownBy W' u.ownBlock) (hown:W.ownsRow base 93 size u n xs):OBools W' v l b:=by
 obtain ⟨f,N,c,hv,hr,hN⟩:=h;exact ⟨f,N,c,hv,hr.of_block (hg.block b hr.lt fun e=>(zat hown e.symm).2.2 _ _ _ _ hr (by decide) rfl),hN⟩
theorem zog (u0 u1 u2 u3 u4:Value) (secs:List Int) (w:World) (hu:Ints (In w) w u0 secs) (hn1:1 ≤ secs.length) (hn:secs.length ≤ 30) :
  Calls Tryz.prog 149 #[.agg #[],.agg #[u0,u1,u2,u3,u4]] w fun e w'=>∃ a c b,e = .returned (.agg #[.int .i64 0,.int .i64 0,.slice a secs.length c,.bool false,.int .i64 0]) ∧ OBools w' (.slice a secs.length c) (zc3 secs.length).been b ∧ w.heap.size ≤ b ∧ Below w.heap.size w w':=by
 refine (zb8 u0 u1 u2 u3 u4 secs w hu hn1 hn).mono ?_;rintro e w' ⟨v,b,rfl,ho,hb,hbl⟩;obtain ⟨f,N,c,rfl,hr⟩:=ho
 have hl:(zao secs.length StD.idle).been.length = secs.length:=by simp [zao]
 rw [hl] at *;exact ⟨_,_,b,rfl,⟨f,N,c,by simp [zc3],by rw [← hl] at *; exact hr⟩,hb,hbl⟩
end Go.Proofs.YtdhinkgjiapigabGreatDoor
namespace Go.Proofs.YtdhinkgjiapigabGreatDoor
open Go.RowKit Go.Deep
open Classical
def zdg (points:List (Int × Int)) (k:Nat) (g:Int × Int → Int × Int):List (Int × Int):=match points[k]? with
 | some pt=>points.set k (g pt)
 | none=>points
def zlq (points:List (Int × Int)) (y:Int × Int):List (Int × Int):=zdg points y.1.toNat fun pt=>(y.2,pt.2)
def zav (points l:List (Int × Int)):List (Int × Int):=l.foldl zlq points
theorem zco (points:List (Int × Int)) (k:Nat) (g:Int × Int → Int × Int):(zdg points k g).length = points.length:=by
 unfold zdg;split
 ·exact List.length_set
 ·rfl
theorem zc7 {points:List (Int × Int)} {k:Nat} {pt:Int × Int} (g:Int × Int → Int × Int) (h:points[k]? = some pt):zdg points k g = points.set k (g pt):=by unfold zdg; rw [h]
theorem zbo (points l:List (Int × Int)):(zav points l).length = points.length:=by
 induction l generalizing points with
 | nil=>rfl
 | cons y l ih=>exact (ih (zlq points y)).trans (zco _ _ _)
theorem zfm (points l:List (Int × Int)) (y:Int × Int):zav points (l ++ [y]) = zlq (zav points l) y:=by unfold zav; rw [List.foldl_append]; rfl
theorem zgh (points l r:List (Int × Int)):zav points (l ++ r) = zav (zav points l) r:=by unfold zav; rw [List.foldl_append]
def zlx (p:PlanD) (d:FrameD) (i:Nat) (x:WayD) (h:HeldD):Int × FrameD:=
 if zit p d i x h = 0 then (0,{ d with points:=zav d.points (x.lies ++ x.flanks),ways:=d.ways.set i { h with state:=1 } }) else (zit p d i x h,d)
def zkg (occ:List Bool) (x:WayD):Bool:=x.near.any (za1 occ)
def zb3 (hold:Int) (occ:List Bool) (x:WayD) (h:HeldD):HeldD:=if (h.shown && zkg occ x) = true then { h with state:=3,timer:=hold } else zc3 h.been.length
def zc0 (p:PlanD) (d:FrameD) (i:Nat) (x:WayD) (h:HeldD):Int × FrameD:=
 if h.state = 1 ∨ h.state = 2 then (0,{ d with ways:=d.ways.set i (zb3 p.hold d.occ x h) }) else (2,d)
def za7 (h:HeldD):HeldD:=if h.state = 3 then (if h.timer - 1 = 0 then zc3 h.been.length else { h with timer:=h.timer - 1 }) else h
def zen (p:PlanD) (d:FrameD) (q:Nat) (lie:Int):Int × FrameD:=
 if 0 < (zbn p d q).length then (2,d) else if za1 d.occ (p.switches.getD q 0) = true then (3,d) else (0,{ d with points:=zdg d.points q fun pt=>(lie,pt.2) })
def evD (p:PlanD) (d:FrameD) (op of lie:Int):Int × FrameD:=
 if op = 1 then (match p.ways[of.toNat]?,d.ways[of.toNat]? with
  | some x,some h=>zlx p d of.toNat x h
  | _,_=>(0,d))
 else if op = 2 then (match p.ways[of.toNat]?,d.ways[of.toNat]? with
  | some x,some h=>zc0 p d of.toNat x h
  | _,_=>(0,d))
 else if op = 3 then (0,{ d with occ:=d.occ.set of.toNat true })
 else if op = 4 then (0,{ d with occ:=d.occ.set of.toNat false })
 else if op = 5 then (0,{ d with points:=zdg d.points of.toNat fun pt=>(pt.1,lie) })
 else if op = 6 then zen p d of.toNat lie
 else (0,{ d with ways:=d.ways.map za7 })
def doD (p:PlanD) (d:FrameD) (op of lie:Int):Int × FrameD:=((evD p d op of lie).1,zbu p.ways (evD p d op of lie).2)
theorem Fits.occ {ways:List WayD} {d:FrameD} (h:Fits ways d) {l:List Bool} (hl:l.length = d.occ.length):Fits ways { d with occ:=l }:=
 ⟨h.1,h.2.1,by show l.length ≤ _; rw [hl]; exact h.2.2.1,h.2.2.2.1,fun i x g hx hg=>by
  obtain ⟨h1,h2,h3,h4,h5,h6,h7⟩:=h.2.2.2.2 i x g hx hg
  exact ⟨h1,h2,h3,h4,h5,h6,fun s hs=>by have:=h7 s hs; show 0 ≤ s ∧ s < (l.length:Int); rw [hl]; exact this⟩⟩
theorem Fits.points {ways:List WayD} {d:FrameD} (h:Fits ways d) {l:List (Int × Int)} (hl:l.length = d.points.length):Fits ways { d with points:=l }:=
 ⟨h.1,h.2.1,h.2.2.1,by show l.length ≤ _; rw [hl]; exact h.2.2.2.1,fun i x g hx hg=>by
  obtain ⟨h1,h2,h3,h4,h5,h6,h7⟩:=h.2.2.2.2 i x g hx hg
  exact ⟨h1,h2,h3,h4,h5,fun y hy=>by have:=h6 y hy; show 0 ≤ y.1 ∧ y.1 < (l.length:Int); rw [hl]; exact this,h7⟩⟩
theorem Fits.ways {ways:List WayD} {d:FrameD} (h:Fits ways d) {l:List HeldD} (hl:l.length = d.ways.length) (hw:∀ (i:Nat) g g',d.ways[i]? = some g → l[i]? = some g' → g'.been.length = g.been.length ∧ (g'.gone = g.gone ∨ g'.gone = 0)):Fits ways { d with ways:=l }:=
 ⟨by show l.length = _; rw [hl]; exact h.1,h.2.1,h.2.2.1,h.2.2.2.1,fun i x g hx hg=>by
  have hi:i < d.ways.length:=by rw [← hl]; exact (List.getElem?_eq_some_iff.1 hg).1
  obtain ⟨g0,hg0⟩:=zkd d.ways hi
  obtain ⟨h1,h2,h3,h4,h5,h6,h7⟩:=h.2.2.2.2 i x g0 hx hg0
  obtain ⟨e1,e2⟩:=hw i g0 g hg0 hg
  refine ⟨e1.trans h1,h2,h3,?_,?_,h6,h7⟩
  ·rcases e2 with e | e <;> omega
  ·rcases e2 with e | e <;> omega⟩
theorem zjp {α:Type} {l:List α} {i j:Nat} {x y:α} (h:(l.set i x)[j]? = some y):(j = i ∧ y = x) ∨ (j ≠ i ∧ l[j]? = some y):=by
 by_cases e:i = j
 ·subst e
  have hi:i < l.length:=by have:=(List.getElem?_eq_some_iff.1 h).1; rw [List.length_set] at this; exact this
  rw [List.getElem?_set_self hi] at h;exact .inl ⟨rfl,(Option.some.inj h).symm⟩
 ·rw [List.getElem?_set_ne e] at h;exact .inr ⟨fun q=>e q.symm,h⟩
theorem Fits.set {ways:List WayD} {d:FrameD} (h:Fits ways d) {i:Nat} {g g':HeldD} (hi:d.ways[i]? = some g) (hb:g'.been.length = g.been.length) (hg:g'.gone = g.gone ∨ g'.gone = 0):Fits ways { d with ways:=d.ways.set i g' }:=
 h.ways List.length_set fun j a a' ha ha'=>by
  rcases zjp ha' with ⟨rfl,rfl⟩ | ⟨-,e⟩
  ·rw [hi] at ha; cases ha; exact ⟨hb,hg⟩
  ·rw [ha] at e; cases e; exact ⟨rfl,.inl rfl⟩
theorem zj7 (n:Nat):(zc3 n).been.length = n:=by simp [zc3]
theorem zo5 (h:HeldD):(za7 h).been.length = h.been.length ∧ ((za7 h).gone = h.gone ∨ (za7 h).gone = 0):=by
 unfold za7;split
 ·split
  ·exact ⟨zj7 _,.inr rfl⟩
  ·exact ⟨rfl,.inl rfl⟩
 ·exact ⟨rfl,.inl rfl⟩
theorem zjy (hold:Int) (occ:List Bool) (x:WayD) (h:HeldD):(zb3 hold occ x h).been.length = h.been.length ∧ ((zb3 hold occ x h).gone = h.gone ∨ (zb3 hold occ x h).gone = 0):=by
 unfold zb3;split
 ·exact ⟨rfl,.inl rfl⟩
 ·exact ⟨zj7 _,.inr rfl⟩
theorem zlz {p:PlanD} {d:FrameD} (h:Fits p.ways d) (op of lie:Int):Fits p.ways (evD p d op of lie).2:=by
 unfold evD;split
 ·split
  ·rename_i x g hx hg
   unfold zlx;split
   ·exact (h.points (zbo _ _)).set hg rfl (.inl rfl)
   ·exact h
  ·exact h
 split
 ·split
  ·rename_i x g hx hg
   unfold zc0;split
   ·exact h.set hg (zjy _ _ _ _).1 (zjy _ _ _ _).2
   ·exact h
  ·exact h
 split
 ·exact h.occ List.length_set
 split
 ·exact h.occ List.length_set
 split
 ·exact h.points (zco _ _ _)
 split
 ·unfold zen;split
  ·exact h
  split
  ·exact h
  ·exact h.points (zco _ _ _)
 ·refine h.ways (List.length_map _) fun i g g' hg hg'=>?_;rw [List.getElem?_map,hg] at hg'
  cases hg'
  exact zo5 g
theorem OPoints.put {w:World} {v:Value} {l:List (Int × Int)} {b k:Nat} {pt:Int × Int} (h:OPoints w v l b) (hk:l[k]? = some pt) (j:Nat) (hj:j < 2) (u:Int) :
  OPoints (w.setCell ⟨b,k * 2 + j,none⟩ (.int .i64 u)) v (l.set k (if j = 0 then (u,pt.2) else (pt.1,u))) b:=by
 have hl:=(List.getElem?_eq_some_iff.1 hk).1;obtain ⟨a,cap,rfl,h0 | ⟨rfl,f,N,hr,hN,hf⟩⟩:=h
 ·omega
 ·refine ⟨_,cap,by rw [List.length_set],.inr ⟨rfl,_,N,hr.set (k * 2 + j) (.int .i64 u),by rw [List.length_set]; exact hN,fun i x hx=>?_⟩⟩;rcases zjp hx with ⟨rfl,rfl⟩ | ⟨ne,hx⟩
  ·obtain ⟨f0,f1⟩:=hf i pt hk;rcases j with _ | _ | j
   ·exact ⟨by simp,by simp [f1]⟩
   ·exact ⟨by simp [f0],by simp⟩
   ·omega
  ·obtain ⟨f0,f1⟩:=hf i x hx;rw [if_neg (by omega),if_neg (by omega)];exact ⟨f0,f1⟩
theorem OFrame.put {P:Nat → Prop} {w:World} {v1 v2 v3:Value} {d:FrameD} {bo bp bw:Nat} {bb:Nat → Nat} (h:OFrame P w v1 v2 v3 d bo bp bw bb) {k:Nat} {pt:Int × Int} (hk:d.points[k]? = some pt) (j:Nat) (hj:j < 2) (u:Int) :
  OFrame P (w.setCell ⟨bp,k * 2 + j,none⟩ (.int .i64 u)) v1 v2 v3 { d with points:=d.points.set k (if j = 0 then (u,pt.2) else (pt.1,u)) } bo bp bw bb ∧ But (fun c=>¬ P c) w (w.setCell ⟨bp,k * 2 + j,none⟩ (.int .i64 u)):=by
 have hl:=(List.getElem?_eq_some_iff.1 hk).1
 have hn:d.points.length ≠ 0:=by omega
 obtain ⟨N,f,hr⟩:=h.points.row hn;refine ⟨h.setPoints ?_ (fun z=>?_) (fun i hi=>?_) ((But.refl _ _).setCell (fun z=>z rfl) _) (h.points.put hk j hj u) List.length_set,(But.refl _ _).setCell (fun z=>z (h.pp hn)) _⟩
 ·obtain ⟨N',f',hr'⟩:=h.occ.row;intro q;rw [← q] at hr';exact absurd (zdn hr hr') (by decide)
 ·obtain ⟨N',f',hr'⟩:=h.ways.row z;intro q;rw [← q] at hr';exact absurd (zdn hr hr') (by decide)
 ·obtain ⟨N',f',hr'⟩:=h.ways.been hi;intro q;rw [← q] at hr';exact absurd (zdn hr hr') (by decide)
theorem OPoints.cells {w:World} {v:Value} {l:List (Int × Int)} {b k:Nat} {pt:Int × Int} (h:OPoints w v l b) (hk:l[k]? = some pt):∃ cap,v = .slice (some ⟨b,0,none⟩) l.length cap ∧ w.cell? ⟨b,k * 2,none⟩ = some (.int .i64 pt.1) ∧ w.cell? ⟨b,k * 2 + 1,none⟩ = some (.int .i64 pt.2) ∧ w.frozen? ⟨b,k * 2,none⟩ = false ∧ w.frozen? ⟨b,k * 2 + 1,none⟩ = false:=by
 have hl:=(List.getElem?_eq_some_iff.1 hk).1;obtain ⟨a,cap,rfl,h0 | ⟨rfl,f,N,hr,hN,hf⟩⟩:=h
 ·omega
 ·obtain ⟨f0,f1⟩:=hf k pt hk;exact ⟨cap,rfl,by rw [hr.cell (by omega),f0],by rw [hr.cell (by omega),f1],hr.frozen _,hr.frozen _⟩
theorem OBools.put {w:World} {v:Value} {l:List Bool} {b k:Nat} (h:OBools w v l b) (hk:k < l.length) (u:Bool):OBools (w.setCell ⟨b,k,none⟩ (.bool u)) v (l.set k u) b:=by
 obtain ⟨f,N,cap,rfl,hr,hN,hf⟩:=h;refine ⟨_,N,cap,by rw [List.length_set],hr.set k (.bool u),by rw [List.length_set]; exact hN,fun i x hx=>?_⟩;rcases zjp hx with ⟨rfl,rfl⟩ | ⟨ne,hx⟩
 ·rw [if_pos rfl]
 ·rw [if_neg ne]; exact hf i x hx
theorem OBools.cells {w:World} {v:Value} {l:List Bool} {b k:Nat} {x:Bool} (h:OBools w v l b) (hk:l[k]? = some x):∃ cap,v = .slice (some ⟨b,0,none⟩) l.length cap ∧ w.cell? ⟨b,k,none⟩ = some (.bool x) ∧ w.frozen? ⟨b,k,none⟩ = false:=by
 have hl:=(List.getElem?_eq_some_iff.1 hk).1;obtain ⟨f,N,cap,rfl,hr,hN,hf⟩:=h;exact ⟨cap,rfl,by rw [hr.cell (by omega),hf k x hk],hr.frozen _⟩
theorem OFrame.putOcc {P:Nat → Prop} {w:World} {v1 v2 v3:Value} {d:FrameD} {bo bp bw:Nat} {bb:Nat → Nat} (h:OFrame P w v1 v2 v3 d bo bp bw bb) {k:Nat} (hk:k < d.occ.length) (u:Bool) :
  OFrame P (w.setCell ⟨bo,k,none⟩ (.bool u)) v1 v2 v3 { d with occ:=d.occ.set k u } bo bp bw bb ∧ But (fun c=>¬ P c) w (w.setCell ⟨bo,k,none⟩ (.bool u)):=
 ⟨h.setOcc ((But.refl _ _).setCell (fun z=>z rfl) _) (h.occ.put hk u),(But.refl _ _).setCell (fun z=>z h.po) _⟩
end Go.Proofs.YtdhinkgjiapigabGreatDoor
namespace Go.Proofs.YtdhinkgjiapigabGreatDoor
open Go.RowKit Go.Deep
open Classical
theorem OHelds.cells {w:World} {v:Value} {l:List HeldD} {bw:Nat} {bb:Nat → Nat} {i:Nat} {h:HeldD} (hf:OHelds w v l bw bb) (hi:l[i]? = some h):∃ cap f N,v = .slice (some ⟨bw,0,none⟩) l.length cap ∧ w.rowIs bw 93 N f ∧ i * 5 + 5 ≤ N ∧ HeldO w f i h (bb i):=by
 have hl:=(List.getElem?_eq_some_iff.1 hi).1;obtain ⟨a,cap,rfl,h0 | ⟨rfl,f,N,hr,hN,hf⟩⟩:=hf
 ·omega
 ·exact ⟨cap,f,N,rfl,hr,by omega,hf i h hi⟩
theorem OFrame.putState {P:Nat → Prop} {w:World} {v1 v2 v3:Value} {d:FrameD} {bo bp bw:Nat} {bb:Nat → Nat} (h:OFrame P w v1 v2 v3 d bo bp bw bb) {i:Nat} {g:HeldD} (hi:d.ways[i]? = some g) (s:Int) :
  ∃ bb',OFrame P (w.setCell ⟨bw,i * 5,none⟩ (.int .i64 s)) v1 v2 v3 { d with ways:=d.ways.set i { g with state:=s } } bo bp bw bb' ∧ But (fun c=>¬ P c) w (w.setCell ⟨bw,i * 5,none⟩ (.int .i64 s)):=by
 have hl:=(List.getElem?_eq_some_iff.1 hi).1
 obtain ⟨bb',h1,-⟩:=h.step (Q:=P) hl (x:={ g with state:=s }) (w':=w.setCell ⟨bw,i * 5,none⟩ (.int .i64 s))
  (fun f N hr _ ho=>HeldStep.store hr ⟨by omega,by omega⟩ ((ho g hi).state hr s)) (fun _ z=>z) (fun b h1 h2=>by rw [World.size_setCell] at h2; omega)
 exact ⟨bb',h1,(But.refl _ _).setCell (fun z=>z (h.pw (by omega))) _⟩
set_option maxRecDepth 100000 in
set_option maxHeartbeats 4000000 in
theorem zoj (P Q:Nat → Prop) (n hd ok p1 p2 p3 v1 v2 v3:Value) (d:FrameD) (ways:List WayD) (i:Nat) (x:WayD) (h:HeldD) (bo bp bw bf:Nat) (bb:Nat → Nat) (w:World)
  (hp:Ways Q w p2 ways) (hQ:∀ c,Q c → c < w.heap.size ∧ ¬ P c) (hc0:w.cell? ⟨bf,0,none⟩ = some ok) (hc2:w.cell? ⟨bf,2,none⟩ = some v2) (hc3:w.cell? ⟨bf,3,none⟩ = some v3) (hbf:¬ P bf)
  (hf:OFrame P w v1 v2 v3 d bo bp bw bb) (hx:ways[i]? = some x) (hh:d.ways[i]? = some h) (hPl:∀ c,P c → c < w.heap.size) (hs:x.Small 30) (hy:∀ y,(y ∈ x.lies ∨ y ∈ x.flanks) → 0 ≤ y.1 ∧ y.1 < d.points.length) (_hl1:ways.length ≤ 100) (_hl2:d.ways.length ≤ 1048576) (_hl3:d.points.length ≤ 1048576) :
  Calls Tryz.prog 87 #[.agg #[n,p1,p2,p3,hd],.pointer (some ⟨bf,0,none⟩),.int .i64 i] w fun e w'=>e = .returned (.tuple #[]) ∧ ∃ bb',OFrame P w' v1 v2 v3 { d with points:=zav d.points (x.lies ++ x.flanks),ways:=d.ways.set i { h with state:=1 } } bo bp bw bb' ∧ But (fun c=>¬ P c) w w':=by
 have hil:i < ways.length:=(List.getElem?_eq_some_iff.1 hx).1;have hjl:i < d.ways.length:=(List.getElem?_eq_some_iff.1 hh).1;obtain ⟨a2,k2,rfl,hcw⟩:=id hp;obtain h0 | ⟨b2,o2,rfl,hb2,hcw⟩:=hcw
 ·omega
 obtain ⟨u0,u1,u2,u3,u4,hxa,g0,g1,g2,g3,g4⟩:=hcw i hil x hx;obtain ⟨s0,e0,rfl⟩:=hxa.1.size;obtain ⟨s1,e1,rfl⟩:=hxa.2.1.size;obtain ⟨s2,e2,rfl⟩:=hxa.2.2.1.size;obtain ⟨s3,e3,rfl⟩:=hxa.2.2.2.1.size;obtain ⟨s4,e4,rfl⟩:=hxa.2.2.2.2.size;obtain ⟨cw,fw,Nw,rfl,hrw,hNw,how⟩:=hf.ways.cells hh
 obtain ⟨ap,cp,rfl⟩:∃ a c,v2 = .slice a d.points.length c:=by obtain ⟨a,c,e,-⟩:=hf.points; exact ⟨_,_,e⟩
 have hbfl:bf < w.heap.size:=World.block_lt_of_cell? _ _ hc0;have T1:=zaw w 37 #[n,p1,.slice (some ⟨b2,o2,none⟩) ways.length k2,p3,hd];have T2:=zbc w 37 122 #[n,p1,.slice (some ⟨b2,o2,none⟩) ways.length k2,p3,hd] #[.slice s0 x.sections.length e0,.slice s1 x.lies.length e1,.slice s2 x.flanks.length e2,.slice s3 x.over.length e3,.slice s4 x.near.length e4];have G0:=ckb g0 T1.below;have G1:=ckb g1 T1.below;have G2:=ckb g2 T1.below;have G3:=ckb g3 T1.below;have G4:=ckb g4 T1.below;have C3:=zns hc3 T2.below;have hrw2:=zah hrw T2.below;have S0:=hrw2.cell (i:=i * 5) (by omega);have Z0:=hrw2.frozen (i * 5);rw [how.1] at S0
 have hil':(i:Int) < (ways.length:Int):=by omega
 have hjl':(i:Int) < (d.ways.length:Int):=by omega
 obtain ⟨bb1,hf1,hB1⟩:=(hf.but (K:=fun _=>True) (Q:=P) (But.of_calls T2.below) (fun _ _=>trivial) fun _ z=>z).putState hh 1;have HF1:=zaa hf1;have HB1:Hid (But (fun c=>¬ P c) w _):=(But.of_calls T2.below).trans hB1;have HT2:=zaa T2;have hPn:∀ c,w.heap.size ≤ c → ¬ P c:=fun c hc z=>absurd (hPl c z) (by omega);have HPN:=zaa hPn;have w1:=hB1.cell (T2.cell (j:=1) (i:=1) rfl rfl) (hPn _ (by omega));have w2:=hB1.cell (T2.cell (j:=1) (i:=2) rfl rfl) (hPn _ (by omega));have HXA:=zaa hxa;have HQ:=zaa hQ;have HY:=zaa hy;have HC2:=zaa hc2;have hnbw:¬ (¬ P bw):=fun z=>z (hf.pw (by omega));have hw1:w.heap.size + 1 ≠ bw:=fun e=>hnbw (e ▸ hPn _ (by omega));obtain ⟨-,hsl,hsf,-⟩:=hs;clear hcw hxa g0 g1 g2 g3 g4 hrw hrw2 how hf hp hQ hf1 hB1 T1 T2 hy hx hh hc2 hnbw hPl hPn;go_enter Tryz.func87,Tryz.ntmps87;go_wp2;obtain ⟨W3,hW3⟩:∃ W,W = (((w.alloc (.cells #[n,p1,.slice (some ⟨b2,o2,none⟩) ways.length k2,p3,hd] 37)).alloc (.cells #[.slice s0 x.sections.length e0,.slice s1 x.lies.length e1,.slice s2 x.flanks.length e2,.slice s3 x.over.length e3,.slice s4 x.near.length e4] 122)).setCell ⟨bw,i * 5,none⟩ (.int .i64 1)).alloc (.cells #[.slice s1 x.lies.length e1,.slice s2 x.flanks.length e2] 120):=⟨_,rfl⟩;rw [← hW3]
 have hz2:(((w.alloc (.cells #[n,p1,.slice (some ⟨b2,o2,none⟩) ways.length k2,p3,hd] 37)).alloc (.cells #[.slice s0 x.sections.length e0,.slice s1 x.lies.length e1,.slice s2 x.flanks.length e2,.slice s3 x.over.length e3,.slice s4 x.near.length e4] 122)).setCell ⟨bw,i * 5,none⟩ (.int .i64 1)).heap.size = w.heap.size + 1 + 1:=by rw [World.size_setCell]; simp
 have hB3:Below (((w.alloc (.cells #[n,p1,.slice (some ⟨b2,o2,none⟩) ways.length k2,p3,hd] 37)).alloc (.cells #[.slice s0 x.sections.length e0,.slice s1 x.lies.length e1,.slice s2 x.flanks.length e2,.slice s3 x.over.length e3,.slice s4 x.near.length e4] 122)).setCell ⟨bw,i * 5,none⟩ (.int .i64 1)).heap.size (((w.alloc (.cells #[n,p1,.slice (some ⟨b2,o2,none⟩) ways.length k2,p3,hd] 37)).alloc (.cells #[.slice s0 x.sections.length e0,.slice s1 x.lies.length e1,.slice s2 x.flanks.length e2,.slice s3 x.over.length e3,.slice s4 x.near.length e4] 122)).setCell ⟨bw,i * 5,none⟩ (.int .i64 1)) W3:=by rw [hW3]; exact zab _ _
 have L0:W3.cell? ⟨w.heap.size + 1 + 1,0,none⟩ = some (.slice s1 x.lies.length e1):=by
  rw [hW3,← hz2]; exact (zak (((w.alloc (.cells #[n,p1,.slice (some ⟨b2,o2,none⟩) ways.length k2,p3,hd] 37)).alloc (.cells #[.slice s0 x.sections.length e0,.slice s1 x.lies.length e1,.slice s2 x.flanks.length e2,.slice s3 x.over.length e3,.slice s4 x.near.length e4] 122)).setCell ⟨bw,i * 5,none⟩ (.int .i64 1)) 120 #[.slice s1 x.lies.length e1,.slice s2 x.flanks.length e2]).cell (i:=0) (by simp)
 have L1:W3.cell? ⟨w.heap.size + 1 + 1,1,none⟩ = some (.slice s2 x.flanks.length e2):=by
  rw [hW3,← hz2]; exact (zak (((w.alloc (.cells #[n,p1,.slice (some ⟨b2,o2,none⟩) ways.length k2,p3,hd] 37)).alloc (.cells #[.slice s0 x.sections.length e0,.slice s1 x.lies.length e1,.slice s2 x.flanks.length e2,.slice s3 x.over.length e3,.slice s4 x.near.length e4] 122)).setCell ⟨bw,i * 5,none⟩ (.int .i64 1)) 120 #[.slice s1 x.lies.length e1,.slice s2 x.flanks.length e2]).cell (i:=1) (by simp)
 have HF3:=zaa (HF1.out.but (K:=fun _=>True) (Q:=P) (But.of_calls hB3) (fun _ _=>trivial) fun _ z=>z);have HB3:=zaa (HB1.out.call hB3);have HL0:=zaa L0;have HL1:=zaa L1
 have hz3:w.heap.size + 1 + 1 < W3.heap.size:=by have:=hB3.size; rw [hW3]; rw [World.size_alloc,hz2]; omega
 have HXW:Hid (∀ W,But (fun c=>¬ P c) W3 W → Lies (In W) W (.slice s1 x.lies.length e1) x.lies ∧ Lies (In W) W (.slice s2 x.flanks.length e2) x.flanks ∧ W.cell? ⟨bf,2,none⟩ = some (.slice ap d.points.length cp)):=fun W hW=>by
  have hwW:=HB3.out.trans hW;have hsame:Same Q w W:=hwW.same fun c hc=>HQ.out c hc;have hin:∀ c,Q c → In W c:=fun c hc=>Nat.lt_of_lt_of_le (HQ.out c hc).1 hwW.size;exact ⟨HXA.out.2.1.keep hsame hin,HXA.out.2.2.1.keep hsame hin,hwW.cell HC2.out hbf⟩
 clear hW3 hz2 hB3 L0 L1 HF1 HB1 HT2 HXA HQ HC2 G0 G1 G2 G3 G4 C3 S0 Z0 w1 w2
 go_loopw [29] (fun z wr=>∃ (a:Nat) (bb':Nat → Nat),a ≤ 2 ∧ z = .int .i64 a ∧ OFrame P wr v1 (.slice ap d.points.length cp) (.slice (some ⟨bw,0,none⟩) d.ways.length cw) { d with points:=zav d.points (([x.lies,x.flanks].take a).flatten),ways:=d.ways.set i { h with state:=1 } } bo bp bw bb' ∧ But (fun c=>¬ P c) W3 wr) (fun z _=>2 - (intOf z).toNat)
 case atStart=>exact ⟨0,bb1,by omega,rfl,HF3.out,But.refl _ _⟩
 case round=>
  obtain ⟨a,bbA,ha,rfl,hfA,hbA⟩:=hrel;rename World=>wA;have HFA:=zaa hfA;have HBA:=zaa hbA;clear hfA hbA HF3;by_cases ha2:a < 2
  ·obtain ⟨l,hl⟩:∃ l,[x.lies,x.flanks][a]? = some l:=zac _ (zaa rfl) ha2
   obtain ⟨sl,cl,hcl,hll,hly⟩:∃ sl cl,wA.cell? ⟨w.heap.size + 1 + 1,a,none⟩ = some (.slice sl l.length cl) ∧ (∀ W,But (fun c=>¬ P c) W3 W → Lies (In W) W (.slice sl l.length cl) l) ∧ ∀ y ∈ l,0 ≤ y.1 ∧ y.1 < d.points.length:=by
    rcases a with _ | _ | a
    ·cases hl
     exact ⟨_,_,HBA.out.cell HL0.out (HPN.out _ (by omega)),fun W hW=>(HXW.out W hW).1,fun y hy=>HY.out y (.inl hy)⟩
    ·cases hl
     exact ⟨_,_,HBA.out.cell HL1.out (HPN.out _ (by omega)),fun W hW=>(HXW.out W hW).2.1,fun y hy=>HY.out y (.inr hy)⟩
    ·omega
   have hl30:l.length ≤ 30:=by
    rcases a with _ | _ | a
    ·cases hl; exact hsl
    ·cases hl; exact hsf
    ·omega
   have hfl:(([x.lies,x.flanks].take (a + 1)).flatten) = (([x.lies,x.flanks].take a).flatten) ++ l:=by
    rw [List.take_add_one,hl]; simp
   have HFL:=zaa hfl;have HLL:=zaa hll;have HLY:=zaa hly
   have ha2':(a:Int) < 2:=by omega
   clear hl hll hly hfl;go_wp2;clear hcl;obtain ⟨P0,hP0⟩:∃ q,q = zav d.points (([x.lies,x.flanks].take a).flatten):=⟨_,rfl⟩;have HP0:=zaa hP0
   have hP0l:P0.length = d.points.length:=by rw [hP0]; exact zbo _ _
   rw [← hP0] at HFA;clear hP0
   go_loopw [35] (fun z wr=>∃ (k:Nat) (bb':Nat → Nat),k ≤ l.length ∧ z = .int .i64 k ∧ OFrame P wr v1 (.slice ap d.points.length cp) (.slice (some ⟨bw,0,none⟩) d.ways.length cw) { d with points:=zav P0 (l.take k),ways:=d.ways.set i { h with state:=1 } } bo bp bw bb' ∧ But (fun c=>¬ P c) W3 wr) (fun z _=>l.length - (intOf z).toNat)
   case atStart=>exact ⟨0,bbA,by omega,rfl,HFA.out,HBA.out⟩
   case round=>
    obtain ⟨k,bbB,hk,rfl,hfB,hbB⟩:=hrel;rename World=>wB;by_cases hlt:k < l.length
    ·obtain ⟨y,hy⟩:=zac l (zaa rfl) hlt;obtain ⟨ya,yb⟩:=y;obtain ⟨hya,hyb⟩:=HLY.out _ (List.mem_of_getElem? hy);simp only at hya hyb;obtain ⟨ky,rfl⟩:∃ ky:Nat,ya = ky:=⟨ya.toNat,by omega⟩;have hPk:(zav P0 (l.take k)).length = d.points.length:=(zbo _ _).trans hP0l;obtain ⟨pt,hpt⟩:=zac (zav P0 (l.take k)) (zaa hPk) (show ky < d.points.length by omega);obtain ⟨cp',ecp,g0,-,z0,-⟩:=hfB.points.cells hpt;have ecp2:(Value.slice ap d.points.length cp) = .slice (some ⟨bp,0,none⟩) d.points.length cp':=ecp.trans (by rw [hPk])
     cases ecp2
     obtain ⟨al,cl',e4,h0 | ⟨bl,ol,e5,hbl,hcl⟩⟩:=HLL.out wB hbB
     ·omega
     cases e4
     cases e5
     obtain ⟨q0,q1⟩:=hcl k hlt _ hy;simp only at q0 q1;have c2:=(HXW.out wB hbB).2.2;have hbn:=zab wB (.cells #[.int .i64 (ky:Int),.int .i64 yb] 175);have T:=zaw wB 175 #[.int .i64 (ky:Int),.int .i64 yb];have c2':=zns c2 hbn;have g0':=zns g0 hbn;have z0':(wB.alloc (.cells #[.int .i64 (ky:Int),.int .i64 yb] 175)).frozen? ⟨bp,ky * 2,none⟩ = false:=(hbn.frozen (p:=⟨bp,ky * 2,none⟩) (World.block_lt_of_cell? _ _ g0)).trans z0;have t0:(wB.alloc (.cells #[.int .i64 (ky:Int),.int .i64 yb] 175)).cell? ⟨wB.heap.size,0,none⟩ = some (.int .i64 (ky:Int)):=T.cell (j:=0) (i:=0) rfl rfl;have t1:(wB.alloc (.cells #[.int .i64 (ky:Int),.int .i64 yb] 175)).cell? ⟨wB.heap.size,1,none⟩ = some (.int .i64 yb):=T.cell (j:=0) (i:=1) rfl rfl;have hPbp:P bp:=hfB.pp (by show (zav P0 (l.take k)).length ≠ 0; omega);have n1:bf ≠ bp:=fun e=>hbf (e ▸ hPbp)
     have n2:wB.heap.size ≠ bp:=by have:=World.block_lt_of_cell? _ _ g0; simp only at this; omega
     have hkd:(ky:Int) < (d.points.length:Int):=hyb;have hk0:(0:Int) ≤ (ky:Int):=hya;have hf4:=(hfB.but (K:=fun _=>True) (Q:=P) (But.of_calls hbn) (fun _ _=>trivial) fun _ z=>z).put hpt 0 (by omega) yb
     have hf5:OFrame P ((wB.alloc (.cells #[.int .i64 (ky:Int),.int .i64 yb] 175)).setCell ⟨bp,ky * 2,none⟩ (.int .i64 yb)) v1 (.slice (some ⟨bp,0,none⟩) d.points.length cp) (.slice (some ⟨bw,0,none⟩) d.ways.length cw) { d with points:=zav P0 (l.take (k + 1)),ways:=d.ways.set i { h with state:=1 } } bo bp bw bbB:=by
      have e:zav P0 (l.take (k + 1)) = (zav P0 (l.take k)).set ky (yb,pt.2):=by
       rw [List.take_add_one,hy];show zav P0 (l.take k ++ [((ky:Int),yb)]) = _;rw [zfm];exact zc7 _ hpt
      rw [e];exact hf4.1
     have HFIN:=zaa (And.intro (hf5.but (K:=fun _=>True) (Q:=P) (But.of_calls (zaf _)) (fun _ _=>trivial) fun _ z=>z) (((hbB.call hbn).trans hf4.2).call (zaf _)));have K2:((wB.alloc (.cells #[.int .i64 (ky:Int),.int .i64 yb] 175)).setCell ⟨bp,ky * 2,none⟩ (.int .i64 yb)).drew.cell? ⟨bf,2,none⟩ = some (.slice (some ⟨bp,0,none⟩) d.points.length cp):=(World.cell?_setCell_other _ _ _ _ (fun e=>n1 (congrArg Addr.block e).symm)).trans c2';have K0:((wB.alloc (.cells #[.int .i64 (ky:Int),.int .i64 yb] 175)).setCell ⟨bp,ky * 2,none⟩ (.int .i64 yb)).drew.cell? ⟨wB.heap.size,0,none⟩ = some (.int .i64 (ky:Int)):=(World.cell?_setCell_other _ _ _ _ (fun e=>n2 (congrArg Addr.block e).symm)).trans t0;have K1:((wB.alloc (.cells #[.int .i64 (ky:Int),.int .i64 yb] 175)).setCell ⟨bp,ky * 2,none⟩ (.int .i64 yb)).drew.cell? ⟨wB.heap.size,1,none⟩ = some (.int .i64 yb):=(World.cell?_setCell_other _ _ _ _ (fun e=>n2 (congrArg Addr.block e).symm)).trans t1;clear hf4 hf5 hfB hbB hcl hy hpt T hPk hPbp HFA HBA hbn c2 g0 z0 ecp
     go_wp2_with fail
     clear q0 q1
     go_region_held3 (fun w'=>w'.cell? ⟨bf,2,none⟩ = some (.slice (some ⟨bp,0,none⟩) d.points.length cp) ∧ w'.cell? ⟨wB.heap.size,0,none⟩ = some (.int .i64 (ky:Int)) ∧ w'.cell? ⟨wB.heap.size,1,none⟩ = some (.int .i64 yb)) (first | go_keep | exact ⟨K2,K0,K1⟩) (fail)
     all_goals
      go_wp2;go_roundw
      case rel=>exact ⟨k + 1,bbB,by omega,by go_num,HFIN.out⟩
      case measure=>simp [intOf]; omega
    ·obtain rfl:k = l.length:=by omega
     rw [List.take_length] at hfB;have HFB:=zaa hfB;have HBB:=zaa hbB;clear hfB hbB HFA;go_wp2;go_roundw
     case rel=>exact ⟨a + 1,bbB,by omega,by go_num,by rw [HFL.out,zgh,← HP0.out]; exact HFB.out,HBB.out⟩
     case measure=>simp [intOf]; omega
  ·obtain rfl:a = 2:=by omega
   have hfin:(([x.lies,x.flanks].take 2).flatten) = x.lies ++ x.flanks:=by simp
   rw [hfin] at HFA;go_wp2;refine bodyPost_end (v:=.tuple #[]) (by simp [results,Tryz.results87,go_sem]) rfl ⟨rfl,bbA,HFA.out,HB3.out.trans HBA.out⟩
end Go.Proofs.YtdhinkgjiapigabGreatDoor
namespace Go.Proofs.YtdhinkgjiapigabGreatDoor
open Go.RowKit Go.Deep
open Classical
theorem OFrame.putTimer {P:Nat → Prop} {w:World} {v1 v2 v3:Value} {d:FrameD} {bo bp bw:Nat} {bb:Nat → Nat} (h:OFrame P w v1 v2 v3 d bo bp bw bb) {i:Nat} {g:HeldD} (hi:d.ways[i]? = some g) (s:Int) :
  ∃ bb',OFrame P (w.setCell ⟨bw,i * 5 + 4,none⟩ (.int .i64 s)) v1 v2 v3 { d with ways:=d.ways.set i { g with timer:=s } } bo bp bw bb' ∧ But (fun c=>¬ P c) w (w.setCell ⟨bw,i * 5 + 4,none⟩ (.int .i64 s)):=by
 have hl:=(List.getElem?_eq_some_iff.1 hi).1
 obtain ⟨bb',h1,-⟩:=h.step (Q:=P) hl (x:={ g with timer:=s }) (w':=w.setCell ⟨bw,i * 5 + 4,none⟩ (.int .i64 s))
  (fun f N hr _ ho=>HeldStep.store hr ⟨by omega,by omega⟩ ((ho g hi).timer hr s)) (fun _ z=>z) (fun b h1 h2=>by rw [World.size_setCell] at h2; omega)
 exact ⟨bb',h1,(But.refl _ _).setCell (fun z=>z (h.pw (by omega))) _⟩
theorem OFrame.toIdle {P:Nat → Prop} {w w':World} {v1 v2 v3:Value} {d:FrameD} {bo bp bw N:Nat} {bb:Nat → Nat} {f:Nat → Value} (h:OFrame P w v1 v2 v3 d bo bp bw bb) {i:Nat} {g:HeldD} (hi:d.ways[i]? = some g) (hr:w.rowIs bw 93 N f) {n:Nat} (hs:∀ b,HeldStep w w' bw N i f b (zc3 n)) :
  ∃ bb',OFrame (fun c=>P c ∨ New w w' c) w' v1 v2 v3 { d with ways:=d.ways.set i (zc3 n) } bo bp bw bb' ∧ But (fun c=>¬ P c) w w':=by
 have hl:=(List.getElem?_eq_some_iff.1 hi).1;obtain ⟨bb',h1,h2⟩:=h.step (Q:=fun c=>P c ∨ New w w' c) hl (x:=zc3 n) (w':=w') (fun f' N' hr' _ _=>(hs (bb i)).from hr hr') (fun _ z=>.inl z) (fun b h1 h2=>.inr ⟨h1,h2⟩);exact ⟨bb',h1,h2.mono fun c _ hc=>⟨fun e=>hc (e ▸ h.pw (by omega)),fun e=>hc (e ▸ h.pb i hl)⟩⟩
set_option maxRecDepth 100000 in
set_option maxHeartbeats 4000000 in
theorem zm2 (P Q:Nat → Prop) (n ok p1 p2 p3 v1 v2 v3:Value) (p:PlanD) (d:FrameD) (i:Nat) (x:WayD) (h:HeldD) (bo bp bw bf:Nat) (bb:Nat → Nat) (w:World)
  (hp:Ways Q w p2 p.ways) (_hQ:∀ c,Q c → c < w.heap.size ∧ ¬ P c) (_hc0:w.cell? ⟨bf,0,none⟩ = some ok) (hc1:w.cell? ⟨bf,1,none⟩ = some v1) (hc3:w.cell? ⟨bf,3,none⟩ = some v3)
  (hf:OFrame P w v1 v2 v3 d bo bp bw bb) (hx:p.ways[i]? = some x) (hh:d.ways[i]? = some h) (hs:x.Small 30) (hy:∀ s ∈ x.near,0 ≤ s ∧ s < d.occ.length) (hb30:h.been.length ≤ 1048576) (_hl1:p.ways.length ≤ 100) (_hl2:d.ways.length ≤ 1048576) (_hl3:d.occ.length ≤ 1048576) :
  Calls Tryz.prog 88 #[.agg #[n,p1,p2,p3,.int .i64 p.hold],.pointer (some ⟨bf,0,none⟩),.int .i64 i] w fun e w'=>e = .returned (.int .i64 (zc0 p d i x h).1) ∧ ∃ bb',OFrame (fun c=>P c ∨ New w w' c) w' v1 v2 v3 (zc0 p d i x h).2 bo bp bw bb' ∧ But (fun c=>¬ P c) w w':=by
 have hil:i < p.ways.length:=(List.getElem?_eq_some_iff.1 hx).1;have hjl:i < d.ways.length:=(List.getElem?_eq_some_iff.1 hh).1;obtain ⟨a2,k2,rfl,hcw⟩:=id hp;obtain h0 | ⟨b2,o2,rfl,hb2,hcw⟩:=hcw
 ·omega
 obtain ⟨u0,u1,u2,u3,u4,hxa,g0,g1,g2,g3,g4⟩:=hcw i hil x hx;obtain ⟨s4,e4,rfl,hn4⟩:=hxa.2.2.2.2;obtain ⟨cw,fw,Nw,rfl,hrw,hNw,how⟩:=hf.ways.cells hh;obtain ⟨fo,No,co,rfl,hro,hNo,hfo⟩:=id hf.occ;have T1:=zaw w 37 #[n,p1,.slice (some ⟨b2,o2,none⟩) p.ways.length k2,p3,.int .i64 p.hold];have G4:=ckb g4 T1.below;have C1:=zns hc1 T1.below;have C3:=zns hc3 T1.below;have hrw1:=zah hrw T1.below;have hro1:=zah hro T1.below;have S0:=hrw1.cell (i:=i * 5) (by omega);have S3:=hrw1.cell (i:=i * 5 + 3) (by omega);have S4:=hrw1.cell (i:=i * 5 + 4) (by omega);have Z0:=hrw1.frozen (i * 5);have Z4:=hrw1.frozen (i * 5 + 4);rw [how.1] at S0;rw [how.2.2.2.1] at S3;rw [how.2.2.2.2] at S4
 have hil':(i:Int) < (p.ways.length:Int):=by omega
 have hjl':(i:Int) < (d.ways.length:Int):=by omega
 have hbwl:bw < w.heap.size:=hrw.lt;have HRW0:=zaa hrw;have HT4:=zaa how.2.2.2.2;have HF0:=zaa hf;have HF1:=zaa (hf.but (K:=fun _=>True) (Q:=P) (But.of_calls T1.below) (fun _ _=>trivial) fun _ z=>z);have HT1:=zaa T1
 have HB:Hid (fw (i * 5 + 2) = .slice (some ⟨bb i,0,none⟩) h.been.length ((match fw (i * 5 + 2) with | .slice _ _ c=>c | _=>0))):=by
  obtain ⟨f',N',c',e,-⟩:=how.2.2.1;show _ = _;rw [e]
 have hn5:x.near.length = 0 ∨ ∃ b off,s4 = some ⟨b,off,none⟩ ∧ ∀ (k:Nat) s,x.near[k]? = some s → (w.alloc (.cells #[n,p1,.slice (some ⟨b2,o2,none⟩) p.ways.length k2,p3,.int .i64 p.hold] 37)).cell? ⟨b,off + k,none⟩ = some (.int .i64 s):=by
  rcases hn4 with e | ⟨b,off,e,hb,he⟩
  ·exact .inl e
  ·exact .inr ⟨b,off,e,fun k s hk=>ckb (he k (List.getElem?_eq_some_iff.1 hk).1 s hk) (Below.mono T1.below (Nat.le_refl _))⟩
 have HN5:=zaa hn5;have HRW:=zaa hrw1
 have HO:Hid (∀ (k:Nat) o,d.occ[k]? = some o → (w.alloc (.cells #[n,p1,.slice (some ⟨b2,o2,none⟩) p.ways.length k2,p3,.int .i64 p.hold] 37)).cell? ⟨bo,k,none⟩ = some (.bool o)):=fun k o hk=>by
  rw [hro1.cell (by have:=(List.getElem?_eq_some_iff.1 hk).1; omega),hfo k o hk]
 have HY:=zaa hy;have HH:=zaa hh;obtain ⟨-,-,-,-,hsn⟩:=hs;clear hcw hxa g0 g1 g2 g3 g4 hrw hrw1 how hf hp _hQ T1 hy hx hh hn4 hn5 hro hro1 hfo _hc0 hc1 hc3 hb2;have hbk1:(h.state = 1 ∨ h.state = 2) → zc0 p d i x h = (0,{ d with ways:=d.ways.set i (zb3 p.hold d.occ x h) }):=fun e=>if_pos e;have hbk2:¬ (h.state = 1 ∨ h.state = 2) → zc0 p d i x h = (2,d):=fun e=>if_neg e;have HBK1:=zaa hbk1;have HBK2:=zaa hbk2;clear hbk1 hbk2;go_enter Tryz.func88,Tryz.ntmps88;by_cases z0:h.state = 1 ∨ h.state = 2
 case neg=>
  have q1:(h.state != 1) = true:=by simp; omega
  have q2:(h.state != 2) = true:=by simp; omega
  have HZ:=zaa (HBK2.out z0);clear z0;go_wp2;go_ret;rw [HZ.out];exact ⟨rfl,bb,HF1.out.but (K:=fun _=>True) (But.refl _ _) (fun _ _=>trivial) fun _ z=>.inl z,But.of_calls HT1.out.below⟩
 have HZ:=zaa (HBK1.out z0)
 have hst:(h.state != 1) = false ∨ ((h.state != 1) = true ∧ (h.state != 2) = false):=by
  rcases z0 with e | e
  ·exact .inl (by simp [e])
  ·exact .inr ⟨by simp [e],by simp [e]⟩
 obtain ⟨sh,hsh⟩:∃ b,h.shown = b:=⟨_,rfl⟩;rw [hsh] at S3;have HSH:=zaa hsh;clear z0 HBK1 HBK2 hsh
 have hany:∀ (k:Nat) s o,x.near[k]? = some s → za1 d.occ s = o → (sh && (x.near.take k).any (za1 d.occ)) = false → (sh && (x.near.take (k + 1)).any (za1 d.occ)) = (o && sh):=fun k s o h1 h2 h3=>by
  rw [List.take_add_one,h1];simp only [Option.toList_some,List.any_append,List.any_cons,List.any_nil,Bool.or_false,h2]
  cases sh
  ·simp
  ·simp only [Bool.true_and] at h3 ⊢;rw [h3];simp
 have HANY:=zaa hany;clear hany;rcases hst with q1 | ⟨q1,q2⟩
 all_goals
  go_wp2
  go_loop [35] (fun z=>∃ (k:Nat),k ≤ x.near.length ∧ z = .int .i64 k ∧ (sh && (x.near.take k).any (za1 d.occ)) = false) (fun z=>x.near.length - (intOf z).toNat)
  case atStart=>exact ⟨0,by omega,rfl,by simp⟩
  case round=>
   obtain ⟨k,hk,rfl,hno⟩:=hrel;have HNO:=zaa hno;clear hno;by_cases hlt:k < x.near.length
   ·obtain h0 | ⟨b,off,rfl,hcell⟩:=HN5.out
    ·omega
    obtain ⟨s,hsk⟩:=zac x.near (zaa rfl) hlt;obtain ⟨hs0,hs1⟩:=HY.out s (List.mem_of_getElem? hsk);obtain ⟨sn,rfl⟩:∃ sn:Nat,s = sn:=⟨s.toNat,by omega⟩;obtain ⟨o,ho⟩:=zac d.occ (zaa rfl) (show sn < d.occ.length by omega);have m0:=hcell k _ hsk;have m1:=HO.out sn o ho
    have hoc:za1 d.occ (sn:Int) = o:=by unfold za1; rw [show ((sn:Int)).toNat = sn by simp,ho]
    have HA:=zaa (HANY.out k _ o hsk hoc HNO.out);have HMEM:=zaa (List.mem_of_getElem? hsk);have HOC:=zaa hoc;clear hcell hsk ho hoc
    cases o
    ·go_wp2
     go_round
     case rel=>exact ⟨k + 1,by omega,by go_num,HA.out⟩
     case measure=>simp [intOf]; omega
    ·cases sh
     ·go_wp2
      go_round
      case rel=>exact ⟨k + 1,by omega,by go_num,by rfl⟩
      case measure=>simp [intOf]; omega
     ·obtain ⟨bb1,hf2,hB2⟩:=HF0.out.putState HH.out 3;obtain ⟨bb2,hf3,hB3⟩:=hf2.putTimer (i:=i) (List.getElem?_set_self hjl) p.hold
      have hfin:zb3 p.hold d.occ x h = { h with state:=3,timer:=p.hold }:=by
       unfold zb3;rw [HSH.out];have:zkg d.occ x = true:=List.any_eq_true.2 ⟨_,HMEM.out,HOC.out⟩;rw [this]; rfl
      have hset:((d.ways.set i { h with state:=3 }).set i { h with state:=3,timer:=p.hold }) = d.ways.set i { h with state:=3,timer:=p.hold }:=List.set_set _;have hr9:=zah (HRW0.out.set (i * 5) (.int .i64 3)) (zab (w.setCell ⟨bw,i * 5,none⟩ (.int .i64 3)) (.cells #[n,p1,.slice (some ⟨b2,o2,none⟩) p.ways.length k2,p3,.int .i64 p.hold] 37))
      have S9:((w.setCell ⟨bw,i * 5,none⟩ (.int .i64 3)).alloc (.cells #[n,p1,.slice (some ⟨b2,o2,none⟩) p.ways.length k2,p3,.int .i64 p.hold] 37)).cell? ⟨bw,i * 5 + 4,none⟩ = some (.int .i64 h.timer):=by rw [hr9.cell (by omega),if_neg (by omega),HT4.out]
      have Z9:((w.setCell ⟨bw,i * 5,none⟩ (.int .i64 3)).alloc (.cells #[n,p1,.slice (some ⟨b2,o2,none⟩) p.ways.length k2,p3,.int .i64 p.hold] 37)).frozen? ⟨bw,i * 5 + 4,none⟩ = false:=hr9.frozen _
      have H4:((w.setCell ⟨bw,i * 5,none⟩ (.int .i64 3)).alloc (.cells #[n,p1,.slice (some ⟨b2,o2,none⟩) p.ways.length k2,p3,.int .i64 p.hold] 37)).cell? ⟨w.heap.size,4,none⟩ = some (.int .i64 p.hold):=by
       have:=(zaw (w.setCell ⟨bw,i * 5,none⟩ (.int .i64 3)) 37 #[n,p1,.slice (some ⟨b2,o2,none⟩) p.ways.length k2,p3,.int .i64 p.hold]).cell (j:=0) (i:=4) rfl rfl;rw [World.size_setCell] at this;exact this
      have HFN:=zaa (And.intro (hf3.but (K:=fun _=>True) (Q:=P) (But.of_calls (zab _ (.cells #[n,p1,.slice (some ⟨b2,o2,none⟩) p.ways.length k2,p3,.int .i64 p.hold] 37))) (fun _ _=>trivial) fun _ z=>z) ((hB2.trans hB3).call (zab _ (.cells #[n,p1,.slice (some ⟨b2,o2,none⟩) p.ways.length k2,p3,.int .i64 p.hold] 37))));have HE:=zaa (And.intro hfin hset);clear hf2 hf3 hB2 hB3 hfin hset;go_wp2;go_ret;rw [HZ.out,HE.out.1];refine ⟨rfl,⟨bb2,?_⟩,HFN.out.2⟩;have h9:=HFN.out.1;rw [HE.out.2] at h9;exact h9.but (K:=fun _=>True) (But.refl _ _) (fun _ _=>trivial) fun _ z=>.inl z
   ·have hall:(sh && zkg d.occ x) = false:=by
     have:=HNO.out;rw [List.take_of_length_le (by omega)] at this;exact this
    have hfin:zb3 p.hold d.occ x h = zc3 h.been.length:=by
     unfold zb3;rw [HSH.out,hall]; rfl
    have HE:=zaa hfin;clear hall hfin
    go_wp2_with fail
    refine (zfx bw Nw i fw _ h.been.length _ _ HRW.out hNw HB.out hb30).mono ?_;rintro e w2 ⟨rfl,hst2⟩;obtain ⟨bb2,hf2,hB2⟩:=HF1.out.toIdle HH.out HRW.out hst2;have HFN:=zaa (And.intro hf2 ((But.of_calls (K:=fun c=>¬ P c) HT1.out.below).trans hB2));clear hf2 hB2 hst2;go_wp2;go_ret;rw [HZ.out,HE.out];refine ⟨rfl,bb2,HFN.out.1.but (K:=fun _=>True) (But.refl _ _) (fun _ _=>trivial) fun c hc=>?_,HFN.out.2⟩;rcases hc with z | z
    ·exact .inl z
    ·exact .inr ⟨by have:=z.1; rw [World.size_alloc] at this; omega,z.2⟩
end Go.Proofs.YtdhinkgjiapigabGreatDoor
namespace Go.Proofs.YtdhinkgjiapigabGreatDoor
open Go.RowKit Go.Deep
open Classical
def zq7 (p:PlanD) (d:FrameD) (op of lie:Int) [Decidable (zas p d ∧ za5 p.sections p.switches.length p.ways.length op of lie)]:Int × FrameD:=
 if zas p d ∧ za5 p.sections p.switches.length p.ways.length op of lie then doD p d op of lie else (1,zex)
def TickR (P:Nat → Prop) (W0:World) (v1 v2 v3:Value) (d:FrameD) (bo bp bw:Nat) (i:Nat) (W:World):Prop:=
 ∃ (cur:List HeldD) (bb:Nat → Nat),cur.length = d.ways.length ∧ (∀ (j:Nat) h,j < i → d.ways[j]? = some h → cur[j]? = some (za7 h)) ∧ (∀ j:Nat,i ≤ j → cur[j]? = d.ways[j]?) ∧
  OFrame P W v1 v2 v3 { d with ways:=cur } bo bp bw bb ∧ But (fun c=>¬ P c) W0 W
theorem TickR.next {P:Nat → Prop} {W0 W W':World} {v1 v2 v3:Value} {d:FrameD} {bo bp bw i:Nat} {cur:List HeldD} {bb:Nat → Nat} {h:HeldD} (hl:cur.length = d.ways.length) (h1:∀ (j:Nat) h,j < i → d.ways[j]? = some h → cur[j]? = some (za7 h)) (h2:∀ j:Nat,i ≤ j → cur[j]? = d.ways[j]?) (hh:d.ways[i]? = some h)
  (hf:OFrame P W' v1 v2 v3 { d with ways:=cur.set i (za7 h) } bo bp bw bb) (hb:But (fun c=>¬ P c) W0 W) (hb':But (fun c=>¬ P c) W W'):TickR P W0 v1 v2 v3 d bo bp bw (i + 1) W':=by
 have hi:i < cur.length:=by rw [hl]; exact (List.getElem?_eq_some_iff.1 hh).1
 refine ⟨cur.set i (za7 h),bb,by rw [List.length_set]; exact hl,fun j g hj hg=>?_,fun j hj=>?_,hf,hb.trans hb'⟩
 ·by_cases e:j = i
  ·subst e;rw [hh] at hg
   cases hg
   exact List.getElem?_set_self hi
  ·rw [List.getElem?_set_ne (Ne.symm e)];exact h1 j g (by omega) hg
 ·rw [List.getElem?_set_ne (by omega)];exact h2 j (by omega)
theorem TickR.end {P:Nat → Prop} {W0 W:World} {v1 v2 v3:Value} {d:FrameD} {bo bp bw n:Nat} (h:TickR P W0 v1 v2 v3 d bo bp bw n W) (hn:n = d.ways.length):∃ bb,OFrame P W v1 v2 v3 { d with ways:=d.ways.map za7 } bo bp bw bb ∧ But (fun c=>¬ P c) W0 W:=by
 obtain ⟨cur,bb,h0,h1,-,hf,hb⟩:=h
 have:cur = d.ways.map za7:=by
  apply List.ext_getElem?;intro j;rw [List.getElem?_map];by_cases hj:j < d.ways.length
  ·obtain ⟨x,hx⟩:=zkd d.ways hj;rw [h1 j x (by omega) hx,hx]; rfl
  ·rw [List.getElem?_eq_none (by omega),List.getElem?_eq_none (by omega)]; rfl
 rw [this] at hf;exact ⟨bb,hf,hb⟩
theorem zn1 (w:World) (t0 t1 t2 t3:TypeId) (c0 c1 c2 c3:Array Value):Boxes w [(t0,c0),(t1,c1),(t2,c2),(t3,c3)] ((((w.alloc (.cells c0 t0)).alloc (.cells c1 t1)).alloc (.cells c2 t2)).alloc (.cells c3 t3)):=
 (zbs w t0 t1 t2 c0 c1 c2).snoc (by simp) t3 c3
set_option maxRecDepth 100000 in
set_option maxHeartbeats 16000000 in
theorem znj (p1 p2 p3 f1 f2 f3:Value) (p:PlanD) (d:FrameD) (op of lie:Int) (w:World) (hp:PlanAt (In w) w p1 p2 p3 p) (hf:FrameAt (In w) w f1 f2 f3 d) (hs:p.Small 1048576) (hd:d.Small 1048576) :
  Calls Tryz.prog 21 #[.agg #[.int .i64 p.sections,p1,p2,p3,.int .i64 p.hold],.agg #[.bool d.ok,f1,f2,f3],.agg #[.int .i64 op,.int .i64 of,.int .i64 lie]] w fun e w'=>∃ u1 u2 u3,e = .returned (.agg #[.int .i64 (zq7 p d op of lie).1,.bool (zq7 p d op of lie).2.ok,u1,u2,u3]) ∧ Below w.heap.size w w' ∧ FrameM (w.heap.size + 1) w' u1 u2 u3 (zq7 p d op of lie).2:=by
 have KP:=zaa fun (W:World) (h:Below w.heap.size w W)=>hp.keep (Q:=In W) (In.keep h).1 (In.keep h).2;have KF:=zaa fun (W:World) (h:Below w.heap.size w W)=>hf.keep (Q:=In W) (In.keep h).1 (In.keep h).2;obtain ⟨a1,c1,rfl⟩:=hp.1.size;obtain ⟨a2,c2,rfl⟩:=hp.2.1.size;obtain ⟨a3,c3,rfl⟩:=hp.2.2.size;obtain ⟨o1,m1,rfl⟩:=hf.1.size;obtain ⟨o2,m2,rfl⟩:=hf.2.1.size;obtain ⟨o3,m3,rfl⟩:=hf.2.2.size;have HP:=zaa hp;have T0:=zn1 w 37 42 52 50 #[.int .i64 p.sections,.slice a1 p.switches.length c1,.slice a2 p.ways.length c2,.slice a3 p.bars.length c3,.int .i64 p.hold] #[.bool d.ok,.slice o1 d.occ.length m1,.slice o2 d.points.length m2,.slice o3 d.ways.length m3] #[.int .i64 op,.int .i64 of,.int .i64 lie] #[.int .i64 0,.bool false,.slice none 0 0,.slice none 0 0,.slice none 0 0];have HS:=zaa hs;have HD:=zaa hd;have hwl:p.ways.length ≤ 1048576:=hs.2.1;have hsl:p.switches.length ≤ 1048576:=hs.1;clear hs hd hp hf;go_enter Tryz.func21,Tryz.ntmps21;have b0:=T0.cell (j:=0) (i:=0) rfl rfl;have b1:=T0.cell (j:=0) (i:=1) rfl rfl;have b2:=T0.cell (j:=0) (i:=2) rfl rfl;have b3:=T0.cell (j:=0) (i:=3) rfl rfl;have b4:=T0.cell (j:=0) (i:=4) rfl rfl;have e0:=T0.cell (j:=1) (i:=0) rfl rfl;have e1:=T0.cell (j:=1) (i:=1) rfl rfl;have e2:=T0.cell (j:=1) (i:=2) rfl rfl;have e3:=T0.cell (j:=1) (i:=3) rfl rfl;have v0:=T0.cell (j:=2) (i:=0) rfl rfl;have v1:=T0.cell (j:=2) (i:=1) rfl rfl;have v2:=T0.cell (j:=2) (i:=2) rfl rfl;rw [Nat.add_zero] at b0 b1 b2 b3 b4
 go_wp2_with fail
 refine (zhi _ _ _ _ _ _ p d _ (KP.out _ T0.below) (KF.out _ T0.below) HS.out HD.out).mono ?_;clear b0 b1 b2 b3 b4 e0 e1 e2 e3 v0 v1 v2;rintro e w1 ⟨rfl,hb⟩;have T1:=T0.call hb;clear T0 hb;have b0:=T1.cell (j:=0) (i:=0) rfl rfl;have b1:=T1.cell (j:=0) (i:=1) rfl rfl;have b2:=T1.cell (j:=0) (i:=2) rfl rfl;have b3:=T1.cell (j:=0) (i:=3) rfl rfl;have b4:=T1.cell (j:=0) (i:=4) rfl rfl;have e0:=T1.cell (j:=1) (i:=0) rfl rfl;have e1:=T1.cell (j:=1) (i:=1) rfl rfl;have e2:=T1.cell (j:=1) (i:=2) rfl rfl;have e3:=T1.cell (j:=1) (i:=3) rfl rfl;have v0:=T1.cell (j:=2) (i:=0) rfl rfl;have v1:=T1.cell (j:=2) (i:=1) rfl rfl;have v2:=T1.cell (j:=2) (i:=2) rfl rfl;have r0:=T1.cell (j:=3) (i:=0) rfl rfl;have r1:=T1.cell (j:=3) (i:=1) rfl rfl;have r2:=T1.cell (j:=3) (i:=2) rfl rfl;have r3:=T1.cell (j:=3) (i:=3) rfl rfl;have r4:=T1.cell (j:=3) (i:=4) rfl rfl;have k0:=T1.frozen (j:=3) 0 rfl;have k1:=T1.frozen (j:=3) 1 rfl;have k2:=T1.frozen (j:=3) 2 rfl;have k3:=T1.frozen (j:=3) 3 rfl;have k4:=T1.frozen (j:=3) 4 rfl;rw [Nat.add_zero] at b0 b1 b2 b3 b4;have hno:¬ (zas p d ∧ za5 p.sections p.switches.length p.ways.length op of lie) → zq7 p d op of lie = (1,zex):=fun h=>if_neg h;have HNO:=zaa hno;clear hno;by_cases hfr:zas p d
 case neg=>
  rw [zae hfr];have HFR:=zaa (HNO.out fun z=>hfr z.1);have HT:=zaa T1.below;clear hfr T1;go_wp2;refine bodyPost_ret (v:=.agg #[.int .i64 1,.bool false,.slice none 0 0,.slice none 0 0,.slice none 0 0]) (by simp [results,Tryz.results21,go_sem,r0,r1,r2,r3,r4]) rfl ?_;rw [HFR.out]
  have pz:w.heap.size ≤ w.heap.size + 3:=by omega
  exact ⟨_,_,_,rfl,((((HT.out.setCell (p:=⟨w.heap.size + 3,0,none⟩) pz _).setCell (p:=⟨w.heap.size + 3,1,none⟩) pz _).setCell (p:=⟨w.heap.size + 3,2,none⟩) pz _).setCell (p:=⟨w.heap.size + 3,3,none⟩) pz _).setCell (p:=⟨w.heap.size + 3,4,none⟩) pz _,zgr _ _⟩
 rw [zam hfr];have HFR:=zaa hfr;have hsec:=hfr.1.parts.1.1;clear hfr
 go_wp2_with fail
 refine (zlg p.sections a1 a2 p.switches.length p.ways.length c1 c2 _ _ op of lie _ hsl hwl hsec.1 hsec.2).mono ?_;clear b0 b1 b2 b3 b4 e0 e1 e2 e3 v0 v1 v2 r0 r1 r2 r3 r4 k0 k1 k2 k3 k4;rintro e w2 ⟨rfl,hb⟩;have T2:=T1.call hb;clear T1 hb;have b0:=T2.cell (j:=0) (i:=0) rfl rfl;have b1:=T2.cell (j:=0) (i:=1) rfl rfl;have b2:=T2.cell (j:=0) (i:=2) rfl rfl;have b3:=T2.cell (j:=0) (i:=3) rfl rfl;have b4:=T2.cell (j:=0) (i:=4) rfl rfl;have e0:=T2.cell (j:=1) (i:=0) rfl rfl;have e1:=T2.cell (j:=1) (i:=1) rfl rfl;have e2:=T2.cell (j:=1) (i:=2) rfl rfl;have e3:=T2.cell (j:=1) (i:=3) rfl rfl;have v0:=T2.cell (j:=2) (i:=0) rfl rfl;have v1:=T2.cell (j:=2) (i:=1) rfl rfl;have v2:=T2.cell (j:=2) (i:=2) rfl rfl;have r0:=T2.cell (j:=3) (i:=0) rfl rfl;have r1:=T2.cell (j:=3) (i:=1) rfl rfl;have r2:=T2.cell (j:=3) (i:=2) rfl rfl;have r3:=T2.cell (j:=3) (i:=3) rfl rfl;have r4:=T2.cell (j:=3) (i:=4) rfl rfl;have k0:=T2.frozen (j:=3) 0 rfl;have k1:=T2.frozen (j:=3) 1 rfl;have k2:=T2.frozen (j:=3) 2 rfl;have k3:=T2.frozen (j:=3) 3 rfl;have k4:=T2.frozen (j:=3) 4 rfl;rw [Nat.add_zero] at b0 b1 b2 b3 b4;by_cases hev:za5 p.sections p.switches.length p.ways.length op of lie
 case neg=>
  rw [zae hev];have HFR:=zaa (HNO.out fun z=>hev z.2);have HT:=zaa T2.below;clear hev T2;go_wp2;refine bodyPost_ret (v:=.agg #[.int .i64 1,.bool false,.slice none 0 0,.slice none 0 0,.slice none 0 0]) (by simp [results,Tryz.results21,go_sem,r0,r1,r2,r3,r4]) rfl ?_;rw [HFR.out]
  have pz:w.heap.size ≤ w.heap.size + 3:=by omega
  exact ⟨_,_,_,rfl,((((HT.out.setCell (p:=⟨w.heap.size + 3,0,none⟩) pz _).setCell (p:=⟨w.heap.size + 3,1,none⟩) pz _).setCell (p:=⟨w.heap.size + 3,2,none⟩) pz _).setCell (p:=⟨w.heap.size + 3,3,none⟩) pz _).setCell (p:=⟨w.heap.size + 3,4,none⟩) pz _,zgr _ _⟩
 rw [zam hev];have HEV:=zaa hev;have HDO:=zaa (show zq7 p d op of lie = doD p d op of lie from if_pos ⟨HFR.out,hev⟩);clear hev HNO r0 r1 r2 r3 r4 k0 k1 k2 k3 k4
 have hbeen:∀ g ∈ d.ways,0 < g.been.length:=fun g hg=>by
  obtain ⟨j,hj⟩:=List.getElem?_of_mem hg;have hjl:=(List.getElem?_eq_some_iff.1 hj).1;obtain ⟨x,hx⟩:=zac p.ways (zaa rfl) (show j < p.ways.length by have:=HFR.out.2.2.2.2.1; omega);obtain ⟨⟨-,hb,-⟩,-⟩:=HFR.out.2.2.2.2.2.2.1 j hjl x g hx hj;rw [hb];exact List.length_pos_iff.2 (HFR.out.1.way hx).1
 have hocc:0 < d.occ.length:=by have:=HFR.out.2.2.1; have:=hsec.1; omega
 go_wp2_with fail
 refine (zic d.ok _ _ _ d _ (KF.out _ T2.below) HD.out hocc hbeen).mono ?_;clear b0 b1 b2 b3 b4 e0 e1 e2 e3 v0 v1 v2 hbeen;rintro e w3 ⟨u1,u2,u3,bo,bp,bw,bb,rfl,hb3,hcopy⟩;have T3:=T2.call hb3;obtain ⟨fo,No,co,rfl,-⟩:=id hcopy.occ;obtain ⟨ap,cp,rfl,-⟩:=id hcopy.points;obtain ⟨aw,cw,rfl,-⟩:=id hcopy.ways;have hbn:=zab w3 (.cells #[.bool d.ok,.slice (some ⟨bo,0,none⟩) d.occ.length co,.slice ap d.points.length cp,.slice aw d.ways.length cw] 42);have T4:=T3.call hbn;have X4:=zaw w3 42 #[.bool d.ok,.slice (some ⟨bo,0,none⟩) d.occ.length co,.slice ap d.points.length cp,.slice aw d.ways.length cw];have hf4:=hcopy.but (K:=fun _=>True) (Q:=New w2 w3) (But.of_calls hbn) (fun _ _=>trivial) fun _ z=>z
 have hzP:∀ c,c < w2.heap.size ∨ w3.heap.size ≤ c → ¬ New w2 w3 c:=fun c hc hn=>by have:=hn.1; have:=hn.2; omega
 have hz2:w.heap.size + 3 < w2.heap.size:=T2.lt (j:=3) rfl;have hz23:=hb3.size
 go_upto_region 4 with fail
 obtain ⟨W4,hW4⟩:∃ W,W = w3.alloc (.cells #[.bool d.ok,.slice (some ⟨bo,0,none⟩) d.occ.length co,.slice ap d.points.length cp,.slice aw d.ways.length cw] 42):=⟨_,rfl⟩;rw [← hW4] at T4 X4 hf4 ⊢
 have hz4:W4.heap.size = w3.heap.size + 1:=by rw [hW4]; simp
 have HF4:=zaa hf4
 have hcell:∀ W,But (fun c=>¬ New w2 w3 c) W4 W → ((W.cell? ⟨w.heap.size,0,none⟩ = some (.int .i64 p.sections) ∧ W.cell? ⟨w.heap.size,1,none⟩ = some (.slice a1 p.switches.length c1) ∧ W.cell? ⟨w.heap.size,2,none⟩ = some (.slice a2 p.ways.length c2) ∧ W.cell? ⟨w.heap.size,3,none⟩ = some (.slice a3 p.bars.length c3) ∧ W.cell? ⟨w.heap.size,4,none⟩ = some (.int .i64 p.hold)) ∧
   (W.cell? ⟨w.heap.size + 1,0,none⟩ = some (.bool d.ok) ∧ W.cell? ⟨w.heap.size + 1,1,none⟩ = some (.slice o1 d.occ.length m1) ∧ W.cell? ⟨w.heap.size + 1,2,none⟩ = some (.slice o2 d.points.length m2) ∧ W.cell? ⟨w.heap.size + 1,3,none⟩ = some (.slice o3 d.ways.length m3)) ∧
   (W.cell? ⟨w.heap.size + 2,0,none⟩ = some (.int .i64 op) ∧ W.cell? ⟨w.heap.size + 2,1,none⟩ = some (.int .i64 of) ∧ W.cell? ⟨w.heap.size + 2,2,none⟩ = some (.int .i64 lie)) ∧
   (W.cell? ⟨w3.heap.size,0,none⟩ = some (.bool d.ok) ∧ W.cell? ⟨w3.heap.size,1,none⟩ = some (.slice (some ⟨bo,0,none⟩) d.occ.length co) ∧ W.cell? ⟨w3.heap.size,2,none⟩ = some (.slice ap d.points.length cp) ∧ W.cell? ⟨w3.heap.size,3,none⟩ = some (.slice aw d.ways.length cw)) ∧
   W.rowIs (w.heap.size + 3) 50 5 (fun i=>(#[.int .i64 0,.bool false,.slice none 0 0,.slice none 0 0,.slice none 0 0]:Array Value)[i]!) ∧ Below w.heap.size w W):=fun W hW=>by
  have q:∀ (j i:Nat) {t:TypeId} {c:Array Value} {v:Value},[(37,#[.int .i64 p.sections,.slice a1 p.switches.length c1,.slice a2 p.ways.length c2,.slice a3 p.bars.length c3,.int .i64 p.hold]),(42,#[.bool d.ok,.slice o1 d.occ.length m1,.slice o2 d.points.length m2,.slice o3 d.ways.length m3]),(52,#[.int .i64 op,.int .i64 of,.int .i64 lie]),(50,#[.int .i64 0,.bool false,.slice none 0 0,.slice none 0 0,.slice none 0 0])][j]? = some (t,c) → c[i]? = some v → W.cell? ⟨w.heap.size + j,i,none⟩ = some v:=fun j i t c v h1 h2=>hW.cell (T4.cell h1 h2) (hzP _ (.inl (by have:=T2.lt h1; omega)));have x:∀ (i:Nat) {v:Value},(#[.bool d.ok,.slice (some ⟨bo,0,none⟩) d.occ.length co,.slice ap d.points.length cp,.slice aw d.ways.length cw]:Array Value)[i]? = some v → W.cell? ⟨w3.heap.size,i,none⟩ = some v:=fun i v h2=>hW.cell (X4.cell (j:=0) rfl h2) (hzP _ (.inr (by omega)));exact ⟨⟨q 0 0 rfl rfl,q 0 1 rfl rfl,q 0 2 rfl rfl,q 0 3 rfl rfl,q 0 4 rfl rfl⟩,⟨q 1 0 rfl rfl,q 1 1 rfl rfl,q 1 2 rfl rfl,q 1 3 rfl rfl⟩,⟨q 2 0 rfl rfl,q 2 1 rfl rfl,q 2 2 rfl rfl⟩,⟨x 0 rfl,x 1 rfl,x 2 rfl,x 3 rfl⟩,hW.row (T4.row 3 _ _ rfl) (hzP _ (.inl (by omega))),T4.below.trans (hW.below T4.below.size fun c hc=>hzP c (.inl (by omega)))⟩
 have HCELL:=zaa hcell;have hfits:Fits p.ways d:=zd0 HFR.out.1 HFR.out.2.2.1 HFR.out.2.2.2.1 HFR.out.2.2.2.2.1 HFR.out.2.2.2.2.2.2.1;have HFIT0:=zaa hfits;have HFITS:=zaa fun (op of lie:Int)=>zlz hfits op of lie;have HZP:=zaa hzP;have hlw:d.ways.length = p.ways.length:=HFR.out.2.2.2.2.1;have HLW:=zaa hlw;have hlp:d.points.length = p.switches.length:=HFR.out.2.2.2.1;have HLP:=zaa hlp;have hw100:p.ways.length ≤ 100:=HFR.out.1.parts.1.2.2.1;clear hcell hfits hzP hW4 T2 T3 T4 X4 hcopy hf4 hbn hb3 hlw hlp;rcases HEV.out with ⟨h1,h2,rfl⟩ | ⟨h1,h2,rfl⟩ | ⟨rfl,h2,h3⟩ | ⟨rfl,h2,h3⟩ | ⟨rfl,rfl,rfl⟩
 ·rcases h1 with rfl | rfl
  ·obtain ⟨k,rfl⟩:∃ k:Nat,of = k:=⟨of.toNat,by have:=h2.1; omega⟩
   have hk:k < p.ways.length:=by have:=h2.2; omega
   obtain ⟨x,hx⟩:=zac p.ways (zaa rfl) hk;obtain ⟨h,hh⟩:=zac d.ways (zaa HLW.out) hk;have hq:=HCELL.out W4 (But.refl _ _);have v0:W4.cell? ⟨w.heap.size + 1 + 1,0,none⟩ = _:=hq.2.2.1.1;have v1:W4.cell? ⟨w.heap.size + 1 + 1,1,none⟩ = _:=hq.2.2.1.2.1;have v2:W4.cell? ⟨w.heap.size + 1 + 1,2,none⟩ = _:=hq.2.2.1.2.2;obtain ⟨⟨b0,b1,b2,b3,b4⟩,⟨e0,e1,e2,e3⟩,-⟩:=id hq
   go_wp2_with fail
   refine (zok _ _ _ _ _ _ p d k x h _ (KP.out _ hq.2.2.2.2.2) (KF.out _ hq.2.2.2.2.2) HS.out HD.out HFR.out hx hh).mono ?_;clear b0 b1 b2 b3 b4 e0 e1 e2 e3 v0 v1 v2;rintro e wV ⟨rfl,hbV⟩
   have hev:evD p d 1 (k:Int) 0 = zlx p d k x h:=by simp [evD,hx,hh]
   have hfw:=HF4.out.but (K:=fun _=>True) (Q:=New w2 w3) (But.of_calls hbV) (fun _ _=>trivial) fun _ z=>z;have hbw:But (fun c=>¬ New w2 w3 c) W4 wV:=But.of_calls hbV;obtain ⟨cd,hcd⟩:∃ c,zit p d k x h = c:=⟨_,rfl⟩;have HASK:=zaa (show zlx p d k x h = if cd = 0 then (0,{ d with points:=zav d.points (x.lies ++ x.flanks),ways:=d.ways.set k { h with state:=1 } }) else (cd,d) by unfold zlx; rw [hcd]);rw [hcd];have HEVD:=zaa hev;clear hcd hev;by_cases ec:cd = 0
   case neg=>
    have ec':(cd == 0) = false:=by simp [ec]
    have HEC:=zaa ec;clear ec hx hh hq HF4;have HQ:=zaa (HCELL.out _ hbw);have HSZ:=zaa hbw.size;have HX:=zaa (hfw.bound (Q:=fun c=>w2.heap.size ≤ c ∧ c ≠ w3.heap.size ∧ c < wV.heap.size) fun c h1 h2=>⟨h1.1,by have:=h1.2; omega,h2⟩);have HE:=zaa (show evD p d 1 (k:Int) 0 = (cd,d) by rw [HEVD.out,HASK.out,if_neg HEC.out]);have HFT:=zaa HFIT0.out;obtain ⟨⟨b0,b1,b2,b3,b4⟩,-⟩:=HQ.out;clear hfw hbw
    go_wp2_with fail
    refine (za8 _ (In w) _ _ _ _ _ _ _ _ _ _ p.ways bo _ bw w3.heap.size _ _ (HP.out.2.1.keep (za0 HQ.out.2.2.2.2.2 fun _ h=>h) fun _ h=>h) (fun c hc=>⟨Nat.lt_of_lt_of_le hc HQ.out.2.2.2.2.2.size,fun z=>absurd z.1 (by have:c < w.heap.size:=hc; omega)⟩) HQ.out.2.2.2.1.1 HQ.out.2.2.2.1.2.1 HQ.out.2.2.2.1.2.2.1 HQ.out.2.2.2.1.2.2.2 (fun z=>z.2.1 rfl) HX.out HFT.out fun c hc=>hc.2.2).mono ?_;clear b0 b1 b2 b3 b4;rintro e w5 ⟨rfl,bb5,hf5,hB5⟩;have c0:=hB5.cell HQ.out.2.2.2.1.1 (fun z=>z.2.1 rfl);have c1':=hB5.cell HQ.out.2.2.2.1.2.1 (fun z=>z.2.1 rfl);have c2':=hB5.cell HQ.out.2.2.2.1.2.2.1 (fun z=>z.2.1 rfl);have c3':=hB5.cell HQ.out.2.2.2.1.2.2.2 (fun z=>z.2.1 rfl);have rr:=hB5.row HQ.out.2.2.2.2.1 (fun z=>absurd z.1 (by omega));have r0:w5.cell? ⟨w.heap.size + 1 + 1 + 1,0,none⟩ = _:=rr.cell (i:=0) (by omega);have r1:w5.cell? ⟨w.heap.size + 1 + 1 + 1,1,none⟩ = _:=rr.cell (i:=1) (by omega);have r2:w5.cell? ⟨w.heap.size + 1 + 1 + 1,2,none⟩ = _:=rr.cell (i:=2) (by omega);have r3:w5.cell? ⟨w.heap.size + 1 + 1 + 1,3,none⟩ = _:=rr.cell (i:=3) (by omega);have r4:w5.cell? ⟨w.heap.size + 1 + 1 + 1,4,none⟩ = _:=rr.cell (i:=4) (by omega);have k0:w5.frozen? ⟨w.heap.size + 1 + 1 + 1,0,none⟩ = false:=rr.frozen 0;have k1:w5.frozen? ⟨w.heap.size + 1 + 1 + 1,1,none⟩ = false:=rr.frozen 1;have k2:w5.frozen? ⟨w.heap.size + 1 + 1 + 1,2,none⟩ = false:=rr.frozen 2;have k3:w5.frozen? ⟨w.heap.size + 1 + 1 + 1,3,none⟩ = false:=rr.frozen 3;have k4:w5.frozen? ⟨w.heap.size + 1 + 1 + 1,4,none⟩ = false:=rr.frozen 4;have HBL:=zaa (HQ.out.2.2.2.2.2.trans (hB5.below HQ.out.2.2.2.2.2.size fun c hc z=>absurd z.1 (by omega)));have HF5:=zaa hf5;clear hf5 hB5 rr;go_wp2;refine bodyPost_ret (v:=.agg #[.int .i64 (cd),.bool d.ok,.slice (some ⟨bo,0,none⟩) d.occ.length co,.slice (ap) d.points.length cp,.slice (aw) d.ways.length cw]) (by simp [results,Tryz.results21,go_sem,r0,r1,r2,r3,r4]) rfl ?_;rw [HDO.out];unfold doD;rw [HE.out]
    have pz:w.heap.size ≤ w.heap.size + 1 + 1 + 1:=by omega
    refine ⟨_,_,_,rfl,((((HBL.out.setCell (p:=⟨w.heap.size + 1 + 1 + 1,0,none⟩) pz _).setCell (p:=⟨w.heap.size + 1 + 1 + 1,1,none⟩) pz _).setCell (p:=⟨w.heap.size + 1 + 1 + 1,2,none⟩) pz _).setCell (p:=⟨w.heap.size + 1 + 1 + 1,3,none⟩) pz _).setCell (p:=⟨w.heap.size + 1 + 1 + 1,4,none⟩) pz _,.inl ⟨bo,bp,bw,bb5,?_⟩⟩;have hk9:∀ o:Nat,¬ ((fun c=>c ≠ w.heap.size + 1 + 1 + 1) (⟨w.heap.size + 1 + 1 + 1,o,none⟩:Addr).block):=fun o z=>z rfl;have hsz9:=HSZ.out;refine HF5.out.but (Q:=fun c=>w.heap.size + 1 ≤ c) ((((((But.refl (fun c=>c ≠ w.heap.size + 1 + 1 + 1) w5).setCell (hk9 0) _).setCell (hk9 1) _).setCell (hk9 2) _).setCell (hk9 3) _).setCell (hk9 4) _) (fun c hc=>?_) fun c hc=>?_
    ·rcases hc with z | z
     ·have:=z.1; omega
     ·have:=z.1; omega
    ·rcases hc with z | z
     ·have:=z.1; omega
     ·have:=z.1; omega
   subst ec;have hwo:=HFR.out.1.way hx;have hqV:=HCELL.out _ hbw
   have HSET:=zaa (zoj (New w2 w3) (In w) (.int .i64 p.sections) (.int .i64 p.hold) (.bool d.ok) (.slice a1 p.switches.length c1) _ (.slice a3 p.bars.length c3) _ _ _ d p.ways k x h bo bp bw w3.heap.size bb wV (HP.out.2.1.keep (za0 hqV.2.2.2.2.2 fun _ h=>h) fun _ h=>h) (fun c hc=>⟨Nat.lt_of_lt_of_le hc hqV.2.2.2.2.2.size,HZP.out c (.inl (by have:c < w.heap.size:=hc; omega))⟩) hqV.2.2.2.1.1 hqV.2.2.2.1.2.2.1 hqV.2.2.2.1.2.2.2 (HZP.out _ (.inr (Nat.le_refl _))) hfw hx hh (fun c hc=>by have:=hc.2; have:=hbV.size; omega) hwo.small (fun y hy=>by
    rw [HLP.out];rcases hy with hy | hy
    ·exact hwo.2.2.2.2.1.mem hy
    ·exact hwo.2.2.2.2.2.1.mem hy) hw100 (by have:=HLW.out; omega) (by have:=HLP.out; omega))
   obtain ⟨⟨b0,b1,b2,b3,b4⟩,-,⟨v0,v1,v2⟩,-⟩:=id hqV;have v1':wV.cell? ⟨w.heap.size + 1 + 1,1,none⟩ = _:=v1;have HBV:=zaa hbw;clear hfw hwo hq HF4 hqV hbw v0 v1 v2 hx hh
   go_wp2_with fail
   refine HSET.out.mono ?_;clear b0 b1 b2 b3 b4 v1' HSET;rintro e wU ⟨rfl,bbU,hfu,hbu⟩;have hbw:=HBV.out.trans hbu;have HQ:=zaa (HCELL.out _ hbw);have HSZ:=zaa hbw.size;have HX:=zaa (hfu.bound (Q:=fun c=>w2.heap.size ≤ c ∧ c ≠ w3.heap.size ∧ c < wU.heap.size) fun c h1 h2=>⟨h1.1,by have:=h1.2; omega,h2⟩);have HE:=zaa (show evD p d 1 (k:Int) 0 = (0,{ d with points:=zav d.points (x.lies ++ x.flanks),ways:=d.ways.set k { h with state:=1 } }) by rw [HEVD.out,HASK.out]; first | exact if_pos rfl | exact if_pos trivial);have HFT:=zaa (show Fits p.ways { d with points:=zav d.points (x.lies ++ x.flanks),ways:=d.ways.set k { h with state:=1 } } by have:=HFITS.out 1 (k:Int) 0; rw [HE.out] at this; exact this);obtain ⟨⟨b0,b1,b2,b3,b4⟩,-⟩:=HQ.out;clear hfu hbu hbw
   go_wp2_with fail
   refine (za8 _ (In w) _ _ _ _ _ _ _ _ _ _ p.ways bo _ bw w3.heap.size _ _ (HP.out.2.1.keep (za0 HQ.out.2.2.2.2.2 fun _ h=>h) fun _ h=>h) (fun c hc=>⟨Nat.lt_of_lt_of_le hc HQ.out.2.2.2.2.2.size,fun z=>absurd z.1 (by have:c < w.heap.size:=hc; omega)⟩) HQ.out.2.2.2.1.1 HQ.out.2.2.2.1.2.1 HQ.out.2.2.2.1.2.2.1 HQ.out.2.2.2.1.2.2.2 (fun z=>z.2.1 rfl) HX.out HFT.out fun c hc=>hc.2.2).mono ?_;clear b0 b1 b2 b3 b4;rintro e w5 ⟨rfl,bb5,hf5,hB5⟩;have c0:=hB5.cell HQ.out.2.2.2.1.1 (fun z=>z.2.1 rfl);have c1':=hB5.cell HQ.out.2.2.2.1.2.1 (fun z=>z.2.1 rfl);have c2':=hB5.cell HQ.out.2.2.2.1.2.2.1 (fun z=>z.2.1 rfl);have c3':=hB5.cell HQ.out.2.2.2.1.2.2.2 (fun z=>z.2.1 rfl);have rr:=hB5.row HQ.out.2.2.2.2.1 (fun z=>absurd z.1 (by omega));have r0:w5.cell? ⟨w.heap.size + 1 + 1 + 1,0,none⟩ = _:=rr.cell (i:=0) (by omega);have r1:w5.cell? ⟨w.heap.size + 1 + 1 + 1,1,none⟩ = _:=rr.cell (i:=1) (by omega);have r2:w5.cell? ⟨w.heap.size + 1 + 1 + 1,2,none⟩ = _:=rr.cell (i:=2) (by omega);have r3:w5.cell? ⟨w.heap.size + 1 + 1 + 1,3,none⟩ = _:=rr.cell (i:=3) (by omega);have r4:w5.cell? ⟨w.heap.size + 1 + 1 + 1,4,none⟩ = _:=rr.cell (i:=4) (by omega);have k0:w5.frozen? ⟨w.heap.size + 1 + 1 + 1,0,none⟩ = false:=rr.frozen 0;have k1:w5.frozen? ⟨w.heap.size + 1 + 1 + 1,1,none⟩ = false:=rr.frozen 1;have k2:w5.frozen? ⟨w.heap.size + 1 + 1 + 1,2,none⟩ = false:=rr.frozen 2;have k3:w5.frozen? ⟨w.heap.size + 1 + 1 + 1,3,none⟩ = false:=rr.frozen 3;have k4:w5.frozen? ⟨w.heap.size + 1 + 1 + 1,4,none⟩ = false:=rr.frozen 4;have HBL:=zaa (HQ.out.2.2.2.2.2.trans (hB5.below HQ.out.2.2.2.2.2.size fun c hc z=>absurd z.1 (by omega)));have HF5:=zaa hf5;clear hf5 hB5 rr;go_wp2;refine bodyPost_ret (v:=.agg #[.int .i64 (0),.bool d.ok,.slice (some ⟨bo,0,none⟩) d.occ.length co,.slice (ap) d.points.length cp,.slice (aw) d.ways.length cw]) (by simp [results,Tryz.results21,go_sem,r0,r1,r2,r3,r4]) rfl ?_;rw [HDO.out];unfold doD;rw [HE.out]
   have pz:w.heap.size ≤ w.heap.size + 1 + 1 + 1:=by omega
   refine ⟨_,_,_,rfl,((((HBL.out.setCell (p:=⟨w.heap.size + 1 + 1 + 1,0,none⟩) pz _).setCell (p:=⟨w.heap.size + 1 + 1 + 1,1,none⟩) pz _).setCell (p:=⟨w.heap.size + 1 + 1 + 1,2,none⟩) pz _).setCell (p:=⟨w.heap.size + 1 + 1 + 1,3,none⟩) pz _).setCell (p:=⟨w.heap.size + 1 + 1 + 1,4,none⟩) pz _,.inl ⟨bo,bp,bw,bb5,?_⟩⟩;have hk9:∀ o:Nat,¬ ((fun c=>c ≠ w.heap.size + 1 + 1 + 1) (⟨w.heap.size + 1 + 1 + 1,o,none⟩:Addr).block):=fun o z=>z rfl;have hsz9:=HSZ.out;refine HF5.out.but (Q:=fun c=>w.heap.size + 1 ≤ c) ((((((But.refl (fun c=>c ≠ w.heap.size + 1 + 1 + 1) w5).setCell (hk9 0) _).setCell (hk9 1) _).setCell (hk9 2) _).setCell (hk9 3) _).setCell (hk9 4) _) (fun c hc=>?_) fun c hc=>?_
   ·rcases hc with z | z
    ·have:=z.1; omega
    ·have:=z.1; omega
   ·rcases hc with z | z
    ·have:=z.1; omega
    ·have:=z.1; omega
  ·obtain ⟨k,rfl⟩:∃ k:Nat,of = k:=⟨of.toNat,by have:=h2.1; omega⟩
   have hk:k < p.ways.length:=by have:=h2.2; omega
   obtain ⟨x,hx⟩:=zac p.ways (zaa rfl) hk;obtain ⟨h,hh⟩:=zac d.ways (zaa HLW.out) hk;have hq:=HCELL.out W4 (But.refl _ _);have v0:W4.cell? ⟨w.heap.size + 1 + 1,0,none⟩ = _:=hq.2.2.1.1;have v1:W4.cell? ⟨w.heap.size + 1 + 1,1,none⟩ = _:=hq.2.2.1.2.1;have v2:W4.cell? ⟨w.heap.size + 1 + 1,2,none⟩ = _:=hq.2.2.1.2.2;have hwo:=HFR.out.1.way hx;have HBK:=zaa (zm2 (New w2 w3) (In w) (.int .i64 p.sections) (.bool d.ok) (.slice a1 p.switches.length c1) _ (.slice a3 p.bars.length c3) _ _ _ p d k x h bo bp bw w3.heap.size bb W4 (HP.out.2.1.keep (za0 hq.2.2.2.2.2 fun _ h=>h) fun _ h=>h) (fun c hc=>⟨Nat.lt_of_lt_of_le hc hq.2.2.2.2.2.size,HZP.out c (.inl (by have:c < w.heap.size:=hc; omega))⟩) hq.2.2.2.1.1 hq.2.2.2.1.2.1 hq.2.2.2.1.2.2.2 HF4.out hx hh hwo.small (fun s hs=>by rw [HFR.out.2.2.1]; exact hwo.2.2.2.1.mem hs) (HD.out.2.2.2 h (List.mem_of_getElem? hh)) hw100 (by have:=HLW.out; omega) HD.out.1)
   have hev:evD p d 2 (k:Int) 0 = zc0 p d k x h:=by simp [evD,hx,hh]
   have HEVD:=zaa hev;obtain ⟨⟨b0,b1,b2,b3,b4⟩,-⟩:=id hq;clear hev hwo hq hx hh HF4
   go_wp2_with fail
   refine HBK.out.mono ?_;clear b0 b1 b2 b3 b4 HBK;rintro e wU ⟨rfl,bbU,hfu,hbu⟩;obtain ⟨cd,DX,hbd⟩:∃ c D,zc0 p d k x h = (c,D):=⟨_,_,rfl⟩;rw [hbd] at hfu ⊢;have HQ:=zaa (HCELL.out _ hbu);have HSZ:=zaa hbu.size
   have HX:=zaa (hfu.bound (Q:=fun c=>w2.heap.size ≤ c ∧ c ≠ w3.heap.size ∧ c < wU.heap.size) fun c h1 h2=>by
    rcases h1 with z | z
    ·exact ⟨z.1,by have:=z.2; omega,h2⟩
    ·exact ⟨by have:=z.1; omega,by have:=z.1; omega,h2⟩)
   have HE:=zaa (show evD p d 2 (k:Int) 0 = (cd,DX) by rw [HEVD.out,hbd]);have HFT:=zaa (show Fits p.ways DX by have:=HFITS.out 2 (k:Int) 0; rw [HE.out] at this; exact this)
   have hok:DX.ok = d.ok:=by
    have:(zc0 p d k x h).2.ok = d.ok:=by unfold zc0; split <;> rfl
    rw [hbd] at this;exact this
   have HOK:=zaa hok;obtain ⟨⟨b0,b1,b2,b3,b4⟩,-⟩:=HQ.out;clear hfu hbu hbd hok
   go_wp2_with fail
   refine (za8 _ (In w) _ _ _ _ _ _ _ _ _ _ p.ways bo _ bw w3.heap.size _ _ (HP.out.2.1.keep (za0 HQ.out.2.2.2.2.2 fun _ h=>h) fun _ h=>h) (fun c hc=>⟨Nat.lt_of_lt_of_le hc HQ.out.2.2.2.2.2.size,fun z=>absurd z.1 (by have:c < w.heap.size:=hc; omega)⟩) HQ.out.2.2.2.1.1 HQ.out.2.2.2.1.2.1 HQ.out.2.2.2.1.2.2.1 HQ.out.2.2.2.1.2.2.2 (fun z=>z.2.1 rfl) HX.out HFT.out fun c hc=>hc.2.2).mono ?_;clear b0 b1 b2 b3 b4;rintro e w5 ⟨rfl,bb5,hf5,hB5⟩;have c0:=hB5.cell HQ.out.2.2.2.1.1 (fun z=>z.2.1 rfl);have c1':=hB5.cell HQ.out.2.2.2.1.2.1 (fun z=>z.2.1 rfl);have c2':=hB5.cell HQ.out.2.2.2.1.2.2.1 (fun z=>z.2.1 rfl);have c3':=hB5.cell HQ.out.2.2.2.1.2.2.2 (fun z=>z.2.1 rfl);have rr:=hB5.row HQ.out.2.2.2.2.1 (fun z=>absurd z.1 (by omega));have r0:w5.cell? ⟨w.heap.size + 1 + 1 + 1,0,none⟩ = _:=rr.cell (i:=0) (by omega);have r1:w5.cell? ⟨w.heap.size + 1 + 1 + 1,1,none⟩ = _:=rr.cell (i:=1) (by omega);have r2:w5.cell? ⟨w.heap.size + 1 + 1 + 1,2,none⟩ = _:=rr.cell (i:=2) (by omega);have r3:w5.cell? ⟨w.heap.size + 1 + 1 + 1,3,none⟩ = _:=rr.cell (i:=3) (by omega);have r4:w5.cell? ⟨w.heap.size + 1 + 1 + 1,4,none⟩ = _:=rr.cell (i:=4) (by omega);have k0:w5.frozen? ⟨w.heap.size + 1 + 1 + 1,0,none⟩ = false:=rr.frozen 0;have k1:w5.frozen? ⟨w.heap.size + 1 + 1 + 1,1,none⟩ = false:=rr.frozen 1;have k2:w5.frozen? ⟨w.heap.size + 1 + 1 + 1,2,none⟩ = false:=rr.frozen 2;have k3:w5.frozen? ⟨w.heap.size + 1 + 1 + 1,3,none⟩ = false:=rr.frozen 3;have k4:w5.frozen? ⟨w.heap.size + 1 + 1 + 1,4,none⟩ = false:=rr.frozen 4;have HBL:=zaa (HQ.out.2.2.2.2.2.trans (hB5.below HQ.out.2.2.2.2.2.size fun c hc z=>absurd z.1 (by omega)));have HF5:=zaa hf5;clear hf5 hB5 rr;go_wp2;refine bodyPost_ret (v:=.agg #[.int .i64 (cd),.bool d.ok,.slice (some ⟨bo,0,none⟩) d.occ.length co,.slice (ap) d.points.length cp,.slice (aw) d.ways.length cw]) (by simp [results,Tryz.results21,go_sem,r0,r1,r2,r3,r4]) rfl ?_;rw [HDO.out];unfold doD;rw [HE.out]
   have pz:w.heap.size ≤ w.heap.size + 1 + 1 + 1:=by omega
   refine ⟨_,_,_,by rw [show (zbu p.ways DX).ok = d.ok from HOK.out],((((HBL.out.setCell (p:=⟨w.heap.size + 1 + 1 + 1,0,none⟩) pz _).setCell (p:=⟨w.heap.size + 1 + 1 + 1,1,none⟩) pz _).setCell (p:=⟨w.heap.size + 1 + 1 + 1,2,none⟩) pz _).setCell (p:=⟨w.heap.size + 1 + 1 + 1,3,none⟩) pz _).setCell (p:=⟨w.heap.size + 1 + 1 + 1,4,none⟩) pz _,.inl ⟨bo,bp,bw,bb5,?_⟩⟩;have hk9:∀ o:Nat,¬ ((fun c=>c ≠ w.heap.size + 1 + 1 + 1) (⟨w.heap.size + 1 + 1 + 1,o,none⟩:Addr).block):=fun o z=>z rfl;have hsz9:=HSZ.out;refine HF5.out.but (Q:=fun c=>w.heap.size + 1 ≤ c) ((((((But.refl (fun c=>c ≠ w.heap.size + 1 + 1 + 1) w5).setCell (hk9 0) _).setCell (hk9 1) _).setCell (hk9 2) _).setCell (hk9 3) _).setCell (hk9 4) _) (fun c hc=>?_) fun c hc=>?_
   ·rcases hc with z | z
    ·have:=z.1; omega
    ·have:=z.1; omega
   ·rcases hc with z | z
    ·have:=z.1; omega
    ·have:=z.1; omega
 ·rcases h1 with rfl | rfl
  ·obtain ⟨k,rfl⟩:∃ k:Nat,of = k:=⟨of.toNat,by have:=h2.1; omega⟩
   have hk:k < d.occ.length:=by have:=h2.2; have:=HFR.out.2.2.1; omega
   obtain ⟨o,ho⟩:=zac d.occ (zaa rfl) hk;obtain ⟨cq,e1,g0,z0⟩:=HF4.out.occ.cells ho
   cases e1
   have hq:=HCELL.out W4 (But.refl _ _);have v0:W4.cell? ⟨w.heap.size + 1 + 1,0,none⟩ = _:=hq.2.2.1.1;have v1:W4.cell? ⟨w.heap.size + 1 + 1,1,none⟩ = _:=hq.2.2.1.2.1;have v2:W4.cell? ⟨w.heap.size + 1 + 1,2,none⟩ = _:=hq.2.2.1.2.2;have c1':=hq.2.2.2.1.2.1;obtain ⟨hfx,hbx⟩:=HF4.out.putOcc hk true;have HQ:=zaa (HCELL.out _ hbx);have HSZ:=zaa hbx.size;have HX:=zaa (hfx.bound (Q:=fun c=>w2.heap.size ≤ c ∧ c ≠ w3.heap.size ∧ c < (W4.setCell ⟨bo,k,none⟩ (.bool true)).heap.size) fun c h1 h2=>⟨h1.1,by have:=h1.2; omega,h2⟩);have HE:=zaa (show evD p d 3 (k:Int) 0 = (0,{ d with occ:=d.occ.set k true }) by simp [evD]);have HFT:=zaa (show Fits p.ways { d with occ:=d.occ.set k true } by have:=HFITS.out 3 (k:Int) 0; rw [HE.out] at this; exact this);obtain ⟨⟨b0,b1,b2,b3,b4⟩,-⟩:=HQ.out
   have hkd:(k:Int) < (d.occ.length:Int):=by omega
   clear hfx hbx hq ho HF4
   go_wp2_with fail
   refine (za8 _ (In w) _ _ _ _ _ _ _ _ _ _ p.ways bo _ bw w3.heap.size _ _ (HP.out.2.1.keep (za0 HQ.out.2.2.2.2.2 fun _ h=>h) fun _ h=>h) (fun c hc=>⟨Nat.lt_of_lt_of_le hc HQ.out.2.2.2.2.2.size,fun z=>absurd z.1 (by have:c < w.heap.size:=hc; omega)⟩) HQ.out.2.2.2.1.1 HQ.out.2.2.2.1.2.1 HQ.out.2.2.2.1.2.2.1 HQ.out.2.2.2.1.2.2.2 (fun z=>z.2.1 rfl) HX.out HFT.out fun c hc=>hc.2.2).mono ?_;clear b0 b1 b2 b3 b4;rintro e w5 ⟨rfl,bb5,hf5,hB5⟩;have c0:=hB5.cell HQ.out.2.2.2.1.1 (fun z=>z.2.1 rfl);have c1':=hB5.cell HQ.out.2.2.2.1.2.1 (fun z=>z.2.1 rfl);have c2':=hB5.cell HQ.out.2.2.2.1.2.2.1 (fun z=>z.2.1 rfl);have c3':=hB5.cell HQ.out.2.2.2.1.2.2.2 (fun z=>z.2.1 rfl);have rr:=hB5.row HQ.out.2.2.2.2.1 (fun z=>absurd z.1 (by omega));have r0:w5.cell? ⟨w.heap.size + 1 + 1 + 1,0,none⟩ = _:=rr.cell (i:=0) (by omega);have r1:w5.cell? ⟨w.heap.size + 1 + 1 + 1,1,none⟩ = _:=rr.cell (i:=1) (by omega);have r2:w5.cell? ⟨w.heap.size + 1 + 1 + 1,2,none⟩ = _:=rr.cell (i:=2) (by omega);have r3:w5.cell? ⟨w.heap.size + 1 + 1 + 1,3,none⟩ = _:=rr.cell (i:=3) (by omega);have r4:w5.cell? ⟨w.heap.size + 1 + 1 + 1,4,none⟩ = _:=rr.cell (i:=4) (by omega);have k0:w5.frozen? ⟨w.heap.size + 1 + 1 + 1,0,none⟩ = false:=rr.frozen 0;have k1:w5.frozen? ⟨w.heap.size + 1 + 1 + 1,1,none⟩ = false:=rr.frozen 1;have k2:w5.frozen? ⟨w.heap.size + 1 + 1 + 1,2,none⟩ = false:=rr.frozen 2;have k3:w5.frozen? ⟨w.heap.size + 1 + 1 + 1,3,none⟩ = false:=rr.frozen 3;have k4:w5.frozen? ⟨w.heap.size + 1 + 1 + 1,4,none⟩ = false:=rr.frozen 4;have HBL:=zaa (HQ.out.2.2.2.2.2.trans (hB5.below HQ.out.2.2.2.2.2.size fun c hc z=>absurd z.1 (by omega)));have HF5:=zaa hf5;clear hf5 hB5 rr;go_wp2;refine bodyPost_ret (v:=.agg #[.int .i64 (0),.bool d.ok,.slice (some ⟨bo,0,none⟩) d.occ.length co,.slice (ap) d.points.length cp,.slice (aw) d.ways.length cw]) (by simp [results,Tryz.results21,go_sem,r0,r1,r2,r3,r4]) rfl ?_;rw [HDO.out];unfold doD;rw [HE.out]
   have pz:w.heap.size ≤ w.heap.size + 1 + 1 + 1:=by omega
   refine ⟨_,_,_,rfl,((((HBL.out.setCell (p:=⟨w.heap.size + 1 + 1 + 1,0,none⟩) pz _).setCell (p:=⟨w.heap.size + 1 + 1 + 1,1,none⟩) pz _).setCell (p:=⟨w.heap.size + 1 + 1 + 1,2,none⟩) pz _).setCell (p:=⟨w.heap.size + 1 + 1 + 1,3,none⟩) pz _).setCell (p:=⟨w.heap.size + 1 + 1 + 1,4,none⟩) pz _,.inl ⟨bo,bp,bw,bb5,?_⟩⟩;have hk9:∀ o:Nat,¬ ((fun c=>c ≠ w.heap.size + 1 + 1 + 1) (⟨w.heap.size + 1 + 1 + 1,o,none⟩:Addr).block):=fun o z=>z rfl;have hsz9:=HSZ.out;refine HF5.out.but (Q:=fun c=>w.heap.size + 1 ≤ c) ((((((But.refl (fun c=>c ≠ w.heap.size + 1 + 1 + 1) w5).setCell (hk9 0) _).setCell (hk9 1) _).setCell (hk9 2) _).setCell (hk9 3) _).setCell (hk9 4) _) (fun c hc=>?_) fun c hc=>?_
   ·rcases hc with z | z
    ·have:=z.1; omega
    ·have:=z.1; omega
   ·rcases hc with z | z
    ·have:=z.1; omega
    ·have:=z.1; omega
  ·obtain ⟨k,rfl⟩:∃ k:Nat,of = k:=⟨of.toNat,by have:=h2.1; omega⟩
   have hk:k < d.occ.length:=by have:=h2.2; have:=HFR.out.2.2.1; omega
   obtain ⟨o,ho⟩:=zac d.occ (zaa rfl) hk;obtain ⟨cq,e1,g0,z0⟩:=HF4.out.occ.cells ho
   cases e1
   have hq:=HCELL.out W4 (But.refl _ _);have v0:W4.cell? ⟨w.heap.size + 1 + 1,0,none⟩ = _:=hq.2.2.1.1;have v1:W4.cell? ⟨w.heap.size + 1 + 1,1,none⟩ = _:=hq.2.2.1.2.1;have v2:W4.cell? ⟨w.heap.size + 1 + 1,2,none⟩ = _:=hq.2.2.1.2.2;have c1':=hq.2.2.2.1.2.1;obtain ⟨hfx,hbx⟩:=HF4.out.putOcc hk false;have HQ:=zaa (HCELL.out _ hbx);have HSZ:=zaa hbx.size;have HX:=zaa (hfx.bound (Q:=fun c=>w2.heap.size ≤ c ∧ c ≠ w3.heap.size ∧ c < (W4.setCell ⟨bo,k,none⟩ (.bool false)).heap.size) fun c h1 h2=>⟨h1.1,by have:=h1.2; omega,h2⟩);have HE:=zaa (show evD p d 4 (k:Int) 0 = (0,{ d with occ:=d.occ.set k false }) by simp [evD]);have HFT:=zaa (show Fits p.ways { d with occ:=d.occ.set k false } by have:=HFITS.out 4 (k:Int) 0; rw [HE.out] at this; exact this);obtain ⟨⟨b0,b1,b2,b3,b4⟩,-⟩:=HQ.out
   have hkd:(k:Int) < (d.occ.length:Int):=by omega
   clear hfx hbx hq ho HF4
   go_wp2_with fail
   refine (za8 _ (In w) _ _ _ _ _ _ _ _ _ _ p.ways bo _ bw w3.heap.size _ _ (HP.out.2.1.keep (za0 HQ.out.2.2.2.2.2 fun _ h=>h) fun _ h=>h) (fun c hc=>⟨Nat.lt_of_lt_of_le hc HQ.out.2.2.2.2.2.size,fun z=>absurd z.1 (by have:c < w.heap.size:=hc; omega)⟩) HQ.out.2.2.2.1.1 HQ.out.2.2.2.1.2.1 HQ.out.2.2.2.1.2.2.1 HQ.out.2.2.2.1.2.2.2 (fun z=>z.2.1 rfl) HX.out HFT.out fun c hc=>hc.2.2).mono ?_;clear b0 b1 b2 b3 b4;rintro e w5 ⟨rfl,bb5,hf5,hB5⟩;have c0:=hB5.cell HQ.out.2.2.2.1.1 (fun z=>z.2.1 rfl);have c1':=hB5.cell HQ.out.2.2.2.1.2.1 (fun z=>z.2.1 rfl);have c2':=hB5.cell HQ.out.2.2.2.1.2.2.1 (fun z=>z.2.1 rfl);have c3':=hB5.cell HQ.out.2.2.2.1.2.2.2 (fun z=>z.2.1 rfl);have rr:=hB5.row HQ.out.2.2.2.2.1 (fun z=>absurd z.1 (by omega));have r0:w5.cell? ⟨w.heap.size + 1 + 1 + 1,0,none⟩ = _:=rr.cell (i:=0) (by omega);have r1:w5.cell? ⟨w.heap.size + 1 + 1 + 1,1,none⟩ = _:=rr.cell (i:=1) (by omega);have r2:w5.cell? ⟨w.heap.size + 1 + 1 + 1,2,none⟩ = _:=rr.cell (i:=2) (by omega);have r3:w5.cell? ⟨w.heap.size + 1 + 1 + 1,3,none⟩ = _:=rr.cell (i:=3) (by omega);have r4:w5.cell? ⟨w.heap.size + 1 + 1 + 1,4,none⟩ = _:=rr.cell (i:=4) (by omega);have k0:w5.frozen? ⟨w.heap.size + 1 + 1 + 1,0,none⟩ = false:=rr.frozen 0;have k1:w5.frozen? ⟨w.heap.size + 1 + 1 + 1,1,none⟩ = false:=rr.frozen 1;have k2:w5.frozen? ⟨w.heap.size + 1 + 1 + 1,2,none⟩ = false:=rr.frozen 2;have k3:w5.frozen? ⟨w.heap.size + 1 + 1 + 1,3,none⟩ = false:=rr.frozen 3;have k4:w5.frozen? ⟨w.heap.size + 1 + 1 + 1,4,none⟩ = false:=rr.frozen 4;have HBL:=zaa (HQ.out.2.2.2.2.2.trans (hB5.below HQ.out.2.2.2.2.2.size fun c hc z=>absurd z.1 (by omega)));have HF5:=zaa hf5;clear hf5 hB5 rr;go_wp2;refine bodyPost_ret (v:=.agg #[.int .i64 (0),.bool d.ok,.slice (some ⟨bo,0,none⟩) d.occ.length co,.slice (ap) d.points.length cp,.slice (aw) d.ways.length cw]) (by simp [results,Tryz.results21,go_sem,r0,r1,r2,r3,r4]) rfl ?_;rw [HDO.out];unfold doD;rw [HE.out]
   have pz:w.heap.size ≤ w.heap.size + 1 + 1 + 1:=by omega
   refine ⟨_,_,_,rfl,((((HBL.out.setCell (p:=⟨w.heap.size + 1 + 1 + 1,0,none⟩) pz _).setCell (p:=⟨w.heap.size + 1 + 1 + 1,1,none⟩) pz _).setCell (p:=⟨w.heap.size + 1 + 1 + 1,2,none⟩) pz _).setCell (p:=⟨w.heap.size + 1 + 1 + 1,3,none⟩) pz _).setCell (p:=⟨w.heap.size + 1 + 1 + 1,4,none⟩) pz _,.inl ⟨bo,bp,bw,bb5,?_⟩⟩;have hk9:∀ o:Nat,¬ ((fun c=>c ≠ w.heap.size + 1 + 1 + 1) (⟨w.heap.size + 1 + 1 + 1,o,none⟩:Addr).block):=fun o z=>z rfl;have hsz9:=HSZ.out;refine HF5.out.but (Q:=fun c=>w.heap.size + 1 ≤ c) ((((((But.refl (fun c=>c ≠ w.heap.size + 1 + 1 + 1) w5).setCell (hk9 0) _).setCell (hk9 1) _).setCell (hk9 2) _).setCell (hk9 3) _).setCell (hk9 4) _) (fun c hc=>?_) fun c hc=>?_
   ·rcases hc with z | z
    ·have:=z.1; omega
    ·have:=z.1; omega
   ·rcases hc with z | z
    ·have:=z.1; omega
    ·have:=z.1; omega
 ·obtain ⟨k,rfl⟩:∃ k:Nat,of = k:=⟨of.toNat,by have:=h2.1; omega⟩
  have hk:k < p.switches.length:=by have:=h2.2; omega
  obtain ⟨pt,hpt⟩:=zac d.points (zaa HLP.out) hk;obtain ⟨cq,e1,g0,g1,z0,z1⟩:=HF4.out.points.cells hpt
  cases e1
  have hfx:=HF4.out.put hpt 1 (by omega) lie
  have hput:zdg d.points k (fun pt=>(pt.1,lie)) = d.points.set k (if 1 = 0 then (lie,pt.2) else (pt.1,lie)):=by rw [zc7 _ hpt]; rfl
  obtain ⟨hfx,hbx⟩:=hfx;rw [← hput] at hfx;have HQ:=zaa (HCELL.out _ hbx);have HSZ:=zaa hbx.size;have HX:=zaa (hfx.bound (Q:=fun c=>w2.heap.size ≤ c ∧ c ≠ w3.heap.size ∧ c < (W4.setCell ⟨bp,k * 2 + 1,none⟩ (.int .i64 lie)).heap.size) fun c h1 h2=>⟨h1.1,by have:=h1.2; omega,h2⟩);have HE:=zaa (show evD p d 5 (k:Int) lie = (0,{ d with points:=zdg d.points k fun pt=>(pt.1,lie) }) by simp [evD]);have HFT:=zaa (show Fits p.ways { d with points:=zdg d.points k fun pt=>(pt.1,lie) } by have:=HFITS.out 5 (k:Int) lie; rw [HE.out] at this; exact this);have hq:=HCELL.out W4 (But.refl _ _);have v0:W4.cell? ⟨w.heap.size + 1 + 1,0,none⟩ = _:=hq.2.2.1.1;have v1:W4.cell? ⟨w.heap.size + 1 + 1,1,none⟩ = _:=hq.2.2.1.2.1;have v2:W4.cell? ⟨w.heap.size + 1 + 1,2,none⟩ = _:=hq.2.2.1.2.2;have c2':=hq.2.2.2.1.2.2.1;obtain ⟨⟨b0,b1,b2,b3,b4⟩,-⟩:=HQ.out
  have hkd:(k:Int) < (d.points.length:Int):=by have:=HLP.out; omega
  have hpl:d.points.length ≤ 1048576:=by have:=HLP.out; omega
  clear hfx hbx hq hpt HF4 hput
  go_wp2_with fail
  refine (za8 _ (In w) _ _ _ _ _ _ _ _ _ _ p.ways bo _ bw w3.heap.size _ _ (HP.out.2.1.keep (za0 HQ.out.2.2.2.2.2 fun _ h=>h) fun _ h=>h) (fun c hc=>⟨Nat.lt_of_lt_of_le hc HQ.out.2.2.2.2.2.size,fun z=>absurd z.1 (by have:c < w.heap.size:=hc; omega)⟩) HQ.out.2.2.2.1.1 HQ.out.2.2.2.1.2.1 HQ.out.2.2.2.1.2.2.1 HQ.out.2.2.2.1.2.2.2 (fun z=>z.2.1 rfl) HX.out HFT.out fun c hc=>hc.2.2).mono ?_;clear b0 b1 b2 b3 b4;rintro e w5 ⟨rfl,bb5,hf5,hB5⟩;have c0:=hB5.cell HQ.out.2.2.2.1.1 (fun z=>z.2.1 rfl);have c1':=hB5.cell HQ.out.2.2.2.1.2.1 (fun z=>z.2.1 rfl);have c2':=hB5.cell HQ.out.2.2.2.1.2.2.1 (fun z=>z.2.1 rfl);have c3':=hB5.cell HQ.out.2.2.2.1.2.2.2 (fun z=>z.2.1 rfl);have rr:=hB5.row HQ.out.2.2.2.2.1 (fun z=>absurd z.1 (by omega));have r0:w5.cell? ⟨w.heap.size + 1 + 1 + 1,0,none⟩ = _:=rr.cell (i:=0) (by omega);have r1:w5.cell? ⟨w.heap.size + 1 + 1 + 1,1,none⟩ = _:=rr.cell (i:=1) (by omega);have r2:w5.cell? ⟨w.heap.size + 1 + 1 + 1,2,none⟩ = _:=rr.cell (i:=2) (by omega);have r3:w5.cell? ⟨w.heap.size + 1 + 1 + 1,3,none⟩ = _:=rr.cell (i:=3) (by omega);have r4:w5.cell? ⟨w.heap.size + 1 + 1 + 1,4,none⟩ = _:=rr.cell (i:=4) (by omega);have k0:w5.frozen? ⟨w.heap.size + 1 + 1 + 1,0,none⟩ = false:=rr.frozen 0;have k1:w5.frozen? ⟨w.heap.size + 1 + 1 + 1,1,none⟩ = false:=rr.frozen 1;have k2:w5.frozen? ⟨w.heap.size + 1 + 1 + 1,2,none⟩ = false:=rr.frozen 2;have k3:w5.frozen? ⟨w.heap.size + 1 + 1 + 1,3,none⟩ = false:=rr.frozen 3;have k4:w5.frozen? ⟨w.heap.size + 1 + 1 + 1,4,none⟩ = false:=rr.frozen 4;have HBL:=zaa (HQ.out.2.2.2.2.2.trans (hB5.below HQ.out.2.2.2.2.2.size fun c hc z=>absurd z.1 (by omega)));have HF5:=zaa hf5;clear hf5 hB5 rr;go_wp2;refine bodyPost_ret (v:=.agg #[.int .i64 (0),.bool d.ok,.slice (some ⟨bo,0,none⟩) d.occ.length co,.slice (some ⟨bp,0,none⟩) d.points.length cp,.slice (aw) d.ways.length cw]) (by simp [results,Tryz.results21,go_sem,r0,r1,r2,r3,r4]) rfl ?_;rw [HDO.out];unfold doD;rw [HE.out]
  have pz:w.heap.size ≤ w.heap.size + 1 + 1 + 1:=by omega
  refine ⟨_,_,_,rfl,((((HBL.out.setCell (p:=⟨w.heap.size + 1 + 1 + 1,0,none⟩) pz _).setCell (p:=⟨w.heap.size + 1 + 1 + 1,1,none⟩) pz _).setCell (p:=⟨w.heap.size + 1 + 1 + 1,2,none⟩) pz _).setCell (p:=⟨w.heap.size + 1 + 1 + 1,3,none⟩) pz _).setCell (p:=⟨w.heap.size + 1 + 1 + 1,4,none⟩) pz _,.inl ⟨bo,bp,bw,bb5,?_⟩⟩;have hk9:∀ o:Nat,¬ ((fun c=>c ≠ w.heap.size + 1 + 1 + 1) (⟨w.heap.size + 1 + 1 + 1,o,none⟩:Addr).block):=fun o z=>z rfl;have hsz9:=HSZ.out;refine HF5.out.but (Q:=fun c=>w.heap.size + 1 ≤ c) ((((((But.refl (fun c=>c ≠ w.heap.size + 1 + 1 + 1) w5).setCell (hk9 0) _).setCell (hk9 1) _).setCell (hk9 2) _).setCell (hk9 3) _).setCell (hk9 4) _) (fun c hc=>?_) fun c hc=>?_
  ·rcases hc with z | z
   ·have:=z.1; omega
   ·have:=z.1; omega
  ·rcases hc with z | z
   ·have:=z.1; omega
   ·have:=z.1; omega
 ·obtain ⟨k,rfl⟩:∃ k:Nat,of = k:=⟨of.toNat,by have:=h2.1; omega⟩
  have hk:k < p.switches.length:=by have:=h2.2; omega
  have hq:=HCELL.out W4 (But.refl _ _);have v0:W4.cell? ⟨w.heap.size + 1 + 1,0,none⟩ = _:=hq.2.2.1.1;have v1:W4.cell? ⟨w.heap.size + 1 + 1,1,none⟩ = _:=hq.2.2.1.2.1;have v2:W4.cell? ⟨w.heap.size + 1 + 1,2,none⟩ = _:=hq.2.2.1.2.2;obtain ⟨⟨b0,b1,b2,b3,b4⟩,⟨e0,e1,e2,e3⟩,-⟩:=id hq
  have HPT:=zaa (zg7 (.int .i64 p.sections) (.int .i64 p.hold) (.bool d.ok) _ _ (.slice a3 p.bars.length c3) (.slice o1 d.occ.length m1) (.slice o2 d.points.length m2) _ p d k W4 (KP.out _ hq.2.2.2.2.2).1 (KP.out _ hq.2.2.2.2.2).2.1 (KF.out _ hq.2.2.2.2.2).2.2 HLW.out HS.out (fun q g hg=>by
   obtain ⟨z,hz⟩:=zac p.ways (zaa rfl) (show q < p.ways.length by have:=(List.getElem?_eq_some_iff.1 hg).1; have:=HLW.out; omega)
   exact (zfv HFR.out hz hg).1) hk)
  clear hq
  go_wp2_with fail
  refine HPT.out.mono ?_;clear b0 b1 b2 b3 b4 e0 e1 e2 e3 v0 v1 v2 HPT;rintro e wV ⟨vp,rfl,hbV,mp,hop⟩
  have hmp:mp = (zbn p d (k:Int)).length:=by have:=hop.1; rw [zbt] at this; omega
  obtain ⟨apq,cpq,rfl⟩:=zag hop;have hfw:=HF4.out.but (K:=fun _=>True) (Q:=New w2 w3) (But.of_calls hbV) (fun _ _=>trivial) fun _ z=>z;have hbw:But (fun c=>¬ New w2 w3 c) W4 wV:=But.of_calls hbV
  have hev:evD p d 6 (k:Int) lie = zen p d k lie:=by simp [evD]
  have HEVD:=zaa hev;have HMP:=zaa hmp;clear hev hop hmp hbV HF4;by_cases hm:0 < mp
  case pos=>
   have hm':(0:Int) < (mp:Int):=by omega
   have HM:=zaa hm;clear hm;have HQ:=zaa (HCELL.out _ hbw);have HSZ:=zaa hbw.size;have HX:=zaa (hfw.bound (Q:=fun c=>w2.heap.size ≤ c ∧ c ≠ w3.heap.size ∧ c < wV.heap.size) fun c h1 h2=>⟨h1.1,by have:=h1.2; omega,h2⟩);have HE:=zaa (show evD p d 6 (k:Int) lie = (2,d) by rw [HEVD.out]; unfold zen; rw [if_pos (by rw [← HMP.out]; exact HM.out)]);have HFT:=zaa HFIT0.out;obtain ⟨⟨b0,b1,b2,b3,b4⟩,-⟩:=HQ.out;clear hfw hbw
   go_wp2_with fail
   refine (za8 _ (In w) _ _ _ _ _ _ _ _ _ _ p.ways bo _ bw w3.heap.size _ _ (HP.out.2.1.keep (za0 HQ.out.2.2.2.2.2 fun _ h=>h) fun _ h=>h) (fun c hc=>⟨Nat.lt_of_lt_of_le hc HQ.out.2.2.2.2.2.size,fun z=>absurd z.1 (by have:c < w.heap.size:=hc; omega)⟩) HQ.out.2.2.2.1.1 HQ.out.2.2.2.1.2.1 HQ.out.2.2.2.1.2.2.1 HQ.out.2.2.2.1.2.2.2 (fun z=>z.2.1 rfl) HX.out HFT.out fun c hc=>hc.2.2).mono ?_;clear b0 b1 b2 b3 b4;rintro e w5 ⟨rfl,bb5,hf5,hB5⟩;have c0:=hB5.cell HQ.out.2.2.2.1.1 (fun z=>z.2.1 rfl);have c1':=hB5.cell HQ.out.2.2.2.1.2.1 (fun z=>z.2.1 rfl);have c2':=hB5.cell HQ.out.2.2.2.1.2.2.1 (fun z=>z.2.1 rfl);have c3':=hB5.cell HQ.out.2.2.2.1.2.2.2 (fun z=>z.2.1 rfl);have rr:=hB5.row HQ.out.2.2.2.2.1 (fun z=>absurd z.1 (by omega));have r0:w5.cell? ⟨w.heap.size + 1 + 1 + 1,0,none⟩ = _:=rr.cell (i:=0) (by omega);have r1:w5.cell? ⟨w.heap.size + 1 + 1 + 1,1,none⟩ = _:=rr.cell (i:=1) (by omega);have r2:w5.cell? ⟨w.heap.size + 1 + 1 + 1,2,none⟩ = _:=rr.cell (i:=2) (by omega);have r3:w5.cell? ⟨w.heap.size + 1 + 1 + 1,3,none⟩ = _:=rr.cell (i:=3) (by omega);have r4:w5.cell? ⟨w.heap.size + 1 + 1 + 1,4,none⟩ = _:=rr.cell (i:=4) (by omega);have k0:w5.frozen? ⟨w.heap.size + 1 + 1 + 1,0,none⟩ = false:=rr.frozen 0;have k1:w5.frozen? ⟨w.heap.size + 1 + 1 + 1,1,none⟩ = false:=rr.frozen 1;have k2:w5.frozen? ⟨w.heap.size + 1 + 1 + 1,2,none⟩ = false:=rr.frozen 2;have k3:w5.frozen? ⟨w.heap.size + 1 + 1 + 1,3,none⟩ = false:=rr.frozen 3;have k4:w5.frozen? ⟨w.heap.size + 1 + 1 + 1,4,none⟩ = false:=rr.frozen 4;have HBL:=zaa (HQ.out.2.2.2.2.2.trans (hB5.below HQ.out.2.2.2.2.2.size fun c hc z=>absurd z.1 (by omega)));have HF5:=zaa hf5;clear hf5 hB5 rr;go_wp2;refine bodyPost_ret (v:=.agg #[.int .i64 (2),.bool d.ok,.slice (some ⟨bo,0,none⟩) d.occ.length co,.slice (ap) d.points.length cp,.slice (aw) d.ways.length cw]) (by simp [results,Tryz.results21,go_sem,r0,r1,r2,r3,r4]) rfl ?_;rw [HDO.out];unfold doD;rw [HE.out]
   have pz:w.heap.size ≤ w.heap.size + 1 + 1 + 1:=by omega
   refine ⟨_,_,_,rfl,((((HBL.out.setCell (p:=⟨w.heap.size + 1 + 1 + 1,0,none⟩) pz _).setCell (p:=⟨w.heap.size + 1 + 1 + 1,1,none⟩) pz _).setCell (p:=⟨w.heap.size + 1 + 1 + 1,2,none⟩) pz _).setCell (p:=⟨w.heap.size + 1 + 1 + 1,3,none⟩) pz _).setCell (p:=⟨w.heap.size + 1 + 1 + 1,4,none⟩) pz _,.inl ⟨bo,bp,bw,bb5,?_⟩⟩;have hk9:∀ o:Nat,¬ ((fun c=>c ≠ w.heap.size + 1 + 1 + 1) (⟨w.heap.size + 1 + 1 + 1,o,none⟩:Addr).block):=fun o z=>z rfl;have hsz9:=HSZ.out;refine HF5.out.but (Q:=fun c=>w.heap.size + 1 ≤ c) ((((((But.refl (fun c=>c ≠ w.heap.size + 1 + 1 + 1) w5).setCell (hk9 0) _).setCell (hk9 1) _).setCell (hk9 2) _).setCell (hk9 3) _).setCell (hk9 4) _) (fun c hc=>?_) fun c hc=>?_
   ·rcases hc with z | z
    ·have:=z.1; omega
    ·have:=z.1; omega
   ·rcases hc with z | z
    ·have:=z.1; omega
    ·have:=z.1; omega
  obtain rfl:mp = 0:=by omega
  obtain ⟨sq,hsq⟩:=zac p.switches (zaa rfl) hk;have hsr:InR sq 0 (p.sections - 1):=Classical.byContradiction fun e=>HFR.out.1.parts.2.1 k ⟨sq,hsq,e⟩;obtain ⟨sn,rfl⟩:∃ t:Nat,sq = t:=⟨sq.toNat,by have:=hsr.1; omega⟩
  have hsn:sn < d.occ.length:=by have:=hsr.2; have:=HFR.out.2.2.1; omega
  obtain ⟨o,ho⟩:=zac d.occ (zaa rfl) hsn
  have hgo:za1 d.occ (p.switches.getD k 0) = o:=by
   rw [List.getD_eq_getElem?_getD,hsq];unfold za1;show (match d.occ[((sn:Int)).toNat]? with | some b=>b | none=>false) = o;rw [show ((sn:Int)).toNat = sn by simp,ho]
  have HMV:=zaa (show zen p d k lie = if o = true then (3,d) else (0,{ d with points:=zdg d.points k fun pt=>(lie,pt.2) }) by unfold zen; rw [if_neg (by rw [← HMP.out]; omega),hgo]);have hqV:=HCELL.out _ hbw;obtain ⟨⟨-,x1,-⟩,⟨-,y1,-⟩,⟨-,v1,v2⟩,-⟩:=id hqV;have v1':wV.cell? ⟨w.heap.size + 1 + 1,1,none⟩ = some (.int .i64 (k:Int)):=v1;obtain ⟨bs,os,cs,e5,-,gs⟩:=zje (KP.out _ hqV.2.2.2.2.2).1 hsq;obtain ⟨bq,oo,cq,e4,-,go⟩:=zdz (KF.out _ hqV.2.2.2.2.2).1 ho
  cases e4
  cases e5
  have hfw':=hfw.but (K:=fun _=>True) (Q:=New w2 w3) (But.of_calls (zaf _)) (fun _ _=>trivial) fun _ z=>z;have hbw':=hbw.call (zaf _)
  have hks:(k:Int) < (p.switches.length:Int):=by omega
  have hk0:(0:Int) ≤ (k:Int):=Int.natCast_nonneg _
  have hso:(sn:Int) < (d.occ.length:Int):=by omega
  have hs00:(0:Int) ≤ (sn:Int):=Int.natCast_nonneg _;have HFW:=zaa hfw';have HBW:=zaa hbw';clear hfw hbw hfw' hbw' hqV hsr ho hsq hgo hm
  go_wp2_with fail
  go_region_held3 (fun w'=>w'.cell? ⟨w.heap.size + 1,1,none⟩ = some (.slice (some ⟨bq,oo,none⟩) d.occ.length m1) ∧ w'.cell? ⟨w.heap.size,1,none⟩ = some (.slice (some ⟨bs,os,none⟩) p.switches.length c1) ∧ w'.cell? ⟨w.heap.size + 1 + 1,1,none⟩ = some (.int .i64 (k:Int)) ∧ w'.cell? ⟨bs,os + k,none⟩ = some (.int .i64 (sn:Int)) ∧ w'.cell? ⟨bq,oo + sn,none⟩ = some (.bool o)) (go_keep) (fail)
  obtain ⟨W6,hW6⟩:∃ W,W = wV.drew:=⟨_,rfl⟩;rw [← hW6] at HFW HBW ⊢;clear hW6 x1 y1 v1 v2 v1' gs go
  cases o
  case true=>
   have hfw:=HFW.out;have hbw:=HBW.out;have HQ:=zaa (HCELL.out _ hbw);have HSZ:=zaa hbw.size;have HX:=zaa (hfw.bound (Q:=fun c=>w2.heap.size ≤ c ∧ c ≠ w3.heap.size ∧ c < W6.heap.size) fun c h1 h2=>⟨h1.1,by have:=h1.2; omega,h2⟩);have HE:=zaa (show evD p d 6 (k:Int) lie = (3,d) by rw [HEVD.out,HMV.out]; rfl);have HFT:=zaa HFIT0.out;obtain ⟨⟨b0,b1,b2,b3,b4⟩,-⟩:=HQ.out;clear hfw hbw
   go_wp2_with fail
   refine (za8 _ (In w) _ _ _ _ _ _ _ _ _ _ p.ways bo _ bw w3.heap.size _ _ (HP.out.2.1.keep (za0 HQ.out.2.2.2.2.2 fun _ h=>h) fun _ h=>h) (fun c hc=>⟨Nat.lt_of_lt_of_le hc HQ.out.2.2.2.2.2.size,fun z=>absurd z.1 (by have:c < w.heap.size:=hc; omega)⟩) HQ.out.2.2.2.1.1 HQ.out.2.2.2.1.2.1 HQ.out.2.2.2.1.2.2.1 HQ.out.2.2.2.1.2.2.2 (fun z=>z.2.1 rfl) HX.out HFT.out fun c hc=>hc.2.2).mono ?_;clear b0 b1 b2 b3 b4;rintro e w5 ⟨rfl,bb5,hf5,hB5⟩;have c0:=hB5.cell HQ.out.2.2.2.1.1 (fun z=>z.2.1 rfl);have c1':=hB5.cell HQ.out.2.2.2.1.2.1 (fun z=>z.2.1 rfl);have c2':=hB5.cell HQ.out.2.2.2.1.2.2.1 (fun z=>z.2.1 rfl);have c3':=hB5.cell HQ.out.2.2.2.1.2.2.2 (fun z=>z.2.1 rfl);have rr:=hB5.row HQ.out.2.2.2.2.1 (fun z=>absurd z.1 (by omega));have r0:w5.cell? ⟨w.heap.size + 1 + 1 + 1,0,none⟩ = _:=rr.cell (i:=0) (by omega);have r1:w5.cell? ⟨w.heap.size + 1 + 1 + 1,1,none⟩ = _:=rr.cell (i:=1) (by omega);have r2:w5.cell? ⟨w.heap.size + 1 + 1 + 1,2,none⟩ = _:=rr.cell (i:=2) (by omega);have r3:w5.cell? ⟨w.heap.size + 1 + 1 + 1,3,none⟩ = _:=rr.cell (i:=3) (by omega);have r4:w5.cell? ⟨w.heap.size + 1 + 1 + 1,4,none⟩ = _:=rr.cell (i:=4) (by omega);have k0:w5.frozen? ⟨w.heap.size + 1 + 1 + 1,0,none⟩ = false:=rr.frozen 0;have k1:w5.frozen? ⟨w.heap.size + 1 + 1 + 1,1,none⟩ = false:=rr.frozen 1;have k2:w5.frozen? ⟨w.heap.size + 1 + 1 + 1,2,none⟩ = false:=rr.frozen 2;have k3:w5.frozen? ⟨w.heap.size + 1 + 1 + 1,3,none⟩ = false:=rr.frozen 3;have k4:w5.frozen? ⟨w.heap.size + 1 + 1 + 1,4,none⟩ = false:=rr.frozen 4;have HBL:=zaa (HQ.out.2.2.2.2.2.trans (hB5.below HQ.out.2.2.2.2.2.size fun c hc z=>absurd z.1 (by omega)));have HF5:=zaa hf5;clear hf5 hB5 rr;go_wp2;refine bodyPost_ret (v:=.agg #[.int .i64 (3),.bool d.ok,.slice (some ⟨bo,0,none⟩) d.occ.length co,.slice (ap) d.points.length cp,.slice (aw) d.ways.length cw]) (by simp [results,Tryz.results21,go_sem,r0,r1,r2,r3,r4]) rfl ?_;rw [HDO.out];unfold doD;rw [HE.out]
   have pz:w.heap.size ≤ w.heap.size + 1 + 1 + 1:=by omega
   refine ⟨_,_,_,rfl,((((HBL.out.setCell (p:=⟨w.heap.size + 1 + 1 + 1,0,none⟩) pz _).setCell (p:=⟨w.heap.size + 1 + 1 + 1,1,none⟩) pz _).setCell (p:=⟨w.heap.size + 1 + 1 + 1,2,none⟩) pz _).setCell (p:=⟨w.heap.size + 1 + 1 + 1,3,none⟩) pz _).setCell (p:=⟨w.heap.size + 1 + 1 + 1,4,none⟩) pz _,.inl ⟨bo,bp,bw,bb5,?_⟩⟩;have hk9:∀ o:Nat,¬ ((fun c=>c ≠ w.heap.size + 1 + 1 + 1) (⟨w.heap.size + 1 + 1 + 1,o,none⟩:Addr).block):=fun o z=>z rfl;have hsz9:=HSZ.out;refine HF5.out.but (Q:=fun c=>w.heap.size + 1 ≤ c) ((((((But.refl (fun c=>c ≠ w.heap.size + 1 + 1 + 1) w5).setCell (hk9 0) _).setCell (hk9 1) _).setCell (hk9 2) _).setCell (hk9 3) _).setCell (hk9 4) _) (fun c hc=>?_) fun c hc=>?_
   ·rcases hc with z | z
    ·have:=z.1; omega
    ·have:=z.1; omega
   ·rcases hc with z | z
    ·have:=z.1; omega
    ·have:=z.1; omega
  obtain ⟨pt,hpt⟩:=zac d.points (zaa HLP.out) hk;obtain ⟨cq2,e1,g0,g1,z0,z1⟩:=HFW.out.points.cells hpt
  cases e1
  have hfx:=HFW.out.put hpt 0 (by omega) lie
  have hput:zdg d.points k (fun pt=>(lie,pt.2)) = d.points.set k (if 0 = 0 then (lie,pt.2) else (pt.1,lie)):=by rw [zc7 _ hpt]; rfl
  obtain ⟨hfx,hbx⟩:=hfx;rw [← hput] at hfx;simp only [Nat.add_zero] at hfx hbx;have hbw:=HBW.out.trans hbx;have HQ:=zaa (HCELL.out _ hbw);have HSZ:=zaa hbw.size;have HX:=zaa (hfx.bound (Q:=fun c=>w2.heap.size ≤ c ∧ c ≠ w3.heap.size ∧ c < (W6.setCell ⟨bp,k * 2,none⟩ (.int .i64 lie)).heap.size) fun c h1 h2=>⟨h1.1,by have:=h1.2; omega,h2⟩);have HE:=zaa (show evD p d 6 (k:Int) lie = (0,{ d with points:=zdg d.points k fun pt=>(lie,pt.2) }) by rw [HEVD.out,HMV.out]; rfl);have HFT:=zaa (show Fits p.ways { d with points:=zdg d.points k fun pt=>(lie,pt.2) } by have:=HFITS.out 6 (k:Int) lie; rw [HE.out] at this; exact this);have hqD:=HCELL.out _ HBW.out;have c2':=hqD.2.2.2.1.2.2.1;have v1d:W6.cell? ⟨w.heap.size + 1 + 1,1,none⟩ = some (.int .i64 (k:Int)):=hqD.2.2.1.2.1;have v2d:W6.cell? ⟨w.heap.size + 1 + 1,2,none⟩ = some (.int .i64 lie):=hqD.2.2.1.2.2;obtain ⟨⟨b0,b1,b2,b3,b4⟩,-⟩:=HQ.out
  have hkd:(k:Int) < (d.points.length:Int):=by have:=HLP.out; omega
  have hpl:d.points.length ≤ 1048576:=by have:=HLP.out; omega
  clear hfx hbx hbw hpt hput hqD
  go_wp2_with fail
  refine (za8 _ (In w) _ _ _ _ _ _ _ _ _ _ p.ways bo _ bw w3.heap.size _ _ (HP.out.2.1.keep (za0 HQ.out.2.2.2.2.2 fun _ h=>h) fun _ h=>h) (fun c hc=>⟨Nat.lt_of_lt_of_le hc HQ.out.2.2.2.2.2.size,fun z=>absurd z.1 (by have:c < w.heap.size:=hc; omega)⟩) HQ.out.2.2.2.1.1 HQ.out.2.2.2.1.2.1 HQ.out.2.2.2.1.2.2.1 HQ.out.2.2.2.1.2.2.2 (fun z=>z.2.1 rfl) HX.out HFT.out fun c hc=>hc.2.2).mono ?_;clear b0 b1 b2 b3 b4;rintro e w5 ⟨rfl,bb5,hf5,hB5⟩;have c0:=hB5.cell HQ.out.2.2.2.1.1 (fun z=>z.2.1 rfl);have c1':=hB5.cell HQ.out.2.2.2.1.2.1 (fun z=>z.2.1 rfl);have c2':=hB5.cell HQ.out.2.2.2.1.2.2.1 (fun z=>z.2.1 rfl);have c3':=hB5.cell HQ.out.2.2.2.1.2.2.2 (fun z=>z.2.1 rfl);have rr:=hB5.row HQ.out.2.2.2.2.1 (fun z=>absurd z.1 (by omega));have r0:w5.cell? ⟨w.heap.size + 1 + 1 + 1,0,none⟩ = _:=rr.cell (i:=0) (by omega);have r1:w5.cell? ⟨w.heap.size + 1 + 1 + 1,1,none⟩ = _:=rr.cell (i:=1) (by omega);have r2:w5.cell? ⟨w.heap.size + 1 + 1 + 1,2,none⟩ = _:=rr.cell (i:=2) (by omega);have r3:w5.cell? ⟨w.heap.size + 1 + 1 + 1,3,none⟩ = _:=rr.cell (i:=3) (by omega);have r4:w5.cell? ⟨w.heap.size + 1 + 1 + 1,4,none⟩ = _:=rr.cell (i:=4) (by omega);have k0:w5.frozen? ⟨w.heap.size + 1 + 1 + 1,0,none⟩ = false:=rr.frozen 0;have k1:w5.frozen? ⟨w.heap.size + 1 + 1 + 1,1,none⟩ = false:=rr.frozen 1;have k2:w5.frozen? ⟨w.heap.size + 1 + 1 + 1,2,none⟩ = false:=rr.frozen 2;have k3:w5.frozen? ⟨w.heap.size + 1 + 1 + 1,3,none⟩ = false:=rr.frozen 3;have k4:w5.frozen? ⟨w.heap.size + 1 + 1 + 1,4,none⟩ = false:=rr.frozen 4;have HBL:=zaa (HQ.out.2.2.2.2.2.trans (hB5.below HQ.out.2.2.2.2.2.size fun c hc z=>absurd z.1 (by omega)));have HF5:=zaa hf5;clear hf5 hB5 rr;go_wp2;refine bodyPost_ret (v:=.agg #[.int .i64 (0),.bool d.ok,.slice (some ⟨bo,0,none⟩) d.occ.length co,.slice (some ⟨bp,0,none⟩) d.points.length cp,.slice (aw) d.ways.length cw]) (by simp [results,Tryz.results21,go_sem,r0,r1,r2,r3,r4]) rfl ?_;rw [HDO.out];unfold doD;rw [HE.out]
  have pz:w.heap.size ≤ w.heap.size + 1 + 1 + 1:=by omega
  refine ⟨_,_,_,rfl,((((HBL.out.setCell (p:=⟨w.heap.size + 1 + 1 + 1,0,none⟩) pz _).setCell (p:=⟨w.heap.size + 1 + 1 + 1,1,none⟩) pz _).setCell (p:=⟨w.heap.size + 1 + 1 + 1,2,none⟩) pz _).setCell (p:=⟨w.heap.size + 1 + 1 + 1,3,none⟩) pz _).setCell (p:=⟨w.heap.size + 1 + 1 + 1,4,none⟩) pz _,.inl ⟨bo,bp,bw,bb5,?_⟩⟩;have hk9:∀ o:Nat,¬ ((fun c=>c ≠ w.heap.size + 1 + 1 + 1) (⟨w.heap.size + 1 + 1 + 1,o,none⟩:Addr).block):=fun o z=>z rfl;have hsz9:=HSZ.out;refine HF5.out.but (Q:=fun c=>w.heap.size + 1 ≤ c) ((((((But.refl (fun c=>c ≠ w.heap.size + 1 + 1 + 1) w5).setCell (hk9 0) _).setCell (hk9 1) _).setCell (hk9 2) _).setCell (hk9 3) _).setCell (hk9 4) _) (fun c hc=>?_) fun c hc=>?_
  ·rcases hc with z | z
   ·have:=z.1; omega
   ·have:=z.1; omega
  ·rcases hc with z | z
   ·have:=z.1; omega
   ·have:=z.1; omega
 ·have hbeen:∀ g ∈ d.ways,g.been.length ≤ 1048576:=HD.out.2.2.2;have hq:=HCELL.out W4 (But.refl _ _);have v0:W4.cell? ⟨w.heap.size + 1 + 1,0,none⟩ = _:=hq.2.2.1.1;have v1:W4.cell? ⟨w.heap.size + 1 + 1,1,none⟩ = _:=hq.2.2.1.2.1;have v2:W4.cell? ⟨w.heap.size + 1 + 1,2,none⟩ = _:=hq.2.2.1.2.2;have c3':=hq.2.2.2.1.2.2.2;have hft:OFrame (fun c=>w2.heap.size ≤ c ∧ c ≠ w3.heap.size) W4 (.slice (some ⟨bo,0,none⟩) d.occ.length co) (.slice ap d.points.length cp) (.slice aw d.ways.length cw) d bo bp bw bb:=HF4.out.but (K:=fun _=>True) (But.refl _ _) (fun _ _=>trivial) fun c hc=>⟨hc.1,by have:=hc.2; omega⟩;have HFTK:=zaa hft;have HBEEN:=zaa hbeen
  have hdw:d.ways.length ≤ 100:=by have:=HLW.out; omega
  have hpt:∀ W,But (fun c=>¬ (w2.heap.size ≤ c ∧ c ≠ w3.heap.size)) W4 W → But (fun c=>¬ New w2 w3 c) W4 W:=fun W hW=>hW.mono fun c hc hn hz=>hn ⟨hz.1,by have:=hz.2; omega⟩;have HPTB:=zaa hpt;clear hbeen hft hpt hq HF4;go_wp2;clear v0 v1 v2 c3'
  go_loopw [101] (fun z wr=>∃ (i:Nat),i ≤ d.ways.length ∧ z = .int .i64 i ∧ TickR (fun c=>w2.heap.size ≤ c ∧ c ≠ w3.heap.size) W4 (.slice (some ⟨bo,0,none⟩) d.occ.length co) (.slice ap d.points.length cp) (.slice aw d.ways.length cw) d bo bp bw i wr) (fun z _=>d.ways.length - (intOf z).toNat)
  case atStart=>exact ⟨0,Nat.zero_le _,rfl,d.ways,bb,rfl,fun j h hj=>by omega,fun _ _=>rfl,HFTK.out,But.refl _ _⟩
  case round=>
   obtain ⟨i,hi,rfl,htk⟩:=hrel;rename World=>wV;by_cases hlt:i < d.ways.length
   ·obtain ⟨h,hh⟩:=zac d.ways (zaa rfl) hlt;obtain ⟨cur,bbV,hcl,hc1,hc2,hfv,hbv⟩:=htk
    have hcur:cur[i]? = some h:=by rw [hc2 i (Nat.le_refl _)]; exact hh
    obtain ⟨cq,fw,Nw,ecq,hrw,hNw,how⟩:=hfv.ways.cells hcur;have ecq2:(Value.slice aw d.ways.length cw) = .slice (some ⟨bw,0,none⟩) d.ways.length cq:=ecq.trans (by show Value.slice _ cur.length _ = _; rw [hcl])
    cases ecq2
    have c3':=(HCELL.out _ (HPTB.out _ hbv)).2.2.2.1.2.2.2;have S0:=hrw.cell (i:=i * 5) (by omega);have S4:=hrw.cell (i:=i * 5 + 4) (by omega);have Z4:=hrw.frozen (i * 5 + 4);rw [how.1] at S0;rw [how.2.2.2.2] at S4
    have hlt':(i:Int) < (d.ways.length:Int):=by omega
    have HCL:=zaa hcl;have HC1:=zaa hc1;have HC2:=zaa hc2;have HFV:=zaa hfv;have HBV:=zaa hbv;have HH:=zaa hh;have HCU:=zaa hcur;have hb30:=HBEEN.out h (List.mem_of_getElem? hh);have HRW:=zaa hrw;have HO2:=zaa how.2.2.1;clear hcl hc1 hc2 hfv hbv hh hcur hrw how HFTK ecq;by_cases e3:h.state = 3
    case neg=>
     have e3':(h.state != 3) = true:=by simp [e3]
     have HT:=zaa (show za7 h = h from if_neg e3);clear e3;go_wp2;go_roundw
     case rel=>
      refine ⟨i + 1,by omega,by go_num,TickR.next (bb:=bbV) HCL.out HC1.out HC2.out HH.out ?_ HBV.out (But.refl _ _)⟩
      rw [HT.out,show cur.set i h = cur from by
       apply List.ext_getElem?;intro j;by_cases e:i = j
       ·subst e; rw [List.getElem?_set_self (by have:=HCL.out; omega),HCU.out]
       ·rw [List.getElem?_set_ne e]]
      exact HFV.out
     case measure=>simp [intOf]; omega
    have e3':(h.state != 3) = false:=by simp [e3]
    obtain ⟨bbT,hft,hbt⟩:=HFV.out.putTimer HCU.out (h.timer - 1);have hrT:=HRW.out.set (i * 5 + 4) (.int .i64 (h.timer - 1))
    have S4':(wV.setCell ⟨bw,i * 5 + 4,none⟩ (.int .i64 (h.timer - 1))).cell? ⟨bw,i * 5 + 4,none⟩ = some (.int .i64 (h.timer - 1)):=by rw [hrT.cell (by omega),if_pos rfl]
    have HFTT:=zaa hft;have HBTT:=zaa hbt;have HRT:=zaa hrT
    have htm:1 ≤ h.timer ∧ h.timer ≤ 300:=by
     obtain ⟨x,hx⟩:=zac p.ways (zaa rfl) (show i < p.ways.length by have:=HLW.out; omega);have:=(HFR.out.2.2.2.2.2.2.1 i hlt x h hx HH.out).1.2.2.2.2.2.1 e3;have h300:=HFR.out.1.parts.1.2.2.2.2;exact ⟨this.2.1,by have:=this.2.2; omega⟩
    by_cases e0:h.timer - 1 = 0
    case neg=>
     have e0':(h.timer - 1 == 0) = false:=by simp [e0]
     have HT:=zaa (show za7 h = { h with timer:=h.timer - 1 } by unfold za7; rw [if_pos e3,if_neg e0]);clear e0 e3 hft hbt hrT;go_wp2;go_roundw
     case rel=>exact ⟨i + 1,by omega,by go_num,TickR.next (bb:=bbT) HCL.out HC1.out HC2.out HH.out (by rw [HT.out]; exact HFTT.out) HBV.out HBTT.out⟩
     case measure=>simp [intOf]; omega
    have e0':(h.timer - 1 == 0) = true:=by simp [e0]
    have HT:=zaa (show za7 h = zc3 h.been.length by unfold za7; rw [if_pos e3,if_pos e0]);obtain ⟨fb2,Nb2,cb2,eb2,-⟩:=id HO2.out
    have HB2:Hid ((fun j=>if j = i * 5 + 4 then Value.int .i64 (h.timer - 1) else fw j) (i * 5 + 2) = .slice (some ⟨bbV i,0,none⟩) h.been.length cb2):=by
     show (if i * 5 + 2 = i * 5 + 4 then _ else _) = _;rw [if_neg (by omega)];exact eb2
    clear e0 e3 hft hbt hrT eb2
    go_wp2_with fail
    refine (zfx bw Nw i _ _ h.been.length cb2 _ HRT.out hNw HB2.out hb30).mono ?_;rintro e wU ⟨rfl,hst2⟩;obtain ⟨bbU,hfu,hbu⟩:=HFTT.out.toIdle (i:=i) (g:={ h with timer:=h.timer - 1 }) (List.getElem?_set_self (by have:=HCL.out; omega)) HRT.out hst2;have hset:(cur.set i { h with timer:=h.timer - 1 }).set i (zc3 h.been.length) = cur.set i (zc3 h.been.length):=List.set_set _;have HFU:=zaa hfu;have HBU:=zaa hbu;have HSET:=zaa hset;clear hst2 hfu hbu hset;go_wp2;go_roundw
    case rel=>
     refine ⟨i + 1,by omega,by go_num,TickR.next (bb:=bbU) HCL.out HC1.out HC2.out HH.out ?_ HBV.out (HBTT.out.trans HBU.out)⟩;rw [HT.out];have h9:=HFU.out;rw [HSET.out] at h9;refine h9.but (K:=fun _=>True) (But.refl _ _) (fun _ _=>trivial) fun c hc=>?_;rcases hc with z | z
     ·exact z
     ·have h1:=z.1;rw [World.size_setCell] at h1;have h2:=HBV.out.size;exact ⟨by omega,by omega⟩
    case measure=>simp [intOf]; omega
   ·obtain rfl:i = d.ways.length:=by omega
    obtain ⟨bbV,hfv,hbv⟩:=htk.end rfl;have hbw:=HPTB.out _ hbv;have HQ:=zaa (HCELL.out _ hbw);have HSZ:=zaa hbw.size;have HX:=zaa (hfv.bound (Q:=fun c=>w2.heap.size ≤ c ∧ c ≠ w3.heap.size ∧ c < wV.heap.size) fun c h1 h2=>⟨h1.1,h1.2,h2⟩);have HE:=zaa (show evD p d 7 0 0 = (0,{ d with ways:=d.ways.map za7 }) by simp [evD]);have HFT:=zaa (show Fits p.ways { d with ways:=d.ways.map za7 } by have:=HFITS.out 7 0 0; rw [HE.out] at this; exact this);obtain ⟨⟨b0,b1,b2,b3,b4⟩,-⟩:=HQ.out;clear hfv hbv hbw HFTK hlt hi
    go_wp2_with fail
    refine (za8 _ (In w) _ _ _ _ _ _ _ _ _ _ p.ways bo _ bw w3.heap.size _ _ (HP.out.2.1.keep (za0 HQ.out.2.2.2.2.2 fun _ h=>h) fun _ h=>h) (fun c hc=>⟨Nat.lt_of_lt_of_le hc HQ.out.2.2.2.2.2.size,fun z=>absurd z.1 (by have:c < w.heap.size:=hc; omega)⟩) HQ.out.2.2.2.1.1 HQ.out.2.2.2.1.2.1 HQ.out.2.2.2.1.2.2.1 HQ.out.2.2.2.1.2.2.2 (fun z=>z.2.1 rfl) HX.out HFT.out fun c hc=>hc.2.2).mono ?_;clear b0 b1 b2 b3 b4;rintro e w5 ⟨rfl,bb5,hf5,hB5⟩;have c0:=hB5.cell HQ.out.2.2.2.1.1 (fun z=>z.2.1 rfl);have c1':=hB5.cell HQ.out.2.2.2.1.2.1 (fun z=>z.2.1 rfl);have c2':=hB5.cell HQ.out.2.2.2.1.2.2.1 (fun z=>z.2.1 rfl);have c3':=hB5.cell HQ.out.2.2.2.1.2.2.2 (fun z=>z.2.1 rfl);have rr:=hB5.row HQ.out.2.2.2.2.1 (fun z=>absurd z.1 (by omega));have r0:w5.cell? ⟨w.heap.size + 1 + 1 + 1,0,none⟩ = _:=rr.cell (i:=0) (by omega);have r1:w5.cell? ⟨w.heap.size + 1 + 1 + 1,1,none⟩ = _:=rr.cell (i:=1) (by omega);have r2:w5.cell? ⟨w.heap.size + 1 + 1 + 1,2,none⟩ = _:=rr.cell (i:=2) (by omega);have r3:w5.cell? ⟨w.heap.size + 1 + 1 + 1,3,none⟩ = _:=rr.cell (i:=3) (by omega);have r4:w5.cell? ⟨w.heap.size + 1 + 1 + 1,4,none⟩ = _:=rr.cell (i:=4) (by omega);have k0:w5.frozen? ⟨w.heap.size + 1 + 1 + 1,0,none⟩ = false:=rr.frozen 0;have k1:w5.frozen? ⟨w.heap.size + 1 + 1 + 1,1,none⟩ = false:=rr.frozen 1;have k2:w5.frozen? ⟨w.heap.size + 1 + 1 + 1,2,none⟩ = false:=rr.frozen 2;have k3:w5.frozen? ⟨w.heap.size + 1 + 1 + 1,3,none⟩ = false:=rr.frozen 3;have k4:w5.frozen? ⟨w.heap.size + 1 + 1 + 1,4,none⟩ = false:=rr.frozen 4;have HBL:=zaa (HQ.out.2.2.2.2.2.trans (hB5.below HQ.out.2.2.2.2.2.size fun c hc z=>absurd z.1 (by omega)));have HF5:=zaa hf5;clear hf5 hB5 rr;go_wp2;refine bodyPost_ret (v:=.agg #[.int .i64 (0),.bool d.ok,.slice (some ⟨bo,0,none⟩) d.occ.length co,.slice (ap) d.points.length cp,.slice (aw) d.ways.length cw]) (by simp [results,Tryz.results21,go_sem,r0,r1,r2,r3,r4]) rfl ?_;rw [HDO.out];unfold doD;rw [HE.out]
    have pz:w.heap.size ≤ w.heap.size + 1 + 1 + 1:=by omega
    refine ⟨_,_,_,rfl,((((HBL.out.setCell (p:=⟨w.heap.size + 1 + 1 + 1,0,none⟩) pz _).setCell (p:=⟨w.heap.size + 1 + 1 + 1,1,none⟩) pz _).setCell (p:=⟨w.heap.size + 1 + 1 + 1,2,none⟩) pz _).setCell (p:=⟨w.heap.size + 1 + 1 + 1,3,none⟩) pz _).setCell (p:=⟨w.heap.size + 1 + 1 + 1,4,none⟩) pz _,.inl ⟨bo,bp,bw,bb5,?_⟩⟩;have hk9:∀ o:Nat,¬ ((fun c=>c ≠ w.heap.size + 1 + 1 + 1) (⟨w.heap.size + 1 + 1 + 1,o,none⟩:Addr).block):=fun o z=>z rfl;have hsz9:=HSZ.out;refine HF5.out.but (Q:=fun c=>w.heap.size + 1 ≤ c) ((((((But.refl (fun c=>c ≠ w.heap.size + 1 + 1 + 1) w5).setCell (hk9 0) _).setCell (hk9 1) _).setCell (hk9 2) _).setCell (hk9 3) _).setCell (hk9 4) _) (fun c hc=>?_) fun c hc=>?_
    ·rcases hc with z | z
     ·have:=z.1; omega
     ·have:=z.1; omega
    ·rcases hc with z | z
     ·have:=z.1; omega
     ·have:=z.1; omega
end Go.Proofs.YtdhinkgjiapigabGreatDoor
