import Derived.Test.YtdhinkgjiapigabGreatDoorCopyA
import Derived.Test.YtdhinkgjiapigabGreatDoorFrIC
import Derived.Test.YtdhinkgjiapigabGreatDoorDoI4
import Derived.Deep.DeepCutAuto
namespace Go.Proofs.YtdhinkgjiapigabGreatDoor
open Go.RowKit Go.Deep
open Classical
theorem Tryz.nilP (a:Addr) (n c:Nat) (w:World):(binOp .eql 39 (.slice (some a) n c) (.slice none 0 0)).run Tryz.prog w = .ok (.bool false) w:=by kernel_rfl
theorem Tryz.nilP0 (n c:Nat) (w:World):(binOp .eql 39 (.slice none n c) (.slice none 0 0)).run Tryz.prog w = .ok (.bool true) w:=by kernel_rfl
theorem zp0 (W:World) (n:Nat) (hn:W.heap.size = n):(W.alloc (.cells #[] 90)).ownsRow n 90 2 (.slice (some ⟨n,0,none⟩) 0 0) 0 []:=by
 subst hn;exact World.ownsRow_lit (base:=W.heap.size) (e:=90) (size:=2) W #[] 0 (Nat.le_refl _) (by unfold maxLen; omega) rfl
set_option maxRecDepth 100000 in
set_option maxHeartbeats 2000000 in
theorem zfs (a:Option Addr) (m c:Nat) (xs:List Value) (w:World) (hl:xs.length = m * 2) (hn:m = 0 ∨ ∃ A,a = some A ∧ ∀ j u,xs[j]? = some u → w.cell? (A.add j) = some u) (h1:∀ u ∈ xs,u.oneCell' = true) (hm:m ≤ 1048576) :
  Calls Tryz.prog 185 #[.slice a m c] w fun e w'=>∃ v,e = .returned v ∧ w'.ownsRow w.heap.size 90 2 v m xs ∧ Below w.heap.size w w':=by
 cases a with
 | none=>
  have hm0:m = 0:=by
   rcases hn with z | ⟨A,z,-⟩
   ·exact z
   ·cases z
  subst hm0;obtain rfl:xs = []:=List.eq_nil_of_length_eq_zero (by omega);have hnil:=Tryz.nilP0;have hb:=Below.refl w.heap.size w;clear hn h1 hm hl;go_enter Tryz.func185,Tryz.ntmps185;go_wp2;go_ret;exact ⟨_,rfl,World.ownsRow_nil _ _ _ _,hb⟩
 | some A=>
  have hb0:=zab w (.cells #[] 90)
  have NW:Hid (m = 0 ∨ ∃ B,some A = some B ∧ ∀ j u,xs[j]? = some u → (w.alloc (.cells #[] 90)).cell? (B.add j) = some u):=by
   rcases hn with z | ⟨B,e,hB⟩
   ·exact .inl z
   ·exact .inr ⟨B,e,fun j u hu=>(hb0.cell (World.block_lt_of_cell? _ _ (hB j u hu))).trans (hB j u hu)⟩
  have NL:=zaa hl;have NO:=zaa h1
  have HM1:Hid (0 + m ≤ maxLen):=by show 0 + m ≤ maxLen; unfold maxLen; omega
  have HM2:Hid ((0 + m) * 16 ≤ 140737488355328):=by show (0 + m) * 16 ≤ 140737488355328; omega
  have OW:=zaa (zp0 w w.heap.size rfl);have HZ:Hid (w.heap.size ≤ (w.alloc (.cells #[] 90)).heap.size):=hb0.size;have HB0:=zaa hb0;have hnil:=Tryz.nilP;clear hn hl h1 hb0;go_enter Tryz.func185,Tryz.ntmps185
  go_wp2_with (at_builtin; refine zai rfl _ _ 39 rfl w.heap.size 90 (.agg #[.int .i64 0,.int .i64 0]) 2 16 Tryz.underlying39 Tryz.infoPoint rfl (by decide) (.slice (some ⟨w.heap.size,0,none⟩) 0 0) 0 [] rfl OW.out _ m c xs rfl NL.out NW.out NO.out HM1.out HM2.out HZ.out ?_)
  intro u4 w4 hown4 hgr4
  have hbl4:Below w.heap.size (w.alloc (.cells #[] 90)) w4:=(Below.refl _ _).grown hgr4 HZ.out fun z hz=>by cases hz; exact Nat.le_refl _
  have HF:=zaa (And.intro (show w4.ownsRow w.heap.size 90 2 u4 m xs by simpa using hown4) (HB0.out.trans hbl4));clear hbl4 hown4 hgr4;go_wp2;go_ret;exact ⟨u4,rfl,HF.out.1,HF.out.2⟩
theorem Tryz.nilH (a:Addr) (n c:Nat) (w:World):(binOp .eql 40 (.slice (some a) n c) (.slice none 0 0)).run Tryz.prog w = .ok (.bool false) w:=by kernel_rfl
theorem Tryz.nilH0 (n c:Nat) (w:World):(binOp .eql 40 (.slice none n c) (.slice none 0 0)).run Tryz.prog w = .ok (.bool true) w:=by kernel_rfl
theorem zpz (W:World) (n:Nat) (hn:W.heap.size = n):(W.alloc (.cells #[] 93)).ownsRow n 93 5 (.slice (some ⟨n,0,none⟩) 0 0) 0 []:=by
 subst hn;exact World.ownsRow_lit (base:=W.heap.size) (e:=93) (size:=5) W #[] 0 (Nat.le_refl _) (by unfold maxLen; omega) rfl
set_option maxRecDepth 100000 in
set_option maxHeartbeats 2000000 in
theorem zee (a:Option Addr) (m c:Nat) (xs:List Value) (w:World) (hl:xs.length = m * 5) (hn:m = 0 ∨ ∃ A,a = some A ∧ ∀ j u,xs[j]? = some u → w.cell? (A.add j) = some u) (h1:∀ u ∈ xs,u.oneCell' = true) (hm:m ≤ 1048576) :
  Calls Tryz.prog 186 #[.slice a m c] w fun e w'=>∃ v,e = .returned v ∧ w'.ownsRow w.heap.size 93 5 v m xs ∧ Below w.heap.size w w':=by
 cases a with
 | none=>
  have hm0:m = 0:=by
   rcases hn with z | ⟨A,z,-⟩
   ·exact z
   ·cases z
  subst hm0;obtain rfl:xs = []:=List.eq_nil_of_length_eq_zero (by omega);have hnil:=Tryz.nilH0;have hb:=Below.refl w.heap.size w;clear hn h1 hm hl;go_enter Tryz.func186,Tryz.ntmps186;go_wp2;go_ret;exact ⟨_,rfl,World.ownsRow_nil _ _ _ _,hb⟩
 | some A=>
  have hb0:=zab w (.cells #[] 93)
  have NW:Hid (m = 0 ∨ ∃ B,some A = some B ∧ ∀ j u,xs[j]? = some u → (w.alloc (.cells #[] 93)).cell? (B.add j) = some u):=by
   rcases hn with z | ⟨B,e,hB⟩
   ·exact .inl z
   ·exact .inr ⟨B,e,fun j u hu=>(hb0.cell (World.block_lt_of_cell? _ _ (hB j u hu))).trans (hB j u hu)⟩
  have NL:=zaa hl;have NO:=zaa h1
  have HM1:Hid (0 + m ≤ maxLen):=by show 0 + m ≤ maxLen; unfold maxLen; omega
  have HM2:Hid ((0 + m) * 56 ≤ 140737488355328):=by show (0 + m) * 56 ≤ 140737488355328; omega
  have OW:=zaa (zpz w w.heap.size rfl);have HZ:Hid (w.heap.size ≤ (w.alloc (.cells #[] 93)).heap.size):=hb0.size;have HB0:=zaa hb0;have hnil:=Tryz.nilH;clear hn hl h1 hb0;go_enter Tryz.func186,Tryz.ntmps186
  go_wp2_with (at_builtin; refine zai rfl _ _ 40 rfl w.heap.size 93 (.agg #[.int .i64 0,.int .i64 0,.slice none 0 0,.bool false,.int .i64 0]) 5 56 Tryz.underlying40 Tryz.infoHeld rfl (by decide) (.slice (some ⟨w.heap.size,0,none⟩) 0 0) 0 [] rfl OW.out _ m c xs rfl NL.out NW.out NO.out HM1.out HM2.out HZ.out ?_)
  intro u4 w4 hown4 hgr4
  have hbl4:Below w.heap.size (w.alloc (.cells #[] 93)) w4:=(Below.refl _ _).grown hgr4 HZ.out fun z hz=>by cases hz; exact Nat.le_refl _
  have HF:=zaa (And.intro (show w4.ownsRow w.heap.size 93 5 u4 m xs by simpa using hown4) (HB0.out.trans hbl4));clear hbl4 hown4 hgr4;go_wp2;go_ret;exact ⟨u4,rfl,HF.out.1,HF.out.2⟩
end Go.Proofs.YtdhinkgjiapigabGreatDoor
namespace Go.Proofs.YtdhinkgjiapigabGreatDoor
open Go.RowKit Go.Deep
open Classical
theorem zm0 {P:Nat → Prop} {W:World} {a:Option Addr} {l:List HeldD} {c:Nat} (h:Helds P W (.slice a l.length c) l) :
  ∃ xs:List Value,xs.length = l.length * 5 ∧ (l.length = 0 ∨ ∃ b o,a = some ⟨b,o,none⟩ ∧ P b ∧ ∀ j u,xs[j]? = some u → W.cell? ⟨b,o + j,none⟩ = some u) ∧ (∀ u ∈ xs,u.oneCell' = true) ∧
   ∀ (i:Nat) x,l[i]? = some x → xs[i * 5]? = some (.int .i64 x.state) ∧ xs[i * 5 + 1]? = some (.int .i64 x.gone) ∧ (∃ v,xs[i * 5 + 2]? = some v ∧ Bools P W v x.been) ∧ xs[i * 5 + 3]? = some (.bool x.shown) ∧ xs[i * 5 + 4]? = some (.int .i64 x.timer):=by
 obtain ⟨a',c',hv,h0 | ⟨b,off,rfl,hP,hc⟩⟩:=h
 ·obtain rfl:=List.eq_nil_of_length_eq_zero h0;exact ⟨[],rfl,.inl rfl,(fun _ z=>nomatch z),fun i x z=>by cases z⟩
 ·cases hv
  have hg:∀ j,j < l.length * 5 → ∃ u,W.cell? ⟨b,off + j,none⟩ = some u ∧ u.oneCell' = true:=fun j hj=>by
   obtain ⟨x,hx⟩:∃ x,l[j / 5]? = some x:=⟨_,List.getElem?_eq_getElem (by omega)⟩;obtain ⟨v,hb,g0,g1,g2,g3,g4⟩:=hc (j / 5) (by omega) x hx
   have hj5:j = j / 5 * 5 + j % 5:=by omega
   have hm:j % 5 < 5:=Nat.mod_lt _ (by omega);rw [hj5];generalize j % 5 = r at hm;rcases r with _ | _ | _ | _ | _ | r
   ·exact ⟨_,g0,rfl⟩
   ·exact ⟨_,g1,rfl⟩
   ·obtain ⟨_,_,rfl,-⟩:=hb;exact ⟨_,g2,rfl⟩
   ·exact ⟨_,g3,rfl⟩
   ·exact ⟨_,g4,rfl⟩
   ·omega
  have hget:∀ j u,j < l.length * 5 → W.cell? ⟨b,off + j,none⟩ = some u → ((List.range (l.length * 5)).map fun j=>(W.cell? ⟨b,off + j,none⟩).getD (.bool false))[j]? = some u:=fun j u hj hu=>by
   rw [List.getElem?_map,List.getElem?_range hj,Option.map_some,hu]; rfl
  have hget2:∀ j u,((List.range (l.length * 5)).map fun j=>(W.cell? ⟨b,off + j,none⟩).getD (.bool false))[j]? = some u → W.cell? ⟨b,off + j,none⟩ = some u ∧ u.oneCell' = true:=fun j u hu=>by
   have hj:j < l.length * 5:=by simpa using (List.getElem?_eq_some_iff.1 hu).1
   obtain ⟨u',h1,h2⟩:=hg j hj;rw [hget j u' hj h1] at hu
   cases hu
   exact ⟨h1,h2⟩
  refine ⟨(List.range (l.length * 5)).map fun j=>(W.cell? ⟨b,off + j,none⟩).getD (.bool false),by simp,.inr ⟨_,_,rfl,hP,fun j u hu=>(hget2 j u hu).1⟩,fun u hu=>?_,fun i x hx=>?_⟩
  ·obtain ⟨j,hj⟩:=List.mem_iff_getElem?.1 hu;exact (hget2 j u hj).2
  ·have hi:i < l.length:=(List.getElem?_eq_some_iff.1 hx).1;obtain ⟨v,hb,g0,g1,g2,g3,g4⟩:=hc i hi x hx;exact ⟨hget _ _ (by omega) g0,hget _ _ (by omega) g1,⟨v,hget _ _ (by omega) g2,hb⟩,hget _ _ (by omega) g3,hget _ _ (by omega) g4⟩
theorem zfg {w:World} {base m e size:Nat} {v:Value} {n:Nat} {xs:List Value} (h:w.ownsRow base e size v n xs) (hm:m ≤ base):w.ownsRow m e size v n xs:=by
 obtain ⟨hl,h0 | ⟨g,cap,cur,hv,hb,k⟩⟩:=h
 ·exact ⟨hl,.inl h0⟩
 ·exact ⟨hl,.inr ⟨g,cap,cur,hv,Nat.le_trans hm hb,k⟩⟩
structure CopyB (w:World) (d:FrameD) (W:World) (bn:Nat) (u1 u2 u3:Value) (bo bp:Nat):Prop where
 below:Below w.heap.size w W
 res:∃ g,W.rowIs (w.heap.size + 1) 42 4 g
 out:W.rowIs bn 42 4 (fun i=>(#[.bool d.ok,u1,u2,u3]:Array Value)[i]!)
 occ:OBools W u1 d.occ bo
 points:OPoints W u2 d.points bp
 pn:w.heap.size + 1 + 1 ≤ bn
 po:w.heap.size + 1 + 1 ≤ bo
 pp:d.points.length ≠ 0 → w.heap.size + 1 + 1 ≤ bp
theorem zgp {w W0 W:World} {d:FrameD} {cs:Array Value} {bn bo bp cap1 cap2 cap3:Nat} {a5 a6:Option Addr} {xs:List Value} (hT:Boxes w [(42,cs),(42,#[.bool false,.slice none 0 0,.slice none 0 0,.slice none 0 0])] W0) (_hz:W0.heap.size = w.heap.size + 1 + 1) (hD:Below W0.heap.size W0 W)
  (h1:OBools W (.slice (some ⟨bo,0,none⟩) d.occ.length cap1) d.occ bo) (h2:OPoints W (.slice a5 d.points.length cap2) d.points bp) (h3:W.ownsRow (w.heap.size + 1 + 1) 93 5 (.slice a6 d.ways.length cap3) d.ways.length xs) {f:Nat → Value} (hn:W.rowIs bn 42 4 f)
  (pn:w.heap.size + 1 + 1 ≤ bn) (po:w.heap.size + 1 + 1 ≤ bo) (pp:d.points.length ≠ 0 → w.heap.size + 1 + 1 ≤ bp) :
  CopyB w d ((((W.setCell ⟨bn,0,none⟩ (.bool d.ok)).setCell ⟨bn,1,none⟩ (.slice (some ⟨bo,0,none⟩) d.occ.length cap1)).setCell ⟨bn,2,none⟩ (.slice a5 d.points.length cap2)).setCell ⟨bn,3,none⟩ (.slice a6 d.ways.length cap3)) bn (.slice (some ⟨bo,0,none⟩) d.occ.length cap1) (.slice a5 d.points.length cap2) (.slice a6 d.ways.length cap3) bo bp ∧
   ((((W.setCell ⟨bn,0,none⟩ (.bool d.ok)).setCell ⟨bn,1,none⟩ (.slice (some ⟨bo,0,none⟩) d.occ.length cap1)).setCell ⟨bn,2,none⟩ (.slice a5 d.points.length cap2)).setCell ⟨bn,3,none⟩ (.slice a6 d.ways.length cap3)).ownsRow (w.heap.size + 1 + 1) 93 5 (.slice a6 d.ways.length cap3) d.ways.length xs:=by
 have hj:∀ o:Nat,¬ ((fun c=>c ≠ bn) (⟨bn,o,none⟩:Addr).block):=fun o z=>z rfl;have hB:=(((((But.refl (fun c=>c ≠ bn) W).setCell (hj 0) (.bool d.ok)).setCell (hj 1) (.slice (some ⟨bo,0,none⟩) d.occ.length cap1)).setCell (hj 2) (.slice a5 d.points.length cap2)).setCell (hj 3) (.slice a6 d.ways.length cap3));have hT2:=hT.call hD;have hTr:=hT2.row 1 _ _ rfl;refine ⟨⟨?_,⟨_,hB.row hTr (by omega)⟩,?_,h1.but hB ?_,h2.but hB fun z=>?_,pn,po,pp⟩,za3 h3 hB fun g hg=>?_⟩
 ·exact hT2.below.trans (hB.below hT2.below.size fun c hc=>by omega)
 ·refine ((((hn.set 0 _).set 1 _).set 2 _).set 3 _).congr fun i hi=>?_;rcases i with _ | _ | _ | _ | i
  ·rfl
  ·rfl
  ·rfl
  ·rfl
  ·omega
 ·obtain ⟨g,N,c,-,hr,-⟩:=h1;exact zbb hr hn (by decide)
 ·obtain ⟨_,_,_,h0 | ⟨_,g,N,hr,-⟩⟩:=h2
  ·exact absurd h0 z
  ·exact zbb hr hn (by decide)
 ·exact ((zat h3 hg).2.2 _ _ _ _ hn (by decide)).symm
def HeldsM (w0 W:World) (m:Nat) (l:List HeldD) (k:Nat) (f:Nat → Value) (bb:Nat → Nat):Prop:=
 ∀ (j:Nat) x,l[j]? = some x → f (j * 5) = .int .i64 x.state ∧ f (j * 5 + 1) = .int .i64 x.gone ∧ f (j * 5 + 3) = .bool x.shown ∧ f (j * 5 + 4) = .int .i64 x.timer ∧ (j < k → OBools W (f (j * 5 + 2)) x.been (bb j) ∧ m ≤ bb j) ∧ (k ≤ j → Bools (In w0) w0 (f (j * 5 + 2)) x.been)
theorem zj5 {w W:World} {m:Nat} {l:List HeldD} {xs:List Value} {f:Nat → Value} (hx:∀ (i:Nat) x,l[i]? = some x → xs[i * 5]? = some (.int .i64 x.state) ∧ xs[i * 5 + 1]? = some (.int .i64 x.gone) ∧ (∃ v,xs[i * 5 + 2]? = some v ∧ Bools (In w) w v x.been) ∧ xs[i * 5 + 3]? = some (.bool x.shown) ∧ xs[i * 5 + 4]? = some (.int .i64 x.timer))
  (hf:∀ j u,xs[j]? = some u → f j = u):HeldsM w W m l 0 f (fun _=>0):=fun j x hj=>by
 obtain ⟨h0,h1,⟨v,h2,hb⟩,h3,h4⟩:=hx j x hj
 exact ⟨hf _ _ h0,hf _ _ h1,hf _ _ h3,hf _ _ h4,fun z=>absurd z (by omega),fun _=>by rw [hf _ _ h2]; exact hb⟩
theorem HeldsM.next {w0 W W':World} {m:Nat} {l:List HeldD} {k:Nat} {f:Nat → Value} {bb:Nat → Nat} {x:HeldD} {u:Value} {b:Nat} (h:HeldsM w0 W m l k f bb) (hx:l[k]? = some x) (hO:OBools W' u x.been b) (hb:m ≤ b)
  (hk:∀ j y v,j < k → l[j]? = some y → OBools W v y.been (bb j) → OBools W' v y.been (bb j)):HeldsM w0 W' m l (k + 1) (fun q=>if q = k * 5 + 2 then u else f q) (fun j=>if j = k then b else bb j):=by
 intro j y hy;obtain ⟨h0,h1,h3,h4,h5,h6⟩:=h j y hy;have hne:∀ q,q ≠ k * 5 + 2 → (fun q=>if q = k * 5 + 2 then u else f q) q = f q:=fun q hq=>if_neg hq;refine ⟨(hne _ (by omega)).trans h0,(hne _ (by omega)).trans h1,(hne _ (by omega)).trans h3,(hne _ (by omega)).trans h4,fun hj=>?_,fun hj=>?_⟩
 ·by_cases e:j = k
  ·subst e;rw [hx] at hy
   cases hy
   simp only [if_true];exact ⟨hO,hb⟩
  ·simp only [if_neg e];rw [if_neg (by omega)];obtain ⟨h7,h8⟩:=h5 (by omega);exact ⟨hk j y _ (by omega) hy h7,h8⟩
 ·rw [hne _ (by omega)];exact h6 (by omega)
theorem zmt {w wr W:World} {d:FrameD} {bn bo bp bw N k b:Nat} {u1 u2 u3 u:Value} {f:Nat → Value} {bb:Nat → Nat} {x:HeldD} (h:CopyB w d wr bn u1 u2 u3 bo bp) (hr:wr.rowIs bw 93 N f) (hM:HeldsM w wr (w.heap.size + 1 + 1) d.ways k f bb) (hx:d.ways[k]? = some x) (hbw:w.heap.size + 1 + 1 ≤ bw) (hB:Below wr.heap.size wr W) (hO:OBools W u x.been b) (hb:wr.heap.size ≤ b)
  (hin:∀ i j,i < k → j < k → bb i = bb j → i = j) (hof:∀ i,i < k → bb i ≠ bo) :
  CopyB w d (W.setCell ⟨bw,k * 5 + 2,none⟩ u) bn u1 u2 u3 bo bp ∧ (W.setCell ⟨bw,k * 5 + 2,none⟩ u).rowIs bw 93 N (fun q=>if q = k * 5 + 2 then u else f q) ∧ HeldsM w (W.setCell ⟨bw,k * 5 + 2,none⟩ u) (w.heap.size + 1 + 1) d.ways (k + 1) (fun q=>if q = k * 5 + 2 then u else f q) (fun j=>if j = k then b else bb j) ∧
   (∀ i j,i < k + 1 → j < k + 1 → (if i = k then b else bb i) = (if j = k then b else bb j) → i = j) ∧ ∀ i,i < k + 1 → (if i = k then b else bb i) ≠ bo:=by
 have hBt:But (fun c=>c ≠ bw) wr (W.setCell ⟨bw,k * 5 + 2,none⟩ u):=(But.of_calls hB).setCell (fun z=>z rfl) _;have hlt:=hr.lt;obtain ⟨gR,hR⟩:=h.res
 have hbo:bo ≠ bw:=by
  obtain ⟨g,M,c,-,hg,-⟩:=h.occ;exact zbb hg hr (by decide)
 have hol:=h.occ.lt
 have hlj:∀ j,j < k → bb j < wr.heap.size ∧ bb j ≠ bw:=fun j hj=>by
  have hk:k < d.ways.length:=(List.getElem?_eq_some_iff.1 hx).1;obtain ⟨y,hy⟩:=zac d.ways (zaa rfl) (show j < d.ways.length by omega);have hu:=((hM j y hy).2.2.2.2.1 hj).1;obtain ⟨g,M,c,-,hg,-⟩:=id hu;exact ⟨hu.lt,zbb hg hr (by decide)⟩
 refine ⟨⟨h.below.trans (hBt.below h.below.size fun c hc=>by omega),⟨_,hBt.row hR (by omega)⟩,hBt.row h.out (zbb h.out hr (by decide)),h.occ.but hBt hbo,h.points.but hBt fun z=>?_,h.pn,h.po,h.pp⟩,(zah hr hB).set _ _,hM.next hx ?_ (Nat.le_trans (by have:=h.out.lt; have:=h.pn; omega) hb) fun j y v hj hy hv=>hv.but hBt (hlj j hj).2,fun i j hi hj=>?_,fun i hi=>?_⟩
 ·obtain ⟨_,_,_,h0 | ⟨_,g,M,hg,-⟩⟩:=h.points
  ·exact absurd h0 z
  ·exact zbb hg hr (by decide)
 ·exact hO.but (K:=fun c=>c ≠ bw) ((But.refl _ _).setCell (fun z=>z rfl) _) (by omega)
 ·by_cases e1:i = k <;> by_cases e2:j = k
  ·intro _; omega
  ·rw [if_pos e1,if_neg e2]; intro z; have:=hlj j (by omega); omega
  ·rw [if_neg e1,if_pos e2]; intro z; have:=hlj i (by omega); omega
  ·rw [if_neg e1,if_neg e2]; exact hin i j (by omega) (by omega)
 ·by_cases e1:i = k
  ·rw [if_pos e1]; omega
  ·rw [if_neg e1]; exact hof i (by omega)
theorem zk6 {w W:World} {d:FrameD} {bn bo bp bw cap3:Nat} {u1 u2:Value} {a6:Option Addr} {bb:Nat → Nat} (h:CopyB w d W bn u1 u2 (.slice a6 d.ways.length cap3) bo bp) (hM:0 < d.ways.length → ∃ f N,W.rowIs bw 93 N f ∧ d.ways.length * 5 ≤ N ∧ HeldsM w W (w.heap.size + 1 + 1) d.ways d.ways.length f bb) (hw:0 < d.ways.length → a6 = some ⟨bw,0,none⟩ ∧ w.heap.size + 1 + 1 ≤ bw)
  (hin:∀ i j,i < d.ways.length → j < d.ways.length → bb i = bb j → i = j) (hof:∀ i,i < d.ways.length → bb i ≠ bo):OFrame (fun c=>w.heap.size + 1 + 1 ≤ c) W u1 u2 (.slice a6 d.ways.length cap3) d bo bp bw bb:=by
 refine ⟨h.occ,h.points,⟨a6,cap3,rfl,?_⟩,h.po,h.pp,fun z=>(hw (by omega)).2,fun i hi=>?_,hin,hof⟩
 ·rcases Nat.eq_zero_or_pos d.ways.length with z | z
  ·exact .inl z
  ·obtain ⟨f,N,hr,hN,hH⟩:=hM z;refine .inr ⟨(hw z).1,f,N,hr,hN,fun i x hx=>?_⟩;obtain ⟨h0,h1,h3,h4,h5,-⟩:=hH i x hx;exact ⟨h0,h1,(h5 (List.getElem?_eq_some_iff.1 hx).1).1,h3,h4⟩
 ·obtain ⟨f,N,hr,hN,hH⟩:=hM (by omega);obtain ⟨y,hy⟩:=zac d.ways (zaa rfl) hi;exact ((hH i y hy).2.2.2.2.1 hi).2
set_option maxRecDepth 100000 in
set_option maxHeartbeats 8000000 in
theorem ze6 (v1 v2 v3:Value) (d:FrameD) (w:World) (hv:FrameAt (In w) w v1 v2 v3 d) (hs:d.Small 1048576) (ho:0 < d.occ.length) (hb:∀ x ∈ d.ways,0 < x.been.length) :
  Calls Tryz.prog 145 #[.agg #[.bool d.ok,v1,v2,v3]] w fun e w'=>∃ u1 u2 u3 bo bp bw bb,e = .returned (.agg #[.bool d.ok,u1,u2,u3]) ∧ Below w.heap.size w w' ∧ OFrame (New w w') w' u1 u2 u3 d bo bp bw bb:=by
 obtain ⟨hs1,hs2,hs3,hs4⟩:=hs;obtain ⟨h1,h2,h3⟩:=hv;obtain ⟨a1,c1,rfl,q1⟩:=id h1;obtain ⟨a2,c2,rfl,-⟩:=id h2;obtain ⟨a3,c3,rfl,-⟩:=id h3;obtain q1 | ⟨b1,o1,rfl,-,-⟩:=q1
 ·omega
 have T0:=zbc w 42 42 #[.bool d.ok,.slice (some ⟨b1,o1,none⟩) d.occ.length c1,.slice a2 d.points.length c2,.slice a3 d.ways.length c3] #[.bool false,.slice none 0 0,.slice none 0 0,.slice none 0 0];obtain ⟨xs,hxl,hxn,hx1,hxc⟩:=zm0 h3;have HX:=zaa (And.intro hxl hx1);have HXC:=zaa hxc;have hkf:∀ W,Below w.heap.size w W → FrameAt (In W) W (.slice (some ⟨b1,o1,none⟩) d.occ.length c1) (.slice a2 d.points.length c2) (.slice a3 d.ways.length c3) d:=fun W hW=>FrameAt.keep ⟨h1,h2,h3⟩ (In.keep hW).1 (In.keep hW).2
 have hkx:∀ W,Below w.heap.size w W → d.ways.length = 0 ∨ ∃ A,a3 = some A ∧ ∀ j u,xs[j]? = some u → W.cell? (A.add j) = some u:=fun W hW=>by
  rcases hxn with z | ⟨b,o,e,hA,hc⟩
  ·exact .inl z
  ·exact .inr ⟨_,e,fun j u hu=>by rw [zbp]; exact (hW.cell (p:=⟨b,o + j,none⟩) hA).trans (hc j u hu)⟩
 have KF0:=zaa hkf;have KX0:=zaa hkx;have H4:=zaa hs4;have HB:=zaa hb;clear h1 h2 h3 hxl hxn hx1 hxc hkf hkx hs4 hb;go_enter Tryz.func145,Tryz.ntmps145
 go_upto_region 1 with fail
 obtain ⟨W0,hW0⟩:∃ W0,W0 = (w.alloc (.cells #[.bool d.ok,.slice (some ⟨b1,o1,none⟩) d.occ.length c1,.slice a2 d.points.length c2,.slice a3 d.ways.length c3] 42)).alloc (.cells #[.bool false,.slice none 0 0,.slice none 0 0,.slice none 0 0] 42):=⟨_,rfl⟩
 have hz:W0.heap.size = w.heap.size + 1 + 1:=by rw [hW0]; simp
 rw [← hW0] at T0 ⊢;have HZ:=zaa hz;have HT0:=zaa T0;have KF:=zaa fun (W:World) (hW:Below W0.heap.size W0 W)=>KF0.out W (T0.below.trans (hW.mono (by omega)));have KX:=zaa fun (W:World) (hW:Below W0.heap.size W0 W)=>KX0.out W (T0.below.trans (hW.mono (by omega)))
 have hks:∀ W,Below W0.heap.size W0 W → Below W0.heap.size W0 W ∧ W.cell? ⟨w.heap.size,0,none⟩ = some (.bool d.ok) ∧ W.cell? ⟨w.heap.size,1,none⟩ = some (.slice (some ⟨b1,o1,none⟩) d.occ.length c1) ∧ W.cell? ⟨w.heap.size,2,none⟩ = some (.slice a2 d.points.length c2) ∧ W.cell? ⟨w.heap.size,3,none⟩ = some (.slice a3 d.ways.length c3):=fun W hW=>by
  have hT:=T0.call hW;exact ⟨hW,hT.cell (j:=0) (i:=0) rfl rfl,hT.cell (j:=0) (i:=1) rfl rfl,hT.cell (j:=0) (i:=2) rfl rfl,hT.cell (j:=0) (i:=3) rfl rfl⟩
 have KS:=zaa hks;clear hW0 T0 hks KF0 KX0
 go_cut [3] (fun v wc=>∃ bn cap1 a5 cap2 a6 cap3 bo bp,v = .pointer (some ⟨bn,0,none⟩) ∧ CopyB w d wc bn (.slice (some ⟨bo,0,none⟩) d.occ.length cap1) (.slice a5 d.points.length cap2) (.slice a6 d.ways.length cap3) bo bp ∧ wc.ownsRow (w.heap.size + 1 + 1) 93 5 (.slice a6 d.ways.length cap3) d.ways.length xs)
 case first=>
  refine zct (S:=fun W=>Below W0.heap.size W0 W ∧ W.cell? ⟨w.heap.size,0,none⟩ = some (.bool d.ok) ∧ W.cell? ⟨w.heap.size,1,none⟩ = some (.slice (some ⟨b1,o1,none⟩) d.occ.length c1) ∧ W.cell? ⟨w.heap.size,2,none⟩ = some (.slice a2 d.points.length c2) ∧ W.cell? ⟨w.heap.size,3,none⟩ = some (.slice a3 d.ways.length c3)) 13 (by kernel_rfl) (KS.out _ (zaf _)) (fun hS=>?_);have hD:=hS.1;obtain ⟨wA0,hwA⟩:∃ wA0,wA0 = W0.drew:=⟨_,rfl⟩;rw [← hwA] at hS hD ⊢;clear hwA;refine tkL (v:=?v0x1) At.z (by kernel_rfl) (fun _ _ _ h=>h) rfl ?h0x1 hS ?_
  case h0x1=>intro _ s;(try dsimp only at s);go_simp;try with_reducible rfl
  try simp only [Act.put,sA,sB,sC]
  refine tkL (v:=?v1x2) At.z.s (by kernel_rfl) (fun _ _ _ h=>h) rfl ?h1x2 hS ?_
  case h1x2=>intro _ s;(try dsimp only at s);go_simp;try with_reducible rfl
  try simp only [Act.put,sA,sB,sC]
  refine tkL (v:=?v2x3) At.z.s.s (by kernel_rfl) (fun _ _ _ h=>h) rfl ?h2x3 hS ?_
  case h2x3=>intro _ s;(try dsimp only at s);go_simp;try with_reducible rfl
  try simp only [Act.put,sA,sB,sC]
  refine tkL (v:=?v3x4) At.z.s.s.s (by kernel_rfl) (fun _ _ _ h=>h) rfl ?h3x4 hS ?_
  case h3x4=>intro _ s;(try dsimp only at s);go_simp;try with_reducible rfl
  try simp only [Act.put,sA,sB,sC]
  refine tkL (v:=?v5x5) At.z.s.s.s.s.s (by kernel_rfl) (fun _ _ _ h=>h) rfl ?h5x5 hS ?_
  case h5x5=>intro _ s;(try dsimp only at s);go_simp;try with_reducible rfl
  try simp only [Act.put,sA,sB,sC]
  refine tkL (v:=?v6x6) At.z.s.s.s.s.s.s (by kernel_rfl) (fun _ _ _ h=>h) rfl ?h6x6 hS ?_
  case h6x6=>intro _ s;(try dsimp only at s);go_simp;try with_reducible rfl
  try simp only [Act.put,sA,sB,sC]
  refine tkL (v:=?v8x7) At.z.s.s.s.s.s.s.s.s (by kernel_rfl) (fun _ _ _ h=>h) rfl ?h8x7 hS ?_
  case h8x7=>intro _ s;(try dsimp only at s);go_simp;try with_reducible rfl
  try simp only [Act.put,sA,sB,sC]
  refine tkL (v:=?v9x8) At.z.s.s.s.s.s.s.s.s.s (by kernel_rfl) (fun _ _ _ h=>h) rfl ?h9x8 hS ?_
  case h9x8=>intro _ s;(try dsimp only at s);go_simp;try with_reducible rfl
  try simp only [Act.put,sA,sB,sC]
  refine zq0 (i:=4) (j:=12) At.z.s.s.s.s At.z.s.s.s.s.s.s.s.s.s.s.s.s (by kernel_rfl) (fun K hK=>?_) (fun K hK=>?_)
  ·go_simp;refine (zed _ _ d.occ _ (KF.out _ hD).1 hs1 ho).mono ?_;rintro e wA1 ⟨u1,bo,rfl,hO1,hbo,hb⟩;obtain ⟨gB1,NB1,cap1,rfl,-⟩:=id hO1
   have hbo':w.heap.size + 1 + 1 ≤ bo:=by have:=hD.size; omega
   clear hbo;have hDn:=hD.trans (hb.mono hD.size);have hSn:=KS.out _ hDn;have H1:=zaa hO1;refine hK.out _ _ hSn ?_;clear hK K hS hD hb hO1;clear wA0
   try simp only [Act.put,sA,sB,sC]
   have hS:=hSn;have hD:=hDn;clear hSn hDn;refine zq0 (i:=7) (j:=12) At.z.s.s.s.s.s.s.s At.z.s.s.s.s.s.s.s.s.s.s.s.s (by kernel_rfl) (fun K hK=>?_) (fun K hK=>?_)
   ·go_simp;refine (zfs _ _ _ (zau d.points) _ (zbf d.points) (zdl (KF.out _ hD).2.1) (zcx d.points) hs2).mono ?_;rintro e wA2 ⟨u2,rfl,hown2,hb⟩;obtain ⟨bp,hO2,hbp⟩:=zcy hown2 rfl;obtain ⟨a5,cap2,rfl,-⟩:=id hO2
    have hbp':d.points.length ≠ 0 → w.heap.size + 1 + 1 ≤ bp:=fun z=>by have:=hD.size; have:=hbp z; omega
    clear hbp hown2;have hDn:=hD.trans (hb.mono hD.size);have hSn:=KS.out _ hDn;replace H1:=zaa (H1.out.but (K:=fun _=>True) (But.of_calls hb) trivial);have H2:=zaa hO2;refine hK.out _ _ hSn ?_;clear hK K hS hD hb hO2;clear wA1
    try simp only [Act.put,sA,sB,sC]
    have hS:=hSn;have hD:=hDn;clear hSn hDn;refine zq0 (i:=10) (j:=12) At.z.s.s.s.s.s.s.s.s.s.s At.z.s.s.s.s.s.s.s.s.s.s.s.s (by kernel_rfl) (fun K hK=>?_) (fun K hK=>?_)
    ·go_simp;refine (zee _ _ _ xs _ HX.out.1 (KX.out _ hD) HX.out.2 hs3).mono ?_;rintro e wA3 ⟨u3,rfl,hown3,hb⟩;obtain ⟨a6,cap3,rfl⟩:=zag hown3;have hO3:=zfg hown3 (show w.heap.size + 1 + 1 ≤ _ by have:=hD.size; omega);clear hown3;have hDn:=hD.trans (hb.mono hD.size);have hSn:=KS.out _ hDn;replace H1:=zaa (H1.out.but (K:=fun _=>True) (But.of_calls hb) trivial);replace H2:=zaa (H2.out.but (K:=fun _=>True) (But.of_calls hb) fun _=>trivial);have H3:=zaa hO3;refine hK.out _ _ hSn ?_;clear hK K hS hD hb hO3;clear wA2
     try simp only [Act.put,sA,sB,sC]
     have hS:=hSn;have hD:=hDn;clear hSn hDn;refine tkL (v:=?v11x9) At.z.s.s.s.s.s.s.s.s.s.s.s (by kernel_rfl) (fun _ _ _ h=>h) rfl ?h11x9 hS ?_
     case h11x9=>intro _ s;(try dsimp only at s);go_simp;try with_reducible rfl
     try simp only [Act.put,sA,sB,sC]
     refine zbk (i:=12) At.z.s.s.s.s.s.s.s.s.s.s.s.s (by kernel_rfl) (fun K hK=>?_);go_simp;have hb:=zab wA3 (.cells #[.bool false,.slice none 0 0,.slice none 0 0,.slice none 0 0] 42);have hrN:=zak wA3 42 #[.bool false,.slice none 0 0,.slice none 0 0,.slice none 0 0];obtain ⟨wA4,hwA4⟩:∃ wA4,wA4 = wA3.alloc (.cells #[.bool false,.slice none 0 0,.slice none 0 0,.slice none 0 0] 42):=⟨_,rfl⟩;obtain ⟨bn,hbn⟩:∃ bn,bn = wA3.heap.size:=⟨_,rfl⟩;rw [← hwA4] at hb hrN ⊢;rw [← hbn] at hrN ⊢
     have hbn':w.heap.size + 1 + 1 ≤ bn:=by have:=hD.size; omega
     clear hwA4 hbn;have hDn:=hD.trans (hb.mono hD.size);have hSn:=KS.out _ hDn;replace H1:=zaa (H1.out.but (K:=fun _=>True) (But.of_calls hb) trivial);replace H2:=zaa (H2.out.but (K:=fun _=>True) (But.of_calls hb) fun _=>trivial);replace H3:=zaa (za3 (K:=fun _=>True) H3.out (But.of_calls hb) fun _ _=>trivial);have HN:=zaa hrN;refine hK.out _ _ hSn ?_;clear hK K hS hD hb hrN;clear wA3
     try simp only [Act.put,sA,sB,sC]
     have hS:=hSn;have hD:=hDn;clear hSn hDn;have n0:=HN.out.cell (i:=0) (by simp);have n1:=HN.out.cell (i:=1) (by simp);have n2:=HN.out.cell (i:=2) (by simp);have n3:=HN.out.cell (i:=3) (by simp);have m0:=HN.out.frozen 0;have m1:=HN.out.frozen 1;have m2:=HN.out.frozen 2;have m3:=HN.out.frozen 3;have HG:=zaa (zgp HT0.out HZ.out hD H1.out H2.out H3.out HN.out hbn' hbo' hbp');clear H1 H2 H3 HN hD hS;refine zf1 (m:=13) At.z.s.s.s.s.s.s.s.s.s.s.s.s.s (by kernel_rfl) (by kernel_rfl) (fun K hK=>?_);go_simp;refine hK.out _ _ ?_;clear hK K n0 n1 n2 n3 m0 m1 m2 m3
     go_wp2_with fail
     go_meet;exact ⟨_,_,_,_,_,_,_,_,rfl,HG.out⟩
    ·go_simp;have hb:=zab wA2 (.cells #[.bool false,.slice none 0 0,.slice none 0 0,.slice none 0 0] 42);have hrN:=zak wA2 42 #[.bool false,.slice none 0 0,.slice none 0 0,.slice none 0 0];obtain ⟨wA3,hwA3⟩:∃ wA3,wA3 = wA2.alloc (.cells #[.bool false,.slice none 0 0,.slice none 0 0,.slice none 0 0] 42):=⟨_,rfl⟩;obtain ⟨bn,hbn⟩:∃ bn,bn = wA2.heap.size:=⟨_,rfl⟩;rw [← hwA3] at hb hrN ⊢;rw [← hbn] at hrN ⊢
     have hbn':w.heap.size + 1 + 1 ≤ bn:=by have:=hD.size; omega
     clear hwA3 hbn;have hDn:=hD.trans (hb.mono hD.size);have hSn:=KS.out _ hDn;replace H1:=zaa (H1.out.but (K:=fun _=>True) (But.of_calls hb) trivial);replace H2:=zaa (H2.out.but (K:=fun _=>True) (But.of_calls hb) fun _=>trivial);have HN:=zaa hrN;refine hK.out _ _ hSn ?_;clear hK K hS hD hb hrN;clear wA2
     try simp only [Act.put,sA,sB,sC]
     have hS:=hSn;have hD:=hDn;clear hSn hDn;refine zbk (i:=10) At.z.s.s.s.s.s.s.s.s.s.s (by kernel_rfl) (fun K hK=>?_);go_simp;refine (zee _ _ _ xs _ HX.out.1 (KX.out _ hD) HX.out.2 hs3).mono ?_;rintro e wA4 ⟨u3,rfl,hown3,hb⟩;obtain ⟨a6,cap3,rfl⟩:=zag hown3;have hO3:=zfg hown3 (show w.heap.size + 1 + 1 ≤ _ by have:=hD.size; omega);clear hown3;have hDn:=hD.trans (hb.mono hD.size);have hSn:=KS.out _ hDn;replace H1:=zaa (H1.out.but (K:=fun _=>True) (But.of_calls hb) trivial);replace H2:=zaa (H2.out.but (K:=fun _=>True) (But.of_calls hb) fun _=>trivial);replace HN:=zaa (zah HN.out hb);have H3:=zaa hO3;refine hK.out _ _ hSn ?_;clear hK K hS hD hb hO3;clear wA3
     try simp only [Act.put,sA,sB,sC]
     have hS:=hSn;have hD:=hDn;clear hSn hDn;refine tkL (v:=?v11x10) At.z.s.s.s.s.s.s.s.s.s.s.s (by kernel_rfl) (fun _ _ _ h=>h) rfl ?h11x10 hS ?_
     case h11x10=>intro _ s;(try dsimp only at s);go_simp;try with_reducible rfl
     try simp only [Act.put,sA,sB,sC]
     have n0:=HN.out.cell (i:=0) (by simp);have n1:=HN.out.cell (i:=1) (by simp);have n2:=HN.out.cell (i:=2) (by simp);have n3:=HN.out.cell (i:=3) (by simp);have m0:=HN.out.frozen 0;have m1:=HN.out.frozen 1;have m2:=HN.out.frozen 2;have m3:=HN.out.frozen 3;have HG:=zaa (zgp HT0.out HZ.out hD H1.out H2.out H3.out HN.out hbn' hbo' hbp');clear H1 H2 H3 HN hD hS;refine zf1 (m:=13) At.z.s.s.s.s.s.s.s.s.s.s.s.s.s (by kernel_rfl) (by kernel_rfl) (fun K hK=>?_);go_simp;refine hK.out _ _ ?_;clear hK K n0 n1 n2 n3 m0 m1 m2 m3
     go_wp2_with fail
     go_meet;exact ⟨_,_,_,_,_,_,_,_,rfl,HG.out⟩
   ·go_simp;have hb:=zab wA1 (.cells #[.bool false,.slice none 0 0,.slice none 0 0,.slice none 0 0] 42);have hrN:=zak wA1 42 #[.bool false,.slice none 0 0,.slice none 0 0,.slice none 0 0];obtain ⟨wA2,hwA2⟩:∃ wA2,wA2 = wA1.alloc (.cells #[.bool false,.slice none 0 0,.slice none 0 0,.slice none 0 0] 42):=⟨_,rfl⟩;obtain ⟨bn,hbn⟩:∃ bn,bn = wA1.heap.size:=⟨_,rfl⟩;rw [← hwA2] at hb hrN ⊢;rw [← hbn] at hrN ⊢
    have hbn':w.heap.size + 1 + 1 ≤ bn:=by have:=hD.size; omega
    clear hwA2 hbn;have hDn:=hD.trans (hb.mono hD.size);have hSn:=KS.out _ hDn;replace H1:=zaa (H1.out.but (K:=fun _=>True) (But.of_calls hb) trivial);have HN:=zaa hrN;refine hK.out _ _ hSn ?_;clear hK K hS hD hb hrN;clear wA1
    try simp only [Act.put,sA,sB,sC]
    have hS:=hSn;have hD:=hDn;clear hSn hDn;refine zbk (i:=7) At.z.s.s.s.s.s.s.s (by kernel_rfl) (fun K hK=>?_);go_simp;refine (zfs _ _ _ (zau d.points) _ (zbf d.points) (zdl (KF.out _ hD).2.1) (zcx d.points) hs2).mono ?_;rintro e wA3 ⟨u2,rfl,hown2,hb⟩;obtain ⟨bp,hO2,hbp⟩:=zcy hown2 rfl;obtain ⟨a5,cap2,rfl,-⟩:=id hO2
    have hbp':d.points.length ≠ 0 → w.heap.size + 1 + 1 ≤ bp:=fun z=>by have:=hD.size; have:=hbp z; omega
    clear hbp hown2;have hDn:=hD.trans (hb.mono hD.size);have hSn:=KS.out _ hDn;replace H1:=zaa (H1.out.but (K:=fun _=>True) (But.of_calls hb) trivial);replace HN:=zaa (zah HN.out hb);have H2:=zaa hO2;refine hK.out _ _ hSn ?_;clear hK K hS hD hb hO2;clear wA2
    try simp only [Act.put,sA,sB,sC]
    have hS:=hSn;have hD:=hDn;clear hSn hDn;refine zbk (i:=10) At.z.s.s.s.s.s.s.s.s.s.s (by kernel_rfl) (fun K hK=>?_);go_simp;refine (zee _ _ _ xs _ HX.out.1 (KX.out _ hD) HX.out.2 hs3).mono ?_;rintro e wA4 ⟨u3,rfl,hown3,hb⟩;obtain ⟨a6,cap3,rfl⟩:=zag hown3;have hO3:=zfg hown3 (show w.heap.size + 1 + 1 ≤ _ by have:=hD.size; omega);clear hown3;have hDn:=hD.trans (hb.mono hD.size);have hSn:=KS.out _ hDn;replace H1:=zaa (H1.out.but (K:=fun _=>True) (But.of_calls hb) trivial);replace HN:=zaa (zah HN.out hb);replace H2:=zaa (H2.out.but (K:=fun _=>True) (But.of_calls hb) fun _=>trivial);have H3:=zaa hO3;refine hK.out _ _ hSn ?_;clear hK K hS hD hb hO3;clear wA3
    try simp only [Act.put,sA,sB,sC]
    have hS:=hSn;have hD:=hDn;clear hSn hDn;refine tkL (v:=?v11x11) At.z.s.s.s.s.s.s.s.s.s.s.s (by kernel_rfl) (fun _ _ _ h=>h) rfl ?h11x11 hS ?_
    case h11x11=>intro _ s;(try dsimp only at s);go_simp;try with_reducible rfl
    try simp only [Act.put,sA,sB,sC]
    have n0:=HN.out.cell (i:=0) (by simp);have n1:=HN.out.cell (i:=1) (by simp);have n2:=HN.out.cell (i:=2) (by simp);have n3:=HN.out.cell (i:=3) (by simp);have m0:=HN.out.frozen 0;have m1:=HN.out.frozen 1;have m2:=HN.out.frozen 2;have m3:=HN.out.frozen 3;have HG:=zaa (zgp HT0.out HZ.out hD H1.out H2.out H3.out HN.out hbn' hbo' hbp');clear H1 H2 H3 HN hD hS;refine zf1 (m:=13) At.z.s.s.s.s.s.s.s.s.s.s.s.s.s (by kernel_rfl) (by kernel_rfl) (fun K hK=>?_);go_simp;refine hK.out _ _ ?_;clear hK K n0 n1 n2 n3 m0 m1 m2 m3
    go_wp2_with fail
    go_meet;exact ⟨_,_,_,_,_,_,_,_,rfl,HG.out⟩
  ·go_simp;have hb:=zab wA0 (.cells #[.bool false,.slice none 0 0,.slice none 0 0,.slice none 0 0] 42);have hrN:=zak wA0 42 #[.bool false,.slice none 0 0,.slice none 0 0,.slice none 0 0];obtain ⟨wA1,hwA1⟩:∃ wA1,wA1 = wA0.alloc (.cells #[.bool false,.slice none 0 0,.slice none 0 0,.slice none 0 0] 42):=⟨_,rfl⟩;obtain ⟨bn,hbn⟩:∃ bn,bn = wA0.heap.size:=⟨_,rfl⟩;rw [← hwA1] at hb hrN ⊢;rw [← hbn] at hrN ⊢
   have hbn':w.heap.size + 1 + 1 ≤ bn:=by have:=hD.size; omega
   clear hwA1 hbn;have hDn:=hD.trans (hb.mono hD.size);have hSn:=KS.out _ hDn;have HN:=zaa hrN;refine hK.out _ _ hSn ?_;clear hK K hS hD hb hrN;clear wA0
   try simp only [Act.put,sA,sB,sC]
   have hS:=hSn;have hD:=hDn;clear hSn hDn;refine zbk (i:=4) At.z.s.s.s.s (by kernel_rfl) (fun K hK=>?_);go_simp;refine (zed _ _ d.occ _ (KF.out _ hD).1 hs1 ho).mono ?_;rintro e wA2 ⟨u1,bo,rfl,hO1,hbo,hb⟩;obtain ⟨gB1,NB1,cap1,rfl,-⟩:=id hO1
   have hbo':w.heap.size + 1 + 1 ≤ bo:=by have:=hD.size; omega
   clear hbo;have hDn:=hD.trans (hb.mono hD.size);have hSn:=KS.out _ hDn;replace HN:=zaa (zah HN.out hb);have H1:=zaa hO1;refine hK.out _ _ hSn ?_;clear hK K hS hD hb hO1;clear wA1
   try simp only [Act.put,sA,sB,sC]
   have hS:=hSn;have hD:=hDn;clear hSn hDn;refine zbk (i:=7) At.z.s.s.s.s.s.s.s (by kernel_rfl) (fun K hK=>?_);go_simp;refine (zfs _ _ _ (zau d.points) _ (zbf d.points) (zdl (KF.out _ hD).2.1) (zcx d.points) hs2).mono ?_;rintro e wA3 ⟨u2,rfl,hown2,hb⟩;obtain ⟨bp,hO2,hbp⟩:=zcy hown2 rfl;obtain ⟨a5,cap2,rfl,-⟩:=id hO2
   have hbp':d.points.length ≠ 0 → w.heap.size + 1 + 1 ≤ bp:=fun z=>by have:=hD.size; have:=hbp z; omega
   clear hbp hown2;have hDn:=hD.trans (hb.mono hD.size);have hSn:=KS.out _ hDn;replace HN:=zaa (zah HN.out hb);replace H1:=zaa (H1.out.but (K:=fun _=>True) (But.of_calls hb) trivial);have H2:=zaa hO2;refine hK.out _ _ hSn ?_;clear hK K hS hD hb hO2;clear wA2
   try simp only [Act.put,sA,sB,sC]
   have hS:=hSn;have hD:=hDn;clear hSn hDn;refine zbk (i:=10) At.z.s.s.s.s.s.s.s.s.s.s (by kernel_rfl) (fun K hK=>?_);go_simp;refine (zee _ _ _ xs _ HX.out.1 (KX.out _ hD) HX.out.2 hs3).mono ?_;rintro e wA4 ⟨u3,rfl,hown3,hb⟩;obtain ⟨a6,cap3,rfl⟩:=zag hown3;have hO3:=zfg hown3 (show w.heap.size + 1 + 1 ≤ _ by have:=hD.size; omega);clear hown3;have hDn:=hD.trans (hb.mono hD.size);have hSn:=KS.out _ hDn;replace HN:=zaa (zah HN.out hb);replace H1:=zaa (H1.out.but (K:=fun _=>True) (But.of_calls hb) trivial);replace H2:=zaa (H2.out.but (K:=fun _=>True) (But.of_calls hb) fun _=>trivial);have H3:=zaa hO3;refine hK.out _ _ hSn ?_;clear hK K hS hD hb hO3;clear wA3
   try simp only [Act.put,sA,sB,sC]
   have hS:=hSn;have hD:=hDn;clear hSn hDn;refine tkL (v:=?v11x12) At.z.s.s.s.s.s.s.s.s.s.s.s (by kernel_rfl) (fun _ _ _ h=>h) rfl ?h11x12 hS ?_
   case h11x12=>intro _ s;(try dsimp only at s);go_simp;try with_reducible rfl
   try simp only [Act.put,sA,sB,sC]
   have n0:=HN.out.cell (i:=0) (by simp);have n1:=HN.out.cell (i:=1) (by simp);have n2:=HN.out.cell (i:=2) (by simp);have n3:=HN.out.cell (i:=3) (by simp);have m0:=HN.out.frozen 0;have m1:=HN.out.frozen 1;have m2:=HN.out.frozen 2;have m3:=HN.out.frozen 3;have HG:=zaa (zgp HT0.out HZ.out hD H1.out H2.out H3.out HN.out hbn' hbo' hbp');clear H1 H2 H3 HN hD hS;refine zf1 (m:=13) At.z.s.s.s.s.s.s.s.s.s.s.s.s.s (by kernel_rfl) (by kernel_rfl) (fun K hK=>?_);go_simp;refine hK.out _ _ ?_;clear hK K n0 n1 n2 n3 m0 m1 m2 m3
   go_wp2_with fail
   go_meet;exact ⟨_,_,_,_,_,_,_,_,rfl,HG.out⟩
 case rest=>
  obtain ⟨bn,cap1,a5,cap2,a6,cap3,bo,bp,rfl,CB,hown⟩:=hcut;rename World=>wc;have y3:wc.cell? ⟨bn,3,none⟩ = some (.slice a6 d.ways.length cap3):=CB.out.cell (i:=3) (by omega)
  obtain ⟨bw,hbw⟩:∃ bw,0 < d.ways.length → a6 = some ⟨bw,0,none⟩ ∧ w.heap.size + 1 + 1 ≤ bw ∧ ∃ f N,wc.rowIs bw 93 N f ∧ d.ways.length * 5 ≤ N ∧ HeldsM w wc (w.heap.size + 1 + 1) d.ways 0 f (fun _=>0):=by
   by_cases z:0 < d.ways.length
   ·obtain ⟨g,cap,f,hv,hg,hr,hN,hf⟩:=zdt hown z
    cases hv
    exact ⟨g,fun _=>⟨rfl,hg,f,_,hr,hN,zj5 HXC.out hf⟩⟩
   ·exact ⟨0,fun k=>absurd k z⟩
  have HBW:Hid (0 < d.ways.length → a6 = some ⟨bw,0,none⟩ ∧ w.heap.size + 1 + 1 ≤ bw):=fun z=>⟨(hbw z).1,(hbw z).2.1⟩;have HM0:Hid (0 < d.ways.length → ∃ f N,wc.rowIs bw 93 N f ∧ d.ways.length * 5 ≤ N ∧ HeldsM w wc (w.heap.size + 1 + 1) d.ways 0 f (fun _=>0)):=fun z=>(hbw z).2.2;have HCB:=zaa CB;clear hbw hown CB KX KF KS HX HXC;go_wp2
  go_loopw [21] (fun z wr=>∃ (k:Nat) (bb:Nat → Nat),k ≤ d.ways.length ∧ z = .int .i64 k ∧ CopyB w d wr bn (.slice (some ⟨bo,0,none⟩) d.occ.length cap1) (.slice a5 d.points.length cap2) (.slice a6 d.ways.length cap3) bo bp ∧
   (0 < d.ways.length → ∃ f N,wr.rowIs bw 93 N f ∧ d.ways.length * 5 ≤ N ∧ HeldsM w wr (w.heap.size + 1 + 1) d.ways k f bb) ∧ (∀ i j,i < k → j < k → bb i = bb j → i = j) ∧ ∀ i,i < k → bb i ≠ bo) (fun z _=>d.ways.length - (intOf z).toNat)
  case atStart=>exact ⟨0,fun _=>0,Nat.zero_le _,rfl,HCB.out,HM0.out,fun i j hi=>by omega,fun i hi=>by omega⟩
  case round=>
   obtain ⟨k,bb,hk,rfl,CB,hM,hinj,hoff⟩:=hrel;rename World=>wr;have HIN:=zaa hinj;have HOF:=zaa hoff;clear hinj hoff y3 HM0 HCB;by_cases hlt:k < d.ways.length
   ·obtain ⟨rfl,hbw⟩:=HBW.out (by omega);obtain ⟨f,N,hr,hN,hM⟩:=hM (by omega);obtain ⟨x,hx⟩:=zac d.ways (zaa rfl) hlt;obtain ⟨f0,f1,f3,f4,-,f2⟩:=hM k x hx;have hbe:=f2 (Nat.le_refl _);obtain ⟨a7,c7,f2,-⟩:=id hbe;rw [f2] at hbe;have g0:=hr.cell (i:=k * 5) (by omega);have g1:=hr.cell (i:=k * 5 + 1) (by omega);have g2:=hr.cell (i:=k * 5 + 2) (by omega);have g3:=hr.cell (i:=k * 5 + 3) (by omega);have g4:=hr.cell (i:=k * 5 + 4) (by omega);rw [f0] at g0;rw [f1] at g1;rw [f2] at g2;rw [f3] at g3;rw [f4] at g4;have hpos:=HB.out x (List.mem_of_getElem? hx);have hle:=H4.out x (List.mem_of_getElem? hx)
    have hlk:(k:Int) < (d.ways.length:Int):=by omega
    have y3:wr.cell? ⟨bn,3,none⟩ = some (.slice (some ⟨bw,0,none⟩) d.ways.length cap3):=CB.out.cell (i:=3) (by omega);have C0:=zaw wr 93 #[.int .i64 x.state,.int .i64 x.gone,.slice a7 x.been.length c7,.bool x.shown,.int .i64 x.timer];have HX:=zaa hx;have HBE:=zaa hbe;have HMM:=zaa hM;have HR:=zaa hr;have HCB:=zaa CB;clear f0 f1 f2 f3 f4 hbe hM hr CB hx
    go_wp2_with fail
    obtain ⟨W1,hW1⟩:∃ W1,W1 = wr.alloc (.cells #[.int .i64 x.state,.int .i64 x.gone,.slice a7 x.been.length c7,.bool x.shown,.int .i64 x.timer] 93):=⟨_,rfl⟩;rw [← hW1] at C0 ⊢
    have hks:∀ W,Below W1.heap.size W1 W → Below W1.heap.size W1 W ∧ W.cell? ⟨bn,3,none⟩ = some (.slice (some ⟨bw,0,none⟩) d.ways.length cap3) ∧ W.cell? ⟨wr.heap.size,2,none⟩ = some (.slice a7 x.been.length c7):=fun W hW=>by
     have hT:=C0.call hW;exact ⟨hW,ckb (ckb y3 C0.below) hW,hT.cell (j:=0) (i:=2) rfl rfl⟩
    have KS:=zaa hks;have HC0:=zaa C0.below;clear hks C0 hW1 g0 g1 g2 g3 g4 y3;refine zct (S:=fun W=>Below W1.heap.size W1 W ∧ W.cell? ⟨bn,3,none⟩ = some (.slice (some ⟨bw,0,none⟩) d.ways.length cap3) ∧ W.cell? ⟨wr.heap.size,2,none⟩ = some (.slice a7 x.been.length c7)) 8 (by kernel_rfl) (KS.out _ (zaf _)) (fun hS=>?_);have hD:=hS.1;obtain ⟨wA,hwA⟩:∃ wA,wA = W1.drew:=⟨_,rfl⟩;rw [← hwA] at hS hD ⊢;clear hwA;refine tkL (v:=?v0x13) At.z (by kernel_rfl) (fun _ _ _ h=>h) rfl ?h0x13 hS ?_
    case h0x13=>intro _ s;(try dsimp only at s);go_simp;try with_reducible rfl
    try simp only [Act.put,sA,sB,sC]
    refine tkL (v:=?v1x14) At.z.s (by kernel_rfl) (fun _ _ _ h=>h) rfl ?h1x14 hS ?_
    case h1x14=>intro _ s;(try dsimp only at s);go_simp;try with_reducible rfl
    try simp only [Act.put,sA,sB,sC]
    refine tkL (v:=?v2x15) At.z.s.s (by kernel_rfl) (fun _ _ _ h=>h) rfl ?h2x15 hS ?_
    case h2x15=>intro _ s;(try dsimp only at s);go_simp;try with_reducible rfl
    try simp only [Act.put,sA,sB,sC]
    refine tkL (v:=?v3x16) At.z.s.s.s (by kernel_rfl) (fun _ _ _ h=>h) rfl ?h3x16 hS ?_
    case h3x16=>intro _ s;(try dsimp only at s);go_simp;try with_reducible rfl
    try simp only [Act.put,sA,sB,sC]
    refine tkL (v:=?v4x17) At.z.s.s.s.s (by kernel_rfl) (fun _ _ _ h=>h) rfl ?h4x17 hS ?_
    case h4x17=>intro _ s;(try dsimp only at s);go_simp;try with_reducible rfl
    try simp only [Act.put,sA,sB,sC]
    have hbA:=HC0.out.trans (hD.mono HC0.out.size);have hwA:=HCB.out.below.trans (hbA.mono HCB.out.below.size);refine zbk (i:=5) At.z.s.s.s.s.s (by kernel_rfl) (fun K hK=>?_);go_simp;refine (zed _ _ x.been _ (HBE.out.keep (In.keep hwA).1 (In.keep hwA).2) hle hpos).mono ?_;rintro e wB ⟨u,b,rfl,hO,hbq,hb⟩;obtain ⟨gB,NB,capb,rfl,-⟩:=id hO;have hDn:=hD.trans (hb.mono hD.size);have hSn:=KS.out _ hDn;have hbB:=hbA.trans (hb.mono hbA.size);refine hK.out _ _ hSn ?_;have hsz:=hbA.size;clear hK K hS hD hb hbA hwA
    try simp only [Act.put,sA,sB,sC]
    refine zbk (i:=6) At.z.s.s.s.s.s.s (by kernel_rfl) (fun K hK=>?_);go_simp;refine hK.out _ _ hSn ?_;clear hK K
    try simp only [Act.put,sA,sB,sC]
    refine ze0 (i:=7) (v:=?vv7x18) At.z.s.s.s.s.s.s.s (by kernel_rfl) (by kernel_rfl) (by kernel_rfl) (by kernel_rfl) (fun _ _ _ h=>h) rfl ?hy7x18 hSn ?rest7x18
    case hy7x18=>(intro w' hSw; (try dsimp only at hSw); go_simp; try with_reducible rfl)
    try simp only [Act.put,sA,sB,sC]
    have hrB:=zah HR.out hbB;have g2:=hrB.cell (i:=k * 5 + 2) (by omega);have z2:=hrB.frozen (k * 5 + 2);have FIN:=zaa (zmt HCB.out HR.out HMM.out HX.out hbw hbB hO (Nat.le_trans hsz hbq) HIN.out HOF.out);clear hrB hO hDn hSn hbB;refine zf1 (m:=8) At.z.s.s.s.s.s.s.s.s (by kernel_rfl) (by kernel_rfl) (fun K hK=>?_);go_simp;refine hK.out _ _ ?_;clear hK K g2 z2;go_wp2;go_roundw
    case rel=>exact ⟨k + 1,_,by omega,by go_num,FIN.out.1,fun _=>⟨_,_,FIN.out.2.1,hN,FIN.out.2.2.1⟩,FIN.out.2.2.2.1,FIN.out.2.2.2.2⟩
    case measure=>simp [intOf]; omega
   ·obtain rfl:k = d.ways.length:=by omega
    obtain ⟨gR,hR⟩:=CB.res;have t0:wr.cell? ⟨bn,0,none⟩ = some (.bool d.ok):=CB.out.cell (i:=0) (by omega);have t1:wr.cell? ⟨bn,1,none⟩ = some (.slice (some ⟨bo,0,none⟩) d.occ.length cap1):=CB.out.cell (i:=1) (by omega);have t2:wr.cell? ⟨bn,2,none⟩ = some (.slice a5 d.points.length cap2):=CB.out.cell (i:=2) (by omega);have t3:wr.cell? ⟨bn,3,none⟩ = some (.slice a6 d.ways.length cap3):=CB.out.cell (i:=3) (by omega);have r0:=hR.cell (i:=0) (by omega);have r1:=hR.cell (i:=1) (by omega);have r2:=hR.cell (i:=2) (by omega);have r3:=hR.cell (i:=3) (by omega);have k0:=hR.frozen 0;have k1:=hR.frozen 1;have k2:=hR.frozen 2;have k3:=hR.frozen 3;have hfr:=zk6 CB hM HBW.out HIN.out HOF.out;have HF:=zaa hfr;have HCB:=zaa CB;clear hR CB hM hfr;go_wp2;refine bodyPost_ret (v:=.agg #[.bool d.ok,.slice (some ⟨bo,0,none⟩) d.occ.length cap1,.slice a5 d.points.length cap2,.slice a6 d.ways.length cap3]) (by simp [results,Tryz.results145,go_sem,r0,r1,r2,r3]) rfl ⟨_,_,_,bo,bp,bw,bb,rfl,?_,?_⟩
    ·have p:w.heap.size ≤ w.heap.size + 1:=by omega
     exact (((HCB.out.below.setCell (p:=⟨w.heap.size + 1,0,none⟩) p _).setCell (p:=⟨w.heap.size + 1,1,none⟩) p _).setCell (p:=⟨w.heap.size + 1,2,none⟩) p _).setCell (p:=⟨w.heap.size + 1,3,none⟩) p _
    ·have hk:∀ o:Nat,¬ ((fun c=>c ≠ w.heap.size + 1) (⟨w.heap.size + 1,o,none⟩:Addr).block):=fun o z=>z rfl;exact (HF.out.but (Q:=fun c=>w.heap.size + 1 + 1 ≤ c) (((((But.refl (fun c=>c ≠ w.heap.size + 1) wr).setCell (hk 0) _).setCell (hk 1) _).setCell (hk 2) _).setCell (hk 3) _) (fun c hc=>by omega) fun _ z=>z).bound fun c hc hl=>⟨by omega,hl⟩
end Go.Proofs.YtdhinkgjiapigabGreatDoor
