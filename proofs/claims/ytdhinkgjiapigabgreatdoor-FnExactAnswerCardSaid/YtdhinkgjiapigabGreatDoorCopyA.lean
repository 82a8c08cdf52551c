import Derived.Test.YtdhinkgjiapigabGreatDoorToA
import Derived.Test.YtdhinkgjiapigabGreatDoorSpec5
import Derived.OwnWalk
import Derived.Laws.AppendOwnNone
namespace Go.Proofs.YtdhinkgjiapigabGreatDoor
open Go.RowKit Go.Deep
theorem zhf {P:Program} {w:World} (base:Nat) (t ty e:TypeId) (i:TypeInfo) (size:Nat) (ht:P.underlying t = some (.slice e)) (hi:P.info? e = some i)
  (v:Value) (n:Nat) (xs:List Value) (hown:w.ownsRow base e size v n xs) (c:Nat) :
  (Builtin.append_ #[t,t] ty #[v,.slice none 0 c]).run P w = .ok v w:=by
 rcases hown.2 with ⟨rfl,rfl⟩ | ⟨g,cap,cur,rfl,_,_,hnc,_⟩
 ·simp [Builtin.append_,run_underlying ht,sizeOf,typeInfo,hi,Builtin.lenOf,Builtin.firstCells]
 ·simp [Builtin.append_,run_underlying ht,sizeOf,typeInfo,hi,Builtin.lenOf,Builtin.firstCells,hnc,storeCells]
theorem zai {P:Program} {w:World} {ops:Array Oper} {rest:List Oper} {o:Oper} {a:Act} {Q:Exit → Act → World → Prop} (hgd:o.guard = none) (s x:Operand) (t:TypeId)
  (ho:o.op = .call { callee:=.builtin .append,args:=#[s,x],argTypes:=#[t,t] })
  (base:Nat) (e:TypeId) (z:Value) (size bytes:Nat) (ht:P.underlying t = some (.slice e)) (hinfo:(P.info? e).map (fun i=>(i.zero,i.size,i.bytes)) = some (some z,size,bytes)) (hzs:z.cells.size = size) (hsz:0 < size)
  (v:Value) (n:Nat) (xs:List Value) (hs:a.eval s = v) (hown:w.ownsRow base e size v n xs)
  (ad:Option Addr) (m c:Nat) (news:List Value) (hx:a.eval x = .slice ad m c) (hl:news.length = m * size) (hnews:m = 0 ∨ ∃ A,ad = some A ∧ ∀ j u,news[j]? = some u → w.cell? (A.add j) = some u) (h1:∀ u ∈ news,u.oneCell' = true)
  (h63:n + m ≤ maxLen) (hbytes:(n + m) * bytes ≤ 140737488355328) (hbase:base ≤ w.heap.size)
  (h:∀ v' w',w'.ownsRow base e size v' (n + m) (xs ++ news) → w.grownBy w' v.ownBlock → wpList P ops Q rest (a.put o.dst v') w'):wpList P ops Q (o :: rest) a w:=by
 cases hi:P.info? e with
 | none=>rw [hi] at hinfo; cases hinfo
 | some i=>
  rw [hi] at hinfo;simp only [Option.map_some,Option.some.injEq,Prod.mk.injEq] at hinfo;obtain ⟨hz,hsize,hby⟩:=hinfo;rcases hnews with h0 | ⟨A,rfl,hn⟩
  ·subst h0;have e0:news = []:=List.length_eq_zero_iff.1 (by omega);subst e0
   cases ad with
   | some A=>exact wpList_append_own w hgd s x t ho base e i z size bytes ht hi hz hsize hby hzs hsz v n xs hs hown A 0 c [] hx hl (fun j u hu=>by simp at hu) h1 h63 hbytes hbase fun v' w' h2 h3 _=>h v' w' h2 h3
   | none=>
   refine wpList_plain hgd fun K hK=>?_;have hrun:=zhf (P:=P) (w:=w) base t o.type e i size ht hi v n xs hown c;unfold Oper.wp;simp [execOp,ho,resolve,invoke,builtin,hs,hx,hrun,Result.andThen];exact hK _ _ (h v w (by simpa using hown) ⟨rfl,rfl,rfl,Nat.le_refl _,fun _ _ _=>rfl⟩)
  ·exact wpList_append_own w hgd s x t ho base e i z size bytes ht hi hz hsize hby hzs hsz v n xs hs hown A m c news hx hl hn h1 h63 hbytes hbase fun v' w' h2 h3 _=>h v' w' h2 h3
theorem zdt {w:World} {base e size:Nat} {v:Value} {n:Nat} {xs:List Value} (h:w.ownsRow base e size v n xs) (hn:0 < n) :
  ∃ g cap f,v = .slice (some ⟨g,0,none⟩) n cap ∧ base ≤ g ∧ w.rowIs g e (cap * size) f ∧ n * size ≤ cap * size ∧ ∀ j u,xs[j]? = some u → f j = u:=by
 obtain ⟨hl,⟨-,h0⟩ | ⟨g,cap,cur,hv,hb,hh,hnc,-,hs,ht⟩⟩:=h
 ·omega
 ·refine ⟨g,cap,fun j=>cur[j]!,hv,hb,⟨cur,hh,hs,fun j hj=>?_⟩,Nat.mul_le_mul_right _ hnc,fun j u hu=>?_⟩
  ·show cur[j]? = some cur[j]!;rw [getElem!_pos cur j (by omega)];exact Array.getElem?_eq_getElem _
  ·rw [← ht,List.getElem?_take] at hu;split at hu
   ·rw [Array.getElem?_toList] at hu;show cur[j]! = u;rw [getElem!_def,hu]
   ·cases hu
theorem zhb {w:World} {base:Nat} {v:Value} {l:List Bool} {n:Nat} (h:w.ownsRow base 4 1 v n (l.map .bool)) (hl:n = l.length) (hn:0 < l.length):∃ b,OBools w v l b ∧ base ≤ b:=by
 subst hl;obtain ⟨g,cap,f,hv,hb,hr,hc,hf⟩:=zdt h hn;exact ⟨g,⟨f,_,cap,hv,hr,by omega,fun i x hx=>hf i _ (by rw [List.getElem?_map,hx]; rfl)⟩,hb⟩
def zau (l:List (Int × Int)):List Value:=l.flatMap fun x=>[.int .i64 x.1,.int .i64 x.2]
theorem zbf (l:List (Int × Int)):(zau l).length = l.length * 2:=by
 unfold zau
 induction l with
 | nil=>rfl
 | cons a l ih=>simp only [List.flatMap_cons,List.length_append,List.length_cons,List.length_nil]; omega
theorem zdi (l:List (Int × Int)) (i:Nat) (x:Int × Int) (h:l[i]? = some x):(zau l)[i * 2]? = some (.int .i64 x.1) ∧ (zau l)[i * 2 + 1]? = some (.int .i64 x.2):=by
 unfold zau
 induction l generalizing i with
 | nil=>simp at h
 | cons a l ih=>
  cases i with
  | zero=>simp at h; subst h; exact ⟨rfl,rfl⟩
  | succ i=>
   have:=ih i (by simpa using h);rw [List.flatMap_cons];refine ⟨?_,?_⟩
   ·rw [List.getElem?_append_right (by simp; omega)];simpa [show (i + 1) * 2 - 2 = i * 2 by omega] using this.1
   ·rw [List.getElem?_append_right (by simp; omega)];simpa [show (i + 1) * 2 + 1 - 2 = i * 2 + 1 by omega] using this.2
theorem zcy {w:World} {base:Nat} {v:Value} {l:List (Int × Int)} {n:Nat} (h:w.ownsRow base 90 2 v n (zau l)) (hl:n = l.length):∃ b,OPoints w v l b ∧ (l.length ≠ 0 → base ≤ b):=by
 subst hl;rcases Nat.eq_zero_or_pos l.length with e | e
 ·obtain ⟨-,⟨rfl,-⟩ | ⟨g,cap,cur,rfl,-⟩⟩:=h
  ·exact ⟨0,⟨none,0,by rw [e],.inl e⟩,fun z=>absurd e z⟩
  ·exact ⟨0,⟨_,cap,rfl,.inl e⟩,fun z=>absurd e z⟩
 ·obtain ⟨g,cap,f,rfl,hb,hr,hc,hf⟩:=zdt h e;exact ⟨g,⟨_,cap,rfl,.inr ⟨rfl,f,_,hr,hc,fun i x hx=>⟨hf _ _ (zdi l i x hx).1,hf _ _ (zdi l i x hx).2⟩⟩⟩,fun _=>hb⟩
theorem zbp (b o j:Nat):(⟨b,o,none⟩:Addr).add j = ⟨b,o + j,none⟩:=by simp [Addr.add]
theorem zfp {P:Nat → Prop} {W:World} {a:Option Addr} {l:List Bool} {c:Nat} (h:Bools P W (.slice a l.length c) l):l.length = 0 ∨ ∃ A,a = some A ∧ ∀ j u,(l.map Value.bool)[j]? = some u → W.cell? (A.add j) = some u:=by
 obtain ⟨a',c',hv,h0 | ⟨b,off,rfl,-,hc⟩⟩:=h
 ·exact .inl h0
 ·cases hv
  refine .inr ⟨_,rfl,fun j u hu=>?_⟩;rw [List.getElem?_map] at hu;obtain ⟨x,hx,rfl⟩:=Option.map_eq_some_iff.1 hu;rw [zbp];exact hc j (List.getElem?_eq_some_iff.1 hx).1 x hx
theorem zdl {P:Nat → Prop} {W:World} {a:Option Addr} {l:List (Int × Int)} {c:Nat} (h:Lies P W (.slice a l.length c) l):l.length = 0 ∨ ∃ A,a = some A ∧ ∀ j u,(zau l)[j]? = some u → W.cell? (A.add j) = some u:=by
 obtain ⟨a',c',hv,h0 | ⟨b,off,rfl,-,hc⟩⟩:=h
 ·exact .inl h0
 ·cases hv
  refine .inr ⟨_,rfl,fun j u hu=>?_⟩;have hj:=(List.getElem?_eq_some_iff.1 hu).1;rw [zbf] at hj;obtain ⟨x,hx⟩:∃ x,l[j / 2]? = some x:=⟨_,List.getElem?_eq_getElem (by omega)⟩;have hg:=zdi l (j / 2) x hx;have hr:=hc (j / 2) (by omega) x hx;rw [zbp];rcases Nat.mod_two_eq_zero_or_one j with e | e
  ·have ej:j / 2 * 2 = j:=by omega
   rw [ej] at hg hr;rw [hr.1];rw [hg.1] at hu;exact hu
  ·have ej:j / 2 * 2 + 1 = j:=by omega
   have ej2:off + j / 2 * 2 + 1 = off + j:=by omega
   rw [ej] at hg;rw [ej2] at hr;rw [hr.2];rw [hg.2] at hu;exact hu
theorem zha (l:List Bool):∀ u ∈ l.map Value.bool,u.oneCell' = true:=fun u hu=>by
 obtain ⟨x,-,rfl⟩:=List.mem_map.1 hu
 rfl
theorem zcx (l:List (Int × Int)):∀ u ∈ zau l,u.oneCell' = true:=fun u hu=>by
 obtain ⟨x,-,hx⟩:=List.mem_flatMap.1 hu
 simp at hx
 rcases hx with rfl | rfl <;> rfl
theorem zer {w w':World} (h:w.grownBy w' none):Below w.heap.size w w':=(Below.refl _ _).grown h (Nat.le_refl _) fun _ z=>by cases z
end Go.Proofs.YtdhinkgjiapigabGreatDoor
namespace Go.Proofs.YtdhinkgjiapigabGreatDoor
open Go.RowKit Go.Deep
def HeldsX (w:World) (m:Nat) (l:List HeldD) (k:Nat) (xs:List Value) (bb:Nat → Nat):Prop:=
 ∀ (j:Nat) x,j < k → l[j]? = some x → xs[j * 5]? = some (.int .i64 x.state) ∧ xs[j * 5 + 1]? = some (.int .i64 x.gone) ∧ (∃ u,xs[j * 5 + 2]? = some u ∧ OBools w u x.been (bb j)) ∧ xs[j * 5 + 3]? = some (.bool x.shown) ∧ xs[j * 5 + 4]? = some (.int .i64 x.timer) ∧ m ≤ bb j
structure CopyF (w:World) (ok:Bool) (v1 v2 v3:Value) (d:FrameD) (W:World) (u1 u2 u3:Value) (bo bp:Nat):Prop where
 below:Below w.heap.size w W
 box:W.rowIs w.heap.size 42 4 (fun i=>(#[.bool ok,v1,v2,v3]:Array Value)[i]!)
 res:∃ g,W.rowIs (w.heap.size + 1) 42 4 g
 out:W.rowIs (w.heap.size + 1 + 1) 42 4 (fun i=>(#[.bool ok,u1,u2,u3]:Array Value)[i]!)
 occ:OBools W u1 d.occ bo
 points:OPoints W u2 d.points bp
 po:w.heap.size + 1 + 1 + 1 ≤ bo
 pp:d.points.length ≠ 0 → w.heap.size + 1 + 1 + 1 ≤ bp
theorem CopyF.but {w:World} {ok:Bool} {v1 v2 v3:Value} {d:FrameD} {W W':World} {u1 u2 u3:Value} {bo bp:Nat} (h:CopyF w ok v1 v2 v3 d W u1 u2 u3 bo bp) {K:Nat → Prop} (hB:But K W W') (hk:∀ c,c < w.heap.size + 1 + 1 + 1 → K c) (h1:K bo) (h2:d.points.length ≠ 0 → K bp):CopyF w ok v1 v2 v3 d W' u1 u2 u3 bo bp:=
 ⟨h.below.trans (hB.below h.below.size fun c hc=>hk c (by omega)),hB.row h.box (hk _ (by omega)),h.res.imp fun _ z=>hB.row z (hk _ (by omega)),hB.row h.out (hk _ (by omega)),h.occ.but hB h1,h.points.but hB h2,h.po,h.pp⟩
theorem CopyF.call {w:World} {ok:Bool} {v1 v2 v3:Value} {d:FrameD} {W W':World} {u1 u2 u3:Value} {bo bp:Nat} (h:CopyF w ok v1 v2 v3 d W u1 u2 u3 bo bp) (hB:Below W.heap.size W W'):CopyF w ok v1 v2 v3 d W' u1 u2 u3 bo bp:=
 h.but (K:=fun _=>True) (But.of_calls hB) (fun _ _=>trivial) trivial fun _=>trivial
theorem CopyF.lay {w:World} {ok:Bool} {v1 v2 v3:Value} {d:FrameD} {W:World} {u1 u2 u3:Value} {bo bp:Nat} (h:CopyF w ok v1 v2 v3 d W u1 u2 u3 bo bp) (u:Value):CopyF w ok v1 v2 v3 d (W.setCell ⟨w.heap.size + 1 + 1,3,none⟩ u) u1 u2 u bo bp:=by
 have ne:∀ c:Nat,c ≠ w.heap.size + 1 + 1 → c ≠ (⟨w.heap.size + 1 + 1,3,none⟩:Addr).block:=fun c hc=>hc;refine ⟨h.below.setCell (by show w.heap.size ≤ w.heap.size + 1 + 1; omega) _,h.box.setOther (ne _ (by omega)) _,h.res.imp fun _ z=>z.setOther (ne _ (by omega)) _,?_,?_,?_,h.po,h.pp⟩
 ·refine (h.out.set 3 u).congr fun i hi=>?_;rcases i with _ | _ | _ | _ | i
  ·rfl
  ·rfl
  ·rfl
  ·rfl
  ·omega
 ·exact h.occ.of_block (Below.heap_setCell _ _ _ _ (ne _ (by have:=h.po; omega)))
 ·exact h.points.but (K:=fun c=>c ≠ w.heap.size + 1 + 1) ((But.refl _ _).setCell (fun z=>z rfl) _) fun z=>by have:=h.pp z; omega
theorem zhc {w:World} {base m:Nat} {v:Value} {l:List HeldD} {n:Nat} {xs:List Value} {bb:Nat → Nat} (h:w.ownsRow base 93 5 v n xs) (hX:HeldsX w m l n xs bb) (hl:n = l.length):∃ b,OHelds w v l b bb ∧ (l.length ≠ 0 → base ≤ b):=by
 subst hl;rcases Nat.eq_zero_or_pos l.length with e | e
 ·obtain ⟨-,⟨rfl,-⟩ | ⟨g,cap,cur,rfl,-⟩⟩:=h
  ·exact ⟨0,⟨none,0,by rw [e],.inl e⟩,fun z=>absurd e z⟩
  ·exact ⟨0,⟨_,cap,rfl,.inl e⟩,fun z=>absurd e z⟩
 ·obtain ⟨g,cap,f,rfl,hb,hr,hc,hf⟩:=zdt h e;refine ⟨g,⟨_,cap,rfl,.inr ⟨rfl,f,_,hr,hc,fun i x hx=>?_⟩⟩,fun _=>hb⟩;obtain ⟨h0,h1,⟨u,h2,h2'⟩,h3,h4,-⟩:=hX i x (List.getElem?_eq_some_iff.1 hx).1 hx;exact ⟨hf _ _ h0,hf _ _ h1,by rw [hf _ _ h2]; exact h2',hf _ _ h3,hf _ _ h4⟩
theorem zag {w:World} {base e size:Nat} {v:Value} {n:Nat} {xs:List Value} (h:w.ownsRow base e size v n xs):∃ a c,v = .slice a n c:=by
 obtain ⟨-,⟨rfl,rfl⟩ | ⟨g,cap,cur,rfl,-⟩⟩:=h
 ·exact ⟨_,_,rfl⟩
 ·exact ⟨_,_,rfl⟩
theorem zma (W:World) (n:Nat) (hn:W.heap.size = n):(W.alloc (.cells #[] 4)).ownsRow n 4 1 (.slice (some ⟨n,0,none⟩) 0 0) 0 []:=by
 subst hn;exact World.ownsRow_lit (base:=W.heap.size) (e:=4) (size:=1) W #[] 0 (Nat.le_refl _) (by unfold maxLen; omega) rfl
theorem za3 {K:Nat → Prop} {W W':World} {base e size:Nat} {v:Value} {n:Nat} {xs:List Value} (h:W.ownsRow base e size v n xs) (hB:But K W W') (hk:∀ g,v.ownBlock = some g → K g):W'.ownsRow base e size v n xs:=by
 obtain ⟨hl,h0 | ⟨g,cap,cur,hv,hb,hh,k⟩⟩:=h
 ·exact ⟨hl,.inl h0⟩
 ·refine ⟨hl,.inr ⟨g,cap,cur,hv,hb,?_,k⟩⟩;rw [hB.block g (by obtain ⟨hlt,_⟩:=Array.getElem?_eq_some_iff.1 hh; exact hlt) (hk g (by rw [hv]; rfl))];exact hh
theorem zat {W:World} {base e size:Nat} {v:Value} {n:Nat} {xs:List Value} (h:W.ownsRow base e size v n xs) {g:Nat} (hg:v.ownBlock = some g):base ≤ g ∧ g < W.heap.size ∧ ∀ t N f b,W.rowIs b t N f → t ≠ e → b ≠ g:=by
 obtain ⟨hl,⟨rfl,-⟩ | ⟨g',cap,cur,rfl,hb,hh,k⟩⟩:=h
 ·cases hg
 ·cases hg
  refine ⟨hb,by obtain ⟨hlt,_⟩:=Array.getElem?_eq_some_iff.1 hh; exact hlt,fun t N f b hr ht=>?_⟩;rintro rfl;obtain ⟨y,hy,-⟩:=hr;rw [hh] at hy
  cases hy
  exact ht rfl
theorem HeldsX.snoc {W W':World} {m:Nat} {l:List HeldD} {k:Nat} {xs:List Value} {bb:Nat → Nat} {x:HeldD} {u:Value} {b:Nat} (h:HeldsX W m l k xs bb) (hl:xs.length = k * 5) (hx:l[k]? = some x) (hu:OBools W' u x.been b) (hb:m ≤ b)
  (hk:∀ j y v,j < k → l[j]? = some y → OBools W v y.been (bb j) → OBools W' v y.been (bb j)) :
  HeldsX W' m l (k + 1) (xs ++ [.int .i64 x.state,.int .i64 x.gone,u,.bool x.shown,.int .i64 x.timer]) (fun j=>if j = k then b else bb j):=by
 intro j y hj hy;by_cases e:j = k
 ·subst e;rw [hx] at hy
  cases hy
  simp only [if_true];refine ⟨?_,?_,⟨u,?_,hu⟩,?_,?_,hb⟩
  ·rw [List.getElem?_append_right (by omega),hl,Nat.sub_self]; rfl
  ·rw [List.getElem?_append_right (by omega),hl,show j * 5 + 1 - j * 5 = 1 by omega]; rfl
  ·rw [List.getElem?_append_right (by omega),hl,show j * 5 + 2 - j * 5 = 2 by omega]; rfl
  ·rw [List.getElem?_append_right (by omega),hl,show j * 5 + 3 - j * 5 = 3 by omega]; rfl
  ·rw [List.getElem?_append_right (by omega),hl,show j * 5 + 4 - j * 5 = 4 by omega]; rfl
 ·obtain ⟨h0,h1,⟨v,h2,h2'⟩,h3,h4,h5⟩:=h j y (by omega) hy;simp only [if_neg e];refine ⟨?_,?_,⟨v,?_,hk j y v (by omega) hy h2'⟩,?_,?_,h5⟩
  ·rw [List.getElem?_append_left (by omega)]; exact h0
  ·rw [List.getElem?_append_left (by omega)]; exact h1
  ·rw [List.getElem?_append_left (by omega)]; exact h2
  ·rw [List.getElem?_append_left (by omega)]; exact h3
  ·rw [List.getElem?_append_left (by omega)]; exact h4
set_option maxRecDepth 100000 in
set_option maxHeartbeats 4000000 in
theorem zic (ok:Bool) (v1 v2 v3:Value) (d:FrameD) (w:World) (hv:FrameAt (In w) w v1 v2 v3 d) (hs:d.Small 1048576) (ho:0 < d.occ.length) (hb:∀ x ∈ d.ways,0 < x.been.length) :
  Calls Tryz.prog 67 #[.agg #[.bool ok,v1,v2,v3]] w fun e w'=>∃ u1 u2 u3 bo bp bw bb,e = .returned (.agg #[.bool ok,u1,u2,u3]) ∧ Below w.heap.size w w' ∧ OFrame (New w w') w' u1 u2 u3 d bo bp bw bb:=by
 obtain ⟨hs1,hs2,hs3,hs4⟩:=hs;obtain ⟨h1,h2,h3⟩:=hv;obtain ⟨a1,c1,rfl,q1⟩:=h1;obtain ⟨a2,c2,rfl,q2⟩:=h2;obtain ⟨a3,c3,rfl,q3⟩:=h3;obtain q1 | ⟨b1,o1,rfl,hb1,q1⟩:=q1
 ·omega
 have T0:=zbs w 42 42 42 #[.bool ok,.slice (some ⟨b1,o1,none⟩) d.occ.length c1,.slice a2 d.points.length c2,.slice a3 d.ways.length c3] #[.bool false,.slice none 0 0,.slice none 0 0,.slice none 0 0] #[.bool ok,.slice none 0 0,.slice none 0 0,.slice none 0 0]
 have hF:∀ {W:World},Below w.heap.size w W → Bools (In W) W (.slice (some ⟨b1,o1,none⟩) d.occ.length c1) d.occ ∧ Lies (In W) W (.slice a2 d.points.length c2) d.points:=fun hW=>
  ⟨Bools.keep ⟨_,_,rfl,.inr ⟨b1,o1,rfl,hb1,q1⟩⟩ (In.keep hW).1 (In.keep hW).2,Lies.keep ⟨_,_,rfl,q2⟩ (In.keep hW).1 (In.keep hW).2⟩
 have N1:=zaa (zfp (hF T0.below).1)
 have N1l:Hid ((d.occ.map Value.bool).length = d.occ.length * 1):=by rw [List.length_map,Nat.mul_one]; rfl
 have N1o:=zaa (zha d.occ);have HF:Hid (∀ W:World,Below w.heap.size w W → Bools (In W) W (.slice (some ⟨b1,o1,none⟩) d.occ.length c1) d.occ ∧ Lies (In W) W (.slice a2 d.points.length c2) d.points):=fun W hW=>hF hW;have HQ3:=zaa q3;have H4:=zaa hs4;have HB:=zaa hb;obtain ⟨nw1,hnw1⟩:∃ nw,nw = d.occ.map Value.bool:=⟨_,rfl⟩;have HN1:=zaa hnw1;rw [← hnw1] at N1 N1l N1o;have HT0:=zaa T0
 have hz3:w.heap.size + 1 + 1 + 1 ≤ (((w.alloc (.cells #[.bool ok,.slice (some ⟨b1,o1,none⟩) d.occ.length c1,.slice a2 d.points.length c2,.slice a3 d.ways.length c3] 42)).alloc (.cells #[.bool false,.slice none 0 0,.slice none 0 0,.slice none 0 0] 42)).alloc (.cells #[.bool ok,.slice none 0 0,.slice none 0 0,.slice none 0 0] 42)).heap.size:=by simp
 have HZ3:=zaa hz3
 have HM1:Hid (0 + d.occ.length ≤ maxLen):=by show 0 + d.occ.length ≤ maxLen; unfold maxLen; omega
 have HM2:Hid ((0 + d.occ.length) * 1 ≤ 140737488355328):=by show (0 + d.occ.length) * 1 ≤ 140737488355328; omega
 clear q1 q2 q3 hs4 hb hF hnw1 T0 hz3;go_enter Tryz.func67,Tryz.ntmps67
 go_wp2_with (at_builtin; refine zai rfl _ _ 27 rfl (w.heap.size + 1 + 1 + 1) 4 (.bool false) 1 1 Tryz.underlying27 Tryz.infoBool rfl (by decide) (.slice none 0 0) 0 [] rfl (World.ownsRow_nil _ _ _ _) _ d.occ.length c1 nw1 rfl N1l.out N1.out N1o.out HM1.out HM2.out HZ3.out ?_)
 intro u1 w1 hown1 hgr1;have hb01:=zer hgr1;have T1:=HT0.out.call hb01;obtain ⟨bo,hO1,hbo⟩:=zhb (l:=d.occ) (n:=0 + d.occ.length) (by rw [← HN1.out]; simpa using hown1) (by omega) ho;obtain ⟨g1,M1,cap1,rfl,hg1,hM1,hgx1⟩:=id hO1;have x2:w1.cell? ⟨w.heap.size,2,none⟩ = some (.slice a2 d.points.length c2):=T1.cell (j:=0) (i:=2) rfl rfl;have y1:w1.cell? ⟨w.heap.size + 1 + 1,1,none⟩ = some (.slice none 0 0):=T1.cell (j:=2) (i:=1) rfl rfl;have y2:w1.cell? ⟨w.heap.size + 1 + 1,2,none⟩ = some (.slice none 0 0):=T1.cell (j:=2) (i:=2) rfl rfl;have z1:=T1.frozen (j:=2) 1 rfl;have B1:Below w.heap.size w (w1.setCell ⟨w.heap.size + 1 + 1,1,none⟩ (.slice (some ⟨bo,0,none⟩) d.occ.length cap1)):=T1.below.setCell (by show w.heap.size ≤ w.heap.size + 1 + 1; omega) _;have N2:=zaa (zdl (HF.out _ B1).2);have N2l:=zaa (zbf d.points);have N2o:=zaa (zcx d.points)
 have HM3:Hid (0 + d.points.length ≤ maxLen):=by show 0 + d.points.length ≤ maxLen; unfold maxLen; omega
 have HM4:Hid ((0 + d.points.length) * 16 ≤ 140737488355328):=by show (0 + d.points.length) * 16 ≤ 140737488355328; omega
 have hsz1:w.heap.size + 1 + 1 + 1 ≤ (w1.setCell ⟨w.heap.size + 1 + 1,1,none⟩ (.slice (some ⟨bo,0,none⟩) d.occ.length cap1)).heap.size:=by
  have:=T1.lt (j:=2) rfl;rw [World.size_setCell];omega
 have HZ4:=zaa hsz1;obtain ⟨nw2,hnw2⟩:∃ nw,nw = zau d.points:=⟨_,rfl⟩;have HN2:=zaa hnw2;rw [← hnw2] at N2 N2l N2o;have HT1:=zaa T1;have HB1:=zaa B1;have HO1:=zaa hO1;clear T1 B1 hsz1 hnw2 hown1 hgr1 hb01 HT0 HZ3 N1 N1l N1o hO1 hgx1 hg1 hM1
 go_wp2_with (at_builtin; refine zai rfl _ _ 39 rfl (w.heap.size + 1 + 1 + 1) 90 (.agg #[.int .i64 0,.int .i64 0]) 2 16 Tryz.underlying39 Tryz.infoPoint rfl (by decide) (.slice none 0 0) 0 [] rfl (World.ownsRow_nil _ _ _ _) _ d.points.length c2 nw2 rfl N2l.out N2.out N2o.out HM3.out HM4.out HZ4.out ?_)
 intro u2 w2 hown2 hgr2;have hb02:=zer hgr2;obtain ⟨bp,hO2,hbp⟩:=zcy (l:=d.points) (n:=0 + d.points.length) (by rw [← HN2.out]; simpa using hown2) (by omega)
 have CF:CopyF w ok (.slice (some ⟨b1,o1,none⟩) d.occ.length c1) (.slice a2 d.points.length c2) (.slice a3 d.ways.length c3) d (w2.setCell ⟨w.heap.size + 1 + 1,2,none⟩ u2) (.slice (some ⟨bo,0,none⟩) d.occ.length cap1) u2 (.slice none 0 0) bo bp:=by
  have ne:∀ (c o:Nat),c ≠ w.heap.size + 1 + 1 → c ≠ (⟨w.heap.size + 1 + 1,o,none⟩:Addr).block:=fun c o hc=>hc;have r0:=(zal ((HT1.out.row 0 _ _ rfl).setOther (ne _ 1 (by omega)) (.slice (some ⟨bo,0,none⟩) d.occ.length cap1)) hb02).setOther (ne _ 2 (by omega)) u2;have r1:=(zal ((HT1.out.row 1 _ _ rfl).setOther (ne _ 1 (by omega)) (.slice (some ⟨bo,0,none⟩) d.occ.length cap1)) hb02).setOther (ne _ 2 (by omega)) u2;have r2:=(zal ((HT1.out.row 2 _ _ rfl).set 1 (.slice (some ⟨bo,0,none⟩) d.occ.length cap1)) hb02).set 2 u2;refine ⟨(HB1.out.trans (hb02.mono HB1.out.size)).setCell (by show w.heap.size ≤ w.heap.size + 1 + 1; omega) _,r0,⟨_,r1⟩,r2.congr fun i hi=>?_,?_,?_,hbo,hbp⟩
  ·rcases i with _ | _ | _ | _ | i
   ·rfl
   ·rfl
   ·rfl
   ·rfl
   ·simp at hi; omega
  ·refine OBools.of_block (w:=w2) ?_ (Below.heap_setCell _ _ _ _ (ne _ 2 (by omega)));refine OBools.but (K:=fun _=>True) ?_ (But.of_calls hb02) trivial;exact HO1.out.of_block (Below.heap_setCell _ _ _ _ (ne _ 1 (by omega)))
  ·exact hO2.but (K:=fun c=>c ≠ w.heap.size + 1 + 1) ((But.refl _ _).setCell (fun z=>z rfl) _) fun z=>by have:=hbp z; omega
 obtain ⟨a5,cap2,rfl,-⟩:=id hO2;have T2:=zal ((HT1.out.row 2 _ _ rfl).set 1 (.slice (some ⟨bo,0,none⟩) d.occ.length cap1)) hb02;have y2':=T2.cell (i:=2) (by simp);have z2:=T2.frozen 2;have x3:(w2.setCell ⟨w.heap.size + 1 + 1,2,none⟩ (.slice a5 d.points.length cap2)).cell? ⟨w.heap.size,3,none⟩ = some (.slice a3 d.ways.length c3):=CF.box.cell (i:=3) (by omega);have HCF:=zaa CF;clear CF T2 hO2 hown2 hgr2 hb02 x2 y1 y2 z1 HT1 HB1 HO1 HZ4 N2 N2l N2o;go_wp2
 go_loopw [25] (fun z wr=>∃ (k:Nat) (xs:List Value) (u3:Value) (bb:Nat → Nat),k ≤ d.ways.length ∧ z = .int .i64 k ∧ CopyF w ok (.slice (some ⟨b1,o1,none⟩) d.occ.length c1) (.slice a2 d.points.length c2) (.slice a3 d.ways.length c3) d wr (.slice (some ⟨bo,0,none⟩) d.occ.length cap1) (.slice a5 d.points.length cap2) u3 bo bp ∧
  wr.ownsRow (w.heap.size + 1 + 1 + 1) 93 5 u3 k xs ∧ HeldsX wr (w.heap.size + 1 + 1 + 1) d.ways k xs bb ∧ (∀ i j,i < k → j < k → bb i = bb j → i = j) ∧ ∀ i,i < k → bb i ≠ bo) (fun z _=>d.ways.length - (intOf z).toNat)
 case atStart=>exact ⟨0,[],.slice none 0 0,fun _=>0,Nat.zero_le _,rfl,HCF.out,World.ownsRow_nil _ _ _ _,fun j _ hj=>by omega,fun i j hi=>by omega,fun i hi=>by omega⟩
 case round=>
  obtain ⟨k,xs,u3,bb,hk,rfl,CF,hown,hX,hinj,hoff⟩:=hrel;have HX:=zaa hX;have HIN:=zaa hinj;have HOF:=zaa hoff;clear hX hinj hoff;by_cases hlt:k < d.ways.length
  ·obtain h0 | ⟨b3,o3,rfl,hb3,hc3⟩:=HQ3.out
   ·omega
   obtain ⟨x,hx⟩:=zac d.ways (zaa rfl) hlt;obtain ⟨v2,hbe,g0,g1,g2,g3,g4⟩:=hc3 k hlt x hx;have hbe2:=hbe.keep (In.keep CF.below).1 (In.keep CF.below).2;rw [← CF.below.cell (p:=⟨b3,_,none⟩) hb3] at g0 g1 g2 g3 g4;obtain ⟨a6,c6,rfl,-⟩:=id hbe;have hpos:=HB.out x (List.mem_of_getElem? hx);have hle:=H4.out x (List.mem_of_getElem? hx);have Hx:=zaa hx;clear hc3 hx hbe;have C0:=zbs wr 93 93 4 #[.int .i64 x.state,.int .i64 x.gone,.slice a6 x.been.length c6,.bool x.shown,.int .i64 x.timer] #[.int .i64 x.state,.int .i64 x.gone,.slice a6 x.been.length c6,.bool x.shown,.int .i64 x.timer] #[];have hbe3:=hbe2.keep (In.keep C0.below).1 (In.keep C0.below).2;have N3:=zaa (zfp hbe3)
   have N3l:Hid ((x.been.map Value.bool).length = x.been.length * 1):=by rw [List.length_map,Nat.mul_one]; rfl
   have N3o:=zaa (zha x.been)
   have HM5:Hid (0 + x.been.length ≤ maxLen):=by show 0 + x.been.length ≤ maxLen; unfold maxLen; omega
   have HM6:Hid ((0 + x.been.length) * 1 ≤ 140737488355328):=by show (0 + x.been.length) * 1 ≤ 140737488355328; omega
   obtain ⟨nw3,hnw3⟩:∃ nw,nw = x.been.map Value.bool:=⟨_,rfl⟩;have HN3:=zaa hnw3;rw [← hnw3] at N3 N3l N3o;have OW:=zaa (zma ((wr.alloc (.cells #[.int .i64 x.state,.int .i64 x.gone,.slice a6 x.been.length c6,.bool x.shown,.int .i64 x.timer] 93)).alloc (.cells #[.int .i64 x.state,.int .i64 x.gone,.slice a6 x.been.length c6,.bool x.shown,.int .i64 x.timer] 93)) (wr.heap.size + 1 + 1) (by simp));have HZ5:Hid (wr.heap.size + 1 + 1 ≤ (((wr.alloc (.cells #[.int .i64 x.state,.int .i64 x.gone,.slice a6 x.been.length c6,.bool x.shown,.int .i64 x.timer] 93)).alloc (.cells #[.int .i64 x.state,.int .i64 x.gone,.slice a6 x.been.length c6,.bool x.shown,.int .i64 x.timer] 93)).alloc (.cells #[] 4)).heap.size):=Nat.le_of_lt (C0.lt (j:=2) rfl);have HC0:=zaa C0;have HCF:=zaa CF;have HOW:=zaa hown;clear hnw3 C0 hbe3 hbe2 CF hown
   go_wp2_with (at_builtin; refine zai rfl _ _ 27 rfl (wr.heap.size + 1 + 1) 4 (.bool false) 1 1 Tryz.underlying27 Tryz.infoBool rfl (by decide) (.slice (some ⟨wr.heap.size + 1 + 1,0,none⟩) 0 0) 0 [] rfl OW.out _ x.been.length c6 nw3 rfl N3l.out N3.out N3o.out HM5.out HM6.out HZ5.out ?_)
   intro u4 w4 hown4 hgr4;obtain ⟨b4,hO4,hb4⟩:=zhb (l:=x.been) (n:=0 + x.been.length) (by rw [← HN3.out]; simpa using hown4) (by omega) hpos;obtain ⟨g4',M4,cap4,rfl,hg4,hM4,hgx4⟩:=id hO4
   have hbl4:Below (wr.heap.size + 1 + 1) (((wr.alloc (.cells #[.int .i64 x.state,.int .i64 x.gone,.slice a6 x.been.length c6,.bool x.shown,.int .i64 x.timer] 93)).alloc (.cells #[.int .i64 x.state,.int .i64 x.gone,.slice a6 x.been.length c6,.bool x.shown,.int .i64 x.timer] 93)).alloc (.cells #[] 4)) w4:=
    (Below.refl _ _).grown hgr4 HZ5.out fun z hz=>by cases hz; exact Nat.le_refl _
   have hbw4:Below wr.heap.size wr w4:=HC0.out.below.trans (hbl4.mono (by omega));have hsz4:wr.heap.size + 1 + 1 ≤ w4.heap.size:=Nat.le_trans HZ5.out hbl4.size;have rx:=(HC0.out.row 1 _ _ rfl).of_block (hbl4.block _ (by omega));have e0:w4.cell? ⟨wr.heap.size + 1,0,none⟩ = some (.int .i64 x.state):=rx.cell (i:=0) (by simp);have e1:w4.cell? ⟨wr.heap.size + 1,1,none⟩ = some (.int .i64 x.gone):=rx.cell (i:=1) (by simp);have e2:w4.cell? ⟨wr.heap.size + 1,2,none⟩ = some (.slice a6 x.been.length c6):=rx.cell (i:=2) (by simp);have e3:w4.cell? ⟨wr.heap.size + 1,3,none⟩ = some (.bool x.shown):=rx.cell (i:=3) (by simp);have e4:w4.cell? ⟨wr.heap.size + 1,4,none⟩ = some (.int .i64 x.timer):=rx.cell (i:=4) (by simp);have f2:=rx.frozen 2;have CF4:=HCF.out.call hbw4;obtain ⟨a7,cap7,rfl⟩:=zag HOW.out;have y3:w4.cell? ⟨w.heap.size + 1 + 1,3,none⟩ = some (.slice a7 k cap7):=CF4.out.cell (i:=3) (by omega);have hS:w.heap.size + 1 + 1 < wr.heap.size:=HCF.out.out.lt;have HOW4:=za3 (K:=fun _=>True) HOW.out (But.of_calls hbw4) fun _ _=>trivial;have BY:But (fun c=>c < wr.heap.size) wr ((w4.setCell ⟨wr.heap.size + 1,2,none⟩ (.slice (some ⟨b4,0,none⟩) x.been.length cap4)).alloc (.cells #[.int .i64 x.state,.int .i64 x.gone,(.slice (some ⟨b4,0,none⟩) x.been.length cap4),.bool x.shown,.int .i64 x.timer] 93)):=((But.of_calls hbw4).setNew (by show wr.heap.size ≤ wr.heap.size + 1; omega) _).alloc _
   have hzY:((w4.setCell ⟨wr.heap.size + 1,2,none⟩ (.slice (some ⟨b4,0,none⟩) x.been.length cap4)).alloc (.cells #[.int .i64 x.state,.int .i64 x.gone,(.slice (some ⟨b4,0,none⟩) x.been.length cap4),.bool x.shown,.int .i64 x.timer] 93)).heap.size = w4.heap.size + 1:=by simp
   have hwY:w.heap.size + 1 + 1 + 1 ≤ ((w4.setCell ⟨wr.heap.size + 1,2,none⟩ (.slice (some ⟨b4,0,none⟩) x.been.length cap4)).alloc (.cells #[.int .i64 x.state,.int .i64 x.gone,(.slice (some ⟨b4,0,none⟩) x.been.length cap4),.bool x.shown,.int .i64 x.timer] 93)).heap.size:=by rw [hzY]; omega
   have OWY:=zaa (za3 HOW.out BY fun g hg=>(zat HOW.out hg).2.1)
   have SRC:Hid (1 = 0 ∨ ∃ A,(some (⟨w4.heap.size,0,none⟩:Addr)) = some A ∧ ∀ j u,([.int .i64 x.state,.int .i64 x.gone,(.slice (some ⟨b4,0,none⟩) x.been.length cap4),.bool x.shown,.int .i64 x.timer]:List Value)[j]? = some u → ((w4.setCell ⟨wr.heap.size + 1,2,none⟩ (.slice (some ⟨b4,0,none⟩) x.been.length cap4)).alloc (.cells #[.int .i64 x.state,.int .i64 x.gone,(.slice (some ⟨b4,0,none⟩) x.been.length cap4),.bool x.shown,.int .i64 x.timer] 93)).cell? (A.add j) = some u):=by
    refine .inr ⟨_,rfl,fun j u hj=>?_⟩;rw [zbp,Nat.zero_add];have h5:=(zak (w4.setCell ⟨wr.heap.size + 1,2,none⟩ (.slice (some ⟨b4,0,none⟩) x.been.length cap4)) 93 #[.int .i64 x.state,.int .i64 x.gone,(.slice (some ⟨b4,0,none⟩) x.been.length cap4),.bool x.shown,.int .i64 x.timer]);rw [World.size_setCell] at h5;have hj5:j < 5:=(List.getElem?_eq_some_iff.1 hj).1;rw [h5.cell (by simpa using hj5)];rcases j with _ | _ | _ | _ | _ | j
    ·exact hj
    ·exact hj
    ·exact hj
    ·exact hj
    ·exact hj
    ·omega
   have ONE:Hid (∀ u ∈ ([.int .i64 x.state,.int .i64 x.gone,(.slice (some ⟨b4,0,none⟩) x.been.length cap4),.bool x.shown,.int .i64 x.timer]:List Value),u.oneCell' = true):=by
    intro u hu;simp at hu
    rcases hu with rfl | rfl | rfl | rfl | rfl <;> rfl
   have HM7:Hid (k + 1 ≤ maxLen):=by show k + 1 ≤ maxLen; unfold maxLen; omega
   have HM8:Hid ((k + 1) * 56 ≤ 140737488355328):=by show (k + 1) * 56 ≤ 140737488355328; omega
   have HZY:=zaa hwY;have HO4:=zaa hO4;have HBY:=zaa BY;have HHZ:=zaa hzY;have HBW4:=zaa hbw4;clear BY hzY hwY hown4 hgr4 hO4 hg4 hM4 hgx4 hbl4 hbw4 rx CF4 HOW4 N3 N3l N3o OW HZ5 HC0
   go_wp2_with (at_builtin; refine zai rfl _ _ 40 rfl (w.heap.size + 1 + 1 + 1) 93 (.agg #[.int .i64 0,.int .i64 0,.slice none 0 0,.bool false,.int .i64 0]) 5 56 Tryz.underlying40 Tryz.infoHeld rfl (by decide) (.slice a7 k cap7) k xs rfl OWY.out (some ⟨w4.heap.size,0,none⟩) 1 1 [.int .i64 x.state,.int .i64 x.gone,(.slice (some ⟨b4,0,none⟩) x.been.length cap4),.bool x.shown,.int .i64 x.timer] rfl rfl SRC.out ONE.out HM7.out HM8.out HZY.out ?_)
   intro u5 w5 hown5 hgr5;obtain ⟨a8,cap8,rfl⟩:=zag hown5;have hlt4:∀ c,c < wr.heap.size → c < ((w4.setCell ⟨wr.heap.size + 1,2,none⟩ (.slice (some ⟨b4,0,none⟩) x.been.length cap4)).alloc (.cells #[.int .i64 x.state,.int .i64 x.gone,(.slice (some ⟨b4,0,none⟩) x.been.length cap4),.bool x.shown,.int .i64 x.timer] 93)).heap.size:=fun c hc=>Nat.lt_of_lt_of_le hc HBY.out.size
   have B5:But (fun c=>c < wr.heap.size ∧ some c ≠ (Value.slice a7 k cap7).ownBlock) wr w5:=
    ⟨hgr5.os.trans HBY.out.os,hgr5.tape.trans HBY.out.tape,hgr5.output.trans HBY.out.output,Nat.le_trans HBY.out.size hgr5.size,fun c hc hk=>(hgr5.block c (hlt4 c hc) hk.2).trans (HBY.out.block c hc hk.1)⟩
   have hty:∀ {t N:Nat} {f:Nat → Value} {c:Nat},wr.rowIs c t N f → t ≠ 93 → c < wr.heap.size ∧ some c ≠ (Value.slice a7 k cap7).ownBlock:=fun hr ht=>⟨hr.lt,fun e=>(zat HOW.out e.symm).2.2 _ _ _ _ hr ht rfl⟩
   have hO:∀ {v:Value} {l:List Bool} {b:Nat},OBools wr v l b → OBools w5 v l b:=fun hb=>hb.but B5 (by
    obtain ⟨f,N,c,-,hr,-⟩:=hb
    exact hty hr (by decide))
   have CF5:CopyF w ok (.slice (some ⟨b1,o1,none⟩) d.occ.length c1) (.slice a2 d.points.length c2) (.slice (some ⟨b3,o3,none⟩) d.ways.length c3) d w5 (.slice (some ⟨bo,0,none⟩) d.occ.length cap1) (.slice a5 d.points.length cap2) (.slice a7 k cap7) bo bp:=by
    refine HCF.out.but B5 (fun c hc=>⟨by omega,fun e=>by have:=(zat HOW.out e.symm).1; omega⟩) ?_ fun z=>?_
    ·obtain ⟨f,N,c,-,hr,-⟩:=HCF.out.occ;exact hty hr (by decide)
    ·obtain ⟨_,_,_,h0 | ⟨_,f,N,hr,_⟩⟩:=HCF.out.points
     ·exact absurd h0 z
     ·exact hty hr (by decide)
   have y3':w5.cell? ⟨w.heap.size + 1 + 1,3,none⟩ = some (.slice a7 k cap7):=CF5.out.cell (i:=3) (by omega);have z3':=CF5.out.frozen 3
   have hnb:∀ c,w.heap.size + 1 + 1 + 1 ≤ c → c ≠ (⟨w.heap.size + 1 + 1,3,none⟩:Addr).block:=fun c hc=>by show c ≠ w.heap.size + 1 + 1; omega
   have hb45:OBools (w5.setCell ⟨w.heap.size + 1 + 1,3,none⟩ (.slice a8 (k + 1) cap8)) (.slice (some ⟨b4,0,none⟩) x.been.length cap4) x.been b4:=by
    refine OBools.of_block (w:=w5) ?_ (Below.heap_setCell _ _ _ _ (hnb _ (by omega)));refine OBools.of_block (w:=((w4.setCell ⟨wr.heap.size + 1,2,none⟩ (.slice (some ⟨b4,0,none⟩) x.been.length cap4)).alloc (.cells #[.int .i64 x.state,.int .i64 x.gone,(.slice (some ⟨b4,0,none⟩) x.been.length cap4),.bool x.shown,.int .i64 x.timer] 93))) ?_ (hgr5.block b4 (by rw [HHZ.out]; have:=HO4.out.lt; omega) (fun e=>by have:=(zat HOW.out e.symm).2.1; omega));exact (HO4.out.of_block (Below.heap_setCell w4 ⟨wr.heap.size + 1,2,none⟩ (.slice (some ⟨b4,0,none⟩) x.been.length cap4) b4 (by show b4 ≠ wr.heap.size + 1; omega))).but (K:=fun _=>True) (But.of_calls (zab _ _)) trivial
   have hX5:=HeldsX.snoc (W':=w5.setCell ⟨w.heap.size + 1 + 1,3,none⟩ (.slice a8 (k + 1) cap8)) (u:=(.slice (some ⟨b4,0,none⟩) x.been.length cap4)) (b:=b4) HX.out HOW.out.1 Hx.out hb45 (by omega) (fun j y v hj hy hv=>(hO hv).of_block (Below.heap_setCell _ _ _ _ (hnb _ (HX.out j y hj hy).2.2.2.2.2)))
   have hlj:∀ j,j < k → bb j < wr.heap.size:=fun j hj=>by
    obtain ⟨y,hy⟩:=zac d.ways (zaa rfl) (show j < d.ways.length by omega);obtain ⟨_,_,hu⟩:=(HX.out j y hj hy).2.2.1;exact hu.lt
   have hinj5:∀ i j,i < k + 1 → j < k + 1 → (if i = k then b4 else bb i) = (if j = k then b4 else bb j) → i = j:=fun i j hi hj=>by
    by_cases e1:i = k <;> by_cases e2:j = k
    ·intro _; omega
    ·rw [if_pos e1,if_neg e2]; intro z; have:=hlj j (by omega); omega
    ·rw [if_neg e1,if_pos e2]; intro z; have:=hlj i (by omega); omega
    ·rw [if_neg e1,if_neg e2]; exact HIN.out i j (by omega) (by omega)
   have hoff5:∀ i,i < k + 1 → (if i = k then b4 else bb i) ≠ bo:=fun i hi=>by
    by_cases e1:i = k
    ·rw [if_pos e1]; have:=HCF.out.occ.lt; omega
    ·rw [if_neg e1]; exact HOF.out i (by omega)
   have hown6:(w5.setCell ⟨w.heap.size + 1 + 1,3,none⟩ (.slice a8 (k + 1) cap8)).ownsRow (w.heap.size + 1 + 1 + 1) 93 5 (.slice a8 (k + 1) cap8) (k + 1) (xs ++ [.int .i64 x.state,.int .i64 x.gone,(.slice (some ⟨b4,0,none⟩) x.been.length cap4),.bool x.shown,.int .i64 x.timer]):=
    za3 (K:=fun c=>c ≠ w.heap.size + 1 + 1) hown5 ((But.refl _ _).setCell (fun z=>z rfl) _) fun g hg=>by have:=(zat hown5 hg).1; omega
   have FIN:=zaa (And.intro (CF5.lay (.slice a8 (k + 1) cap8)) (And.intro hown6 (And.intro hX5 (And.intro hinj5 hoff5))));clear CF5 hown6 hX5 hinj5 hoff5 hlj hb45 hO hty B5 hlt4 hown5 hgr5 HX HIN HOF HOW HCF HBY OWY SRC ONE hnb e0 e1 e2 e3 e4 f2 y3 g0 g1 g2 g3 g4;go_wp2;go_roundw
   case rel=>exact ⟨k + 1,_,_,_,by omega,by go_num,FIN.out⟩
   case measure=>simp [intOf]; omega
  ·obtain ⟨a6,cap3,rfl⟩:=zag hown
   have hkn:k = d.ways.length:=by omega
   obtain ⟨bw,hOH,hbw⟩:=zhc hown HX.out hkn;obtain ⟨gR,hR⟩:=CF.res;have t0:wr.cell? ⟨w.heap.size + 1 + 1,0,none⟩ = some (.bool ok):=CF.out.cell (i:=0) (by omega);have t1:wr.cell? ⟨w.heap.size + 1 + 1,1,none⟩ = some (.slice (some ⟨bo,0,none⟩) d.occ.length cap1):=CF.out.cell (i:=1) (by omega);have t2:wr.cell? ⟨w.heap.size + 1 + 1,2,none⟩ = some (.slice a5 d.points.length cap2):=CF.out.cell (i:=2) (by omega);have t3:wr.cell? ⟨w.heap.size + 1 + 1,3,none⟩ = some (.slice a6 k cap3):=CF.out.cell (i:=3) (by omega);have r0:=hR.cell (i:=0) (by omega);have r1:=hR.cell (i:=1) (by omega);have r2:=hR.cell (i:=2) (by omega);have r3:=hR.cell (i:=3) (by omega);have k0:=hR.frozen 0;have k1:=hR.frozen 1;have k2:=hR.frozen 2;have k3:=hR.frozen 3;have HR:=zaa hR;have HCF:=zaa CF;have HOW:=zaa hown;have HOH:=zaa hOH;have HKN:=zaa hkn;clear hR CF hown hOH hkn;go_wp2;refine bodyPost_ret (v:=.agg #[.bool ok,.slice (some ⟨bo,0,none⟩) d.occ.length cap1,.slice a5 d.points.length cap2,.slice a6 k cap3]) (by simp [results,Tryz.results67,go_sem,r0,r1,r2,r3]) rfl ⟨_,_,_,bo,bp,bw,bb,rfl,?_,?_⟩
   ·have p:w.heap.size ≤ w.heap.size + 1:=by omega
    exact (((HCF.out.below.setCell (p:=⟨w.heap.size + 1,0,none⟩) p _).setCell (p:=⟨w.heap.size + 1,1,none⟩) p _).setCell (p:=⟨w.heap.size + 1,2,none⟩) p _).setCell (p:=⟨w.heap.size + 1,3,none⟩) p _
   ·have fr:OFrame (fun c=>w.heap.size + 1 + 1 + 1 ≤ c) wr (.slice (some ⟨bo,0,none⟩) d.occ.length cap1) (.slice a5 d.points.length cap2) (.slice a6 k cap3) d bo bp bw bb:=
     ⟨HCF.out.occ,HCF.out.points,HOH.out,HCF.out.po,HCF.out.pp,hbw,fun i hi=>by
      obtain ⟨y,hy⟩:=zac d.ways (zaa rfl) hi
      exact (HX.out i y (by have:=HKN.out; omega) hy).2.2.2.2.2,fun i j hi hj=>HIN.out i j (by have:=HKN.out; omega) (by have:=HKN.out; omega),fun i hi=>HOF.out i (by have:=HKN.out; omega)⟩
    have hk:∀ o:Nat,¬ ((fun c=>c ≠ w.heap.size + 1) (⟨w.heap.size + 1,o,none⟩:Addr).block):=fun o z=>z rfl;exact (fr.but (Q:=fun c=>w.heap.size + 1 + 1 + 1 ≤ c) (((((But.refl (fun c=>c ≠ w.heap.size + 1) wr).setCell (hk 0) _).setCell (hk 1) _).setCell (hk 2) _).setCell (hk 3) _) (fun c hc=>by omega) fun _ z=>z).bound fun c hc hl=>⟨by omega,hl⟩
end Go.Proofs.YtdhinkgjiapigabGreatDoor
