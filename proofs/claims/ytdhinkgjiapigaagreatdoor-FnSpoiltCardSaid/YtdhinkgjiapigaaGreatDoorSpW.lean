import Derived.Test.YtdhinkgjiapigaaGreatDoorDrawFp
import Derived.Test.YtdhinkgjiapigaaGreatDoorDrawFo
namespace Go.Proofs.YtdhinkgjiapigaaGreatDoor
open Go.RowKit Go.Deep
open Classical
def zxq (e:Nat) (u:Value):Prop:=((e = 3 ∨ e = 58) ∧ ∃ x,u = .int .i64 x) ∨ (e = 4 ∧ ∃ b,u = .bool b)
def LsT (e:Nat):Prop:=e = 3 ∨ e = 58 ∨ e = 4 ∨ e = 51 ∨ e = 36
structure Typ (W W':World):Prop where
 size:W.heap.size ≤ W'.heap.size
 row:∀ (g:Nat) cur e,LsT e → W.heap[g]? = some (.cells cur e (0,0)) → ∃ cur',W'.heap[g]? = some (.cells cur' e (0,0)) ∧ cur'.size = cur.size ∧ ∀ (j:Nat) u,cur[j]? = some u → ∃ u',cur'[j]? = some u' ∧ (u' = u ∨ zxq e u')
theorem Typ.refl (W:World):Typ W W:=⟨Nat.le_refl _,fun _ cur _ _ h=>⟨cur,h,rfl,fun _ u hu=>⟨u,hu,.inl rfl⟩⟩⟩
theorem Typ.trans {a b c:World} (h:Typ a b) (k:Typ b c):Typ a c:=⟨Nat.le_trans h.size k.size,fun g cur e hn hg=>by
 obtain ⟨c1,h1,s1,e1⟩:=h.row g cur e hn hg
 obtain ⟨c2,h2,s2,e2⟩:=k.row g c1 e hn h1
 refine ⟨c2,h2,s2.trans s1,fun j u hu=>?_⟩
 obtain ⟨u1,hu1,z1⟩:=e1 j u hu
 obtain ⟨u2,hu2,z2⟩:=e2 j u1 hu1
 refine ⟨u2,hu2,?_⟩
 rcases z2 with rfl | z2
 ·exact z1
 ·exact .inr z2⟩
theorem Typ.of_calls {W W':World} (h:Below W.heap.size W W'):Typ W W':=⟨h.size,fun g cur _ _ hg=>⟨cur,(h.block g (Array.getElem?_eq_some_iff.1 hg).1).trans hg,rfl,fun _ u hu=>⟨u,hu,.inl rfl⟩⟩⟩
theorem zwx {W:World} {g t n:Nat} {f:Nat → Value} (hr:W.rowIs g t n f) {cur:Array Value} {e:TypeId} (hg:W.heap[g]? = some (.cells cur e (0,0))):e = t:=by
 obtain ⟨c,h,-⟩:=hr;rw [h] at hg
 cases hg
 rfl
theorem Typ.of_but {cb t n:Nat} {f:Nat → Value} {W W':World} (hr:W.rowIs cb t n f) (ht:¬ LsT t) (h:But (fun c=>c ≠ cb) W W'):Typ W W':=⟨h.size,fun g cur e he hg=>by
 have hn:g ≠ cb:=fun z=>by subst z; exact ht (zwx hr hg ▸ he)
 exact ⟨cur,(h.block g (Array.getElem?_eq_some_iff.1 hg).1 hn).trans hg,rfl,fun _ u hu=>⟨u,hu,.inl rfl⟩⟩⟩
theorem Typ.box {b t n:Nat} {f:Nat → Value} {W:World} (hr:W.rowIs b t n f) (ht:¬ LsT t) (o:Nat) (u:Value):Typ W (W.setCell ⟨b,o,none⟩ u):=
 .of_but hr ht ((But.refl (fun c=>c ≠ b) W).setCell (fun z=>z rfl) u)
theorem Typ.set {W:World} {g:Nat} {cur:Array Value} {e:TypeId} (hg:W.heap[g]? = some (.cells cur e (0,0))) (o:Nat) {u:Value} (hu:zxq e u):Typ W (W.setCell ⟨g,o,none⟩ u):=by
 refine ⟨by rw [World.size_setCell]; exact Nat.le_refl _,fun k cur' e' _ hk=>?_⟩;by_cases hkg:k = g
 ·subst hkg;rw [hg] at hk
  cases hk
  refine ⟨cur.setIfInBounds o u,heap_setCell_same W k o cur e u hg,by simp,fun j v hv=>?_⟩;by_cases hj:o = j
  ·subst hj;have hlt:=(Array.getElem?_eq_some_iff.1 hv).1;exact ⟨u,by rw [Array.getElem?_setIfInBounds]; simp [hlt],.inr hu⟩
  ·exact ⟨v,by rw [Array.getElem?_setIfInBounds_ne hj]; exact hv,.inl rfl⟩
 ·exact ⟨cur',by rw [heap_setCell_other _ _ _ _ hkg]; exact hk,rfl,fun _ v hv=>⟨v,hv,.inl rfl⟩⟩
theorem zw7 {lo:Nat} {W W':World} {e size:Nat} {v:Value} {n:Nat} {xs:List Value} (h:W.ownsRow lo e size v n xs) (he:LsT e) (hT:Typ W W') :
  ∃ xs',W'.ownsRow lo e size v n xs' ∧ xs'.length = xs.length ∧ ∀ (j:Nat) u,xs[j]? = some u → ∃ u',xs'[j]? = some u' ∧ (u' = u ∨ zxq e u'):=by
 obtain ⟨hl,⟨rfl,rfl⟩ | ⟨g,cap,cur,rfl,hbg,hg,hnc,hcm,hcs,ht⟩⟩:=h
 ·refine ⟨xs,⟨hl,.inl ⟨rfl,rfl⟩⟩,rfl,fun j u hu=>⟨u,hu,.inl rfl⟩⟩
 ·obtain ⟨cur',hg',hs',hee⟩:=hT.row g cur e he hg
  have hle:n * size ≤ cur'.toList.length:=by rw [Array.length_toList,hs',hcs]; exact Nat.mul_le_mul_right _ hnc
  refine ⟨cur'.toList.take (n * size),⟨by rw [List.length_take]; omega,.inr ⟨g,cap,cur',rfl,hbg,hg',hnc,hcm,hs'.trans hcs,rfl⟩⟩,by rw [List.length_take,hl]; omega,fun j u hu=>?_⟩;rw [← ht,List.getElem?_take] at hu;split at hu
  ·rename_i hj
   rw [Array.getElem?_toList] at hu;obtain ⟨u',hu',z⟩:=hee j u hu;exact ⟨u',by rw [List.getElem?_take,if_pos hj,Array.getElem?_toList]; exact hu',z⟩
  ·cases hu
theorem zxs {xs:List Value} (h:∀ (j:Nat) u,xs[j]? = some u → ∃ x:Int,u = .int .i64 x):∃ l:List Int,xs = zcg l ∧ l.length = xs.length:=by
 induction xs with
 | nil=>exact ⟨[],rfl,rfl⟩
 | cons u xs ih=>
  obtain ⟨x,rfl⟩:=h 0 u rfl;obtain ⟨l,rfl,hl⟩:=ih fun j v hv=>h (j + 1) v (by simpa using hv);exact ⟨x :: l,rfl,by simp [zcg]⟩
theorem zxi:∀ {n:Nat} {xs:List Value},xs.length = n * 2 → (∀ (j:Nat) u,xs[j]? = some u → ∃ x:Int,u = .int .i64 x) → ∃ l:List (Int × Int),xs = zau l ∧ l.length = n
 | 0,xs,hl,_=>⟨[],List.eq_nil_of_length_eq_zero (by omega),rfl⟩
 | n + 1,[],hl,_=>by simp at hl
 | n + 1,[_],hl,_=>by simp at hl; omega
 | n + 1,u :: v :: xs,hl,h=>by
  obtain ⟨x,rfl⟩:=h 0 u rfl
  obtain ⟨y,rfl⟩:=h 1 v rfl
  obtain ⟨l,rfl,hl'⟩:=zxi (n:=n) (xs:=xs) (by simp at hl; omega) fun j z hz=>h (j + 2) z (by simpa using hz)
  exact ⟨(x,y) :: l,rfl,by simp [hl']⟩
theorem zxg {l:List Int} {j:Nat} {u:Value} (h:(zcg l)[j]? = some u):∃ x:Int,u = .int .i64 x:=by
 unfold zcg at h;rw [List.getElem?_map] at h;obtain ⟨x,-,rfl⟩:=Option.map_eq_some_iff.1 h;exact ⟨x,rfl⟩
theorem zxe {l:List (Int × Int)} {u:Value} (h:u ∈ zau l):∃ x:Int,u = .int .i64 x:=by
 unfold zau at h;obtain ⟨y,-,h⟩:=List.mem_flatMap.1 h;rcases List.mem_cons.1 h with rfl | h
 ·exact ⟨_,rfl⟩
 ·rw [List.mem_singleton.1 h]; exact ⟨_,rfl⟩
theorem zw0 {lo:Nat} {W W':World} {v:Value} {l:List Int} (h:W.ownsRow lo 3 1 v l.length (zcg l)) (hT:Typ W W'):∃ l':List Int,l'.length = l.length ∧ W'.ownsRow lo 3 1 v l'.length (zcg l'):=by
 obtain ⟨xs,ho,hl,he⟩:=zw7 h (by unfold LsT; simp) hT
 obtain ⟨l',rfl,hl'⟩:=zxs (xs:=xs) fun j u hu=>by
  obtain ⟨v0,hv0⟩:=zb4 (zcg l) (show j < (zcg l).length by rw [← hl]; exact (List.getElem?_eq_some_iff.1 hu).1);obtain ⟨u',hu',z⟩:=he j v0 hv0;rw [hu] at hu'
  cases hu'
  rcases z with rfl | (⟨-,z⟩ | ⟨e,-⟩)
  ·exact zxg hv0
  ·exact z
  ·exact absurd e (by decide)
 have hn:l'.length = l.length:=by rw [hl',hl]; simp [zcg]
 exact ⟨l',hn,by rw [hn]; exact ho⟩
theorem zxd {lo:Nat} {W W':World} {v:Value} {l:List (Int × Int)} (h:W.ownsRow lo 58 2 v l.length (zau l)) (hT:Typ W W'):∃ l':List (Int × Int),l'.length = l.length ∧ W'.ownsRow lo 58 2 v l'.length (zau l'):=by
 obtain ⟨xs,ho,hl,he⟩:=zw7 h (by unfold LsT; simp) hT
 obtain ⟨l',rfl,hl'⟩:=zxi (n:=l.length) (xs:=xs) (by rw [hl]; exact h.1) fun j u hu=>by
  obtain ⟨v0,hv0⟩:=zb4 (zau l) (show j < (zau l).length by rw [← hl]; exact (List.getElem?_eq_some_iff.1 hu).1);obtain ⟨u',hu',z⟩:=he j v0 hv0;rw [hu] at hu'
  cases hu'
  rcases z with rfl | (⟨-,z⟩ | ⟨e,-⟩)
  ·exact zxe (List.mem_of_getElem? hv0)
  ·exact z
  ·exact absurd e (by decide)
 exact ⟨l',hl',by rw [hl']; exact ho⟩
theorem zxn {lo:Nat} {W W':World} {v:Value} {l:List Bool} (h:W.ownsRow lo 4 1 v l.length (l.map Value.bool)) (hT:Typ W W'):∃ l':List Bool,l'.length = l.length ∧ W'.ownsRow lo 4 1 v l'.length (l'.map Value.bool):=by
 obtain ⟨xs,ho,hl,he⟩:=zw7 h (by unfold LsT; simp) hT
 have hb:∀ (j:Nat) u,xs[j]? = some u → ∃ x:Bool,u = .bool x:=fun j u hu=>by
  obtain ⟨v0,hv0⟩:=zb4 (l.map Value.bool) (show j < (l.map Value.bool).length by rw [← hl]; exact (List.getElem?_eq_some_iff.1 hu).1);obtain ⟨u',hu',z⟩:=he j v0 hv0;rw [hu] at hu'
  cases hu'
  rcases z with rfl | (⟨e,-⟩ | ⟨-,z⟩)
  ·rw [List.getElem?_map] at hv0;obtain ⟨x,-,rfl⟩:=Option.map_eq_some_iff.1 hv0;exact ⟨x,rfl⟩
  ·exact absurd e (by decide)
  ·exact z
 have hxs:∀ ys:List Value,(∀ (j:Nat) u,ys[j]? = some u → ∃ x:Bool,u = .bool x) → ∃ l':List Bool,ys = l'.map Value.bool ∧ l'.length = ys.length:=fun ys=>by
  induction ys with
  | nil=>intro _; exact ⟨[],rfl,rfl⟩
  | cons u ys ih=>
   intro h;obtain ⟨x,rfl⟩:=h 0 u rfl;obtain ⟨l,rfl,hl⟩:=ih fun j v hv=>h (j + 1) v (by simpa using hv);exact ⟨x :: l,rfl,by simp⟩
 obtain ⟨l',rfl,hl'⟩:=hxs xs hb
 have hn:l'.length = l.length:=by rw [hl',hl,List.length_map]
 exact ⟨l',hn,by rw [hn]; exact ho⟩
end Go.Proofs.YtdhinkgjiapigaaGreatDoor
namespace Go.Proofs.YtdhinkgjiapigaaGreatDoor
open Go.RowKit Go.Deep
open Classical
def LenW (d d':WayD):Prop:=d'.sections.length = d.sections.length ∧ d'.lies.length = d.lies.length ∧ d'.flanks.length = d.flanks.length ∧ d'.over.length = d.over.length ∧ d'.near.length = d.near.length
theorem LenW.small {d d':WayD} (h:LenW d d') {K:Nat} (hs:d.Small K):d'.Small K:=⟨by rw [h.1]; exact hs.1,by rw [h.2.1]; exact hs.2.1,by rw [h.2.2.1]; exact hs.2.2.1,by rw [h.2.2.2.1]; exact hs.2.2.2.1,by rw [h.2.2.2.2]; exact hs.2.2.2.2⟩
theorem WayO.typ {lo:Nat} {W W':World} {q:WayQ} {d:WayD} (h:WayO W lo q d) (hT:Typ W W'):∃ d',WayO W' lo q d' ∧ LenW d d':=by
 obtain ⟨s,e0,h0⟩:=zw0 h.s0 hT;obtain ⟨li,e1,h1⟩:=zxd h.l1 hT;obtain ⟨fl,e2,h2⟩:=zxd h.l2 hT;obtain ⟨ov,e3,h3⟩:=zw0 h.o3 hT;obtain ⟨nr,e4,h4⟩:=zw0 h.n4 hT;exact ⟨⟨s,li,fl,ov,nr⟩,⟨h0,h1,h2,h3,h4⟩,e0,e1,e2,e3,e4⟩
theorem zw4 (l:List (WayQ × WayD)):zdj l = (l.map Prod.fst).flatMap fun q=>[q.v0,q.v1,q.v2,q.v3,q.v4]:=by
 unfold zdj;rw [List.flatMap_map]
theorem zw2 {α β:Type} {R:α → β → Prop}:∀ (l:List α),(∀ x ∈ l,∃ y,R x y) → ∃ l':List β,l'.length = l.length ∧ ∀ (i:Nat) y,l'[i]? = some y → ∃ x,l[i]? = some x ∧ R x y
 | [],_=>⟨[],rfl,fun i y h=>by simp at h⟩
 | x :: l,h=>by
  obtain ⟨y,hy⟩:=h x (List.mem_cons_self ..)
  obtain ⟨l',hl,hr⟩:=zw2 l fun z hz=>h z (List.mem_cons_of_mem _ hz)
  refine ⟨y :: l',by simp [hl],fun i z hz=>?_⟩
  rcases i with _ | i
  ·simp at hz
   subst hz
   exact ⟨x,rfl,hy⟩
  ·simpa using hr i z (by simpa using hz)
theorem zxo {lo:Nat} {W W':World} {e size:Nat} {v:Value} {n:Nat} {xs:List Value} (h:W.ownsRow lo e size v n xs) (hl:LsT e) (hT:Typ W W') (he:e ≠ 3 ∧ e ≠ 58 ∧ e ≠ 4):W'.ownsRow lo e size v n xs:=by
 obtain ⟨xs',ho,hxl,hx⟩:=zw7 h hl hT
 have:xs' = xs:=by
  apply List.ext_getElem?;intro j
  cases hj:xs[j]? with
  | none=>rw [List.getElem?_eq_none_iff] at hj ⊢; omega
  | some u=>
   obtain ⟨u',hu',z | ⟨z | z,-⟩ | ⟨z,-⟩⟩:=hx j u hj
   ·rw [hu',z]
   ·exact absurd z he.1
   ·exact absurd z he.2.1
   ·exact absurd z he.2.2
 rw [this] at ho;exact ho
theorem WaysO.typ {lo:Nat} {W W':World} {v:Value} {l:List (WayQ × WayD)} (h:WaysO W lo v l) (hT:Typ W W'):∃ l',WaysO W' lo v l' ∧ l'.map Prod.fst = l.map Prod.fst ∧ ∀ (i:Nat) y,l'[i]? = some y → ∃ x,l[i]? = some x ∧ LenW x.2 y.2:=by
 obtain ⟨l',hl,hr⟩:=zw2 (R:=fun (x y:WayQ × WayD)=>y.1 = x.1 ∧ WayO W' lo y.1 y.2 ∧ LenW x.2 y.2) l fun x hx=>by
  obtain ⟨d',h1,h2⟩:=(h.ways x hx).typ hT;exact ⟨(x.1,d'),rfl,h1,h2⟩
 have hm:l'.map Prod.fst = l.map Prod.fst:=by
  apply List.ext_getElem?;intro j;rw [List.getElem?_map,List.getElem?_map]
  cases hj:l'[j]? with
  | none=>
   rw [List.getElem?_eq_none_iff] at hj;rw [show l[j]? = none from List.getElem?_eq_none_iff.2 (by omega)]
  | some y=>
   obtain ⟨x,hx,e,-⟩:=hr j y hj;rw [hx];show some y.1 = some x.1;rw [e]
 refine ⟨l',⟨?_,fun y hy=>?_⟩,hm,fun i y hy=>?_⟩
 ·rw [hl,zw4,hm,← zw4];exact zxo h.own (by unfold LsT; simp) hT (by decide)
 ·obtain ⟨j,hj⟩:=List.getElem?_of_mem hy;obtain ⟨x,-,-,e,-⟩:=hr j y hj;exact e
 ·obtain ⟨x,hx,-,-,e⟩:=hr i y hy;exact ⟨x,hx,e⟩
structure RowsQ (W:World) (lo:Nat) (v:Value) (l:List (Value × List Bool)):Prop where
 own:∃ a cap,v = .slice a l.length cap ∧ l.length ≤ cap ∧ cap ≤ maxLen ∧ (l.length = 0 ∨ ∃ g o cur,a = some ⟨g,o,none⟩ ∧ lo ≤ g ∧ W.heap[g]? = some (.cells cur 36 (0,0)) ∧ ∀ (j:Nat) u,(l.map Prod.fst)[j]? = some u → cur[o + j]? = some u)
 rows:∀ x ∈ l,W.ownsRow lo 4 1 x.1 x.2.length (x.2.map Value.bool)
theorem RowsO.q {W:World} {lo:Nat} {v:Value} {l:List (Value × List Bool)} (h:RowsO W lo v l):RowsQ W lo v l:=by
 refine ⟨?_,h.rows⟩;obtain ⟨-,⟨rfl,e⟩ | ⟨g,cap,cur,rfl,hbg,hg,hnc,hcm,hcs,ht⟩⟩:=h.own
 ·exact ⟨none,0,by rw [e],by omega,by unfold maxLen; omega,.inl e⟩
 ·refine ⟨_,cap,rfl,hnc,hcm,.inr ⟨g,0,cur,rfl,hbg,hg,fun j u hu=>?_⟩⟩;rw [← ht,List.getElem?_take] at hu;split at hu
  ·rw [Nat.zero_add];simpa using hu
  ·cases hu
theorem RowsQ.typ {lo:Nat} {W W':World} {v:Value} {l:List (Value × List Bool)} (h:RowsQ W lo v l) (hT:Typ W W'):∃ l',RowsQ W' lo v l' ∧ l'.length = l.length ∧ ∀ (i:Nat) y,l'[i]? = some y → ∃ x,l[i]? = some x ∧ y.2.length = x.2.length:=by
 obtain ⟨l',hl,hr⟩:=zw2 (R:=fun (x y:Value × List Bool)=>y.1 = x.1 ∧ W'.ownsRow lo 4 1 y.1 y.2.length (y.2.map Value.bool) ∧ y.2.length = x.2.length) l fun x hx=>by
  obtain ⟨d',h1,h2⟩:=zxn (h.rows x hx) hT;exact ⟨(x.1,d'),rfl,h2,h1⟩
 have hm:l'.map Prod.fst = l.map Prod.fst:=by
  apply List.ext_getElem?;intro j;rw [List.getElem?_map,List.getElem?_map]
  cases hj:l'[j]? with
  | none=>
   rw [List.getElem?_eq_none_iff] at hj;rw [show l[j]? = none from List.getElem?_eq_none_iff.2 (by omega)]
  | some y=>
   obtain ⟨x,hx,e,-⟩:=hr j y hj;rw [hx];show some y.1 = some x.1;rw [e]
 refine ⟨l',⟨?_,fun y hy=>?_⟩,hl,fun i y hy=>?_⟩
 ·obtain ⟨a,cap,e,h1,h2,h3⟩:=h.own;refine ⟨a,cap,by rw [hl]; exact e,by rw [hl]; exact h1,h2,?_⟩;rcases h3 with h3 | ⟨g,o,cur,rfl,hlo,hg,hc⟩
  ·exact .inl (by rw [hl]; exact h3)
  ·obtain ⟨cur',hg',-,he⟩:=hT.row g cur _ (by unfold LsT; simp) hg;refine .inr ⟨g,o,cur',rfl,hlo,hg',fun j u hu=>?_⟩;rw [hm] at hu;obtain ⟨u',hu',z | ⟨z,-⟩ | ⟨z,-⟩⟩:=he _ _ (hc j u hu)
   ·rw [hu',z]
   ·exact absurd z (by decide)
   ·exact absurd z (by decide)
 ·obtain ⟨j,hj⟩:=List.getElem?_of_mem hy;obtain ⟨x,-,-,e,-⟩:=hr j y hj;exact e
 ·obtain ⟨x,hx,-,-,e⟩:=hr i y hy;exact ⟨x,hx,e⟩
theorem RowsQ.at {W:World} {lo:Nat} {v:Value} {l:List (Value × List Bool)} (h:RowsQ W lo v l):Rows2 (fun c=>lo ≤ c ∧ c < W.heap.size) W v (l.map Prod.snd):=by
 obtain ⟨a,cap,e,-,-,h3⟩:=h.own;refine ⟨a,cap,by rw [List.length_map]; exact e,?_⟩;rcases h3 with h3 | ⟨g,o,cur,rfl,hlo,hg,hc⟩
 ·exact .inl (by rw [List.length_map]; exact h3)
 ·refine .inr ⟨g,o,rfl,⟨hlo,(Array.getElem?_eq_some_iff.1 hg).1⟩,fun i hi x hx=>?_⟩;rw [List.getElem?_map] at hx;obtain ⟨y,hy,rfl⟩:=Option.map_eq_some_iff.1 hx;refine ⟨_,zm9 (h.rows y (List.mem_of_getElem? hy)) rfl,?_⟩;have:=hc i y.1 (by rw [List.getElem?_map,hy]; rfl);simp [World.cell?,hg,this]
structure SpS (W:World) (lo K:Nat) (v1 v2 v3:Value):Prop where
 sw:∃ l:List Int,W.ownsRow lo 3 1 v1 l.length (zcg l) ∧ l.length ≤ 100
 ways:∃ l,WaysO W lo v2 l ∧ l.length ≤ 100 ∧ ∀ x ∈ l,x.2.Small K
 bars:∃ l,RowsQ W lo v3 l ∧ l.length ≤ 100 ∧ ∀ x ∈ l,x.2.length ≤ 100
theorem SpS.typ {lo K:Nat} {W W':World} {v1 v2 v3:Value} (h:SpS W lo K v1 v2 v3) (hT:Typ W W'):SpS W' lo K v1 v2 v3:=by
 obtain ⟨l1,o1,b1⟩:=h.sw;obtain ⟨l2,o2,b2,c2⟩:=h.ways;obtain ⟨l3,o3,b3,c3⟩:=h.bars;obtain ⟨l1',e1,o1'⟩:=zw0 o1 hT;obtain ⟨l2',o2',e2,f2⟩:=o2.typ hT;obtain ⟨l3',o3',e3,f3⟩:=o3.typ hT
 have hl2:l2'.length = l2.length:=by have:=congrArg List.length e2; simpa using this
 refine ⟨⟨l1',o1',by omega⟩,⟨l2',o2',by omega,fun y hy=>?_⟩,⟨l3',o3',by omega,fun y hy=>?_⟩⟩
 ·obtain ⟨i,hi⟩:=List.getElem?_of_mem hy;obtain ⟨x,hx,e⟩:=f2 i y hi;exact e.small (c2 x (List.mem_of_getElem? hx))
 ·obtain ⟨i,hi⟩:=List.getElem?_of_mem hy;obtain ⟨x,hx,e⟩:=f3 i y hi;rw [e];exact c3 x (List.mem_of_getElem? hx)
theorem SpS.plan {W:World} {lo K:Nat} {v1 v2 v3:Value} (h:SpS W lo K v1 v2 v3) (hK:K ≤ 1000) (ns hold:Int):∃ p:PlanD,p.sections = ns ∧ p.hold = hold ∧ PlanAt (fun c=>lo ≤ c ∧ c < W.heap.size) W v1 v2 v3 p ∧ WaysC (fun c=>lo ≤ c ∧ c < W.heap.size) W v2 p.ways ∧ p.Small 1048576:=by
 obtain ⟨l1,o1,b1⟩:=h.sw;obtain ⟨l2,o2,b2,c2⟩:=h.ways;obtain ⟨l3,o3,b3,c3⟩:=h.bars;have hw:=o2.at;refine ⟨⟨ns,l1,l2.map Prod.snd,l3.map Prod.snd,hold⟩,rfl,rfl,⟨(zb2 o1).2,hw.ways,o3.at⟩,hw,by show l1.length ≤ _; omega,by show (l2.map Prod.snd).length ≤ _; rw [List.length_map]; omega,fun x hx=>?_,by show (l3.map Prod.snd).length ≤ _; rw [List.length_map]; omega,fun x hx=>?_⟩
 ·obtain ⟨y,hy,rfl⟩:=List.mem_map.1 hx;obtain ⟨k1,k2,k3,k4,k5⟩:=c2 y hy;exact ⟨by omega,by omega,by omega,by omega,by omega⟩
 ·obtain ⟨y,hy,rfl⟩:=List.mem_map.1 hx;have:=c3 y hy;omega
end Go.Proofs.YtdhinkgjiapigaaGreatDoor
namespace Go.Proofs.YtdhinkgjiapigaaGreatDoor
open Go.RowKit Go.Deep
open Classical
theorem Typ.row_set {W:World} {g:Nat} {cur:Array Value} {e:TypeId} (hg:W.heap[g]? = some (.cells cur e (0,0))) (k:Nat) (news:List Value) (hf:k + news.length ≤ cur.size) (hu:∀ u ∈ news,zxq e u) :
  Typ W (W.setRow g (cur.toList.take k ++ news ++ cur.toList.drop (k + news.length)).toArray):=by
 have hB:=Below.refl W.heap.size W;refine ⟨by simp [World.setRow],fun b cur' e' _ hb=>?_⟩;by_cases hbg:b = g
 ·subst hbg;rw [hg] at hb
  cases hb
  refine ⟨_,setRow_heap W b cur _ e _ hg,by simp; omega,fun j v hv=>?_⟩;have hj:=(Array.getElem?_eq_some_iff.1 hv).1
  have hv':cur.toList[j]? = some v:=by simpa using hv
  rw [List.getElem?_toArray];by_cases h1:j < k
  ·refine ⟨v,?_,.inl rfl⟩;rw [List.getElem?_append_left (by simp; omega),List.getElem?_append_left (by simp; omega),List.getElem?_take,if_pos h1];exact hv'
  ·by_cases h2:j < k + news.length
   ·obtain ⟨u,hu'⟩:=zb4 news (show j - k < news.length by omega);refine ⟨u,?_,.inr (hu u (List.mem_of_getElem? hu'))⟩;rw [List.getElem?_append_left (by simp; omega),List.getElem?_append_right (by simp; omega)];simpa [Nat.min_eq_left (show k ≤ cur.size by omega)] using hu'
   ·refine ⟨v,?_,.inl rfl⟩;rw [List.getElem?_append_right (by simp; omega),List.getElem?_drop];rw [show k + news.length + (j - (List.take k cur.toList ++ news).length) = j by simp; omega];exact hv'
 ·refine ⟨cur',?_,rfl,fun _ v hv=>⟨v,hv,.inl rfl⟩⟩;rw [← hb];unfold World.setRow;simp [Array.getElem?_modify,Ne.symm hbg]
theorem zxc {P:Program} {w:World} {o:Oper} {a:Act} {K:Act → World → Prop} {Q:Exit → Act → World → Prop} (s x:Operand) (t:TypeId)
  (ho:o.op = .call { callee:=.builtin .append,args:=#[s,x],argTypes:=#[t,t] })
  (base:Nat) (e:TypeId) (z:Value) (size bytes:Nat) (ht:P.underlying t = some (.slice e)) (hinfo:(P.info? e).map (fun i=>(i.zero,i.size,i.bytes)) = some (some z,size,bytes)) (hzs:z.cells.size = size) (hsz:0 < size)
  (v:Value) (n:Nat) (xs:List Value) (hs:a.eval s = v) (hown:w.ownsRow base e size v n xs)
  (A:Addr) (m c:Nat) (news:List Value) (hx:a.eval x = .slice (some A) m c) (hl:news.length = m * size) (hnews:∀ j u,news[j]? = some u → w.cell? (A.add j) = some u) (h1:∀ u ∈ news,u.oneCell' = true) (hty:∀ u ∈ news,zxq e u)
  (h63:n + m ≤ maxLen) (hbytes:(n + m) * bytes ≤ 140737488355328) (hbase:base ≤ w.heap.size)
  (h:∀ v' w',w'.ownsRow base e size v' (n + m) (xs ++ news) → w.grownBy w' v.ownBlock → Typ w w' → K (a.put o.dst v') w'):Oper.wp P o a w K Q:=by
 cases hi:P.info? e with
 | none=>rw [hi] at hinfo; cases hinfo
 | some i=>
  rw [hi] at hinfo;simp only [Option.map_some,Option.some.injEq,Prod.mk.injEq] at hinfo;obtain ⟨hz,hsize,hby⟩:=hinfo;obtain ⟨v',w',hrun,r1,r2,-⟩:=run_append_own (P:=P) w base t o.type e i z size bytes ht hi hz hsize hby hzs hsz v n xs hown A m c news hl hnews h1 h63 hbytes hbase
  have hT:Typ w w':=by
   rcases hown.2 with ⟨rfl,rfl⟩ | ⟨g,cap,cur,rfl,hbg,hg,hnc,hcm,hcs,htake⟩
   ·exact .of_calls ⟨r2.os,r2.tape,r2.output,r2.size,fun k hk=>r2.block k hk (by intro z; cases z)⟩
   ·by_cases hroom:n + m ≤ cap
    ·have hr:=run_append_room (P:=P) w t o.type e i ht hi g n cap cur hg A m c news (by rw [hsize]; exact hl) hnews h1 hroom (by rw [hl,hcs,hsize,← Nat.add_mul]; exact Nat.mul_le_mul_right _ hroom);rw [hrun] at hr
     cases hr
     exact Typ.row_set hg _ news (by rw [hl,hcs,hsize,← Nat.add_mul]; exact Nat.mul_le_mul_right _ hroom) hty
    ·have hr:=run_append_grow (P:=P) w t o.type e i z ht hi hz ⟨g,0,none⟩ n cap xs (by rw [hsize]; exact hown.1) (hown.cells (g:=g) rfl) A m c news (by rw [hsize]; exact hl) hnews (by omega) (by simp only [maxLen] at h63; omega) (by rw [hby]; exact growslice_fits (by omega) hbytes);rw [hrun] at hr
     cases hr
     exact (Typ.of_calls (zaf w)).trans (Typ.of_calls (zab _ _))
  unfold Oper.wp;simp [execOp,ho,resolve,invoke,builtin,hs,hx,hrun,Result.andThen];exact h v' w' r1 r2 hT
end Go.Proofs.YtdhinkgjiapigaaGreatDoor
namespace Go.Proofs.YtdhinkgjiapigaaGreatDoor
open Go.RowKit Go.Deep
open Classical
theorem zxt {W:World} {lo e size:Nat} {v:Value} {n:Nat} {xs:List Value} (h:W.ownsRow lo e size v n xs) {g:Nat} (hg:v.ownBlock = some g) (k:Nat) (u:Value):(W.setCell ⟨g,k,none⟩ u).ownsRow lo e size v n (xs.set k u):=by
 obtain ⟨hl,⟨rfl,rfl⟩ | ⟨g',cap,cur,rfl,hbg,hh,hnc,hcm,hcs,ht⟩⟩:=h
 ·cases hg
 ·cases hg
  refine ⟨by rw [List.length_set]; exact hl,.inr ⟨g',cap,cur.setIfInBounds k u,rfl,hbg,heap_setCell_same W g' k cur e u hh,hnc,hcm,by simpa using hcs,?_⟩⟩;rw [← ht,Array.toList_setIfInBounds,List.take_set]
theorem zww {W:World} {lo e size:Nat} {v:Value} {n:Nat} {xs:List Value} (h:W.ownsRow lo e size v n xs) {g:Nat} {cur:Array Value} {t:TypeId} (hg:W.heap[g]? = some (.cells cur t (0,0))) (ht:t ≠ e) (o:Nat) (u:Value):(W.setCell ⟨g,o,none⟩ u).ownsRow lo e size v n xs:=by
 refine ownsRow_setCell_other h (fun z=>?_) u;obtain ⟨-,⟨rfl,rfl⟩ | ⟨g',cap,cur',rfl,-,hh,-⟩⟩:=h
 ·cases z
 ·cases z
  rw [hh] at hg
  cases hg
  exact ht rfl
def zxk (q:WayQ) (j:Nat) (u:Value):WayQ:=match j with
 | 0=>⟨u,q.v1,q.v2,q.v3,q.v4⟩
 | 1=>⟨q.v0,u,q.v2,q.v3,q.v4⟩
 | 2=>⟨q.v0,q.v1,u,q.v3,q.v4⟩
 | 3=>⟨q.v0,q.v1,q.v2,u,q.v4⟩
 | _=>⟨q.v0,q.v1,q.v2,q.v3,u⟩
theorem zw5 (u:Value) (j:Nat) (hj:j < 5) (d':WayD):∀ (l:List (WayQ × WayD)) (i:Nat) (x:WayQ × WayD),l[i]? = some x → (zdj l).set (i * 5 + j) u = zdj (l.set i (zxk x.1 j u,d'))
 | [],_,_,h=>by simp at h
 | y :: l,0,x,h=>by
  simp at h
  subst h
  show ([y.1.v0,y.1.v1,y.1.v2,y.1.v3,y.1.v4] ++ zdj l).set (0 * 5 + j) u = [(zxk y.1 j u).v0,(zxk y.1 j u).v1,(zxk y.1 j u).v2,(zxk y.1 j u).v3,(zxk y.1 j u).v4] ++ zdj l
  rcases j with _ | _ | _ | _ | _ | j
  ·rfl
  ·rfl
  ·rfl
  ·rfl
  ·rfl
  ·omega
 | y :: l,i + 1,x,h=>by
  have ih:=zw5 u j hj d' l i x (by simpa using h)
  show ([y.1.v0,y.1.v1,y.1.v2,y.1.v3,y.1.v4] ++ zdj l).set ((i + 1) * 5 + j) u = [y.1.v0,y.1.v1,y.1.v2,y.1.v3,y.1.v4] ++ zdj (l.set i (zxk x.1 j u,d'))
  rw [List.set_append_right _ _ (by simp; omega),← ih]
  congr 2
  simp
  omega
theorem WayO.other2 {W:World} {lo:Nat} {q:WayQ} {d:WayD} (h:WayO W lo q d) {g:Nat} {cur:Array Value} (hg:W.heap[g]? = some (.cells cur 51 (0,0))) (o:Nat) (u:Value):WayO (W.setCell ⟨g,o,none⟩ u) lo q d:=
 ⟨zww h.s0 hg (by decide) o u,zww h.l1 hg (by decide) o u,zww h.l2 hg (by decide) o u,zww h.o3 hg (by decide) o u,zww h.n4 hg (by decide) o u⟩
theorem zwy {W:World} {lo e size:Nat} {v:Value} {n:Nat} {xs:List Value} (h:W.ownsRow lo e size v n xs) {g:Nat} (hg:v.ownBlock = some g):∃ cur,W.heap[g]? = some (.cells cur e (0,0)):=by
 obtain ⟨-,⟨rfl,rfl⟩ | ⟨g',cap,cur,rfl,-,hh,-⟩⟩:=h
 ·cases hg
 ·cases hg
  exact ⟨cur,hh⟩
theorem WaysO.put {W:World} {lo:Nat} {v:Value} {l:List (WayQ × WayD)} (h:WaysO W lo v l) {g:Nat} (hg:v.ownBlock = some g) {i j:Nat} (hj:j < 5) {x:WayQ × WayD} (hx:l[i]? = some x) {u:Value} {d':WayD} (hn:WayO W lo (zxk x.1 j u) d') :
  WaysO (W.setCell ⟨g,i * 5 + j,none⟩ u) lo v (l.set i (zxk x.1 j u,d')):=by
 obtain ⟨cur,hc⟩:=zwy h.own hg;refine ⟨?_,fun y hy=>?_⟩
 ·rw [List.length_set,← zw5 u j hj d' l i x hx];exact zxt h.own hg _ u
 ·rcases List.mem_or_eq_of_mem_set hy with z | rfl
  ·exact (h.ways y z).other2 hc _ u
  ·exact hn.other2 hc _ u
theorem RowsQ.other2 {W:World} {lo:Nat} {v:Value} {l:List (Value × List Bool)} (h:RowsQ W lo v l) {g:Nat} {cur:Array Value} (hg:W.heap[g]? = some (.cells cur 51 (0,0))) (o:Nat) (u:Value):RowsQ (W.setCell ⟨g,o,none⟩ u) lo v l:=by
 refine ⟨?_,fun x hx=>zww (h.rows x hx) hg (by decide) o u⟩;obtain ⟨a,cap,e,h1,h2,h3⟩:=h.own;refine ⟨a,cap,e,h1,h2,?_⟩;rcases h3 with h3 | ⟨g',o',cur',rfl,hlo,hg',hc⟩
 ·exact .inl h3
 ·refine .inr ⟨g',o',cur',rfl,hlo,?_,hc⟩;rw [heap_setCell_other _ _ _ _ (show g' ≠ g from fun z=>by subst z; rw [hg] at hg'; cases hg')];exact hg'
theorem SpS.put {W:World} {lo K:Nat} {v1 v2 v3:Value} (h:SpS W lo K v1 v2 v3) {l:List (WayQ × WayD)} (hl:WaysO W lo v2 l) (hll:l.length ≤ 100) (hls:∀ x ∈ l,x.2.Small K) {g:Nat} (hg:v2.ownBlock = some g) {i j:Nat} (hj:j < 5) {x:WayQ × WayD} (hx:l[i]? = some x) {u:Value} {d':WayD} (hn:WayO W lo (zxk x.1 j u) d') (hd:d'.Small (K + 1)) :
  SpS (W.setCell ⟨g,i * 5 + j,none⟩ u) lo (K + 1) v1 v2 v3:=by
 obtain ⟨cur,hc⟩:=zwy hl.own hg;obtain ⟨l1,o1,b1⟩:=h.sw;obtain ⟨l3,o3,b3,c3⟩:=h.bars;refine ⟨⟨l1,zww o1 hc (by decide) _ u,b1⟩,⟨_,hl.put hg hj hx hn,by rw [List.length_set]; exact hll,fun y hy=>?_⟩,⟨l3,o3.other2 hc _ u,b3,c3⟩⟩;rcases List.mem_or_eq_of_mem_set hy with z | rfl
 ·obtain ⟨k1,k2,k3,k4,k5⟩:=hls y z;exact ⟨by omega,by omega,by omega,by omega,by omega⟩
 ·exact hd
theorem SpS.mono {W:World} {lo K L:Nat} {v1 v2 v3:Value} (h:SpS W lo K v1 v2 v3) (hk:K ≤ L):SpS W lo L v1 v2 v3:=by
 obtain ⟨l2,o2,b2,c2⟩:=h.ways;refine ⟨h.sw,⟨l2,o2,b2,fun x hx=>?_⟩,h.bars⟩;obtain ⟨k1,k2,k3,k4,k5⟩:=c2 x hx;exact ⟨by omega,by omega,by omega,by omega,by omega⟩
structure SpB (w:World) (cb lo K Kb:Nat) (ns hold:Int) (W:World) (v1 v2 v3:Value):Prop where
 but:But (fun c=>c < lo ∧ c ≠ cb) w W
 cur:Cur W cb K
 spl:SpS W lo Kb v1 v2 v3
 box:W.rowIs w.heap.size 27 5 (fun i=>(#[.int .i64 ns,v1,v2,v3,.int .i64 hold]:Array Value)[i]!)
 res:∃ g,W.rowIs (w.heap.size + 1) 27 5 g
 hcb:cb < lo
 hlo:lo ≤ w.heap.size
 keep:∀ (b:Nat) f,b < w.heap.size → w.rowIs b 27 5 f → W.rowIs b 27 5 f
section
variable {w : World} {cb lo K Kb : Nat} {ns hold : Int} {W W' : World} {v1 v2 v3 : Value}
theorem zwz:¬ LsT 27:=by unfold LsT; decide
theorem zxj:¬ LsT 74:=by unfold LsT; decide
theorem SpB.mono (h:SpB w cb lo K Kb ns hold W v1 v2 v3) {L:Nat} (hk:K ≤ L):SpB w cb lo L Kb ns hold W v1 v2 v3:=⟨h.but,h.cur.mono hk,h.spl,h.box,h.res,h.hcb,h.hlo,h.keep⟩
theorem SpB.call (h:SpB w cb lo K Kb ns hold W v1 v2 v3) (hb:Below W.heap.size W W'):SpB w cb lo K Kb ns hold W' v1 v2 v3:=by
 obtain ⟨g,hg⟩:=h.res;exact ⟨h.but.call hb,h.cur.but (Q:=fun _=>True) (But.of_calls hb) fun _ _=>trivial,h.spl.typ (.of_calls hb),zah h.box hb,⟨g,zah hg hb⟩,h.hcb,h.hlo,fun b f hl hr=>zah (h.keep b f hl hr) hb⟩
theorem SpB.pick (h:SpB w cb lo K Kb ns hold W v1 v2 v3) (hB:But (fun c=>c ≠ cb) W W') {L:Nat} (hc:Cur W' cb L):SpB w cb lo L Kb ns hold W' v1 v2 v3:=by
 obtain ⟨g,hg⟩:=h.res;have h1:=h.hcb;have h2:=h.hlo;obtain ⟨a,n,c,i,s,hr,-⟩:=h.cur
 exact ⟨h.but.trans (hB.mono fun c _ hc=>hc.2),hc,h.spl.typ (.of_but hr zxj hB),hB.row h.box (by omega),⟨g,hB.row hg (by omega)⟩,h1,h2,fun b f hl hr2=>hB.row (h.keep b f hl hr2) fun z=>by
  obtain ⟨c',hc',-⟩:=h.keep b f hl hr2;subst z
  exact absurd (zwx hr hc') (by decide)⟩
theorem SpB.typed (h:SpB w cb lo K Kb ns hold W v1 v2 v3) (hT:Typ W W') {g:Nat} (hg:lo ≤ g) (hB:But (fun c=>c ≠ g) W W') (hn:∀ (b:Nat) f,W.rowIs b 27 5 f → b ≠ g):SpB w cb lo K Kb ns hold W' v1 v2 v3:=by
 obtain ⟨r,hr⟩:=h.res;have h1:=h.hcb;exact ⟨h.but.trans (hB.mono fun c _ hc=>by omega),h.cur.but hB fun b hb=>by omega,h.spl.typ hT,hB.row h.box (hn _ _ h.box),⟨r,hB.row hr (hn _ _ hr)⟩,h1,h.hlo,fun b f hl hk=>hB.row (h.keep b f hl hk) (hn _ _ (h.keep b f hl hk))⟩
theorem SpB.set (h:SpB w cb lo K Kb ns hold W v1 v2 v3) (j:Nat) (u:Value):But (fun c=>c < lo ∧ c ≠ cb) w (W.setCell ⟨w.heap.size,j,none⟩ u) ∧ Cur (W.setCell ⟨w.heap.size,j,none⟩ u) cb K ∧ SpS (W.setCell ⟨w.heap.size,j,none⟩ u) lo Kb v1 v2 v3 ∧ (∃ g,(W.setCell ⟨w.heap.size,j,none⟩ u).rowIs (w.heap.size + 1) 27 5 g) ∧ ∀ (b:Nat) f,b < w.heap.size → w.rowIs b 27 5 f → (W.setCell ⟨w.heap.size,j,none⟩ u).rowIs b 27 5 f:=by
 obtain ⟨r,hr⟩:=h.res;have h1:=h.hcb;have h2:=h.hlo;have hB:=(But.refl (fun c=>c ≠ w.heap.size) W).setCell (p:=⟨w.heap.size,j,none⟩) (fun z=>z rfl) u;exact ⟨h.but.trans (hB.mono fun c _ hc=>by omega),h.cur.but hB fun b hb=>by omega,h.spl.typ (.box h.box zwz j u),⟨r,hB.row hr (by omega)⟩,fun b f hl hk=>hB.row (h.keep b f hl hk) (by omega)⟩
theorem SpB.set0 (h:SpB w cb lo K Kb ns hold W v1 v2 v3) (x:Int):SpB w cb lo K Kb x hold (W.setCell ⟨w.heap.size,0,none⟩ (.int .i64 x)) v1 v2 v3:=by
 obtain ⟨a,b,c,d,dk⟩:=h.set 0 (.int .i64 x);refine ⟨a,b,c,(h.box.set 0 _).congr fun i hi=>?_,d,h.hcb,h.hlo,dk⟩;rcases i with _ | _ | _ | _ | _ | i
 ·rfl
 ·rfl
 ·rfl
 ·rfl
 ·rfl
 ·omega
theorem SpB.set4 (h:SpB w cb lo K Kb ns hold W v1 v2 v3) (x:Int):SpB w cb lo K Kb ns x (W.setCell ⟨w.heap.size,4,none⟩ (.int .i64 x)) v1 v2 v3:=by
 obtain ⟨a,b,c,d,dk⟩:=h.set 4 (.int .i64 x);refine ⟨a,b,c,(h.box.set 4 _).congr fun i hi=>?_,d,h.hcb,h.hlo,dk⟩;rcases i with _ | _ | _ | _ | _ | i
 ·rfl
 ·rfl
 ·rfl
 ·rfl
 ·rfl
 ·omega
theorem SpB.set3 (h:SpB w cb lo K Kb ns hold W v1 v2 v3) (u:Value) (hu:∀ W,SpS W lo Kb v1 v2 v3 → SpS W lo Kb v1 v2 u):SpB w cb lo K Kb ns hold (W.setCell ⟨w.heap.size,3,none⟩ u) v1 v2 u:=by
 obtain ⟨a,b,c,d,dk⟩:=h.set 3 u;refine ⟨a,b,hu _ c,(h.box.set 3 _).congr fun i hi=>?_,d,h.hcb,h.hlo,dk⟩;rcases i with _ | _ | _ | _ | _ | i
 ·rfl
 ·rfl
 ·rfl
 ·rfl
 ·rfl
 ·omega
end
end Go.Proofs.YtdhinkgjiapigaaGreatDoor
