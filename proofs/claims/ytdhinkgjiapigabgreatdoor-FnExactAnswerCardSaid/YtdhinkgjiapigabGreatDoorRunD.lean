import Derived.Test.YtdhinkgjiapigabGreatDoorDoK3
import Derived.Test.YtdhinkgjiapigabGreatDoorDoS3
import Derived.Test.YtdhinkgjiapigabGreatDoorLocksA
namespace Go.Proofs.YtdhinkgjiapigabGreatDoor
open Classical
theorem zk4 {occ:List Bool} {secs:List Int} {been:List Bool} (h:been.length = secs.length):za2 occ secs (za2 occ secs been) = za2 occ secs been:=by
 apply List.ext_getElem?;intro k;by_cases hk:k < secs.length
 ·obtain ⟨s,hs⟩:=zac secs (zaa rfl) hk;obtain ⟨b,hb⟩:=zac been (zaa h) hk;have e:=zdy (occ:=occ) hs hb;rw [e,zdy hs e]
  cases b <;> cases za1 occ s <;> rfl
 ·rw [List.getElem?_eq_none (by rw [za4 (za4 h)]; omega),List.getElem?_eq_none (by rw [za4 h]; omega)]
theorem zps (ok:Nat → Bool) (m k:Nat):zmx ok m k = k + m ∨ ok (zmx ok m k) = false:=by
 induction m generalizing k with
 | zero=>exact .inl rfl
 | succ m ih=>
  unfold zmx;split
  ·rcases ih (k + 1) with z | z
   ·exact .inl (by rw [z]; omega)
   ·exact .inr z
  ·rename_i h
   exact .inr (by simpa using h)
theorem zl0 (ok:Nat → Bool) (m k j:Nat) (h1:k ≤ j) (h2:j < zmx ok m k):ok j = true:=by
 induction m generalizing k with
 | zero=>
  have:zmx ok 0 k = k:=rfl;omega
 | succ m ih=>
  unfold zmx at h2;split at h2
  ·rename_i h
   by_cases e:j = k
   ·rw [e]; exact h
   ·exact ih (k + 1) (by omega) h2
  ·omega
theorem zg6 {occ:List Bool} {secs:List Int} {been:List Bool} {k:Nat} (hk:k ≤ been.length):k ≤ zbd occ secs been k ∧ zbd occ secs been k ≤ been.length:=by
 unfold zbd;have:=zn8 (zkj occ secs been) (been.length - k) k;omega
theorem zlc {occ:List Bool} {secs:List Int} {been:List Bool} {k:Nat} (hk:k ≤ been.length) (hn:zbd occ secs been k ≠ been.length):zbd occ secs been (zbd occ secs been k) = zbd occ secs been k:=by
 have hb:=zg6 (occ:=occ) (secs:=secs) hk;refine zeg (by omega) ?_;unfold zbd at hn ⊢;rcases zps (zkj occ secs been) (been.length - k) k with z | z
 ·exact absurd z (by omega)
 ·exact z
theorem zjc {hold:Int} {n:Nat} (hn:0 < n):zcn hold n (zc3 n):=by
 refine ⟨⟨by show (0:Int) ≤ 0; decide,by show (0:Int) ≤ 4; decide⟩,List.length_replicate,⟨Int.le_refl _,by show (0:Int) ≤ _; omega⟩,fun _=>⟨fun k b hb=>?_,rfl⟩,fun k hk=>?_,fun e=>?_,fun _=>⟨rfl,fun _=>rfl,fun e=>?_⟩⟩
 ·have:=List.mem_of_getElem? hb;exact (List.mem_replicate.1 this).2
 ·exact absurd (show (k:Int) < 0 from hk) (by omega)
 ·exact absurd (show (0:Int) = 3 from e) (by decide)
 ·exact absurd (show (0:Int) = 2 from e) (by decide)
theorem zoy {hold:Int} {occ:List Bool} {secs:List Int} {h:HeldD} (hn:0 < secs.length) (h4:h.state = 4) (hk:zcn hold secs.length h):zcn hold secs.length (zcb occ secs h) ∧ ((zcb occ secs h).state = 0 ∨ (zcb occ secs h).state = 4 ∧ zcb occ secs (zcb occ secs h) = zcb occ secs h):=by
 obtain ⟨k1,k2,k3,k4,k5,k6,k7⟩:=hk;have hbl:=za4 (occ:=occ) k2
 have hg:h.gone.toNat ≤ (za2 occ secs h.been).length:=by have:=k3.1; have:=k3.2; omega
 have hgb:=zg6 (occ:=occ) (secs:=secs) hg;unfold zcb;by_cases e:zbd occ secs (za2 occ secs h.been) h.gone.toNat = (za2 occ secs h.been).length
 ·rw [if_pos e,hbl];exact ⟨zjc hn,.inl rfl⟩
 ·rw [if_neg e];refine ⟨⟨k1,hbl,⟨by show (0:Int) ≤ ((zbd occ secs (za2 occ secs h.been) h.gone.toNat:Nat):Int); omega,by show ((zbd occ secs (za2 occ secs h.been) h.gone.toNat:Nat):Int) ≤ _; omega⟩,fun z=>absurd h4 z,fun k hkk=>?_,fun z=>absurd (h4.symm.trans z) (by decide),fun z=>?_⟩,.inr ⟨h4,?_⟩⟩
  ·have hkl:k < zbd occ secs (za2 occ secs h.been) h.gone.toNat:=by
    have:(k:Int) < ((zbd occ secs (za2 occ secs h.been) h.gone.toNat:Nat):Int):=hkk;omega
   show (za2 occ secs h.been)[k]? = some true;by_cases q:k < h.gone.toNat
   ·obtain ⟨s,hs⟩:=zac secs (zaa rfl) (show k < secs.length by omega);rw [zdy hs (k5 k (by omega))];rfl
   ·have ho:=zl0 _ _ _ k (by omega) hkl;unfold zkj at ho;simp only [Bool.and_eq_true] at ho;obtain ⟨b,hb⟩:=zac (za2 occ secs h.been) (zaa hbl) (show k < secs.length by omega);have h1:=ho.1.1;rw [List.getD_eq_getElem?_getD,hb] at h1;rw [hb];exact congrArg some h1
  ·have:=k7 (by rw [h4]; decide);exact ⟨this.1,fun e0=>absurd (h4.symm.trans e0) (by decide),fun e2=>absurd (h4.symm.trans e2) (by decide)⟩
  ·show (if zbd occ secs (za2 occ secs (za2 occ secs h.been)) ((zbd occ secs (za2 occ secs h.been) h.gone.toNat:Nat):Int).toNat = (za2 occ secs (za2 occ secs h.been)).length then zc3 (za2 occ secs (za2 occ secs h.been)).length else { h with been:=za2 occ secs (za2 occ secs h.been),gone:=((zbd occ secs (za2 occ secs (za2 occ secs h.been)) ((zbd occ secs (za2 occ secs h.been) h.gone.toNat:Nat):Int).toNat:Nat):Int) }) = _;rw [zk4 k2,Int.toNat_natCast,zlc hg e,if_neg e]
theorem zq6 {hold:Int} {n:Nat} {h:HeldD} (hk:zcn hold n h):zcn hold n { h with state:=4,timer:=0 }:=by
 obtain ⟨k1,k2,k3,k4,k5,k6,k7⟩:=hk;exact ⟨⟨by show (0:Int) ≤ 4; decide,by show (4:Int) ≤ 4; decide⟩,k2,k3,fun z=>absurd rfl z,k5,fun z=>absurd (show (4:Int) = 3 from z) (by decide),fun _=>⟨rfl,fun z=>absurd (show (4:Int) = 0 from z) (by decide),fun z=>absurd (show (4:Int) = 2 from z) (by decide)⟩⟩
theorem znh {hold:Int} {occ:List Bool} {points:List (Int × Int)} {x:WayD} {h:HeldD} (hn:0 < x.sections.length) (hk:zcn hold x.sections.length h):zcn hold x.sections.length (zar occ points x h) ∧ zar occ points x (zar occ points x h) = zar occ points x h ∧ (h.state = 0 → zar occ points x h = h):=by
 by_cases e0:h.state = 0
 ·rw [zbj e0];exact ⟨hk,zbj e0,fun _=>rfl⟩
 refine (fun z:_ ∧ _=>⟨z.1,z.2,fun e=>absurd e e0⟩) ?_;by_cases e4:h.state = 4
 ·rw [zb9 e4];obtain ⟨p1,p2 | ⟨p2,p3⟩⟩:=zoy (occ:=occ) hn e4 hk
  ·exact ⟨p1,zbj p2⟩
  ·exact ⟨p1,by rw [zb9 p2,p3]⟩
 cases ho:za1 occ (x.sections.getD 0 0) with
 | true=>
  rw [zdo e0 e4 ho];obtain ⟨p1,p2 | ⟨p2,p3⟩⟩:=zoy (occ:=occ) (h:={ h with state:=4,timer:=0 }) hn rfl (zq6 hk)
  ·exact ⟨p1,zbj p2⟩
  ·exact ⟨p1,by rw [zb9 p2,p3]⟩
 | false=>
  obtain ⟨k1,k2,k3,k4,k5,k6,k7⟩:=hk;by_cases e12:h.state = 1 ∨ h.state = 2
  ·have e3:h.state ≠ 3:=by omega
   cases hp:za9 occ points x with
   | true=>
    rw [zce e12 ho hp];refine ⟨⟨⟨by show (0:Int) ≤ 2; decide,by show (2:Int) ≤ 4; decide⟩,k2,k3,fun _=>k4 e4,k5,fun z=>absurd (show (2:Int) = 3 from z) (by decide),fun _=>⟨(k7 e3).1,fun z=>absurd (show (2:Int) = 0 from z) (by decide),fun _=>rfl⟩⟩,?_⟩;rw [zce (.inr rfl) ho hp]
   | false=>
    rw [zc8 e12 ho hp];refine ⟨⟨⟨by show (0:Int) ≤ 1; decide,by show (1:Int) ≤ 4; decide⟩,k2,k3,fun _=>k4 e4,k5,fun z=>absurd (show (1:Int) = 3 from z) (by decide),fun _=>⟨(k7 e3).1,fun z=>absurd (show (1:Int) = 0 from z) (by decide),fun z=>absurd (show (1:Int) = 2 from z) (by decide)⟩⟩,?_⟩;rw [zc8 (.inl rfl) ho hp]
  ·rw [zda e4 (fun z=>e12 (.inl z)) (fun z=>e12 (.inr z)) ho];exact ⟨⟨k1,k2,k3,k4,k5,k6,k7⟩,zda e4 (fun z=>e12 (.inl z)) (fun z=>e12 (.inr z)) ho⟩
theorem zdv {ways:List WayD} {d:FrameD} {i:Nat} {g:HeldD} (h:(zbu ways d).ways[i]? = some g):∃ x y,ways[i]? = some x ∧ d.ways[i]? = some y ∧ g = zar d.occ d.points x y:=by
 change (List.zipWith (zar d.occ d.points) ways d.ways)[i]? = some g at h;rw [List.getElem?_zipWith] at h
 cases hx:ways[i]? with
 | none=>rw [hx] at h; cases h
 | some x=>
  cases hy:d.ways[i]? with
  | none=>rw [hx,hy] at h; cases h
  | some y=>
   rw [hx,hy] at h;exact ⟨x,y,rfl,rfl,(Option.some.inj h).symm⟩
def zrx (p:PlanD) (d:FrameD):Prop:=
 d.ok = true ∧ (d.occ.length:Int) = p.sections ∧ d.points.length = p.switches.length ∧ d.ways.length = p.ways.length ∧ (∀ (k:Nat) x,d.points[k]? = some x → zeo x) ∧ ∀ i,i < d.ways.length → zqr p d i
theorem zkp {p:PlanD} {d:FrameD} (hp:Right p) (h:zrx p d):zas p (zbu p.ways d):=by
 obtain ⟨h1,h2,h3,h4,h5,h6⟩:=h
 have hl:(zbu p.ways d).ways.length = p.ways.length:=by
  show (List.zipWith _ p.ways d.ways).length = _;rw [List.length_zipWith];omega
 have hone:∀ (i:Nat) x y,p.ways[i]? = some x → d.ways[i]? = some y → zcn p.hold x.sections.length (zar d.occ d.points x y) ∧ zar d.occ d.points x (zar d.occ d.points x y) = zar d.occ d.points x y ∧ (y.state = 0 → zar d.occ d.points x y = y):=fun i x y hx hy=>
  znh (List.length_pos_iff.2 (hp.way hx).1) (h6 i (List.getElem?_eq_some_iff.1 hy).1 x y hx hy).1
 refine ⟨hp,h1,h2,h3,hl,h5,fun i hi=>?_,?_⟩
 ·intro x g hx hg;obtain ⟨x',y,e1,e2,rfl⟩:=zdv hg;rw [hx] at e1
  cases e1
  refine ⟨(hone i x y hx e2).1,fun k g2 hik hg2 hbar hs=>?_⟩;obtain ⟨x2,y2,f1,f2,rfl⟩:=zdv hg2;have hy:y.state ≠ 0:=fun z=>hs (by rw [(hone i x y hx e2).2.2 z]; exact z);have hz:=(h6 i (List.getElem?_eq_some_iff.1 e2).1 x y hx e2).2 k y2 hik f2 hbar hy;rw [(hone k x2 y2 f1 f2).2.2 hz];exact hz
 ·show List.zipWith (zar d.occ d.points) p.ways d.ways = List.zipWith (zar d.occ d.points) p.ways (List.zipWith (zar d.occ d.points) p.ways d.ways);apply List.ext_getElem?;intro i;rw [List.getElem?_zipWith,List.getElem?_zipWith,List.getElem?_zipWith]
  cases hx:p.ways[i]? with
  | none=>rfl
  | some x=>
   cases hy:d.ways[i]? with
   | none=>rfl
   | some y=>exact congrArg some (hone i x y hx hy).2.1.symm
theorem Right.sym {p:PlanD} (hp:Right p) {i k:Nat} (hi:i < p.ways.length) (hk:k < p.ways.length):p.bar i k = p.bar k i:=
 Decidable.byContradiction fun z=>hp.parts.2.2.2.2.2 i ⟨hi,k,hk,.inl z⟩
theorem zmk {p:PlanD} {d e:FrameD} (hR:zas p d) {k:Nat} {x:WayD} {y:HeldD} (hx:p.ways[k]? = some x) (hy:zcn p.hold x.sections.length y) (hf:y.state ≠ 0 → ∀ (j:Nat) g,k ≠ j → d.ways[j]? = some g → p.bar k j = some true → g.state = 0) (he:e.ways = d.ways.set k y):∀ i,i < e.ways.length → zqr p e i:=by
 have hlen:=hR.2.2.2.2.1;have hkl:k < p.ways.length:=(List.getElem?_eq_some_iff.1 hx).1;intro i hi z h hz hh;have hil:i < p.ways.length:=(List.getElem?_eq_some_iff.1 hz).1;rw [he] at hh;by_cases ik:i = k
 ·subst ik;rw [hx] at hz
  cases hz
  rw [List.getElem?_set_self (by omega)] at hh
  cases hh
  refine ⟨hy,fun j g hij hg hbar hs=>?_⟩;rw [he,List.getElem?_set_ne hij] at hg;exact hf hs j g hij hg hbar
 ·rw [List.getElem?_set_ne (Ne.symm ik)] at hh;obtain ⟨q1,q2⟩:=hR.2.2.2.2.2.2.1 i (by omega) z h hz hh;refine ⟨q1,fun j g hij hg hbar hs=>?_⟩;rw [he] at hg;by_cases jk:j = k
  ·subst jk;rw [List.getElem?_set_self (by omega)] at hg
   cases hg
   refine Decidable.byContradiction fun hne=>hs ?_;exact hf hne i h (Ne.symm ik) hh ((hR.1.sym hkl hil).trans hbar)
  ·rw [List.getElem?_set_ne (Ne.symm jk)] at hg;exact q2 j g hij hg hbar hs
theorem zjn {points:List (Int × Int)} {k:Nat} {g:Int × Int → Int × Int} (h:∀ (k:Nat) x,points[k]? = some x → zeo x) (hg:∀ x,zeo x → zeo (g x)):∀ (j:Nat) x,(zdg points k g)[j]? = some x → zeo x:=fun j x hx=>by
 cases hk:points[k]? with
 | none=>
  unfold zdg at hx
  rw [hk] at hx
  exact h j x hx
 | some pt=>
  rw [zc7 g hk] at hx
  by_cases e:j = k
  ·subst e
   rw [List.getElem?_set_self (List.getElem?_eq_some_iff.1 hk).1] at hx
   cases hx
   exact hg pt (h _ pt hk)
  ·rw [List.getElem?_set_ne (Ne.symm e)] at hx
   exact h j x hx
theorem zlr {points l:List (Int × Int)} (h:∀ (k:Nat) x,points[k]? = some x → zeo x) (hl:∀ y ∈ l,InR y.2 1 2):∀ (j:Nat) x,(zav points l)[j]? = some x → zeo x:=by
 induction l generalizing points with
 | nil=>exact h
 | cons y l ih=>exact ih (zjn h fun x hx=>⟨hl y List.mem_cons_self,hx.2⟩) fun z hz=>hl z (List.mem_cons_of_mem _ hz)
theorem zp9 {p:PlanD} {d:FrameD} {i:Nat} {x:WayD} {h:HeldD} (e:zit p d i x h = 0):zcc p d i = []:=by
 have h0:=zfn e;unfold zit zph at e;rw [if_neg (by simp [h0])] at e;by_cases z:0 < (zcc p d i).length
 ·rw [if_pos z] at e
  cases e
 ·exact List.eq_nil_of_length_eq_zero (by omega)
theorem zpd (p:PlanD) (d:FrameD) (i:Nat) (x:WayD) (h:HeldD):zit p d i x h ≠ 1:=by
 unfold zit zph;split
 ·decide
 split
 ·decide
 split
 ·decide
 split
 ·decide
 split <;> decide
theorem zpq (p:PlanD) (d:FrameD) (op of lie:Int):(evD p d op of lie).1 ≠ 1:=by
 unfold evD;split
 ·split
  ·unfold zlx;split
   ·exact (by decide:(0:Int) ≠ 1)
   ·exact zpd _ _ _ _ _
  ·exact (by decide:(0:Int) ≠ 1)
 split
 ·split
  ·unfold zc0;split
   ·exact (by decide:(0:Int) ≠ 1)
   ·exact (by decide:(2:Int) ≠ 1)
  ·exact (by decide:(0:Int) ≠ 1)
 split
 ·exact (by decide:(0:Int) ≠ 1)
 split
 ·exact (by decide:(0:Int) ≠ 1)
 split
 ·exact (by decide:(0:Int) ≠ 1)
 split
 ·unfold zen;split
  ·exact (by decide:(2:Int) ≠ 1)
  split
  ·exact (by decide:(3:Int) ≠ 1)
  ·exact (by decide:(0:Int) ≠ 1)
 ·exact (by decide:(0:Int) ≠ 1)
theorem zl4 {m:Nat} {l:List (Int × Int)} (h:LiesOk m l) {y:Int × Int} (hy:y ∈ l):InR y.2 1 2:=by
 obtain ⟨j,hj⟩:=List.getElem?_of_mem hy;exact (h.1 j (List.getElem?_eq_some_iff.1 hj).1 y hj).1.2
theorem zo7 {hold:Int} {n:Nat} {h:HeldD} (hn:0 < n) (hk:zcn hold n h):zcn hold n (za7 h) ∧ (h.state = 0 → (za7 h).state = 0):=by
 unfold za7;obtain ⟨k1,k2,k3,k4,k5,k6,k7⟩:=id hk;split
 ·rename_i e
  have e6:=k6 e;split
  ·rw [k2];exact ⟨zjc hn,fun _=>rfl⟩
  ·rename_i et
   exact ⟨⟨k1,k2,k3,k4,k5,fun _=>⟨e6.1,by show (1:Int) ≤ h.timer - 1; have:=e6.2.1; omega,by show h.timer - 1 ≤ hold; have:=e6.2.2; omega⟩,fun z=>absurd e z⟩,fun z=>z⟩
 ·exact ⟨hk,fun z=>z⟩
theorem zpr {p:PlanD} {d:FrameD} {op of lie:Int} (hR:zas p d) (hE:za5 p.sections p.switches.length p.ways.length op of lie):zrx p (evD p d op of lie).2:=by
 obtain ⟨hp,hok,hoc,hpt,hw,hps,hwr,-⟩:=id hR;have hall:zrx p d:=⟨hok,hoc,hpt,hw,hps,hwr⟩;have hhold:=hp.parts.1.2.2.2;unfold evD;split
 ·split
  ·rename_i x h hx hh
   have hk0:=(hwr _ (List.getElem?_eq_some_iff.1 hh).1 x h hx hh).1;unfold zlx;split
   ·rename_i e
    have h0:=zfn e;obtain ⟨k1,k2,k3,k4,k5,k6,k7⟩:=hk0;have hwo:=hp.way hx;refine ⟨hok,hoc,(zbo _ _).trans hpt,List.length_set.trans hw,zlr hps fun y hy=>?_,zmk hR hx (y:={ h with state:=1 }) ?_ (fun _ j g hkj hg hbar=>?_) rfl⟩
    ·rcases List.mem_append.1 hy with z | z
     ·exact zl4 hwo.2.2.2.2.1 z
     ·exact zl4 hwo.2.2.2.2.2.1 z
    ·have k7':=k7 (by rw [h0]; decide);exact ⟨⟨by show (0:Int) ≤ 1; decide,by show (1:Int) ≤ 4; decide⟩,k2,k3,fun _=>k4 (by rw [h0]; decide),k5,fun z=>absurd (show (1:Int) = 3 from z) (by decide),fun _=>⟨k7'.1,fun z=>absurd (show (1:Int) = 0 from z) (by decide),fun z=>absurd (show (1:Int) = 2 from z) (by decide)⟩⟩
    ·refine Decidable.byContradiction fun hne=>?_;have hjl:j < d.ways.length:=(List.getElem?_eq_some_iff.1 hg).1;obtain ⟨xj,hxj⟩:=zac p.ways (zaa rfl) (show j < p.ways.length by omega)
     have hm:j ∈ zcc p d of.toNat:=by
      unfold zcc;rw [List.mem_filter];refine ⟨?_,?_⟩
      ·unfold za6;rw [List.mem_filter,List.mem_range];exact ⟨hjl,by rw [zd2 hg]; simpa using hne⟩
      ·unfold ziy;rw [hx,hxj,hbar];simp;omega
     rw [zp9 e] at hm
     cases hm
   ·exact hall
  ·exact hall
 split
 ·split
  ·rename_i x h hx hh
   obtain ⟨hk0,hx0⟩:=hwr _ (List.getElem?_eq_some_iff.1 hh).1 x h hx hh;unfold zc0;split
   ·rename_i e12
    have hne:h.state ≠ 0:=by omega
    refine ⟨hok,hoc,hpt,List.length_set.trans hw,hps,zmk hR hx (y:=zb3 p.hold d.occ x h) ?_ (fun _ j g hkj hg hbar=>hx0 j g hkj hg hbar hne) rfl⟩;obtain ⟨k1,k2,k3,k4,k5,k6,k7⟩:=hk0;unfold zb3;split
    ·rename_i es
     rw [Bool.and_eq_true] at es;exact ⟨⟨by show (0:Int) ≤ 3; decide,by show (3:Int) ≤ 4; decide⟩,k2,k3,fun _=>k4 (by omega),k5,fun _=>⟨es.1,hhold.1,Int.le_refl _⟩,fun z=>absurd rfl z⟩
    ·rw [k2];exact zjc (List.length_pos_iff.2 (hp.way hx).1)
   ·exact hall
  ·exact hall
 split
 ·exact ⟨hok,by show ((d.occ.set of.toNat true).length:Int) = _; rw [List.length_set]; exact hoc,hpt,hw,hps,hwr⟩
 split
 ·exact ⟨hok,by show ((d.occ.set of.toNat false).length:Int) = _; rw [List.length_set]; exact hoc,hpt,hw,hps,hwr⟩
 split
 ·rename_i e5
  have hl:InR lie 0 2:=by
   rcases hE with ⟨h,-⟩ | ⟨h,-⟩ | ⟨-,-,h⟩ | ⟨h,-⟩ | ⟨h,-⟩
   ·omega
   ·omega
   ·exact h
   ·omega
   ·omega
  exact ⟨hok,hoc,(zco _ _ _).trans hpt,hw,zjn hps fun x hx=>⟨hx.1,hl⟩,hwr⟩
 split
 ·rename_i e6
  have hl:InR lie 1 2:=by
   rcases hE with ⟨h,-⟩ | ⟨h,-⟩ | ⟨h,-⟩ | ⟨-,-,h⟩ | ⟨h,-⟩
   ·omega
   ·omega
   ·omega
   ·exact h
   ·omega
  unfold zen;split
  ·exact hall
  split
  ·exact hall
  ·exact ⟨hok,hoc,(zco _ _ _).trans hpt,hw,zjn hps fun x hx=>⟨hl,hx.2⟩,hwr⟩
 ·refine ⟨hok,hoc,hpt,(by show (d.ways.map za7).length = _; rw [List.length_map]; exact hw),hps,fun i _ x g hx hg=>?_⟩;change (d.ways.map za7)[i]? = some g at hg;rw [List.getElem?_map] at hg;obtain ⟨h,hh,rfl⟩:=Option.map_eq_some_iff.1 hg;obtain ⟨q1,q2⟩:=hwr i (List.getElem?_eq_some_iff.1 hh).1 x h hx hh;have ht:=zo7 (List.length_pos_iff.2 (hp.way hx).1) q1;refine ⟨ht.1,fun k g2 hik hg2 hbar hs=>?_⟩;change (d.ways.map za7)[k]? = some g2 at hg2;rw [List.getElem?_map] at hg2;obtain ⟨h2,hh2,rfl⟩:=Option.map_eq_some_iff.1 hg2;have hz:=q2 k h2 hik hh2 hbar fun z=>hs (ht.2 z);obtain ⟨x2,hx2⟩:=zac p.ways (zaa rfl) (show k < p.ways.length by have:=(List.getElem?_eq_some_iff.1 hh2).1; omega);exact (zo7 (List.length_pos_iff.2 (hp.way hx2).1) (hwr k (List.getElem?_eq_some_iff.1 hh2).1 x2 h2 hx2 hh2).1).2 hz
theorem zly {p:PlanD} {d:FrameD} {op of lie:Int} (hR:zas p d) (hE:za5 p.sections p.switches.length p.ways.length op of lie):zas p (doD p d op of lie).2:=zkp hR.1 (zpr hR hE)
end Go.Proofs.YtdhinkgjiapigabGreatDoor
namespace Go.Proofs.YtdhinkgjiapigabGreatDoor
open Go.RowKit Go.Deep
open Classical
def Evs (P:Nat → Prop) (w:World) (v:Value) (l:List (Int × Int × Int)):Prop:=
 Sl P v l.length fun b off i=>∀ x,l[i]? = some x → w.cell? ⟨b,off + i * 3,none⟩ = some (.int .i64 x.1) ∧ w.cell? ⟨b,off + i * 3 + 1,none⟩ = some (.int .i64 x.2.1) ∧ w.cell? ⟨b,off + i * 3 + 2,none⟩ = some (.int .i64 x.2.2)
theorem Evs.keep {P Q:Nat → Prop} {w w':World} {v:Value} {l:List (Int × Int × Int)} (h:Evs P w v l) (hs:Same P w w') (hP:∀ b,P b → Q b):Evs Q w' v l:=
 Sl.imp h hP fun b off i hb _ he x hx=>by rw [hs b hb,hs b hb,hs b hb]; exact he x hx
def zpg (p:PlanD) (e:Int × Int × Int):Prop:=za5 p.sections p.switches.length p.ways.length e.1 e.2.1 e.2.2
def zqv (p:PlanD) (e:Int × Int × Int):Decidable (zpg p e):=by unfold zpg za5 InR; infer_instance
def evB (p:PlanD) (e:Int × Int × Int):Bool:=@decide (zpg p e) (zqv p e)
theorem zpp {p:PlanD} {e:Int × Int × Int} (h:zpg p e):evB p e = true:=@decide_eq_true _ (zqv p e) h
theorem zn5 {p:PlanD} {e:Int × Int × Int} (h:¬ zpg p e):evB p e = false:=@decide_eq_false _ (zqv p e) h
def zdx (p:PlanD) (f:FrameD) (e:Int × Int × Int):Int × FrameD:=if evB p e = true then doD p f e.1 e.2.1 e.2.2 else (1,f)
theorem zfk {p:PlanD} {f:FrameD} {e:Int × Int × Int} (h:zpg p e):zdx p f e = doD p f e.1 e.2.1 e.2.2:=if_pos (zpp h)
theorem zgt {p:PlanD} {f:FrameD} {e:Int × Int × Int} (h:¬ zpg p e):zdx p f e = (1,f):=if_neg (by rw [zn5 h]; decide)
theorem zim {p:PlanD} {f:FrameD} (hR:zas p f) (e:Int × Int × Int):zas p (zdx p f e).2:=by
 by_cases h:zpg p e
 ·rw [zfk h];exact zly hR h
 ·rw [zgt h];exact hR
def zhy (f:FrameD) (l:List (Int × FrameD)):FrameD:=match l.getLast? with
 | some x=>x.2
 | none=>f
theorem zid (f:FrameD) (l:List (Int × FrameD)) (x:Int × FrameD):zhy f (l ++ [x]) = x.2:=by unfold zhy; rw [List.getLast?_concat]
def zdu (p:PlanD) (f:FrameD) (es:List (Int × Int × Int)):List (Int × FrameD):=es.foldl (fun l e=>l ++ [zdx p (zhy f l) e]) []
theorem zo1 (p:PlanD) (f:FrameD) (es:List (Int × Int × Int)) (e:Int × Int × Int):zdu p f (es ++ [e]) = zdu p f es ++ [zdx p (zhy f (zdu p f es)) e]:=by unfold zdu; rw [List.foldl_append]; rfl
theorem zd9 (p:PlanD) (f:FrameD) {es:List (Int × Int × Int)} {k:Nat} {e:Int × Int × Int} (h:es[k]? = some e):zdu p f (es.take (k + 1)) = zdu p f (es.take k) ++ [zdx p (zhy f (zdu p f (es.take k))) e]:=by
 rw [List.take_add_one,h];exact zo1 p f (es.take k) e
theorem zez (p:PlanD) (f:FrameD) (es:List (Int × Int × Int)) (k:Nat) (hk:k ≤ es.length):(zdu p f (es.take k)).length = k:=by
 induction k with
 | zero=>rfl
 | succ k ih=>
  obtain ⟨e,he⟩:=zac es (zaa rfl) (show k < es.length by omega);rw [zd9 p f he,List.length_append,ih (by omega)];rfl
def zp2 (p:PlanD) (es:List (Int × Int × Int)) [Decidable (Right p ∧ es.length ≤ 1000)]:List (Int × FrameD):=if Right p ∧ es.length ≤ 1000 then zdu p (zaq p) es else []
theorem zdp {p:PlanD} (hp:Right p):zas p (zaq p):=by
 have hs:=hp.parts.1.1;refine ⟨hp,rfl,?_,List.length_replicate,zay _,fun k x hx=>?_,fun i _ x h hx hh=>?_,?_⟩
 ·show ((List.replicate p.sections.toNat false).length:Int) = _;rw [List.length_replicate];have:=hs.1;omega
 ·have:=(List.mem_replicate.1 (List.mem_of_getElem? (show (List.replicate p.switches.length ((1,1):Int × Int))[k]? = some x from hx))).2;subst this;exact ⟨⟨by decide,by decide⟩,⟨by decide,by decide⟩⟩
 ·have e:=(ze8 hx).symm.trans (show (zdw p.ways)[i]? = some h from hh)
  cases e
  refine ⟨zjc (List.length_pos_iff.2 (hp.way hx).1),fun k g _ _ _ hs=>absurd rfl hs⟩
 ·show zdw p.ways = List.zipWith _ p.ways (zdw p.ways);apply List.ext_getElem?;intro i;rw [List.getElem?_zipWith]
  cases hx:p.ways[i]? with
  | none=>
   rw [List.getElem?_eq_none (by rw [zay]; exact List.getElem?_eq_none_iff.1 hx)]
  | some x=>
   rw [ze8 hx];exact congrArg some (zbj rfl).symm
def DonesX (W:World) (l:List (Int × FrameD)) (xs:List Value) (lo:Nat → Nat):Prop:=
 ∀ (j:Nat) x,l[j]? = some x → ∃ u1 u2 u3 bo bp bw bb,xs[j * 5]? = some (.int .i64 x.1) ∧ xs[j * 5 + 1]? = some (.bool x.2.ok) ∧ xs[j * 5 + 2]? = some u1 ∧ xs[j * 5 + 3]? = some u2 ∧ xs[j * 5 + 4]? = some u3 ∧ OFrame (fun c=>lo j ≤ c ∧ c < lo (j + 1)) W u1 u2 u3 x.2 bo bp bw bb
theorem OFrame.away {P:Nat → Prop} {W:World} {v1 v2 v3:Value} {d:FrameD} {bo bp bw g:Nat} {bb:Nat → Nat} (h:OFrame P W v1 v2 v3 d bo bp bw bb) (hg:∀ t N f b,W.rowIs b t N f → t = 4 ∨ t = 90 ∨ t = 93 → b ≠ g):OFrame (fun c=>P c ∧ c ≠ g) W v1 v2 v3 d bo bp bw bb:=by
 refine ⟨h.occ,h.points,h.ways,⟨h.po,?_⟩,fun z=>⟨h.pp z,?_⟩,fun z=>⟨h.pw z,?_⟩,fun i hi=>⟨h.pb i hi,?_⟩,h.inj,h.off⟩
 ·obtain ⟨_,_,hq⟩:=h.occ.row;exact hg _ _ _ _ hq (.inl rfl)
 ·obtain ⟨_,_,hq⟩:=h.points.row z;exact hg _ _ _ _ hq (.inr (.inl rfl))
 ·obtain ⟨_,_,hq⟩:=h.ways.row z;exact hg _ _ _ _ hq (.inr (.inr rfl))
 ·obtain ⟨_,_,hq⟩:=h.ways.been hi;exact hg _ _ _ _ hq (.inl rfl)
theorem OFrame.grown {P:Nat → Prop} {W W':World} {v1 v2 v3:Value} {d:FrameD} {bo bp bw:Nat} {bb:Nat → Nat} {base size n:Nat} {u:Value} {xs:List Value} (h:OFrame P W v1 v2 v3 d bo bp bw bb) (hg:W.grownBy W' u.ownBlock) (hown:W.ownsRow base 50 size u n xs):OFrame P W' v1 v2 v3 d bo bp bw bb:=by
 have hB:But (fun c=>some c ≠ u.ownBlock) W W':=⟨hg.os,hg.tape,hg.output,hg.size,fun c hc hk=>hg.block c hc hk⟩
 cases e:u.ownBlock with
 | none=>exact h.but hB (fun c _=>by rw [e]; exact fun z=>by cases z) fun _ z=>z
 | some g=>
  refine (h.away (g:=g) fun t N f b hr ht=>(zat hown e).2.2 t N f b hr ?_).but hB (fun c hc=>by rw [e]; exact fun z=>hc.2 (Option.some.inj z)) fun _ z=>z.1
  rcases ht with rfl | rfl | rfl <;> decide
theorem OFrame.boxed {P K:Nat → Prop} {W W':World} {v1 v2 v3:Value} {d:FrameD} {bo bp bw g t N:Nat} {f:Nat → Value} {bb:Nat → Nat} (h:OFrame P W v1 v2 v3 d bo bp bw bb) (hr:W.rowIs g t N f) (ht:t ≠ 4 ∧ t ≠ 90 ∧ t ≠ 93) (hB:But K W W') (hk:∀ c,c ≠ g → K c):OFrame P W' v1 v2 v3 d bo bp bw bb:=by
 refine (h.away (g:=g) fun t' N' f' b hr' ht'=>?_).but hB (fun c hc=>hk c hc.2) fun _ z=>z.1;refine zbb hr' hr ?_;rcases ht' with rfl | rfl | rfl
 ·exact ht.1.symm
 ·exact ht.2.1.symm
 ·exact ht.2.2.symm
theorem DonesX.map {W W':World} {l:List (Int × FrameD)} {xs:List Value} {lo:Nat → Nat} (h:DonesX W l xs lo) (hk:∀ (P:Nat → Prop) v1 v2 v3 d bo bp bw bb,OFrame P W v1 v2 v3 d bo bp bw bb → OFrame P W' v1 v2 v3 d bo bp bw bb):DonesX W' l xs lo:=fun j x hx=>by
 obtain ⟨u1,u2,u3,bo,bp,bw,bb,h0,h1,h2,h3,h4,h5⟩:=h j x hx
 exact ⟨u1,u2,u3,bo,bp,bw,bb,h0,h1,h2,h3,h4,hk _ _ _ _ _ _ _ _ _ h5⟩
theorem DonesX.snoc {W:World} {l:List (Int × FrameD)} {xs:List Value} {lo:Nat → Nat} {x:Int × FrameD} {u1 u2 u3:Value} {bo bp bw hi:Nat} {bb:Nat → Nat} (h:DonesX W l xs lo) (hl:xs.length = l.length * 5) (hf:OFrame (fun c=>lo l.length ≤ c ∧ c < hi) W u1 u2 u3 x.2 bo bp bw bb) :
  DonesX W (l ++ [x]) (xs ++ [.int .i64 x.1,.bool x.2.ok,u1,u2,u3]) (fun j=>if j = l.length + 1 then hi else lo j):=by
 intro j y hy;by_cases e:j = l.length
 ·subst e;rw [List.getElem?_append_right (Nat.le_refl _),Nat.sub_self] at hy
  cases hy
  refine ⟨u1,u2,u3,bo,bp,bw,bb,?_,?_,?_,?_,?_,?_⟩
  ·rw [List.getElem?_append_right (by omega),hl,Nat.sub_self]; rfl
  ·rw [List.getElem?_append_right (by omega),hl,show l.length * 5 + 1 - l.length * 5 = 1 by omega]; rfl
  ·rw [List.getElem?_append_right (by omega),hl,show l.length * 5 + 2 - l.length * 5 = 2 by omega]; rfl
  ·rw [List.getElem?_append_right (by omega),hl,show l.length * 5 + 3 - l.length * 5 = 3 by omega]; rfl
  ·rw [List.getElem?_append_right (by omega),hl,show l.length * 5 + 4 - l.length * 5 = 4 by omega]; rfl
  ·simp only [if_true];rw [if_neg (by omega)];exact hf
 ·have hj:j < l.length:=by
   have:=(List.getElem?_eq_some_iff.1 hy).1;rw [List.length_append] at this;simp at this;omega
  rw [List.getElem?_append_left hj] at hy;obtain ⟨v1,v2,v3,c1,c2,c3,c4,h0,h1,h2,h3,h4,h5⟩:=h j y hy;refine ⟨v1,v2,v3,c1,c2,c3,c4,?_,?_,?_,?_,?_,?_⟩
  ·rw [List.getElem?_append_left (by omega)]; exact h0
  ·rw [List.getElem?_append_left (by omega)]; exact h1
  ·rw [List.getElem?_append_left (by omega)]; exact h2
  ·rw [List.getElem?_append_left (by omega)]; exact h3
  ·rw [List.getElem?_append_left (by omega)]; exact h4
  ·simp only [if_neg (show ¬ j = l.length + 1 by omega),if_neg (show ¬ j + 1 = l.length + 1 by omega)];exact h5
theorem FrameM.own {B0:Nat} {w:World} {v1 v2 v3:Value} {d:FrameD} (h:FrameM B0 w v1 v2 v3 d) (ho:0 < d.occ.length):∃ bo bp bw bb,OFrame (fun c=>B0 ≤ c) w v1 v2 v3 d bo bp bw bb:=by
 rcases h with h | ⟨-,-,-,e,-,-⟩
 ·exact h
 ·rw [e] at ho;exact absurd ho (by decide)
theorem ze7 {p:PlanD} {d:FrameD} (hR:zas p d):0 < d.occ.length:=by
 have:=hR.2.2.1;have:=hR.1.parts.1.1.1;omega
theorem zd1 {p:PlanD} {d:FrameD} (hR:zas p d):d.Small 1048576:=by
 have hfit:=zd0 hR.1 hR.2.2.1 hR.2.2.2.1 hR.2.2.2.2.1 hR.2.2.2.2.2.2.1;refine ⟨hfit.2.2.1,hfit.2.2.2.1,by have:=hfit.1; have:=hfit.2.1; omega,fun h hm=>?_⟩;obtain ⟨i,hi⟩:=List.getElem?_of_mem hm;obtain ⟨x,hx⟩:=zac p.ways (zaa rfl) (show i < p.ways.length by have:=(List.getElem?_eq_some_iff.1 hi).1; have:=hfit.1; omega);have:=hfit.2.2.2.2 i x h hx hi;have h1:=this.1;have h2:=this.2.2.1.1;omega
end Go.Proofs.YtdhinkgjiapigabGreatDoor
