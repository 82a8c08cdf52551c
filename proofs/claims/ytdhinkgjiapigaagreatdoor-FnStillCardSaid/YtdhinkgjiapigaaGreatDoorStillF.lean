import Derived.Test.YtdhinkgjiapigaaGreatDoorHeldFs
import Derived.Test.YtdhinkgjiapigaaGreatDoorDlts
namespace Go.Proofs.YtdhinkgjiapigaaGreatDoor
open Classical
def zvp (p:PlanD) (d:FrameD):Prop:=∀ (q i:Nat),0 < zcs p d (q:Int) i → ∃ pt,d.points[q]? = some pt ∧ pt.1 = zcs p d (q:Int) i
theorem zvb {p:PlanD} {d:FrameD} {q:Int} {i:Nat} {x:WayD} {h:HeldD} (hx:p.ways[i]? = some x) (hh:d.ways[i]? = some h):zcs p d q i = zdc p.switches x h q:=by unfold zcs; rw [hx,hh]
theorem zvd {sw:List Int} {x:WayD} {h:HeldD} {q:Int} (hw:0 < zdc sw x h q):h.state ≠ 0 ∧ ∃ y ∈ x.lies ++ x.flanks,y.1 = q ∧ y.2 = zdc sw x h q:=by
 have h0:h.state ≠ 0:=fun e=>by rw [ze1 e] at hw; omega
 refine ⟨h0,?_⟩
 cases ef:x.flanks.find? (fun y=>y.1 == q) with
 | some y=>
  have:=List.find?_some ef;exact ⟨y,List.mem_append.2 (.inr (List.mem_of_find?_eq_some ef)),by simpa using this,(zgg h0 ef).symm⟩
 | none=>
  cases el:x.lies.find? (fun y=>y.1 == q && zb7 x h (sw.getD q.toNat 0)) with
  | some y=>
   have:=List.find?_some el;rw [Bool.and_eq_true] at this;exact ⟨y,List.mem_append.2 (.inl (List.mem_of_find?_eq_some el)),by simpa using this.1,(ziq h0 ef el).symm⟩
  | none=>rw [ze2 h0 ef el] at hw; omega
theorem zvo {sw:List Int} {x:WayD} {h h':HeldD} {q:Int} (h0:h.state ≠ 0) (hg:0 ≤ h.gone) (hgg:h.gone ≤ h'.gone) (hw:0 < zdc sw x h' q):zdc sw x h q = zdc sw x h' q:=by
 have h0':h'.state ≠ 0:=(zvd hw).1
 cases ef:x.flanks.find? (fun y=>y.1 == q) with
 | some y=>rw [zgg h0 ef,zgg h0' ef]
 | none=>
  cases eb:zb7 x h' (sw.getD q.toNat 0) with
  | false=>
   have:x.lies.find? (fun y=>y.1 == q && zb7 x h' (sw.getD q.toNat 0)) = none:=by
    rw [List.find?_eq_none];intro y _;rw [eb];simp
   rw [ze2 h0' ef this] at hw;omega
  | true=>
   obtain ⟨-,k,hk,hgk⟩:=(zh9 (by omega)).1 eb;have eb2:zb7 x h (sw.getD q.toNat 0) = true:=(zh9 hg).2 ⟨h0,k,hk,by omega⟩
   cases el:x.lies.find? (fun y=>y.1 == q && zb7 x h' (sw.getD q.toNat 0)) with
   | none=>rw [ze2 h0' ef el] at hw; omega
   | some y=>
    have el2:x.lies.find? (fun y=>y.1 == q && zb7 x h (sw.getD q.toNat 0)) = some y:=by rw [eb2,← eb]; exact el
    rw [ziq h0 ef el2,ziq h0' ef el]
theorem zvv {occ:List Bool} {points:List (Int × Int)} {x:WayD} {y:HeldD} (hl:y.been.length = x.sections.length) (hg:0 ≤ y.gone) (hg2:y.gone ≤ (x.sections.length:Int)) (hs:(zar occ points x y).state ≠ 0):y.state ≠ 0 ∧ y.gone ≤ (zar occ points x y).gone:=by
 have h0:y.state ≠ 0:=fun e=>hs (by rw [zbj e]; exact e);refine ⟨h0,?_⟩
 have hp:∀ g:HeldD,g.been.length = x.sections.length → g.gone = y.gone → (zcb occ x.sections g).state ≠ 0 → y.gone ≤ (zcb occ x.sections g).gone:=fun g e1 e2 e3=>by
  unfold zcb at e3 ⊢;split at e3
  ·exact absurd rfl e3
  ·rename_i hn
   rw [if_neg hn];have:=(zg6 (occ:=occ) (secs:=x.sections) (been:=za2 occ x.sections g.been) (k:=g.gone.toNat) (by rw [za4 e1,e2]; omega)).1;show y.gone ≤ ((zbd occ x.sections (za2 occ x.sections g.been) g.gone.toNat:Nat):Int);omega
 have hc:∀ g:HeldD,(zep occ points x g).been = g.been ∧ (zep occ points x g).gone = g.gone:=fun g=>by
  unfold zep;split
  ·split <;> exact ⟨rfl,rfl⟩
  ·exact ⟨rfl,rfl⟩
 have hu:(znm occ x y).been = y.been ∧ (znm occ x y).gone = y.gone:=by
  unfold znm
  split <;> exact ⟨rfl,rfl⟩
 unfold zar zgk at hs ⊢;rw [if_neg h0] at hs ⊢;split
 ·rename_i e4
  rw [if_pos e4] at hs;exact hp _ (by rw [(hc _).1,hu.1]; exact hl) (by rw [(hc _).2,hu.2]) hs
 ·rw [(hc _).2,hu.2];exact Int.le_refl _
theorem zvh {p:PlanD} {d:FrameD} {q:Int} {i:Nat} (hi:i < p.ways.length):(i:Int) ∈ zbn p d q ↔ 0 < zcs p d q i:=by
 unfold zbn;rw [List.mem_map];constructor
 ·rintro ⟨j,hj,e⟩
  have:j = i:=by omega
  subst this;rw [List.mem_filter] at hj;exact of_decide_eq_true hj.2
 ·intro h;exact ⟨i,List.mem_filter.2 ⟨List.mem_range.2 hi,decide_eq_true h⟩,rfl⟩
theorem zv2 {p:PlanD} {d:FrameD} {i:Nat} {x:WayD} {h:HeldD} (e:zit p d i x h = 0):(zdb d.points x).any (zew p d i) = false ∧ (zdb d.points x).any (zgd p d) = false:=by
 have h0:=zfn e;unfold zit zph at e;rw [if_neg (by simp [h0])] at e;split at e
 ·cases e
 split at e
 ·cases e
 split at e
 ·cases e
 split at e
 ·cases e
 ·rename_i h1 h2
  exact ⟨by simpa using h1,by simpa using h2⟩
theorem zvq {n:Int} {sw:List Int} {x:WayD} (hw:WayOk n sw x) {y z:Int × Int} (hy:y ∈ x.lies ++ x.flanks) (hz:z ∈ x.lies ++ x.flanks) (e:y.1 = z.1):y = z:=by
 have one:∀ (l:List (Int × Int)),LiesOk sw.length l → ∀ a ∈ l,∀ b ∈ l,a.1 = b.1 → a = b:=fun l hl a ha b hb hab=>by
  obtain ⟨i,hi⟩:=List.getElem?_of_mem ha;obtain ⟨j,hj⟩:=List.getElem?_of_mem hb;rcases Nat.lt_trichotomy i j with z | z | z
  ·exact absurd hab ((hl.1 j (List.getElem?_eq_some_iff.1 hj).1 b hj).2 i a z hi)
  ·subst z;rw [hi] at hj
   cases hj
   rfl
  ·exact absurd hab.symm ((hl.1 i (List.getElem?_eq_some_iff.1 hi).1 a hi).2 j b z hj)
 rcases List.mem_append.1 hy with h1 | h1 <;> rcases List.mem_append.1 hz with h2 | h2
 ·exact one _ hw.2.2.2.2.1 y h1 z h2 e
 ·exact absurd e ((hw.2.2.2.2.2.2.1 y h1).1 z h2)
 ·exact absurd e.symm ((hw.2.2.2.2.2.2.1 z h2).1 y h1)
 ·exact one _ hw.2.2.2.2.2.1 y h1 z h2 e
theorem zvi {n:Int} {sw:List Int} {x:WayD} (hw:WayOk n sw x) {y:Int × Int} (hy:y ∈ x.lies ++ x.flanks):0 ≤ y.1:=by
 rcases List.mem_append.1 hy with h | h
 ·exact (hw.2.2.2.2.1.mem h).1
 ·exact (hw.2.2.2.2.2.1.mem h).1
theorem zvn (l:List (Int × Int)):∀ (points:List (Int × Int)) (q:Nat) (pt:Int × Int),points[q]? = some pt → ∃ pt',(zav points l)[q]? = some pt' ∧ ((pt' = pt ∧ ∀ y ∈ l,y.1.toNat ≠ q) ∨ ∃ y ∈ l,y.1.toNat = q ∧ pt'.1 = y.2):=by
 induction l with
 | nil=>exact fun points q pt h=>⟨pt,h,.inl ⟨rfl,fun _ h=>by cases h⟩⟩
 | cons y l ih=>
  intro points q pt h;by_cases e:y.1.toNat = q
  ·have h2:(zlq points y)[q]? = some (y.2,pt.2):=by
    unfold zlq;rw [e,zc7 _ h,List.getElem?_set_self (List.getElem?_eq_some_iff.1 h).1]
   obtain ⟨pt',h3,h4⟩:=ih (zlq points y) q _ h2;refine ⟨pt',h3,.inr ?_⟩;rcases h4 with ⟨h5,-⟩ | ⟨z,hz,h5,h6⟩
   ·exact ⟨y,List.mem_cons_self,e,by rw [h5]⟩
   ·exact ⟨z,List.mem_cons_of_mem _ hz,h5,h6⟩
  ·have h2:(zlq points y)[q]? = some pt:=by
    unfold zlq zdg;split
    ·rw [List.getElem?_set_ne e]; exact h
    ·exact h
   obtain ⟨pt',h3,h4⟩:=ih (zlq points y) q _ h2;refine ⟨pt',h3,?_⟩;rcases h4 with ⟨h5,h6⟩ | ⟨z,hz,h5,h6⟩
   ·refine .inl ⟨h5,fun z hz=>?_⟩;rcases List.mem_cons.1 hz with rfl | hz
    ·exact e
    ·exact h6 z hz
   ·exact .inr ⟨z,List.mem_cons_of_mem _ hz,h5,h6⟩
theorem zvw {points:List (Int × Int)} {k q:Nat} {g:Int × Int → Int × Int} {pt:Int × Int} (h:points[q]? = some pt):(zdg points k g)[q]? = some (if k = q then g pt else pt):=by
 by_cases e:k = q
 ·subst e;rw [if_pos rfl,zc7 _ h,List.getElem?_set_self (List.getElem?_eq_some_iff.1 h).1]
 ·rw [if_neg e];unfold zdg;split
  ·rw [List.getElem?_set_ne e]; exact h
  ·exact h
theorem zv4 (p:PlanD) (f:FrameD) (op of lie:Int):(∀ (q:Nat) a,f.points[q]? = some a → ∃ b,(evD p f op of lie).2.points[q]? = some b ∧ b.1 = a.1) ∨
  (op = 1 ∧ ∃ x h,p.ways[of.toNat]? = some x ∧ f.ways[of.toNat]? = some h ∧ zit p f of.toNat x h = 0 ∧ (evD p f op of lie).1 = 0 ∧ (evD p f op of lie).2.points = zav f.points (x.lies ++ x.flanks)) ∨
  (op = 6 ∧ (evD p f op of lie).1 = 0 ∧ zbn p f (of.toNat:Int) = [] ∧ za1 f.occ (p.switches.getD of.toNat 0) = false ∧ ∀ (q:Nat) a,f.points[q]? = some a → ∃ b,(evD p f op of lie).2.points[q]? = some b ∧ (q ≠ of.toNat → b.1 = a.1)):=by
 have same:∀ d:FrameD,d.points = f.points → ∀ (q:Nat) a,f.points[q]? = some a → ∃ b,d.points[q]? = some b ∧ b.1 = a.1:=fun d e q a h=>⟨a,by rw [e]; exact h,rfl⟩;unfold evD;split
 ·rename_i e1
  split
  ·rename_i x h hx hh
   unfold zlx;split
   ·rename_i ew
    exact .inr (.inl ⟨e1,x,h,hx,hh,ew,rfl,rfl⟩)
   ·exact .inl (same _ rfl)
  ·exact .inl (same _ rfl)
 split
 ·split
  ·unfold zc0;split
   ·exact .inl (same _ rfl)
   ·exact .inl (same _ rfl)
  ·exact .inl (same _ rfl)
 split
 ·exact .inl (same _ rfl)
 split
 ·exact .inl (same _ rfl)
 split
 ·refine .inl fun q a h=>⟨_,zvw h,?_⟩
  split <;> rfl
 split
 ·rename_i e6
  unfold zen;split
  ·exact .inl (same _ rfl)
  ·rename_i hp
   split
   ·exact .inl (same _ rfl)
   ·rename_i ho
    refine .inr (.inr ⟨e6,rfl,List.eq_nil_of_length_eq_zero (by omega),by simpa using ho,fun q a h=>⟨_,zvw h,fun hq=>?_⟩⟩);rw [if_neg (fun e=>hq e.symm)]
 ·exact .inl (same _ rfl)
theorem zv1 {p:PlanD} {f:FrameD} {i:Nat} {x:WayD} {h:HeldD} (hw:WayOk p.sections p.switches x) (ew:zit p f i x h = 0) {q:Nat} {a b:Int × Int} (ha:f.points[q]? = some a) (hb:(zav f.points (x.lies ++ x.flanks))[q]? = some b) (hne:b.1 ≠ a.1):za1 f.occ (p.switches.getD q 0) = false ∧ ∀ z ∈ zbn p f (q:Int),z = (i:Int):=by
 obtain ⟨pt',h1,h2⟩:=zvn (x.lies ++ x.flanks) f.points q a ha;rw [hb] at h1
 cases h1
 rcases h2 with ⟨e,-⟩ | ⟨y,hy,hq,he⟩
 ·exact absurd (by rw [e]) hne
 ·have hy0:=zvi hw hy
  have hyq:y.1 = (q:Int):=by omega
  have hyt:y ∈ zdb f.points x:=by
   unfold zdb;rw [List.mem_filter];refine ⟨hy,?_⟩;unfold zge;rw [hq,ha];simp only [Option.map_some,Option.getD_some,bne_iff_ne,ne_eq];exact fun z=>hne (by rw [he,z])
  obtain ⟨w1,w2⟩:=zv2 ew;rw [List.any_eq_false] at w1 w2;have l1:=w1 y hyt;have l2:=w2 y hyt;refine ⟨?_,fun z hz=>?_⟩
  ·unfold zgd at l2;rw [hyq] at l2;unfold za1;rw [List.getD_eq_getElem?_getD] at l2;simp only [Int.toNat_natCast] at l2
   cases e:f.occ[(p.switches.getD q 0).toNat]? with
   | none=>rfl
   | some o=>rw [e] at l2; simpa using l2
  ·unfold zew at l1;rw [hyq] at l1
   have l3:(zbn p f (q:Int)).any (fun z=>z != (i:Int)) = false:=by simpa using l1
   rw [List.any_eq_false] at l3;have:=l3 z hz;simpa using this
theorem zvx {p:PlanD} {f:FrameD} {q:Int} {i:Nat} {x:WayD} {h:HeldD} (hx:p.ways[i]? = some x) (hh:f.ways[i]? = some h) (h0:h.state = 0):¬ (i:Int) ∈ zbn p f q:=fun hm=>by
 rw [zvh (List.getElem?_eq_some_iff.1 hx).1,zvb hx hh,ze1 h0] at hm
 omega
theorem zvk {p:PlanD} {f:FrameD} {e:Int × Int × Int} (hR:zas p f) {q:Nat} {a b:Int × Int} (ha:f.points[q]? = some a) (hb:(zdx p f e).2.points[q]? = some b) (hne:b.1 ≠ a.1):(e.1 = 1 ∨ e.1 = 6) ∧ (zdx p f e).1 = 0 ∧ za1 f.occ (p.switches.getD q 0) = false ∧ zbn p f (q:Int) = []:=by
 by_cases hev:zpg p e
 ·rw [zfk hev] at hb ⊢;have hb':(evD p f e.1 e.2.1 e.2.2).2.points[q]? = some b:=hb;rcases zv4 p f e.1 e.2.1 e.2.2 with h | ⟨h1,x,h,hx,hh,ew,hc,hp⟩ | ⟨h6,hc,hp,ho,hk⟩
  ·obtain ⟨b',hb1,hb2⟩:=h q a ha;rw [hb'] at hb1
   cases hb1
   exact absurd hb2 hne
  ·rw [hp] at hb';obtain ⟨h2,h3⟩:=zv1 (hR.1.way hx) ew ha hb' hne;refine ⟨.inl h1,hc,h2,?_⟩;rcases hl:zbn p f (q:Int) with _ | ⟨z,l⟩
   ·rfl
   ·have hz:z ∈ zbn p f (q:Int):=by rw [hl]; exact List.mem_cons_self
    rw [h3 z hz] at hz;exact absurd hz (zvx hx hh (zfn ew))
  ·obtain ⟨b',hb1,hb2⟩:=hk q a ha;rw [hb'] at hb1
   cases hb1
   have hq:q = e.2.1.toNat:=Decidable.byContradiction fun z=>hne (hb2 z);rw [hq];exact ⟨.inr h6,hc,ho,hp⟩
 ·rw [zgt hev] at hb;have hb':f.points[q]? = some b:=hb;rw [ha] at hb'
  cases hb'
  exact absurd rfl hne
theorem zv3 {p:PlanD} {f:FrameD} {of lie:Int} {k:Nat} {x:WayD} {h:HeldD} (hx:p.ways[k]? = some x) (hh:f.ways[k]? = some h) (h0:h.state = 0) (hy:(evD p f 1 of lie).2.ways[k]? = some { h with state:=1 }):of.toNat = k ∧ zit p f k x h = 0:=by
 have hno:∀ d:FrameD,d.ways = f.ways → d.ways[k]? = some { h with state:=1 } → False:=fun d e z=>by
  rw [e,hh] at z;have:=congrArg HeldD.state (Option.some.inj z);rw [h0] at this;exact absurd this (by show ¬ (0:Int) = 1; decide)
 unfold evD at hy;rw [if_pos rfl] at hy;split at hy
 ·rename_i x' h' hx' hh'
  unfold zlx at hy;split at hy
  ·rename_i ew
   by_cases e:of.toNat = k
   ·subst e;rw [hx] at hx';rw [hh] at hh'
    cases hx'
    cases hh'
    exact ⟨rfl,ew⟩
   ·have hy':(f.ways.set of.toNat { h' with state:=1 })[k]? = some { h with state:=1 }:=hy;rw [List.getElem?_set_ne e] at hy';exact absurd hy' (fun z=>hno f rfl z)
  ·exact absurd hy (fun z=>hno f rfl z)
 ·exact absurd hy (fun z=>hno f rfl z)
theorem zvf {hold:Int} {occ:List Bool} {x:WayD} {h:HeldD} (hs:(zb3 hold occ x h).state ≠ 0):(zb3 hold occ x h).gone = h.gone ∧ (zb3 hold occ x h).been = h.been:=by
 unfold zb3 at hs ⊢;split
 ·exact ⟨rfl,rfl⟩
 ·rename_i hn
  rw [if_neg hn] at hs;exact absurd rfl hs
theorem zvm {h:HeldD} (hs:(za7 h).state ≠ 0):h.state ≠ 0 ∧ (za7 h).gone = h.gone ∧ (za7 h).been = h.been:=by
 unfold za7 at hs ⊢;split
 ·rename_i h3
  rw [if_pos h3] at hs;split
  ·rename_i ht
   rw [if_pos ht] at hs;exact absurd rfl hs
  ·exact ⟨by rw [h3]; decide,rfl,rfl⟩
 ·rename_i h3
  rw [if_neg h3] at hs;exact ⟨hs,rfl,rfl⟩
theorem zvy {p:PlanD} {f:FrameD} {e:Int × Int × Int} (hR:zas p f) (hW:zvp p f):zvp p (zdx p f e).2:=fun q i hw=>by
 by_cases hev:zpg p e
 case neg=>
  rw [zgt hev] at hw ⊢
  exact hW q i hw
 have hRd:zas p (zdx p f e).2:=zim hR e
 have hst:∀ a,f.points[q]? = some a → (i:Int) ∈ zbn p f (q:Int) → ∃ b,(zdx p f e).2.points[q]? = some b ∧ b.1 = a.1:=fun a ha hm=>by
  obtain ⟨b,hb⟩:=zac (zdx p f e).2.points (zaa (hRd.2.2.2.1.trans hR.2.2.2.1.symm)) (List.getElem?_eq_some_iff.1 ha).1
  refine ⟨b,hb,Decidable.byContradiction fun hne=>?_⟩
  have:=(zvk hR ha hb hne).2.2.2
  rw [this] at hm
  cases hm
 rw [zfk hev] at hw hst ⊢
 obtain ⟨x,h',hx,hh'⟩:∃ x h',p.ways[i]? = some x ∧ (doD p f e.1 e.2.1 e.2.2).2.ways[i]? = some h':=by
  unfold zcs at hw
  split at hw
  ·rename_i x h hx hh
   exact ⟨x,h,hx,hh⟩
  ·omega
 have hil:=(List.getElem?_eq_some_iff.1 hx).1
 obtain ⟨h,hh⟩:=zac f.ways (zaa hR.2.2.2.2.1) hil
 have hk:=(hR.2.2.2.2.2.2.1 i (List.getElem?_eq_some_iff.1 hh).1 x h hx hh).1
 have hwo:=hR.1.way hx
 obtain ⟨y,hy,hc,hb⟩:=zqf (op:=e.1) (of:=e.2.1) (lie:=e.2.2) hx hh
 have hd:=zqe hx hy hh'
 have hwe:zcs p (doD p f e.1 e.2.1 e.2.2).2 (q:Int) i = zdc p.switches x h' (q:Int):=zvb hx hh'
 rw [hwe] at hw ⊢
 have hs':=(zvd hw).1
 have key:y.state ≠ 0 → y.been = h.been ∧ y.gone = h.gone ∧ (h.state ≠ 0 ∨ (e.1 = 1 ∧ h.state = 0 ∧ y = { h with state:=1 })):=fun hy0=>by
  rcases hc with z | ⟨z1,z2,z3⟩ | ⟨z1,z2⟩ | ⟨-,-,-,-,-,-,z⟩
  ·rw [z] at hy0 ⊢
   exact ⟨rfl,rfl,.inl hy0⟩
  ·rw [z3]
   exact ⟨rfl,rfl,.inr ⟨z1,z2,rfl⟩⟩
  ·rcases hb ⟨z1,z2⟩ with q1 | q1 | q1
   ·rw [z2] at hy0 ⊢
    exact ⟨(zvf hy0).2,(zvf hy0).1,.inl (by rw [q1]; decide)⟩
   ·rw [z2] at hy0 ⊢
    exact ⟨(zvf hy0).2,(zvf hy0).1,.inl (by rw [q1]; decide)⟩
   ·rw [q1] at hy0 ⊢
    exact ⟨rfl,rfl,.inl hy0⟩
  ·rw [z] at hy0 ⊢
   exact ⟨(zvm hy0).2.2,(zvm hy0).2.1,.inl (zvm hy0).1⟩
 have hy0:y.state ≠ 0:=fun z=>by
  rw [hd,zbj z] at hs'
  exact hs' z
 obtain ⟨k1,k2,k3⟩:=key hy0
 have hgo:=hk.2.2.1
 have hle:y.gone ≤ h'.gone:=by
  have:=(zvv (occ:=(doD p f e.1 e.2.1 e.2.2).2.occ) (points:=(doD p f e.1 e.2.1 e.2.2).2.points) (x:=x) (y:=y) (by rw [k1]; exact hk.2.1) (by rw [k2]; exact hgo.1) (by rw [k2]; have:=hgo.2; omega) (by rw [← hd]; exact hs')).2
  rw [← hd] at this
  exact this
 have hyw:=zvo (sw:=p.switches) (x:=x) (q:=(q:Int)) hy0 (by rw [k2]; exact hgo.1) hle hw
 rcases k3 with h0 | ⟨z1,z2,z3⟩
 ·have hhw:zdc p.switches x h (q:Int) = zdc p.switches x h' (q:Int):=by
   rw [← hyw]
   exact zvo h0 hgo.1 (by omega) (by rw [hyw]; exact hw)
  obtain ⟨pt,hp1,hp2⟩:=hW q i (by rw [zvb hx hh,hhw]; exact hw)
  obtain ⟨b,hb1,hb2⟩:=hst pt hp1 ((zvh hil).2 (by rw [zvb hx hh,hhw]; exact hw))
  exact ⟨b,hb1,by rw [hb2,hp2,zvb hx hh,hhw]⟩
 ·obtain ⟨e1,e2,e3⟩:=e
  have z1':e1 = 1:=z1
  subst z1'
  rw [z3] at hy hyw
  obtain ⟨ho,ew⟩:=zv3 hx hh z2 hy
  have hpts:(doD p f 1 e2 e3).2.points = zav f.points (x.lies ++ x.flanks):=by
   show (evD p f 1 e2 e3).2.points = _
   unfold evD
   rw [if_pos rfl,ho,hx,hh]
   show (zlx p f i x h).2.points = _
   unfold zlx
   rw [if_pos ew]
  have hent:=zvd (x:=x) (h:={ h with state:=1 }) (by rw [hyw]; exact hw)
  obtain ⟨-,y0,hy1,hy2,hy3⟩:=hent
  have hql:q < f.points.length:=by
   rw [hR.2.2.2.1]
   have:y0.1 < (p.switches.length:Int):=by
    rcases List.mem_append.1 hy1 with z | z
    ·exact (hwo.2.2.2.2.1.mem z).2
    ·exact (hwo.2.2.2.2.2.1.mem z).2
   omega
  obtain ⟨a,ha⟩:=zac f.points (zaa rfl) hql
  obtain ⟨pt',hp1,hp2⟩:=zvn (x.lies ++ x.flanks) f.points q a ha
  refine ⟨pt',by rw [hpts]; exact hp1,?_⟩
  rcases hp2 with ⟨-,hno⟩ | ⟨y1,hm,hq,hv⟩
  ·exact absurd (show y0.1.toNat = q by omega) (hno y0 hy1)
  ·have:y1 = y0:=zvq hwo hm hy1 (by have:=zvi hwo hm; omega)
   rw [hv,this,hy3,hyw]
theorem zvt (p:PlanD):zvp p (zaq p):=fun q i hw=>by
 exfalso
 unfold zcs at hw
 split at hw
 ·rename_i x h hx hh
  have hi:(zdw p.ways)[i]? = some h:=hh
  rw [ze8 hx] at hi
  cases hi
  rw [ze1 rfl] at hw
  omega
 ·omega
theorem zv0 {p:PlanD} (hp:Right p) (es:List (Int × Int × Int)):∀ i,i ≤ es.length → zvp p (zfu p es i):=by
 intro i
 induction i with
 | zero=>exact fun _=>zvt p
 | succ i ih=>
  intro hi;obtain ⟨e,he⟩:=zac es (zaa rfl) (show i < es.length by omega);rw [zqk he];exact zvy (zi8 hp es (by omega)) (ih (by omega))
end Go.Proofs.YtdhinkgjiapigaaGreatDoor
