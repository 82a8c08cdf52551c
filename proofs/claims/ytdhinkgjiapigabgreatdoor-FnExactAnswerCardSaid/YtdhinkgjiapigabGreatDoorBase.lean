import Derived.WalkKit
import Derived.WalkSpells
import Derived.WalkLawsBesides
import Derived.Deep.OwnRows
namespace Go.Proofs.YtdhinkgjiapigabGreatDoor
open Go.RowKit
structure WayD where
 sections : List Int
 lies:List (Int × Int)
 flanks:List (Int × Int)
 over:List Int
 near:List Int
structure PlanD where
 sections : Int
 switches:List Int
 ways:List WayD
 bars:List (List Bool)
 hold:Int
def Sl (P:Nat → Prop) (v:Value) (n:Nat) (E:Nat → Nat → Nat → Prop):Prop:=
 ∃ a cap,v = .slice a n cap ∧ (n = 0 ∨ ∃ b off,a = some ⟨b,off,none⟩ ∧ P b ∧ ∀ i,i < n → E b off i)
theorem Sl.imp {P Q:Nat → Prop} {v:Value} {n:Nat} {E F:Nat → Nat → Nat → Prop} (h:Sl P v n E) (hP:∀ b,P b → Q b) (hE:∀ b off i,P b → i < n → E b off i → F b off i):Sl Q v n F:=by
 obtain ⟨a,cap,hv,h0 | ⟨b,off,ha,hb,he⟩⟩:=h
 ·exact ⟨a,cap,hv,.inl h0⟩
 ·exact ⟨a,cap,hv,.inr ⟨b,off,ha,hP b hb,fun i hi=>hE b off i hb hi (he i hi)⟩⟩
def Ints (P:Nat → Prop) (w:World) (v:Value) (l:List Int):Prop:=
 Sl P v l.length fun b off i=>∀ x,l[i]? = some x → w.cell? ⟨b,off + i,none⟩ = some (.int .i64 x)
def Bools (P:Nat → Prop) (w:World) (v:Value) (l:List Bool):Prop:=
 Sl P v l.length fun b off i=>∀ x,l[i]? = some x → w.cell? ⟨b,off + i,none⟩ = some (.bool x)
def Lies (P:Nat → Prop) (w:World) (v:Value) (l:List (Int × Int)):Prop:=
 Sl P v l.length fun b off i=>∀ x,l[i]? = some x → w.cell? ⟨b,off + i * 2,none⟩ = some (.int .i64 x.1) ∧ w.cell? ⟨b,off + i * 2 + 1,none⟩ = some (.int .i64 x.2)
def WayAt (P:Nat → Prop) (w:World) (v0 v1 v2 v3 v4:Value) (d:WayD):Prop:=
 Ints P w v0 d.sections ∧ Lies P w v1 d.lies ∧ Lies P w v2 d.flanks ∧ Ints P w v3 d.over ∧ Ints P w v4 d.near
def Ways (P:Nat → Prop) (w:World) (v:Value) (l:List WayD):Prop:=
 Sl P v l.length fun b off i=>∀ x,l[i]? = some x → ∃ v0 v1 v2 v3 v4,WayAt P w v0 v1 v2 v3 v4 x ∧
  w.cell? ⟨b,off + i * 5,none⟩ = some v0 ∧ w.cell? ⟨b,off + i * 5 + 1,none⟩ = some v1 ∧ w.cell? ⟨b,off + i * 5 + 2,none⟩ = some v2 ∧
  w.cell? ⟨b,off + i * 5 + 3,none⟩ = some v3 ∧ w.cell? ⟨b,off + i * 5 + 4,none⟩ = some v4
def znt (v:Value):Prop:=∃ a n c,v = .slice a n c ∧ n ≤ c
def WaysC (P:Nat → Prop) (w:World) (v:Value) (l:List WayD):Prop:=
 Sl P v l.length fun b off i=>∀ x,l[i]? = some x → ∃ v0 v1 v2 v3 v4,(WayAt P w v0 v1 v2 v3 v4 x ∧ znt v0) ∧
  w.cell? ⟨b,off + i * 5,none⟩ = some v0 ∧ w.cell? ⟨b,off + i * 5 + 1,none⟩ = some v1 ∧ w.cell? ⟨b,off + i * 5 + 2,none⟩ = some v2 ∧
  w.cell? ⟨b,off + i * 5 + 3,none⟩ = some v3 ∧ w.cell? ⟨b,off + i * 5 + 4,none⟩ = some v4
theorem WaysC.ways {P:Nat → Prop} {w:World} {v:Value} {l:List WayD} (h:WaysC P w v l):Ways P w v l:=
 Sl.imp h (fun _ hb=>hb) fun b off i hb _ he x hx=>by
  obtain ⟨v0,v1,v2,v3,v4,hw,hc⟩:=he x hx
  exact ⟨v0,v1,v2,v3,v4,hw.1,hc⟩
def Rows2 (P:Nat → Prop) (w:World) (v:Value) (l:List (List Bool)):Prop:=
 Sl P v l.length fun b off i=>∀ x,l[i]? = some x → ∃ v0,Bools P w v0 x ∧ w.cell? ⟨b,off + i,none⟩ = some v0
def PlanAt (P:Nat → Prop) (w:World) (v1 v2 v3:Value) (d:PlanD):Prop:=
 Ints P w v1 d.switches ∧ Ways P w v2 d.ways ∧ Rows2 P w v3 d.bars
def Same (P:Nat → Prop) (w w':World):Prop:=∀ b,P b → ∀ o,w'.cell? ⟨b,o,none⟩ = w.cell? ⟨b,o,none⟩
theorem Ints.keep {P Q:Nat → Prop} {w w':World} {v:Value} {l:List Int} (h:Ints P w v l) (hs:Same P w w') (hP:∀ b,P b → Q b):Ints Q w' v l:=
 Sl.imp h hP fun b off i hb _ he x hx=>by rw [hs b hb]; exact he x hx
theorem Bools.keep {P Q:Nat → Prop} {w w':World} {v:Value} {l:List Bool} (h:Bools P w v l) (hs:Same P w w') (hP:∀ b,P b → Q b):Bools Q w' v l:=
 Sl.imp h hP fun b off i hb _ he x hx=>by rw [hs b hb]; exact he x hx
theorem Lies.keep {P Q:Nat → Prop} {w w':World} {v:Value} {l:List (Int × Int)} (h:Lies P w v l) (hs:Same P w w') (hP:∀ b,P b → Q b):Lies Q w' v l:=
 Sl.imp h hP fun b off i hb _ he x hx=>by rw [hs b hb,hs b hb]; exact he x hx
theorem WayAt.keep {P Q:Nat → Prop} {w w':World} {v0 v1 v2 v3 v4:Value} {d:WayD} (h:WayAt P w v0 v1 v2 v3 v4 d) (hs:Same P w w') (hP:∀ b,P b → Q b):WayAt Q w' v0 v1 v2 v3 v4 d:=
 ⟨h.1.keep hs hP,h.2.1.keep hs hP,h.2.2.1.keep hs hP,h.2.2.2.1.keep hs hP,h.2.2.2.2.keep hs hP⟩
theorem Ways.keep {P Q:Nat → Prop} {w w':World} {v:Value} {l:List WayD} (h:Ways P w v l) (hs:Same P w w') (hP:∀ b,P b → Q b):Ways Q w' v l:=
 Sl.imp h hP fun b off i hb _ he x hx=>by
  obtain ⟨v0,v1,v2,v3,v4,hw,hc⟩:=he x hx
  refine ⟨v0,v1,v2,v3,v4,hw.keep hs hP,?_⟩
  rw [hs b hb,hs b hb,hs b hb,hs b hb,hs b hb]; exact hc
theorem WaysC.keep {P Q:Nat → Prop} {w w':World} {v:Value} {l:List WayD} (h:WaysC P w v l) (hs:Same P w w') (hP:∀ b,P b → Q b):WaysC Q w' v l:=
 Sl.imp h hP fun b off i hb _ he x hx=>by
  obtain ⟨v0,v1,v2,v3,v4,hw,hc⟩:=he x hx
  refine ⟨v0,v1,v2,v3,v4,⟨hw.1.keep hs hP,hw.2⟩,?_⟩
  rw [hs b hb,hs b hb,hs b hb,hs b hb,hs b hb]; exact hc
theorem Rows2.keep {P Q:Nat → Prop} {w w':World} {v:Value} {l:List (List Bool)} (h:Rows2 P w v l) (hs:Same P w w') (hP:∀ b,P b → Q b):Rows2 Q w' v l:=
 Sl.imp h hP fun b off i hb _ he x hx=>by
  obtain ⟨v0,hw,hc⟩:=he x hx
  refine ⟨v0,hw.keep hs hP,?_⟩
  rw [hs b hb]; exact hc
theorem PlanAt.keep {P Q:Nat → Prop} {w w':World} {v1 v2 v3:Value} {d:PlanD} (h:PlanAt P w v1 v2 v3 d) (hs:Same P w w') (hP:∀ b,P b → Q b):PlanAt Q w' v1 v2 v3 d:=
 ⟨h.1.keep hs hP,h.2.1.keep hs hP,h.2.2.keep hs hP⟩
theorem za0 {B:Nat} {w w':World} (h:Below B w w') {P:Nat → Prop} (hP:∀ b,P b → b < B):Same P w w':=
 fun b hb o=>h.cell (p:=⟨b,o,none⟩) (hP b hb)
theorem zax (P:Nat → Prop) (w:World):Same P w w:=fun _ _ _=>rfl
theorem Same.trans {P:Nat → Prop} {a b c:World} (h:Same P a b) (k:Same P b c):Same P a c:=fun x hx o=>(k x hx o).trans (h x hx o)
def In (w:World) (b:Nat):Prop:=b < w.heap.size
def New (w w':World) (b:Nat):Prop:=w.heap.size ≤ b ∧ b < w'.heap.size
theorem In.keep {w w':World} (h:Below w.heap.size w w'):Same (In w) w w' ∧ ∀ b,In w b → In w' b:=
 ⟨za0 h fun _ hb=>hb,fun _ hb=>Nat.lt_of_lt_of_le hb h.size⟩
def WayD.Small (n:Nat) (d:WayD):Prop:=d.sections.length ≤ n ∧ d.lies.length ≤ n ∧ d.flanks.length ≤ n ∧ d.over.length ≤ n ∧ d.near.length ≤ n
def PlanD.Small (n:Nat) (d:PlanD):Prop:=d.switches.length ≤ n ∧ d.ways.length ≤ n ∧ (∀ x ∈ d.ways,x.Small n) ∧ d.bars.length ≤ n ∧ ∀ x ∈ d.bars,x.length ≤ n
theorem Sl.size {P:Nat → Prop} {v:Value} {n:Nat} {E:Nat → Nat → Nat → Prop} (h:Sl P v n E):∃ a cap,v = .slice a n cap:=by
 obtain ⟨a,cap,hv,_⟩:=h; exact ⟨a,cap,hv⟩
theorem zaa {p:Prop} (h:p):Hid p:=h
theorem zac {α:Type} (l:List α) {k n:Nat} (hn:Hid (l.length = n)) (h:k < n):∃ x,l[k]? = some x:=
 ⟨l[k]'(by rw [hn.out]; exact h),List.getElem?_eq_getElem _⟩
theorem zfz {k:IntKind} {a b:Int} (h:a = b):Ending.returned (.int k a) = .returned (.int k b):=by rw [h]
theorem zad {a b:Bool} (h:a = b):Ending.returned (.bool a) = .returned (.bool b):=by rw [h]
end Go.Proofs.YtdhinkgjiapigabGreatDoor
namespace Go.Proofs.YtdhinkgjiapigabGreatDoor
open Classical
def B (p:Prop) [Decidable p]:Bool:=decide p
theorem zam {p:Prop} {i:Decidable p} (h:p):@B p i = true:=decide_eq_true h
theorem zae {p:Prop} {i:Decidable p} (h:¬ p):@B p i = false:=decide_eq_false h
theorem zq8 {p:Prop} {i:Decidable p}:@B p i = true ↔ p:=decide_eq_true_iff
theorem zbz {p q:Prop} {i:Decidable p} {j:Decidable q} (h:p ↔ q):@B p i = @B q j:=by unfold B; exact decide_eq_decide.2 h
def InR (x a b:Int):Prop:=a ≤ x ∧ x ≤ b
def znr (n:Int) (l:List Int) (j:Nat):Prop:=∀ x,l[j]? = some x → InR x 0 (n - 1) ∧ ∀ q,q < j → l[q]? ≠ some x
def ListOk (n:Int) (l:List Int):Prop:=(∀ j,j < l.length → znr n l j) ∧ l.length ≤ 30
def zhr (m:Nat) (l:List (Int × Int)) (j:Nat):Prop:=∀ x,l[j]? = some x → (InR x.1 0 ((m:Int) - 1) ∧ InR x.2 1 2) ∧ ∀ q y,q < j → l[q]? = some y → y.1 ≠ x.1
def LiesOk (m:Nat) (l:List (Int × Int)):Prop:=(∀ j,j < l.length → zhr m l j) ∧ l.length ≤ 30
def Meet (a b:List Int):Prop:=∃ x,x ∈ a ∧ x ∈ b
def zru (sw:List Int) (d:WayD) (x:Int × Int):Prop:=(∀ y ∈ d.flanks,x.1 ≠ y.1) ∧ ∃ s,sw[x.1.toNat]? = some s ∧ s ∈ d.sections
def WayOk (n:Int) (sw:List Int) (d:WayD):Prop:=
 d.sections ≠ [] ∧ ListOk n d.sections ∧ ListOk n d.over ∧ ListOk n d.near ∧ LiesOk sw.length d.lies ∧ LiesOk sw.length d.flanks ∧ (∀ x ∈ d.lies,zru sw d x) ∧ ¬ Meet d.over d.sections
def First (bad:Nat → Prop) (k:Nat):Prop:=bad k ∧ ∀ j,j < k → ¬ bad j
theorem First.eq {bad:Nat → Prop} {j k:Nat} (h:First bad j) (g:First bad k):j = k:=by
 rcases Nat.lt_trichotomy j k with e | e | e
 ·exact absurd h.1 (g.2 j e)
 ·exact e
 ·exact absurd g.1 (h.2 k e)
def Chain (bad:Nat → Prop) (code:Int) (rest:Int → Int → Prop) (c a:Int):Prop:=(∃ k,First bad k ∧ c = code ∧ a = (k:Int)) ∨ ((∀ k,¬ bad k) ∧ rest c a)
def zra (r:Int → Int → Prop):Prop:=∀ c a c' a',r c a → r c' a' → c = c' ∧ a = a'
theorem Chain.uniq {bad:Nat → Prop} {code:Int} {rest:Int → Int → Prop} (h:zra rest):zra (Chain bad code rest):=by
 rintro c a c' a' (⟨k,f,rfl,rfl⟩ | ⟨n,r⟩) (⟨k',f',rfl,rfl⟩ | ⟨n',r'⟩)
 ·exact ⟨rfl,by rw [f.eq f']⟩
 ·exact absurd f.1 (n' k)
 ·exact absurd f'.1 (n k')
 ·exact h _ _ _ _ r r'
def Test (bad:Prop) (code:Int) (rest:Int → Int → Prop) (c a:Int):Prop:=(bad ∧ c = code ∧ a = 0) ∨ (¬ bad ∧ rest c a)
theorem Test.uniq {bad:Prop} {code:Int} {rest:Int → Int → Prop} (h:zra rest):zra (Test bad code rest):=by
 rintro c a c' a' (⟨b,rfl,rfl⟩ | ⟨n,r⟩) (⟨b',rfl,rfl⟩ | ⟨n',r'⟩)
 ·exact ⟨rfl,rfl⟩
 ·exact absurd b n'
 ·exact absurd b' n
 ·exact h _ _ _ _ r r'
def zmm (d:PlanD):Prop:=¬ (InR d.sections 1 60 ∧ d.switches.length ≤ 40 ∧ d.ways.length ≤ 100 ∧ InR d.hold 1 300)
def zjw (d:PlanD) (k:Nat):Prop:=∃ s,d.switches[k]? = some s ∧ ¬ InR s 0 (d.sections - 1)
def zk1 (d:PlanD) (i:Nat):Prop:=∃ x,d.ways[i]? = some x ∧ ¬ WayOk d.sections d.switches x
def zlv (d:PlanD) (i:Nat):Prop:=∃ r,d.bars[i]? = some r ∧ r.length ≠ d.ways.length
def PlanD.bar (d:PlanD) (i k:Nat):Option Bool:=(d.bars[i]?).bind fun r=>r[k]?
def Pair (d:PlanD) (i k:Nat):Prop:=d.bar i k ≠ d.bar k i ∨ (i ≠ k ∧ d.bar i k = some false ∧ ∃ x y,d.ways[i]? = some x ∧ d.ways[k]? = some y ∧ Meet x.sections y.sections)
def zpf (d:PlanD) (i:Nat):Prop:=i < d.ways.length ∧ ∃ k,k < d.ways.length ∧ Pair d i k
def zhq (d:PlanD) (i:Nat):Prop:=i < d.ways.length ∧ ∃ k,i < k ∧ k < d.ways.length ∧ Pair d i k
def FaultBy (bad5:Nat → Prop) (d:PlanD):Int → Int → Prop:=
 Test (zmm d) 1 (Chain (zjw d) 2 (Chain (zk1 d) 3 (Test (d.bars.length ≠ d.ways.length) 4 (Chain (zlv d) 4 (Chain bad5 5 fun c a=>c = 0 ∧ a = 0)))))
theorem FaultBy.uniq (b:Nat → Prop) (d:PlanD):zra (FaultBy b d):=
 Test.uniq (Chain.uniq (Chain.uniq (Test.uniq (Chain.uniq (Chain.uniq fun _ _ _ _ h g=>⟨h.1.trans g.1.symm,h.2.trans g.2.symm⟩)))))
theorem Meet.symm {a b:List Int} (h:Meet a b):Meet b a:=by obtain ⟨x,h1,h2⟩:=h; exact ⟨x,h2,h1⟩
theorem Pair.symm {d:PlanD} {i k:Nat} (h:Pair d i k):Pair d k i:=by
 rcases h with h | ⟨hne,hb,x,y,hx,hy,hm⟩
 ·exact .inl fun e=>h e.symm
 ·by_cases e:d.bar i k = d.bar k i
  ·exact .inr ⟨fun e=>hne e.symm,by rw [← e]; exact hb,y,x,hy,hx,hm.symm⟩
  ·exact .inl fun e'=>e e'.symm
theorem Pair.irrefl {d:PlanD} {i:Nat}:¬ Pair d i i:=by
 rintro (h | ⟨h,-⟩)
 ·exact h rfl
 ·exact h rfl
theorem zri {d:PlanD} {i:Nat}:First (zpf d) i ↔ First (zhq d) i:=by
 have imp:∀ j,zhq d j → zpf d j:=fun j ⟨h,k,_,hk,hp⟩=>⟨h,k,hk,hp⟩;constructor
 ·rintro ⟨⟨hi,k,hk,hp⟩,hno⟩;refine ⟨⟨hi,k,?_,hk,hp⟩,fun j hj hb=>hno j hj (imp j hb)⟩;rcases Nat.lt_trichotomy i k with e | e | e
  ·exact e
  ·subst e; exact absurd hp Pair.irrefl
  ·exact absurd ⟨hk,i,hi,hp.symm⟩ (hno k e)
 ·rintro ⟨hb,hno⟩;refine ⟨imp i hb,fun j hj hb'=>?_⟩;obtain ⟨hjn,k,hk,hp⟩:=hb';rcases Nat.lt_trichotomy j k with e | e | e
  ·exact hno j hj ⟨hjn,k,e,hk,hp⟩
  ·subst e; exact Pair.irrefl hp
  ·exact hno k (by omega) ⟨hk,j,e,hjn,hp.symm⟩
theorem zry {d:PlanD}:(∀ i,¬ zpf d i) ↔ ∀ i,¬ zhq d i:=by
 constructor
 ·exact fun h i ⟨hi,k,_,hk,hp⟩=>h i ⟨hi,k,hk,hp⟩
 ·rintro h i ⟨hi,k,hk,hp⟩;rcases Nat.lt_trichotomy i k with e | e | e
  ·exact h i ⟨hi,k,e,hk,hp⟩
  ·subst e; exact Pair.irrefl hp
  ·exact h k ⟨hk,i,e,hi,hp.symm⟩
theorem zqj {d:PlanD} {c a:Int}:FaultBy (zpf d) d c a ↔ FaultBy (zhq d) d c a:=by
 unfold FaultBy Test;simp only [Chain,zri,zry]
end Go.Proofs.YtdhinkgjiapigabGreatDoor
namespace Go.Proofs.YtdhinkgjiapigabGreatDoor
open Go.RowKit
theorem zfe (A:Nat):BitVec.ofInt 32 (A:Int) = BitVec.ofNat 32 A:=BitVec.ofInt_natCast 32 A
theorem zk3 (A C:Nat) (hA:A < 4294967296) (hC:C < 4294967296):bits .and .u32 (A:Int) (C:Int) = ((A &&& C:Nat):Int):=by
 have h:(BitVec.ofInt 32 (A:Int) &&& BitVec.ofInt 32 (C:Int)).toNat = A &&& C:=by
  rw [BitVec.toNat_and,zfe,zfe,BitVec.toNat_ofNat,BitVec.toNat_ofNat,Nat.mod_eq_of_lt (by omega),Nat.mod_eq_of_lt (by omega)]
 have hlt:A &&& C < 4294967296:=Nat.and_lt_two_pow (n:=32) A (by omega);show IntKind.u32.wrap (((BitVec.ofInt 32 (A:Int) &&& BitVec.ofInt 32 (C:Int)).toNat:Nat):Int) = _;rw [h,IntKind.wrap_u32];omega
theorem zrn (A C:Nat) (hA:A < 4294967296) (hC:C < 4294967296):bits .or .u32 (A:Int) (C:Int) = ((A ||| C:Nat):Int):=by
 have h:(BitVec.ofInt 32 (A:Int) ||| BitVec.ofInt 32 (C:Int)).toNat = A ||| C:=by
  rw [BitVec.toNat_or,zfe,zfe,BitVec.toNat_ofNat,BitVec.toNat_ofNat,Nat.mod_eq_of_lt (by omega),Nat.mod_eq_of_lt (by omega)]
 have hlt:A ||| C < 4294967296:=Nat.or_lt_two_pow (n:=32) (by omega) (by omega);show IntKind.u32.wrap (((BitVec.ofInt 32 (A:Int) ||| BitVec.ofInt 32 (C:Int)).toNat:Nat):Int) = _;rw [h,IntKind.wrap_u32];omega
theorem zme (n:Nat):((2:Int) ^ n) = ((2 ^ n:Nat):Int):=by simp
theorem zod (A n:Nat) (hA:A < 4294967296):(bits .and .u32 ((A:Int) / 2 ^ n) 1 == 1) = A.testBit n:=by
 rw [zme,← Int.natCast_ediv,show (1:Int) = ((1:Nat):Int) from rfl,zk3 _ _ (Nat.lt_of_le_of_lt (Nat.div_le_self _ _) hA) (by omega)];rw [Nat.testBit,Nat.shiftRight_eq_div_pow,Nat.and_comm];generalize A / 2 ^ n = q
 have h:1 &&& q = q % 2:=by rw [Nat.and_comm]; exact Nat.and_one_is_mod q
 rw [h]
 rcases Nat.mod_two_eq_zero_or_one q with e | e <;> rw [e] <;> rfl
theorem zqo {n:Nat} (hn:n < 32):2 ^ n < 4294967296:=by
 have h:(2:Nat) ^ n < 2 ^ 32:=Nat.pow_lt_pow_right (Nat.lt_succ_self 1) hn;exact h
theorem zml (A n:Nat) (hA:A < 4294967296) (hn:n < 32):bits .or .u32 (A:Int) ((2:Int) ^ n % 4294967296) = ((A ||| 2 ^ n:Nat):Int):=by
 have h:2 ^ n < 4294967296:=zqo hn;rw [zme];generalize 2 ^ n = p at h ⊢;rw [show ((p:Int) % 4294967296) = (p:Int) from by omega,zrn _ _ hA h]
theorem zrm (A n:Nat) (hA:A < 4294967296) (hn:n < 32):A ||| 2 ^ n < 4294967296:=
 Nat.or_lt_two_pow (n:=32) (by omega) (zqo hn)
theorem zqn (A n i:Nat):(A ||| 2 ^ n).testBit i = true ↔ (A.testBit i = true ∨ i = n):=by
 rw [Nat.testBit_or,Nat.testBit_two_pow,Bool.or_eq_true,decide_eq_true_iff];exact or_congr Iff.rfl ⟨fun e=>e.symm,fun e=>e.symm⟩
structure SetIs (A C:Nat) (l:List Int):Prop where
 a:A < 4294967296
 c:C < 4294967296
 lo:∀ i,i < 32 → (A.testBit i = true ↔ (i:Int) ∈ l)
 hi:∀ i,i < 32 → (C.testBit i = true ↔ ((i:Int) + 32) ∈ l)
theorem SetIs.nil:SetIs 0 0 []:=⟨by omega,by omega,fun i _=>by simp,fun i _=>by simp⟩
theorem SetIs.low {A C:Nat} {l:List Int} (h:SetIs A C l) {x:Int} (h0:0 ≤ x) (h1:x < 32):SetIs (A ||| 2 ^ x.toNat) C (l ++ [x]):=by
 refine ⟨zrm _ _ h.a (by omega),h.c,fun i hi=>?_,fun i hi=>?_⟩
 ·rw [zqn,h.lo i hi,List.mem_append,List.mem_singleton];exact or_congr Iff.rfl ⟨fun e=>by omega,fun e=>by omega⟩
 ·rw [h.hi i hi,List.mem_append,List.mem_singleton];exact ⟨.inl,fun e=>e.resolve_right (by omega)⟩
theorem SetIs.high {A C:Nat} {l:List Int} (h:SetIs A C l) {x:Int} (h0:32 ≤ x) (h1:x < 64):SetIs A (C ||| 2 ^ (x - 32).toNat) (l ++ [x]):=by
 refine ⟨h.a,zrm _ _ h.c (by omega),fun i hi=>?_,fun i hi=>?_⟩
 ·rw [h.lo i hi,List.mem_append,List.mem_singleton];exact ⟨.inl,fun e=>e.resolve_right (by omega)⟩
 ·rw [zqn,h.hi i hi,List.mem_append,List.mem_singleton];exact or_congr Iff.rfl ⟨fun e=>by omega,fun e=>by omega⟩
theorem zn0 {n:Nat} (h:n ≠ 0):∃ i,n.testBit i = true:=by
 apply Classical.byContradiction;intro hn
 exact h (Nat.eq_of_testBit_eq fun i=>by
  rw [Nat.zero_testBit]
  cases e:n.testBit i
  ·rfl
  ·exact absurd ⟨i,e⟩ hn)
theorem zgx (A C:Nat) (hA:A < 4294967296):A &&& C ≠ 0 ↔ ∃ i,i < 32 ∧ A.testBit i = true ∧ C.testBit i = true:=by
 constructor
 ·intro h;obtain ⟨i,hi⟩:=zn0 h;rw [Nat.testBit_and,Bool.and_eq_true] at hi;refine ⟨i,?_,hi.1,hi.2⟩;rcases Nat.lt_or_ge i 32 with e | e
  ·exact e
  ·exact absurd hi.1 (by rw [Nat.testBit_lt_two_pow (Nat.lt_of_lt_of_le hA (Nat.pow_le_pow_right (n:=2) (by omega) e))]; simp)
 ·rintro ⟨i,-,h1,h2⟩ e
  have:(A &&& C).testBit i = true:=by rw [Nat.testBit_and,h1,h2]; rfl
  rw [e] at this; simp at this
theorem zor {A C A' C':Nat} {l r:List Int} (h:SetIs A C l) (k:SetIs A' C' r) (hl:∀ x ∈ l,0 ≤ x ∧ x < 64):(A &&& A' ≠ 0 ∨ C &&& C' ≠ 0) ↔ Meet l r:=by
 rw [zgx A A' h.a,zgx C C' h.c];constructor
 ·rintro (⟨i,hi,h1,h2⟩ | ⟨i,hi,h1,h2⟩)
  ·exact ⟨_,(h.lo i hi).1 h1,(k.lo i hi).1 h2⟩
  ·exact ⟨_,(h.hi i hi).1 h1,(k.hi i hi).1 h2⟩
 ·rintro ⟨x,h1,h2⟩;obtain ⟨p,q⟩:=hl x h1;by_cases e:x < 32
  ·refine .inl ⟨x.toNat,by omega,(h.lo _ (by omega)).2 ?_,(k.lo _ (by omega)).2 ?_⟩ <;> rw [Int.toNat_of_nonneg p] <;> assumption
  ·refine .inr ⟨(x - 32).toNat,by omega,(h.hi _ (by omega)).2 ?_,(k.hi _ (by omega)).2 ?_⟩ <;> rw [Int.toNat_of_nonneg (by omega),show x - 32 + 32 = x by omega] <;> assumption
end Go.Proofs.YtdhinkgjiapigabGreatDoor
namespace Go.Proofs.YtdhinkgjiapigabGreatDoor
theorem zj2 {b:Nat → Prop} {d:PlanD} (h:zmm d):FaultBy b d 1 0:=.inl ⟨h,rfl,rfl⟩
theorem zqh {b:Nat → Prop} {d:PlanD} {k:Nat} (h1:¬ zmm d) (h:First (zjw d) k):FaultBy b d 2 k:=.inr ⟨h1,.inl ⟨k,h,rfl,rfl⟩⟩
theorem zqi {b:Nat → Prop} {d:PlanD} {k:Nat} (h1:¬ zmm d) (h2:∀ k,¬ zjw d k) (h:First (zk1 d) k):FaultBy b d 3 k:=.inr ⟨h1,.inr ⟨h2,.inl ⟨k,h,rfl,rfl⟩⟩⟩
theorem zn6 {b:Nat → Prop} {d:PlanD} (h1:¬ zmm d) (h2:∀ k,¬ zjw d k) (h3:∀ k,¬ zk1 d k) (h:d.bars.length ≠ d.ways.length):FaultBy b d 4 0:=
 .inr ⟨h1,.inr ⟨h2,.inr ⟨h3,.inl ⟨h,rfl,rfl⟩⟩⟩⟩
theorem zn7 {b:Nat → Prop} {d:PlanD} {k:Nat} (h1:¬ zmm d) (h2:∀ k,¬ zjw d k) (h3:∀ k,¬ zk1 d k) (h4:d.bars.length = d.ways.length) (h:First (zlv d) k):FaultBy b d 4 k:=
 .inr ⟨h1,.inr ⟨h2,.inr ⟨h3,.inr ⟨fun e=>e h4,.inl ⟨k,h,rfl,rfl⟩⟩⟩⟩⟩
theorem zef {b:Nat → Prop} {d:PlanD} {k:Nat} (h1:¬ zmm d) (h2:∀ k,¬ zjw d k) (h3:∀ k,¬ zk1 d k) (h4:d.bars.length = d.ways.length) (h5:∀ k,¬ zlv d k) (h:First b k):FaultBy b d 5 k:=
 .inr ⟨h1,.inr ⟨h2,.inr ⟨h3,.inr ⟨fun e=>e h4,.inr ⟨h5,.inl ⟨k,h,rfl,rfl⟩⟩⟩⟩⟩⟩
theorem zqg {b:Nat → Prop} {d:PlanD} (h1:¬ zmm d) (h2:∀ k,¬ zjw d k) (h3:∀ k,¬ zk1 d k) (h4:d.bars.length = d.ways.length) (h5:∀ k,¬ zlv d k) (h:∀ k,¬ b k):FaultBy b d 0 0:=
 .inr ⟨h1,.inr ⟨h2,.inr ⟨h3,.inr ⟨fun e=>e h4,.inr ⟨h5,.inr ⟨h,rfl,rfl⟩⟩⟩⟩⟩⟩
theorem zcq {bad:Nat → Prop} {k:Nat} (h:∀ j,j < k → ¬ bad j) (hk:¬ bad k):∀ j,j < k + 1 → ¬ bad j:=by
 intro j hj;by_cases e:j = k
 ·exact e ▸ hk
 ·exact h j (by omega)
theorem no2 {d:PlanD} {k:Nat} (h:∀ j,j < k → ¬ zjw d j) (hk:d.switches.length ≤ k):∀ j,¬ zjw d j:=by
 intro j hb;have hb2:=hb;obtain ⟨s,hs,_⟩:=hb2;exact h j (by have:=(List.getElem?_eq_some_iff.1 hs).1; omega) hb
theorem no3 {d:PlanD} {k:Nat} (h:∀ j,j < k → ¬ zk1 d j) (hk:d.ways.length ≤ k):∀ j,¬ zk1 d j:=by
 intro j hb;have hb2:=hb;obtain ⟨s,hs,_⟩:=hb2;exact h j (by have:=(List.getElem?_eq_some_iff.1 hs).1; omega) hb
theorem no4 {d:PlanD} {k:Nat} (h:∀ j,j < k → ¬ zlv d j) (hk:d.bars.length ≤ k):∀ j,¬ zlv d j:=by
 intro j hb;have hb2:=hb;obtain ⟨s,hs,_⟩:=hb2;exact h j (by have:=(List.getElem?_eq_some_iff.1 hs).1; omega) hb
theorem zgo {d:PlanD} {k:Nat} {s:Int} (h:d.switches[k]? = some s):zjw d k ↔ ¬ InR s 0 (d.sections - 1):=
 ⟨fun ⟨t,ht,hn⟩=>by rw [h] at ht; cases ht; exact hn,fun hn=>⟨s,h,hn⟩⟩
theorem ze5 {d:PlanD} {k:Nat} {x:WayD} (h:d.ways[k]? = some x):zk1 d k ↔ ¬ WayOk d.sections d.switches x:=
 ⟨fun ⟨t,ht,hn⟩=>by rw [h] at ht; cases ht; exact hn,fun hn=>⟨x,h,hn⟩⟩
theorem zec {d:PlanD} {k:Nat} {x:List Bool} (h:d.bars[k]? = some x):zlv d k ↔ x.length ≠ d.ways.length:=
 ⟨fun ⟨t,ht,hn⟩=>by rw [h] at ht; cases ht; exact hn,fun hn=>⟨x,h,hn⟩⟩
theorem zh5 {d:PlanD} {i k:Nat} {r:List Bool} {x:Bool} (h:d.bars[i]? = some r) (hx:r[k]? = some x):d.bar i k = some x:=by
 unfold PlanD.bar; rw [h]; exact hx
theorem zmb {d:PlanD} {i k:Nat} {x y:Bool} {v z:WayD} (hx:d.bar i k = some x) (hy:d.bar k i = some y) (hv:d.ways[i]? = some v) (hz:d.ways[k]? = some z) :
  Pair d i k ↔ (x ≠ y ∨ (i ≠ k ∧ x = false ∧ Meet v.sections z.sections)):=by
 unfold Pair;rw [hx,hy];constructor
 ·rintro (h | ⟨h1,h2,v',z',h3,h4,h5⟩)
  ·exact .inl fun e=>h (by rw [e])
  ·rw [hv] at h3; rw [hz] at h4; cases h3; cases h4;exact .inr ⟨h1,by simpa using h2,h5⟩
 ·rintro (h | ⟨h1,h2,h3⟩)
  ·exact .inl fun e=>h (by simpa using e)
  ·exact .inr ⟨h1,by rw [h2],v,z,hv,hz,h3⟩
end Go.Proofs.YtdhinkgjiapigabGreatDoor
namespace Go.Proofs.YtdhinkgjiapigabGreatDoor
open Go.RowKit Go.Deep
structure HeldD where
 state:Int
 gone:Int
 been:List Bool
 shown:Bool
 timer:Int
structure FrameD where
 ok:Bool
 occ:List Bool
 points:List (Int × Int)
 ways:List HeldD
def Helds (P:Nat → Prop) (w:World) (v:Value) (l:List HeldD):Prop:=
 Sl P v l.length fun b off i=>∀ x,l[i]? = some x → ∃ v2,Bools P w v2 x.been ∧
  w.cell? ⟨b,off + i * 5,none⟩ = some (.int .i64 x.state) ∧ w.cell? ⟨b,off + i * 5 + 1,none⟩ = some (.int .i64 x.gone) ∧ w.cell? ⟨b,off + i * 5 + 2,none⟩ = some v2 ∧
  w.cell? ⟨b,off + i * 5 + 3,none⟩ = some (.bool x.shown) ∧ w.cell? ⟨b,off + i * 5 + 4,none⟩ = some (.int .i64 x.timer)
def FrameAt (P:Nat → Prop) (w:World) (v1 v2 v3:Value) (d:FrameD):Prop:=
 Bools P w v1 d.occ ∧ Lies P w v2 d.points ∧ Helds P w v3 d.ways
theorem Helds.keep {P Q:Nat → Prop} {w w':World} {v:Value} {l:List HeldD} (h:Helds P w v l) (hs:Same P w w') (hP:∀ b,P b → Q b):Helds Q w' v l:=
 Sl.imp h hP fun b off i hb _ he x hx=>by
  obtain ⟨v2,hw,hc⟩:=he x hx
  refine ⟨v2,hw.keep hs hP,?_⟩
  rw [hs b hb,hs b hb,hs b hb,hs b hb,hs b hb]; exact hc
theorem FrameAt.keep {P Q:Nat → Prop} {w w':World} {v1 v2 v3:Value} {d:FrameD} (h:FrameAt P w v1 v2 v3 d) (hs:Same P w w') (hP:∀ b,P b → Q b):FrameAt Q w' v1 v2 v3 d:=
 ⟨h.1.keep hs hP,h.2.1.keep hs hP,h.2.2.keep hs hP⟩
def FrameD.Small (n:Nat) (d:FrameD):Prop:=d.occ.length ≤ n ∧ d.points.length ≤ n ∧ d.ways.length ≤ n ∧ ∀ x ∈ d.ways,x.been.length ≤ n
structure Boxes (w:World) (bs:List (TypeId × Array Value)) (W:World):Prop where
 below:Below w.heap.size w W
 row:∀ j t c,bs[j]? = some (t,c) → W.rowIs (w.heap.size + j) t c.size (fun i=>c[i]!)
theorem zah {w w':World} {b t n:Nat} {f:Nat → Value} (h:w.rowIs b t n f) (hb:Below w.heap.size w w'):w'.rowIs b t n f:=h.of_block (hb.block b h.lt)
theorem Boxes.call {w:World} {bs:List (TypeId × Array Value)} {W W':World} (h:Boxes w bs W) (hb:Below W.heap.size W W'):Boxes w bs W':=
 ⟨h.below.trans (hb.mono h.below.size),fun j t c hj=>zah (h.row j t c hj) hb⟩
theorem Boxes.cell {w:World} {bs:List (TypeId × Array Value)} {W:World} (h:Boxes w bs W) {j i:Nat} {t:TypeId} {c:Array Value} {v:Value} (hj:bs[j]? = some (t,c)) (hi:c[i]? = some v):W.cell? ⟨w.heap.size + j,i,none⟩ = some v:=by
 have hl:i < c.size:=by
  rcases Nat.lt_or_ge i c.size with e | e
  ·exact e
  ·rw [Array.getElem?_eq_none e] at hi; cases hi
 rw [(h.row j t c hj).cell hl,getElem!_pos _ i hl];rw [Array.getElem?_eq_getElem hl] at hi;exact hi
theorem Boxes.frozen {w:World} {bs:List (TypeId × Array Value)} {W:World} (h:Boxes w bs W) {j:Nat} (i:Nat) {t:TypeId} {c:Array Value} (hj:bs[j]? = some (t,c)):W.frozen? ⟨w.heap.size + j,i,none⟩ = false:=
 (h.row j t c hj).frozen i
theorem Boxes.lt {w:World} {bs:List (TypeId × Array Value)} {W:World} (h:Boxes w bs W) {j:Nat} {t:TypeId} {c:Array Value} (hj:bs[j]? = some (t,c)):w.heap.size + j < W.heap.size:=(h.row j t c hj).lt
theorem Boxes.none (w:World):Boxes w [] w:=⟨Below.refl _ _,fun j t c hj=>by simp at hj⟩
theorem Boxes.snoc {w:World} {bs:List (TypeId × Array Value)} {W:World} (h:Boxes w bs W) (hz:W.heap.size = w.heap.size + bs.length) (t:TypeId) (c:Array Value):Boxes w (bs ++ [(t,c)]) (W.alloc (.cells c t)):=by
 refine ⟨h.below.alloc h.below.size _,fun j t' c' hj=>?_⟩;by_cases e:j < bs.length
 ·rw [List.getElem?_append_left e] at hj;exact (h.row j t' c' hj).alloc _
 ·rw [List.getElem?_append_right (by omega)] at hj
  have e0:j - bs.length = 0:=by
   rcases Nat.eq_zero_or_pos (j - bs.length) with q | q
   ·exact q
   ·rw [List.getElem?_eq_none (by simp; omega)] at hj; cases hj
  rw [e0] at hj
  cases hj
  have ej:w.heap.size + j = W.heap.size:=by omega
  rw [ej]
  exact World.rowIs_alloc W c t _ fun i hi=>by rw [getElem!_pos _ i hi]; exact Array.getElem?_eq_getElem hi
theorem zaw (w:World) (t0:TypeId) (c0:Array Value):Boxes w [(t0,c0)] (w.alloc (.cells c0 t0)):=(Boxes.none w).snoc (by simp) t0 c0
theorem zbc (w:World) (t0 t1:TypeId) (c0 c1:Array Value):Boxes w [(t0,c0),(t1,c1)] ((w.alloc (.cells c0 t0)).alloc (.cells c1 t1)):=(zaw w t0 c0).snoc (by simp) t1 c1
theorem zbs (w:World) (t0 t1 t2:TypeId) (c0 c1 c2:Array Value):Boxes w [(t0,c0),(t1,c1),(t2,c2)] (((w.alloc (.cells c0 t0)).alloc (.cells c1 t1)).alloc (.cells c2 t2)):=(zbc w t0 t1 c0 c1).snoc (by simp) t2 c2
end Go.Proofs.YtdhinkgjiapigabGreatDoor
namespace Go.Proofs.YtdhinkgjiapigabGreatDoor
def zk2 (points:List (Int × Int)) (x:Int × Int):Bool:=match points[x.1.toNat]? with
 | some p=>p.1 == x.2 && p.2 == x.2
 | none=>false
def zdr (occ:List Bool) (s:Int):Bool:=match occ[s.toNat]? with
 | some b=>!b
 | none=>false
def za9 (occ:List Bool) (points:List (Int × Int)) (w:WayD):Bool:=
 (w.lies ++ w.flanks).all (zk2 points) && (w.sections ++ w.over).all (zdr occ)
theorem zgn {α:Type} {q:α → Bool} {l:List α} {k:Nat} {x:α} (h:(l.take k).all q = true) (hx:l[k]? = some x) (hq:q x = true):(l.take (k + 1)).all q = true:=by
 rw [List.take_add_one,hx];simp [List.all_append,h,hq]
theorem zh4 {α:Type} {q:α → Bool} {l:List α} {k:Nat} {x:α} (hx:l[k]? = some x) (hq:q x = false):l.all q = false:=by
 rw [List.all_eq_false];exact ⟨x,List.mem_of_getElem? hx,by simp [hq]⟩
theorem ziw {α:Type} {q:α → Bool} {l:List α} {k:Nat} (h:(l.take k).all q = true) (hk:l.length ≤ k):l.all q = true:=by
 rwa [List.take_of_length_le hk] at h
theorem zih {occ:List Bool} {points:List (Int × Int)} {w:WayD} {k:Nat} {l:List (Int × Int)} (hl:[w.lies,w.flanks][k]? = some l) (h:l.all (zk2 points) = false):za9 occ points w = false:=by
 unfold za9;rw [List.all_append];rcases k with _ | _ | k
 ·cases hl; simp [h]
 ·cases hl; simp [h]
 ·simp at hl
theorem zne {occ:List Bool} {points:List (Int × Int)} {w:WayD} {k:Nat} {l:List Int} (hl:[w.sections,w.over][k]? = some l) (h:l.all (zdr occ) = false):za9 occ points w = false:=by
 unfold za9;rw [List.all_append,List.all_append];rcases k with _ | _ | k
 ·cases hl; simp [h]
 ·cases hl; simp [h]
 ·simp at hl
theorem znf {occ:List Bool} {points:List (Int × Int)} {w:WayD} (h1:∀ j l,j < 2 → [w.lies,w.flanks][j]? = some l → l.all (zk2 points) = true) (h2:∀ j l,j < 2 → [w.sections,w.over][j]? = some l → l.all (zdr occ) = true):za9 occ points w = true:=by
 unfold za9;rw [List.all_append,List.all_append,h1 0 _ (by omega) rfl,h1 1 _ (by omega) rfl,h2 0 _ (by omega) rfl,h2 1 _ (by omega) rfl];rfl
end Go.Proofs.YtdhinkgjiapigabGreatDoor
namespace Go.Proofs.YtdhinkgjiapigabGreatDoor
def za1 (occ:List Bool) (s:Int):Bool:=match occ[s.toNat]? with
 | some b=>b
 | none=>false
def za2 (occ:List Bool) (secs:List Int) (been:List Bool):List Bool:=List.zipWith (fun s b=>b || za1 occ s) secs been
def zkj (occ:List Bool) (secs:List Int) (been:List Bool) (k:Nat):Bool:=
 been.getD k false && !(za1 occ (secs.getD k 0)) && (decide (been.length ≤ k + 1) || been.getD (k + 1) false)
def zmx (ok:Nat → Bool):Nat → Nat → Nat
 | 0,k=>k
 | m + 1,k=>if ok k then zmx ok m (k + 1) else k
def zc3 (n:Nat):HeldD:=⟨0,0,List.replicate n false,false,0⟩
def zbd (occ:List Bool) (secs:List Int) (been:List Bool) (k:Nat):Nat:=zmx (zkj occ secs been) (been.length - k) k
def zcb (occ:List Bool) (secs:List Int) (h:HeldD):HeldD:=
 if zbd occ secs (za2 occ secs h.been) h.gone.toNat = (za2 occ secs h.been).length then zc3 (za2 occ secs h.been).length
 else { h with been:=za2 occ secs h.been,gone:=zbd occ secs (za2 occ secs h.been) h.gone.toNat }
theorem zn8 (ok:Nat → Bool) (m k:Nat):k ≤ zmx ok m k ∧ zmx ok m k ≤ k + m:=by
 induction m generalizing k with
 | zero=>exact ⟨Nat.le_refl _,Nat.le_refl _⟩
 | succ m ih=>
  unfold zmx;split
  ·have:=ih (k + 1); omega
  ·omega
theorem zh8 {occ:List Bool} {secs:List Int} {been:List Bool} {k:Nat} (hk:k < been.length) (h:zkj occ secs been k = true):zbd occ secs been k = zbd occ secs been (k + 1):=by
 unfold zbd;obtain ⟨m,hm⟩:∃ m,been.length - k = m + 1:=⟨been.length - k - 1,by omega⟩;rw [hm,show been.length - (k + 1) = m by omega]
 conv=>lhs; unfold zmx
 rw [if_pos h]
theorem zeg {occ:List Bool} {secs:List Int} {been:List Bool} {k:Nat} (hk:k < been.length) (h:zkj occ secs been k = false):zbd occ secs been k = k:=by
 unfold zbd;obtain ⟨m,hm⟩:∃ m,been.length - k = m + 1:=⟨been.length - k - 1,by omega⟩;rw [hm];unfold zmx;rw [if_neg (by rw [h]; decide)]
theorem zj3 {occ:List Bool} {secs:List Int} {been:List Bool} {k:Nat} (hk:k = been.length):zbd occ secs been k = k:=by
 unfold zbd;rw [hk,Nat.sub_self];rfl
theorem za4 {occ:List Bool} {secs:List Int} {been:List Bool} (h:been.length = secs.length):(za2 occ secs been).length = secs.length:=by
 unfold za2; rw [List.length_zipWith,h,Nat.min_self]
theorem zdy {occ:List Bool} {secs:List Int} {been:List Bool} {k:Nat} {s:Int} {b:Bool} (hs:secs[k]? = some s) (hb:been[k]? = some b):(za2 occ secs been)[k]? = some (b || za1 occ s):=by
 unfold za2; rw [List.getElem?_zipWith,hs,hb]
theorem zd7 {occ:List Bool} {secs:List Int} {been:List Bool} {k:Nat} {s:Int} {b:Bool} (hs:secs[k]? = some s) (hb:been[k]? = some b) :
  zkj occ secs been k = (b && !(za1 occ s) && (decide (been.length ≤ k + 1) || been.getD (k + 1) false)):=by
 unfold zkj;rw [List.getD_eq_getElem?_getD,List.getD_eq_getElem?_getD,hs,hb];rfl
theorem zkk {occ:List Bool} {secs:List Int} {been:List Bool} {k:Nat} {s:Int} {b:Bool} (hs:secs[k]? = some s) (hb:been[k]? = some b) (hk:been.length ≤ k + 1) :
  zkj occ secs been k = (b && !(za1 occ s)):=by
 rw [zd7 hs hb,decide_eq_true hk]; simp
theorem zff {occ:List Bool} {secs:List Int} {been:List Bool} {k:Nat} {s:Int} {b c:Bool} (hs:secs[k]? = some s) (hb:been[k]? = some b) (hc:been[k + 1]? = some c) :
  zkj occ secs been k = (b && !(za1 occ s) && c):=by
 rw [zd7 hs hb,List.getD_eq_getElem?_getD,hc,decide_eq_false (by have:=(List.getElem?_eq_some_iff.1 hc).1; omega)]; simp
theorem zc5 {occ:List Bool} {s:Int} {b:Bool} (h:occ[s.toNat]? = some b):za1 occ s = b:=by unfold za1; rw [h]
end Go.Proofs.YtdhinkgjiapigabGreatDoor
namespace Go.Proofs.YtdhinkgjiapigabGreatDoor
def zb7 (x:WayD) (h:HeldD) (s:Int):Bool:=h.state != 0 && (x.sections.drop h.gone.toNat).any (fun y=>y == s)
theorem zh9 {x:WayD} {h:HeldD} {s:Int} (hg:0 ≤ h.gone):zb7 x h s = true ↔ h.state ≠ 0 ∧ ∃ k:Nat,x.sections[k]? = some s ∧ h.gone ≤ k:=by
 unfold zb7;rw [Bool.and_eq_true,List.any_eq_true];constructor
 ·rintro ⟨h1,y,hy,he⟩;refine ⟨by simpa using h1,?_⟩;obtain ⟨j,hj⟩:=List.getElem?_of_mem hy;rw [List.getElem?_drop] at hj
  have:y = s:=by simpa using he
  exact ⟨h.gone.toNat + j,by rw [hj,this],by omega⟩
 ·rintro ⟨h1,k,hk,hgk⟩;refine ⟨by simpa using h1,s,?_,by simp⟩
  have:(x.sections.drop h.gone.toNat)[k - h.gone.toNat]? = some s:=by rw [List.getElem?_drop,show h.gone.toNat + (k - h.gone.toNat) = k by omega]; exact hk
  exact List.mem_of_getElem? this
theorem zf6 {x:WayD} {h:HeldD} {s:Int} (hg:0 ≤ h.gone) (hn:¬ (h.state ≠ 0 ∧ ∃ k:Nat,x.sections[k]? = some s ∧ h.gone ≤ k)):zb7 x h s = false:=by
 cases e:zb7 x h s
 ·rfl
 ·exact absurd ((zh9 hg).1 e) hn
def zdc (sw:List Int) (x:WayD) (h:HeldD) (q:Int):Int:=
 if h.state = 0 then 0 else
 match x.flanks.find? (fun y=>y.1 == q) with
 | some y=>y.2
 | none=>match x.lies.find? (fun y=>y.1 == q && zb7 x h (sw.getD q.toNat 0)) with
  | some y=>y.2
  | none=>0
def zcs (p:PlanD) (d:FrameD) (q:Int) (i:Nat):Int:=match p.ways[i]?,d.ways[i]? with
 | some x,some h=>zdc p.switches x h q
 | _,_=>0
def zbn (p:PlanD) (d:FrameD) (q:Int):List Int:=((List.range p.ways.length).filter fun i=>decide (0 < zcs p d q i)).map fun i:Nat=>(i:Int)
theorem zf2 {α:Type} {f:α → Bool} {l:List α} {k:Nat} (h:∀ (j:Nat) y,j < k → l[j]? = some y → f y = false) (hk:l.length ≤ k):l.find? f = none:=by
 rw [List.find?_eq_none];intro y hy hf;obtain ⟨j,hj⟩:=List.getElem?_of_mem hy;rw [h j y (by have:=(List.getElem?_eq_some_iff.1 hj).1; omega) hj] at hf
 cases hf
theorem zf3 {α:Type} {f:α → Bool} {l:List α} {k:Nat} {x:α} (h:∀ (j:Nat) y,j < k → l[j]? = some y → f y = false) (hx:l[k]? = some x) (hf:f x = true):l.find? f = some x:=by
 induction l generalizing k with
 | nil=>simp at hx
 | cons a l ih=>
  cases k with
  | zero=>
   simp at hx;subst hx;rw [List.find?_cons,hf]
  | succ k=>
   rw [List.find?_cons,h 0 a (by omega) rfl];exact ih (k:=k) (fun j y hj hy=>h (j + 1) y (by omega) (by simpa using hy)) (by simpa using hx)
theorem ze1 {sw x q} {h:HeldD} (e:h.state = 0):zdc sw x h q = 0:=if_pos e
theorem zgg {sw q} {x:WayD} {h:HeldD} {y:Int × Int} (e:h.state ≠ 0) (hf:x.flanks.find? (fun y=>y.1 == q) = some y):zdc sw x h q = y.2:=by unfold zdc; rw [if_neg e,hf]
theorem ziq {sw q} {x:WayD} {h:HeldD} {y:Int × Int} (e:h.state ≠ 0) (hf:x.flanks.find? (fun y=>y.1 == q) = none) (hl:x.lies.find? (fun y=>y.1 == q && zb7 x h (sw.getD q.toNat 0)) = some y):zdc sw x h q = y.2:=by unfold zdc; rw [if_neg e,hf,hl]
theorem ze2 {sw q} {x:WayD} {h:HeldD} (e:h.state ≠ 0) (hf:x.flanks.find? (fun y=>y.1 == q) = none) (hl:x.lies.find? (fun y=>y.1 == q && zb7 x h (sw.getD q.toNat 0)) = none):zdc sw x h q = 0:=by unfold zdc; rw [if_neg e,hf,hl]
theorem zg3 (f:Nat → Bool) (i:Nat):((List.range (i + 1)).filter f).map (fun j:Nat=>(j:Int)) = ((List.range i).filter f).map (fun j:Nat=>(j:Int)) ++ (if f i then [(i:Int)] else []):=by
 rw [List.range_succ,List.filter_append,List.map_append];congr 1;by_cases e:f i = true
 ·rw [if_pos e]; simp [e]
 ·rw [if_neg e]; simp [e]
theorem zg2 (f:Nat → Bool) (i:Nat):(((List.range i).filter f).map (fun j:Nat=>(j:Int))).length ≤ i:=by
 rw [List.length_map];exact Nat.le_trans (List.length_filter_le _ _) (by simp)
end Go.Proofs.YtdhinkgjiapigabGreatDoor
