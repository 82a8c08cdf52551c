import Derived.WalkSpells
import Derived.WalkLawsBesides
import Derived.Deep.OwnRows
namespace Go.Proofs.YtdhinkgjiapigaaGreatDoor
section
open Go.RowKit
structure aT where
 aA : List Int
 aQ:List (Int×Int)
 aJ:List (Int×Int)
 over:List Int
 aW:List Int
structure aK where
 aA : Int
 aE:List Int
 aB:List aT
 aO:List (List Bool)
 aI:Int
def Sl (P:Nat->Prop) (v:Value) (n:Nat) (E:Nat->Nat->Nat->Prop):Prop:=
 ∃a cap,v=.slice a n cap∧(n=0∨∃b off,a=some ⟨b,off,none⟩∧P b∧∀i,i<n->E b off i)
theorem Sl.imp {P Q:Nat->Prop}{v:Value}{n:Nat}{E F:Nat->Nat->Nat->Prop}(h:Sl P v n E) (j:∀b,P b->Q b) (g:∀b off i,P b->i<n->E b off i->F b off i):Sl Q v n F:=by
 obtain⟨a,c,e,f | ⟨b,off,k,d,l⟩⟩:=h
 ·exact⟨a,c,e,.inl f⟩
 ·exact⟨a,c,e,.inr ⟨b,off,k,j b d,fun i hi=>g b off i d hi (l i hi)⟩⟩
def Ints (P:Nat->Prop) (w:World) (v:Value) (l:List Int):Prop:=
 Sl P v l.length fun b off i=>∀x,l[i]?=some x->w.cell? ⟨b,off+i,none⟩=some (.int .i64 x)
def Bools (P:Nat->Prop) (w:World) (v:Value) (l:List Bool):Prop:=
 Sl P v l.length fun b off i=>∀x,l[i]?=some x->w.cell? ⟨b,off+i,none⟩=some (.bool x)
def Lies (P:Nat->Prop) (w:World) (v:Value) (l:List (Int×Int)):Prop:=
 Sl P v l.length fun b off i=>∀x,l[i]?=some x->w.cell? ⟨b,off+i*2,none⟩=some (.int .i64 x.1)∧w.cell? ⟨b,off+i*2+1,none⟩=some (.int .i64 x.2)
def cC (P:Nat->Prop) (w:World) (v0 v1 v2 v3 v4:Value) (d:aT):Prop:=
 Ints P w v0 d.aA∧Lies P w v1 d.aQ∧Lies P w v2 d.aJ∧Ints P w v3 d.over∧Ints P w v4 d.aW
def eY (P:Nat->Prop) (w:World) (v:Value) (l:List aT):Prop:=
 Sl P v l.length fun b off i=>∀x,l[i]?=some x->∃v0 v1 v2 v3 v4,cC P w v0 v1 v2 v3 v4 x ∧
  w.cell? ⟨b,off+i*5,none⟩=some v0∧w.cell? ⟨b,off+i*5+1,none⟩=some v1∧w.cell? ⟨b,off+i*5+2,none⟩=some v2 ∧
  w.cell? ⟨b,off+i*5+3,none⟩=some v3∧w.cell? ⟨b,off+i*5+4,none⟩=some v4
def Ba (v:Value):Prop:=∃a n c,v=.slice a n c∧n<=c
def cE (P:Nat->Prop) (w:World) (v:Value) (l:List aT):Prop:=
 Sl P v l.length fun b off i=>∀x,l[i]?=some x->∃v0 v1 v2 v3 v4,(cC P w v0 v1 v2 v3 v4 x∧Ba v0) ∧
  w.cell? ⟨b,off+i*5,none⟩=some v0∧w.cell? ⟨b,off+i*5+1,none⟩=some v1∧w.cell? ⟨b,off+i*5+2,none⟩=some v2 ∧
  w.cell? ⟨b,off+i*5+3,none⟩=some v3∧w.cell? ⟨b,off+i*5+4,none⟩=some v4
theorem cE.aB {P:Nat->Prop}{w:World}{v:Value}{l:List aT}(h:cE P w v l):eY P w v l:=
 Sl.imp h (fun _ a=>a) fun b off i a _ d x f=>by
  obtain⟨v0,v1,v2,v3,v4,e,c⟩:=d x f
  exact⟨v0,v1,v2,v3,v4,e.1,c⟩
def kE (P:Nat->Prop) (w:World) (v:Value) (l:List (List Bool)):Prop:=
 Sl P v l.length fun b off i=>∀x,l[i]?=some x->∃v0,Bools P w v0 x∧w.cell? ⟨b,off+i,none⟩=some v0
def aZ (P:Nat->Prop) (w:World) (v1 v2 v3:Value) (d:aK):Prop:=
 Ints P w v1 d.aE∧eY P w v2 d.aB∧kE P w v3 d.aO
def Same (P:Nat->Prop) (w w':World):Prop:=∀b,P b->∀o,w'.cell? ⟨b,o,none⟩=w.cell? ⟨b,o,none⟩
theorem Ints.keep {P Q:Nat->Prop}{w w':World}{v:Value}{l:List Int}(h:Ints P w v l) (e:Same P w w') (a:∀b,P b->Q b):Ints Q w' v l:=
 Sl.imp h a fun b off i c _ d x f=>by rw[e b c]; exact d x f
theorem Bools.keep {P Q:Nat->Prop}{w w':World}{v:Value}{l:List Bool}(h:Bools P w v l) (e:Same P w w') (a:∀b,P b->Q b):Bools Q w' v l:=
 Sl.imp h a fun b off i c _ d x f=>by rw[e b c]; exact d x f
theorem Lies.keep {P Q:Nat->Prop}{w w':World}{v:Value}{l:List (Int×Int)}(h:Lies P w v l) (c:Same P w w') (d:∀b,P b->Q b):Lies Q w' v l:=
 Sl.imp h d fun b off i a _ e x f=>by rw[c b a,c b a]; exact e x f
theorem cC.keep {P Q:Nat->Prop}{w w':World}{v0 v1 v2 v3 v4:Value}{d:aT}(h:cC P w v0 v1 v2 v3 v4 d) (c:Same P w w') (a:∀b,P b->Q b):cC Q w' v0 v1 v2 v3 v4 d:=
 ⟨h.1.keep c a,h.2.1.keep c a,h.2.2.1.keep c a,h.2.2.2.1.keep c a,h.2.2.2.2.keep c a⟩
theorem eY.keep {P Q:Nat->Prop}{w w':World}{v:Value}{l:List aT}(h:eY P w v l) (a:Same P w w') (d:∀b,P b->Q b):eY Q w' v l:=
 Sl.imp h d fun b off i c _ f x j=>by
  obtain⟨v0,v1,v2,v3,v4,g,e⟩:=f x j
  refine⟨v0,v1,v2,v3,v4,g.keep a d,?_⟩
  rw[a b c,a b c,a b c,a b c,a b c]; exact e
theorem cE.keep {P Q:Nat->Prop}{w w':World}{v:Value}{l:List aT}(h:cE P w v l) (a:Same P w w') (d:∀b,P b->Q b):cE Q w' v l:=
 Sl.imp h d fun b off i c _ g x j=>by
  obtain⟨v0,v1,v2,v3,v4,e,f⟩:=g x j
  refine⟨v0,v1,v2,v3,v4,⟨e.1.keep a d,e.2⟩,?_⟩
  rw[a b c,a b c,a b c,a b c,a b c]; exact f
theorem kE.keep {P Q:Nat->Prop}{w w':World}{v:Value}{l:List (List Bool)}(h:kE P w v l) (c:Same P w w') (a:∀b,P b->Q b):kE Q w' v l:=
 Sl.imp h a fun b off i d _ f x j=>by
  obtain⟨v0,g,e⟩:=f x j
  refine⟨v0,g.keep c a,?_⟩
  rw[c b d]; exact e
theorem aZ.keep {P Q:Nat->Prop}{w w':World}{v1 v2 v3:Value}{d:aK}(h:aZ P w v1 v2 v3 d) (c:Same P w w') (a:∀b,P b->Q b):aZ Q w' v1 v2 v3 d:=
 ⟨h.1.keep c a,h.2.1.keep c a,h.2.2.keep c a⟩
theorem fW {B:Nat}{w w':World}(h:Below B w w') {P:Nat->Prop}(a:∀b,P b->b<B):Same P w w':=
 fun b c o=>h.cell (p:=⟨b,o,none⟩) (a b c)
theorem hU (P:Nat->Prop) (w:World):Same P w w:=fun _ _ _=>rfl
theorem Same.trans {P:Nat->Prop}{a b c:World}(h:Same P a b) (k:Same P b c):Same P a c:=fun x d o=>(k x d o).trans (h x d o)
def In (w:World) (b:Nat):Prop:=b<w.heap.size
def New (w w':World) (b:Nat):Prop:=w.heap.size<=b∧b<w'.heap.size
theorem In.keep {w w':World}(h:Below w.heap.size w w'):Same (In w) w w'∧∀b,In w b->In w' b:=
 ⟨fW h fun _ a=>a,fun _ a=>Nat.lt_of_lt_of_le a h.size⟩
def aT.Small (n:Nat) (d:aT):Prop:=d.aA.length<=n∧d.aQ.length<=n∧d.aJ.length<=n∧d.over.length<=n∧d.aW.length<=n
def aK.Small (n:Nat) (d:aK):Prop:=d.aE.length<=n∧d.aB.length<=n∧(∀x∈d.aB,x.Small n)∧d.aO.length<=n∧∀x∈d.aO,x.length<=n
theorem Sl.size {P:Nat->Prop}{v:Value}{n:Nat}{E:Nat->Nat->Nat->Prop}(h:Sl P v n E):∃a cap,v=.slice a n cap:=by
 obtain⟨a,cap,b,_⟩:=h; exact⟨a,cap,b⟩
theorem aD {p:Prop}(h:p):Hid p:=h
theorem bG {α:Type}(l:List α) {k n:Nat}(a:Hid (l.length=n)) (h:k<n):∃x,l[k]?=some x:=
 ⟨l[k]'(by rw[a.out]; exact h),List.getElem?_eq_getElem _⟩
theorem vV {k:IntKind}{a b:Int}(h:a=b):Ending.returned (.int k a)=.returned (.int k b):=by rw[h]
theorem bI {a b:Bool}(h:a=b):Ending.returned (.bool a)=.returned (.bool b):=by rw[h]
end
section
open Classical
def B (p:Prop) [Decidable p]:Bool:=decide p
theorem bQ {p:Prop}{i:Decidable p}(h:p):@B p i=true:=decide_eq_true h
theorem bE {p:Prop}{i:Decidable p}(h:¬p):@B p i=false:=decide_eq_false h
theorem EN {p:Prop}{i:Decidable p}:@B p i=true↔p:=decide_eq_true_iff
theorem lH {p q:Prop}{i:Decidable p}{j:Decidable q}(h:p↔q):@B p i=@B q j:=by unfold B; exact decide_eq_decide.2 h
def bN (x a b:Int):Prop:=a<=x∧x<=b
def pS (n:Int) (l:List Int) (j:Nat):Prop:=∀x,l[j]?=some x->bN x 0 (n-1)∧∀q,q<j->l[q]?≠some x
def bJ (n:Int) (l:List Int):Prop:=(∀j,j<l.length->pS n l j)∧l.length<=30
def rP (m:Nat) (l:List (Int×Int)) (j:Nat):Prop:=∀x,l[j]?=some x->(bN x.1 0 ((m:Int)-1)∧bN x.2 1 2)∧∀q y,q<j->l[q]?=some y->y.1≠x.1
def dJ (m:Nat) (l:List (Int×Int)):Prop:=(∀j,j<l.length->rP m l j)∧l.length<=30
def Meet (a b:List Int):Prop:=∃x,x∈a∧x∈b
def zV (sw:List Int) (d:aT) (x:Int×Int):Prop:=(∀y∈d.aJ,x.1≠y.1)∧∃s,sw[x.1.toNat]?=some s∧s∈d.aA
def dG (n:Int) (sw:List Int) (d:aT):Prop:=
 d.aA≠[]∧bJ n d.aA∧bJ n d.over∧bJ n d.aW∧dJ sw.length d.aQ∧dJ sw.length d.aJ∧(∀x∈d.aQ,zV sw d x)∧¬Meet d.over d.aA
def First (bad:Nat->Prop) (k:Nat):Prop:=bad k∧∀j,j<k->¬bad j
theorem First.eq {a:Nat->Prop}{j k:Nat}(h:First a j) (g:First a k):j=k:=by
 rcases Nat.lt_trichotomy j k with e | e | e
 ·exact absurd h.1 (g.2 j e)
 ·exact e
 ·exact absurd g.1 (h.2 k e)
def Chain (bad:Nat->Prop) (code:Int) (rest:Int->Int->Prop) (c a:Int):Prop:=(∃k,First bad k∧c=code∧a=(k:Int))∨((∀k,¬bad k)∧rest c a)
def yD (r:Int->Int->Prop):Prop:=∀c a c' a',r c a->r c' a'->c=c'∧a=a'
theorem Chain.uniq {e:Nat->Prop}{d:Int}{b:Int->Int->Prop}(h:yD b):yD (Chain e d b):=by
 rintro c a o m (⟨k,f,rfl,rfl⟩ | ⟨n,r⟩) (⟨i,g,rfl,rfl⟩ | ⟨j,l⟩)
 ·exact⟨rfl,by rw[f.eq g]⟩
 ·exact absurd f.1 (j k)
 ·exact absurd g.1 (n i)
 ·exact h _ _ _ _ r l
def Test (bad:Prop) (code:Int) (rest:Int->Int->Prop) (c a:Int):Prop:=(bad∧c=code∧a=0)∨(¬bad∧rest c a)
theorem Test.uniq {f:Prop}{e:Int}{d:Int->Int->Prop}(h:yD d):yD (Test f e d):=by
 rintro c a k j (⟨b,rfl,rfl⟩ | ⟨n,r⟩) (⟨b',rfl,rfl⟩ | ⟨g,i⟩)
 ·exact⟨rfl,rfl⟩
 ·exact absurd b g
 ·exact absurd b' n
 ·exact h _ _ _ _ r i
def pJ (d:aK):Prop:=¬(bN d.aA 1 60∧d.aE.length<=40∧d.aB.length<=100∧bN d.aI 1 300)
def mN (d:aK) (k:Nat):Prop:=∃s,d.aE[k]?=some s∧¬bN s 0 (d.aA-1)
def mX (d:aK) (i:Nat):Prop:=∃x,d.aB[i]?=some x∧¬dG d.aA d.aE x
def oM (d:aK) (i:Nat):Prop:=∃r,d.aO[i]?=some r∧r.length≠d.aB.length
def aK.bar (d:aK) (i k:Nat):Option Bool:=(d.aO[i]?).bind fun r=>r[k]?
def Pair (d:aK) (i k:Nat):Prop:=d.bar i k≠d.bar k i∨(i≠k∧d.bar i k=some false∧∃x y,d.aB[i]?=some x∧d.aB[k]?=some y∧Meet x.aA y.aA)
def rS (d:aK) (i:Nat):Prop:=i<d.aB.length∧∃k,k<d.aB.length∧Pair d i k
def rO (d:aK) (i:Nat):Prop:=i<d.aB.length∧∃k,i<k∧k<d.aB.length∧Pair d i k
def bR (bad5:Nat->Prop) (d:aK):Int->Int->Prop:=
 Test (pJ d) 1 (Chain (mN d) 2 (Chain (mX d) 3 (Test (d.aO.length≠d.aB.length) 4 (Chain (oM d) 4 (Chain bad5 5 fun c a=>c=0∧a=0)))))
theorem bR.uniq (b:Nat->Prop) (d:aK):yD (bR b d):=
 Test.uniq (Chain.uniq (Chain.uniq (Test.uniq (Chain.uniq (Chain.uniq fun _ _ _ _ h g=>⟨h.1.trans g.1.symm,h.2.trans g.2.symm⟩)))))
theorem Meet.symm {a b:List Int}(h:Meet a b):Meet b a:=by obtain⟨x,c,d⟩:=h; exact⟨x,d,c⟩
theorem Pair.symm {d:aK}{i k:Nat}(h:Pair d i k):Pair d k i:=by
 rcases h with h | ⟨a,c,x,y,g,j,f⟩
 ·exact .inl fun e=>h e.symm
 ·by_cases e:d.bar i k=d.bar k i
  ·exact .inr ⟨fun e=>a e.symm,by rw[← e]; exact c,y,x,j,g,f.symm⟩
  ·exact .inl fun b=>e b.symm
theorem Pair.irrefl {d:aK}{i:Nat}:¬Pair d i i:=by
 rintro (h | ⟨h,-⟩)
 ·exact h rfl
 ·exact h rfl
theorem JO {d:aK}{i:Nat}:First (rS d) i↔First (rO d) i:=by
 have g:∀j,rO d j->rS d j:=fun j ⟨h,k,_,c,b⟩=>⟨h,k,c,b⟩;constructor
 ·rintro⟨⟨hi,k,c,b⟩,a⟩;refine⟨⟨hi,k,?_,c,b⟩,fun j n l=>a j n (g j l)⟩;rcases Nat.lt_trichotomy i k with e | e | e
  ·exact e
  ·subst e; exact absurd b Pair.irrefl
  ·exact absurd ⟨c,i,hi,b.symm⟩ (a k e)
 ·rintro⟨l,a⟩;refine⟨g i l,fun j n m=>?_⟩;obtain⟨f,k,c,b⟩:=m;rcases Nat.lt_trichotomy j k with e | e | e
  ·exact a j n ⟨f,k,e,c,b⟩
  ·subst e; exact Pair.irrefl b
  ·exact a k (by omega) ⟨c,j,e,f,b.symm⟩
theorem JS {d:aK}:(∀i,¬rS d i)↔∀i,¬rO d i:=by
 constructor
 ·exact fun h i ⟨hi,k,_,b,a⟩=>h i ⟨hi,k,b,a⟩
 ·rintro h i ⟨hi,k,b,a⟩;rcases Nat.lt_trichotomy i k with e | e | e
  ·exact h i ⟨hi,k,e,b,a⟩
  ·subst e; exact Pair.irrefl a
  ·exact h k ⟨b,i,e,hi,a.symm⟩
theorem EU {d:aK}{c a:Int}:bR (rS d) d c a↔bR (rO d) d c a:=by
 unfold bR Test;simp only[Chain,JO,JS]
end
section
open Go.RowKit
theorem zA (A:Nat):BitVec.ofInt 32 (A:Int)=BitVec.ofNat 32 A:=BitVec.ofInt_natCast 32 A
theorem BX (A C:Nat) (b:A<4294967296) (c:C<4294967296):bits .and .u32 (A:Int) (C:Int)=((A &&& C:Nat):Int):=by
 have h:(BitVec.ofInt 32 (A:Int) &&& BitVec.ofInt 32 (C:Int)).toNat=A &&& C:=by
  rw[BitVec.toNat_and,zA,zA,BitVec.toNat_ofNat,BitVec.toNat_ofNat,Nat.mod_eq_of_lt (by omega),Nat.mod_eq_of_lt (by omega)]
 have a:A &&& C<4294967296:=Nat.and_lt_two_pow (n:=32) A (by omega);show IntKind.u32.wrap (((BitVec.ofInt 32 (A:Int) &&& BitVec.ofInt 32 (C:Int)).toNat:Nat):Int)=_;rw[h,IntKind.wrap_u32];omega
theorem JP (A C:Nat) (b:A<4294967296) (c:C<4294967296):bits .or .u32 (A:Int) (C:Int)=((A ||| C:Nat):Int):=by
 have h:(BitVec.ofInt 32 (A:Int) ||| BitVec.ofInt 32 (C:Int)).toNat=A ||| C:=by
  rw[BitVec.toNat_or,zA,zA,BitVec.toNat_ofNat,BitVec.toNat_ofNat,Nat.mod_eq_of_lt (by omega),Nat.mod_eq_of_lt (by omega)]
 have a:A ||| C<4294967296:=Nat.or_lt_two_pow (n:=32) (by omega) (by omega);show IntKind.u32.wrap (((BitVec.ofInt 32 (A:Int) ||| BitVec.ofInt 32 (C:Int)).toNat:Nat):Int)=_;rw[h,IntKind.wrap_u32];omega
theorem Dh (n:Nat):((2:Int) ^ n)=((2 ^ n:Nat):Int):=by simp
theorem EB (A n:Nat) (a:A<4294967296):(bits .and .u32 ((A:Int) / 2 ^ n) 1 == 1)=A.testBit n:=by
 rw[Dh,← Int.natCast_ediv,show (1:Int)=((1:Nat):Int) from rfl,BX _ _ (Nat.lt_of_le_of_lt (Nat.div_le_self _ _) a) (by omega)];rw[Nat.testBit,Nat.shiftRight_eq_div_pow,Nat.and_comm];generalize A / 2 ^ n=q
 have h:1 &&& q=q % 2:=by rw[Nat.and_comm]; exact Nat.and_one_is_mod q
 rw[h]
 rcases Nat.mod_two_eq_zero_or_one q with e | e <;> rw[e] <;> rfl
theorem EZ {n:Nat}(a:n<32):2 ^ n<4294967296:=by
 have h:(2:Nat) ^ n<2 ^ 32:=Nat.pow_lt_pow_right (Nat.lt_succ_self 1) a;exact h
theorem Dn (A n:Nat) (a:A<4294967296) (b:n<32):bits .or .u32 (A:Int) ((2:Int) ^ n % 4294967296)=((A ||| 2 ^ n:Nat):Int):=by
 have h:2 ^ n<4294967296:=EZ b;rw[Dh];generalize 2 ^ n=p at h ⊢;rw[show ((p:Int) % 4294967296)=(p:Int) from by omega,JP _ _ a h]
theorem Ec (A n:Nat) (b:A<4294967296) (a:n<32):A ||| 2 ^ n<4294967296:=
 Nat.or_lt_two_pow (n:=32) (by omega) (EZ a)
theorem EX (A n i:Nat):(A ||| 2 ^ n).testBit i=true↔(A.testBit i=true∨i=n):=by
 rw[Nat.testBit_or,Nat.testBit_two_pow,Bool.or_eq_true,decide_eq_true_iff];exact or_congr Iff.rfl ⟨fun e=>e.symm,fun e=>e.symm⟩
structure cM (A C:Nat) (l:List Int):Prop where
 a:A<4294967296
 c:C<4294967296
 lo:∀i,i<32->(A.testBit i=true↔(i:Int)∈l)
 hi:∀i,i<32->(C.testBit i=true↔((i:Int)+32)∈l)
theorem cM.nil:cM 0 0 []:=⟨by omega,by omega,fun i _=>by simp,fun i _=>by simp⟩
theorem cM.low {A C:Nat}{l:List Int}(h:cM A C l) {x:Int}(b:0<=x) (d:x<32):cM (A ||| 2 ^ x.toNat) C (l++[x]):=by
 refine⟨Ec _ _ h.a (by omega),h.c,fun i hi=>?_,fun i hi=>?_⟩
 ·rw[EX,h.lo i hi,List.mem_append,List.mem_singleton];exact or_congr Iff.rfl ⟨fun e=>by omega,fun e=>by omega⟩
 ·rw[h.hi i hi,List.mem_append,List.mem_singleton];exact⟨.inl,fun e=>e.resolve_right (by omega)⟩
theorem cM.high {A C:Nat}{l:List Int}(h:cM A C l) {x:Int}(b:32<=x) (d:x<64):cM A (C ||| 2 ^ (x-32).toNat) (l++[x]):=by
 refine⟨h.a,Ec _ _ h.c (by omega),fun i hi=>?_,fun i hi=>?_⟩
 ·rw[h.lo i hi,List.mem_append,List.mem_singleton];exact⟨.inl,fun e=>e.resolve_right (by omega)⟩
 ·rw[EX,h.hi i hi,List.mem_append,List.mem_singleton];exact or_congr Iff.rfl ⟨fun e=>by omega,fun e=>by omega⟩
theorem Gx {n:Nat}(h:n≠0):∃i,n.testBit i=true:=by
 apply Classical.byContradiction;intro a
 exact h (Nat.eq_of_testBit_eq fun i=>by
  rw[Nat.zero_testBit]
  cases e:n.testBit i
  ·rfl
  ·exact absurd ⟨i,e⟩ a)
theorem Cb (A C:Nat) (c:A<4294967296):A &&& C≠0↔∃i,i<32∧A.testBit i=true∧C.testBit i=true:=by
 constructor
 ·intro h;obtain⟨i,hi⟩:=Gx h;rw[Nat.testBit_and,Bool.and_eq_true] at hi;refine⟨i,?_,hi.1,hi.2⟩;rcases Nat.lt_or_ge i 32 with e | e
  ·exact e
  ·exact absurd hi.1 (by rw[Nat.testBit_lt_two_pow (Nat.lt_of_lt_of_le c (Nat.pow_le_pow_right (n:=2) (by omega) e))]; simp)
 ·rintro⟨i,-,a,b⟩ e
  have:(A &&& C).testBit i=true:=by rw[Nat.testBit_and,a,b]; rfl
  rw[e] at this; simp at this
theorem IY {A C f g:Nat}{l r:List Int}(h:cM A C l) (k:cM f g r) (j:∀x∈l,0<=x∧x<64):(A &&& f≠0∨C &&& g≠0)↔Meet l r:=by
 rw[Cb A f h.a,Cb C g h.c];constructor
 ·rintro (⟨i,hi,b,d⟩ | ⟨i,hi,b,d⟩)
  ·exact⟨_,(h.lo i hi).1 b,(k.lo i hi).1 d⟩
  ·exact⟨_,(h.hi i hi).1 b,(k.hi i hi).1 d⟩
 ·rintro⟨x,b,d⟩;obtain⟨p,q⟩:=j x b;by_cases e:x<32
  ·refine .inl ⟨x.toNat,by omega,(h.lo _ (by omega)).2 ?_,(k.lo _ (by omega)).2 ?_⟩ <;> rw[Int.toNat_of_nonneg p] <;> assumption
  ·refine .inr ⟨(x-32).toNat,by omega,(h.hi _ (by omega)).2 ?_,(k.hi _ (by omega)).2 ?_⟩ <;> rw[Int.toNat_of_nonneg (by omega),show x-32+32=x by omega] <;> assumption
end
theorem xW {b:Nat->Prop}{d:aK}(h:pJ d):bR b d 1 0:=.inl ⟨h,rfl,rfl⟩
theorem ES {b:Nat->Prop}{d:aK}{k:Nat}(a:¬pJ d) (h:First (mN d) k):bR b d 2 k:=.inr ⟨a,.inl ⟨k,h,rfl,rfl⟩⟩
theorem ET {b:Nat->Prop}{d:aK}{k:Nat}(a:¬pJ d) (c:∀k,¬mN d k) (h:First (mX d) k):bR b d 3 k:=.inr ⟨a,.inr ⟨c,.inl ⟨k,h,rfl,rfl⟩⟩⟩
theorem Dp {b:Nat->Prop}{d:aK}(a:¬pJ d) (c:∀k,¬mN d k) (e:∀k,¬mX d k) (h:d.aO.length≠d.aB.length):bR b d 4 0:=
 .inr ⟨a,.inr ⟨c,.inr ⟨e,.inl ⟨h,rfl,rfl⟩⟩⟩⟩
theorem Dq {b:Nat->Prop}{d:aK}{k:Nat}(a:¬pJ d) (c:∀k,¬mN d k) (f:∀k,¬mX d k) (g:d.aO.length=d.aB.length) (h:First (oM d) k):bR b d 4 k:=
 .inr ⟨a,.inr ⟨c,.inr ⟨f,.inr ⟨fun e=>e g,.inl ⟨k,h,rfl,rfl⟩⟩⟩⟩⟩
theorem vR {b:Nat->Prop}{d:aK}{k:Nat}(a:¬pJ d) (c:∀k,¬mN d k) (f:∀k,¬mX d k) (g:d.aO.length=d.aB.length) (i:∀k,¬oM d k) (h:First b k):bR b d 5 k:=
 .inr ⟨a,.inr ⟨c,.inr ⟨f,.inr ⟨fun e=>e g,.inr ⟨i,.inl ⟨k,h,rfl,rfl⟩⟩⟩⟩⟩⟩
theorem ER {b:Nat->Prop}{d:aK}(a:¬pJ d) (c:∀k,¬mN d k) (f:∀k,¬mX d k) (g:d.aO.length=d.aB.length) (i:∀k,¬oM d k) (h:∀k,¬b k):bR b d 0 0:=
 .inr ⟨a,.inr ⟨c,.inr ⟨f,.inr ⟨fun e=>e g,.inr ⟨i,.inr ⟨h,rfl,rfl⟩⟩⟩⟩⟩⟩
theorem pP {a:Nat->Prop}{k:Nat}(h:∀j,j<k->¬a j) (b:¬a k):∀j,j<k+1->¬a j:=by
 intro j c;by_cases e:j=k
 ·exact e ▸ b
 ·exact h j (by omega)
theorem CG {d:aK}{k:Nat}(h:∀j,j<k->¬mN d j) (e:d.aE.length<=k):∀j,¬mN d j:=by
 intro j b;have a:=b;obtain⟨s,c,_⟩:=a;exact h j (by have:=(List.getElem?_eq_some_iff.1 c).1; omega) b
theorem CH {d:aK}{k:Nat}(h:∀j,j<k->¬mX d j) (e:d.aB.length<=k):∀j,¬mX d j:=by
 intro j b;have a:=b;obtain⟨s,c,_⟩:=a;exact h j (by have:=(List.getElem?_eq_some_iff.1 c).1; omega) b
theorem CI {d:aK}{k:Nat}(h:∀j,j<k->¬oM d j) (e:d.aO.length<=k):∀j,¬oM d j:=by
 intro j b;have a:=b;obtain⟨s,c,_⟩:=a;exact h j (by have:=(List.getElem?_eq_some_iff.1 c).1; omega) b
theorem zH {d:aK}{k:Nat}{s:Int}(h:d.aE[k]?=some s):mN d k↔¬bN s 0 (d.aA-1):=
 ⟨fun ⟨t,ht,a⟩=>by rw[h] at ht; cases ht; exact a,fun a=>⟨s,h,a⟩⟩
theorem xP {d:aK}{k:Nat}{x:aT}(h:d.aB[k]?=some x):mX d k↔¬dG d.aA d.aE x:=
 ⟨fun ⟨t,ht,a⟩=>by rw[h] at ht; cases ht; exact a,fun a=>⟨x,h,a⟩⟩
theorem vQ {d:aK}{k:Nat}{x:List Bool}(h:d.aO[k]?=some x):oM d k↔x.length≠d.aB.length:=
 ⟨fun ⟨t,ht,a⟩=>by rw[h] at ht; cases ht; exact a,fun a=>⟨x,h,a⟩⟩
theorem vW {d:aK}{i k:Nat}{r:List Bool}{x:Bool}(h:d.aO[i]?=some r) (a:r[k]?=some x):d.bar i k=some x:=by
 unfold aK.bar; rw[h]; exact a
theorem Dd {d:aK}{i k:Nat}{x y:Bool}{v z:aT}(m:d.bar i k=some x) (n:d.bar k i=some y) (g:d.aB[i]?=some v) (j:d.aB[k]?=some z) :
  Pair d i k↔(x≠y∨(i≠k∧x=false∧Meet v.aA z.aA)):=by
 unfold Pair;rw[m,n];constructor
 ·rintro (h | ⟨b,c,v',o,a,f,l⟩)
  ·exact .inl fun e=>h (by rw[e])
  ·rw[g] at a; rw[j] at f; cases a; cases f;exact .inr ⟨b,by simpa using c,l⟩
 ·rintro (h | ⟨b,c,a⟩)
  ·exact .inl fun e=>h (by simpa using e)
  ·exact .inr ⟨b,by rw[c],v,z,g,j,a⟩
section
open Go.Deep Go.RowKit
structure aM where
 state:Int
 gone:Int
 aL:List Bool
 aR:Bool
 aN:Int
structure aF where
 ok:Bool
 aH:List Bool
 aC:List (Int×Int)
 aB:List aM
def dF (P:Nat->Prop) (w:World) (v:Value) (l:List aM):Prop:=
 Sl P v l.length fun b off i=>∀x,l[i]?=some x->∃v2,Bools P w v2 x.aL ∧
  w.cell? ⟨b,off+i*5,none⟩=some (.int .i64 x.state)∧w.cell? ⟨b,off+i*5+1,none⟩=some (.int .i64 x.gone)∧w.cell? ⟨b,off+i*5+2,none⟩=some v2 ∧
  w.cell? ⟨b,off+i*5+3,none⟩=some (.bool x.aR)∧w.cell? ⟨b,off+i*5+4,none⟩=some (.int .i64 x.aN)
def bB (P:Nat->Prop) (w:World) (v1 v2 v3:Value) (d:aF):Prop:=
 Bools P w v1 d.aH∧Lies P w v2 d.aC∧dF P w v3 d.aB
theorem dF.keep {P Q:Nat->Prop}{w w':World}{v:Value}{l:List aM}(h:dF P w v l) (a:Same P w w') (d:∀b,P b->Q b):dF Q w' v l:=
 Sl.imp h d fun b off i c _ f x j=>by
  obtain⟨v2,g,e⟩:=f x j
  refine⟨v2,g.keep a d,?_⟩
  rw[a b c,a b c,a b c,a b c,a b c]; exact e
theorem bB.keep {P Q:Nat->Prop}{w w':World}{v1 v2 v3:Value}{d:aF}(h:bB P w v1 v2 v3 d) (c:Same P w w') (a:∀b,P b->Q b):bB Q w' v1 v2 v3 d:=
 ⟨h.1.keep c a,h.2.1.keep c a,h.2.2.keep c a⟩
def aF.Small (n:Nat) (d:aF):Prop:=d.aH.length<=n∧d.aC.length<=n∧d.aB.length<=n∧∀x∈d.aB,x.aL.length<=n
structure bD (w:World) (bs:List (TypeId×Array Value)) (W:World):Prop where
 below:Below w.heap.size w W
 row:∀j t c,bs[j]?=some (t,c)->W.rowIs (w.heap.size+j) t c.size (fun i=>c[i]!)
theorem dP {w w':World}{b t n:Nat}{f:Nat->Value}(h:w.rowIs b t n f) (a:Below w.heap.size w w'):w'.rowIs b t n f:=h.of_block (a.block b h.lt)
theorem bD.call {w:World}{a:List (TypeId×Array Value)}{W W':World}(h:bD w a W) (b:Below W.heap.size W W'):bD w a W':=
 ⟨h.below.trans (b.mono h.below.size),fun j t c d=>dP (h.row j t c d) b⟩
theorem bD.cell {w:World}{b:List (TypeId×Array Value)}{W:World}(h:bD w b W) {j i:Nat}{t:TypeId}{c:Array Value}{v:Value}(d:b[j]?=some (t,c)) (hi:c[i]?=some v):W.cell? ⟨w.heap.size+j,i,none⟩=some v:=by
 have a:i<c.size:=by
  rcases Nat.lt_or_ge i c.size with e | e
  ·exact e
  ·rw[Array.getElem?_eq_none e] at hi; cases hi
 rw[(h.row j t c d).cell a,getElem!_pos _ i a];rw[Array.getElem?_eq_getElem a] at hi;exact hi
theorem bD.c {w:World} {bs:List (TypeId×Array Value)} {W:World} (h:bD w bs W) (j i:Nat) {t:TypeId} {c:Array Value} {v:Value} (a:bs[j]?=some (t,c)) (b:c[i]?=some v):W.cell? ⟨w.heap.size+j,i,none⟩=some v:=h.cell a b
theorem bD.frozen {w:World}{a:List (TypeId×Array Value)}{W:World}(h:bD w a W) {j:Nat}(i:Nat) {t:TypeId}{c:Array Value}(b:a[j]?=some (t,c)):W.frozen? ⟨w.heap.size+j,i,none⟩=false:=
 (h.row j t c b).frozen i
theorem bD.lt {w:World}{a:List (TypeId×Array Value)}{W:World}(h:bD w a W) {j:Nat}{t:TypeId}{c:Array Value}(b:a[j]?=some (t,c)):w.heap.size+j<W.heap.size:=(h.row j t c b).lt
theorem bD.none (w:World):bD w [] w:=⟨Below.refl _ _,fun j t c a=>by simp at a⟩
theorem bD.snoc {w:World}{b:List (TypeId×Array Value)}{W:World}(h:bD w b W) (l:W.heap.size=w.heap.size+b.length) (t:TypeId) (c:Array Value):bD w (b++[(t,c)]) (W.alloc (.cells c t)):=by
 refine⟨h.below.alloc h.below.size _,fun j k d a=>?_⟩;by_cases e:j<b.length
 ·rw[List.getElem?_append_left e] at a;exact (h.row j k d a).alloc _
 ·rw[List.getElem?_append_right (by omega)] at a
  have f:j-b.length=0:=by
   rcases Nat.eq_zero_or_pos (j-b.length) with q | q
   ·exact q
   ·rw[List.getElem?_eq_none (by simp; omega)] at a; cases a
  rw[f] at a
  cases a
  have g:w.heap.size+j=W.heap.size:=by omega
  rw[g]
  exact World.rowIs_alloc W c t _ fun i hi=>by rw[getElem!_pos _ i hi]; exact Array.getElem?_eq_getElem hi
theorem cZ (w:World) (b:TypeId) (a:Array Value):bD w [(b,a)] (w.alloc (.cells a b)):=(bD.none w).snoc (by simp) b a
theorem eB (w:World) (c d:TypeId) (a b:Array Value):bD w [(c,a),(d,b)] ((w.alloc (.cells a c)).alloc (.cells b d)):=(cZ w c a).snoc (by simp) d b
theorem iE (w:World) (d e f:TypeId) (a b c:Array Value):bD w [(d,a),(e,b),(f,c)] (((w.alloc (.cells a d)).alloc (.cells b e)).alloc (.cells c f)):=(eB w d e a b).snoc (by simp) f c
end
def mY (aC:List (Int×Int)) (x:Int×Int):Bool:=match aC[x.1.toNat]? with
 | some p=>p.1 == x.2&&p.2 == x.2
 | none=>false
def lI (aH:List Bool) (s:Int):Bool:=match aH[s.toNat]? with
 | some b=>!b
 | none=>false
def jT (aH:List Bool) (aC:List (Int×Int)) (w:aT):Bool:=
 (w.aQ++w.aJ).all (mY aC)&&(w.aA++w.over).all (lI aH)
theorem xT {α:Type}{q:α->Bool}{l:List α}{k:Nat}{x:α}(h:(l.take k).all q=true) (b:l[k]?=some x) (a:q x=true):(l.take (k+1)).all q=true:=by
 rw[List.take_add_one,b];simp[List.all_append,h,a]
theorem vD {α:Type}{q:α->Bool}{l:List α}{k:Nat}{x:α}(b:l[k]?=some x) (a:q x=false):l.all q=false:=by
 rw[List.all_eq_false];exact⟨x,List.mem_of_getElem? b,by simp[a]⟩
theorem xV {α:Type}{q:α->Bool}{l:List α}{k:Nat}(h:(l.take k).all q=true) (a:l.length<=k):l.all q=true:=by
 rwa [List.take_of_length_le a] at h
theorem Cl {aH:List Bool}{aC:List (Int×Int)}{w:aT}{k:Nat}{l:List (Int×Int)}(a:[w.aQ,w.aJ][k]?=some l) (h:l.all (mY aC)=false):jT aH aC w=false:=by
 unfold jT;rw[List.all_append];rcases k with _ | _ | k
 ·cases a; simp[h]
 ·cases a; simp[h]
 ·simp at a
theorem Ha {aH:List Bool}{aC:List (Int×Int)}{w:aT}{k:Nat}{l:List Int}(a:[w.aA,w.over][k]?=some l) (h:l.all (lI aH)=false):jT aH aC w=false:=by
 unfold jT;rw[List.all_append,List.all_append];rcases k with _ | _ | k
 ·cases a; simp[h]
 ·cases a; simp[h]
 ·simp at a
theorem Hd {aH:List Bool}{aC:List (Int×Int)}{w:aT}(a:∀j l,j<2->[w.aQ,w.aJ][j]?=some l->l.all (mY aC)=true) (b:∀j l,j<2->[w.aA,w.over][j]?=some l->l.all (lI aH)=true):jT aH aC w=true:=by
 unfold jT;rw[List.all_append,List.all_append,a 0 _ (by omega) rfl,a 1 _ (by omega) rfl,b 0 _ (by omega) rfl,b 1 _ (by omega) rfl];rfl
def eA (aH:List Bool) (s:Int):Bool:=match aH[s.toNat]? with
 | some b=>b
 | none=>false
def dZ (aH:List Bool) (secs:List Int) (aL:List Bool):List Bool:=List.zipWith (fun s b=>b || eA aH s) secs aL
def nY (aH:List Bool) (secs:List Int) (aL:List Bool) (k:Nat):Bool:=
 aL.getD k false&&!(eA aH (secs.getD k 0))&&(decide (aL.length<=k+1) || aL.getD (k+1) false)
def pK (ok:Nat->Bool):Nat->Nat->Nat
 | 0,k=>k
 | m+1,k=>if ok k then pK ok m (k+1) else k
def jQ (n:Nat):aM:=⟨0,0,List.replicate n false,false,0⟩
def eH (aH:List Bool) (secs:List Int) (aL:List Bool) (k:Nat):Nat:=pK (nY aH secs aL) (aL.length-k) k
def jV (aH:List Bool) (secs:List Int) (h:aM):aM:=
 if eH aH secs (dZ aH secs h.aL) h.gone.toNat=(dZ aH secs h.aL).length then jQ (dZ aH secs h.aL).length
 else { h with aL:=dZ aH secs h.aL,gone:=eH aH secs (dZ aH secs h.aL) h.gone.toNat }
theorem Dr (ok:Nat->Bool) (m k:Nat):k<=pK ok m k∧pK ok m k<=k+m:=by
 induction m generalizing k with
 | zero=>exact⟨Nat.le_refl _,Nat.le_refl _⟩
 | succ m ih=>
  unfold pK;split
  ·have:=ih (k+1); omega
  ·omega
theorem Ce {aH:List Bool}{secs:List Int}{aL:List Bool}{k:Nat}(b:k<aL.length) (h:nY aH secs aL k=true):eH aH secs aL k=eH aH secs aL (k+1):=by
 unfold eH;obtain⟨m,a⟩:∃m,aL.length-k=m+1:=⟨aL.length-k-1,by omega⟩;rw[a,show aL.length-(k+1)=m by omega]
 conv=>lhs; unfold pK
 rw[if_pos h]
theorem Ac {aH:List Bool}{secs:List Int}{aL:List Bool}{k:Nat}(b:k<aL.length) (h:nY aH secs aL k=false):eH aH secs aL k=k:=by
 unfold eH;obtain⟨m,a⟩:∃m,aL.length-k=m+1:=⟨aL.length-k-1,by omega⟩;rw[a];unfold pK;rw[if_neg (by rw[h]; decide)]
theorem Ct {aH:List Bool}{secs:List Int}{aL:List Bool}{k:Nat}(a:k=aL.length):eH aH secs aL k=k:=by
 unfold eH;rw[a,Nat.sub_self];rfl
theorem rK {aH:List Bool}{secs:List Int}{aL:List Bool}(h:aL.length=secs.length):(dZ aH secs aL).length=secs.length:=by
 unfold dZ; rw[List.length_zipWith,h,Nat.min_self]
theorem xN {aH:List Bool}{secs:List Int}{aL:List Bool}{k:Nat}{s:Int}{b:Bool}(c:secs[k]?=some s) (a:aL[k]?=some b):(dZ aH secs aL)[k]?=some (b || eA aH s):=by
 unfold dZ; rw[List.getElem?_zipWith,c,a]
theorem vN {aH:List Bool}{secs:List Int}{aL:List Bool}{k:Nat}{s:Int}{b:Bool}(c:secs[k]?=some s) (a:aL[k]?=some b) :
  nY aH secs aL k=(b&&!(eA aH s)&&(decide (aL.length<=k+1) || aL.getD (k+1) false)):=by
 unfold nY;rw[List.getD_eq_getElem?_getD,List.getD_eq_getElem?_getD,c,a];rfl
theorem DK {aH:List Bool}{secs:List Int}{aL:List Bool}{k:Nat}{s:Int}{b:Bool}(d:secs[k]?=some s) (a:aL[k]?=some b) (c:aL.length<=k+1) :
  nY aH secs aL k=(b&&!(eA aH s)):=by
 rw[vN d a,decide_eq_true c]; simp
theorem zB {aH:List Bool}{secs:List Int}{aL:List Bool}{k:Nat}{s:Int}{b c:Bool}(e:secs[k]?=some s) (d:aL[k]?=some b) (a:aL[k+1]?=some c) :
  nY aH secs aL k=(b&&!(eA aH s)&&c):=by
 rw[vN e d,List.getD_eq_getElem?_getD,a,decide_eq_false (by have:=(List.getElem?_eq_some_iff.1 a).1; omega)]; simp
theorem uX {aH:List Bool}{s:Int}{b:Bool}(h:aH[s.toNat]?=some b):eA aH s=b:=by unfold eA; rw[h]
def iP (x:aT) (h:aM) (s:Int):Bool:=h.state != 0&&(x.aA.drop h.gone.toNat).any (fun y=>y == s)
theorem Cf {x:aT}{h:aM}{s:Int}(g:0<=h.gone):iP x h s=true↔h.state≠0∧∃k:Nat,x.aA[k]?=some s∧h.gone<=k:=by
 unfold iP;rw[Bool.and_eq_true,List.any_eq_true];constructor
 ·rintro⟨a,y,f,c⟩;refine⟨by simpa using a,?_⟩;obtain⟨j,b⟩:=List.getElem?_of_mem f;rw[List.getElem?_drop] at b
  have:y=s:=by simpa using c
  exact⟨h.gone.toNat+j,by rw[b,this],by omega⟩
 ·rintro⟨a,k,e,d⟩;refine⟨by simpa using a,s,?_,by simp⟩
  have:(x.aA.drop h.gone.toNat)[k-h.gone.toNat]?=some s:=by rw[List.getElem?_drop,show h.gone.toNat+(k-h.gone.toNat)=k by omega]; exact e
  exact List.mem_of_getElem? this
theorem CQ {x:aT}{h:aM}{s:Int}(a:0<=h.gone) (b:¬(h.state≠0∧∃k:Nat,x.aA[k]?=some s∧h.gone<=k)):iP x h s=false:=by
 cases e:iP x h s
 ·rfl
 ·exact absurd ((Cf a).1 e) b
def oJ (sw:List Int) (x:aT) (h:aM) (q:Int):Int:=
 if h.state=0 then 0 else
 match x.aJ.find? (fun y=>y.1 == q) with
 | some y=>y.2
 | none=>match x.aQ.find? (fun y=>y.1 == q&&iP x h (sw.getD q.toNat 0)) with
  | some y=>y.2
  | none=>0
def pR (p:aK) (d:aF) (q:Int) (i:Nat):Int:=match p.aB[i]?,d.aB[i]? with
 | some x,some h=>oJ p.aE x h q
 | _,_=>0
def gS (p:aK) (d:aF) (q:Int):List Int:=((List.range p.aB.length).filter fun i=>decide (0<pR p d q i)).map fun i:Nat=>(i:Int)
theorem CN {α:Type}{f:α->Bool}{l:List α}{k:Nat}(h:∀(j:Nat) y,j<k->l[j]?=some y->f y=false) (d:l.length<=k):l.find? f=none:=by
 rw[List.find?_eq_none];intro y c a;obtain⟨j,b⟩:=List.getElem?_of_mem c;rw[h j y (by have:=(List.getElem?_eq_some_iff.1 b).1; omega) b] at a
 cases a
theorem CO {α:Type}{f:α->Bool}{l:List α}{k:Nat}{x:α}(h:∀(j:Nat) y,j<k->l[j]?=some y->f y=false) (b:l[k]?=some x) (c:f x=true):l.find? f=some x:=by
 induction l generalizing k with
 | nil=>simp at b
 | cons a l ih=>
  cases k with
  | zero=>
   simp at b;subst b;rw[List.find?_cons,c]
  | succ k=>
   rw[List.find?_cons,h 0 a (by omega) rfl];exact ih (k:=k) (fun j y e d=>h (j+1) y (by omega) (by simpa using d)) (by simpa using b)
theorem A8 {sw x q}{h:aM}(e:h.state=0):oJ sw x h q=0:=if_pos e
theorem C8 {sw q}{x:aT}{h:aM}{y:Int×Int}(e:h.state≠0) (a:x.aJ.find? (fun y=>y.1 == q)=some y):oJ sw x h q=y.2:=by unfold oJ; rw[if_neg e,a]
theorem Cp {sw q}{x:aT}{h:aM}{y:Int×Int}(e:h.state≠0) (a:x.aJ.find? (fun y=>y.1 == q)=none) (b:x.aQ.find? (fun y=>y.1 == q&&iP x h (sw.getD q.toNat 0))=some y):oJ sw x h q=y.2:=by unfold oJ; rw[if_neg e,a,b]
theorem A9 {sw q}{x:aT}{h:aM}(e:h.state≠0) (a:x.aJ.find? (fun y=>y.1 == q)=none) (b:x.aQ.find? (fun y=>y.1 == q&&iP x h (sw.getD q.toNat 0))=none):oJ sw x h q=0:=by unfold oJ; rw[if_neg e,a,b]
theorem Av (f:Nat->Bool) (i:Nat):((List.range (i+1)).filter f).map (fun j:Nat=>(j:Int))=((List.range i).filter f).map (fun j:Nat=>(j:Int))++(if f i then [(i:Int)] else []):=by
 rw[List.range_succ,List.filter_append,List.map_append];congr 1;by_cases e:f i=true
 ·rw[if_pos e]; simp[e]
 ·rw[if_neg e]; simp[e]
theorem CW (f:Nat->Bool) (i:Nat):(((List.range i).filter f).map (fun j:Nat=>(j:Int))).length<=i:=by
 rw[List.length_map];exact Nat.le_trans (List.length_filter_le _ _) (by simp)
end Go.Proofs.YtdhinkgjiapigaaGreatDoor
