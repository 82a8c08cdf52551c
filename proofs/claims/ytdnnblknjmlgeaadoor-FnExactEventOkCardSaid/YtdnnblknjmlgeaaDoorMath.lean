import Derived.Test.YtdnnblknjmlgeaaDoorData
namespace Go.Proofs.YtdnnblknjmlgeaaDoor
open Classical

def B (p : Prop) [Decidable p] : Bool := decide p
theorem B_true {p : Prop} {i : Decidable p} (h : p) : @B p i = true := decide_eq_true h
theorem B_false {p : Prop} {i : Decidable p} (h : ¬ p) : @B p i = false := decide_eq_false h
theorem B_iff {p : Prop} {i : Decidable p} : @B p i = true ↔ p := decide_eq_true_iff
theorem B_congr {p q : Prop} {i : Decidable p} {j : Decidable q} (h : p ↔ q) : @B p i = @B q j := by unfold B; exact decide_eq_decide.2 h

def InR (x a b : Int) : Prop := a ≤ x ∧ x ≤ b
def OkAt (n : Int) (l : List Int) (j : Nat) : Prop := ∀ x, l[j]? = some x → InR x 0 (n - 1) ∧ ∀ q, q < j → l[q]? ≠ some x
def ListOk (n : Int) (l : List Int) : Prop := (∀ j, j < l.length → OkAt n l j) ∧ l.length ≤ 30
def OkLie (m : Nat) (l : List (Int × Int)) (j : Nat) : Prop := ∀ x, l[j]? = some x → (InR x.1 0 ((m : Int) - 1) ∧ InR x.2 1 2) ∧ ∀ q y, q < j → l[q]? = some y → y.1 ≠ x.1
def LiesOk (m : Nat) (l : List (Int × Int)) : Prop := (∀ j, j < l.length → OkLie m l j) ∧ l.length ≤ 30
def Meet (a b : List Int) : Prop := ∃ x, x ∈ a ∧ x ∈ b
/-- A switch of Lies: in no entry of Flanks, and in one of the way's sections. -/
def OnOk (sw : List Int) (d : WayD) (x : Int × Int) : Prop := (∀ y ∈ d.flanks, x.1 ≠ y.1) ∧ ∃ s, sw[x.1.toNat]? = some s ∧ s ∈ d.sections
def WayOk (n : Int) (sw : List Int) (d : WayD) : Prop :=
  d.sections ≠ [] ∧ ListOk n d.sections ∧ ListOk n d.over ∧ ListOk n d.near ∧ LiesOk sw.length d.lies ∧ LiesOk sw.length d.flanks ∧ (∀ x ∈ d.lies, OnOk sw d x) ∧ ¬ Meet d.over d.sections

def First (bad : Nat → Prop) (k : Nat) : Prop := bad k ∧ ∀ j, j < k → ¬ bad j
theorem First.eq {bad : Nat → Prop} {j k : Nat} (h : First bad j) (g : First bad k) : j = k := by
  rcases Nat.lt_trichotomy j k with e | e | e
  · exact absurd h.1 (g.2 j e)
  · exact e
  · exact absurd g.1 (h.2 k e)
def Chain (bad : Nat → Prop) (code : Int) (rest : Int → Int → Prop) (c a : Int) : Prop := (∃ k, First bad k ∧ c = code ∧ a = (k : Int)) ∨ ((∀ k, ¬ bad k) ∧ rest c a)
def Uniq (r : Int → Int → Prop) : Prop := ∀ c a c' a', r c a → r c' a' → c = c' ∧ a = a'
theorem Chain.uniq {bad : Nat → Prop} {code : Int} {rest : Int → Int → Prop} (h : Uniq rest) : Uniq (Chain bad code rest) := by
  rintro c a c' a' (⟨k, f, rfl, rfl⟩ | ⟨n, r⟩) (⟨k', f', rfl, rfl⟩ | ⟨n', r'⟩)
  · exact ⟨rfl, by rw [f.eq f']⟩
  · exact absurd f.1 (n' k)
  · exact absurd f'.1 (n k')
  · exact h _ _ _ _ r r'
def Test (bad : Prop) (code : Int) (rest : Int → Int → Prop) (c a : Int) : Prop := (bad ∧ c = code ∧ a = 0) ∨ (¬ bad ∧ rest c a)
theorem Test.uniq {bad : Prop} {code : Int} {rest : Int → Int → Prop} (h : Uniq rest) : Uniq (Test bad code rest) := by
  rintro c a c' a' (⟨b, rfl, rfl⟩ | ⟨n, r⟩) (⟨b', rfl, rfl⟩ | ⟨n', r'⟩)
  · exact ⟨rfl, rfl⟩
  · exact absurd b n'
  · exact absurd b' n
  · exact h _ _ _ _ r r'

def Bad1 (d : PlanD) : Prop := ¬ (InR d.sections 1 60 ∧ d.switches.length ≤ 40 ∧ d.ways.length ≤ 100 ∧ InR d.hold 1 300)
def Bad2 (d : PlanD) (k : Nat) : Prop := ∃ s, d.switches[k]? = some s ∧ ¬ InR s 0 (d.sections - 1)
def Bad3 (d : PlanD) (i : Nat) : Prop := ∃ x, d.ways[i]? = some x ∧ ¬ WayOk d.sections d.switches x
def Bad4 (d : PlanD) (i : Nat) : Prop := ∃ r, d.bars[i]? = some r ∧ r.length ≠ d.ways.length
/-- Bars at (i, k). -/
def PlanD.bar (d : PlanD) (i k : Nat) : Option Bool := (d.bars[i]?).bind fun r => r[k]?
def Pair (d : PlanD) (i k : Nat) : Prop := d.bar i k ≠ d.bar k i ∨ (i ≠ k ∧ d.bar i k = some false ∧ ∃ x y, d.ways[i]? = some x ∧ d.ways[k]? = some y ∧ Meet x.sections y.sections)
def Bad5 (d : PlanD) (i : Nat) : Prop := i < d.ways.length ∧ ∃ k, k < d.ways.length ∧ Pair d i k
def Bad5' (d : PlanD) (i : Nat) : Prop := i < d.ways.length ∧ ∃ k, i < k ∧ k < d.ways.length ∧ Pair d i k

def FaultBy (bad5 : Nat → Prop) (d : PlanD) : Int → Int → Prop :=
  Test (Bad1 d) 1 (Chain (Bad2 d) 2 (Chain (Bad3 d) 3 (Test (d.bars.length ≠ d.ways.length) 4 (Chain (Bad4 d) 4 (Chain bad5 5 fun c a => c = 0 ∧ a = 0)))))
theorem FaultBy.uniq (b : Nat → Prop) (d : PlanD) : Uniq (FaultBy b d) :=
  Test.uniq (Chain.uniq (Chain.uniq (Test.uniq (Chain.uniq (Chain.uniq fun _ _ _ _ h g => ⟨h.1.trans g.1.symm, h.2.trans g.2.symm⟩)))))

theorem Meet.symm {a b : List Int} (h : Meet a b) : Meet b a := by obtain ⟨x, h1, h2⟩ := h; exact ⟨x, h2, h1⟩
theorem Pair.symm {d : PlanD} {i k : Nat} (h : Pair d i k) : Pair d k i := by
  rcases h with h | ⟨hne, hb, x, y, hx, hy, hm⟩
  · exact .inl fun e => h e.symm
  · by_cases e : d.bar i k = d.bar k i
    · exact .inr ⟨fun e => hne e.symm, by rw [← e]; exact hb, y, x, hy, hx, hm.symm⟩
    · exact .inl fun e' => e e'.symm
theorem Pair.irrefl {d : PlanD} {i : Nat} : ¬ Pair d i i := by
  rintro (h | ⟨h, -⟩)
  · exact h rfl
  · exact h rfl
theorem first5 {d : PlanD} {i : Nat} : First (Bad5 d) i ↔ First (Bad5' d) i := by
  have imp : ∀ j, Bad5' d j → Bad5 d j := fun j ⟨h, k, _, hk, hp⟩ => ⟨h, k, hk, hp⟩
  constructor
  · rintro ⟨⟨hi, k, hk, hp⟩, hno⟩
    refine ⟨⟨hi, k, ?_, hk, hp⟩, fun j hj hb => hno j hj (imp j hb)⟩
    rcases Nat.lt_trichotomy i k with e | e | e
    · exact e
    · subst e; exact absurd hp Pair.irrefl
    · exact absurd ⟨hk, i, hi, hp.symm⟩ (hno k e)
  · rintro ⟨hb, hno⟩
    refine ⟨imp i hb, fun j hj hb' => ?_⟩
    obtain ⟨hjn, k, hk, hp⟩ := hb'
    rcases Nat.lt_trichotomy j k with e | e | e
    · exact hno j hj ⟨hjn, k, e, hk, hp⟩
    · subst e; exact Pair.irrefl hp
    · exact hno k (by omega) ⟨hk, j, e, hjn, hp.symm⟩
theorem none5 {d : PlanD} : (∀ i, ¬ Bad5 d i) ↔ ∀ i, ¬ Bad5' d i := by
  constructor
  · exact fun h i ⟨hi, k, _, hk, hp⟩ => h i ⟨hi, k, hk, hp⟩
  · rintro h i ⟨hi, k, hk, hp⟩
    rcases Nat.lt_trichotomy i k with e | e | e
    · exact h i ⟨hi, k, e, hk, hp⟩
    · subst e; exact Pair.irrefl hp
    · exact h k ⟨hk, i, e, hi, hp.symm⟩
theorem chain5 {d : PlanD} {r : Int → Int → Prop} {c a : Int} : Chain (Bad5 d) 5 r c a ↔ Chain (Bad5' d) 5 r c a := by
  simp only [Chain, first5, none5]
theorem fault5 {d : PlanD} {c a : Int} : FaultBy (Bad5 d) d c a ↔ FaultBy (Bad5' d) d c a := by
  unfold FaultBy Test
  simp only [Chain, first5, none5]
end Go.Proofs.YtdnnblknjmlgeaaDoor
