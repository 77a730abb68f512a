import PyProof.Rows.All
import Wide.All
import OpenK.AllK
import Wide.FinOn
import KE.SortData
import Open.SpecLaws
import KE.OsGo
import KE.KLam
import HandS.ForSpec
import HandS.Lambda
import HandS.Nested
import KE.KNest
import HandS.ForMost
import HandS.Rev
import HandS.Walk
import KE.SortKeyHeap
import HandS.SortKw
import HandS.Conv
import PySem.Challenge.RW_whatcanbe_s01_answers
set_option Elab.async false
set_option linter.all false
/-! Bits: the specification's states against masks. -/
namespace Wc
open Wm04

theorem has_eq (s v r : Nat) : has s v r = s.testBit (place v r) := by
  unfold has
  rw [Nat.testBit_eq_decide_div_mod_eq]
  rfl

def bitsB : Bool := (List.range 4096).all fun s => (List.range 12).all fun k =>
  if s.testBit k then (s - 2 ^ k == s ^^^ 2 ^ k) && decide (s - 2 ^ k < 4096) else (s + 2 ^ k == s ^^^ 2 ^ k) && (s + 2 ^ k == s ||| 2 ^ k) && decide (s + 2 ^ k < 4096)
theorem bitsB_true : bitsB = true := by decide +kernel

theorem bits_off {s k : Nat} (hs : s < 4096) (hk : k < 12) (h : s.testBit k = false) : s + 2 ^ k = s ^^^ 2 ^ k ∧ s + 2 ^ k = s ||| 2 ^ k ∧ s + 2 ^ k < 4096 := by
  have q := bitsB_true
  unfold bitsB at q
  rw [List.all_eq_true] at q
  have q1 := q s (List.mem_range.mpr hs)
  rw [List.all_eq_true] at q1
  have q2 := q1 k (List.mem_range.mpr hk)
  simp only [h, Bool.false_eq_true, if_false, Bool.and_eq_true, beq_iff_eq, decide_eq_true_eq] at q2
  exact ⟨q2.1.1, q2.1.2, q2.2⟩
theorem bits_on {s k : Nat} (hs : s < 4096) (hk : k < 12) (h : s.testBit k = true) : s - 2 ^ k = s ^^^ 2 ^ k ∧ s - 2 ^ k < 4096 := by
  have q := bitsB_true
  unfold bitsB at q
  rw [List.all_eq_true] at q
  have q1 := q s (List.mem_range.mpr hs)
  rw [List.all_eq_true] at q1
  have q2 := q1 k (List.mem_range.mpr hk)
  simp only [h, if_true, Bool.and_eq_true, beq_iff_eq, decide_eq_true_eq] at q2
  exact q2

/-- users and roles -/
def User (v : Nat) : Prop := 1 ≤ v ∧ v ≤ 3
def Role (r : Nat) : Prop := 1 ≤ r ∧ r ≤ 4
theorem place_lt {v r : Nat} (hv : User v) (hr : Role r) : place v r < 12 := by
  unfold place User Role at *; omega
theorem place_inj {v r v' r' : Nat} (hv : User v) (hr : Role r) (hv' : User v') (hr' : Role r') (h : place v r = place v' r') : v = v' ∧ r = r' := by
  unfold place User Role at *; omega
theorem isUser_iff {v : Nat} : isUser v = true ↔ User v := by
  unfold isUser User; simp
theorem isRole_iff {v : Nat} : isRole v = true ↔ Role v := by
  unfold isRole Role; simp

theorem given_eq {s v r : Nat} (hs : s < 4096) (hv : User v) (hr : Role r) : given s v r = s ||| 2 ^ place v r := by
  unfold given
  rw [has_eq]
  by_cases h : s.testBit (place v r) = true
  · rw [if_pos h]
    refine Nat.eq_of_testBit_eq fun i => ?_
    rw [Nat.testBit_or, Nat.testBit_two_pow]
    by_cases e : place v r = i
    · subst e; rw [h]; rfl
    · simp [e]
  · have h' : s.testBit (place v r) = false := by simpa using h
    rw [if_neg h]
    exact (bits_off hs (place_lt hv hr) h').2.1
theorem given_lt {s v r : Nat} (hs : s < 4096) (hv : User v) (hr : Role r) : given s v r < 4096 := by
  unfold given
  rw [has_eq]
  by_cases h : s.testBit (place v r) = true
  · rw [if_pos h]; exact hs
  · have h' : s.testBit (place v r) = false := by simpa using h
    rw [if_neg h]
    exact (bits_off hs (place_lt hv hr) h').2.2
theorem taken_lt {s v r : Nat} (hs : s < 4096) : taken s v r < 4096 := by
  unfold taken
  split
  · exact Nat.lt_of_le_of_lt (Nat.sub_le _ _) hs
  · exact hs
theorem given_bit {s v r i : Nat} (hs : s < 4096) (hv : User v) (hr : Role r) : (given s v r).testBit i = (s.testBit i || decide (place v r = i)) := by
  rw [given_eq hs hv hr, Nat.testBit_or, Nat.testBit_two_pow]
theorem taken_bit {s v r i : Nat} (hs : s < 4096) (hv : User v) (hr : Role r) : (taken s v r).testBit i = (s.testBit i && !decide (place v r = i)) := by
  unfold taken
  rw [has_eq]
  by_cases h : s.testBit (place v r) = true
  · rw [if_pos h, (bits_on hs (place_lt hv hr) h).1, Nat.testBit_xor, Nat.testBit_two_pow]
    by_cases e : place v r = i
    · subst e; simp [h]
    · simp [e]
  · have h' : s.testBit (place v r) = false := by simpa using h
    rw [if_neg h]
    by_cases e : place v r = i
    · subst e; simp [h']
    · simp [e]

/-- the mask of a user's roles, as a loop gathers it -/
def mask (v : Nat) (l : List Nat) : Nat := l.foldl (fun b r => b ||| 2 ^ place v r) 0
theorem foldl_bit (v : Nat) : ∀ (l : List Nat) (b i : Nat), (l.foldl (fun b r => b ||| 2 ^ place v r) b).testBit i = (b.testBit i || l.any fun r => decide (place v r = i))
  | [], b, i => by simp
  | r :: l, b, i => by
    rw [List.foldl_cons, foldl_bit v l, Nat.testBit_or, Nat.testBit_two_pow, List.any_cons, Bool.or_assoc]
theorem mask_bit (v : Nat) (l : List Nat) (i : Nat) : (mask v l).testBit i = l.any fun r => decide (place v r = i) := by
  unfold mask
  rw [foldl_bit]
  simp
theorem mask_snoc (v : Nat) (l : List Nat) (r : Nat) : mask v (l ++ [r]) = mask v l ||| 2 ^ place v r := by
  unfold mask
  rw [List.foldl_append]
  rfl
theorem foldl_lt (v : Nat) (hv : User v) : ∀ (l : List Nat) (b : Nat), (∀ r ∈ l, Role r) → b < 4096 → l.foldl (fun b r => b ||| 2 ^ place v r) b < 4096
  | [], b, _, hb => hb
  | r :: l, b, h, hb => by
    rw [List.foldl_cons]
    refine foldl_lt v hv l _ (fun x hx => h x (List.mem_cons_of_mem _ hx)) ?_
    rw [← given_eq hb hv (h r (List.mem_cons_self ..))]
    exact given_lt hb hv (h r (List.mem_cons_self ..))
theorem mask_lt {v : Nat} {l : List Nat} (hv : User v) (h : ∀ r ∈ l, Role r) : mask v l < 4096 := foldl_lt v hv l 0 h (by decide)

/-- all bits of P stand in s -/
theorem and_all {s P : Nat} : (s &&& P = P) ↔ ∀ i, P.testBit i = true → s.testBit i = true := by
  constructor
  · intro h i hi
    rw [← h, Nat.testBit_and] at hi
    simp at hi
    exact hi.1
  · intro h
    refine Nat.eq_of_testBit_eq fun i => ?_
    rw [Nat.testBit_and]
    cases e : P.testBit i with
    | false => simp
    | true => simp [h i e]
theorem and_none {s A : Nat} : (s &&& A = 0) ↔ ∀ i, A.testBit i = true → s.testBit i = false := by
  constructor
  · intro h i hi
    have q := congrArg (fun n => Nat.testBit n i) h
    simp only [Nat.testBit_and, Nat.zero_testBit, hi, Bool.and_true] at q
    exact q
  · intro h
    refine Nat.eq_of_testBit_eq fun i => ?_
    rw [Nat.testBit_and, Nat.zero_testBit]
    cases e : A.testBit i with
    | false => simp
    | true => simp [h i e]
theorem mask_all {s v : Nat} {l : List Nat} : (∀ i, (mask v l).testBit i = true → s.testBit i = true) ↔ l.all (has s v) = true := by
  rw [List.all_eq_true]
  constructor
  · intro h r hr
    rw [has_eq]
    refine h _ ?_
    rw [mask_bit, List.any_eq_true]
    exact ⟨r, hr, by simp⟩
  · intro h i hi
    rw [mask_bit, List.any_eq_true] at hi
    obtain ⟨r, hr, e⟩ := hi
    have e : place v r = i := by simpa using e
    subst e
    rw [← has_eq]
    exact h r hr
theorem mask_none {s v : Nat} {l : List Nat} : (∀ i, (mask v l).testBit i = true → s.testBit i = false) ↔ (l.all fun r => !has s v r) = true := by
  rw [List.all_eq_true]
  constructor
  · intro h r hr
    rw [has_eq]
    rw [h _ (by rw [mask_bit, List.any_eq_true]; exact ⟨r, hr, by simp⟩)]
    rfl
  · intro h i hi
    rw [mask_bit, List.any_eq_true] at hi
    obtain ⟨r, hr, e⟩ := hi
    have e : place v r = i := by simpa using e
    subst e
    have q := h r hr
    rw [has_eq] at q
    simpa using q
/-- one has all these roles: the mask test -/
theorem hasAll_mask (s v : Nat) (l : List Nat) : decide (s &&& mask v l = mask v l) = hasAll v l s := by
  unfold hasAll
  rw [Bool.eq_iff_iff, decide_eq_true_iff, and_all, mask_all]
theorem has_mask (s v r : Nat) : decide (s &&& 2 ^ place v r = 0) = !has s v r := by
  have e : 2 ^ place v r = mask v [r] := by simp [mask]
  rw [e, Bool.eq_iff_iff, decide_eq_true_iff, and_none, mask_none]
  simp

/-! the step's masks -/
structure Masks where
  present : Nat
  absent : Nat
  change : Nat
def masks (k : Rule) (who whom : Nat) : Masks :=
  let c := 2 ^ place whom k.role
  let p := 2 ^ place who k.by_ ||| mask whom k.need
  let a := mask whom k.without
  if k.gives = true then ⟨p, a ||| c, c⟩ else ⟨p ||| c, a, c⟩
def Masks.may (m : Masks) (s : Nat) : Bool := decide (s &&& m.present = m.present) && decide (s &&& m.absent = 0)
theorem or_all {s a b : Nat} : (∀ i, (a ||| b).testBit i = true → s.testBit i = true) ↔ (∀ i, a.testBit i = true → s.testBit i = true) ∧ ∀ i, b.testBit i = true → s.testBit i = true := by
  constructor
  · intro h
    exact ⟨fun i e => h i (by rw [Nat.testBit_or, e]; rfl), fun i e => h i (by rw [Nat.testBit_or, e]; simp)⟩
  · intro h i e
    rw [Nat.testBit_or, Bool.or_eq_true] at e
    exact e.elim (h.1 i) (h.2 i)
theorem or_none {s a b : Nat} : (∀ i, (a ||| b).testBit i = true → s.testBit i = false) ↔ (∀ i, a.testBit i = true → s.testBit i = false) ∧ ∀ i, b.testBit i = true → s.testBit i = false := by
  constructor
  · intro h
    exact ⟨fun i e => h i (by rw [Nat.testBit_or, e]; rfl), fun i e => h i (by rw [Nat.testBit_or, e]; simp)⟩
  · intro h i e
    rw [Nat.testBit_or, Bool.or_eq_true] at e
    exact e.elim (h.1 i) (h.2 i)
theorem one_all {s k : Nat} : (∀ i, (2 ^ k).testBit i = true → s.testBit i = true) ↔ s.testBit k = true := by
  constructor
  · intro h; exact h k (by rw [Nat.testBit_two_pow]; simp)
  · intro h i e
    rw [Nat.testBit_two_pow] at e
    have e : k = i := by simpa using e
    subst e; exact h
theorem one_none {s k : Nat} : (∀ i, (2 ^ k).testBit i = true → s.testBit i = false) ↔ s.testBit k = false := by
  constructor
  · intro h; exact h k (by rw [Nat.testBit_two_pow]; simp)
  · intro h i e
    rw [Nat.testBit_two_pow] at e
    have e : k = i := by simpa using e
    subst e; exact h
theorem masks_may {rs : List Rule} {k : Nat} {rule : Rule} (hk : rs[k]? = some rule) (s u v : Nat) : (masks rule u v).may s = may rs s ⟨k, u, v⟩ := by
  unfold may
  simp only [hk]
  unfold Masks.may masks
  rw [Bool.eq_iff_iff]
  cases g : rule.gives with
  | true =>
    simp only [if_true, Bool.and_eq_true, decide_eq_true_eq]
    rw [and_all, and_none, or_all, or_none, one_all, one_none, mask_all, mask_none, ← has_eq, ← has_eq]
    constructor
    · rintro ⟨⟨a, b⟩, c, d⟩
      exact ⟨a, b, c, by simp [d]⟩
    · rintro ⟨a, b, c, d⟩
      exact ⟨⟨a, b⟩, c, by simpa using d⟩
  | false =>
    simp only [Bool.false_eq_true, if_false, Bool.and_eq_true, decide_eq_true_eq]
    rw [and_all, and_none, or_all, or_all, one_all, one_all, mask_all, mask_none, ← has_eq, ← has_eq]
    constructor
    · rintro ⟨⟨⟨a, b⟩, d⟩, c⟩
      exact ⟨a, b, c, by simp [d]⟩
    · rintro ⟨a, b, c, d⟩
      exact ⟨⟨⟨a, b⟩, by simpa using d⟩, c⟩
theorem masks_change (rule : Rule) (u v : Nat) : (masks rule u v).change = 2 ^ place v rule.role := by
  unfold masks
  dsimp only
  split <;> rfl
theorem masks_did {rs : List Rule} {k : Nat} {rule : Rule} (hk : rs[k]? = some rule) {s u v : Nat} (hs : s < 4096) (hv : User v) (hr : Role rule.role) (hm : may rs s ⟨k, u, v⟩ = true) :
    did rs s ⟨k, u, v⟩ = s ^^^ (masks rule u v).change := by
  rw [masks_change]
  unfold may at hm
  unfold did
  simp only [hk] at hm ⊢
  simp only [Bool.and_eq_true] at hm
  have q := hm.2.2.2
  have pl := place_lt hv hr
  cases g : rule.gives with
  | true =>
    rw [g] at q
    have q' : has s v rule.role = false := by simpa using q
    rw [if_pos rfl]
    unfold given
    rw [q', if_neg (by simp)]
    exact (bits_off hs pl (by rw [← has_eq]; exact q')).1
  | false =>
    rw [g] at q
    have q' : has s v rule.role = true := by simpa using q
    rw [if_neg (by simp)]
    unfold taken
    rw [q', if_pos rfl]
    exact (bits_on hs pl (by rw [← has_eq]; exact q')).1
theorem did_lt {rs : List Rule} (hrs : ∀ r ∈ rs, Role r.role) {s : Nat} {t : Step} (hs : s < 4096) (hv : User t.whom) : did rs s t < 4096 := by
  unfold did
  cases e : rs[t.rule]? with
  | none => exact hs
  | some k =>
    dsimp only
    split
    · exact given_lt hs hv (hrs k (List.mem_of_getElem? e))
    · exact taken_lt hs

/-! set -/
def clearB : Bool := (List.range 4096).all fun s => [1, 2, 3].all fun v => s - (s &&& mask v [1, 2, 3, 4]) == setRoles s v []
theorem clearB_true : clearB = true := by decide +kernel
theorem clear_eq {s v : Nat} (hs : s < 4096) (hv : User v) : s - (s &&& mask v [1, 2, 3, 4]) = setRoles s v [] := by
  have q := clearB_true
  unfold clearB at q
  rw [List.all_eq_true] at q
  have q1 := q s (List.mem_range.mpr hs)
  rw [List.all_eq_true] at q1
  have q2 := q1 v (by unfold User at hv; simp; omega)
  simpa using q2
theorem set1_lt {s v r : Nat} {l : List Nat} (hs : s < 4096) (hv : User v) (hr : Role r) : (if l.contains r = true then given s v r else taken s v r) < 4096 := by
  split
  · exact given_lt hs hv hr
  · exact taken_lt hs
theorem set1_bit {s v r i : Nat} {l : List Nat} (hs : s < 4096) (hv : User v) (hr : Role r) : (if l.contains r = true then given s v r else taken s v r).testBit i = if place v r = i then l.contains r else s.testBit i := by
  cases c : l.contains r with
  | true =>
    rw [if_pos rfl, given_bit hs hv hr]
    by_cases e : place v r = i <;> simp [e]
  | false =>
    rw [if_neg (by simp), taken_bit hs hv hr]
    by_cases e : place v r = i <;> simp [e]
theorem setRoles_lt {s v : Nat} {l : List Nat} (hs : s < 4096) (hv : User v) : setRoles s v l < 4096 := by
  unfold setRoles
  simp only [List.foldl_cons, List.foldl_nil]
  have h1 : Role 1 := by unfold Role; omega
  have h2 : Role 2 := by unfold Role; omega
  have h3 : Role 3 := by unfold Role; omega
  have h4 : Role 4 := by unfold Role; omega
  exact set1_lt (set1_lt (set1_lt (set1_lt hs hv h1) hv h2) hv h3) hv h4
theorem setRoles_bit {s v i : Nat} {l : List Nat} (hs : s < 4096) (hv : User v) :
    (setRoles s v l).testBit i = if place v 4 = i then l.contains 4 else if place v 3 = i then l.contains 3 else if place v 2 = i then l.contains 2 else if place v 1 = i then l.contains 1 else s.testBit i := by
  unfold setRoles
  simp only [List.foldl_cons, List.foldl_nil]
  have h1 : Role 1 := by unfold Role; omega
  have h2 : Role 2 := by unfold Role; omega
  have h3 : Role 3 := by unfold Role; omega
  have h4 : Role 4 := by unfold Role; omega
  rw [set1_bit (set1_lt (set1_lt (set1_lt hs hv h1) hv h2) hv h3) hv h4, set1_bit (set1_lt (set1_lt hs hv h1) hv h2) hv h3, set1_bit (set1_lt hs hv h1) hv h2, set1_bit hs hv h1]
theorem setRoles_eq {s v : Nat} {l : List Nat} (hs : s < 4096) (hv : User v) (hl : ∀ r ∈ l, Role r) : (s - (s &&& mask v [1, 2, 3, 4])) ||| mask v l = setRoles s v l := by
  rw [clear_eq hs hv]
  refine Nat.eq_of_testBit_eq fun i => ?_
  rw [Nat.testBit_or, setRoles_bit hs hv, setRoles_bit hs hv, mask_bit]
  have pl : ∀ a b, place v a = place v b → 1 ≤ a → 1 ≤ b → a = b := by intro a b h ha hb; unfold place at h; omega
  have an : ∀ r, Role r → (l.any fun x => decide (place v x = place v r)) = l.contains r := fun r hr => by
    rw [Bool.eq_iff_iff, List.any_eq_true, List.contains_iff_mem]
    constructor
    · rintro ⟨x, hx, e⟩
      have e : place v x = place v r := by simpa using e
      have := pl x r e (hl x hx).1 hr.1
      subst this; exact hx
    · intro h; exact ⟨r, h, by simp⟩
  by_cases e4 : place v 4 = i
  · subst e4; simp only [if_true]; rw [an 4 ⟨by omega, by omega⟩]; simp
  by_cases e3 : place v 3 = i
  · subst e3; simp only [if_neg e4, if_true]; rw [an 3 ⟨by omega, by omega⟩]; simp
  by_cases e2 : place v 2 = i
  · subst e2; simp only [if_neg e4, if_neg e3, if_true]; rw [an 2 ⟨by omega, by omega⟩]; simp
  by_cases e1 : place v 1 = i
  · subst e1; simp only [if_neg e4, if_neg e3, if_neg e2, if_true]; rw [an 1 ⟨by omega, by omega⟩]; simp
  simp only [if_neg e4, if_neg e3, if_neg e2, if_neg e1]
  have z : (l.any fun r => decide (place v r = i)) = false := by
    rw [List.any_eq_false]
    intro r hr q
    have q : place v r = i := by simpa using q
    have := hl r hr
    unfold Role at this
    obtain ⟨a, b⟩ := this
    have : r = 1 ∨ r = 2 ∨ r = 3 ∨ r = 4 := by omega
    rcases this with rfl | rfl | rfl | rfl
    · exact e1 q
    · exact e2 q
    · exact e3 q
    · exact e4 q
  rw [z, Bool.or_false]
end Wc

/-! The search by a queue against the specification's search level by level. -/
namespace Wc
open Wm04

abbrev Node := Nat × List Step
/-- from one node: what wasn't come to before goes to the queue's end -/
def grow1 (rs : List Rule) (x : Node) (Q : List Node) (t : Step) : List Node :=
  if may rs x.1 t = true ∧ did rs x.1 t ∉ Q.map (·.1) then Q ++ [(did rs x.1 t, x.2 ++ [t])] else Q
def grow (rs : List Rule) (all : List Step) (x : Node) (Q : List Node) : List Node := all.foldl (grow1 rs x) Q
/-- the queue when the first n of it have been gone through -/
def queue (rs : List Rule) (all : List Step) (s : Nat) : Nat → List Node
  | 0 => [(s, [])]
  | n + 1 => match (queue rs all s n)[n]? with
    | none => queue rs all s n
    | some x => grow rs all x (queue rs all s n)

section
variable {rs : List Rule} {all : List Step} {s : Nat}
theorem grow1_pre (x : Node) (Q : List Node) (t : Step) : ∃ m, grow1 rs x Q t = Q ++ m := by
  unfold grow1
  split
  · exact ⟨_, rfl⟩
  · exact ⟨[], by simp⟩
theorem grow_pre (x : Node) : ∀ (all : List Step) (Q : List Node), ∃ m, grow rs all x Q = Q ++ m
  | [], Q => ⟨[], by simp [grow]⟩
  | t :: all, Q => by
    obtain ⟨m1, e1⟩ := grow1_pre (rs := rs) x Q t
    obtain ⟨m2, e2⟩ := grow_pre x all (grow1 rs x Q t)
    refine ⟨m1 ++ m2, ?_⟩
    have : grow rs (t :: all) x Q = grow rs all x (grow1 rs x Q t) := rfl
    rw [this, e2, e1, List.append_assoc]
theorem queue_next {n : Nat} {x : Node} (h : (queue rs all s n)[n]? = some x) : queue rs all s (n + 1) = grow rs all x (queue rs all s n) := by
  show (match (queue rs all s n)[n]? with | none => _ | some x => _) = _
  rw [h]
theorem queue_stop {n : Nat} (h : (queue rs all s n)[n]? = none) : queue rs all s (n + 1) = queue rs all s n := by
  show (match (queue rs all s n)[n]? with | none => _ | some x => _) = _
  rw [h]
theorem queue_pre1 (n : Nat) : ∃ m, queue rs all s (n + 1) = queue rs all s n ++ m := by
  cases h : (queue rs all s n)[n]? with
  | none => exact ⟨[], by rw [queue_stop h]; simp⟩
  | some x => rw [queue_next h]; exact grow_pre x all _
theorem queue_pre {n : Nat} : ∀ {k : Nat}, n ≤ k → ∃ m, queue rs all s k = queue rs all s n ++ m
  | 0, h => by
    have : n = 0 := by omega
    subst this; exact ⟨[], by simp⟩
  | k + 1, h => by
    by_cases e : n = k + 1
    · subst e; exact ⟨[], by simp⟩
    · obtain ⟨m1, e1⟩ := queue_pre (n := n) (k := k) (by omega)
      obtain ⟨m2, e2⟩ := queue_pre1 (rs := rs) (all := all) (s := s) k
      exact ⟨m1 ++ m2, by rw [e2, e1, List.append_assoc]⟩
theorem queue_at {n k i : Nat} {x : Node} (h : n ≤ k) (hx : (queue rs all s n)[i]? = some x) : (queue rs all s k)[i]? = some x := by
  obtain ⟨m, e⟩ := queue_pre (rs := rs) (all := all) (s := s) h
  rw [e, List.getElem?_append_left (List.getElem?_eq_some_iff.mp hx).1]
  exact hx
end

/-! What is in the queue: each state once, below 4096 -/
structure QOk (Q : List Node) : Prop where
  nd : (Q.map (·.1)).Nodup
  lt : ∀ x ∈ Q, x.1 < 4096
theorem nodup_le : ∀ (n : Nat) (l : List Nat), l.Nodup → (∀ x ∈ l, x < n) → l.length ≤ n
  | 0, [], _, _ => Nat.le_refl _
  | 0, x :: l, _, h => absurd (h x (List.mem_cons_self ..)) (by omega)
  | n + 1, l, nd, h => by
    by_cases hn : n ∈ l
    · have e := nodup_le n (l.erase n) (nd.erase n) (fun x hx => by
        have h1 := h x (List.mem_of_mem_erase hx)
        have h2 : x ≠ n := fun z => by
          subst z
          exact (List.Nodup.not_mem_erase nd) hx
        omega)
      rw [List.length_erase_of_mem hn] at e
      omega
    · exact Nat.le_succ_of_le (nodup_le n l nd fun x hx => by
        have h1 := h x hx
        have h2 : x ≠ n := fun z => hn (z ▸ hx)
        omega)
theorem QOk.len {Q : List Node} (h : QOk Q) : Q.length ≤ 4096 := by
  have := nodup_le 4096 (Q.map (·.1)) h.nd (fun x hx => by
    obtain ⟨y, hy, e⟩ := List.mem_map.mp hx
    rw [← e]; exact h.lt y hy)
  simpa using this
/-- every step of a row leads below 4096 -/
def Below (rs : List Rule) (all : List Step) : Prop := ∀ s, s < 4096 → ∀ t ∈ all, did rs s t < 4096
section
variable {rs : List Rule} {all : List Step} {s : Nat}
theorem grow1_ok {x : Node} {Q : List Node} {t : Step} (h : QOk Q) (hd : did rs x.1 t < 4096) : QOk (grow1 rs x Q t) := by
  unfold grow1
  split
  · rename_i c
    refine ⟨?_, fun y hy => ?_⟩
    · rw [List.map_append, List.nodup_append]
      refine ⟨h.nd, by simp, fun a ha b hb => ?_⟩
      intro z
      subst z
      have e : a = did rs x.1 t := by simpa using hb
      rw [e] at ha
      exact c.2 ha
    · rcases List.mem_append.mp hy with q | q
      · exact h.lt y q
      · have e : y = (did rs x.1 t, x.2 ++ [t]) := by simpa using q
        rw [e]; exact hd
  · exact h
theorem grow_ok {x : Node} : ∀ {all : List Step} {Q : List Node}, QOk Q → (∀ t ∈ all, did rs x.1 t < 4096) → QOk (grow rs all x Q)
  | [], Q, h, _ => h
  | t :: all, Q, h, hd => by
    have : grow rs (t :: all) x Q = grow rs all x (grow1 rs x Q t) := rfl
    rw [this]
    exact grow_ok (grow1_ok h (hd t (List.mem_cons_self ..))) fun u hu => hd u (List.mem_cons_of_mem _ hu)
theorem queue_ok (hb : Below rs all) (hs : s < 4096) : ∀ n, QOk (queue rs all s n)
  | 0 => ⟨by simp [queue], fun x hx => by
      have e : x = (s, []) := by simpa [queue] using hx
      rw [e]; exact hs⟩
  | n + 1 => by
    have ih := queue_ok hb hs n
    cases h : (queue rs all s n)[n]? with
    | none => rw [queue_stop h]; exact ih
    | some x =>
      rw [queue_next h]
      exact grow_ok ih fun t ht => hb x.1 (ih.lt x (List.mem_of_getElem? h)) t ht
end

/-! The array of what was come to -/
def Seen (a : Array Bool) (Q : List Node) : Prop := a.size = 4096 ∧ ∀ i, i < 4096 → a[i]? = some (decide (i ∈ Q.map (·.1)))
theorem seen_start {s : Nat} (hs : s < 4096) : Seen (start s) [(s, [])] := by
  unfold start
  refine ⟨by simp, fun i hi => ?_⟩
  rw [Array.getElem?_setIfInBounds]
  by_cases e : s = i
  · subst e; simp [hs]
  · have e' : ¬ i = s := fun z => e z.symm
    simp [e, e', hi]
theorem seen_get {a : Array Bool} {Q : List Node} (h : Seen a Q) {i : Nat} (hi : i < 4096) : ((a[i]?).getD true = false) ↔ i ∉ Q.map (·.1) := by
  rw [h.2 i hi]
  simp
theorem seen_put {a : Array Bool} {Q : List Node} (h : Seen a Q) {i : Nat} (p : List Step) (hi : i < 4096) : Seen (a.setIfInBounds i true) (Q ++ [(i, p)]) := by
  refine ⟨by simp [h.1], fun j hj => ?_⟩
  rw [Array.getElem?_setIfInBounds]
  by_cases e : i = j
  · subst e; simp [h.1, hi]
  · have e' : ¬ j = i := fun z => e z.symm
    rw [if_neg e, h.2 j hj]
    simp [e']
section
variable {rs : List Rule} {all : List Step} {s : Nat}
/-- the specification's inner loop, told by the queue -/
theorem inner (x : Node) (D : List Node) : ∀ (all : List Step) (a : Array Bool × Found), (∀ t ∈ all, did rs x.1 t < 4096) → Seen a.1 (D ++ a.2) →
    let b := all.foldl (fun a t => if may rs x.1 t = true ∧ (a.1[did rs x.1 t]?).getD true = false then (a.1.setIfInBounds (did rs x.1 t) true, a.2 ++ [(did rs x.1 t, x.2 ++ [t])]) else a) a
    Seen b.1 (D ++ b.2) ∧ grow rs all x (D ++ a.2) = D ++ b.2
  | [], a, _, h => ⟨h, rfl⟩
  | t :: all, a, hd, h => by
    have d := hd t (List.mem_cons_self ..)
    have g : grow rs (t :: all) x (D ++ a.2) = grow rs all x (grow1 rs x (D ++ a.2) t) := rfl
    dsimp only
    rw [List.foldl_cons, g]
    have sg := seen_get h d
    by_cases c : may rs x.1 t = true ∧ (a.1[did rs x.1 t]?).getD true = false
    · have c' : may rs x.1 t = true ∧ did rs x.1 t ∉ (D ++ a.2).map (·.1) := ⟨c.1, sg.mp c.2⟩
      rw [if_pos c]
      have e1 : grow1 rs x (D ++ a.2) t = D ++ (a.2 ++ [(did rs x.1 t, x.2 ++ [t])]) := by
        unfold grow1
        rw [if_pos c', List.append_assoc]
      rw [e1]
      exact inner x D all (a.1.setIfInBounds (did rs x.1 t) true, a.2 ++ [(did rs x.1 t, x.2 ++ [t])]) (fun u hu => hd u (List.mem_cons_of_mem _ hu)) (by
        have := seen_put h (x.2 ++ [t]) d
        rw [List.append_assoc] at this
        exact this)
    · have c' : ¬ (may rs x.1 t = true ∧ did rs x.1 t ∉ (D ++ a.2).map (·.1)) := fun z => c ⟨z.1, sg.mpr z.2⟩
      rw [if_neg c]
      have e1 : grow1 rs x (D ++ a.2) t = D ++ a.2 := by
        unfold grow1
        rw [if_neg c']
      rw [e1]
      exact inner x D all a (fun u hu => hd u (List.mem_cons_of_mem _ hu)) h
/-- a level, told by the queue: from D ++ l, gone through up to D, to D ++ l ++ the next level, gone through up to D ++ l -/
theorem level (hb : Below rs all) (hs : s < 4096) : ∀ (l D0 : List Node) (a : Array Bool × Found) (Q : List Node), Q = queue rs all s D0.length → Q = D0 ++ l ++ a.2 → Seen a.1 Q →
    let b := l.foldl (fun a x => all.foldl (fun a t =>
      if may rs x.1 t = true ∧ (a.1[did rs x.1 t]?).getD true = false then (a.1.setIfInBounds (did rs x.1 t) true, a.2 ++ [(did rs x.1 t, x.2 ++ [t])]) else a) a) a
    queue rs all s (D0 ++ l).length = D0 ++ l ++ b.2 ∧ Seen b.1 (D0 ++ l ++ b.2)
  | [], D0, a, Q, e1, e2, h => by
    dsimp only
    rw [List.append_nil, List.foldl_nil]
    rw [List.append_nil] at e2
    exact ⟨by rw [← e1, e2], by rw [← e2]; exact h⟩
  | x :: l, D0, a, Q, e1, e2, h => by
    dsimp only
    rw [List.foldl_cons]
    have hx : (queue rs all s D0.length)[D0.length]? = some x := by
      rw [← e1, e2, List.append_assoc, List.getElem?_append_right (Nat.le_refl _)]
      simp
    have ok := queue_ok (s := s) hb hs D0.length
    have hd : ∀ t ∈ all, did rs x.1 t < 4096 := fun t ht => hb x.1 (ok.lt x (List.mem_of_getElem? hx)) t ht
    have h' : Seen a.1 ((D0 ++ x :: l) ++ a.2) := by rw [← e2]; exact h
    obtain ⟨i1, i2⟩ := inner (rs := rs) x (D0 ++ x :: l) all a hd h'
    have nx := queue_next hx
    rw [← e1, e2, i2] at nx
    have r := level hb hs l (D0 ++ [x]) (all.foldl (fun a t => if may rs x.1 t = true ∧ (a.1[did rs x.1 t]?).getD true = false then (a.1.setIfInBounds (did rs x.1 t) true, a.2 ++ [(did rs x.1 t, x.2 ++ [t])]) else a) a)
      (queue rs all s (D0.length + 1)) (by simp) (by rw [nx]; simp) (by rw [nx]; exact i1)
    dsimp only at r
    have e3 : D0 ++ [x] ++ l = D0 ++ x :: l := by simp
    rw [e3] at r
    exact r
theorem onward_level (hb : Below rs all) (hs : s < 4096) {l D : List Node} {seen : Array Bool} (e1 : queue rs all s D.length = D ++ l) (h : Seen seen (D ++ l)) :
    queue rs all s (D ++ l).length = D ++ l ++ (onward rs all seen l).2 ∧ Seen (onward rs all seen l).1 (D ++ l ++ (onward rs all seen l).2) := by
  have r := level hb hs l D (seen, []) (D ++ l) e1.symm (by simp) h
  exact r
/-- what the specification finds is the first in the queue that is as wanted -/
theorem search_queue (hb : Below rs all) (hs : s < 4096) (want : Nat → Bool) : ∀ (f : Nat) (D l : List Node) (seen : Array Bool), queue rs all s D.length = D ++ l → Seen seen (D ++ l) → 4096 ≤ f + D.length → (∀ x ∈ D, want x.1 = false) →
    (∀ n x, (queue rs all s n)[n]? = some x → want x.1 = true → (∀ i y, i < n → (queue rs all s n)[i]? = some y → want y.1 = false) → search rs all want f seen l = some x) ∧
    (∀ n, (queue rs all s n).length ≤ n → (∀ y ∈ queue rs all s n, want y.1 = false) → search rs all want f seen l = none)
  | 0, D, l, seen, e1, h, hf, hw => by
    have ok := queue_ok (s := s) hb hs D.length
    have ln := ok.len
    rw [e1, List.length_append] at ln
    have l0 : l = [] := by
      have : l.length = 0 := by omega
      exact List.length_eq_zero_iff.mp this
    subst l0
    rw [List.append_nil] at e1
    have stop : ∀ k, queue rs all s (D.length + k) = D := fun k => by
      induction k with
      | zero => exact e1
      | succ k ih =>
        have : (queue rs all s (D.length + k))[D.length + k]? = none := by
          rw [ih]; simp
        rw [← Nat.add_assoc, queue_stop this, ih]
    have s0 : search rs all want 0 seen [] = none := rfl
    refine ⟨fun n x hx hwx _ => ?_, fun n _ _ => s0⟩
    exfalso
    have hx' : (queue rs all s (max n D.length))[n]? = some x := queue_at (Nat.le_max_left ..) hx
    have e2 := stop (max n D.length - D.length)
    have e3 : D.length + (max n D.length - D.length) = max n D.length := by omega
    rw [e3] at e2
    rw [e2] at hx'
    have := hw x (List.mem_of_getElem? hx')
    rw [this] at hwx
    cases hwx
  | f + 1, D, l, seen, e1, h, hf, hw => by
    have un : search rs all want (f + 1) seen l = match l.find? fun x => want x.1 with
      | some x => some x
      | none => match l with
        | [] => none
        | _ :: _ => search rs all want f (onward rs all seen l).1 (onward rs all seen l).2 := by
      cases l <;> rfl
    rw [un]
    cases hfd : l.find? (fun x => want x.1) with
    | some x0 =>
      obtain ⟨hw0, as, bs, el, has⟩ := List.find?_eq_some_iff_append.mp hfd
      dsimp only
      have has' : ∀ x ∈ as, want x.1 = false := fun x hx => by simpa using has x hx
      have e1' : queue rs all s D.length = (D ++ as) ++ x0 :: bs := by rw [e1, el]; simp
      constructor
      · intro n x hx hwx hlt
        -- x0 stands at D.length + as.length in every later queue
        have hx0 : (queue rs all s (max n D.length))[(D ++ as).length]? = some x0 := queue_at (Nat.le_max_right ..) (by
          rw [e1', List.getElem?_append_right (Nat.le_refl _)]; simp)
        have hxm : (queue rs all s (max n D.length))[n]? = some x := queue_at (Nat.le_max_left ..) hx
        have early : ∀ i y, i < (D ++ as).length → (queue rs all s (max n D.length))[i]? = some y → want y.1 = false := fun i y hi hy => by
          obtain ⟨m, em⟩ := queue_pre (rs := rs) (all := all) (s := s) (Nat.le_max_right n D.length)
          rw [em, e1', List.append_assoc, List.getElem?_append_left hi] at hy
          rcases List.mem_append.mp (List.mem_of_getElem? hy) with q | q
          · exact hw y q
          · exact has' y q
        have e : n = (D ++ as).length := by
          rcases Nat.lt_trichotomy n (D ++ as).length with q | q | q
          · have := early n x q hxm
            rw [this] at hwx; cases hwx
          · exact q
          · exfalso
            have hq : (queue rs all s n)[(D ++ as).length]? = some x0 := by
              have hlen : (D ++ as).length < (queue rs all s n).length := Nat.lt_trans q (List.getElem?_eq_some_iff.mp hx).1
              obtain ⟨m, em⟩ := queue_pre (rs := rs) (all := all) (s := s) (Nat.le_max_left n D.length)
              rw [em, List.getElem?_append_left hlen] at hx0
              exact hx0
            have := hlt _ x0 q hq
            rw [this] at hw0; cases hw0
        rw [← e, hxm] at hx0
        exact hx0.symm
      · intro n hn hall
        exfalso
        -- x0 is in the queue at n: since the queue has stopped there
        have stop : ∀ k, queue rs all s (n + k) = queue rs all s n := fun k => by
          induction k with
          | zero => rfl
          | succ k ih =>
            have : (queue rs all s (n + k))[n + k]? = none := by
              rw [ih]; exact List.getElem?_eq_none (by omega)
            rw [← Nat.add_assoc, queue_stop this, ih]
        have hx0 : (queue rs all s (max n D.length))[(D ++ as).length]? = some x0 := queue_at (Nat.le_max_right ..) (by
          rw [e1', List.getElem?_append_right (Nat.le_refl _)]; simp)
        have e3 : n + (max n D.length - n) = max n D.length := by omega
        have e2 := stop (max n D.length - n)
        rw [e3] at e2
        rw [e2] at hx0
        have := hall x0 (List.mem_of_getElem? hx0)
        rw [this] at hw0; cases hw0
    | none =>
      dsimp only
      have hl : ∀ x ∈ l, want x.1 = false := fun x hx => by
        have := List.find?_eq_none.mp hfd x hx
        simpa using this
      cases l with
      | nil =>
        dsimp only
        rw [List.append_nil] at e1
        have stop : ∀ k, queue rs all s (D.length + k) = D := fun k => by
          induction k with
          | zero => exact e1
          | succ k ih =>
            have : (queue rs all s (D.length + k))[D.length + k]? = none := by
              rw [ih]; simp
            rw [← Nat.add_assoc, queue_stop this, ih]
        refine ⟨fun n x hx hwx _ => ?_, fun n _ _ => rfl⟩
        exfalso
        have hx' : (queue rs all s (max n D.length))[n]? = some x := queue_at (Nat.le_max_left ..) hx
        have e2 := stop (max n D.length - D.length)
        have e3 : D.length + (max n D.length - D.length) = max n D.length := by omega
        rw [e3] at e2
        rw [e2] at hx'
        have := hw x (List.mem_of_getElem? hx')
        rw [this] at hwx
        cases hwx
      | cons y0 l' =>
        dsimp only
        obtain ⟨q1, q2⟩ := onward_level hb hs e1 h
        refine search_queue hb hs want f (D ++ y0 :: l') (onward rs all seen (y0 :: l')).2 (onward rs all seen (y0 :: l')).1 q1 q2 ?_ ?_
        · rw [List.length_append, List.length_cons]; omega
        · intro x hx
          rcases List.mem_append.mp hx with q | q
          · exact hw x q
          · exact hl x q
/-- **found**: the queue's item n is the first as wanted -/
theorem plan_found (hb : Below rs all) (hs : s < 4096) {us : List Nat} (he : steps rs us = all) {want : Nat → Bool} {n : Nat} {x : Node} (hx : (queue rs all s n)[n]? = some x) (hw : want x.1 = true) (hl : ∀ i y, i < n → (queue rs all s n)[i]? = some y → want y.1 = false) :
    plan rs us s want = some x.2 := by
  unfold plan
  rw [he, (search_queue hb hs want 4096 [] [(s, [])] (start s) rfl (seen_start hs) (by simp) (by simp)).1 n x hx hw hl]
  rfl
theorem plan_none (hb : Below rs all) (hs : s < 4096) {us : List Nat} (he : steps rs us = all) {want : Nat → Bool} {n : Nat} (hn : (queue rs all s n).length ≤ n) (hl : ∀ y ∈ queue rs all s n, want y.1 = false) :
    plan rs us s want = none := by
  unfold plan
  rw [he, (search_queue hb hs want 4096 [] [(s, [])] (start s) rfl (seen_start hs) (by simp) (by simp)).2 n hn hl]
  rfl
/-- how many can be come to: as many as the queue has when it has been gone through -/
theorem reach_queue (hb : Below rs all) (hs : s < 4096) : ∀ (f : Nat) (D l : List Node) (seen : Array Bool), queue rs all s D.length = D ++ l → Seen seen (D ++ l) → 4096 ≤ f + D.length →
    ∀ n, (queue rs all s n).length ≤ n → D.length + reach rs all f seen l = (queue rs all s n).length
  | f, D, [], seen, e1, h, hf, n, hn => by
    rw [List.append_nil] at e1
    have r0 : reach rs all f seen [] = 0 := by cases f <;> rfl
    rw [r0]
    have stop : ∀ k, queue rs all s (D.length + k) = D := fun k => by
      induction k with
      | zero => exact e1
      | succ k ih =>
        have : (queue rs all s (D.length + k))[D.length + k]? = none := by
          rw [ih]; simp
        rw [← Nat.add_assoc, queue_stop this, ih]
    have stop2 : ∀ k, queue rs all s (n + k) = queue rs all s n := fun k => by
      induction k with
      | zero => rfl
      | succ k ih =>
        have : (queue rs all s (n + k))[n + k]? = none := by
          rw [ih]; exact List.getElem?_eq_none (by omega)
        rw [← Nat.add_assoc, queue_stop this, ih]
    have a := stop (max n D.length - D.length)
    have b := stop2 (max n D.length - n)
    have e3 : D.length + (max n D.length - D.length) = max n D.length := by omega
    have e4 : n + (max n D.length - n) = max n D.length := by omega
    rw [e3] at a
    rw [e4, a] at b
    rw [← b]
    rfl
  | 0, D, y :: l, seen, e1, h, hf, n, hn => by
    have ok := queue_ok (s := s) hb hs D.length
    have ln := ok.len
    rw [e1, List.length_append, List.length_cons] at ln
    omega
  | f + 1, D, y :: l, seen, e1, h, hf, n, hn => by
    obtain ⟨q1, q2⟩ := onward_level hb hs e1 h
    have ih := reach_queue hb hs f (D ++ y :: l) (onward rs all seen (y :: l)).2 (onward rs all seen (y :: l)).1 q1 q2 (by rw [List.length_append, List.length_cons]; omega) n hn
    have un : reach rs all (f + 1) seen (y :: l) = (y :: l).length + reach rs all f (onward rs all seen (y :: l)).1 (onward rs all seen (y :: l)).2 := rfl
    rw [un, ← ih, List.length_append]
    omega
theorem many_queue (hb : Below rs all) (hs : s < 4096) {us : List Nat} (he : steps rs us = all) {n : Nat} (hn : (queue rs all s n).length ≤ n) : many rs us s = (queue rs all s n).length := by
  unfold many
  rw [he]
  have := reach_queue hb hs 4096 [] [(s, [])] (start s) rfl (seen_start hs) (by simp) n hn
  simpa using this
end
end Wc

/-! Rules given up: the search without their steps. -/
namespace Wc
open Wm04
theorem gave_at (rs : List Rule) (c : List Nat) (i : Nat) : (gaveUp rs c)[i]? = (rs[i]?).map fun k => if c.contains i = true then { k with need := [1], without := [1] } else k := by
  unfold gaveUp
  rw [List.getElem?_mapIdx]
theorem gave_len (rs : List Rule) (c : List Nat) : (gaveUp rs c).length = rs.length := by
  unfold gaveUp
  rw [List.length_mapIdx]
theorem may_gave (rs : List Rule) (c : List Nat) (s : Nat) (t : Step) : may (gaveUp rs c) s t = (may rs s t && !c.contains t.rule) := by
  unfold may
  rw [gave_at]
  cases e : rs[t.rule]? with
  | none => rfl
  | some k =>
    dsimp only [Option.map]
    cases h : c.contains t.rule with
    | false => simp
    | true =>
      simp only [if_true, Bool.not_true, Bool.and_false]
      rw [Bool.eq_false_iff]
      intro z
      simp at z
      rw [z.2.1] at z
      exact absurd z.2.2.1 (by simp)
theorem did_gave (rs : List Rule) (c : List Nat) (s : Nat) (t : Step) : did (gaveUp rs c) s t = did rs s t := by
  unfold did
  rw [gave_at]
  cases e : rs[t.rule]? with
  | none => rfl
  | some k =>
    dsimp only [Option.map]
    cases h : c.contains t.rule <;> simp
/-- the steps that are left -/
def left (c : List Nat) (all : List Step) : List Step := all.filter fun t => !c.contains t.rule
theorem grow1_gave (rs : List Rule) (c : List Nat) (x : Node) (Q : List Node) (t : Step) : grow1 (gaveUp rs c) x Q t = if (!c.contains t.rule) = true then grow1 rs x Q t else Q := by
  unfold grow1
  rw [may_gave, did_gave]
  cases h : c.contains t.rule with
  | false =>
    rw [Bool.not_false, Bool.and_true, if_pos rfl]
  | true => simp
theorem grow_gave (rs : List Rule) (c : List Nat) (x : Node) : ∀ (all : List Step) (Q : List Node), grow (gaveUp rs c) all x Q = grow rs (left c all) x Q
  | [], Q => rfl
  | t :: all, Q => by
    show grow (gaveUp rs c) all x (grow1 (gaveUp rs c) x Q t) = grow rs (left c (t :: all)) x Q
    rw [grow1_gave, grow_gave rs c x all]
    unfold left
    rw [List.filter_cons]
    split
    · rfl
    · rfl
theorem queue_gave (rs : List Rule) (c : List Nat) (all : List Step) (s : Nat) : ∀ n, queue (gaveUp rs c) all s n = queue rs (left c all) s n
  | 0 => rfl
  | n + 1 => by
    have ih := queue_gave rs c all s n
    cases h : (queue rs (left c all) s n)[n]? with
    | none => rw [queue_stop h, queue_stop (by rw [ih]; exact h), ih]
    | some x => rw [queue_next h, queue_next (by rw [ih]; exact h), ih, grow_gave]
theorem steps_gave (rs : List Rule) (c us : List Nat) : steps (gaveUp rs c) us = steps rs us := by
  unfold steps
  rw [gave_len]
theorem below_gave {rs : List Rule} {all : List Step} (h : Below rs all) (c : List Nat) : Below (gaveUp rs c) all := fun s hs t ht => by
  rw [did_gave]
  exact h s hs t ht
theorem below_left {rs : List Rule} {all : List Step} (h : Below rs all) (c : List Nat) : Below rs (left c all) := fun s hs t ht => h s hs t (List.mem_filter.mp ht).1
section
variable {rs : List Rule} {us c : List Nat} {s : Nat} {want : Nat → Bool}
theorem gave_found (hb : Below rs (steps rs us)) (hs : s < 4096) {n : Nat} {x : Node} (hx : (queue rs (left c (steps rs us)) s n)[n]? = some x) (hw : want x.1 = true) (hl : ∀ i y, i < n → (queue rs (left c (steps rs us)) s n)[i]? = some y → want y.1 = false) :
    plan (gaveUp rs c) us s want = some x.2 := by
  refine plan_found (all := steps rs us) (below_gave hb c) hs (steps_gave rs c us) (n := n) ?_ hw ?_
  · rw [queue_gave]; exact hx
  · rw [queue_gave]; exact hl
theorem gave_none (hb : Below rs (steps rs us)) (hs : s < 4096) {n : Nat} (hn : (queue rs (left c (steps rs us)) s n).length ≤ n) (hl : ∀ y ∈ queue rs (left c (steps rs us)) s n, want y.1 = false) :
    plan (gaveUp rs c) us s want = none := by
  refine plan_none (all := steps rs us) (below_gave hb c) hs (steps_gave rs c us) (n := n) ?_ ?_
  · rw [queue_gave]; exact hn
  · rw [queue_gave]; exact hl
/-- it is so already: nothing prevents it -/
theorem guard_never (hb : Below rs (steps rs us)) (hs : s < 4096) (hw : want s = true) : Wm04.guard rs us s want = none := by
  unfold Wm04.guard
  rw [List.find?_eq_none]
  intro c _
  have := gave_found (c := c) (want := want) hb hs (n := 0) (x := (s, [])) rfl hw (fun i _ h => absurd h (Nat.not_lt_zero i))
  rw [this]
  simp
theorem step_rule {rs : List Rule} {us : List Nat} {t : Step} (h : t ∈ steps rs us) : t.rule < rs.length := by
  unfold steps at h
  simp only [List.mem_flatMap, List.mem_map, List.mem_range] at h
  obtain ⟨k, hk, u, _, v, _, e⟩ := h
  rw [← e]
  exact hk
theorem left_all (rs : List Rule) (us : List Nat) : left (List.range rs.length) (steps rs us) = [] := by
  unfold left
  rw [List.filter_eq_nil_iff]
  intro t ht
  simp [step_rule ht]
theorem queue_none (rs : List Rule) (s : Nat) : queue rs [] s 1 = [(s, [])] := rfl
/-- all given up: then never, if it isn't so already -/
theorem gave_all (hb : Below rs (steps rs us)) (hs : s < 4096) (hw : want s = false) : plan (gaveUp rs (List.range rs.length)) us s want = none := by
  refine gave_none hb hs (n := 1) ?_ ?_
  · rw [left_all, queue_none]; exact Nat.le_refl _
  · rw [left_all, queue_none]
    intro y hy
    have e : y = (s, []) := by simpa using hy
    rw [e]; exact hw
end
end Wc

/-! The calls as they lie in the list. -/
namespace Wc
open Wm04
/-- a call's numbers -/
def enc : Call → List Nat
  | .set v r => 0 :: v :: r.length :: r
  | .give a b n r => 1 :: a :: b :: n :: r.length :: r
  | .take a r => [2, a, r]
  | .strike k => [3, k]
  | .actors r => 4 :: r.length :: r
  | .do_ k u v => [5, k, u, v]
  | .can v r => 6 :: v :: r.length :: r
  | .lose v r => [7, v, r]
  | .never r q => [8, r, q]
  | .guard v r => 9 :: v :: r.length :: r
  | .many => [10]
  | .roles v => [11, v]
  | .now => [12]
def ofN (l : List Nat) : List Int := l.map Int.ofNat
theorem nats {l : List Int} (h : l.all Wm04Neutral.nat = true) : ofN (l.map Int.toNat) = l := by
  rw [List.all_eq_true] at h
  unfold ofN
  rw [List.map_map]
  conv => rhs; rw [← List.map_id l]
  refine List.map_congr_left fun x hx => ?_
  have := h x hx
  unfold Wm04Neutral.nat at this
  simp at this
  show Int.ofNat x.toNat = x
  exact Int.toNat_of_nonneg this.1
theorem call0 {shape : Int → Option (Nat × Nat)} {n : Nat} {p : Int} {r : List Int} {c : List (List Int)} {t : List Int} (hs : shape p = some (n, 0)) (h : PyFlat.call shape (p :: r) = some (c, t)) : n ≤ r.length ∧ c = [p :: r.take n] ∧ t = r.drop n := by
  unfold PyFlat.call at h
  dsimp only at h
  rw [hs] at h
  dsimp only at h
  by_cases hl : r.length < n
  · rw [if_pos hl] at h; cases h
  · rw [if_neg hl] at h
    unfold PyFlat.rows at h
    dsimp only at h
    cases h
    exact ⟨by omega, rfl, rfl⟩
theorem call1 {shape : Int → Option (Nat × Nat)} {n : Nat} {p : Int} {r : List Int} {c : List (List Int)} {t : List Int} (hs : shape p = some (n, 1)) (h : PyFlat.call shape (p :: r) = some (c, t)) :
    n ≤ r.length ∧ ∃ m rest, r.drop n = m :: rest ∧ 0 ≤ m ∧ m.toNat ≤ rest.length ∧ c = [p :: r.take n, rest.take m.toNat] ∧ t = rest.drop m.toNat := by
  unfold PyFlat.call at h
  dsimp only at h
  rw [hs] at h
  dsimp only at h
  by_cases hl : r.length < n
  · rw [if_pos hl] at h; cases h
  · rw [if_neg hl] at h
    refine ⟨by omega, ?_⟩
    unfold PyFlat.rows at h
    cases e : r.drop n with
    | nil => rw [e] at h; simp [PyFlat.row] at h
    | cons m rest =>
      rw [e] at h
      unfold PyFlat.row at h
      dsimp only at h
      by_cases c : 0 ≤ m ∧ m.toNat ≤ rest.length
      · rw [if_pos c] at h
        dsimp only at h
        unfold PyFlat.rows at h
        cases h
        exact ⟨m, rest, rfl, c.1, c.2, rfl, rfl⟩
      · rw [if_neg c] at h; cases h
theorem ofN_append (a b : List Nat) : ofN (a ++ b) = ofN a ++ ofN b := List.map_append
/-- with a row -/
theorem lie1 {n : Nat} {p : Int} {r : List Int} {m : Int} {rest : List Int} (hd : r.drop n = m :: rest) (hm : 0 ≤ m) (hl : m.toNat ≤ rest.length) :
    p :: r = p :: r.take n ++ (((rest.take m.toNat).length : Nat) : Int) :: rest.take m.toNat ++ rest.drop m.toNat := by
  have e1 : r = r.take n ++ (m :: rest) := by rw [← hd, List.take_append_drop]
  have e2 : (((rest.take m.toNat).length : Nat) : Int) = m := by
    rw [List.length_take, Nat.min_eq_left hl]
    exact Int.toNat_of_nonneg hm
  have e3 : rest = rest.take m.toNat ++ rest.drop m.toNat := (List.take_append_drop _ _).symm
  rw [e2]
  conv => lhs; rw [e1, e3]
  simp
theorem take_one {r : List Int} (h : 1 ≤ r.length) : ∃ x t, r = x :: t ∧ r.take 1 = [x] ∧ r.drop 1 = t := by
  cases r with
  | nil => simp at h
  | cons x t => exact ⟨x, t, rfl, rfl, rfl⟩
theorem take_two {r : List Int} (h : 2 ≤ r.length) : ∃ x y t, r = x :: y :: t ∧ r.take 2 = [x, y] ∧ r.drop 2 = t := by
  match r, h with
  | x :: y :: t, _ => exact ⟨x, y, t, rfl, rfl, rfl⟩
theorem take_three {r : List Int} (h : 3 ≤ r.length) : ∃ x y z t, r = x :: y :: z :: t ∧ r.take 3 = [x, y, z] ∧ r.drop 3 = t := by
  match r, h with
  | x :: y :: z :: t, _ => exact ⟨x, y, z, t, rfl, rfl, rfl⟩
theorem callOf_some {l : List Int} {x : Call} (h : Wm04Neutral.callOf l = some x) : l.all Wm04Neutral.nat = true ∧ Wm04Neutral.callIn (l.map Int.toNat) = some x := by
  unfold Wm04Neutral.callOf at h
  cases e : l.all Wm04Neutral.nat with
  | false => rw [e, if_pos rfl] at h; cases h
  | true => rw [e, if_neg (by simp)] at h; exact ⟨rfl, h⟩
theorem nat_of {x : Int} (h : Wm04Neutral.nat x = true) : Int.ofNat x.toNat = x := by
  unfold Wm04Neutral.nat at h
  simp at h
  exact Int.toNat_of_nonneg h.1
/-- **the call that is told lies there in its numbers** -/
theorem lies {l : List Int} {c : List (List Int)} {t : List Int} {x : Call} (h : PyFlat.call PyWm04.shape l = some (c, t)) (hx : Wm04Neutral.callOf ((PyWm04.whole c).headD []) = some x) : l = ofN (enc x) ++ t := by
  cases l with
  | nil => cases h
  | cons p r =>
    have hp : p = 0 ∨ p = 1 ∨ p = 2 ∨ p = 3 ∨ p = 4 ∨ p = 5 ∨ p = 6 ∨ p = 7 ∨ p = 8 ∨ p = 9 ∨ p = 10 ∨ p = 11 ∨ p = 12 := by
      by_cases h0 : p = 0; · exact .inl h0
      by_cases h1 : p = 1; · exact .inr (.inl h1)
      by_cases h2 : p = 2; · exact .inr (.inr (.inl h2))
      by_cases h3 : p = 3; · exact .inr (.inr (.inr (.inl h3)))
      by_cases h4 : p = 4; · exact .inr (.inr (.inr (.inr (.inl h4))))
      by_cases h5 : p = 5; · exact .inr (.inr (.inr (.inr (.inr (.inl h5)))))
      by_cases h6 : p = 6; · exact .inr (.inr (.inr (.inr (.inr (.inr (.inl h6))))))
      by_cases h7 : p = 7; · exact .inr (.inr (.inr (.inr (.inr (.inr (.inr (.inl h7)))))))
      by_cases h8 : p = 8; · exact .inr (.inr (.inr (.inr (.inr (.inr (.inr (.inr (.inl h8))))))))
      by_cases h9 : p = 9; · exact .inr (.inr (.inr (.inr (.inr (.inr (.inr (.inr (.inr (.inl h9)))))))))
      by_cases h10 : p = 10; · exact .inr (.inr (.inr (.inr (.inr (.inr (.inr (.inr (.inr (.inr (.inl h10))))))))))
      by_cases h11 : p = 11; · exact .inr (.inr (.inr (.inr (.inr (.inr (.inr (.inr (.inr (.inr (.inr (.inl h11)))))))))))
      by_cases h12 : p = 12; · exact .inr (.inr (.inr (.inr (.inr (.inr (.inr (.inr (.inr (.inr (.inr (.inr h12)))))))))))
      have : PyWm04.shape p = none := by unfold PyWm04.shape; rw [if_neg h0, if_neg h1, if_neg h2, if_neg h3, if_neg h4, if_neg h5, if_neg h6, if_neg h7, if_neg h8, if_neg h9, if_neg h10, if_neg h11, if_neg h12]
      unfold PyFlat.call at h
      dsimp only at h
      rw [this] at h
      cases h
    -- a call of one number and a row
    have row1 : ∀ {q : Int}, p = q → PyWm04.shape q = some (1, 1) → ∃ x0 row, c = [[q, x0], row] ∧ p :: r = q :: x0 :: ((row.length : Nat) : Int) :: row ++ t := fun {q} hq hs => by
      subst hq
      obtain ⟨hn, m, rest, hd, hm, hl, hc, ht⟩ := call1 hs h
      obtain ⟨x0, t0, e1, e2, e3⟩ := take_one hn
      refine ⟨x0, rest.take m.toNat, by rw [hc, e2], ?_⟩
      have q2 := lie1 (p := p) hd hm hl
      rw [e2, ← ht] at q2
      exact q2
    have nat1 : ∀ {k : Nat} {x0 : Int} {row : List Int}, ([(k : Int), x0] ++ row).all Wm04Neutral.nat = true → (k : Int) :: x0 :: ((row.length : Nat) : Int) :: row ++ t = ofN (k :: x0.toNat :: (row.map Int.toNat).length :: row.map Int.toNat) ++ t := fun {k x0 row} ha => by
      rw [List.all_append, Bool.and_eq_true] at ha
      have h2 := nats ha.2
      have h1 : Wm04Neutral.nat x0 = true := by
        have := ha.1
        simp at this
        exact this.2
      show (k : Int) :: x0 :: ((row.length : Nat) : Int) :: row ++ t = (Int.ofNat k :: Int.ofNat x0.toNat :: Int.ofNat (row.map Int.toNat).length :: ofN (row.map Int.toNat)) ++ t
      rw [h2, nat_of h1, List.length_map]
      rfl
    rcases hp with hp | hp | hp | hp | hp | hp | hp | hp | hp | hp | hp | hp | hp
    · obtain ⟨x0, row, hc, hl⟩ := row1 hp rfl
      rw [hl]
      rw [hc] at hx
      obtain ⟨ha, hi⟩ := callOf_some (l := [0, x0] ++ row) hx
      refine (nat1 (k := 0) ha).trans ?_
      cases hi
      rfl
    · subst hp
      obtain ⟨hn, m, rest, hd, hm, hl, hc, ht⟩ := call1 (n := 3) rfl h
      obtain ⟨x0, x1, x2, t0, e1, e2, e3⟩ := take_three hn
      have q2 := lie1 (p := 1) hd hm hl
      rw [e2, ← ht] at q2
      rw [hc, e2] at hx
      obtain ⟨ha, hi⟩ := callOf_some (l := [1, x0, x1, x2] ++ rest.take m.toNat) hx
      rw [q2]
      rw [List.all_append, Bool.and_eq_true] at ha
      have h2 := nats ha.2
      have h1 := ha.1
      simp at h1
      cases hi
      show _ = (Int.ofNat 1 :: Int.ofNat x0.toNat :: Int.ofNat x1.toNat :: Int.ofNat x2.toNat :: Int.ofNat ((rest.take m.toNat).map Int.toNat).length :: ofN ((rest.take m.toNat).map Int.toNat)) ++ t
      rw [h2, nat_of h1.2.1, nat_of h1.2.2.1, nat_of h1.2.2.2, List.length_map]
      rfl
    · subst hp
      obtain ⟨hn, hc, ht⟩ := call0 (n := 2) rfl h
      obtain ⟨x0, x1, t0, e1, e2, e3⟩ := take_two hn
      rw [hc, e2] at hx
      obtain ⟨ha, hi⟩ := callOf_some (l := [2, x0, x1]) hx
      simp at ha
      cases hi
      rw [e1, ht, e3]
      show _ = (Int.ofNat 2 :: Int.ofNat x0.toNat :: Int.ofNat x1.toNat :: []) ++ t0
      rw [nat_of ha.2.1, nat_of ha.2.2]
      rfl
    · subst hp
      obtain ⟨hn, hc, ht⟩ := call0 (n := 1) rfl h
      obtain ⟨x0, t0, e1, e2, e3⟩ := take_one hn
      rw [hc, e2] at hx
      obtain ⟨ha, hi⟩ := callOf_some (l := [3, x0]) hx
      simp at ha
      cases hi
      rw [e1, ht, e3]
      show _ = (Int.ofNat 3 :: Int.ofNat x0.toNat :: []) ++ t0
      rw [nat_of ha.2]
      rfl
    · subst hp
      obtain ⟨hn, m, rest, hd, hm, hl, hc, ht⟩ := call1 (n := 0) rfl h
      have q2 := lie1 (p := 4) hd hm hl
      rw [List.take_zero, ← ht] at q2
      rw [hc, List.take_zero] at hx
      obtain ⟨ha, hi⟩ := callOf_some (l := [4] ++ rest.take m.toNat) hx
      rw [q2]
      rw [List.all_append, Bool.and_eq_true] at ha
      have h2 := nats ha.2
      cases hi
      show _ = (Int.ofNat 4 :: Int.ofNat ((rest.take m.toNat).map Int.toNat).length :: ofN ((rest.take m.toNat).map Int.toNat)) ++ t
      rw [h2, List.length_map]
      rfl
    · subst hp
      obtain ⟨hn, hc, ht⟩ := call0 (n := 3) rfl h
      obtain ⟨x0, x1, x2, t0, e1, e2, e3⟩ := take_three hn
      rw [hc, e2] at hx
      obtain ⟨ha, hi⟩ := callOf_some (l := [5, x0, x1, x2]) hx
      simp at ha
      cases hi
      rw [e1, ht, e3]
      show _ = (Int.ofNat 5 :: Int.ofNat x0.toNat :: Int.ofNat x1.toNat :: Int.ofNat x2.toNat :: []) ++ t0
      rw [nat_of ha.2.1, nat_of ha.2.2.1, nat_of ha.2.2.2]
      rfl
    · obtain ⟨x0, row, hc, hl⟩ := row1 hp rfl
      rw [hl]
      rw [hc] at hx
      obtain ⟨ha, hi⟩ := callOf_some (l := [6, x0] ++ row) hx
      refine (nat1 (k := 6) ha).trans ?_
      cases hi
      rfl
    · subst hp
      obtain ⟨hn, hc, ht⟩ := call0 (n := 2) rfl h
      obtain ⟨x0, x1, t0, e1, e2, e3⟩ := take_two hn
      rw [hc, e2] at hx
      obtain ⟨ha, hi⟩ := callOf_some (l := [7, x0, x1]) hx
      simp at ha
      cases hi
      rw [e1, ht, e3]
      show _ = (Int.ofNat 7 :: Int.ofNat x0.toNat :: Int.ofNat x1.toNat :: []) ++ t0
      rw [nat_of ha.2.1, nat_of ha.2.2]
      rfl
    · subst hp
      obtain ⟨hn, hc, ht⟩ := call0 (n := 2) rfl h
      obtain ⟨x0, x1, t0, e1, e2, e3⟩ := take_two hn
      rw [hc, e2] at hx
      obtain ⟨ha, hi⟩ := callOf_some (l := [8, x0, x1]) hx
      simp at ha
      cases hi
      rw [e1, ht, e3]
      show _ = (Int.ofNat 8 :: Int.ofNat x0.toNat :: Int.ofNat x1.toNat :: []) ++ t0
      rw [nat_of ha.2.1, nat_of ha.2.2]
      rfl
    · obtain ⟨x0, row, hc, hl⟩ := row1 hp rfl
      rw [hl]
      rw [hc] at hx
      obtain ⟨ha, hi⟩ := callOf_some (l := [9, x0] ++ row) hx
      refine (nat1 (k := 9) ha).trans ?_
      cases hi
      rfl
    · subst hp
      obtain ⟨hn, hc, ht⟩ := call0 (n := 0) rfl h
      rw [hc] at hx
      obtain ⟨ha, hi⟩ := callOf_some (l := [10]) hx
      cases hi
      rw [ht]
      rfl
    · subst hp
      obtain ⟨hn, hc, ht⟩ := call0 (n := 1) rfl h
      obtain ⟨x0, t0, e1, e2, e3⟩ := take_one hn
      rw [hc, e2] at hx
      obtain ⟨ha, hi⟩ := callOf_some (l := [11, x0]) hx
      simp at ha
      cases hi
      rw [e1, ht, e3]
      show _ = (Int.ofNat 11 :: Int.ofNat x0.toNat :: []) ++ t0
      rw [nat_of ha.2]
      rfl
    · subst hp
      obtain ⟨hn, hc, ht⟩ := call0 (n := 0) rfl h
      rw [hc] at hx
      obtain ⟨ha, hi⟩ := callOf_some (l := [12]) hx
      cases hi
      rw [ht]
      rfl
end Wc

/-! Moves: by a rule to a user, whichever of the actors does it. -/
namespace Wc
open Wm04
/-- the first of these users who may act by the rule k -/
def doer (rs : List Rule) (us : List Nat) (s k : Nat) : Option Nat := match rs[k]? with
  | none => none
  | some r => us.find? fun u => has s u r.by_
/-- the steps by some of the rules; the moves by them -/
def blk (k u : Nat) : List Step := [⟨k, u, 1⟩, ⟨k, u, 2⟩, ⟨k, u, 3⟩]
def stepsK (ks us : List Nat) : List Step := ks.flatMap fun k => us.flatMap fun u => blk k u
def mvs (k : Nat) : List (Nat × Nat) := [(k, 1), (k, 2), (k, 3)]
def movesK (ks : List Nat) : List (Nat × Nat) := ks.flatMap mvs
def moved (rs : List Rule) (us : List Nat) (x : Node) (Q : List Node) (m : Nat × Nat) : List Node := match doer rs us x.1 m.1 with
  | none => Q
  | some u => grow1 rs x Q ⟨m.1, u, m.2⟩
theorem steps_eq (rs : List Rule) (us : List Nat) : steps rs us = stepsK (List.range rs.length) us := rfl
section
variable {rs : List Rule} {us : List Nat} {x : Node}
theorem grow_app (a b : List Step) (Q : List Node) : grow rs (a ++ b) x Q = grow rs b x (grow rs a x Q) := by
  unfold grow
  rw [List.foldl_append]
theorem grow1_id {Q : List Node} {t : Step} (h : may rs x.1 t = true → did rs x.1 t ∈ Q.map (·.1)) : grow1 rs x Q t = Q := by
  unfold grow1
  rw [if_neg (fun z => z.2 (h z.1))]
theorem grow_id : ∀ {l : List Step} {Q : List Node}, (∀ t ∈ l, may rs x.1 t = true → did rs x.1 t ∈ Q.map (·.1)) → grow rs l x Q = Q
  | [], _, _ => rfl
  | t :: l, Q, h => by
    show grow rs l x (grow1 rs x Q t) = Q
    rw [grow1_id (h t (List.mem_cons_self ..))]
    exact grow_id fun u hu => h u (List.mem_cons_of_mem _ hu)
theorem grow1_has {Q : List Node} {t : Step} (h : may rs x.1 t = true) : did rs x.1 t ∈ (grow1 rs x Q t).map (·.1) := by
  unfold grow1
  by_cases c : did rs x.1 t ∈ Q.map (·.1)
  · rw [if_neg (fun z => z.2 c)]; exact c
  · rw [if_pos ⟨h, c⟩, List.map_append]
    exact List.mem_append_right _ (by simp)
theorem grow_keeps {l : List Step} {Q : List Node} {n : Nat} (h : n ∈ Q.map (·.1)) : n ∈ (grow rs l x Q).map (·.1) := by
  obtain ⟨m, e⟩ := grow_pre (rs := rs) x l Q
  rw [e, List.map_append]
  exact List.mem_append_left _ h
theorem grow_has : ∀ {l : List Step} {Q : List Node} {t : Step}, t ∈ l → may rs x.1 t = true → did rs x.1 t ∈ (grow rs l x Q).map (·.1)
  | u :: l, Q, t, ht, hm => by
    show _ ∈ (grow rs l x (grow1 rs x Q u)).map (·.1)
    rcases List.mem_cons.mp ht with e | e
    · subst e; exact grow_keeps (grow1_has hm)
    · exact grow_has e hm
/-- whoever does it, it comes to the same -/
theorem did_who (s k u u' v : Nat) : did rs s ⟨k, u, v⟩ = did rs s ⟨k, u', v⟩ := rfl
theorem may_who {s k u u' v : Nat} {r : Rule} (hk : rs[k]? = some r) (hu : has s u r.by_ = true) (h : may rs s ⟨k, u', v⟩ = true) : may rs s ⟨k, u, v⟩ = true := by
  unfold may at h ⊢
  simp only [hk, Bool.and_eq_true] at h ⊢
  exact ⟨hu, h.2⟩
theorem may_has {s k u v : Nat} {r : Rule} (hk : rs[k]? = some r) (hu : has s u r.by_ = false) : may rs s ⟨k, u, v⟩ = false := by
  unfold may
  simp only [hk, hu, Bool.false_and]
theorem may_no {s k u v : Nat} (hk : rs[k]? = none) : may rs s ⟨k, u, v⟩ = false := by
  unfold may
  simp only [hk]
theorem blk_mem {k u : Nat} {t : Step} (h : t ∈ blk k u) : ∃ v, t = ⟨k, u, v⟩ ∧ (v = 1 ∨ v = 2 ∨ v = 3) := by
  unfold blk at h
  simp only [List.mem_cons, List.not_mem_nil, or_false] at h
  rcases h with h | h | h
  · exact ⟨1, h, .inl rfl⟩
  · exact ⟨2, h, .inr (.inl rfl)⟩
  · exact ⟨3, h, .inr (.inr rfl)⟩
theorem blk_in {k u v : Nat} (h : v = 1 ∨ v = 2 ∨ v = 3) : (⟨k, u, v⟩ : Step) ∈ blk k u := by
  unfold blk
  rcases h with h | h | h <;> subst h <;> simp
theorem grow_rule (k : Nat) : ∀ (us : List Nat) (Q : List Node), grow rs (us.flatMap fun u => blk k u) x Q = (mvs k).foldl (moved rs us x) Q
  | [], Q => by
    have e : ∀ m Q, moved rs [] x Q m = Q := fun m Q => by
      unfold moved doer
      cases rs[m.1]? <;> rfl
    unfold mvs
    simp only [List.foldl_cons, List.foldl_nil, e]
    rfl
  | u :: us, Q => by
    rw [List.flatMap_cons, grow_app]
    cases hk : rs[k]? with
    | none =>
      have e : ∀ m, m ∈ mvs k → ∀ Q, moved rs (u :: us) x Q m = Q := fun m hm Q => by
        have : m.1 = k := by unfold mvs at hm; simp at hm; rcases hm with h | h | h <;> rw [h]
        unfold moved doer
        rw [this, hk]
      unfold mvs at e ⊢
      simp only [List.foldl_cons, List.foldl_nil]
      rw [e _ (by simp), e _ (by simp), e _ (by simp)]
      have g0 : ∀ (l : List Step), (∀ t ∈ l, t.rule = k) → ∀ Q, grow rs l x Q = Q := fun l hl Q => grow_id fun t ht hm => by
        have : may rs x.1 t = false := by
          obtain ⟨a, b, c⟩ := t
          have : a = k := hl _ ht
          subst this
          exact may_no hk
        rw [this] at hm; cases hm
      have g1 : grow rs (blk k u) x Q = Q := g0 _ (fun t ht => by obtain ⟨v, e, _⟩ := blk_mem ht; rw [e]) Q
      rw [g1]
      exact g0 _ (fun t ht => by
        obtain ⟨a, _, hb⟩ := List.mem_flatMap.mp ht
        obtain ⟨v, e, _⟩ := blk_mem hb
        rw [e]) Q
    | some r =>
      cases hu : has x.1 u r.by_ with
      | false =>
        have e0 : grow rs (blk k u) x Q = Q := grow_id fun t ht hm => by
          obtain ⟨v, e, _⟩ := blk_mem ht
          rw [e, may_has hk hu] at hm
          cases hm
        rw [e0, grow_rule k us Q]
        have e : ∀ m, m ∈ mvs k → ∀ Q, moved rs us x Q m = moved rs (u :: us) x Q m := fun m hm Q => by
          have : m.1 = k := by unfold mvs at hm; simp at hm; rcases hm with h | h | h <;> rw [h]
          unfold moved doer
          rw [this, hk]
          dsimp only
          rw [List.find?_cons, hu]
        unfold mvs at e ⊢
        simp only [List.foldl_cons, List.foldl_nil]
        rw [e _ (by simp), e _ (by simp), e _ (by simp)]
      | true =>
        have e : ∀ m, m ∈ mvs k → ∀ Q, moved rs (u :: us) x Q m = grow1 rs x Q ⟨m.1, u, m.2⟩ := fun m hm Q => by
          have : m.1 = k := by unfold mvs at hm; simp at hm; rcases hm with h | h | h <;> rw [h]
          unfold moved doer
          rw [this, hk]
          dsimp only
          rw [List.find?_cons, hu]
        have e1 : (mvs k).foldl (moved rs (u :: us) x) Q = grow rs (blk k u) x Q := by
          unfold mvs at e ⊢
          simp only [List.foldl_cons, List.foldl_nil]
          rw [e _ (by simp), e _ (by simp), e _ (by simp)]
          rfl
        rw [e1]
        refine grow_id fun t ht hm => ?_
        obtain ⟨u', _, hb⟩ := List.mem_flatMap.mp ht
        obtain ⟨v, et, hv⟩ := blk_mem hb
        rw [et] at hm ⊢
        rw [did_who x.1 k u' u v]
        exact grow_has (blk_in hv) (may_who hk hu hm)
/-- **the search by moves is the search by steps** -/
theorem grow_moves : ∀ (ks : List Nat) (Q : List Node), grow rs (stepsK ks us) x Q = (movesK ks).foldl (moved rs us x) Q
  | [], Q => rfl
  | k :: ks, Q => by
    have e1 : stepsK (k :: ks) us = (us.flatMap fun u => blk k u) ++ stepsK ks us := rfl
    have e2 : movesK (k :: ks) = mvs k ++ movesK ks := rfl
    rw [e1, e2, grow_app, List.foldl_append, grow_rule, grow_moves ks]
end
theorem left_app (c : List Nat) (a b : List Step) : left c (a ++ b) = left c a ++ left c b := by
  unfold left
  rw [List.filter_append]
theorem left_keep {c : List Nat} {l : List Step} (h : ∀ t ∈ l, c.contains t.rule = false) : left c l = l := by
  unfold left
  rw [List.filter_eq_self]
  intro t ht
  rw [h t ht]
  rfl
theorem left_drop {c : List Nat} {l : List Step} (h : ∀ t ∈ l, c.contains t.rule = true) : left c l = [] := by
  unfold left
  rw [List.filter_eq_nil_iff]
  intro t ht
  rw [h t ht]
  decide
theorem left_steps (c us : List Nat) : ∀ ks : List Nat, left c (stepsK ks us) = stepsK (ks.filter fun k => !c.contains k) us
  | [] => rfl
  | k :: ks => by
    have e1 : stepsK (k :: ks) us = (us.flatMap fun u => blk k u) ++ stepsK ks us := rfl
    have hr : ∀ t ∈ us.flatMap fun u => blk k u, t.rule = k := fun t ht => by
      obtain ⟨u, _, hb⟩ := List.mem_flatMap.mp ht
      obtain ⟨v, e, _⟩ := blk_mem hb
      rw [e]
    rw [e1, left_app, left_steps c us ks, List.filter_cons]
    cases h : c.contains k with
    | false =>
      rw [left_keep fun t ht => by rw [hr t ht]; exact h]
      rfl
    | true =>
      rw [left_drop fun t ht => by rw [hr t ht]; exact h]
      rfl
/-! ### found, or never -/
def FirstIn (rs : List Rule) (all : List Step) (s : Nat) (want : Nat → Bool) (path : List Step) : Prop := ∃ (n : Nat) (x : Node), (queue rs all s n)[n]? = some x ∧ want x.1 = true ∧ (∀ i y, i < n → (queue rs all s n)[i]? = some y → want y.1 = false) ∧ path = x.2
def NoneIn (rs : List Rule) (all : List Step) (s : Nat) (want : Nat → Bool) : Prop := ∃ n, (queue rs all s n).length ≤ n ∧ ∀ y ∈ queue rs all s n, want y.1 = false
section
variable {rs : List Rule} {all : List Step} {s : Nat} {want : Nat → Bool}
theorem queue_held {n : Nat} (h : (queue rs all s n).length ≤ n) : ∀ k, queue rs all s (n + k) = queue rs all s n
  | 0 => rfl
  | k + 1 => by
    have ih := queue_held h k
    have : (queue rs all s (n + k))[n + k]? = none := by
      rw [ih]; exact List.getElem?_eq_none (by omega)
    rw [← Nat.add_assoc, queue_stop this, ih]
theorem first_or_none (hb : Below rs all) (hs : s < 4096) : (∃ path, FirstIn rs all s want path) ∨ NoneIn rs all s want := by
  have len := (queue_ok (s := s) hb hs 4096).len
  cases h : (queue rs all s 4096).find? (fun y => want y.1) with
  | none => exact .inr ⟨4096, len, fun y hy => by simpa using List.find?_eq_none.mp h y hy⟩
  | some x =>
    obtain ⟨hw, as, bs, e, hn⟩ := List.find?_eq_some_iff_append.mp h
    have hx : (queue rs all s 4096)[as.length]? = some x := by rw [e, List.getElem?_append_right (Nat.le_refl _)]; simp
    have ha : as.length < 4096 := by
      have := (List.getElem?_eq_some_iff.mp hx).1
      omega
    cases h2 : (queue rs all s as.length)[as.length]? with
    | none =>
      exfalso
      have h3 := queue_held (List.getElem?_eq_none_iff.mp h2) (4096 - as.length)
      have e3 : as.length + (4096 - as.length) = 4096 := by omega
      rw [e3] at h3
      rw [h3, h2] at hx
      cases hx
    | some y =>
      have hy := queue_at (rs := rs) (all := all) (s := s) (Nat.le_of_lt ha) h2
      rw [hx] at hy
      cases hy
      refine .inl ⟨x.2, as.length, x, h2, hw, fun i z hi hz => ?_, rfl⟩
      have hz2 := queue_at (rs := rs) (all := all) (s := s) (Nat.le_of_lt ha) hz
      rw [e, List.getElem?_append_left hi] at hz2
      simpa using hn z (List.mem_of_getElem? hz2)
/-- a row of steps that may be done, one behind another -/
def Leads (rs : List Rule) (all : List Step) : Nat → List Step → Nat → Prop
  | s, [], z => s = z
  | s, t :: p, z => t ∈ all ∧ may rs s t = true ∧ Leads rs all (did rs s t) p z
theorem Leads.snoc : ∀ {p : List Step} {s y : Nat} {t : Step}, Leads rs all s p y → t ∈ all → may rs y t = true → Leads rs all s (p ++ [t]) (did rs y t)
  | [], s, y, t, h, ht, hm => by
    have e : s = y := h
    subst e
    exact ⟨ht, hm, rfl⟩
  | u :: p, s, y, t, ⟨h1, h2, h3⟩, ht, hm => ⟨h1, h2, h3.snoc ht hm⟩
theorem grow1_leads {x : Node} {Q : List Node} {t : Step} (hQ : ∀ y ∈ Q, Leads rs all s y.2 y.1) (hx : Leads rs all s x.2 x.1) (ht : t ∈ all) : ∀ y ∈ grow1 rs x Q t, Leads rs all s y.2 y.1 := by
  unfold grow1
  split
  · rename_i c
    intro y hy
    rcases List.mem_append.mp hy with q | q
    · exact hQ y q
    · have e : y = (did rs x.1 t, x.2 ++ [t]) := by simpa using q
      rw [e]
      exact hx.snoc ht c.1
  · exact hQ
theorem grow_leads {x : Node} (hx : Leads rs all s x.2 x.1) : ∀ {l : List Step} {Q : List Node}, (∀ t ∈ l, t ∈ all) → (∀ y ∈ Q, Leads rs all s y.2 y.1) → ∀ y ∈ grow rs l x Q, Leads rs all s y.2 y.1
  | [], _, _, hQ => hQ
  | t :: l, Q, hl, hQ => grow_leads (l := l) hx (fun u hu => hl u (List.mem_cons_of_mem _ hu)) (grow1_leads hQ hx (hl t (List.mem_cons_self ..)))
theorem queue_leads : ∀ n, ∀ y ∈ queue rs all s n, Leads rs all s y.2 y.1
  | 0 => fun y hy => by
    have e : y = (s, []) := by simpa [queue] using hy
    rw [e]; rfl
  | n + 1 => by
    have ih := queue_leads n
    cases h : (queue rs all s n)[n]? with
    | none => rw [queue_stop h]; exact ih
    | some x => rw [queue_next h]; exact grow_leads (ih x (List.mem_of_getElem? h)) (fun _ h => h) ih
/-- what has been gone through is closed under the steps -/
theorem queue_closed : ∀ (n : Nat) (i : Nat) (y : Node), i < n → (queue rs all s n)[i]? = some y → ∀ t ∈ all, may rs y.1 t = true → did rs y.1 t ∈ (queue rs all s n).map (·.1)
  | 0, i, _, hi, _, _, _, _ => absurd hi (Nat.not_lt_zero i)
  | n + 1, i, y, hi, hy, t, ht, hm => by
    obtain ⟨m, e⟩ := queue_pre1 (rs := rs) (all := all) (s := s) n
    have up : ∀ z, z ∈ (queue rs all s n).map (·.1) → z ∈ (queue rs all s (n + 1)).map (·.1) := fun z hz => by
      rw [e, List.map_append]; exact List.mem_append_left _ hz
    by_cases c : i < n
    · have hy' : (queue rs all s n)[i]? = some y := by
        cases h2 : (queue rs all s n)[i]? with
        | some z =>
          have := queue_at (rs := rs) (all := all) (s := s) (Nat.le_succ n) h2
          rw [hy] at this
          exact this.symm
        | none =>
          exfalso
          have h4 := List.getElem?_eq_none_iff.mp h2
          have h5 : (queue rs all s n)[n]? = none := List.getElem?_eq_none (by omega)
          rw [queue_stop h5, h2] at hy
          cases hy
      exact up _ (queue_closed n i y c hy' t ht hm)
    · have ei : i = n := by omega
      subst ei
      cases h2 : (queue rs all s i)[i]? with
      | none =>
        exfalso
        rw [queue_stop h2, h2] at hy
        cases hy
      | some z =>
        have := queue_at (rs := rs) (all := all) (s := s) (Nat.le_succ i) h2
        rw [hy] at this
        cases this
        rw [queue_next h2]
        exact grow_has ht hm
theorem none_never (h : NoneIn rs all s want) : ∀ {p : List Step} {z : Nat}, Leads rs all s p z → want z = false := by
  obtain ⟨n, hn, hw⟩ := h
  have key : ∀ (p : List Step) (y z : Nat), y ∈ (queue rs all s n).map (·.1) → Leads rs all y p z → z ∈ (queue rs all s n).map (·.1) := by
    intro p
    induction p with
    | nil => intro y z hy e; have e : y = z := e; rw [← e]; exact hy
    | cons t p ih =>
      intro y z hy ⟨h1, h2, h3⟩
      refine ih _ z ?_ h3
      obtain ⟨x, hx, rfl⟩ := List.mem_map.mp hy
      obtain ⟨i, hi⟩ := List.mem_iff_getElem?.mp hx
      exact queue_closed n i x (Nat.lt_of_lt_of_le (List.getElem?_eq_some_iff.mp hi).1 hn) hi t h1 h2
  intro p z hp
  have h0 : s ∈ (queue rs all s n).map (·.1) := by
    have := queue_at (rs := rs) (all := all) (s := s) (n := 0) (k := n) (i := 0) (x := (s, [])) (Nat.zero_le _) rfl
    exact List.mem_map.mpr ⟨_, List.mem_of_getElem? this, rfl⟩
  obtain ⟨x, hx, rfl⟩ := List.mem_map.mp (key p s z h0 hp)
  exact hw x hx
end
/-! ### guard -/
section
variable {rs : List Rule} {us : List Nat} {s : Nat} {want : Nat → Bool}
def ruleOut (n : Nat) (c : List Nat) : List Nat := (List.range n).filter fun k => !c.contains k
theorem left_out (c : List Nat) : left c (steps rs us) = stepsK (ruleOut rs.length c) us := by
  rw [steps_eq, left_steps]
  rfl
theorem out_none (hb : Below rs (steps rs us)) (hs : s < 4096) {c : List Nat} (h : NoneIn rs (stepsK (ruleOut rs.length c) us) s want) : (plan (gaveUp rs c) us s want).isNone = true := by
  obtain ⟨n, h1, h2⟩ := h
  rw [← left_out] at h1 h2
  rw [gave_none hb hs h1 h2]
  rfl
theorem out_some (hb : Below rs (steps rs us)) (hs : s < 4096) {c : List Nat} {path : List Step} (h : FirstIn rs (stepsK (ruleOut rs.length c) us) s want path) : (plan (gaveUp rs c) us s want).isNone = false := by
  obtain ⟨n, x, h1, h2, h3, _⟩ := h
  rw [← left_out] at h1 h3
  rw [gave_found hb hs h1 h2 h3]
  rfl
/-- the rules of a plan -/
def Used (rs : List Rule) (us : List Nat) (s : Nat) (want : Nat → Bool) (l : List Nat) : Prop := ∃ (p : List Step) (z : Nat), Leads rs (steps rs us) s p z ∧ want z = true ∧ l = p.map (·.rule)
theorem used_of {c : List Nat} {path : List Step} (h : FirstIn rs (stepsK (ruleOut rs.length c) us) s want path) : Used rs us s want (path.map (·.rule)) := by
  obtain ⟨n, x, h1, h2, h3, rfl⟩ := h
  refine ⟨x.2, x.1, ?_, h2, rfl⟩
  have := queue_leads n x (List.mem_of_getElem? h1)
  rw [← left_out] at this
  have mono : ∀ (p : List Step) (a b : Nat), Leads rs (left c (steps rs us)) a p b → Leads rs (steps rs us) a p b := by
    intro p
    induction p with
    | nil => intro a b h; exact h
    | cons t p ih => intro a b ⟨g1, g2, g3⟩; exact ⟨(List.mem_filter.mp g1).1, g2, ih _ _ g3⟩
  exact mono _ _ _ this
/-- a plan that is left whole -/
theorem used_whole (hb : Below rs (steps rs us)) (hs : s < 4096) {c l : List Nat} (h : Used rs us s want l) (hc : ∀ k ∈ l, c.contains k = false) : (plan (gaveUp rs c) us s want).isNone = false := by
  obtain ⟨p, z, h1, h2, rfl⟩ := h
  have mono : ∀ (p : List Step) (a b : Nat), (∀ k ∈ p.map (·.rule), c.contains k = false) → Leads rs (steps rs us) a p b → Leads rs (stepsK (ruleOut rs.length c) us) a p b := by
    intro p
    induction p with
    | nil => intro a b _ h; exact h
    | cons t p ih =>
      intro a b hk ⟨g1, g2, g3⟩
      refine ⟨?_, g2, ih _ _ (fun k hk' => hk k (List.mem_cons_of_mem _ hk')) g3⟩
      rw [← left_out]
      refine List.mem_filter.mpr ⟨g1, ?_⟩
      rw [hk t.rule (List.mem_cons_self ..)]
      rfl
  have hb2 : Below rs (stepsK (ruleOut rs.length c) us) := by
    rw [← left_out]
    exact below_left hb c
  rcases first_or_none (want := want) hb2 hs with ⟨path, q⟩ | q
  · exact out_some hb hs q
  · have := none_never q (mono p s z hc h1)
    rw [this] at h2
    cases h2
def guardRows (n : Nat) : List (List Nat) := (List.range (n + 1)).flatMap fun k => choices k (List.range n)
theorem guard_eq : Wm04.guard rs us s want = (guardRows rs.length).find? fun c => (plan (gaveUp rs c) us s want).isNone := rfl
theorem choices_all {α : Type} : ∀ l : List α, choices l.length l = [l]
  | [] => rfl
  | x :: l => by
    have h0 : ∀ (l : List α) (k : Nat), l.length < k → choices k l = [] := by
      intro l
      induction l with
      | nil => intro k hk; cases k with | zero => simp at hk | succ k => rfl
      | cons y l ih =>
        intro k hk
        cases k with
        | zero => simp at hk
        | succ k =>
          simp at hk
          show (choices k l).map _ ++ choices (k + 1) l = []
          rw [ih k hk, ih (k + 1) (by omega)]
          rfl
    show (choices l.length l).map _ ++ choices (l.length + 1) l = _
    rw [choices_all l, h0 l _ (by omega)]
    rfl
theorem guardRows_last (n : Nat) : ∃ pre, guardRows n = pre ++ [List.range n] := by
  unfold guardRows
  rw [List.range_succ, List.flatMap_append]
  refine ⟨_, congrArg _ ?_⟩
  have := choices_all (List.range n)
  rw [List.length_range] at this
  simp [this]
end
end Wc

/-! The masks of a move. -/
namespace Wc
open Wm04
structure Mv where
  entitled : Nat
  present : Nat
  absent : Nat
  change : Nat
def titled (by_ : Nat) (us : List Nat) : Nat := (us.map fun u => 2 ^ place u by_).sum
def mv (k : Rule) (us : List Nat) (v : Nat) : Mv :=
  if k.gives = true then ⟨titled k.by_ us, mask v k.need, mask v k.without ||| 2 ^ place v k.role, 2 ^ place v k.role⟩
  else ⟨titled k.by_ us, mask v k.need ||| 2 ^ place v k.role, mask v k.without, 2 ^ place v k.role⟩
def Mv.may (m : Mv) (s : Nat) : Bool := if decide (s &&& m.entitled = 0) || !decide (s &&& m.absent = 0) then false else decide (s &&& m.present = m.present)
theorem titled_bits {b : Nat} (hb : Role b) : ∀ {us : List Nat}, us.Nodup → (∀ u ∈ us, User u) → titled b us < 4096 ∧ ∀ i, (titled b us).testBit i = us.any fun u => decide (place u b = i)
  | [], _, _ => ⟨by simp [titled], fun i => by simp [titled]⟩
  | u :: us, nd, hu => by
    obtain ⟨n1, n2⟩ := List.nodup_cons.mp nd
    obtain ⟨h1, h2⟩ := titled_bits hb n2 fun x hx => hu x (List.mem_cons_of_mem _ hx)
    have hU := hu u (List.mem_cons_self ..)
    have pl := place_lt hU hb
    have off : (titled b us).testBit (place u b) = false := by
      rw [h2, List.any_eq_false]
      intro x hx e
      have e : place x b = place u b := by simpa using e
      have := (place_inj (hu x (List.mem_cons_of_mem _ hx)) hb hU hb e).1
      subst this
      exact n1 hx
    obtain ⟨_, e2, e3⟩ := bits_off h1 pl off
    have es : titled b (u :: us) = titled b us + 2 ^ place u b := by
      unfold titled
      rw [List.map_cons, List.sum_cons, Nat.add_comm]
    rw [es]
    refine ⟨e3, fun i => ?_⟩
    rw [e2, Nat.testBit_or, h2, Nat.testBit_two_pow, List.any_cons, Bool.or_comm]
theorem titled_none {b s : Nat} {us : List Nat} (hb : Role b) (nd : us.Nodup) (hu : ∀ u ∈ us, User u) : decide (s &&& titled b us = 0) = us.all fun u => !has s u b := by
  obtain ⟨_, h2⟩ := titled_bits hb nd hu
  rw [Bool.eq_iff_iff, decide_eq_true_iff, and_none, List.all_eq_true]
  constructor
  · intro h u hx
    rw [has_eq, h (place u b) (by rw [h2, List.any_eq_true]; exact ⟨u, hx, by simp⟩)]
    rfl
  · intro h i hi
    rw [h2, List.any_eq_true] at hi
    obtain ⟨u, hx, e⟩ := hi
    have e : place u b = i := by simpa using e
    subst e
    have := h u hx
    rw [has_eq] at this
    simpa using this
theorem mv_change (k : Rule) (us : List Nat) (v : Nat) : (mv k us v).change = 2 ^ place v k.role := by
  unfold mv
  split <;> rfl
theorem mv_entitled (k : Rule) (us : List Nat) (v : Nat) : (mv k us v).entitled = titled k.by_ us := by
  unfold mv
  split <;> rfl
/-- **a move may be done just if the first who has the role may do it** -/
theorem mv_may {rs : List Rule} {k : Nat} {rule : Rule} (hk : rs[k]? = some rule) (hb : Role rule.by_) {us : List Nat} (nd : us.Nodup) (hu : ∀ u ∈ us, User u) (s v : Nat) :
    (mv rule us v).may s = match doer rs us s k with
      | none => false
      | some u => may rs s ⟨k, u, v⟩ := by
  unfold Mv.may
  rw [mv_entitled, titled_none hb nd hu]
  unfold doer
  rw [hk]
  dsimp only
  cases hf : us.find? (fun u => has s u rule.by_) with
  | none =>
    have : (us.all fun u => !has s u rule.by_) = true := by
      rw [List.all_eq_true]
      intro u hx
      have := List.find?_eq_none.mp hf u hx
      simpa using this
    rw [this]
    rfl
  | some u =>
    have h1 := List.find?_some hf
    have h2 := List.mem_of_find?_eq_some hf
    have : (us.all fun u => !has s u rule.by_) = false := by
      rw [List.all_eq_false]
      exact ⟨u, h2, by rw [h1]; decide⟩
    rw [this, Bool.false_or]
    dsimp only
    rw [← masks_may hk s u v]
    unfold Masks.may masks mv
    rw [Bool.eq_iff_iff]
    have hhas : s.testBit (place u rule.by_) = true := by rw [← has_eq]; exact h1
    cases g : rule.gives with
    | true =>
      simp only [if_true, Bool.and_eq_true, decide_eq_true_eq]
      constructor
      · intro h
        by_cases c : s &&& (mask v rule.without ||| 2 ^ place v rule.role) = 0
        · rw [if_neg (by rw [decide_eq_true c]; decide)] at h
          refine ⟨?_, c⟩
          rw [and_all, or_all, one_all]
          exact ⟨hhas, and_all.mp (by simpa using h)⟩
        · rw [if_pos (by rw [decide_eq_false c]; decide)] at h
          cases h
      · rintro ⟨h, c⟩
        rw [if_neg (by rw [decide_eq_true c]; decide)]
        rw [and_all, or_all] at h
        exact decide_eq_true (and_all.mpr h.2)
    | false =>
      simp only [Bool.false_eq_true, if_false, Bool.and_eq_true, decide_eq_true_eq]
      constructor
      · intro h
        by_cases c : s &&& mask v rule.without = 0
        · rw [if_neg (by rw [decide_eq_true c]; decide)] at h
          refine ⟨?_, c⟩
          have h' := and_all.mp (show s &&& (mask v rule.need ||| 2 ^ place v rule.role) = (mask v rule.need ||| 2 ^ place v rule.role) by simpa using h)
          rw [or_all] at h'
          rw [and_all, or_all, or_all, one_all]
          exact ⟨⟨hhas, h'.1⟩, h'.2⟩
        · rw [if_pos (by rw [decide_eq_false c]; decide)] at h
          cases h
      · rintro ⟨h, c⟩
        rw [if_neg (by rw [decide_eq_true c]; decide)]
        rw [and_all, or_all, or_all] at h
        exact decide_eq_true (and_all.mpr (or_all.mpr ⟨h.1.2, h.2⟩))
theorem mv_did {rs : List Rule} {k : Nat} {rule : Rule} (hk : rs[k]? = some rule) {us : List Nat} {s u v : Nat} (hs : s < 4096) (hv : User v) (hr : Role rule.role) (hm : may rs s ⟨k, u, v⟩ = true) :
    did rs s ⟨k, u, v⟩ = s ^^^ (mv rule us v).change := by
  rw [masks_did hk hs hv hr hm, masks_change, mv_change]
theorem doer_role {rs : List Rule} {us : List Nat} {s k u : Nat} {rule : Rule} (hk : rs[k]? = some rule) (h : doer rs us s k = some u) : us.filter (fun u => has s u rule.by_) ≠ [] ∧ (us.filter fun u => has s u rule.by_)[0]? = some u ∧ u ∈ us := by
  unfold doer at h
  rw [hk] at h
  dsimp only at h
  have e : (us.filter fun u => has s u rule.by_)[0]? = some u := by
    rw [← List.head?_eq_getElem?, List.head?_filter]
    exact h
  exact ⟨fun z => (by rw [z] at e; simp at e), e, List.mem_of_find?_eq_some h⟩
end Wc

/-! The rows of rules in their order. -/
namespace Wc
open PySem PySem.W PyProof.Rows
/-- the rows as they are made: by each number, those so far and those with it -/
def rowsOf : Nat → List (List Nat)
  | 0 => [[]]
  | n + 1 => rowsOf n ++ (rowsOf n).map fun l => l ++ [n]
def keyOf (l : List Nat) : PyData := .tuple [.int l.length, .list (l.map fun (n : Nat) => PyData.int n)]
def lexN : List Nat → List Nat → Bool
  | [], [] => false
  | [], _ :: _ => true
  | _ :: _, [] => false
  | a :: l, b :: m => if a = b then lexN l m else decide (a < b)
def rowLt (l m : List Nat) : Bool := if l.length = m.length then lexN l m else decide (l.length < m.length)
theorem lexN_irr : ∀ l, lexN l l = false
  | [] => rfl
  | a :: l => by unfold lexN; rw [if_pos rfl, lexN_irr l]
theorem eqvAll_ints : ∀ (l m : List Nat), PyData.eqvAll (l.map fun (n : Nat) => PyData.int n) (m.map fun (n : Nat) => PyData.int n) = true → l = m
  | [], [], _ => rfl
  | [], _ :: _, h => by simp [PyData.eqvAll] at h
  | _ :: _, [], h => by simp [PyData.eqvAll] at h
  | a :: l, b :: m, h => by
    rw [List.map_cons, List.map_cons, PyData.eqvAll, Bool.and_eq_true] at h
    have h1 : (a : Int) = (b : Int) := by simpa [PyData.eqv] using h.1
    rw [eqvAll_ints l m h.2]
    have : a = b := by omega
    rw [this]
theorem alike_ns : ∀ l m : List Nat, alikeAll (l.map fun (n : Nat) => PyData.int n) (m.map fun (n : Nat) => PyData.int n) = true
  | [], _ => by simp [alikeAll]
  | _ :: _, [] => by simp [alikeAll]
  | a :: l, b :: m => by
    rw [List.map_cons, List.map_cons, alikeAll, alike_ns l m]
    simp [alike]
theorem lex_ns : ∀ l m : List Nat, lexLt itemOrd (keyToksAll (l.map fun (n : Nat) => PyData.int n)) (keyToksAll (m.map fun (n : Nat) => PyData.int n)) = lexN l m
  | [], [] => lex_irrefl _
  | [], b :: m => by
    rw [List.map_cons, List.map_nil, keyToksAll, keyToksAll]
    exact (lex_atom (by intro z; cases z) _ _).trans (lex_one _ _)
  | a :: l, [] => by
    rw [List.map_cons, List.map_nil, keyToksAll, keyToksAll]
    exact (lex_atom (by intro z; cases z) _ _).trans (lex_one _ _)
  | a :: l, b :: m => by
    rw [List.map_cons, List.map_cons, dataLt_cons (by simp [alike]), lex_ns l m, dataLt_int]
    show _ = if a = b then lexN l m else decide (a < b)
    by_cases e : a = b
    · subst e
      rw [if_pos rfl, if_pos (by simp [PyData.eqv])]
    · have e' : ¬ (a : Int) = (b : Int) := by omega
      rw [if_neg e, if_neg (by simp [PyData.eqv, e'])]
      by_cases h : a < b
      · rw [decide_eq_true h, decide_eq_true (by omega)]
      · rw [decide_eq_false h, decide_eq_false (by omega)]
theorem key_lt (l m : List Nat) : dataLt (keyOf l) (keyOf m) = rowLt l m := by
  unfold keyOf
  rw [dataLt_pair (by simp [alike]) (by rw [alike]; exact alike_ns l m), dataLt_int, dataLt_list, lex_ns]
  unfold rowLt
  by_cases e : l.length = m.length
  · rw [if_pos e, if_pos (by rw [e]; simp [PyData.eqv])]
    split
    · rename_i h
      have : l = m := eqvAll_ints l m (by simpa [PyData.eqv] using h)
      rw [this, lexN_irr]
    · rfl
  · have e' : ¬ ((l.length : Nat) : Int) = ((m.length : Nat) : Int) := by omega
    rw [if_neg e, if_neg (by simp only [PyData.eqv, beq_iff_eq]; exact e')]
    by_cases h : l.length < m.length
    · rw [decide_eq_true h, decide_eq_true (by omega)]
    · rw [decide_eq_false h, decide_eq_false (by omega)]
theorem key_le (l m : List Nat) : dataLe false keyOf l m = !rowLt m l := by
  rw [dataLe_eq]
  show (!dataLt (keyOf m) (keyOf l)) = _
  rw [key_lt]
def rowsB (n : Nat) : Bool := decide ((guardRows n).Perm (rowsOf n)) && (decide ((guardRows n).Pairwise fun a b => rowLt a b = true))
theorem rows_ok : (List.range 7).all rowsB = true := by decide +kernel
theorem lexN_asym : ∀ l m : List Nat, lexN l m = true → lexN m l = false
  | [], [], h => by cases h
  | [], _ :: _, _ => rfl
  | _ :: _, [], h => by cases h
  | a :: l, b :: m, h => by
    unfold lexN at h ⊢
    by_cases e : a = b
    · rw [if_pos e] at h
      rw [if_pos e.symm]
      exact lexN_asym l m h
    · rw [if_neg e] at h
      rw [if_neg (fun z => e z.symm)]
      have := of_decide_eq_true h
      exact decide_eq_false (by omega)
theorem rowLt_asym {l m : List Nat} (h : rowLt l m = true) : rowLt m l = false := by
  unfold rowLt at h ⊢
  by_cases e : l.length = m.length
  · rw [if_pos e] at h
    rw [if_pos e.symm]
    exact lexN_asym l m h
  · rw [if_neg e] at h
    rw [if_neg (fun z => e z.symm)]
    have := of_decide_eq_true h
    exact decide_eq_false (by omega)
/-- a sorted list is the one that stands in strict order -/
theorem sorted_one {α : Type} {lt : α → α → Bool} (as : ∀ a b, lt a b = true → lt b a = false) : ∀ {l m : List α}, l.Perm m → l.Pairwise (fun a b => lt b a = false) → m.Pairwise (fun a b => lt a b = true) → l = m
  | [], m, hp, _, _ => by rw [List.nil_perm.mp hp]
  | a :: l, m, hp, h1, h2 => by
    cases m with
    | nil => exact absurd hp.length_eq (by simp)
    | cons b m =>
      have e : a = b := by
        have hb : b ∈ a :: l := hp.mem_iff.mpr (List.mem_cons_self ..)
        have ha : a ∈ b :: m := hp.mem_iff.mp (List.mem_cons_self ..)
        rcases List.mem_cons.mp ha with q | q
        · exact q
        · rcases List.mem_cons.mp hb with q2 | q2
          · exact q2.symm
          · have x1 := (List.pairwise_cons.mp h2).1 a q
            have x2 := (List.pairwise_cons.mp h1).1 b q2
            rw [x1] at x2
            cases x2
      subst e
      rw [sorted_one as ((List.perm_cons a).mp hp) (List.pairwise_cons.mp h1).2 (List.pairwise_cons.mp h2).2]
theorem rows_sorted {n : Nat} (hn : n ≤ 6) : (rowsOf n).mergeSort (dataLe false keyOf) = guardRows n := by
  have q := rows_ok
  rw [List.all_eq_true] at q
  have q1 := q n (List.mem_range.mpr (by omega))
  unfold rowsB at q1
  rw [Bool.and_eq_true, decide_eq_true_iff, decide_eq_true_iff] at q1
  refine sorted_one (lt := rowLt) (fun a b => rowLt_asym) ((List.mergeSort_perm _ _).trans q1.1.symm) ?_ q1.2
  have T := sortLe_total (listOrd itemOrd) false fun b => keyToks (keyOf b)
  have s := List.pairwise_mergeSort (le := dataLe false keyOf) (fun a b c => T.trans a b c) (fun a b => by rw [Bool.or_eq_true]; exact T.total a b) (rowsOf n)
  refine s.imp fun {a b} h => ?_
  rw [key_le] at h
  simpa using h
theorem rows_len : ∀ n, (rowsOf n).length = 2 ^ n
  | 0 => rfl
  | n + 1 => by
    unfold rowsOf
    rw [List.length_append, List.length_map, rows_len n, Nat.pow_succ]
    omega
theorem rows_short : ∀ n, ∀ l ∈ rowsOf n, l.length ≤ n ∧ ∀ k ∈ l, k < n
  | 0, l, h => by
    have e : l = [] := by simpa [rowsOf] using h
    rw [e]
    exact ⟨Nat.le_refl _, fun k hk => absurd hk (by simp)⟩
  | n + 1, l, h => by
    unfold rowsOf at h
    rcases List.mem_append.mp h with q | q
    · obtain ⟨a, b⟩ := rows_short n l q
      exact ⟨by omega, fun k hk => Nat.lt_succ_of_lt (b k hk)⟩
    · obtain ⟨m, hm, rfl⟩ := List.mem_map.mp q
      obtain ⟨a, b⟩ := rows_short n m hm
      refine ⟨by simp; omega, fun k hk => ?_⟩
      rcases List.mem_append.mp hk with z | z
      · exact Nat.lt_succ_of_lt (b k z)
      · have : k = n := by simpa using z
        omega
end Wc

set_option Elab.async false
set_option maxRecDepth 100000
set_option maxHeartbeats 2000000
/-! A lambda that keeps names of its maker, handed on as a value and called elsewhere: the cells that it keeps are told as tracked objects while other frames run. -/
namespace Clo
open PySem PySem.Spec PyProof.Rows L2 LamX NdefX

/-- the object at a is just o -/
def ExO (a : Addr) (o : Obj) : HO := .ext fun h => h.get? a = some o
theorem exO_ok {P : Program} {w : World} {H : Hp} {h : Heap} {a : Addr} {o : Obj} (e : h.get? a = some o) : ObjOk P w H h a (ExO a o) :=
  ⟨e, ⟨o, e⟩, fun _ _ p st => st o p⟩
theorem exO_get {P : Program} {w : World} {H : Hp} {h : Heap} {a : Addr} {o : Obj} (hok : HOk P w H h) (e : H a = some (ExO a o)) : h.get? a = some o := by
  obtain ⟨z, _, _⟩ := hok a _ e
  exact z
/-- some objects, by their addresses -/
abbrev Part := Addr → Option Obj
def addX (H : Hp) (L : Part) : Hp := fun b => match L b with
  | some o => some (ExO b o)
  | none => H b
def dropX (H : Hp) (L : Part) : Hp := fun b => match L b with
  | some _ => none
  | none => H b
theorem addX_in {H : Hp} {L : Part} {b : Addr} {o : Obj} (e : L b = some o) : addX H L b = some (ExO b o) := by
  unfold addX; rw [e]
theorem addX_out {H : Hp} {L : Part} {b : Addr} (e : L b = none) : addX H L b = H b := by
  unfold addX; rw [e]
theorem dropX_in {H : Hp} {L : Part} {b : Addr} {o : Obj} (e : L b = some o) : dropX H L b = none := by
  unfold dropX; rw [e]
theorem dropX_out {H : Hp} {L : Part} {b : Addr} (e : L b = none) : dropX H L b = H b := by
  unfold dropX; rw [e]
theorem dropX_some {H : Hp} {L : Part} {b : Addr} {u : HO} (e : dropX H L b = some u) : L b = none ∧ H b = some u := by
  cases q : L b with
  | some o => rw [dropX_in q] at e; cases e
  | none => rw [dropX_out q] at e; exact ⟨rfl, e⟩
theorem dropX_none {H : Hp} {L : Part} {b : Addr} (e : H b = none) : dropX H L b = none := by
  cases q : L b with
  | some o => exact dropX_in q
  | none => rw [dropX_out q]; exact e
/-- L stands tracked in H -/
def InX (H : Hp) (L : Part) : Prop := ∀ b o, L b = some o → H b = some (ExO b o)
theorem InX.out {H : Hp} {L : Part} (x : InX H L) {b : Addr} {u : HO} (e : H b = some u) (hu : ∀ o, u ≠ ExO b o) : L b = none := by
  cases q : L b with
  | none => rfl
  | some o =>
    rw [x b o q] at e
    exact absurd (Option.some.inj e).symm (hu o)
theorem InX.out0 {H : Hp} {L : Part} (x : InX H L) {b : Addr} (e : H b = none) : L b = none := by
  cases q : L b with
  | none => rfl
  | some o =>
    rw [x b o q] at e
    cases e
section
variable {P : Program} {w : World} {K : PySem.W.Frag} {mg : Str → Option Value} {base : Heap} {A : Around} {outer : List Env} {s s' : Shared} {H : Hp} {L : Part}
theorem drop_hok {h : Heap} (x : InX H L) (hok : HOk P w H h) : HOk P w (dropX H L) h := fun a o e => by
  obtain ⟨_, e2⟩ := dropX_some e
  refine (hok a o e2).stay (fun _ _ _ q => q) (fun b q => ?_) fun b xs q => ?_
  · rw [dropX_out (x.out q fun o z => by cases z)]; exact q
  · rw [dropX_out (x.out q fun o z => by cases z)]; exact q
theorem drop_env0 (x : InX H L) (e0 : Env0 P w K mg base A outer s H) : Env0 P w K mg base A outer s (dropX H L) :=
  ⟨e0.frames, e0.mod, fun b o e => ⟨(e0.bs b o e).1, dropX_none (e0.bs b o e).2⟩, e0.bsz, e0.funs, fun b hb => dropX_none (e0.frf b hb), drop_hok x e0.hok, e0.bare⟩
/-- behind a call that was made without L -/
theorem drop_back {Q Q' : VK} {u : Value} (x : InX H L) (e0 : Env0 P w K mg base A outer s H) (h : CE outer P w (dropX H L) s Q u s') (hq : ∀ v H', Same (dropX H L) H' ∨ True → (∀ b o, L b = some o → H' b = none) → Q v H' → Q' v (addX H' L)) : CE outer P w H s Q' u s' := by
  obtain ⟨v, H', os, bare, un, hok', r, q⟩ := h
  have here : ∀ b o, L b = some o → s.heap.get? b = some o := fun b o e => exO_get e0.hok (x b o e)
  have nfr : ∀ b o, L b = some o → b ∉ frs outer := fun b o e z => by
    have y := e0.frf b z
    rw [x b o e] at y
    cases y
  have kept : ∀ b o, L b = some o → s'.heap.get? b = some o := fun b o e => un.keep b o (here b o e) (dropX_in e) (nfr b o e) (by simp)
  have fr' : ∀ b o, L b = some o → H' b = none := fun b o e => un.free b o (here b o e) (dropX_in e) (by simp)
  have out' : ∀ {b u}, H' b = some u → L b = none := fun {b u} e => by
    cases z : L b with
    | none => rfl
    | some o => rw [fr' b o z] at e; cases e
  refine ⟨v, addX H' L, os, bare, ⟨fun b o e n hb hx => ?_, fun b o e n hb hx => ?_, fun b o e n hx => ?_, fun b o e hx => un.there b o e hx, fun b xs e => ?_, fun b o u e => ?_, fun b ps e => ?_⟩, fun a o e => ?_, r, hq v H' (.inr trivial) fr' q⟩
  · exact un.keep b o e (dropX_none n) hb hx
  · exact un.slot b o e (dropX_none n) hb hx
  · rw [addX_out (x.out0 n)]; exact un.free b o e (dropX_none n) hx
  · have z := x.out e fun o y => by cases y
    rw [addX_out z]; exact un.tups b xs (by rw [dropX_out z]; exact e)
  · have z := x.out e fun o y => by cases y
    rw [addX_out z]; exact un.frzs b o u (by rw [dropX_out z]; exact e)
  · have z := x.out e fun o y => by cases y
    rw [addX_out z]; exact un.tbls b ps (by rw [dropX_out z]; exact e)
  · cases z : L a with
    | some ob =>
      rw [addX_in z] at e
      cases e
      exact exO_ok (kept a ob z)
    | none =>
      rw [addX_out z] at e
      refine (hok' a o e).stay (fun _ _ _ q => q) (fun b q => ?_) fun b xs q => ?_
      · rw [addX_out (out' q)]; exact q
      · rw [addX_out (out' q)]; exact q
/-- L comes to be tracked -/
structure Fit (base : Heap) (outer : List Env) (s : Shared) (H : Hp) (L : Part) : Prop where
  here : ∀ b o, L b = some o → s.heap.get? b = some o
  free : ∀ b o, L b = some o → H b = none
  nfr : ∀ b o, L b = some o → b ∉ frs outer
  nbs : ∀ b o, L b = some o → base.get? b = none
theorem Fit.out {u : HO} {b : Addr} (f : Fit base outer s H L) (e : H b = some u) : L b = none := by
  cases z : L b with
  | none => rfl
  | some o => rw [f.free b o z] at e; cases e
theorem add_in (H : Hp) (L : Part) : InX (addX H L) L := fun _ _ e => addX_in e
theorem add_env0 (f : Fit base outer s H L) (e0 : Env0 P w K mg base A outer s H) : Env0 P w K mg base A outer s (addX H L) := by
  refine ⟨e0.frames, e0.mod, fun b o e => ⟨(e0.bs b o e).1, ?_⟩, e0.bsz, e0.funs, fun b hb => ?_, fun a o e => ?_, e0.bare⟩
  · cases z : L b with
    | none => rw [addX_out z]; exact (e0.bs b o e).2
    | some ob => rw [f.nbs b ob z] at e; cases e
  · cases z : L b with
    | none => rw [addX_out z]; exact e0.frf b hb
    | some ob => exact absurd hb (f.nfr b ob z)
  · cases z : L a with
    | some ob =>
      rw [addX_in z] at e
      cases e
      exact exO_ok (f.here a ob z)
    | none =>
      rw [addX_out z] at e
      refine (e0.hok a o e).stay (fun _ _ _ q => q) (fun b q => ?_) fun b xs q => ?_
      · rw [addX_out (f.out q)]; exact q
      · rw [addX_out (f.out q)]; exact q
/-- behind a call that was made with L tracked -/
theorem add_back {Q Q' : VK} {u : Value} (f : Fit base outer s H L) (h : CE outer P w (addX H L) s Q u s') (hq : ∀ v H', Q v H' → InX H' L ∧ Q' v (dropX H' L)) : CE outer P w H s Q' u s' := by
  obtain ⟨v, H', os, bare, un, hok', r, q⟩ := h
  obtain ⟨x, q'⟩ := hq v H' q
  have ad : ∀ {b}, H b = none → L b = none → addX H L b = none := fun {b} n z => by rw [addX_out z]; exact n
  refine ⟨v, dropX H' L, os, bare, ⟨fun b o e n hb hx => ?_, fun b o e n hb hx => ?_, fun b o e n hx => ?_, fun b o e hx => un.there b o e hx, fun b xs e => ?_, fun b o u e => ?_, fun b ps e => ?_⟩, drop_hok x hok', r, q'⟩
  · cases z : L b with
    | none => exact un.keep b o e (ad n z) hb hx
    | some ob =>
      have y := f.here b ob z
      rw [e] at y
      cases y
      exact exO_get hok' (x b o z)
  · cases z : L b with
    | none => exact un.slot b o e (ad n z) hb hx
    | some ob => exact absurd hb (f.nfr b ob z)
  · cases z : L b with
    | none => exact dropX_none (un.free b o e (ad n z) hx)
    | some ob => exact dropX_in z
  · have z := f.out e
    rw [dropX_out z]; exact un.tups b xs (by rw [addX_out z]; exact e)
  · have z := f.out e
    rw [dropX_out z]; exact un.frzs b o u (by rw [addX_out z]; exact e)
  · have z := f.out e
    rw [dropX_out z]; exact un.tbls b ps (by rw [addX_out z]; exact e)
end

/-! ### a function of one number that answers a truth value -/
structure Fn1 (P : Program) (w : World) (K : PySem.W.Frag) (mg : Str → Option Value) (base : Heap) (k : Nat) (f : Addr) (want : Nat → Bool) (G : Hp → Prop) : Prop where
  stay : ∀ H H', ExtN H H' → G H → G H'
  at_ : ∀ H s, HOk P w H s → G H → PySem.W.FnAt f s
  run : ∀ (A : Around) (outer : List Env) (s : Shared) (H : Hp) (us : List Value) (n : Nat) (Q : VK), Room k A → Env0 P w K mg base A outer s H → G H → Vals [.int (n : Int)] us → n < 4096 → (∀ H', Same H H' → Q (.bl (want n)) H') →
    codeAny (model P w) A (.call (.ref f) ⟨us, []⟩) (CR L2.CX0 outer P w H s Q L2.E0) s
/-- x(e), x a name that holds such a function -/
def tFn1 (P : Program) (w : World) (K : PySem.W.Frag) (mg : Str → Option Value) (base : Heap) (k i : Nat) (t : TA) : TE := fun σ H Q => ∃ f want G, σ[i]? = some (some (.ref f)) ∧ Fn1 P w K mg base k f want G ∧ G H ∧
  t σ H fun vs H1 => ∃ n : Nat, vs = [.int (n : Int)] ∧ n < 4096 ∧ G H1 ∧ ∀ H', Same H1 H' → Q (.bl (want n)) H'
theorem pe_fn1 {X : Cx} {k i : Nat} {x : Str} {e : Expr} {t : TA} {p pos : Pos} (hr : Room k X.A) (hN : X.N[i]? = some x) (hv : Vis X.env.scope x) (ha : PA X [e] t)
    (hd : (x == ("__debug__" : Str)) = false := by decide) (hcd : (x == ("__classdict__" : Str)) = false := by decide)
    (he : starEach [e] X.env = (false, eval e X.env) :: starEach [] X.env := by rfl) :
    PE X (.Call (.Name x p) [e] [] pos) (tFn1 X.prog X.w X.K X.mg X.base k i t) := by
  refine ⟨fun pins s σ H Q I h => ?_⟩
  obtain ⟨f, want, G, hs, F, g0, ht⟩ := h
  refine wpAny_Call_Name_kw (thn ((pe_var (pos := p) hN hv hd hcd).run pins s σ H (fun v H1 => v = .ref f ∧ H1 = H) I ⟨.ref f, hs, rfl, rfl⟩) fun u s1 ⟨v, H1, I1, r1, q1⟩ => ?_)
  obtain ⟨rfl, rfl⟩ := q1
  obtain rfl : u = Value.ref f := r1
  refine PySem.W.callWith_F (first := []) (F.at_ _ _ I1.hok g0) (thn (ha.run pos pins s1 σ _ _ I1 ht) fun us s2 ⟨vs, H2, I2, r, n, ev, hn, g1, q⟩ => ⟨F.at_ _ _ I2.hok g1, ?_⟩) he rfl
  subst ev
  show wpAny _ _ (call (.ref f) us) _ _ _
  refine wpAny_call (codeAny_mono (F.run X.A X.stack s2 H2 us n Q hr I2.env0 g1 r hn q) fun r s' hq => ?_)
  cases r with
  | error e => exact (show False from hq).elim
  | ok fl =>
    cases fl with
    | ret u => exact I2.after hq
    | next => exact False.elim hq
    | brk => exact False.elim hq
    | cont => exact False.elim hq

/-! ### the lambda's object -/
structure LF where
  qual : Str
  params : Arguments
  body : Expr
  scope : Scope
  cl : List (Str × Addr)
  c : Addr
abbrev LF.nf (F : LF) : NF := ⟨"<lambda>", F.qual, F.params, [], F.scope, F.cl, F.c⟩
def LamO (f : Addr) (F : LF) : HO := .ext fun h => ∃ pm ctv, h.get? f = some (PySem.W.kla_obj "<lambda>" F.qual F.params F.body F.scope F.cl pm F.c ctv)
theorem lamO_at {P : Program} {w : World} {H : Hp} {h : Heap} {f : Addr} {F : LF} (hok : HOk P w H h) (e : H f = some (LamO f F)) : ∃ pm ctv, h.get? f = some (PySem.W.kla_obj "<lambda>" F.qual F.params F.body F.scope F.cl pm F.c ctv) := by
  obtain ⟨z, _, _⟩ := hok f _ e
  exact z
/-- the cells that it keeps, told by L: what they hold -/
structure Keeps (cl : List (Str × Addr)) (fr : List Str) (ws : List (Option V)) (L : Part) : Prop where
  len : ws.length = fr.length
  all : ∀ y c, cl.lookup y = some c → ∃ o v, L c = some o ∧ o.data = .cell v
  inj : ∀ x y c, cl.lookup x = some c → cl.lookup y = some c → x = y
  has : ∀ (i : Nat) (y : Str), fr[i]? = some y → ∃ c, cl.lookup y = some c ∧ ∀ v, ws[i]? = some (some v) → ∃ o u, L c = some o ∧ L2.RelV v u ∧ o.data = .cell (some u)
def LamG (f : Addr) (F : LF) (L : Part) (H : Hp) : Prop := H f = some (LamO f F) ∧ H F.c = some (CodeO F.c F.qual) ∧ InX H L
theorem LamG.stay {f : Addr} {F : LF} {L : Part} {H H' : Hp} (e : ExtN H H') (g : LamG f F L H) : LamG f F L H' := ⟨e _ _ g.1 (fun _ z => by unfold LamO at z; cases z), e _ _ g.2.1 codeO_ne, fun b o z => e _ _ (g.2.2 b o z) (fun _ z => by unfold ExO at z; cases z)⟩
theorem lamO_out {f : Addr} {F : LF} {L : Part} (hf : L f = none) (hc : L F.c = none) {H : Hp} (g : LamG f F L H) : dropX H L f = some (LamO f F) ∧ dropX H L F.c = some (CodeO F.c F.qual) := by
  rw [dropX_out hf, dropX_out hc]
  exact ⟨g.1, g.2.1⟩
section
variable {P : Program} {w : World} {K : PySem.W.Frag} {mg : Str → Option Value} {base : Heap}
/-- THE RULE: a lambda by its body -/
theorem lam_core {k : Nat} {f : Addr} {F : LF} {L : Part} {N ps fr : List Str} {ws : List (Option V)} {A : Around} {outer : List Env} {s : Shared} {H : Hp} {vs : List V} {us : List Value} {Q Qd : VK} (hf : L f = none) (hc : L F.c = none) (S : NScope N ps fr F.scope) (C : Keeps F.cl fr ws L)
    (hb : ∀ (pm ctv : Value), bindArgs (PySem.W.kla_fn "<lambda>" F.qual F.params F.body F.scope F.cl pm (.ref F.c) ctv) ⟨us, []⟩ = pure (ps.zip us)) (hl : vs.length = ps.length) (hr : Room (k + 1) A) (e0 : Env0 P w K mg base A outer s H) (g : LamG f F L H) (r : Vals vs us)
    (hbody : Room k (A.deeper (envF F.nf f s.heap.objs.size)) → ∃ t, PE (ncx L2.CX0 P w K mg base N F.nf f A outer s (dropX H L) L2.E0) F.body t ∧ t (startF N vs ws) (dropX H L) Qd) (hq : ∀ v H', (∀ b o, L b = some o → H' b = none) → Qd v H' → Q v (addX H' L)) :
    codeAny (model P w) A (.call (.ref f) ⟨us, []⟩) (CR L2.CX0 outer P w H s Q L2.E0) s := by
  have e1 := drop_env0 g.2.2 e0
  obtain ⟨gf, gc⟩ := lamO_out hf hc g
  obtain ⟨pm, ctv, ho⟩ := lamO_at e1.hok gf
  have Ce : CellsAt F.cl fr ws s.heap (dropX H L) := by
    refine ⟨C.len, fun y c e => ?_, C.inj, fun i y e => ?_⟩
    · obtain ⟨o, v, z, d⟩ := C.all y c e
      exact ⟨dropX_in z, v, o, exO_get e0.hok (g.2.2 c o z), d⟩
    · obtain ⟨c, e2, hv⟩ := C.has i y e
      refine ⟨c, e2, fun v ev => ?_⟩
      obtain ⟨o, u, z, rv, d⟩ := hv v ev
      exact ⟨u, rv, o, exO_get e0.hok (g.2.2 c o z), d⟩
  have lim : s.heap.NoLimit := e0.mod.nolimit.keeps fun b o e => (e0.bs b o e).1
  have core : codeAny (model P w) A (.call (.ref f) ⟨us, []⟩) (CR L2.CX0 outer P w (dropX H L) s Qd L2.E0) s := by
    refine PySem.W.kla_callFunE hr.depth ho rfl S.co S.gen rfl (codeO_at e1.hok gc) ?_
    rw [hb pm ctv]
    refine wpAny_pure (wpAny_newFunctionEnv S.nocell (fun ⟨y, _⟩ hy => S.par y (List.of_mem_zip hy).1) (fun h1 hns hsb => ⟨lim.fresh _ hsb, ?_⟩) S.kind)
    show codeAny _ _ (.expr F.body (envF F.nf f s.heap.objs.size)) _ _
    have kp : ∀ b o, s.heap.get? b = some o → h1.get? b = some o := fun b o e => hsb.extBut b o (Nat.ne_of_lt (Heap.lt_size e)) (Heap.get?_push_of_some _ e)
    obtain ⟨t, ht, hq'⟩ := hbody (hr.deeper _)
    have J := inv_startN (CX := L2.CX0) (F := F.nf) (f := f) (E := L2.E0) (tk := s.toks + (ps.zip us).length) S hr.hd e1 hl r Ce hns kp
    refine PySem.W.kla_codeExpr (wpAny_mono (ht.run [] _ _ _ Qd J hq') (fun v s' z => ?_) fun e s' z => z)
    obtain ⟨v', H', J', rv, q⟩ := z
    exact ⟨v', H', J'.os, J'.bare, J'.base, J'.hok, rv, q⟩
  refine codeAny_mono core fun r s' z => ?_
  cases r with
  | error e => exact (show False from z).elim
  | ok fl =>
    cases fl with
    | next => exact False.elim z
    | brk => exact False.elim z
    | cont => exact False.elim z
    | ret u' => exact drop_back g.2.2 e0 z fun v H' _ hL q => hq v H' hL q
/-- what was there stands behind a call that was made without L -/
theorem add_same {H H' : Hp} {L : Part} (x : InX H L) (e : Same (dropX H L) H') : Same H (addX H' L) := fun b o h => by
  cases zl : L b with
  | some ob =>
    rw [addX_in zl]
    rw [x b ob zl] at h
    exact h
  | none =>
    rw [addX_out zl]
    exact e b o (by rw [dropX_out zl]; exact h)
theorem lam_fn1 {k : Nat} {f : Addr} {F : LF} {L : Part} {N : List Str} {x : Str} {fr : List Str} {ws : List (Option V)} {want : Nat → Bool} (hf : L f = none) (hc : L F.c = none) (S : NScope N [x] fr F.scope) (C : Keeps F.cl fr ws L)
    (hb : ∀ (pm ctv : Value) (u : Value), bindArgs (PySem.W.kla_fn "<lambda>" F.qual F.params F.body F.scope F.cl pm (.ref F.c) ctv) ⟨[u], []⟩ = pure [(x, u)])
    (hbody : ∀ (A : Around) (outer : List Env) (s : Shared) (H : Hp) (n : Nat), Room k (A.deeper (envF F.nf f s.heap.objs.size)) → n < 4096 →
      ∃ t, PE (ncx L2.CX0 P w K mg base N F.nf f A outer s H L2.E0) F.body t ∧ ∀ Q : VK, (∀ H', Same H H' → Q (.bl (want n)) H') → t (startF N [.int (n : Int)] ws) H Q) :
    Fn1 P w K mg base (k + 1) f want (LamG f F L) := by
  refine ⟨fun H H' e g => g.stay e, fun H s hok g => ?_, fun A outer s H us n Q hr e0 g r hn hq => ?_⟩
  · obtain ⟨pm, ctv, z⟩ := lamO_at hok g.1
    exact ⟨_, _, _, _, z⟩
  · obtain ⟨u, rfl⟩ : ∃ u, us = [u] := by
      cases r with
      | cons a b => cases b; exact ⟨_, rfl⟩
    refine lam_core (ps := [x]) (Qd := fun v H' => v = .bl (want n) ∧ Same (dropX H L) H') hf hc S C (fun pm ctv => hb pm ctv u) rfl hr e0 g r (fun hr' => ?_) fun v H' _ q => ?_
    · obtain ⟨t, ht, hq'⟩ := hbody A outer s (dropX H L) n hr' hn
      exact ⟨t, ht, hq' _ fun H' e => ⟨rfl, e⟩⟩
    · rw [q.1]
      exact hq _ (add_same g.2.2 q.2)
/-! ### a lambda whose parameter is kept by what stands in it (a comprehension): a cell of its own -/
structure CScope (N : List Str) (x : Str) (fr : List Str) (sc : Scope) : Prop where
  kind : sc.kind = .function
  co : sc.isCoroutine = false
  gen : sc.isGenerator = false
  nd : N.Nodup
  pre : N.take (1 + fr.length) = x :: fr
  par : sc.names.lookup x = some .cell
  only : ∀ y, sc.names.lookup y = some .cell → y = x
  cells : ∀ (n : Nat) (cl : List (Str × Addr)), cellsFrom n sc.names cl = (x, n) :: cl
  push : ∀ h : Heap, pushCells h sc.names = h.push { cls := .type "cell", data := .cell none }
  free : ∀ y, sc.names.lookup y = some .free → y ∈ fr
  frk : ∀ y ∈ fr, sc.names.lookup y = some .free
abbrev LF.nfc (F : LF) (x : Str) (c : Addr) : NF := ⟨"<lambda>", F.qual, F.params, [], F.scope, (x, c) :: F.cl, F.c⟩
theorem inv_startC {CX : CXT} {N : List Str} {x : Str} {fr : List Str} {F : LF} {f : Addr} {A : Around} {outer : List Env} {s : Shared} {H : Hp} {E : XK} {u : Value} {v : V} {ws : List (Option V)} {h1 : Heap} {tk : Nat} (S : CScope N x fr F.scope) (hd : A.handled = none) (e0 : Env0 P w K mg base A outer s H)
    (rv : L2.RelV v u) (C : CellsAt F.cl fr ws s.heap H) {m : Str → Option Value} (hns : h1.Ns s.heap.objs.size m) (hx : h1.IsCell (s.heap.objs.size + 1) (some u)) (kp : ∀ b o, s.heap.get? b = some o → h1.get? b = some o) :
    Inv (ncx CX P w K mg base N (F.nfc x (s.heap.objs.size + 1)) f A outer s H E) [] (startF N [v] ws) H { s with heap := h1, toks := tk } := by
  have hpl : 1 + fr.length ≤ N.length := by
    have q := congrArg List.length S.pre
    rw [List.length_take, List.length_cons] at q
    omega
  have noA : ∀ b : Addr, b ∉ (ncx CX P w K mg base N (F.nfc x (s.heap.objs.size + 1)) f A outer s H E).ex := fun b z => absurd (show b ∈ ([] : List Addr) from z) (by simp)
  have cellK : ∀ {c : Addr} {v : Option Value}, s.heap.IsCell c v → h1.IsCell c v := fun {c v} ⟨o, ho, hd⟩ => ⟨o, kp _ _ ho, hd⟩
  have low : ∀ {y : Str} {c : Addr}, F.cl.lookup y = some c → c < s.heap.objs.size := fun {y c} e => by
    obtain ⟨_, v, z⟩ := C.all y c e
    exact z.lt
  have look : ∀ {y : Str} {c : Addr}, ((x, s.heap.objs.size + 1) :: F.cl).lookup y = some c → (y = x ∧ c = s.heap.objs.size + 1) ∨ (y ≠ x ∧ F.cl.lookup y = some c) := fun {y c} e => by
    rw [List.lookup_cons] at e
    cases hb : y == x with
    | true => rw [hb] at e; cases e; exact .inl ⟨beq_iff_eq.mp hb, rfl⟩
    | false => rw [hb] at e; exact .inr ⟨fun z => (by rw [z, beq_self_eq_true] at hb; cases hb), e⟩
  have lookx : ((x, s.heap.objs.size + 1) :: F.cl).lookup x = some (s.heap.objs.size + 1) := by
    rw [List.lookup_cons, beq_self_eq_true]
  have frx : x ∉ fr := fun z => by
    have := S.frk x z
    rw [S.par] at this
    cases this
  have lookf : ∀ {y : Str} {c : Addr}, y ∈ fr → F.cl.lookup y = some c → ((x, s.heap.objs.size + 1) :: F.cl).lookup y = some c := fun {y c} hy e => by
    rw [List.lookup_cons]
    cases hb : y == x with
    | true => rw [beq_iff_eq.mp hb] at hy; exact absurd hy frx
    | false => exact e
  refine ⟨⟨e0.mod, S.kind, rfl, rfl, Nat.le_refl _, fun y z c h1 h2 => ?_, fun y hy => ?_, fun y c z _ => ?_, fun _ => hd, Around.frames_deeper e0.frames, .inr ⟨rfl, rfl⟩, fun b z => absurd z (noA b), e0.bs, e0.bsz, fun b _ _ => noA b,
      fun b z => absurd z (noA b), e0.funs, e0.frf⟩,
    rfl, e0.bare, Un.kept kp, ⟨_, hns, fun i y v' e1 e2 e3 => ?_⟩, fun y c e => ?_, e0.hok.fresh (Nat.le_refl _), fun y c e => ?_, fun q hq => absurd (show q ∈ ([] : List (Addr × Obj)) ++ [] from hq) (by simp), e0.hok.kept kp, ?_⟩
  · rcases look h1 with ⟨a1, a2⟩ | ⟨a1, a2⟩ <;> rcases look h2 with ⟨b1, b2⟩ | ⟨b1, b2⟩
    · rw [a1, b1]
    · exact absurd (low b2) (by rw [a2]; exact Nat.not_lt.mpr (Nat.le_succ _))
    · exact absurd (low a2) (by rw [b2]; exact Nat.not_lt.mpr (Nat.le_succ _))
    · exact C.inj y z c a2 b2
  · have hy : F.scope.names.lookup y = some .cell ∨ F.scope.names.lookup y = some .free := hy
    rcases hy with hy | hy
    · rw [S.only y hy]; exact ⟨_, lookx⟩
    · have hm := S.free y hy
      obtain ⟨i, hi⟩ := List.mem_iff_getElem?.mp hm
      obtain ⟨c, hc, _⟩ := C.has i y hi
      exact ⟨c, lookf hm hc⟩
  · have z : false = true := z
    cases z
  · have e1 : N[i]? = some y := e1
    have clen := C.len
    unfold startF at e2
    cases i with
    | zero =>
      have ey : y = x := by
        have q := congrArg (fun l => l[0]?) S.pre
        simp only [List.getElem?_cons_zero] at q
        rw [List.getElem?_take_of_lt (by omega), e1] at q
        exact Option.some.inj q
      have ev : v' = v := by
        have : some (some v) = some (some v') := e2
        exact (Option.some.inj (Option.some.inj this)).symm
      rw [ey, ev]
      exact ⟨u, rv, .inr ⟨.inl S.par, _, lookx, hx⟩⟩
    | succ i =>
      have e2' : (ws ++ List.replicate (N.length - 1 - ws.length) none)[i]? = some (some v') := e2
      by_cases h2 : i < fr.length
      · have hq : fr[i]? = some y := by
          have q := congrArg (fun l => l[i + 1]?) S.pre
          simp only [List.getElem?_cons_succ] at q
          rw [List.getElem?_take_of_lt (by omega), e1] at q
          exact q.symm
        rw [List.getElem?_append_left (by omega)] at e2'
        obtain ⟨c, hc, hv⟩ := C.has i y hq
        obtain ⟨u', ru, hu⟩ := hv v' e2'
        have hm := List.mem_of_getElem? hq
        exact ⟨u', ru, .inr ⟨.inr (S.frk y hm), c, lookf hm hc, cellK hu⟩⟩
      · rw [List.getElem?_append_right (by omega), List.getElem?_replicate] at e2'
        split at e2' <;> cases e2'
  · rcases look e with ⟨a1, a2⟩ | ⟨a1, a2⟩
    · rw [a2]; exact ⟨_, hx⟩
    · obtain ⟨v, z⟩ := (C.all y c a2).2
      exact ⟨v, cellK z⟩
  · rcases look e with ⟨a1, a2⟩ | ⟨a1, a2⟩
    · rw [a2]; exact e0.hok.fresh (Nat.le_succ _)
    · exact (C.all y c a2).1
  · have clen := C.len
    unfold startF
    show _ = N.length
    rw [List.length_append, List.length_append, List.length_map, List.length_replicate]
    simp
    omega
theorem lam_coreC {k : Nat} {f : Addr} {F : LF} {L : Part} {N fr : List Str} {x : Str} {ws : List (Option V)} {A : Around} {outer : List Env} {s : Shared} {H : Hp} {v0 : V} {u0 : Value} {Q Qd : VK} (hf : L f = none) (hc : L F.c = none) (S : CScope N x fr F.scope) (C : Keeps F.cl fr ws L)
    (hb : ∀ (pm ctv : Value), bindArgs (PySem.W.kla_fn "<lambda>" F.qual F.params F.body F.scope F.cl pm (.ref F.c) ctv) ⟨[u0], []⟩ = pure [(x, u0)]) (hr : Room (k + 1) A) (e0 : Env0 P w K mg base A outer s H) (g : LamG f F L H) (r : L2.RelV v0 u0)
    (hbody : Room k (A.deeper (envF (F.nfc x (s.heap.objs.size + 1)) f s.heap.objs.size)) → ∃ t, PE (ncx L2.CX0 P w K mg base N (F.nfc x (s.heap.objs.size + 1)) f A outer s (dropX H L) L2.E0) F.body t ∧ t (startF N [v0] ws) (dropX H L) Qd) (hq : ∀ v H', (∀ b o, L b = some o → H' b = none) → Qd v H' → Q v (addX H' L)) :
    codeAny (model P w) A (.call (.ref f) ⟨[u0], []⟩) (CR L2.CX0 outer P w H s Q L2.E0) s := by
  have e1 := drop_env0 g.2.2 e0
  obtain ⟨gf, gc⟩ := lamO_out hf hc g
  obtain ⟨pm, ctv, ho⟩ := lamO_at e1.hok gf
  have Ce : CellsAt F.cl fr ws s.heap (dropX H L) := by
    refine ⟨C.len, fun y c e => ?_, C.inj, fun i y e => ?_⟩
    · obtain ⟨o, v, z, d⟩ := C.all y c e
      exact ⟨dropX_in z, v, o, exO_get e0.hok (g.2.2 c o z), d⟩
    · obtain ⟨c, e2, hv⟩ := C.has i y e
      refine ⟨c, e2, fun v ev => ?_⟩
      obtain ⟨o, u, z, rv, d⟩ := hv v ev
      exact ⟨u, rv, o, exO_get e0.hok (g.2.2 c o z), d⟩
  have lim : s.heap.NoLimit := e0.mod.nolimit.keeps fun b o e => (e0.bs b o e).1
  have core : codeAny (model P w) A (.call (.ref f) ⟨[u0], []⟩) (CR L2.CX0 outer P w (dropX H L) s Qd L2.E0) s := by
    refine PySem.W.kla_callFunE hr.depth ho rfl S.co S.gen rfl (codeO_at e1.hok gc) ?_
    rw [hb pm ctv]
    refine wpAny_pure ?_
    simp only [newFunctionEnv, Option.isSome_none, Bool.false_eq_true, if_false]
    refine wpAny_bind (wpAny_alloc ?_)
    refine wpAny_bind (wpAny_layCells _ (fun name kind cells => by cases hkc : kind == NameKind.cell <;> simp [hkc]) _ _ _ _ ?_)
    have hz1 : (s.heap.push { cls := .type "frame", data := .dict #[] }).objs.size = s.heap.objs.size + 1 := Heap.size_push ..
    rw [show ({ s with heap := s.heap.push { cls := .type "frame", data := .dict #[] } } : Shared).heap.objs.size = s.heap.objs.size + 1 from hz1]
    have ecl : cellsFrom (s.heap.objs.size + 1) (PySem.W.kla_fn "<lambda>" F.qual F.params F.body F.scope F.cl pm (.ref F.c) ctv).scope.names (PySem.W.kla_fn "<lambda>" F.qual F.params F.body F.scope F.cl pm (.ref F.c) ctv).closure = (x, s.heap.objs.size + 1) :: F.cl := S.cells _ _
    have eps : ∀ h : Heap, pushCells h (PySem.W.kla_fn "<lambda>" F.qual F.params F.body F.scope F.cl pm (.ref F.c) ctv).scope.names = h.push { cls := .type "cell", data := .cell none } := fun h => S.push h
    rw [ecl, eps]
    -- the one name is stored in its cell
    have hcell : ((s.heap.push { cls := .type "frame", data := .dict #[] }).push { cls := .type "cell", data := .cell none }).IsCell (s.heap.objs.size + 1) none := ⟨_, by rw [← hz1]; exact Heap.get?_push_size _ rfl, rfl⟩
    refine wpAny_bind ?_
    rw [List.forIn_cons]
    refine wpAny_bind (wpAny_bind (wpAny_storeName_cell (c := s.heap.objs.size + 1) S.kind (show F.scope.names.lookup x = some .cell from S.par) (show ((x, s.heap.objs.size + 1) :: F.cl).lookup x = some _ by rw [List.lookup_cons, beq_self_eq_true]) hcell fun h1 hc1 hs1 => wpAny_pure ?_))
    show wpAny _ _ (forIn [] _ _) _ _ _
    rw [List.forIn_nil]
    refine wpAny_pure (wpAny_pure ?_)
    have kp : ∀ b o, s.heap.get? b = some o → h1.get? b = some o := fun b o e => (hs1.2 b (Nat.ne_of_lt (Nat.lt_succ_of_lt (Heap.lt_size e)))).trans (Heap.get?_push_of_some _ (Heap.get?_push_of_some _ e))
    have hns : h1.Ns s.heap.objs.size (fun _ => none) := ((Heap.Ns.new s.heap (.type "frame")).keeps fun b o e => Heap.get?_push_of_some _ e).sameBut hs1 (Nat.ne_of_lt (Nat.lt_succ_self _))
    refine ⟨lim.keeps kp, ?_⟩
    show codeAny _ _ (.expr F.body (envF (F.nfc x (s.heap.objs.size + 1)) f s.heap.objs.size)) _ _
    obtain ⟨t, ht, hq'⟩ := hbody (hr.deeper _)
    have J := inv_startC (CX := L2.CX0) (F := F) (f := f) (E := L2.E0) (tk := s.toks) S hr.hd e1 r Ce hns hc1 kp
    refine PySem.W.kla_codeExpr (wpAny_mono (ht.run [] _ _ _ Qd J hq') (fun v s' z => ?_) fun e s' z => z)
    obtain ⟨v', H', J', rv, q⟩ := z
    exact ⟨v', H', J'.os, J'.bare, J'.base, J'.hok, rv, q⟩
  refine codeAny_mono core fun r s' z => ?_
  cases r with
  | error e => exact (show False from z).elim
  | ok fl =>
    cases fl with
    | next => exact False.elim z
    | brk => exact False.elim z
    | cont => exact False.elim z
    | ret u' => exact drop_back g.2.2 e0 z fun v H' _ hL q => hq v H' hL q
/-- .. one that asks G2 of what is tracked besides -/
theorem lam_fn1C {k : Nat} {f : Addr} {F : LF} {L : Part} {N : List Str} {x : Str} {fr : List Str} {ws : List (Option V)} {want : Nat → Bool} {G2 : Hp → Prop} (hf : L f = none) (hc : L F.c = none) (S : CScope N x fr F.scope) (C : Keeps F.cl fr ws L)
    (g2s : ∀ H H', ExtN H H' → G2 H → G2 H') (g2d : ∀ H, InX H L → G2 H → G2 (dropX H L))
    (hb : ∀ (pm ctv : Value) (u : Value), bindArgs (PySem.W.kla_fn "<lambda>" F.qual F.params F.body F.scope F.cl pm (.ref F.c) ctv) ⟨[u], []⟩ = pure [(x, u)])
    (hbody : ∀ (A : Around) (outer : List Env) (s : Shared) (H : Hp) (n : Nat), Room k (A.deeper (envF (F.nfc x (s.heap.objs.size + 1)) f s.heap.objs.size)) → n < 4096 → G2 H →
      ∃ t, PE (ncx L2.CX0 P w K mg base N (F.nfc x (s.heap.objs.size + 1)) f A outer s H L2.E0) F.body t ∧ ∀ Q : VK, (∀ H', Same H H' → Q (.bl (want n)) H') → t (startF N [.int (n : Int)] ws) H Q) :
    Fn1 P w K mg base (k + 1) f want (fun H => LamG f F L H ∧ G2 H) := by
  refine ⟨fun H H' e g => ⟨g.1.stay e, g2s H H' e g.2⟩, fun H s hok g => ?_, fun A outer s H us n Q hr e0 g r hn hq => ?_⟩
  · obtain ⟨pm, ctv, z⟩ := lamO_at hok g.1.1
    exact ⟨_, _, _, _, z⟩
  · obtain ⟨u, rfl, ru⟩ : ∃ u, us = [u] ∧ L2.RelV (.int (n : Int)) u := by
      cases r with
      | cons a b => cases b; exact ⟨_, rfl, a⟩
    refine lam_coreC (Qd := fun v H' => v = .bl (want n) ∧ Same (dropX H L) H') hf hc S C (fun pm ctv => hb pm ctv u) hr e0 g.1 ru (fun hr' => ?_) fun v H' _ q => ?_
    · obtain ⟨t, ht, hq'⟩ := hbody A outer s (dropX H L) n hr' hn (g2d H g.1.2.2 g.2)
      exact ⟨t, ht, hq' _ fun H' e => ⟨rfl, e⟩⟩
    · rw [q.1]
      exact hq _ (add_same g.1.2.2 q.2)
/-- a lambda that keeps nothing -/
theorem keeps_none : Keeps [] [] [] (fun _ => none) := ⟨rfl, fun y c e => (by cases e), fun x y c e => (by cases e), fun i y e => (by simp at e)⟩
end
end Clo

set_option Elab.async false
set_option maxRecDepth 100000
set_option maxHeartbeats 2000000
namespace Clo
open PySem PySem.Spec PyProof.Rows L2 LamX NdefX
section
variable {X : Cx} {pins : List (Addr × Obj)} {σ : L2.St} {H : Hp} {s : Shared}
/-- the lambda's object, just made, is tracked from now on -/
theorem lam_track {F : LF} {pm ctv : Value} {t' : Nat} (I : Inv X pins σ H s) :
    Inv X pins σ (upd H s.heap.objs.size (LamO s.heap.objs.size F)) { s with heap := s.heap.push (PySem.W.kla_obj "<lambda>" F.qual F.params F.body F.scope F.cl pm F.c ctv), toks := t' } := by
  refine I.laid (fun b u e => Heap.get?_push_of_some _ e) (Nat.le_refl _) ?_
  have e : (s.heap.push (PySem.W.kla_obj "<lambda>" F.qual F.params F.body F.scope F.cl pm F.c ctv)).get? s.heap.objs.size = some (PySem.W.kla_obj "<lambda>" F.qual F.params F.body F.scope F.cl pm F.c ctv) := Heap.get?_push_size _ rfl
  exact ⟨⟨pm, ctv, e⟩, ⟨_, e⟩, fun h1 h2 ⟨p, t, z⟩ st => ⟨p, t, st _ z⟩⟩
theorem lamO_ne {f : Addr} {F : LF} (ps : Array Value) : LamO f F ≠ .tbl ps := fun z => by
  unfold LamO at z
  cases z
end
/-- a lambda as a value: what is known of it behind its making -/
def tLamV (T : List (Addr × Str)) (mk : Addr → LF) : TE := fun _ H Q => Tabs T H ∧ ∀ (f c : Addr) (H1 : Hp), ExtN H H1 → (∀ b, H1 b = none → H b = none) → Tabs T H1 → H f = none → H1 f = some (LamO f (mk c)) → H1 c = some (CodeO c (mk c).qual) → Q (.ref f) H1
theorem pe_lamV {X : Cx} {T : List (Addr × Str)} {c P : Addr} {params : Arguments} {body : Expr} {scope : Scope} {pos : Pos} (TB : TabB X.base X.mg c P) (hcode : X.env.code = .ref c)
    (hm : (P, X.env.qual ++ "<lambda>") ∈ T) (hu : ∀ p ∈ T, p.1 = P → p.2 = X.env.qual ++ "<lambda>") (hdef : defaultsOf params X.env = ([], []))
    (hfree : ∀ y ∈ scope.names, y.2 = .free → X.env.scope.names.lookup y.1 = some .cell ∨ X.env.scope.names.lookup y.1 = some .free) :
    PE X (.Lambda params body scope pos) (tLamV T fun c' => ⟨X.env.qual ++ "<lambda>", params, body, scope, cloFrom X.env.cells scope.names [], c'⟩) := by
  refine ⟨fun pins s σ H Q I h => ?_⟩
  obtain ⟨hT, h⟩ := h
  obtain ⟨ps, hP, ht, ha⟩ := hT _ hm
  have fr : ∀ y ∈ scope.names, y.2 = .free → ∃ c, X.env.cells.lookup y.1 = some c := fun y hy e => (hfree y hy e).elim (fun z => I.ok.has _ (.inl z)) fun z => I.ok.has _ (.inr z)
  have tabP : s.heap.get? P = some (PySem.W.tabObj ps) := I.hok P _ hP
  have hbP : s.heap.BuiltinsAt X.mg P := TB.bm.keeps I.bk
  have glo := I.mod.glob.keeps I.bk
  have hd := TB.code.keeps I.bk
  refine PySem.W.kla_eval hdef ?_
  cases hc : codeAmong pos ps.toList with
  | some cv =>
    obtain ⟨c', rfl, hco⟩ := ha pos cv hc
    refine PySem.W.kla_makeFunctionHit (closure_ok fr) I.ok.glob glo hcode hd tabP ht hc hbP fun ctv h' tk hx hsz => ?_
    have I1 : Inv X pins σ H { s with heap := h', toks := tk } := I.kept hx
    have nF : H h'.objs.size = none := I1.hok.fresh (Nat.le_refl _)
    have I2 := lam_track (F := ⟨X.env.qual ++ "<lambda>", params, body, scope, cloFrom X.env.cells scope.names [], c'⟩) (pm := (X.mg "__name__").getD .none) (ctv := ctv) (t' := tk) I1
    have ext : ∀ b o, H b = some o → upd H h'.objs.size (LamO h'.objs.size ⟨X.env.qual ++ "<lambda>", params, body, scope, cloFrom X.env.cells scope.names [], c'⟩) b = some o := fun b o e => (upd_ne (ne_of_none e nF)).trans e
    exact ⟨.ref h'.objs.size, _, I2, rfl, h h'.objs.size c' _ (ExtN.of ext) (fun b e => upd_none e) (hT.ext ext) nF upd_same (ext _ _ hco)⟩
  | none =>
    refine PySem.W.kla_makeFunction (closure_ok fr) I.ok.glob glo hcode hd tabP ht hc TB.gP hbP fun c' ctv h' tk hx hge hlt hrec htb => ?_
    obtain ⟨c2, oc, vs, t, e2, hoc, hdd, hv⟩ := hrec
    cases e2
    have nC : H c' = none := I.hok.fresh hge
    have I1 := inv_table (t' := tk) (more := #[rawInt pos.line, rawInt pos.col, .ref c']) (h' := h') I hP (fun b o hb e => hx b o hb e) htb hge ⟨oc, vs, t, hoc, hdd, hv⟩
    generalize hH1 : upd (upd H P (.tbl (ps ++ #[rawInt pos.line, rawInt pos.col, .ref c']))) c' (CodeO c' (X.env.qual ++ "<lambda>")) = H1 at I1
    have H1c : H1 c' = some (CodeO c' (X.env.qual ++ "<lambda>")) := by rw [← hH1]; exact upd_same
    have H1P : H1 P = some (.tbl (ps ++ #[rawInt pos.line, rawInt pos.col, .ref c'])) := by rw [← hH1, upd_ne (ne_of_none hP nC)]; exact upd_same
    have eN : ExtN H H1 := fun b o e n => by
      rw [← hH1, upd_ne (ne_of_none e nC), upd_ne (fun z => n ps (Option.some.inj (e.symm.trans (by rw [z]; exact hP))))]
      exact e
    have hNone : ∀ b, H1 b = none → H b = none := fun b e => by rw [← hH1] at e; exact upd_none (upd_none e)
    have nF : H1 h'.objs.size = none := I1.hok.fresh (Nat.le_refl _)
    have eL : (ps ++ #[rawInt pos.line, rawInt pos.col, .ref c']).toList = ps.toList ++ [rawInt pos.line, rawInt pos.col, .ref c'] := by simp
    have T1 : Tabs T H1 := fun p hp => by
      by_cases hb : p.1 = P
      · rw [hu p hp hb, hb]
        refine ⟨_, H1P, by rw [eL]; exact PySem.TriplesOk_snoc _ _ _ _ ht, fun p' cv hcv => ?_⟩
        rw [eL] at hcv
        rcases among_app _ ht hcv with z | z
        · obtain ⟨c0, e1, e2⟩ := ha p' cv z
          exact ⟨c0, e1, eN _ _ e2 codeO_ne⟩
        · exact ⟨c', z, H1c⟩
      · obtain ⟨ps', a1, a2, a3⟩ := hT p hp
        refine ⟨ps', ?_, a2, fun p' cv hcv => ?_⟩
        · rw [← hH1, upd_ne (ne_of_none a1 nC), upd_ne hb]; exact a1
        · obtain ⟨c0, e1, e2⟩ := a3 p' cv hcv
          exact ⟨c0, e1, eN _ _ e2 codeO_ne⟩
    have I2 := lam_track (F := ⟨X.env.qual ++ "<lambda>", params, body, scope, cloFrom X.env.cells scope.names [], c'⟩) (pm := (X.mg "__name__").getD .none) (ctv := ctv) (t' := tk) I1
    have ext : ∀ b o, H1 b = some o → upd H1 h'.objs.size (LamO h'.objs.size ⟨X.env.qual ++ "<lambda>", params, body, scope, cloFrom X.env.cells scope.names [], c'⟩) b = some o := fun b o e => (upd_ne (ne_of_none e nF)).trans e
    exact ⟨.ref h'.objs.size, _, I2, rfl, h h'.objs.size c' _ (eN.trans (ExtN.of ext)) (fun b e => hNone b (upd_none e)) (T1.ext ext) (hNone _ nF) upd_same (ext _ _ H1c)⟩

/-! ### a call while the maker's own cells are told -/
def tCallX (cl : List (Str × Addr)) (fr : List Str) (js : List Nat) (sp : Sp) (t : TA) : TE := fun σ H Q => t σ H fun vs H1 => ∀ L : Part, Keeps cl fr (js.map (slotAt σ)) L → (∀ b o, L b = some o → H1 b = none) → (∀ b o, L b = some o → ∃ v, o.data = .cell v) → sp vs (addX H1 L) (fun v H' => InX H' L ∧ Q v (dropX H' L)) L2.E0
open Classical in
theorem pe_callX {X : Cx} {k : Nat} {f : Addr} {fd : FuncData} {ps : List Str} {sp : Sp} {x : Str} {p pos : Pos} {e : Expr} {es : List Expr} {t : TA} {cl : List (Str × Addr)} {fr : List Str} {js : List Nat}
    (F : FnOk X.prog X.w X.K X.mg X.base L2.CX0 k f fd ps sp) (hr : Room k X.A) (hg : Gl X x) (hm : X.mg x = some (.ref f)) (hk : PySem.W.keepIn X.K (.ref f) = true) (hb : Binds X.K fd ps [])
    (cp : X.Ok → Caps X cl fr js) (hfn : ∀ y, X.fn y = true) (ha : PA X (e :: es) t) (hdb : (x == ("__debug__" : Str)) = false := by decide)
    (he : starEach (e :: es) X.env = (false, eval e X.env) :: starEach es X.env := by rfl) (hpl : (backTo pos (starEach es X.env)).any (·.1) = false := by rfl) :
    PE X (.Call (.Name x p) (e :: es) [] pos) (tCallX cl fr js sp t) := by
  refine ⟨fun pins s σ H Q I h => ?_⟩
  refine wpAny_Call_Name_kw (ld_glob I hg hm ?_ hdb)
  refine PySem.W.callWith_K (h₀ := X.base) I.ok.mod.kin hk (thn (ha.run pos pins s σ H _ I h) fun us s1 ⟨vs, H1, I1, r, q⟩ => ⟨I1.kIn, ?_⟩) he hpl
  show wpAny _ _ (call (.ref f) us) _ _ _
  have cap := cp I1.ok
  have Ce := cells_of I1 cap
  have own : ∀ y c, cl.lookup y = some c → X.env.cells.lookup y = some c := cap.sub
  let L : Part := fun b => if ∃ y, cl.lookup y = some b then s1.heap.get? b else none
  have Lin : ∀ {b o}, L b = some o → (∃ y, cl.lookup y = some b) ∧ s1.heap.get? b = some o := fun {b o} e => by
    by_cases z : ∃ y, cl.lookup y = some b
    · have e' : (if ∃ y, cl.lookup y = some b then s1.heap.get? b else none) = some o := e
      rw [if_pos z] at e'
      exact ⟨z, e'⟩
    · have e' : (if ∃ y, cl.lookup y = some b then s1.heap.get? b else none) = some o := e
      rw [if_neg z] at e'
      cases e'
  have Lof : ∀ {y b o}, cl.lookup y = some b → s1.heap.get? b = some o → L b = some o := fun {y b o} e1 e2 => (if_pos ⟨y, e1⟩).trans e2
  have high : ∀ {b o}, L b = some o → X.s_0.heap.objs.size ≤ b := fun {b o} e => by
    obtain ⟨⟨y, hy⟩, _⟩ := Lin e
    exact I1.ok.cab y b (hfn y) (own y b hy)
  have fit : Fit X.base X.stack s1 H1 L := by
    refine ⟨fun b o e => (Lin e).2, fun b o e => ?_, fun b o e z => ?_, fun b o e => ?_⟩
    · obtain ⟨⟨y, hy⟩, _⟩ := Lin e
      exact I1.freeC y b (own y b hy)
    · obtain ⟨⟨y, hy⟩, _⟩ := Lin e
      rcases List.mem_cons.mp (I1.stkSub b z) with z1 | z1
      · exact I1.cne y b (own y b hy) z1
      · obtain ⟨_, ob, ho, _⟩ := I1.ok.funs.mem z1
        exact absurd (Nat.lt_of_lt_of_le (Heap.lt_size ho) (high e)) (Nat.lt_irrefl _)
    · exact Heap.get?_none_of_le (Nat.le_trans I1.ok.bsz (high e))
  have kps : Keeps cl fr (js.map (slotAt σ)) L := by
    refine ⟨Ce.len, fun y c e => ?_, Ce.inj, fun i y e => ?_⟩
    · obtain ⟨_, v, o, ho, d⟩ := Ce.all y c e
      exact ⟨o, v, Lof e ho, d⟩
    · obtain ⟨c, e2, hv⟩ := Ce.has i y e
      refine ⟨c, e2, fun v ev => ?_⟩
      obtain ⟨u, rv, o, ho, d⟩ := hv v ev
      exact ⟨o, u, Lof e2 ho, rv, d⟩
  have isc : ∀ b o, L b = some o → ∃ v, o.data = .cell v := fun b o e => by
    obtain ⟨⟨y, hy⟩, e2⟩ := Lin e
    obtain ⟨_, v, o', ho', d⟩ := Ce.all y b hy
    rw [e2] at ho'
    cases ho'
    exact ⟨v, d⟩
  have hsp := q L kps fit.free isc
  have hl : us.length = ps.length := by rw [← r.length]; exact F.len _ _ _ _ hsp
  have bd := hb s1 us I1.kIn (by rw [List.append_nil]; exact hl)
  rw [List.append_nil] at bd
  refine wpAny_call (codeAny_mono (F.run X.A X.stack s1 (addX H1 L) ⟨us, []⟩ us vs _ L2.E0 hr (add_env0 fit I1.env0) bd r hsp) fun r s' hq => ?_)
  cases r with
  | error e => exact (show False from hq).elim
  | ok fl =>
    cases fl with
    | ret u => exact I1.after (add_back fit hq fun v H' z => z)
    | next => exact False.elim hq
    | brk => exact False.elim hq
    | cont => exact False.elim hq
/-! ### a code object is no cell -/
theorem heap_sized : ∀ n : Nat, ∃ h : Heap, h.objs.size = n
  | 0 => ⟨{ objs := #[] }, rfl⟩
  | n + 1 => by
    obtain ⟨h, e⟩ := heap_sized n
    exact ⟨h.push { cls := .none, data := .plain }, by rw [Heap.size_push, e]⟩
theorem cell_no_code {c : Addr} {q : Str} {o : Obj} {v : Option Value} (hd : o.data = .cell v) : ExO c o ≠ CodeO c q := fun z => by
  obtain ⟨h, e⟩ : ∃ h : Heap, h.get? c = some o := by
    obtain ⟨h, eh⟩ := heap_sized c
    obtain ⟨oc, od, dt, sl⟩ := o
    obtain rfl : dt = .cell v := hd
    refine ⟨h.push ⟨oc, od, .cell v, sl⟩, ?_⟩
    rw [← eh]
    exact Heap.get?_push_size _ rfl
  unfold ExO CodeO at z
  injection z with z
  have y := congrFun z h
  have x : ∃ (oc : Obj) (vs : Array Value) (t : Tok), h.get? c = some oc ∧ oc.data = .fields vs ∧ vs[1]? = some (.str q t) := y.mp e
  obtain ⟨oc, vs, t, e1, e2, _⟩ := x
  rw [e] at e1
  cases e1
  rw [hd] at e2
  cases e2
end Clo

set_option Elab.async false
set_option maxRecDepth 100000
set_option maxHeartbeats 2000000
/-! The end of a specification's row whose defs make lambdas: the tables of their code objects are tracked from the start. -/
namespace Clo
open PySem PySem.Spec PyProof.Rows L2 LamX
open PySem.W (OpenSpec Codec WData)
mutual
theorem dw_same {K : PySem.W.Frag} {H H' : Hp} (e : Same H H') (et : ∀ a xs, SqT K H a xs → SqT K H' a xs) : ∀ {v : V} {d : WData}, Dw K H v d → Dw K H' v d
  | _, _, .non => .non
  | _, _, .bl b => .bl b
  | _, _, .int i => .int i
  | _, _, .str x => .str x
  | _, _, .byt b => .byt b
  | _, _, .lst h a => .lst (e.seq h) (dw_sameAll e et a)
  | _, _, .tup h a => .tup (et _ _ h) (dw_sameAll e et a)
theorem dw_sameAll {K : PySem.W.Frag} {H H' : Hp} (e : Same H H') (et : ∀ a xs, SqT K H a xs → SqT K H' a xs) : ∀ {vs : List V} {ds : List WData}, DwAll K H vs ds → DwAll K H' vs ds
  | _, _, .nil => .nil
  | _, _, .cons a b => .cons (dw_same e et a) (dw_sameAll e et b)
end

theorem sqT_same {K : PySem.W.Frag} {H H' : Hp} (e : Same H H') : ∀ a xs, SqT K H a xs → SqT K H' a xs := fun a xs h => by
  rcases h with (h | ⟨o, h⟩) | h
  · exact .inl (.inl (e _ _ h))
  · exact .inl (.inr ⟨o, e _ _ h⟩)
  · exact .inr h
/-- the call, the tables at cs told -/
theorem spec_callT {P : Program} {w : World} {K : PySem.W.Frag} {mg mb : Str → Option Value} {k : Nat} {fa : Addr} {fd : FuncData} {ps : List Str} {sp : Sp} {s1 : Shared} {vals : List Value} {ds : List WData} {R : PySem.W.WRecords} {cl : Str → Option Addr} {d0 : WData} {cs : List (Addr × Addr)}
    (KX : K.In s1.heap) (hns : s1.heap.Ns mainGlobals mg) (hb : s1.heap.Ns builtinsNs mb) (hbb : ∀ x : Str, x ≠ "__name__" → mb x = bootBuiltins x) (hlim : s1.heap.NoLimit) (hg : s1.gens = #[])
    (hT : ∀ p ∈ cs, s1.heap.get? p.2 = some (PySem.W.tabObj #[])) (nT : ∀ p ∈ cs, K.lookup p.2 = none) (C : ∀ p ∈ cs, PySem.W.CodeHd s1.heap p.1 p.2)
    (hbm : ∃ (bm : Addr) (ob : Obj), mg "__builtins__" = some (.ref bm) ∧ bm ≠ builtinsNs ∧ s1.heap.get? bm = some ob ∧ ob.cls = .type "module" ∧ ob.dict = some builtinsNs ∧ ob.data = .plain)
    (hwl : PySem.W.WellAll w.params s1.heap vals ds) (hpl : plWs ds = true) (hwt : ∀ d ∈ ds, d.weight ≤ 1048576) (hr : Room k callerA)
    (F : ∀ base : Heap, K.In base → base.Ns mainGlobals mg → (∀ p ∈ cs, TabB base mg p.1 p.2) → FnOk P w K mg base L2.CX0 k fa fd ps sp) (hbind : ∀ (s : Shared) (us : List Value), us.length = ps.length → BindsTo s fd ⟨us, []⟩ (ps.zip us)) (hlen : ds.length = ps.length)
    (hsp : ∀ (H : Hp) (xs : List V), (∀ p ∈ cs, H p.2 = some (.tbl #[])) → (∀ b, H b = none ∨ H b = some (.tbl #[]) ∨ ∃ o u, H b = some (.frz o u)) → DwAll K H xs ds → sp xs H (fun v H' => Dw K H' v d0) fun _ _ _ => False) :
    codeAny (model P w) callerA (.call (.ref fa) ⟨vals, []⟩) (fun r s' => ∃ u as, r = .ok (.ret u) ∧ PySem.W.ReadsW R cl s'.heap u d0 as ∧ OldK s1.heap s'.heap ∧ s'.os = s1.os ∧ AllBare s'.gens) s1 := by
  obtain ⟨A, ho, ar⟩ := area_all ds vals hwl hpl hwt
  have isT : ∀ b : Addr, b ∈ cs.map (·.2) → s1.heap.get? b = some (PySem.W.tabObj #[]) := fun b hb => by
    obtain ⟨p, hp, e⟩ := List.mem_map.mp hb
    rw [← e]
    exact hT p hp
  have memT : ∀ p ∈ cs, p.2 ∈ cs.map (·.2) := fun p hp => List.mem_map.mpr ⟨p, hp, rfl⟩
  have argT : ∀ {b u}, argH K s1.heap A b = some u → b ∉ cs.map (·.2) := fun {b u} q z => by
    obtain ⟨_, vs, _, _, ⟨e2, _⟩ | ⟨e2, _⟩⟩ := argH_is ar q
    · rw [isT b z] at e2; cases e2
    · rw [isT b z] at e2; cases e2
  -- what is tracked: the request's lists and the tables
  obtain ⟨H, hH⟩ : ∃ H : Hp, H = fun b => if b ∈ cs.map (·.2) then some (.tbl #[]) else argH K s1.heap A b := ⟨_, rfl⟩
  have HT : ∀ {b}, b ∈ cs.map (·.2) → H b = some (.tbl #[]) := fun {b} hb => by rw [hH]; exact if_pos hb
  have HA : ∀ {b}, b ∉ cs.map (·.2) → H b = argH K s1.heap A b := fun {b} hb => by rw [hH]; exact if_neg hb
  have sub : Same (argH K s1.heap A) H := fun b o e => (HA (argT e)).trans e
  have hok : HOk P w H s1.heap := fun b u e => by
    by_cases hb : b ∈ cs.map (·.2)
    · rw [HT hb] at e
      cases e
      exact isT b hb
    · rw [HA hb] at e
      exact (argH_ok ar b u e).stay (fun _ _ _ q => q) (fun c q => sub c _ q) fun c xs q => sub c _ q
  have hS : DwAll K H (vals.map toV) ds := dw_sameAll sub (sqT_same sub) (dw_all KX ar ds vals hwl hpl ho)
  have hV := vals_toV ho
  have only : ∀ {b}, H b = none ∨ b ∈ cs.map (·.2) ∨ ∃ o u, H b = some (.frz o u) := fun {b} => by
    by_cases hb : b ∈ cs.map (·.2)
    · exact .inr (.inl hb)
    · rw [HA hb]
      rcases argH_only ar b with z | z
      · exact .inl z
      · exact .inr (.inr z)
  -- an object that is neither a list, a tuple nor an empty table is not tracked
  have noH : ∀ {b : Addr} {o : Obj}, s1.heap.get? b = some o → (∀ vs n, o.data ≠ .seq vs n) → o.data ≠ .fields #[] → H b = none := fun {b o} e h1 h2 => by
    by_cases hb : b ∈ cs.map (·.2)
    · rw [isT b hb] at e
      cases e
      exact absurd rfl h2
    · rw [HA hb]
      cases q : argH K s1.heap A b with
      | none => rfl
      | some u =>
        obtain ⟨_, vs, _, _, ⟨e2, _⟩ | ⟨e2, _⟩⟩ := argH_is ar q
        · rw [e2] at e; cases e; exact absurd rfl (h1 _ _)
        · rw [e2] at e; cases e; exact absurd rfl (h1 _ _)
  have nK : ∀ b o, K.lookup b = some o → H b = none := fun b o e => by
    by_cases hb : b ∈ cs.map (·.2)
    · obtain ⟨p, hp, ep⟩ := List.mem_map.mp hb
      rw [← ep, nT p hp] at e
      cases e
    · rw [HA hb]
      cases q : argH K s1.heap A b with
      | none => rfl
      | some u =>
        rw [(argH_is ar q).1] at e
        cases e
  have bas : ∀ {b : Addr} {o : Obj}, s1.heap.get? b = some o → H b = none → (hidT s1.heap H).get? b = some o := fun e n => hidT_get e n
  have nsB : ∀ {b : Addr} {m : Str → Option Value}, s1.heap.Ns b m → (hidT s1.heap H).Ns b m := fun {b m} ⟨o, es, ep, e, d, r⟩ => ⟨o, es, ep, bas e (noH e (fun vs n z => by rw [d] at z; cases z) fun z => by rw [d] at z; cases z), d, r⟩
  have inB : K.In (hidT s1.heap H) := fun b o e => bas (KX b o e) (nK b o e)
  have hM : L2.Mod K mg (hidT s1.heap H) := ⟨inB, nsB hns, ⟨mb, nsB hb, hbb⟩, let ⟨mc, h1, h2⟩ := hlim; ⟨mc, nsB h1, h2⟩⟩
  have TB : ∀ p ∈ cs, TabB (hidT s1.heap H) mg p.1 p.2 := fun p hp => by
    have tp := hT p hp
    refine ⟨?_, ?_, fun z => ?_⟩
    · obtain ⟨o, us, file, tf, flags, tg, inF, text, tt, e1, r1, r2, r3, r⟩ := C p hp
      refine ⟨o, us, file, tf, flags, tg, inF, text, tt, bas e1 (noH e1 (fun vs n z => ?_) fun z => ?_), r1, r2, r3, r⟩
      · rw [r2] at z; cases z
      · rw [r2] at z; cases z; simp at r3
    · obtain ⟨bm, ob, b1, b2, b3, b4, b5, b6⟩ := hbm
      refine ⟨bm, ob, b1, b2, fun q => ?_, fun q => ?_, bas b3 (noH b3 (fun vs n z => ?_) fun z => ?_), b4, b5, b6⟩
      · obtain ⟨o, es, ep, e, hd, _⟩ := hns
        rw [q, e] at b3; cases b3
        rw [hd] at b6; cases b6
      · rw [q, tp] at b3; cases b3; cases b6
      · rw [b6] at z; cases z
      · rw [b6] at z; cases z
    · obtain ⟨o, es, ep, e, hd, _⟩ := hns
      rw [z, tp] at e; cases e; cases hd
  have e0 : Env0 P w K mg (hidT s1.heap H) callerA [] s1 H := ⟨rfl, hM, fun b o e => of_hidT e, Nat.le_of_eq (hidT_size _ _), trivial, fun b hb => absurd (show b ∈ ([] : List Addr) from hb) (by simp), hok, .of_eq hg⟩
  have hl : vals.length = ps.length := by rw [wellAll_len hwl]; exact hlen
  refine codeAny_mono ((F _ inB (nsB hns) TB).run callerA [] s1 H ⟨vals, []⟩ vals (vals.map toV) _ _ hr e0 (hbind s1 vals hl) hV (hsp H _ (fun p hp => HT (memT p hp)) (fun b => (only (b := b)).imp id fun z => z.imp HT id) hS)) fun r s' x => ?_
  cases r with
  | error e => exact (show False from x).elim
  | ok fl =>
    cases fl with
    | next => exact False.elim x
    | brk => exact False.elim x
    | cont => exact False.elim x
    | ret u =>
      obtain ⟨v, H', os, bare, un, hok', r', q⟩ := x
      have key : ∀ b o, b ∉ cs.map (·.2) → s1.heap.get? b = some o → s'.heap.get? b = some o := fun b o nb e => by
        rcases only (b := b) with z | z | ⟨ob, u, z⟩
        · exact un.keep b o e z (by intro y; exact absurd (show b ∈ ([] : List Addr) from y) (by simp)) (by simp)
        · exact absurd z nb
        · obtain ⟨e1, _⟩ := hok b _ z
          obtain ⟨e2, _⟩ := hok' b _ (un.frzs b ob _ z)
          rw [e] at e1; cases e1
          exact e2
      have grown : ∀ p ∈ cs, ∃ more : Array Value, s'.heap.get? p.2 = some (PySem.W.tabObj more) := fun p hp => by
        obtain ⟨more, z⟩ := un.tbls p.2 #[] (HT (memT p hp))
        exact ⟨_, hok' p.2 _ z⟩
      have KX' : K.In s'.heap := fun b o e => key b o (fun hb => by
        obtain ⟨p, hp, ep⟩ := List.mem_map.mp hb
        rw [← ep, nT p hp] at e
        cases e) (KX b o e)
      obtain ⟨as, hrd⟩ := Dw.reads (R := R) (cl := cl) hok' KX' d0 v u q r'
      refine ⟨u, as, rfl, hrd, ⟨fun b o e => ?_, fun b o e => ?_⟩, os, bare⟩
      · by_cases hb : b ∈ cs.map (·.2)
        · obtain ⟨p, hp, ep⟩ := List.mem_map.mp hb
          obtain ⟨more, hm⟩ := grown p hp
          rw [← ep] at e ⊢
          rw [hT p hp] at e
          cases e
          exact .inr (.inl ⟨((C p hp).tab (hT p hp)).isCodeTable, rfl, #[], more, rfl, by rw [Array.empty_append]; exact hm⟩)
        · exact .inl (key b o hb e)
      · by_cases hb : b ∈ cs.map (·.2)
        · obtain ⟨p, hp, ep⟩ := List.mem_map.mp hb
          obtain ⟨more, hm⟩ := grown p hp
          rw [← ep]
          exact ⟨_, hm⟩
        · exact ⟨o, key b o hb e⟩
/-- a def that makes lambdas, by its name: its code object and that one's table -/
structure Maker (q : Program) (K : PySem.W.Frag) (x : Str) (p : Addr × Addr) : Prop where
  rec_ : ∃ d, (recsOf q).find? (fun e => e.name == x) = some d
  tab : PySem.W.tabIn K x = some p
  out : K.lookup p.2 = none
theorem walk_specT {r : OpenSpec} {k : Nat} {q : Program} {loose : List Str} {XP : (Str → Option Value) → Heap → Prop} {YP : World → Heap → Prop} {d : DefRec} {K : PySem.Params → PySem.W.Frag} {ps : List Str} {sp : PySem.W.Frag → List (Addr × Addr) → Sp}
    (hwell : r.wellSaid = true) (_hdf : d.params.defaults = []) (hlen : r.args.length = ps.length) (hr : Room k callerA)
    (hY : ∀ (w : World) (h : Heap), YP w h → (K w.params).In h)
    (F : ∀ (w : World) (mg : Str → Option Value) (fa : Addr) (h : Heap), YP w h → (K w.params).In h → h.Ns mainGlobals mg → mg d.name = some (.ref fa) →
      ∃ (fd : FuncData) (xs : List Str) (cs : List (Addr × Addr)), Paired (Maker q (K w.params)) xs cs ∧ (∀ (s : Shared) (us : List Value), us.length = ps.length → BindsTo s fd ⟨us, []⟩ (ps.zip us)) ∧
        (∀ base : Heap, (K w.params).In base → base.Ns mainGlobals mg → (∀ p ∈ cs, TabB base mg p.1 p.2) → FnOk r.prog w (K w.params) mg base L2.CX0 k fa fd ps (sp (K w.params) cs)))
    (hsp : ∀ (K : PySem.W.Frag) (cs : List (Addr × Addr)) (H : Hp) (xs : List V) (a : Codec.denoteAll r.args), (∀ p ∈ cs, H p.2 = some (.tbl #[])) → (∀ b, H b = none ∨ H b = some (.tbl #[]) ∨ ∃ o u, H b = some (.frz o u)) → Codec.withinAll r.args a = true → Codec.app r.args r.asked a = true → DwAll K H xs (Codec.encAll r.args a) →
      sp K cs xs H (fun v H' => Dw K H' v (r.ret.enc (Codec.app r.args r.f a))) fun _ _ _ => False) :
    PySem.W.WalkOS q loose XP YP r d [] (fun f vs => PySem.call f vs) := by
  intro w s0 s1 mg mb G Y fa o pm cd doc dV kV ho hd hcd hD hmg hg args vals as hpre hlay hrd hwl hlo
  obtain ⟨a, e1, e2⟩ := PySem.W.os_pre_some hpre
  obtain ⟨e3, hwi⟩ := Codec.encAll_of_decAll r.args args a e1
  subst e3
  have KX := hY w _ Y
  obtain ⟨fd, xs, cs, hcs, hb, hF⟩ := F w mg fa _ Y KX G.T.g hmg
  have mk : ∀ p ∈ cs, ∃ x, Maker q (K w.params) x p := by
    clear hF hb
    induction hcs with
    | nil => intro p hp; exact absurd hp (by simp)
    | cons m _ ih =>
      intro p hp
      rcases List.mem_cons.mp hp with z | z
      · exact ⟨_, z ▸ m⟩
      · exact ih p z
  have tb : ∀ p ∈ cs, PySem.W.CodeHd s1.heap p.1 p.2 ∧ s1.heap.get? p.2 = some (PySem.W.tabObj #[]) := fun p hp => by
    obtain ⟨x, m⟩ := mk p hp
    obtain ⟨dr, hdr⟩ := m.rec_
    exact PySem.W.tab_of G.T KX hdr m.tab
  refine PySem.W.enter_call (codeAny_mono (spec_callT (R := []) (cl := classAt s0.heap) (d0 := r.ret.enc (Codec.app r.args r.f a)) KX G.T.g G.T.b G.T.builtins G.T.nolimit hg (fun p hp => (tb p hp).2) (fun p hp => let ⟨_, m⟩ := mk p hp; m.out) (fun p hp => (tb p hp).1) G.T.bmain hwl (pl_encAll _ _) (layable_weight hlay) hr hF hb (by rw [encAll_len]; exact hlen)
    (fun H ys hT hO hS => hsp (K w.params) cs H ys a hT hO hwi e2 hS)) fun r' s' hq => ?_)
  obtain ⟨u, as', rfl, h1, h2, h3, h4⟩ := hq
  exact ⟨.inl ⟨u, _, as', rfl, fun _ => rfl, h1, (OpenSpec.post_iff hwell hwi _ _).mpr rfl, fun z => Bool.noConfusion (show false = true from z)⟩, h2, h3, h4⟩
end Clo

set_option Elab.async false
set_option maxRecDepth 100000
set_option maxHeartbeats 2000000
/-! list(reversed(a list)); xs.extend(a tuple); code that is never come to. -/
namespace RvL
open PySem PySem.Spec PyProof.Rows L2 RT
section
variable {prog : Program} {w : World} {A : Around} {E : Value → Shared → Prop} {s : Shared}
theorem extend_rev {R : Result → Shared → Prop} {it l S : Addr} {items : Array Value} {c0 : Nat} {res : Value} (hh : A.handled = none) (hit : s.heap.IsRevIter it l ((items.size : Int) - 1)) (hl : s.heap.IsList l items) (hne : l ≠ it) (hn : items.size ≤ sizeLine)
    (hS : s.heap.get? S = some { cls := .type "list", data := .seq #[] c0 }) (hSi : S ≠ it) (hSl : S ≠ l)
    (hR : ∀ (h' : Heap) (tk : Nat) (acc : Array Value) (c' : Nat), (∀ b o, b ≠ S → b ≠ it → s.heap.get? b = some o → h'.get? b = some o) → h'.get? S = some { cls := .type "list", dict := none, data := .seq acc c', slots := #[] } →
      ItemsOf (fun i v => items[items.size - 1 - i]? = some v) acc items.size → R (.ok (.ret res)) { s with heap := h', toks := tk }) :
    wpAny (model prog w) A.in1 (Builtin.List.listExtendWith (.ref S) (.ref it) res)
      (fun fin s' => match fin with | .done f => R (.ok f) s' | .again c' => c'.quiet = true ∧ codeAny (model prog w) A c' R s') (fun e s' => R (.error e) s') s := by
  have W := (Walks.listRev (prog := prog) (w := w) (A := A.in1) hh it l hne items).toS
  have hSf : S ∉ [it, l] := by simp only [List.mem_cons, List.not_mem_nil, or_false, not_or]; exact ⟨hSi, hSl⟩
  have hT : s.TypeIs (.ref it) "list_reverseiterator" := Heap.IsRevIter.typeIs hit
  have h1 : Builtin.List.listSameRef (.ref S) (.ref it) = false := by simp [Builtin.List.listSameRef, hSi]
  unfold Builtin.List.listExtendWith
  refine wpAny_bind (wpAny_typeOf hT ?_)
  rw [if_neg (by rw [h1]; decide)]
  refine wpAny_bind (wpAny_pyIter_revIter hit ?_)
  refine wpAny_bind (wpAny_holding ?_)
  unfold Builtin.List.listLengthHint
  refine wpAny_bind (wpAny_specialOf hT nolen_lri ?_)
  show wpAny _ A.in1 (specialOf (Value.ref it) (Str.ofString "__length_hint__") >>= _) _ _ _
  refine wpAny_bind (wpAny_specialOf hT hint_lri ?_)
  generalize hid : ("list_reverseiterator.__length_hint__" : String) = id0
  wp_delta
  rw [show splitId id0 = some ("list_reverseiterator", "__length_hint__") from by subst hid; decide +kernel]
  subst hid
  refine wpAny_bind (wpAny_isInstance (b := true) hT (by rw [isSubtype_type]; kernel_rfl) ?_)
  refine wpAny_pure ?_
  rw [if_neg (by decide)]
  have e0 : ((items.size : Nat) : Int) - 1 - ((0 : Nat) : Int) = (items.size : Int) - 1 := by omega
  refine wpAny_pure ⟨plainId_quiet F.plain_extend_loop _, codeAny_extend_loopS W hn _ hSf _ items.size 0 _ _ _ rfl (Nat.zero_le _) ⟨Nat.zero_le _, by rw [e0]; exact hit, hl⟩ hS (ItemsOf.nil _) fun s' acc' c' hm hS' hacc => ?_⟩
  rw [Moved.eq_with hm]
  refine hR s'.heap s'.toks acc' c' (fun b o hb hb2 e => hm.heap b o (fun hmem => ?_) e) hS' hacc
  rcases List.mem_cons.mp hmem with e' | hmem
  · exact hb e'
  · exact hb2 (List.mem_singleton.mp hmem)
theorem call_list_rev {it l : Addr} {items : Array Value} {Q : Value → Shared → Prop} (hh : A.handled = none) (hit : s.heap.IsRevIter it l ((items.size : Int) - 1)) (hl : s.heap.IsList l items) (hne : l ≠ it) (hn : items.size ≤ sizeLine)
    (hQ : ∀ (h' : Heap) (tk : Nat) (acc : Array Value) (c' : Nat), (∀ b o, b ≠ it → s.heap.get? b = some o → h'.get? b = some o) → h'.get? s.heap.objs.size = some { cls := .type "list", dict := none, data := .seq acc c', slots := #[] } →
      ItemsOf (fun i v => items[items.size - 1 - i]? = some v) acc items.size → Q (.ref s.heap.objs.size) { s with heap := h', toks := tk }) :
    wpAny (model prog w) A (call (.type "list") [.ref it]) Q E s := by
  refine callType_codes (Q₁ := fun obj s2 => obj = .ref s.heap.objs.size ∧ s2 = { s with heap := s.heap.push { cls := .type "list", data := .seq #[] } }) F.called_list (F.typeCall_list_1 _) F.entry_list_init
    (code_list_new _ ⟨rfl, rfl⟩) fun obj s2 h2 => ?_
  obtain ⟨rfl, rfl⟩ := h2
  have hS : (s.heap.push { cls := .type "list", data := .seq #[] }).get? s.heap.objs.size = some { cls := .type "list", data := .seq #[] } := Heap.get?_push_size _ rfl
  obtain ⟨oi, hoi, _⟩ := id hit
  obtain ⟨ol, hol, _⟩ := id hl
  have hSi : s.heap.objs.size ≠ it := Nat.ne_of_gt (Heap.lt_size hoi)
  have hSl : s.heap.objs.size ≠ l := Nat.ne_of_gt (Heap.lt_size hol)
  refine ⟨⟨_, hS, rfl⟩, F.args_list_init_2 _ _, ?_⟩
  show wpAny _ _ (do let old ← Builtin.List.listItems (.ref s.heap.objs.size); Builtin.List.listUpdate (.ref s.heap.objs.size) (fun _ => #[]); letGo old.toList.reverse; Builtin.List.listExtendWith (.ref s.heap.objs.size) (.ref it) .none) _ _ _
  refine wpAny_bind ?_
  unfold Builtin.List.listItems
  refine wpAny_bind (wpAny_seqItems hS rfl (wpAny_pure ?_))
  show wpAny _ _ (updateSeq s.heap.objs.size (fun _ => #[]) >>= fun _ => letGo (#[] : Array Value).toList.reverse >>= fun _ => Builtin.List.listExtendWith (.ref s.heap.objs.size) (.ref it) .none) _ _ _
  refine wpAny_bind (wpAny_updateSeq hS rfl ?_)
  have hS2 := Heap.get?_update_self (Obj.mapSeq (fun _ => (#[] : Array Value))) hS rfl
  have oth : ∀ b o, b ≠ s.heap.objs.size → s.heap.get? b = some o → ((s.heap.push { cls := .type "list", data := .seq #[] }).update s.heap.objs.size (Obj.mapSeq (fun _ => (#[] : Array Value)))).get? b = some o :=
    fun b o hb e => (Heap.get?_update_other _ _ (Ne.symm hb)).trans (Heap.get?_push_of_some _ e)
  refine wpAny_bind (wpAny_letGo ?_)
  refine extend_rev (A := A.in1) hh (hit.at fun o e => oth _ o hSi.symm e) (let ⟨o, e, r⟩ := hl; ⟨o, oth _ o hSl.symm e, r⟩) hne hn hS2 hSi hSl fun h' tk acc c' hk hS' hacc => ?_
  exact ⟨rfl, hQ h' tk acc c' (fun b o hb e => hk b o (Nat.ne_of_lt (Heap.lt_size e)) hb (oth b o (Nat.ne_of_lt (Heap.lt_size e)) e)) hS' hacc⟩
end
/-- list(reversed(x)), x a list: a new list -/
def tLstRev (K : PySem.W.Frag) (te : TE) : TE := fun σ H Q => te σ H fun v H1 => ∃ (a : Addr) (xs : List V), v = .ref a ∧ SqL K H1 a xs ∧ ∀ q, H1 q = none → Q (.ref q) (upd H1 q (.lst xs.reverse))
theorem pe_lstRev {X : Cx} {e : Expr} {te : TE} {p p2 pos pos2 : Pos} (hc : X.calm = true) (hg : Gl X "list") (hm : X.mg "list" = none) (hg2 : Gl X "reversed") (hm2 : X.mg "reversed" = none) (he : PE X e te)
    (hs : starEach [e] X.env = (false, eval e X.env) :: starEach [] X.env := by rfl)
    (hs2 : starEach [.Call (.Name "reversed" p2) [e] [] pos2] X.env = (false, eval (.Call (.Name "reversed" p2) [e] [] pos2) X.env) :: starEach [] X.env := by rfl) :
    PE X (.Call (.Name "list" p) [.Call (.Name "reversed" p2) [e] [] pos2] [] pos) (tLstRev X.K te) := by
  refine ⟨fun pins s σ H Q I h => ?_⟩
  refine Call_ (ld_blt I hg hm PyProof.Rows.boot_list (PyProof.Rows.callWith_type1 (args_cons (Call_ (ld_blt I hg2 hm2 PyProof.Rows.boot_reversed (PyProof.Rows.callWith_type1 (args_cons (thn (he.run pins s σ H _ I h) fun u s1 ⟨v, H1, I1, r1, q1⟩ => args_nil ?_) hs) hs rfl))) hs2) hs2 rfl))
  obtain ⟨a, xs, rfl, hq, q⟩ := q1
  obtain rfl : u = Value.ref a := r1
  obtain ⟨its, rv, p', hz⟩ := I1.list hq
  refine call_reversed_list p'.isList (args_nil ?_)
  have I2 : Inv X pins σ H1 { s1 with heap := s1.heap.push (revObj a ((its.toArray.size : Int) - 1)) } := I1.kept (t' := s1.toks) fun b o e => Heap.get?_push_of_some _ e
  obtain ⟨f0, f1, f2, f3, f4, f5⟩ := I1.fpOk (H' := H1) (b := s1.heap.objs.size) (Nat.le_refl _) (I1.hok.fresh (Nat.le_refl _))
  have hl := p'.isList
  obtain ⟨ol, hol, _⟩ := id hl
  have hne : a ≠ s1.heap.objs.size := Nat.ne_of_lt (Heap.lt_size hol)
  have hn : its.toArray.size ≤ sizeLine := by rw [List.size_toArray, ← rv.length]; exact hz
  refine call_list_rev (s := { s1 with heap := s1.heap.push (revObj a ((its.toArray.size : Int) - 1)) }) (I1.ok.hd hc) ⟨_, Heap.get?_push_size _ rfl, rfl, rfl⟩ (hl.push _) hne hn fun h' tk acc c' hk hS' hi => ?_
  -- the iterator has turned, the new list is laid
  generalize hh1 : s1.heap.push (revObj a ((its.toArray.size : Int) - 1)) = h1 at I2 hk hS'
  have fS : H1 h1.objs.size = none := I2.hok.fresh (Nat.le_refl _)
  have nS : ∀ b o, h1.get? b = some o → b ≠ h1.objs.size := fun b o e => Nat.ne_of_lt (Heap.lt_size e)
  have uS : ∀ {b u}, H1 b = some u → upd H1 h1.objs.size (.lst xs.reverse) b = some u := fun {b u} e => (upd_ne (ne_of_none e fS)).trans e
  have nit : ∀ {b u}, H1 b = some u → b ≠ s1.heap.objs.size := fun {b u} e => ne_of_none e f0
  refine ⟨.ref h1.objs.size, upd H1 h1.objs.size (.lst xs.reverse), ?_, rfl, q _ fS⟩
  refine I2.step (g' := s1.gens) (d' := s1.drawn) (ch := [s1.heap.objs.size]) (fun b hb => ?_) (fun b o _ _ hc e _ => hk b o (fun z => hc (by simp [z])) e) (fun b o _ _ hc e _ => ⟨o.slots, hk b o (fun z => hc (by simp [z])) e⟩)
    (fun b o _ e n => (upd_ne (nS b o e)).trans n) (fun b o hc e => ⟨o, hk b o (fun z => hc (by simp [z])) e⟩) (fun b ys e => uS e) (fun b o u e => uS e) (fun b ps e => ⟨#[], by rw [uS e]; simp⟩) (fun m hm => ?_) (fun b u e => ?_) I2.bare
  · have e : b = s1.heap.objs.size := by simpa using hb
    subst e
    exact ⟨f3, f1, f4, f5⟩
  · obtain ⟨o, es, ep, ho, r⟩ := hm
    exact ⟨o, es, ep, hk _ o (Ne.symm f1) ho, r⟩
  · by_cases hb : b = h1.objs.size
    · rw [hb, upd_same] at e
      cases e
      rw [hb]
      exact ⟨by rw [List.length_reverse]; exact hz, acc.toList, c', vals_rev rv hi, by rw [Array.toArray_toList]; exact hS'⟩
    · rw [upd_ne hb] at e
      refine (I2.hok b u e).stay (fun c v hc r => hk c v ?_ r) (fun c r => uS r) fun c ys r => uS r
      rcases hc with z | z
      · rw [z]; exact nit e
      · exact nit z
open AutoSeq1 in
theorem extend_tup (l : Addr) (items : Array Value) (n : Nat) (b : Addr) (items2 : Array Value) (n2 : Nat) (od : Option Addr) (sl : Array (Option Value)) (hs0 : ¬(!items.isEmpty && Builtin.List.listTooLong (items.size + items2.size)) = true) (hs1 : items.size ≤ sizeLine) (hs2 : items.size + items2.size ≤ sizeLine + 1) :
    Meets (Builtin.«list.extend» ⟨[.ref l, .ref b], []⟩) (fun _ R s => s.heap.get? l = some { cls := .type "list", data := .seq items n } ∧ s.heap.get? b = some ⟨.type "tuple", od, .seq items2 n2, sl⟩ ∧ R (.ok (.ret Value.none)) { s with heap := s.heap.update l (Obj.mapSeq fun x => x ++ items2), toks := s.toks }) :=
  .of_wp fun prog w A R s h => by
    obtain ⟨hp, g, d, tk, os⟩ := s
    obtain ⟨hl, hb, h⟩ := h
    have f2 := AutoSeq1.sub_tuple_tuple
    have f3 := AutoSeq1.sub_list_list
    have f4 := AutoSeq1.sub_tuple_list
    have f5 := AutoSeq1.sub_list_tuple
    have hz' : (items ++ items2).size ≤ sizeLine + 1 := by rw [Array.size_append]; exact hs2
    wp_walk using (wpAny_updateSeq hl rfl (hz := hs1) (_hz' := hz')), wpAny_loadPart' hl, wpAny_loadPart' hb
    exact ⟨_, rfl, h⟩
section
variable {X : Cx}
/-- xs.extend(t), t a tuple -/
def rExtT : V → List V → Hp → VK → Prop := fun x vs H Q => ∃ l b xs zs, x = .ref l ∧ vs = [.ref b] ∧ H l = some (.lst xs) ∧ H b = some (.tup zs) ∧ xs.length + zs.length ≤ sizeLine ∧ Q .non (upd H l (.lst (xs ++ zs)))
theorem mt_extT : MtM X "list.extend" rExtT := by
  intro pins s σ H x vs v us Q I rx rv h
  obtain ⟨l, b, xs, zs, rfl, rfl, hH, hB, hz, q⟩ := h
  cases rx
  obtain ⟨u, rfl, ru⟩ := rv.one
  cases ru
  obtain ⟨z, its, n, r, hl, e⟩ := I.lstM hH
  obtain ⟨z2, its2, r2, ⟨oc, od, dt, sl⟩, e2, hc2, n2, hd2⟩ := I.hok b _ hB
  obtain rfl : oc = .type "tuple" := hc2
  obtain rfl : dt = .seq its2.toArray n2 := hd2
  have hl2 := r2.length
  have hsz : its.toArray.size + its2.toArray.size ≤ sizeLine := by rw [List.size_toArray, List.size_toArray]; omega
  have hlong : ¬ (!its.toArray.isEmpty && Builtin.List.listTooLong (its.toArray.size + its2.toArray.size)) = true := by
    rw [notLongL hsz, Bool.and_false]
    decide
  refine call_meets F.slot_list_extend ⟨_, e, rfl⟩ F.entry_list_extend (F.args_list_extend_2 _ _) (extend_tup l its.toArray n b its2.toArray n2 od sl hlong (by rw [List.size_toArray]; omega) (by omega)) ⟨e, e2, ?_⟩
  refine ⟨.non, _, I.lset (its' := its ++ its2) hH e (by simp) (r.append r2) ?_, rfl, q⟩
  rw [List.length_append]
  omega
/-- what is never come to -/
theorem ps_dead {st : Stmt} : PS X st (fun _ _ _ => False) := ⟨fun _ _ _ _ _ _ h => h.elim⟩
end
end RvL

set_option Elab.async false
set_option maxRecDepth 100000
set_option maxHeartbeats 2000000
/-! The program's text by places, what its top has written, the objects. -/
namespace Wp
open PySem PySem.Spec PyProof.Rows L2 Wc
def top (i : Nat) : Stmt := PySem.Challenge.pw_whatcanbe_s01_answers.main.body.getD i (.Pass ⟨0, 0, 0, 0⟩)
abbrev sRoleBit : Stmt := top 3
abbrev sRoleBits : Stmt := top 4
abbrev sRolesHeld : Stmt := top 5
abbrev sUsersHolding : Stmt := top 6
abbrev sSrInit : Stmt := inClass (top 8) 0
abbrev sGo : Stmt := inClass (top 8) 1
abbrev sVisit : Stmt := inClass (top 8) 2
abbrev sStepsTo : Stmt := inClass (top 8) 3
abbrev sFindPlan : Stmt := top 9
abbrev sCountWays : Stmt := top 10
abbrev sTellPlan : Stmt := top 11
abbrev sRows : Stmt := top 12
abbrev sShare : Stmt := top 13
abbrev sFindGuard : Stmt := top 14
abbrev sRuleInit : Stmt := inClass (top 16) 0
abbrev sMoveInit : Stmt := inClass (top 17) 0
abbrev sMay : Stmt := inClass (top 17) 1
abbrev sBehind : Stmt := inClass (top 17) 2
abbrev sTellStep : Stmt := inClass (top 17) 3
abbrev sMovesOf : Stmt := top 18
/-- addresses of what the top has written -/
structure Ad where
  U : Addr
  R : Addr
  CS : Addr
  CR : Addr
  CM : Addr
  CH : Addr
  CD : Addr
def uV : List V := [.int 1, .int 2, .int 3]
def rV : List V := [.int 1, .int 2, .int 3, .int 4]
structure Txt (K : PySem.W.Frag) (mg : Str → Option Value) (a : Ad) : Prop where
  gU : mg "USERS" = some (.ref a.U)
  gR : mg "ROLES" = some (.ref a.R)
  sU : ∀ H, SqT K H a.U uV
  sR : ∀ H, SqT K H a.R rV
  len : mg "len" = none
  list : mg "list" = none
  reversed : mg "reversed" = none
  range : mg "range" = none
  sum : mg "sum" = none
  any : mg "any" = none
  all : mg "all" = none
  sorted : mg "sorted" = none
  enumerate : mg "enumerate" = none
  gSearch : mg "Search" = some (.ref a.CS)
  gRule : mg "Rule" = some (.ref a.CR)
  gMove : mg "Move" = some (.ref a.CM)
  cS : Cls K a.CS
  cR : Cls K a.CR
  cM : Cls K a.CM
  nSmoves : NoAttr K a.CS "moves"
  nScame : NoAttr K a.CS "came_by"
  nSqueue : NoAttr K a.CS "queue"
  nGives : NoAttr K a.CR "gives"
  nAdmin : NoAttr K a.CR "admin"
  nRole : NoAttr K a.CR "role"
  nNeeded : NoAttr K a.CR "needed"
  nBarred : NoAttr K a.CR "barred"
  nMk : NoAttr K a.CM "k"
  nMadmin : NoAttr K a.CM "admin"
  nMdoers : NoAttr K a.CM "doers"
  nMwhom : NoAttr K a.CM "whom"
  nMentitled : NoAttr K a.CM "entitled"
  nMchange : NoAttr K a.CM "change"
  nMpresent : NoAttr K a.CM "present"
  nMabsent : NoAttr K a.CM "absent"
/-- numbers -/
def iV (n : Nat) : V := .int (n : Int)
def iVs (l : List Nat) : List V := l.map iV
end Wp

set_option Elab.async false
set_option maxRecDepth 100000
set_option maxHeartbeats 2000000
namespace Wp
open PySem PySem.Spec PyProof.Rows L2 Wc
open Wm04 (place has)
/-! ### bits of Python's numbers -/
theorem bNot (a : Nat) : Builtin.bitNot (a : Int) = -(a : Int) - 1 := rfl
theorem bAnd (a b : Nat) : Builtin.bitAnd (a : Int) (b : Int) = ((a &&& b : Nat) : Int) := by
  unfold Builtin.bitAnd
  rw [decide_eq_true (Int.natCast_nonneg a), decide_eq_true (Int.natCast_nonneg b)]
  simp
theorem bAndNot (a b : Nat) : Builtin.bitAnd (a : Int) (Builtin.bitNot (b : Int)) = ((a - (a &&& b) : Nat) : Int) := by
  have h : ¬ (0 ≤ Builtin.bitNot (b : Int)) := by rw [bNot]; omega
  have e : (Builtin.bitNot (Builtin.bitNot (b : Int))).toNat = b := by unfold Builtin.bitNot; omega
  have le : a &&& b ≤ a := Nat.and_le_left
  unfold Builtin.bitAnd
  rw [decide_eq_true (Int.natCast_nonneg a), decide_eq_false h]
  simp only [e, Int.toNat_natCast]
  omega
theorem bOr (a b : Nat) : Builtin.bitOr (a : Int) (b : Int) = ((a ||| b : Nat) : Int) := by
  have h : ∀ n : Nat, ¬ (0 ≤ Builtin.bitNot (n : Int)) := fun n => by rw [bNot]; omega
  have e : ∀ n : Nat, (Builtin.bitNot (Builtin.bitNot (n : Int))).toNat = n := fun n => by unfold Builtin.bitNot; omega
  unfold Builtin.bitOr Builtin.bitAnd
  rw [decide_eq_false (h a), decide_eq_false (h b)]
  simp only [e]
  show -(-((a ||| b : Nat) : Int) - 1) - 1 = _
  omega
theorem bXor {s k : Nat} (hs : s < 4096) (hk : k < 12) : Builtin.bitXor (s : Int) ((2 ^ k : Nat) : Int) = ((s ^^^ 2 ^ k : Nat) : Int) := by
  unfold Builtin.bitXor
  rw [bOr, bAnd]
  cases h : s.testBit k with
  | false =>
    obtain ⟨e1, e2, _⟩ := bits_off hs hk h
    have z : s &&& 2 ^ k = 0 := and_none.mpr (one_none.mpr h)
    rw [z, ← e2, e1]
    simp
  | true =>
    obtain ⟨e1, _⟩ := bits_on hs hk h
    have z : s &&& 2 ^ k = 2 ^ k := and_all.mpr (one_all.mpr h)
    have y : s ||| 2 ^ k = s := Nat.eq_of_testBit_eq fun i => by
      rw [Nat.testBit_or, Nat.testBit_two_pow]
      by_cases e : k = i
      · subst e; rw [h]; rfl
      · simp [e]
    have le : 2 ^ k ≤ s := by rw [← z]; exact Nat.and_le_left
    rw [z, y, ← e1]
    omega
theorem two_lt {k : Nat} (hk : k < 12) : 2 ^ k < 4096 := Nat.lt_of_lt_of_le (Nat.pow_lt_pow_right (by decide) hk) (by decide)
theorem iVs_get {l : List Nat} {i : Nat} {y : V} (h : (iVs l)[i]? = some y) : ∃ z, l[i]? = some z ∧ y = iV z := by
  unfold iVs at h
  rw [List.getElem?_map] at h
  cases e : l[i]? with
  | none => rw [e] at h; cases h
  | some z => rw [e] at h; exact ⟨z, rfl, (Option.some.inj h).symm⟩
theorem take_more {α : Type} {l : List α} {i : Nat} {x : α} (h : l[i]? = some x) : l.take (i + 1) = l.take i ++ [x] := by
  obtain ⟨hi, e⟩ := List.getElem?_eq_some_iff.mp h
  rw [List.take_add_one, h]
  rfl
theorem iVs_len (l : List Nat) : (iVs l).length = l.length := List.length_map _
theorem uV_eq : uV = iVs [1, 2, 3] := rfl
theorem rV_eq : rV = iVs [1, 2, 3, 4] := rfl
/-- a comprehension without a test -/
theorem tYes_then {σ : L2.St} {H : Hp} {A B : Hp → Prop} (h : A H) : tYes σ H (fun b H3 => if b = true then A H3 else B H3) := by
  show (if true = true then A H else B H)
  rw [if_pos rfl]
  exact h
/-! ### rules told at a fragment's own letter, for what stands in a comprehension -/
section
variable {X : Cx} {K : PySem.W.Frag} {e : Expr} {ta : TE} {f : Str} {pos : Pos}
theorem pe_fldK (he : PE X e ta) (hK : X.K = K) (hb : attributeBase e f X.env (eval e X.env) = eval e X.env) : PE X (.Attribute e f pos) (tFld K ta f) := by
  subst hK
  exact pe_fld he hb
theorem ix_tupK (hK : X.K = K) : IxR X (rIxT K) := by subst hK; exact ix_tup
theorem ix_listK (hK : X.K = K) : IxR X (rIxL K) := by subst hK; exact ix_list
theorem op_inK (hK : X.K = K) : OpR X (compareOp .In) (rIn K false) := by subst hK; exact op_in_seq
theorem op_notInK (hK : X.K = K) : OpR X (compareOp .NotIn) (rIn K true) := by subst hK; exact op_notIn_seq
theorem call_lenK (hK : X.K = K) : CallR X (.builtin "len") (fun xs H Q => ∃ p ys, xs = [.ref p] ∧ (SqL K H p ys ∨ SqT K H p ys) ∧ Q (.int ys.length) H) := by subst hK; exact call_len_seq
end
section
variable {P : Program} {w : World} {K : PySem.W.Frag} {mg : Str → Option Value} {base : Heap} {a : Ad}
/-! ### role_bit -/
def spRoleBit : Sp := fun vs H Q _ => ∃ v r : Nat, vs = [iV v, iV r] ∧ User v ∧ Role r ∧ Q (iV (2 ^ place v r)) H
theorem scRoleBit : FnScope ["user", "role"] ["user", "role"] (defScope sRoleBit) := ⟨rfl, rfl, rfl, by decide +kernel, rfl, by decide +kernel, by decide +kernel⟩
theorem ok_roleBit {f : Addr} {fd : FuncData} (F : Fun K "role_bit" "role_bit" sRoleBit f fd) (T : Txt K mg a) : FnOk P w K mg base CX0 1 f fd ["user", "role"] spRoleBit := by
  refine F.ok scRoleBit (fun vs H Q E h => ?_) (fun cdv A outer s H vs Q E hr h => ?_)
  · obtain ⟨v, r, rfl, _⟩ := h
    rfl
  · obtain ⟨v, r, rfl, hv, hr2, k⟩ := h
    refine ⟨_, pss_one (ps_ret (pe_op op_shl pe_int (pe_op op_sub (pe_op op_add (pe_op op_mul (pe_op op_sub (pv 0) pe_int) (pe_callB call_len_seq (by rfl) T.len PySem.boot_len (pa_cons (pe_glob rfl T.gR (v := .ref a.R) rfl) pa_nil))) (pv 1)) pe_int))), ?_⟩
    refine ⟨_, rfl, _, _, rfl, rfl, a.R, _, rfl, .inr (T.sR _), _, _, rfl, rfl, .inr ⟨by decide, by decide⟩, ?_⟩
    unfold User at hv
    unfold Role at hr2
    have ep : ((v : Int) - 1) * ((rV.length : Nat) : Int) + (r : Int) - 1 = ((place v r : Nat) : Int) := by
      show ((v : Int) - 1) * 4 + (r : Int) - 1 = ((4 * (v - 1) + (r - 1) : Nat) : Int)
      omega
    have pl : place v r < 12 := place_lt hv hr2
    refine ⟨_, rfl, _, _, rfl, rfl, _, _, rfl, rfl, _, _, rfl, rfl, ?_, ?_⟩
    · rw [ep]; exact ⟨by omega, by omega, by decide⟩
    · have e2 : (1 : Int) * 2 ^ (((v : Int) - 1) * ((rV.length : Nat) : Int) + (r : Int) - 1).toNat = ((2 ^ place v r : Nat) : Int) := by
        rw [ep, Int.toNat_natCast, Int.one_mul]
        exact (Int.natCast_pow 2 (place v r)).symm
      show Q (.int ((1 : Int) * 2 ^ (((v : Int) - 1) * ((rV.length : Nat) : Int) + (r : Int) - 1).toNat)) H
      rw [e2]
      exact k
/-! ### role_bits, of a list and of a tuple -/
def spRoleBitsL (K : PySem.W.Frag) : Sp := fun vs H Q _ => ∃ (v : Nat) (p : Addr) (l : List Nat), vs = [iV v, .ref p] ∧ User v ∧ SqL K H p (iVs l) ∧ (∀ r ∈ l, Role r) ∧ Q (iV (mask v l)) H
def spRoleBitsT (K : PySem.W.Frag) : Sp := fun vs H Q _ => ∃ (v : Nat) (p : Addr) (l : List Nat), vs = [iV v, .ref p] ∧ User v ∧ SqT K H p (iVs l) ∧ (∀ r ∈ l, Role r) ∧ Q (iV (mask v l)) H
theorem scRoleBits : FnScope ["user", "roles", "bits", "role"] ["user", "roles"] (defScope sRoleBits) := ⟨rfl, rfl, rfl, by decide +kernel, rfl, by decide +kernel, by decide +kernel⟩
theorem ok_roleBitsL {f f1 : Addr} {fd fd1 : FuncData} (F : Fun K "role_bits" "role_bits" sRoleBits f fd) (G1 : FnOk P w K mg base CX0 1 f1 fd1 ["user", "role"] spRoleBit) (m1 : mg "role_bit" = some (.ref f1)) (k1 : PySem.W.keepIn K (.ref f1) = true) (b1 : Binds K fd1 ["user", "role"] []) :
    FnOk P w K mg base CX0 2 f fd ["user", "roles"] (spRoleBitsL K) := by
  refine F.ok scRoleBits (fun vs H Q E h => ?_) (fun cdv A outer s H vs Q E hr h => ?_)
  · obtain ⟨v, p, l, rfl, _⟩ := h
    rfl
  · obtain ⟨v, p, l, rfl, hv, hS, hl, k⟩ := h
    refine ⟨_, pss_cons (ps_set (i := 2) scRoleBits.nd rfl (Or.inl rfl) pe_int)
      (pss_cons (ps_for PassesOwn.never rfl (pi_list (pv 1)) (pg_name (i := 3) scRoleBits.nd rfl (Or.inl rfl))
        (pss_one (ps_set (i := 2) scRoleBits.nd rfl (Or.inl rfl) (pe_op op_or (pv 2) (pe_call G1 hr rfl m1 k1 b1 .nil pass0 (pa_cons (pv 0) (pa_cons (pv 3) pa_nil)))))))
      (pss_one (ps_ret (pv 2)))), ?_⟩
    refine ⟨_, rfl, p, rfl, ⟨_, hS⟩, for_list (K := K) (a := p) (xs := iVs l) (fun i σ H' => H' = H ∧ ∃ x : Option V, σ = [some (iV v), some (.ref p), some (iV (mask v (l.take i))), x])
      ⟨rfl, none, rfl⟩ (fun i σ H' _ ⟨e, _⟩ => by rw [e]; exact hS) ?_ ?_⟩
    · rintro i y σ H' hi ⟨rfl, x, rfl⟩
      obtain ⟨z, hz, rfl⟩ := iVs_get hi
      refine ⟨_, rfl, _, rfl, _, rfl, v, z, rfl, hv, hl z (List.mem_of_getElem? hz), _, _, rfl, rfl, rfl, some (iV z), ?_⟩
      rw [take_more hz, mask_snoc]
      show [some (iV v), some (.ref p), some (.int (Builtin.bitOr _ _)), some (iV z)] = _
      rw [bOr]
      rfl
    · rintro σ H' ⟨rfl, x, rfl⟩
      refine ⟨_, rfl, ?_⟩
      rw [iVs_len, List.take_length]
      exact k
theorem ok_roleBitsT {f f1 : Addr} {fd fd1 : FuncData} (F : Fun K "role_bits" "role_bits" sRoleBits f fd) (G1 : FnOk P w K mg base CX0 1 f1 fd1 ["user", "role"] spRoleBit) (m1 : mg "role_bit" = some (.ref f1)) (k1 : PySem.W.keepIn K (.ref f1) = true) (b1 : Binds K fd1 ["user", "role"] []) :
    FnOk P w K mg base CX0 2 f fd ["user", "roles"] (spRoleBitsT K) := by
  refine F.ok scRoleBits (fun vs H Q E h => ?_) (fun cdv A outer s H vs Q E hr h => ?_)
  · obtain ⟨v, p, l, rfl, _⟩ := h
    rfl
  · obtain ⟨v, p, l, rfl, hv, hS, hl, k⟩ := h
    refine ⟨_, pss_cons (ps_set (i := 2) scRoleBits.nd rfl (Or.inl rfl) pe_int)
      (pss_cons (ps_for PassesOwn.never rfl (pi_tup (pv 1)) (pg_name (i := 3) scRoleBits.nd rfl (Or.inl rfl))
        (pss_one (ps_set (i := 2) scRoleBits.nd rfl (Or.inl rfl) (pe_op op_or (pv 2) (pe_call G1 hr rfl m1 k1 b1 .nil pass0 (pa_cons (pv 0) (pa_cons (pv 3) pa_nil)))))))
      (pss_one (ps_ret (pv 2)))), ?_⟩
    refine ⟨_, rfl, p, rfl, ⟨_, hS⟩, for_tup (K := K) (a := p) (xs := iVs l) (fun i σ H' => H' = H ∧ ∃ x : Option V, σ = [some (iV v), some (.ref p), some (iV (mask v (l.take i))), x])
      ⟨rfl, none, rfl⟩ (fun i σ H' _ ⟨e, _⟩ => by rw [e]; exact hS) ?_ ?_⟩
    · rintro i y σ H' hi ⟨rfl, x, rfl⟩
      obtain ⟨z, hz, rfl⟩ := iVs_get hi
      refine ⟨_, rfl, _, rfl, _, rfl, v, z, rfl, hv, hl z (List.mem_of_getElem? hz), _, _, rfl, rfl, rfl, some (iV z), ?_⟩
      rw [take_more hz, mask_snoc]
      show [some (iV v), some (.ref p), some (.int (Builtin.bitOr _ _)), some (iV z)] = _
      rw [bOr]
      rfl
    · rintro σ H' ⟨rfl, x, rfl⟩
      refine ⟨_, rfl, ?_⟩
      rw [iVs_len, List.take_length]
      exact k
/-! ### roles_held -/
def spRolesHeld : Sp := fun vs H Q _ => ∃ s v : Nat, vs = [iV s, iV v] ∧ User v ∧ ∀ p, H p = none → Q (.ref p) (upd H p (.lst (iVs (Wm04.rolesOf s v))))
theorem scRolesHeld : FnScope ["held", "user", "role"] ["held", "user"] (defScope sRolesHeld) := ⟨rfl, rfl, rfl, by decide +kernel, rfl, by decide +kernel, by decide +kernel⟩
theorem ok_rolesHeld {f f1 : Addr} {fd fd1 : FuncData} (F : Fun K "roles_held" "roles_held" sRolesHeld f fd) (T : Txt K mg a) (G1 : FnOk P w K mg base CX0 1 f1 fd1 ["user", "role"] spRoleBit) (m1 : mg "role_bit" = some (.ref f1)) (k1 : PySem.W.keepIn K (.ref f1) = true) (b1 : Binds K fd1 ["user", "role"] []) :
    FnOk P w K mg base CX0 2 f fd ["held", "user"] spRolesHeld := by
  refine F.ok scRolesHeld (fun vs H Q E h => ?_) (fun cdv A outer s H vs Q E hr h => ?_)
  · obtain ⟨s, v, rfl, _⟩ := h
    rfl
  · obtain ⟨s, v, rfl, hv, k⟩ := h
    refine ⟨_, pss_one (ps_ret (pe_lc (own := [("role", 2)]) (g := gName 2) rfl scRolesHeld.nd (pi_tup (pe_glob rfl T.gR (v := .ref a.R) rfl)) (blkOk_by (own := [("role", 2)]) (N := ["held", "user", "role"]) (sc := defScope sRolesHeld) (by decide +kernel))
      (fun _ _ _ _ _ => pg_name (i := 2) scRolesHeld.nd rfl (Or.inl rfl))
      (fun _ _ _ _ _ => pts_one (pt_cmpR op_ne (pe_op op_and (pv 0) (pe_call G1 hr rfl m1 k1 b1 .nil pass0 (pa_cons (pv 1) (pa_cons (pv 2) pa_nil)))) pe_int (nomark _)))
      (fun _ _ _ _ _ => pv 2))), ?_⟩
    refine ⟨a.R, rfl, ⟨_, T.sR _⟩, fun D hD => lc_tup (K := K) (a := a.R) (xs := rV) (fun i H' => H' = upd H D (.lst (iVs (([1, 2, 3, 4].take i).filter (has s v))))) rfl (fun i H' _ _ => T.sR _) ?_ ?_⟩
    · rintro i y H' hi rfl
      rw [rV_eq] at hi
      obtain ⟨r, hr3, rfl⟩ := iVs_get hi
      have hr4 : Role r := by
        have := List.mem_of_getElem? hr3
        unfold Role
        simp at this
        omega
      refine ⟨rfl, _, rfl, _, rfl, _, rfl, v, r, rfl, hv, hr4, _, _, rfl, rfl, rfl, _, rfl, ?_⟩
      have et : (!decide (V.int (Builtin.bitAnd (s : Int) ((2 ^ place v r : Nat) : Int)) = V.int 0)) = has s v r := by
        rw [bAnd]
        have e2 := has_mask s v r
        have e3 : decide (V.int ((s &&& 2 ^ place v r : Nat) : Int) = V.int 0) = decide (s &&& 2 ^ place v r = 0) := by
          rw [Bool.eq_iff_iff, decide_eq_true_iff, decide_eq_true_iff]
          constructor
          · intro z
            have z2 := V.int.inj z
            omega
          · intro z
            rw [z]
            rfl
        rw [e3, e2, Bool.not_not]
      rw [take_more hr3, List.filter_append]
      show if (!decide (V.int (Builtin.bitAnd (s : Int) ((2 ^ place v r : Nat) : Int)) = V.int 0)) = true then _ else _
      rw [et]
      cases hs : has s v r with
      | true =>
        refine iteT ?_
        refine ⟨_, rfl, _, upd_same, ?_, ?_⟩
        · rw [iVs_len]
          have h1 := List.length_filter_le (has s v) (List.take i [1, 2, 3, 4])
          have h2 := List.length_take_le' i [1, 2, 3, 4]
          exact Nat.lt_of_le_of_lt (Nat.le_trans h1 h2) (by decide)
        · rw [upd_upd, List.filter_cons_of_pos hs, List.filter_nil]
          unfold iVs
          rw [List.map_append]
          rfl
      | false =>
        refine iteF ?_
        rw [List.filter_cons_of_neg (by rw [hs]; decide), List.filter_nil, List.append_nil]
    · rintro H' rfl
      exact k D hD
/-! ### users_holding -/
theorem has_test (s v r : Nat) : (!decide (V.int (Builtin.bitAnd (s : Int) ((2 ^ place v r : Nat) : Int)) = V.int 0)) = has s v r := by
  rw [bAnd]
  have e3 : decide (V.int ((s &&& 2 ^ place v r : Nat) : Int) = V.int 0) = decide (s &&& 2 ^ place v r = 0) := by
    rw [Bool.eq_iff_iff, decide_eq_true_iff, decide_eq_true_iff]
    constructor
    · intro z
      have z2 := V.int.inj z
      omega
    · intro z
      rw [z]
      rfl
  rw [e3, has_mask, Bool.not_not]
theorem new_same {H : Hp} {q : Addr} {o : HO} (h : H q = none) : Same H (upd H q o) := fun _ _ e => (upd_ne (ne_of_none e h)).trans e
def spUsersHolding (K : PySem.W.Frag) : Sp := fun vs H Q _ => ∃ (s r : Nat) (l : Addr) (us : List Nat), vs = [iV s, iV r, .ref l] ∧ Role r ∧ SqL K H l (iVs us) ∧ (∀ u ∈ us, User u) ∧ us.length ≤ 3 ∧ ∀ p, H p = none → Q (.ref p) (upd H p (.lst (iVs (us.filter fun u => has s u r))))
theorem scUsersHolding : FnScope ["held", "role", "users", "user"] ["held", "role", "users"] (defScope sUsersHolding) := ⟨rfl, rfl, rfl, by decide +kernel, rfl, by decide +kernel, by decide +kernel⟩
theorem ok_usersHolding {f f1 : Addr} {fd fd1 : FuncData} (F : Fun K "users_holding" "users_holding" sUsersHolding f fd) (G1 : FnOk P w K mg base CX0 1 f1 fd1 ["user", "role"] spRoleBit) (m1 : mg "role_bit" = some (.ref f1)) (k1 : PySem.W.keepIn K (.ref f1) = true) (b1 : Binds K fd1 ["user", "role"] []) :
    FnOk P w K mg base CX0 2 f fd ["held", "role", "users"] (spUsersHolding K) := by
  refine F.ok scUsersHolding (fun vs H Q E h => ?_) (fun cdv A outer s H vs Q E hr h => ?_)
  · obtain ⟨s, r, l, us, rfl, _⟩ := h
    rfl
  · obtain ⟨s, r, l, us, rfl, hrr, hS, hu, hl3, k⟩ := h
    refine ⟨_, pss_one (ps_ret (pe_lc (own := [("user", 3)]) (g := gName 3) rfl scUsersHolding.nd (pi_list (pv 2)) (blkOk_by (own := [("user", 3)]) (N := ["held", "role", "users", "user"]) (sc := defScope sUsersHolding) (by decide +kernel))
      (fun _ _ _ _ _ => pg_name (i := 3) scUsersHolding.nd rfl (Or.inl rfl))
      (fun _ _ _ _ _ => pts_one (pt_cmpR op_ne (pe_op op_and (pv 0) (pe_call G1 hr rfl m1 k1 b1 .nil pass0 (pa_cons (pv 3) (pa_cons (pv 1) pa_nil)))) pe_int (nomark _)))
      (fun _ _ _ _ _ => pv 3))), ?_⟩
    refine ⟨_, rfl, l, rfl, ⟨_, hS⟩, fun D hD => lc_list (K := K) (a := l) (xs := iVs us) (fun i H' => H' = upd H D (.lst (iVs ((us.take i).filter fun u => has s u r)))) rfl (fun i H' _ e => by rw [e]; exact (new_same hD).seq hS) ?_ ?_⟩
    · rintro i y H' hi rfl
      obtain ⟨u, hu3, rfl⟩ := iVs_get hi
      refine ⟨rfl, _, rfl, _, rfl, _, rfl, u, r, rfl, hu u (List.mem_of_getElem? hu3), hrr, _, _, rfl, rfl, rfl, _, rfl, ?_⟩
      rw [take_more hu3, List.filter_append]
      show if (!decide (V.int (Builtin.bitAnd (s : Int) ((2 ^ place u r : Nat) : Int)) = V.int 0)) = true then _ else _
      rw [has_test]
      cases hs : has s u r with
      | true =>
        refine iteT ?_
        refine ⟨_, rfl, _, upd_same, ?_, ?_⟩
        · rw [iVs_len]
          have h1 := List.length_filter_le (fun u => has s u r) (List.take i us)
          have h2 := List.length_take_le' i us
          exact Nat.lt_of_le_of_lt (Nat.le_trans h1 (Nat.le_trans h2 hl3)) (by decide)
        · rw [upd_upd, List.filter_cons_of_pos (p := fun u => has s u r) hs, List.filter_nil]
          unfold iVs
          rw [List.map_append]
          rfl
      | false =>
        refine iteF ?_
        rw [List.filter_cons_of_neg (p := fun u => has s u r) (by rw [hs]; decide), List.filter_nil, List.append_nil]
    · rintro H' rfl
      rw [iVs_len, List.take_length]
      exact k D hD
end
end Wp

set_option Elab.async false
set_option maxRecDepth 100000
set_option maxHeartbeats 2000000
namespace Wp
open PySem PySem.Spec PyProof.Rows L2 Wc
open Wm04 (place has)
def ruF (g : Bool) (ad ro : Nat) (ne ba : Addr) : List (Str × V) := [("gives", .bl g), ("admin", iV ad), ("role", iV ro), ("needed", .ref ne), ("barred", .ref ba)]
def moF (k ad : Nat) (dl : Addr) (v : Nat) (m : Mv) : List (Str × V) := [("k", iV k), ("admin", iV ad), ("doers", .ref dl), ("whom", iV v), ("entitled", iV m.entitled), ("change", iV m.change), ("present", iV m.present), ("absent", iV m.absent)]
/-- a rule of the house, its two rows at ne and ba -/
structure RuleAt (a : Ad) (H : Hp) (p : Addr) (k : Wm04.Rule) (ne ba : Addr) : Prop where
  ob : ∃ dx, H p = some (.ins a.CR dx (ruF k.gives k.by_ k.role ne ba))
  need : H ne = some (.lst (iVs k.need))
  out : H ba = some (.lst (iVs k.without))
structure RuleOk (k : Wm04.Rule) : Prop where
  by_ : Role k.by_
  role : Role k.role
  need : ∀ r ∈ k.need, Role r
  out : ∀ r ∈ k.without, Role r
  nl : k.need.length ≤ 4
  ol : k.without.length ≤ 4
theorem RuleAt.same {a : Ad} {H H' : Hp} {p ne ba : Addr} {k : Wm04.Rule} (e : Same H H') (x : RuleAt a H p k ne ba) : RuleAt a H' p k ne ba :=
  let ⟨dx, h⟩ := x.ob; ⟨⟨dx, e _ _ h⟩, e _ _ x.need, e _ _ x.out⟩
/-- item by item -/
structure All2 {α β : Type} (R : α → β → Prop) (xs : List α) (ys : List β) : Prop where
  len : xs.length = ys.length
  at_ : ∀ (i : Nat) (x : α) (y : β), xs[i]? = some x → ys[i]? = some y → R x y
theorem All2.nil {α β : Type} {R : α → β → Prop} : All2 R [] [] := ⟨rfl, fun i x y h => by simp at h⟩
theorem All2.imp {α β : Type} {R S : α → β → Prop} {xs : List α} {ys : List β} (h : All2 R xs ys) (f : ∀ x y, R x y → S x y) : All2 S xs ys := ⟨h.len, fun i x y h1 h2 => f x y (h.at_ i x y h1 h2)⟩
theorem All2.snoc {α β : Type} {R : α → β → Prop} {xs : List α} {ys : List β} {x : α} {y : β} (h : All2 R xs ys) (r : R x y) : All2 R (xs ++ [x]) (ys ++ [y]) := by
  refine ⟨by simp [h.len], fun i u v h1 h2 => ?_⟩
  by_cases hi : i < xs.length
  · rw [List.getElem?_append_left hi] at h1
    rw [List.getElem?_append_left (by rw [← h.len]; exact hi)] at h2
    exact h.at_ i u v h1 h2
  · rw [List.getElem?_append_right (by omega)] at h1
    rw [List.getElem?_append_right (by rw [← h.len]; omega), ← h.len] at h2
    have z : i - xs.length = 0 := by
      have := (List.getElem?_eq_some_iff.mp h1).1
      simp at this
      omega
    rw [z] at h1 h2
    cases h1
    cases h2
    exact r
theorem All2.right {α β : Type} {R : α → β → Prop} {xs : List α} {ys : List β} (h : All2 R xs ys) {i : Nat} {x : α} (e : xs[i]? = some x) : ∃ y, ys[i]? = some y ∧ R x y := by
  have hi := (List.getElem?_eq_some_iff.mp e).1
  have hy : i < ys.length := by rw [← h.len]; exact hi
  exact ⟨ys[i], List.getElem?_eq_getElem hy, h.at_ i x _ e (List.getElem?_eq_getElem hy)⟩
theorem All2.left {α β : Type} {R : α → β → Prop} {xs : List α} {ys : List β} (h : All2 R xs ys) {i : Nat} {y : β} (e : ys[i]? = some y) : ∃ x, xs[i]? = some x ∧ R x y := by
  have hi := (List.getElem?_eq_some_iff.mp e).1
  have hx : i < xs.length := by rw [h.len]; exact hi
  exact ⟨xs[i], List.getElem?_eq_getElem hx, h.at_ i _ y (List.getElem?_eq_getElem hx) e⟩
/-- all but one stay -/
def SameX (q : Addr) (H H' : Hp) : Prop := ∀ b o, H b = some o → b ≠ q → H' b = some o
theorem Same.upd {H : Hp} {q : Addr} {o : HO} (h : H q = none) : Same H (upd H q o) := fun _ _ e => (upd_ne (ne_of_none e h)).trans e
theorem atI {l : List Nat} {k : Nat} : (iVs l)[k]? = (l[k]?).map iV := by unfold iVs; rw [List.getElem?_map]
section
variable {P : Program} {w : World} {K : PySem.W.Frag} {mg : Str → Option Value} {base : Heap} {a : Ad}
/-! ### Rule.__init__ -/
def spRuleInit (a : Ad) : Sp := fun vs H Q _ => ∃ (p dx : Addr) (g : Bool) (ad ro : Nat) (ne ba : Addr), vs = [.ref p, .bl g, iV ad, iV ro, .ref ne, .ref ba] ∧ H p = some (.ins a.CR dx []) ∧ Q .non (upd H p (.ins a.CR dx (ruF g ad ro ne ba)))
theorem scRuleInit : FnScope ["self", "gives", "admin", "role", "needed", "barred"] ["self", "gives", "admin", "role", "needed", "barred"] (defScope sRuleInit) := ⟨rfl, rfl, rfl, by decide +kernel, rfl, by decide +kernel, by decide +kernel⟩
theorem ok_ruleInit {f : Addr} {fd : FuncData} (F : Fun K "__init__" "Rule.__init__" sRuleInit f fd) (T : Txt K mg a) : FnOk P w K mg base CX0 1 f fd ["self", "gives", "admin", "role", "needed", "barred"] (spRuleInit a) := by
  refine F.ok scRuleInit (fun vs H Q E h => ?_) (fun cdv A outer s H vs Q E hr h => ?_)
  · obtain ⟨p, dx, g, ad, ro, ne, ba, rfl, _⟩ := h
    rfl
  · obtain ⟨p, dx, g, ad, ro, ne, ba, rfl, hp, k⟩ := h
    refine ⟨_, pss_cons (ps_fld (pv 0) (pv 1) rfl) (pss_cons (ps_fld (pv 0) (pv 2) rfl) (pss_cons (ps_fld (pv 0) (pv 3) rfl) (pss_cons (ps_fld (pv 0) (pv 4) rfl) (pss_one (ps_fld (pv 0) (pv 5) rfl))))), ?_⟩
    refine ⟨_, rfl, _, rfl, p, a.CR, dx, [], rfl, hp, T.cR, T.nGives, (by show 0 < 1000; decide), ?_⟩
    refine ⟨_, rfl, _, rfl, p, a.CR, dx, _, rfl, upd_same, T.cR, T.nAdmin, (by show 1 < 1000; decide), ?_⟩
    refine ⟨_, rfl, _, rfl, p, a.CR, dx, _, rfl, upd_same, T.cR, T.nRole, (by show 2 < 1000; decide), ?_⟩
    refine ⟨_, rfl, _, rfl, p, a.CR, dx, _, rfl, upd_same, T.cR, T.nNeeded, (by show 3 < 1000; decide), ?_⟩
    refine ⟨_, rfl, _, rfl, p, a.CR, dx, _, rfl, upd_same, T.cR, T.nBarred, (by show 4 < 1000; decide), ?_⟩
    rw [upd_upd, upd_upd, upd_upd, upd_upd]
    exact k
theorem eqI (x y : Nat) : decide (V.int (x : Int) = V.int (y : Int)) = decide (x = y) := by
  rw [Bool.eq_iff_iff, decide_eq_true_iff, decide_eq_true_iff]
  constructor
  · intro z
    have := V.int.inj z
    omega
  · intro z; rw [z]
theorem eqI0 (x : Nat) : decide (V.int (x : Int) = V.int 0) = decide (x = 0) := eqI x 0
/-! ### Move -/
/-- the move m by rules and actors, its doers' list at dl -/
structure MoveAt (a : Ad) (H : Hp) (p : Addr) (rs : List Wm04.Rule) (us : List Nat) (dl : Addr) (m : Nat × Nat) : Prop where
  ob : ∃ rule dx, rs[m.1]? = some rule ∧ H p = some (.ins a.CM dx (moF m.1 rule.by_ dl m.2 (mv rule us m.2)))
  whom : User m.2
  doers : H dl = some (.lst (iVs us))
theorem MoveAt.same {H H' : Hp} {p dl : Addr} {rs : List Wm04.Rule} {us : List Nat} {m : Nat × Nat} (e : Same H H') (x : MoveAt a H p rs us dl m) : MoveAt a H' p rs us dl m :=
  let ⟨rule, dx, h1, h2⟩ := x.ob; ⟨⟨rule, dx, h1, e _ _ h2⟩, x.whom, e _ _ x.doers⟩
theorem MoveAt.put {H : Hp} {p q dl : Addr} {rs : List Wm04.Rule} {us : List Nat} {m : Nat × Nat} {xs : List V} {o : HO} (x : MoveAt a H p rs us dl m) (hq : H q = some (.lst xs)) (n : dl ≠ q) : MoveAt a (upd H q o) p rs us dl m := by
  obtain ⟨rule, dx, h1, h2⟩ := x.ob
  exact ⟨⟨rule, dx, h1, (upd_ne (ne_of h2 hq (by intro z; cases z))).trans h2⟩, x.whom, (upd_ne n).trans x.doers⟩
theorem sum_titled (b : Nat) : ∀ us : List Nat, (us.map fun u => ((2 ^ place u b : Nat) : Int)).sum = ((titled b us : Nat) : Int)
  | [] => rfl
  | u :: us => by
    unfold titled
    rw [List.map_cons, List.sum_cons, sum_titled b us, List.map_cons, List.sum_cons]
    unfold titled
    omega
def spMoveInit (a : Ad) : Sp := fun vs H Q _ => ∃ (p dx rp dl ne ba : Addr) (k v : Nat) (us : List Nat) (rule : Wm04.Rule), vs = [.ref p, iV k, .ref rp, .ref dl, iV v] ∧ H p = some (.ins a.CM dx []) ∧ RuleAt a H rp rule ne ba ∧ RuleOk rule ∧ H dl = some (.lst (iVs us)) ∧ (∀ u ∈ us, User u) ∧ us.length ≤ 3 ∧ User v ∧
  ∀ H', (∀ b o, H b = some o → b ≠ p → H' b = some o) → (∀ b, H' b = none → H b = none) → H' p = some (.ins a.CM dx (moF k rule.by_ dl v (mv rule us v))) → Q .non H'
theorem scMoveInit : FnScope ["self", "k", "rule", "doers", "whom", "who"] ["self", "k", "rule", "doers", "whom"] (defScope sMoveInit) := ⟨rfl, rfl, rfl, by decide +kernel, rfl, by decide +kernel, by decide +kernel⟩
theorem ok_moveInit {f f1 f2 : Addr} {fd fd1 fd2 : FuncData} (F : Fun K "__init__" "Move.__init__" sMoveInit f fd) (T : Txt K mg a) (G1 : FnOk P w K mg base CX0 1 f1 fd1 ["user", "role"] spRoleBit) (m1 : mg "role_bit" = some (.ref f1)) (k1 : PySem.W.keepIn K (.ref f1) = true) (b1 : Binds K fd1 ["user", "role"] [])
    (G2 : FnOk P w K mg base CX0 2 f2 fd2 ["user", "roles"] (spRoleBitsL K)) (m2 : mg "role_bits" = some (.ref f2)) (k2 : PySem.W.keepIn K (.ref f2) = true) (b2 : Binds K fd2 ["user", "roles"] []) :
    FnOk P w K mg base CX0 3 f fd ["self", "k", "rule", "doers", "whom"] (spMoveInit a) := by
  refine F.ok scMoveInit (fun vs H Q E h => ?_) (fun cdv A outer s H vs Q E hr h => ?_)
  · obtain ⟨p, dx, rp, dl, ne, ba, k, v, us, rule, rfl, _⟩ := h
    rfl
  · obtain ⟨p, dx, rp, dl, ne, ba, k, v, us, rule, rfl, hp, R, ok, hdl, hu, hl3, hv, kq⟩ := h
    have hr1 : Room 1 _ := hr.mono (by decide)
    obtain ⟨dr, h1⟩ := R.ob
    have nr : rp ≠ p := ne_of h1 hp (by intro z; injection z with _ _ z; cases z)
    have nd : dl ≠ p := ne_of hdl hp (by intro z; cases z)
    have nn : ne ≠ p := ne_of R.need hp (by intro z; cases z)
    have nb : ba ≠ p := ne_of R.out hp (by intro z; cases z)
    refine ⟨_, pss_cons (ps_fld (pv 0) (pv 1) rfl)
      (pss_cons (ps_fld (pv 0) (pe_fld (pv 2) rfl) rfl)
      (pss_cons (ps_fld (pv 0) (pv 3) rfl)
      (pss_cons (ps_fld (pv 0) (pv 4) rfl)
      (pss_cons (ps_fld (pv 0) (pe_callB (cr_sum rfl) (by rfl) T.sum (by decide +kernel) (pa_cons (pe_lc (own := [("who", 5)]) (g := gName 5) (tt := tYes) rfl scMoveInit.nd (pi_list (pv 3)) (blkOk_by (own := [("who", 5)]) (N := ["self", "k", "rule", "doers", "whom", "who"]) (sc := defScope sMoveInit) (by decide +kernel)) (fun _ _ _ _ _ => pg_name (i := 5) scMoveInit.nd rfl (Or.inl rfl)) (fun _ _ _ _ _ => pts_nil) (fun _ _ _ _ _ => (pe_call G1 hr1 rfl m1 k1 b1 .nil pass0 (pa_cons (pv 5) (pa_cons (pe_fldK (K := K) (pv 2) rfl rfl) pa_nil))))) pa_nil)) rfl)
      (pss_cons (ps_fld (pv 0) (pe_call G1 hr1 rfl m1 k1 b1 .nil pass0 (pa_cons (pv 4) (pa_cons (pe_fld (pv 2) rfl) pa_nil))) rfl)
      (pss_cons (ps_fld (pv 0) (pe_call G2 hr rfl m2 k2 b2 .nil pass0 (pa_cons (pv 4) (pa_cons (pe_fld (pv 2) rfl) pa_nil))) rfl)
      (pss_cons (ps_fld (pv 0) (pe_call G2 hr rfl m2 k2 b2 .nil pass0 (pa_cons (pv 4) (pa_cons (pe_fld (pv 2) rfl) pa_nil))) rfl)
      (pss_one (ps_if (pt_val (pe_fld (pv 2) rfl)) (pss_one (ps_fld (pv 0) (pe_op op_or (pe_fld (pv 0) rfl) (pe_fld (pv 0) rfl)) rfl)) (pss_one (ps_fld (pv 0) (pe_op op_or (pe_fld (pv 0) rfl) (pe_fld (pv 0) rfl)) rfl))))))))))), ?_⟩
    -- k, admin, doers, whom
    refine ⟨_, rfl, _, rfl, p, a.CM, dx, [], rfl, hp, T.cM, T.nMk, (by show 0 < 1000; decide), ?_⟩
    refine ⟨_, rfl, rp, a.CR, dr, _, _, rfl, (upd_ne nr).trans h1, T.cR, T.nAdmin, rfl, _, rfl, p, a.CM, dx, _, rfl, upd_same, T.cM, T.nMadmin, (by show 1 < 1000; decide), ?_⟩
    rw [upd_upd]
    refine ⟨_, rfl, _, rfl, p, a.CM, dx, _, rfl, upd_same, T.cM, T.nMdoers, (by show 2 < 1000; decide), ?_⟩
    rw [upd_upd]
    refine ⟨_, rfl, _, rfl, p, a.CM, dx, _, rfl, upd_same, T.cM, T.nMwhom, (by show 3 < 1000; decide), ?_⟩
    rw [upd_upd]
    -- entitled
    obtain ⟨H0, hH0⟩ : ∃ H0, H0 = upd H p (.ins a.CM dx [("k", iV k), ("admin", iV rule.by_), ("doers", .ref dl), ("whom", iV v)]) := ⟨_, rfl⟩
    have hp0 : H0 p = some (.ins a.CM dx [("k", iV k), ("admin", iV rule.by_), ("doers", .ref dl), ("whom", iV v)]) := by rw [hH0]; exact upd_same
    have oth : ∀ b o, H b = some o → b ≠ p → H0 b = some o := fun b o e n => by rw [hH0]; exact (upd_ne n).trans e
    have back : ∀ b, H0 b = none → H b = none := fun b e => by rw [hH0] at e; exact NdefX.upd_none e
    have hh : upd H p (.ins a.CM dx (putF "whom" (iV v) (putF "doers" (.ref dl) (putF "admin" (iV rule.by_) (putF "k" (iV k) []))))) = H0 := hH0.symm
    rw [hh]
    have hdl0 := oth _ _ hdl nd
    have h10 := oth _ _ h1 nr
    refine ⟨_, rfl, dl, rfl, ⟨_, SqL.of hdl0⟩, fun D hD => lc_list (K := K) (a := dl) (xs := iVs us) (fun i H' => H' = upd H0 D (.lst (iVs ((us.take i).map fun u => 2 ^ place u rule.by_)))) rfl (fun i H' _ e => by rw [e]; exact SqL.of (new_same hD _ _ hdl0)) ?_ ?_⟩
    · rintro i y H' hi rfl
      obtain ⟨u, hu3, rfl⟩ := iVs_get hi
      refine ⟨rfl, tYes_then ?_⟩
      refine ⟨_, rfl, _, rfl, rp, a.CR, dr, _, _, rfl, new_same hD _ _ h10, T.cR, T.nAdmin, rfl, u, rule.by_, rfl, hu u (List.mem_of_getElem? hu3), ok.by_, ?_⟩
      refine ⟨_, upd_same, ?_, ?_⟩
      · rw [iVs_len, List.length_map]
        exact Nat.lt_of_le_of_lt (Nat.le_trans (List.length_take_le' i us) hl3) (by decide)
      · rw [upd_upd, take_more hu3, List.map_append]
        unfold iVs
        rw [List.map_append]
        rfl
    · rintro H' rfl
      rw [iVs_len, List.take_length]
      have eD : Same H0 (upd H0 D (.lst (iVs (us.map fun u => 2 ^ place u rule.by_)))) := new_same hD
      generalize hH1 : upd H0 D (.lst (iVs (us.map fun u => 2 ^ place u rule.by_))) = H1 at eD
      have hD1 : H1 D = some (.lst (iVs (us.map fun u => 2 ^ place u rule.by_))) := by rw [← hH1]; exact upd_same
      have back1 : ∀ b, H1 b = none → H b = none := fun b e => by rw [← hH1] at e; exact back b (NdefX.upd_none e)
      have hp1 := eD _ _ hp0
      have h11 := eD _ _ h10
      have hn1 := eD _ _ (oth _ _ R.need nn)
      have hb1 := eD _ _ (oth _ _ R.out nb)
      have oth1 : ∀ b o, H b = some o → b ≠ p → H1 b = some o := fun b o e n => eD _ _ (oth b o e n)
      have esum : iVs (us.map fun u => 2 ^ place u rule.by_) = (us.map fun u => ((2 ^ place u rule.by_ : Nat) : Int)).map V.int := by
        unfold iVs iV
        rw [List.map_map, List.map_map]
        rfl
      refine ⟨D, us.map fun u => ((2 ^ place u rule.by_ : Nat) : Int), rfl, by rw [← esum]; exact SqL.of hD1, ?_⟩
      rw [sum_titled]
      refine ⟨_, rfl, p, a.CM, dx, _, rfl, hp1, T.cM, T.nMentitled, (by show 4 < 1000; decide), ?_⟩
      -- change
      refine ⟨_, rfl, _, rfl, rp, a.CR, dr, _, _, rfl, (upd_ne nr).trans h11, T.cR, T.nRole, rfl, v, rule.role, rfl, hv, ok.role, ?_⟩
      refine ⟨_, rfl, p, a.CM, dx, _, rfl, upd_same, T.cM, T.nMchange, (by show 5 < 1000; decide), ?_⟩
      rw [upd_upd]
      -- present
      refine ⟨_, rfl, _, rfl, rp, a.CR, dr, _, _, rfl, (upd_ne nr).trans h11, T.cR, T.nNeeded, rfl, v, ne, rule.need, rfl, hv, SqL.of ((upd_ne nn).trans hn1), ok.need, ?_⟩
      refine ⟨_, rfl, p, a.CM, dx, _, rfl, upd_same, T.cM, T.nMpresent, (by show 6 < 1000; decide), ?_⟩
      rw [upd_upd]
      -- absent
      refine ⟨_, rfl, _, rfl, rp, a.CR, dr, _, _, rfl, (upd_ne nr).trans h11, T.cR, T.nBarred, rfl, v, ba, rule.without, rfl, hv, SqL.of ((upd_ne nb).trans hb1), ok.out, ?_⟩
      refine ⟨_, rfl, p, a.CM, dx, _, rfl, upd_same, T.cM, T.nMabsent, (by show 7 < 1000; decide), ?_⟩
      rw [upd_upd]
      -- if rule.gives
      refine ⟨_, rfl, rp, a.CR, dr, _, _, rfl, (upd_ne nr).trans h11, T.cR, T.nGives, rfl, _, rfl, ?_⟩
      have fin : ∀ (fs : List (Str × V)), fs = moF k rule.by_ dl v (mv rule us v) → Q .non (upd H1 p (.ins a.CM dx fs)) := fun fs efs => by
        rw [efs]
        refine kq _ (fun b o e n => (upd_ne n).trans (oth1 b o e n)) (fun b e => back1 b (NdefX.upd_none e)) upd_same
      cases g : rule.gives with
      | true =>
        refine iteT ?_
        refine ⟨_, rfl, p, a.CM, dx, _, _, rfl, upd_same, T.cM, T.nMabsent, rfl, _, rfl, p, a.CM, dx, _, _, rfl, upd_same, T.cM, T.nMchange, rfl, _, _, rfl, rfl, ?_⟩
        refine ⟨_, rfl, p, a.CM, dx, _, rfl, upd_same, T.cM, T.nMabsent, (by show 8 < 1000; decide), ?_⟩
        rw [upd_upd]
        refine fin _ ?_
        have em : mv rule us v = ⟨titled rule.by_ us, mask v rule.need, mask v rule.without ||| 2 ^ place v rule.role, 2 ^ place v rule.role⟩ := by unfold mv; rw [g]; rfl
        rw [em]
        show putF "absent" (V.int (Builtin.bitOr (mask v rule.without : Int) ((2 ^ place v rule.role : Nat) : Int))) _ = _
        rw [bOr]
        rfl
      | false =>
        refine iteF ?_
        refine ⟨_, rfl, p, a.CM, dx, _, _, rfl, upd_same, T.cM, T.nMpresent, rfl, _, rfl, p, a.CM, dx, _, _, rfl, upd_same, T.cM, T.nMchange, rfl, _, _, rfl, rfl, ?_⟩
        refine ⟨_, rfl, p, a.CM, dx, _, rfl, upd_same, T.cM, T.nMpresent, (by show 8 < 1000; decide), ?_⟩
        rw [upd_upd]
        refine fin _ ?_
        have em : mv rule us v = ⟨titled rule.by_ us, mask v rule.need ||| 2 ^ place v rule.role, mask v rule.without, 2 ^ place v rule.role⟩ := by unfold mv; rw [g]; rfl
        rw [em]
        show putF "present" (V.int (Builtin.bitOr (mask v rule.need : Int) ((2 ^ place v rule.role : Nat) : Int))) _ = _
        rw [bOr]
        rfl
end
end Wp

set_option Elab.async false
set_option maxRecDepth 100000
set_option maxHeartbeats 2000000
namespace Wp
open PySem PySem.Spec PyProof.Rows L2 Wc
open Wm04 (place has)
section
variable (P : Program) (w : World) (K : PySem.W.Frag) (mg : Str → Option Value) (base : Heap)
/-- the def x, called by its name, keeps its promise -/
structure Fn (x : Str) (k : Nat) (ps : List Str) (sp : Sp) : Prop where
  ex : ∃ (f : Addr) (fd : FuncData), FnOk P w K mg base CX0 k f fd ps sp ∧ mg x = some (.ref f) ∧ PySem.W.keepIn K (.ref f) = true ∧ Binds K fd ps []
/-- the class at C makes instances by its __init__ -/
structure Made (C : Addr) (k : Nat) (ps : List Str) (sp : Sp) : Prop where
  ex : ∃ (f : Addr) (fd : FuncData), Mk K C f ∧ FnOk P w K mg base CX0 k f fd ps sp ∧ Binds K fd ps []
/-- the method m of the class at C -/
structure Mth (C : Addr) (m : Str) (k : Nat) (ps : List Str) (sp : Sp) : Prop where
  ex : ∃ (f : Addr) (fd : FuncData), Meth K C m f ∧ FnOk P w K mg base CX0 k f fd ps sp ∧ Binds K fd ps []
end
section
variable {P : Program} {w : World} {K : PySem.W.Frag} {mg : Str → Option Value} {base : Heap} {a : Ad}
def refs (ps : List Addr) : List V := ps.map V.ref
theorem refs_snoc (ps : List Addr) (p : Addr) : refs ps ++ [V.ref p] = refs (ps ++ [p]) := by unfold refs; rw [List.map_append]; rfl
theorem refs_len (ps : List Addr) : (refs ps).length = ps.length := List.length_map _
theorem refs_get {ps : List Addr} {i : Nat} {y : V} (h : (refs ps)[i]? = some y) : ∃ p, ps[i]? = some p ∧ y = .ref p := by
  unfold refs at h
  rw [List.getElem?_map] at h
  cases e : ps[i]? with
  | none => rw [e] at h; cases h
  | some p => rw [e] at h; exact ⟨p, rfl, (Option.some.inj h).symm⟩
/-- the rules of the house lie at the addresses ps -/
def RulesAt (a : Ad) (H : Hp) (ps : List Addr) (rs : List Wm04.Rule) : Prop := All2 (fun p k => ∃ ne ba, RuleAt a H p k ne ba) ps rs
theorem RulesAt.same {H H' : Hp} {ps : List Addr} {rs : List Wm04.Rule} (e : Same H H') (x : RulesAt a H ps rs) : RulesAt a H' ps rs := x.imp fun _ _ ⟨ne, ba, r⟩ => ⟨ne, ba, r.same e⟩
/-! ### may_be_done -/
def spMay (a : Ad) : Sp := fun vs H Q _ => ∃ (p dx dl : Addr) (s k ad v : Nat) (m : Mv), vs = [.ref p, iV s] ∧ H p = some (.ins a.CM dx (moF k ad dl v m)) ∧ Q (.bl (m.may s)) H
theorem scMay : FnScope ["self", "held"] ["self", "held"] (defScope sMay) := ⟨rfl, rfl, rfl, by decide +kernel, rfl, by decide +kernel, by decide +kernel⟩
theorem ok_may {f : Addr} {fd : FuncData} (F : Fun K "may_be_done" "Move.may_be_done" sMay f fd) (T : Txt K mg a) : FnOk P w K mg base CX0 1 f fd ["self", "held"] (spMay a) := by
  refine F.ok scMay (fun vs H Q E h => ?_) (fun cdv A outer s H vs Q E hr h => ?_)
  · obtain ⟨p, dx, dl, s, k, ad, v, m, rfl, _⟩ := h
    rfl
  · obtain ⟨p, dx, dl, s, k, ad, v, m, rfl, h1, kq⟩ := h
    refine ⟨_, pss_cons (ps_if (PW.pt (pw_or (pt_cmpR op_eq (pe_op op_and (pv 1) (pe_fld (pv 0) rfl)) pe_int (nomark _)) (pw_or1 (pt_cmpR op_ne (pe_op op_and (pv 1) (pe_fld (pv 0) rfl)) pe_int (nomark _))))) (pss_one (ps_ret pe_bl)) pss_nil)
      (pss_one (ps_ret (pe_cmpR op_eq (pe_op op_and (pv 1) (pe_fld (pv 0) rfl)) (pe_fld (pv 0) rfl) (nomark _)))), ?_⟩
    unfold Mv.may at kq
    refine ⟨_, rfl, _, rfl, p, a.CM, dx, _, _, rfl, h1, T.cM, T.nMentitled, rfl, _, _, rfl, rfl, rfl, _, rfl, ?_⟩
    show (if decide (V.int (Builtin.bitAnd (s : Int) (m.entitled : Int)) = V.int 0) = true then _ else _)
    rw [bAnd, eqI0]
    cases e : decide (s &&& m.entitled = 0) with
    | true =>
      rw [e, Bool.true_or, if_pos rfl] at kq
      exact iteT (iteT kq)
    | false =>
      rw [e, Bool.false_or] at kq
      refine iteF ?_
      refine ⟨_, rfl, _, rfl, p, a.CM, dx, _, _, rfl, h1, T.cM, T.nMabsent, rfl, _, _, rfl, rfl, rfl, _, rfl, ?_⟩
      show (if (!decide (V.int (Builtin.bitAnd (s : Int) (m.absent : Int)) = V.int 0)) = true then _ else _)
      rw [bAnd, eqI0]
      cases e2 : decide (s &&& m.absent = 0) with
      | false =>
        rw [e2, if_pos (by decide)] at kq
        exact iteT kq
      | true =>
        rw [e2, if_neg (by decide)] at kq
        refine iteF ?_
        refine ⟨_, rfl, _, rfl, p, a.CM, dx, _, _, rfl, h1, T.cM, T.nMpresent, rfl, _, _, rfl, rfl, _, rfl, p, a.CM, dx, _, _, rfl, h1, T.cM, T.nMpresent, rfl, rfl, ?_⟩
        show Q (.bl (decide (V.int (Builtin.bitAnd (s : Int) (m.present : Int)) = V.int (m.present : Int)))) H
        rw [bAnd, eqI]
        exact kq
/-! ### held_behind -/
def spBehind (a : Ad) : Sp := fun vs H Q _ => ∃ (p dx dl : Addr) (s k ad v i : Nat) (m : Mv), vs = [.ref p, iV s] ∧ H p = some (.ins a.CM dx (moF k ad dl v m)) ∧ s < 4096 ∧ i < 12 ∧ m.change = 2 ^ i ∧ Q (iV (s ^^^ m.change)) H
theorem scBehind : FnScope ["self", "held"] ["self", "held"] (defScope sBehind) := ⟨rfl, rfl, rfl, by decide +kernel, rfl, by decide +kernel, by decide +kernel⟩
theorem ok_behind {f : Addr} {fd : FuncData} (F : Fun K "held_behind" "Move.held_behind" sBehind f fd) (T : Txt K mg a) : FnOk P w K mg base CX0 1 f fd ["self", "held"] (spBehind a) := by
  refine F.ok scBehind (fun vs H Q E h => ?_) (fun cdv A outer s H vs Q E hr h => ?_)
  · obtain ⟨p, dx, dl, s, k, ad, v, i, m, rfl, _⟩ := h
    rfl
  · obtain ⟨p, dx, dl, s, k, ad, v, i, m, rfl, h1, hs, hi, hc, kq⟩ := h
    refine ⟨_, pss_one (ps_ret (pe_op op_xor (pv 1) (pe_fld (pv 0) rfl))), ?_⟩
    refine ⟨_, rfl, _, rfl, p, a.CM, dx, _, _, rfl, h1, T.cM, T.nMchange, rfl, _, _, rfl, rfl, ?_⟩
    show Q (.int (Builtin.bitXor (s : Int) (m.change : Int))) H
    rw [hc] at kq ⊢
    rw [bXor hs hi]
    exact kq
/-! ### tell_step -/
def tupV (t : Wm04.Step) : List V := [iV t.rule, iV t.who, iV t.whom]
def TupAt (H : Hp) (p : Addr) (t : Wm04.Step) : Prop := H p = some (.tup (tupV t))
def spTellStep (a : Ad) : Sp := fun vs H Q _ => ∃ (p dl : Addr) (s u : Nat) (rs : List Wm04.Rule) (us : List Nat) (m : Nat × Nat), vs = [.ref p, iV s] ∧ MoveAt a H p rs us dl m ∧ (∀ r ∈ rs, RuleOk r) ∧ (∀ u ∈ us, User u) ∧ us.length ≤ 3 ∧ doer rs us s m.1 = some u ∧
  ∀ (t : Addr) (H' : Hp), Same H H' → H t = none → TupAt H' t ⟨m.1, u, m.2⟩ → Q (.ref t) H'
theorem scTellStep : FnScope ["self", "held"] ["self", "held"] (defScope sTellStep) := ⟨rfl, rfl, rfl, by decide +kernel, rfl, by decide +kernel, by decide +kernel⟩
theorem ok_tellStep {f : Addr} {fd : FuncData} (F : Fun K "tell_step" "Move.tell_step" sTellStep f fd) (T : Txt K mg a) (X1 : Fn P w K mg base "users_holding" 2 ["held", "role", "users"] (spUsersHolding K)) : FnOk P w K mg base CX0 3 f fd ["self", "held"] (spTellStep a) := by
  refine F.ok scTellStep (fun vs H Q E h => ?_) (fun cdv A outer s H vs Q E hr h => ?_)
  · obtain ⟨p, dl, s, u, rs, us, m, rfl, _⟩ := h
    rfl
  · obtain ⟨p, dl, s, u, rs, us, m, rfl, M, ok, hu, hl3, hd, kq⟩ := h
    obtain ⟨f1, fd1, G1, m1, k1, b1⟩ := X1.ex
    obtain ⟨rule, dx, hk, h1⟩ := M.ob
    refine ⟨_, pss_one (ps_ret (pe_tup (pa_cons (pe_fld (pv 0) rfl) (pa_cons (pe_ix ix_list (pe_call G1 hr rfl m1 k1 b1 .nil pass0 (pa_cons (pv 1) (pa_cons (pe_fld (pv 0) rfl) (pa_cons (pe_fld (pv 0) rfl) pa_nil)))) pe_int (fun _ _ => rfl)) (pa_cons (pe_fld (pv 0) rfl) pa_nil))))), ?_⟩
    refine ⟨_, rfl, p, a.CM, dx, _, _, rfl, h1, T.cM, T.nMk, rfl, ?_⟩
    refine ⟨_, rfl, _, rfl, p, a.CM, dx, _, _, rfl, h1, T.cM, T.nMadmin, rfl, _, rfl, p, a.CM, dx, _, _, rfl, h1, T.cM, T.nMdoers, rfl, s, rule.by_, dl, us, rfl, (ok rule (List.mem_of_getElem? hk)).by_, SqL.of M.doers, hu, hl3, fun q hq => ?_⟩
    obtain ⟨_, e0, _⟩ := doer_role hk hd
    have hget : (iVs (us.filter fun u => has s u rule.by_))[0]? = some (iV u) := by
      unfold iVs
      rw [List.getElem?_map, e0]
      rfl
    refine ⟨q, _, _, _, rfl, rfl, SqL.of upd_same, atI_nat (j := 0) hget, ?_⟩
    refine ⟨_, rfl, p, a.CM, dx, _, _, rfl, new_same hq _ _ h1, T.cM, T.nMwhom, rfl, ?_⟩
    refine ⟨(by show 3 ≤ sizeLine; decide), fun t ht => kq t _ ((new_same hq).trans (new_same ht)) ((new_same hq).free ht) upd_same⟩
/-! ### moves_of -/
def MovesAt (a : Ad) (H : Hp) (rs : List Wm04.Rule) (us : List Nat) (dl : Addr) (ss : List Addr) (ms : List (Nat × Nat)) : Prop := All2 (fun p m => MoveAt a H p rs us dl m) ss ms
theorem MovesAt.same {H H' : Hp} {rs : List Wm04.Rule} {us : List Nat} {dl : Addr} {ss : List Addr} {ms : List (Nat × Nat)} (e : Same H H') (x : MovesAt a H rs us dl ss ms) : MovesAt a H' rs us dl ss ms := x.imp fun _ _ h => h.same e
def spMovesOf (K : PySem.W.Frag) (a : Ad) : Sp := fun vs H Q _ => ∃ (l dl : Addr) (ps : List Addr) (rs : List Wm04.Rule) (us : List Nat), vs = [.ref l, .ref dl] ∧ SqL K H l (refs ps) ∧ RulesAt a H ps rs ∧ rs.length ≤ 6 ∧ (∀ r ∈ rs, RuleOk r) ∧ H dl = some (.lst (iVs us)) ∧ us.length ≤ 3 ∧ (∀ u ∈ us, User u) ∧
  ∀ (q : Addr) (H' : Hp) (ss : List Addr), Same H H' → H q = none → H' q = some (.lst (refs ss)) → MovesAt a H' rs us dl ss (movesK (List.range rs.length)) → Q (.ref q) H'
theorem scMovesOf : FnScope ["rules", "doers", "moves", "k", "rule", "whom"] ["rules", "doers"] (defScope sMovesOf) := ⟨rfl, rfl, rfl, by decide +kernel, rfl, by decide +kernel, by decide +kernel⟩
theorem ok_movesOf {f : Addr} {fd : FuncData} (F : Fun K "moves_of" "moves_of" sMovesOf f fd) (T : Txt K mg a) (X1 : Made P w K mg base a.CM 3 ["self", "k", "rule", "doers", "whom"] (spMoveInit a)) : FnOk P w K mg base CX0 5 f fd ["rules", "doers"] (spMovesOf K a) := by
  refine F.ok scMovesOf (fun vs H Q E h => ?_) (fun cdv A outer s H vs Q E hr h => ?_)
  · obtain ⟨l, dl, ps, rs, us, rfl, _⟩ := h
    rfl
  · obtain ⟨l, dl, ps, rs, us, rfl, hS, hR, hl6, ok, hdl, hl3, hus, kq⟩ := h
    obtain ⟨f1, fd1, M1, G1, b1⟩ := X1.ex
    refine ⟨_, pss_cons (ps_set (i := 2) scMovesOf.nd rfl (Or.inl rfl) (pe_lst pa_nil))
      (pss_cons (ps_for PassesOwn.never rfl (pi_enum (by rfl) T.enumerate (pa_cons (pv 0) pa_nil)) (pg_tup rfl (pgs_cons (pg_name (i := 3) scMovesOf.nd rfl (Or.inl rfl)) (pgs_cons (pg_name (i := 4) scMovesOf.nd rfl (Or.inl rfl)) pgs_nil))) (pss_one (ps_for PassesOwn.never rfl (pi_tup (pe_glob rfl T.gU (v := .ref a.U) rfl)) (pg_name (i := 5) scMovesOf.nd rfl (Or.inl rfl)) (pss_one (ps_expr (pe_bm PySem.F.plainAttrs_list PySem.F.slot_list_append PySem.F.type_list_append mt_append (pv 2) (pa_cons (pe_make M1 G1 hr rfl T.gMove b1 .nil pass0 (pa_cons (pv 3) (pa_cons (pv 4) (pa_cons (pv 1) (pa_cons (pv 5) pa_nil))))) pa_nil)))))))
      (pss_one (ps_ret (pv 2)))), ?_⟩
    refine ⟨(by show 0 ≤ sizeLine; decide), fun q hq => ?_⟩
    have ndq : dl ≠ q := ne_of_none hdl hq
    let SI : Nat → List (Nat × Nat) → Hp → Prop := fun n ts H' => ∃ ss : List Addr, Same H H' ∧ H' q = some (.lst (refs ss)) ∧ MovesAt a H' rs us dl ss ts ∧ ss.length ≤ n
    have s0 : SI 0 [] (upd H q (.lst [])) := ⟨[], new_same hq, upd_same, All2.nil, Nat.le_refl _⟩
    refine ⟨_, rfl, l, _, rfl, (new_same hq).seq hS, for_it (walk_enum (K := K) (a := l) (xs := refs ps)) (fun i σ H' => SI (3 * i) (movesK (List.range i)) H' ∧ ∃ x y z : Option V, σ = [some (.ref l), some (.ref dl), some (.ref q), x, y, z])
      ⟨s0, none, none, none, rfl⟩ (fun i σ H' _ ⟨⟨_, e, _⟩, _⟩ => e.seq hS) ?_ ?_⟩
    · rintro i y σ H1 H2 hi ⟨S1, x1, x2, x3, rfl⟩ ⟨t, v1, v2, rfl, ht, rfl, e1, e2⟩
      cases e1
      obtain ⟨rp, hrp, rfl⟩ := refs_get e2
      rw [refs_len] at hi
      obtain ⟨rule, hrule, ne, ba, hRule⟩ := hR.right hrp
      have hi6 : i < rs.length := (List.getElem?_eq_some_iff.mp hrule).1
      have et : Same H1 (upd H1 t (.tup [.int (i : Nat), .ref rp])) := new_same ht
      refine ⟨t, _, rfl, SqT.of upd_same, rfl, _, _, rfl, _, _, rfl, rfl, ?_⟩
      obtain ⟨ss1, f1', f2, f3, f4⟩ := id S1
      -- for whom in USERS
      refine ⟨a.U, rfl, ⟨_, T.sU _⟩, for_tup (K := K) (a := a.U) (xs := uV) (fun m σ H' => SI (3 * i + m) (movesK (List.range i) ++ (mvs i).take m) H' ∧ ∃ z : Option V, σ = [some (.ref l), some (.ref dl), some (.ref q), some (iV i), some (.ref rp), z])
        ⟨⟨ss1, f1'.trans et, et _ _ f2, by simpa using f3.same et, f4⟩, x3, rfl⟩ (fun _ _ _ _ _ => T.sU _) ?_ ?_⟩
      · rintro m y3 σ H3 hm ⟨S3, z, rfl⟩
        rw [uV_eq] at hm
        obtain ⟨v, hv, rfl⟩ := iVs_get hm
        have hml : m < 3 := (List.getElem?_eq_some_iff.mp hv).1
        have hv2 : User v := by
          have := List.mem_of_getElem? hv
          unfold User
          simp at this
          omega
        obtain ⟨ss, e3, hq3, hss, hn⟩ := id S3
        refine ⟨_, rfl, .inl ⟨rfl, _, SqL.of hq3⟩, ?_⟩
        refine ⟨_, rfl, _, rfl, _, rfl, _, rfl, ?_⟩
        intro p dp np ndp nne
        have e4 : Same H3 (upd (upd H3 dp (.own p)) p (.ins a.CM dp [])) := fun b o e => by
          rw [upd_ne (ne_of_none e np), upd_ne (ne_of_none e ndp)]
          exact e
        have e34 := e3.trans e4
        refine ⟨p, dp, rp, dl, ne, ba, i, v, us, rule, rfl, upd_same, hRule.same e34, ok rule (List.mem_of_getElem? hrule), e34 _ _ hdl, hus, hl3, hv2, fun H5 k5 _ hp5 => ?_⟩
        have e5 : Same H3 H5 := fun b o e => k5 b o (e4 b o e) (ne_of_none e np)
        have hq5 := e5 _ _ hq3
        refine ⟨rfl, q, _, _, rfl, rfl, hq5, ?_, ?_, some (iV v), rfl⟩
        · rw [refs_len]
          exact Nat.lt_of_le_of_lt hn (Nat.lt_of_lt_of_le (show 3 * i + m < 3 * 6 + 3 by omega) (by decide))
        · have hmv : (mvs i)[m]? = some (i, v) := by
            have : m = 0 ∨ m = 1 ∨ m = 2 := by omega
            rcases this with h | h | h <;> (subst h; have e := Option.some.inj hv; subst e; rfl)
          have M5 : MoveAt a H5 p rs us dl (i, v) := ⟨⟨rule, dp, hrule, hp5⟩, hv2, (e3.trans e5) _ _ hdl⟩
          refine ⟨ss ++ [p], fun b o e => ?_, by rw [upd_same, refs_snoc], ?_, by simp; omega⟩
          · rw [upd_ne (ne_of_none e hq)]
            exact e5 b o (e3 b o e)
          · rw [take_more hmv, ← List.append_assoc]
            exact All2.snoc (hss.imp fun x t h => (h.same e5).put hq5 ndq) (M5.put hq5 ndq)
      · rintro σ H3 ⟨⟨ss, e3, hq3, hss, hn⟩, z, rfl⟩
        refine ⟨⟨ss, e3, hq3, ?_, ?_⟩, some (iV i), some (.ref rp), z, rfl⟩
        · have eu : uV.length = 3 := rfl
          rw [eu] at hss
          have e0 : (mvs i).take 3 = mvs i := rfl
          rw [e0] at hss
          unfold movesK at hss ⊢
          rw [List.range_succ, List.flatMap_append]
          simpa using hss
        · have eu : uV.length = 3 := rfl
          omega
    · rintro σ H1 ⟨⟨ss, e1, e2, e3, e4⟩, x, y, z, rfl⟩
      rw [refs_len, hR.len] at e3
      exact ⟨_, rfl, kq q H1 ss e1 hq e2 e3⟩
end
end Wp

set_option Elab.async false
set_option maxRecDepth 100000
set_option maxHeartbeats 2000000
namespace Wp
open PySem PySem.Spec PyProof.Rows L2 Wc
open Wm04 (place has)
abbrev kI (n : Nat) : Key := Sum.inl (n : Int)
theorem kI_inj {m n : Nat} (h : kI m = kI n) : m = n := by
  have := Sum.inl.inj h
  omega
/-- the states of a queue -/
def sts (Q : List Node) : List Nat := Q.map (·.1)
/-- by what the search came to a node; Mo: where a move lies -/
def CameV (Mo : Addr → Nat × Nat → Prop) (rs : List Wm04.Rule) (us : List Nat) (H : Hp) (Q : List Node) (x : Node) (v : V) : Prop := (x.2 = [] ∧ v = .non) ∨ ∃ (b mp : Addr) (y : Node) (m : Nat × Nat) (u : Nat), y ∈ Q ∧ Mo mp m ∧ doer rs us y.1 m.1 = some u ∧ x.2 = y.2 ++ [⟨m.1, u, m.2⟩] ∧ v = .ref b ∧ H b = some (.tup [iV y.1, .ref mp])
structure Came (Mo : Addr → Nat × Nat → Prop) (rs : List Wm04.Rule) (us : List Nat) (H : Hp) (kvs : List (Key × V)) (Q : List Node) : Prop where
  keys : kvs.map (·.1) = Q.map fun x => kI x.1
  val : ∀ x ∈ Q, ∃ v, valV kvs (kI x.1) = some v ∧ CameV Mo rs us H Q x v
  len : ∀ x ∈ Q, x.2.length < Q.length
section
variable {Mo : Addr → Nat × Nat → Prop} {rs : List Wm04.Rule} {us : List Nat}
theorem CameV.same {H H' : Hp} {Q Q' : List Node} {x : Node} {v : V} (e : ∀ b xs, H b = some (.tup xs) → H' b = some (.tup xs)) (eq : ∀ y ∈ Q, y ∈ Q') (h : CameV Mo rs us H Q x v) : CameV Mo rs us H' Q' x v := by
  rcases h with h | ⟨b, mp, y, m, u, h1, h2, h3, h4, h5, h6⟩
  · exact .inl h
  · exact .inr ⟨b, mp, y, m, u, eq y h1, h2, h3, h4, h5, e _ _ h6⟩
theorem Came.same {H H' : Hp} {kvs : List (Key × V)} {Q : List Node} (e : ∀ b xs, H b = some (.tup xs) → H' b = some (.tup xs)) (h : Came Mo rs us H kvs Q) : Came Mo rs us H' kvs Q :=
  ⟨h.keys, fun x hx => let ⟨v, h1, h2⟩ := h.val x hx; ⟨v, h1, h2.same e fun _ z => z⟩, h.len⟩
theorem Came.out {H : Hp} {kvs : List (Key × V)} {Q : List Node} (h : Came Mo rs us H kvs Q) {n : Nat} (hn : n ∉ Q.map (·.1)) : valV kvs (kI n) = none := by
  cases e : valV kvs (kI n) with
  | none => rfl
  | some v =>
    have m := valV_in e
    rw [h.keys] at m
    obtain ⟨x, hx, ex⟩ := List.mem_map.mp m
    exact absurd (List.mem_map.mpr ⟨x, hx, kI_inj ex⟩) hn
theorem Came.there {H : Hp} {kvs : List (Key × V)} {Q : List Node} (h : Came Mo rs us H kvs Q) {n : Nat} (hn : n ∈ Q.map (·.1)) : ∃ v, valV kvs (kI n) = some v := by
  obtain ⟨x, hx, rfl⟩ := List.mem_map.mp hn
  obtain ⟨v, h1, _⟩ := h.val x hx
  exact ⟨v, h1⟩
theorem Came.size {H : Hp} {kvs : List (Key × V)} {Q : List Node} (h : Came Mo rs us H kvs Q) : kvs.length = Q.length := by
  have := congrArg List.length h.keys
  simpa using this
theorem Came.start (H : Hp) (s : Nat) : Came Mo rs us H [(kI s, .non)] [(s, [])] := by
  refine ⟨rfl, fun x hx => ?_, fun x hx => ?_⟩
  · have e : x = (s, []) := by simpa using hx
    subst e
    exact ⟨.non, valV_pos rfl, .inl ⟨rfl, rfl⟩⟩
  · have e : x = (s, []) := by simpa using hx
    subst e
    show 0 < 1
    decide
/-- one node more -/
theorem Came.more {H H' : Hp} {kvs : List (Key × V)} {Q : List Node} {x : Node} {n u : Nat} {m : Nat × Nat} {b mp : Addr} (h : Came Mo rs us H kvs Q) (hx : x ∈ Q) (hn : n ∉ Q.map (·.1)) (e : ∀ b xs, H b = some (.tup xs) → H' b = some (.tup xs))
    (hb : H' b = some (.tup [iV x.1, .ref mp])) (hm : Mo mp m) (hu : doer rs us x.1 m.1 = some u) : Came Mo rs us H' (putK kvs (kI n) (.ref b)) (Q ++ [(n, x.2 ++ [⟨m.1, u, m.2⟩])]) := by
  have no := h.out hn
  rw [putK_new _ no]
  refine ⟨by rw [List.map_append, h.keys, List.map_append]; rfl, fun y hy => ?_, fun y hy => ?_⟩
  · rcases List.mem_append.mp hy with q | q
    · obtain ⟨v, h1, h2⟩ := h.val y q
      refine ⟨v, ?_, h2.same e fun _ z => List.mem_append_left _ z⟩
      rw [valV_snoc _ _ _ _ no, if_neg (fun z => ?_)]
      · exact h1
      · rw [z, no] at h1
        cases h1
    · have ey : y = (n, x.2 ++ [⟨m.1, u, m.2⟩]) := by simpa using q
      subst ey
      refine ⟨.ref b, ?_, .inr ⟨b, mp, x, m, u, List.mem_append_left _ hx, hm, hu, rfl, rfl, hb⟩⟩
      rw [valV_snoc _ _ _ _ no, if_pos rfl]
  · rw [List.length_append]
    rcases List.mem_append.mp hy with q | q
    · have := h.len y q
      simp
      omega
    · have ey : y = (n, x.2 ++ [⟨m.1, u, m.2⟩]) := by simpa using q
      subst ey
      have := h.len x hx
      simp
      exact this
end
theorem All2.reverse {α β : Type} {R : α → β → Prop} {xs : List α} {ys : List β} (h : All2 R xs ys) : All2 R xs.reverse ys.reverse := by
  refine ⟨by simp [h.len], fun i x y h1 h2 => ?_⟩
  have hi : i < xs.length := by
    have := (List.getElem?_eq_some_iff.mp h1).1
    simpa using this
  rw [List.getElem?_reverse hi] at h1
  rw [List.getElem?_reverse (by rw [← h.len]; exact hi), ← h.len] at h2
  exact h.at_ _ _ _ h1 h2
theorem TupAt.same {H H' : Hp} (e : ∀ b xs, H b = some (.tup xs) → H' b = some (.tup xs)) {p : Addr} {t : Wm04.Step} (h : TupAt H p t) : TupAt H' p t := e _ _ h
theorem tup_put {H : Hp} {q : Addr} {ys : List V} {o : HO} (hq : H q = some (.lst ys)) : ∀ b xs, H b = some (.tup xs) → upd H q o b = some (.tup xs) := fun _ _ e => (upd_ne (ne_of e hq (by intro z; cases z))).trans e
theorem tup_same {H H' : Hp} (e : Same H H') : ∀ b xs, H b = some (.tup xs) → H' b = some (.tup xs) := fun b _ h => e b _ h
/-! ### the search's object -/
def srF (ml d qa : Addr) : List (Str × V) := [("moves", .ref ml), ("came_by", .ref d), ("queue", .ref qa)]
/-- what stands by the moves of some rules, in the heap H0 of the search's beginning -/
structure Moves (K : PySem.W.Frag) (a : Ad) (H0 : Hp) (rs : List Wm04.Rule) (us : List Nat) (ks : List Nat) (dl ml : Addr) (ss : List Addr) : Prop where
  lst : SqL K H0 ml (refs ss)
  at_ : MovesAt a H0 rs us dl ss (movesK ks)
  rules : ∀ r ∈ rs, RuleOk r
  users : ∀ u ∈ us, User u
  nd : us.Nodup
  three : us.length ≤ 3
/-- the search at p: its dict at d, its queue at qa, both made since H0; N has been come to -/
structure SrAt (a : Ad) (rs : List Wm04.Rule) (us : List Nat) (dl : Addr) (H0 H : Hp) (p ml d qa : Addr) (N : List Node) : Prop where
  same : Same H0 H
  ob : ∃ dx, H p = some (.ins a.CS dx (srF ml d qa))
  dict : ∃ kvs, H d = some (.dK kvs) ∧ Came (fun mp m => MoveAt a H0 mp rs us dl m) rs us H kvs N
  queue : H qa = some (.lst (iVs (sts N)))
  nd : H0 d = none
  nq : H0 qa = none
theorem SrAt.later {a : Ad} {rs : List Wm04.Rule} {us : List Nat} {dl : Addr} {H0 H H' : Hp} {p ml d qa : Addr} {N : List Node} (x : SrAt a rs us dl H0 H p ml d qa N) (e : Same H H') : SrAt a rs us dl H0 H' p ml d qa N := by
  obtain ⟨dx, h1⟩ := x.ob
  obtain ⟨kvs, h2, h3⟩ := x.dict
  exact ⟨x.same.trans e, ⟨dx, e _ _ h1⟩, ⟨kvs, e _ _ h2, h3.same (tup_same e)⟩, e _ _ x.queue, x.nd, x.nq⟩
section
variable {P : Program} {w : World} {K : PySem.W.Frag} {mg : Str → Option Value} {base : Heap} {a : Ad}
theorem below_K {rs : List Wm04.Rule} (ok : ∀ r ∈ rs, RuleOk r) (ks us : List Nat) : Below rs (stepsK ks us) := fun s hs t ht => by
  unfold stepsK at ht
  obtain ⟨k, _, ht⟩ := List.mem_flatMap.mp ht
  obtain ⟨u, _, ht⟩ := List.mem_flatMap.mp ht
  obtain ⟨v, e, hv⟩ := blk_mem ht
  rw [e]
  exact did_lt (fun r hr => (ok r hr).role) hs (show User v by unfold User; omega)
/-! ### Search.__init__ -/
def spSrInit (a : Ad) : Sp := fun vs H Q _ => ∃ (p dx ml : Addr) (s : Nat), vs = [.ref p, iV s, .ref ml] ∧ H p = some (.ins a.CS dx []) ∧
  ∀ (d qa : Addr) (H' : Hp), H d = none → H qa = none → (∀ b o, H b = some o → b ≠ p → H' b = some o) → H' p = some (.ins a.CS dx (srF ml d qa)) → H' d = some (.dK [(kI s, .non)]) → H' qa = some (.lst (iVs [s])) → Q .non H'
theorem scSrInit : FnScope ["self", "held", "moves"] ["self", "held", "moves"] (defScope sSrInit) := ⟨rfl, rfl, rfl, by decide +kernel, rfl, by decide +kernel, by decide +kernel⟩
theorem ok_srInit {f : Addr} {fd : FuncData} (F : Fun K "__init__" "Search.__init__" sSrInit f fd) (T : Txt K mg a) : FnOk P w K mg base CX0 1 f fd ["self", "held", "moves"] (spSrInit a) := by
  refine F.ok scSrInit (fun vs H Q E h => ?_) (fun cdv A outer s H vs Q E hr h => ?_)
  · obtain ⟨p, dx, ml, s, rfl, _⟩ := h
    rfl
  · obtain ⟨p, dx, ml, s, rfl, hp, kq⟩ := h
    refine ⟨_, pss_cons (ps_fld (pv 0) (pv 2) rfl)
      (pss_cons (ps_fld (pv 0) (pe_disp (pps_cons (pv 1) pe_non pps_nil) (by rfl) (by rfl) (fun z => by cases z) (by decide)) rfl)
      (pss_one (ps_fld (pv 0) (pe_lst (pa_cons (pv 1) pa_nil)) rfl))), ?_⟩
    refine ⟨_, rfl, _, rfl, p, a.CS, dx, [], rfl, hp, T.cS, T.nSmoves, (by show 0 < 1000; decide), ?_⟩
    intro d hd
    have npd : p ≠ d := fun z => by rw [← z, upd_same] at hd; cases hd
    have hd0 : H d = none := by rw [upd_ne npd.symm] at hd; exact hd
    refine ⟨_, rfl, upd_same, [(kI s, .non)], rfl, (by show 1 ≤ 15; decide), ?_⟩
    rw [upd_upd]
    have em : mergeK [] [(kI s, V.non)] = [(kI s, V.non)] := rfl
    rw [em]
    refine ⟨_, rfl, p, a.CS, dx, _, rfl, (upd_ne npd).trans upd_same, T.cS, T.nScame, (by show 1 < 1000; decide), ?_⟩
    refine ⟨_, rfl, (by show 1 ≤ sizeLine; decide), fun qa hqa => ?_⟩
    have npq : p ≠ qa := fun z => by rw [← z, upd_same] at hqa; cases hqa
    have ndq : d ≠ qa := fun z => by rw [← z, upd_ne npd.symm, upd_same] at hqa; cases hqa
    have hqa0 : H qa = none := by rw [upd_ne npq.symm, upd_ne ndq.symm, upd_ne npq.symm] at hqa; exact hqa
    refine ⟨_, rfl, p, a.CS, dx, _, rfl, (upd_ne npq).trans upd_same, T.cS, T.nSqueue, (by show 2 < 1000; decide), ?_⟩
    refine kq d qa _ hd0 hqa0 (fun b o e n => ?_) upd_same ?_ ?_
    · rw [upd_ne n, upd_ne (ne_of_none e hqa0), upd_ne n, upd_ne (ne_of_none e hd0), upd_ne n]; exact e
    · rw [upd_ne npd.symm, upd_ne ndq, upd_ne npd.symm, upd_same]
    · rw [upd_ne npq.symm, upd_same]; rfl
/-! ### visit -/
def spVisit (K : PySem.W.Frag) (a : Ad) : Sp := fun vs H Q _ => ∃ (H0 : Hp) (p ml d qa dl : Addr) (rs : List Wm04.Rule) (us ks : List Nat) (ss : List Addr) (N : List Node) (x : Node), vs = [.ref p, iV x.1] ∧ SrAt a rs us dl H0 H p ml d qa N ∧ Moves K a H0 rs us ks dl ml ss ∧ x ∈ N ∧ QOk N ∧
  ∀ H', SrAt a rs us dl H0 H' p ml d qa (grow rs (stepsK ks us) x N) → Q .non H'
theorem scVisit : FnScope ["self", "current", "move", "behind"] ["self", "current"] (defScope sVisit) := ⟨rfl, rfl, rfl, by decide +kernel, rfl, by decide +kernel, by decide +kernel⟩
theorem moved_mem {rs : List Wm04.Rule} {us : List Nat} {x y : Node} : ∀ {l : List (Nat × Nat)} {Q : List Node}, y ∈ Q → y ∈ l.foldl (moved rs us x) Q
  | [], _, h => h
  | m :: l, Q, h => by
    rw [List.foldl_cons]
    refine moved_mem ?_
    unfold moved
    split
    · exact h
    · obtain ⟨r, e⟩ := grow1_pre (rs := rs) x Q ⟨m.1, _, m.2⟩
      rw [e]
      exact List.mem_append_left _ h
theorem moved_ok {rs : List Wm04.Rule} {us : List Nat} {x : Node} (ok : ∀ r ∈ rs, RuleOk r) (hx : x.1 < 4096) : ∀ {l : List (Nat × Nat)} {Q : List Node}, (∀ m ∈ l, User m.2) → QOk Q → QOk (l.foldl (moved rs us x) Q)
  | [], _, _, h => h
  | m :: l, Q, hl, h => by
    rw [List.foldl_cons]
    refine moved_ok ok hx (fun z hz => hl z (List.mem_cons_of_mem _ hz)) ?_
    unfold moved
    split
    · exact h
    · exact grow1_ok h (did_lt (fun r hr => (ok r hr).role) hx (hl m (List.mem_cons_self ..)))
theorem movesK_user {ks : List Nat} {m : Nat × Nat} (h : m ∈ movesK ks) : User m.2 := by
  unfold movesK at h
  obtain ⟨k, _, h⟩ := List.mem_flatMap.mp h
  unfold mvs at h
  simp only [List.mem_cons, List.not_mem_nil, or_false] at h
  rcases h with h | h | h <;> (rw [h]; unfold User; dsimp only; omega)
theorem ok_visit {f : Addr} {fd : FuncData} (F : Fun K "visit" "Search.visit" sVisit f fd) (T : Txt K mg a) (X2 : Mth P w K mg base a.CM "may_be_done" 1 ["self", "held"] (spMay a)) (X3 : Mth P w K mg base a.CM "held_behind" 1 ["self", "held"] (spBehind a)) :
    FnOk P w K mg base CX0 2 f fd ["self", "current"] (spVisit K a) := by
  refine F.ok scVisit (fun vs H Q E h => ?_) (fun cdv A outer s H vs Q E hr h => ?_)
  · obtain ⟨H0, p, ml, d, qa, dl, rs, us, ks, ss, N, x, rfl, _⟩ := h
    rfl
  · obtain ⟨H0, p, ml, d, qa, dl, rs, us, ks, ss, N, x, rfl, S, M, hxN, hok, kq⟩ := h
    obtain ⟨f2, fd2, M2, G2, b2⟩ := X2.ex
    obtain ⟨f3, fd3, M3, G3, b3⟩ := X3.ex
    have hu := hu_of hr
    obtain ⟨dx, hp⟩ := S.ob
    have hx96 := hok.lt x hxN
    refine ⟨_, pss_one (ps_for PassesOwn.never rfl (pi_list (pe_fld (pv 0) rfl)) (pg_name (i := 2) scVisit.nd rfl (Or.inl rfl)) (pss_one (ps_if (pt_val (pe_meth (pv 2) T.cM M2 G2 hr b2 .nil pass0 (pa_cons (pv 1) pa_nil))) (pss_cons (ps_set (i := 3) scVisit.nd rfl (Or.inl rfl) (pe_meth (pv 2) T.cM M3 G3 hr b3 .nil pass0 (pa_cons (pv 1) pa_nil)))
      (pss_one (ps_if (pt_cmp (pc_dnotin hu (pv 3) (pe_fld (pv 0) rfl))) (pss_cons (ps_dput hu (pe_fld (pv 0) rfl) (pv 3) (pe_tup (pa_cons (pv 1) (pa_cons (pv 2) pa_nil))) rfl)
      (pss_one (ps_expr (pe_bm PySem.F.plainAttrs_list PySem.F.slot_list_append PySem.F.type_list_append mt_append (pe_fld (pv 0) rfl) (pa_cons (pv 3) pa_nil))))) pss_nil))) pss_nil))), ?_⟩
    have hlen : ss.length = (movesK ks).length := M.at_.len
    refine ⟨_, rfl, p, a.CS, dx, _, _, rfl, hp, T.cS, T.nSmoves, rfl, ml, rfl, ⟨_, S.same.seq M.lst⟩, for_list (K := K) (a := ml) (xs := refs ss) (fun j σ H' => (∃ st bh : Option V, σ = [some (.ref p), some (iV x.1), st, bh]) ∧ SrAt a rs us dl H0 H' p ml d qa (((movesK ks).take j).foldl (moved rs us x) N))
      ⟨⟨none, none, rfl⟩, S⟩ (fun j σ H' _ ⟨_, S'⟩ => S'.same.seq M.lst) ?_ ?_⟩
    · rintro j y σ H3 hj ⟨⟨st, bh, rfl⟩, S3⟩
      obtain ⟨mp, hmp, rfl⟩ := refs_get hj
      obtain ⟨m, hm, hmv⟩ := M.at_.right hmp
      obtain ⟨rule, dm, hrule, ho0⟩ := hmv.ob
      have ho := S3.same _ _ ho0
      have ruleok := M.rules rule (List.mem_of_getElem? hrule)
      have gok : QOk (((movesK ks).take j).foldl (moved rs us x) N) := moved_ok M.rules hx96 (fun z hz => movesK_user (List.mem_of_mem_take hz)) hok
      have lg := gok.len
      rw [take_more hm, List.foldl_append]
      have hxG : x ∈ ((movesK ks).take j).foldl (moved rs us x) N := moved_mem hxN
      generalize ((movesK ks).take j).foldl (moved rs us x) N = G0 at S3 gok lg hxG ⊢
      have e1 : List.foldl (moved rs us x) G0 [m] = moved rs us x G0 m := rfl
      rw [e1]
      obtain ⟨dx3, hp3⟩ := S3.ob
      obtain ⟨kvs3, hd3, C3⟩ := S3.dict
      have hq3 := S3.queue
      -- if move.may_be_done(current)
      refine ⟨_, rfl, mp, dm, _, rfl, ho, rfl, _, rfl, mp, dm, dl, x.1, m.1, rule.by_, m.2, mv rule us m.2, rfl, ho, _, rfl, ?_⟩
      have key := mv_may hrule ruleok.by_ M.nd M.users x.1 m.2
      cases hb : (mv rule us m.2).may x.1 with
      | false =>
        rw [hb] at key
        refine iteF ?_
        have eg : moved rs us x G0 m = G0 := by
          unfold moved
          cases hdo : doer rs us x.1 m.1 with
          | none => rfl
          | some u =>
            rw [hdo] at key
            have key' : false = Wm04.may rs x.1 ⟨m.1, u, m.2⟩ := key
            exact grow1_id fun z => by rw [← key'] at z; cases z
        rw [eg]
        exact ⟨⟨_, _, rfl⟩, S3⟩
      | true =>
        rw [hb] at key
        obtain ⟨u, hdo, hmay⟩ : ∃ u, doer rs us x.1 m.1 = some u ∧ Wm04.may rs x.1 ⟨m.1, u, m.2⟩ = true := by
          cases hdo : doer rs us x.1 m.1 with
          | none => rw [hdo] at key; cases key
          | some u => rw [hdo] at key; exact ⟨u, rfl, key.symm⟩
        have em : moved rs us x G0 m = grow1 rs x G0 ⟨m.1, u, m.2⟩ := by unfold moved; rw [hdo]
        rw [em]
        refine iteT ?_
        have pl := place_lt hmv.whom ruleok.role
        have hdid : Wm04.did rs x.1 ⟨m.1, u, m.2⟩ = x.1 ^^^ (mv rule us m.2).change := mv_did hrule hx96 hmv.whom ruleok.role hmay
        -- behind = move.held_behind(current)
        refine ⟨_, rfl, mp, dm, _, rfl, ho, rfl, _, rfl, mp, dm, dl, x.1, m.1, rule.by_, m.2, place m.2 rule.role, mv rule us m.2, rfl, ho, hx96, pl, mv_change _ _ _, ?_⟩
        rw [← hdid]
        generalize hbe : Wm04.did rs x.1 ⟨m.1, u, m.2⟩ = be
        -- if behind not in self.came_by
        refine ⟨_, rfl, _, rfl, p, a.CS, dx3, _, _, rfl, hp3, T.cS, T.nScame, rfl, d, _, rfl, DGet.k (k := kI be) hd3, _, rfl, ?_⟩
        by_cases hin : be ∈ sts G0
        · obtain ⟨v, hv⟩ := C3.there hin
          rw [hv]
          refine iteF ?_
          have eg : grow1 rs x G0 ⟨m.1, u, m.2⟩ = G0 := grow1_id fun _ => by rw [hbe]; exact hin
          rw [eg]
          exact ⟨⟨_, _, rfl⟩, S3⟩
        · have hno := C3.out hin
          rw [hno]
          refine iteT ?_
          have eg : grow1 rs x G0 ⟨m.1, u, m.2⟩ = G0 ++ [(be, x.2 ++ [⟨m.1, u, m.2⟩])] := by
            unfold grow1
            rw [hbe, if_pos ⟨hmay, hin⟩]
          rw [eg]
          -- self.came_by[behind] = (current, move)
          refine ⟨_, rfl, _, rfl, (by show 2 ≤ sizeLine; decide), fun tp htp => ?_⟩
          have e4 : Same H3 (upd H3 tp (.tup [iV x.1, .ref mp])) := new_same htp
          have ndt : tp ≠ d := fun z => by rw [z, hd3] at htp; cases htp
          have nqt : tp ≠ qa := fun z => by rw [z, hq3] at htp; cases htp
          have npt : p ≠ tp := fun z => by rw [← z, hp3] at htp; cases htp
          have ndq : d ≠ qa := ne_of hd3 hq3 (by intro z; cases z)
          have npd : p ≠ d := ne_of hp3 hd3 (by intro z; cases z)
          have npq : p ≠ qa := ne_of hp3 hq3 (by intro z; cases z)
          refine ⟨_, rfl, p, a.CS, dx3, _, _, rfl, e4 _ _ hp3, T.cS, T.nScame, rfl, _, rfl, d, _, rfl, DPut.k (k := kI be) (e4 _ _ hd3) (by rw [C3.size]; exact Nat.lt_of_le_of_lt lg (by decide)), ?_⟩
          have hq5 : upd (upd H3 tp (.tup [iV x.1, .ref mp])) d (.dK (putK kvs3 (kI be) (.ref tp))) qa = some (.lst (iVs (sts G0))) := by
            rw [upd_ne ndq.symm, upd_ne nqt.symm]; exact hq3
          have hp5 : upd (upd H3 tp (.tup [iV x.1, .ref mp])) d (.dK (putK kvs3 (kI be) (.ref tp))) p = some (.ins a.CS dx3 (srF ml d qa)) := by
            rw [upd_ne npd, upd_ne npt]; exact hp3
          -- self.queue.append(behind)
          refine ⟨_, rfl, p, a.CS, dx3, _, _, rfl, hp5, T.cS, T.nSqueue, rfl, .inl ⟨rfl, _, SqL.of hq5⟩, _, rfl, qa, _, _, rfl, rfl, hq5, ?_, ⟨_, _, rfl⟩, ?_, ?_, ⟨putK kvs3 (kI be) (.ref tp), ?_, ?_⟩, ?_, S3.nd, S3.nq⟩
          · rw [iVs_len]
            show (List.map _ _).length < sizeLine
            rw [List.length_map]
            exact Nat.lt_of_le_of_lt lg (by decide)
          · intro b o z
            rw [upd_ne (ne_of_none z S3.nq), upd_ne (ne_of_none z S3.nd)]
            exact e4 b o (S3.same b o z)
          · exact ⟨dx3, (upd_ne npq).trans hp5⟩
          · rw [upd_ne ndq, upd_same]
          · have tk : ∀ b xs, H3 b = some (.tup xs) → upd (upd (upd H3 tp (.tup [iV x.1, .ref mp])) d (.dK (putK kvs3 (kI be) (.ref tp)))) qa (.lst (iVs (sts G0) ++ [iV be])) b = some (.tup xs) := fun b xs z => by
              rw [upd_ne (ne_of z hq3 (by intro y; cases y)), upd_ne (ne_of z hd3 (by intro y; cases y))]
              exact e4 b _ z
            refine C3.more hxG hin tk ?_ hmv hdo
            rw [upd_ne nqt, upd_ne ndt, upd_same]
          · rw [upd_same]
            unfold iVs sts
            rw [List.map_append, List.map_append]
            rfl
    · rintro σ H3 ⟨⟨st, bh, rfl⟩, S3⟩
      rw [refs_len, hlen, List.take_length, ← grow_moves] at S3
      exact kq H3 S3
end
end Wp

set_option Elab.async false
set_option maxRecDepth 100000
set_option maxHeartbeats 2000000
namespace Wp
open PySem PySem.Spec PyProof.Rows L2 Wc
open Wm04 (place has)
section
variable {P : Program} {w : World} {K : PySem.W.Frag} {mg : Str → Option Value} {base : Heap} {a : Ad}
/-! ### go_until -/
def spGo (P : Program) (w : World) (K : PySem.W.Frag) (mg : Str → Option Value) (base : Heap) (a : Ad) : Sp := fun vs H Q _ => ∃ (H0 : Hp) (p ml d qa dl f : Addr) (rs : List Wm04.Rule) (us ks : List Nat) (ss : List Addr) (s : Nat) (want : Nat → Bool) (G : Hp → Prop),
  vs = [.ref p, .ref f] ∧ SrAt a rs us dl H0 H p ml d qa [(s, [])] ∧ Moves K a H0 rs us ks dl ml ss ∧ s < 4096 ∧ Clo.Fn1 P w K mg base 3 f want G ∧ G H0 ∧
  (∀ (n : Nat) (H' : Hp), (queue rs (stepsK ks us) s n).length ≤ n → (∀ y ∈ queue rs (stepsK ks us) s n, want y.1 = false) → SrAt a rs us dl H0 H' p ml d qa (queue rs (stepsK ks us) s n) → Q .non H') ∧
  (∀ (n : Nat) (x : Node) (H' : Hp), (queue rs (stepsK ks us) s n)[n]? = some x → want x.1 = true → (∀ i y, i < n → (queue rs (stepsK ks us) s n)[i]? = some y → want y.1 = false) → SrAt a rs us dl H0 H' p ml d qa (queue rs (stepsK ks us) s n) → Q (iV x.1) H')
theorem scGo : FnScope ["self", "is_wanted", "at", "current"] ["self", "is_wanted"] (defScope sGo) := ⟨rfl, rfl, rfl, by decide +kernel, rfl, by decide +kernel, by decide +kernel⟩
theorem ok_go {f : Addr} {fd : FuncData} (F : Fun K "go_until" "Search.go_until" sGo f fd) (T : Txt K mg a) (X1 : Mth P w K mg base a.CS "visit" 2 ["self", "current"] (spVisit K a)) :
    FnOk P w K mg base CX0 4 f fd ["self", "is_wanted"] (spGo P w K mg base a) := by
  refine F.ok scGo (fun vs H Q E h => ?_) (fun cdv A outer s H vs Q E hr h => ?_)
  · obtain ⟨H0, p, ml, d, qa, dl, f, rs, us, ks, ss, s, want, G, rfl, _⟩ := h
    rfl
  · obtain ⟨H0, p, ml, d, qa, dl, fn, rs, us, ks, ss, s0, want, G, rfl, S, M, hs0, F1, g0, kN, kS⟩ := h
    obtain ⟨f1, fd1, M1, G1, b1⟩ := X1.ex
    have hr2 : Room 2 _ := hr.mono (by decide)
    have hb : Below rs (stepsK ks us) := below_K M.rules ks us
    have qok : ∀ n, QOk (queue rs (stepsK ks us) s0 n) := fun n => queue_ok hb hs0 n
    refine ⟨_, pss_cons (ps_set (i := 2) scGo.nd rfl (Or.inl rfl) pe_int)
      (pss_cons (ps_while PassesOwn.never (pt_cmpR op_lt (pv 2) (pe_callB call_len_seq (by rfl) T.len PySem.boot_len (pa_cons (pe_fld (pv 0) rfl) pa_nil)) (nomark _)) (pss_cons (ps_set (i := 3) scGo.nd rfl (Or.inl rfl) (pe_ix ix_list (pe_fld (pv 0) rfl) (pv 2) (fun _ _ => rfl)))
      (pss_cons (ps_if (pt_val (Clo.pe_fn1 (k := 3) (i := 1) hr rfl (Or.inl rfl) (pa_cons (pv 3) pa_nil))) (pss_one (ps_ret (pv 3))) pss_nil)
      (pss_cons (ps_expr (pe_meth (pv 0) T.cS M1 G1 hr2 b1 .nil pass0 (pa_cons (pv 3) pa_nil)))
      (pss_one (ps_set (i := 2) scGo.nd rfl (Or.inl rfl) (pe_op op_add (pv 2) pe_int)))))))
      (pss_one (ps_ret pe_non))), ?_⟩
    refine while_by (fun σ H' => ∃ (n : Nat) (c : Option V), σ = [some (.ref p), some (.ref fn), some (iV n), c] ∧ SrAt a rs us dl H0 H' p ml d qa (queue rs (stepsK ks us) s0 n) ∧ n ≤ (queue rs (stepsK ks us) s0 n).length ∧ ∀ i y, i < n → (queue rs (stepsK ks us) s0 n)[i]? = some y → want y.1 = false)
      (fun (σ : L2.St) _ => match σ[2]? with | some (some (V.int n)) => 4097 - n.toNat | _ => 0) ⟨0, none, rfl, S, Nat.zero_le _, fun i y hi => absurd hi (Nat.not_lt_zero _)⟩ ?_ ?_
    · rintro σ H1 ⟨n, c, rfl, S1, hn, hw⟩
      have ln := (qok n).len
      obtain ⟨dx, hp⟩ := S1.ob
      have lq : (iVs (sts (queue rs (stepsK ks us) s0 n))).length = (queue rs (stepsK ks us) s0 n).length := by rw [iVs_len]; exact List.length_map _
      refine ⟨_, rfl, _, rfl, p, a.CS, dx, _, _, rfl, hp, T.cS, T.nSqueue, rfl, qa, _, rfl, .inl (SqL.of S1.queue), _, _, rfl, rfl, _, rfl, ?_⟩
      rw [lq]
      by_cases hlt : n < (queue rs (stepsK ks us) s0 n).length
      · have dt : decide ((n : Int) < (((queue rs (stepsK ks us) s0 n).length : Nat) : Int)) = true := decide_eq_true (by omega)
        rw [dt]
        refine iteT ?_
        obtain ⟨x, hx⟩ : ∃ x, (queue rs (stepsK ks us) s0 n)[n]? = some x := ⟨_, List.getElem?_eq_getElem hlt⟩
        have hxm := List.mem_of_getElem? hx
        have hx96 := (qok n).lt x hxm
        have hxv : (iVs (sts (queue rs (stepsK ks us) s0 n)))[n]? = some (iV x.1) := by
          unfold iVs sts
          rw [List.getElem?_map, List.getElem?_map, hx]
          rfl
        -- current = self.queue[at]
        refine ⟨_, rfl, p, a.CS, dx, _, _, rfl, hp, T.cS, T.nSqueue, rfl, _, rfl, qa, _, _, _, rfl, rfl, SqL.of S1.queue, atI_nat hxv, ?_⟩
        -- if is_wanted(current)
        have gH1 : G H1 := F1.stay _ _ (LamX.ExtN.of S1.same) g0
        refine ⟨fn, want, G, rfl, F1, gH1, _, rfl, x.1, rfl, hx96, gH1, fun H2 e2 => ⟨_, rfl, ?_⟩⟩
        have S2 := S1.later e2
        cases hwx : want x.1 with
        | true => exact iteT ⟨_, rfl, kS n x H2 hx hwx hw S2⟩
        | false =>
          refine iteF ?_
          obtain ⟨dx2, hp2⟩ := S2.ob
          -- self.visit(current)
          refine ⟨_, rfl, p, dx2, _, rfl, hp2, rfl, _, rfl, H0, p, ml, d, qa, dl, rs, us, ks, ss, queue rs (stepsK ks us) s0 n, x, rfl, S2, M, hxm, qok n, fun H3 S3 => ?_⟩
          have en : queue rs (stepsK ks us) s0 (n + 1) = grow rs (stepsK ks us) x (queue rs (stepsK ks us) s0 n) := queue_next hx
          obtain ⟨more, hm⟩ := grow_pre (rs := rs) x (stepsK ks us) (queue rs (stepsK ks us) s0 n)
          rw [← en] at S3
          -- at = at + 1
          refine ⟨_, rfl, _, _, rfl, rfl, ?_⟩
          refine ⟨⟨n + 1, some (iV x.1), rfl, S3, ?_, fun i y hi hy => ?_⟩, ?_⟩
          · rw [en, hm, List.length_append]; omega
          · rw [en, hm, List.getElem?_append_left (by omega)] at hy
            by_cases hin : i < n
            · exact hw i y hin hy
            · have : i = n := by omega
              subst this
              rw [hx] at hy
              cases hy
              exact hwx
          · show (4097 - ((n : Int) + 1).toNat) < 4097 - ((n : Int)).toNat
            omega
      · have dt : decide ((n : Int) < (((queue rs (stepsK ks us) s0 n).length : Nat) : Int)) = false := decide_eq_false (by omega)
        rw [dt]
        refine iteF ?_
        have en : (queue rs (stepsK ks us) s0 n).length ≤ n := by omega
        refine kN n H1 en (fun y hy => ?_) S1
        obtain ⟨i, hi⟩ := List.mem_iff_getElem?.mp hy
        exact hw i y (Nat.lt_of_lt_of_le (List.getElem?_eq_some_iff.mp hi).1 en) hi
    · rintro σ H1 Q1 Q2 hQ ⟨v, hv, v2, hv2, p2, C, dx, fs, z, e1, e2, e3, e4, e5, p, ys, e6, e7, i, j, e8, e9, k, e10, q1⟩
      exact ⟨v, hv, v2, hv2, p2, C, dx, fs, z, e1, e2, e3, e4, e5, p, ys, e6, e7, i, j, e8, e9, k, e10, hQ _ _ q1⟩
/-! ### steps_to -/
def spStepsTo (K : PySem.W.Frag) (a : Ad) : Sp := fun vs H Q _ => ∃ (H0 : Hp) (p ml d qa dl : Addr) (rs : List Wm04.Rule) (us ks : List Nat) (ss : List Addr) (N : List Node) (x : Node), vs = [.ref p, iV x.1] ∧ SrAt a rs us dl H0 H p ml d qa N ∧ Moves K a H0 rs us ks dl ml ss ∧ N.length ≤ 4096 ∧ x ∈ N ∧
  ∀ (q : Addr) (H' : Hp) (ts : List Addr), Same H H' → H q = none → H' q = some (.lst (refs ts)) → All2 (TupAt H') ts x.2 → Q (.ref q) H'
theorem scStepsTo : FnScope ["self", "held", "steps", "came"] ["self", "held"] (defScope sStepsTo) := ⟨rfl, rfl, rfl, by decide +kernel, rfl, by decide +kernel, by decide +kernel⟩
theorem ok_stepsTo {f : Addr} {fd : FuncData} (F : Fun K "steps_to" "Search.steps_to" sStepsTo f fd) (T : Txt K mg a) (X1 : Mth P w K mg base a.CM "tell_step" 3 ["self", "held"] (spTellStep a)) : FnOk P w K mg base CX0 4 f fd ["self", "held"] (spStepsTo K a) := by
  refine F.ok scStepsTo (fun vs H Q E h => ?_) (fun cdv A outer s H vs Q E hr h => ?_)
  · obtain ⟨H0, p, ml, d, qa, dl, rs, us, ks, ss, N, x, rfl, _⟩ := h
    rfl
  · obtain ⟨H0, p, ml, d, qa, dl, rs, us, ks, ss, N, x, rfl, S, M, hN, hx, k⟩ := h
    obtain ⟨f1, fd1, M1, G1, b1⟩ := X1.ex
    obtain ⟨dx, hp⟩ := S.ob
    obtain ⟨kvs, hd, C⟩ := S.dict
    have hu := hu_of hr
    refine ⟨_, pss_cons (ps_set (i := 2) scStepsTo.nd rfl (Or.inl rfl) (pe_lst pa_nil))
      (pss_cons (ps_set (i := 3) scStepsTo.nd rfl (Or.inl rfl) (pe_dget hu (pe_fld (pv 0) rfl) (pv 1) (fun _ _ => rfl)))
      (pss_cons (ps_while PassesOwn.never (pt_cmp (pc_notN (pv 3))) (pss_cons (ps_expr (pe_bm PySem.F.plainAttrs_list PySem.F.slot_list_append PySem.F.type_list_append mt_append (pv 2) (pa_cons (pe_meth (pe_ix ix_tup (pv 3) pe_int (fun _ _ => rfl)) T.cM M1 G1 hr b1 .nil pass0 (pa_cons (pe_ix ix_tup (pv 3) pe_int (fun _ _ => rfl)) pa_nil)) pa_nil)))
      (pss_one (ps_set (i := 3) scStepsTo.nd rfl (Or.inl rfl) (pe_dget hu (pe_fld (pv 0) rfl) (pe_ix ix_tup (pv 3) pe_int (fun _ _ => rfl)) (fun _ _ => rfl))))))
      (pss_one (ps_ret (RvL.pe_lstRev rfl rfl T.list rfl T.reversed (pv 2)))))), ?_⟩
    refine ⟨(by show 0 ≤ sizeLine; decide), fun q hq => ?_⟩
    have e0 : Same H (upd H q (.lst [])) := new_same hq
    obtain ⟨v, hv, cv⟩ := C.val x hx
    refine ⟨_, rfl, p, a.CS, dx, _, _, rfl, e0 _ _ hp, T.cS, T.nScame, rfl, _, rfl, d, v, rfl, ?_, ?_⟩
    · have := DGet.k (k := kI x.1) (e0 _ _ hd)
      rw [hv] at this
      exact this
    · refine while_by (fun σ H' => ∃ (y : Node) (v : V) (suf : List Wm04.Step) (ts : List Addr), σ = [some (.ref p), some (iV x.1), some (.ref q), some v] ∧ Same H H' ∧ H' q = some (.lst (refs ts)) ∧ y ∈ N ∧ x.2 = y.2 ++ suf ∧ All2 (TupAt H') ts suf.reverse ∧ CameV (fun mp m => MoveAt a H0 mp rs us dl m) rs us H N y v)
        (fun _ H' => match H' q with | some (.lst l) => x.2.length - l.length | _ => 0) ⟨x, v, [], [], rfl, e0, upd_same, hx, by simp, All2.nil, cv⟩ ?_ ?_
      · rintro σ H1 ⟨y, v, suf, ts, rfl, e1, hq1, hy, ex, ht, cy⟩
        have lx := C.len x hx
        have lt : ts.length = suf.length := by rw [ht.len, List.length_reverse]
        have lxs : x.2.length = y.2.length + suf.length := by rw [ex, List.length_append]
        refine ⟨v, rfl, !decide (v = .non), rfl, ?_⟩
        rcases cy with ⟨ey, rfl⟩ | ⟨b, mp, y2, m, u, hy2, hmo, hdo, e2, rfl, hb⟩
        · refine iteF ?_
          refine ⟨_, rfl, q, _, rfl, SqL.of hq1, fun q2 hq2 => ?_⟩
          have e2 : Same H1 (upd H1 q2 (.lst (refs ts).reverse)) := new_same hq2
          refine k q2 _ ts.reverse (e1.trans e2) (e1.free hq2) (by rw [upd_same]; unfold refs; rw [List.map_reverse]) ?_
          rw [ex, ey, List.nil_append]
          have := ht.reverse
          rw [List.reverse_reverse] at this
          exact this.imp fun _ _ z => z.same (tup_same e2)
        · refine iteT ?_
          have hb1 := e1 _ _ hb
          have hmv1 := hmo.same (S.same.trans e1)
          obtain ⟨rule, dm, hrule, ho⟩ := hmv1.ob
          refine ⟨_, rfl, .inl ⟨rfl, _, SqL.of hq1⟩, ?_⟩
          -- came[1].tell_step(came[0])
          refine ⟨_, rfl, b, _, 1, _, rfl, rfl, SqT.of hb1, atI_nat (j := 1) rfl, mp, dm, _, rfl, ho, rfl, ?_⟩
          refine ⟨_, rfl, b, _, 0, _, rfl, rfl, SqT.of hb1, atI_nat (j := 0) rfl, mp, dl, y2.1, u, rs, us, m, rfl, hmv1, M.rules, M.users, M.three, hdo, fun t H2 e2' _ htt => ?_⟩
          have hq2 := e2' _ _ hq1
          refine ⟨q, _, _, rfl, rfl, hq2, ?_, ?_⟩
          · rw [refs_len]
            exact Nat.lt_of_le_of_lt (show ts.length ≤ 4096 by omega) (by decide)
          · obtain ⟨v2, hv2, cv2⟩ := C.val y2 hy2
            have e12 := e1.trans e2'
            have hd2 := e12 _ _ hd
            have hb2 := e12 _ _ hb
            have hp2 := e12 _ _ hp
            have nd : d ≠ q := ne_of hd2 hq2 (by intro z; cases z)
            have nb : b ≠ q := ne_of hb2 hq2 (by intro z; cases z)
            have np : p ≠ q := ne_of hp2 hq2 (by intro z; cases z)
            refine ⟨_, rfl, p, a.CS, dx, _, _, rfl, (upd_ne np).trans hp2, T.cS, T.nScame, rfl, _, rfl, b, _, 0, _, rfl, rfl, SqT.of ((upd_ne nb).trans hb2), atI_nat (j := 0) rfl, d, v2, rfl, ?_, ?_⟩
            · have := DGet.k (k := kI y2.1) ((upd_ne (o := .lst (refs ts ++ [V.ref t])) nd).trans hd2)
              rw [hv2] at this
              exact this
            · refine ⟨⟨y2, v2, ⟨m.1, u, m.2⟩ :: suf, ts ++ [t], rfl, fun c o z => (upd_ne (ne_of_none z hq)).trans (e12 c o z), by rw [upd_same, refs_snoc], hy2, by rw [ex, e2, List.append_assoc]; rfl, ?_, cv2⟩, ?_⟩
              · rw [List.reverse_cons]
                exact All2.snoc (ht.imp fun _ _ z => (z.same (tup_same e2')).same (tup_put hq2)) (htt.same (tup_put hq2))
              · have l2 : y.2.length = y2.2.length + 1 := by rw [e2]; simp
                show (match upd H2 q (.lst (refs ts ++ [V.ref t])) q with | some (.lst l) => x.2.length - l.length | _ => 0) < (match H1 q with | some (.lst l) => x.2.length - l.length | _ => 0)
                rw [upd_same, hq1]
                simp only [List.length_append, refs_len, List.length_cons, List.length_nil]
                omega
      · rintro σ H1 Q1 Q2 hQ ⟨v, hv, c, hc, q1⟩
        exact ⟨v, hv, c, hc, hQ _ _ q1⟩
/-! ### find_plan -/
def spFindPlan (P : Program) (w : World) (K : PySem.W.Frag) (mg : Str → Option Value) (base : Heap) (a : Ad) : Sp := fun vs H Q _ => ∃ (s : Nat) (ml dl f : Addr) (rs : List Wm04.Rule) (us ks : List Nat) (ss : List Addr) (want : Nat → Bool) (G : Hp → Prop),
  vs = [iV s, .ref ml, .ref f] ∧ s < 4096 ∧ Moves K a H rs us ks dl ml ss ∧ Clo.Fn1 P w K mg base 3 f want G ∧ G H ∧
  (NoneIn rs (stepsK ks us) s want → ∀ H', Same H H' → Q .non H') ∧
  (∀ path, FirstIn rs (stepsK ks us) s want path → path.length ≤ 4096 → ∀ (q : Addr) (H' : Hp) (ts : List Addr), Same H H' → H q = none → H' q = some (.lst (refs ts)) → All2 (TupAt H') ts path → Q (.ref q) H')
theorem scFindPlan : FnScope ["held", "moves", "is_wanted", "search", "found"] ["held", "moves", "is_wanted"] (defScope sFindPlan) := ⟨rfl, rfl, rfl, by decide +kernel, rfl, by decide +kernel, by decide +kernel⟩
/-- a search just made -/
theorem SrAt.new {H H1 H2 : Hp} {rs : List Wm04.Rule} {us : List Nat} {p dx d qa ml dl : Addr} {s : Nat} (np : H p = none) (nd : H d = none) (nq : H qa = none) (e : ∀ b o, H b = some o → H1 b = some o) (k : ∀ b o, H1 b = some o → b ≠ p → H2 b = some o) (hp : H2 p = some (.ins a.CS dx (srF ml d qa))) (hd : H2 d = some (.dK [(kI s, .non)])) (hq : H2 qa = some (.lst (iVs [s]))) :
    SrAt a rs us dl H H2 p ml d qa [(s, [])] :=
  ⟨fun b o h => k b o (e b o h) (ne_of_none h np), ⟨dx, hp⟩, ⟨_, hd, Came.start _ s⟩, hq, nd, nq⟩
theorem ok_findPlan {f : Addr} {fd : FuncData} (F : Fun K "find_plan" "find_plan" sFindPlan f fd) (T : Txt K mg a) (X1 : Made P w K mg base a.CS 1 ["self", "held", "moves"] (spSrInit a)) (X2 : Mth P w K mg base a.CS "go_until" 4 ["self", "is_wanted"] (spGo P w K mg base a))
    (X3 : Mth P w K mg base a.CS "steps_to" 4 ["self", "held"] (spStepsTo K a)) : FnOk P w K mg base CX0 5 f fd ["held", "moves", "is_wanted"] (spFindPlan P w K mg base a) := by
  refine F.ok scFindPlan (fun vs H Q E h => ?_) (fun cdv A outer s H vs Q E hr h => ?_)
  · obtain ⟨s, ml, dl, f, rs, us, ks, ss, want, G, rfl, _⟩ := h
    rfl
  · obtain ⟨s0, ml, dl, fn, rs, us, ks, ss, want, G, rfl, hs0, M, F1, g0, kN, kS⟩ := h
    obtain ⟨f1, fd1, M1, G1, b1⟩ := X1.ex
    obtain ⟨f2, fd2, M2, G2, b2⟩ := X2.ex
    obtain ⟨f3, fd3, M3, G3, b3⟩ := X3.ex
    have hr2 : Room 2 _ := hr.mono (by decide)
    refine ⟨_, pss_cons (ps_set (i := 3) scFindPlan.nd rfl (Or.inl rfl) (pe_make M1 G1 hr2 rfl T.gSearch b1 .nil pass0 (pa_cons (pv 0) (pa_cons (pv 1) pa_nil))))
      (pss_cons (ps_set (i := 4) scFindPlan.nd rfl (Or.inl rfl) (pe_meth (pv 3) T.cS M2 G2 hr b2 .nil pass0 (pa_cons (pv 2) pa_nil)))
      (pss_cons (ps_if (pt_cmp (pc_isN (pv 4))) (pss_one (ps_ret pe_non)) pss_nil)
      (pss_one (ps_ret (pe_meth (pv 3) T.cS M3 G3 hr b3 .nil pass0 (pa_cons (pv 4) pa_nil)))))), ?_⟩
    refine ⟨_, rfl, _, rfl, ?_⟩
    intro p dp np ndp nne
    have e1 : Same H (upd (upd H dp (.own p)) p (.ins a.CS dp [])) := fun b o e => by
      rw [upd_ne (ne_of_none e np), upd_ne (ne_of_none e ndp)]
      exact e
    refine ⟨p, dp, ml, s0, rfl, upd_same, fun d qa H2 hd hqa k2 hp2 hd2 hq2 => ⟨rfl, ?_⟩⟩
    have S : SrAt a rs us dl H H2 p ml d qa [(s0, [])] := SrAt.new np (e1.free hd) (e1.free hqa) e1 k2 hp2 hd2 hq2
    refine ⟨_, rfl, p, dp, _, rfl, hp2, rfl, _, rfl, H, p, ml, d, qa, dl, fn, rs, us, ks, ss, s0, want, G, rfl, S, M, hs0, F1, g0, fun n H3 hn hall S3 => ?_, fun n x H3 hx hwx hw S3 => ?_⟩
    · exact ⟨_, rfl, _, rfl, iteT (kN ⟨n, hn, hall⟩ H3 S3.same)⟩
    · have hb : Below rs (stepsK ks us) := below_K M.rules ks us
      have qok := queue_ok (s := s0) hb hs0 n
      have hxm := List.mem_of_getElem? hx
      obtain ⟨dx3, hp3⟩ := S3.ob
      obtain ⟨kvs, _, C⟩ := S3.dict
      have := C.len x hxm
      have := qok.len
      refine ⟨_, rfl, _, rfl, iteF ?_⟩
      refine ⟨_, rfl, p, dx3, _, rfl, hp3, rfl, _, rfl, H, p, ml, d, qa, dl, rs, us, ks, ss, queue rs (stepsK ks us) s0 n, x, rfl, S3, M, qok.len, hxm, fun q H4 ts e4 hq4 hl4 ht4 => ?_⟩
      exact kS x.2 ⟨n, x, hx, hwx, hw, rfl⟩ (by omega) q H4 ts (S3.same.trans e4) (S3.same.free hq4) hl4 ht4
/-! ### tell_plan -/
def toldOf (p : List Wm04.Step) : List Nat := p.flatMap fun t => [t.rule, t.who, t.whom]
def spTellPlan : Sp := fun vs H Q _ => ∃ (p : Addr) (ts : List Addr) (path : List Wm04.Step), vs = [.ref p] ∧ H p = some (.lst (refs ts)) ∧ All2 (TupAt H) ts path ∧ path.length ≤ 4096 ∧
  ∀ (q : Addr) (H' : Hp), Same H H' → H q = none → H' q = some (.lst (iVs (path.length :: toldOf path))) → Q (.ref q) H'
theorem scTellPlan : FnScope ["plan", "told", "step"] ["plan"] (defScope sTellPlan) := ⟨rfl, rfl, rfl, by decide +kernel, rfl, by decide +kernel, by decide +kernel⟩
theorem toldOf_len : ∀ p : List Wm04.Step, (toldOf p).length = 3 * p.length
  | [] => rfl
  | t :: p => by
    have := toldOf_len p
    unfold toldOf at *
    rw [List.flatMap_cons, List.length_append, this]
    simp
    omega
theorem ok_tellPlan {f : Addr} {fd : FuncData} (F : Fun K "tell_plan" "tell_plan" sTellPlan f fd) (T : Txt K mg a) : FnOk P w K mg base CX0 1 f fd ["plan"] spTellPlan := by
  refine F.ok scTellPlan (fun vs H Q E h => ?_) (fun cdv A outer s H vs Q E hr h => ?_)
  · obtain ⟨p, ts, path, rfl, _⟩ := h
    rfl
  · obtain ⟨p, ts, path, rfl, hp, ht, hl, k⟩ := h
    refine ⟨_, pss_cons (ps_set (i := 1) scTellPlan.nd rfl (Or.inl rfl) (pe_lst (pa_cons (pe_callB call_len_seq (by rfl) T.len PySem.boot_len (pa_cons (pv 0) pa_nil)) pa_nil)))
      (pss_cons (ps_for PassesOwn.never rfl (pi_list (pv 0)) (pg_name (i := 2) scTellPlan.nd rfl (Or.inl rfl)) (pss_one (ps_expr (pe_bm PySem.F.plainAttrs_list PySem.F.slot_list_extend PySem.F.type_list_extend RvL.mt_extT (pv 1) (pa_cons (pv 2) pa_nil)))))
      (pss_one (ps_ret (pv 1)))), ?_⟩
    refine ⟨_, rfl, p, _, rfl, .inl (SqL.of hp), (by show 1 ≤ sizeLine; decide), fun q hq => ?_⟩
    have npq : p ≠ q := ne_of_none hp hq
    have e0 : ∀ o, Same H (upd H q o) := fun o => new_same hq
    refine ⟨_, rfl, p, rfl, ⟨_, SqL.of (e0 _ _ _ hp)⟩, for_list (K := K) (a := p) (xs := refs ts) (fun i σ H' => (∃ x : Option V, σ = [some (.ref p), some (.ref q), x]) ∧ H' = upd H q (.lst (iVs (path.length :: toldOf (path.take i)))))
      ⟨⟨none, rfl⟩, by rw [refs_len, ht.len]; rfl⟩ (fun i σ H' _ ⟨_, e⟩ => by rw [e]; exact SqL.of (e0 _ _ _ hp)) ?_ ?_⟩
    · rintro i y σ H1 hi ⟨⟨x, rfl⟩, rfl⟩
      obtain ⟨tp, htp, rfl⟩ := refs_get hi
      obtain ⟨t, ht2, htt⟩ := ht.right htp
      refine ⟨_, rfl, .inl ⟨rfl, _, SqL.of upd_same⟩, _, rfl, q, tp, _, tupV t, rfl, rfl, upd_same, e0 _ _ _ htt, ?_, ⟨_, rfl⟩, ?_⟩
      · rw [iVs_len, List.length_cons, toldOf_len]
        have : (path.take i).length ≤ path.length := List.length_take_le' _ _
        show 3 * (path.take i).length + 1 + 3 ≤ sizeLine
        exact Nat.le_trans (show _ ≤ 20000 by omega) (by decide)
      · rw [upd_upd, take_more ht2]
        congr 2
        unfold toldOf iVs tupV
        rw [List.flatMap_append]
        simp
    · rintro σ H1 ⟨⟨x, rfl⟩, rfl⟩
      refine ⟨_, rfl, k q _ (e0 _) hq ?_⟩
      rw [upd_same, refs_len, ht.len, List.take_length]
end
end Wp

set_option Elab.async false
set_option maxRecDepth 100000
set_option maxHeartbeats 2000000
/-! sorted(rows, key=a lambda that tells a row's length and the row): the rows are lists of numbers. -/
namespace Clo
open PySem PySem.Spec PyProof.Rows L2 LamX NdefX
def nV (l : List Nat) : List V := l.map fun (n : Nat) => V.int (n : Int)
structure FnKey (P : Program) (w : World) (K : PySem.W.Frag) (mg : Str → Option Value) (base : Heap) (k : Nat) (f : Addr) (G : Hp → Prop) : Prop where
  stay : ∀ H H', ExtN H H' → G H → G H'
  run : ∀ (A : Around) (outer : List Env) (s : Shared) (H : Hp) (us : List Value) (p : Addr) (l : List V) (Q : VK), Room k A → Env0 P w K mg base A outer s H → G H → Vals [.ref p] us → H p = some (.lst l) →
    (∀ t H', Same H H' → H' t = some (.tup [.int (l.length : Int), .ref p]) → Q (.ref t) H') → codeAny (model P w) A (.call (.ref f) ⟨us, []⟩) (CR L2.CX0 outer P w H s Q L2.E0) s
abbrev RowAt (H : Hp) (p : Addr) (l : List Nat) : Prop := H p = some (.lst (nV l))
abbrev Rows (H : Hp) : List Addr → List (List Nat) → Prop := PySem.W.EachIs (RowAt H)
abbrev RowsZ (Z : Addr → Prop) (H : Hp) : List Addr → List (List Nat) → Prop := PySem.W.EachIs fun p l => RowAt H p l ∧ Z p
theorem vals_refs : ∀ {ps : List Addr} {us : List Value}, Vals (ps.map V.ref) us → us = ps.map Value.ref
  | [], _, h => by cases h; rfl
  | p :: ps, _, h => by
    cases h with
    | cons a b =>
      obtain rfl : _ = Value.ref p := a
      rw [vals_refs b]
      rfl
theorem refs_vals : ∀ ps : List Addr, Vals (ps.map V.ref) (ps.map Value.ref)
  | [] => .nil
  | p :: ps => .cons (show L2.RelV (V.ref p) (Value.ref p) from rfl) (refs_vals ps)
theorem reads_nums {h : Heap} : ∀ {l : List Nat} {us : List Value}, Vals (nV l) us → ReadsAll h us (l.map fun (n : Nat) => PyData.int n) []
  | [], _, v => by cases v; exact .nil
  | n :: l, _, v => by
    cases v with
    | cons a b =>
      obtain ⟨t, rfl⟩ := a
      exact .cons (as := []) (.int _ _) (reads_nums b)
theorem reads_key {P : Program} {w : World} {H : Hp} {h : Heap} {t p : Addr} {l : List Nat} (hok : HOk P w H h) (ht : H t = some (.tup [.int ((nV l).length : Int), .ref p])) (hp : RowAt H p l) : ∃ as, Reads h (.ref t) (Wc.keyOf l) as := by
  obtain ⟨_, us, r, o, e1, e2, n, e3⟩ := hok t _ ht
  obtain ⟨_, its, m, r2, e4⟩ := hok p _ hp
  cases r with
  | cons x1 r =>
    cases r with
    | cons x2 r =>
      cases r
      obtain ⟨tk, rfl⟩ := x1
      obtain rfl : _ = Value.ref p := x2
      have el : ((nV l).length : Int) = (l.length : Int) := by unfold nV; rw [List.length_map]
      rw [el] at e3
      exact ⟨_, .tuple e1 e2 e3 (.cons (.int _ _) (.cons (.list e4 rfl rfl (reads_nums r2)) .nil))⟩
theorem each_len {α β : Type} {R : α → β → Prop} : ∀ {as : List α} {bs : List β}, PySem.W.EachIs R as bs → as.length = bs.length
  | _, _, .nil => rfl
  | _, _, .cons _ t => congrArg (· + 1) (each_len t)
theorem each_get {α β : Type} {R : α → β → Prop} : ∀ {as : List α} {bs : List β} {i : Nat} {a : α}, PySem.W.EachIs R as bs → as[i]? = some a → ∃ b, bs[i]? = some b ∧ R a b
  | _, _, i, a, .nil, h => by simp at h
  | _, _, 0, a, .cons r _, h => by
    have e := Option.some.inj h
    subst e
    exact ⟨_, rfl, r⟩
  | _, _, i + 1, a, .cons _ t, h => by
    obtain ⟨b, e, r⟩ := each_get (i := i) t h
    exact ⟨b, e, r⟩
theorem each_put {α β : Type} {R : α → β → Prop} {a : α} {b : β} (r : R a b) : ∀ {as : List α} {bs : List β}, PySem.W.EachIs R as bs → PySem.W.EachIs R (as ++ [a]) (bs ++ [b])
  | _, _, .nil => .cons r .nil
  | _, _, .cons x t => .cons x (each_put r t)
theorem each_imp {α β : Type} {R S : α → β → Prop} (h : ∀ a b, R a b → S a b) : ∀ {as : List α} {bs : List β}, PySem.W.EachIs R as bs → PySem.W.EachIs S as bs
  | _, _, .nil => .nil
  | _, _, .cons x t => .cons (h _ _ x) (each_imp h t)
theorem rows_vals {Z : Addr → Prop} {H : Hp} : ∀ {ps : List Addr} {ls : List (List Nat)}, RowsZ Z H ps ls → PySem.W.EachIs (fun v (x : List Nat) => ∃ p, v = Value.ref p ∧ RowAt H p x ∧ Z p) (ps.map Value.ref) ls
  | _, _, .nil => .nil
  | _, _, .cons x t => .cons ⟨_, rfl, x⟩ (rows_vals t)
/-- what the key's calls have given: a pair for each row -/
def KeysAt (H : Hp) (ts : List Addr) (ls : List (Addr × List Nat)) : Prop := PySem.W.EachIs (fun t x => H t = some (.tup [.int ((nV x.2).length : Int), .ref x.1])) ts ls
def rSortK (P : Program) (w : World) (K : PySem.W.Frag) (mg : Str → Option Value) (base : Heap) (k : Nat) : List V → List V → Hp → VK → Prop := fun vs zs H Q => ∃ (l f : Addr) (ps : List Addr) (ls : List (List Nat)) (G : Hp → Prop) (Z : Addr → Prop), vs = [.ref l] ∧ zs = [.ref f] ∧ H l = some (.lst (ps.map V.ref)) ∧ RowsZ Z H ps ls ∧ FnKey P w K mg base k f G ∧ G H ∧
  ∀ (q : Addr) (qs : List Addr) (H' : Hp), Same H H' → H q = none → H' q = some (.lst (qs.map V.ref)) → RowsZ Z H' qs (ls.mergeSort (PySem.W.dataLe false Wc.keyOf)) → Q (.ref q) H'
theorem keys_alike (ls : List (List Nat)) : PySem.W.AllAlike (ls.map Wc.keyOf) := PySem.W.AllAlike.of fun a b => by
  unfold Wc.keyOf
  rw [PySem.W.alike, PySem.W.alikeAll, PySem.W.alike, PySem.W.alikeAll, PySem.W.alike, Wc.alike_ns]
  simp [PySem.W.alikeAll]
theorem keys_sortable (ls : List (List Nat)) : PySem.W.Sortable (ls.map Wc.keyOf) := PySem.W.Sortable.tuples fun b => ⟨_, _, rfl⟩
theorem depth_ns : ∀ l : List Nat, PyData.depthAll (l.map fun (n : Nat) => PyData.int n) = 0
  | [] => by simp [PyData.depthAll]
  | n :: l => by
    rw [List.map_cons, PyData.depthAll, depth_ns l]
    simp [PyData.depth]
theorem key_depth (l : List Nat) : (Wc.keyOf l).depth ≤ 2 := by
  unfold Wc.keyOf
  simp only [PyData.depth, PyData.depthAll, depth_ns]
  decide
theorem cr_sortK {X : Cx} {k : Nat} (hr : Room (k + 2) X.A) : CallRK X (.builtin "sorted") [Str.ofString "key"] (rSortK X.prog X.w X.K X.mg X.base k) := by
  intro pins s σ H vs zs us ws Q I r rz h
  obtain ⟨l, f, ps, ls, G, Z, rfl, rfl, hl, hrowsZ, F, g0, q⟩ := h
  have hrows : Rows H ps ls := each_imp (fun _ _ z => z.1) hrowsZ
  obtain rfl := Vals.ref1 r
  obtain rfl : ws = [Value.ref f] := by
    cases rz with
    | cons a b => cases b; obtain rfl : _ = Value.ref f := a; rfl
  obtain ⟨its, rv, hpl, hz⟩ := I.list (SqL.of hl)
  obtain rfl := vals_refs rv
  have hln := each_len hrows
  have hz2 : (ps.map Value.ref).length ≤ sizeLine := by rw [List.length_map]; rw [List.length_map] at hz; exact hz
  have hr2 : Room k X.A.in1.in1 := hr.in1.in1
  show wpAny _ _ (call (.builtin "sorted") [.ref l] [(Str.ofString "key", .ref f)]) _ _ _
  refine PySem.W.sorted_of_sort (vs := ps.map Value.ref) hpl.isList hz2 (ksk_s1 _ _) (fun x => ksk_l1 _ _) fun E' => ?_
  rw [ksk_t1]
  -- the list that is sorted stands at a
  obtain ⟨a, ha⟩ : ∃ a, a = s.heap.objs.size + 1 := ⟨_, rfl⟩
  rw [← ha]
  have la : s.heap.objs.size ≤ a := by rw [ha]; exact Nat.le_succ _
  have oa : (PySem.W.copyHeap s.heap (ps.map Value.ref)).get? a = some (seqObj "list" (ps.map Value.ref).toArray 0) := by rw [ha]; exact PySem.W.copyHeap_at _ _
  have na : ∀ {b o}, s.heap.get? b = some o → b ≠ a := fun {b o} e => by rw [ha]; exact Nat.ne_of_lt (Nat.lt_succ_of_lt (Heap.lt_size e))
  unfold ksk_tree
  refine wpAny_bind (listItems_at oa rfl ?_)
  refine wpAny_bind (listUpdate_at oa rfl ?_ (by rw [List.size_toArray]; exact hz2) (Nat.zero_le _))
  obtain ⟨ep, oa1⟩ : ∃ ep, ((PySem.W.copyHeap s.heap (ps.map Value.ref)).update a (Obj.mapSeq fun _ => (#[] : Array Value))).get? a = some (seqObj "list" #[] ep) := ⟨_, get?_update_seq oa fun _ => #[]⟩
  have k1 : ∀ b o, s.heap.get? b = some o → ((PySem.W.copyHeap s.heap (ps.map Value.ref)).update a (Obj.mapSeq fun _ => (#[] : Array Value))).get? b = some o := fun b o e => (Heap.get?_update_ne _ _ _ _ (na e)).trans (PySem.W.copyHeap_old e)
  generalize (PySem.W.copyHeap s.heap (ps.map Value.ref)).update a (Obj.mapSeq fun _ => (#[] : Array Value)) = hA at oa1 k1 ⊢
  refine wpAny_bind (seqEpoch_at oa1 rfl ?_)
  refine wpAny_bind (wpAny_newTuple ?_ (by show (ps.map Value.ref).length ≤ _; exact hz2))
  refine wpAny_bind (wpAny_newList ?_ (Nat.zero_le _))
  refine wpAny_holding ?_
  -- the keys are kept at kS
  dsimp only
  obtain ⟨kS, hkS⟩ : ∃ kS, kS = (hA.push { cls := .type "tuple", data := .seq (ps.map Value.ref).toArray.toList.toArray }).objs.size := ⟨_, rfl⟩
  rw [← hkS]
  have ok1 : ((hA.push { cls := .type "tuple", data := .seq (ps.map Value.ref).toArray.toList.toArray }).push { cls := .type "list", data := .seq ([] : List Value).toArray }).get? kS = some (seqObj "list" #[] 0) := by rw [hkS]; exact Heap.get?_push_size _ rfl
  have oa2 : ((hA.push { cls := .type "tuple", data := .seq (ps.map Value.ref).toArray.toList.toArray }).push { cls := .type "list", data := .seq ([] : List Value).toArray }).get? a = some (seqObj "list" #[] ep) := Heap.get?_push_of_some _ (Heap.get?_push_of_some _ oa1)
  have k2 : ∀ b o, s.heap.get? b = some o → ((hA.push { cls := .type "tuple", data := .seq (ps.map Value.ref).toArray.toList.toArray }).push { cls := .type "list", data := .seq ([] : List Value).toArray }).get? b = some o := fun b o e => Heap.get?_push_of_some _ (Heap.get?_push_of_some _ (k1 b o e))
  have nak : a ≠ kS := by rw [hkS]; exact Nat.ne_of_lt (Heap.lt_size (Heap.get?_push_of_some _ oa1))
  have lk : s.heap.objs.size ≤ kS := by
    have h1 : a < kS := by rw [hkS]; exact Heap.lt_size (Heap.get?_push_of_some _ oa1)
    exact Nat.le_of_lt (Nat.lt_of_le_of_lt la h1)
  generalize (hA.push { cls := .type "tuple", data := .seq (ps.map Value.ref).toArray.toList.toArray }).push { cls := .type "list", data := .seq ([] : List Value).toArray } = hB at ok1 oa2 k2 ⊢
  -- the two are ours
  have fa : ∀ H', H' a = none → FpOk X pins H' a := fun H' hn => I.fpOk la hn
  have fk : ∀ H', H' kS = none → FpOk X pins H' kS := fun H' hn => I.fpOk lk hn
  have nc : ∀ (xs : Array Value) (n : Nat) (v : Option Value), (seqObj "list" xs n).data ≠ .cell v := fun xs n v z => by cases z
  have pin : ∀ {H' : Hp} {s' : Shared} {kA : Array Value} {e : Nat}, Inv X pins σ H' s' → H' a = none → H' kS = none → s'.heap.get? a = some (seqObj "list" #[] ep) → s'.heap.get? kS = some (seqObj "list" kA e) → Inv X (pins ++ [(a, seqObj "list" #[] ep), (kS, seqObj "list" kA e)]) σ H' s' := by
    intro H' s' kA e J h1 h2 o1 o2
    refine J.pins_of fun p hp => ?_
    rcases List.mem_append.mp hp with z | z
    · exact J.pin p (List.mem_append_right _ z)
    · rcases List.mem_cons.mp z with z | z
      · subst z
        obtain ⟨x0, x1, x2, _⟩ := fa H' h1
        exact ⟨o1, x0, x1, x2, nc _ _⟩
      · have z := List.mem_singleton.mp z
        subst z
        obtain ⟨x0, x1, x2, _⟩ := fk H' h2
        exact ⟨o2, x0, x1, x2, nc _ _⟩
  unfold ksk_rest
  refine wpAny_bind (wpAny_rule ?_)
  rw [← Array.forIn_toList]
  simp only [List.toList_toArray]
  refine wpAny_bind (ksk_fold (fun i s' => ∃ (H' : Hp) (kA : Array Value) (e : Nat) (ts : List Addr), Inv X (pins ++ [(a, seqObj "list" #[] ep), (kS, seqObj "list" kA e)]) σ H' s' ∧ Same H H' ∧ kA.toList = ts.map Value.ref ∧ KeysAt H' ts ((ps.zip ls).take i)) (ps.map Value.ref) 0 _ ?_ ?_ ?_)
  · refine ⟨H, #[], 0, [], pin (I.kept k2) (I.hok.fresh la) (I.hok.fresh lk) oa2 ok1, Same.refl H, rfl, ?_⟩
    rw [List.take_zero]
    exact .nil
  · rintro j x s' hx ⟨H', kA, e, ts, J, eS, ek, hks⟩
    rw [Nat.zero_add] at hks ⊢
    obtain ⟨p, hp, rfl⟩ : ∃ p, ps[j]? = some p ∧ x = Value.ref p := by
      rw [List.getElem?_map] at hx
      cases ep2 : ps[j]? with
      | none => rw [ep2] at hx; cases hx
      | some p => rw [ep2] at hx; exact ⟨p, rfl, (Option.some.inj hx).symm⟩
    obtain ⟨row, hrow, hat⟩ := each_get hrows hp
    have hzip : (ps.zip ls)[j]? = some (p, row) := List.getElem?_zip_eq_some.mpr ⟨hp, hrow⟩
    have pk := J.pin (kS, seqObj "list" kA e) (by simp)
    have pa := J.pin (a, seqObj "list" #[] ep) (by simp)
    -- the key's call
    refine wpAny_bind (wpAny_attempt (wpAny_mono (Q := fun u s'' => EP X (pins ++ [(a, seqObj "list" #[] ep), (kS, seqObj "list" kA e)]) σ (fun v H2 => ∃ t, v = .ref t ∧ Same H' H2 ∧ H2 t = some (.tup [.int ((nV row).length : Int), .ref p])) u s'') (E := fun _ _ => False) ?_ (fun u s'' hq => ?_) fun _ _ hF => hF.elim))
    · refine wpAny_call (codeAny_mono (F.run X.A.in1.in1 X.stack s' H' [.ref p] p (nV row) (fun v H2 => ∃ t, v = .ref t ∧ Same H' H2 ∧ H2 t = some (.tup [.int ((nV row).length : Int), .ref p])) hr2 J.env0.in1.in1 (F.stay _ _ (ExtN.of eS) g0) (.cons (show L2.RelV (V.ref p) (Value.ref p) from rfl) .nil) (eS _ _ hat) fun t H2 e2 ht => ⟨t, rfl, e2, ht⟩) fun r s'' hq => ?_)
      cases r with
      | error e => exact (show False from hq).elim
      | ok fl =>
        cases fl with
        | ret u => exact J.after hq
        | next => exact False.elim hq
        | brk => exact False.elim hq
        | cont => exact False.elim hq
    · obtain ⟨v, H2, J2, ru, t, rfl, e2, ht⟩ := hq
      obtain rfl : u = Value.ref t := ru
      dsimp only
      have pk2 := J2.pin (kS, seqObj "list" kA e) (by simp)
      have pa2 := J2.pin (a, seqObj "list" #[] ep) (by simp)
      have sz : kA.size = ts.length := by rw [← Array.length_toList, ek, List.length_map]
      have szt : ts.length ≤ ps.length := by
        have h1 := each_len hks
        rw [List.length_take, List.length_zip] at h1
        omega
      have hzp : ps.length ≤ sizeLine := by rw [List.length_map] at hz2; exact hz2
      refine wpAny_bind (listUpdate_at pk2.1 rfl ?_ (by omega) (by rw [Array.size_push]; omega))
      have sb := Heap.SameBut.update s''.heap kS (Obj.mapSeq (·.push (Value.ref t)))
      obtain ⟨c2, hc2⟩ : ∃ c2, (s''.heap.update kS (Obj.mapSeq (·.push (Value.ref t)))).get? kS = some (seqObj "list" (kA.push (Value.ref t)) c2) := ⟨_, get?_update_seq pk2.1 (·.push (Value.ref t))⟩
      obtain ⟨y0, y1, y2, y3, y4, y5⟩ := fk H2 pk2.2.1
      have J3 : Inv X pins σ H2 { s'' with heap := s''.heap.update kS (Obj.mapSeq (·.push (Value.ref t))), toks := s''.toks } := J2.unpinned.turned (it := kS) (fun b o hb e => (sb.2 b hb).trans e) y0 y1 y3 y4 y5
      refine wpAny_pure ⟨rfl, H2, kA.push (Value.ref t), c2, ts ++ [t], pin J3 pa2.2.1 pk2.2.1 ((sb.2 a nak).trans pa2.1) hc2, eS.trans e2, ?_, ?_⟩
      · rw [Array.toList_push, ek, List.map_append]
        rfl
      · have e3 : (ps.zip ls).take (j + 1) = (ps.zip ls).take j ++ [(p, row)] := by rw [List.take_add_one, hzip]; rfl
        rw [e3]
        exact each_put (R := fun t (x : Addr × List Nat) => H2 t = some (.tup [.int ((nV x.2).length : Int), .ref x.1])) (b := (p, row)) ht (each_imp (fun t x h => e2 _ _ h) hks)
  · rintro s' ⟨H', kA, e, ts, J, eS, ek, hks⟩
    have elen : 0 + (ps.map Value.ref).length = (ps.zip ls).length := by rw [List.length_map, List.length_zip, ← hln]; omega
    rw [elen, List.take_length] at hks
    have pk := J.pin (kS, seqObj "list" kA e) (by simp)
    have pa := J.pin (a, seqObj "list" #[] ep) (by simp)
    refine wpAny_bind (listItems_at pk.1 rfl ?_)
    obtain ⟨h1, g1, g2⟩ := L2.restrict s'.heap fun b => decide (b ≠ kS)
    have g1' : ∀ b o, h1.get? b = some o → b ≠ kS ∧ s'.heap.get? b = some o := fun b o e => by
      by_cases z : b = kS
      · rw [g2 b (by simp [z])] at e; cases e
      · rw [g1 b (by simp [z])] at e; exact ⟨z, e⟩
    -- the keys read as data
    have hrowsS : Rows H' ps ls := each_imp (fun p l h => eS _ _ h) hrows
    have hrowsT : RowsZ Z H' ps ls := each_imp (fun p l h => ⟨eS _ _ h.1, h.2⟩) hrowsZ
    have reads : ∀ {ts : List Addr} {ps : List Addr} {ls : List (List Nat)}, KeysAt H' ts (ps.zip ls) → Rows H' ps ls → PySem.W.EachIs (fun v d => ∃ as, Reads s'.heap v d as) (ts.map Value.ref) (ls.map Wc.keyOf) := by
      intro ts ps ls
      induction ts generalizing ps ls with
      | nil =>
        intro h1 h2
        cases h2 with
        | nil => exact .nil
        | cons x t => cases h1
      | cons t ts ih =>
        intro h1 h2
        cases h2 with
        | nil => cases h1
        | cons x r =>
          cases h1 with
          | cons y z => exact .cons (reads_key J.hok y x) (ih z r)
    have hk' := reads hks hrowsS
    rw [← ek] at hk'
    have hsz : kA.size = (ps.map Value.ref).length := by
      have h3 := each_len hk'
      rw [Array.length_toList, List.length_map] at h3
      rw [h3, List.length_map, hln]
    have SA := PySem.W.SortsAt.data (prog := X.prog) (w := X.w) (A := X.A.in1.in1) (s := s') hk' (keys_alike ls) (keys_sortable ls) (fun d hd => by
      obtain ⟨x, _, rfl⟩ := List.mem_map.mp hd
      have := key_depth x
      have := hr2.un
      omega)
    refine PySem.W.keyH_end (κ := PySem.W.dataKind s'.heap (ls.map Wc.keyOf)) (h₁ := h1) (fun b o _ e => (g1' b o e).2) (g2 kS (by simp)) pk.1 pa.1 (fun z => nak z.symm) SA hsz hz2 fun h' tk c kp oa' => ⟨rfl, ?_⟩
    -- what stands behind it
    have out := PySem.W.keyedOut_each (rev := false) (R := fun v (x : List Nat) => ∃ p, v = Value.ref p ∧ RowAt H' p x ∧ Z p) Wc.keyOf ⟨s'.heap, kA.toList, keys_alike ls, rfl, hk'⟩ (show PySem.W.EachIs _ (ps.map Value.ref) ls from ?_)
    · obtain ⟨outL, hout⟩ : ∃ o, o = PySem.W.sortVals (PySem.W.dataKind s'.heap (ls.map Wc.keyOf)) false kA.toList (ps.map Value.ref) := ⟨_, rfl⟩
      rw [← hout] at out oa'
      obtain ⟨qs, eq1, eq2⟩ : ∃ qs : List Addr, outL = qs.map Value.ref ∧ RowsZ Z H' qs (ls.mergeSort (PySem.W.dataLe false Wc.keyOf)) := by
        clear hout oa' kp
        generalize ls.mergeSort (PySem.W.dataLe false Wc.keyOf) = ms at out
        induction out with
        | nil => exact ⟨[], rfl, .nil⟩
        | cons x _ ih =>
          obtain ⟨p, rfl, hp⟩ := x
          obtain ⟨qs, e1, e2⟩ := ih
          exact ⟨p :: qs, by rw [e1]; rfl, .cons hp e2⟩
      have kk : ∀ b o, b ≠ a → b ≠ kS → s'.heap.get? b = some o → h'.get? b = some o := fun b o n1 n2 e => kp b o n1 (by rw [g1 b (by simp [n2])]; exact e)
      have hnA := pa.2.1
      have hnK := pk.2.1
      have uA : ∀ {b u}, H' b = some u → upd H' a (.lst (qs.map V.ref)) b = some u := fun {b u} e => (upd_ne (ne_of_none e hnA)).trans e
      have nA : ∀ {b u}, H' b = some u → b ≠ a ∧ b ≠ kS := fun {b u} e => ⟨ne_of_none e hnA, ne_of_none e hnK⟩
      refine ⟨.ref a, upd H' a (.lst (qs.map V.ref)), ?_, rfl, q a qs _ (eS.trans fun b o e => uA e) (I.hok.fresh la) upd_same (each_imp (fun p x h => ⟨uA h.1, h.2⟩) eq2)⟩
      refine J.unpinned.step (g' := s'.gens) (d' := s'.drawn) (ch := [a, kS]) (fun b hb => ?_) (fun b o _ _ hc e _ => kk b o (fun z => hc (by simp [z])) (fun z => hc (by simp [z])) e) (fun b o _ _ hc e _ => ⟨o.slots, kk b o (fun z => hc (by simp [z])) (fun z => hc (by simp [z])) e⟩)
        (fun b o hc e n => (upd_ne (fun z => hc (by simp [z]))).trans n) (fun b o hc e => ⟨o, kk b o (fun z => hc (by simp [z])) (fun z => hc (by simp [z])) e⟩) (fun b ys e => uA e) (fun b o u e => uA e) (fun b ps e => ⟨#[], by rw [uA e]; simp⟩) (fun m hm => ?_) (fun b u e => ?_) J.bare
      · rcases List.mem_cons.mp hb with z | z
        · subst z
          obtain ⟨x0, x1, x2, x3, x4, x5⟩ := fa H' hnA
          exact ⟨x3, x1, x4, x5⟩
        · have z := List.mem_singleton.mp z
          subst z
          obtain ⟨x0, x1, x2, x3, x4, x5⟩ := fk H' hnK
          exact ⟨x3, x1, x4, x5⟩
      · obtain ⟨o, es, ep2, ho, rr⟩ := hm
        exact ⟨o, es, ep2, kk _ o (Ne.symm pa.2.2.1) (Ne.symm pk.2.2.1) ho, rr⟩
      · by_cases hb : b = a
        · rw [hb, upd_same] at e
          cases e
          rw [hb]
          refine ⟨?_, qs.map Value.ref, c, refs_vals qs, ?_⟩
          · rw [List.length_map, each_len eq2, List.length_mergeSort, ← hln]
            rw [List.length_map] at hz2
            exact hz2
          · rw [← eq1]
            exact oa'
        · rw [upd_ne hb] at e
          refine (J.hok b u e).stay (fun c v hc r => ?_) (fun c r => uA r) fun c ys r => uA r
          rcases hc with z | z
          · rw [z] at r ⊢
            exact kk _ _ (nA e).1 (nA e).2 r
          · exact kk _ _ (nA z).1 (nA z).2 r
    · exact rows_vals hrowsT
end Clo

set_option Elab.async false
set_option maxRecDepth 100000
set_option maxHeartbeats 2000000
namespace Wp
open PySem PySem.Spec PyProof.Rows L2 Wc
open Wm04 (place has)
/-- a def whose code object is known -/
structure FunC (K : PySem.W.Frag) (x qual : Str) (st : Stmt) (f c : Addr) (fd : FuncData) : Prop where
  ex : ∃ (oc : Value) (od : Option Addr) (kV doc pm : Value) (an : Option Addr) (ct : Value) (osl : Array (Option Value)),
    fd = PySem.W.fnOf x qual (defArgs st) (defBody st) (defScope st) .none kV doc pm an (.ref c) ct ∧ K.lookup f = some ⟨oc, od, .func fd, osl⟩ ∧ PySem.W.codeIn K (.ref c) qual = true
  kp : PySem.W.keepIn K (.ref f) = true
/-- a lambda's scope; the lambda as it is made -/
def lamScope (e : Expr) : Scope := match e with
  | .Lambda _ _ sc _ => sc
  | _ => { kind := .function, names := [], isGenerator := false, isCoroutine := false }
def lamOf (e : Expr) (qual : Str) (cl : List (Str × Addr)) (c : Addr) : Clo.LF := match e with
  | .Lambda params body sc _ => ⟨qual, params, body, sc, cl, c⟩
  | e => ⟨qual, defArgs (.Pass ⟨0, 0, 0, 0⟩), e, lamScope e, cl, c⟩
def noLam : Expr := .Constant .none 0 ⟨0, 0, 0, 0⟩
/-- what a call of a def that makes lambdas leaves: tables may have grown -/
structure Grew (T : List (Addr × Str)) (H H' : Hp) : Prop where
  ext : LamX.ExtN H H'
  old : ∀ b, H' b = none → H b = none
  tabs : LamX.Tabs T H → LamX.Tabs T H'
theorem Grew.same {T : List (Addr × Str)} {H H' : Hp} (e : Same H H') : Grew T H H' := ⟨LamX.ExtN.of e, fun _ h => e.free h, fun t => t.ext e⟩
theorem Grew.trans {T : List (Addr × Str)} {H H1 H2 : Hp} (x : Grew T H H1) (y : Grew T H1 H2) : Grew T H H2 := ⟨x.ext.trans y.ext, fun b h => x.old b (y.old b h), fun t => y.tabs (x.tabs t)⟩
theorem sqL_ext {K : PySem.W.Frag} {H H' : Hp} {l : Addr} {xs : List V} (e : LamX.ExtN H H') (h : SqL K H l xs) : SqL K H' l xs := by
  rcases h with (h | ⟨o, h⟩) | h
  · exact .inl (.inl (e _ _ h (fun _ z => by cases z)))
  · exact .inl (.inr ⟨o, e _ _ h (fun _ z => by cases z)⟩)
  · exact .inr h
section
variable {P : Program} {w : World} {K : PySem.W.Frag} {mg : Str → Option Value} {base : Heap} {a : Ad} {T : List (Addr × Str)}
theorem FunC.ok {x qual : Str} {st : Stmt} {f c : Addr} {fd : FuncData} {N ps : List Str} {k : Nat} {sp : Sp} (F : FunC K x qual st f c fd) (S : FnScope N ps (defScope st)) (len : ∀ vs H Q E, sp vs H Q E → vs.length = ps.length)
    (hbody : ∀ (A : Around) (outer : List Env) (s : Shared) (H : Hp) (vs : List V) (Q : VK) (E : XK), Room k (A.deeper (envOfC qual (defScope st) s.heap.objs.size f (.ref c))) → sp vs H Q E →
      ∃ t, PSs (cxOf CX0 P w K mg base N qual (defScope st) f (.ref c) A outer s H E).nox (defBody st) t ∧ t { nx := fun _ H' => Q .non H', rt := Q } (start N vs) H) : FnOk P w K mg base CX0 (k + 1) f fd ps sp := by
  obtain ⟨oc, od, kV, doc, pm, an, ct, osl, rfl, lk, hcd⟩ := F.ex
  refine fn_of lk hcd S len fun A outer s H vs Q E hr hsp => ?_
  obtain ⟨t, h, q⟩ := hbody A outer s H vs Q E hr hsp
  exact ⟨t, h.nox, q⟩
theorem fn1_mono {j k : Nat} {f : Addr} {want : Nat → Bool} {G : Hp → Prop} (h : j ≤ k) (x : Clo.Fn1 P w K mg base j f want G) : Clo.Fn1 P w K mg base k f want G :=
  ⟨x.stay, x.at_, fun A outer s H us n Q hr => x.run A outer s H us n Q (hr.mono h)⟩
theorem MoveAt.ext {H H' : Hp} {p dl : Addr} {rs : List Wm04.Rule} {us : List Nat} {m : Nat × Nat} (e : LamX.ExtN H H') (x : MoveAt a H p rs us dl m) : MoveAt a H' p rs us dl m :=
  let ⟨rule, dx, h1, h2⟩ := x.ob; ⟨⟨rule, dx, h1, e _ _ h2 (fun _ z => by cases z)⟩, x.whom, e _ _ x.doers (fun _ z => by cases z)⟩
theorem Moves.ext {H H' : Hp} {rs : List Wm04.Rule} {us ks : List Nat} {dl ml : Addr} {ss : List Addr} (e : LamX.ExtN H H') (x : Moves K a H rs us ks dl ml ss) : Moves K a H' rs us ks dl ml ss :=
  ⟨sqL_ext e x.lst, x.at_.imp fun _ _ h => h.ext e, x.rules, x.users, x.nd, x.three⟩
/-! ### count_ways -/
def lamCount : Expr := match (defBody sCountWays : List Stmt) with
  | [_, .Expr (.Call _ [e] _ _) _, _] => e
  | _ => noLam
theorem lam_count {fl cd : Addr} : Clo.Fn1 P w K mg base 1 fl (fun _ => false) (Clo.LamG fl (lamOf lamCount "count_ways.<locals>.<lambda>" [] cd) (fun _ => none)) := by
  have S : NdefX.NScope ["way"] ["way"] [] (lamScope lamCount) := NdefX.nscope_by (by decide +kernel)
  refine Clo.lam_fn1 (F := lamOf lamCount "count_ways.<locals>.<lambda>" [] cd) (k := 0) (N := ["way"]) (x := "way") rfl rfl S Clo.keeps_none (fun _ _ _ => rfl) (fun A outer s H n hr hn => ?_)
  exact ⟨_, pe_bl (X := NdefX.ncx CX0 P w K mg base ["way"] (lamOf lamCount "count_ways.<locals>.<lambda>" [] cd).nf fl A outer s H E0), fun Q q => q H (Same.refl H)⟩
def spCount (K : PySem.W.Frag) (T : List (Addr × Str)) (a : Ad) : Sp := fun vs H Q _ => ∃ (s : Nat) (ml dl : Addr) (rs : List Wm04.Rule) (us ks : List Nat) (ss : List Addr), vs = [iV s, .ref ml] ∧ s < 4096 ∧ Moves K a H rs us ks dl ml ss ∧ LamX.Tabs T H ∧
  ∀ (n : Nat) (H' : Hp), (queue rs (stepsK ks us) s n).length ≤ n → Grew T H H' → Q (iV (queue rs (stepsK ks us) s n).length) H'
theorem scCountWays : FnScope ["held", "moves", "search"] ["held", "moves"] (defScope sCountWays) := ⟨rfl, rfl, rfl, by decide +kernel, rfl, by decide +kernel, by decide +kernel⟩
open Classical in
/-- without two objects -/
noncomputable def less (H : Hp) (d q : Addr) : Hp := fun b => if b = d ∨ b = q then none else H b
theorem less_same (H : Hp) (d q : Addr) : Same (less H d q) H := fun b o h => by
  unfold less at h
  split at h
  · cases h
  · exact h
theorem less_of {H : Hp} {d q b : Addr} {o : HO} (h : H b = some o) (n1 : b ≠ d) (n2 : b ≠ q) : less H d q b = some o := by
  unfold less
  rw [if_neg (fun z => z.elim n1 n2)]
  exact h
theorem less_fst (H : Hp) (d q : Addr) : less H d q d = none := by unfold less; rw [if_pos (.inl rfl)]
theorem less_snd (H : Hp) (d q : Addr) : less H d q q = none := by unfold less; rw [if_pos (.inr rfl)]
theorem ok_countWays {f c pt : Addr} {fd : FuncData} (F : FunC K "count_ways" "count_ways" sCountWays f c fd) (T0 : Txt K mg a) (TB : LamX.TabB base mg c pt) (hT : (pt, ("count_ways.<locals>.<lambda>" : Str)) ∈ T) (hu : ∀ p ∈ T, p.1 = pt → p.2 = ("count_ways.<locals>.<lambda>" : Str))
    (X1 : Made P w K mg base a.CS 1 ["self", "held", "moves"] (spSrInit a)) (X2 : Mth P w K mg base a.CS "go_until" 4 ["self", "is_wanted"] (spGo P w K mg base a)) : FnOk P w K mg base CX0 5 f fd ["held", "moves"] (spCount K T a) := by
  refine F.ok scCountWays (fun vs H Q E h => ?_) (fun A outer s H vs Q E hr h => ?_)
  · obtain ⟨s, ml, dl, rs, us, ks, ss, rfl, _⟩ := h
    rfl
  · obtain ⟨s0, ml, dl, rs, us, ks, ss, rfl, hs0, M, hTabs, kq⟩ := h
    obtain ⟨f1, fd1, M1, G1, b1⟩ := X1.ex
    obtain ⟨f2, fd2, M2, G2, b2⟩ := X2.ex
    have hr2 : Room 2 _ := hr.mono (by decide)
    have fB : NdefX.ndefB (defScope sCountWays) (lamScope lamCount) [] = true := by decide +kernel
    refine ⟨_, pss_cons (ps_set (i := 2) scCountWays.nd rfl (Or.inl rfl) (pe_make M1 G1 hr2 rfl T0.gSearch b1 .nil pass0 (pa_cons (pv 0) (pa_cons (pv 1) pa_nil))))
      (pss_cons (ps_expr (pe_meth (pv 2) T0.cS M2 G2 hr b2 .nil pass0 (pa_cons (Clo.pe_lamV TB rfl hT hu rfl (NdefX.ndef_free fB)) pa_nil)))
      (pss_one (ps_ret (pe_callB call_lenD (by rfl) T0.len PySem.boot_len (pa_cons (pe_fld (pv 2) rfl) pa_nil))))), ?_⟩
    refine ⟨_, rfl, _, rfl, ?_⟩
    intro p dp np ndp nne
    have e1 : Same H (upd (upd H dp (.own p)) p (.ins a.CS dp [])) := fun b o e => by
      rw [upd_ne (ne_of_none e np), upd_ne (ne_of_none e ndp)]
      exact e
    refine ⟨p, dp, ml, s0, rfl, upd_same, fun d qa H2 hd hqa k2 hp2 hd2 hq2 => ⟨rfl, ?_⟩⟩
    have hd0 : H d = none := e1.free hd
    have hq0 : H qa = none := e1.free hqa
    have e2 : Same H H2 := fun b o h => k2 b o (e1 b o h) (ne_of_none h np)
    -- the lambda
    refine ⟨_, rfl, p, dp, _, rfl, hp2, rfl, hTabs.ext e2, fun fl cd H3 e3 e3n t3 hfl hlam hcode => ?_⟩
    have hp3 := e3 _ _ hp2 (fun _ z => by cases z)
    have hd3 := e3 _ _ hd2 (fun _ z => by cases z)
    have hq3 := e3 _ _ hq2 (fun _ z => by cases z)
    have ext0 : LamX.ExtN H (less H3 d qa) := fun b o h n => less_of (e3 b o (e2 b o h) n) (ne_of_none h hd0) (ne_of_none h hq0)
    have nlam : ∀ {b o phi}, H3 b = some o → o = HO.ext phi → less H3 d qa b = some o := fun {b o phi} h eo => less_of h (ne_of h hd3 (by rw [eo]; intro z; cases z)) (ne_of h hq3 (by rw [eo]; intro z; cases z))
    have S : SrAt a rs us dl (less H3 d qa) H3 p ml d qa [(s0, [])] := ⟨less_same _ _ _, ⟨dp, hp3⟩, ⟨_, hd3, Came.start _ s0⟩, hq3, less_fst _ _ _, less_snd _ _ _⟩
    have g0 : Clo.LamG fl (lamOf lamCount "count_ways.<locals>.<lambda>" [] cd) (fun _ => none) (less H3 d qa) := ⟨nlam hlam rfl, nlam hcode rfl, fun b o z => by cases z⟩
    refine ⟨less H3 d qa, p, ml, d, qa, dl, fl, rs, us, ks, ss, s0, fun _ => false, _, rfl, S, M.ext ext0, hs0, fn1_mono (by decide) lam_count, g0, fun n H4 hn _ S4 => ?_, fun n x H4 _ hwx _ _ => Bool.noConfusion (show false = true from hwx)⟩
    obtain ⟨dx4, hp4⟩ := S4.ob
    obtain ⟨kvs, hd4, C4⟩ := S4.dict
    refine ⟨_, rfl, p, a.CS, dx4, _, _, rfl, hp4, T0.cS, T0.nScame, rfl, d, kvs, rfl, hd4, ?_⟩
    have g4 : Grew T H H4 := by
      refine ⟨fun b o h n => S4.same _ _ (ext0 b o h n), fun b h => ?_, fun _ => ?_⟩
      · have hl : less H3 d qa b = none := S4.same.free h
        unfold less at hl
        split at hl
        · rename_i hz
          rcases hz with hz | hz
          · rw [hz, hd4] at h; cases h
          · rw [hz, S4.queue] at h; cases h
        · exact e2.free (e3n b hl)
      · intro y hy
        obtain ⟨ps, z1, z2, z3⟩ := t3 y hy
        refine ⟨ps, S4.same _ _ (less_of z1 (ne_of z1 hd3 (by intro z; cases z)) (ne_of z1 hq3 (by intro z; cases z))), z2, fun pos cv hc => ?_⟩
        obtain ⟨c, ec, hcc⟩ := z3 pos cv hc
        exact ⟨c, ec, S4.same _ _ (nlam hcc rfl)⟩
    have := kq n H4 hn g4
    rw [← C4.size] at this
    exact this
/-! ### share_one -/
theorem inV_nat (n : Nat) : ∀ l : List Nat, inV (iV n) (iVs l) = l.contains n
  | [] => rfl
  | x :: l => by
    show (((x : Int) == (n : Int)) || inV (iV n) (iVs l)) = (n == x || l.contains n)
    rw [inV_nat n l]
    have : ((x : Int) == (n : Int)) = (n == x) := by
      rw [Bool.eq_iff_iff]
      simp
      omega
    rw [this]
theorem flat_nat : ∀ l : List Nat, (iVs l).all flatV = true
  | [] => rfl
  | x :: l => by
    show (flatV (iV x) && (iVs l).all flatV) = true
    rw [flat_nat l]
    rfl
def shares (l m : List Nat) : Bool := l.any fun n => m.contains n
def spShare (K : PySem.W.Frag) : Sp := fun vs H Q _ => ∃ (p q : Addr) (l m : List Nat), vs = [.ref p, .ref q] ∧ SqL K H p (iVs l) ∧ SqL K H q (iVs m) ∧ l.length ≤ 6 ∧ ∀ H', Same H H' → Q (.bl (shares l m)) H'
theorem scShare : FnScope ["row", "other", "number"] ["row", "other"] (defScope sShare) := ⟨rfl, rfl, rfl, by decide +kernel, rfl, by decide +kernel, by decide +kernel⟩
theorem ok_share {f : Addr} {fd : FuncData} (F : Fun K "share_one" "share_one" sShare f fd) (T0 : Txt K mg a) : FnOk P w K mg base CX0 1 f fd ["row", "other"] (spShare K) := by
  refine F.ok scShare (fun vs H Q E h => ?_) (fun cdv A outer s H vs Q E hr h => ?_)
  · obtain ⟨p, q, l, m, rfl, _⟩ := h
    rfl
  · obtain ⟨p, q, l, m, rfl, hp, hq, hl, kq⟩ := h
    refine ⟨_, pss_one (ps_ret (pe_callB (cr_any rfl) (by rfl) T0.any (by decide +kernel) (pa_cons (pe_lc (own := [("number", 2)]) (g := gName 2) (tt := tYes) rfl scShare.nd (pi_list (pv 0)) (blkOk_by (own := [("number", 2)]) (N := ["row", "other", "number"]) (sc := defScope sShare) (by decide +kernel)) (fun _ _ _ _ _ => pg_name (i := 2) scShare.nd rfl (Or.inl rfl)) (fun _ _ _ _ _ => pts_nil) (fun _ _ _ _ _ => (pe_cmpR (op_inK (K := K) rfl) (pv 2) (pv 1) rfl))) pa_nil))), ?_⟩
    refine ⟨_, rfl, p, rfl, ⟨_, hp⟩, fun D hD => lc_list (K := K) (a := p) (xs := iVs l) (fun i H' => H' = upd H D (.lst ((l.take i).map fun n => V.bl (m.contains n)))) rfl (fun i H' _ e => by rw [e]; exact (new_same hD).seq hp) ?_ ?_⟩
    · rintro i y H' hi rfl
      obtain ⟨n, hn, rfl⟩ := iVs_get hi
      refine ⟨rfl, tYes_then ?_⟩
      refine ⟨_, rfl, _, rfl, q, _, rfl, .inl ((new_same hD).seq hq), rfl, flat_nat m, ?_⟩
      refine ⟨_, upd_same, ?_, ?_⟩
      · rw [List.length_map]
        exact Nat.lt_of_le_of_lt (Nat.le_trans (List.length_take_le' i l) hl) (by decide)
      · rw [upd_upd, take_more hn, List.map_append, if_neg (by decide), inV_nat]
        rfl
    · rintro H' rfl
      rw [iVs_len, List.take_length]
      refine ⟨D, l.map fun n => m.contains n, rfl, by rw [List.map_map]; exact SqL.of upd_same, ?_⟩
      have e : (l.map fun n => m.contains n).any id = shares l m := by
        unfold shares
        rw [List.any_map]
        rfl
      rw [e]
      exact kq _ (new_same hD)
end
end Wp

set_option Elab.async false
set_option maxRecDepth 100000
set_option maxHeartbeats 2000000
namespace Wp
open PySem PySem.Spec PyProof.Rows L2 Wc
open Wm04 (place has)
section
variable {P : Program} {w : World} {K : PySem.W.Frag} {mg : Str → Option Value} {base : Heap} {a : Ad} {T : List (Addr × Str)}
/-! ### rows_of_rules -/
def lamRows : Expr := match (defBody sRows : List Stmt).getLast? with
  | some (.Return (some (.Call _ _ [⟨_, e, _⟩] _)) _) => e
  | _ => noLam
theorem lam_rows {fl cd : Addr} (T0 : Txt K mg a) : Clo.FnKey P w K mg base 1 fl (Clo.LamG fl (lamOf lamRows "rows_of_rules.<locals>.<lambda>" [] cd) (fun _ => none)) := by
  have S : NdefX.NScope ["row"] ["row"] [] (lamScope lamRows) := NdefX.nscope_by (by decide +kernel)
  refine ⟨fun H H' e g => g.stay e, fun A outer s H us p l Q hr e0 g r hp hq => ?_⟩
  obtain ⟨u, rfl⟩ : ∃ u, us = [u] := by
    cases r with
    | cons x y => cases y; exact ⟨_, rfl⟩
  refine Clo.lam_core (F := lamOf lamRows "rows_of_rules.<locals>.<lambda>" [] cd) (k := 0) (N := ["row"]) (ps := ["row"]) (Qd := fun v H' => ∃ t, v = .ref t ∧ Same H H' ∧ H' t = some (.tup [.int (l.length : Int), .ref p])) rfl rfl S Clo.keeps_none (fun _ _ => rfl) rfl hr e0 g r (fun hr' => ?_) fun v H' _ q => ?_
  · refine ⟨_, pe_tup (X := NdefX.ncx CX0 P w K mg base ["row"] (lamOf lamRows "rows_of_rules.<locals>.<lambda>" [] cd).nf fl A outer s (Clo.dropX H fun _ => none) E0) (pa_cons (pe_callB call_len_seq (by rfl) T0.len PySem.boot_len (pa_cons (pv 0) pa_nil)) (pa_cons (pv 0) pa_nil)), ?_⟩
    refine ⟨_, rfl, p, l, rfl, .inl (SqL.of (show Clo.dropX H (fun _ => none) p = some (.lst l) from hp)), _, rfl, (by show 2 ≤ sizeLine; decide), fun t ht => ?_⟩
    exact ⟨t, rfl, new_same (H := H) ht, upd_same⟩
  · obtain ⟨t, rfl, e, ht⟩ := q
    exact hq t _ e ht
def spRows (T : List (Addr × Str)) : Sp := fun vs H Q _ => ∃ n : Nat, vs = [iV n] ∧ n ≤ 6 ∧ LamX.Tabs T H ∧ ∀ (q : Addr) (qs : List Addr) (H' : Hp), Grew T H H' → H q = none → H' q = some (.lst (refs qs)) → Clo.RowsZ (fun p => H p = none) H' qs (guardRows n) → Q (.ref q) H'
theorem scRows : FnScope ["count", "rows", "k", "row"] ["count"] (defScope sRows) := ⟨rfl, rfl, rfl, by decide +kernel, rfl, by decide +kernel, by decide +kernel⟩
theorem rows_same {H H' : Hp} {ps : List Addr} {ls : List (List Nat)} (e : Same H H') (h : Clo.Rows H ps ls) : Clo.Rows H' ps ls := Clo.each_imp (fun _ _ z => e _ _ z) h
theorem each_app {α β : Type} {R : α → β → Prop} : ∀ {as cs : List α} {bs ds : List β}, PySem.W.EachIs R as bs → PySem.W.EachIs R cs ds → PySem.W.EachIs R (as ++ cs) (bs ++ ds)
  | _, _, _, _, .nil, h => h
  | _, _, _, _, .cons x t, h => .cons x (each_app t h)
theorem ok_rows {f c pt : Addr} {fd : FuncData} (F : FunC K "rows_of_rules" "rows_of_rules" sRows f c fd) (T0 : Txt K mg a) (TB : LamX.TabB base mg c pt) (hT : (pt, ("rows_of_rules.<locals>.<lambda>" : Str)) ∈ T) (hu : ∀ p ∈ T, p.1 = pt → p.2 = ("rows_of_rules.<locals>.<lambda>" : Str)) :
    FnOk P w K mg base CX0 4 f fd ["count"] (spRows T) := by
  refine F.ok scRows (fun vs H Q E h => ?_) (fun A outer s H vs Q E hr h => ?_)
  · obtain ⟨n, rfl, _⟩ := h
    rfl
  · obtain ⟨n, rfl, hn6, hTabs, kq⟩ := h
    have fB : NdefX.ndefB (defScope sRows) (lamScope lamRows) [] = true := by decide +kernel
    refine ⟨_, pss_cons (ps_set (i := 1) scRows.nd rfl (Or.inl rfl) (pe_lst (pa_cons (pe_lst pa_nil) pa_nil)))
      (pss_cons (ps_for PassesOwn.never rfl (pi_range1 rfl T0.range (pa_cons (pv 0) pa_nil)) (pg_name (i := 2) scRows.nd rfl (Or.inr rfl)) (pss_one (ps_set (i := 1) scRows.nd rfl (Or.inl rfl) (pe_op op_cat (pv 1) (pe_lc (own := [("row", 3)]) (g := gName 3) (tt := tYes) rfl scRows.nd (pi_list (pv 1)) (blkOk_by (own := [("row", 3)]) (N := ["count", "rows", "k", "row"]) (sc := defScope sRows) (by decide +kernel)) (fun _ _ _ _ _ => pg_name (i := 3) scRows.nd rfl (Or.inl rfl)) (fun _ _ _ _ _ => pts_nil) (fun _ _ _ _ _ => (pe_op op_cat (pv 3) (pe_lst (pa_cons (pv 2) pa_nil)))))))))
      (pss_one (ps_ret (pe_callBK (Clo.cr_sortK (k := 1) hr) (by rfl) T0.sorted (by decide +kernel) (pa_cons (pv 1) pa_nil) (pk_cons (Clo.pe_lamV TB rfl hT hu rfl (NdefX.ndef_free fB)) pk_nil))))), ?_⟩
    -- rows = [[]]
    refine ⟨(by show 0 ≤ sizeLine; decide), fun r0 hr0 => ⟨(by show 1 ≤ sizeLine; decide), fun l0 hl0 => ?_⟩⟩
    have e0 : Same H (upd (upd H r0 (.lst [])) l0 (.lst [.ref r0])) := (new_same hr0).trans (new_same hl0)
    -- for k in range(count)
    refine ⟨_, rfl, (n : Int), rfl, by omega, by omega, for_range (n := n) (fun i σ H' => ∃ (l : Addr) (ps : List Addr) (x y : Option V), σ = [some (iV n), some (.ref l), x, y] ∧ Same H H' ∧ H l = none ∧ H' l = some (.lst (refs ps)) ∧ Clo.RowsZ (fun p => H p = none) H' ps (rowsOf i))
      ⟨l0, [r0], none, none, rfl, e0, (new_same hr0).free hl0, upd_same, .cons ⟨(new_same hl0) _ _ upd_same, hr0⟩ .nil⟩ ?_ ?_⟩
    · rintro i σ H1 hi ⟨l, ps, x, y, rfl, e1, hl, hl1, hrowsZ⟩
      have hrows : Clo.Rows H1 ps (rowsOf i) := Clo.each_imp (fun _ _ z => z.1) hrowsZ
      have ei : (0 : Int) + (i : Int) = (i : Int) := by omega
      rw [ei]
      have lps : ps.length = 2 ^ i := by rw [Clo.each_len hrows, rows_len]
      have l64 : 2 ^ i ≤ 32 := by
        have : i ≤ 5 := by omega
        exact Nat.pow_le_pow_right (by decide) this
      -- rows + [row + [k] for row in rows]
      refine ⟨_, rfl, _, rfl, l, rfl, ⟨_, SqL.of hl1⟩, fun D hD => lc_list (K := K) (a := l) (xs := refs ps) (fun j H' => ∃ qs, Same H1 H' ∧ H' D = some (.lst (refs qs)) ∧ PySem.W.EachIs (fun p r => Clo.RowAt H' p r ∧ p ≠ D ∧ H p = none) qs (((rowsOf i).take j).map fun r => r ++ [i]))
        ⟨[], new_same hD, upd_same, by rw [List.take_zero]; exact .nil⟩ (fun j H' _ ⟨qs, e, _⟩ => SqL.of (e _ _ hl1)) ?_ ?_⟩
      · rintro j y2 H2 hj ⟨qs, e2, hD2, hq2⟩
        obtain ⟨rp, hrp, rfl⟩ := refs_get hj
        obtain ⟨row, hrow, hat⟩ := Clo.each_get hrows hrp
        have hat2 := e2 _ _ hat
        have lrow := (rows_short i row (List.mem_of_getElem? hrow)).1
        have lqs : qs.length ≤ 32 := by
          have := Clo.each_len hq2
          rw [List.length_map, List.length_take, rows_len] at this
          omega
        refine ⟨rfl, tYes_then ?_⟩
        refine ⟨_, rfl, _, rfl, (by show 1 ≤ sizeLine; decide), fun k1 hk1 => ?_⟩
        have e3 : Same H2 (upd H2 k1 (.lst [iV i])) := new_same hk1
        refine ⟨rp, k1, _, _, rfl, rfl, e3 _ _ hat2, upd_same, ?_, fun r1 hr1 => ?_⟩
        · have : (Clo.nV row).length = row.length := List.length_map _
          show (Clo.nV row).length + 1 ≤ sizeLine
          rw [this]
          exact Nat.le_trans (show row.length + 1 ≤ 7 by omega) (by decide)
        have e4 := e3.trans (new_same (o := .lst (Clo.nV row ++ [iV i])) hr1)
        refine ⟨_, e4 _ _ hD2, by rw [refs_len]; exact Nat.lt_of_le_of_lt lqs (by decide), qs ++ [r1], ?_, by rw [upd_same, refs_snoc], ?_⟩
        · intro b o h
          rw [upd_ne (ne_of_none h hD)]
          exact e4 _ _ (e2 _ _ h)
        · rw [take_more hrow, List.map_append]
          have n1 : r1 ≠ D := (ne_of_none (e3 _ _ hD2) hr1).symm
          refine Clo.each_put (R := fun p r => Clo.RowAt _ p r ∧ p ≠ D ∧ H p = none) (b := row ++ [i]) ⟨?_, n1, ((e1.trans e2).trans e3).free hr1⟩ (Clo.each_imp (fun p r z => ⟨(upd_ne z.2.1).trans (e4 _ _ z.1), z.2⟩) hq2)
          · show upd _ D _ r1 = some (.lst (Clo.nV (row ++ [i])))
            rw [upd_ne n1, upd_same]
            unfold Clo.nV
            rw [List.map_append]
            rfl
      · rintro H2 ⟨qs, e2, hD2, hq2⟩
        rw [refs_len, lps, ← rows_len i, List.take_length] at hq2
        have lqs : qs.length = 2 ^ i := by rw [Clo.each_len hq2, List.length_map, rows_len]
        refine ⟨l, D, _, _, rfl, rfl, e2 _ _ hl1, hD2, ?_, fun l1 hl1' => ?_⟩
        · rw [refs_len, refs_len, lps, lqs]
          exact Nat.le_trans (show 2 ^ i + 2 ^ i ≤ 64 by omega) (by decide)
        · have e3 : Same H2 (upd H2 l1 (.lst (refs ps ++ refs qs))) := new_same hl1'
          refine ⟨l1, ps ++ qs, some (iV i), _, rfl, (e1.trans e2).trans e3, (e1.trans e2).free hl1', by rw [upd_same]; unfold refs; rw [List.map_append], ?_⟩
          have h1 : Clo.RowsZ (fun p => H p = none) (upd H2 l1 (.lst (refs ps ++ refs qs))) ps (rowsOf i) := Clo.each_imp (fun _ _ z => ⟨(e2.trans e3) _ _ z.1, z.2⟩) hrowsZ
          have h2 : Clo.RowsZ (fun p => H p = none) (upd H2 l1 (.lst (refs ps ++ refs qs))) qs ((rowsOf i).map fun r => r ++ [i]) := Clo.each_imp (fun p r z => ⟨e3 _ _ z.1, z.2.2⟩) hq2
          exact each_app h1 h2
    · rintro σ H1 ⟨l, ps, x, y, rfl, e1, hl, hl1, hrows⟩
      -- sorted(rows, key=..)
      refine ⟨_, rfl, hTabs.ext e1, fun fl cd H2 e2 e2n t2 hfl hlam hcode => ?_⟩
      have hl2 := e2 _ _ hl1 (fun _ z => by cases z)
      have hrows2 : Clo.RowsZ (fun p => H p = none) H2 ps (rowsOf n) := Clo.each_imp (fun p r z => ⟨e2 _ _ z.1 (fun _ z => by cases z), z.2⟩) hrows
      refine ⟨l, fl, ps, rowsOf n, _, _, rfl, rfl, hl2, hrows2, lam_rows T0, ⟨hlam, hcode, fun b o z => by cases z⟩, fun q qs H3 e3 hq hq3 hrows3 => ?_⟩
      rw [rows_sorted hn6] at hrows3
      have g : Grew T H H3 := ⟨fun b o h nt => e3 _ _ (e2 _ _ (e1 _ _ h) nt), fun b h => e1.free (e2n b (e3.free h)), fun _ => t2.ext e3⟩
      exact kq q qs H3 g (e1.free (e2n q hq)) hq3 hrows3
end
end Wp

set_option Elab.async false
set_option maxRecDepth 100000
set_option maxHeartbeats 2000000
namespace Wp
open PySem PySem.Spec PyProof.Rows L2 Wc
open Wm04 (place has)
theorem cut_last (xs : List V) : cutV xs none (some (-1)) = xs.take (xs.length - 1) := by
  unfold cutV
  rw [HT.sIx_none, List.drop_zero]
  have e : HT.sIx xs.length xs.length (some (-1)) = xs.length - 1 := by
    show (if (-1 : Int) < 0 then ((-1 : Int) + (xs.length : Int)).toNat else min (-1 : Int).toNat xs.length) = _
    rw [if_pos (by decide)]
    omega
  rw [e, Nat.sub_zero]
theorem moves_out (c : List Nat) : ∀ ks : List Nat, (movesK ks).filter (fun m => !c.contains m.1) = movesK (ks.filter fun k => !c.contains k)
  | [] => rfl
  | k :: ks => by
    have e1 : movesK (k :: ks) = mvs k ++ movesK ks := rfl
    rw [e1, List.filter_append, moves_out c ks, List.filter_cons]
    cases h : c.contains k with
    | false =>
      have : (mvs k).filter (fun m => !c.contains m.1) = mvs k := by
        rw [List.filter_eq_self]
        intro m hm
        have : m.1 = k := by unfold mvs at hm; simp at hm; rcases hm with h | h | h <;> rw [h]
        rw [this, h]
        rfl
      rw [this]
      rfl
    | true =>
      have : (mvs k).filter (fun m => !c.contains m.1) = [] := by
        rw [List.filter_eq_nil_iff]
        intro m hm
        have : m.1 = k := by unfold mvs at hm; simp at hm; rcases hm with h | h | h <;> rw [h]
        rw [this, h]
        decide
      rw [this]
      rfl
theorem rgV_nat (n : Nat) : rgV 0 (n : Int) = iVs (List.range n) := by
  unfold rgV iVs iV
  have : ((n : Int) - 0).toNat = n := by omega
  rw [this]
  refine List.map_congr_left fun i _ => ?_
  show V.int (0 + (i : Int)) = V.int (i : Int)
  rw [Int.zero_add]
theorem nV_eq (l : List Nat) : Clo.nV l = iVs l := rfl
section
variable {P : Program} {w : World} {K : PySem.W.Frag} {mg : Str → Option Value} {base : Heap} {a : Ad} {T : List (Addr × Str)}
/-! ### find_guard -/
def spFindGuard (P : Program) (w : World) (K : PySem.W.Frag) (mg : Str → Option Value) (base : Heap) (T : List (Addr × Str)) (a : Ad) : Sp := fun vs H Q _ => ∃ (s : Nat) (ml dl f : Addr) (rs : List Wm04.Rule) (us : List Nat) (ss : List Addr) (want : Nat → Bool) (G : Hp → Prop),
  vs = [iV s, .ref ml, iV rs.length, .ref f] ∧ s < 4096 ∧ Moves K a H rs us (List.range rs.length) dl ml ss ∧ rs.length ≤ 6 ∧ Clo.Fn1 P w K mg base 3 f want G ∧ G H ∧ want s = false ∧ LamX.Tabs T H ∧
  ∀ (q : Addr) (c : List Nat) (H' : Hp), Wm04.guard rs us s want = some c → c.length ≤ 6 → Grew T H H' → H' q = some (.lst (iVs c)) → Q (.ref q) H'
theorem scFindGuard : FnScope ["held", "moves", "count", "is_wanted", "rules_of_plans", "row", "plan", "used", "move", "step"] ["held", "moves", "count", "is_wanted"] (defScope sFindGuard) := ⟨rfl, rfl, rfl, by decide +kernel, rfl, by decide +kernel, by decide +kernel⟩
theorem guard_short {n : Nat} {c : List Nat} (hn : n ≤ 6) (h : c ∈ guardRows n) : c.length ≤ 6 := by
  have e := rows_sorted hn
  rw [← e] at h
  have := (rows_short n c (List.mem_mergeSort.mp h)).1
  omega
theorem guard_len {n : Nat} (hn : n ≤ 6) : (guardRows n).length ≤ 64 := by
  have e := congrArg List.length (rows_sorted hn)
  rw [List.length_mergeSort, rows_len] at e
  rw [← e]
  exact Nat.le_trans (Nat.pow_le_pow_right (by decide) hn) (by decide)
theorem ok_findGuard {f : Addr} {fd : FuncData} (F : Fun K "find_guard" "find_guard" sFindGuard f fd) (T0 : Txt K mg a) (X1 : Fn P w K mg base "rows_of_rules" 4 ["count"] (spRows T)) (X2 : Fn P w K mg base "share_one" 1 ["row", "other"] (spShare K))
    (X3 : Fn P w K mg base "find_plan" 5 ["held", "moves", "is_wanted"] (spFindPlan P w K mg base a)) : FnOk P w K mg base CX0 6 f fd ["held", "moves", "count", "is_wanted"] (spFindGuard P w K mg base T a) := by
  refine F.ok scFindGuard (fun vs H Q E h => ?_) (fun cdv A outer s H vs Q E hr h => ?_)
  · obtain ⟨s, ml, dl, f, rs, us, ss, want, G, rfl, _⟩ := h
    rfl
  · obtain ⟨s0, ml, dl, fn, rs, us, ss, want, G, rfl, hs0, M, h6, F1, g0, hws, hTabs, kq⟩ := h
    obtain ⟨f1, fd1, G1, m1, k1, b1⟩ := X1.ex
    obtain ⟨f2, fd2, G2, m2, k2, b2⟩ := X2.ex
    obtain ⟨f3, fd3, G3, m3, k3, b3⟩ := X3.ex
    have hr1 : Room 1 _ := hr.mono (by decide)
    have hr4 : Room 4 _ := hr.mono (by decide)
    have hb : Below rs (Wm04.steps rs us) := below_K M.rules (List.range rs.length) us
    refine ⟨_, pss_cons (ps_set (i := 4) scFindGuard.nd rfl (Or.inl rfl) (pe_lst pa_nil))
      (pss_cons (ps_for PassesOwn.never rfl (pi_list (pe_slice sl_list (pe_call G1 hr4 rfl m1 k1 b1 .nil pass0 (pa_cons (pv 2) pa_nil)) po_none (po_some (pe_un un_neg pe_int)))) (pg_name (i := 5) scFindGuard.nd rfl (Or.inr rfl)) (pss_one (ps_if (pt_val (pe_callB (cr_all rfl) (by rfl) T0.all (by decide +kernel) (pa_cons (pe_lc (own := [("used", 7)]) (g := gName 7) (tt := tYes) rfl scFindGuard.nd (pi_list (pv 4)) (blkOk_by (own := [("used", 7)]) (N := ["held", "moves", "count", "is_wanted", "rules_of_plans", "row", "plan", "used", "move", "step"]) (sc := defScope sFindGuard) (by decide +kernel)) (fun _ _ _ _ _ => pg_name (i := 7) scFindGuard.nd rfl (Or.inl rfl)) (fun _ _ _ _ _ => pts_nil) (fun _ _ _ _ _ => (pe_call G2 hr1 rfl m2 k2 b2 .nil pass0 (pa_cons (pv 5) (pa_cons (pv 7) pa_nil))))) pa_nil))) (pss_cons (ps_set (i := 6) scFindGuard.nd rfl (Or.inl rfl) (pe_call G3 hr rfl m3 k3 b3 .nil pass0 (pa_cons (pv 0) (pa_cons (pe_lc (own := [("move", 8)]) (g := gName 8) rfl scFindGuard.nd (pi_list (pv 1)) (blkOk_by (own := [("move", 8)]) (N := ["held", "moves", "count", "is_wanted", "rules_of_plans", "row", "plan", "used", "move", "step"]) (sc := defScope sFindGuard) (by decide +kernel)) (fun _ _ _ _ _ => pg_name (i := 8) scFindGuard.nd rfl (Or.inl rfl)) (fun _ _ _ _ _ => pts_one (pt_cmpR (op_notInK (K := K) rfl) (pe_fldK (K := K) (pv 8) rfl rfl) (pv 5) rfl)) (fun _ _ _ _ _ => (pv 8))) (pa_cons (pv 3) pa_nil)))))
      (pss_cons (ps_if (pt_cmp (pc_isN (pv 6))) (pss_one (ps_ret (pv 5))) pss_nil)
      (pss_one (ps_expr (pe_bm PySem.F.plainAttrs_list PySem.F.slot_list_append PySem.F.type_list_append mt_append (pv 4) (pa_cons (pe_lc (own := [("step", 9)]) (g := gName 9) (tt := tYes) rfl scFindGuard.nd (pi_list (pv 6)) (blkOk_by (own := [("step", 9)]) (N := ["held", "moves", "count", "is_wanted", "rules_of_plans", "row", "plan", "used", "move", "step"]) (sc := defScope sFindGuard) (by decide +kernel)) (fun _ _ _ _ _ => pg_name (i := 9) scFindGuard.nd rfl (Or.inl rfl)) (fun _ _ _ _ _ => pts_nil) (fun _ _ _ _ _ => (pe_ix (ix_tupK (K := K) rfl) (pv 9) pe_int (fun _ _ => rfl)))) pa_nil)))))) pss_nil)))
      (pss_one (ps_ret (pe_listRg rfl rfl T0.list (prg_1 rfl T0.range (pv 2)))))), ?_⟩
    -- rules_of_plans = []
    refine ⟨(by show 0 ≤ sizeLine; decide), fun ua hua => ?_⟩
    have eA : Same H (upd H ua (.lst [])) := new_same hua
    -- rows_of_rules(count)[:-1]
    refine ⟨_, rfl, rs.length, rfl, h6, hTabs.ext eA, fun l1 qs H1 g1 hl1 hl1' hrows => ?_⟩
    have hua1 : H1 ua = some (.lst []) := g1.ext _ _ upd_same (fun _ z => by cases z)
    refine ⟨_, rfl, _, rfl, l1, _, rfl, SqL.of hl1', fun sl hsl => ?_⟩
    have ecut : cutV (refs qs) none (some (-1)) = refs (qs.take (qs.length - 1)) := by
      rw [cut_last, refs_len]
      unfold refs
      rw [List.map_take]
    have ecut' : cutV (refs qs) none (some (-(1 : Int))) = refs (qs.take (qs.length - 1)) := ecut
    rw [ecut']
    have e2 : Same H1 (upd H1 sl (.lst (refs (qs.take (qs.length - 1))))) := new_same hsl
    generalize hH2 : upd H1 sl (.lst (refs (qs.take (qs.length - 1)))) = H2 at e2
    have hsl2 : H2 sl = some (.lst (refs (qs.take (qs.length - 1)))) := by rw [← hH2]; exact upd_same
    have hua2 := e2 _ _ hua1
    -- all but the list of plans' rules
    obtain ⟨HB, hHB⟩ : ∃ HB, HB = less H2 ua ua := ⟨_, rfl⟩
    have hBua : HB ua = none := by rw [hHB]; exact less_fst _ _ _
    have inB : ∀ {b o}, H2 b = some o → b ≠ ua → HB b = some o := fun h n => by rw [hHB]; exact less_of h n n
    have eB : Same HB H2 := by rw [hHB]; exact less_same _ _ _
    have extB : LamX.ExtN H HB := fun b o h n => inB (e2 _ _ (g1.ext _ _ (eA _ _ h) n)) (ne_of_none h hua)
    have hslB : HB sl = some (.lst (refs (qs.take (qs.length - 1)))) := inB hsl2 (ne_of_none hua1 hsl).symm
    have MB : Moves K a HB rs us (List.range rs.length) dl ml ss := M.ext extB
    have gB : G HB := F1.stay _ _ extB g0
    have rowsB : Clo.Rows HB qs (guardRows rs.length) := Clo.each_imp (fun p r z => inB (e2 _ _ z.1) (ne_of_none upd_same z.2).symm) hrows
    have fin : ∀ {H' : Hp}, Same HB H' → (∃ o, H' ua = some o) → Grew T H H' := fun {H'} e ⟨o, ho⟩ => by
      refine ⟨extB.trans (LamX.ExtN.of e), fun b h => ?_, fun _ => ?_⟩
      · have hz : HB b = none := e.free h
        by_cases y : b = ua
        · rw [y, ho] at h; cases h
        · have h2 : H2 b = none := by
            cases q : H2 b with
            | none => rfl
            | some u => rw [inB q y] at hz; cases hz
          exact eA.free (g1.old b (e2.free h2))
      · intro y hy
        obtain ⟨ps, z1, z2, z3⟩ := (g1.tabs (hTabs.ext eA)).ext e2 y hy
        refine ⟨ps, e _ _ (inB z1 (ne_of z1 hua2 (by intro z; cases z))), z2, fun pos cv hc => ?_⟩
        obtain ⟨c, ec, hcc⟩ := z3 pos cv hc
        exact ⟨c, ec, e _ _ (inB hcc (ne_of hcc hua2 (by intro z; unfold LamX.CodeO at z; cases z)))⟩
    obtain ⟨pre, hpre⟩ := guardRows_last rs.length
    have hlq : qs.length = pre.length + 1 := by rw [Clo.each_len rowsB, hpre, List.length_append]; rfl
    have h64 := guard_len h6
    have hpre64 : pre.length < 64 := by rw [hpre, List.length_append] at h64; simp at h64; omega
    -- the rows that are tried
    have at_ : ∀ {i : Nat} {p : Addr}, (qs.take (qs.length - 1))[i]? = some p → ∃ c, pre[i]? = some c ∧ HB p = some (.lst (iVs c)) := fun {i p} h => by
      have hi : i < pre.length := by
        have := (List.getElem?_eq_some_iff.mp h).1
        rw [List.length_take] at this
        omega
      rw [List.getElem?_take_of_lt (by omega)] at h
      obtain ⟨c, h1, h2⟩ := Clo.each_get rowsB h
      rw [hpre, List.getElem?_append_left hi] at h1
      exact ⟨c, h1, h2⟩
    have lenT : (refs (qs.take (qs.length - 1))).length = pre.length := by rw [refs_len, List.length_take]; omega
    have mem_rows : ∀ {i : Nat} {c : List Nat}, pre[i]? = some c → c ∈ guardRows rs.length := fun h => by rw [hpre]; exact List.mem_append_left _ (List.mem_of_getElem? h)
    refine ⟨sl, rfl, ⟨_, SqL.of hsl2⟩, for_list (K := K) (a := sl) (xs := refs (qs.take (qs.length - 1))) (fun i σ H' => ∃ (uls : List Addr) (used : List (List Nat)) (x1 x2 x3 x4 x5 : Option V), σ = [some (iV s0), some (.ref ml), some (iV rs.length), some (.ref fn), some (.ref ua), x1, x2, x3, x4, x5] ∧
        Same HB H' ∧ H' ua = some (.lst (refs uls)) ∧ PySem.W.EachIs (fun p l => H' p = some (.lst (iVs l)) ∧ p ≠ ua) uls used ∧ (∀ l ∈ used, Used rs us s0 want l) ∧ uls.length ≤ i ∧ ∀ c ∈ pre.take i, (Wm04.plan (Wm04.gaveUp rs c) us s0 want).isNone = false)
      ⟨[], [], none, none, none, none, none, rfl, eB, hua2, .nil, fun l hl => absurd hl (by simp), Nat.le_refl _, fun c hc => absurd hc (by simp)⟩ (fun i σ H' _ ⟨_, _, _, _, _, _, _, _, e, _⟩ => SqL.of (e _ _ hslB)) ?_ ?_⟩
    · rintro i y σ H3 hi ⟨uls, used, x1, x2, x3, x4, x5, rfl, e3, hua3, hused, hU, hlen, hall⟩
      obtain ⟨rp, hrp, rfl⟩ := refs_get hi
      obtain ⟨c, hc, hcB⟩ := at_ hrp
      have hi64 : i < pre.length := (List.getElem?_eq_some_iff.mp hc).1
      have c6 := guard_short h6 (mem_rows hc)
      have hl2 : uls.length = used.length := Clo.each_len hused
      -- all([share_one(row, used) for used in rules_of_plans])
      refine ⟨_, rfl, ua, rfl, ⟨_, SqL.of hua3⟩, fun D hD => lc_list (K := K) (a := ua) (xs := refs uls) (fun j H' => Same H3 H' ∧ H' D = some (.lst (((used.take j).map (shares c)).map V.bl))) ⟨new_same hD, upd_same⟩ (fun j H' _ ⟨e, _⟩ => SqL.of (e _ _ hua3)) ?_ ?_⟩
      · rintro j y2 H4 hj ⟨e4, hD4⟩
        obtain ⟨up, hup, rfl⟩ := refs_get hj
        obtain ⟨l, hl, hat, _⟩ := Clo.each_get hused hup
        refine ⟨rfl, tYes_then ?_⟩
        refine ⟨_, rfl, _, rfl, rp, up, c, l, rfl, SqL.of (e4 _ _ (e3 _ _ hcB)), SqL.of (e4 _ _ hat), c6, fun H5 e5 => ?_⟩
        refine ⟨_, e5 _ _ hD4, ?_, fun b o h => ?_, ?_⟩
        · rw [List.length_map, List.length_map]
          have := List.length_take_le' j used
          exact Nat.lt_of_le_of_lt (show _ ≤ 64 by omega) (by decide)
        · rw [upd_ne (ne_of_none h hD)]
          exact e5 _ _ (e4 _ _ h)
        · rw [upd_same, take_more hl, List.map_append, List.map_append]
          rfl
      · rintro H4 ⟨e4, hD4⟩
        rw [refs_len, hl2, List.take_length] at hD4
        refine ⟨D, used.map (shares c), rfl, SqL.of hD4, _, rfl, ?_⟩
        have e34 := e3.trans e4
        have hua4 := e4 _ _ hua3
        have hused4 : PySem.W.EachIs (fun p l => H4 p = some (.lst (iVs l)) ∧ p ≠ ua) uls used := Clo.each_imp (fun p l z => ⟨e4 _ _ z.1, z.2⟩) hused
        cases hsh : (used.map (shares c)).all id with
        | false =>
          refine iteF ?_
          refine ⟨uls, used, _, _, _, _, _, rfl, e34, hua4, hused4, hU, by omega, ?_⟩
          intro c' hc'
          rw [take_more hc] at hc'
          rcases List.mem_append.mp hc' with z | z
          · exact hall c' z
          · have ec : c' = c := by simpa using z
            subst ec
            rw [List.all_eq_false] at hsh
            obtain ⟨b, hbm, hb2⟩ := hsh
            obtain ⟨l, hl, rfl⟩ := List.mem_map.mp hbm
            refine used_whole hb hs0 (hU l hl) fun k hk => ?_
            cases hck : c'.contains k with
            | false => rfl
            | true =>
              exfalso
              refine hb2 ?_
              show shares c' l = true
              unfold shares
              rw [List.any_eq_true]
              exact ⟨k, List.contains_iff_mem.mp hck, List.contains_iff_mem.mpr hk⟩
        | true =>
          refine iteT ?_
          -- find_plan(held, [move for move in moves if move.k not in row], is_wanted)
          refine ⟨_, rfl, _, rfl, ml, rfl, ⟨_, e34.seq MB.lst⟩, fun D2 hD2 => lc_list (K := K) (a := ml) (xs := refs ss) (fun j H' => ∃ sf, Same H4 H' ∧ H' D2 = some (.lst (refs sf)) ∧ MovesAt a HB rs us dl sf (((movesK (List.range rs.length)).take j).filter fun m => !c.contains m.1) ∧ sf.length ≤ j)
            ⟨[], new_same hD2, upd_same, by rw [List.take_zero]; exact All2.nil, Nat.le_refl _⟩ (fun j H' _ ⟨sf, e, _⟩ => (e34.trans e).seq MB.lst) ?_ ?_⟩
          · rintro j y2 H5 hj ⟨sf, e5, hD5, hsf, hlsf⟩
            obtain ⟨mp, hmp, rfl⟩ := refs_get hj
            obtain ⟨m, hm, hmv⟩ := MB.at_.right hmp
            have hj18 : j < 18 := by
              have h1 := (List.getElem?_eq_some_iff.mp hm).1
              have h2 : (movesK (List.range rs.length)).length = 3 * rs.length := by
                unfold movesK
                rw [List.length_flatMap]
                have : ((List.range rs.length).map fun k => (mvs k).length) = List.replicate rs.length 3 := by
                  rw [List.eq_replicate_iff]
                  refine ⟨by simp, fun b hb => ?_⟩
                  obtain ⟨k, _, e⟩ := List.mem_map.mp hb
                  rw [← e]; rfl
                rw [this, List.sum_replicate_nat]
                omega
              omega
            obtain ⟨rule, dm, _, ho⟩ := hmv.ob
            have e35 := e34.trans e5
            refine ⟨rfl, _, rfl, mp, a.CM, dm, _, _, rfl, e35 _ _ ho, T0.cM, T0.nMk, rfl, _, rfl, rp, _, rfl, .inl (SqL.of (e35 _ _ hcB)), rfl, flat_nat c, _, rfl, ?_⟩
            rw [if_pos rfl, inV_nat, take_more hm, List.filter_append]
            cases hcm : c.contains m.1 with
            | false =>
              refine iteT ?_
              refine ⟨_, rfl, _, hD5, by rw [refs_len]; exact Nat.lt_of_le_of_lt (show sf.length ≤ 18 by omega) (by decide), sf ++ [mp], fun b o h => ?_, by rw [upd_same, refs_snoc], ?_, by simp; omega⟩
              · rw [upd_ne (ne_of_none h hD2)]
                exact e5 _ _ h
              · rw [List.filter_cons_of_pos (p := fun m : Nat × Nat => !c.contains m.1) (by rw [hcm]; rfl), List.filter_nil]
                exact hsf.snoc hmv
            | true =>
              refine iteF ?_
              rw [List.filter_cons_of_neg (p := fun m : Nat × Nat => !c.contains m.1) (by rw [hcm]; decide), List.filter_nil, List.append_nil]
              exact ⟨sf, e5, hD5, hsf, by omega⟩
          · rintro H5 ⟨sf, e5, hD5, hsf, hlsf⟩
            rw [refs_len, MB.at_.len, List.take_length, moves_out] at hsf
            have e35 := e34.trans e5
            have hua5 := e5 _ _ hua4
            have M5 : Moves K a H5 rs us (ruleOut rs.length c) dl D2 sf := ⟨SqL.of hD5, hsf.imp fun _ _ z => z.same e35, M.rules, M.users, M.nd, M.three⟩
            refine ⟨_, rfl, s0, D2, dl, fn, rs, us, ruleOut rs.length c, sf, want, G, rfl, hs0, M5, F1, F1.stay _ _ (LamX.ExtN.of e35) gB, fun hno H6 e6 => ?_, fun path hfi lp q H6 ts e6 _ hq6 ht6 => ?_⟩
            · -- plan is None: return row
              refine ⟨_, rfl, _, rfl, iteT ⟨_, rfl, ?_⟩⟩
              have e36 := e35.trans e6
              refine kq rp c H6 ?_ c6 (fin e36 ⟨_, e6 _ _ hua5⟩) (e36 _ _ hcB)
              rw [guard_eq, List.find?_eq_some_iff_append]
              refine ⟨out_none hb hs0 hno, pre.take i, pre.drop (i + 1) ++ [List.range rs.length], ?_, fun c' hc' => by rw [hall c' hc']; rfl⟩
              have : pre = pre.take i ++ c :: pre.drop (i + 1) := by
                have h1 := List.getElem?_eq_some_iff.mp hc
                obtain ⟨h2, h3⟩ := h1
                rw [← h3, ← List.drop_eq_getElem_cons h2, List.take_append_drop]
              rw [hpre]
              conv => lhs; rw [this]
              simp
            · refine ⟨_, rfl, _, rfl, iteF ?_⟩
              have e36 := e35.trans e6
              have hua6 := e6 _ _ hua5
              -- rules_of_plans.append([step[0] for step in plan])
              refine ⟨_, rfl, .inl ⟨rfl, _, SqL.of hua6⟩, ?_⟩
              refine ⟨_, rfl, q, rfl, ⟨_, SqL.of hq6⟩, fun D3 hD3 => lc_list (K := K) (a := q) (xs := refs ts) (fun j H' => Same H6 H' ∧ H' D3 = some (.lst (iVs ((path.take j).map (·.rule))))) ⟨new_same hD3, upd_same⟩ (fun j H' _ ⟨e, _⟩ => SqL.of (e _ _ hq6)) ?_ ?_⟩
              · rintro j y2 H7 hj ⟨e7, hD7⟩
                obtain ⟨tp, htp, rfl⟩ := refs_get hj
                obtain ⟨t, ht, htt⟩ := ht6.right htp
                refine ⟨rfl, tYes_then ?_⟩
                refine ⟨_, rfl, tp, _, _, _, rfl, rfl, SqT.of (e7 _ _ htt), atI_nat (j := 0) rfl, _, hD7, ?_, fun b o h => ?_, ?_⟩
                · rw [iVs_len, List.length_map]
                  have := List.length_take_le' j path
                  exact Nat.lt_of_le_of_lt (show _ ≤ 4096 by omega) (by decide)
                · rw [upd_ne (ne_of_none h hD3)]
                  exact e7 _ _ h
                · rw [upd_same, take_more ht, List.map_append]
                  unfold iVs
                  rw [List.map_append]
                  rfl
              · rintro H7 ⟨e7, hD7⟩
                rw [refs_len, ht6.len, List.take_length] at hD7
                have hua7 := e7 _ _ hua6
                have n3 : D3 ≠ ua := (ne_of_none hua6 hD3).symm
                refine ⟨ua, _, _, rfl, rfl, hua7, ?_, ?_⟩
                · rw [refs_len]
                  exact Nat.lt_of_le_of_lt (show _ ≤ 64 by omega) (by decide)
                · have e47 := (e5.trans e6).trans e7
                  refine ⟨uls ++ [D3], used ++ [path.map (·.rule)], _, _, _, _, _, rfl, fun b o h => ?_, by rw [upd_same, refs_snoc], ?_, fun l hl => ?_, by simp; omega, fun c' hc' => ?_⟩
                  · rw [upd_ne (ne_of_none h hBua)]
                    exact e7 _ _ (e36 _ _ h)
                  · exact Clo.each_put (R := fun p l => upd H7 ua (.lst (refs uls ++ [.ref D3])) p = some (.lst (iVs l)) ∧ p ≠ ua) ⟨(upd_ne n3).trans hD7, n3⟩ (Clo.each_imp (fun p l z => ⟨(upd_ne z.2).trans (e47 _ _ z.1), z.2⟩) hused4)
                  · rcases List.mem_append.mp hl with z | z
                    · exact hU l z
                    · have : l = path.map (·.rule) := by simpa using z
                      rw [this]
                      exact used_of hfi
                  · rw [take_more hc] at hc'
                    rcases List.mem_append.mp hc' with z | z
                    · exact hall c' z
                    · have ec : c' = c := by simpa using z
                      rw [ec]
                      exact out_some hb hs0 hfi
    · rintro σ H3 ⟨uls, used, x1, x2, x3, x4, x5, rfl, e3, hua3, hused, hU, hlen, hall⟩
      rw [lenT, List.take_length] at hall
      -- list(range(count))
      refine ⟨_, rfl, (rs.length : Int), rfl, RgOk.of_le (by decide) (by omega) (by decide) (by omega), fun q hq => ?_⟩
      rw [rgV_nat]
      refine kq q (List.range rs.length) _ ?_ (by rw [List.length_range]; exact h6) (fin (e3.trans (new_same hq)) ⟨_, new_same hq _ _ hua3⟩) upd_same
      rw [guard_eq, hpre, List.find?_eq_some_iff_append]
      refine ⟨?_, pre, [], by simp, fun c' hc' => by rw [hall c' hc']; rfl⟩
      rw [gave_all hb hs0 hws]
      rfl
end
end Wp

set_option Elab.async false
set_option maxRecDepth 100000
set_option maxHeartbeats 2000000
namespace Wp
open PySem PySem.Spec PyProof.Rows L2 Wc
open Wm04 (place has isUser isRole isRoles rises)
abbrev sHouseInit : Stmt := inClass (top 27) 0
abbrev sIsUser : Stmt := top 28
abbrev sIsRole : Stmt := top 29
abbrev sRises : Stmt := top 30
abbrev sAreRoles : Stmt := top 31
abbrev sSetRoles : Stmt := top 32
abbrev sAddRule : Stmt := top 33
abbrev sGive : Stmt := top 34
abbrev sTake : Stmt := top 35
abbrev sStrike : Stmt := top 36
abbrev sSetActors : Stmt := top 37
abbrev sDoStep : Stmt := top 38
abbrev sTellRow : Stmt := top 39
abbrev sCanHave : Stmt := top 40
abbrev sCanLose : Stmt := top 41
abbrev sCanNever : Stmt := top 42
abbrev sPlanFor : Stmt := top 43
abbrev sGuard : Stmt := top 44
abbrev sCountMany : Stmt := top 45
abbrev sTellRoles : Stmt := top 46
abbrev sTellRule : Stmt := top 47
abbrev sTellRules : Stmt := top 48
structure TxtH (K : PySem.W.Frag) (mg : Str → Option Value) (a : Ad) : Prop where
  most : ∃ t, mg "MOST_RULES" = some (.int 6 t)
  not1 : ∃ t, mg "NOT_AS_TOLD" = some (.int (-1) t)
  not2 : ∃ t, mg "NO_SUCH_RULE" = some (.int (-2) t)
  not3 : ∃ t, mg "NO_PLAN" = some (.int (-3) t)
  not5 : ∃ t, mg "TOO_MANY_RULES" = some (.int (-5) t)
  not6 : ∃ t, mg "NOT_ALLOWED" = some (.int (-6) t)
  had6 : ∃ t, mg "HELD_ALREADY" = some (.int (-6) t)
  gHouse : mg "House" = some (.ref a.CH)
  cH : Cls K a.CH
  nHeld : NoAttr K a.CH "held"
  nRules : NoAttr K a.CH "rules"
  nActors : NoAttr K a.CH "actors"
def hoF (s : Nat) (ra aa : Addr) : List (Str × V) := [("held", iV s), ("rules", .ref ra), ("actors", .ref aa)]
/-- the house at p, its rules' list at ra; its other lists are none of those that F names -/
structure HouseAt (a : Ad) (F : Addr → Prop) (H : Hp) (p ra : Addr) (h : Wm04.House) : Prop where
  ob : ∃ dx aa, H p = some (.ins a.CH dx (hoF h.state ra aa)) ∧ H aa = some (.lst (iVs h.actors)) ∧ ¬ F aa
  rules : ∃ rs, H ra = some (.lst (refs rs)) ∧ All2 (fun q k => ∃ ne ba, RuleAt a H q k ne ba ∧ ¬ F ne ∧ ¬ F ba) rs h.rules
  fr : F ra
  fo : ∀ b, F b → ∃ o, H b = some o
structure HouseOk (h : Wm04.House) : Prop where
  state : h.state < 4096
  six : h.rules.length ≤ 6
  rules : ∀ r ∈ h.rules, RuleOk r
  three : h.actors.length ≤ 3
  actors : ∀ u ∈ h.actors, User u
  nd : h.actors.Nodup
/-- all but the house and its list of rules stay; tables may grow -/
structure Kept (T : List (Addr × Str)) (p ra : Addr) (H H' : Hp) : Prop where
  stay : ∀ b o, H b = some o → b ≠ p → b ≠ ra → (∀ ps, o ≠ .tbl ps) → H' b = some o
  tabs : LamX.Tabs T H → LamX.Tabs T H'
def iL (l : List Int) : List V := l.map V.int
/-- a call's end: the answer in a new list, the house as it is then -/
def Ends (T : List (Addr × Str)) (a : Ad) (F : Addr → Prop) (p ra : Addr) (H : Hp) (r : Wm04.House × List Int) (Q : VK) : Prop :=
  ∀ (q : Addr) (H' : Hp), H q = none → H' q = some (.lst (iL r.2)) → HouseAt a F H' p ra r.1 → Kept T p ra H H' → Q (.ref q) H'
theorem tabs_same {T : List (Addr × Str)} {H H' : Hp} (e : Same H H') (t : LamX.Tabs T H) : LamX.Tabs T H' := t.ext e
theorem Kept.same {T : List (Addr × Str)} {p ra : Addr} {H H' : Hp} (e : Same H H') : Kept T p ra H H' := ⟨fun b o h _ _ _ => e b o h, fun t => t.ext e⟩
theorem Kept.trans {T : List (Addr × Str)} {p ra : Addr} {H H1 H2 : Hp} (x : Kept T p ra H H1) (y : Kept T p ra H1 H2) : Kept T p ra H H2 :=
  ⟨fun b o h h1 h2 h3 => y.stay b o (x.stay b o h h1 h2 h3) h1 h2 h3, fun t => y.tabs (x.tabs t)⟩
/-- a store at an address that bears neither a table nor a code object -/
theorem Kept.put {T : List (Addr × Str)} {p ra q : Addr} {H : Hp} {o u : HO} (hq : H q = some u) (h1 : ∀ ps, u ≠ .tbl ps) (h2 : ∀ phi, u ≠ .ext phi) (h : q = p ∨ q = ra) : Kept T p ra H (upd H q o) := by
  have ne : ∀ b, b ≠ p → b ≠ ra → b ≠ q := fun b n1 n2 z => by
    rcases h with y | y
    · exact n1 (z.trans y)
    · exact n2 (z.trans y)
  refine ⟨fun b o e n1 n2 _ => (upd_ne (ne b n1 n2)).trans e, fun t x hx => ?_⟩
  obtain ⟨ps, e1, e2, e3⟩ := t x hx
  refine ⟨ps, (upd_ne (ne_of e1 hq fun z => h1 ps z.symm)).trans e1, e2, fun pos cv hc => ?_⟩
  obtain ⟨c, ec, hcc⟩ := e3 pos cv hc
  exact ⟨c, ec, (upd_ne (ne_of hcc hq fun z => h2 _ z.symm)).trans hcc⟩
theorem HouseAt.new {a : Ad} {F : Addr → Prop} {H : Hp} {p ra q : Addr} {h : Wm04.House} (x : HouseAt a F H p ra h) (hq : H q = none) : ¬ F q := fun z => by
  obtain ⟨o, e⟩ := x.fo q z
  rw [hq] at e
  cases e
theorem HouseAt.same {a : Ad} {F : Addr → Prop} {H H' : Hp} {p ra : Addr} {h : Wm04.House} (e : Same H H') (x : HouseAt a F H p ra h) : HouseAt a F H' p ra h := by
  obtain ⟨⟨dx, aa, h1, h2, h3⟩, ⟨rs, h4, h5⟩, fr, fo⟩ := x
  exact ⟨⟨dx, aa, e _ _ h1, e _ _ h2, h3⟩, ⟨rs, e _ _ h4, h5.imp fun _ _ ⟨ne, ba, r, n1, n2⟩ => ⟨ne, ba, r.same e, n1, n2⟩⟩, fr, fun b z => let ⟨o, y⟩ := fo b z; ⟨o, e _ _ y⟩⟩
theorem HouseAt.rulesAt {a : Ad} {F : Addr → Prop} {H : Hp} {p ra : Addr} {h : Wm04.House} (x : HouseAt a F H p ra h) : ∃ rs, H ra = some (.lst (refs rs)) ∧ RulesAt a H rs h.rules := by
  obtain ⟨rs, h1, h2⟩ := x.rules
  exact ⟨rs, h1, h2.imp fun _ _ ⟨ne, ba, r, _⟩ => ⟨ne, ba, r⟩⟩
theorem tracked_put {H : Hp} {q : Addr} {o : HO} {b : Addr} (h : ∃ o, H b = some o) : ∃ u, upd H q o b = some u := by
  by_cases e : b = q
  · rw [e]; exact ⟨o, upd_same⟩
  · rw [upd_ne e]; exact h
/-- the house's own number or actors stored anew -/
theorem HouseAt.store {a : Ad} {F : Addr → Prop} {H : Hp} {p ra dx aa : Addr} {h : Wm04.House} {s' : Nat} {us' : List Nat} (x : HouseAt a F H p ra h) (haa : H aa = some (.lst (iVs us'))) (hne : ¬ F aa) {s0 : Nat} {r0 a0 : Addr} (hp : H p = some (.ins a.CH dx (hoF s0 r0 a0))) :
    HouseAt a F (upd H p (.ins a.CH dx (hoF s' ra aa))) p ra ⟨s', h.rules, us'⟩ := by
  obtain ⟨rs, h4, h5⟩ := x.rules
  have nl : ∀ {b xs}, H b = some (.lst xs) → b ≠ p := fun e => ne_of e hp (by intro z; cases z)
  refine ⟨⟨dx, aa, upd_same, (upd_ne (nl haa)).trans haa, hne⟩, ⟨rs, (upd_ne (nl h4)).trans h4, h5.imp fun q k ⟨ne, ba, r, n1, n2⟩ => ⟨ne, ba, ?_, n1, n2⟩⟩, x.fr, fun b z => tracked_put (x.fo b z)⟩
  obtain ⟨⟨dr, ho⟩, g1, g2⟩ := r
  refine ⟨⟨dr, (upd_ne ?_).trans ho⟩, (upd_ne (nl g1)).trans g1, (upd_ne (nl g2)).trans g2⟩
  intro z
  rw [z, hp] at ho
  injection ho with ho
  injection ho with _ _ ho
  have := congrArg List.length ho
  simp [hoF, ruF] at this
/-- a list of others is written -/
theorem HouseAt.other {a : Ad} {F : Addr → Prop} {H : Hp} {p ra q : Addr} {h : Wm04.House} {xs : List V} {o : HO} (x : HouseAt a F H p ra h) (hq : H q = some (.lst xs)) (hF : F q) (hr : q ≠ ra) : HouseAt a F (upd H q o) p ra h := by
  obtain ⟨⟨dx, aa, h1, h2, h3⟩, ⟨rs, h4, h5⟩, fr, fo⟩ := x
  have nf : ∀ {b}, ¬ F b → b ≠ q := fun n z => n (z ▸ hF)
  refine ⟨⟨dx, aa, (upd_ne (ne_of h1 hq (by intro z; cases z))).trans h1, (upd_ne (nf h3)).trans h2, h3⟩, ⟨rs, (upd_ne hr.symm).trans h4, h5.imp fun q k ⟨ne, ba, r, n1, n2⟩ => ⟨ne, ba, ?_, n1, n2⟩⟩, fr, fun b z => tracked_put (fo b z)⟩
  obtain ⟨⟨dr, ho⟩, g1, g2⟩ := r
  exact ⟨⟨dr, (upd_ne (ne_of ho hq (by intro z; cases z))).trans ho⟩, (upd_ne (nf n1)).trans g1, (upd_ne (nf n2)).trans g2⟩
/-- one more list of others, just made -/
theorem HouseAt.more {a : Ad} {F : Addr → Prop} {H : Hp} {p ra q : Addr} {h : Wm04.House} {o : HO} (x : HouseAt a F H p ra h) (hq : H q = none) : HouseAt a (fun b => F b ∨ b = q) (upd H q o) p ra h := by
  obtain ⟨⟨dx, aa, h1, h2, h3⟩, ⟨rs, h4, h5⟩, fr, fo⟩ := x
  have nq : ∀ {b u}, H b = some u → b ≠ q := fun e => ne_of_none e hq
  have e := new_same (o := o) hq
  refine ⟨⟨dx, aa, e _ _ h1, e _ _ h2, fun z => z.elim h3 (nq h2)⟩, ⟨rs, e _ _ h4, h5.imp fun _ _ ⟨ne, ba, r, n1, n2⟩ => ⟨ne, ba, r.same e, fun z => z.elim n1 (nq r.need), fun z => z.elim n2 (nq r.out)⟩⟩, .inl fr, fun b z => ?_⟩
  rcases z with z | z
  · obtain ⟨u, y⟩ := fo b z
    exact ⟨u, e _ _ y⟩
  · rw [z]; exact ⟨o, upd_same⟩
end Wp

set_option Elab.async false
set_option maxRecDepth 100000
set_option maxHeartbeats 2000000
namespace Wp
open PySem PySem.Spec PyProof.Rows L2 Wc
open Wm04 (place has isUser isRole isRoles rises)
/-! ### plain facts -/
theorem inU (n : Nat) : inV (iV n) uV = isUser n := by
  show (((1 : Int) == (n : Int)) || (((2 : Int) == (n : Int)) || (((3 : Int) == (n : Int)) || false))) = _
  unfold isUser
  rw [Bool.eq_iff_iff]
  simp
  omega
theorem inR (n : Nat) : inV (iV n) rV = isRole n := by
  show (((1 : Int) == (n : Int)) || (((2 : Int) == (n : Int)) || (((3 : Int) == (n : Int)) || (((4 : Int) == (n : Int)) || false)))) = _
  unfold isRole
  rw [Bool.eq_iff_iff]
  simp
  omega
/-- the loop of rises_within -/
def chk (m : Nat) : Nat → List Nat → Bool
  | _, [] => true
  | last, x :: l => if x ≤ last ∨ m < x then false else chk m x l
theorem chk_nil (m last : Nat) : chk m last [] = true := rfl
theorem chk_cons (m last x : Nat) (l : List Nat) : chk m last (x :: l) = if x ≤ last ∨ m < x then false else chk m x l := rfl
theorem chk_eq (m : Nat) : ∀ (l : List Nat) (last : Nat), chk m last l = (rises (last :: l) && l.all fun x => decide (1 ≤ x) && decide (x ≤ m))
  | [], last => rfl
  | x :: l, last => by
    unfold chk
    have ih := chk_eq m l x
    by_cases c : x ≤ last ∨ m < x
    · rw [if_pos c]
      symm
      rw [Bool.and_eq_false_iff]
      rcases c with c | c
      · left
        show (decide (last < x) && rises (x :: l)) = false
        rw [decide_eq_false (by omega)]
        rfl
      · right
        rw [List.all_cons, decide_eq_false (show ¬ x ≤ m by omega)]
        simp
    · rw [if_neg c, ih]
      show _ = ((decide (last < x) && rises (x :: l)) && (x :: l).all _)
      rw [decide_eq_true (show last < x by omega), List.all_cons, decide_eq_true (show 1 ≤ x by omega), decide_eq_true (show x ≤ m by omega)]
      simp
theorem chk_zero (m : Nat) (l : List Nat) : chk m 0 l = (rises l && l.all fun x => decide (1 ≤ x) && decide (x ≤ m)) := by
  rw [chk_eq]
  cases l with
  | nil => rfl
  | cons x l =>
    show ((decide (0 < x) && rises (x :: l)) && _) = _
    by_cases h : 0 < x
    · rw [decide_eq_true h, Bool.true_and]
    · have e : decide (1 ≤ x) = false := decide_eq_false (by omega)
      rw [decide_eq_false h, List.all_cons, e]
      simp
theorem chk_roles (l : List Nat) : chk 4 0 l = isRoles l := by rw [chk_zero]; rfl
theorem chk_users (l : List Nat) : chk 3 0 l = (rises l && l.all isUser) := by rw [chk_zero]; rfl
theorem roles_mem {l : List Nat} (h : isRoles l = true) : ∀ r ∈ l, Role r := by
  unfold isRoles at h
  rw [Bool.and_eq_true, List.all_eq_true] at h
  exact fun r hr => isRole_iff.mp (h.2 r hr)
theorem rises_low : ∀ (l : List Nat) (a : Nat), rises (a :: l) = true → ∀ x ∈ l, a + 1 ≤ x
  | [], _, _, x, hx => absurd hx (by simp)
  | b :: l, a, h, x, hx => by
    have h' : (decide (a < b) && rises (b :: l)) = true := h
    rw [Bool.and_eq_true, decide_eq_true_iff] at h'
    rcases List.mem_cons.mp hx with rfl | hx
    · omega
    · have := rises_low l b h'.2 x hx
      omega
theorem rises_count : ∀ (l : List Nat) (a m : Nat), rises (a :: l) = true → (∀ x ∈ a :: l, x ≤ m) → l.length + a ≤ m
  | [], a, m, _, h => by simpa using h a (by simp)
  | b :: l, a, m, h, hm => by
    have h' : (decide (a < b) && rises (b :: l)) = true := h
    rw [Bool.and_eq_true, decide_eq_true_iff] at h'
    have := rises_count l b m h'.2 (fun x hx => hm x (List.mem_cons_of_mem _ hx))
    simp
    omega
theorem rises_nd : ∀ l : List Nat, rises l = true → l.Nodup
  | [], _ => List.nodup_nil
  | [_], _ => by simp
  | a :: b :: l, h => by
    have h' : (decide (a < b) && rises (b :: l)) = true := h
    rw [Bool.and_eq_true] at h'
    refine List.nodup_cons.mpr ⟨fun hm => ?_, rises_nd (b :: l) h'.2⟩
    have := rises_low (b :: l) a h a hm
    omega
theorem users_len {l : List Nat} (h : (rises l && l.all isUser) = true) : l.length ≤ 3 ∧ (∀ u ∈ l, User u) ∧ l.Nodup := by
  rw [Bool.and_eq_true, List.all_eq_true] at h
  have hu : ∀ u ∈ l, User u := fun u hu => isUser_iff.mp (h.2 u hu)
  refine ⟨?_, hu, rises_nd l h.1⟩
  cases l with
  | nil => simp
  | cons a l =>
    have q := rises_count l a 3 h.1 (fun x hx => (hu x hx).2)
    have := (hu a (by simp)).1
    simp
    omega
section
variable {P : Program} {w : World} {K : PySem.W.Frag} {mg : Str → Option Value} {base : Heap} {a : Ad}
/-! ### House.__init__ -/
def spHouseInit (a : Ad) : Sp := fun vs H Q _ => ∃ p dx : Addr, vs = [.ref p] ∧ H p = some (.ins a.CH dx []) ∧ ∀ (ra : Addr) (H' : Hp), H ra = none → HouseAt a (fun b => b = ra) H' p ra Wm04.init → (∀ b o, H b = some o → b ≠ p → H' b = some o) → Q .non H'
theorem scHouseInit : FnScope ["self"] ["self"] (defScope sHouseInit) := ⟨rfl, rfl, rfl, by decide +kernel, rfl, by decide +kernel, by decide +kernel⟩
theorem ok_houseInit {f : Addr} {fd : FuncData} (F : Fun K "__init__" "House.__init__" sHouseInit f fd) (T : Txt K mg a) (TH : TxtH K mg a) : FnOk P w K mg base CX0 1 f fd ["self"] (spHouseInit a) := by
  refine F.ok scHouseInit (fun vs H Q E h => ?_) (fun cdv A outer s H vs Q E hr h => ?_)
  · obtain ⟨p, dx, rfl, _⟩ := h
    rfl
  · obtain ⟨p, dx, rfl, hp, k⟩ := h
    refine ⟨_, pss_cons (ps_fld (pv 0) pe_int rfl) (pss_cons (ps_fld (pv 0) (pe_lst pa_nil) rfl) (pss_one (ps_fld (pv 0) (pe_callTy call_list_of (by rfl) T.list PyProof.Rows.boot_list (pa_cons (pe_glob rfl T.gU (v := .ref a.U) rfl) pa_nil)) rfl))), ?_⟩
    refine ⟨_, rfl, p, a.CH, dx, [], rfl, hp, TH.cH, TH.nHeld, (by show 0 < 1000; decide), ?_⟩
    refine ⟨(by show 0 ≤ sizeLine; decide), fun ra hra => ?_⟩
    have npr : p ≠ ra := fun z => by rw [← z, upd_same] at hra; cases hra
    have hra0 : H ra = none := by rw [upd_ne npr.symm] at hra; exact hra
    refine ⟨_, rfl, p, a.CH, dx, _, rfl, (upd_ne npr).trans upd_same, TH.cH, TH.nRules, (by show 1 < 1000; decide), ?_⟩
    refine ⟨a.U, _, rfl, .inr (T.sU _), fun aa haa => ?_⟩
    have npa : p ≠ aa := fun z => by rw [← z, upd_same] at haa; cases haa
    have nra : ra ≠ aa := fun z => by rw [← z, upd_ne npr.symm, upd_same] at haa; cases haa
    have haa0 : H aa = none := by rw [upd_ne npa.symm, upd_ne nra.symm, upd_ne npa.symm] at haa; exact haa
    refine ⟨_, rfl, p, a.CH, dx, _, rfl, (upd_ne npa).trans upd_same, TH.cH, TH.nActors, (by show 2 < 1000; decide), ?_⟩
    refine k ra _ hra0 ⟨⟨dx, aa, upd_same, ?_, nra.symm⟩, ⟨[], ?_, All2.nil⟩, rfl, fun b z => ?_⟩ fun b o e hb => ?_
    · rw [upd_ne npa.symm, upd_same]; rfl
    · rw [upd_ne npr.symm, upd_ne nra, upd_ne npr.symm, upd_same]; rfl
    · rw [show b = ra from z, upd_ne npr.symm, upd_ne nra, upd_ne npr.symm, upd_same]; exact ⟨_, rfl⟩
    · rw [upd_ne hb, upd_ne (ne_of_none e haa0), upd_ne hb, upd_ne (ne_of_none e hra0), upd_ne hb]; exact e
/-! ### is_user, is_role, rises_within, are_roles -/
def spIs (g : Nat → Bool) : Sp := fun vs H Q _ => ∃ n : Nat, vs = [iV n] ∧ Q (.bl (g n)) H
theorem scIsUser : FnScope ["number"] ["number"] (defScope sIsUser) := ⟨rfl, rfl, rfl, by decide +kernel, rfl, by decide +kernel, by decide +kernel⟩
theorem scIsRole : FnScope ["number"] ["number"] (defScope sIsRole) := ⟨rfl, rfl, rfl, by decide +kernel, rfl, by decide +kernel, by decide +kernel⟩
theorem ok_isUser {f : Addr} {fd : FuncData} (F : Fun K "is_user" "is_user" sIsUser f fd) (T : Txt K mg a) : FnOk P w K mg base CX0 1 f fd ["number"] (spIs isUser) := by
  refine F.ok scIsUser (fun vs H Q E h => ?_) (fun cdv A outer s H vs Q E hr h => ?_)
  · obtain ⟨n, rfl, _⟩ := h
    rfl
  · obtain ⟨n, rfl, k⟩ := h
    refine ⟨_, pss_one (ps_ret (pe_cmpR op_in_seq (pv 0) (pe_glob rfl T.gU (v := .ref a.U) rfl) rfl)), ?_⟩
    refine ⟨_, rfl, a.U, _, rfl, .inr (T.sU _), rfl, rfl, ?_⟩
    rw [if_neg (by decide), inU]
    exact k
theorem ok_isRole {f : Addr} {fd : FuncData} (F : Fun K "is_role" "is_role" sIsRole f fd) (T : Txt K mg a) : FnOk P w K mg base CX0 1 f fd ["number"] (spIs isRole) := by
  refine F.ok scIsRole (fun vs H Q E h => ?_) (fun cdv A outer s H vs Q E hr h => ?_)
  · obtain ⟨n, rfl, _⟩ := h
    rfl
  · obtain ⟨n, rfl, k⟩ := h
    refine ⟨_, pss_one (ps_ret (pe_cmpR op_in_seq (pv 0) (pe_glob rfl T.gR (v := .ref a.R) rfl) rfl)), ?_⟩
    refine ⟨_, rfl, a.R, _, rfl, .inr (T.sR _), rfl, rfl, ?_⟩
    rw [if_neg (by decide), inR]
    exact k
def spRises (K : PySem.W.Frag) : Sp := fun vs H Q _ => ∃ (p : Addr) (l : List Nat) (m : Nat), vs = [.ref p, iV m] ∧ SqL K H p (iVs l) ∧ Q (.bl (chk m 0 l)) H
theorem scRises : FnScope ["row", "most", "last", "number"] ["row", "most"] (defScope sRises) := ⟨rfl, rfl, rfl, by decide +kernel, rfl, by decide +kernel, by decide +kernel⟩
theorem ok_rises {f : Addr} {fd : FuncData} (F : Fun K "rises_within" "rises_within" sRises f fd) : FnOk P w K mg base CX0 1 f fd ["row", "most"] (spRises K) := by
  refine F.ok scRises (fun vs H Q E h => ?_) (fun cdv A outer s H vs Q E hr h => ?_)
  · obtain ⟨p, l, m, rfl, _⟩ := h
    rfl
  · obtain ⟨p, l, m, rfl, hS, k⟩ := h
    refine ⟨_, pss_cons (ps_set (i := 2) scRises.nd rfl (Or.inl rfl) pe_int)
      (pss_cons (ps_for PassesOwn.never rfl (pi_list (pv 0)) (pg_name (i := 3) scRises.nd rfl (Or.inl rfl))
        (pss_cons (ps_if (PW.pt (pw_or (pt_cmpR op_le (pv 3) (pv 2) (nomark _)) (pw_or1 (pt_cmpR op_gt (pv 3) (pv 1) (nomark _))))) (pss_one (ps_ret pe_bl)) pss_nil)
        (pss_one (ps_set (i := 2) scRises.nd rfl (Or.inl rfl) (pv 3)))))
      (pss_one (ps_ret pe_bl))), ?_⟩
    refine ⟨_, rfl, p, rfl, ⟨_, hS⟩, for_list (K := K) (a := p) (xs := iVs l) (fun i σ H' => H' = H ∧ ∃ (last : Nat) (x : Option V), σ = [some (.ref p), some (iV m), some (iV last), x] ∧ chk m 0 l = chk m last (l.drop i))
      ⟨rfl, 0, none, rfl, rfl⟩ (fun i σ H' _ ⟨e, _⟩ => by rw [e]; exact hS) ?_ ?_⟩
    · rintro i y σ H' hi ⟨rfl, last, x, rfl, ec⟩
      obtain ⟨z, hz, rfl⟩ := iVs_get hi
      have hd : l.drop i = z :: l.drop (i + 1) := by
        rw [List.drop_eq_getElem_cons (List.getElem?_eq_some_iff.mp hz).1, (List.getElem?_eq_some_iff.mp hz).2]
      rw [hd, chk_cons] at ec
      refine ⟨_, rfl, _, rfl, _, _, rfl, rfl, _, rfl, ?_⟩
      by_cases c1 : z ≤ last
      · rw [if_pos (.inl c1)] at ec
        rw [decide_eq_true (show (z : Int) ≤ (last : Int) by omega)]
        refine iteT (iteT ?_)
        rw [ec] at k
        exact k
      · rw [decide_eq_false (show ¬ (z : Int) ≤ (last : Int) by omega)]
        refine iteF ?_
        refine ⟨_, rfl, _, rfl, _, _, rfl, rfl, _, rfl, ?_⟩
        by_cases c2 : m < z
        · rw [if_pos (.inr c2)] at ec
          rw [decide_eq_true (show (m : Int) < (z : Int) by omega)]
          refine iteT ?_
          rw [ec] at k
          exact k
        · rw [if_neg (by omega)] at ec
          rw [decide_eq_false (show ¬ (m : Int) < (z : Int) by omega)]
          refine iteF ?_
          exact ⟨_, rfl, rfl, z, _, rfl, ec⟩
    · rintro σ H' ⟨rfl, last, x, rfl, ec⟩
      rw [iVs_len, List.drop_length, chk_nil] at ec
      rw [ec] at k
      exact k
def spAreRoles (K : PySem.W.Frag) : Sp := fun vs H Q _ => ∃ (p : Addr) (l : List Nat), vs = [.ref p] ∧ SqL K H p (iVs l) ∧ Q (.bl (isRoles l)) H
theorem scAreRoles : FnScope ["row"] ["row"] (defScope sAreRoles) := ⟨rfl, rfl, rfl, by decide +kernel, rfl, by decide +kernel, by decide +kernel⟩
theorem ok_areRoles {f : Addr} {fd : FuncData} (F : Fun K "are_roles" "are_roles" sAreRoles f fd) (T : Txt K mg a) (X1 : Fn P w K mg base "rises_within" 1 ["row", "most"] (spRises K)) : FnOk P w K mg base CX0 2 f fd ["row"] (spAreRoles K) := by
  refine F.ok scAreRoles (fun vs H Q E h => ?_) (fun cdv A outer s H vs Q E hr h => ?_)
  · obtain ⟨p, l, rfl, _⟩ := h
    rfl
  · obtain ⟨p, l, rfl, hS, k⟩ := h
    obtain ⟨f1, fd1, G1, m1, k1, b1⟩ := X1.ex
    refine ⟨_, pss_one (ps_ret (pe_call G1 hr rfl m1 k1 b1 .nil pass0 (pa_cons (pv 0) (pa_cons (pe_callB call_len_seq (by rfl) T.len PySem.boot_len (pa_cons (pe_glob rfl T.gR (v := .ref a.R) rfl) pa_nil)) pa_nil)))), ?_⟩
    refine ⟨_, rfl, a.R, _, rfl, .inr (T.sR _), p, l, 4, rfl, hS, ?_⟩
    rw [chk_roles]
    exact k
end
end Wp

set_option Elab.async false
set_option maxRecDepth 100000
set_option maxHeartbeats 2000000
namespace Wp
open PySem PySem.Spec PyProof.Rows L2 Wc
open Wm04 (place has isUser isRole isRoles rises)
theorem new_ends {T : List (Addr × Str)} {a : Ad} {p ra : Addr} {H : Hp} {h : Wm04.House} {l : List Int} {Q : VK} (k : Ends T a F0 p ra H (h, l) Q) (hh : HouseAt a F0 H p ra h) : ∀ q, H q = none → Q (.ref q) (upd H q (.lst (iL l))) :=
  fun q hq => k q _ hq upd_same (hh.same (new_same hq)) (Kept.same (new_same hq))
section
variable {P : Program} {w : World} {K : PySem.W.Frag} {mg : Str → Option Value} {base : Heap} {a : Ad} {T : List (Addr × Str)}
/-! ### set_roles -/
def spSet (K : PySem.W.Frag) (T : List (Addr × Str)) (a : Ad) : Sp := fun vs H Q _ => ∃ (F0 : Addr → Prop) (p ra l : Addr) (h : Wm04.House) (v : Nat) (r : List Nat), vs = [.ref p, iV v, .ref l] ∧ HouseAt a F0 H p ra h ∧ HouseOk h ∧ SqL K H l (iVs r) ∧ Ends T a F0 p ra H (Wm04.step h (.set v r)) Q
theorem scSetRoles : FnScope ["house", "v", "roles"] ["house", "v", "roles"] (defScope sSetRoles) := ⟨rfl, rfl, rfl, by decide +kernel, rfl, by decide +kernel, by decide +kernel⟩
theorem ok_setRoles {f : Addr} {fd : FuncData} (F : Fun K "set_roles" "set_roles" sSetRoles f fd) (TT : Txt K mg a) (TH : TxtH K mg a) (X1 : Fn P w K mg base "is_user" 1 ["number"] (spIs isUser)) (X2 : Fn P w K mg base "are_roles" 2 ["row"] (spAreRoles K))
    (X3 : Fn P w K mg base "role_bits" 2 ["user", "roles"] (spRoleBitsL K)) (X4 : Fn P w K mg base "role_bits" 2 ["user", "roles"] (spRoleBitsT K)) : FnOk P w K mg base CX0 3 f fd ["house", "v", "roles"] (spSet K T a) := by
  refine F.ok scSetRoles (fun vs H Q E h => ?_) (fun cdv A outer s H vs Q E hr h => ?_)
  · obtain ⟨F0, p, ra, l, h, v, r, rfl, _⟩ := h
    rfl
  · obtain ⟨F0, p, ra, l, h, v, r, rfl, hh, ho, hS, k⟩ := h
    obtain ⟨f1, fd1, G1, m1, k1, b1⟩ := X1.ex
    obtain ⟨f2, fd2, G2, m2, k2, b2⟩ := X2.ex
    obtain ⟨f3, fd3, G3, m3, k3, b3⟩ := X3.ex
    obtain ⟨f4, fd4, G4, m4, k4, b4⟩ := X4.ex
    obtain ⟨t1, n1⟩ := TH.not1
    have hr1 : Room 1 _ := hr.mono (by decide)
    refine ⟨_, pss_cons (ps_if (PW.pt (pw_or (pt_not (pt_val (pe_call G1 hr1 rfl m1 k1 b1 .nil pass0 (pa_cons (pv 1) pa_nil)))) (pw_or1 (pt_not (pt_val (pe_call G2 hr rfl m2 k2 b2 .nil pass0 (pa_cons (pv 2) pa_nil)))))))
        (pss_one (ps_ret (pe_lst (pa_cons (pe_glob rfl n1 (v := .int (-1)) ⟨_, rfl⟩) pa_nil)))) pss_nil)
      (pss_cons (ps_fld (pv 0) (pe_op op_or (pe_op op_and (pe_fld (pv 0) rfl) (pe_un un_inv (pe_call G4 hr rfl m4 k4 b4 .nil pass0 (pa_cons (pv 1) (pa_cons (pe_glob rfl TT.gR (v := .ref a.R) rfl) pa_nil))))) (pe_call G3 hr rfl m3 k3 b3 .nil pass0 (pa_cons (pv 1) (pa_cons (pv 2) pa_nil)))) rfl)
      (pss_one (ps_ret (pe_lst (pa_cons pe_int pa_nil))))), ?_⟩
    have un : Wm04.step h (.set v r) = if isUser v = false ∨ isRoles r = false then (h, [-1]) else ({ h with state := Wm04.setRoles h.state v r }, [0]) := rfl
    rw [un] at k
    refine ⟨_, rfl, v, rfl, _, rfl, ?_⟩
    cases hv : isUser v with
    | false =>
      rw [if_pos (.inl hv)] at k
      refine iteT (iteT ?_)
      exact ⟨(by show 1 ≤ sizeLine; decide), new_ends k hh⟩
    | true =>
      refine iteF ⟨_, rfl, l, r, rfl, hS, _, rfl, ?_⟩
      cases hrr : isRoles r with
      | false =>
        rw [if_pos (.inr hrr)] at k
        refine iteT ?_
        exact ⟨(by show 1 ≤ sizeLine; decide), new_ends k hh⟩
      | true =>
        rw [if_neg (by rw [hv, hrr]; simp)] at k
        refine iteF ?_
        have hU := isUser_iff.mp hv
        have hR := roles_mem hrr
        obtain ⟨⟨dx, aa, hp, haa, nar⟩, ⟨rs, hra, hrs⟩, hfr, hfo⟩ := id hh
        have hR4 : ∀ r ∈ [1, 2, 3, 4], Role r := fun r hr => by unfold Role; simp at hr; omega
        refine ⟨_, rfl, p, a.CH, dx, _, _, rfl, hp, TH.cH, TH.nHeld, rfl, _, rfl, v, a.R, [1, 2, 3, 4], rfl, hU, TT.sR _, hR4, _, rfl, _, _, rfl, rfl, ?_⟩
        refine ⟨_, rfl, _, rfl, v, l, r, rfl, hU, hS, hR, _, _, rfl, rfl, _, rfl, p, a.CH, dx, _, rfl, hp, TH.cH, TH.nHeld, (by show 3 < 1000; decide), ?_⟩
        have eb : V.int (Builtin.bitOr (Builtin.bitAnd (h.state : Int) (Builtin.bitNot (mask v [1, 2, 3, 4] : Int))) (mask v r : Int)) = iV (Wm04.setRoles h.state v r) := by
          rw [bAndNot, bOr, setRoles_eq ho.state hU hR]
          rfl
        have ep : putF "held" (V.int (Builtin.bitOr (Builtin.bitAnd (h.state : Int) (Builtin.bitNot (mask v [1, 2, 3, 4] : Int))) (mask v r : Int))) (hoF h.state ra aa) = hoF (Wm04.setRoles h.state v r) ra aa := by
          rw [eb]
          rfl
        have hh2 : HouseAt a F0 (upd H p (.ins a.CH dx (hoF (Wm04.setRoles h.state v r) ra aa))) p ra { h with state := Wm04.setRoles h.state v r } := hh.store haa nar hp
        have kp : Kept T p ra H (upd H p (.ins a.CH dx (hoF (Wm04.setRoles h.state v r) ra aa))) := Kept.put hp (fun _ z => by cases z) (fun _ z => by cases z) (.inl rfl)
        refine ⟨(by show 1 ≤ sizeLine; decide), fun q hq => ?_⟩
        have ep2 := congrArg (fun fs => upd H p (.ins a.CH dx fs)) ep
        have hq2 : upd H p (.ins a.CH dx (hoF (Wm04.setRoles h.state v r) ra aa)) q = none := by rw [← ep2]; exact hq
        have npq : q ≠ p := fun z => by rw [z, upd_same] at hq2; cases hq2
        have hq0 : H q = none := by rw [upd_ne npq] at hq2; exact hq2
        refine k q _ hq0 upd_same ?_ ?_
        · show HouseAt a F0 (upd (upd H p (.ins a.CH dx (putF "held" _ (hoF h.state ra aa)))) q _) p ra _
          rw [ep]
          exact hh2.same (new_same hq2)
        · show Kept T p ra H (upd (upd H p (.ins a.CH dx (putF "held" _ (hoF h.state ra aa)))) q _)
          rw [ep]
          exact kp.trans (Kept.same (new_same hq2))
/-! ### lists of rules -/
theorem Ends.later {p ra : Addr} {H H1 : Hp} {r : Wm04.House × List Int} {Q : VK} (e : Same H H1) (k : Ends T a F0 p ra H r Q) : Ends T a F0 p ra H1 r Q :=
  fun q H' hq h1 h2 h3 => k q H' (e.free hq) h1 h2 ((Kept.same e).trans h3)
theorem HouseAt.putRules {F0 : Addr → Prop} {H : Hp} {p ra : Addr} {h : Wm04.House} {rs' : List Addr} {ks : List Wm04.Rule} (x : HouseAt a F0 H p ra h) (hr : All2 (fun q k => ∃ ne ba, RuleAt a H q k ne ba ∧ ¬ F0 ne ∧ ¬ F0 ba) rs' ks) :
    HouseAt a F0 (upd H ra (.lst (refs rs'))) p ra { h with rules := ks } := by
  obtain ⟨⟨dx, aa, h1, h2, h3⟩, ⟨rs, h4, h5⟩, fr, fo⟩ := x
  have np : p ≠ ra := ne_of h1 h4 (by intro z; cases z)
  have nf : ∀ {b}, ¬ F0 b → b ≠ ra := fun n z => n (z ▸ fr)
  refine ⟨⟨dx, aa, (upd_ne np).trans h1, (upd_ne (nf h3)).trans h2, h3⟩, ⟨rs', upd_same, hr.imp fun q k ⟨ne, ba, r, n1, n2⟩ => ⟨ne, ba, ?_, n1, n2⟩⟩, fr, fun b z => tracked_put (fo b z)⟩
  obtain ⟨⟨dr, ho⟩, g1, g2⟩ := r
  exact ⟨⟨dr, (upd_ne (ne_of ho h4 (by intro z; cases z))).trans ho⟩, (upd_ne (nf n1)).trans g1, (upd_ne (nf n2)).trans g2⟩
theorem iL_ints (l : List Nat) : iL (Wm04.ints l) = iVs l := by
  unfold iL Wm04.ints iVs iV
  rw [List.map_map]
  rfl
/-- the answer of a new rule -/
def added (h : Wm04.House) (k : Wm04.Rule) : Wm04.House × List Int := if 6 ≤ h.rules.length then (h, [-5]) else ({ h with rules := h.rules ++ [k] }, Wm04.ints [h.rules.length])
def spAddRule (T : List (Addr × Str)) (a : Ad) : Sp := fun vs H Q _ => ∃ (F0 : Addr → Prop) (p ra q ne ba : Addr) (h : Wm04.House) (k : Wm04.Rule), vs = [.ref p, .ref q] ∧ HouseAt a F0 H p ra h ∧ RuleAt a H q k ne ba ∧ ¬ F0 ne ∧ ¬ F0 ba ∧ Ends T a F0 p ra H (added h k) Q
theorem scAddRule : FnScope ["house", "rule"] ["house", "rule"] (defScope sAddRule) := ⟨rfl, rfl, rfl, by decide +kernel, rfl, by decide +kernel, by decide +kernel⟩
theorem ok_addRule {f : Addr} {fd : FuncData} (F : Fun K "add_rule" "add_rule" sAddRule f fd) (TT : Txt K mg a) (TH : TxtH K mg a) : FnOk P w K mg base CX0 1 f fd ["house", "rule"] (spAddRule T a) := by
  refine F.ok scAddRule (fun vs H Q E h => ?_) (fun cdv A outer s H vs Q E hr h => ?_)
  · obtain ⟨F0, p, ra, q, ne, ba, h, k, rfl, _⟩ := h
    rfl
  · obtain ⟨F0, p, ra, q0, ne, ba, h, rule, rfl, hh, hR, n1, n2, k⟩ := h
    obtain ⟨t5, g5⟩ := TH.not5
    obtain ⟨t6, g6⟩ := TH.most
    obtain ⟨⟨dx, aa, hp, haa, nar⟩, ⟨rs, hra, hrs⟩, hfr, hfo⟩ := id hh
    have len := hrs.len
    refine ⟨_, pss_cons (ps_if (pt_cmpR op_ge (pe_callB call_len_seq (by rfl) TT.len PySem.boot_len (pa_cons (pe_fld (pv 0) rfl) pa_nil)) (pe_glob rfl g6 (v := .int 6) ⟨_, rfl⟩) (nomark _)) (pss_one (ps_ret (pe_lst (pa_cons (pe_glob rfl g5 (v := .int (-5)) ⟨_, rfl⟩) pa_nil)))) pss_nil)
      (pss_cons (ps_expr (pe_bm PySem.F.plainAttrs_list PySem.F.slot_list_append PySem.F.type_list_append mt_append (pe_fld (pv 0) rfl) (pa_cons (pv 1) pa_nil)))
      (pss_one (ps_ret (pe_lst (pa_cons (pe_op op_sub (pe_callB call_len_seq (by rfl) TT.len PySem.boot_len (pa_cons (pe_fld (pv 0) rfl) pa_nil)) pe_int) pa_nil))))), ?_⟩
    refine ⟨_, rfl, p, a.CH, dx, _, _, rfl, hp, TH.cH, TH.nRules, rfl, ra, _, rfl, .inl (SqL.of hra), _, _, rfl, rfl, _, rfl, ?_⟩
    unfold added at k
    rw [refs_len, len]
    by_cases c : 6 ≤ h.rules.length
    · rw [if_pos c] at k
      rw [decide_eq_true (show (6 : Int) ≤ ((h.rules.length : Nat) : Int) by omega)]
      refine iteT ?_
      exact ⟨(by show 1 ≤ sizeLine; decide), new_ends k hh⟩
    · rw [if_neg c] at k
      rw [decide_eq_false (show ¬ (6 : Int) ≤ ((h.rules.length : Nat) : Int) by omega)]
      refine iteF ?_
      refine ⟨_, rfl, p, a.CH, dx, _, _, rfl, hp, TH.cH, TH.nRules, rfl, .inl ⟨rfl, _, SqL.of hra⟩, _, rfl, ra, _, _, rfl, rfl, hra, ?_, ?_⟩
      · rw [refs_len, len]
        exact Nat.lt_of_lt_of_le (show h.rules.length < 6 by omega) (by decide)
      · rw [refs_snoc]
        have hh2 : HouseAt a F0 (upd H ra (.lst (refs (rs ++ [q0])))) p ra { h with rules := h.rules ++ [rule] } := hh.putRules (hrs.snoc ⟨ne, ba, hR, n1, n2⟩)
        have kp : Kept T p ra H (upd H ra (.lst (refs (rs ++ [q0])))) := Kept.put hra (fun _ z => by cases z) (fun _ z => by cases z) (.inr rfl)
        have np : p ≠ ra := ne_of hp hra (by intro z; cases z)
        refine ⟨_, rfl, p, a.CH, dx, _, _, rfl, (upd_ne np).trans hp, TH.cH, TH.nRules, rfl, ra, _, rfl, .inl (SqL.of upd_same), _, _, rfl, rfl, (by show 1 ≤ sizeLine; decide), fun q hq => ?_⟩
        have nq : q ≠ ra := fun z => by rw [z, upd_same] at hq; cases hq
        have hq0 : H q = none := by rw [upd_ne nq] at hq; exact hq
        refine k q _ hq0 ?_ (hh2.same (new_same hq)) (kp.trans (Kept.same (new_same hq)))
        rw [upd_same, refs_len, List.length_append, len]
        show some (HO.lst [V.int (((h.rules.length + 1 : Nat) : Int) - 1)]) = some (.lst (iL (Wm04.ints [h.rules.length])))
        have : (((h.rules.length + 1 : Nat) : Int) - 1) = (h.rules.length : Int) := by omega
        rw [this]
        rfl
/-! ### give, take, strike, actors -/
theorem cut_take {l : List Nat} {n : Nat} (h : n ≤ l.length) : cutV (iVs l) none (some (n : Int)) = iVs (l.take n) := by
  unfold cutV
  rw [HT.sIx_none, HT.sIx_nat, iVs_len]
  unfold iVs
  rw [List.map_take, List.drop_zero, Nat.sub_zero, Nat.min_eq_left h]
theorem cut_drop {l : List Nat} {n : Nat} (h : n ≤ l.length) : cutV (iVs l) (some (n : Int)) none = iVs (l.drop n) := by
  unfold cutV
  rw [HT.sIx_none, HT.sIx_nat, iVs_len, Nat.min_eq_left h]
  unfold iVs
  rw [List.map_drop, List.take_of_length_le]
  rw [List.length_drop, List.length_map]
  omega
def spGive (K : PySem.W.Frag) (T : List (Addr × Str)) (a : Ad) : Sp := fun vs H Q _ => ∃ (F0 : Addr → Prop) (p ra l : Addr) (h : Wm04.House) (b r n : Nat) (rl : List Nat), vs = [.ref p, iV b, iV r, iV n, .ref l] ∧ HouseAt a F0 H p ra h ∧ SqL K H l (iVs rl) ∧ Ends T a F0 p ra H (Wm04.step h (.give b r n rl)) Q
theorem scGive : FnScope ["house", "a", "r", "n", "roles", "needed", "barred"] ["house", "a", "r", "n", "roles"] (defScope sGive) := ⟨rfl, rfl, rfl, by decide +kernel, rfl, by decide +kernel, by decide +kernel⟩
theorem ok_give {f : Addr} {fd : FuncData} (F : Fun K "give" "give" sGive f fd) (TT : Txt K mg a) (TH : TxtH K mg a) (X1 : Fn P w K mg base "is_role" 1 ["number"] (spIs isRole)) (X2 : Fn P w K mg base "are_roles" 2 ["row"] (spAreRoles K))
    (X3 : Fn P w K mg base "add_rule" 1 ["house", "rule"] (spAddRule T a)) (X4 : Made P w K mg base a.CR 1 ["self", "gives", "admin", "role", "needed", "barred"] (spRuleInit a)) : FnOk P w K mg base CX0 3 f fd ["house", "a", "r", "n", "roles"] (spGive K T a) := by
  refine F.ok scGive (fun vs H Q E h => ?_) (fun cdv A outer s H vs Q E hr h => ?_)
  · obtain ⟨F0, p, ra, l, h, b, r, n, rl, rfl, _⟩ := h
    rfl
  · obtain ⟨F0, p, ra, l, h, b, r, n, rl, rfl, hh, hS, k⟩ := h
    obtain ⟨f1, fd1, G1, m1, k1, b1⟩ := X1.ex
    obtain ⟨f2, fd2, G2, m2, k2, b2⟩ := X2.ex
    obtain ⟨f3, fd3, G3, m3, k3, b3⟩ := X3.ex
    obtain ⟨f4, fd4, M4, G4, b4⟩ := X4.ex
    obtain ⟨t1, n1⟩ := TH.not1
    have hr1 : Room 1 _ := hr.mono (by decide)
    refine ⟨_, pss_cons (ps_if (PW.pt (pw_or (pt_not (pt_val (pe_call G1 hr1 rfl m1 k1 b1 .nil pass0 (pa_cons (pv 1) pa_nil)))) (pw_or (pt_not (pt_val (pe_call G1 hr1 rfl m1 k1 b1 .nil pass0 (pa_cons (pv 2) pa_nil)))) (pw_or1 (pt_cmpR op_gt (pv 3) (pe_callB call_len_seq (by rfl) TT.len PySem.boot_len (pa_cons (pv 4) pa_nil)) (nomark _))))))
        (pss_one (ps_ret (pe_lst (pa_cons (pe_glob rfl n1 (v := .int (-1)) ⟨_, rfl⟩) pa_nil)))) pss_nil)
      (pss_cons (ps_set (i := 5) scGive.nd rfl (Or.inl rfl) (pe_slice sl_list (pv 4) po_none (po_some (pv 3))))
      (pss_cons (ps_set (i := 6) scGive.nd rfl (Or.inl rfl) (pe_slice sl_list (pv 4) (po_some (pv 3)) po_none))
      (pss_cons (ps_if (PW.pt (pw_or (pt_not (pt_val (pe_call G2 hr rfl m2 k2 b2 .nil pass0 (pa_cons (pv 5) pa_nil)))) (pw_or1 (pt_not (pt_val (pe_call G2 hr rfl m2 k2 b2 .nil pass0 (pa_cons (pv 6) pa_nil)))))))
        (pss_one (ps_ret (pe_lst (pa_cons (pe_glob rfl n1 (v := .int (-1)) ⟨_, rfl⟩) pa_nil)))) pss_nil)
      (pss_one (ps_ret (pe_call G3 hr1 rfl m3 k3 b3 .nil pass0 (pa_cons (pv 0) (pa_cons (pe_make M4 G4 hr rfl TT.gRule b4 .nil pass0 (pa_cons pe_bl (pa_cons (pv 1) (pa_cons (pv 2) (pa_cons (pv 5) (pa_cons (pv 6) pa_nil)))))) pa_nil)))))))), ?_⟩
    have un : Wm04.step h (.give b r n rl) = if isRole b = false ∨ isRole r = false ∨ rl.length < n ∨ isRoles (rl.take n) = false ∨ isRoles (rl.drop n) = false then (h, [-1]) else added h ⟨true, b, rl.take n, rl.drop n, r⟩ := rfl
    rw [un] at k
    refine ⟨_, rfl, b, rfl, _, rfl, ?_⟩
    cases hb : isRole b with
    | false =>
      rw [if_pos (.inl hb)] at k
      exact iteT (iteT ⟨(by show 1 ≤ sizeLine; decide), new_ends k hh⟩)
    | true =>
      refine iteF ⟨_, rfl, r, rfl, _, rfl, ?_⟩
      cases hrr : isRole r with
      | false =>
        rw [if_pos (.inr (.inl hrr))] at k
        exact iteT (iteT ⟨(by show 1 ≤ sizeLine; decide), new_ends k hh⟩)
      | true =>
        refine iteF ⟨_, rfl, _, rfl, l, _, rfl, .inl hS, _, _, rfl, rfl, _, rfl, ?_⟩
        rw [iVs_len]
        by_cases hn : rl.length < n
        · rw [if_pos (.inr (.inr (.inl hn)))] at k
          rw [decide_eq_true (show ((rl.length : Nat) : Int) < (n : Int) by omega)]
          exact iteT ⟨(by show 1 ≤ sizeLine; decide), new_ends k hh⟩
        · rw [decide_eq_false (show ¬ ((rl.length : Nat) : Int) < (n : Int) by omega)]
          refine iteF ?_
          have hn' : n ≤ rl.length := by omega
          refine ⟨_, rfl, _, rfl, _, rfl, l, _, rfl, hS, fun ne hne => ?_⟩
          rw [cut_take hn']
          have e1 : Same H (upd H ne (.lst (iVs (rl.take n)))) := new_same hne
          refine ⟨_, rfl, _, rfl, _, rfl, l, _, rfl, e1.seq hS, fun ba hba => ?_⟩
          rw [cut_drop hn']
          have e2 : Same (upd H ne (.lst (iVs (rl.take n)))) (upd (upd H ne (.lst (iVs (rl.take n)))) ba (.lst (iVs (rl.drop n)))) := new_same hba
          have hba0 : H ba = none := e1.free hba
          generalize hH2 : upd (upd H ne (.lst (iVs (rl.take n)))) ba (.lst (iVs (rl.drop n))) = H2 at e2 ⊢
          have hne2 : H2 ne = some (.lst (iVs (rl.take n))) := e2 _ _ upd_same
          have hba2 : H2 ba = some (.lst (iVs (rl.drop n))) := by rw [← hH2]; exact upd_same
          have e12 := e1.trans e2
          have hh2 := hh.same e12
          have k2' := k.later e12
          have nra1 : ¬ F0 ne := hh.new hne
          have nra2 : ¬ F0 ba := hh.new hba0
          refine ⟨_, rfl, ne, rl.take n, rfl, SqL.of hne2, _, rfl, ?_⟩
          cases h1 : isRoles (rl.take n) with
          | false =>
            rw [if_pos (.inr (.inr (.inr (.inl h1))))] at k2'
            exact iteT (iteT ⟨(by show 1 ≤ sizeLine; decide), new_ends k2' hh2⟩)
          | true =>
            refine iteF ⟨_, rfl, ba, rl.drop n, rfl, SqL.of hba2, _, rfl, ?_⟩
            cases h2 : isRoles (rl.drop n) with
            | false =>
              rw [if_pos (.inr (.inr (.inr (.inr h2))))] at k2'
              exact iteT ⟨(by show 1 ≤ sizeLine; decide), new_ends k2' hh2⟩
            | true =>
              rw [if_neg (by rw [hb, hrr, h1, h2]; simp; omega)] at k2'
              refine iteF ?_
              refine ⟨_, rfl, _, rfl, _, rfl, _, rfl, _, rfl, ?_⟩
              intro q dq nq nd nqd
              refine ⟨q, dq, true, b, r, ne, ba, rfl, upd_same, rfl, ?_⟩
              rw [upd_upd]
              have e3 : Same H2 (upd (upd H2 dq (.own q)) q (.ins a.CR dq (ruF true b r ne ba))) := fun c o z => by
                rw [upd_ne (ne_of_none z nq), upd_ne (ne_of_none z nd)]
                exact z
              exact ⟨F0, p, ra, q, ne, ba, h, ⟨true, b, rl.take n, rl.drop n, r⟩, rfl, hh2.same e3, ⟨⟨dq, upd_same⟩, e3 _ _ hne2, e3 _ _ hba2⟩, nra1, nra2, k2'.later e3⟩
end
end Wp

set_option Elab.async false
set_option maxRecDepth 100000
set_option maxHeartbeats 2000000
namespace Wp
open PySem PySem.Spec PyProof.Rows L2 Wc
open Wm04 (place has isUser isRole isRoles rises)
section
variable {P : Program} {w : World} {K : PySem.W.Frag} {mg : Str → Option Value} {base : Heap} {a : Ad} {T : List (Addr × Str)}
/-! ### take -/
def spTake (T : List (Addr × Str)) (a : Ad) : Sp := fun vs H Q _ => ∃ (F0 : Addr → Prop) (p ra : Addr) (h : Wm04.House) (b r : Nat), vs = [.ref p, iV b, iV r] ∧ HouseAt a F0 H p ra h ∧ Ends T a F0 p ra H (Wm04.step h (.take b r)) Q
theorem scTake : FnScope ["house", "a", "r"] ["house", "a", "r"] (defScope sTake) := ⟨rfl, rfl, rfl, by decide +kernel, rfl, by decide +kernel, by decide +kernel⟩
theorem ok_take {f : Addr} {fd : FuncData} (F : Fun K "take" "take" sTake f fd) (TT : Txt K mg a) (TH : TxtH K mg a) (X1 : Fn P w K mg base "is_role" 1 ["number"] (spIs isRole))
    (X3 : Fn P w K mg base "add_rule" 1 ["house", "rule"] (spAddRule T a)) (X4 : Made P w K mg base a.CR 1 ["self", "gives", "admin", "role", "needed", "barred"] (spRuleInit a)) : FnOk P w K mg base CX0 3 f fd ["house", "a", "r"] (spTake T a) := by
  refine F.ok scTake (fun vs H Q E h => ?_) (fun cdv A outer s H vs Q E hr h => ?_)
  · obtain ⟨F0, p, ra, h, b, r, rfl, _⟩ := h
    rfl
  · obtain ⟨F0, p, ra, h, b, r, rfl, hh, k⟩ := h
    obtain ⟨f1, fd1, G1, m1, k1, b1⟩ := X1.ex
    obtain ⟨f3, fd3, G3, m3, k3, b3⟩ := X3.ex
    obtain ⟨f4, fd4, M4, G4, b4⟩ := X4.ex
    obtain ⟨t1, n1⟩ := TH.not1
    have hr1 : Room 1 _ := hr.mono (by decide)
    refine ⟨_, pss_cons (ps_if (PW.pt (pw_or (pt_not (pt_val (pe_call G1 hr1 rfl m1 k1 b1 .nil pass0 (pa_cons (pv 1) pa_nil)))) (pw_or1 (pt_not (pt_val (pe_call G1 hr1 rfl m1 k1 b1 .nil pass0 (pa_cons (pv 2) pa_nil)))))))
        (pss_one (ps_ret (pe_lst (pa_cons (pe_glob rfl n1 (v := .int (-1)) ⟨_, rfl⟩) pa_nil)))) pss_nil)
      (pss_one (ps_ret (pe_call G3 hr1 rfl m3 k3 b3 .nil pass0 (pa_cons (pv 0) (pa_cons (pe_make M4 G4 hr rfl TT.gRule b4 .nil pass0 (pa_cons pe_bl (pa_cons (pv 1) (pa_cons (pv 2) (pa_cons (pe_lst pa_nil) (pa_cons (pe_lst pa_nil) pa_nil)))))) pa_nil))))), ?_⟩
    have un : Wm04.step h (.take b r) = if isRole b = false ∨ isRole r = false then (h, [-1]) else added h ⟨false, b, [], [], r⟩ := rfl
    rw [un] at k
    refine ⟨_, rfl, b, rfl, _, rfl, ?_⟩
    cases hb : isRole b with
    | false =>
      rw [if_pos (.inl hb)] at k
      exact iteT (iteT ⟨(by show 1 ≤ sizeLine; decide), new_ends k hh⟩)
    | true =>
      refine iteF ⟨_, rfl, r, rfl, _, rfl, ?_⟩
      cases hrr : isRole r with
      | false =>
        rw [if_pos (.inr hrr)] at k
        exact iteT ⟨(by show 1 ≤ sizeLine; decide), new_ends k hh⟩
      | true =>
        rw [if_neg (by rw [hb, hrr]; simp)] at k
        refine iteF ?_
        refine ⟨_, rfl, _, rfl, _, rfl, (by show 0 ≤ sizeLine; decide), fun ne hne => ?_⟩
        have e1 : Same H (upd H ne (.lst [])) := new_same hne
        refine ⟨(by show 0 ≤ sizeLine; decide), fun ba hba => ?_⟩
        have e2 : Same (upd H ne (.lst [])) (upd (upd H ne (.lst [])) ba (.lst [])) := new_same hba
        have hba0 : H ba = none := e1.free hba
        have e12 := e1.trans e2
        generalize hH2 : upd (upd H ne (.lst [])) ba (.lst []) = H2 at e2 e12 ⊢
        have hne2 : H2 ne = some (.lst []) := e2 _ _ upd_same
        have hba2 : H2 ba = some (.lst []) := by rw [← hH2]; exact upd_same
        have nra1 : ¬ F0 ne := hh.new hne
        have nra2 : ¬ F0 ba := hh.new hba0
        intro q dq nq nd nqd
        refine ⟨q, dq, false, b, r, ne, ba, rfl, upd_same, rfl, ?_⟩
        rw [upd_upd]
        have e3 : Same H2 (upd (upd H2 dq (.own q)) q (.ins a.CR dq (ruF false b r ne ba))) := fun c o z => by
          rw [upd_ne (ne_of_none z nq), upd_ne (ne_of_none z nd)]
          exact z
        exact ⟨F0, p, ra, q, ne, ba, h, ⟨false, b, [], [], r⟩, rfl, (hh.same e12).same e3, ⟨⟨dq, upd_same⟩, e3 _ _ hne2, e3 _ _ hba2⟩, nra1, nra2, (k.later e12).later e3⟩
/-! ### strike -/
def spStrike (T : List (Addr × Str)) (a : Ad) : Sp := fun vs H Q _ => ∃ (F0 : Addr → Prop) (p ra : Addr) (h : Wm04.House) (n : Nat), vs = [.ref p, iV n] ∧ HouseAt a F0 H p ra h ∧ HouseOk h ∧ Ends T a F0 p ra H (Wm04.step h (.strike n)) Q
theorem scStrike : FnScope ["house", "k"] ["house", "k"] (defScope sStrike) := ⟨rfl, rfl, rfl, by decide +kernel, rfl, by decide +kernel, by decide +kernel⟩
theorem All2.erase {α β : Type} {R : α → β → Prop} {xs : List α} {ys : List β} (h : All2 R xs ys) (k : Nat) : All2 R (xs.eraseIdx k) (ys.eraseIdx k) := by
  refine ⟨by rw [List.length_eraseIdx, List.length_eraseIdx, h.len], fun i x y h1 h2 => ?_⟩
  rw [List.getElem?_eraseIdx] at h1 h2
  by_cases c : i < k
  · rw [if_pos c] at h1 h2
    exact h.at_ _ _ _ h1 h2
  · rw [if_neg c] at h1 h2
    exact h.at_ _ _ _ h1 h2
theorem ok_strike {f : Addr} {fd : FuncData} (F : Fun K "strike" "strike" sStrike f fd) (TT : Txt K mg a) (TH : TxtH K mg a) : FnOk P w K mg base CX0 1 f fd ["house", "k"] (spStrike T a) := by
  refine F.ok scStrike (fun vs H Q E h => ?_) (fun cdv A outer s H vs Q E hr h => ?_)
  · obtain ⟨F0, p, ra, h, n, rfl, _⟩ := h
    rfl
  · obtain ⟨F0, p, ra, h, n, rfl, hh, ho, k⟩ := h
    obtain ⟨t2, n2⟩ := TH.not2
    obtain ⟨⟨dx, aa, hp, haa, nar⟩, ⟨rs, hra, hrs⟩, hfr, hfo⟩ := id hh
    have len := hrs.len
    refine ⟨_, pss_cons (ps_if (pt_cmpR op_ge (pv 1) (pe_callB call_len_seq (by rfl) TT.len PySem.boot_len (pa_cons (pe_fld (pv 0) rfl) pa_nil)) (nomark _)) (pss_one (ps_ret (pe_lst (pa_cons (pe_glob rfl n2 (v := .int (-2)) ⟨_, rfl⟩) pa_nil)))) pss_nil)
      (pss_cons (ps_expr (pe_bm PySem.F.plainAttrs_list PySem.F.slot_list_pop PySem.F.type_list_pop mt_popAt (pe_fld (pv 0) rfl) (pa_cons (pv 1) pa_nil)))
      (pss_one (ps_ret (pe_lst (pa_cons (pe_callB call_len_seq (by rfl) TT.len PySem.boot_len (pa_cons (pe_fld (pv 0) rfl) pa_nil)) pa_nil))))), ?_⟩
    have un : Wm04.step h (.strike n) = if h.rules.length ≤ n then (h, [-2]) else ({ h with rules := h.rules.take n ++ h.rules.drop (n + 1) }, Wm04.ints [h.rules.length - 1]) := rfl
    rw [un] at k
    refine ⟨_, rfl, _, rfl, p, a.CH, dx, _, _, rfl, hp, TH.cH, TH.nRules, rfl, ra, _, rfl, .inl (SqL.of hra), _, _, rfl, rfl, _, rfl, ?_⟩
    rw [refs_len, len]
    by_cases c : h.rules.length ≤ n
    · rw [if_pos c] at k
      rw [decide_eq_true (show ((h.rules.length : Nat) : Int) ≤ (n : Int) by omega)]
      exact iteT ⟨(by show 1 ≤ sizeLine; decide), new_ends k hh⟩
    · rw [if_neg c] at k
      rw [decide_eq_false (show ¬ ((h.rules.length : Nat) : Int) ≤ (n : Int) by omega)]
      refine iteF ?_
      have hn : n < h.rules.length := by omega
      have hn6 := ho.six
      have hnr : n < rs.length := by omega
      have six : seqIndex? (n : Int) (refs rs).length = some n := by
        rw [refs_len]
        unfold seqIndex?
        simp
        omega
      have hget : (refs rs)[n]? = some (.ref rs[n]) := by unfold refs; rw [List.getElem?_map, List.getElem?_eq_getElem hnr]; rfl
      refine ⟨_, rfl, p, a.CH, dx, _, _, rfl, hp, TH.cH, TH.nRules, rfl, .inl ⟨rfl, _, SqL.of hra⟩, _, rfl, ra, _, _, n, _, rfl, rfl, hra, by omega, by omega, six, hget, ?_⟩
      have er : (refs rs).eraseIdx n = refs (rs.eraseIdx n) := by
        unfold refs
        rw [List.eraseIdx_eq_take_drop_succ, List.eraseIdx_eq_take_drop_succ, List.map_append, List.map_take, List.map_drop]
      rw [er]
      have ee : h.rules.take n ++ h.rules.drop (n + 1) = h.rules.eraseIdx n := (List.eraseIdx_eq_take_drop_succ _ _).symm
      have hh2 : HouseAt a F0 (upd H ra (.lst (refs (rs.eraseIdx n)))) p ra { h with rules := h.rules.take n ++ h.rules.drop (n + 1) } := by
        rw [ee]
        exact hh.putRules (hrs.erase n)
      have kp : Kept T p ra H (upd H ra (.lst (refs (rs.eraseIdx n)))) := Kept.put hra (fun _ z => by cases z) (fun _ z => by cases z) (.inr rfl)
      have np : p ≠ ra := ne_of hp hra (by intro z; cases z)
      refine ⟨_, rfl, p, a.CH, dx, _, _, rfl, (upd_ne np).trans hp, TH.cH, TH.nRules, rfl, ra, _, rfl, .inl (SqL.of upd_same), (by show 1 ≤ sizeLine; decide), fun q hq => ?_⟩
      have nq : q ≠ ra := fun z => by rw [z, upd_same] at hq; cases hq
      have hq0 : H q = none := by rw [upd_ne nq] at hq; exact hq
      refine k q _ hq0 ?_ (hh2.same (new_same hq)) (kp.trans (Kept.same (new_same hq)))
      rw [upd_same, refs_len, List.length_eraseIdx, if_pos hnr, len]
      rfl
/-! ### actors -/
def spActors (T : List (Addr × Str)) (a : Ad) : Sp := fun vs H Q _ => ∃ (F0 : Addr → Prop) (p ra l : Addr) (h : Wm04.House) (us : List Nat), vs = [.ref p, .ref l] ∧ HouseAt a F0 H p ra h ∧ H l = some (.lst (iVs us)) ∧ ¬ F0 l ∧ Ends T a F0 p ra H (Wm04.step h (.actors us)) Q
theorem scSetActors : FnScope ["house", "users"] ["house", "users"] (defScope sSetActors) := ⟨rfl, rfl, rfl, by decide +kernel, rfl, by decide +kernel, by decide +kernel⟩
theorem ok_setActors {f : Addr} {fd : FuncData} (F : Fun K "set_actors" "set_actors" sSetActors f fd) (TT : Txt K mg a) (TH : TxtH K mg a) (X1 : Fn P w K mg base "rises_within" 1 ["row", "most"] (spRises K)) : FnOk P w K mg base CX0 2 f fd ["house", "users"] (spActors T a) := by
  refine F.ok scSetActors (fun vs H Q E h => ?_) (fun cdv A outer s H vs Q E hr h => ?_)
  · obtain ⟨F0, p, ra, l, h, us, rfl, _⟩ := h
    rfl
  · obtain ⟨F0, p, ra, l, h, us, rfl, hh, hl, nl, k⟩ := h
    obtain ⟨f1, fd1, G1, m1, k1, b1⟩ := X1.ex
    obtain ⟨t1, n1⟩ := TH.not1
    obtain ⟨⟨dx, aa, hp, haa, nar⟩, ⟨rs, hra, hrs⟩, hfr, hfo⟩ := id hh
    refine ⟨_, pss_cons (ps_if (pt_not (pt_val (pe_call G1 hr rfl m1 k1 b1 .nil pass0 (pa_cons (pv 1) (pa_cons (pe_callB call_len_seq (by rfl) TT.len PySem.boot_len (pa_cons (pe_glob rfl TT.gU (v := .ref a.U) rfl) pa_nil)) pa_nil)))))
        (pss_one (ps_ret (pe_lst (pa_cons (pe_glob rfl n1 (v := .int (-1)) ⟨_, rfl⟩) pa_nil)))) pss_nil)
      (pss_cons (ps_fld (pv 0) (pv 1) rfl) (pss_one (ps_ret (pe_lst (pa_cons pe_int pa_nil))))), ?_⟩
    have un : Wm04.step h (.actors us) = if rises us = false ∨ us.all isUser = false then (h, [-1]) else ({ h with actors := us }, [0]) := rfl
    rw [un] at k
    refine ⟨_, rfl, a.U, _, rfl, .inr (TT.sU _), l, us, 3, rfl, SqL.of hl, _, rfl, ?_⟩
    rw [chk_users]
    cases c : (rises us && us.all isUser) with
    | false =>
      rw [if_pos (by rw [Bool.and_eq_false_iff] at c; exact c)] at k
      exact iteT ⟨(by show 1 ≤ sizeLine; decide), new_ends k hh⟩
    | true =>
      rw [if_neg (by rw [Bool.and_eq_true] at c; rw [c.1, c.2]; simp)] at k
      refine iteF ?_
      refine ⟨_, rfl, _, rfl, p, a.CH, dx, _, rfl, hp, TH.cH, TH.nActors, (by show 3 < 1000; decide), ?_⟩
      have hh2 : HouseAt a F0 (upd H p (.ins a.CH dx (hoF h.state ra l))) p ra { h with actors := us } := hh.store hl nl hp
      have kp : Kept T p ra H (upd H p (.ins a.CH dx (hoF h.state ra l))) := Kept.put hp (fun _ z => by cases z) (fun _ z => by cases z) (.inl rfl)
      refine ⟨(by show 1 ≤ sizeLine; decide), fun q hq => ?_⟩
      have hq2 : upd H p (.ins a.CH dx (hoF h.state ra l)) q = none := hq
      have npq : q ≠ p := fun z => by rw [z, upd_same] at hq2; cases hq2
      have hq0 : H q = none := by rw [upd_ne npq] at hq2; exact hq2
      exact k q _ hq0 upd_same (hh2.same (new_same hq2)) (kp.trans (Kept.same (new_same hq2)))
/-! ### tell_row -/
def spTellRow : Sp := fun vs H Q _ => ∃ (p : Addr) (l : List Nat), vs = [.ref p] ∧ H p = some (.lst (iVs l)) ∧ l.length ≤ 1000 ∧ ∀ (q : Addr) (H' : Hp), Same H H' → H q = none → H' q = some (.lst (iVs (l.length :: l))) → Q (.ref q) H'
theorem scTellRow : FnScope ["row"] ["row"] (defScope sTellRow) := ⟨rfl, rfl, rfl, by decide +kernel, rfl, by decide +kernel, by decide +kernel⟩
theorem ok_tellRow {f : Addr} {fd : FuncData} (F : Fun K "tell_row" "tell_row" sTellRow f fd) (TT : Txt K mg a) : FnOk P w K mg base CX0 1 f fd ["row"] spTellRow := by
  refine F.ok scTellRow (fun vs H Q E h => ?_) (fun cdv A outer s H vs Q E hr h => ?_)
  · obtain ⟨p, l, rfl, _⟩ := h
    rfl
  · obtain ⟨p, l, rfl, hp, hl, k⟩ := h
    refine ⟨_, pss_one (ps_ret (pe_op op_cat (pe_lst (pa_cons (pe_callB call_len_seq (by rfl) TT.len PySem.boot_len (pa_cons (pv 0) pa_nil)) pa_nil)) (pv 0))), ?_⟩
    refine ⟨_, rfl, p, _, rfl, .inl (SqL.of hp), (by show 1 ≤ sizeLine; decide), fun q1 hq1 => ?_⟩
    refine ⟨_, rfl, q1, p, _, _, rfl, rfl, upd_same, new_same hq1 _ _ hp, ?_, fun q hq => ?_⟩
    · rw [iVs_len]
      exact Nat.le_trans (show [V.int _].length + _ ≤ 1001 by simp; omega) (by decide)
    · refine k q _ ((new_same hq1).trans (new_same hq)) ((new_same hq1).free hq) ?_
      rw [upd_same, iVs_len]
      rfl
end
end Wp

set_option Elab.async false
set_option maxRecDepth 100000
set_option maxHeartbeats 2000000
namespace Wp
open PySem PySem.Spec PyProof.Rows L2 Wc
open Wm04 (place has isUser isRole isRoles rises)
theorem told_row (l : List Nat) : iL (Wm04.told l) = iVs (l.length :: l) := iL_ints (l.length :: l)
theorem mv_one {rs : List Wm04.Rule} {k : Nat} {rule : Wm04.Rule} (hk : rs[k]? = some rule) (hb : Role rule.by_) {u : Nat} (hu : User u) (s v : Nat) : (mv rule [u] v).may s = Wm04.may rs s ⟨k, u, v⟩ := by
  rw [mv_may hk hb (us := [u]) (by simp) (fun x hx => by rw [List.mem_singleton.mp hx]; exact hu) s v]
  unfold doer
  rw [hk]
  dsimp only
  rw [List.find?_cons]
  cases hh : has s u rule.by_ with
  | true => rfl
  | false =>
    rw [may_has hk hh]
    rfl
section
variable {P : Program} {w : World} {K : PySem.W.Frag} {mg : Str → Option Value} {base : Heap} {a : Ad} {T : List (Addr × Str)}
/-! ### do_step -/
def spDo (T : List (Addr × Str)) (a : Ad) : Sp := fun vs H Q _ => ∃ (F0 : Addr → Prop) (p ra : Addr) (h : Wm04.House) (n u v : Nat), vs = [.ref p, iV n, iV u, iV v] ∧ HouseAt a F0 H p ra h ∧ HouseOk h ∧ Ends T a F0 p ra H (Wm04.step h (.do_ n u v)) Q
theorem scDoStep : FnScope ["house", "k", "u", "v", "move"] ["house", "k", "u", "v"] (defScope sDoStep) := ⟨rfl, rfl, rfl, by decide +kernel, rfl, by decide +kernel, by decide +kernel⟩
theorem ok_doStep {f : Addr} {fd : FuncData} (F : Fun K "do_step" "do_step" sDoStep f fd) (TT : Txt K mg a) (TH : TxtH K mg a) (X1 : Fn P w K mg base "is_user" 1 ["number"] (spIs isUser)) (X2 : Made P w K mg base a.CM 3 ["self", "k", "rule", "doers", "whom"] (spMoveInit a))
    (X3 : Fn P w K mg base "tell_row" 1 ["row"] spTellRow) (X4 : Mth P w K mg base a.CM "may_be_done" 1 ["self", "held"] (spMay a)) (X5 : Mth P w K mg base a.CM "held_behind" 1 ["self", "held"] (spBehind a)) (X6 : Fn P w K mg base "roles_held" 2 ["held", "user"] spRolesHeld) : FnOk P w K mg base CX0 5 f fd ["house", "k", "u", "v"] (spDo T a) := by
  refine F.ok scDoStep (fun vs H Q E h => ?_) (fun cdv A outer s H vs Q E hr h => ?_)
  · obtain ⟨F0, p, ra, h, n, u, v, rfl, _⟩ := h
    rfl
  · obtain ⟨F0, p, ra, h, n, u, v, rfl, hh, ho, k⟩ := h
    obtain ⟨f1, fd1, G1, m1, k1, b1⟩ := X1.ex
    obtain ⟨f2, fd2, M2, G2, b2⟩ := X2.ex
    obtain ⟨f3, fd3, G3, m3, k3, b3⟩ := X3.ex
    obtain ⟨f4, fd4, M4, G4, b4⟩ := X4.ex
    obtain ⟨f5, fd5, M5, G5, b5⟩ := X5.ex
    obtain ⟨f6, fd6, G6, m6, k6, b6⟩ := X6.ex
    obtain ⟨t1, n1⟩ := TH.not1
    obtain ⟨t2, n2⟩ := TH.not2
    obtain ⟨t6, n6⟩ := TH.not6
    have hr1 : Room 1 _ := hr.mono (by decide)
    have hr2 : Room 2 _ := hr.mono (by decide)
    obtain ⟨⟨dx, aa, hp, haa, nar⟩, ⟨rs, hra, hrs⟩, hfr, hfo⟩ := id hh
    have len := hrs.len
    refine ⟨_, pss_cons (ps_if (PW.pt (pw_or (pt_not (pt_val (pe_call G1 hr1 rfl m1 k1 b1 .nil pass0 (pa_cons (pv 2) pa_nil)))) (pw_or1 (pt_not (pt_val (pe_call G1 hr1 rfl m1 k1 b1 .nil pass0 (pa_cons (pv 3) pa_nil))))))) (pss_one (ps_ret (pe_lst (pa_cons (pe_glob rfl n1 (v := .int (-1)) ⟨_, rfl⟩) pa_nil)))) pss_nil)
      (pss_cons (ps_if (pt_cmpR op_ge (pv 1) (pe_callB call_len_seq (by rfl) TT.len PySem.boot_len (pa_cons (pe_fld (pv 0) rfl) pa_nil)) (nomark _)) (pss_one (ps_ret (pe_lst (pa_cons (pe_glob rfl n2 (v := .int (-2)) ⟨_, rfl⟩) pa_nil)))) pss_nil)
      (pss_cons (ps_set (i := 4) scDoStep.nd rfl (Or.inl rfl) (pe_make M2 G2 hr rfl TT.gMove b2 .nil pass0 (pa_cons (pv 1) (pa_cons (pe_ix ix_list (pe_fld (pv 0) rfl) (pv 1) (fun _ _ => rfl)) (pa_cons (pe_lst (pa_cons (pv 2) pa_nil)) (pa_cons (pv 3) pa_nil))))))
      (pss_cons (ps_if (pt_not (pt_val (pe_meth (pv 4) TT.cM M4 G4 hr1 b4 .nil pass0 (pa_cons (pe_fld (pv 0) rfl) pa_nil)))) (pss_one (ps_ret (pe_lst (pa_cons (pe_glob rfl n6 (v := .int (-6)) ⟨_, rfl⟩) pa_nil)))) pss_nil)
      (pss_cons (ps_fld (pv 0) (pe_meth (pv 4) TT.cM M5 G5 hr1 b5 .nil pass0 (pa_cons (pe_fld (pv 0) rfl) pa_nil)) rfl)
      (pss_one (ps_ret (pe_call G3 hr1 rfl m3 k3 b3 .nil pass0 (pa_cons (pe_call G6 hr2 rfl m6 k6 b6 .nil pass0 (pa_cons (pe_fld (pv 0) rfl) (pa_cons (pv 3) pa_nil))) pa_nil)))))))), ?_⟩
    have unf : Wm04.step h (.do_ n u v) = if isUser u = false ∨ isUser v = false then (h, [-1]) else if h.rules.length ≤ n then (h, [-2]) else if Wm04.may h.rules h.state ⟨n, u, v⟩ = false then (h, [-6]) else
      ({ h with state := Wm04.did h.rules h.state ⟨n, u, v⟩ }, Wm04.told (Wm04.rolesOf (Wm04.did h.rules h.state ⟨n, u, v⟩) v)) := rfl
    rw [unf] at k
    refine ⟨_, rfl, u, rfl, _, rfl, ?_⟩
    cases hu : isUser u with
    | false =>
      rw [if_pos (.inl hu)] at k
      exact iteT (iteT ⟨(by show 1 ≤ sizeLine; decide), new_ends k hh⟩)
    | true =>
      refine iteF ⟨_, rfl, v, rfl, _, rfl, ?_⟩
      cases hv : isUser v with
      | false =>
        rw [if_pos (.inr hv)] at k
        exact iteT ⟨(by show 1 ≤ sizeLine; decide), new_ends k hh⟩
      | true =>
        rw [if_neg (by rw [hu, hv]; simp)] at k
        refine iteF ?_
        have hU := isUser_iff.mp hu
        have hV := isUser_iff.mp hv
        refine ⟨_, rfl, _, rfl, p, a.CH, dx, _, _, rfl, hp, TH.cH, TH.nRules, rfl, ra, _, rfl, .inl (SqL.of hra), _, _, rfl, rfl, _, rfl, ?_⟩
        rw [refs_len, len]
        by_cases c : h.rules.length ≤ n
        · rw [if_pos c] at k
          rw [decide_eq_true (show ((h.rules.length : Nat) : Int) ≤ (n : Int) by omega)]
          exact iteT ⟨(by show 1 ≤ sizeLine; decide), new_ends k hh⟩
        · rw [if_neg c] at k
          rw [decide_eq_false (show ¬ ((h.rules.length : Nat) : Int) ≤ (n : Int) by omega)]
          refine iteF ?_
          have hn : n < h.rules.length := by omega
          have hrule : h.rules[n]? = some h.rules[n] := List.getElem?_eq_getElem hn
          have rok := ho.rules _ (List.mem_of_getElem? hrule)
          obtain ⟨rp, hrp, ne, ba, hR, _⟩ := hrs.left hrule
          have hi : (refs rs)[n]? = some (.ref rp) := by unfold refs; rw [List.getElem?_map, hrp]; rfl
          -- move = Move(k, house.rules[k], [u], v)
          refine ⟨_, rfl, _, rfl, p, a.CH, dx, _, _, rfl, hp, TH.cH, TH.nRules, rfl, _, rfl, ra, _, _, _, rfl, rfl, SqL.of hra, atI_nat hi, ?_⟩
          refine ⟨_, rfl, (by show 1 ≤ sizeLine; decide), fun dl hdl => ⟨_, rfl, ?_⟩⟩
          have e0 : Same H (upd H dl (.lst [iV u])) := new_same hdl
          intro q dq nq ndq nne
          have e1 : Same (upd H dl (.lst [iV u])) (upd (upd (upd H dl (.lst [iV u])) dq (.own q)) q (.ins a.CM dq [])) := fun b o e => by
            rw [upd_ne (ne_of_none e nq), upd_ne (ne_of_none e ndq)]
            exact e
          refine ⟨q, dq, rp, dl, ne, ba, n, v, [u], h.rules[n], rfl, upd_same, hR.same (e0.trans e1), rok, e1 _ _ upd_same, fun x hx => by rw [List.mem_singleton.mp hx]; exact hU, (by show 1 ≤ 3; decide), hV, fun H2 k2' _ hq2 => ⟨rfl, ?_⟩⟩
          have e2 : Same H H2 := fun b o z => k2' b o ((e0.trans e1) b o z) (ne_of_none (e0 b o z) nq)
          have hp1 := e2 _ _ hp
          have hh1 := hh.same e2
          have k1' := k.later e2
          -- if not move.may_be_done(house.held)
          refine ⟨_, rfl, q, dq, _, rfl, hq2, rfl, _, rfl, p, a.CH, dx, _, _, rfl, hp1, TH.cH, TH.nHeld, rfl, q, dq, dl, h.state, n, h.rules[n].by_, v, mv h.rules[n] [u] v, rfl, hq2, _, rfl, ?_⟩
          rw [mv_one hrule rok.by_ hU]
          cases hm : Wm04.may h.rules h.state ⟨n, u, v⟩ with
          | false =>
            rw [if_pos hm] at k1'
            exact iteT ⟨(by show 1 ≤ sizeLine; decide), new_ends k1' hh1⟩
          | true =>
            rw [if_neg (by rw [hm]; simp)] at k1'
            refine iteF ?_
            have hd := mv_did (us := [u]) hrule ho.state hV rok.role hm
            -- house.held = move.held_behind(house.held)
            refine ⟨_, rfl, q, dq, _, rfl, hq2, rfl, _, rfl, p, a.CH, dx, _, _, rfl, hp1, TH.cH, TH.nHeld, rfl, q, dq, dl, h.state, n, h.rules[n].by_, v, place v h.rules[n].role, mv h.rules[n] [u] v, rfl, hq2, ho.state, place_lt hV rok.role, mv_change _ _ _, ?_⟩
            rw [← hd]
            refine ⟨_, rfl, p, a.CH, dx, _, rfl, hp1, TH.cH, TH.nHeld, (by show 3 < 1000; decide), ?_⟩
            have hh2 : HouseAt a F0 (upd H2 p (.ins a.CH dx (hoF (Wm04.did h.rules h.state ⟨n, u, v⟩) ra aa))) p ra { h with state := Wm04.did h.rules h.state ⟨n, u, v⟩ } := hh1.store (e2 _ _ haa) nar hp1
            have kp : Kept T p ra H2 (upd H2 p (.ins a.CH dx (hoF (Wm04.did h.rules h.state ⟨n, u, v⟩) ra aa))) := Kept.put hp1 (fun _ z => by cases z) (fun _ z => by cases z) (.inl rfl)
            -- tell_row(roles_held(house.held, v))
            have hp3 : upd H2 p (.ins a.CH dx (hoF (Wm04.did h.rules h.state ⟨n, u, v⟩) ra aa)) p = some (.ins a.CH dx (hoF (Wm04.did h.rules h.state ⟨n, u, v⟩) ra aa)) := upd_same
            refine ⟨_, rfl, p, a.CH, dx, _, _, rfl, hp3, TH.cH, TH.nHeld, rfl, _, rfl, Wm04.did h.rules h.state ⟨n, u, v⟩, v, rfl, hV, fun r hr2 => ?_⟩
            have hr3 : upd H2 p (.ins a.CH dx (hoF (Wm04.did h.rules h.state ⟨n, u, v⟩) ra aa)) r = none := hr2
            have lr : (Wm04.rolesOf (Wm04.did h.rules h.state ⟨n, u, v⟩) v).length ≤ 4 := List.length_filter_le _ _
            refine ⟨r, _, rfl, upd_same, by omega, fun q2 H3 e3 hq2' hl3 => ?_⟩
            have e23 := (new_same (o := .lst (iVs (Wm04.rolesOf (Wm04.did h.rules h.state ⟨n, u, v⟩) v))) hr3).trans e3
            have hq3 : upd H2 p (.ins a.CH dx (hoF (Wm04.did h.rules h.state ⟨n, u, v⟩) ra aa)) q2 = none := (new_same hr3).free hq2'
            have npq : q2 ≠ p := fun z => by rw [z, upd_same] at hq3; cases hq3
            have hq4 : H2 q2 = none := by rw [upd_ne npq] at hq3; exact hq3
            refine k1' q2 H3 hq4 ?_ (hh2.same e23) (kp.trans (Kept.same e23))
            rw [told_row]
            exact hl3
/-! ### tell_roles -/
def spTellRoles (T : List (Addr × Str)) (a : Ad) : Sp := fun vs H Q _ => ∃ (F0 : Addr → Prop) (p ra : Addr) (h : Wm04.House) (v : Nat), vs = [.ref p, iV v] ∧ HouseAt a F0 H p ra h ∧ Ends T a F0 p ra H (Wm04.step h (.roles v)) Q
theorem scTellRoles : FnScope ["house", "v"] ["house", "v"] (defScope sTellRoles) := ⟨rfl, rfl, rfl, by decide +kernel, rfl, by decide +kernel, by decide +kernel⟩
theorem ok_tellRoles {f : Addr} {fd : FuncData} (F : Fun K "tell_roles" "tell_roles" sTellRoles f fd) (TT : Txt K mg a) (TH : TxtH K mg a) (X1 : Fn P w K mg base "is_user" 1 ["number"] (spIs isUser)) (X3 : Fn P w K mg base "tell_row" 1 ["row"] spTellRow) (X6 : Fn P w K mg base "roles_held" 2 ["held", "user"] spRolesHeld) : FnOk P w K mg base CX0 3 f fd ["house", "v"] (spTellRoles T a) := by
  refine F.ok scTellRoles (fun vs H Q E h => ?_) (fun cdv A outer s H vs Q E hr h => ?_)
  · obtain ⟨F0, p, ra, h, v, rfl, _⟩ := h
    rfl
  · obtain ⟨F0, p, ra, h, v, rfl, hh, k⟩ := h
    obtain ⟨f1, fd1, G1, m1, k1, b1⟩ := X1.ex
    obtain ⟨f3, fd3, G3, m3, k3, b3⟩ := X3.ex
    obtain ⟨f6, fd6, G6, m6, k6, b6⟩ := X6.ex
    obtain ⟨t1, n1⟩ := TH.not1
    have hr1 : Room 1 _ := hr.mono (by decide)
    obtain ⟨dx, aa, hp, haa, nar⟩ := hh.ob
    refine ⟨_, pss_cons (ps_if (pt_not (pt_val (pe_call G1 hr1 rfl m1 k1 b1 .nil pass0 (pa_cons (pv 1) pa_nil)))) (pss_one (ps_ret (pe_lst (pa_cons (pe_glob rfl n1 (v := .int (-1)) ⟨_, rfl⟩) pa_nil)))) pss_nil)
      (pss_one (ps_ret (pe_call G3 hr1 rfl m3 k3 b3 .nil pass0 (pa_cons (pe_call G6 hr rfl m6 k6 b6 .nil pass0 (pa_cons (pe_fld (pv 0) rfl) (pa_cons (pv 1) pa_nil))) pa_nil)))), ?_⟩
    have un : Wm04.step h (.roles v) = (h, if isUser v = false then [-1] else Wm04.told (Wm04.rolesOf h.state v)) := rfl
    rw [un] at k
    refine ⟨_, rfl, v, rfl, _, rfl, ?_⟩
    cases hv : isUser v with
    | false =>
      rw [if_pos hv] at k
      exact iteT ⟨(by show 1 ≤ sizeLine; decide), new_ends k hh⟩
    | true =>
      rw [if_neg (by rw [hv]; simp)] at k
      refine iteF ?_
      refine ⟨_, rfl, p, a.CH, dx, _, _, rfl, hp, TH.cH, TH.nHeld, rfl, _, rfl, h.state, v, rfl, isUser_iff.mp hv, fun r hr2 => ?_⟩
      have lr : (Wm04.rolesOf h.state v).length ≤ 4 := List.length_filter_le _ _
      refine ⟨r, _, rfl, upd_same, by omega, fun q H3 e3 hq hl3 => ?_⟩
      have e23 := (new_same (o := .lst (iVs (Wm04.rolesOf h.state v))) hr2).trans e3
      refine k q H3 ((new_same hr2).free hq) ?_ (hh.same e23) (Kept.same e23)
      rw [told_row]
      exact hl3
/-! ### tell_rule, tell_rules -/
def ruleTold (k : Wm04.Rule) : List Nat := [if k.gives = true then 1 else 0, k.by_, k.role, k.need.length] ++ (k.need ++ (k.without.length :: k.without))
def spTellRule (a : Ad) : Sp := fun vs H Q _ => ∃ (rp ne ba : Addr) (rule : Wm04.Rule), vs = [.ref rp] ∧ RuleAt a H rp rule ne ba ∧ RuleOk rule ∧ ∀ (q : Addr) (H' : Hp), Same H H' → H q = none → H' q = some (.lst (iVs (ruleTold rule))) → Q (.ref q) H'
theorem scTellRule : FnScope ["rule", "gives"] ["rule"] (defScope sTellRule) := ⟨rfl, rfl, rfl, by decide +kernel, rfl, by decide +kernel, by decide +kernel⟩
theorem iVs_app (l m : List Nat) : iVs (l ++ m) = iVs l ++ iVs m := List.map_append
theorem ruleTold_len {k : Wm04.Rule} (ok : RuleOk k) : (ruleTold k).length ≤ 13 := by
  have := ok.nl
  have := ok.ol
  unfold ruleTold
  simp
  omega
theorem ok_tellRule {f : Addr} {fd : FuncData} (F : Fun K "tell_rule" "tell_rule" sTellRule f fd) (TT : Txt K mg a) (X3 : Fn P w K mg base "tell_row" 1 ["row"] spTellRow) : FnOk P w K mg base CX0 2 f fd ["rule"] (spTellRule a) := by
  refine F.ok scTellRule (fun vs H Q E h => ?_) (fun cdv A outer s H vs Q E hr h => ?_)
  · obtain ⟨rp, ne, ba, rule, rfl, _⟩ := h
    rfl
  · obtain ⟨rp, ne, ba, rule, rfl, R, ok, k⟩ := h
    obtain ⟨f3, fd3, G3, m3, k3, b3⟩ := X3.ex
    obtain ⟨dr, h1⟩ := R.ob
    refine ⟨_, pss_cons (ps_set (i := 1) scTellRule.nd rfl (Or.inl rfl) (pe_ifExp (pt_val (pe_fld (pv 0) rfl)) pe_int pe_int))
      (pss_one (ps_ret (pe_op op_cat (pe_op op_cat (pe_lst (pa_cons (pv 1) (pa_cons (pe_fld (pv 0) rfl) (pa_cons (pe_fld (pv 0) rfl) pa_nil)))) (pe_call G3 hr rfl m3 k3 b3 .nil pass0 (pa_cons (pe_fld (pv 0) rfl) pa_nil))) (pe_call G3 hr rfl m3 k3 b3 .nil pass0 (pa_cons (pe_fld (pv 0) rfl) pa_nil))))), ?_⟩
    have nl := ok.nl
    have ol := ok.ol
    have go : ∀ g : Nat, g = (if rule.gives = true then 1 else 0) → ∀ σ : L2.St, σ = [some (.ref rp), some (iV g)] →
        tRet (tOp rCat (tOp rCat (tLst (tCons (tVar 1) (tCons (tFld K (tVar 0) "admin") (tCons (tFld K (tVar 0) "role") tNil)))) (tCall spTellRow [] E0 (tCons (tFld K (tVar 0) "needed") tNil))) (tCall spTellRow [] E0 (tCons (tFld K (tVar 0) "barred") tNil))) { nx := fun _ H' => Q .non H', rt := Q } σ H := by
      intro g eg σ es
      subst es
      refine ⟨_, rfl, _, rfl, rp, a.CR, dr, _, _, rfl, h1, TT.cR, TT.nAdmin, rfl, _, rfl, rp, a.CR, dr, _, _, rfl, h1, TT.cR, TT.nRole, rfl, (by show 3 ≤ sizeLine; decide), fun q1 hq1 => ?_⟩
      have e1 : Same H (upd H q1 (.lst [iV g, iV rule.by_, iV rule.role])) := new_same hq1
      refine ⟨_, rfl, rp, a.CR, dr, _, _, rfl, e1 _ _ h1, TT.cR, TT.nNeeded, rfl, ne, rule.need, rfl, e1 _ _ R.need, by omega, fun q2 H2 e2 hq2 hl2 => ?_⟩
      refine ⟨q1, q2, _, _, rfl, rfl, e2 _ _ upd_same, hl2, ?_, fun q3 hq3 => ?_⟩
      · rw [iVs_len]
        exact Nat.le_trans (show [V.int _, iV _, iV _].length + _ ≤ 8 by simp; omega) (by decide)
      have e3 := (e1.trans e2).trans (new_same (o := .lst ([iV g, iV rule.by_, iV rule.role] ++ iVs (rule.need.length :: rule.need))) hq3)
      refine ⟨_, rfl, rp, a.CR, dr, _, _, rfl, e3 _ _ h1, TT.cR, TT.nBarred, rfl, ba, rule.without, rfl, e3 _ _ R.out, by omega, fun q4 H4 e4 hq4 hl4 => ?_⟩
      refine ⟨q3, q4, _, _, rfl, rfl, e4 _ _ upd_same, hl4, ?_, fun q5 hq5 => ?_⟩
      · rw [List.length_append, iVs_len, iVs_len]
        exact Nat.le_trans (show [V.int _, iV _, iV _].length + _ + _ ≤ 20 by simp; omega) (by decide)
      refine k q5 _ ((e3.trans e4).trans (new_same hq5)) ((e3.trans e4).free hq5) ?_
      rw [upd_same]
      unfold ruleTold
      rw [← eg]
      simp [iVs]
    refine ⟨_, rfl, rp, a.CR, dr, _, _, rfl, h1, TT.cR, TT.nGives, rfl, _, rfl, ?_⟩
    cases hg : rule.gives with
    | true =>
      refine iteT ?_
      exact go 1 (by rw [hg]; rfl) _ rfl
    | false =>
      refine iteF ?_
      exact go 0 (by rw [hg]; rfl) _ rfl
def spTellRules (T : List (Addr × Str)) (a : Ad) : Sp := fun vs H Q _ => ∃ (F0 : Addr → Prop) (p ra : Addr) (h : Wm04.House), vs = [.ref p] ∧ HouseAt a F0 H p ra h ∧ HouseOk h ∧ Ends T a F0 p ra H (Wm04.step h .now) Q
theorem scTellRules : FnScope ["house", "told", "rule"] ["house"] (defScope sTellRules) := ⟨rfl, rfl, rfl, by decide +kernel, rfl, by decide +kernel, by decide +kernel⟩
theorem told_len : ∀ {l : List Wm04.Rule}, (∀ r ∈ l, RuleOk r) → (l.flatMap ruleTold).length ≤ 13 * l.length
  | [], _ => by simp
  | r :: l, h => by
    have h1 := ruleTold_len (h r (List.mem_cons_self ..))
    have h2 := told_len fun x hx => h x (List.mem_cons_of_mem _ hx)
    rw [List.flatMap_cons, List.length_append, List.length_cons]
    omega
theorem ok_tellRules {f : Addr} {fd : FuncData} (F : Fun K "tell_rules" "tell_rules" sTellRules f fd) (TT : Txt K mg a) (TH : TxtH K mg a) (X3 : Fn P w K mg base "tell_rule" 2 ["rule"] (spTellRule a)) : FnOk P w K mg base CX0 3 f fd ["house"] (spTellRules T a) := by
  refine F.ok scTellRules (fun vs H Q E h => ?_) (fun cdv A outer s H vs Q E hr h => ?_)
  · obtain ⟨F0, p, ra, h, rfl, _⟩ := h
    rfl
  · obtain ⟨F0, p, ra, h, rfl, hh, ho, k⟩ := h
    obtain ⟨f3, fd3, G3, m3, k3, b3⟩ := X3.ex
    obtain ⟨⟨dx, aa, hp, haa, nar⟩, ⟨rs, hra, hrs⟩, hfr, hfo⟩ := id hh
    refine ⟨_, pss_cons (ps_set (i := 1) scTellRules.nd rfl (Or.inl rfl) (pe_lst (pa_cons (pe_callB call_len_seq (by rfl) TT.len PySem.boot_len (pa_cons (pe_fld (pv 0) rfl) pa_nil)) pa_nil)))
      (pss_cons (ps_for PassesOwn.never rfl (pi_list (pe_fld (pv 0) rfl)) (pg_name (i := 2) scTellRules.nd rfl (Or.inl rfl)) (pss_one (ps_expr (pe_bm PySem.F.plainAttrs_list PySem.F.slot_list_extend PySem.F.type_list_extend mt_extend (pv 1) (pa_cons (pe_call G3 hr rfl m3 k3 b3 .nil pass0 (pa_cons (pv 2) pa_nil)) pa_nil)))))
      (pss_one (ps_ret (pv 1)))), ?_⟩
    refine ⟨_, rfl, p, a.CH, dx, _, _, rfl, hp, TH.cH, TH.nRules, rfl, ra, _, rfl, .inl (SqL.of hra), (by show 1 ≤ sizeLine; decide), fun q hq => ?_⟩
    have e0 : ∀ o, Same H (upd H q o) := fun o => new_same hq
    have h6 := ho.six
    refine ⟨_, rfl, p, a.CH, dx, _, _, rfl, e0 _ _ _ hp, TH.cH, TH.nRules, rfl, ra, rfl, ⟨_, SqL.of (e0 _ _ _ hra)⟩, for_list (K := K) (a := ra) (xs := refs rs) (fun i σ H' => (∃ x : Option V, σ = [some (.ref p), some (.ref q), x]) ∧ Same H H' ∧ H' q = some (.lst (iVs (h.rules.length :: (h.rules.take i).flatMap ruleTold))))
      ⟨⟨none, rfl⟩, e0 _, by rw [upd_same, refs_len, hrs.len]; rfl⟩ (fun i σ H' _ ⟨_, e, _⟩ => SqL.of (e _ _ hra)) ?_ ?_⟩
    · rintro i y σ H1 hi ⟨⟨x, rfl⟩, e1, hq1⟩
      obtain ⟨rp, hrp, rfl⟩ := refs_get hi
      obtain ⟨rule, hrule, ne, ba, hR, _⟩ := hrs.right hrp
      have rok := ho.rules rule (List.mem_of_getElem? hrule)
      refine ⟨_, rfl, .inl ⟨rfl, _, SqL.of hq1⟩, ?_⟩
      refine ⟨_, rfl, rp, ne, ba, rule, rfl, hR.same e1, rok, fun q2 H2 e2 hq2 hl2 => ?_⟩
      have hq3 := e2 _ _ hq1
      refine ⟨q, q2, _, _, rfl, rfl, hq3, hl2, ?_, ⟨_, rfl⟩, fun b o z => ?_, ?_⟩
      · rw [iVs_len, iVs_len, List.length_cons]
        have h1 := ruleTold_len rok
        have h2 := told_len (l := h.rules.take i) fun r hr => ho.rules r (List.mem_of_mem_take hr)
        have h3 : (h.rules.take i).length ≤ h.rules.length := List.length_take_le' _ _
        exact Nat.le_trans (show _ ≤ 200 by omega) (by decide)
      · rw [upd_ne (ne_of_none z hq)]
        exact e2 _ _ (e1 _ _ z)
      · rw [upd_same, take_more hrule, List.flatMap_append, ← iVs_app]
        simp
    · rintro σ H1 ⟨⟨x, rfl⟩, e1, hq1⟩
      rw [refs_len, hrs.len, List.take_length] at hq1
      refine ⟨_, rfl, k q H1 hq ?_ (hh.same e1) (Kept.same e1)⟩
      rw [hq1]
      have : Wm04.step h .now = (h, ((h.rules.length : Nat) : Int) :: Wm04.ints (h.rules.flatMap ruleTold)) := rfl
      rw [this]
      show _ = some (HO.lst (iL (((h.rules.length : Nat) : Int) :: Wm04.ints (h.rules.flatMap ruleTold))))
      have e := iL_ints (h.rules.length :: h.rules.flatMap ruleTold)
      exact congrArg (fun l => some (HO.lst l)) e.symm
/-! ### plan_for -/
theorem told_plan (l : List Wm04.Step) : iL (Wm04.stepsTold (some l)) = iVs (l.length :: toldOf l) := iL_ints (l.length :: toldOf l)
theorem HouseAt.moves {F0 : Addr → Prop} {H : Hp} {p ra dx aa : Addr} {h : Wm04.House} (hh : HouseAt a F0 H p ra h) (ho : HouseOk h) {H' : Hp} {q : Addr} {ss : List Addr} (hq : H' q = some (.lst (refs ss))) (hm : MovesAt a H' h.rules h.actors aa ss (movesK (List.range h.rules.length))) : Moves K a H' h.rules h.actors (List.range h.rules.length) aa q ss :=
  ⟨SqL.of hq, hm, ho.rules, ho.actors, ho.nd, ho.three⟩
def spPlanFor (P : Program) (w : World) (K : PySem.W.Frag) (mg : Str → Option Value) (base : Heap) (a : Ad) : Sp := fun vs H Q _ => ∃ (F0 : Addr → Prop) (p ra f : Addr) (h : Wm04.House) (want : Nat → Bool) (G : Hp → Prop), vs = [.ref p, .ref f] ∧ HouseAt a F0 H p ra h ∧ HouseOk h ∧ Clo.Fn1 P w K mg base 3 f want G ∧ G H ∧
  ∀ (q : Addr) (H' : Hp), H q = none → Same H H' → H' q = some (.lst (iL (Wm04.stepsTold (Wm04.plan h.rules h.actors h.state want)))) → Q (.ref q) H'
theorem scPlanFor : FnScope ["house", "is_wanted", "plan"] ["house", "is_wanted"] (defScope sPlanFor) := ⟨rfl, rfl, rfl, by decide +kernel, rfl, by decide +kernel, by decide +kernel⟩
theorem ok_planFor {f : Addr} {fd : FuncData} (F : Fun K "plan_for" "plan_for" sPlanFor f fd) (TH : TxtH K mg a) (X1 : Fn P w K mg base "find_plan" 5 ["held", "moves", "is_wanted"] (spFindPlan P w K mg base a)) (X2 : Fn P w K mg base "moves_of" 5 ["rules", "doers"] (spMovesOf K a))
    (X3 : Fn P w K mg base "tell_plan" 1 ["plan"] spTellPlan) : FnOk P w K mg base CX0 6 f fd ["house", "is_wanted"] (spPlanFor P w K mg base a) := by
  refine F.ok scPlanFor (fun vs H Q E h => ?_) (fun cdv A outer s H vs Q E hr h => ?_)
  · obtain ⟨F0, p, ra, f, h, want, G, rfl, _⟩ := h
    rfl
  · obtain ⟨F0, p, ra, fn, h, want, G, rfl, hh, ho, F1, g0, k⟩ := h
    obtain ⟨f1, fd1, G1, m1, k1, b1⟩ := X1.ex
    obtain ⟨f2, fd2, G2, m2, k2, b2⟩ := X2.ex
    obtain ⟨f3, fd3, G3, m3, k3, b3⟩ := X3.ex
    obtain ⟨t3, n3⟩ := TH.not3
    have hr1 : Room 1 _ := hr.mono (by decide)
    obtain ⟨⟨dx, aa, hp, haa, nar⟩, ⟨rs, hra, hrs⟩, hfr, hfo⟩ := id hh
    refine ⟨_, pss_cons (ps_set (i := 2) scPlanFor.nd rfl (Or.inl rfl) (pe_call G1 hr rfl m1 k1 b1 .nil pass0 (pa_cons (pe_fld (pv 0) rfl) (pa_cons (pe_call G2 hr rfl m2 k2 b2 .nil pass0 (pa_cons (pe_fld (pv 0) rfl) (pa_cons (pe_fld (pv 0) rfl) pa_nil))) (pa_cons (pv 1) pa_nil)))))
      (pss_cons (ps_if (pt_cmp (pc_isN (pv 2))) (pss_one (ps_ret (pe_lst (pa_cons (pe_glob rfl n3 (v := .int (-3)) ⟨_, rfl⟩) pa_nil)))) pss_nil)
      (pss_one (ps_ret (pe_call G3 hr1 rfl m3 k3 b3 .nil pass0 (pa_cons (pv 2) pa_nil))))), ?_⟩
    refine ⟨_, rfl, p, a.CH, dx, _, _, rfl, hp, TH.cH, TH.nHeld, rfl, ?_⟩
    refine ⟨_, rfl, p, a.CH, dx, _, _, rfl, hp, TH.cH, TH.nRules, rfl, _, rfl, p, a.CH, dx, _, _, rfl, hp, TH.cH, TH.nActors, rfl, ?_⟩
    refine ⟨ra, aa, rs, h.rules, h.actors, rfl, SqL.of hra, hrs.imp fun _ _ ⟨ne, ba, r, _⟩ => ⟨ne, ba, r⟩, ho.six, ho.rules, haa, ho.three, ho.actors, fun sl H1 ss e1 _ hsl hst => ?_⟩
    have M : Moves K a H1 h.rules h.actors (List.range h.rules.length) aa sl ss := ⟨SqL.of hsl, hst, ho.rules, ho.actors, ho.nd, ho.three⟩
    have hbe : Below h.rules (Wm04.steps h.rules h.actors) := below_K ho.rules (List.range h.rules.length) h.actors
    refine ⟨_, rfl, h.state, sl, aa, fn, h.rules, h.actors, List.range h.rules.length, ss, want, G, rfl, ho.state, M, F1, F1.stay _ _ (LamX.ExtN.of e1) g0, fun ⟨n0, en0, hn0⟩ H2 e2 => ?_, fun path ⟨n0, x0, hx0, hw0, hl0, epath⟩ lp q H2 ts e2 _ hq ht => ?_⟩
    · have en := plan_none hbe ho.state (steps_eq _ _) en0 hn0
      refine ⟨_, rfl, _, rfl, iteT ⟨(by show 1 ≤ sizeLine; decide), fun q hq => ?_⟩⟩
      have e12 := e1.trans e2
      refine k q _ (e12.free hq) (e12.trans (new_same hq)) ?_
      rw [upd_same, en]
      rfl
    · have ep := plan_found hbe ho.state (steps_eq _ _) hx0 hw0 hl0
      rw [← epath] at ep
      refine ⟨_, rfl, _, rfl, iteF ?_⟩
      refine ⟨_, rfl, q, ts, path, rfl, hq, ht, lp, fun q2 H3 e3 hq2 hl => ?_⟩
      have e12 := e1.trans e2
      refine k q2 H3 (e12.free hq2) (e12.trans e3) ?_
      rw [ep, told_plan]
      exact hl
end
end Wp

set_option Elab.async false
set_option maxRecDepth 100000
set_option maxHeartbeats 2000000
namespace Wp
open PySem PySem.Spec PyProof.Rows L2 Wc
open Wm04 (place has isUser isRole isRoles rises)
/-- the lambda that is handed on at the end of a def -/
def lamIn (st : Stmt) : Expr := match (defBody st : List Stmt).getLast? with
  | some (.Return (some (.Call _ [_, e] _ _)) _) => e
  | _ => noLam
/-- .. of guard -/
def lamGuard : Expr := match (defBody sGuard : List Stmt).getLast? with
  | some (.Return (some (.Call _ [.Call _ [_, _, _, e] _ _] _ _)) _) => e
  | _ => noLam
theorem add_same1 {H1 : Hp} {L : Clo.Part} (hL : ∀ b o, L b = some o → H1 b = none) : Same H1 (Clo.addX H1 L) := fun b o e => by
  cases z : L b with
  | none => rw [Clo.addX_out z]; exact e
  | some ob => rw [hL b ob z] at e; cases e
theorem not_in {H1 : Hp} {L : Clo.Part} {b : Addr} {o : HO} (hL : ∀ b o, L b = some o → H1 b = none) (h : H1 b = some o) : L b = none := by
  cases z : L b with
  | none => rfl
  | some ob => rw [hL b ob z] at h; cases h
section
variable {P : Program} {w : World} {K : PySem.W.Frag} {mg : Str → Option Value} {base : Heap} {a : Ad} {T : List (Addr × Str)}
theorem HouseAt.ext {F0 : Addr → Prop} {H H' : Hp} {p ra : Addr} {h : Wm04.House} (e : LamX.ExtN H H') (en : ∀ b, H' b = none → H b = none) (x : HouseAt a F0 H p ra h) : HouseAt a F0 H' p ra h := by
  obtain ⟨⟨dx, aa, h1, h2, h3⟩, ⟨rs, h4, h5⟩, fr, fo⟩ := x
  refine ⟨⟨dx, aa, e _ _ h1 (fun _ z => by cases z), e _ _ h2 (fun _ z => by cases z), h3⟩, ⟨rs, e _ _ h4 (fun _ z => by cases z), h5.imp fun _ _ ⟨ne, ba, r, n1, n2⟩ => ⟨ne, ba, ?_, n1, n2⟩⟩, fr, fun b z => ?_⟩
  · obtain ⟨⟨dr, ho⟩, g1, g2⟩ := r
    exact ⟨⟨dr, e _ _ ho (fun _ z => by cases z)⟩, e _ _ g1 (fun _ z => by cases z), e _ _ g2 (fun _ z => by cases z)⟩
  · obtain ⟨o, y⟩ := fo b z
    cases q : H' b with
    | some u => exact ⟨u, rfl⟩
    | none => rw [en b q] at y; cases y
theorem Kept.grew {p ra : Addr} {H H' : Hp} (g : Grew T H H') : Kept T p ra H H' := ⟨fun b o h _ _ n => g.ext b o h n, g.tabs⟩
/-- behind a call that was made with the maker's cells tracked -/
theorem Grew.back {H1 H2 : Hp} {L : Clo.Part} (g : Grew T (Clo.addX H1 L) H2) (hL : ∀ b o, L b = some o → H1 b = none) (hc : ∀ b o, L b = some o → ∃ v, o.data = .cell v) (t1 : LamX.Tabs T H1) : Clo.InX H2 L ∧ Grew T H1 (Clo.dropX H2 L) := by
  have inX : Clo.InX H2 L := fun b o z => g.ext _ _ (Clo.add_in H1 L b o z) (fun _ y => by unfold Clo.ExO at y; cases y)
  have hH1 := add_same1 hL
  refine ⟨inX, fun b o e n => ?_, fun b e => ?_, fun _ => ?_⟩
  · rw [Clo.dropX_out (not_in hL e)]
    exact g.ext _ _ (hH1 _ _ e) n
  · cases z : L b with
    | some ob => exact hL b ob z
    | none =>
      rw [Clo.dropX_out z] at e
      have := g.old b e
      rw [Clo.addX_out z] at this
      exact this
  · intro y hy
    obtain ⟨ps, z1, z2, z3⟩ := g.tabs (t1.ext hH1) y hy
    have out : ∀ {b u}, H2 b = some u → (∀ o v, o.data = Data.cell v → u ≠ Clo.ExO b o) → Clo.dropX H2 L b = some u := fun {b u} e n => by
      cases z : L b with
      | none => rw [Clo.dropX_out z]; exact e
      | some ob =>
        obtain ⟨v, hv⟩ := hc b ob z
        rw [inX b ob z] at e
        exact absurd (Option.some.inj e).symm (n ob v hv)
    refine ⟨ps, out z1 (fun o v _ x => by unfold Clo.ExO at x; cases x), z2, fun pos cv hcv => ?_⟩
    obtain ⟨c, ec, hcc⟩ := z3 pos cv hcv
    exact ⟨c, ec, out hcc (fun o v hv x => Clo.cell_no_code hv x.symm)⟩
/-! ### can_have -/
theorem lam_can {fl cd : Addr} {L : Clo.Part} {cl : List (Str × Addr)} {v : Nat} {r : List Nat} (Lf : L fl = none) (Lc : L cd = none) (kp : Clo.Keeps cl ["wanted"] [some (iV (mask v r))] L) :
    Clo.Fn1 P w K mg base 1 fl (Wm04.hasAll v r) (Clo.LamG fl (lamOf (lamIn sCanHave) "can_have.<locals>.<lambda>" cl cd) L) := by
  have S : NdefX.NScope ["held", "wanted"] ["held"] ["wanted"] (lamScope (lamIn sCanHave)) := NdefX.nscope_by (by decide +kernel)
  refine Clo.lam_fn1 (F := lamOf (lamIn sCanHave) "can_have.<locals>.<lambda>" cl cd) (k := 0) (N := ["held", "wanted"]) (x := "held") Lf Lc S kp (fun _ _ _ => rfl) (fun A outer s H n hr hn => ?_)
  refine ⟨_, pe_cmpR (X := NdefX.ncx CX0 P w K mg base ["held", "wanted"] (lamOf (lamIn sCanHave) "can_have.<locals>.<lambda>" cl cd).nf fl A outer s H E0) op_eq (pe_op op_and (pv 0) (pv 1)) (pv 1) (nomark _), fun Q q => ?_⟩
  refine ⟨_, rfl, _, rfl, _, _, rfl, rfl, _, rfl, rfl, ?_⟩
  show Q (.bl (decide (V.int (Builtin.bitAnd (n : Int) (mask v r : Int)) = V.int (mask v r : Int)))) H
  rw [bAnd, eqI, hasAll_mask]
  exact q H (Same.refl H)
def spCan (K : PySem.W.Frag) (T : List (Addr × Str)) (a : Ad) : Sp := fun vs H Q _ => ∃ (F0 : Addr → Prop) (p ra l : Addr) (h : Wm04.House) (v : Nat) (r : List Nat), vs = [.ref p, iV v, .ref l] ∧ HouseAt a F0 H p ra h ∧ HouseOk h ∧ SqL K H l (iVs r) ∧ LamX.Tabs T H ∧ Ends T a F0 p ra H (Wm04.step h (.can v r)) Q
theorem scCanHave : FnScope ["house", "v", "roles", "wanted"] ["house", "v", "roles"] (defScope sCanHave) := ⟨rfl, rfl, rfl, by decide +kernel, rfl, by decide +kernel, by decide +kernel⟩
theorem ok_canHave {f c pt : Addr} {fd : FuncData} (F : FunC K "can_have" "can_have" sCanHave f c fd) (TH : TxtH K mg a) (TB : LamX.TabB base mg c pt) (hT : (pt, ("can_have.<locals>.<lambda>" : Str)) ∈ T) (hu : ∀ p ∈ T, p.1 = pt → p.2 = ("can_have.<locals>.<lambda>" : Str))
    (X1 : Fn P w K mg base "is_user" 1 ["number"] (spIs isUser)) (X2 : Fn P w K mg base "are_roles" 2 ["row"] (spAreRoles K)) (X3 : Fn P w K mg base "role_bits" 2 ["user", "roles"] (spRoleBitsL K)) (X4 : Fn P w K mg base "plan_for" 6 ["house", "is_wanted"] (spPlanFor P w K mg base a)) :
    FnOk P w K mg base CX0 7 f fd ["house", "v", "roles"] (spCan K T a) := by
  refine F.ok scCanHave (fun vs H Q E h => ?_) (fun A outer s H vs Q E hr h => ?_)
  · obtain ⟨F0, p, ra, l, h, v, r, rfl, _⟩ := h
    rfl
  · obtain ⟨F0, p, ra, l, h, v, r, rfl, hh, ho, hS, hTabs, k⟩ := h
    obtain ⟨f1, fd1, G1, m1, k1, b1⟩ := X1.ex
    obtain ⟨f2, fd2, G2, m2, k2, b2⟩ := X2.ex
    obtain ⟨f3, fd3, G3, m3, k3, b3⟩ := X3.ex
    obtain ⟨f4, fd4, G4, m4, k4, b4⟩ := X4.ex
    obtain ⟨t1, n1⟩ := TH.not1
    have hr1 : Room 1 _ := hr.mono (by decide)
    have hr2 : Room 2 _ := hr.mono (by decide)
    have fB : NdefX.ndefB (defScope sCanHave) (lamScope (lamIn sCanHave)) ["wanted"] = true := by decide +kernel
    refine ⟨_, pss_cons (ps_if (PW.pt (pw_or (pt_not (pt_val (pe_call G1 hr1 rfl m1 k1 b1 .nil pass0 (pa_cons (pv 1) pa_nil)))) (pw_or1 (pt_not (pt_val (pe_call G2 hr2 rfl m2 k2 b2 .nil pass0 (pa_cons (pv 2) pa_nil))))))) (pss_one (ps_ret (pe_lst (pa_cons (pe_glob rfl n1 (v := .int (-1)) ⟨_, rfl⟩) pa_nil)))) pss_nil)
      (pss_cons (ps_set (i := 3) scCanHave.nd rfl (Or.inr rfl) (pe_call G3 hr2 rfl m3 k3 b3 .nil pass0 (pa_cons (pv 1) (pa_cons (pv 2) pa_nil))))
      (pss_one (ps_ret (Clo.pe_callX (fr := ["wanted"]) (js := [3]) G4 hr rfl m4 k4 b4 (fun ok => NdefX.Caps.made (scope := lamScope (lamIn sCanHave)) ok (NdefX.ndef_free fB) (NdefX.ndef_fr fB) rfl) (fun _ => rfl) (pa_cons (pv 0) (pa_cons (Clo.pe_lamV TB rfl hT hu rfl (NdefX.ndef_free fB)) pa_nil)))))), ?_⟩
    have un : Wm04.step h (.can v r) = (h, if isUser v = false ∨ isRoles r = false then [-1] else Wm04.stepsTold (Wm04.plan h.rules h.actors h.state (Wm04.hasAll v r))) := rfl
    rw [un] at k
    refine ⟨_, rfl, v, rfl, _, rfl, ?_⟩
    cases hv : isUser v with
    | false =>
      rw [if_pos (.inl hv)] at k
      exact iteT (iteT ⟨(by show 1 ≤ sizeLine; decide), new_ends k hh⟩)
    | true =>
      refine iteF ⟨_, rfl, l, r, rfl, hS, _, rfl, ?_⟩
      cases hrr : isRoles r with
      | false =>
        rw [if_pos (.inr hrr)] at k
        exact iteT ⟨(by show 1 ≤ sizeLine; decide), new_ends k hh⟩
      | true =>
        rw [if_neg (by rw [hv, hrr]; simp)] at k
        refine iteF ?_
        refine ⟨_, rfl, _, rfl, v, l, r, rfl, isUser_iff.mp hv, hS, roles_mem hrr, ?_⟩
        refine ⟨_, rfl, hTabs, fun fl cl H1 e1 e1n t1' hfl hlam hcode L kp hL hcells => ?_⟩
        have hH1 := add_same1 hL
        have hh1 : HouseAt a F0 H1 p ra h := hh.ext e1 e1n
        have F1 := fn1_mono (k := 3) (by decide) (lam_can (P := P) (w := w) (K := K) (mg := mg) (base := base) (v := v) (r := r) (not_in hL hlam) (not_in hL hcode) kp)
        refine ⟨F0, p, ra, fl, h, _, _, rfl, hh1.same hH1, ho, F1, ⟨hH1 _ _ hlam, hH1 _ _ hcode, Clo.add_in _ _⟩, fun q H2 hq e2 hl => ⟨fun b o z => e2 _ _ (Clo.add_in H1 L b o z), ?_⟩⟩
        have Lq : L q = none := by
          cases z : L q with
          | none => rfl
          | some ob => rw [Clo.addX_in z] at hq; cases hq
        have hq1 : H1 q = none := by rw [Clo.addX_out Lq] at hq; exact hq
        have e3 : Same H1 (Clo.dropX H2 L) := fun b o e => by
          rw [Clo.dropX_out (not_in hL e)]
          exact e2 _ _ (hH1 _ _ e)
        refine k q _ (e1n q hq1) (by rw [Clo.dropX_out Lq]; exact hl) (hh1.same e3) ⟨fun b o e n1 n2 n3 => e3 _ _ (e1 b o e n3), fun _ => t1'.ext e3⟩
/-! ### can_lose -/
theorem lam_lose {fl cd : Addr} {L : Clo.Part} {cl : List (Str × Addr)} {v r : Nat} (Lf : L fl = none) (Lc : L cd = none) (kp : Clo.Keeps cl ["unwanted"] [some (iV (2 ^ place v r))] L) :
    Clo.Fn1 P w K mg base 1 fl (fun s => !has s v r) (Clo.LamG fl (lamOf (lamIn sCanLose) "can_lose.<locals>.<lambda>" cl cd) L) := by
  have S : NdefX.NScope ["held", "unwanted"] ["held"] ["unwanted"] (lamScope (lamIn sCanLose)) := NdefX.nscope_by (by decide +kernel)
  refine Clo.lam_fn1 (F := lamOf (lamIn sCanLose) "can_lose.<locals>.<lambda>" cl cd) (k := 0) (N := ["held", "unwanted"]) (x := "held") Lf Lc S kp (fun _ _ _ => rfl) (fun A outer s H n hr hn => ?_)
  refine ⟨_, pe_cmpR (X := NdefX.ncx CX0 P w K mg base ["held", "unwanted"] (lamOf (lamIn sCanLose) "can_lose.<locals>.<lambda>" cl cd).nf fl A outer s H E0) op_eq (pe_op op_and (pv 0) (pv 1)) pe_int (nomark _), fun Q q => ?_⟩
  refine ⟨_, rfl, _, rfl, _, _, rfl, rfl, rfl, ?_⟩
  show Q (.bl (decide (V.int (Builtin.bitAnd (n : Int) ((2 ^ place v r : Nat) : Int)) = V.int 0))) H
  rw [bAnd, eqI0, has_mask]
  exact q H (Same.refl H)
def spLose (T : List (Addr × Str)) (a : Ad) : Sp := fun vs H Q _ => ∃ (F0 : Addr → Prop) (p ra : Addr) (h : Wm04.House) (v r : Nat), vs = [.ref p, iV v, iV r] ∧ HouseAt a F0 H p ra h ∧ HouseOk h ∧ LamX.Tabs T H ∧ Ends T a F0 p ra H (Wm04.step h (.lose v r)) Q
theorem scCanLose : FnScope ["house", "v", "r", "unwanted"] ["house", "v", "r"] (defScope sCanLose) := ⟨rfl, rfl, rfl, by decide +kernel, rfl, by decide +kernel, by decide +kernel⟩
theorem ok_canLose {f c pt : Addr} {fd : FuncData} (F : FunC K "can_lose" "can_lose" sCanLose f c fd) (TH : TxtH K mg a) (TB : LamX.TabB base mg c pt) (hT : (pt, ("can_lose.<locals>.<lambda>" : Str)) ∈ T) (hu : ∀ p ∈ T, p.1 = pt → p.2 = ("can_lose.<locals>.<lambda>" : Str))
    (X1 : Fn P w K mg base "is_user" 1 ["number"] (spIs isUser)) (X2 : Fn P w K mg base "is_role" 1 ["number"] (spIs isRole)) (X3 : Fn P w K mg base "role_bit" 1 ["user", "role"] spRoleBit) (X4 : Fn P w K mg base "plan_for" 6 ["house", "is_wanted"] (spPlanFor P w K mg base a)) :
    FnOk P w K mg base CX0 7 f fd ["house", "v", "r"] (spLose T a) := by
  refine F.ok scCanLose (fun vs H Q E h => ?_) (fun A outer s H vs Q E hr h => ?_)
  · obtain ⟨F0, p, ra, h, v, r, rfl, _⟩ := h
    rfl
  · obtain ⟨F0, p, ra, h, v, r, rfl, hh, ho, hTabs, k⟩ := h
    obtain ⟨f1, fd1, G1, m1, k1, b1⟩ := X1.ex
    obtain ⟨f2, fd2, G2, m2, k2, b2⟩ := X2.ex
    obtain ⟨f3, fd3, G3, m3, k3, b3⟩ := X3.ex
    obtain ⟨f4, fd4, G4, m4, k4, b4⟩ := X4.ex
    obtain ⟨t1, n1⟩ := TH.not1
    have hr1 : Room 1 _ := hr.mono (by decide)
    have fB : NdefX.ndefB (defScope sCanLose) (lamScope (lamIn sCanLose)) ["unwanted"] = true := by decide +kernel
    refine ⟨_, pss_cons (ps_if (PW.pt (pw_or (pt_not (pt_val (pe_call G1 hr1 rfl m1 k1 b1 .nil pass0 (pa_cons (pv 1) pa_nil)))) (pw_or1 (pt_not (pt_val (pe_call G2 hr1 rfl m2 k2 b2 .nil pass0 (pa_cons (pv 2) pa_nil))))))) (pss_one (ps_ret (pe_lst (pa_cons (pe_glob rfl n1 (v := .int (-1)) ⟨_, rfl⟩) pa_nil)))) pss_nil)
      (pss_cons (ps_set (i := 3) scCanLose.nd rfl (Or.inr rfl) (pe_call G3 hr1 rfl m3 k3 b3 .nil pass0 (pa_cons (pv 1) (pa_cons (pv 2) pa_nil))))
      (pss_one (ps_ret (Clo.pe_callX (fr := ["unwanted"]) (js := [3]) G4 hr rfl m4 k4 b4 (fun ok => NdefX.Caps.made (scope := lamScope (lamIn sCanLose)) ok (NdefX.ndef_free fB) (NdefX.ndef_fr fB) rfl) (fun _ => rfl) (pa_cons (pv 0) (pa_cons (Clo.pe_lamV TB rfl hT hu rfl (NdefX.ndef_free fB)) pa_nil)))))), ?_⟩
    have un : Wm04.step h (.lose v r) = (h, if isUser v = false ∨ isRole r = false then [-1] else Wm04.stepsTold (Wm04.plan h.rules h.actors h.state fun s => !has s v r)) := rfl
    rw [un] at k
    refine ⟨_, rfl, v, rfl, _, rfl, ?_⟩
    cases hv : isUser v with
    | false =>
      rw [if_pos (.inl hv)] at k
      exact iteT (iteT ⟨(by show 1 ≤ sizeLine; decide), new_ends k hh⟩)
    | true =>
      refine iteF ⟨_, rfl, r, rfl, _, rfl, ?_⟩
      cases hrr : isRole r with
      | false =>
        rw [if_pos (.inr hrr)] at k
        exact iteT ⟨(by show 1 ≤ sizeLine; decide), new_ends k hh⟩
      | true =>
        rw [if_neg (by rw [hv, hrr]; simp)] at k
        refine iteF ?_
        refine ⟨_, rfl, _, rfl, v, r, rfl, isUser_iff.mp hv, isRole_iff.mp hrr, ?_⟩
        refine ⟨_, rfl, hTabs, fun fl cl H1 e1 e1n t1' hfl hlam hcode L kp hL hcells => ?_⟩
        have hH1 := add_same1 hL
        have hh1 : HouseAt a F0 H1 p ra h := hh.ext e1 e1n
        have F1 := fn1_mono (k := 3) (by decide) (lam_lose (P := P) (w := w) (K := K) (mg := mg) (base := base) (v := v) (r := r) (not_in hL hlam) (not_in hL hcode) kp)
        refine ⟨F0, p, ra, fl, h, _, _, rfl, hh1.same hH1, ho, F1, ⟨hH1 _ _ hlam, hH1 _ _ hcode, Clo.add_in _ _⟩, fun q H2 hq e2 hl => ⟨fun b o z => e2 _ _ (Clo.add_in H1 L b o z), ?_⟩⟩
        have Lq : L q = none := by
          cases z : L q with
          | none => rfl
          | some ob => rw [Clo.addX_in z] at hq; cases hq
        have hq1 : H1 q = none := by rw [Clo.addX_out Lq] at hq; exact hq
        have e3 : Same H1 (Clo.dropX H2 L) := fun b o e => by
          rw [Clo.dropX_out (not_in hL e)]
          exact e2 _ _ (hH1 _ _ e)
        refine k q _ (e1n q hq1) (by rw [Clo.dropX_out Lq]; exact hl) (hh1.same e3) ⟨fun b o e n1 n2 n3 => e3 _ _ (e1 b o e n3), fun _ => t1'.ext e3⟩
/-! ### can_never -/
def both (r q : Nat) (s : Nat) : Bool := [1, 2, 3].any fun v => has s v r && has s v q
def pairsOf (r q : Nat) : List Nat := [1, 2, 3].map fun v => mask v [r, q]
theorem both_eq (r q s : Nat) : ((pairsOf r q).map fun m => decide (s &&& m = m)).any id = both r q s := by
  unfold pairsOf both
  rw [List.map_map, List.any_map]
  congr 1
  funext v
  show decide (s &&& mask v [r, q] = mask v [r, q]) = _
  rw [hasAll_mask]
  unfold Wm04.hasAll
  simp
theorem csNever : Clo.CScope ["held", "pairs", "pair"] "held" ["pairs"] (lamScope (lamIn sCanNever)) := by
  have hm : ∀ x ∈ (lamScope (lamIn sCanNever)).names, (x.2 = .cell → x.1 = "held") ∧ (x.2 = .free → x.1 = "pairs") := by decide +kernel
  exact ⟨rfl, rfl, rfl, by decide +kernel, rfl, by decide +kernel, fun y h => (hm _ (PySem.mem_of_lookup h)).1 rfl, fun _ _ => rfl, fun _ => rfl, fun y h => List.mem_singleton.mpr ((hm _ (PySem.mem_of_lookup h)).2 rfl), fun y hy => by
    have : y = "pairs" := by simpa using hy
    subst this
    decide +kernel⟩
theorem lam_never {fl cd pl : Addr} {L : Clo.Part} {cl : List (Str × Addr)} {r q : Nat} (TT : Txt K mg a) (Lf : L fl = none) (Lc : L cd = none) (kp : Clo.Keeps cl ["pairs"] [some (.ref pl)] L) :
    Clo.Fn1 P w K mg base 1 fl (both r q) (fun H => Clo.LamG fl (lamOf (lamIn sCanNever) "can_never.<locals>.<lambda>" cl cd) L H ∧ H pl = some (.lst (iVs (pairsOf r q)))) := by
  refine Clo.lam_fn1C (F := lamOf (lamIn sCanNever) "can_never.<locals>.<lambda>" cl cd) (k := 0) (N := ["held", "pairs", "pair"]) (x := "held") (G2 := fun H => H pl = some (.lst (iVs (pairsOf r q)))) Lf Lc csNever kp (fun H H' e g => e _ _ g (fun _ z => by cases z)) (fun H x g => ?_) (fun _ _ _ => rfl) (fun A outer s H n hr hn hpl => ?_)
  · have : L pl = none := x.out g (fun o z => by unfold Clo.ExO at z; cases z)
    rw [Clo.dropX_out this]
    exact g
  · refine ⟨_, pe_callB (X := NdefX.ncx CX0 P w K mg base ["held", "pairs", "pair"] ((lamOf (lamIn sCanNever) "can_never.<locals>.<lambda>" cl cd).nfc "held" (s.heap.objs.size + 1)) fl A outer s H E0) (cr_any rfl) (by rfl) TT.any (by decide +kernel)
      (pa_cons (pe_lc (own := [("pair", 2)]) (g := gName 2) (tt := tYes) rfl csNever.nd (pi_list (pv 1)) (blkOk_by (own := [("pair", 2)]) (N := ["held", "pairs", "pair"]) (sc := lamScope (lamIn sCanNever)) (by decide +kernel)) (fun _ _ _ _ _ => pg_name (i := 2) csNever.nd rfl (Or.inl rfl)) (fun _ _ _ _ _ => pts_nil)
        (fun _ _ _ _ _ => pe_cmpR op_eq (pe_op op_and (pv 0) (pv 2)) (pv 2) (nomark _))) pa_nil), fun Q kq => ?_⟩
    refine ⟨_, rfl, pl, rfl, ⟨_, SqL.of hpl⟩, fun D hD => lc_list (K := K) (a := pl) (xs := iVs (pairsOf r q)) (fun i H' => H' = upd H D (.lst ((((pairsOf r q).take i).map fun m => decide (n &&& m = m)).map V.bl))) rfl (fun i H' _ e => by rw [e]; exact SqL.of (new_same hD _ _ hpl)) ?_ ?_⟩
    · rintro i y H' hi rfl
      obtain ⟨m, hm, rfl⟩ := iVs_get hi
      have hi3 : i < 3 := (List.getElem?_eq_some_iff.mp hm).1
      refine ⟨rfl, tYes_then ?_⟩
      refine ⟨_, rfl, _, rfl, _, _, rfl, rfl, _, rfl, rfl, ?_⟩
      refine ⟨_, upd_same, ?_, ?_⟩
      · rw [List.length_map, List.length_map, List.length_take]
        exact Nat.lt_of_le_of_lt (Nat.min_le_left _ _) (Nat.lt_trans hi3 (by decide))
      · rw [upd_upd, take_more hm, List.map_append, List.map_append]
        show upd H D (.lst (_ ++ [V.bl (decide (V.int (Builtin.bitAnd (n : Int) (m : Int)) = V.int (m : Int)))])) = _
        rw [bAnd, eqI]
        rfl
    · rintro H' rfl
      rw [iVs_len, List.take_length]
      refine ⟨D, (pairsOf r q).map fun m => decide (n &&& m = m), rfl, SqL.of upd_same, ?_⟩
      rw [both_eq]
      exact kq _ (new_same hD)
def spNever (T : List (Addr × Str)) (a : Ad) : Sp := fun vs H Q _ => ∃ (F0 : Addr → Prop) (p ra : Addr) (h : Wm04.House) (r q : Nat), vs = [.ref p, iV r, iV q] ∧ HouseAt a F0 H p ra h ∧ HouseOk h ∧ LamX.Tabs T H ∧ Ends T a F0 p ra H (Wm04.step h (.never r q)) Q
theorem scCanNever : FnScope ["house", "r", "q", "pairs", "user"] ["house", "r", "q"] (defScope sCanNever) := ⟨rfl, rfl, rfl, by decide +kernel, rfl, by decide +kernel, by decide +kernel⟩
theorem ok_canNever {f c pt : Addr} {fd : FuncData} (F : FunC K "can_never" "can_never" sCanNever f c fd) (TT : Txt K mg a) (TH : TxtH K mg a) (TB : LamX.TabB base mg c pt) (hT : (pt, ("can_never.<locals>.<lambda>" : Str)) ∈ T) (hu : ∀ p ∈ T, p.1 = pt → p.2 = ("can_never.<locals>.<lambda>" : Str))
    (X2 : Fn P w K mg base "is_role" 1 ["number"] (spIs isRole)) (X3 : Fn P w K mg base "role_bits" 2 ["user", "roles"] (spRoleBitsL K)) (X4 : Fn P w K mg base "plan_for" 6 ["house", "is_wanted"] (spPlanFor P w K mg base a)) :
    FnOk P w K mg base CX0 7 f fd ["house", "r", "q"] (spNever T a) := by
  refine F.ok scCanNever (fun vs H Q E h => ?_) (fun A outer s H vs Q E hr h => ?_)
  · obtain ⟨F0, p, ra, h, r, q, rfl, _⟩ := h
    rfl
  · obtain ⟨F0, p, ra, h, r, q0, rfl, hh, ho, hTabs, k⟩ := h
    obtain ⟨f2, fd2, G2, m2, k2, b2⟩ := X2.ex
    obtain ⟨f3, fd3, G3, m3, k3, b3⟩ := X3.ex
    obtain ⟨f4, fd4, G4, m4, k4, b4⟩ := X4.ex
    obtain ⟨t1, n1⟩ := TH.not1
    have hr1 : Room 1 _ := hr.mono (by decide)
    have hr2 : Room 2 _ := hr.mono (by decide)
    have fB : NdefX.ndefB (defScope sCanNever) (lamScope (lamIn sCanNever)) ["pairs"] = true := by decide +kernel
    refine ⟨_, pss_cons (ps_if (PW.pt (pw_or (pt_not (pt_val (pe_call G2 hr1 rfl m2 k2 b2 .nil pass0 (pa_cons (pv 1) pa_nil)))) (pw_or1 (pt_not (pt_val (pe_call G2 hr1 rfl m2 k2 b2 .nil pass0 (pa_cons (pv 2) pa_nil))))))) (pss_one (ps_ret (pe_lst (pa_cons (pe_glob rfl n1 (v := .int (-1)) ⟨_, rfl⟩) pa_nil)))) pss_nil)
      (pss_cons (ps_set (i := 3) scCanNever.nd rfl (Or.inr rfl) (pe_lc (own := [("user", 4)]) (g := gName 4) (tt := tYes) rfl scCanNever.nd (pi_tup (pe_glob rfl TT.gU (v := .ref a.U) rfl)) (blkOk_by (own := [("user", 4)]) (N := ["house", "r", "q", "pairs", "user"]) (sc := defScope sCanNever) (by decide +kernel)) (fun _ _ _ _ _ => pg_name (i := 4) scCanNever.nd rfl (Or.inl rfl)) (fun _ _ _ _ _ => pts_nil) (fun _ _ _ _ _ => (pe_call G3 hr2 rfl m3 k3 b3 .nil pass0 (pa_cons (pv 4) (pa_cons (pe_lst (pa_cons (pv 1) (pa_cons (pv 2) pa_nil))) pa_nil))))))
      (pss_one (ps_ret (Clo.pe_callX (fr := ["pairs"]) (js := [3]) G4 hr rfl m4 k4 b4 (fun ok => NdefX.Caps.made (scope := lamScope (lamIn sCanNever)) ok (NdefX.ndef_free fB) (NdefX.ndef_fr fB) rfl) (fun _ => rfl) (pa_cons (pv 0) (pa_cons (Clo.pe_lamV TB rfl hT hu rfl (NdefX.ndef_free fB)) pa_nil)))))), ?_⟩
    have un : Wm04.step h (.never r q0) = (h, if isRole r = false ∨ isRole q0 = false then [-1] else Wm04.stepsTold (Wm04.plan h.rules h.actors h.state (both r q0))) := rfl
    rw [un] at k
    refine ⟨_, rfl, r, rfl, _, rfl, ?_⟩
    cases hv : isRole r with
    | false =>
      rw [if_pos (.inl hv)] at k
      exact iteT (iteT ⟨(by show 1 ≤ sizeLine; decide), new_ends k hh⟩)
    | true =>
      refine iteF ⟨_, rfl, q0, rfl, _, rfl, ?_⟩
      cases hrr : isRole q0 with
      | false =>
        rw [if_pos (.inr hrr)] at k
        exact iteT ⟨(by show 1 ≤ sizeLine; decide), new_ends k hh⟩
      | true =>
        rw [if_neg (by rw [hv, hrr]; simp)] at k
        refine iteF ?_
        have hR : ∀ x ∈ [r, q0], Role x := fun x hx => by
          rcases List.mem_cons.mp hx with z | z
          · rw [z]; exact isRole_iff.mp hv
          · rw [List.mem_singleton.mp z]; exact isRole_iff.mp hrr
        -- pairs = [role_bits(user, [r, q]) for user in USERS]
        refine ⟨a.U, rfl, ⟨_, TT.sU _⟩, fun pl hpl => lc_tup (K := K) (a := a.U) (xs := uV) (fun i H' => Same H H' ∧ H' pl = some (.lst (iVs ((([1, 2, 3] : List Nat).take i).map fun v => mask v [r, q0])))) ⟨new_same hpl, upd_same⟩ (fun i H' _ _ => TT.sU _) ?_ ?_⟩
        · rintro i y H' hi ⟨e, hD⟩
          rw [uV_eq] at hi
          obtain ⟨v, hv2, rfl⟩ := iVs_get hi
          have hv3 : User v := by
            have := List.mem_of_getElem? hv2
            unfold User
            simp at this
            omega
          have hi3 : i < 3 := (List.getElem?_eq_some_iff.mp hv2).1
          refine ⟨rfl, tYes_then ?_⟩
          refine ⟨_, rfl, _, rfl, _, rfl, (by show 2 ≤ sizeLine; decide), fun l2 hl2 => ?_⟩
          refine ⟨v, l2, [r, q0], rfl, hv3, SqL.of upd_same, hR, _, new_same hl2 _ _ hD, ?_, fun b o z => ?_, ?_⟩
          · rw [iVs_len, List.length_map, List.length_take]
            exact Nat.lt_of_le_of_lt (Nat.min_le_left _ _) (Nat.lt_trans hi3 (by decide))
          · rw [upd_ne (ne_of_none z hpl)]
            exact new_same hl2 _ _ (e _ _ z)
          · rw [upd_same, take_more hv2, List.map_append, iVs_app]
            rfl
        · rintro H0 ⟨e0, hpl0⟩
          have epl : ((([1, 2, 3] : List Nat).take uV.length).map fun v => mask v [r, q0]) = pairsOf r q0 := rfl
          rw [epl] at hpl0
          have hh0 := hh.same e0
          refine ⟨_, rfl, hTabs.ext e0, fun fl cl H1 e1 e1n t1' hfl hlam hcode L kp hL hcells => ?_⟩
          have hH1 := add_same1 hL
          have hh1 : HouseAt a F0 H1 p ra h := hh0.ext e1 e1n
          have F1 := fn1_mono (k := 3) (by decide) (lam_never (P := P) (w := w) (K := K) (mg := mg) (base := base) (r := r) (q := q0) TT (not_in hL hlam) (not_in hL hcode) kp)
          refine ⟨F0, p, ra, fl, h, _, _, rfl, hh1.same hH1, ho, F1, ⟨⟨hH1 _ _ hlam, hH1 _ _ hcode, Clo.add_in _ _⟩, hH1 _ _ (e1 _ _ hpl0 (fun _ z => by cases z))⟩, fun q H2 hq e2 hl => ⟨fun b o z => e2 _ _ (Clo.add_in H1 L b o z), ?_⟩⟩
          have Lq : L q = none := by
            cases z : L q with
            | none => rfl
            | some ob => rw [Clo.addX_in z] at hq; cases hq
          have hq1 : H1 q = none := by rw [Clo.addX_out Lq] at hq; exact hq
          have e3 : Same H1 (Clo.dropX H2 L) := fun b o e => by
            rw [Clo.dropX_out (not_in hL e)]
            exact e2 _ _ (hH1 _ _ e)
          refine k q _ (e0.free (e1n q hq1)) (by rw [Clo.dropX_out Lq]; exact hl) (hh1.same e3) ⟨fun b o e n1 n2 n3 => e3 _ _ (e1 b o (e0 _ _ e) n3), fun _ => t1'.ext e3⟩
end
end Wp

set_option Elab.async false
set_option maxRecDepth 100000
set_option maxHeartbeats 2000000
namespace Wp
open PySem PySem.Spec PyProof.Rows L2 Wc
open Wm04 (place has isUser isRole isRoles rises)
section
variable {P : Program} {w : World} {K : PySem.W.Frag} {mg : Str → Option Value} {base : Heap} {a : Ad} {T : List (Addr × Str)}
/-! ### guard -/
theorem lam_guard {fl cd : Addr} {L : Clo.Part} {cl : List (Str × Addr)} {v : Nat} {r : List Nat} (Lf : L fl = none) (Lc : L cd = none) (kp : Clo.Keeps cl ["wanted"] [some (iV (mask v r))] L) :
    Clo.Fn1 P w K mg base 1 fl (Wm04.hasAll v r) (Clo.LamG fl (lamOf lamGuard "guard.<locals>.<lambda>" cl cd) L) := by
  have S : NdefX.NScope ["held", "wanted"] ["held"] ["wanted"] (lamScope lamGuard) := NdefX.nscope_by (by decide +kernel)
  refine Clo.lam_fn1 (F := lamOf lamGuard "guard.<locals>.<lambda>" cl cd) (k := 0) (N := ["held", "wanted"]) (x := "held") Lf Lc S kp (fun _ _ _ => rfl) (fun A outer s H n hr hn => ?_)
  refine ⟨_, pe_cmpR (X := NdefX.ncx CX0 P w K mg base ["held", "wanted"] (lamOf lamGuard "guard.<locals>.<lambda>" cl cd).nf fl A outer s H E0) op_eq (pe_op op_and (pv 0) (pv 1)) (pv 1) (nomark _), fun Q q => ?_⟩
  refine ⟨_, rfl, _, rfl, _, _, rfl, rfl, _, rfl, rfl, ?_⟩
  show Q (.bl (decide (V.int (Builtin.bitAnd (n : Int) (mask v r : Int)) = V.int (mask v r : Int)))) H
  rw [bAnd, eqI, hasAll_mask]
  exact q H (Same.refl H)
def spGuard (K : PySem.W.Frag) (T : List (Addr × Str)) (a : Ad) : Sp := fun vs H Q _ => ∃ (F0 : Addr → Prop) (p ra l : Addr) (h : Wm04.House) (v : Nat) (r : List Nat), vs = [.ref p, iV v, .ref l] ∧ HouseAt a F0 H p ra h ∧ HouseOk h ∧ SqL K H l (iVs r) ∧ LamX.Tabs T H ∧ Ends T a F0 p ra H (Wm04.step h (.guard v r)) Q
theorem scGuard : FnScope ["house", "v", "roles", "wanted", "moves"] ["house", "v", "roles"] (defScope sGuard) := ⟨rfl, rfl, rfl, by decide +kernel, rfl, by decide +kernel, by decide +kernel⟩
theorem ok_guard {f c pt : Addr} {fd : FuncData} (F : FunC K "guard" "guard" sGuard f c fd) (TT : Txt K mg a) (TH : TxtH K mg a) (TB : LamX.TabB base mg c pt) (hT : (pt, ("guard.<locals>.<lambda>" : Str)) ∈ T) (hu : ∀ p ∈ T, p.1 = pt → p.2 = ("guard.<locals>.<lambda>" : Str))
    (X1 : Fn P w K mg base "is_user" 1 ["number"] (spIs isUser)) (X2 : Fn P w K mg base "are_roles" 2 ["row"] (spAreRoles K)) (X3 : Fn P w K mg base "role_bits" 2 ["user", "roles"] (spRoleBitsL K)) (X4 : Fn P w K mg base "find_guard" 6 ["held", "moves", "count", "is_wanted"] (spFindGuard P w K mg base T a))
    (X5 : Fn P w K mg base "moves_of" 5 ["rules", "doers"] (spMovesOf K a)) (X6 : Fn P w K mg base "tell_row" 1 ["row"] spTellRow) :
    FnOk P w K mg base CX0 7 f fd ["house", "v", "roles"] (spGuard K T a) := by
  refine F.ok scGuard (fun vs H Q E h => ?_) (fun A outer s H vs Q E hr h => ?_)
  · obtain ⟨F0, p, ra, l, h, v, r, rfl, _⟩ := h
    rfl
  · obtain ⟨F0, p, ra, l, h, v, r, rfl, hh, ho, hS, hTabs, k⟩ := h
    obtain ⟨f1, fd1, G1, m1, k1, b1⟩ := X1.ex
    obtain ⟨f2, fd2, G2, m2, k2, b2⟩ := X2.ex
    obtain ⟨f3, fd3, G3, m3, k3, b3⟩ := X3.ex
    obtain ⟨f4, fd4, G4, m4, k4, b4⟩ := X4.ex
    obtain ⟨f5, fd5, G5, m5, k5, b5⟩ := X5.ex
    obtain ⟨f6, fd6, G6, m6, k6, b6⟩ := X6.ex
    obtain ⟨t1, n1⟩ := TH.not1
    obtain ⟨t6, n6⟩ := TH.had6
    have hr1 : Room 1 _ := hr.mono (by decide)
    have hr2 : Room 2 _ := hr.mono (by decide)
    have hr5 : Room 5 _ := hr.mono (by decide)
    obtain ⟨⟨dx, aa, hp, haa, nar⟩, ⟨rs, hra, hrs⟩, hfr, hfo⟩ := id hh
    have fB : NdefX.ndefB (defScope sGuard) (lamScope lamGuard) ["wanted"] = true := by decide +kernel
    refine ⟨_, pss_cons (ps_if (PW.pt (pw_or (pt_not (pt_val (pe_call G1 hr1 rfl m1 k1 b1 .nil pass0 (pa_cons (pv 1) pa_nil)))) (pw_or1 (pt_not (pt_val (pe_call G2 hr2 rfl m2 k2 b2 .nil pass0 (pa_cons (pv 2) pa_nil))))))) (pss_one (ps_ret (pe_lst (pa_cons (pe_glob rfl n1 (v := .int (-1)) ⟨_, rfl⟩) pa_nil)))) pss_nil)
      (pss_cons (ps_set (i := 3) scGuard.nd rfl (Or.inr rfl) (pe_call G3 hr2 rfl m3 k3 b3 .nil pass0 (pa_cons (pv 1) (pa_cons (pv 2) pa_nil))))
      (pss_cons (ps_if (pt_cmpR op_eq (pe_op op_and (pe_fld (pv 0) rfl) (pv 3)) (pv 3) (nomark _)) (pss_one (ps_ret (pe_lst (pa_cons (pe_glob rfl n6 (v := .int (-6)) ⟨_, rfl⟩) pa_nil)))) pss_nil)
      (pss_cons (ps_set (i := 4) scGuard.nd rfl (Or.inl rfl) (pe_call G5 hr5 rfl m5 k5 b5 .nil pass0 (pa_cons (pe_fld (pv 0) rfl) (pa_cons (pe_fld (pv 0) rfl) pa_nil))))
      (pss_one (ps_ret (pe_call G6 hr1 rfl m6 k6 b6 .nil pass0 (pa_cons (Clo.pe_callX (fr := ["wanted"]) (js := [3]) G4 hr rfl m4 k4 b4 (fun ok => NdefX.Caps.made (scope := lamScope lamGuard) ok (NdefX.ndef_free fB) (NdefX.ndef_fr fB) rfl) (fun _ => rfl) (pa_cons (pe_fld (pv 0) rfl) (pa_cons (pv 4) (pa_cons (pe_callB call_len_seq (by rfl) TT.len PySem.boot_len (pa_cons (pe_fld (pv 0) rfl) pa_nil)) (pa_cons (Clo.pe_lamV TB rfl hT hu rfl (NdefX.ndef_free fB)) pa_nil))))) pa_nil))))))), ?_⟩
    have un : Wm04.step h (.guard v r) = (h, if isUser v = false ∨ isRoles r = false then [-1] else match Wm04.guard h.rules h.actors h.state (Wm04.hasAll v r) with
      | none => [-6]
      | some c => Wm04.told c) := rfl
    rw [un] at k
    refine ⟨_, rfl, v, rfl, _, rfl, ?_⟩
    cases hv : isUser v with
    | false =>
      rw [if_pos (.inl hv)] at k
      exact iteT (iteT ⟨(by show 1 ≤ sizeLine; decide), new_ends k hh⟩)
    | true =>
      refine iteF ⟨_, rfl, l, r, rfl, hS, _, rfl, ?_⟩
      cases hrr : isRoles r with
      | false =>
        rw [if_pos (.inr hrr)] at k
        exact iteT ⟨(by show 1 ≤ sizeLine; decide), new_ends k hh⟩
      | true =>
        rw [if_neg (by rw [hv, hrr]; simp)] at k
        refine iteF ?_
        have hbe : Below h.rules (Wm04.steps h.rules h.actors) := below_K ho.rules (List.range h.rules.length) h.actors
        refine ⟨_, rfl, _, rfl, v, l, r, rfl, isUser_iff.mp hv, hS, roles_mem hrr, ?_⟩
        -- if house.held & wanted == wanted
        refine ⟨_, rfl, p, a.CH, dx, _, _, rfl, hp, TH.cH, TH.nHeld, rfl, _, rfl, _, _, rfl, rfl, _, rfl, rfl, _, rfl, ?_⟩
        show (if decide (V.int (Builtin.bitAnd (h.state : Int) (mask v r : Int)) = V.int (mask v r : Int)) = true then _ else _)
        rw [bAnd, eqI, hasAll_mask]
        cases hw : Wm04.hasAll v r h.state with
        | true =>
          rw [guard_never hbe ho.state hw] at k
          exact iteT ⟨(by show 1 ≤ sizeLine; decide), new_ends k hh⟩
        | false =>
          refine iteF ?_
          -- moves = moves_of(house.rules, house.actors)
          refine ⟨_, rfl, p, a.CH, dx, _, _, rfl, hp, TH.cH, TH.nRules, rfl, _, rfl, p, a.CH, dx, _, _, rfl, hp, TH.cH, TH.nActors, rfl, ?_⟩
          refine ⟨ra, aa, rs, h.rules, h.actors, rfl, SqL.of hra, hrs.imp fun _ _ ⟨ne, ba, r, _⟩ => ⟨ne, ba, r⟩, ho.six, ho.rules, haa, ho.three, ho.actors, fun sl H0 ss e0 _ hsl hst => ?_⟩
          have M0 : Moves K a H0 h.rules h.actors (List.range h.rules.length) aa sl ss := ⟨SqL.of hsl, hst, ho.rules, ho.actors, ho.nd, ho.three⟩
          have hp0 := e0 _ _ hp
          have hra0 := e0 _ _ hra
          have hh0 := hh.same e0
          -- find_guard(house.held, moves, len(house.rules), lambda ..)
          refine ⟨_, rfl, p, a.CH, dx, _, _, rfl, hp0, TH.cH, TH.nHeld, rfl, _, rfl, _, rfl, p, a.CH, dx, _, _, rfl, hp0, TH.cH, TH.nRules, rfl, ra, _, rfl, .inl (SqL.of hra0), ?_⟩
          refine ⟨hTabs.ext e0, fun fl cl H1 e1 e1n t1' hfl hlam hcode L kp hL hcells => ?_⟩
          have hH1 := add_same1 hL
          have hh1 : HouseAt a F0 H1 p ra h := hh0.ext e1 e1n
          have F1 := fn1_mono (k := 3) (by decide) (lam_guard (P := P) (w := w) (K := K) (mg := mg) (base := base) (v := v) (r := r) (not_in hL hlam) (not_in hL hcode) kp)
          have M1 : Moves K a (Clo.addX H1 L) h.rules h.actors (List.range h.rules.length) aa sl ss := (M0.ext e1).ext (LamX.ExtN.of hH1)
          refine ⟨h.state, sl, aa, fl, h.rules, h.actors, ss, _, _, by rw [refs_len, hrs.len]; rfl, ho.state, M1, ho.six, F1, ⟨hH1 _ _ hlam, hH1 _ _ hcode, Clo.add_in _ _⟩, hw, t1'.ext hH1, fun q c H2 hc hc6 g2 hq2 => ?_⟩
          obtain ⟨inX, g3⟩ := g2.back hL hcells t1'
          refine ⟨inX, ?_⟩
          have Lq : L q = none := inX.out hq2 (fun o z => by unfold Clo.ExO at z; cases z)
          have hq3 : Clo.dropX H2 L q = some (.lst (iVs c)) := by rw [Clo.dropX_out Lq]; exact hq2
          -- tell_row(..)
          refine ⟨q, c, rfl, hq3, by omega, fun q4 H4 e4 hq4 hl4 => ?_⟩
          have g01 : Grew T H0 H1 := ⟨e1, e1n, fun _ => t1'⟩
          have gall : Grew T H H4 := ((Grew.same e0).trans g01).trans (g3.trans (Grew.same e4))
          refine k q4 H4 (e0.free (e1n q4 (g3.old q4 hq4))) ?_ (hh1.ext (g3.trans (Grew.same (T := T) e4)).ext (g3.trans (Grew.same (T := T) e4)).old) (Kept.grew gall)
          rw [hc]
          show _ = some (HO.lst (iL (Wm04.told c)))
          rw [told_row]
          exact hl4
/-! ### count_many -/
def spMany (T : List (Addr × Str)) (a : Ad) : Sp := fun vs H Q _ => ∃ (F0 : Addr → Prop) (p ra : Addr) (h : Wm04.House), vs = [.ref p] ∧ HouseAt a F0 H p ra h ∧ HouseOk h ∧ LamX.Tabs T H ∧ Ends T a F0 p ra H (Wm04.step h .many) Q
theorem scCountMany : FnScope ["house"] ["house"] (defScope sCountMany) := ⟨rfl, rfl, rfl, by decide +kernel, rfl, by decide +kernel, by decide +kernel⟩
theorem ok_countMany {f : Addr} {fd : FuncData} (F : Fun K "count_many" "count_many" sCountMany f fd) (TH : TxtH K mg a) (X1 : Fn P w K mg base "count_ways" 5 ["held", "moves"] (spCount K T a)) (X2 : Fn P w K mg base "moves_of" 5 ["rules", "doers"] (spMovesOf K a)) :
    FnOk P w K mg base CX0 6 f fd ["house"] (spMany T a) := by
  refine F.ok scCountMany (fun vs H Q E h => ?_) (fun cdv A outer s H vs Q E hr h => ?_)
  · obtain ⟨F0, p, ra, h, rfl, _⟩ := h
    rfl
  · obtain ⟨F0, p, ra, h, rfl, hh, ho, hTabs, k⟩ := h
    obtain ⟨f1, fd1, G1, m1, k1, b1⟩ := X1.ex
    obtain ⟨f2, fd2, G2, m2, k2, b2⟩ := X2.ex
    obtain ⟨⟨dx, aa, hp, haa, nar⟩, ⟨rs, hra, hrs⟩, hfr, hfo⟩ := id hh
    refine ⟨_, pss_one (ps_ret (pe_lst (pa_cons (pe_call G1 hr rfl m1 k1 b1 .nil pass0 (pa_cons (pe_fld (pv 0) rfl) (pa_cons (pe_call G2 hr rfl m2 k2 b2 .nil pass0 (pa_cons (pe_fld (pv 0) rfl) (pa_cons (pe_fld (pv 0) rfl) pa_nil))) pa_nil))) pa_nil))), ?_⟩
    have hbe : Below h.rules (Wm04.steps h.rules h.actors) := below_K ho.rules (List.range h.rules.length) h.actors
    refine ⟨_, rfl, p, a.CH, dx, _, _, rfl, hp, TH.cH, TH.nHeld, rfl, ?_⟩
    refine ⟨_, rfl, p, a.CH, dx, _, _, rfl, hp, TH.cH, TH.nRules, rfl, _, rfl, p, a.CH, dx, _, _, rfl, hp, TH.cH, TH.nActors, rfl, ?_⟩
    refine ⟨ra, aa, rs, h.rules, h.actors, rfl, SqL.of hra, hrs.imp fun _ _ ⟨ne, ba, r, _⟩ => ⟨ne, ba, r⟩, ho.six, ho.rules, haa, ho.three, ho.actors, fun sl H1 ss e1 _ hsl hst => ?_⟩
    have M : Moves K a H1 h.rules h.actors (List.range h.rules.length) aa sl ss := ⟨SqL.of hsl, hst, ho.rules, ho.actors, ho.nd, ho.three⟩
    refine ⟨h.state, sl, aa, h.rules, h.actors, List.range h.rules.length, ss, rfl, ho.state, M, hTabs.ext e1, fun n H2 hn g2 => ?_⟩
    refine ⟨(by show 1 ≤ sizeLine; decide), fun q hq => ?_⟩
    have g : Grew T H H2 := (Grew.same e1).trans g2
    have gq : Grew T H (upd H2 q (.lst [iV (queue h.rules (stepsK (List.range h.rules.length) h.actors) h.state n).length])) := g.trans (Grew.same (new_same hq))
    refine k q _ (g.old q hq) ?_ (hh.ext gq.ext gq.old) (Kept.grew gq)
    rw [upd_same]
    have e : Wm04.step h .many = (h, Wm04.ints [Wm04.many h.rules h.actors h.state]) := rfl
    rw [e, many_queue hbe ho.state (steps_eq _ _) hn]
    rfl
end
end Wp

set_option Elab.async false
set_option maxRecDepth 100000
set_option maxHeartbeats 2000000
namespace Wp
open PySem PySem.Spec PyProof.Rows L2 Wc
open Wm04 (place has isUser isRole isRoles rises)
abbrev sRdInit : Stmt := inClass (top 64) 0
abbrev sRdMore : Stmt := inClass (top 64) 1
abbrev sRdNum : Stmt := inClass (top 64) 2
abbrev sRdRow : Stmt := inClass (top 64) 3
structure TxtR (K : PySem.W.Frag) (mg : Str → Option Value) (a : Ad) : Prop where
  gReader : mg "Reader" = some (.ref a.CD)
  cD : Cls K a.CD
  nNumbers : NoAttr K a.CD "numbers"
  nAt : NoAttr K a.CD "at"
def rdF (l : Addr) (i : Nat) : List (Str × V) := [("numbers", .ref l), ("at", iV i)]
def ReaderAt (a : Ad) (H : Hp) (p l : Addr) (i : Nat) : Prop := ∃ dx, H p = some (.ins a.CD dx (rdF l i))
theorem iL_get {l : List Int} {i : Nat} {z : Int} (h : l[i]? = some z) : (iL l)[i]? = some (.int z) := by unfold iL; rw [List.getElem?_map, h]; rfl
theorem iL_len (l : List Int) : (iL l).length = l.length := List.length_map _
theorem iL_ofN (l : List Nat) : iL (ofN l) = iVs l := by unfold iL ofN iVs; rw [List.map_map]; rfl
theorem cut_mid {l : List Int} {i m : Nat} (h : i + m ≤ l.length) : cutV (iL l) (some (i : Int)) (some ((i + m : Nat) : Int)) = iL ((l.drop i).take m) := by
  unfold cutV
  rw [HT.sIx_nat, HT.sIx_nat, iL_len, Nat.min_eq_left (show i ≤ l.length by omega), Nat.min_eq_left h, Nat.add_sub_cancel_left]
  unfold iL
  rw [List.map_take, List.map_drop]
/-- the request's list: known and never written, or of the top's -/
def ReqAt (K : PySem.W.Frag) (H : Hp) (l : Addr) (ns : List Int) : Prop := (∃ o, H l = some (.frz o (.lst (iL ns)))) ∨
  ∃ (o : Obj) (its : Array Value) (n : Nat), K.lookup l = some o ∧ o.cls = .type "list" ∧ o.dict = none ∧ o.data = .seq its n ∧ its.size ≤ sizeLine ∧ Vals (iL ns) its.toList
section
variable {P : Program} {w : World} {K : PySem.W.Frag} {mg : Str → Option Value} {base : Heap} {a : Ad} {T : List (Addr × Str)}
theorem ReqAt.sq {H : Hp} {l : Addr} {ns : List Int} (h : ReqAt K H l ns) : SqL K H l (iL ns) := by
  rcases h with ⟨o, h⟩ | h
  · exact .inl (.inr ⟨o, h⟩)
  · exact .inr h
theorem ReqAt.but {H H' : Hp} {p l : Addr} {ns : List Int} {C dx : Addr} {fs : List (Str × V)} (h : ReqAt K H l ns) (hp : H p = some (.ins C dx fs)) (e : ∀ b o, H b = some o → b ≠ p → H' b = some o) : ReqAt K H' l ns := by
  rcases h with ⟨o, h⟩ | h
  · exact .inl ⟨o, e _ _ h (ne_of h hp (by intro z; cases z))⟩
  · exact .inr h
def spRdInit (a : Ad) : Sp := fun vs H Q _ => ∃ p dx l : Addr, vs = [.ref p, .ref l] ∧ H p = some (.ins a.CD dx []) ∧ Q .non (upd H p (.ins a.CD dx (rdF l 0)))
theorem scRdInit : FnScope ["self", "numbers"] ["self", "numbers"] (defScope sRdInit) := ⟨rfl, rfl, rfl, by decide +kernel, rfl, by decide +kernel, by decide +kernel⟩
theorem ok_rdInit {f : Addr} {fd : FuncData} (F : Fun K "__init__" "Reader.__init__" sRdInit f fd) (TR : TxtR K mg a) : FnOk P w K mg base CX0 1 f fd ["self", "numbers"] (spRdInit a) := by
  refine F.ok scRdInit (fun vs H Q E h => ?_) (fun cdv A outer s H vs Q E hr h => ?_)
  · obtain ⟨p, dx, l, rfl, _⟩ := h
    rfl
  · obtain ⟨p, dx, l, rfl, hp, k⟩ := h
    refine ⟨_, pss_cons (ps_fld (pv 0) (pv 1) rfl) (pss_one (ps_fld (pv 0) pe_int rfl)), ?_⟩
    refine ⟨_, rfl, _, rfl, p, a.CD, dx, [], rfl, hp, TR.cD, TR.nNumbers, (by show 0 < 1000; decide), ?_⟩
    refine ⟨_, rfl, p, a.CD, dx, _, rfl, upd_same, TR.cD, TR.nAt, (by show 1 < 1000; decide), ?_⟩
    rw [upd_upd]
    exact k
def spRdMore (K : PySem.W.Frag) (a : Ad) : Sp := fun vs H Q _ => ∃ (p l : Addr) (i : Nat) (ns : List Int), vs = [.ref p] ∧ ReaderAt a H p l i ∧ ReqAt K H l ns ∧ Q (.bl (decide (i < ns.length))) H
theorem scRdMore : FnScope ["self"] ["self"] (defScope sRdMore) := ⟨rfl, rfl, rfl, by decide +kernel, rfl, by decide +kernel, by decide +kernel⟩
theorem ok_rdMore {f : Addr} {fd : FuncData} (F : Fun K "has_more" "Reader.has_more" sRdMore f fd) (TT : Txt K mg a) (TR : TxtR K mg a) : FnOk P w K mg base CX0 1 f fd ["self"] (spRdMore K a) := by
  refine F.ok scRdMore (fun vs H Q E h => ?_) (fun cdv A outer s H vs Q E hr h => ?_)
  · obtain ⟨p, l, i, ns, rfl, _⟩ := h
    rfl
  · obtain ⟨p, l, i, ns, rfl, ⟨dx, hp⟩, hS, k⟩ := h
    refine ⟨_, pss_one (ps_ret (pe_cmpR op_lt (pe_fld (pv 0) rfl) (pe_callB call_len_seq (by rfl) TT.len PySem.boot_len (pa_cons (pe_fld (pv 0) rfl) pa_nil)) (nomark _))), ?_⟩
    refine ⟨_, rfl, p, a.CD, dx, _, _, rfl, hp, TR.cD, TR.nAt, rfl, _, rfl, p, a.CD, dx, _, _, rfl, hp, TR.cD, TR.nNumbers, rfl, l, _, rfl, .inl hS.sq, _, _, rfl, rfl, ?_⟩
    rw [iL_len]
    have e : decide ((i : Int) < ((ns.length : Nat) : Int)) = decide (i < ns.length) := by
      rw [Bool.eq_iff_iff, decide_eq_true_iff, decide_eq_true_iff]
      omega
    show Q (.bl (decide ((i : Int) < ((ns.length : Nat) : Int)))) H
    rw [e]
    exact k
def spRdNum (K : PySem.W.Frag) (a : Ad) : Sp := fun vs H Q _ => ∃ (p l : Addr) (i : Nat) (ns : List Int) (z : Int), vs = [.ref p] ∧ ReaderAt a H p l i ∧ ReqAt K H l ns ∧ ns[i]? = some z ∧
  ∀ H', ReaderAt a H' p l (i + 1) → (∀ b o, H b = some o → b ≠ p → H' b = some o) → (∀ b, H b = none → H' b = none) → Q (.int z) H'
theorem scRdNum : FnScope ["self", "found"] ["self"] (defScope sRdNum) := ⟨rfl, rfl, rfl, by decide +kernel, rfl, by decide +kernel, by decide +kernel⟩
theorem ok_rdNum {f : Addr} {fd : FuncData} (F : Fun K "read_number" "Reader.read_number" sRdNum f fd) (TR : TxtR K mg a) : FnOk P w K mg base CX0 1 f fd ["self"] (spRdNum K a) := by
  refine F.ok scRdNum (fun vs H Q E h => ?_) (fun cdv A outer s H vs Q E hr h => ?_)
  · obtain ⟨p, l, i, ns, z, rfl, _⟩ := h
    rfl
  · obtain ⟨p, l, i, ns, z, rfl, ⟨dx, hp⟩, hS, hz, k⟩ := h
    refine ⟨_, pss_cons (ps_set (i := 1) scRdNum.nd rfl (Or.inl rfl) (pe_ix ix_list (pe_fld (pv 0) rfl) (pe_fld (pv 0) rfl) (fun _ _ => rfl)))
      (pss_cons (ps_fld (pv 0) (pe_op op_add (pe_fld (pv 0) rfl) pe_int) rfl) (pss_one (ps_ret (pv 1)))), ?_⟩
    refine ⟨_, rfl, p, a.CD, dx, _, _, rfl, hp, TR.cD, TR.nNumbers, rfl, _, rfl, p, a.CD, dx, _, _, rfl, hp, TR.cD, TR.nAt, rfl, l, _, _, _, rfl, rfl, hS.sq, atI_nat (iL_get hz), ?_⟩
    refine ⟨_, rfl, p, a.CD, dx, _, _, rfl, hp, TR.cD, TR.nAt, rfl, _, _, rfl, rfl, _, rfl, p, a.CD, dx, _, rfl, hp, TR.cD, TR.nAt, (by show 2 < 1000; decide), ?_⟩
    refine ⟨_, rfl, k _ ⟨dx, upd_same⟩ (fun b o e hb => (upd_ne hb).trans e) fun b e => ?_⟩
    have nb : b ≠ p := fun z => by rw [z, hp] at e; cases e
    exact (upd_ne nb).trans e
def spRdRow (K : PySem.W.Frag) (a : Ad) : Sp := fun vs H Q _ => ∃ (p l : Addr) (i m : Nat) (ns : List Int), vs = [.ref p] ∧ ReaderAt a H p l i ∧ ReqAt K H l ns ∧ ns[i]? = some (m : Int) ∧ i + 1 + m ≤ ns.length ∧
  ∀ (q : Addr) (H' : Hp), H q = none → H' q = some (.lst (iL ((ns.drop (i + 1)).take m))) → ReaderAt a H' p l (i + 1 + m) → (∀ b o, H b = some o → b ≠ p → H' b = some o) → (∀ b, H' b = none → H b = none) → Q (.ref q) H'
theorem scRdRow : FnScope ["self", "size", "row"] ["self"] (defScope sRdRow) := ⟨rfl, rfl, rfl, by decide +kernel, rfl, by decide +kernel, by decide +kernel⟩
theorem ok_rdRow {f : Addr} {fd : FuncData} (F : Fun K "read_row" "Reader.read_row" sRdRow f fd) (TR : TxtR K mg a) (X1 : Mth P w K mg base a.CD "read_number" 1 ["self"] (spRdNum K a)) : FnOk P w K mg base CX0 2 f fd ["self"] (spRdRow K a) := by
  refine F.ok scRdRow (fun vs H Q E h => ?_) (fun cdv A outer s H vs Q E hr h => ?_)
  · obtain ⟨p, l, i, m, ns, rfl, _⟩ := h
    rfl
  · obtain ⟨p, l, i, m, ns, rfl, hR, hS, hz, hm, k⟩ := h
    obtain ⟨f1, fd1, M1, G1, b1⟩ := X1.ex
    obtain ⟨dx, hp⟩ := id hR
    refine ⟨_, pss_cons (ps_set (i := 1) scRdRow.nd rfl (Or.inl rfl) (pe_meth0 (pv 0) TR.cD M1 G1 hr b1 .nil pass0))
      (pss_cons (ps_set (i := 2) scRdRow.nd rfl (Or.inl rfl) (pe_slice sl_list (pe_fld (pv 0) rfl) (po_some (pe_fld (pv 0) rfl)) (po_some (pe_op op_add (pe_fld (pv 0) rfl) (pv 1)))))
      (pss_cons (ps_fld (pv 0) (pe_op op_add (pe_fld (pv 0) rfl) (pv 1)) rfl) (pss_one (ps_ret (pv 2))))), ?_⟩
    refine ⟨_, rfl, p, dx, _, rfl, hp, rfl, p, l, i, ns, (m : Int), rfl, hR, hS, hz, fun H1 hR1 e1 n1 => ?_⟩
    obtain ⟨d1, hp1⟩ := id hR1
    have hS1 := hS.but hp e1
    refine ⟨_, rfl, p, a.CD, d1, _, _, rfl, hp1, TR.cD, TR.nNumbers, rfl, _, rfl, p, a.CD, d1, _, _, rfl, hp1, TR.cD, TR.nAt, rfl, _, rfl, _, rfl, p, a.CD, d1, _, _, rfl, hp1, TR.cD, TR.nAt, rfl, _, rfl, _, _, rfl, rfl, _, rfl, l, _, rfl, hS1.sq, fun q hq => ?_⟩
    have ec : cutV (iL ns) (some ((i + 1 : Nat) : Int)) (some (((i + 1 : Nat) : Int) + (m : Int))) = iL ((ns.drop (i + 1)).take m) := cut_mid (i := i + 1) (m := m) (by omega)
    rw [ec]
    have npq : p ≠ q := fun z => by rw [← z, hp1] at hq; cases hq
    have hp2 : upd H1 q (.lst (iL ((ns.drop (i + 1)).take m))) p = some (.ins a.CD d1 (rdF l (i + 1))) := (upd_ne npq).trans hp1
    refine ⟨_, rfl, p, a.CD, d1, _, _, rfl, hp2, TR.cD, TR.nAt, rfl, _, rfl, _, _, rfl, rfl, _, rfl, p, a.CD, d1, _, rfl, hp2, TR.cD, TR.nAt, (by show 2 < 1000; decide), ?_⟩
    have hq0 : H q = none := by
      cases z : H q with
      | none => rfl
      | some o => rw [e1 q o z npq.symm] at hq; cases hq
    refine ⟨_, rfl, k q _ hq0 ?_ ⟨d1, upd_same⟩ (fun b o e hb => ?_) fun b e => ?_⟩
    · rw [upd_ne npq.symm, upd_same]
    · rw [upd_ne hb, upd_ne (fun z => by rw [z, hq0] at e; cases e)]
      exact e1 b o e hb
    · have e' := NdefX.upd_none (NdefX.upd_none e)
      cases z : H b with
      | none => rfl
      | some o =>
        have nb : b ≠ p := fun y => by rw [y, hp1] at e'; cases e'
        rw [e1 b o z nb] at e'
        cases e'
end
end Wp

set_option Elab.async false
set_option maxRecDepth 100000
set_option maxHeartbeats 2000000
namespace Wp
open PySem PySem.Spec PyProof.Rows L2 Wc
open Wm04 (place has isUser isRole isRoles rises)
/-! ### a house stays well -/
theorem roles_four {l : List Nat} (h : isRoles l = true) : l.length ≤ 4 := by
  have hm := roles_mem h
  unfold isRoles at h
  rw [Bool.and_eq_true] at h
  cases l with
  | nil => simp
  | cons x l =>
    have q := rises_count l x 4 h.1 (fun y hy => (hm y hy).2)
    have := (hm x (by simp)).1
    simp
    omega
theorem added_ok {h : Wm04.House} (ho : HouseOk h) {k : Wm04.Rule} (hk : RuleOk k) : HouseOk (added h k).1 := by
  unfold added
  split
  · exact ho
  · refine ⟨ho.state, ?_, fun r hr => ?_, ho.three, ho.actors, ho.nd⟩
    · show (h.rules ++ [k]).length ≤ 6
      rw [List.length_append]
      simp
      omega
    · rcases List.mem_append.mp hr with q | q
      · exact ho.rules r q
      · have e : r = k := by simpa using q
        rw [e]; exact hk
theorem step_ok {h : Wm04.House} (ho : HouseOk h) (x : Wm04.Call) : HouseOk (Wm04.step h x).1 := by
  cases x with
  | set v l =>
    show HouseOk (if isUser v = false ∨ isRoles l = false then (h, [-1]) else ({ h with state := Wm04.setRoles h.state v l }, [0])).1
    by_cases c : isUser v = false ∨ isRoles l = false
    · rw [if_pos c]; exact ho
    · rw [if_neg c]
      have hv : isUser v = true := by cases e : isUser v with | true => rfl | false => exact absurd (.inl e) c
      exact ⟨setRoles_lt ho.state (isUser_iff.mp hv), ho.six, ho.rules, ho.three, ho.actors, ho.nd⟩
  | give b r n l =>
    show HouseOk (if isRole b = false ∨ isRole r = false ∨ l.length < n ∨ isRoles (l.take n) = false ∨ isRoles (l.drop n) = false then (h, [-1]) else added h ⟨true, b, l.take n, l.drop n, r⟩).1
    by_cases c : isRole b = false ∨ isRole r = false ∨ l.length < n ∨ isRoles (l.take n) = false ∨ isRoles (l.drop n) = false
    · rw [if_pos c]; exact ho
    · rw [if_neg c]
      have h1 : isRole b = true := by cases e : isRole b with | true => rfl | false => exact absurd (.inl e) c
      have h2 : isRole r = true := by cases e : isRole r with | true => rfl | false => exact absurd (.inr (.inl e)) c
      have h3 : isRoles (l.take n) = true := by cases e : isRoles (l.take n) with | true => rfl | false => exact absurd (.inr (.inr (.inr (.inl e)))) c
      have h4 : isRoles (l.drop n) = true := by cases e : isRoles (l.drop n) with | true => rfl | false => exact absurd (.inr (.inr (.inr (.inr e)))) c
      exact added_ok ho ⟨isRole_iff.mp h1, isRole_iff.mp h2, roles_mem h3, roles_mem h4, roles_four h3, roles_four h4⟩
  | take b r =>
    show HouseOk (if isRole b = false ∨ isRole r = false then (h, [-1]) else added h ⟨false, b, [], [], r⟩).1
    by_cases c : isRole b = false ∨ isRole r = false
    · rw [if_pos c]; exact ho
    · rw [if_neg c]
      have h1 : isRole b = true := by cases e : isRole b with | true => rfl | false => exact absurd (.inl e) c
      have h2 : isRole r = true := by cases e : isRole r with | true => rfl | false => exact absurd (.inr e) c
      exact added_ok ho ⟨isRole_iff.mp h1, isRole_iff.mp h2, fun r hr => absurd hr (by simp), fun r hr => absurd hr (by simp), (by show 0 ≤ 4; decide), (by show 0 ≤ 4; decide)⟩
  | strike n =>
    show HouseOk (if h.rules.length ≤ n then (h, [-2]) else ({ h with rules := h.rules.take n ++ h.rules.drop (n + 1) }, Wm04.ints [h.rules.length - 1])).1
    by_cases c : h.rules.length ≤ n
    · rw [if_pos c]; exact ho
    · rw [if_neg c]
      refine ⟨ho.state, ?_, fun r hr => ?_, ho.three, ho.actors, ho.nd⟩
      · show (h.rules.take n ++ h.rules.drop (n + 1)).length ≤ 6
        rw [← List.eraseIdx_eq_take_drop_succ]
        exact Nat.le_trans (List.length_eraseIdx_le _ _) ho.six
      · have hr' : r ∈ h.rules.take n ++ h.rules.drop (n + 1) := hr
        rcases List.mem_append.mp hr' with q | q
        · exact ho.rules r (List.mem_of_mem_take q)
        · exact ho.rules r (List.mem_of_mem_drop q)
  | actors l =>
    show HouseOk (if rises l = false ∨ l.all isUser = false then (h, [-1]) else ({ h with actors := l }, [0])).1
    by_cases c : rises l = false ∨ l.all isUser = false
    · rw [if_pos c]; exact ho
    · rw [if_neg c]
      have h1 : (rises l && l.all isUser) = true := by
        cases e : (rises l && l.all isUser) with
        | true => rfl
        | false => exact absurd (Bool.and_eq_false_iff.mp e) c
      have q := users_len h1
      exact ⟨ho.state, ho.six, ho.rules, q.1, q.2.1, q.2.2⟩
  | do_ n u v =>
    show HouseOk (if isUser u = false ∨ isUser v = false then (h, [-1]) else if h.rules.length ≤ n then (h, [-2]) else if Wm04.may h.rules h.state ⟨n, u, v⟩ = false then (h, [-6]) else
      ({ h with state := Wm04.did h.rules h.state ⟨n, u, v⟩ }, Wm04.told (Wm04.rolesOf (Wm04.did h.rules h.state ⟨n, u, v⟩) v))).1
    by_cases c : isUser u = false ∨ isUser v = false
    · rw [if_pos c]; exact ho
    · rw [if_neg c]
      have h2 : isUser v = true := by cases e : isUser v with | true => rfl | false => exact absurd (.inr e) c
      split
      · exact ho
      · split
        · exact ho
        · exact ⟨did_lt (fun r hr => (ho.rules r hr).role) ho.state (isUser_iff.mp h2), ho.six, ho.rules, ho.three, ho.actors, ho.nd⟩
  | can v l => exact ho
  | lose v r => exact ho
  | never r q => exact ho
  | guard v l => exact ho
  | many => exact ho
  | roles v => exact ho
  | now => exact ho
theorem init_ok : HouseOk Wm04.init := ⟨by decide, by decide, fun r hr => absurd hr (by simp [Wm04.init]), by decide, fun u hu => by
  have : u = 1 ∨ u = 2 ∨ u = 3 := by simpa [Wm04.init] using hu
  unfold User
  omega, by decide⟩
/-! ### the calls played -/
def stp (s : Wm04.House) (c : List (List Int)) : Wm04.House × List Int := Wm04Neutral.step s (c.headD [])
def CallOk (c : List (List Int)) : Prop := ∃ x, Wm04Neutral.callOf ((PyWm04.whole c).headD []) = some x
theorem stp_of {s : Wm04.House} {c : List (List Int)} {x : Wm04.Call} (h : Wm04Neutral.callOf ((PyWm04.whole c).headD []) = some x) : stp s (PyWm04.whole c) = Wm04.step s x := by
  unfold stp Wm04Neutral.step
  rw [h]
def rest (h : Wm04.House) (raw : List (List (List Int))) : List Int := PyFlat.told (PyFlat.played stp h (raw.map PyWm04.whole))
theorem rest_cons {h : Wm04.House} {c : List (List Int)} {raw : List (List (List Int))} {x : Wm04.Call} (hx : Wm04Neutral.callOf ((PyWm04.whole c).headD []) = some x) :
    rest h (c :: raw) = ((Wm04.step h x).2.length : Int) :: (Wm04.step h x).2 ++ rest (Wm04.step h x).1 raw := by
  show PyFlat.told ((stp h (PyWm04.whole c)).2 :: PyFlat.played stp (stp h (PyWm04.whole c)).1 (raw.map PyWm04.whole)) = _
  rw [stp_of hx]
  rfl
theorem calls_cons {f : Nat} {p : Int} {r : List Int} {raw : List (List (List Int))} (h : PyFlat.calls PyWm04.shape f (p :: r) = some raw) : ∃ c t f' raw', PyFlat.call PyWm04.shape (p :: r) = some (c, t) ∧ PyFlat.calls PyWm04.shape f' t = some raw' ∧ raw = c :: raw' := by
  cases f with
  | zero => cases h
  | succ f =>
    unfold PyFlat.calls at h
    cases e : PyFlat.call PyWm04.shape (p :: r) with
    | none => rw [e] at h; cases h
    | some ct =>
      obtain ⟨c, t⟩ := ct
      rw [e] at h
      dsimp only at h
      cases e2 : PyFlat.calls PyWm04.shape f t with
      | none => rw [e2] at h; cases h
      | some raw' =>
        rw [e2] at h
        cases h
        exact ⟨c, t, f, raw', rfl, e2, rfl⟩
theorem calls_nil {f : Nat} {raw : List (List (List Int))} (h : PyFlat.calls PyWm04.shape f [] = some raw) : raw = [] := by
  cases f <;> (unfold PyFlat.calls at h; cases h; rfl)
theorem asked_all {ns : List Int} (h : PyWm04.answers_asked ns = true) : ∃ raw, PyFlat.calls PyWm04.shape ns.length ns = some raw ∧ (∀ c ∈ raw, CallOk c) ∧ PyWm04.answers ns = rest Wm04.init raw ∧ (PyWm04.answers ns).length ≤ 10000000 := by
  unfold PyWm04.answers_asked at h
  cases e : PyFlat.calls PyWm04.shape ns.length ns with
  | none => rw [e] at h; cases h
  | some raw =>
    rw [e] at h
    simp only [Bool.and_eq_true] at h
    obtain ⟨⟨_, ha⟩, hs⟩ := h
    refine ⟨raw, rfl, fun c hc => ?_, ?_, ?_⟩
    · unfold Wm04Neutral.asked at ha
      rw [Bool.and_eq_true, List.all_eq_true] at ha
      have q := ha.1 ((PyWm04.whole c).headD []) (List.mem_map.mpr ⟨PyWm04.whole c, List.mem_map.mpr ⟨c, hc, rfl⟩, rfl⟩)
      exact Option.isSome_iff_exists.mp q
    · unfold PyWm04.answers PyWm04.calls
      rw [e]
      rfl
    · unfold PyFlat.short at hs
      simpa using hs
theorem enc_pos (x : Wm04.Call) : 1 ≤ (enc x).length := by cases x <;> simp [enc]
end Wp

set_option Elab.async false
set_option maxRecDepth 100000
set_option maxHeartbeats 2000000
namespace Wp
open PySem PySem.Spec PyProof.Rows L2 Wc
abbrev sAnswers : Stmt := top 68
section
variable {P : Program} {w : World} {K : PySem.W.Frag} {mg : Str → Option Value} {base : Heap} {a : Ad} {T : List (Addr × Str)}
/-- answer_call: the call that lies next is answered -/
def spAnswer (K : PySem.W.Frag) (T : List (Addr × Str)) (a : Ad) : Sp := fun vs H Q _ => ∃ (F0 : Addr → Prop) (p ra rp l : Addr) (h : Wm04.House) (ns : List Int) (i : Nat) (x : Wm04.Call) (t : List Int), vs = [.ref p, .ref rp] ∧ HouseAt a F0 H p ra h ∧ HouseOk h ∧ ReaderAt a H rp l i ∧ ReqAt K H l ns ∧ LamX.Tabs T H ∧ ns.drop i = ofN (enc x) ++ t ∧
  ∀ (q : Addr) (H' : Hp), H q = none → H' q = some (.lst (iL (Wm04.step h x).2)) → HouseAt a F0 H' p ra (Wm04.step h x).1 → ReaderAt a H' rp l (i + (enc x).length) → (∀ b o, H b = some o → b ≠ p → b ≠ ra → b ≠ rp → (∀ ps, o ≠ .tbl ps) → H' b = some o) → LamX.Tabs T H' → Q (.ref q) H'
def spAns (K : PySem.W.Frag) (T : List (Addr × Str)) : Sp := fun vs H Q _ => ∃ (l : Addr) (ns : List Int), vs = [.ref l] ∧ ReqAt K H l ns ∧ PyWm04.answers_asked ns = true ∧ LamX.Tabs T H ∧ ∀ (q : Addr) (H' : Hp), H' q = some (.lst (iL (PyWm04.answers ns))) → Q (.ref q) H'
theorem scAnswers : FnScope ["calls", "reader", "house", "told", "answer"] ["calls"] (defScope sAnswers) := ⟨rfl, rfl, rfl, by decide +kernel, rfl, by decide +kernel, by decide +kernel⟩
theorem ok_answers {f : Addr} {fd : FuncData} (F : Fun K "answers" "answers" sAnswers f fd) (TT : Txt K mg a) (TH : TxtH K mg a) (TR : TxtR K mg a) (X1 : Made P w K mg base a.CD 1 ["self", "numbers"] (spRdInit a)) (X2 : Made P w K mg base a.CH 1 ["self"] (spHouseInit a))
    (X3 : Mth P w K mg base a.CD "has_more" 1 ["self"] (spRdMore K a)) (X4 : Fn P w K mg base "answer_call" 9 ["house", "reader"] (spAnswer K T a)) : FnOk P w K mg base CX0 10 f fd ["calls"] (spAns K T) := by
  refine F.ok scAnswers (fun vs H Q E h => ?_) (fun cdv A outer s H vs Q E hr h => ?_)
  · obtain ⟨l, ns, rfl, _⟩ := h
    rfl
  · obtain ⟨l, ns, rfl, hS, hask, hT, k⟩ := h
    obtain ⟨f1, fd1, M1, G1, b1⟩ := X1.ex
    obtain ⟨f2, fd2, M2, G2, b2⟩ := X2.ex
    obtain ⟨f3, fd3, M3, G3, b3⟩ := X3.ex
    obtain ⟨f4, fd4, G4, m4, k4, b4⟩ := X4.ex
    have hr1 : Room 1 _ := hr.mono (by decide)
    have hr2 : Room 2 _ := hr.mono (by decide)
    refine ⟨_, pss_cons (ps_set (i := 1) scAnswers.nd rfl (Or.inl rfl) (pe_make M1 G1 hr2 rfl TR.gReader b1 .nil pass0 (pa_cons (pv 0) pa_nil)))
      (pss_cons (ps_set (i := 2) scAnswers.nd rfl (Or.inl rfl) (pe_make0 M2 G2 hr2 rfl TH.gHouse b2 .nil pass0))
      (pss_cons (ps_set (i := 3) scAnswers.nd rfl (Or.inl rfl) (pe_lst pa_nil))
      (pss_cons (ps_while PassesOwn.never (pt_val (pe_meth0 (pv 1) TR.cD M3 G3 hr1 b3 .nil pass0))
        (pss_cons (ps_set (i := 4) scAnswers.nd rfl (Or.inl rfl) (pe_call G4 hr rfl m4 k4 b4 .nil pass0 (pa_cons (pv 2) (pa_cons (pv 1) pa_nil))))
        (pss_cons (ps_expr (pe_bm PySem.F.plainAttrs_list PySem.F.slot_list_append PySem.F.type_list_append mt_append (pv 3) (pa_cons (pe_callB call_len_seq (by rfl) TT.len PySem.boot_len (pa_cons (pv 4) pa_nil)) pa_nil)))
        (pss_one (ps_expr (pe_bm PySem.F.plainAttrs_list PySem.F.slot_list_extend PySem.F.type_list_extend mt_extend (pv 3) (pa_cons (pv 4) pa_nil)))))))
      (pss_one (ps_ret (pv 3)))))), ?_⟩
    obtain ⟨raw0, hc0, hok0, hans, hlen⟩ := asked_all hask
    -- reader = Reader(calls)
    refine ⟨_, rfl, ?_⟩
    intro rp dr nrp ndr nrd
    refine ⟨rp, dr, l, rfl, upd_same, rfl, ?_⟩
    rw [upd_upd]
    have e1 : Same H (upd (upd H dr (.own rp)) rp (.ins a.CD dr (rdF l 0))) := fun b o z => by
      rw [upd_ne (ne_of_none z nrp), upd_ne (ne_of_none z ndr)]
      exact z
    have hR1 : upd (upd H dr (.own rp)) rp (.ins a.CD dr (rdF l 0)) rp = some (.ins a.CD dr (rdF l 0)) := upd_same
    generalize upd (upd H dr (.own rp)) rp (.ins a.CD dr (rdF l 0)) = H1 at e1 hR1 ⊢
    -- house = House()
    intro hp dh nhp ndh nhd
    refine ⟨hp, dh, rfl, upd_same, fun ra H2 hra hh e2 => ⟨rfl, ?_⟩⟩
    have e2' : Same H1 H2 := fun b o z => e2 b o (by rw [upd_ne (ne_of_none z nhp), upd_ne (ne_of_none z ndh)]; exact z) (ne_of_none z nhp)
    -- told = []
    refine ⟨(by show 0 ≤ sizeLine; decide), fun tp htp => ?_⟩
    have e3 : Same H2 (upd H2 tp (.lst [])) := new_same htp
    have e13 : Same H (upd H2 tp (.lst [])) := (e1.trans e2').trans e3
    have ntr : tp ≠ ra := fun z => by
      obtain ⟨rs, h4, _⟩ := hh.rules
      rw [z, h4] at htp
      cases htp
    have hS3 : ReqAt K (upd H2 tp (.lst [])) l ns := by
      rcases hS with ⟨o, z⟩ | z
      · exact .inl ⟨o, e13 _ _ z⟩
      · exact .inr z
    refine while_by (fun σ H' => ∃ (i : Nat) (h : Wm04.House) (out : List Int) (fu : Nat) (raw : List (List (List Int))) (an : Option V), σ = [some (.ref l), some (.ref rp), some (.ref hp), some (.ref tp), an] ∧ ReqAt K H' l ns ∧ ReaderAt a H' rp l i ∧ HouseAt a (fun b => b = ra ∨ b = tp) H' hp ra h ∧ HouseOk h ∧ H' tp = some (.lst (iL out)) ∧ LamX.Tabs T H' ∧
        PyFlat.calls PyWm04.shape fu (ns.drop i) = some raw ∧ (∀ c ∈ raw, CallOk c) ∧ PyWm04.answers ns = out ++ rest h raw)
      (fun _ H' => match H' rp with | some (.ins _ _ [_, (_, .int i)]) => ns.length - i.toNat | _ => 0)
      ⟨0, Wm04.init, [], _, raw0, none, rfl, hS3, ⟨dr, e3 _ _ (e2' _ _ hR1)⟩, hh.more htp, init_ok, upd_same, hT.ext e13, hc0, hok0, by rw [hans]; rfl⟩ ?_ ?_
    · rintro σ H' ⟨i, h, out, fu, raw, an, rfl, hS', hR', hh', ho', ht', hT', hc', hok', hans'⟩
      obtain ⟨dr', hrp'⟩ := id hR'
      refine ⟨_, rfl, rp, dr', _, rfl, hrp', rfl, rp, l, i, ns, rfl, hR', hS', _, rfl, ?_⟩
      by_cases hi : i < ns.length
      · rw [decide_eq_true hi]
        refine iteT ?_
        obtain ⟨p, r, hpr⟩ : ∃ p r, ns.drop i = p :: r := ⟨_, _, List.drop_eq_getElem_cons hi⟩
        rw [hpr] at hc'
        obtain ⟨c, t, f', raw', hcall, hrest, rfl⟩ := calls_cons hc'
        obtain ⟨x, hx⟩ := hok' c (List.mem_cons_self ..)
        have hl := lies hcall hx
        have hl2 : ns.drop i = ofN (enc x) ++ t := by rw [hpr]; exact hl
        have ht2 : ns.drop (i + (enc x).length) = t := by
          rw [← List.drop_drop, hl2, List.drop_left' (by unfold ofN; rw [List.length_map])]
        rw [rest_cons hx] at hans'
        refine ⟨_, rfl, _, rfl, _, hp, ra, rp, l, h, ns, i, x, t, rfl, hh', ho', hR', hS', hT', hl2, fun q H3 hq hq3 hh3 hR3 e4 hT3 => ?_⟩
        obtain ⟨dx, aa, hph, haa, nar⟩ := hh'.ob
        have n1 : tp ≠ hp := ne_of ht' hph (by intro z; cases z)
        have n2 : tp ≠ rp := ne_of ht' hrp' (by intro z; cases z)
        have ht3 : H3 tp = some (.lst (iL out)) := e4 _ _ ht' n1 ntr n2 (fun _ z => by cases z)
        have nqt : q ≠ tp := fun z => by rw [z, ht'] at hq; cases hq
        have lens : out.length + ((Wm04.step h x).2.length + 1) ≤ 10000000 := by
          have := congrArg List.length hans'
          rw [List.length_append, List.length_append, List.length_cons] at this
          omega
        have hS4 : ReqAt K H3 l ns := by
          rcases hS' with ⟨o, z⟩ | z
          · obtain ⟨rs, h4, _⟩ := hh'.rules
            exact .inl ⟨o, e4 _ _ z (ne_of z hph (by intro y; cases y)) (ne_of z h4 (by intro y; cases y)) (ne_of z hrp' (by intro y; cases y)) (fun _ y => by cases y)⟩
          · exact .inr z
        -- told.append(len(answer))
        refine ⟨_, rfl, .inl ⟨rfl, _, SqL.of ht3⟩, _, rfl, q, _, rfl, .inl (SqL.of hq3), tp, _, _, rfl, rfl, ht3, ?_, ?_⟩
        · rw [iL_len]
          exact Nat.lt_of_le_of_lt (show out.length ≤ 10000000 by omega) (by decide)
        · -- told.extend(answer)
          refine ⟨_, rfl, .inl ⟨rfl, _, SqL.of upd_same⟩, _, rfl, tp, q, _, _, rfl, rfl, upd_same, (upd_ne nqt).trans hq3, ?_, ?_⟩
          · rw [List.length_append, iL_len, iL_len]
            exact Nat.le_trans (show out.length + [V.int _].length + (Wm04.step h x).2.length ≤ 10000000 by simp; omega) (by decide)
          · rw [upd_upd]
            have eo : iL out ++ [V.int ((iL (Wm04.step h x).2).length : Nat)] ++ iL (Wm04.step h x).2 = iL (out ++ (((Wm04.step h x).2.length : Int) :: (Wm04.step h x).2)) := by
              unfold iL
              simp
            rw [eo]
            have kt : ∀ b o, H3 b = some o → (∀ xs, o ≠ .lst xs) → upd H3 tp (.lst (iL (out ++ (((Wm04.step h x).2.length : Int) :: (Wm04.step h x).2)))) b = some o := fun b o z n => (upd_ne (fun y => by rw [y, ht3] at z; exact n _ (Option.some.inj z).symm)).trans z
            obtain ⟨d3, hr3⟩ := id hR3
            refine ⟨⟨i + (enc x).length, (Wm04.step h x).1, _, f', raw', some (.ref q), rfl, ?_, ⟨d3, kt _ _ hr3 (fun _ y => by cases y)⟩, ?_, step_ok ho' x, upd_same, ?_, by rw [ht2]; exact hrest, fun c hc => hok' c (List.mem_cons_of_mem _ hc), by rw [hans', List.append_assoc]⟩, ?_⟩
            · rcases hS4 with ⟨o, z⟩ | z
              · exact .inl ⟨o, kt _ _ z (fun _ y => by cases y)⟩
              · exact .inr z
            · exact hh3.other ht3 (.inr rfl) ntr
            · intro y hy
              obtain ⟨ps, e1, e2, e3⟩ := hT3 y hy
              refine ⟨ps, kt _ _ e1 (fun _ y => by cases y), e2, fun pos cv hc => ?_⟩
              obtain ⟨c, ec, hcc⟩ := e3 pos cv hc
              exact ⟨c, ec, kt _ _ hcc (fun _ y => by unfold LamX.CodeO at y; cases y)⟩
            · have m1 : (match upd H3 tp (.lst (iL (out ++ (((Wm04.step h x).2.length : Int) :: (Wm04.step h x).2)))) rp with | some (.ins _ _ [_, (_, .int i)]) => ns.length - i.toNat | _ => 0) = ns.length - (i + (enc x).length) := by
                rw [kt _ _ hr3 (fun _ y => by cases y)]
                show ns.length - ((i + (enc x).length : Nat) : Int).toNat = _
                rw [Int.toNat_natCast]
              have m2 : (match H' rp with | some (.ins _ _ [_, (_, .int i)]) => ns.length - i.toNat | _ => 0) = ns.length - i := by
                rw [hrp']
                show ns.length - ((i : Nat) : Int).toNat = _
                rw [Int.toNat_natCast]
              have := enc_pos x
              omega
      · rw [decide_eq_false hi]
        refine iteF ?_
        rw [List.drop_eq_nil_of_le (by omega)] at hc'
        have := calls_nil hc'
        subst this
        refine ⟨_, rfl, k tp H' ?_⟩
        rw [hans', ht']
        show _ = some (HO.lst (iL (out ++ [])))
        rw [List.append_nil]
    · rintro σ H' Q1 Q2 hQ ⟨v, hv, p, dx, fs, e1, e2, e3, p2, l2, i, ns2, e4, e5, e6, c, e7, q⟩
      exact ⟨v, hv, p, dx, fs, e1, e2, e3, p2, l2, i, ns2, e4, e5, e6, c, e7, hQ _ _ q⟩
end
end Wp

set_option Elab.async false
set_option maxRecDepth 100000
set_option maxHeartbeats 2000000
namespace Wp
open PySem PySem.Spec PyProof.Rows L2 Wc
open Wm04 (place has isUser isRole isRoles rises)
abbrev sAnswerChange : Stmt := top 65
abbrev sAnswerQuestion : Stmt := top 66
abbrev sAnswerCall : Stmt := top 67
/-! ### where the numbers lie -/
theorem num_at {ns t : List Int} {i j : Nat} {l : List Nat} {n : Nat} (h : ns.drop i = ofN l ++ t) (hj : l[j]? = some n) : ns[i + j]? = some (n : Int) := by
  have e : (ns.drop i)[j]? = ns[i + j]? := List.getElem?_drop
  have hl : j < l.length := (List.getElem?_eq_some_iff.mp hj).1
  rw [← e, h, List.getElem?_append_left (by unfold ofN; rw [List.length_map]; exact hl)]
  unfold ofN
  rw [List.getElem?_map, hj]
  rfl
theorem row_at {ns t : List Int} {i : Nat} {pre r : List Nat} (h : ns.drop i = ofN (pre ++ r.length :: r) ++ t) : ns[i + pre.length]? = some (r.length : Int) ∧ (ns.drop (i + pre.length + 1)).take r.length = ofN r ∧ i + pre.length + 1 + r.length ≤ ns.length := by
  refine ⟨num_at h (by rw [List.getElem?_append_right (Nat.le_refl _)]; simp), ?_, ?_⟩
  · have e : ns.drop (i + pre.length + 1) = ofN r ++ t := by
      rw [Nat.add_assoc, ← List.drop_drop, h]
      have e2 : ofN (pre ++ r.length :: r) ++ t = ofN (pre ++ [r.length]) ++ (ofN r ++ t) := by
        unfold ofN; simp
      rw [e2, List.drop_left' (by unfold ofN; simp)]
    rw [e, List.take_left' (by unfold ofN; rw [List.length_map])]
  · have := congrArg List.length h
    unfold ofN at this
    simp at this
    omega
section
variable {P : Program} {w : World} {K : PySem.W.Frag} {mg : Str → Option Value} {base : Heap} {a : Ad} {T : List (Addr × Str)}
/-- one of the dispatch's tests -/
theorem disp {k z : Int} {i : Nat} {σ : L2.St} {H : Hp} {D : L2.Ends} {body rest : TS} (hs : σ[i]? = some (some (.int z))) (hb : z = k → body { D with nx := rest D } σ H) (hn : z ≠ k → rest D σ H) : tSeq (tIfS (tTest (tOp rEq (tVar i) (tC (.int k)))) body tNext) rest D σ H := by
  refine ⟨_, hs, rfl, _, rfl, ?_⟩
  by_cases c : z = k
  · subst c
    rw [decide_eq_true rfl]
    exact iteT (hb rfl)
  · rw [decide_eq_false (fun y => c (V.int.inj y))]
    exact iteF (hn c)
/-- only the reader has gone on, new things may have been made -/
structure Went (a : Ad) (rp l : Addr) (i : Nat) (H H' : Hp) : Prop where
  stay : ∀ b o, H b = some o → b ≠ rp → H' b = some o
  rd : ReaderAt a H' rp l i
theorem Went.trans {rp l : Addr} {i j : Nat} {H H1 H2 : Hp} (x : Went a rp l i H H1) (y : Went a rp l j H1 H2) : Went a rp l j H H2 := ⟨fun b o e n => y.stay b o (x.stay b o e n) n, y.rd⟩
theorem Went.house {F0 : Addr → Prop} {rp l p ra : Addr} {i j : Nat} {h : Wm04.House} {H H' : Hp} (x : Went a rp l j H H') (hr : ReaderAt a H rp l i) (hh : HouseAt a F0 H p ra h) : HouseAt a F0 H' p ra h := by
  obtain ⟨dr, hr⟩ := hr
  obtain ⟨⟨dx, aa, h1, h2, h3⟩, ⟨rs, h4, h5⟩, fr, fo⟩ := hh
  have nl : ∀ {b xs}, H b = some (.lst xs) → b ≠ rp := fun e => ne_of e hr (by intro z; cases z)
  have np : p ≠ rp := ne_of h1 hr (by
    intro z
    injection z with _ _ z
    have := congrArg List.length z
    simp [hoF, rdF] at this)
  refine ⟨⟨dx, aa, x.stay _ _ h1 np, x.stay _ _ h2 (nl h2), h3⟩, ⟨rs, x.stay _ _ h4 (nl h4), h5.imp fun q k ⟨ne, ba, r, n1, n2⟩ => ⟨ne, ba, ?_, n1, n2⟩⟩, fr, fun b z => ?_⟩
  · obtain ⟨⟨dq, ho⟩, g1, g2⟩ := r
    have nq : q ≠ rp := ne_of ho hr (by
      intro z
      injection z with _ _ z
      have := congrArg List.length z
      simp [ruF, rdF] at this)
    exact ⟨⟨dq, x.stay _ _ ho nq⟩, x.stay _ _ g1 (nl g1), x.stay _ _ g2 (nl g2)⟩
  · by_cases c : b = rp
    · obtain ⟨d2, h2⟩ := x.rd
      rw [c]; exact ⟨_, h2⟩
    · obtain ⟨o, y⟩ := fo b z
      exact ⟨o, x.stay _ _ y c⟩
theorem Went.tabs {rp l : Addr} {i j : Nat} {H H' : Hp} (x : Went a rp l j H H') (hr : ReaderAt a H rp l i) (t : LamX.Tabs T H) : LamX.Tabs T H' := fun y hy => by
  obtain ⟨dr, hr⟩ := hr
  obtain ⟨ps, e1, e2, e3⟩ := t y hy
  refine ⟨ps, x.stay _ _ e1 (ne_of e1 hr (by intro z; cases z)), e2, fun pos cv hc => ?_⟩
  obtain ⟨c, ec, hcc⟩ := e3 pos cv hc
  exact ⟨c, ec, x.stay _ _ hcc (ne_of hcc hr (by intro z; unfold LamX.CodeO at z; cases z))⟩
theorem Went.req {rp l : Addr} {i j : Nat} {H H' : Hp} {ns : List Int} (x : Went a rp l j H H') (hr : ReaderAt a H rp l i) (h : ReqAt K H l ns) : ReqAt K H' l ns := by
  obtain ⟨dr, hr⟩ := hr
  exact h.but hr x.stay
theorem Went.old {rp l q : Addr} {i : Nat} {H H' : Hp} (x : Went a rp l i H H') (h : H' q = none) : H q = none := by
  cases z : H q with
  | none => rfl
  | some o =>
    by_cases c : q = rp
    · obtain ⟨d2, h2⟩ := x.rd
      rw [c, h2] at h; cases h
    · rw [x.stay _ _ z c] at h; cases h
/-- what a call of the house leaves is what answer_call leaves -/
theorem Went.ends {F0 : Addr → Prop} {rp l p ra : Addr} {i n : Nat} {h : Wm04.House} {c : Wm04.Call} {H H1 : Hp} {Q : VK} (x : Went a rp l n H H1) (hr : ReaderAt a H rp l i) (hh : HouseAt a F0 H p ra h) (ht : LamX.Tabs T H)
    (k : ∀ (q : Addr) (H' : Hp), H q = none → H' q = some (.lst (iL (Wm04.step h c).2)) → HouseAt a F0 H' p ra (Wm04.step h c).1 → ReaderAt a H' rp l n → (∀ b o, H b = some o → b ≠ p → b ≠ ra → b ≠ rp → (∀ ps, o ≠ .tbl ps) → H' b = some o) → LamX.Tabs T H' → Q (.ref q) H') :
    Ends T a F0 p ra H1 (Wm04.step h c) Q := fun q H' hq h1 h2 h3 => by
  obtain ⟨d1, r1⟩ := x.rd
  have hh1 := x.house hr hh
  obtain ⟨dx, aa, g1, _, _⟩ := hh1.ob
  obtain ⟨rs, g2, _⟩ := hh1.rules
  have np : rp ≠ p := ne_of r1 g1 (by
    intro z
    injection z with _ _ z
    have := congrArg List.length z
    simp [hoF, rdF] at this)
  have nr : rp ≠ ra := ne_of r1 g2 (by intro z; cases z)
  exact k q H' (x.old hq) h1 h2 ⟨d1, h3.stay _ _ r1 np nr (fun _ z => by cases z)⟩ (fun b o e n1 n2 n3 n4 => h3.stay b o (x.stay b o e n3) n1 n2 n4) (h3.tabs (x.tabs hr ht))
end
end Wp

set_option Elab.async false
set_option maxRecDepth 100000
set_option maxHeartbeats 2000000
namespace Wp
open PySem PySem.Spec PyProof.Rows L2 Wc
open Wm04 (place has isUser isRole isRoles rises)
structure TxtC (mg : Str → Option Value) : Prop where
  c0 : ∃ t, mg "SET" = some (.int 0 t)
  c1 : ∃ t, mg "GIVE" = some (.int 1 t)
  c2 : ∃ t, mg "TAKE" = some (.int 2 t)
  c3 : ∃ t, mg "STRIKE" = some (.int 3 t)
  c4 : ∃ t, mg "ACTORS" = some (.int 4 t)
  c5 : ∃ t, mg "DO" = some (.int 5 t)
  c6 : ∃ t, mg "CAN" = some (.int 6 t)
  c7 : ∃ t, mg "LOSE" = some (.int 7 t)
  c8 : ∃ t, mg "NEVER" = some (.int 8 t)
  c9 : ∃ t, mg "GUARD" = some (.int 9 t)
  c10 : ∃ t, mg "MANY" = some (.int 10 t)
  c11 : ∃ t, mg "ROLES_OF" = some (.int 11 t)
  c12 : ∃ t, mg "NOW" = some (.int 12 t)
/-- a call that may change the house -/
def Changes : Wm04.Call → Prop
  | .set _ _ => True
  | .give _ _ _ _ => True
  | .take _ _ => True
  | .strike _ => True
  | .actors _ => True
  | .do_ _ _ _ => True
  | .can _ _ => False
  | .lose _ _ => False
  | .never _ _ => False
  | .guard _ _ => False
  | .many => False
  | .roles _ => False
  | .now => False
def Asks : Wm04.Call → Prop
  | .set _ _ => False
  | .give _ _ _ _ => False
  | .take _ _ => False
  | .strike _ => False
  | .actors _ => False
  | .do_ _ _ _ => False
  | .can _ _ => True
  | .lose _ _ => True
  | .never _ _ => True
  | .guard _ _ => True
  | .many => True
  | .roles _ => True
  | .now => True
section
variable {P : Program} {w : World} {K : PySem.W.Frag} {mg : Str → Option Value} {base : Heap} {a : Ad} {T : List (Addr × Str)}
def spChange (K : PySem.W.Frag) (T : List (Addr × Str)) (a : Ad) : Sp := fun vs H Q _ => ∃ (F0 : Addr → Prop) (p ra rp l : Addr) (h : Wm04.House) (ns : List Int) (i n : Nat) (x : Wm04.Call) (t : List Int), vs = [.ref p, .ref rp, iV n] ∧ (enc x)[0]? = some n ∧ Changes x ∧ HouseAt a F0 H p ra h ∧ HouseOk h ∧ ReaderAt a H rp l (i + 1) ∧ ReqAt K H l ns ∧ LamX.Tabs T H ∧ ns.drop i = ofN (enc x) ++ t ∧
  ∀ (q : Addr) (H' : Hp), H q = none → H' q = some (.lst (iL (Wm04.step h x).2)) → HouseAt a F0 H' p ra (Wm04.step h x).1 → ReaderAt a H' rp l (i + (enc x).length) → (∀ b o, H b = some o → b ≠ p → b ≠ ra → b ≠ rp → (∀ ps, o ≠ .tbl ps) → H' b = some o) → LamX.Tabs T H' → Q (.ref q) H'
theorem scAnswerChange : FnScope ["house", "reader", "call"] ["house", "reader", "call"] (defScope sAnswerChange) := ⟨rfl, rfl, rfl, by decide +kernel, rfl, by decide +kernel, by decide +kernel⟩
theorem ok_answerChange {f : Addr} {fd : FuncData} (F : Fun K "answer_change" "answer_change" sAnswerChange f fd) (TR : TxtR K mg a) (TC : TxtC mg) (XN : Mth P w K mg base a.CD "read_number" 1 ["self"] (spRdNum K a)) (XR : Mth P w K mg base a.CD "read_row" 2 ["self"] (spRdRow K a))
    (X0 : Fn P w K mg base "set_roles" 3 ["house", "v", "roles"] (spSet K T a)) (X1 : Fn P w K mg base "give" 3 ["house", "a", "r", "n", "roles"] (spGive K T a)) (X2 : Fn P w K mg base "take" 3 ["house", "a", "r"] (spTake T a)) (X3 : Fn P w K mg base "strike" 1 ["house", "k"] (spStrike T a)) (X4 : Fn P w K mg base "set_actors" 2 ["house", "users"] (spActors T a)) (X5 : Fn P w K mg base "do_step" 5 ["house", "k", "u", "v"] (spDo T a)) :
    FnOk P w K mg base CX0 6 f fd ["house", "reader", "call"] (spChange K T a) := by
  refine F.ok scAnswerChange (fun vs H Q E h => ?_) (fun cdv A outer s H vs Q E hr h => ?_)
  · obtain ⟨F0, p, ra, rp, l, h, ns, i, n, x, t, rfl, _⟩ := h
    rfl
  · obtain ⟨F0, p, ra, rp, l, h, ns, i, n, x, t, rfl, en, hE, hh, ho, hR, hS, hT, hd, k⟩ := h
    obtain ⟨fN, fdN, MN, GN, bN⟩ := XN.ex
    obtain ⟨fR, fdR, MR, GR, bR⟩ := XR.ex
    obtain ⟨f0, fd0, G0, m0, k0, b0⟩ := X0.ex
    obtain ⟨f1, fd1, G1, m1, k1, b1⟩ := X1.ex
    obtain ⟨f2, fd2, G2, m2, k2, b2⟩ := X2.ex
    obtain ⟨f3, fd3, G3, m3, k3, b3⟩ := X3.ex
    obtain ⟨f4, fd4, G4, m4, k4, b4⟩ := X4.ex
    obtain ⟨f5, fd5, G5, m5, k5, b5⟩ := X5.ex
    obtain ⟨t0, c0⟩ := TC.c0
    obtain ⟨t1, c1⟩ := TC.c1
    obtain ⟨t2, c2⟩ := TC.c2
    obtain ⟨t3, c3⟩ := TC.c3
    obtain ⟨t4, c4⟩ := TC.c4
    obtain ⟨t5, c5⟩ := TC.c5
    have hr1 : Room 1 _ := hr.mono (by decide)
    have hr2 : Room 2 _ := hr.mono (by decide)
    have hr3 : Room 3 _ := hr.mono (by decide)
    have hr5 : Room 5 _ := hr.mono (by decide)
    refine ⟨_, pss_cons (ps_if (pt_cmpR op_eq (pv 2) (pe_glob rfl c0 (v := .int 0) ⟨_, rfl⟩) (nomark _)) (pss_one (ps_ret (pe_call G0 hr3 rfl m0 k0 b0 .nil pass0 (pa_cons (pv 0) (pa_cons (pe_meth0 (pv 1) TR.cD MN GN hr1 bN .nil pass0) (pa_cons (pe_meth0 (pv 1) TR.cD MR GR hr2 bR .nil pass0) pa_nil)))))) pss_nil)
      (pss_cons (ps_if (pt_cmpR op_eq (pv 2) (pe_glob rfl c1 (v := .int 1) ⟨_, rfl⟩) (nomark _)) (pss_one (ps_ret (pe_call G1 hr3 rfl m1 k1 b1 .nil pass0 (pa_cons (pv 0) (pa_cons (pe_meth0 (pv 1) TR.cD MN GN hr1 bN .nil pass0) (pa_cons (pe_meth0 (pv 1) TR.cD MN GN hr1 bN .nil pass0) (pa_cons (pe_meth0 (pv 1) TR.cD MN GN hr1 bN .nil pass0) (pa_cons (pe_meth0 (pv 1) TR.cD MR GR hr2 bR .nil pass0) pa_nil)))))))) pss_nil)
      (pss_cons (ps_if (pt_cmpR op_eq (pv 2) (pe_glob rfl c2 (v := .int 2) ⟨_, rfl⟩) (nomark _)) (pss_one (ps_ret (pe_call G2 hr3 rfl m2 k2 b2 .nil pass0 (pa_cons (pv 0) (pa_cons (pe_meth0 (pv 1) TR.cD MN GN hr1 bN .nil pass0) (pa_cons (pe_meth0 (pv 1) TR.cD MN GN hr1 bN .nil pass0) pa_nil)))))) pss_nil)
      (pss_cons (ps_if (pt_cmpR op_eq (pv 2) (pe_glob rfl c3 (v := .int 3) ⟨_, rfl⟩) (nomark _)) (pss_one (ps_ret (pe_call G3 hr1 rfl m3 k3 b3 .nil pass0 (pa_cons (pv 0) (pa_cons (pe_meth0 (pv 1) TR.cD MN GN hr1 bN .nil pass0) pa_nil))))) pss_nil)
      (pss_cons (ps_if (pt_cmpR op_eq (pv 2) (pe_glob rfl c4 (v := .int 4) ⟨_, rfl⟩) (nomark _)) (pss_one (ps_ret (pe_call G4 hr2 rfl m4 k4 b4 .nil pass0 (pa_cons (pv 0) (pa_cons (pe_meth0 (pv 1) TR.cD MR GR hr2 bR .nil pass0) pa_nil))))) pss_nil)
      (pss_one (ps_ret (pe_call G5 hr5 rfl m5 k5 b5 .nil pass0 (pa_cons (pv 0) (pa_cons (pe_meth0 (pv 1) TR.cD MN GN hr1 bN .nil pass0) (pa_cons (pe_meth0 (pv 1) TR.cD MN GN hr1 bN .nil pass0) (pa_cons (pe_meth0 (pv 1) TR.cD MN GN hr1 bN .nil pass0) pa_nil))))))))))), ?_⟩
    have w1 : Went a rp l (i + 1) H H := ⟨fun _ _ e _ => e, hR⟩
    -- a number more
    have num : ∀ {j m : Nat} {G : Hp} {Q1 : VK} {σ : L2.St}, σ[1]? = some (some (.ref rp)) → (enc x)[j]? = some m → Went a rp l (i + j) H G → (∀ G', Went a rp l (i + (j + 1)) H G' → Q1 (iV m) G') → tMeth a.CD "read_number" (spRdNum K a) [] E0 (tVar 1) tNil σ G Q1 := by
      intro j m G Q1 σ hs hm wG kq
      obtain ⟨dg, hg⟩ := id wG.rd
      exact ⟨_, hs, rp, dg, _, rfl, hg, rfl, rp, l, i + j, ns, (m : Int), rfl, wG.rd, wG.req hR hS, num_at hd hm, fun G' hR' e' _ => kq G' (wG.trans ⟨e', hR'⟩)⟩
    -- a row more
    have row : ∀ {pre r : List Nat} {G : Hp} {Q1 : VK} {σ : L2.St}, σ[1]? = some (some (.ref rp)) → enc x = pre ++ r.length :: r → Went a rp l (i + pre.length) H G → (∀ q G', H q = none → G' q = some (.lst (iVs r)) → Went a rp l (i + (enc x).length) H G' → Q1 (.ref q) G') → tMeth a.CD "read_row" (spRdRow K a) [] E0 (tVar 1) tNil σ G Q1 := by
      intro pre r G Q1 σ hs he wG kq
      obtain ⟨dg, hg⟩ := id wG.rd
      rw [he] at hd
      obtain ⟨g1, g2, g3⟩ := row_at hd
      refine ⟨_, hs, rp, dg, _, rfl, hg, rfl, rp, l, i + pre.length, r.length, ns, rfl, wG.rd, wG.req hR hS, g1, g3, fun q G' hq hq' hR' e' _ => kq q G' (wG.old hq) ?_ (wG.trans ⟨e', ?_⟩)⟩
      · rw [hq', g2, iL_ofN]
      · have el : i + (enc x).length = i + pre.length + 1 + r.length := by rw [he]; simp; omega
        rw [el]
        exact hR'
    cases x with
    | set v r => 
      obtain rfl : n = 0 := by simpa [enc] using en.symm
      refine disp rfl (fun _ => ?_) (fun z => absurd rfl z)
      refine ⟨_, rfl, num (j := 1) (m := v) rfl rfl w1 fun G2 w2 => row (pre := [0, v]) (r := r) rfl rfl w2 fun q G3 hq0 hq w3 => ?_⟩
      exact ⟨F0, p, ra, q, h, v, r, rfl, w3.house hR hh, ho, SqL.of hq, w3.ends hR hh hT k⟩
    | give b r0 n' rl => 
      obtain rfl : n = 1 := by simpa [enc] using en.symm
      refine disp rfl (fun z => absurd z (by decide)) (fun _ => disp rfl (fun _ => ?_) (fun z => absurd rfl z))
      refine ⟨_, rfl, num (j := 1) (m := b) rfl rfl w1 fun G2 w2 => num (j := 2) (m := r0) rfl rfl w2 fun G3 w3 => num (j := 3) (m := n') rfl rfl w3 fun G4 w4 => row (pre := [1, b, r0, n']) (r := rl) rfl rfl w4 fun q G5 hq0 hq w5 => ?_⟩
      exact ⟨F0, p, ra, q, h, b, r0, n', rl, rfl, w5.house hR hh, SqL.of hq, w5.ends hR hh hT k⟩
    | take b r0 => 
      obtain rfl : n = 2 := by simpa [enc] using en.symm
      refine disp rfl (fun z => absurd z (by decide)) (fun _ => disp rfl (fun z => absurd z (by decide)) (fun _ => disp rfl (fun _ => ?_) (fun z => absurd rfl z)))
      refine ⟨_, rfl, num (j := 1) (m := b) rfl rfl w1 fun G2 w2 => num (j := 2) (m := r0) rfl rfl w2 fun G3 w3 => ?_⟩
      exact ⟨F0, p, ra, h, b, r0, rfl, w3.house hR hh, w3.ends hR hh hT k⟩
    | strike m => 
      obtain rfl : n = 3 := by simpa [enc] using en.symm
      refine disp rfl (fun z => absurd z (by decide)) (fun _ => disp rfl (fun z => absurd z (by decide)) (fun _ => disp rfl (fun z => absurd z (by decide)) (fun _ => disp rfl (fun _ => ?_) (fun z => absurd rfl z))))
      refine ⟨_, rfl, num (j := 1) (m := m) rfl rfl w1 fun G2 w2 => ?_⟩
      exact ⟨F0, p, ra, h, m, rfl, w2.house hR hh, ho, w2.ends hR hh hT k⟩
    | actors us => 
      obtain rfl : n = 4 := by simpa [enc] using en.symm
      refine disp rfl (fun z => absurd z (by decide)) (fun _ => disp rfl (fun z => absurd z (by decide)) (fun _ => disp rfl (fun z => absurd z (by decide)) (fun _ => disp rfl (fun z => absurd z (by decide)) (fun _ => disp rfl (fun _ => ?_) (fun z => absurd rfl z)))))
      refine ⟨_, rfl, row (pre := [4]) (r := us) rfl rfl w1 fun q G2 hq0 hq w2 => ?_⟩
      exact ⟨F0, p, ra, q, h, us, rfl, w2.house hR hh, hq, hh.new hq0, w2.ends hR hh hT k⟩
    | do_ m u v => 
      obtain rfl : n = 5 := by simpa [enc] using en.symm
      refine disp rfl (fun z => absurd z (by decide)) (fun _ => disp rfl (fun z => absurd z (by decide)) (fun _ => disp rfl (fun z => absurd z (by decide)) (fun _ => disp rfl (fun z => absurd z (by decide)) (fun _ => disp rfl (fun z => absurd z (by decide)) (fun _ => ?_)))))
      refine ⟨_, rfl, num (j := 1) (m := m) rfl rfl w1 fun G2 w2 => num (j := 2) (m := u) rfl rfl w2 fun G3 w3 => num (j := 3) (m := v) rfl rfl w3 fun G4 w4 => ?_⟩
      exact ⟨F0, p, ra, h, m, u, v, rfl, w4.house hR hh, ho, w4.ends hR hh hT k⟩
    | can _ _ => exact hE.elim
    | lose _ _ => exact hE.elim
    | never _ _ => exact hE.elim
    | guard _ _ => exact hE.elim
    | many => exact hE.elim
    | roles _ => exact hE.elim
    | now => exact hE.elim
def spQuestion (K : PySem.W.Frag) (T : List (Addr × Str)) (a : Ad) : Sp := fun vs H Q _ => ∃ (F0 : Addr → Prop) (p ra rp l : Addr) (h : Wm04.House) (ns : List Int) (i n : Nat) (x : Wm04.Call) (t : List Int), vs = [.ref p, .ref rp, iV n] ∧ (enc x)[0]? = some n ∧ Asks x ∧ HouseAt a F0 H p ra h ∧ HouseOk h ∧ ReaderAt a H rp l (i + 1) ∧ ReqAt K H l ns ∧ LamX.Tabs T H ∧ ns.drop i = ofN (enc x) ++ t ∧
  ∀ (q : Addr) (H' : Hp), H q = none → H' q = some (.lst (iL (Wm04.step h x).2)) → HouseAt a F0 H' p ra (Wm04.step h x).1 → ReaderAt a H' rp l (i + (enc x).length) → (∀ b o, H b = some o → b ≠ p → b ≠ ra → b ≠ rp → (∀ ps, o ≠ .tbl ps) → H' b = some o) → LamX.Tabs T H' → Q (.ref q) H'
theorem scAnswerQuestion : FnScope ["house", "reader", "call"] ["house", "reader", "call"] (defScope sAnswerQuestion) := ⟨rfl, rfl, rfl, by decide +kernel, rfl, by decide +kernel, by decide +kernel⟩
theorem ok_answerQuestion {f : Addr} {fd : FuncData} (F : Fun K "answer_question" "answer_question" sAnswerQuestion f fd) (TR : TxtR K mg a) (TC : TxtC mg) (XN : Mth P w K mg base a.CD "read_number" 1 ["self"] (spRdNum K a)) (XR : Mth P w K mg base a.CD "read_row" 2 ["self"] (spRdRow K a))
    (X6 : Fn P w K mg base "can_have" 7 ["house", "v", "roles"] (spCan K T a)) (X7 : Fn P w K mg base "can_lose" 7 ["house", "v", "r"] (spLose T a)) (X8 : Fn P w K mg base "can_never" 7 ["house", "r", "q"] (spNever T a)) (X9 : Fn P w K mg base "guard" 7 ["house", "v", "roles"] (spGuard K T a)) (X10 : Fn P w K mg base "count_many" 6 ["house"] (spMany T a)) (X11 : Fn P w K mg base "tell_roles" 3 ["house", "v"] (spTellRoles T a)) (X12 : Fn P w K mg base "tell_rules" 3 ["house"] (spTellRules T a)) :
    FnOk P w K mg base CX0 8 f fd ["house", "reader", "call"] (spQuestion K T a) := by
  refine F.ok scAnswerQuestion (fun vs H Q E h => ?_) (fun cdv A outer s H vs Q E hr h => ?_)
  · obtain ⟨F0, p, ra, rp, l, h, ns, i, n, x, t, rfl, _⟩ := h
    rfl
  · obtain ⟨F0, p, ra, rp, l, h, ns, i, n, x, t, rfl, en, hE, hh, ho, hR, hS, hT, hd, k⟩ := h
    obtain ⟨fN, fdN, MN, GN, bN⟩ := XN.ex
    obtain ⟨fR, fdR, MR, GR, bR⟩ := XR.ex
    obtain ⟨f6, fd6, G6, m6, k6, b6⟩ := X6.ex
    obtain ⟨f7, fd7, G7, m7, k7, b7⟩ := X7.ex
    obtain ⟨f8, fd8, G8, m8, k8, b8⟩ := X8.ex
    obtain ⟨f9, fd9, G9, m9, k9, b9⟩ := X9.ex
    obtain ⟨f10, fd10, G10, m10, k10, b10⟩ := X10.ex
    obtain ⟨f11, fd11, G11, m11, k11, b11⟩ := X11.ex
    obtain ⟨f12, fd12, G12, m12, k12, b12⟩ := X12.ex
    obtain ⟨t6, c6⟩ := TC.c6
    obtain ⟨t7, c7⟩ := TC.c7
    obtain ⟨t8, c8⟩ := TC.c8
    obtain ⟨t9, c9⟩ := TC.c9
    obtain ⟨t10, c10⟩ := TC.c10
    obtain ⟨t11, c11⟩ := TC.c11
    obtain ⟨t12, c12⟩ := TC.c12
    have hr1 : Room 1 _ := hr.mono (by decide)
    have hr2 : Room 2 _ := hr.mono (by decide)
    have hr3 : Room 3 _ := hr.mono (by decide)
    have hr6 : Room 6 _ := hr.mono (by decide)
    have hr7 : Room 7 _ := hr.mono (by decide)
    refine ⟨_, pss_cons (ps_if (pt_cmpR op_eq (pv 2) (pe_glob rfl c6 (v := .int 6) ⟨_, rfl⟩) (nomark _)) (pss_one (ps_ret (pe_call G6 hr7 rfl m6 k6 b6 .nil pass0 (pa_cons (pv 0) (pa_cons (pe_meth0 (pv 1) TR.cD MN GN hr1 bN .nil pass0) (pa_cons (pe_meth0 (pv 1) TR.cD MR GR hr2 bR .nil pass0) pa_nil)))))) pss_nil)
      (pss_cons (ps_if (pt_cmpR op_eq (pv 2) (pe_glob rfl c7 (v := .int 7) ⟨_, rfl⟩) (nomark _)) (pss_one (ps_ret (pe_call G7 hr7 rfl m7 k7 b7 .nil pass0 (pa_cons (pv 0) (pa_cons (pe_meth0 (pv 1) TR.cD MN GN hr1 bN .nil pass0) (pa_cons (pe_meth0 (pv 1) TR.cD MN GN hr1 bN .nil pass0) pa_nil)))))) pss_nil)
      (pss_cons (ps_if (pt_cmpR op_eq (pv 2) (pe_glob rfl c8 (v := .int 8) ⟨_, rfl⟩) (nomark _)) (pss_one (ps_ret (pe_call G8 hr7 rfl m8 k8 b8 .nil pass0 (pa_cons (pv 0) (pa_cons (pe_meth0 (pv 1) TR.cD MN GN hr1 bN .nil pass0) (pa_cons (pe_meth0 (pv 1) TR.cD MN GN hr1 bN .nil pass0) pa_nil)))))) pss_nil)
      (pss_cons (ps_if (pt_cmpR op_eq (pv 2) (pe_glob rfl c9 (v := .int 9) ⟨_, rfl⟩) (nomark _)) (pss_one (ps_ret (pe_call G9 hr7 rfl m9 k9 b9 .nil pass0 (pa_cons (pv 0) (pa_cons (pe_meth0 (pv 1) TR.cD MN GN hr1 bN .nil pass0) (pa_cons (pe_meth0 (pv 1) TR.cD MR GR hr2 bR .nil pass0) pa_nil)))))) pss_nil)
      (pss_cons (ps_if (pt_cmpR op_eq (pv 2) (pe_glob rfl c10 (v := .int 10) ⟨_, rfl⟩) (nomark _)) (pss_one (ps_ret (pe_call G10 hr6 rfl m10 k10 b10 .nil pass0 (pa_cons (pv 0) pa_nil)))) pss_nil)
      (pss_cons (ps_if (pt_cmpR op_eq (pv 2) (pe_glob rfl c11 (v := .int 11) ⟨_, rfl⟩) (nomark _)) (pss_one (ps_ret (pe_call G11 hr3 rfl m11 k11 b11 .nil pass0 (pa_cons (pv 0) (pa_cons (pe_meth0 (pv 1) TR.cD MN GN hr1 bN .nil pass0) pa_nil))))) pss_nil)
      (pss_cons (ps_if (pt_cmpR op_eq (pv 2) (pe_glob rfl c12 (v := .int 12) ⟨_, rfl⟩) (nomark _)) (pss_one (ps_ret (pe_call G12 hr3 rfl m12 k12 b12 .nil pass0 (pa_cons (pv 0) pa_nil)))) pss_nil)
      (pss_one (RvL.ps_dead)))))))), ?_⟩
    have w1 : Went a rp l (i + 1) H H := ⟨fun _ _ e _ => e, hR⟩
    -- a number more
    have num : ∀ {j m : Nat} {G : Hp} {Q1 : VK} {σ : L2.St}, σ[1]? = some (some (.ref rp)) → (enc x)[j]? = some m → Went a rp l (i + j) H G → (∀ G', Went a rp l (i + (j + 1)) H G' → Q1 (iV m) G') → tMeth a.CD "read_number" (spRdNum K a) [] E0 (tVar 1) tNil σ G Q1 := by
      intro j m G Q1 σ hs hm wG kq
      obtain ⟨dg, hg⟩ := id wG.rd
      exact ⟨_, hs, rp, dg, _, rfl, hg, rfl, rp, l, i + j, ns, (m : Int), rfl, wG.rd, wG.req hR hS, num_at hd hm, fun G' hR' e' _ => kq G' (wG.trans ⟨e', hR'⟩)⟩
    -- a row more
    have row : ∀ {pre r : List Nat} {G : Hp} {Q1 : VK} {σ : L2.St}, σ[1]? = some (some (.ref rp)) → enc x = pre ++ r.length :: r → Went a rp l (i + pre.length) H G → (∀ q G', H q = none → G' q = some (.lst (iVs r)) → Went a rp l (i + (enc x).length) H G' → Q1 (.ref q) G') → tMeth a.CD "read_row" (spRdRow K a) [] E0 (tVar 1) tNil σ G Q1 := by
      intro pre r G Q1 σ hs he wG kq
      obtain ⟨dg, hg⟩ := id wG.rd
      rw [he] at hd
      obtain ⟨g1, g2, g3⟩ := row_at hd
      refine ⟨_, hs, rp, dg, _, rfl, hg, rfl, rp, l, i + pre.length, r.length, ns, rfl, wG.rd, wG.req hR hS, g1, g3, fun q G' hq hq' hR' e' _ => kq q G' (wG.old hq) ?_ (wG.trans ⟨e', ?_⟩)⟩
      · rw [hq', g2, iL_ofN]
      · have el : i + (enc x).length = i + pre.length + 1 + r.length := by rw [he]; simp; omega
        rw [el]
        exact hR'
    cases x with
    | set _ _ => exact hE.elim
    | give _ _ _ _ => exact hE.elim
    | take _ _ => exact hE.elim
    | strike _ => exact hE.elim
    | actors _ => exact hE.elim
    | do_ _ _ _ => exact hE.elim
    | can v r => 
      obtain rfl : n = 6 := by simpa [enc] using en.symm
      refine disp rfl (fun _ => ?_) (fun z => absurd rfl z)
      refine ⟨_, rfl, num (j := 1) (m := v) rfl rfl w1 fun G2 w2 => row (pre := [6, v]) (r := r) rfl rfl w2 fun q G3 hq0 hq w3 => ?_⟩
      exact ⟨F0, p, ra, q, h, v, r, rfl, w3.house hR hh, ho, SqL.of hq, w3.tabs hR hT, w3.ends hR hh hT k⟩
    | lose v r0 => 
      obtain rfl : n = 7 := by simpa [enc] using en.symm
      refine disp rfl (fun z => absurd z (by decide)) (fun _ => disp rfl (fun _ => ?_) (fun z => absurd rfl z))
      refine ⟨_, rfl, num (j := 1) (m := v) rfl rfl w1 fun G2 w2 => num (j := 2) (m := r0) rfl rfl w2 fun G3 w3 => ?_⟩
      exact ⟨F0, p, ra, h, v, r0, rfl, w3.house hR hh, ho, w3.tabs hR hT, w3.ends hR hh hT k⟩
    | never r0 q0 => 
      obtain rfl : n = 8 := by simpa [enc] using en.symm
      refine disp rfl (fun z => absurd z (by decide)) (fun _ => disp rfl (fun z => absurd z (by decide)) (fun _ => disp rfl (fun _ => ?_) (fun z => absurd rfl z)))
      refine ⟨_, rfl, num (j := 1) (m := r0) rfl rfl w1 fun G2 w2 => num (j := 2) (m := q0) rfl rfl w2 fun G3 w3 => ?_⟩
      exact ⟨F0, p, ra, h, r0, q0, rfl, w3.house hR hh, ho, w3.tabs hR hT, w3.ends hR hh hT k⟩
    | guard v r => 
      obtain rfl : n = 9 := by simpa [enc] using en.symm
      refine disp rfl (fun z => absurd z (by decide)) (fun _ => disp rfl (fun z => absurd z (by decide)) (fun _ => disp rfl (fun z => absurd z (by decide)) (fun _ => disp rfl (fun _ => ?_) (fun z => absurd rfl z))))
      refine ⟨_, rfl, num (j := 1) (m := v) rfl rfl w1 fun G2 w2 => row (pre := [9, v]) (r := r) rfl rfl w2 fun q G3 hq0 hq w3 => ?_⟩
      exact ⟨F0, p, ra, q, h, v, r, rfl, w3.house hR hh, ho, SqL.of hq, w3.tabs hR hT, w3.ends hR hh hT k⟩
    | many => 
      obtain rfl : n = 10 := by simpa [enc] using en.symm
      refine disp rfl (fun z => absurd z (by decide)) (fun _ => disp rfl (fun z => absurd z (by decide)) (fun _ => disp rfl (fun z => absurd z (by decide)) (fun _ => disp rfl (fun z => absurd z (by decide)) (fun _ => disp rfl (fun _ => ?_) (fun z => absurd rfl z)))))
      exact ⟨_, rfl, ⟨F0, p, ra, h, rfl, w1.house hR hh, ho, w1.tabs hR hT, w1.ends hR hh hT k⟩⟩
    | roles v => 
      obtain rfl : n = 11 := by simpa [enc] using en.symm
      refine disp rfl (fun z => absurd z (by decide)) (fun _ => disp rfl (fun z => absurd z (by decide)) (fun _ => disp rfl (fun z => absurd z (by decide)) (fun _ => disp rfl (fun z => absurd z (by decide)) (fun _ => disp rfl (fun z => absurd z (by decide)) (fun _ => disp rfl (fun _ => ?_) (fun z => absurd rfl z))))))
      refine ⟨_, rfl, num (j := 1) (m := v) rfl rfl w1 fun G2 w2 => ?_⟩
      exact ⟨F0, p, ra, h, v, rfl, w2.house hR hh, w2.ends hR hh hT k⟩
    | now => 
      obtain rfl : n = 12 := by simpa [enc] using en.symm
      refine disp rfl (fun z => absurd z (by decide)) (fun _ => disp rfl (fun z => absurd z (by decide)) (fun _ => disp rfl (fun z => absurd z (by decide)) (fun _ => disp rfl (fun z => absurd z (by decide)) (fun _ => disp rfl (fun z => absurd z (by decide)) (fun _ => disp rfl (fun z => absurd z (by decide)) (fun _ => disp rfl (fun _ => ?_) (fun z => absurd rfl z)))))))
      exact ⟨_, rfl, ⟨F0, p, ra, h, rfl, w1.house hR hh, ho, w1.ends hR hh hT k⟩⟩
theorem scAnswerCall : FnScope ["house", "reader", "call"] ["house", "reader"] (defScope sAnswerCall) := ⟨rfl, rfl, rfl, by decide +kernel, rfl, by decide +kernel, by decide +kernel⟩
theorem ok_answerCall {f : Addr} {fd : FuncData} (F : Fun K "answer_call" "answer_call" sAnswerCall f fd) (TR : TxtR K mg a) (TC : TxtC mg) (XN : Mth P w K mg base a.CD "read_number" 1 ["self"] (spRdNum K a))
    (X1 : Fn P w K mg base "answer_change" 6 ["house", "reader", "call"] (spChange K T a)) (X2 : Fn P w K mg base "answer_question" 8 ["house", "reader", "call"] (spQuestion K T a)) :
    FnOk P w K mg base CX0 9 f fd ["house", "reader"] (spAnswer K T a) := by
  refine F.ok scAnswerCall (fun vs H Q E h => ?_) (fun cdv A outer s H vs Q E hr h => ?_)
  · obtain ⟨F0, p, ra, rp, l, h, ns, i, x, t, rfl, _⟩ := h
    rfl
  · obtain ⟨F0, p, ra, rp, l, h, ns, i, x, t, rfl, hh, ho, hR, hS, hT, hd, k⟩ := h
    obtain ⟨fN, fdN, MN, GN, bN⟩ := XN.ex
    obtain ⟨f1, fd1, G1, m1, k1, b1⟩ := X1.ex
    obtain ⟨f2, fd2, G2, m2, k2, b2⟩ := X2.ex
    obtain ⟨t5, c5⟩ := TC.c5
    have hr1 : Room 1 _ := hr.mono (by decide)
    have hr6 : Room 6 _ := hr.mono (by decide)
    refine ⟨_, pss_cons (ps_set (i := 2) scAnswerCall.nd rfl (Or.inl rfl) (pe_meth0 (pv 1) TR.cD MN GN hr1 bN .nil pass0))
      (pss_cons (ps_if (pt_cmpR op_le (pv 2) (pe_glob rfl c5 (v := .int 5) ⟨_, rfl⟩) (nomark _)) (pss_one (ps_ret (pe_call G1 hr6 rfl m1 k1 b1 .nil pass0 (pa_cons (pv 0) (pa_cons (pv 1) (pa_cons (pv 2) pa_nil)))))) pss_nil)
      (pss_one (ps_ret (pe_call G2 hr rfl m2 k2 b2 .nil pass0 (pa_cons (pv 0) (pa_cons (pv 1) (pa_cons (pv 2) pa_nil))))))), ?_⟩
    obtain ⟨n, en⟩ : ∃ n, (enc x)[0]? = some n := ⟨_, List.getElem?_eq_getElem (enc_pos x)⟩
    obtain ⟨dr, hrp⟩ := id hR
    refine ⟨_, rfl, rp, dr, _, rfl, hrp, rfl, rp, l, i, ns, (n : Int), rfl, hR, hS, by simpa using num_at hd en, fun H1 hR1 e1 _ => ?_⟩
    have w1 : Went a rp l (i + 1) H H1 := ⟨e1, hR1⟩
    have fin : ∀ (q : Addr) (H' : Hp), H1 q = none → H' q = some (.lst (iL (Wm04.step h x).2)) → HouseAt a F0 H' p ra (Wm04.step h x).1 → ReaderAt a H' rp l (i + (enc x).length) → (∀ b o, H1 b = some o → b ≠ p → b ≠ ra → b ≠ rp → (∀ ps, o ≠ .tbl ps) → H' b = some o) → LamX.Tabs T H' → Q (.ref q) H' :=
      fun q H' hq h1 h2 h3 h4 h5 => k q H' (w1.old hq) h1 h2 h3 (fun b o e n1 n2 n3 n4 => h4 b o (e1 b o e n3) n1 n2 n3 n4) h5
    refine ⟨_, rfl, _, _, rfl, rfl, _, rfl, ?_⟩
    by_cases c : n ≤ 5
    · rw [decide_eq_true (show (n : Int) ≤ 5 by omega)]
      refine iteT ?_
      have hC : Changes x := by
        cases x <;> first | exact True.intro | (exfalso; simp [enc] at en; omega)
      exact ⟨_, rfl, _, rfl, _, rfl, F0, p, ra, rp, l, h, ns, i, n, x, t, rfl, en, hC, w1.house hR hh, ho, hR1, w1.req hR hS, w1.tabs hR hT, hd, fin⟩
    · rw [decide_eq_false (show ¬ (n : Int) ≤ 5 by omega)]
      refine iteF ?_
      have hA : Asks x := by
        cases x <;> first | exact True.intro | (exfalso; simp [enc] at en; omega)
      exact ⟨_, rfl, _, rfl, _, rfl, F0, p, ra, rp, l, h, ns, i, n, x, t, rfl, en, hA, w1.house hR hh, ho, hR1, w1.req hR hS, w1.tabs hR hT, hd, fin⟩
end
end Wp

set_option Elab.async false
set_option maxRecDepth 100000
set_option maxHeartbeats 4000000
namespace Wp
open PySem PySem.Spec PyProof.Rows L2 Wc
open PySem.W (Codec)
/-- the makers' tables, with the name that a code object in them bears -/
def tabsOf : List (Addr × Addr) → List (Addr × Str)
  | [c0, c1, c2, c3, c4, c5] => [(c0.2, "count_ways.<locals>.<lambda>"), (c1.2, "rows_of_rules.<locals>.<lambda>"), (c2.2, "can_have.<locals>.<lambda>"), (c3.2, "can_lose.<locals>.<lambda>"), (c4.2, "can_never.<locals>.<lambda>"), (c5.2, "guard.<locals>.<lambda>")]
  | _ => []
theorem tabs_of {cs : List (Addr × Addr)} {H : Hp} (h : ∀ p ∈ cs, H p.2 = some (.tbl #[])) : LamX.Tabs (tabsOf cs) H := fun p hp => by
  have key : ∀ (l : List (Addr × Addr)), (∀ p ∈ l, H p.2 = some (.tbl #[])) → ∀ x ∈ tabsOf l, H x.1 = some (.tbl #[]) := by
    intro l hl x hx
    unfold tabsOf at hx
    split at hx
    · simp only [List.mem_cons, List.not_mem_nil, or_false] at hx
      rcases hx with hx | hx | hx | hx | hx | hx <;> subst hx <;> exact hl _ (by simp)
    · exact absurd hx (by simp)
  exact LamX.TabS.nil (key cs h p hp)
theorem one_name {T : List (Addr × Str)} (nd : (T.map (·.1)).Nodup) {x : Addr} {s : Str} (hx : (x, s) ∈ T) : ∀ p ∈ T, p.1 = x → p.2 = s := by
  induction T with
  | nil => exact absurd hx (by simp)
  | cons y T ih =>
    rw [List.map_cons, List.nodup_cons] at nd
    intro p hp e
    rcases List.mem_cons.mp hx with z | z <;> rcases List.mem_cons.mp hp with w | w
    · rw [w, ← z]
    · exact absurd (List.mem_map.mpr ⟨p, w, by rw [e, ← z]⟩) nd.1
    · exact absurd (List.mem_map.mpr ⟨_, z, by rw [← e, w]⟩) nd.1
    · exact ih nd.2 z p w e
theorem req_of {K : PySem.W.Frag} {H : Hp} {l : Addr} {ns : List Int} (hO : ∀ b, H b = none ∨ H b = some (.tbl #[]) ∨ ∃ o u, H b = some (.frz o u)) (h : SqL K H l (ns.map V.int)) : ReqAt K H l ns := by
  rcases h with (h | ⟨o, h⟩) | h
  · rcases hO l with z | z | ⟨o, u, z⟩ <;> (rw [h] at z; cases z)
  · exact .inl ⟨o, h⟩
  · exact .inr h
theorem all_mk {P qp : Program} {w : World} {K : PySem.W.Frag} {h : Heap} {mg : Str → Option Value} {fa U R CS CR CM CH CD f_role_bit f_role_bits f_roles_held f_users_holding f_find_plan f_count_ways f_tell_plan f_rows_of_rules f_share_one f_find_guard f_moves_of f_is_user f_is_role f_rises_within f_are_roles f_set_roles f_add_rule f_give f_take f_strike f_set_actors f_do_step f_tell_row f_can_have f_can_lose f_can_never f_plan_for f_guard f_count_many f_tell_roles f_tell_rule f_tell_rules f_answer_change f_answer_question f_answer_call f_answers f_S_init f_S_go_until f_S_visit f_S_steps_to f_Rr_init f_M_init f_M_may_be_done f_M_held_behind f_M_tell_step f_H_init f_D_init f_D_has_more f_D_read_number f_D_read_row cd_count_ways cd_rows_of_rules cd_can_have cd_can_lose cd_can_never cd_guard pt_count_ways pt_rows_of_rules pt_can_have pt_can_lose pt_can_never pt_guard : Addr} (X : K.In h) (G : h.Ns mainGlobals mg) (hfa : mg "answers" = some (.ref fa))
    {odU odR od_role_bit an_role_bit od_role_bits an_role_bits od_roles_held an_roles_held od_users_holding an_users_holding od_find_plan an_find_plan od_count_ways an_count_ways od_tell_plan an_tell_plan od_rows_of_rules an_rows_of_rules od_share_one an_share_one od_find_guard an_find_guard od_moves_of an_moves_of od_is_user an_is_user od_is_role an_is_role od_rises_within an_rises_within od_are_roles an_are_roles od_set_roles an_set_roles od_add_rule an_add_rule od_give an_give od_take an_take od_strike an_strike od_set_actors an_set_actors od_do_step an_do_step od_tell_row an_tell_row od_can_have an_can_have od_can_lose an_can_lose od_can_never an_can_never od_plan_for an_plan_for od_guard an_guard od_count_many an_count_many od_tell_roles an_tell_roles od_tell_rule an_tell_rule od_tell_rules an_tell_rules od_answer_change an_answer_change od_answer_question an_answer_question od_answer_call an_answer_call od_answers an_answers od_S_init an_S_init od_S_go_until an_S_go_until od_S_visit an_S_visit od_S_steps_to an_S_steps_to od_Rr_init an_Rr_init od_M_init an_M_init od_M_may_be_done an_M_may_be_done od_M_held_behind an_M_held_behind od_M_tell_step an_M_tell_step od_H_init an_H_init od_D_init an_D_init od_D_has_more an_D_has_more od_D_read_number an_D_read_number od_D_read_row an_D_read_row : Option Addr} {slU slR sl_role_bit sl_role_bits sl_roles_held sl_users_holding sl_find_plan sl_count_ways sl_tell_plan sl_rows_of_rules sl_share_one sl_find_guard sl_moves_of sl_is_user sl_is_role sl_rises_within sl_are_roles sl_set_roles sl_add_rule sl_give sl_take sl_strike sl_set_actors sl_do_step sl_tell_row sl_can_have sl_can_lose sl_can_never sl_plan_for sl_guard sl_count_many sl_tell_roles sl_tell_rule sl_tell_rules sl_answer_change sl_answer_question sl_answer_call sl_answers sl_S_init sl_S_go_until sl_S_visit sl_S_steps_to sl_Rr_init sl_M_init sl_M_may_be_done sl_M_held_behind sl_M_tell_step sl_H_init sl_D_init sl_D_has_more sl_D_read_number sl_D_read_row sy_count_ways sy_rows_of_rules sy_can_have sy_can_lose sy_can_never sy_guard : Array (Option Value)} {vy_count_ways vy_rows_of_rules vy_can_have vy_can_lose vy_can_never vy_guard : Array Value} {oy_count_ways oy_rows_of_rules oy_can_have oy_can_lose oy_can_never oy_guard : Value} {dy_count_ways dy_rows_of_rules dy_can_have dy_can_lose dy_can_never dy_guard : Option Addr} {nU nR : Nat}
    {oc_role_bit kV_role_bit dc_role_bit pm_role_bit ct_role_bit cd_role_bit oc_role_bits kV_role_bits dc_role_bits pm_role_bits ct_role_bits cd_role_bits oc_roles_held kV_roles_held dc_roles_held pm_roles_held ct_roles_held cd_roles_held oc_users_holding kV_users_holding dc_users_holding pm_users_holding ct_users_holding cd_users_holding oc_find_plan kV_find_plan dc_find_plan pm_find_plan ct_find_plan cd_find_plan oc_count_ways kV_count_ways dc_count_ways pm_count_ways ct_count_ways oc_tell_plan kV_tell_plan dc_tell_plan pm_tell_plan ct_tell_plan cd_tell_plan oc_rows_of_rules kV_rows_of_rules dc_rows_of_rules pm_rows_of_rules ct_rows_of_rules oc_share_one kV_share_one dc_share_one pm_share_one ct_share_one cd_share_one oc_find_guard kV_find_guard dc_find_guard pm_find_guard ct_find_guard cd_find_guard oc_moves_of kV_moves_of dc_moves_of pm_moves_of ct_moves_of cd_moves_of oc_is_user kV_is_user dc_is_user pm_is_user ct_is_user cd_is_user oc_is_role kV_is_role dc_is_role pm_is_role ct_is_role cd_is_role oc_rises_within kV_rises_within dc_rises_within pm_rises_within ct_rises_within cd_rises_within oc_are_roles kV_are_roles dc_are_roles pm_are_roles ct_are_roles cd_are_roles oc_set_roles kV_set_roles dc_set_roles pm_set_roles ct_set_roles cd_set_roles oc_add_rule kV_add_rule dc_add_rule pm_add_rule ct_add_rule cd_add_rule oc_give kV_give dc_give pm_give ct_give cd_give oc_take kV_take dc_take pm_take ct_take cd_take oc_strike kV_strike dc_strike pm_strike ct_strike cd_strike oc_set_actors kV_set_actors dc_set_actors pm_set_actors ct_set_actors cd_set_actors oc_do_step kV_do_step dc_do_step pm_do_step ct_do_step cd_do_step oc_tell_row kV_tell_row dc_tell_row pm_tell_row ct_tell_row cd_tell_row oc_can_have kV_can_have dc_can_have pm_can_have ct_can_have oc_can_lose kV_can_lose dc_can_lose pm_can_lose ct_can_lose oc_can_never kV_can_never dc_can_never pm_can_never ct_can_never oc_plan_for kV_plan_for dc_plan_for pm_plan_for ct_plan_for cd_plan_for oc_guard kV_guard dc_guard pm_guard ct_guard oc_count_many kV_count_many dc_count_many pm_count_many ct_count_many cd_count_many oc_tell_roles kV_tell_roles dc_tell_roles pm_tell_roles ct_tell_roles cd_tell_roles oc_tell_rule kV_tell_rule dc_tell_rule pm_tell_rule ct_tell_rule cd_tell_rule oc_tell_rules kV_tell_rules dc_tell_rules pm_tell_rules ct_tell_rules cd_tell_rules oc_answer_change kV_answer_change dc_answer_change pm_answer_change ct_answer_change cd_answer_change oc_answer_question kV_answer_question dc_answer_question pm_answer_question ct_answer_question cd_answer_question oc_answer_call kV_answer_call dc_answer_call pm_answer_call ct_answer_call cd_answer_call oc_answers kV_answers dc_answers pm_answers ct_answers cd_answers oc_S_init kV_S_init dc_S_init pm_S_init ct_S_init cd_S_init oc_S_go_until kV_S_go_until dc_S_go_until pm_S_go_until ct_S_go_until cd_S_go_until oc_S_visit kV_S_visit dc_S_visit pm_S_visit ct_S_visit cd_S_visit oc_S_steps_to kV_S_steps_to dc_S_steps_to pm_S_steps_to ct_S_steps_to cd_S_steps_to oc_Rr_init kV_Rr_init dc_Rr_init pm_Rr_init ct_Rr_init cd_Rr_init oc_M_init kV_M_init dc_M_init pm_M_init ct_M_init cd_M_init oc_M_may_be_done kV_M_may_be_done dc_M_may_be_done pm_M_may_be_done ct_M_may_be_done cd_M_may_be_done oc_M_held_behind kV_M_held_behind dc_M_held_behind pm_M_held_behind ct_M_held_behind cd_M_held_behind oc_M_tell_step kV_M_tell_step dc_M_tell_step pm_M_tell_step ct_M_tell_step cd_M_tell_step oc_H_init kV_H_init dc_H_init pm_H_init ct_H_init cd_H_init oc_D_init kV_D_init dc_D_init pm_D_init ct_D_init cd_D_init oc_D_has_more kV_D_has_more dc_D_has_more pm_D_has_more ct_D_has_more cd_D_has_more oc_D_read_number kV_D_read_number dc_D_read_number pm_D_read_number ct_D_read_number cd_D_read_number oc_D_read_row kV_D_read_row dc_D_read_row pm_D_read_row ct_D_read_row cd_D_read_row : Value} {tU1 tU2 tU3 tR1 tR2 tR3 tR4 t_MOST_RULES t_NOT_AS_TOLD t_NO_SUCH_RULE t_NO_PLAN t_TOO_MANY_RULES t_NOT_ALLOWED t_HELD_ALREADY t_SET t_GIVE t_TAKE t_STRIKE t_ACTORS t_DO t_CAN t_LOSE t_NEVER t_GUARD t_MANY t_ROLES_OF t_NOW : Tok}
    (aU : PySem.W.nsIn K mainGlobals "USERS" = some (some (.ref U)))
    (lU : K.lookup U = some ⟨.type "tuple", odU, .seq #[.int 1 tU1, .int 2 tU2, .int 3 tU3] nU, slU⟩)
    (aR : PySem.W.nsIn K mainGlobals "ROLES" = some (some (.ref R)))
    (lR : K.lookup R = some ⟨.type "tuple", odR, .seq #[.int 1 tR1, .int 2 tR2, .int 3 tR3, .int 4 tR4] nR, slR⟩)
    (aS : PySem.W.nsIn K mainGlobals "Search" = some (some (.ref CS)))
    (pgS : PySem.W.plainGet K CS Str.empty = true)
    (hdS : PySem.W.hasDictIn K CS = true)
    (poS : PySem.W.plainOver K CS = true)
    (saS : PySem.W.findIn K (.ref CS) "__setattr__" = some (some (.builtin "object.__setattr__")))
    (mkS : PySem.W.makesIn K CS = true)
    (kcS : PySem.W.keepIn K (.ref CS) = true)
    (nS_moves : PySem.W.findIn K (.ref CS) "moves" = some none)
    (nS_came_by : PySem.W.findIn K (.ref CS) "came_by" = some none)
    (nS_queue : PySem.W.findIn K (.ref CS) "queue" = some none)
    (aRr : PySem.W.nsIn K mainGlobals "Rule" = some (some (.ref CR)))
    (pgRr : PySem.W.plainGet K CR Str.empty = true)
    (hdRr : PySem.W.hasDictIn K CR = true)
    (poRr : PySem.W.plainOver K CR = true)
    (saRr : PySem.W.findIn K (.ref CR) "__setattr__" = some (some (.builtin "object.__setattr__")))
    (mkRr : PySem.W.makesIn K CR = true)
    (kcRr : PySem.W.keepIn K (.ref CR) = true)
    (nRr_gives : PySem.W.findIn K (.ref CR) "gives" = some none)
    (nRr_admin : PySem.W.findIn K (.ref CR) "admin" = some none)
    (nRr_role : PySem.W.findIn K (.ref CR) "role" = some none)
    (nRr_needed : PySem.W.findIn K (.ref CR) "needed" = some none)
    (nRr_barred : PySem.W.findIn K (.ref CR) "barred" = some none)
    (aM : PySem.W.nsIn K mainGlobals "Move" = some (some (.ref CM)))
    (pgM : PySem.W.plainGet K CM Str.empty = true)
    (hdM : PySem.W.hasDictIn K CM = true)
    (poM : PySem.W.plainOver K CM = true)
    (saM : PySem.W.findIn K (.ref CM) "__setattr__" = some (some (.builtin "object.__setattr__")))
    (mkM : PySem.W.makesIn K CM = true)
    (kcM : PySem.W.keepIn K (.ref CM) = true)
    (nM_k : PySem.W.findIn K (.ref CM) "k" = some none)
    (nM_admin : PySem.W.findIn K (.ref CM) "admin" = some none)
    (nM_doers : PySem.W.findIn K (.ref CM) "doers" = some none)
    (nM_whom : PySem.W.findIn K (.ref CM) "whom" = some none)
    (nM_entitled : PySem.W.findIn K (.ref CM) "entitled" = some none)
    (nM_change : PySem.W.findIn K (.ref CM) "change" = some none)
    (nM_present : PySem.W.findIn K (.ref CM) "present" = some none)
    (nM_absent : PySem.W.findIn K (.ref CM) "absent" = some none)
    (aH : PySem.W.nsIn K mainGlobals "House" = some (some (.ref CH)))
    (pgH : PySem.W.plainGet K CH Str.empty = true)
    (hdH : PySem.W.hasDictIn K CH = true)
    (poH : PySem.W.plainOver K CH = true)
    (saH : PySem.W.findIn K (.ref CH) "__setattr__" = some (some (.builtin "object.__setattr__")))
    (mkH : PySem.W.makesIn K CH = true)
    (kcH : PySem.W.keepIn K (.ref CH) = true)
    (nH_held : PySem.W.findIn K (.ref CH) "held" = some none)
    (nH_rules : PySem.W.findIn K (.ref CH) "rules" = some none)
    (nH_actors : PySem.W.findIn K (.ref CH) "actors" = some none)
    (aD : PySem.W.nsIn K mainGlobals "Reader" = some (some (.ref CD)))
    (pgD : PySem.W.plainGet K CD Str.empty = true)
    (hdD : PySem.W.hasDictIn K CD = true)
    (poD : PySem.W.plainOver K CD = true)
    (saD : PySem.W.findIn K (.ref CD) "__setattr__" = some (some (.builtin "object.__setattr__")))
    (mkD : PySem.W.makesIn K CD = true)
    (kcD : PySem.W.keepIn K (.ref CD) = true)
    (nD_numbers : PySem.W.findIn K (.ref CD) "numbers" = some none)
    (nD_at : PySem.W.findIn K (.ref CD) "at" = some none)
    (a_role_bit : PySem.W.nsIn K mainGlobals "role_bit" = some (some (.ref f_role_bit)))
    (l_role_bit : K.lookup f_role_bit = some ⟨oc_role_bit, od_role_bit, .func (PySem.W.fnOf "role_bit" "role_bit" (defArgs sRoleBit) (defBody sRoleBit) (defScope sRoleBit) .none kV_role_bit dc_role_bit pm_role_bit an_role_bit cd_role_bit ct_role_bit), sl_role_bit⟩)
    (c_role_bit : PySem.W.codeIn K cd_role_bit "role_bit" = true)
    (k_role_bit : PySem.W.keepIn K (.ref f_role_bit) = true)
    (a_role_bits : PySem.W.nsIn K mainGlobals "role_bits" = some (some (.ref f_role_bits)))
    (l_role_bits : K.lookup f_role_bits = some ⟨oc_role_bits, od_role_bits, .func (PySem.W.fnOf "role_bits" "role_bits" (defArgs sRoleBits) (defBody sRoleBits) (defScope sRoleBits) .none kV_role_bits dc_role_bits pm_role_bits an_role_bits cd_role_bits ct_role_bits), sl_role_bits⟩)
    (c_role_bits : PySem.W.codeIn K cd_role_bits "role_bits" = true)
    (k_role_bits : PySem.W.keepIn K (.ref f_role_bits) = true)
    (a_roles_held : PySem.W.nsIn K mainGlobals "roles_held" = some (some (.ref f_roles_held)))
    (l_roles_held : K.lookup f_roles_held = some ⟨oc_roles_held, od_roles_held, .func (PySem.W.fnOf "roles_held" "roles_held" (defArgs sRolesHeld) (defBody sRolesHeld) (defScope sRolesHeld) .none kV_roles_held dc_roles_held pm_roles_held an_roles_held cd_roles_held ct_roles_held), sl_roles_held⟩)
    (c_roles_held : PySem.W.codeIn K cd_roles_held "roles_held" = true)
    (k_roles_held : PySem.W.keepIn K (.ref f_roles_held) = true)
    (a_users_holding : PySem.W.nsIn K mainGlobals "users_holding" = some (some (.ref f_users_holding)))
    (l_users_holding : K.lookup f_users_holding = some ⟨oc_users_holding, od_users_holding, .func (PySem.W.fnOf "users_holding" "users_holding" (defArgs sUsersHolding) (defBody sUsersHolding) (defScope sUsersHolding) .none kV_users_holding dc_users_holding pm_users_holding an_users_holding cd_users_holding ct_users_holding), sl_users_holding⟩)
    (c_users_holding : PySem.W.codeIn K cd_users_holding "users_holding" = true)
    (k_users_holding : PySem.W.keepIn K (.ref f_users_holding) = true)
    (a_find_plan : PySem.W.nsIn K mainGlobals "find_plan" = some (some (.ref f_find_plan)))
    (l_find_plan : K.lookup f_find_plan = some ⟨oc_find_plan, od_find_plan, .func (PySem.W.fnOf "find_plan" "find_plan" (defArgs sFindPlan) (defBody sFindPlan) (defScope sFindPlan) .none kV_find_plan dc_find_plan pm_find_plan an_find_plan cd_find_plan ct_find_plan), sl_find_plan⟩)
    (c_find_plan : PySem.W.codeIn K cd_find_plan "find_plan" = true)
    (k_find_plan : PySem.W.keepIn K (.ref f_find_plan) = true)
    (a_count_ways : PySem.W.nsIn K mainGlobals "count_ways" = some (some (.ref f_count_ways)))
    (l_count_ways : K.lookup f_count_ways = some ⟨oc_count_ways, od_count_ways, .func (PySem.W.fnOf "count_ways" "count_ways" (defArgs sCountWays) (defBody sCountWays) (defScope sCountWays) .none kV_count_ways dc_count_ways pm_count_ways an_count_ways (.ref cd_count_ways) ct_count_ways), sl_count_ways⟩)
    (c_count_ways : PySem.W.codeIn K (.ref cd_count_ways) "count_ways" = true)
    (k_count_ways : PySem.W.keepIn K (.ref f_count_ways) = true)
    (a_tell_plan : PySem.W.nsIn K mainGlobals "tell_plan" = some (some (.ref f_tell_plan)))
    (l_tell_plan : K.lookup f_tell_plan = some ⟨oc_tell_plan, od_tell_plan, .func (PySem.W.fnOf "tell_plan" "tell_plan" (defArgs sTellPlan) (defBody sTellPlan) (defScope sTellPlan) .none kV_tell_plan dc_tell_plan pm_tell_plan an_tell_plan cd_tell_plan ct_tell_plan), sl_tell_plan⟩)
    (c_tell_plan : PySem.W.codeIn K cd_tell_plan "tell_plan" = true)
    (k_tell_plan : PySem.W.keepIn K (.ref f_tell_plan) = true)
    (a_rows_of_rules : PySem.W.nsIn K mainGlobals "rows_of_rules" = some (some (.ref f_rows_of_rules)))
    (l_rows_of_rules : K.lookup f_rows_of_rules = some ⟨oc_rows_of_rules, od_rows_of_rules, .func (PySem.W.fnOf "rows_of_rules" "rows_of_rules" (defArgs sRows) (defBody sRows) (defScope sRows) .none kV_rows_of_rules dc_rows_of_rules pm_rows_of_rules an_rows_of_rules (.ref cd_rows_of_rules) ct_rows_of_rules), sl_rows_of_rules⟩)
    (c_rows_of_rules : PySem.W.codeIn K (.ref cd_rows_of_rules) "rows_of_rules" = true)
    (k_rows_of_rules : PySem.W.keepIn K (.ref f_rows_of_rules) = true)
    (a_share_one : PySem.W.nsIn K mainGlobals "share_one" = some (some (.ref f_share_one)))
    (l_share_one : K.lookup f_share_one = some ⟨oc_share_one, od_share_one, .func (PySem.W.fnOf "share_one" "share_one" (defArgs sShare) (defBody sShare) (defScope sShare) .none kV_share_one dc_share_one pm_share_one an_share_one cd_share_one ct_share_one), sl_share_one⟩)
    (c_share_one : PySem.W.codeIn K cd_share_one "share_one" = true)
    (k_share_one : PySem.W.keepIn K (.ref f_share_one) = true)
    (a_find_guard : PySem.W.nsIn K mainGlobals "find_guard" = some (some (.ref f_find_guard)))
    (l_find_guard : K.lookup f_find_guard = some ⟨oc_find_guard, od_find_guard, .func (PySem.W.fnOf "find_guard" "find_guard" (defArgs sFindGuard) (defBody sFindGuard) (defScope sFindGuard) .none kV_find_guard dc_find_guard pm_find_guard an_find_guard cd_find_guard ct_find_guard), sl_find_guard⟩)
    (c_find_guard : PySem.W.codeIn K cd_find_guard "find_guard" = true)
    (k_find_guard : PySem.W.keepIn K (.ref f_find_guard) = true)
    (a_moves_of : PySem.W.nsIn K mainGlobals "moves_of" = some (some (.ref f_moves_of)))
    (l_moves_of : K.lookup f_moves_of = some ⟨oc_moves_of, od_moves_of, .func (PySem.W.fnOf "moves_of" "moves_of" (defArgs sMovesOf) (defBody sMovesOf) (defScope sMovesOf) .none kV_moves_of dc_moves_of pm_moves_of an_moves_of cd_moves_of ct_moves_of), sl_moves_of⟩)
    (c_moves_of : PySem.W.codeIn K cd_moves_of "moves_of" = true)
    (k_moves_of : PySem.W.keepIn K (.ref f_moves_of) = true)
    (a_is_user : PySem.W.nsIn K mainGlobals "is_user" = some (some (.ref f_is_user)))
    (l_is_user : K.lookup f_is_user = some ⟨oc_is_user, od_is_user, .func (PySem.W.fnOf "is_user" "is_user" (defArgs sIsUser) (defBody sIsUser) (defScope sIsUser) .none kV_is_user dc_is_user pm_is_user an_is_user cd_is_user ct_is_user), sl_is_user⟩)
    (c_is_user : PySem.W.codeIn K cd_is_user "is_user" = true)
    (k_is_user : PySem.W.keepIn K (.ref f_is_user) = true)
    (a_is_role : PySem.W.nsIn K mainGlobals "is_role" = some (some (.ref f_is_role)))
    (l_is_role : K.lookup f_is_role = some ⟨oc_is_role, od_is_role, .func (PySem.W.fnOf "is_role" "is_role" (defArgs sIsRole) (defBody sIsRole) (defScope sIsRole) .none kV_is_role dc_is_role pm_is_role an_is_role cd_is_role ct_is_role), sl_is_role⟩)
    (c_is_role : PySem.W.codeIn K cd_is_role "is_role" = true)
    (k_is_role : PySem.W.keepIn K (.ref f_is_role) = true)
    (a_rises_within : PySem.W.nsIn K mainGlobals "rises_within" = some (some (.ref f_rises_within)))
    (l_rises_within : K.lookup f_rises_within = some ⟨oc_rises_within, od_rises_within, .func (PySem.W.fnOf "rises_within" "rises_within" (defArgs sRises) (defBody sRises) (defScope sRises) .none kV_rises_within dc_rises_within pm_rises_within an_rises_within cd_rises_within ct_rises_within), sl_rises_within⟩)
    (c_rises_within : PySem.W.codeIn K cd_rises_within "rises_within" = true)
    (k_rises_within : PySem.W.keepIn K (.ref f_rises_within) = true)
    (a_are_roles : PySem.W.nsIn K mainGlobals "are_roles" = some (some (.ref f_are_roles)))
    (l_are_roles : K.lookup f_are_roles = some ⟨oc_are_roles, od_are_roles, .func (PySem.W.fnOf "are_roles" "are_roles" (defArgs sAreRoles) (defBody sAreRoles) (defScope sAreRoles) .none kV_are_roles dc_are_roles pm_are_roles an_are_roles cd_are_roles ct_are_roles), sl_are_roles⟩)
    (c_are_roles : PySem.W.codeIn K cd_are_roles "are_roles" = true)
    (k_are_roles : PySem.W.keepIn K (.ref f_are_roles) = true)
    (a_set_roles : PySem.W.nsIn K mainGlobals "set_roles" = some (some (.ref f_set_roles)))
    (l_set_roles : K.lookup f_set_roles = some ⟨oc_set_roles, od_set_roles, .func (PySem.W.fnOf "set_roles" "set_roles" (defArgs sSetRoles) (defBody sSetRoles) (defScope sSetRoles) .none kV_set_roles dc_set_roles pm_set_roles an_set_roles cd_set_roles ct_set_roles), sl_set_roles⟩)
    (c_set_roles : PySem.W.codeIn K cd_set_roles "set_roles" = true)
    (k_set_roles : PySem.W.keepIn K (.ref f_set_roles) = true)
    (a_add_rule : PySem.W.nsIn K mainGlobals "add_rule" = some (some (.ref f_add_rule)))
    (l_add_rule : K.lookup f_add_rule = some ⟨oc_add_rule, od_add_rule, .func (PySem.W.fnOf "add_rule" "add_rule" (defArgs sAddRule) (defBody sAddRule) (defScope sAddRule) .none kV_add_rule dc_add_rule pm_add_rule an_add_rule cd_add_rule ct_add_rule), sl_add_rule⟩)
    (c_add_rule : PySem.W.codeIn K cd_add_rule "add_rule" = true)
    (k_add_rule : PySem.W.keepIn K (.ref f_add_rule) = true)
    (a_give : PySem.W.nsIn K mainGlobals "give" = some (some (.ref f_give)))
    (l_give : K.lookup f_give = some ⟨oc_give, od_give, .func (PySem.W.fnOf "give" "give" (defArgs sGive) (defBody sGive) (defScope sGive) .none kV_give dc_give pm_give an_give cd_give ct_give), sl_give⟩)
    (c_give : PySem.W.codeIn K cd_give "give" = true)
    (k_give : PySem.W.keepIn K (.ref f_give) = true)
    (a_take : PySem.W.nsIn K mainGlobals "take" = some (some (.ref f_take)))
    (l_take : K.lookup f_take = some ⟨oc_take, od_take, .func (PySem.W.fnOf "take" "take" (defArgs sTake) (defBody sTake) (defScope sTake) .none kV_take dc_take pm_take an_take cd_take ct_take), sl_take⟩)
    (c_take : PySem.W.codeIn K cd_take "take" = true)
    (k_take : PySem.W.keepIn K (.ref f_take) = true)
    (a_strike : PySem.W.nsIn K mainGlobals "strike" = some (some (.ref f_strike)))
    (l_strike : K.lookup f_strike = some ⟨oc_strike, od_strike, .func (PySem.W.fnOf "strike" "strike" (defArgs sStrike) (defBody sStrike) (defScope sStrike) .none kV_strike dc_strike pm_strike an_strike cd_strike ct_strike), sl_strike⟩)
    (c_strike : PySem.W.codeIn K cd_strike "strike" = true)
    (k_strike : PySem.W.keepIn K (.ref f_strike) = true)
    (a_set_actors : PySem.W.nsIn K mainGlobals "set_actors" = some (some (.ref f_set_actors)))
    (l_set_actors : K.lookup f_set_actors = some ⟨oc_set_actors, od_set_actors, .func (PySem.W.fnOf "set_actors" "set_actors" (defArgs sSetActors) (defBody sSetActors) (defScope sSetActors) .none kV_set_actors dc_set_actors pm_set_actors an_set_actors cd_set_actors ct_set_actors), sl_set_actors⟩)
    (c_set_actors : PySem.W.codeIn K cd_set_actors "set_actors" = true)
    (k_set_actors : PySem.W.keepIn K (.ref f_set_actors) = true)
    (a_do_step : PySem.W.nsIn K mainGlobals "do_step" = some (some (.ref f_do_step)))
    (l_do_step : K.lookup f_do_step = some ⟨oc_do_step, od_do_step, .func (PySem.W.fnOf "do_step" "do_step" (defArgs sDoStep) (defBody sDoStep) (defScope sDoStep) .none kV_do_step dc_do_step pm_do_step an_do_step cd_do_step ct_do_step), sl_do_step⟩)
    (c_do_step : PySem.W.codeIn K cd_do_step "do_step" = true)
    (k_do_step : PySem.W.keepIn K (.ref f_do_step) = true)
    (a_tell_row : PySem.W.nsIn K mainGlobals "tell_row" = some (some (.ref f_tell_row)))
    (l_tell_row : K.lookup f_tell_row = some ⟨oc_tell_row, od_tell_row, .func (PySem.W.fnOf "tell_row" "tell_row" (defArgs sTellRow) (defBody sTellRow) (defScope sTellRow) .none kV_tell_row dc_tell_row pm_tell_row an_tell_row cd_tell_row ct_tell_row), sl_tell_row⟩)
    (c_tell_row : PySem.W.codeIn K cd_tell_row "tell_row" = true)
    (k_tell_row : PySem.W.keepIn K (.ref f_tell_row) = true)
    (a_can_have : PySem.W.nsIn K mainGlobals "can_have" = some (some (.ref f_can_have)))
    (l_can_have : K.lookup f_can_have = some ⟨oc_can_have, od_can_have, .func (PySem.W.fnOf "can_have" "can_have" (defArgs sCanHave) (defBody sCanHave) (defScope sCanHave) .none kV_can_have dc_can_have pm_can_have an_can_have (.ref cd_can_have) ct_can_have), sl_can_have⟩)
    (c_can_have : PySem.W.codeIn K (.ref cd_can_have) "can_have" = true)
    (k_can_have : PySem.W.keepIn K (.ref f_can_have) = true)
    (a_can_lose : PySem.W.nsIn K mainGlobals "can_lose" = some (some (.ref f_can_lose)))
    (l_can_lose : K.lookup f_can_lose = some ⟨oc_can_lose, od_can_lose, .func (PySem.W.fnOf "can_lose" "can_lose" (defArgs sCanLose) (defBody sCanLose) (defScope sCanLose) .none kV_can_lose dc_can_lose pm_can_lose an_can_lose (.ref cd_can_lose) ct_can_lose), sl_can_lose⟩)
    (c_can_lose : PySem.W.codeIn K (.ref cd_can_lose) "can_lose" = true)
    (k_can_lose : PySem.W.keepIn K (.ref f_can_lose) = true)
    (a_can_never : PySem.W.nsIn K mainGlobals "can_never" = some (some (.ref f_can_never)))
    (l_can_never : K.lookup f_can_never = some ⟨oc_can_never, od_can_never, .func (PySem.W.fnOf "can_never" "can_never" (defArgs sCanNever) (defBody sCanNever) (defScope sCanNever) .none kV_can_never dc_can_never pm_can_never an_can_never (.ref cd_can_never) ct_can_never), sl_can_never⟩)
    (c_can_never : PySem.W.codeIn K (.ref cd_can_never) "can_never" = true)
    (k_can_never : PySem.W.keepIn K (.ref f_can_never) = true)
    (a_plan_for : PySem.W.nsIn K mainGlobals "plan_for" = some (some (.ref f_plan_for)))
    (l_plan_for : K.lookup f_plan_for = some ⟨oc_plan_for, od_plan_for, .func (PySem.W.fnOf "plan_for" "plan_for" (defArgs sPlanFor) (defBody sPlanFor) (defScope sPlanFor) .none kV_plan_for dc_plan_for pm_plan_for an_plan_for cd_plan_for ct_plan_for), sl_plan_for⟩)
    (c_plan_for : PySem.W.codeIn K cd_plan_for "plan_for" = true)
    (k_plan_for : PySem.W.keepIn K (.ref f_plan_for) = true)
    (a_guard : PySem.W.nsIn K mainGlobals "guard" = some (some (.ref f_guard)))
    (l_guard : K.lookup f_guard = some ⟨oc_guard, od_guard, .func (PySem.W.fnOf "guard" "guard" (defArgs sGuard) (defBody sGuard) (defScope sGuard) .none kV_guard dc_guard pm_guard an_guard (.ref cd_guard) ct_guard), sl_guard⟩)
    (c_guard : PySem.W.codeIn K (.ref cd_guard) "guard" = true)
    (k_guard : PySem.W.keepIn K (.ref f_guard) = true)
    (a_count_many : PySem.W.nsIn K mainGlobals "count_many" = some (some (.ref f_count_many)))
    (l_count_many : K.lookup f_count_many = some ⟨oc_count_many, od_count_many, .func (PySem.W.fnOf "count_many" "count_many" (defArgs sCountMany) (defBody sCountMany) (defScope sCountMany) .none kV_count_many dc_count_many pm_count_many an_count_many cd_count_many ct_count_many), sl_count_many⟩)
    (c_count_many : PySem.W.codeIn K cd_count_many "count_many" = true)
    (k_count_many : PySem.W.keepIn K (.ref f_count_many) = true)
    (a_tell_roles : PySem.W.nsIn K mainGlobals "tell_roles" = some (some (.ref f_tell_roles)))
    (l_tell_roles : K.lookup f_tell_roles = some ⟨oc_tell_roles, od_tell_roles, .func (PySem.W.fnOf "tell_roles" "tell_roles" (defArgs sTellRoles) (defBody sTellRoles) (defScope sTellRoles) .none kV_tell_roles dc_tell_roles pm_tell_roles an_tell_roles cd_tell_roles ct_tell_roles), sl_tell_roles⟩)
    (c_tell_roles : PySem.W.codeIn K cd_tell_roles "tell_roles" = true)
    (k_tell_roles : PySem.W.keepIn K (.ref f_tell_roles) = true)
    (a_tell_rule : PySem.W.nsIn K mainGlobals "tell_rule" = some (some (.ref f_tell_rule)))
    (l_tell_rule : K.lookup f_tell_rule = some ⟨oc_tell_rule, od_tell_rule, .func (PySem.W.fnOf "tell_rule" "tell_rule" (defArgs sTellRule) (defBody sTellRule) (defScope sTellRule) .none kV_tell_rule dc_tell_rule pm_tell_rule an_tell_rule cd_tell_rule ct_tell_rule), sl_tell_rule⟩)
    (c_tell_rule : PySem.W.codeIn K cd_tell_rule "tell_rule" = true)
    (k_tell_rule : PySem.W.keepIn K (.ref f_tell_rule) = true)
    (a_tell_rules : PySem.W.nsIn K mainGlobals "tell_rules" = some (some (.ref f_tell_rules)))
    (l_tell_rules : K.lookup f_tell_rules = some ⟨oc_tell_rules, od_tell_rules, .func (PySem.W.fnOf "tell_rules" "tell_rules" (defArgs sTellRules) (defBody sTellRules) (defScope sTellRules) .none kV_tell_rules dc_tell_rules pm_tell_rules an_tell_rules cd_tell_rules ct_tell_rules), sl_tell_rules⟩)
    (c_tell_rules : PySem.W.codeIn K cd_tell_rules "tell_rules" = true)
    (k_tell_rules : PySem.W.keepIn K (.ref f_tell_rules) = true)
    (a_answer_change : PySem.W.nsIn K mainGlobals "answer_change" = some (some (.ref f_answer_change)))
    (l_answer_change : K.lookup f_answer_change = some ⟨oc_answer_change, od_answer_change, .func (PySem.W.fnOf "answer_change" "answer_change" (defArgs sAnswerChange) (defBody sAnswerChange) (defScope sAnswerChange) .none kV_answer_change dc_answer_change pm_answer_change an_answer_change cd_answer_change ct_answer_change), sl_answer_change⟩)
    (c_answer_change : PySem.W.codeIn K cd_answer_change "answer_change" = true)
    (k_answer_change : PySem.W.keepIn K (.ref f_answer_change) = true)
    (a_answer_question : PySem.W.nsIn K mainGlobals "answer_question" = some (some (.ref f_answer_question)))
    (l_answer_question : K.lookup f_answer_question = some ⟨oc_answer_question, od_answer_question, .func (PySem.W.fnOf "answer_question" "answer_question" (defArgs sAnswerQuestion) (defBody sAnswerQuestion) (defScope sAnswerQuestion) .none kV_answer_question dc_answer_question pm_answer_question an_answer_question cd_answer_question ct_answer_question), sl_answer_question⟩)
    (c_answer_question : PySem.W.codeIn K cd_answer_question "answer_question" = true)
    (k_answer_question : PySem.W.keepIn K (.ref f_answer_question) = true)
    (a_answer_call : PySem.W.nsIn K mainGlobals "answer_call" = some (some (.ref f_answer_call)))
    (l_answer_call : K.lookup f_answer_call = some ⟨oc_answer_call, od_answer_call, .func (PySem.W.fnOf "answer_call" "answer_call" (defArgs sAnswerCall) (defBody sAnswerCall) (defScope sAnswerCall) .none kV_answer_call dc_answer_call pm_answer_call an_answer_call cd_answer_call ct_answer_call), sl_answer_call⟩)
    (c_answer_call : PySem.W.codeIn K cd_answer_call "answer_call" = true)
    (k_answer_call : PySem.W.keepIn K (.ref f_answer_call) = true)
    (a_answers : PySem.W.nsIn K mainGlobals "answers" = some (some (.ref f_answers)))
    (l_answers : K.lookup f_answers = some ⟨oc_answers, od_answers, .func (PySem.W.fnOf "answers" "answers" (defArgs sAnswers) (defBody sAnswers) (defScope sAnswers) .none kV_answers dc_answers pm_answers an_answers cd_answers ct_answers), sl_answers⟩)
    (c_answers : PySem.W.codeIn K cd_answers "answers" = true)
    (k_answers : PySem.W.keepIn K (.ref f_answers) = true)
    (a_S_init : PySem.W.findIn K (.ref CS) "__init__" = some (some (.ref f_S_init)))
    (i_S_init : PySem.W.isFn K (.ref f_S_init) = true)
    (l_S_init : K.lookup f_S_init = some ⟨oc_S_init, od_S_init, .func (PySem.W.fnOf "__init__" "Search.__init__" (defArgs sSrInit) (defBody sSrInit) (defScope sSrInit) .none kV_S_init dc_S_init pm_S_init an_S_init cd_S_init ct_S_init), sl_S_init⟩)
    (c_S_init : PySem.W.codeIn K cd_S_init "Search.__init__" = true)
    (k_S_init : PySem.W.keepIn K (.ref f_S_init) = true)
    (a_S_go_until : PySem.W.findIn K (.ref CS) "go_until" = some (some (.ref f_S_go_until)))
    (i_S_go_until : PySem.W.isFn K (.ref f_S_go_until) = true)
    (l_S_go_until : K.lookup f_S_go_until = some ⟨oc_S_go_until, od_S_go_until, .func (PySem.W.fnOf "go_until" "Search.go_until" (defArgs sGo) (defBody sGo) (defScope sGo) .none kV_S_go_until dc_S_go_until pm_S_go_until an_S_go_until cd_S_go_until ct_S_go_until), sl_S_go_until⟩)
    (c_S_go_until : PySem.W.codeIn K cd_S_go_until "Search.go_until" = true)
    (k_S_go_until : PySem.W.keepIn K (.ref f_S_go_until) = true)
    (a_S_visit : PySem.W.findIn K (.ref CS) "visit" = some (some (.ref f_S_visit)))
    (i_S_visit : PySem.W.isFn K (.ref f_S_visit) = true)
    (l_S_visit : K.lookup f_S_visit = some ⟨oc_S_visit, od_S_visit, .func (PySem.W.fnOf "visit" "Search.visit" (defArgs sVisit) (defBody sVisit) (defScope sVisit) .none kV_S_visit dc_S_visit pm_S_visit an_S_visit cd_S_visit ct_S_visit), sl_S_visit⟩)
    (c_S_visit : PySem.W.codeIn K cd_S_visit "Search.visit" = true)
    (k_S_visit : PySem.W.keepIn K (.ref f_S_visit) = true)
    (a_S_steps_to : PySem.W.findIn K (.ref CS) "steps_to" = some (some (.ref f_S_steps_to)))
    (i_S_steps_to : PySem.W.isFn K (.ref f_S_steps_to) = true)
    (l_S_steps_to : K.lookup f_S_steps_to = some ⟨oc_S_steps_to, od_S_steps_to, .func (PySem.W.fnOf "steps_to" "Search.steps_to" (defArgs sStepsTo) (defBody sStepsTo) (defScope sStepsTo) .none kV_S_steps_to dc_S_steps_to pm_S_steps_to an_S_steps_to cd_S_steps_to ct_S_steps_to), sl_S_steps_to⟩)
    (c_S_steps_to : PySem.W.codeIn K cd_S_steps_to "Search.steps_to" = true)
    (k_S_steps_to : PySem.W.keepIn K (.ref f_S_steps_to) = true)
    (a_Rr_init : PySem.W.findIn K (.ref CR) "__init__" = some (some (.ref f_Rr_init)))
    (i_Rr_init : PySem.W.isFn K (.ref f_Rr_init) = true)
    (l_Rr_init : K.lookup f_Rr_init = some ⟨oc_Rr_init, od_Rr_init, .func (PySem.W.fnOf "__init__" "Rule.__init__" (defArgs sRuleInit) (defBody sRuleInit) (defScope sRuleInit) .none kV_Rr_init dc_Rr_init pm_Rr_init an_Rr_init cd_Rr_init ct_Rr_init), sl_Rr_init⟩)
    (c_Rr_init : PySem.W.codeIn K cd_Rr_init "Rule.__init__" = true)
    (k_Rr_init : PySem.W.keepIn K (.ref f_Rr_init) = true)
    (a_M_init : PySem.W.findIn K (.ref CM) "__init__" = some (some (.ref f_M_init)))
    (i_M_init : PySem.W.isFn K (.ref f_M_init) = true)
    (l_M_init : K.lookup f_M_init = some ⟨oc_M_init, od_M_init, .func (PySem.W.fnOf "__init__" "Move.__init__" (defArgs sMoveInit) (defBody sMoveInit) (defScope sMoveInit) .none kV_M_init dc_M_init pm_M_init an_M_init cd_M_init ct_M_init), sl_M_init⟩)
    (c_M_init : PySem.W.codeIn K cd_M_init "Move.__init__" = true)
    (k_M_init : PySem.W.keepIn K (.ref f_M_init) = true)
    (a_M_may_be_done : PySem.W.findIn K (.ref CM) "may_be_done" = some (some (.ref f_M_may_be_done)))
    (i_M_may_be_done : PySem.W.isFn K (.ref f_M_may_be_done) = true)
    (l_M_may_be_done : K.lookup f_M_may_be_done = some ⟨oc_M_may_be_done, od_M_may_be_done, .func (PySem.W.fnOf "may_be_done" "Move.may_be_done" (defArgs sMay) (defBody sMay) (defScope sMay) .none kV_M_may_be_done dc_M_may_be_done pm_M_may_be_done an_M_may_be_done cd_M_may_be_done ct_M_may_be_done), sl_M_may_be_done⟩)
    (c_M_may_be_done : PySem.W.codeIn K cd_M_may_be_done "Move.may_be_done" = true)
    (k_M_may_be_done : PySem.W.keepIn K (.ref f_M_may_be_done) = true)
    (a_M_held_behind : PySem.W.findIn K (.ref CM) "held_behind" = some (some (.ref f_M_held_behind)))
    (i_M_held_behind : PySem.W.isFn K (.ref f_M_held_behind) = true)
    (l_M_held_behind : K.lookup f_M_held_behind = some ⟨oc_M_held_behind, od_M_held_behind, .func (PySem.W.fnOf "held_behind" "Move.held_behind" (defArgs sBehind) (defBody sBehind) (defScope sBehind) .none kV_M_held_behind dc_M_held_behind pm_M_held_behind an_M_held_behind cd_M_held_behind ct_M_held_behind), sl_M_held_behind⟩)
    (c_M_held_behind : PySem.W.codeIn K cd_M_held_behind "Move.held_behind" = true)
    (k_M_held_behind : PySem.W.keepIn K (.ref f_M_held_behind) = true)
    (a_M_tell_step : PySem.W.findIn K (.ref CM) "tell_step" = some (some (.ref f_M_tell_step)))
    (i_M_tell_step : PySem.W.isFn K (.ref f_M_tell_step) = true)
    (l_M_tell_step : K.lookup f_M_tell_step = some ⟨oc_M_tell_step, od_M_tell_step, .func (PySem.W.fnOf "tell_step" "Move.tell_step" (defArgs sTellStep) (defBody sTellStep) (defScope sTellStep) .none kV_M_tell_step dc_M_tell_step pm_M_tell_step an_M_tell_step cd_M_tell_step ct_M_tell_step), sl_M_tell_step⟩)
    (c_M_tell_step : PySem.W.codeIn K cd_M_tell_step "Move.tell_step" = true)
    (k_M_tell_step : PySem.W.keepIn K (.ref f_M_tell_step) = true)
    (a_H_init : PySem.W.findIn K (.ref CH) "__init__" = some (some (.ref f_H_init)))
    (i_H_init : PySem.W.isFn K (.ref f_H_init) = true)
    (l_H_init : K.lookup f_H_init = some ⟨oc_H_init, od_H_init, .func (PySem.W.fnOf "__init__" "House.__init__" (defArgs sHouseInit) (defBody sHouseInit) (defScope sHouseInit) .none kV_H_init dc_H_init pm_H_init an_H_init cd_H_init ct_H_init), sl_H_init⟩)
    (c_H_init : PySem.W.codeIn K cd_H_init "House.__init__" = true)
    (k_H_init : PySem.W.keepIn K (.ref f_H_init) = true)
    (a_D_init : PySem.W.findIn K (.ref CD) "__init__" = some (some (.ref f_D_init)))
    (i_D_init : PySem.W.isFn K (.ref f_D_init) = true)
    (l_D_init : K.lookup f_D_init = some ⟨oc_D_init, od_D_init, .func (PySem.W.fnOf "__init__" "Reader.__init__" (defArgs sRdInit) (defBody sRdInit) (defScope sRdInit) .none kV_D_init dc_D_init pm_D_init an_D_init cd_D_init ct_D_init), sl_D_init⟩)
    (c_D_init : PySem.W.codeIn K cd_D_init "Reader.__init__" = true)
    (k_D_init : PySem.W.keepIn K (.ref f_D_init) = true)
    (a_D_has_more : PySem.W.findIn K (.ref CD) "has_more" = some (some (.ref f_D_has_more)))
    (i_D_has_more : PySem.W.isFn K (.ref f_D_has_more) = true)
    (l_D_has_more : K.lookup f_D_has_more = some ⟨oc_D_has_more, od_D_has_more, .func (PySem.W.fnOf "has_more" "Reader.has_more" (defArgs sRdMore) (defBody sRdMore) (defScope sRdMore) .none kV_D_has_more dc_D_has_more pm_D_has_more an_D_has_more cd_D_has_more ct_D_has_more), sl_D_has_more⟩)
    (c_D_has_more : PySem.W.codeIn K cd_D_has_more "Reader.has_more" = true)
    (k_D_has_more : PySem.W.keepIn K (.ref f_D_has_more) = true)
    (a_D_read_number : PySem.W.findIn K (.ref CD) "read_number" = some (some (.ref f_D_read_number)))
    (i_D_read_number : PySem.W.isFn K (.ref f_D_read_number) = true)
    (l_D_read_number : K.lookup f_D_read_number = some ⟨oc_D_read_number, od_D_read_number, .func (PySem.W.fnOf "read_number" "Reader.read_number" (defArgs sRdNum) (defBody sRdNum) (defScope sRdNum) .none kV_D_read_number dc_D_read_number pm_D_read_number an_D_read_number cd_D_read_number ct_D_read_number), sl_D_read_number⟩)
    (c_D_read_number : PySem.W.codeIn K cd_D_read_number "Reader.read_number" = true)
    (k_D_read_number : PySem.W.keepIn K (.ref f_D_read_number) = true)
    (a_D_read_row : PySem.W.findIn K (.ref CD) "read_row" = some (some (.ref f_D_read_row)))
    (i_D_read_row : PySem.W.isFn K (.ref f_D_read_row) = true)
    (l_D_read_row : K.lookup f_D_read_row = some ⟨oc_D_read_row, od_D_read_row, .func (PySem.W.fnOf "read_row" "Reader.read_row" (defArgs sRdRow) (defBody sRdRow) (defScope sRdRow) .none kV_D_read_row dc_D_read_row pm_D_read_row an_D_read_row cd_D_read_row ct_D_read_row), sl_D_read_row⟩)
    (c_D_read_row : PySem.W.codeIn K cd_D_read_row "Reader.read_row" = true)
    (k_D_read_row : PySem.W.keepIn K (.ref f_D_read_row) = true)
    (v_MOST_RULES : PySem.W.nsIn K mainGlobals "MOST_RULES" = some (some (.int 6 t_MOST_RULES)))
    (v_NOT_AS_TOLD : PySem.W.nsIn K mainGlobals "NOT_AS_TOLD" = some (some (.int (-1) t_NOT_AS_TOLD)))
    (v_NO_SUCH_RULE : PySem.W.nsIn K mainGlobals "NO_SUCH_RULE" = some (some (.int (-2) t_NO_SUCH_RULE)))
    (v_NO_PLAN : PySem.W.nsIn K mainGlobals "NO_PLAN" = some (some (.int (-3) t_NO_PLAN)))
    (v_TOO_MANY_RULES : PySem.W.nsIn K mainGlobals "TOO_MANY_RULES" = some (some (.int (-5) t_TOO_MANY_RULES)))
    (v_NOT_ALLOWED : PySem.W.nsIn K mainGlobals "NOT_ALLOWED" = some (some (.int (-6) t_NOT_ALLOWED)))
    (v_HELD_ALREADY : PySem.W.nsIn K mainGlobals "HELD_ALREADY" = some (some (.int (-6) t_HELD_ALREADY)))
    (v_SET : PySem.W.nsIn K mainGlobals "SET" = some (some (.int 0 t_SET)))
    (v_GIVE : PySem.W.nsIn K mainGlobals "GIVE" = some (some (.int 1 t_GIVE)))
    (v_TAKE : PySem.W.nsIn K mainGlobals "TAKE" = some (some (.int 2 t_TAKE)))
    (v_STRIKE : PySem.W.nsIn K mainGlobals "STRIKE" = some (some (.int 3 t_STRIKE)))
    (v_ACTORS : PySem.W.nsIn K mainGlobals "ACTORS" = some (some (.int 4 t_ACTORS)))
    (v_DO : PySem.W.nsIn K mainGlobals "DO" = some (some (.int 5 t_DO)))
    (v_CAN : PySem.W.nsIn K mainGlobals "CAN" = some (some (.int 6 t_CAN)))
    (v_LOSE : PySem.W.nsIn K mainGlobals "LOSE" = some (some (.int 7 t_LOSE)))
    (v_NEVER : PySem.W.nsIn K mainGlobals "NEVER" = some (some (.int 8 t_NEVER)))
    (v_GUARD : PySem.W.nsIn K mainGlobals "GUARD" = some (some (.int 9 t_GUARD)))
    (v_MANY : PySem.W.nsIn K mainGlobals "MANY" = some (some (.int 10 t_MANY)))
    (v_ROLES_OF : PySem.W.nsIn K mainGlobals "ROLES_OF" = some (some (.int 11 t_ROLES_OF)))
    (v_NOW : PySem.W.nsIn K mainGlobals "NOW" = some (some (.int 12 t_NOW)))
    (z_len : PySem.W.nsIn K mainGlobals "len" = some none)
    (z_list : PySem.W.nsIn K mainGlobals "list" = some none)
    (z_reversed : PySem.W.nsIn K mainGlobals "reversed" = some none)
    (z_range : PySem.W.nsIn K mainGlobals "range" = some none)
    (z_sum : PySem.W.nsIn K mainGlobals "sum" = some none)
    (z_any : PySem.W.nsIn K mainGlobals "any" = some none)
    (z_all : PySem.W.nsIn K mainGlobals "all" = some none)
    (z_sorted : PySem.W.nsIn K mainGlobals "sorted" = some none)
    (z_enumerate : PySem.W.nsIn K mainGlobals "enumerate" = some none)
    (y_count_ways : K.lookup cd_count_ways = some ⟨oy_count_ways, dy_count_ways, .fields vy_count_ways, sy_count_ways⟩)
    (x_count_ways : vy_count_ways[11]? = some (.ref pt_count_ways))
    (o_count_ways : K.lookup pt_count_ways = none)
    (r_count_ways : ∃ d, (recsOf qp).find? (fun e => e.name == ("count_ways" : Str)) = some d)
    (y_rows_of_rules : K.lookup cd_rows_of_rules = some ⟨oy_rows_of_rules, dy_rows_of_rules, .fields vy_rows_of_rules, sy_rows_of_rules⟩)
    (x_rows_of_rules : vy_rows_of_rules[11]? = some (.ref pt_rows_of_rules))
    (o_rows_of_rules : K.lookup pt_rows_of_rules = none)
    (r_rows_of_rules : ∃ d, (recsOf qp).find? (fun e => e.name == ("rows_of_rules" : Str)) = some d)
    (y_can_have : K.lookup cd_can_have = some ⟨oy_can_have, dy_can_have, .fields vy_can_have, sy_can_have⟩)
    (x_can_have : vy_can_have[11]? = some (.ref pt_can_have))
    (o_can_have : K.lookup pt_can_have = none)
    (r_can_have : ∃ d, (recsOf qp).find? (fun e => e.name == ("can_have" : Str)) = some d)
    (y_can_lose : K.lookup cd_can_lose = some ⟨oy_can_lose, dy_can_lose, .fields vy_can_lose, sy_can_lose⟩)
    (x_can_lose : vy_can_lose[11]? = some (.ref pt_can_lose))
    (o_can_lose : K.lookup pt_can_lose = none)
    (r_can_lose : ∃ d, (recsOf qp).find? (fun e => e.name == ("can_lose" : Str)) = some d)
    (y_can_never : K.lookup cd_can_never = some ⟨oy_can_never, dy_can_never, .fields vy_can_never, sy_can_never⟩)
    (x_can_never : vy_can_never[11]? = some (.ref pt_can_never))
    (o_can_never : K.lookup pt_can_never = none)
    (r_can_never : ∃ d, (recsOf qp).find? (fun e => e.name == ("can_never" : Str)) = some d)
    (y_guard : K.lookup cd_guard = some ⟨oy_guard, dy_guard, .fields vy_guard, sy_guard⟩)
    (x_guard : vy_guard[11]? = some (.ref pt_guard))
    (o_guard : K.lookup pt_guard = none)
    (r_guard : ∃ d, (recsOf qp).find? (fun e => e.name == ("guard" : Str)) = some d)
    (ndt : ([pt_count_ways, pt_rows_of_rules, pt_can_have, pt_can_lose, pt_can_never, pt_guard] : List Addr).Nodup)
    : ∃ (fd : FuncData) (xs : List Str) (cs : List (Addr × Addr)), Paired (Clo.Maker qp K) xs cs ∧ (∀ (s : Shared) (us : List Value), us.length = (["calls"] : List Str).length → BindsTo s fd ⟨us, []⟩ ((["calls"] : List Str).zip us)) ∧
      (∀ base : Heap, K.In base → base.Ns mainGlobals mg → (∀ p ∈ cs, LamX.TabB base mg p.1 p.2) → FnOk P w K mg base CX0 10 fa fd ["calls"] (spAns K (tabsOf cs))) := by
  have e := hfa.symm.trans (PySem.W.mg_of X G a_answers)
  cases e
  let a : Ad := ⟨U, R, CS, CR, CM, CH, CD⟩
  have TT : Txt K mg a := ⟨PySem.W.mg_of X G aU, PySem.W.mg_of X G aR, (fun _ => .inr ⟨_, _, _, lU, rfl, rfl, (by show 3 ≤ sizeLine; decide), .cons ⟨_, rfl⟩ (.cons ⟨_, rfl⟩ (.cons ⟨_, rfl⟩ (.nil)))⟩), (fun _ => .inr ⟨_, _, _, lR, rfl, rfl, (by show 4 ≤ sizeLine; decide), .cons ⟨_, rfl⟩ (.cons ⟨_, rfl⟩ (.cons ⟨_, rfl⟩ (.cons ⟨_, rfl⟩ (.nil))))⟩), PySem.W.mg_none_of X G z_len, PySem.W.mg_none_of X G z_list, PySem.W.mg_none_of X G z_reversed, PySem.W.mg_none_of X G z_range, PySem.W.mg_none_of X G z_sum, PySem.W.mg_none_of X G z_any, PySem.W.mg_none_of X G z_all, PySem.W.mg_none_of X G z_sorted, PySem.W.mg_none_of X G z_enumerate, PySem.W.mg_of X G aS, PySem.W.mg_of X G aRr, PySem.W.mg_of X G aM, ⟨pgS, hdS, poS, saS⟩, ⟨pgRr, hdRr, poRr, saRr⟩, ⟨pgM, hdM, poM, saM⟩, nS_moves, nS_came_by, nS_queue, nRr_gives, nRr_admin, nRr_role, nRr_needed, nRr_barred, nM_k, nM_admin, nM_doers, nM_whom, nM_entitled, nM_change, nM_present, nM_absent⟩
  have TH : TxtH K mg a := ⟨⟨_, PySem.W.mg_of X G v_MOST_RULES⟩, ⟨_, PySem.W.mg_of X G v_NOT_AS_TOLD⟩, ⟨_, PySem.W.mg_of X G v_NO_SUCH_RULE⟩, ⟨_, PySem.W.mg_of X G v_NO_PLAN⟩, ⟨_, PySem.W.mg_of X G v_TOO_MANY_RULES⟩, ⟨_, PySem.W.mg_of X G v_NOT_ALLOWED⟩, ⟨_, PySem.W.mg_of X G v_HELD_ALREADY⟩, PySem.W.mg_of X G aH, ⟨pgH, hdH, poH, saH⟩, nH_held, nH_rules, nH_actors⟩
  have TR : TxtR K mg a := ⟨PySem.W.mg_of X G aD, ⟨pgD, hdD, poD, saD⟩, nD_numbers, nD_at⟩
  have TC : TxtC mg := ⟨⟨_, PySem.W.mg_of X G v_SET⟩, ⟨_, PySem.W.mg_of X G v_GIVE⟩, ⟨_, PySem.W.mg_of X G v_TAKE⟩, ⟨_, PySem.W.mg_of X G v_STRIKE⟩, ⟨_, PySem.W.mg_of X G v_ACTORS⟩, ⟨_, PySem.W.mg_of X G v_DO⟩, ⟨_, PySem.W.mg_of X G v_CAN⟩, ⟨_, PySem.W.mg_of X G v_LOSE⟩, ⟨_, PySem.W.mg_of X G v_NEVER⟩, ⟨_, PySem.W.mg_of X G v_GUARD⟩, ⟨_, PySem.W.mg_of X G v_MANY⟩, ⟨_, PySem.W.mg_of X G v_ROLES_OF⟩, ⟨_, PySem.W.mg_of X G v_NOW⟩⟩
  have F_role_bit := fun_mk (st := sRoleBit) l_role_bit c_role_bit k_role_bit
  have b_role_bit := F_role_bit.binds (ps := ["user", "role"]) fun _ _ _ _ _ _ us hl => match us, hl with | [_, _], _ => rfl
  have F_role_bits := fun_mk (st := sRoleBits) l_role_bits c_role_bits k_role_bits
  have b_role_bits := F_role_bits.binds (ps := ["user", "roles"]) fun _ _ _ _ _ _ us hl => match us, hl with | [_, _], _ => rfl
  have F_roles_held := fun_mk (st := sRolesHeld) l_roles_held c_roles_held k_roles_held
  have b_roles_held := F_roles_held.binds (ps := ["held", "user"]) fun _ _ _ _ _ _ us hl => match us, hl with | [_, _], _ => rfl
  have F_users_holding := fun_mk (st := sUsersHolding) l_users_holding c_users_holding k_users_holding
  have b_users_holding := F_users_holding.binds (ps := ["held", "role", "users"]) fun _ _ _ _ _ _ us hl => match us, hl with | [_, _, _], _ => rfl
  have F_find_plan := fun_mk (st := sFindPlan) l_find_plan c_find_plan k_find_plan
  have b_find_plan := F_find_plan.binds (ps := ["held", "moves", "is_wanted"]) fun _ _ _ _ _ _ us hl => match us, hl with | [_, _, _], _ => rfl
  have F_count_ways : FunC K "count_ways" "count_ways" sCountWays f_count_ways cd_count_ways _ := ⟨⟨_, _, _, _, _, _, _, _, rfl, l_count_ways, c_count_ways⟩, k_count_ways⟩
  have b_count_ways := (fun_mk (st := sCountWays) l_count_ways c_count_ways k_count_ways).binds (ps := ["held", "moves"]) fun _ _ _ _ _ _ us hl => match us, hl with | [_, _], _ => rfl
  have F_tell_plan := fun_mk (st := sTellPlan) l_tell_plan c_tell_plan k_tell_plan
  have b_tell_plan := F_tell_plan.binds (ps := ["plan"]) fun _ _ _ _ _ _ us hl => match us, hl with | [_], _ => rfl
  have F_rows_of_rules : FunC K "rows_of_rules" "rows_of_rules" sRows f_rows_of_rules cd_rows_of_rules _ := ⟨⟨_, _, _, _, _, _, _, _, rfl, l_rows_of_rules, c_rows_of_rules⟩, k_rows_of_rules⟩
  have b_rows_of_rules := (fun_mk (st := sRows) l_rows_of_rules c_rows_of_rules k_rows_of_rules).binds (ps := ["count"]) fun _ _ _ _ _ _ us hl => match us, hl with | [_], _ => rfl
  have F_share_one := fun_mk (st := sShare) l_share_one c_share_one k_share_one
  have b_share_one := F_share_one.binds (ps := ["row", "other"]) fun _ _ _ _ _ _ us hl => match us, hl with | [_, _], _ => rfl
  have F_find_guard := fun_mk (st := sFindGuard) l_find_guard c_find_guard k_find_guard
  have b_find_guard := F_find_guard.binds (ps := ["held", "moves", "count", "is_wanted"]) fun _ _ _ _ _ _ us hl => match us, hl with | [_, _, _, _], _ => rfl
  have F_moves_of := fun_mk (st := sMovesOf) l_moves_of c_moves_of k_moves_of
  have b_moves_of := F_moves_of.binds (ps := ["rules", "doers"]) fun _ _ _ _ _ _ us hl => match us, hl with | [_, _], _ => rfl
  have F_is_user := fun_mk (st := sIsUser) l_is_user c_is_user k_is_user
  have b_is_user := F_is_user.binds (ps := ["number"]) fun _ _ _ _ _ _ us hl => match us, hl with | [_], _ => rfl
  have F_is_role := fun_mk (st := sIsRole) l_is_role c_is_role k_is_role
  have b_is_role := F_is_role.binds (ps := ["number"]) fun _ _ _ _ _ _ us hl => match us, hl with | [_], _ => rfl
  have F_rises_within := fun_mk (st := sRises) l_rises_within c_rises_within k_rises_within
  have b_rises_within := F_rises_within.binds (ps := ["row", "most"]) fun _ _ _ _ _ _ us hl => match us, hl with | [_, _], _ => rfl
  have F_are_roles := fun_mk (st := sAreRoles) l_are_roles c_are_roles k_are_roles
  have b_are_roles := F_are_roles.binds (ps := ["row"]) fun _ _ _ _ _ _ us hl => match us, hl with | [_], _ => rfl
  have F_set_roles := fun_mk (st := sSetRoles) l_set_roles c_set_roles k_set_roles
  have b_set_roles := F_set_roles.binds (ps := ["house", "v", "roles"]) fun _ _ _ _ _ _ us hl => match us, hl with | [_, _, _], _ => rfl
  have F_add_rule := fun_mk (st := sAddRule) l_add_rule c_add_rule k_add_rule
  have b_add_rule := F_add_rule.binds (ps := ["house", "rule"]) fun _ _ _ _ _ _ us hl => match us, hl with | [_, _], _ => rfl
  have F_give := fun_mk (st := sGive) l_give c_give k_give
  have b_give := F_give.binds (ps := ["house", "a", "r", "n", "roles"]) fun _ _ _ _ _ _ us hl => match us, hl with | [_, _, _, _, _], _ => rfl
  have F_take := fun_mk (st := sTake) l_take c_take k_take
  have b_take := F_take.binds (ps := ["house", "a", "r"]) fun _ _ _ _ _ _ us hl => match us, hl with | [_, _, _], _ => rfl
  have F_strike := fun_mk (st := sStrike) l_strike c_strike k_strike
  have b_strike := F_strike.binds (ps := ["house", "k"]) fun _ _ _ _ _ _ us hl => match us, hl with | [_, _], _ => rfl
  have F_set_actors := fun_mk (st := sSetActors) l_set_actors c_set_actors k_set_actors
  have b_set_actors := F_set_actors.binds (ps := ["house", "users"]) fun _ _ _ _ _ _ us hl => match us, hl with | [_, _], _ => rfl
  have F_do_step := fun_mk (st := sDoStep) l_do_step c_do_step k_do_step
  have b_do_step := F_do_step.binds (ps := ["house", "k", "u", "v"]) fun _ _ _ _ _ _ us hl => match us, hl with | [_, _, _, _], _ => rfl
  have F_tell_row := fun_mk (st := sTellRow) l_tell_row c_tell_row k_tell_row
  have b_tell_row := F_tell_row.binds (ps := ["row"]) fun _ _ _ _ _ _ us hl => match us, hl with | [_], _ => rfl
  have F_can_have : FunC K "can_have" "can_have" sCanHave f_can_have cd_can_have _ := ⟨⟨_, _, _, _, _, _, _, _, rfl, l_can_have, c_can_have⟩, k_can_have⟩
  have b_can_have := (fun_mk (st := sCanHave) l_can_have c_can_have k_can_have).binds (ps := ["house", "v", "roles"]) fun _ _ _ _ _ _ us hl => match us, hl with | [_, _, _], _ => rfl
  have F_can_lose : FunC K "can_lose" "can_lose" sCanLose f_can_lose cd_can_lose _ := ⟨⟨_, _, _, _, _, _, _, _, rfl, l_can_lose, c_can_lose⟩, k_can_lose⟩
  have b_can_lose := (fun_mk (st := sCanLose) l_can_lose c_can_lose k_can_lose).binds (ps := ["house", "v", "r"]) fun _ _ _ _ _ _ us hl => match us, hl with | [_, _, _], _ => rfl
  have F_can_never : FunC K "can_never" "can_never" sCanNever f_can_never cd_can_never _ := ⟨⟨_, _, _, _, _, _, _, _, rfl, l_can_never, c_can_never⟩, k_can_never⟩
  have b_can_never := (fun_mk (st := sCanNever) l_can_never c_can_never k_can_never).binds (ps := ["house", "r", "q"]) fun _ _ _ _ _ _ us hl => match us, hl with | [_, _, _], _ => rfl
  have F_plan_for := fun_mk (st := sPlanFor) l_plan_for c_plan_for k_plan_for
  have b_plan_for := F_plan_for.binds (ps := ["house", "is_wanted"]) fun _ _ _ _ _ _ us hl => match us, hl with | [_, _], _ => rfl
  have F_guard : FunC K "guard" "guard" sGuard f_guard cd_guard _ := ⟨⟨_, _, _, _, _, _, _, _, rfl, l_guard, c_guard⟩, k_guard⟩
  have b_guard := (fun_mk (st := sGuard) l_guard c_guard k_guard).binds (ps := ["house", "v", "roles"]) fun _ _ _ _ _ _ us hl => match us, hl with | [_, _, _], _ => rfl
  have F_count_many := fun_mk (st := sCountMany) l_count_many c_count_many k_count_many
  have b_count_many := F_count_many.binds (ps := ["house"]) fun _ _ _ _ _ _ us hl => match us, hl with | [_], _ => rfl
  have F_tell_roles := fun_mk (st := sTellRoles) l_tell_roles c_tell_roles k_tell_roles
  have b_tell_roles := F_tell_roles.binds (ps := ["house", "v"]) fun _ _ _ _ _ _ us hl => match us, hl with | [_, _], _ => rfl
  have F_tell_rule := fun_mk (st := sTellRule) l_tell_rule c_tell_rule k_tell_rule
  have b_tell_rule := F_tell_rule.binds (ps := ["rule"]) fun _ _ _ _ _ _ us hl => match us, hl with | [_], _ => rfl
  have F_tell_rules := fun_mk (st := sTellRules) l_tell_rules c_tell_rules k_tell_rules
  have b_tell_rules := F_tell_rules.binds (ps := ["house"]) fun _ _ _ _ _ _ us hl => match us, hl with | [_], _ => rfl
  have F_answer_change := fun_mk (st := sAnswerChange) l_answer_change c_answer_change k_answer_change
  have b_answer_change := F_answer_change.binds (ps := ["house", "reader", "call"]) fun _ _ _ _ _ _ us hl => match us, hl with | [_, _, _], _ => rfl
  have F_answer_question := fun_mk (st := sAnswerQuestion) l_answer_question c_answer_question k_answer_question
  have b_answer_question := F_answer_question.binds (ps := ["house", "reader", "call"]) fun _ _ _ _ _ _ us hl => match us, hl with | [_, _, _], _ => rfl
  have F_answer_call := fun_mk (st := sAnswerCall) l_answer_call c_answer_call k_answer_call
  have b_answer_call := F_answer_call.binds (ps := ["house", "reader"]) fun _ _ _ _ _ _ us hl => match us, hl with | [_, _], _ => rfl
  have F_answers := fun_mk (st := sAnswers) l_answers c_answers k_answers
  have b_answers := F_answers.binds (ps := ["calls"]) fun _ _ _ _ _ _ us hl => match us, hl with | [_], _ => rfl
  have F_S_init := fun_mk (st := sSrInit) l_S_init c_S_init k_S_init
  have b_S_init := F_S_init.binds (ps := ["self", "held", "moves"]) fun _ _ _ _ _ _ us hl => match us, hl with | [_, _, _], _ => rfl
  have F_S_go_until := fun_mk (st := sGo) l_S_go_until c_S_go_until k_S_go_until
  have b_S_go_until := F_S_go_until.binds (ps := ["self", "is_wanted"]) fun _ _ _ _ _ _ us hl => match us, hl with | [_, _], _ => rfl
  have F_S_visit := fun_mk (st := sVisit) l_S_visit c_S_visit k_S_visit
  have b_S_visit := F_S_visit.binds (ps := ["self", "current"]) fun _ _ _ _ _ _ us hl => match us, hl with | [_, _], _ => rfl
  have F_S_steps_to := fun_mk (st := sStepsTo) l_S_steps_to c_S_steps_to k_S_steps_to
  have b_S_steps_to := F_S_steps_to.binds (ps := ["self", "held"]) fun _ _ _ _ _ _ us hl => match us, hl with | [_, _], _ => rfl
  have F_Rr_init := fun_mk (st := sRuleInit) l_Rr_init c_Rr_init k_Rr_init
  have b_Rr_init := F_Rr_init.binds (ps := ["self", "gives", "admin", "role", "needed", "barred"]) fun _ _ _ _ _ _ us hl => match us, hl with | [_, _, _, _, _, _], _ => rfl
  have F_M_init := fun_mk (st := sMoveInit) l_M_init c_M_init k_M_init
  have b_M_init := F_M_init.binds (ps := ["self", "k", "rule", "doers", "whom"]) fun _ _ _ _ _ _ us hl => match us, hl with | [_, _, _, _, _], _ => rfl
  have F_M_may_be_done := fun_mk (st := sMay) l_M_may_be_done c_M_may_be_done k_M_may_be_done
  have b_M_may_be_done := F_M_may_be_done.binds (ps := ["self", "held"]) fun _ _ _ _ _ _ us hl => match us, hl with | [_, _], _ => rfl
  have F_M_held_behind := fun_mk (st := sBehind) l_M_held_behind c_M_held_behind k_M_held_behind
  have b_M_held_behind := F_M_held_behind.binds (ps := ["self", "held"]) fun _ _ _ _ _ _ us hl => match us, hl with | [_, _], _ => rfl
  have F_M_tell_step := fun_mk (st := sTellStep) l_M_tell_step c_M_tell_step k_M_tell_step
  have b_M_tell_step := F_M_tell_step.binds (ps := ["self", "held"]) fun _ _ _ _ _ _ us hl => match us, hl with | [_, _], _ => rfl
  have F_H_init := fun_mk (st := sHouseInit) l_H_init c_H_init k_H_init
  have b_H_init := F_H_init.binds (ps := ["self"]) fun _ _ _ _ _ _ us hl => match us, hl with | [_], _ => rfl
  have F_D_init := fun_mk (st := sRdInit) l_D_init c_D_init k_D_init
  have b_D_init := F_D_init.binds (ps := ["self", "numbers"]) fun _ _ _ _ _ _ us hl => match us, hl with | [_, _], _ => rfl
  have F_D_has_more := fun_mk (st := sRdMore) l_D_has_more c_D_has_more k_D_has_more
  have b_D_has_more := F_D_has_more.binds (ps := ["self"]) fun _ _ _ _ _ _ us hl => match us, hl with | [_], _ => rfl
  have F_D_read_number := fun_mk (st := sRdNum) l_D_read_number c_D_read_number k_D_read_number
  have b_D_read_number := F_D_read_number.binds (ps := ["self"]) fun _ _ _ _ _ _ us hl => match us, hl with | [_], _ => rfl
  have F_D_read_row := fun_mk (st := sRdRow) l_D_read_row c_D_read_row k_D_read_row
  have b_D_read_row := F_D_read_row.binds (ps := ["self"]) fun _ _ _ _ _ _ us hl => match us, hl with | [_], _ => rfl
  have t_count_ways : PySem.W.tabIn K "count_ways" = some (cd_count_ways, pt_count_ways) := by
    unfold PySem.W.tabIn
    rw [a_count_ways]
    dsimp only
    rw [l_count_ways]
    dsimp only
    rw [y_count_ways]
    dsimp only
    rw [x_count_ways]
  have t_rows_of_rules : PySem.W.tabIn K "rows_of_rules" = some (cd_rows_of_rules, pt_rows_of_rules) := by
    unfold PySem.W.tabIn
    rw [a_rows_of_rules]
    dsimp only
    rw [l_rows_of_rules]
    dsimp only
    rw [y_rows_of_rules]
    dsimp only
    rw [x_rows_of_rules]
  have t_can_have : PySem.W.tabIn K "can_have" = some (cd_can_have, pt_can_have) := by
    unfold PySem.W.tabIn
    rw [a_can_have]
    dsimp only
    rw [l_can_have]
    dsimp only
    rw [y_can_have]
    dsimp only
    rw [x_can_have]
  have t_can_lose : PySem.W.tabIn K "can_lose" = some (cd_can_lose, pt_can_lose) := by
    unfold PySem.W.tabIn
    rw [a_can_lose]
    dsimp only
    rw [l_can_lose]
    dsimp only
    rw [y_can_lose]
    dsimp only
    rw [x_can_lose]
  have t_can_never : PySem.W.tabIn K "can_never" = some (cd_can_never, pt_can_never) := by
    unfold PySem.W.tabIn
    rw [a_can_never]
    dsimp only
    rw [l_can_never]
    dsimp only
    rw [y_can_never]
    dsimp only
    rw [x_can_never]
  have t_guard : PySem.W.tabIn K "guard" = some (cd_guard, pt_guard) := by
    unfold PySem.W.tabIn
    rw [a_guard]
    dsimp only
    rw [l_guard]
    dsimp only
    rw [y_guard]
    dsimp only
    rw [x_guard]
  refine ⟨PySem.W.fnOf "answers" "answers" (defArgs sAnswers) (defBody sAnswers) (defScope sAnswers) .none kV_answers dc_answers pm_answers an_answers cd_answers ct_answers, ["count_ways", "rows_of_rules", "can_have", "can_lose", "can_never", "guard"], [(cd_count_ways, pt_count_ways), (cd_rows_of_rules, pt_rows_of_rules), (cd_can_have, pt_can_have), (cd_can_lose, pt_can_lose), (cd_can_never, pt_can_never), (cd_guard, pt_guard)], .cons ⟨r_count_ways, t_count_ways, o_count_ways⟩ (.cons ⟨r_rows_of_rules, t_rows_of_rules, o_rows_of_rules⟩ (.cons ⟨r_can_have, t_can_have, o_can_have⟩ (.cons ⟨r_can_lose, t_can_lose, o_can_lose⟩ (.cons ⟨r_can_never, t_can_never, o_can_never⟩ (.cons ⟨r_guard, t_guard, o_guard⟩ (.nil)))))), fun s us hu => match us, hu with | [_], _ => .of_eq rfl, fun base _ _ TB => ?_⟩
  have Xrb : Fn P w K mg base "role_bit" 1 ["user", "role"] (spRoleBit) := ⟨f_role_bit, _, ok_roleBit F_role_bit TT, PySem.W.mg_of X G a_role_bit, k_role_bit, b_role_bit⟩
  obtain ⟨_, _, Grb, mrb, krb, brb⟩ := id Xrb.ex
  have XrbL : Fn P w K mg base "role_bits" 2 ["user", "roles"] (spRoleBitsL K) := ⟨f_role_bits, _, ok_roleBitsL F_role_bits Grb mrb krb brb, PySem.W.mg_of X G a_role_bits, k_role_bits, b_role_bits⟩
  obtain ⟨_, _, Grl, mrl, krl, brl⟩ := id XrbL.ex
  have XrbT : Fn P w K mg base "role_bits" 2 ["user", "roles"] (spRoleBitsT K) := ⟨f_role_bits, _, ok_roleBitsT F_role_bits Grb mrb krb brb, PySem.W.mg_of X G a_role_bits, k_role_bits, b_role_bits⟩
  have Xrh : Fn P w K mg base "roles_held" 2 ["held", "user"] (spRolesHeld) := ⟨f_roles_held, _, ok_rolesHeld F_roles_held TT Grb mrb krb brb, PySem.W.mg_of X G a_roles_held, k_roles_held, b_roles_held⟩
  have Xuh : Fn P w K mg base "users_holding" 2 ["held", "role", "users"] (spUsersHolding K) := ⟨f_users_holding, _, ok_usersHolding F_users_holding Grb mrb krb brb, PySem.W.mg_of X G a_users_holding, k_users_holding, b_users_holding⟩
  have Mru : Made P w K mg base a.CR 1 ["self", "gives", "admin", "role", "needed", "barred"] (spRuleInit a) := ⟨f_Rr_init, _, ⟨mkRr, a_Rr_init, i_Rr_init, kcRr⟩, ok_ruleInit F_Rr_init TT, b_Rr_init⟩
  have Mmo : Made P w K mg base a.CM 3 ["self", "k", "rule", "doers", "whom"] (spMoveInit a) := ⟨f_M_init, _, ⟨mkM, a_M_init, i_M_init, kcM⟩, ok_moveInit F_M_init TT Grb mrb krb brb Grl mrl krl brl, b_M_init⟩
  have Mse : Made P w K mg base a.CS 1 ["self", "held", "moves"] (spSrInit a) := ⟨f_S_init, _, ⟨mkS, a_S_init, i_S_init, kcS⟩, ok_srInit F_S_init TT, b_S_init⟩
  have Mho : Made P w K mg base a.CH 1 ["self"] (spHouseInit a) := ⟨f_H_init, _, ⟨mkH, a_H_init, i_H_init, kcH⟩, ok_houseInit F_H_init TT TH, b_H_init⟩
  have Mrd : Made P w K mg base a.CD 1 ["self", "numbers"] (spRdInit a) := ⟨f_D_init, _, ⟨mkD, a_D_init, i_D_init, kcD⟩, ok_rdInit F_D_init TR, b_D_init⟩
  have Hmay : Mth P w K mg base a.CM "may_be_done" 1 ["self", "held"] (spMay a) := ⟨f_M_may_be_done, _, ⟨a_M_may_be_done, i_M_may_be_done, k_M_may_be_done⟩, ok_may F_M_may_be_done TT, b_M_may_be_done⟩
  have Hbeh : Mth P w K mg base a.CM "held_behind" 1 ["self", "held"] (spBehind a) := ⟨f_M_held_behind, _, ⟨a_M_held_behind, i_M_held_behind, k_M_held_behind⟩, ok_behind F_M_held_behind TT, b_M_held_behind⟩
  have Htel : Mth P w K mg base a.CM "tell_step" 3 ["self", "held"] (spTellStep a) := ⟨f_M_tell_step, _, ⟨a_M_tell_step, i_M_tell_step, k_M_tell_step⟩, ok_tellStep F_M_tell_step TT Xuh, b_M_tell_step⟩
  have Hvis : Mth P w K mg base a.CS "visit" 2 ["self", "current"] (spVisit K a) := ⟨f_S_visit, _, ⟨a_S_visit, i_S_visit, k_S_visit⟩, ok_visit F_S_visit TT Hmay Hbeh, b_S_visit⟩
  have Hgo : Mth P w K mg base a.CS "go_until" 4 ["self", "is_wanted"] (spGo P w K mg base a) := ⟨f_S_go_until, _, ⟨a_S_go_until, i_S_go_until, k_S_go_until⟩, ok_go F_S_go_until TT Hvis, b_S_go_until⟩
  have Hst : Mth P w K mg base a.CS "steps_to" 4 ["self", "held"] (spStepsTo K a) := ⟨f_S_steps_to, _, ⟨a_S_steps_to, i_S_steps_to, k_S_steps_to⟩, ok_stepsTo F_S_steps_to TT Htel, b_S_steps_to⟩
  have Hmore : Mth P w K mg base a.CD "has_more" 1 ["self"] (spRdMore K a) := ⟨f_D_has_more, _, ⟨a_D_has_more, i_D_has_more, k_D_has_more⟩, ok_rdMore F_D_has_more TT TR, b_D_has_more⟩
  have Hnum : Mth P w K mg base a.CD "read_number" 1 ["self"] (spRdNum K a) := ⟨f_D_read_number, _, ⟨a_D_read_number, i_D_read_number, k_D_read_number⟩, ok_rdNum F_D_read_number TR, b_D_read_number⟩
  have Hrow : Mth P w K mg base a.CD "read_row" 2 ["self"] (spRdRow K a) := ⟨f_D_read_row, _, ⟨a_D_read_row, i_D_read_row, k_D_read_row⟩, ok_rdRow F_D_read_row TR Hnum, b_D_read_row⟩
  have Xmo : Fn P w K mg base "moves_of" 5 ["rules", "doers"] (spMovesOf K a) := ⟨f_moves_of, _, ok_movesOf F_moves_of TT Mmo, PySem.W.mg_of X G a_moves_of, k_moves_of, b_moves_of⟩
  have Xtp : Fn P w K mg base "tell_plan" 1 ["plan"] (spTellPlan) := ⟨f_tell_plan, _, ok_tellPlan F_tell_plan TT, PySem.W.mg_of X G a_tell_plan, k_tell_plan, b_tell_plan⟩
  have Xfp : Fn P w K mg base "find_plan" 5 ["held", "moves", "is_wanted"] (spFindPlan P w K mg base a) := ⟨f_find_plan, _, ok_findPlan F_find_plan TT Mse Hgo Hst, PySem.W.mg_of X G a_find_plan, k_find_plan, b_find_plan⟩
  have Xcw : Fn P w K mg base "count_ways" 5 ["held", "moves"] (spCount K (tabsOf [(cd_count_ways, pt_count_ways), (cd_rows_of_rules, pt_rows_of_rules), (cd_can_have, pt_can_have), (cd_can_lose, pt_can_lose), (cd_can_never, pt_can_never), (cd_guard, pt_guard)]) a) := ⟨f_count_ways, _, ok_countWays F_count_ways TT (TB (cd_count_ways, pt_count_ways) (by simp)) (by simp [tabsOf]) (one_name (T := (tabsOf [(cd_count_ways, pt_count_ways), (cd_rows_of_rules, pt_rows_of_rules), (cd_can_have, pt_can_have), (cd_can_lose, pt_can_lose), (cd_can_never, pt_can_never), (cd_guard, pt_guard)])) ndt (by simp [tabsOf])) Mse Hgo, PySem.W.mg_of X G a_count_ways, k_count_ways, b_count_ways⟩
  have Xro : Fn P w K mg base "rows_of_rules" 4 ["count"] (spRows (tabsOf [(cd_count_ways, pt_count_ways), (cd_rows_of_rules, pt_rows_of_rules), (cd_can_have, pt_can_have), (cd_can_lose, pt_can_lose), (cd_can_never, pt_can_never), (cd_guard, pt_guard)])) := ⟨f_rows_of_rules, _, ok_rows F_rows_of_rules TT (TB (cd_rows_of_rules, pt_rows_of_rules) (by simp)) (by simp [tabsOf]) (one_name (T := (tabsOf [(cd_count_ways, pt_count_ways), (cd_rows_of_rules, pt_rows_of_rules), (cd_can_have, pt_can_have), (cd_can_lose, pt_can_lose), (cd_can_never, pt_can_never), (cd_guard, pt_guard)])) ndt (by simp [tabsOf])), PySem.W.mg_of X G a_rows_of_rules, k_rows_of_rules, b_rows_of_rules⟩
  have Xso : Fn P w K mg base "share_one" 1 ["row", "other"] (spShare K) := ⟨f_share_one, _, ok_share F_share_one TT, PySem.W.mg_of X G a_share_one, k_share_one, b_share_one⟩
  have Xfg : Fn P w K mg base "find_guard" 6 ["held", "moves", "count", "is_wanted"] (spFindGuard P w K mg base (tabsOf [(cd_count_ways, pt_count_ways), (cd_rows_of_rules, pt_rows_of_rules), (cd_can_have, pt_can_have), (cd_can_lose, pt_can_lose), (cd_can_never, pt_can_never), (cd_guard, pt_guard)]) a) := ⟨f_find_guard, _, ok_findGuard F_find_guard TT Xro Xso Xfp, PySem.W.mg_of X G a_find_guard, k_find_guard, b_find_guard⟩
  have Xiu : Fn P w K mg base "is_user" 1 ["number"] (spIs Wm04.isUser) := ⟨f_is_user, _, ok_isUser F_is_user TT, PySem.W.mg_of X G a_is_user, k_is_user, b_is_user⟩
  have Xir : Fn P w K mg base "is_role" 1 ["number"] (spIs Wm04.isRole) := ⟨f_is_role, _, ok_isRole F_is_role TT, PySem.W.mg_of X G a_is_role, k_is_role, b_is_role⟩
  have Xrw : Fn P w K mg base "rises_within" 1 ["row", "most"] (spRises K) := ⟨f_rises_within, _, ok_rises F_rises_within, PySem.W.mg_of X G a_rises_within, k_rises_within, b_rises_within⟩
  have Xar : Fn P w K mg base "are_roles" 2 ["row"] (spAreRoles K) := ⟨f_are_roles, _, ok_areRoles F_are_roles TT Xrw, PySem.W.mg_of X G a_are_roles, k_are_roles, b_are_roles⟩
  have Xse : Fn P w K mg base "set_roles" 3 ["house", "v", "roles"] (spSet K (tabsOf [(cd_count_ways, pt_count_ways), (cd_rows_of_rules, pt_rows_of_rules), (cd_can_have, pt_can_have), (cd_can_lose, pt_can_lose), (cd_can_never, pt_can_never), (cd_guard, pt_guard)]) a) := ⟨f_set_roles, _, ok_setRoles F_set_roles TT TH Xiu Xar XrbL XrbT, PySem.W.mg_of X G a_set_roles, k_set_roles, b_set_roles⟩
  have Xad : Fn P w K mg base "add_rule" 1 ["house", "rule"] (spAddRule (tabsOf [(cd_count_ways, pt_count_ways), (cd_rows_of_rules, pt_rows_of_rules), (cd_can_have, pt_can_have), (cd_can_lose, pt_can_lose), (cd_can_never, pt_can_never), (cd_guard, pt_guard)]) a) := ⟨f_add_rule, _, ok_addRule F_add_rule TT TH, PySem.W.mg_of X G a_add_rule, k_add_rule, b_add_rule⟩
  have Xgi : Fn P w K mg base "give" 3 ["house", "a", "r", "n", "roles"] (spGive K (tabsOf [(cd_count_ways, pt_count_ways), (cd_rows_of_rules, pt_rows_of_rules), (cd_can_have, pt_can_have), (cd_can_lose, pt_can_lose), (cd_can_never, pt_can_never), (cd_guard, pt_guard)]) a) := ⟨f_give, _, ok_give F_give TT TH Xir Xar Xad Mru, PySem.W.mg_of X G a_give, k_give, b_give⟩
  have Xta : Fn P w K mg base "take" 3 ["house", "a", "r"] (spTake (tabsOf [(cd_count_ways, pt_count_ways), (cd_rows_of_rules, pt_rows_of_rules), (cd_can_have, pt_can_have), (cd_can_lose, pt_can_lose), (cd_can_never, pt_can_never), (cd_guard, pt_guard)]) a) := ⟨f_take, _, ok_take F_take TT TH Xir Xad Mru, PySem.W.mg_of X G a_take, k_take, b_take⟩
  have Xsk : Fn P w K mg base "strike" 1 ["house", "k"] (spStrike (tabsOf [(cd_count_ways, pt_count_ways), (cd_rows_of_rules, pt_rows_of_rules), (cd_can_have, pt_can_have), (cd_can_lose, pt_can_lose), (cd_can_never, pt_can_never), (cd_guard, pt_guard)]) a) := ⟨f_strike, _, ok_strike F_strike TT TH, PySem.W.mg_of X G a_strike, k_strike, b_strike⟩
  have Xac : Fn P w K mg base "set_actors" 2 ["house", "users"] (spActors (tabsOf [(cd_count_ways, pt_count_ways), (cd_rows_of_rules, pt_rows_of_rules), (cd_can_have, pt_can_have), (cd_can_lose, pt_can_lose), (cd_can_never, pt_can_never), (cd_guard, pt_guard)]) a) := ⟨f_set_actors, _, ok_setActors F_set_actors TT TH Xrw, PySem.W.mg_of X G a_set_actors, k_set_actors, b_set_actors⟩
  have Xtw : Fn P w K mg base "tell_row" 1 ["row"] (spTellRow) := ⟨f_tell_row, _, ok_tellRow F_tell_row TT, PySem.W.mg_of X G a_tell_row, k_tell_row, b_tell_row⟩
  have Xdo : Fn P w K mg base "do_step" 5 ["house", "k", "u", "v"] (spDo (tabsOf [(cd_count_ways, pt_count_ways), (cd_rows_of_rules, pt_rows_of_rules), (cd_can_have, pt_can_have), (cd_can_lose, pt_can_lose), (cd_can_never, pt_can_never), (cd_guard, pt_guard)]) a) := ⟨f_do_step, _, ok_doStep F_do_step TT TH Xiu Mmo Xtw Hmay Hbeh Xrh, PySem.W.mg_of X G a_do_step, k_do_step, b_do_step⟩
  have Xpf : Fn P w K mg base "plan_for" 6 ["house", "is_wanted"] (spPlanFor P w K mg base a) := ⟨f_plan_for, _, ok_planFor F_plan_for TH Xfp Xmo Xtp, PySem.W.mg_of X G a_plan_for, k_plan_for, b_plan_for⟩
  have Xca : Fn P w K mg base "can_have" 7 ["house", "v", "roles"] (spCan K (tabsOf [(cd_count_ways, pt_count_ways), (cd_rows_of_rules, pt_rows_of_rules), (cd_can_have, pt_can_have), (cd_can_lose, pt_can_lose), (cd_can_never, pt_can_never), (cd_guard, pt_guard)]) a) := ⟨f_can_have, _, ok_canHave F_can_have TH (TB (cd_can_have, pt_can_have) (by simp)) (by simp [tabsOf]) (one_name (T := (tabsOf [(cd_count_ways, pt_count_ways), (cd_rows_of_rules, pt_rows_of_rules), (cd_can_have, pt_can_have), (cd_can_lose, pt_can_lose), (cd_can_never, pt_can_never), (cd_guard, pt_guard)])) ndt (by simp [tabsOf])) Xiu Xar XrbL Xpf, PySem.W.mg_of X G a_can_have, k_can_have, b_can_have⟩
  have Xlo : Fn P w K mg base "can_lose" 7 ["house", "v", "r"] (spLose (tabsOf [(cd_count_ways, pt_count_ways), (cd_rows_of_rules, pt_rows_of_rules), (cd_can_have, pt_can_have), (cd_can_lose, pt_can_lose), (cd_can_never, pt_can_never), (cd_guard, pt_guard)]) a) := ⟨f_can_lose, _, ok_canLose F_can_lose TH (TB (cd_can_lose, pt_can_lose) (by simp)) (by simp [tabsOf]) (one_name (T := (tabsOf [(cd_count_ways, pt_count_ways), (cd_rows_of_rules, pt_rows_of_rules), (cd_can_have, pt_can_have), (cd_can_lose, pt_can_lose), (cd_can_never, pt_can_never), (cd_guard, pt_guard)])) ndt (by simp [tabsOf])) Xiu Xir Xrb Xpf, PySem.W.mg_of X G a_can_lose, k_can_lose, b_can_lose⟩
  have Xne : Fn P w K mg base "can_never" 7 ["house", "r", "q"] (spNever (tabsOf [(cd_count_ways, pt_count_ways), (cd_rows_of_rules, pt_rows_of_rules), (cd_can_have, pt_can_have), (cd_can_lose, pt_can_lose), (cd_can_never, pt_can_never), (cd_guard, pt_guard)]) a) := ⟨f_can_never, _, ok_canNever F_can_never TT TH (TB (cd_can_never, pt_can_never) (by simp)) (by simp [tabsOf]) (one_name (T := (tabsOf [(cd_count_ways, pt_count_ways), (cd_rows_of_rules, pt_rows_of_rules), (cd_can_have, pt_can_have), (cd_can_lose, pt_can_lose), (cd_can_never, pt_can_never), (cd_guard, pt_guard)])) ndt (by simp [tabsOf])) Xir XrbL Xpf, PySem.W.mg_of X G a_can_never, k_can_never, b_can_never⟩
  have Xgu : Fn P w K mg base "guard" 7 ["house", "v", "roles"] (spGuard K (tabsOf [(cd_count_ways, pt_count_ways), (cd_rows_of_rules, pt_rows_of_rules), (cd_can_have, pt_can_have), (cd_can_lose, pt_can_lose), (cd_can_never, pt_can_never), (cd_guard, pt_guard)]) a) := ⟨f_guard, _, ok_guard F_guard TT TH (TB (cd_guard, pt_guard) (by simp)) (by simp [tabsOf]) (one_name (T := (tabsOf [(cd_count_ways, pt_count_ways), (cd_rows_of_rules, pt_rows_of_rules), (cd_can_have, pt_can_have), (cd_can_lose, pt_can_lose), (cd_can_never, pt_can_never), (cd_guard, pt_guard)])) ndt (by simp [tabsOf])) Xiu Xar XrbL Xfg Xmo Xtw, PySem.W.mg_of X G a_guard, k_guard, b_guard⟩
  have Xcm : Fn P w K mg base "count_many" 6 ["house"] (spMany (tabsOf [(cd_count_ways, pt_count_ways), (cd_rows_of_rules, pt_rows_of_rules), (cd_can_have, pt_can_have), (cd_can_lose, pt_can_lose), (cd_can_never, pt_can_never), (cd_guard, pt_guard)]) a) := ⟨f_count_many, _, ok_countMany F_count_many TH Xcw Xmo, PySem.W.mg_of X G a_count_many, k_count_many, b_count_many⟩
  have Xtr : Fn P w K mg base "tell_roles" 3 ["house", "v"] (spTellRoles (tabsOf [(cd_count_ways, pt_count_ways), (cd_rows_of_rules, pt_rows_of_rules), (cd_can_have, pt_can_have), (cd_can_lose, pt_can_lose), (cd_can_never, pt_can_never), (cd_guard, pt_guard)]) a) := ⟨f_tell_roles, _, ok_tellRoles F_tell_roles TT TH Xiu Xtw Xrh, PySem.W.mg_of X G a_tell_roles, k_tell_roles, b_tell_roles⟩
  have Xt1 : Fn P w K mg base "tell_rule" 2 ["rule"] (spTellRule a) := ⟨f_tell_rule, _, ok_tellRule F_tell_rule TT Xtw, PySem.W.mg_of X G a_tell_rule, k_tell_rule, b_tell_rule⟩
  have Xtl : Fn P w K mg base "tell_rules" 3 ["house"] (spTellRules (tabsOf [(cd_count_ways, pt_count_ways), (cd_rows_of_rules, pt_rows_of_rules), (cd_can_have, pt_can_have), (cd_can_lose, pt_can_lose), (cd_can_never, pt_can_never), (cd_guard, pt_guard)]) a) := ⟨f_tell_rules, _, ok_tellRules F_tell_rules TT TH Xt1, PySem.W.mg_of X G a_tell_rules, k_tell_rules, b_tell_rules⟩
  have Xch : Fn P w K mg base "answer_change" 6 ["house", "reader", "call"] (spChange K (tabsOf [(cd_count_ways, pt_count_ways), (cd_rows_of_rules, pt_rows_of_rules), (cd_can_have, pt_can_have), (cd_can_lose, pt_can_lose), (cd_can_never, pt_can_never), (cd_guard, pt_guard)]) a) := ⟨f_answer_change, _, ok_answerChange F_answer_change TR TC Hnum Hrow Xse Xgi Xta Xsk Xac Xdo, PySem.W.mg_of X G a_answer_change, k_answer_change, b_answer_change⟩
  have Xqu : Fn P w K mg base "answer_question" 8 ["house", "reader", "call"] (spQuestion K (tabsOf [(cd_count_ways, pt_count_ways), (cd_rows_of_rules, pt_rows_of_rules), (cd_can_have, pt_can_have), (cd_can_lose, pt_can_lose), (cd_can_never, pt_can_never), (cd_guard, pt_guard)]) a) := ⟨f_answer_question, _, ok_answerQuestion F_answer_question TR TC Hnum Hrow Xca Xlo Xne Xgu Xcm Xtr Xtl, PySem.W.mg_of X G a_answer_question, k_answer_question, b_answer_question⟩
  have Xan : Fn P w K mg base "answer_call" 9 ["house", "reader"] (spAnswer K (tabsOf [(cd_count_ways, pt_count_ways), (cd_rows_of_rules, pt_rows_of_rules), (cd_can_have, pt_can_have), (cd_can_lose, pt_can_lose), (cd_can_never, pt_can_never), (cd_guard, pt_guard)]) a) := ⟨f_answer_call, _, ok_answerCall F_answer_call TR TC Hnum Xch Xqu, PySem.W.mg_of X G a_answer_call, k_answer_call, b_answer_call⟩
  exact ok_answers F_answers TT TH TR Mrd Mho Hmore Xan
end Wp
open PySem PySem.W PyProof.Rows
set_option maxRecDepth 100000 in
set_option maxHeartbeats 0 in
theorem PySem.Challenge.cw_whatcanbe_s01_answers_holds : PySem.Challenge.rw_whatcanbe_s01_answers.Holds := by
  w_on; k_headS; (case hw => exact ⟨[.list [.int 12]], by decide +kernel, by decide +kernel⟩)
  k_fillS
  refine Clo.walk_specT (r := PySem.Challenge.rw_whatcanbe_s01_answers) (k := 10) (ps := ["calls"]) (sp := fun K cs => Wp.spAns K (Wp.tabsOf cs)) (by decide +kernel) rfl rfl ⟨rfl, by decide, by decide⟩ (fun w h Y => PySem.W.kIn_of Y) ?F ?S
  case F =>
    intro w mg fa h Y KX G hmg
    refine' Wp.all_mk KX G hmg ?aU ?lU ?aR ?lR ?aS ?pgS ?hdS ?poS ?saS ?mkS ?kcS ?nS_moves ?nS_came_by ?nS_queue ?aRr ?pgRr ?hdRr ?poRr ?saRr ?mkRr ?kcRr ?nRr_gives ?nRr_admin ?nRr_role ?nRr_needed ?nRr_barred ?aM ?pgM ?hdM ?poM ?saM ?mkM ?kcM ?nM_k ?nM_admin ?nM_doers ?nM_whom ?nM_entitled ?nM_change ?nM_present ?nM_absent ?aH ?pgH ?hdH ?poH ?saH ?mkH ?kcH ?nH_held ?nH_rules ?nH_actors ?aD ?pgD ?hdD ?poD ?saD ?mkD ?kcD ?nD_numbers ?nD_at ?a_role_bit ?l_role_bit ?c_role_bit ?k_role_bit ?a_role_bits ?l_role_bits ?c_role_bits ?k_role_bits ?a_roles_held ?l_roles_held ?c_roles_held ?k_roles_held ?a_users_holding ?l_users_holding ?c_users_holding ?k_users_holding ?a_find_plan ?l_find_plan ?c_find_plan ?k_find_plan ?a_count_ways ?l_count_ways ?c_count_ways ?k_count_ways ?a_tell_plan ?l_tell_plan ?c_tell_plan ?k_tell_plan ?a_rows_of_rules ?l_rows_of_rules ?c_rows_of_rules ?k_rows_of_rules ?a_share_one ?l_share_one ?c_share_one ?k_share_one ?a_find_guard ?l_find_guard ?c_find_guard ?k_find_guard ?a_moves_of ?l_moves_of ?c_moves_of ?k_moves_of ?a_is_user ?l_is_user ?c_is_user ?k_is_user ?a_is_role ?l_is_role ?c_is_role ?k_is_role ?a_rises_within ?l_rises_within ?c_rises_within ?k_rises_within ?a_are_roles ?l_are_roles ?c_are_roles ?k_are_roles ?a_set_roles ?l_set_roles ?c_set_roles ?k_set_roles ?a_add_rule ?l_add_rule ?c_add_rule ?k_add_rule ?a_give ?l_give ?c_give ?k_give ?a_take ?l_take ?c_take ?k_take ?a_strike ?l_strike ?c_strike ?k_strike ?a_set_actors ?l_set_actors ?c_set_actors ?k_set_actors ?a_do_step ?l_do_step ?c_do_step ?k_do_step ?a_tell_row ?l_tell_row ?c_tell_row ?k_tell_row ?a_can_have ?l_can_have ?c_can_have ?k_can_have ?a_can_lose ?l_can_lose ?c_can_lose ?k_can_lose ?a_can_never ?l_can_never ?c_can_never ?k_can_never ?a_plan_for ?l_plan_for ?c_plan_for ?k_plan_for ?a_guard ?l_guard ?c_guard ?k_guard ?a_count_many ?l_count_many ?c_count_many ?k_count_many ?a_tell_roles ?l_tell_roles ?c_tell_roles ?k_tell_roles ?a_tell_rule ?l_tell_rule ?c_tell_rule ?k_tell_rule ?a_tell_rules ?l_tell_rules ?c_tell_rules ?k_tell_rules ?a_answer_change ?l_answer_change ?c_answer_change ?k_answer_change ?a_answer_question ?l_answer_question ?c_answer_question ?k_answer_question ?a_answer_call ?l_answer_call ?c_answer_call ?k_answer_call ?a_answers ?l_answers ?c_answers ?k_answers ?a_S_init ?i_S_init ?l_S_init ?c_S_init ?k_S_init ?a_S_go_until ?i_S_go_until ?l_S_go_until ?c_S_go_until ?k_S_go_until ?a_S_visit ?i_S_visit ?l_S_visit ?c_S_visit ?k_S_visit ?a_S_steps_to ?i_S_steps_to ?l_S_steps_to ?c_S_steps_to ?k_S_steps_to ?a_Rr_init ?i_Rr_init ?l_Rr_init ?c_Rr_init ?k_Rr_init ?a_M_init ?i_M_init ?l_M_init ?c_M_init ?k_M_init ?a_M_may_be_done ?i_M_may_be_done ?l_M_may_be_done ?c_M_may_be_done ?k_M_may_be_done ?a_M_held_behind ?i_M_held_behind ?l_M_held_behind ?c_M_held_behind ?k_M_held_behind ?a_M_tell_step ?i_M_tell_step ?l_M_tell_step ?c_M_tell_step ?k_M_tell_step ?a_H_init ?i_H_init ?l_H_init ?c_H_init ?k_H_init ?a_D_init ?i_D_init ?l_D_init ?c_D_init ?k_D_init ?a_D_has_more ?i_D_has_more ?l_D_has_more ?c_D_has_more ?k_D_has_more ?a_D_read_number ?i_D_read_number ?l_D_read_number ?c_D_read_number ?k_D_read_number ?a_D_read_row ?i_D_read_row ?l_D_read_row ?c_D_read_row ?k_D_read_row ?v_MOST_RULES ?v_NOT_AS_TOLD ?v_NO_SUCH_RULE ?v_NO_PLAN ?v_TOO_MANY_RULES ?v_NOT_ALLOWED ?v_HELD_ALREADY ?v_SET ?v_GIVE ?v_TAKE ?v_STRIKE ?v_ACTORS ?v_DO ?v_CAN ?v_LOSE ?v_NEVER ?v_GUARD ?v_MANY ?v_ROLES_OF ?v_NOW ?z_len ?z_list ?z_reversed ?z_range ?z_sum ?z_any ?z_all ?z_sorted ?z_enumerate ?y_count_ways ?x_count_ways ?o_count_ways ?r_count_ways ?y_rows_of_rules ?x_rows_of_rules ?o_rows_of_rules ?r_rows_of_rules ?y_can_have ?x_can_have ?o_can_have ?r_can_have ?y_can_lose ?x_can_lose ?o_can_lose ?r_can_lose ?y_can_never ?x_can_never ?o_can_never ?r_can_never ?y_guard ?x_guard ?o_guard ?r_guard ?ndt
    (case aU => k_is)
    (case lU => k_is)
    (case aR => k_is)
    (case lR => k_is)
    (case aS => k_is)
    (case pgS => k_is)
    (case hdS => k_is)
    (case poS => k_is)
    (case saS => k_is)
    (case mkS => k_is)
    (case kcS => k_is)
    (case nS_moves => k_is)
    (case nS_came_by => k_is)
    (case nS_queue => k_is)
    (case aRr => k_is)
    (case pgRr => k_is)
    (case hdRr => k_is)
    (case poRr => k_is)
    (case saRr => k_is)
    (case mkRr => k_is)
    (case kcRr => k_is)
    (case nRr_gives => k_is)
    (case nRr_admin => k_is)
    (case nRr_role => k_is)
    (case nRr_needed => k_is)
    (case nRr_barred => k_is)
    (case aM => k_is)
    (case pgM => k_is)
    (case hdM => k_is)
    (case poM => k_is)
    (case saM => k_is)
    (case mkM => k_is)
    (case kcM => k_is)
    (case nM_k => k_is)
    (case nM_admin => k_is)
    (case nM_doers => k_is)
    (case nM_whom => k_is)
    (case nM_entitled => k_is)
    (case nM_change => k_is)
    (case nM_present => k_is)
    (case nM_absent => k_is)
    (case aH => k_is)
    (case pgH => k_is)
    (case hdH => k_is)
    (case poH => k_is)
    (case saH => k_is)
    (case mkH => k_is)
    (case kcH => k_is)
    (case nH_held => k_is)
    (case nH_rules => k_is)
    (case nH_actors => k_is)
    (case aD => k_is)
    (case pgD => k_is)
    (case hdD => k_is)
    (case poD => k_is)
    (case saD => k_is)
    (case mkD => k_is)
    (case kcD => k_is)
    (case nD_numbers => k_is)
    (case nD_at => k_is)
    (case a_role_bit => k_is)
    (case l_role_bit => k_is)
    (case c_role_bit => k_is)
    (case k_role_bit => k_is)
    (case a_role_bits => k_is)
    (case l_role_bits => k_is)
    (case c_role_bits => k_is)
    (case k_role_bits => k_is)
    (case a_roles_held => k_is)
    (case l_roles_held => k_is)
    (case c_roles_held => k_is)
    (case k_roles_held => k_is)
    (case a_users_holding => k_is)
    (case l_users_holding => k_is)
    (case c_users_holding => k_is)
    (case k_users_holding => k_is)
    (case a_find_plan => k_is)
    (case l_find_plan => k_is)
    (case c_find_plan => k_is)
    (case k_find_plan => k_is)
    (case a_count_ways => k_is)
    (case l_count_ways => k_is)
    (case c_count_ways => k_is)
    (case k_count_ways => k_is)
    (case a_tell_plan => k_is)
    (case l_tell_plan => k_is)
    (case c_tell_plan => k_is)
    (case k_tell_plan => k_is)
    (case a_rows_of_rules => k_is)
    (case l_rows_of_rules => k_is)
    (case c_rows_of_rules => k_is)
    (case k_rows_of_rules => k_is)
    (case a_share_one => k_is)
    (case l_share_one => k_is)
    (case c_share_one => k_is)
    (case k_share_one => k_is)
    (case a_find_guard => k_is)
    (case l_find_guard => k_is)
    (case c_find_guard => k_is)
    (case k_find_guard => k_is)
    (case a_moves_of => k_is)
    (case l_moves_of => k_is)
    (case c_moves_of => k_is)
    (case k_moves_of => k_is)
    (case a_is_user => k_is)
    (case l_is_user => k_is)
    (case c_is_user => k_is)
    (case k_is_user => k_is)
    (case a_is_role => k_is)
    (case l_is_role => k_is)
    (case c_is_role => k_is)
    (case k_is_role => k_is)
    (case a_rises_within => k_is)
    (case l_rises_within => k_is)
    (case c_rises_within => k_is)
    (case k_rises_within => k_is)
    (case a_are_roles => k_is)
    (case l_are_roles => k_is)
    (case c_are_roles => k_is)
    (case k_are_roles => k_is)
    (case a_set_roles => k_is)
    (case l_set_roles => k_is)
    (case c_set_roles => k_is)
    (case k_set_roles => k_is)
    (case a_add_rule => k_is)
    (case l_add_rule => k_is)
    (case c_add_rule => k_is)
    (case k_add_rule => k_is)
    (case a_give => k_is)
    (case l_give => k_is)
    (case c_give => k_is)
    (case k_give => k_is)
    (case a_take => k_is)
    (case l_take => k_is)
    (case c_take => k_is)
    (case k_take => k_is)
    (case a_strike => k_is)
    (case l_strike => k_is)
    (case c_strike => k_is)
    (case k_strike => k_is)
    (case a_set_actors => k_is)
    (case l_set_actors => k_is)
    (case c_set_actors => k_is)
    (case k_set_actors => k_is)
    (case a_do_step => k_is)
    (case l_do_step => k_is)
    (case c_do_step => k_is)
    (case k_do_step => k_is)
    (case a_tell_row => k_is)
    (case l_tell_row => k_is)
    (case c_tell_row => k_is)
    (case k_tell_row => k_is)
    (case a_can_have => k_is)
    (case l_can_have => k_is)
    (case c_can_have => k_is)
    (case k_can_have => k_is)
    (case a_can_lose => k_is)
    (case l_can_lose => k_is)
    (case c_can_lose => k_is)
    (case k_can_lose => k_is)
    (case a_can_never => k_is)
    (case l_can_never => k_is)
    (case c_can_never => k_is)
    (case k_can_never => k_is)
    (case a_plan_for => k_is)
    (case l_plan_for => k_is)
    (case c_plan_for => k_is)
    (case k_plan_for => k_is)
    (case a_guard => k_is)
    (case l_guard => k_is)
    (case c_guard => k_is)
    (case k_guard => k_is)
    (case a_count_many => k_is)
    (case l_count_many => k_is)
    (case c_count_many => k_is)
    (case k_count_many => k_is)
    (case a_tell_roles => k_is)
    (case l_tell_roles => k_is)
    (case c_tell_roles => k_is)
    (case k_tell_roles => k_is)
    (case a_tell_rule => k_is)
    (case l_tell_rule => k_is)
    (case c_tell_rule => k_is)
    (case k_tell_rule => k_is)
    (case a_tell_rules => k_is)
    (case l_tell_rules => k_is)
    (case c_tell_rules => k_is)
    (case k_tell_rules => k_is)
    (case a_answer_change => k_is)
    (case l_answer_change => k_is)
    (case c_answer_change => k_is)
    (case k_answer_change => k_is)
    (case a_answer_question => k_is)
    (case l_answer_question => k_is)
    (case c_answer_question => k_is)
    (case k_answer_question => k_is)
    (case a_answer_call => k_is)
    (case l_answer_call => k_is)
    (case c_answer_call => k_is)
    (case k_answer_call => k_is)
    (case a_answers => k_is)
    (case l_answers => k_is)
    (case c_answers => k_is)
    (case k_answers => k_is)
    (case a_S_init => k_is)
    (case i_S_init => k_is)
    (case l_S_init => k_is)
    (case c_S_init => k_is)
    (case k_S_init => k_is)
    (case a_S_go_until => k_is)
    (case i_S_go_until => k_is)
    (case l_S_go_until => k_is)
    (case c_S_go_until => k_is)
    (case k_S_go_until => k_is)
    (case a_S_visit => k_is)
    (case i_S_visit => k_is)
    (case l_S_visit => k_is)
    (case c_S_visit => k_is)
    (case k_S_visit => k_is)
    (case a_S_steps_to => k_is)
    (case i_S_steps_to => k_is)
    (case l_S_steps_to => k_is)
    (case c_S_steps_to => k_is)
    (case k_S_steps_to => k_is)
    (case a_Rr_init => k_is)
    (case i_Rr_init => k_is)
    (case l_Rr_init => k_is)
    (case c_Rr_init => k_is)
    (case k_Rr_init => k_is)
    (case a_M_init => k_is)
    (case i_M_init => k_is)
    (case l_M_init => k_is)
    (case c_M_init => k_is)
    (case k_M_init => k_is)
    (case a_M_may_be_done => k_is)
    (case i_M_may_be_done => k_is)
    (case l_M_may_be_done => k_is)
    (case c_M_may_be_done => k_is)
    (case k_M_may_be_done => k_is)
    (case a_M_held_behind => k_is)
    (case i_M_held_behind => k_is)
    (case l_M_held_behind => k_is)
    (case c_M_held_behind => k_is)
    (case k_M_held_behind => k_is)
    (case a_M_tell_step => k_is)
    (case i_M_tell_step => k_is)
    (case l_M_tell_step => k_is)
    (case c_M_tell_step => k_is)
    (case k_M_tell_step => k_is)
    (case a_H_init => k_is)
    (case i_H_init => k_is)
    (case l_H_init => k_is)
    (case c_H_init => k_is)
    (case k_H_init => k_is)
    (case a_D_init => k_is)
    (case i_D_init => k_is)
    (case l_D_init => k_is)
    (case c_D_init => k_is)
    (case k_D_init => k_is)
    (case a_D_has_more => k_is)
    (case i_D_has_more => k_is)
    (case l_D_has_more => k_is)
    (case c_D_has_more => k_is)
    (case k_D_has_more => k_is)
    (case a_D_read_number => k_is)
    (case i_D_read_number => k_is)
    (case l_D_read_number => k_is)
    (case c_D_read_number => k_is)
    (case k_D_read_number => k_is)
    (case a_D_read_row => k_is)
    (case i_D_read_row => k_is)
    (case l_D_read_row => k_is)
    (case c_D_read_row => k_is)
    (case k_D_read_row => k_is)
    (case v_MOST_RULES => k_is)
    (case v_NOT_AS_TOLD => k_is)
    (case v_NO_SUCH_RULE => k_is)
    (case v_NO_PLAN => k_is)
    (case v_TOO_MANY_RULES => k_is)
    (case v_NOT_ALLOWED => k_is)
    (case v_HELD_ALREADY => k_is)
    (case v_SET => k_is)
    (case v_GIVE => k_is)
    (case v_TAKE => k_is)
    (case v_STRIKE => k_is)
    (case v_ACTORS => k_is)
    (case v_DO => k_is)
    (case v_CAN => k_is)
    (case v_LOSE => k_is)
    (case v_NEVER => k_is)
    (case v_GUARD => k_is)
    (case v_MANY => k_is)
    (case v_ROLES_OF => k_is)
    (case v_NOW => k_is)
    (case z_len => k_is)
    (case z_list => k_is)
    (case z_reversed => k_is)
    (case z_range => k_is)
    (case z_sum => k_is)
    (case z_any => k_is)
    (case z_all => k_is)
    (case z_sorted => k_is)
    (case z_enumerate => k_is)
    (case y_count_ways => k_is)
    (case x_count_ways => rfl)
    (case o_count_ways => first | rfl | decide +kernel)
    (case r_count_ways => exact ⟨_, rfl⟩)
    (case y_rows_of_rules => k_is)
    (case x_rows_of_rules => rfl)
    (case o_rows_of_rules => first | rfl | decide +kernel)
    (case r_rows_of_rules => exact ⟨_, rfl⟩)
    (case y_can_have => k_is)
    (case x_can_have => rfl)
    (case o_can_have => first | rfl | decide +kernel)
    (case r_can_have => exact ⟨_, rfl⟩)
    (case y_can_lose => k_is)
    (case x_can_lose => rfl)
    (case o_can_lose => first | rfl | decide +kernel)
    (case r_can_lose => exact ⟨_, rfl⟩)
    (case y_can_never => k_is)
    (case x_can_never => rfl)
    (case o_can_never => first | rfl | decide +kernel)
    (case r_can_never => exact ⟨_, rfl⟩)
    (case y_guard => k_is)
    (case x_guard => rfl)
    (case o_guard => first | rfl | decide +kernel)
    (case r_guard => exact ⟨_, rfl⟩)
    (case ndt => decide)
  case S =>
    intro K cs H xs a hT hO hwi hask hx
    cases hx with
    | cons h1 h2 =>
      cases h2
      cases h1 with
      | lst hs ha =>
        have e := L2.ints_dw a.1 _ ha
        subst e
        exact ⟨_, a.1, rfl, Wp.req_of hO hs, hask, Wp.tabs_of hT, fun q H' hq => .lst (L2.SqL.of hq) (L2.dw_ints _)⟩

