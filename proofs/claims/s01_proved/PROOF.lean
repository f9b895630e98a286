import PyProof.Rows.All
import Wide.All
import OpenK.AllK
import Wide.FinOn
import Open.SpecLaws
import KE.OsGo
import HandS.ForMost
import HandS.ForSpec
import HandS.Deep
import HandS.Flow
import HandS.Conv
import KE.BitLaws
import PySem.Challenge.RW_spanwaysdesk_s01_answers
set_option Elab.async false
set_option maxRecDepth 100000
set_option maxHeartbeats 8000000
/-! Pictures of a net are the pictures of no net, filtered. -/
namespace Sv
open Kcz9

/-! ### bits and sets -/
theorem bit_testBit (s k : Nat) : bit s k = s.testBit k := by
  unfold bit
  rw [Nat.testBit_eq_decide_div_mod_eq]
  rfl

def setUpTo (n : Nat) (f : Nat → Bool) : Nat := ((List.range n).filter f).foldl (fun s k => s + 2 ^ k) 0

theorem setUpTo_succ (n : Nat) (f : Nat → Bool) : setUpTo (n + 1) f = setUpTo n f + (if f n then 2 ^ n else 0) := by
  unfold setUpTo
  rw [List.range_succ, List.filter_append, List.foldl_append]
  cases h : f n <;> simp [List.filter, h]

theorem setUpTo_lt (f : Nat → Bool) : ∀ n, setUpTo n f < 2 ^ n
  | 0 => by simp [setUpTo]
  | n + 1 => by
    rw [setUpTo_succ, Nat.pow_succ]
    have := setUpTo_lt f n
    split <;> omega

theorem testBit_setUpTo (f : Nat → Bool) : ∀ n k, (setUpTo n f).testBit k = (decide (k < n) && f k)
  | 0, k => by simp [setUpTo]
  | n + 1, k => by
    rw [setUpTo_succ]
    have hlt := setUpTo_lt f n
    have ih := testBit_setUpTo f n
    by_cases hf : f n = true
    · rw [if_pos hf, Nat.add_comm]
      by_cases hk : k < n
      · rw [Nat.testBit_two_pow_add_gt hk, ih, decide_eq_true hk, decide_eq_true (by omega : k < n + 1)]
      · by_cases he : k = n
        · subst he
          rw [Nat.testBit_two_pow_add_eq, ih]
          simp [hf]
        · have hlt2 : 2 ^ n + setUpTo n f < 2 ^ k := by
            have : 2 ^ (n + 1) ≤ 2 ^ k := Nat.pow_le_pow_right (by decide) (by omega)
            rw [Nat.pow_succ] at this
            omega
          rw [Nat.testBit_lt_two_pow hlt2, decide_eq_false (by omega : ¬ k < n + 1)]
          rfl
    · rw [if_neg hf, Nat.add_zero, ih]
      by_cases hk : k < n
      · rw [decide_eq_true hk, decide_eq_true (by omega : k < n + 1)]
      · by_cases he : k = n
        · subst he
          have : f k = false := by simpa using hf
          simp [this]
        · rw [decide_eq_false hk, decide_eq_false (by omega : ¬ k < n + 1)]

theorem testBit_setOf (f : Nat → Bool) (k : Nat) : (setOf f).testBit k = (decide (k < 13) && f k) := testBit_setUpTo f 13 k
theorem setOf_lt (f : Nat → Bool) : setOf f < 8192 := setUpTo_lt f 13
theorem bit_setOf (f : Nat → Bool) (k : Nat) : bit (setOf f) k = (decide (k < 13) && f k) := by
  rw [bit_testBit, testBit_setOf]

theorem setOf_bit {s : Nat} (h : s < 8192) : setOf (bit s) = s := by
  apply Nat.eq_of_testBit_eq
  intro k
  rw [testBit_setOf, bit_testBit]
  by_cases hk : k < 13
  · rw [decide_eq_true hk, Bool.true_and]
  · rw [decide_eq_false hk, Bool.false_and, Nat.testBit_lt_two_pow]
    exact Nat.lt_of_lt_of_le h (Nat.pow_le_pow_right (n := 2) (by decide) (by omega : 13 ≤ k))

theorem setOf_congr {f g : Nat → Bool} (h : ∀ k, k < 13 → f k = g k) : setOf f = setOf g := by
  apply Nat.eq_of_testBit_eq
  intro k
  rw [testBit_setOf, testBit_setOf]
  by_cases hk : k < 13
  · rw [h k hk]
  · rw [decide_eq_false hk, Bool.false_and, Bool.false_and]

theorem both_land {s t : Nat} (h : s < 8192) : both s t = s &&& t := by
  apply Nat.eq_of_testBit_eq
  intro k
  unfold both
  rw [testBit_setOf, bit_testBit, bit_testBit, Nat.testBit_and]
  by_cases hk : k < 13
  · rw [decide_eq_true hk, Bool.true_and]
  · rw [decide_eq_false hk, Bool.false_and, Nat.testBit_lt_two_pow, Bool.false_and]
    exact Nat.lt_of_lt_of_le h (Nat.pow_le_pow_right (n := 2) (by decide) (by omega : 13 ≤ k))

theorem both_lt (s t : Nat) : both s t < 8192 := setOf_lt _
theorem turned_lt (s : Nat) : Kcz9.turned s < 8192 := setOf_lt _

theorem bit_ALL {k : Nat} (h : k < 13) : bit ALL k = true := by
  have : ∀ k, k < 13 → bit ALL k = true := by decide
  exact this k h

/-! ### lies -/
theorem lies_lt (x y : Span) : lies x y < 13 := by
  unfold lies
  repeat' split
  all_goals omega

theorem lies_mono {f : Int → Int} (hlt : ∀ u v, u < v → f u < f v) (x y : Span) :
    lies ⟨f x.a, f x.b⟩ ⟨f y.a, f y.b⟩ = lies x y := by
  have h1 : ∀ u v, (f u < f v) = (u < v) := fun u v => propext ⟨fun h => by
    rcases Int.lt_trichotomy u v with g | g | g
    · exact g
    · subst g; exact absurd h (Int.lt_irrefl _)
    · exact absurd (Int.lt_trans h (hlt _ _ g)) (Int.lt_irrefl _), hlt u v⟩
  have h2 : ∀ u v, (f u = f v) = (u = v) := fun u v => propext ⟨fun h => by
    rcases Int.lt_trichotomy u v with g | g | g
    · have := hlt _ _ g; rw [h] at this; exact absurd this (Int.lt_irrefl _)
    · exact g
    · have := hlt _ _ g; rw [h] at this; exact absurd this (Int.lt_irrefl _), fun h => by rw [h]⟩
  simp only [lies, h1, h2]

/-! ### what more does -/
def pf (p : Nat) (x : Int) : Int := if p % 2 = 1 then x else shift (p / 2) x
def mp (f : Int → Int) (x : Span) : Span := ⟨f x.a, f x.b⟩
theorem shift_mono (g : Nat) : ∀ u v, u < v → shift g u < shift g v := by
  intro u v h
  unfold shift
  split <;> split <;> omega
theorem pf_mono (p : Nat) : ∀ u v, u < v → pf p u < pf p v := by
  intro u v h
  unfold pf
  split
  · exact h
  · exact shift_mono _ u v h
theorem put_fst (l : List Span) (m p : Nat) : (put l m p).1 = l.map (mp (pf p)) := by
  unfold put
  by_cases h : p % 2 = 1
  · rw [if_pos h]
    have : (mp (pf p)) = id := by
      funext x
      simp [mp, pf, h]
    rw [this, List.map_id]
  · rw [if_neg h]
    apply List.map_congr_left
    intro x _
    simp [mp, pf, h]
theorem put_m (l : List Span) (m p : Nat) : (put l m p).2.1 = if p % 2 = 1 then m else m + 1 := by
  unfold put
  split <;> rfl
theorem put_at (l : List Span) (m p : Nat) : (put l m p).2.2 = p / 2 := by
  unfold put
  split <;> rfl

/-- the picture that more makes by p and q -/
def mk (c : Picture) (p q : Nat) : Picture :=
  ⟨c.spans.map (mp fun x => pf q (pf p x)) ++ [⟨((p / 2 : Nat) : Int), ((q / 2 : Nat) : Int)⟩],
    if q % 2 = 1 then (if p % 2 = 1 then c.m else c.m + 1) else (if p % 2 = 1 then c.m else c.m + 1) + 1⟩
def qs (c : Picture) (p : Nat) : List Nat :=
  (List.range (2 * (if p % 2 = 1 then c.m else c.m + 1) + 1)).filter fun q => decide (2 * (p / 2) + 1 < q)
theorem more_eq (c : Picture) : more c = (List.range (2 * c.m + 1)).flatMap fun p => (qs c p).map fun q => mk c p q := by
  unfold more qs
  congr 1
  funext p
  simp only [put_m, put_at]
  apply List.map_congr_left
  intro q _
  simp only [mk, put_fst, put_m, put_at, List.map_map]
  rfl

theorem mem_more {c d : Picture} : d ∈ more c ↔ ∃ p q, p < 2 * c.m + 1 ∧ q < 2 * (if p % 2 = 1 then c.m else c.m + 1) + 1 ∧ 2 * (p / 2) + 1 < q ∧ d = mk c p q := by
  rw [more_eq, List.mem_flatMap]
  constructor
  · rintro ⟨p, hp, hd⟩
    rw [List.mem_map] at hd
    obtain ⟨q, hq, rfl⟩ := hd
    unfold qs at hq
    rw [List.mem_filter, List.mem_range] at hq
    exact ⟨p, q, List.mem_range.mp hp, hq.1, of_decide_eq_true hq.2, rfl⟩
  · rintro ⟨p, q, hp, hq, hpq, rfl⟩
    refine ⟨p, List.mem_range.mpr hp, List.mem_map.mpr ⟨q, ?_, rfl⟩⟩
    unfold qs
    exact List.mem_filter.mpr ⟨List.mem_range.mpr hq, decide_eq_true hpq⟩

/-! ### fitting -/
/-- the last of the list against those before it -/
def fitLast (net : Net) (l : List Span) (y : Span) : Bool :=
  (List.range l.length).all fun i => match l[i]? with
    | none => true
    | some x => bit (net i l.length) (lies x y)
def fitAll (net : Net) : List Span → List Span → Bool
  | _, [] => true
  | l, y :: r => fitLast net l y && fitAll net (l ++ [y]) r

theorem fitAll_snoc (net : Net) : ∀ (r l : List Span) (y : Span), fitAll net l (r ++ [y]) = (fitAll net l r && fitLast net (l ++ r) y)
  | [], l, y => by simp [fitAll]
  | x :: r, l, y => by
    simp only [List.cons_append, fitAll, fitAll_snoc net r, List.append_assoc, List.nil_append, Bool.and_assoc]

theorem fitLast_map {f : Int → Int} (hlt : ∀ u v, u < v → f u < f v) (net : Net) (l : List Span) (y : Span) :
    fitLast net (l.map (mp f)) (mp f y) = fitLast net l y := by
  unfold fitLast
  rw [List.length_map]
  congr 1
  funext i
  rw [List.getElem?_map]
  cases l[i]? with
  | none => rfl
  | some x =>
    show bit (net i l.length) (lies (mp f x) (mp f y)) = bit (net i l.length) (lies x y)
    rw [show lies (mp f x) (mp f y) = lies x y from lies_mono hlt x y]

theorem fitAll_map {f : Int → Int} (hlt : ∀ u v, u < v → f u < f v) (net : Net) : ∀ (r l : List Span),
    fitAll net (l.map (mp f)) (r.map (mp f)) = fitAll net l r
  | [], _ => rfl
  | y :: r, l => by
    have e := fitAll_map hlt net r (l ++ [y])
    rw [List.map_append] at e
    simp only [List.map_cons, fitAll]
    rw [fitLast_map hlt]
    exact congrArg _ e

def fitB (net : Net) (c : Picture) : Bool := fitAll net [] c.spans

theorem fits_mk (net : Net) (c : Picture) (p q : Nat) :
    fits net (mk c p q) = fitLast net (c.spans.map (mp fun x => pf q (pf p x))) ⟨((p / 2 : Nat) : Int), ((q / 2 : Nat) : Int)⟩ := by
  unfold fits mk
  simp only [List.getLast?_append, List.getLast?_singleton, Option.some_or, List.length_append, List.length_singleton, Nat.add_sub_cancel, List.length_map, fitLast]
  rw [Bool.eq_iff_iff, List.all_eq_true, List.all_eq_true]
  have e : ∀ i, i ∈ List.range c.spans.length → (c.spans.map (mp fun x => pf q (pf p x)) ++ [⟨((p / 2 : Nat) : Int), ((q / 2 : Nat) : Int)⟩])[i]? = (c.spans.map (mp fun x => pf q (pf p x)))[i]? := by
    intro i hi
    have hi' : i < c.spans.length := List.mem_range.mp hi
    rw [List.getElem?_append_left (by rw [List.length_map]; exact hi')]
  constructor
  · intro h i hi
    have := h i hi
    rw [e i hi] at this
    exact this
  · intro h i hi
    have := h i hi
    rw [e i hi]
    exact this

theorem fitB_mk (net : Net) (c : Picture) (p q : Nat) : fitB net (mk c p q) = (fitB net c && fits net (mk c p q)) := by
  rw [fits_mk]
  unfold fitB
  show fitAll net [] (c.spans.map (mp fun x => pf q (pf p x)) ++ [_]) = _
  rw [fitAll_snoc]
  have e := fitAll_map (f := fun x => pf q (pf p x)) (fun u v h => pf_mono q _ _ (pf_mono p u v h)) net c.spans []
  rw [List.map_nil] at e
  rw [e, List.nil_append]

theorem fitB_more {net : Net} {c d : Picture} (h : d ∈ more c) : fitB net d = (fitB net c && fits net d) := by
  obtain ⟨p, q, _, _, _, rfl⟩ := mem_more.mp h
  exact fitB_mk net c p q

def free : Net := fun _ _ => ALL
def P (n : Nat) : List Picture := pictures free n

theorem fits_free {c d : Picture} (h : d ∈ more c) : fits free d = true := by
  obtain ⟨p, q, _, _, _, rfl⟩ := mem_more.mp h
  rw [fits_mk]
  unfold fitLast
  rw [List.all_eq_true]
  intro i _
  split
  · rfl
  · exact bit_ALL (lies_lt _ _)

theorem P_succ (n : Nat) : P (n + 1) = (P n).flatMap more := by
  show ((P n).flatMap more).filter (fits free) = _
  rw [List.filter_eq_self]
  intro d hd
  obtain ⟨c, _, h⟩ := List.mem_flatMap.mp hd
  exact fits_free h

theorem filter_flat (net : Net) : ∀ (L : List Picture),
    ((L.filter (fitB net)).flatMap more).filter (fits net) = (L.flatMap more).filter (fitB net)
  | [] => rfl
  | c :: L => by
    rw [List.flatMap_cons, List.filter_append, ← filter_flat net L]
    cases h : fitB net c with
    | true =>
      rw [List.filter_cons_of_pos h, List.flatMap_cons, List.filter_append]
      congr 1
      apply List.filter_congr
      intro d hd
      rw [fitB_more hd, h, Bool.true_and]
    | false =>
      rw [List.filter_cons_of_neg (by rw [h]; decide)]
      have : (more c).filter (fitB net) = [] := by
        rw [List.filter_eq_nil_iff]
        intro d hd
        rw [fitB_more hd, h, Bool.false_and]
        decide
      rw [this, List.nil_append]

theorem pictures_eq (net : Net) : ∀ n, pictures net n = (P n).filter (fitB net)
  | 0 => rfl
  | n + 1 => by
    show ((pictures net n).flatMap more).filter (fits net) = _
    rw [pictures_eq net n, filter_flat, P_succ]
end Sv
/-! A picture is a list of spans whose ends are the numbers from 0 up, none left out; the first of rows. -/
namespace Sv
open Kcz9

structure Can (l : List Span) (m : Nat) : Prop where
  lo : ∀ x ∈ l, 0 ≤ x.a
  up : ∀ x ∈ l, x.a < x.b
  hi : ∀ x ∈ l, x.b < (m : Int)
  all : ∀ k : Nat, k < m → ∃ x ∈ l, x.a = (k : Int) ∨ x.b = (k : Int)

def grow (p m : Nat) : Nat := if p % 2 = 1 then m else m + 1

theorem pf_in {p m : Nat} {x : Int} (h0 : 0 ≤ x) (h1 : x < (m : Int)) : 0 ≤ pf p x ∧ pf p x < (grow p m : Int) := by
  unfold pf grow shift
  split
  · exact ⟨h0, h1⟩
  · split <;> constructor <;> omega

theorem pf_all {p m : Nat} (_hp : p < 2 * m + 1) {k : Nat} (hk : k < grow p m) :
    k = p / 2 ∨ ∃ x : Nat, x < m ∧ pf p (x : Int) = (k : Int) := by
  unfold grow at hk
  by_cases ho : p % 2 = 1
  · rw [if_pos ho] at hk
    exact .inr ⟨k, hk, by unfold pf; rw [if_pos ho]⟩
  · rw [if_neg ho] at hk
    by_cases h : k = p / 2
    · exact .inl h
    · refine .inr ?_
      by_cases h2 : k < p / 2
      · refine ⟨k, by omega, ?_⟩
        unfold pf shift
        rw [if_neg ho, if_pos (by omega)]
      · refine ⟨k - 1, by omega, ?_⟩
        unfold pf shift
        rw [if_neg ho, if_neg (by omega)]
        omega

theorem pf_at {p : Nat} {x : Int} {a : Nat} (hx : x = (a : Int)) (h : 2 * a + 1 < p) : pf p x = x := by
  unfold pf shift
  split
  · rfl
  · rw [if_pos (by omega)]

theorem at_lt {p m : Nat} (hp : p < 2 * m + 1) : p / 2 < grow p m := by
  unfold grow
  split <;> omega

theorem mk_m (c : Picture) (p q : Nat) : (mk c p q).m = grow q (grow p c.m) := rfl

theorem can_mk {c : Picture} {p q : Nat} (hp : p < 2 * c.m + 1) (hq : q < 2 * grow p c.m + 1) (hpq : 2 * (p / 2) + 1 < q)
    (h : Can c.spans c.m) : Can (mk c p q).spans (mk c p q).m := by
  have hmem : ∀ x, x ∈ (mk c p q).spans ↔ (∃ y ∈ c.spans, mp (fun x => pf q (pf p x)) y = x) ∨ x = ⟨((p / 2 : Nat) : Int), ((q / 2 : Nat) : Int)⟩ := by
    intro x
    show x ∈ c.spans.map _ ++ [_] ↔ _
    rw [List.mem_append, List.mem_map, List.mem_singleton]
  refine ⟨?_, ?_, ?_, ?_⟩
  · intro x hx
    rcases (hmem x).mp hx with ⟨y, hy, rfl⟩ | rfl
    · have := h.lo y hy; have := h.up y hy; have := h.hi y hy
      have i1 := pf_in (p := p) (m := c.m) (h.lo y hy) (by omega)
      exact (pf_in (p := q) i1.1 i1.2).1
    · exact Int.natCast_nonneg _
  · intro x hx
    rcases (hmem x).mp hx with ⟨y, hy, rfl⟩ | rfl
    · exact pf_mono q _ _ (pf_mono p _ _ (h.up y hy))
    · show ((p / 2 : Nat) : Int) < ((q / 2 : Nat) : Int)
      omega
  · intro x hx
    rw [mk_m]
    rcases (hmem x).mp hx with ⟨y, hy, rfl⟩ | rfl
    · have := h.lo y hy; have := h.up y hy; have := h.hi y hy
      have i1 := pf_in (p := p) (m := c.m) (x := y.b) (by omega) (h.hi y hy)
      exact (pf_in (p := q) i1.1 i1.2).2
    · show ((q / 2 : Nat) : Int) < _
      have := at_lt hq
      omega
  · intro k hk
    rw [mk_m] at hk
    rcases pf_all hq hk with rfl | ⟨x1, hx1, e1⟩
    · exact ⟨_, (hmem _).mpr (.inr rfl), .inr rfl⟩
    · rcases pf_all hp hx1 with rfl | ⟨x0, hx0, e0⟩
      · refine ⟨_, (hmem _).mpr (.inr rfl), .inl ?_⟩
        rw [← e1, pf_at rfl hpq]
      · obtain ⟨y, hy, hh⟩ := h.all x0 hx0
        refine ⟨_, (hmem _).mpr (.inl ⟨y, hy, rfl⟩), ?_⟩
        rcases hh with hh | hh
        · left
          show pf q (pf p y.a) = _
          rw [hh, e0, e1]
        · right
          show pf q (pf p y.b) = _
          rw [hh, e0, e1]

theorem pull (S : Int → Prop) (M : Nat) (b : Int) (hb : 0 ≤ b) (hbM : b < (M : Int)) (hS : ∀ x, S x → 0 ≤ x ∧ x < (M : Int))
    (hall : ∀ k : Nat, k < M → S (k : Int) ∨ (k : Int) = b) :
    ∃ (q m : Nat) (g : Int → Int), ((q / 2 : Nat) : Int) = b ∧ q < 2 * m + 1 ∧ grow q m = M ∧ 2 * b ≤ (q : Int) ∧
      (∀ x, S x → pf q (g x) = x ∧ 0 ≤ g x ∧ g x < (m : Int)) ∧ (∀ k : Nat, k < m → ∃ x, S x ∧ g x = (k : Int)) ∧
      (∀ x, x < b → g x = x) ∧ (∀ u v, S u → S v → u < v → g u < g v) := by
  by_cases hSb : S b
  · refine ⟨2 * b.toNat + 1, M, id, by omega, by omega, ?_, by omega, ?_, ?_, fun _ _ => rfl, fun _ _ _ _ h => h⟩
    · unfold grow; rw [if_pos (by omega)]
    · intro x hx
      refine ⟨?_, hS x hx⟩
      unfold pf
      rw [if_pos (by omega)]
      rfl
    · intro k hk
      rcases hall k hk with h | h
      · exact ⟨k, h, rfl⟩
      · exact ⟨b, hSb, h.symm⟩
  · have hne : ∀ x, S x → x ≠ b := fun x hx e => hSb (e ▸ hx)
    refine ⟨2 * b.toNat, M - 1, fun x => if x < b then x else x - 1, by omega, by omega, ?_, by omega, ?_, ?_, ?_, ?_⟩
    · unfold grow; rw [if_neg (by omega)]; omega
    · intro x hx
      have h1 := hS x hx
      have h2 := hne x hx
      have e : 2 * b.toNat / 2 = b.toNat := by omega
      unfold pf shift
      rw [if_neg (by omega), e]
      by_cases hlt : x < b
      · have e2 : (if x < b then x else x - 1) = x := if_pos hlt
        simp only [e2]
        rw [if_pos (by omega)]
        refine ⟨rfl, h1.1, ?_⟩
        omega
      · have e2 : (if x < b then x else x - 1) = x - 1 := if_neg hlt
        simp only [e2]
        rw [if_neg (by omega)]
        refine ⟨?_, ?_, ?_⟩ <;> omega
    · intro k hk
      by_cases hlt : (k : Int) < b
      · rcases hall k (by omega) with h | h
        · exact ⟨k, h, by dsimp only; rw [if_pos hlt]⟩
        · omega
      · rcases hall (k + 1) (by omega) with h | h
        · refine ⟨_, h, ?_⟩
          dsimp only
          rw [if_neg (by omega)]
          omega
        · omega
    · intro x hx
      dsimp only
      rw [if_pos hx]
    · intro u v hu hv huv
      have := hne u hu
      have := hne v hv
      dsimp only
      split <;> split <;> omega

def Ends (l : List Span) (k : Int) : Prop := ∃ x ∈ l, x.a = k ∨ x.b = k

theorem mp_mp (f g : Int → Int) (x : Span) : mp f (mp g x) = mp (fun k => f (g k)) x := rfl

theorem can_unmk {l : List Span} {y : Span} {M : Nat} (h : Can (l ++ [y]) M) :
    ∃ (c : Picture) (p q : Nat), p < 2 * c.m + 1 ∧ q < 2 * grow p c.m + 1 ∧ 2 * (p / 2) + 1 < q ∧ mk c p q = ⟨l ++ [y], M⟩ ∧ Can c.spans c.m ∧ c.spans.length = l.length := by
  have hl : ∀ x ∈ l, x ∈ l ++ [y] := fun x hx => List.mem_append_left _ hx
  have hy : y ∈ l ++ [y] := List.mem_append_right _ (List.mem_singleton.mpr rfl)
  have y1 := h.lo y hy
  have y2 := h.up y hy
  have y3 := h.hi y hy
  obtain ⟨q, m1, g, q1, q2, q3, q4, q5, q6, q7, q8⟩ := pull (fun k => Ends l k ∨ k = y.a) M y.b (by omega) y3
    (by
      rintro x (⟨z, hz, e⟩ | e)
      · have := h.lo z (hl z hz); have := h.up z (hl z hz); have := h.hi z (hl z hz)
        omega
      · omega)
    (by
      intro k hk
      obtain ⟨z, hz, e⟩ := h.all k hk
      rcases List.mem_append.mp hz with hz | hz
      · exact .inl (.inl ⟨z, hz, e⟩)
      · rw [List.mem_singleton] at hz
        subst hz
        rcases e with e | e
        · exact .inl (.inr e.symm)
        · exact .inr e.symm)
  have ga : g y.a = y.a := q7 _ y2
  have sa := q5 y.a (.inr rfl)
  rw [ga] at sa
  obtain ⟨p, m0, f, p1, p2, p3, p4, p5, p6, _, p8⟩ := pull (fun k => Ends (l.map (mp g)) k) m1 y.a y1 sa.2.2
    (by
      rintro x ⟨z, hz, e⟩
      obtain ⟨z0, hz0, rfl⟩ := List.mem_map.mp hz
      rcases e with e | e
      · have := (q5 z0.a (.inl ⟨z0, hz0, .inl rfl⟩)).2
        rw [← e]; exact this
      · have := (q5 z0.b (.inl ⟨z0, hz0, .inr rfl⟩)).2
        rw [← e]; exact this)
    (by
      intro k hk
      obtain ⟨x, hx, e⟩ := q6 k hk
      rcases hx with ⟨z, hz, hh⟩ | rfl
      · left
        refine ⟨mp g z, List.mem_map.mpr ⟨z, hz, rfl⟩, ?_⟩
        rcases hh with hh | hh
        · left; show g z.a = _; rw [hh, e]
        · right; show g z.b = _; rw [hh, e]
      · right; rw [← e, ga])
  have ea : ∀ z ∈ l, Ends l z.a := fun z hz => ⟨z, hz, .inl rfl⟩
  have eb : ∀ z ∈ l, Ends l z.b := fun z hz => ⟨z, hz, .inr rfl⟩
  have ga' : ∀ z ∈ l, Ends (l.map (mp g)) (g z.a) := fun z hz => ⟨mp g z, List.mem_map.mpr ⟨z, hz, rfl⟩, .inl rfl⟩
  have gb' : ∀ z ∈ l, Ends (l.map (mp g)) (g z.b) := fun z hz => ⟨mp g z, List.mem_map.mpr ⟨z, hz, rfl⟩, .inr rfl⟩
  have apq : 2 * (p / 2) + 1 < q := by omega
  refine ⟨⟨l.map (mp fun k => f (g k)), m0⟩, p, q, p2, ?_, apq, ?_, ⟨?_, ?_, ?_, ?_⟩, by rw [List.length_map]⟩
  · show q < 2 * grow p m0 + 1
    rw [p3]; exact q2
  · show Picture.mk (List.map _ (l.map _) ++ [_]) (grow q (grow p m0)) = _
    rw [p3, q3, p1, q1, List.map_map]
    congr 2
    have : l.map ((mp fun x => pf q (pf p x)) ∘ mp fun k => f (g k)) = l.map id := by
      apply List.map_congr_left
      intro z hz
      show (⟨pf q (pf p (f (g z.a))), pf q (pf p (f (g z.b)))⟩ : Span) = z
      rw [(p5 _ (ga' z hz)).1, (p5 _ (gb' z hz)).1, (q5 _ (.inl (ea z hz))).1, (q5 _ (.inl (eb z hz))).1]
    rw [this, List.map_id]
  · intro x hx
    obtain ⟨z, hz, rfl⟩ := List.mem_map.mp hx
    exact (p5 _ (ga' z hz)).2.1
  · intro x hx
    obtain ⟨z, hz, rfl⟩ := List.mem_map.mp hx
    exact p8 _ _ (ga' z hz) (gb' z hz) (q8 _ _ (.inl (ea z hz)) (.inl (eb z hz)) (h.up z (hl z hz)))
  · intro x hx
    obtain ⟨z, hz, rfl⟩ := List.mem_map.mp hx
    exact (p5 _ (gb' z hz)).2.2
  · intro k hk
    obtain ⟨x, ⟨z, hz, hh⟩, e⟩ := p6 k hk
    obtain ⟨z0, hz0, rfl⟩ := List.mem_map.mp hz
    refine ⟨_, List.mem_map.mpr ⟨z0, hz0, rfl⟩, ?_⟩
    rcases hh with hh | hh
    · left; show f (g z0.a) = _; rw [show g z0.a = x from hh, e]
    · right; show f (g z0.b) = _; rw [show g z0.b = x from hh, e]

theorem mem_P : ∀ (n : Nat) (c : Picture), c ∈ P n ↔ (c.spans.length = n ∧ Can c.spans c.m)
  | 0, c => by
    constructor
    · intro h
      have : c = ⟨[], 0⟩ := List.mem_singleton.mp h
      subst this
      exact ⟨rfl, fun x hx => (List.not_mem_nil hx).elim, fun x hx => (List.not_mem_nil hx).elim, fun x hx => (List.not_mem_nil hx).elim, fun k hk => absurd hk (Nat.not_lt_zero k)⟩
    · rintro ⟨h1, h2⟩
      obtain ⟨l, m⟩ := c
      have : l = [] := List.length_eq_zero_iff.mp h1
      subst this
      have : m = 0 := by
        rcases Nat.eq_zero_or_pos m with h | h
        · exact h
        · obtain ⟨x, hx, _⟩ := h2.all 0 h
          cases hx
      subst this
      exact List.mem_singleton.mpr rfl
  | n + 1, c => by
    rw [P_succ, List.mem_flatMap]
    constructor
    · rintro ⟨c0, h0, h1⟩
      obtain ⟨p, q, hp, hq, hpq, rfl⟩ := mem_more.mp h1
      have ih := (mem_P n c0).mp h0
      refine ⟨?_, can_mk hp hq hpq ih.2⟩
      show (c0.spans.map _ ++ [_]).length = _
      rw [List.length_append, List.length_map, ih.1]
      rfl
    · rintro ⟨h1, h2⟩
      obtain ⟨l, m⟩ := c
      have hne : l ≠ [] := by
        intro e
        subst e
        exact absurd h1 (Nat.zero_ne_add_one n)
      have e := List.dropLast_concat_getLast hne
      change l.length = n + 1 at h1
      change Can l m at h2
      rw [← e] at h2
      obtain ⟨c0, p, q, hp, hq, hpq, hm, hc, hlen⟩ := can_unmk h2
      refine ⟨c0, (mem_P n c0).mpr ⟨?_, hc⟩, mem_more.mpr ⟨p, q, hp, hq, hpq, ?_⟩⟩
      · rw [hlen, List.length_dropLast, h1]
        rfl
      · rw [hm, e]

/-! ### the first of rows -/
theorem earlier_irrefl : ∀ l : List Nat, earlier l l = false
  | [] => rfl
  | a :: l => by
    unfold earlier
    rw [earlier_irrefl l]
    simp
theorem earlier_cons (a b : Nat) (l m : List Nat) : earlier (a :: l) (b :: m) = true ↔ a < b ∨ (a = b ∧ earlier l m = true) := by
  rw [earlier, Bool.or_eq_true, Bool.and_eq_true, decide_eq_true_iff, beq_iff_eq]
theorem earlier_cons_not (a b : Nat) (l m : List Nat) : earlier (a :: l) (b :: m) = false ↔ b < a ∨ (a = b ∧ earlier l m = false) := by
  rw [← Bool.not_eq_true, earlier_cons]
  constructor
  · intro h
    by_cases h1 : a = b
    · right
      refine ⟨h1, ?_⟩
      rw [← Bool.not_eq_true]
      exact fun e => h (.inr ⟨h1, e⟩)
    · left
      have : ¬ a < b := fun e => h (.inl e)
      omega
  · rintro (h | ⟨h1, h2⟩) (g | ⟨g1, g2⟩)
    · omega
    · omega
    · omega
    · rw [h2] at g2; exact absurd g2 (by decide)
theorem earlier_asymm : ∀ {l m : List Nat}, earlier l m = true → earlier m l = false
  | [], [], h => by simp [earlier] at h
  | [], _ :: _, h => by simp [earlier] at h
  | _ :: _, [], h => by simp [earlier] at h
  | a :: l, b :: m, h => by
    rw [earlier_cons] at h
    rw [earlier_cons_not]
    rcases h with h | ⟨h1, h2⟩
    · exact .inl h
    · exact .inr ⟨h1.symm, earlier_asymm h2⟩
/-- not earlier, not earlier: for lists of one length -/
theorem not_earlier_trans : ∀ {x y z : List Nat}, x.length = y.length → y.length = z.length →
    earlier x y = false → earlier y z = false → earlier x z = false
  | [], _, [], _, _, _, _ => rfl
  | [], [], _ :: _, _, h, _, _ => by simp at h
  | _ :: _, [], _, h, _, _, _ => by simp at h
  | [], _ :: _, _, h, _, _, _ => by simp at h
  | _ :: _, _ :: _, [], _, h, _, _ => by simp at h
  | a :: x, b :: y, c :: z, h1, h2, g1, g2 => by
    rw [earlier_cons_not] at g1 g2 ⊢
    rcases g1 with g1 | ⟨e1, g1⟩ <;> rcases g2 with g2 | ⟨e2, g2⟩
    · left; omega
    · left; omega
    · left; omega
    · right
      exact ⟨by omega, not_earlier_trans (by simpa using h1) (by simpa using h2) g1 g2⟩
theorem earlier_total : ∀ {x y : List Nat}, x.length = y.length → earlier x y = false → earlier y x = false → x = y
  | [], [], _, _, _ => rfl
  | [], _ :: _, h, _, _ => by simp at h
  | _ :: _, [], h, _, _ => by simp at h
  | a :: x, b :: y, h, g1, g2 => by
    rw [earlier_cons_not] at g1 g2
    rcases g1 with g1 | ⟨e1, g1⟩ <;> rcases g2 with g2 | ⟨e2, g2⟩
    · omega
    · omega
    · omega
    · subst e1
      rw [earlier_total (by simpa using h) g1 g2]

theorem first_none : ∀ {L : List (List Nat)}, first_ L = none → L = []
  | [], _ => rfl
  | x :: l, h => by
    unfold first_ at h
    split at h <;> cases h

theorem first_mem : ∀ {L : List (List Nat)} {x : List Nat}, first_ L = some x → x ∈ L
  | [], _, h => by simp [first_] at h
  | a :: l, x, h => by
    unfold first_ at h
    split at h
    · cases h; exact List.mem_cons_self
    · rename_i y e
      cases h
      split
      · exact List.mem_cons_of_mem _ (first_mem e)
      · exact List.mem_cons_self

theorem first_least (N : Nat) : ∀ {L : List (List Nat)} {x : List Nat}, (∀ y ∈ L, y.length = N) → first_ L = some x → ∀ y ∈ L, earlier y x = false
  | [], _, _, h => by simp [first_] at h
  | a :: l, x, hN, h => by
    have hN' : ∀ y ∈ l, y.length = N := fun y hy => hN y (List.mem_cons_of_mem _ hy)
    have ha : a.length = N := hN a List.mem_cons_self
    unfold first_ at h
    split at h
    · rename_i e
      cases h
      have := first_none e
      subst this
      intro y hy
      rw [List.mem_singleton] at hy
      subst hy
      exact earlier_irrefl _
    · rename_i w e
      have ih := first_least N hN' e
      have hw : w.length = N := hN' w (first_mem e)
      cases h
      intro y hy
      by_cases c : earlier w a = true
      · rw [if_pos c]
        rcases List.mem_cons.mp hy with rfl | hy
        · exact earlier_asymm c
        · exact ih y hy
      · rw [if_neg c]
        have c' : earlier w a = false := by simpa using c
        rcases List.mem_cons.mp hy with rfl | hy
        · exact earlier_irrefl _
        · exact not_earlier_trans (by rw [hN' y hy, hw]) (by rw [hw, ha]) (ih y hy) c'

/-- the one way to say what the first is -/
theorem first_is {N : Nat} {L : List (List Nat)} {x : List Nat} (hN : ∀ y ∈ L, y.length = N) (hx : x ∈ L) (hl : ∀ y ∈ L, earlier y x = false) : first_ L = some x := by
  cases e : first_ L with
  | none =>
    have := first_none e
    subst this
    cases hx
  | some z =>
    have hz := first_mem e
    rw [earlier_total (by rw [hN z hz, hN x hx]) (hl z hz) (first_least N hN e x hx)]
end Sv
/-! The table of what follows by one behind another, and the pictures of three and of four counted by it: by the kernel's reckoning. -/
namespace Sv
open Kcz9

def T : List (List Nat) := [
  [1, 1, 1, 1, 31, 31, 1, 1, 1, 1, 31, 31, 8191],
  [1, 1, 1, 2, 28, 28, 2, 1, 1, 2, 28, 224, 7936],
  [1, 1, 7, 4, 28, 28, 4, 7, 391, 388, 2044, 1792, 7936],
  [1, 1, 7, 8, 16, 16, 8, 7, 391, 584, 1072, 2048, 4096],
  [1, 1, 31, 16, 16, 16, 16, 31, 8191, 7216, 7216, 4096, 4096],
  [1, 2, 28, 16, 16, 32, 32, 224, 7936, 7168, 7168, 4096, 4096],
  [1, 2, 4, 8, 16, 32, 64, 128, 256, 512, 1024, 2048, 4096],
  [1, 2, 4, 4, 28, 224, 128, 128, 256, 256, 1792, 1792, 7936],
  [391, 388, 388, 388, 2044, 1792, 256, 256, 256, 256, 1792, 1792, 7936],
  [391, 388, 388, 584, 1072, 1024, 512, 256, 256, 512, 1024, 2048, 4096],
  [391, 388, 2044, 1072, 1072, 1024, 1024, 1792, 7936, 7168, 7168, 4096, 4096],
  [391, 584, 1072, 1072, 1072, 2048, 2048, 2048, 4096, 4096, 4096, 4096, 4096],
  [8191, 7216, 7216, 7216, 7216, 4096, 4096, 4096, 4096, 4096, 4096, 4096, 4096]]
def tab (x y : Nat) : Nat := (T.getD x []).getD y 0

/-! ### lists without a number twice, as bits -/
def mask : List Nat → Nat → Option Nat
  | [], m => some m
  | k :: l, m => bif Nat.beq ((m >>> k) % 2) 0 then mask l (m ||| 1 <<< k) else none
theorem mask_spec : ∀ (l : List Nat) (m r : Nat), mask l m = some r → l.Nodup ∧ (∀ k ∈ l, m.testBit k = false) ∧ ∀ k, r.testBit k = true ↔ (m.testBit k = true ∨ k ∈ l)
  | [], m, r, h => by
    cases h
    exact ⟨List.nodup_nil, fun _ h => (List.not_mem_nil h).elim, fun k => by simp⟩
  | k :: l, m, r, h => by
    unfold mask at h
    cases e : Nat.beq ((m >>> k) % 2) 0 with
    | false => rw [e] at h; cases h
    | true =>
      rw [e] at h
      have hk : m.testBit k = false := by
        rw [Nat.testBit_eq_decide_div_mod_eq, ← Nat.shiftRight_eq_div_pow, Nat.eq_of_beq_eq_true e]
        rfl
      obtain ⟨h1, h2, h3⟩ := mask_spec l _ r h
      have ho : ∀ j, (m ||| 1 <<< k).testBit j = (m.testBit j || decide (j = k)) := by
        intro j
        rw [Nat.testBit_or, Nat.one_shiftLeft, Nat.testBit_two_pow]
        congr 1
        exact decide_eq_decide.mpr ⟨fun h => h.symm, fun h => h.symm⟩
      refine ⟨List.nodup_cons.mpr ⟨fun hm => ?_, h1⟩, ?_, ?_⟩
      · have := h2 k hm
        rw [ho] at this
        simp at this
      · intro j hj
        rcases List.mem_cons.mp hj with rfl | hj
        · exact hk
        · have := h2 j hj
          rw [ho, Bool.or_eq_false_iff] at this
          exact this.1
      · intro j
        rw [h3, ho, Bool.or_eq_true, decide_eq_true_iff, List.mem_cons, or_assoc]
def sameM (l m : List Nat) : Bool := match mask l 0, mask m 0 with
  | some a, some b => Nat.beq a b
  | _, _ => false
theorem perm_of {l m : List Nat} (h : sameM l m = true) : l.Perm m := by
  unfold sameM at h
  split at h
  · rename_i a b ea eb
    have := Nat.eq_of_beq_eq_true h
    subst this
    obtain ⟨n1, _, m1⟩ := mask_spec _ _ _ ea
    obtain ⟨n2, _, m2⟩ := mask_spec _ _ _ eb
    refine (List.perm_ext_iff_of_nodup n1 n2).mpr fun k => ?_
    have e1 := m1 k
    have e2 := m2 k
    simp only [Nat.zero_testBit, Bool.false_eq_true, false_or] at e1 e2
    exact e1.symm.trans e2
  · cases h

/-! ### three -/
def code3 (c : Picture) : Nat := match c.spans with
  | [x, y, z] => lies x y + 13 * (lies y z + 13 * lies x z)
  | _ => 0
def tri : List Nat := (List.range 13).flatMap fun x => (List.range 13).flatMap fun y =>
  ((List.range 13).filter fun z => bit (tab x y) z).map fun z => x + 13 * (y + 13 * z)
theorem chk3 : sameM ((P 3).map code3) tri = true := by decide +kernel

/-! ### four: a fourth span to each picture of three -/
def code4 (d : Picture) : Nat := match d.spans with
  | [x, y, z, w] => lies x w + 13 * (lies y w + 13 * lies z w)
  | _ => 0
/-- the ways of the fourth to the first three, whose ways are x (0 to 1), y (1 to 2), z (0 to 2) -/
def quad (x y z : Nat) : List Nat := (List.range 13).flatMap fun b => ((List.range 13).filter fun a => bit (tab x b) a).flatMap fun a =>
  ((List.range 13).filter fun c => bit (tab (12 - z) a &&& tab (12 - y) b) c).map fun c => a + 13 * (b + 13 * c)
def one4 (c : Picture) : Bool := match c.spans with
  | [x, y, z] => sameM ((more c).map code4) (quad (lies x y) (lies y z) (lies x z))
  | _ => false
/-- in pieces, so that each takes little room -/
def piece (k : Nat) : List Picture := ((P 3).drop (41 * k)).take 41
theorem chk4_0 : (piece 0).all one4 = true := by decide +kernel
theorem chk4_1 : (piece 1).all one4 = true := by decide +kernel
theorem chk4_2 : (piece 2).all one4 = true := by decide +kernel
theorem chk4_3 : (piece 3).all one4 = true := by decide +kernel
theorem chk4_4 : (piece 4).all one4 = true := by decide +kernel
theorem chk4_5 : (piece 5).all one4 = true := by decide +kernel
theorem chk4_6 : (piece 6).all one4 = true := by decide +kernel
theorem chk4_7 : (piece 7).all one4 = true := by decide +kernel
theorem chk4_8 : (piece 8).all one4 = true := by decide +kernel
theorem chk4_9 : (piece 9).all one4 = true := by decide +kernel
theorem P3_len : (P 3).length = 409 := by decide +kernel
theorem all_piece {α : Type} {f : α → Bool} : ∀ {n : Nat} {l : List α}, (l.take n).all f = true → (l.drop n).all f = true → l.all f = true := by
  intro n l h1 h2
  rw [← List.take_append_drop n l, List.all_append, h1, h2]
  rfl
theorem chk4 : (P 3).all one4 = true := by
  have e : ∀ k, (P 3).drop (41 * (k + 1)) = ((P 3).drop (41 * k)).drop 41 := fun k => by rw [List.drop_drop, Nat.mul_succ]
  have step : ∀ k, (piece k).all one4 = true → ((P 3).drop (41 * (k + 1))).all one4 = true → ((P 3).drop (41 * k)).all one4 = true := fun k h1 h2 => all_piece h1 (by rw [← e]; exact h2)
  have last : ((P 3).drop (41 * 10)).all one4 = true := by
    rw [List.drop_eq_nil_of_le (by rw [P3_len]; decide)]
    rfl
  exact step 0 chk4_0 (step 1 chk4_1 (step 2 chk4_2 (step 3 chk4_3 (step 4 chk4_4 (step 5 chk4_5 (step 6 chk4_6 (step 7 chk4_7 (step 8 chk4_8 (step 9 chk4_9 last)))))))))

end Sv
/-! How many pictures of a net there are, by the table; what follows, by the table. -/
namespace Sv
open Kcz9

def waysIn (s : Nat) : List Nat := (List.range 13).filter (bit s)

theorem mem_waysIn {s k : Nat} : k ∈ waysIn s ↔ k < 13 ∧ bit s k = true := by
  unfold waysIn
  rw [List.mem_filter, List.mem_range]

theorem countP_of_perm {α : Type} {L : List α} {M : List Nat} {code : α → Nat} {p : α → Bool} {g : Nat → Bool}
    (hp : (L.map code).Perm M) (h : ∀ c ∈ L, p c = g (code c)) : L.countP p = M.countP g := by
  rw [← hp.countP_eq, List.countP_map]
  apply List.countP_congr
  intro c hc
  rw [h c hc]
  rfl

theorem sum_filter {α : Type} (q : α → Bool) (h : α → Nat) : ∀ l : List α, (l.map fun a => if q a = true then h a else 0).sum = ((l.filter q).map h).sum
  | [] => rfl
  | a :: l => by
    cases e : q a with
    | true =>
      rw [List.filter_cons_of_pos e, List.map_cons, List.map_cons, List.sum_cons, List.sum_cons, if_pos e, sum_filter q h l]
    | false =>
      have e' : ¬ q a = true := by rw [e]; decide
      rw [List.filter_cons_of_neg e', List.map_cons, List.sum_cons, if_neg e', Nat.zero_add, sum_filter q h l]

theorem sum_flat {α : Type} (f : α → List Nat) : ∀ l : List α, (l.flatMap f).sum = (l.map fun a => (f a).sum).sum
  | [] => rfl
  | a :: l => by rw [List.flatMap_cons, List.sum_append, List.map_cons, List.sum_cons, sum_flat f l]
theorem sum_zero : ∀ {l : List Nat}, (∀ x ∈ l, x = 0) → l.sum = 0
  | [], _ => rfl
  | a :: l, h => by
    rw [List.sum_cons, h a List.mem_cons_self, sum_zero fun x hx => h x (List.mem_cons_of_mem _ hx)]

theorem spans2 {c : Picture} (h : c ∈ P 2) : ∃ x y, c.spans = [x, y] := by
  have := ((mem_P 2 c).mp h).1
  match e : c.spans, this with
  | [x, y], _ => exact ⟨x, y, rfl⟩
theorem spans3 {c : Picture} (h : c ∈ P 3) : ∃ x y z, c.spans = [x, y, z] := by
  have := ((mem_P 3 c).mp h).1
  match e : c.spans, this with
  | [x, y, z], _ => exact ⟨x, y, z, rfl⟩
theorem spans4 {c : Picture} (h : c ∈ P 4) : ∃ x y z w, c.spans = [x, y, z, w] := by
  have := ((mem_P 4 c).mp h).1
  match e : c.spans, this with
  | [x, y, z, w], _ => exact ⟨x, y, z, w, rfl⟩

/-! ### what fits, by two and two -/
theorem fitB2 (net : Net) {c : Picture} {x y : Span} (h : c.spans = [x, y]) : fitB net c = bit (net 0 1) (lies x y) := by
  unfold fitB
  rw [h]
  simp [fitAll, fitLast, List.range_succ]
theorem fitB3 (net : Net) {c : Picture} {x y z : Span} (h : c.spans = [x, y, z]) :
    fitB net c = (bit (net 0 1) (lies x y) && (bit (net 0 2) (lies x z) && bit (net 1 2) (lies y z))) := by
  unfold fitB
  rw [h]
  simp [fitAll, fitLast, List.range_succ]
theorem fitB4 (net : Net) {c : Picture} {x y z w : Span} (h : c.spans = [x, y, z, w]) :
    fitB net c = (bit (net 0 1) (lies x y) && (bit (net 0 2) (lies x z) && bit (net 1 2) (lies y z)) &&
      (bit (net 0 3) (lies x w) && (bit (net 1 3) (lies y w) && bit (net 2 3) (lies z w)))) := by
  unfold fitB
  rw [h]
  simp [fitAll, fitLast, List.range_succ, Bool.and_assoc]

/-! ### two -/
def code2 (c : Picture) : Nat := match c.spans with
  | [x, y] => lies x y
  | _ => 0
theorem chk2 : sameM ((P 2).map code2) (List.range 13) = true := by decide +kernel
theorem many2 (net : Net) : (pictures net 2).length = (waysIn (net 0 1)).length := by
  rw [pictures_eq, ← List.countP_eq_length_filter]
  unfold waysIn
  rw [← List.countP_eq_length_filter]
  apply countP_of_perm (perm_of chk2)
  intro c hc
  obtain ⟨x, y, e⟩ := spans2 hc
  rw [fitB2 net e, code2, e]

/-! ### three -/
def g3 (net : Net) (k : Nat) : Bool := bit (net 0 1) (k % 13) && (bit (net 0 2) (k / 13 / 13) && bit (net 1 2) (k / 13 % 13))
theorem dec3 {x y z : Nat} (hx : x < 13) (hy : y < 13) : (x + 13 * (y + 13 * z)) % 13 = x ∧ (x + 13 * (y + 13 * z)) / 13 % 13 = y ∧ (x + 13 * (y + 13 * z)) / 13 / 13 = z := by
  omega
theorem fit_code3 (net : Net) {c : Picture} (h : c ∈ P 3) : fitB net c = g3 net (code3 c) := by
  obtain ⟨x, y, z, e⟩ := spans3 h
  have e2 : code3 c = lies x y + 13 * (lies y z + 13 * lies x z) := by rw [code3, e]
  obtain ⟨d1, d2, d3⟩ := dec3 (z := lies x z) (lies_lt x y) (lies_lt y z)
  rw [fitB3 net e, g3, e2, d1, d2, d3]

/-- a sum over the triples that fit -/
theorem tri_sum (net : Net) (h : Nat → Nat → Nat → Nat) :
    (tri.map fun k => if g3 net k = true then h (k % 13) (k / 13 % 13) (k / 13 / 13) else 0).sum =
      ((waysIn (net 0 1)).map fun x => ((waysIn (net 1 2)).map fun y => ((waysIn (tab x y &&& net 0 2)).map fun z => h x y z).sum).sum).sum := by
  unfold tri
  rw [List.map_flatMap, sum_flat]
  unfold waysIn
  rw [← sum_filter]
  refine congrArg List.sum (List.map_congr_left ?_)
  intro x hx
  have hx := List.mem_range.mp hx
  rw [List.map_flatMap, sum_flat]
  by_cases c1 : bit (net 0 1) x = true
  · rw [if_pos c1, ← sum_filter]
    refine congrArg List.sum (List.map_congr_left ?_)
    intro y hy
    have hy := List.mem_range.mp hy
    rw [List.map_map]
    by_cases c2 : bit (net 1 2) y = true
    · rw [if_pos c2]
      have e1 : (List.range 13).filter (bit (tab x y &&& net 0 2)) = ((List.range 13).filter fun z => bit (tab x y) z).filter (bit (net 0 2)) := by
        rw [List.filter_filter]
        apply List.filter_congr
        intro z _
        rw [bit_testBit, bit_testBit, bit_testBit, Nat.testBit_and, Bool.and_comm]
      rw [e1, ← sum_filter (bit (net 0 2))]
      refine congrArg List.sum (List.map_congr_left ?_)
      intro z _
      obtain ⟨d1, d2, d3⟩ := dec3 (z := z) hx hy
      show (if g3 net (x + 13 * (y + 13 * z)) = true then h ((x + 13 * (y + 13 * z)) % 13) ((x + 13 * (y + 13 * z)) / 13 % 13) ((x + 13 * (y + 13 * z)) / 13 / 13) else 0) = _
      rw [g3, d1, d2, d3, c1, c2]
      simp
    · rw [if_neg c2]
      rw [sum_zero]
      intro w hw
      obtain ⟨z, _, rfl⟩ := List.mem_map.mp hw
      obtain ⟨d1, d2, d3⟩ := dec3 (z := z) hx hy
      show (if g3 net (x + 13 * (y + 13 * z)) = true then h ((x + 13 * (y + 13 * z)) % 13) ((x + 13 * (y + 13 * z)) / 13 % 13) ((x + 13 * (y + 13 * z)) / 13 / 13) else 0) = _
      rw [g3, d1, d2, d3]
      have c2' : bit (net 1 2) y = false := by simpa using c2
      rw [c2']
      simp
  · rw [if_neg c1]
    rw [sum_zero]
    intro w hw
    obtain ⟨y, hy, rfl⟩ := List.mem_map.mp hw
    have hy := List.mem_range.mp hy
    rw [List.map_map, sum_zero]
    intro w hw
    obtain ⟨z, _, rfl⟩ := List.mem_map.mp hw
    obtain ⟨d1, d2, d3⟩ := dec3 (z := z) hx hy
    show (if g3 net (x + 13 * (y + 13 * z)) = true then h ((x + 13 * (y + 13 * z)) % 13) ((x + 13 * (y + 13 * z)) / 13 % 13) ((x + 13 * (y + 13 * z)) / 13 / 13) else 0) = _
    rw [g3, d1, d2, d3]
    have c1' : bit (net 0 1) x = false := by simpa using c1
    rw [c1']
    simp

theorem countP_sum {α : Type} (p : α → Bool) : ∀ l : List α, l.countP p = (l.map fun a => if p a = true then 1 else 0).sum
  | [] => rfl
  | a :: l => by
    rw [List.countP_cons, List.map_cons, List.sum_cons, countP_sum p l, Nat.add_comm]

theorem sum_ones {α : Type} : ∀ l : List α, (l.map fun _ => 1).sum = l.length
  | [] => rfl
  | a :: l => by rw [List.map_cons, List.sum_cons, sum_ones l, List.length_cons, Nat.add_comm]

theorem many3 (net : Net) : (pictures net 3).length =
    ((waysIn (net 0 1)).map fun x => ((waysIn (net 1 2)).map fun y => (waysIn (tab x y &&& net 0 2)).length).sum).sum := by
  rw [pictures_eq, ← List.countP_eq_length_filter, countP_of_perm (perm_of chk3) (fun c hc => fit_code3 net hc), countP_sum]
  have e := tri_sum net fun _ _ _ => 1
  simp only [sum_ones] at e
  exact e

/-! ### four -/
def g4 (net : Net) (k : Nat) : Bool := bit (net 0 3) (k % 13) && (bit (net 1 3) (k / 13 % 13) && bit (net 2 3) (k / 13 / 13))

theorem more_spans {c d : Picture} {x y z : Span} (hc : c.spans = [x, y, z]) (hd : d ∈ more c) :
    ∃ x' y' z' w, d.spans = [x', y', z', w] ∧ lies x' y' = lies x y ∧ lies y' z' = lies y z ∧ lies x' z' = lies x z := by
  obtain ⟨p, q, _, _, _, rfl⟩ := mem_more.mp hd
  have hm : ∀ u v : Int, u < v → pf q (pf p u) < pf q (pf p v) := fun u v h => pf_mono q _ _ (pf_mono p u v h)
  refine ⟨_, _, _, ⟨((p / 2 : Nat) : Int), ((q / 2 : Nat) : Int)⟩, ?_, lies_mono hm x y, lies_mono hm y z, lies_mono hm x z⟩
  show c.spans.map _ ++ [_] = _
  rw [hc]
  rfl

theorem fits_code4 (net : Net) {c d : Picture} (hc : c ∈ P 3) (hd : d ∈ more c) : fits net d = g4 net (code4 d) := by
  obtain ⟨x, y, z, e⟩ := spans3 hc
  obtain ⟨x', y', z', w, e', _⟩ := more_spans e hd
  have e2 : code4 d = lies x' w + 13 * (lies y' w + 13 * lies z' w) := by rw [code4, e']
  obtain ⟨d1, d2, d3⟩ := dec3 (z := lies z' w) (lies_lt x' w) (lies_lt y' w)
  rw [g4, e2, d1, d2, d3]
  unfold fits
  rw [e']
  simp [List.range_succ]

theorem one4_perm {c : Picture} (hc : c ∈ P 3) : ((more c).map code4).Perm (quad (code3 c % 13) (code3 c / 13 % 13) (code3 c / 13 / 13)) := by
  have h := List.all_eq_true.mp chk4 c hc
  obtain ⟨x, y, z, e⟩ := spans3 hc
  have e2 : code3 c = lies x y + 13 * (lies y z + 13 * lies x z) := by rw [code3, e]
  obtain ⟨d1, d2, d3⟩ := dec3 (z := lies x z) (lies_lt x y) (lies_lt y z)
  rw [one4, e] at h
  rw [e2, d1, d2, d3]
  exact perm_of h

theorem quad_count (net : Net) (x y z : Nat) : (quad x y z).countP (g4 net) =
    ((waysIn (net 1 3)).map fun b => ((waysIn (tab x b &&& net 0 3)).map fun a => (waysIn (tab (12 - z) a &&& tab (12 - y) b &&& net 2 3)).length).sum).sum := by
  have land : ∀ s t : Nat, (List.range 13).filter (bit (s &&& t)) = ((List.range 13).filter fun z => bit s z).filter (bit t) := by
    intro s t
    rw [List.filter_filter]
    apply List.filter_congr
    intro z _
    rw [bit_testBit, bit_testBit, bit_testBit, Nat.testBit_and, Bool.and_comm]
  unfold quad
  rw [List.countP_flatMap]
  unfold waysIn
  rw [← sum_filter]
  refine congrArg List.sum (List.map_congr_left ?_)
  intro b hb
  have hb := List.mem_range.mp hb
  show List.countP (g4 net) _ = _
  rw [List.countP_flatMap]
  by_cases c1 : bit (net 1 3) b = true
  · rw [if_pos c1, land (tab x b), ← sum_filter (bit (net 0 3))]
    refine congrArg List.sum (List.map_congr_left ?_)
    intro a ha
    have ha := List.mem_range.mp (List.mem_filter.mp ha).1
    show List.countP (g4 net) _ = _
    rw [List.countP_map]
    by_cases c2 : bit (net 0 3) a = true
    · rw [if_pos c2, land (tab (12 - z) a &&& tab (12 - y) b) (net 2 3), ← List.countP_eq_length_filter]
      apply List.countP_congr
      intro c _
      obtain ⟨d1, d2, d3⟩ := dec3 (z := c) ha hb
      show g4 net (a + 13 * (b + 13 * c)) = true ↔ _
      rw [g4, d1, d2, d3, c1, c2]
      simp
    · rw [if_neg c2, List.countP_eq_zero]
      intro c _
      obtain ⟨d1, d2, d3⟩ := dec3 (z := c) ha hb
      show ¬ g4 net (a + 13 * (b + 13 * c)) = true
      rw [g4, d1, d2, d3]
      have c2' : bit (net 0 3) a = false := by simpa using c2
      rw [c2']
      simp
  · rw [if_neg c1, sum_zero]
    intro w hw
    obtain ⟨a, ha, rfl⟩ := List.mem_map.mp hw
    have ha := List.mem_range.mp (List.mem_filter.mp ha).1
    show List.countP (g4 net) _ = _
    rw [List.countP_map, List.countP_eq_zero]
    intro c _
    obtain ⟨d1, d2, d3⟩ := dec3 (z := c) ha hb
    show ¬ g4 net (a + 13 * (b + 13 * c)) = true
    rw [g4, d1, d2, d3]
    have c1' : bit (net 1 3) b = false := by simpa using c1
    rw [c1']
    simp

theorem many4 (net : Net) : (pictures net 4).length =
    ((waysIn (net 0 1)).map fun x => ((waysIn (net 1 2)).map fun y => ((waysIn (tab x y &&& net 0 2)).map fun z =>
      ((waysIn (net 1 3)).map fun b => ((waysIn (tab x b &&& net 0 3)).map fun a => (waysIn (tab (12 - z) a &&& tab (12 - y) b &&& net 2 3)).length).sum).sum).sum).sum).sum := by
  rw [pictures_eq, ← List.countP_eq_length_filter, show P 4 = (P 3).flatMap more from P_succ 3, List.countP_flatMap]
  have e := tri_sum net fun x y z => ((waysIn (net 1 3)).map fun b => ((waysIn (tab x b &&& net 0 3)).map fun a => (waysIn (tab (12 - z) a &&& tab (12 - y) b &&& net 2 3)).length).sum).sum
  rw [← e]
  have hp := (perm_of chk3).map fun k => if g3 net k = true then ((waysIn (net 1 3)).map fun b => ((waysIn (tab (k % 13) b &&& net 0 3)).map fun a => (waysIn (tab (12 - k / 13 / 13) a &&& tab (12 - k / 13 % 13) b &&& net 2 3)).length).sum).sum else 0
  rw [← hp.sum_nat, List.map_map]
  refine congrArg List.sum (List.map_congr_left ?_)
  intro c hc
  show List.countP (fitB net) (more c) = if g3 net (code3 c) = true then _ else 0
  rw [← quad_count]
  by_cases c1 : g3 net (code3 c) = true
  · rw [if_pos c1]
    apply countP_of_perm (one4_perm hc)
    intro d hd
    rw [fitB_more hd, fit_code3 net hc, c1, Bool.true_and, fits_code4 net hc hd]
  · rw [if_neg c1, List.countP_eq_zero]
    intro d hd
    rw [fitB_more hd, fit_code3 net hc]
    have : g3 net (code3 c) = false := by simpa using c1
    rw [this, Bool.false_and]
    decide

/-! ### what follows -/
theorem mem_tri {x y z : Nat} (hx : x < 13) (hy : y < 13) (hz : z < 13) : x + 13 * (y + 13 * z) ∈ tri ↔ bit (tab x y) z = true := by
  unfold tri
  simp only [List.mem_flatMap, List.mem_map, List.mem_filter, List.mem_range]
  constructor
  · rintro ⟨x', hx', y', hy', z', ⟨hz', hb⟩, e⟩
    have : x' = x := by omega
    subst this
    have : y' = y := by omega
    subst this
    have : z' = z := by omega
    subst this
    exact hb
  · intro h
    exact ⟨x, hx, y, hy, z, ⟨hz, h⟩, rfl⟩

theorem through_bit (s t k : Nat) : bit (Kcz9.through s t) k = true ↔ k < 13 ∧ ∃ x y, x < 13 ∧ y < 13 ∧ bit s x = true ∧ bit t y = true ∧ bit (tab x y) k = true := by
  unfold Kcz9.through
  rw [bit_setOf, Bool.and_eq_true, decide_eq_true_iff]
  refine and_congr_right fun hk => ?_
  rw [List.any_eq_true]
  constructor
  · rintro ⟨c, hc, h⟩
    rw [pictures_eq] at hc
    obtain ⟨hc, hf⟩ := List.mem_filter.mp hc
    obtain ⟨x, y, z, e⟩ := spans3 hc
    rw [fitB3 _ e, Bool.and_eq_true, Bool.and_eq_true] at hf
    rw [e] at h
    have h : (lies x z == k) = true := h
    rw [beq_iff_eq] at h
    refine ⟨lies x y, lies y z, lies_lt _ _, lies_lt _ _, hf.1, hf.2.2, ?_⟩
    rw [← h, ← mem_tri (lies_lt _ _) (lies_lt _ _) (lies_lt _ _)]
    rw [← (perm_of chk3).mem_iff, List.mem_map]
    exact ⟨c, hc, by rw [code3, e]⟩
  · rintro ⟨x, y, hx, hy, hs, ht, hb⟩
    rw [← mem_tri hx hy hk, ← (perm_of chk3).mem_iff, List.mem_map] at hb
    obtain ⟨c, hc, hcode⟩ := hb
    obtain ⟨u, v, w, e⟩ := spans3 hc
    rw [code3, e] at hcode
    have l1 := lies_lt u v
    have l2 := lies_lt v w
    have l3 := lies_lt u w
    have hcode : lies u v + 13 * (lies v w + 13 * lies u w) = x + 13 * (y + 13 * k) := hcode
    have e1 : lies u v = x := by omega
    have e2 : lies v w = y := by omega
    have e3 : lies u w = k := by omega
    refine ⟨c, ?_, ?_⟩
    · rw [pictures_eq, List.mem_filter]
      refine ⟨hc, ?_⟩
      rw [fitB3 _ e, e1, e2, e3]
      show (bit s x && (bit ALL k && bit t y)) = true
      rw [hs, ht, bit_ALL hk]
      rfl
    · rw [e]
      show (lies u w == k) = true
      rw [e3, beq_self_eq_true]
end Sv
/-! The texts of the program by their places; words for all defs. -/
namespace Sv
open PySem PySem.Spec PyProof.Rows L2

def topS (i : Nat) : Stmt := PySem.Challenge.pw_spanwaysdesk_s01_answers.main.body.getD i (.Pass ⟨0, 0, 0, 0⟩)
abbrev sPlace : Stmt := topS 4
abbrev sBetween : Stmt := topS 5
abbrev sIn : Stmt := topS 6
abbrev sTurned : Stmt := topS 7
abbrev sWithin : Stmt := topS 8
abbrev sAmong : Stmt := topS 9
abbrev sBehind : Stmt := topS 10

/-! ### place_of -/
def placeOf (n a b : Int) : Int := if n < a then 0 else if n = a then 1 else if n < b then 2 else if n = b then 3 else 4
def spPlace (K : PySem.W.Frag) : Sp := fun vs H Q _ => ∃ (n a b : Int) (p : Addr), vs = [.int n, .ref p] ∧ SqT K H p [.int a, .int b] ∧ Q (.int (placeOf n a b)) H

section
variable {P : Program} {w : World} {K : PySem.W.Frag} {mg : Str → Option Value} {base : Heap}
theorem scPlace : FnScope ["number", "span"] ["number", "span"] (defScope sPlace) := ⟨rfl, rfl, rfl, by decide +kernel, rfl, by decide +kernel, by decide +kernel⟩
theorem ok_place {f : Addr} {fd : FuncData} (F : Fun K "place_of" "place_of" sPlace f fd) : FnOk P w K mg base CX0 1 f fd ["number", "span"] (spPlace K) := by
  refine F.ok scPlace (fun vs H Q E h => ?_) (fun cdv A outer s H vs Q E hr h => ?_)
  · obtain ⟨n, a, b, p, rfl, _⟩ := h
    rfl
  · obtain ⟨n, a, b, p, rfl, hp, k⟩ := h
    refine ⟨_, pss_cons (ps_if (pt_cmpR op_lt (pv 0) (pe_ix ix_tup (pv 1) pe_int (fun _ _ => rfl)) (nomark _)) (pss_one (ps_ret pe_int)) pss_nil)
      (pss_cons (ps_if (pt_cmpR op_eq (pv 0) (pe_ix ix_tup (pv 1) pe_int (fun _ _ => rfl)) (nomark _)) (pss_one (ps_ret pe_int)) pss_nil)
      (pss_cons (ps_if (pt_cmpR op_lt (pv 0) (pe_ix ix_tup (pv 1) pe_int (fun _ _ => rfl)) (nomark _)) (pss_one (ps_ret pe_int)) pss_nil)
      (pss_cons (ps_if (pt_cmpR op_eq (pv 0) (pe_ix ix_tup (pv 1) pe_int (fun _ _ => rfl)) (nomark _)) (pss_one (ps_ret pe_int)) pss_nil)
      (pss_one (ps_ret pe_int))))), ?_⟩
    have i0 : atI [V.int a, V.int b] 0 = some (.int a) := atI_nat (j := 0) rfl
    have i1 : atI [V.int a, V.int b] 1 = some (.int b) := atI_nat (j := 1) rfl
    unfold placeOf at k
    refine ⟨_, rfl, _, rfl, p, _, _, _, rfl, rfl, hp, i0, _, _, rfl, rfl, _, rfl, ?_⟩
    by_cases c1 : n < a
    · rw [if_pos c1] at k
      rw [decide_eq_true c1]
      exact iteT k
    rw [if_neg c1] at k
    rw [decide_eq_false c1]
    refine iteF ?_
    refine ⟨_, rfl, _, rfl, p, _, _, _, rfl, rfl, hp, i0, rfl, _, rfl, ?_⟩
    by_cases c2 : n = a
    · rw [if_pos c2] at k
      rw [decide_eq_true (congrArg V.int c2)]
      exact iteT k
    rw [if_neg c2] at k
    rw [decide_eq_false (fun e => c2 (V.int.inj e))]
    refine iteF ?_
    refine ⟨_, rfl, _, rfl, p, _, _, _, rfl, rfl, hp, i1, _, _, rfl, rfl, _, rfl, ?_⟩
    by_cases c3 : n < b
    · rw [if_pos c3] at k
      rw [decide_eq_true c3]
      exact iteT k
    rw [if_neg c3] at k
    rw [decide_eq_false c3]
    refine iteF ?_
    refine ⟨_, rfl, _, rfl, p, _, _, _, rfl, rfl, hp, i1, rfl, _, rfl, ?_⟩
    by_cases c4 : n = b
    · rw [if_pos c4] at k
      rw [decide_eq_true (congrArg V.int c4)]
      exact iteT k
    rw [if_neg c4] at k
    rw [decide_eq_false (fun e => c4 (V.int.inj e))]
    refine iteF ?_
    exact k
end
end Sv
/-! A written dict whose keys are tuples of two whole numbers, read; way_between. -/
namespace Sv
open PySem PySem.Spec PyProof.Rows L2

def htup (p q : Int) : Int := reduceHash (Builtin.Tuple.tupleHashOf [hashInt p, hashInt q])
def kvOf (p q : Int) : List Key := [Sum.inl p, Sum.inl q]
/-- at d a dict, written at the top, that holds v at (p, q) where f p q = some v -/
structure KTab (K : PySem.W.Frag) (d : Addr) (f : Int → Int → Option Int) : Prop where
  ex : ∃ xs : List (List Key × Addr × Value), (∀ (P : Program) (w : World) (h : Heap), K.In h → h.DictOfH (tupleKind (mixKind P w)) d xs) ∧
    ∀ p q v, f p q = some v → ∃ a t, atKey xs (kvOf p q) = some (a, .int v t)

def tKTab (K : PySem.W.Frag) (f : Int → Int → Option Int) (td ty : TE) : TE := fun σ H Q => td σ H fun x H1 => ty σ H1 fun y H2 => ∃ d b p q v, x = .ref d ∧ KTab K d f ∧ y = .ref b ∧ H2 b = some (.tup [.int p, .int q]) ∧ f p q = some v ∧ Q (.int v) H2

theorem pe_ktab {X : Cx} {o i : Expr} {pos : Pos} {td ty : TE} (f : Int → Int → Option Int) (hu : X.A.units + 1 < cLine) (ho : PE X o td) (hi : PE X i ty) (hs : NoSl i) : PE X (.Subscript o i pos) (tKTab X.K f td ty) := by
  refine ⟨fun pins s σ H Q I h => ?_⟩
  refine subD_of PySem.F.slot_dict_getitem.lookup hs (thn (ho.run pins s σ H _ I h) fun u s1 ⟨x, H1, I1, rx, q1⟩ => thn (hi.run pins s1 σ H1 _ I1 q1) fun iv s2 ⟨y, H2, I2, ry, d, b, p, q, v, ex, T, ey, hb, hf, q2⟩ => ?_)
  subst ex ey
  obtain rfl : u = Value.ref d := rx
  cases (show iv = Value.ref b from ry)
  obtain ⟨xs, hd, hv⟩ := T.ex
  have dd := hd X.prog X.w s2.heap I2.kIn
  obtain ⟨a, t, e⟩ := hv p q v hf
  exact ⟨dd.typeIs, wpAny_getItem_heap (tupleKind_room_in1 hu) (key_of (ks := kvOf p q) I2.hok hb) dd e ⟨.int v, H2, I2.tok _, ⟨t, rfl⟩, q2⟩⟩

/-- one key of such a dict, as it lies among what is written -/
structure KeyAt (K : PySem.W.Frag) (a : Addr) (p q : Int) : Prop where
  ex : ∃ o its n, K.lookup a = some o ∧ o.cls = .type "tuple" ∧ o.data = .seq its n ∧ ∃ t1 t2, its.toList = [.int p t1, .int q t2]
theorem KeyAt.is {K : PySem.W.Frag} {a : Addr} {p q : Int} (k : KeyAt K a p q) {P : Program} {w : World} {h : Heap} (X : K.In h) : (tupleKind (mixKind P w)).is h (kvOf p q) a := by
  obtain ⟨o, its, n, hl, hc, hd, t1, t2, e⟩ := k.ex
  refine ⟨o, its, n, X _ _ hl, hc, hd, ?_⟩
  rw [e]
  exact .cons (keyIs_int p t1) (.cons (keyIs_int q t2) .nil)
theorem keyAt_mk {K : PySem.W.Frag} {a : Addr} {p q : Int} {od : Option Addr} {t1 t2 : Tok} {n : Nat} {sl : Array (Option Value)} (l : K.lookup a = some ⟨.type "tuple", od, .seq #[.int p t1, .int q t2] n, sl⟩) : KeyAt K a p q :=
  ⟨_, _, _, l, rfl, rfl, t1, t2, rfl⟩

/-! ### the table of the ways by places -/
def wayRows : List (Int × Int × Int) := [(0, 0, 0), (0, 1, 1), (0, 2, 2), (1, 2, 3), (2, 2, 4), (2, 3, 5), (1, 3, 6), (0, 3, 7), (0, 4, 8), (1, 4, 9), (2, 4, 10), (3, 4, 11), (4, 4, 12)]
def wayAt (p q : Int) : Option Int := (wayRows.find? fun r => decide (r.1 = p ∧ r.2.1 = q)).map (·.2.2)

theorem htup_eq (P : Program) (w : World) (p q : Int) : (tupleKind (mixKind P w)).hash (kvOf p q) = htup p q := rfl

theorem ktab_mk {K : PySem.W.Frag} {d : Addr} {n : Nat} {a0 a1 a2 a3 a4 a5 a6 a7 a8 a9 a10 a11 a12 : Addr} {t0 t1 t2 t3 t4 t5 t6 t7 t8 t9 t10 t11 t12 : Tok}
    {h0 h1 h2 h3 h4 h5 h6 h7 h8 h9 h10 h11 h12 : Int}
    (l : K.lookup d = some ⟨.type "dict", none, .dict #[⟨h0, .ref a0, .int 0 t0⟩, ⟨h1, .ref a1, .int 1 t1⟩, ⟨h2, .ref a2, .int 2 t2⟩, ⟨h3, .ref a3, .int 3 t3⟩, ⟨h4, .ref a4, .int 4 t4⟩, ⟨h5, .ref a5, .int 5 t5⟩, ⟨h6, .ref a6, .int 6 t6⟩,
      ⟨h7, .ref a7, .int 7 t7⟩, ⟨h8, .ref a8, .int 8 t8⟩, ⟨h9, .ref a9, .int 9 t9⟩, ⟨h10, .ref a10, .int 10 t10⟩, ⟨h11, .ref a11, .int 11 t11⟩, ⟨h12, .ref a12, .int 12 t12⟩] n, #[]⟩)
    (hh : [h0, h1, h2, h3, h4, h5, h6, h7, h8, h9, h10, h11, h12] = wayRows.map fun r => htup r.1 r.2.1)
    (k0 : KeyAt K a0 0 0) (k1 : KeyAt K a1 0 1) (k2 : KeyAt K a2 0 2) (k3 : KeyAt K a3 1 2) (k4 : KeyAt K a4 2 2) (k5 : KeyAt K a5 2 3) (k6 : KeyAt K a6 1 3)
    (k7 : KeyAt K a7 0 3) (k8 : KeyAt K a8 0 4) (k9 : KeyAt K a9 1 4) (k10 : KeyAt K a10 2 4) (k11 : KeyAt K a11 3 4) (k12 : KeyAt K a12 4 4) : KTab K d wayAt := by
  simp only [wayRows, List.map_cons, List.map_nil, List.cons.injEq, and_true] at hh
  obtain ⟨rfl, rfl, rfl, rfl, rfl, rfl, rfl, rfl, rfl, rfl, rfl, rfl, rfl⟩ := hh
  refine ⟨[(kvOf 0 0, a0, .int 0 t0), (kvOf 0 1, a1, .int 1 t1), (kvOf 0 2, a2, .int 2 t2), (kvOf 1 2, a3, .int 3 t3), (kvOf 2 2, a4, .int 4 t4), (kvOf 2 3, a5, .int 5 t5), (kvOf 1 3, a6, .int 6 t6),
    (kvOf 0 3, a7, .int 7 t7), (kvOf 0 4, a8, .int 8 t8), (kvOf 1 4, a9, .int 9 t9), (kvOf 2 4, a10, .int 10 t10), (kvOf 3 4, a11, .int 11 t11), (kvOf 4 4, a12, .int 12 t12)], fun P w h X => ?_, ?_⟩
  · refine ⟨_, _, _, X _ _ l, ⟨rfl, rfl, rfl⟩, rfl, by simp only [List.map_cons, List.map_nil, entryOfKey, htup_eq], ?_, by show (wayRows.map fun r => kvOf r.1 r.2.1).Nodup; decide +kernel⟩
    intro x hx
    simp only [List.mem_cons, List.not_mem_nil, or_false] at hx
    rcases hx with rfl | rfl | rfl | rfl | rfl | rfl | rfl | rfl | rfl | rfl | rfl | rfl | rfl
    · exact k0.is X
    · exact k1.is X
    · exact k2.is X
    · exact k3.is X
    · exact k4.is X
    · exact k5.is X
    · exact k6.is X
    · exact k7.is X
    · exact k8.is X
    · exact k9.is X
    · exact k10.is X
    · exact k11.is X
    · exact k12.is X
  · intro p q v hv
    unfold wayAt wayRows at hv
    simp only [List.find?_cons] at hv
    repeat' split at hv
    all_goals first
      | (rename_i c; obtain ⟨rfl, rfl⟩ := of_decide_eq_true c; cases hv; exact ⟨_, _, rfl⟩)
      | cases hv

theorem wayAt_lies {a b c d : Int} (h1 : a < b) (h2 : c < d) : wayAt (placeOf a c d) (placeOf b c d) = some ((Kcz9.lies ⟨a, b⟩ ⟨c, d⟩ : Nat) : Int) := by
  unfold Kcz9.lies placeOf
  dsimp only
  repeat' split
  all_goals first | omega | rfl

def spBetween (K : PySem.W.Frag) : Sp := fun vs H Q _ => ∃ (a b c d : Int) (p q : Addr), vs = [.ref p, .ref q] ∧ H p = some (.tup [.int a, .int b]) ∧ H q = some (.tup [.int c, .int d]) ∧ a < b ∧ c < d ∧
  ∀ H', Same H H' → Q (.int ((Kcz9.lies ⟨a, b⟩ ⟨c, d⟩ : Nat) : Int)) H'
section
variable {P : Program} {w : World} {K : PySem.W.Frag} {mg : Str → Option Value} {base : Heap}
theorem scBetween : FnScope ["one", "other"] ["one", "other"] (defScope sBetween) := ⟨rfl, rfl, rfl, by decide +kernel, rfl, by decide +kernel, by decide +kernel⟩
theorem ok_between {f g d : Addr} {fd gd : FuncData} (F : Fun K "way_between" "way_between" sBetween f fd) (G : Fun K "place_of" "place_of" sPlace g gd) (bG : Binds K gd ["number", "span"] []) (mG : mg "place_of" = some (.ref g))
    (mD : mg "WAY_BY_PLACES" = some (.ref d)) (T : KTab K d wayAt) : FnOk P w K mg base CX0 2 f fd ["one", "other"] (spBetween K) := by
  have OG : FnOk P w K mg base CX0 1 g gd ["number", "span"] (spPlace K) := ok_place G
  refine F.ok scBetween (fun vs H Q E h => ?_) (fun cdv A outer s H vs Q E hr h => ?_)
  · obtain ⟨_, _, _, _, _, _, rfl, _⟩ := h
    rfl
  · obtain ⟨a, b, c, e, p, q, rfl, hp, hq, h1, h2, k⟩ := h
    refine ⟨_, pss_one (ps_ret (pe_ktab wayAt (hu_of hr) (pe_glob (v := .ref d) rfl mD rfl) (pe_tup (pa_cons (pe_call OG hr rfl mG G.kp bG .nil pass0 (pa_cons (pe_ix ix_tup (pv 0) pe_int (fun _ _ => rfl)) (pa_cons (pv 1) pa_nil)))
      (pa_cons (pe_call OG hr rfl mG G.kp bG .nil pass0 (pa_cons (pe_ix ix_tup (pv 0) pe_int (fun _ _ => rfl)) (pa_cons (pv 1) pa_nil))) pa_nil))) (fun _ _ => rfl))), ?_⟩
    have i0 : atI [V.int a, V.int b] 0 = some (.int a) := atI_nat (j := 0) rfl
    have i1 : atI [V.int a, V.int b] 1 = some (.int b) := atI_nat (j := 1) rfl
    refine ⟨_, rfl, p, _, _, _, rfl, rfl, SqT.of hp, i0, _, rfl, a, c, e, q, rfl, SqT.of hq, ?_⟩
    refine ⟨_, rfl, p, _, _, _, rfl, rfl, SqT.of hp, i1, _, rfl, b, c, e, q, rfl, SqT.of hq, ?_⟩
    refine ⟨by show 2 ≤ sizeLine; decide, fun t ht => ?_⟩
    refine ⟨d, t, _, _, _, rfl, T, rfl, upd_same, wayAt_lies h1 h2, ?_⟩
    exact k _ fun x o hx => by rw [upd_ne (ne_of_none hx ht)]; exact hx
end
end Sv
/-! ways_in, turned_ways. -/
namespace Sv
open PySem PySem.Spec PyProof.Rows L2

/-! ### words for all -/
def natV (n : Nat) : V := .int (n : Int)
theorem map_at {α : Type} {g : α → V} {l : List α} {i : Nat} {y : V} (h : (l.map g)[i]? = some y) : ∃ z, l[i]? = some z ∧ y = g z := by
  rw [List.getElem?_map] at h
  cases e : l[i]? with
  | none => rw [e] at h; cases h
  | some z => rw [e] at h; exact ⟨z, rfl, (Option.some.inj h).symm⟩
theorem at_map {α : Type} {g : α → V} {l : List α} {i : Nat} {z : α} (h : l[i]? = some z) : (l.map g)[i]? = some (g z) := by
  rw [List.getElem?_map, h]
  rfl
theorem take_snoc {α : Type} {l : List α} {i : Nat} {x : α} (h : l[i]? = some x) : l.take (i + 1) = l.take i ++ [x] := by
  rw [List.take_add_one, h]
  rfl
theorem same_new {H : Hp} {p : Addr} {o : HO} (h : H p = none) : Same H (upd H p o) := fun b u e => by
  rw [upd_ne (ne_of_none e h)]
  exact e
/-- what stands at a new place may change -/
theorem same_at {H H' : Hp} {p : Addr} {o : HO} (s : Same H H') (h : H p = none) : Same H (upd H' p o) := fun b u e => by
  rw [upd_ne (ne_of_none e h)]
  exact s b u e
theorem truthy_int {K : PySem.W.Frag} {i : Int} {H : Hp} : TruV K (.int i) H (i != 0) := rfl
theorem line_le {n : Nat} (h : n ≤ 1000000) : n ≤ sizeLine := by
  rw [sizeLine_eq]
  omega
theorem line_lt {n : Nat} (h : n ≤ 1000000) : n < sizeLine := by
  rw [sizeLine_eq]
  omega

/-! ### bits of whole numbers -/
theorem shr_nat (s k : Nat) : (s : Int) / 2 ^ ((k : Int).toNat) = ((s / 2 ^ k : Nat) : Int) := by
  rw [Int.toNat_natCast]
  norm_cast
theorem bit_int (s k : Nat) : (Builtin.bitAnd ((s : Int) / 2 ^ ((k : Int).toNat)) 1 != 0) = Kcz9.bit s k := by
  rw [shr_nat, bitAnd_m1]
  unfold Kcz9.bit
  rw [Bool.eq_iff_iff, bne_iff_ne, beq_iff_eq]
  omega
theorem or_nat (a b : Nat) : Builtin.bitOr (a : Int) (b : Int) = ((a ||| b : Nat) : Int) := Bits.bitOr_pp (Int.natCast_nonneg a) (Int.natCast_nonneg b)
theorem and_nat (a b : Nat) : Builtin.bitAnd (a : Int) (b : Int) = ((a &&& b : Nat) : Int) := bitAnd_pp (Int.natCast_nonneg a) (Int.natCast_nonneg b)
theorem shl_nat (k : Nat) : (1 : Int) * 2 ^ ((k : Int).toNat) = ((2 ^ k : Nat) : Int) := by
  rw [Int.toNat_natCast, Int.one_mul]
  norm_cast
theorem fold_or {α : Type} (g : α → Nat) (k : Nat) : ∀ (l : List α) (a : Nat), (l.foldl (fun acc w => acc ||| g w) a).testBit k = (a.testBit k || l.any fun w => (g w).testBit k)
  | [], a => by simp
  | w :: l, a => by
    rw [List.foldl_cons, fold_or g k l, Nat.testBit_or, List.any_cons, Bool.or_assoc]

theorem turned_fold (s : Nat) : (waysIn s).foldl (fun acc w => acc ||| 2 ^ (12 - w)) 0 = Kcz9.turned s := by
  apply Nat.eq_of_testBit_eq
  intro k
  rw [fold_or, Nat.zero_testBit, Bool.false_or]
  unfold Kcz9.turned
  rw [testBit_setOf, Bool.eq_iff_iff, List.any_eq_true, Bool.and_eq_true, decide_eq_true_iff]
  constructor
  · rintro ⟨w, hw, h⟩
    obtain ⟨h1, h2⟩ := mem_waysIn.mp hw
    rw [Nat.testBit_two_pow, decide_eq_true_iff] at h
    subst h
    refine ⟨by omega, ?_⟩
    rw [show 12 - (12 - w) = w by omega]
    exact h2
  · rintro ⟨h1, h2⟩
    refine ⟨12 - k, mem_waysIn.mpr ⟨by omega, h2⟩, ?_⟩
    rw [Nat.testBit_two_pow, decide_eq_true_iff]
    omega
theorem waysIn_length (s : Nat) : (waysIn s).length ≤ 13 := by
  unfold waysIn
  exact Nat.le_trans (List.length_filter_le _ _) (by decide)

/-! ### tests and reads within a comprehension: the written part named, so that nothing hangs on the block -/
def tTru (K : PySem.W.Frag) (ta : TE) : TT := fun σ H Q => ta σ H fun x H' => ∃ k, TruV K x H' k ∧ Q k H'
theorem pt_tru {X : Cx} {a : Expr} {ta : TE} (K : PySem.W.Frag) (hK : X.K = K) (ha : PE X a ta) (ht : ∀ (whole : Sem Value), PySem.isTrue a X.env whole = do
    let v ← whole
    standAt a.pos
    holding [v] (truthy v)) : PT X a (tTru K ta) := by
  subst hK
  exact pt_truth ha ht
theorem pe_ixL {X : Cx} {a b : Expr} {ta tb : TE} {pos : Pos} (K : PySem.W.Frag) (hK : X.K = K) (ha : PE X a ta) (hb : PE X b tb) (hs : PlainIx b) : PE X (.Subscript a b pos) (tOp (rIxL K) ta tb) := by
  subst hK
  exact pe_ix ix_list ha hb hs

/-! ### what the module's names hold -/
structure Glo (mg : Str → Option Value) : Prop where
  last : ∃ t, mg "LAST_WAY" = some (.int 12 t)
  all : ∃ t, mg "ALL_WAYS" = some (.int 8191 t)
  range : mg "range" = none
  len : mg "len" = none
  min : mg "min" = none
  max : mg "max" = none
  list : mg "list" = none

def spIn : Sp := fun vs H Q _ => ∃ s : Nat, vs = [natV s] ∧ ∀ H' p, Same H H' → H p = none → H' p = some (.lst ((waysIn s).map natV)) → Q (.ref p) H'
def spTurned : Sp := fun vs H Q _ => ∃ s : Nat, vs = [natV s] ∧ ∀ H', Same H H' → Q (natV (Kcz9.turned s)) H'

section
variable {P : Program} {w : World} {K : PySem.W.Frag} {mg : Str → Option Value} {base : Heap}
theorem scIn : FnScope ["ways", "way"] ["ways"] (defScope sIn) := ⟨rfl, rfl, rfl, by decide +kernel, rfl, by decide +kernel, by decide +kernel⟩
theorem ok_in {f : Addr} {fd : FuncData} (F : Fun K "ways_in" "ways_in" sIn f fd) (M : Glo mg) : FnOk P w K mg base CX0 1 f fd ["ways"] spIn := by
  refine F.ok scIn (fun vs H Q E h => ?_) (fun cdv A outer s H vs Q E hr h => ?_)
  · obtain ⟨_, rfl, _⟩ := h
    rfl
  · obtain ⟨n, rfl, k⟩ := h
    obtain ⟨tl, hl⟩ := M.last
    refine ⟨_, pss_one (ps_ret (pe_lc (own := [("way", 1)]) (g := gName 1) rfl scIn.nd (pi_range1 rfl M.range (pa_cons (pe_op op_add (pe_glob (v := .int 12) rfl hl ⟨_, rfl⟩) pe_int) pa_nil))
      (blkOk_by (own := [("way", 1)]) (N := ["ways", "way"]) (sc := defScope sIn) (by decide +kernel)) (fun _ _ _ _ _ => pg_name (i := 1) scIn.nd rfl (Or.inl rfl))
      (fun _ _ _ _ _ => pts_one (pt_tru K rfl (pe_op op_and (pe_op op_shr (pv 0) (pv 1)) pe_int) (by intro _; rfl))) (fun _ _ _ _ _ => pv 1))), ?_⟩
    refine ⟨_, _, rfl, rfl, 13, rfl, by decide, by decide, fun D hD => ?_⟩
    refine lc_range (lo := 0) (n := 13) (fun i H' => Same H H' ∧ H' D = some (.lst (((List.range i).filter (Kcz9.bit n)).map natV))) ⟨same_new hD, upd_same⟩ ?_ ?_
    · rintro i H1 hi ⟨s1, e1⟩
      refine ⟨rfl, _, rfl, _, rfl, (n : Int), (i : Int), rfl, by show V.int (0 + (i : Int)) = _; rw [Int.zero_add], Int.natCast_nonneg i, _, _, rfl, rfl, _, truthy_int, ?_⟩
      rw [bit_int]
      have hr1 : List.range (i + 1) = List.range i ++ [i] := List.range_succ
      cases hb : Kcz9.bit n i with
      | true =>
        refine iteT ⟨_, rfl, _, e1, ?_, ?_, ?_⟩
        · rw [List.length_map]
          have := List.length_filter_le (Kcz9.bit n) (List.range i)
          rw [List.length_range] at this
          exact line_lt (by omega)
        · exact same_at s1 hD
        · rw [upd_same, hr1, List.filter_append, List.map_append]
          have : List.filter (Kcz9.bit n) [i] = [i] := by simp [hb]
          rw [this]
          show some (HO.lst (_ ++ [V.int (0 + (i : Int))])) = _
          rw [Int.zero_add]
          rfl
      | false =>
        refine iteF ⟨s1, ?_⟩
        rw [hr1, List.filter_append]
        have : List.filter (Kcz9.bit n) [i] = [] := by simp [hb]
        rw [this, List.append_nil]
        exact e1
    · rintro H1 ⟨s1, e1⟩
      exact k _ D s1 hD e1

theorem scTurned : FnScope ["ways", "turned", "way"] ["ways"] (defScope sTurned) := ⟨rfl, rfl, rfl, by decide +kernel, rfl, by decide +kernel, by decide +kernel⟩
theorem ok_turned {f g : Addr} {fd gd : FuncData} (F : Fun K "turned_ways" "turned_ways" sTurned f fd) (G : Fun K "ways_in" "ways_in" sIn g gd) (bG : Binds K gd ["ways"] []) (mG : mg "ways_in" = some (.ref g)) (M : Glo mg) :
    FnOk P w K mg base CX0 2 f fd ["ways"] spTurned := by
  have OG : FnOk P w K mg base CX0 1 g gd ["ways"] spIn := ok_in G M
  refine F.ok scTurned (fun vs H Q E h => ?_) (fun cdv A outer s H vs Q E hr h => ?_)
  · obtain ⟨_, rfl, _⟩ := h
    rfl
  · obtain ⟨n, rfl, k⟩ := h
    obtain ⟨tl, hl⟩ := M.last
    have nd := scTurned.nd
    refine ⟨_, pss_cons (ps_set (i := 1) nd rfl (Or.inl rfl) pe_int)
      (pss_cons (ps_for PassesOwn.never rfl (pi_list (pe_call OG hr rfl mG G.kp bG .nil pass0 (pa_cons (pv 0) pa_nil))) (pg_name (i := 2) nd rfl (Or.inl rfl))
        (pss_one (ps_set (i := 1) nd rfl (Or.inl rfl) (pe_op op_or (pv 1) (pe_op op_shl pe_int (pe_op op_sub (pe_glob (v := .int 12) rfl hl ⟨_, rfl⟩) (pv 2)))))))
      (pss_one (ps_ret (pv 1)))), ?_⟩
    refine ⟨_, rfl, n, rfl, fun H1 p s1 np e1 => ?_⟩
    refine ⟨p, rfl, ⟨_, SqL.of e1⟩, for_list (K := K) (a := p) (xs := (waysIn n).map natV) (fun i σ H' => ∃ v : Option V, σ = [some (natV n), some (natV (((waysIn n).take i).foldl (fun acc w => acc ||| 2 ^ (12 - w)) 0)), v] ∧ Same H1 H')
      ⟨none, rfl, Same.refl _⟩ (fun i σ H' _ ⟨_, _, s5⟩ => s5.seq (SqL.of e1)) ?_ ?_⟩
    · rintro i y σ H' hi ⟨v, rfl, s5⟩
      obtain ⟨z, hz, rfl⟩ := map_at hi
      have hz13 : z < 13 := (mem_waysIn.mp (List.mem_of_getElem? hz)).1
      refine ⟨_, rfl, _, rfl, _, _, rfl, rfl, 1, ((12 - z : Nat) : Int), rfl, ?_, ?_, ?_⟩
      · show V.int ((12 : Int) - (z : Int)) = _
        congr 1
        omega
      · refine ⟨Int.natCast_nonneg _, by omega, by decide⟩
      · refine ⟨_, _, rfl, rfl, ⟨some (natV z), ?_, s5⟩⟩
        dsimp only [List.set]
        rw [shl_nat, or_nat, take_snoc hz, List.foldl_append]
        rfl
    · rintro σ H' ⟨v, rfl, s5⟩
      rw [List.length_map, List.take_length]
      refine ⟨_, rfl, ?_⟩
      rw [turned_fold]
      exact k _ (s1.trans s5)
end
end Sv
/-! spans_within, ways_among. -/
namespace Sv
open PySem PySem.Spec PyProof.Rows L2

/-! ### lists of things -/
def LRel {α : Type} (R : Hp → V → α → Prop) (H : Hp) (vs : List V) (l : List α) : Prop := vs.length = l.length ∧ ∀ (i : Nat) (x : α), l[i]? = some x → ∃ v, vs[i]? = some v ∧ R H v x
theorem LRel.nil {α : Type} {R : Hp → V → α → Prop} {H : Hp} : LRel R H [] [] := ⟨rfl, fun i x h => by simp at h⟩
theorem LRel.snoc {α : Type} {R : Hp → V → α → Prop} {H : Hp} {vs : List V} {l : List α} {v : V} {x : α} (h : LRel R H vs l) (r : R H v x) : LRel R H (vs ++ [v]) (l ++ [x]) := by
  refine ⟨by rw [List.length_append, List.length_append, h.1]; rfl, fun i y e => ?_⟩
  by_cases c : i < l.length
  · rw [List.getElem?_append_left c] at e
    obtain ⟨u, h1, h2⟩ := h.2 i y e
    exact ⟨u, by rw [List.getElem?_append_left (by rw [h.1]; exact c)]; exact h1, h2⟩
  · rw [List.getElem?_append_right (by omega)] at e
    have : i - l.length = 0 := by
      cases z : i - l.length with
      | zero => rfl
      | succ n => rw [z] at e; simp at e
    have e2 : i = l.length := by omega
    subst e2
    rw [Nat.sub_self] at e
    cases e
    exact ⟨v, by rw [List.getElem?_append_right (by rw [h.1]; exact Nat.le_refl _), h.1, Nat.sub_self]; rfl, r⟩
theorem LRel.mono {α : Type} {R : Hp → V → α → Prop} {H H' : Hp} {vs : List V} {l : List α} (h : LRel R H vs l) (m : ∀ v x, R H v x → R H' v x) : LRel R H' vs l :=
  ⟨h.1, fun i x e => let ⟨v, h1, h2⟩ := h.2 i x e; ⟨v, h1, m v x h2⟩⟩
theorem LRel.at {α : Type} {R : Hp → V → α → Prop} {H : Hp} {vs : List V} {l : List α} (h : LRel R H vs l) {i : Nat} {v : V} (e : vs[i]? = some v) : ∃ x, l[i]? = some x ∧ R H v x := by
  have hi : i < l.length := by rw [← h.1]; exact (List.getElem?_eq_some_iff.mp e).1
  obtain ⟨u, h1, h2⟩ := h.2 i l[i] (List.getElem?_eq_getElem hi)
  rw [e] at h1
  cases h1
  exact ⟨_, List.getElem?_eq_getElem hi, h2⟩
def rPair (H : Hp) (v : V) (x : Nat × Nat) : Prop := ∃ a, v = .ref a ∧ H a = some (.tup [natV x.1, natV x.2])
def rRow (H : Hp) (v : V) (l : List Nat) : Prop := ∃ a, v = .ref a ∧ H a = some (.lst (l.map natV))
theorem rPair.same {H H' : Hp} (s : Same H H') (v : V) (x : Nat × Nat) : rPair H v x → rPair H' v x := fun ⟨a, e, h⟩ => ⟨a, e, s _ _ h⟩
theorem rRow.same {H H' : Hp} (s : Same H H') (v : V) (x : List Nat) : rRow H v x → rRow H' v x := fun ⟨a, e, h⟩ => ⟨a, e, s _ _ h⟩
/-- a list grows; pairs stand -/
theorem rPair.grow {H : Hp} {p : Addr} {us : List V} {o : HO} (hp : H p = some (.lst us)) (v : V) (x : Nat × Nat) : rPair H v x → rPair (upd H p o) v x := fun ⟨a, e, h⟩ => ⟨a, e, by
  rw [upd_ne (ne_of h hp (by intro z; cases z))]
  exact h⟩

/-! ### spans_within -/
def row1 (last b n : Nat) : List (Nat × Nat) := (List.range n).map fun j => (b, b + 1 + j)
def within (last n : Nat) : List (Nat × Nat) := (List.range n).flatMap fun b => row1 last b (last - b)
theorem row1_succ (last b n : Nat) : row1 last b (n + 1) = row1 last b n ++ [(b, b + 1 + n)] := by
  unfold row1
  rw [List.range_succ, List.map_append]
  rfl
theorem within_succ (last n : Nat) : within last (n + 1) = within last n ++ row1 last n (last - n) := by
  unfold within
  rw [List.range_succ, List.flatMap_append]
  simp
theorem row1_length (last b n : Nat) : (row1 last b n).length = n := by simp [row1]
theorem within_length (last : Nat) : ∀ n, (within last n).length ≤ n * last
  | 0 => by simp [within]
  | n + 1 => by
    rw [within_succ, List.length_append, row1_length, Nat.succ_mul]
    have := within_length last n
    omega
theorem within_up {last n : Nat} {x : Nat × Nat} (h : x ∈ within last n) : x.1 < x.2 ∧ x.2 ≤ last := by
  unfold within at h
  obtain ⟨b, hb, h⟩ := List.mem_flatMap.mp h
  unfold row1 at h
  obtain ⟨j, hj, rfl⟩ := List.mem_map.mp h
  have := List.mem_range.mp hj
  exact ⟨by show b < b + 1 + j; omega, by show b + 1 + j ≤ last; omega⟩

def spWithin : Sp := fun vs H Q _ => ∃ last : Nat, vs = [natV last] ∧ last ≤ 100 ∧ ∀ H' p us, Same H H' → H p = none → H' p = some (.lst us) → LRel rPair H' us (within last last) → Q (.ref p) H'

section
variable {P : Program} {w : World} {K : PySem.W.Frag} {mg : Str → Option Value} {base : Heap}
theorem scWithin : FnScope ["last", "spans", "begin", "end"] ["last"] (defScope sWithin) := ⟨rfl, rfl, rfl, by decide +kernel, rfl, by decide +kernel, by decide +kernel⟩
theorem ok_within {f : Addr} {fd : FuncData} (F : Fun K "spans_within" "spans_within" sWithin f fd) (M : Glo mg) : FnOk P w K mg base CX0 1 f fd ["last"] spWithin := by
  refine F.ok scWithin (fun vs H Q E h => ?_) (fun cdv A outer s H vs Q E hr h => ?_)
  · obtain ⟨_, rfl, _⟩ := h
    rfl
  · obtain ⟨last, rfl, hl, k⟩ := h
    have nd := scWithin.nd
    refine ⟨_, pss_cons (ps_set (i := 1) nd rfl (Or.inl rfl) (pe_lst pa_nil))
      (pss_cons (ps_for PassesOwn.never rfl (pi_range1 rfl M.range (pa_cons (pv 0) pa_nil)) (pg_name (i := 2) nd rfl (Or.inl rfl))
        (pss_one (ps_for PassesOwn.never rfl (pi_range2 rfl M.range (pa_cons (pe_op op_add (pv 2) pe_int) (pa_cons (pe_op op_add (pv 0) pe_int) pa_nil))) (pg_name (i := 3) nd rfl (Or.inl rfl))
          (pss_one (ps_expr (pe_bm PySem.F.plainAttrs_list PySem.F.slot_list_append PySem.F.type_list_append mt_append (pv 1) (pa_cons (pe_tup (pa_cons (pv 2) (pa_cons (pv 3) pa_nil))) pa_nil)))))))
      (pss_one (ps_ret (pv 1)))), ?_⟩
    refine ⟨by decide, fun p np => ?_⟩
    refine ⟨_, rfl, (last : Int), rfl, by omega, by omega, for_range (lo := 0) (n := last) (fun i σ H' => ∃ (v1 v2 : Option V) (us : List V), σ = [some (natV last), some (.ref p), v1, v2] ∧ Same H H' ∧ H' p = some (.lst us) ∧ LRel rPair H' us (within last i))
      ⟨none, none, [], rfl, same_new np, upd_same, LRel.nil⟩ ?_ ?_⟩
    · rintro i σ H1 hi ⟨v1, v2, us, rfl, s1, e1, r1⟩
      refine ⟨_, rfl, _, _, rfl, rfl, _, rfl, _, _, rfl, rfl, (i : Int) + 1, (last : Int) + 1, ?_, ⟨by omega, by omega, by omega, by omega⟩, ?_⟩
      · show [V.int (0 + (i : Int) + 1), V.int ((last : Int) + 1)] = _
        rw [Int.zero_add]
      · have en : ((last : Int) + 1 - ((i : Int) + 1)).toNat = last - i := by omega
        rw [en]
        refine for_range (lo := (i : Int) + 1) (n := last - i) (fun j σ H' => ∃ (v2 : Option V) (us : List V), σ = [some (natV last), some (.ref p), some (natV i), v2] ∧ Same H H' ∧ H' p = some (.lst us) ∧ LRel rPair H' us (within last i ++ row1 last i j))
          ⟨v2, us, ?_, s1, e1, ?_⟩ ?_ ?_
        · show [_, _, some (V.int (0 + (i : Int))), _] = _
          rw [Int.zero_add]
          rfl
        · have : row1 last i 0 = [] := rfl
          rw [this, List.append_nil]
          exact r1
        · rintro j σ H2 hj ⟨v2', us2, rfl, s2, e2, r2⟩
          refine ⟨_, rfl, .inl ⟨rfl, _, SqL.of e2⟩, _, rfl, _, rfl, (by show 2 ≤ sizeLine; decide), fun t nt => ?_⟩
          have pt : p ≠ t := ne_of_none e2 nt
          have e3 : upd H2 t (.tup [natV i, .int ((i : Int) + 1 + j)]) p = some (.lst us2) := by rw [upd_ne pt]; exact e2
          refine ⟨p, _, _, rfl, rfl, e3, ?_, ?_⟩
          · have h1 := within_length last i
            have h2 : i * last ≤ 100 * 100 := Nat.mul_le_mul (by omega) hl
            rw [r2.1, List.length_append, row1_length]
            exact line_lt (by omega)
          · refine ⟨_, _, rfl, same_at (same_at s2 (s2.free nt)) np, upd_same, ?_⟩
            rw [row1_succ, ← List.append_assoc]
            refine LRel.snoc ((r2.mono (rPair.same (same_new nt))).mono (rPair.grow e3)) ⟨t, rfl, ?_⟩
            rw [upd_ne pt.symm, upd_same]
            show some (HO.tup [V.int (i : Int), V.int ((i : Int) + 1 + (j : Int))]) = some (HO.tup [V.int (i : Int), V.int ((i + 1 + j : Nat) : Int)])
            rw [Int.natCast_add, Int.natCast_add]
            rfl
        · rintro σ H2 ⟨v2', us2, rfl, s2, e2, r2⟩
          exact ⟨_, _, _, rfl, s2, e2, by rw [within_succ]; exact r2⟩
    · rintro σ H1 ⟨v1, v2, us, rfl, s1, e1, r1⟩
      exact ⟨_, rfl, k _ p us s1 np e1 r1⟩
end

/-! ### ways_among -/
/-- a comprehension without a test -/
theorem yes_of {σ : L2.St} {H : Hp} {A B : Hp → Prop} (h : A H) : tYes σ H fun b H' => if b = true then A H' else B H' := by
  show if true = true then A H else B H
  rw [if_pos rfl]
  exact h

def spn (x : Nat × Nat) : Kcz9.Span := ⟨(x.1 : Int), (x.2 : Int)⟩
def ways1 (x : Nat × Nat) (l : List (Nat × Nat)) : List Nat := l.map fun y => Kcz9.lies (spn x) (spn y)
def among (l m : List (Nat × Nat)) : List (List Nat) := m.map fun x => ways1 x l

def spAmong (K : PySem.W.Frag) : Sp := fun vs H Q _ => ∃ (p : Addr) (us : List V) (l : List (Nat × Nat)), vs = [.ref p] ∧ H p = some (.lst us) ∧ LRel rPair H us l ∧ (∀ x ∈ l, x.1 < x.2) ∧ l.length ≤ 1000 ∧
  ∀ H' q ws, Same H H' → H q = none → H' q = some (.lst ws) → LRel rRow H' ws (among l l) → Q (.ref q) H'
theorem rRow.grow {H : Hp} {p : Addr} {o : HO} {v : V} {x : List Nat} (hp : v ≠ .ref p) : rRow H v x → rRow (upd H p o) v x := fun ⟨a, e, h⟩ => ⟨a, e, by
  rw [upd_ne (fun z => hp (by rw [e, z]))]
  exact h⟩

section
variable {P : Program} {w : World} {K : PySem.W.Frag} {mg : Str → Option Value} {base : Heap}
theorem scAmong : FnScope ["spans", "rows", "one", "other"] ["spans"] (defScope sAmong) := ⟨rfl, rfl, rfl, by decide +kernel, rfl, by decide +kernel, by decide +kernel⟩
theorem ok_among {f g : Addr} {fd gd : FuncData} (F : Fun K "ways_among" "ways_among" sAmong f fd) (OG : FnOk P w K mg base CX0 2 g gd ["one", "other"] (spBetween K)) (kG : PySem.W.keepIn K (.ref g) = true) (bG : Binds K gd ["one", "other"] []) (mG : mg "way_between" = some (.ref g)) :
    FnOk P w K mg base CX0 3 f fd ["spans"] (spAmong K) := by
  refine F.ok scAmong (fun vs H Q E h => ?_) (fun cdv A outer s H vs Q E hr h => ?_)
  · obtain ⟨_, _, _, rfl, _⟩ := h
    rfl
  · obtain ⟨p, us, l, rfl, hp, hL, hlt, hlen, k⟩ := h
    have nd := scAmong.nd
    have hr2 : Room 2 _ := hr
    refine ⟨_, pss_cons (ps_set (i := 1) nd rfl (Or.inl rfl) (pe_lst pa_nil))
      (pss_cons (ps_for PassesOwn.never rfl (pi_list (pv 0)) (pg_name (i := 2) nd rfl (Or.inr rfl))
        (pss_one (ps_expr (pe_bm PySem.F.plainAttrs_list PySem.F.slot_list_append PySem.F.type_list_append mt_append (pv 1) (pa_cons
          (pe_lc (own := [("other", 3)]) (g := gName 3) rfl nd (pi_list (pv 0)) (blkOk_by (own := [("other", 3)]) (N := ["spans", "rows", "one", "other"]) (sc := defScope sAmong) (by decide +kernel))
            (fun _ _ _ _ _ => pg_name (i := 3) nd rfl (Or.inl rfl)) (fun _ _ _ _ _ => pts_nil)
            (fun _ _ _ _ _ => pe_call OG hr2 rfl mG kG bG .nil pass0 (pa_cons (pv 2) (pa_cons (pv 3) pa_nil)))) pa_nil)))))
      (pss_one (ps_ret (pv 1)))), ?_⟩
    refine ⟨by decide, fun q nq => ?_⟩
    have pq : p ≠ q := ne_of_none hp nq
    have lenU : us.length ≤ 1000 := by rw [hL.1]; exact hlen
    refine ⟨_, rfl, p, rfl, ⟨_, SqL.of (by rw [upd_ne pq]; exact hp)⟩, for_list (K := K) (a := p) (xs := us) (fun i σ H' => ∃ (v1 v2 : Option V) (ws : List V), σ = [some (.ref p), some (.ref q), v1, v2] ∧ Same H H' ∧ H' q = some (.lst ws) ∧ (∀ v ∈ ws, v ≠ .ref q) ∧ LRel rRow H' ws (among l (l.take i)))
      ⟨none, none, [], rfl, same_new nq, upd_same, fun v hv => (List.not_mem_nil hv).elim, LRel.nil⟩ (fun i σ H' _ ⟨_, _, _, _, s5, _⟩ => SqL.of (s5 _ _ hp)) ?_ ?_⟩
    · rintro i y σ H1 hi ⟨v1, v2, ws, rfl, s1, e1, n1, r1⟩
      obtain ⟨x, hx, a, rfl, ha⟩ := hL.at hi
      have hxl : x ∈ l := List.mem_of_getElem? hx
      refine ⟨_, rfl, .inl ⟨rfl, _, SqL.of e1⟩, _, rfl, p, rfl, ⟨_, SqL.of (s1 _ _ hp)⟩, fun D hD => ?_⟩
      have pD : q ≠ D := ne_of_none e1 hD
      refine lc_list (K := K) (a := p) (xs := us) (fun j H' => Same H1 H' ∧ H' D = some (.lst ((ways1 x (l.take j)).map natV))) ⟨same_new hD, upd_same⟩ (fun j H' _ ⟨s5, _⟩ => SqL.of (s5 _ _ (s1 _ _ hp))) ?_ ?_
      · rintro j z H2 hj ⟨s2, e2⟩
        obtain ⟨y2, hy, b, rfl, hb⟩ := hL.at hj
        have hyl : y2 ∈ l := List.mem_of_getElem? hy
        refine ⟨rfl, ?_⟩
        refine yes_of ?_
        refine ⟨_, rfl, _, rfl, _, _, _, _, a, b, rfl, s2 _ _ (s1 _ _ ha), s2 _ _ (s1 _ _ hb), by exact Int.ofNat_lt.mpr (hlt _ hxl), by exact Int.ofNat_lt.mpr (hlt _ hyl), fun H3 s3 => ?_⟩
        refine ⟨_, s3 _ _ e2, ?_, same_at (s2.trans s3) hD, ?_⟩
        · rw [List.length_map]
          unfold ways1
          rw [List.length_map, List.length_take]
          exact line_lt (by omega)
        · rw [upd_same, take_snoc hy]
          unfold ways1
          rw [List.map_append, List.map_append]
          rfl
      · rintro H2 ⟨s2, e2⟩
        have e3 := s2 _ _ e1
        have hfull : l.take us.length = l := by rw [hL.1, List.take_length]
        rw [hfull] at e2
        refine ⟨q, _, _, rfl, rfl, e3, ?_, ?_⟩
        · rw [r1.1]
          unfold among
          rw [List.length_map, List.length_take]
          exact line_lt (by omega)
        · refine ⟨_, _, _, rfl, same_at (s1.trans s2) nq, upd_same, ?_, ?_⟩
          · intro v hv
            rcases List.mem_append.mp hv with hv | hv
            · exact n1 v hv
            · rw [List.mem_singleton] at hv
              subst hv
              intro z
              exact pD (V.ref.inj z).symm
          · rw [take_snoc hx]
            unfold among
            rw [List.map_append]
            refine LRel.snoc ⟨r1.1, fun j z hz => ?_⟩ ⟨D, rfl, ?_⟩
            · obtain ⟨v, hv, rv⟩ := r1.2 j z hz
              exact ⟨v, hv, rRow.grow (n1 v (List.mem_of_getElem? hv)) (rRow.same s2 _ _ rv)⟩
            · rw [upd_ne pD.symm]
              exact e2
    · rintro σ H1 ⟨v1, v2, ws, rfl, s1, e1, n1, r1⟩
      refine ⟨_, rfl, k _ q ws s1 nq e1 ?_⟩
      rw [hL.1, List.take_length] at r1
      exact r1
end
end Sv
/-! ways_one_behind_another. -/
namespace Sv
open PySem PySem.Spec PyProof.Rows L2

def r2 (R : List (List Nat)) (i j : Nat) : Nat := (R.getD i []).getD j 0
def upTab (t : List (List Nat)) (o : Nat × Nat × Nat) : List (List Nat) := t.set o.1 ((t.getD o.1 []).set o.2.1 (r2 t o.1 o.2.1 ||| 2 ^ o.2.2))
def zero13 : List (List Nat) := List.replicate 13 (List.replicate 13 0)
def W5 : List (Nat × Nat) := within 5 5
def R5 : List (List Nat) := among W5 W5
def ops1 (x y n : Nat) : List (Nat × Nat × Nat) := (List.range n).map fun z => (r2 R5 x y, r2 R5 y z, r2 R5 x z)
def ops2 (x n : Nat) : List (Nat × Nat × Nat) := (List.range n).flatMap fun y => ops1 x y 15
def ops3 (n : Nat) : List (Nat × Nat × Nat) := (List.range n).flatMap fun x => ops2 x 15
theorem ops1_succ (x y n : Nat) : ops1 x y (n + 1) = ops1 x y n ++ [(r2 R5 x y, r2 R5 y n, r2 R5 x n)] := by
  unfold ops1
  rw [List.range_succ, List.map_append]
  rfl
theorem ops2_succ (x n : Nat) : ops2 x (n + 1) = ops2 x n ++ ops1 x n 15 := by
  unfold ops2
  rw [List.range_succ, List.flatMap_append]
  simp
theorem ops3_succ (n : Nat) : ops3 (n + 1) = ops3 n ++ ops2 n 15 := by
  unfold ops3
  rw [List.range_succ, List.flatMap_append]
  simp
def tabAfter (l : List (Nat × Nat × Nat)) : List (List Nat) := l.foldl upTab zero13
theorem tabAfter_snoc (l : List (Nat × Nat × Nat)) (o : Nat × Nat × Nat) : tabAfter (l ++ [o]) = upTab (tabAfter l) o := by
  unfold tabAfter
  rw [List.foldl_append]
  rfl
theorem tab_is : tabAfter (ops3 15) = T := by decide +kernel

/-! ### sizes -/
def Dim (t : List (List Nat)) : Prop := t.length = 13 ∧ ∀ i, i < 13 → (t.getD i []).length = 13
theorem getD_set {α : Type} {l : List α} {i j : Nat} {v d : α} : (l.set i v).getD j d = if i = j ∧ j < l.length then v else l.getD j d := by
  rw [List.getD_eq_getElem?_getD, List.getD_eq_getElem?_getD, List.getElem?_set]
  by_cases h : i = j
  · subst h
    by_cases hl : i < l.length
    · simp [hl]
    · simp [hl]
  · simp [h]
theorem Dim.up {t : List (List Nat)} (h : Dim t) (o : Nat × Nat × Nat) : Dim (upTab t o) := by
  refine ⟨by unfold upTab; rw [List.length_set]; exact h.1, fun i hi => ?_⟩
  unfold upTab
  rw [getD_set]
  split
  · rename_i c
    rw [List.length_set, c.1]
    exact h.2 i hi
  · exact h.2 i hi
theorem dim_zero : Dim zero13 := ⟨by decide, by decide⟩
theorem dim_after : ∀ (l : List (Nat × Nat × Nat)) (t : List (List Nat)), Dim t → Dim (l.foldl upTab t)
  | [], _, h => h
  | o :: l, t, h => dim_after l _ (h.up o)
theorem R5_len : R5.length = 15 := by decide +kernel
theorem R5_row : ∀ i, i < 15 → (R5.getD i []).length = 15 := by decide +kernel
theorem R5_lt : ∀ i, i < 15 → ∀ j, j < 15 → r2 R5 i j < 13 := by decide +kernel
theorem W5_up : ∀ x ∈ W5, x.1 < x.2 := fun _ h => (within_up h).1
theorem W5_len : W5.length = 15 := by decide +kernel

theorem row_at {l : List Nat} {j : Nat} (h : j < l.length) : (l.map natV)[j]? = some (natV (l.getD j 0)) := by
  rw [List.getElem?_map, List.getElem?_eq_getElem h, List.getD_eq_getElem?_getD, List.getElem?_eq_getElem h]
  rfl
theorem atI_row {l : List Nat} {j : Nat} (h : j < l.length) : atI (l.map natV) (j : Int) = some (natV (l.getD j 0)) := atI_nat (row_at h)
theorem ixN_nat' {n j : Nat} (hj : j < n) : ixN n (j : Int) = some j := by
  unfold ixN
  rw [if_pos (by omega), if_pos (by omega)]
  simp

/-- a table that may be changed, row by row: its own address, those of its rows -/
structure TabAt (H : Hp) (tb : Addr) (as : List Addr) (t : List (List Nat)) : Prop where
  tb : H tb = some (.lst (as.map V.ref))
  len : as.length = t.length
  nd : as.Nodup
  row : ∀ (i : Nat) (a : Addr), as[i]? = some a → H a = some (.lst ((t.getD i []).map natV))
theorem TabAt.same {H H' : Hp} {tb : Addr} {as : List Addr} {t : List (List Nat)} (h : TabAt H tb as t) (s : Same H H') : TabAt H' tb as t :=
  ⟨s _ _ h.tb, h.len, h.nd, fun i a e => s _ _ (h.row i a e)⟩
theorem TabAt.up {H : Hp} {tb : Addr} {as : List Addr} {t : List (List Nat)} (h : TabAt H tb as t) {i j b : Nat} {a : Addr} (hi : as[i]? = some a) (hne : tb ≠ a) :
    TabAt (upd H a (.lst (((t.getD i []).map natV).set j (natV (r2 t i j ||| 2 ^ b))))) tb as (upTab t (i, j, b)) := by
  have hil : i < t.length := by rw [← h.len]; exact (List.getElem?_eq_some_iff.mp hi).1
  refine ⟨by rw [upd_ne hne]; exact h.tb, by unfold upTab; rw [List.length_set]; exact h.len, h.nd, fun k c e => ?_⟩
  unfold upTab
  rw [getD_set]
  by_cases hk : i = k
  · subst hk
    rw [hi] at e
    cases e
    rw [if_pos ⟨rfl, hil⟩, upd_same, List.map_set]
  · rw [if_neg (fun z => hk z.1)]
    have hca : c ≠ a := fun z => hk (nd_ix h.nd hi (by rw [← z]; exact e))
    rw [upd_ne hca]
    exact h.row k c e

def spBehind : Sp := fun vs H Q _ => vs = [] ∧ ∀ H' q us, Same H H' → H q = none → H' q = some (.lst us) → LRel rRow H' us T → Q (.ref q) H'

section
variable {P : Program} {w : World} {K : PySem.W.Frag} {mg : Str → Option Value} {base : Heap}
theorem scBehind : FnScope ["rows", "table", "x_row", "y", "follow", "y_row", "z", "way"] [] (defScope sBehind) := ⟨rfl, rfl, rfl, by decide +kernel, rfl, by decide +kernel, by decide +kernel⟩
theorem ok_behind {f gA gW : Addr} {fd gdA gdW : FuncData} (F : Fun K "ways_one_behind_another" "ways_one_behind_another" sBehind f fd)
    (OA : FnOk P w K mg base CX0 3 gA gdA ["spans"] (spAmong K)) (kA : PySem.W.keepIn K (.ref gA) = true) (bA : Binds K gdA ["spans"] []) (mA : mg "ways_among" = some (.ref gA))
    (OW : FnOk P w K mg base CX0 1 gW gdW ["last"] spWithin) (kW : PySem.W.keepIn K (.ref gW) = true) (bW : Binds K gdW ["last"] []) (mW : mg "spans_within" = some (.ref gW)) (M : Glo mg) :
    FnOk P w K mg base CX0 4 f fd [] spBehind := by
  refine F.ok scBehind (fun vs H Q E h => ?_) (fun cdv A outer s H vs Q E hr h => ?_)
  · obtain ⟨rfl, _⟩ := h
    rfl
  · obtain ⟨rfl, k⟩ := h
    obtain ⟨tl, hl⟩ := M.last
    have nd := scBehind.nd
    have hr1 : Room 1 _ := hr.mono (by decide)
    have hr3 : Room 3 _ := hr
    refine ⟨_, pss_cons (ps_set (i := 0) nd rfl (Or.inl rfl) (pe_call OA hr3 rfl mA kA bA .nil pass0 (pa_cons (pe_call OW hr1 rfl mW kW bW .nil pass0 (pa_cons pe_int pa_nil)) pa_nil)))
      (pss_cons (ps_setLc (i := 1) (own := [("way", 7)]) (g := gName 7) rfl nd rfl rfl (sw_true rfl rfl rfl (by decide +kernel)) (pi_range1 rfl M.range (pa_cons (pe_op op_add (pe_glob (v := .int 12) rfl hl ⟨_, rfl⟩) pe_int) pa_nil))
          (blkOk_by (own := [("way", 7)]) (N := ["rows", "table", "x_row", "y", "follow", "y_row", "z", "way"]) (sc := defScope sBehind) (by decide +kernel))
          (fun _ _ _ _ _ => pg_name (i := 7) nd rfl (Or.inl rfl)) (fun _ _ _ _ _ => pts_nil)
          (fun _ _ _ _ _ => pe_op op_rep (pe_lst (pa_cons pe_int pa_nil)) (pe_op op_add (pe_glob (v := .int 12) rfl hl ⟨_, rfl⟩) pe_int)))
      (pss_cons (ps_for PassesOwn.never rfl (pi_list (pv 0)) (pg_name (i := 2) nd rfl (Or.inl rfl))
        (pss_one (ps_for PassesOwn.never rfl (pi_range1 rfl M.range (pa_cons (pe_callB call_len_seq (by rfl) M.len PySem.boot_len (pa_cons (pv 0) pa_nil)) pa_nil)) (pg_name (i := 3) nd rfl (Or.inl rfl))
          (pss_cons (ps_set (i := 4) nd rfl (Or.inl rfl) (pe_ix ix_list (pv 1) (pe_ix ix_list (pv 2) (pv 3) (fun _ _ => rfl)) (fun _ _ => rfl)))
          (pss_cons (ps_set (i := 5) nd rfl (Or.inl rfl) (pe_ix ix_list (pv 0) (pv 3) (fun _ _ => rfl)))
          (pss_one (ps_for PassesOwn.never rfl (pi_range1 rfl M.range (pa_cons (pe_callB call_len_seq (by rfl) M.len PySem.boot_len (pa_cons (pv 0) pa_nil)) pa_nil)) (pg_name (i := 6) nd rfl (Or.inl rfl))
            (pss_one (ps_asg (pe_op op_or (pe_ix ix_list (pv 4) (pe_ix ix_list (pv 5) (pv 6) (fun _ _ => rfl)) (fun _ _ => rfl)) (pe_op op_shl pe_int (pe_ix ix_list (pv 2) (pv 6) (fun _ _ => rfl))))
              (pg_sub (pv 4) (pe_ix ix_list (pv 5) (pv 6) (fun _ _ => rfl)) set_list))))))))))
      (pss_one (ps_ret (pv 1))))), ?_⟩
    -- rows
    refine ⟨5, rfl, by decide, fun H1 p us s1 np e1 r1 => ?_⟩
    refine ⟨p, us, W5, rfl, e1, r1, W5_up, by rw [W5_len]; decide, fun H2 q ws s2 nq e2 r2' => ?_⟩
    have lenW : ws.length = 15 := by rw [r2'.1]; exact R5_len
    -- table
    refine ⟨_, _, rfl, rfl, 13, rfl, by decide, by decide, fun D hD => ?_⟩
    refine lc_range (lo := 0) (n := 13) (fun i H' => ∃ as : List Addr, Same H2 H' ∧ TabAt H' D as (List.replicate i (List.replicate 13 0)) ∧ (∀ a ∈ as, H2 a = none ∧ D ≠ a)) ⟨[], same_new hD, ⟨upd_same, rfl, List.nodup_nil, fun i a e => by simp at e⟩, fun a ha => (List.not_mem_nil ha).elim⟩ ?_ ?_
    · rintro i H3 hi ⟨as, s3, T3, n3⟩
      refine ⟨rfl, ?_⟩
      refine yes_of ?_
      refine ⟨by show 1 ≤ sizeLine; decide, fun z hz => ?_⟩
      refine ⟨_, _, rfl, rfl, z, 13, _, rfl, rfl, upd_same, by decide, by decide, by show 1 * 13 ≤ sizeLine; decide, fun a ha => ?_⟩
      have za : z ≠ a := ne_of_none upd_same ha
      have ha3 : H3 a = none := by rw [upd_ne za.symm] at ha; exact ha
      have s5 : Same H3 (upd (upd H3 z (.lst [V.int 0])) a (.lst (List.replicate (13 : Int).toNat [V.int 0]).flatten)) := same_at (same_new hz) ha3
      have T5 := T3.same s5
      have Da : D ≠ a := ne_of_none T3.tb ha3
      refine ⟨_, T5.tb, ?_, as ++ [a], same_at (s3.trans s5) hD, ⟨?_, ?_, ?_, ?_⟩, ?_⟩
      · rw [List.length_map, T3.len, List.length_replicate]
        exact line_lt (by omega)
      · rw [upd_same, List.map_append]
        rfl
      · rw [List.length_append, T3.len, List.length_replicate, List.length_replicate]
        rfl
      · refine nd_snoc T3.nd fun hm => ?_
        obtain ⟨j, hj⟩ := List.getElem?_of_mem hm
        have := T3.row j a hj
        rw [ha3] at this
        cases this
      · intro j c hc
        by_cases hjl : j < as.length
        · rw [List.getElem?_append_left hjl] at hc
          have hcD : c ≠ D := ((n3 c (List.mem_of_getElem? hc)).2).symm
          rw [upd_ne hcD, T5.row j c hc]
          have hji : j < i := by rw [T3.len, List.length_replicate] at hjl; exact hjl
          have g1 : (List.replicate i (List.replicate 13 0)).getD j ([] : List Nat) = List.replicate 13 0 := by
            rw [List.getD_eq_getElem?_getD, List.getElem?_replicate, if_pos hji]
            rfl
          have g2 : (List.replicate (i + 1) (List.replicate 13 0)).getD j ([] : List Nat) = List.replicate 13 0 := by
            rw [List.getD_eq_getElem?_getD, List.getElem?_replicate, if_pos (by omega)]
            rfl
          rw [g1, g2]
        · have hjl2 : j < (as ++ [a]).length := (List.getElem?_eq_some_iff.mp hc).1
          rw [List.length_append] at hjl2
          have hje : j = as.length := by
            have : ([a] : List Addr).length = 1 := rfl
            omega
          subst hje
          rw [List.getElem?_append_right (Nat.le_refl _), Nat.sub_self] at hc
          cases hc
          rw [upd_ne Da.symm, upd_same]
          have g2 : (List.replicate (i + 1) (List.replicate 13 0)).getD as.length ([] : List Nat) = List.replicate 13 0 := by
            rw [List.getD_eq_getElem?_getD, List.getElem?_replicate, if_pos (by rw [T3.len, List.length_replicate]; omega)]
            rfl
          rw [g2]
          rfl
      · intro c hc
        rcases List.mem_append.mp hc with hc | hc
        · exact n3 c hc
        · rw [List.mem_singleton] at hc
          subst hc
          exact ⟨s3.free ha3, Da⟩
    -- the loops
    · rintro H3 ⟨as, s3, T3, n3⟩
      have T3 : TabAt H3 D as (tabAfter (ops3 0)) := T3
      have keep : ∀ H' : Hp, Same H2 H' → ∀ a ∈ as, ∀ o, Same H2 (upd H' a o) := fun H' s a ha o => same_at s (n3 a ha).1
      have hq : ∀ H' : Hp, Same H2 H' → H' q = some (.lst ws) := fun H' s => s _ _ e2
      refine ⟨_, rfl, q, rfl, ⟨_, SqL.of (hq _ s3)⟩, for_list (K := K) (a := q) (xs := ws) (fun i σ H' => ∃ (v2 v3 v4 v5 v6 : Option V), σ = [some (.ref q), some (.ref D), v2, v3, v4, v5, v6, none] ∧ Same H2 H' ∧ TabAt H' D as (tabAfter (ops3 i)))
        ⟨none, none, none, none, none, rfl, s3, T3⟩ (fun i σ H' _ ⟨_, _, _, _, _, _, s5, _⟩ => SqL.of (hq _ s5)) ?_ ?_⟩
      · rintro x y σ H4 hx ⟨v2, v3, v4, v5, v6, rfl, s4, T4⟩
        have hx15 : x < 15 := by rw [← lenW]; exact (List.getElem?_eq_some_iff.mp hx).1
        obtain ⟨xr, hxr, ax, rfl, hax⟩ := r2'.at hx
        have exr : R5.getD x [] = xr := by rw [List.getD_eq_getElem?_getD]; show (among W5 W5)[x]?.getD [] = xr; rw [hxr]; rfl
        refine ⟨_, rfl, q, _, rfl, .inl (SqL.of (hq _ s4)), (ws.length : Int), rfl, by omega, by omega, ?_⟩
        rw [show ((ws.length : Int)).toNat = 15 by omega]
        refine for_range (lo := 0) (n := 15) (fun i σ H' => ∃ (v3 v4 v5 v6 : Option V), σ = [some (.ref q), some (.ref D), some (.ref ax), v3, v4, v5, v6, none] ∧ Same H2 H' ∧ TabAt H' D as (tabAfter (ops3 x ++ ops2 x i)))
          ⟨v3, v4, v5, v6, rfl, s4, by have e0 : ops2 x 0 = [] := rfl
                                       rw [e0, List.append_nil]; exact T4⟩ ?_ ?_
        · rintro yi σ H5 hy ⟨v3, v4, v5, v6, rfl, s5, T5⟩
          have lenT : (tabAfter (ops3 x ++ ops2 x yi)).length = 13 := (dim_after _ _ dim_zero).1
          have hk13 := R5_lt x hx15 yi hy
          have hasl : as.length = 13 := by rw [T5.len]; exact lenT
          obtain ⟨af, haf⟩ : ∃ af, as[r2 R5 x yi]? = some af := ⟨_, List.getElem?_eq_getElem (by omega)⟩
          obtain ⟨vy, hvy⟩ : ∃ vy, ws[yi]? = some vy := ⟨_, List.getElem?_eq_getElem (by omega)⟩
          obtain ⟨yr, hyr, ay, rfl, hay⟩ := r2'.at hvy
          have eyr : R5.getD yi [] = yr := by rw [List.getD_eq_getElem?_getD]; show (among W5 W5)[yi]?.getD [] = yr; rw [hyr]; rfl
          have lxr : xr.length = 15 := by rw [← exr]; exact R5_row x hx15
          have lyr : yr.length = 15 := by rw [← eyr]; exact R5_row yi hy
          have Daf : D ≠ af := (n3 af (List.mem_of_getElem? haf)).2
          -- follow = table[x_row[y]]; y_row = rows[y]
          refine ⟨_, rfl, _, rfl, _, rfl, ax, _, (yi : Int), _, rfl, (by show V.int (0 + (yi : Int)) = _; rw [Int.zero_add]), SqL.of (s5 _ _ hax), atI_row (by omega), ?_⟩
          have ek : xr.getD yi 0 = r2 R5 x yi := by unfold r2; rw [exr]
          refine ⟨D, _, _, .ref af, rfl, rfl, SqL.of T5.tb, (by rw [ek]; exact atI_nat (at_map haf)), ?_⟩
          refine ⟨_, rfl, _, rfl, q, _, (yi : Int), _, rfl, (by show V.int (0 + (yi : Int)) = _; rw [Int.zero_add]), SqL.of (hq _ s5), atI_nat hvy, ?_⟩
          refine ⟨_, rfl, q, _, rfl, .inl (SqL.of (hq _ s5)), (ws.length : Int), rfl, by omega, by omega, ?_⟩
          rw [show ((ws.length : Int)).toNat = 15 by omega]
          refine for_range (lo := 0) (n := 15) (fun i σ H' => ∃ (v6 : Option V), σ = [some (.ref q), some (.ref D), some (.ref ax), some (natV yi), some (.ref af), some (.ref ay), v6, none] ∧ Same H2 H' ∧ TabAt H' D as (tabAfter (ops3 x ++ ops2 x yi ++ ops1 x yi i)))
            ⟨v6, ?_, s5, by have e0 : ops1 x yi 0 = [] := rfl
                            rw [e0, List.append_nil]; exact T5⟩ ?_ ?_
          · show [_, _, _, some (V.int (0 + (yi : Int))), _, _, _, _] = _
            rw [Int.zero_add]
            rfl
          · rintro z σ H6 hz ⟨v6, rfl, s6, T6⟩
            have ez : V.int (0 + (z : Int)) = V.int (z : Int) := by rw [Int.zero_add]
            have hz1 : z < yr.length := by omega
            have hz2 : z < xr.length := by omega
            have hj13 := R5_lt yi hy z hz
            have hb13 := R5_lt x hx15 z hz
            have ej : yr.getD z 0 = r2 R5 yi z := by unfold r2; rw [eyr]
            have eb : xr.getD z 0 = r2 R5 x z := by unfold r2; rw [exr]
            have D6 := dim_after (ops3 x ++ ops2 x yi ++ ops1 x yi z) _ dim_zero
            have lrow : ((tabAfter (ops3 x ++ ops2 x yi ++ ops1 x yi z)).getD (r2 R5 x yi) []).length = 13 := D6.2 _ hk13
            have hrow := T6.row _ _ haf
            -- the value
            refine ⟨_, rfl, _, rfl, _, rfl, ay, _, (z : Int), _, rfl, ez, SqL.of (s6 _ _ (hay)), atI_row hz1, ?_⟩
            refine ⟨af, _, (r2 R5 yi z : Int), _, rfl, by rw [ej]; rfl, SqL.of hrow, atI_row (by rw [lrow]; exact hj13), ?_⟩
            refine ⟨_, rfl, _, rfl, ax, _, (z : Int), _, rfl, ez, SqL.of (s6 _ _ hax), atI_row hz2, ?_⟩
            refine ⟨1, (r2 R5 x z : Int), rfl, by rw [eb]; rfl, ⟨by omega, by omega, by decide⟩, ?_⟩
            refine ⟨_, _, rfl, rfl, ?_⟩
            -- the place
            refine ⟨_, rfl, _, rfl, _, rfl, ay, _, (z : Int), _, rfl, ez, SqL.of (s6 _ _ hay), atI_row hz1, ?_⟩
            refine ⟨af, _, (r2 R5 yi z : Int), r2 R5 yi z, rfl, by rw [ej]; rfl, hrow, ixN_nat' (by rw [List.length_map, lrow]; exact hj13), ?_⟩
            refine ⟨some (natV z), ?_, keep _ s6 _ (List.mem_of_getElem? haf) _, ?_⟩
            · show [_, _, _, _, _, _, some (V.int (0 + (z : Int))), _] = _
              rw [ez]
              rfl
            · rw [ops1_succ, ← List.append_assoc, tabAfter_snoc, shl_nat]
              have := T6.up (j := r2 R5 yi z) (b := r2 R5 x z) haf Daf
              dsimp only
              rw [or_nat]
              exact this
          · rintro σ H6 ⟨v6, rfl, s6, T6⟩
            exact ⟨_, _, _, _, rfl, s6, by rw [ops2_succ, ← List.append_assoc]; exact T6⟩
        · rintro σ H5 ⟨v3, v4, v5, v6, rfl, s5, T5⟩
          exact ⟨_, _, _, _, _, rfl, s5, by rw [ops3_succ]; exact T5⟩
      · rintro σ H4 ⟨v2, v3, v4, v5, v6, rfl, s4, T4⟩
        rw [lenW, tab_is] at T4
        refine ⟨_, rfl, k _ D (as.map V.ref) ((s1.trans s2).trans s4) ((s1.trans s2).free hD) T4.tb ⟨by rw [List.length_map]; exact T4.len, fun i x hx => ?_⟩⟩
        have hi : i < as.length := by rw [T4.len]; exact (List.getElem?_eq_some_iff.mp hx).1
        have ha : as[i]? = some as[i] := List.getElem?_eq_getElem hi
        refine ⟨.ref as[i], at_map ha, as[i], rfl, ?_⟩
        have := T4.row i _ ha
        rw [List.getD_eq_getElem?_getD, hx] at this
        exact this
end
end Sv
/-! ways_to_one_more, how_many_between. -/
namespace Sv
open PySem PySem.Spec PyProof.Rows L2

abbrev sMore : Stmt := topS 16
abbrev sMany : Stmt := topS 13
abbrev sBetw : Stmt := topS 17

/-! ### the sets -/
structure SetsAt (H : Hp) (d : Addr) (n : Nat) (net : Kcz9.Net) : Prop where
  ex : ∃ kvs : List (List Key × V), H d = some (.dT kvs) ∧ (∀ i j : Nat, i < j → j < n → valV kvs (kvOf i j) = some (natV (net i j))) ∧ kvs.length ≤ 100
theorem SetsAt.same {H H' : Hp} {d : Addr} {n : Nat} {net : Kcz9.Net} (h : SetsAt H d n net) (s : Same H H') : SetsAt H' d n net :=
  let ⟨kvs, h1, h2, h3⟩ := h.ex; ⟨kvs, s _ _ h1, h2, h3⟩
theorem SetsAt.get {H H' : Hp} {d b : Addr} {n : Nat} {net : Kcz9.Net} (h : SetsAt H d n net) {i j : Nat} (hij : i < j) (hj : j < n) (s : Same H H') (hb : H' b = some (.tup [natV i, natV j])) :
    DGet H' d (.ref b) (some (natV (net i j))) := by
  obtain ⟨kvs, h1, h2, _⟩ := h.ex
  have := DGet.t (k := kvOf i j) (s _ _ h1) (show H' b = some (.tup ((kvOf i j).map kV)) from hb)
  rw [h2 i j hij hj] at this
  exact this

/-! ### the table that is read -/
structure Table (H : Hp) (a : Addr) : Prop where
  ex : ∃ us, H a = some (.lst us) ∧ LRel rRow H us T
theorem Table.same {H H' : Hp} {a : Addr} (h : Table H a) (s : Same H H') : Table H' a :=
  let ⟨us, h1, h2⟩ := h.ex; ⟨us, s _ _ h1, h2.mono fun v x => rRow.same s v x⟩
theorem T_dim : Dim T := ⟨by decide, by decide⟩
theorem tab_lt : ∀ i, i < 13 → ∀ j, j < 13 → tab i j < 8192 := by decide +kernel
theorem Table.row {H : Hp} {a : Addr} (h : Table H a) {x : Nat} (hx : x < 13) : ∃ us r, H a = some (.lst us) ∧ us[x]? = some (.ref r) ∧ H r = some (.lst ((T.getD x []).map natV)) := by
  obtain ⟨us, h1, h2⟩ := h.ex
  have e : T[x]? = some (T.getD x []) := by
    rw [List.getD_eq_getElem?_getD, List.getElem?_eq_getElem (by rw [T_dim.1]; exact hx)]
    rfl
  obtain ⟨v, hv, r, rfl, hr⟩ := h2.2 x _ e
  exact ⟨us, r, h1, hv, hr⟩
theorem tab_at {x y : Nat} (hx : x < 13) (hy : y < 13) : ((T.getD x []).map natV)[y]? = some (natV (tab x y)) := row_at (by rw [T_dim.2 x hx]; exact hy)

/-! ### ways_to_one_more -/
def toOne (x s1 s0 : Nat) : List (Nat × Nat) := (waysIn s1).flatMap fun y => (waysIn (tab x y &&& s0)).map fun z => (z, y)
def toOneN (x s1 s0 n : Nat) : List (Nat × Nat) := ((waysIn s1).take n).flatMap fun y => (waysIn (tab x y &&& s0)).map fun z => (z, y)
theorem toOneN_len (x s1 s0 : Nat) : ∀ l : List Nat, (l.flatMap fun y => (waysIn (tab x y &&& s0)).map fun z => (z, y)).length ≤ l.length * 13
  | [] => by simp
  | y :: l => by
    rw [List.flatMap_cons, List.length_append, List.length_map, List.length_cons, Nat.succ_mul]
    have := toOneN_len x s1 s0 l
    have := waysIn_length (tab x y &&& s0)
    omega
theorem toOne_len (x s1 s0 : Nat) : (toOne x s1 s0).length ≤ 169 := by
  have := toOneN_len x s1 s0 (waysIn s1)
  have := waysIn_length s1
  unfold toOne
  omega
theorem toOne_lt {x s1 s0 : Nat} {p : Nat × Nat} (h : p ∈ toOne x s1 s0) : p.1 < 13 ∧ p.2 < 13 := by
  unfold toOne at h
  obtain ⟨y, hy, h⟩ := List.mem_flatMap.mp h
  obtain ⟨z, hz, rfl⟩ := List.mem_map.mp h
  exact ⟨(mem_waysIn.mp hz).1, (mem_waysIn.mp hy).1⟩

def spMore : Sp := fun vs H Q _ => ∃ (x o : Nat) (d t : Addr) (n : Nat) (net : Kcz9.Net), vs = [natV x, natV o, .ref d, .ref t] ∧ x < 13 ∧ 1 < o ∧ o < n ∧ SetsAt H d n net ∧ Table H t ∧
  ∀ H' q us, Same H H' → H q = none → H' q = some (.lst us) → LRel rPair H' us (toOne x (net 1 o) (net 0 o)) → Q (.ref q) H'

section
variable {P : Program} {w : World} {K : PySem.W.Frag} {mg : Str → Option Value} {base : Heap}
theorem scMore : FnScope ["way", "other", "sets", "following", "pairs", "one_way", "zero_way"] ["way", "other", "sets", "following"] (defScope sMore) := ⟨rfl, rfl, rfl, by decide +kernel, rfl, by decide +kernel, by decide +kernel⟩
theorem ok_more {f g : Addr} {fd gd : FuncData} (F : Fun K "ways_to_one_more" "ways_to_one_more" sMore f fd) (OG : FnOk P w K mg base CX0 1 g gd ["ways"] spIn) (kG : PySem.W.keepIn K (.ref g) = true) (bG : Binds K gd ["ways"] []) (mG : mg "ways_in" = some (.ref g)) :
    FnOk P w K mg base CX0 2 f fd ["way", "other", "sets", "following"] spMore := by
  refine F.ok scMore (fun vs H Q E h => ?_) (fun cdv A outer s H vs Q E hr h => ?_)
  · obtain ⟨_, _, _, _, _, _, rfl, _⟩ := h
    rfl
  · obtain ⟨x, o, d, t, n, net, rfl, hx, ho1, hon, hS, hT, k⟩ := h
    have nd := scMore.nd
    have hu := hu_of hr
    refine ⟨_, pss_cons (ps_set (i := 4) nd rfl (Or.inl rfl) (pe_lst pa_nil))
      (pss_cons (ps_for PassesOwn.never rfl (pi_list (pe_call OG hr rfl mG kG bG .nil pass0 (pa_cons (pe_dget hu (pv 2) (pe_tup (pa_cons pe_int (pa_cons (pv 1) pa_nil))) (fun _ _ => rfl)) pa_nil))) (pg_name (i := 5) nd rfl (Or.inl rfl))
        (pss_one (ps_for PassesOwn.never rfl (pi_list (pe_call OG hr rfl mG kG bG .nil pass0 (pa_cons (pe_op op_and (pe_ix ix_list (pe_ix ix_list (pv 3) (pv 0) (fun _ _ => rfl)) (pv 5) (fun _ _ => rfl))
            (pe_dget hu (pv 2) (pe_tup (pa_cons pe_int (pa_cons (pv 1) pa_nil))) (fun _ _ => rfl))) pa_nil))) (pg_name (i := 6) nd rfl (Or.inl rfl))
          (pss_one (ps_expr (pe_bm PySem.F.plainAttrs_list PySem.F.slot_list_append PySem.F.type_list_append mt_append (pv 4) (pa_cons (pe_tup (pa_cons (pv 6) (pa_cons (pv 5) pa_nil))) pa_nil)))))))
      (pss_one (ps_ret (pv 4)))), ?_⟩
    refine ⟨by decide, fun p np => ?_⟩
    -- sets[(1, other)]
    refine ⟨_, rfl, _, rfl, (by show 2 ≤ sizeLine; decide), fun b hb => ?_⟩
    have hbp : H b = none := (same_new np).free hb
    have pb : p ≠ b := ne_of_none upd_same hb
    have s1 : Same H (upd (upd H p (.lst [])) b (.tup [.int 1, natV o])) := (same_new np).trans (same_new hb)
    refine ⟨d, natV (net 1 o), rfl, hS.get ho1 hon s1 upd_same, ?_⟩
    refine ⟨net 1 o, rfl, fun H2 q s2 nq e2 => ?_⟩
    have s12 : Same H H2 := s1.trans s2
    have qq : q ≠ p := (ne_of_none (o := .lst []) (by rw [upd_ne pb, upd_same]) nq).symm
    have ep : H2 p = some (.lst []) := s2 _ _ (by rw [upd_ne pb, upd_same])
    refine ⟨q, rfl, ⟨_, SqL.of e2⟩, for_list (K := K) (a := q) (xs := (waysIn (net 1 o)).map natV) (fun i σ H' => ∃ (v5 v6 : Option V) (us : List V), σ = [some (natV x), some (natV o), some (.ref d), some (.ref t), some (.ref p), v5, v6] ∧ Same H H' ∧ H' q = some (.lst ((waysIn (net 1 o)).map natV)) ∧ H' p = some (.lst us) ∧ LRel rPair H' us (toOneN x (net 1 o) (net 0 o) i))
      ⟨none, none, [], rfl, s12, e2, ep, LRel.nil⟩ (fun i σ H' _ ⟨_, _, _, _, _, h, _⟩ => SqL.of h) ?_ ?_⟩
    · rintro i v σ H3 hi ⟨v5, v6, us, rfl, s3, eq3, ep3, r3⟩
      obtain ⟨y, hy, rfl⟩ := map_at hi
      have hy13 : y < 13 := (mem_waysIn.mp (List.mem_of_getElem? hy)).1
      obtain ⟨ts, r, ht, htx, hr3⟩ := (hT.same s3).row hx
      have eT : tab x y = (T.getD x []).getD y 0 := rfl
      -- following[way][one_way] & sets[(0, other)]
      refine ⟨_, rfl, _, rfl, t, _, _, .ref r, rfl, rfl, SqL.of ht, atI_nat htx, ?_⟩
      refine ⟨_, rfl, r, _, (y : Int), natV (tab x y), rfl, rfl, SqL.of hr3, atI_nat (tab_at hx hy13), ?_⟩
      refine ⟨_, rfl, _, rfl, (by show 2 ≤ sizeLine; decide), fun b2 hb2 => ?_⟩
      refine ⟨d, natV (net 0 o), rfl, hS.get (by omega) hon (s3.trans (same_new hb2)) upd_same, ?_⟩
      refine ⟨(tab x y : Int), (net 0 o : Int), rfl, rfl, ?_⟩
      refine ⟨tab x y &&& net 0 o, by dsimp only; rw [and_nat]; rfl, fun H4 q4 s4 nq4 e4 => ?_⟩
      have s34 : Same H3 H4 := (same_new hb2).trans s4
      have qp : q4 ≠ p := fun z => by
        subst z
        rw [(same_new hb2) _ _ ep3] at nq4
        cases nq4
      refine ⟨q4, rfl, ⟨_, SqL.of e4⟩, for_list (K := K) (a := q4) (xs := (waysIn (tab x y &&& net 0 o)).map natV) (fun j σ H' => ∃ (v6 : Option V) (us : List V), σ = [some (natV x), some (natV o), some (.ref d), some (.ref t), some (.ref p), some (natV y), v6] ∧ Same H H' ∧ H' q = some (.lst ((waysIn (net 1 o)).map natV)) ∧ H' q4 = some (.lst ((waysIn (tab x y &&& net 0 o)).map natV)) ∧ H' p = some (.lst us) ∧
          LRel rPair H' us (toOneN x (net 1 o) (net 0 o) i ++ ((waysIn (tab x y &&& net 0 o)).take j).map fun z => (z, y)))
        ⟨v6, us, rfl, s3.trans s34, s34 _ _ eq3, e4, s34 _ _ ep3, by rw [List.take_zero, List.map_nil, List.append_nil]; exact r3.mono fun v x => rPair.same s34 v x⟩ (fun i σ H' _ ⟨_, _, _, _, _, h, _⟩ => SqL.of h) ?_ ?_⟩
      · rintro j v σ H5 hj ⟨v6', us5, rfl, s5, eq5, eq45, ep5, r5⟩
        obtain ⟨z, hz, rfl⟩ := map_at hj
        refine ⟨_, rfl, .inl ⟨rfl, _, SqL.of ep5⟩, _, rfl, _, rfl, (by show 2 ≤ sizeLine; decide), fun c hc => ?_⟩
        have pc : p ≠ c := ne_of_none ep5 hc
        have e6 : upd H5 c (.tup [natV z, natV y]) p = some (.lst us5) := by rw [upd_ne pc]; exact ep5
        refine ⟨p, _, _, rfl, rfl, e6, ?_, ?_⟩
        · have h1 := toOneN_len x (net 1 o) (net 0 o) ((waysIn (net 1 o)).take i)
          have h2 := waysIn_length (net 1 o)
          have h3 := waysIn_length (tab x y &&& net 0 o)
          rw [r5.1, List.length_append, List.length_map, List.length_take]
          unfold toOneN
          rw [List.length_take] at h1
          exact line_lt (by omega)
        · refine ⟨_, _, rfl, same_at (s5.trans (same_new hc)) np, ?_, ?_, upd_same, ?_⟩
          · rw [upd_ne qq, upd_ne (ne_of_none eq5 hc)]
            exact eq5
          · rw [upd_ne qp, upd_ne (ne_of_none eq45 hc)]
            exact eq45
          · rw [take_snoc hz, List.map_append, ← List.append_assoc]
            refine LRel.snoc ((r5.mono (rPair.same (same_new hc))).mono (rPair.grow e6)) ⟨c, rfl, ?_⟩
            rw [upd_ne pc.symm, upd_same]
      · rintro σ H5 ⟨v6', us5, rfl, s5, eq5, eq45, ep5, r5⟩
        refine ⟨_, _, us5, rfl, s5, eq5, ep5, ?_⟩
        rw [List.length_map, List.take_length] at r5
        unfold toOneN at r5 ⊢
        rw [take_snoc hy, List.flatMap_append]
        simpa using r5
    · rintro σ H3 ⟨v5, v6, us, rfl, s3, eq3, ep3, r3⟩
      refine ⟨_, rfl, k _ p us s3 np ep3 ?_⟩
      rw [List.length_map] at r3
      unfold toOneN at r3
      rw [List.take_length] at r3
      exact r3
end
end Sv
/-! how_many_between: lefts are tallied, then counted. -/
namespace Sv
open PySem PySem.Spec PyProof.Rows L2

/-! ### a tally -/
def bump : List (Nat × Nat) → Nat → List (Nat × Nat)
  | [], k => [(k, 1)]
  | p :: r, k => if p.1 = k then (p.1, p.2 + 1) :: r else p :: bump r k
def cnt : List (Nat × Nat) → Nat → Nat
  | [], _ => 0
  | p :: r, k => if p.1 = k then p.2 else cnt r k
def encT (ps : List (Nat × Nat)) : List (Key × V) := ps.map fun p => (Sum.inl (p.1 : Int), natV p.2)
def tally (L : List Nat) : List (Nat × Nat) := L.foldl bump []
theorem tally_snoc (L : List Nat) (k : Nat) : tally (L ++ [k]) = bump (tally L) k := by
  unfold tally
  rw [List.foldl_append]
  rfl
theorem bump_sum (f : Nat → Nat) : ∀ (ps : List (Nat × Nat)) (k : Nat), ((bump ps k).map fun p => p.2 * f p.1).sum = (ps.map fun p => p.2 * f p.1).sum + f k
  | [], k => by simp [bump]
  | p :: r, k => by
    unfold bump
    by_cases h : p.1 = k
    · rw [if_pos h, List.map_cons, List.sum_cons, List.map_cons, List.sum_cons, h]
      show (p.2 + 1) * f k + _ = _
      rw [Nat.succ_mul]
      omega
    · rw [if_neg h, List.map_cons, List.sum_cons, List.map_cons, List.sum_cons, bump_sum f r k]
      omega
theorem tally_sum (f : Nat → Nat) : ∀ (L : List Nat) (ps : List (Nat × Nat)), ((L.foldl bump ps).map fun p => p.2 * f p.1).sum = (ps.map fun p => p.2 * f p.1).sum + (L.map f).sum
  | [], ps => by simp
  | k :: L, ps => by
    rw [List.foldl_cons, tally_sum f L, bump_sum, List.map_cons, List.sum_cons]
    omega
theorem bump_keys : ∀ (ps : List (Nat × Nat)) (k j : Nat), j ∈ (bump ps k).map (·.1) ↔ (j ∈ ps.map (·.1) ∨ j = k)
  | [], k, j => by simp [bump]
  | p :: r, k, j => by
    unfold bump
    by_cases h : p.1 = k
    · rw [if_pos h]
      simp only [List.map_cons, List.mem_cons]
      constructor
      · rintro (e | e)
        · exact .inl (.inl e)
        · exact .inl (.inr e)
      · rintro ((e | e) | e)
        · exact .inl e
        · exact .inr e
        · exact .inl (e.trans h.symm)
    · rw [if_neg h]
      simp only [List.map_cons, List.mem_cons, bump_keys r k j]
      exact or_assoc.symm
theorem bump_nd : ∀ (ps : List (Nat × Nat)) (k : Nat), (ps.map (·.1)).Nodup → ((bump ps k).map (·.1)).Nodup
  | [], k, _ => by simp [bump]
  | p :: r, k, h => by
    rw [List.map_cons, List.nodup_cons] at h
    unfold bump
    by_cases c : p.1 = k
    · rw [if_pos c, List.map_cons, List.nodup_cons]
      exact h
    · rw [if_neg c, List.map_cons, List.nodup_cons]
      refine ⟨fun m => ?_, bump_nd r k h.2⟩
      rcases (bump_keys r k p.1).mp m with e | e
      · exact h.1 e
      · exact c e
theorem tally_nd : ∀ (L : List Nat) (ps : List (Nat × Nat)), (ps.map (·.1)).Nodup → ((L.foldl bump ps).map (·.1)).Nodup
  | [], _, h => h
  | k :: L, ps, h => tally_nd L _ (bump_nd ps k h)
theorem bump_len : ∀ (ps : List (Nat × Nat)) (k : Nat), (bump ps k).length ≤ ps.length + 1
  | [], _ => by simp [bump]
  | p :: r, k => by
    unfold bump
    split
    · simp
    · simp only [List.length_cons]
      have := bump_len r k
      omega
theorem tally_len : ∀ (L : List Nat) (ps : List (Nat × Nat)), (L.foldl bump ps).length ≤ ps.length + L.length
  | [], _ => by simp
  | k :: L, ps => by
    have h1 := tally_len L (bump ps k)
    have h2 := bump_len ps k
    rw [List.foldl_cons, List.length_cons]
    omega
theorem key_inj {a b : Nat} : ((Sum.inl (a : Int) : Key) = Sum.inl (b : Int)) ↔ a = b := ⟨fun h => Int.ofNat.inj (Sum.inl.inj h), fun h => by rw [h]⟩
theorem valV_enc : ∀ (ps : List (Nat × Nat)) (k : Nat), (valV (encT ps) (Sum.inl (k : Int) : Key)).getD (.int 0) = natV (cnt ps k)
  | [], _ => rfl
  | p :: r, k => by
    unfold encT cnt
    rw [List.map_cons]
    by_cases h : p.1 = k
    · rw [if_pos h, valV_pos (key_inj.mpr h)]
      rfl
    · rw [if_neg h, valV_neg (fun z => h (key_inj.mp z))]
      exact valV_enc r k
theorem valV_at : ∀ (ps : List (Nat × Nat)) (i : Nat) (p : Nat × Nat), (ps.map (·.1)).Nodup → ps[i]? = some p → valV (encT ps) (Sum.inl (p.1 : Int) : Key) = some (natV p.2)
  | [], i, p, _, h => by simp at h
  | q :: r, 0, p, _, h => by
    cases h
    unfold encT
    rw [List.map_cons, valV_pos rfl]
  | q :: r, i + 1, p, hn, h => by
    rw [List.map_cons, List.nodup_cons] at hn
    have h' : r[i]? = some p := h
    have : p.1 ∈ r.map (·.1) := List.mem_map.mpr ⟨p, List.mem_of_getElem? h', rfl⟩
    unfold encT
    rw [List.map_cons, valV_neg (fun z => hn.1 (by rw [key_inj.mp z]; exact this))]
    exact valV_at r i p hn.2 h'
theorem putK_cons_eq {p : Key × V} {r : List (Key × V)} {k : Key} {v : V} (h : p.1 = k) (hn : ¬ k ∈ r.map (·.1)) : putK (p :: r) k v = (p.1, v) :: r := by
  unfold putK
  have e : ((p :: r).any fun kv => decide (kv.1 = k)) = true := by
    rw [List.any_cons, decide_eq_true h, Bool.true_or]
  rw [if_pos e, List.map_cons, if_pos h]
  congr 1
  have : r.map (fun kv => if kv.1 = k then (kv.1, v) else kv) = r.map id := by
    apply List.map_congr_left
    intro q hq
    rw [if_neg (fun z => hn (List.mem_map.mpr ⟨q, hq, z⟩))]
    rfl
  rw [this, List.map_id]
theorem putK_cons_ne {p : Key × V} {r : List (Key × V)} {k : Key} {v : V} (h : ¬ p.1 = k) : putK (p :: r) k v = p :: putK r k v := by
  unfold putK
  have e : ((p :: r).any fun kv => decide (kv.1 = k)) = r.any fun kv => decide (kv.1 = k) := by
    rw [List.any_cons, decide_eq_false h, Bool.false_or]
  rw [e, List.map_cons, if_neg h]
  split <;> rfl
theorem putK_bump : ∀ (ps : List (Nat × Nat)) (k : Nat), (ps.map (·.1)).Nodup → putK (encT ps) (Sum.inl (k : Int) : Key) (natV (cnt ps k + 1)) = encT (bump ps k)
  | [], _, _ => rfl
  | p :: r, k, h => by
    rw [List.map_cons, List.nodup_cons] at h
    unfold encT cnt bump
    rw [List.map_cons]
    by_cases c : p.1 = k
    · rw [if_pos c, if_pos c, putK_cons_eq (key_inj.mpr c)]
      · rfl
      · intro m
        rw [List.map_map] at m
        obtain ⟨q, hq, e⟩ := List.mem_map.mp m
        have e : q.1 = k := key_inj.mp e
        exact h.1 (List.mem_map.mpr ⟨q, hq, by rw [e, c]⟩)
    · rw [if_neg c, if_neg c, putK_cons_ne (fun z => c (key_inj.mp z)), List.map_cons]
      congr 1
      exact putK_bump r k h.2

/-- for k in d, d locked -/
theorem for_keys {d : Addr} {o : Obj} {kvs : List (Key × V)} {g : TG} {tb : TS} {D : L2.Ends} {σ : L2.St} {H : Hp} (Pv : Nat → L2.St → Hp → Prop) (h0 : Pv 0 σ H) (hl : ∀ i σ H, i ≤ kvs.length → Pv i σ H → H d = some (.frz o (.dK kvs)))
    (hs : ∀ i k v σ H, kvs[i]? = some (k, v) → Pv i σ H → g (kV k) σ H fun σ2 H2 => tb { D with nx := Pv (i + 1), ct := Pv (i + 1), bk := D.nx } σ2 H2) (hd : ∀ σ H, Pv kvs.length σ H → D.nx σ H) :
    ∃ W : Nat → Nat → L2.St → Hp → Prop, (∃ m, W 0 m σ H) ∧ ∀ i m σ H, W i m σ H →
      ((Itk d o kvs).stop i H ∧ D.nx σ H) ∨ ((Itk d o kvs).go i H ∧ ∃ N : L2.St → Hp → Prop, (∀ σ' H', N σ' H' → ∃ m', m' < m ∧ W (i + 1) m' σ' H') ∧ ∀ x H', (Itk d o kvs).yld i H x H' → g x σ H' fun σ2 H2 => tb { D with nx := N, ct := N, bk := D.nx } σ2 H2) := by
  refine ⟨fun i m σ H => m = kvs.length - i ∧ i ≤ kvs.length ∧ Pv i σ H, ⟨kvs.length, by simp, Nat.zero_le _, h0⟩, ?_⟩
  rintro i m σ H ⟨rfl, hi, p⟩
  have q := hl i σ H hi p
  by_cases hlt : i < kvs.length
  · refine .inr ⟨⟨q, hlt⟩, Pv (i + 1), fun σ' H' p' => ⟨kvs.length - (i + 1), by omega, rfl, hlt, p'⟩, fun x H' y => ?_⟩
    obtain ⟨e, k, v, hk, rfl⟩ := y
    subst e
    exact hs i k v σ _ hk p
  · have e : i = kvs.length := by omega
    subst e
    exact .inl ⟨⟨q, Nat.le_refl _⟩, hd σ H p⟩

/-! ### how_many_between -/
def left4 (z y a b : Nat) : Nat := tab (12 - z) a &&& tab (12 - y) b
def lefts1 (p : Nat × Nat) (l : List (Nat × Nat)) : List Nat := l.map fun q => left4 p.1 p.2 q.1 q.2
def lefts (l m : List (Nat × Nat)) : List Nat := l.flatMap fun p => lefts1 p m
theorem lefts_snoc (l m : List (Nat × Nat)) (p : Nat × Nat) : lefts (l ++ [p]) m = lefts l m ++ lefts1 p m := by
  unfold lefts
  rw [List.flatMap_append]
  simp
theorem lefts1_snoc (p q : Nat × Nat) (l : List (Nat × Nat)) : lefts1 p (l ++ [q]) = lefts1 p l ++ [left4 p.1 p.2 q.1 q.2] := by
  unfold lefts1
  rw [List.map_append]
  rfl
theorem lefts_len (m : List (Nat × Nat)) : ∀ l : List (Nat × Nat), (lefts l m).length = l.length * m.length
  | [] => by simp [lefts]
  | p :: l => by
    unfold lefts
    rw [List.flatMap_cons, List.length_append, List.length_cons, Nat.succ_mul]
    have := lefts_len m l
    unfold lefts at this
    rw [this]
    unfold lefts1
    rw [List.length_map]
    omega
def howMany (L : List Nat) (s : Nat) : Nat := (L.map fun l => (waysIn (l &&& s)).length).sum
def part (ps : List (Nat × Nat)) (s : Nat) : Nat := (ps.map fun p => p.2 * (waysIn (p.1 &&& s)).length).sum
theorem part_tally (L : List Nat) (s : Nat) : part (tally L) s = howMany L s := by
  unfold part tally howMany
  rw [tally_sum (fun k => (waysIn (k &&& s)).length) L []]
  simp
theorem part_snoc (ps : List (Nat × Nat)) (p : Nat × Nat) (s : Nat) : part (ps ++ [p]) s = part ps s + p.2 * (waysIn (p.1 &&& s)).length := by
  unfold part
  rw [List.map_append, List.sum_append]
  simp

def spBetw : Sp := fun vs H Q _ => ∃ (p q t : Addr) (us ws : List V) (l m : List (Nat × Nat)) (s : Nat), vs = [.ref p, .ref q, natV s, .ref t] ∧ H p = some (.lst us) ∧ LRel rPair H us l ∧ H q = some (.lst ws) ∧ LRel rPair H ws m ∧
  (∀ x ∈ l, x.1 < 13 ∧ x.2 < 13) ∧ (∀ x ∈ m, x.1 < 13 ∧ x.2 < 13) ∧ l.length ≤ 169 ∧ m.length ≤ 169 ∧ Table H t ∧ ∀ H', Same H H' → Q (natV (howMany (lefts l m) s)) H'

section
variable {P : Program} {w : World} {K : PySem.W.Frag} {mg : Str → Option Value} {base : Heap}
theorem scBetw : FnScope ["thirds", "fourths", "ways", "following", "times", "zero_to_two", "one_to_two", "by_zero", "by_one", "zero_to_three", "one_to_three", "left", "total"] ["thirds", "fourths", "ways", "following"] (defScope sBetw) := ⟨rfl, rfl, rfl, by decide +kernel, rfl, by decide +kernel, by decide +kernel⟩
theorem ok_betw {f g : Addr} {fd gd : FuncData} (F : Fun K "how_many_between" "how_many_between" sBetw f fd) (OG : FnOk P w K mg base CX0 1 g gd ["ways"] spIn) (kG : PySem.W.keepIn K (.ref g) = true) (bG : Binds K gd ["ways"] []) (mG : mg "ways_in" = some (.ref g)) (M : Glo mg) :
    FnOk P w K mg base CX0 2 f fd ["thirds", "fourths", "ways", "following"] spBetw := by
  refine F.ok scBetw (fun vs H Q E h => ?_) (fun cdv A outer s H vs Q E hr h => ?_)
  · obtain ⟨_, _, _, _, _, _, _, _, rfl, _⟩ := h
    rfl
  · obtain ⟨p, q, t, us, ws, l, m, st, rfl, hp, hL, hq, hM, ltL, ltM, lenL, lenM, hT, k⟩ := h
    obtain ⟨tl, hl⟩ := M.last
    have nd := scBetw.nd
    have hu := hu_of hr
    refine ⟨_, pss_cons (ps_set (i := 4) nd rfl (Or.inl rfl) pe_dnewK)
      (pss_cons (ps_for PassesOwn.never rfl (pi_list (pv 0)) (pg_tup rfl (pgs_cons (pg_name (i := 5) nd rfl (Or.inl rfl)) (pgs_cons (pg_name (i := 6) nd rfl (Or.inl rfl)) pgs_nil)))
        (pss_cons (ps_set (i := 7) nd rfl (Or.inl rfl) (pe_ix ix_list (pv 3) (pe_op op_sub (pe_glob (v := .int 12) rfl hl ⟨_, rfl⟩) (pv 5)) (fun _ _ => rfl)))
        (pss_cons (ps_set (i := 8) nd rfl (Or.inl rfl) (pe_ix ix_list (pv 3) (pe_op op_sub (pe_glob (v := .int 12) rfl hl ⟨_, rfl⟩) (pv 6)) (fun _ _ => rfl)))
        (pss_one (ps_for PassesOwn.never rfl (pi_list (pv 1)) (pg_tup rfl (pgs_cons (pg_name (i := 9) nd rfl (Or.inl rfl)) (pgs_cons (pg_name (i := 10) nd rfl (Or.inl rfl)) pgs_nil)))
          (pss_cons (ps_set (i := 11) nd rfl (Or.inl rfl) (pe_op op_and (pe_ix ix_list (pv 7) (pv 9) (fun _ _ => rfl)) (pe_ix ix_list (pv 8) (pv 10) (fun _ _ => rfl))))
          (pss_one (ps_dput hu (pv 4) (pv 11) (pe_op op_add (pe_dget2 hu (pv 4) (pv 11) pe_int ⟨rfl, rfl, rfl, rfl⟩) pe_int) rfl))))))))
      (pss_cons (ps_set (i := 12) nd rfl (Or.inl rfl) pe_int)
      (pss_cons (ps_lock (ps_for PassesOwn.never rfl (pi_keys (pv 4)) (pg_name (i := 11) nd rfl (Or.inl rfl))
        (pss_one (ps_aug (i := 12) nd rfl (Or.inl rfl) (pe_op op_mul (pe_dget hu (pv 4) (pv 11) (fun _ _ => rfl)) (pe_callB call_len_seq (by rfl) M.len PySem.boot_len (pa_cons (pe_call OG hr rfl mG kG bG .nil pass0 (pa_cons (pe_op op_and (pv 11) (pv 2)) pa_nil)) pa_nil))) ip_add))))
      (pss_one (ps_ret (pv 12)))))), ?_⟩
    intro d hd
    have s0 : Same H (upd H d (.dK [])) := same_new hd
    have tl0 : ∀ (L : List Nat), (tally L).length ≤ L.length := fun L => by
      have := tally_len L []
      simpa [tally] using this
    have tnd : ∀ (L : List Nat), ((tally L).map (·.1)).Nodup := fun L => tally_nd L [] List.nodup_nil
    refine ⟨_, rfl, p, rfl, ⟨_, SqL.of (s0 _ _ hp)⟩, for_list (K := K) (a := p) (xs := us) (fun i σ H' => ∃ (v5 v6 v7 v8 v9 v10 v11 : Option V), σ = [some (.ref p), some (.ref q), some (natV st), some (.ref t), some (.ref d), v5, v6, v7, v8, v9, v10, v11, none] ∧ Same H H' ∧ H' d = some (.dK (encT (tally (lefts (l.take i) m)))))
      ⟨none, none, none, none, none, none, none, rfl, s0, upd_same⟩ (fun i σ H' _ ⟨_, _, _, _, _, _, _, _, s5, _⟩ => SqL.of (s5 _ _ hp)) ?_ ?_⟩
    · rintro i v σ H1 hi ⟨v5, v6, v7, v8, v9, v10, v11, rfl, s1, e1⟩
      obtain ⟨x, hx, a, rfl, ha⟩ := hL.at hi
      have lx := ltL x (List.mem_of_getElem? hx)
      have hT1 := hT.same s1
      obtain ⟨t1, r1, ht1, htx1, hr1⟩ := hT1.row (x := 12 - x.1) (by omega)
      obtain ⟨t2, r2', ht2, htx2, hr2⟩ := hT1.row (x := 12 - x.2) (by omega)
      rw [ht1] at ht2
      cases ht2
      have hil : i < l.length := (List.getElem?_eq_some_iff.mp hx).1
      refine ⟨a, _, rfl, SqT.of (s1 _ _ ha), rfl, _, _, rfl, _, _, rfl, rfl, ?_⟩
      refine ⟨_, rfl, _, rfl, 12, (x.1 : Int), rfl, rfl, ?_⟩
      refine ⟨t, _, ((12 - x.1 : Nat) : Int), .ref r1, rfl, ?_, SqL.of ht1, atI_nat htx1, ?_⟩
      · show V.int ((12 : Int) - (x.1 : Int)) = _
        congr 1
        omega
      refine ⟨_, rfl, _, rfl, 12, (x.2 : Int), rfl, rfl, ?_⟩
      refine ⟨t, _, ((12 - x.2 : Nat) : Int), .ref r2', rfl, ?_, SqL.of ht1, atI_nat htx2, ?_⟩
      · show V.int ((12 : Int) - (x.2 : Int)) = _
        congr 1
        omega
      refine ⟨_, rfl, q, rfl, ⟨_, SqL.of (s1 _ _ hq)⟩, for_list (K := K) (a := q) (xs := ws) (fun j σ H' => ∃ (v9 v10 v11 : Option V), σ = [some (.ref p), some (.ref q), some (natV st), some (.ref t), some (.ref d), some (natV x.1), some (natV x.2), some (.ref r1), some (.ref r2'), v9, v10, v11, none] ∧ Same H H' ∧
          H' r1 = some (.lst ((T.getD (12 - x.1) []).map natV)) ∧ H' r2' = some (.lst ((T.getD (12 - x.2) []).map natV)) ∧ H' d = some (.dK (encT (tally (lefts (l.take i) m ++ lefts1 x (m.take j))))))
        ⟨v9, v10, v11, rfl, s1, hr1, hr2, by have e0 : lefts1 x (m.take 0) = [] := rfl
                                             rw [e0, List.append_nil]; exact e1⟩ (fun i σ H' _ ⟨_, _, _, _, s5, _⟩ => SqL.of (s5 _ _ hq)) ?_ ?_⟩
      · rintro j v σ H2 hj ⟨v9, v10, v11, rfl, s2, er1, er2, e2⟩
        obtain ⟨y, hy, b, rfl, hb⟩ := hM.at hj
        have ly := ltM y (List.mem_of_getElem? hy)
        have hjl : j < m.length := (List.getElem?_eq_some_iff.mp hy).1
        refine ⟨b, _, rfl, SqT.of (s2 _ _ hb), rfl, _, _, rfl, _, _, rfl, rfl, ?_⟩
        refine ⟨_, rfl, _, rfl, r1, _, (y.1 : Int), natV (tab (12 - x.1) y.1), rfl, rfl, SqL.of er1, atI_nat (tab_at (by omega) ly.1), ?_⟩
        refine ⟨_, rfl, _, rfl, r2', _, (y.2 : Int), natV (tab (12 - x.2) y.2), rfl, rfl, SqL.of er2, atI_nat (tab_at (by omega) ly.2), ?_⟩
        refine ⟨(tab (12 - x.1) y.1 : Int), (tab (12 - x.2) y.2 : Int), rfl, rfl, ?_⟩
        have ek : V.int (Builtin.bitAnd (tab (12 - x.1) y.1 : Int) (tab (12 - x.2) y.2 : Int)) = natV (left4 x.1 x.2 y.1 y.2) := by
          rw [and_nat]
          rfl
        have ek2 : V.int (Builtin.bitAnd (tab (12 - x.1) y.1 : Int) (tab (12 - x.2) y.2 : Int)) = kV (Sum.inl ((left4 x.1 x.2 y.1 y.2 : Nat) : Int)) := ek
        -- times[left] = times.get(left, 0) + 1
        refine ⟨_, rfl, d, rfl, .inl ⟨_, .inl e2⟩, _, rfl, ?_⟩
        refine ⟨valV (encT (tally (lefts (l.take i) m ++ lefts1 x (m.take j)))) (Sum.inl ((left4 x.1 x.2 y.1 y.2 : Nat) : Int)), ?_, ?_⟩
        · rw [show ((fun i j => V.int (Builtin.bitAnd i j)) (tab (12 - x.1) y.1 : Int) (tab (12 - x.2) y.2 : Int)) = kV (Sum.inl ((left4 x.1 x.2 y.1 y.2 : Nat) : Int)) from ek2]
          exact DGet.k e2
        rw [valV_enc]
        refine ⟨_, _, rfl, rfl, ?_⟩
        refine ⟨_, rfl, _, rfl, d, upd H2 d (.dK (encT (tally (lefts (l.take i) m ++ lefts1 x (m.take (j + 1)))))), rfl, ?_, ?_⟩
        · rw [show ((fun i j => V.int (Builtin.bitAnd i j)) (tab (12 - x.1) y.1 : Int) (tab (12 - x.2) y.2 : Int)) = kV (Sum.inl ((left4 x.1 x.2 y.1 y.2 : Nat) : Int)) from ek2]
          have hlen : (encT (tally (lefts (l.take i) m ++ lefts1 x (m.take j)))).length < sizeLine := by
            unfold encT
            rw [List.length_map]
            have h1 := tl0 (lefts (l.take i) m ++ lefts1 x (m.take j))
            rw [List.length_append, lefts_len] at h1
            unfold lefts1 at h1
            rw [List.length_map, List.length_take, List.length_take] at h1
            have h2 : min i l.length * m.length ≤ 169 * 169 := Nat.mul_le_mul (by omega) lenM
            exact line_lt (by unfold lefts1; omega)
          have h3 := DPut.k (k := (Sum.inl ((left4 x.1 x.2 y.1 y.2 : Nat) : Int) : Key)) (v := natV (cnt (tally (lefts (l.take i) m ++ lefts1 x (m.take j))) (left4 x.1 x.2 y.1 y.2) + 1)) e2 hlen
          rw [putK_bump _ _ (tnd _), ← tally_snoc, List.append_assoc, ← lefts1_snoc, ← take_snoc hy] at h3
          exact h3
        · refine ⟨_, _, _, rfl, same_at s2 hd, ?_, ?_, upd_same⟩
          · rw [upd_ne (ne_of er1 e2 (by intro z; cases z))]
            exact er1
          · rw [upd_ne (ne_of er2 e2 (by intro z; cases z))]
            exact er2
      · rintro σ H2 ⟨v9, v10, v11, rfl, s2, er1, er2, e2⟩
        refine ⟨_, _, _, _, _, _, _, rfl, s2, ?_⟩
        rw [hM.1, List.take_length] at e2
        rw [take_snoc hx, lefts_snoc]
        exact e2
    · rintro σ H1 ⟨v5, v6, v7, v8, v9, v10, v11, rfl, s1, e1⟩
      rw [hL.1, List.take_length] at e1
      -- total = 0; for left in times
      refine ⟨d, _, e1, trivial, fun od => ?_⟩
      have sl : ∀ H' : Hp, Same H H' → Same H (upd H' d (.dK (encT (tally (lefts l m))))) := fun H' s => same_at s hd
      refine ⟨_, rfl, d, od, rfl, .inl ⟨_, upd_same, for_keys (fun i σ H' => ∃ v11 : Option V, σ = [some (.ref p), some (.ref q), some (natV st), some (.ref t), some (.ref d), v5, v6, v7, v8, v9, v10, v11, some (natV (part ((tally (lefts l m)).take i) st))] ∧ Same H H' ∧ H' d = some (.frz od (.dK (encT (tally (lefts l m))))))
        ⟨v11, rfl, same_at s1 hd, upd_same⟩ (fun i σ H' _ ⟨_, _, _, h⟩ => h) ?_ ?_⟩⟩
      · rintro i kk vv σ H2 hi ⟨v11', rfl, s2, e2⟩
        unfold encT at hi
        rw [List.getElem?_map] at hi
        cases hp2 : (tally (lefts l m))[i]? with
        | none => rw [hp2] at hi; cases hi
        | some pr =>
          rw [hp2] at hi
          cases hi
          refine ⟨_, rfl, ?_⟩
          refine ⟨_, rfl, _, rfl, d, natV pr.2, rfl, .inl ⟨_, Sum.inl (pr.1 : Int), .inr ⟨od, e2⟩, rfl, (valV_at _ i pr (tnd _) hp2).symm⟩, ?_⟩
          refine ⟨_, rfl, _, rfl, _, _, rfl, rfl, pr.1 &&& st, ?_, fun H3 q3 s3 nq3 e3 => ?_⟩
          · dsimp only
            rw [and_nat]
            rfl
          refine ⟨q3, _, rfl, .inl (SqL.of e3), _, _, rfl, rfl, .inr ?_, ?_⟩
          · have := waysIn_length (pr.1 &&& st)
            rw [List.length_map]
            constructor <;> omega
          refine ⟨_, _, rfl, rfl, ?_⟩
          refine ⟨some (natV pr.1), ?_, s2.trans s3, s3 _ _ e2⟩
          rw [take_snoc hp2, part_snoc, List.length_map]
          dsimp only [List.set]
          show _ = [_, _, _, _, _, _, _, _, _, _, _, _, some (V.int ((part (List.take i (tally (lefts l m))) st + pr.2 * (waysIn (pr.1 &&& st)).length : Nat) : Int))]
          rw [Int.natCast_add, Int.natCast_mul]
          rfl
      · rintro σ H2 ⟨v11', rfl, s2, e2⟩
        refine ⟨e2, ?_⟩
        refine ⟨_, rfl, ?_⟩
        have ef : (tally (lefts l m)).take (encT (tally (lefts l m))).length = tally (lefts l m) := by
          unfold encT
          rw [List.length_map, List.take_length]
        rw [ef, part_tally]
        exact k _ (sl _ s2)
end
end Sv
/-! how_many_lists. -/
namespace Sv
open PySem PySem.Spec PyProof.Rows L2

theorem if_dec {c A B : Prop} [Decidable c] (h1 : c → A) (h2 : ¬ c → B) : if decide c = true then A else B := by
  by_cases h : c
  · rw [decide_eq_true h, if_pos rfl]
    exact h1 h
  · rw [decide_eq_false h, if_neg Bool.false_ne_true]
    exact h2 h
theorem howMany_lefts (s : Nat) (m : List (Nat × Nat)) : ∀ l : List (Nat × Nat), howMany (lefts l m) s = (l.map fun p => (m.map fun q => (waysIn (left4 p.1 p.2 q.1 q.2 &&& s)).length).sum).sum
  | [] => rfl
  | p :: l => by
    unfold lefts howMany
    rw [List.flatMap_cons, List.map_append, List.sum_append, List.map_cons, List.sum_cons]
    have := howMany_lefts s m l
    unfold lefts howMany at this
    rw [this]
    congr 1
    unfold lefts1
    rw [List.map_map]
    rfl
theorem toOne_sum (x s1 s0 : Nat) (f : Nat × Nat → Nat) : ((toOne x s1 s0).map f).sum = ((waysIn s1).map fun y => ((waysIn (tab x y &&& s0)).map fun z => f (z, y)).sum).sum := by
  unfold toOne
  rw [List.map_flatMap, sum_flat]
  refine congrArg List.sum (List.map_congr_left fun y _ => ?_)
  rw [List.map_map]
  rfl
theorem toOne_length (x s1 s0 : Nat) : (toOne x s1 s0).length = ((waysIn s1).map fun y => (waysIn (tab x y &&& s0)).length).sum := by
  have e := toOne_sum x s1 s0 fun _ => 1
  simp only [sum_ones] at e
  exact e

/-- what one turn of the loop over the ways between the first two adds -/
def share (net : Kcz9.Net) (n x : Nat) : Nat :=
  if n = 2 then 1 else if n = 3 then (toOne x (net 1 2) (net 0 2)).length else howMany (lefts (toOne x (net 1 2) (net 0 2)) (toOne x (net 1 3) (net 0 3))) (net 2 3)
theorem many_share (net : Kcz9.Net) {n : Nat} (h : n = 2 ∨ n = 3 ∨ n = 4) : ((waysIn (net 0 1)).map (share net n)).sum = (Kcz9.pictures net n).length := by
  rcases h with rfl | rfl | rfl
  · rw [many2]
    exact sum_ones _
  · rw [many3]
    refine congrArg List.sum (List.map_congr_left fun x _ => ?_)
    show share net 3 x = _
    unfold share
    rw [if_neg (by decide), if_pos rfl, toOne_length]
  · rw [many4]
    refine congrArg List.sum (List.map_congr_left fun x _ => ?_)
    show share net 4 x = _
    unfold share
    rw [if_neg (by decide), if_neg (by decide), howMany_lefts, toOne_sum]
    refine congrArg List.sum (List.map_congr_left fun y _ => ?_)
    refine congrArg List.sum (List.map_congr_left fun z _ => ?_)
    rw [toOne_sum]
    rfl
/-- the ways between the first two that some list has -/
def foundIn (net : Kcz9.Net) (n : Nat) (l : List Nat) : Nat := l.foldl (fun acc w => if 0 < share net n w then acc ||| 2 ^ w else acc) 0

abbrev sInLists : Stmt := topS 14
abbrev sWith : Stmt := topS 15
def spWith : Sp := fun vs H Q _ => ∃ (x n : Nat) (d t : Addr) (net : Kcz9.Net), vs = [natV x, natV n, .ref d, .ref t] ∧ x < 13 ∧ 2 ≤ n ∧ n ≤ 4 ∧ SetsAt H d n net ∧ Table H t ∧ ∀ H', Same H H' → Q (natV (share net n x)) H'
def spMany : Sp := fun vs H Q _ => ∃ (n : Nat) (d t : Addr) (net : Kcz9.Net), vs = [natV n, .ref d, .ref t] ∧ 2 ≤ n ∧ n ≤ 4 ∧ SetsAt H d n net ∧ Table H t ∧ ∀ H', Same H H' → Q (natV (Kcz9.pictures net n).length) H'
def spInLists : Sp := fun vs H Q _ => ∃ (n : Nat) (d t : Addr) (net : Kcz9.Net), vs = [natV n, .ref d, .ref t] ∧ 2 ≤ n ∧ n ≤ 4 ∧ SetsAt H d n net ∧ Table H t ∧ ∀ H', Same H H' → Q (natV (foundIn net n (waysIn (net 0 1)))) H'

section
variable {P : Program} {w : World} {K : PySem.W.Frag} {mg : Str → Option Value} {base : Heap}
theorem scWith : FnScope ["way", "count", "sets", "following", "thirds", "fourths"] ["way", "count", "sets", "following"] (defScope sWith) := ⟨rfl, rfl, rfl, by decide +kernel, rfl, by decide +kernel, by decide +kernel⟩
theorem ok_with {f g2 g3 : Addr} {fd gd2 gd3 : FuncData} (F : Fun K "how_many_with" "how_many_with" sWith f fd)
    (O2 : FnOk P w K mg base CX0 2 g2 gd2 ["way", "other", "sets", "following"] spMore) (k2 : PySem.W.keepIn K (.ref g2) = true) (b2 : Binds K gd2 ["way", "other", "sets", "following"] []) (m2 : mg "ways_to_one_more" = some (.ref g2))
    (O3 : FnOk P w K mg base CX0 2 g3 gd3 ["thirds", "fourths", "ways", "following"] spBetw) (k3 : PySem.W.keepIn K (.ref g3) = true) (b3 : Binds K gd3 ["thirds", "fourths", "ways", "following"] []) (m3 : mg "how_many_between" = some (.ref g3)) (M : Glo mg) :
    FnOk P w K mg base CX0 3 f fd ["way", "count", "sets", "following"] spWith := by
  refine F.ok scWith (fun vs H Q E h => ?_) (fun cdv A outer s H vs Q E hr h => ?_)
  · obtain ⟨_, _, _, _, _, rfl, _⟩ := h
    rfl
  · obtain ⟨x, n, d, t, net, rfl, hx13, hn2, hn4, hS, hT, k⟩ := h
    have nd := scWith.nd
    have hu := hu_of hr
    refine ⟨_, pss_cons (ps_if (pt_cmpR op_eq (pv 1) pe_int (nomark _)) (pss_one (ps_ret pe_int)) pss_nil)
      (pss_cons (ps_set (i := 4) nd rfl (Or.inl rfl) (pe_call O2 hr rfl m2 k2 b2 .nil pass0 (pa_cons (pv 0) (pa_cons pe_int (pa_cons (pv 2) (pa_cons (pv 3) pa_nil))))))
      (pss_cons (ps_if (pt_cmpR op_eq (pv 1) pe_int (nomark _)) (pss_one (ps_ret (pe_callB call_len_seq (by rfl) M.len PySem.boot_len (pa_cons (pv 4) pa_nil)))) pss_nil)
      (pss_cons (ps_set (i := 5) nd rfl (Or.inl rfl) (pe_call O2 hr rfl m2 k2 b2 .nil pass0 (pa_cons (pv 0) (pa_cons pe_int (pa_cons (pv 2) (pa_cons (pv 3) pa_nil))))))
      (pss_one (ps_ret (pe_call O3 hr rfl m3 k3 b3 .nil pass0 (pa_cons (pv 4) (pa_cons (pv 5) (pa_cons (pe_dget hu (pv 2) (pe_tup (pa_cons pe_int (pa_cons pe_int pa_nil))) (fun _ _ => rfl)) (pa_cons (pv 3) pa_nil)))))))))), ?_⟩
    refine ⟨_, rfl, rfl, _, rfl, ?_⟩
    refine if_dec (fun ec => ?_) (fun ec => ?_)
    · have c2 : n = 2 := Int.ofNat.inj (V.int.inj ec)
      subst c2
      have := k H (Same.refl _)
      unfold share at this
      rw [if_pos rfl] at this
      exact this
    · have c2 : n ≠ 2 := fun e => ec (by rw [e]; rfl)
      have cn : n = 3 ∨ n = 4 := by omega
      -- thirds
      refine ⟨_, rfl, _, rfl, _, rfl, x, 2, d, t, n, net, rfl, hx13, by decide, by omega, hS, hT, fun H4 p4 us4 s4 np4 e4 r4 => ?_⟩
      refine ⟨_, rfl, rfl, _, rfl, ?_⟩
      refine if_dec (fun ec3 => ?_) (fun ec3 => ?_)
      · have c3 : n = 3 := Int.ofNat.inj (V.int.inj ec3)
        subst c3
        refine ⟨_, rfl, p4, us4, rfl, .inl (SqL.of e4), ?_⟩
        have := k H4 s4
        unfold share at this
        rw [if_neg (by decide), if_pos rfl, ← r4.1] at this
        exact this
      · have c3 : n ≠ 3 := fun e => ec3 (by rw [e]; rfl)
        have c4 : n = 4 := by omega
        subst c4
        -- fourths
        refine ⟨_, rfl, _, rfl, _, rfl, x, 3, d, t, 4, net, rfl, hx13, by decide, by decide, hS.same s4, hT.same s4, fun H5 p5 us5 s5 np5 e5 r5 => ?_⟩
        refine ⟨_, rfl, _, rfl, _, rfl, by decide, fun c hc => ?_⟩
        have s35 : Same H H5 := s4.trans s5
        refine ⟨d, natV (net 2 3), rfl, hS.get (i := 2) (j := 3) (by decide) (by decide) (s35.trans (same_new hc)) upd_same, _, rfl, ?_⟩
        have sc := same_new (o := .tup [.int 2, .int 3]) hc
        refine ⟨p4, p5, t, us4, us5, toOne x (net 1 2) (net 0 2), toOne x (net 1 3) (net 0 3), net 2 3, rfl, sc _ _ (s5 _ _ e4), (r4.mono (rPair.same s5)).mono (rPair.same sc), sc _ _ e5, r5.mono (rPair.same sc),
          fun p hp => toOne_lt hp, fun p hp => toOne_lt hp, toOne_len _ _ _, toOne_len _ _ _, hT.same (s35.trans sc), fun H6 s6 => ?_⟩
        have := k H6 ((s35.trans sc).trans s6)
        unfold share at this
        rw [if_neg (by decide), if_neg (by decide)] at this
        exact this

theorem scMany : FnScope ["count", "sets", "following", "total", "way"] ["count", "sets", "following"] (defScope sMany) := ⟨rfl, rfl, rfl, by decide +kernel, rfl, by decide +kernel, by decide +kernel⟩
theorem ok_many {f g g2 : Addr} {fd gd gd2 : FuncData} (F : Fun K "how_many_lists" "how_many_lists" sMany f fd) (OG : FnOk P w K mg base CX0 1 g gd ["ways"] spIn) (kG : PySem.W.keepIn K (.ref g) = true) (bG : Binds K gd ["ways"] []) (mG : mg "ways_in" = some (.ref g))
    (O2 : FnOk P w K mg base CX0 3 g2 gd2 ["way", "count", "sets", "following"] spWith) (k2 : PySem.W.keepIn K (.ref g2) = true) (b2 : Binds K gd2 ["way", "count", "sets", "following"] []) (m2 : mg "how_many_with" = some (.ref g2)) :
    FnOk P w K mg base CX0 4 f fd ["count", "sets", "following"] spMany := by
  refine F.ok scMany (fun vs H Q E h => ?_) (fun cdv A outer s H vs Q E hr h => ?_)
  · obtain ⟨_, _, _, _, rfl, _⟩ := h
    rfl
  · obtain ⟨n, d, t, net, rfl, hn2, hn4, hS, hT, k⟩ := h
    have nd := scMany.nd
    have hu := hu_of hr
    have hr1 : Room 1 _ := hr.mono (by decide)
    refine ⟨_, pss_cons (ps_set (i := 3) nd rfl (Or.inl rfl) pe_int)
      (pss_cons (ps_for PassesOwn.never rfl (pi_list (pe_call OG hr1 rfl mG kG bG .nil pass0 (pa_cons (pe_dget hu (pv 1) (pe_tup (pa_cons pe_int (pa_cons pe_int pa_nil))) (fun _ _ => rfl)) pa_nil))) (pg_name (i := 4) nd rfl (Or.inl rfl))
        (pss_one (ps_aug (i := 3) nd rfl (Or.inl rfl) (pe_call O2 hr rfl m2 k2 b2 .nil pass0 (pa_cons (pv 4) (pa_cons (pv 0) (pa_cons (pv 1) (pa_cons (pv 2) pa_nil))))) ip_add)))
      (pss_one (ps_ret (pv 3)))), ?_⟩
    refine ⟨_, rfl, by decide, fun b hb => ⟨d, natV (net 0 1), rfl, hS.get (i := 0) (j := 1) (by decide) (by omega) (same_new hb) upd_same, net 0 1, rfl, fun H2 q s2 nq e2 => ?_⟩⟩
    have s02 : Same H H2 := (same_new hb).trans s2
    refine ⟨q, rfl, ⟨_, SqL.of e2⟩, for_list (K := K) (a := q) (xs := (waysIn (net 0 1)).map natV) (fun i σ H' => ∃ (v4 : Option V), σ = [some (natV n), some (.ref d), some (.ref t), some (natV (((waysIn (net 0 1)).take i).map (share net n)).sum), v4] ∧ Same H H' ∧ H' q = some (.lst ((waysIn (net 0 1)).map natV)))
      ⟨none, rfl, s02, e2⟩ (fun i σ H' _ ⟨_, _, _, h⟩ => SqL.of h) ?_ ?_⟩
    · rintro i v σ H3 hi ⟨v4, rfl, s3, e3⟩
      obtain ⟨x, hx, rfl⟩ := map_at hi
      have hx13 : x < 13 := (mem_waysIn.mp (List.mem_of_getElem? hx)).1
      refine ⟨_, rfl, _, rfl, _, rfl, _, rfl, _, rfl, x, n, d, t, net, rfl, hx13, hn2, hn4, hS.same s3, hT.same s3, fun H4 s4 => ?_⟩
      refine ⟨_, _, rfl, rfl, some (natV x), ?_, s3.trans s4, s4 _ _ e3⟩
      have hsum : (((waysIn (net 0 1)).take (i + 1)).map (share net n)).sum = (((waysIn (net 0 1)).take i).map (share net n)).sum + share net n x := by
        rw [take_snoc hx, List.map_append, List.sum_append]
        simp
      rw [hsum]
      dsimp only [List.set]
      show [_, _, _, some (V.int ((_ : Int) + _)), _] = [_, _, _, some (V.int ((_ + share net n x : Nat) : Int)), _]
      rw [Int.natCast_add]
    · rintro σ H3 ⟨v4, rfl, s3, e3⟩
      refine ⟨_, rfl, ?_⟩
      rw [List.length_map, List.take_length, many_share net (by omega)]
      exact k _ s3

theorem scInLists : FnScope ["count", "sets", "following", "found", "way"] ["count", "sets", "following"] (defScope sInLists) := ⟨rfl, rfl, rfl, by decide +kernel, rfl, by decide +kernel, by decide +kernel⟩
theorem ok_inlists {f g g2 : Addr} {fd gd gd2 : FuncData} (F : Fun K "ways_in_lists" "ways_in_lists" sInLists f fd) (OG : FnOk P w K mg base CX0 1 g gd ["ways"] spIn) (kG : PySem.W.keepIn K (.ref g) = true) (bG : Binds K gd ["ways"] []) (mG : mg "ways_in" = some (.ref g))
    (O2 : FnOk P w K mg base CX0 3 g2 gd2 ["way", "count", "sets", "following"] spWith) (k2 : PySem.W.keepIn K (.ref g2) = true) (b2 : Binds K gd2 ["way", "count", "sets", "following"] []) (m2 : mg "how_many_with" = some (.ref g2)) :
    FnOk P w K mg base CX0 4 f fd ["count", "sets", "following"] spInLists := by
  refine F.ok scInLists (fun vs H Q E h => ?_) (fun cdv A outer s H vs Q E hr h => ?_)
  · obtain ⟨_, _, _, _, rfl, _⟩ := h
    rfl
  · obtain ⟨n, d, t, net, rfl, hn2, hn4, hS, hT, k⟩ := h
    have nd := scInLists.nd
    have hu := hu_of hr
    have hr1 : Room 1 _ := hr.mono (by decide)
    refine ⟨_, pss_cons (ps_set (i := 3) nd rfl (Or.inl rfl) pe_int)
      (pss_cons (ps_for PassesOwn.never rfl (pi_list (pe_call OG hr1 rfl mG kG bG .nil pass0 (pa_cons (pe_dget hu (pv 1) (pe_tup (pa_cons pe_int (pa_cons pe_int pa_nil))) (fun _ _ => rfl)) pa_nil))) (pg_name (i := 4) nd rfl (Or.inl rfl))
        (pss_one (ps_if (pt_cmpR op_gt (pe_call O2 hr rfl m2 k2 b2 .nil pass0 (pa_cons (pv 4) (pa_cons (pv 0) (pa_cons (pv 1) (pa_cons (pv 2) pa_nil))))) pe_int (nomark _))
          (pss_one (ps_set (i := 3) nd rfl (Or.inl rfl) (pe_op op_or (pv 3) (pe_op op_shl pe_int (pv 4))))) pss_nil)))
      (pss_one (ps_ret (pv 3)))), ?_⟩
    refine ⟨_, rfl, by decide, fun b hb => ⟨d, natV (net 0 1), rfl, hS.get (i := 0) (j := 1) (by decide) (by omega) (same_new hb) upd_same, net 0 1, rfl, fun H2 q s2 nq e2 => ?_⟩⟩
    have s02 : Same H H2 := (same_new hb).trans s2
    refine ⟨q, rfl, ⟨_, SqL.of e2⟩, for_list (K := K) (a := q) (xs := (waysIn (net 0 1)).map natV) (fun i σ H' => ∃ (v4 : Option V), σ = [some (natV n), some (.ref d), some (.ref t), some (natV (foundIn net n ((waysIn (net 0 1)).take i))), v4] ∧ Same H H' ∧ H' q = some (.lst ((waysIn (net 0 1)).map natV)))
      ⟨none, rfl, s02, e2⟩ (fun i σ H' _ ⟨_, _, _, h⟩ => SqL.of h) ?_ ?_⟩
    · rintro i v σ H3 hi ⟨v4, rfl, s3, e3⟩
      obtain ⟨x, hx, rfl⟩ := map_at hi
      have hx13 : x < 13 := (mem_waysIn.mp (List.mem_of_getElem? hx)).1
      have hf : foundIn net n ((waysIn (net 0 1)).take (i + 1)) = if 0 < share net n x then foundIn net n ((waysIn (net 0 1)).take i) ||| 2 ^ x else foundIn net n ((waysIn (net 0 1)).take i) := by
        unfold foundIn
        rw [take_snoc hx, List.foldl_append]
        rfl
      refine ⟨_, rfl, _, rfl, _, rfl, _, rfl, x, n, d, t, net, rfl, hx13, hn2, hn4, hS.same s3, hT.same s3, fun H4 s4 => ?_⟩
      refine ⟨_, _, rfl, rfl, _, rfl, ?_⟩
      refine if_dec (fun c => ?_) (fun c => ?_)
      · have c : 0 < share net n x := Int.ofNat_lt.mp c
        refine ⟨_, rfl, _, rfl, 1, (x : Int), rfl, rfl, ⟨Int.natCast_nonneg _, by omega, by decide⟩, _, _, rfl, rfl, some (natV x), ?_, s3.trans s4, s4 _ _ e3⟩
        rw [hf, if_pos c]
        dsimp only [List.set]
        rw [shl_nat, or_nat]
        rfl
      · have c : ¬ 0 < share net n x := fun z => c (Int.ofNat_lt.mpr z)
        refine ⟨some (natV x), ?_, s3.trans s4, s4 _ _ e3⟩
        rw [hf, if_neg c]
        rfl
    · rintro σ H3 ⟨v4, rfl, s3, e3⟩
      refine ⟨_, rfl, ?_⟩
      rw [List.length_map, List.take_length]
      exact k _ s3
end
end Sv
/-! ways_through. -/
namespace Sv
open PySem PySem.Spec PyProof.Rows L2
abbrev sThrough : Stmt := topS 11
def thru1 (t x a : Nat) (l : List Nat) : Nat := l.foldl (fun acc y => acc ||| tab x y) a
def thru (t : Nat) (l : List Nat) : Nat := l.foldl (fun acc x => thru1 t x acc (waysIn t)) 0
theorem thru_bit (t k : Nat) : ∀ (l : List Nat) (a : Nat), (l.foldl (fun acc x => thru1 t x acc (waysIn t)) a).testBit k = (a.testBit k || l.any fun x => (waysIn t).any fun y => (tab x y).testBit k)
  | [], a => by simp
  | x :: l, a => by
    rw [List.foldl_cons, thru_bit t k l]
    unfold thru1
    rw [fold_or, List.any_cons, Bool.or_assoc]
theorem thru_is (s t : Nat) : thru t (waysIn s) = Kcz9.through s t := by
  apply Nat.eq_of_testBit_eq
  intro k
  unfold thru
  rw [thru_bit, Nat.zero_testBit, Bool.false_or, ← bit_testBit, Bool.eq_iff_iff, through_bit, List.any_eq_true]
  constructor
  · rintro ⟨x, hx, h⟩
    obtain ⟨y, hy, h⟩ := List.any_eq_true.mp h
    obtain ⟨x1, x2⟩ := mem_waysIn.mp hx
    obtain ⟨y1, y2⟩ := mem_waysIn.mp hy
    refine ⟨?_, x, y, x1, y1, x2, y2, by rw [bit_testBit]; exact h⟩
    rcases Nat.lt_or_ge k 13 with c | c
    · exact c
    · have := tab_lt x x1 y y1
      rw [Nat.testBit_lt_two_pow (Nat.lt_of_lt_of_le this (Nat.pow_le_pow_right (n := 2) (by decide) c))] at h
      cases h
  · rintro ⟨hk, x, y, x1, y1, x2, y2, h⟩
    exact ⟨x, mem_waysIn.mpr ⟨x1, x2⟩, List.any_eq_true.mpr ⟨y, mem_waysIn.mpr ⟨y1, y2⟩, by rw [← bit_testBit]; exact h⟩⟩

def spThrough : Sp := fun vs H Q _ => ∃ (s t : Nat) (a : Addr), vs = [natV s, natV t, .ref a] ∧ Table H a ∧ ∀ H', Same H H' → Q (natV (Kcz9.through s t)) H'
section
variable {P : Program} {w : World} {K : PySem.W.Frag} {mg : Str → Option Value} {base : Heap}
theorem scThrough : FnScope ["first", "second", "following", "found", "one", "other"] ["first", "second", "following"] (defScope sThrough) := ⟨rfl, rfl, rfl, by decide +kernel, rfl, by decide +kernel, by decide +kernel⟩
theorem ok_through {f g : Addr} {fd gd : FuncData} (F : Fun K "ways_through" "ways_through" sThrough f fd) (OG : FnOk P w K mg base CX0 1 g gd ["ways"] spIn) (kG : PySem.W.keepIn K (.ref g) = true) (bG : Binds K gd ["ways"] []) (mG : mg "ways_in" = some (.ref g)) :
    FnOk P w K mg base CX0 2 f fd ["first", "second", "following"] spThrough := by
  refine F.ok scThrough (fun vs H Q E h => ?_) (fun cdv A outer s H vs Q E hr h => ?_)
  · obtain ⟨_, _, _, rfl, _⟩ := h
    rfl
  · obtain ⟨n, m, t, rfl, hT, k⟩ := h
    have nd := scThrough.nd
    refine ⟨_, pss_cons (ps_set (i := 3) nd rfl (Or.inl rfl) pe_int)
      (pss_cons (ps_for PassesOwn.never rfl (pi_list (pe_call OG hr rfl mG kG bG .nil pass0 (pa_cons (pv 0) pa_nil))) (pg_name (i := 4) nd rfl (Or.inl rfl))
        (pss_one (ps_for PassesOwn.never rfl (pi_list (pe_call OG hr rfl mG kG bG .nil pass0 (pa_cons (pv 1) pa_nil))) (pg_name (i := 5) nd rfl (Or.inl rfl))
          (pss_one (ps_set (i := 3) nd rfl (Or.inl rfl) (pe_op op_or (pv 3) (pe_ix ix_list (pe_ix ix_list (pv 2) (pv 4) (fun _ _ => rfl)) (pv 5) (fun _ _ => rfl))))))))
      (pss_one (ps_ret (pv 3)))), ?_⟩
    refine ⟨_, rfl, n, rfl, fun H1 p s1 np e1 => ?_⟩
    refine ⟨p, rfl, ⟨_, SqL.of e1⟩, for_list (K := K) (a := p) (xs := (waysIn n).map natV) (fun i σ H' => ∃ v4 v5 : Option V, σ = [some (natV n), some (natV m), some (.ref t), some (natV (thru m ((waysIn n).take i))), v4, v5] ∧ Same H H' ∧ H' p = some (.lst ((waysIn n).map natV)))
      ⟨none, none, rfl, s1, e1⟩ (fun i σ H' _ ⟨_, _, _, _, h⟩ => SqL.of h) ?_ ?_⟩
    · rintro i y σ H2 hi ⟨v4, v5, rfl, s2, e2⟩
      obtain ⟨x, hx, rfl⟩ := map_at hi
      have hx13 : x < 13 := (mem_waysIn.mp (List.mem_of_getElem? hx)).1
      refine ⟨_, rfl, m, rfl, fun H3 q s3 nq e3 => ?_⟩
      refine ⟨q, rfl, ⟨_, SqL.of e3⟩, for_list (K := K) (a := q) (xs := (waysIn m).map natV) (fun j σ H' => ∃ v5 : Option V, σ = [some (natV n), some (natV m), some (.ref t), some (natV (thru1 m x (thru m ((waysIn n).take i)) ((waysIn m).take j))), some (natV x), v5] ∧ Same H H' ∧ H' p = some (.lst ((waysIn n).map natV)) ∧ H' q = some (.lst ((waysIn m).map natV)))
        ⟨v5, rfl, s2.trans s3, s3 _ _ e2, e3⟩ (fun i σ H' _ ⟨_, _, _, _, h⟩ => SqL.of h) ?_ ?_⟩
      · rintro j z σ H4 hj ⟨v5', rfl, s4, e4, eq4⟩
        obtain ⟨y, hy, rfl⟩ := map_at hj
        have hy13 : y < 13 := (mem_waysIn.mp (List.mem_of_getElem? hy)).1
        obtain ⟨us, r, h1, h2, h3⟩ := (hT.same s4).row hx13
        refine ⟨_, rfl, _, rfl, _, rfl, t, _, _, .ref r, rfl, rfl, SqL.of h1, atI_nat h2, ?_⟩
        refine ⟨_, rfl, r, _, (y : Int), natV (tab x y), rfl, rfl, SqL.of h3, atI_nat (tab_at hx13 hy13), ?_⟩
        refine ⟨_, (tab x y : Int), rfl, rfl, some (natV y), ?_, s4, e4, eq4⟩
        dsimp only [List.set]
        rw [or_nat, take_snoc hy]
        unfold thru1
        rw [List.foldl_append]
        rfl
      · rintro σ H4 ⟨v5', rfl, s4, e4, eq4⟩
        refine ⟨some (natV x), v5', ?_, s4, e4⟩
        rw [List.length_map, List.take_length, take_snoc hx]
        unfold thru
        rw [List.foldl_append]
        rfl
    · rintro σ H2 ⟨v4, v5, rfl, s2, e2⟩
      rw [List.length_map, List.take_length]
      refine ⟨_, rfl, ?_⟩
      rw [thru_is]
      exact k _ s2
end
end Sv
/-! May: the lists of spans, numbered anew. -/
namespace Sv
open Kcz9

/-! ### what fits, by any two -/
theorem fitAll_iff (net : Net) : ∀ (r l : List Span), fitAll net l r = true ↔
    ∀ i j x y, i < j → l.length ≤ j → (l ++ r)[i]? = some x → (l ++ r)[j]? = some y → bit (net i j) (lies x y) = true
  | [], l => by
    refine ⟨fun _ i j x y _ hj _ h => ?_, fun _ => rfl⟩
    rw [List.append_nil, List.getElem?_eq_none hj] at h
    cases h
  | z :: r, l => by
    have ih := fitAll_iff net r (l ++ [z])
    have ea : l ++ [z] ++ r = l ++ z :: r := by rw [List.append_assoc]; rfl
    rw [ea, List.length_append] at ih
    show (fitLast net l z && fitAll net (l ++ [z]) r) = true ↔ _
    rw [Bool.and_eq_true, ih]
    have ez : (l ++ z :: r)[l.length]? = some z := by rw [List.getElem?_append_right (Nat.le_refl _), Nat.sub_self]; rfl
    constructor
    · rintro ⟨h1, h2⟩ i j x y hij hj hx hy
      by_cases c : j = l.length
      · subst c
        rw [ez] at hy
        cases hy
        rw [List.getElem?_append_left hij] at hx
        have h := List.all_eq_true.mp h1 i (List.mem_range.mpr hij)
        rw [hx] at h
        exact h
      · exact h2 i j x y hij (by show l.length + 1 ≤ j; omega) hx hy
    · intro h
      refine ⟨List.all_eq_true.mpr fun i hi => ?_, fun i j x y hij hj hx hy => h i j x y hij (by have : l.length + 1 ≤ j := hj; omega) hx hy⟩
      have hi := List.mem_range.mp hi
      have e : l[i]? = some l[i] := List.getElem?_eq_getElem hi
      rw [e]
      exact h i l.length l[i] z hi (Nat.le_refl _) (by rw [List.getElem?_append_left hi]; exact e) ez
theorem fit_iff (net : Net) (c : Picture) : fitB net c = true ↔ ∀ i j x y, i < j → c.spans[i]? = some x → c.spans[j]? = some y → bit (net i j) (lies x y) = true := by
  unfold fitB
  rw [fitAll_iff]
  simp only [List.nil_append, List.length_nil, Nat.zero_le, true_implies]

/-! ### the other way about -/
theorem lies_swap {x y : Span} (hx : x.a < x.b) (hy : y.a < y.b) : lies y x = 12 - lies x y := by
  unfold lies
  repeat' split
  all_goals omega
theorem bit_turned {s k : Nat} (h : k < 13) : bit (Kcz9.turned s) k = bit s (12 - k) := by
  unfold Kcz9.turned
  rw [bit_setOf, decide_eq_true h, Bool.true_and]
/-- how span a may lie to span b -/
def how (net : Net) (a b : Nat) : Nat := if a < b then net a b else Kcz9.turned (net b a)
def netO (net : Net) (o : List Nat) : Net := fun a b => how net (o.getD a 0) (o.getD b 0)
theorem how_bit {net : Net} {a b : Nat} {x y : Span} (hx : x.a < x.b) (hy : y.a < y.b) : bit (how net a b) (lies x y) = if a < b then bit (net a b) (lies x y) else bit (net b a) (lies y x) := by
  unfold how
  split
  · rfl
  · rw [bit_turned (lies_lt x y), lies_swap hx hy]

theorem Can.congr {l l' : List Span} {m : Nat} (h : Can l m) (e : ∀ x, x ∈ l' ↔ x ∈ l) : Can l' m :=
  ⟨fun x hx => h.lo x ((e x).mp hx), fun x hx => h.up x ((e x).mp hx), fun x hx => h.hi x ((e x).mp hx), fun k hk => let ⟨x, hx, r⟩ := h.all k hk; ⟨x, (e x).mpr hx, r⟩⟩
def noSpan : Span := ⟨0, 0⟩
theorem getD_some {α : Type} {l : List α} {k : Nat} {d x : α} (h : l[k]? = some x) : l.getD k d = x := by
  rw [List.getD_eq_getElem?_getD, h]
  rfl
theorem get_getD {α : Type} {l : List α} {k : Nat} {d : α} (h : k < l.length) : l[k]? = some (l.getD k d) := by
  rw [List.getD_eq_getElem?_getD, List.getElem?_eq_getElem h]
  rfl

/-- an order of the numbers below n -/
structure Ord (n : Nat) (o : List Nat) : Prop where
  nd : o.Nodup
  mem : ∀ k, k ∈ o ↔ k < n
theorem Ord.len {n : Nat} {o : List Nat} (h : Ord n o) : o.length = n := by
  have p : o.Perm (List.range n) := (List.perm_ext_iff_of_nodup h.nd List.nodup_range).mpr fun k => by rw [h.mem, List.mem_range]
  rw [p.length_eq, List.length_range]
theorem Ord.at_lt {n : Nat} {o : List Nat} (h : Ord n o) {a : Nat} (ha : a < n) : o.getD a 0 < n := by
  rw [← h.mem]
  exact List.mem_of_getElem? (get_getD (by rw [h.len]; exact ha))
theorem Ord.ne {n : Nat} {o : List Nat} (h : Ord n o) {a b : Nat} (ha : a < n) (hb : b < n) (hab : a ≠ b) : o.getD a 0 ≠ o.getD b 0 := by
  intro e
  have h1 : o[a]? = some (o.getD a 0) := get_getD (by rw [h.len]; exact ha)
  have h2 : o[b]? = some (o.getD b 0) := get_getD (by rw [h.len]; exact hb)
  rw [← e, ← h1] at h2
  exact hab ((List.getElem?_inj (by rw [h.len]; exact ha) h.nd).mp h2.symm)

/-- numbered anew -/
theorem anew {net : Net} {n : Nat} {o : List Nat} (O : Ord n o) {c : Picture} (hc : c ∈ P n) (hf : fitB net c = true) :
    ∃ c' ∈ P n, fitB (netO net o) c' = true ∧ ∀ a, a < n → c'.spans[a]? = c.spans[o.getD a 0]? := by
  obtain ⟨hl, hcan⟩ := (mem_P n c).mp hc
  have at' : ∀ a, a < n → (o.map fun k => c.spans.getD k noSpan)[a]? = c.spans[o.getD a 0]? := by
    intro a ha
    rw [List.getElem?_map, get_getD (l := o) (d := 0) (by rw [O.len]; exact ha), get_getD (l := c.spans) (d := noSpan) (by rw [hl]; exact O.at_lt ha)]
    rfl
  refine ⟨⟨o.map fun k => c.spans.getD k noSpan, c.m⟩, (mem_P n _).mpr ⟨by rw [List.length_map, O.len], hcan.congr fun x => ?_⟩, ?_, at'⟩
  · rw [List.mem_map]
    constructor
    · rintro ⟨k, hk, rfl⟩
      exact List.mem_of_getElem? (get_getD (by rw [hl]; exact (O.mem k).mp hk))
    · intro hx
      obtain ⟨k, hk⟩ := List.getElem?_of_mem hx
      exact ⟨k, (O.mem k).mpr (by rw [← hl]; exact (List.getElem?_eq_some_iff.mp hk).1), getD_some hk⟩
  · rw [fit_iff]
    intro i j x y hij hx hy
    have hj : j < n := by
      have := (List.getElem?_eq_some_iff.mp hy).1
      rw [List.length_map, O.len] at this
      exact this
    have hi : i < n := by omega
    have ex : c.spans[o.getD i 0]? = some x := (at' i hi).symm.trans hx
    have ey : c.spans[o.getD j 0]? = some y := (at' j hj).symm.trans hy
    have hne := O.ne hi hj (by omega)
    unfold netO
    rw [how_bit (hcan.up x (List.mem_of_getElem? ex)) (hcan.up y (List.mem_of_getElem? ey))]
    split
    · rename_i h
      exact (fit_iff net c).mp hf _ _ x y h ex ey
    · exact (fit_iff net c).mp hf _ _ y x (by omega) ey ex
theorem back {net : Net} {n : Nat} {o : List Nat} (O : Ord n o) {c' : Picture} (hc : c' ∈ P n) (hf : fitB (netO net o) c' = true) :
    ∃ c ∈ P n, fitB net c = true ∧ ∀ a, a < n → c.spans[o.getD a 0]? = c'.spans[a]? := by
  obtain ⟨hl, hcan⟩ := (mem_P n c').mp hc
  have ix : ∀ k, k < n → o.idxOf k < n ∧ o.getD (o.idxOf k) 0 = k := by
    intro k hk
    have hm : k ∈ o := (O.mem k).mpr hk
    have h1 : o.idxOf k < o.length := List.idxOf_lt_length_iff.mpr hm
    refine ⟨by rw [← O.len]; exact h1, ?_⟩
    rw [List.getD_eq_getElem?_getD, List.getElem?_eq_getElem h1]
    exact List.getElem_idxOf h1
  have at' : ∀ k, k < n → ((List.range n).map fun k => c'.spans.getD (o.idxOf k) noSpan)[k]? = c'.spans[o.idxOf k]? := by
    intro k hk
    rw [List.getElem?_map, List.getElem?_range hk, get_getD (l := c'.spans) (d := noSpan) (by rw [hl]; exact (ix k hk).1)]
    rfl
  refine ⟨⟨(List.range n).map fun k => c'.spans.getD (o.idxOf k) noSpan, c'.m⟩, (mem_P n _).mpr ⟨by rw [List.length_map, List.length_range], hcan.congr fun x => ?_⟩, ?_, ?_⟩
  · rw [List.mem_map]
    constructor
    · rintro ⟨k, hk, rfl⟩
      exact List.mem_of_getElem? (get_getD (by rw [hl]; exact (ix k (List.mem_range.mp hk)).1))
    · intro hx
      obtain ⟨a, ha⟩ := List.getElem?_of_mem hx
      have han : a < n := by rw [← hl]; exact (List.getElem?_eq_some_iff.mp ha).1
      have h2 := O.at_lt han
      refine ⟨o.getD a 0, List.mem_range.mpr h2, ?_⟩
      have h3 : o.idxOf (o.getD a 0) = a := Decidable.byContradiction fun hne => O.ne (ix _ h2).1 han hne (ix _ h2).2
      rw [h3]
      exact getD_some ha
  · rw [fit_iff]
    intro i j x y hij hx hy
    have hj : j < n := by
      have := (List.getElem?_eq_some_iff.mp hy).1
      rw [List.length_map, List.length_range] at this
      exact this
    have hi : i < n := by omega
    have ex : c'.spans[o.idxOf i]? = some x := (at' i hi).symm.trans hx
    have ey : c'.spans[o.idxOf j]? = some y := (at' j hj).symm.trans hy
    obtain ⟨i1, i2⟩ := ix i hi
    obtain ⟨j1, j2⟩ := ix j hj
    have ux := hcan.up x (List.mem_of_getElem? ex)
    have uy := hcan.up y (List.mem_of_getElem? ey)
    by_cases c : o.idxOf i < o.idxOf j
    · have h := (fit_iff _ c').mp hf _ _ x y c ex ey
      unfold netO at h
      rw [how_bit ux uy, i2, j2, if_pos hij] at h
      exact h
    · have hne : o.idxOf i ≠ o.idxOf j := fun e => by rw [e, j2] at i2; omega
      have h := (fit_iff _ c').mp hf _ _ y x (by omega) ey ex
      unfold netO at h
      rw [how_bit uy ux, i2, j2, if_neg (by omega)] at h
      exact h
  · intro a ha
    have h2 := O.at_lt ha
    have h3 : o.idxOf (o.getD a 0) = a := Decidable.byContradiction fun hne => O.ne (ix _ h2).1 ha hne (ix _ h2).2
    show ((List.range n).map fun k => c'.spans.getD (o.idxOf k) noSpan)[o.getD a 0]? = _
    rw [at' _ h2, h3]

/-! ### one way between the first two -/
def netX (net : Net) (k : Nat) : Net := fun i j => if i = 0 ∧ j = 1 then 2 ^ k else net i j
theorem waysIn_pow {k : Nat} (h : k < 13) : waysIn (2 ^ k) = [k] := by
  have : ∀ k, k < 13 → waysIn (2 ^ k) = [k] := by decide +kernel
  exact this k h
theorem bit_pow (k j : Nat) : bit (2 ^ k) j = true ↔ j = k := by
  rw [bit_testBit, Nat.testBit_two_pow, decide_eq_true_iff]
  exact eq_comm
theorem share_pos (net : Net) {n k : Nat} (hn : n = 2 ∨ n = 3 ∨ n = 4) (hk : k < 13) : 0 < share net n k ↔ ∃ c ∈ P n, fitB (netX net k) c = true := by
  have e := many_share (netX net k) hn
  have e0 : netX net k 0 1 = 2 ^ k := rfl
  rw [e0, waysIn_pow hk] at e
  have e1 : share (netX net k) n k = share net n k := rfl
  rw [List.map_singleton, List.sum_singleton, e1] at e
  rw [e, pictures_eq, List.length_pos_iff_exists_mem]
  simp only [List.mem_filter]
theorem foundIn_bit (net : Net) (n k : Nat) : ∀ (l : List Nat) (a : Nat), (l.foldl (fun acc w => if 0 < share net n w then acc ||| 2 ^ w else acc) a).testBit k = (a.testBit k || l.any fun w => decide (0 < share net n w) && decide (w = k))
  | [], a => by simp
  | w :: l, a => by
    rw [List.foldl_cons, foundIn_bit net n k l, List.any_cons, ← Bool.or_assoc]
    congr 1
    by_cases c : 0 < share net n w
    · rw [if_pos c, Nat.testBit_or, Nat.testBit_two_pow, decide_eq_true c, Bool.true_and]
    · rw [if_neg c, decide_eq_false c, Bool.false_and, Bool.or_false]

/-- what may between i and j answers -/
def mayOf (net : Net) (n i j : Nat) : Nat :=
  setOf fun k => ((pictures net n).filterMap fun c => match c.spans[i]?, c.spans[j]? with
    | some x, some y => some (lies x y)
    | _, _ => none).contains k
theorem may_is (net : Net) {n i j : Nat} {o : List Nat} (hn : n = 2 ∨ n = 3 ∨ n = 4) (O : Ord n o) (h0 : o.getD 0 0 = i) (h1 : o.getD 1 0 = j) :
    foundIn (netO net o) n (waysIn (netO net o 0 1)) = mayOf net n i j := by
  apply Nat.eq_of_testBit_eq
  intro k
  unfold foundIn mayOf
  rw [foundIn_bit, Nat.zero_testBit, Bool.false_or, testBit_setOf]
  rw [Bool.eq_iff_iff, List.any_eq_true, Bool.and_eq_true, decide_eq_true_iff, List.contains_iff_mem, List.mem_filterMap]
  constructor
  · rintro ⟨w, hw, h⟩
    rw [Bool.and_eq_true, decide_eq_true_iff, decide_eq_true_iff] at h
    obtain ⟨hs, rfl⟩ := h
    obtain ⟨w1, w2⟩ := mem_waysIn.mp hw
    refine ⟨w1, ?_⟩
    obtain ⟨c', hc', hf⟩ := (share_pos _ hn w1).mp hs
    have hl := ((mem_P n c').mp hc').1
    have e0 : c'.spans[0]? = some (c'.spans.getD 0 noSpan) := get_getD (by omega)
    have e1 : c'.spans[1]? = some (c'.spans.getD 1 noSpan) := get_getD (by omega)
    have hk : lies (c'.spans.getD 0 noSpan) (c'.spans.getD 1 noSpan) = w := (bit_pow w _).mp ((fit_iff _ c').mp hf 0 1 _ _ (by decide) e0 e1)
    have hf' : fitB (netO net o) c' = true := by
      rw [fit_iff]
      intro a b x y hab hx hy
      by_cases c : a = 0 ∧ b = 1
      · obtain ⟨rfl, rfl⟩ := c
        rw [e0] at hx
        rw [e1] at hy
        cases hx
        cases hy
        rw [hk]
        exact w2
      · have := (fit_iff _ c').mp hf a b x y hab hx hy
        unfold netX at this
        rw [if_neg c] at this
        exact this
    obtain ⟨c, hc, hfc, hat⟩ := back O hc' hf'
    have a0 := hat 0 (by omega)
    have a1 := hat 1 (by omega)
    rw [h0, e0] at a0
    rw [h1, e1] at a1
    refine ⟨c, by rw [pictures_eq]; exact List.mem_filter.mpr ⟨hc, hfc⟩, ?_⟩
    rw [a0, a1]
    exact congrArg some hk
  · rintro ⟨hk, c, hc, h⟩
    rw [pictures_eq] at hc
    obtain ⟨hc, hfc⟩ := List.mem_filter.mp hc
    obtain ⟨c', hc', hf', hat⟩ := anew O hc hfc
    have hl := ((mem_P n c').mp hc').1
    have e0 : c'.spans[0]? = some (c'.spans.getD 0 noSpan) := get_getD (by omega)
    have e1 : c'.spans[1]? = some (c'.spans.getD 1 noSpan) := get_getD (by omega)
    have a0 := hat 0 (by omega)
    have a1 := hat 1 (by omega)
    rw [h0, e0] at a0
    rw [h1, e1] at a1
    rw [← a0, ← a1] at h
    have h : lies (c'.spans.getD 0 noSpan) (c'.spans.getD 1 noSpan) = k := Option.some.inj h
    have hb : bit (netO net o 0 1) k = true := by
      rw [← h]
      exact (fit_iff _ c').mp hf' 0 1 _ _ (by decide) e0 e1
    refine ⟨k, mem_waysIn.mpr ⟨hk, hb⟩, ?_⟩
    rw [Bool.and_eq_true, decide_eq_true_iff, decide_eq_true_iff]
    refine ⟨(share_pos _ hn hk).mpr ⟨c', hc', ?_⟩, rfl⟩
    rw [fit_iff]
    intro a b x y hab hx hy
    unfold netX
    split
    · rename_i c
      obtain ⟨rfl, rfl⟩ := c
      rw [e0] at hx
      rw [e1] at hy
      cases hx
      cases hy
      exact (bit_pow k _).mpr h
    · exact (fit_iff _ c').mp hf' a b x y hab hx hy
end Sv
/-! The search for the first list, in theory. -/
namespace Sv
open Kcz9

/-! ### how many numbers below the greatest are left out -/
def lo (n : Nat) : Nat := if h : n = 0 then 0 else lo (n / 2) + (1 - n % 2)
termination_by n
decreasing_by omega
theorem lo_0 : lo 0 = 0 := by rw [lo]; rfl
theorem lo_pos {n : Nat} (h : 0 < n) : lo n = lo (n / 2) + (1 - n % 2) := by rw [lo, dif_neg (by omega)]
theorem lo_or : ∀ (a x : Nat), lo x ≤ lo (x ||| 2 ^ a) + 1
  | 0, x => by
    have hd : (x ||| 2 ^ 0) / 2 = x / 2 := by rw [Nat.or_div_two]; simp
    have hm : (x ||| 2 ^ 0) % 2 = 1 := Nat.or_mod_two_eq_one.mpr (.inr rfl)
    have hp : 0 < x ||| 2 ^ 0 := by omega
    rw [lo_pos hp, hd]
    rcases Nat.eq_zero_or_pos x with rfl | h
    · rw [lo_0]
      omega
    · rw [lo_pos h]
      omega
  | a + 1, x => by
    have hd : (x ||| 2 ^ (a + 1)) / 2 = x / 2 ||| 2 ^ a := by
      rw [Nat.or_div_two, Nat.pow_succ, Nat.mul_div_cancel _ (by decide)]
    have hm : (x ||| 2 ^ (a + 1)) % 2 = x % 2 := by
      have h1 := @Nat.or_mod_two_eq_one x (2 ^ (a + 1))
      have h2 : 2 ^ (a + 1) % 2 = 0 := by rw [Nat.pow_succ]; omega
      rw [h2] at h1
      omega
    have hp : 0 < x ||| 2 ^ (a + 1) := by
      rcases Nat.eq_zero_or_pos (x ||| 2 ^ (a + 1)) with h | h
      · have := congrArg (fun n => n.testBit (a + 1)) h
        simp [Nat.testBit_or] at this
      · exact h
    rw [lo_pos hp, hd, hm]
    rcases Nat.eq_zero_or_pos x with rfl | h
    · rw [lo_0]
      omega
    · rw [lo_pos h]
      have := lo_or a (x / 2)
      omega
theorem lo_pow : ∀ m : Nat, lo (2 ^ m - 1) = 0
  | 0 => lo_0
  | m + 1 => by
    have := Nat.pow_pos (n := m) (show 0 < 2 by decide)
    have e : 2 ^ (m + 1) = 2 ^ m * 2 := Nat.pow_succ 2 m
    rw [lo_pos (by omega)]
    have e2 : (2 ^ (m + 1) - 1) / 2 = 2 ^ m - 1 := by omega
    rw [e2, lo_pow m]
    omega
theorem of_lo (x : Nat) (h : lo x = 0) : ∃ m, x = 2 ^ m - 1 := by
  rcases Nat.eq_zero_or_pos x with c | hp
  · exact ⟨0, c⟩
  · have h2 := h
    rw [lo_pos hp] at h2
    obtain ⟨m, hm⟩ := of_lo (x / 2) (by omega)
    refine ⟨m + 1, ?_⟩
    have := Nat.pow_pos (n := m) (show 0 < 2 by decide)
    have e : 2 ^ (m + 1) = 2 ^ m * 2 := Nat.pow_succ 2 m
    omega
termination_by x
decreasing_by omega
theorem lo_zero (x : Nat) : lo x = 0 ↔ ∃ m, x = 2 ^ m - 1 := ⟨of_lo x, fun ⟨m, h⟩ => by rw [h]; exact lo_pow m⟩

/-! ### the search -/
section
variable (net : Net) (W : List (Nat × Nat))
def sp (s : Nat) : Span := spn (W.getD s (0, 0))
def mark (s : Nat) : Nat := 2 ^ (W.getD s (0, 0)).1 ||| 2 ^ (W.getD s (0, 0)).2
def marks (t : List Nat) : Nat := t.foldl (fun acc s => acc ||| mark W s) 0
/-- y, as the j-th, against those ahead -/
def fitTo (j : Nat) (l : List Span) (y : Span) : Bool := (List.range l.length).all fun i => match l[i]? with
  | none => true
  | some x => bit (net i j) (lies x y)
def cand (t : List Nat) (j : Nat) : List Nat := (List.range W.length).filter fun s => fitTo net j (t.map (sp W)) (sp W s)
def tryAll (f : Nat → List Nat) : List Nat → List Nat
  | [] => []
  | s :: r => if f s = [] then tryAll f r else f s
def gr : Nat → List Nat → List Nat
  | 0, t => t
  | k + 1, t => tryAll (fun s => if 2 * k < lo (marks W (t ++ [s])) then [] else
      if (List.range k).any (fun st => decide (cand net W (t ++ [s]) (t.length + 1 + st) = [])) = true then [] else gr k (t ++ [s])) (cand net W t t.length)
def allOf : Nat → List Nat → List (List Nat)
  | 0, t => [t]
  | k + 1, t => (cand net W t t.length).flatMap fun s => allOf k (t ++ [s])
def good (t : List Nat) : Bool := decide (lo (marks W t) = 0)
end

variable {net : Net} {W : List (Nat × Nat)}
theorem fitTo_snoc (j : Nat) (l : List Span) (x y : Span) : fitTo net j (l ++ [x]) y = (fitTo net j l y && bit (net l.length j) (lies x y)) := by
  unfold fitTo
  rw [Bool.eq_iff_iff, Bool.and_eq_true, List.all_eq_true, List.all_eq_true, List.length_append]
  have el : (l ++ [x])[l.length]? = some x := by rw [List.getElem?_append_right (Nat.le_refl _), Nat.sub_self]; rfl
  constructor
  · intro h
    refine ⟨fun i hi => ?_, ?_⟩
    · have hi' := List.mem_range.mp hi
      have := h i (List.mem_range.mpr (by omega))
      rw [List.getElem?_append_left hi'] at this
      exact this
    · have := h l.length (List.mem_range.mpr (by show l.length < l.length + 1; omega))
      rw [el] at this
      exact this
  · rintro ⟨h1, h2⟩ i hi
    have hi' : i < l.length + 1 := List.mem_range.mp hi
    by_cases c : i < l.length
    · rw [List.getElem?_append_left c]
      exact h1 i (List.mem_range.mpr c)
    · have : i = l.length := by omega
      subst this
      rw [el]
      exact h2
theorem fitLast_to (l : List Span) (y : Span) : fitLast net l y = fitTo net l.length l y := rfl
theorem cand_snoc (t : List Nat) (s j : Nat) : cand net W (t ++ [s]) j = (cand net W t j).filter fun u => bit (net t.length j) (lies (sp W s) (sp W u)) := by
  unfold cand
  rw [List.filter_filter]
  refine List.filter_congr fun u _ => ?_
  rw [List.map_append, List.map_singleton, fitTo_snoc, List.length_map, Bool.and_comm]
theorem marks_snoc (t : List Nat) (s : Nat) : marks W (t ++ [s]) = marks W t ||| mark W s := by
  unfold marks
  rw [List.foldl_append]
  rfl
theorem lo_marks : ∀ (e t : List Nat), lo (marks W t) ≤ lo (marks W (t ++ e)) + 2 * e.length
  | [], t => by rw [List.append_nil]; omega
  | s :: e, t => by
    have ih := lo_marks e (t ++ [s])
    rw [List.append_assoc] at ih
    have h1 := lo_or (W.getD s (0, 0)).1 (marks W t)
    have h2 := lo_or (W.getD s (0, 0)).2 (marks W t ||| 2 ^ (W.getD s (0, 0)).1)
    rw [marks_snoc] at ih
    unfold mark at ih
    rw [← Nat.or_assoc] at ih
    rw [List.length_cons]
    have e0 : t ++ ([s] ++ e) = t ++ s :: e := rfl
    rw [e0] at ih
    omega
theorem all_ext : ∀ (k : Nat) (t x : List Nat), x ∈ allOf net W k t → ∃ e, x = t ++ e ∧ e.length = k
  | 0, t, x, h => by
    rw [allOf, List.mem_singleton] at h
    exact ⟨[], by rw [h, List.append_nil], rfl⟩
  | k + 1, t, x, h => by
    rw [allOf, List.mem_flatMap] at h
    obtain ⟨s, _, h⟩ := h
    obtain ⟨e, rfl, he⟩ := all_ext k (t ++ [s]) x h
    exact ⟨s :: e, by rw [List.append_assoc]; rfl, by rw [List.length_cons, he]⟩
theorem all_empty : ∀ (k : Nat) (t : List Nat) (j : Nat), t.length ≤ j → j < t.length + k → cand net W t j = [] → allOf net W k t = []
  | 0, t, j, h1, h2, _ => by omega
  | k + 1, t, j, h1, h2, h => by
    rw [allOf, List.flatMap_eq_nil_iff]
    intro s hs
    by_cases c : j = t.length
    · subst c
      rw [h] at hs
      cases hs
    · refine all_empty k (t ++ [s]) j (by rw [List.length_append]; show t.length + 1 ≤ j; omega) (by rw [List.length_append]; show j < t.length + 1 + k; omega) ?_
      rw [cand_snoc, h]
      rfl
theorem tryAll_is {f : Nat → List Nat} {F : Nat → List (List Nat)} : ∀ {l : List Nat}, (∀ s ∈ l, f s = (F s).head?.getD []) → (∀ s ∈ l, [] ∉ F s) → tryAll f l = (l.flatMap F).head?.getD []
  | [], _, _ => rfl
  | s :: l, h1, h2 => by
    have ih := tryAll_is (f := f) (F := F) (l := l) (fun u hu => h1 u (List.mem_cons_of_mem _ hu)) (fun u hu => h2 u (List.mem_cons_of_mem _ hu))
    have e := h1 s (List.mem_cons_self ..)
    have n := h2 s (List.mem_cons_self ..)
    rw [tryAll, List.flatMap_cons]
    cases hF : F s with
    | nil =>
      rw [hF] at e
      have e : f s = [] := e
      rw [if_pos e, ih]
      rfl
    | cons x r =>
      rw [hF] at e n
      have e : f s = x := e
      have hx : x ≠ [] := fun z => n (by rw [z]; exact List.mem_cons_self ..)
      rw [if_neg (by rw [e]; exact hx), e]
      rfl
theorem gr_is : ∀ (k : Nat) (t : List Nat), (k = 0 → lo (marks W t) = 0) → gr net W k t = ((allOf net W k t).filter (good W)).head?.getD []
  | 0, t, h => by
    have : good W t = true := decide_eq_true (h rfl)
    rw [gr, allOf, List.filter_cons_of_pos this]
    rfl
  | k + 1, t, _ => by
    rw [gr, allOf, List.filter_flatMap]
    refine tryAll_is (fun s hs => ?_) (fun s hs hm => ?_)
    · split
      · rename_i c
        have : (allOf net W k (t ++ [s])).filter (good W) = [] := by
          rw [List.filter_eq_nil_iff]
          intro x hx hg
          obtain ⟨e, rfl, he⟩ := all_ext k _ _ hx
          have h0 : lo (marks W (t ++ [s] ++ e)) = 0 := of_decide_eq_true hg
          have h1 := lo_marks (W := W) e (t ++ [s])
          rw [h0, he] at h1
          omega
        rw [this]
        rfl
      · rename_i c
        split
        · rename_i c2
          obtain ⟨st, hst, c2⟩ := List.any_eq_true.mp c2
          have hst := List.mem_range.mp hst
          rw [all_empty k (t ++ [s]) (t.length + 1 + st) (by rw [List.length_append]; show t.length + 1 ≤ _; omega) (by rw [List.length_append]; show _ < t.length + 1 + k; omega) (of_decide_eq_true c2)]
          rfl
        · exact gr_is k (t ++ [s]) fun hk => by subst hk; omega
    · obtain ⟨e, he, _⟩ := all_ext k _ _ (List.mem_filter.mp hm).1
      rw [List.append_assoc] at he
      exact absurd he.symm (by simp)

/-! ### what is searched through -/
theorem mem_all : ∀ (k : Nat) (t x : List Nat), x ∈ allOf net W k t ↔ ∃ e, x = t ++ e ∧ e.length = k ∧ (∀ s ∈ e, s < W.length) ∧ fitAll net (t.map (sp W)) (e.map (sp W)) = true
  | 0, t, x => by
    rw [allOf, List.mem_singleton]
    constructor
    · rintro rfl
      exact ⟨[], (List.append_nil _).symm, rfl, fun s h => (List.not_mem_nil h).elim, rfl⟩
    · rintro ⟨e, rfl, he, _⟩
      rw [List.length_eq_zero_iff.mp he, List.append_nil]
  | k + 1, t, x => by
    rw [allOf, List.mem_flatMap]
    constructor
    · rintro ⟨s, hs, h⟩
      obtain ⟨e, rfl, he, h3, h4⟩ := (mem_all k (t ++ [s]) x).mp h
      unfold cand at hs
      obtain ⟨s1, s2⟩ := List.mem_filter.mp hs
      refine ⟨s :: e, by rw [List.append_assoc]; rfl, by rw [List.length_cons, he], ?_, ?_⟩
      · intro u hu
        rcases List.mem_cons.mp hu with rfl | hu
        · exact List.mem_range.mp s1
        · exact h3 u hu
      · rw [List.map_append, List.map_singleton] at h4
        show (fitLast net (t.map (sp W)) (sp W s) && fitAll net (t.map (sp W) ++ [sp W s]) (e.map (sp W))) = true
        rw [h4, Bool.and_true]
        have e0 : fitLast net (t.map (sp W)) (sp W s) = fitTo net t.length (t.map (sp W)) (sp W s) := by
          rw [fitLast_to, List.length_map]
        rw [e0]
        exact s2
    · rintro ⟨e, rfl, he, h3, h4⟩
      cases e with
      | nil => cases he
      | cons s e =>
        have h4 : (fitLast net (t.map (sp W)) (sp W s) && fitAll net (t.map (sp W) ++ [sp W s]) (e.map (sp W))) = true := h4
        rw [Bool.and_eq_true] at h4
        refine ⟨s, ?_, (mem_all k (t ++ [s]) _).mpr ⟨e, by rw [List.append_assoc]; rfl, by simpa using he, fun u hu => h3 u (List.mem_cons_of_mem _ hu), by rw [List.map_append]; exact h4.2⟩⟩
        unfold cand
        refine List.mem_filter.mpr ⟨List.mem_range.mpr (h3 s (List.mem_cons_self ..)), ?_⟩
        have e0 : fitLast net (t.map (sp W)) (sp W s) = fitTo net t.length (t.map (sp W)) (sp W s) := by
          rw [fitLast_to, List.length_map]
        rw [← e0]
        exact h4.1
theorem earlier_app : ∀ (t a b : List Nat), earlier (t ++ a) (t ++ b) = earlier a b
  | [], _, _ => rfl
  | x :: t, a, b => by
    rw [List.cons_append, List.cons_append, earlier, earlier_app t]
    simp
theorem all_sorted : ∀ (k : Nat) (t : List Nat), (allOf net W k t).Pairwise fun x y => earlier y x = false
  | 0, t => by rw [allOf]; exact List.pairwise_singleton _ _
  | k + 1, t => by
    rw [allOf, List.pairwise_flatMap]
    refine ⟨fun s _ => all_sorted k (t ++ [s]), ?_⟩
    have hc : (cand net W t t.length).Pairwise (· < ·) := by
      unfold cand
      exact List.pairwise_lt_range.filter _
    refine hc.imp fun {a b} hab x hx y hy => ?_
    obtain ⟨e, rfl, _⟩ := all_ext k _ _ hx
    obtain ⟨e', rfl, _⟩ := all_ext k _ _ hy
    rw [List.append_assoc, List.append_assoc, earlier_app]
    exact (earlier_cons_not b a e' e).mpr (.inl hab)

/-! ### rows -/
def rowOf (W : List (Nat × Nat)) (t : List Nat) : List Nat := t.flatMap fun s => [(W.getD s (0, 0)).1, (W.getD s (0, 0)).2]
/-- the spans below n numbers, in order -/
structure Spans (n : Nat) (W : List (Nat × Nat)) : Prop where
  up : ∀ s, s < W.length → (W.getD s (0, 0)).1 < (W.getD s (0, 0)).2 ∧ (W.getD s (0, 0)).2 < n
  all : ∀ a b, a < b → b < n → ∃ s, s < W.length ∧ W.getD s (0, 0) = (a, b)
  lt : ∀ s, s < W.length → ∀ u, u < W.length → s < u → (W.getD s (0, 0)).1 < (W.getD u (0, 0)).1 ∨ ((W.getD s (0, 0)).1 = (W.getD u (0, 0)).1 ∧ (W.getD s (0, 0)).2 < (W.getD u (0, 0)).2)
theorem rowOf_early {n : Nat} (S : Spans n W) : ∀ (t' t : List Nat), (∀ s ∈ t', s < W.length) → (∀ s ∈ t, s < W.length) → t'.length = t.length → earlier t' t = false → earlier (rowOf W t') (rowOf W t) = false
  | [], [], _, _, _, _ => rfl
  | [], _ :: _, _, _, h, _ => by cases h
  | _ :: _, [], _, _, h, _ => by cases h
  | s' :: t', s :: t, h1, h2, h3, h4 => by
    show earlier ((W.getD s' (0, 0)).1 :: (W.getD s' (0, 0)).2 :: rowOf W t') ((W.getD s (0, 0)).1 :: (W.getD s (0, 0)).2 :: rowOf W t) = false
    rw [earlier_cons_not, earlier_cons_not]
    rcases (earlier_cons_not s' s t' t).mp h4 with h | ⟨h, h5⟩
    · rcases S.lt s (h2 s (List.mem_cons_self ..)) s' (h1 s' (List.mem_cons_self ..)) h with h6 | ⟨h6, h7⟩
      · exact .inl h6
      · exact .inr ⟨h6.symm, .inl h7⟩
    · subst h
      exact .inr ⟨rfl, .inr ⟨rfl, rowOf_early S t' t (fun u hu => h1 u (List.mem_cons_of_mem _ hu)) (fun u hu => h2 u (List.mem_cons_of_mem _ hu)) (by simpa using h3) h5⟩⟩
theorem row_of (t : List Nat) (m : Nat) : row ⟨t.map (sp W), m⟩ = rowOf W t := by
  unfold row rowOf
  rw [List.flatMap_map]
  rfl
theorem marks_bit (k : Nat) (t : List Nat) : (marks W t).testBit k = t.any fun s => decide ((W.getD s (0, 0)).1 = k) || decide ((W.getD s (0, 0)).2 = k) := by
  unfold marks
  rw [fold_or, Nat.zero_testBit, Bool.false_or]
  congr 1
  funext s
  unfold mark
  rw [Nat.testBit_or, Nat.testBit_two_pow, Nat.testBit_two_pow]
theorem marks_can {n : Nat} (S : Spans n W) {t : List Nat} (ht : ∀ s ∈ t, s < W.length) (m : Nat) : marks W t = 2 ^ m - 1 ↔ Can (t.map (sp W)) m := by
  constructor
  · intro h
    have hb : ∀ k, (∃ s ∈ t, (W.getD s (0, 0)).1 = k ∨ (W.getD s (0, 0)).2 = k) ↔ k < m := by
      intro k
      have e := marks_bit (W := W) k t
      rw [h, Nat.testBit_two_pow_sub_one, Bool.eq_iff_iff, decide_eq_true_iff, List.any_eq_true] at e
      rw [e]
      simp
    refine ⟨?_, ?_, ?_, ?_⟩
    · intro x hx
      obtain ⟨s, _, rfl⟩ := List.mem_map.mp hx
      exact Int.natCast_nonneg _
    · intro x hx
      obtain ⟨s, hs, rfl⟩ := List.mem_map.mp hx
      exact Int.ofNat_lt.mpr (S.up s (ht s hs)).1
    · intro x hx
      obtain ⟨s, hs, rfl⟩ := List.mem_map.mp hx
      exact Int.ofNat_lt.mpr ((hb _).mp ⟨s, hs, .inr rfl⟩)
    · intro k hk
      obtain ⟨s, hs, h⟩ := (hb k).mpr hk
      refine ⟨_, List.mem_map.mpr ⟨s, hs, rfl⟩, ?_⟩
      rcases h with h | h
      · exact .inl (by show ((W.getD s (0, 0)).1 : Int) = k; rw [h])
      · exact .inr (by show ((W.getD s (0, 0)).2 : Int) = k; rw [h])
  · intro C
    apply Nat.eq_of_testBit_eq
    intro k
    rw [marks_bit, Nat.testBit_two_pow_sub_one, Bool.eq_iff_iff, decide_eq_true_iff, List.any_eq_true]
    constructor
    · rintro ⟨s, hs, h⟩
      have hb := C.hi _ (List.mem_map.mpr ⟨s, hs, rfl⟩)
      have hu := C.up _ (List.mem_map.mpr ⟨s, hs, rfl⟩)
      have hb : ((W.getD s (0, 0)).2 : Int) < m := hb
      have hu : ((W.getD s (0, 0)).1 : Int) < ((W.getD s (0, 0)).2 : Int) := hu
      rw [Bool.or_eq_true, decide_eq_true_iff, decide_eq_true_iff] at h
      omega
    · intro hk
      obtain ⟨x, hx, h⟩ := C.all k hk
      obtain ⟨s, hs, rfl⟩ := List.mem_map.mp hx
      refine ⟨s, hs, ?_⟩
      rw [Bool.or_eq_true, decide_eq_true_iff, decide_eq_true_iff]
      rcases h with h | h
      · have h : ((W.getD s (0, 0)).1 : Int) = k := h
        omega
      · have h : ((W.getD s (0, 0)).2 : Int) = k := h
        omega
theorem P_m : ∀ (n : Nat) (c : Picture), c ∈ P n → c.m ≤ 2 * n
  | 0, c, h => by
    have h : c ∈ [(⟨[], 0⟩ : Picture)] := h
    rw [List.mem_singleton] at h
    subst h
    exact Nat.le_refl _
  | n + 1, c, h => by
    rw [P_succ, List.mem_flatMap] at h
    obtain ⟨d, hd, h⟩ := h
    obtain ⟨p, q, _, _, _, rfl⟩ := mem_more.mp h
    have := P_m n d hd
    rw [mk_m]
    unfold grow
    split <;> split <;> omega

/-- the spans of a list that fits, by their places -/
theorem places {n : Nat} (S : Spans (2 * n) W) {c : Picture} (hc : c ∈ P n) : ∃ t : List Nat, t.map (sp W) = c.spans ∧ (∀ s ∈ t, s < W.length) := by
  obtain ⟨_, C⟩ := (mem_P n c).mp hc
  have hm := P_m n c hc
  have : ∀ l : List Span, (∀ x ∈ l, x ∈ c.spans) → ∃ t : List Nat, t.map (sp W) = l ∧ (∀ s ∈ t, s < W.length) := by
    intro l
    induction l with
    | nil => exact fun _ => ⟨[], rfl, fun s h => (List.not_mem_nil h).elim⟩
    | cons x l ih =>
      intro h
      obtain ⟨t, h1, h2⟩ := ih fun y hy => h y (List.mem_cons_of_mem _ hy)
      have hx := h x (List.mem_cons_self ..)
      have l0 := C.lo x hx
      have u0 := C.up x hx
      have b0 := C.hi x hx
      obtain ⟨s, hs, e⟩ := S.all x.a.toNat x.b.toNat (by omega) (by omega)
      refine ⟨s :: t, ?_, ?_⟩
      · rw [List.map_cons, h1]
        congr 1
        unfold sp
        rw [e]
        unfold spn
        have ea : ((x.a.toNat : Nat) : Int) = x.a := Int.toNat_of_nonneg l0
        have eb : ((x.b.toNat : Nat) : Int) = x.b := Int.toNat_of_nonneg (by omega)
        show (⟨((x.a.toNat : Nat) : Int), ((x.b.toNat : Nat) : Int)⟩ : Span) = x
        rw [ea, eb]
      · intro u hu
        rcases List.mem_cons.mp hu with rfl | hu
        · exact hs
        · exact h2 u hu
  exact this c.spans fun x h => h

theorem first_search {n : Nat} (S : Spans (2 * n) W) (hn : 0 < n) (hp : 0 < (pictures net n).length) :
    gr net W n [] ≠ [] ∧ (∀ s ∈ gr net W n [], s < W.length) ∧ (gr net W n []).length = n ∧ first_ ((pictures net n).map row) = some (rowOf W (gr net W n [])) := by
  have e := gr_is (net := net) (W := W) n [] (by omega)
  have mem : ∀ t : List Nat, t ∈ (allOf net W n []).filter (good W) ↔ t.length = n ∧ (∀ s ∈ t, s < W.length) ∧ ∃ m, (⟨t.map (sp W), m⟩ : Picture) ∈ pictures net n := by
    intro t
    rw [List.mem_filter, mem_all]
    constructor
    · rintro ⟨⟨e, rfl, h1, h2, h3⟩, h4⟩
      obtain ⟨m, hm⟩ := (lo_zero _).mp (of_decide_eq_true h4)
      refine ⟨h1, h2, m, ?_⟩
      rw [pictures_eq]
      exact List.mem_filter.mpr ⟨(mem_P n _).mpr ⟨by rw [List.length_map]; exact h1, (marks_can S h2 m).mp hm⟩, h3⟩
    · rintro ⟨h1, h2, m, h3⟩
      rw [pictures_eq] at h3
      obtain ⟨h3, h4⟩ := List.mem_filter.mp h3
      refine ⟨⟨t, rfl, h1, h2, h4⟩, decide_eq_true ((lo_zero _).mpr ⟨m, (marks_can S h2 m).mpr ((mem_P n _).mp h3).2⟩)⟩
  have of_pic : ∀ c ∈ pictures net n, ∃ t ∈ (allOf net W n []).filter (good W), row c = rowOf W t := by
    intro c hc
    have hP : c ∈ P n := by
      rw [pictures_eq] at hc
      exact (List.mem_filter.mp hc).1
    obtain ⟨t, h1, h2⟩ := places S hP
    have hl : t.length = n := by
      have := ((mem_P n c).mp hP).1
      rw [← h1, List.length_map] at this
      exact this
    refine ⟨t, (mem t).mpr ⟨hl, h2, c.m, ?_⟩, ?_⟩
    · rw [h1]
      exact hc
    · rw [← row_of t c.m, h1]
  have srt := (all_sorted (net := net) (W := W) n []).filter (good W)
  obtain ⟨c0, hc0⟩ := List.length_pos_iff_exists_mem.mp hp
  obtain ⟨t0, ht0, _⟩ := of_pic c0 hc0
  cases hL : (allOf net W n []).filter (good W) with
  | nil => rw [hL] at ht0; cases ht0
  | cons g r =>
    have eg : gr net W n [] = g := by rw [e, hL]; rfl
    have hg : g ∈ (allOf net W n []).filter (good W) := by rw [hL]; exact List.mem_cons_self ..
    obtain ⟨g1, g2, m, g3⟩ := (mem g).mp hg
    rw [eg]
    refine ⟨fun z => by rw [z] at g1; simp at g1; omega, g2, g1, ?_⟩
    refine first_is (N := 2 * n) ?_ ?_ ?_
    · intro y hy
      obtain ⟨c, hc, rfl⟩ := List.mem_map.mp hy
      obtain ⟨t, ht, e2⟩ := of_pic c hc
      rw [e2]
      have hl := ((mem t).mp ht).1
      have : ∀ t : List Nat, (rowOf W t).length = 2 * t.length := by
        intro t
        induction t with
        | nil => rfl
        | cons s t ih =>
          show (rowOf W t).length + 1 + 1 = 2 * (t.length + 1)
          omega
      rw [this, hl]
    · exact List.mem_map.mpr ⟨_, g3, row_of g m⟩
    · intro y hy
      obtain ⟨c, hc, rfl⟩ := List.mem_map.mp hy
      obtain ⟨t, ht, e2⟩ := of_pic c hc
      rw [e2]
      obtain ⟨t1, t2, _⟩ := (mem t).mp ht
      refine rowOf_early S t g t2 g2 (by rw [t1, g1]) ?_
      rw [hL] at ht srt
      rcases List.mem_cons.mp ht with rfl | ht
      · exact earlier_irrefl _
      · exact (List.pairwise_cons.mp srt).1 t ht
end Sv
/-! left_out_by_numbers; the search's object. -/
namespace Sv
open PySem PySem.Spec PyProof.Rows L2

/-! ### bundles of what a call needs -/
def FnB (P : Program) (w : World) (K : PySem.W.Frag) (mg : Str → Option Value) (base : Heap) (nm : Str) (lv : Nat) (ps : List Str) (sp : Sp) : Prop :=
  ∃ (g : Addr) (gd : FuncData), mg nm = some (.ref g) ∧ PySem.W.keepIn K (.ref g) = true ∧ Binds K gd ps [] ∧ FnOk P w K mg base CX0 lv g gd ps sp
def MtB (P : Program) (w : World) (K : PySem.W.Frag) (mg : Str → Option Value) (base : Heap) (C : Addr) (nm : Str) (lv : Nat) (ps : List Str) (sp : Sp) : Prop :=
  ∃ (g : Addr) (gd : FuncData), Meth K C nm g ∧ Binds K gd ps [] ∧ FnOk P w K mg base CX0 lv g gd ps sp
/-- a tuple of names as the target within a comprehension -/
theorem pg_tupL {X : Cx} {pos : Pos} {es : List Expr} {k : Nat} {t : TGs} {n : Nat} (K : PySem.W.Frag) (hK : X.K = K) (hc : X.calm = true) (ht : PGs X es t) (h1 : (assignEach es X.env).length = n := by rfl) (h2 : List.findIdx? (fun x => x.1) (assignEach es X.env) = none := by rfl) :
    PG X (.Tuple es k pos) (gTup K n t) := by
  subst hK
  exact pg_tup hc ht h1 h2
theorem lk_here {k : Str} {v : V} {r : List (Str × V)} : List.lookup k ((k, v) :: r) = some v := by
  have e : (k == k) = true := beq_self_eq_true k
  simp only [List.lookup, e]
theorem lk_past {k g : Str} {v : V} {r : List (Str × V)} (h : (k == g) = false) : List.lookup k ((g, v) :: r) = List.lookup k r := by
  simp only [List.lookup, h]

/-! ### left_out_by_numbers -/
abbrev sLeft : Stmt := topS 19
theorem shr1_nat (n : Nat) : ((n : Nat) : Int) / 2 ^ ((1 : Int).toNat) = ((n / 2 : Nat) : Int) := by
  have : (2 : Int) ^ ((1 : Int).toNat) = 2 := by decide
  rw [this]
  norm_cast
theorem and1_nat (n : Nat) : Builtin.bitAnd (n : Int) 1 = ((n % 2 : Nat) : Int) := by
  rw [bitAnd_m1]
  norm_cast
def spLeft : Sp := fun vs H Q _ => ∃ last : Nat, vs = [natV last] ∧ last ≤ 10 ∧ ∀ H' q, Same H H' → H q = none → H' q = some (.lst ((List.range (2 ^ (last + 1))).map fun k => natV (lo k))) → Q (.ref q) H'
section
variable {P : Program} {w : World} {K : PySem.W.Frag} {mg : Str → Option Value} {base : Heap}
theorem scLeft : FnScope ["last", "table", "numbers"] ["last"] (defScope sLeft) := ⟨rfl, rfl, rfl, by decide +kernel, rfl, by decide +kernel, by decide +kernel⟩
theorem ok_left {f : Addr} {fd : FuncData} (F : Fun K "left_out_by_numbers" "left_out_by_numbers" sLeft f fd) (M : Glo mg) : FnOk P w K mg base CX0 1 f fd ["last"] spLeft := by
  refine F.ok scLeft (fun vs H Q E h => ?_) (fun cdv A outer s H vs Q E hr h => ?_)
  · obtain ⟨_, rfl, _⟩ := h
    rfl
  · obtain ⟨last, rfl, hl, k⟩ := h
    have nd := scLeft.nd
    refine ⟨_, pss_cons (ps_set (i := 1) nd rfl (Or.inl rfl) (pe_lst (pa_cons pe_int pa_nil)))
      (pss_cons (ps_for PassesOwn.never rfl (pi_range2 rfl M.range (pa_cons pe_int (pa_cons (pe_op op_shl pe_int (pe_op op_add (pv 0) pe_int)) pa_nil))) (pg_name (i := 2) nd rfl (Or.inl rfl))
        (pss_one (ps_expr (pe_bm PySem.F.plainAttrs_list PySem.F.slot_list_append PySem.F.type_list_append mt_append (pv 1)
          (pa_cons (pe_op op_sub (pe_op op_add (pe_ix ix_list (pv 1) (pe_op op_shr (pv 2) pe_int) (fun _ _ => rfl)) pe_int) (pe_op op_and (pv 2) pe_int)) pa_nil)))))
      (pss_one (ps_ret (pv 1)))), ?_⟩
    refine ⟨by decide, fun p np => ?_⟩
    have hpw : 2 ^ (last + 1) ≤ 2 ^ 11 := Nat.pow_le_pow_right (by decide) (by omega)
    have hp1 : 0 < 2 ^ (last + 1) := Nat.pow_pos (by decide)
    refine ⟨_, rfl, _, _, rfl, rfl, 1, ((last : Int) + 1), rfl, rfl, ⟨by omega, by omega, by decide⟩, 1, ((2 ^ (last + 1) : Nat) : Int), ?_, ⟨by decide, by decide, by omega, by omega⟩, ?_⟩
    · have : (((last : Int) + 1).toNat) = last + 1 := by omega
      show [V.int 1, V.int (1 * 2 ^ ((last : Int) + 1).toNat)] = _
      rw [this, Int.one_mul]
      norm_cast
    · have en : (((2 ^ (last + 1) : Nat) : Int) - 1).toNat = 2 ^ (last + 1) - 1 := by omega
      rw [en]
      refine for_range (lo := 1) (n := 2 ^ (last + 1) - 1) (fun i σ H' => ∃ v2 : Option V, σ = [some (natV last), some (.ref p), v2] ∧ Same H H' ∧ H' p = some (.lst ((List.range (i + 1)).map fun k => natV (lo k))))
        ⟨none, rfl, same_new np, ?_⟩ ?_ ?_
      · rw [upd_same]
        show some (HO.lst [V.int 0]) = some (HO.lst [natV (lo 0)])
        rw [lo_0]
        rfl
      · rintro i σ H1 hi ⟨v2, rfl, s1, e1⟩
        have eN : (1 : Int) + (i : Int) = ((i + 1 : Nat) : Int) := by omega
        have hlo : lo (i + 1) = lo ((i + 1) / 2) + (1 - (i + 1) % 2) := lo_pos (by omega)
        refine ⟨_, rfl, .inl ⟨rfl, _, SqL.of e1⟩, _, rfl, _, rfl, ((i + 1 : Nat) : Int), 1, by rw [← eN], rfl, (by show (0 : Int) ≤ 1; decide), ?_⟩
        refine ⟨p, _, _, natV (lo ((i + 1) / 2)), rfl, rfl, SqL.of e1, ?_, _, _, rfl, rfl, _, rfl, _, _, rfl, rfl, _, _, rfl, rfl, p, _, _, rfl, rfl, e1, ?_, ?_⟩
        · rw [shr1_nat]
          refine atI_nat ?_
          rw [List.getElem?_map, List.getElem?_range (by omega)]
          rfl
        · rw [List.length_map, List.length_range]
          exact line_lt (by omega)
        · refine ⟨some (natV (i + 1)), ?_, same_at s1 np, ?_⟩
          · dsimp only [List.set]
            rw [eN]
            rfl
          · rw [upd_same, show List.range (i + 1 + 1) = List.range (i + 1) ++ [i + 1] from List.range_succ, List.map_append]
            have ev : V.int ((lo ((i + 1) / 2) : Int) + 1 - Builtin.bitAnd (1 + (i : Int)) 1) = natV (lo (i + 1)) := by
              rw [eN, and1_nat, hlo]
              unfold natV
              congr 1
              omega
            show some (HO.lst (_ ++ [V.int ((lo ((i + 1) / 2) : Int) + 1 - Builtin.bitAnd (1 + (i : Int)) 1)])) = _
            rw [ev]
            rfl
      · rintro σ H1 ⟨v2, rfl, s1, e1⟩
        refine ⟨_, rfl, k _ p s1 np ?_⟩
        rw [e1]
        have : 2 ^ (last + 1) - 1 + 1 = 2 ^ (last + 1) := by omega
        rw [this]
end
end Sv
/-! The search's object: how it lies, how it is made. -/
namespace Sv
open PySem PySem.Spec PyProof.Rows L2

/-! ### attributes -/
theorem put_end {f : Str} {v : V} : ∀ {l : List (Str × V)} (ks : List Str), l.map (·.1) = ks → ks.all (fun g => !(g == f)) = true → putF f v l = l ++ [(f, v)]
  | [], _, _, _ => rfl
  | (g, x) :: l, ks, e, h => by
    subst e
    rw [List.map_cons, List.all_cons, Bool.and_eq_true] at h
    have hg : ¬ g = f := fun e => by
      have h1 : (!(g == f)) = true := h.1
      rw [e, beq_self_eq_true] at h1
      cases h1
    show putF f v ((g, x) :: l) = (g, x) :: (l ++ [(f, v)])
    rw [← put_end (l := l) _ rfl h.2]
    exact if_neg hg
/-- but for what lies at p -/
def Keep (p : Addr) (H H' : Hp) : Prop := ∀ b o, H b = some o → b ≠ p → H' b = some o
theorem Keep.of {p : Addr} {H H' : Hp} (s : Same H H') : Keep p H H' := fun b o h _ => s b o h
theorem Keep.trans {p : Addr} {H H1 H2 : Hp} (a : Keep p H H1) (b : Keep p H1 H2) : Keep p H H2 := fun c o h n => b c o (a c o h n) n
theorem Keep.upd {p : Addr} {H H' : Hp} {o : HO} (a : Keep p H H') : Keep p H (upd H' p o) := fun c u h n => by
  rw [upd_ne n]
  exact a c u h n
/-- but for what lies at a new place -/
theorem Keep.new {p q : Addr} {H H' : Hp} {o : HO} (a : Keep p H H') (h : H q = none) : Keep p H (L2.upd H' q o) := fun b u e n => by
  rw [upd_ne (ne_of_none e h)]
  exact a b u e n
theorem Keep.lst {p b C dx : Addr} {fs : List (Str × V)} {H H' : Hp} {xs : List V} (k : Keep p H H') (hp : H p = some (.ins C dx fs)) (h : H b = some (.lst xs)) : H' b = some (.lst xs) := k _ _ h (ne_of h hp (by intro z; cases z))
theorem Keep.tup {p b C dx : Addr} {fs : List (Str × V)} {H H' : Hp} {xs : List V} (k : Keep p H H') (hp : H p = some (.ins C dx fs)) (h : H b = some (.tup xs)) : H' b = some (.tup xs) := k _ _ h (ne_of h hp (by intro z; cases z))
theorem Keep.pair {p C dx : Addr} {fs : List (Str × V)} {H H' : Hp} (k : Keep p H H') (hp : H p = some (.ins C dx fs)) (v : V) (x : Nat × Nat) : rPair H v x → rPair H' v x := fun ⟨a, e, h⟩ => ⟨a, e, k.tup hp h⟩
theorem Keep.row {p C dx : Addr} {fs : List (Str × V)} {H H' : Hp} (k : Keep p H H') (hp : H p = some (.ins C dx fs)) (v : V) (x : List Nat) : rRow H v x → rRow H' v x := fun ⟨a, e, h⟩ => ⟨a, e, k.lst hp h⟩
theorem Keep.sets {p d C dx : Addr} {fs : List (Str × V)} {H H' : Hp} {n : Nat} {net : Kcz9.Net} (k : Keep p H H') (hp : H p = some (.ins C dx fs)) (h : SetsAt H d n net) : SetsAt H' d n net :=
  let ⟨kvs, h1, h2, h3⟩ := h.ex; ⟨kvs, k _ _ h1 (ne_of h1 hp (by intro z; cases z)), h2, h3⟩
theorem Keep.table {p t C dx : Addr} {fs : List (Str × V)} {H H' : Hp} (k : Keep p H H') (hp : H p = some (.ins C dx fs)) (h : Table H t) : Table H' t :=
  let ⟨us, h1, h2⟩ := h.ex; ⟨us, k.lst hp h1, h2.mono fun v x => k.row hp v x⟩

/-! ### the search's object -/
def WW (n : Nat) : List (Nat × Nat) := within (2 * n - 1) (2 * n - 1)
def markOf (x : Nat × Nat) : Nat := 2 ^ x.1 ||| 2 ^ x.2
def sF1 (d : Addr) : List (Str × V) := [("sets", .ref d)]
def sF2 (d p : Addr) : List (Str × V) := [("sets", .ref d), ("spans", .ref p)]
def sF3 (d p r : Addr) : List (Str × V) := [("sets", .ref d), ("spans", .ref p), ("rows", .ref r)]
def sF4 (d p r m : Addr) : List (Str × V) := [("sets", .ref d), ("spans", .ref p), ("rows", .ref r), ("marks", .ref m)]
def sF (d p r m l : Addr) : List (Str × V) := [("sets", .ref d), ("spans", .ref p), ("rows", .ref r), ("marks", .ref m), ("left_out", .ref l)]
structure Parts (H : Hp) (n : Nat) (net : Kcz9.Net) (d p r m l : Addr) : Prop where
  sets : SetsAt H d n net
  spans : ∃ us, H p = some (.lst us) ∧ LRel rPair H us (WW n)
  rows : ∃ us, H r = some (.lst us) ∧ LRel rRow H us (among (WW n) (WW n))
  marks : H m = some (.lst (((WW n).map markOf).map natV))
  left : H l = some (.lst ((List.range (2 ^ (2 * n))).map fun k => natV (lo k)))
theorem Parts.same {H H' : Hp} {n : Nat} {net : Kcz9.Net} {d p r m l : Addr} (h : Parts H n net d p r m l) (s : Same H H') : Parts H' n net d p r m l :=
  ⟨h.sets.same s, let ⟨us, h1, h2⟩ := h.spans; ⟨us, s _ _ h1, h2.mono fun v x => rPair.same s v x⟩, let ⟨us, h1, h2⟩ := h.rows; ⟨us, s _ _ h1, h2.mono fun v x => rRow.same s v x⟩, s _ _ h.marks, s _ _ h.left⟩
structure SearchAt (C : Addr) (H : Hp) (a : Addr) (n : Nat) (net : Kcz9.Net) : Prop where
  ex : ∃ dx d p r m l, H a = some (.ins C dx (sF d p r m l)) ∧ Parts H n net d p r m l
theorem SearchAt.same {C : Addr} {H H' : Hp} {a : Addr} {n : Nat} {net : Kcz9.Net} (h : SearchAt C H a n net) (s : Same H H') : SearchAt C H' a n net :=
  let ⟨dx, d, p, r, m, l, h1, h2⟩ := h.ex; ⟨dx, d, p, r, m, l, s _ _ h1, h2.same s⟩
structure TxtS (K : PySem.W.Frag) (C : Addr) : Prop where
  cl : Cls K C
  n1 : NoAttr K C "sets"
  n2 : NoAttr K C "spans"
  n3 : NoAttr K C "rows"
  n4 : NoAttr K C "marks"
  n5 : NoAttr K C "left_out"
theorem sF_sets (d p r m l : Addr) : (sF d p r m l).lookup ("sets" : Str) = some (.ref d) := lk_here
theorem sF_spans (d p r m l : Addr) : (sF d p r m l).lookup ("spans" : Str) = some (.ref p) := (lk_past (by decide +kernel)).trans lk_here
theorem sF_rows (d p r m l : Addr) : (sF d p r m l).lookup ("rows" : Str) = some (.ref r) := (lk_past (by decide +kernel)).trans ((lk_past (by decide +kernel)).trans lk_here)
theorem sF_marks (d p r m l : Addr) : (sF d p r m l).lookup ("marks" : Str) = some (.ref m) := (lk_past (by decide +kernel)).trans ((lk_past (by decide +kernel)).trans ((lk_past (by decide +kernel)).trans lk_here))
theorem sF_left (d p r m l : Addr) : (sF d p r m l).lookup ("left_out" : Str) = some (.ref l) := (lk_past (by decide +kernel)).trans ((lk_past (by decide +kernel)).trans ((lk_past (by decide +kernel)).trans ((lk_past (by decide +kernel)).trans lk_here)))
theorem sF_none {f : Str} (d p r m l : Addr) (h : ([("sets" : Str), "spans", "rows", "marks", "left_out"].all fun g => !(f == g)) = true) : (sF d p r m l).lookup f = none := by
  simp only [List.all_cons, List.all_nil, Bool.and_true, Bool.and_eq_true, Bool.not_eq_true'] at h
  obtain ⟨h1, h2, h3, h4, h5⟩ := h
  exact (lk_past h1).trans ((lk_past h2).trans ((lk_past h3).trans ((lk_past h4).trans ((lk_past h5).trans rfl))))

abbrev sSInit : Stmt := inClass (topS 20) 0
abbrev sNarrow : Stmt := inClass (topS 20) 1
abbrev sGrown : Stmt := inClass (topS 20) 2
abbrev sFirst : Stmt := topS 21
def spSInit (C : Addr) : Sp := fun vs H Q _ => ∃ (a dx d : Addr) (n : Nat) (net : Kcz9.Net), vs = [.ref a, natV n, .ref d] ∧ H a = some (.ins C dx []) ∧ 2 ≤ n ∧ n ≤ 4 ∧ SetsAt H d n net ∧
  ∀ H' : Hp, SearchAt C H' a n net → Keep a H H' → Q .non H'
theorem WW_len {n : Nat} (h : n ≤ 4) : (WW n).length ≤ 100 := by
  have h1 := within_length (2 * n - 1) (2 * n - 1)
  have h2 : (2 * n - 1) * (2 * n - 1) ≤ 7 * 7 := Nat.mul_le_mul (by omega) (by omega)
  unfold WW
  omega

section
variable {P : Program} {w : World} {K : PySem.W.Frag} {mg : Str → Option Value} {base : Heap} {C : Addr}
theorem scSInit : FnScope ["self", "count", "sets", "last", "begin", "end"] ["self", "count", "sets"] (defScope sSInit) := ⟨rfl, rfl, rfl, by decide +kernel, rfl, by decide +kernel, by decide +kernel⟩
theorem ok_sinit {f : Addr} {fd : FuncData} (F : Fun K "__init__" "ListSearch.__init__" sSInit f fd) (T : TxtS K C)
    (BW : FnB P w K mg base "spans_within" 1 ["last"] spWithin) (BA : FnB P w K mg base "ways_among" 3 ["spans"] (spAmong K)) (BL : FnB P w K mg base "left_out_by_numbers" 1 ["last"] spLeft) :
    FnOk P w K mg base CX0 4 f fd ["self", "count", "sets"] (spSInit C) := by
  obtain ⟨gW, fW, mW, kW, bW, OW⟩ := BW
  obtain ⟨gA, fA, mA, kA, bA, OA⟩ := BA
  obtain ⟨gL, fL, mL, kL, bL, OL⟩ := BL
  refine F.ok scSInit (fun vs H Q E h => ?_) (fun cdv A outer s H vs Q E hr h => ?_)
  · obtain ⟨_, _, _, _, _, rfl, _⟩ := h
    rfl
  · obtain ⟨a, dx, d, n, net, rfl, ha, hn2, hn4, hS, k⟩ := h
    have nd := scSInit.nd
    have hr1 : Room 1 _ := hr.mono (by decide)
    refine ⟨_, pss_cons (ps_set (i := 3) nd rfl (Or.inl rfl) (pe_op op_sub (pe_op op_mul pe_int (pv 1)) pe_int))
      (pss_cons (ps_fld (pv 0) (pv 2) rfl)
      (pss_cons (ps_fld (pv 0) (pe_call OW hr1 rfl mW kW bW .nil pass0 (pa_cons (pv 3) pa_nil)) rfl)
      (pss_cons (ps_fld (pv 0) (pe_call OA hr rfl mA kA bA .nil pass0 (pa_cons (pe_fld (pv 0) rfl) pa_nil)) rfl)
      (pss_cons (ps_fld (pv 0) (pe_lc (own := [("begin", 4), ("end", 5)]) (g := gTup K 2 (gCons (gName 4) (gCons (gName 5) gNil))) rfl nd (pi_list (pe_fld (pv 0) rfl))
          (blkOk_by (own := [("begin", 4), ("end", 5)]) (N := ["self", "count", "sets", "last", "begin", "end"]) (sc := defScope sSInit) (by decide +kernel))
          (fun _ _ _ _ _ => pg_tupL K rfl rfl (pgs_cons (pg_name (i := 4) nd rfl (Or.inl rfl)) (pgs_cons (pg_name (i := 5) nd rfl (Or.inl rfl)) pgs_nil))) (fun _ _ _ _ _ => pts_nil)
          (fun _ _ _ _ _ => pe_op op_or (pe_op op_shl pe_int (pv 4)) (pe_op op_shl pe_int (pv 5)))) rfl)
      (pss_one (ps_fld (pv 0) (pe_call OL hr1 rfl mL kL bL .nil pass0 (pa_cons (pv 3) pa_nil)) rfl)))))), ?_⟩
    -- last
    refine ⟨_, rfl, _, _, rfl, rfl, .inl ⟨by decide, by decide⟩, _, _, rfl, rfl, ?_⟩
    have e3 : V.int (2 * (n : Int) - 1) = natV (2 * n - 1) := by
      unfold natV
      congr 1
      omega
    -- sets
    refine ⟨_, rfl, _, rfl, a, C, dx, _, rfl, ha, T.cl, T.n1, (by show 0 < 1000; decide), ?_⟩
    have k1 : Keep a H (upd H a (.ins C dx (putF "sets" (.ref d) []))) := (Keep.of (Same.refl _)).upd
    have e1 : putF "sets" (.ref d) [] = sF1 d := rfl
    rw [e1] at k1 ⊢
    have a1 : upd H a (.ins C dx (sF1 d)) a = some (.ins C dx (sF1 d)) := upd_same
    generalize upd H a (.ins C dx (sF1 d)) = H1 at k1 a1 ⊢
    -- spans
    refine ⟨_, rfl, 2 * n - 1, by dsimp only [List.set]; rw [e3]; rfl, by omega, fun H2 p us s2 np e2 r2 => ?_⟩
    refine ⟨_, rfl, a, C, dx, _, rfl, s2 _ _ a1, T.cl, T.n2, (by show 1 < 1000; decide), ?_⟩
    have q2 : putF "spans" (.ref p) (sF1 d) = (sF2 d p) := put_end ["sets"] rfl (by decide +kernel)
    rw [q2]
    have k2' : Keep a H2 (upd H2 a (.ins C dx (sF2 d p))) := (Keep.of (Same.refl _)).upd
    have k2 := k1.trans ((Keep.of s2).trans k2')
    have a2 : upd H2 a (.ins C dx (sF2 d p)) a = some (.ins C dx (sF2 d p)) := upd_same
    have ep2 := k2'.lst (s2 _ _ a1) e2
    have r2' := r2.mono fun v x => k2'.pair (s2 _ _ a1) v x
    generalize upd H2 a (.ins C dx (sF2 d p)) = H3 at k2 k2' a2 ep2 r2' ⊢
    -- rows
    refine ⟨_, rfl, a, C, dx, _, _, rfl, a2, T.cl, T.n2, (lk_past (by decide +kernel)).trans lk_here, p, us, WW n, rfl, ep2, r2', fun x hx => (within_up hx).1, Nat.le_trans (WW_len hn4) (by decide), fun H4 q ws s4 nq e4 r4 => ?_⟩
    refine ⟨_, rfl, a, C, dx, _, rfl, s4 _ _ a2, T.cl, T.n3, (by show 2 < 1000; decide), ?_⟩
    have q3 : putF "rows" (.ref q) (sF2 d p) = (sF3 d p q) := put_end ["sets", "spans"] rfl (by decide +kernel)
    rw [q3]
    have k4' : Keep a H4 (upd H4 a (.ins C dx (sF3 d p q))) := (Keep.of (Same.refl _)).upd
    have k4 := k2.trans ((Keep.of s4).trans k4')
    have a4 : upd H4 a (.ins C dx (sF3 d p q)) a = some (.ins C dx (sF3 d p q)) := upd_same
    have ep4 := k4'.lst (s4 _ _ a2) (s4 _ _ ep2)
    have rp4 := (r2'.mono fun v x => rPair.same s4 v x).mono fun v x => k4'.pair (s4 _ _ a2) v x
    have eq4 := k4'.lst (s4 _ _ a2) e4
    have rq4 := r4.mono fun v x => k4'.row (s4 _ _ a2) v x
    generalize upd H4 a (.ins C dx (sF3 d p q)) = H5 at k4 k4' a4 ep4 rp4 eq4 rq4 ⊢
    -- marks
    refine ⟨_, rfl, a, C, dx, _, _, rfl, a4, T.cl, T.n2, (lk_past (by decide +kernel)).trans lk_here, p, rfl, ⟨_, SqL.of ep4⟩, fun D hD => ?_⟩
    refine lc_list (K := K) (a := p) (xs := us) (fun i H' => Same H5 H' ∧ H' D = some (.lst ((((WW n).take i).map markOf).map natV))) ⟨same_new hD, upd_same⟩ (fun i H' _ ⟨s5, _⟩ => SqL.of (s5 _ _ ep4)) ?_ ?_
    · rintro i v H6 hi ⟨s6, e6⟩
      obtain ⟨x, hx, b, rfl, hb⟩ := rp4.at hi
      have hx : (WW n)[i]? = some x := hx
      have hxu := within_up (List.mem_of_getElem? hx)
      refine ⟨b, _, rfl, SqT.of (s6 _ _ hb), rfl, _, _, rfl, _, _, rfl, rfl, rfl, ?_⟩
      refine yes_of ?_
      refine ⟨_, rfl, 1, (x.1 : Int), rfl, rfl, ⟨Int.natCast_nonneg _, by omega, by decide⟩, _, rfl, 1, (x.2 : Int), rfl, rfl, ⟨Int.natCast_nonneg _, by omega, by decide⟩, _, _, rfl, rfl, _, e6, ?_, same_at s6 hD, ?_⟩
      · rw [List.length_map, List.length_map, List.length_take]
        have := WW_len hn4
        exact line_lt (by omega)
      · rw [upd_same, take_snoc hx, List.map_append, List.map_append]
        dsimp only
        rw [shl_nat, shl_nat, or_nat]
        rfl
    · rintro H6 ⟨s6, e6⟩
      have efull : (WW n).take us.length = WW n := by rw [r2.1]; exact List.take_length
      rw [efull] at e6
      refine ⟨_, rfl, a, C, dx, _, rfl, s6 _ _ a4, T.cl, T.n4, (by show 3 < 1000; decide), ?_⟩
      have q4 : putF "marks" (.ref D) (sF3 d p q) = (sF4 d p q D) := put_end ["sets", "spans", "rows"] rfl (by decide +kernel)
      rw [q4]
      have k6' : Keep a H6 (upd H6 a (.ins C dx (sF4 d p q D))) := (Keep.of (Same.refl _)).upd
      have k6 := k4.trans ((Keep.of s6).trans k6')
      have a6 : upd H6 a (.ins C dx (sF4 d p q D)) a = some (.ins C dx (sF4 d p q D)) := upd_same
      have ep6 := k6'.lst (s6 _ _ a4) (s6 _ _ ep4)
      have rp6 := (rp4.mono fun v x => rPair.same s6 v x).mono fun v x => k6'.pair (s6 _ _ a4) v x
      have eq6 := k6'.lst (s6 _ _ a4) (s6 _ _ eq4)
      have rq6 := (rq4.mono fun v x => rRow.same s6 v x).mono fun v x => k6'.row (s6 _ _ a4) v x
      have eD6 := k6'.lst (s6 _ _ a4) e6
      generalize upd H6 a (.ins C dx (sF4 d p q D)) = H7 at k6 k6' a6 ep6 rp6 eq6 rq6 eD6 ⊢
      -- left_out
      refine ⟨_, rfl, 2 * n - 1, by dsimp only [List.set]; rw [e3]; rfl, by omega, fun H8 l s8 nl e8 => ?_⟩
      refine ⟨_, rfl, a, C, dx, _, rfl, s8 _ _ a6, T.cl, T.n5, (by show 4 < 1000; decide), ?_⟩
      have q5 : putF "left_out" (.ref l) (sF4 d p q D) = sF d p q D l := put_end ["sets", "spans", "rows", "marks"] rfl (by decide +kernel)
      rw [q5]
      have k8' : Keep a H8 (upd H8 a (.ins C dx (sF d p q D l))) := (Keep.of (Same.refl _)).upd
      have k8 := k6.trans ((Keep.of s8).trans k8')
      have e2n : 2 * n - 1 + 1 = 2 * n := by omega
      rw [e2n] at e8
      have a8 := s8 _ _ a6
      refine k _ ⟨dx, d, p, q, D, l, upd_same, ?_, ⟨us, ?_, ?_⟩, ⟨ws, ?_, ?_⟩, ?_, ?_⟩ k8
      · exact k8.sets ha hS
      · exact k8'.lst a8 (s8 _ _ ep6)
      · exact (rp6.mono fun v x => rPair.same s8 v x).mono fun v x => k8'.pair a8 v x
      · exact k8'.lst a8 (s8 _ _ eq6)
      · exact (rq6.mono fun v x => rRow.same s8 v x).mono fun v x => k8'.row a8 v x
      · exact k8'.lst a8 (s8 _ _ eD6)
      · exact k8'.lst a8 e8
end
end Sv
/-! ListSearch.narrowed. -/
namespace Sv
open PySem PySem.Spec PyProof.Rows L2

def narrow1 (net : Kcz9.Net) (W : List (Nat × Nat)) (ch num j : Nat) (l : List Nat) : List Nat := l.filter fun u => Kcz9.bit (net num j) (Kcz9.lies (sp W ch) (sp W u))
def narrow (net : Kcz9.Net) (W : List (Nat × Nat)) (ch num : Nat) (cs : List (List Nat)) (k : Nat) : List (List Nat) :=
  (List.range k).map fun st => narrow1 net W ch num (num + (st + 1)) (cs.getD (st + 1) [])
theorem narrow_succ (net : Kcz9.Net) (W : List (Nat × Nat)) (ch num : Nat) (cs : List (List Nat)) (k : Nat) :
    narrow net W ch num cs (k + 1) = narrow net W ch num cs k ++ [narrow1 net W ch num (num + (k + 1)) (cs.getD (k + 1) [])] := by
  unfold narrow
  rw [List.range_succ, List.map_append]
  rfl
def spNarrow (C : Addr) : Sp := fun vs H Q _ => ∃ (a q : Addr) (ch num n : Nat) (net : Kcz9.Net) (us : List V) (cs : List (List Nat)), vs = [.ref a, natV ch, natV num, .ref q] ∧ SearchAt C H a n net ∧ 2 ≤ n ∧ n ≤ 4 ∧ ch < (WW n).length ∧
  H q = some (.lst us) ∧ LRel rRow H us cs ∧ (∀ c ∈ cs, c.length ≤ 100 ∧ ∀ u ∈ c, u < (WW n).length) ∧ 1 ≤ cs.length ∧ num + cs.length ≤ n ∧
  ∀ H' p ws, Same H H' → H p = none → H' p = some (.lst ws) → LRel rRow H' ws (narrow net (WW n) ch num cs (cs.length - 1)) → Q (.ref p) H'

theorem lies_row {n ch u : Nat} (hc : ch < (WW n).length) (hu : u < (WW n).length) : ∃ r, (among (WW n) (WW n))[ch]? = some r ∧ r[u]? = some (Kcz9.lies (sp (WW n) ch) (sp (WW n) u)) := by
  have h1 : (WW n)[ch]? = some ((WW n).getD ch (0, 0)) := get_getD hc
  have h2 : (WW n)[u]? = some ((WW n).getD u (0, 0)) := get_getD hu
  refine ⟨ways1 ((WW n).getD ch (0, 0)) (WW n), ?_, ?_⟩
  · unfold among
    rw [List.getElem?_map, h1]
    rfl
  · unfold ways1
    rw [List.getElem?_map, h2]
    rfl

section
variable {P : Program} {w : World} {K : PySem.W.Frag} {mg : Str → Option Value} {base : Heap} {C : Addr}
theorem scNarrow : FnScope ["self", "chosen", "number", "choices", "row", "later", "step", "ways", "span"] ["self", "chosen", "number", "choices"] (defScope sNarrow) := ⟨rfl, rfl, rfl, by decide +kernel, rfl, by decide +kernel, by decide +kernel⟩
theorem ok_narrow {f : Addr} {fd : FuncData} (F : Fun K "narrowed" "ListSearch.narrowed" sNarrow f fd) (T : TxtS K C) (M : Glo mg) :
    FnOk P w K mg base CX0 1 f fd ["self", "chosen", "number", "choices"] (spNarrow C) := by
  refine F.ok scNarrow (fun vs H Q E h => ?_) (fun cdv A outer s H vs Q E hr h => ?_)
  · obtain ⟨_, _, _, _, _, _, _, _, rfl, _⟩ := h
    rfl
  · obtain ⟨a, q, ch, num, n, net, us, cs, rfl, hA, hn2, hn4, hch, hq, hL, hcs, hk1, hkn, k⟩ := h
    have nd := scNarrow.nd
    have hu := hu_of hr
    refine ⟨_, pss_cons (ps_set (i := 4) nd rfl (Or.inr rfl) (pe_ix ix_list (pe_fld (pv 0) rfl) (pv 1) (fun _ _ => rfl)))
      (pss_cons (ps_set (i := 5) nd rfl (Or.inl rfl) (pe_lst pa_nil))
      (pss_cons (ps_for PassesOwn.never rfl (pi_range2 rfl M.range (pa_cons pe_int (pa_cons (pe_callB call_len_seq (by rfl) M.len PySem.boot_len (pa_cons (pv 3) pa_nil)) pa_nil))) (pg_name (i := 6) nd rfl (Or.inl rfl))
        (pss_cons (ps_set (i := 7) nd rfl (Or.inr rfl) (pe_dget hu (pe_fld (pv 0) rfl) (pe_tup (pa_cons (pv 2) (pa_cons (pe_op op_add (pv 2) (pv 6)) pa_nil))) (fun _ _ => rfl)))
        (pss_one (ps_expr (pe_bm PySem.F.plainAttrs_list PySem.F.slot_list_append PySem.F.type_list_append mt_append (pv 5) (pa_cons
          (pe_lc (own := [("span", 8)]) (g := gName 8) rfl nd (pi_list (pe_ix ix_list (pv 3) (pv 6) (fun _ _ => rfl)))
            (blkOk_by (own := [("span", 8)]) (N := ["self", "chosen", "number", "choices", "row", "later", "step", "ways", "span"]) (sc := defScope sNarrow) (by decide +kernel))
            (fun _ _ _ _ _ => pg_name (i := 8) nd rfl (Or.inl rfl))
            (fun _ _ _ _ _ => pts_one (pt_tru K rfl (pe_op op_and (pe_op op_shr (pv 7) (pe_ixL K rfl (pv 4) (pv 8) (fun _ _ => rfl))) pe_int) (by intro _; rfl)))
            (fun _ _ _ _ _ => pv 8)) pa_nil))))))
      (pss_one (ps_ret (pv 5))))), ?_⟩
    obtain ⟨dx, d, sp', r, m, l, ha, Pt⟩ := hA.ex
    obtain ⟨rs, hr1, hr2⟩ := Pt.rows
    obtain ⟨hW0, hW1⟩ : True ∧ ∃ row, (among (WW n) (WW n))[ch]? = some row := ⟨trivial, by obtain ⟨x, h1, _⟩ := lies_row hch hch; exact ⟨x, h1⟩⟩
    obtain ⟨row, hrow⟩ := hW1
    obtain ⟨rv, hrv, ra, rfl, hra⟩ := hr2.2 ch row hrow
    have rowAt : ∀ u, u < (WW n).length → row[u]? = some (Kcz9.lies (sp (WW n) ch) (sp (WW n) u)) := by
      intro u hu'
      obtain ⟨x, h1, h2⟩ := lies_row hch hu'
      rw [hrow] at h1
      cases h1
      exact h2
    -- row
    refine ⟨_, rfl, a, C, dx, _, _, rfl, ha, T.cl, T.n3, sF_rows .., _, rfl, r, _, (ch : Int), .ref ra, rfl, rfl, SqL.of hr1, atI_nat hrv, ?_⟩
    -- later
    refine ⟨by decide, fun p np => ?_⟩
    have s0 := same_new (o := .lst []) np
    refine ⟨_, rfl, q, us, rfl, .inl (SqL.of (s0 _ _ hq)), 1, (us.length : Int), rfl, ⟨by decide, by decide, by rw [hL.1]; omega, by rw [hL.1]; omega⟩, ?_⟩
    have en : ((us.length : Int) - 1).toNat = cs.length - 1 := by rw [hL.1]; omega
    rw [en]
    refine for_range (lo := 1) (n := cs.length - 1) (fun i σ H' => ∃ (v6 v7 v8 : Option V) (ws : List V), σ = [some (.ref a), some (natV ch), some (natV num), some (.ref q), some (.ref ra), some (.ref p), v6, v7, v8] ∧ Same H H' ∧ H' p = some (.lst ws) ∧ (∀ v ∈ ws, v ≠ .ref p) ∧ LRel rRow H' ws (narrow net (WW n) ch num cs i))
      ⟨none, none, none, [], rfl, s0, upd_same, fun v hv => (List.not_mem_nil hv).elim, LRel.nil⟩ ?_ ?_
    · rintro i σ H1 hi ⟨v6, v7, v8, ws, rfl, s1, e1, n1, r1⟩
      have eN : (1 : Int) + (i : Int) = ((i + 1 : Nat) : Int) := by omega
      have P1 := Pt.same s1
      -- ways = self.sets[(number, number + step)]
      refine ⟨_, rfl, a, C, dx, _, _, rfl, s1 _ _ ha, T.cl, T.n1, sF_sets .., _, rfl, _, rfl, _, rfl, _, _, rfl, rfl, (by show 2 ≤ sizeLine; decide), fun b hb => ?_⟩
      have eB : V.int ((num : Int) + (1 + (i : Int))) = natV (num + (i + 1)) := by
        unfold natV
        congr 1
        omega
      have sb := same_new (o := .tup [natV num, natV (num + (i + 1))]) hb
      have pb : p ≠ b := ne_of_none e1 hb
      rw [show ((fun i j => V.int (i + j)) (num : Int) (1 + (i : Int)) : V) = natV (num + (i + 1)) from eB]
      refine ⟨d, natV (net num (num + (i + 1))), rfl, P1.sets.get (i := num) (j := num + (i + 1)) (by omega) (by omega) sb upd_same, ?_⟩
      refine ⟨_, rfl, .inl ⟨rfl, _, SqL.of (by rw [upd_ne pb]; exact e1)⟩, ?_⟩
      have hc : cs[i + 1]? = some (cs.getD (i + 1) []) := get_getD (by omega)
      obtain ⟨cv, hcv, cb, rfl, hcb⟩ := hL.2 (i + 1) _ hc
      have hcl := hcs _ (List.mem_of_getElem? hc)
      have s1b : Same H1 (upd H1 b (.tup [natV num, natV (num + (i + 1))])) := same_new hb
      have ss := s1.trans s1b
      have ep : (upd H1 b (.tup [natV num, natV (num + (i + 1))])) p = some (.lst ws) := s1b _ _ e1
      have r1b := r1.mono fun v x => rRow.same s1b v x
      generalize (upd H1 b (.tup [natV num, natV (num + (i + 1))])) = H2 at ss ep r1b ⊢
      refine ⟨_, rfl, _, rfl, q, us, ((i + 1 : Nat) : Int), .ref cb, rfl, by rw [← eN], SqL.of (ss _ _ hq), atI_nat hcv, cb, rfl, ⟨_, SqL.of (ss _ _ hcb)⟩, fun D hD => ?_⟩
      have pD : p ≠ D := ne_of_none ep hD
      generalize ec : cs.getD (i + 1) [] = c at hcl hcb hc
      refine lc_list (K := K) (a := cb) (xs := c.map natV) (fun j H' => Same H2 H' ∧ H' D = some (.lst ((narrow1 net (WW n) ch num (num + (i + 1)) (c.take j)).map natV))) ⟨same_new hD, upd_same⟩ (fun j H' _ ⟨s5, _⟩ => SqL.of (s5 _ _ (ss _ _ hcb))) ?_ ?_
      · rintro j z H3 hj ⟨s3, e3⟩
        obtain ⟨u, hu', rfl⟩ := map_at hj
        have hul := hcl.2 u (List.mem_of_getElem? hu')
        have lt13 := lies_lt (sp (WW n) ch) (sp (WW n) u)
        refine ⟨rfl, _, rfl, _, rfl, _, rfl, ra, _, (u : Int), natV (Kcz9.lies (sp (WW n) ch) (sp (WW n) u)), rfl, rfl, SqL.of (s3 _ _ (ss _ _ hra)), atI_nat (at_map (rowAt u hul)), (net num (num + (i + 1)) : Int), (Kcz9.lies (sp (WW n) ch) (sp (WW n) u) : Int), rfl, rfl, Int.natCast_nonneg _, _, _, rfl, rfl, _, truthy_int, ?_⟩
        rw [bit_int]
        cases hbit : Kcz9.bit (net num (num + (i + 1))) (Kcz9.lies (sp (WW n) ch) (sp (WW n) u)) with
        | true =>
          refine iteT ⟨_, rfl, _, e3, ?_, same_at s3 hD, ?_⟩
          · rw [List.length_map]
            have h1 := List.length_filter_le (fun u => Kcz9.bit (net num (num + (i + 1))) (Kcz9.lies (sp (WW n) ch) (sp (WW n) u))) (c.take j)
            rw [List.length_take] at h1
            have h2 := hcl.1
            unfold narrow1
            exact line_lt (by omega)
          · rw [upd_same, take_snoc hu']
            unfold narrow1
            rw [List.filter_append, List.map_append]
            have : List.filter (fun u => Kcz9.bit (net num (num + (i + 1))) (Kcz9.lies (sp (WW n) ch) (sp (WW n) u))) [u] = [u] := by simp [hbit]
            rw [this]
            rfl
        | false =>
          refine iteF ⟨s3, ?_⟩
          rw [e3, take_snoc hu']
          unfold narrow1
          rw [List.filter_append]
          have : List.filter (fun u => Kcz9.bit (net num (num + (i + 1))) (Kcz9.lies (sp (WW n) ch) (sp (WW n) u))) [u] = [] := by simp [hbit]
          rw [this, List.append_nil]
      · rintro H3 ⟨s3, e3⟩
        rw [List.length_map, List.take_length] at e3
        have ep3 := s3 _ _ ep
        refine ⟨p, _, _, rfl, rfl, ep3, ?_, ?_⟩
        · rw [r1.1]
          unfold narrow
          rw [List.length_map, List.length_range]
          exact line_lt (by omega)
        · refine ⟨_, _, _, _, rfl, same_at (ss.trans s3) np, upd_same, ?_, ?_⟩
          · intro v hv
            rcases List.mem_append.mp hv with hv | hv
            · exact n1 v hv
            · rw [List.mem_singleton] at hv
              subst hv
              intro z
              exact pD (V.ref.inj z).symm
          · rw [narrow_succ, ec]
            refine LRel.snoc ⟨r1b.1, fun j z hz => ?_⟩ ⟨D, rfl, ?_⟩
            · obtain ⟨v, hv, rv⟩ := r1b.2 j z hz
              exact ⟨v, hv, rRow.grow (n1 v (List.mem_of_getElem? hv)) (rRow.same s3 _ _ rv)⟩
            · rw [upd_ne pD.symm]
              exact e3
    · rintro σ H1 ⟨v6, v7, v8, ws, rfl, s1, e1, n1, r1⟩
      exact ⟨_, rfl, k _ p ws s1 np e1 r1⟩
end
end Sv
/-! ListSearch.grown. -/
namespace Sv
open PySem PySem.Spec PyProof.Rows L2

/-! ### in theory -/
def cands (net : Kcz9.Net) (W : List (Nat × Nat)) (t : List Nat) (k : Nat) : List (List Nat) := (List.range k).map fun st => cand net W t (t.length + st)
theorem cands_len (net : Kcz9.Net) (W : List (Nat × Nat)) (t : List Nat) (k : Nat) : (cands net W t k).length = k := by
  unfold cands
  rw [List.length_map, List.length_range]
theorem cands_at {net : Kcz9.Net} {W : List (Nat × Nat)} {t : List Nat} {k st : Nat} (h : st < k) : (cands net W t k)[st]? = some (cand net W t (t.length + st)) := by
  unfold cands
  rw [List.getElem?_map, List.getElem?_range h]
  rfl
theorem cands_narrow (net : Kcz9.Net) (W : List (Nat × Nat)) (t : List Nat) (k s : Nat) : narrow net W s t.length (cands net W t (k + 1)) k = cands net W (t ++ [s]) k := by
  unfold narrow
  show _ = (List.range k).map fun st => cand net W (t ++ [s]) ((t ++ [s]).length + st)
  refine List.map_congr_left fun st hst => ?_
  have hst := List.mem_range.mp hst
  have e : (cands net W t (k + 1)).getD (st + 1) [] = cand net W t (t.length + (st + 1)) := getD_some (cands_at (by omega))
  rw [e, cand_snoc, List.length_append]
  have e2 : t.length + [s].length + st = t.length + (st + 1) := by
    show t.length + 1 + st = t.length + (st + 1)
    omega
  rw [e2]
  rfl
theorem cand_len (net : Kcz9.Net) (W : List (Nat × Nat)) (t : List Nat) (j : Nat) : (cand net W t j).length ≤ W.length := by
  unfold cand
  have := List.length_filter_le (fun s => fitTo net j (t.map (sp W)) (sp W s)) (List.range W.length)
  rw [List.length_range] at this
  exact this
theorem cand_lt {net : Kcz9.Net} {W : List (Nat × Nat)} {t : List Nat} {j s : Nat} (h : s ∈ cand net W t j) : s < W.length := by
  unfold cand at h
  exact List.mem_range.mp (List.mem_filter.mp h).1
theorem cands_mem {net : Kcz9.Net} {W : List (Nat × Nat)} {t : List Nat} {k : Nat} {c : List Nat} (h : c ∈ cands net W t k) : c.length ≤ W.length ∧ ∀ u ∈ c, u < W.length := by
  unfold cands at h
  obtain ⟨st, _, rfl⟩ := List.mem_map.mp h
  exact ⟨cand_len _ _ _ _, fun u hu => cand_lt hu⟩
theorem marks_lt {n : Nat} {W : List (Nat × Nat)} (S : ∀ s, s < W.length → (W.getD s (0, 0)).1 < n ∧ (W.getD s (0, 0)).2 < n) {t : List Nat} (ht : ∀ s ∈ t, s < W.length) : marks W t < 2 ^ n := by
  apply Nat.lt_pow_two_of_testBit
  intro i hi
  rw [marks_bit, List.any_eq_false]
  intro s hs
  have := S s (ht s hs)
  rw [Bool.or_eq_true, decide_eq_true_iff, decide_eq_true_iff]
  omega
theorem WW_up {n s : Nat} (hn : 2 ≤ n) (h : s < (WW n).length) : ((WW n).getD s (0, 0)).1 < 2 * n ∧ ((WW n).getD s (0, 0)).2 < 2 * n := by
  have h2 : ((WW n).getD s (0, 0)).1 < ((WW n).getD s (0, 0)).2 ∧ ((WW n).getD s (0, 0)).2 ≤ 2 * n - 1 := within_up (List.mem_of_getElem? (get_getD (d := (0, 0)) h))
  omega
/-- one turn of the search -/
def turn (net : Kcz9.Net) (W : List (Nat × Nat)) (k : Nat) (t : List Nat) (s : Nat) : List Nat :=
  if 2 * k < lo (marks W (t ++ [s])) then [] else if (List.range k).any (fun st => decide (cand net W (t ++ [s]) (t.length + 1 + st) = [])) = true then [] else gr net W k (t ++ [s])
theorem gr_succ (net : Kcz9.Net) (W : List (Nat × Nat)) (k : Nat) (t : List Nat) : gr net W (k + 1) t = tryAll (turn net W k t) (cand net W t t.length) := rfl
theorem try_drop {f : Nat → List Nat} {l : List Nat} {i s : Nat} (h : l[i]? = some s) : tryAll f (l.drop i) = if f s = [] then tryAll f (l.drop (i + 1)) else f s := by
  have hi := (List.getElem?_eq_some_iff.mp h).1
  have e : l[i] = s := (List.getElem?_eq_some_iff.mp h).2
  rw [List.drop_eq_getElem_cons hi, e]
  rfl

/-! ### lists of lists as data -/
def datI (u : Nat) : PyData := .int (u : Int)
def dat1 (l : List Nat) : PyData := .list (l.map datI)
theorem lay1 : ∀ l : List Nat, PyData.canLayAll0 (l.map datI) = true
  | [] => by simp [PyData.canLayAll0]
  | a :: l => by
    have := lay1 l
    simp only [List.map_cons, PyData.canLayAll0, datI, PyData.canLay0, Bool.true_and]
    exact this
theorem depth1 : ∀ l : List Nat, PyData.depthAll (l.map datI) = 0
  | [] => by simp [PyData.depthAll]
  | a :: l => by
    have := depth1 l
    simp only [List.map_cons, PyData.depthAll, this, datI, PyData.depth]
    rfl
theorem lay2 : ∀ L : List (List Nat), PyData.canLayAll0 (L.map dat1) = true
  | [] => by simp [PyData.canLayAll0]
  | a :: L => by
    have := lay2 L
    have h1 := lay1 a
    simp only [List.map_cons, PyData.canLayAll0, Bool.and_eq_true]
    refine ⟨?_, this⟩
    unfold dat1
    simp only [PyData.canLay0]
    exact h1
theorem depth2 : ∀ L : List (List Nat), PyData.depthAll (L.map dat1) ≤ 1
  | [] => by simp [PyData.depthAll]
  | a :: L => by
    have := depth2 L
    have h1 := depth1 a
    simp only [List.map_cons, PyData.depthAll]
    have e : (dat1 a).depth = 1 := by
      unfold dat1
      simp only [PyData.depth, h1]
    rw [e]
    omega
theorem shaped2 (L : List (List Nat)) : SeqAt.shaped (.list (L.map dat1)) = true := by
  unfold SeqAt.shaped
  rw [Bool.and_eq_true, decide_eq_true_iff]
  have h1 := lay2 L
  have h2 := depth2 L
  simp only [PyData.canLay0, PyData.depth]
  exact ⟨h1, by omega⟩
theorem shaped0 : SeqAt.shaped (.list []) = true := shaped2 []
theorem eqv_empty (l : List Nat) : PyData.eqv (dat1 l) (.list []) = decide (l = []) := by
  cases l <;> simp [dat1, PyData.eqv, PyData.eqvAll]
theorem dp_row {K : PySem.W.Frag} {H : Hp} : ∀ (l : List Nat), DpAll K H (l.map natV) (l.map datI)
  | [] => .nil
  | _ :: l => .cons (.int _) (dp_row l)
theorem dp_rows {K : PySem.W.Frag} {H : Hp} : ∀ {us : List V} {L : List (List Nat)}, LRel rRow H us L → DpAll K H us (L.map dat1)
  | [], [], _ => .nil
  | [], _ :: _, h => by cases h.1
  | _ :: _, [], h => by cases h.1
  | u :: us, l :: L, h => by
    refine .cons ?_ (dp_rows ⟨by simpa using h.1, fun i x e => ?_⟩)
    · obtain ⟨v, hv, a, rfl, ha⟩ := h.2 0 l rfl
      cases hv
      exact .lst (SqL.of ha) (dp_row l)
    · obtain ⟨v, hv, r⟩ := h.2 (i + 1) x e
      exact ⟨v, hv, r⟩
theorem any_empty (net : Kcz9.Net) (W : List (Nat × Nat)) (t : List Nat) (s k : Nat) : (((cands net W (t ++ [s]) k).map dat1).any fun z => PyData.eqv z (.list [])) = (List.range k).any fun st => decide (cand net W (t ++ [s]) (t.length + 1 + st) = []) := by
  unfold cands
  rw [List.map_map, List.any_map, List.length_append]
  congr 1
  funext st
  exact eqv_empty _

def spGrown (C : Addr) (k : Nat) : Sp := fun vs H Q _ => ∃ (a t q : Addr) (n : Nat) (net : Kcz9.Net) (tk : List Nat) (us : List V), vs = [.ref a, .ref t, .ref q, natV (marks (WW n) tk)] ∧ SearchAt C H a n net ∧ 2 ≤ n ∧ n ≤ 4 ∧
  H t = some (.lst (tk.map natV)) ∧ H q = some (.lst us) ∧ LRel rRow H us (cands net (WW n) tk k) ∧ tk.length + k = n ∧ (∀ s ∈ tk, s < (WW n).length) ∧
  ∀ H' p, Same H H' → H' p = some (.lst ((gr net (WW n) k tk).map natV)) → Q (.ref p) H'

section
variable {P : Program} {w : World} {K : PySem.W.Frag} {mg : Str → Option Value} {base : Heap} {C : Addr}
theorem scGrown : FnScope ["self", "taken", "choices", "numbers", "span", "marked", "later", "found"] ["self", "taken", "choices", "numbers"] (defScope sGrown) := ⟨rfl, rfl, rfl, by decide +kernel, rfl, by decide +kernel, by decide +kernel⟩
theorem grown_step {f : Addr} {fd : FuncData} {lv : Nat} {sp' : Sp} {k : Nat} (F : Fun K "grown" "ListSearch.grown" sGrown f fd) (T : TxtS K C) (M : Glo mg) (B : Binds K fd ["self", "taken", "choices", "numbers"] []) (mG : Meth K C "grown" f)
    (BN : MtB P w K mg base C "narrowed" 1 ["self", "chosen", "number", "choices"] (spNarrow C)) (OG : FnOk P w K mg base CX0 lv f fd ["self", "taken", "choices", "numbers"] sp') (hlv : 1 ≤ lv) (hk : ∀ j, k = j + 1 → sp' = spGrown C j) :
    FnOk P w K mg base CX0 (lv + 1) f fd ["self", "taken", "choices", "numbers"] (spGrown C k) := by
  obtain ⟨gN, fN, mN, bN, ON⟩ := BN
  refine F.ok scGrown (fun vs H Q E h => ?_) (fun cdv A outer s H vs Q E hr h => ?_)
  · obtain ⟨_, _, _, _, _, _, _, rfl, _⟩ := h
    rfl
  · obtain ⟨a, t, q, n, net, tk, us, rfl, hA, hn2, hn4, ht, hq, hL, hkn, htk, kk⟩ := h
    have nd := scGrown.nd
    have hr1 : Room 1 _ := hr.mono hlv
    have h65 : ∀ u, u + 16 * 1 + 200 < cLine → u + 65 < cLine := fun u h => by omega
    refine ⟨_, pss_cons (ps_if (pt_not (pt_tru K rfl (pv 2) (by intro _; rfl))) (pss_one (ps_ret (pv 1))) pss_nil)
      (pss_cons (ps_for PassesOwn.never rfl (pi_list (pe_ix ix_list (pv 2) pe_int (fun _ _ => rfl))) (pg_name (i := 4) nd rfl (Or.inl rfl))
        (pss_cons (ps_set (i := 5) nd rfl (Or.inl rfl) (pe_op op_or (pv 3) (pe_ix ix_list (pe_fld (pv 0) rfl) (pv 4) (fun _ _ => rfl))))
        (pss_cons (ps_if (pt_cmpR op_gt (pe_ix ix_list (pe_fld (pv 0) rfl) (pv 5) (fun _ _ => rfl)) (pe_op op_mul pe_int (pe_op op_sub (pe_callB call_len_seq (by rfl) M.len PySem.boot_len (pa_cons (pv 2) pa_nil)) pe_int)) (nomark _)) (pss_one ps_continue) pss_nil)
        (pss_cons (ps_set (i := 6) nd rfl (Or.inl rfl) (pe_meth (pv 0) T.cl mN ON hr1 bN .nil pass0 (pa_cons (pv 4) (pa_cons (pe_callB call_len_seq (by rfl) M.len PySem.boot_len (pa_cons (pv 1) pa_nil)) (pa_cons (pv 2) pa_nil)))))
        (pss_cons (ps_if (pt_cmpR (op_inD (h65 _ hr1.un)) (pe_lst pa_nil) (pv 6) rfl) (pss_one ps_continue) pss_nil)
        (pss_cons (ps_set (i := 7) nd rfl (Or.inl rfl) (pe_meth (pv 0) T.cl mG OG hr B .nil pass0 (pa_cons (pe_op op_cat (pv 1) (pe_lst (pa_cons (pv 4) pa_nil))) (pa_cons (pv 6) (pa_cons (pv 5) pa_nil)))))
        (pss_one (ps_if (pt_tru K rfl (pv 7) (by intro _; rfl)) (pss_one (ps_ret (pv 7))) pss_nil))))))))
      (pss_one (ps_ret (pe_lst pa_nil)))), ?_⟩
    have lenU : us.length = k := by rw [hL.1, cands_len]
    refine ⟨_, rfl, _, .inl ⟨us, SqL.of hq, rfl⟩, ?_⟩
    cases k with
    | zero =>
      have : us = [] := List.length_eq_zero_iff.mp lenU
      subst this
      exact iteT ⟨_, rfl, kk H t (Same.refl _) ht⟩
    | succ k =>
      have hne : us.isEmpty = false := by
        cases us with
        | nil => cases lenU
        | cons _ _ => rfl
      rw [hne]
      refine iteF ?_
      have esp := hk k rfl
      subst esp
      obtain ⟨dx, d, sp', r, m, l, ha, Pt⟩ := hA.ex
      obtain ⟨cv, hcv, c0, rfl, hc0⟩ := hL.2 0 _ (cands_at (by omega))
      rw [Nat.add_zero] at hc0
      have e0 : tryAll (turn net (WW n) k tk) ((cand net (WW n) tk tk.length).drop 0) = gr net (WW n) (k + 1) tk := rfl
      have lenC := cand_len net (WW n) tk tk.length
      have lenW := WW_len hn4
      refine ⟨_, rfl, q, us, 0, .ref c0, rfl, rfl, SqL.of hq, atI_nat hcv, c0, rfl, ⟨_, SqL.of hc0⟩, for_list (K := K) (a := c0) (xs := (cand net (WW n) tk tk.length).map natV)
        (fun i σ H' => ∃ (v4 v5 v6 v7 : Option V), σ = [some (.ref a), some (.ref t), some (.ref q), some (natV (marks (WW n) tk)), v4, v5, v6, v7] ∧ Same H H' ∧ tryAll (turn net (WW n) k tk) ((cand net (WW n) tk tk.length).drop i) = gr net (WW n) (k + 1) tk)
        ⟨none, none, none, none, rfl, Same.refl _, e0⟩ (fun i σ H' _ ⟨_, _, _, _, _, s5, _⟩ => SqL.of (s5 _ _ hc0)) ?_ ?_⟩
      · rintro i y σ H1 hi ⟨v4, v5, v6, v7, rfl, s1, e1⟩
        obtain ⟨z, hz, rfl⟩ := map_at hi
        have hzl : z < (WW n).length := cand_lt (List.mem_of_getElem? hz)
        rw [try_drop hz] at e1
        have P1 := Pt.same s1
        have eM : natV (marks (WW n) tk ||| mark (WW n) z) = natV (marks (WW n) (tk ++ [z])) := by rw [marks_snoc]
        have hml : marks (WW n) (tk ++ [z]) < 2 ^ (2 * n) := by
          refine marks_lt (n := 2 * n) (fun s hs => WW_up hn2 hs) fun s hs => ?_
          rcases List.mem_append.mp hs with hs | hs
          · exact htk s hs
          · rw [List.mem_singleton] at hs
            subst hs
            exact hzl
        -- marked
        refine ⟨_, rfl, _, rfl, a, C, dx, _, _, rfl, s1 _ _ ha, T.cl, T.n4, sF_marks .., _, rfl, m, _, (z : Int), natV (mark (WW n) z), rfl, rfl, SqL.of P1.marks, atI_nat (at_map (by rw [List.getElem?_map, get_getD (d := (0, 0)) hzl]; rfl)), _, (mark (WW n) z : Int), rfl, rfl, ?_⟩
        dsimp only [List.set]
        rw [or_nat, show V.int ((marks (WW n) tk ||| mark (WW n) z : Nat) : Int) = natV (marks (WW n) (tk ++ [z])) from eM]
        -- if left_out[marked] > ..
        refine ⟨_, rfl, a, C, dx, _, _, rfl, s1 _ _ ha, T.cl, T.n5, sF_left .., _, rfl, l, _, (marks (WW n) (tk ++ [z]) : Int), natV (lo (marks (WW n) (tk ++ [z]))), rfl, rfl, SqL.of P1.left, atI_nat (by rw [List.getElem?_map, List.getElem?_range hml]; rfl), ?_⟩
        refine ⟨_, rfl, q, us, rfl, .inl (SqL.of (s1 _ _ hq)), _, _, rfl, rfl, _, _, rfl, rfl, .inl ⟨by decide, by decide⟩, _, _, rfl, rfl, _, rfl, ?_⟩
        refine if_dec (fun c => ?_) (fun c => ?_)
        · have c : 2 * k < lo (marks (WW n) (tk ++ [z])) := by
            have c : (2 * ((us.length : Int) - 1)) < (lo (marks (WW n) (tk ++ [z])) : Int) := c
            rw [lenU] at c
            omega
          refine ⟨some (natV z), some (natV (marks (WW n) (tk ++ [z]))), v6, v7, rfl, s1, ?_⟩
          have et : turn net (WW n) k tk z = [] := if_pos c
          rw [et, if_pos rfl] at e1
          exact e1
        have c : ¬ 2 * k < lo (marks (WW n) (tk ++ [z])) := by
          intro h
          apply c
          show (2 * ((us.length : Int) - 1)) < (lo (marks (WW n) (tk ++ [z])) : Int)
          rw [lenU]
          omega
        -- later
        refine ⟨_, rfl, a, dx, _, rfl, s1 _ _ ha, sF_none _ _ _ _ _ (by decide +kernel), _, rfl, _, rfl, t, _, rfl, .inl (SqL.of (s1 _ _ ht)), _, rfl, ?_⟩
        refine ⟨a, q, z, tk.length, n, net, us, cands net (WW n) tk (k + 1), by rw [List.length_map]; rfl, hA.same s1, hn2, hn4, hzl, s1 _ _ hq, hL.mono (rRow.same s1), fun c hc => ⟨Nat.le_trans (cands_mem hc).1 lenW, (cands_mem hc).2⟩, by rw [cands_len]; omega, by rw [cands_len]; omega, fun H2 p ws s2 np e2 r2 => ?_⟩
        rw [cands_len, show k + 1 - 1 = k from rfl, cands_narrow] at r2
        have s12 := s1.trans s2
        -- if [] in later
        refine ⟨by decide, fun z0 hz0 => ⟨_, rfl, .list [], _, .lst (SqL.of upd_same) .nil, .lst (SqL.of ((same_new hz0) _ _ e2)) (dp_rows (r2.mono (rRow.same (same_new hz0)))), shaped0, shaped2 _, _, rfl, ?_⟩⟩
        have s3 : Same H (upd H2 z0 (.lst [])) := s12.trans (same_new hz0)
        have e3 := (same_new (o := .lst []) hz0) _ _ e2
        have r3 := r2.mono (rRow.same (same_new (o := .lst []) hz0))
        generalize upd H2 z0 (.lst []) = H3 at s3 e3 r3 ⊢
        rw [any_empty]
        have et : turn net (WW n) k tk z = if (List.range k).any (fun st => decide (cand net (WW n) (tk ++ [z]) (tk.length + 1 + st) = [])) = true then [] else gr net (WW n) k (tk ++ [z]) := if_neg c
        cases hany : (List.range k).any (fun st => decide (cand net (WW n) (tk ++ [z]) (tk.length + 1 + st) = [])) with
        | true =>
          refine iteT ⟨some (natV z), some (natV (marks (WW n) (tk ++ [z]))), some (.ref p), v7, rfl, s3, ?_⟩
          rw [hany] at et
          rw [et, if_pos rfl, if_pos rfl] at e1
          exact e1
        | false =>
          rw [hany, if_neg (by decide)] at et
          refine iteF ?_
          -- found
          refine ⟨_, rfl, a, dx, _, rfl, s3 _ _ ha, sF_none _ _ _ _ _ (by decide +kernel), _, rfl, _, rfl, (by show 1 ≤ sizeLine; decide), fun z1 hz1 => ?_⟩
          have s4 := same_new (o := .lst [natV z]) hz1
          refine ⟨t, z1, _, _, rfl, rfl, s4 _ _ (s3 _ _ ht), upd_same, ?_, fun t2 ht2 => ?_⟩
          · rw [List.length_map]
            exact line_le (by show tk.length + 1 ≤ _; omega)
          have s5 := s4.trans (same_new (o := .lst (tk.map natV ++ [natV z])) ht2)
          refine ⟨_, rfl, _, rfl, ?_⟩
          refine ⟨a, t2, p, n, net, tk ++ [z], ws, rfl, (hA.same s3).same s5, hn2, hn4, ?_, s5 _ _ e3, r3.mono (rRow.same s5), ?_, ?_, fun H4 g s6 eg => ?_⟩
          · rw [List.map_append]
            exact upd_same
          · rw [List.length_append]
            show tk.length + 1 + k = n
            omega
          · intro s hs
            rcases List.mem_append.mp hs with hs | hs
            · exact htk s hs
            · rw [List.mem_singleton] at hs
              subst hs
              exact hzl
          have s7 : Same H H4 := (s3.trans s5).trans s6
          -- if found
          refine ⟨_, rfl, _, .inl ⟨_, SqL.of eg, rfl⟩, ?_⟩
          rw [et] at e1
          cases hg : gr net (WW n) k (tk ++ [z]) with
          | nil =>
            rw [hg, if_pos rfl] at e1
            exact iteF ⟨some (natV z), some (natV (marks (WW n) (tk ++ [z]))), some (.ref p), some (.ref g), rfl, s7, e1⟩
          | cons x xs =>
            rw [hg, if_neg (List.cons_ne_nil _ _)] at e1
            refine iteT ⟨_, rfl, kk H4 g s7 ?_⟩
            rw [eg, hg, e1]
      · rintro σ H1 ⟨v4, v5, v6, v7, rfl, s1, e1⟩
        rw [List.length_map, List.drop_eq_nil_of_le (Nat.le_refl _)] at e1
        refine ⟨by decide, fun p np => kk _ p (s1.trans (same_new np)) ?_⟩
        rw [upd_same, ← e1]
        rfl
theorem ok_grown {f : Addr} {fd : FuncData} (F : Fun K "grown" "ListSearch.grown" sGrown f fd) (T : TxtS K C) (M : Glo mg) (B : Binds K fd ["self", "taken", "choices", "numbers"] []) (mG : Meth K C "grown" f)
    (BN : MtB P w K mg base C "narrowed" 1 ["self", "chosen", "number", "choices"] (spNarrow C)) : ∀ k, FnOk P w K mg base CX0 (k + 2) f fd ["self", "taken", "choices", "numbers"] (spGrown C k)
  | 0 => by
    have O0 : FnOk P w K mg base CX0 1 f fd ["self", "taken", "choices", "numbers"] (fun _ _ _ _ => False) := F.ok (k := 0) scGrown (fun _ _ _ _ h => h.elim) (fun _ _ _ _ _ _ _ _ _ h => h.elim)
    exact grown_step F T M B mG BN O0 (Nat.le_refl _) fun j e => by cases e
  | k + 1 => grown_step F T M B mG BN (ok_grown F T M B mG BN k) (by omega) fun j e => by cases e; rfl
end
end Sv
/-! first_list. -/
namespace Sv
open PySem PySem.Spec PyProof.Rows L2

theorem pe_fldL {X : Cx} {e : Expr} {f : Str} {pos : Pos} {ta : TE} (K : PySem.W.Frag) (hK : X.K = K) (he : PE X e ta) (hb : attributeBase e f X.env (eval e X.env) = eval e X.env) : PE X (.Attribute e f pos) (tFld K ta f) := by
  subst hK
  exact pe_fld he hb
def rLen (K : PySem.W.Frag) : List V → Hp → VK → Prop := fun xs H Q => ∃ p ys, xs = [.ref p] ∧ (SqL K H p ys ∨ SqT K H p ys) ∧ Q (.int ys.length) H
theorem call_lenL {X : Cx} (K : PySem.W.Frag) (hK : X.K = K) : CallR X (.builtin "len") (rLen K) := by
  subst hK
  exact call_len_seq

theorem cand_nil (net : Kcz9.Net) (W : List (Nat × Nat)) (j : Nat) : cand net W [] j = List.range W.length := by
  unfold cand
  rw [List.filter_eq_self]
  intro s _
  rfl
theorem rgV_nat (n : Nat) : rgV 0 (n : Int) = (List.range n).map natV := by
  unfold rgV
  have : ((n : Int) - 0).toNat = n := by omega
  rw [this]
  refine List.map_congr_left fun i _ => ?_
  rw [Int.zero_add]
  rfl
/-- the spans of a list, by their places -/
def pairsOf (W : List (Nat × Nat)) (t : List Nat) : List (Nat × Nat) := t.map fun s => W.getD s (0, 0)
def spFirst : Sp := fun vs H Q _ => ∃ (d : Addr) (n : Nat) (net : Kcz9.Net), vs = [natV n, .ref d] ∧ 2 ≤ n ∧ n ≤ 4 ∧ SetsAt H d n net ∧ (∀ s ∈ gr net (WW n) n [], s < (WW n).length) ∧ (gr net (WW n) n []).length ≤ 100 ∧
  ∀ H' p us, Same H H' → H p = none → H' p = some (.lst us) → LRel rPair H' us (pairsOf (WW n) (gr net (WW n) n [])) → Q (.ref p) H'

section
variable {P : Program} {w : World} {K : PySem.W.Frag} {mg : Str → Option Value} {base : Heap} {C : Addr}
theorem scFirst : FnScope ["count", "sets", "search", "choices", "number", "place"] ["count", "sets"] (defScope sFirst) := ⟨rfl, rfl, rfl, by decide +kernel, rfl, by decide +kernel, by decide +kernel⟩
theorem ok_first {f fI gG : Addr} {fd fdI fG : FuncData} (F : Fun K "first_list" "first_list" sFirst f fd) (T : TxtS K C) (M : Glo mg) (gC : mg "ListSearch" = some (.ref C)) (MS : Mk K C fI) (OI : FnOk P w K mg base CX0 4 fI fdI ["self", "count", "sets"] (spSInit C)) (bI : Binds K fdI ["self", "count", "sets"] [])
    (mG : Meth K C "grown" gG) (bG : Binds K fG ["self", "taken", "choices", "numbers"] []) (OG : ∀ k, FnOk P w K mg base CX0 (k + 2) gG fG ["self", "taken", "choices", "numbers"] (spGrown C k)) :
    FnOk P w K mg base CX0 7 f fd ["count", "sets"] spFirst := by
  refine F.ok scFirst (fun vs H Q E h => ?_) (fun cdv A outer s H vs Q E hr h => ?_)
  · obtain ⟨_, _, _, rfl, _⟩ := h
    rfl
  · obtain ⟨d, n, net, rfl, hn2, hn4, hS, hg1, hg2, k⟩ := h
    have nd := scFirst.nd
    have hr5 : Room 5 _ := hr.mono (by decide)
    have hrn : Room (n + 2) _ := hr.mono (by omega)
    refine ⟨_, pss_cons (ps_set (i := 2) nd rfl (Or.inr rfl) (pe_make MS OI hr5 rfl gC bI .nil pass0 (pa_cons (pv 0) (pa_cons (pv 1) pa_nil))))
      (pss_cons (ps_setLc (i := 3) (own := [("number", 4)]) (g := gName 4) rfl nd rfl rfl (sw_true rfl rfl rfl (by decide +kernel)) (pi_range1 rfl M.range (pa_cons (pv 0) pa_nil))
        (blkOk_by (own := [("number", 4)]) (N := ["count", "sets", "search", "choices", "number", "place"]) (sc := defScope sFirst) (by decide +kernel))
        (fun _ _ _ _ _ => pg_name (i := 4) nd rfl (Or.inl rfl)) (fun _ _ _ _ _ => pts_nil)
        (fun _ _ _ _ _ => pe_listRg rfl rfl M.list (prg_1 rfl M.range (pe_callB (call_lenL K rfl) (by rfl) M.len PySem.boot_len (pa_cons (pe_fldL K rfl (pv 2) rfl) pa_nil)))))
      (pss_one (ps_ret (pe_lc (own := [("place", 5)]) (g := gName 5) rfl nd (pi_list (pe_meth (pv 2) T.cl mG (OG n) hrn bG .nil pass0 (pa_cons (pe_lst pa_nil) (pa_cons (pv 3) (pa_cons pe_int pa_nil)))))
        (blkOk_by (own := [("place", 5)]) (N := ["count", "sets", "search", "choices", "number", "place"]) (sc := defScope sFirst) (by decide +kernel))
        (fun _ _ _ _ _ => pg_name (i := 5) nd rfl (Or.inl rfl)) (fun _ _ _ _ _ => pts_nil)
        (fun _ _ _ _ _ => pe_ixL K rfl (pe_fldL K rfl (pv 2) rfl) (pv 5) (fun _ _ => rfl)))))), ?_⟩
    -- search
    refine ⟨_, rfl, _, rfl, fun x dx nx ndx nex => ?_⟩
    refine ⟨x, dx, d, n, net, rfl, upd_same, hn2, hn4, hS.same (same_at (same_new ndx) nx), fun H1 hA kp => ⟨rfl, ?_⟩⟩
    have s1 : Same H H1 := Same.made nx ndx kp
    obtain ⟨dx', d', sp', r, m, l, ha, Pt⟩ := hA.ex
    obtain ⟨ps, hp1, hp2⟩ := Pt.spans
    have lenW := WW_len hn4
    -- choices
    refine ⟨_, rfl, (n : Int), rfl, by omega, by omega, fun D hD => ?_⟩
    refine lc_range (lo := 0) (n := n) (fun i H' => ∃ us : List V, Same H1 H' ∧ H' D = some (.lst us) ∧ (∀ v ∈ us, v ≠ .ref D) ∧ LRel rRow H' us ((cands net (WW n) [] n).take i)) ⟨[], same_new hD, upd_same, fun v hv => (List.not_mem_nil hv).elim, LRel.nil⟩ ?_ ?_
    · rintro i H2 hi ⟨us, s2, e2, n2, r2⟩
      refine ⟨rfl, ?_⟩
      refine yes_of ?_
      refine ⟨_, rfl, x, C, dx', _, _, rfl, s2 _ _ ha, T.cl, T.n2, sF_spans .., sp', ps, rfl, .inl (SqL.of (s2 _ _ hp1)), (ps.length : Int), rfl, ⟨by decide, by decide, by omega, ?_, ?_⟩, fun z hz => ?_⟩
      · rw [hp2.1]
        omega
      · rw [hp2.1]
        omega
      have Dz : D ≠ z := ne_of_none e2 hz
      have s3 := s2.trans (same_new (o := .lst (rgV 0 (ps.length : Int))) hz)
      refine ⟨us, by rw [upd_ne Dz]; exact e2, ?_, us ++ [.ref z], same_at s3 hD, upd_same, ?_, ?_⟩
      · rw [r2.1, List.length_take, cands_len]
        exact line_lt (by omega)
      · intro v hv
        rcases List.mem_append.mp hv with hv | hv
        · exact n2 v hv
        · rw [List.mem_singleton] at hv
          subst hv
          intro e
          exact Dz (V.ref.inj e).symm
      · have e : (cands net (WW n) [] n)[i]? = some (List.range (WW n).length) := by rw [cands_at hi, cand_nil]
        rw [take_snoc e]
        refine LRel.snoc ⟨r2.1, fun j y hy => ?_⟩ ⟨z, rfl, ?_⟩
        · obtain ⟨v, hv, rv⟩ := r2.2 j y hy
          exact ⟨v, hv, rRow.grow (n2 v (List.mem_of_getElem? hv)) (rRow.same (same_new hz) _ _ rv)⟩
        · rw [upd_ne Dz.symm, upd_same, hp2.1, rgV_nat]
    · rintro H2 ⟨us, s2, e2, _, r2⟩
      rw [List.take_of_length_le (by rw [cands_len]; exact Nat.le_refl _)] at r2
      -- search.grown([], choices, 0)
      refine ⟨_, rfl, x, dx', _, rfl, s2 _ _ ha, sF_none _ _ _ _ _ (by decide +kernel), by decide, fun z hz => ?_⟩
      have s3 := same_new (o := .lst []) hz
      refine ⟨_, rfl, ?_⟩
      refine ⟨x, z, D, n, net, [], us, rfl, (hA.same s2).same s3, hn2, hn4, upd_same, s3 _ _ e2, r2.mono (rRow.same s3), by show 0 + n = n; omega, fun s hs => (List.not_mem_nil hs).elim, fun H4 g s4 eg => ?_⟩
      have s14 : Same H1 H4 := s2.trans (s3.trans s4)
      refine ⟨g, rfl, ⟨_, SqL.of eg⟩, fun D2 hD2 => ?_⟩
      refine lc_list (K := K) (a := g) (xs := (gr net (WW n) n []).map natV) (fun i H' => ∃ us : List V, Same H4 H' ∧ H' D2 = some (.lst us) ∧ LRel rPair H' us (pairsOf (WW n) ((gr net (WW n) n []).take i))) ⟨[], same_new hD2, upd_same, LRel.nil⟩ (fun i H' _ ⟨_, s5, _⟩ => SqL.of (s5 _ _ eg)) ?_ ?_
      · rintro i v H5 hi ⟨ws, s5, e5, r5⟩
        obtain ⟨u, hu, rfl⟩ := map_at hi
        have hul := hg1 u (List.mem_of_getElem? hu)
        have s15 := s14.trans s5
        refine ⟨rfl, ?_⟩
        refine yes_of ?_
        obtain ⟨pv', hpv, b, rfl, hb⟩ := hp2.2 u _ (get_getD (d := (0, 0)) hul)
        refine ⟨_, rfl, x, C, dx', _, _, rfl, s15 _ _ ha, T.cl, T.n2, sF_spans .., _, rfl, sp', ps, (u : Int), .ref b, rfl, rfl, SqL.of (s15 _ _ hp1), atI_nat hpv, ws, e5, ?_, ws ++ [.ref b], same_at s5 hD2, upd_same, ?_⟩
        · rw [r5.1]
          unfold pairsOf
          rw [List.length_map, List.length_take]
          exact line_lt (by omega)
        · rw [take_snoc hu]
          unfold pairsOf
          rw [List.map_append]
          refine LRel.snoc (r5.mono (rPair.grow e5)) ⟨b, rfl, ?_⟩
          rw [upd_ne (ne_of (s15 _ _ hb) e5 (by intro z; cases z))]
          exact s15 _ _ hb
      · rintro H5 ⟨ws, s5, e5, r5⟩
        rw [List.length_map, List.take_length] at r5
        exact k H5 D2 ws (s1.trans (s14.trans s5)) ((s1.trans s14).free hD2) e5 r5
end
end Sv
/-! The spans' object: how it lies; __init__, begin, are_two, tell, free. -/
namespace Sv
open PySem PySem.Spec PyProof.Rows L2

/-! ### what stays: all but instances and dicts by pairs -/
def fixO : HO → Bool
  | .ins _ _ _ => false
  | .dT _ => false
  | _ => true
def Fixed (H H' : Hp) : Prop := ∀ b o, H b = some o → fixO o = true → H' b = some o
theorem Fixed.of {H H' : Hp} (s : Same H H') : Fixed H H' := fun b o h _ => s b o h
theorem Fixed.trans {H H1 H2 : Hp} (a : Fixed H H1) (b : Fixed H1 H2) : Fixed H H2 := fun c o h f => b c o (a c o h f) f
theorem Fixed.upd {H H' : Hp} {p : Addr} {u o : HO} (a : Fixed H H') (hp : H' p = some u) (hu : fixO u = false) : Fixed H (L2.upd H' p o) := fun c v h f => by
  by_cases e : c = p
  · subst e
    rw [a _ _ h f] at hp
    cases hp
    rw [f] at hu
    cases hu
  · rw [upd_ne e]
    exact a c v h f
theorem Fixed.new {H H' : Hp} {p : Addr} {o : HO} (a : Fixed H H') (hp : H p = none) : Fixed H (L2.upd H' p o) := fun c v h f => by
  rw [upd_ne (ne_of_none h hp)]
  exact a c v h f
theorem Fixed.seq {K : PySem.W.Frag} {H H' : Hp} {a : Addr} {xs : List V} (f : Fixed H H') (h : SqL K H a xs) : SqL K H' a xs := by
  rcases h with (h | ⟨o, h⟩) | h
  · exact .inl (.inl (f _ _ h rfl))
  · exact .inl (.inr ⟨o, f _ _ h rfl⟩)
  · exact .inr h
theorem Fixed.pair {H H' : Hp} (f : Fixed H H') (v : V) (x : Nat × Nat) : rPair H v x → rPair H' v x := fun ⟨a, e, h⟩ => ⟨a, e, f _ _ h rfl⟩
theorem Fixed.row {H H' : Hp} (f : Fixed H H') (v : V) (x : List Nat) : rRow H v x → rRow H' v x := fun ⟨a, e, h⟩ => ⟨a, e, f _ _ h rfl⟩
theorem Fixed.table {H H' : Hp} {t : Addr} (f : Fixed H H') (h : Table H t) : Table H' t :=
  let ⟨us, h1, h2⟩ := h.ex; ⟨us, f _ _ h1 rfl, h2.mono fun v x => f.row v x⟩

/-! ### the dict of the sets, written -/
def updNet (net : Kcz9.Net) (x y v : Nat) : Kcz9.Net := fun i j => if i = x ∧ j = y then v else net i j
theorem kvOf_inj {i j x y : Nat} (h : kvOf i j = kvOf x y) : i = x ∧ j = y := by
  unfold kvOf at h
  simp only [List.cons.injEq, Sum.inl.injEq, and_true] at h
  omega
theorem putK_le {κ : Type} [DecidableEq κ] (c : List (κ × V)) (k : κ) (x : V) : (putK c k x).length ≤ c.length + 1 := by
  unfold putK
  split
  · rw [List.length_map]
    omega
  · rw [List.length_append]
    exact Nat.le_refl _
theorem putK_has {κ : Type} [DecidableEq κ] {c : List (κ × V)} {k : κ} {v : V} (h : valV c k = some v) (x : V) : (putK c k x).length = c.length := by
  unfold putK
  rw [if_pos, List.length_map]
  unfold valV at h
  cases e : List.find? (fun kv : κ × V => decide (kv.1 = k)) c with
  | none => rw [e] at h; cases h
  | some z => exact List.any_eq_true.mpr ⟨z, List.mem_of_find?_eq_some e, List.find?_some (p := fun kv : κ × V => decide (kv.1 = k)) e⟩
theorem SetsAt.put {H H1 : Hp} {d b : Addr} {n : Nat} {net : Kcz9.Net} (h : SetsAt H d n net) {x y : Nat} (hxy : x < y) (hy : y < n) (s : Same H H1) (hb : H1 b = some (.tup [natV x, natV y])) (v : Nat) :
    ∃ kvs kvs', H1 d = some (.dT kvs') ∧ DPut H1 d (.ref b) (natV v) (upd H1 d (.dT kvs)) ∧ SetsAt (upd H1 d (.dT kvs)) d n (updNet net x y v) := by
  obtain ⟨kvs, h1, h2, h3⟩ := h.ex
  refine ⟨putK kvs (kvOf x y) (natV v), kvs, s _ _ h1, .inr ⟨kvs, kvOf x y, b, s _ _ h1, rfl, hb, line_lt (by omega), rfl⟩, ⟨_, upd_same, fun i j hij hj => ?_, ?_⟩⟩
  · rw [valV_put]
    unfold updNet
    by_cases c : i = x ∧ j = y
    · rw [if_pos c, if_pos (by rw [c.1, c.2])]
    · rw [if_neg c, if_neg (fun e => c (kvOf_inj e))]
      exact h2 i j hij hj
  · rw [putK_has (h2 x y hxy hy)]
    exact h3

/-! ### the spans' object -/
def gF (n : Nat) (d t : Addr) : List (Str × V) := [("count", natV n), ("sets", .ref d), ("following", .ref t)]
def gF1 (n : Nat) : List (Str × V) := [("count", natV n)]
def gF2 (n : Nat) (d : Addr) : List (Str × V) := [("count", natV n), ("sets", .ref d)]
structure SpanAt (C : Addr) (H : Hp) (a : Addr) (n : Nat) (t : Addr) (net : Kcz9.Net) : Prop where
  ex : ∃ dx d, H a = some (.ins C dx (gF n d t)) ∧ SetsAt H d n net
theorem SpanAt.same {C : Addr} {H H' : Hp} {a t : Addr} {n : Nat} {net : Kcz9.Net} (h : SpanAt C H a n t net) (s : Same H H') : SpanAt C H' a n t net :=
  let ⟨dx, d, h1, h2⟩ := h.ex; ⟨dx, d, s _ _ h1, h2.same s⟩
structure TxtO (K : PySem.W.Frag) (mg : Str → Option Value) (C : Addr) : Prop where
  cl : Cls K C
  n1 : NoAttr K C "count"
  n2 : NoAttr K C "sets"
  n3 : NoAttr K C "following"
  ref : ∃ t, mg "REFUSED" = some (.int (-22) t)
  nol : ∃ t, mg "NO_LIST" = some (.int (-6) t)
theorem gF_count (n : Nat) (d t : Addr) : (gF n d t).lookup ("count" : Str) = some (natV n) := lk_here
theorem gF_sets (n : Nat) (d t : Addr) : (gF n d t).lookup ("sets" : Str) = some (.ref d) := (lk_past (by decide +kernel)).trans lk_here
theorem gF_foll (n : Nat) (d t : Addr) : (gF n d t).lookup ("following" : Str) = some (.ref t) := (lk_past (by decide +kernel)).trans ((lk_past (by decide +kernel)).trans lk_here)
theorem gF_none {f : Str} (n : Nat) (d t : Addr) (h : ([("count" : Str), "sets", "following"].all fun g => !(f == g)) = true) : (gF n d t).lookup f = none := by
  simp only [List.all_cons, List.all_nil, Bool.and_true, Bool.and_eq_true, Bool.not_eq_true'] at h
  obtain ⟨h1, h2, h3⟩ := h
  exact (lk_past h1).trans ((lk_past h2).trans ((lk_past h3).trans rfl))
theorem putF_here {f : Str} {v x : V} {r : List (Str × V)} : putF f v ((f, x) :: r) = (f, v) :: r := if_pos rfl
theorem putF_past {f g : Str} {v x : V} {r : List (Str × V)} (h : (g == f) = false) : putF f v ((g, x) :: r) = (g, x) :: putF f v r := if_neg (fun e => by rw [e, beq_self_eq_true] at h; cases h)
theorem gF_putc (n m : Nat) (d t : Addr) : putF "count" (natV m) (gF n d t) = gF m d t := putF_here
theorem gF_puts (n : Nat) (d d' t : Addr) : putF "sets" (.ref d') (gF n d t) = gF n d' t := (putF_past (by decide +kernel)).trans (congrArg _ putF_here)

/-- what a method makes of the state, and answers -/
def Ends1 (C : Addr) (H : Hp) (a t : Addr) (n' : Nat) (net' : Kcz9.Net) (ans : List Int) (Q : VK) : Prop :=
  ∀ H' p, Fixed H H' → (∀ xs, H p ≠ some (.lst xs)) → H' p = some (.lst (ans.map V.int)) → SpanAt C H' a n' t net' → Q (.ref p) H'
theorem Ends1.new {C : Addr} {H H1 : Hp} {a t p : Addr} {n : Nat} {net : Kcz9.Net} {ans : List Int} {Q : VK} {vs : List V} (h : Ends1 C H a t n net ans Q) (f : Fixed H H1) (S : SpanAt C H1 a n t net) (np : H1 p = none) (e : vs = ans.map V.int) : Q (.ref p) (upd H1 p (.lst vs)) := by
  subst e
  exact h _ p (f.trans (Fixed.of (same_new np))) (fun xs e => by rw [f _ _ e rfl] at np; cases np) upd_same (S.same (same_new np))

abbrev sOrder : Stmt := topS 25
abbrev sOInit : Stmt := inClass (topS 26) 0
abbrev sBegin : Stmt := inClass (topS 26) 1
abbrev sTwo : Stmt := inClass (topS 26) 2
abbrev sTell : Stmt := inClass (topS 26) 3
abbrev sFree : Stmt := inClass (topS 26) 4

def spOrder : Sp := fun vs H Q _ => ∃ i j : Nat, vs = [natV i, natV j] ∧ ∀ p, H p = none → Q (.ref p) (upd H p (.tup [natV (min i j), natV (max i j)]))
def spOInit (C : Addr) : Sp := fun vs H Q _ => ∃ (a dx : Addr), vs = [.ref a] ∧ H a = some (.ins C dx []) ∧ ∀ (H' : Hp) (t : Addr) (net : Kcz9.Net), SpanAt C H' a 0 t net → Table H' t → Keep a H H' → Q .non H'
def spBegin (C : Addr) : Sp := fun vs H Q _ => ∃ (a t : Addr) (n c : Nat) (net : Kcz9.Net), vs = [.ref a, natV c] ∧ SpanAt C H a n t net ∧ ((c < 2 ∨ 4 < c) → Ends1 C H a t n net [-22] Q) ∧ (¬ (c < 2 ∨ 4 < c) → Ends1 C H a t c (fun _ _ => 8191) [0] Q)
def spTwo (C : Addr) : Sp := fun vs H Q _ => ∃ (a t : Addr) (n i j : Nat) (net : Kcz9.Net), vs = [.ref a, natV i, natV j] ∧ SpanAt C H a n t net ∧ Q (.bl (decide (i < n ∧ j < n ∧ i ≠ j))) H
def spTell (C : Addr) : Sp := fun vs H Q _ => ∃ (a t : Addr) (n i j s : Nat) (net : Kcz9.Net), vs = [.ref a, natV i, natV j, natV s] ∧ SpanAt C H a n t net ∧
  (¬ (i < n ∧ j < n ∧ i ≠ j) ∨ 8191 < s → Ends1 C H a t n net [-22] Q) ∧
  (¬ (¬ (i < n ∧ j < n ∧ i ≠ j) ∨ 8191 < s) → Ends1 C H a t n (updNet net (min i j) (max i j) (net (min i j) (max i j) &&& (if j < i then Kcz9.turned s else s))) [((net (min i j) (max i j) &&& (if j < i then Kcz9.turned s else s) : Nat) : Int)] Q)
def spFree (C : Addr) : Sp := fun vs H Q _ => ∃ (a t : Addr) (n i j : Nat) (net : Kcz9.Net), vs = [.ref a, natV i, natV j] ∧ SpanAt C H a n t net ∧
  (¬ (i < n ∧ j < n ∧ i ≠ j) → Ends1 C H a t n net [-22] Q) ∧ (i < n ∧ j < n ∧ i ≠ j → Ends1 C H a t n (updNet net (min i j) (max i j) 8191) [0] Q)

section
variable {P : Program} {w : World} {K : PySem.W.Frag} {mg : Str → Option Value} {base : Heap} {C : Addr}
theorem scOrder : FnScope ["i", "j"] ["i", "j"] (defScope sOrder) := ⟨rfl, rfl, rfl, by decide +kernel, rfl, by decide +kernel, by decide +kernel⟩
theorem ok_order {f : Addr} {fd : FuncData} (F : Fun K "in_order" "in_order" sOrder f fd) (M : Glo mg) : FnOk P w K mg base CX0 1 f fd ["i", "j"] spOrder := by
  refine F.ok scOrder (fun vs H Q E h => ?_) (fun cdv A outer s H vs Q E hr h => ?_)
  · obtain ⟨_, _, rfl, _⟩ := h
    rfl
  · obtain ⟨i, j, rfl, k⟩ := h
    refine ⟨_, pss_one (ps_ret (pe_tup (pa_cons (pe_callB (call_min2 rfl) (by rfl) M.min (by decide +kernel) (pa_cons (pv 0) (pa_cons (pv 1) pa_nil))) (pa_cons (pe_callB (call_max2 rfl) (by rfl) M.max (by decide +kernel) (pa_cons (pv 0) (pa_cons (pv 1) pa_nil))) pa_nil)))), ?_⟩
    refine ⟨_, rfl, _, rfl, _, _, rfl, _, rfl, _, rfl, _, _, rfl, (by show 2 ≤ sizeLine; decide), fun p np => ?_⟩
    have e1 : V.int (if (j : Int) < (i : Int) then (j : Int) else (i : Int)) = natV (min i j) := by
      unfold natV
      congr 1
      split <;> omega
    have e2 : V.int (if (j : Int) > (i : Int) then (j : Int) else (i : Int)) = natV (max i j) := by
      unfold natV
      congr 1
      split <;> omega
    rw [e1, e2]
    exact k p np

theorem scOInit : FnScope ["self"] ["self"] (defScope sOInit) := ⟨rfl, rfl, rfl, by decide +kernel, rfl, by decide +kernel, by decide +kernel⟩
theorem ok_oinit {f : Addr} {fd : FuncData} (F : Fun K "__init__" "Spans.__init__" sOInit f fd) (T : TxtO K mg C) (BB : FnB P w K mg base "ways_one_behind_another" 4 [] spBehind) : FnOk P w K mg base CX0 5 f fd ["self"] (spOInit C) := by
  obtain ⟨gB, fB, mB, kB, bB, OB⟩ := BB
  refine F.ok scOInit (fun vs H Q E h => ?_) (fun cdv A outer s H vs Q E hr h => ?_)
  · obtain ⟨_, _, rfl, _⟩ := h
    rfl
  · obtain ⟨a, dx, rfl, ha, k⟩ := h
    refine ⟨_, pss_cons (ps_fld (pv 0) pe_int rfl) (pss_cons (ps_fld (pv 0) pe_dnewT rfl) (pss_one (ps_fld (pv 0) (pe_call0 OB hr rfl mB kB bB .nil pass0) rfl))), ?_⟩
    refine ⟨_, rfl, a, C, dx, _, rfl, ha, T.cl, T.n1, (by show 0 < 1000; decide), fun d nd => ?_⟩
    have e1 : putF "count" (V.int 0) [] = gF1 0 := rfl
    rw [e1] at nd ⊢
    have a1 : upd (upd H a (.ins C dx (gF1 0))) d (.dT []) a = some (.ins C dx (gF1 0)) := by
      rw [upd_ne (ne_of_none upd_same nd)]
      exact upd_same
    have k1 : Keep a H (upd (upd H a (.ins C dx (gF1 0))) d (.dT [])) := (Keep.of (Same.refl _)).upd.trans (Keep.of (same_new nd))
    have d1 : upd (upd H a (.ins C dx (gF1 0))) d (.dT []) d = some (.dT []) := upd_same
    generalize upd (upd H a (.ins C dx (gF1 0))) d (.dT []) = H1 at a1 k1 d1 ⊢
    have e2 : putF "sets" (.ref d) (gF1 0) = gF2 0 d := put_end ["count"] rfl (by decide +kernel)
    refine ⟨_, rfl, a, C, dx, _, rfl, a1, T.cl, T.n2, (by show 1 < 1000; decide), ?_⟩
    rw [e2]
    have k2' : Keep a H1 (upd H1 a (.ins C dx (gF2 0 d))) := (Keep.of (Same.refl _)).upd
    have k2 := k1.trans k2'
    have a2 : upd H1 a (.ins C dx (gF2 0 d)) a = some (.ins C dx (gF2 0 d)) := upd_same
    have d2 := k2' _ _ d1 (ne_of d1 a1 (by intro z; cases z))
    generalize upd H1 a (.ins C dx (gF2 0 d)) = H2 at k2 k2' a2 d2 ⊢
    refine ⟨rfl, fun H3 t us s3 nt et rt => ?_⟩
    have e3 : putF "following" (.ref t) (gF2 0 d) = gF 0 d t := put_end ["count", "sets"] rfl (by decide +kernel)
    refine ⟨_, rfl, a, C, dx, _, rfl, s3 _ _ a2, T.cl, T.n3, (by show 2 < 1000; decide), ?_⟩
    rw [e3]
    have k4 : Keep a H3 (upd H3 a (.ins C dx (gF 0 d t))) := (Keep.of (Same.refl _)).upd
    refine k _ t (fun _ _ => 0) ⟨dx, d, upd_same, ⟨[], k4 _ _ (s3 _ _ d2) (ne_of (s3 _ _ d2) (s3 _ _ a2) (by intro z; cases z)), fun i j _ h => by omega, by decide⟩⟩ (k4.table (s3 _ _ a2) ⟨us, et, rt⟩) ((k2.trans (Keep.of s3)).trans k4)

theorem scTwo : FnScope ["self", "i", "j"] ["self", "i", "j"] (defScope sTwo) := ⟨rfl, rfl, rfl, by decide +kernel, rfl, by decide +kernel, by decide +kernel⟩
theorem ok_two {f : Addr} {fd : FuncData} (F : Fun K "are_two" "Spans.are_two" sTwo f fd) (T : TxtO K mg C) : FnOk P w K mg base CX0 1 f fd ["self", "i", "j"] (spTwo C) := by
  refine F.ok scTwo (fun vs H Q E h => ?_) (fun cdv A outer s H vs Q E hr h => ?_)
  · obtain ⟨_, _, _, _, _, _, rfl, _⟩ := h
    rfl
  · obtain ⟨a, t, n, i, j, net, rfl, hA, k⟩ := h
    obtain ⟨dx, d, ha, hS⟩ := hA.ex
    refine ⟨_, pss_one (ps_ret (pe_and (pe_cmp (pc_lt (pv 1) (pe_fld (pv 0) rfl)) rfl) (pe_and (pe_cmp (pc_lt (pv 2) (pe_fld (pv 0) rfl)) rfl) (pe_one (pe_cmp (pc_neI (pv 1) (pv 2)) rfl))))), ?_⟩
    refine ⟨_, rfl, _, rfl, a, C, dx, _, _, rfl, ha, T.cl, T.n1, gF_count .., _, _, rfl, rfl, _, rfl, ?_⟩
    refine if_dec (fun c1 => ?_) (fun c1 => ?_)
    · refine ⟨_, rfl, _, rfl, a, C, dx, _, _, rfl, ha, T.cl, T.n1, gF_count .., _, _, rfl, rfl, _, rfl, ?_⟩
      refine if_dec (fun c2 => ?_) (fun c2 => ?_)
      · refine ⟨_, rfl, _, rfl, _, _, rfl, rfl, ?_⟩
        have e : (decide (i < n ∧ j < n ∧ i ≠ j)) = !decide ((i : Int) = (j : Int)) := by
          rw [Bool.eq_iff_iff, decide_eq_true_iff, Bool.not_eq_true', decide_eq_false_iff_not]
          omega
        rw [e] at k
        exact k
      · rw [decide_eq_false (by omega)] at k
        exact k
    · rw [decide_eq_false (by omega)] at k
      exact k
end
end Sv
/-! begin, tell, free. -/
namespace Sv
open PySem PySem.Spec PyProof.Rows L2

def BegInv (C : Addr) (H : Hp) (a dx d t : Addr) (c j i : Nat) (H' : Hp) : Prop := Fixed H H' ∧ H' a = some (.ins C dx (gF c d t)) ∧
  ∃ kvs : List (List Key × V), H' d = some (.dT kvs) ∧ kvs.length ≤ 4 * j + i ∧ ∀ x y : Nat, x < y → (y < j ∨ (y = j ∧ x < i)) → valV kvs (kvOf x y) = some (natV 8191)

section
variable {P : Program} {w : World} {K : PySem.W.Frag} {mg : Str → Option Value} {base : Heap} {C : Addr}
theorem scBegin : FnScope ["self", "count", "j", "i"] ["self", "count"] (defScope sBegin) := ⟨rfl, rfl, rfl, by decide +kernel, rfl, by decide +kernel, by decide +kernel⟩
theorem ok_begin {f : Addr} {fd : FuncData} (F : Fun K "begin" "Spans.begin" sBegin f fd) (T : TxtO K mg C) (M : Glo mg) : FnOk P w K mg base CX0 1 f fd ["self", "count"] (spBegin C) := by
  obtain ⟨tR, hR⟩ := T.ref
  obtain ⟨tA, hA8⟩ := M.all
  refine F.ok scBegin (fun vs H Q E h => ?_) (fun cdv A outer s H vs Q E hr h => ?_)
  · obtain ⟨_, _, _, _, _, rfl, _⟩ := h
    rfl
  · obtain ⟨a, t, n, c, net, rfl, hA, kN, kY⟩ := h
    have nd := scBegin.nd
    have hu := hu_of hr
    obtain ⟨dx, d, ha, hS⟩ := hA.ex
    refine ⟨_, pss_cons (ps_if (PW.pt (pw_or (pt_cmpR op_lt (pv 1) pe_int (nomark _)) (pw_or1 (pt_cmpR op_gt (pv 1) pe_int (nomark _))))) (pss_one (ps_ret (pe_lst (pa_cons (pe_glob (v := .int (-22)) rfl hR ⟨_, rfl⟩) pa_nil)))) pss_nil)
      (pss_cons (ps_fld (pv 0) (pv 1) rfl)
      (pss_cons (ps_fld (pv 0) pe_dnewT rfl)
      (pss_cons (ps_for PassesOwn.never rfl (pi_range1 rfl M.range (pa_cons (pv 1) pa_nil)) (pg_name (i := 2) nd rfl (Or.inl rfl))
        (pss_one (ps_for PassesOwn.never rfl (pi_range1 rfl M.range (pa_cons (pv 2) pa_nil)) (pg_name (i := 3) nd rfl (Or.inl rfl))
          (pss_one (ps_dput hu (pe_fld (pv 0) rfl) (pe_tup (pa_cons (pv 3) (pa_cons (pv 2) pa_nil))) (pe_glob (v := .int 8191) rfl hA8 ⟨_, rfl⟩) rfl)))))
      (pss_one (ps_ret (pe_lst (pa_cons pe_int pa_nil))))))), ?_⟩
    have refuse : (c < 2 ∨ 4 < c) → ∀ p, H p = none → Q (.ref p) (upd H p (.lst [V.int (-22)])) := fun h p np => (kN h).new (Fixed.of (Same.refl _)) hA np rfl
    refine ⟨_, rfl, _, _, rfl, rfl, _, rfl, ?_⟩
    refine if_dec (fun c1 => ?_) (fun c1 => ?_)
    · exact iteT ⟨(by show 1 ≤ sizeLine; decide), refuse (.inl (by omega))⟩
    refine ⟨_, rfl, _, _, rfl, rfl, _, rfl, ?_⟩
    refine if_dec (fun c2 => ?_) (fun c2 => ?_)
    · exact ⟨(by show 1 ≤ sizeLine; decide), refuse (.inr (by omega))⟩
    have hc : ¬ (c < 2 ∨ 4 < c) := by omega
    have k := kY hc
    -- self.count, self.sets
    refine ⟨_, rfl, _, rfl, a, C, dx, _, rfl, ha, T.cl, T.n1, (by show 3 < 1000; decide), ?_⟩
    rw [gF_putc]
    have f1 : Fixed H (upd H a (.ins C dx (gF c d t))) := (Fixed.of (Same.refl _)).upd ha rfl
    have a1 : upd H a (.ins C dx (gF c d t)) a = some (.ins C dx (gF c d t)) := upd_same
    generalize upd H a (.ins C dx (gF c d t)) = H1 at f1 a1 ⊢
    refine fun d' nd' => ⟨_, rfl, a, C, dx, _, rfl, (same_new nd') _ _ a1, T.cl, T.n2, (by show 3 < 1000; decide), ?_⟩
    rw [gF_puts]
    have f2 : Fixed H (upd (upd H1 d' (.dT [])) a (.ins C dx (gF c d' t))) := (f1.trans (Fixed.of (same_new nd'))).upd ((same_new nd') _ _ a1) rfl
    have a2 : upd (upd H1 d' (.dT [])) a (.ins C dx (gF c d' t)) a = some (.ins C dx (gF c d' t)) := upd_same
    have d2 : upd (upd H1 d' (.dT [])) a (.ins C dx (gF c d' t)) d' = some (.dT []) := by
      rw [upd_ne (ne_of (o := .dT []) upd_same ((same_new nd') _ _ a1) (by intro z; cases z))]
      exact upd_same
    generalize upd (upd H1 d' (.dT [])) a (.ins C dx (gF c d' t)) = H2 at f2 a2 d2 ⊢
    -- the loops
    refine ⟨_, rfl, (c : Int), rfl, by omega, by omega, ?_⟩
    rw [show ((c : Int)).toNat = c by omega]
    refine for_range (lo := 0) (n := c) (fun j σ H' => ∃ v2 v3 : Option V, σ = [some (.ref a), some (natV c), v2, v3] ∧ BegInv C H a dx d' t c j 0 H') ⟨none, none, rfl, f2, a2, [], d2, by show 0 ≤ 4 * 0 + 0; omega, fun x y _ h => by omega⟩ ?_ ?_
    · rintro j σ H3 hj ⟨v2, v3, rfl, I3⟩
      have eJ : V.int (0 + (j : Int)) = natV j := by rw [Int.zero_add]; rfl
      rw [eJ]
      refine ⟨_, rfl, (j : Int), rfl, by omega, by omega, ?_⟩
      rw [show ((j : Int)).toNat = j by omega]
      refine for_range (lo := 0) (n := j) (fun i σ H' => ∃ v3 : Option V, σ = [some (.ref a), some (natV c), some (natV j), v3] ∧ BegInv C H a dx d' t c j i H') ⟨v3, rfl, I3⟩ ?_ ?_
      · rintro i σ H4 hi ⟨v3', rfl, f4, a4, kvs, d4, l4, h4⟩
        have eI : V.int (0 + (i : Int)) = natV i := by rw [Int.zero_add]; rfl
        rw [eI]
        refine ⟨_, rfl, a, C, dx, _, _, rfl, a4, T.cl, T.n2, gF_sets .., _, rfl, _, rfl, (by show 2 ≤ sizeLine; decide), fun b hb => ?_⟩
        have sb := same_new (o := .tup [natV i, natV j]) hb
        have d5 := sb _ _ d4
        refine ⟨d', _, rfl, .inr ⟨kvs, kvOf i j, b, d5, rfl, upd_same, line_lt (by omega), rfl⟩, ?_⟩
        refine ⟨some (natV i), rfl, (f4.trans (Fixed.of sb)).upd d5 rfl, ?_, _, upd_same, ?_, fun x y hxy h => ?_⟩
        · rw [upd_ne (ne_of (sb _ _ a4) d5 (by intro z; cases z))]
          exact sb _ _ a4
        · have := putK_le kvs (kvOf i j) (V.int 8191)
          omega
        · rw [valV_put]
          by_cases e : kvOf x y = kvOf i j
          · rw [if_pos e]
            rfl
          · rw [if_neg e]
            refine h4 x y hxy ?_
            rcases h with h | ⟨h, h'⟩
            · exact .inl h
            · refine .inr ⟨h, ?_⟩
              have : x ≠ i := fun z => e (by rw [z, h])
              omega
      · rintro σ H4 ⟨v3', rfl, f4, a4, kvs, d4, l4, h4⟩
        exact ⟨_, _, rfl, f4, a4, kvs, d4, by omega, fun x y hxy h => h4 x y hxy (by omega)⟩
    · rintro σ H3 ⟨v2, v3, rfl, f3, a3, kvs, d3, l3, h3⟩
      refine ⟨(by show 1 ≤ sizeLine; decide), fun p np => k.new f3 ⟨dx, d', a3, ⟨kvs, d3, fun i j hij hj => h3 i j hij (.inl hj), by omega⟩⟩ np rfl⟩
end
end Sv
/-! tell, free. -/
namespace Sv
open PySem PySem.Spec PyProof.Rows L2

section
variable {P : Program} {w : World} {K : PySem.W.Frag} {mg : Str → Option Value} {base : Heap} {C : Addr}
theorem scTell : FnScope ["self", "i", "j", "ways", "pair"] ["self", "i", "j", "ways"] (defScope sTell) := ⟨rfl, rfl, rfl, by decide +kernel, rfl, by decide +kernel, by decide +kernel⟩
theorem ok_tell {f : Addr} {fd : FuncData} (F : Fun K "tell" "Spans.tell" sTell f fd) (T : TxtO K mg C) (M : Glo mg) (B2 : MtB P w K mg base C "are_two" 1 ["self", "i", "j"] (spTwo C)) (BO : FnB P w K mg base "in_order" 1 ["i", "j"] spOrder)
    (BT : FnB P w K mg base "turned_ways" 2 ["ways"] spTurned) : FnOk P w K mg base CX0 3 f fd ["self", "i", "j", "ways"] (spTell C) := by
  obtain ⟨tR, hR⟩ := T.ref
  obtain ⟨tA, hA8⟩ := M.all
  obtain ⟨g2, f2, m2, b2, O2⟩ := B2
  obtain ⟨gO, fO, mO, kO, bO, OO⟩ := BO
  obtain ⟨gT, fT, mT, kT, bT, OT⟩ := BT
  refine F.ok scTell (fun vs H Q E h => ?_) (fun cdv A outer s H vs Q E hr h => ?_)
  · obtain ⟨_, _, _, _, _, _, _, rfl, _⟩ := h
    rfl
  · obtain ⟨a, t, n, i, j, v, net, rfl, hA, kN, kY⟩ := h
    have nd := scTell.nd
    have hu := hu_of hr
    have hr1 : Room 1 _ := hr.mono (by decide)
    obtain ⟨dx, d, ha, hS⟩ := hA.ex
    refine ⟨_, pss_cons (ps_if (PW.pt (pw_or (pt_not (pt_val (pe_meth (pv 0) T.cl m2 O2 hr1 b2 .nil pass0 (pa_cons (pv 1) (pa_cons (pv 2) pa_nil))))) (pw_or1 (pt_cmpR op_gt (pv 3) (pe_glob (v := .int 8191) rfl hA8 ⟨_, rfl⟩) (nomark _)))))
        (pss_one (ps_ret (pe_lst (pa_cons (pe_glob (v := .int (-22)) rfl hR ⟨_, rfl⟩) pa_nil)))) pss_nil)
      (pss_cons (ps_set (i := 4) nd rfl (Or.inl rfl) (pe_call OO hr1 rfl mO kO bO .nil pass0 (pa_cons (pv 1) (pa_cons (pv 2) pa_nil))))
      (pss_cons (ps_if (pt_cmpR op_gt (pv 1) (pv 2) (nomark _)) (pss_one (ps_set (i := 3) nd rfl (Or.inl rfl) (pe_call OT hr rfl mT kT bT .nil pass0 (pa_cons (pv 3) pa_nil)))) pss_nil)
      (pss_cons (ps_dput hu (pe_fld (pv 0) rfl) (pv 4) (pe_op op_and (pe_dget hu (pe_fld (pv 0) rfl) (pv 4) (fun _ _ => rfl)) (pv 3)) rfl)
      (pss_one (ps_ret (pe_lst (pa_cons (pe_dget hu (pe_fld (pv 0) rfl) (pv 4) (fun _ _ => rfl)) pa_nil))))))), ?_⟩
    have refuse : (¬ (i < n ∧ j < n ∧ i ≠ j) ∨ 8191 < v) → ∀ p, H p = none → Q (.ref p) (upd H p (.lst [V.int (-22)])) := fun h p np => (kN h).new (Fixed.of (Same.refl _)) hA np rfl
    refine ⟨_, rfl, a, dx, _, rfl, ha, gF_none _ _ _ (by decide +kernel), _, rfl, _, rfl, a, t, n, i, j, net, rfl, hA, _, rfl, ?_⟩
    by_cases c1 : ¬ (i < n ∧ j < n ∧ i ≠ j)
    · rw [decide_eq_false c1]
      exact iteT (iteT ⟨(by show 1 ≤ sizeLine; decide), refuse (.inl c1)⟩)
    have c1 := Decidable.not_not.mp c1
    rw [decide_eq_true c1]
    refine iteF ?_
    refine ⟨_, rfl, _, _, rfl, rfl, _, rfl, ?_⟩
    refine if_dec (fun c2 => ?_) (fun c2 => ?_)
    · exact ⟨(by show 1 ≤ sizeLine; decide), refuse (.inr (by omega))⟩
    have c3 : ¬ (¬ (i < n ∧ j < n ∧ i ≠ j) ∨ 8191 < v) := by
      rintro (h | h)
      · exact h c1
      · exact c2 (by show (8191 : Int) < (v : Int); omega)
    have k := kY c3
    obtain ⟨i1, i2, i3⟩ := c1
    have hxy : min i j < max i j := by omega
    have hyn : max i j < n := by omega
    -- pair
    refine ⟨_, rfl, _, rfl, i, j, rfl, fun p np => ?_⟩
    have s1 := same_new (o := .tup [natV (min i j), natV (max i j)]) np
    have e1 : upd H p (.tup [natV (min i j), natV (max i j)]) p = some (.tup [natV (min i j), natV (max i j)]) := upd_same
    generalize upd H p (.tup [natV (min i j), natV (max i j)]) = H1 at s1 e1 ⊢
    generalize min i j = x at hxy e1 k
    generalize max i j = y at hxy hyn e1 k
    refine ⟨_, rfl, _, rfl, _, _, rfl, rfl, _, rfl, ?_⟩
    refine if_dec (fun c => ?_) (fun c => ?_)
    · have c : j < i := Int.ofNat_lt.mp c
      rw [if_pos c] at k
      refine ⟨_, rfl, v, rfl, fun H2 s2 => ?_⟩
      have s12 := s1.trans s2
      have e2 := s2 _ _ e1
      generalize Kcz9.turned v = u at k ⊢
      have g1 := hS.get hxy hyn s12 e2
      obtain ⟨kvs, kvs', g2, g3, g4⟩ := hS.put hxy hyn s12 e2 (net x y &&& u)
      have a2 := s12 _ _ ha
      have a3 : upd H2 d (.dT kvs) a = some (.ins C dx (gF n d t)) := by
        rw [upd_ne (ne_of a2 g2 (by intro z; cases z))]
        exact a2
      have e3 : upd H2 d (.dT kvs) p = some (.tup [natV x, natV y]) := by
        rw [upd_ne (ne_of e2 g2 (by intro z; cases z))]
        exact e2
      have f3 : Fixed H (upd H2 d (.dT kvs)) := (Fixed.of s12).upd g2 rfl
      refine ⟨_, rfl, a, C, dx, _, _, rfl, a2, T.cl, T.n2, gF_sets .., _, rfl, d, natV (net x y), rfl, g1, _, rfl, (net x y : Int), (u : Int), rfl, rfl, _, rfl, a, C, dx, _, _, rfl, a2, T.cl, T.n2, gF_sets .., _, rfl, d, upd H2 d (.dT kvs), rfl, ?_, ?_⟩
      · dsimp only [List.set]
        rw [and_nat]
        exact g3
      have g5 := g4.get hxy hyn (Same.refl _) e3
      have eU : updNet net x y (net x y &&& u) x y = net x y &&& u := if_pos ⟨rfl, rfl⟩
      rw [eU] at g5
      refine ⟨_, rfl, a, C, dx, _, _, rfl, a3, T.cl, T.n2, gF_sets .., _, rfl, d, _, rfl, g5, (by show 1 ≤ sizeLine; decide), fun q nq => ?_⟩
      exact k.new f3 ⟨dx, d, a3, g4⟩ nq rfl
    · have c : ¬ j < i := fun z => c (Int.ofNat_lt.mpr z)
      rw [if_neg c] at k
      have g1 := hS.get hxy hyn s1 e1
      obtain ⟨kvs, kvs', g2, g3, g4⟩ := hS.put hxy hyn s1 e1 (net x y &&& v)
      have a2 := s1 _ _ ha
      have a3 : upd H1 d (.dT kvs) a = some (.ins C dx (gF n d t)) := by
        rw [upd_ne (ne_of a2 g2 (by intro z; cases z))]
        exact a2
      have e3 : upd H1 d (.dT kvs) p = some (.tup [natV x, natV y]) := by
        rw [upd_ne (ne_of e1 g2 (by intro z; cases z))]
        exact e1
      have f3 : Fixed H (upd H1 d (.dT kvs)) := (Fixed.of s1).upd g2 rfl
      refine ⟨_, rfl, a, C, dx, _, _, rfl, a2, T.cl, T.n2, gF_sets .., _, rfl, d, natV (net x y), rfl, g1, _, rfl, (net x y : Int), (v : Int), rfl, rfl, _, rfl, a, C, dx, _, _, rfl, a2, T.cl, T.n2, gF_sets .., _, rfl, d, upd H1 d (.dT kvs), rfl, ?_, ?_⟩
      · dsimp only [List.set]
        rw [and_nat]
        exact g3
      have g5 := g4.get hxy hyn (Same.refl _) e3
      have eU : updNet net x y (net x y &&& v) x y = net x y &&& v := if_pos ⟨rfl, rfl⟩
      rw [eU] at g5
      refine ⟨_, rfl, a, C, dx, _, _, rfl, a3, T.cl, T.n2, gF_sets .., _, rfl, d, _, rfl, g5, (by show 1 ≤ sizeLine; decide), fun q nq => ?_⟩
      exact k.new f3 ⟨dx, d, a3, g4⟩ nq rfl

theorem scFree : FnScope ["self", "i", "j"] ["self", "i", "j"] (defScope sFree) := ⟨rfl, rfl, rfl, by decide +kernel, rfl, by decide +kernel, by decide +kernel⟩
theorem ok_free {f : Addr} {fd : FuncData} (F : Fun K "free" "Spans.free" sFree f fd) (T : TxtO K mg C) (M : Glo mg) (B2 : MtB P w K mg base C "are_two" 1 ["self", "i", "j"] (spTwo C)) (BO : FnB P w K mg base "in_order" 1 ["i", "j"] spOrder) :
    FnOk P w K mg base CX0 2 f fd ["self", "i", "j"] (spFree C) := by
  obtain ⟨tR, hR⟩ := T.ref
  obtain ⟨tA, hA8⟩ := M.all
  obtain ⟨g2, f2, m2, b2, O2⟩ := B2
  obtain ⟨gO, fO, mO, kO, bO, OO⟩ := BO
  refine F.ok scFree (fun vs H Q E h => ?_) (fun cdv A outer s H vs Q E hr h => ?_)
  · obtain ⟨_, _, _, _, _, _, rfl, _⟩ := h
    rfl
  · obtain ⟨a, t, n, i, j, net, rfl, hA, kN, kY⟩ := h
    have hu := hu_of hr
    obtain ⟨dx, d, ha, hS⟩ := hA.ex
    refine ⟨_, pss_cons (ps_if (pt_not (pt_val (pe_meth (pv 0) T.cl m2 O2 hr b2 .nil pass0 (pa_cons (pv 1) (pa_cons (pv 2) pa_nil)))))
        (pss_one (ps_ret (pe_lst (pa_cons (pe_glob (v := .int (-22)) rfl hR ⟨_, rfl⟩) pa_nil)))) pss_nil)
      (pss_cons (ps_dput hu (pe_fld (pv 0) rfl) (pe_call OO hr rfl mO kO bO .nil pass0 (pa_cons (pv 1) (pa_cons (pv 2) pa_nil))) (pe_glob (v := .int 8191) rfl hA8 ⟨_, rfl⟩) rfl)
      (pss_one (ps_ret (pe_lst (pa_cons pe_int pa_nil))))), ?_⟩
    refine ⟨_, rfl, a, dx, _, rfl, ha, gF_none _ _ _ (by decide +kernel), _, rfl, _, rfl, a, t, n, i, j, net, rfl, hA, _, rfl, ?_⟩
    by_cases c1 : ¬ (i < n ∧ j < n ∧ i ≠ j)
    · rw [decide_eq_false c1]
      exact iteT ⟨(by show 1 ≤ sizeLine; decide), fun p np => (kN c1).new (Fixed.of (Same.refl _)) hA np rfl⟩
    have c1 := Decidable.not_not.mp c1
    rw [decide_eq_true c1]
    refine iteF ?_
    have k := kY c1
    obtain ⟨i1, i2, i3⟩ := c1
    have hxy : min i j < max i j := by omega
    have hyn : max i j < n := by omega
    refine ⟨_, rfl, a, C, dx, _, _, rfl, ha, T.cl, T.n2, gF_sets .., _, rfl, _, rfl, i, j, rfl, fun p np => ?_⟩
    have s1 := same_new (o := .tup [natV (min i j), natV (max i j)]) np
    have e1 : upd H p (.tup [natV (min i j), natV (max i j)]) p = some (.tup [natV (min i j), natV (max i j)]) := upd_same
    generalize upd H p (.tup [natV (min i j), natV (max i j)]) = H1 at s1 e1 ⊢
    obtain ⟨kvs, kvs', g2, g3, g4⟩ := hS.put hxy hyn s1 e1 8191
    have a2 := s1 _ _ ha
    have a3 : upd H1 d (.dT kvs) a = some (.ins C dx (gF n d t)) := by
      rw [upd_ne (ne_of a2 g2 (by intro z; cases z))]
      exact a2
    refine ⟨d, upd H1 d (.dT kvs), rfl, g3, (by show 1 ≤ sizeLine; decide), fun q nq => k.new ((Fixed.of s1).upd g2 rfl) ⟨dx, d, a3, g4⟩ nq rfl⟩
end
end Sv
/-! many, picture, through, turned, lies. -/
namespace Sv
open PySem PySem.Spec PyProof.Rows L2

abbrev sManyM : Stmt := inClass (topS 26) 5
abbrev sPicture : Stmt := inClass (topS 26) 6
abbrev sThroughM : Stmt := inClass (topS 26) 10
abbrev sTurnedM : Stmt := inClass (topS 26) 11
abbrev sLiesM : Stmt := inClass (topS 26) 12
def natsI (l : List Nat) : List Int := l.map fun (k : Nat) => (k : Int)
theorem ints_nat (l : List Nat) : l.map natV = (natsI l).map V.int := by
  unfold natsI
  rw [List.map_map]
  rfl
def spManyM (C : Addr) : Sp := fun vs H Q _ => ∃ (a t : Addr) (n : Nat) (net : Kcz9.Net), vs = [.ref a] ∧ SpanAt C H a n t net ∧ Table H t ∧ 2 ≤ n ∧ n ≤ 4 ∧ ∀ H' p, Same H H' → H p = none → H' p = some (.lst [natV (Kcz9.pictures net n).length]) → Q (.ref p) H'
def picAns (net : Kcz9.Net) (n : Nat) : List Int := (n : Int) :: natsI (rowOf (WW n) (gr net (WW n) n []))
def spPicture (C : Addr) : Sp := fun vs H Q _ => ∃ (a t : Addr) (n : Nat) (net : Kcz9.Net), vs = [.ref a] ∧ SpanAt C H a n t net ∧ Table H t ∧ 2 ≤ n ∧ n ≤ 4 ∧
  ((Kcz9.pictures net n).length = 0 → Ends1 C H a t n net [-6] Q) ∧
  (0 < (Kcz9.pictures net n).length → (∀ s ∈ gr net (WW n) n [], s < (WW n).length) ∧ (gr net (WW n) n []).length ≤ 100 ∧ Ends1 C H a t n net (picAns net n) Q)
def spThroughM (C : Addr) : Sp := fun vs H Q _ => ∃ (a t : Addr) (n x y : Nat) (net : Kcz9.Net), vs = [.ref a, natV x, natV y] ∧ SpanAt C H a n t net ∧ Table H t ∧
  ((8191 < x ∨ 8191 < y) → Ends1 C H a t n net [-22] Q) ∧ (¬ (8191 < x ∨ 8191 < y) → Ends1 C H a t n net [((Kcz9.through x y : Nat) : Int)] Q)
def spTurnedM (C : Addr) : Sp := fun vs H Q _ => ∃ (a t : Addr) (n x : Nat) (net : Kcz9.Net), vs = [.ref a, natV x] ∧ SpanAt C H a n t net ∧
  (8191 < x → Ends1 C H a t n net [-22] Q) ∧ (¬ 8191 < x → Ends1 C H a t n net [((Kcz9.turned x : Nat) : Int)] Q)
def spLiesM (C : Addr) : Sp := fun vs H Q _ => ∃ (a t b1 b2 : Addr) (n : Nat) (x y z w : Int) (net : Kcz9.Net), vs = [.ref a, .ref b1, .ref b2] ∧ SpanAt C H a n t net ∧ H b1 = some (.tup [.int x, .int y]) ∧ H b2 = some (.tup [.int z, .int w]) ∧
  ((y ≤ x ∨ w ≤ z) → Ends1 C H a t n net [-22] Q) ∧ (¬ (y ≤ x ∨ w ≤ z) → Ends1 C H a t n net [((Kcz9.lies ⟨x, y⟩ ⟨z, w⟩ : Nat) : Int)] Q)

/-- numbers of pairs, one behind another -/
def flatP (l : List (Nat × Nat)) : List Nat := l.flatMap fun x => [x.1, x.2]
theorem flatP_of (W : List (Nat × Nat)) (t : List Nat) : flatP (pairsOf W t) = rowOf W t := by
  unfold flatP pairsOf rowOf
  rw [List.flatMap_map]
theorem flatP_len : ∀ l : List (Nat × Nat), (flatP l).length = 2 * l.length
  | [] => rfl
  | x :: l => by
    have := flatP_len l
    show (flatP l).length + 1 + 1 = 2 * (l.length + 1)
    omega
theorem flatP_snoc (l : List (Nat × Nat)) (x : Nat × Nat) : flatP (l ++ [x]) = flatP l ++ [x.1] ++ [x.2] := by
  unfold flatP
  rw [List.flatMap_append, List.append_assoc]
  rfl
theorem eqv_int (i j : Int) : PyData.eqv (.list [.int i]) (.list [.int j]) = decide (i = j) := by
  simp [PyData.eqv, PyData.eqvAll]
  rfl

section
variable {P : Program} {w : World} {K : PySem.W.Frag} {mg : Str → Option Value} {base : Heap} {C : Addr}
theorem scManyM : FnScope ["self"] ["self"] (defScope sManyM) := ⟨rfl, rfl, rfl, by decide +kernel, rfl, by decide +kernel, by decide +kernel⟩
theorem ok_manym {f : Addr} {fd : FuncData} (F : Fun K "many" "Spans.many" sManyM f fd) (T : TxtO K mg C) (BM : FnB P w K mg base "how_many_lists" 4 ["count", "sets", "following"] spMany) : FnOk P w K mg base CX0 5 f fd ["self"] (spManyM C) := by
  obtain ⟨gM, fM, mM, kM, bM, OM⟩ := BM
  refine F.ok scManyM (fun vs H Q E h => ?_) (fun cdv A outer s H vs Q E hr h => ?_)
  · obtain ⟨_, _, _, _, rfl, _⟩ := h
    rfl
  · obtain ⟨a, t, n, net, rfl, hA, hT, hn2, hn4, k⟩ := h
    obtain ⟨dx, d, ha, hS⟩ := hA.ex
    refine ⟨_, pss_one (ps_ret (pe_lst (pa_cons (pe_call OM hr rfl mM kM bM .nil pass0 (pa_cons (pe_fld (pv 0) rfl) (pa_cons (pe_fld (pv 0) rfl) (pa_cons (pe_fld (pv 0) rfl) pa_nil)))) pa_nil))), ?_⟩
    refine ⟨_, rfl, a, C, dx, _, _, rfl, ha, T.cl, T.n1, gF_count .., _, rfl, a, C, dx, _, _, rfl, ha, T.cl, T.n2, gF_sets .., _, rfl, a, C, dx, _, _, rfl, ha, T.cl, T.n3, gF_foll .., ?_⟩
    refine ⟨n, d, t, net, rfl, hn2, hn4, hS, hT, fun H1 s1 => ⟨(by show 1 ≤ sizeLine; decide), fun p np => ?_⟩⟩
    exact k _ p (s1.trans (same_new np)) (s1.free np) upd_same

theorem scPicture : FnScope ["self", "numbers", "begin", "end"] ["self"] (defScope sPicture) := ⟨rfl, rfl, rfl, by decide +kernel, rfl, by decide +kernel, by decide +kernel⟩
theorem ok_picture {f : Addr} {fd : FuncData} (F : Fun K "picture" "Spans.picture" sPicture f fd) (T : TxtO K mg C) (BM : MtB P w K mg base C "many" 5 ["self"] (spManyM C)) (BF : FnB P w K mg base "first_list" 7 ["count", "sets"] spFirst) : FnOk P w K mg base CX0 8 f fd ["self"] (spPicture C) := by
  obtain ⟨tN, hN⟩ := T.nol
  obtain ⟨gM, fM, mM, bM, OM⟩ := BM
  obtain ⟨gF', fF, mF, kF, bF, OF⟩ := BF
  refine F.ok scPicture (fun vs H Q E h => ?_) (fun cdv A outer s H vs Q E hr h => ?_)
  · obtain ⟨_, _, _, _, rfl, _⟩ := h
    rfl
  · obtain ⟨a, t, n, net, rfl, hA, hT, hn2, hn4, kN, kY⟩ := h
    have nd := scPicture.nd
    have hr5 : Room 5 _ := hr.mono (by decide)
    have h64 : ∀ u, u + 16 * 7 + 200 < cLine → u + 64 < cLine := fun u h => by omega
    obtain ⟨dx, d, ha, hS⟩ := hA.ex
    refine ⟨_, pss_cons (ps_if (pt_cmpR (op_eqD (h64 _ hr.un)) (pe_meth0 (pv 0) T.cl mM OM hr5 bM .nil pass0) (pe_lst (pa_cons pe_int pa_nil)) (nomark _)) (pss_one (ps_ret (pe_lst (pa_cons (pe_glob (v := .int (-6)) rfl hN ⟨_, rfl⟩) pa_nil)))) pss_nil)
      (pss_cons (ps_set (i := 1) nd rfl (Or.inl rfl) (pe_lst (pa_cons (pe_fld (pv 0) rfl) pa_nil)))
      (pss_cons (ps_for PassesOwn.never rfl (pi_list (pe_call OF hr rfl mF kF bF .nil pass0 (pa_cons (pe_fld (pv 0) rfl) (pa_cons (pe_fld (pv 0) rfl) pa_nil)))) (pg_tup rfl (pgs_cons (pg_name (i := 2) nd rfl (Or.inl rfl)) (pgs_cons (pg_name (i := 3) nd rfl (Or.inl rfl)) pgs_nil)))
        (pss_cons (ps_expr (pe_bm PySem.F.plainAttrs_list PySem.F.slot_list_append PySem.F.type_list_append mt_append (pv 1) (pa_cons (pv 2) pa_nil)))
        (pss_one (ps_expr (pe_bm PySem.F.plainAttrs_list PySem.F.slot_list_append PySem.F.type_list_append mt_append (pv 1) (pa_cons (pv 3) pa_nil))))))
      (pss_one (ps_ret (pv 1))))), ?_⟩
    refine ⟨_, rfl, a, dx, _, rfl, ha, gF_none _ _ _ (by decide +kernel), a, t, n, net, rfl, hA, hT, hn2, hn4, fun H1 p s1 _ e1 => ?_⟩
    refine ⟨(by show 1 ≤ sizeLine; decide), fun q nq => ?_⟩
    have s2 := s1.trans (same_new (o := .lst [V.int 0]) nq)
    have e2 := (same_new (o := .lst [V.int 0]) nq) _ _ e1
    have eq2 : upd H1 q (.lst [V.int 0]) q = some (.lst [V.int 0]) := upd_same
    generalize upd H1 q (.lst [V.int 0]) = H2 at s2 e2 eq2 ⊢
    refine ⟨.list [.int ((Kcz9.pictures net n).length : Int)], .list [.int 0], .lst (SqL.of e2) (.cons (.int _) .nil), .lst (SqL.of eq2) (.cons (.int _) .nil), ?_, ?_, _, rfl, ?_⟩
    · simp [SeqAt.shaped, PyData.canLay0, PyData.canLayAll0, PyData.depth, PyData.depthAll]
    · simp [SeqAt.shaped, PyData.canLay0, PyData.canLayAll0, PyData.depth, PyData.depthAll]
    rw [eqv_int]
    refine if_dec (fun c => ?_) (fun c => ?_)
    · have c : (Kcz9.pictures net n).length = 0 := by omega
      exact ⟨(by show 1 ≤ sizeLine; decide), fun z nz => (kN c).new (Fixed.of s2) (hA.same s2) nz rfl⟩
    have c : 0 < (Kcz9.pictures net n).length := by omega
    obtain ⟨g1, g2, k⟩ := kY c
    refine ⟨_, rfl, a, C, dx, _, _, rfl, s2 _ _ ha, T.cl, T.n1, gF_count .., (by show 1 ≤ sizeLine; decide), fun z nz => ?_⟩
    have s3 := s2.trans (same_new (o := .lst [natV n]) nz)
    have e3 : upd H2 z (.lst [natV n]) z = some (.lst [natV n]) := upd_same
    generalize upd H2 z (.lst [natV n]) = H3 at s3 e3 ⊢
    have hz : H z = none := s2.free nz
    refine ⟨_, rfl, a, C, dx, _, _, rfl, s3 _ _ ha, T.cl, T.n1, gF_count .., _, rfl, a, C, dx, _, _, rfl, s3 _ _ ha, T.cl, T.n2, gF_sets .., ?_⟩
    refine ⟨d, n, net, rfl, hn2, hn4, hS.same s3, g1, g2, fun H4 l us s4 nl el rl => ?_⟩
    have lz : l ≠ z := (ne_of_none e3 nl).symm
    have lenL : (pairsOf (WW n) (gr net (WW n) n [])).length ≤ 100 := by
      unfold pairsOf
      rw [List.length_map]
      exact g2
    generalize hpq : pairsOf (WW n) (gr net (WW n) n []) = pq at rl lenL
    refine ⟨l, rfl, ⟨_, SqL.of el⟩, for_list (K := K) (a := l) (xs := us) (fun i σ H' => ∃ v2 v3 : Option V, σ = [some (.ref a), some (.ref z), v2, v3] ∧ Same H H' ∧ H' l = some (.lst us) ∧ LRel rPair H' us pq ∧ H' z = some (.lst (natV n :: (flatP (pq.take i)).map natV)))
      ⟨none, none, rfl, s3.trans s4, el, rl, s4 _ _ e3⟩ (fun i σ H' _ ⟨_, _, _, _, h, _⟩ => SqL.of h) ?_ ?_⟩
    · rintro i v σ H5 hi ⟨v2, v3, rfl, s5, el5, rl5, ez5⟩
      obtain ⟨x, hx, b, rfl, hb⟩ := rl5.at hi
      refine ⟨b, _, rfl, SqT.of hb, rfl, _, _, rfl, _, _, rfl, rfl, ?_⟩
      have len5 : (natV n :: (flatP (pq.take i)).map natV).length ≤ 201 := by
        rw [List.length_cons, List.length_map, flatP_len, List.length_take]
        omega
      refine ⟨_, rfl, .inl ⟨rfl, _, SqL.of ez5⟩, _, rfl, z, _, _, rfl, rfl, ez5, line_lt (by omega), ?_⟩
      refine ⟨_, rfl, .inl ⟨rfl, _, SqL.of upd_same⟩, _, rfl, z, _, _, rfl, rfl, upd_same, ?_, ?_⟩
      · rw [List.length_append]
        exact line_lt (by show _ + 1 ≤ _; omega)
      · refine ⟨some (natV x.1), some (natV x.2), rfl, same_at (same_at s5 hz) hz, ?_, ?_, ?_⟩
        · rw [upd_ne lz, upd_ne lz]
          exact el5
        · exact (rl5.mono (rPair.grow ez5)).mono (rPair.grow upd_same)
        · rw [upd_same, take_snoc hx, flatP_snoc, List.map_append, List.map_append]
          rfl
    · rintro σ H5 ⟨v2, v3, rfl, s5, el5, rl5, ez5⟩
      refine ⟨_, rfl, ?_⟩
      rw [rl.1, List.take_length, ← hpq, flatP_of] at ez5
      refine k H5 z (Fixed.of s5) (fun xs e => by rw [hz] at e; cases e) ?_ (hA.same s5)
      rw [ez5]
      unfold picAns
      rw [List.map_cons, ← ints_nat]
      rfl

theorem scThroughM : FnScope ["self", "first", "second"] ["self", "first", "second"] (defScope sThroughM) := ⟨rfl, rfl, rfl, by decide +kernel, rfl, by decide +kernel, by decide +kernel⟩
theorem ok_throughm {f : Addr} {fd : FuncData} (F : Fun K "through" "Spans.through" sThroughM f fd) (T : TxtO K mg C) (M : Glo mg) (BT : FnB P w K mg base "ways_through" 2 ["first", "second", "following"] spThrough) : FnOk P w K mg base CX0 3 f fd ["self", "first", "second"] (spThroughM C) := by
  obtain ⟨tR, hR⟩ := T.ref
  obtain ⟨tA, hA8⟩ := M.all
  obtain ⟨gT, fT, mT, kT, bT, OT⟩ := BT
  refine F.ok scThroughM (fun vs H Q E h => ?_) (fun cdv A outer s H vs Q E hr h => ?_)
  · obtain ⟨_, _, _, _, _, _, rfl, _⟩ := h
    rfl
  · obtain ⟨a, t, n, x, y, net, rfl, hA, hT, kN, kY⟩ := h
    obtain ⟨dx, d, ha, hS⟩ := hA.ex
    refine ⟨_, pss_cons (ps_if (PW.pt (pw_or (pt_cmpR op_gt (pv 1) (pe_glob (v := .int 8191) rfl hA8 ⟨_, rfl⟩) (nomark _)) (pw_or1 (pt_cmpR op_gt (pv 2) (pe_glob (v := .int 8191) rfl hA8 ⟨_, rfl⟩) (nomark _)))))
        (pss_one (ps_ret (pe_lst (pa_cons (pe_glob (v := .int (-22)) rfl hR ⟨_, rfl⟩) pa_nil)))) pss_nil)
      (pss_one (ps_ret (pe_lst (pa_cons (pe_call OT hr rfl mT kT bT .nil pass0 (pa_cons (pv 1) (pa_cons (pv 2) (pa_cons (pe_fld (pv 0) rfl) pa_nil)))) pa_nil)))), ?_⟩
    have refuse : (8191 < x ∨ 8191 < y) → ∀ p, H p = none → Q (.ref p) (upd H p (.lst [V.int (-22)])) := fun h p np => (kN h).new (Fixed.of (Same.refl _)) hA np rfl
    refine ⟨_, rfl, _, _, rfl, rfl, _, rfl, ?_⟩
    refine if_dec (fun c1 => ?_) (fun c1 => ?_)
    · exact iteT ⟨(by show 1 ≤ sizeLine; decide), refuse (.inl (by omega))⟩
    refine ⟨_, rfl, _, _, rfl, rfl, _, rfl, ?_⟩
    refine if_dec (fun c2 => ?_) (fun c2 => ?_)
    · exact ⟨(by show 1 ≤ sizeLine; decide), refuse (.inr (by omega))⟩
    have k := kY (by omega)
    refine ⟨_, rfl, _, rfl, _, rfl, a, C, dx, _, _, rfl, ha, T.cl, T.n3, gF_foll .., x, y, t, rfl, hT, fun H1 s1 => ⟨(by show 1 ≤ sizeLine; decide), fun p np => ?_⟩⟩
    exact k.new (Fixed.of s1) (hA.same s1) np rfl

theorem scTurnedM : FnScope ["self", "ways"] ["self", "ways"] (defScope sTurnedM) := ⟨rfl, rfl, rfl, by decide +kernel, rfl, by decide +kernel, by decide +kernel⟩
theorem ok_turnedm {f : Addr} {fd : FuncData} (F : Fun K "turned" "Spans.turned" sTurnedM f fd) (T : TxtO K mg C) (M : Glo mg) (BT : FnB P w K mg base "turned_ways" 2 ["ways"] spTurned) : FnOk P w K mg base CX0 3 f fd ["self", "ways"] (spTurnedM C) := by
  obtain ⟨tR, hR⟩ := T.ref
  obtain ⟨tA, hA8⟩ := M.all
  obtain ⟨gT, fT, mT, kT, bT, OT⟩ := BT
  refine F.ok scTurnedM (fun vs H Q E h => ?_) (fun cdv A outer s H vs Q E hr h => ?_)
  · obtain ⟨_, _, _, _, _, rfl, _⟩ := h
    rfl
  · obtain ⟨a, t, n, x, net, rfl, hA, kN, kY⟩ := h
    refine ⟨_, pss_cons (ps_if (pt_cmpR op_gt (pv 1) (pe_glob (v := .int 8191) rfl hA8 ⟨_, rfl⟩) (nomark _))
        (pss_one (ps_ret (pe_lst (pa_cons (pe_glob (v := .int (-22)) rfl hR ⟨_, rfl⟩) pa_nil)))) pss_nil)
      (pss_one (ps_ret (pe_lst (pa_cons (pe_call OT hr rfl mT kT bT .nil pass0 (pa_cons (pv 1) pa_nil)) pa_nil)))), ?_⟩
    refine ⟨_, rfl, _, _, rfl, rfl, _, rfl, ?_⟩
    refine if_dec (fun c1 => ?_) (fun c1 => ?_)
    · exact ⟨(by show 1 ≤ sizeLine; decide), fun p np => (kN (by omega)).new (Fixed.of (Same.refl _)) hA np rfl⟩
    have k := kY (by omega)
    refine ⟨_, rfl, x, rfl, fun H1 s1 => ⟨(by show 1 ≤ sizeLine; decide), fun p np => ?_⟩⟩
    exact k.new (Fixed.of s1) (hA.same s1) np rfl

theorem scLiesM : FnScope ["self", "one", "other"] ["self", "one", "other"] (defScope sLiesM) := ⟨rfl, rfl, rfl, by decide +kernel, rfl, by decide +kernel, by decide +kernel⟩
theorem ok_liesm {f : Addr} {fd : FuncData} (F : Fun K "lies" "Spans.lies" sLiesM f fd) (T : TxtO K mg C) (BB : FnB P w K mg base "way_between" 2 ["one", "other"] (spBetween K)) : FnOk P w K mg base CX0 3 f fd ["self", "one", "other"] (spLiesM C) := by
  obtain ⟨tR, hR⟩ := T.ref
  obtain ⟨gB, fB, mB, kB, bB, OB⟩ := BB
  refine F.ok scLiesM (fun vs H Q E h => ?_) (fun cdv A outer s H vs Q E hr h => ?_)
  · obtain ⟨_, _, _, _, _, _, _, _, _, _, rfl, _⟩ := h
    rfl
  · obtain ⟨a, t, b1, b2, n, x, y, z, u, net, rfl, hA, h1, h2, kN, kY⟩ := h
    refine ⟨_, pss_cons (ps_if (PW.pt (pw_or (pt_cmpR op_le (pe_ix ix_tup (pv 1) pe_int (fun _ _ => rfl)) (pe_ix ix_tup (pv 1) pe_int (fun _ _ => rfl)) (nomark _)) (pw_or1 (pt_cmpR op_le (pe_ix ix_tup (pv 2) pe_int (fun _ _ => rfl)) (pe_ix ix_tup (pv 2) pe_int (fun _ _ => rfl)) (nomark _)))))
        (pss_one (ps_ret (pe_lst (pa_cons (pe_glob (v := .int (-22)) rfl hR ⟨_, rfl⟩) pa_nil)))) pss_nil)
      (pss_one (ps_ret (pe_lst (pa_cons (pe_call OB hr rfl mB kB bB .nil pass0 (pa_cons (pv 1) (pa_cons (pv 2) pa_nil))) pa_nil)))), ?_⟩
    have refuse : (y ≤ x ∨ u ≤ z) → ∀ p, H p = none → Q (.ref p) (upd H p (.lst [V.int (-22)])) := fun h p np => (kN h).new (Fixed.of (Same.refl _)) hA np rfl
    have i0 : ∀ p q : Int, atI [V.int p, V.int q] 0 = some (.int p) := fun p q => atI_nat (j := 0) rfl
    have i1 : ∀ p q : Int, atI [V.int p, V.int q] 1 = some (.int q) := fun p q => atI_nat (j := 1) rfl
    refine ⟨_, rfl, b1, _, _, _, rfl, rfl, SqT.of h1, i1 _ _, _, rfl, b1, _, _, _, rfl, rfl, SqT.of h1, i0 _ _, _, _, rfl, rfl, _, rfl, ?_⟩
    refine if_dec (fun c1 => ?_) (fun c1 => ?_)
    · exact iteT ⟨(by show 1 ≤ sizeLine; decide), refuse (.inl c1)⟩
    refine ⟨_, rfl, b2, _, _, _, rfl, rfl, SqT.of h2, i1 _ _, _, rfl, b2, _, _, _, rfl, rfl, SqT.of h2, i0 _ _, _, _, rfl, rfl, _, rfl, ?_⟩
    refine if_dec (fun c2 => ?_) (fun c2 => ?_)
    · exact ⟨(by show 1 ≤ sizeLine; decide), refuse (.inr c2)⟩
    have k := kY (by omega)
    refine ⟨_, rfl, _, rfl, x, y, z, u, b1, b2, rfl, h1, h2, by omega, by omega, fun H1 s1 => ⟨(by show 1 ≤ sizeLine; decide), fun p np => ?_⟩⟩
    exact k.new (Fixed.of s1) (hA.same s1) np rfl
end
end Sv
/-! how_may_lie, sets_in_order, may. -/
namespace Sv
open PySem PySem.Spec PyProof.Rows L2

abbrev sHow : Stmt := inClass (topS 26) 7
abbrev sOrd : Stmt := inClass (topS 26) 8
abbrev sMay : Stmt := inClass (topS 26) 9
def spHow (C : Addr) : Sp := fun vs H Q _ => ∃ (a t : Addr) (n i j : Nat) (net : Kcz9.Net), vs = [.ref a, natV i, natV j] ∧ SpanAt C H a n t net ∧ i < n ∧ j < n ∧ i ≠ j ∧ ∀ H', Same H H' → Q (natV (how net i j)) H'
def spOrd (C : Addr) : Sp := fun vs H Q _ => ∃ (a t q : Addr) (n : Nat) (net : Kcz9.Net) (o : List Nat), vs = [.ref a, .ref q] ∧ SpanAt C H a n t net ∧ H q = some (.lst (o.map natV)) ∧ Ord n o ∧ n ≤ 4 ∧
  ∀ H' d, Same H H' → H d = none → SetsAt H' d n (netO net o) → Q (.ref d) H'
def spMay (C : Addr) : Sp := fun vs H Q _ => ∃ (a t : Addr) (n i j : Nat) (net : Kcz9.Net), vs = [.ref a, natV i, natV j] ∧ SpanAt C H a n t net ∧ Table H t ∧ 2 ≤ n ∧ n ≤ 4 ∧
  (¬ (i < n ∧ j < n ∧ i ≠ j) → Ends1 C H a t n net [-22] Q) ∧ (i < n ∧ j < n ∧ i ≠ j → Ends1 C H a t n net [((mayOf net n i j : Nat) : Int)] Q)

/-- i, j, then the others -/
def othersOf (n i j : Nat) : List Nat := (List.range n).filter fun k => !(decide (i = k) || decide (j = k))
def orderOf (n i j : Nat) : List Nat := i :: j :: othersOf n i j
theorem order_ord {n i j : Nat} (hi : i < n) (hj : j < n) (hij : i ≠ j) : Ord n (orderOf n i j) := by
  have hm : ∀ k, k ∈ othersOf n i j ↔ k < n ∧ k ≠ i ∧ k ≠ j := by
    intro k
    unfold othersOf
    rw [List.mem_filter, List.mem_range]
    simp only [Bool.not_eq_true', Bool.or_eq_false_iff, decide_eq_false_iff_not]
    omega
  refine ⟨?_, fun k => ?_⟩
  · refine List.nodup_cons.mpr ⟨?_, List.nodup_cons.mpr ⟨?_, ?_⟩⟩
    · rw [List.mem_cons, hm]
      omega
    · rw [hm]
      omega
    · unfold othersOf
      exact List.nodup_range.filter _
  · unfold orderOf
    rw [List.mem_cons, List.mem_cons, hm]
    omega
theorem op_notInL {X : Cx} (K : PySem.W.Frag) (hK : X.K = K) : OpR X (compareOp .NotIn) (rIn K true) := by
  subst hK
  exact op_notIn_seq

def OrdInv (H : Hp) (net : Kcz9.Net) (o : List Nat) (d : Addr) (j i : Nat) (H' : Hp) : Prop := Same H H' ∧
  ∃ kvs : List (List Key × V), H' d = some (.dT kvs) ∧ kvs.length ≤ 4 * j + i ∧ ∀ x y : Nat, x < y → (y < j ∨ (y = j ∧ x < i)) → valV kvs (kvOf x y) = some (natV (netO net o x y))

section
variable {P : Program} {w : World} {K : PySem.W.Frag} {mg : Str → Option Value} {base : Heap} {C : Addr}
theorem scHow : FnScope ["self", "i", "j"] ["self", "i", "j"] (defScope sHow) := ⟨rfl, rfl, rfl, by decide +kernel, rfl, by decide +kernel, by decide +kernel⟩
theorem ok_how {f : Addr} {fd : FuncData} (F : Fun K "how_may_lie" "Spans.how_may_lie" sHow f fd) (T : TxtO K mg C) (BT : FnB P w K mg base "turned_ways" 2 ["ways"] spTurned) : FnOk P w K mg base CX0 3 f fd ["self", "i", "j"] (spHow C) := by
  obtain ⟨gT, fT, mT, kT, bT, OT⟩ := BT
  refine F.ok scHow (fun vs H Q E h => ?_) (fun cdv A outer s H vs Q E hr h => ?_)
  · obtain ⟨_, _, _, _, _, _, rfl, _⟩ := h
    rfl
  · obtain ⟨a, t, n, i, j, net, rfl, hA, hi, hj, hij, k⟩ := h
    have hu := hu_of hr
    obtain ⟨dx, d, ha, hS⟩ := hA.ex
    refine ⟨_, pss_cons (ps_if (pt_cmpR op_lt (pv 1) (pv 2) (nomark _)) (pss_one (ps_ret (pe_dget hu (pe_fld (pv 0) rfl) (pe_tup (pa_cons (pv 1) (pa_cons (pv 2) pa_nil))) (fun _ _ => rfl)))) pss_nil)
      (pss_one (ps_ret (pe_call OT hr rfl mT kT bT .nil pass0 (pa_cons (pe_dget hu (pe_fld (pv 0) rfl) (pe_tup (pa_cons (pv 2) (pa_cons (pv 1) pa_nil))) (fun _ _ => rfl)) pa_nil)))), ?_⟩
    refine ⟨_, rfl, _, rfl, _, _, rfl, rfl, _, rfl, ?_⟩
    refine if_dec (fun c => ?_) (fun c => ?_)
    · have c : i < j := Int.ofNat_lt.mp c
      refine ⟨_, rfl, a, C, dx, _, _, rfl, ha, T.cl, T.n2, gF_sets .., _, rfl, _, rfl, (by show 2 ≤ sizeLine; decide), fun b hb => ?_⟩
      have sb := same_new (o := .tup [natV i, natV j]) hb
      refine ⟨d, _, rfl, hS.get c hj sb upd_same, ?_⟩
      have := k _ sb
      unfold how at this
      rw [if_pos c] at this
      exact this
    · have c : ¬ i < j := fun z => c (Int.ofNat_lt.mpr z)
      refine ⟨_, rfl, a, C, dx, _, _, rfl, ha, T.cl, T.n2, gF_sets .., _, rfl, _, rfl, (by show 2 ≤ sizeLine; decide), fun b hb => ?_⟩
      have sb := same_new (o := .tup [natV j, natV i]) hb
      refine ⟨d, _, rfl, hS.get (i := j) (j := i) (by omega) hi sb upd_same, net j i, rfl, fun H1 s1 => ?_⟩
      have := k _ (sb.trans s1)
      unfold how at this
      rw [if_neg c] at this
      exact this

theorem scOrd : FnScope ["self", "order", "sets", "j", "i"] ["self", "order"] (defScope sOrd) := ⟨rfl, rfl, rfl, by decide +kernel, rfl, by decide +kernel, by decide +kernel⟩
theorem ok_ord {f : Addr} {fd : FuncData} (F : Fun K "sets_in_order" "Spans.sets_in_order" sOrd f fd) (T : TxtO K mg C) (M : Glo mg) (BH : MtB P w K mg base C "how_may_lie" 3 ["self", "i", "j"] (spHow C)) : FnOk P w K mg base CX0 4 f fd ["self", "order"] (spOrd C) := by
  obtain ⟨gH, fH, mH, bH, OH⟩ := BH
  refine F.ok scOrd (fun vs H Q E h => ?_) (fun cdv A outer s H vs Q E hr h => ?_)
  · obtain ⟨_, _, _, _, _, _, rfl, _⟩ := h
    rfl
  · obtain ⟨a, t, q, n, net, o, rfl, hA, hq, O, hn4, k⟩ := h
    have nd := scOrd.nd
    have hu := hu_of hr
    obtain ⟨dx, d0, ha, hS⟩ := hA.ex
    have lenO := O.len
    refine ⟨_, pss_cons (ps_set (i := 2) nd rfl (Or.inl rfl) pe_dnewT)
      (pss_cons (ps_for PassesOwn.never rfl (pi_range1 rfl M.range (pa_cons (pe_callB call_len_seq (by rfl) M.len PySem.boot_len (pa_cons (pv 1) pa_nil)) pa_nil)) (pg_name (i := 3) nd rfl (Or.inl rfl))
        (pss_one (ps_for PassesOwn.never rfl (pi_range1 rfl M.range (pa_cons (pv 3) pa_nil)) (pg_name (i := 4) nd rfl (Or.inl rfl))
          (pss_one (ps_dput hu (pv 2) (pe_tup (pa_cons (pv 4) (pa_cons (pv 3) pa_nil))) (pe_meth (pv 0) T.cl mH OH hr bH .nil pass0 (pa_cons (pe_ix ix_list (pv 1) (pv 4) (fun _ _ => rfl)) (pa_cons (pe_ix ix_list (pv 1) (pv 3) (fun _ _ => rfl)) pa_nil))) rfl)))))
      (pss_one (ps_ret (pv 2)))), ?_⟩
    refine fun d hd => ?_
    have s0 := same_new (o := .dT []) hd
    refine ⟨_, rfl, q, _, rfl, .inl (SqL.of (s0 _ _ hq)), ((o.map natV).length : Int), rfl, by rw [List.length_map, lenO]; omega, by rw [List.length_map, lenO]; omega, ?_⟩
    rw [show (((o.map natV).length : Int)).toNat = n by rw [List.length_map, lenO]; omega]
    refine for_range (lo := 0) (n := n) (fun j σ H' => ∃ v3 v4 : Option V, σ = [some (.ref a), some (.ref q), some (.ref d), v3, v4] ∧ OrdInv H net o d j 0 H') ⟨none, none, rfl, s0, [], upd_same, by show 0 ≤ 4 * 0 + 0; omega, fun x y _ h => by omega⟩ ?_ ?_
    · rintro j σ H3 hj ⟨v3, v4, rfl, I3⟩
      have eJ : V.int (0 + (j : Int)) = natV j := by rw [Int.zero_add]; rfl
      rw [eJ]
      refine ⟨_, rfl, (j : Int), rfl, by omega, by omega, ?_⟩
      rw [show ((j : Int)).toNat = j by omega]
      refine for_range (lo := 0) (n := j) (fun i σ H' => ∃ v4 : Option V, σ = [some (.ref a), some (.ref q), some (.ref d), some (natV j), v4] ∧ OrdInv H net o d j i H') ⟨v4, rfl, I3⟩ ?_ ?_
      · rintro i σ H4 hi ⟨v4', rfl, s4, kvs, d4, l4, h4⟩
        have eI : V.int (0 + (i : Int)) = natV i := by rw [Int.zero_add]; rfl
        rw [eI]
        have oi : o[i]? = some (o.getD i 0) := get_getD (by omega)
        have oj : o[j]? = some (o.getD j 0) := get_getD (by omega)
        refine ⟨_, rfl, a, dx, _, rfl, s4 _ _ ha, gF_none _ _ _ (by decide +kernel), _, rfl, _, rfl, q, _, (i : Int), natV (o.getD i 0), rfl, rfl, SqL.of (s4 _ _ hq), atI_nat (at_map oi), _, rfl, _, rfl, q, _, (j : Int), natV (o.getD j 0), rfl, rfl, SqL.of (s4 _ _ hq), atI_nat (at_map oj), ?_⟩
        refine ⟨a, t, n, o.getD i 0, o.getD j 0, net, rfl, hA.same s4, O.at_lt (by omega), O.at_lt hj, O.ne (by omega) hj (by omega), fun H5 s5 => ?_⟩
        refine ⟨_, rfl, _, rfl, _, rfl, (by show 2 ≤ sizeLine; decide), fun b hb => ?_⟩
        have sb := same_new (o := .tup [natV i, natV j]) hb
        have d6 := sb _ _ (s5 _ _ d4)
        refine ⟨d, _, rfl, .inr ⟨kvs, kvOf i j, b, d6, rfl, upd_same, line_lt (by omega), rfl⟩, ?_⟩
        refine ⟨some (natV i), rfl, same_at ((s4.trans s5).trans sb) hd, _, upd_same, ?_, fun x y hxy h => ?_⟩
        · have := putK_le kvs (kvOf i j) (natV (how net (o.getD i 0) (o.getD j 0)))
          omega
        · rw [valV_put]
          by_cases e : kvOf x y = kvOf i j
          · rw [if_pos e]
            obtain ⟨rfl, rfl⟩ := kvOf_inj e
            rfl
          · rw [if_neg e]
            refine h4 x y hxy ?_
            rcases h with h | ⟨h, h'⟩
            · exact .inl h
            · refine .inr ⟨h, ?_⟩
              have : x ≠ i := fun z => e (by rw [z, h])
              omega
      · rintro σ H4 ⟨v4', rfl, s4, kvs, d4, l4, h4⟩
        exact ⟨_, _, rfl, s4, kvs, d4, by omega, fun x y hxy h => h4 x y hxy (by omega)⟩
    · rintro σ H3 ⟨v3, v4, rfl, s3, kvs, d3, l3, h3⟩
      exact ⟨_, rfl, k H3 d s3 hd ⟨kvs, d3, fun i j hij hj => h3 i j hij (.inl hj), by omega⟩⟩

theorem scMay : FnScope ["self", "i", "j", "order", "other"] ["self", "i", "j"] (defScope sMay) := ⟨rfl, rfl, rfl, by decide +kernel, rfl, by decide +kernel, by decide +kernel⟩
theorem ok_may {f : Addr} {fd : FuncData} (F : Fun K "may" "Spans.may" sMay f fd) (T : TxtO K mg C) (M : Glo mg) (B2 : MtB P w K mg base C "are_two" 1 ["self", "i", "j"] (spTwo C)) (BO : MtB P w K mg base C "sets_in_order" 4 ["self", "order"] (spOrd C))
    (BL : FnB P w K mg base "ways_in_lists" 4 ["count", "sets", "following"] spInLists) : FnOk P w K mg base CX0 5 f fd ["self", "i", "j"] (spMay C) := by
  obtain ⟨tR, hR⟩ := T.ref
  obtain ⟨g2, f2, m2, b2, O2⟩ := B2
  obtain ⟨gO, fO, mO, bO, OO⟩ := BO
  obtain ⟨gL, fL, mL, kL, bL, OL⟩ := BL
  refine F.ok scMay (fun vs H Q E h => ?_) (fun cdv A outer s H vs Q E hr h => ?_)
  · obtain ⟨_, _, _, _, _, _, rfl, _⟩ := h
    rfl
  · obtain ⟨a, t, n, i, j, net, rfl, hA, hT, hn2, hn4, kN, kY⟩ := h
    have nd := scMay.nd
    have hr1 : Room 1 _ := hr.mono (by decide)
    obtain ⟨dx, d, ha, hS⟩ := hA.ex
    refine ⟨_, pss_cons (ps_if (pt_not (pt_val (pe_meth (pv 0) T.cl m2 O2 hr1 b2 .nil pass0 (pa_cons (pv 1) (pa_cons (pv 2) pa_nil)))))
        (pss_one (ps_ret (pe_lst (pa_cons (pe_glob (v := .int (-22)) rfl hR ⟨_, rfl⟩) pa_nil)))) pss_nil)
      (pss_cons (ps_set (i := 3) nd rfl (Or.inl rfl) (pe_op op_cat (pe_lst (pa_cons (pv 1) (pa_cons (pv 2) pa_nil)))
        (pe_lc (own := [("other", 4)]) (g := gName 4) rfl nd (pi_range1 rfl M.range (pa_cons (pe_fld (pv 0) rfl) pa_nil))
          (blkOk_by (own := [("other", 4)]) (N := ["self", "i", "j", "order", "other"]) (sc := defScope sMay) (by decide +kernel))
          (fun _ _ _ _ _ => pg_name (i := 4) nd rfl (Or.inl rfl))
          (fun _ _ _ _ _ => pts_one (pt_cmpR (op_notInL K rfl) (pv 4) (pe_tup (pa_cons (pv 1) (pa_cons (pv 2) pa_nil))) rfl))
          (fun _ _ _ _ _ => pv 4))))
      (pss_one (ps_ret (pe_lst (pa_cons (pe_call OL hr rfl mL kL bL .nil pass0 (pa_cons (pe_fld (pv 0) rfl) (pa_cons (pe_meth (pv 0) T.cl mO OO hr bO .nil pass0 (pa_cons (pv 3) pa_nil)) (pa_cons (pe_fld (pv 0) rfl) pa_nil)))) pa_nil))))), ?_⟩
    refine ⟨_, rfl, a, dx, _, rfl, ha, gF_none _ _ _ (by decide +kernel), _, rfl, _, rfl, a, t, n, i, j, net, rfl, hA, _, rfl, ?_⟩
    by_cases c1 : ¬ (i < n ∧ j < n ∧ i ≠ j)
    · rw [decide_eq_false c1]
      exact iteT ⟨(by show 1 ≤ sizeLine; decide), fun p np => (kN c1).new (Fixed.of (Same.refl _)) hA np rfl⟩
    have c1 := Decidable.not_not.mp c1
    rw [decide_eq_true c1]
    refine iteF ?_
    have k := kY c1
    obtain ⟨hi, hj, hij⟩ := c1
    -- [i, j]
    refine ⟨_, rfl, _, rfl, (by show 2 ≤ sizeLine; decide), fun p np => ?_⟩
    have s1 := same_new (o := .lst [natV i, natV j]) np
    have e1 : upd H p (.lst [natV i, natV j]) p = some (.lst [natV i, natV j]) := upd_same
    generalize upd H p (.lst [natV i, natV j]) = H1 at s1 e1 ⊢
    -- the others
    refine ⟨_, rfl, a, C, dx, _, _, rfl, s1 _ _ ha, T.cl, T.n1, gF_count .., (n : Int), rfl, by omega, by omega, fun D hD => ?_⟩
    refine lc_range (lo := 0) (n := n) (fun i' H' => Same H1 H' ∧ H' D = some (.lst ((((List.range i').filter fun k => !(decide (i = k) || decide (j = k)))).map natV))) ⟨same_new hD, upd_same⟩ ?_ ?_
    · rintro x H2 hx ⟨s2, e2⟩
      refine ⟨rfl, _, rfl, _, rfl, _, rfl, (by show 2 ≤ sizeLine; decide), fun b hb => ?_⟩
      have sb := same_new (o := .tup [natV i, natV j]) hb
      have eX : V.int (0 + (x : Int)) = natV x := by rw [Int.zero_add]; rfl
      have s3 := s2.trans sb
      have e3 := sb _ _ e2
      refine ⟨b, _, rfl, .inr (SqT.of upd_same), rfl, rfl, _, rfl, ?_⟩
      have eIn : inV (V.int (0 + (x : Int))) [natV i, natV j] = (decide (i = x) || decide (j = x)) := by
        rw [eX]
        show (eqV (natV i) (natV x) || (eqV (natV j) (natV x) || false)) = _
        rw [Bool.or_false]
        have : ∀ a b : Nat, eqV (natV a) (natV b) = decide (a = b) := by
          intro a b
          show decide ((a : Int) = (b : Int)) = decide (a = b)
          rw [Bool.eq_iff_iff, decide_eq_true_iff, decide_eq_true_iff]
          omega
        rw [this, this]
      have eN : (if true = true then !inV (V.int (0 + (x : Int))) [natV i, natV j] else inV (V.int (0 + (x : Int))) [natV i, natV j]) = !(decide (i = x) || decide (j = x)) := by
        rw [if_pos rfl, eIn]
      have hr' : List.range (x + 1) = List.range x ++ [x] := List.range_succ
      show if (if true = true then !inV (V.int (0 + (x : Int))) [natV i, natV j] else inV (V.int (0 + (x : Int))) [natV i, natV j]) = true then _ else _
      rw [eN]
      cases hb2 : (!(decide (i = x) || decide (j = x))) with
      | true =>
        refine iteT ⟨_, rfl, _, e3, ?_, same_at s3 hD, ?_⟩
        · rw [List.length_map]
          have := List.length_filter_le (fun k => !(decide (i = k) || decide (j = k))) (List.range x)
          rw [List.length_range] at this
          exact line_lt (by omega)
        · rw [upd_same, hr', List.filter_append, List.map_append]
          have : List.filter (fun k => !(decide (i = k) || decide (j = k))) [x] = [x] := by
            rw [List.filter_cons_of_pos (by exact hb2)]
            rfl
          rw [this]
          show some (HO.lst (_ ++ [V.int (0 + (x : Int))])) = _
          rw [eX]
          rfl
      | false =>
        refine iteF ⟨s3, ?_⟩
        rw [hr', List.filter_append]
        have : List.filter (fun k => !(decide (i = k) || decide (j = k))) [x] = [] := by
          rw [List.filter_cons_of_neg (by rw [hb2]; decide)]
          rfl
        rw [this, List.append_nil]
        exact e3
    · rintro H2 ⟨s2, e2⟩
      refine ⟨p, D, _, _, rfl, rfl, s2 _ _ e1, e2, ?_, fun q nq => ?_⟩
      · rw [List.length_map]
        have := List.length_filter_le (fun k => !(decide (i = k) || decide (j = k))) (List.range n)
        rw [List.length_range] at this
        exact line_le (by show 2 + _ ≤ _; omega)
      have s3 := (s1.trans s2).trans (same_new (o := .lst ([natV i, natV j] ++ (othersOf n i j).map natV)) nq)
      have e3 : upd H2 q (.lst ([natV i, natV j] ++ (othersOf n i j).map natV)) q = some (.lst ((orderOf n i j).map natV)) := upd_same
      have eL : ([natV i, natV j] ++ ((List.range n).filter fun k => !(decide (i = k) || decide (j = k))).map natV) = [natV i, natV j] ++ (othersOf n i j).map natV := rfl
      rw [eL]
      generalize upd H2 q (.lst ([natV i, natV j] ++ (othersOf n i j).map natV)) = H3 at s3 e3 ⊢
      -- the answer
      refine ⟨_, rfl, a, C, dx, _, _, rfl, s3 _ _ ha, T.cl, T.n1, gF_count .., _, rfl, a, dx, _, rfl, s3 _ _ ha, gF_none _ _ _ (by decide +kernel), _, rfl, ?_⟩
      refine ⟨a, t, q, n, net, orderOf n i j, rfl, hA.same s3, e3, order_ord hi hj hij, hn4, fun H4 d4 s4 nd4 hS4 => ?_⟩
      have s34 := s3.trans s4
      refine ⟨_, rfl, a, C, dx, _, _, rfl, s34 _ _ ha, T.cl, T.n3, gF_foll .., ?_⟩
      refine ⟨n, d4, t, netO net (orderOf n i j), rfl, hn2, hn4, hS4, hT.same s34, fun H5 s5 => ⟨(by show 1 ≤ sizeLine; decide), fun z nz => ?_⟩⟩
      have hmay := may_is net (n := n) (i := i) (j := j) (by omega) (order_ord hi hj hij) rfl rfl
      rw [hmay]
      exact k.new (Fixed.of (s34.trans s5)) (hA.same (s34.trans s5)) nz rfl
end
end Sv
/-! The state of the specification beside the object's; answer_of. -/
namespace Sv
open PySem PySem.Spec PyProof.Rows L2

/-! ### the state -/
structure Good (s : Kcz9.Abs) : Prop where
  len : s.net.length = 4
  row : ∀ i, i < 4 → (s.net.getD i []).length = 4
  lt : ∀ i j, Kcz9.netOf s i j < 8192
theorem netOf_set (s : Kcz9.Abs) (n : Nat) (G : Good s) {x y : Nat} (hx : x < 4) (hy : y < 4) (v : Nat) (i j : Nat) : Kcz9.netOf ⟨n, Kcz9.setAt s.net x y v⟩ i j = if i = x ∧ j = y then v else Kcz9.netOf s i j := by
  unfold Kcz9.netOf Kcz9.setAt
  show ((s.net.set x ((s.net.getD x []).set y v)).getD i []).getD j Kcz9.ALL = _
  rw [getD_set]
  by_cases c : i = x
  · subst c
    rw [if_pos ⟨rfl, by rw [G.len]; exact hx⟩, getD_set]
    by_cases c2 : j = y
    · subst c2
      rw [if_pos ⟨rfl, by rw [G.row i hx]; exact hy⟩, if_pos ⟨rfl, rfl⟩]
    · rw [if_neg (fun z => c2 z.1.symm), if_neg (fun z => c2 z.2)]
  · rw [if_neg (fun z => c z.1.symm), if_neg (fun z => c z.1)]
theorem Good.set {s : Kcz9.Abs} (G : Good s) {x y : Nat} (hx : x < 4) (hy : y < 4) {v : Nat} (hv : v < 8192) (n : Nat) : Good ⟨n, Kcz9.setAt s.net x y v⟩ := by
  refine ⟨?_, fun i hi => ?_, fun i j => ?_⟩
  · show (Kcz9.setAt s.net x y v).length = 4
    unfold Kcz9.setAt
    rw [List.length_set]
    exact G.len
  · show ((Kcz9.setAt s.net x y v).getD i []).length = 4
    unfold Kcz9.setAt
    rw [getD_set]
    split
    · rw [List.length_set]
      exact G.row x hx
    · exact G.row i hi
  · rw [netOf_set s n G hx hy]
    split
    · exact hv
    · exact G.lt i j
theorem first_net (n i j : Nat) : Kcz9.netOf ⟨n, Kcz9.first.net⟩ i j = 8191 := by
  unfold Kcz9.netOf Kcz9.first
  show ((List.replicate 4 (List.replicate 4 8191)).getD i []).getD j 8191 = 8191
  have h1 : ∀ j, (List.replicate 4 8191).getD j 8191 = 8191 := by
    intro j
    rw [List.getD_eq_getElem?_getD, List.getElem?_replicate]
    split <;> rfl
  rw [List.getD_eq_getElem?_getD (l := List.replicate 4 (List.replicate 4 8191)), List.getElem?_replicate]
  split
  · exact h1 j
  · rfl
theorem good_first (n : Nat) : Good ⟨n, Kcz9.first.net⟩ := ⟨rfl, by
  intro i hi
  have : ∀ i, i < 4 → ((Kcz9.first.net).getD i []).length = 4 := by decide
  exact this i hi, fun i j => by rw [first_net]; decide⟩
theorem SetsAt.congr {H : Hp} {d : Addr} {n : Nat} {net net' : Kcz9.Net} (h : SetsAt H d n net) (e : ∀ i j, i < j → j < n → net i j = net' i j) : SetsAt H d n net' :=
  let ⟨kvs, h1, h2, h3⟩ := h.ex; ⟨kvs, h1, fun i j hij hj => by rw [← e i j hij hj]; exact h2 i j hij hj, h3⟩
theorem SpanAt.congr {C : Addr} {H : Hp} {a t : Addr} {n : Nat} {net net' : Kcz9.Net} (h : SpanAt C H a n t net) (e : ∀ i j, i < j → j < n → net i j = net' i j) : SpanAt C H a n t net' :=
  let ⟨dx, d, h1, h2⟩ := h.ex; ⟨dx, d, h1, h2.congr e⟩
/-- where a list grows -/
theorem SpanAt.grow {C : Addr} {H : Hp} {a t p : Addr} {n : Nat} {net : Kcz9.Net} {xs : List V} {o : HO} (h : SpanAt C H a n t net) (hp : H p = some (.lst xs)) : SpanAt C (upd H p o) a n t net :=
  let ⟨dx, d, h1, h2⟩ := h.ex
  let ⟨kvs, k1, k2, k3⟩ := h2.ex
  ⟨dx, d, by rw [upd_ne (ne_of h1 hp (by intro z; cases z))]; exact h1, ⟨kvs, by rw [upd_ne (ne_of k1 hp (by intro z; cases z))]; exact k1, k2, k3⟩⟩
structure StAt (C : Addr) (H : Hp) (a t : Addr) (s : Kcz9.Abs) (b : Bool) : Prop where
  yes : b = true → SpanAt C H a s.n t (Kcz9.netOf s) ∧ 2 ≤ s.n ∧ s.n ≤ 4 ∧ Good s
  no : b = false → ∃ net, SpanAt C H a 0 t net
theorem StAt.any {C : Addr} {H : Hp} {a t : Addr} {s : Kcz9.Abs} {b : Bool} (h : StAt C H a t s b) : ∃ n net, SpanAt C H a n t net := by
  cases b with
  | true => exact ⟨_, _, (h.yes rfl).1⟩
  | false =>
    obtain ⟨net, h⟩ := h.no rfl
    exact ⟨_, _, h⟩
theorem StAt.same {C : Addr} {H H' : Hp} {a t : Addr} {s : Kcz9.Abs} {b : Bool} (h : StAt C H a t s b) (e : Same H H') : StAt C H' a t s b :=
  ⟨fun z => let ⟨h1, h2⟩ := h.yes z; ⟨h1.same e, h2⟩, fun z => let ⟨net, h1⟩ := h.no z; ⟨net, h1.same e⟩⟩
theorem StAt.grow {C : Addr} {H : Hp} {a t p : Addr} {s : Kcz9.Abs} {b : Bool} {xs : List V} {o : HO} (h : StAt C H a t s b) (hp : H p = some (.lst xs)) : StAt C (upd H p o) a t s b :=
  ⟨fun z => let ⟨h1, h2⟩ := h.yes z; ⟨h1.grow hp, h2⟩, fun z => let ⟨net, h1⟩ := h.no z; ⟨net, h1.grow hp⟩⟩

/-! ### each call: what the specification makes of it -/
abbrev stepI (s : Kcz9.Abs) (p : Int) (gs : List Int) : Kcz9.Abs × List Int := Kcz9Neutral.step s [p :: gs]
abbrev N (k : Nat) : Int := (k : Int)
theorem step_begin (s : Kcz9.Abs) (c : Nat) : stepI s 0 [N c] = if c < 2 ∨ 4 < c then (s, [-22]) else (⟨c, Kcz9.first.net⟩, [0]) := by
  show ((Kcz9.step s (.begin_ (Int.toNat (c : Int)))).1, Kcz9Neutral.tell_ (Kcz9.step s (.begin_ (Int.toNat (c : Int)))).2) = _
  rw [Int.toNat_natCast]
  unfold Kcz9.step Kcz9.SPANS
  dsimp only
  split <;> rfl
theorem step_tell (s : Kcz9.Abs) (i j v : Nat) : stepI s 1 [N i, N j, N v] = if s.n ≤ i ∨ s.n ≤ j ∨ i = j ∨ 8191 < v then (s, [-22]) else
    (⟨s.n, Kcz9.setAt s.net (if i < j then i else j) (if i < j then j else i) (Kcz9.both (Kcz9.netOf s (if i < j then i else j) (if i < j then j else i)) (if i < j then v else Kcz9.turned v))⟩, [((Kcz9.both (Kcz9.netOf s (if i < j then i else j) (if i < j then j else i)) (if i < j then v else Kcz9.turned v) : Nat) : Int)]) := by
  show ((Kcz9.step s (.tell (Int.toNat (i : Int)) (Int.toNat (j : Int)) (Int.toNat (v : Int)))).1, Kcz9Neutral.tell_ (Kcz9.step s (.tell (Int.toNat (i : Int)) (Int.toNat (j : Int)) (Int.toNat (v : Int)))).2) = _
  rw [Int.toNat_natCast, Int.toNat_natCast, Int.toNat_natCast]
  unfold Kcz9.step Kcz9.ALL
  dsimp only
  split <;> rfl
theorem step_free (s : Kcz9.Abs) (i j : Nat) : stepI s 2 [N i, N j] = if s.n ≤ i ∨ s.n ≤ j ∨ i = j then (s, [-22]) else (⟨s.n, Kcz9.setAt s.net (min i j) (max i j) 8191⟩, [0]) := by
  show ((Kcz9.step s (.free (Int.toNat (i : Int)) (Int.toNat (j : Int)))).1, Kcz9Neutral.tell_ (Kcz9.step s (.free (Int.toNat (i : Int)) (Int.toNat (j : Int)))).2) = _
  rw [Int.toNat_natCast, Int.toNat_natCast]
  unfold Kcz9.step Kcz9.ALL
  dsimp only
  split <;> rfl
theorem step_many (s : Kcz9.Abs) : stepI s 3 [] = (s, [N (Kcz9.pictures (Kcz9.netOf s) s.n).length]) := rfl
theorem step_picture (s : Kcz9.Abs) : stepI s 4 [] = match Kcz9.first_ ((Kcz9.pictures (Kcz9.netOf s) s.n).map Kcz9.row) with
    | none => (s, [-6])
    | some l => (s, (s.n : Int) :: natsI l) := by
  show ((Kcz9.step s .picture).1, Kcz9Neutral.tell_ (Kcz9.step s .picture).2) = _
  unfold Kcz9.step Kcz9.all_
  dsimp only
  cases Kcz9.first_ ((Kcz9.pictures (Kcz9.netOf s) s.n).map Kcz9.row) <;> rfl
theorem step_may (s : Kcz9.Abs) (i j : Nat) : stepI s 5 [N i, N j] = if s.n ≤ i ∨ s.n ≤ j ∨ i = j then (s, [-22]) else (s, [N (mayOf (Kcz9.netOf s) s.n i j)]) := by
  show ((Kcz9.step s (.may (Int.toNat (i : Int)) (Int.toNat (j : Int)))).1, Kcz9Neutral.tell_ (Kcz9.step s (.may (Int.toNat (i : Int)) (Int.toNat (j : Int)))).2) = _
  rw [Int.toNat_natCast, Int.toNat_natCast]
  unfold Kcz9.step
  dsimp only
  split <;> rfl
theorem step_through (s : Kcz9.Abs) (x y : Nat) : stepI s 6 [N x, N y] = if 8191 < x ∨ 8191 < y then (s, [-22]) else (s, [N (Kcz9.through x y)]) := by
  show ((Kcz9.step s (.through (Int.toNat (x : Int)) (Int.toNat (y : Int)))).1, Kcz9Neutral.tell_ (Kcz9.step s (.through (Int.toNat (x : Int)) (Int.toNat (y : Int)))).2) = _
  rw [Int.toNat_natCast, Int.toNat_natCast]
  unfold Kcz9.step Kcz9.ALL
  dsimp only
  split <;> rfl
theorem step_turned (s : Kcz9.Abs) (x : Nat) : stepI s 7 [N x] = if 8191 < x then (s, [-22]) else (s, [N (Kcz9.turned x)]) := by
  show ((Kcz9.step s (.turned (Int.toNat (x : Int)))).1, Kcz9Neutral.tell_ (Kcz9.step s (.turned (Int.toNat (x : Int)))).2) = _
  rw [Int.toNat_natCast]
  unfold Kcz9.step Kcz9.ALL
  dsimp only
  split <;> rfl
theorem step_lies (s : Kcz9.Abs) (x y z u : Int) : stepI s 8 [x, y, z, u] = if y ≤ x ∨ u ≤ z then (s, [-22]) else (s, [N (Kcz9.lies ⟨x, y⟩ ⟨z, u⟩)]) := by
  show ((Kcz9.step s (.lies x y z u)).1, Kcz9Neutral.tell_ (Kcz9.step s (.lies x y z u)).2) = _
  unfold Kcz9.step
  dsimp only
  split <;> rfl

/-! ### the calls that are asked -/
inductive Asked : Int → List Int → Prop
  | begin_ (c : Nat) : Asked 0 [N c]
  | tell (i j v : Nat) : Asked 1 [N i, N j, N v]
  | free (i j : Nat) : Asked 2 [N i, N j]
  | many : Asked 3 []
  | picture : Asked 4 []
  | may (i j : Nat) : Asked 5 [N i, N j]
  | through (x y : Nat) : Asked 6 [N x, N y]
  | turned (x : Nat) : Asked 7 [N x]
  | lies (x y z u : Int) : Asked 8 [x, y, z, u]
theorem nat_of {z : Int} (h : Kcz9Neutral.natural z 32 = true) : ∃ k : Nat, z = N k := by
  unfold Kcz9Neutral.natural at h
  rw [Bool.and_eq_true, decide_eq_true_iff] at h
  exact ⟨z.toNat, (Int.toNat_of_nonneg h.1).symm⟩
theorem asked_of {p : Int} {gs : List Int} (h : Kcz9Neutral.asked1 [p :: gs] = true) : Asked p gs := by
  unfold Kcz9Neutral.asked1 at h
  split at h
  · rename_i a e
    cases e
    obtain ⟨k, rfl⟩ := nat_of h
    exact .begin_ k
  · rename_i a b c e
    cases e
    rw [Bool.and_eq_true, Bool.and_eq_true] at h
    obtain ⟨k, rfl⟩ := nat_of h.1.1
    obtain ⟨l, rfl⟩ := nat_of h.1.2
    obtain ⟨m, rfl⟩ := nat_of h.2
    exact .tell k l m
  · rename_i a b e
    cases e
    rw [Bool.and_eq_true] at h
    obtain ⟨k, rfl⟩ := nat_of h.1
    obtain ⟨l, rfl⟩ := nat_of h.2
    exact .free k l
  · rename_i e
    cases e
    exact .many
  · rename_i e
    cases e
    exact .picture
  · rename_i a b e
    cases e
    rw [Bool.and_eq_true] at h
    obtain ⟨k, rfl⟩ := nat_of h.1
    obtain ⟨l, rfl⟩ := nat_of h.2
    exact .may k l
  · rename_i a b e
    cases e
    rw [Bool.and_eq_true] at h
    obtain ⟨k, rfl⟩ := nat_of h.1
    obtain ⟨l, rfl⟩ := nat_of h.2
    exact .through k l
  · rename_i a e
    cases e
    obtain ⟨k, rfl⟩ := nat_of h
    exact .turned k
  · rename_i a b c d e
    cases e
    exact .lies _ _ _ _
  · cases h
theorem good_begin (c : Nat) : Kcz9Neutral.good [[0, N c]] = !decide (c < 2 ∨ 4 < c) := by
  show ((0 : Nat) == 0 && decide (2 ≤ Int.toNat (c : Int)) && decide (Int.toNat (c : Int) ≤ 4)) = _
  rw [Int.toNat_natCast, Bool.eq_iff_iff]
  simp
end Sv
/-! answer_of. -/
namespace Sv
open PySem PySem.Spec PyProof.Rows L2

abbrev sAnswer : Stmt := topS 37
structure Nums (mg : Str → Option Value) : Prop where
  c0 : ∃ t, mg "BEGIN" = some (.int 0 t)
  c1 : ∃ t, mg "TELL" = some (.int 1 t)
  c2 : ∃ t, mg "FREE" = some (.int 2 t)
  c3 : ∃ t, mg "MANY" = some (.int 3 t)
  c4 : ∃ t, mg "PICTURE" = some (.int 4 t)
  c5 : ∃ t, mg "MAY" = some (.int 5 t)
  c6 : ∃ t, mg "THROUGH" = some (.int 6 t)
  c7 : ∃ t, mg "TURNED" = some (.int 7 t)
def spAnswer (C : Addr) : Sp := fun vs H Q _ => ∃ (a t g : Addr) (p : Int) (gs : List Int) (s : Kcz9.Abs) (b : Bool), vs = [.ref a, .int p, .ref g] ∧ H g = some (.lst (gs.map V.int)) ∧ Table H t ∧ StAt C H a t s b ∧ Asked p gs ∧ (b = false → p = 0) ∧
  ∀ H' q, Fixed H H' → (∀ xs, H q ≠ some (.lst xs)) → H' q = some (.lst ((stepI s p gs).2.map V.int)) → StAt C H' a t (stepI s p gs).1 (b || Kcz9Neutral.good [p :: gs]) → Q (.ref q) H'
theorem no_of {a b : Int} {A B : Prop} (h : a ≠ b) (k : B) : if decide (V.int a = V.int b) = true then A else B := if_dec (fun e => absurd (V.int.inj e) h) (fun _ => k)
theorem yes_eq {a : Int} {A B : Prop} (k : A) : if decide (V.int a = V.int a) = true then A else B := if_dec (fun _ => k) (fun e => absurd rfl e)
theorem or_true_of {b c : Bool} (h : b = true) : (b || c) = true := by rw [h]; rfl

theorem mem_within {last n b e : Nat} (hb : b < n) (h : b < e) (he : e ≤ last) : (b, e) ∈ within last n := by
  unfold within row1
  refine List.mem_flatMap.mpr ⟨b, List.mem_range.mpr hb, List.mem_map.mpr ⟨e - (b + 1), List.mem_range.mpr (by omega), ?_⟩⟩
  have : b + 1 + (e - (b + 1)) = e := by omega
  rw [this]
theorem spans_WW {n : Nat} (h2 : 2 ≤ n) (h4 : n ≤ 4) : Spans (2 * n) (WW n) := by
  refine ⟨fun s hs => ?_, fun a b hab hb => ?_, ?_⟩
  · have h : ((WW n).getD s (0, 0)).1 < ((WW n).getD s (0, 0)).2 ∧ ((WW n).getD s (0, 0)).2 ≤ 2 * n - 1 := within_up (List.mem_of_getElem? (get_getD (d := (0, 0)) hs))
    omega
  · obtain ⟨s, hs⟩ := List.getElem?_of_mem (mem_within (last := 2 * n - 1) (n := 2 * n - 1) (b := a) (e := b) (by omega) hab (by omega))
    exact ⟨s, (List.getElem?_eq_some_iff.mp hs).1, getD_some hs⟩
  · have h : n = 2 ∨ n = 3 ∨ n = 4 := by omega
    rcases h with rfl | rfl | rfl
    · decide +kernel
    · decide +kernel
    · decide +kernel

section
variable {P : Program} {w : World} {K : PySem.W.Frag} {mg : Str → Option Value} {base : Heap} {C : Addr}
theorem scAnswer : FnScope ["spans", "call", "given"] ["spans", "call", "given"] (defScope sAnswer) := ⟨rfl, rfl, rfl, by decide +kernel, rfl, by decide +kernel, by decide +kernel⟩
theorem ok_answer {f : Addr} {fd : FuncData} (F : Fun K "answer_of" "answer_of" sAnswer f fd) (T : TxtO K mg C) (Ns : Nums mg)
    (B0 : MtB P w K mg base C "begin" 1 ["self", "count"] (spBegin C)) (B1 : MtB P w K mg base C "tell" 3 ["self", "i", "j", "ways"] (spTell C)) (B2 : MtB P w K mg base C "free" 2 ["self", "i", "j"] (spFree C))
    (B3 : MtB P w K mg base C "many" 5 ["self"] (spManyM C)) (B4 : MtB P w K mg base C "picture" 8 ["self"] (spPicture C)) (B5 : MtB P w K mg base C "may" 5 ["self", "i", "j"] (spMay C))
    (B6 : MtB P w K mg base C "through" 3 ["self", "first", "second"] (spThroughM C)) (B7 : MtB P w K mg base C "turned" 3 ["self", "ways"] (spTurnedM C)) (B8 : MtB P w K mg base C "lies" 3 ["self", "one", "other"] (spLiesM C)) :
    FnOk P w K mg base CX0 9 f fd ["spans", "call", "given"] (spAnswer C) := by
  obtain ⟨t0, c0⟩ := Ns.c0
  obtain ⟨t1, c1⟩ := Ns.c1
  obtain ⟨t2, c2⟩ := Ns.c2
  obtain ⟨t3, c3⟩ := Ns.c3
  obtain ⟨t4, c4⟩ := Ns.c4
  obtain ⟨t5, c5⟩ := Ns.c5
  obtain ⟨t6, c6⟩ := Ns.c6
  obtain ⟨t7, c7⟩ := Ns.c7
  obtain ⟨g0, f0, m0, b0, O0⟩ := B0
  obtain ⟨g1, f1, m1, b1, O1⟩ := B1
  obtain ⟨g2, f2, m2, b2, O2⟩ := B2
  obtain ⟨g3, f3, m3, b3, O3⟩ := B3
  obtain ⟨g4, f4, m4, b4, O4⟩ := B4
  obtain ⟨g5, f5, m5, b5, O5⟩ := B5
  obtain ⟨g6, f6, m6, b6, O6⟩ := B6
  obtain ⟨g7, f7, m7, b7, O7⟩ := B7
  obtain ⟨g8, f8, m8, b8, O8⟩ := B8
  refine F.ok scAnswer (fun vs H Q E h => ?_) (fun cdv A outer s H vs Q E hr h => ?_)
  · obtain ⟨_, _, _, _, _, _, _, rfl, _⟩ := h
    rfl
  · obtain ⟨a, t, g, p, gs, s, b, rfl, hg, hT, hA, hq, hb, kk⟩ := h
    have hr1 : Room 1 _ := hr.mono (by decide)
    have hr2 : Room 2 _ := hr.mono (by decide)
    have hr3 : Room 3 _ := hr.mono (by decide)
    have hr5 : Room 5 _ := hr.mono (by decide)
    refine ⟨_, pss_cons (ps_if (pt_cmpR op_eq (pv 1) (pe_glob (v := .int 0) rfl c0 ⟨_, rfl⟩) (nomark _)) (pss_one (ps_ret (pe_meth (pv 0) T.cl m0 O0 hr1 b0 .nil pass0 (pa_cons (pe_ix ix_list (pv 2) pe_int (fun _ _ => rfl)) pa_nil)))) pss_nil)
      (pss_cons (ps_if (pt_cmpR op_eq (pv 1) (pe_glob (v := .int 1) rfl c1 ⟨_, rfl⟩) (nomark _)) (pss_one (ps_ret (pe_meth (pv 0) T.cl m1 O1 hr3 b1 .nil pass0 (pa_cons (pe_ix ix_list (pv 2) pe_int (fun _ _ => rfl)) (pa_cons (pe_ix ix_list (pv 2) pe_int (fun _ _ => rfl)) (pa_cons (pe_ix ix_list (pv 2) pe_int (fun _ _ => rfl)) pa_nil)))))) pss_nil)
      (pss_cons (ps_if (pt_cmpR op_eq (pv 1) (pe_glob (v := .int 2) rfl c2 ⟨_, rfl⟩) (nomark _)) (pss_one (ps_ret (pe_meth (pv 0) T.cl m2 O2 hr2 b2 .nil pass0 (pa_cons (pe_ix ix_list (pv 2) pe_int (fun _ _ => rfl)) (pa_cons (pe_ix ix_list (pv 2) pe_int (fun _ _ => rfl)) pa_nil))))) pss_nil)
      (pss_cons (ps_if (pt_cmpR op_eq (pv 1) (pe_glob (v := .int 3) rfl c3 ⟨_, rfl⟩) (nomark _)) (pss_one (ps_ret (pe_meth0 (pv 0) T.cl m3 O3 hr5 b3 .nil pass0))) pss_nil)
      (pss_cons (ps_if (pt_cmpR op_eq (pv 1) (pe_glob (v := .int 4) rfl c4 ⟨_, rfl⟩) (nomark _)) (pss_one (ps_ret (pe_meth0 (pv 0) T.cl m4 O4 hr b4 .nil pass0))) pss_nil)
      (pss_cons (ps_if (pt_cmpR op_eq (pv 1) (pe_glob (v := .int 5) rfl c5 ⟨_, rfl⟩) (nomark _)) (pss_one (ps_ret (pe_meth (pv 0) T.cl m5 O5 hr5 b5 .nil pass0 (pa_cons (pe_ix ix_list (pv 2) pe_int (fun _ _ => rfl)) (pa_cons (pe_ix ix_list (pv 2) pe_int (fun _ _ => rfl)) pa_nil))))) pss_nil)
      (pss_cons (ps_if (pt_cmpR op_eq (pv 1) (pe_glob (v := .int 6) rfl c6 ⟨_, rfl⟩) (nomark _)) (pss_one (ps_ret (pe_meth (pv 0) T.cl m6 O6 hr3 b6 .nil pass0 (pa_cons (pe_ix ix_list (pv 2) pe_int (fun _ _ => rfl)) (pa_cons (pe_ix ix_list (pv 2) pe_int (fun _ _ => rfl)) pa_nil))))) pss_nil)
      (pss_cons (ps_if (pt_cmpR op_eq (pv 1) (pe_glob (v := .int 7) rfl c7 ⟨_, rfl⟩) (nomark _)) (pss_one (ps_ret (pe_meth (pv 0) T.cl m7 O7 hr3 b7 .nil pass0 (pa_cons (pe_ix ix_list (pv 2) pe_int (fun _ _ => rfl)) pa_nil)))) pss_nil)
      (pss_one (ps_ret (pe_meth (pv 0) T.cl m8 O8 hr3 b8 .nil pass0 (pa_cons (pe_tup (pa_cons (pe_ix ix_list (pv 2) pe_int (fun _ _ => rfl)) (pa_cons (pe_ix ix_list (pv 2) pe_int (fun _ _ => rfl)) pa_nil)))
        (pa_cons (pe_tup (pa_cons (pe_ix ix_list (pv 2) pe_int (fun _ _ => rfl)) (pa_cons (pe_ix ix_list (pv 2) pe_int (fun _ _ => rfl)) pa_nil))) pa_nil)))))))))))), ?_⟩
    obtain ⟨n0, net0, hA0⟩ := hA.any
    obtain ⟨dx, d, ha, _⟩ := hA0.ex
    have at0 : ∀ {x : Int} {r : List Int}, atI ((x :: r).map V.int) 0 = some (.int x) := fun {x r} => atI_nat (j := 0) rfl
    have at1 : ∀ {x y : Int} {r : List Int}, atI ((x :: y :: r).map V.int) 1 = some (.int y) := fun {x y r} => atI_nat (j := 1) rfl
    have at2 : ∀ {x y z : Int} {r : List Int}, atI ((x :: y :: z :: r).map V.int) 2 = some (.int z) := fun {x y z r} => atI_nat (j := 2) rfl
    have at3 : ∀ {x y z u : Int} {r : List Int}, atI ((x :: y :: z :: u :: r).map V.int) 3 = some (.int u) := fun {x y z u r} => atI_nat (j := 3) rfl
    -- what does not change the state
    have keep : ∀ {ans : List Int}, b = true → (stepI s p gs) = (s, ans) → Ends1 C H a t s.n (Kcz9.netOf s) ans Q := by
      intro ans hb1 e H' q f hn eq S
      rw [e] at kk
      refine kk H' q f hn eq ⟨fun _ => ?_, fun z => ?_⟩
      · obtain ⟨_, h2⟩ := hA.yes hb1
        exact ⟨S, h2⟩
      · rw [hb1] at z
        cases z
    cases hq with
    | begin_ c =>
      have e := step_begin s c
      cases b with
      | true =>
        obtain ⟨hA1, h2⟩ := hA.yes rfl
        obtain ⟨dx, d, ha, _⟩ := hA1.ex
        refine ⟨_, rfl, rfl, _, rfl, yes_eq ?_⟩
        refine ⟨_, rfl, a, dx, _, rfl, ha, gF_none _ _ _ (by decide +kernel), _, rfl, g, _, _, _, rfl, rfl, SqL.of hg, at0, a, t, s.n, c, _, rfl, hA1, fun h => ?_, fun h => ?_⟩
        · rw [if_pos h] at e
          exact keep rfl e
        · intro H' q f hn eq S
          rw [if_neg h] at e
          rw [e] at kk
          exact kk H' q f hn eq ⟨fun _ => ⟨S.congr fun i j _ _ => (first_net c i j).symm, by show 2 ≤ c; omega, by show c ≤ 4; omega, good_first c⟩, fun z => by rw [Bool.true_or] at z; cases z⟩
      | false =>
        obtain ⟨net1, hA1⟩ := hA.no rfl
        obtain ⟨dx, d, ha, _⟩ := hA1.ex
        refine ⟨_, rfl, rfl, _, rfl, yes_eq ?_⟩
        refine ⟨_, rfl, a, dx, _, rfl, ha, gF_none _ _ _ (by decide +kernel), _, rfl, g, _, _, _, rfl, rfl, SqL.of hg, at0, a, t, 0, c, _, rfl, hA1, fun h => ?_, fun h => ?_⟩
        · intro H' q f hn eq S
          rw [if_pos h] at e
          rw [e, good_begin, decide_eq_true h] at kk
          exact kk H' q f hn eq ⟨fun z => (by cases z), fun _ => ⟨_, S⟩⟩
        · intro H' q f hn eq S
          rw [if_neg h] at e
          rw [e, good_begin, decide_eq_false h] at kk
          exact kk H' q f hn eq ⟨fun _ => ⟨S.congr fun i j _ _ => (first_net c i j).symm, by show 2 ≤ c; omega, by show c ≤ 4; omega, good_first c⟩, fun z => by cases z⟩
    | tell i j v =>
      have e := step_tell s i j v
      have hb1 : b = true := Decidable.byContradiction fun z => absurd (hb (Bool.eq_false_iff.mpr z)) (by decide)
      obtain ⟨hA1, hn2, hn4, G⟩ := hA.yes hb1
      refine ⟨_, rfl, rfl, _, rfl, no_of (by decide) ?_⟩
      refine ⟨_, rfl, rfl, _, rfl, yes_eq ?_⟩
      refine ⟨_, rfl, a, dx, _, rfl, ha, gF_none _ _ _ (by decide +kernel), _, rfl, g, _, _, _, rfl, rfl, SqL.of hg, at0, _, rfl, g, _, _, _, rfl, rfl, SqL.of hg, at1, _, rfl, g, _, _, _, rfl, rfl, SqL.of hg, at2, a, t, s.n, i, j, v, _, rfl, hA1, fun h => ?_, fun h => ?_⟩
      · rw [if_pos (by omega)] at e
        exact keep hb1 e
      · intro H' q f hn eq S
        rw [if_neg (by omega)] at e
        have hij : i ≠ j := by omega
        have hi : i < s.n := by omega
        have hj : j < s.n := by omega
        have ex : (if i < j then i else j) = min i j := by split <;> omega
        have ey : (if i < j then j else i) = max i j := by split <;> omega
        have ev : (if i < j then v else Kcz9.turned v) = if j < i then Kcz9.turned v else v := by
          by_cases c : i < j
          · rw [if_pos c, if_neg (by omega)]
          · rw [if_neg c, if_pos (by omega)]
        rw [ex, ey, ev, both_land (G.lt _ _)] at e
        rw [e] at kk
        have hx4 : min i j < 4 := by omega
        have hy4 : max i j < 4 := by omega
        have hlt : Kcz9.netOf s (min i j) (max i j) &&& (if j < i then Kcz9.turned v else v) < 8192 := by
          have := both_lt (Kcz9.netOf s (min i j) (max i j)) (if j < i then Kcz9.turned v else v)
          rw [both_land (G.lt _ _)] at this
          exact this
        refine kk H' q f hn eq ⟨fun _ => ⟨S.congr fun x y _ _ => ?_, hn2, hn4, G.set hx4 hy4 hlt s.n⟩, fun z => by rw [hb1] at z; cases z⟩
        rw [netOf_set s s.n G hx4 hy4]
        rfl
    | free i j =>
      have e := step_free s i j
      have hb1 : b = true := Decidable.byContradiction fun z => absurd (hb (Bool.eq_false_iff.mpr z)) (by decide)
      obtain ⟨hA1, hn2, hn4, G⟩ := hA.yes hb1
      refine ⟨_, rfl, rfl, _, rfl, no_of (by decide) ?_⟩
      refine ⟨_, rfl, rfl, _, rfl, no_of (by decide) ?_⟩
      refine ⟨_, rfl, rfl, _, rfl, yes_eq ?_⟩
      refine ⟨_, rfl, a, dx, _, rfl, ha, gF_none _ _ _ (by decide +kernel), _, rfl, g, _, _, _, rfl, rfl, SqL.of hg, at0, _, rfl, g, _, _, _, rfl, rfl, SqL.of hg, at1, a, t, s.n, i, j, _, rfl, hA1, fun h => ?_, fun h => ?_⟩
      · rw [if_pos (by omega)] at e
        exact keep hb1 e
      · intro H' q f hn eq S
        rw [if_neg (by omega)] at e
        rw [e] at kk
        have hx4 : min i j < 4 := by omega
        have hy4 : max i j < 4 := by omega
        refine kk H' q f hn eq ⟨fun _ => ⟨S.congr fun x y _ _ => ?_, hn2, hn4, G.set hx4 hy4 (by decide) s.n⟩, fun z => by rw [hb1] at z; cases z⟩
        rw [netOf_set s s.n G hx4 hy4]
        rfl
    | many =>
      have e := step_many s
      have hb1 : b = true := Decidable.byContradiction fun z => absurd (hb (Bool.eq_false_iff.mpr z)) (by decide)
      obtain ⟨hA1, hn2, hn4, G⟩ := hA.yes hb1
      refine ⟨_, rfl, rfl, _, rfl, no_of (by decide) ?_⟩
      refine ⟨_, rfl, rfl, _, rfl, no_of (by decide) ?_⟩
      refine ⟨_, rfl, rfl, _, rfl, no_of (by decide) ?_⟩
      refine ⟨_, rfl, rfl, _, rfl, yes_eq ?_⟩
      refine ⟨_, rfl, a, dx, _, rfl, ha, gF_none _ _ _ (by decide +kernel), a, t, s.n, _, rfl, hA1, hT, hn2, hn4, fun H' p s1 np e1 => ?_⟩
      exact keep hb1 e H' p (Fixed.of s1) (fun xs z => by rw [np] at z; cases z) e1 (hA1.same s1)
    | picture =>
      have e := step_picture s
      have hb1 : b = true := Decidable.byContradiction fun z => absurd (hb (Bool.eq_false_iff.mpr z)) (by decide)
      obtain ⟨hA1, hn2, hn4, G⟩ := hA.yes hb1
      refine ⟨_, rfl, rfl, _, rfl, no_of (by decide) ?_⟩
      refine ⟨_, rfl, rfl, _, rfl, no_of (by decide) ?_⟩
      refine ⟨_, rfl, rfl, _, rfl, no_of (by decide) ?_⟩
      refine ⟨_, rfl, rfl, _, rfl, no_of (by decide) ?_⟩
      refine ⟨_, rfl, rfl, _, rfl, yes_eq ?_⟩
      refine ⟨_, rfl, a, dx, _, rfl, ha, gF_none _ _ _ (by decide +kernel), a, t, s.n, _, rfl, hA1, hT, hn2, hn4, fun h => ?_, fun h => ?_⟩
      · have : Kcz9.pictures (Kcz9.netOf s) s.n = [] := List.length_eq_zero_iff.mp h
        rw [this] at e
        exact keep hb1 e
      · obtain ⟨h1, h2, h3, h4⟩ := first_search (net := Kcz9.netOf s) (spans_WW hn2 hn4) (by omega) h
        rw [h4] at e
        exact ⟨h2, by omega, keep hb1 e⟩
    | may i j =>
      have e := step_may s i j
      have hb1 : b = true := Decidable.byContradiction fun z => absurd (hb (Bool.eq_false_iff.mpr z)) (by decide)
      obtain ⟨hA1, hn2, hn4, G⟩ := hA.yes hb1
      refine ⟨_, rfl, rfl, _, rfl, no_of (by decide) ?_⟩
      refine ⟨_, rfl, rfl, _, rfl, no_of (by decide) ?_⟩
      refine ⟨_, rfl, rfl, _, rfl, no_of (by decide) ?_⟩
      refine ⟨_, rfl, rfl, _, rfl, no_of (by decide) ?_⟩
      refine ⟨_, rfl, rfl, _, rfl, no_of (by decide) ?_⟩
      refine ⟨_, rfl, rfl, _, rfl, yes_eq ?_⟩
      refine ⟨_, rfl, a, dx, _, rfl, ha, gF_none _ _ _ (by decide +kernel), _, rfl, g, _, _, _, rfl, rfl, SqL.of hg, at0, _, rfl, g, _, _, _, rfl, rfl, SqL.of hg, at1, a, t, s.n, i, j, _, rfl, hA1, hT, hn2, hn4, fun h => ?_, fun h => ?_⟩
      · rw [if_pos (by omega)] at e
        exact keep hb1 e
      · rw [if_neg (by omega)] at e
        exact keep hb1 e
    | through x y =>
      have e := step_through s x y
      have hb1 : b = true := Decidable.byContradiction fun z => absurd (hb (Bool.eq_false_iff.mpr z)) (by decide)
      obtain ⟨hA1, hn2, hn4, G⟩ := hA.yes hb1
      refine ⟨_, rfl, rfl, _, rfl, no_of (by decide) ?_⟩
      refine ⟨_, rfl, rfl, _, rfl, no_of (by decide) ?_⟩
      refine ⟨_, rfl, rfl, _, rfl, no_of (by decide) ?_⟩
      refine ⟨_, rfl, rfl, _, rfl, no_of (by decide) ?_⟩
      refine ⟨_, rfl, rfl, _, rfl, no_of (by decide) ?_⟩
      refine ⟨_, rfl, rfl, _, rfl, no_of (by decide) ?_⟩
      refine ⟨_, rfl, rfl, _, rfl, yes_eq ?_⟩
      refine ⟨_, rfl, a, dx, _, rfl, ha, gF_none _ _ _ (by decide +kernel), _, rfl, g, _, _, _, rfl, rfl, SqL.of hg, at0, _, rfl, g, _, _, _, rfl, rfl, SqL.of hg, at1, a, t, s.n, x, y, _, rfl, hA1, hT, fun h => ?_, fun h => ?_⟩
      · rw [if_pos h] at e
        exact keep hb1 e
      · rw [if_neg h] at e
        exact keep hb1 e
    | turned x =>
      have e := step_turned s x
      have hb1 : b = true := Decidable.byContradiction fun z => absurd (hb (Bool.eq_false_iff.mpr z)) (by decide)
      obtain ⟨hA1, hn2, hn4, G⟩ := hA.yes hb1
      refine ⟨_, rfl, rfl, _, rfl, no_of (by decide) ?_⟩
      refine ⟨_, rfl, rfl, _, rfl, no_of (by decide) ?_⟩
      refine ⟨_, rfl, rfl, _, rfl, no_of (by decide) ?_⟩
      refine ⟨_, rfl, rfl, _, rfl, no_of (by decide) ?_⟩
      refine ⟨_, rfl, rfl, _, rfl, no_of (by decide) ?_⟩
      refine ⟨_, rfl, rfl, _, rfl, no_of (by decide) ?_⟩
      refine ⟨_, rfl, rfl, _, rfl, no_of (by decide) ?_⟩
      refine ⟨_, rfl, rfl, _, rfl, yes_eq ?_⟩
      refine ⟨_, rfl, a, dx, _, rfl, ha, gF_none _ _ _ (by decide +kernel), _, rfl, g, _, _, _, rfl, rfl, SqL.of hg, at0, a, t, s.n, x, _, rfl, hA1, fun h => ?_, fun h => ?_⟩
      · rw [if_pos h] at e
        exact keep hb1 e
      · rw [if_neg h] at e
        exact keep hb1 e
    | lies x y z u =>
      have e := step_lies s x y z u
      have hb1 : b = true := Decidable.byContradiction fun z => absurd (hb (Bool.eq_false_iff.mpr z)) (by decide)
      obtain ⟨hA1, hn2, hn4, G⟩ := hA.yes hb1
      refine ⟨_, rfl, rfl, _, rfl, no_of (by decide) ?_⟩
      refine ⟨_, rfl, rfl, _, rfl, no_of (by decide) ?_⟩
      refine ⟨_, rfl, rfl, _, rfl, no_of (by decide) ?_⟩
      refine ⟨_, rfl, rfl, _, rfl, no_of (by decide) ?_⟩
      refine ⟨_, rfl, rfl, _, rfl, no_of (by decide) ?_⟩
      refine ⟨_, rfl, rfl, _, rfl, no_of (by decide) ?_⟩
      refine ⟨_, rfl, rfl, _, rfl, no_of (by decide) ?_⟩
      refine ⟨_, rfl, rfl, _, rfl, no_of (by decide) ?_⟩
      refine ⟨_, rfl, a, dx, _, rfl, ha, gF_none _ _ _ (by decide +kernel), _, rfl, g, _, _, _, rfl, rfl, SqL.of hg, at0, _, rfl, g, _, _, _, rfl, rfl, SqL.of hg, at1, (by show 2 ≤ sizeLine; decide), fun p1 np1 => ?_⟩
      have s1 := same_new (o := .tup [V.int x, V.int y]) np1
      refine ⟨_, rfl, g, _, _, _, rfl, rfl, SqL.of (s1 _ _ hg), at2, _, rfl, g, _, _, _, rfl, rfl, SqL.of (s1 _ _ hg), at3, (by show 2 ≤ sizeLine; decide), fun p2 np2 => ?_⟩
      have s2 := same_new (o := .tup [V.int z, V.int u]) np2
      have s12 := s1.trans s2
      have lift : ∀ {ans : List Int}, Ends1 C H a t s.n (Kcz9.netOf s) ans Q → Ends1 C (upd (upd H p1 (.tup [V.int x, V.int y])) p2 (.tup [V.int z, V.int u])) a t s.n (Kcz9.netOf s) ans Q := fun k H' q f hn => k H' q ((Fixed.of s12).trans f) fun xs h => hn xs (s12 _ _ h)
      refine ⟨a, t, p1, p2, s.n, x, y, z, u, _, rfl, hA1.same s12, s2 _ _ upd_same, upd_same, fun h => ?_, fun h => ?_⟩
      · rw [if_pos h] at e
        exact lift (keep hb1 e)
      · rw [if_neg h] at e
        exact lift (keep hb1 e)
end
end Sv
/-! answers. -/
namespace Sv
open PySem PySem.Spec PyProof.Rows L2

/-! ### the list of calls -/
def given : List Int := [1, 3, 2, 0, 0, 2, 2, 1, 4]
theorem shape_given {p : Int} {n k : Nat} (h : PyKcz9.shape p = some (n, k)) : k = 0 ∧ ∃ j : Nat, p = (j : Int) ∧ given[j]? = some (n : Int) := by
  unfold PyKcz9.shape at h
  repeat' split at h
  all_goals first
    | (cases h; done)
    | (rename_i e; cases h; refine ⟨rfl, ?_⟩; subst e; first | exact ⟨0, rfl, rfl⟩ | exact ⟨1, rfl, rfl⟩ | exact ⟨2, rfl, rfl⟩ | exact ⟨3, rfl, rfl⟩ | exact ⟨4, rfl, rfl⟩ | exact ⟨5, rfl, rfl⟩ | exact ⟨6, rfl, rfl⟩ | exact ⟨7, rfl, rfl⟩ | exact ⟨8, rfl, rfl⟩)
theorem calls_nil (f : Nat) : PyFlat.calls PyKcz9.shape f [] = some [] := by
  cases f <;> rfl
theorem calls_cons {f : Nat} {p : Int} {r : List Int} {cs : List (List (List Int))} (h : PyFlat.calls PyKcz9.shape f (p :: r) = some cs) :
    ∃ (n j : Nat) (cs' : List (List (List Int))) (f' : Nat), p = (j : Int) ∧ given[j]? = some (n : Int) ∧ n ≤ r.length ∧ cs = [p :: r.take n] :: cs' ∧ PyFlat.calls PyKcz9.shape f' (r.drop n) = some cs' := by
  cases f with
  | zero => cases h
  | succ f =>
    rw [PyFlat.calls] at h
    split at h
    · cases h
    · rename_i c t e
      unfold PyFlat.call at e
      dsimp only at e
      split at e
      · cases e
      · rename_i n k es
        obtain ⟨rfl, j, hj, hg⟩ := shape_given es
        split at e
        · cases e
        · rename_i hl
          have e : some ((p :: r.take n) :: [], r.drop n) = some (c, t) := e
          cases e
          split at h
          · cases h
          · rename_i cs' e'
            cases h
            exact ⟨n, j, cs', f, hj, hg, by omega, rfl, e'⟩
theorem whole_id (c : List (List Int)) : PyKcz9.whole c = c := by
  unfold PyKcz9.whole
  split <;> rfl
theorem whole_ids (cs : List (List (List Int))) : cs.map PyKcz9.whole = cs := by
  rw [List.map_congr_left (fun c _ => whole_id c), List.map_id']
theorem told_cons (x : List Int) (l : List (List Int)) : PyFlat.told (x :: l) = ((x.length : Nat) : Int) :: (x ++ PyFlat.told l) := by
  unfold PyFlat.told
  rw [List.flatMap_cons]
  rfl
theorem begun_cons {c : List (List Int)} {l : List (List (List Int))} (h : Kcz9Neutral.begun (c :: l) = true) : Kcz9Neutral.good c = true ∨ (Kcz9Neutral.good c = false ∧ Kcz9Neutral.n c 0 = 0 ∧ Kcz9Neutral.begun l = true) := by
  cases e : Kcz9Neutral.good c with
  | true => exact .inl rfl
  | false =>
    unfold Kcz9Neutral.begun at h
    rw [List.takeWhile_cons_of_pos (by rw [e]; rfl), List.all_cons, Bool.and_eq_true] at h
    exact .inr ⟨rfl, beq_iff_eq.mp h.1, h.2⟩
theorem begun_first {c : List (List Int)} (h : Kcz9Neutral.good c = true) : Kcz9Neutral.n c 0 = 0 := by
  unfold Kcz9Neutral.good at h
  rw [Bool.and_eq_true, Bool.and_eq_true] at h
  exact beq_iff_eq.mp h.1.1
theorem num_zero {p : Int} {gs : List Int} (q : Asked p gs) (h : Kcz9Neutral.n [p :: gs] 0 = 0) : p = 0 := by
  have e : Kcz9Neutral.n [p :: gs] 0 = p.toNat := rfl
  rw [e] at h
  cases q <;> first | rfl | (exfalso; revert h; decide)
theorem cut_is (ns : List Int) (at' n : Nat) (h : at' + 1 + n ≤ ns.length) : cutV (ns.map V.int) (some ((at' : Int) + 1)) (some ((at' : Int) + 1 + (n : Int))) = (((ns.drop (at' + 1)).take n)).map V.int := by
  unfold cutV HT.sIx
  dsimp only
  rw [List.length_map, if_neg (by omega), if_neg (by omega)]
  have e1 : ((at' : Int) + 1).toNat = at' + 1 := by omega
  have e2 : ((at' : Int) + 1 + (n : Int)).toNat = at' + 1 + n := by omega
  rw [e1, e2, Nat.min_eq_left h, Nat.min_eq_left (show at' + 1 ≤ ns.length by omega), List.map_take, List.map_drop]
  congr 1
  omega

abbrev sAns : Stmt := topS 38
def spAns (K : PySem.W.Frag) : Sp := fun vs H Q _ => ∃ (p : Addr) (ns : List Int), vs = [.ref p] ∧ SqL K H p (ns.map V.int) ∧ ns.length ≤ 30000 ∧ PyKcz9.answers_asked ns = true ∧
  ∀ H' q, H' q = some (.lst ((PyKcz9.answers ns).map V.int)) → Q (.ref q) H'

structure Inv0 (C : Addr) (H0 : Hp) (a t q0 : Addr) (ns due : List Int) (at' : Nat) (H' : Hp) (rest : List (List (List Int))) (f : Nat) (out : List Int) (s : Kcz9.Abs) (b : Bool) : Prop where
  le : at' ≤ ns.length
  calls : PyFlat.calls PyKcz9.shape f (ns.drop at') = some rest
  due : out ++ PyFlat.told (PyFlat.played Kcz9Neutral.step s rest) = due
  ask : rest.all Kcz9Neutral.asked1 = true
  beg : b = false → Kcz9Neutral.begun rest = true
  fix : Fixed H0 H'
  ans : H' q0 = some (.lst (out.map V.int))
  st : StAt C H' a t s b

section
variable {P : Program} {w : World} {K : PySem.W.Frag} {mg : Str → Option Value} {base : Heap} {C : Addr}
def muAt (ns : List Int) (σ : L2.St) : Nat := match σ[3]? with
  | some (some (V.int i)) => ns.length - i.toNat
  | _ => 0
theorem scAns : FnScope ["calls", "spans", "answered", "at", "call", "behind", "numbers"] ["calls"] (defScope sAns) := ⟨rfl, rfl, rfl, by decide +kernel, rfl, by decide +kernel, by decide +kernel⟩
theorem ok_ans {f fI gv : Addr} {fd fdI : FuncData} (F : Fun K "answers" "answers" sAns f fd) (M : Glo mg) (gC : mg "Spans" = some (.ref C)) (MS : Mk K C fI) (OI : FnOk P w K mg base CX0 5 fI fdI ["self"] (spOInit C)) (bI : Binds K fdI ["self"] [])
    (gG : mg "GIVEN" = some (.ref gv)) (hG : ∀ H, SqT K H gv (given.map V.int)) (BA : FnB P w K mg base "answer_of" 9 ["spans", "call", "given"] (spAnswer C)) :
    FnOk P w K mg base CX0 10 f fd ["calls"] (spAns K) := by
  obtain ⟨gA, fA, mA, kA, bA, OA⟩ := BA
  refine F.ok scAns (fun vs H Q E h => ?_) (fun cdv A outer s H vs Q E hr h => ?_)
  · obtain ⟨_, _, rfl, _⟩ := h
    rfl
  · obtain ⟨p0, ns, rfl, hP, hlen, hask, k⟩ := h
    have nd := scAns.nd
    have hr6 : Room 6 _ := hr.mono (by decide)
    refine ⟨_, pss_cons (ps_set (i := 1) nd rfl (Or.inl rfl) (pe_make0 MS OI hr6 rfl gC bI .nil pass0))
      (pss_cons (ps_set (i := 2) nd rfl (Or.inl rfl) (pe_lst pa_nil))
      (pss_cons (ps_set (i := 3) nd rfl (Or.inl rfl) pe_int)
      (pss_cons (ps_while PassesOwn.never (pt_cmpR op_lt (pv 3) (pe_callB call_len_seq (by rfl) M.len PySem.boot_len (pa_cons (pv 0) pa_nil)) (nomark _))
        (pss_cons (ps_set (i := 4) nd rfl (Or.inl rfl) (pe_ix ix_list (pv 0) (pv 3) (fun _ _ => rfl)))
        (pss_cons (ps_set (i := 5) nd rfl (Or.inl rfl) (pe_op op_add (pe_op op_add (pv 3) pe_int) (pe_ix ix_tup (pe_glob (v := .ref gv) rfl gG rfl) (pv 4) (fun _ _ => rfl))))
        (pss_cons (ps_set (i := 6) nd rfl (Or.inl rfl) (pe_call OA hr rfl mA kA bA .nil pass0 (pa_cons (pv 1) (pa_cons (pv 4) (pa_cons (pe_slice sl_list (pv 0) (po_some (pe_op op_add (pv 3) pe_int)) (po_some (pv 5))) pa_nil)))))
        (pss_cons (ps_expr (pe_bm PySem.F.plainAttrs_list PySem.F.slot_list_append PySem.F.type_list_append mt_append (pv 2) (pa_cons (pe_callB call_len_seq (by rfl) M.len PySem.boot_len (pa_cons (pv 6) pa_nil)) pa_nil)))
        (pss_cons (ps_expr (pe_bm PySem.F.plainAttrs_list PySem.F.slot_list_extend PySem.F.type_list_extend mt_extend (pv 2) (pa_cons (pv 6) pa_nil)))
        (pss_one (ps_set (i := 3) nd rfl (Or.inl rfl) (pv 5)))))))))
      (pss_one (ps_ret (pv 2)))))), ?_⟩
    -- what is asked, what is due
    unfold PyKcz9.answers_asked at hask
    cases hraw : PyFlat.calls PyKcz9.shape ns.length ns with
    | none => rw [hraw] at hask; cases hask
    | some raw =>
    rw [hraw] at hask
    have hdue : PyKcz9.answers ns = PyFlat.told (PyFlat.played Kcz9Neutral.step Kcz9Neutral.start raw) := by
      unfold PyKcz9.answers PyKcz9.calls
      rw [hraw]
      dsimp only
      rw [whole_ids]
    rw [Bool.and_eq_true, Bool.and_eq_true, Bool.and_eq_true, Bool.and_eq_true, whole_ids] at hask
    obtain ⟨⟨⟨⟨h1, h2⟩, h3⟩, h4⟩, h5⟩ := hask
    have hshort : (PyKcz9.answers ns).length ≤ 10000000 := of_decide_eq_true h5
    unfold Kcz9Neutral.asked at h4
    rw [Bool.and_eq_true, Bool.and_eq_true, Bool.and_eq_true] at h4
    obtain ⟨⟨_, h6, h7⟩, _⟩ := h4
    generalize hD : PyKcz9.answers ns = due at hdue hshort k
    -- spans
    intro x dx nx ndx nex
    refine ⟨x, dx, rfl, upd_same, fun H1 t net hS hT kp => ⟨rfl, ?_⟩⟩
    have s1 : Same H H1 := Same.made nx ndx kp
    have hP1 : SqL K H1 p0 (ns.map V.int) := s1.seq hP
    -- answered
    refine ⟨by decide, fun q0 nq0 => ?_⟩
    refine while_by (fun σ H' => ∃ (at' : Nat) (rest : List (List (List Int))) (f : Nat) (out : List Int) (s : Kcz9.Abs) (b : Bool) (v4 v5 v6 : Option V), σ = [some (.ref p0), some (.ref x), some (.ref q0), some (natV at'), v4, v5, v6] ∧ Inv0 C H1 x t q0 ns due at' H' rest f out s b)
      (fun σ _ => muAt ns σ) ⟨0, raw, ns.length, [], Kcz9Neutral.start, false, none, none, none, rfl, Nat.zero_le _, hraw, hdue.symm, h6, fun _ => h7, (Fixed.of (Same.refl _)).new nq0, upd_same, ⟨fun z => (by cases z), fun _ => ⟨net, hS.same (same_new nq0)⟩⟩⟩ ?_ ?_
    · rintro σ H2 ⟨at', rest, f, out, s, b, v4, v5, v6, rfl, I⟩
      have hP2 := I.fix.seq hP1
      refine ⟨_, rfl, _, rfl, p0, _, rfl, .inl hP2, _, _, rfl, rfl, _, rfl, ?_⟩
      refine if_dec (fun c => ?_) (fun c => ?_)
      · have c : at' < ns.length := by
          have c : (at' : Int) < ((ns.map V.int).length : Int) := c
          rw [List.length_map] at c
          omega
        have hd : ns.drop at' = ns[at'] :: ns.drop (at' + 1) := List.drop_eq_getElem_cons c
        have hcalls := I.calls
        rw [hd] at hcalls
        obtain ⟨n, j, cs', f', hj, hg, hn, rfl, hcs'⟩ := calls_cons hcalls
        have hP' : (ns.map V.int)[at']? = some (V.int ns[at']) := by rw [List.getElem?_map, List.getElem?_eq_getElem c]; rfl
        generalize ns[at'] = p at hj hP' hcalls I
        subst hj
        rw [List.length_drop] at hn
        rw [List.drop_drop] at hcs'
        have hask' := I.ask
        rw [List.all_cons, Bool.and_eq_true] at hask'
        have hq : Asked (j : Int) ((ns.drop (at' + 1)).take n) := asked_of hask'.1
        -- call, behind
        refine ⟨_, rfl, _, rfl, p0, _, (at' : Int), V.int (j : Int), rfl, rfl, hP2, atI_nat hP', ?_⟩
        refine ⟨_, rfl, _, _, rfl, rfl, _, rfl, gv, _, (j : Int), V.int (n : Int), rfl, rfl, hG _, atI_nat (at_map hg), _, _, rfl, rfl, ?_⟩
        -- numbers
        refine ⟨_, rfl, _, rfl, _, rfl, _, rfl, _, _, rfl, rfl, _, rfl, _, rfl, _, rfl, p0, _, rfl, hP2, fun g ng => ?_⟩
        have sg := same_new (o := .lst (cutV (ns.map V.int) (some ((at' : Int) + 1)) (some ((at' : Int) + 1 + (n : Int))))) ng
        have eg : upd H2 g (.lst (cutV (ns.map V.int) (some ((at' : Int) + 1)) (some ((at' : Int) + 1 + (n : Int))))) g = some (.lst (((ns.drop (at' + 1)).take n).map V.int)) := by
          rw [upd_same, cut_is ns at' n (by omega)]
        refine ⟨x, t, g, (j : Int), (ns.drop (at' + 1)).take n, s, b, rfl, eg, (I.fix.trans (Fixed.of sg)).table hT, I.st.same sg, hq, fun hb => ?_, fun H3 q f3 hn3 e3 S3 => ?_⟩
        · rcases begun_cons (I.beg hb) with h | ⟨_, h, _⟩
          · exact num_zero hq (begun_first h)
          · exact num_zero hq h
        have f03 := (I.fix.trans (Fixed.of sg)).trans f3
        have ea2 : upd H2 g (.lst (cutV (ns.map V.int) (some ((at' : Int) + 1)) (some ((at' : Int) + 1 + (n : Int))))) q0 = some (.lst (out.map V.int)) := sg _ _ I.ans
        have ea3 : H3 q0 = some (.lst (out.map V.int)) := f3 _ _ ea2 rfl
        have qne : q ≠ q0 := fun z => hn3 _ (by rw [z]; exact ea2)
        have hd2 := I.due
        rw [PyFlat.played, told_cons] at hd2
        have hrest : Kcz9Neutral.begun ([(j : Int) :: (ns.drop (at' + 1)).take n] :: cs') = true ∨ b = true := by
          cases hbb : b with
          | true => exact .inr rfl
          | false => exact .inl (I.beg hbb)
        generalize hans : (stepI s (j : Int) ((ns.drop (at' + 1)).take n)).2 = ans at e3
        have hans' : (Kcz9Neutral.step s [(j : Int) :: (ns.drop (at' + 1)).take n]).2 = ans := hans
        rw [hans'] at hd2
        have hlen2 : out.length + (ans.length + 1) ≤ due.length := by
          rw [← hd2, List.length_append, List.length_cons, List.length_append]
          omega
        have big : ∀ m : Nat, m ≤ due.length → m ≤ sizeLine := fun m h => by
          rw [sizeLine_eq]
          omega
        -- answered.append(len(numbers))
        refine ⟨_, rfl, .inl ⟨rfl, _, SqL.of ea3⟩, _, rfl, q, _, rfl, .inl (SqL.of e3), q0, _, _, rfl, rfl, ea3, ?_, ?_⟩
        · rw [List.length_map, sizeLine_eq]
          omega
        -- answered.extend(numbers)
        refine ⟨_, rfl, .inl ⟨rfl, _, SqL.of upd_same⟩, _, rfl, q0, q, _, _, rfl, rfl, upd_same, by rw [upd_ne qne]; exact e3, ?_, ?_⟩
        · rw [List.length_append, List.length_map, List.length_map]
          exact big _ (by show out.length + 1 + ans.length ≤ _; omega)
        refine ⟨_, rfl, ⟨at' + 1 + n, cs', f', out ++ [((ans.length : Nat) : Int)] ++ ans, (stepI s (j : Int) ((ns.drop (at' + 1)).take n)).1, b || Kcz9Neutral.good [(j : Int) :: (ns.drop (at' + 1)).take n], some (V.int (j : Int)), some (V.int ((at' : Int) + 1 + (n : Int))), some (.ref q), ?_, ⟨by omega, hcs', ?_, hask'.2, fun z => ?_, ?_, ?_, ?_⟩⟩, ?_⟩
        · dsimp only [List.set]
          have : V.int ((at' : Int) + 1 + (n : Int)) = natV (at' + 1 + n) := by
            unfold natV
            congr 1
          rw [← this]
        · rw [← hd2, List.append_assoc, List.append_assoc]
          rfl
        · rw [Bool.or_eq_false_iff] at z
          rcases hrest with h | h
          · rcases begun_cons h with h | ⟨_, _, h⟩
            · rw [h] at z
              exact absurd z.2 (by decide)
            · exact h
          · rw [h] at z
            exact absurd z.1 (by decide)
        · exact (f03.new nq0).new nq0
        · rw [upd_same, List.map_append, List.map_append, List.length_map]
          rfl
        · exact (S3.grow ea3).grow upd_same
        · show ns.length - ((at' : Int) + 1 + (n : Int)).toNat < ns.length - ((at' : Int)).toNat
          omega
      · have c : at' = ns.length := by
          have c : ¬ (at' : Int) < ((ns.map V.int).length : Int) := c
          rw [List.length_map] at c
          have := I.le
          omega
        have hcalls := I.calls
        rw [c, List.drop_eq_nil_of_le (Nat.le_refl _), calls_nil] at hcalls
        cases hcalls
        have hd2 := I.due
        rw [PyFlat.played] at hd2
        have hd2 : out ++ [] = due := hd2
        rw [List.append_nil] at hd2
        refine ⟨_, rfl, k H2 q0 ?_⟩
        rw [← hd2]
        exact I.ans
    · rintro σ H2 Q1 Q2 hQ ⟨v, e1, v2, e2, p, ys, e3, e4, i, j, e5, e6, kk, e7, q⟩
      exact ⟨v, e1, v2, e2, p, ys, e3, e4, i, j, e5, e6, kk, e7, hQ _ _ q⟩
end
end Sv
/-! What the top has written, all together. -/
namespace Sv
open PySem PySem.Spec PyProof.Rows L2
theorem all_mk {P : Program} {w : World} {K : PySem.W.Frag} {h : Heap} {mg : Str → Option Value} {fa CS CO dW gV fPl fBe fIn fTu fWi fAm fBh fTh fMa fIl fWt fMo fBt fLe fFi fOr fAn fAs fSI fSN fSG fOI fO0 fO1 fO2 fO3 fO4 fO5 fO6 fO7 fO8 fO9 fOa fOb b0 b1 b2 b3 b4 b5 b6 b7 b8 b9 b10 b11 b12 : Addr} (X : K.In h) (G : h.Ns mainGlobals mg) (hfa : mg "answers" = some (.ref fa))
    {odPl anPl odBe anBe odIn anIn odTu anTu odWi anWi odAm anAm odBh anBh odTh anTh odMa anMa odIl anIl odWt anWt odMo anMo odBt anBt odLe anLe odFi anFi odOr anOr odAn anAn odAs anAs odSI anSI odSN anSN odSG anSG odOI anOI odO0 anO0 odO1 anO1 odO2 anO2 odO3 anO3 odO4 anO4 odO5 anO5 odO6 anO6 odO7 anO7 odO8 anO8 odO9 anO9 odOa anOa odOb anOb ob0 ob1 ob2 ob3 ob4 ob5 ob6 ob7 ob8 ob9 ob10 ob11 ob12 oV : Option Addr} {slPl slBe slIn slTu slWi slAm slBh slTh slMa slIl slWt slMo slBt slLe slFi slOr slAn slAs slSI slSN slSG slOI slO0 slO1 slO2 slO3 slO4 slO5 slO6 slO7 slO8 slO9 slOa slOb sb0 sb1 sb2 sb3 sb4 sb5 sb6 sb7 sb8 sb9 sb10 sb11 sb12 sV : Array (Option Value)} {ocPl kVPl dcPl pmPl cdPl ctPl ocBe kVBe dcBe pmBe cdBe ctBe ocIn kVIn dcIn pmIn cdIn ctIn ocTu kVTu dcTu pmTu cdTu ctTu ocWi kVWi dcWi pmWi cdWi ctWi ocAm kVAm dcAm pmAm cdAm ctAm ocBh kVBh dcBh pmBh cdBh ctBh ocTh kVTh dcTh pmTh cdTh ctTh ocMa kVMa dcMa pmMa cdMa ctMa ocIl kVIl dcIl pmIl cdIl ctIl ocWt kVWt dcWt pmWt cdWt ctWt ocMo kVMo dcMo pmMo cdMo ctMo ocBt kVBt dcBt pmBt cdBt ctBt ocLe kVLe dcLe pmLe cdLe ctLe ocFi kVFi dcFi pmFi cdFi ctFi ocOr kVOr dcOr pmOr cdOr ctOr ocAn kVAn dcAn pmAn cdAn ctAn ocAs kVAs dcAs pmAs cdAs ctAs ocSI kVSI dcSI pmSI cdSI ctSI ocSN kVSN dcSN pmSN cdSN ctSN ocSG kVSG dcSG pmSG cdSG ctSG ocOI kVOI dcOI pmOI cdOI ctOI ocO0 kVO0 dcO0 pmO0 cdO0 ctO0 ocO1 kVO1 dcO1 pmO1 cdO1 ctO1 ocO2 kVO2 dcO2 pmO2 cdO2 ctO2 ocO3 kVO3 dcO3 pmO3 cdO3 ctO3 ocO4 kVO4 dcO4 pmO4 cdO4 ctO4 ocO5 kVO5 dcO5 pmO5 cdO5 ctO5 ocO6 kVO6 dcO6 pmO6 cdO6 ctO6 ocO7 kVO7 dcO7 pmO7 cdO7 ctO7 ocO8 kVO8 dcO8 pmO8 cdO8 ctO8 ocO9 kVO9 dcO9 pmO9 cdO9 ctO9 ocOa kVOa dcOa pmOa cdOa ctOa ocOb kVOb dcOb pmOb cdOb ctOb : Value} {txLast txAll txRef txNol tx0 tx1 tx2 tx3 tx4 tx5 tx6 tx7 tw0 tw1 tw2 tw3 tw4 tw5 tw6 tw7 tw8 tw9 tw10 tw11 tw12 tp0 tp1 tp2 tp3 tp4 tp5 tp6 tp7 tp8 tp9 tp10 tp11 tp12 tq0 tq1 tq2 tq3 tq4 tq5 tq6 tq7 tq8 tq9 tq10 tq11 tq12 tv0 tv1 tv2 tv3 tv4 tv5 tv6 tv7 tv8 : Tok} {hs0 hs1 hs2 hs3 hs4 hs5 hs6 hs7 hs8 hs9 hs10 hs11 hs12 : Int} {nW nV nb0 nb1 nb2 nb3 nb4 nb5 nb6 nb7 nb8 nb9 nb10 nb11 nb12 : Nat}
    (aCS : PySem.W.nsIn K mainGlobals "ListSearch" = some (some (.ref CS)))
    (aCO : PySem.W.nsIn K mainGlobals "Spans" = some (some (.ref CO)))
    (aPl : PySem.W.nsIn K mainGlobals "place_of" = some (some (.ref fPl)))
    (lPl : K.lookup fPl = some ⟨ocPl, odPl, .func (PySem.W.fnOf "place_of" "place_of" (defArgs sPlace) (defBody sPlace) (defScope sPlace) .none kVPl dcPl pmPl anPl cdPl ctPl), slPl⟩)
    (cPl : PySem.W.codeIn K cdPl "place_of" = true)
    (kPl : PySem.W.keepIn K (.ref fPl) = true)
    (aBe : PySem.W.nsIn K mainGlobals "way_between" = some (some (.ref fBe)))
    (lBe : K.lookup fBe = some ⟨ocBe, odBe, .func (PySem.W.fnOf "way_between" "way_between" (defArgs sBetween) (defBody sBetween) (defScope sBetween) .none kVBe dcBe pmBe anBe cdBe ctBe), slBe⟩)
    (cBe : PySem.W.codeIn K cdBe "way_between" = true)
    (kBe : PySem.W.keepIn K (.ref fBe) = true)
    (aIn : PySem.W.nsIn K mainGlobals "ways_in" = some (some (.ref fIn)))
    (lIn : K.lookup fIn = some ⟨ocIn, odIn, .func (PySem.W.fnOf "ways_in" "ways_in" (defArgs sIn) (defBody sIn) (defScope sIn) .none kVIn dcIn pmIn anIn cdIn ctIn), slIn⟩)
    (cIn : PySem.W.codeIn K cdIn "ways_in" = true)
    (kIn : PySem.W.keepIn K (.ref fIn) = true)
    (aTu : PySem.W.nsIn K mainGlobals "turned_ways" = some (some (.ref fTu)))
    (lTu : K.lookup fTu = some ⟨ocTu, odTu, .func (PySem.W.fnOf "turned_ways" "turned_ways" (defArgs sTurned) (defBody sTurned) (defScope sTurned) .none kVTu dcTu pmTu anTu cdTu ctTu), slTu⟩)
    (cTu : PySem.W.codeIn K cdTu "turned_ways" = true)
    (kTu : PySem.W.keepIn K (.ref fTu) = true)
    (aWi : PySem.W.nsIn K mainGlobals "spans_within" = some (some (.ref fWi)))
    (lWi : K.lookup fWi = some ⟨ocWi, odWi, .func (PySem.W.fnOf "spans_within" "spans_within" (defArgs sWithin) (defBody sWithin) (defScope sWithin) .none kVWi dcWi pmWi anWi cdWi ctWi), slWi⟩)
    (cWi : PySem.W.codeIn K cdWi "spans_within" = true)
    (kWi : PySem.W.keepIn K (.ref fWi) = true)
    (aAm : PySem.W.nsIn K mainGlobals "ways_among" = some (some (.ref fAm)))
    (lAm : K.lookup fAm = some ⟨ocAm, odAm, .func (PySem.W.fnOf "ways_among" "ways_among" (defArgs sAmong) (defBody sAmong) (defScope sAmong) .none kVAm dcAm pmAm anAm cdAm ctAm), slAm⟩)
    (cAm : PySem.W.codeIn K cdAm "ways_among" = true)
    (kAm : PySem.W.keepIn K (.ref fAm) = true)
    (aBh : PySem.W.nsIn K mainGlobals "ways_one_behind_another" = some (some (.ref fBh)))
    (lBh : K.lookup fBh = some ⟨ocBh, odBh, .func (PySem.W.fnOf "ways_one_behind_another" "ways_one_behind_another" (defArgs sBehind) (defBody sBehind) (defScope sBehind) .none kVBh dcBh pmBh anBh cdBh ctBh), slBh⟩)
    (cBh : PySem.W.codeIn K cdBh "ways_one_behind_another" = true)
    (kBh : PySem.W.keepIn K (.ref fBh) = true)
    (aTh : PySem.W.nsIn K mainGlobals "ways_through" = some (some (.ref fTh)))
    (lTh : K.lookup fTh = some ⟨ocTh, odTh, .func (PySem.W.fnOf "ways_through" "ways_through" (defArgs sThrough) (defBody sThrough) (defScope sThrough) .none kVTh dcTh pmTh anTh cdTh ctTh), slTh⟩)
    (cTh : PySem.W.codeIn K cdTh "ways_through" = true)
    (kTh : PySem.W.keepIn K (.ref fTh) = true)
    (aMa : PySem.W.nsIn K mainGlobals "how_many_lists" = some (some (.ref fMa)))
    (lMa : K.lookup fMa = some ⟨ocMa, odMa, .func (PySem.W.fnOf "how_many_lists" "how_many_lists" (defArgs sMany) (defBody sMany) (defScope sMany) .none kVMa dcMa pmMa anMa cdMa ctMa), slMa⟩)
    (cMa : PySem.W.codeIn K cdMa "how_many_lists" = true)
    (kMa : PySem.W.keepIn K (.ref fMa) = true)
    (aIl : PySem.W.nsIn K mainGlobals "ways_in_lists" = some (some (.ref fIl)))
    (lIl : K.lookup fIl = some ⟨ocIl, odIl, .func (PySem.W.fnOf "ways_in_lists" "ways_in_lists" (defArgs sInLists) (defBody sInLists) (defScope sInLists) .none kVIl dcIl pmIl anIl cdIl ctIl), slIl⟩)
    (cIl : PySem.W.codeIn K cdIl "ways_in_lists" = true)
    (kIl : PySem.W.keepIn K (.ref fIl) = true)
    (aWt : PySem.W.nsIn K mainGlobals "how_many_with" = some (some (.ref fWt)))
    (lWt : K.lookup fWt = some ⟨ocWt, odWt, .func (PySem.W.fnOf "how_many_with" "how_many_with" (defArgs sWith) (defBody sWith) (defScope sWith) .none kVWt dcWt pmWt anWt cdWt ctWt), slWt⟩)
    (cWt : PySem.W.codeIn K cdWt "how_many_with" = true)
    (kWt : PySem.W.keepIn K (.ref fWt) = true)
    (aMo : PySem.W.nsIn K mainGlobals "ways_to_one_more" = some (some (.ref fMo)))
    (lMo : K.lookup fMo = some ⟨ocMo, odMo, .func (PySem.W.fnOf "ways_to_one_more" "ways_to_one_more" (defArgs sMore) (defBody sMore) (defScope sMore) .none kVMo dcMo pmMo anMo cdMo ctMo), slMo⟩)
    (cMo : PySem.W.codeIn K cdMo "ways_to_one_more" = true)
    (kMo : PySem.W.keepIn K (.ref fMo) = true)
    (aBt : PySem.W.nsIn K mainGlobals "how_many_between" = some (some (.ref fBt)))
    (lBt : K.lookup fBt = some ⟨ocBt, odBt, .func (PySem.W.fnOf "how_many_between" "how_many_between" (defArgs sBetw) (defBody sBetw) (defScope sBetw) .none kVBt dcBt pmBt anBt cdBt ctBt), slBt⟩)
    (cBt : PySem.W.codeIn K cdBt "how_many_between" = true)
    (kBt : PySem.W.keepIn K (.ref fBt) = true)
    (aLe : PySem.W.nsIn K mainGlobals "left_out_by_numbers" = some (some (.ref fLe)))
    (lLe : K.lookup fLe = some ⟨ocLe, odLe, .func (PySem.W.fnOf "left_out_by_numbers" "left_out_by_numbers" (defArgs sLeft) (defBody sLeft) (defScope sLeft) .none kVLe dcLe pmLe anLe cdLe ctLe), slLe⟩)
    (cLe : PySem.W.codeIn K cdLe "left_out_by_numbers" = true)
    (kLe : PySem.W.keepIn K (.ref fLe) = true)
    (aFi : PySem.W.nsIn K mainGlobals "first_list" = some (some (.ref fFi)))
    (lFi : K.lookup fFi = some ⟨ocFi, odFi, .func (PySem.W.fnOf "first_list" "first_list" (defArgs sFirst) (defBody sFirst) (defScope sFirst) .none kVFi dcFi pmFi anFi cdFi ctFi), slFi⟩)
    (cFi : PySem.W.codeIn K cdFi "first_list" = true)
    (kFi : PySem.W.keepIn K (.ref fFi) = true)
    (aOr : PySem.W.nsIn K mainGlobals "in_order" = some (some (.ref fOr)))
    (lOr : K.lookup fOr = some ⟨ocOr, odOr, .func (PySem.W.fnOf "in_order" "in_order" (defArgs sOrder) (defBody sOrder) (defScope sOrder) .none kVOr dcOr pmOr anOr cdOr ctOr), slOr⟩)
    (cOr : PySem.W.codeIn K cdOr "in_order" = true)
    (kOr : PySem.W.keepIn K (.ref fOr) = true)
    (aAn : PySem.W.nsIn K mainGlobals "answer_of" = some (some (.ref fAn)))
    (lAn : K.lookup fAn = some ⟨ocAn, odAn, .func (PySem.W.fnOf "answer_of" "answer_of" (defArgs sAnswer) (defBody sAnswer) (defScope sAnswer) .none kVAn dcAn pmAn anAn cdAn ctAn), slAn⟩)
    (cAn : PySem.W.codeIn K cdAn "answer_of" = true)
    (kAn : PySem.W.keepIn K (.ref fAn) = true)
    (aAs : PySem.W.nsIn K mainGlobals "answers" = some (some (.ref fAs)))
    (lAs : K.lookup fAs = some ⟨ocAs, odAs, .func (PySem.W.fnOf "answers" "answers" (defArgs sAns) (defBody sAns) (defScope sAns) .none kVAs dcAs pmAs anAs cdAs ctAs), slAs⟩)
    (cAs : PySem.W.codeIn K cdAs "answers" = true)
    (kAs : PySem.W.keepIn K (.ref fAs) = true)
    (aSI : PySem.W.findIn K (.ref CS) "__init__" = some (some (.ref fSI)))
    (iSI : PySem.W.isFn K (.ref fSI) = true)
    (lSI : K.lookup fSI = some ⟨ocSI, odSI, .func (PySem.W.fnOf "__init__" "ListSearch.__init__" (defArgs sSInit) (defBody sSInit) (defScope sSInit) .none kVSI dcSI pmSI anSI cdSI ctSI), slSI⟩)
    (cSI : PySem.W.codeIn K cdSI "ListSearch.__init__" = true)
    (kSI : PySem.W.keepIn K (.ref fSI) = true)
    (aSN : PySem.W.findIn K (.ref CS) "narrowed" = some (some (.ref fSN)))
    (iSN : PySem.W.isFn K (.ref fSN) = true)
    (lSN : K.lookup fSN = some ⟨ocSN, odSN, .func (PySem.W.fnOf "narrowed" "ListSearch.narrowed" (defArgs sNarrow) (defBody sNarrow) (defScope sNarrow) .none kVSN dcSN pmSN anSN cdSN ctSN), slSN⟩)
    (cSN : PySem.W.codeIn K cdSN "ListSearch.narrowed" = true)
    (kSN : PySem.W.keepIn K (.ref fSN) = true)
    (aSG : PySem.W.findIn K (.ref CS) "grown" = some (some (.ref fSG)))
    (iSG : PySem.W.isFn K (.ref fSG) = true)
    (lSG : K.lookup fSG = some ⟨ocSG, odSG, .func (PySem.W.fnOf "grown" "ListSearch.grown" (defArgs sGrown) (defBody sGrown) (defScope sGrown) .none kVSG dcSG pmSG anSG cdSG ctSG), slSG⟩)
    (cSG : PySem.W.codeIn K cdSG "ListSearch.grown" = true)
    (kSG : PySem.W.keepIn K (.ref fSG) = true)
    (aOI : PySem.W.findIn K (.ref CO) "__init__" = some (some (.ref fOI)))
    (iOI : PySem.W.isFn K (.ref fOI) = true)
    (lOI : K.lookup fOI = some ⟨ocOI, odOI, .func (PySem.W.fnOf "__init__" "Spans.__init__" (defArgs sOInit) (defBody sOInit) (defScope sOInit) .none kVOI dcOI pmOI anOI cdOI ctOI), slOI⟩)
    (cOI : PySem.W.codeIn K cdOI "Spans.__init__" = true)
    (kOI : PySem.W.keepIn K (.ref fOI) = true)
    (aO0 : PySem.W.findIn K (.ref CO) "begin" = some (some (.ref fO0)))
    (iO0 : PySem.W.isFn K (.ref fO0) = true)
    (lO0 : K.lookup fO0 = some ⟨ocO0, odO0, .func (PySem.W.fnOf "begin" "Spans.begin" (defArgs sBegin) (defBody sBegin) (defScope sBegin) .none kVO0 dcO0 pmO0 anO0 cdO0 ctO0), slO0⟩)
    (cO0 : PySem.W.codeIn K cdO0 "Spans.begin" = true)
    (kO0 : PySem.W.keepIn K (.ref fO0) = true)
    (aO1 : PySem.W.findIn K (.ref CO) "are_two" = some (some (.ref fO1)))
    (iO1 : PySem.W.isFn K (.ref fO1) = true)
    (lO1 : K.lookup fO1 = some ⟨ocO1, odO1, .func (PySem.W.fnOf "are_two" "Spans.are_two" (defArgs sTwo) (defBody sTwo) (defScope sTwo) .none kVO1 dcO1 pmO1 anO1 cdO1 ctO1), slO1⟩)
    (cO1 : PySem.W.codeIn K cdO1 "Spans.are_two" = true)
    (kO1 : PySem.W.keepIn K (.ref fO1) = true)
    (aO2 : PySem.W.findIn K (.ref CO) "tell" = some (some (.ref fO2)))
    (iO2 : PySem.W.isFn K (.ref fO2) = true)
    (lO2 : K.lookup fO2 = some ⟨ocO2, odO2, .func (PySem.W.fnOf "tell" "Spans.tell" (defArgs sTell) (defBody sTell) (defScope sTell) .none kVO2 dcO2 pmO2 anO2 cdO2 ctO2), slO2⟩)
    (cO2 : PySem.W.codeIn K cdO2 "Spans.tell" = true)
    (kO2 : PySem.W.keepIn K (.ref fO2) = true)
    (aO3 : PySem.W.findIn K (.ref CO) "free" = some (some (.ref fO3)))
    (iO3 : PySem.W.isFn K (.ref fO3) = true)
    (lO3 : K.lookup fO3 = some ⟨ocO3, odO3, .func (PySem.W.fnOf "free" "Spans.free" (defArgs sFree) (defBody sFree) (defScope sFree) .none kVO3 dcO3 pmO3 anO3 cdO3 ctO3), slO3⟩)
    (cO3 : PySem.W.codeIn K cdO3 "Spans.free" = true)
    (kO3 : PySem.W.keepIn K (.ref fO3) = true)
    (aO4 : PySem.W.findIn K (.ref CO) "many" = some (some (.ref fO4)))
    (iO4 : PySem.W.isFn K (.ref fO4) = true)
    (lO4 : K.lookup fO4 = some ⟨ocO4, odO4, .func (PySem.W.fnOf "many" "Spans.many" (defArgs sManyM) (defBody sManyM) (defScope sManyM) .none kVO4 dcO4 pmO4 anO4 cdO4 ctO4), slO4⟩)
    (cO4 : PySem.W.codeIn K cdO4 "Spans.many" = true)
    (kO4 : PySem.W.keepIn K (.ref fO4) = true)
    (aO5 : PySem.W.findIn K (.ref CO) "picture" = some (some (.ref fO5)))
    (iO5 : PySem.W.isFn K (.ref fO5) = true)
    (lO5 : K.lookup fO5 = some ⟨ocO5, odO5, .func (PySem.W.fnOf "picture" "Spans.picture" (defArgs sPicture) (defBody sPicture) (defScope sPicture) .none kVO5 dcO5 pmO5 anO5 cdO5 ctO5), slO5⟩)
    (cO5 : PySem.W.codeIn K cdO5 "Spans.picture" = true)
    (kO5 : PySem.W.keepIn K (.ref fO5) = true)
    (aO6 : PySem.W.findIn K (.ref CO) "how_may_lie" = some (some (.ref fO6)))
    (iO6 : PySem.W.isFn K (.ref fO6) = true)
    (lO6 : K.lookup fO6 = some ⟨ocO6, odO6, .func (PySem.W.fnOf "how_may_lie" "Spans.how_may_lie" (defArgs sHow) (defBody sHow) (defScope sHow) .none kVO6 dcO6 pmO6 anO6 cdO6 ctO6), slO6⟩)
    (cO6 : PySem.W.codeIn K cdO6 "Spans.how_may_lie" = true)
    (kO6 : PySem.W.keepIn K (.ref fO6) = true)
    (aO7 : PySem.W.findIn K (.ref CO) "sets_in_order" = some (some (.ref fO7)))
    (iO7 : PySem.W.isFn K (.ref fO7) = true)
    (lO7 : K.lookup fO7 = some ⟨ocO7, odO7, .func (PySem.W.fnOf "sets_in_order" "Spans.sets_in_order" (defArgs sOrd) (defBody sOrd) (defScope sOrd) .none kVO7 dcO7 pmO7 anO7 cdO7 ctO7), slO7⟩)
    (cO7 : PySem.W.codeIn K cdO7 "Spans.sets_in_order" = true)
    (kO7 : PySem.W.keepIn K (.ref fO7) = true)
    (aO8 : PySem.W.findIn K (.ref CO) "may" = some (some (.ref fO8)))
    (iO8 : PySem.W.isFn K (.ref fO8) = true)
    (lO8 : K.lookup fO8 = some ⟨ocO8, odO8, .func (PySem.W.fnOf "may" "Spans.may" (defArgs sMay) (defBody sMay) (defScope sMay) .none kVO8 dcO8 pmO8 anO8 cdO8 ctO8), slO8⟩)
    (cO8 : PySem.W.codeIn K cdO8 "Spans.may" = true)
    (kO8 : PySem.W.keepIn K (.ref fO8) = true)
    (aO9 : PySem.W.findIn K (.ref CO) "through" = some (some (.ref fO9)))
    (iO9 : PySem.W.isFn K (.ref fO9) = true)
    (lO9 : K.lookup fO9 = some ⟨ocO9, odO9, .func (PySem.W.fnOf "through" "Spans.through" (defArgs sThroughM) (defBody sThroughM) (defScope sThroughM) .none kVO9 dcO9 pmO9 anO9 cdO9 ctO9), slO9⟩)
    (cO9 : PySem.W.codeIn K cdO9 "Spans.through" = true)
    (kO9 : PySem.W.keepIn K (.ref fO9) = true)
    (aOa : PySem.W.findIn K (.ref CO) "turned" = some (some (.ref fOa)))
    (iOa : PySem.W.isFn K (.ref fOa) = true)
    (lOa : K.lookup fOa = some ⟨ocOa, odOa, .func (PySem.W.fnOf "turned" "Spans.turned" (defArgs sTurnedM) (defBody sTurnedM) (defScope sTurnedM) .none kVOa dcOa pmOa anOa cdOa ctOa), slOa⟩)
    (cOa : PySem.W.codeIn K cdOa "Spans.turned" = true)
    (kOa : PySem.W.keepIn K (.ref fOa) = true)
    (aOb : PySem.W.findIn K (.ref CO) "lies" = some (some (.ref fOb)))
    (iOb : PySem.W.isFn K (.ref fOb) = true)
    (lOb : K.lookup fOb = some ⟨ocOb, odOb, .func (PySem.W.fnOf "lies" "Spans.lies" (defArgs sLiesM) (defBody sLiesM) (defScope sLiesM) .none kVOb dcOb pmOb anOb cdOb ctOb), slOb⟩)
    (cOb : PySem.W.codeIn K cdOb "Spans.lies" = true)
    (kOb : PySem.W.keepIn K (.ref fOb) = true)
    (pgS : PySem.W.plainGet K CS Str.empty = true)
    (hdS : PySem.W.hasDictIn K CS = true)
    (poS : PySem.W.plainOver K CS = true)
    (saS : PySem.W.findIn K (.ref CS) "__setattr__" = some (some (.builtin "object.__setattr__")))
    (mkS : PySem.W.makesIn K CS = true)
    (kcS : PySem.W.keepIn K (.ref CS) = true)
    (pgO : PySem.W.plainGet K CO Str.empty = true)
    (hdO : PySem.W.hasDictIn K CO = true)
    (poO : PySem.W.plainOver K CO = true)
    (saO : PySem.W.findIn K (.ref CO) "__setattr__" = some (some (.builtin "object.__setattr__")))
    (mkO : PySem.W.makesIn K CO = true)
    (kcO : PySem.W.keepIn K (.ref CO) = true)
    (nS0 : PySem.W.findIn K (.ref CS) "sets" = some none)
    (nS1 : PySem.W.findIn K (.ref CS) "spans" = some none)
    (nS2 : PySem.W.findIn K (.ref CS) "rows" = some none)
    (nS3 : PySem.W.findIn K (.ref CS) "marks" = some none)
    (nS4 : PySem.W.findIn K (.ref CS) "left_out" = some none)
    (nO0 : PySem.W.findIn K (.ref CO) "count" = some none)
    (nO1 : PySem.W.findIn K (.ref CO) "sets" = some none)
    (nO2 : PySem.W.findIn K (.ref CO) "following" = some none)
    (yxLast : PySem.W.nsIn K mainGlobals "LAST_WAY" = some (some (.int 12 txLast)))
    (yxAll : PySem.W.nsIn K mainGlobals "ALL_WAYS" = some (some (.int 8191 txAll)))
    (yxRef : PySem.W.nsIn K mainGlobals "REFUSED" = some (some (.int (-22) txRef)))
    (yxNol : PySem.W.nsIn K mainGlobals "NO_LIST" = some (some (.int (-6) txNol)))
    (yx0 : PySem.W.nsIn K mainGlobals "BEGIN" = some (some (.int 0 tx0)))
    (yx1 : PySem.W.nsIn K mainGlobals "TELL" = some (some (.int 1 tx1)))
    (yx2 : PySem.W.nsIn K mainGlobals "FREE" = some (some (.int 2 tx2)))
    (yx3 : PySem.W.nsIn K mainGlobals "MANY" = some (some (.int 3 tx3)))
    (yx4 : PySem.W.nsIn K mainGlobals "PICTURE" = some (some (.int 4 tx4)))
    (yx5 : PySem.W.nsIn K mainGlobals "MAY" = some (some (.int 5 tx5)))
    (yx6 : PySem.W.nsIn K mainGlobals "THROUGH" = some (some (.int 6 tx6)))
    (yx7 : PySem.W.nsIn K mainGlobals "TURNED" = some (some (.int 7 tx7)))
    (zrange : PySem.W.nsIn K mainGlobals "range" = some none)
    (zlen : PySem.W.nsIn K mainGlobals "len" = some none)
    (zmin : PySem.W.nsIn K mainGlobals "min" = some none)
    (zmax : PySem.W.nsIn K mainGlobals "max" = some none)
    (zlist : PySem.W.nsIn K mainGlobals "list" = some none)
    (aD : PySem.W.nsIn K mainGlobals "WAY_BY_PLACES" = some (some (.ref dW)))
    (lD : K.lookup dW = some ⟨.type "dict", none, .dict #[⟨hs0, .ref b0, .int 0 tw0⟩, ⟨hs1, .ref b1, .int 1 tw1⟩, ⟨hs2, .ref b2, .int 2 tw2⟩, ⟨hs3, .ref b3, .int 3 tw3⟩, ⟨hs4, .ref b4, .int 4 tw4⟩, ⟨hs5, .ref b5, .int 5 tw5⟩, ⟨hs6, .ref b6, .int 6 tw6⟩, ⟨hs7, .ref b7, .int 7 tw7⟩, ⟨hs8, .ref b8, .int 8 tw8⟩, ⟨hs9, .ref b9, .int 9 tw9⟩, ⟨hs10, .ref b10, .int 10 tw10⟩, ⟨hs11, .ref b11, .int 11 tw11⟩, ⟨hs12, .ref b12, .int 12 tw12⟩] nW, #[]⟩)
    (hh : [hs0, hs1, hs2, hs3, hs4, hs5, hs6, hs7, hs8, hs9, hs10, hs11, hs12] = wayRows.map fun r => htup r.1 r.2.1)
    (lb0 : K.lookup b0 = some ⟨.type "tuple", ob0, .seq #[.int 0 tp0, .int 0 tq0] nb0, sb0⟩)
    (lb1 : K.lookup b1 = some ⟨.type "tuple", ob1, .seq #[.int 0 tp1, .int 1 tq1] nb1, sb1⟩)
    (lb2 : K.lookup b2 = some ⟨.type "tuple", ob2, .seq #[.int 0 tp2, .int 2 tq2] nb2, sb2⟩)
    (lb3 : K.lookup b3 = some ⟨.type "tuple", ob3, .seq #[.int 1 tp3, .int 2 tq3] nb3, sb3⟩)
    (lb4 : K.lookup b4 = some ⟨.type "tuple", ob4, .seq #[.int 2 tp4, .int 2 tq4] nb4, sb4⟩)
    (lb5 : K.lookup b5 = some ⟨.type "tuple", ob5, .seq #[.int 2 tp5, .int 3 tq5] nb5, sb5⟩)
    (lb6 : K.lookup b6 = some ⟨.type "tuple", ob6, .seq #[.int 1 tp6, .int 3 tq6] nb6, sb6⟩)
    (lb7 : K.lookup b7 = some ⟨.type "tuple", ob7, .seq #[.int 0 tp7, .int 3 tq7] nb7, sb7⟩)
    (lb8 : K.lookup b8 = some ⟨.type "tuple", ob8, .seq #[.int 0 tp8, .int 4 tq8] nb8, sb8⟩)
    (lb9 : K.lookup b9 = some ⟨.type "tuple", ob9, .seq #[.int 1 tp9, .int 4 tq9] nb9, sb9⟩)
    (lb10 : K.lookup b10 = some ⟨.type "tuple", ob10, .seq #[.int 2 tp10, .int 4 tq10] nb10, sb10⟩)
    (lb11 : K.lookup b11 = some ⟨.type "tuple", ob11, .seq #[.int 3 tp11, .int 4 tq11] nb11, sb11⟩)
    (lb12 : K.lookup b12 = some ⟨.type "tuple", ob12, .seq #[.int 4 tp12, .int 4 tq12] nb12, sb12⟩)
    (aV : PySem.W.nsIn K mainGlobals "GIVEN" = some (some (.ref gV)))
    (lV : K.lookup gV = some ⟨.type "tuple", oV, .seq #[.int 1 tv0, .int 3 tv1, .int 2 tv2, .int 0 tv3, .int 0 tv4, .int 2 tv5, .int 2 tv6, .int 1 tv7, .int 4 tv8] nV, sV⟩) :
    ∃ fd : FuncData, (∀ (s : Shared) (us : List Value), us.length = (["calls"] : List Str).length → BindsTo s fd ⟨us, []⟩ ((["calls"] : List Str).zip us)) ∧ ∀ base : Heap, K.In base → base.Ns mainGlobals mg → FnOk P w K mg base CX0 10 fa fd ["calls"] (spAns K) := by
  have e := hfa.symm.trans (PySem.W.mg_of X G aAs)
  cases e
  have FPl := fun_mk (st := sPlace) lPl cPl kPl
  have BPl := FPl.binds (ps := ["number", "span"]) fun _ _ _ _ _ _ us hl => match us, hl with | [_, _], _ => rfl
  have gPl := PySem.W.mg_of X G aPl
  have FBe := fun_mk (st := sBetween) lBe cBe kBe
  have BBe := FBe.binds (ps := ["one", "other"]) fun _ _ _ _ _ _ us hl => match us, hl with | [_, _], _ => rfl
  have gBe := PySem.W.mg_of X G aBe
  have FIn := fun_mk (st := sIn) lIn cIn kIn
  have BIn := FIn.binds (ps := ["ways"]) fun _ _ _ _ _ _ us hl => match us, hl with | [_], _ => rfl
  have gIn := PySem.W.mg_of X G aIn
  have FTu := fun_mk (st := sTurned) lTu cTu kTu
  have BTu := FTu.binds (ps := ["ways"]) fun _ _ _ _ _ _ us hl => match us, hl with | [_], _ => rfl
  have gTu := PySem.W.mg_of X G aTu
  have FWi := fun_mk (st := sWithin) lWi cWi kWi
  have BWi := FWi.binds (ps := ["last"]) fun _ _ _ _ _ _ us hl => match us, hl with | [_], _ => rfl
  have gWi := PySem.W.mg_of X G aWi
  have FAm := fun_mk (st := sAmong) lAm cAm kAm
  have BAm := FAm.binds (ps := ["spans"]) fun _ _ _ _ _ _ us hl => match us, hl with | [_], _ => rfl
  have gAm := PySem.W.mg_of X G aAm
  have FBh := fun_mk (st := sBehind) lBh cBh kBh
  have BBh := FBh.binds (ps := []) fun _ _ _ _ _ _ us hl => match us, hl with | [], _ => rfl
  have gBh := PySem.W.mg_of X G aBh
  have FTh := fun_mk (st := sThrough) lTh cTh kTh
  have BTh := FTh.binds (ps := ["first", "second", "following"]) fun _ _ _ _ _ _ us hl => match us, hl with | [_, _, _], _ => rfl
  have gTh := PySem.W.mg_of X G aTh
  have FMa := fun_mk (st := sMany) lMa cMa kMa
  have BMa := FMa.binds (ps := ["count", "sets", "following"]) fun _ _ _ _ _ _ us hl => match us, hl with | [_, _, _], _ => rfl
  have gMa := PySem.W.mg_of X G aMa
  have FIl := fun_mk (st := sInLists) lIl cIl kIl
  have BIl := FIl.binds (ps := ["count", "sets", "following"]) fun _ _ _ _ _ _ us hl => match us, hl with | [_, _, _], _ => rfl
  have gIl := PySem.W.mg_of X G aIl
  have FWt := fun_mk (st := sWith) lWt cWt kWt
  have BWt := FWt.binds (ps := ["way", "count", "sets", "following"]) fun _ _ _ _ _ _ us hl => match us, hl with | [_, _, _, _], _ => rfl
  have gWt := PySem.W.mg_of X G aWt
  have FMo := fun_mk (st := sMore) lMo cMo kMo
  have BMo := FMo.binds (ps := ["way", "other", "sets", "following"]) fun _ _ _ _ _ _ us hl => match us, hl with | [_, _, _, _], _ => rfl
  have gMo := PySem.W.mg_of X G aMo
  have FBt := fun_mk (st := sBetw) lBt cBt kBt
  have BBt := FBt.binds (ps := ["thirds", "fourths", "ways", "following"]) fun _ _ _ _ _ _ us hl => match us, hl with | [_, _, _, _], _ => rfl
  have gBt := PySem.W.mg_of X G aBt
  have FLe := fun_mk (st := sLeft) lLe cLe kLe
  have BLe := FLe.binds (ps := ["last"]) fun _ _ _ _ _ _ us hl => match us, hl with | [_], _ => rfl
  have gLe := PySem.W.mg_of X G aLe
  have FFi := fun_mk (st := sFirst) lFi cFi kFi
  have BFi := FFi.binds (ps := ["count", "sets"]) fun _ _ _ _ _ _ us hl => match us, hl with | [_, _], _ => rfl
  have gFi := PySem.W.mg_of X G aFi
  have FOr := fun_mk (st := sOrder) lOr cOr kOr
  have BOr := FOr.binds (ps := ["i", "j"]) fun _ _ _ _ _ _ us hl => match us, hl with | [_, _], _ => rfl
  have gOr := PySem.W.mg_of X G aOr
  have FAn := fun_mk (st := sAnswer) lAn cAn kAn
  have BAn := FAn.binds (ps := ["spans", "call", "given"]) fun _ _ _ _ _ _ us hl => match us, hl with | [_, _, _], _ => rfl
  have gAn := PySem.W.mg_of X G aAn
  have FAs := fun_mk (st := sAns) lAs cAs kAs
  have BAs := FAs.binds (ps := ["calls"]) fun _ _ _ _ _ _ us hl => match us, hl with | [_], _ => rfl
  have gAs := PySem.W.mg_of X G aAs
  have FSI := fun_mk (st := sSInit) lSI cSI kSI
  have BSI := FSI.binds (ps := ["self", "count", "sets"]) fun _ _ _ _ _ _ us hl => match us, hl with | [_, _, _], _ => rfl
  have FSN := fun_mk (st := sNarrow) lSN cSN kSN
  have BSN := FSN.binds (ps := ["self", "chosen", "number", "choices"]) fun _ _ _ _ _ _ us hl => match us, hl with | [_, _, _, _], _ => rfl
  have MSN : Meth K CS "narrowed" fSN := ⟨aSN, iSN, kSN⟩
  have FSG := fun_mk (st := sGrown) lSG cSG kSG
  have BSG := FSG.binds (ps := ["self", "taken", "choices", "numbers"]) fun _ _ _ _ _ _ us hl => match us, hl with | [_, _, _, _], _ => rfl
  have MSG : Meth K CS "grown" fSG := ⟨aSG, iSG, kSG⟩
  have FOI := fun_mk (st := sOInit) lOI cOI kOI
  have BOI := FOI.binds (ps := ["self"]) fun _ _ _ _ _ _ us hl => match us, hl with | [_], _ => rfl
  have FO0 := fun_mk (st := sBegin) lO0 cO0 kO0
  have BO0 := FO0.binds (ps := ["self", "count"]) fun _ _ _ _ _ _ us hl => match us, hl with | [_, _], _ => rfl
  have MO0 : Meth K CO "begin" fO0 := ⟨aO0, iO0, kO0⟩
  have FO1 := fun_mk (st := sTwo) lO1 cO1 kO1
  have BO1 := FO1.binds (ps := ["self", "i", "j"]) fun _ _ _ _ _ _ us hl => match us, hl with | [_, _, _], _ => rfl
  have MO1 : Meth K CO "are_two" fO1 := ⟨aO1, iO1, kO1⟩
  have FO2 := fun_mk (st := sTell) lO2 cO2 kO2
  have BO2 := FO2.binds (ps := ["self", "i", "j", "ways"]) fun _ _ _ _ _ _ us hl => match us, hl with | [_, _, _, _], _ => rfl
  have MO2 : Meth K CO "tell" fO2 := ⟨aO2, iO2, kO2⟩
  have FO3 := fun_mk (st := sFree) lO3 cO3 kO3
  have BO3 := FO3.binds (ps := ["self", "i", "j"]) fun _ _ _ _ _ _ us hl => match us, hl with | [_, _, _], _ => rfl
  have MO3 : Meth K CO "free" fO3 := ⟨aO3, iO3, kO3⟩
  have FO4 := fun_mk (st := sManyM) lO4 cO4 kO4
  have BO4 := FO4.binds (ps := ["self"]) fun _ _ _ _ _ _ us hl => match us, hl with | [_], _ => rfl
  have MO4 : Meth K CO "many" fO4 := ⟨aO4, iO4, kO4⟩
  have FO5 := fun_mk (st := sPicture) lO5 cO5 kO5
  have BO5 := FO5.binds (ps := ["self"]) fun _ _ _ _ _ _ us hl => match us, hl with | [_], _ => rfl
  have MO5 : Meth K CO "picture" fO5 := ⟨aO5, iO5, kO5⟩
  have FO6 := fun_mk (st := sHow) lO6 cO6 kO6
  have BO6 := FO6.binds (ps := ["self", "i", "j"]) fun _ _ _ _ _ _ us hl => match us, hl with | [_, _, _], _ => rfl
  have MO6 : Meth K CO "how_may_lie" fO6 := ⟨aO6, iO6, kO6⟩
  have FO7 := fun_mk (st := sOrd) lO7 cO7 kO7
  have BO7 := FO7.binds (ps := ["self", "order"]) fun _ _ _ _ _ _ us hl => match us, hl with | [_, _], _ => rfl
  have MO7 : Meth K CO "sets_in_order" fO7 := ⟨aO7, iO7, kO7⟩
  have FO8 := fun_mk (st := sMay) lO8 cO8 kO8
  have BO8 := FO8.binds (ps := ["self", "i", "j"]) fun _ _ _ _ _ _ us hl => match us, hl with | [_, _, _], _ => rfl
  have MO8 : Meth K CO "may" fO8 := ⟨aO8, iO8, kO8⟩
  have FO9 := fun_mk (st := sThroughM) lO9 cO9 kO9
  have BO9 := FO9.binds (ps := ["self", "first", "second"]) fun _ _ _ _ _ _ us hl => match us, hl with | [_, _, _], _ => rfl
  have MO9 : Meth K CO "through" fO9 := ⟨aO9, iO9, kO9⟩
  have FOa := fun_mk (st := sTurnedM) lOa cOa kOa
  have BOa := FOa.binds (ps := ["self", "ways"]) fun _ _ _ _ _ _ us hl => match us, hl with | [_, _], _ => rfl
  have MOa : Meth K CO "turned" fOa := ⟨aOa, iOa, kOa⟩
  have FOb := fun_mk (st := sLiesM) lOb cOb kOb
  have BOb := FOb.binds (ps := ["self", "one", "other"]) fun _ _ _ _ _ _ us hl => match us, hl with | [_, _, _], _ => rfl
  have MOb : Meth K CO "lies" fOb := ⟨aOb, iOb, kOb⟩
  have M : Glo mg := ⟨⟨_, PySem.W.mg_of X G yxLast⟩, ⟨_, PySem.W.mg_of X G yxAll⟩, PySem.W.mg_none_of X G zrange, PySem.W.mg_none_of X G zlen, PySem.W.mg_none_of X G zmin, PySem.W.mg_none_of X G zmax, PySem.W.mg_none_of X G zlist⟩
  have TS : TxtS K CS := ⟨⟨pgS, hdS, poS, saS⟩, nS0, nS1, nS2, nS3, nS4⟩
  have TO : TxtO K mg CO := ⟨⟨pgO, hdO, poO, saO⟩, nO0, nO1, nO2, ⟨_, PySem.W.mg_of X G yxRef⟩, ⟨_, PySem.W.mg_of X G yxNol⟩⟩
  have Nm : Nums mg := ⟨⟨_, PySem.W.mg_of X G yx0⟩, ⟨_, PySem.W.mg_of X G yx1⟩, ⟨_, PySem.W.mg_of X G yx2⟩, ⟨_, PySem.W.mg_of X G yx3⟩, ⟨_, PySem.W.mg_of X G yx4⟩, ⟨_, PySem.W.mg_of X G yx5⟩, ⟨_, PySem.W.mg_of X G yx6⟩, ⟨_, PySem.W.mg_of X G yx7⟩⟩
  have TK : KTab K dW wayAt := ktab_mk lD hh (keyAt_mk lb0) (keyAt_mk lb1) (keyAt_mk lb2) (keyAt_mk lb3) (keyAt_mk lb4) (keyAt_mk lb5) (keyAt_mk lb6) (keyAt_mk lb7) (keyAt_mk lb8) (keyAt_mk lb9) (keyAt_mk lb10) (keyAt_mk lb11) (keyAt_mk lb12)
  have hG : ∀ H, SqT K H gV (given.map V.int) := fun H => .inr ⟨_, _, _, lV, rfl, rfl, (by show 9 ≤ sizeLine; decide), .cons ⟨tv0, rfl⟩ (.cons ⟨tv1, rfl⟩ (.cons ⟨tv2, rfl⟩ (.cons ⟨tv3, rfl⟩ (.cons ⟨tv4, rfl⟩ (.cons ⟨tv5, rfl⟩ (.cons ⟨tv6, rfl⟩ (.cons ⟨tv7, rfl⟩ (.cons ⟨tv8, rfl⟩ (.nil)))))))))⟩
  refine ⟨PySem.W.fnOf "answers" "answers" (defArgs sAns) (defBody sAns) (defScope sAns) .none kVAs dcAs pmAs anAs cdAs ctAs, fun s us hu => match us, hu with | [_], _ => .of_eq rfl, fun base _ _ => ?_⟩
  have PBe : FnOk P w K mg base CX0 2 fBe _ _ (spBetween K) := ok_between FBe FPl BPl gPl (PySem.W.mg_of X G aD) TK
  have PIn : FnOk P w K mg base CX0 1 fIn _ _ spIn := ok_in FIn M
  have PTu : FnOk P w K mg base CX0 2 fTu _ _ spTurned := ok_turned FTu FIn BIn gIn M
  have PWi : FnOk P w K mg base CX0 1 fWi _ _ spWithin := ok_within FWi M
  have PAm : FnOk P w K mg base CX0 3 fAm _ _ (spAmong K) := ok_among FAm PBe kBe BBe gBe
  have PBh : FnOk P w K mg base CX0 4 fBh _ _ spBehind := ok_behind FBh PAm kAm BAm gAm PWi kWi BWi gWi M
  have PTh : FnOk P w K mg base CX0 2 fTh _ _ spThrough := ok_through FTh PIn kIn BIn gIn
  have PMo : FnOk P w K mg base CX0 2 fMo _ _ spMore := ok_more FMo PIn kIn BIn gIn
  have PBt : FnOk P w K mg base CX0 2 fBt _ _ spBetw := ok_betw FBt PIn kIn BIn gIn M
  have PWt : FnOk P w K mg base CX0 3 fWt _ _ spWith := ok_with FWt PMo kMo BMo gMo PBt kBt BBt gBt M
  have PMa : FnOk P w K mg base CX0 4 fMa _ _ spMany := ok_many FMa PIn kIn BIn gIn PWt kWt BWt gWt
  have PIl : FnOk P w K mg base CX0 4 fIl _ _ spInLists := ok_inlists FIl PIn kIn BIn gIn PWt kWt BWt gWt
  have PLe : FnOk P w K mg base CX0 1 fLe _ _ spLeft := ok_left FLe M
  have POr : FnOk P w K mg base CX0 1 fOr _ _ spOrder := ok_order FOr M
  have bWi : FnB P w K mg base "spans_within" 1 ["last"] spWithin := ⟨fWi, _, gWi, kWi, BWi, PWi⟩
  have bAm : FnB P w K mg base "ways_among" 3 ["spans"] (spAmong K) := ⟨fAm, _, gAm, kAm, BAm, PAm⟩
  have bLe : FnB P w K mg base "left_out_by_numbers" 1 ["last"] spLeft := ⟨fLe, _, gLe, kLe, BLe, PLe⟩
  have bBh : FnB P w K mg base "ways_one_behind_another" 4 [] spBehind := ⟨fBh, _, gBh, kBh, BBh, PBh⟩
  have bOr : FnB P w K mg base "in_order" 1 ["i", "j"] spOrder := ⟨fOr, _, gOr, kOr, BOr, POr⟩
  have bTu : FnB P w K mg base "turned_ways" 2 ["ways"] spTurned := ⟨fTu, _, gTu, kTu, BTu, PTu⟩
  have bMa : FnB P w K mg base "how_many_lists" 4 ["count", "sets", "following"] spMany := ⟨fMa, _, gMa, kMa, BMa, PMa⟩
  have bIl : FnB P w K mg base "ways_in_lists" 4 ["count", "sets", "following"] spInLists := ⟨fIl, _, gIl, kIl, BIl, PIl⟩
  have bTh : FnB P w K mg base "ways_through" 2 ["first", "second", "following"] spThrough := ⟨fTh, _, gTh, kTh, BTh, PTh⟩
  have bBe : FnB P w K mg base "way_between" 2 ["one", "other"] (spBetween K) := ⟨fBe, _, gBe, kBe, BBe, PBe⟩
  have PSI : FnOk P w K mg base CX0 4 fSI _ _ (spSInit CS) := ok_sinit FSI TS bWi bAm bLe
  have bSN : MtB P w K mg base CS "narrowed" 1 ["self", "chosen", "number", "choices"] (spNarrow CS) := ⟨fSN, _, MSN, BSN, ok_narrow FSN TS M⟩
  have PSG : ∀ k, FnOk P w K mg base CX0 (k + 2) fSG _ _ (spGrown CS k) := ok_grown FSG TS M BSG MSG bSN
  have PFi : FnOk P w K mg base CX0 7 fFi _ _ spFirst := ok_first FFi TS M (PySem.W.mg_of X G aCS) ⟨mkS, aSI, iSI, kcS⟩ PSI BSI MSG BSG PSG
  have bFi : FnB P w K mg base "first_list" 7 ["count", "sets"] spFirst := ⟨fFi, _, gFi, kFi, BFi, PFi⟩
  have b1 : MtB P w K mg base CO "are_two" 1 ["self", "i", "j"] (spTwo CO) := ⟨fO1, _, MO1, BO1, ok_two FO1 TO⟩
  have b0 : MtB P w K mg base CO "begin" 1 ["self", "count"] (spBegin CO) := ⟨fO0, _, MO0, BO0, ok_begin FO0 TO M⟩
  have b2 : MtB P w K mg base CO "tell" 3 ["self", "i", "j", "ways"] (spTell CO) := ⟨fO2, _, MO2, BO2, ok_tell FO2 TO M b1 bOr bTu⟩
  have b3 : MtB P w K mg base CO "free" 2 ["self", "i", "j"] (spFree CO) := ⟨fO3, _, MO3, BO3, ok_free FO3 TO M b1 bOr⟩
  have b4 : MtB P w K mg base CO "many" 5 ["self"] (spManyM CO) := ⟨fO4, _, MO4, BO4, ok_manym FO4 TO bMa⟩
  have b5 : MtB P w K mg base CO "picture" 8 ["self"] (spPicture CO) := ⟨fO5, _, MO5, BO5, ok_picture FO5 TO b4 bFi⟩
  have b6 : MtB P w K mg base CO "how_may_lie" 3 ["self", "i", "j"] (spHow CO) := ⟨fO6, _, MO6, BO6, ok_how FO6 TO bTu⟩
  have b7 : MtB P w K mg base CO "sets_in_order" 4 ["self", "order"] (spOrd CO) := ⟨fO7, _, MO7, BO7, ok_ord FO7 TO M b6⟩
  have b8 : MtB P w K mg base CO "may" 5 ["self", "i", "j"] (spMay CO) := ⟨fO8, _, MO8, BO8, ok_may FO8 TO M b1 b7 bIl⟩
  have b9 : MtB P w K mg base CO "through" 3 ["self", "first", "second"] (spThroughM CO) := ⟨fO9, _, MO9, BO9, ok_throughm FO9 TO M bTh⟩
  have ba : MtB P w K mg base CO "turned" 3 ["self", "ways"] (spTurnedM CO) := ⟨fOa, _, MOa, BOa, ok_turnedm FOa TO M bTu⟩
  have bb : MtB P w K mg base CO "lies" 3 ["self", "one", "other"] (spLiesM CO) := ⟨fOb, _, MOb, BOb, ok_liesm FOb TO bBe⟩
  have bAn : FnB P w K mg base "answer_of" 9 ["spans", "call", "given"] (spAnswer CO) := ⟨fAn, _, gAn, kAn, BAn, ok_answer FAn TO Nm b0 b2 b3 b4 b5 b8 b9 ba bb⟩
  exact ok_ans FAs M (PySem.W.mg_of X G aCO) ⟨mkO, aOI, iOI, kcO⟩ (ok_oinit FOI TO bBh) BOI (PySem.W.mg_of X G aV) hG bAn
end Sv
open PySem PySem.W PyProof.Rows
set_option maxRecDepth 100000 in
set_option maxHeartbeats 40000000 in
theorem PySem.Challenge.cw_spanwaysdesk_s01_answers_holds : PySem.Challenge.rw_spanwaysdesk_s01_answers.Holds := by
  w_on; k_headS; (case hw => exact ⟨[.list [.int 0, .int 2]], by decide +kernel, by decide +kernel⟩)
  k_fillS
  refine L2.walk_specK (r := PySem.Challenge.rw_spanwaysdesk_s01_answers) (k := 10) (CX := L2.CX0) (ps := ["calls"]) (sp := Sv.spAns) (by decide +kernel) rfl rfl ⟨rfl, by decide, by decide⟩ (fun w h Y => PySem.W.kIn_of Y) ?F ?S (fun _ _ _ _ z => z)
  case F =>
    intro w mg fa h Y KX G hmg
    refine' Sv.all_mk KX G hmg ?aCS ?aCO ?aPl ?lPl ?cPl ?kPl ?aBe ?lBe ?cBe ?kBe ?aIn ?lIn ?cIn ?kIn ?aTu ?lTu ?cTu ?kTu ?aWi ?lWi ?cWi ?kWi ?aAm ?lAm ?cAm ?kAm ?aBh ?lBh ?cBh ?kBh ?aTh ?lTh ?cTh ?kTh ?aMa ?lMa ?cMa ?kMa ?aIl ?lIl ?cIl ?kIl ?aWt ?lWt ?cWt ?kWt ?aMo ?lMo ?cMo ?kMo ?aBt ?lBt ?cBt ?kBt ?aLe ?lLe ?cLe ?kLe ?aFi ?lFi ?cFi ?kFi ?aOr ?lOr ?cOr ?kOr ?aAn ?lAn ?cAn ?kAn ?aAs ?lAs ?cAs ?kAs ?aSI ?iSI ?lSI ?cSI ?kSI ?aSN ?iSN ?lSN ?cSN ?kSN ?aSG ?iSG ?lSG ?cSG ?kSG ?aOI ?iOI ?lOI ?cOI ?kOI ?aO0 ?iO0 ?lO0 ?cO0 ?kO0 ?aO1 ?iO1 ?lO1 ?cO1 ?kO1 ?aO2 ?iO2 ?lO2 ?cO2 ?kO2 ?aO3 ?iO3 ?lO3 ?cO3 ?kO3 ?aO4 ?iO4 ?lO4 ?cO4 ?kO4 ?aO5 ?iO5 ?lO5 ?cO5 ?kO5 ?aO6 ?iO6 ?lO6 ?cO6 ?kO6 ?aO7 ?iO7 ?lO7 ?cO7 ?kO7 ?aO8 ?iO8 ?lO8 ?cO8 ?kO8 ?aO9 ?iO9 ?lO9 ?cO9 ?kO9 ?aOa ?iOa ?lOa ?cOa ?kOa ?aOb ?iOb ?lOb ?cOb ?kOb ?pgS ?hdS ?poS ?saS ?mkS ?kcS ?pgO ?hdO ?poO ?saO ?mkO ?kcO ?nS0 ?nS1 ?nS2 ?nS3 ?nS4 ?nO0 ?nO1 ?nO2 ?yxLast ?yxAll ?yxRef ?yxNol ?yx0 ?yx1 ?yx2 ?yx3 ?yx4 ?yx5 ?yx6 ?yx7 ?zrange ?zlen ?zmin ?zmax ?zlist ?aD ?lD ?hh ?lb0 ?lb1 ?lb2 ?lb3 ?lb4 ?lb5 ?lb6 ?lb7 ?lb8 ?lb9 ?lb10 ?lb11 ?lb12 ?aV ?lV
    (case aCS => k_is)
    (case aCO => k_is)
    (case aPl => k_is)
    (case lPl => k_is)
    (case cPl => k_is)
    (case kPl => k_is)
    (case aBe => k_is)
    (case lBe => k_is)
    (case cBe => k_is)
    (case kBe => k_is)
    (case aIn => k_is)
    (case lIn => k_is)
    (case cIn => k_is)
    (case kIn => k_is)
    (case aTu => k_is)
    (case lTu => k_is)
    (case cTu => k_is)
    (case kTu => k_is)
    (case aWi => k_is)
    (case lWi => k_is)
    (case cWi => k_is)
    (case kWi => k_is)
    (case aAm => k_is)
    (case lAm => k_is)
    (case cAm => k_is)
    (case kAm => k_is)
    (case aBh => k_is)
    (case lBh => k_is)
    (case cBh => k_is)
    (case kBh => k_is)
    (case aTh => k_is)
    (case lTh => k_is)
    (case cTh => k_is)
    (case kTh => k_is)
    (case aMa => k_is)
    (case lMa => k_is)
    (case cMa => k_is)
    (case kMa => k_is)
    (case aIl => k_is)
    (case lIl => k_is)
    (case cIl => k_is)
    (case kIl => k_is)
    (case aWt => k_is)
    (case lWt => k_is)
    (case cWt => k_is)
    (case kWt => k_is)
    (case aMo => k_is)
    (case lMo => k_is)
    (case cMo => k_is)
    (case kMo => k_is)
    (case aBt => k_is)
    (case lBt => k_is)
    (case cBt => k_is)
    (case kBt => k_is)
    (case aLe => k_is)
    (case lLe => k_is)
    (case cLe => k_is)
    (case kLe => k_is)
    (case aFi => k_is)
    (case lFi => k_is)
    (case cFi => k_is)
    (case kFi => k_is)
    (case aOr => k_is)
    (case lOr => k_is)
    (case cOr => k_is)
    (case kOr => k_is)
    (case aAn => k_is)
    (case lAn => k_is)
    (case cAn => k_is)
    (case kAn => k_is)
    (case aAs => k_is)
    (case lAs => k_is)
    (case cAs => k_is)
    (case kAs => k_is)
    (case aSI => k_is)
    (case iSI => k_is)
    (case lSI => k_is)
    (case cSI => k_is)
    (case kSI => k_is)
    (case aSN => k_is)
    (case iSN => k_is)
    (case lSN => k_is)
    (case cSN => k_is)
    (case kSN => k_is)
    (case aSG => k_is)
    (case iSG => k_is)
    (case lSG => k_is)
    (case cSG => k_is)
    (case kSG => k_is)
    (case aOI => k_is)
    (case iOI => k_is)
    (case lOI => k_is)
    (case cOI => k_is)
    (case kOI => k_is)
    (case aO0 => k_is)
    (case iO0 => k_is)
    (case lO0 => k_is)
    (case cO0 => k_is)
    (case kO0 => k_is)
    (case aO1 => k_is)
    (case iO1 => k_is)
    (case lO1 => k_is)
    (case cO1 => k_is)
    (case kO1 => k_is)
    (case aO2 => k_is)
    (case iO2 => k_is)
    (case lO2 => k_is)
    (case cO2 => k_is)
    (case kO2 => k_is)
    (case aO3 => k_is)
    (case iO3 => k_is)
    (case lO3 => k_is)
    (case cO3 => k_is)
    (case kO3 => k_is)
    (case aO4 => k_is)
    (case iO4 => k_is)
    (case lO4 => k_is)
    (case cO4 => k_is)
    (case kO4 => k_is)
    (case aO5 => k_is)
    (case iO5 => k_is)
    (case lO5 => k_is)
    (case cO5 => k_is)
    (case kO5 => k_is)
    (case aO6 => k_is)
    (case iO6 => k_is)
    (case lO6 => k_is)
    (case cO6 => k_is)
    (case kO6 => k_is)
    (case aO7 => k_is)
    (case iO7 => k_is)
    (case lO7 => k_is)
    (case cO7 => k_is)
    (case kO7 => k_is)
    (case aO8 => k_is)
    (case iO8 => k_is)
    (case lO8 => k_is)
    (case cO8 => k_is)
    (case kO8 => k_is)
    (case aO9 => k_is)
    (case iO9 => k_is)
    (case lO9 => k_is)
    (case cO9 => k_is)
    (case kO9 => k_is)
    (case aOa => k_is)
    (case iOa => k_is)
    (case lOa => k_is)
    (case cOa => k_is)
    (case kOa => k_is)
    (case aOb => k_is)
    (case iOb => k_is)
    (case lOb => k_is)
    (case cOb => k_is)
    (case kOb => k_is)
    (case pgS => k_is)
    (case hdS => k_is)
    (case poS => k_is)
    (case saS => k_is)
    (case mkS => k_is)
    (case kcS => k_is)
    (case pgO => k_is)
    (case hdO => k_is)
    (case poO => k_is)
    (case saO => k_is)
    (case mkO => k_is)
    (case kcO => k_is)
    (case nS0 => k_is)
    (case nS1 => k_is)
    (case nS2 => k_is)
    (case nS3 => k_is)
    (case nS4 => k_is)
    (case nO0 => k_is)
    (case nO1 => k_is)
    (case nO2 => k_is)
    (case yxLast => k_is)
    (case yxAll => k_is)
    (case yxRef => k_is)
    (case yxNol => k_is)
    (case yx0 => k_is)
    (case yx1 => k_is)
    (case yx2 => k_is)
    (case yx3 => k_is)
    (case yx4 => k_is)
    (case yx5 => k_is)
    (case yx6 => k_is)
    (case yx7 => k_is)
    (case zrange => k_is)
    (case zlen => k_is)
    (case zmin => k_is)
    (case zmax => k_is)
    (case zlist => k_is)
    (case aD => k_is)
    (case lD => k_is)
    (case hh => decide +kernel)
    (case lb0 => k_is)
    (case lb1 => k_is)
    (case lb2 => k_is)
    (case lb3 => k_is)
    (case lb4 => k_is)
    (case lb5 => k_is)
    (case lb6 => k_is)
    (case lb7 => k_is)
    (case lb8 => k_is)
    (case lb9 => k_is)
    (case lb10 => k_is)
    (case lb11 => k_is)
    (case lb12 => k_is)
    (case aV => k_is)
    (case lV => k_is)
  case S =>
    intro K H xs a hO hwi hask hx
    cases hx with
    | cons h1 h2 =>
      cases h2
      cases h1 with
      | lst hs ha =>
        have e := L2.ints_dw a.1 _ ha
        subst e
        have q : ((Codec.inLen 0 30000 a.1 && a.1.all (Codec.inInt (-2147483648) 4294967295)) && true) = true := hwi
        rw [Bool.and_eq_true, Bool.and_eq_true] at q
        exact ⟨_, a.1, rfl, hs, (Codec.inNat_iff.mp q.1.1).2, hask, fun H' p hp => .lst (L2.SqL.of hp) (L2.dw_ints _)⟩
