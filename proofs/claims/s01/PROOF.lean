import PyProof.Rows.All
import Wide.All
import OpenK.AllK
import Wide.FinOn
import Open.SpecLaws
import KE.OsHead
import KE.OsGo
import HandS.ForSpec
import HandS.Comp
import HandS.TupAny
import PySem.Challenge.RW_layercosts_s01_answers
set_option maxRecDepth 100000
/-! The mathematics of the layer costs, over the specification alone. -/
namespace LC
open Kqi5

/-! ### likeness and cost -/
def sgn (b : Bool) : Int := if b then 1 else -1
/-- the first i steps' likeness to those k on -/
def likeTo (w : List Nat) (k : Nat) : Nat → Int
  | 0 => 0
  | i + 1 => likeTo w k i + (if at_ w i = stepAt w (i + k) then 1 else -1)
def like (w : List Nat) (k : Nat) : Int := likeTo w k w.length
theorem pair_mul (j : Int) (x y : Nat) : pair j x y = j * (if x = y then 1 else -1) := by
  unfold pair
  by_cases h : x = y
  · rw [if_pos h, if_pos h, Int.mul_one]
  · rw [if_neg h, if_neg h, Int.mul_neg, Int.mul_one]
theorem cost_to (c : Costs) (w : List Nat) : ∀ i, ((List.range i).map fun i => pair c.one (at_ w i) (stepAt w (i + 1)) + pair c.two (at_ w i) (stepAt w (i + 2)) + pair c.three (at_ w i) (stepAt w (i + 3))).foldl (· + ·) 0 = c.one * likeTo w 1 i + c.two * likeTo w 2 i + c.three * likeTo w 3 i
  | 0 => by
    show (0 : Int) = c.one * 0 + c.two * 0 + c.three * 0
    omega
  | i + 1 => by
    rw [List.range_succ, List.map_append, List.foldl_append, cost_to c w i]
    show c.one * likeTo w 1 i + c.two * likeTo w 2 i + c.three * likeTo w 3 i + (pair c.one (at_ w i) (stepAt w (i + 1)) + pair c.two (at_ w i) (stepAt w (i + 2)) + pair c.three (at_ w i) (stepAt w (i + 3))) = _
    show _ = c.one * (likeTo w 1 i + (if at_ w i = stepAt w (i + 1) then 1 else -1)) + c.two * (likeTo w 2 i + (if at_ w i = stepAt w (i + 2) then 1 else -1)) + c.three * (likeTo w 3 i + (if at_ w i = stepAt w (i + 3) then 1 else -1))
    rw [pair_mul, pair_mul, pair_mul, Int.mul_add, Int.mul_add, Int.mul_add]
    omega
theorem cost_like (c : Costs) (w : List Nat) : cost c w = c.one * like w 1 + c.two * like w 2 + c.three * like w 3 := cost_to c w w.length
theorem likeTo_bound (w : List Nat) (k : Nat) : ∀ (i : Nat), -(i : Int) ≤ likeTo w k i ∧ likeTo w k i ≤ (i : Int)
  | 0 => ⟨Int.le_refl _, Int.le_refl _⟩
  | i + 1 => by
    have h := likeTo_bound w k i
    show -((i + 1 : Nat) : Int) ≤ likeTo w k i + (if at_ w i = stepAt w (i + k) then 1 else -1) ∧ likeTo w k i + (if at_ w i = stepAt w (i + k) then 1 else -1) ≤ ((i + 1 : Nat) : Int)
    split <;> omega
theorem like_bound (w : List Nat) (k : Nat) : -(w.length : Int) ≤ like w k ∧ like w k ≤ (w.length : Int) := likeTo_bound w k _
/-- the costs are such as may be set -/
structure Cb (c : Costs) : Prop where
  a1 : -100 ≤ c.one
  a2 : c.one ≤ 100
  b1 : -100 ≤ c.two
  b2 : c.two ≤ 100
  d1 : -100 ≤ c.three
  d2 : c.three ≤ 100
theorem mul_bound {a x : Int} {n : Nat} (a1 : -100 ≤ a) (a2 : a ≤ 100) (h1 : -(n : Int) ≤ x) (h2 : x ≤ n) : -(100 * (n : Int)) ≤ a * x ∧ a * x ≤ 100 * n := by
  have na : a.natAbs ≤ 100 := by omega
  have nx : x.natAbs ≤ n := by omega
  have h : (a * x).natAbs ≤ 100 * n := by
    rw [Int.natAbs_mul]
    exact Nat.mul_le_mul na nx
  omega
theorem cost_bound {c : Costs} (h : Cb c) (w : List Nat) : -(300 * (w.length : Int)) ≤ cost c w ∧ cost c w ≤ 300 * (w.length : Int) := by
  rw [cost_like]
  have l1 := like_bound w 1
  have l2 := like_bound w 2
  have l3 := like_bound w 3
  have m1 := mul_bound h.a1 h.a2 l1.1 l1.2
  have m2 := mul_bound h.b1 h.b2 l2.1 l2.2
  have m3 := mul_bound h.d1 h.d2 l3.1 l3.2
  omega

/-! ### the mean -/
/-- the greatest common divisor by rests, as the program has it -/
theorem gcd_step (a b : Nat) : Nat.gcd a b = Nat.gcd b (a % b) := by
  rw [Nat.gcd_comm a b, Nat.gcd_rec b a, Nat.gcd_comm]
theorem fraction_is (a : Int) {b : Nat} (hb : 0 < b) : fraction a b = [a / (Nat.gcd a.natAbs b : Int), (b : Int) / (Nat.gcd a.natAbs b : Int)] := by
  unfold fraction
  by_cases h : a = 0
  · rw [if_pos h, h]
    have e : Nat.gcd (0 : Int).natAbs b = b := Nat.gcd_zero_left b
    rw [e, Int.zero_ediv, Int.ediv_self (by omega)]
  · rw [if_neg h]
/-- what a mean is: its two numbers, times their common part, are the cost and the number of steps -/
structure Fr (a : Int) (b : Nat) (x y : Int) : Prop where
  ex : ∃ g : Int, 0 < g ∧ a = x * g ∧ (b : Int) = y * g
  pos : 0 < y
  low : y ≤ b
theorem fr_is (a : Int) {b : Nat} (hb : 0 < b) : ∃ x y, fraction a b = [x, y] ∧ Fr a b x y := by
  refine ⟨_, _, fraction_is a hb, ?_⟩
  have gp : 0 < Nat.gcd a.natAbs b := Nat.gcd_pos_of_pos_right _ hb
  have d1 : ((Nat.gcd a.natAbs b : Nat) : Int) ∣ a := Int.ofNat_dvd_left.mpr (Nat.gcd_dvd_left _ _)
  have d2 : ((Nat.gcd a.natAbs b : Nat) : Int) ∣ (b : Int) := Int.natCast_dvd_natCast.mpr (Nat.gcd_dvd_right _ _)
  have e2 := Int.ediv_mul_cancel d2
  have p2 : 0 < (b : Int) / (Nat.gcd a.natAbs b : Int) := Int.ediv_pos_of_pos_of_dvd (by omega) (by omega) d2
  refine ⟨⟨_, Int.natCast_pos.mpr gp, (Int.ediv_mul_cancel d1).symm, e2.symm⟩, p2, ?_⟩
  exact Int.ediv_le_self _ (by omega)
theorem Fr.lt_iff {a a' : Int} {b b' : Nat} {x y x' y' : Int} (F : Fr a b x y) (F' : Fr a' b' x' y') : x * y' < x' * y ↔ a * (b' : Int) < a' * (b : Int) := by
  obtain ⟨g, hg, e1, e2⟩ := F.ex
  obtain ⟨g', hg', e1', e2'⟩ := F'.ex
  have q1 : a * (b' : Int) = x * y' * (g * g') := by
    rw [e1, e2']
    simp only [Int.mul_comm, Int.mul_left_comm]
  have q2 : a' * (b : Int) = x' * y * (g * g') := by
    rw [e1', e2]
    simp only [Int.mul_comm, Int.mul_left_comm]
  rw [q1, q2]
  have hp : 0 < g * g' := Int.mul_pos hg hg'
  exact ⟨fun h => Int.mul_lt_mul_of_pos_right h hp, fun h => Int.lt_of_mul_lt_mul_right h (Int.le_of_lt hp)⟩
/-- two means that are alike are the same two numbers -/
theorem fraction_eq {a a' : Int} {b b' : Nat} (hb : 0 < b) (hb' : 0 < b') : fraction a b = fraction a' b' ↔ a * (b' : Int) = a' * (b : Int) := by
  constructor
  · intro h
    obtain ⟨x, y, e, F⟩ := fr_is a hb
    obtain ⟨x', y', e', F'⟩ := fr_is a' hb'
    rw [e, e'] at h
    have h1 : x = x' := (List.cons.inj h).1
    have h2 : y = y' := (List.cons.inj (List.cons.inj h).2).1
    subst h1 h2
    have n1 : ¬ a * (b' : Int) < a' * (b : Int) := fun q => Int.lt_irrefl _ ((F.lt_iff F').mpr q)
    have n2 : ¬ a' * (b : Int) < a * (b' : Int) := fun q => Int.lt_irrefl _ ((F'.lt_iff F).mpr q)
    omega
  · intro h
    have k : fraction a b = fraction (a * b') (b * b') := by
      rw [fraction_is a hb, fraction_is _ (Nat.mul_pos hb hb')]
      have e : Nat.gcd (a * (b' : Int)).natAbs (b * b') = Nat.gcd a.natAbs b * b' := by
        rw [Int.natAbs_mul, Int.natAbs_natCast, Nat.gcd_mul_right]
      rw [e, Int.natCast_mul, Int.natCast_mul, Int.mul_ediv_mul_of_pos_left _ _ (by omega), Int.mul_ediv_mul_of_pos_left _ _ (by omega)]
    have k' : fraction a' b' = fraction (a' * b) (b' * b) := by
      rw [fraction_is a' hb', fraction_is _ (Nat.mul_pos hb' hb)]
      have e : Nat.gcd (a' * (b : Int)).natAbs (b' * b) = Nat.gcd a'.natAbs b' * b := by
        rw [Int.natAbs_mul, Int.natAbs_natCast, Nat.gcd_mul_right]
      rw [e, Int.natCast_mul, Int.natCast_mul, Int.mul_ediv_mul_of_pos_left _ _ (by omega), Int.mul_ediv_mul_of_pos_left _ _ (by omega)]
    rw [k, k', h, Nat.mul_comm b b']

/-! ### the five -/
/-- twelve times the mean of the k-th of the five -/
def m12 (c : Costs) : Nat → Int
  | 0 => 12 * cost c (word 0)
  | 1 => 6 * cost c (word 1)
  | 2 => 3 * cost c (word 2)
  | 3 => 2 * cost c (word 3)
  | _ => 4 * cost c (word 4)
theorem noMore_five (c : Costs) : ∀ k j, k < 5 → j < 5 → noMore c (word k) (word j) = decide (m12 c k ≤ m12 c j) := by
  intro k j hk hj
  have hk' : k = 0 ∨ k = 1 ∨ k = 2 ∨ k = 3 ∨ k = 4 := by omega
  have hj' : j = 0 ∨ j = 1 ∨ j = 2 ∨ j = 3 ∨ j = 4 := by omega
  have e : ∀ k j, noMore c (word k) (word j) = decide (cost c (word k) * ((word j).length : Int) ≤ cost c (word j) * ((word k).length : Int)) := fun _ _ => rfl
  have l0 : ((word 0).length : Int) = 1 := rfl
  have l1 : ((word 1).length : Int) = 2 := rfl
  have l2 : ((word 2).length : Int) = 4 := rfl
  have l3 : ((word 3).length : Int) = 6 := rfl
  have l4 : ((word 4).length : Int) = 3 := rfl
  rw [e, decide_eq_decide]
  rcases hk' with rfl | rfl | rfl | rfl | rfl <;> rcases hj' with rfl | rfl | rfl | rfl | rfl <;> simp only [l0, l1, l2, l3, l4, m12] <;> omega
/-! ### the first of the least, in a list -/
/-- x is the first in l of those whose m is least -/
def FirstMin {A : Type} (m : A → Int) (l : List A) (x : A) : Prop := ∃ pre post, l = pre ++ x :: post ∧ (∀ y ∈ pre, m x < m y) ∧ ∀ y ∈ post, m x ≤ m y
theorem FirstMin.one {A : Type} {m : A → Int} (x : A) : FirstMin m [x] x := ⟨[], [], rfl, fun _ h => absurd h List.not_mem_nil, fun _ h => absurd h List.not_mem_nil⟩
theorem FirstMin.keep {A : Type} {m : A → Int} {l : List A} {x y : A} (h : FirstMin m l x) (k : m x ≤ m y) : FirstMin m (l ++ [y]) x := by
  obtain ⟨pre, post, rfl, h1, h2⟩ := h
  refine ⟨pre, post ++ [y], by simp, h1, fun z hz => ?_⟩
  rcases List.mem_append.mp hz with hz | hz
  · exact h2 z hz
  · rw [List.mem_singleton.mp hz]
    exact k
theorem FirstMin.turn {A : Type} {m : A → Int} {l : List A} {x y : A} (h : FirstMin m l x) (k : m y < m x) : FirstMin m (l ++ [y]) y := by
  obtain ⟨pre, post, rfl, h1, h2⟩ := h
  refine ⟨pre ++ x :: post, [], rfl, fun z hz => ?_, fun z hz => absurd hz List.not_mem_nil⟩
  rcases List.mem_append.mp hz with hz | hz
  · have := h1 z hz
    omega
  · rcases List.mem_cons.mp hz with hz | hz
    · rw [hz]
      exact k
    · have := h2 z hz
      omega
theorem FirstMin.mem {A : Type} {m : A → Int} {l : List A} {x : A} (h : FirstMin m l x) : x ∈ l := by
  obtain ⟨pre, post, rfl, h1, h2⟩ := h
  exact List.mem_append.mpr (.inr (List.mem_cons_self ..))
theorem FirstMin.le {A : Type} {m : A → Int} {l : List A} {x y : A} (h : FirstMin m l x) (hy : y ∈ l) : m x ≤ m y := by
  obtain ⟨pre, post, rfl, h1, h2⟩ := h
  rcases List.mem_append.mp hy with hz | hz
  · have := h1 y hz
    omega
  · rcases List.mem_cons.mp hz with hz | hz
    · rw [hz]
      exact Int.le_refl _
    · exact h2 y hz
theorem find_none_of {A : Type} {p : A → Bool} : ∀ (l : List A), (∀ y ∈ l, p y = false) → ∀ r, (l ++ r).find? p = r.find? p
  | [], _, _ => rfl
  | a :: l, h, r => by
    show (a :: (l ++ r)).find? p = r.find? p
    rw [List.find?_cons, h a (List.mem_cons_self ..)]
    exact find_none_of l (fun y hy => h y (List.mem_cons_of_mem _ hy)) r
/-- what the specification seeks is the first of the least -/
theorem FirstMin.find {A : Type} {m : A → Int} {l : List A} {x : A} {p : A → Bool} (h : FirstMin m l x) (hp : ∀ y ∈ l, p y = true ↔ ∀ j ∈ l, m y ≤ m j) : l.find? p = some x := by
  have hx := (hp x h.mem).mpr fun j hj => h.le hj
  obtain ⟨pre, post, rfl, h1, h2⟩ := h
  rw [find_none_of pre (fun y hy => ?_), List.find?_cons, hx]
  cases e : p y with
  | false => rfl
  | true =>
    have q := (hp y (List.mem_append.mpr (.inl hy))).mp e x (List.mem_append.mpr (.inr (List.mem_cons_self ..)))
    have := h1 y hy
    omega
theorem FirstMin.more {A : Type} {m : A → Int} : ∀ (l a : List A) (x : A), FirstMin m a x → ∃ y, FirstMin m (a ++ l) y
  | [], a, x, h => ⟨x, by rw [List.append_nil]; exact h⟩
  | z :: l, a, x, h => by
    have e : a ++ z :: l = (a ++ [z]) ++ l := by simp
    rw [e]
    by_cases k : m z < m x
    · exact more l _ z (h.turn k)
    · exact more l _ x (h.keep (by omega))
theorem FirstMin.ex {A : Type} {m : A → Int} (l : List A) (x : A) : ∃ y, FirstMin m (x :: l) y := more l [x] x (.one x)
theorem least_find (c : Costs) {k : Nat} (h : FirstMin (m12 c) (List.range 5) k) : least c = k := by
  unfold least
  rw [h.find (p := fun k => (List.range 5).all fun j => noMore c (word k) (word j)) (fun y hy => ?_)]
  · rfl
  · rw [List.all_eq_true]
    constructor
    · intro q j hj
      have := q j hj
      rw [noMore_five c y j (List.mem_range.mp hy) (List.mem_range.mp hj)] at this
      exact of_decide_eq_true this
    · intro q j hj
      rw [noMore_five c y j (List.mem_range.mp hy) (List.mem_range.mp hj)]
      exact decide_eq_true (q j hj)
theorem least_min (c : Costs) : FirstMin (m12 c) (List.range 5) (least c) := by
  obtain ⟨k, hk⟩ := FirstMin.ex (m := m12 c) [1, 2, 3, 4] 0
  have e := least_find c hk
  rw [e]
  exact hk
theorem least_lt (c : Costs) : least c < 5 := List.mem_range.mp (least_min c).mem
theorem ties_is (c : Costs) : ties c = (List.range 5).filter fun k => decide (mean c (word k) = mean c (word (least c))) := by
  have l1 := least_lt c
  unfold ties
  refine List.filter_congr fun k hk => ?_
  have hk5 : k < 5 := List.mem_range.mp hk
  have lp : ∀ k, k < 5 → 0 < (word k).length := by
    intro k hk
    have hk' : k = 0 ∨ k = 1 ∨ k = 2 ∨ k = 3 ∨ k = 4 := by omega
    rcases hk' with rfl | rfl | rfl | rfl | rfl <;> decide
  have a := noMore_five c k (least c) hk5 l1
  have b := noMore_five c (least c) k l1 hk5
  have e1 : mean c (word k) = mean c (word (least c)) ↔ cost c (word k) * ((word (least c)).length : Int) = cost c (word (least c)) * ((word k).length : Int) := fraction_eq (lp k hk5) (lp _ l1)
  have u : ∀ v w, noMore c v w = decide (cost c v * (w.length : Int) ≤ cost c w * (v.length : Int)) := fun _ _ => rfl
  have q := (least_min c).le hk
  rw [u, decide_eq_decide] at a b
  rw [u, decide_eq_decide, e1]
  have z := b.mpr q
  omega
end LC


set_option maxRecDepth 100000
namespace LC
open Kqi5

/-! ### all words of so many steps, and the best of them -/
/-- as the program lines them up -/
def wio : Nat → List (List Nat)
  | 0 => [[]]
  | n + 1 => (wio n).flatMap fun w => [w ++ [0], w ++ [1]]
theorem wio_words : ∀ n, n ≤ 6 → wio n = words n := by
  intro n h
  have h' : n = 0 ∨ n = 1 ∨ n = 2 ∨ n = 3 ∨ n = 4 ∨ n = 5 ∨ n = 6 := by omega
  rcases h' with rfl | rfl | rfl | rfl | rfl | rfl | rfl <;> rfl
theorem words_len : ∀ (n : Nat) (w : List Nat), w ∈ words n → w.length = n
  | 0, w, h => by
    rw [List.mem_singleton.mp (show w ∈ [[]] from h)]
    rfl
  | n + 1, w, h => by
    rcases List.mem_append.mp (show w ∈ (words n).map (fun w => 0 :: w) ++ (words n).map (fun w => 1 :: w) from h) with h | h
    · obtain ⟨v, hv, rfl⟩ := List.mem_map.mp h
      exact congrArg (· + 1) (words_len n v hv)
    · obtain ⟨v, hv, rfl⟩ := List.mem_map.mp h
      exact congrArg (· + 1) (words_len n v hv)
theorem words_ok : ∀ (n : Nat) (w : List Nat), w ∈ words n → ∀ x ∈ w, x ≤ 1
  | 0, w, h => by
    rw [List.mem_singleton.mp (show w ∈ [[]] from h)]
    intro x hx
    cases hx
  | n + 1, w, h => by
    rcases List.mem_append.mp (show w ∈ (words n).map (fun w => 0 :: w) ++ (words n).map (fun w => 1 :: w) from h) with h | h
    · obtain ⟨v, hv, rfl⟩ := List.mem_map.mp h
      intro x hx
      rcases List.mem_cons.mp hx with rfl | hx
      · decide
      · exact words_ok n v hv x hx
    · obtain ⟨v, hv, rfl⟩ := List.mem_map.mp h
      intro x hx
      rcases List.mem_cons.mp hx with rfl | hx
      · decide
      · exact words_ok n v hv x hx
theorem best_find (c : Costs) {n : Nat} {w : List Nat} (hn : 0 < n) (h : FirstMin (cost c) (words n) w) : best c n = w := by
  unfold best
  rw [h.find (p := fun w => (words n).all fun v => noMore c w v) (fun y hy => ?_)]
  · rfl
  · rw [List.all_eq_true]
    have ly := words_len n y hy
    have k : ∀ j ∈ words n, noMore c y j = true ↔ cost c y ≤ cost c j := by
      intro j hj
      have lj := words_len n j hj
      show decide (cost c y * (j.length : Int) ≤ cost c j * (y.length : Int)) = true ↔ _
      rw [decide_eq_true_eq, ly, lj]
      have np : (0 : Int) < (n : Int) := by omega
      exact ⟨fun q => Int.le_of_mul_le_mul_right q np, fun q => Int.mul_le_mul_of_nonneg_right q (by omega)⟩
    exact ⟨fun q j hj => (k j hj).mp (q j hj), fun q j hj => (k j hj).mpr (q j hj)⟩

/-! ### turning a step; falling -/
theorem turned_len (w : List Nat) (i : Nat) : (turned w i).length = w.length := List.length_set
theorem lower_find (c : Costs) {w : List Nat} {i : Nat} (h : FirstMin (fun i => cost c (turned w i)) (List.range w.length) i) : lower c w = if cost c (turned w i) < cost c w then some i else none := by
  unfold lower
  by_cases k : cost c (turned w i) < cost c w
  · rw [if_pos k]
    refine h.find fun y hy => ?_
    simp only [Bool.and_eq_true, decide_eq_true_eq, List.all_eq_true]
    constructor
    · exact fun q => q.2
    · intro q
      exact ⟨Int.lt_of_le_of_lt (q i h.mem) k, q⟩
  · rw [if_neg k]
    refine List.find?_eq_none.mpr fun y hy q => ?_
    simp only [Bool.and_eq_true, decide_eq_true_eq, List.all_eq_true] at q
    have := h.le hy
    omega
theorem lower_some {c : Costs} {w : List Nat} {i : Nat} (h : lower c w = some i) : i < w.length ∧ cost c (turned w i) < cost c w := by
  have a := List.mem_of_find?_eq_some h
  have b := List.find?_some h
  simp only [Bool.and_eq_true, decide_eq_true_eq] at b
  exact ⟨List.mem_range.mp a, b.1⟩
theorem likeTo_odd (w : List Nat) (k : Nat) : ∀ i : Nat, ∃ z, likeTo w k i = (i : Int) + 2 * z
  | 0 => ⟨0, rfl⟩
  | i + 1 => by
    obtain ⟨z, hz⟩ := likeTo_odd w k i
    show ∃ z', likeTo w k i + (if at_ w i = stepAt w (i + k) then 1 else -1) = ((i + 1 : Nat) : Int) + 2 * z'
    by_cases h : at_ w i = stepAt w (i + k)
    · rw [if_pos h, hz]
      exact ⟨z, by omega⟩
    · rw [if_neg h, hz]
      exact ⟨z - 1, by omega⟩
/-- words of as many steps cost the same but for an even number -/
theorem cost_even (c : Costs) {v w : List Nat} (h : v.length = w.length) : ∃ z, cost c v = cost c w + 2 * z := by
  obtain ⟨z1, e1⟩ := likeTo_odd v 1 v.length
  obtain ⟨z2, e2⟩ := likeTo_odd v 2 v.length
  obtain ⟨z3, e3⟩ := likeTo_odd v 3 v.length
  obtain ⟨y1, f1⟩ := likeTo_odd w 1 w.length
  obtain ⟨y2, f2⟩ := likeTo_odd w 2 w.length
  obtain ⟨y3, f3⟩ := likeTo_odd w 3 w.length
  refine ⟨c.one * (z1 - y1) + c.two * (z2 - y2) + c.three * (z3 - y3), ?_⟩
  rw [cost_like, cost_like]
  unfold like
  rw [e1, e2, e3, f1, f2, f3, h]
  simp only [Int.mul_add, Int.mul_sub, Int.mul_left_comm _ (2 : Int)]
  omega
/-- how often a word may still fall -/
def meas (c : Costs) (w : List Nat) : Nat := ((cost c w + 3600) / 2).toNat
theorem meas_fall {c : Costs} {w : List Nat} {i : Nat} (hc : Cb c) (hw : w.length ≤ 12) (h : lower c w = some i) : meas c (turned w i) + 1 ≤ meas c w := by
  obtain ⟨hi, hl⟩ := lower_some h
  obtain ⟨z, hz⟩ := cost_even c (turned_len w i)
  have b := cost_bound hc (turned w i)
  rw [turned_len] at b
  unfold meas
  omega
theorem meas_top {c : Costs} {w : List Nat} (hc : Cb c) (hw : w.length ≤ 12) : meas c w ≤ FUEL := by
  have b := cost_bound hc w
  unfold meas FUEL
  omega
theorem falls_none {c : Costs} {w : List Nat} (h : lower c w = none) : ∀ f, falls c f w = w
  | 0 => rfl
  | f + 1 => by
    show (match lower c w with
      | none => w
      | some i => falls c f (turned w i)) = w
    rw [h]
theorem falls_some {c : Costs} {w : List Nat} {i f : Nat} (h : lower c w = some i) : falls c (f + 1) w = falls c f (turned w i) := by
  show (match lower c w with
      | none => w
      | some i => falls c f (turned w i)) = falls c f (turned w i)
  rw [h]
theorem falls_len (c : Costs) : ∀ (f : Nat) (w : List Nat), (falls c f w).length = w.length
  | 0, _ => rfl
  | f + 1, w => by
    cases h : lower c w with
    | none => rw [falls_none h]
    | some i =>
      rw [falls_some h, falls_len c f, turned_len]
theorem turned_ok {w : List Nat} (h : ∀ x ∈ w, x ≤ 1) (i : Nat) : ∀ x ∈ turned w i, x ≤ 1 := by
  intro x hx
  rcases List.mem_or_eq_of_mem_set hx with hx | hx
  · exact h x hx
  · omega
theorem ok_iff {w : List Nat} : ok w = true ↔ (1 ≤ w.length ∧ w.length ≤ 12) ∧ ∀ x ∈ w, x ≤ 1 := by
  unfold ok isWord STEPS
  simp only [Bool.and_eq_true, decide_eq_true_eq, List.all_eq_true]

/-! ### the calls, one behind another -/
theorem whole_id (c : List (List Int)) : PyKqi5.whole c = c := by
  unfold PyKqi5.whole
  split <;> rfl
theorem map_whole (cs : List (List (List Int))) : cs.map PyKqi5.whole = cs := by
  have e : PyKqi5.whole = id := funext whole_id
  rw [e, List.map_id]
end LC


set_option Elab.async false
set_option maxRecDepth 100000
set_option maxHeartbeats 2000000
namespace LC
open PySem PySem.Spec PyProof.Rows L2
open PySem.W (Codec)
/-! ### words of my own -/
theorem pe_gint {X : Cx} {x : Str} {i : Int} {pos : Pos} (hg : Gl X x) (hm : ∃ t, X.mg x = some (.int i t)) (hd : (x == ("__debug__" : Str)) = false := by decide) : PE X (.Name x pos) (tC (.int i)) := by
  obtain ⟨t, h⟩ := hm
  exact pe_glob hg h ⟨_, rfl⟩ hd
theorem pe_gref {X : Cx} {x : Str} {a : Addr} {pos : Pos} (hg : Gl X x) (hm : X.mg x = some (.ref a)) (hd : (x == ("__debug__" : Str)) = false := by decide) : PE X (.Name x pos) (tC (.ref a)) := pe_glob hg hm rfl hd
/-- a def that may be called by its name -/
structure Cal (P : Program) (w : World) (K : PySem.W.Frag) (mg : Str → Option Value) (base : Heap) (k : Nat) (x : Str) (f : Addr) (fd : FuncData) (ps : List Str) (sp : Sp) : Prop where
  ok : FnOk P w K mg base CX0 k f fd ps sp
  mg : mg x = some (.ref f)
  kp : PySem.W.keepIn K (.ref f) = true
  b : Binds K fd ps []
theorem itY {c : Bool} {A B : Prop} (h : c = true) (a : A) : if c = true then A else B := by
  rw [if_pos h]
  exact a
theorem itN {c : Bool} {A B : Prop} (h : ¬ c = true) (b : B) : if c = true then A else B := by
  rw [if_neg h]
  exact b
/-- a list or a tuple -/
def Sq (K : PySem.W.Frag) (H : Hp) (a : Addr) (xs : List V) : Prop := SqL K H a xs ∨ SqT K H a xs
theorem sqT_same {K : PySem.W.Frag} {H H' : Hp} {a : Addr} {xs : List V} (e : Same H H') (h : SqT K H a xs) : SqT K H' a xs := by
  rcases h with (h | ⟨o, h⟩) | h
  · exact .inl (.inl (e _ _ h))
  · exact .inl (.inr ⟨o, e _ _ h⟩)
  · exact .inr h
theorem Sq.same {K : PySem.W.Frag} {H H' : Hp} {a : Addr} {xs : List V} (e : Same H H') (h : Sq K H a xs) : Sq K H' a xs := by
  rcases h with h | h
  · exact .inl (e.seq h)
  · exact .inr (sqT_same e h)
theorem same_new {H : Hp} {p : Addr} {o : HO} (h : H p = none) : Same H (upd H p o) := fun b _ e => by
  rw [upd_ne (ne_of_none e h)]
  exact e
theorem same_upd {H H' : Hp} {p : Addr} {o : HO} (e : Same H H') (h : H p = none) : Same H (upd H' p o) := fun b _ q => by
  rw [upd_ne (ne_of_none q h)]
  exact e _ _ q
/-- a list that is changed is no tuple -/
theorem sqT_upd {K : PySem.W.Frag} {H : Hp} {a D : Addr} {xs ys : List V} {o : HO} (hD : H D = some (.lst ys)) (h : SqT K H a xs) : SqT K (upd H D o) a xs := by
  have k : ∀ u, H a = some u → (∀ zs, u ≠ .lst zs) → upd H D o a = some u := fun u e n => by
    have : a ≠ D := fun z => by
      rw [z, hD] at e
      exact n _ (Option.some.inj e).symm
    rw [upd_ne this]
    exact e
  rcases h with (h | ⟨o, h⟩) | h
  · exact .inl (.inl (k _ h fun _ z => by cases z))
  · exact .inl (.inr ⟨o, k _ h fun _ z => by cases z⟩)
  · exact .inr h
/-- a word's steps, as values -/
def wv (w : List Nat) : List V := w.map fun (x : Nat) => V.int (x : Int)
/-- whole numbers, as values -/
abbrev iv (l : List Int) : List V := l.map V.int
theorem wv_len (w : List Nat) : (wv w).length = w.length := List.length_map _
theorem wv_at {w : List Nat} {i : Nat} (h : i < w.length) : (wv w)[i]? = some (V.int (Kqi5.at_ w i : Int)) := by
  unfold wv
  rw [List.getElem?_map, List.getElem?_eq_getElem h]
  unfold Kqi5.at_
  rw [List.getD_eq_getElem?_getD, List.getElem?_eq_getElem h]
  rfl
/-- an item of a list or a tuple -/
theorem ix_sq {K : PySem.W.Frag} {H : Hp} {a : Addr} {xs : List V} {i : Int} {v : V} {Q : VK} (h : Sq K H a xs) (hi : atI xs i = some v) (q : Q v H) : rIx K (.ref a) (.int i) H Q := by
  rcases h with h | h
  · exact .inl ⟨a, xs, i, v, rfl, rfl, h, hi, q⟩
  · exact .inr (.inl ⟨a, xs, i, v, rfl, rfl, h, hi, q⟩)
theorem take_snoc {A : Type} {l : List A} {i : Nat} {x : A} (h : l[i]? = some x) : l.take (i + 1) = l.take i ++ [x] := by
  rw [List.take_add_one, h]
  rfl
def top (i : Nat) : Stmt := PySem.Challenge.pw_layercosts_s01_answers.main.body.getD i (.Pass ⟨0, 0, 0, 0⟩)
/-- what the top has written: the names that are Python's own, the constants -/
structure Txt (mg : Str → Option Value) : Prop where
  n_len : mg "len" = none
  n_range : mg "range" = none
  n_abs : mg "abs" = none
  n_list : mg "list" = none
  n_tuple : mg "tuple" = none
  g_MOST_STEPS : ∃ t, mg "MOST_STEPS" = some (.int 12 t)
  g_MOST_COST : ∃ t, mg "MOST_COST" = some (.int 100 t)
  g_NOT_RIGHT : ∃ t, mg "NOT_RIGHT" = some (.int (-22) t)
  g_NOT_STARTED : ∃ t, mg "NOT_STARTED" = some (.int (-11) t)
  g_NONE_SUCH : ∃ t, mg "NONE_SUCH" = some (.int (-2) t)
  g_MOST_BEST_STEPS : ∃ t, mg "MOST_BEST_STEPS" = some (.int 6 t)
  g_START : ∃ t, mg "START" = some (.int 0 t)
  g_COSTS : ∃ t, mg "COSTS" = some (.int 1 t)
  g_COST : ∃ t, mg "COST" = some (.int 2 t)
  g_MEAN : ∃ t, mg "MEAN" = some (.int 3 t)
  g_LEAST : ∃ t, mg "LEAST" = some (.int 4 t)
  g_WORD : ∃ t, mg "WORD" = some (.int 5 t)
  g_TIES : ∃ t, mg "TIES" = some (.int 6 t)
  g_BEST : ∃ t, mg "BEST" = some (.int 7 t)
  g_GOOD : ∃ t, mg "GOOD" = some (.int 8 t)
  g_CHEAPER : ∃ t, mg "CHEAPER" = some (.int 9 t)
  g_TURN : ∃ t, mg "TURN" = some (.int 10 t)
  g_FALL : ∃ t, mg "FALL" = some (.int 11 t)
  g_NEEDS : ∃ t, mg "NEEDS" = some (.int 14 t)
  g_TURNED_OVER : ∃ t, mg "TURNED_OVER" = some (.int 15 t)
  g_AT_REST : ∃ t, mg "AT_REST" = some (.int (-33) t)
abbrev s_is_word : Stmt := top 2
abbrev n_is_word : List Str := ["steps", "step"]
theorem sc_is_word : FnScope n_is_word ["steps"] (defScope s_is_word) := ⟨rfl, rfl, rfl, by decide +kernel, rfl, by decide +kernel, by decide +kernel⟩
abbrev s_likeness : Stmt := top 3
abbrev n_likeness : List Str := ["word", "apart", "total", "i"]
theorem sc_likeness : FnScope n_likeness ["word", "apart"] (defScope s_likeness) := ⟨rfl, rfl, rfl, by decide +kernel, rfl, by decide +kernel, by decide +kernel⟩
abbrev s_word_cost : Stmt := top 4
abbrev n_word_cost : List Str := ["costs", "word"]
theorem sc_word_cost : FnScope n_word_cost ["costs", "word"] (defScope s_word_cost) := ⟨rfl, rfl, rfl, by decide +kernel, rfl, by decide +kernel, by decide +kernel⟩
abbrev s_common_divisor : Stmt := top 5
abbrev n_common_divisor : List Str := ["a", "b", "remainder"]
theorem sc_common_divisor : FnScope n_common_divisor ["a", "b"] (defScope s_common_divisor) := ⟨rfl, rfl, rfl, by decide +kernel, rfl, by decide +kernel, by decide +kernel⟩
abbrev s_word_mean : Stmt := top 6
abbrev n_word_mean : List Str := ["costs", "word", "cost", "divisor"]
theorem sc_word_mean : FnScope n_word_mean ["costs", "word"] (defScope s_word_mean) := ⟨rfl, rfl, rfl, by decide +kernel, rfl, by decide +kernel, by decide +kernel⟩
abbrev s_is_less : Stmt := top 7
abbrev n_is_less : List Str := ["mean", "other"]
theorem sc_is_less : FnScope n_is_less ["mean", "other"] (defScope s_is_less) := ⟨rfl, rfl, rfl, by decide +kernel, rfl, by decide +kernel, by decide +kernel⟩
abbrev s_words_in_order : Stmt := top 8
abbrev n_words_in_order : List Str := ["steps", "words", "place", "longer", "word"]
theorem sc_words_in_order : FnScope n_words_in_order ["steps"] (defScope s_words_in_order) := ⟨rfl, rfl, rfl, by decide +kernel, rfl, by decide +kernel, by decide +kernel⟩
abbrev s_best_word : Stmt := top 9
abbrev n_best_word : List Str := ["costs", "steps", "best", "word"]
theorem sc_best_word : FnScope n_best_word ["costs", "steps"] (defScope s_best_word) := ⟨rfl, rfl, rfl, by decide +kernel, rfl, by decide +kernel, by decide +kernel⟩
abbrev s_least_of_five : Stmt := top 13
abbrev n_least_of_five : List Str := ["costs", "least", "k"]
theorem sc_least_of_five : FnScope n_least_of_five ["costs"] (defScope s_least_of_five) := ⟨rfl, rfl, rfl, by decide +kernel, rfl, by decide +kernel, by decide +kernel⟩
abbrev s_least_mean : Stmt := top 14
abbrev n_least_mean : List Str := ["costs"]
theorem sc_least_mean : FnScope n_least_mean ["costs"] (defScope s_least_mean) := ⟨rfl, rfl, rfl, by decide +kernel, rfl, by decide +kernel, by decide +kernel⟩
abbrev s_ties_of_five : Stmt := top 15
abbrev n_ties_of_five : List Str := ["costs", "least", "k"]
theorem sc_ties_of_five : FnScope n_ties_of_five ["costs"] (defScope s_ties_of_five) := ⟨rfl, rfl, rfl, by decide +kernel, rfl, by decide +kernel, by decide +kernel⟩
abbrev s_is_good : Stmt := top 16
abbrev n_is_good : List Str := ["costs", "word"]
theorem sc_is_good : FnScope n_is_good ["costs", "word"] (defScope s_is_good) := ⟨rfl, rfl, rfl, by decide +kernel, rfl, by decide +kernel, by decide +kernel⟩
abbrev s_are_costs : Stmt := top 44
abbrev n_are_costs : List Str := ["numbers", "number"]
theorem sc_are_costs : FnScope n_are_costs ["numbers"] (defScope s_are_costs) := ⟨rfl, rfl, rfl, by decide +kernel, rfl, by decide +kernel, by decide +kernel⟩

section
variable {P : Program} {w : World} {K : PySem.W.Frag} {mg : Str → Option Value} {base : Heap}
/-! ### likeness -/
def spLike (K : PySem.W.Frag) : Sp := fun vs H Q _ => ∃ (a : Addr) (w : List Nat) (k : Nat), vs = [.ref a, .int (k : Int)] ∧ Sq K H a (wv w) ∧ w.length < 1000 ∧ Q (.int (like w k)) H
theorem ok_likeness {f : Addr} {fd : FuncData} (F : Fun K "likeness" "likeness" s_likeness f fd) (T : Txt mg) : FnOk P w K mg base CX0 1 f fd ["word", "apart"] (spLike K) := by
  refine F.ok sc_likeness (fun vs H Q E h => ?_) (fun cdv A outer s H vs Q E hr h => ?_)
  · obtain ⟨a, w, k, rfl, _⟩ := h
    rfl
  · obtain ⟨a, w, k, rfl, hS, hl, q⟩ := h
    refine ⟨_, (pss_cons (ps_set (i := 2) sc_likeness.nd rfl (Or.inl rfl) pe_int)
      (pss_cons (ps_for PassesOwn.never rfl (pi_range1 rfl T.n_range (pa_cons (pe_callB call_len_seq (by rfl) T.n_len (by decide +kernel) (pa_cons (pv 0) pa_nil)) pa_nil)) (pg_name (i := 3) sc_likeness.nd rfl (Or.inl rfl)) (pss_one (ps_if (pt_cmpR op_eq (pe_ix ix_seq (pv 0) (pv 3) (fun _ _ => rfl)) (pe_ix ix_seq (pv 0) (pe_op op_modN (pe_op op_add (pv 3) (pv 1)) (pe_callB call_len_seq (by rfl) T.n_len (by decide +kernel) (pa_cons (pv 0) pa_nil))) (fun _ _ => rfl)) (nomark _)) (pss_one (ps_set (i := 2) sc_likeness.nd rfl (Or.inl rfl) (pe_op op_add (pv 2) pe_int))) (pss_one (ps_set (i := 2) sc_likeness.nd rfl (Or.inl rfl) (pe_op op_sub (pv 2) pe_int))))))
      (pss_one (ps_ret (pv 2))))), ?_⟩
    have el := wv_len w
    refine ⟨_, rfl, a, _, rfl, hS, _, rfl, by rw [el]; omega, by rw [el]; omega, for_range (lo := 0) (n := (wv w).length) (fun i σ H' => H' = H ∧ ∃ v, σ = [some (.ref a), some (.int (k : Int)), some (.int (likeTo w k i)), v]) ⟨rfl, none, rfl⟩ ?_ ?_⟩
    · rintro i σ H' hi ⟨rfl, v, rfl⟩
      rw [el] at hi
      have hp : 0 < w.length := by omega
      have hm : (i + k) % w.length < w.length := Nat.mod_lt _ hp
      refine ⟨_, rfl, _, rfl, ix_sq hS (at_of (j := i) (by omega) (wv_at hi)) ?_⟩
      refine ⟨_, rfl, _, rfl, _, rfl, _, _, rfl, rfl, _, rfl, a, _, rfl, hS, _, _, rfl, rfl, by rw [el]; omega, ?_⟩
      refine ix_sq hS (at_of (j := (i + k) % w.length) (by rw [el]; show Int.fmod ((0 + (i : Int)) + k) _ = _; rw [Int.fmod_eq_emod_of_nonneg _ (by omega), Int.zero_add, Int.natCast_emod, Int.natCast_add]) (wv_at hm)) ?_
      refine ⟨rfl, _, rfl, ite2 (fun c => ?_) (fun c => ?_)⟩
      · have e : Kqi5.at_ w i = Kqi5.stepAt w (i + k) := by
          have := of_decide_eq_true c
          exact Int.ofNat.inj (V.int.inj this)
        refine ⟨_, rfl, _, _, rfl, rfl, rfl, some (.int (0 + (i : Int))), ?_⟩
        show _ = [_, _, some (V.int (likeTo w k i + (if Kqi5.at_ w i = Kqi5.stepAt w (i + k) then 1 else -1))), _]
        rw [if_pos e]
        rfl
      · have e : ¬ Kqi5.at_ w i = Kqi5.stepAt w (i + k) := fun e => c (decide_eq_true (congrArg (fun (n : Nat) => V.int (n : Int)) e))
        refine ⟨_, rfl, _, _, rfl, rfl, rfl, some (.int (0 + (i : Int))), ?_⟩
        show _ = [_, _, some (V.int (likeTo w k i + (if Kqi5.at_ w i = Kqi5.stepAt w (i + k) then 1 else -1))), _]
        rw [if_neg e]
        rfl
    · rintro σ H' ⟨rfl, v, rfl⟩
      rw [el]
      exact ⟨_, rfl, q⟩
/-! ### is_word -/
def spIsWord (K : PySem.W.Frag) : Sp := fun vs H Q _ => ∃ (a : Addr) (w : List Nat), vs = [.ref a] ∧ SqL K H a (wv w) ∧ Q (.bl (Kqi5.ok w)) H
theorem ok_is_word {f : Addr} {fd : FuncData} (F : Fun K "is_word" "is_word" s_is_word f fd) (T : Txt mg) : FnOk P w K mg base CX0 1 f fd ["steps"] (spIsWord K) := by
  refine F.ok sc_is_word (fun vs H Q E h => ?_) (fun cdv A outer s H vs Q E hr h => ?_)
  · obtain ⟨a, w, rfl, _⟩ := h
    rfl
  · obtain ⟨a, w, rfl, hS, q⟩ := h
    refine ⟨_, (pss_cons (ps_if (PW.pt (pw_or (pt_cmpR op_lt (pe_callB call_len_seq (by rfl) T.n_len (by decide +kernel) (pa_cons (pv 0) pa_nil)) pe_int (nomark _)) (pw_or1 (pt_cmpR op_gt (pe_callB call_len_seq (by rfl) T.n_len (by decide +kernel) (pa_cons (pv 0) pa_nil)) (pe_gint rfl T.g_MOST_STEPS) (nomark _))))) (pss_one (ps_ret pe_bl)) pss_nil)
      (pss_cons (ps_for PassesOwn.never rfl (pi_list (pv 0)) (pg_name (i := 1) sc_is_word.nd rfl (Or.inl rfl)) (pss_one (ps_if (PW.pt (pw_and (pt_cmpR op_ne (pv 1) pe_int (nomark _)) (pw_and1 (pt_cmpR op_ne (pv 1) pe_int (nomark _))))) (pss_one (ps_ret pe_bl)) pss_nil)))
      (pss_one (ps_ret pe_bl)))), ?_⟩
    have el := wv_len w
    have no : ¬ ((1 ≤ w.length ∧ w.length ≤ 12) ∧ ∀ x ∈ w, x ≤ 1) → Kqi5.ok w = false := fun h => by
      cases e : Kqi5.ok w with
      | false => rfl
      | true => exact absurd (ok_iff.mp e) h
    refine ⟨_, rfl, a, _, rfl, .inl hS, _, _, rfl, rfl, _, rfl, ite2 (fun c => ?_) (fun c => ?_)⟩
    · have c' := of_decide_eq_true c
      rw [el] at c'
      rw [no (by omega)] at q
      exact iteT q
    · refine ⟨_, rfl, a, _, rfl, .inl hS, _, _, rfl, rfl, _, rfl, ite2 (fun d => ?_) (fun d => ?_)⟩
      · have d' := of_decide_eq_true d
        rw [el] at d'
        rw [no (by omega)] at q
        exact q
      · have c' : ¬ ((wv w).length : Int) < 1 := fun z => c (decide_eq_true z)
        have d' : ¬ (12 : Int) < ((wv w).length : Int) := fun z => d (decide_eq_true z)
        rw [el] at c' d'
        refine ⟨_, rfl, a, rfl, ⟨_, hS⟩, for_list (K := K) (a := a) (xs := wv w) (fun i σ H' => H' = H ∧ (∀ j, j < i → Kqi5.at_ w j ≤ 1) ∧ ∃ v, σ = [some (.ref a), v]) ⟨rfl, fun j hj => absurd hj (Nat.not_lt_zero _), none, rfl⟩ (fun i σ H' _ h => by rw [h.1]; exact hS) ?_ ?_⟩
        · rintro i x σ H' hi ⟨rfl, hb, v, rfl⟩
          have hil : i < w.length := by
            have := (List.getElem?_eq_some_iff.mp hi).1
            rw [el] at this
            exact this
          rw [wv_at hil] at hi
          have ex := (Option.some.inj hi).symm
          subst ex
          have more : ∀ n : Nat, n = Kqi5.at_ w i → n ≤ 1 → ∀ j, j < i + 1 → Kqi5.at_ w j ≤ 1 := fun n en hn j hj => by
            by_cases e : j = i
            · rw [e, ← en]
              exact hn
            · exact hb j (by omega)
          refine ⟨_, rfl, rfl, _, rfl, ite2 (fun c => ?_) (fun c => ?_)⟩
          · refine ⟨_, rfl, rfl, _, rfl, ite2 (fun d => ?_) (fun d => ?_)⟩
            · have c1 : ¬ V.int (Kqi5.at_ w i : Int) = V.int 0 := fun z => by rw [decide_eq_true z] at c; cases c
              have d1 : ¬ V.int (Kqi5.at_ w i : Int) = V.int 1 := fun z => by rw [decide_eq_true z] at d; cases d
              have c2 : ¬ Kqi5.at_ w i = 0 := fun z => c1 (by rw [z]; rfl)
              have d2 : ¬ Kqi5.at_ w i = 1 := fun z => d1 (by rw [z]; rfl)
              rw [no (fun z => by
                have := z.2 (Kqi5.at_ w i) (by
                  unfold Kqi5.at_
                  rw [List.getD_eq_getElem?_getD, List.getElem?_eq_getElem hil]
                  exact List.getElem_mem hil)
                omega)] at q
              exact q
            · have d1 : V.int (Kqi5.at_ w i : Int) = V.int 1 := Decidable.byContradiction fun z => d (by rw [decide_eq_false z]; rfl)
              have d2 := V.int.inj d1
              exact ⟨rfl, more _ rfl (by omega), _, rfl⟩
          · have c1 : V.int (Kqi5.at_ w i : Int) = V.int 0 := Decidable.byContradiction fun z => c (by rw [decide_eq_false z]; rfl)
            have c2 := V.int.inj c1
            exact iteF ⟨rfl, more _ rfl (by omega), _, rfl⟩
        · rintro σ H' ⟨rfl, hb, v, rfl⟩
          have e : Kqi5.ok w = true := ok_iff.mpr ⟨by omega, fun x hx => by
            obtain ⟨j, hj, rfl⟩ := List.mem_iff_getElem.mp hx
            have := hb j (by rw [el]; exact hj)
            unfold Kqi5.at_ at this
            rw [List.getD_eq_getElem?_getD, List.getElem?_eq_getElem hj] at this
            exact this⟩
          rw [e] at q
          exact q
/-! ### word_cost -/
def cv (c : Kqi5.Costs) : List V := [.int c.one, .int c.two, .int c.three]
def spCost (K : PySem.W.Frag) : Sp := fun vs H Q _ => ∃ (b a : Addr) (c : Kqi5.Costs) (w : List Nat), vs = [.ref b, .ref a] ∧ SqT K H b (cv c) ∧ Cb c ∧ Sq K H a (wv w) ∧ w.length < 1000 ∧ Q (.int (Kqi5.cost c w)) H
theorem ok_word_cost {f : Addr} {fd : FuncData} (F : Fun K "word_cost" "word_cost" s_word_cost f fd) {f1 : Addr} {fd1 : FuncData} (c_likeness : Cal P w K mg base 1 "likeness" f1 fd1 ["word", "apart"] (spLike K)) : FnOk P w K mg base CX0 2 f fd ["costs", "word"] (spCost K) := by
  refine F.ok sc_word_cost (fun vs H Q E h => ?_) (fun cdv A outer s H vs Q E hr h => ?_)
  · obtain ⟨b, a, c, w, rfl, _⟩ := h
    rfl
  · obtain ⟨b, a, c, w, rfl, hC, hc, hS, hl, q⟩ := h
    refine ⟨_, (pss_one (ps_ret (pe_op op_add (pe_op op_add (pe_op op_mul (pe_ix ix_seq (pv 0) pe_int (fun _ _ => rfl)) (pe_call c_likeness.ok (hr.mono (by decide)) rfl c_likeness.mg c_likeness.kp c_likeness.b .nil pass0 (pa_cons (pv 1) (pa_cons pe_int pa_nil)))) (pe_op op_mul (pe_ix ix_seq (pv 0) pe_int (fun _ _ => rfl)) (pe_call c_likeness.ok (hr.mono (by decide)) rfl c_likeness.mg c_likeness.kp c_likeness.b .nil pass0 (pa_cons (pv 1) (pa_cons pe_int pa_nil))))) (pe_op op_mul (pe_ix ix_seq (pv 0) pe_int (fun _ _ => rfl)) (pe_call c_likeness.ok (hr.mono (by decide)) rfl c_likeness.mg c_likeness.kp c_likeness.b .nil pass0 (pa_cons (pv 1) (pa_cons pe_int pa_nil))))))), ?_⟩
    rw [cost_like] at q
    have m : ∀ z : Int, -100 ≤ z → z ≤ 100 → ∀ y, CMul z y := fun z h1 h2 y => .inl ⟨by omega, by omega⟩
    refine ⟨_, rfl, ix_sq (.inr hC) (v := .int c.one) rfl ⟨_, rfl, a, w, 1, rfl, hS, hl, _, _, rfl, rfl, m _ hc.a1 hc.a2 _, ?_⟩⟩
    refine ⟨_, rfl, ix_sq (.inr hC) (v := .int c.two) rfl ⟨_, rfl, a, w, 2, rfl, hS, hl, _, _, rfl, rfl, m _ hc.b1 hc.b2 _, _, _, rfl, rfl, ?_⟩⟩
    exact ⟨_, rfl, ix_sq (.inr hC) (v := .int c.three) rfl ⟨_, rfl, a, w, 3, rfl, hS, hl, _, _, rfl, rfl, m _ hc.d1 hc.d2 _, _, _, rfl, rfl, q⟩⟩
/-! ### common_divisor -/
def spDiv : Sp := fun vs H Q _ => ∃ (a b : Nat), vs = [.int (a : Int), .int (b : Int)] ∧ Q (.int (Nat.gcd a b : Int)) H
theorem ok_common_divisor {f : Addr} {fd : FuncData} (F : Fun K "common_divisor" "common_divisor" s_common_divisor f fd) : FnOk P w K mg base CX0 1 f fd ["a", "b"] spDiv := by
  refine F.ok sc_common_divisor (fun vs H Q E h => ?_) (fun cdv A outer s H vs Q E hr h => ?_)
  · obtain ⟨a, b, rfl, _⟩ := h
    rfl
  · obtain ⟨a, b, rfl, q⟩ := h
    refine ⟨_, (pss_cons (ps_while PassesOwn.never (pt_cmpR op_ne (pv 1) pe_int (nomark _)) (pss_cons (ps_set (i := 2) sc_common_divisor.nd rfl (Or.inl rfl) (pe_op op_modN (pv 0) (pv 1)))
      (pss_cons (ps_set (i := 0) sc_common_divisor.nd rfl (Or.inl rfl) (pv 1))
      (pss_one (ps_set (i := 1) sc_common_divisor.nd rfl (Or.inl rfl) (pv 2))))))
      (pss_one (ps_ret (pv 0)))), ?_⟩
    refine while_by (fun σ H' => H' = H ∧ ∃ (x y : Nat) (v : Option V), σ = [some (.int (x : Int)), some (.int (y : Int)), v] ∧ Nat.gcd x y = Nat.gcd a b) (fun σ _ => match σ with | [_, some (.int y), _] => y.toNat | _ => 0) ⟨rfl, a, b, none, rfl, rfl⟩ ?_ ?_
    · rintro σ H' ⟨rfl, x, y, v, rfl, e⟩
      refine ⟨_, rfl, rfl, _, rfl, ite2 (fun c => ?_) (fun c => ?_)⟩
      · have y0 : ¬ y = 0 := fun z => by
          rw [z, decide_eq_true (show V.int ((0 : Nat) : Int) = V.int 0 from rfl)] at c
          cases c
        refine ⟨_, rfl, _, rfl, _, _, rfl, rfl, by omega, _, rfl, _, rfl, ⟨rfl, y, x % y, some (.int ((x % y : Nat) : Int)), ?_, ?_⟩, ?_⟩
        · have em : Int.fmod (x : Int) (y : Int) = ((x % y : Nat) : Int) := by rw [Int.fmod_eq_emod_of_nonneg _ (by omega), Int.natCast_emod]
          show [some (V.int (y : Int)), some (V.int (Int.fmod (x : Int) (y : Int))), some (V.int (Int.fmod (x : Int) (y : Int)))] = _
          rw [em]
        · rw [← gcd_step, e]
        · show (Int.fmod (x : Int) (y : Int)).toNat < (y : Int).toNat
          have em : Int.fmod (x : Int) (y : Int) = ((x % y : Nat) : Int) := by rw [Int.fmod_eq_emod_of_nonneg _ (by omega), Int.natCast_emod]
          have lt := Nat.mod_lt x (show 0 < y by omega)
          rw [em, Int.toNat_natCast, Int.toNat_natCast]
          exact lt
      · have y0 : y = 0 := by
          have := Decidable.byContradiction fun z => c (by rw [decide_eq_false (p := V.int (y : Int) = V.int 0) z]; rfl)
          have := V.int.inj this
          omega
        subst y0
        refine ⟨_, rfl, ?_⟩
        rw [← e, Nat.gcd_zero_right] at q
        exact q
    · rintro σ H' Q1 Q2 m ⟨x, h1, h2, k, h3, h4⟩
      exact ⟨x, h1, h2, k, h3, m _ _ h4⟩
/-! ### word_mean -/
def spMean (K : PySem.W.Frag) : Sp := fun vs H Q _ => ∃ (b a : Addr) (c : Kqi5.Costs) (w : List Nat), vs = [.ref b, .ref a] ∧ SqT K H b (cv c) ∧ Cb c ∧ Sq K H a (wv w) ∧ 0 < w.length ∧ w.length < 1000 ∧
  ∀ (H' : Hp) (p : Addr), Same H H' → H p = none → H' p = some (.tup (iv (Kqi5.mean c w))) → Q (.ref p) H'
theorem ok_word_mean {f : Addr} {fd : FuncData} (F : Fun K "word_mean" "word_mean" s_word_mean f fd) (T : Txt mg) {f1 f2 : Addr} {fd1 fd2 : FuncData} (c_word_cost : Cal P w K mg base 2 "word_cost" f1 fd1 ["costs", "word"] (spCost K))
    (c_common_divisor : Cal P w K mg base 1 "common_divisor" f2 fd2 ["a", "b"] spDiv) : FnOk P w K mg base CX0 3 f fd ["costs", "word"] (spMean K) := by
  refine F.ok sc_word_mean (fun vs H Q E h => ?_) (fun cdv A outer s H vs Q E hr h => ?_)
  · obtain ⟨b, a, c, w, rfl, _⟩ := h
    rfl
  · obtain ⟨b, a, c, w, rfl, hC, hc, hS, hl0, hl, q⟩ := h
    refine ⟨_, (pss_cons (ps_set (i := 2) sc_word_mean.nd rfl (Or.inl rfl) (pe_call c_word_cost.ok (hr.mono (by decide)) rfl c_word_cost.mg c_word_cost.kp c_word_cost.b .nil pass0 (pa_cons (pv 0) (pa_cons (pv 1) pa_nil))))
      (pss_cons (ps_set (i := 3) sc_word_mean.nd rfl (Or.inl rfl) (pe_call c_common_divisor.ok (hr.mono (by decide)) rfl c_common_divisor.mg c_common_divisor.kp c_common_divisor.b .nil pass0 (pa_cons (pe_callB call_abs (by rfl) T.n_abs (by decide +kernel) (pa_cons (pv 2) pa_nil)) (pa_cons (pe_callB call_len_seq (by rfl) T.n_len (by decide +kernel) (pa_cons (pv 1) pa_nil)) pa_nil))))
      (pss_one (ps_ret (pe_tup (pa_cons (pe_op op_fdivN (pv 2) (pv 3)) (pa_cons (pe_op op_fdivN (pe_callB call_len_seq (by rfl) T.n_len (by decide +kernel) (pa_cons (pv 1) pa_nil)) (pv 3)) pa_nil))))))), ?_⟩
    have el := wv_len w
    have ea : (if Kqi5.cost c w < 0 then -Kqi5.cost c w else Kqi5.cost c w) = ((Kqi5.cost c w).natAbs : Int) := by split <;> omega
    have gp : 0 < Nat.gcd (Kqi5.cost c w).natAbs w.length := Nat.gcd_pos_of_pos_right _ hl0
    have gl : Nat.gcd (Kqi5.cost c w).natAbs w.length ≤ w.length := Nat.gcd_le_right _ hl0
    refine ⟨_, rfl, _, rfl, b, a, c, w, rfl, hC, hc, hS, hl, _, rfl, _, rfl, ?_⟩
    refine ⟨_, rfl, a, _, rfl, hS, (Kqi5.cost c w).natAbs, w.length, by rw [ea, el]; rfl, ?_⟩
    have dn : CDivN (Kqi5.cost c w) (Nat.gcd (Kqi5.cost c w).natAbs w.length : Int) := ⟨by omega, by rw [Int.natAbs_natCast]; omega⟩
    have dn2 : CDivN (w.length : Int) (Nat.gcd (Kqi5.cost c w).natAbs w.length : Int) := ⟨by omega, by rw [Int.natAbs_natCast]; omega⟩
    refine ⟨_, rfl, _, rfl, _, _, rfl, rfl, dn, _, rfl, a, _, rfl, hS, _, rfl, _, _, rfl, rfl, by rw [el]; exact dn2, by show 2 ≤ sizeLine; decide, fun p hp => ?_⟩
    refine q _ p (same_new hp) hp ?_
    rw [upd_same, el]
    dsimp only
    rw [Int.fdiv_eq_ediv_of_nonneg _ (by omega), Int.fdiv_eq_ediv_of_nonneg _ (by omega)]
    unfold Kqi5.mean
    rw [fraction_is _ hl0]
    rfl
/-! ### is_less -/
def spLess (K : PySem.W.Frag) : Sp := fun vs H Q _ => ∃ (a b : Addr) (x y x' y' : Int), vs = [.ref a, .ref b] ∧ SqT K H a [.int x, .int y] ∧ SqT K H b [.int x', .int y'] ∧ (0 < y ∧ y < 1000) ∧ (0 < y' ∧ y' < 1000) ∧ Q (.bl (decide (x * y' < x' * y))) H
theorem ok_is_less {f : Addr} {fd : FuncData} (F : Fun K "is_less" "is_less" s_is_less f fd) : FnOk P w K mg base CX0 1 f fd ["mean", "other"] (spLess K) := by
  refine F.ok sc_is_less (fun vs H Q E h => ?_) (fun cdv A outer s H vs Q E hr h => ?_)
  · obtain ⟨a, b, x, y, x', y', rfl, _⟩ := h
    rfl
  · obtain ⟨a, b, x, y, x', y', rfl, hA, hB, hy, hy', q⟩ := h
    refine ⟨_, (pss_one (ps_ret (pe_cmpR op_lt (pe_op op_mul (pe_ix ix_seq (pv 0) pe_int (fun _ _ => rfl)) (pe_ix ix_seq (pv 1) pe_int (fun _ _ => rfl))) (pe_op op_mul (pe_ix ix_seq (pv 1) pe_int (fun _ _ => rfl)) (pe_ix ix_seq (pv 0) pe_int (fun _ _ => rfl))) (nomark _)))), ?_⟩
    refine ⟨_, rfl, ix_sq (.inr hA) (v := .int x) rfl ⟨_, rfl, ix_sq (.inr hB) (v := .int y') rfl ⟨_, _, rfl, rfl, .inr ⟨by omega, by omega⟩, ?_⟩⟩⟩
    exact ⟨_, rfl, ix_sq (.inr hB) (v := .int x') rfl ⟨_, rfl, ix_sq (.inr hA) (v := .int y) rfl ⟨_, _, rfl, rfl, .inr ⟨by omega, by omega⟩, _, _, rfl, rfl, q⟩⟩⟩
/-! ### words_in_order, best_word -/
theorem wv_snoc (w : List Nat) (b : Nat) : wv (w ++ [b]) = wv w ++ [V.int (b : Int)] := by
  unfold wv
  rw [List.map_append]
  rfl
/-- at each of these addresses stands the tuple of the word of that place -/
def Tups (K : PySem.W.Frag) (H : Hp) (as : List Addr) (ws : List (List Nat)) : Prop := as.length = ws.length ∧ ∀ (i : Nat) (a : Addr) (w : List Nat), as[i]? = some a → ws[i]? = some w → SqT K H a (wv w)
theorem Tups.same {K : PySem.W.Frag} {H H' : Hp} {as : List Addr} {ws : List (List Nat)} (e : Same H H') (h : Tups K H as ws) : Tups K H' as ws := ⟨h.1, fun i a w h1 h2 => sqT_same e (h.2 i a w h1 h2)⟩
theorem Tups.upd {K : PySem.W.Frag} {H : Hp} {as : List Addr} {ws : List (List Nat)} {D : Addr} {ys : List V} {o : HO} (hD : H D = some (.lst ys)) (h : Tups K H as ws) : Tups K (upd H D o) as ws := ⟨h.1, fun i a w h1 h2 => sqT_upd hD (h.2 i a w h1 h2)⟩
theorem Tups.snoc {K : PySem.W.Frag} {H : Hp} {as : List Addr} {ws : List (List Nat)} {a : Addr} {w : List Nat} (h : Tups K H as ws) (ha : SqT K H a (wv w)) : Tups K H (as ++ [a]) (ws ++ [w]) := by
  refine ⟨by rw [List.length_append, List.length_append, h.1]; rfl, fun i b v h1 h2 => ?_⟩
  by_cases hi : i < as.length
  · rw [List.getElem?_append_left hi] at h1
    rw [List.getElem?_append_left (by rw [← h.1]; exact hi)] at h2
    exact h.2 i b v h1 h2
  · rw [List.getElem?_append_right (by omega)] at h1
    rw [List.getElem?_append_right (by rw [← h.1]; omega), ← h.1] at h2
    have e : i - as.length = 0 := by
      have := (List.getElem?_eq_some_iff.mp h1).1
      rw [List.length_singleton] at this
      omega
    rw [e] at h1 h2
    have e1 : a = b := Option.some.inj h1
    have e2 : w = v := Option.some.inj h2
    subst e1 e2
    exact ha
theorem cat_one {σ : L2.St} {H : Hp} {Q : VK} {a : Addr} {w : List Nat} {b i : Nat} (hs : σ[i]? = some (some (.ref a))) (ha : SqT K H a (wv w)) (hl : w.length ≤ 100) (q : ∀ H' p, Same H H' → SqT K H' p (wv (w ++ [b])) → Q (.ref p) H') :
    tOp (rCatA K) (tVar i) (tTup (tCons (tC (.int (b : Int))) tNil)) σ H Q := by
  refine ⟨_, hs, by show 1 ≤ sizeLine; decide, fun p hp => ?_⟩
  have s1 : Same H (upd H p (.tup [V.int (b : Int)])) := same_new hp
  refine ⟨a, p, wv w, [V.int (b : Int)], rfl, rfl, sqT_same s1 ha, SqT.of upd_same, ?_, fun e => ?_, fun _ e => (by cases e), fun _ _ p2 hp2 => ?_⟩
  · rw [wv_len]
    exact Nat.le_trans (Nat.add_le_add_right hl 1) (by decide)
  · refine q _ p s1 ?_
    rw [wv_snoc, e]
    exact SqT.of upd_same
  · refine q _ p2 (s1.trans (same_new hp2)) ?_
    rw [wv_snoc]
    exact SqT.of upd_same
def spOrder (K : PySem.W.Frag) : Sp := fun vs H Q _ => ∃ (n : Nat), vs = [.int (n : Int)] ∧ n ≤ 6 ∧
  ∀ (H' : Hp) (p : Addr) (as : List Addr), Same H H' → H p = none → H' p = some (.lst (as.map V.ref)) → Tups K H' as (wio n) → Q (.ref p) H'
theorem ok_words_in_order {f : Addr} {fd : FuncData} (F : Fun K "words_in_order" "words_in_order" s_words_in_order f fd) (T : Txt mg) : FnOk P w K mg base CX0 1 f fd ["steps"] (spOrder K) := by
  refine F.ok sc_words_in_order (fun vs H Q E h => ?_) (fun cdv A outer s H vs Q E hr h => ?_)
  · obtain ⟨n, rfl, _⟩ := h
    rfl
  · obtain ⟨n, rfl, hn, q⟩ := h
    refine ⟨_, (pss_cons (ps_set (i := 1) sc_words_in_order.nd rfl (Or.inl rfl) (pe_lst (pa_cons (pe_tup pa_nil) pa_nil)))
      (pss_cons (ps_for PassesOwn.never rfl (pi_range1 rfl T.n_range (pa_cons (pv 0) pa_nil)) (pg_name (i := 2) sc_words_in_order.nd rfl (Or.inl rfl)) (pss_cons (ps_set (i := 3) sc_words_in_order.nd rfl (Or.inl rfl) (pe_lst pa_nil))
      (pss_cons (ps_for PassesOwn.never rfl (pi_list (pv 1)) (pg_name (i := 4) sc_words_in_order.nd rfl (Or.inl rfl)) (pss_cons (ps_expr (pe_bm PySem.F.plainAttrs_list PySem.F.slot_list_append PySem.F.type_list_append mt_append (pv 3) (pa_cons (pe_op op_catA (pv 4) (pe_tup (pa_cons pe_int pa_nil))) pa_nil)))
      (pss_one (ps_expr (pe_bm PySem.F.plainAttrs_list PySem.F.slot_list_append PySem.F.type_list_append mt_append (pv 3) (pa_cons (pe_op op_catA (pv 4) (pe_tup (pa_cons pe_int pa_nil))) pa_nil))))))
      (pss_one (ps_set (i := 1) sc_words_in_order.nd rfl (Or.inl rfl) (pv 3))))))
      (pss_one (ps_ret (pv 1))))), ?_⟩
    refine ⟨by show 0 ≤ sizeLine; decide, fun t ht => ⟨by show 1 ≤ sizeLine; decide, fun l hl => ?_⟩⟩
    have s0 : Same H (upd H t (.tup [])) := same_new ht
    have s1 : Same H (upd (upd H t (.tup [])) l (.lst [.ref t])) := s0.trans (same_new hl)
    have nl : H l = none := s0.free hl
    refine ⟨_, rfl, _, rfl, by omega, by omega, for_range (lo := 0) (n := n) (fun i σ H' => ∃ (L : Addr) (as : List Addr) (v2 v3 v4 : Option V), σ = [some (.int (n : Int)), some (.ref L), v2, v3, v4] ∧ Same H H' ∧ H L = none ∧ H' L = some (.lst (as.map V.ref)) ∧ Tups K H' as (wio i))
      ⟨l, [t], none, none, none, rfl, s1, nl, upd_same, rfl, fun i a w h1 h2 => ?_⟩ ?_ ?_⟩
    · have e0 : i = 0 := by
        have := (List.getElem?_eq_some_iff.mp h1).1
        rw [List.length_singleton] at this
        omega
      subst e0
      have e1 : t = a := Option.some.inj h1
      have e2 : [] = w := Option.some.inj h2
      subst e1 e2
      have nt : t ≠ l := fun e => by
        rw [e, upd_same] at hl
        cases hl
      exact SqT.of (show upd (upd H t (.tup [])) l (.lst [.ref t]) t = some (.tup []) by rw [upd_ne nt, upd_same])
    · rintro i σ H1 hi ⟨L, as, v2, v3, v4, rfl, s2, nL, hL, hT⟩
      refine ⟨by show 0 ≤ sizeLine; decide, fun D hD => ?_⟩
      have s3 : Same H1 (upd H1 D (.lst [])) := same_new hD
      have nD : H D = none := s2.free hD
      have ll : as.length ≤ 100 := by
        rw [hT.1, wio_words i (by omega)]
        have : i = 0 ∨ i = 1 ∨ i = 2 ∨ i = 3 ∨ i = 4 ∨ i = 5 := by omega
        rcases this with rfl | rfl | rfl | rfl | rfl | rfl <;> decide
      refine ⟨_, rfl, L, rfl, ⟨_, SqL.of (s3 _ _ hL)⟩, for_list (K := K) (a := L) (xs := as.map V.ref) (fun j σ H' => ∃ (ls : List Addr) (v : Option V), σ = [some (.int (n : Int)), some (.ref L), some (.int (0 + (i : Int))), some (.ref D), v] ∧ Same H1 H' ∧ H' D = some (.lst (ls.map V.ref)) ∧ Tups K H' ls (((wio i).take j).flatMap fun w => [w ++ [0], w ++ [1]]))
        ⟨[], v4, rfl, s3, upd_same, rfl, fun i a w h1 h2 => by cases h1⟩ (fun j σ H' _ ⟨_, _, _, s4, _⟩ => SqL.of (s4 _ _ hL)) ?_ ?_⟩
      · rintro j x σ H2 hx ⟨ls, v, rfl, s4, hD2, hT2⟩
        obtain ⟨a, ha, rfl⟩ : ∃ a, as[j]? = some a ∧ x = V.ref a := by
          rw [List.getElem?_map] at hx
          cases e : as[j]? with
          | none =>
            rw [e] at hx
            cases hx
          | some a =>
            rw [e] at hx
            exact ⟨a, rfl, (Option.some.inj hx).symm⟩
        obtain ⟨w, hw⟩ : ∃ w, (wio i)[j]? = some w := ⟨_, List.getElem?_eq_getElem (by rw [← hT.1]; exact (List.getElem?_eq_some_iff.mp ha).1)⟩
        have lw : w.length ≤ 100 := by
          have m := List.mem_of_getElem? hw
          rw [wio_words i (by omega)] at m
          have := words_len i _ m
          omega
        have tw := hT.2 j a _ ha hw
        have lls : ls.length ≤ 200 := by
          rw [hT2.1, List.length_flatMap]
          have : ((wio i).take j).length ≤ 100 := by
            rw [List.length_take]
            rw [← hT.1]
            omega
          have k : ∀ l : List (List Nat), (l.map fun w => ([w ++ [0], w ++ [1]] : List (List Nat)).length).sum = 2 * l.length := by
            intro l
            induction l with
            | nil => rfl
            | cons a l ih =>
              rw [List.map_cons, List.sum_cons, ih, List.length_cons]
              show 2 + 2 * l.length = 2 * (l.length + 1)
              omega
          rw [k]
          omega
        refine ⟨_, rfl, .inl ⟨rfl, _, SqL.of hD2⟩, cat_one (b := 0) rfl (sqT_same s4 tw) lw fun H3 p s5 hp => ?_⟩
        refine ⟨D, _, _, rfl, rfl, s5 _ _ hD2, by rw [List.length_map]; exact Nat.lt_of_le_of_lt lls (by decide), ?_⟩
        have ep : upd H3 D (.lst (ls.map V.ref ++ [.ref p])) D = some (.lst ((ls ++ [p]).map V.ref)) := by
          rw [upd_same, List.map_append]
          rfl
        have hT4 := ((hT2.same s5).snoc hp).upd (o := .lst (ls.map V.ref ++ [.ref p])) (s5 _ _ hD2)
        have s6 : Same H1 (upd H3 D (.lst (ls.map V.ref ++ [.ref p]))) := same_upd (s4.trans s5) hD
        refine ⟨_, rfl, .inl ⟨rfl, _, SqL.of ep⟩, cat_one (b := 1) rfl (sqT_same s6 tw) lw fun H5 p2 s7 hp2 => ?_⟩
        refine ⟨D, _, _, rfl, rfl, s7 _ _ ep, by rw [List.length_map, List.length_append]; exact Nat.lt_of_le_of_lt (Nat.add_le_add_right lls 1) (by decide), ?_⟩
        refine ⟨ls ++ [p] ++ [p2], _, rfl, same_upd (s6.trans s7) hD, ?_, ?_⟩
        · rw [upd_same, List.map_append (l₂ := [p2])]
          rfl
        · have hT6 := ((hT4.same s7).snoc hp2).upd (o := .lst ((ls ++ [p]).map V.ref ++ [.ref p2])) (s7 _ _ ep)
          have e : ((wio i).take (j + 1)).flatMap (fun w => [w ++ [0], w ++ [1]]) = ((wio i).take j).flatMap (fun w => [w ++ [0], w ++ [1]]) ++ [w ++ [0]] ++ [w ++ [1]] := by
            rw [take_snoc hw, List.flatMap_append, List.append_assoc]
            rfl
          rw [e]
          exact hT6
      · rintro σ H2 ⟨ls, v, rfl, s4, hD2, hT2⟩
        refine ⟨_, rfl, D, ls, _, _, _, rfl, s2.trans s4, nD, hD2, ?_⟩
        rw [List.length_map, hT.1, List.take_length] at hT2
        exact hT2
    · rintro σ H1 ⟨L, as, v2, v3, v4, rfl, s2, nL, hL, hT⟩
      exact ⟨_, rfl, q _ L as s2 nL hL hT⟩
def spBest (K : PySem.W.Frag) : Sp := fun vs H Q _ => ∃ (b : Addr) (c : Kqi5.Costs) (n : Nat), vs = [.ref b, .int (n : Int)] ∧ SqT K H b (cv c) ∧ Cb c ∧ 0 < n ∧ n ≤ 6 ∧ ∀ (H' : Hp) (p : Addr), Same H H' → SqT K H' p (wv (Kqi5.best c n)) → Q (.ref p) H'
theorem ok_best_word {f : Addr} {fd : FuncData} (F : Fun K "best_word" "best_word" s_best_word f fd) {f1 f2 : Addr} {fd1 fd2 : FuncData} (c_word_cost : Cal P w K mg base 2 "word_cost" f1 fd1 ["costs", "word"] (spCost K))
    (c_words_in_order : Cal P w K mg base 1 "words_in_order" f2 fd2 ["steps"] (spOrder K)) : FnOk P w K mg base CX0 3 f fd ["costs", "steps"] (spBest K) := by
  refine F.ok sc_best_word (fun vs H Q E h => ?_) (fun cdv A outer s H vs Q E hr h => ?_)
  · obtain ⟨b, c, n, rfl, _⟩ := h
    rfl
  · obtain ⟨b, c, n, rfl, hC, hc, hn0, hn, q⟩ := h
    refine ⟨_, (pss_cons (ps_set (i := 2) sc_best_word.nd rfl (Or.inl rfl) pe_non)
      (pss_cons (ps_for PassesOwn.never rfl (pi_list (pe_call c_words_in_order.ok (hr.mono (by decide)) rfl c_words_in_order.mg c_words_in_order.kp c_words_in_order.b .nil pass0 (pa_cons (pv 1) pa_nil))) (pg_name (i := 3) sc_best_word.nd rfl (Or.inl rfl)) (pss_one (ps_if (PW.pt (pw_or (pt_cmpR op_isN (pv 2) pe_non (nomark _)) (pw_or1 (pt_cmpR op_lt (pe_call c_word_cost.ok (hr.mono (by decide)) rfl c_word_cost.mg c_word_cost.kp c_word_cost.b .nil pass0 (pa_cons (pv 0) (pa_cons (pv 3) pa_nil))) (pe_call c_word_cost.ok (hr.mono (by decide)) rfl c_word_cost.mg c_word_cost.kp c_word_cost.b .nil pass0 (pa_cons (pv 0) (pa_cons (pv 2) pa_nil))) (nomark _))))) (pss_one (ps_set (i := 2) sc_best_word.nd rfl (Or.inl rfl) (pv 3))) pss_nil)))
      (pss_one (ps_ret (pv 2))))), ?_⟩
    refine ⟨_, rfl, n, rfl, hn, fun H1 p as s1 np hp hT => ?_⟩
    rw [wio_words n hn] at hT
    have hC1 := sqT_same s1 hC
    refine ⟨p, rfl, ⟨_, SqL.of hp⟩, for_list (K := K) (a := p) (xs := as.map V.ref) (fun i σ H' => H' = H1 ∧ ∃ (x v : Option V), σ = [some (.ref b), some (.int (n : Int)), x, v] ∧ ((i = 0 ∧ x = some .non) ∨ (0 < i ∧ ∃ (a : Addr) (w : List Nat), x = some (.ref a) ∧ SqT K H1 a (wv w) ∧ FirstMin (Kqi5.cost c) ((Kqi5.words n).take i) w)))
      ⟨rfl, some .non, none, rfl, .inl ⟨rfl, rfl⟩⟩ (fun i σ H' _ h => by rw [h.1]; exact SqL.of hp) ?_ ?_⟩
    · rintro i x σ H' hx ⟨rfl, y, v, rfl, hy⟩
      obtain ⟨a, ha, rfl⟩ : ∃ a, as[i]? = some a ∧ x = V.ref a := by
        rw [List.getElem?_map] at hx
        cases e : as[i]? with
        | none =>
          rw [e] at hx
          cases hx
        | some a =>
          rw [e] at hx
          exact ⟨a, rfl, (Option.some.inj hx).symm⟩
      obtain ⟨w, hw⟩ : ∃ w, (Kqi5.words n)[i]? = some w := ⟨_, List.getElem?_eq_getElem (by rw [← hT.1]; exact (List.getElem?_eq_some_iff.mp ha).1)⟩
      have tw := hT.2 i a w ha hw
      have len : ∀ v : List Nat, v ∈ Kqi5.words n → v.length < 1000 := fun v hv => by
        have := words_len n v hv
        omega
      have lw := len w (List.mem_of_getElem? hw)
      rcases hy with ⟨rfl, rfl⟩ | ⟨hi, a', w', rfl, tw', fm⟩
      · refine ⟨_, rfl, rfl, _, rfl, itY (decide_eq_true rfl) (iteT ⟨_, rfl, rfl, _, _, rfl, .inr ⟨by decide, a, w, rfl, tw, ?_⟩⟩)⟩
        rw [take_snoc hw]
        exact .one w
      · have lw' := len w' (List.mem_of_mem_take fm.mem)
        refine ⟨_, rfl, rfl, _, rfl, itN (by rw [decide_eq_true_eq]; intro z; cases z) ?_⟩
        refine ⟨_, rfl, _, rfl, b, a, c, w, rfl, hC1, hc, .inr tw, lw, _, rfl, _, rfl, b, a', c, w', rfl, hC1, hc, .inr tw', lw', _, _, rfl, rfl, _, rfl, ite2 (fun d => ?_) (fun d => ?_)⟩
        · refine ⟨_, rfl, rfl, _, _, rfl, .inr ⟨by omega, a, w, rfl, tw, ?_⟩⟩
          rw [take_snoc hw]
          exact fm.turn (of_decide_eq_true d)
        · refine ⟨rfl, _, _, rfl, .inr ⟨by omega, a', w', rfl, tw', ?_⟩⟩
          rw [take_snoc hw]
          exact fm.keep (Int.not_lt.mp fun z => d (decide_eq_true z))
    · rintro σ H' ⟨rfl, y, v, rfl, hy⟩
      rw [List.length_map, hT.1, List.take_length] at hy
      rcases hy with ⟨e, _⟩ | ⟨hi, a', w', rfl, tw', fm⟩
      · have : 0 < (Kqi5.words n).length := by
          have : n = 1 ∨ n = 2 ∨ n = 3 ∨ n = 4 ∨ n = 5 ∨ n = 6 := by omega
          rcases this with rfl | rfl | rfl | rfl | rfl | rfl <;> decide
        omega
      · refine ⟨_, rfl, q _ a' s1 ?_⟩
        rw [best_find c hn0 fm]
        exact tw'
end
end LC


set_option Elab.async false
set_option maxRecDepth 100000
set_option maxHeartbeats 2000000
namespace LC
open PySem PySem.Spec PyProof.Rows L2
open PySem.W (Codec)
section
variable {P : Program} {w : World} {K : PySem.W.Frag} {mg : Str → Option Value} {base : Heap}
/-! ### the five -/
/-- the written tuple of the five, and what stands in it -/
structure Five (K : PySem.W.Frag) (mg : Str → Option Value) (aF : Addr) (as : List Addr) : Prop where
  g_FIVE : mg "FIVE" = some (.ref aF)
  sq : ∀ H : Hp, SqT K H aF (as.map V.ref)
  len : as.length = 5
  w5 : ∀ (H : Hp) (i : Nat) (a : Addr), as[i]? = some a → SqT K H a (wv (Kqi5.word i))
theorem Five.at_ {aF : Addr} {as : List Addr} (T : Five K mg aF as) {k : Nat} (hk : k < 5) : ∃ a, (as.map V.ref)[k]? = some (V.ref a) ∧ ∀ H : Hp, SqT K H a (wv (Kqi5.word k)) := by
  have h : k < as.length := by
    rw [T.len]
    exact hk
  refine ⟨as[k], ?_, fun H => T.w5 H k _ (List.getElem?_eq_getElem h)⟩
  rw [List.getElem?_map, List.getElem?_eq_getElem h]
  rfl
theorem word_pos {k : Nat} (hk : k < 5) : 0 < (Kqi5.word k).length ∧ (Kqi5.word k).length ≤ 6 := by
  have h : k = 0 ∨ k = 1 ∨ k = 2 ∨ k = 3 ∨ k = 4 := by omega
  rcases h with rfl | rfl | rfl | rfl | rfl <;> decide
theorem mean_fr (c : Kqi5.Costs) {w : List Nat} (h : 0 < w.length) : ∃ x y, Kqi5.mean c w = [x, y] ∧ Fr (Kqi5.cost c w) w.length x y := fr_is _ h
theorem less_noMore {c : Kqi5.Costs} {v w : List Nat} {x y x' y' : Int} (F : Fr (Kqi5.cost c v) v.length x y) (F' : Fr (Kqi5.cost c w) w.length x' y') : decide (x * y' < x' * y) = !Kqi5.noMore c w v := by
  have e : Kqi5.noMore c w v = decide (Kqi5.cost c w * (v.length : Int) ≤ Kqi5.cost c v * (w.length : Int)) := rfl
  rw [e]
  have i := F.lt_iff F'
  by_cases h : x * y' < x' * y
  · rw [decide_eq_true h, decide_eq_false (Int.not_le.mpr (i.mp h))]
    rfl
  · rw [decide_eq_false h, decide_eq_true (Int.not_lt.mp fun z => h (i.mpr z))]
    rfl
/-! ### least_of_five -/
def spLeast (K : PySem.W.Frag) : Sp := fun vs H Q _ => ∃ (b : Addr) (c : Kqi5.Costs), vs = [.ref b] ∧ SqT K H b (cv c) ∧ Cb c ∧ ∀ H' : Hp, Same H H' → Q (.int (Kqi5.least c : Int)) H'
theorem ok_least_of_five {f : Addr} {fd : FuncData} (F : Fun K "least_of_five" "least_of_five" s_least_of_five f fd) {aF : Addr} {as : List Addr} (T : Txt mg) (T5 : Five K mg aF as) {f1 f2 : Addr} {fd1 fd2 : FuncData}
    (c_word_mean : Cal P w K mg base 3 "word_mean" f1 fd1 ["costs", "word"] (spMean K)) (c_is_less : Cal P w K mg base 1 "is_less" f2 fd2 ["mean", "other"] (spLess K)) : FnOk P w K mg base CX0 4 f fd ["costs"] (spLeast K) := by
  refine F.ok sc_least_of_five (fun vs H Q E h => ?_) (fun cdv A outer s H vs Q E hr h => ?_)
  · obtain ⟨b, c, rfl, _⟩ := h
    rfl
  · obtain ⟨b, c, rfl, hC, hc, q⟩ := h
    refine ⟨_, (pss_cons (ps_set (i := 1) sc_least_of_five.nd rfl (Or.inl rfl) pe_int)
      (pss_cons (ps_for PassesOwn.never rfl (pi_range2 rfl T.n_range (pa_cons pe_int (pa_cons (pe_callB call_len_seq (by rfl) T.n_len (by decide +kernel) (pa_cons (pe_gref rfl T5.g_FIVE) pa_nil)) pa_nil))) (pg_name (i := 2) sc_least_of_five.nd rfl (Or.inl rfl)) (pss_one (ps_if (pt_val (pe_call c_is_less.ok (hr.mono (by decide)) rfl c_is_less.mg c_is_less.kp c_is_less.b .nil pass0 (pa_cons (pe_call c_word_mean.ok (hr.mono (by decide)) rfl c_word_mean.mg c_word_mean.kp c_word_mean.b .nil pass0 (pa_cons (pv 0) (pa_cons (pe_ix ix_seq (pe_gref rfl T5.g_FIVE) (pv 2) (fun _ _ => rfl)) pa_nil))) (pa_cons (pe_call c_word_mean.ok (hr.mono (by decide)) rfl c_word_mean.mg c_word_mean.kp c_word_mean.b .nil pass0 (pa_cons (pv 0) (pa_cons (pe_ix ix_seq (pe_gref rfl T5.g_FIVE) (pv 1) (fun _ _ => rfl)) pa_nil))) pa_nil)))) (pss_one (ps_set (i := 1) sc_least_of_five.nd rfl (Or.inl rfl) (pv 2))) pss_nil)))
      (pss_one (ps_ret (pv 1))))), ?_⟩
    have l5 : (as.map V.ref).length = 5 := by rw [List.length_map, T5.len]
    refine ⟨aF, _, rfl, .inr (T5.sq _), _, _, rfl, ⟨by decide, by decide, by rw [l5]; decide, by rw [l5]; decide⟩, for_range (lo := 1) (n := (((as.map V.ref).length : Int) - 1).toNat) (fun i σ H' => Same H H' ∧ ∃ (k : Nat) (v : Option V), σ = [some (.ref b), some (.int (k : Int)), v] ∧ FirstMin (m12 c) (List.range (1 + i)) k) ⟨.refl _, 0, none, rfl, .one 0⟩ ?_ ?_⟩
    · rintro i σ H1 hi ⟨s1, k, v, rfl, fm⟩
      rw [l5] at hi
      have hi : i < 4 := hi
      have hk : k < 5 := by
        have := List.mem_range.mp fm.mem
        omega
      obtain ⟨a1, e1, t1⟩ := T5.at_ (k := 1 + i) (by omega)
      obtain ⟨a2, e2, t2⟩ := T5.at_ hk
      obtain ⟨x1, y1, m1, F1⟩ := mean_fr c (word_pos (k := 1 + i) (by omega)).1
      obtain ⟨x2, y2, m2, F2⟩ := mean_fr c (word_pos hk).1
      have p1 := word_pos (k := 1 + i) (by omega)
      have p2 := word_pos hk
      refine ⟨_, rfl, _, rfl, ix_sq (.inr (T5.sq _)) (at_of (j := 1 + i) (by omega) e1) ⟨b, a1, c, _, rfl, sqT_same s1 hC, hc, .inr (t1 _), p1.1, by omega, fun H2 q1 s2 n1 g1 => ?_⟩⟩
      refine ⟨_, rfl, _, rfl, ix_sq (.inr (T5.sq _)) (at_of (j := k) rfl e2) ⟨b, a2, c, _, rfl, sqT_same (s1.trans s2) hC, hc, .inr (t2 _), p2.1, by omega, fun H3 q2 s3 n2 g2 => ?_⟩⟩
      rw [m1] at g1
      rw [m2] at g2
      have u1 := F1.low
      have u2 := F2.low
      refine ⟨q1, q2, x1, y1, x2, y2, rfl, SqT.of (s3 _ _ g1), SqT.of g2, ⟨F1.pos, by omega⟩, ⟨F2.pos, by omega⟩, _, rfl, ?_⟩
      rw [less_noMore F1 F2, noMore_five c k (1 + i) hk (by omega)]
      refine ite2 (fun d => ?_) (fun d => ?_)
      · refine ⟨_, rfl, (s1.trans s2).trans s3, 1 + i, some (.int (1 + (i : Int))), ?_, ?_⟩
        · show [_, some (V.int (1 + (i : Int))), _] = _
          rw [show ((1 + i : Nat) : Int) = 1 + (i : Int) by omega]
        · have e : List.range (1 + (i + 1)) = List.range (1 + i) ++ [1 + i] := List.range_succ
          rw [e]
          refine fm.turn ?_
          cases z : decide (m12 c k ≤ m12 c (1 + i)) with
          | true =>
            rw [z] at d
            cases d
          | false => exact Int.not_le.mp (of_decide_eq_false z)
      · refine ⟨(s1.trans s2).trans s3, k, _, rfl, ?_⟩
        have e : List.range (1 + (i + 1)) = List.range (1 + i) ++ [1 + i] := List.range_succ
        rw [e]
        refine fm.keep ?_
        cases z : decide (m12 c k ≤ m12 c (1 + i)) with
        | true => exact of_decide_eq_true z
        | false =>
          rw [z] at d
          exact absurd rfl d
    · rintro σ H1 ⟨s1, k, v, rfl, fm⟩
      rw [l5] at fm
      have e := least_find c fm
      refine ⟨_, rfl, ?_⟩
      rw [← e]
      exact q _ s1
/-! ### least_mean -/
def spLMean (K : PySem.W.Frag) : Sp := fun vs H Q _ => ∃ (b : Addr) (c : Kqi5.Costs), vs = [.ref b] ∧ SqT K H b (cv c) ∧ Cb c ∧ ∀ (H' : Hp) (p : Addr), Same H H' → H p = none → H' p = some (.tup (iv (Kqi5.mean c (Kqi5.word (Kqi5.least c))))) → Q (.ref p) H'
theorem ok_least_mean {f : Addr} {fd : FuncData} (F : Fun K "least_mean" "least_mean" s_least_mean f fd) {aF : Addr} {as : List Addr} (T5 : Five K mg aF as) {f1 f2 : Addr} {fd1 fd2 : FuncData}
    (c_word_mean : Cal P w K mg base 3 "word_mean" f1 fd1 ["costs", "word"] (spMean K)) (c_least_of_five : Cal P w K mg base 4 "least_of_five" f2 fd2 ["costs"] (spLeast K)) : FnOk P w K mg base CX0 5 f fd ["costs"] (spLMean K) := by
  refine F.ok sc_least_mean (fun vs H Q E h => ?_) (fun cdv A outer s H vs Q E hr h => ?_)
  · obtain ⟨b, c, rfl, _⟩ := h
    rfl
  · obtain ⟨b, c, rfl, hC, hc, q⟩ := h
    refine ⟨_, (pss_one (ps_ret (pe_call c_word_mean.ok (hr.mono (by decide)) rfl c_word_mean.mg c_word_mean.kp c_word_mean.b .nil pass0 (pa_cons (pv 0) (pa_cons (pe_ix ix_seq (pe_gref rfl T5.g_FIVE) (pe_call c_least_of_five.ok (hr.mono (by decide)) rfl c_least_of_five.mg c_least_of_five.kp c_least_of_five.b .nil pass0 (pa_cons (pv 0) pa_nil)) (fun _ _ => rfl)) pa_nil))))), ?_⟩
    obtain ⟨a1, e1, t1⟩ := T5.at_ (least_lt c)
    have p1 := word_pos (least_lt c)
    refine ⟨_, rfl, _, rfl, b, c, rfl, hC, hc, fun H1 s1 => ?_⟩
    refine ix_sq (.inr (T5.sq _)) (at_of (j := Kqi5.least c) rfl e1) ⟨b, a1, c, _, rfl, sqT_same s1 hC, hc, .inr (t1 _), p1.1, by omega, fun H2 p s2 n2 g2 => ?_⟩
    exact q H2 p (s1.trans s2) (s1.free n2) g2
/-! ### ties_of_five -/
def spTies (K : PySem.W.Frag) : Sp := fun vs H Q _ => ∃ (b : Addr) (c : Kqi5.Costs), vs = [.ref b] ∧ SqT K H b (cv c) ∧ Cb c ∧ ∀ (H' : Hp) (p : Addr), Same H H' → H p = none → H' p = some (.lst (iv (Kqi5.nats (Kqi5.ties c)))) → Q (.ref p) H'
theorem ok_ties_of_five {f : Addr} {fd : FuncData} (F : Fun K "ties_of_five" "ties_of_five" s_ties_of_five f fd) {aF : Addr} {as : List Addr} (T : Txt mg) (T5 : Five K mg aF as) {f1 f2 : Addr} {fd1 fd2 : FuncData}
    (c_word_mean : Cal P w K mg base 3 "word_mean" f1 fd1 ["costs", "word"] (spMean K)) (c_least_mean : Cal P w K mg base 5 "least_mean" f2 fd2 ["costs"] (spLMean K)) : FnOk P w K mg base CX0 6 f fd ["costs"] (spTies K) := by
  refine F.ok sc_ties_of_five (fun vs H Q E h => ?_) (fun cdv A outer s H vs Q E hr h => ?_)
  · obtain ⟨b, c, rfl, _⟩ := h
    rfl
  · obtain ⟨b, c, rfl, hC, hc, q⟩ := h
    refine ⟨_, (pss_cons (ps_set (i := 1) sc_ties_of_five.nd rfl (Or.inr rfl) (pe_call c_least_mean.ok (hr.mono (by decide)) rfl c_least_mean.mg c_least_mean.kp c_least_mean.b .nil pass0 (pa_cons (pv 0) pa_nil)))
      (pss_one (ps_ret (pe_lc (own := [("k", 2)]) (g := gName 2) (tt := tTest (tOp (rEqD K) (tCall (spMean K) [] E0 (tCons (tVar 0) (tCons (tOp (rIx K) (tC (.ref aF)) (tVar 2)) tNil))) (tVar 1))) rfl sc_ties_of_five.nd (pi_range1 rfl T.n_range (pa_cons (pe_callB call_len_seq (by rfl) T.n_len (by decide +kernel) (pa_cons (pe_gref rfl T5.g_FIVE) pa_nil)) pa_nil)) (blkOk_by (N := n_ties_of_five) (sc := defScope s_ties_of_five) (by decide +kernel)) (fun _ _ _ _ _ => pg_name (i := 2) sc_ties_of_five.nd rfl (Or.inl rfl)) (fun _ _ _ _ _ => (pts_one (pt_cmpR (op_eqD hr.units) (pe_call c_word_mean.ok (hr.mono (by decide)) rfl c_word_mean.mg c_word_mean.kp c_word_mean.b .nil pass0 (pa_cons (pv 0) (pa_cons (pe_ix ix_seq (pe_gref rfl T5.g_FIVE) (pv 2) (fun _ _ => rfl)) pa_nil))) (pv 1) (nomark _)))) (fun _ _ _ _ _ => (pv 2)))))), ?_⟩
    have l5 : (as.map V.ref).length = 5 := by rw [List.length_map, T5.len]
    obtain ⟨x2, y2, m2, F2⟩ := mean_fr c (word_pos (least_lt c)).1
    refine ⟨_, rfl, b, c, rfl, hC, hc, fun H1 q1 s1 n1 g1 => ?_⟩
    rw [m2] at g1
    refine ⟨aF, _, rfl, .inr (T5.sq _), _, rfl, by rw [l5]; decide, by rw [l5]; decide, fun D hD => lc_range (lo := 0) (n := (as.map V.ref).length) (fun i H' => Same H1 H' ∧ H' D = some (.lst (iv (Kqi5.nats ((List.range i).filter fun k => decide (Kqi5.mean c (Kqi5.word k) = Kqi5.mean c (Kqi5.word (Kqi5.least c)))))))) ⟨same_new hD, upd_same⟩ ?_ ?_⟩
    · rintro i H2 hi ⟨s2, hD2⟩
      rw [l5] at hi
      obtain ⟨a1, e1, t1⟩ := T5.at_ hi
      have p1 := word_pos hi
      obtain ⟨x1, y1, m1, F1⟩ := mean_fr c p1.1
      refine ⟨rfl, _, rfl, _, rfl, ix_sq (.inr (T5.sq _)) (at_of (j := i) (by omega) e1) ⟨b, a1, c, _, rfl, sqT_same (s1.trans s2) hC, hc, .inr (t1 _), p1.1, by omega, fun H3 p s3 n3 g3 => ?_⟩⟩
      rw [m1] at g3
      refine ⟨_, rfl, .tuple [.int x1, .int y1], .tuple [.int x2, .int y2], .tup (SqT.of g3) (.cons (.int x1) (.cons (.int y1) .nil)), .tup (SqT.of (s3 _ _ (s2 _ _ g1))) (.cons (.int x2) (.cons (.int y2) .nil)), rfl, rfl, _, rfl, ?_⟩
      have ev : PyData.eqv (.tuple [.int x1, .int y1]) (.tuple [.int x2, .int y2]) = decide (Kqi5.mean c (Kqi5.word i) = Kqi5.mean c (Kqi5.word (Kqi5.least c))) := by
        rw [m1, m2]
        show (x1 == x2 && (y1 == y2 && true)) = _
        rw [Bool.and_true]
        by_cases hx : x1 = x2
        · by_cases hy : y1 = y2
          · rw [hx, hy]
            simp
          · simp [hx, hy]
        · simp [hx]
      rw [ev, List.range_succ, List.filter_append]
      refine ite2 (fun d => ?_) (fun d => ?_)
      · refine ⟨_, rfl, _, s3 _ _ hD2, ?_, same_upd (s2.trans s3) hD, ?_⟩
        · rw [List.length_map, Kqi5.nats, List.length_map]
          have := List.length_filter_le (fun k => decide (Kqi5.mean c (Kqi5.word k) = Kqi5.mean c (Kqi5.word (Kqi5.least c)))) (List.range i)
          rw [List.length_range] at this
          exact Nat.lt_of_le_of_lt (Nat.le_trans this (Nat.le_of_lt hi)) (by decide)
        · rw [upd_same, List.filter_cons, if_pos d]
          unfold Kqi5.nats iv
          rw [List.map_append, List.map_append]
          show some (HO.lst (_ ++ [V.int (0 + (i : Int))])) = some (HO.lst (_ ++ [V.int (i : Int)]))
          rw [Int.zero_add]
      · refine ⟨s2.trans s3, ?_⟩
        rw [List.filter_cons, if_neg d, List.filter_nil, List.append_nil]
        exact s3 _ _ hD2
    · rintro H2 ⟨s2, hD2⟩
      rw [l5, ← ties_is] at hD2
      exact q H2 D (s1.trans s2) (s1.free hD) hD2
/-! ### is_good -/
def spGood (K : PySem.W.Frag) : Sp := fun vs H Q _ => ∃ (b a : Addr) (c : Kqi5.Costs) (w : List Nat), vs = [.ref b, .ref a] ∧ SqT K H b (cv c) ∧ Cb c ∧ Sq K H a (wv w) ∧ 0 < w.length ∧ w.length < 1000 ∧ ∀ H' : Hp, Same H H' → Q (.bl (Kqi5.noMore c w (Kqi5.word (Kqi5.least c)))) H'
theorem ok_is_good {f : Addr} {fd : FuncData} (F : Fun K "is_good" "is_good" s_is_good f fd) {f1 f2 f3 : Addr} {fd1 fd2 fd3 : FuncData}
    (c_word_mean : Cal P w K mg base 3 "word_mean" f1 fd1 ["costs", "word"] (spMean K)) (c_least_mean : Cal P w K mg base 5 "least_mean" f2 fd2 ["costs"] (spLMean K)) (c_is_less : Cal P w K mg base 1 "is_less" f3 fd3 ["mean", "other"] (spLess K)) : FnOk P w K mg base CX0 6 f fd ["costs", "word"] (spGood K) := by
  refine F.ok sc_is_good (fun vs H Q E h => ?_) (fun cdv A outer s H vs Q E hr h => ?_)
  · obtain ⟨b, a, c, w, rfl, _⟩ := h
    rfl
  · obtain ⟨b, a, c, w, rfl, hC, hc, hS, hl0, hl, q⟩ := h
    refine ⟨_, (pss_one (ps_ret (pe_not (pe_call c_is_less.ok (hr.mono (by decide)) rfl c_is_less.mg c_is_less.kp c_is_less.b .nil pass0 (pa_cons (pe_call c_least_mean.ok (hr.mono (by decide)) rfl c_least_mean.mg c_least_mean.kp c_least_mean.b .nil pass0 (pa_cons (pv 0) pa_nil)) (pa_cons (pe_call c_word_mean.ok (hr.mono (by decide)) rfl c_word_mean.mg c_word_mean.kp c_word_mean.b .nil pass0 (pa_cons (pv 0) (pa_cons (pv 1) pa_nil))) pa_nil)))))), ?_⟩
    obtain ⟨x1, y1, m1, F1⟩ := mean_fr c (word_pos (least_lt c)).1
    obtain ⟨x2, y2, m2, F2⟩ := mean_fr c hl0
    have p1 := word_pos (least_lt c)
    refine ⟨_, rfl, b, c, rfl, hC, hc, fun H1 q1 s1 n1 g1 => ?_⟩
    refine ⟨_, rfl, _, rfl, b, a, c, w, rfl, sqT_same s1 hC, hc, hS.same s1, hl0, hl, fun H2 q2 s2 n2 g2 => ?_⟩
    rw [m1] at g1
    rw [m2] at g2
    have u1 := F1.low
    have u2 := F2.low
    refine ⟨q1, q2, x1, y1, x2, y2, rfl, SqT.of (s2 _ _ g1), SqT.of g2, ⟨F1.pos, by omega⟩, ⟨F2.pos, by omega⟩, _, rfl, ?_⟩
    rw [less_noMore F1 F2, Bool.not_not]
    exact q _ (s1.trans s2)
end
end LC


set_option Elab.async false
set_option maxRecDepth 100000
set_option maxHeartbeats 2000000
namespace LC
open PySem PySem.Spec PyProof.Rows L2
open PySem.W (Codec)
abbrev s_with_step_turned : Stmt := top 18
abbrev n_with_step_turned : List Str := ["word", "i", "other"]
theorem sc_with_step_turned : FnScope n_with_step_turned ["word", "i"] (defScope s_with_step_turned) := ⟨rfl, rfl, rfl, by decide +kernel, rfl, by decide +kernel, by decide +kernel⟩
abbrev s_cost_with_step_turned : Stmt := top 19
abbrev n_cost_with_step_turned : List Str := ["costs", "word", "i"]
theorem sc_cost_with_step_turned : FnScope n_cost_with_step_turned ["costs", "word", "i"] (defScope s_cost_with_step_turned) := ⟨rfl, rfl, rfl, by decide +kernel, rfl, by decide +kernel, by decide +kernel⟩
abbrev s_falling_step : Stmt := top 20
abbrev n_falling_step : List Str := ["costs", "word", "found", "least", "i", "cost"]
theorem sc_falling_step : FnScope n_falling_step ["costs", "word"] (defScope s_falling_step) := ⟨rfl, rfl, rfl, by decide +kernel, rfl, by decide +kernel, by decide +kernel⟩
abbrev s_word_at_rest : Stmt := top 21
abbrev n_word_at_rest : List Str := ["costs", "word", "resting", "step"]
theorem sc_word_at_rest : FnScope n_word_at_rest ["costs", "word"] (defScope s_word_at_rest) := ⟨rfl, rfl, rfl, by decide +kernel, rfl, by decide +kernel, by decide +kernel⟩

/-- steps are 0 or 1 -/
def Bits (w : List Nat) : Prop := ∀ x ∈ w, x ≤ 1
theorem at_le {w : List Nat} (h : Bits w) {i : Nat} (hi : i < w.length) : Kqi5.at_ w i ≤ 1 := by
  unfold Kqi5.at_
  rw [List.getD_eq_getElem?_getD, List.getElem?_eq_getElem hi]
  exact h _ (List.getElem_mem hi)
theorem wv_set (w : List Nat) (i y : Nat) : (wv w).set i (V.int (y : Int)) = wv (w.set i y) := by
  unfold wv
  rw [List.map_set]
theorem ixN_nat {n i : Nat} (h : i < n) : ixN n (i : Int) = some i := by
  unfold ixN
  rw [if_pos (by omega), if_pos (by omega)]
  simp
/-- a step's number, or none -/
def optV : Option Nat → V
  | none => .non
  | some i => .int (i : Int)
theorem lower_non {c : Kqi5.Costs} {w : List Nat} (h : ∀ j, j < w.length → Kqi5.cost c w ≤ Kqi5.cost c (Kqi5.turned w j)) : Kqi5.lower c w = none := by
  unfold Kqi5.lower
  refine List.find?_eq_none.mpr fun y hy q => ?_
  simp only [Bool.and_eq_true, decide_eq_true_eq, List.all_eq_true] at q
  have := h y (List.mem_range.mp hy)
  omega
/-- what values stand for, as steps -/
def unw (xs : List V) : List Nat := xs.map fun v => match v with
  | .int z => z.toNat
  | _ => 0
theorem unw_wv (w : List Nat) : unw (wv w) = w := by
  unfold unw wv
  rw [List.map_map]
  have e : ((fun v => match v with
    | V.int z => z.toNat
    | _ => 0) ∘ fun (x : Nat) => V.int (x : Int)) = (id : Nat → Nat) := by
    funext x
    exact Int.toNat_natCast x
  rw [e, List.map_id]
section
variable {P : Program} {w : World} {K : PySem.W.Frag} {mg : Str → Option Value} {base : Heap}
/-! ### with_step_turned -/
def spTurned (K : PySem.W.Frag) : Sp := fun vs H Q _ => ∃ (a : Addr) (w : List Nat) (i : Nat), vs = [.ref a, .int (i : Int)] ∧ Sq K H a (wv w) ∧ i < w.length ∧ Bits w ∧
  ∀ (H' : Hp) (p : Addr), Same H H' → H p = none → H' p = some (.lst (wv (Kqi5.turned w i))) → Q (.ref p) H'
theorem ok_with_step_turned {f : Addr} {fd : FuncData} (F : Fun K "with_step_turned" "with_step_turned" s_with_step_turned f fd) (T : Txt mg) : FnOk P w K mg base CX0 1 f fd ["word", "i"] (spTurned K) := by
  refine F.ok sc_with_step_turned (fun vs H Q E h => ?_) (fun cdv A outer s H vs Q E hr h => ?_)
  · obtain ⟨a, w, i, rfl, _⟩ := h
    rfl
  · obtain ⟨a, w, i, rfl, hS, hi, hb, q⟩ := h
    refine ⟨_, (pss_cons (ps_set (i := 2) sc_with_step_turned.nd rfl (Or.inl rfl) (pe_callTy call_list_of (by rfl) T.n_list (by decide +kernel) (pa_cons (pv 0) pa_nil)))
      (pss_cons (ps_asg (pe_op op_sub pe_int (pe_ix ix_seq (pv 2) (pv 1) (fun _ _ => rfl))) (pg_sub (pv 2) (pv 1) set_list))
      (pss_one (ps_ret (pv 2))))), ?_⟩
    have el := wv_len w
    have hx := at_le hb hi
    refine ⟨_, rfl, a, _, rfl, hS, fun l hl => ?_⟩
    refine ⟨_, rfl, _, rfl, ix_sq (.inl (SqL.of upd_same)) (at_of (j := i) rfl (wv_at hi)) ⟨_, _, rfl, rfl, ?_⟩⟩
    refine ⟨_, rfl, _, rfl, l, _, _, i, rfl, rfl, upd_same, ixN_nat (by rw [el]; exact hi), ?_⟩
    refine ⟨_, rfl, q _ l (same_upd (same_new hl) hl) hl ?_⟩
    rw [upd_same]
    have e : (1 : Int) - (Kqi5.at_ w i : Int) = ((1 - Kqi5.at_ w i : Nat) : Int) := by omega
    dsimp only
    rw [e, wv_set]
    rfl
/-! ### cost_with_step_turned -/
def spCostT (K : PySem.W.Frag) : Sp := fun vs H Q _ => ∃ (b a : Addr) (c : Kqi5.Costs) (w : List Nat) (i : Nat), vs = [.ref b, .ref a, .int (i : Int)] ∧ SqT K H b (cv c) ∧ Cb c ∧ Sq K H a (wv w) ∧ i < w.length ∧ w.length < 1000 ∧ Bits w ∧
  ∀ H' : Hp, Same H H' → Q (.int (Kqi5.cost c (Kqi5.turned w i))) H'
theorem ok_cost_with_step_turned {f : Addr} {fd : FuncData} (F : Fun K "cost_with_step_turned" "cost_with_step_turned" s_cost_with_step_turned f fd) {f1 f2 : Addr} {fd1 fd2 : FuncData} (c_word_cost : Cal P w K mg base 2 "word_cost" f1 fd1 ["costs", "word"] (spCost K))
    (c_with_step_turned : Cal P w K mg base 1 "with_step_turned" f2 fd2 ["word", "i"] (spTurned K)) : FnOk P w K mg base CX0 3 f fd ["costs", "word", "i"] (spCostT K) := by
  refine F.ok sc_cost_with_step_turned (fun vs H Q E h => ?_) (fun cdv A outer s H vs Q E hr h => ?_)
  · obtain ⟨b, a, c, w, i, rfl, _⟩ := h
    rfl
  · obtain ⟨b, a, c, w, i, rfl, hC, hc, hS, hi, hl, hb, q⟩ := h
    refine ⟨_, (pss_one (ps_ret (pe_call c_word_cost.ok (hr.mono (by decide)) rfl c_word_cost.mg c_word_cost.kp c_word_cost.b .nil pass0 (pa_cons (pv 0) (pa_cons (pe_call c_with_step_turned.ok (hr.mono (by decide)) rfl c_with_step_turned.mg c_with_step_turned.kp c_with_step_turned.b .nil pass0 (pa_cons (pv 1) (pa_cons (pv 2) pa_nil))) pa_nil))))), ?_⟩
    refine ⟨_, rfl, _, rfl, _, rfl, a, w, i, rfl, hS, hi, hb, fun H1 p s1 n1 g1 => ?_⟩
    exact ⟨b, p, c, Kqi5.turned w i, rfl, sqT_same s1 hC, hc, .inl (SqL.of g1), by rw [turned_len]; exact hl, q _ s1⟩
/-! ### falling_step -/
def spFallS (K : PySem.W.Frag) : Sp := fun vs H Q _ => ∃ (b a : Addr) (c : Kqi5.Costs) (w : List Nat), vs = [.ref b, .ref a] ∧ SqT K H b (cv c) ∧ Cb c ∧ Sq K H a (wv w) ∧ w.length < 1000 ∧ Bits w ∧
  ∀ H' : Hp, Same H H' → Q (optV (Kqi5.lower c w)) H'
theorem ok_falling_step {f : Addr} {fd : FuncData} (F : Fun K "falling_step" "falling_step" s_falling_step f fd) (T : Txt mg) {f1 f2 : Addr} {fd1 fd2 : FuncData} (c_word_cost : Cal P w K mg base 2 "word_cost" f1 fd1 ["costs", "word"] (spCost K))
    (c_cost_with_step_turned : Cal P w K mg base 3 "cost_with_step_turned" f2 fd2 ["costs", "word", "i"] (spCostT K)) : FnOk P w K mg base CX0 4 f fd ["costs", "word"] (spFallS K) := by
  refine F.ok sc_falling_step (fun vs H Q E h => ?_) (fun cdv A outer s H vs Q E hr h => ?_)
  · obtain ⟨b, a, c, w, rfl, _⟩ := h
    rfl
  · obtain ⟨b, a, c, w, rfl, hC, hc, hS, hl, hb, q⟩ := h
    refine ⟨_, (pss_cons (ps_set (i := 2) sc_falling_step.nd rfl (Or.inl rfl) pe_non)
      (pss_cons (ps_set (i := 3) sc_falling_step.nd rfl (Or.inl rfl) (pe_call c_word_cost.ok (hr.mono (by decide)) rfl c_word_cost.mg c_word_cost.kp c_word_cost.b .nil pass0 (pa_cons (pv 0) (pa_cons (pv 1) pa_nil))))
      (pss_cons (ps_for PassesOwn.never rfl (pi_range1 rfl T.n_range (pa_cons (pe_callB call_len_seq (by rfl) T.n_len (by decide +kernel) (pa_cons (pv 1) pa_nil)) pa_nil)) (pg_name (i := 4) sc_falling_step.nd rfl (Or.inl rfl)) (pss_cons (ps_set (i := 5) sc_falling_step.nd rfl (Or.inl rfl) (pe_call c_cost_with_step_turned.ok (hr.mono (by decide)) rfl c_cost_with_step_turned.mg c_cost_with_step_turned.kp c_cost_with_step_turned.b .nil pass0 (pa_cons (pv 0) (pa_cons (pv 1) (pa_cons (pv 4) pa_nil)))))
      (pss_one (ps_if (pt_cmpR op_lt (pv 5) (pv 3) (nomark _)) (pss_cons (ps_set (i := 2) sc_falling_step.nd rfl (Or.inl rfl) (pv 4))
      (pss_one (ps_set (i := 3) sc_falling_step.nd rfl (Or.inl rfl) (pv 5)))) pss_nil))))
      (pss_one (ps_ret (pv 2)))))), ?_⟩
    have el := wv_len w
    refine ⟨_, rfl, _, rfl, b, a, c, w, rfl, hC, hc, hS, hl, ?_⟩
    refine ⟨_, rfl, a, _, rfl, hS, _, rfl, by rw [el]; omega, by rw [el]; omega, for_range (lo := 0) (n := (wv w).length) (fun i σ H' => Same H H' ∧ ∃ (o : Option Nat) (m : Int) (v4 v5 : Option V), σ = [some (.ref b), some (.ref a), some (optV o), some (.int m), v4, v5] ∧
        ((o = none ∧ m = Kqi5.cost c w ∧ ∀ j, j < i → Kqi5.cost c w ≤ Kqi5.cost c (Kqi5.turned w j)) ∨ ∃ k, o = some k ∧ m = Kqi5.cost c (Kqi5.turned w k) ∧ m < Kqi5.cost c w ∧ FirstMin (fun i => Kqi5.cost c (Kqi5.turned w i)) (List.range i) k))
      ⟨.refl _, none, _, none, none, rfl, .inl ⟨rfl, rfl, fun j hj => absurd hj (Nat.not_lt_zero _)⟩⟩ ?_ ?_⟩
    · rintro i σ H1 hi ⟨s1, o, m, v4, v5, rfl, hm⟩
      rw [el] at hi
      refine ⟨_, rfl, _, rfl, _, rfl, b, a, c, w, i, by rw [Int.zero_add]; rfl, sqT_same s1 hC, hc, hS.same s1, hi, hl, hb, fun H2 s2 => ?_⟩
      have s3 := s1.trans s2
      refine ⟨_, rfl, _, rfl, _, _, rfl, rfl, _, rfl, ite2 (fun d => ?_) (fun d => ?_)⟩
      · have d' : Kqi5.cost c (Kqi5.turned w i) < m := of_decide_eq_true d
        refine ⟨_, rfl, _, rfl, s3, some i, _, some (.int (0 + (i : Int))), _, by rw [Int.zero_add]; rfl, .inr ⟨i, rfl, rfl, ?_, ?_⟩⟩
        · rcases hm with ⟨_, e, _⟩ | ⟨k, _, _, h2, _⟩
          · omega
          · omega
        · rw [List.range_succ]
          rcases hm with ⟨_, e, hj⟩ | ⟨k, _, e, h2, fm⟩
          · refine ⟨List.range i, [], rfl, fun y hy => ?_, fun y hy => absurd hy List.not_mem_nil⟩
            have := hj y (List.mem_range.mp hy)
            show Kqi5.cost c (Kqi5.turned w i) < Kqi5.cost c (Kqi5.turned w y)
            omega
          · refine fm.turn ?_
            show Kqi5.cost c (Kqi5.turned w i) < Kqi5.cost c (Kqi5.turned w k)
            omega
      · have d' : ¬ Kqi5.cost c (Kqi5.turned w i) < m := fun z => d (decide_eq_true z)
        refine ⟨s3, o, m, some (.int (0 + (i : Int))), _, rfl, ?_⟩
        rcases hm with ⟨e1, e, hj⟩ | ⟨k, e1, e, h2, fm⟩
        · refine .inl ⟨e1, e, fun j h => ?_⟩
          by_cases ej : j = i
          · rw [ej]
            omega
          · exact hj j (by omega)
        · refine .inr ⟨k, e1, e, h2, ?_⟩
          rw [List.range_succ]
          refine fm.keep ?_
          show Kqi5.cost c (Kqi5.turned w k) ≤ Kqi5.cost c (Kqi5.turned w i)
          omega
    · rintro σ H1 ⟨s1, o, m, v4, v5, rfl, hm⟩
      rw [el] at hm
      refine ⟨_, rfl, ?_⟩
      rcases hm with ⟨rfl, e, hj⟩ | ⟨k, rfl, e, h2, fm⟩
      · have := q H1 s1
        rw [lower_non hj] at this
        exact this
      · have := q H1 s1
        rw [lower_find c fm, if_pos (by omega)] at this
        exact this
/-! ### word_at_rest -/
def spRestW (K : PySem.W.Frag) : Sp := fun vs H Q _ => ∃ (b a : Addr) (c : Kqi5.Costs) (w : List Nat), vs = [.ref b, .ref a] ∧ SqT K H b (cv c) ∧ Cb c ∧ Sq K H a (wv w) ∧ w.length ≤ 12 ∧ Bits w ∧
  ∀ (H' : Hp) (p : Addr), Same H H' → H p = none → H' p = some (.lst (wv (Kqi5.falls c Kqi5.FUEL w))) → Q (.ref p) H'
theorem ok_word_at_rest {f : Addr} {fd : FuncData} (F : Fun K "word_at_rest" "word_at_rest" s_word_at_rest f fd) (T : Txt mg) {f1 f2 : Addr} {fd1 fd2 : FuncData} (c_with_step_turned : Cal P w K mg base 1 "with_step_turned" f1 fd1 ["word", "i"] (spTurned K))
    (c_falling_step : Cal P w K mg base 4 "falling_step" f2 fd2 ["costs", "word"] (spFallS K)) : FnOk P w K mg base CX0 5 f fd ["costs", "word"] (spRestW K) := by
  refine F.ok sc_word_at_rest (fun vs H Q E h => ?_) (fun cdv A outer s H vs Q E hr h => ?_)
  · obtain ⟨b, a, c, w, rfl, _⟩ := h
    rfl
  · obtain ⟨b, a, c, w, rfl, hC, hc, hS, hl, hb, q⟩ := h
    refine ⟨_, (pss_cons (ps_set (i := 2) sc_word_at_rest.nd rfl (Or.inl rfl) (pe_callTy call_list_of (by rfl) T.n_list (by decide +kernel) (pa_cons (pv 1) pa_nil)))
      (pss_cons (ps_set (i := 3) sc_word_at_rest.nd rfl (Or.inl rfl) (pe_call c_falling_step.ok (hr.mono (by decide)) rfl c_falling_step.mg c_falling_step.kp c_falling_step.b .nil pass0 (pa_cons (pv 0) (pa_cons (pv 2) pa_nil))))
      (pss_cons (ps_while PassesOwn.never (pt_cmpR op_notN (pv 3) pe_non (nomark _)) (pss_cons (ps_set (i := 2) sc_word_at_rest.nd rfl (Or.inl rfl) (pe_call c_with_step_turned.ok (hr.mono (by decide)) rfl c_with_step_turned.mg c_with_step_turned.kp c_with_step_turned.b .nil pass0 (pa_cons (pv 2) (pa_cons (pv 3) pa_nil))))
      (pss_one (ps_set (i := 3) sc_word_at_rest.nd rfl (Or.inl rfl) (pe_call c_falling_step.ok (hr.mono (by decide)) rfl c_falling_step.mg c_falling_step.kp c_falling_step.b .nil pass0 (pa_cons (pv 0) (pa_cons (pv 2) pa_nil)))))))
      (pss_one (ps_ret (pv 2)))))), ?_⟩
    refine ⟨_, rfl, a, _, rfl, hS, fun l hl0 => ?_⟩
    have s0 := same_new (o := .lst (wv w)) hl0
    refine ⟨_, rfl, _, rfl, b, l, c, w, rfl, sqT_same s0 hC, hc, .inl (SqL.of upd_same), by omega, hb, fun H1 s1 => ?_⟩
    refine while_by (fun σ H' => Same H H' ∧ ∃ (L : Addr) (v : List Nat) (f : Nat), σ = [some (.ref b), some (.ref a), some (.ref L), some (optV (Kqi5.lower c v))] ∧ H L = none ∧ H' L = some (.lst (wv v)) ∧ v.length = w.length ∧ Bits v ∧ meas c v ≤ f ∧ Kqi5.falls c f v = Kqi5.falls c Kqi5.FUEL w)
      (fun σ H' => match σ with
        | [_, _, some (.ref L), _] => (match H' L with
          | some (.lst xs) => meas c (unw xs)
          | _ => 0)
        | _ => 0)
      ⟨s0.trans s1, l, w, Kqi5.FUEL, rfl, hl0, s1 _ _ upd_same, rfl, hb, meas_top hc hl, rfl⟩ ?_ ?_
    · rintro σ H2 ⟨s2, L, v, f, rfl, nL, gL, lv, bv, hm, hf⟩
      refine ⟨_, rfl, rfl, _, rfl, ite2 (fun d => ?_) (fun d => ?_)⟩
      · cases e : Kqi5.lower c v with
        | none =>
          rw [e] at d
          cases d
        | some i =>
          have hi := (lower_some e).1
          have hmf := meas_fall hc (by omega) e
          obtain ⟨f', rfl⟩ : ∃ f', f = f' + 1 := ⟨f - 1, by omega⟩
          rw [falls_some e] at hf
          refine ⟨_, rfl, _, rfl, L, v, i, rfl, .inl (SqL.of gL), hi, bv, fun H3 p s3 n3 g3 => ?_⟩
          have lt := turned_len v i
          refine ⟨_, rfl, _, rfl, b, p, c, Kqi5.turned v i, rfl, sqT_same (s2.trans s3) hC, hc, .inl (SqL.of g3), by omega, turned_ok bv i, fun H4 s4 => ?_⟩
          refine ⟨⟨(s2.trans s3).trans s4, p, Kqi5.turned v i, f', rfl, s2.free n3, s4 _ _ g3, by omega, turned_ok bv i, by omega, hf⟩, ?_⟩
          show (match H4 p with
            | some (.lst xs) => meas c (unw xs)
            | _ => 0) < (match H2 L with
            | some (.lst xs) => meas c (unw xs)
            | _ => 0)
          rw [s4 _ _ g3, gL]
          show meas c (unw (wv (Kqi5.turned v i))) < meas c (unw (wv v))
          rw [unw_wv, unw_wv]
          omega
      · cases e : Kqi5.lower c v with
        | some i =>
          rw [e] at d
          exact absurd rfl d
        | none =>
          rw [falls_none e] at hf
          rw [hf] at gL
          exact ⟨_, rfl, q _ L s2 nL gL⟩
    · rintro σ H' Q1 Q2 m ⟨x, h1, h2, k, h3, h4⟩
      exact ⟨x, h1, h2, k, h3, m _ _ h4⟩
end
end LC


set_option Elab.async false
set_option maxRecDepth 100000
set_option maxHeartbeats 2000000
namespace LC
open PySem PySem.Spec PyProof.Rows L2
open PySem.W (Codec)
/-! ### Layers: how the object lies in the heap -/
theorem look_here {k : Str} {v : V} {r : List (Str × V)} : List.lookup k ((k, v) :: r) = some v := by simp only [List.lookup, beq_self_eq_true]
theorem look_on {k g : Str} {v : V} {r : List (Str × V)} (h : (k == g) = false) : List.lookup k ((g, v) :: r) = List.lookup k r := by simp only [List.lookup, h]
theorem set_here {f : Str} {v x : V} {r : List (Str × V)} : putF f v ((f, x) :: r) = (f, v) :: r := if_pos rfl
theorem set_on {f g : Str} {v x : V} {r : List (Str × V)} (h : ¬ g = f) : putF f v ((g, x) :: r) = (g, x) :: putF f v r := if_neg h
def lF (b : Bool) (t : Addr) : List (Str × V) := [("started", .bl b), ("costs", .ref t)]
theorem lF_started (b : Bool) (t : Addr) : (lF b t).lookup ("started" : Str) = some (.bl b) := look_here
theorem lF_costs (b : Bool) (t : Addr) : (lF b t).lookup ("costs" : Str) = some (.ref t) := (look_on (by decide +kernel)).trans look_here
theorem lF_no (b : Bool) (t : Addr) {m : Str} (h1 : (m == ("started" : Str)) = false) (h2 : (m == ("costs" : Str)) = false) : (lF b t).lookup m = none := (look_on h1).trans ((look_on h2).trans rfl)
theorem lF_put1 (b b' : Bool) (t : Addr) : putF "started" (.bl b') (lF b t) = lF b' t := set_here
theorem lF_put2 (b : Bool) (t t' : Addr) : putF "costs" (.ref t') (lF b t) = lF b t' := (set_on (by decide +kernel)).trans (congrArg _ set_here)
theorem lF_new (b : Bool) (t : Addr) : putF "costs" (.ref t) (putF "started" (.bl b) []) = lF b t := (set_on (by decide +kernel)).trans rfl
/-- the object at a stands as the machine's state s -/
structure LayAt (K : PySem.W.Frag) (C : Addr) (H : Hp) (a : Addr) (s : Option Kqi5.Costs) : Prop where
  ex : ∃ (dx t : Addr) (c : Kqi5.Costs), H a = some (.ins C dx (lF s.isSome t)) ∧ SqT K H t (cv c) ∧ Cb c ∧ ∀ x, s = some x → x = c
/-- all that was tracked but for the object at a is as it was -/
def Keep (a : Addr) (H H' : Hp) : Prop := ∀ b o, H b = some o → b ≠ a → H' b = some o
theorem Keep.of {H H' : Hp} {a : Addr} (e : Same H H') : Keep a H H' := fun b o h _ => e b o h
theorem Keep.upd {H H' : Hp} {a : Addr} {o : HO} (e : Keep a H H') : Keep a H (upd H' a o) := fun b u h n => by
  rw [upd_ne n]
  exact e b u h n
theorem Keep.same {H H' H2 : Hp} {a : Addr} (e : Keep a H H') (e2 : Same H' H2) : Keep a H H2 := fun b o h n => e2 b o (e b o h n)
theorem Same.keep {H H' H2 : Hp} {a : Addr} (e : Same H H') (e2 : Keep a H' H2) : Keep a H H2 := fun b o h n => e2 b o (e b o h) n
theorem Keep.trans {H H' H2 : Hp} {a : Addr} (e : Keep a H H') (e2 : Keep a H' H2) : Keep a H H2 := fun b o h n => e2 b o (e b o h n) n
theorem Keep.free {H H' : Hp} {a p : Addr} {o : HO} (e : Keep a H H') (hp : H' p = none) (ha : H' a = some o) : H p = none := by
  cases q : H p with
  | none => rfl
  | some u =>
    have n : p ≠ a := fun z => by
      rw [z, ha] at hp
      cases hp
    rw [e p u q n] at hp
    cases hp
/-- an object that is changed is neither a tuple nor a list -/
theorem Keep.sqT {K : PySem.W.Frag} {H H' : Hp} {a b : Addr} {C dx : Addr} {fs : List (Str × V)} {xs : List V} (e : Keep a H H') (ha : H a = some (.ins C dx fs)) (h : SqT K H b xs) : SqT K H' b xs := by
  have k : ∀ u, H b = some u → (∀ C dx fs, u ≠ .ins C dx fs) → H' b = some u := fun u eu n => e _ _ eu fun z => by
    rw [z, ha] at eu
    exact n _ _ _ (Option.some.inj eu).symm
  rcases h with (h | ⟨o, h⟩) | h
  · exact .inl (.inl (k _ h fun _ _ _ z => by cases z))
  · exact .inl (.inr ⟨o, k _ h fun _ _ _ z => by cases z⟩)
  · exact .inr h
theorem Keep.sqL {K : PySem.W.Frag} {H H' : Hp} {a b : Addr} {C dx : Addr} {fs : List (Str × V)} {xs : List V} (e : Keep a H H') (ha : H a = some (.ins C dx fs)) (h : SqL K H b xs) : SqL K H' b xs := by
  have k : ∀ u, H b = some u → (∀ C dx fs, u ≠ .ins C dx fs) → H' b = some u := fun u eu n => e _ _ eu fun z => by
    rw [z, ha] at eu
    exact n _ _ _ (Option.some.inj eu).symm
  rcases h with (h | ⟨o, h⟩) | h
  · exact .inl (.inl (k _ h fun _ _ _ z => by cases z))
  · exact .inl (.inr ⟨o, k _ h fun _ _ _ z => by cases z⟩)
  · exact .inr h
theorem LayAt.same {K : PySem.W.Frag} {C : Addr} {H H' : Hp} {a : Addr} {s : Option Kqi5.Costs} (h : LayAt K C H a s) (e : Same H H') : LayAt K C H' a s := by
  obtain ⟨dx, t, c, h1, h2, h3, h4⟩ := h.ex
  exact ⟨dx, t, c, e _ _ h1, sqT_same e h2, h3, h4⟩
structure TxtL (K : PySem.W.Frag) (mg : Str → Option Value) (C fI : Addr) : Prop where
  cl : Cls K C
  n_started : NoAttr K C "started"
  n_costs : NoAttr K C "costs"
  g : mg "Layers" = some (.ref C)
  made : Mk K C fI
structure CalM (P : Program) (w : World) (K : PySem.W.Frag) (mg : Str → Option Value) (base : Heap) (k : Nat) (C : Addr) (x : Str) (f : Addr) (fd : FuncData) (ps : List Str) (sp : Sp) : Prop where
  ok : FnOk P w K mg base CX0 k f fd ps sp
  mt : Meth K C x f
  b : Binds K fd ps []
/-- what the specification answers to a call behind a start -/
def An (c : Kqi5.Costs) (k : Kqi5.Call) : List Int := Kqi5Neutral.tell (Kqi5.step (some c) k).2
/-- a method that only tells: what it is handed, and the call that this is -/
def spRead (K : PySem.W.Frag) (C : Addr) (rd : List V → Hp → Kqi5.Call → Prop) : Sp := fun vs H Q _ => ∃ (a : Addr) (us : List V) (k : Kqi5.Call) (c : Kqi5.Costs), vs = .ref a :: us ∧ LayAt K C H a (some c) ∧ rd us H k ∧
  ∀ (H' : Hp) (p : Addr), Same H H' → H p = none → H' p = some (.lst (iv (An c k))) → Q (.ref p) H'
/-- a right word in a list of its own -/
def WordAt (H : Hp) (r : Addr) (w : List Nat) : Prop := H r = some (.lst (wv w)) ∧ Kqi5.ok w = true
theorem WordAt.same {H H' : Hp} {r : Addr} {w : List Nat} (h : WordAt H r w) (e : Same H H') : WordAt H' r w := ⟨e _ _ h.1, h.2⟩
theorem WordAt.len {H : Hp} {r : Addr} {w : List Nat} (h : WordAt H r w) : 1 ≤ w.length ∧ w.length ≤ 12 := (ok_iff.mp h.2).1
theorem WordAt.bits {H : Hp} {r : Addr} {w : List Nat} (h : WordAt H r w) : Bits w := (ok_iff.mp h.2).2
theorem WordAt.sq {K : PySem.W.Frag} {H : Hp} {r : Addr} {w : List Nat} (h : WordAt H r w) : Sq K H r (wv w) := .inl (SqL.of h.1)
def rdWord (g : List Nat → Kqi5.Call) (us : List V) (H : Hp) (k : Kqi5.Call) : Prop := ∃ (r : Addr) (w : List Nat), us = [.ref r] ∧ WordAt H r w ∧ k = g w
def rdTwo (g : List Nat → List Nat → Kqi5.Call) (us : List V) (H : Hp) (k : Kqi5.Call) : Prop := ∃ (r1 r2 : Addr) (w1 w2 : List Nat), us = [.ref r1, .ref r2] ∧ WordAt H r1 w1 ∧ WordAt H r2 w2 ∧ k = g w1 w2
def rdTurn (us : List V) (H : Hp) (k : Kqi5.Call) : Prop := ∃ (i : Nat) (r : Addr) (w : List Nat), us = [.int (i : Int), .ref r] ∧ WordAt H r w ∧ k = .turn i w
def rdNum (g : Nat → Kqi5.Call) (us : List V) (_ : Hp) (k : Kqi5.Call) : Prop := ∃ n : Nat, us = [.int (n : Int)] ∧ k = g n
def rdNo (g : Kqi5.Call) (us : List V) (_ : Hp) (k : Kqi5.Call) : Prop := us = [] ∧ k = g
abbrev s_Layers_init : Stmt := inClass (top 45) 0
abbrev n_Layers_init : List Str := ["self"]
theorem sc_Layers_init : FnScope n_Layers_init ["self"] (defScope s_Layers_init) := ⟨rfl, rfl, rfl, by decide +kernel, rfl, by decide +kernel, by decide +kernel⟩
abbrev s_Layers_start : Stmt := inClass (top 45) 1
abbrev n_Layers_start : List Str := ["self"]
theorem sc_Layers_start : FnScope n_Layers_start ["self"] (defScope s_Layers_start) := ⟨rfl, rfl, rfl, by decide +kernel, rfl, by decide +kernel, by decide +kernel⟩
abbrev s_Layers_change_costs : Stmt := inClass (top 45) 2
abbrev n_Layers_change_costs : List Str := ["self", "numbers", "before"]
theorem sc_Layers_change_costs : FnScope n_Layers_change_costs ["self", "numbers"] (defScope s_Layers_change_costs) := ⟨rfl, rfl, rfl, by decide +kernel, rfl, by decide +kernel, by decide +kernel⟩
abbrev s_Layers_turn_over : Stmt := inClass (top 45) 3
abbrev n_Layers_turn_over : List Str := ["self"]
theorem sc_Layers_turn_over : FnScope n_Layers_turn_over ["self"] (defScope s_Layers_turn_over) := ⟨rfl, rfl, rfl, by decide +kernel, rfl, by decide +kernel, by decide +kernel⟩
abbrev s_Layers_state : Stmt := inClass (top 45) 4
abbrev n_Layers_state : List Str := ["self"]
theorem sc_Layers_state : FnScope n_Layers_state ["self"] (defScope s_Layers_state) := ⟨rfl, rfl, rfl, by decide +kernel, rfl, by decide +kernel, by decide +kernel⟩
abbrev s_Layers_cost : Stmt := inClass (top 45) 5
abbrev n_Layers_cost : List Str := ["self", "word"]
theorem sc_Layers_cost : FnScope n_Layers_cost ["self", "word"] (defScope s_Layers_cost) := ⟨rfl, rfl, rfl, by decide +kernel, rfl, by decide +kernel, by decide +kernel⟩
abbrev s_Layers_mean : Stmt := inClass (top 45) 6
abbrev n_Layers_mean : List Str := ["self", "word"]
theorem sc_Layers_mean : FnScope n_Layers_mean ["self", "word"] (defScope s_Layers_mean) := ⟨rfl, rfl, rfl, by decide +kernel, rfl, by decide +kernel, by decide +kernel⟩
abbrev s_Layers_good : Stmt := inClass (top 45) 7
abbrev n_Layers_good : List Str := ["self", "word"]
theorem sc_Layers_good : FnScope n_Layers_good ["self", "word"] (defScope s_Layers_good) := ⟨rfl, rfl, rfl, by decide +kernel, rfl, by decide +kernel, by decide +kernel⟩
abbrev s_Layers_cheaper : Stmt := inClass (top 45) 8
abbrev n_Layers_cheaper : List Str := ["self", "first", "second", "first_mean", "second_mean"]
theorem sc_Layers_cheaper : FnScope n_Layers_cheaper ["self", "first", "second"] (defScope s_Layers_cheaper) := ⟨rfl, rfl, rfl, by decide +kernel, rfl, by decide +kernel, by decide +kernel⟩
abbrev s_Layers_joined : Stmt := inClass (top 45) 9
abbrev n_Layers_joined : List Str := ["self", "first", "second", "whole", "apart"]
theorem sc_Layers_joined : FnScope n_Layers_joined ["self", "first", "second"] (defScope s_Layers_joined) := ⟨rfl, rfl, rfl, by decide +kernel, rfl, by decide +kernel, by decide +kernel⟩
abbrev s_Layers_least : Stmt := inClass (top 45) 10
abbrev n_Layers_least : List Str := ["self"]
theorem sc_Layers_least : FnScope n_Layers_least ["self"] (defScope s_Layers_least) := ⟨rfl, rfl, rfl, by decide +kernel, rfl, by decide +kernel, by decide +kernel⟩
abbrev s_Layers_ties : Stmt := inClass (top 45) 11
abbrev n_Layers_ties : List Str := ["self", "found"]
theorem sc_Layers_ties : FnScope n_Layers_ties ["self"] (defScope s_Layers_ties) := ⟨rfl, rfl, rfl, by decide +kernel, rfl, by decide +kernel, by decide +kernel⟩
abbrev s_Layers_told_word : Stmt := inClass (top 45) 12
abbrev n_Layers_told_word : List Str := ["self", "word"]
theorem sc_Layers_told_word : FnScope n_Layers_told_word ["self", "word"] (defScope s_Layers_told_word) := ⟨rfl, rfl, rfl, by decide +kernel, rfl, by decide +kernel, by decide +kernel⟩
abbrev s_Layers_word : Stmt := inClass (top 45) 13
abbrev n_Layers_word : List Str := ["self", "k"]
theorem sc_Layers_word : FnScope n_Layers_word ["self", "k"] (defScope s_Layers_word) := ⟨rfl, rfl, rfl, by decide +kernel, rfl, by decide +kernel, by decide +kernel⟩
abbrev s_Layers_needs : Stmt := inClass (top 45) 14
abbrev n_Layers_needs : List Str := ["self", "k"]
theorem sc_Layers_needs : FnScope n_Layers_needs ["self", "k"] (defScope s_Layers_needs) := ⟨rfl, rfl, rfl, by decide +kernel, rfl, by decide +kernel, by decide +kernel⟩
abbrev s_Layers_best : Stmt := inClass (top 45) 15
abbrev n_Layers_best : List Str := ["self", "steps"]
theorem sc_Layers_best : FnScope n_Layers_best ["self", "steps"] (defScope s_Layers_best) := ⟨rfl, rfl, rfl, by decide +kernel, rfl, by decide +kernel, by decide +kernel⟩
abbrev s_Layers_turn : Stmt := inClass (top 45) 16
abbrev n_Layers_turn : List Str := ["self", "i", "word"]
theorem sc_Layers_turn : FnScope n_Layers_turn ["self", "i", "word"] (defScope s_Layers_turn) := ⟨rfl, rfl, rfl, by decide +kernel, rfl, by decide +kernel, by decide +kernel⟩
abbrev s_Layers_fall : Stmt := inClass (top 45) 17
abbrev n_Layers_fall : List Str := ["self", "word", "step"]
theorem sc_Layers_fall : FnScope n_Layers_fall ["self", "word"] (defScope s_Layers_fall) := ⟨rfl, rfl, rfl, by decide +kernel, rfl, by decide +kernel, by decide +kernel⟩
abbrev s_Layers_rest : Stmt := inClass (top 45) 18
abbrev n_Layers_rest : List Str := ["self", "word", "resting"]
theorem sc_Layers_rest : FnScope n_Layers_rest ["self", "word"] (defScope s_Layers_rest) := ⟨rfl, rfl, rfl, by decide +kernel, rfl, by decide +kernel, by decide +kernel⟩

section
variable {P : Program} {w : World} {K : PySem.W.Frag} {mg : Str → Option Value} {base : Heap} {C fI : Addr}
theorem not_ok {w : List Nat} (h : (!Kqi5.ok w) = true) : Kqi5.ok w = false := by
  cases e : Kqi5.ok w with
  | false => rfl
  | true =>
    rw [e] at h
    cases h
theorem is_ok {w : List Nat} (h : ¬ (!Kqi5.ok w) = true) : Kqi5.ok w = true := by
  cases e : Kqi5.ok w with
  | true => rfl
  | false =>
    rw [e] at h
    exact absurd rfl h
theorem an_cost {c : Kqi5.Costs} {w : List Nat} (h : Kqi5.ok w = true) : An c (.cost w) = [0, Kqi5.cost c w] := by
  show Kqi5Neutral.tell (if Kqi5.ok w = false then .num (-22) else .some_ 0 [Kqi5.cost c w]) = _
  rw [if_neg (by rw [h]; decide)]
  rfl
theorem ok_Layers_cost {f : Addr} {fd : FuncData} (F : Fun K "cost" "Layers.cost" s_Layers_cost f fd) (T_Layers : TxtL K mg C fI) {f2 : Addr} {fd2 : FuncData} (c_word_cost : Cal P w K mg base 2 "word_cost" f2 fd2 ["costs", "word"] (spCost K)) :
    FnOk P w K mg base CX0 3 f fd ["self", "word"] (spRead K C (rdWord .cost)) := by
  refine F.ok sc_Layers_cost (fun vs H Q E h => ?_) (fun cdv A outer s H vs Q E hr h => ?_)
  · obtain ⟨a, us, k, c, rfl, _, ⟨r, w, rfl, _⟩, _⟩ := h
    rfl
  · obtain ⟨a, us, k, c', rfl, hL, ⟨r, w, rfl, hW, rfl⟩, q⟩ := h
    refine ⟨_, (pss_one (ps_ret (pe_lst (pa_cons pe_int (pa_cons (pe_call c_word_cost.ok (hr.mono (by decide)) rfl c_word_cost.mg c_word_cost.kp c_word_cost.b .nil pass0 (pa_cons (pe_fld (pv 0) rfl) (pa_cons (pv 1) pa_nil))) pa_nil))))), ?_⟩
    obtain ⟨dx, t, c, ha, ht, hc, ec⟩ := hL.ex
    have ec := ec _ rfl
    subst ec
    have b := hW.len
    refine ⟨_, rfl, a, C, dx, _, _, rfl, ha, T_Layers.cl, T_Layers.n_costs, lF_costs _ _, _, rfl, t, r, _, w, rfl, ht, hc, hW.sq, by omega, by show 2 ≤ sizeLine; decide, fun p hp => q _ p (same_new hp) hp ?_⟩
    rw [upd_same, an_cost hW.2]
    rfl
/-! ### __init__ and start -/
theorem cb0 : Cb ⟨0, 0, 0⟩ := ⟨by decide, by decide, by decide, by decide, by decide, by decide⟩
def spInitL (K : PySem.W.Frag) (C : Addr) : Sp := fun vs H Q _ => ∃ (p dx : Addr), vs = [.ref p] ∧ H p = some (.ins C dx []) ∧ ∀ H' : Hp, LayAt K C H' p none → Keep p H H' → Q .non H'
theorem ok_Layers_init {f : Addr} {fd : FuncData} (F : Fun K "__init__" "Layers.__init__" s_Layers_init f fd) (T_Layers : TxtL K mg C fI) : FnOk P w K mg base CX0 1 f fd ["self"] (spInitL K C) := by
  refine F.ok sc_Layers_init (fun vs H Q E h => ?_) (fun cdv A outer s H vs Q E hr h => ?_)
  · obtain ⟨p, dx, rfl, _⟩ := h
    rfl
  · obtain ⟨p, dx, rfl, hp, k⟩ := h
    refine ⟨_, (pss_cons (ps_fld (pv 0) pe_bl rfl)
      (pss_one (ps_fld (pv 0) (pe_tup (pa_cons pe_int (pa_cons pe_int (pa_cons pe_int pa_nil)))) rfl))), ?_⟩
    refine ⟨_, rfl, p, C, dx, [], rfl, hp, T_Layers.cl, T_Layers.n_started, (by show 0 < 1000; decide), ?_⟩
    refine ⟨by show 3 ≤ sizeLine; decide, fun t ht => ?_⟩
    have np : p ≠ t := fun e => by
      rw [e, upd_same] at ht
      cases ht
    refine ⟨_, rfl, p, C, dx, _, rfl, by rw [upd_ne np, upd_same], T_Layers.cl, T_Layers.n_costs, (by show 1 < 1000; decide), ?_⟩
    refine k _ ⟨dx, t, ⟨0, 0, 0⟩, ?_, SqT.of (by rw [upd_ne np.symm, upd_same]; rfl), cb0, fun x e => by cases e⟩ ?_
    · rw [upd_same]
      exact congrArg (fun z => some (HO.ins C dx z)) (lF_new false t)
    · refine Keep.upd fun b o e n => ?_
      have nt : upd H p (.ins C dx (putF "started" (.bl false) [])) b = some o := by
        rw [upd_ne n]
        exact e
      rw [upd_ne (ne_of_none nt ht)]
      exact nt
def spStart (K : PySem.W.Frag) (C : Addr) : Sp := fun vs H Q _ => ∃ (a : Addr) (s : Option Kqi5.Costs), vs = [.ref a] ∧ LayAt K C H a s ∧ ∀ (H' : Hp) (p : Addr), Keep a H H' → H p = none → H' p = some (.lst [.int 0]) → LayAt K C H' a (some ⟨0, 0, 0⟩) → Q (.ref p) H'
theorem ok_Layers_start {f : Addr} {fd : FuncData} (F : Fun K "start" "Layers.start" s_Layers_start f fd) (T_Layers : TxtL K mg C fI) : FnOk P w K mg base CX0 1 f fd ["self"] (spStart K C) := by
  refine F.ok sc_Layers_start (fun vs H Q E h => ?_) (fun cdv A outer s H vs Q E hr h => ?_)
  · obtain ⟨a, s, rfl, _⟩ := h
    rfl
  · obtain ⟨a, s0, rfl, hL, k⟩ := h
    refine ⟨_, (pss_cons (ps_fld (pv 0) pe_bl rfl)
      (pss_cons (ps_fld (pv 0) (pe_tup (pa_cons pe_int (pa_cons pe_int (pa_cons pe_int pa_nil)))) rfl)
      (pss_one (ps_ret (pe_lst (pa_cons pe_int pa_nil)))))), ?_⟩
    obtain ⟨dx, t, c, ha, ht, hc, ec⟩ := hL.ex
    refine ⟨_, rfl, a, C, dx, _, rfl, ha, T_Layers.cl, T_Layers.n_started, (by show 2 < 1000; decide), ?_⟩
    have k1 : Keep a H (upd H a (.ins C dx (putF "started" (.bl true) (lF s0.isSome t)))) := Keep.upd (Keep.of (.refl _))
    refine ⟨by show 3 ≤ sizeLine; decide, fun t2 ht2 => ?_⟩
    have na : a ≠ t2 := fun e => by
      rw [e, upd_same] at ht2
      cases ht2
    refine ⟨_, rfl, a, C, dx, _, rfl, by rw [upd_ne na, upd_same], T_Layers.cl, T_Layers.n_costs, (by show 2 < 1000; decide), ?_⟩
    refine ⟨by show 1 ≤ sizeLine; decide, fun p hp => ?_⟩
    have k2 := ((k1.same (same_new (o := .tup [.int 0, .int 0, .int 0]) ht2)).upd (o := .ins C dx (putF "costs" (.ref t2) (putF "started" (.bl true) (lF s0.isSome t))))).same (same_new (o := .lst [.int 0]) hp)
    have nap : a ≠ p := fun e => by
      rw [e, upd_same] at hp
      cases hp
    have nt2p : t2 ≠ p := fun e => by
      rw [← e, upd_ne na.symm, upd_same] at hp
      cases hp
    refine k _ p k2 ?_ upd_same ⟨dx, t2, ⟨0, 0, 0⟩, ?_, SqT.of (by rw [upd_ne nt2p, upd_ne na.symm, upd_same]; rfl), cb0, fun x e => (Option.some.inj e).symm⟩
    · exact ((k1.same (same_new (o := .tup [.int 0, .int 0, .int 0]) ht2)).upd (o := .ins C dx (putF "costs" (.ref t2) (putF "started" (.bl true) (lF s0.isSome t))))).free hp upd_same
    · rw [upd_ne nap, upd_same, lF_put1, lF_put2]
      rfl
/-! ### the methods that tell -/
theorem an_mean {c : Kqi5.Costs} {w : List Nat} (h : Kqi5.ok w = true) : An c (.mean w) = 0 :: Kqi5.mean c w := by
  show Kqi5Neutral.tell (if Kqi5.ok w = false then .num (-22) else .some_ 0 (Kqi5.mean c w)) = _
  rw [if_neg (by rw [h]; decide)]
  rfl
theorem mean_len (c : Kqi5.Costs) {w : List Nat} (h : 0 < w.length) : (Kqi5.mean c w).length = 2 := by
  obtain ⟨x, y, e, _⟩ := mean_fr c h
  rw [e]
  rfl
theorem ok_Layers_mean {f : Addr} {fd : FuncData} (F : Fun K "mean" "Layers.mean" s_Layers_mean f fd) (T : Txt mg) (T_Layers : TxtL K mg C fI) {f2 : Addr} {fd2 : FuncData} (c_word_mean : Cal P w K mg base 3 "word_mean" f2 fd2 ["costs", "word"] (spMean K)) :
    FnOk P w K mg base CX0 4 f fd ["self", "word"] (spRead K C (rdWord .mean)) := by
  refine F.ok sc_Layers_mean (fun vs H Q E h => ?_) (fun cdv A outer s H vs Q E hr h => ?_)
  · obtain ⟨a, us, k, c, rfl, _, ⟨r, w, rfl, _⟩, _⟩ := h
    rfl
  · obtain ⟨a, us, k, c', rfl, hL, ⟨r, w, rfl, hW, rfl⟩, q⟩ := h
    refine ⟨_, (pss_one (ps_ret (pe_op op_cat (pe_lst (pa_cons pe_int pa_nil)) (pe_callTy call_list_of (by rfl) T.n_list (by decide +kernel) (pa_cons (pe_call c_word_mean.ok (hr.mono (by decide)) rfl c_word_mean.mg c_word_mean.kp c_word_mean.b .nil pass0 (pa_cons (pe_fld (pv 0) rfl) (pa_cons (pv 1) pa_nil))) pa_nil))))), ?_⟩
    obtain ⟨dx, t, c, ha, ht, hc, ec⟩ := hL.ex
    have ec := ec _ rfl
    subst ec
    have b := hW.len
    refine ⟨by show 1 ≤ sizeLine; decide, fun l1 hl1 => ?_⟩
    have s1 := same_new (o := .lst [.int 0]) hl1
    refine ⟨_, rfl, a, C, dx, _, _, rfl, s1 _ _ ha, T_Layers.cl, T_Layers.n_costs, lF_costs _ _, _, rfl, t, r, _, w, rfl, sqT_same s1 ht, hc, (hW.same s1).sq, by omega, by omega, fun H2 m s2 n2 g2 => ?_⟩
    refine ⟨m, _, rfl, .inr (SqT.of g2), fun l2 hl2 => ?_⟩
    have s3 := same_new (o := .lst (iv (Kqi5.mean c' w))) hl2
    refine ⟨l1, l2, _, _, rfl, rfl, s3 _ _ (s2 _ _ upd_same), upd_same, ?_, fun p hp => ?_⟩
    · rw [List.length_map, mean_len c' (by omega)]
      show 3 ≤ sizeLine
      decide
    · have s4 := ((s1.trans s2).trans s3).trans (same_new (o := .lst ([.int 0] ++ iv (Kqi5.mean c' w))) hp)
      refine q _ p s4 (((s1.trans s2).trans s3).free hp) ?_
      rw [upd_same, an_mean hW.2]
      rfl
end
end LC


set_option Elab.async false
set_option maxRecDepth 100000
set_option maxHeartbeats 2000000
namespace LC
open PySem PySem.Spec PyProof.Rows L2
open PySem.W (Codec)
section
variable {P : Program} {w : World} {K : PySem.W.Frag} {mg : Str → Option Value} {base : Heap} {C fI : Addr}
theorem an_good {c : Kqi5.Costs} {w : List Nat} (h : Kqi5.ok w = true) : An c (.good w) = [if Kqi5.noMore c w (Kqi5.word (Kqi5.least c)) then 1 else 0] := by
  show Kqi5Neutral.tell (if Kqi5.ok w = false then .num (-22) else .num (if Kqi5.noMore c w (Kqi5.word (Kqi5.least c)) then 1 else 0)) = _
  rw [if_neg (by rw [h]; decide)]
  rfl
theorem ok_Layers_good {f : Addr} {fd : FuncData} (F : Fun K "good" "Layers.good" s_Layers_good f fd) (T_Layers : TxtL K mg C fI) {f2 : Addr} {fd2 : FuncData} (c_is_good : Cal P w K mg base 6 "is_good" f2 fd2 ["costs", "word"] (spGood K)) :
    FnOk P w K mg base CX0 7 f fd ["self", "word"] (spRead K C (rdWord .good)) := by
  refine F.ok sc_Layers_good (fun vs H Q E h => ?_) (fun cdv A outer s H vs Q E hr h => ?_)
  · obtain ⟨a, us, k, c, rfl, _, ⟨r, w, rfl, _⟩, _⟩ := h
    rfl
  · obtain ⟨a, us, k, c', rfl, hL, ⟨r, w, rfl, hW, rfl⟩, q⟩ := h
    refine ⟨_, (pss_one (ps_ret (pe_ifExp (pt_val (pe_call c_is_good.ok (hr.mono (by decide)) rfl c_is_good.mg c_is_good.kp c_is_good.b .nil pass0 (pa_cons (pe_fld (pv 0) rfl) (pa_cons (pv 1) pa_nil)))) (pe_lst (pa_cons pe_int pa_nil)) (pe_lst (pa_cons pe_int pa_nil))))), ?_⟩
    obtain ⟨dx, t, c, ha, ht, hc, ec⟩ := hL.ex
    have ec := ec _ rfl
    subst ec
    have b := hW.len
    rw [an_good hW.2] at q
    refine ⟨_, rfl, a, C, dx, _, _, rfl, ha, T_Layers.cl, T_Layers.n_costs, lF_costs _ _, _, rfl, t, r, _, w, rfl, ht, hc, hW.sq, by omega, by omega, fun H2 s2 => ⟨_, rfl, ite2 (fun d => ?_) (fun d => ?_)⟩⟩
    · refine ⟨by show 1 ≤ sizeLine; decide, fun p hp => q _ p (s2.trans (same_new hp)) (s2.free hp) ?_⟩
      rw [upd_same, if_pos d]
      rfl
    · refine ⟨by show 1 ≤ sizeLine; decide, fun p hp => q _ p (s2.trans (same_new hp)) (s2.free hp) ?_⟩
      rw [upd_same, if_neg d]
      rfl
theorem an_least {c : Kqi5.Costs} : An c .least = (Kqi5.least c : Int) :: Kqi5.mean c (Kqi5.word (Kqi5.least c)) := rfl
theorem ok_Layers_least {f : Addr} {fd : FuncData} (F : Fun K "least" "Layers.least" s_Layers_least f fd) (T : Txt mg) (T_Layers : TxtL K mg C fI) {f1 f2 : Addr} {fd1 fd2 : FuncData} (c_least_of_five : Cal P w K mg base 4 "least_of_five" f1 fd1 ["costs"] (spLeast K)) (c_least_mean : Cal P w K mg base 5 "least_mean" f2 fd2 ["costs"] (spLMean K)) :
    FnOk P w K mg base CX0 6 f fd ["self"] (spRead K C (rdNo .least)) := by
  refine F.ok sc_Layers_least (fun vs H Q E h => ?_) (fun cdv A outer s H vs Q E hr h => ?_)
  · obtain ⟨a, us, k, c, rfl, _, ⟨rfl, rfl⟩, _⟩ := h
    rfl
  · obtain ⟨a, us, k, c', rfl, hL, ⟨rfl, rfl⟩, q⟩ := h
    refine ⟨_, (pss_one (ps_ret (pe_op op_cat (pe_lst (pa_cons (pe_call c_least_of_five.ok (hr.mono (by decide)) rfl c_least_of_five.mg c_least_of_five.kp c_least_of_five.b .nil pass0 (pa_cons (pe_fld (pv 0) rfl) pa_nil)) pa_nil)) (pe_callTy call_list_of (by rfl) T.n_list (by decide +kernel) (pa_cons (pe_call c_least_mean.ok (hr.mono (by decide)) rfl c_least_mean.mg c_least_mean.kp c_least_mean.b .nil pass0 (pa_cons (pe_fld (pv 0) rfl) pa_nil)) pa_nil))))), ?_⟩
    obtain ⟨dx, t, c, ha, ht, hc, ec⟩ := hL.ex
    have ec := ec _ rfl
    subst ec
    refine ⟨_, rfl, a, C, dx, _, _, rfl, ha, T_Layers.cl, T_Layers.n_costs, lF_costs _ _, t, c', rfl, ht, hc, fun H1 s1 => ⟨by show 1 ≤ sizeLine; decide, fun l1 hl1 => ?_⟩⟩
    have s2 := s1.trans (same_new (o := .lst [.int (Kqi5.least c' : Int)]) hl1)
    refine ⟨_, rfl, a, C, dx, _, _, rfl, s2 _ _ ha, T_Layers.cl, T_Layers.n_costs, lF_costs _ _, t, c', rfl, sqT_same s2 ht, hc, fun H2 m s3 n3 g3 => ?_⟩
    refine ⟨m, _, rfl, .inr (SqT.of g3), fun l2 hl2 => ?_⟩
    have s4 := same_new (o := .lst (iv (Kqi5.mean c' (Kqi5.word (Kqi5.least c'))))) hl2
    refine ⟨l1, l2, _, _, rfl, rfl, s4 _ _ (s3 _ _ upd_same), upd_same, ?_, fun p hp => ?_⟩
    · rw [List.length_map, mean_len c' (word_pos (least_lt c')).1]
      show 3 ≤ sizeLine
      decide
    · have s5 := (s2.trans s3).trans s4
      exact q _ p (s5.trans (same_new hp)) (s5.free hp) upd_same
theorem an_ties {c : Kqi5.Costs} : An c .ties = ((Kqi5.ties c).length : Int) :: Kqi5.nats (Kqi5.ties c) := rfl
theorem ok_Layers_ties {f : Addr} {fd : FuncData} (F : Fun K "ties" "Layers.ties" s_Layers_ties f fd) (T : Txt mg) (T_Layers : TxtL K mg C fI) {f1 : Addr} {fd1 : FuncData} (c_ties_of_five : Cal P w K mg base 6 "ties_of_five" f1 fd1 ["costs"] (spTies K)) :
    FnOk P w K mg base CX0 7 f fd ["self"] (spRead K C (rdNo .ties)) := by
  refine F.ok sc_Layers_ties (fun vs H Q E h => ?_) (fun cdv A outer s H vs Q E hr h => ?_)
  · obtain ⟨a, us, k, c, rfl, _, ⟨rfl, rfl⟩, _⟩ := h
    rfl
  · obtain ⟨a, us, k, c', rfl, hL, ⟨rfl, rfl⟩, q⟩ := h
    refine ⟨_, (pss_cons (ps_set (i := 1) sc_Layers_ties.nd rfl (Or.inl rfl) (pe_call c_ties_of_five.ok (hr.mono (by decide)) rfl c_ties_of_five.mg c_ties_of_five.kp c_ties_of_five.b .nil pass0 (pa_cons (pe_fld (pv 0) rfl) pa_nil)))
      (pss_one (ps_ret (pe_op op_cat (pe_lst (pa_cons (pe_callB call_len_seq (by rfl) T.n_len (by decide +kernel) (pa_cons (pv 1) pa_nil)) pa_nil)) (pv 1))))), ?_⟩
    obtain ⟨dx, t, c, ha, ht, hc, ec⟩ := hL.ex
    have ec := ec _ rfl
    subst ec
    refine ⟨_, rfl, a, C, dx, _, _, rfl, ha, T_Layers.cl, T_Layers.n_costs, lF_costs _ _, t, c', rfl, ht, hc, fun H1 m s1 n1 g1 => ?_⟩
    have ll : (iv (Kqi5.nats (Kqi5.ties c'))).length = (Kqi5.ties c').length := by rw [List.length_map, Kqi5.nats, List.length_map]
    have l5 : (Kqi5.ties c').length ≤ 5 := List.length_filter_le _ (List.range 5)
    refine ⟨_, rfl, m, _, rfl, .inl (SqL.of g1), by show 1 ≤ sizeLine; decide, fun l1 hl1 => ?_⟩
    have s2 := same_new (o := .lst [.int ((iv (Kqi5.nats (Kqi5.ties c'))).length : Int)]) hl1
    refine ⟨_, rfl, l1, m, _, _, rfl, rfl, upd_same, s2 _ _ g1, ?_, fun p hp => ?_⟩
    · rw [ll]
      exact Nat.le_trans (Nat.add_le_add_left l5 1) (by decide)
    · refine q _ p ((s1.trans s2).trans (same_new hp)) ((s1.trans s2).free hp) ?_
      rw [upd_same, an_ties, ll]
      rfl
/-! ### told_word, word, best -/
def spToldW (K : PySem.W.Frag) (C : Addr) : Sp := fun vs H Q _ => ∃ (a r : Addr) (c : Kqi5.Costs) (w : List Nat), vs = [.ref a, .ref r] ∧ LayAt K C H a (some c) ∧ Sq K H r (wv w) ∧ 0 < w.length ∧ w.length ≤ 12 ∧
  ∀ (H' : Hp) (p : Addr), Same H H' → H p = none → H' p = some (.lst (iv ((w.length : Int) :: (Kqi5.nats w ++ Kqi5.mean c w)))) → Q (.ref p) H'
theorem iv_nats (w : List Nat) : iv (Kqi5.nats w) = wv w := by
  unfold iv Kqi5.nats wv
  rw [List.map_map]
  rfl
theorem iv_app (w : List Nat) (l : List Int) : iv (Kqi5.nats w ++ l) = wv w ++ iv l := by
  rw [← iv_nats]
  exact List.map_append
theorem ok_Layers_told_word {f : Addr} {fd : FuncData} (F : Fun K "told_word" "Layers.told_word" s_Layers_told_word f fd) (T : Txt mg) (T_Layers : TxtL K mg C fI) {f1 : Addr} {fd1 : FuncData} (c_word_mean : Cal P w K mg base 3 "word_mean" f1 fd1 ["costs", "word"] (spMean K)) :
    FnOk P w K mg base CX0 4 f fd ["self", "word"] (spToldW K C) := by
  refine F.ok sc_Layers_told_word (fun vs H Q E h => ?_) (fun cdv A outer s H vs Q E hr h => ?_)
  · obtain ⟨a, r, c, w, rfl, _⟩ := h
    rfl
  · obtain ⟨a, r, c', w, rfl, hL, hS, hl0, hl, q⟩ := h
    refine ⟨_, (pss_one (ps_ret (pe_op op_cat (pe_op op_cat (pe_lst (pa_cons (pe_callB call_len_seq (by rfl) T.n_len (by decide +kernel) (pa_cons (pv 1) pa_nil)) pa_nil)) (pe_callTy call_list_of (by rfl) T.n_list (by decide +kernel) (pa_cons (pv 1) pa_nil))) (pe_callTy call_list_of (by rfl) T.n_list (by decide +kernel) (pa_cons (pe_call c_word_mean.ok (hr.mono (by decide)) rfl c_word_mean.mg c_word_mean.kp c_word_mean.b .nil pass0 (pa_cons (pe_fld (pv 0) rfl) (pa_cons (pv 1) pa_nil))) pa_nil))))), ?_⟩
    obtain ⟨dx, t, c, ha, ht, hc, ec⟩ := hL.ex
    have ec := ec _ rfl
    subst ec
    have el := wv_len w
    refine ⟨_, rfl, r, _, rfl, hS, by show 1 ≤ sizeLine; decide, fun l1 hl1 => ?_⟩
    have s1 := same_new (o := .lst [.int ((wv w).length : Int)]) hl1
    refine ⟨_, rfl, r, _, rfl, hS.same s1, fun l2 hl2 => ?_⟩
    have s2 := same_new (o := .lst (wv w)) hl2
    refine ⟨l1, l2, _, _, rfl, rfl, s2 _ _ upd_same, upd_same, ?_, fun l3 hl3 => ?_⟩
    · rw [el]
      exact Nat.le_trans (Nat.add_le_add_left hl 1) (by decide)
    · have s3 := same_new (o := .lst ([.int ((wv w).length : Int)] ++ wv w)) hl3
      have s4 := (s1.trans s2).trans s3
      refine ⟨_, rfl, a, C, dx, _, _, rfl, s4 _ _ ha, T_Layers.cl, T_Layers.n_costs, lF_costs _ _, _, rfl, t, r, c', w, rfl, sqT_same s4 ht, hc, hS.same s4, hl0, by omega, fun H2 m s5 n5 g5 => ?_⟩
      refine ⟨m, _, rfl, .inr (SqT.of g5), fun l4 hl4 => ?_⟩
      have s6 := same_new (o := .lst (iv (Kqi5.mean c' w))) hl4
      refine ⟨l3, l4, _, _, rfl, rfl, s6 _ _ (s5 _ _ upd_same), upd_same, ?_, fun p hp => ?_⟩
      · rw [List.length_append, List.length_map, mean_len c' hl0, el]
        have : ([V.int ((w.length : Nat) : Int)] : List V).length = 1 := rfl
        rw [this]
        have : sizeLine = 16777216 := by rfl
        omega
      · have s7 := (s4.trans s5).trans s6
        refine q _ p (s7.trans (same_new hp)) (s7.free hp) ?_
        rw [upd_same]
        show _ = some (HO.lst (V.int (w.length : Int) :: iv (Kqi5.nats w ++ Kqi5.mean c' w)))
        rw [iv_app, el]
        rfl
theorem an_word {c : Kqi5.Costs} {k : Nat} : An c (.word k) = if 5 ≤ k then [-2] else ((Kqi5.word k).length : Int) :: (Kqi5.nats (Kqi5.word k) ++ Kqi5.mean c (Kqi5.word k)) := by
  show Kqi5Neutral.tell (if 5 ≤ k then .num (-2) else .some_ (Kqi5.word k).length (Kqi5.nats (Kqi5.word k) ++ Kqi5.mean c (Kqi5.word k))) = _
  split <;> rfl
theorem ok_Layers_word {f : Addr} {fd : FuncData} (F : Fun K "word" "Layers.word" s_Layers_word f fd) (T : Txt mg) {aF : Addr} {as : List Addr} (T5 : Five K mg aF as) (T_Layers : TxtL K mg C fI) {f1 : Addr} {fd1 : FuncData} (c_Layers_told_word : CalM P w K mg base 4 C "told_word" f1 fd1 ["self", "word"] (spToldW K C)) :
    FnOk P w K mg base CX0 5 f fd ["self", "k"] (spRead K C (rdNum .word)) := by
  refine F.ok sc_Layers_word (fun vs H Q E h => ?_) (fun cdv A outer s H vs Q E hr h => ?_)
  · obtain ⟨a, us, k, c, rfl, _, ⟨n, rfl, _⟩, _⟩ := h
    rfl
  · obtain ⟨a, us, k, c', rfl, hL, ⟨n, rfl, rfl⟩, q⟩ := h
    refine ⟨_, (pss_cons (ps_if (pt_cmpR op_ge (pv 1) (pe_callB call_len_seq (by rfl) T.n_len (by decide +kernel) (pa_cons (pe_gref rfl T5.g_FIVE) pa_nil)) (nomark _)) (pss_one (ps_ret (pe_lst (pa_cons (pe_gint rfl T.g_NONE_SUCH) pa_nil)))) pss_nil)
      (pss_one (ps_ret (pe_meth (pv 0) T_Layers.cl c_Layers_told_word.mt c_Layers_told_word.ok (hr.mono (by decide)) c_Layers_told_word.b .nil pass0 (pa_cons (pe_ix ix_seq (pe_gref rfl T5.g_FIVE) (pv 1) (fun _ _ => rfl)) pa_nil))))), ?_⟩
    obtain ⟨dx, t, c, ha, ht, hc, ec⟩ := hL.ex
    have ec := ec _ rfl
    subst ec
    have l5 : (as.map V.ref).length = 5 := by rw [List.length_map, T5.len]
    rw [an_word] at q
    refine ⟨_, rfl, aF, _, rfl, .inr (T5.sq _), _, _, rfl, rfl, _, rfl, ite2 (fun d => ?_) (fun d => ?_)⟩
    · have d' := of_decide_eq_true d
      rw [l5] at d'
      rw [if_pos (by omega)] at q
      exact ⟨by show 1 ≤ sizeLine; decide, fun p hp => q _ p (same_new hp) hp upd_same⟩
    · have d' : ¬ (((as.map V.ref).length : Nat) : Int) ≤ (n : Int) := fun z => d (decide_eq_true z)
      rw [l5] at d'
      have hn : n < 5 := by omega
      rw [if_neg (by omega)] at q
      obtain ⟨a1, e1, t1⟩ := T5.at_ hn
      have p1 := word_pos hn
      refine ⟨_, rfl, a, dx, _, rfl, ha, lF_no _ _ (by decide +kernel) (by decide +kernel), _, rfl, ?_⟩
      exact ix_sq (.inr (T5.sq _)) (at_of (j := n) rfl e1) ⟨a, a1, c', _, rfl, hL, .inr (t1 _), p1.1, by omega, q⟩
theorem an_best {c : Kqi5.Costs} {n : Nat} : An c (.best n) = if n = 0 ∨ 6 < n then [-22] else (n : Int) :: (Kqi5.nats (Kqi5.best c n) ++ Kqi5.mean c (Kqi5.best c n)) := by
  show Kqi5Neutral.tell (if n = 0 ∨ 6 < n then .num (-22) else .some_ n (Kqi5.nats (Kqi5.best c n) ++ Kqi5.mean c (Kqi5.best c n))) = _
  split <;> rfl
theorem best_len (c : Kqi5.Costs) {n : Nat} (h0 : 0 < n) (h : n ≤ 6) : (Kqi5.best c n).length = n := by
  obtain ⟨x, l, e⟩ : ∃ x l, Kqi5.words n = x :: l := by
    cases e : Kqi5.words n with
    | nil =>
      have : n = 1 ∨ n = 2 ∨ n = 3 ∨ n = 4 ∨ n = 5 ∨ n = 6 := by omega
      rcases this with rfl | rfl | rfl | rfl | rfl | rfl <;> cases e
    | cons x l => exact ⟨x, l, rfl⟩
  obtain ⟨y, fm⟩ := FirstMin.ex (m := Kqi5.cost c) l x
  rw [← e] at fm
  rw [best_find c h0 fm]
  exact words_len n y fm.mem
theorem ok_Layers_best {f : Addr} {fd : FuncData} (F : Fun K "best" "Layers.best" s_Layers_best f fd) (T : Txt mg) (T_Layers : TxtL K mg C fI) {f1 f2 : Addr} {fd1 fd2 : FuncData} (c_best_word : Cal P w K mg base 3 "best_word" f2 fd2 ["costs", "steps"] (spBest K)) (c_Layers_told_word : CalM P w K mg base 4 C "told_word" f1 fd1 ["self", "word"] (spToldW K C)) :
    FnOk P w K mg base CX0 5 f fd ["self", "steps"] (spRead K C (rdNum .best)) := by
  refine F.ok sc_Layers_best (fun vs H Q E h => ?_) (fun cdv A outer s H vs Q E hr h => ?_)
  · obtain ⟨a, us, k, c, rfl, _, ⟨n, rfl, _⟩, _⟩ := h
    rfl
  · obtain ⟨a, us, k, c', rfl, hL, ⟨n, rfl, rfl⟩, q⟩ := h
    refine ⟨_, (pss_cons (ps_if (PW.pt (pw_or (pt_cmpR op_lt (pv 1) pe_int (nomark _)) (pw_or1 (pt_cmpR op_gt (pv 1) (pe_gint rfl T.g_MOST_BEST_STEPS) (nomark _))))) (pss_one (ps_ret (pe_lst (pa_cons (pe_gint rfl T.g_NOT_RIGHT) pa_nil)))) pss_nil)
      (pss_one (ps_ret (pe_meth (pv 0) T_Layers.cl c_Layers_told_word.mt c_Layers_told_word.ok (hr.mono (by decide)) c_Layers_told_word.b .nil pass0 (pa_cons (pe_call c_best_word.ok (hr.mono (by decide)) rfl c_best_word.mg c_best_word.kp c_best_word.b .nil pass0 (pa_cons (pe_fld (pv 0) rfl) (pa_cons (pv 1) pa_nil))) pa_nil))))), ?_⟩
    obtain ⟨dx, t, c, ha, ht, hc, ec⟩ := hL.ex
    have ec := ec _ rfl
    subst ec
    rw [an_best] at q
    refine ⟨_, rfl, _, _, rfl, rfl, _, rfl, ite2 (fun d => ?_) (fun d => ?_)⟩
    · have d' := of_decide_eq_true d
      rw [if_pos (by omega)] at q
      exact iteT ⟨by show 1 ≤ sizeLine; decide, fun p hp => q _ p (same_new hp) hp upd_same⟩
    · have d' : ¬ (n : Int) < 1 := fun z => d (decide_eq_true z)
      refine ⟨_, rfl, _, _, rfl, rfl, _, rfl, ite2 (fun e => ?_) (fun e => ?_)⟩
      · have e' := of_decide_eq_true e
        rw [if_pos (by omega)] at q
        exact ⟨by show 1 ≤ sizeLine; decide, fun p hp => q _ p (same_new hp) hp upd_same⟩
      · have e' : ¬ (6 : Int) < (n : Int) := fun z => e (decide_eq_true z)
        rw [if_neg (by omega)] at q
        have bl := best_len c' (n := n) (by omega) (by omega)
        refine ⟨_, rfl, a, dx, _, rfl, ha, lF_no _ _ (by decide +kernel) (by decide +kernel), ?_⟩
        refine ⟨_, rfl, a, C, dx, _, _, rfl, ha, T_Layers.cl, T_Layers.n_costs, lF_costs _ _, _, rfl, t, c', n, rfl, ht, hc, by omega, by omega, fun H1 m s1 g1 => ?_⟩
        refine ⟨a, m, c', _, rfl, hL.same s1, .inr g1, by omega, by omega, fun H2 p s2 n2 g2 => q _ p (s1.trans s2) (s1.free n2) ?_⟩
        rw [bl] at g2
        exact g2
end
end LC


set_option Elab.async false
set_option maxRecDepth 100000
set_option maxHeartbeats 2000000
namespace LC
open PySem PySem.Spec PyProof.Rows L2
open PySem.W (Codec)
section
variable {P : Program} {w : World} {K : PySem.W.Frag} {mg : Str → Option Value} {base : Heap} {C fI : Addr}
/-! ### are_costs, change_costs -/
def spAre (K : PySem.W.Frag) : Sp := fun vs H Q _ => ∃ (r : Addr) (ns : List Int), vs = [.ref r] ∧ SqL K H r (iv ns) ∧ Q (.bl (ns.all Kqi5.small)) H
theorem small_iff (z : Int) : Kqi5.small z = true ↔ -100 ≤ z ∧ z ≤ 100 := by
  unfold Kqi5.small
  rw [Bool.and_eq_true, decide_eq_true_eq, decide_eq_true_eq]
theorem ok_are_costs {f : Addr} {fd : FuncData} (F : Fun K "are_costs" "are_costs" s_are_costs f fd) (T : Txt mg) : FnOk P w K mg base CX0 1 f fd ["numbers"] (spAre K) := by
  refine F.ok sc_are_costs (fun vs H Q E h => ?_) (fun cdv A outer s H vs Q E hr h => ?_)
  · obtain ⟨r, ns, rfl, _⟩ := h
    rfl
  · obtain ⟨r, ns, rfl, hS, q⟩ := h
    refine ⟨_, (pss_cons (ps_for PassesOwn.never rfl (pi_list (pv 0)) (pg_name (i := 1) sc_are_costs.nd rfl (Or.inl rfl)) (pss_one (ps_if (PW.pt (pw_or (pt_cmpR op_lt (pv 1) (pe_un un_neg (pe_gint rfl T.g_MOST_COST)) (nomark _)) (pw_or1 (pt_cmpR op_gt (pv 1) (pe_gint rfl T.g_MOST_COST) (nomark _))))) (pss_one (ps_ret pe_bl)) pss_nil)))
      (pss_one (ps_ret pe_bl))), ?_⟩
    refine ⟨_, rfl, r, rfl, ⟨_, hS⟩, for_list (K := K) (a := r) (xs := iv ns) (fun i σ H' => H' = H ∧ (ns.take i).all Kqi5.small = true ∧ ∃ v, σ = [some (.ref r), v]) ⟨rfl, rfl, none, rfl⟩ (fun i σ H' _ h => by rw [h.1]; exact hS) ?_ ?_⟩
    · rintro i x σ H' hi ⟨rfl, hb, v, rfl⟩
      obtain ⟨z, hz, rfl⟩ : ∃ z, ns[i]? = some z ∧ x = V.int z := by
        rw [List.getElem?_map] at hi
        cases e : ns[i]? with
        | none =>
          rw [e] at hi
          cases hi
        | some z =>
          rw [e] at hi
          exact ⟨z, rfl, (Option.some.inj hi).symm⟩
      have no : Kqi5.small z = false → ns.all Kqi5.small = false := fun h => by
        cases e : ns.all Kqi5.small with
        | false => rfl
        | true =>
          rw [List.all_eq_true.mp e z (List.mem_of_getElem? hz)] at h
          cases h
      have sf : ¬ (-100 ≤ z ∧ z ≤ 100) → Kqi5.small z = false := fun h => by
        cases e : Kqi5.small z with
        | false => rfl
        | true => exact absurd ((small_iff z).mp e) h
      refine ⟨_, rfl, _, rfl, _, _, rfl, rfl, _, rfl, ite2 (fun c => ?_) (fun c => ?_)⟩
      · have c' : z < -100 := of_decide_eq_true c
        rw [no (sf (by omega))] at q
        exact iteT q
      · have c' : ¬ z < -100 := fun y => c (decide_eq_true y)
        refine ⟨_, rfl, _, _, rfl, rfl, _, rfl, ite2 (fun d => ?_) (fun d => ?_)⟩
        · have d' : 100 < z := of_decide_eq_true d
          rw [no (sf (by omega))] at q
          exact q
        · have d' : ¬ 100 < z := fun y => d (decide_eq_true y)
          refine ⟨rfl, ?_, _, rfl⟩
          rw [take_snoc hz, List.all_append, hb]
          show (true && (Kqi5.small z && true)) = true
          rw [(small_iff z).mpr (by omega)]
          rfl
    · rintro σ H' ⟨rfl, hb, v, rfl⟩
      rw [List.length_map, List.take_length] at hb
      rw [hb] at q
      exact q
def stepC (c : Kqi5.Costs) (x y z : Int) : Kqi5.Costs := if (Kqi5.small x && Kqi5.small y && Kqi5.small z) = false then c else ⟨x, y, z⟩
theorem an_costs {c : Kqi5.Costs} {x y z : Int} : An c (.costs x y z) = if (Kqi5.small x && Kqi5.small y && Kqi5.small z) = false then [-22] else [0, c.one, c.two, c.three] := by
  show Kqi5Neutral.tell (if (Kqi5.small x && Kqi5.small y && Kqi5.small z) = false then (some c, Kqi5.Ans.num (-22)) else (some ⟨x, y, z⟩, .some_ 0 [c.one, c.two, c.three])).2 = _
  split <;> rfl
theorem st_costs {c : Kqi5.Costs} {x y z : Int} : (Kqi5.step (some c) (.costs x y z)).1 = some (stepC c x y z) := by
  show (if (Kqi5.small x && Kqi5.small y && Kqi5.small z) = false then (some c, Kqi5.Ans.num (-22)) else (some ⟨x, y, z⟩, .some_ 0 [c.one, c.two, c.three])).1 = _
  unfold stepC
  split <;> rfl
def spChange (K : PySem.W.Frag) (C : Addr) : Sp := fun vs H Q _ => ∃ (a r : Addr) (x y z : Int) (c : Kqi5.Costs), vs = [.ref a, .ref r] ∧ LayAt K C H a (some c) ∧ SqL K H r (iv [x, y, z]) ∧
  ∀ (H' : Hp) (p : Addr), Keep a H H' → H p = none → H' p = some (.lst (iv (An c (.costs x y z)))) → LayAt K C H' a (some (stepC c x y z)) → Q (.ref p) H'
theorem ok_Layers_change_costs {f : Addr} {fd : FuncData} (F : Fun K "change_costs" "Layers.change_costs" s_Layers_change_costs f fd) (T : Txt mg) (T_Layers : TxtL K mg C fI) {f1 : Addr} {fd1 : FuncData} (c_are_costs : Cal P w K mg base 1 "are_costs" f1 fd1 ["numbers"] (spAre K)) : FnOk P w K mg base CX0 2 f fd ["self", "numbers"] (spChange K C) := by
  refine F.ok sc_Layers_change_costs (fun vs H Q E h => ?_) (fun cdv A outer s H vs Q E hr h => ?_)
  · obtain ⟨a, r, x, y, z, c, rfl, _⟩ := h
    rfl
  · obtain ⟨a, r, x, y, z, c', rfl, hL, hS, q⟩ := h
    refine ⟨_, (pss_cons (ps_if (pt_not (pt_val (pe_call c_are_costs.ok (hr.mono (by decide)) rfl c_are_costs.mg c_are_costs.kp c_are_costs.b .nil pass0 (pa_cons (pv 1) pa_nil)))) (pss_one (ps_ret (pe_lst (pa_cons (pe_gint rfl T.g_NOT_RIGHT) pa_nil)))) pss_nil)
      (pss_cons (ps_set (i := 2) sc_Layers_change_costs.nd rfl (Or.inl rfl) (pe_fld (pv 0) rfl))
      (pss_cons (ps_fld (pv 0) (pe_callTy call_tuple_of (by rfl) T.n_tuple (by decide +kernel) (pa_cons (pv 1) pa_nil)) rfl)
      (pss_one (ps_ret (pe_op op_cat (pe_lst (pa_cons pe_int pa_nil)) (pe_callTy call_list_of (by rfl) T.n_list (by decide +kernel) (pa_cons (pv 2) pa_nil)))))))), ?_⟩
    obtain ⟨dx, t, c, ha, ht, hc, ec⟩ := hL.ex
    have ec := ec _ rfl
    subst ec
    have eb : ([x, y, z] : List Int).all Kqi5.small = (Kqi5.small x && Kqi5.small y && Kqi5.small z) := by
      show (Kqi5.small x && (Kqi5.small y && (Kqi5.small z && true))) = _
      rw [Bool.and_true, Bool.and_assoc]
    rw [an_costs] at q
    refine ⟨_, rfl, r, _, rfl, hS, _, rfl, ?_⟩
    rw [eb]
    refine ite2 (fun d => ?_) (fun d => ?_)
    · have d' : (Kqi5.small x && Kqi5.small y && Kqi5.small z) = false := by
        cases e : (Kqi5.small x && Kqi5.small y && Kqi5.small z) with
        | false => rfl
        | true =>
          rw [e] at d
          cases d
      have e2 : stepC c' x y z = c' := if_pos d'
      rw [if_pos d', e2] at q
      exact ⟨by show 1 ≤ sizeLine; decide, fun p hp => q _ p (Keep.of (same_new hp)) hp upd_same (hL.same (same_new hp))⟩
    · have d' : (Kqi5.small x && Kqi5.small y && Kqi5.small z) = true := by
        cases e : (Kqi5.small x && Kqi5.small y && Kqi5.small z) with
        | true => rfl
        | false =>
          rw [e] at d
          exact absurd rfl d
      have e2 : stepC c' x y z = ⟨x, y, z⟩ := if_neg (by rw [d']; decide)
      have hb : Cb ⟨x, y, z⟩ := by
        simp only [Bool.and_eq_true, small_iff] at d'
        exact ⟨d'.1.1.1, d'.1.1.2, d'.1.2.1, d'.1.2.2, d'.2.1, d'.2.2⟩
      rw [if_neg (by rw [d']; decide), e2] at q
      refine ⟨_, rfl, a, C, dx, _, _, rfl, ha, T_Layers.cl, T_Layers.n_costs, lF_costs _ _, ?_⟩
      refine ⟨_, rfl, r, _, rfl, .inl ⟨hS, fun t2 ht2 => ?_⟩⟩
      have s1 := same_new (o := .tup (iv [x, y, z])) ht2
      refine ⟨_, rfl, a, C, dx, _, rfl, s1 _ _ ha, T_Layers.cl, T_Layers.n_costs, (by show 2 < 1000; decide), ?_⟩
      have na : t2 ≠ a := fun e => by
        rw [e, ha] at ht2
        cases ht2
      have k1 := (Keep.of (a := a) s1).upd (o := .ins C dx (putF "costs" (.ref t2) (lF (some c').isSome t)))
      refine ⟨by show 1 ≤ sizeLine; decide, fun l1 hl1 => ?_⟩
      have k2 := k1.same (same_new (o := .lst [.int 0]) hl1)
      refine ⟨_, rfl, t, _, rfl, .inr (k2.sqT ha ht), fun l2 hl2 => ?_⟩
      have s3 := same_new (o := .lst (cv c')) hl2
      refine ⟨l1, l2, _, _, rfl, rfl, s3 _ _ upd_same, upd_same, by show 4 ≤ sizeLine; decide, fun p hp => ?_⟩
      have s4 := (same_new (o := .lst [.int 0]) hl1).trans (s3.trans (same_new (o := .lst ([.int 0] ++ cv c')) hp))
      have oa := s4 a _ upd_same
      have ot := s4 t2 _ (by rw [upd_ne na, upd_same])
      refine q _ p (k1.same s4) (((k2.same s3)).free hp (s3 _ _ (same_new (o := .lst [.int 0]) hl1 _ _ upd_same))) upd_same ⟨dx, t2, ⟨x, y, z⟩, ?_, SqT.of ot, hb, fun u e => (Option.some.inj e).symm⟩
      rw [oa, lF_put2]
      rfl
end
end LC


set_option Elab.async false
set_option maxRecDepth 100000
set_option maxHeartbeats 2000000
namespace LC
open PySem PySem.Spec PyProof.Rows L2
open PySem.W (Codec)
/-- the written tuple of the costs that the five need -/
structure Needs (K : PySem.W.Frag) (mg : Str → Option Value) (aN : Addr) (ns : List Addr) : Prop where
  g_NEEDED_COSTS : mg "NEEDED_COSTS" = some (.ref aN)
  sq : ∀ H : Hp, SqT K H aN (ns.map V.ref)
  each : ∀ (H : Hp) (k : Nat), k < 5 → ∃ (a : Addr) (y : Kqi5.Costs), (ns.map V.ref)[k]? = some (V.ref a) ∧ Kqi5.shown[k]? = some y ∧ SqT K H a (cv y)
section
variable {P : Program} {w : World} {K : PySem.W.Frag} {mg : Str → Option Value} {base : Heap} {C fI : Addr}
/-! ### turn_over, state -/
def over (c : Kqi5.Costs) : Kqi5.Costs := ⟨-c.one, c.two, -c.three⟩
theorem cb_over {c : Kqi5.Costs} (h : Cb c) : Cb (over c) := by
  obtain ⟨a1, a2, b1, b2, d1, d2⟩ := h
  exact ⟨by show -100 ≤ -c.one; omega, by show -c.one ≤ 100; omega, b1, b2, by show -100 ≤ -c.three; omega, by show -c.three ≤ 100; omega⟩
def spOver (K : PySem.W.Frag) (C : Addr) : Sp := fun vs H Q _ => ∃ (a : Addr) (c : Kqi5.Costs), vs = [.ref a] ∧ LayAt K C H a (some c) ∧
  ∀ (H' : Hp) (p : Addr), Keep a H H' → H p = none → H' p = some (.lst [.int 0]) → LayAt K C H' a (some (over c)) → Q (.ref p) H'
theorem ok_Layers_turn_over {f : Addr} {fd : FuncData} (F : Fun K "turn_over" "Layers.turn_over" s_Layers_turn_over f fd) (T_Layers : TxtL K mg C fI) : FnOk P w K mg base CX0 1 f fd ["self"] (spOver K C) := by
  refine F.ok sc_Layers_turn_over (fun vs H Q E h => ?_) (fun cdv A outer s H vs Q E hr h => ?_)
  · obtain ⟨a, c, rfl, _⟩ := h
    rfl
  · obtain ⟨a, c', rfl, hL, q⟩ := h
    refine ⟨_, (pss_cons (ps_fld (pv 0) (pe_tup (pa_cons (pe_un un_neg (pe_ix ix_seq (pe_fld (pv 0) rfl) pe_int (fun _ _ => rfl))) (pa_cons (pe_ix ix_seq (pe_fld (pv 0) rfl) pe_int (fun _ _ => rfl)) (pa_cons (pe_un un_neg (pe_ix ix_seq (pe_fld (pv 0) rfl) pe_int (fun _ _ => rfl))) pa_nil)))) rfl)
      (pss_one (ps_ret (pe_lst (pa_cons pe_int pa_nil))))), ?_⟩
    obtain ⟨dx, t, c, ha, ht, hc, ec⟩ := hL.ex
    have ec := ec _ rfl
    subst ec
    refine ⟨_, rfl, a, C, dx, _, _, rfl, ha, T_Layers.cl, T_Layers.n_costs, lF_costs _ _, ix_sq (.inr ht) (v := .int c'.one) rfl ⟨_, rfl, ?_⟩⟩
    refine ⟨_, rfl, a, C, dx, _, _, rfl, ha, T_Layers.cl, T_Layers.n_costs, lF_costs _ _, ix_sq (.inr ht) (v := .int c'.two) rfl ?_⟩
    refine ⟨_, rfl, a, C, dx, _, _, rfl, ha, T_Layers.cl, T_Layers.n_costs, lF_costs _ _, ix_sq (.inr ht) (v := .int c'.three) rfl ⟨_, rfl, by show 3 ≤ sizeLine; decide, fun t2 ht2 => ?_⟩⟩
    have s1 := same_new (o := .tup (cv (over c'))) ht2
    refine ⟨_, rfl, a, C, dx, _, rfl, s1 _ _ ha, T_Layers.cl, T_Layers.n_costs, (by show 2 < 1000; decide), ?_⟩
    have na : t2 ≠ a := fun e => by
      rw [e, ha] at ht2
      cases ht2
    have k1 := (Keep.of (a := a) s1).upd (o := .ins C dx (putF "costs" (.ref t2) (lF (some c').isSome t)))
    refine ⟨by show 1 ≤ sizeLine; decide, fun p hp => ?_⟩
    have s2 := same_new (o := .lst [.int 0]) hp
    have oa := s2 a _ upd_same
    have ot := s2 t2 (.tup (cv (over c'))) (by rw [upd_ne na]; exact upd_same)
    refine q _ p (k1.same s2) (k1.free hp upd_same) upd_same ⟨dx, t2, over c', ?_, SqT.of ot, cb_over hc, fun u e => (Option.some.inj e).symm⟩
    rw [oa, lF_put2]
    rfl
theorem an_state {c : Kqi5.Costs} : An c .state = [0, c.one, c.two, c.three] := rfl
theorem ok_Layers_state {f : Addr} {fd : FuncData} (F : Fun K "state" "Layers.state" s_Layers_state f fd) (T : Txt mg) (T_Layers : TxtL K mg C fI) : FnOk P w K mg base CX0 1 f fd ["self"] (spRead K C (rdNo .state)) := by
  refine F.ok sc_Layers_state (fun vs H Q E h => ?_) (fun cdv A outer s H vs Q E hr h => ?_)
  · obtain ⟨a, us, k, c, rfl, _, ⟨rfl, rfl⟩, _⟩ := h
    rfl
  · obtain ⟨a, us, k, c', rfl, hL, ⟨rfl, rfl⟩, q⟩ := h
    refine ⟨_, (pss_one (ps_ret (pe_op op_cat (pe_lst (pa_cons pe_int pa_nil)) (pe_callTy call_list_of (by rfl) T.n_list (by decide +kernel) (pa_cons (pe_fld (pv 0) rfl) pa_nil))))), ?_⟩
    obtain ⟨dx, t, c, ha, ht, hc, ec⟩ := hL.ex
    have ec := ec _ rfl
    subst ec
    refine ⟨by show 1 ≤ sizeLine; decide, fun l1 hl1 => ?_⟩
    have s1 := same_new (o := .lst [.int 0]) hl1
    refine ⟨_, rfl, a, C, dx, _, _, rfl, s1 _ _ ha, T_Layers.cl, T_Layers.n_costs, lF_costs _ _, t, _, rfl, .inr (sqT_same s1 ht), fun l2 hl2 => ?_⟩
    have s2 := same_new (o := .lst (cv c')) hl2
    refine ⟨l1, l2, _, _, rfl, rfl, s2 _ _ upd_same, upd_same, by show 4 ≤ sizeLine; decide, fun p hp => ?_⟩
    have s3 := s1.trans s2
    exact q _ p (s3.trans (same_new hp)) (s3.free hp) upd_same
/-! ### cheaper, joined -/
theorem an_cheaper {c : Kqi5.Costs} {v w : List Nat} (hv : Kqi5.ok v = true) (hw : Kqi5.ok w = true) : An c (.cheaper v w) = [if Kqi5.noMore c v w then (if Kqi5.noMore c w v then 0 else 1) else 2] := by
  show Kqi5Neutral.tell (if Kqi5.ok v = false ∨ Kqi5.ok w = false then .num (-22) else .num (if Kqi5.noMore c v w then (if Kqi5.noMore c w v then 0 else 1) else 2)) = _
  rw [if_neg (by rw [hv, hw]; decide)]
  rfl
theorem noMore_or {c : Kqi5.Costs} {v w : List Nat} (h : Kqi5.noMore c w v = false) : Kqi5.noMore c v w = true := by
  have h' := of_decide_eq_false h
  exact decide_eq_true (by omega)
theorem not_f {b : Bool} (h : (!b) = true) : b = false := by
  cases b with
  | false => rfl
  | true => cases h
theorem not_t {b : Bool} (h : ¬ (!b) = true) : b = true := by
  cases b with
  | true => rfl
  | false => exact absurd rfl h
theorem ok_Layers_cheaper {f : Addr} {fd : FuncData} (F : Fun K "cheaper" "Layers.cheaper" s_Layers_cheaper f fd) (T_Layers : TxtL K mg C fI) {f1 f2 : Addr} {fd1 fd2 : FuncData} (c_word_mean : Cal P w K mg base 3 "word_mean" f1 fd1 ["costs", "word"] (spMean K)) (c_is_less : Cal P w K mg base 1 "is_less" f2 fd2 ["mean", "other"] (spLess K)) :
    FnOk P w K mg base CX0 4 f fd ["self", "first", "second"] (spRead K C (rdTwo .cheaper)) := by
  refine F.ok sc_Layers_cheaper (fun vs H Q E h => ?_) (fun cdv A outer s H vs Q E hr h => ?_)
  · obtain ⟨a, us, k, c, rfl, _, ⟨r1, r2, w1, w2, rfl, _⟩, _⟩ := h
    rfl
  · obtain ⟨a, us, k, c', rfl, hL, ⟨r1, r2, w1, w2, rfl, hW1, hW2, rfl⟩, q⟩ := h
    refine ⟨_, (pss_cons (ps_set (i := 3) sc_Layers_cheaper.nd rfl (Or.inl rfl) (pe_call c_word_mean.ok (hr.mono (by decide)) rfl c_word_mean.mg c_word_mean.kp c_word_mean.b .nil pass0 (pa_cons (pe_fld (pv 0) rfl) (pa_cons (pv 1) pa_nil))))
      (pss_cons (ps_set (i := 4) sc_Layers_cheaper.nd rfl (Or.inl rfl) (pe_call c_word_mean.ok (hr.mono (by decide)) rfl c_word_mean.mg c_word_mean.kp c_word_mean.b .nil pass0 (pa_cons (pe_fld (pv 0) rfl) (pa_cons (pv 2) pa_nil))))
      (pss_cons (ps_if (pt_val (pe_call c_is_less.ok (hr.mono (by decide)) rfl c_is_less.mg c_is_less.kp c_is_less.b .nil pass0 (pa_cons (pv 3) (pa_cons (pv 4) pa_nil)))) (pss_one (ps_ret (pe_lst (pa_cons pe_int pa_nil)))) pss_nil)
      (pss_cons (ps_if (pt_val (pe_call c_is_less.ok (hr.mono (by decide)) rfl c_is_less.mg c_is_less.kp c_is_less.b .nil pass0 (pa_cons (pv 4) (pa_cons (pv 3) pa_nil)))) (pss_one (ps_ret (pe_lst (pa_cons pe_int pa_nil)))) pss_nil)
      (pss_one (ps_ret (pe_lst (pa_cons pe_int pa_nil)))))))), ?_⟩
    obtain ⟨dx, t, c, ha, ht, hc, ec⟩ := hL.ex
    have ec := ec _ rfl
    subst ec
    rw [an_cheaper hW1.2 hW2.2] at q
    have b1 := hW1.len
    have b2 := hW2.len
    obtain ⟨x1, y1, m1, F1⟩ := mean_fr c' (w := w1) (by omega)
    obtain ⟨x2, y2, m2, F2⟩ := mean_fr c' (w := w2) (by omega)
    have u1 := F1.low
    have u2 := F2.low
    refine ⟨_, rfl, a, C, dx, _, _, rfl, ha, T_Layers.cl, T_Layers.n_costs, lF_costs _ _, _, rfl, t, r1, c', w1, rfl, ht, hc, hW1.sq, by omega, by omega, fun H1 q1 s1 n1 g1 => ?_⟩
    refine ⟨_, rfl, a, C, dx, _, _, rfl, s1 _ _ ha, T_Layers.cl, T_Layers.n_costs, lF_costs _ _, _, rfl, t, r2, c', w2, rfl, sqT_same s1 ht, hc, (hW2.same s1).sq, by omega, by omega, fun H2 q2 s2 n2 g2 => ?_⟩
    rw [m1] at g1
    rw [m2] at g2
    have s3 := s1.trans s2
    have t1 : SqT K H2 q1 [.int x1, .int y1] := SqT.of (s2 _ _ g1)
    have t2 : SqT K H2 q2 [.int x2, .int y2] := SqT.of g2
    have p1 : 0 < y1 ∧ y1 < 1000 := ⟨F1.pos, by omega⟩
    have p2 : 0 < y2 ∧ y2 < 1000 := ⟨F2.pos, by omega⟩
    refine ⟨_, rfl, _, rfl, q1, q2, x1, y1, x2, y2, rfl, t1, t2, p1, p2, _, rfl, ?_⟩
    rw [less_noMore F1 F2]
    refine ite2 (fun d => ?_) (fun d => ?_)
    · have e := not_f d
      rw [if_pos (noMore_or e), if_neg (by rw [e]; decide)] at q
      exact ⟨by show 1 ≤ sizeLine; decide, fun p hp => q _ p (s3.trans (same_new hp)) (s3.free hp) upd_same⟩
    · have e := not_t d
      refine ⟨_, rfl, _, rfl, q2, q1, x2, y2, x1, y1, rfl, t2, t1, p2, p1, _, rfl, ?_⟩
      rw [less_noMore F2 F1]
      refine ite2 (fun d => ?_) (fun d => ?_)
      · have e2 := not_f d
        rw [if_neg (by rw [e2]; decide)] at q
        exact ⟨by show 1 ≤ sizeLine; decide, fun p hp => q _ p (s3.trans (same_new hp)) (s3.free hp) upd_same⟩
      · have e2 := not_t d
        rw [if_pos e2, if_pos e] at q
        exact ⟨by show 1 ≤ sizeLine; decide, fun p hp => q _ p (s3.trans (same_new hp)) (s3.free hp) upd_same⟩
theorem an_joined {c : Kqi5.Costs} {v w : List Nat} (hv : Kqi5.ok v = true) (hw : Kqi5.ok w = true) : An c (.joined v w) = if Kqi5.ok (v ++ w) = false then [-22] else [0, Kqi5.cost c (v ++ w), Kqi5.cost c v + Kqi5.cost c w] := by
  show Kqi5Neutral.tell (if Kqi5.ok v = false ∨ Kqi5.ok w = false ∨ Kqi5.ok (v ++ w) = false then .num (-22) else .some_ 0 [Kqi5.cost c (v ++ w), Kqi5.cost c v + Kqi5.cost c w]) = _
  by_cases h : Kqi5.ok (v ++ w) = false
  · rw [if_pos (.inr (.inr h)), if_pos h]
    rfl
  · rw [if_neg (by rw [hv, hw]; simp [h]), if_neg h]
    rfl
theorem wv_app (v w : List Nat) : wv v ++ wv w = wv (v ++ w) := by
  unfold wv
  rw [List.map_append]
theorem ok_Layers_joined {f : Addr} {fd : FuncData} (F : Fun K "joined" "Layers.joined" s_Layers_joined f fd) (T : Txt mg) (T_Layers : TxtL K mg C fI) {f1 f2 : Addr} {fd1 fd2 : FuncData} (c_is_word : Cal P w K mg base 1 "is_word" f1 fd1 ["steps"] (spIsWord K)) (c_word_cost : Cal P w K mg base 2 "word_cost" f2 fd2 ["costs", "word"] (spCost K)) :
    FnOk P w K mg base CX0 3 f fd ["self", "first", "second"] (spRead K C (rdTwo .joined)) := by
  refine F.ok sc_Layers_joined (fun vs H Q E h => ?_) (fun cdv A outer s H vs Q E hr h => ?_)
  · obtain ⟨a, us, k, c, rfl, _, ⟨r1, r2, w1, w2, rfl, _⟩, _⟩ := h
    rfl
  · obtain ⟨a, us, k, c', rfl, hL, ⟨r1, r2, w1, w2, rfl, hW1, hW2, rfl⟩, q⟩ := h
    refine ⟨_, (pss_cons (ps_set (i := 3) sc_Layers_joined.nd rfl (Or.inl rfl) (pe_op op_cat (pv 1) (pv 2)))
      (pss_cons (ps_if (pt_not (pt_val (pe_call c_is_word.ok (hr.mono (by decide)) rfl c_is_word.mg c_is_word.kp c_is_word.b .nil pass0 (pa_cons (pv 3) pa_nil)))) (pss_one (ps_ret (pe_lst (pa_cons (pe_gint rfl T.g_NOT_RIGHT) pa_nil)))) pss_nil)
      (pss_cons (ps_set (i := 4) sc_Layers_joined.nd rfl (Or.inl rfl) (pe_op op_add (pe_call c_word_cost.ok (hr.mono (by decide)) rfl c_word_cost.mg c_word_cost.kp c_word_cost.b .nil pass0 (pa_cons (pe_fld (pv 0) rfl) (pa_cons (pv 1) pa_nil))) (pe_call c_word_cost.ok (hr.mono (by decide)) rfl c_word_cost.mg c_word_cost.kp c_word_cost.b .nil pass0 (pa_cons (pe_fld (pv 0) rfl) (pa_cons (pv 2) pa_nil)))))
      (pss_one (ps_ret (pe_lst (pa_cons pe_int (pa_cons (pe_call c_word_cost.ok (hr.mono (by decide)) rfl c_word_cost.mg c_word_cost.kp c_word_cost.b .nil pass0 (pa_cons (pe_fld (pv 0) rfl) (pa_cons (pv 3) pa_nil))) (pa_cons (pv 4) pa_nil))))))))), ?_⟩
    obtain ⟨dx, t, c, ha, ht, hc, ec⟩ := hL.ex
    have ec := ec _ rfl
    subst ec
    rw [an_joined hW1.2 hW2.2] at q
    have b1 := hW1.len
    have b2 := hW2.len
    have line : sizeLine = 16777216 := rfl
    refine ⟨_, rfl, _, rfl, r1, r2, _, _, rfl, rfl, hW1.1, hW2.1, by rw [wv_len, wv_len]; omega, fun j hj => ?_⟩
    rw [wv_app]
    have s1 := same_new (o := .lst (wv (w1 ++ w2))) hj
    have gj : upd H j (.lst (wv (w1 ++ w2))) j = some (.lst (wv (w1 ++ w2))) := upd_same
    have hl : (w1 ++ w2).length < 1000 := by
      rw [List.length_append]
      omega
    refine ⟨_, rfl, j, _, rfl, SqL.of gj, _, rfl, ite2 (fun d => ?_) (fun d => ?_)⟩
    · rw [if_pos (not_f d)] at q
      exact ⟨by show 1 ≤ sizeLine; decide, fun p hp => q _ p (s1.trans (same_new hp)) (s1.free hp) upd_same⟩
    · have e := not_t d
      rw [if_neg (by rw [e]; decide)] at q
      refine ⟨_, rfl, a, C, dx, _, _, rfl, s1 _ _ ha, T_Layers.cl, T_Layers.n_costs, lF_costs _ _, _, rfl, t, r1, c', w1, rfl, sqT_same s1 ht, hc, (hW1.same s1).sq, by omega, ?_⟩
      refine ⟨_, rfl, a, C, dx, _, _, rfl, s1 _ _ ha, T_Layers.cl, T_Layers.n_costs, lF_costs _ _, _, rfl, t, r2, c', w2, rfl, sqT_same s1 ht, hc, (hW2.same s1).sq, by omega, _, _, rfl, rfl, ?_⟩
      refine ⟨_, rfl, a, C, dx, _, _, rfl, s1 _ _ ha, T_Layers.cl, T_Layers.n_costs, lF_costs _ _, _, rfl, t, j, c', w1 ++ w2, rfl, sqT_same s1 ht, hc, .inl (SqL.of gj), hl, ?_⟩
      exact ⟨_, rfl, by show 3 ≤ sizeLine; decide, fun p hp => q _ p (s1.trans (same_new hp)) (s1.free hp) upd_same⟩
/-! ### needs -/
theorem an_needs {c : Kqi5.Costs} {k : Nat} : An c (.needs k) = match Kqi5.shown[k]? with
    | none => [-2]
    | some y => [0, y.one, y.two, y.three] := by
  show Kqi5Neutral.tell (match Kqi5.shown[k]? with
    | none => .num (-2)
    | some y => .some_ 0 [y.one, y.two, y.three]) = _
  cases Kqi5.shown[k]? <;> rfl
theorem ok_Layers_needs {f : Addr} {fd : FuncData} (F : Fun K "needs" "Layers.needs" s_Layers_needs f fd) (T : Txt mg) {aF aN : Addr} {as ns : List Addr} (T5 : Five K mg aF as) (TN : Needs K mg aN ns) :
    FnOk P w K mg base CX0 1 f fd ["self", "k"] (spRead K C (rdNum .needs)) := by
  refine F.ok sc_Layers_needs (fun vs H Q E h => ?_) (fun cdv A outer s H vs Q E hr h => ?_)
  · obtain ⟨a, us, k, c, rfl, _, ⟨n, rfl, _⟩, _⟩ := h
    rfl
  · obtain ⟨a, us, k, c', rfl, hL, ⟨n, rfl, rfl⟩, q⟩ := h
    refine ⟨_, (pss_cons (ps_if (pt_cmpR op_ge (pv 1) (pe_callB call_len_seq (by rfl) T.n_len (by decide +kernel) (pa_cons (pe_gref rfl T5.g_FIVE) pa_nil)) (nomark _)) (pss_one (ps_ret (pe_lst (pa_cons (pe_gint rfl T.g_NONE_SUCH) pa_nil)))) pss_nil)
      (pss_one (ps_ret (pe_op op_cat (pe_lst (pa_cons pe_int pa_nil)) (pe_callTy call_list_of (by rfl) T.n_list (by decide +kernel) (pa_cons (pe_ix ix_seq (pe_gref rfl TN.g_NEEDED_COSTS) (pv 1) (fun _ _ => rfl)) pa_nil)))))), ?_⟩
    have l5 : (as.map V.ref).length = 5 := by rw [List.length_map, T5.len]
    rw [an_needs] at q
    refine ⟨_, rfl, aF, _, rfl, .inr (T5.sq _), _, _, rfl, rfl, _, rfl, ite2 (fun d => ?_) (fun d => ?_)⟩
    · have d' := of_decide_eq_true d
      rw [l5] at d'
      have e : Kqi5.shown[n]? = none := List.getElem?_eq_none (by show 5 ≤ n; omega)
      rw [e] at q
      exact ⟨by show 1 ≤ sizeLine; decide, fun p hp => q _ p (same_new hp) hp upd_same⟩
    · have d' : ¬ (((as.map V.ref).length : Nat) : Int) ≤ (n : Int) := fun z => d (decide_eq_true z)
      rw [l5] at d'
      refine ⟨by show 1 ≤ sizeLine; decide, fun l1 hl1 => ?_⟩
      have s1 := same_new (o := .lst [.int 0]) hl1
      obtain ⟨a1, y, e1, e2, t1⟩ := TN.each (upd H l1 (.lst [.int 0])) n (by omega)
      rw [e2] at q
      refine ⟨_, rfl, ix_sq (.inr (TN.sq _)) (at_of (j := n) rfl e1) ⟨a1, _, rfl, .inr t1, fun l2 hl2 => ?_⟩⟩
      have s2 := same_new (o := .lst (cv y)) hl2
      refine ⟨l1, l2, _, _, rfl, rfl, s2 _ _ upd_same, upd_same, by show 4 ≤ sizeLine; decide, fun p hp => ?_⟩
      have s3 := s1.trans s2
      exact q _ p (s3.trans (same_new hp)) (s3.free hp) upd_same
/-! ### turn, fall, rest -/
theorem an_turn {c : Kqi5.Costs} {i : Nat} {w : List Nat} (h : Kqi5.ok w = true) : An c (.turn i w) = if w.length ≤ i then [-2] else [0, Kqi5.cost c (Kqi5.turned w i) - Kqi5.cost c w] := by
  show Kqi5Neutral.tell (if Kqi5.ok w = false then .num (-22) else if w.length ≤ i then .num (-2) else .some_ 0 [Kqi5.cost c (Kqi5.turned w i) - Kqi5.cost c w]) = _
  rw [if_neg (by rw [h]; decide)]
  split <;> rfl
theorem ok_Layers_turn {f : Addr} {fd : FuncData} (F : Fun K "turn" "Layers.turn" s_Layers_turn f fd) (T : Txt mg) (T_Layers : TxtL K mg C fI) {f1 f2 : Addr} {fd1 fd2 : FuncData} (c_cost_with_step_turned : Cal P w K mg base 3 "cost_with_step_turned" f1 fd1 ["costs", "word", "i"] (spCostT K)) (c_word_cost : Cal P w K mg base 2 "word_cost" f2 fd2 ["costs", "word"] (spCost K)) :
    FnOk P w K mg base CX0 4 f fd ["self", "i", "word"] (spRead K C rdTurn) := by
  refine F.ok sc_Layers_turn (fun vs H Q E h => ?_) (fun cdv A outer s H vs Q E hr h => ?_)
  · obtain ⟨a, us, k, c, rfl, _, ⟨i, r, w, rfl, _⟩, _⟩ := h
    rfl
  · obtain ⟨a, us, k, c', rfl, hL, ⟨i, r, w, rfl, hW, rfl⟩, q⟩ := h
    refine ⟨_, (pss_cons (ps_if (pt_cmpR op_ge (pv 1) (pe_callB call_len_seq (by rfl) T.n_len (by decide +kernel) (pa_cons (pv 2) pa_nil)) (nomark _)) (pss_one (ps_ret (pe_lst (pa_cons (pe_gint rfl T.g_NONE_SUCH) pa_nil)))) pss_nil)
      (pss_one (ps_ret (pe_lst (pa_cons pe_int (pa_cons (pe_op op_sub (pe_call c_cost_with_step_turned.ok (hr.mono (by decide)) rfl c_cost_with_step_turned.mg c_cost_with_step_turned.kp c_cost_with_step_turned.b .nil pass0 (pa_cons (pe_fld (pv 0) rfl) (pa_cons (pv 2) (pa_cons (pv 1) pa_nil)))) (pe_call c_word_cost.ok (hr.mono (by decide)) rfl c_word_cost.mg c_word_cost.kp c_word_cost.b .nil pass0 (pa_cons (pe_fld (pv 0) rfl) (pa_cons (pv 2) pa_nil)))) pa_nil)))))), ?_⟩
    obtain ⟨dx, t, c, ha, ht, hc, ec⟩ := hL.ex
    have ec := ec _ rfl
    subst ec
    rw [an_turn hW.2] at q
    have b := hW.len
    have el := wv_len w
    refine ⟨_, rfl, _, rfl, r, _, rfl, hW.sq, _, _, rfl, rfl, _, rfl, ite2 (fun d => ?_) (fun d => ?_)⟩
    · have d' := of_decide_eq_true d
      rw [el] at d'
      rw [if_pos (by omega)] at q
      exact ⟨by show 1 ≤ sizeLine; decide, fun p hp => q _ p (same_new hp) hp upd_same⟩
    · have d' : ¬ ((wv w).length : Int) ≤ (i : Int) := fun z => d (decide_eq_true z)
      rw [el] at d'
      rw [if_neg (by omega)] at q
      refine ⟨_, rfl, a, C, dx, _, _, rfl, ha, T_Layers.cl, T_Layers.n_costs, lF_costs _ _, _, rfl, _, rfl, t, r, c', w, i, rfl, ht, hc, hW.sq, by omega, by omega, hW.bits, fun H1 s1 => ?_⟩
      refine ⟨_, rfl, a, C, dx, _, _, rfl, s1 _ _ ha, T_Layers.cl, T_Layers.n_costs, lF_costs _ _, _, rfl, t, r, c', w, rfl, sqT_same s1 ht, hc, (hW.same s1).sq, by omega, _, _, rfl, rfl, ?_⟩
      exact ⟨by show 2 ≤ sizeLine; decide, fun p hp => q _ p (s1.trans (same_new hp)) (s1.free hp) upd_same⟩
theorem an_fall {c : Kqi5.Costs} {w : List Nat} (h : Kqi5.ok w = true) : An c (.fall w) = match Kqi5.lower c w with
    | none => [-33]
    | some i => [(i : Int), Kqi5.cost c (Kqi5.turned w i)] := by
  show Kqi5Neutral.tell (if Kqi5.ok w = false then .num (-22) else match Kqi5.lower c w with
    | none => .num (-33)
    | some i => .some_ i [Kqi5.cost c (Kqi5.turned w i)]) = _
  rw [if_neg (by rw [h]; decide)]
  cases Kqi5.lower c w <;> rfl
theorem ok_Layers_fall {f : Addr} {fd : FuncData} (F : Fun K "fall" "Layers.fall" s_Layers_fall f fd) (T : Txt mg) (T_Layers : TxtL K mg C fI) {f1 f2 : Addr} {fd1 fd2 : FuncData} (c_cost_with_step_turned : Cal P w K mg base 3 "cost_with_step_turned" f1 fd1 ["costs", "word", "i"] (spCostT K)) (c_falling_step : Cal P w K mg base 4 "falling_step" f2 fd2 ["costs", "word"] (spFallS K)) :
    FnOk P w K mg base CX0 5 f fd ["self", "word"] (spRead K C (rdWord .fall)) := by
  refine F.ok sc_Layers_fall (fun vs H Q E h => ?_) (fun cdv A outer s H vs Q E hr h => ?_)
  · obtain ⟨a, us, k, c, rfl, _, ⟨r, w, rfl, _⟩, _⟩ := h
    rfl
  · obtain ⟨a, us, k, c', rfl, hL, ⟨r, w, rfl, hW, rfl⟩, q⟩ := h
    refine ⟨_, (pss_cons (ps_set (i := 2) sc_Layers_fall.nd rfl (Or.inl rfl) (pe_call c_falling_step.ok (hr.mono (by decide)) rfl c_falling_step.mg c_falling_step.kp c_falling_step.b .nil pass0 (pa_cons (pe_fld (pv 0) rfl) (pa_cons (pv 1) pa_nil))))
      (pss_cons (ps_if (pt_cmpR op_isN (pv 2) pe_non (nomark _)) (pss_one (ps_ret (pe_lst (pa_cons (pe_gint rfl T.g_AT_REST) pa_nil)))) pss_nil)
      (pss_one (ps_ret (pe_lst (pa_cons (pv 2) (pa_cons (pe_call c_cost_with_step_turned.ok (hr.mono (by decide)) rfl c_cost_with_step_turned.mg c_cost_with_step_turned.kp c_cost_with_step_turned.b .nil pass0 (pa_cons (pe_fld (pv 0) rfl) (pa_cons (pv 1) (pa_cons (pv 2) pa_nil)))) pa_nil))))))), ?_⟩
    obtain ⟨dx, t, c, ha, ht, hc, ec⟩ := hL.ex
    have ec := ec _ rfl
    subst ec
    rw [an_fall hW.2] at q
    have b := hW.len
    refine ⟨_, rfl, a, C, dx, _, _, rfl, ha, T_Layers.cl, T_Layers.n_costs, lF_costs _ _, _, rfl, t, r, c', w, rfl, ht, hc, hW.sq, by omega, hW.bits, fun H1 s1 => ?_⟩
    refine ⟨_, rfl, rfl, _, rfl, ite2 (fun d => ?_) (fun d => ?_)⟩
    · cases e : Kqi5.lower c' w with
      | some i =>
        rw [e] at d
        cases of_decide_eq_true d
      | none =>
        rw [e] at q
        exact ⟨by show 1 ≤ sizeLine; decide, fun p hp => q _ p (s1.trans (same_new hp)) (s1.free hp) upd_same⟩
    · cases e : Kqi5.lower c' w with
      | none =>
        rw [e] at d
        exact absurd (decide_eq_true rfl) d
      | some i =>
        rw [e] at q
        refine ⟨_, rfl, _, rfl, a, C, dx, _, _, rfl, s1 _ _ ha, T_Layers.cl, T_Layers.n_costs, lF_costs _ _, _, rfl, _, rfl, t, r, c', w, i, rfl, sqT_same s1 ht, hc, (hW.same s1).sq, (lower_some e).1, by omega, hW.bits, fun H2 s2 => ?_⟩
        have s3 := s1.trans s2
        exact ⟨by show 2 ≤ sizeLine; decide, fun p hp => q _ p (s3.trans (same_new hp)) (s3.free hp) upd_same⟩
theorem an_rest {c : Kqi5.Costs} {w : List Nat} (h : Kqi5.ok w = true) : An c (.rest w) = ((Kqi5.falls c Kqi5.FUEL w).length : Int) :: (Kqi5.nats (Kqi5.falls c Kqi5.FUEL w) ++ [Kqi5.cost c (Kqi5.falls c Kqi5.FUEL w)]) := by
  show Kqi5Neutral.tell (if Kqi5.ok w = false then .num (-22) else .some_ (Kqi5.falls c Kqi5.FUEL w).length (Kqi5.nats (Kqi5.falls c Kqi5.FUEL w) ++ [Kqi5.cost c (Kqi5.falls c Kqi5.FUEL w)])) = _
  rw [if_neg (by rw [h]; decide)]
  rfl
theorem ok_Layers_rest {f : Addr} {fd : FuncData} (F : Fun K "rest" "Layers.rest" s_Layers_rest f fd) (T : Txt mg) (T_Layers : TxtL K mg C fI) {f1 f2 : Addr} {fd1 fd2 : FuncData} (c_word_at_rest : Cal P w K mg base 5 "word_at_rest" f1 fd1 ["costs", "word"] (spRestW K)) (c_word_cost : Cal P w K mg base 2 "word_cost" f2 fd2 ["costs", "word"] (spCost K)) :
    FnOk P w K mg base CX0 6 f fd ["self", "word"] (spRead K C (rdWord .rest)) := by
  refine F.ok sc_Layers_rest (fun vs H Q E h => ?_) (fun cdv A outer s H vs Q E hr h => ?_)
  · obtain ⟨a, us, k, c, rfl, _, ⟨r, w, rfl, _⟩, _⟩ := h
    rfl
  · obtain ⟨a, us, k, c', rfl, hL, ⟨r, w, rfl, hW, rfl⟩, q⟩ := h
    refine ⟨_, (pss_cons (ps_set (i := 2) sc_Layers_rest.nd rfl (Or.inl rfl) (pe_call c_word_at_rest.ok (hr.mono (by decide)) rfl c_word_at_rest.mg c_word_at_rest.kp c_word_at_rest.b .nil pass0 (pa_cons (pe_fld (pv 0) rfl) (pa_cons (pv 1) pa_nil))))
      (pss_one (ps_ret (pe_op op_cat (pe_op op_cat (pe_lst (pa_cons (pe_callB call_len_seq (by rfl) T.n_len (by decide +kernel) (pa_cons (pv 2) pa_nil)) pa_nil)) (pv 2)) (pe_lst (pa_cons (pe_call c_word_cost.ok (hr.mono (by decide)) rfl c_word_cost.mg c_word_cost.kp c_word_cost.b .nil pass0 (pa_cons (pe_fld (pv 0) rfl) (pa_cons (pv 2) pa_nil))) pa_nil)))))), ?_⟩
    obtain ⟨dx, t, c, ha, ht, hc, ec⟩ := hL.ex
    have ec := ec _ rfl
    subst ec
    rw [an_rest hW.2] at q
    have b := hW.len
    have lf := falls_len c' Kqi5.FUEL w
    refine ⟨_, rfl, a, C, dx, _, _, rfl, ha, T_Layers.cl, T_Layers.n_costs, lF_costs _ _, _, rfl, t, r, c', w, rfl, ht, hc, hW.sq, by omega, hW.bits, fun H1 m s1 n1 g1 => ?_⟩
    generalize Kqi5.falls c' Kqi5.FUEL w = v at q lf g1
    have el := wv_len v
    have line : sizeLine = 16777216 := rfl
    refine ⟨_, rfl, m, _, rfl, .inl (SqL.of g1), by show 1 ≤ sizeLine; decide, fun l1 hl1 => ?_⟩
    have s2 := same_new (o := .lst [.int ((wv v).length : Int)]) hl1
    refine ⟨_, rfl, l1, m, _, _, rfl, rfl, upd_same, s2 _ _ g1, ?_, fun l2 hl2 => ?_⟩
    · rw [el]
      show 1 + v.length ≤ sizeLine
      omega
    have s3 := same_new (o := .lst ([.int ((wv v).length : Int)] ++ wv v)) hl2
    have s4 := (s1.trans s2).trans s3
    have g4 := s3 _ _ (s2 _ _ g1)
    refine ⟨_, rfl, a, C, dx, _, _, rfl, s4 _ _ ha, T_Layers.cl, T_Layers.n_costs, lF_costs _ _, _, rfl, t, m, c', v, rfl, sqT_same s4 ht, hc, .inl (SqL.of g4), by omega, by show 1 ≤ sizeLine; decide, fun l3 hl3 => ?_⟩
    have s5 := same_new (o := .lst [.int (Kqi5.cost c' v)]) hl3
    refine ⟨l2, l3, _, _, rfl, rfl, s5 _ _ upd_same, upd_same, ?_, fun p hp => ?_⟩
    · rw [List.length_append, el]
      show 1 + v.length + 1 ≤ sizeLine
      omega
    · have s6 := s4.trans s5
      refine q _ p (s6.trans (same_new hp)) (s6.free hp) ?_
      rw [upd_same]
      show _ = some (HO.lst (V.int (v.length : Int) :: iv (Kqi5.nats v ++ [Kqi5.cost c' v])))
      rw [iv_app, el]
      rfl
end
end LC


set_option Elab.async false
set_option maxRecDepth 100000
set_option maxHeartbeats 2000000
namespace LC
open PySem PySem.Spec PyProof.Rows L2
open PySem.W (Codec)
/-! ### Reader: how it lies in the heap -/
def rF (L : Addr) (i : Nat) : List (Str × V) := [("calls", .ref L), ("place", .int (i : Int))]
theorem rF_calls (L : Addr) (i : Nat) : (rF L i).lookup ("calls" : Str) = some (.ref L) := look_here
theorem rF_place (L : Addr) (i : Nat) : (rF L i).lookup ("place" : Str) = some (.int (i : Int)) := (look_on (by decide +kernel)).trans look_here
theorem rF_no (L : Addr) (i : Nat) {m : Str} (h1 : (m == ("calls" : Str)) = false) (h2 : (m == ("place" : Str)) = false) : (rF L i).lookup m = none := (look_on h1).trans ((look_on h2).trans rfl)
theorem rF_put (L : Addr) (i j : Nat) : putF "place" (.int (j : Int)) (rF L i) = rF L j := (set_on (by decide +kernel)).trans (congrArg _ set_here)
theorem rF_new (L : Addr) : putF "place" (.int 0) (putF "calls" (.ref L) []) = rF L 0 := (set_on (by decide +kernel)).trans rfl
/-- the reader at a stands at the place i of the list at L -/
def RdAt (R : Addr) (H : Hp) (a L : Addr) (i : Nat) : Prop := ∃ dx, H a = some (.ins R dx (rF L i))
structure TxtR (K : PySem.W.Frag) (mg : Str → Option Value) (R fI : Addr) : Prop where
  cl : Cls K R
  n_calls : NoAttr K R "calls"
  n_place : NoAttr K R "place"
  g : mg "Reader" = some (.ref R)
  made : Mk K R fI
abbrev s_Reader_init : Stmt := inClass (top 46) 0
abbrev n_Reader_init : List Str := ["self", "calls"]
theorem sc_Reader_init : FnScope n_Reader_init ["self", "calls"] (defScope s_Reader_init) := ⟨rfl, rfl, rfl, by decide +kernel, rfl, by decide +kernel, by decide +kernel⟩
abbrev s_Reader_has_more : Stmt := inClass (top 46) 1
abbrev n_Reader_has_more : List Str := ["self"]
theorem sc_Reader_has_more : FnScope n_Reader_has_more ["self"] (defScope s_Reader_has_more) := ⟨rfl, rfl, rfl, by decide +kernel, rfl, by decide +kernel, by decide +kernel⟩
abbrev s_Reader_read_numbers : Stmt := inClass (top 46) 2
abbrev n_Reader_read_numbers : List Str := ["self", "how_many", "numbers"]
theorem sc_Reader_read_numbers : FnScope n_Reader_read_numbers ["self", "how_many"] (defScope s_Reader_read_numbers) := ⟨rfl, rfl, rfl, by decide +kernel, rfl, by decide +kernel, by decide +kernel⟩
abbrev s_Reader_read_number : Stmt := inClass (top 46) 3
abbrev n_Reader_read_number : List Str := ["self"]
theorem sc_Reader_read_number : FnScope n_Reader_read_number ["self"] (defScope s_Reader_read_number) := ⟨rfl, rfl, rfl, by decide +kernel, rfl, by decide +kernel, by decide +kernel⟩
abbrev s_Reader_read_rows : Stmt := inClass (top 46) 4
abbrev n_Reader_read_rows : List Str := ["self", "how_many", "rows"]
theorem sc_Reader_read_rows : FnScope n_Reader_read_rows ["self", "how_many"] (defScope s_Reader_read_rows) := ⟨rfl, rfl, rfl, by decide +kernel, rfl, by decide +kernel, by decide +kernel⟩

theorem cut_is {ns : List Int} {i n : Nat} (h : i + n ≤ ns.length) : cutV (iv ns) (some (i : Int)) (some ((i : Int) + (n : Int))) = iv ((ns.drop i).take n) := by
  unfold cutV
  have l : (iv ns).length = ns.length := List.length_map _
  have e1 : HT.sIx (iv ns).length 0 (some (i : Int)) = i := by
    rw [l, HT.sIx_nat]
    omega
  have e2 : HT.sIx (iv ns).length (iv ns).length (some ((i : Int) + (n : Int))) = i + n := by
    rw [l, show (i : Int) + (n : Int) = ((i + n : Nat) : Int) by omega, HT.sIx_nat]
    omega
  rw [e1, e2, Nat.add_sub_cancel_left]
  unfold iv
  rw [← List.map_drop, ← List.map_take]
section
variable {P : Program} {w : World} {K : PySem.W.Frag} {mg : Str → Option Value} {base : Heap} {R fI : Addr}
def spInitR (R : Addr) : Sp := fun vs H Q _ => ∃ (p dx L : Addr), vs = [.ref p, .ref L] ∧ H p = some (.ins R dx []) ∧ ∀ H' : Hp, RdAt R H' p L 0 → Keep p H H' → Q .non H'
theorem ok_Reader_init {f : Addr} {fd : FuncData} (F : Fun K "__init__" "Reader.__init__" s_Reader_init f fd) (T_Reader : TxtR K mg R fI) : FnOk P w K mg base CX0 1 f fd ["self", "calls"] (spInitR R) := by
  refine F.ok sc_Reader_init (fun vs H Q E h => ?_) (fun cdv A outer s H vs Q E hr h => ?_)
  · obtain ⟨p, dx, L, rfl, _⟩ := h
    rfl
  · obtain ⟨p, dx, L, rfl, hp, k⟩ := h
    refine ⟨_, (pss_cons (ps_fld (pv 0) (pv 1) rfl)
      (pss_one (ps_fld (pv 0) pe_int rfl))), ?_⟩
    refine ⟨_, rfl, _, rfl, p, R, dx, [], rfl, hp, T_Reader.cl, T_Reader.n_calls, (by show 0 < 1000; decide), ?_⟩
    refine ⟨_, rfl, p, R, dx, _, rfl, upd_same, T_Reader.cl, T_Reader.n_place, (by show 1 < 1000; decide), ?_⟩
    refine k _ ⟨dx, ?_⟩ (Keep.upd (Keep.upd (Keep.of (.refl _))))
    rw [upd_same]
    exact congrArg (fun z => some (HO.ins R dx z)) (rF_new L)
def spMore (K : PySem.W.Frag) (R : Addr) : Sp := fun vs H Q _ => ∃ (a L : Addr) (i : Nat) (ns : List Int), vs = [.ref a] ∧ RdAt R H a L i ∧ SqL K H L (iv ns) ∧ Q (.bl (decide ((i : Int) < (ns.length : Int)))) H
theorem ok_Reader_has_more {f : Addr} {fd : FuncData} (F : Fun K "has_more" "Reader.has_more" s_Reader_has_more f fd) (T : Txt mg) (T_Reader : TxtR K mg R fI) : FnOk P w K mg base CX0 1 f fd ["self"] (spMore K R) := by
  refine F.ok sc_Reader_has_more (fun vs H Q E h => ?_) (fun cdv A outer s H vs Q E hr h => ?_)
  · obtain ⟨a, L, i, ns, rfl, _⟩ := h
    rfl
  · obtain ⟨a, L, i, ns, rfl, ⟨dx, ha⟩, hS, q⟩ := h
    refine ⟨_, (pss_one (ps_ret (pe_cmpR op_lt (pe_fld (pv 0) rfl) (pe_callB call_len_seq (by rfl) T.n_len (by decide +kernel) (pa_cons (pe_fld (pv 0) rfl) pa_nil)) (nomark _)))), ?_⟩
    refine ⟨_, rfl, a, R, dx, _, _, rfl, ha, T_Reader.cl, T_Reader.n_place, rF_place _ _, ?_⟩
    refine ⟨_, rfl, a, R, dx, _, _, rfl, ha, T_Reader.cl, T_Reader.n_calls, rF_calls _ _, L, _, rfl, .inl hS, _, _, rfl, rfl, ?_⟩
    rw [List.length_map]
    exact q
def spNums (K : PySem.W.Frag) (R : Addr) : Sp := fun vs H Q _ => ∃ (a L : Addr) (i n : Nat) (ns : List Int), vs = [.ref a, .int (n : Int)] ∧ RdAt R H a L i ∧ SqL K H L (iv ns) ∧ i + n ≤ ns.length ∧
  ∀ (H' : Hp) (p : Addr), Keep a H H' → H p = none → H' p = some (.lst (iv ((ns.drop i).take n))) → RdAt R H' a L (i + n) → Q (.ref p) H'
theorem ok_Reader_read_numbers {f : Addr} {fd : FuncData} (F : Fun K "read_numbers" "Reader.read_numbers" s_Reader_read_numbers f fd) (T_Reader : TxtR K mg R fI) : FnOk P w K mg base CX0 1 f fd ["self", "how_many"] (spNums K R) := by
  refine F.ok sc_Reader_read_numbers (fun vs H Q E h => ?_) (fun cdv A outer s H vs Q E hr h => ?_)
  · obtain ⟨a, L, i, n, ns, rfl, _⟩ := h
    rfl
  · obtain ⟨a, L, i, n, ns, rfl, ⟨dx, ha⟩, hS, hl, q⟩ := h
    refine ⟨_, (pss_cons (ps_set (i := 2) sc_Reader_read_numbers.nd rfl (Or.inl rfl) (pe_slice sl_list (pe_fld (pv 0) rfl) (po_some (pe_fld (pv 0) rfl)) (po_some (pe_op op_add (pe_fld (pv 0) rfl) (pv 1)))))
      (pss_cons (ps_fld (pv 0) (pe_op op_add (pe_fld (pv 0) rfl) (pv 1)) rfl)
      (pss_one (ps_ret (pv 2))))), ?_⟩
    refine ⟨_, rfl, a, R, dx, _, _, rfl, ha, T_Reader.cl, T_Reader.n_calls, rF_calls _ _, ?_⟩
    refine ⟨_, rfl, a, R, dx, _, _, rfl, ha, T_Reader.cl, T_Reader.n_place, rF_place _ _, _, rfl, ?_⟩
    refine ⟨_, rfl, a, R, dx, _, _, rfl, ha, T_Reader.cl, T_Reader.n_place, rF_place _ _, _, rfl, _, _, rfl, rfl, _, rfl, ?_⟩
    refine ⟨L, _, rfl, hS, fun p hp => ?_⟩
    rw [cut_is hl]
    have s1 := same_new (o := .lst (iv ((ns.drop i).take n))) hp
    have np : p ≠ a := fun e => by
      rw [e, ha] at hp
      cases hp
    refine ⟨_, rfl, a, R, dx, _, _, rfl, s1 _ _ ha, T_Reader.cl, T_Reader.n_place, rF_place _ _, _, rfl, _, _, rfl, rfl, ?_⟩
    refine ⟨_, rfl, a, R, dx, _, rfl, s1 _ _ ha, T_Reader.cl, T_Reader.n_place, (by show 2 < 1000; decide), ?_⟩
    refine ⟨_, rfl, q _ p (Keep.upd (Keep.of s1)) hp (by rw [upd_ne np, upd_same]) ⟨dx, ?_⟩⟩
    have e : (i : Int) + (n : Int) = ((i + n : Nat) : Int) := by omega
    rw [upd_same]
    dsimp only
    rw [e, rF_put]
def spNum (K : PySem.W.Frag) (R : Addr) : Sp := fun vs H Q _ => ∃ (a L : Addr) (i : Nat) (x : Int) (ns : List Int), vs = [.ref a] ∧ RdAt R H a L i ∧ SqL K H L (iv ns) ∧ ns[i]? = some x ∧
  ∀ H' : Hp, Keep a H H' → RdAt R H' a L (i + 1) → Q (.int x) H'
theorem ok_Reader_read_number {f : Addr} {fd : FuncData} (F : Fun K "read_number" "Reader.read_number" s_Reader_read_number f fd) (T_Reader : TxtR K mg R fI) {f1 : Addr} {fd1 : FuncData} (c_Reader_read_numbers : CalM P w K mg base 1 R "read_numbers" f1 fd1 ["self", "how_many"] (spNums K R)) : FnOk P w K mg base CX0 2 f fd ["self"] (spNum K R) := by
  refine F.ok sc_Reader_read_number (fun vs H Q E h => ?_) (fun cdv A outer s H vs Q E hr h => ?_)
  · obtain ⟨a, L, i, x, ns, rfl, _⟩ := h
    rfl
  · obtain ⟨a, L, i, x, ns, rfl, hR, hS, hx, q⟩ := h
    refine ⟨_, (pss_one (ps_ret (pe_ix ix_seq (pe_meth (pv 0) T_Reader.cl c_Reader_read_numbers.mt c_Reader_read_numbers.ok (hr.mono (by decide)) c_Reader_read_numbers.b .nil pass0 (pa_cons pe_int pa_nil)) pe_int (fun _ _ => rfl)))), ?_⟩
    obtain ⟨dx, ha⟩ := hR
    have hi := (List.getElem?_eq_some_iff.mp hx).1
    have et : (ns.drop i).take 1 = [x] := by
      rw [List.drop_eq_getElem_cons hi, (List.getElem?_eq_some_iff.mp hx).2]
      rfl
    refine ⟨_, rfl, a, dx, _, rfl, ha, rF_no _ _ (by decide +kernel) (by decide +kernel), a, L, i, 1, ns, rfl, ⟨dx, ha⟩, hS, by omega, fun H1 p k1 n1 g1 r1 => ?_⟩
    rw [et] at g1
    exact ix_sq (.inl (SqL.of g1)) (v := .int x) rfl (q _ k1 r1)
/-! ### rows -/
/-- at each of these addresses stands the row of that place, and none of them is D -/
def Rows (H : Hp) (D : Addr) (rs : List Addr) (xs : List (List Int)) : Prop := rs.length = xs.length ∧ ∀ (m : Nat) (r : Addr) (x : List Int), rs[m]? = some r → xs[m]? = some x → r ≠ D ∧ H r = some (.lst (iv x))
theorem Rows.snoc {H : Hp} {D : Addr} {rs : List Addr} {xs : List (List Int)} {r : Addr} {x : List Int} (h : Rows H D rs xs) (hr : r ≠ D) (hx : H r = some (.lst (iv x))) : Rows H D (rs ++ [r]) (xs ++ [x]) := by
  refine ⟨by rw [List.length_append, List.length_append, h.1]; rfl, fun m b v h1 h2 => ?_⟩
  by_cases hm : m < rs.length
  · rw [List.getElem?_append_left hm] at h1
    rw [List.getElem?_append_left (by rw [← h.1]; exact hm)] at h2
    exact h.2 m b v h1 h2
  · rw [List.getElem?_append_right (by omega)] at h1
    rw [List.getElem?_append_right (by rw [← h.1]; omega), ← h.1] at h2
    have e : m - rs.length = 0 := by
      have := (List.getElem?_eq_some_iff.mp h1).1
      rw [List.length_singleton] at this
      omega
    rw [e] at h1 h2
    have e1 : r = b := Option.some.inj h1
    have e2 : x = v := Option.some.inj h2
    subst e1 e2
    exact ⟨hr, hx⟩
theorem Rows.keep {H H' : Hp} {D a R dx : Addr} {fs : List (Str × V)} {rs : List Addr} {xs : List (List Int)} (h : Rows H D rs xs) (k : Keep a H H') (ha : H a = some (.ins R dx fs)) : Rows H' D rs xs := ⟨h.1, fun m r x h1 h2 => by
  obtain ⟨g1, g2⟩ := h.2 m r x h1 h2
  refine ⟨g1, k _ _ g2 fun e => ?_⟩
  rw [e, ha] at g2
  cases g2⟩
theorem Rows.upd {H : Hp} {D : Addr} {o : HO} {rs : List Addr} {xs : List (List Int)} (h : Rows H D rs xs) : Rows (upd H D o) D rs xs := ⟨h.1, fun m r x h1 h2 => by
  obtain ⟨g1, g2⟩ := h.2 m r x h1 h2
  exact ⟨g1, by rw [upd_ne g1]; exact g2⟩⟩
def spRows (K : PySem.W.Frag) (R : Addr) : Sp := fun vs H Q _ => ∃ (a L : Addr) (i j k : Nat) (ns : List Int) (xs : List (List Int)), vs = [.ref a, .int (k : Int)] ∧ RdAt R H a L i ∧ SqL K H L (iv ns) ∧ k ≤ 1000 ∧ i ≤ ns.length ∧ j ≤ ns.length ∧ PyFlat.rows k (ns.drop i) = some (xs, ns.drop j) ∧
  ∀ (H' : Hp) (p : Addr) (rs : List Addr), Keep a H H' → H p = none → H' p = some (.lst (rs.map V.ref)) → Rows H' p rs xs → RdAt R H' a L j → Q (.ref p) H'
/-- one row more -/
theorem rows_step {k i j : Nat} {ns : List Int} {xs : List (List Int)} (h : PyFlat.rows (k + 1) (ns.drop i) = some (xs, ns.drop j)) :
    ∃ (n : Nat) (x : List Int) (ys : List (List Int)), ns[i]? = some (n : Int) ∧ i + 1 + n ≤ ns.length ∧ x = (ns.drop (i + 1)).take n ∧ xs = x :: ys ∧ PyFlat.rows k (ns.drop (i + 1 + n)) = some (ys, ns.drop j) := by
  have h' : (match PyFlat.row (ns.drop i) with
    | none => none
    | some (y, t) => match PyFlat.rows k t with
      | none => none
      | some (ys, u) => some (y :: ys, u)) = some (xs, ns.drop j) := h
  cases e : ns.drop i with
  | nil =>
    rw [e] at h'
    cases h'
  | cons z r =>
    have hi : i < ns.length := by
      rcases Nat.lt_or_ge i ns.length with q | q
      · exact q
      · rw [List.drop_eq_nil_of_le q] at e
        cases e
    rw [List.drop_eq_getElem_cons hi] at e
    obtain ⟨ez, er⟩ := List.cons.inj e
    rw [List.drop_eq_getElem_cons hi, ez, er] at h'
    have h2 : (match (if 0 ≤ z ∧ z.toNat ≤ r.length then some (r.take z.toNat, r.drop z.toNat) else none) with
      | none => none
      | some (y, t) => match PyFlat.rows k t with
        | none => none
        | some (ys, u) => some (y :: ys, u)) = some (xs, ns.drop j) := h'
    by_cases c : 0 ≤ z ∧ z.toNat ≤ r.length
    · rw [if_pos c] at h2
      have h3 : (match PyFlat.rows k (r.drop z.toNat) with
        | none => none
        | some (ys, u) => some (r.take z.toNat :: ys, u)) = some (xs, ns.drop j) := h2
      cases e4 : PyFlat.rows k (r.drop z.toNat) with
      | none =>
        rw [e4] at h3
        cases h3
      | some q =>
        obtain ⟨ys, u⟩ := q
        rw [e4] at h3
        obtain ⟨g1, g2⟩ := Prod.mk.inj (Option.some.inj (show some (r.take z.toNat :: ys, u) = some (xs, ns.drop j) from h3))
        have lr : r.length = ns.length - (i + 1) := by rw [← er, List.length_drop]
        refine ⟨z.toNat, r.take z.toNat, ys, ?_, by omega, by rw [er], g1.symm, ?_⟩
        · rw [List.getElem?_eq_getElem hi, ez, Int.toNat_of_nonneg c.1]
        · rw [← g2, ← e4, ← er, List.drop_drop]
    · rw [if_neg c] at h2
      cases h2
theorem rows_done {i j : Nat} {ns : List Int} {xs : List (List Int)} (hi : i ≤ ns.length) (hj : j ≤ ns.length) (h : PyFlat.rows 0 (ns.drop i) = some (xs, ns.drop j)) : xs = [] ∧ i = j := by
  obtain ⟨g1, g2⟩ := Prod.mk.inj (Option.some.inj (show some (([] : List (List Int)), ns.drop i) = some (xs, ns.drop j) from h))
  have := congrArg List.length g2
  rw [List.length_drop, List.length_drop] at this
  exact ⟨g1.symm, by omega⟩
theorem ok_Reader_read_rows {f : Addr} {fd : FuncData} (F : Fun K "read_rows" "Reader.read_rows" s_Reader_read_rows f fd) (T : Txt mg) (T_Reader : TxtR K mg R fI) {f1 f2 : Addr} {fd1 fd2 : FuncData} (c_Reader_read_numbers : CalM P w K mg base 1 R "read_numbers" f1 fd1 ["self", "how_many"] (spNums K R)) (c_Reader_read_number : CalM P w K mg base 2 R "read_number" f2 fd2 ["self"] (spNum K R)) : FnOk P w K mg base CX0 3 f fd ["self", "how_many"] (spRows K R) := by
  refine F.ok sc_Reader_read_rows (fun vs H Q E h => ?_) (fun cdv A outer s H vs Q E hr h => ?_)
  · obtain ⟨a, L, i, j, k, ns, xs, rfl, _⟩ := h
    rfl
  · obtain ⟨a, L, i, j, k, ns, xs, rfl, hR, hS, hk, hi, hj, hx, q⟩ := h
    refine ⟨_, (pss_cons (ps_set (i := 2) sc_Reader_read_rows.nd rfl (Or.inl rfl) (pe_lst pa_nil))
      (pss_cons (ps_while PassesOwn.never (pt_cmpR op_lt (pe_callB call_len_seq (by rfl) T.n_len (by decide +kernel) (pa_cons (pv 2) pa_nil)) (pv 1) (nomark _)) (pss_one (ps_expr (pe_bm PySem.F.plainAttrs_list PySem.F.slot_list_append PySem.F.type_list_append mt_append (pv 2) (pa_cons (pe_meth (pv 0) T_Reader.cl c_Reader_read_numbers.mt c_Reader_read_numbers.ok (hr.mono (by decide)) c_Reader_read_numbers.b .nil pass0 (pa_cons (pe_meth0 (pv 0) T_Reader.cl c_Reader_read_number.mt c_Reader_read_number.ok (hr.mono (by decide)) c_Reader_read_number.b .nil pass0) pa_nil)) pa_nil)))))
      (pss_one (ps_ret (pv 2))))), ?_⟩
    obtain ⟨dx, ha⟩ := hR
    refine ⟨by show 0 ≤ sizeLine; decide, fun D hD => ?_⟩
    have s0 := same_new (o := .lst []) hD
    refine while_by (fun σ H' => ∃ (m i' : Nat) (rs : List Addr) (zs ys : List (List Int)) (dx' : Addr), σ = [some (.ref a), some (.int (k : Int)), some (.ref D)] ∧ rs.length = m ∧ m ≤ k ∧ Keep a H H' ∧ H' D = some (.lst (rs.map V.ref)) ∧ Rows H' D rs zs ∧ xs = zs ++ ys ∧ H' a = some (.ins R dx' (rF L i')) ∧ PyFlat.rows (k - m) (ns.drop i') = some (ys, ns.drop j) ∧ i' ≤ ns.length)
      (fun _ H' => match H' D with | some (.lst rs) => k - rs.length | _ => 0)
      ⟨0, i, [], [], xs, dx, rfl, rfl, Nat.zero_le _, Keep.of s0, upd_same, ⟨rfl, fun m r x h => by cases h⟩, rfl, s0 _ _ ha, hx, hi⟩ ?_ ?_
    · rintro σ H1 ⟨m, i', rs, zs, ys, dx', rfl, hm, hmk, k1, hD1, hw, ex, ha1, hx1, hi1⟩
      refine ⟨_, rfl, D, _, rfl, .inl (SqL.of hD1), _, rfl, _, _, rfl, rfl, _, rfl, ite2 (fun c => ?_) (fun c => ?_)⟩
      · have c' : ((rs.map V.ref).length : Int) < (k : Int) := of_decide_eq_true c
        rw [List.length_map] at c'
        obtain ⟨k', ek⟩ : ∃ k', k - m = k' + 1 := ⟨k - m - 1, by omega⟩
        rw [ek] at hx1
        obtain ⟨n, x, ys', hn, hl, exx, ey, hx2⟩ := rows_step hx1
        have hS1 := k1.sqL ha hS
        refine ⟨_, rfl, .inl ⟨rfl, _, SqL.of hD1⟩, ?_⟩
        refine ⟨_, rfl, a, dx', _, rfl, ha1, rF_no _ _ (by decide +kernel) (by decide +kernel), ?_⟩
        refine ⟨_, rfl, a, dx', _, rfl, ha1, rF_no _ _ (by decide +kernel) (by decide +kernel), a, L, i', (n : Int), ns, rfl, ⟨dx', ha1⟩, hS1, hn, fun H2 k2 r2 => ?_⟩
        refine ⟨a, L, i' + 1, n, ns, rfl, r2, k2.sqL ha1 hS1, by omega, fun H3 p k3 n3 g3 r3 => ?_⟩
        obtain ⟨dx2, ha2⟩ := r2
        obtain ⟨dx3, ha3⟩ := r3
        have nD : D ≠ a := fun e => by
          rw [e, ha1] at hD1
          cases hD1
        have hD3 := k3 _ _ (k2 _ _ hD1 nD) nD
        have pD : p ≠ D := fun e => by
          rw [e, k2 _ _ hD1 nD] at n3
          cases n3
        refine ⟨D, _, _, rfl, rfl, hD3, ?_, ?_⟩
        · rw [List.length_map]
          exact Nat.lt_of_lt_of_le (show rs.length < 1001 by omega) (by decide)
        · have w3 := ((hw.keep k2 ha1).keep k3 ha2).snoc pD (show H3 p = some (.lst (iv x)) by rw [exx]; exact g3)
          have kk := (k1.trans (k2.trans k3))
          refine ⟨⟨m + 1, i' + 1 + n, rs ++ [p], zs ++ [x], ys', dx3, rfl, ?_, by omega, ?_, ?_, w3.upd, ?_, ?_, ?_, hl⟩, ?_⟩
          · rw [List.length_append, hm]
            rfl
          · intro b o e nb
            have : b ≠ D := ne_of_none e hD
            rw [upd_ne this]
            exact kk b o e nb
          · rw [upd_same, List.map_append]
            rfl
          · rw [ex, ey, List.append_assoc]
            rfl
          · rw [upd_ne nD.symm]
            exact ha3
          · rw [show k - (m + 1) = k' by omega]
            exact hx2
          · rw [upd_same, hD1]
            show k - (rs.map V.ref ++ [V.ref p]).length < k - (rs.map V.ref).length
            rw [List.length_append, List.length_map]
            show k - (rs.length + 1) < k - rs.length
            omega
      · have c' : ¬ ((rs.map V.ref).length : Int) < (k : Int) := fun z => c (decide_eq_true z)
        rw [List.length_map] at c'
        rw [show k - m = 0 by omega] at hx1
        obtain ⟨e1, e2⟩ := rows_done hi1 hj hx1
        rw [e1, List.append_nil] at ex
        refine ⟨_, rfl, q _ D rs k1 hD hD1 (by rw [ex]; exact hw) ⟨dx', by rw [← e2]; exact ha1⟩⟩
    · rintro σ H' Q1 Q2 mn ⟨v, h1, p, ys, h2, h3, u, h4, x, y, h5, h6, z, h7, h8⟩
      exact ⟨v, h1, p, ys, h2, h3, u, h4, x, y, h5, h6, z, h7, mn _ _ h8⟩
end
end LC


set_option Elab.async false
set_option maxRecDepth 100000
set_option maxHeartbeats 2000000
namespace LC
open PySem PySem.Spec PyProof.Rows L2
open PySem.W (Codec)
/-! ### the specification's calls, read one by one -/
theorem rows_end : ∀ (k i : Nat) (ns : List Int) (xs : List (List Int)) (t : List Int), i ≤ ns.length → PyFlat.rows k (ns.drop i) = some (xs, t) → ∃ j, i ≤ j ∧ j ≤ ns.length ∧ t = ns.drop j ∧ xs.length = k
  | 0, i, ns, xs, t, hi, h => by
    obtain ⟨g1, g2⟩ := Prod.mk.inj (Option.some.inj (show some (([] : List (List Int)), ns.drop i) = some (xs, t) from h))
    exact ⟨i, Nat.le_refl _, hi, g2.symm, by rw [← g1]; rfl⟩
  | k + 1, i, ns, xs, t, hi, h => by
    have h' : (match PyFlat.row (ns.drop i) with
      | none => none
      | some (y, t) => match PyFlat.rows k t with
        | none => none
        | some (ys, u) => some (y :: ys, u)) = some (xs, t) := h
    cases e : PyFlat.row (ns.drop i) with
    | none =>
      rw [e] at h'
      cases h'
    | some q =>
      obtain ⟨y, t'⟩ := q
      rw [e] at h'
      have h2 : (match PyFlat.rows k t' with
        | none => none
        | some (ys, u) => some (y :: ys, u)) = some (xs, t) := h'
      have ht : ∃ j', i ≤ j' ∧ j' ≤ ns.length ∧ t' = ns.drop j' := by
        cases e2 : ns.drop i with
        | nil =>
          rw [e2] at e
          cases e
        | cons z r =>
          rw [e2] at e
          have e3 : (if 0 ≤ z ∧ z.toNat ≤ r.length then some (r.take z.toNat, r.drop z.toNat) else none) = some (y, t') := e
          have hlt : i < ns.length := by
            rcases Nat.lt_or_ge i ns.length with q | q
            · exact q
            · rw [List.drop_eq_nil_of_le q] at e2
              cases e2
          rw [List.drop_eq_getElem_cons hlt] at e2
          obtain ⟨_, er⟩ := List.cons.inj e2
          by_cases c : 0 ≤ z ∧ z.toNat ≤ r.length
          · rw [if_pos c] at e3
            have g := (Prod.mk.inj (Option.some.inj e3)).2
            have lr : r.length = ns.length - (i + 1) := by rw [← er, List.length_drop]
            refine ⟨i + 1 + z.toNat, by omega, by omega, ?_⟩
            rw [← g, ← er, List.drop_drop]
          · rw [if_neg c] at e3
            cases e3
      obtain ⟨j', h3, h4, h5⟩ := ht
      cases e4 : PyFlat.rows k t' with
      | none =>
        rw [e4] at h2
        cases h2
      | some q =>
        obtain ⟨ys, u⟩ := q
        rw [e4] at h2
        obtain ⟨g1, g2⟩ := Prod.mk.inj (Option.some.inj (show some (y :: ys, u) = some (xs, t) from h2))
        rw [h5] at e4
        obtain ⟨j, q1, q2, q3, q4⟩ := rows_end k j' ns ys u h4 e4
        exact ⟨j, by omega, q2, by rw [← g2]; exact q3, by rw [← g1]; show ys.length + 1 = k + 1; rw [q4]⟩
/-- one call more: where it stands, and where the next one begins -/
theorem calls_step {shape : Int → Option (Nat × Nat)} {f i : Nat} {ns : List Int} {cs : List (List (List Int))} (hi : i < ns.length) (h : PyFlat.calls shape f (ns.drop i) = some cs) :
    ∃ (p : Int) (n k j f' : Nat) (rows : List (List Int)) (cs' : List (List (List Int))), ns[i]? = some p ∧ shape p = some (n, k) ∧ i + 1 + n ≤ ns.length ∧ PyFlat.rows k (ns.drop (i + 1 + n)) = some (rows, ns.drop j) ∧ i < j ∧ j ≤ ns.length ∧ rows.length = k ∧
      cs = ((p :: (ns.drop (i + 1)).take n) :: rows) :: cs' ∧ PyFlat.calls shape f' (ns.drop j) = some cs' := by
  rw [List.drop_eq_getElem_cons hi] at h
  cases f with
  | zero => cases h
  | succ f =>
    have h1 : (match PyFlat.call shape (ns[i] :: ns.drop (i + 1)) with
      | none => none
      | some (c, t) => match PyFlat.calls shape f t with
        | none => none
        | some cs => some (c :: cs)) = some cs := h
    cases e : shape ns[i] with
    | none =>
      have : PyFlat.call shape (ns[i] :: ns.drop (i + 1)) = none := by
        show (match shape ns[i] with
          | none => none
          | some (n, k) => if (ns.drop (i + 1)).length < n then none else match PyFlat.rows k ((ns.drop (i + 1)).drop n) with
            | none => none
            | some (xs, t) => some ((ns[i] :: (ns.drop (i + 1)).take n) :: xs, t)) = none
        rw [e]
      rw [this] at h1
      cases h1
    | some q =>
      obtain ⟨n, k⟩ := q
      have ec : PyFlat.call shape (ns[i] :: ns.drop (i + 1)) = (if (ns.drop (i + 1)).length < n then none else match PyFlat.rows k ((ns.drop (i + 1)).drop n) with
            | none => none
            | some (xs, t) => some ((ns[i] :: (ns.drop (i + 1)).take n) :: xs, t)) := by
        show (match shape ns[i] with
          | none => none
          | some (n, k) => if (ns.drop (i + 1)).length < n then none else match PyFlat.rows k ((ns.drop (i + 1)).drop n) with
            | none => none
            | some (xs, t) => some ((ns[i] :: (ns.drop (i + 1)).take n) :: xs, t)) = _
        rw [e]
      rw [ec] at h1
      by_cases hl : (ns.drop (i + 1)).length < n
      · rw [if_pos hl] at h1
        cases h1
      · rw [if_neg hl, List.drop_drop] at h1
        rw [List.length_drop] at hl
        cases e2 : PyFlat.rows k (ns.drop (i + 1 + n)) with
        | none =>
          rw [e2] at h1
          cases h1
        | some q =>
          obtain ⟨rows, t⟩ := q
          rw [e2] at h1
          have h2 : (match PyFlat.calls shape f t with
            | none => none
            | some cs => some (((ns[i] :: (ns.drop (i + 1)).take n) :: rows) :: cs)) = some cs := h1
          obtain ⟨j, q1, q2, q3, q4⟩ := rows_end k (i + 1 + n) ns rows t (by omega) e2
          cases e3 : PyFlat.calls shape f t with
          | none =>
            rw [e3] at h2
            cases h2
          | some cs' =>
            rw [e3] at h2
            refine ⟨ns[i], n, k, j, f, rows, cs', List.getElem?_eq_getElem hi, e, by omega, by rw [← q3]; exact e2, by omega, q2, q4, (Option.some.inj h2).symm, by rw [← q3]; exact e3⟩
theorem row_nat {row : List Int} (h : row.all (PyInside.within 0 4294967295) = true) : iv row = wv (row.map Kqi5Neutral.n) := by
  unfold iv wv
  rw [List.map_map]
  refine List.map_congr_left fun x hx => ?_
  have := List.all_eq_true.mp h x hx
  unfold PyInside.within at this
  rw [Bool.and_eq_true, decide_eq_true_eq, decide_eq_true_eq] at this
  show V.int x = V.int ((Kqi5Neutral.n x : Nat) : Int)
  unfold Kqi5Neutral.n
  rw [Int.toNat_of_nonneg this.1]
/-- the call as it is handed over: its number, its whole numbers, its rows -/
structure Asked (p : Int) (xs : List Int) (rows : List (List Int)) : Prop where
  sh : PyKqi5.shape p = some (xs.length, rows.length)
  ins : PyInside.call PyKqi5.bound ((p :: xs) :: rows) = true
abbrev stp (s : Option Kqi5.Costs) (p : Int) (xs : List Int) (rows : List (List Int)) : Option Kqi5.Costs × List Int := Kqi5Neutral.step s ((p :: xs) :: rows)
theorem shape_in {p : Int} {z : Nat × Nat} (h : PyKqi5.shape p = some z) : 0 ≤ p ∧ p ≤ 16 := by
  unfold PyKqi5.shape at h
  by_cases c : 0 ≤ p ∧ p ≤ 16
  · exact c
  · rw [if_neg (by omega), if_neg (by omega), if_neg (by omega), if_neg (by omega), if_neg (by omega), if_neg (by omega), if_neg (by omega), if_neg (by omega), if_neg (by omega), if_neg (by omega), if_neg (by omega), if_neg (by omega), if_neg (by omega), if_neg (by omega), if_neg (by omega), if_neg (by omega), if_neg (by omega)] at h
    cases h
theorem asked_0 {p : Int} {xs : List Int} {rows : List (List Int)} (A : Asked p xs rows) (hs : PyKqi5.shape p = some (0, 0)) : xs = [] ∧ rows = [] := by
  have e := Option.some.inj (hs.symm.trans A.sh)
  exact ⟨List.length_eq_zero_iff.mp (Prod.mk.inj e).1.symm, List.length_eq_zero_iff.mp (Prod.mk.inj e).2.symm⟩
theorem len1 {A : Type} {l : List A} (h : 1 = l.length) : ∃ x, l = [x] := List.length_eq_one_iff.mp h.symm
theorem len2 {A : Type} {l : List A} (h : 2 = l.length) : ∃ x y, l = [x, y] := by
  match l, h with
  | [x, y], _ => exact ⟨x, y, rfl⟩
theorem len3 {A : Type} {l : List A} (h : 3 = l.length) : ∃ x y z, l = [x, y, z] := by
  match l, h with
  | [x, y, z], _ => exact ⟨x, y, z, rfl⟩
theorem asked_3 {xs : List Int} {rows : List (List Int)} (A : Asked 1 xs rows) : ∃ x y z, xs = [x, y, z] ∧ rows = [] := by
  have e := Option.some.inj ((show PyKqi5.shape 1 = some (3, 0) from rfl).symm.trans A.sh)
  obtain ⟨x, y, z, h⟩ := len3 (Prod.mk.inj e).1
  exact ⟨x, y, z, h, List.length_eq_zero_iff.mp (Prod.mk.inj e).2.symm⟩
theorem asked_n {p : Int} {xs : List Int} {rows : List (List Int)} (A : Asked p xs rows) (hs : PyKqi5.shape p = some (1, 0)) (hb : PyKqi5.bound p = ([(0, 4294967295)], [])) : ∃ n : Nat, xs = [(n : Int)] ∧ rows = [] := by
  have e := Option.some.inj (hs.symm.trans A.sh)
  obtain ⟨x, rfl⟩ := len1 (Prod.mk.inj e).1
  have er : rows = [] := List.length_eq_zero_iff.mp (Prod.mk.inj e).2.symm
  subst er
  have h : (PyInside.each (PyKqi5.bound p).1 [x] && PyInside.lists (PyKqi5.bound p).2 []) = true := A.ins
  rw [hb] at h
  have h2 : ((PyInside.within 0 4294967295 x && true) && true) = true := h
  rw [Bool.and_true, Bool.and_true] at h2
  unfold PyInside.within at h2
  rw [Bool.and_eq_true, decide_eq_true_eq, decide_eq_true_eq] at h2
  exact ⟨x.toNat, by rw [Int.toNat_of_nonneg h2.1], rfl⟩
theorem row_in {row : List Int} (h : (decide (0 ≤ row.length) && decide (row.length ≤ 60) && row.all (PyInside.within 0 4294967295)) = true) : row.length ≤ 60 ∧ row.all (PyInside.within 0 4294967295) = true := by
  rw [Bool.and_eq_true, Bool.and_eq_true, decide_eq_true_eq, decide_eq_true_eq] at h
  exact ⟨h.1.2, h.2⟩
theorem asked_r {p : Int} {xs : List Int} {rows : List (List Int)} (A : Asked p xs rows) (hs : PyKqi5.shape p = some (0, 1)) (hb : PyKqi5.bound p = ([], [(0, 4294967295, 0, 60)])) : xs = [] ∧ ∃ row, rows = [row] ∧ row.length ≤ 60 ∧ row.all (PyInside.within 0 4294967295) = true := by
  have e := Option.some.inj (hs.symm.trans A.sh)
  obtain ⟨r, rfl⟩ := len1 (Prod.mk.inj e).2
  have ex : xs = [] := List.length_eq_zero_iff.mp (Prod.mk.inj e).1.symm
  subst ex
  have h : (PyInside.each (PyKqi5.bound p).1 [] && PyInside.lists (PyKqi5.bound p).2 [r]) = true := A.ins
  rw [hb] at h
  have h2 : (true && ((decide (0 ≤ r.length) && decide (r.length ≤ 60) && r.all (PyInside.within 0 4294967295)) && true)) = true := h
  rw [Bool.and_true, Bool.true_and] at h2
  exact ⟨rfl, r, rfl, row_in h2⟩
theorem asked_rr {p : Int} {xs : List Int} {rows : List (List Int)} (A : Asked p xs rows) (hs : PyKqi5.shape p = some (0, 2)) (hb : PyKqi5.bound p = ([], [(0, 4294967295, 0, 60), (0, 4294967295, 0, 60)])) : xs = [] ∧ ∃ r1 r2, rows = [r1, r2] ∧ (r1.length ≤ 60 ∧ r1.all (PyInside.within 0 4294967295) = true) ∧ (r2.length ≤ 60 ∧ r2.all (PyInside.within 0 4294967295) = true) := by
  have e := Option.some.inj (hs.symm.trans A.sh)
  obtain ⟨r1, r2, rfl⟩ := len2 (Prod.mk.inj e).2
  have ex : xs = [] := List.length_eq_zero_iff.mp (Prod.mk.inj e).1.symm
  subst ex
  have h : (PyInside.each (PyKqi5.bound p).1 [] && PyInside.lists (PyKqi5.bound p).2 [r1, r2]) = true := A.ins
  rw [hb] at h
  have h2 : (true && ((decide (0 ≤ r1.length) && decide (r1.length ≤ 60) && r1.all (PyInside.within 0 4294967295)) && ((decide (0 ≤ r2.length) && decide (r2.length ≤ 60) && r2.all (PyInside.within 0 4294967295)) && true))) = true := h
  rw [Bool.and_true, Bool.true_and, Bool.and_eq_true] at h2
  exact ⟨rfl, r1, r2, rfl, row_in h2.1, row_in h2.2⟩
theorem asked_nr {p : Int} {xs : List Int} {rows : List (List Int)} (A : Asked p xs rows) (hs : PyKqi5.shape p = some (1, 1)) (hb : PyKqi5.bound p = ([(0, 4294967295)], [(0, 4294967295, 0, 60)])) : ∃ (n : Nat) (row : List Int), xs = [(n : Int)] ∧ rows = [row] ∧ row.length ≤ 60 ∧ row.all (PyInside.within 0 4294967295) = true := by
  have e := Option.some.inj (hs.symm.trans A.sh)
  obtain ⟨r, rfl⟩ := len1 (Prod.mk.inj e).2
  obtain ⟨x, rfl⟩ := len1 (Prod.mk.inj e).1
  have h : (PyInside.each (PyKqi5.bound p).1 [x] && PyInside.lists (PyKqi5.bound p).2 [r]) = true := A.ins
  rw [hb] at h
  have h2 : ((PyInside.within 0 4294967295 x && true) && ((decide (0 ≤ r.length) && decide (r.length ≤ 60) && r.all (PyInside.within 0 4294967295)) && true)) = true := h
  rw [Bool.and_true, Bool.and_true, Bool.and_eq_true] at h2
  obtain ⟨hx, hr⟩ := h2
  unfold PyInside.within at hx
  rw [Bool.and_eq_true, decide_eq_true_eq, decide_eq_true_eq] at hx
  obtain ⟨g1, g2⟩ := row_in hr
  exact ⟨x.toNat, r, by rw [Int.toNat_of_nonneg hx.1], rfl, g1, g2⟩
/-- before a start every call but start itself is refused -/
theorem stp_none {p : Int} {xs : List Int} {rows : List (List Int)} (A : Asked p xs rows) (h0 : p ≠ 0) : stp none p xs rows = (none, [-11]) := by
  obtain ⟨b1, b2⟩ := shape_in A.sh
  have c : p = 1 ∨ p = 2 ∨ p = 3 ∨ p = 4 ∨ p = 5 ∨ p = 6 ∨ p = 7 ∨ p = 8 ∨ p = 9 ∨ p = 10 ∨ p = 11 ∨ p = 12 ∨ p = 13 ∨ p = 14 ∨ p = 15 ∨ p = 16 := by omega
  rcases c with rfl | rfl | rfl | rfl | rfl | rfl | rfl | rfl | rfl | rfl | rfl | rfl | rfl | rfl | rfl | rfl
  · obtain ⟨x, y, z, rfl, rfl⟩ := asked_3 A
    rfl
  · obtain ⟨rfl, r, rfl, _⟩ := asked_r A rfl rfl
    rfl
  · obtain ⟨rfl, r, rfl, _⟩ := asked_r A rfl rfl
    rfl
  · obtain ⟨rfl, rfl⟩ := asked_0 A rfl
    rfl
  · obtain ⟨n, rfl, rfl⟩ := asked_n A rfl rfl
    rfl
  · obtain ⟨rfl, rfl⟩ := asked_0 A rfl
    rfl
  · obtain ⟨n, rfl, rfl⟩ := asked_n A rfl rfl
    rfl
  · obtain ⟨rfl, r, rfl, _⟩ := asked_r A rfl rfl
    rfl
  · obtain ⟨rfl, r1, r2, rfl, _⟩ := asked_rr A rfl rfl
    rfl
  · obtain ⟨n, r, rfl, rfl, _⟩ := asked_nr A rfl rfl
    rfl
  · obtain ⟨rfl, r, rfl, _⟩ := asked_r A rfl rfl
    rfl
  · obtain ⟨rfl, r, rfl, _⟩ := asked_r A rfl rfl
    rfl
  · obtain ⟨rfl, r1, r2, rfl, _⟩ := asked_rr A rfl rfl
    rfl
  · obtain ⟨n, rfl, rfl⟩ := asked_n A rfl rfl
    rfl
  · obtain ⟨rfl, rfl⟩ := asked_0 A rfl
    rfl
  · obtain ⟨rfl, rfl⟩ := asked_0 A rfl
    rfl
end LC


set_option Elab.async false
set_option maxRecDepth 100000
set_option maxHeartbeats 2000000
namespace LC
open PySem PySem.Spec PyProof.Rows L2
open PySem.W (Codec)
abbrev s_answer_without_word : Stmt := top 47
abbrev n_answer_without_word : List Str := ["layers", "call", "numbers"]
theorem sc_answer_without_word : FnScope n_answer_without_word ["layers", "call", "numbers"] (defScope s_answer_without_word) := ⟨rfl, rfl, rfl, by decide +kernel, rfl, by decide +kernel, by decide +kernel⟩
abbrev s_answer_of_word : Stmt := top 48
abbrev n_answer_of_word : List Str := ["layers", "call", "numbers", "word"]
theorem sc_answer_of_word : FnScope n_answer_of_word ["layers", "call", "numbers", "word"] (defScope s_answer_of_word) := ⟨rfl, rfl, rfl, by decide +kernel, rfl, by decide +kernel, by decide +kernel⟩
abbrev s_answer_of_two_words : Stmt := top 49
abbrev n_answer_of_two_words : List Str := ["layers", "call", "first", "second"]
theorem sc_answer_of_two_words : FnScope n_answer_of_two_words ["layers", "call", "first", "second"] (defScope s_answer_of_two_words) := ⟨rfl, rfl, rfl, by decide +kernel, rfl, by decide +kernel, by decide +kernel⟩
abbrev s_answer_call : Stmt := top 50
abbrev n_answer_call : List Str := ["layers", "call", "numbers", "rows", "row"]
theorem sc_answer_call : FnScope n_answer_call ["layers", "call", "numbers", "rows"] (defScope s_answer_call) := ⟨rfl, rfl, rfl, by decide +kernel, rfl, by decide +kernel, by decide +kernel⟩
abbrev s_answers : Stmt := top 51
abbrev n_answers : List Str := ["calls", "reader", "layers", "told", "call", "shape", "numbers", "rows", "answer"]
theorem sc_answers : FnScope n_answers ["calls"] (defScope s_answers) := ⟨rfl, rfl, rfl, by decide +kernel, rfl, by decide +kernel, by decide +kernel⟩

/-- an __init__ that is called by the class's name -/
structure CalI (P : Program) (w : World) (K : PySem.W.Frag) (mg : Str → Option Value) (base : Heap) (k : Nat) (f : Addr) (fd : FuncData) (ps : List Str) (sp : Sp) : Prop where
  ok : FnOk P w K mg base CX0 k f fd ps sp
  b : Binds K fd ps []
section
variable {P : Program} {w : World} {K : PySem.W.Frag} {mg : Str → Option Value} {base : Heap} {C fI : Addr}
/-! ### answer_call -/
def spAnswer (K : PySem.W.Frag) (C : Addr) : Sp := fun vs H Q _ => ∃ (b N D : Addr) (s : Option Kqi5.Costs) (p : Int) (xs : List Int) (rows : List (List Int)) (rs : List Addr), vs = [.ref b, .int p, .ref N, .ref D] ∧ LayAt K C H b s ∧ H N = some (.lst (iv xs)) ∧ H D = some (.lst (rs.map V.ref)) ∧ Rows H D rs rows ∧ Asked p xs rows ∧
  ∀ (H' : Hp) (q : Addr), Keep b H H' → H q = none → H' q = some (.lst (iv (stp s p xs rows).2)) → LayAt K C H' b (stp s p xs rows).1 → Q (.ref q) H'
theorem v_eq {x y : Int} (h : decide (V.int x = V.int y) = true) : x = y := V.int.inj (of_decide_eq_true h)
theorem v_ne {x y : Int} (h : ¬ decide (V.int x = V.int y) = true) : x ≠ y := fun e => h (decide_eq_true (congrArg V.int e))
/-- which calls have no row, one, two -/
theorem shape_rows {p : Int} {n k : Nat} (h : PyKqi5.shape p = some (n, k)) : (k = 0 ∧ (p = 0 ∨ p = 1 ∨ p = 4 ∨ p = 5 ∨ p = 6 ∨ p = 7 ∨ p = 14 ∨ p = 15 ∨ p = 16)) ∨ (k = 1 ∧ (p = 2 ∨ p = 3 ∨ p = 8 ∨ p = 10 ∨ p = 11 ∨ p = 12)) ∨ (k = 2 ∧ (p = 9 ∨ p = 13)) := by
  obtain ⟨b1, b2⟩ := shape_in h
  have c : p = 0 ∨ p = 1 ∨ p = 2 ∨ p = 3 ∨ p = 4 ∨ p = 5 ∨ p = 6 ∨ p = 7 ∨ p = 8 ∨ p = 9 ∨ p = 10 ∨ p = 11 ∨ p = 12 ∨ p = 13 ∨ p = 14 ∨ p = 15 ∨ p = 16 := by omega
  rcases c with rfl | rfl | rfl | rfl | rfl | rfl | rfl | rfl | rfl | rfl | rfl | rfl | rfl | rfl | rfl | rfl | rfl <;> (cases h; decide)
/-- what a row stands for -/
abbrev rw_ (row : List Int) : List Nat := row.map Kqi5Neutral.n
theorem asked_in {p : Int} {xs : List Int} {rows : List (List Int)} (A : Asked p xs rows) : ∀ row ∈ rows, row.all (PyInside.within 0 4294967295) = true := by
  obtain ⟨b1, b2⟩ := shape_in A.sh
  have no : rows = [] → ∀ row ∈ rows, row.all (PyInside.within 0 4294967295) = true := fun e row h => by
    rw [e] at h
    cases h
  have one : ∀ r, rows = [r] → r.all (PyInside.within 0 4294967295) = true → ∀ row ∈ rows, row.all (PyInside.within 0 4294967295) = true := fun r e h row hr => by
    rw [e] at hr
    rw [List.mem_singleton.mp hr]
    exact h
  have two : ∀ r1 r2, rows = [r1, r2] → r1.all (PyInside.within 0 4294967295) = true → r2.all (PyInside.within 0 4294967295) = true → ∀ row ∈ rows, row.all (PyInside.within 0 4294967295) = true := fun r1 r2 e h1 h2 row hr => by
    rw [e] at hr
    rcases List.mem_cons.mp hr with rfl | hr
    · exact h1
    · rw [List.mem_singleton.mp hr]
      exact h2
  have c : p = 0 ∨ p = 1 ∨ p = 2 ∨ p = 3 ∨ p = 4 ∨ p = 5 ∨ p = 6 ∨ p = 7 ∨ p = 8 ∨ p = 9 ∨ p = 10 ∨ p = 11 ∨ p = 12 ∨ p = 13 ∨ p = 14 ∨ p = 15 ∨ p = 16 := by omega
  rcases c with rfl | rfl | rfl | rfl | rfl | rfl | rfl | rfl | rfl | rfl | rfl | rfl | rfl | rfl | rfl | rfl | rfl
  · exact no (asked_0 A rfl).2
  · obtain ⟨_, _, _, _, e⟩ := asked_3 A
    exact no e
  · obtain ⟨_, r, e, _, h⟩ := asked_r A rfl rfl
    exact one r e h
  · obtain ⟨_, r, e, _, h⟩ := asked_r A rfl rfl
    exact one r e h
  · exact no (asked_0 A rfl).2
  · obtain ⟨_, _, e⟩ := asked_n A rfl rfl
    exact no e
  · exact no (asked_0 A rfl).2
  · obtain ⟨_, _, e⟩ := asked_n A rfl rfl
    exact no e
  · obtain ⟨_, r, e, _, h⟩ := asked_r A rfl rfl
    exact one r e h
  · obtain ⟨_, r1, r2, e, h1, h2⟩ := asked_rr A rfl rfl
    exact two r1 r2 e h1.2 h2.2
  · obtain ⟨_, r, _, e, _, h⟩ := asked_nr A rfl rfl
    exact one r e h
  · obtain ⟨_, r, e, _, h⟩ := asked_r A rfl rfl
    exact one r e h
  · obtain ⟨_, r, e, _, h⟩ := asked_r A rfl rfl
    exact one r e h
  · obtain ⟨_, r1, r2, e, h1, h2⟩ := asked_rr A rfl rfl
    exact two r1 r2 e h1.2 h2.2
  · obtain ⟨_, _, e⟩ := asked_n A rfl rfl
    exact no e
  · exact no (asked_0 A rfl).2
  · exact no (asked_0 A rfl).2
/-- a row that is no word is refused, whatever else is handed over -/
theorem stp_bad {p : Int} {xs : List Int} {rows : List (List Int)} {x : Kqi5.Costs} {row : List Int} (A : Asked p xs rows) (hr : row ∈ rows) (hb : Kqi5.ok (rw_ row) = false) : stp (some x) p xs rows = (some x, [-22]) := by
  have one : ∀ (s : Option Kqi5.Costs) (u : Kqi5.Ans) (r : List Int), Kqi5.ok (rw_ r) = false → (s, Kqi5Neutral.tell (if Kqi5.ok (rw_ r) = false then .num (-22) else u)) = (s, [-22]) := fun s u r h => by
    rw [if_pos h]
    rfl
  rcases shape_rows A.sh with ⟨e, _⟩ | ⟨_, c⟩ | ⟨_, c⟩
  · rw [List.length_eq_zero_iff.mp e] at hr
    cases hr
  · rcases c with rfl | rfl | rfl | rfl | rfl | rfl
    · obtain ⟨rfl, r, rfl, _, _⟩ := asked_r A rfl rfl
      rw [List.mem_singleton.mp hr] at hb
      exact one (some x) _ r hb
    · obtain ⟨rfl, r, rfl, _, _⟩ := asked_r A rfl rfl
      rw [List.mem_singleton.mp hr] at hb
      exact one (some x) _ r hb
    · obtain ⟨rfl, r, rfl, _, _⟩ := asked_r A rfl rfl
      rw [List.mem_singleton.mp hr] at hb
      exact one (some x) _ r hb
    · obtain ⟨n, r, rfl, rfl, _, _⟩ := asked_nr A rfl rfl
      rw [List.mem_singleton.mp hr] at hb
      exact one (some x) _ r hb
    · obtain ⟨rfl, r, rfl, _, _⟩ := asked_r A rfl rfl
      rw [List.mem_singleton.mp hr] at hb
      exact one (some x) _ r hb
    · obtain ⟨rfl, r, rfl, _, _⟩ := asked_r A rfl rfl
      rw [List.mem_singleton.mp hr] at hb
      exact one (some x) _ r hb
  · rcases c with rfl | rfl
    · obtain ⟨rfl, r1, r2, rfl, _, _⟩ := asked_rr A rfl rfl
      have h : Kqi5.ok (rw_ r1) = false ∨ Kqi5.ok (rw_ r2) = false := by
        rcases List.mem_cons.mp hr with e | hr
        · exact .inl (e ▸ hb)
        · exact .inr (List.mem_singleton.mp hr ▸ hb)
      show (some x, Kqi5Neutral.tell (if Kqi5.ok (rw_ r1) = false ∨ Kqi5.ok (rw_ r2) = false then .num (-22) else .num (if Kqi5.noMore x (rw_ r1) (rw_ r2) then (if Kqi5.noMore x (rw_ r2) (rw_ r1) then 0 else 1) else 2))) = _
      rw [if_pos h]
      rfl
    · obtain ⟨rfl, r1, r2, rfl, _, _⟩ := asked_rr A rfl rfl
      have h : Kqi5.ok (rw_ r1) = false ∨ Kqi5.ok (rw_ r2) = false ∨ Kqi5.ok (rw_ r1 ++ rw_ r2) = false := by
        rcases List.mem_cons.mp hr with e | hr
        · exact .inl (e ▸ hb)
        · exact .inr (.inl (List.mem_singleton.mp hr ▸ hb))
      show (some x, Kqi5Neutral.tell (if Kqi5.ok (rw_ r1) = false ∨ Kqi5.ok (rw_ r2) = false ∨ Kqi5.ok (rw_ r1 ++ rw_ r2) = false then .num (-22) else .some_ 0 [Kqi5.cost x (rw_ r1 ++ rw_ r2), Kqi5.cost x (rw_ r1) + Kqi5.cost x (rw_ r2)])) = _
      rw [if_pos h]
      rfl
/-- what is done with a call's answer -/
def Told (K : PySem.W.Frag) (C b : Addr) (H : Hp) (Q : VK) (S : Option Kqi5.Costs × List Int) : Prop := ∀ (H' : Hp) (q : Addr), Keep b H H' → H q = none → H' q = some (.lst (iv S.2)) → LayAt K C H' b S.1 → Q (.ref q) H'
/-! ### answer_without_word -/
def spNoWord (K : PySem.W.Frag) (C : Addr) : Sp := fun vs H Q _ => ∃ (b N : Addr) (x : Kqi5.Costs) (p : Int) (xs : List Int), vs = [.ref b, .int p, .ref N] ∧ LayAt K C H b (some x) ∧ H N = some (.lst (iv xs)) ∧ Asked p xs [] ∧ p ≠ 0 ∧ Told K C b H Q (stp (some x) p xs [])
theorem ok_answer_without_word {f : Addr} {fd : FuncData} (F : Fun K "answer_without_word" "answer_without_word" s_answer_without_word f fd) (T : Txt mg) (T_Layers : TxtL K mg C fI)
    {f1 f2 f3 f4 f5 f6 f7 f8 : Addr} {d1 d2 d3 d4 d5 d6 d7 d8 : FuncData}
    (c_Layers_change_costs : CalM P w K mg base 2 C "change_costs" f1 d1 ["self", "numbers"] (spChange K C))
    (c_Layers_least : CalM P w K mg base 6 C "least" f2 d2 ["self"] (spRead K C (rdNo .least)))
    (c_Layers_word : CalM P w K mg base 5 C "word" f3 d3 ["self", "k"] (spRead K C (rdNum .word)))
    (c_Layers_ties : CalM P w K mg base 7 C "ties" f4 d4 ["self"] (spRead K C (rdNo .ties)))
    (c_Layers_best : CalM P w K mg base 5 C "best" f5 d5 ["self", "steps"] (spRead K C (rdNum .best)))
    (c_Layers_needs : CalM P w K mg base 1 C "needs" f6 d6 ["self", "k"] (spRead K C (rdNum .needs)))
    (c_Layers_turn_over : CalM P w K mg base 1 C "turn_over" f7 d7 ["self"] (spOver K C))
    (c_Layers_state : CalM P w K mg base 1 C "state" f8 d8 ["self"] (spRead K C (rdNo .state))) : FnOk P w K mg base CX0 8 f fd ["layers", "call", "numbers"] (spNoWord K C) := by
  refine F.ok sc_answer_without_word (fun vs H Q E h => ?_) (fun cdv A outer s H vs Q E hr h => ?_)
  · obtain ⟨b, N, x, p, xs, rfl, _⟩ := h
    rfl
  · obtain ⟨b, N, x, p, xs, rfl, hL, hN, As, n0, q⟩ := h
    refine ⟨_, (pss_cons (ps_if (pt_cmpR op_eq (pv 1) (pe_gint rfl T.g_COSTS) (nomark _)) (pss_one (ps_ret (pe_meth (pv 0) T_Layers.cl c_Layers_change_costs.mt c_Layers_change_costs.ok (hr.mono (by decide)) c_Layers_change_costs.b .nil pass0 (pa_cons (pv 2) pa_nil)))) pss_nil)
      (pss_cons (ps_if (pt_cmpR op_eq (pv 1) (pe_gint rfl T.g_LEAST) (nomark _)) (pss_one (ps_ret (pe_meth0 (pv 0) T_Layers.cl c_Layers_least.mt c_Layers_least.ok (hr.mono (by decide)) c_Layers_least.b .nil pass0))) pss_nil)
      (pss_cons (ps_if (pt_cmpR op_eq (pv 1) (pe_gint rfl T.g_WORD) (nomark _)) (pss_one (ps_ret (pe_meth (pv 0) T_Layers.cl c_Layers_word.mt c_Layers_word.ok (hr.mono (by decide)) c_Layers_word.b .nil pass0 (pa_cons (pe_ix ix_seq (pv 2) pe_int (fun _ _ => rfl)) pa_nil)))) pss_nil)
      (pss_cons (ps_if (pt_cmpR op_eq (pv 1) (pe_gint rfl T.g_TIES) (nomark _)) (pss_one (ps_ret (pe_meth0 (pv 0) T_Layers.cl c_Layers_ties.mt c_Layers_ties.ok (hr.mono (by decide)) c_Layers_ties.b .nil pass0))) pss_nil)
      (pss_cons (ps_if (pt_cmpR op_eq (pv 1) (pe_gint rfl T.g_BEST) (nomark _)) (pss_one (ps_ret (pe_meth (pv 0) T_Layers.cl c_Layers_best.mt c_Layers_best.ok (hr.mono (by decide)) c_Layers_best.b .nil pass0 (pa_cons (pe_ix ix_seq (pv 2) pe_int (fun _ _ => rfl)) pa_nil)))) pss_nil)
      (pss_cons (ps_if (pt_cmpR op_eq (pv 1) (pe_gint rfl T.g_NEEDS) (nomark _)) (pss_one (ps_ret (pe_meth (pv 0) T_Layers.cl c_Layers_needs.mt c_Layers_needs.ok (hr.mono (by decide)) c_Layers_needs.b .nil pass0 (pa_cons (pe_ix ix_seq (pv 2) pe_int (fun _ _ => rfl)) pa_nil)))) pss_nil)
      (pss_cons (ps_if (pt_cmpR op_eq (pv 1) (pe_gint rfl T.g_TURNED_OVER) (nomark _)) (pss_one (ps_ret (pe_meth0 (pv 0) T_Layers.cl c_Layers_turn_over.mt c_Layers_turn_over.ok (hr.mono (by decide)) c_Layers_turn_over.b .nil pass0))) pss_nil)
      (pss_one (ps_ret (pe_meth0 (pv 0) T_Layers.cl c_Layers_state.mt c_Layers_state.ok (hr.mono (by decide)) c_Layers_state.b .nil pass0)))))))))), ?_⟩
    obtain ⟨dx, t, c, ha, ht, hc, ec⟩ := hL.ex
    refine ⟨_, rfl, rfl, _, rfl, ite2 (fun d => ?_) (fun d => ?_)⟩
    · -- costs
      have e := v_eq d
      subst e
      obtain ⟨u, v, z, rfl, _⟩ := asked_3 As
      refine ⟨_, rfl, b, dx, _, rfl, ha, lF_no _ _ (by decide +kernel) (by decide +kernel), _, rfl, b, N, u, v, z, x, rfl, hL, SqL.of hN, fun H' p k1 n1 g1 l1 => ?_⟩
      refine q H' p k1 n1 g1 ?_
      show LayAt K C H' b (Kqi5.step (some x) (.costs u v z)).1
      rw [st_costs]
      exact l1
    have n1 := v_ne d
    refine ⟨_, rfl, rfl, _, rfl, ite2 (fun d => ?_) (fun d => ?_)⟩
    · -- least
      have e := v_eq d
      subst e
      obtain ⟨rfl, _⟩ := asked_0 As rfl
      exact ⟨_, rfl, b, dx, _, rfl, ha, lF_no _ _ (by decide +kernel) (by decide +kernel), b, _, _, x, rfl, hL, ⟨rfl, rfl⟩, fun H' p s1 n1 g1 => q H' p (Keep.of s1) n1 g1 (hL.same s1)⟩
    have n4 := v_ne d
    refine ⟨_, rfl, rfl, _, rfl, ite2 (fun d => ?_) (fun d => ?_)⟩
    · -- word
      have e := v_eq d
      subst e
      obtain ⟨n, rfl, _⟩ := asked_n As rfl rfl
      refine ⟨_, rfl, b, dx, _, rfl, ha, lF_no _ _ (by decide +kernel) (by decide +kernel), ?_⟩
      exact ⟨_, rfl, ix_sq (.inl (SqL.of hN)) (v := .int (n : Int)) rfl ⟨b, _, _, x, rfl, hL, ⟨n, rfl, rfl⟩, fun H' p s1 n1 g1 => q H' p (Keep.of s1) n1 g1 (hL.same s1)⟩⟩
    have n5 := v_ne d
    refine ⟨_, rfl, rfl, _, rfl, ite2 (fun d => ?_) (fun d => ?_)⟩
    · -- ties
      have e := v_eq d
      subst e
      obtain ⟨rfl, _⟩ := asked_0 As rfl
      exact ⟨_, rfl, b, dx, _, rfl, ha, lF_no _ _ (by decide +kernel) (by decide +kernel), b, _, _, x, rfl, hL, ⟨rfl, rfl⟩, fun H' p s1 n1 g1 => q H' p (Keep.of s1) n1 g1 (hL.same s1)⟩
    have n6 := v_ne d
    refine ⟨_, rfl, rfl, _, rfl, ite2 (fun d => ?_) (fun d => ?_)⟩
    · -- best
      have e := v_eq d
      subst e
      obtain ⟨n, rfl, _⟩ := asked_n As rfl rfl
      refine ⟨_, rfl, b, dx, _, rfl, ha, lF_no _ _ (by decide +kernel) (by decide +kernel), ?_⟩
      exact ⟨_, rfl, ix_sq (.inl (SqL.of hN)) (v := .int (n : Int)) rfl ⟨b, _, _, x, rfl, hL, ⟨n, rfl, rfl⟩, fun H' p s1 n1 g1 => q H' p (Keep.of s1) n1 g1 (hL.same s1)⟩⟩
    have n7 := v_ne d
    refine ⟨_, rfl, rfl, _, rfl, ite2 (fun d => ?_) (fun d => ?_)⟩
    · -- needs
      have e := v_eq d
      subst e
      obtain ⟨n, rfl, _⟩ := asked_n As rfl rfl
      refine ⟨_, rfl, b, dx, _, rfl, ha, lF_no _ _ (by decide +kernel) (by decide +kernel), ?_⟩
      exact ⟨_, rfl, ix_sq (.inl (SqL.of hN)) (v := .int (n : Int)) rfl ⟨b, _, _, x, rfl, hL, ⟨n, rfl, rfl⟩, fun H' p s1 n1 g1 => q H' p (Keep.of s1) n1 g1 (hL.same s1)⟩⟩
    have n14 := v_ne d
    refine ⟨_, rfl, rfl, _, rfl, ite2 (fun d => ?_) (fun d => ?_)⟩
    · -- turnedOver
      have e := v_eq d
      subst e
      obtain ⟨rfl, _⟩ := asked_0 As rfl
      exact ⟨_, rfl, b, dx, _, rfl, ha, lF_no _ _ (by decide +kernel) (by decide +kernel), b, x, rfl, hL, fun H' p k1 n1 g1 l1 => q H' p k1 n1 g1 l1⟩
    have n15 := v_ne d
    -- state
    have e : p = 16 := by
      rcases shape_rows As.sh with ⟨_, c⟩ | ⟨z, _⟩ | ⟨z, _⟩
      · omega
      · cases z
      · cases z
    subst e
    obtain ⟨rfl, _⟩ := asked_0 As rfl
    exact ⟨_, rfl, b, dx, _, rfl, ha, lF_no _ _ (by decide +kernel) (by decide +kernel), b, _, _, x, rfl, hL, ⟨rfl, rfl⟩, fun H' p s1 n1 g1 => q H' p (Keep.of s1) n1 g1 (hL.same s1)⟩
/-! ### answer_of_word -/
def spOneWord (K : PySem.W.Frag) (C : Addr) : Sp := fun vs H Q _ => ∃ (b N r : Addr) (x : Kqi5.Costs) (p : Int) (xs row : List Int), vs = [.ref b, .int p, .ref N, .ref r] ∧ LayAt K C H b (some x) ∧ H N = some (.lst (iv xs)) ∧ WordAt H r (rw_ row) ∧ Asked p xs [row] ∧ Told K C b H Q (stp (some x) p xs [row])
theorem ok_answer_of_word {f : Addr} {fd : FuncData} (F : Fun K "answer_of_word" "answer_of_word" s_answer_of_word f fd) (T : Txt mg) (T_Layers : TxtL K mg C fI)
    {f1 f2 f3 f4 f5 f6 : Addr} {d1 d2 d3 d4 d5 d6 : FuncData}
    (c_Layers_cost : CalM P w K mg base 3 C "cost" f1 d1 ["self", "word"] (spRead K C (rdWord .cost)))
    (c_Layers_mean : CalM P w K mg base 4 C "mean" f2 d2 ["self", "word"] (spRead K C (rdWord .mean)))
    (c_Layers_good : CalM P w K mg base 7 C "good" f3 d3 ["self", "word"] (spRead K C (rdWord .good)))
    (c_Layers_turn : CalM P w K mg base 4 C "turn" f4 d4 ["self", "i", "word"] (spRead K C rdTurn))
    (c_Layers_fall : CalM P w K mg base 5 C "fall" f5 d5 ["self", "word"] (spRead K C (rdWord .fall)))
    (c_Layers_rest : CalM P w K mg base 6 C "rest" f6 d6 ["self", "word"] (spRead K C (rdWord .rest))) : FnOk P w K mg base CX0 8 f fd ["layers", "call", "numbers", "word"] (spOneWord K C) := by
  refine F.ok sc_answer_of_word (fun vs H Q E h => ?_) (fun cdv A outer s H vs Q E hr h => ?_)
  · obtain ⟨b, N, r, x, p, xs, row, rfl, _⟩ := h
    rfl
  · obtain ⟨b, N, r, x, p, xs, row, rfl, hL, hN, hW, As, q⟩ := h
    refine ⟨_, (pss_cons (ps_if (pt_cmpR op_eq (pv 1) (pe_gint rfl T.g_COST) (nomark _)) (pss_one (ps_ret (pe_meth (pv 0) T_Layers.cl c_Layers_cost.mt c_Layers_cost.ok (hr.mono (by decide)) c_Layers_cost.b .nil pass0 (pa_cons (pv 3) pa_nil)))) pss_nil)
      (pss_cons (ps_if (pt_cmpR op_eq (pv 1) (pe_gint rfl T.g_MEAN) (nomark _)) (pss_one (ps_ret (pe_meth (pv 0) T_Layers.cl c_Layers_mean.mt c_Layers_mean.ok (hr.mono (by decide)) c_Layers_mean.b .nil pass0 (pa_cons (pv 3) pa_nil)))) pss_nil)
      (pss_cons (ps_if (pt_cmpR op_eq (pv 1) (pe_gint rfl T.g_GOOD) (nomark _)) (pss_one (ps_ret (pe_meth (pv 0) T_Layers.cl c_Layers_good.mt c_Layers_good.ok (hr.mono (by decide)) c_Layers_good.b .nil pass0 (pa_cons (pv 3) pa_nil)))) pss_nil)
      (pss_cons (ps_if (pt_cmpR op_eq (pv 1) (pe_gint rfl T.g_TURN) (nomark _)) (pss_one (ps_ret (pe_meth (pv 0) T_Layers.cl c_Layers_turn.mt c_Layers_turn.ok (hr.mono (by decide)) c_Layers_turn.b .nil pass0 (pa_cons (pe_ix ix_seq (pv 2) pe_int (fun _ _ => rfl)) (pa_cons (pv 3) pa_nil))))) pss_nil)
      (pss_cons (ps_if (pt_cmpR op_eq (pv 1) (pe_gint rfl T.g_FALL) (nomark _)) (pss_one (ps_ret (pe_meth (pv 0) T_Layers.cl c_Layers_fall.mt c_Layers_fall.ok (hr.mono (by decide)) c_Layers_fall.b .nil pass0 (pa_cons (pv 3) pa_nil)))) pss_nil)
      (pss_one (ps_ret (pe_meth (pv 0) T_Layers.cl c_Layers_rest.mt c_Layers_rest.ok (hr.mono (by decide)) c_Layers_rest.b .nil pass0 (pa_cons (pv 3) pa_nil))))))))), ?_⟩
    obtain ⟨dx, t, c, ha, ht, hc, ec⟩ := hL.ex
    refine ⟨_, rfl, rfl, _, rfl, ite2 (fun d => ?_) (fun d => ?_)⟩
    · -- cost
      have e := v_eq d
      subst e
      obtain ⟨rfl, _⟩ := asked_r As rfl rfl
      exact ⟨_, rfl, b, dx, _, rfl, ha, lF_no _ _ (by decide +kernel) (by decide +kernel), _, rfl, b, _, _, x, rfl, hL, ⟨r, _, rfl, hW, rfl⟩, fun H' p s1 n1 g1 => q H' p (Keep.of s1) n1 g1 (hL.same s1)⟩
    have n2 := v_ne d
    refine ⟨_, rfl, rfl, _, rfl, ite2 (fun d => ?_) (fun d => ?_)⟩
    · -- mean
      have e := v_eq d
      subst e
      obtain ⟨rfl, _⟩ := asked_r As rfl rfl
      exact ⟨_, rfl, b, dx, _, rfl, ha, lF_no _ _ (by decide +kernel) (by decide +kernel), _, rfl, b, _, _, x, rfl, hL, ⟨r, _, rfl, hW, rfl⟩, fun H' p s1 n1 g1 => q H' p (Keep.of s1) n1 g1 (hL.same s1)⟩
    have n3 := v_ne d
    refine ⟨_, rfl, rfl, _, rfl, ite2 (fun d => ?_) (fun d => ?_)⟩
    · -- good
      have e := v_eq d
      subst e
      obtain ⟨rfl, _⟩ := asked_r As rfl rfl
      exact ⟨_, rfl, b, dx, _, rfl, ha, lF_no _ _ (by decide +kernel) (by decide +kernel), _, rfl, b, _, _, x, rfl, hL, ⟨r, _, rfl, hW, rfl⟩, fun H' p s1 n1 g1 => q H' p (Keep.of s1) n1 g1 (hL.same s1)⟩
    have n8 := v_ne d
    refine ⟨_, rfl, rfl, _, rfl, ite2 (fun d => ?_) (fun d => ?_)⟩
    · -- turn
      have e := v_eq d
      subst e
      obtain ⟨n, row', rfl, er, _⟩ := asked_nr As rfl rfl
      have er : row = row' := (List.cons.inj er).1
      subst er
      refine ⟨_, rfl, b, dx, _, rfl, ha, lF_no _ _ (by decide +kernel) (by decide +kernel), ?_⟩
      exact ⟨_, rfl, ix_sq (.inl (SqL.of hN)) (v := .int (n : Int)) rfl ⟨_, rfl, b, _, _, x, rfl, hL, ⟨n, r, _, rfl, hW, rfl⟩, fun H' p s1 n1 g1 => q H' p (Keep.of s1) n1 g1 (hL.same s1)⟩⟩
    have n10 := v_ne d
    refine ⟨_, rfl, rfl, _, rfl, ite2 (fun d => ?_) (fun d => ?_)⟩
    · -- fall
      have e := v_eq d
      subst e
      obtain ⟨rfl, _⟩ := asked_r As rfl rfl
      exact ⟨_, rfl, b, dx, _, rfl, ha, lF_no _ _ (by decide +kernel) (by decide +kernel), _, rfl, b, _, _, x, rfl, hL, ⟨r, _, rfl, hW, rfl⟩, fun H' p s1 n1 g1 => q H' p (Keep.of s1) n1 g1 (hL.same s1)⟩
    have n11 := v_ne d
    -- rest
    have e : p = 12 := by
      rcases shape_rows As.sh with ⟨z, _⟩ | ⟨_, c⟩ | ⟨z, _⟩
      · cases z
      · omega
      · cases z
    subst e
    obtain ⟨rfl, _⟩ := asked_r As rfl rfl
    exact ⟨_, rfl, b, dx, _, rfl, ha, lF_no _ _ (by decide +kernel) (by decide +kernel), _, rfl, b, _, _, x, rfl, hL, ⟨r, _, rfl, hW, rfl⟩, fun H' p s1 n1 g1 => q H' p (Keep.of s1) n1 g1 (hL.same s1)⟩
/-! ### answer_of_two_words -/
def spTwoWords (K : PySem.W.Frag) (C : Addr) : Sp := fun vs H Q _ => ∃ (b r1 r2 : Addr) (x : Kqi5.Costs) (p : Int) (xs row1 row2 : List Int), vs = [.ref b, .int p, .ref r1, .ref r2] ∧ LayAt K C H b (some x) ∧ WordAt H r1 (rw_ row1) ∧ WordAt H r2 (rw_ row2) ∧ Asked p xs [row1, row2] ∧ Told K C b H Q (stp (some x) p xs [row1, row2])
theorem ok_answer_of_two_words {f : Addr} {fd : FuncData} (F : Fun K "answer_of_two_words" "answer_of_two_words" s_answer_of_two_words f fd) (T : Txt mg) (T_Layers : TxtL K mg C fI)
    {f1 f2 : Addr} {d1 d2 : FuncData}
    (c_Layers_cheaper : CalM P w K mg base 4 C "cheaper" f1 d1 ["self", "first", "second"] (spRead K C (rdTwo .cheaper)))
    (c_Layers_joined : CalM P w K mg base 3 C "joined" f2 d2 ["self", "first", "second"] (spRead K C (rdTwo .joined))) : FnOk P w K mg base CX0 5 f fd ["layers", "call", "first", "second"] (spTwoWords K C) := by
  refine F.ok sc_answer_of_two_words (fun vs H Q E h => ?_) (fun cdv A outer s H vs Q E hr h => ?_)
  · obtain ⟨b, r1, r2, x, p, xs, row1, row2, rfl, _⟩ := h
    rfl
  · obtain ⟨b, r1, r2, x, p, xs, row1, row2, rfl, hL, hW1, hW2, As, q⟩ := h
    refine ⟨_, (pss_cons (ps_if (pt_cmpR op_eq (pv 1) (pe_gint rfl T.g_CHEAPER) (nomark _)) (pss_one (ps_ret (pe_meth (pv 0) T_Layers.cl c_Layers_cheaper.mt c_Layers_cheaper.ok (hr.mono (by decide)) c_Layers_cheaper.b .nil pass0 (pa_cons (pv 2) (pa_cons (pv 3) pa_nil))))) pss_nil)
      (pss_one (ps_ret (pe_meth (pv 0) T_Layers.cl c_Layers_joined.mt c_Layers_joined.ok (hr.mono (by decide)) c_Layers_joined.b .nil pass0 (pa_cons (pv 2) (pa_cons (pv 3) pa_nil)))))), ?_⟩
    obtain ⟨dx, t, c, ha, ht, hc, ec⟩ := hL.ex
    refine ⟨_, rfl, rfl, _, rfl, ite2 (fun d => ?_) (fun d => ?_)⟩
    · -- cheaper
      have e := v_eq d
      subst e
      obtain ⟨rfl, _⟩ := asked_rr As rfl rfl
      exact ⟨_, rfl, b, dx, _, rfl, ha, lF_no _ _ (by decide +kernel) (by decide +kernel), _, rfl, _, rfl, b, _, _, x, rfl, hL, ⟨r1, r2, _, _, rfl, hW1, hW2, rfl⟩, fun H' p s1 n1 g1 => q H' p (Keep.of s1) n1 g1 (hL.same s1)⟩
    have n9 := v_ne d
    -- joined
    have e : p = 13 := by
      rcases shape_rows As.sh with ⟨z, _⟩ | ⟨z, _⟩ | ⟨_, c⟩
      · cases z
      · cases z
      · omega
    subst e
    obtain ⟨rfl, _⟩ := asked_rr As rfl rfl
    exact ⟨_, rfl, b, dx, _, rfl, ha, lF_no _ _ (by decide +kernel) (by decide +kernel), _, rfl, _, rfl, b, _, _, x, rfl, hL, ⟨r1, r2, _, _, rfl, hW1, hW2, rfl⟩, fun H' p s1 n1 g1 => q H' p (Keep.of s1) n1 g1 (hL.same s1)⟩
/-! ### answer_call -/
theorem ok_answer_call {f : Addr} {fd : FuncData} (F : Fun K "answer_call" "answer_call" s_answer_call f fd) (T : Txt mg) (T_Layers : TxtL K mg C fI)
    {f0 f1 f2 f3 f4 : Addr} {d0 d1 d2 d3 d4 : FuncData}
    (c_Layers_start : CalM P w K mg base 1 C "start" f0 d0 ["self"] (spStart K C))
    (c_is_word : Cal P w K mg base 1 "is_word" f1 d1 ["steps"] (spIsWord K))
    (c_answer_without_word : Cal P w K mg base 8 "answer_without_word" f2 d2 ["layers", "call", "numbers"] (spNoWord K C))
    (c_answer_of_word : Cal P w K mg base 8 "answer_of_word" f3 d3 ["layers", "call", "numbers", "word"] (spOneWord K C))
    (c_answer_of_two_words : Cal P w K mg base 5 "answer_of_two_words" f4 d4 ["layers", "call", "first", "second"] (spTwoWords K C)) : FnOk P w K mg base CX0 9 f fd ["layers", "call", "numbers", "rows"] (spAnswer K C) := by
  refine F.ok sc_answer_call (fun vs H Q E h => ?_) (fun cdv A outer s H vs Q E hr h => ?_)
  · obtain ⟨b, N, D, s, p, xs, rows, rs, rfl, _⟩ := h
    rfl
  · obtain ⟨b, N, D, s0, p, xs, rows, rs, rfl, hL, hN, hD, hR, As, q⟩ := h
    refine ⟨_, (pss_cons (ps_if (pt_cmpR op_eq (pv 1) (pe_gint rfl T.g_START) (nomark _)) (pss_one (ps_ret (pe_meth0 (pv 0) T_Layers.cl c_Layers_start.mt c_Layers_start.ok (hr.mono (by decide)) c_Layers_start.b .nil pass0))) pss_nil)
      (pss_cons (ps_if (pt_not (pt_val (pe_fld (pv 0) rfl))) (pss_one (ps_ret (pe_lst (pa_cons (pe_gint rfl T.g_NOT_STARTED) pa_nil)))) pss_nil)
      (pss_cons (ps_for PassesOwn.never rfl (pi_list (pv 3)) (pg_name (i := 4) sc_answer_call.nd rfl (Or.inl rfl)) (pss_one (ps_if (pt_not (pt_val (pe_call c_is_word.ok (hr.mono (by decide)) rfl c_is_word.mg c_is_word.kp c_is_word.b .nil pass0 (pa_cons (pv 4) pa_nil)))) (pss_one (ps_ret (pe_lst (pa_cons (pe_gint rfl T.g_NOT_RIGHT) pa_nil)))) pss_nil)))
      (pss_cons (ps_if (pt_cmpR op_eq (pe_callB call_len_seq (by rfl) T.n_len (by decide +kernel) (pa_cons (pv 3) pa_nil)) pe_int (nomark _)) (pss_one (ps_ret (pe_call c_answer_without_word.ok (hr.mono (by decide)) rfl c_answer_without_word.mg c_answer_without_word.kp c_answer_without_word.b .nil pass0 (pa_cons (pv 0) (pa_cons (pv 1) (pa_cons (pv 2) pa_nil)))))) pss_nil)
      (pss_cons (ps_if (pt_cmpR op_eq (pe_callB call_len_seq (by rfl) T.n_len (by decide +kernel) (pa_cons (pv 3) pa_nil)) pe_int (nomark _)) (pss_one (ps_ret (pe_call c_answer_of_word.ok (hr.mono (by decide)) rfl c_answer_of_word.mg c_answer_of_word.kp c_answer_of_word.b .nil pass0 (pa_cons (pv 0) (pa_cons (pv 1) (pa_cons (pv 2) (pa_cons (pe_ix ix_seq (pv 3) pe_int (fun _ _ => rfl)) pa_nil))))))) pss_nil)
      (pss_one (ps_ret (pe_call c_answer_of_two_words.ok (hr.mono (by decide)) rfl c_answer_of_two_words.mg c_answer_of_two_words.kp c_answer_of_two_words.b .nil pass0 (pa_cons (pv 0) (pa_cons (pv 1) (pa_cons (pe_ix ix_seq (pv 3) pe_int (fun _ _ => rfl)) (pa_cons (pe_ix ix_seq (pv 3) pe_int (fun _ _ => rfl)) pa_nil)))))))))))), ?_⟩
    obtain ⟨dx, t, c, ha, ht, hc, ec⟩ := hL.ex
    refine ⟨_, rfl, rfl, _, rfl, ite2 (fun d => ?_) (fun d => ?_)⟩
    · -- start
      have e := v_eq d
      subst e
      obtain ⟨rfl, rfl⟩ := asked_0 As rfl
      refine ⟨_, rfl, b, dx, _, rfl, ha, lF_no _ _ (by decide +kernel) (by decide +kernel), b, s0, rfl, hL, fun H' p k1 n1 g1 l1 => ?_⟩
      exact q H' p k1 n1 g1 l1
    have n0 := v_ne d
    refine ⟨_, rfl, b, C, dx, _, _, rfl, ha, T_Layers.cl, T_Layers.n_started, lF_started _ _, _, rfl, ite2 (fun d => ?_) (fun d => ?_)⟩
    · -- not started
      have es : s0 = none := by
        cases s0 with
        | none => rfl
        | some x => cases d
      subst es
      rw [stp_none As n0] at q
      exact ⟨by show 1 ≤ sizeLine; decide, fun p hp => q _ p (Keep.of (same_new hp)) hp upd_same (hL.same (same_new hp))⟩
    obtain ⟨x, rfl⟩ : ∃ x, s0 = some x := by
      cases s0 with
      | none => exact absurd rfl d
      | some x => exact ⟨x, rfl⟩
    -- for row in rows
    have hin := asked_in As
    have here : ∀ (m : Nat) (r : Addr) (row : List Int), rs[m]? = some r → rows[m]? = some row → H r = some (.lst (wv (rw_ row))) := fun m r row h1 h2 => by
      have := (hR.2 m r row h1 h2).2
      rw [row_nat (hin row (List.mem_of_getElem? h2))] at this
      exact this
    refine ⟨_, rfl, D, rfl, ⟨_, SqL.of hD⟩, for_list (K := K) (a := D) (xs := rs.map V.ref) (fun i σ H' => H' = H ∧ (∀ row ∈ rows.take i, Kqi5.ok (rw_ row) = true) ∧ ∃ v, σ = [some (.ref b), some (.int p), some (.ref N), some (.ref D), v]) ⟨rfl, fun row h => (by cases h), none, rfl⟩ (fun i σ H' _ h => by rw [h.1]; exact SqL.of hD) ?_ ?_⟩
    · rintro i y σ H' hy ⟨rfl, hok, v, rfl⟩
      obtain ⟨r, hr, rfl⟩ : ∃ r, rs[i]? = some r ∧ y = V.ref r := by
        rw [List.getElem?_map] at hy
        cases e : rs[i]? with
        | none =>
          rw [e] at hy
          cases hy
        | some r =>
          rw [e] at hy
          exact ⟨r, rfl, (Option.some.inj hy).symm⟩
      obtain ⟨row, hw⟩ : ∃ row, rows[i]? = some row := ⟨_, List.getElem?_eq_getElem (by rw [← hR.1]; exact (List.getElem?_eq_some_iff.mp hr).1)⟩
      have hrow := here i r row hr hw
      refine ⟨_, rfl, r, _, rfl, SqL.of hrow, _, rfl, ite2 (fun d => ?_) (fun d => ?_)⟩
      · -- no word
        rw [stp_bad As (List.mem_of_getElem? hw) (not_f d)] at q
        exact ⟨by show 1 ≤ sizeLine; decide, fun p hp => q _ p (Keep.of (same_new hp)) hp upd_same (hL.same (same_new hp))⟩
      · refine ⟨rfl, fun row' h => ?_, _, rfl⟩
        rw [take_snoc hw] at h
        rcases List.mem_append.mp h with h | h
        · exact hok row' h
        · rw [List.mem_singleton.mp h]
          exact not_t d
    · rintro σ H' ⟨rfl, hok, v, rfl⟩
      rw [List.length_map, hR.1, List.take_length] at hok
      have lr : (rs.map V.ref).length = rows.length := by rw [List.length_map, hR.1]
      refine ⟨_, rfl, D, _, rfl, .inl (SqL.of hD), rfl, _, rfl, ite2 (fun d => ?_) (fun d => ?_)⟩
      · -- no row
        have e := v_eq d
        rw [lr] at e
        have er : rows = [] := List.length_eq_zero_iff.mp (by omega)
        subst er
        exact ⟨_, rfl, _, rfl, _, rfl, b, N, x, p, xs, rfl, hL, hN, As, n0, q⟩
      have m0 := v_ne d
      rw [lr] at m0
      refine ⟨_, rfl, D, _, rfl, .inl (SqL.of hD), rfl, _, rfl, ite2 (fun d => ?_) (fun d => ?_)⟩
      · -- one row
        have e := v_eq d
        rw [lr] at e
        obtain ⟨row, rfl⟩ := len1 (l := rows) (by omega)
        obtain ⟨r, rfl⟩ := len1 hR.1.symm
        have hW : WordAt H' r (rw_ row) := ⟨here 0 r row rfl rfl, hok row (List.mem_cons_self ..)⟩
        exact ⟨_, rfl, _, rfl, _, rfl, _, rfl, ix_sq (.inl (SqL.of hD)) (v := .ref r) rfl ⟨b, N, r, x, p, xs, row, rfl, hL, hN, hW, As, q⟩⟩
      have m1 := v_ne d
      rw [lr] at m1
      -- two rows
      have e2 : rows.length = 2 := by
        rcases shape_rows As.sh with ⟨z, _⟩ | ⟨z, _⟩ | ⟨z, _⟩ <;> omega
      obtain ⟨row1, row2, rfl⟩ := len2 e2.symm
      obtain ⟨r1, r2, rfl⟩ := len2 hR.1.symm
      have hW1 : WordAt H' r1 (rw_ row1) := ⟨here 0 r1 row1 rfl rfl, hok row1 (List.mem_cons_self ..)⟩
      have hW2 : WordAt H' r2 (rw_ row2) := ⟨here 1 r2 row2 rfl rfl, hok row2 (List.mem_cons_of_mem _ (List.mem_cons_self ..))⟩
      exact ⟨_, rfl, _, rfl, _, rfl, ix_sq (.inl (SqL.of hD)) (v := .ref r1) rfl ⟨_, rfl, ix_sq (.inl (SqL.of hD)) (v := .ref r2) rfl ⟨b, r1, r2, x, p, xs, row1, row2, rfl, hL, hW1, hW2, As, q⟩⟩⟩
theorem LayAt.keep {H H' : Hp} {a b R dx : Addr} {fs : List (Str × V)} {s : Option Kqi5.Costs} (h : LayAt K C H b s) (k : Keep a H H') (ha : H a = some (.ins R dx fs)) (n : b ≠ a) : LayAt K C H' b s := by
  obtain ⟨d, t, c, h1, h2, h3, h4⟩ := h.ex
  exact ⟨d, t, c, k _ _ h1 n, k.sqT ha h2, h3, h4⟩
theorem LayAt.upd {H : Hp} {b D : Addr} {ys : List V} {o : HO} {s : Option Kqi5.Costs} (h : LayAt K C H b s) (hD : H D = some (.lst ys)) : LayAt K C (upd H D o) b s := by
  obtain ⟨d, t, c, h1, h2, h3, h4⟩ := h.ex
  refine ⟨d, t, c, ?_, sqT_upd hD h2, h3, h4⟩
  rw [upd_ne fun e => ?_]
  · exact h1
  · rw [e, hD] at h1
    cases h1
theorem same_kn {H H1 H2 : Hp} {a : Addr} (e : Same H H1) (k : Keep a H1 H2) (n : H a = none) : Same H H2 := fun b o h => k b o (e b o h) (ne_of_none h n)
theorem asked_open {ns : List Int} (h : PyKqi5.answers_asked ns = true) : ∃ raw, PyFlat.calls PyKqi5.shape ns.length ns = some raw ∧ raw.all (PyInside.call PyKqi5.bound) = true ∧ (PyKqi5.answers ns).length ≤ 10000000 ∧ PyKqi5.answers ns = PyFlat.told (PyFlat.played Kqi5Neutral.step none raw) := by
  unfold PyKqi5.answers_asked at h
  cases e : PyFlat.calls PyKqi5.shape ns.length ns with
  | none =>
    rw [e] at h
    cases h
  | some raw =>
    rw [e] at h
    have h' : (!raw.isEmpty && PyFlat.atMost 200 raw && PyInside.calls PyKqi5.bound raw && Kqi5Neutral.asked (raw.map PyKqi5.whole) && PyFlat.short 10000000 (PyKqi5.answers ns)) = true := h
    rw [Bool.and_eq_true, Bool.and_eq_true, Bool.and_eq_true] at h'
    refine ⟨raw, rfl, h'.1.1.2, of_decide_eq_true h'.2, ?_⟩
    unfold PyKqi5.answers PyKqi5.calls
    rw [e]
    show PyFlat.told (PyFlat.played Kqi5Neutral.step Kqi5Neutral.start (raw.map PyKqi5.whole)) = _
    rw [map_whole]
    rfl
theorem told_cons (x : List Int) (l : List (List Int)) : PyFlat.told (x :: l) = ((x.length : Int) :: x) ++ PyFlat.told l := by
  unfold PyFlat.told
  rw [List.flatMap_cons]
/-! ### answers -/
/-- the written tuple of the calls' shapes -/
structure Shapes (K : PySem.W.Frag) (mg : Str → Option Value) (aS : Addr) (ss : List Addr) : Prop where
  g_SHAPES : mg "SHAPES" = some (.ref aS)
  sq : ∀ H : Hp, SqT K H aS (ss.map V.ref)
  each : ∀ (H : Hp) (p : Int) (n k : Nat), PyKqi5.shape p = some (n, k) → ∃ a, atI (ss.map V.ref) p = some (V.ref a) ∧ SqT K H a [.int (n : Int), .int (k : Int)]
def spAnswers (K : PySem.W.Frag) : Sp := fun vs H Q _ => ∃ (L : Addr) (ns : List Int), vs = [.ref L] ∧ SqL K H L (iv ns) ∧ ns.length ≤ 24600 ∧ PyKqi5.answers_asked ns = true ∧
  ∀ (H' : Hp) (p : Addr), H' p = some (.lst (iv (PyKqi5.answers ns))) → Q (.ref p) H'
theorem ok_answers {f R fR aS : Addr} {ss : List Addr} {fd : FuncData} (F : Fun K "answers" "answers" s_answers f fd) (T : Txt mg) (TS : Shapes K mg aS ss) (T_Layers : TxtL K mg C fI) (T_Reader : TxtR K mg R fR)
    {f2 f3 f4 f5 f6 : Addr} {d0 d1 d2 d3 d4 d5 d6 : FuncData}
    (c_Layers_init : CalI P w K mg base 1 fI d0 ["self"] (spInitL K C))
    (c_Reader_init : CalI P w K mg base 1 fR d1 ["self", "calls"] (spInitR R))
    (c_Reader_has_more : CalM P w K mg base 1 R "has_more" f2 d2 ["self"] (spMore K R))
    (c_Reader_read_number : CalM P w K mg base 2 R "read_number" f3 d3 ["self"] (spNum K R))
    (c_Reader_read_numbers : CalM P w K mg base 1 R "read_numbers" f4 d4 ["self", "how_many"] (spNums K R))
    (c_Reader_read_rows : CalM P w K mg base 3 R "read_rows" f5 d5 ["self", "how_many"] (spRows K R))
    (c_answer_call : Cal P w K mg base 9 "answer_call" f6 d6 ["layers", "call", "numbers", "rows"] (spAnswer K C)) : FnOk P w K mg base CX0 10 f fd ["calls"] (spAnswers K) := by
  refine F.ok sc_answers (fun vs H Q E h => ?_) (fun cdv A outer s H vs Q E hr h => ?_)
  · obtain ⟨L, ns, rfl, _⟩ := h
    rfl
  · obtain ⟨L, ns, rfl, hS, hl, ask, q⟩ := h
    refine ⟨_, (pss_cons (ps_set (i := 1) sc_answers.nd rfl (Or.inl rfl) (pe_make T_Reader.made c_Reader_init.ok (hr.mono (by decide)) rfl T_Reader.g c_Reader_init.b .nil pass0 (pa_cons (pv 0) pa_nil)))
      (pss_cons (ps_set (i := 2) sc_answers.nd rfl (Or.inl rfl) (pe_make0 T_Layers.made c_Layers_init.ok (hr.mono (by decide)) rfl T_Layers.g c_Layers_init.b .nil pass0))
      (pss_cons (ps_set (i := 3) sc_answers.nd rfl (Or.inl rfl) (pe_lst pa_nil))
      (pss_cons (ps_while PassesOwn.never (pt_val (pe_meth0 (pv 1) T_Reader.cl c_Reader_has_more.mt c_Reader_has_more.ok (hr.mono (by decide)) c_Reader_has_more.b .nil pass0)) (pss_cons (ps_set (i := 4) sc_answers.nd rfl (Or.inl rfl) (pe_meth0 (pv 1) T_Reader.cl c_Reader_read_number.mt c_Reader_read_number.ok (hr.mono (by decide)) c_Reader_read_number.b .nil pass0))
      (pss_cons (ps_set (i := 5) sc_answers.nd rfl (Or.inl rfl) (pe_ix ix_seq (pe_gref rfl TS.g_SHAPES) (pv 4) (fun _ _ => rfl)))
      (pss_cons (ps_set (i := 6) sc_answers.nd rfl (Or.inl rfl) (pe_meth (pv 1) T_Reader.cl c_Reader_read_numbers.mt c_Reader_read_numbers.ok (hr.mono (by decide)) c_Reader_read_numbers.b .nil pass0 (pa_cons (pe_ix ix_seq (pv 5) pe_int (fun _ _ => rfl)) pa_nil)))
      (pss_cons (ps_set (i := 7) sc_answers.nd rfl (Or.inl rfl) (pe_meth (pv 1) T_Reader.cl c_Reader_read_rows.mt c_Reader_read_rows.ok (hr.mono (by decide)) c_Reader_read_rows.b .nil pass0 (pa_cons (pe_ix ix_seq (pv 5) pe_int (fun _ _ => rfl)) pa_nil)))
      (pss_cons (ps_set (i := 8) sc_answers.nd rfl (Or.inl rfl) (pe_call c_answer_call.ok (hr.mono (by decide)) rfl c_answer_call.mg c_answer_call.kp c_answer_call.b .nil pass0 (pa_cons (pv 2) (pa_cons (pv 4) (pa_cons (pv 6) (pa_cons (pv 7) pa_nil))))))
      (pss_cons (ps_expr (pe_bm PySem.F.plainAttrs_list PySem.F.slot_list_append PySem.F.type_list_append mt_append (pv 3) (pa_cons (pe_callB call_len_seq (by rfl) T.n_len (by decide +kernel) (pa_cons (pv 8) pa_nil)) pa_nil)))
      (pss_one (ps_expr (pe_bm PySem.F.plainAttrs_list PySem.F.slot_list_extend PySem.F.type_list_extend mt_extend (pv 3) (pa_cons (pv 8) pa_nil)))))))))))
      (pss_one (ps_ret (pv 3))))))), ?_⟩
    obtain ⟨raw, hraw, hin, hlen, hans⟩ := asked_open ask
    have line : sizeLine = 16777216 := rfl
    -- reader = Reader(calls)
    refine ⟨_, rfl, fun a dxa na nda nea => ⟨a, dxa, L, rfl, upd_same, fun H1 r1 k1 => ⟨rfl, ?_⟩⟩⟩
    have s1 : Same H H1 := Same.made na nda k1
    -- layers = Layers()
    intro b dxb nb ndb neb
    refine ⟨b, dxb, rfl, upd_same, fun H2 l2 k2 => ⟨rfl, ?_⟩⟩
    have s12 : Same H1 H2 := Same.made nb ndb k2
    have s2 : Same H H2 := s1.trans s12
    have nab : a ≠ b := fun e => by
      obtain ⟨dx, ha⟩ := r1
      rw [e, nb] at ha
      cases ha
    -- told = []
    refine ⟨by show 0 ≤ sizeLine; decide, fun D hD => ?_⟩
    have nHb : H b = none := s1.free nb
    have nHD : H D = none := s2.free hD
    have s3 := same_new (o := .lst []) hD
    obtain ⟨dx1, ha1⟩ := r1
    refine while_by (fun σ H' => ∃ (v4 v5 v6 v7 v8 : Option V) (i f : Nat) (cs : List (List (List Int))) (s : Option Kqi5.Costs) (out : List Int) (dx : Addr), σ = [some (.ref L), some (.ref a), some (.ref b), some (.ref D), v4, v5, v6, v7, v8] ∧ Same H H' ∧ H' a = some (.ins R dx (rF L i)) ∧ LayAt K C H' b s ∧ H' D = some (.lst (iv out)) ∧ i ≤ ns.length ∧
        PyFlat.calls PyKqi5.shape f (ns.drop i) = some cs ∧ cs.all (PyInside.call PyKqi5.bound) = true ∧ PyKqi5.answers ns = out ++ PyFlat.told (PyFlat.played Kqi5Neutral.step s cs))
      (fun _ H' => match H' a with | some (.ins _ _ [_, (_, .int i)]) => ns.length - i.toNat | _ => 0)
      ⟨none, none, none, none, none, 0, ns.length, raw, none, [], dx1, rfl, s2.trans s3, s3 _ _ (s12 _ _ ha1), l2.same s3, upd_same, Nat.zero_le _, hraw, hin, hans⟩ ?_ ?_
    · rintro σ H3 ⟨v4, v5, v6, v7, v8, i, f, cs, s, out, dx, rfl, sH, ha, hL, hD3, hi, hcs, hall, hout⟩
      refine ⟨_, rfl, a, dx, _, rfl, ha, rF_no _ _ (by decide +kernel) (by decide +kernel), a, L, i, ns, rfl, ⟨dx, ha⟩, sH.seq hS, _, rfl, ite2 (fun c => ?_) (fun c => ?_)⟩
      · have c' : (i : Int) < (ns.length : Int) := of_decide_eq_true c
        obtain ⟨p, n, k, j, f', rows, cs', hp, hsh, hn, hrows, hij, hj, hk, rfl, hcs'⟩ := calls_step (by omega) hcs
        obtain ⟨hp0, hp16⟩ := shape_in hsh
        have hkn : k ≤ 1000 := by
          have e := hsh
          have c : p = 0 ∨ p = 1 ∨ p = 2 ∨ p = 3 ∨ p = 4 ∨ p = 5 ∨ p = 6 ∨ p = 7 ∨ p = 8 ∨ p = 9 ∨ p = 10 ∨ p = 11 ∨ p = 12 ∨ p = 13 ∨ p = 14 ∨ p = 15 ∨ p = 16 := by omega
          rcases c with rfl | rfl | rfl | rfl | rfl | rfl | rfl | rfl | rfl | rfl | rfl | rfl | rfl | rfl | rfl | rfl | rfl <;> (cases e; decide)
        obtain ⟨hin1, hin2⟩ : PyInside.call PyKqi5.bound ((p :: (ns.drop (i + 1)).take n) :: rows) = true ∧ cs'.all (PyInside.call PyKqi5.bound) = true := by
          rw [List.all_cons, Bool.and_eq_true] at hall
          exact hall
        -- call = reader.read_number()
        refine ⟨_, rfl, a, dx, _, rfl, ha, rF_no _ _ (by decide +kernel) (by decide +kernel), a, L, i, p, ns, rfl, ⟨dx, ha⟩, sH.seq hS, hp, fun H4 k4 r4 => ?_⟩
        have sH4 := same_kn sH k4 na
        have nDa : D ≠ a := fun e => by
          rw [e, ha] at hD3
          cases hD3
        have nDb : D ≠ b := fun e => by
          obtain ⟨_, _, _, hb, _⟩ := hL.ex
          rw [e, hb] at hD3
          cases hD3
        obtain ⟨dx4, ha4⟩ := r4
        -- shape = SHAPES[call]
        obtain ⟨as, eas, hsq⟩ := TS.each H4 p n k hsh
        refine ⟨_, rfl, ix_sq (.inr (TS.sq _)) eas ?_⟩
        -- numbers = reader.read_numbers(shape[0])
        refine ⟨_, rfl, a, dx4, _, rfl, ha4, rF_no _ _ (by decide +kernel) (by decide +kernel), _, rfl, ix_sq (.inr hsq) (v := .int (n : Int)) rfl ?_⟩
        refine ⟨a, L, i + 1, n, ns, rfl, ⟨dx4, ha4⟩, sH4.seq hS, hn, fun H5 N k5 n5 g5 r5 => ?_⟩
        have sH5 := same_kn sH4 k5 na
        obtain ⟨dx5, ha5⟩ := r5
        -- rows = reader.read_rows(shape[1])
        obtain ⟨as2, eas2, hsq2⟩ := TS.each H5 p n k hsh
        have eas3 : as2 = as := V.ref.inj (Option.some.inj (eas2.symm.trans eas))
        subst eas3
        refine ⟨_, rfl, a, dx5, _, rfl, ha5, rF_no _ _ (by decide +kernel) (by decide +kernel), _, rfl, ix_sq (.inr hsq2) (v := .int (k : Int)) rfl ?_⟩
        refine ⟨a, L, i + 1 + n, j, k, ns, rows, rfl, ⟨dx5, ha5⟩, sH5.seq hS, hkn, hn, hj, hrows, fun H6 Dr rs k6 n6 g6 w6 r6 => ?_⟩
        have sH6 := same_kn sH5 k6 na
        obtain ⟨dx6, ha6⟩ := r6
        have nNa : N ≠ a := fun e => by
          rw [e, ha4] at n5
          cases n5
        have hN6 := k6 _ _ g5 nNa
        have hL6 := ((hL.keep k4 ha nab.symm).keep k5 ha4 nab.symm).keep k6 ha5 nab.symm
        have hD6 := k6 _ _ (k5 _ _ (k4 _ _ hD3 nDa) nDa) nDa
        have As : Asked p ((ns.drop (i + 1)).take n) rows := ⟨by rw [hsh, hk, List.length_take, List.length_drop, Nat.min_eq_left (by omega)], hin1⟩
        -- answer = answer_call(layers, call, numbers, rows)
        refine ⟨_, rfl, _, rfl, _, rfl, _, rfl, b, N, Dr, s, p, _, rows, rs, rfl, hL6, hN6, g6, w6, As, fun H7 q7 k7 n7 g7 l7 => ?_⟩
        have sH7 := same_kn sH6 k7 nHb
        have hD7 := k7 _ _ hD6 nDb
        have ha7 := k7 _ _ ha6 nab
        have nqD : q7 ≠ D := fun e => by
          rw [e, hD6] at n7
          cases n7
        have hout' : PyKqi5.answers ns = out ++ (((stp s p ((ns.drop (i + 1)).take n) rows).2.length : Int) :: (stp s p ((ns.drop (i + 1)).take n) rows).2) ++ PyFlat.told (PyFlat.played Kqi5Neutral.step (stp s p ((ns.drop (i + 1)).take n) rows).1 cs') := by
          rw [hout, List.append_assoc, ← told_cons]
          rfl
        generalize stp s p ((ns.drop (i + 1)).take n) rows = S at hout' g7 l7
        have hlo : out.length + (1 + S.2.length) ≤ 10000000 := by
          have := congrArg List.length hout'
          rw [List.length_append, List.length_append, List.length_cons] at this
          omega
        -- told.append(len(answer))
        refine ⟨_, rfl, .inl ⟨rfl, _, SqL.of hD7⟩, _, rfl, q7, _, rfl, .inl (SqL.of g7), D, _, _, rfl, rfl, hD7, by rw [List.length_map]; omega, ?_⟩
        -- told.extend(answer)
        refine ⟨_, rfl, .inl ⟨rfl, _, SqL.of upd_same⟩, _, rfl, D, q7, _, _, rfl, rfl, upd_same, by rw [upd_ne nqD]; exact g7, ?_, ⟨_, _, _, _, _, j, f', cs', S.1, out ++ ((S.2.length : Int) :: S.2), dx6, rfl, ?_, ?_, ?_, ?_, hj, hcs', hin2, hout'⟩, ?_⟩
        · rw [List.length_append, List.length_map, List.length_map]
          show out.length + 1 + S.2.length ≤ sizeLine
          omega
        · exact same_upd (same_upd sH7 nHD) nHD
        · rw [upd_ne nDa.symm, upd_ne nDa.symm]
          exact ha7
        · exact (l7.upd hD7).upd upd_same
        · rw [upd_same, List.length_map]
          unfold iv
          rw [List.map_append, List.append_assoc]
          rfl
        · rw [upd_ne nDa.symm, upd_ne nDa.symm, ha7, ha]
          show ns.length - (j : Int).toNat < ns.length - (i : Int).toNat
          omega
      · have c' : ¬ (i : Int) < (ns.length : Int) := fun z => c (decide_eq_true z)
        have ed : ns.drop i = [] := List.drop_eq_nil_of_le (by omega)
        rw [ed] at hcs
        have ecs : cs = [] := by
          cases f with
          | zero => exact (Option.some.inj hcs).symm
          | succ f => exact (Option.some.inj hcs).symm
        subst ecs
        refine ⟨_, rfl, q _ D ?_⟩
        rw [hout]
        show _ = some (HO.lst (iv (out ++ [])))
        rw [List.append_nil]
        exact hD3
    · rintro σ H' Q1 Q2 mn ⟨v, h1, a', dx', fs', h2, h3, h4, a2, L2, i2, ns2, h5, h6, h7, k2, h8, h9⟩
      exact ⟨v, h1, a', dx', fs', h2, h3, h4, a2, L2, i2, ns2, h5, h6, h7, k2, h8, mn _ _ h9⟩
end
end LC


set_option Elab.async false
set_option maxRecDepth 100000
set_option maxHeartbeats 4000000
namespace LC
open PySem PySem.Spec PyProof.Rows L2
open PySem.W (Codec)
def TupIn (K : PySem.W.Frag) (a : Addr) (xs : List V) : Prop := ∃ (o : Obj) (its : Array Value) (n : Nat), K.lookup a = some o ∧ o.cls = .type "tuple" ∧ o.data = .seq its n ∧ its.size ≤ sizeLine ∧ Vals xs its.toList
theorem tup_mk {K : PySem.W.Frag} {a : Addr} {od : Option Addr} {its : Array Value} {n : Nat} {sl : Array (Option Value)} {xs : List V} (l : K.lookup a = some ⟨.type "tuple", od, .seq its n, sl⟩) (z : its.size ≤ sizeLine) (v : Vals xs its.toList) : TupIn K a xs := ⟨_, its, n, l, rfl, rfl, z, v⟩
theorem five_of {K : PySem.W.Frag} {mg : Str → Option Value} {aF a0 a1 a2 a3 a4 : Addr} (g : mg "FIVE" = some (.ref aF)) (s : TupIn K aF [.ref a0, .ref a1, .ref a2, .ref a3, .ref a4])
    (s0 : TupIn K a0 [.int 1]) (s1 : TupIn K a1 [.int 1, .int 0]) (s2 : TupIn K a2 [.int 1, .int 1, .int 0, .int 0]) (s3 : TupIn K a3 [.int 1, .int 1, .int 1, .int 0, .int 0, .int 0]) (s4 : TupIn K a4 [.int 1, .int 1, .int 0]) : Five K mg aF [a0, a1, a2, a3, a4] := by
  refine ⟨g, fun H => .inr s, rfl, fun H i a h => ?_⟩
  match i, h with
  | 0, h => cases h; exact .inr s0
  | 1, h => cases h; exact .inr s1
  | 2, h => cases h; exact .inr s2
  | 3, h => cases h; exact .inr s3
  | 4, h => cases h; exact .inr s4
  | i + 5, h => simp at h
theorem shapes_of {K : PySem.W.Frag} {mg : Str → Option Value} {aS a0 a1 a2 a3 a4 a5 a6 a7 a8 a9 a10 a11 a12 a13 a14 a15 a16 : Addr} (g : mg "SHAPES" = some (.ref aS)) (s : TupIn K aS [.ref a0, .ref a1, .ref a2, .ref a3, .ref a4, .ref a5, .ref a6, .ref a7, .ref a8, .ref a9, .ref a10, .ref a11, .ref a12, .ref a13, .ref a14, .ref a15, .ref a16])
    (s0 : TupIn K a0 [.int 0, .int 0]) (s1 : TupIn K a1 [.int 3, .int 0]) (s2 : TupIn K a2 [.int 0, .int 1]) (s3 : TupIn K a3 [.int 0, .int 1]) (s4 : TupIn K a4 [.int 0, .int 0]) (s5 : TupIn K a5 [.int 1, .int 0]) (s6 : TupIn K a6 [.int 0, .int 0]) (s7 : TupIn K a7 [.int 1, .int 0]) (s8 : TupIn K a8 [.int 0, .int 1]) (s9 : TupIn K a9 [.int 0, .int 2]) (s10 : TupIn K a10 [.int 1, .int 1]) (s11 : TupIn K a11 [.int 0, .int 1]) (s12 : TupIn K a12 [.int 0, .int 1]) (s13 : TupIn K a13 [.int 0, .int 2]) (s14 : TupIn K a14 [.int 1, .int 0]) (s15 : TupIn K a15 [.int 0, .int 0]) (s16 : TupIn K a16 [.int 0, .int 0]) : Shapes K mg aS [a0, a1, a2, a3, a4, a5, a6, a7, a8, a9, a10, a11, a12, a13, a14, a15, a16] := by
  refine ⟨g, fun H => .inr s, fun H p n k h => ?_⟩
  obtain ⟨b1, b2⟩ := shape_in h
  have c : p = 0 ∨ p = 1 ∨ p = 2 ∨ p = 3 ∨ p = 4 ∨ p = 5 ∨ p = 6 ∨ p = 7 ∨ p = 8 ∨ p = 9 ∨ p = 10 ∨ p = 11 ∨ p = 12 ∨ p = 13 ∨ p = 14 ∨ p = 15 ∨ p = 16 := by omega
  rcases c with rfl | rfl | rfl | rfl | rfl | rfl | rfl | rfl | rfl | rfl | rfl | rfl | rfl | rfl | rfl | rfl | rfl
  · cases h; exact ⟨a0, rfl, .inr s0⟩
  · cases h; exact ⟨a1, rfl, .inr s1⟩
  · cases h; exact ⟨a2, rfl, .inr s2⟩
  · cases h; exact ⟨a3, rfl, .inr s3⟩
  · cases h; exact ⟨a4, rfl, .inr s4⟩
  · cases h; exact ⟨a5, rfl, .inr s5⟩
  · cases h; exact ⟨a6, rfl, .inr s6⟩
  · cases h; exact ⟨a7, rfl, .inr s7⟩
  · cases h; exact ⟨a8, rfl, .inr s8⟩
  · cases h; exact ⟨a9, rfl, .inr s9⟩
  · cases h; exact ⟨a10, rfl, .inr s10⟩
  · cases h; exact ⟨a11, rfl, .inr s11⟩
  · cases h; exact ⟨a12, rfl, .inr s12⟩
  · cases h; exact ⟨a13, rfl, .inr s13⟩
  · cases h; exact ⟨a14, rfl, .inr s14⟩
  · cases h; exact ⟨a15, rfl, .inr s15⟩
  · cases h; exact ⟨a16, rfl, .inr s16⟩
theorem needs_of {K : PySem.W.Frag} {mg : Str → Option Value} {aN a0 a1 a2 a3 a4 : Addr} (g : mg "NEEDED_COSTS" = some (.ref aN)) (s : TupIn K aN [.ref a0, .ref a1, .ref a2, .ref a3, .ref a4])
    (s0 : TupIn K a0 [.int (-1), .int 0, .int 0]) (s1 : TupIn K a1 [.int 2, .int (-1), .int 0]) (s2 : TupIn K a2 [.int 0, .int 1, .int 0]) (s3 : TupIn K a3 [.int (-1), .int 1, .int 2]) (s4 : TupIn K a4 [.int 1, .int 1, .int (-2)]) : Needs K mg aN [a0, a1, a2, a3, a4] := by
  refine ⟨g, fun H => .inr s, fun H k h => ?_⟩
  match k, h with
  | 0, _ => exact ⟨a0, ⟨-1, 0, 0⟩, rfl, rfl, .inr s0⟩
  | 1, _ => exact ⟨a1, ⟨2, -1, 0⟩, rfl, rfl, .inr s1⟩
  | 2, _ => exact ⟨a2, ⟨0, 1, 0⟩, rfl, rfl, .inr s2⟩
  | 3, _ => exact ⟨a3, ⟨-1, 1, 2⟩, rfl, rfl, .inr s3⟩
  | 4, _ => exact ⟨a4, ⟨1, 1, -2⟩, rfl, rfl, .inr s4⟩
  | k + 5, h => omega
/-! ### the end: what the top has written -/
theorem all_mk {P : Program} {w : World} {K : PySem.W.Frag} {h : Heap} {mg : Str → Option Value} {fa C_Layers C_Reader f_is_word f_likeness f_word_cost f_common_divisor f_word_mean f_is_less f_words_in_order f_best_word f_least_of_five f_least_mean f_ties_of_five f_is_good f_with_step_turned f_cost_with_step_turned f_falling_step f_word_at_rest f_are_costs f_Layers_init f_Layers_start f_Layers_change_costs f_Layers_turn_over f_Layers_state f_Layers_cost f_Layers_mean f_Layers_good f_Layers_cheaper f_Layers_joined f_Layers_least f_Layers_ties f_Layers_told_word f_Layers_word f_Layers_needs f_Layers_best f_Layers_turn f_Layers_fall f_Layers_rest f_Reader_init f_Reader_has_more f_Reader_read_numbers f_Reader_read_number f_Reader_read_rows f_answer_without_word f_answer_of_word f_answer_of_two_words f_answer_call f_answers a_FIVE a_FIVE_0 a_FIVE_1 a_FIVE_2 a_FIVE_3 a_FIVE_4 a_NEEDED_COSTS a_NEEDED_COSTS_0 a_NEEDED_COSTS_1 a_NEEDED_COSTS_2 a_NEEDED_COSTS_3 a_NEEDED_COSTS_4 a_SHAPES a_SHAPES_0 a_SHAPES_1 a_SHAPES_2 a_SHAPES_3 a_SHAPES_4 a_SHAPES_5 a_SHAPES_6 a_SHAPES_7 a_SHAPES_8 a_SHAPES_9 a_SHAPES_10 a_SHAPES_11 a_SHAPES_12 a_SHAPES_13 a_SHAPES_14 a_SHAPES_15 a_SHAPES_16 : Addr} {t_MOST_STEPS t_START t_COSTS t_COST t_MEAN t_LEAST t_WORD t_TIES t_BEST t_GOOD t_CHEAPER t_TURN t_FALL t_NEEDS t_TURNED_OVER t_NOT_STARTED t_NOT_RIGHT t_NONE_SUCH t_AT_REST t_MOST_COST t_MOST_BEST_STEPS : Nat} (X : K.In h) (G : h.Ns mainGlobals mg) (hfa : mg "answers" = some (.ref fa))
    (aC_Layers : PySem.W.nsIn K mainGlobals "Layers" = some (some (.ref C_Layers)))
    (pg_Layers : PySem.W.plainGet K C_Layers Str.empty = true)
    (hd_Layers : PySem.W.hasDictIn K C_Layers = true)
    (po_Layers : PySem.W.plainOver K C_Layers = true)
    (sa_Layers : PySem.W.findIn K (.ref C_Layers) "__setattr__" = some (some (.builtin "object.__setattr__")))
    (mk_Layers : PySem.W.makesIn K C_Layers = true)
    (kc_Layers : PySem.W.keepIn K (.ref C_Layers) = true)
    (n_Layers_started : PySem.W.findIn K (.ref C_Layers) "started" = some none)
    (n_Layers_costs : PySem.W.findIn K (.ref C_Layers) "costs" = some none)
    (aC_Reader : PySem.W.nsIn K mainGlobals "Reader" = some (some (.ref C_Reader)))
    (pg_Reader : PySem.W.plainGet K C_Reader Str.empty = true)
    (hd_Reader : PySem.W.hasDictIn K C_Reader = true)
    (po_Reader : PySem.W.plainOver K C_Reader = true)
    (sa_Reader : PySem.W.findIn K (.ref C_Reader) "__setattr__" = some (some (.builtin "object.__setattr__")))
    (mk_Reader : PySem.W.makesIn K C_Reader = true)
    (kc_Reader : PySem.W.keepIn K (.ref C_Reader) = true)
    (n_Reader_calls : PySem.W.findIn K (.ref C_Reader) "calls" = some none)
    (n_Reader_place : PySem.W.findIn K (.ref C_Reader) "place" = some none)
    (a_is_word : PySem.W.nsIn K mainGlobals "is_word" = some (some (.ref f_is_word)))
    (D_is_word : ∃ fd, Fun K "is_word" "is_word" s_is_word f_is_word fd)
    (a_likeness : PySem.W.nsIn K mainGlobals "likeness" = some (some (.ref f_likeness)))
    (D_likeness : ∃ fd, Fun K "likeness" "likeness" s_likeness f_likeness fd)
    (a_word_cost : PySem.W.nsIn K mainGlobals "word_cost" = some (some (.ref f_word_cost)))
    (D_word_cost : ∃ fd, Fun K "word_cost" "word_cost" s_word_cost f_word_cost fd)
    (a_common_divisor : PySem.W.nsIn K mainGlobals "common_divisor" = some (some (.ref f_common_divisor)))
    (D_common_divisor : ∃ fd, Fun K "common_divisor" "common_divisor" s_common_divisor f_common_divisor fd)
    (a_word_mean : PySem.W.nsIn K mainGlobals "word_mean" = some (some (.ref f_word_mean)))
    (D_word_mean : ∃ fd, Fun K "word_mean" "word_mean" s_word_mean f_word_mean fd)
    (a_is_less : PySem.W.nsIn K mainGlobals "is_less" = some (some (.ref f_is_less)))
    (D_is_less : ∃ fd, Fun K "is_less" "is_less" s_is_less f_is_less fd)
    (a_words_in_order : PySem.W.nsIn K mainGlobals "words_in_order" = some (some (.ref f_words_in_order)))
    (D_words_in_order : ∃ fd, Fun K "words_in_order" "words_in_order" s_words_in_order f_words_in_order fd)
    (a_best_word : PySem.W.nsIn K mainGlobals "best_word" = some (some (.ref f_best_word)))
    (D_best_word : ∃ fd, Fun K "best_word" "best_word" s_best_word f_best_word fd)
    (a_least_of_five : PySem.W.nsIn K mainGlobals "least_of_five" = some (some (.ref f_least_of_five)))
    (D_least_of_five : ∃ fd, Fun K "least_of_five" "least_of_five" s_least_of_five f_least_of_five fd)
    (a_least_mean : PySem.W.nsIn K mainGlobals "least_mean" = some (some (.ref f_least_mean)))
    (D_least_mean : ∃ fd, Fun K "least_mean" "least_mean" s_least_mean f_least_mean fd)
    (a_ties_of_five : PySem.W.nsIn K mainGlobals "ties_of_five" = some (some (.ref f_ties_of_five)))
    (D_ties_of_five : ∃ fd, Fun K "ties_of_five" "ties_of_five" s_ties_of_five f_ties_of_five fd)
    (a_is_good : PySem.W.nsIn K mainGlobals "is_good" = some (some (.ref f_is_good)))
    (D_is_good : ∃ fd, Fun K "is_good" "is_good" s_is_good f_is_good fd)
    (a_with_step_turned : PySem.W.nsIn K mainGlobals "with_step_turned" = some (some (.ref f_with_step_turned)))
    (D_with_step_turned : ∃ fd, Fun K "with_step_turned" "with_step_turned" s_with_step_turned f_with_step_turned fd)
    (a_cost_with_step_turned : PySem.W.nsIn K mainGlobals "cost_with_step_turned" = some (some (.ref f_cost_with_step_turned)))
    (D_cost_with_step_turned : ∃ fd, Fun K "cost_with_step_turned" "cost_with_step_turned" s_cost_with_step_turned f_cost_with_step_turned fd)
    (a_falling_step : PySem.W.nsIn K mainGlobals "falling_step" = some (some (.ref f_falling_step)))
    (D_falling_step : ∃ fd, Fun K "falling_step" "falling_step" s_falling_step f_falling_step fd)
    (a_word_at_rest : PySem.W.nsIn K mainGlobals "word_at_rest" = some (some (.ref f_word_at_rest)))
    (D_word_at_rest : ∃ fd, Fun K "word_at_rest" "word_at_rest" s_word_at_rest f_word_at_rest fd)
    (a_are_costs : PySem.W.nsIn K mainGlobals "are_costs" = some (some (.ref f_are_costs)))
    (D_are_costs : ∃ fd, Fun K "are_costs" "are_costs" s_are_costs f_are_costs fd)
    (a_Layers_init : PySem.W.findIn K (.ref C_Layers) "__init__" = some (some (.ref f_Layers_init)))
    (i_Layers_init : PySem.W.isFn K (.ref f_Layers_init) = true)
    (D_Layers_init : ∃ fd, Fun K "__init__" "Layers.__init__" s_Layers_init f_Layers_init fd)
    (a_Layers_start : PySem.W.findIn K (.ref C_Layers) "start" = some (some (.ref f_Layers_start)))
    (i_Layers_start : PySem.W.isFn K (.ref f_Layers_start) = true)
    (D_Layers_start : ∃ fd, Fun K "start" "Layers.start" s_Layers_start f_Layers_start fd)
    (a_Layers_change_costs : PySem.W.findIn K (.ref C_Layers) "change_costs" = some (some (.ref f_Layers_change_costs)))
    (i_Layers_change_costs : PySem.W.isFn K (.ref f_Layers_change_costs) = true)
    (D_Layers_change_costs : ∃ fd, Fun K "change_costs" "Layers.change_costs" s_Layers_change_costs f_Layers_change_costs fd)
    (a_Layers_turn_over : PySem.W.findIn K (.ref C_Layers) "turn_over" = some (some (.ref f_Layers_turn_over)))
    (i_Layers_turn_over : PySem.W.isFn K (.ref f_Layers_turn_over) = true)
    (D_Layers_turn_over : ∃ fd, Fun K "turn_over" "Layers.turn_over" s_Layers_turn_over f_Layers_turn_over fd)
    (a_Layers_state : PySem.W.findIn K (.ref C_Layers) "state" = some (some (.ref f_Layers_state)))
    (i_Layers_state : PySem.W.isFn K (.ref f_Layers_state) = true)
    (D_Layers_state : ∃ fd, Fun K "state" "Layers.state" s_Layers_state f_Layers_state fd)
    (a_Layers_cost : PySem.W.findIn K (.ref C_Layers) "cost" = some (some (.ref f_Layers_cost)))
    (i_Layers_cost : PySem.W.isFn K (.ref f_Layers_cost) = true)
    (D_Layers_cost : ∃ fd, Fun K "cost" "Layers.cost" s_Layers_cost f_Layers_cost fd)
    (a_Layers_mean : PySem.W.findIn K (.ref C_Layers) "mean" = some (some (.ref f_Layers_mean)))
    (i_Layers_mean : PySem.W.isFn K (.ref f_Layers_mean) = true)
    (D_Layers_mean : ∃ fd, Fun K "mean" "Layers.mean" s_Layers_mean f_Layers_mean fd)
    (a_Layers_good : PySem.W.findIn K (.ref C_Layers) "good" = some (some (.ref f_Layers_good)))
    (i_Layers_good : PySem.W.isFn K (.ref f_Layers_good) = true)
    (D_Layers_good : ∃ fd, Fun K "good" "Layers.good" s_Layers_good f_Layers_good fd)
    (a_Layers_cheaper : PySem.W.findIn K (.ref C_Layers) "cheaper" = some (some (.ref f_Layers_cheaper)))
    (i_Layers_cheaper : PySem.W.isFn K (.ref f_Layers_cheaper) = true)
    (D_Layers_cheaper : ∃ fd, Fun K "cheaper" "Layers.cheaper" s_Layers_cheaper f_Layers_cheaper fd)
    (a_Layers_joined : PySem.W.findIn K (.ref C_Layers) "joined" = some (some (.ref f_Layers_joined)))
    (i_Layers_joined : PySem.W.isFn K (.ref f_Layers_joined) = true)
    (D_Layers_joined : ∃ fd, Fun K "joined" "Layers.joined" s_Layers_joined f_Layers_joined fd)
    (a_Layers_least : PySem.W.findIn K (.ref C_Layers) "least" = some (some (.ref f_Layers_least)))
    (i_Layers_least : PySem.W.isFn K (.ref f_Layers_least) = true)
    (D_Layers_least : ∃ fd, Fun K "least" "Layers.least" s_Layers_least f_Layers_least fd)
    (a_Layers_ties : PySem.W.findIn K (.ref C_Layers) "ties" = some (some (.ref f_Layers_ties)))
    (i_Layers_ties : PySem.W.isFn K (.ref f_Layers_ties) = true)
    (D_Layers_ties : ∃ fd, Fun K "ties" "Layers.ties" s_Layers_ties f_Layers_ties fd)
    (a_Layers_told_word : PySem.W.findIn K (.ref C_Layers) "told_word" = some (some (.ref f_Layers_told_word)))
    (i_Layers_told_word : PySem.W.isFn K (.ref f_Layers_told_word) = true)
    (D_Layers_told_word : ∃ fd, Fun K "told_word" "Layers.told_word" s_Layers_told_word f_Layers_told_word fd)
    (a_Layers_word : PySem.W.findIn K (.ref C_Layers) "word" = some (some (.ref f_Layers_word)))
    (i_Layers_word : PySem.W.isFn K (.ref f_Layers_word) = true)
    (D_Layers_word : ∃ fd, Fun K "word" "Layers.word" s_Layers_word f_Layers_word fd)
    (a_Layers_needs : PySem.W.findIn K (.ref C_Layers) "needs" = some (some (.ref f_Layers_needs)))
    (i_Layers_needs : PySem.W.isFn K (.ref f_Layers_needs) = true)
    (D_Layers_needs : ∃ fd, Fun K "needs" "Layers.needs" s_Layers_needs f_Layers_needs fd)
    (a_Layers_best : PySem.W.findIn K (.ref C_Layers) "best" = some (some (.ref f_Layers_best)))
    (i_Layers_best : PySem.W.isFn K (.ref f_Layers_best) = true)
    (D_Layers_best : ∃ fd, Fun K "best" "Layers.best" s_Layers_best f_Layers_best fd)
    (a_Layers_turn : PySem.W.findIn K (.ref C_Layers) "turn" = some (some (.ref f_Layers_turn)))
    (i_Layers_turn : PySem.W.isFn K (.ref f_Layers_turn) = true)
    (D_Layers_turn : ∃ fd, Fun K "turn" "Layers.turn" s_Layers_turn f_Layers_turn fd)
    (a_Layers_fall : PySem.W.findIn K (.ref C_Layers) "fall" = some (some (.ref f_Layers_fall)))
    (i_Layers_fall : PySem.W.isFn K (.ref f_Layers_fall) = true)
    (D_Layers_fall : ∃ fd, Fun K "fall" "Layers.fall" s_Layers_fall f_Layers_fall fd)
    (a_Layers_rest : PySem.W.findIn K (.ref C_Layers) "rest" = some (some (.ref f_Layers_rest)))
    (i_Layers_rest : PySem.W.isFn K (.ref f_Layers_rest) = true)
    (D_Layers_rest : ∃ fd, Fun K "rest" "Layers.rest" s_Layers_rest f_Layers_rest fd)
    (a_Reader_init : PySem.W.findIn K (.ref C_Reader) "__init__" = some (some (.ref f_Reader_init)))
    (i_Reader_init : PySem.W.isFn K (.ref f_Reader_init) = true)
    (D_Reader_init : ∃ fd, Fun K "__init__" "Reader.__init__" s_Reader_init f_Reader_init fd)
    (a_Reader_has_more : PySem.W.findIn K (.ref C_Reader) "has_more" = some (some (.ref f_Reader_has_more)))
    (i_Reader_has_more : PySem.W.isFn K (.ref f_Reader_has_more) = true)
    (D_Reader_has_more : ∃ fd, Fun K "has_more" "Reader.has_more" s_Reader_has_more f_Reader_has_more fd)
    (a_Reader_read_numbers : PySem.W.findIn K (.ref C_Reader) "read_numbers" = some (some (.ref f_Reader_read_numbers)))
    (i_Reader_read_numbers : PySem.W.isFn K (.ref f_Reader_read_numbers) = true)
    (D_Reader_read_numbers : ∃ fd, Fun K "read_numbers" "Reader.read_numbers" s_Reader_read_numbers f_Reader_read_numbers fd)
    (a_Reader_read_number : PySem.W.findIn K (.ref C_Reader) "read_number" = some (some (.ref f_Reader_read_number)))
    (i_Reader_read_number : PySem.W.isFn K (.ref f_Reader_read_number) = true)
    (D_Reader_read_number : ∃ fd, Fun K "read_number" "Reader.read_number" s_Reader_read_number f_Reader_read_number fd)
    (a_Reader_read_rows : PySem.W.findIn K (.ref C_Reader) "read_rows" = some (some (.ref f_Reader_read_rows)))
    (i_Reader_read_rows : PySem.W.isFn K (.ref f_Reader_read_rows) = true)
    (D_Reader_read_rows : ∃ fd, Fun K "read_rows" "Reader.read_rows" s_Reader_read_rows f_Reader_read_rows fd)
    (a_answer_without_word : PySem.W.nsIn K mainGlobals "answer_without_word" = some (some (.ref f_answer_without_word)))
    (D_answer_without_word : ∃ fd, Fun K "answer_without_word" "answer_without_word" s_answer_without_word f_answer_without_word fd)
    (a_answer_of_word : PySem.W.nsIn K mainGlobals "answer_of_word" = some (some (.ref f_answer_of_word)))
    (D_answer_of_word : ∃ fd, Fun K "answer_of_word" "answer_of_word" s_answer_of_word f_answer_of_word fd)
    (a_answer_of_two_words : PySem.W.nsIn K mainGlobals "answer_of_two_words" = some (some (.ref f_answer_of_two_words)))
    (D_answer_of_two_words : ∃ fd, Fun K "answer_of_two_words" "answer_of_two_words" s_answer_of_two_words f_answer_of_two_words fd)
    (a_answer_call : PySem.W.nsIn K mainGlobals "answer_call" = some (some (.ref f_answer_call)))
    (D_answer_call : ∃ fd, Fun K "answer_call" "answer_call" s_answer_call f_answer_call fd)
    (a_answers : PySem.W.nsIn K mainGlobals "answers" = some (some (.ref f_answers)))
    (D_answers : ∃ fd, Fun K "answers" "answers" s_answers f_answers fd)
    (z_len : PySem.W.nsIn K mainGlobals "len" = some none)
    (z_range : PySem.W.nsIn K mainGlobals "range" = some none)
    (z_abs : PySem.W.nsIn K mainGlobals "abs" = some none)
    (z_list : PySem.W.nsIn K mainGlobals "list" = some none)
    (z_tuple : PySem.W.nsIn K mainGlobals "tuple" = some none)
    (g_MOST_STEPS : PySem.W.nsIn K mainGlobals "MOST_STEPS" = some (some (.int (12) t_MOST_STEPS)))
    (g_START : PySem.W.nsIn K mainGlobals "START" = some (some (.int (0) t_START)))
    (g_COSTS : PySem.W.nsIn K mainGlobals "COSTS" = some (some (.int (1) t_COSTS)))
    (g_COST : PySem.W.nsIn K mainGlobals "COST" = some (some (.int (2) t_COST)))
    (g_MEAN : PySem.W.nsIn K mainGlobals "MEAN" = some (some (.int (3) t_MEAN)))
    (g_LEAST : PySem.W.nsIn K mainGlobals "LEAST" = some (some (.int (4) t_LEAST)))
    (g_WORD : PySem.W.nsIn K mainGlobals "WORD" = some (some (.int (5) t_WORD)))
    (g_TIES : PySem.W.nsIn K mainGlobals "TIES" = some (some (.int (6) t_TIES)))
    (g_BEST : PySem.W.nsIn K mainGlobals "BEST" = some (some (.int (7) t_BEST)))
    (g_GOOD : PySem.W.nsIn K mainGlobals "GOOD" = some (some (.int (8) t_GOOD)))
    (g_CHEAPER : PySem.W.nsIn K mainGlobals "CHEAPER" = some (some (.int (9) t_CHEAPER)))
    (g_TURN : PySem.W.nsIn K mainGlobals "TURN" = some (some (.int (10) t_TURN)))
    (g_FALL : PySem.W.nsIn K mainGlobals "FALL" = some (some (.int (11) t_FALL)))
    (g_NEEDS : PySem.W.nsIn K mainGlobals "NEEDS" = some (some (.int (14) t_NEEDS)))
    (g_TURNED_OVER : PySem.W.nsIn K mainGlobals "TURNED_OVER" = some (some (.int (15) t_TURNED_OVER)))
    (g_NOT_STARTED : PySem.W.nsIn K mainGlobals "NOT_STARTED" = some (some (.int (-11) t_NOT_STARTED)))
    (g_NOT_RIGHT : PySem.W.nsIn K mainGlobals "NOT_RIGHT" = some (some (.int (-22) t_NOT_RIGHT)))
    (g_NONE_SUCH : PySem.W.nsIn K mainGlobals "NONE_SUCH" = some (some (.int (-2) t_NONE_SUCH)))
    (g_AT_REST : PySem.W.nsIn K mainGlobals "AT_REST" = some (some (.int (-33) t_AT_REST)))
    (g_MOST_COST : PySem.W.nsIn K mainGlobals "MOST_COST" = some (some (.int (100) t_MOST_COST)))
    (g_MOST_BEST_STEPS : PySem.W.nsIn K mainGlobals "MOST_BEST_STEPS" = some (some (.int (6) t_MOST_BEST_STEPS)))
    (g_FIVE : PySem.W.nsIn K mainGlobals "FIVE" = some (some (.ref a_FIVE)))
    (s_FIVE : TupIn K a_FIVE [.ref a_FIVE_0, .ref a_FIVE_1, .ref a_FIVE_2, .ref a_FIVE_3, .ref a_FIVE_4])
    (sa_FIVE_0 : TupIn K a_FIVE_0 [.int (1)])
    (sa_FIVE_1 : TupIn K a_FIVE_1 [.int (1), .int (0)])
    (sa_FIVE_2 : TupIn K a_FIVE_2 [.int (1), .int (1), .int (0), .int (0)])
    (sa_FIVE_3 : TupIn K a_FIVE_3 [.int (1), .int (1), .int (1), .int (0), .int (0), .int (0)])
    (sa_FIVE_4 : TupIn K a_FIVE_4 [.int (1), .int (1), .int (0)])
    (g_NEEDED_COSTS : PySem.W.nsIn K mainGlobals "NEEDED_COSTS" = some (some (.ref a_NEEDED_COSTS)))
    (s_NEEDED_COSTS : TupIn K a_NEEDED_COSTS [.ref a_NEEDED_COSTS_0, .ref a_NEEDED_COSTS_1, .ref a_NEEDED_COSTS_2, .ref a_NEEDED_COSTS_3, .ref a_NEEDED_COSTS_4])
    (sa_NEEDED_COSTS_0 : TupIn K a_NEEDED_COSTS_0 [.int (-1), .int (0), .int (0)])
    (sa_NEEDED_COSTS_1 : TupIn K a_NEEDED_COSTS_1 [.int (2), .int (-1), .int (0)])
    (sa_NEEDED_COSTS_2 : TupIn K a_NEEDED_COSTS_2 [.int (0), .int (1), .int (0)])
    (sa_NEEDED_COSTS_3 : TupIn K a_NEEDED_COSTS_3 [.int (-1), .int (1), .int (2)])
    (sa_NEEDED_COSTS_4 : TupIn K a_NEEDED_COSTS_4 [.int (1), .int (1), .int (-2)])
    (g_SHAPES : PySem.W.nsIn K mainGlobals "SHAPES" = some (some (.ref a_SHAPES)))
    (s_SHAPES : TupIn K a_SHAPES [.ref a_SHAPES_0, .ref a_SHAPES_1, .ref a_SHAPES_2, .ref a_SHAPES_3, .ref a_SHAPES_4, .ref a_SHAPES_5, .ref a_SHAPES_6, .ref a_SHAPES_7, .ref a_SHAPES_8, .ref a_SHAPES_9, .ref a_SHAPES_10, .ref a_SHAPES_11, .ref a_SHAPES_12, .ref a_SHAPES_13, .ref a_SHAPES_14, .ref a_SHAPES_15, .ref a_SHAPES_16])
    (sa_SHAPES_0 : TupIn K a_SHAPES_0 [.int (0), .int (0)])
    (sa_SHAPES_1 : TupIn K a_SHAPES_1 [.int (3), .int (0)])
    (sa_SHAPES_2 : TupIn K a_SHAPES_2 [.int (0), .int (1)])
    (sa_SHAPES_3 : TupIn K a_SHAPES_3 [.int (0), .int (1)])
    (sa_SHAPES_4 : TupIn K a_SHAPES_4 [.int (0), .int (0)])
    (sa_SHAPES_5 : TupIn K a_SHAPES_5 [.int (1), .int (0)])
    (sa_SHAPES_6 : TupIn K a_SHAPES_6 [.int (0), .int (0)])
    (sa_SHAPES_7 : TupIn K a_SHAPES_7 [.int (1), .int (0)])
    (sa_SHAPES_8 : TupIn K a_SHAPES_8 [.int (0), .int (1)])
    (sa_SHAPES_9 : TupIn K a_SHAPES_9 [.int (0), .int (2)])
    (sa_SHAPES_10 : TupIn K a_SHAPES_10 [.int (1), .int (1)])
    (sa_SHAPES_11 : TupIn K a_SHAPES_11 [.int (0), .int (1)])
    (sa_SHAPES_12 : TupIn K a_SHAPES_12 [.int (0), .int (1)])
    (sa_SHAPES_13 : TupIn K a_SHAPES_13 [.int (0), .int (2)])
    (sa_SHAPES_14 : TupIn K a_SHAPES_14 [.int (1), .int (0)])
    (sa_SHAPES_15 : TupIn K a_SHAPES_15 [.int (0), .int (0)])
    (sa_SHAPES_16 : TupIn K a_SHAPES_16 [.int (0), .int (0)]) :
    ∃ fd : FuncData, (∀ (s : Shared) (us : List Value), us.length = (["calls"] : List Str).length → BindsTo s fd ⟨us, []⟩ ((["calls"] : List Str).zip us)) ∧ ∀ base : Heap, K.In base → base.Ns mainGlobals mg → FnOk P w K mg base CX0 10 fa fd ["calls"] (spAnswers K) := by
  have T : Txt mg := ⟨PySem.W.mg_none_of X G z_len, PySem.W.mg_none_of X G z_range, PySem.W.mg_none_of X G z_abs, PySem.W.mg_none_of X G z_list, PySem.W.mg_none_of X G z_tuple, ⟨_, PySem.W.mg_of X G g_MOST_STEPS⟩, ⟨_, PySem.W.mg_of X G g_MOST_COST⟩, ⟨_, PySem.W.mg_of X G g_NOT_RIGHT⟩, ⟨_, PySem.W.mg_of X G g_NOT_STARTED⟩, ⟨_, PySem.W.mg_of X G g_NONE_SUCH⟩, ⟨_, PySem.W.mg_of X G g_MOST_BEST_STEPS⟩, ⟨_, PySem.W.mg_of X G g_START⟩, ⟨_, PySem.W.mg_of X G g_COSTS⟩, ⟨_, PySem.W.mg_of X G g_COST⟩, ⟨_, PySem.W.mg_of X G g_MEAN⟩, ⟨_, PySem.W.mg_of X G g_LEAST⟩, ⟨_, PySem.W.mg_of X G g_WORD⟩, ⟨_, PySem.W.mg_of X G g_TIES⟩, ⟨_, PySem.W.mg_of X G g_BEST⟩, ⟨_, PySem.W.mg_of X G g_GOOD⟩, ⟨_, PySem.W.mg_of X G g_CHEAPER⟩, ⟨_, PySem.W.mg_of X G g_TURN⟩, ⟨_, PySem.W.mg_of X G g_FALL⟩, ⟨_, PySem.W.mg_of X G g_NEEDS⟩, ⟨_, PySem.W.mg_of X G g_TURNED_OVER⟩, ⟨_, PySem.W.mg_of X G g_AT_REST⟩⟩
  have T_Layers : TxtL K mg C_Layers f_Layers_init := ⟨⟨pg_Layers, hd_Layers, po_Layers, sa_Layers⟩, n_Layers_started, n_Layers_costs, PySem.W.mg_of X G aC_Layers, ⟨mk_Layers, a_Layers_init, i_Layers_init, kc_Layers⟩⟩
  have T_Reader : TxtR K mg C_Reader f_Reader_init := ⟨⟨pg_Reader, hd_Reader, po_Reader, sa_Reader⟩, n_Reader_calls, n_Reader_place, PySem.W.mg_of X G aC_Reader, ⟨mk_Reader, a_Reader_init, i_Reader_init, kc_Reader⟩⟩
  have T5 : Five K mg a_FIVE [a_FIVE_0, a_FIVE_1, a_FIVE_2, a_FIVE_3, a_FIVE_4] := five_of (PySem.W.mg_of X G g_FIVE) s_FIVE sa_FIVE_0 sa_FIVE_1 sa_FIVE_2 sa_FIVE_3 sa_FIVE_4
  have TN : Needs K mg a_NEEDED_COSTS [a_NEEDED_COSTS_0, a_NEEDED_COSTS_1, a_NEEDED_COSTS_2, a_NEEDED_COSTS_3, a_NEEDED_COSTS_4] := needs_of (PySem.W.mg_of X G g_NEEDED_COSTS) s_NEEDED_COSTS sa_NEEDED_COSTS_0 sa_NEEDED_COSTS_1 sa_NEEDED_COSTS_2 sa_NEEDED_COSTS_3 sa_NEEDED_COSTS_4
  have TS : Shapes K mg a_SHAPES [a_SHAPES_0, a_SHAPES_1, a_SHAPES_2, a_SHAPES_3, a_SHAPES_4, a_SHAPES_5, a_SHAPES_6, a_SHAPES_7, a_SHAPES_8, a_SHAPES_9, a_SHAPES_10, a_SHAPES_11, a_SHAPES_12, a_SHAPES_13, a_SHAPES_14, a_SHAPES_15, a_SHAPES_16] := shapes_of (PySem.W.mg_of X G g_SHAPES) s_SHAPES sa_SHAPES_0 sa_SHAPES_1 sa_SHAPES_2 sa_SHAPES_3 sa_SHAPES_4 sa_SHAPES_5 sa_SHAPES_6 sa_SHAPES_7 sa_SHAPES_8 sa_SHAPES_9 sa_SHAPES_10 sa_SHAPES_11 sa_SHAPES_12 sa_SHAPES_13 sa_SHAPES_14 sa_SHAPES_15 sa_SHAPES_16
  obtain ⟨d_is_word, F_is_word⟩ := D_is_word
  have b_is_word := F_is_word.binds (ps := ["steps"]) fun _ _ _ _ _ _ us hl => match us, hl with | [_], _ => rfl
  obtain ⟨d_likeness, F_likeness⟩ := D_likeness
  have b_likeness := F_likeness.binds (ps := ["word", "apart"]) fun _ _ _ _ _ _ us hl => match us, hl with | [_, _], _ => rfl
  obtain ⟨d_word_cost, F_word_cost⟩ := D_word_cost
  have b_word_cost := F_word_cost.binds (ps := ["costs", "word"]) fun _ _ _ _ _ _ us hl => match us, hl with | [_, _], _ => rfl
  obtain ⟨d_common_divisor, F_common_divisor⟩ := D_common_divisor
  have b_common_divisor := F_common_divisor.binds (ps := ["a", "b"]) fun _ _ _ _ _ _ us hl => match us, hl with | [_, _], _ => rfl
  obtain ⟨d_word_mean, F_word_mean⟩ := D_word_mean
  have b_word_mean := F_word_mean.binds (ps := ["costs", "word"]) fun _ _ _ _ _ _ us hl => match us, hl with | [_, _], _ => rfl
  obtain ⟨d_is_less, F_is_less⟩ := D_is_less
  have b_is_less := F_is_less.binds (ps := ["mean", "other"]) fun _ _ _ _ _ _ us hl => match us, hl with | [_, _], _ => rfl
  obtain ⟨d_words_in_order, F_words_in_order⟩ := D_words_in_order
  have b_words_in_order := F_words_in_order.binds (ps := ["steps"]) fun _ _ _ _ _ _ us hl => match us, hl with | [_], _ => rfl
  obtain ⟨d_best_word, F_best_word⟩ := D_best_word
  have b_best_word := F_best_word.binds (ps := ["costs", "steps"]) fun _ _ _ _ _ _ us hl => match us, hl with | [_, _], _ => rfl
  obtain ⟨d_least_of_five, F_least_of_five⟩ := D_least_of_five
  have b_least_of_five := F_least_of_five.binds (ps := ["costs"]) fun _ _ _ _ _ _ us hl => match us, hl with | [_], _ => rfl
  obtain ⟨d_least_mean, F_least_mean⟩ := D_least_mean
  have b_least_mean := F_least_mean.binds (ps := ["costs"]) fun _ _ _ _ _ _ us hl => match us, hl with | [_], _ => rfl
  obtain ⟨d_ties_of_five, F_ties_of_five⟩ := D_ties_of_five
  have b_ties_of_five := F_ties_of_five.binds (ps := ["costs"]) fun _ _ _ _ _ _ us hl => match us, hl with | [_], _ => rfl
  obtain ⟨d_is_good, F_is_good⟩ := D_is_good
  have b_is_good := F_is_good.binds (ps := ["costs", "word"]) fun _ _ _ _ _ _ us hl => match us, hl with | [_, _], _ => rfl
  obtain ⟨d_with_step_turned, F_with_step_turned⟩ := D_with_step_turned
  have b_with_step_turned := F_with_step_turned.binds (ps := ["word", "i"]) fun _ _ _ _ _ _ us hl => match us, hl with | [_, _], _ => rfl
  obtain ⟨d_cost_with_step_turned, F_cost_with_step_turned⟩ := D_cost_with_step_turned
  have b_cost_with_step_turned := F_cost_with_step_turned.binds (ps := ["costs", "word", "i"]) fun _ _ _ _ _ _ us hl => match us, hl with | [_, _, _], _ => rfl
  obtain ⟨d_falling_step, F_falling_step⟩ := D_falling_step
  have b_falling_step := F_falling_step.binds (ps := ["costs", "word"]) fun _ _ _ _ _ _ us hl => match us, hl with | [_, _], _ => rfl
  obtain ⟨d_word_at_rest, F_word_at_rest⟩ := D_word_at_rest
  have b_word_at_rest := F_word_at_rest.binds (ps := ["costs", "word"]) fun _ _ _ _ _ _ us hl => match us, hl with | [_, _], _ => rfl
  obtain ⟨d_are_costs, F_are_costs⟩ := D_are_costs
  have b_are_costs := F_are_costs.binds (ps := ["numbers"]) fun _ _ _ _ _ _ us hl => match us, hl with | [_], _ => rfl
  obtain ⟨d_Layers_init, F_Layers_init⟩ := D_Layers_init
  have b_Layers_init := F_Layers_init.binds (ps := ["self"]) fun _ _ _ _ _ _ us hl => match us, hl with | [_], _ => rfl
  obtain ⟨d_Layers_start, F_Layers_start⟩ := D_Layers_start
  have b_Layers_start := F_Layers_start.binds (ps := ["self"]) fun _ _ _ _ _ _ us hl => match us, hl with | [_], _ => rfl
  obtain ⟨d_Layers_change_costs, F_Layers_change_costs⟩ := D_Layers_change_costs
  have b_Layers_change_costs := F_Layers_change_costs.binds (ps := ["self", "numbers"]) fun _ _ _ _ _ _ us hl => match us, hl with | [_, _], _ => rfl
  obtain ⟨d_Layers_turn_over, F_Layers_turn_over⟩ := D_Layers_turn_over
  have b_Layers_turn_over := F_Layers_turn_over.binds (ps := ["self"]) fun _ _ _ _ _ _ us hl => match us, hl with | [_], _ => rfl
  obtain ⟨d_Layers_state, F_Layers_state⟩ := D_Layers_state
  have b_Layers_state := F_Layers_state.binds (ps := ["self"]) fun _ _ _ _ _ _ us hl => match us, hl with | [_], _ => rfl
  obtain ⟨d_Layers_cost, F_Layers_cost⟩ := D_Layers_cost
  have b_Layers_cost := F_Layers_cost.binds (ps := ["self", "word"]) fun _ _ _ _ _ _ us hl => match us, hl with | [_, _], _ => rfl
  obtain ⟨d_Layers_mean, F_Layers_mean⟩ := D_Layers_mean
  have b_Layers_mean := F_Layers_mean.binds (ps := ["self", "word"]) fun _ _ _ _ _ _ us hl => match us, hl with | [_, _], _ => rfl
  obtain ⟨d_Layers_good, F_Layers_good⟩ := D_Layers_good
  have b_Layers_good := F_Layers_good.binds (ps := ["self", "word"]) fun _ _ _ _ _ _ us hl => match us, hl with | [_, _], _ => rfl
  obtain ⟨d_Layers_cheaper, F_Layers_cheaper⟩ := D_Layers_cheaper
  have b_Layers_cheaper := F_Layers_cheaper.binds (ps := ["self", "first", "second"]) fun _ _ _ _ _ _ us hl => match us, hl with | [_, _, _], _ => rfl
  obtain ⟨d_Layers_joined, F_Layers_joined⟩ := D_Layers_joined
  have b_Layers_joined := F_Layers_joined.binds (ps := ["self", "first", "second"]) fun _ _ _ _ _ _ us hl => match us, hl with | [_, _, _], _ => rfl
  obtain ⟨d_Layers_least, F_Layers_least⟩ := D_Layers_least
  have b_Layers_least := F_Layers_least.binds (ps := ["self"]) fun _ _ _ _ _ _ us hl => match us, hl with | [_], _ => rfl
  obtain ⟨d_Layers_ties, F_Layers_ties⟩ := D_Layers_ties
  have b_Layers_ties := F_Layers_ties.binds (ps := ["self"]) fun _ _ _ _ _ _ us hl => match us, hl with | [_], _ => rfl
  obtain ⟨d_Layers_told_word, F_Layers_told_word⟩ := D_Layers_told_word
  have b_Layers_told_word := F_Layers_told_word.binds (ps := ["self", "word"]) fun _ _ _ _ _ _ us hl => match us, hl with | [_, _], _ => rfl
  obtain ⟨d_Layers_word, F_Layers_word⟩ := D_Layers_word
  have b_Layers_word := F_Layers_word.binds (ps := ["self", "k"]) fun _ _ _ _ _ _ us hl => match us, hl with | [_, _], _ => rfl
  obtain ⟨d_Layers_needs, F_Layers_needs⟩ := D_Layers_needs
  have b_Layers_needs := F_Layers_needs.binds (ps := ["self", "k"]) fun _ _ _ _ _ _ us hl => match us, hl with | [_, _], _ => rfl
  obtain ⟨d_Layers_best, F_Layers_best⟩ := D_Layers_best
  have b_Layers_best := F_Layers_best.binds (ps := ["self", "steps"]) fun _ _ _ _ _ _ us hl => match us, hl with | [_, _], _ => rfl
  obtain ⟨d_Layers_turn, F_Layers_turn⟩ := D_Layers_turn
  have b_Layers_turn := F_Layers_turn.binds (ps := ["self", "i", "word"]) fun _ _ _ _ _ _ us hl => match us, hl with | [_, _, _], _ => rfl
  obtain ⟨d_Layers_fall, F_Layers_fall⟩ := D_Layers_fall
  have b_Layers_fall := F_Layers_fall.binds (ps := ["self", "word"]) fun _ _ _ _ _ _ us hl => match us, hl with | [_, _], _ => rfl
  obtain ⟨d_Layers_rest, F_Layers_rest⟩ := D_Layers_rest
  have b_Layers_rest := F_Layers_rest.binds (ps := ["self", "word"]) fun _ _ _ _ _ _ us hl => match us, hl with | [_, _], _ => rfl
  obtain ⟨d_Reader_init, F_Reader_init⟩ := D_Reader_init
  have b_Reader_init := F_Reader_init.binds (ps := ["self", "calls"]) fun _ _ _ _ _ _ us hl => match us, hl with | [_, _], _ => rfl
  obtain ⟨d_Reader_has_more, F_Reader_has_more⟩ := D_Reader_has_more
  have b_Reader_has_more := F_Reader_has_more.binds (ps := ["self"]) fun _ _ _ _ _ _ us hl => match us, hl with | [_], _ => rfl
  obtain ⟨d_Reader_read_numbers, F_Reader_read_numbers⟩ := D_Reader_read_numbers
  have b_Reader_read_numbers := F_Reader_read_numbers.binds (ps := ["self", "how_many"]) fun _ _ _ _ _ _ us hl => match us, hl with | [_, _], _ => rfl
  obtain ⟨d_Reader_read_number, F_Reader_read_number⟩ := D_Reader_read_number
  have b_Reader_read_number := F_Reader_read_number.binds (ps := ["self"]) fun _ _ _ _ _ _ us hl => match us, hl with | [_], _ => rfl
  obtain ⟨d_Reader_read_rows, F_Reader_read_rows⟩ := D_Reader_read_rows
  have b_Reader_read_rows := F_Reader_read_rows.binds (ps := ["self", "how_many"]) fun _ _ _ _ _ _ us hl => match us, hl with | [_, _], _ => rfl
  obtain ⟨d_answer_without_word, F_answer_without_word⟩ := D_answer_without_word
  have b_answer_without_word := F_answer_without_word.binds (ps := ["layers", "call", "numbers"]) fun _ _ _ _ _ _ us hl => match us, hl with | [_, _, _], _ => rfl
  obtain ⟨d_answer_of_word, F_answer_of_word⟩ := D_answer_of_word
  have b_answer_of_word := F_answer_of_word.binds (ps := ["layers", "call", "numbers", "word"]) fun _ _ _ _ _ _ us hl => match us, hl with | [_, _, _, _], _ => rfl
  obtain ⟨d_answer_of_two_words, F_answer_of_two_words⟩ := D_answer_of_two_words
  have b_answer_of_two_words := F_answer_of_two_words.binds (ps := ["layers", "call", "first", "second"]) fun _ _ _ _ _ _ us hl => match us, hl with | [_, _, _, _], _ => rfl
  obtain ⟨d_answer_call, F_answer_call⟩ := D_answer_call
  have b_answer_call := F_answer_call.binds (ps := ["layers", "call", "numbers", "rows"]) fun _ _ _ _ _ _ us hl => match us, hl with | [_, _, _, _], _ => rfl
  obtain ⟨d_answers, F_answers⟩ := D_answers
  have b_answers := F_answers.binds (ps := ["calls"]) fun _ _ _ _ _ _ us hl => match us, hl with | [_], _ => rfl
  have e := hfa.symm.trans (PySem.W.mg_of X G a_answers)
  cases e
  refine ⟨d_answers, fun s us hu => ?_, fun base _ _ => ?_⟩
  · obtain ⟨_, _, _, _, _, _, _, _, _, ed, _, _⟩ := F_answers.ex
    subst ed
    exact match us, hu with | [_], _ => .of_eq rfl
  have o_is_word : FnOk P w K mg base CX0 1 f_is_word d_is_word ["steps"] (spIsWord K) := ok_is_word (F := F_is_word) (T := T) 
  have c_is_word : Cal P w K mg base 1 "is_word" f_is_word d_is_word ["steps"] (spIsWord K) := ⟨o_is_word, PySem.W.mg_of X G a_is_word, F_is_word.kp, b_is_word⟩
  have o_likeness : FnOk P w K mg base CX0 1 f_likeness d_likeness ["word", "apart"] (spLike K) := ok_likeness (F := F_likeness) (T := T) 
  have c_likeness : Cal P w K mg base 1 "likeness" f_likeness d_likeness ["word", "apart"] (spLike K) := ⟨o_likeness, PySem.W.mg_of X G a_likeness, F_likeness.kp, b_likeness⟩
  have o_word_cost : FnOk P w K mg base CX0 2 f_word_cost d_word_cost ["costs", "word"] (spCost K) := ok_word_cost (F := F_word_cost)  (c_likeness := c_likeness)
  have c_word_cost : Cal P w K mg base 2 "word_cost" f_word_cost d_word_cost ["costs", "word"] (spCost K) := ⟨o_word_cost, PySem.W.mg_of X G a_word_cost, F_word_cost.kp, b_word_cost⟩
  have o_common_divisor : FnOk P w K mg base CX0 1 f_common_divisor d_common_divisor ["a", "b"] (spDiv) := ok_common_divisor (F := F_common_divisor)  
  have c_common_divisor : Cal P w K mg base 1 "common_divisor" f_common_divisor d_common_divisor ["a", "b"] (spDiv) := ⟨o_common_divisor, PySem.W.mg_of X G a_common_divisor, F_common_divisor.kp, b_common_divisor⟩
  have o_word_mean : FnOk P w K mg base CX0 3 f_word_mean d_word_mean ["costs", "word"] (spMean K) := ok_word_mean (F := F_word_mean) (T := T) (c_word_cost := c_word_cost) (c_common_divisor := c_common_divisor)
  have c_word_mean : Cal P w K mg base 3 "word_mean" f_word_mean d_word_mean ["costs", "word"] (spMean K) := ⟨o_word_mean, PySem.W.mg_of X G a_word_mean, F_word_mean.kp, b_word_mean⟩
  have o_is_less : FnOk P w K mg base CX0 1 f_is_less d_is_less ["mean", "other"] (spLess K) := ok_is_less (F := F_is_less)  
  have c_is_less : Cal P w K mg base 1 "is_less" f_is_less d_is_less ["mean", "other"] (spLess K) := ⟨o_is_less, PySem.W.mg_of X G a_is_less, F_is_less.kp, b_is_less⟩
  have o_words_in_order : FnOk P w K mg base CX0 1 f_words_in_order d_words_in_order ["steps"] (spOrder K) := ok_words_in_order (F := F_words_in_order) (T := T) 
  have c_words_in_order : Cal P w K mg base 1 "words_in_order" f_words_in_order d_words_in_order ["steps"] (spOrder K) := ⟨o_words_in_order, PySem.W.mg_of X G a_words_in_order, F_words_in_order.kp, b_words_in_order⟩
  have o_best_word : FnOk P w K mg base CX0 3 f_best_word d_best_word ["costs", "steps"] (spBest K) := ok_best_word (F := F_best_word)  (c_word_cost := c_word_cost) (c_words_in_order := c_words_in_order)
  have c_best_word : Cal P w K mg base 3 "best_word" f_best_word d_best_word ["costs", "steps"] (spBest K) := ⟨o_best_word, PySem.W.mg_of X G a_best_word, F_best_word.kp, b_best_word⟩
  have o_least_of_five : FnOk P w K mg base CX0 4 f_least_of_five d_least_of_five ["costs"] (spLeast K) := ok_least_of_five (F := F_least_of_five) (T := T) (T5 := T5) (c_word_mean := c_word_mean) (c_is_less := c_is_less)
  have c_least_of_five : Cal P w K mg base 4 "least_of_five" f_least_of_five d_least_of_five ["costs"] (spLeast K) := ⟨o_least_of_five, PySem.W.mg_of X G a_least_of_five, F_least_of_five.kp, b_least_of_five⟩
  have o_least_mean : FnOk P w K mg base CX0 5 f_least_mean d_least_mean ["costs"] (spLMean K) := ok_least_mean (F := F_least_mean) (T5 := T5) (c_word_mean := c_word_mean) (c_least_of_five := c_least_of_five)
  have c_least_mean : Cal P w K mg base 5 "least_mean" f_least_mean d_least_mean ["costs"] (spLMean K) := ⟨o_least_mean, PySem.W.mg_of X G a_least_mean, F_least_mean.kp, b_least_mean⟩
  have o_ties_of_five : FnOk P w K mg base CX0 6 f_ties_of_five d_ties_of_five ["costs"] (spTies K) := ok_ties_of_five (F := F_ties_of_five) (T := T) (T5 := T5) (c_word_mean := c_word_mean) (c_least_mean := c_least_mean)
  have c_ties_of_five : Cal P w K mg base 6 "ties_of_five" f_ties_of_five d_ties_of_five ["costs"] (spTies K) := ⟨o_ties_of_five, PySem.W.mg_of X G a_ties_of_five, F_ties_of_five.kp, b_ties_of_five⟩
  have o_is_good : FnOk P w K mg base CX0 6 f_is_good d_is_good ["costs", "word"] (spGood K) := ok_is_good (F := F_is_good)  (c_word_mean := c_word_mean) (c_least_mean := c_least_mean) (c_is_less := c_is_less)
  have c_is_good : Cal P w K mg base 6 "is_good" f_is_good d_is_good ["costs", "word"] (spGood K) := ⟨o_is_good, PySem.W.mg_of X G a_is_good, F_is_good.kp, b_is_good⟩
  have o_with_step_turned : FnOk P w K mg base CX0 1 f_with_step_turned d_with_step_turned ["word", "i"] (spTurned K) := ok_with_step_turned (F := F_with_step_turned) (T := T) 
  have c_with_step_turned : Cal P w K mg base 1 "with_step_turned" f_with_step_turned d_with_step_turned ["word", "i"] (spTurned K) := ⟨o_with_step_turned, PySem.W.mg_of X G a_with_step_turned, F_with_step_turned.kp, b_with_step_turned⟩
  have o_cost_with_step_turned : FnOk P w K mg base CX0 3 f_cost_with_step_turned d_cost_with_step_turned ["costs", "word", "i"] (spCostT K) := ok_cost_with_step_turned (F := F_cost_with_step_turned)  (c_word_cost := c_word_cost) (c_with_step_turned := c_with_step_turned)
  have c_cost_with_step_turned : Cal P w K mg base 3 "cost_with_step_turned" f_cost_with_step_turned d_cost_with_step_turned ["costs", "word", "i"] (spCostT K) := ⟨o_cost_with_step_turned, PySem.W.mg_of X G a_cost_with_step_turned, F_cost_with_step_turned.kp, b_cost_with_step_turned⟩
  have o_falling_step : FnOk P w K mg base CX0 4 f_falling_step d_falling_step ["costs", "word"] (spFallS K) := ok_falling_step (F := F_falling_step) (T := T) (c_word_cost := c_word_cost) (c_cost_with_step_turned := c_cost_with_step_turned)
  have c_falling_step : Cal P w K mg base 4 "falling_step" f_falling_step d_falling_step ["costs", "word"] (spFallS K) := ⟨o_falling_step, PySem.W.mg_of X G a_falling_step, F_falling_step.kp, b_falling_step⟩
  have o_word_at_rest : FnOk P w K mg base CX0 5 f_word_at_rest d_word_at_rest ["costs", "word"] (spRestW K) := ok_word_at_rest (F := F_word_at_rest) (T := T) (c_with_step_turned := c_with_step_turned) (c_falling_step := c_falling_step)
  have c_word_at_rest : Cal P w K mg base 5 "word_at_rest" f_word_at_rest d_word_at_rest ["costs", "word"] (spRestW K) := ⟨o_word_at_rest, PySem.W.mg_of X G a_word_at_rest, F_word_at_rest.kp, b_word_at_rest⟩
  have o_are_costs : FnOk P w K mg base CX0 1 f_are_costs d_are_costs ["numbers"] (spAre K) := ok_are_costs (F := F_are_costs) (T := T) 
  have c_are_costs : Cal P w K mg base 1 "are_costs" f_are_costs d_are_costs ["numbers"] (spAre K) := ⟨o_are_costs, PySem.W.mg_of X G a_are_costs, F_are_costs.kp, b_are_costs⟩
  have o_Layers_init : FnOk P w K mg base CX0 1 f_Layers_init d_Layers_init ["self"] (spInitL K C_Layers) := ok_Layers_init (F := F_Layers_init) (T_Layers := T_Layers) 
  have c_Layers_init : CalI P w K mg base 1 f_Layers_init d_Layers_init ["self"] (spInitL K C_Layers) := ⟨o_Layers_init, b_Layers_init⟩
  have o_Layers_start : FnOk P w K mg base CX0 1 f_Layers_start d_Layers_start ["self"] (spStart K C_Layers) := ok_Layers_start (F := F_Layers_start) (T_Layers := T_Layers) 
  have c_Layers_start : CalM P w K mg base 1 C_Layers "start" f_Layers_start d_Layers_start ["self"] (spStart K C_Layers) := ⟨o_Layers_start, ⟨a_Layers_start, i_Layers_start, F_Layers_start.kp⟩, b_Layers_start⟩
  have o_Layers_change_costs : FnOk P w K mg base CX0 2 f_Layers_change_costs d_Layers_change_costs ["self", "numbers"] (spChange K C_Layers) := ok_Layers_change_costs (F := F_Layers_change_costs) (T := T) (T_Layers := T_Layers) (c_are_costs := c_are_costs)
  have c_Layers_change_costs : CalM P w K mg base 2 C_Layers "change_costs" f_Layers_change_costs d_Layers_change_costs ["self", "numbers"] (spChange K C_Layers) := ⟨o_Layers_change_costs, ⟨a_Layers_change_costs, i_Layers_change_costs, F_Layers_change_costs.kp⟩, b_Layers_change_costs⟩
  have o_Layers_turn_over : FnOk P w K mg base CX0 1 f_Layers_turn_over d_Layers_turn_over ["self"] (spOver K C_Layers) := ok_Layers_turn_over (F := F_Layers_turn_over) (T_Layers := T_Layers) 
  have c_Layers_turn_over : CalM P w K mg base 1 C_Layers "turn_over" f_Layers_turn_over d_Layers_turn_over ["self"] (spOver K C_Layers) := ⟨o_Layers_turn_over, ⟨a_Layers_turn_over, i_Layers_turn_over, F_Layers_turn_over.kp⟩, b_Layers_turn_over⟩
  have o_Layers_state : FnOk P w K mg base CX0 1 f_Layers_state d_Layers_state ["self"] (spRead K C_Layers (rdNo .state)) := ok_Layers_state (F := F_Layers_state) (T := T) (T_Layers := T_Layers) 
  have c_Layers_state : CalM P w K mg base 1 C_Layers "state" f_Layers_state d_Layers_state ["self"] (spRead K C_Layers (rdNo .state)) := ⟨o_Layers_state, ⟨a_Layers_state, i_Layers_state, F_Layers_state.kp⟩, b_Layers_state⟩
  have o_Layers_cost : FnOk P w K mg base CX0 3 f_Layers_cost d_Layers_cost ["self", "word"] (spRead K C_Layers (rdWord .cost)) := ok_Layers_cost (F := F_Layers_cost) (T_Layers := T_Layers) (c_word_cost := c_word_cost)
  have c_Layers_cost : CalM P w K mg base 3 C_Layers "cost" f_Layers_cost d_Layers_cost ["self", "word"] (spRead K C_Layers (rdWord .cost)) := ⟨o_Layers_cost, ⟨a_Layers_cost, i_Layers_cost, F_Layers_cost.kp⟩, b_Layers_cost⟩
  have o_Layers_mean : FnOk P w K mg base CX0 4 f_Layers_mean d_Layers_mean ["self", "word"] (spRead K C_Layers (rdWord .mean)) := ok_Layers_mean (F := F_Layers_mean) (T := T) (T_Layers := T_Layers) (c_word_mean := c_word_mean)
  have c_Layers_mean : CalM P w K mg base 4 C_Layers "mean" f_Layers_mean d_Layers_mean ["self", "word"] (spRead K C_Layers (rdWord .mean)) := ⟨o_Layers_mean, ⟨a_Layers_mean, i_Layers_mean, F_Layers_mean.kp⟩, b_Layers_mean⟩
  have o_Layers_good : FnOk P w K mg base CX0 7 f_Layers_good d_Layers_good ["self", "word"] (spRead K C_Layers (rdWord .good)) := ok_Layers_good (F := F_Layers_good) (T_Layers := T_Layers) (c_is_good := c_is_good)
  have c_Layers_good : CalM P w K mg base 7 C_Layers "good" f_Layers_good d_Layers_good ["self", "word"] (spRead K C_Layers (rdWord .good)) := ⟨o_Layers_good, ⟨a_Layers_good, i_Layers_good, F_Layers_good.kp⟩, b_Layers_good⟩
  have o_Layers_cheaper : FnOk P w K mg base CX0 4 f_Layers_cheaper d_Layers_cheaper ["self", "first", "second"] (spRead K C_Layers (rdTwo .cheaper)) := ok_Layers_cheaper (F := F_Layers_cheaper) (T_Layers := T_Layers) (c_word_mean := c_word_mean) (c_is_less := c_is_less)
  have c_Layers_cheaper : CalM P w K mg base 4 C_Layers "cheaper" f_Layers_cheaper d_Layers_cheaper ["self", "first", "second"] (spRead K C_Layers (rdTwo .cheaper)) := ⟨o_Layers_cheaper, ⟨a_Layers_cheaper, i_Layers_cheaper, F_Layers_cheaper.kp⟩, b_Layers_cheaper⟩
  have o_Layers_joined : FnOk P w K mg base CX0 3 f_Layers_joined d_Layers_joined ["self", "first", "second"] (spRead K C_Layers (rdTwo .joined)) := ok_Layers_joined (F := F_Layers_joined) (T := T) (T_Layers := T_Layers) (c_is_word := c_is_word) (c_word_cost := c_word_cost)
  have c_Layers_joined : CalM P w K mg base 3 C_Layers "joined" f_Layers_joined d_Layers_joined ["self", "first", "second"] (spRead K C_Layers (rdTwo .joined)) := ⟨o_Layers_joined, ⟨a_Layers_joined, i_Layers_joined, F_Layers_joined.kp⟩, b_Layers_joined⟩
  have o_Layers_least : FnOk P w K mg base CX0 6 f_Layers_least d_Layers_least ["self"] (spRead K C_Layers (rdNo .least)) := ok_Layers_least (F := F_Layers_least) (T := T) (T_Layers := T_Layers) (c_least_of_five := c_least_of_five) (c_least_mean := c_least_mean)
  have c_Layers_least : CalM P w K mg base 6 C_Layers "least" f_Layers_least d_Layers_least ["self"] (spRead K C_Layers (rdNo .least)) := ⟨o_Layers_least, ⟨a_Layers_least, i_Layers_least, F_Layers_least.kp⟩, b_Layers_least⟩
  have o_Layers_ties : FnOk P w K mg base CX0 7 f_Layers_ties d_Layers_ties ["self"] (spRead K C_Layers (rdNo .ties)) := ok_Layers_ties (F := F_Layers_ties) (T := T) (T_Layers := T_Layers) (c_ties_of_five := c_ties_of_five)
  have c_Layers_ties : CalM P w K mg base 7 C_Layers "ties" f_Layers_ties d_Layers_ties ["self"] (spRead K C_Layers (rdNo .ties)) := ⟨o_Layers_ties, ⟨a_Layers_ties, i_Layers_ties, F_Layers_ties.kp⟩, b_Layers_ties⟩
  have o_Layers_told_word : FnOk P w K mg base CX0 4 f_Layers_told_word d_Layers_told_word ["self", "word"] (spToldW K C_Layers) := ok_Layers_told_word (F := F_Layers_told_word) (T := T) (T_Layers := T_Layers) (c_word_mean := c_word_mean)
  have c_Layers_told_word : CalM P w K mg base 4 C_Layers "told_word" f_Layers_told_word d_Layers_told_word ["self", "word"] (spToldW K C_Layers) := ⟨o_Layers_told_word, ⟨a_Layers_told_word, i_Layers_told_word, F_Layers_told_word.kp⟩, b_Layers_told_word⟩
  have o_Layers_word : FnOk P w K mg base CX0 5 f_Layers_word d_Layers_word ["self", "k"] (spRead K C_Layers (rdNum .word)) := ok_Layers_word (F := F_Layers_word) (T := T) (T5 := T5) (T_Layers := T_Layers) (c_Layers_told_word := c_Layers_told_word)
  have c_Layers_word : CalM P w K mg base 5 C_Layers "word" f_Layers_word d_Layers_word ["self", "k"] (spRead K C_Layers (rdNum .word)) := ⟨o_Layers_word, ⟨a_Layers_word, i_Layers_word, F_Layers_word.kp⟩, b_Layers_word⟩
  have o_Layers_needs : FnOk P w K mg base CX0 1 f_Layers_needs d_Layers_needs ["self", "k"] (spRead K C_Layers (rdNum .needs)) := ok_Layers_needs (F := F_Layers_needs) (T := T) (T5 := T5) (TN := TN) 
  have c_Layers_needs : CalM P w K mg base 1 C_Layers "needs" f_Layers_needs d_Layers_needs ["self", "k"] (spRead K C_Layers (rdNum .needs)) := ⟨o_Layers_needs, ⟨a_Layers_needs, i_Layers_needs, F_Layers_needs.kp⟩, b_Layers_needs⟩
  have o_Layers_best : FnOk P w K mg base CX0 5 f_Layers_best d_Layers_best ["self", "steps"] (spRead K C_Layers (rdNum .best)) := ok_Layers_best (F := F_Layers_best) (T := T) (T_Layers := T_Layers) (c_best_word := c_best_word) (c_Layers_told_word := c_Layers_told_word)
  have c_Layers_best : CalM P w K mg base 5 C_Layers "best" f_Layers_best d_Layers_best ["self", "steps"] (spRead K C_Layers (rdNum .best)) := ⟨o_Layers_best, ⟨a_Layers_best, i_Layers_best, F_Layers_best.kp⟩, b_Layers_best⟩
  have o_Layers_turn : FnOk P w K mg base CX0 4 f_Layers_turn d_Layers_turn ["self", "i", "word"] (spRead K C_Layers (rdTurn)) := ok_Layers_turn (F := F_Layers_turn) (T := T) (T_Layers := T_Layers) (c_cost_with_step_turned := c_cost_with_step_turned) (c_word_cost := c_word_cost)
  have c_Layers_turn : CalM P w K mg base 4 C_Layers "turn" f_Layers_turn d_Layers_turn ["self", "i", "word"] (spRead K C_Layers (rdTurn)) := ⟨o_Layers_turn, ⟨a_Layers_turn, i_Layers_turn, F_Layers_turn.kp⟩, b_Layers_turn⟩
  have o_Layers_fall : FnOk P w K mg base CX0 5 f_Layers_fall d_Layers_fall ["self", "word"] (spRead K C_Layers (rdWord .fall)) := ok_Layers_fall (F := F_Layers_fall) (T := T) (T_Layers := T_Layers) (c_cost_with_step_turned := c_cost_with_step_turned) (c_falling_step := c_falling_step)
  have c_Layers_fall : CalM P w K mg base 5 C_Layers "fall" f_Layers_fall d_Layers_fall ["self", "word"] (spRead K C_Layers (rdWord .fall)) := ⟨o_Layers_fall, ⟨a_Layers_fall, i_Layers_fall, F_Layers_fall.kp⟩, b_Layers_fall⟩
  have o_Layers_rest : FnOk P w K mg base CX0 6 f_Layers_rest d_Layers_rest ["self", "word"] (spRead K C_Layers (rdWord .rest)) := ok_Layers_rest (F := F_Layers_rest) (T := T) (T_Layers := T_Layers) (c_word_at_rest := c_word_at_rest) (c_word_cost := c_word_cost)
  have c_Layers_rest : CalM P w K mg base 6 C_Layers "rest" f_Layers_rest d_Layers_rest ["self", "word"] (spRead K C_Layers (rdWord .rest)) := ⟨o_Layers_rest, ⟨a_Layers_rest, i_Layers_rest, F_Layers_rest.kp⟩, b_Layers_rest⟩
  have o_Reader_init : FnOk P w K mg base CX0 1 f_Reader_init d_Reader_init ["self", "calls"] (spInitR C_Reader) := ok_Reader_init (F := F_Reader_init) (T_Reader := T_Reader) 
  have c_Reader_init : CalI P w K mg base 1 f_Reader_init d_Reader_init ["self", "calls"] (spInitR C_Reader) := ⟨o_Reader_init, b_Reader_init⟩
  have o_Reader_has_more : FnOk P w K mg base CX0 1 f_Reader_has_more d_Reader_has_more ["self"] (spMore K C_Reader) := ok_Reader_has_more (F := F_Reader_has_more) (T := T) (T_Reader := T_Reader) 
  have c_Reader_has_more : CalM P w K mg base 1 C_Reader "has_more" f_Reader_has_more d_Reader_has_more ["self"] (spMore K C_Reader) := ⟨o_Reader_has_more, ⟨a_Reader_has_more, i_Reader_has_more, F_Reader_has_more.kp⟩, b_Reader_has_more⟩
  have o_Reader_read_numbers : FnOk P w K mg base CX0 1 f_Reader_read_numbers d_Reader_read_numbers ["self", "how_many"] (spNums K C_Reader) := ok_Reader_read_numbers (F := F_Reader_read_numbers) (T_Reader := T_Reader) 
  have c_Reader_read_numbers : CalM P w K mg base 1 C_Reader "read_numbers" f_Reader_read_numbers d_Reader_read_numbers ["self", "how_many"] (spNums K C_Reader) := ⟨o_Reader_read_numbers, ⟨a_Reader_read_numbers, i_Reader_read_numbers, F_Reader_read_numbers.kp⟩, b_Reader_read_numbers⟩
  have o_Reader_read_number : FnOk P w K mg base CX0 2 f_Reader_read_number d_Reader_read_number ["self"] (spNum K C_Reader) := ok_Reader_read_number (F := F_Reader_read_number) (T_Reader := T_Reader) (c_Reader_read_numbers := c_Reader_read_numbers)
  have c_Reader_read_number : CalM P w K mg base 2 C_Reader "read_number" f_Reader_read_number d_Reader_read_number ["self"] (spNum K C_Reader) := ⟨o_Reader_read_number, ⟨a_Reader_read_number, i_Reader_read_number, F_Reader_read_number.kp⟩, b_Reader_read_number⟩
  have o_Reader_read_rows : FnOk P w K mg base CX0 3 f_Reader_read_rows d_Reader_read_rows ["self", "how_many"] (spRows K C_Reader) := ok_Reader_read_rows (F := F_Reader_read_rows) (T := T) (T_Reader := T_Reader) (c_Reader_read_numbers := c_Reader_read_numbers) (c_Reader_read_number := c_Reader_read_number)
  have c_Reader_read_rows : CalM P w K mg base 3 C_Reader "read_rows" f_Reader_read_rows d_Reader_read_rows ["self", "how_many"] (spRows K C_Reader) := ⟨o_Reader_read_rows, ⟨a_Reader_read_rows, i_Reader_read_rows, F_Reader_read_rows.kp⟩, b_Reader_read_rows⟩
  have o_answer_without_word : FnOk P w K mg base CX0 8 f_answer_without_word d_answer_without_word ["layers", "call", "numbers"] (spNoWord K C_Layers) := ok_answer_without_word (F := F_answer_without_word) (T := T) (T_Layers := T_Layers) (c_Layers_change_costs := c_Layers_change_costs) (c_Layers_least := c_Layers_least) (c_Layers_word := c_Layers_word) (c_Layers_ties := c_Layers_ties) (c_Layers_best := c_Layers_best) (c_Layers_needs := c_Layers_needs) (c_Layers_turn_over := c_Layers_turn_over) (c_Layers_state := c_Layers_state)
  have c_answer_without_word : Cal P w K mg base 8 "answer_without_word" f_answer_without_word d_answer_without_word ["layers", "call", "numbers"] (spNoWord K C_Layers) := ⟨o_answer_without_word, PySem.W.mg_of X G a_answer_without_word, F_answer_without_word.kp, b_answer_without_word⟩
  have o_answer_of_word : FnOk P w K mg base CX0 8 f_answer_of_word d_answer_of_word ["layers", "call", "numbers", "word"] (spOneWord K C_Layers) := ok_answer_of_word (F := F_answer_of_word) (T := T) (T_Layers := T_Layers) (c_Layers_cost := c_Layers_cost) (c_Layers_mean := c_Layers_mean) (c_Layers_good := c_Layers_good) (c_Layers_turn := c_Layers_turn) (c_Layers_fall := c_Layers_fall) (c_Layers_rest := c_Layers_rest)
  have c_answer_of_word : Cal P w K mg base 8 "answer_of_word" f_answer_of_word d_answer_of_word ["layers", "call", "numbers", "word"] (spOneWord K C_Layers) := ⟨o_answer_of_word, PySem.W.mg_of X G a_answer_of_word, F_answer_of_word.kp, b_answer_of_word⟩
  have o_answer_of_two_words : FnOk P w K mg base CX0 5 f_answer_of_two_words d_answer_of_two_words ["layers", "call", "first", "second"] (spTwoWords K C_Layers) := ok_answer_of_two_words (F := F_answer_of_two_words) (T := T) (T_Layers := T_Layers) (c_Layers_cheaper := c_Layers_cheaper) (c_Layers_joined := c_Layers_joined)
  have c_answer_of_two_words : Cal P w K mg base 5 "answer_of_two_words" f_answer_of_two_words d_answer_of_two_words ["layers", "call", "first", "second"] (spTwoWords K C_Layers) := ⟨o_answer_of_two_words, PySem.W.mg_of X G a_answer_of_two_words, F_answer_of_two_words.kp, b_answer_of_two_words⟩
  have o_answer_call : FnOk P w K mg base CX0 9 f_answer_call d_answer_call ["layers", "call", "numbers", "rows"] (spAnswer K C_Layers) := ok_answer_call (F := F_answer_call) (T := T) (T_Layers := T_Layers) (c_Layers_start := c_Layers_start) (c_is_word := c_is_word) (c_answer_without_word := c_answer_without_word) (c_answer_of_word := c_answer_of_word) (c_answer_of_two_words := c_answer_of_two_words)
  have c_answer_call : Cal P w K mg base 9 "answer_call" f_answer_call d_answer_call ["layers", "call", "numbers", "rows"] (spAnswer K C_Layers) := ⟨o_answer_call, PySem.W.mg_of X G a_answer_call, F_answer_call.kp, b_answer_call⟩
  have o_answers : FnOk P w K mg base CX0 10 fa d_answers ["calls"] (spAnswers K) := ok_answers (F := F_answers) (T := T) (TS := TS) (T_Layers := T_Layers) (T_Reader := T_Reader) (c_Layers_init := c_Layers_init) (c_Reader_init := c_Reader_init) (c_Reader_has_more := c_Reader_has_more) (c_Reader_read_number := c_Reader_read_number) (c_Reader_read_numbers := c_Reader_read_numbers) (c_Reader_read_rows := c_Reader_read_rows) (c_answer_call := c_answer_call)
  exact o_answers
end LC
open PySem PySem.W PyProof.Rows
set_option maxRecDepth 100000 in
set_option maxHeartbeats 0 in
theorem PySem.Challenge.cw_layercosts_s01_answers_holds : PySem.Challenge.rw_layercosts_s01_answers.Holds := by
  w_on; k_headS; (case hw => exact ⟨[.list [.int 0]], by decide +kernel, by decide +kernel⟩)
  k_fillS
  refine L2.walk_specK (r := PySem.Challenge.rw_layercosts_s01_answers) (k := 10) (CX := L2.CX0) (ps := ["calls"]) (sp := LC.spAnswers) (by decide +kernel) rfl rfl ⟨rfl, by decide, by decide⟩ (fun w h Y => PySem.W.kIn_of Y) ?F ?S (fun _ _ _ _ z => z)
  case F =>
    intro w mg fa h Y KX G hmg
    refine' LC.all_mk KX G hmg ?aC_Layers ?pg_Layers ?hd_Layers ?po_Layers ?sa_Layers ?mk_Layers ?kc_Layers ?n_Layers_started ?n_Layers_costs ?aC_Reader ?pg_Reader ?hd_Reader ?po_Reader ?sa_Reader ?mk_Reader ?kc_Reader ?n_Reader_calls ?n_Reader_place ?a_is_word ?D_is_word ?a_likeness ?D_likeness ?a_word_cost ?D_word_cost ?a_common_divisor ?D_common_divisor ?a_word_mean ?D_word_mean ?a_is_less ?D_is_less ?a_words_in_order ?D_words_in_order ?a_best_word ?D_best_word ?a_least_of_five ?D_least_of_five ?a_least_mean ?D_least_mean ?a_ties_of_five ?D_ties_of_five ?a_is_good ?D_is_good ?a_with_step_turned ?D_with_step_turned ?a_cost_with_step_turned ?D_cost_with_step_turned ?a_falling_step ?D_falling_step ?a_word_at_rest ?D_word_at_rest ?a_are_costs ?D_are_costs ?a_Layers_init ?i_Layers_init ?D_Layers_init ?a_Layers_start ?i_Layers_start ?D_Layers_start ?a_Layers_change_costs ?i_Layers_change_costs ?D_Layers_change_costs ?a_Layers_turn_over ?i_Layers_turn_over ?D_Layers_turn_over ?a_Layers_state ?i_Layers_state ?D_Layers_state ?a_Layers_cost ?i_Layers_cost ?D_Layers_cost ?a_Layers_mean ?i_Layers_mean ?D_Layers_mean ?a_Layers_good ?i_Layers_good ?D_Layers_good ?a_Layers_cheaper ?i_Layers_cheaper ?D_Layers_cheaper ?a_Layers_joined ?i_Layers_joined ?D_Layers_joined ?a_Layers_least ?i_Layers_least ?D_Layers_least ?a_Layers_ties ?i_Layers_ties ?D_Layers_ties ?a_Layers_told_word ?i_Layers_told_word ?D_Layers_told_word ?a_Layers_word ?i_Layers_word ?D_Layers_word ?a_Layers_needs ?i_Layers_needs ?D_Layers_needs ?a_Layers_best ?i_Layers_best ?D_Layers_best ?a_Layers_turn ?i_Layers_turn ?D_Layers_turn ?a_Layers_fall ?i_Layers_fall ?D_Layers_fall ?a_Layers_rest ?i_Layers_rest ?D_Layers_rest ?a_Reader_init ?i_Reader_init ?D_Reader_init ?a_Reader_has_more ?i_Reader_has_more ?D_Reader_has_more ?a_Reader_read_numbers ?i_Reader_read_numbers ?D_Reader_read_numbers ?a_Reader_read_number ?i_Reader_read_number ?D_Reader_read_number ?a_Reader_read_rows ?i_Reader_read_rows ?D_Reader_read_rows ?a_answer_without_word ?D_answer_without_word ?a_answer_of_word ?D_answer_of_word ?a_answer_of_two_words ?D_answer_of_two_words ?a_answer_call ?D_answer_call ?a_answers ?D_answers ?z_len ?z_range ?z_abs ?z_list ?z_tuple ?g_MOST_STEPS ?g_START ?g_COSTS ?g_COST ?g_MEAN ?g_LEAST ?g_WORD ?g_TIES ?g_BEST ?g_GOOD ?g_CHEAPER ?g_TURN ?g_FALL ?g_NEEDS ?g_TURNED_OVER ?g_NOT_STARTED ?g_NOT_RIGHT ?g_NONE_SUCH ?g_AT_REST ?g_MOST_COST ?g_MOST_BEST_STEPS ?g_FIVE ?s_FIVE ?sa_FIVE_0 ?sa_FIVE_1 ?sa_FIVE_2 ?sa_FIVE_3 ?sa_FIVE_4 ?g_NEEDED_COSTS ?s_NEEDED_COSTS ?sa_NEEDED_COSTS_0 ?sa_NEEDED_COSTS_1 ?sa_NEEDED_COSTS_2 ?sa_NEEDED_COSTS_3 ?sa_NEEDED_COSTS_4 ?g_SHAPES ?s_SHAPES ?sa_SHAPES_0 ?sa_SHAPES_1 ?sa_SHAPES_2 ?sa_SHAPES_3 ?sa_SHAPES_4 ?sa_SHAPES_5 ?sa_SHAPES_6 ?sa_SHAPES_7 ?sa_SHAPES_8 ?sa_SHAPES_9 ?sa_SHAPES_10 ?sa_SHAPES_11 ?sa_SHAPES_12 ?sa_SHAPES_13 ?sa_SHAPES_14 ?sa_SHAPES_15 ?sa_SHAPES_16
    (case aC_Layers => k_is)
    (case pg_Layers => k_is)
    (case hd_Layers => k_is)
    (case po_Layers => k_is)
    (case sa_Layers => k_is)
    (case mk_Layers => k_is)
    (case kc_Layers => k_is)
    (case n_Layers_started => k_is)
    (case n_Layers_costs => k_is)
    (case aC_Reader => k_is)
    (case pg_Reader => k_is)
    (case hd_Reader => k_is)
    (case po_Reader => k_is)
    (case sa_Reader => k_is)
    (case mk_Reader => k_is)
    (case kc_Reader => k_is)
    (case n_Reader_calls => k_is)
    (case n_Reader_place => k_is)
    (case a_is_word => k_is)
    (case D_is_word => (refine' ⟨_, L2.fun_mk ?l ?c ?k⟩; (case l => k_is); (case c => k_is); (case k => k_is)))
    (case a_likeness => k_is)
    (case D_likeness => (refine' ⟨_, L2.fun_mk ?l ?c ?k⟩; (case l => k_is); (case c => k_is); (case k => k_is)))
    (case a_word_cost => k_is)
    (case D_word_cost => (refine' ⟨_, L2.fun_mk ?l ?c ?k⟩; (case l => k_is); (case c => k_is); (case k => k_is)))
    (case a_common_divisor => k_is)
    (case D_common_divisor => (refine' ⟨_, L2.fun_mk ?l ?c ?k⟩; (case l => k_is); (case c => k_is); (case k => k_is)))
    (case a_word_mean => k_is)
    (case D_word_mean => (refine' ⟨_, L2.fun_mk ?l ?c ?k⟩; (case l => k_is); (case c => k_is); (case k => k_is)))
    (case a_is_less => k_is)
    (case D_is_less => (refine' ⟨_, L2.fun_mk ?l ?c ?k⟩; (case l => k_is); (case c => k_is); (case k => k_is)))
    (case a_words_in_order => k_is)
    (case D_words_in_order => (refine' ⟨_, L2.fun_mk ?l ?c ?k⟩; (case l => k_is); (case c => k_is); (case k => k_is)))
    (case a_best_word => k_is)
    (case D_best_word => (refine' ⟨_, L2.fun_mk ?l ?c ?k⟩; (case l => k_is); (case c => k_is); (case k => k_is)))
    (case a_least_of_five => k_is)
    (case D_least_of_five => (refine' ⟨_, L2.fun_mk ?l ?c ?k⟩; (case l => k_is); (case c => k_is); (case k => k_is)))
    (case a_least_mean => k_is)
    (case D_least_mean => (refine' ⟨_, L2.fun_mk ?l ?c ?k⟩; (case l => k_is); (case c => k_is); (case k => k_is)))
    (case a_ties_of_five => k_is)
    (case D_ties_of_five => (refine' ⟨_, L2.fun_mk ?l ?c ?k⟩; (case l => k_is); (case c => k_is); (case k => k_is)))
    (case a_is_good => k_is)
    (case D_is_good => (refine' ⟨_, L2.fun_mk ?l ?c ?k⟩; (case l => k_is); (case c => k_is); (case k => k_is)))
    (case a_with_step_turned => k_is)
    (case D_with_step_turned => (refine' ⟨_, L2.fun_mk ?l ?c ?k⟩; (case l => k_is); (case c => k_is); (case k => k_is)))
    (case a_cost_with_step_turned => k_is)
    (case D_cost_with_step_turned => (refine' ⟨_, L2.fun_mk ?l ?c ?k⟩; (case l => k_is); (case c => k_is); (case k => k_is)))
    (case a_falling_step => k_is)
    (case D_falling_step => (refine' ⟨_, L2.fun_mk ?l ?c ?k⟩; (case l => k_is); (case c => k_is); (case k => k_is)))
    (case a_word_at_rest => k_is)
    (case D_word_at_rest => (refine' ⟨_, L2.fun_mk ?l ?c ?k⟩; (case l => k_is); (case c => k_is); (case k => k_is)))
    (case a_are_costs => k_is)
    (case D_are_costs => (refine' ⟨_, L2.fun_mk ?l ?c ?k⟩; (case l => k_is); (case c => k_is); (case k => k_is)))
    (case a_Layers_init => k_is)
    (case i_Layers_init => k_is)
    (case D_Layers_init => (refine' ⟨_, L2.fun_mk ?l ?c ?k⟩; (case l => k_is); (case c => k_is); (case k => k_is)))
    (case a_Layers_start => k_is)
    (case i_Layers_start => k_is)
    (case D_Layers_start => (refine' ⟨_, L2.fun_mk ?l ?c ?k⟩; (case l => k_is); (case c => k_is); (case k => k_is)))
    (case a_Layers_change_costs => k_is)
    (case i_Layers_change_costs => k_is)
    (case D_Layers_change_costs => (refine' ⟨_, L2.fun_mk ?l ?c ?k⟩; (case l => k_is); (case c => k_is); (case k => k_is)))
    (case a_Layers_turn_over => k_is)
    (case i_Layers_turn_over => k_is)
    (case D_Layers_turn_over => (refine' ⟨_, L2.fun_mk ?l ?c ?k⟩; (case l => k_is); (case c => k_is); (case k => k_is)))
    (case a_Layers_state => k_is)
    (case i_Layers_state => k_is)
    (case D_Layers_state => (refine' ⟨_, L2.fun_mk ?l ?c ?k⟩; (case l => k_is); (case c => k_is); (case k => k_is)))
    (case a_Layers_cost => k_is)
    (case i_Layers_cost => k_is)
    (case D_Layers_cost => (refine' ⟨_, L2.fun_mk ?l ?c ?k⟩; (case l => k_is); (case c => k_is); (case k => k_is)))
    (case a_Layers_mean => k_is)
    (case i_Layers_mean => k_is)
    (case D_Layers_mean => (refine' ⟨_, L2.fun_mk ?l ?c ?k⟩; (case l => k_is); (case c => k_is); (case k => k_is)))
    (case a_Layers_good => k_is)
    (case i_Layers_good => k_is)
    (case D_Layers_good => (refine' ⟨_, L2.fun_mk ?l ?c ?k⟩; (case l => k_is); (case c => k_is); (case k => k_is)))
    (case a_Layers_cheaper => k_is)
    (case i_Layers_cheaper => k_is)
    (case D_Layers_cheaper => (refine' ⟨_, L2.fun_mk ?l ?c ?k⟩; (case l => k_is); (case c => k_is); (case k => k_is)))
    (case a_Layers_joined => k_is)
    (case i_Layers_joined => k_is)
    (case D_Layers_joined => (refine' ⟨_, L2.fun_mk ?l ?c ?k⟩; (case l => k_is); (case c => k_is); (case k => k_is)))
    (case a_Layers_least => k_is)
    (case i_Layers_least => k_is)
    (case D_Layers_least => (refine' ⟨_, L2.fun_mk ?l ?c ?k⟩; (case l => k_is); (case c => k_is); (case k => k_is)))
    (case a_Layers_ties => k_is)
    (case i_Layers_ties => k_is)
    (case D_Layers_ties => (refine' ⟨_, L2.fun_mk ?l ?c ?k⟩; (case l => k_is); (case c => k_is); (case k => k_is)))
    (case a_Layers_told_word => k_is)
    (case i_Layers_told_word => k_is)
    (case D_Layers_told_word => (refine' ⟨_, L2.fun_mk ?l ?c ?k⟩; (case l => k_is); (case c => k_is); (case k => k_is)))
    (case a_Layers_word => k_is)
    (case i_Layers_word => k_is)
    (case D_Layers_word => (refine' ⟨_, L2.fun_mk ?l ?c ?k⟩; (case l => k_is); (case c => k_is); (case k => k_is)))
    (case a_Layers_needs => k_is)
    (case i_Layers_needs => k_is)
    (case D_Layers_needs => (refine' ⟨_, L2.fun_mk ?l ?c ?k⟩; (case l => k_is); (case c => k_is); (case k => k_is)))
    (case a_Layers_best => k_is)
    (case i_Layers_best => k_is)
    (case D_Layers_best => (refine' ⟨_, L2.fun_mk ?l ?c ?k⟩; (case l => k_is); (case c => k_is); (case k => k_is)))
    (case a_Layers_turn => k_is)
    (case i_Layers_turn => k_is)
    (case D_Layers_turn => (refine' ⟨_, L2.fun_mk ?l ?c ?k⟩; (case l => k_is); (case c => k_is); (case k => k_is)))
    (case a_Layers_fall => k_is)
    (case i_Layers_fall => k_is)
    (case D_Layers_fall => (refine' ⟨_, L2.fun_mk ?l ?c ?k⟩; (case l => k_is); (case c => k_is); (case k => k_is)))
    (case a_Layers_rest => k_is)
    (case i_Layers_rest => k_is)
    (case D_Layers_rest => (refine' ⟨_, L2.fun_mk ?l ?c ?k⟩; (case l => k_is); (case c => k_is); (case k => k_is)))
    (case a_Reader_init => k_is)
    (case i_Reader_init => k_is)
    (case D_Reader_init => (refine' ⟨_, L2.fun_mk ?l ?c ?k⟩; (case l => k_is); (case c => k_is); (case k => k_is)))
    (case a_Reader_has_more => k_is)
    (case i_Reader_has_more => k_is)
    (case D_Reader_has_more => (refine' ⟨_, L2.fun_mk ?l ?c ?k⟩; (case l => k_is); (case c => k_is); (case k => k_is)))
    (case a_Reader_read_numbers => k_is)
    (case i_Reader_read_numbers => k_is)
    (case D_Reader_read_numbers => (refine' ⟨_, L2.fun_mk ?l ?c ?k⟩; (case l => k_is); (case c => k_is); (case k => k_is)))
    (case a_Reader_read_number => k_is)
    (case i_Reader_read_number => k_is)
    (case D_Reader_read_number => (refine' ⟨_, L2.fun_mk ?l ?c ?k⟩; (case l => k_is); (case c => k_is); (case k => k_is)))
    (case a_Reader_read_rows => k_is)
    (case i_Reader_read_rows => k_is)
    (case D_Reader_read_rows => (refine' ⟨_, L2.fun_mk ?l ?c ?k⟩; (case l => k_is); (case c => k_is); (case k => k_is)))
    (case a_answer_without_word => k_is)
    (case D_answer_without_word => (refine' ⟨_, L2.fun_mk ?l ?c ?k⟩; (case l => k_is); (case c => k_is); (case k => k_is)))
    (case a_answer_of_word => k_is)
    (case D_answer_of_word => (refine' ⟨_, L2.fun_mk ?l ?c ?k⟩; (case l => k_is); (case c => k_is); (case k => k_is)))
    (case a_answer_of_two_words => k_is)
    (case D_answer_of_two_words => (refine' ⟨_, L2.fun_mk ?l ?c ?k⟩; (case l => k_is); (case c => k_is); (case k => k_is)))
    (case a_answer_call => k_is)
    (case D_answer_call => (refine' ⟨_, L2.fun_mk ?l ?c ?k⟩; (case l => k_is); (case c => k_is); (case k => k_is)))
    (case a_answers => k_is)
    (case D_answers => (refine' ⟨_, L2.fun_mk ?l ?c ?k⟩; (case l => k_is); (case c => k_is); (case k => k_is)))
    (case z_len => k_is)
    (case z_range => k_is)
    (case z_abs => k_is)
    (case z_list => k_is)
    (case z_tuple => k_is)
    (case g_MOST_STEPS => k_is)
    (case g_START => k_is)
    (case g_COSTS => k_is)
    (case g_COST => k_is)
    (case g_MEAN => k_is)
    (case g_LEAST => k_is)
    (case g_WORD => k_is)
    (case g_TIES => k_is)
    (case g_BEST => k_is)
    (case g_GOOD => k_is)
    (case g_CHEAPER => k_is)
    (case g_TURN => k_is)
    (case g_FALL => k_is)
    (case g_NEEDS => k_is)
    (case g_TURNED_OVER => k_is)
    (case g_NOT_STARTED => k_is)
    (case g_NOT_RIGHT => k_is)
    (case g_NONE_SUCH => k_is)
    (case g_AT_REST => k_is)
    (case g_MOST_COST => k_is)
    (case g_MOST_BEST_STEPS => k_is)
    (case g_FIVE => k_is)
    (case s_FIVE => (refine' LC.tup_mk ?l ?z ?v; (case l => k_is); (case z => decide); (case v => exact .cons rfl (.cons rfl (.cons rfl (.cons rfl (.cons rfl (.nil))))))))
    (case sa_FIVE_0 => (refine' LC.tup_mk ?l ?z ?v; (case l => k_is); (case z => decide); (case v => exact .cons ⟨_, rfl⟩ (.nil))))
    (case sa_FIVE_1 => (refine' LC.tup_mk ?l ?z ?v; (case l => k_is); (case z => decide); (case v => exact .cons ⟨_, rfl⟩ (.cons ⟨_, rfl⟩ (.nil)))))
    (case sa_FIVE_2 => (refine' LC.tup_mk ?l ?z ?v; (case l => k_is); (case z => decide); (case v => exact .cons ⟨_, rfl⟩ (.cons ⟨_, rfl⟩ (.cons ⟨_, rfl⟩ (.cons ⟨_, rfl⟩ (.nil)))))))
    (case sa_FIVE_3 => (refine' LC.tup_mk ?l ?z ?v; (case l => k_is); (case z => decide); (case v => exact .cons ⟨_, rfl⟩ (.cons ⟨_, rfl⟩ (.cons ⟨_, rfl⟩ (.cons ⟨_, rfl⟩ (.cons ⟨_, rfl⟩ (.cons ⟨_, rfl⟩ (.nil)))))))))
    (case sa_FIVE_4 => (refine' LC.tup_mk ?l ?z ?v; (case l => k_is); (case z => decide); (case v => exact .cons ⟨_, rfl⟩ (.cons ⟨_, rfl⟩ (.cons ⟨_, rfl⟩ (.nil))))))
    (case g_NEEDED_COSTS => k_is)
    (case s_NEEDED_COSTS => (refine' LC.tup_mk ?l ?z ?v; (case l => k_is); (case z => decide); (case v => exact .cons rfl (.cons rfl (.cons rfl (.cons rfl (.cons rfl (.nil))))))))
    (case sa_NEEDED_COSTS_0 => (refine' LC.tup_mk ?l ?z ?v; (case l => k_is); (case z => decide); (case v => exact .cons ⟨_, rfl⟩ (.cons ⟨_, rfl⟩ (.cons ⟨_, rfl⟩ (.nil))))))
    (case sa_NEEDED_COSTS_1 => (refine' LC.tup_mk ?l ?z ?v; (case l => k_is); (case z => decide); (case v => exact .cons ⟨_, rfl⟩ (.cons ⟨_, rfl⟩ (.cons ⟨_, rfl⟩ (.nil))))))
    (case sa_NEEDED_COSTS_2 => (refine' LC.tup_mk ?l ?z ?v; (case l => k_is); (case z => decide); (case v => exact .cons ⟨_, rfl⟩ (.cons ⟨_, rfl⟩ (.cons ⟨_, rfl⟩ (.nil))))))
    (case sa_NEEDED_COSTS_3 => (refine' LC.tup_mk ?l ?z ?v; (case l => k_is); (case z => decide); (case v => exact .cons ⟨_, rfl⟩ (.cons ⟨_, rfl⟩ (.cons ⟨_, rfl⟩ (.nil))))))
    (case sa_NEEDED_COSTS_4 => (refine' LC.tup_mk ?l ?z ?v; (case l => k_is); (case z => decide); (case v => exact .cons ⟨_, rfl⟩ (.cons ⟨_, rfl⟩ (.cons ⟨_, rfl⟩ (.nil))))))
    (case g_SHAPES => k_is)
    (case s_SHAPES => (refine' LC.tup_mk ?l ?z ?v; (case l => k_is); (case z => decide); (case v => exact .cons rfl (.cons rfl (.cons rfl (.cons rfl (.cons rfl (.cons rfl (.cons rfl (.cons rfl (.cons rfl (.cons rfl (.cons rfl (.cons rfl (.cons rfl (.cons rfl (.cons rfl (.cons rfl (.cons rfl (.nil))))))))))))))))))))
    (case sa_SHAPES_0 => (refine' LC.tup_mk ?l ?z ?v; (case l => k_is); (case z => decide); (case v => exact .cons ⟨_, rfl⟩ (.cons ⟨_, rfl⟩ (.nil)))))
    (case sa_SHAPES_1 => (refine' LC.tup_mk ?l ?z ?v; (case l => k_is); (case z => decide); (case v => exact .cons ⟨_, rfl⟩ (.cons ⟨_, rfl⟩ (.nil)))))
    (case sa_SHAPES_2 => (refine' LC.tup_mk ?l ?z ?v; (case l => k_is); (case z => decide); (case v => exact .cons ⟨_, rfl⟩ (.cons ⟨_, rfl⟩ (.nil)))))
    (case sa_SHAPES_3 => (refine' LC.tup_mk ?l ?z ?v; (case l => k_is); (case z => decide); (case v => exact .cons ⟨_, rfl⟩ (.cons ⟨_, rfl⟩ (.nil)))))
    (case sa_SHAPES_4 => (refine' LC.tup_mk ?l ?z ?v; (case l => k_is); (case z => decide); (case v => exact .cons ⟨_, rfl⟩ (.cons ⟨_, rfl⟩ (.nil)))))
    (case sa_SHAPES_5 => (refine' LC.tup_mk ?l ?z ?v; (case l => k_is); (case z => decide); (case v => exact .cons ⟨_, rfl⟩ (.cons ⟨_, rfl⟩ (.nil)))))
    (case sa_SHAPES_6 => (refine' LC.tup_mk ?l ?z ?v; (case l => k_is); (case z => decide); (case v => exact .cons ⟨_, rfl⟩ (.cons ⟨_, rfl⟩ (.nil)))))
    (case sa_SHAPES_7 => (refine' LC.tup_mk ?l ?z ?v; (case l => k_is); (case z => decide); (case v => exact .cons ⟨_, rfl⟩ (.cons ⟨_, rfl⟩ (.nil)))))
    (case sa_SHAPES_8 => (refine' LC.tup_mk ?l ?z ?v; (case l => k_is); (case z => decide); (case v => exact .cons ⟨_, rfl⟩ (.cons ⟨_, rfl⟩ (.nil)))))
    (case sa_SHAPES_9 => (refine' LC.tup_mk ?l ?z ?v; (case l => k_is); (case z => decide); (case v => exact .cons ⟨_, rfl⟩ (.cons ⟨_, rfl⟩ (.nil)))))
    (case sa_SHAPES_10 => (refine' LC.tup_mk ?l ?z ?v; (case l => k_is); (case z => decide); (case v => exact .cons ⟨_, rfl⟩ (.cons ⟨_, rfl⟩ (.nil)))))
    (case sa_SHAPES_11 => (refine' LC.tup_mk ?l ?z ?v; (case l => k_is); (case z => decide); (case v => exact .cons ⟨_, rfl⟩ (.cons ⟨_, rfl⟩ (.nil)))))
    (case sa_SHAPES_12 => (refine' LC.tup_mk ?l ?z ?v; (case l => k_is); (case z => decide); (case v => exact .cons ⟨_, rfl⟩ (.cons ⟨_, rfl⟩ (.nil)))))
    (case sa_SHAPES_13 => (refine' LC.tup_mk ?l ?z ?v; (case l => k_is); (case z => decide); (case v => exact .cons ⟨_, rfl⟩ (.cons ⟨_, rfl⟩ (.nil)))))
    (case sa_SHAPES_14 => (refine' LC.tup_mk ?l ?z ?v; (case l => k_is); (case z => decide); (case v => exact .cons ⟨_, rfl⟩ (.cons ⟨_, rfl⟩ (.nil)))))
    (case sa_SHAPES_15 => (refine' LC.tup_mk ?l ?z ?v; (case l => k_is); (case z => decide); (case v => exact .cons ⟨_, rfl⟩ (.cons ⟨_, rfl⟩ (.nil)))))
    (case sa_SHAPES_16 => (refine' LC.tup_mk ?l ?z ?v; (case l => k_is); (case z => decide); (case v => exact .cons ⟨_, rfl⟩ (.cons ⟨_, rfl⟩ (.nil)))))
  case S =>
    intro K H xs a hO hwi hask hx
    cases hx with
    | cons h1 h2 =>
      cases h2
      cases h1 with
      | lst hs ha =>
        have e := L2.ints_dw a.1 _ ha
        subst e
        have q : ((Codec.inLen 0 24600 a.1 && a.1.all (Codec.inInt (-2147483648) 4294967295)) && true) = true := hwi
        rw [Bool.and_eq_true, Bool.and_eq_true] at q
        exact ⟨_, a.1, rfl, hs, (Codec.inNat_iff.mp q.1.1).2, hask, fun H' p hp => .lst (L2.SqL.of hp) (L2.dw_ints _)⟩

