import PyProof.Rows.All
import Wide.All
import OpenK.AllK
import Wide.FinOn
import PySr96
import HandS.ForSpec
import HandS.ForMost
import PySem.Challenge.RW_flourblend_s01_answers
import HandS.Walk
import HandS.WideBits
import PyProof.EqAt
import PyProof.EqKinds
import PyProof.TupleCall
import KE.KLam
import KE.KMinKey
import HandS.Lambda
import HandS.Nested
import HandS.SortKw
import Open.SpecLaws
import KE.OsGo
import KE.KNest
set_option Elab.async false
set_option linter.all false
/-! ## FBMath -/
namespace FB
open Sr96
open SrCommon (sum natsToInts intsToNats)

/-! ### sums -/
theorem foldl_add : ∀ (l : List Nat) (a : Nat), l.foldl (· + ·) a = a + l.foldl (· + ·) 0
  | [], a => rfl
  | x :: l, a => by
    rw [List.foldl_cons, List.foldl_cons, foldl_add l (a + x), foldl_add l (0 + x)]
    omega
theorem sum_nil : sum [] = 0 := rfl
theorem sum_cons (a : Nat) (l : List Nat) : sum (a :: l) = a + sum l := by
  unfold sum
  rw [List.foldl_cons, foldl_add]
  omega
theorem total_nil (p : Bin → Nat) (x : Blend) : total p [] x = 0 := by
  unfold total
  rw [List.zip_nil_left]
  rfl
theorem total_cons (p : Bin → Nat) (b : Bin) (bs : List Bin) (k : Nat) (x : Blend) : total p (b :: bs) (k :: x) = p b * k + total p bs x := by
  unfold total
  rw [List.zip_cons_cons, List.map_cons, sum_cons]
theorem cast_sum : ∀ l : List Nat, (l.map fun (x : Nat) => (x : Int)).sum = ((sum l : Nat) : Int)
  | [] => rfl
  | a :: l => by
    rw [List.map_cons, List.sum_cons, cast_sum l, sum_cons]
    omega
theorem cast_total (p : Bin → Nat) (bs : List Bin) (x : Blend) : ((bs.zip x).map fun y => ((p y.1 : Nat) : Int) * ((y.2 : Nat) : Int)).sum = ((total p bs x : Nat) : Int) := by
  unfold total
  rw [← cast_sum, List.map_map]
  congr 1
theorem le_sum : ∀ {l : List Nat} {a : Nat}, a ∈ l → a ≤ sum l
  | b :: l, a, h => by
    rw [sum_cons]
    rcases List.mem_cons.mp h with e | m
    · omega
    · have := le_sum m
      omega

/-! ### blends -/
def bf : List Nat → Nat → List (List Nat)
  | [], n => if n = 0 then [[]] else []
  | a :: rest, n => ((List.range (min a n + 1)).reverse).flatMap fun k => (bf rest (n - k)).map fun x => k :: x
theorem bf_bins : ∀ (bs : List Bin) (n : Nat), bf (bs.map fun b => b.kilograms) n = blendsFrom bs n
  | [], _ => rfl
  | b :: bs, n => by
    rw [List.map_cons]
    unfold bf blendsFrom
    simp only [bf_bins bs]
/-- a blend of just this weight that the bins can give -/
def Av : List Nat → List Nat → Prop
  | [], [] => True
  | a :: as, k :: x => k ≤ a ∧ Av as x
  | _, _ => False
theorem Av.len : ∀ {as x : List Nat}, Av as x → x.length = as.length
  | [], [], _ => rfl
  | _ :: as, _ :: x, h => by
    rw [List.length_cons, List.length_cons, Av.len h.2]
  | [], _ :: _, h => h.elim
  | _ :: _, [], h => h.elim
theorem Av.sum_le : ∀ {as x : List Nat}, Av as x → sum x ≤ sum as
  | [], [], _ => Nat.le_refl _
  | a :: as, k :: x, h => by
    rw [sum_cons, sum_cons]
    have := Av.sum_le h.2
    have := h.1
    omega
  | [], _ :: _, h => h.elim
  | _ :: _, [], h => h.elim
theorem mem_bf : ∀ (as : List Nat) (n : Nat) (x : List Nat), x ∈ bf as n ↔ Av as x ∧ sum x = n
  | [], n, x => by
    unfold bf
    by_cases h : n = 0
    · rw [if_pos h]
      cases x with
      | nil => simp [Av, sum_nil, h]
      | cons k x => simp [Av]
    · rw [if_neg h]
      cases x with
      | nil =>
        simp [Av, sum_nil]
        omega
      | cons k x => simp [Av]
  | a :: as, n, x => by
    unfold bf
    simp only [List.mem_flatMap, List.mem_reverse, List.mem_range, List.mem_map]
    constructor
    · rintro ⟨k, hk, y, hy, rfl⟩
      obtain ⟨h1, h2⟩ := (mem_bf as (n - k) y).mp hy
      refine ⟨⟨by omega, h1⟩, ?_⟩
      rw [sum_cons, h2]
      omega
    · rintro ⟨h1, h2⟩
      cases x with
      | nil => exact h1.elim
      | cons k y =>
        rw [sum_cons] at h2
        have hk := h1.1
        exact ⟨k, by omega, y, (mem_bf as (n - k) y).mpr ⟨h1.2, by omega⟩, rfl⟩
theorem bf_none {as : List Nat} {n : Nat} (h : sum as < n) : bf as n = [] := by
  refine List.eq_nil_iff_forall_not_mem.mpr fun x hx => ?_
  obtain ⟨h1, h2⟩ := (mem_bf as n x).mp hx
  have := h1.sum_le
  omega
theorem rev_range (m : Nat) : (List.range (m + 1)).reverse = (List.range (m + 1)).map fun j => m - j := by
  apply List.ext_getElem
  · simp
  · intro i h1 h2
    simp only [List.length_reverse, List.length_range] at h1
    rw [List.getElem_reverse]
    simp
/-- the loop's list behind i turns -/
def bfi (a : Nat) (rest : List Nat) (n i : Nat) : List (List Nat) := (List.range i).flatMap fun j => (bf rest (n - (min a n - j))).map fun x => (min a n - j) :: x
theorem bfi_zero (a : Nat) (rest : List Nat) (n : Nat) : bfi a rest n 0 = [] := rfl
theorem bfi_succ (a : Nat) (rest : List Nat) (n i : Nat) : bfi a rest n (i + 1) = bfi a rest n i ++ (bf rest (n - (min a n - i))).map fun x => (min a n - i) :: x := by
  unfold bfi
  rw [List.range_succ, List.flatMap_append]
  simp
theorem bfi_all (a : Nat) (rest : List Nat) (n : Nat) : bfi a rest n (min a n + 1) = bf (a :: rest) n := by
  unfold bfi
  conv => rhs; unfold bf
  rw [rev_range, List.flatMap_map]
theorem bfi_stay (a : Nat) (rest : List Nat) (n c : Nat) (hc : ∀ j, c ≤ j → j < min a n + 1 → sum rest < n - (min a n - j)) : ∀ d, c + d ≤ min a n + 1 → bfi a rest n (c + d) = bfi a rest n c
  | 0, _ => rfl
  | d + 1, h => by
    rw [← Nat.add_assoc, bfi_succ, bfi_stay a rest n c hc d (by omega), bf_none (hc (c + d) (by omega) (by omega))]
    simp
theorem bfi_cut (a : Nat) (rest : List Nat) (n : Nat) : bfi a rest n (min a n + 1 - (n - sum rest)) = bf (a :: rest) n := by
  rw [← bfi_all]
  have h := bfi_stay a rest n (min a n + 1 - (n - sum rest)) (fun j h1 h2 => by omega) (min a n + 1 - (min a n + 1 - (n - sum rest))) (by omega)
  rw [← h]
  congr 1
  omega
theorem flatMap_len {α β : Type} {f : α → List β} {m : Nat} : ∀ {l : List α}, (∀ a ∈ l, (f a).length ≤ m) → (l.flatMap f).length ≤ l.length * m
  | [], _ => by simp
  | a :: l, h => by
    rw [List.flatMap_cons, List.length_append, List.length_cons]
    have h1 := h a (List.mem_cons_self ..)
    have h2 := flatMap_len (l := l) fun b hb => h b (List.mem_cons_of_mem _ hb)
    have h3 : (l.length + 1) * m = l.length * m + m := Nat.succ_mul _ _
    omega
theorem bf_len : ∀ (as : List Nat) (n : Nat), (∀ a ∈ as, a ≤ 30) → (bf as n).length ≤ 31 ^ as.length
  | [], n, _ => by
    unfold bf
    split <;> simp
  | a :: as, n, h => by
    unfold bf
    have ha := h a (List.mem_cons_self ..)
    refine Nat.le_trans (flatMap_len (m := 31 ^ as.length) fun k _ => ?_) ?_
    · rw [List.length_map]
      exact bf_len as (n - k) fun b hb => h b (List.mem_cons_of_mem _ hb)
    · rw [List.length_reverse, List.length_range, List.length_cons, Nat.pow_succ, Nat.mul_comm (31 ^ as.length) 31]
      exact Nat.mul_le_mul_right _ (by omega)
theorem bfi_len (a : Nat) (rest : List Nat) (n i : Nat) (ha : a ≤ 30) (h : ∀ a ∈ rest, a ≤ 30) (hi : i ≤ 31) : (bfi a rest n i).length ≤ 31 * 31 ^ rest.length := by
  unfold bfi
  refine Nat.le_trans (flatMap_len (m := 31 ^ rest.length) fun k _ => ?_) ?_
  · rw [List.length_map]
    exact bf_len rest _ h
  · rw [List.length_range]
    exact Nat.mul_le_mul_right _ hi

/-! ### availability, bounds -/
theorem isAvailable_iff (s : Store) (x : Blend) : isAvailable s x = true ↔ Av (s.bins.map fun b => b.kilograms) x := by
  unfold isAvailable
  generalize s.bins = bs
  induction bs generalizing x with
  | nil =>
    cases x with
    | nil => simp [Av]
    | cons k x => simp [Av]
  | cons b bs ih =>
    cases x with
    | nil => simp [Av]
    | cons k x =>
      have := ih x
      simp only [List.length_cons, List.zip_cons_cons, List.all_cons, List.map_cons, Av, Bool.and_eq_true, decide_eq_true_eq] at this ⊢
      rw [← this]
      constructor
      · rintro ⟨h1, h2, h3⟩
        exact ⟨h2, by omega, h3⟩
      · rintro ⟨h1, h2, h3⟩
        exact ⟨by omega, h1, h3⟩
theorem all_zip (bs : List Bin) (x : Blend) (s : Store) (hs : s.bins = bs) (hl : x.length = bs.length) : ((bs.zip x).all fun y => decide (y.2 ≤ y.1.kilograms)) = isAvailable s x := by
  unfold isAvailable
  rw [hs, hl]
  simp
/-- what the program asks of the sums -/
def keeps (r : Request) (n st ash : Nat) : Bool := decide (r.minStrength * n ≤ st) && (decide (st ≤ r.maxStrength * n) && decide (ash ≤ r.maxAsh * n))
def meets (bs : List Bin) (r : Request) (x : Blend) : Bool := decide (sum x = r.kilograms) && keeps r r.kilograms (total Bin.strength bs x) (total Bin.ash bs x)
theorem keeps_is (s : Store) (r : Request) (x : Blend) : keeps r (sum x) (total Bin.strength s.bins x) (total Bin.ash s.bins x) = isWithinBounds s r x := rfl
theorem meets_is (s : Store) (r : Request) (x : Blend) : meets s.bins r x = (decide (sum x = r.kilograms) && isWithinBounds s r x) := by
  unfold meets
  by_cases h : sum x = r.kilograms
  · rw [← h]
    rfl
  · simp [h]
theorem valid_is (s : Store) (r : Request) : (bf (s.bins.map fun b => b.kilograms) r.kilograms).filter (meets s.bins r) = validBlends s r := by
  unfold validBlends blends
  rw [bf_bins]
  refine List.filter_congr fun x hx => ?_
  rw [← bf_bins] at hx
  rw [meets_is, (mem_bf _ _ _).mp hx |>.2]
  simp

/-! ### the first of the smallest -/
theorem minBy_go (m : Blend → Int) : ∀ (l : List Blend) (y : Blend), l.foldl (fun (best : Option Blend) x => match best with
    | none => some x
    | some y => if m x < m y then some x else some y) (some y) = some (l.foldl (fun y x => if m x < m y then x else y) y)
  | [], y => rfl
  | x :: l, y => by
    rw [List.foldl_cons, List.foldl_cons]
    dsimp only
    by_cases h : m x < m y
    · rw [if_pos h, if_pos h]
      exact minBy_go m l x
    · rw [if_neg h, if_neg h]
      exact minBy_go m l y
theorem minBy_cons (m : Blend → Int) (y : Blend) (l : List Blend) : minimumBy m (y :: l) = some (l.foldl (fun y x => if m x < m y then x else y) y) := minBy_go m l y
theorem foldMin_spec (m : Blend → Int) : ∀ (l : List Blend) (y : Blend), (l.foldl (fun y x => if m x < m y then x else y) y ∈ y :: l) ∧ ∀ z ∈ y :: l, m (l.foldl (fun y x => if m x < m y then x else y) y) ≤ m z
  | [], y => by simp
  | x :: l, y => by
    rw [List.foldl_cons]
    by_cases h : m x < m y
    · rw [if_pos h]
      obtain ⟨h1, h2⟩ := foldMin_spec m l x
      refine ⟨List.mem_cons_of_mem _ h1, fun z hz => ?_⟩
      rcases List.mem_cons.mp hz with e | hz
      · subst e
        have := h2 x (List.mem_cons_self ..)
        omega
      · exact h2 z hz
    · rw [if_neg h]
      obtain ⟨h1, h2⟩ := foldMin_spec m l y
      refine ⟨?_, fun z hz => ?_⟩
      · rcases List.mem_cons.mp h1 with e | h1
        · rw [e]
          exact List.mem_cons_self ..
        · exact List.mem_cons_of_mem _ (List.mem_cons_of_mem _ h1)
      · rcases List.mem_cons.mp hz with e | hz
        · rw [e]
          exact h2 y (List.mem_cons_self ..)
        · rcases List.mem_cons.mp hz with e | hz
          · rw [e]
            have := h2 y (List.mem_cons_self ..)
            omega
          · exact h2 z (List.mem_cons_of_mem _ hz)
theorem minBy_nil (m : Blend → Int) : minimumBy m [] = none := rfl
theorem minBy_some {m : Blend → Int} {l : List Blend} {x : Blend} (h : minimumBy m l = some x) : x ∈ l ∧ ∀ z ∈ l, m x ≤ m z := by
  cases l with
  | nil => cases h
  | cons y l =>
    rw [minBy_cons] at h
    have e := Option.some.inj h
    subst e
    exact foldMin_spec m l y
theorem minBy_ne {m : Blend → Int} {l : List Blend} (h : l ≠ []) : ∃ x, minimumBy m l = some x := by
  cases l with
  | nil => exact absurd rfl h
  | cons y l => exact ⟨_, minBy_cons m y l⟩
/-- the fold keeps the first: the item at i, that is below all ahead of it and not above all behind -/
theorem foldMin_at (m : Blend → Int) : ∀ (l : List Blend) (y : Blend) (i : Nat) (x : Blend), (y :: l)[i]? = some x → (∀ (j : Nat) (z : Blend), (y :: l)[j]? = some z → m x ≤ m z ∧ (j < i → m x < m z)) →
    l.foldl (fun y x => if m x < m y then x else y) y = x
  | [], y, i, x, hx, _ => by
    cases i with
    | zero => exact Option.some.inj hx
    | succ i => simp at hx
  | z :: l, y, i, x, hx, h => by
    rw [List.foldl_cons]
    by_cases hz : m z < m y
    · rw [if_pos hz]
      cases i with
      | zero =>
        have e : y = x := Option.some.inj hx
        have := (h 1 z rfl).1
        rw [← e] at this
        omega
      | succ i => exact foldMin_at m l z i x hx fun j w hw => ⟨(h (j + 1) w hw).1, fun hj => (h (j + 1) w hw).2 (by omega)⟩
    · rw [if_neg hz]
      cases i with
      | zero => exact foldMin_at m l y 0 x hx fun j w hw => ⟨by
          cases j with
          | zero => exact (h 0 w hw).1
          | succ j => exact (h (j + 2) w hw).1, fun hj => by omega⟩
      | succ i =>
        cases i with
        | zero =>
          have e : z = x := Option.some.inj hx
          have := (h 0 y rfl).2 (by omega)
          rw [← e] at this
          omega
        | succ i =>
          refine foldMin_at m l y (i + 1) x hx fun j w hw => ?_
          cases j with
          | zero => exact ⟨(h 0 w hw).1, fun _ => (h 0 w hw).2 (by omega)⟩
          | succ j => exact ⟨(h (j + 2) w hw).1, fun hj => (h (j + 2) w hw).2 (by omega)⟩
theorem minBy_at {m : Blend → Int} {l : List Blend} {i : Nat} {x : Blend} (hx : l[i]? = some x) (h : ∀ (j : Nat) (z : Blend), l[j]? = some z → m x ≤ m z ∧ (j < i → m x < m z)) : minimumBy m l = some x := by
  cases l with
  | nil => simp at hx
  | cons y l => rw [minBy_cons, foldMin_at m l y i x hx h]

/-! ### the greatest weight -/
abbrev Tri := Nat × Nat × Nat
def upTurn (most : Nat) (b : Bin) (t : Tri) : List Tri := (List.range (min b.kilograms (most - t.1) + 1)).map fun k => (t.1 + k, t.2.1 + b.strength * k, t.2.2 + b.ash * k)
def up1 (most : Nat) (b : Bin) (l : List Tri) : List Tri := l.flatMap (upTurn most b)
def ups (most : Nat) (bs : List Bin) (l : List Tri) : List Tri := bs.foldl (fun l b => up1 most b l) l
theorem upTurn_le {most : Nat} {b : Bin} {t u : Tri} (h : u ∈ upTurn most b t) (ht : t.1 ≤ most) : u.1 ≤ most := by
  obtain ⟨k, hk, rfl⟩ := List.mem_map.mp h
  have := List.mem_range.mp hk
  dsimp only
  omega
theorem up1_le {most : Nat} {b : Bin} {l : List Tri} (h : ∀ t ∈ l, t.1 ≤ most) : ∀ t ∈ up1 most b l, t.1 ≤ most := fun t ht => by
  obtain ⟨u, hu, hm⟩ := List.mem_flatMap.mp ht
  exact upTurn_le hm (h u hu)
theorem mem_ups {most : Nat} : ∀ (bs : List Bin) (l : List Tri), (∀ t ∈ l, t.1 ≤ most) → ∀ u : Tri, u ∈ ups most bs l ↔ ∃ t ∈ l, ∃ x, Av (bs.map fun b => b.kilograms) x ∧ u = (t.1 + sum x, t.2.1 + total Bin.strength bs x, t.2.2 + total Bin.ash bs x) ∧ u.1 ≤ most
  | [], l, hl, u => by
    constructor
    · intro h
      refine ⟨u, h, [], trivial, ?_, hl u h⟩
      simp [sum_nil, total_nil]
    · rintro ⟨t, ht, x, hx, rfl, _⟩
      cases x with
      | nil =>
        simp only [sum_nil, total_nil, Nat.add_zero]
        exact ht
      | cons k x => exact hx.elim
  | b :: bs, l, hl, u => by
    show u ∈ ups most bs (up1 most b l) ↔ _
    rw [mem_ups bs (up1 most b l) (up1_le hl) u]
    constructor
    · rintro ⟨t, ht, x, hx, rfl, hu⟩
      obtain ⟨v, hv, hm⟩ := List.mem_flatMap.mp ht
      obtain ⟨k, hk, rfl⟩ := List.mem_map.mp hm
      have hk := List.mem_range.mp hk
      have hk2 : k ≤ b.kilograms := by omega
      refine ⟨v, hv, k :: x, ⟨hk2, hx⟩, ?_, hu⟩
      rw [sum_cons, total_cons, total_cons]
      dsimp only
      simp only [Nat.add_assoc]
    · rintro ⟨t, ht, x, hx, rfl, hu⟩
      cases x with
      | nil => exact hx.elim
      | cons k x =>
        have h1 : k ≤ b.kilograms := hx.1
        rw [sum_cons] at hu
        dsimp only at hu
        refine ⟨(t.1 + k, t.2.1 + b.strength * k, t.2.2 + b.ash * k), List.mem_flatMap.mpr ⟨t, ht, List.mem_map.mpr ⟨k, List.mem_range.mpr (by omega), rfl⟩⟩, x, hx.2, ?_, ?_⟩
        · rw [sum_cons, total_cons, total_cons]
          simp only [Nat.add_assoc]
        · rw [sum_cons]
          dsimp only
          exact hu
theorem fold_last {p : Nat → Bool} {m : Nat} : ∀ (n : Nat), m < n → p m = true → (∀ k, k < n → p k = true → k ≤ m) → (List.range n).foldl (fun best k => if p k then k else best) 0 = m
  | n + 1, hm, h, hk => by
    rw [List.range_succ, List.foldl_append]
    show (if p n = true then n else _) = m
    by_cases hp : p n = true
    · rw [if_pos hp]
      have := hk n (by omega) hp
      omega
    · rw [if_neg hp]
      have hne : m ≠ n := fun e => hp (e ▸ h)
      exact fold_last n (by omega) h fun k h1 h2 => hk k (by omega) h2
theorem greatest_is (s : Store) (r : Request) {m : Nat} (hm : m ∈ ((ups 30 s.bins [(0, 0, 0)]).filter fun t => keeps r t.1 t.2.1 t.2.2).map (·.1)) (hall : ∀ k ∈ ((ups 30 s.bins [(0, 0, 0)]).filter fun t => keeps r t.1 t.2.1 t.2.2).map (·.1), k ≤ m) :
    greatestAmount s r = m := by
  have key : ∀ k, k ≤ 30 → (k ∈ ((ups 30 s.bins [(0, 0, 0)]).filter fun t => keeps r t.1 t.2.1 t.2.2).map (·.1) ↔ (!(validBlends s { r with kilograms := k }).isEmpty) = true) := by
    intro k hk
    simp only [List.mem_map, List.mem_filter]
    rw [Bool.not_eq_true', List.isEmpty_eq_false_iff_exists_mem]
    constructor
    · rintro ⟨t, ⟨h1, h2⟩, rfl⟩
      obtain ⟨t0, h0, x, hx, rfl, _⟩ := (mem_ups s.bins [(0, 0, 0)] (by simp) t).mp h1
      have e0 : t0 = (0, 0, 0) := by simpa using h0
      subst e0
      refine ⟨x, List.mem_filter.mpr ⟨?_, ?_⟩⟩
      · unfold blends
        rw [← bf_bins]
        exact (mem_bf _ _ _).mpr ⟨hx, by dsimp only; omega⟩
      · simp only [Nat.zero_add] at h2
        exact h2
    · rintro ⟨x, hx⟩
      obtain ⟨h1, h2⟩ := List.mem_filter.mp hx
      unfold blends at h1
      rw [← bf_bins] at h1
      obtain ⟨h3, h4⟩ := (mem_bf _ _ _).mp h1
      dsimp only at h4
      refine ⟨(0 + sum x, 0 + total Bin.strength s.bins x, 0 + total Bin.ash s.bins x), ⟨(mem_ups s.bins [(0, 0, 0)] (by simp) _).mpr ⟨(0, 0, 0), by simp, x, h3, rfl, by dsimp only; omega⟩, ?_⟩, by dsimp only; omega⟩
      simp only [Nat.zero_add]
      exact h2
  have hle : m ≤ 30 := by
    obtain ⟨t, ht, rfl⟩ := List.mem_map.mp hm
    obtain ⟨h1, _⟩ := List.mem_filter.mp ht
    obtain ⟨_, _, _, _, _, h⟩ := (mem_ups s.bins [(0, 0, 0)] (by simp) t).mp h1
    exact h
  unfold greatestAmount
  have e : (fun (best n : Nat) => if (validBlends s { r with kilograms := n }).isEmpty = true then best else n) = fun best k => if (!(validBlends s { r with kilograms := k }).isEmpty) = true then k else best := by
    funext best n
    cases (validBlends s { r with kilograms := n }).isEmpty <;> rfl
  rw [e]
  exact fold_last (p := fun k => !(validBlends s { r with kilograms := k }).isEmpty) 31 (by omega) ((key m hle).mp hm) fun k hk hp => hall k ((key k (by omega)).mpr hp)
theorem ups_zero (most : Nat) (bs : List Bin) : ((0, 0, 0) : Tri) ∈ ups most bs [(0, 0, 0)] := by
  refine (mem_ups bs [(0, 0, 0)] (by simp) _).mpr ⟨(0, 0, 0), by simp, bs.map fun _ => 0, ?_, ?_, Nat.zero_le _⟩
  · induction bs with
    | nil => trivial
    | cons b bs ih => exact ⟨Nat.zero_le _, ih⟩
  · have e : sum (bs.map fun _ => 0) = 0 ∧ total Bin.strength bs (bs.map fun _ => 0) = 0 ∧ total Bin.ash bs (bs.map fun _ => 0) = 0 := by
      induction bs with
      | nil => exact ⟨rfl, total_nil _ _, total_nil _ _⟩
      | cons b bs ih =>
        rw [List.map_cons, sum_cons, total_cons, total_cons, ih.1, ih.2.1, ih.2.2]
        simp
    rw [e.1, e.2.1, e.2.2]
theorem upTurn_len {most : Nat} {b : Bin} {t : Tri} (hb : b.kilograms ≤ 30) : (upTurn most b t).length ≤ 31 := by
  unfold upTurn
  rw [List.length_map, List.length_range]
  omega
theorem up1_len {most : Nat} {b : Bin} {l : List Tri} (hb : b.kilograms ≤ 30) : (up1 most b l).length ≤ l.length * 31 := flatMap_len fun _ _ => upTurn_len hb
theorem ups_snoc (most : Nat) (bs : List Bin) (b : Bin) (l : List Tri) : ups most (bs ++ [b]) l = up1 most b (ups most bs l) := by
  unfold ups
  rw [List.foldl_append]
  rfl
theorem ups_len {most : Nat} : ∀ (bs : List Bin) (l : List Tri), (∀ b ∈ bs, b.kilograms ≤ 30) → (ups most bs l).length ≤ l.length * 31 ^ bs.length
  | [], l, _ => by simp [ups]
  | b :: bs, l, h => by
    show (ups most bs (up1 most b l)).length ≤ _
    have h1 := ups_len (most := most) bs (up1 most b l) fun c hc => h c (List.mem_cons_of_mem _ hc)
    have h2 := up1_len (most := most) (l := l) (h b (List.mem_cons_self ..))
    refine Nat.le_trans h1 ?_
    rw [List.length_cons, Nat.pow_succ, Nat.mul_comm (31 ^ bs.length) 31, ← Nat.mul_assoc]
    exact Nat.mul_le_mul_right _ h2

/-! ### averages -/
theorem average_zero (t : Nat) : Sr96.average t 0 = [0, 1] := by
  unfold Sr96.average SrFraction.encode SrFraction.mk
  simp only [Int.natAbs_natCast, Nat.gcd_zero_right, Nat.zero_div]
  by_cases h : t = 0
  · simp [h]
  · simp [h]
theorem average_pos (t w : Nat) (hw : 0 < w) : Sr96.average t w = [((t / Nat.gcd w t : Nat) : Int), ((w / Nat.gcd w t : Nat) : Int)] := by
  unfold Sr96.average SrFraction.encode SrFraction.mk
  simp only [Int.natAbs_natCast]
  rw [Nat.gcd_comm t w]
  have hg : 0 < Nat.gcd w t := Nat.gcd_pos_of_pos_left _ hw
  have h1 : ¬ Nat.gcd w t = 0 := by omega
  have h2 : 0 < w / Nat.gcd w t := Nat.div_pos (Nat.le_of_dvd hw (Nat.gcd_dvd_left w t)) hg
  have h3 : ¬ w / Nat.gcd w t = 0 := by omega
  rw [if_neg h1, if_neg h3]
  simp
end FB

/-! ## FBText -/
set_option maxRecDepth 100000
set_option maxHeartbeats 2000000
/-! The program's text by places, and what its top leaves. -/
namespace FB
open PySem PySem.Spec PyProof.Rows L2
def top (i : Nat) : Stmt := PySem.Challenge.pw_flourblend_s01_answers.main.body.getD i (.Pass ⟨0, 0, 0, 0⟩)
abbrev s_gd : Stmt := top 1
theorem c_gd : FnScope ["first", "second", "rest"] ["first", "second"] (defScope s_gd) := ⟨rfl, rfl, rfl, by decide +kernel, rfl, by decide +kernel, by decide +kernel⟩
abbrev s_av : Stmt := top 2
theorem c_av : FnScope ["total", "weight", "divisor"] ["total", "weight"] (defScope s_av) := ⟨rfl, rfl, rfl, by decide +kernel, rfl, by decide +kernel, by decide +kernel⟩
abbrev s_bf : Stmt := top 16
theorem c_bf : FnScope ["amounts", "weight", "others", "least", "most", "blends", "kilograms", "rest"] ["amounts", "weight"] (defScope s_bf) := ⟨rfl, rfl, rfl, by decide +kernel, rfl, by decide +kernel, by decide +kernel⟩
abbrev s_ab : Stmt := top 17
theorem c_ab : FnScope ["bins", "weight", "one"] ["bins", "weight"] (defScope s_ab) := ⟨rfl, rfl, rfl, by decide +kernel, rfl, by decide +kernel, by decide +kernel⟩
abbrev s_co : Stmt := top 18
theorem c_co : FnScope ["bins", "blend", "one", "taken"] ["bins", "blend"] (defScope s_co) := ⟨rfl, rfl, rfl, by decide +kernel, rfl, by decide +kernel, by decide +kernel⟩
abbrev s_ss : Stmt := top 19
theorem c_ss : FnScope ["bins", "blend", "one", "taken"] ["bins", "blend"] (defScope s_ss) := ⟨rfl, rfl, rfl, by decide +kernel, rfl, by decide +kernel, by decide +kernel⟩
abbrev s_as : Stmt := top 20
theorem c_as : FnScope ["bins", "blend", "one", "taken"] ["bins", "blend"] (defScope s_as) := ⟨rfl, rfl, rfl, by decide +kernel, rfl, by decide +kernel, by decide +kernel⟩
abbrev s_ia : Stmt := top 21
theorem c_ia : FnScope ["bins", "blend", "one", "taken"] ["bins", "blend"] (defScope s_ia) := ⟨rfl, rfl, rfl, by decide +kernel, rfl, by decide +kernel, by decide +kernel⟩
abbrev s_kb : Stmt := top 22
theorem c_kb : FnScope ["request", "weight", "strength", "ash"] ["request", "weight", "strength", "ash"] (defScope s_kb) := ⟨rfl, rfl, rfl, by decide +kernel, rfl, by decide +kernel, by decide +kernel⟩
abbrev s_mr : Stmt := top 23
theorem c_mr : FnScope ["bins", "request", "blend"] ["bins", "request", "blend"] (defScope s_mr) := ⟨rfl, rfl, rfl, by decide +kernel, rfl, by decide +kernel, by decide +kernel⟩
abbrev s_iv : Stmt := top 24
theorem c_iv : FnScope ["bins", "request", "blend"] ["bins", "request", "blend"] (defScope s_iv) := ⟨rfl, rfl, rfl, by decide +kernel, rfl, by decide +kernel, by decide +kernel⟩
abbrev s_vb : Stmt := top 25
theorem c_vb : FnScope ["bins", "request", "blend"] ["bins", "request"] (defScope s_vb) := ⟨rfl, rfl, rfl, by decide +kernel, rfl, by decide +kernel, by decide +kernel⟩
abbrev s_fc : Stmt := top 26
theorem c_fc : FnScope ["bins", "request"] ["bins", "request"] (defScope s_fc) := ⟨rfl, rfl, rfl, by decide +kernel, rfl, by decide +kernel, by decide +kernel⟩
abbrev s_su : Stmt := top 27
theorem c_su : FnScope ["bins", "most", "sums", "one", "longer", "weight", "strength", "ash", "taken"] ["bins", "most"] (defScope s_su) := ⟨rfl, rfl, rfl, by decide +kernel, rfl, by decide +kernel, by decide +kernel⟩
abbrev s_gw : Stmt := top 28
theorem c_gw : FnScope ["bins", "request", "most", "listed", "weight", "strength", "ash"] ["bins", "request", "most"] (defScope s_gw) := ⟨rfl, rfl, rfl, by decide +kernel, rfl, by decide +kernel, by decide +kernel⟩
abbrev s_fo : Stmt := top 29
theorem c_fo : FnScope ["bins", "request", "n", "listed", "strengths", "blend"] ["bins", "request"] (defScope s_fo) := ⟨rfl, rfl, rfl, by decide +kernel, rfl, by decide +kernel, by decide +kernel⟩
abbrev s_ip : Stmt := top 36
theorem c_ip : FnScope ["price"] ["price"] (defScope s_ip) := ⟨rfl, rfl, rfl, by decide +kernel, rfl, by decide +kernel, by decide +kernel⟩
abbrev s_im : Stmt := top 37
theorem c_im : FnScope ["kilograms"] ["kilograms"] (defScope s_im) := ⟨rfl, rfl, rfl, by decide +kernel, rfl, by decide +kernel, by decide +kernel⟩
abbrev s_ih : Stmt := top 38
theorem c_ih : FnScope ["ash"] ["ash"] (defScope s_ih) := ⟨rfl, rfl, rfl, by decide +kernel, rfl, by decide +kernel, by decide +kernel⟩
abbrev s_iw : Stmt := top 39
theorem c_iw : FnScope ["n"] ["n"] (defScope s_iw) := ⟨rfl, rfl, rfl, by decide +kernel, rfl, by decide +kernel, by decide +kernel⟩
abbrev s_cs : Stmt := top 63
theorem c_cs : FnScope ["bakery", "call", "numbers"] ["bakery", "call", "numbers"] (defScope s_cs) := ⟨rfl, rfl, rfl, by decide +kernel, rfl, by decide +kernel, by decide +kernel⟩
abbrev s_fm : Stmt := top 64
theorem c_fm : FnScope ["bakery", "call", "row"] ["bakery", "call", "row"] (defScope s_fm) := ⟨rfl, rfl, rfl, by decide +kernel, rfl, by decide +kernel, by decide +kernel⟩
abbrev s_te : Stmt := top 65
theorem c_te : FnScope ["bakery", "call", "numbers", "row"] ["bakery", "call", "numbers", "row"] (defScope s_te) := ⟨rfl, rfl, rfl, by decide +kernel, rfl, by decide +kernel, by decide +kernel⟩
abbrev s_ao : Stmt := top 66
theorem c_ao : FnScope ["bakery", "call", "numbers", "row"] ["bakery", "call", "numbers", "row"] (defScope s_ao) := ⟨rfl, rfl, rfl, by decide +kernel, rfl, by decide +kernel, by decide +kernel⟩
abbrev s_an : Stmt := top 67
theorem c_an : FnScope ["calls", "reader", "bakery", "answered", "call", "numbers", "row", "answer"] ["calls"] (defScope s_an) := ⟨rfl, rfl, rfl, by decide +kernel, rfl, by decide +kernel, by decide +kernel⟩
abbrev s_Bi : Stmt := inClass (top 40) 0
theorem c_Bi : FnScope ["self", "kilograms", "strength", "ash", "price"] ["self", "kilograms", "strength", "ash", "price"] (defScope s_Bi) := ⟨rfl, rfl, rfl, by decide +kernel, rfl, by decide +kernel, by decide +kernel⟩
abbrev s_Qi : Stmt := inClass (top 41) 0
theorem c_Qi : FnScope ["self", "n", "min_strength", "max_strength", "max_ash"] ["self", "n", "min_strength", "max_strength", "max_ash"] (defScope s_Qi) := ⟨rfl, rfl, rfl, by decide +kernel, rfl, by decide +kernel, by decide +kernel⟩
abbrev s_Ki : Stmt := inClass (top 42) 0
theorem c_Ki : FnScope ["self"] ["self"] (defScope s_Ki) := ⟨rfl, rfl, rfl, by decide +kernel, rfl, by decide +kernel, by decide +kernel⟩
abbrev s_addBin : Stmt := inClass (top 42) 1
theorem c_addBin : FnScope ["self", "kilograms", "strength", "ash", "price"] ["self", "kilograms", "strength", "ash", "price"] (defScope s_addBin) := ⟨rfl, rfl, rfl, by decide +kernel, rfl, by decide +kernel, by decide +kernel⟩
abbrev s_addFlour : Stmt := inClass (top 42) 2
theorem c_addFlour : FnScope ["self", "i", "kilograms", "total"] ["self", "i", "kilograms"] (defScope s_addFlour) := ⟨rfl, rfl, rfl, by decide +kernel, rfl, by decide +kernel, by decide +kernel⟩
abbrev s_setPrice : Stmt := inClass (top 42) 3
theorem c_setPrice : FnScope ["self", "i", "price", "old_price"] ["self", "i", "price"] (defScope s_setPrice) := ⟨rfl, rfl, rfl, by decide +kernel, rfl, by decide +kernel, by decide +kernel⟩
abbrev s_emptyBin : Stmt := inClass (top 42) 4
theorem c_emptyBin : FnScope ["self", "i", "removed"] ["self", "i"] (defScope s_emptyBin) := ⟨rfl, rfl, rfl, by decide +kernel, rfl, by decide +kernel, by decide +kernel⟩
abbrev s_setReq : Stmt := inClass (top 42) 5
theorem c_setReq : FnScope ["self", "n", "min_strength", "max_strength", "max_ash"] ["self", "n", "min_strength", "max_strength", "max_ash"] (defScope s_setReq) := ⟨rfl, rfl, rfl, by decide +kernel, rfl, by decide +kernel, by decide +kernel⟩
abbrev s_cheap : Stmt := inClass (top 42) 6
theorem c_cheap : FnScope ["self"] ["self"] (defScope s_cheap) := ⟨rfl, rfl, rfl, by decide +kernel, rfl, by decide +kernel, by decide +kernel⟩
abbrev s_mkCheap : Stmt := inClass (top 42) 7
theorem c_mkCheap : FnScope ["self", "blend"] ["self"] (defScope s_mkCheap) := ⟨rfl, rfl, rfl, by decide +kernel, rfl, by decide +kernel, by decide +kernel⟩
abbrev s_mkBlend : Stmt := inClass (top 42) 8
theorem c_mkBlend : FnScope ["self", "blend"] ["self", "blend"] (defScope s_mkBlend) := ⟨rfl, rfl, rfl, by decide +kernel, rfl, by decide +kernel, by decide +kernel⟩
abbrev s_check : Stmt := inClass (top 42) 9
theorem c_check : FnScope ["self", "blend", "bins", "valid", "weight", "strength", "ash"] ["self", "blend"] (defScope s_check) := ⟨rfl, rfl, rfl, by decide +kernel, rfl, by decide +kernel, by decide +kernel⟩
abbrev s_count : Stmt := inClass (top 42) 10
theorem c_count : FnScope ["self", "available"] ["self"] (defScope s_count) := ⟨rfl, rfl, rfl, by decide +kernel, rfl, by decide +kernel, by decide +kernel⟩
abbrev s_great : Stmt := inClass (top 42) 11
theorem c_great : FnScope ["self"] ["self"] (defScope s_great) := ⟨rfl, rfl, rfl, by decide +kernel, rfl, by decide +kernel, by decide +kernel⟩
abbrev s_extr : Stmt := inClass (top 42) 12
theorem c_extr : FnScope ["self", "n", "listed", "strengths", "ashes", "blend"] ["self", "n"] (defScope s_extr) := ⟨rfl, rfl, rfl, by decide +kernel, rfl, by decide +kernel, by decide +kernel⟩
abbrev s_obst : Stmt := inClass (top 42) 13
theorem c_obst : FnScope ["self"] ["self"] (defScope s_obst) := ⟨rfl, rfl, rfl, by decide +kernel, rfl, by decide +kernel, by decide +kernel⟩
abbrev s_ifPrice : Stmt := inClass (top 42) 14
theorem c_ifPrice : FnScope ["self", "i", "price", "one"] ["self", "i", "price"] (defScope s_ifPrice) := ⟨rfl, rfl, rfl, by decide +kernel, rfl, by decide +kernel, by decide +kernel⟩
abbrev s_without : Stmt := inClass (top 42) 15
theorem c_without : FnScope ["self", "i", "one"] ["self", "i"] (defScope s_without) := ⟨rfl, rfl, rfl, by decide +kernel, rfl, by decide +kernel, by decide +kernel⟩
abbrev s_descr : Stmt := inClass (top 42) 16
theorem c_descr : FnScope ["self", "answer", "one", "request"] ["self"] (defScope s_descr) := ⟨rfl, rfl, rfl, by decide +kernel, rfl, by decide +kernel, by decide +kernel⟩
abbrev s_from_ : Stmt := inClass (top 42) 17
theorem c_from_ : FnScope ["self", "bins", "blend"] ["self", "bins"] (defScope s_from_) := ⟨rfl, rfl, rfl, by decide +kernel, rfl, by decide +kernel, by decide +kernel⟩
abbrev s_with_ : Stmt := inClass (top 42) 18
theorem c_with_ : FnScope ["self", "i", "other", "bins"] ["self", "i", "other"] (defScope s_with_) := ⟨rfl, rfl, rfl, by decide +kernel, rfl, by decide +kernel, by decide +kernel⟩
abbrev s_hasBin : Stmt := inClass (top 42) 19
theorem c_hasBin : FnScope ["self", "i"] ["self", "i"] (defScope s_hasBin) := ⟨rfl, rfl, rfl, by decide +kernel, rfl, by decide +kernel, by decide +kernel⟩
abbrev s_hasForm : Stmt := inClass (top 42) 20
theorem c_hasForm : FnScope ["self", "blend", "kilograms"] ["self", "blend"] (defScope s_hasForm) := ⟨rfl, rfl, rfl, by decide +kernel, rfl, by decide +kernel, by decide +kernel⟩
abbrev s_take : Stmt := inClass (top 42) 21
theorem c_take : FnScope ["self", "blend", "cost", "one", "taken"] ["self", "blend"] (defScope s_take) := ⟨rfl, rfl, rfl, by decide +kernel, rfl, by decide +kernel, by decide +kernel⟩
abbrev s_Ri : Stmt := inClass (top 62) 0
theorem c_Ri : FnScope ["self", "calls"] ["self", "calls"] (defScope s_Ri) := ⟨rfl, rfl, rfl, by decide +kernel, rfl, by decide +kernel, by decide +kernel⟩
abbrev s_more : Stmt := inClass (top 62) 1
theorem c_more : FnScope ["self"] ["self"] (defScope s_more) := ⟨rfl, rfl, rfl, by decide +kernel, rfl, by decide +kernel, by decide +kernel⟩
abbrev s_one : Stmt := inClass (top 62) 2
theorem c_one : FnScope ["self", "number"] ["self"] (defScope s_one) := ⟨rfl, rfl, rfl, by decide +kernel, rfl, by decide +kernel, by decide +kernel⟩
abbrev s_several : Stmt := inClass (top 62) 3
theorem c_several : FnScope ["self", "how_many", "numbers"] ["self", "how_many"] (defScope s_several) := ⟨rfl, rfl, rfl, by decide +kernel, rfl, by decide +kernel, by decide +kernel⟩
/-- where a def stands -/
structure DA where
  f : Addr
  fd : FuncData
/-- where all stands -/
structure Ads where
  d_gd : DA
  d_av : DA
  d_bf : DA
  d_ab : DA
  d_co : DA
  d_ss : DA
  d_as : DA
  d_ia : DA
  d_kb : DA
  d_mr : DA
  d_iv : DA
  d_vb : DA
  d_fc : DA
  d_su : DA
  d_gw : DA
  d_fo : DA
  d_ip : DA
  d_im : DA
  d_ih : DA
  d_iw : DA
  d_cs : DA
  d_fm : DA
  d_te : DA
  d_ao : DA
  d_an : DA
  m_Bi : DA
  m_Qi : DA
  m_Ki : DA
  m_addBin : DA
  m_addFlour : DA
  m_setPrice : DA
  m_emptyBin : DA
  m_setReq : DA
  m_cheap : DA
  m_mkCheap : DA
  m_mkBlend : DA
  m_check : DA
  m_count : DA
  m_great : DA
  m_extr : DA
  m_obst : DA
  m_ifPrice : DA
  m_without : DA
  m_descr : DA
  m_from_ : DA
  m_with_ : DA
  m_hasBin : DA
  m_hasForm : DA
  m_take : DA
  m_Ri : DA
  m_more : DA
  m_one : DA
  m_several : DA
  cB : Addr
  cQ : Addr
  cK : Addr
  cR : Addr
  tNum : Addr
  tRow : Addr
  k_NO_INSTANCE : Tok
  k_NO_SUCH_BIN : Tok
  k_OUT_OF_RANGE : Tok
  k_TOO_MANY_BINS : Tok
  k_TOO_LITTLE_FLOUR : Tok
  k_NOT_VALID : Tok
  k_NO_OBSTACLE : Tok
  k_NO_BLEND : Tok
  k_TOO_WEAK : Tok
  k_TOO_STRONG : Tok
  k_TOO_MUCH_ASH : Tok
  k_NONE_VALID : Tok
  k_MOST_KILOGRAMS : Tok
  k_MOST_STRENGTH : Tok
  k_MOST_ASH : Tok
  k_MOST_PRICE : Tok
  k_MOST_BINS : Tok
  k_CREATE : Tok
  k_ADD_BIN : Tok
  k_ADD_FLOUR : Tok
  k_SET_PRICE : Tok
  k_EMPTY_BIN : Tok
  k_SET_REQUEST : Tok
  k_CHEAPEST_BLEND : Tok
  k_MAKE_CHEAPEST_BLEND : Tok
  k_MAKE_BLEND : Tok
  k_CHECK_BLEND : Tok
  k_COUNT_BLENDS : Tok
  k_GREATEST_AMOUNT : Tok
  k_EXTREME_AVERAGES : Tok
  k_OBSTACLE : Tok
  k_CHEAPEST_IF_PRICE : Tok
  k_CHEAPEST_WITHOUT : Tok
/-- a def of the module -/
structure DefAt (K : PySem.W.Frag) (mg : Str → Option Value) (x : Str) (st : Stmt) (ps : List Str) (d : DA) : Prop where
  g : mg x = some (.ref d.f)
  F : Fun K x x st d.f d.fd
  b : Binds K d.fd ps []
theorem DefAt.k {K : PySem.W.Frag} {mg : Str → Option Value} {x : Str} {st : Stmt} {ps : List Str} {d : DA} (D : DefAt K mg x st ps d) : PySem.W.keepIn K (.ref d.f) = true := D.F.kp
/-- a method of the class at C -/
structure MethAt (K : PySem.W.Frag) (C : Addr) (x qual : Str) (st : Stmt) (ps : List Str) (d : DA) : Prop where
  m : Meth K C x d.f
  F : Fun K x qual st d.f d.fd
  b : Binds K d.fd ps []
/-- the __init__ of the class at C -/
structure InitAt (K : PySem.W.Frag) (C : Addr) (qual : Str) (st : Stmt) (ps : List Str) (d : DA) : Prop where
  M : Mk K C d.f
  F : Fun K "__init__" qual st d.f d.fd
  b : Binds K d.fd ps []
/-- what the top leaves -/
structure Txt (K : PySem.W.Frag) (mg : Str → Option Value) (A : Ads) : Prop where
  gd : DefAt K mg "greatest_divisor" s_gd ["first", "second"] A.d_gd
  av : DefAt K mg "average" s_av ["total", "weight"] A.d_av
  bf : DefAt K mg "blends_from" s_bf ["amounts", "weight"] A.d_bf
  ab : DefAt K mg "available_blends" s_ab ["bins", "weight"] A.d_ab
  co : DefAt K mg "cost_of" s_co ["bins", "blend"] A.d_co
  ss : DefAt K mg "strength_sum" s_ss ["bins", "blend"] A.d_ss
  as : DefAt K mg "ash_sum" s_as ["bins", "blend"] A.d_as
  ia : DefAt K mg "is_available" s_ia ["bins", "blend"] A.d_ia
  kb : DefAt K mg "keeps_bounds" s_kb ["request", "weight", "strength", "ash"] A.d_kb
  mr : DefAt K mg "meets_request" s_mr ["bins", "request", "blend"] A.d_mr
  iv : DefAt K mg "is_valid" s_iv ["bins", "request", "blend"] A.d_iv
  vb : DefAt K mg "valid_blends" s_vb ["bins", "request"] A.d_vb
  fc : DefAt K mg "find_cheapest" s_fc ["bins", "request"] A.d_fc
  su : DefAt K mg "sums_up_to" s_su ["bins", "most"] A.d_su
  gw : DefAt K mg "greatest_weight" s_gw ["bins", "request", "most"] A.d_gw
  fo : DefAt K mg "find_obstacle" s_fo ["bins", "request"] A.d_fo
  ip : DefAt K mg "is_price" s_ip ["price"] A.d_ip
  im : DefAt K mg "is_amount" s_im ["kilograms"] A.d_im
  ih : DefAt K mg "is_ash" s_ih ["ash"] A.d_ih
  iw : DefAt K mg "is_weight" s_iw ["n"] A.d_iw
  cs : DefAt K mg "change_stock" s_cs ["bakery", "call", "numbers"] A.d_cs
  fm : DefAt K mg "find_or_make" s_fm ["bakery", "call", "row"] A.d_fm
  te : DefAt K mg "tell" s_te ["bakery", "call", "numbers", "row"] A.d_te
  ao : DefAt K mg "answer_of" s_ao ["bakery", "call", "numbers", "row"] A.d_ao
  an : DefAt K mg "answers" s_an ["calls"] A.d_an
  Bi : InitAt K A.cB "Bin.__init__" s_Bi ["self", "kilograms", "strength", "ash", "price"] A.m_Bi
  Qi : InitAt K A.cQ "Request.__init__" s_Qi ["self", "n", "min_strength", "max_strength", "max_ash"] A.m_Qi
  Ki : InitAt K A.cK "Bakery.__init__" s_Ki ["self"] A.m_Ki
  addBin : MethAt K A.cK "add_bin" "Bakery.add_bin" s_addBin ["self", "kilograms", "strength", "ash", "price"] A.m_addBin
  addFlour : MethAt K A.cK "add_flour" "Bakery.add_flour" s_addFlour ["self", "i", "kilograms"] A.m_addFlour
  setPrice : MethAt K A.cK "set_price" "Bakery.set_price" s_setPrice ["self", "i", "price"] A.m_setPrice
  emptyBin : MethAt K A.cK "empty_bin" "Bakery.empty_bin" s_emptyBin ["self", "i"] A.m_emptyBin
  setReq : MethAt K A.cK "set_request" "Bakery.set_request" s_setReq ["self", "n", "min_strength", "max_strength", "max_ash"] A.m_setReq
  cheap : MethAt K A.cK "cheapest_blend" "Bakery.cheapest_blend" s_cheap ["self"] A.m_cheap
  mkCheap : MethAt K A.cK "make_cheapest_blend" "Bakery.make_cheapest_blend" s_mkCheap ["self"] A.m_mkCheap
  mkBlend : MethAt K A.cK "make_blend" "Bakery.make_blend" s_mkBlend ["self", "blend"] A.m_mkBlend
  check : MethAt K A.cK "check_blend" "Bakery.check_blend" s_check ["self", "blend"] A.m_check
  count : MethAt K A.cK "count_blends" "Bakery.count_blends" s_count ["self"] A.m_count
  great : MethAt K A.cK "greatest_amount" "Bakery.greatest_amount" s_great ["self"] A.m_great
  extr : MethAt K A.cK "extreme_averages" "Bakery.extreme_averages" s_extr ["self", "n"] A.m_extr
  obst : MethAt K A.cK "obstacle" "Bakery.obstacle" s_obst ["self"] A.m_obst
  ifPrice : MethAt K A.cK "cheapest_if_price" "Bakery.cheapest_if_price" s_ifPrice ["self", "i", "price"] A.m_ifPrice
  without : MethAt K A.cK "cheapest_without" "Bakery.cheapest_without" s_without ["self", "i"] A.m_without
  descr : MethAt K A.cK "describe" "Bakery.describe" s_descr ["self"] A.m_descr
  from_ : MethAt K A.cK "cheapest_from" "Bakery.cheapest_from" s_from_ ["self", "bins"] A.m_from_
  with_ : MethAt K A.cK "cheapest_with" "Bakery.cheapest_with" s_with_ ["self", "i", "other"] A.m_with_
  hasBin : MethAt K A.cK "has_bin" "Bakery.has_bin" s_hasBin ["self", "i"] A.m_hasBin
  hasForm : MethAt K A.cK "has_form" "Bakery.has_form" s_hasForm ["self", "blend"] A.m_hasForm
  take : MethAt K A.cK "take_out" "Bakery.take_out" s_take ["self", "blend"] A.m_take
  Ri : InitAt K A.cR "Reader.__init__" s_Ri ["self", "calls"] A.m_Ri
  more : MethAt K A.cR "has_more" "Reader.has_more" s_more ["self"] A.m_more
  one : MethAt K A.cR "take_one" "Reader.take_one" s_one ["self"] A.m_one
  several : MethAt K A.cR "take_several" "Reader.take_several" s_several ["self", "how_many"] A.m_several
  clB : Cls K A.cB
  mgB : mg "Bin" = some (.ref A.cB)
  nB_kilograms : NoAttr K A.cB "kilograms"
  nB_strength : NoAttr K A.cB "strength"
  nB_ash : NoAttr K A.cB "ash"
  nB_price : NoAttr K A.cB "price"
  clQ : Cls K A.cQ
  mgQ : mg "Request" = some (.ref A.cQ)
  nQ_n : NoAttr K A.cQ "n"
  nQ_min_strength : NoAttr K A.cQ "min_strength"
  nQ_max_strength : NoAttr K A.cQ "max_strength"
  nQ_max_ash : NoAttr K A.cQ "max_ash"
  clK : Cls K A.cK
  mgK : mg "Bakery" = some (.ref A.cK)
  nK_bins : NoAttr K A.cK "bins"
  nK_request : NoAttr K A.cK "request"
  nK_spent : NoAttr K A.cK "spent"
  clR : Cls K A.cR
  mgR : mg "Reader" = some (.ref A.cR)
  nR_calls : NoAttr K A.cR "calls"
  nR_place : NoAttr K A.cR "place"
  mg_NUMBERS_OF_CALL : mg "NUMBERS_OF_CALL" = some (.ref A.tNum)
  at_NUMBERS_OF_CALL : ∀ H : Hp, SqT K H A.tNum (([0, 4, 2, 2, 1, 4, 0, 0, 0, 0, 0, 0, 1, 0, 2, 1, 0] : List Int).map V.int)
  mg_CALLS_WITH_ROW : mg "CALLS_WITH_ROW" = some (.ref A.tRow)
  at_CALLS_WITH_ROW : ∀ H : Hp, SqT K H A.tRow (([8, 9] : List Int).map V.int)
  g_NO_INSTANCE : mg "NO_INSTANCE" = some (.int (-11) A.k_NO_INSTANCE)
  g_NO_SUCH_BIN : mg "NO_SUCH_BIN" = some (.int (-2) A.k_NO_SUCH_BIN)
  g_OUT_OF_RANGE : mg "OUT_OF_RANGE" = some (.int (-22) A.k_OUT_OF_RANGE)
  g_TOO_MANY_BINS : mg "TOO_MANY_BINS" = some (.int (-28) A.k_TOO_MANY_BINS)
  g_TOO_LITTLE_FLOUR : mg "TOO_LITTLE_FLOUR" = some (.int (-6) A.k_TOO_LITTLE_FLOUR)
  g_NOT_VALID : mg "NOT_VALID" = some (.int (-33) A.k_NOT_VALID)
  g_NO_OBSTACLE : mg "NO_OBSTACLE" = some (.int (0) A.k_NO_OBSTACLE)
  g_NO_BLEND : mg "NO_BLEND" = some (.int (1) A.k_NO_BLEND)
  g_TOO_WEAK : mg "TOO_WEAK" = some (.int (2) A.k_TOO_WEAK)
  g_TOO_STRONG : mg "TOO_STRONG" = some (.int (3) A.k_TOO_STRONG)
  g_TOO_MUCH_ASH : mg "TOO_MUCH_ASH" = some (.int (4) A.k_TOO_MUCH_ASH)
  g_NONE_VALID : mg "NONE_VALID" = some (.int (5) A.k_NONE_VALID)
  g_MOST_KILOGRAMS : mg "MOST_KILOGRAMS" = some (.int (30) A.k_MOST_KILOGRAMS)
  g_MOST_STRENGTH : mg "MOST_STRENGTH" = some (.int (999) A.k_MOST_STRENGTH)
  g_MOST_ASH : mg "MOST_ASH" = some (.int (999) A.k_MOST_ASH)
  g_MOST_PRICE : mg "MOST_PRICE" = some (.int (99) A.k_MOST_PRICE)
  g_MOST_BINS : mg "MOST_BINS" = some (.int (4) A.k_MOST_BINS)
  g_CREATE : mg "CREATE" = some (.int (0) A.k_CREATE)
  g_ADD_BIN : mg "ADD_BIN" = some (.int (1) A.k_ADD_BIN)
  g_ADD_FLOUR : mg "ADD_FLOUR" = some (.int (2) A.k_ADD_FLOUR)
  g_SET_PRICE : mg "SET_PRICE" = some (.int (3) A.k_SET_PRICE)
  g_EMPTY_BIN : mg "EMPTY_BIN" = some (.int (4) A.k_EMPTY_BIN)
  g_SET_REQUEST : mg "SET_REQUEST" = some (.int (5) A.k_SET_REQUEST)
  g_CHEAPEST_BLEND : mg "CHEAPEST_BLEND" = some (.int (6) A.k_CHEAPEST_BLEND)
  g_MAKE_CHEAPEST_BLEND : mg "MAKE_CHEAPEST_BLEND" = some (.int (7) A.k_MAKE_CHEAPEST_BLEND)
  g_MAKE_BLEND : mg "MAKE_BLEND" = some (.int (8) A.k_MAKE_BLEND)
  g_CHECK_BLEND : mg "CHECK_BLEND" = some (.int (9) A.k_CHECK_BLEND)
  g_COUNT_BLENDS : mg "COUNT_BLENDS" = some (.int (10) A.k_COUNT_BLENDS)
  g_GREATEST_AMOUNT : mg "GREATEST_AMOUNT" = some (.int (11) A.k_GREATEST_AMOUNT)
  g_EXTREME_AVERAGES : mg "EXTREME_AVERAGES" = some (.int (12) A.k_EXTREME_AVERAGES)
  g_OBSTACLE : mg "OBSTACLE" = some (.int (13) A.k_OBSTACLE)
  g_CHEAPEST_IF_PRICE : mg "CHEAPEST_IF_PRICE" = some (.int (14) A.k_CHEAPEST_IF_PRICE)
  g_CHEAPEST_WITHOUT : mg "CHEAPEST_WITHOUT" = some (.int (15) A.k_CHEAPEST_WITHOUT)
  b_len : mg "len" = none
  b_min : mg "min" = none
  b_max : mg "max" = none
  b_sum : mg "sum" = none
  b_zip : mg "zip" = none
  b_range : mg "range" = none
  b_all : mg "all" = none
  b_any : mg "any" = none
  b_list : mg "list" = none
end FB

/-! ## FBData -/
set_option maxRecDepth 100000
set_option maxHeartbeats 2000000
/-! The data on the heap. -/
namespace FB
open PySem PySem.Spec PyProof.Rows L2
/-- two lists, item by item -/
inductive Pr {α β : Type} (R : α → β → Prop) : List α → List β → Prop
  | nil : Pr R [] []
  | cons {a : α} {b : β} {as : List α} {bs : List β} : R a b → Pr R as bs → Pr R (a :: as) (b :: bs)
namespace Pr
variable {α β : Type} {R S : α → β → Prop}
theorem len : ∀ {as : List α} {bs : List β}, Pr R as bs → as.length = bs.length
  | _, _, .nil => rfl
  | _, _, .cons _ t => congrArg (· + 1) t.len
theorem imp (h : ∀ a b, R a b → S a b) : ∀ {as : List α} {bs : List β}, Pr R as bs → Pr S as bs
  | _, _, .nil => .nil
  | _, _, .cons r t => .cons (h _ _ r) (t.imp h)
theorem impm : ∀ {as : List α} {bs : List β}, (∀ a ∈ as, ∀ b, R a b → S a b) → Pr R as bs → Pr S as bs
  | _, _, _, .nil => .nil
  | _, _, h, .cons r t => .cons (h _ (List.mem_cons_self ..) _ r) (t.impm fun a m => h a (List.mem_cons_of_mem _ m))
theorem at_ : ∀ {as : List α} {bs : List β} {i : Nat} {b : β}, Pr R as bs → bs[i]? = some b → ∃ a, as[i]? = some a ∧ R a b
  | _, _, _, _, .nil, e => by simp at e
  | a :: _, _, 0, b, .cons r _, e => ⟨a, rfl, by
      have q := Option.some.inj e
      rw [← q]
      exact r⟩
  | _, _, i + 1, b, .cons _ t, e => t.at_ (i := i) e
theorem at2 : ∀ {as : List α} {bs : List β} {i : Nat} {a : α}, Pr R as bs → as[i]? = some a → ∃ b, bs[i]? = some b ∧ R a b
  | _, _, _, _, .nil, e => by simp at e
  | _, b :: _, 0, a, .cons r _, e => ⟨b, rfl, by
      have q := Option.some.inj e
      rw [← q]
      exact r⟩
  | _, _, i + 1, a, .cons _ t, e => t.at2 (i := i) e
theorem snoc {a : α} {b : β} (r : R a b) : ∀ {as : List α} {bs : List β}, Pr R as bs → Pr R (as ++ [a]) (bs ++ [b])
  | _, _, .nil => .cons r .nil
  | _, _, .cons q t => .cons q (t.snoc r)
theorem set {a : α} {b : β} (r : R a b) : ∀ {as : List α} {bs : List β} (i : Nat), Pr R as bs → Pr R (as.set i a) (bs.set i b)
  | _, _, _, .nil => .nil
  | _, _, 0, .cons _ t => .cons r t
  | _, _, i + 1, .cons q t => .cons q (t.set r i)
/-- item i changed on the right alone, where the left's items are all different -/
theorem put {a : α} {b : β} (r : S a b) : ∀ {as : List α} {bs : List β} {i : Nat}, as.Nodup → as[i]? = some a → (∀ x ∈ as, x ≠ a → ∀ y, R x y → S x y) → Pr R as bs → Pr S as (bs.set i b)
  | _, _, _, _, _, _, .nil => .nil
  | x :: as, _, 0, nd, e, h, .cons _ t => by
    have q : x = a := Option.some.inj e
    rw [q] at nd ⊢
    exact .cons r (t.impm fun y m z => h y (List.mem_cons_of_mem _ m) (fun e => (List.nodup_cons.mp nd).1 (e ▸ m)) z)
  | x :: as, _, i + 1, nd, e, h, .cons q t => by
    have ha : a ∈ as := List.mem_of_getElem? e
    exact .cons (h x (List.mem_cons_self ..) (fun e => (List.nodup_cons.mp nd).1 (e ▸ ha)) _ q) (t.put (i := i) r (List.nodup_cons.mp nd).2 e fun y m => h y (List.mem_cons_of_mem _ m))
end Pr
/-! ### values -/
abbrev nV (n : Nat) : V := .int (n : Int)
def natV (l : List Nat) : List V := l.map nV
def refV (l : List Addr) : List V := l.map V.ref
theorem natV_at {l : List Nat} {i : Nat} {y : V} (h : (natV l)[i]? = some y) : ∃ n, l[i]? = some n ∧ y = nV n := by
  unfold natV at h
  rw [List.getElem?_map] at h
  cases e : l[i]? with
  | none =>
    rw [e] at h
    cases h
  | some n =>
    rw [e] at h
    exact ⟨n, rfl, (Option.some.inj h).symm⟩
theorem refV_at {l : List Addr} {i : Nat} {y : V} (h : (refV l)[i]? = some y) : ∃ n, l[i]? = some n ∧ y = V.ref n := by
  unfold refV at h
  rw [List.getElem?_map] at h
  cases e : l[i]? with
  | none =>
    rw [e] at h
    cases h
  | some n =>
    rw [e] at h
    exact ⟨n, rfl, (Option.some.inj h).symm⟩
theorem natV_len (l : List Nat) : (natV l).length = l.length := List.length_map _
theorem refV_len (l : List Addr) : (refV l).length = l.length := List.length_map _
theorem natV_int (l : List Nat) : natV l = (l.map fun (n : Nat) => (n : Int)).map V.int := by
  unfold natV
  rw [List.map_map]
  rfl
theorem take_more {α : Type} : ∀ {l : List α} {i : Nat} {x : α}, l[i]? = some x → l.take (i + 1) = l.take i ++ [x]
  | [], i, x, h => by simp at h
  | a :: l, 0, x, h => by
    have e : a = x := Option.some.inj h
    subst e
    rfl
  | a :: l, i + 1, x, h => by
    have ih := take_more (l := l) (i := i) (x := x) h
    show a :: l.take (i + 1) = a :: l.take i ++ [x]
    rw [ih]
    rfl
theorem size_small {n : Nat} (h : n ≤ 16777216) : n ≤ sizeLine := by
  rw [sizeLine_eq]
  exact h
theorem size_less {n : Nat} (h : n < 16777216) : n < sizeLine := by
  rw [sizeLine_eq]
  exact h
theorem same_upd {H H1 : Hp} {a : Addr} {o : HO} (s : Same H H1) (n : H1 a = none) : Same H (upd H1 a o) := fun b u e => (upd_ne (ne_of_none (s b u e) n)).trans (s b u e)
theorem same_put0 {H H1 : Hp} {a : Addr} {o : HO} (s : Same H H1) (n : H a = none) : Same H (upd H1 a o) := fun b u e => (upd_ne (ne_of_none e n)).trans (s b u e)
/-! ### bins -/
abbrev binF (b : Sr96.Bin) : List (Str × V) := [("kilograms", nV b.kilograms), ("strength", nV b.strength), ("ash", nV b.ash), ("price", nV b.price)]
abbrev reqF (r : Sr96.Request) : List (Str × V) := [("n", nV r.kilograms), ("min_strength", nV r.minStrength), ("max_strength", nV r.maxStrength), ("max_ash", nV r.maxAsh)]
def BinAt (C : Addr) (H : Hp) (a : Addr) (b : Sr96.Bin) : Prop := ∃ dx, H a = some (.ins C dx (binF b))
def ReqAt (C : Addr) (H : Hp) (a : Addr) (r : Sr96.Request) : Prop := ∃ dx, H a = some (.ins C dx (reqF r))
/-- a list of bins -/
def BinL (C : Addr) (H : Hp) (l : Addr) (bs : List Sr96.Bin) : Prop := ∃ as, H l = some (.lst (refV as)) ∧ Pr (BinAt C H) as bs
/-- a list of whole numbers; a list of such lists -/
def NumL (H : Hp) (a : Addr) (x : List Nat) : Prop := H a = some (.lst (natV x))
def BlL (H : Hp) (a : Addr) (l : List (List Nat)) : Prop := ∃ as, H a = some (.lst (refV as)) ∧ Pr (NumL H) as l
theorem BinAt.same {C : Addr} {H H' : Hp} {a : Addr} {b : Sr96.Bin} (h : BinAt C H a b) (s : Same H H') : BinAt C H' a b := let ⟨dx, e⟩ := h; ⟨dx, s _ _ e⟩
theorem ReqAt.same {C : Addr} {H H' : Hp} {a : Addr} {b : Sr96.Request} (h : ReqAt C H a b) (s : Same H H') : ReqAt C H' a b := let ⟨dx, e⟩ := h; ⟨dx, s _ _ e⟩
theorem NumL.same {H H' : Hp} {a : Addr} {x : List Nat} (h : NumL H a x) (s : Same H H') : NumL H' a x := s _ _ h
theorem BinL.same {C : Addr} {H H' : Hp} {a : Addr} {b : List Sr96.Bin} (h : BinL C H a b) (s : Same H H') : BinL C H' a b := let ⟨as, e, p⟩ := h; ⟨as, s _ _ e, p.imp fun _ _ q => q.same s⟩
theorem BlL.same {H H' : Hp} {a : Addr} {b : List (List Nat)} (h : BlL H a b) (s : Same H H') : BlL H' a b := let ⟨as, e, p⟩ := h; ⟨as, s _ _ e, p.imp fun _ _ q => q.same s⟩
/-- the numbers' ranges -/
structure GoodB (b : Sr96.Bin) : Prop where
  kilograms : b.kilograms ≤ 30
  strength : b.strength ≤ 999
  ash : b.ash ≤ 999
  price : b.price ≤ 99
structure GoodBs (bs : List Sr96.Bin) : Prop where
  len : bs.length ≤ 4
  all : ∀ b ∈ bs, GoodB b
structure GoodR (r : Sr96.Request) : Prop where
  kilograms : r.kilograms ≤ 30
  minStrength : r.minStrength ≤ 999
  maxStrength : r.maxStrength ≤ 999
  maxAsh : r.maxAsh ≤ 999
/-! ### comprehensions: the list made so far stands at D, all else as it was -/
def Made (H1 : Hp) (D : Addr) (xs : List V) (H : Hp) : Prop := Same H1 H ∧ H D = some (.lst xs)
theorem Made.start {H1 : Hp} {D : Addr} (n : H1 D = none) : Made H1 D [] (upd H1 D (.lst [])) := ⟨same_upd (Same.refl _) n, upd_same⟩
theorem Made.next {H1 H H4 : Hp} {D : Addr} {xs ys : List V} {y : V} (n : H1 D = none) (p : Made H1 D xs H) (s : Same H H4) (e : ys = xs ++ [y]) (hz : xs.length < 16777216) : ∃ acc, H4 D = some (.lst acc) ∧ acc.length < sizeLine ∧ Made H1 D ys (upd H4 D (.lst (acc ++ [y]))) :=
  ⟨xs, s _ _ p.2, size_less hz, same_put0 (p.1.trans s) n, by rw [upd_same, e]⟩
theorem Made.stay {H1 H H4 : Hp} {D : Addr} {xs ys : List V} (p : Made H1 D xs H) (s : Same H H4) (e : ys = xs) : Made H1 D ys H4 := ⟨p.1.trans s, by rw [e]; exact s _ _ p.2⟩
end FB

/-! ## FBA -/
set_option maxRecDepth 100000
set_option maxHeartbeats 2000000
/-! averages, the small tests, the sums. -/
namespace FB
open PySem PySem.Spec PyProof.Rows L2
def spGd : Sp := fun vs H Q _ => ∃ a b : Nat, vs = [nV a, nV b] ∧ Q (nV (Nat.gcd a b)) H
def spAv : Sp := fun vs H Q _ => ∃ t w : Nat, vs = [nV t, nV w] ∧ w ≤ 1000 ∧ ∀ p H', Same H H' → H p = none → H' p = some (.lst ((Sr96.average t w).map V.int)) → Q (.ref p) H'
def spTest (f : Int → Bool) : Sp := fun vs H Q _ => ∃ i : Int, vs = [.int i] ∧ Q (.bl (f i)) H
def spKb (C : Addr) : Sp := fun vs H Q _ => ∃ (a : Addr) (r : Sr96.Request) (n st ash : Nat), vs = [.ref a, nV n, nV st, nV ash] ∧ ReqAt C H a r ∧ GoodR r ∧ Q (.bl (keeps r n st ash)) H
def spSum (C : Addr) (p : Sr96.Bin → Nat) : Sp := fun vs H Q _ => ∃ (l x : Addr) (bs : List Sr96.Bin) (xs : List Nat), vs = [.ref l, .ref x] ∧ BinL C H l bs ∧ NumL H x xs ∧ GoodBs bs ∧ ∀ H', Same H H' → Q (nV (Sr96.total p bs xs)) H'
def spIa (C : Addr) : Sp := fun vs H Q _ => ∃ (l x : Addr) (bs : List Sr96.Bin) (xs : List Nat), vs = [.ref l, .ref x] ∧ BinL C H l bs ∧ NumL H x xs ∧ GoodBs bs ∧ ∀ H', Same H H' → Q (.bl ((bs.zip xs).all fun y => decide (y.2 ≤ y.1.kilograms))) H'
theorem dle (a b : Nat) : decide ((a : Int) ≤ (b : Int)) = decide (a ≤ b) := by
  rw [Bool.eq_iff_iff]
  simp
theorem relI {i : Int} {t : Tok} : RelV (.int i) (Value.int i t) := ⟨t, rfl⟩
theorem lookF {f : Str} {fs : List (Str × V)} {v : V} (h : fs.lookup f = some v) : fs.lookup f = some v := h
section
variable {P : Program} {w : World} {K : PySem.W.Frag} {mg : Str → Option Value} {base : Heap} {A : Ads}
theorem ok_gd (T : Txt K mg A) : FnOk P w K mg base CX0 1 A.d_gd.f A.d_gd.fd ["first", "second"] spGd := by
  refine T.gd.F.ok c_gd (fun vs H Q E h => ?_) (fun cdv Ar outer s H vs Q E hr h => ?_)
  · obtain ⟨a, b, rfl, _⟩ := h
    rfl
  · obtain ⟨a, b, rfl, k⟩ := h
    refine ⟨_, pss_cons (ps_while PassesOwn.never (pt_cmpR op_ne (pv 1) pe_int (nomark _))
      (pss_cons (ps_set (i := 2) c_gd.nd rfl (Or.inl rfl) (pe_op op_mod (pv 0) (pv 1)))
      (pss_cons (ps_set (i := 0) c_gd.nd rfl (Or.inl rfl) (pv 1))
      (pss_one (ps_set (i := 1) c_gd.nd rfl (Or.inl rfl) (pv 2))))))
      (pss_one (ps_ret (pv 0))), ?_⟩
    refine while_by (fun σ H' => H' = H ∧ ∃ (x y : Nat) (z : Option V), σ = [some (nV x), some (nV y), z] ∧ Nat.gcd x y = Nat.gcd a b) (fun σ _ => match σ with | [_, some (.int y), _] => y.toNat | _ => 0) ⟨rfl, a, b, none, rfl, rfl⟩ ?_ ?_
    · rintro σ H' ⟨rfl, x, y, z, rfl, e⟩
      refine ⟨_, rfl, ?_⟩
      refine ⟨rfl, _, rfl, ?_⟩
      by_cases hy : y = 0
      · subst hy
        refine iteF ⟨_, rfl, ?_⟩
        rw [Nat.gcd_zero_right] at e
        show Q (nV x) _
        rw [e]
        exact k
      · have hy2 : ¬ (V.int (y : Int) = V.int 0) := fun q => hy (by injection q with q; omega)
        show if (!decide (V.int (y : Int) = V.int 0)) = true then _ else _
        rw [decide_eq_false hy2]
        refine iteT ⟨_, rfl, _, rfl, _, _, rfl, rfl, (by omega), _, rfl, _, rfl, ⟨rfl, y, x % y, some (nV (x % y)), rfl, ?_⟩, ?_⟩
        · rw [← e, Nat.gcd_comm x y, Nat.gcd_rec y x, Nat.gcd_comm]
        · show ((x : Int) % (y : Int)).toNat < ((y : Int)).toNat
          have h1 := Nat.mod_lt x (Nat.pos_of_ne_zero hy)
          omega
    · rintro σ H' Q1 Q2 hm ⟨v, e, q1, q2, e2, q3⟩
      exact ⟨v, e, q1, q2, e2, hm _ _ q3⟩
theorem ok_av (T : Txt K mg A) : FnOk P w K mg base CX0 2 A.d_av.f A.d_av.fd ["total", "weight"] spAv := by
  refine T.av.F.ok c_av (fun vs H Q E h => ?_) (fun cdv Ar outer s H vs Q E hr h => ?_)
  · obtain ⟨a, b, rfl, _⟩ := h
    rfl
  · obtain ⟨t, n, rfl, hn, k⟩ := h
    refine ⟨_, pss_cons (ps_if (pt_cmpR op_eq (pv 1) pe_int (nomark _)) (pss_one (ps_ret (pe_lst (pa_cons pe_int (pa_cons pe_int pa_nil))))) pss_nil)
      (pss_cons (ps_set (i := 2) c_av.nd rfl (Or.inl rfl) (pe_call (ok_gd T) hr rfl T.gd.g T.gd.k T.gd.b .nil pass0 (pa_cons (pv 1) (pa_cons (pv 0) pa_nil))))
      (pss_one (ps_ret (pe_lst (pa_cons (pe_op op_fdivNN (pv 0) (pv 2)) (pa_cons (pe_op op_fdivNN (pv 1) (pv 2)) pa_nil)))))), ?_⟩
    refine ⟨_, rfl, rfl, _, rfl, ?_⟩
    by_cases hz : n = 0
    · subst hz
      refine iteT ⟨(by show 2 ≤ sizeLine; decide), fun p np => ?_⟩
      refine k p _ (same_upd (Same.refl _) np) np ?_
      rw [upd_same, average_zero]
      rfl
    · have hy2 : ¬ (V.int (n : Int) = V.int 0) := fun q => hz (by injection q with q; omega)
      have hn0 : 0 < n := Nat.pos_of_ne_zero hz
      have hg : 0 < Nat.gcd n t := Nat.gcd_pos_of_pos_left _ hn0
      have hg2 : Nat.gcd n t ≤ n := Nat.le_of_dvd hn0 (Nat.gcd_dvd_left n t)
      show if decide (V.int (n : Int) = V.int 0) = true then _ else _
      rw [decide_eq_false hy2]
      refine iteF ⟨_, rfl, _, rfl, n, t, rfl, ?_⟩
      refine ⟨_, rfl, _, rfl, t, Nat.gcd n t, rfl, rfl, ⟨hg, by omega⟩, _, rfl, _, rfl, n, Nat.gcd n t, rfl, rfl, ⟨hg, by omega⟩, (by show 2 ≤ sizeLine; decide), fun p np => ?_⟩
      refine k p _ (same_upd (Same.refl _) np) np ?_
      rw [upd_same, average_pos t n hn0]
      rfl
theorem test_chain {lo hi i : Int} {Q : VK} {H : Hp} (k : Q (.bl (SrCommon.inRange i lo hi)) H) : if decide (lo ≤ i) = true then Q (.bl (decide (i ≤ hi))) H else Q (.bl false) H := by
  unfold SrCommon.inRange at k
  by_cases c : lo ≤ i
  · rw [decide_eq_true c] at k ⊢
    exact iteT k
  · rw [decide_eq_false c] at k ⊢
    exact iteF k
theorem ok_ip (T : Txt K mg A) : FnOk P w K mg base CX0 1 A.d_ip.f A.d_ip.fd ["price"] (spTest fun i => SrCommon.inRange i 1 99) := by
  refine T.ip.F.ok c_ip (fun vs H Q E h => ?_) (fun cdv Ar outer s H vs Q E hr h => ?_)
  · obtain ⟨a, rfl, _⟩ := h
    rfl
  · obtain ⟨i, rfl, k⟩ := h
    refine ⟨_, pss_one (ps_ret (pe_chain op_le op_le pe_int (pv 0) (pe_glob rfl T.g_MOST_PRICE relI))), ?_⟩
    exact ⟨_, rfl, _, _, rfl, rfl, _, rfl, ite2 (fun c => ⟨_, _, rfl, rfl, by
      have q := test_chain (lo := 1) (hi := 99) k
      rwa [if_pos c] at q⟩) (fun c => by
      have q := test_chain (lo := 1) (hi := 99) k
      rwa [if_neg c] at q)⟩
theorem ok_im (T : Txt K mg A) : FnOk P w K mg base CX0 1 A.d_im.f A.d_im.fd ["kilograms"] (spTest fun i => SrCommon.inRange i 0 30) := by
  refine T.im.F.ok c_im (fun vs H Q E h => ?_) (fun cdv Ar outer s H vs Q E hr h => ?_)
  · obtain ⟨a, rfl, _⟩ := h
    rfl
  · obtain ⟨i, rfl, k⟩ := h
    refine ⟨_, pss_one (ps_ret (pe_chain op_le op_le pe_int (pv 0) (pe_glob rfl T.g_MOST_KILOGRAMS relI))), ?_⟩
    exact ⟨_, rfl, _, _, rfl, rfl, _, rfl, ite2 (fun c => ⟨_, _, rfl, rfl, by
      have q := test_chain (lo := 0) (hi := 30) k
      rwa [if_pos c] at q⟩) (fun c => by
      have q := test_chain (lo := 0) (hi := 30) k
      rwa [if_neg c] at q)⟩
theorem ok_ih (T : Txt K mg A) : FnOk P w K mg base CX0 1 A.d_ih.f A.d_ih.fd ["ash"] (spTest fun i => SrCommon.inRange i 0 999) := by
  refine T.ih.F.ok c_ih (fun vs H Q E h => ?_) (fun cdv Ar outer s H vs Q E hr h => ?_)
  · obtain ⟨a, rfl, _⟩ := h
    rfl
  · obtain ⟨i, rfl, k⟩ := h
    refine ⟨_, pss_one (ps_ret (pe_chain op_le op_le pe_int (pv 0) (pe_glob rfl T.g_MOST_ASH relI))), ?_⟩
    exact ⟨_, rfl, _, _, rfl, rfl, _, rfl, ite2 (fun c => ⟨_, _, rfl, rfl, by
      have q := test_chain (lo := 0) (hi := 999) k
      rwa [if_pos c] at q⟩) (fun c => by
      have q := test_chain (lo := 0) (hi := 999) k
      rwa [if_neg c] at q)⟩
theorem ok_iw (T : Txt K mg A) : FnOk P w K mg base CX0 1 A.d_iw.f A.d_iw.fd ["n"] (spTest fun i => SrCommon.inRange i 1 30) := by
  refine T.iw.F.ok c_iw (fun vs H Q E h => ?_) (fun cdv Ar outer s H vs Q E hr h => ?_)
  · obtain ⟨a, rfl, _⟩ := h
    rfl
  · obtain ⟨i, rfl, k⟩ := h
    refine ⟨_, pss_one (ps_ret (pe_chain op_le op_le pe_int (pv 0) (pe_glob rfl T.g_MOST_KILOGRAMS relI))), ?_⟩
    exact ⟨_, rfl, _, _, rfl, rfl, _, rfl, ite2 (fun c => ⟨_, _, rfl, rfl, by
      have q := test_chain (lo := 1) (hi := 30) k
      rwa [if_pos c] at q⟩) (fun c => by
      have q := test_chain (lo := 1) (hi := 30) k
      rwa [if_neg c] at q)⟩
theorem ok_kb (T : Txt K mg A) : FnOk P w K mg base CX0 1 A.d_kb.f A.d_kb.fd ["request", "weight", "strength", "ash"] (spKb A.cQ) := by
  refine T.kb.F.ok c_kb (fun vs H Q E h => ?_) (fun cdv Ar outer s H vs Q E hr h => ?_)
  · obtain ⟨a, r, n, st, ash, rfl, _⟩ := h
    rfl
  · obtain ⟨a, r, n, st, ash, rfl, ⟨dx, hR⟩, gR, k⟩ := h
    have g1 := gR.minStrength
    have g2 := gR.maxStrength
    have g3 := gR.maxAsh
    refine ⟨_, pss_cons (ps_if (pt_not (pt_chain op_le op_le (pe_op op_mul (pe_fld (pv 0) rfl) (pv 1)) (pv 2) (pe_op op_mul (pe_fld (pv 0) rfl) (pv 1)))) (pss_one (ps_ret pe_bl)) pss_nil)
      (pss_one (ps_ret (pe_cmpR op_le (pv 3) (pe_op op_mul (pe_fld (pv 0) rfl) (pv 1)) (nomark _)))), ?_⟩
    refine ⟨_, rfl, a, _, dx, _, _, rfl, hR, T.clQ, T.nQ_min_strength, rfl, _, rfl, _, _, rfl, rfl, .inl ⟨by omega, by omega⟩, _, rfl, _, _, rfl, rfl, _, rfl, ?_⟩
    have e1 : decide ((r.minStrength : Int) * (n : Int) ≤ (st : Int)) = decide (r.minStrength * n ≤ st) := by
      rw [← Int.natCast_mul]
      exact dle _ _
    have e2 : decide ((st : Int) ≤ (r.maxStrength : Int) * (n : Int)) = decide (st ≤ r.maxStrength * n) := by
      rw [← Int.natCast_mul]
      exact dle _ _
    have e3 : decide ((ash : Int) ≤ (r.maxAsh : Int) * (n : Int)) = decide (ash ≤ r.maxAsh * n) := by
      rw [← Int.natCast_mul]
      exact dle _ _
    unfold keeps at k
    rw [e1]
    by_cases c1 : r.minStrength * n ≤ st
    · rw [decide_eq_true c1] at k ⊢
      refine iteT ⟨_, rfl, a, _, dx, _, _, rfl, hR, T.clQ, T.nQ_max_strength, rfl, _, rfl, _, _, rfl, rfl, .inl ⟨by omega, by omega⟩, _, _, rfl, rfl, _, rfl, ?_⟩
      rw [e2]
      by_cases c2 : st ≤ r.maxStrength * n
      · rw [decide_eq_true c2] at k ⊢
        refine iteF ⟨_, rfl, _, rfl, a, _, dx, _, _, rfl, hR, T.clQ, T.nQ_max_ash, rfl, _, rfl, _, _, rfl, rfl, .inl ⟨by omega, by omega⟩, _, _, rfl, rfl, ?_⟩
        show Q (.bl (decide ((ash : Int) ≤ (r.maxAsh : Int) * (n : Int)))) H
        rw [e3]
        exact k
      · rw [decide_eq_false c2] at k ⊢
        exact iteT k
    · rw [decide_eq_false c1] at k ⊢
      exact iteF ⟨_, rfl, iteT k⟩
end
end FB

/-! ## FBB -/
set_option maxRecDepth 100000
set_option maxHeartbeats 2000000
/-! the sums over a blend, what they tell. -/
namespace FB
open PySem PySem.Spec PyProof.Rows L2
section
variable {P : Program} {w : World} {K : PySem.W.Frag} {mg : Str → Option Value} {base : Heap} {A : Ads}
theorem tcb1 {r : List V → Hp → VK → Prop} {ta : TE} {σ : L2.St} {H : Hp} {Q : VK} (h : ta σ H fun x H1 => r [x] H1 Q) : tCB r (tCons ta tNil) σ H Q := h
theorem tret1 {te : TE} {D : Ends} {σ : L2.St} {H : Hp} (h : te σ H D.rt) : tRet te D σ H := h
/-- a list made by a walk over bins and a blend side by side -/
theorem zip_read {C l x : Addr} {H : Hp} {as : List Addr} {bs : List Sr96.Bin} {xs : List Nat} (hl : H l = some (.lst (refV as))) (pb : Pr (BinAt C H) as bs) (hx : NumL H x xs) (hlen : bs.length ≤ 4)
    {te : TE} {g : Sr96.Bin × Nat → V} {σ : L2.St} (hσ : σ = [some (.ref l), some (.ref x), none, none])
    (ht : ∀ (a : Addr) (b : Sr96.Bin) (n : Nat) (H1 : Hp) (Q : VK), b ∈ bs → BinAt C H1 a b → Q (g (b, n)) H1 → te [some (.ref l), some (.ref x), some (.ref a), some (nV n)] H1 Q)
    {Q : VK} (hq : ∀ D H', Same H H' → H' D = some (.lst ((bs.zip xs).map g)) → Q (.ref D) H') :
    tLc (iZip K (tCons (tVar 0) (tCons (tVar 1) tNil))) (gTup K 2 (gCons (gName 2) (gCons (gName 3) gNil))) tYes te [2, 3] σ H Q := by
  subst hσ
  refine ⟨_, rfl, _, rfl, l, x, _, _, rfl, SqL.of hl, SqL.of hx, fun D hD => ?_⟩
  refine lc_it (walk_zip rfl) (fun i H' => Made H D (((bs.zip xs).take i).map g) H') (Made.start hD) (fun i H' _ p => ⟨SqL.of (p.1 _ _ hl), SqL.of (p.1 _ _ hx)⟩) ?_ ?_
  · rintro i v H1 H2 hi p ⟨T, y, z, rfl, nT, rfl, e1, e2⟩
    obtain ⟨a, ha, rfl⟩ := refV_at e1
    obtain ⟨n, hn, rfl⟩ := natV_at e2
    obtain ⟨b, hb, hB⟩ := pb.at2 ha
    have sm : Same H1 (upd H1 T (.tup [V.ref a, nV n])) := same_upd (Same.refl _) nT
    refine ⟨T, _, rfl, SqT.of upd_same, rfl, _, _, rfl, _, _, rfl, rfl, rfl, ?_⟩
    refine ht a b n _ _ (List.mem_of_getElem? hb) (hB.same (p.1.trans sm)) ?_
    have hz : (bs.zip xs)[i]? = some (b, n) := List.getElem?_zip_eq_some.mpr ⟨hb, hn⟩
    refine Made.next hD p sm (by rw [take_more hz, List.map_append]; rfl) ?_
    rw [List.length_map, List.length_take, List.length_zip]
    omega
  · rintro H' p
    refine hq D H' p.1 ?_
    rw [p.2, refV_len, natV_len, pb.len, ← List.length_zip, List.take_length]
theorem sum_read {C l x : Addr} {H : Hp} {bs : List Sr96.Bin} {xs : List Nat} {attr : Str} {pr : Sr96.Bin → Nat} (cl : Cls K C) (na : NoAttr K C attr) (lk : ∀ b, (binF b).lookup attr = some (nV (pr b))) (bd : ∀ b, GoodB b → pr b ≤ 999)
    (hb : BinL C H l bs) (hx : NumL H x xs) (gb : GoodBs bs) {σ : L2.St} (hσ : σ = [some (.ref l), some (.ref x), none, none]) {Q : VK} (k : ∀ H', Same H H' → Q (nV (Sr96.total pr bs xs)) H') :
    tCB (rSum K) (tCons (tLc (iZip K (tCons (tVar 0) (tCons (tVar 1) tNil))) (gTup K 2 (gCons (gName 2) (gCons (gName 3) gNil))) tYes (tOp (rI CMul fun i j => .int (i * j)) (tFld K (tVar 2) attr) (tVar 3)) [2, 3]) tNil) σ H Q := by
  obtain ⟨as, hl, pb⟩ := hb
  refine tcb1 (zip_read (K := K) (C := C) (g := fun y => .int (((pr y.1 : Nat) : Int) * ((y.2 : Nat) : Int))) hl pb hx gb.len hσ (fun a b n H1 Q1 hm hB q => ?_) fun D H' sm hD => ?_)
  · obtain ⟨dx, hB⟩ := hB
    have h1 := bd b (gb.all b hm)
    exact ⟨_, rfl, a, C, dx, _, _, rfl, hB, cl, na, lk b, _, rfl, _, _, rfl, rfl, .inl ⟨by omega, by omega⟩, q⟩
  · refine ⟨D, (bs.zip xs).map fun y => ((pr y.1 : Nat) : Int) * ((y.2 : Nat) : Int), rfl, SqL.of ?_, ?_⟩
    · rw [hD, List.map_map]
      rfl
    · rw [cast_total]
      exact k H' sm
theorem ok_co (T : Txt K mg A) : FnOk P w K mg base CX0 1 A.d_co.f A.d_co.fd ["bins", "blend"] (spSum A.cB Sr96.Bin.price) := by
  refine T.co.F.ok c_co (fun vs H Q E h => ?_) (fun cdv Ar outer s H vs Q E hr h => ?_)
  · obtain ⟨l, x, bs, xs, rfl, _⟩ := h
    rfl
  · obtain ⟨l, x, bs, xs, rfl, hb, hx, gb, k⟩ := h
    exact ⟨_, pss_one (ps_ret (pe_callB (cr_sum rfl) (by rfl) T.b_sum (by decide +kernel) (pa_cons (pe_lc (own := [("one", 2), ("taken", 3)]) (g := gTup K 2 (gCons (gName 2) (gCons (gName 3) gNil))) (tt := tYes) (te := tOp (rI CMul fun i j => .int (i * j)) (tFld K (tVar 2) "price") (tVar 3)) (by rfl) c_co.nd
      (pi_zip (by rfl) T.b_zip (pa_cons (pv 0) (pa_cons (pv 1) pa_nil))) (blkOk_by (N := ["bins", "blend", "one", "taken"]) (sc := defScope s_co) (by decide +kernel))
      (by exact fun _ _ _ _ _ => pg_tup rfl (pgs_cons (pg_name (i := 2) c_co.nd rfl (Or.inl rfl)) (pgs_cons (pg_name (i := 3) c_co.nd rfl (Or.inl rfl)) pgs_nil)))
      (by exact fun _ _ _ _ _ => pts_nil) (by exact fun _ _ _ _ _ => pe_op op_mul (pe_fld (pv 2) rfl) (pv 3))) pa_nil))),
      sum_read (C := A.cB) T.clB T.nB_price (fun b => rfl) (fun b g => Nat.le_trans g.price (by decide)) hb hx gb rfl k⟩
theorem ok_ss (T : Txt K mg A) : FnOk P w K mg base CX0 1 A.d_ss.f A.d_ss.fd ["bins", "blend"] (spSum A.cB Sr96.Bin.strength) := by
  refine T.ss.F.ok c_ss (fun vs H Q E h => ?_) (fun cdv Ar outer s H vs Q E hr h => ?_)
  · obtain ⟨l, x, bs, xs, rfl, _⟩ := h
    rfl
  · obtain ⟨l, x, bs, xs, rfl, hb, hx, gb, k⟩ := h
    exact ⟨_, pss_one (ps_ret (pe_callB (cr_sum rfl) (by rfl) T.b_sum (by decide +kernel) (pa_cons (pe_lc (own := [("one", 2), ("taken", 3)]) (g := gTup K 2 (gCons (gName 2) (gCons (gName 3) gNil))) (tt := tYes) (te := tOp (rI CMul fun i j => .int (i * j)) (tFld K (tVar 2) "strength") (tVar 3)) (by rfl) c_ss.nd
      (pi_zip (by rfl) T.b_zip (pa_cons (pv 0) (pa_cons (pv 1) pa_nil))) (blkOk_by (N := ["bins", "blend", "one", "taken"]) (sc := defScope s_ss) (by decide +kernel))
      (by exact fun _ _ _ _ _ => pg_tup rfl (pgs_cons (pg_name (i := 2) c_ss.nd rfl (Or.inl rfl)) (pgs_cons (pg_name (i := 3) c_ss.nd rfl (Or.inl rfl)) pgs_nil)))
      (by exact fun _ _ _ _ _ => pts_nil) (by exact fun _ _ _ _ _ => pe_op op_mul (pe_fld (pv 2) rfl) (pv 3))) pa_nil))),
      sum_read (C := A.cB) T.clB T.nB_strength (fun b => rfl) (fun b g => g.strength) hb hx gb rfl k⟩
theorem ok_as (T : Txt K mg A) : FnOk P w K mg base CX0 1 A.d_as.f A.d_as.fd ["bins", "blend"] (spSum A.cB Sr96.Bin.ash) := by
  refine T.as.F.ok c_as (fun vs H Q E h => ?_) (fun cdv Ar outer s H vs Q E hr h => ?_)
  · obtain ⟨l, x, bs, xs, rfl, _⟩ := h
    rfl
  · obtain ⟨l, x, bs, xs, rfl, hb, hx, gb, k⟩ := h
    exact ⟨_, pss_one (ps_ret (pe_callB (cr_sum rfl) (by rfl) T.b_sum (by decide +kernel) (pa_cons (pe_lc (own := [("one", 2), ("taken", 3)]) (g := gTup K 2 (gCons (gName 2) (gCons (gName 3) gNil))) (tt := tYes) (te := tOp (rI CMul fun i j => .int (i * j)) (tFld K (tVar 2) "ash") (tVar 3)) (by rfl) c_as.nd
      (pi_zip (by rfl) T.b_zip (pa_cons (pv 0) (pa_cons (pv 1) pa_nil))) (blkOk_by (N := ["bins", "blend", "one", "taken"]) (sc := defScope s_as) (by decide +kernel))
      (by exact fun _ _ _ _ _ => pg_tup rfl (pgs_cons (pg_name (i := 2) c_as.nd rfl (Or.inl rfl)) (pgs_cons (pg_name (i := 3) c_as.nd rfl (Or.inl rfl)) pgs_nil)))
      (by exact fun _ _ _ _ _ => pts_nil) (by exact fun _ _ _ _ _ => pe_op op_mul (pe_fld (pv 2) rfl) (pv 3))) pa_nil))),
      sum_read (C := A.cB) T.clB T.nB_ash (fun b => rfl) (fun b g => g.ash) hb hx gb rfl k⟩
theorem ok_ia (T : Txt K mg A) : FnOk P w K mg base CX0 1 A.d_ia.f A.d_ia.fd ["bins", "blend"] (spIa A.cB) := by
  refine T.ia.F.ok c_ia (fun vs H Q E h => ?_) (fun cdv Ar outer s H vs Q E hr h => ?_)
  · obtain ⟨l, x, bs, xs, rfl, _⟩ := h
    rfl
  · obtain ⟨l, x, bs, xs, rfl, ⟨as, hl, pb⟩, hx, gb, k⟩ := h
    refine ⟨_, pss_one (ps_ret (pe_callB (cr_all rfl) (by rfl) T.b_all (by decide +kernel) (pa_cons (pe_lc (own := [("one", 2), ("taken", 3)]) (g := gTup K 2 (gCons (gName 2) (gCons (gName 3) gNil))) (tt := tYes) (te := tOp (rI0 fun i j => .bl (decide (i ≤ j))) (tVar 3) (tFld K (tVar 2) "kilograms")) (by rfl) c_ia.nd
      (pi_zip (by rfl) T.b_zip (pa_cons (pv 0) (pa_cons (pv 1) pa_nil))) (blkOk_by (N := ["bins", "blend", "one", "taken"]) (sc := defScope s_ia) (by decide +kernel))
      (by exact fun _ _ _ _ _ => pg_tup rfl (pgs_cons (pg_name (i := 2) c_ia.nd rfl (Or.inl rfl)) (pgs_cons (pg_name (i := 3) c_ia.nd rfl (Or.inl rfl)) pgs_nil)))
      (by exact fun _ _ _ _ _ => pts_nil) (by exact fun _ _ _ _ _ => pe_cmpR op_le (pv 3) (pe_fld (pv 2) rfl) (nomark _))) pa_nil))), ?_⟩
    refine tret1 (tcb1 (zip_read (K := K) (C := A.cB) (g := fun y => .bl (decide (((y.2 : Nat) : Int) ≤ ((y.1.kilograms : Nat) : Int)))) hl pb hx gb.len rfl (fun a b n H1 Q1 hm hB q => ?_) fun D H' sm hD => ?_))
    · obtain ⟨dx, hB⟩ := hB
      exact ⟨_, rfl, _, rfl, a, _, dx, _, _, rfl, hB, T.clB, T.nB_kilograms, rfl, _, _, rfl, rfl, q⟩
    · refine ⟨D, (bs.zip xs).map fun y => decide (((y.2 : Nat) : Int) ≤ ((y.1.kilograms : Nat) : Int)), rfl, SqL.of ?_, ?_⟩
      · rw [hD, List.map_map]
        rfl
      · have e : ((bs.zip xs).map fun y => decide (((y.2 : Nat) : Int) ≤ ((y.1.kilograms : Nat) : Int))).all id = (bs.zip xs).all fun y => decide (y.2 ≤ y.1.kilograms) := by
          rw [List.all_map]
          congr 1
          funext y
          exact dle _ _
        show Q (.bl (((bs.zip xs).map fun y => decide (((y.2 : Nat) : Int) ≤ ((y.1.kilograms : Nat) : Int))).all id)) _
        rw [e]
        exact k H' sm
end
end FB

/-! ## FBC -/
set_option maxRecDepth 100000
set_option maxHeartbeats 2000000
/-! blends, listed. -/
namespace FB
open PySem PySem.Spec PyProof.Rows L2
/-- a list of lists, all of them new -/
def BlN (H H' : Hp) (p : Addr) (l : List (List Nat)) : Prop := ∃ ads, H' p = some (.lst (refV ads)) ∧ H p = none ∧ (∀ x ∈ ads, H x = none) ∧ Pr (NumL H') ads l
theorem BlN.get {H H' : Hp} {p : Addr} {l : List (List Nat)} (b : BlN H H' p l) : BlL H' p l := let ⟨ads, e, _, _, q⟩ := b; ⟨ads, e, q⟩
def spMr (CB CQ : Addr) : Sp := fun vs H Q _ => ∃ (l q x : Addr) (bs : List Sr96.Bin) (r : Sr96.Request) (xs : List Nat), vs = [.ref l, .ref q, .ref x] ∧ BinL CB H l bs ∧ ReqAt CQ H q r ∧ NumL H x xs ∧ GoodBs bs ∧ GoodR r ∧ ∀ H', Same H H' → Q (.bl (meets bs r xs)) H'
def spIv (CB CQ : Addr) : Sp := fun vs H Q _ => ∃ (l q x : Addr) (bs : List Sr96.Bin) (r : Sr96.Request) (xs : List Nat), vs = [.ref l, .ref q, .ref x] ∧ BinL CB H l bs ∧ ReqAt CQ H q r ∧ NumL H x xs ∧ GoodBs bs ∧ GoodR r ∧ ∀ H', Same H H' → Q (.bl (((bs.zip xs).all fun y => decide (y.2 ≤ y.1.kilograms)) && meets bs r xs)) H'
def spBf (m : Nat) : Sp := fun vs H Q _ => ∃ (a : Addr) (as : List Nat) (n : Nat), vs = [.ref a, nV n] ∧ NumL H a as ∧ as.length ≤ m ∧ as.length ≤ 4 ∧ (∀ x ∈ as, x ≤ 30) ∧ n ≤ 30 ∧ ∀ H' p, Same H H' → BlN H H' p (bf as n) → Q (.ref p) H'
def spAb (CB : Addr) : Sp := fun vs H Q _ => ∃ (l : Addr) (bs : List Sr96.Bin) (n : Nat), vs = [.ref l, nV n] ∧ BinL CB H l bs ∧ GoodBs bs ∧ n ≤ 30 ∧ ∀ H' p, Same H H' → BlL H' p (bf (bs.map fun b => b.kilograms) n) → Q (.ref p) H'
def spVb (CB CQ : Addr) : Sp := fun vs H Q _ => ∃ (l q : Addr) (bs : List Sr96.Bin) (r : Sr96.Request), vs = [.ref l, .ref q] ∧ BinL CB H l bs ∧ ReqAt CQ H q r ∧ GoodBs bs ∧ GoodR r ∧ ∀ H' p, Same H H' → BlL H' p ((bf (bs.map fun b => b.kilograms) r.kilograms).filter (meets bs r)) → Q (.ref p) H'
theorem cutV_from (xs : List V) (i : Nat) : cutV xs (some (i : Int)) none = xs.drop i := by
  unfold cutV
  rw [HT.sIx_nat, HT.sIx_none]
  by_cases hi : i ≤ xs.length
  · rw [Nat.min_eq_left hi, List.take_of_length_le (by rw [List.length_drop]; exact Nat.le_refl _)]
  · have h1 : xs.length ≤ i := by omega
    rw [Nat.min_eq_right h1, List.drop_of_length_le (Nat.le_refl _), List.drop_of_length_le h1, List.take_nil]
theorem cutV_nat (xs : List V) (i j : Nat) : cutV xs (some (i : Int)) (some (j : Int)) = (xs.drop i).take (j - i) := by
  unfold cutV
  rw [HT.sIx_nat, HT.sIx_nat]
  by_cases hi : i ≤ xs.length
  · rw [Nat.min_eq_left hi]
    by_cases hj : j ≤ xs.length
    · rw [Nat.min_eq_left hj]
    · rw [Nat.min_eq_right (by omega), List.take_of_length_le (by rw [List.length_drop]; exact Nat.le_refl _), List.take_of_length_le (by rw [List.length_drop]; omega)]
  · have h1 : xs.length ≤ i := by omega
    rw [Nat.min_eq_right h1, List.drop_of_length_le (Nat.le_refl _), List.drop_of_length_le h1, List.take_nil, List.take_nil]
theorem natV_drop1 (a : Nat) (l : List Nat) : cutV (natV (a :: l)) (some 1) none = natV l := cutV_from (natV (a :: l)) 1
/-- blends gathered in a list of one's own -/
structure Acc (H0 H : Hp) (bl : Addr) (l : List (List Nat)) : Prop where
  same : Same H0 H
  new : H0 bl = none
  ex : ∃ ads, H bl = some (.lst (refV ads)) ∧ bl ∉ ads ∧ (∀ x ∈ ads, H0 x = none) ∧ Pr (NumL H) ads l
theorem Acc.nil {H0 H : Hp} {bl : Addr} (s : Same H0 H) (n : H bl = none) : Acc H0 (upd H bl (.lst [])) bl [] := ⟨same_upd s n, s.free n, [], upd_same, by simp, by simp, .nil⟩
theorem Acc.grow {H0 H H' : Hp} {bl : Addr} {l : List (List Nat)} (a : Acc H0 H bl l) (s : Same H H') : Acc H0 H' bl l :=
  let ⟨ads, e, n, f, p⟩ := a.ex
  ⟨a.same.trans s, a.new, ads, s _ _ e, n, f, p.imp fun _ _ q => q.same s⟩
theorem Acc.push {H0 H : Hp} {bl p : Addr} {l : List (List Nat)} {x : List Nat} (a : Acc H0 H bl l) (hp : NumL H p x) (np : H0 p = none) (ne : p ≠ bl) (hl : l.length < 16777216) :
    ∃ xs, H bl = some (.lst xs) ∧ xs.length < sizeLine ∧ Acc H0 (upd H bl (.lst (xs ++ [.ref p]))) bl (l ++ [x]) := by
  obtain ⟨ads, e, n, f, q⟩ := a.ex
  refine ⟨refV ads, e, ?_, same_put0 a.same a.new, a.new, ads ++ [p], ?_, ?_, fun y hy => (List.mem_append.mp hy).elim (f y) fun z => by rw [List.mem_singleton.mp z]; exact np, ?_⟩
  · rw [refV_len, q.len]
    exact size_less hl
  · rw [upd_same]
    unfold refV
    rw [List.map_append]
    rfl
  · intro h
    rcases List.mem_append.mp h with h | h
    · exact n h
    · exact ne (List.mem_singleton.mp h).symm
  · refine Pr.snoc ?_ (q.impm fun b hb y z => ?_)
    · show upd H bl _ p = _
      rw [upd_ne ne]
      exact hp
    · show upd H bl _ b = _
      rw [upd_ne (show b ≠ bl from fun e => n (by rw [← e]; exact hb))]
      exact z
theorem Acc.get {H0 H : Hp} {bl : Addr} {l : List (List Nat)} (a : Acc H0 H bl l) : BlN H0 H bl l :=
  let ⟨ads, e, _, f, p⟩ := a.ex
  ⟨ads, e, a.new, f, p⟩
theorem BlN.from {H0 H H' : Hp} {p : Addr} {l : List (List Nat)} (b : BlN H H' p l) (s : Same H0 H) : BlN H0 H' p l :=
  let ⟨ads, e, n, f, q⟩ := b
  ⟨ads, e, s.free n, fun x hx => s.free (f x hx), q⟩
section
variable {P : Program} {w : World} {K : PySem.W.Frag} {mg : Str → Option Value} {base : Heap} {A : Ads}
theorem ok_mr (T : Txt K mg A) : FnOk P w K mg base CX0 2 A.d_mr.f A.d_mr.fd ["bins", "request", "blend"] (spMr A.cB A.cQ) := by
  refine T.mr.F.ok c_mr (fun vs H Q E h => ?_) (fun cdv Ar outer s H vs Q E hr h => ?_)
  · obtain ⟨l, q, x, bs, r, xs, rfl, _⟩ := h
    rfl
  · obtain ⟨l, q, x, bs, r, xs, rfl, hb, hR, hx, gb, gr, k⟩ := h
    obtain ⟨dx, hR⟩ := id hR
    refine ⟨_, pss_cons (ps_if (pt_cmpR op_ne (pe_callB (cr_sum rfl) (by rfl) T.b_sum (by decide +kernel) (pa_cons (pv 2) pa_nil)) (pe_fld (pv 1) rfl) (nomark _)) (pss_one (ps_ret pe_bl)) pss_nil)
      (pss_one (ps_ret (pe_call (ok_kb T) hr rfl T.kb.g T.kb.k T.kb.b .nil pass0 (pa_cons (pv 1) (pa_cons (pe_fld (pv 1) rfl)
        (pa_cons (pe_call (ok_ss T) hr rfl T.ss.g T.ss.k T.ss.b .nil pass0 (pa_cons (pv 0) (pa_cons (pv 2) pa_nil)))
        (pa_cons (pe_call (ok_as T) hr rfl T.as.g T.as.k T.as.b .nil pass0 (pa_cons (pv 0) (pa_cons (pv 2) pa_nil))) pa_nil))))))), ?_⟩
    refine ⟨_, rfl, x, xs.map (fun (n : Nat) => (n : Int)), rfl, SqL.of (by rw [← natV_int]; exact hx), _, rfl, q, _, dx, _, _, rfl, hR, T.clQ, T.nQ_n, rfl, rfl, _, rfl, ?_⟩
    show if (!decide (V.int (xs.map fun (n : Nat) => (n : Int)).sum = nV r.kilograms)) = true then _ else _
    rw [cast_sum]
    unfold meets at k
    by_cases c : SrCommon.sum xs = r.kilograms
    · rw [c] at k ⊢
      rw [decide_eq_true rfl]
      refine iteF ?_
      refine ⟨_, rfl, _, rfl, q, _, dx, _, _, rfl, hR, T.clQ, T.nQ_n, rfl, _, rfl, _, rfl, l, x, bs, xs, rfl, hb, hx, gb, fun H1 s1 => ?_⟩
      refine ⟨_, rfl, _, rfl, l, x, bs, xs, rfl, hb.same s1, hx.same s1, gb, fun H2 s2 => ?_⟩
      refine ⟨q, r, _, _, _, rfl, ⟨dx, s2 _ _ (s1 _ _ hR)⟩, gr, ?_⟩
      have z := k H2 (s1.trans s2)
      simpa using z
    · have c2 : ¬ (V.int ((SrCommon.sum xs : Nat) : Int) = nV r.kilograms) := fun e => c (by injection e with e; omega)
      rw [decide_eq_false c2]
      refine iteT ?_
      have z := k H (Same.refl _)
      rw [decide_eq_false c] at z
      exact z
theorem ok_iv (T : Txt K mg A) : FnOk P w K mg base CX0 3 A.d_iv.f A.d_iv.fd ["bins", "request", "blend"] (spIv A.cB A.cQ) := by
  refine T.iv.F.ok c_iv (fun vs H Q E h => ?_) (fun cdv Ar outer s H vs Q E hr h => ?_)
  · obtain ⟨l, q, x, bs, r, xs, rfl, _⟩ := h
    rfl
  · obtain ⟨l, q, x, bs, r, xs, rfl, hb, hR, hx, gb, gr, k⟩ := h
    refine ⟨_, pss_one (ps_ret (pe_and (pe_call (ok_ia T) (hr.mono (by decide)) rfl T.ia.g T.ia.k T.ia.b .nil pass0 (pa_cons (pv 0) (pa_cons (pv 2) pa_nil)))
      (pe_one (pe_call (ok_mr T) hr rfl T.mr.g T.mr.k T.mr.b .nil pass0 (pa_cons (pv 0) (pa_cons (pv 1) (pa_cons (pv 2) pa_nil))))))), ?_⟩
    refine ⟨_, rfl, _, rfl, l, x, bs, xs, rfl, hb, hx, gb, fun H1 s1 => ⟨_, rfl, ?_⟩⟩
    cases c : (bs.zip xs).all fun y => decide (y.2 ≤ y.1.kilograms) with
    | false =>
      refine iteF ?_
      have z := k H1 s1
      rw [c] at z
      exact z
    | true =>
      refine iteT ⟨_, rfl, _, rfl, _, rfl, l, q, x, bs, r, xs, rfl, hb.same s1, hR.same s1, hx.same s1, gb, gr, fun H2 s2 => ?_⟩
      have z := k H2 (s1.trans s2)
      rw [c] at z
      exact z
/-- no amounts: the blend that takes nothing, or none -/
theorem bf_empty {H : Hp} {n : Nat} {Q : VK} (k : ∀ (H' : Hp) (p : Addr), Same H H' → BlN H H' p (bf [] n) → Q (.ref p) H') : if decide (nV n = V.int 0) = true then tLst (tCons (tLst tNil) tNil) ([] : L2.St) H Q else tLst tNil ([] : L2.St) H Q := by
  by_cases c : n = 0
  · subst c
    have e : decide (nV 0 = V.int 0) = true := decide_eq_true rfl
    rw [e]
    refine iteT ⟨Nat.zero_le _, fun p1 n1 => ⟨(by show 1 ≤ sizeLine; decide), fun p2 n2 => ?_⟩⟩
    have n12 : p1 ≠ p2 := ne_of_none upd_same n2
    refine k _ p2 (same_upd (same_upd (Same.refl _) n1) n2) ⟨[p1], upd_same, (same_upd (Same.refl _) n1).free n2, by simpa using n1, .cons ?_ .nil⟩
    show upd _ p2 _ p1 = _
    rw [upd_ne n12, upd_same]
    rfl
  · have e : ¬ (nV n = V.int 0) := fun q => c (by injection q with q; omega)
    rw [decide_eq_false e]
    refine iteF ⟨Nat.zero_le _, fun p1 n1 => k _ p1 (same_upd (Same.refl _) n1) ⟨[], upd_same, n1, by simp, ?_⟩⟩
    unfold bf
    rw [if_neg c]
    exact .nil
/-- blends_from, of at most m amounts: m calls within one another -/
theorem ok_bf (T : Txt K mg A) : ∀ m : Nat, FnOk P w K mg base CX0 (m + 1) A.d_bf.f A.d_bf.fd ["amounts", "weight"] (spBf m) := by
  intro m
  induction m with
  | zero =>
    refine T.bf.F.ok c_bf (fun vs H Q E h => ?_) (fun cdv Ar outer s H vs Q E hr h => ?_)
    · obtain ⟨a, as, n, rfl, _⟩ := h
      rfl
    · obtain ⟨a, as, n, rfl, ha, hm, h4, h30, hn, k⟩ := h
      obtain rfl := List.eq_nil_of_length_eq_zero (Nat.le_zero.mp hm)
      refine ⟨_, pss_cons (ps_if (pt_cmpR op_eq (pe_callB call_len_seq (by rfl) T.b_len PySem.boot_len (pa_cons (pv 0) pa_nil)) pe_int (nomark _)) (pss_one (ps_ret (pe_ifExp (pt_cmpR op_eq (pv 1) pe_int (nomark _)) (pe_lst (pa_cons (pe_lst pa_nil) pa_nil)) (pe_lst pa_nil)))) pss_nil) pss_never, ?_⟩
      refine ⟨_, rfl, a, _, rfl, .inl (SqL.of ha), rfl, _, rfl, ?_⟩
      rw [natV_len]
      exact iteT ⟨_, rfl, rfl, _, rfl, bf_empty k⟩
  | succ m ih =>
    refine T.bf.F.ok c_bf (fun vs H Q E h => ?_) (fun cdv Ar outer s H vs Q E hr h => ?_)
    · obtain ⟨a, as, n, rfl, _⟩ := h
      rfl
    · obtain ⟨a, as, n, rfl, ha, hm, h4, h30, hn, k⟩ := h
      refine ⟨_, pss_cons (ps_if (pt_cmpR op_eq (pe_callB call_len_seq (by rfl) T.b_len PySem.boot_len (pa_cons (pv 0) pa_nil)) pe_int (nomark _)) (pss_one (ps_ret (pe_ifExp (pt_cmpR op_eq (pv 1) pe_int (nomark _)) (pe_lst (pa_cons (pe_lst pa_nil) pa_nil)) (pe_lst pa_nil)))) pss_nil)
        (pss_cons (ps_set (i := 2) c_bf.nd rfl (Or.inl rfl) (pe_slice sl_list (pv 0) (po_some pe_int) po_none))
        (pss_cons (ps_set (i := 3) c_bf.nd rfl (Or.inl rfl) (pe_callB (call_max2 rfl) (by rfl) T.b_max (by decide +kernel) (pa_cons pe_int (pa_cons (pe_op op_sub (pv 1) (pe_callB (cr_sum rfl) (by rfl) T.b_sum (by decide +kernel) (pa_cons (pv 2) pa_nil))) pa_nil))))
        (pss_cons (ps_set (i := 4) c_bf.nd rfl (Or.inl rfl) (pe_callB (call_min2 rfl) (by rfl) T.b_min (by decide +kernel) (pa_cons (pe_ix ix_list (pv 0) pe_int (fun _ _ => rfl)) (pa_cons (pv 1) pa_nil))))
        (pss_cons (ps_set (i := 5) c_bf.nd rfl (Or.inl rfl) (pe_lst pa_nil))
        (pss_cons (ps_for PassesOwn.never rfl (pi_range3 rfl T.b_range (pa_cons (pv 4) (pa_cons (pe_op op_sub (pv 3) pe_int) (pa_cons (pe_un un_neg pe_int) pa_nil)))) (pg_name (i := 6) c_bf.nd rfl (Or.inl rfl))
          (pss_one (ps_for PassesOwn.never rfl (pi_list (pe_call ih hr rfl T.bf.g T.bf.k T.bf.b .nil pass0 (pa_cons (pv 2) (pa_cons (pe_op op_sub (pv 1) (pv 6)) pa_nil)))) (pg_name (i := 7) c_bf.nd rfl (Or.inl rfl))
            (pss_one (ps_expr (pe_bm PySem.F.plainAttrs_list PySem.F.slot_list_append PySem.F.type_list_append mt_append (pv 5) (pa_cons (pe_op op_cat (pe_lst (pa_cons (pv 6) pa_nil)) (pv 7)) pa_nil)))))))
        (pss_one (ps_ret (pv 5)))))))), ?_⟩
      refine ⟨_, rfl, a, _, rfl, .inl (SqL.of ha), rfl, _, rfl, ?_⟩
      rw [natV_len]
      cases as with
      | nil => exact iteT ⟨_, rfl, rfl, _, rfl, bf_empty k⟩
      | cons a0 rest =>
        have c2 : ¬ (V.int (((a0 :: rest).length : Nat) : Int) = V.int 0) := fun e => by
          injection e with e
          rw [List.length_cons] at e
          omega
        rw [decide_eq_false c2]
        have h0 : a0 ≤ 30 := h30 a0 (List.mem_cons_self ..)
        have hrest : ∀ x ∈ rest, x ≤ 30 := fun x hx => h30 x (List.mem_cons_of_mem _ hx)
        rw [List.length_cons] at hm h4
        refine iteF ⟨_, rfl, _, rfl, a, _, rfl, SqL.of ha, fun o no => ?_⟩
        rw [natV_drop1]
        have s1 : Same H (upd H o (.lst (natV rest))) := same_upd (Same.refl _) no
        generalize hH1 : upd H o (HO.lst (natV rest)) = H1 at s1
        have ho : NumL H1 o rest := by
          rw [← hH1]
          exact upd_same
        refine ⟨_, rfl, _, rfl, o, rest.map (fun (n : Nat) => (n : Int)), rfl, SqL.of (by rw [← natV_int]; exact ho), _, _, rfl, rfl, _, _, rfl, ?_⟩
        rw [cast_sum]
        have eL : (if (n : Int) - ((SrCommon.sum rest : Nat) : Int) > 0 then (n : Int) - ((SrCommon.sum rest : Nat) : Int) else 0) = ((n - SrCommon.sum rest : Nat) : Int) := by
          split <;> omega
        rw [eL]
        refine ⟨_, rfl, a, _, _, _, rfl, rfl, SqL.of (s1 _ _ ha), atI_nat (j := 0) rfl, _, rfl, _, _, rfl, ?_⟩
        have eM : (if (n : Int) < (a0 : Int) then (n : Int) else (a0 : Int)) = ((min a0 n : Nat) : Int) := by
          split <;> omega
        rw [eM]
        refine ⟨Nat.zero_le _, fun bl nbl => ?_⟩
        refine ⟨_, rfl, _, rfl, _, _, rfl, rfl, _, rfl, _, _, _, _, rfl, RgC.neg (by omega) (by omega) (by omega) (by omega), ?_⟩
        have ac0 : Acc H1 (upd H1 bl (.lst [])) bl (bfi a0 rest n 0) := Acc.nil (Same.refl _) nbl
        have eN : ((min a0 n : Nat) : Int) - (((n - SrCommon.sum rest : Nat) : Int) - 1) = ((min a0 n + 1 : Nat) : Int) - ((n - SrCommon.sum rest : Nat) : Int) := by omega
        have eN2 : (((min a0 n : Nat) : Int) - (((n - SrCommon.sum rest : Nat) : Int) - 1)).toNat = min a0 n + 1 - (n - SrCommon.sum rest) := by omega
        refine for_rangeC (lo := ((min a0 n : Nat) : Int)) (c := -1) (n := (((min a0 n : Nat) : Int) - (((n - SrCommon.sum rest : Nat) : Int) - 1)).toNat)
          (fun i σ H' => ∃ (v6 v7 : Option V), σ = [some (.ref a), some (nV n), some (.ref o), some (nV (n - SrCommon.sum rest)), some (nV (min a0 n)), some (.ref bl), v6, v7] ∧ Acc H1 H' bl (bfi a0 rest n i)) ⟨none, none, rfl, ac0⟩ ?_ ?_
        · rintro i σ H' hi ⟨v6, v7, rfl, ac⟩
          rw [eN2] at hi
          have hi2 : i < min a0 n + 1 := by omega
          have eK : ((min a0 n : Nat) : Int) + (i : Int) * (-1) = ((min a0 n - i : Nat) : Int) := by omega
          rw [eK]
          have eW : (n : Int) - ((min a0 n - i : Nat) : Int) = ((n - (min a0 n - i) : Nat) : Int) := by omega
          refine ⟨_, rfl, _, rfl, _, rfl, _, _, rfl, rfl, ?_⟩
          refine ⟨o, rest, n - (min a0 n - i), congrArg (fun z => [V.ref o, V.int z]) eW, ho.same ac.same, by omega, by omega, hrest, by omega, fun H2 q s2 ⟨ads2, hq, nq, fq, pq⟩ => ?_⟩
          have ac2 := ac.grow s2
          have s12 : Same H1 H2 := ac2.same
          obtain ⟨adsb, ebl, _⟩ := id ac.ex
          have nqb : q ≠ bl := fun z => by
            rw [z, ebl] at nq
            cases nq
          have nxb : ∀ x ∈ ads2, x ≠ bl := fun x hx z => by
            have q1 := fq x hx
            rw [z, ebl] at q1
            cases q1
          refine ⟨q, rfl, ⟨_, SqL.of hq⟩, for_list (K := K) (a := q) (xs := refV ads2)
            (fun j σ H' => ∃ v7, σ = [some (.ref a), some (nV n), some (.ref o), some (nV (n - SrCommon.sum rest)), some (nV (min a0 n)), some (.ref bl), some (nV (min a0 n - i)), v7] ∧ H' q = some (.lst (refV ads2)) ∧ Pr (NumL H') ads2 (bf rest (n - (min a0 n - i))) ∧
              Acc H1 H' bl (bfi a0 rest n i ++ ((bf rest (n - (min a0 n - i))).take j).map fun x => (min a0 n - i) :: x)) ⟨v7, rfl, hq, pq, by simpa using ac2⟩ ?_ ?_ ?_⟩
          · rintro j σ H' _ ⟨v, rfl, e, _⟩
            exact SqL.of e
          · rintro j y σ H' hj ⟨v, rfl, e, pr, ac3⟩
            obtain ⟨x, hx, rfl⟩ := refV_at hj
            obtain ⟨xl, hxl, nx⟩ := pr.at2 hx
            obtain ⟨ads, eb, nb, fb, pb⟩ := id ac3.ex
            refine ⟨_, rfl, .inl ⟨rfl, _, SqL.of eb⟩, _, rfl, (by show 1 ≤ sizeLine; decide), fun p1 n1 => ⟨_, rfl, p1, x, _, natV xl, rfl, rfl, upd_same, ?_, ?_, fun p2 n2 => ?_⟩⟩
            · exact (upd_ne (ne_of_none nx n1)).trans nx
            · have h1 : xl.length = rest.length := ((mem_bf _ _ _).mp (List.mem_of_getElem? hxl)).1.len
              rw [natV_len, h1]
              exact size_small (by show 1 + rest.length ≤ 16777216; omega)
            · have sm : Same H' (upd (upd H' p1 (.lst [V.int ((min a0 n - i : Nat) : Int)])) p2 (.lst ([V.int ((min a0 n - i : Nat) : Int)] ++ natV xl))) := same_upd (same_upd (Same.refl _) n1) n2
              have ac4 := ac3.grow sm
              have new : NumL (upd (upd H' p1 (.lst [V.int ((min a0 n - i : Nat) : Int)])) p2 (.lst ([V.int ((min a0 n - i : Nat) : Int)] ++ natV xl))) p2 ((min a0 n - i) :: xl) := upd_same
              have ne : p2 ≠ bl := fun z => by
                have q1 : upd H' p1 (.lst [V.int ((min a0 n - i : Nat) : Int)]) bl = some (.lst (refV ads)) := (upd_ne (ne_of_none eb n1)).trans eb
                rw [← z, n2] at q1
                cases q1
              obtain ⟨zs, e1, e2, ac5⟩ := ac4.push new ((ac3.same.trans (same_upd (Same.refl _) n1)).free n2) ne (by
                rw [List.length_append, List.length_map, List.length_take]
                have h1 := bfi_len a0 rest n i h0 hrest (by omega)
                have h2 := bf_len rest (n - (min a0 n - i)) hrest
                have h3 : 31 ^ rest.length ≤ 31 ^ 3 := Nat.pow_le_pow_right (by decide) (by omega)
                have h4 : min j (bf rest (n - (min a0 n - i))).length ≤ (bf rest (n - (min a0 n - i))).length := Nat.min_le_right _ _
                have h5 : (31 : Nat) ^ 3 = 29791 := by decide
                omega)
              refine ⟨bl, zs, _, rfl, rfl, e1, e2, ?_⟩
              refine ⟨_, rfl, ?_, ?_, ?_⟩
              · exact (upd_ne nqb).trans (sm _ _ e)
              · refine pr.impm fun y hy z hz => ?_
                show upd _ bl _ y = _
                rw [upd_ne (nxb y hy)]
                exact sm _ _ hz
              · rw [take_more hxl, List.map_append, ← List.append_assoc]
                exact ac5
          · rintro σ H' ⟨v, rfl, e, pr, ac3⟩
            refine ⟨_, _, rfl, ?_⟩
            rw [bfi_succ]
            have e5 : (bf rest (n - (min a0 n - i))).take (refV ads2).length = bf rest (n - (min a0 n - i)) := by
              rw [refV_len, pq.len, List.take_length]
            rw [e5] at ac3
            exact ac3
        · rintro σ H' ⟨v6, v7, rfl, ac⟩
          rw [eN2, bfi_cut] at ac
          exact ⟨_, rfl, k H' bl (s1.trans ac.same) (ac.get.from s1)⟩
end
end FB

/-! ## FBMin -/
set_option maxRecDepth 100000
set_option maxHeartbeats 2000000
/-! min(e, key=lambda x: .., default=None): the rule. -/
namespace FB
open PySem PySem.Spec PyProof.Rows L2 LamX NdefX
/-- the object at f is a lambda of the words F, whose body is an expression -/
def LamO (f : Addr) (F : NF) (body : Expr) : HO := .ext fun h => ∃ pm ctv : Value, h.get? f = some (PySem.W.kla_obj F.name F.qual F.params body F.scope F.cl pm F.c ctv)
/-- the object at a is an iterator over the list at l that stands at i -/
def ItO (a l : Addr) (i : Nat) : HO := .ext fun h => h.IsListIter a l i
section
variable {P : Program} {w : World} {H : Hp} {h : Heap}
theorem lamO_at {f : Addr} {F : NF} {body : Expr} (hok : HOk P w H h) (e : H f = some (LamO f F body)) : ∃ pm ctv : Value, h.get? f = some (PySem.W.kla_obj F.name F.qual F.params body F.scope F.cl pm F.c ctv) := (hok f _ e).1
theorem itO_at {a l : Addr} {i : Nat} (hok : HOk P w H h) (e : H a = some (ItO a l i)) : h.IsListIter a l i := (hok a _ e).1
theorem itO_ok {a l : Addr} {i : Nat} (e : h.IsListIter a l i) : ObjOk P w H h a (ItO a l i) := by
  obtain ⟨o, h1, h2⟩ := id e
  exact ⟨e, ⟨o, h1⟩, fun g1 g2 ⟨o, z1, z2⟩ st => ⟨o, st _ z1, z2⟩⟩
end
section
variable {X : Cx} {pins : List (Addr × Obj)} {σ : L2.St} {H : Hp} {s : Shared}
theorem inv_lam {F : NF} {body : Expr} {o : Obj} {tk : Nat} {pm ctv : Value} (I : Inv X pins σ H s) (ho : o = PySem.W.kla_obj F.name F.qual F.params body F.scope F.cl pm F.c ctv) :
    Inv X pins σ (upd H s.heap.objs.size (LamO s.heap.objs.size F body)) { s with heap := s.heap.push o, toks := tk } := by
  have at_ : (s.heap.push o).get? s.heap.objs.size = some (PySem.W.kla_obj F.name F.qual F.params body F.scope F.cl pm F.c ctv) := by
    rw [ho]
    exact Heap.get?_push_size _ rfl
  exact I.laid (a := s.heap.objs.size) (fun _ _ z => Heap.get?_push_of_some _ z) (Nat.le_refl _) ⟨⟨pm, ctv, at_⟩, ⟨_, at_⟩, fun _ _ ⟨p, t, z⟩ st => ⟨p, t, st _ z⟩⟩
/-- the words of a lambda that a def makes -/
abbrev lamNF (X : Cx) (params : Arguments) (scope : Scope) (c' : Addr) : NF := ⟨"<lambda>", X.env.qual ++ "<lambda>", params, [], scope, cloFrom X.env.cells scope.names [], c'⟩
/-- a lambda is made and known -/
theorem lam_make3 {c P : Addr} {params : Arguments} {body : Expr} {scope : Scope} {pos : Pos} {E : Value → Shared → Prop} {Q : Value → Shared → Prop} (I : Inv X pins σ H s) (TB : TabB X.base X.mg c P) (hcode : X.env.code = .ref c)
    (hT : TabS H P (X.env.qual ++ "<lambda>")) (hdef : defaultsOf params X.env = ([], [])) (hfree : ∀ y ∈ scope.names, y.2 = .free → ∃ c, X.env.cells.lookup y.1 = some c)
    (h : ∀ (f c' : Addr) (H1 : Hp) (s' : Shared), Inv X pins σ H1 s' → ExtN H H1 → TabS H1 P (X.env.qual ++ "<lambda>") → H1 f = some (LamO f (lamNF X params scope c') body) → H1 c' = some (CodeO c' (X.env.qual ++ "<lambda>")) → Q (.ref f) s') :
    wpAny (model X.prog X.w) X.A (eval (.Lambda params body scope pos) X.env) Q E s := by
  obtain ⟨ps, hP, ht, ha⟩ := hT
  refine PySem.W.kla_eval hdef ?_
  have bP : s.heap.BuiltinsAt X.mg P := TB.bm.keeps I.bk
  have hP' : s.heap.get? P = some { cls := .none, data := .fields ps } := I.hok P _ hP
  -- what is left once the code object is there: the function's object is pushed
  have fin : ∀ {H1 : Hp} {h1 : Heap} {tk : Nat} {c' : Addr} {pm ctv : Value}, Inv X pins σ H1 { s with heap := h1, toks := tk } → ExtN H H1 → TabS H1 P (X.env.qual ++ "<lambda>") → H1 c' = some (CodeO c' (X.env.qual ++ "<lambda>")) →
      Q (.ref h1.objs.size) { s with heap := h1.push (PySem.W.kla_obj "<lambda>" (X.env.qual ++ "<lambda>") params body scope (cloFrom X.env.cells scope.names []) pm c' ctv), toks := tk } := by
    intro H1 h1 tk c' pm ctv I1 e1 t1 k1
    have nF : H1 h1.objs.size = none := I1.hok.fresh (Nat.le_refl _)
    have I2 := inv_lam (F := lamNF X params scope c') (body := body) (tk := tk) (pm := pm) (ctv := ctv) I1 rfl
    have up : ∀ b o, H1 b = some o → upd H1 h1.objs.size (LamO h1.objs.size (lamNF X params scope c') body) b = some o := fun b o e => (upd_ne (ne_of_none e nF)).trans e
    exact h _ c' _ _ I2 (e1.trans (ExtN.of up)) (t1.ext up) upd_same (up _ _ k1)
  cases hc : codeAmong pos ps.toList with
  | none =>
    refine PySem.W.kla_makeFunction (mg := X.mg) (c := c) (P := P) (ps := ps) (closure_ok hfree) I.ok.glob (I.mod.glob.keeps I.bk) hcode (TB.code.keeps I.bk) hP' ht hc TB.gP bP fun c' ctv h' tk hx hge hlt hrec htb => ?_
    obtain ⟨c2, oc, vs, t, e2, hoc, hd, hv⟩ := hrec
    cases e2
    have nC : H c' = none := I.hok.fresh hge
    have I1 := inv_table (t' := tk) (more := #[rawInt pos.line, rawInt pos.col, .ref c']) (h' := h') I hP (fun b o hb e => hx b o hb e) htb hge ⟨oc, vs, t, hoc, hd, hv⟩
    have hE : ExtN H (upd (upd H P (.tbl (ps ++ #[rawInt pos.line, rawInt pos.col, .ref c']))) c' (CodeO c' (X.env.qual ++ "<lambda>"))) := fun b o e n => by
      have n1 : b ≠ P := fun z => n ps (Option.some.inj (e.symm.trans (by rw [z]; exact hP)))
      rw [upd_ne (ne_of_none e nC), upd_ne n1]
      exact e
    refine fin I1 hE ⟨_, by rw [upd_ne (ne_of_none hP nC), upd_same], ?_, fun p' cv hcv => ?_⟩ upd_same
    · rw [Array.toList_append]
      exact PySem.TriplesOk_snoc _ _ _ _ ht
    · rw [Array.toList_append] at hcv
      rcases among_app _ ht hcv with z | z
      · obtain ⟨c0, e1, e2⟩ := ha p' cv z
        exact ⟨c0, e1, hE _ _ e2 codeO_ne⟩
      · exact ⟨c', z, upd_same⟩
  | some cv =>
    obtain ⟨c', e, hco⟩ := ha pos cv hc
    subst e
    refine PySem.W.kla_makeFunctionHit (mg := X.mg) (c := c) (P := P) (ps := ps) (closure_ok hfree) I.ok.glob (I.mod.glob.keeps I.bk) hcode (TB.code.keeps I.bk) hP' ht hc bP fun ctv h' tk hx hsz => ?_
    exact fin (I.kept hx) (ExtN.refl H) ⟨ps, hP, ht, ha⟩ hco
/-- a lambda's value -/
def tLamE (P : Addr) (q : Str) (mk : Addr → NF) (body : Expr) : TE := fun _ H Q => TabS H P q ∧ ∀ (f c' : Addr) (H1 : Hp), ExtN H H1 → TabS H1 P q → H1 f = some (LamO f (mk c') body) → H1 c' = some (CodeO c' q) → Q (.ref f) H1
theorem pe_lamE {c P : Addr} {params : Arguments} {body : Expr} {scope : Scope} {pos : Pos} (TB : TabB X.base X.mg c P) (hcode : X.env.code = .ref c) (hdef : defaultsOf params X.env = ([], []))
    (hfree : ∀ y ∈ scope.names, y.2 = .free → X.env.scope.names.lookup y.1 = some .cell ∨ X.env.scope.names.lookup y.1 = some .free) :
    PE X (.Lambda params body scope pos) (tLamE P (X.env.qual ++ "<lambda>") (lamNF X params scope) body) := by
  refine ⟨fun pins s σ H Q I h => ?_⟩
  refine lam_make3 I TB hcode h.1 hdef (fun y hy e => (hfree y hy e).elim (fun z => I.ok.has _ (.inl z)) fun z => I.ok.has _ (.inr z)) fun f c' H1 s' I1 e1 t1 f1 k1 => ?_
  exact ⟨.ref f, H1, I1, rfl, h.2 f c' H1 e1 t1 f1 k1⟩
end
/-! ### a lambda called -/
section
variable {CX : CXT} {P : Program} {w : World} {K : PySem.W.Frag} {mg : Str → Option Value} {base : Heap} {N ps fr : List Str} {F : NF} {f : Addr} {k : Nat} {body : Expr} {tb : TE}
theorem lam_run (S : NScope N ps fr F.scope) (hb : ∀ (pm ctv : Value) (us : List Value), us.length = ps.length → bindArgs (PySem.W.kla_fn F.name F.qual F.params body F.scope F.cl pm (.ref F.c) ctv) ⟨us, []⟩ = pure (ps.zip us))
    {A : Around} {outer : List Env} {s : Shared} {H : Hp} {us : List Value} {vs : List V} {ws : List (Option V)} {Q : VK} {E : XK} (hr : Room (k + 1) A) (e0 : Env0 P w K mg base A outer s H) (hf : H f = some (LamO f F body)) (hc : H F.c = some (CodeO F.c F.qual))
    (C : CellsAt F.cl fr ws s.heap H) (r : Vals vs us) (hl : vs.length = ps.length) (hbody : Room k (A.deeper (envF F f s.heap.objs.size)) → PE (ncx CX P w K mg base N F f A outer s H E) body tb) (q : tb (startF N vs ws) H Q) :
    codeAny (model P w) A (.call (.ref f) ⟨us, []⟩) (CR CX outer P w H s Q E) s := by
  have lim : s.heap.NoLimit := e0.mod.nolimit.keeps fun b o e => (e0.bs b o e).1
  obtain ⟨pm, ctv, ho⟩ := lamO_at e0.hok hf
  refine PySem.W.kla_callFunE hr.depth ho rfl S.co S.gen rfl (codeO_at e0.hok hc) ?_
  rw [hb pm ctv us (by rw [← r.length]; exact hl)]
  refine wpAny_pure (wpAny_newFunctionEnv S.nocell (fun ⟨n, _⟩ hy => S.par n (List.of_mem_zip hy).1) (fun h₁ hns hsb => ⟨lim.fresh _ hsb, ?_⟩) S.kind)
  show codeAny _ _ (.expr body (envF F f s.heap.objs.size)) _ _
  have kp : ∀ b o, s.heap.get? b = some o → h₁.get? b = some o := fun b o e => hsb.extBut b o (Nat.ne_of_lt (Heap.lt_size e)) (Heap.get?_push_of_some _ e)
  have I : Inv (ncx CX P w K mg base N F f A outer s H E) [] (startF N vs ws) H { s with heap := h₁, toks := s.toks + (ps.zip us).length } := inv_startN S hr.hd e0 hl r C hns kp
  refine PySem.W.kla_codeExpr (wpAny_mono ((hbody (hr.deeper _)).run [] _ (startF N vs ws) H Q I q) (fun v s' hq => ?_) fun e s' hq => hq)
  obtain ⟨y, H', J, rv, q2⟩ := hq
  exact ⟨y, H', J.os, J.bare, J.base, J.hok, rv, q2⟩
end
/-! ### the loop of min -/
theorem min_args2 (a v d : Value) : argsOk "min" ⟨[a], [(Str.ofString "key", v), (Str.ofString "default", d)]⟩ := by
  unfold argsOk
  kernel_rfl
section
variable {X : Cx} {pins : List (Addr × Obj)} {σ : L2.St} {a f it S : Addr} {xs : List V} {kf : Nat → Int} {H2 : Hp}
/-- the i-th is the first of the smallest -/
def FirstLeast (kf : Nat → Int) (n i : Nat) : Prop := ∀ j, j < n → kf i ≤ kf j ∧ (j < i → kf i < kf j)
/-- what the loop holds behind i items -/
def MinCur (xs : List V) (kf : Nat → Int) (i : Nat) (cur : List V) : Prop := (i = 0 ∧ cur = []) ∨ ∃ b y, xs[b]? = some y ∧ cur = [y, .int (kf b)] ∧ b < i ∧ FirstLeast kf i b
theorem lst_at {H : Hp} {s : Shared} {l : Addr} {ys : List V} (I : Inv X pins σ H s) (e : H l = some (.lst ys)) : ∃ (its : List Value) (n : Nat), Vals ys its ∧ s.heap.get? l = some (seqObj "list" its.toArray n) := (I.hok l _ e).2
theorem lst_put {H : Hp} {s : Shared} {l : Addr} {ys zs : List V} {us : List Value} {tk : Nat} (I : Inv X pins σ H s) (e : H l = some (.lst ys)) (r : Vals zs us) (hz : zs.length ≤ sizeLine) :
    Inv X pins σ (upd H l (.lst zs)) { s with heap := s.heap.update l (Obj.mapSeq fun _ => us.toArray), toks := tk } := by
  obtain ⟨its, n, _, ho⟩ := lst_at I e
  have new := get?_update_seq ho (fun _ => us.toArray)
  exact I.write (e := l) (by rw [e]; trivial) (.inl rfl) (fun b u hb q => (Heap.get?_update_ne _ _ _ _ hb).trans q) ⟨_, new⟩ ⟨hz, us, _, r, new⟩
theorem same_put {H : Hp} {l : Addr} {o : HO} (h : Same H2 H) (n : H2 l = none) : Same H2 (upd H l o) := fun b u e => (upd_ne (ne_of_none e n)).trans (h b u e)
/-- an iterator that was made here is forgotten -/
theorem inv_drop {H : Hp} {s : Shared} {it : Addr} {φ : Heap → Prop} {h' : Heap} (I : Inv X pins σ H s) (hi : H it = some (.ext φ)) (h0 : X.s_0.heap.objs.size ≤ it) (k : Heap.ExtBut it s.heap h') :
    Inv X pins σ (fun b => if b = it then none else H b) { s with heap := h' } := by
  have off : ∀ {b : Addr}, b ≠ it → (fun b => if b = it then (none : Option HO) else H b) b = H b := fun {b} hb => if_neg hb
  have nN : ∀ b, H b = none → b ≠ it := fun b e z => by
    rw [z, hi] at e
    cases e
  have nO : ∀ b u, H b = some u → (∀ φ, u ≠ .ext φ) → b ≠ it := fun b u e q z => by
    rw [z, hi] at e
    exact q _ (Option.some.inj e).symm
  refine I.step (g' := s.gens) (d' := s.drawn) (t' := s.toks) (ch := [it]) (fun b hb => ?_) (fun b o _ _ hc e n => ?_) (fun b o _ _ hc e n => ?_) (fun b o hc e n => ?_) (fun b o hc e => ?_) (fun b ys e => ?_) (fun b o u e => ?_) (fun b ps e => ?_) (fun m hn => ?_) (fun b u e => ?_) I.bare
  · have eb := List.mem_singleton.mp hb
    subst eb
    refine ⟨.inr h0, fun z => nN _ I.free z.symm, fun x c e z => nN c (I.freeC x c e) z, fun p hp => nN _ (I.pin p hp).2.1⟩
  · exact k b o (fun z => hc (List.mem_singleton.mpr z)) e
  · exact ⟨o.slots, k b o (fun z => hc (List.mem_singleton.mpr z)) e⟩
  · exact (off (fun z => hc (List.mem_singleton.mpr z))).trans n
  · exact ⟨o, k b o (fun z => hc (List.mem_singleton.mpr z)) e⟩
  · exact (off (nO b _ e fun _ z => by cases z)).trans e
  · exact (off (nO b _ e fun _ z => by cases z)).trans e
  · exact ⟨#[], (off (nO b _ e fun _ z => by cases z)).trans (by rw [e]; simp)⟩
  · exact hn.extBut k (fun z => nN _ I.free z)
  · by_cases hb : b = it
    · have z : (none : Option HO) = some u := (if_pos hb).symm.trans e
      cases z
    · have e' : H b = some u := (off hb).symm.trans e
      refine (I.hok b u e').stay (fun c v hc q => k c v ?_ q) (fun c q => (off (nO c _ q fun _ z => by cases z)).trans q) fun c ys q => (off (nO c _ q fun _ z => by cases z)).trans q
      rcases hc with rfl | hc
      · exact hb
      · exact nO c _ hc fun _ z => by cases z
theorem min_loop (hh : X.A.handled = none) (n0 : X.s_0.heap.objs.size ≤ it) (n1 : H2 it = none) (n2 : H2 S = none) (n3 : it ≠ S) (hS : SqL X.K H2 a xs)
    (turn : ∀ (i : Nat) (y : V) (H : Hp) (s : Shared) (u : Value), xs[i]? = some y → Inv X pins σ H s → RelV y u → Same H2 H →
      wpAny (model X.prog X.w) X.A.in1 (call (.ref f) [u]) (fun v s' => ∃ t H', v = .int (kf i) t ∧ Inv X pins σ H' s' ∧ Same H H') (fun _ _ => False) s)
    {Q : VK} (q0 : xs = [] → ∀ H, Same H2 H → Q .non H) (q1 : ∀ i y H, xs[i]? = some y → FirstLeast kf xs.length i → Same H2 H → Q y H) {E : Value → Shared → Prop} :
    ∀ (r i : Nat) (H : Hp) (s : Shared) (cur : List V), xs.length - i = r → i ≤ xs.length → Inv X pins σ H s → Same H2 H → H it = some (ItO it a i) → H S = some (.lst cur) → MinCur xs kf i cur →
      codeAny (model X.prog X.w) X.A (.builtin "min.loop" ⟨[.ref it, .ref f, .ref S], [(Str.ofString "default", .none)]⟩) (fun r s' => match r with | .ok (.ret v) => EP X pins σ Q v s' | .ok _ => False | .error e => E e s') s := by
  have hname : (toString "min" ++ toString ".loop" : String) = "min.loop" := by decide
  intro r
  induction r with
  | zero =>
    intro i H s cur hr hi I hs hit hcur hmin
    have ei : i = xs.length := by omega
    obtain ⟨its, rv, pl, _⟩ := I.list (hs.seq hS)
    obtain ⟨cs, nc, rc, hoc⟩ := lst_at I hcur
    have hend : its.toArray[i]? = none := by
      have h1 := rv.length
      simp only [List.getElem?_toArray]
      exact List.getElem?_eq_none (by omega)
    refine codeAny_builtin PySem.F.entry_min_loop ?_
    rw [Around.under_plainId PySem.F.plain_min_loop _]
    show wpAny _ X.A.in1 (seqItems? (.ref S) >>= _) _ _ _
    refine wpAny_bind (wpAny_seqItems hoc rfl ?_)
    show wpAny _ X.A.in1 (tryCatch (pyNext (.ref it)) _ >>= _) _ _ _
    refine wpAny_bind (wpAny_tryCatch (wpAny_pyNext_list_end (A := X.A.in1) hh (itO_at I.hok hit) pl.isList hend fun h' hx => ?_))
    have I1 := inv_drop I hit n0 hx
    have s1 : Same H2 (fun b => if b = it then none else H b) := fun b o e => (if_neg (ne_of_none e n1)).trans (hs b o e)
    have hc1 : (fun b => if b = it then (none : Option HO) else H b) S = some (.lst cur) := (if_neg (Ne.symm n3)).trans hcur
    rcases hmin with ⟨e1, e2⟩ | ⟨b, y, hb, e2, hbi, hl⟩
    · subst e2
      cases rc
      show wpAny _ X.A.in1 (rule _ >>= _) _ _ _
      refine wpAny_bind (wpAny_rule (wpAny_pure ?_))
      exact ⟨.non, _, I1, rfl, q0 (List.eq_nil_of_length_eq_zero (by omega)) _ s1⟩
    · subst e2
      obtain ⟨v1, v2, rfl, r1, r2⟩ := vals2 rc
      obtain ⟨cs', nc', _, hoc'⟩ := lst_at I1 hc1
      show wpAny _ X.A.in1 (updateSeq S (fun _ => #[]) >>= _) _ _ _
      refine wpAny_bind ?_
      refine wpAny_updateSeq hoc' rfl (wpAny_bind (wpAny_letGo (wpAny_pure ?_))) ?_ (Nat.zero_le _)
      · exact ⟨y, _, lst_put (us := []) (tk := s.toks) I1 hc1 .nil (Nat.zero_le _), r1, q1 b y _ hb (by rw [← ei]; exact hl) (same_put s1 n2)⟩
      · obtain ⟨hz, its2, _, rv2, ho2⟩ := I1.hok S _ hc1
        have e3 : (some (seqObj "list" cs'.toArray nc') : Option Obj) = _ := hoc'.symm.trans ho2
        have e4 : Data.seq cs'.toArray nc' = Data.seq its2.toArray _ := congrArg Obj.data (Option.some.inj e3)
        injection e4 with e5
        rw [e5, List.size_toArray, ← rv2.length]
        exact hz
  | succ r ih =>
    intro i H s cur hr hi I hs hit hcur hmin
    have hlt : i < xs.length := by omega
    obtain ⟨its, rv, pl, _⟩ := I.list (hs.seq hS)
    obtain ⟨cs, nc, rc, hoc⟩ := lst_at I hcur
    have hx : xs[i]? = some xs[i] := List.getElem?_eq_getElem hlt
    obtain ⟨u, hu, ru⟩ := rv.get hx
    refine codeAny_builtin PySem.F.entry_min_loop ?_
    rw [Around.under_plainId PySem.F.plain_min_loop _]
    show wpAny _ X.A.in1 (seqItems? (.ref S) >>= _) _ _ _
    refine wpAny_bind (wpAny_seqItems hoc rfl ?_)
    show wpAny _ X.A.in1 (tryCatch (pyNext (.ref it)) _ >>= _) _ _ _
    refine wpAny_bind (wpAny_tryCatch (wpAny_pyNext_list_item (itO_at I.hok hit) pl.isList (by simpa using hu) fun h' hli hsb => ?_))
    obtain ⟨oI, ho1, ho2⟩ := id hli
    have I1 : Inv X pins σ (upd H it (ItO it a (i + 1))) { s with heap := h' } := I.write (e := it) (t' := s.toks) (by rw [hit]; trivial) (.inl rfl) (fun b v hb q => (hsb.2 b hb).trans q) ⟨oI, ho1⟩ (itO_ok hli)
    have s1 : Same H2 (upd H it (ItO it a (i + 1))) := same_put hs n1
    show wpAny _ X.A.in1 (tryCatch (holding [u] (call (.ref f) [u])) _ >>= _) _ _ _
    refine wpAny_bind (wpAny_tryCatch (wpAny_holding (wpAny_mono (turn i xs[i] _ _ u hx I1 ru s1) (fun x s'' he => ?_) fun _ _ hF => hF.elim)))
    obtain ⟨t, H3, rfl, I3, s3⟩ := he
    have hit3 : H3 it = some (ItO it a (i + 1)) := s3 _ _ upd_same
    have hcur3 : H3 S = some (.lst cur) := s3 _ _ ((upd_ne (Ne.symm n3)).trans hcur)
    obtain ⟨cs3, nc3, rc3, hoc3⟩ := lst_at I3 hcur3
    have hz3 : cs3.toArray.size ≤ sizeLine := by
      have h1 := (I3.hok S _ hcur3).1
      rw [List.size_toArray, ← rc3.length]
      exact h1
    have put : ∀ tk, Inv X pins σ (upd H3 S (.lst [xs[i], .int (kf i)])) { s'' with heap := s''.heap.update S (Obj.mapSeq fun _ => #[u, .int (kf i) t]), toks := tk } := fun tk => lst_put (us := [u, .int (kf i) t]) I3 hcur3 (.cons ru (.cons ⟨t, rfl⟩ .nil)) (by show 2 ≤ sizeLine; decide)
    rcases hmin with ⟨e1, e2⟩ | ⟨b, y, hb, e2, hbi, hl⟩
    · subst e2
      cases rc
      show wpAny _ X.A.in1 (updateSeq S (fun _ => #[u, .int (kf i) t]) >>= _) _ _ _
      refine wpAny_bind ?_
      refine wpAny_updateSeq hoc3 rfl ?_ hz3 (by show 2 ≤ sizeLine + 1; decide)
      rw [hname]
      refine wpAny_pure ⟨plainId_quiet PySem.F.plain_min_loop _, ih (i + 1) _ _ _ (by omega) hlt (put s''.toks) (same_put (s1.trans s3) n2) ((upd_ne n3).trans hit3) upd_same (.inr ⟨i, _, hx, rfl, Nat.lt_succ_self _, fun j hj => ?_⟩)⟩
      have ej : j = i := by omega
      subst ej
      exact ⟨Int.le_refl _, fun z => absurd z (Nat.lt_irrefl _)⟩
    · subst e2
      obtain ⟨v1, v2, rfl, r1, tb, rfl⟩ := vals2 rc
      show wpAny _ X.A.in1 (tryCatch (holding [u, .int (kf i) t] (richCompare .Lt (.int (kf i) t) (.int (kf b) tb) >>= _)) _ >>= _) _ _ _
      refine wpAny_bind (wpAny_tryCatch (wpAny_holding (wpAny_bind (CmpOf.ints_lt (prog := X.prog) (w := X.w) (A := X.A.in1) (P := fun i v => ∃ t, v = .int (kf i) t) kf (fun i v h => h) i b _ _ _ _ _ ⟨t, rfl⟩ ⟨tb, rfl⟩ ?_))))
      refine wpAny_bind (wpAny_holding (wpAny_truthy_bool ?_))
      refine wpAny_bind (wpAny_letGo (wpAny_pure ?_))
      by_cases hb' : kf i < kf b
      · simp only [hb', decide_true, if_true]
        refine wpAny_bind ?_
        refine wpAny_updateSeq hoc3 rfl (wpAny_bind (wpAny_letGo ?_)) hz3 (by show 2 ≤ sizeLine + 1; decide)
        rw [hname]
        refine wpAny_pure ⟨plainId_quiet PySem.F.plain_min_loop _, ih (i + 1) _ _ _ (by omega) hlt (put s''.toks) (same_put (s1.trans s3) n2) ((upd_ne n3).trans hit3) upd_same (.inr ⟨i, _, hx, rfl, Nat.lt_succ_self _, fun j hj => ?_⟩)⟩
        by_cases ej : j = i
        · subst ej
          exact ⟨Int.le_refl _, fun z => absurd z (Nat.lt_irrefl _)⟩
        · have h1 := (hl j (by omega)).1
          exact ⟨by omega, fun _ => by omega⟩
      · simp only [hb', decide_false, Bool.false_eq_true, if_false]
        refine wpAny_bind (wpAny_letGo ?_)
        rw [hname]
        refine wpAny_pure ⟨plainId_quiet PySem.F.plain_min_loop _, ih (i + 1) _ _ _ (by omega) hlt I3 (s1.trans s3) hit3 hcur3 (.inr ⟨b, y, hb, rfl, by omega, fun j hj => ?_⟩)⟩
        by_cases ej : j = i
        · subst ej
          exact ⟨by omega, fun z => by omega⟩
        · exact hl j (by omega)
end
/-! ### the rule -/
/-- min(e, key=lambda .., default=None): the body's reading tb, from the argument and what is captured, gives whole numbers and keeps what stands; the first of the smallest -/
def tMinLam (K : PySem.W.Frag) (P : Addr) (q : Str) (N : List Str) (js : List Nat) (tb : TE) (te : TA) : TE := fun σ H Q => te σ H fun vs H1 => TabS H1 P q ∧ ∀ H2, ExtN H1 H2 → TabS H2 P q → ∃ (a : Addr) (xs : List V) (kf : Nat → Int), vs = [.ref a] ∧ SqL K H2 a xs ∧
  (∀ i y H3, xs[i]? = some y → Same H2 H3 → tb (startF N [y] (js.map (slotAt σ))) H3 fun v H4 => v = .int (kf i) ∧ Same H3 H4) ∧
  (xs = [] → ∀ H3, Same H2 H3 → Q .non H3) ∧ ∀ i y H3, xs[i]? = some y → FirstLeast kf xs.length i → Same H2 H3 → Q y H3
section
variable {X : Cx}
theorem pe_minLam {c P : Addr} {N fr : List Str} {ar : Str} {js : List Nat} {params : Arguments} {body e : Expr} {scope : Scope} {tb : TE} {te : TA} {j k : Nat} {p pos lpos kp1 kp2 cp : Pos} (hr : Room (k + 2) X.A) (hg : Gl X "min") (hm : X.mg "min" = none)
    (TB : TabB X.base X.mg c P) (hcode : X.env.code = .ref c) (hdef : defaultsOf params X.env = ([], [])) (hfree : ∀ y ∈ scope.names, y.2 = .free → X.env.scope.names.lookup y.1 = some .cell ∨ X.env.scope.names.lookup y.1 = some .free)
    (S : NScope N [ar] fr scope) (hfr : ∀ y ∈ fr, (y, NameKind.free) ∈ scope.names) (hjs : js.map (fun j => X.N[j]?) = fr.map some)
    (hb : ∀ (q : Str) (cl : List (Str × Addr)) (pm cv ctv u : Value), bindArgs (PySem.W.kla_fn "<lambda>" q params body scope cl pm cv ctv) ⟨[u], []⟩ = pure [(ar, u)])
    (hbody : ∀ (A : Around) (outer : List Env) (s : Shared) (H : Hp) (f c' : Addr), Room k (A.deeper (envF (lamNF X params scope c') f s.heap.objs.size)) → PE (ncx CX0 X.prog X.w X.K X.mg X.base N (lamNF X params scope c') f A outer s H E0) body tb)
    (ha : PA X [e] te)
    (he : backTo pos (starEach [e] X.env) = (false, eval e X.env) :: backTo pos (starEach [] X.env) := by rfl) (hpl : (backTo pos (starEach [e] X.env)).any (·.1) = false := by rfl)
    (hall : (backToKw pos (keywordEach [⟨some "key", .Lambda params body scope lpos, kp1⟩, ⟨some "default", .Constant .none j cp, kp2⟩] X.env)).all (·.1.isSome) = true := by rfl)
    (hnone : (backToKw pos (keywordEach [⟨some "key", .Lambda params body scope lpos, kp1⟩, ⟨some "default", .Constant .none j cp, kp2⟩] X.env)).any (·.1.isNone) = false := by rfl)
    (hks : (backToKw pos (keywordEach [⟨some "key", .Lambda params body scope lpos, kp1⟩, ⟨some "default", .Constant .none j cp, kp2⟩] X.env)).filterMap (·.1) = [Str.ofString "key", Str.ofString "default"] := by rfl) :
    PE X (.Call (.Name "min" p) [e] [⟨some "key", .Lambda params body scope lpos, kp1⟩, ⟨some "default", .Constant .none j cp, kp2⟩] pos) (tMinLam X.K P (X.env.qual ++ "<lambda>") N js tb te) := by
  refine ⟨fun pins s σ H Q I h => ?_⟩
  refine wpAny_Call_Name_kw (ld_blt I hg hm boot_min ?_)
  have hk : PK X [⟨some "key", .Lambda params body scope lpos, kp1⟩, ⟨some "default", .Constant .none j cp, kp2⟩] _ := pk_cons (pe_lamE TB hcode hdef hfree) (pk_cons pe_non pk_nil)
  refine PyProof.Rows.callWith_kw (thn (ha.run pos pins s σ H _ I h) fun us s1 ⟨vs, H1, I1, r1, q1⟩ => thn (hk.run pos pins s1 σ H1 (fun zs H2 => ∃ f c', zs = [.ref f, .non] ∧ ExtN H1 H2 ∧ TabS H2 P (X.env.qual ++ "<lambda>") ∧ H2 f = some (LamO f (lamNF X params scope c') body) ∧ H2 c' = some (CodeO c' (X.env.qual ++ "<lambda>"))) I1
    ⟨q1.1, fun f c' H2 e1 t1 k1 k2 => ⟨f, c', rfl, e1, t1, k1, k2⟩⟩) fun ws s2 ⟨zs, H2, I2, r2, q2⟩ => ?_) he hpl hall hnone
  obtain ⟨f, c', rfl, e2, t2, hf, hc⟩ := q2
  obtain ⟨a, xs, kf, rfl, hS, qt, q0, qn⟩ := q1.2 H2 e2 t2
  obtain rfl := Vals.ref1 r1
  obtain ⟨w1, w2, rfl, g1, g2⟩ := vals2 r2
  obtain rfl : w1 = Value.ref f := g1
  obtain rfl : w2 = Value.none := g2
  rw [hks]
  have hh : X.A.handled = none := hr.hd
  have cp : Caps X (cloFrom X.env.cells scope.names []) fr js := Caps.made I2.ok hfree hfr hjs
  refine kmk_tree PySem.F.kind_min PySem.F.plain_min PySem.F.entry_min (min_args2 _ _ _) ?_
  have hname : (toString "min" ++ toString ".loop" : String) = "min.loop" := by decide
  show wpAny _ X.A.in1 (Builtin.Builtins.bindParams "min" ["key", "default"] 0 ⟨[], [(Str.ofString "key", .ref f), (Str.ofString "default", .none)]⟩ >>= _) _ _ s2
  refine wpAny_bind (wpAny_of_eq (show Builtin.Builtins.bindParams "min" ["key", "default"] 0 ⟨[], [(Str.ofString "key", .ref f), (Str.ofString "default", .none)]⟩ = pure [some (.ref f), some .none] from rfl) ?_)
  refine wpAny_bind (wpAny_pure ?_)
  obtain ⟨its, rv, pl, _⟩ := I2.list hS
  refine wpAny_bind (wpAny_pyIter_list pl.isList ?_)
  refine wpAny_bind (wpAny_newList ?_ (Nat.zero_le _))
  rw [hname]
  have fI : H2 s2.heap.objs.size = none := I2.hok.fresh (Nat.le_refl _)
  have sz0 := I2.sz
  -- the iterator
  have hIt : (s2.heap.push { cls := .type "list_iterator", data := .fields #[.ref a, .int 0 0] }).IsListIter s2.heap.objs.size a 0 := ⟨_, Heap.get?_push_size _ rfl, rfl, rfl⟩
  have I3 : Inv X pins σ (upd H2 s2.heap.objs.size (ItO s2.heap.objs.size a 0)) { s2 with heap := s2.heap.push { cls := .type "list_iterator", data := .fields #[.ref a, .int 0 0] } } := I2.laid (t' := s2.toks) (fun _ _ z => Heap.get?_push_of_some _ z) (Nat.le_refl _) (itO_ok hIt)
  generalize hgen : s2.heap.push { cls := .type "list_iterator", data := .fields #[.ref a, .int 0 0] } = h3 at I3
  have fS : upd H2 s2.heap.objs.size (ItO s2.heap.objs.size a 0) h3.objs.size = none := I3.hok.fresh (Nat.le_refl _)
  have nIS : s2.heap.objs.size ≠ h3.objs.size := fun z => by
    rw [← z, upd_same] at fS
    cases fS
  have fS2 : H2 h3.objs.size = none := (upd_ne (Ne.symm nIS)).symm.trans fS
  have I4 : Inv X pins σ (upd (upd H2 s2.heap.objs.size (ItO s2.heap.objs.size a 0)) h3.objs.size (.lst [])) { s2 with heap := h3.push (seqObj "list" #[] 0) } := I3.laid (t' := s2.toks) (fun _ _ z => Heap.get?_push_of_some _ z) (Nat.le_refl _) ⟨Nat.zero_le _, [], 0, .nil, Heap.get?_push_size _ rfl⟩
  refine wpAny_pure ⟨plainId_quiet PySem.F.plain_min_loop _, ?_⟩
  refine min_loop (kf := kf) hh sz0 fI fS2 nIS hS (fun i y H3 s3 u hy I5 ru s5 => ?_) q0 (fun i y H3 hy hl s5 => qn i y H3 hy hl s5) xs.length 0 _ _ [] (by omega) (Nat.zero_le _) I4 (same_put (same_put (Same.refl _) fI) fS2) ((upd_ne nIS).trans upd_same) upd_same (.inl ⟨rfl, rfl⟩)
  -- one item's key
  have hr1 : Room (k + 1) X.A.in1 := hr.in1
  have C := cells_of I5 cp
  refine wpAny_call (codeAny_mono (lam_run (k := k) (F := lamNF X params scope c') (body := body) (Q := fun v H4 => v = .int (kf i) ∧ Same H3 H4) (E := E0) S (fun pm ctv us hu => ?_) hr1 I5.env0.in1 (s5 _ _ hf) (s5 _ _ hc) C (.cons ru .nil) rfl (fun hr2 => hbody _ _ _ _ _ _ hr2) (qt i y H3 hy s5)) fun r s' hq => ?_)
  · match us, hu with
    | [u'], _ => exact hb _ _ _ _ _ _
  · cases r with
    | error e => exact (show False from hq).elim
    | ok fl =>
      cases fl with
      | ret v =>
        obtain ⟨y', H', J, rv', q'⟩ := I5.after hq
        obtain ⟨rfl, sm⟩ := q'
        obtain ⟨t, rfl⟩ := rv'
        exact ⟨t, H', rfl, J, sm⟩
      | next => exact (show False from hq).elim
      | brk => exact (show False from hq).elim
      | cont => exact (show False from hq).elim
end
end FB

/-! ## FBD -/
set_option maxRecDepth 100000
set_option maxHeartbeats 2000000
/-! the valid blends, the cheapest. -/
namespace FB
open PySem PySem.Spec PyProof.Rows L2 LamX NdefX
theorem tcons1 {ta : TE} {tr : TA} {σ : L2.St} {H : Hp} {Q : List V → Hp → Prop} (h : ta σ H fun x H1 => tr σ H1 fun xs H2 => Q (x :: xs) H2) : tCons ta tr σ H Q := h
theorem tcall1 {sp : Sp} {dvs : List V} {E : XK} {t : TA} {σ : L2.St} {H : Hp} {Q : VK} (h : t σ H fun vs H1 => sp (vs ++ dvs) H1 Q E) : tCall sp dvs E t σ H Q := h
theorem tasg1 {te : TE} {g : TG} {D : Ends} {σ : L2.St} {H : Hp} (h : te σ H fun x H1 => g x σ H1 D.nx) : tAsg te g D σ H := h
theorem tseq1 {t u : TS} {D : Ends} {σ : L2.St} {H : Hp} (h : t { D with nx := u D } σ H) : tSeq t u D σ H := h
/-- a comprehension over a list of objects that stand for the items of ys -/
theorem lc_refs {β : Type} {K : PySem.W.Frag} {H0 : Hp} {ys : List β} {R : Hp → Addr → β → Prop} {t0 : TE} {σ : L2.St} (rm : ∀ H H' a b, R H a b → Same H H' → R H' a b) (hlen : ys.length < 16777216)
    (h0 : ∀ Z : VK, (∀ l H as, Same H0 H → H l = some (.lst (refV as)) → Pr (R H) as ys → Z (.ref l) H) → t0 σ H0 Z)
    {i : Nat} {tt : TT} {te : TE} {keep : β → Bool} {g : Addr → β → V}
    (ht : ∀ a b H1 (Q : Bool → Hp → Prop), b ∈ ys → R H1 a b → Same H0 H1 → (∀ H2, Same H1 H2 → Q (keep b) H2) → tt ((σ.set i none).set i (some (.ref a))) H1 Q)
    (he : ∀ a b H1 (Q : VK), b ∈ ys → R H1 a b → Same H0 H1 → (∀ H2, Same H1 H2 → Q (g a b) H2) → te ((σ.set i none).set i (some (.ref a))) H1 Q)
    {Q : VK} (hq : ∀ D H' as, Same H0 H' → Pr (R H') as ys → H' D = some (.lst (((as.zip ys).filter fun p => keep p.2).map fun p => g p.1 p.2)) → Q (.ref D) H') :
    tLc (iList K t0) (gName i) tt te [i] σ H0 Q := by
  refine h0 _ fun l H as s0 hl pr => ?_
  refine ⟨l, rfl, ⟨_, SqL.of hl⟩, fun D hD => ?_⟩
  refine lc_list (K := K) (a := l) (xs := refV as) (fun j H' => Made H D ((((as.zip ys).take j).filter fun p => keep p.2).map fun p => g p.1 p.2) H') (Made.start hD) (fun j H' _ p => SqL.of (p.1 _ _ hl)) ?_ ?_
  · rintro j y H1 hj p
    obtain ⟨a, ha, rfl⟩ := refV_at hj
    obtain ⟨b, hb, hR⟩ := pr.at2 ha
    have hm := List.mem_of_getElem? hb
    have hz : (as.zip ys)[j]? = some (a, b) := List.getElem?_zip_eq_some.mpr ⟨ha, hb⟩
    have hR1 := rm _ _ _ _ hR p.1
    refine ⟨?_, ?_⟩
    · show ((σ.set i none).set i (some (.ref a))).set i none = σ.set i none
      rw [List.set_set, List.set_set]
    · refine ht a b H1 _ hm hR1 (s0.trans p.1) fun H2 s2 => ?_
      have hR2 := rm _ _ _ _ hR1 s2
      cases hk : keep b with
      | true =>
        refine iteT (he a b H2 _ hm hR2 (s0.trans (p.1.trans s2)) fun H3 s3 => ?_)
        refine Made.next hD p (s2.trans s3) ?_ ?_
        · rw [take_more hz, List.filter_append, List.map_append]
          simp [hk]
        · rw [List.length_map]
          refine Nat.lt_of_le_of_lt (List.length_filter_le _ _) ?_
          rw [List.length_take, List.length_zip]
          omega
      | false =>
        refine iteF (p.stay s2 ?_)
        rw [take_more hz, List.filter_append]
        simp [hk]
  · rintro H' p
    refine hq D H' as (s0.trans p.1) (pr.imp fun _ _ q => rm _ _ _ _ q p.1) ?_
    rw [p.2]
    have e : (as.zip ys).length = (refV as).length := by
      rw [List.length_zip, refV_len, pr.len, Nat.min_self]
    rw [← e, List.take_length]
theorem zip_map2 {α β γ : Type} {R : α → β → Prop} (h : β → γ) : ∀ {as : List α} {ys : List β}, Pr R as ys → (as.zip ys).map (fun p => h p.2) = ys.map h
  | _, _, .nil => rfl
  | _, _, .cons _ t => by
    rw [List.zip_cons_cons, List.map_cons, List.map_cons, zip_map2 h t]
theorem zip_keep {α β : Type} {R : α → β → Prop} (k : β → Bool) : ∀ {as : List α} {ys : List β}, Pr R as ys → Pr R (((as.zip ys).filter fun p => k p.2).map (·.1)) (ys.filter k)
  | _, _, .nil => .nil
  | a :: _, b :: _, .cons r t => by
    rw [List.zip_cons_cons, List.filter_cons, List.filter_cons]
    cases hb : k b with
    | true => exact .cons r (zip_keep k t)
    | false => exact zip_keep k t
theorem filter_true {α : Type} (l : List α) : (l.filter fun _ => true) = l := List.filter_eq_self.mpr fun _ _ => rfl
theorem amounts_ok {bs : List Sr96.Bin} (g : GoodBs bs) : (∀ x ∈ bs.map (fun b => b.kilograms), x ≤ 30) ∧ (bs.map fun b => b.kilograms).length ≤ 4 := by
  refine ⟨fun x hx => ?_, ?_⟩
  · obtain ⟨b, hb, rfl⟩ := List.mem_map.mp hx
    exact (g.all b hb).kilograms
  · rw [List.length_map]
    exact g.len
theorem bf_small {bs : List Sr96.Bin} (g : GoodBs bs) (n : Nat) : (bf (bs.map fun b => b.kilograms) n).length ≤ 923521 := by
  obtain ⟨h1, h2⟩ := amounts_ok g
  have h3 := bf_len _ n h1
  have h4 : 31 ^ (bs.map fun b => b.kilograms).length ≤ 31 ^ 4 := Nat.pow_le_pow_right (by decide) h2
  have h5 : (31 : Nat) ^ 4 = 923521 := by decide
  omega
/-- the cheapest of the blends that are valid -/
def cheapL (bs : List Sr96.Bin) (r : Sr96.Request) : Option Sr96.Blend := Sr96.minimumBy (fun x => ((Sr96.total Sr96.Bin.price bs x : Nat) : Int)) ((bf (bs.map fun b => b.kilograms) r.kilograms).filter (meets bs r))
/-- None, or a list that stands for the blend -/
def OptAt (H : Hp) (v : V) : Option Sr96.Blend → Prop
  | none => v = .non
  | some x => ∃ a, v = .ref a ∧ NumL H a x
def lamQ : Str := "find_cheapest.<locals>.<lambda>"
def spFc (CB CQ T : Addr) : Sp := fun vs H Q _ => ∃ (l q : Addr) (bs : List Sr96.Bin) (r : Sr96.Request), vs = [.ref l, .ref q] ∧ BinL CB H l bs ∧ ReqAt CQ H q r ∧ GoodBs bs ∧ GoodR r ∧ TabS H T lamQ ∧ ∀ H' v, ExtN H H' → TabS H' T lamQ → OptAt H' v (cheapL bs r) → Q v H'
theorem extN_same {H H1 H2 : Hp} (a : ExtN H H1) (s : Same H1 H2) : ExtN H H2 := a.trans (ExtN.of s)
theorem BinL.ext {C : Addr} {H H' : Hp} {a : Addr} {b : List Sr96.Bin} (h : BinL C H a b) (s : ExtN H H') : BinL C H' a b :=
  let ⟨as, e, p⟩ := h
  ⟨as, s _ _ e (fun _ z => by cases z), p.imp fun _ _ ⟨dx, q⟩ => ⟨dx, s _ _ q fun _ z => by cases z⟩⟩
theorem BlL.ext {H H' : Hp} {a : Addr} {b : List (List Nat)} (h : BlL H a b) (s : ExtN H H') : BlL H' a b :=
  let ⟨as, e, p⟩ := h
  ⟨as, s _ _ e (fun _ z => by cases z), p.imp fun _ _ q => s _ _ q fun _ z => by cases z⟩
theorem ReqAt.ext {C : Addr} {H H' : Hp} {a : Addr} {b : Sr96.Request} (h : ReqAt C H a b) (s : ExtN H H') : ReqAt C H' a b := let ⟨dx, e⟩ := h; ⟨dx, s _ _ e fun _ z => by cases z⟩
section
variable {P : Program} {w : World} {K : PySem.W.Frag} {mg : Str → Option Value} {base : Heap} {A : Ads}
theorem ok_ab (T : Txt K mg A) : FnOk P w K mg base CX0 6 A.d_ab.f A.d_ab.fd ["bins", "weight"] (spAb A.cB) := by
  refine T.ab.F.ok c_ab (fun vs H Q E h => ?_) (fun cdv Ar outer s H vs Q E hr h => ?_)
  · obtain ⟨l, bs, n, rfl, _⟩ := h
    rfl
  · obtain ⟨l, bs, n, rfl, ⟨as, hl, pb⟩, gb, hn, k⟩ := h
    refine ⟨_, pss_one (ps_ret (pe_call (ok_bf T 4) hr rfl T.bf.g T.bf.k T.bf.b .nil pass0 (pa_cons (pe_lc (own := [("one", 2)]) (g := gName 2) (tt := tYes) (te := tFld K (tVar 2) "kilograms") (by rfl) c_ab.nd
      (pi_list (pv 0)) (blkOk_by (N := ["bins", "weight", "one"]) (sc := defScope s_ab) (by decide +kernel)) (by exact fun _ _ _ _ _ => pg_name (i := 2) c_ab.nd rfl (Or.inl rfl)) (by exact fun _ _ _ _ _ => pts_nil) (by exact fun _ _ _ _ _ => pe_fld (pv 2) rfl)) (pa_cons (pv 1) pa_nil)))), ?_⟩
    refine tret1 (tcall1 (tcons1 (lc_refs (R := BinAt A.cB) (ys := bs) (keep := fun _ => true) (g := fun _ b => nV b.kilograms) (fun _ _ _ _ q s => q.same s) (by have := gb.len; omega) (fun Z z => ⟨_, rfl, z l H as (Same.refl _) hl pb⟩)
      (fun a b H1 Q1 _ _ _ q => q H1 (Same.refl _)) (fun a b H1 Q1 _ hB0 _ q => ?_) (fun D H' as' sm pb' hD => ?_))))
    · obtain ⟨dx, hB⟩ := hB0
      exact ⟨_, rfl, a, _, dx, _, _, rfl, hB, T.clB, T.nB_kilograms, rfl, q H1 (Same.refl _)⟩
    · rw [filter_true, zip_map2 (fun b : Sr96.Bin => nV b.kilograms) pb'] at hD
      have hD2 : NumL H' D (bs.map fun b => b.kilograms) := by
        show H' D = _
        rw [hD]
        unfold natV
        rw [List.map_map]
        rfl
      obtain ⟨h1, h2⟩ := amounts_ok gb
      exact ⟨_, rfl, D, _, n, rfl, hD2, h2, h2, h1, hn, fun H2 p s2 b => k H2 p (sm.trans s2) b.get⟩
theorem ok_vb (T : Txt K mg A) : FnOk P w K mg base CX0 7 A.d_vb.f A.d_vb.fd ["bins", "request"] (spVb A.cB A.cQ) := by
  refine T.vb.F.ok c_vb (fun vs H Q E h => ?_) (fun cdv Ar outer s H vs Q E hr h => ?_)
  · obtain ⟨l, q, bs, r, rfl, _⟩ := h
    rfl
  · obtain ⟨l, q, bs, r, rfl, hb, hR, gb, gr, k⟩ := h
    obtain ⟨dx, hRq⟩ := id hR
    have hr2 : Room 2 _ := hr.mono (by decide)
    refine ⟨_, pss_one (ps_ret (pe_lc (own := [("blend", 2)]) (g := gName 2) (tt := tB (tCall (spMr A.cB A.cQ) [] E0 (tCons (tVar 0) (tCons (tVar 1) (tCons (tVar 2) tNil))))) (te := tVar 2) (by rfl) c_vb.nd
      (pi_list (pe_call (ok_ab T) hr rfl T.ab.g T.ab.k T.ab.b .nil pass0 (pa_cons (pv 0) (pa_cons (pe_fld (pv 1) rfl) pa_nil)))) (blkOk_by (N := ["bins", "request", "blend"]) (sc := defScope s_vb) (by decide +kernel)) (by exact fun _ _ _ _ _ => pg_name (i := 2) c_vb.nd rfl (Or.inl rfl))
      (by exact fun _ _ _ _ _ => pts_one (pt_val (pe_call (ok_mr T) hr2 (by rfl) T.mr.g T.mr.k T.mr.b .nil pass0 (pa_cons (pv 0) (pa_cons (pv 1) (pa_cons (pv 2) pa_nil)))))) (by exact fun _ _ _ _ _ => pv 2))), ?_⟩
    refine tret1 (lc_refs (R := NumL) (ys := bf (bs.map fun b => b.kilograms) r.kilograms) (keep := meets bs r) (g := fun a _ => .ref a) (fun _ _ _ _ q s => q.same s) (by have := bf_small gb r.kilograms; omega)
      (fun Z z => ⟨_, rfl, _, rfl, q, _, dx, _, _, rfl, hRq, T.clQ, T.nQ_n, rfl, l, bs, r.kilograms, rfl, hb, gb, gr.kilograms, fun H1 p s1 ⟨as, hp, pb⟩ => z p H1 as s1 hp pb⟩)
      (fun a b H2 Q1 _ hx s2 k1 => ?_) (fun a b H2 Q1 _ _ _ k1 => ⟨_, rfl, k1 H2 (Same.refl _)⟩) fun D H' as sm pb hD => ?_)
    · exact ⟨_, rfl, _, rfl, _, rfl, l, q, a, bs, r, b, rfl, hb.same s2, hR.same s2, hx, gb, gr, fun H3 s3 => ⟨_, rfl, k1 H3 s3⟩⟩
    · refine k H' D sm ⟨_, ?_, zip_keep (meets bs r) pb⟩
      rw [hD]
      unfold refV
      rw [List.map_map]
      rfl
theorem cheap_none {bs : List Sr96.Bin} {r : Sr96.Request} (h : (bf (bs.map fun b => b.kilograms) r.kilograms).filter (meets bs r) = []) : cheapL bs r = none := by
  unfold cheapL
  rw [h]
  rfl
theorem ok_fc (T : Txt K mg A) {c Pt : Addr} (KB : K.In base) (GB : base.Ns mainGlobals mg) (ht : PySem.W.tabIn K "find_cheapest" = some (c, Pt)) (TB : TabB base mg c Pt) :
    FnOk P w K mg base CX0 8 A.d_fc.f A.d_fc.fd ["bins", "request"] (spFc A.cB A.cQ Pt) := by
  obtain ⟨oc, od, kV, doc, pm, an, cdv, ct, osl, hfd, lk, hcd⟩ := T.fc.F.ex
  have hc : cdv = .ref c := by
    have z := PySem.W.law_code KB GB ht T.fc.g (KB _ _ lk) rfl
    rw [hfd] at z
    exact z
  rw [hfd] at lk ⊢
  refine fn_of lk hcd c_fc (fun vs H Q E h => ?_) (fun Ar outer s H vs Q E hr h => ?_)
  · obtain ⟨l, q, bs, r, rfl, _⟩ := h
    rfl
  · obtain ⟨l, q, bs, r, rfl, hb, hR, gb, gr, tb, k⟩ := h
    refine ⟨_, PSs.nox (pss_one (ps_ret (pe_minLam (k := 5) (N := ["blend", "bins"]) (ar := "blend") (fr := ["bins"]) (js := [0]) (tb := tCall (spSum A.cB Sr96.Bin.price) [] E0 (tCons (tVar 1) (tCons (tVar 0) tNil))) (c := c) (P := Pt) hr (by rfl) T.b_min TB hc rfl
      (by exact ndef_free (sc := defScope s_fc) (fr := ["bins"]) (by decide +kernel)) (by exact nscope_by (by decide +kernel)) (by exact ndef_fr (sc := defScope s_fc) (by decide +kernel)) rfl (by exact fun _ _ _ _ _ _ => rfl)
      (by exact fun A1 o1 s1 H1 f1 c1 hr1 => pe_call (ok_co T) (hr1.mono (by decide)) (by rfl) T.co.g T.co.k T.co.b .nil pass0 (pa_cons (pv 1) (pa_cons (pv 0) pa_nil)))
      (pa_cons (pe_call (ok_vb T) hr rfl T.vb.g T.vb.k T.vb.b .nil pass0 (pa_cons (pv 0) (pa_cons (pv 1) pa_nil))) pa_nil)))), ?_⟩
    refine ⟨_, rfl, _, rfl, l, q, bs, r, rfl, hb, hR, gb, gr, fun H1 p s1 bl => ⟨tb.ext s1, fun H2 e2 t2 => ?_⟩⟩
    have e12 : ExtN H H2 := (ExtN.of s1).trans e2
    have hb2 := hb.ext e12
    obtain ⟨as, hp, pa⟩ := bl.ext e2
    let L := (bf (bs.map fun b => b.kilograms) r.kilograms).filter (meets bs r)
    let kf : Nat → Int := fun i => (L[i]?.map fun x => ((Sr96.total Sr96.Bin.price bs x : Nat) : Int)).getD 0
    refine ⟨p, refV as, kf, rfl, SqL.of hp, fun i y H3 hy s3 => ?_, fun hn H3 s3 => ?_, fun i y H3 hy hl s3 => ?_⟩
    · obtain ⟨a, ha, rfl⟩ := refV_at hy
      obtain ⟨x, hx, nx⟩ := pa.at2 ha
      refine ⟨_, rfl, _, rfl, l, a, bs, x, rfl, hb2.same s3, nx.same s3, gb, fun H4 s4 => ⟨?_, s4⟩⟩
      have e : kf i = ((Sr96.total Sr96.Bin.price bs x : Nat) : Int) := by
        show (L[i]?.map _).getD 0 = _
        rw [hx]
        rfl
      rw [e]
    · have e0 : L = [] := by
        have h1 := pa.len
        have h2 := congrArg List.length hn
        rw [refV_len] at h2
        exact List.eq_nil_of_length_eq_zero (h1.symm.trans h2)
      refine k H3 .non (extN_same e12 s3) (t2.ext s3) ?_
      rw [cheap_none e0]
      rfl
    · obtain ⟨a, ha, rfl⟩ := refV_at hy
      obtain ⟨x, hx, nx⟩ := pa.at2 ha
      refine k H3 _ (extN_same e12 s3) (t2.ext s3) ?_
      have e : cheapL bs r = some x := minBy_at hx fun j z hz => by
        have hj : j < (refV as).length := by
          rw [refV_len, pa.len]
          exact (List.getElem?_eq_some_iff.mp hz).1
        have h1 := hl j hj
        have ei : kf i = ((Sr96.total Sr96.Bin.price bs x : Nat) : Int) := by
          show (L[i]?.map _).getD 0 = _
          rw [hx]
          rfl
        have ej : kf j = ((Sr96.total Sr96.Bin.price bs z : Nat) : Int) := by
          show (L[j]?.map _).getD 0 = _
          rw [hz]
          rfl
        rw [ei, ej] at h1
        exact h1
      rw [e]
      exact ⟨a, rfl, nx.same s3⟩
end
end FB

/-! ## FBMath2 -/
namespace FB
open Sr96
/-- the amounts -/
abbrev kgs (bs : List Bin) : List Nat := bs.map fun b => b.kilograms
theorem blends_is (s : Store) (n : Nat) : blends s n = bf (kgs s.bins) n := (bf_bins s.bins n).symm
theorem weakest_is {s : Store} {n m : Nat} (hm : m ∈ (bf (kgs s.bins) n).map (total Bin.strength s.bins)) (hall : ∀ y ∈ (bf (kgs s.bins) n).map (total Bin.strength s.bins), m ≤ y) : ∃ x, weakestBlend s n = some x ∧ x ∈ bf (kgs s.bins) n ∧ total Bin.strength s.bins x = m := by
  obtain ⟨z, hz, ez⟩ := List.mem_map.mp hm
  obtain ⟨x, hx⟩ := minBy_ne (m := fun x => ((total Bin.strength s.bins x : Nat) : Int)) (List.ne_nil_of_mem hz)
  obtain ⟨h1, h2⟩ := minBy_some hx
  have h3 := h2 z hz
  have h4 := hall _ (List.mem_map.mpr ⟨x, h1, rfl⟩)
  refine ⟨x, ?_, h1, by omega⟩
  unfold weakestBlend
  rw [blends_is]
  exact hx
theorem purest_is {s : Store} {n m : Nat} (hm : m ∈ (bf (kgs s.bins) n).map (total Bin.ash s.bins)) (hall : ∀ y ∈ (bf (kgs s.bins) n).map (total Bin.ash s.bins), m ≤ y) : ∃ x, purestBlend s n = some x ∧ x ∈ bf (kgs s.bins) n ∧ total Bin.ash s.bins x = m := by
  obtain ⟨z, hz, ez⟩ := List.mem_map.mp hm
  obtain ⟨x, hx⟩ := minBy_ne (m := fun x => ((total Bin.ash s.bins x : Nat) : Int)) (List.ne_nil_of_mem hz)
  obtain ⟨h1, h2⟩ := minBy_some hx
  have h3 := h2 z hz
  have h4 := hall _ (List.mem_map.mpr ⟨x, h1, rfl⟩)
  refine ⟨x, ?_, h1, by omega⟩
  unfold purestBlend
  rw [blends_is]
  exact hx
theorem strongest_is {s : Store} {n m : Nat} (hm : m ∈ (bf (kgs s.bins) n).map (total Bin.strength s.bins)) (hall : ∀ y ∈ (bf (kgs s.bins) n).map (total Bin.strength s.bins), y ≤ m) : ∃ x, strongestBlend s n = some x ∧ x ∈ bf (kgs s.bins) n ∧ total Bin.strength s.bins x = m := by
  obtain ⟨z, hz, ez⟩ := List.mem_map.mp hm
  obtain ⟨x, hx⟩ := minBy_ne (m := fun x => -((total Bin.strength s.bins x : Nat) : Int)) (List.ne_nil_of_mem hz)
  obtain ⟨h1, h2⟩ := minBy_some hx
  have h3 := h2 z hz
  have h4 := hall _ (List.mem_map.mpr ⟨x, h1, rfl⟩)
  refine ⟨x, ?_, h1, by omega⟩
  unfold strongestBlend
  rw [blends_is]
  exact hx
theorem none_of {s : Store} {n : Nat} (h : bf (kgs s.bins) n = []) : weakestBlend s n = none ∧ strongestBlend s n = none ∧ purestBlend s n = none := by
  unfold weakestBlend strongestBlend purestBlend
  rw [blends_is, h]
  exact ⟨rfl, rfl, rfl⟩
theorem obstacle_none {s : Store} {r : Request} (h : bf (kgs s.bins) r.kilograms = []) : obstacle s r = 1 := by
  unfold obstacle
  obtain ⟨h1, h2, h3⟩ := none_of h
  rw [h1, h2, h3]
theorem obstacle_some {s : Store} {r : Request} {mx mn ma : Nat} (h1 : mx ∈ (bf (kgs s.bins) r.kilograms).map (total Bin.strength s.bins)) (h2 : ∀ y ∈ (bf (kgs s.bins) r.kilograms).map (total Bin.strength s.bins), y ≤ mx)
    (h3 : mn ∈ (bf (kgs s.bins) r.kilograms).map (total Bin.strength s.bins)) (h4 : ∀ y ∈ (bf (kgs s.bins) r.kilograms).map (total Bin.strength s.bins), mn ≤ y)
    (h5 : ma ∈ (bf (kgs s.bins) r.kilograms).map (total Bin.ash s.bins)) (h6 : ∀ y ∈ (bf (kgs s.bins) r.kilograms).map (total Bin.ash s.bins), ma ≤ y) :
    obstacle s r = if mx < r.minStrength * r.kilograms then 2 else if r.maxStrength * r.kilograms < mn then 3 else if r.maxAsh * r.kilograms < ma then 4 else if (bf (kgs s.bins) r.kilograms).any (meets s.bins r) then 0 else 5 := by
  obtain ⟨x, e1, m1, t1⟩ := strongest_is h1 h2
  obtain ⟨y, e2, m2, t2⟩ := weakest_is h3 h4
  obtain ⟨z, e3, m3, t3⟩ := purest_is h5 h6
  have s1 := ((mem_bf _ _ _).mp m1).2
  have s2 := ((mem_bf _ _ _).mp m2).2
  have s3 := ((mem_bf _ _ _).mp m3).2
  unfold obstacle
  rw [e1, e2, e3]
  unfold isStrongEnough isWeakEnough isPureEnough
  dsimp only
  rw [s1, s2, s3, t1, t2, t3]
  have ev : (validBlends s r).isEmpty = !(bf (kgs s.bins) r.kilograms).any (meets s.bins r) := by
    rw [← valid_is]
    generalize bf (kgs s.bins) r.kilograms = l
    induction l with
    | nil => rfl
    | cons a l ih =>
      rw [List.filter_cons, List.any_cons]
      cases meets s.bins r a with
      | true => rfl
      | false => exact ih
  rw [ev]
  by_cases c1 : mx < r.minStrength * r.kilograms
  · rw [if_pos c1, decide_eq_false (by omega)]
    rfl
  · rw [if_neg c1, decide_eq_true (by omega)]
    by_cases c2 : r.maxStrength * r.kilograms < mn
    · rw [if_pos c2, decide_eq_false (by omega)]
      rfl
    · rw [if_neg c2, decide_eq_true (by omega)]
      by_cases c3 : r.maxAsh * r.kilograms < ma
      · rw [if_pos c3, decide_eq_false (by omega)]
        rfl
      · rw [if_neg c3, decide_eq_true (by omega)]
        cases (bf (kgs s.bins) r.kilograms).any (meets s.bins r) <;> rfl
end FB

/-! ## FBE -/
set_option maxRecDepth 100000
set_option maxHeartbeats 2000000
/-! the greatest weight, the obstacle. -/
namespace FB
open PySem PySem.Spec PyProof.Rows L2
def TriAt (H : Hp) (a : Addr) (t : Tri) : Prop := H a = some (.tup [nV t.1, nV t.2.1, nV t.2.2])
def TrL (H : Hp) (a : Addr) (l : List Tri) : Prop := ∃ as, H a = some (.lst (refV as)) ∧ Pr (TriAt H) as l
theorem TriAt.same {H H' : Hp} {a : Addr} {t : Tri} (h : TriAt H a t) (s : Same H H') : TriAt H' a t := s _ _ h
theorem TrL.same {H H' : Hp} {a : Addr} {l : List Tri} (h : TrL H a l) (s : Same H H') : TrL H' a l := let ⟨as, e, p⟩ := h; ⟨as, s _ _ e, p.imp fun _ _ q => q.same s⟩
/-- threes gathered in a list of one's own -/
structure AccT (H0 H : Hp) (bl : Addr) (l : List Tri) : Prop where
  same : Same H0 H
  new : H0 bl = none
  got : TrL H bl l
theorem AccT.nil {H0 H : Hp} {bl : Addr} (s : Same H0 H) (n : H bl = none) : AccT H0 (upd H bl (.lst [])) bl [] := ⟨same_upd s n, s.free n, [], upd_same, .nil⟩
theorem AccT.push {H0 H : Hp} {bl p : Addr} {l : List Tri} {t : Tri} (a : AccT H0 H bl l) (n : H p = none) (hl : l.length < 16777216) :
    ∃ xs, upd H p (.tup [nV t.1, nV t.2.1, nV t.2.2]) bl = some (.lst xs) ∧ xs.length < sizeLine ∧ AccT H0 (upd (upd H p (.tup [nV t.1, nV t.2.1, nV t.2.2])) bl (.lst (xs ++ [.ref p]))) bl (l ++ [t]) := by
  obtain ⟨ads, e, q⟩ := a.got
  have ne : bl ≠ p := ne_of_none e n
  have off : ∀ x y, TriAt H x y → TriAt (upd (upd H p (.tup [nV t.1, nV t.2.1, nV t.2.2])) bl (.lst (refV ads ++ [.ref p]))) x y := fun x y z => by
    have z' : H x = _ := z
    have h1 : x ≠ bl := ne_of z' e (by intro w; cases w)
    show upd _ bl _ x = _
    rw [upd_ne h1, upd_ne (ne_of_none z' n)]
    exact z
  refine ⟨refV ads, (upd_ne ne).trans e, ?_, same_put0 (same_upd a.same n) a.new, a.new, ads ++ [p], ?_, ?_⟩
  · rw [refV_len, q.len]
    exact size_less hl
  · rw [upd_same]
    unfold refV
    rw [List.map_append]
    rfl
  · refine Pr.snoc ?_ (q.imp off)
    show upd _ bl _ p = _
    rw [upd_ne (Ne.symm ne), upd_same]
def spSu (CB : Addr) : Sp := fun vs H Q _ => ∃ (l : Addr) (bs : List Sr96.Bin), vs = [.ref l, nV 30] ∧ BinL CB H l bs ∧ GoodBs bs ∧ ∀ H' p, Same H H' → TrL H' p (ups 30 bs [(0, 0, 0)]) → Q (.ref p) H'
def spGw (CB CQ : Addr) : Sp := fun vs H Q _ => ∃ (l q : Addr) (bs : List Sr96.Bin) (r : Sr96.Request) (z : Nat), vs = [.ref l, .ref q, nV 30] ∧ BinL CB H l bs ∧ ReqAt CQ H q r ∧ GoodBs bs ∧ GoodR r ∧ ∀ H' m, Same H H' → m = Sr96.greatestAmount ⟨bs, r, z⟩ r → Q (nV m) H'
def spFo (CB CQ : Addr) : Sp := fun vs H Q _ => ∃ (l q : Addr) (bs : List Sr96.Bin) (r : Sr96.Request) (z : Nat), vs = [.ref l, .ref q] ∧ BinL CB H l bs ∧ ReqAt CQ H q r ∧ GoodBs bs ∧ GoodR r ∧ ∀ H' m, Same H H' → m = Sr96.obstacle ⟨bs, r, z⟩ r → Q (nV m) H'
theorem ups_take {most : Nat} {bs : List Sr96.Bin} {i : Nat} {b : Sr96.Bin} (h : bs[i]? = some b) (l : List Tri) : ups most (bs.take (i + 1)) l = up1 most b (ups most (bs.take i) l) := by
  rw [take_more h, ups_snoc]
theorem ups_le {most : Nat} : ∀ (bs : List Sr96.Bin) (l : List Tri), (∀ t ∈ l, t.1 ≤ most) → ∀ t ∈ ups most bs l, t.1 ≤ most
  | [], _, h => h
  | _ :: bs, _, h => ups_le bs _ (up1_le h)
theorem ups_small {bs : List Sr96.Bin} (g : GoodBs bs) (i : Nat) : (ups 30 (bs.take i) [(0, 0, 0)]).length ≤ 31 ^ (bs.take i).length := by
  have h := ups_len (most := 30) (bs.take i) [(0, 0, 0)] fun b hb => (g.all b (List.mem_of_mem_take hb)).kilograms
  simpa using h
section
variable {P : Program} {w : World} {K : PySem.W.Frag} {mg : Str → Option Value} {base : Heap} {A : Ads}
theorem ok_su (T : Txt K mg A) : FnOk P w K mg base CX0 1 A.d_su.f A.d_su.fd ["bins", "most"] (spSu A.cB) := by
  refine T.su.F.ok c_su (fun vs H Q E h => ?_) (fun cdv Ar outer s H vs Q E hr h => ?_)
  · obtain ⟨l, bs, rfl, _⟩ := h
    rfl
  · obtain ⟨l, bs, rfl, ⟨as, hl, pb⟩, gb, k⟩ := h
    refine ⟨_, pss_cons (ps_set (i := 2) c_su.nd rfl (Or.inl rfl) (pe_lst (pa_cons (pe_tup (pa_cons pe_int (pa_cons pe_int (pa_cons pe_int pa_nil)))) pa_nil)))
      (pss_cons (ps_for PassesOwn.never rfl (pi_list (pv 0)) (pg_name (i := 3) c_su.nd rfl (Or.inl rfl))
        (pss_cons (ps_set (i := 4) c_su.nd rfl (Or.inl rfl) (pe_lst pa_nil))
        (pss_cons (ps_for PassesOwn.never rfl (pi_list (pv 2)) (pg_tup rfl (pgs_cons (pg_name (i := 5) c_su.nd rfl (Or.inl rfl)) (pgs_cons (pg_name (i := 6) c_su.nd rfl (Or.inl rfl)) (pgs_cons (pg_name (i := 7) c_su.nd rfl (Or.inl rfl)) pgs_nil))))
          (pss_one (ps_for PassesOwn.never rfl (pi_range1 rfl T.b_range (pa_cons (pe_op op_add (pe_callB (call_min2 rfl) (by rfl) T.b_min (by decide +kernel) (pa_cons (pe_fld (pv 3) rfl) (pa_cons (pe_op op_sub (pv 1) (pv 5)) pa_nil))) pe_int) pa_nil)) (pg_name (i := 8) c_su.nd rfl (Or.inl rfl))
            (pss_one (ps_expr (pe_bm PySem.F.plainAttrs_list PySem.F.slot_list_append PySem.F.type_list_append mt_append (pv 4) (pa_cons (pe_tup (pa_cons (pe_op op_add (pv 5) (pv 8)) (pa_cons (pe_op op_add (pv 6) (pe_op op_mul (pe_fld (pv 3) rfl) (pv 8))) (pa_cons (pe_op op_add (pv 7) (pe_op op_mul (pe_fld (pv 3) rfl) (pv 8))) pa_nil)))) pa_nil)))))))
        (pss_one (ps_set (i := 2) c_su.nd rfl (Or.inl rfl) (pv 4))))))
      (pss_one (ps_ret (pv 2)))), ?_⟩
    refine ⟨(by show 3 ≤ sizeLine; decide), fun p1 n1 => ⟨(by show 1 ≤ sizeLine; decide), fun p2 n2 => ?_⟩⟩
    have n12 : p1 ≠ p2 := ne_of_none upd_same n2
    have s0 : Same H (upd (upd H p1 (.tup [V.int 0, V.int 0, V.int 0])) p2 (.lst [V.ref p1])) := same_upd (same_upd (Same.refl _) n1) n2
    have t0 : TrL (upd (upd H p1 (.tup [V.int 0, V.int 0, V.int 0])) p2 (.lst [V.ref p1])) p2 [(0, 0, 0)] := ⟨[p1], upd_same, .cons ((upd_ne n12).trans upd_same) .nil⟩
    generalize upd (upd H p1 (.tup [V.int 0, V.int 0, V.int 0])) p2 (.lst [V.ref p1]) = Ha at s0 t0
    refine ⟨_, rfl, l, rfl, ⟨_, SqL.of (s0 _ _ hl)⟩, for_list (K := K) (a := l) (xs := refV as)
      (fun i σ H' => ∃ (q : Addr) (v3 v4 v5 v6 v7 v8 : Option V), σ = [some (.ref l), some (nV 30), some (.ref q), v3, v4, v5, v6, v7, v8] ∧ Same H H' ∧ TrL H' q (ups 30 (bs.take i) [(0, 0, 0)])) ⟨p2, _, _, _, _, _, _, rfl, s0, t0⟩ ?_ ?_ ?_⟩
    · rintro i σ H' _ ⟨q, v3, v4, v5, v6, v7, v8, rfl, s1, _⟩
      exact SqL.of (s1 _ _ hl)
    · rintro i y σ H1 hi ⟨q, v3, v4, v5, v6, v7, v8, rfl, s1, ⟨ads, hq, pq⟩⟩
      obtain ⟨a, ha, rfl⟩ := refV_at hi
      obtain ⟨b, hb, hB⟩ := pb.at2 ha
      have hbm := List.mem_of_getElem? hb
      have gB := gb.all b hbm
      obtain ⟨dx, hB1⟩ := hB.same s1
      refine ⟨Nat.zero_le _, fun bl nbl => ?_⟩
      have hi4 : i < bs.length := (List.getElem?_eq_some_iff.mp hb).1
      have small : ∀ (j : Nat) (t : Tri) (m : Nat), (((ups 30 (bs.take i) [(0, 0, 0)]).take j).flatMap (upTurn 30 b) ++ (upTurn 30 b t).take m).length < 16777216 := fun j t m => by
        have h1 := flatMap_len (f := upTurn 30 b) (m := 31) (l := (ups 30 (bs.take i) [(0, 0, 0)]).take j) fun _ _ => upTurn_len gB.kilograms
        have h2 := upTurn_len (most := 30) (t := t) gB.kilograms
        have h3 := ups_small gb i
        have h4 : 31 ^ (bs.take i).length ≤ 31 ^ 3 := Nat.pow_le_pow_right (by decide) (by rw [List.length_take]; have := gb.len; omega)
        have h5 : (31 : Nat) ^ 3 = 29791 := by decide
        rw [List.length_append, List.length_take]
        rw [List.length_take] at h1
        have h6 : min j (ups 30 (bs.take i) [(0, 0, 0)]).length ≤ 29791 := by omega
        omega
      have a0 : AccT H1 (upd H1 bl (.lst [])) bl (((ups 30 (bs.take i) [(0, 0, 0)]).take 0).flatMap (upTurn 30 b)) := AccT.nil (Same.refl _) nbl
      refine ⟨_, rfl, q, rfl, ⟨_, SqL.of (a0.same _ _ hq)⟩, for_list (K := K) (a := q) (xs := refV ads)
        (fun j σ H' => ∃ (v5 v6 v7 v8 : Option V), σ = [some (.ref l), some (nV 30), some (.ref q), some (.ref a), some (.ref bl), v5, v6, v7, v8] ∧ AccT H1 H' bl (((ups 30 (bs.take i) [(0, 0, 0)]).take j).flatMap (upTurn 30 b))) ⟨_, _, _, _, rfl, a0⟩ ?_ ?_ ?_⟩
      · rintro j σ H' _ ⟨_, _, _, _, rfl, ac⟩
        exact SqL.of (ac.same _ _ hq)
      · rintro j y σ H2 hj ⟨w5, w6, w7, w8, rfl, ac⟩
        obtain ⟨x, hx, rfl⟩ := refV_at hj
        obtain ⟨t, ht, hT⟩ := pq.at2 hx
        have htl : t.1 ≤ 30 := ups_le (bs.take i) [(0, 0, 0)] (by simp) t (List.mem_of_getElem? ht)
        have hT2 : H2 x = some (.tup [nV t.1, nV t.2.1, nV t.2.2]) := ac.same _ _ hT
        refine ⟨x, _, rfl, SqT.of hT2, rfl, _, _, rfl, _, _, rfl, _, _, rfl, rfl, ?_⟩
        refine ⟨_, rfl, a, _, dx, _, _, rfl, ac.same _ _ hB1, T.clB, T.nB_kilograms, rfl, _, rfl, _, rfl, _, _, rfl, rfl, _, _, rfl, ?_⟩
        have eN : (if ((30 : Nat) : Int) - (t.1 : Int) < (b.kilograms : Int) then ((30 : Nat) : Int) - (t.1 : Int) else (b.kilograms : Int)) = ((min b.kilograms (30 - t.1) : Nat) : Int) := by
          split <;> omega
        rw [eN]
        have eT : (((min b.kilograms (30 - t.1) : Nat) : Int) + 1).toNat = min b.kilograms (30 - t.1) + 1 := by omega
        have eU : (upTurn 30 b t).length = min b.kilograms (30 - t.1) + 1 := by
          unfold upTurn
          rw [List.length_map, List.length_range]
        refine ⟨_, _, rfl, rfl, _, rfl, by omega, by omega, for_range (lo := 0) (n := (((min b.kilograms (30 - t.1) : Nat) : Int) + 1).toNat)
          (fun m σ H' => ∃ v8 : Option V, σ = [some (.ref l), some (nV 30), some (.ref q), some (.ref a), some (.ref bl), some (nV t.1), some (nV t.2.1), some (nV t.2.2), v8] ∧ AccT H1 H' bl (((ups 30 (bs.take i) [(0, 0, 0)]).take j).flatMap (upTurn 30 b) ++ (upTurn 30 b t).take m)) ⟨w8, rfl, by simpa using ac⟩ ?_ ?_⟩
        · rintro m σ H3 hm ⟨v8, rfl, ac3⟩
          rw [eT] at hm
          rw [Int.zero_add]
          obtain ⟨ads3, e3, q3⟩ := id ac3.got
          have hB3 := ac3.same _ _ hB1
          refine ⟨_, rfl, .inl ⟨rfl, _, SqL.of e3⟩, _, rfl, _, rfl, _, _, rfl, rfl, _, rfl, _, rfl, a, _, dx, _, _, rfl, hB3, T.clB, T.nB_strength, rfl, _, rfl, _, _, rfl, rfl, .inl ⟨by have := gB.strength; omega, by have := gB.strength; omega⟩, _, _, rfl, rfl,
            _, rfl, _, rfl, a, _, dx, _, _, rfl, hB3, T.clB, T.nB_ash, rfl, _, rfl, _, _, rfl, rfl, .inl ⟨by have := gB.ash; omega, by have := gB.ash; omega⟩, _, _, rfl, rfl, (by show 3 ≤ sizeLine; decide), fun p np => ?_⟩
          have g1 : (t.1 : Int) + (m : Int) = ((t.1 + m : Nat) : Int) := by omega
          have g2 : (t.2.1 : Int) + (b.strength : Int) * (m : Int) = ((t.2.1 + b.strength * m : Nat) : Int) := by push_cast; rfl
          have g3 : (t.2.2 : Int) + (b.ash : Int) * (m : Int) = ((t.2.2 + b.ash * m : Nat) : Int) := by push_cast; rfl
          have eV : [nV (t.1 + m), nV (t.2.1 + b.strength * m), nV (t.2.2 + b.ash * m)] = [V.int ((t.1 : Int) + (m : Int)), V.int ((t.2.1 : Int) + (b.strength : Int) * (m : Int)), V.int ((t.2.2 : Int) + (b.ash : Int) * (m : Int))] := by rw [g1, g2, g3]
          obtain ⟨xs, f1, f2, f3⟩ := ac3.push (t := (t.1 + m, t.2.1 + b.strength * m, t.2.2 + b.ash * m)) np (small j t m)
          dsimp only at f1 f3
          rw [eV] at f1 f3
          refine ⟨bl, xs, _, rfl, rfl, f1, f2, ⟨_, rfl, ?_⟩⟩
          have hu : (upTurn 30 b t)[m]? = some (t.1 + m, t.2.1 + b.strength * m, t.2.2 + b.ash * m) := by
            unfold upTurn
            rw [List.getElem?_map, List.getElem?_range hm]
            rfl
          rw [take_more hu, ← List.append_assoc]
          exact f3
        · rintro σ H3 ⟨v8, rfl, ac3⟩
          refine ⟨_, _, _, _, rfl, ?_⟩
          rw [eT, ← eU, List.take_length] at ac3
          rw [take_more ht, List.flatMap_append, List.flatMap_singleton]
          exact ac3
      · rintro σ H' ⟨w5, w6, w7, w8, rfl, ac⟩
        refine ⟨_, rfl, bl, _, _, _, _, _, _, rfl, s1.trans ac.same, ?_⟩
        rw [refV_len, pq.len, List.take_length] at ac
        rw [ups_take hb]
        exact ac.got
    · rintro σ H' ⟨q, v3, v4, v5, v6, v7, v8, rfl, s1, tr⟩
      refine ⟨_, rfl, k H' q s1 ?_⟩
      rw [refV_len, pb.len, List.take_length] at tr
      exact tr
end
end FB

/-! ## FBF -/
set_option maxRecDepth 100000
set_option maxHeartbeats 2000000
/-! the greatest weight, the obstacle. -/
namespace FB
open PySem PySem.Spec PyProof.Rows L2
def castL (l : List Nat) : List Int := l.map fun (n : Nat) => (n : Int)
theorem natV_cast (l : List Nat) : natV l = (castL l).map V.int := natV_int l
theorem cast_max {l : List Nat} {m : Int} (h : m ∈ castL l) (hall : ∀ y ∈ castL l, y ≤ m) : ∃ k : Nat, m = (k : Int) ∧ k ∈ l ∧ ∀ y ∈ l, y ≤ k := by
  obtain ⟨k, hk, rfl⟩ := List.mem_map.mp h
  refine ⟨k, rfl, hk, fun y hy => ?_⟩
  have z := hall _ (List.mem_map.mpr ⟨y, hy, rfl⟩)
  omega
theorem cast_min {l : List Nat} {m : Int} (h : m ∈ castL l) (hall : ∀ y ∈ castL l, m ≤ y) : ∃ k : Nat, m = (k : Int) ∧ k ∈ l ∧ ∀ y ∈ l, k ≤ y := by
  obtain ⟨k, hk, rfl⟩ := List.mem_map.mp h
  refine ⟨k, rfl, hk, fun y hy => ?_⟩
  have z := hall _ (List.mem_map.mpr ⟨y, hy, rfl⟩)
  omega
theorem exists_min : ∀ {l : List Nat}, 0 < l.length → ∃ m, m ∈ l ∧ ∀ y ∈ l, m ≤ y
  | [a], _ => ⟨a, by simp, by simp⟩
  | a :: b :: l, _ => by
    obtain ⟨m, h1, h2⟩ := exists_min (l := b :: l) (Nat.succ_pos _)
    by_cases c : a ≤ m
    · refine ⟨a, List.mem_cons_self .., fun y hy => ?_⟩
      rcases List.mem_cons.mp hy with e | hy
      · omega
      · have := h2 y hy
        omega
    · refine ⟨m, List.mem_cons_of_mem _ h1, fun y hy => ?_⟩
      rcases List.mem_cons.mp hy with e | hy
      · omega
      · exact h2 y hy
theorem dlt0 (a b : Nat) : decide ((a : Int) < (b : Int)) = decide (a < b) := by
  rw [Bool.eq_iff_iff]
  simp
theorem dlt (a b c : Nat) : decide ((a : Int) < (b : Int) * (c : Int)) = decide (a < b * c) := by
  rw [← Int.natCast_mul]
  exact dlt0 _ _
theorem dgt (a b c : Nat) : decide ((b : Int) * (c : Int) < (a : Int)) = decide (b * c < a) := by
  rw [← Int.natCast_mul]
  exact dlt0 _ _
theorem tnext1 {D : Ends} {σ : L2.St} {H : Hp} (h : D.nx σ H) : tNext D σ H := h
theorem tifs1 {c : TT} {t u : TS} {D : Ends} {σ : L2.St} {H : Hp} (h : c σ H fun b H1 => if b = true then t D σ H1 else u D σ H1) : tIfS c t u D σ H := h
theorem ttest1 {t : TE} {σ : L2.St} {H : Hp} {Q : Bool → Hp → Prop} (h : t σ H fun x H' => ∃ k, x = .bl k ∧ Q k H') : tTest t σ H Q := h
theorem tb1 {t : TE} {σ : L2.St} {H : Hp} {Q : Bool → Hp → Prop} (h : t σ H fun x H' => ∃ k, x = .bl k ∧ Q k H') : tB t σ H Q := h
theorem top1 {r : R2} {ta tb : TE} {σ : L2.St} {H : Hp} {Q : VK} (h : ta σ H fun x H1 => tb σ H1 fun y H2 => r x y H2 Q) : tOp r ta tb σ H Q := h
theorem tnot1 {c : TT} {σ : L2.St} {H : Hp} {Q : Bool → Hp → Prop} (h : c σ H fun b H1 => Q (!b) H1) : tNot c σ H Q := h
section
variable {P : Program} {w : World} {K : PySem.W.Frag} {mg : Str → Option Value} {base : Heap} {A : Ads}
theorem ok_gw (T : Txt K mg A) : FnOk P w K mg base CX0 2 A.d_gw.f A.d_gw.fd ["bins", "request", "most"] (spGw A.cB A.cQ) := by
  refine T.gw.F.ok c_gw (fun vs H Q E h => ?_) (fun cdv Ar outer s H vs Q E hr h => ?_)
  · obtain ⟨l, q, bs, r, z, rfl, _⟩ := h
    rfl
  · obtain ⟨l, q, bs, r, z, rfl, hb, hR, gb, gr, k⟩ := h
    refine ⟨_, pss_cons (ps_set (i := 3) c_gw.nd rfl (Or.inl rfl) (pe_call (ok_su T) hr rfl T.su.g T.su.k T.su.b .nil pass0 (pa_cons (pv 0) (pa_cons (pv 2) pa_nil))))
      (pss_one (ps_ret (pe_callB (cr_max rfl) (by rfl) T.b_max (by decide +kernel) (pa_cons (pe_lc (own := [("weight", 4), ("strength", 5), ("ash", 6)]) (g := gTup K 3 (gCons (gName 4) (gCons (gName 5) (gCons (gName 6) gNil)))) (tt := tB (tCall (spKb A.cQ) [] E0 (tCons (tVar 1) (tCons (tVar 4) (tCons (tVar 5) (tCons (tVar 6) tNil)))))) (te := tVar 4) (by rfl) c_gw.nd
      (pi_list (pv 3)) (blkOk_by (N := ["bins", "request", "most", "listed", "weight", "strength", "ash"]) (sc := defScope s_gw) (by decide +kernel))
      (by exact fun _ _ _ _ _ => pg_tup rfl (pgs_cons (pg_name (i := 4) c_gw.nd rfl (Or.inl rfl)) (pgs_cons (pg_name (i := 5) c_gw.nd rfl (Or.inl rfl)) (pgs_cons (pg_name (i := 6) c_gw.nd rfl (Or.inl rfl)) pgs_nil))))
      (by exact fun _ _ _ _ _ => pts_one (pt_val (pe_call (ok_kb T) hr (by rfl) T.kb.g T.kb.k T.kb.b .nil pass0 (pa_cons (pv 1) (pa_cons (pv 4) (pa_cons (pv 5) (pa_cons (pv 6) pa_nil))))))) (by exact fun _ _ _ _ _ => pv 4)) pa_nil)))), ?_⟩
    refine ⟨_, rfl, _, rfl, l, bs, rfl, hb, gb, fun H1 p s1 ⟨ads, hp, pr⟩ => ?_⟩
    have hR1 := hR.same s1
    have hlen : (ups 30 bs [(0, 0, 0)]).length < 16777216 := by
      have h1 := ups_small gb 4
      rw [List.take_of_length_le gb.len] at h1
      have h2 : 31 ^ bs.length ≤ 31 ^ 4 := Nat.pow_le_pow_right (by decide) gb.len
      have h3 : (31 : Nat) ^ 4 = 923521 := by decide
      omega
    refine ⟨_, rfl, p, rfl, ⟨_, SqL.of hp⟩, fun D hD => ?_⟩
    refine lc_list (K := K) (a := p) (xs := refV ads) (fun j H' => Made H1 D ((((ups 30 bs [(0, 0, 0)]).take j).filter fun t => keeps r t.1 t.2.1 t.2.2).map fun t => nV t.1) H') (Made.start hD) (fun j H' _ m => SqL.of (m.1 _ _ hp)) ?_ ?_
    · rintro j y H2 hj m
      obtain ⟨x, hx, rfl⟩ := refV_at hj
      obtain ⟨t, ht, hT⟩ := pr.at2 hx
      refine ⟨x, _, rfl, SqT.of (m.1 _ _ hT), rfl, _, _, rfl, _, _, rfl, _, _, rfl, rfl, rfl, ?_⟩
      refine ⟨_, rfl, _, rfl, _, rfl, _, rfl, q, r, t.1, t.2.1, t.2.2, rfl, hR1.same m.1, gr, _, rfl, ?_⟩
      cases hk : keeps r t.1 t.2.1 t.2.2 with
      | true =>
        refine iteT ⟨_, rfl, Made.next hD m (Same.refl _) ?_ ?_⟩
        · rw [take_more ht, List.filter_append, List.map_append]
          simp [hk]
        · rw [List.length_map]
          refine Nat.lt_of_le_of_lt (List.length_filter_le _ _) ?_
          rw [List.length_take]
          omega
      | false =>
        refine iteF (m.stay (Same.refl _) ?_)
        rw [take_more ht, List.filter_append]
        simp [hk]
    · rintro H2 m
      have hD2 := m.2
      rw [refV_len, pr.len, List.take_length] at hD2
      have hmem : (0 : Nat) ∈ ((ups 30 bs [(0, 0, 0)]).filter fun t => keeps r t.1 t.2.1 t.2.2).map (·.1) := List.mem_map.mpr ⟨(0, 0, 0), List.mem_filter.mpr ⟨ups_zero 30 bs, by simp [keeps]⟩, rfl⟩
      refine ⟨D, castL (((ups 30 bs [(0, 0, 0)]).filter fun t => keeps r t.1 t.2.1 t.2.2).map (·.1)), rfl, SqL.of ?_, ?_, fun m1 h1 h2 => ?_⟩
      · rw [hD2]
        unfold castL
        rw [List.map_map, List.map_map]
        rfl
      · unfold castL
        rw [List.length_map]
        exact List.length_pos_of_mem hmem
      · obtain ⟨k1, rfl, h3, h4⟩ := cast_max h1 h2
        exact k H2 k1 (s1.trans m.1) (greatest_is ⟨bs, r, z⟩ r h3 h4).symm
theorem ok_fo (T : Txt K mg A) : FnOk P w K mg base CX0 7 A.d_fo.f A.d_fo.fd ["bins", "request"] (spFo A.cB A.cQ) := by
  refine T.fo.F.ok c_fo (fun vs H Q E h => ?_) (fun cdv Ar outer s H vs Q E hr h => ?_)
  · obtain ⟨l, q, bs, r, z, rfl, _⟩ := h
    rfl
  · obtain ⟨l, q, bs, r, z, rfl, hb, hR, gb, gr, k⟩ := h
    obtain ⟨dx, hRq⟩ := id hR
    have hr1 : Room 1 _ := hr.mono (by decide)
    have hr2 : Room 2 _ := hr.mono (by decide)
    refine ⟨_, pss_cons (ps_set (i := 2) c_fo.nd rfl (Or.inl rfl) (pe_fld (pv 1) rfl))
      (pss_cons (ps_set (i := 3) c_fo.nd rfl (Or.inl rfl) (pe_call (ok_ab T) hr rfl T.ab.g T.ab.k T.ab.b .nil pass0 (pa_cons (pv 0) (pa_cons (pv 2) pa_nil))))
      (pss_cons (ps_if (pt_cmpR op_eq (pe_callB call_len_seq (by rfl) T.b_len PySem.boot_len (pa_cons (pv 3) pa_nil)) pe_int (nomark _)) (pss_one (ps_ret (pe_glob rfl T.g_NO_BLEND relI))) pss_nil)
      (pss_cons (ps_setLc (i := 4) (own := [("blend", 5)]) (g := gName 5) (tt := tYes) (te := tCall (spSum A.cB Sr96.Bin.strength) [] E0 (tCons (tVar 0) (tCons (tVar 5) tNil))) rfl c_fo.nd rfl rfl (sw_true rfl rfl rfl (by decide +kernel)) (pi_list (pv 3)) (blkOk_by (N := ["bins", "request", "n", "listed", "strengths", "blend"]) (sc := defScope s_fo) (by decide +kernel))
        (by exact fun _ _ _ _ _ => pg_name (i := 5) c_fo.nd rfl (Or.inl rfl)) (by exact fun _ _ _ _ _ => pts_nil) (by exact fun _ _ _ _ _ => pe_call (ok_ss T) hr1 (by rfl) T.ss.g T.ss.k T.ss.b .nil pass0 (pa_cons (pv 0) (pa_cons (pv 5) pa_nil))))
      (pss_cons (ps_if (pt_cmpR op_lt (pe_callB (cr_max rfl) (by rfl) T.b_max (by decide +kernel) (pa_cons (pv 4) pa_nil)) (pe_op op_mul (pe_fld (pv 1) rfl) (pv 2)) (nomark _)) (pss_one (ps_ret (pe_glob rfl T.g_TOO_WEAK relI))) pss_nil)
      (pss_cons (ps_if (pt_cmpR op_gt (pe_callB (cr_min rfl) (by rfl) T.b_min (by decide +kernel) (pa_cons (pv 4) pa_nil)) (pe_op op_mul (pe_fld (pv 1) rfl) (pv 2)) (nomark _)) (pss_one (ps_ret (pe_glob rfl T.g_TOO_STRONG relI))) pss_nil)
      (pss_cons (ps_if (pt_cmpR op_gt (pe_callB (cr_min rfl) (by rfl) T.b_min (by decide +kernel) (pa_cons (pe_lc (own := [("blend", 5)]) (g := gName 5) (tt := tYes) (te := tCall (spSum A.cB Sr96.Bin.ash) [] E0 (tCons (tVar 0) (tCons (tVar 5) tNil))) (by rfl) c_fo.nd (pi_list (pv 3)) (blkOk_by (N := ["bins", "request", "n", "listed", "strengths", "blend"]) (sc := defScope s_fo) (by decide +kernel))
        (by exact fun _ _ _ _ _ => pg_name (i := 5) c_fo.nd rfl (Or.inl rfl)) (by exact fun _ _ _ _ _ => pts_nil) (by exact fun _ _ _ _ _ => pe_call (ok_as T) hr1 (by rfl) T.as.g T.as.k T.as.b .nil pass0 (pa_cons (pv 0) (pa_cons (pv 5) pa_nil)))) pa_nil)) (pe_op op_mul (pe_fld (pv 1) rfl) (pv 2)) (nomark _)) (pss_one (ps_ret (pe_glob rfl T.g_TOO_MUCH_ASH relI))) pss_nil)
      (pss_cons (ps_if (pt_not (pt_val (pe_callB (cr_any rfl) (by rfl) T.b_any (by decide +kernel) (pa_cons (pe_lc (own := [("blend", 5)]) (g := gName 5) (tt := tYes) (te := tCall (spMr A.cB A.cQ) [] E0 (tCons (tVar 0) (tCons (tVar 1) (tCons (tVar 5) tNil)))) (by rfl) c_fo.nd (pi_list (pv 3)) (blkOk_by (N := ["bins", "request", "n", "listed", "strengths", "blend"]) (sc := defScope s_fo) (by decide +kernel))
        (by exact fun _ _ _ _ _ => pg_name (i := 5) c_fo.nd rfl (Or.inl rfl)) (by exact fun _ _ _ _ _ => pts_nil) (by exact fun _ _ _ _ _ => pe_call (ok_mr T) hr2 (by rfl) T.mr.g T.mr.k T.mr.b .nil pass0 (pa_cons (pv 0) (pa_cons (pv 1) (pa_cons (pv 5) pa_nil))))) pa_nil)))) (pss_one (ps_ret (pe_glob rfl T.g_NONE_VALID relI))) pss_nil)
      (pss_one (ps_ret (pe_glob rfl T.g_NO_OBSTACLE relI)))))))))), ?_⟩
    refine ⟨_, rfl, q, _, dx, _, _, rfl, hRq, T.clQ, T.nQ_n, rfl, _, rfl, _, rfl, l, bs, r.kilograms, rfl, hb, gb, gr.kilograms, fun H1 p s1 ⟨as, hp, pb⟩ => ?_⟩
    have hb1 := hb.same s1
    have hR1 := hR.same s1
    have hRq1 := s1 _ _ hRq
    have hlen := bf_small gb r.kilograms
    refine ⟨_, rfl, p, _, rfl, .inl (SqL.of hp), rfl, _, rfl, ?_⟩
    rw [refV_len, pb.len]
    cases hL : bf (bs.map fun b => b.kilograms) r.kilograms with
    | nil => exact iteT (k H1 1 s1 (obstacle_none (s := ⟨bs, r, z⟩) hL).symm)
    | cons x0 xs0 =>
      rw [← hL]
      have hne : 0 < (bf (bs.map fun b => b.kilograms) r.kilograms).length := by
        rw [hL]
        exact Nat.succ_pos _
      have c0 : ¬ (V.int (((bf (bs.map fun b => b.kilograms) r.kilograms).length : Nat) : Int) = V.int 0) := fun e => by
        injection e with e
        omega
      rw [decide_eq_false c0]
      refine iteF ?_
      refine tnext1 ?_
      dsimp only
      refine tseq1 (tasg1 (lc_refs (R := NumL) (ys := bf (bs.map fun b => b.kilograms) r.kilograms) (keep := fun _ => true) (g := fun _ x => nV (Sr96.total Sr96.Bin.strength bs x)) (fun _ _ _ _ q s => q.same s) (by omega) (fun Z y => ⟨_, rfl, y p H1 as (Same.refl _) hp pb⟩)
        (fun a b H2 Q1 _ _ _ y => y H2 (Same.refl _)) (fun a x H2 Q1 _ hx s2 y => ?_) (fun D H2 as2 s2 pb2 hD => ?_)))
      · exact ⟨_, rfl, _, rfl, l, a, bs, x, rfl, hb1.same s2, hx, gb, fun H3 s3 => y H3 s3⟩
      · have hs12 : Same H H2 := s1.trans s2
        have hb2 := hb1.same s2
        have hR2 := hR1.same s2
        have hRq2 := s2 _ _ hRq1
        rw [filter_true, zip_map2 (fun x => nV (Sr96.total Sr96.Bin.strength bs x)) pb2] at hD
        have hD2 : H2 D = some (.lst ((castL ((bf (bs.map fun b => b.kilograms) r.kilograms).map (Sr96.total Sr96.Bin.strength bs))).map V.int)) := by
          rw [hD, ← natV_cast]
          unfold natV
          rw [List.map_map]
          rfl
        have hpos : ∀ f : List Nat → Nat, 0 < (castL ((bf (bs.map fun b => b.kilograms) r.kilograms).map f)).length := fun f => by
          unfold castL
          rw [List.length_map, List.length_map]
          exact hne
        have hp2 := s2 _ _ hp
        have g1 := gr.minStrength
        have g2 := gr.maxStrength
        have g3 := gr.maxAsh
        refine ⟨_, rfl, D, _, rfl, SqL.of hD2, hpos _, fun mxI m1 m2 => ?_⟩
        obtain ⟨mx, rfl, m1, m2⟩ := cast_max m1 m2
        refine ⟨_, rfl, q, _, dx, _, _, rfl, hRq2, T.clQ, T.nQ_min_strength, rfl, _, rfl, _, _, rfl, rfl, .inl ⟨by omega, by omega⟩, _, _, rfl, rfl, _, rfl, ?_⟩
        rw [dlt]
        have hpos2 : ∀ f : List Nat → Nat, 0 < ((bf (kgs bs) r.kilograms).map f).length := fun f => by
          rw [List.length_map]
          exact hne
        by_cases c1 : mx < r.minStrength * r.kilograms
        · rw [decide_eq_true c1]
          obtain ⟨mn, a1, a2⟩ := exists_min (hpos2 (Sr96.total Sr96.Bin.strength bs))
          obtain ⟨ma, a3, a4⟩ := exists_min (hpos2 (Sr96.total Sr96.Bin.ash bs))
          refine iteT (k H2 2 hs12 ?_)
          rw [obstacle_some (s := ⟨bs, r, z⟩) (r := r) m1 m2 a1 a2 a3 a4, if_pos c1]
        · rw [decide_eq_false c1]
          refine iteF ⟨_, rfl, D, _, rfl, SqL.of hD2, hpos _, fun mnI m3 m4 => ?_⟩
          obtain ⟨mn, rfl, m3, m4⟩ := cast_min m3 m4
          refine ⟨_, rfl, q, _, dx, _, _, rfl, hRq2, T.clQ, T.nQ_max_strength, rfl, _, rfl, _, _, rfl, rfl, .inl ⟨by omega, by omega⟩, _, _, rfl, rfl, _, rfl, ?_⟩
          rw [dgt]
          by_cases c2 : r.maxStrength * r.kilograms < mn
          · rw [decide_eq_true c2]
            obtain ⟨ma, a3, a4⟩ := exists_min (hpos2 (Sr96.total Sr96.Bin.ash bs))
            refine iteT (k H2 3 hs12 ?_)
            rw [obstacle_some (s := ⟨bs, r, z⟩) (r := r) m1 m2 m3 m4 a3 a4, if_neg c1, if_pos c2]
          · rw [decide_eq_false c2]
            refine iteF ?_
            refine tnext1 ?_
            dsimp only
            refine tseq1 (tifs1 (ttest1 (top1 (tcb1 (lc_refs (R := NumL) (ys := bf (bs.map fun b => b.kilograms) r.kilograms) (keep := fun _ => true) (g := fun _ x => nV (Sr96.total Sr96.Bin.ash bs x)) (fun _ _ _ _ q s => q.same s) (by omega) (fun Z y => ⟨_, rfl, y p H2 as (Same.refl _) hp2 (pb.imp fun _ _ q => q.same s2)⟩)
              (fun a b H3 Q1 _ _ _ y => y H3 (Same.refl _)) (fun a x H3 Q1 _ hx s3 y => ?_) (fun D3 H3 as3 s3 pb3 hD3 => ?_))))))
            · exact ⟨_, rfl, _, rfl, l, a, bs, x, rfl, hb2.same s3, hx, gb, fun H4 s4 => y H4 s4⟩
            · rw [filter_true, zip_map2 (fun x => nV (Sr96.total Sr96.Bin.ash bs x)) pb3] at hD3
              have hD4 : H3 D3 = some (.lst ((castL ((bf (bs.map fun b => b.kilograms) r.kilograms).map (Sr96.total Sr96.Bin.ash bs))).map V.int)) := by
                rw [hD3, ← natV_cast]
                unfold natV
                rw [List.map_map]
                rfl
              have hRq3 := s3 _ _ hRq2
              refine ⟨D3, _, rfl, SqL.of hD4, hpos _, fun maI m5 m6 => ?_⟩
              obtain ⟨ma, rfl, m5, m6⟩ := cast_min m5 m6
              refine ⟨_, rfl, q, _, dx, _, _, rfl, hRq3, T.clQ, T.nQ_max_ash, rfl, _, rfl, _, _, rfl, rfl, .inl ⟨by omega, by omega⟩, _, _, rfl, rfl, _, rfl, ?_⟩
              rw [dgt]
              have e := obstacle_some (s := ⟨bs, r, z⟩) (r := r) m1 m2 m3 m4 m5 m6
              rw [if_neg c1, if_neg c2] at e
              by_cases c3 : r.maxAsh * r.kilograms < ma
              · rw [decide_eq_true c3]
                rw [if_pos c3] at e
                exact iteT (k H3 4 (hs12.trans s3) e.symm)
              · rw [decide_eq_false c3]
                rw [if_neg c3] at e
                refine iteF ?_
                refine tnext1 ?_
                dsimp only
                refine tseq1 (tifs1 (tnot1 (tb1 (tcb1 (lc_refs (R := NumL) (ys := bf (bs.map fun b => b.kilograms) r.kilograms) (keep := fun _ => true) (g := fun _ x => .bl (meets bs r x)) (fun _ _ _ _ q s => q.same s) (by omega) (fun Z y => ⟨_, rfl, y p H3 as (Same.refl _) (s3 _ _ hp2) (pb.imp fun _ _ q => q.same (s2.trans s3))⟩)
                  (fun a b H3 Q1 _ _ _ y => y H3 (Same.refl _)) (fun a x H4 Q1 _ hx s4 y => ?_) (fun D5 H5 as5 s5 pb5 hD5 => ?_))))))
                · exact ⟨_, rfl, _, rfl, _, rfl, l, q, a, bs, r, x, rfl, (hb2.same s3).same s4, (hR2.same s3).same s4, hx, gb, gr, fun H6 s6 => y H6 s6⟩
                · rw [filter_true, zip_map2 (fun x => V.bl (meets bs r x)) pb5] at hD5
                  refine ⟨D5, (bf (bs.map fun b => b.kilograms) r.kilograms).map (meets bs r), rfl, SqL.of (by rw [hD5, List.map_map]; rfl), _, rfl, ?_⟩
                  have ea : ((bf (bs.map fun b => b.kilograms) r.kilograms).map (meets bs r)).any id = (bf (kgs bs) r.kilograms).any (meets bs r) := by
                    rw [List.any_map]
                    rfl
                  rw [ea]
                  cases hv : (bf (kgs bs) r.kilograms).any (meets bs r) with
                  | true =>
                    rw [hv] at e
                    exact iteF (k H5 0 ((hs12.trans s3).trans s5) e.symm)
                  | false =>
                    rw [hv] at e
                    exact iteT (k H5 5 ((hs12.trans s3).trans s5) e.symm)
end
end FB

/-! ## FBG -/
set_option maxRecDepth 100000
set_option maxHeartbeats 2000000
/-! the bakery on the heap. -/
namespace FB
open PySem PySem.Spec PyProof.Rows L2 LamX
abbrev bakF (l q : Addr) (z : Nat) : List (Str × V) := [("bins", .ref l), ("request", .ref q), ("spent", nV z)]
theorem putB_kg (b : Sr96.Bin) (n : Nat) : putF "kilograms" (nV n) (binF b) = binF { b with kilograms := n } := by rfl
theorem putB_price (b : Sr96.Bin) (n : Nat) : putF "price" (nV n) (binF b) = binF { b with price := n } := by rfl
theorem putK_req (l q q' : Addr) (z : Nat) : putF "request" (.ref q') (bakF l q z) = bakF l q' z := by rfl
theorem putK_spent (l q : Addr) (z z' : Nat) : putF "spent" (nV z') (bakF l q z) = bakF l q z' := by rfl
/-- the bakery at p stands for s, its parts at l, q, as; behind H0 nothing but the bakery's own objects and the table at T has changed -/
structure BakX (A : Ads) (T : Addr) (H0 H : Hp) (p : Addr) (s : Sr96.Store) (dx l q : Addr) (as : List Addr) : Prop where
  ext : Same H0 H
  notab : ∀ b ps, H0 b ≠ some (.tbl ps)
  tab : TabS H T lamQ
  np : H0 p = none
  hp : H p = some (.ins A.cK dx (bakF l q s.spent))
  hl : H l = some (.lst (refV as))
  nl : H0 l = none
  nq : H0 q = none
  na : ∀ a ∈ as, H0 a = none
  nd : as.Nodup
  bins : Pr (BinAt A.cB H) as s.bins
  req : ReqAt A.cQ H q s.request
  gb : GoodBs s.bins
  gr : GoodR s.request
def BakAt (A : Ads) (T : Addr) (H0 H : Hp) (p : Addr) (s : Sr96.Store) : Prop := ∃ dx l q as, BakX A T H0 H p s dx l q as
theorem not_tbl {o : HO} (h : ∀ ps, o ≠ .tbl ps) {H : Hp} {T : Addr} {q : Str} (t : TabS H T q) {b : Addr} (e : H b = some o) : b ≠ T := fun z => by
  obtain ⟨ps, h1, _⟩ := t
  rw [z, h1] at e
  exact h ps (Option.some.inj e).symm
theorem tabS_upd {H : Hp} {T b : Addr} {q : Str} {o : HO} (t : TabS H T q) (n : b ≠ T) (hc : ∀ c, H b ≠ some (CodeO c q)) : TabS (upd H b o) T q := by
  obtain ⟨ps, h1, h2, h3⟩ := t
  refine ⟨ps, (upd_ne (Ne.symm n)).trans h1, h2, fun pos cv hcv => ?_⟩
  obtain ⟨c, e1, e2⟩ := h3 pos cv hcv
  refine ⟨c, e1, (upd_ne ?_).trans e2⟩
  intro z
  exact hc c (by rw [← z]; exact e2)
theorem code_ne {o : HO} (h : ∀ φ, o ≠ .ext φ) {H : Hp} {b : Addr} {q : Str} (e : H b = some o) : ∀ c, H b ≠ some (CodeO c q) := fun c z => by
  rw [e] at z
  exact h _ (Option.some.inj z)
theorem ext_of_same {H H' : Hp} (s : Same H H') : ExtN H H' := ExtN.of s
theorem BinAt.ext {C : Addr} {H H' : Hp} {a : Addr} {b : Sr96.Bin} (h : BinAt C H a b) (s : ExtN H H') : BinAt C H' a b := let ⟨dx, e⟩ := h; ⟨dx, s _ _ e fun _ z => by cases z⟩
section
variable {A : Ads} {T : Addr} {H0 H : Hp} {p dx l q : Addr} {as : List Addr} {s : Sr96.Store}
theorem lst_no_tbl (xs : List V) : (∀ ps, HO.lst xs ≠ .tbl ps) ∧ ∀ φ, HO.lst xs ≠ .ext φ := ⟨(fun _ z => by cases z), (fun _ z => by cases z)⟩
theorem ins_no_tbl (C dx : Addr) (fs : List (Str × V)) : (∀ ps, HO.ins C dx fs ≠ .tbl ps) ∧ ∀ φ, HO.ins C dx fs ≠ .ext φ := ⟨(fun _ z => by cases z), (fun _ z => by cases z)⟩
theorem binF_ne_bakF (C C' d d' : Addr) (b : Sr96.Bin) (l q : Addr) (z : Nat) : HO.ins C d (binF b) ≠ HO.ins C' d' (bakF l q z) := fun e => by
  injection e with _ _ e
  exact absurd (congrArg List.length e) (by simp)
theorem reqF_ne_bakF (C C' d d' : Addr) (b : Sr96.Request) (l q : Addr) (z : Nat) : HO.ins C d (reqF b) ≠ HO.ins C' d' (bakF l q z) := fun e => by
  injection e with _ _ e
  exact absurd (congrArg List.length e) (by simp)
theorem binF_ne_reqF (C C' d d' : Addr) (b : Sr96.Bin) (r : Sr96.Request) : HO.ins C d (binF b) ≠ HO.ins C' d' (reqF r) := fun e => by
  injection e with _ _ e
  injection e with e _
  injection e with e _
  exact absurd e (by decide)
/-- reading: the heap has grown -/
theorem BakX.step (B : BakX A T H0 H p s dx l q as) {H1 : Hp} (e : ExtN H H1) (t : TabS H1 T lamQ) : BakX A T H0 H1 p s dx l q as :=
  ⟨fun b o z => e b o (B.ext b o z) (fun ps w => B.notab b ps (by rw [z, w])), B.notab, t, B.np, e _ _ B.hp (fun _ z => by cases z), e _ _ B.hl (fun _ z => by cases z), B.nl, B.nq, B.na, B.nd, B.bins.imp fun _ _ z => z.ext e, B.req.ext e, B.gb, B.gr⟩
theorem BakX.same (B : BakX A T H0 H p s dx l q as) {H1 : Hp} (e : Same H H1) : BakX A T H0 H1 p s dx l q as := B.step (ExtN.of e) (B.tab.ext e)
theorem BakX.at_ (B : BakX A T H0 H p s dx l q as) : BakAt A T H0 H p s := ⟨dx, l, q, as, B⟩
theorem BakX.binL (B : BakX A T H0 H p s dx l q as) : BinL A.cB H l s.bins := ⟨as, B.hl, B.bins⟩
/-- an object that is none of the bakery's is laid or written -/
theorem BakX.put (B : BakX A T H0 H p s dx l q as) {b : Addr} {o : HO} (ho : ∀ ps, o ≠ .tbl ps) (h : H b = none ∨ ∃ u, H0 b = some u ∧ ∀ φ, u ≠ .ext φ) : BakX A T (upd H0 b o) (upd H b o) p s dx l q as := by
  -- b is no address that the bakery owns
  have off : ∀ {c : Addr} {u : HO}, H c = some u → H0 c = none → c ≠ b := fun {c u} e n z => by
    rw [z] at e n
    rcases h with h | ⟨u', h, _⟩
    · rw [e] at h
      cases h
    · rw [n] at h
      cases h
  have atH : ∀ {c : Addr} {u : HO}, H c = some u → H0 c = none → upd H b o c = some u := fun e n => (upd_ne (off e n)).trans e
  have at0 : ∀ {c : Addr} {u : HO}, H c = some u → H0 c = none → upd H0 b o c = none := fun e n => (upd_ne (off e n)).trans n
  obtain ⟨dq, hq⟩ := B.req
  refine ⟨fun c u e => ?_, fun c ps e => ?_, ?_, at0 B.hp B.np, atH B.hp B.np, atH B.hl B.nl, at0 B.hl B.nl, at0 hq B.nq, fun a ha => ?_, B.nd, B.bins.impm fun a ha y ⟨d, z⟩ => ⟨d, atH z (B.na a ha)⟩, ⟨dq, atH hq B.nq⟩, B.gb, B.gr⟩
  · by_cases hc : c = b
    · rw [hc, upd_same] at e
      rw [hc, upd_same]
      exact e
    · rw [upd_ne hc] at e
      exact (upd_ne hc).trans (B.ext c u e)
  · by_cases hc : c = b
    · rw [hc, upd_same] at e
      exact ho ps (Option.some.inj e)
    · rw [upd_ne hc] at e
      exact B.notab c ps e
  · rcases h with h | ⟨u, h, hv⟩
    · refine tabS_upd B.tab (fun z => ?_) fun c z => ?_
      · obtain ⟨ps, k1, _⟩ := B.tab
        rw [← z, h] at k1
        cases k1
      · rw [h] at z
        cases z
    · have e := B.ext b u h
      exact tabS_upd B.tab (not_tbl (fun ps w => B.notab b ps (by rw [h, w])) B.tab e) (code_ne hv e)
  · obtain ⟨i, hi⟩ := List.getElem?_of_mem ha
    obtain ⟨y, _, d, z⟩ := B.bins.at2 hi
    exact at0 z (B.na a ha)
theorem BakAt.put (B : BakAt A T H0 H p s) {b : Addr} {o : HO} (ho : ∀ ps, o ≠ .tbl ps) (h : H b = none ∨ ∃ u, H0 b = some u ∧ ∀ φ, u ≠ .ext φ) : BakAt A T (upd H0 b o) (upd H b o) p s := let ⟨_, _, _, _, B⟩ := B; (B.put ho h).at_
theorem BakAt.same (B : BakAt A T H0 H p s) {H1 : Hp} (e : Same H H1) : BakAt A T H0 H1 p s := let ⟨_, _, _, _, B⟩ := B; (B.same e).at_
theorem BakAt.ext (B : BakAt A T H0 H p s) : Same H0 H := let ⟨_, _, _, _, B⟩ := B; B.ext
/-- bin i is changed -/
theorem BakX.setBin (B : BakX A T H0 H p s dx l q as) {i : Nat} {a d : Addr} {b b' : Sr96.Bin} (hi : as[i]? = some a) (ha : H a = some (.ins A.cB d (binF b))) (g : GoodB b') : BakX A T H0 (upd H a (.ins A.cB d (binF b'))) p { s with bins := s.bins.set i b' } dx l q as := by
  have na := B.na a (List.mem_of_getElem? hi)
  obtain ⟨dq, hq⟩ := B.req
  have npa : p ≠ a := ne_of B.hp ha (fun e => binF_ne_bakF _ _ _ _ _ _ _ _ e.symm)
  have nla : l ≠ a := ne_of B.hl ha (fun e => by cases e)
  have nqa : q ≠ a := ne_of hq ha (fun e => binF_ne_reqF _ _ _ _ _ _ e.symm)
  refine ⟨fun c u e => (upd_ne (ne_of_none e na)).trans (B.ext c u e), B.notab, tabS_upd B.tab (not_tbl (ins_no_tbl _ _ _).1 B.tab ha) (code_ne (ins_no_tbl _ _ _).2 ha), B.np, (upd_ne npa).trans B.hp, (upd_ne nla).trans B.hl, B.nl, B.nq, B.na, B.nd,
    B.bins.put (i := i) ⟨d, upd_same⟩ B.nd hi fun x _ ne y ⟨d', z⟩ => ⟨d', (upd_ne ne).trans z⟩, ⟨dq, (upd_ne nqa).trans hq⟩, ⟨?_, fun y hy => ?_⟩, B.gr⟩
  · show (s.bins.set i b').length ≤ 4
    rw [List.length_set]
    exact B.gb.len
  · rcases List.mem_or_eq_of_mem_set hy with z | z
    · exact B.gb.all y z
    · rw [z]
      exact g
/-- the sum of what was spent is changed -/
theorem BakX.setSpent (B : BakX A T H0 H p s dx l q as) (n : Nat) : BakX A T H0 (upd H p (.ins A.cK dx (bakF l q n))) p { s with spent := n } dx l q as := by
  obtain ⟨dq, hq⟩ := B.req
  have nqp : q ≠ p := ne_of hq B.hp (reqF_ne_bakF _ _ _ _ _ _ _ _)
  have nlp : l ≠ p := ne_of B.hl B.hp (fun e => by cases e)
  refine ⟨fun c u e => (upd_ne (ne_of_none e B.np)).trans (B.ext c u e), B.notab, tabS_upd B.tab (not_tbl (ins_no_tbl _ _ _).1 B.tab B.hp) (code_ne (ins_no_tbl _ _ _).2 B.hp), B.np, upd_same, (upd_ne nlp).trans B.hl, B.nl, B.nq, B.na, B.nd, ?_, ⟨dq, (upd_ne nqp).trans hq⟩, B.gb, B.gr⟩
  exact B.bins.imp fun a b ⟨d, z⟩ => ⟨d, (upd_ne (ne_of z B.hp (binF_ne_bakF _ _ _ _ _ _ _ _))).trans z⟩
/-- another request, at a new place -/
theorem BakX.setReq (B : BakX A T H0 H p s dx l q as) {q' d : Addr} {r : Sr96.Request} (hq' : H q' = some (.ins A.cQ d (reqF r))) (n : H0 q' = none) (g : GoodR r) : BakX A T H0 (upd H p (.ins A.cK dx (bakF l q' s.spent))) p { s with request := r } dx l q' as := by
  have nqp : q' ≠ p := ne_of hq' B.hp (reqF_ne_bakF _ _ _ _ _ _ _ _)
  have nlp : l ≠ p := ne_of B.hl B.hp (fun e => by cases e)
  refine ⟨fun c u e => (upd_ne (ne_of_none e B.np)).trans (B.ext c u e), B.notab, tabS_upd B.tab (not_tbl (ins_no_tbl _ _ _).1 B.tab B.hp) (code_ne (ins_no_tbl _ _ _).2 B.hp), B.np, upd_same, (upd_ne nlp).trans B.hl, B.nl, n, B.na, B.nd, ?_, ⟨d, (upd_ne nqp).trans hq'⟩, B.gb, g⟩
  exact B.bins.imp fun a b ⟨d, z⟩ => ⟨d, (upd_ne (ne_of z B.hp (binF_ne_bakF _ _ _ _ _ _ _ _))).trans z⟩
/-- one more bin, at a new place -/
theorem BakX.addBin (B : BakX A T H0 H p s dx l q as) {a d : Addr} {b : Sr96.Bin} (ha : H a = some (.ins A.cB d (binF b))) (n : H0 a = none) (new : a ∉ as) (g : GoodB b) (h4 : s.bins.length < 4) : BakX A T H0 (upd H l (.lst (refV as ++ [.ref a]))) p { s with bins := s.bins ++ [b] } dx l q (as ++ [a]) := by
  obtain ⟨dq, hq⟩ := B.req
  have nql : q ≠ l := ne_of hq B.hl (fun e => by cases e)
  have npl : p ≠ l := ne_of B.hp B.hl (fun e => by cases e)
  have nal : a ≠ l := ne_of ha B.hl (fun e => by cases e)
  refine ⟨fun c u e => (upd_ne (ne_of_none e B.nl)).trans (B.ext c u e), B.notab, tabS_upd B.tab (not_tbl (lst_no_tbl _).1 B.tab B.hl) (code_ne (lst_no_tbl _).2 B.hl), B.np, (upd_ne npl).trans B.hp, ?_, B.nl, B.nq, fun x hx => ?_, ?_, ?_, ⟨dq, (upd_ne nql).trans hq⟩, ⟨?_, fun y hy => ?_⟩, B.gr⟩
  · rw [upd_same]
    unfold refV
    rw [List.map_append]
    rfl
  · rcases List.mem_append.mp hx with hx | hx
    · exact B.na x hx
    · rw [List.mem_singleton.mp hx]
      exact n
  · refine List.nodup_append.mpr ⟨B.nd, by simp, fun x hx y hy e => ?_⟩
    rw [List.mem_singleton.mp hy] at e
    rw [e] at hx
    exact new hx
  · refine Pr.snoc ⟨d, (upd_ne nal).trans ha⟩ (B.bins.imp fun x b ⟨d, z⟩ => ⟨d, (upd_ne (ne_of z B.hl (fun e => by cases e))).trans z⟩)
  · show (s.bins ++ [b]).length ≤ 4
    rw [List.length_append, List.length_singleton]
    omega
  · rcases List.mem_append.mp hy with hy | hy
    · exact B.gb.all y hy
    · rw [List.mem_singleton.mp hy]
      exact g
theorem BakX.fresh (B : BakX A T H0 H p s dx l q as) {a : Addr} (n : H a = none) : H0 a = none := B.ext.free n
/-- the end of an operation: a new list with the answer -/
theorem BakX.answer (B : BakX A T H0 H p s dx l q as) {a : Addr} {xs : List V} (n : H a = none) : H0 a = none ∧ BakAt A T (upd H0 a (.lst xs)) (upd H a (.lst xs)) p s := ⟨B.fresh n, (B.put (lst_no_tbl xs).1 (.inl n)).at_⟩
end
end FB

/-! ## FBH -/
set_option maxRecDepth 100000
set_option maxHeartbeats 2000000
/-! the classes' first methods. -/
namespace FB
open PySem PySem.Spec PyProof.Rows L2 LamX
abbrev binI (k s a p : Int) : List (Str × V) := [("kilograms", .int k), ("strength", .int s), ("ash", .int a), ("price", .int p)]
abbrev reqI (n a b c : Int) : List (Str × V) := [("n", .int n), ("min_strength", .int a), ("max_strength", .int b), ("max_ash", .int c)]
def spBi (C : Addr) : Sp := fun vs H Q _ => ∃ (x dx : Addr) (k s a p : Int), vs = [.ref x, .int k, .int s, .int a, .int p] ∧ H x = some (.ins C dx []) ∧ Q .non (upd H x (.ins C dx (binI k s a p)))
def spQi (C : Addr) : Sp := fun vs H Q _ => ∃ (x dx : Addr) (k s a p : Int), vs = [.ref x, .int k, .int s, .int a, .int p] ∧ H x = some (.ins C dx []) ∧ Q .non (upd H x (.ins C dx (reqI k s a p)))
def spHasBin (A : Ads) (T : Addr) : Sp := fun vs H Q _ => ∃ (H0 : Hp) (p : Addr) (s : Sr96.Store) (i : Int), vs = [.ref p, .int i] ∧ BakAt A T H0 H p s ∧ Q (.bl (Sr96.isBin s i)) H
def spHasForm (A : Ads) (T : Addr) : Sp := fun vs H Q _ => ∃ (H0 : Hp) (p : Addr) (s : Sr96.Store) (x : Addr) (row : List Int), vs = [.ref p, .ref x] ∧ BakAt A T H0 H p s ∧ H x = some (.lst (row.map V.int)) ∧ row.length ≤ 70 ∧ ∀ H', Same H H' → Q (.bl (Sr96.isBlend s row)) H'
def spTake (A : Ads) (T : Addr) : Sp := fun vs H Q _ => ∃ (H0 : Hp) (p : Addr) (s : Sr96.Store) (x : Addr) (xl : List Nat), vs = [.ref p, .ref x] ∧ BakAt A T H0 H p s ∧ NumL H x xl ∧ Av (kgs s.bins) xl ∧
  ∀ H', BakAt A T H0 H' p (Sr96.takeBlend s xl) → NumL H' x xl → Q (nV (Sr96.cost s xl)) H'
def spKi (A : Ads) (T : Addr) : Sp := fun vs H Q _ => ∃ (H0 : Hp) (p dx : Addr), vs = [.ref p] ∧ Same H0 H ∧ (∀ b ps, H0 b ≠ some (.tbl ps)) ∧ TabS H T lamQ ∧ H0 p = none ∧ H p = some (.ins A.cK dx []) ∧ ∀ H', BakAt A T H0 H' p ⟨[], ⟨1, 0, 999, 999⟩, 0⟩ → Q .non H'
section
variable {P : Program} {w : World} {K : PySem.W.Frag} {mg : Str → Option Value} {base : Heap} {A : Ads}
theorem ok_Bi (T : Txt K mg A) : FnOk P w K mg base CX0 1 A.m_Bi.f A.m_Bi.fd ["self", "kilograms", "strength", "ash", "price"] (spBi A.cB) := by
  refine T.Bi.F.ok c_Bi (fun vs H Q E h => ?_) (fun cdv Ar outer s H vs Q E hr h => ?_)
  · obtain ⟨x, dx, k, s, a, p, rfl, _⟩ := h
    rfl
  · obtain ⟨x, dx, k, st, a, p, rfl, hx, q⟩ := h
    refine ⟨_, pss_cons (ps_fld (pv 0) (pv 1) rfl) (pss_cons (ps_fld (pv 0) (pv 2) rfl) (pss_cons (ps_fld (pv 0) (pv 3) rfl) (pss_one (ps_fld (pv 0) (pv 4) rfl)))), ?_⟩
    refine ⟨_, rfl, _, rfl, x, _, dx, _, rfl, hx, T.clB, T.nB_kilograms, (by show 0 < 1000; decide), _, rfl, _, rfl, x, _, dx, _, rfl, upd_same, T.clB, T.nB_strength, (by show 1 < 1000; decide),
      _, rfl, _, rfl, x, _, dx, _, rfl, upd_same, T.clB, T.nB_ash, (by show 2 < 1000; decide), _, rfl, _, rfl, x, _, dx, _, rfl, upd_same, T.clB, T.nB_price, (by show 3 < 1000; decide), ?_⟩
    rw [upd_upd, upd_upd, upd_upd]
    exact q
theorem ok_Qi (T : Txt K mg A) : FnOk P w K mg base CX0 1 A.m_Qi.f A.m_Qi.fd ["self", "n", "min_strength", "max_strength", "max_ash"] (spQi A.cQ) := by
  refine T.Qi.F.ok c_Qi (fun vs H Q E h => ?_) (fun cdv Ar outer s H vs Q E hr h => ?_)
  · obtain ⟨x, dx, k, s, a, p, rfl, _⟩ := h
    rfl
  · obtain ⟨x, dx, k, st, a, p, rfl, hx, q⟩ := h
    refine ⟨_, pss_cons (ps_fld (pv 0) (pv 1) rfl) (pss_cons (ps_fld (pv 0) (pv 2) rfl) (pss_cons (ps_fld (pv 0) (pv 3) rfl) (pss_one (ps_fld (pv 0) (pv 4) rfl)))), ?_⟩
    refine ⟨_, rfl, _, rfl, x, _, dx, _, rfl, hx, T.clQ, T.nQ_n, (by show 0 < 1000; decide), _, rfl, _, rfl, x, _, dx, _, rfl, upd_same, T.clQ, T.nQ_min_strength, (by show 1 < 1000; decide),
      _, rfl, _, rfl, x, _, dx, _, rfl, upd_same, T.clQ, T.nQ_max_strength, (by show 2 < 1000; decide), _, rfl, _, rfl, x, _, dx, _, rfl, upd_same, T.clQ, T.nQ_max_ash, (by show 3 < 1000; decide), ?_⟩
    rw [upd_upd, upd_upd, upd_upd]
    exact q
theorem ok_Ki (T : Txt K mg A) {Tb : Addr} : FnOk P w K mg base CX0 3 A.m_Ki.f A.m_Ki.fd ["self"] (spKi A Tb) := by
  refine T.Ki.F.ok c_Ki (fun vs H Q E h => ?_) (fun cdv Ar outer s H vs Q E hr h => ?_)
  · obtain ⟨H0, p, dx, rfl, _⟩ := h
    rfl
  · obtain ⟨H0, p, dx, rfl, s0, nt, tb, p0, hp, k⟩ := h
    refine ⟨_, pss_cons (ps_fld (pv 0) (pe_lst pa_nil) rfl)
      (pss_cons (ps_fld (pv 0) (pe_make T.Qi.M (ok_Qi T) hr (by rfl) T.mgQ T.Qi.b .nil pass0 (pa_cons pe_int (pa_cons pe_int (pa_cons (pe_glob rfl T.g_MOST_STRENGTH relI) (pa_cons (pe_glob rfl T.g_MOST_ASH relI) pa_nil))))) rfl)
      (pss_one (ps_fld (pv 0) pe_int rfl))), ?_⟩
    refine ⟨Nat.zero_le _, fun l nl => ?_⟩
    have npl : p ≠ l := ne_of_none hp nl
    have hp0 : upd H l (.lst []) p = some (.ins A.cK dx []) := (upd_ne npl).trans hp
    refine ⟨_, rfl, p, _, dx, [], rfl, hp0, T.clK, T.nK_bins, (by show 0 < 1000; decide), ?_⟩
    have e1 : Same H0 (upd (upd H l (.lst [])) p (.ins A.cK dx (putF "bins" (.ref l) []))) := same_put0 (same_put0 s0 (s0.free nl)) p0
    have t1 : TabS (upd (upd H l (.lst [])) p (.ins A.cK dx (putF "bins" (.ref l) []))) Tb lamQ := by
      have t0 : TabS (upd H l (.lst [])) Tb lamQ := tb.ext fun b o e => (upd_ne (ne_of_none e nl)).trans e
      exact tabS_upd t0 (not_tbl (ins_no_tbl _ _ _).1 t0 hp0) (code_ne (ins_no_tbl _ _ _).2 hp0)
    have l1 : upd (upd H l (.lst [])) p (.ins A.cK dx (putF "bins" (.ref l) [])) l = some (.lst []) := by rw [upd_ne (Ne.symm npl), upd_same]
    have p1 : upd (upd H l (.lst [])) p (.ins A.cK dx (putF "bins" (.ref l) [])) p = some (.ins A.cK dx [("bins", .ref l)]) := upd_same
    generalize upd (upd H l (.lst [])) p (.ins A.cK dx (putF "bins" (.ref l) [])) = H1 at e1 t1 l1 p1
    intro q dq nq ndq neq
    refine ⟨q, dq, 1, 0, 999, 999, rfl, upd_same, rfl, ?_⟩
    have e2 : Same H1 (upd (upd (upd H1 dq (.own q)) q (.ins A.cQ dq [])) q (.ins A.cQ dq (reqI 1 0 999 999))) := same_put0 (same_put0 (same_upd (Same.refl _) ndq) nq) nq
    have q2 : upd (upd (upd H1 dq (.own q)) q (.ins A.cQ dq [])) q (.ins A.cQ dq (reqI 1 0 999 999)) q = some (.ins A.cQ dq (reqI 1 0 999 999)) := upd_same
    generalize upd (upd (upd H1 dq (.own q)) q (.ins A.cQ dq [])) q (.ins A.cQ dq (reqI 1 0 999 999)) = H2 at e2 q2
    have p2 := e2 _ _ p1
    have l2 := e2 _ _ l1
    have nqp : q ≠ p := fun z => by
      rw [z, p1] at nq
      cases nq
    refine ⟨_, rfl, p, _, dx, [("bins", .ref l)], rfl, p2, T.clK, T.nK_request, (by show 1 < 1000; decide), _, rfl, p, _, dx, [("bins", .ref l), ("request", .ref q)], rfl, upd_same, T.clK, T.nK_spent, (by show 2 < 1000; decide), ?_⟩
    rw [upd_upd]
    have nlp : l ≠ p := Ne.symm npl
    refine k _ ⟨dx, l, q, [], ⟨fun b o e => ?_, nt, ?_, p0, upd_same, (upd_ne nlp).trans l2, s0.free nl, e1.free nq, by simp, by simp, .nil, ⟨dq, (upd_ne nqp).trans q2⟩, ⟨by decide, by simp⟩, ⟨by decide, by decide, by decide, by decide⟩⟩⟩
    · exact (upd_ne (ne_of_none e p0)).trans (e2 _ _ (e1 _ _ e))
    · have t2 := t1.ext e2
      exact tabS_upd t2 (not_tbl (ins_no_tbl _ _ _).1 t2 p2) (code_ne (ins_no_tbl _ _ _).2 p2)
theorem ok_hasBin (T : Txt K mg A) {Tb : Addr} : FnOk P w K mg base CX0 1 A.m_hasBin.f A.m_hasBin.fd ["self", "i"] (spHasBin A Tb) := by
  refine T.hasBin.F.ok c_hasBin (fun vs H Q E h => ?_) (fun cdv Ar outer s H vs Q E hr h => ?_)
  · obtain ⟨H0, p, s, i, rfl, _⟩ := h
    rfl
  · obtain ⟨H0, p, s, i, rfl, ⟨dx, l, q, as, B⟩, k⟩ := h
    refine ⟨_, pss_one (ps_ret (pe_chain op_le op_lt pe_int (pv 1) (pe_callB call_len_seq (by rfl) T.b_len PySem.boot_len (pa_cons (pe_fld (pv 0) rfl) pa_nil)))), ?_⟩
    refine ⟨_, rfl, _, _, rfl, rfl, _, rfl, ?_⟩
    have e : (refV as).length = s.bins.length := by rw [refV_len, B.bins.len]
    unfold Sr96.isBin SrCommon.isIndex at k
    by_cases c : 0 ≤ i
    · rw [decide_eq_true c] at k ⊢
      refine iteT ⟨_, rfl, p, _, dx, _, _, rfl, B.hp, T.clK, T.nK_bins, rfl, l, _, rfl, .inl (SqL.of B.hl), _, _, rfl, rfl, ?_⟩
      rw [e]
      exact k
    · rw [decide_eq_false c] at k ⊢
      exact iteF k
theorem ok_hasForm (T : Txt K mg A) {Tb : Addr} : FnOk P w K mg base CX0 2 A.m_hasForm.f A.m_hasForm.fd ["self", "blend"] (spHasForm A Tb) := by
  refine T.hasForm.F.ok c_hasForm (fun vs H Q E h => ?_) (fun cdv Ar outer s H vs Q E hr h => ?_)
  · obtain ⟨H0, p, s, x, row, rfl, _⟩ := h
    rfl
  · obtain ⟨H0, p, s, x, row, rfl, ⟨dx, l, q, as, B⟩, hx, h70, k⟩ := h
    refine ⟨_, pss_one (ps_ret (pe_and (pe_cmpR op_eq (pe_callB call_len_seq (by rfl) T.b_len PySem.boot_len (pa_cons (pv 1) pa_nil)) (pe_callB call_len_seq (by rfl) T.b_len PySem.boot_len (pa_cons (pe_fld (pv 0) rfl) pa_nil)) (nomark _))
      (pe_one (pe_callB (cr_all rfl) (by rfl) T.b_all (by decide +kernel) (pa_cons (pe_lc (own := [("kilograms", 2)]) (g := gName 2) (tt := tYes) (te := tCall (spTest fun i => SrCommon.inRange i 0 30) [] E0 (tCons (tVar 2) tNil)) (by rfl) c_hasForm.nd (pi_list (pv 1)) (blkOk_by (N := ["self", "blend", "kilograms"]) (sc := defScope s_hasForm) (by decide +kernel))
        (by exact fun _ _ _ _ _ => pg_name (i := 2) c_hasForm.nd rfl (Or.inl rfl)) (by exact fun _ _ _ _ _ => pts_nil) (by exact fun _ _ _ _ _ => pe_call (ok_im T) hr (by rfl) T.im.g T.im.k T.im.b .nil pass0 (pa_cons (pv 2) pa_nil))) pa_nil))))), ?_⟩
    have e : (refV as).length = s.bins.length := by rw [refV_len, B.bins.len]
    refine ⟨_, rfl, x, _, rfl, .inl (SqL.of hx), _, rfl, p, _, dx, _, _, rfl, B.hp, T.clK, T.nK_bins, rfl, l, _, rfl, .inl (SqL.of B.hl), rfl, _, rfl, ?_⟩
    rw [e, List.length_map]
    unfold Sr96.isBlend at k
    by_cases c : row.length = s.bins.length
    · have c2 : (V.int ((row.length : Nat) : Int) = V.int ((s.bins.length : Nat) : Int)) := by rw [c]
      rw [decide_eq_true c2]
      refine iteT ⟨_, rfl, x, rfl, ⟨_, SqL.of hx⟩, fun D hD => ?_⟩
      refine lc_list (K := K) (a := x) (xs := row.map V.int) (fun j H' => Made H D ((row.take j).map fun y => .bl (SrCommon.inRange y 0 30)) H') (Made.start hD) (fun j H' _ m => SqL.of (m.1 _ _ hx)) ?_ ?_
      · rintro j y H2 hj m
        obtain ⟨z, hz, rfl⟩ : ∃ z, row[j]? = some z ∧ y = V.int z := by
          rw [List.getElem?_map] at hj
          cases e : row[j]? with
          | none =>
            rw [e] at hj
            cases hj
          | some z =>
            rw [e] at hj
            exact ⟨z, rfl, (Option.some.inj hj).symm⟩
        refine ⟨rfl, _, rfl, z, rfl, ?_⟩
        refine Made.next hD m (Same.refl _) (by rw [take_more hz, List.map_append]; rfl) ?_
        rw [List.length_map, List.length_take]
        omega
      · rintro H2 m
        have hD2 := m.2
        rw [List.length_map, List.take_length] at hD2
        refine ⟨D, row.map fun y => SrCommon.inRange y 0 30, rfl, SqL.of (by rw [hD2, List.map_map]; rfl), ?_⟩
        have z := k H2 m.1
        rw [decide_eq_true c, Bool.true_and] at z
        have ea : (row.map fun y => SrCommon.inRange y 0 30).all id = row.all fun y => SrCommon.inRange y 0 Sr96.maxKilograms := by
          rw [List.all_map]
          rfl
        show Q (.bl ((row.map fun y => SrCommon.inRange y 0 30).all id)) _
        rw [ea]
        exact z
    · have c2 : ¬ (V.int ((row.length : Nat) : Int) = V.int ((s.bins.length : Nat) : Int)) := fun q => c (by injection q with q; omega)
      rw [decide_eq_false c2]
      have z := k H (Same.refl _)
      rw [decide_eq_false c] at z
      exact iteF z
/-- the bins behind i turns of taking -/
def taken (bs : List Sr96.Bin) (xl : List Nat) (i : Nat) : List Sr96.Bin := ((bs.zip xl).take i).map (fun y => { y.1 with kilograms := y.1.kilograms - y.2 }) ++ bs.drop i
theorem taken_zero (bs : List Sr96.Bin) (xl : List Nat) : taken bs xl 0 = bs := rfl
theorem taken_all {bs : List Sr96.Bin} {xl : List Nat} (h : xl.length = bs.length) : taken bs xl bs.length = (bs.zip xl).map fun y => { y.1 with kilograms := y.1.kilograms - y.2 } := by
  unfold taken
  rw [List.drop_length, List.append_nil, List.take_of_length_le (by rw [List.length_zip, h, Nat.min_self]; exact Nat.le_refl _)]
theorem taken_next {bs : List Sr96.Bin} {xl : List Nat} {i : Nat} {b : Sr96.Bin} {n : Nat} (hb : bs[i]? = some b) (hx : xl[i]? = some n) : taken bs xl (i + 1) = (taken bs xl i).set i { b with kilograms := b.kilograms - n } ∧ (taken bs xl i)[i]? = some b := by
  have hz : (bs.zip xl)[i]? = some (b, n) := List.getElem?_zip_eq_some.mpr ⟨hb, hx⟩
  have hi : i < bs.length := (List.getElem?_eq_some_iff.mp hb).1
  have hi2 : i < xl.length := (List.getElem?_eq_some_iff.mp hx).1
  have hl : (((bs.zip xl).take i).map (fun y => ({ y.1 with kilograms := y.1.kilograms - y.2 } : Sr96.Bin))).length = i := by
    rw [List.length_map, List.length_take, List.length_zip]
    omega
  have hd : bs.drop i = b :: bs.drop (i + 1) := by
    rw [List.drop_eq_getElem_cons hi]
    congr 1
    exact (List.getElem?_eq_some_iff.mp hb).2
  unfold taken
  refine ⟨?_, ?_⟩
  · rw [take_more hz, List.map_append, hd, List.set_append_right _ _ (by omega), hl, Nat.sub_self]
    simp
  · rw [List.getElem?_append_right (by omega), hl, Nat.sub_self, hd]
    rfl
theorem av_at : ∀ {bs : List Sr96.Bin} {xl : List Nat} {i : Nat} {b : Sr96.Bin} {n : Nat}, Av (kgs bs) xl → bs[i]? = some b → xl[i]? = some n → n ≤ b.kilograms
  | [], _, _, _, _, _, h, _ => by simp at h
  | _ :: _, [], _, _, _, _, _, h => by simp at h
  | b :: bs, x :: xl, 0, b', n, h, h1, h2 => by
    have e1 : b = b' := Option.some.inj h1
    have e2 : x = n := Option.some.inj h2
    rw [← e1, ← e2]
    exact h.1
  | b :: bs, x :: xl, i + 1, b', n, h, h1, h2 => av_at (i := i) (bs := bs) (xl := xl) h.2 h1 h2
theorem ok_take (T : Txt K mg A) {Tb : Addr} : FnOk P w K mg base CX0 2 A.m_take.f A.m_take.fd ["self", "blend"] (spTake A Tb) := by
  refine T.take.F.ok c_take (fun vs H Q E h => ?_) (fun cdv Ar outer s H vs Q E hr h => ?_)
  · obtain ⟨H0, p, s, x, xl, rfl, _⟩ := h
    rfl
  · obtain ⟨H0, p, s, x, xl, rfl, ⟨dx, l, q, as, B⟩, hx, av, k⟩ := h
    refine ⟨_, pss_cons (ps_set (i := 2) c_take.nd rfl (Or.inl rfl) (pe_call (ok_co T) hr rfl T.co.g T.co.k T.co.b .nil pass0 (pa_cons (pe_fld (pv 0) rfl) (pa_cons (pv 1) pa_nil))))
      (pss_cons (ps_for PassesOwn.never rfl (pi_zip (by rfl) T.b_zip (pa_cons (pe_fld (pv 0) rfl) (pa_cons (pv 1) pa_nil))) (pg_tup rfl (pgs_cons (pg_name (i := 3) c_take.nd rfl (Or.inl rfl)) (pgs_cons (pg_name (i := 4) c_take.nd rfl (Or.inl rfl)) pgs_nil)))
        (pss_one (ps_fldaug (pv 3) (pv 4) in_sub)))
      (pss_cons (ps_fldaug (pv 0) (pv 2) in_add)
      (pss_one (ps_ret (pv 2))))), ?_⟩
    have hlen : xl.length = s.bins.length := by
      rw [av.len, List.length_map]
    refine ⟨_, rfl, p, _, dx, _, _, rfl, B.hp, T.clK, T.nK_bins, rfl, _, rfl, l, x, s.bins, xl, rfl, B.binL, hx, B.gb, fun H1 s1 => ?_⟩
    have B1 := B.same s1
    have hx1 := hx.same s1
    refine ⟨_, rfl, p, _, dx, _, _, rfl, B1.hp, T.clK, T.nK_bins, rfl, _, rfl, l, x, _, _, rfl, SqL.of B1.hl, SqL.of hx1, ?_⟩
    refine for_it (walk_zip (xs := refV as) (ys := natV xl) rfl) (fun i σ H' => ∃ v3 v4 : Option V, σ = [some (.ref p), some (.ref x), some (nV (Sr96.total Sr96.Bin.price s.bins xl)), v3, v4] ∧ BakX A Tb H0 H' p { s with bins := taken s.bins xl i } dx l q as ∧ NumL H' x xl)
      ⟨none, none, rfl, B1, hx1⟩ ?_ ?_ ?_
    · rintro i σ H' _ ⟨_, _, rfl, B', hx'⟩
      exact ⟨SqL.of B'.hl, SqL.of hx'⟩
    · rintro i v σ H2 H3 hi ⟨_, _, rfl, B2, hx2⟩ ⟨Tp, y, z, rfl, nT, rfl, e1, e2⟩
      obtain ⟨a, ha, rfl⟩ := refV_at e1
      obtain ⟨n, hn, rfl⟩ := natV_at e2
      obtain ⟨b, hb, _⟩ := B.bins.at2 ha
      obtain ⟨t1, t2⟩ := taken_next hb hn
      have hle := av_at av hb hn
      have sm : Same H2 (upd H2 Tp (.tup [V.ref a, nV n])) := same_upd (Same.refl _) nT
      have B3 := B2.same sm
      have hx3 := hx2.same sm
      obtain ⟨b', hb', d, hd⟩ := B3.bins.at2 ha
      have eb : b' = b := by
        have w1 : (taken s.bins xl i)[i]? = some b' := hb'
        rw [t2] at w1
        exact (Option.some.inj w1).symm
      subst eb
      refine ⟨Tp, _, rfl, SqT.of upd_same, rfl, _, _, rfl, _, _, rfl, rfl, ?_⟩
      refine ⟨_, rfl, a, _, d, _, _, rfl, hd, T.clB, T.nB_kilograms, rfl, _, rfl, _, _, rfl, rfl, d, _, hd, (by show 4 < 1000; decide), ?_⟩
      have eV : V.int ((b'.kilograms : Int) - (n : Int)) = nV (b'.kilograms - n) := by
        have : (b'.kilograms : Int) - (n : Int) = ((b'.kilograms - n : Nat) : Int) := by omega
        rw [this]
      rw [eV, putB_kg]
      have gB := B.gb.all b' (List.mem_of_getElem? hb)
      have B4 := B3.setBin (b' := { b' with kilograms := b'.kilograms - n }) ha hd ⟨by have := gB.kilograms; show b'.kilograms - n ≤ 30; omega, gB.strength, gB.ash, gB.price⟩
      refine ⟨_, _, rfl, ?_, ?_⟩
      · rw [t1]
        exact B4
      · have ne : x ≠ a := ne_of hx3 hd (fun e => by cases e)
        exact (upd_ne ne).trans hx3
    · rintro σ H2 ⟨_, _, rfl, B2, hx2⟩
      rw [refV_len, natV_len, B.bins.len, hlen, Nat.min_self, taken_all hlen] at B2
      refine ⟨_, rfl, p, _, dx, _, _, rfl, B2.hp, T.clK, T.nK_spent, rfl, _, rfl, _, _, rfl, rfl, dx, _, B2.hp, (by show 3 < 1000; decide), ?_⟩
      have eV : V.int ((s.spent : Int) + ((Sr96.total Sr96.Bin.price s.bins xl : Nat) : Int)) = nV (s.spent + Sr96.total Sr96.Bin.price s.bins xl) := by
        rw [← Int.natCast_add]
      have ne : x ≠ p := ne_of hx2 B2.hp (fun e => by cases e)
      refine ⟨_, rfl, k _ ?_ ((upd_ne ne).trans hx2)⟩
      show BakAt A Tb H0 (upd H2 p (.ins A.cK dx (putF "spent" (V.int ((s.spent : Int) + ((Sr96.total Sr96.Bin.price s.bins xl : Nat) : Int))) (bakF l q s.spent)))) p _
      rw [eV, putK_spent]
      exact (B2.setSpent (s.spent + Sr96.total Sr96.Bin.price s.bins xl)).at_
end
end FB

/-! ## FBI -/
set_option maxRecDepth 100000
set_option maxHeartbeats 2000000
/-! the operations that change the stock and the request. -/
namespace FB
open PySem PySem.Spec PyProof.Rows L2 LamX
def ansL (s : Sr96.Store) (c : Sr96.Call) : List Int := (Sr96.perform s c).2.code :: (Sr96.perform s c).2.values
def stepS (s : Sr96.Store) (c : Sr96.Call) : Sr96.Store := (Sr96.perform s c).1.getD s
/-- how an operation ends -/
def OpEnd (A : Ads) (T : Addr) (H0 : Hp) (p : Addr) (s : Sr96.Store) (c : Sr96.Call) (Q : VK) : Prop := ∀ a H', H0 a = none → BakAt A T (upd H0 a (.lst ((ansL s c).map V.int))) H' p (stepS s c) → Q (.ref a) H'
theorem opEnd {A : Ads} {T : Addr} {H0 H : Hp} {p a : Addr} {s s' : Sr96.Store} {c : Sr96.Call} {Q : VK} (k : OpEnd A T H0 p s c Q) (B : BakAt A T H0 H p s') (n : H a = none) {xs : List V} (e1 : (ansL s c).map V.int = xs) (e2 : stepS s c = s') : Q (.ref a) (upd H a (.lst xs)) := by
  obtain ⟨dx, l, q, as, B⟩ := B
  obtain ⟨h1, h2⟩ := B.answer (xs := xs) n
  refine k a _ h1 ?_
  rw [e1, e2]
  exact h2
/-- an error: its code alone, nothing changed -/
theorem opErr {A : Ads} {T : Addr} {H0 H : Hp} {p a : Addr} {s : Sr96.Store} {c : Sr96.Call} {Q : VK} (k : OpEnd A T H0 p s c Q) (B : BakAt A T H0 H p s) (n : H a = none) {z : Int} (e : Sr96.perform s c = Sr96.error z) : Q (.ref a) (upd H a (.lst [V.int z])) := by
  refine opEnd k B n ?_ ?_
  · unfold ansL
    rw [e]
    rfl
  · unfold stepS
    rw [e]
    rfl
/-- a test of a range by a chain -/
theorem chainT {lo hi i : Int} {Z : Bool → Prop} (h : Z (SrCommon.inRange i lo hi)) : if decide (lo ≤ i) = true then Z (decide (i ≤ hi)) else Z false := by
  unfold SrCommon.inRange at h
  by_cases c : lo ≤ i
  · rw [decide_eq_true c] at h ⊢
    exact iteT h
  · rw [decide_eq_false c] at h ⊢
    exact iteF h
theorem inR {i lo hi : Int} (h : SrCommon.inRange i lo hi = true) : lo ≤ i ∧ i ≤ hi := by
  unfold SrCommon.inRange at h
  simpa using h
theorem binAt_of {s : Sr96.Store} {i : Nat} {b : Sr96.Bin} (h : s.bins[i]? = some b) : Sr96.binAt s i = b := by
  unfold Sr96.binAt
  rw [List.getD_eq_getElem?_getD, h]
  rfl
/-- a bin that is there -/
theorem isBin_at {A : Ads} {T : Addr} {H0 H : Hp} {p dx l q : Addr} {as : List Addr} {s : Sr96.Store} (B : BakX A T H0 H p s dx l q as) {i : Int} (h : Sr96.isBin s i = true) : ∃ (j : Nat) (a d : Addr) (b : Sr96.Bin), i = (j : Int) ∧ i.toNat = j ∧ as[j]? = some a ∧ s.bins[j]? = some b ∧ H a = some (.ins A.cB d (binF b)) ∧ (refV as)[j]? = some (.ref a) ∧ b ∈ s.bins := by
  unfold Sr96.isBin SrCommon.isIndex at h
  simp only [Bool.and_eq_true, decide_eq_true_eq] at h
  obtain ⟨h1, h2⟩ := h
  have hj : i.toNat < s.bins.length := by omega
  have hb : s.bins[i.toNat]? = some s.bins[i.toNat] := List.getElem?_eq_getElem hj
  obtain ⟨a, ha, d, hd⟩ := B.bins.at_ hb
  refine ⟨i.toNat, a, d, _, by omega, rfl, ha, hb, hd, ?_, List.mem_of_getElem? hb⟩
  unfold refV
  rw [List.getElem?_map, ha]
  rfl
def spAddBin (A : Ads) (T : Addr) : Sp := fun vs H Q _ => ∃ (H0 : Hp) (p : Addr) (s : Sr96.Store) (k st a pr : Int), vs = [.ref p, .int k, .int st, .int a, .int pr] ∧ BakAt A T H0 H p s ∧ OpEnd A T H0 p s (.addBin k st a pr) Q
def spAddFlour (A : Ads) (T : Addr) : Sp := fun vs H Q _ => ∃ (H0 : Hp) (p : Addr) (s : Sr96.Store) (i k : Int), vs = [.ref p, .int i, .int k] ∧ BakAt A T H0 H p s ∧ OpEnd A T H0 p s (.addFlour i k) Q
def spSetPrice (A : Ads) (T : Addr) : Sp := fun vs H Q _ => ∃ (H0 : Hp) (p : Addr) (s : Sr96.Store) (i k : Int), vs = [.ref p, .int i, .int k] ∧ BakAt A T H0 H p s ∧ OpEnd A T H0 p s (.setPrice i k) Q
def spEmptyBin (A : Ads) (T : Addr) : Sp := fun vs H Q _ => ∃ (H0 : Hp) (p : Addr) (s : Sr96.Store) (i : Int), vs = [.ref p, .int i] ∧ BakAt A T H0 H p s ∧ OpEnd A T H0 p s (.emptyBin i) Q
def spSetReq (A : Ads) (T : Addr) : Sp := fun vs H Q _ => ∃ (H0 : Hp) (p : Addr) (s : Sr96.Store) (n lo hi m : Int), vs = [.ref p, .int n, .int lo, .int hi, .int m] ∧ BakAt A T H0 H p s ∧ OpEnd A T H0 p s (.setRequest n lo hi m) Q
section
variable {P : Program} {w : World} {K : PySem.W.Frag} {mg : Str → Option Value} {base : Heap} {A : Ads}
theorem ok_addBin (T : Txt K mg A) {Tb : Addr} : FnOk P w K mg base CX0 3 A.m_addBin.f A.m_addBin.fd ["self", "kilograms", "strength", "ash", "price"] (spAddBin A Tb) := by
  refine T.addBin.F.ok c_addBin (fun vs H Q E h => ?_) (fun cdv Ar outer s H vs Q E hr h => ?_)
  · obtain ⟨H0, p, s, k, st, a, pr, rfl, _⟩ := h
    rfl
  · obtain ⟨H0, p, s, k, st, a, pr, rfl, BA, kq⟩ := h
    obtain ⟨dx, l, q, as, B⟩ := id BA
    have hr1 : Room 1 _ := hr.mono (by decide)
    refine ⟨_, pss_cons (ps_if (pt_not (PW.pt (pw_and (pt_val (pe_call (ok_im T) hr1 rfl T.im.g T.im.k T.im.b .nil pass0 (pa_cons (pv 1) pa_nil))) (pw_and (pt_chain op_le op_le pe_int (pv 2) (pe_glob rfl T.g_MOST_STRENGTH relI)) (pw_and (pt_val (pe_call (ok_ih T) hr1 rfl T.ih.g T.ih.k T.ih.b .nil pass0 (pa_cons (pv 3) pa_nil)))
      (pw_and1 (pt_val (pe_call (ok_ip T) hr1 rfl T.ip.g T.ip.k T.ip.b .nil pass0 (pa_cons (pv 4) pa_nil)))))))) ) (pss_one (ps_ret (pe_lst (pa_cons (pe_glob rfl T.g_OUT_OF_RANGE relI) pa_nil)))) pss_nil)
      (pss_cons (ps_if (pt_cmpR op_eq (pe_callB call_len_seq (by rfl) T.b_len PySem.boot_len (pa_cons (pe_fld (pv 0) rfl) pa_nil)) (pe_glob rfl T.g_MOST_BINS relI) (nomark _)) (pss_one (ps_ret (pe_lst (pa_cons (pe_glob rfl T.g_TOO_MANY_BINS relI) pa_nil)))) pss_nil)
      (pss_cons (ps_expr (pe_bm PySem.F.plainAttrs_list PySem.F.slot_list_append PySem.F.type_list_append mt_append (pe_fld (pv 0) rfl) (pa_cons (pe_make T.Bi.M (ok_Bi T) hr (by rfl) T.mgB T.Bi.b .nil pass0 (pa_cons (pv 1) (pa_cons (pv 2) (pa_cons (pv 3) (pa_cons (pv 4) pa_nil))))) pa_nil)))
      (pss_one (ps_ret (pe_lst (pa_cons (pe_op op_sub (pe_callB call_len_seq (by rfl) T.b_len PySem.boot_len (pa_cons (pe_fld (pv 0) rfl) pa_nil)) pe_int) pa_nil)))))), ?_⟩
    refine ⟨_, rfl, k, rfl, SrCommon.inRange k 0 30, rfl, ?_⟩
    cases h1 : SrCommon.inRange k 0 30 with
    | false => exact iteF (iteT ⟨(by show 1 ≤ sizeLine; decide), fun x nx => opErr kq BA nx (if_pos (.inl h1))⟩)
    | true =>
      refine iteT ⟨_, rfl, _, _, rfl, rfl, _, rfl, ?_⟩
      refine ite2 (fun c => ?_) (fun c => ?_)
      · refine ⟨_, _, rfl, rfl, decide (st ≤ 999), rfl, ?_⟩
        by_cases c2 : st ≤ 999
        · have h2 : SrCommon.inRange st 1 999 = true := by
            unfold SrCommon.inRange
            rw [c, decide_eq_true c2]
            rfl
          rw [decide_eq_true c2]
          refine iteT ⟨_, rfl, a, rfl, SrCommon.inRange a 0 999, rfl, ?_⟩
          cases h3 : SrCommon.inRange a 0 999 with
          | false => exact iteF (iteT ⟨(by show 1 ≤ sizeLine; decide), fun x nx => opErr kq BA nx (if_pos (.inr (.inr (.inl h3))))⟩)
          | true =>
            refine iteT ⟨_, rfl, pr, rfl, SrCommon.inRange pr 1 99, rfl, ?_⟩
            cases h4 : SrCommon.inRange pr 1 99 with
            | false => exact iteT ⟨(by show 1 ≤ sizeLine; decide), fun x nx => opErr kq BA nx (if_pos (.inr (.inr (.inr h4))))⟩
            | true =>
              have hok : ¬ (SrCommon.inRange k 0 30 = false ∨ SrCommon.inRange st 1 999 = false ∨ SrCommon.inRange a 0 999 = false ∨ Sr96.isPrice pr = false) := by
                unfold Sr96.isPrice
                rw [h1, h2, h3, h4]
                simp
              refine iteF ⟨_, rfl, p, _, dx, _, _, rfl, B.hp, T.clK, T.nK_bins, rfl, l, _, rfl, .inl (SqL.of B.hl), rfl, _, rfl, ?_⟩
              have el : (refV as).length = s.bins.length := by rw [refV_len, B.bins.len]
              rw [el]
              have h4' := B.gb.len
              by_cases c5 : s.bins.length = 4
              · have c6 : V.int ((s.bins.length : Nat) : Int) = V.int 4 := by rw [c5]; rfl
                rw [decide_eq_true c6]
                refine iteT ⟨(by show 1 ≤ sizeLine; decide), fun x nx => opErr kq BA nx ?_⟩
                refine (if_neg hok).trans (if_pos ?_)
                rw [c5]
                exact Nat.le_refl _
              · have c6 : ¬ (V.int ((s.bins.length : Nat) : Int) = V.int 4) := fun q => c5 (by injection q with q; omega)
                rw [decide_eq_false c6]
                have hlt : s.bins.length < 4 := by omega
                refine iteF ⟨_, rfl, p, _, dx, _, _, rfl, B.hp, T.clK, T.nK_bins, rfl, .inl ⟨rfl, _, SqL.of B.hl⟩, _, rfl, _, rfl, _, rfl, _, rfl, ?_⟩
                intro x d nx nd ne
                have s3 : Same H (upd (upd (upd H d (.own x)) x (.ins A.cB d [])) x (.ins A.cB d (binI k st a pr))) := same_put0 (same_put0 (same_upd (Same.refl _) nd) nx) nx
                have hx : upd (upd (upd H d (.own x)) x (.ins A.cB d [])) x (.ins A.cB d (binI k st a pr)) x = some (.ins A.cB d (binI k st a pr)) := upd_same
                refine ⟨x, d, k, st, a, pr, rfl, upd_same, rfl, ?_⟩
                generalize upd (upd (upd H d (.own x)) x (.ins A.cB d [])) x (.ins A.cB d (binI k st a pr)) = H3 at s3 hx
                have B3 := B.same s3
                have r1 := inR h1
                have r2 := inR h2
                have r3 := inR h3
                have r4 := inR h4
                have eb : binI k st a pr = binF ⟨k.toNat, st.toNat, a.toNat, pr.toNat⟩ := by
                  show binI k st a pr = binI ((k.toNat : Nat) : Int) ((st.toNat : Nat) : Int) ((a.toNat : Nat) : Int) ((pr.toNat : Nat) : Int)
                  rw [Int.toNat_of_nonneg r1.1, Int.toNat_of_nonneg (by omega), Int.toNat_of_nonneg r3.1, Int.toNat_of_nonneg (by omega)]
                rw [eb] at hx
                have new : x ∉ as := fun m => by
                  obtain ⟨i, hi⟩ := List.getElem?_of_mem m
                  obtain ⟨y, _, d', z⟩ := B.bins.at2 hi
                  rw [nx] at z
                  cases z
                have B4 := B3.addBin hx (B.fresh nx) new ⟨by show k.toNat ≤ 30; omega, by show st.toNat ≤ 999; omega, by show a.toNat ≤ 999; omega, by show pr.toNat ≤ 99; omega⟩ hlt
                refine ⟨l, _, _, rfl, rfl, B3.hl, (by rw [el]; exact size_less (by omega)), ?_⟩
                refine ⟨_, rfl, p, _, dx, _, _, rfl, B4.hp, T.clK, T.nK_bins, rfl, l, _, rfl, .inl (SqL.of B4.hl), _, _, rfl, rfl, (by show 1 ≤ sizeLine; decide), fun y ny => ?_⟩
                have e1 : Sr96.perform s (.addBin k st a pr) = (some { s with bins := s.bins ++ [⟨k.toNat, st.toNat, a.toNat, pr.toNat⟩] }, Sr96.countResult s.bins.length) := (if_neg hok).trans (if_neg (by show ¬ 4 ≤ s.bins.length; omega))
                refine opEnd kq B4.at_ ny ?_ ?_
                · unfold ansL
                  rw [e1]
                  have e2 : (((refV (as ++ [x])).length : Nat) : Int) - 1 = ((s.bins.length : Nat) : Int) := by
                    have h9 := B.bins.len
                    rw [refV_len, List.length_append, List.length_singleton, h9]
                    omega
                  show _ = [V.int ((((refV (as ++ [x])).length : Nat) : Int) - 1)]
                  rw [e2]
                  rfl
                · unfold stepS
                  rw [e1]
                  rfl
        · have h2 : SrCommon.inRange st 1 999 = false := by
            unfold SrCommon.inRange
            rw [decide_eq_false c2, Bool.and_false]
          rw [decide_eq_false c2]
          exact iteF (iteT ⟨(by show 1 ≤ sizeLine; decide), fun x nx => opErr kq BA nx (if_pos (.inr (.inl h2)))⟩)
      · have c' : ¬ (1 ≤ st) := fun q => c (decide_eq_true q)
        have h2 : SrCommon.inRange st 1 999 = false := by
          unfold SrCommon.inRange
          rw [decide_eq_false c', Bool.false_and]
        exact ⟨_, rfl, iteF (iteT ⟨(by show 1 ≤ sizeLine; decide), fun x nx => opErr kq BA nx (if_pos (.inr (.inl h2)))⟩)⟩
end
end FB

/-! ## FBJ -/
set_option maxRecDepth 100000
set_option maxHeartbeats 2000000
/-! the operations that change the stock and the request, further. -/
namespace FB
open PySem PySem.Spec PyProof.Rows L2 LamX
/-- a op1 b op2 c op3 d, as a test -/
def tChain3 (r r' r'' : R2) (ta tb tc td : TE) : TT := fun σ H Q => ta σ H fun x H1 => tb σ H1 fun y H2 => r x y H2 fun z H3 => ∃ k, z = .bl k ∧
  (if k = true then tc σ H3 fun v H4 => r' y v H4 fun z2 H5 => ∃ k2, z2 = .bl k2 ∧ (if k2 = true then td σ H5 fun u H6 => r'' v u H6 fun z3 H7 => ∃ k3, z3 = .bl k3 ∧ Q k3 H7 else Q false H5) else Q false H3)
theorem pt_chain3 {X : Cx} {a b c d : Expr} {ta tb tc td : TE} {op op' op'' : CmpOp} {r r' r'' : R2} {pos : Pos} (ho : OpR X (compareOp op) r) (ho' : OpR X (compareOp op') r') (ho'' : OpR X (compareOp op'') r'') (ha : PE X a ta) (hb : PE X b tb) (hc : PE X c tc) (hd : PE X d td)
    (hm : lastMarks [op, op', op''] [b, c, d] = false := by with_unfolding_all rfl) : PT X (.Compare a [op, op', op''] [b, c, d] pos) (tChain3 r r' r'' ta tb tc td) := by
  refine ⟨fun pins s σ H Q I h => ?_⟩
  refine isTrue_chain (thn (ha.run pins s σ H _ I h) fun v s1 ⟨x, H1, I1, r1, q1⟩ => test_link (thn (hb.run pins s1 σ H1 _ I1 q1) fun u s2 ⟨y, H2, I2, r2, q2⟩ =>
    thn (ho pins s2 σ H2 x y v u _ I2 r1 r2 q2) fun d1 s3 ⟨z, H3, I3, r3, k, e, q3⟩ => ?_)) hm
  subst e
  cases r3
  refine wpAny_truthy_bool ?_
  cases k with
  | false => exact ite_ff ⟨H3, I3, q3⟩
  | true =>
    refine ite_tt (test_link (thn (hc.run pins s3 σ H3 _ I3 q3) fun w1 s4 ⟨y2, H4, I4, r4, q4⟩ => thn (ho' pins s4 σ H4 y y2 u w1 _ I4 r2 r4 q4) fun d2 s5 ⟨z2, H5, I5, r5, k2, e2, q5⟩ => ?_))
    subst e2
    cases r5
    refine wpAny_truthy_bool ?_
    cases k2 with
    | false => exact ite_ff ⟨H5, I5, q5⟩
    | true =>
      refine ite_tt (test_last (thn (hd.run pins s5 σ H5 _ I5 q5) fun w2 s6 ⟨y3, H6, I6, r6, q6⟩ => thn (ho'' pins s6 σ H6 y2 y3 w1 w2 _ I6 r4 r6 q6) fun d3 s7 ⟨z3, H7, I7, r7, k3, e3, q7⟩ => ?_))
      subst e3
      cases r7
      exact wpAny_truthy_bool ⟨H7, I7, q7⟩
section
variable {P : Program} {w : World} {K : PySem.W.Frag} {mg : Str → Option Value} {base : Heap} {A : Ads}
theorem ok_addFlour (T : Txt K mg A) {Tb : Addr} : FnOk P w K mg base CX0 2 A.m_addFlour.f A.m_addFlour.fd ["self", "i", "kilograms"] (spAddFlour A Tb) := by
  refine T.addFlour.F.ok c_addFlour (fun vs H Q E h => ?_) (fun cdv Ar outer s H vs Q E hr h => ?_)
  · obtain ⟨H0, p, s, i, k, rfl, _⟩ := h
    rfl
  · obtain ⟨H0, p, s, i, k, rfl, BA, kq⟩ := h
    obtain ⟨dx, l, q, as, B⟩ := id BA
    refine ⟨_, pss_cons (ps_if (pt_not (pt_val (pe_meth (pv 0) T.clK T.hasBin.m (ok_hasBin T (Tb := Tb)) hr T.hasBin.b .nil pass0 (pa_cons (pv 1) pa_nil)))) (pss_one (ps_ret (pe_lst (pa_cons (pe_glob rfl T.g_NO_SUCH_BIN relI) pa_nil)))) pss_nil)
      (pss_cons (ps_set (i := 3) c_addFlour.nd rfl (Or.inl rfl) (pe_op op_add (pe_fld (pe_ix ix_list (pe_fld (pv 0) rfl) (pv 1) (fun _ _ => rfl)) rfl) (pv 2)))
      (pss_cons (ps_if (PW.pt (pw_or (pt_cmpR op_lt (pv 2) pe_int (nomark _)) (pw_or1 (pt_cmpR op_gt (pv 3) (pe_glob rfl T.g_MOST_KILOGRAMS relI) (nomark _))))) (pss_one (ps_ret (pe_lst (pa_cons (pe_glob rfl T.g_OUT_OF_RANGE relI) pa_nil)))) pss_nil)
      (pss_cons (ps_fld (pe_ix ix_list (pe_fld (pv 0) rfl) (pv 1) (fun _ _ => rfl)) (pv 3) rfl)
      (pss_one (ps_ret (pe_lst (pa_cons (pv 3) pa_nil))))))), ?_⟩
    refine ⟨_, rfl, p, dx, _, rfl, B.hp, rfl, _, rfl, H0, p, s, i, rfl, BA, Sr96.isBin s i, rfl, ?_⟩
    cases hb : Sr96.isBin s i with
    | false => exact iteT ⟨(by show 1 ≤ sizeLine; decide), fun x nx => opErr kq BA nx (if_pos hb)⟩
    | true =>
      obtain ⟨j, a, d, b, rfl, ej, ha, hbj, hd, hr', hm⟩ := isBin_at B hb
      have hn : ¬ (Sr96.isBin s ((j : Nat) : Int) = false) := by rw [hb]; simp
      have ebin : Sr96.binAt s ((j : Nat) : Int).toNat = b := by rw [ej]; exact binAt_of hbj
      refine iteF ⟨_, rfl, p, _, dx, _, _, rfl, B.hp, T.clK, T.nK_bins, rfl, _, rfl, l, _, _, _, rfl, rfl, SqL.of B.hl, atI_nat hr', a, _, d, _, _, rfl, hd, T.clB, T.nB_kilograms, rfl, _, rfl, _, _, rfl, rfl, ?_⟩
      refine ⟨_, rfl, _, _, rfl, rfl, decide (k < 1), rfl, ?_⟩
      by_cases c1 : k < 1
      · rw [decide_eq_true c1]
        exact iteT (iteT ⟨(by show 1 ≤ sizeLine; decide), fun x nx => opErr kq BA nx ((if_neg hn).trans (if_pos (.inl c1)))⟩)
      · rw [decide_eq_false c1]
        refine iteF ⟨_, rfl, _, _, rfl, rfl, decide (30 < (b.kilograms : Int) + k), rfl, ?_⟩
        by_cases c2 : 30 < (b.kilograms : Int) + k
        · rw [decide_eq_true c2]
          refine iteT ⟨(by show 1 ≤ sizeLine; decide), fun x nx => opErr kq BA nx ((if_neg hn).trans (if_pos (.inr ?_)))⟩
          rw [ebin]
          exact c2
        · rw [decide_eq_false c2]
          have hno : ¬ (k < 1 ∨ (Sr96.maxKilograms : Int) < ((Sr96.binAt s ((j : Nat) : Int).toNat).kilograms : Int) + k) := by
            rw [ebin]
            exact fun z => z.elim c1 c2
          refine iteF ⟨_, rfl, _, rfl, p, _, dx, _, _, rfl, B.hp, T.clK, T.nK_bins, rfl, _, rfl, l, _, _, _, rfl, rfl, SqL.of B.hl, atI_nat hr', a, _, d, _, rfl, hd, T.clB, T.nB_kilograms, (by show 4 < 1000; decide), ?_⟩
          have eV : V.int ((b.kilograms : Int) + k) = nV (b.kilograms + k.toNat) := by
            have : (b.kilograms : Int) + k = ((b.kilograms + k.toNat : Nat) : Int) := by omega
            rw [this]
          have gB := B.gb.all b hm
          refine ⟨_, rfl, (by show 1 ≤ sizeLine; decide), fun x nx => ?_⟩
          have e1 : Sr96.perform s (.addFlour ((j : Nat) : Int) k) = (some (Sr96.withBin s j { b with kilograms := b.kilograms + k.toNat }), Sr96.countResult (b.kilograms + k.toNat)) := by
            refine (if_neg hn).trans ((if_neg hno).trans ?_)
            rw [ebin, ej]
          have B2 := B.setBin (b' := { b with kilograms := b.kilograms + k.toNat }) ha hd ⟨by show b.kilograms + k.toNat ≤ 30; omega, gB.strength, gB.ash, gB.price⟩
          rw [← putB_kg, ← eV] at B2
          refine opEnd kq B2.at_ nx ?_ ?_
          · unfold ansL
            rw [e1]
            show [nV (b.kilograms + k.toNat)] = [V.int ((b.kilograms : Int) + k)]
            rw [eV]
          · unfold stepS
            rw [e1]
            rfl
theorem ok_setPrice (T : Txt K mg A) {Tb : Addr} : FnOk P w K mg base CX0 2 A.m_setPrice.f A.m_setPrice.fd ["self", "i", "price"] (spSetPrice A Tb) := by
  refine T.setPrice.F.ok c_setPrice (fun vs H Q E h => ?_) (fun cdv Ar outer s H vs Q E hr h => ?_)
  · obtain ⟨H0, p, s, i, k, rfl, _⟩ := h
    rfl
  · obtain ⟨H0, p, s, i, k, rfl, BA, kq⟩ := h
    obtain ⟨dx, l, q, as, B⟩ := id BA
    refine ⟨_, pss_cons (ps_if (pt_not (pt_val (pe_meth (pv 0) T.clK T.hasBin.m (ok_hasBin T (Tb := Tb)) hr T.hasBin.b .nil pass0 (pa_cons (pv 1) pa_nil)))) (pss_one (ps_ret (pe_lst (pa_cons (pe_glob rfl T.g_NO_SUCH_BIN relI) pa_nil)))) pss_nil)
      (pss_cons (ps_if (pt_not (pt_val (pe_call (ok_ip T) hr rfl T.ip.g T.ip.k T.ip.b .nil pass0 (pa_cons (pv 2) pa_nil)))) (pss_one (ps_ret (pe_lst (pa_cons (pe_glob rfl T.g_OUT_OF_RANGE relI) pa_nil)))) pss_nil)
      (pss_cons (ps_set (i := 3) c_setPrice.nd rfl (Or.inl rfl) (pe_fld (pe_ix ix_list (pe_fld (pv 0) rfl) (pv 1) (fun _ _ => rfl)) rfl))
      (pss_cons (ps_fld (pe_ix ix_list (pe_fld (pv 0) rfl) (pv 1) (fun _ _ => rfl)) (pv 2) rfl)
      (pss_one (ps_ret (pe_lst (pa_cons (pv 3) pa_nil))))))), ?_⟩
    refine ⟨_, rfl, p, dx, _, rfl, B.hp, rfl, _, rfl, H0, p, s, i, rfl, BA, Sr96.isBin s i, rfl, ?_⟩
    cases hb : Sr96.isBin s i with
    | false => exact iteT ⟨(by show 1 ≤ sizeLine; decide), fun x nx => opErr kq BA nx (if_pos hb)⟩
    | true =>
      obtain ⟨j, a, d, b, rfl, ej, ha, hbj, hd, hr', hm⟩ := isBin_at B hb
      have hn : ¬ (Sr96.isBin s ((j : Nat) : Int) = false) := by rw [hb]; simp
      have ebin : Sr96.binAt s ((j : Nat) : Int).toNat = b := by rw [ej]; exact binAt_of hbj
      refine iteF ⟨_, rfl, k, rfl, SrCommon.inRange k 1 99, rfl, ?_⟩
      cases hp : SrCommon.inRange k 1 99 with
      | false => exact iteT ⟨(by show 1 ≤ sizeLine; decide), fun x nx => opErr kq BA nx ((if_neg hn).trans (if_pos hp))⟩
      | true =>
        have hn2 : ¬ (Sr96.isPrice k = false) := by
          unfold Sr96.isPrice
          rw [hp]
          simp
        have r1 := inR hp
        refine iteF ⟨_, rfl, p, _, dx, _, _, rfl, B.hp, T.clK, T.nK_bins, rfl, _, rfl, l, _, _, _, rfl, rfl, SqL.of B.hl, atI_nat hr', a, _, d, _, _, rfl, hd, T.clB, T.nB_price, rfl, ?_⟩
        refine ⟨_, rfl, _, rfl, p, _, dx, _, _, rfl, B.hp, T.clK, T.nK_bins, rfl, _, rfl, l, _, _, _, rfl, rfl, SqL.of B.hl, atI_nat hr', a, _, d, _, rfl, hd, T.clB, T.nB_price, (by show 4 < 1000; decide), ?_⟩
        have eV : V.int k = nV k.toNat := by
          have z : ((k.toNat : Nat) : Int) = k := Int.toNat_of_nonneg (by omega)
          show V.int k = V.int ((k.toNat : Nat) : Int)
          rw [z]
        have gB := B.gb.all b hm
        refine ⟨_, rfl, (by show 1 ≤ sizeLine; decide), fun x nx => ?_⟩
        have e1 : Sr96.perform s (.setPrice ((j : Nat) : Int) k) = (some (Sr96.withBin s j { b with price := k.toNat }), Sr96.countResult b.price) := by
          refine (if_neg hn).trans ((if_neg hn2).trans ?_)
          rw [ebin, ej]
        have B2 := B.setBin (b' := { b with price := k.toNat }) ha hd ⟨gB.kilograms, gB.strength, gB.ash, by show k.toNat ≤ 99; omega⟩
        rw [← putB_price, ← eV] at B2
        refine opEnd kq B2.at_ nx ?_ ?_
        · unfold ansL
          rw [e1]
          rfl
        · unfold stepS
          rw [e1]
          rfl
theorem ok_emptyBin (T : Txt K mg A) {Tb : Addr} : FnOk P w K mg base CX0 2 A.m_emptyBin.f A.m_emptyBin.fd ["self", "i"] (spEmptyBin A Tb) := by
  refine T.emptyBin.F.ok c_emptyBin (fun vs H Q E h => ?_) (fun cdv Ar outer s H vs Q E hr h => ?_)
  · obtain ⟨H0, p, s, i, rfl, _⟩ := h
    rfl
  · obtain ⟨H0, p, s, i, rfl, BA, kq⟩ := h
    obtain ⟨dx, l, q, as, B⟩ := id BA
    refine ⟨_, pss_cons (ps_if (pt_not (pt_val (pe_meth (pv 0) T.clK T.hasBin.m (ok_hasBin T (Tb := Tb)) hr T.hasBin.b .nil pass0 (pa_cons (pv 1) pa_nil)))) (pss_one (ps_ret (pe_lst (pa_cons (pe_glob rfl T.g_NO_SUCH_BIN relI) pa_nil)))) pss_nil)
      (pss_cons (ps_set (i := 2) c_emptyBin.nd rfl (Or.inl rfl) (pe_fld (pe_ix ix_list (pe_fld (pv 0) rfl) (pv 1) (fun _ _ => rfl)) rfl))
      (pss_cons (ps_fld (pe_ix ix_list (pe_fld (pv 0) rfl) (pv 1) (fun _ _ => rfl)) pe_int rfl)
      (pss_one (ps_ret (pe_lst (pa_cons (pv 2) pa_nil)))))), ?_⟩
    refine ⟨_, rfl, p, dx, _, rfl, B.hp, rfl, _, rfl, H0, p, s, i, rfl, BA, Sr96.isBin s i, rfl, ?_⟩
    cases hb : Sr96.isBin s i with
    | false => exact iteT ⟨(by show 1 ≤ sizeLine; decide), fun x nx => opErr kq BA nx (if_pos hb)⟩
    | true =>
      obtain ⟨j, a, d, b, rfl, ej, ha, hbj, hd, hr', hm⟩ := isBin_at B hb
      have hn : ¬ (Sr96.isBin s ((j : Nat) : Int) = false) := by rw [hb]; simp
      have ebin : Sr96.binAt s ((j : Nat) : Int).toNat = b := by rw [ej]; exact binAt_of hbj
      refine iteF ⟨_, rfl, p, _, dx, _, _, rfl, B.hp, T.clK, T.nK_bins, rfl, _, rfl, l, _, _, _, rfl, rfl, SqL.of B.hl, atI_nat hr', a, _, d, _, _, rfl, hd, T.clB, T.nB_kilograms, rfl, ?_⟩
      refine ⟨_, rfl, p, _, dx, _, _, rfl, B.hp, T.clK, T.nK_bins, rfl, _, rfl, l, _, _, _, rfl, rfl, SqL.of B.hl, atI_nat hr', a, _, d, _, rfl, hd, T.clB, T.nB_kilograms, (by show 4 < 1000; decide), ?_⟩
      have gB := B.gb.all b hm
      refine ⟨_, rfl, (by show 1 ≤ sizeLine; decide), fun x nx => ?_⟩
      have e1 : Sr96.perform s (.emptyBin ((j : Nat) : Int)) = (some (Sr96.withBin s j { b with kilograms := 0 }), Sr96.countResult b.kilograms) := by
        refine (if_neg hn).trans ?_
        rw [ebin, ej]
      have B2 := B.setBin (b' := { b with kilograms := 0 }) ha hd ⟨Nat.zero_le _, gB.strength, gB.ash, gB.price⟩
      rw [← putB_kg] at B2
      refine opEnd kq B2.at_ nx ?_ ?_
      · unfold ansL
        rw [e1]
        rfl
      · unfold stepS
        rw [e1]
        rfl
theorem ok_setReq (T : Txt K mg A) {Tb : Addr} : FnOk P w K mg base CX0 3 A.m_setReq.f A.m_setReq.fd ["self", "n", "min_strength", "max_strength", "max_ash"] (spSetReq A Tb) := by
  refine T.setReq.F.ok c_setReq (fun vs H Q E h => ?_) (fun cdv Ar outer s H vs Q E hr h => ?_)
  · obtain ⟨H0, p, s, n, lo, hi, m, rfl, _⟩ := h
    rfl
  · obtain ⟨H0, p, s, n, lo, hi, m, rfl, BA, kq⟩ := h
    obtain ⟨dx, l, q, as, B⟩ := id BA
    have hr1 : Room 1 _ := hr.mono (by decide)
    refine ⟨_, pss_cons (ps_if (pt_not (pt_val (pe_call (ok_iw T) hr1 rfl T.iw.g T.iw.k T.iw.b .nil pass0 (pa_cons (pv 1) pa_nil)))) (pss_one (ps_ret (pe_lst (pa_cons (pe_glob rfl T.g_OUT_OF_RANGE relI) pa_nil)))) pss_nil)
      (pss_cons (ps_if (pt_not (PW.pt (pw_and (pt_chain3 op_le op_le op_le pe_int (pv 2) (pv 3) (pe_glob rfl T.g_MOST_STRENGTH relI)) (pw_and1 (pt_val (pe_call (ok_ih T) hr1 rfl T.ih.g T.ih.k T.ih.b .nil pass0 (pa_cons (pv 4) pa_nil))))))) (pss_one (ps_ret (pe_lst (pa_cons (pe_glob rfl T.g_OUT_OF_RANGE relI) pa_nil)))) pss_nil)
      (pss_cons (ps_fld (pv 0) (pe_make T.Qi.M (ok_Qi T) hr (by rfl) T.mgQ T.Qi.b .nil pass0 (pa_cons (pv 1) (pa_cons (pv 2) (pa_cons (pv 3) (pa_cons (pv 4) pa_nil))))) rfl)
      (pss_one (ps_ret (pe_lst (pa_cons pe_int pa_nil)))))), ?_⟩
    refine ⟨_, rfl, n, rfl, SrCommon.inRange n 1 30, rfl, ?_⟩
    cases h1 : SrCommon.inRange n 1 30 with
    | false => exact iteT ⟨(by show 1 ≤ sizeLine; decide), fun x nx => opErr kq BA nx (if_pos (.inl h1))⟩
    | true =>
      refine iteF ⟨_, rfl, _, _, rfl, rfl, decide (0 ≤ lo), rfl, ?_⟩
      have bad : (lo < 0 ∨ hi < lo ∨ 999 < hi ∨ SrCommon.inRange m 0 999 = false) → Sr96.perform s (.setRequest n lo hi m) = Sr96.error SrCommon.invalidArgument := fun z => if_pos (.inr z)
      by_cases c1 : 0 ≤ lo
      · rw [decide_eq_true c1]
        refine iteT ⟨_, rfl, _, _, rfl, rfl, decide (lo ≤ hi), rfl, ?_⟩
        by_cases c2 : lo ≤ hi
        · rw [decide_eq_true c2]
          refine iteT ⟨_, _, rfl, rfl, decide (hi ≤ 999), rfl, ?_⟩
          by_cases c3 : hi ≤ 999
          · rw [decide_eq_true c3]
            refine iteT ⟨_, rfl, m, rfl, SrCommon.inRange m 0 999, rfl, ?_⟩
            cases h4 : SrCommon.inRange m 0 999 with
            | false => exact iteT ⟨(by show 1 ≤ sizeLine; decide), fun x nx => opErr kq BA nx (bad (.inr (.inr (.inr h4))))⟩
            | true =>
              refine iteF ⟨_, rfl, _, rfl, _, rfl, _, rfl, ?_⟩
              intro x d nx nd ne
              have s3 : Same H (upd (upd (upd H d (.own x)) x (.ins A.cQ d [])) x (.ins A.cQ d (reqI n lo hi m))) := same_put0 (same_put0 (same_upd (Same.refl _) nd) nx) nx
              have hx : upd (upd (upd H d (.own x)) x (.ins A.cQ d [])) x (.ins A.cQ d (reqI n lo hi m)) x = some (.ins A.cQ d (reqI n lo hi m)) := upd_same
              refine ⟨x, d, n, lo, hi, m, rfl, upd_same, rfl, ?_⟩
              generalize upd (upd (upd H d (.own x)) x (.ins A.cQ d [])) x (.ins A.cQ d (reqI n lo hi m)) = H3 at s3 hx
              have B3 := B.same s3
              have r1 := inR h1
              have r4 := inR h4
              have eb : reqI n lo hi m = reqF ⟨n.toNat, lo.toNat, hi.toNat, m.toNat⟩ := by
                show reqI n lo hi m = reqI ((n.toNat : Nat) : Int) ((lo.toNat : Nat) : Int) ((hi.toNat : Nat) : Int) ((m.toNat : Nat) : Int)
                rw [Int.toNat_of_nonneg (by omega : 0 ≤ n), Int.toNat_of_nonneg c1, Int.toNat_of_nonneg (by omega : 0 ≤ hi), Int.toNat_of_nonneg r4.1]
              rw [eb] at hx
              have B4 := B3.setReq hx (B.fresh nx) ⟨by show n.toNat ≤ 30; omega, by show lo.toNat ≤ 999; omega, by show hi.toNat ≤ 999; omega, by show m.toNat ≤ 999; omega⟩
              refine ⟨_, rfl, p, _, dx, _, rfl, B3.hp, T.clK, T.nK_request, (by show 3 < 1000; decide), (by show 1 ≤ sizeLine; decide), fun y ny => ?_⟩
              have e1 : Sr96.perform s (.setRequest n lo hi m) = (some { s with request := ⟨n.toNat, lo.toNat, hi.toNat, m.toNat⟩ }, .ofCode 0) := by
                refine if_neg fun z => ?_
                rcases z with z | z | z | z | z
                · have z' : SrCommon.inRange n 1 30 = false := z
                  rw [h1] at z'
                  cases z'
                · omega
                · omega
                · omega
                · rw [h4] at z
                  cases z
              rw [← putK_req] at B4
              refine opEnd kq B4.at_ ny ?_ ?_
              · unfold ansL
                rw [e1]
                rfl
              · unfold stepS
                rw [e1]
                rfl
          · rw [decide_eq_false c3]
            exact iteF (iteT ⟨(by show 1 ≤ sizeLine; decide), fun x nx => opErr kq BA nx (bad (.inr (.inr (.inl (by omega)))))⟩)
        · rw [decide_eq_false c2]
          exact iteF (iteF (iteT ⟨(by show 1 ≤ sizeLine; decide), fun x nx => opErr kq BA nx (bad (.inr (.inl (by omega))))⟩))
      · rw [decide_eq_false c1]
        exact iteF (iteF (iteT ⟨(by show 1 ≤ sizeLine; decide), fun x nx => opErr kq BA nx (bad (.inl (by omega)))⟩))
end
end FB

/-! ## FBK -/
set_option maxRecDepth 100000
set_option maxHeartbeats 2000000
/-! the operations that find a blend. -/
namespace FB
open PySem PySem.Spec PyProof.Rows L2 LamX
/-- what the making of the lambda needs -/
structure LamH (K : PySem.W.Frag) (mg : Str → Option Value) (base : Heap) (c T : Addr) : Prop where
  KB : K.In base
  GB : base.Ns mainGlobals mg
  ht : PySem.W.tabIn K "find_cheapest" = some (c, T)
  TB : TabB base mg c T
/-- cost and blend, or that there is none -/
def cheapAns (bs : List Sr96.Bin) (r : Sr96.Request) : List Int := match cheapL bs r with
  | none => [-33]
  | some x => ((Sr96.total Sr96.Bin.price bs x : Nat) : Int) :: SrCommon.natsToInts x
theorem cheap_is (s : Sr96.Store) (r : Sr96.Request) : Sr96.cheapestBlend s r = cheapL s.bins r := by
  unfold Sr96.cheapestBlend cheapL
  rw [← valid_is]
  rfl
theorem cheap_ans (s : Sr96.Store) : (Sr96.blendResult s (Sr96.cheapestBlend s s.request)).code :: (Sr96.blendResult s (Sr96.cheapestBlend s s.request)).values = cheapAns s.bins s.request := by
  rw [cheap_is]
  unfold cheapAns
  cases cheapL s.bins s.request <;> rfl
theorem cheap_mem {bs : List Sr96.Bin} {r : Sr96.Request} {x : Sr96.Blend} (h : cheapL bs r = some x) : Av (kgs bs) x ∧ SrCommon.sum x = r.kilograms ∧ meets bs r x = true := by
  obtain ⟨h1, _⟩ := minBy_some h
  obtain ⟨h2, h3⟩ := List.mem_filter.mp h1
  obtain ⟨h4, h5⟩ := (mem_bf _ _ _).mp h2
  exact ⟨h4, h5, h3⟩
theorem natV_ints (x : List Nat) : natV x = (SrCommon.natsToInts x).map V.int := natV_int x
def spFrom (A : Ads) (T : Addr) : Sp := fun vs H Q _ => ∃ (H0 : Hp) (p : Addr) (s : Sr96.Store) (l : Addr) (bs : List Sr96.Bin), vs = [.ref p, .ref l] ∧ BakAt A T H0 H p s ∧ BinL A.cB H l bs ∧ GoodBs bs ∧
  ∀ a H', H0 a = none → BakAt A T (upd H0 a (.lst ((cheapAns bs s.request).map V.int))) H' p s → Q (.ref a) H'
def spWith (A : Ads) (T : Addr) : Sp := fun vs H Q _ => ∃ (H0 : Hp) (p : Addr) (s : Sr96.Store) (i : Nat) (o : Addr) (b : Sr96.Bin), vs = [.ref p, nV i, .ref o] ∧ BakAt A T H0 H p s ∧ BinAt A.cB H o b ∧ GoodB b ∧ i < s.bins.length ∧
  ∀ a H', H0 a = none → BakAt A T (upd H0 a (.lst ((cheapAns (s.bins.set i b) s.request).map V.int))) H' p s → Q (.ref a) H'
/-- an operation without arguments -/
def spOp0 (A : Ads) (T : Addr) (c : Sr96.Call) : Sp := fun vs H Q _ => ∃ (H0 : Hp) (p : Addr) (s : Sr96.Store), vs = [.ref p] ∧ BakAt A T H0 H p s ∧ OpEnd A T H0 p s c Q
def spIfPrice (A : Ads) (T : Addr) : Sp := fun vs H Q _ => ∃ (H0 : Hp) (p : Addr) (s : Sr96.Store) (i k : Int), vs = [.ref p, .int i, .int k] ∧ BakAt A T H0 H p s ∧ OpEnd A T H0 p s (.cheapestIfPrice i k) Q
def spWithout (A : Ads) (T : Addr) : Sp := fun vs H Q _ => ∃ (H0 : Hp) (p : Addr) (s : Sr96.Store) (i : Int), vs = [.ref p, .int i] ∧ BakAt A T H0 H p s ∧ OpEnd A T H0 p s (.cheapestWithout i) Q
section
variable {P : Program} {w : World} {K : PySem.W.Frag} {mg : Str → Option Value} {base : Heap} {A : Ads} {c Tb : Addr}
theorem ok_from (T : Txt K mg A) (L : LamH K mg base c Tb) : FnOk P w K mg base CX0 9 A.m_from_.f A.m_from_.fd ["self", "bins"] (spFrom A Tb) := by
  refine T.from_.F.ok c_from_ (fun vs H Q E h => ?_) (fun cdv Ar outer s H vs Q E hr h => ?_)
  · obtain ⟨H0, p, s, l, bs, rfl, _⟩ := h
    rfl
  · obtain ⟨H0, p, s, l', bs, rfl, ⟨dx, l, q, as, B⟩, hb, gb, k⟩ := h
    refine ⟨_, pss_cons (ps_set (i := 2) c_from_.nd rfl (Or.inl rfl) (pe_call (ok_fc T L.KB L.GB L.ht L.TB) hr rfl T.fc.g T.fc.k T.fc.b .nil pass0 (pa_cons (pv 1) (pa_cons (pe_fld (pv 0) rfl) pa_nil))))
      (pss_cons (ps_if (pt_cmpR op_isN (pv 2) pe_non (nomark _)) (pss_one (ps_ret (pe_lst (pa_cons (pe_glob rfl T.g_NOT_VALID relI) pa_nil)))) pss_nil)
      (pss_one (ps_ret (pe_op op_cat (pe_lst (pa_cons (pe_call (ok_co T) (hr.mono (by decide)) rfl T.co.g T.co.k T.co.b .nil pass0 (pa_cons (pv 1) (pa_cons (pv 2) pa_nil))) pa_nil)) (pv 2))))), ?_⟩
    refine ⟨_, rfl, _, rfl, p, _, dx, _, _, rfl, B.hp, T.clK, T.nK_request, rfl, l', q, bs, s.request, rfl, hb, B.req, gb, B.gr, B.tab, fun H1 v e1 t1 o => ?_⟩
    have B1 := B.step e1 t1
    have hb1 := hb.ext e1
    unfold cheapAns at k
    cases hc : cheapL bs s.request with
    | none =>
      rw [hc] at o k
      have ev : v = .non := o
      subst ev
      refine ⟨_, rfl, rfl, true, rfl, iteT ⟨(by show 1 ≤ sizeLine; decide), fun x nx => ?_⟩⟩
      obtain ⟨h1, h2⟩ := B1.answer (xs := [V.int (-33)]) nx
      exact k x _ h1 h2
    | some xl =>
      rw [hc] at o k
      obtain ⟨a, rfl, ha⟩ := o
      obtain ⟨m1, _, _⟩ := cheap_mem hc
      have hlen : xl.length ≤ 4 := by
        rw [m1.len, List.length_map]
        exact gb.len
      refine ⟨_, rfl, rfl, false, rfl, iteF ⟨_, rfl, _, rfl, l', a, bs, xl, rfl, hb1, ha, gb, fun H2 s2 => ⟨(by show 1 ≤ sizeLine; decide), fun p1 n1 => ?_⟩⟩⟩
      have s3 : Same H1 (upd H2 p1 (.lst [nV (Sr96.total Sr96.Bin.price bs xl)])) := same_upd s2 n1
      refine ⟨_, rfl, p1, a, _, natV xl, rfl, rfl, upd_same, ha.same s3, ?_, fun p2 n2 => ?_⟩
      · rw [natV_len]
        exact size_small (by show 1 + xl.length ≤ 16777216; omega)
      · obtain ⟨h1, h2⟩ := (B1.same s3).answer (xs := [nV (Sr96.total Sr96.Bin.price bs xl)] ++ natV xl) n2
        refine k p2 _ h1 ?_
        rw [natV_ints] at h2 ⊢
        exact h2
theorem ok_with (T : Txt K mg A) (L : LamH K mg base c Tb) : FnOk P w K mg base CX0 10 A.m_with_.f A.m_with_.fd ["self", "i", "other"] (spWith A Tb) := by
  refine T.with_.F.ok c_with_ (fun vs H Q E h => ?_) (fun cdv Ar outer s H vs Q E hr h => ?_)
  · obtain ⟨H0, p, s, i, o, b, rfl, _⟩ := h
    rfl
  · obtain ⟨H0, p, s, i, o, b, rfl, ⟨dx, l, q, as, B⟩, ⟨d, ho⟩, gB, hi, k⟩ := h
    refine ⟨_, pss_cons (ps_set (i := 3) c_with_.nd rfl (Or.inl rfl) (pe_callTy call_list_of (by rfl) T.b_list (by decide +kernel) (pa_cons (pe_fld (pv 0) rfl) pa_nil)))
      (pss_cons (ps_asg (pv 2) (pg_sub (pv 3) (pv 1) set_list))
      (pss_one (ps_ret (pe_meth (pv 0) T.clK T.from_.m (ok_from T L) hr T.from_.b .nil pass0 (pa_cons (pv 3) pa_nil))))), ?_⟩
    refine ⟨_, rfl, p, _, dx, _, _, rfl, B.hp, T.clK, T.nK_bins, rfl, l, _, rfl, .inl (SqL.of B.hl), fun D nD => ?_⟩
    have hlen : (refV as).length = s.bins.length := by rw [refV_len, B.bins.len]
    refine ⟨_, rfl, _, rfl, _, rfl, D, _, _, i, rfl, rfl, upd_same, ?_, ?_⟩
    · rw [hlen]
      show (if 0 ≤ (i : Int) then (if (i : Int) < (s.bins.length : Int) then some (i : Int).toNat else none) else _) = some i
      rw [if_pos (by omega), if_pos (by omega), Int.toNat_natCast]
    · rw [upd_upd]
      have s1 : Same H (upd H D (.lst ((refV as).set i (.ref o)))) := same_upd (Same.refl _) nD
      have B1 := B.same s1
      have hD : BinL A.cB (upd H D (.lst ((refV as).set i (.ref o)))) D (s.bins.set i b) := by
        refine ⟨as.set i o, ?_, ?_⟩
        · rw [upd_same]
          unfold refV
          rw [List.map_set]
        · exact B1.bins.set ⟨d, s1 _ _ ho⟩ i
      have gb : GoodBs (s.bins.set i b) := ⟨by rw [List.length_set]; exact B.gb.len, fun y hy => by
        rcases List.mem_or_eq_of_mem_set hy with z | z
        · exact B.gb.all y z
        · rw [z]
          exact gB⟩
      exact ⟨_, rfl, p, dx, _, rfl, B1.hp, rfl, _, rfl, H0, p, s, D, _, rfl, B1.at_, hD, gb, k⟩
theorem ok_cheap (T : Txt K mg A) (L : LamH K mg base c Tb) : FnOk P w K mg base CX0 10 A.m_cheap.f A.m_cheap.fd ["self"] (spOp0 A Tb .cheapestBlend) := by
  refine T.cheap.F.ok c_cheap (fun vs H Q E h => ?_) (fun cdv Ar outer s H vs Q E hr h => ?_)
  · obtain ⟨H0, p, s, rfl, _⟩ := h
    rfl
  · obtain ⟨H0, p, s, rfl, BA, kq⟩ := h
    obtain ⟨dx, l, q, as, B⟩ := id BA
    refine ⟨_, pss_one (ps_ret (pe_meth (pv 0) T.clK T.from_.m (ok_from T L) hr T.from_.b .nil pass0 (pa_cons (pe_fld (pv 0) rfl) pa_nil))), ?_⟩
    refine ⟨_, rfl, p, dx, _, rfl, B.hp, rfl, _, rfl, p, _, dx, _, _, rfl, B.hp, T.clK, T.nK_bins, rfl, H0, p, s, l, s.bins, rfl, BA, B.binL, B.gb, fun a H' h1 h2 => kq a H' h1 ?_⟩
    have e : ansL s .cheapestBlend = cheapAns s.bins s.request := cheap_ans s
    rw [e]
    exact h2
theorem ok_mkCheap (T : Txt K mg A) (L : LamH K mg base c Tb) : FnOk P w K mg base CX0 9 A.m_mkCheap.f A.m_mkCheap.fd ["self"] (spOp0 A Tb .makeCheapestBlend) := by
  refine T.mkCheap.F.ok c_mkCheap (fun vs H Q E h => ?_) (fun cdv Ar outer s H vs Q E hr h => ?_)
  · obtain ⟨H0, p, s, rfl, _⟩ := h
    rfl
  · obtain ⟨H0, p, s, rfl, BA, kq⟩ := h
    obtain ⟨dx, l, q, as, B⟩ := id BA
    refine ⟨_, pss_cons (ps_set (i := 1) c_mkCheap.nd rfl (Or.inl rfl) (pe_call (ok_fc T L.KB L.GB L.ht L.TB) hr rfl T.fc.g T.fc.k T.fc.b .nil pass0 (pa_cons (pe_fld (pv 0) rfl) (pa_cons (pe_fld (pv 0) rfl) pa_nil))))
      (pss_cons (ps_if (pt_cmpR op_isN (pv 1) pe_non (nomark _)) (pss_one (ps_ret (pe_lst (pa_cons (pe_glob rfl T.g_NOT_VALID relI) pa_nil)))) pss_nil)
      (pss_one (ps_ret (pe_op op_cat (pe_lst (pa_cons (pe_meth (pv 0) T.clK T.take.m (ok_take T (Tb := Tb)) (hr.mono (by decide)) T.take.b .nil pass0 (pa_cons (pv 1) pa_nil)) pa_nil)) (pv 1))))), ?_⟩
    refine ⟨_, rfl, p, _, dx, _, _, rfl, B.hp, T.clK, T.nK_bins, rfl, _, rfl, p, _, dx, _, _, rfl, B.hp, T.clK, T.nK_request, rfl, l, q, s.bins, s.request, rfl, B.binL, B.req, B.gb, B.gr, B.tab, fun H1 v e1 t1 o => ?_⟩
    have B1 := B.step e1 t1
    cases hc : cheapL s.bins s.request with
    | none =>
      rw [hc] at o
      have ev : v = .non := o
      subst ev
      refine ⟨_, rfl, rfl, true, rfl, iteT ⟨(by show 1 ≤ sizeLine; decide), fun x nx => opErr kq B1.at_ nx ?_⟩⟩
      show (match Sr96.cheapestBlend s s.request with | none => Sr96.error SrCommon.noSolution | some x => _) = _
      rw [cheap_is, hc]
      rfl
    | some xl =>
      rw [hc] at o
      obtain ⟨a, rfl, ha⟩ := o
      obtain ⟨m1, _, _⟩ := cheap_mem hc
      have hlen : xl.length ≤ 4 := by
        rw [m1.len, List.length_map]
        exact B.gb.len
      have ep : Sr96.perform s .makeCheapestBlend = (some (Sr96.takeBlend s xl), Sr96.blendResult s (some xl)) := by
        show (match Sr96.cheapestBlend s s.request with | none => Sr96.error SrCommon.noSolution | some x => (some (Sr96.takeBlend s x), Sr96.blendResult s (some x))) = _
        rw [cheap_is, hc]
      refine ⟨_, rfl, rfl, false, rfl, iteF ⟨_, rfl, p, dx, _, rfl, B1.hp, rfl, _, rfl, H0, p, s, a, xl, rfl, B1.at_, ha, m1, fun H2 B2 hx2 => ⟨(by show 1 ≤ sizeLine; decide), fun p1 n1 => ?_⟩⟩⟩
      have s3 : Same H2 (upd H2 p1 (.lst [nV (Sr96.cost s xl)])) := same_upd (Same.refl _) n1
      refine ⟨_, rfl, p1, a, _, natV xl, rfl, rfl, upd_same, hx2.same s3, ?_, fun p2 n2 => ?_⟩
      · rw [natV_len]
        exact size_small (by show 1 + xl.length ≤ 16777216; omega)
      · refine opEnd kq (B2.same s3) n2 ?_ ?_
        · unfold ansL
          rw [ep, natV_ints]
          rfl
        · unfold stepS
          rw [ep]
          rfl
theorem ok_ifPrice (T : Txt K mg A) (L : LamH K mg base c Tb) : FnOk P w K mg base CX0 11 A.m_ifPrice.f A.m_ifPrice.fd ["self", "i", "price"] (spIfPrice A Tb) := by
  refine T.ifPrice.F.ok c_ifPrice (fun vs H Q E h => ?_) (fun cdv Ar outer s H vs Q E hr h => ?_)
  · obtain ⟨H0, p, s, i, k, rfl, _⟩ := h
    rfl
  · obtain ⟨H0, p, s, i, k, rfl, BA, kq⟩ := h
    obtain ⟨dx, l, q, as, B⟩ := id BA
    have hr1 : Room 1 _ := hr.mono (by decide)
    have hr2 : Room 2 _ := hr.mono (by decide)
    refine ⟨_, pss_cons (ps_if (pt_not (pt_val (pe_meth (pv 0) T.clK T.hasBin.m (ok_hasBin T (Tb := Tb)) hr1 T.hasBin.b .nil pass0 (pa_cons (pv 1) pa_nil)))) (pss_one (ps_ret (pe_lst (pa_cons (pe_glob rfl T.g_NO_SUCH_BIN relI) pa_nil)))) pss_nil)
      (pss_cons (ps_if (pt_not (pt_val (pe_call (ok_ip T) hr1 rfl T.ip.g T.ip.k T.ip.b .nil pass0 (pa_cons (pv 2) pa_nil)))) (pss_one (ps_ret (pe_lst (pa_cons (pe_glob rfl T.g_OUT_OF_RANGE relI) pa_nil)))) pss_nil)
      (pss_cons (ps_set (i := 3) c_ifPrice.nd rfl (Or.inl rfl) (pe_ix ix_list (pe_fld (pv 0) rfl) (pv 1) (fun _ _ => rfl)))
      (pss_one (ps_ret (pe_meth (pv 0) T.clK T.with_.m (ok_with T L) hr T.with_.b .nil pass0 (pa_cons (pv 1) (pa_cons (pe_make T.Bi.M (ok_Bi T) hr2 (by rfl) T.mgB T.Bi.b .nil pass0 (pa_cons (pe_fld (pv 3) rfl) (pa_cons (pe_fld (pv 3) rfl) (pa_cons (pe_fld (pv 3) rfl) (pa_cons (pv 2) pa_nil))))) pa_nil))))))), ?_⟩
    refine ⟨_, rfl, p, dx, _, rfl, B.hp, rfl, _, rfl, H0, p, s, i, rfl, BA, Sr96.isBin s i, rfl, ?_⟩
    cases hb : Sr96.isBin s i with
    | false => exact iteT ⟨(by show 1 ≤ sizeLine; decide), fun x nx => opErr kq BA nx (congrArg (Prod.mk none) (if_pos hb))⟩
    | true =>
      obtain ⟨j, a, d, b, rfl, ej, ha, hbj, hd, hr', hm⟩ := isBin_at B hb
      have hn : ¬ (Sr96.isBin s ((j : Nat) : Int) = false) := by rw [hb]; simp
      have ebin : Sr96.binAt s ((j : Nat) : Int).toNat = b := by rw [ej]; exact binAt_of hbj
      refine iteF ⟨_, rfl, k, rfl, SrCommon.inRange k 1 99, rfl, ?_⟩
      cases hp : SrCommon.inRange k 1 99 with
      | false => exact iteT ⟨(by show 1 ≤ sizeLine; decide), fun x nx => opErr kq BA nx (congrArg (Prod.mk none) ((if_neg hn).trans (if_pos hp)))⟩
      | true =>
        have hn2 : ¬ (Sr96.isPrice k = false) := by
          unfold Sr96.isPrice
          rw [hp]
          simp
        have r1 := inR hp
        have gB := B.gb.all b hm
        refine iteF ⟨_, rfl, p, _, dx, _, _, rfl, B.hp, T.clK, T.nK_bins, rfl, _, rfl, l, _, _, _, rfl, rfl, SqL.of B.hl, atI_nat hr', ?_⟩
        refine ⟨_, rfl, p, dx, _, rfl, B.hp, rfl, _, rfl, _, rfl, a, _, d, _, _, rfl, hd, T.clB, T.nB_kilograms, rfl, _, rfl, a, _, d, _, _, rfl, hd, T.clB, T.nB_strength, rfl, _, rfl, a, _, d, _, _, rfl, hd, T.clB, T.nB_ash, rfl, _, rfl, ?_⟩
        intro x d2 nx nd ne
        have s3 : Same H (upd (upd (upd H d2 (.own x)) x (.ins A.cB d2 [])) x (.ins A.cB d2 (binI b.kilograms b.strength b.ash k))) := same_put0 (same_put0 (same_upd (Same.refl _) nd) nx) nx
        have hx : upd (upd (upd H d2 (.own x)) x (.ins A.cB d2 [])) x (.ins A.cB d2 (binI b.kilograms b.strength b.ash k)) x = some (.ins A.cB d2 (binI b.kilograms b.strength b.ash k)) := upd_same
        refine ⟨x, d2, _, _, _, _, rfl, upd_same, rfl, ?_⟩
        generalize upd (upd (upd H d2 (.own x)) x (.ins A.cB d2 [])) x (.ins A.cB d2 (binI b.kilograms b.strength b.ash k)) = H3 at s3 hx
        have eb : binI b.kilograms b.strength b.ash k = binF { b with price := k.toNat } := by
          show binI _ _ _ k = binI _ _ _ ((k.toNat : Nat) : Int)
          rw [Int.toNat_of_nonneg (by omega : 0 ≤ k)]
        rw [eb] at hx
        refine ⟨H0, p, s, j, x, { b with price := k.toNat }, rfl, BA.same s3, ⟨d2, hx⟩, ⟨gB.kilograms, gB.strength, gB.ash, by show k.toNat ≤ 99; omega⟩, (List.getElem?_eq_some_iff.mp hbj).1, fun y H' h1 h2 => kq y H' h1 ?_⟩
        have ep : Sr96.perform s (.cheapestIfPrice ((j : Nat) : Int) k) = (none, Sr96.blendResult (Sr96.withBin s j { b with price := k.toNat }) (Sr96.cheapestBlend (Sr96.withBin s j { b with price := k.toNat }) (Sr96.withBin s j { b with price := k.toNat }).request)) := by
          refine congrArg (Prod.mk none) ((if_neg hn).trans ((if_neg hn2).trans ?_))
          rw [ebin, ej]
        have e1 : ansL s (.cheapestIfPrice ((j : Nat) : Int) k) = cheapAns (s.bins.set j { b with price := k.toNat }) s.request := by
          unfold ansL
          rw [ep]
          exact cheap_ans (Sr96.withBin s j { b with price := k.toNat })
        have e2 : stepS s (.cheapestIfPrice ((j : Nat) : Int) k) = s := by
          unfold stepS
          rw [ep]
          rfl
        rw [e1, e2]
        exact h2
theorem ok_without (T : Txt K mg A) (L : LamH K mg base c Tb) : FnOk P w K mg base CX0 11 A.m_without.f A.m_without.fd ["self", "i"] (spWithout A Tb) := by
  refine T.without.F.ok c_without (fun vs H Q E h => ?_) (fun cdv Ar outer s H vs Q E hr h => ?_)
  · obtain ⟨H0, p, s, i, rfl, _⟩ := h
    rfl
  · obtain ⟨H0, p, s, i, rfl, BA, kq⟩ := h
    obtain ⟨dx, l, q, as, B⟩ := id BA
    have hr1 : Room 1 _ := hr.mono (by decide)
    have hr2 : Room 2 _ := hr.mono (by decide)
    refine ⟨_, pss_cons (ps_if (pt_not (pt_val (pe_meth (pv 0) T.clK T.hasBin.m (ok_hasBin T (Tb := Tb)) hr1 T.hasBin.b .nil pass0 (pa_cons (pv 1) pa_nil)))) (pss_one (ps_ret (pe_lst (pa_cons (pe_glob rfl T.g_NO_SUCH_BIN relI) pa_nil)))) pss_nil)
      (pss_cons (ps_set (i := 2) c_without.nd rfl (Or.inl rfl) (pe_ix ix_list (pe_fld (pv 0) rfl) (pv 1) (fun _ _ => rfl)))
      (pss_one (ps_ret (pe_meth (pv 0) T.clK T.with_.m (ok_with T L) hr T.with_.b .nil pass0 (pa_cons (pv 1) (pa_cons (pe_make T.Bi.M (ok_Bi T) hr2 (by rfl) T.mgB T.Bi.b .nil pass0 (pa_cons pe_int (pa_cons (pe_fld (pv 2) rfl) (pa_cons (pe_fld (pv 2) rfl) (pa_cons (pe_fld (pv 2) rfl) pa_nil))))) pa_nil)))))), ?_⟩
    refine ⟨_, rfl, p, dx, _, rfl, B.hp, rfl, _, rfl, H0, p, s, i, rfl, BA, Sr96.isBin s i, rfl, ?_⟩
    cases hb : Sr96.isBin s i with
    | false => exact iteT ⟨(by show 1 ≤ sizeLine; decide), fun x nx => opErr kq BA nx (congrArg (Prod.mk none) (if_pos hb))⟩
    | true =>
      obtain ⟨j, a, d, b, rfl, ej, ha, hbj, hd, hr', hm⟩ := isBin_at B hb
      have hn : ¬ (Sr96.isBin s ((j : Nat) : Int) = false) := by rw [hb]; simp
      have ebin : Sr96.binAt s ((j : Nat) : Int).toNat = b := by rw [ej]; exact binAt_of hbj
      have gB := B.gb.all b hm
      refine iteF ⟨_, rfl, p, _, dx, _, _, rfl, B.hp, T.clK, T.nK_bins, rfl, _, rfl, l, _, _, _, rfl, rfl, SqL.of B.hl, atI_nat hr', ?_⟩
      refine ⟨_, rfl, p, dx, _, rfl, B.hp, rfl, _, rfl, _, rfl, a, _, d, _, _, rfl, hd, T.clB, T.nB_strength, rfl, _, rfl, a, _, d, _, _, rfl, hd, T.clB, T.nB_ash, rfl, _, rfl, a, _, d, _, _, rfl, hd, T.clB, T.nB_price, rfl, ?_⟩
      intro x d2 nx nd ne
      have s3 : Same H (upd (upd (upd H d2 (.own x)) x (.ins A.cB d2 [])) x (.ins A.cB d2 (binI 0 b.strength b.ash b.price))) := same_put0 (same_put0 (same_upd (Same.refl _) nd) nx) nx
      have hx : upd (upd (upd H d2 (.own x)) x (.ins A.cB d2 [])) x (.ins A.cB d2 (binI 0 b.strength b.ash b.price)) x = some (.ins A.cB d2 (binF { b with kilograms := 0 })) := upd_same
      refine ⟨x, d2, _, _, _, _, rfl, upd_same, rfl, ?_⟩
      generalize upd (upd (upd H d2 (.own x)) x (.ins A.cB d2 [])) x (.ins A.cB d2 (binI 0 b.strength b.ash b.price)) = H3 at s3 hx
      refine ⟨H0, p, s, j, x, { b with kilograms := 0 }, rfl, BA.same s3, ⟨d2, hx⟩, ⟨Nat.zero_le _, gB.strength, gB.ash, gB.price⟩, (List.getElem?_eq_some_iff.mp hbj).1, fun y H' h1 h2 => kq y H' h1 ?_⟩
      have ep : Sr96.perform s (.cheapestWithout ((j : Nat) : Int)) = (none, Sr96.blendResult (Sr96.withBin s j { b with kilograms := 0 }) (Sr96.cheapestBlend (Sr96.withBin s j { b with kilograms := 0 }) (Sr96.withBin s j { b with kilograms := 0 }).request)) := by
        refine congrArg (Prod.mk none) ((if_neg hn).trans ?_)
        rw [ebin, ej]
      have e1 : ansL s (.cheapestWithout ((j : Nat) : Int)) = cheapAns (s.bins.set j { b with kilograms := 0 }) s.request := by
        unfold ansL
        rw [ep]
        exact cheap_ans (Sr96.withBin s j { b with kilograms := 0 })
      have e2 : stepS s (.cheapestWithout ((j : Nat) : Int)) = s := by
        unfold stepS
        rw [ep]
        rfl
      rw [e1, e2]
      exact h2
end
end FB

/-! ## FBL -/
set_option maxRecDepth 100000
set_option maxHeartbeats 2000000
/-! the operations that look at a given blend, and those that tell. -/
namespace FB
open PySem PySem.Spec PyProof.Rows L2 LamX
def spMkBlend (A : Ads) (T : Addr) : Sp := fun vs H Q _ => ∃ (H0 : Hp) (p : Addr) (s : Sr96.Store) (x : Addr) (row : List Int), vs = [.ref p, .ref x] ∧ BakAt A T H0 H p s ∧ H0 x = some (.lst (row.map V.int)) ∧ row.length ≤ 70 ∧ OpEnd A T H0 p s (.makeBlend row) Q
def spCheck (A : Ads) (T : Addr) : Sp := fun vs H Q _ => ∃ (H0 : Hp) (p : Addr) (s : Sr96.Store) (x : Addr) (row : List Int), vs = [.ref p, .ref x] ∧ BakAt A T H0 H p s ∧ H0 x = some (.lst (row.map V.int)) ∧ row.length ≤ 70 ∧ OpEnd A T H0 p s (.checkBlend row) Q
def spExtr (A : Ads) (T : Addr) : Sp := fun vs H Q _ => ∃ (H0 : Hp) (p : Addr) (s : Sr96.Store) (n : Int), vs = [.ref p, .int n] ∧ BakAt A T H0 H p s ∧ OpEnd A T H0 p s (.extremeAverages n) Q
theorem isBlend_nat {s : Sr96.Store} {row : List Int} (h : Sr96.isBlend s row = true) : row.map V.int = natV (SrCommon.intsToNats row) ∧ (SrCommon.intsToNats row).length = s.bins.length ∧ ∀ y ∈ SrCommon.intsToNats row, y ≤ 30 := by
  unfold Sr96.isBlend at h
  simp only [Bool.and_eq_true, decide_eq_true_eq, List.all_eq_true] at h
  obtain ⟨h1, h2⟩ := h
  refine ⟨?_, ?_, fun y hy => ?_⟩
  · unfold natV SrCommon.intsToNats
    rw [List.map_map]
    refine List.map_congr_left fun z hz => ?_
    have r := inR (h2 z hz)
    show V.int z = V.int ((z.toNat : Nat) : Int)
    rw [Int.toNat_of_nonneg r.1]
  · unfold SrCommon.intsToNats
    rw [List.length_map]
    exact h1
  · unfold SrCommon.intsToNats at hy
    obtain ⟨z, hz, rfl⟩ := List.mem_map.mp hy
    have r := inR (h2 z hz)
    have r2 : z ≤ 30 := r.2
    omega
theorem sum_le_of : ∀ {l : List Nat}, (∀ y ∈ l, y ≤ 30) → SrCommon.sum l ≤ 30 * l.length
  | [], _ => Nat.zero_le _
  | a :: l, h => by
    rw [sum_cons, List.length_cons]
    have h1 := h a (List.mem_cons_self ..)
    have h2 := sum_le_of (l := l) fun y hy => h y (List.mem_cons_of_mem _ hy)
    omega
section
variable {P : Program} {w : World} {K : PySem.W.Frag} {mg : Str → Option Value} {base : Heap} {A : Ads} {c Tb : Addr}
theorem ok_mkBlend (T : Txt K mg A) {Tb : Addr} : FnOk P w K mg base CX0 4 A.m_mkBlend.f A.m_mkBlend.fd ["self", "blend"] (spMkBlend A Tb) := by
  refine T.mkBlend.F.ok c_mkBlend (fun vs H Q E h => ?_) (fun cdv Ar outer s H vs Q E hr h => ?_)
  · obtain ⟨H0, p, s, x, row, rfl, _⟩ := h
    rfl
  · obtain ⟨H0, p, s, x, row, rfl, BA, hx0, h70, kq⟩ := h
    obtain ⟨dx, l, q, as, B⟩ := id BA
    have hr1 : Room 1 _ := hr.mono (by decide)
    have hr2 : Room 2 _ := hr.mono (by decide)
    have hx : H x = some (.lst (row.map V.int)) := B.ext _ _ hx0
    refine ⟨_, pss_cons (ps_if (pt_not (pt_val (pe_meth (pv 0) T.clK T.hasForm.m (ok_hasForm T (Tb := Tb)) hr2 T.hasForm.b .nil pass0 (pa_cons (pv 1) pa_nil)))) (pss_one (ps_ret (pe_lst (pa_cons (pe_glob rfl T.g_OUT_OF_RANGE relI) pa_nil)))) pss_nil)
      (pss_cons (ps_if (pt_not (pt_val (pe_call (ok_ia T) hr1 rfl T.ia.g T.ia.k T.ia.b .nil pass0 (pa_cons (pe_fld (pv 0) rfl) (pa_cons (pv 1) pa_nil))))) (pss_one (ps_ret (pe_lst (pa_cons (pe_glob rfl T.g_TOO_LITTLE_FLOUR relI) pa_nil)))) pss_nil)
      (pss_cons (ps_if (pt_not (pt_val (pe_call (ok_iv T) hr rfl T.iv.g T.iv.k T.iv.b .nil pass0 (pa_cons (pe_fld (pv 0) rfl) (pa_cons (pe_fld (pv 0) rfl) (pa_cons (pv 1) pa_nil)))))) (pss_one (ps_ret (pe_lst (pa_cons (pe_glob rfl T.g_NOT_VALID relI) pa_nil)))) pss_nil)
      (pss_one (ps_ret (pe_lst (pa_cons (pe_meth (pv 0) T.clK T.take.m (ok_take T (Tb := Tb)) hr2 T.take.b .nil pass0 (pa_cons (pv 1) pa_nil)) pa_nil)))))), ?_⟩
    refine ⟨_, rfl, p, dx, _, rfl, B.hp, rfl, _, rfl, H0, p, s, x, row, rfl, BA, hx, h70, fun H1 s1 => ⟨Sr96.isBlend s row, rfl, ?_⟩⟩
    have B1 := B.same s1
    cases hf : Sr96.isBlend s row with
    | false => exact iteT ⟨(by show 1 ≤ sizeLine; decide), fun y ny => opErr kq B1.at_ ny (if_pos hf)⟩
    | true =>
      have hn : ¬ (Sr96.isBlend s row = false) := by rw [hf]; simp
      obtain ⟨e0, e1, e2⟩ := isBlend_nat hf
      have hx1 : NumL H1 x (SrCommon.intsToNats row) := by
        show H1 x = _
        rw [← e0]
        exact s1 _ _ hx
      refine iteF ⟨_, rfl, p, _, dx, _, _, rfl, B1.hp, T.clK, T.nK_bins, rfl, _, rfl, l, x, s.bins, _, rfl, B1.binL, hx1, B.gb, fun H2 s2 => ?_⟩
      rw [all_zip s.bins _ s rfl e1]
      refine ⟨Sr96.isAvailable s (SrCommon.intsToNats row), rfl, ?_⟩
      have B2 := B1.same s2
      have hx2 := hx1.same s2
      cases ha : Sr96.isAvailable s (SrCommon.intsToNats row) with
      | false => exact iteT ⟨(by show 1 ≤ sizeLine; decide), fun y ny => opErr kq B2.at_ ny ((if_neg hn).trans (if_pos ha))⟩
      | true =>
        have hn2 : ¬ (Sr96.isAvailable s (SrCommon.intsToNats row) = false) := by rw [ha]; simp
        refine iteF ⟨_, rfl, p, _, dx, _, _, rfl, B2.hp, T.clK, T.nK_bins, rfl, _, rfl, p, _, dx, _, _, rfl, B2.hp, T.clK, T.nK_request, rfl, _, rfl, l, q, x, s.bins, s.request, _, rfl, B2.binL, B2.req, hx2, B.gb, B.gr, fun H3 s3 => ?_⟩
        rw [all_zip s.bins _ s rfl e1, ha, Bool.true_and]
        have B3 := B2.same s3
        have hx3 := hx2.same s3
        refine ⟨meets s.bins s.request (SrCommon.intsToNats row), rfl, ?_⟩
        cases hm : meets s.bins s.request (SrCommon.intsToNats row) with
        | false =>
          refine iteT ⟨(by show 1 ≤ sizeLine; decide), fun y ny => opErr kq B3.at_ ny ((if_neg hn).trans ((if_neg hn2).trans (if_pos ?_)))⟩
          rw [meets_is] at hm
          by_cases c1 : SrCommon.sum (SrCommon.intsToNats row) = s.request.kilograms
          · rw [decide_eq_true c1, Bool.true_and] at hm
            exact .inr hm
          · exact .inl c1
        | true =>
          rw [meets_is] at hm
          simp only [Bool.and_eq_true, decide_eq_true_eq] at hm
          have hn3 : ¬ (SrCommon.sum (SrCommon.intsToNats row) ≠ s.request.kilograms ∨ Sr96.isWithinBounds s s.request (SrCommon.intsToNats row) = false) := by
            rw [hm.2]
            simp [hm.1]
          have av := (isAvailable_iff s (SrCommon.intsToNats row)).mp ha
          refine iteF ⟨_, rfl, p, dx, _, rfl, B3.hp, rfl, _, rfl, H0, p, s, x, _, rfl, B3.at_, hx3, av, fun H4 B4 hx4 => ⟨(by show 1 ≤ sizeLine; decide), fun y ny => ?_⟩⟩
          have ep : Sr96.perform s (.makeBlend row) = (some (Sr96.takeBlend s (SrCommon.intsToNats row)), Sr96.countResult (Sr96.cost s (SrCommon.intsToNats row))) := (if_neg hn).trans ((if_neg hn2).trans (if_neg hn3))
          refine opEnd kq B4 ny ?_ ?_
          · unfold ansL
            rw [ep]
            rfl
          · unfold stepS
            rw [ep]
            rfl
theorem ok_count (T : Txt K mg A) {Tb : Addr} : FnOk P w K mg base CX0 8 A.m_count.f A.m_count.fd ["self"] (spOp0 A Tb .countBlends) := by
  refine T.count.F.ok c_count (fun vs H Q E h => ?_) (fun cdv Ar outer s H vs Q E hr h => ?_)
  · obtain ⟨H0, p, s, rfl, _⟩ := h
    rfl
  · obtain ⟨H0, p, s, rfl, BA, kq⟩ := h
    obtain ⟨dx, l, q, as, B⟩ := id BA
    obtain ⟨dq, hq⟩ := B.req
    refine ⟨_, pss_cons (ps_set (i := 1) c_count.nd rfl (Or.inl rfl) (pe_call (ok_ab T) (hr.mono (by decide)) rfl T.ab.g T.ab.k T.ab.b .nil pass0 (pa_cons (pe_fld (pv 0) rfl) (pa_cons (pe_fld (pe_fld (pv 0) rfl) rfl) pa_nil))))
      (pss_one (ps_ret (pe_lst (pa_cons (pe_callB call_len_seq (by rfl) T.b_len PySem.boot_len (pa_cons (pv 1) pa_nil)) (pa_cons (pe_callB call_len_seq (by rfl) T.b_len PySem.boot_len (pa_cons (pe_call (ok_vb T) hr rfl T.vb.g T.vb.k T.vb.b .nil pass0 (pa_cons (pe_fld (pv 0) rfl) (pa_cons (pe_fld (pv 0) rfl) pa_nil))) pa_nil)) pa_nil))))), ?_⟩
    refine ⟨_, rfl, p, _, dx, _, _, rfl, B.hp, T.clK, T.nK_bins, rfl, _, rfl, p, _, dx, _, _, rfl, B.hp, T.clK, T.nK_request, rfl, q, _, dq, _, _, rfl, hq, T.clQ, T.nQ_n, rfl, l, s.bins, s.request.kilograms, rfl, B.binL, B.gb, B.gr.kilograms, fun H1 a s1 ⟨as1, ha, pa⟩ => ?_⟩
    have B1 := B.same s1
    refine ⟨_, rfl, a, _, rfl, .inl (SqL.of ha), _, rfl, p, _, dx, _, _, rfl, B1.hp, T.clK, T.nK_bins, rfl, _, rfl, p, _, dx, _, _, rfl, B1.hp, T.clK, T.nK_request, rfl, l, q, s.bins, s.request, rfl, B1.binL, B1.req, B.gb, B.gr, fun H2 b s2 ⟨as2, hb, pb⟩ => ?_⟩
    refine ⟨b, _, rfl, .inl (SqL.of hb), (by show 2 ≤ sizeLine; decide), fun y ny => opEnd kq (B1.same s2).at_ ny ?_ rfl⟩
    rw [refV_len, refV_len, pa.len, pb.len, valid_is s s.request, ← blends_is s s.request.kilograms]
    rfl
theorem ok_great (T : Txt K mg A) {Tb : Addr} : FnOk P w K mg base CX0 3 A.m_great.f A.m_great.fd ["self"] (spOp0 A Tb .greatestAmount) := by
  refine T.great.F.ok c_great (fun vs H Q E h => ?_) (fun cdv Ar outer s H vs Q E hr h => ?_)
  · obtain ⟨H0, p, s, rfl, _⟩ := h
    rfl
  · obtain ⟨H0, p, s, rfl, BA, kq⟩ := h
    obtain ⟨dx, l, q, as, B⟩ := id BA
    refine ⟨_, pss_one (ps_ret (pe_lst (pa_cons (pe_call (ok_gw T) hr rfl T.gw.g T.gw.k T.gw.b .nil pass0 (pa_cons (pe_fld (pv 0) rfl) (pa_cons (pe_fld (pv 0) rfl) (pa_cons (pe_glob rfl T.g_MOST_KILOGRAMS relI) pa_nil)))) pa_nil))), ?_⟩
    refine ⟨_, rfl, p, _, dx, _, _, rfl, B.hp, T.clK, T.nK_bins, rfl, _, rfl, p, _, dx, _, _, rfl, B.hp, T.clK, T.nK_request, rfl, l, q, s.bins, s.request, s.spent, rfl, B.binL, B.req, B.gb, B.gr, fun H1 m s1 e => ?_⟩
    refine ⟨(by show 1 ≤ sizeLine; decide), fun y ny => opEnd kq (B.same s1).at_ ny ?_ rfl⟩
    rw [e]
    rfl
theorem ok_obst (T : Txt K mg A) {Tb : Addr} : FnOk P w K mg base CX0 8 A.m_obst.f A.m_obst.fd ["self"] (spOp0 A Tb .obstacle) := by
  refine T.obst.F.ok c_obst (fun vs H Q E h => ?_) (fun cdv Ar outer s H vs Q E hr h => ?_)
  · obtain ⟨H0, p, s, rfl, _⟩ := h
    rfl
  · obtain ⟨H0, p, s, rfl, BA, kq⟩ := h
    obtain ⟨dx, l, q, as, B⟩ := id BA
    refine ⟨_, pss_one (ps_ret (pe_lst (pa_cons (pe_call (ok_fo T) hr rfl T.fo.g T.fo.k T.fo.b .nil pass0 (pa_cons (pe_fld (pv 0) rfl) (pa_cons (pe_fld (pv 0) rfl) pa_nil))) pa_nil))), ?_⟩
    refine ⟨_, rfl, p, _, dx, _, _, rfl, B.hp, T.clK, T.nK_bins, rfl, _, rfl, p, _, dx, _, _, rfl, B.hp, T.clK, T.nK_request, rfl, l, q, s.bins, s.request, s.spent, rfl, B.binL, B.req, B.gb, B.gr, fun H1 m s1 e => ?_⟩
    refine ⟨(by show 1 ≤ sizeLine; decide), fun y ny => opEnd kq (B.same s1).at_ ny ?_ rfl⟩
    rw [e]
    rfl
end
end FB

/-! ## FBN -/
set_option maxRecDepth 100000
set_option maxHeartbeats 2000000
/-! the operations that tell, further. -/
namespace FB
open PySem PySem.Spec PyProof.Rows L2 LamX
theorem strengthL {bs : List Sr96.Bin} {n : Nat} {H : Hp} {D : Addr} {as : List Addr} {f : List Nat → Nat} (pb : Pr (NumL H) as (bf (kgs bs) n)) (hD : H D = some (.lst (((as.zip (bf (kgs bs) n)).filter fun _ => true).map fun p => nV (f p.2)))) :
    H D = some (.lst ((castL ((bf (kgs bs) n).map f)).map V.int)) := by
  rw [hD, filter_true, zip_map2 (fun x => nV (f x)) pb, ← natV_cast]
  unfold natV
  rw [List.map_map]
  rfl
theorem gname1 {i : Nat} {v : V} {σ : L2.St} {H : Hp} {Q : L2.St → Hp → Prop} (h : Q (σ.set i (some v)) H) : gName i v σ H Q := h
theorem if01 {b : Bool} {σ : L2.St} {H : Hp} {Q : VK} (h : Q (.int (SrCommon.boolToInt b)) H) : if b = true then tC (.int 1) σ H Q else tC (.int 0) σ H Q := by
  cases b with
  | true => exact iteT h
  | false => exact iteF h
section
variable {P : Program} {w : World} {K : PySem.W.Frag} {mg : Str → Option Value} {base : Heap} {A : Ads} {c Tb : Addr}
theorem ok_check (T : Txt K mg A) {Tb : Addr} : FnOk P w K mg base CX0 4 A.m_check.f A.m_check.fd ["self", "blend"] (spCheck A Tb) := by
  refine T.check.F.ok c_check (fun vs H Q E h => ?_) (fun cdv Ar outer s H vs Q E hr h => ?_)
  · obtain ⟨H0, p, s, x, row, rfl, _⟩ := h
    rfl
  · obtain ⟨H0, p, s, x, row, rfl, BA, hx0, h70, kq⟩ := h
    obtain ⟨dx, l, q, as, B⟩ := id BA
    have hr1 : Room 1 _ := hr.mono (by decide)
    have hr2 : Room 2 _ := hr.mono (by decide)
    have hx : H x = some (.lst (row.map V.int)) := B.ext _ _ hx0
    refine ⟨_, pss_cons (ps_if (pt_not (pt_val (pe_meth (pv 0) T.clK T.hasForm.m (ok_hasForm T (Tb := Tb)) hr2 T.hasForm.b .nil pass0 (pa_cons (pv 1) pa_nil)))) (pss_one (ps_ret (pe_lst (pa_cons (pe_glob rfl T.g_OUT_OF_RANGE relI) pa_nil)))) pss_nil)
      (pss_cons (ps_set (i := 2) c_check.nd rfl (Or.inl rfl) (pe_fld (pv 0) rfl))
      (pss_cons (ps_set (i := 3) c_check.nd rfl (Or.inl rfl) (pe_ifExp (pt_val (pe_call (ok_iv T) hr rfl T.iv.g T.iv.k T.iv.b .nil pass0 (pa_cons (pv 2) (pa_cons (pe_fld (pv 0) rfl) (pa_cons (pv 1) pa_nil))))) pe_int pe_int))
      (pss_cons (ps_set (i := 4) c_check.nd rfl (Or.inl rfl) (pe_callB (cr_sum rfl) (by rfl) T.b_sum (by decide +kernel) (pa_cons (pv 1) pa_nil)))
      (pss_cons (ps_set (i := 5) c_check.nd rfl (Or.inl rfl) (pe_call (ok_av T) hr2 rfl T.av.g T.av.k T.av.b .nil pass0 (pa_cons (pe_call (ok_ss T) hr1 rfl T.ss.g T.ss.k T.ss.b .nil pass0 (pa_cons (pv 2) (pa_cons (pv 1) pa_nil))) (pa_cons (pv 4) pa_nil))))
      (pss_cons (ps_set (i := 6) c_check.nd rfl (Or.inl rfl) (pe_call (ok_av T) hr2 rfl T.av.g T.av.k T.av.b .nil pass0 (pa_cons (pe_call (ok_as T) hr1 rfl T.as.g T.as.k T.as.b .nil pass0 (pa_cons (pv 2) (pa_cons (pv 1) pa_nil))) (pa_cons (pv 4) pa_nil))))
      (pss_one (ps_ret (pe_op op_cat (pe_op op_cat (pe_op op_cat (pe_lst (pa_cons (pv 3) (pa_cons (pv 4) pa_nil))) (pv 5)) (pv 6)) (pe_lst (pa_cons (pe_call (ok_co T) hr1 rfl T.co.g T.co.k T.co.b .nil pass0 (pa_cons (pv 2) (pa_cons (pv 1) pa_nil))) pa_nil)))))))))), ?_⟩
    refine ⟨_, rfl, p, dx, _, rfl, B.hp, rfl, _, rfl, H0, p, s, x, row, rfl, BA, hx, h70, fun H1 s1 => ⟨Sr96.isBlend s row, rfl, ?_⟩⟩
    have B1 := B.same s1
    cases hf : Sr96.isBlend s row with
    | false => exact iteT ⟨(by show 1 ≤ sizeLine; decide), fun y ny => opErr kq B1.at_ ny (congrArg (Prod.mk none) (if_pos hf))⟩
    | true =>
      have hn : ¬ (Sr96.isBlend s row = false) := by rw [hf]; simp
      obtain ⟨e0, e1, e2⟩ := isBlend_nat hf
      have hx1 : NumL H1 x (SrCommon.intsToNats row) := by
        show H1 x = _
        rw [← e0]
        exact s1 _ _ hx
      have h4 := B.gb.len
      have hsum := sum_le_of e2
      refine iteF ⟨_, rfl, p, _, dx, _, _, rfl, B1.hp, T.clK, T.nK_bins, rfl, ?_⟩
      refine ⟨_, rfl, _, rfl, p, _, dx, _, _, rfl, B1.hp, T.clK, T.nK_request, rfl, _, rfl, l, q, x, s.bins, s.request, _, rfl, B1.binL, B1.req, hx1, B.gb, B.gr, fun H2 s2 => ?_⟩
      have B2 := B1.same s2
      have hx2 := hx1.same s2
      rw [all_zip s.bins _ s rfl e1]
      refine ⟨Sr96.isAvailable s (SrCommon.intsToNats row) && meets s.bins s.request (SrCommon.intsToNats row), rfl, ?_⟩
      refine if01 ?_
      have hwt : SrCommon.sum (SrCommon.intsToNats row) ≤ 1000 := by omega
      refine ⟨_, rfl, x, castL (SrCommon.intsToNats row), rfl, SqL.of (by rw [← natV_cast]; exact hx2), ?_⟩
      have eS : (castL (SrCommon.intsToNats row)).sum = ((SrCommon.sum (SrCommon.intsToNats row) : Nat) : Int) := cast_sum _
      rw [eS]
      refine ⟨_, rfl, _, rfl, l, x, s.bins, _, rfl, B2.binL, hx2, B.gb, fun H3 s3 => ?_⟩
      have B3 := B2.same s3
      have hx3 := hx2.same s3
      refine ⟨_, rfl, _, _, rfl, hwt, fun a5 H4 s4 n5 h5 => ?_⟩
      have B4 := B3.same s4
      have hx4 := hx3.same s4
      refine ⟨_, rfl, _, rfl, l, x, s.bins, _, rfl, B4.binL, hx4, B.gb, fun H5 s5 => ?_⟩
      have B5 := B4.same s5
      have hx5 := hx4.same s5
      refine ⟨_, rfl, _, _, rfl, hwt, fun a6 H6 s6 n6 h6 => ?_⟩
      have B6 := B5.same s6
      have hx6 := hx5.same s6
      have h5' := s6 _ _ (s5 _ _ h5)
      have lav : ∀ t w : Nat, ((Sr96.average t w).map V.int).length = 2 := fun t w => rfl
      refine ⟨_, rfl, _, rfl, (by show 2 ≤ sizeLine; decide), fun p1 n1 => ?_⟩
      have t1 : Same H6 (upd H6 p1 (.lst [V.int (SrCommon.boolToInt (Sr96.isAvailable s (SrCommon.intsToNats row) && meets s.bins s.request (SrCommon.intsToNats row))), V.int ((SrCommon.sum (SrCommon.intsToNats row) : Nat) : Int)])) := same_upd (Same.refl _) n1
      refine ⟨_, rfl, p1, a5, _, _, rfl, rfl, upd_same, t1 _ _ h5', (by show 2 + 2 ≤ sizeLine; decide), fun p2 n2 => ?_⟩
      have t2 := same_upd (o := HO.lst ([V.int (SrCommon.boolToInt (Sr96.isAvailable s (SrCommon.intsToNats row) && meets s.bins s.request (SrCommon.intsToNats row))), V.int ((SrCommon.sum (SrCommon.intsToNats row) : Nat) : Int)] ++ (Sr96.average (Sr96.total Sr96.Bin.strength s.bins (SrCommon.intsToNats row)) (SrCommon.sum (SrCommon.intsToNats row))).map V.int)) t1 n2
      refine ⟨_, rfl, p2, a6, _, _, rfl, rfl, upd_same, t2 _ _ h6, (by show 4 + 2 ≤ sizeLine; decide), fun p3 n3 => ?_⟩
      have t3 := same_upd (o := HO.lst (([V.int (SrCommon.boolToInt (Sr96.isAvailable s (SrCommon.intsToNats row) && meets s.bins s.request (SrCommon.intsToNats row))), V.int ((SrCommon.sum (SrCommon.intsToNats row) : Nat) : Int)] ++ (Sr96.average (Sr96.total Sr96.Bin.strength s.bins (SrCommon.intsToNats row)) (SrCommon.sum (SrCommon.intsToNats row))).map V.int) ++ (Sr96.average (Sr96.total Sr96.Bin.ash s.bins (SrCommon.intsToNats row)) (SrCommon.sum (SrCommon.intsToNats row))).map V.int)) t2 n3
      have B7 := B6.same t3
      have hx7 := hx6.same t3
      refine ⟨_, rfl, _, rfl, l, x, s.bins, _, rfl, B7.binL, hx7, B.gb, fun H8 s8 => ⟨(by show 1 ≤ sizeLine; decide), fun p4 n4 => ?_⟩⟩
      have B8 := B7.same s8
      have h3' := s8 _ _ (show upd _ p3 _ p3 = _ from upd_same)
      have ne34 : p3 ≠ p4 := ne_of_none h3' n4
      have t4 := same_upd (o := HO.lst [nV (Sr96.total Sr96.Bin.price s.bins (SrCommon.intsToNats row))]) (Same.refl H8) n4
      refine ⟨p3, p4, _, _, rfl, rfl, t4 _ _ h3', upd_same, (by show 6 + 1 ≤ sizeLine; decide), fun p5 n5' => ?_⟩
      refine opEnd kq (B8.same t4).at_ n5' ?_ rfl
      unfold ansL
      have ep : Sr96.perform s (.checkBlend row) = (none, ⟨SrCommon.boolToInt (Sr96.isAvailable s (SrCommon.intsToNats row) && (decide (SrCommon.sum (SrCommon.intsToNats row) = s.request.kilograms) && Sr96.isWithinBounds s s.request (SrCommon.intsToNats row))), ((SrCommon.sum (SrCommon.intsToNats row) : Nat) : Int) :: (Sr96.average (Sr96.total Sr96.Bin.strength s.bins (SrCommon.intsToNats row)) (SrCommon.sum (SrCommon.intsToNats row)) ++ Sr96.average (Sr96.total Sr96.Bin.ash s.bins (SrCommon.intsToNats row)) (SrCommon.sum (SrCommon.intsToNats row)) ++ [((Sr96.cost s (SrCommon.intsToNats row) : Nat) : Int)])⟩) := congrArg (Prod.mk none) (if_neg hn)
      rw [ep, ← meets_is]
      rw [List.map_cons, List.map_cons, List.map_append, List.map_append]
      rfl
theorem ok_extr (T : Txt K mg A) {Tb : Addr} : FnOk P w K mg base CX0 7 A.m_extr.f A.m_extr.fd ["self", "n"] (spExtr A Tb) := by
  refine T.extr.F.ok c_extr (fun vs H Q E h => ?_) (fun cdv Ar outer s H vs Q E hr h => ?_)
  · obtain ⟨H0, p, s, n, rfl, _⟩ := h
    rfl
  · obtain ⟨H0, p, s, n, rfl, BA, kq⟩ := h
    obtain ⟨dx, l, q, as, B⟩ := id BA
    have hr1 : Room 1 _ := hr.mono (by decide)
    have hr2 : Room 2 _ := hr.mono (by decide)
    refine ⟨_, pss_cons (ps_if (pt_not (pt_val (pe_call (ok_iw T) hr1 rfl T.iw.g T.iw.k T.iw.b .nil pass0 (pa_cons (pv 1) pa_nil)))) (pss_one (ps_ret (pe_lst (pa_cons (pe_glob rfl T.g_OUT_OF_RANGE relI) pa_nil)))) pss_nil)
      (pss_cons (ps_set (i := 2) c_extr.nd rfl (Or.inl rfl) (pe_call (ok_ab T) hr rfl T.ab.g T.ab.k T.ab.b .nil pass0 (pa_cons (pe_fld (pv 0) rfl) (pa_cons (pv 1) pa_nil))))
      (pss_cons (ps_if (pt_cmpR op_eq (pe_callB call_len_seq (by rfl) T.b_len PySem.boot_len (pa_cons (pv 2) pa_nil)) pe_int (nomark _)) (pss_one (ps_ret (pe_lst (pa_cons (pe_glob rfl T.g_NOT_VALID relI) pa_nil)))) pss_nil)
      (pss_cons (ps_setLc (i := 3) (own := [("blend", 5)]) (g := gName 5) (tt := tYes) (te := tCall (spSum A.cB Sr96.Bin.strength) [] E0 (tCons (tFld K (tVar 0) "bins") (tCons (tVar 5) tNil))) rfl c_extr.nd rfl rfl (sw_true rfl rfl rfl (by decide +kernel)) (pi_list (pv 2)) (blkOk_by (N := ["self", "n", "listed", "strengths", "ashes", "blend"]) (sc := defScope s_extr) (by decide +kernel))
        (by exact fun _ _ _ _ _ => pg_name (i := 5) c_extr.nd rfl (Or.inl rfl)) (by exact fun _ _ _ _ _ => pts_nil) (by exact fun _ _ _ _ _ => pe_call (ok_ss T) hr1 (by rfl) T.ss.g T.ss.k T.ss.b .nil pass0 (pa_cons (pe_fld (pv 0) rfl) (pa_cons (pv 5) pa_nil))))
      (pss_cons (ps_setLc (i := 4) (own := [("blend", 5)]) (g := gName 5) (tt := tYes) (te := tCall (spSum A.cB Sr96.Bin.ash) [] E0 (tCons (tFld K (tVar 0) "bins") (tCons (tVar 5) tNil))) rfl c_extr.nd rfl rfl (sw_true rfl rfl rfl (by decide +kernel)) (pi_list (pv 2)) (blkOk_by (N := ["self", "n", "listed", "strengths", "ashes", "blend"]) (sc := defScope s_extr) (by decide +kernel))
        (by exact fun _ _ _ _ _ => pg_name (i := 5) c_extr.nd rfl (Or.inl rfl)) (by exact fun _ _ _ _ _ => pts_nil) (by exact fun _ _ _ _ _ => pe_call (ok_as T) hr1 (by rfl) T.as.g T.as.k T.as.b .nil pass0 (pa_cons (pe_fld (pv 0) rfl) (pa_cons (pv 5) pa_nil))))
      (pss_one (ps_ret (pe_op op_cat (pe_op op_cat (pe_op op_cat (pe_lst (pa_cons pe_int pa_nil))
        (pe_call (ok_av T) hr2 rfl T.av.g T.av.k T.av.b .nil pass0 (pa_cons (pe_callB (cr_min rfl) (by rfl) T.b_min (by decide +kernel) (pa_cons (pv 3) pa_nil)) (pa_cons (pv 1) pa_nil))))
        (pe_call (ok_av T) hr2 rfl T.av.g T.av.k T.av.b .nil pass0 (pa_cons (pe_callB (cr_max rfl) (by rfl) T.b_max (by decide +kernel) (pa_cons (pv 3) pa_nil)) (pa_cons (pv 1) pa_nil))))
        (pe_call (ok_av T) hr2 rfl T.av.g T.av.k T.av.b .nil pass0 (pa_cons (pe_callB (cr_min rfl) (by rfl) T.b_min (by decide +kernel) (pa_cons (pv 4) pa_nil)) (pa_cons (pv 1) pa_nil)))))))))), ?_⟩
    refine ⟨_, rfl, n, rfl, SrCommon.inRange n 1 30, rfl, ?_⟩
    cases h1 : SrCommon.inRange n 1 30 with
    | false => exact iteT ⟨(by show 1 ≤ sizeLine; decide), fun x nx => opErr kq BA nx (congrArg (Prod.mk none) (if_pos h1))⟩
    | true =>
      have r1 := inR h1
      have hn : ¬ (SrCommon.inRange n 1 30 = false) := by rw [h1]; simp
      obtain ⟨m, rfl⟩ : ∃ m : Nat, n = (m : Int) := ⟨n.toNat, by omega⟩
      have hm : m ≤ 30 := by omega
      refine iteF ⟨_, rfl, p, _, dx, _, _, rfl, B.hp, T.clK, T.nK_bins, rfl, _, rfl, l, s.bins, m, rfl, B.binL, B.gb, hm, fun H1 a s1 ⟨as1, ha, pa⟩ => ?_⟩
      have B1 := B.same s1
      have hlen : (bf (kgs s.bins) m).length ≤ 923521 := bf_small B.gb m
      refine ⟨_, rfl, a, _, rfl, .inl (SqL.of ha), rfl, _, rfl, ?_⟩
      rw [refV_len, pa.len]
      have ep : Sr96.perform s (.extremeAverages (m : Int)) = (none, match Sr96.weakestBlend s m, Sr96.strongestBlend s m, Sr96.purestBlend s m with
          | some x, some y, some z => ⟨0, Sr96.average (Sr96.total Sr96.Bin.strength s.bins x) m ++ Sr96.average (Sr96.total Sr96.Bin.strength s.bins y) m ++ Sr96.average (Sr96.total Sr96.Bin.ash s.bins z) m⟩
          | _, _, _ => .ofCode SrCommon.noSolution) := by
        refine congrArg (Prod.mk none) ((if_neg hn).trans ?_)
        rw [Int.toNat_natCast]
        rfl
      cases hL : bf (s.bins.map fun b => b.kilograms) m with
      | nil =>
        refine iteT ⟨(by show 1 ≤ sizeLine; decide), fun x nx => opErr kq B1.at_ nx ?_⟩
        obtain ⟨w1, w2, w3⟩ := none_of (s := s) hL
        rw [ep, w1, w2, w3]
        rfl
      | cons x0 xs0 =>
        rw [← hL]
        have hne : 0 < (bf (s.bins.map fun b => b.kilograms) m).length := by
          rw [hL]
          exact Nat.succ_pos _
        have hpos : ∀ f : List Nat → Nat, 0 < (castL ((bf (kgs s.bins) m).map f)).length := fun f => by
          unfold castL
          rw [List.length_map, List.length_map]
          exact hne
        have c0 : ¬ (V.int (((bf (s.bins.map fun b => b.kilograms) m).length : Nat) : Int) = V.int 0) := fun e => by
          injection e with e
          omega
        rw [decide_eq_false c0]
        refine iteF ?_
        refine tnext1 ?_
        dsimp only
        refine tseq1 (tasg1 (lc_refs (R := NumL) (ys := bf (kgs s.bins) m) (keep := fun _ => true) (g := fun _ x => nV (Sr96.total Sr96.Bin.strength s.bins x)) (fun _ _ _ _ q s => q.same s) (by omega) (fun Z y => ⟨_, rfl, y a H1 as1 (Same.refl _) ha pa⟩)
          (fun a b H2 Q1 _ _ _ y => y H2 (Same.refl _)) (fun a x H2 Q1 _ hx s2 y => ?_) (fun D H2 as2 s2 pb2 hD => ?_)))
        · have B2 := B1.same s2
          exact ⟨_, rfl, p, _, dx, _, _, rfl, B2.hp, T.clK, T.nK_bins, rfl, _, rfl, l, a, s.bins, x, rfl, B2.binL, hx, B.gb, fun H3 s3 => y H3 s3⟩
        · have B2 := B1.same s2
          have hD2 := strengthL pb2 hD
          refine gname1 ?_
          dsimp only
          refine tseq1 (tasg1 (lc_refs (R := NumL) (ys := bf (kgs s.bins) m) (keep := fun _ => true) (g := fun _ x => nV (Sr96.total Sr96.Bin.ash s.bins x)) (fun _ _ _ _ q s => q.same s) (by omega) (fun Z y => ⟨_, rfl, y a H2 as1 (Same.refl _) (s2 _ _ ha) (pa.imp fun _ _ z => z.same s2)⟩)
            (fun a b H3 Q1 _ _ _ y => y H3 (Same.refl _)) (fun a x H3 Q1 _ hx s3 y => ?_) (fun D3 H3 as3 s3 pb3 hD3 => ?_)))
          · have B3 := B2.same s3
            exact ⟨_, rfl, p, _, dx, _, _, rfl, B3.hp, T.clK, T.nK_bins, rfl, _, rfl, l, a, s.bins, x, rfl, B3.binL, hx, B.gb, fun H4 s4 => y H4 s4⟩
          · have B3 := B2.same s3
            have hD4 := strengthL pb3 hD3
            have hD2' := s3 _ _ hD2
            refine ⟨(by show 1 ≤ sizeLine; decide), fun p1 n1 => ?_⟩
            have t1 := same_upd (o := HO.lst [V.int 0]) (Same.refl H3) n1
            refine ⟨_, rfl, D, _, rfl, SqL.of (t1 _ _ hD2'), hpos _, fun mnI m1 m2 => ?_⟩
            obtain ⟨mn, rfl, m1, m2⟩ := cast_min m1 m2
            refine ⟨_, rfl, mn, m, rfl, by omega, fun b1 H4 s4 nb1 hb1 => ?_⟩
            have h4p := s4 _ _ (show upd H3 p1 _ p1 = _ from upd_same)
            refine ⟨p1, b1, _, _, rfl, rfl, h4p, hb1, (by show 1 + 2 ≤ sizeLine; decide), fun p2 n2 => ?_⟩
            have t2 := same_upd (o := HO.lst ([V.int 0] ++ (Sr96.average mn m).map V.int)) (Same.refl H4) n2
            refine ⟨_, rfl, D, _, rfl, SqL.of (t2 _ _ (s4 _ _ (t1 _ _ hD2'))), hpos _, fun mxI m3 m4 => ?_⟩
            obtain ⟨mx, rfl, m3, m4⟩ := cast_max m3 m4
            refine ⟨_, rfl, mx, m, rfl, by omega, fun b2 H5 s5 nb2 hb2 => ?_⟩
            have h5p := s5 _ _ (show upd H4 p2 _ p2 = _ from upd_same)
            refine ⟨p2, b2, _, _, rfl, rfl, h5p, hb2, (by show 3 + 2 ≤ sizeLine; decide), fun p3 n3 => ?_⟩
            have t3 := same_upd (o := HO.lst (([V.int 0] ++ (Sr96.average mn m).map V.int) ++ (Sr96.average mx m).map V.int)) (Same.refl H5) n3
            refine ⟨_, rfl, D3, _, rfl, SqL.of (t3 _ _ (s5 _ _ (t2 _ _ (s4 _ _ (t1 _ _ hD4))))), hpos _, fun maI m5 m6 => ?_⟩
            obtain ⟨ma, rfl, m5, m6⟩ := cast_min m5 m6
            refine ⟨_, rfl, ma, m, rfl, by omega, fun b3 H6 s6 nb3 hb3 => ?_⟩
            have h6p := s6 _ _ (show upd H5 p3 _ p3 = _ from upd_same)
            refine ⟨p3, b3, _, _, rfl, rfl, h6p, hb3, (by show 5 + 2 ≤ sizeLine; decide), fun p4 n4 => ?_⟩
            have hall : Same H3 H6 := ((t1.trans s4).trans (t2.trans s5)).trans (t3.trans s6)
            obtain ⟨x, w1, _, e1⟩ := weakest_is (s := s) m1 m2
            obtain ⟨y, w2, _, e2⟩ := strongest_is (s := s) m3 m4
            obtain ⟨z, w3, _, e3⟩ := purest_is (s := s) m5 m6
            refine opEnd kq (B3.same hall).at_ n4 ?_ ?_
            · unfold ansL
              rw [ep, w1, w2, w3]
              dsimp only
              rw [e1, e2, e3, List.map_cons, List.map_append, List.map_append]
              rfl
            · unfold stepS
              rw [ep]
              rfl
end
end FB

/-! ## FBO -/
set_option maxRecDepth 100000
set_option maxHeartbeats 2000000
/-! describe; the reader. -/
namespace FB
open PySem PySem.Spec PyProof.Rows L2 LamX
def binV (b : Sr96.Bin) : List V := [nV b.kilograms, nV b.strength, nV b.ash, nV b.price]
abbrev rdF (c : Addr) (n : Nat) : List (Str × V) := [("calls", .ref c), ("place", nV n)]
def spRi (C : Addr) : Sp := fun vs H Q _ => ∃ (x dx c : Addr), vs = [.ref x, .ref c] ∧ H x = some (.ins C dx []) ∧ Q .non (upd H x (.ins C dx (rdF c 0)))
def spMore (K : PySem.W.Frag) (C : Addr) : Sp := fun vs H Q _ => ∃ (x dx c : Addr) (n : Nat) (ns : List Int), vs = [.ref x] ∧ H x = some (.ins C dx (rdF c n)) ∧ SqL K H c (ns.map V.int) ∧ Q (.bl (decide (n < ns.length))) H
def spOne (K : PySem.W.Frag) (C : Addr) : Sp := fun vs H Q _ => ∃ (x dx c : Addr) (n : Nat) (ns : List Int) (z : Int), vs = [.ref x] ∧ H x = some (.ins C dx (rdF c n)) ∧ SqL K H c (ns.map V.int) ∧ ns[n]? = some z ∧ Q (.int z) (upd H x (.ins C dx (rdF c (n + 1))))
def spSeveral (K : PySem.W.Frag) (C : Addr) : Sp := fun vs H Q _ => ∃ (x dx c : Addr) (n m : Nat) (ns : List Int), vs = [.ref x, nV m] ∧ H x = some (.ins C dx (rdF c n)) ∧ SqL K H c (ns.map V.int) ∧
  ∀ a, H a = none → Q (.ref a) (upd (upd H a (.lst (((ns.drop n).take m).map V.int))) x (.ins C dx (rdF c (n + m))))
theorem putR_place (c : Addr) (n m : Nat) : putF "place" (nV m) (rdF c n) = rdF c m := by rfl
theorem intL_at {ns : List Int} {i : Nat} {z : Int} (h : ns[i]? = some z) : (ns.map V.int)[i]? = some (V.int z) := by
  rw [List.getElem?_map, h]
  rfl
section
variable {P : Program} {w : World} {K : PySem.W.Frag} {mg : Str → Option Value} {base : Heap} {A : Ads} {c Tb : Addr}
theorem ok_descr (T : Txt K mg A) {Tb : Addr} : FnOk P w K mg base CX0 1 A.m_descr.f A.m_descr.fd ["self"] (spOp0 A Tb .describe) := by
  refine T.descr.F.ok c_descr (fun vs H Q E h => ?_) (fun cdv Ar outer s H vs Q E hr h => ?_)
  · obtain ⟨H0, p, s, rfl, _⟩ := h
    rfl
  · obtain ⟨H0, p, s, rfl, BA, kq⟩ := h
    obtain ⟨dx, l, q, as, B⟩ := id BA
    refine ⟨_, pss_cons (ps_set (i := 1) c_descr.nd rfl (Or.inl rfl) (pe_lst (pa_cons (pe_callB call_len_seq (by rfl) T.b_len PySem.boot_len (pa_cons (pe_fld (pv 0) rfl) pa_nil)) pa_nil)))
      (pss_cons (ps_for PassesOwn.never rfl (pi_list (pe_fld (pv 0) rfl)) (pg_name (i := 2) c_descr.nd rfl (Or.inl rfl))
        (pss_one (ps_expr (pe_bm PySem.F.plainAttrs_list PySem.F.slot_list_extend PySem.F.type_list_extend mt_extend (pv 1) (pa_cons (pe_lst (pa_cons (pe_fld (pv 2) rfl) (pa_cons (pe_fld (pv 2) rfl) (pa_cons (pe_fld (pv 2) rfl) (pa_cons (pe_fld (pv 2) rfl) pa_nil))))) pa_nil)))))
      (pss_cons (ps_set (i := 3) c_descr.nd rfl (Or.inl rfl) (pe_fld (pv 0) rfl))
      (pss_one (ps_ret (pe_op op_cat (pv 1) (pe_lst (pa_cons (pe_fld (pv 3) rfl) (pa_cons (pe_fld (pv 3) rfl) (pa_cons (pe_fld (pv 3) rfl) (pa_cons (pe_fld (pv 3) rfl) (pa_cons (pe_fld (pv 0) rfl) pa_nil))))))))))), ?_⟩
    refine ⟨_, rfl, p, _, dx, _, _, rfl, B.hp, T.clK, T.nK_bins, rfl, l, _, rfl, .inl (SqL.of B.hl), (by show 1 ≤ sizeLine; decide), fun an na => ?_⟩
    have el : (refV as).length = s.bins.length := by rw [refV_len, B.bins.len]
    rw [el]
    have s1 : Same H (upd H an (.lst [nV s.bins.length])) := same_upd (Same.refl _) na
    have B1 := B.same s1
    have h4 := B.gb.len
    have hflat : ∀ i, ((s.bins.take i).flatMap binV).length = 4 * (s.bins.take i).length := fun i => by
      generalize s.bins.take i = bs
      induction bs with
      | nil => rfl
      | cons b bs ih =>
        rw [List.flatMap_cons, List.length_append, ih, List.length_cons]
        show 4 + _ = _
        omega
    refine ⟨_, rfl, p, _, dx, _, _, rfl, B1.hp, T.clK, T.nK_bins, rfl, l, rfl, ⟨_, SqL.of B1.hl⟩, for_list (K := K) (a := l) (xs := refV as)
      (fun i σ H' => ∃ v2 : Option V, σ = [some (.ref p), some (.ref an), v2, none] ∧ Same H H' ∧ H' an = some (.lst (nV s.bins.length :: (s.bins.take i).flatMap binV))) ⟨none, rfl, s1, upd_same⟩ ?_ ?_ ?_⟩
    · rintro i σ H' _ ⟨_, rfl, s2, _⟩
      exact SqL.of (s2 _ _ B.hl)
    · rintro i y σ H2 hi ⟨v2, rfl, s2, han⟩
      obtain ⟨a, ha, rfl⟩ := refV_at hi
      obtain ⟨b, hb, d, hd⟩ := (B.same s2).bins.at2 ha
      refine ⟨_, rfl, .inl ⟨rfl, _, SqL.of han⟩, _, rfl, a, _, d, _, _, rfl, hd, T.clB, T.nB_kilograms, rfl, _, rfl, a, _, d, _, _, rfl, hd, T.clB, T.nB_strength, rfl, _, rfl, a, _, d, _, _, rfl, hd, T.clB, T.nB_ash, rfl, _, rfl, a, _, d, _, _, rfl, hd, T.clB, T.nB_price, rfl, (by show 4 ≤ sizeLine; decide), fun e ne => ?_⟩
      have nae : an ≠ e := ne_of_none han ne
      refine ⟨an, e, _, _, rfl, rfl, (upd_ne nae).trans han, upd_same, ?_, ?_⟩
      · have h5 := hflat i
        rw [List.length_cons, h5, List.length_take]
        exact size_small (by show 4 * min i s.bins.length + 1 + 4 ≤ 16777216; omega)
      · refine ⟨_, rfl, same_put0 (same_upd s2 ne) na, ?_⟩
        rw [upd_same, take_more hb, List.flatMap_append, List.flatMap_singleton]
        rfl
    · rintro σ H2 ⟨v2, rfl, s2, han⟩
      have B2 := B.same s2
      obtain ⟨dq, hq⟩ := B2.req
      rw [el, List.take_length] at han
      refine ⟨_, rfl, p, _, dx, _, _, rfl, B2.hp, T.clK, T.nK_request, rfl, ?_⟩
      refine ⟨_, rfl, _, rfl, q, _, dq, _, _, rfl, hq, T.clQ, T.nQ_n, rfl, _, rfl, q, _, dq, _, _, rfl, hq, T.clQ, T.nQ_min_strength, rfl, _, rfl, q, _, dq, _, _, rfl, hq, T.clQ, T.nQ_max_strength, rfl, _, rfl, q, _, dq, _, _, rfl, hq, T.clQ, T.nQ_max_ash, rfl,
        _, rfl, p, _, dx, _, _, rfl, B2.hp, T.clK, T.nK_spent, rfl, (by show 5 ≤ sizeLine; decide), fun e ne => ?_⟩
      have nae : an ≠ e := ne_of_none han ne
      have s3 := same_upd (o := HO.lst [nV s.request.kilograms, nV s.request.minStrength, nV s.request.maxStrength, nV s.request.maxAsh, nV s.spent]) (Same.refl H2) ne
      refine ⟨an, e, _, _, rfl, rfl, s3 _ _ han, upd_same, ?_, fun r nr => ?_⟩
      · have h5 := hflat s.bins.length
        rw [List.take_length] at h5
        rw [List.length_cons, h5]
        exact size_small (by show 4 * s.bins.length + 1 + 5 ≤ 16777216; omega)
      · refine opEnd kq (B2.same s3).at_ nr ?_ rfl
        have e1 : ∀ bs : List Sr96.Bin, (bs.flatMap fun b => [(b.kilograms : Int), (b.strength : Int), (b.ash : Int), (b.price : Int)]).map V.int = bs.flatMap binV := fun bs => by
          induction bs with
          | nil => rfl
          | cons b bs ih =>
            rw [List.flatMap_cons, List.flatMap_cons, List.map_append, ih]
            rfl
        show (((s.bins.length : Nat) : Int) :: ((s.bins.flatMap fun b => [(b.kilograms : Int), (b.strength : Int), (b.ash : Int), (b.price : Int)]) ++ [(s.request.kilograms : Int), (s.request.minStrength : Int), (s.request.maxStrength : Int), (s.request.maxAsh : Int), (s.spent : Int)])).map V.int = _
        rw [List.map_cons, List.map_append, e1]
        rfl
theorem ok_Ri (T : Txt K mg A) : FnOk P w K mg base CX0 1 A.m_Ri.f A.m_Ri.fd ["self", "calls"] (spRi A.cR) := by
  refine T.Ri.F.ok c_Ri (fun vs H Q E h => ?_) (fun cdv Ar outer s H vs Q E hr h => ?_)
  · obtain ⟨x, dx, c, rfl, _⟩ := h
    rfl
  · obtain ⟨x, dx, c, rfl, hx, q⟩ := h
    refine ⟨_, pss_cons (ps_fld (pv 0) (pv 1) rfl) (pss_one (ps_fld (pv 0) pe_int rfl)), ?_⟩
    refine ⟨_, rfl, _, rfl, x, _, dx, _, rfl, hx, T.clR, T.nR_calls, (by show 0 < 1000; decide), _, rfl, x, _, dx, _, rfl, upd_same, T.clR, T.nR_place, (by show 1 < 1000; decide), ?_⟩
    rw [upd_upd]
    exact q
theorem ok_more (T : Txt K mg A) : FnOk P w K mg base CX0 1 A.m_more.f A.m_more.fd ["self"] (spMore K A.cR) := by
  refine T.more.F.ok c_more (fun vs H Q E h => ?_) (fun cdv Ar outer s H vs Q E hr h => ?_)
  · obtain ⟨x, dx, c, n, ns, rfl, _⟩ := h
    rfl
  · obtain ⟨x, dx, c, n, ns, rfl, hx, hs, q⟩ := h
    refine ⟨_, pss_one (ps_ret (pe_cmpR op_lt (pe_fld (pv 0) rfl) (pe_callB call_len_seq (by rfl) T.b_len PySem.boot_len (pa_cons (pe_fld (pv 0) rfl) pa_nil)) (nomark _))), ?_⟩
    refine ⟨_, rfl, x, _, dx, _, _, rfl, hx, T.clR, T.nR_place, rfl, _, rfl, x, _, dx, _, _, rfl, hx, T.clR, T.nR_calls, rfl, c, _, rfl, .inl hs, _, _, rfl, rfl, ?_⟩
    show Q (.bl (decide ((n : Int) < (((ns.map V.int).length : Nat) : Int)))) H
    rw [List.length_map, dlt0]
    exact q
theorem ok_one (T : Txt K mg A) : FnOk P w K mg base CX0 1 A.m_one.f A.m_one.fd ["self"] (spOne K A.cR) := by
  refine T.one.F.ok c_one (fun vs H Q E h => ?_) (fun cdv Ar outer s H vs Q E hr h => ?_)
  · obtain ⟨x, dx, c, n, ns, z, rfl, _⟩ := h
    rfl
  · obtain ⟨x, dx, c, n, ns, z, rfl, hx, hs, hz, q⟩ := h
    refine ⟨_, pss_cons (ps_set (i := 1) c_one.nd rfl (Or.inl rfl) (pe_ix ix_list (pe_fld (pv 0) rfl) (pe_fld (pv 0) rfl) (fun _ _ => rfl)))
      (pss_cons (ps_fldaug (pv 0) pe_int in_add) (pss_one (ps_ret (pv 1)))), ?_⟩
    refine ⟨_, rfl, x, _, dx, _, _, rfl, hx, T.clR, T.nR_calls, rfl, _, rfl, x, _, dx, _, _, rfl, hx, T.clR, T.nR_place, rfl, c, _, _, _, rfl, rfl, hs, atI_nat (intL_at hz), ?_⟩
    refine ⟨_, rfl, x, _, dx, _, _, rfl, hx, T.clR, T.nR_place, rfl, _, _, rfl, rfl, dx, _, hx, (by show 2 < 1000; decide), ?_⟩
    exact ⟨_, rfl, q⟩
theorem ok_several (T : Txt K mg A) : FnOk P w K mg base CX0 1 A.m_several.f A.m_several.fd ["self", "how_many"] (spSeveral K A.cR) := by
  refine T.several.F.ok c_several (fun vs H Q E h => ?_) (fun cdv Ar outer s H vs Q E hr h => ?_)
  · obtain ⟨x, dx, c, n, m, ns, rfl, _⟩ := h
    rfl
  · obtain ⟨x, dx, c, n, m, ns, rfl, hx, hs, q⟩ := h
    refine ⟨_, pss_cons (ps_set (i := 2) c_several.nd rfl (Or.inl rfl) (pe_slice sl_list (pe_fld (pv 0) rfl) (po_some (pe_fld (pv 0) rfl)) (po_some (pe_op op_add (pe_fld (pv 0) rfl) (pv 1)))))
      (pss_cons (ps_fldaug (pv 0) (pv 1) in_add) (pss_one (ps_ret (pv 2)))), ?_⟩
    refine ⟨_, rfl, x, _, dx, _, _, rfl, hx, T.clR, T.nR_calls, rfl, _, rfl, x, _, dx, _, _, rfl, hx, T.clR, T.nR_place, rfl, ?_⟩
    refine ⟨_, rfl, _, rfl, x, _, dx, _, _, rfl, hx, T.clR, T.nR_place, rfl, _, rfl, _, _, rfl, rfl, _, rfl, c, _, rfl, hs, fun a na => ?_⟩
    have e1 : (n : Int) + (m : Int) = ((n + m : Nat) : Int) := by omega
    have e2 : cutV (ns.map V.int) (some (n : Int)) (some ((n : Int) + (m : Int))) = ((ns.drop n).take m).map V.int := by
      rw [e1, cutV_nat, ← List.map_drop, ← List.map_take]
      congr 2
      omega
    rw [e2]
    have hx' : upd H a (.lst (((ns.drop n).take m).map V.int)) x = some (.ins A.cR dx (rdF c n)) := (upd_ne (ne_of_none hx na)).trans hx
    refine ⟨_, rfl, x, _, dx, _, _, rfl, hx', T.clR, T.nR_place, rfl, _, rfl, _, _, rfl, rfl, dx, _, hx', (by show 2 < 1000; decide), ?_⟩
    refine ⟨_, rfl, ?_⟩
    have e3 : putF "place" (V.int ((n : Int) + (m : Int))) (rdF c n) = rdF c (n + m) := by
      rw [e1]
      exact putR_place c n (n + m)
    have z := q a na
    rw [← e3] at z
    exact z
end
end FB

/-! ## FBP -/
set_option maxRecDepth 100000
set_option maxHeartbeats 2000000
/-! which operation a call's number means. -/
namespace FB
open PySem PySem.Spec PyProof.Rows L2 LamX
/-- the call of the number z, with these whole numbers and this row -/
inductive CallOk : Int → List Int → List Int → Sr96.Call → Prop
  | addBin (k st a pr : Int) (row : List Int) : CallOk 1 [k, st, a, pr] row (.addBin k st a pr)
  | addFlour (i k : Int) (row : List Int) : CallOk 2 [i, k] row (.addFlour i k)
  | setPrice (i k : Int) (row : List Int) : CallOk 3 [i, k] row (.setPrice i k)
  | emptyBin (i : Int) (row : List Int) : CallOk 4 [i] row (.emptyBin i)
  | setRequest (n lo hi m : Int) (row : List Int) : CallOk 5 [n, lo, hi, m] row (.setRequest n lo hi m)
  | cheapestBlend (row : List Int) : CallOk 6 [] row .cheapestBlend
  | makeCheapestBlend (row : List Int) : CallOk 7 [] row .makeCheapestBlend
  | makeBlend (row : List Int) : CallOk 8 [] row (.makeBlend row)
  | checkBlend (row : List Int) : CallOk 9 [] row (.checkBlend row)
  | countBlends (row : List Int) : CallOk 10 [] row .countBlends
  | greatestAmount (row : List Int) : CallOk 11 [] row .greatestAmount
  | extremeAverages (n : Int) (row : List Int) : CallOk 12 [n] row (.extremeAverages n)
  | obstacle (row : List Int) : CallOk 13 [] row .obstacle
  | cheapestIfPrice (i k : Int) (row : List Int) : CallOk 14 [i, k] row (.cheapestIfPrice i k)
  | cheapestWithout (i : Int) (row : List Int) : CallOk 15 [i] row (.cheapestWithout i)
  | describe (row : List Int) : CallOk 16 [] row .describe
def spCs (A : Ads) (T : Addr) : Sp := fun vs H Q _ => ∃ (H0 : Hp) (p : Addr) (s : Sr96.Store) (na : Addr) (z : Int) (nums row : List Int) (c : Sr96.Call), vs = [.ref p, .int z, .ref na] ∧ BakAt A T H0 H p s ∧ H0 na = some (.lst (nums.map V.int)) ∧ CallOk z nums row c ∧ z ≤ 5 ∧ OpEnd A T H0 p s c Q
def spFm (A : Ads) (T : Addr) : Sp := fun vs H Q _ => ∃ (H0 : Hp) (p : Addr) (s : Sr96.Store) (ra : Addr) (z : Int) (nums row : List Int) (c : Sr96.Call), vs = [.ref p, .int z, .ref ra] ∧ BakAt A T H0 H p s ∧ H0 ra = some (.lst (row.map V.int)) ∧ row.length ≤ 70 ∧ CallOk z nums row c ∧ 5 < z ∧ z ≤ 8 ∧ OpEnd A T H0 p s c Q
def spTe (A : Ads) (T : Addr) : Sp := fun vs H Q _ => ∃ (H0 : Hp) (p : Addr) (s : Sr96.Store) (na ra : Addr) (z : Int) (nums row : List Int) (c : Sr96.Call), vs = [.ref p, .int z, .ref na, .ref ra] ∧ BakAt A T H0 H p s ∧ H0 na = some (.lst (nums.map V.int)) ∧ H0 ra = some (.lst (row.map V.int)) ∧ row.length ≤ 70 ∧ CallOk z nums row c ∧ 8 < z ∧ OpEnd A T H0 p s c Q
def spAo (A : Ads) (T : Addr) : Sp := fun vs H Q _ => ∃ (H0 : Hp) (p : Addr) (s : Sr96.Store) (na ra : Addr) (z : Int) (nums row : List Int) (c : Sr96.Call), vs = [.ref p, .int z, .ref na, .ref ra] ∧ BakAt A T H0 H p s ∧ H0 na = some (.lst (nums.map V.int)) ∧ H0 ra = some (.lst (row.map V.int)) ∧ row.length ≤ 70 ∧ CallOk z nums row c ∧ OpEnd A T H0 p s c Q
section
variable {P : Program} {w : World} {K : PySem.W.Frag} {mg : Str → Option Value} {base : Heap} {A : Ads} {c Tb : Addr}
theorem ok_cs (T : Txt K mg A) (L : LamH K mg base c Tb) : FnOk P w K mg base CX0 4 A.d_cs.f A.d_cs.fd ["bakery", "call", "numbers"] (spCs A Tb) := by
  refine T.cs.F.ok c_cs (fun vs H Q E h => ?_) (fun cdv Ar outer s H vs Q E hr h => ?_)
  · obtain ⟨H0, p, s, na, z, nums, row, cl, rfl, _⟩ := h
    rfl
  · obtain ⟨H0, p, s, na, z, nums, row, cl, rfl, BA, hna, hc, hz, kq⟩ := h
    obtain ⟨dx, l, q, as, B⟩ := id BA
    have hN := BA.ext _ _ hna
    refine ⟨_, pss_cons (ps_if (pt_cmpR op_eq (pv 1) (pe_glob rfl T.g_ADD_BIN relI) (nomark _)) (pss_one (ps_ret (pe_meth (pv 0) T.clK T.addBin.m (ok_addBin T (Tb := Tb)) (hr.mono (by decide)) T.addBin.b .nil pass0 (pa_cons (pe_ix ix_list (pv 2) pe_int (fun _ _ => rfl)) (pa_cons (pe_ix ix_list (pv 2) pe_int (fun _ _ => rfl)) (pa_cons (pe_ix ix_list (pv 2) pe_int (fun _ _ => rfl)) (pa_cons (pe_ix ix_list (pv 2) pe_int (fun _ _ => rfl)) pa_nil))))))) pss_nil)
      (pss_cons (ps_if (pt_cmpR op_eq (pv 1) (pe_glob rfl T.g_ADD_FLOUR relI) (nomark _)) (pss_one (ps_ret (pe_meth (pv 0) T.clK T.addFlour.m (ok_addFlour T (Tb := Tb)) (hr.mono (by decide)) T.addFlour.b .nil pass0 (pa_cons (pe_ix ix_list (pv 2) pe_int (fun _ _ => rfl)) (pa_cons (pe_ix ix_list (pv 2) pe_int (fun _ _ => rfl)) pa_nil))))) pss_nil)
      (pss_cons (ps_if (pt_cmpR op_eq (pv 1) (pe_glob rfl T.g_SET_PRICE relI) (nomark _)) (pss_one (ps_ret (pe_meth (pv 0) T.clK T.setPrice.m (ok_setPrice T (Tb := Tb)) (hr.mono (by decide)) T.setPrice.b .nil pass0 (pa_cons (pe_ix ix_list (pv 2) pe_int (fun _ _ => rfl)) (pa_cons (pe_ix ix_list (pv 2) pe_int (fun _ _ => rfl)) pa_nil))))) pss_nil)
      (pss_cons (ps_if (pt_cmpR op_eq (pv 1) (pe_glob rfl T.g_EMPTY_BIN relI) (nomark _)) (pss_one (ps_ret (pe_meth (pv 0) T.clK T.emptyBin.m (ok_emptyBin T (Tb := Tb)) (hr.mono (by decide)) T.emptyBin.b .nil pass0 (pa_cons (pe_ix ix_list (pv 2) pe_int (fun _ _ => rfl)) pa_nil)))) pss_nil)
      (pss_one (ps_ret (pe_meth (pv 0) T.clK T.setReq.m (ok_setReq T (Tb := Tb)) (hr.mono (by decide)) T.setReq.b .nil pass0 (pa_cons (pe_ix ix_list (pv 2) pe_int (fun _ _ => rfl)) (pa_cons (pe_ix ix_list (pv 2) pe_int (fun _ _ => rfl)) (pa_cons (pe_ix ix_list (pv 2) pe_int (fun _ _ => rfl)) (pa_cons (pe_ix ix_list (pv 2) pe_int (fun _ _ => rfl)) pa_nil)))))))))), ?_⟩
    cases hc with
    | addBin k st a pr row => exact ⟨_, rfl, rfl, _, rfl, iteT ⟨_, rfl, p, dx, _, rfl, B.hp, rfl, _, rfl, na, _, _, _, rfl, rfl, SqL.of hN, atI_nat (j := 0) rfl, _, rfl, na, _, _, _, rfl, rfl, SqL.of hN, atI_nat (j := 1) rfl, _, rfl, na, _, _, _, rfl, rfl, SqL.of hN, atI_nat (j := 2) rfl, _, rfl, na, _, _, _, rfl, rfl, SqL.of hN, atI_nat (j := 3) rfl, H0, p, s, k, st, a, pr, rfl, BA, kq⟩⟩
    | addFlour i k row => exact ⟨_, rfl, rfl, _, rfl, iteF ⟨_, rfl, rfl, _, rfl, iteT ⟨_, rfl, p, dx, _, rfl, B.hp, rfl, _, rfl, na, _, _, _, rfl, rfl, SqL.of hN, atI_nat (j := 0) rfl, _, rfl, na, _, _, _, rfl, rfl, SqL.of hN, atI_nat (j := 1) rfl, H0, p, s, i, k, rfl, BA, kq⟩⟩⟩
    | setPrice i k row => exact ⟨_, rfl, rfl, _, rfl, iteF ⟨_, rfl, rfl, _, rfl, iteF ⟨_, rfl, rfl, _, rfl, iteT ⟨_, rfl, p, dx, _, rfl, B.hp, rfl, _, rfl, na, _, _, _, rfl, rfl, SqL.of hN, atI_nat (j := 0) rfl, _, rfl, na, _, _, _, rfl, rfl, SqL.of hN, atI_nat (j := 1) rfl, H0, p, s, i, k, rfl, BA, kq⟩⟩⟩⟩
    | emptyBin i row => exact ⟨_, rfl, rfl, _, rfl, iteF ⟨_, rfl, rfl, _, rfl, iteF ⟨_, rfl, rfl, _, rfl, iteF ⟨_, rfl, rfl, _, rfl, iteT ⟨_, rfl, p, dx, _, rfl, B.hp, rfl, _, rfl, na, _, _, _, rfl, rfl, SqL.of hN, atI_nat (j := 0) rfl, H0, p, s, i, rfl, BA, kq⟩⟩⟩⟩⟩
    | setRequest n lo hi m row => exact ⟨_, rfl, rfl, _, rfl, iteF ⟨_, rfl, rfl, _, rfl, iteF ⟨_, rfl, rfl, _, rfl, iteF ⟨_, rfl, rfl, _, rfl, iteF ⟨_, rfl, p, dx, _, rfl, B.hp, rfl, _, rfl, na, _, _, _, rfl, rfl, SqL.of hN, atI_nat (j := 0) rfl, _, rfl, na, _, _, _, rfl, rfl, SqL.of hN, atI_nat (j := 1) rfl, _, rfl, na, _, _, _, rfl, rfl, SqL.of hN, atI_nat (j := 2) rfl, _, rfl, na, _, _, _, rfl, rfl, SqL.of hN, atI_nat (j := 3) rfl, H0, p, s, n, lo, hi, m, rfl, BA, kq⟩⟩⟩⟩⟩
    | cheapestBlend row => omega
    | makeCheapestBlend row => omega
    | makeBlend row => omega
    | checkBlend row => omega
    | countBlends row => omega
    | greatestAmount row => omega
    | extremeAverages n row => omega
    | obstacle row => omega
    | cheapestIfPrice i k row => omega
    | cheapestWithout i row => omega
    | describe row => omega
theorem ok_fm (T : Txt K mg A) (L : LamH K mg base c Tb) : FnOk P w K mg base CX0 11 A.d_fm.f A.d_fm.fd ["bakery", "call", "row"] (spFm A Tb) := by
  refine T.fm.F.ok c_fm (fun vs H Q E h => ?_) (fun cdv Ar outer s H vs Q E hr h => ?_)
  · obtain ⟨H0, p, s, ra, z, nums, row, cl, rfl, _⟩ := h
    rfl
  · obtain ⟨H0, p, s, ra, z, nums, row, cl, rfl, BA, hra, h70, hc, hz, hz2, kq⟩ := h
    obtain ⟨dx, l, q, as, B⟩ := id BA
    refine ⟨_, pss_cons (ps_if (pt_cmpR op_eq (pv 1) (pe_glob rfl T.g_CHEAPEST_BLEND relI) (nomark _)) (pss_one (ps_ret (pe_meth0 (pv 0) T.clK T.cheap.m (ok_cheap T L) (hr.mono (by decide)) T.cheap.b .nil pass0))) pss_nil)
      (pss_cons (ps_if (pt_cmpR op_eq (pv 1) (pe_glob rfl T.g_MAKE_CHEAPEST_BLEND relI) (nomark _)) (pss_one (ps_ret (pe_meth0 (pv 0) T.clK T.mkCheap.m (ok_mkCheap T L) (hr.mono (by decide)) T.mkCheap.b .nil pass0))) pss_nil)
      (pss_one (ps_ret (pe_meth (pv 0) T.clK T.mkBlend.m (ok_mkBlend T (Tb := Tb)) (hr.mono (by decide)) T.mkBlend.b .nil pass0 (pa_cons (pv 2) pa_nil))))), ?_⟩
    cases hc with
    | addBin k st a pr row => omega
    | addFlour i k row => omega
    | setPrice i k row => omega
    | emptyBin i row => omega
    | setRequest n lo hi m row => omega
    | cheapestBlend row => exact ⟨_, rfl, rfl, _, rfl, iteT ⟨_, rfl, p, dx, _, rfl, B.hp, rfl, H0, p, s, rfl, BA, kq⟩⟩
    | makeCheapestBlend row => exact ⟨_, rfl, rfl, _, rfl, iteF ⟨_, rfl, rfl, _, rfl, iteT ⟨_, rfl, p, dx, _, rfl, B.hp, rfl, H0, p, s, rfl, BA, kq⟩⟩⟩
    | makeBlend row => exact ⟨_, rfl, rfl, _, rfl, iteF ⟨_, rfl, rfl, _, rfl, iteF ⟨_, rfl, p, dx, _, rfl, B.hp, rfl, _, rfl, H0, p, s, ra, row, rfl, BA, hra, h70, kq⟩⟩⟩
    | checkBlend row => omega
    | countBlends row => omega
    | greatestAmount row => omega
    | extremeAverages n row => omega
    | obstacle row => omega
    | cheapestIfPrice i k row => omega
    | cheapestWithout i row => omega
    | describe row => omega
theorem ok_te (T : Txt K mg A) (L : LamH K mg base c Tb) : FnOk P w K mg base CX0 12 A.d_te.f A.d_te.fd ["bakery", "call", "numbers", "row"] (spTe A Tb) := by
  refine T.te.F.ok c_te (fun vs H Q E h => ?_) (fun cdv Ar outer s H vs Q E hr h => ?_)
  · obtain ⟨H0, p, s, na, ra, z, nums, row, cl, rfl, _⟩ := h
    rfl
  · obtain ⟨H0, p, s, na, ra, z, nums, row, cl, rfl, BA, hna, hra, h70, hc, hz, kq⟩ := h
    obtain ⟨dx, l, q, as, B⟩ := id BA
    have hN := BA.ext _ _ hna
    refine ⟨_, pss_cons (ps_if (pt_cmpR op_eq (pv 1) (pe_glob rfl T.g_CHECK_BLEND relI) (nomark _)) (pss_one (ps_ret (pe_meth (pv 0) T.clK T.check.m (ok_check T (Tb := Tb)) (hr.mono (by decide)) T.check.b .nil pass0 (pa_cons (pv 3) pa_nil)))) pss_nil)
      (pss_cons (ps_if (pt_cmpR op_eq (pv 1) (pe_glob rfl T.g_COUNT_BLENDS relI) (nomark _)) (pss_one (ps_ret (pe_meth0 (pv 0) T.clK T.count.m (ok_count T (Tb := Tb)) (hr.mono (by decide)) T.count.b .nil pass0))) pss_nil)
      (pss_cons (ps_if (pt_cmpR op_eq (pv 1) (pe_glob rfl T.g_GREATEST_AMOUNT relI) (nomark _)) (pss_one (ps_ret (pe_meth0 (pv 0) T.clK T.great.m (ok_great T (Tb := Tb)) (hr.mono (by decide)) T.great.b .nil pass0))) pss_nil)
      (pss_cons (ps_if (pt_cmpR op_eq (pv 1) (pe_glob rfl T.g_EXTREME_AVERAGES relI) (nomark _)) (pss_one (ps_ret (pe_meth (pv 0) T.clK T.extr.m (ok_extr T (Tb := Tb)) (hr.mono (by decide)) T.extr.b .nil pass0 (pa_cons (pe_ix ix_list (pv 2) pe_int (fun _ _ => rfl)) pa_nil)))) pss_nil)
      (pss_cons (ps_if (pt_cmpR op_eq (pv 1) (pe_glob rfl T.g_OBSTACLE relI) (nomark _)) (pss_one (ps_ret (pe_meth0 (pv 0) T.clK T.obst.m (ok_obst T (Tb := Tb)) (hr.mono (by decide)) T.obst.b .nil pass0))) pss_nil)
      (pss_cons (ps_if (pt_cmpR op_eq (pv 1) (pe_glob rfl T.g_CHEAPEST_IF_PRICE relI) (nomark _)) (pss_one (ps_ret (pe_meth (pv 0) T.clK T.ifPrice.m (ok_ifPrice T L) (hr.mono (by decide)) T.ifPrice.b .nil pass0 (pa_cons (pe_ix ix_list (pv 2) pe_int (fun _ _ => rfl)) (pa_cons (pe_ix ix_list (pv 2) pe_int (fun _ _ => rfl)) pa_nil))))) pss_nil)
      (pss_cons (ps_if (pt_cmpR op_eq (pv 1) (pe_glob rfl T.g_CHEAPEST_WITHOUT relI) (nomark _)) (pss_one (ps_ret (pe_meth (pv 0) T.clK T.without.m (ok_without T L) (hr.mono (by decide)) T.without.b .nil pass0 (pa_cons (pe_ix ix_list (pv 2) pe_int (fun _ _ => rfl)) pa_nil)))) pss_nil)
      (pss_one (ps_ret (pe_meth0 (pv 0) T.clK T.descr.m (ok_descr T (Tb := Tb)) (hr.mono (by decide)) T.descr.b .nil pass0))))))))), ?_⟩
    cases hc with
    | addBin k st a pr row => omega
    | addFlour i k row => omega
    | setPrice i k row => omega
    | emptyBin i row => omega
    | setRequest n lo hi m row => omega
    | cheapestBlend row => omega
    | makeCheapestBlend row => omega
    | makeBlend row => omega
    | checkBlend row => exact ⟨_, rfl, rfl, _, rfl, iteT ⟨_, rfl, p, dx, _, rfl, B.hp, rfl, _, rfl, H0, p, s, ra, row, rfl, BA, hra, h70, kq⟩⟩
    | countBlends row => exact ⟨_, rfl, rfl, _, rfl, iteF ⟨_, rfl, rfl, _, rfl, iteT ⟨_, rfl, p, dx, _, rfl, B.hp, rfl, H0, p, s, rfl, BA, kq⟩⟩⟩
    | greatestAmount row => exact ⟨_, rfl, rfl, _, rfl, iteF ⟨_, rfl, rfl, _, rfl, iteF ⟨_, rfl, rfl, _, rfl, iteT ⟨_, rfl, p, dx, _, rfl, B.hp, rfl, H0, p, s, rfl, BA, kq⟩⟩⟩⟩
    | extremeAverages n row => exact ⟨_, rfl, rfl, _, rfl, iteF ⟨_, rfl, rfl, _, rfl, iteF ⟨_, rfl, rfl, _, rfl, iteF ⟨_, rfl, rfl, _, rfl, iteT ⟨_, rfl, p, dx, _, rfl, B.hp, rfl, _, rfl, na, _, _, _, rfl, rfl, SqL.of hN, atI_nat (j := 0) rfl, H0, p, s, n, rfl, BA, kq⟩⟩⟩⟩⟩
    | obstacle row => exact ⟨_, rfl, rfl, _, rfl, iteF ⟨_, rfl, rfl, _, rfl, iteF ⟨_, rfl, rfl, _, rfl, iteF ⟨_, rfl, rfl, _, rfl, iteF ⟨_, rfl, rfl, _, rfl, iteT ⟨_, rfl, p, dx, _, rfl, B.hp, rfl, H0, p, s, rfl, BA, kq⟩⟩⟩⟩⟩⟩
    | cheapestIfPrice i k row => exact ⟨_, rfl, rfl, _, rfl, iteF ⟨_, rfl, rfl, _, rfl, iteF ⟨_, rfl, rfl, _, rfl, iteF ⟨_, rfl, rfl, _, rfl, iteF ⟨_, rfl, rfl, _, rfl, iteF ⟨_, rfl, rfl, _, rfl, iteT ⟨_, rfl, p, dx, _, rfl, B.hp, rfl, _, rfl, na, _, _, _, rfl, rfl, SqL.of hN, atI_nat (j := 0) rfl, _, rfl, na, _, _, _, rfl, rfl, SqL.of hN, atI_nat (j := 1) rfl, H0, p, s, i, k, rfl, BA, kq⟩⟩⟩⟩⟩⟩⟩
    | cheapestWithout i row => exact ⟨_, rfl, rfl, _, rfl, iteF ⟨_, rfl, rfl, _, rfl, iteF ⟨_, rfl, rfl, _, rfl, iteF ⟨_, rfl, rfl, _, rfl, iteF ⟨_, rfl, rfl, _, rfl, iteF ⟨_, rfl, rfl, _, rfl, iteF ⟨_, rfl, rfl, _, rfl, iteT ⟨_, rfl, p, dx, _, rfl, B.hp, rfl, _, rfl, na, _, _, _, rfl, rfl, SqL.of hN, atI_nat (j := 0) rfl, H0, p, s, i, rfl, BA, kq⟩⟩⟩⟩⟩⟩⟩⟩
    | describe row => exact ⟨_, rfl, rfl, _, rfl, iteF ⟨_, rfl, rfl, _, rfl, iteF ⟨_, rfl, rfl, _, rfl, iteF ⟨_, rfl, rfl, _, rfl, iteF ⟨_, rfl, rfl, _, rfl, iteF ⟨_, rfl, rfl, _, rfl, iteF ⟨_, rfl, rfl, _, rfl, iteF ⟨_, rfl, p, dx, _, rfl, B.hp, rfl, H0, p, s, rfl, BA, kq⟩⟩⟩⟩⟩⟩⟩⟩
theorem ok_ao (T : Txt K mg A) (L : LamH K mg base c Tb) : FnOk P w K mg base CX0 13 A.d_ao.f A.d_ao.fd ["bakery", "call", "numbers", "row"] (spAo A Tb) := by
  refine T.ao.F.ok c_ao (fun vs H Q E h => ?_) (fun cdv Ar outer s H vs Q E hr h => ?_)
  · obtain ⟨H0, p, s, na, ra, z, nums, row, cl, rfl, _⟩ := h
    rfl
  · obtain ⟨H0, p, s, na, ra, z, nums, row, cl, rfl, BA, hna, hra, h70, hc, kq⟩ := h
    refine ⟨_, pss_cons (ps_if (pt_cmpR op_le (pv 1) (pe_glob rfl T.g_SET_REQUEST relI) (nomark _)) (pss_one (ps_ret (pe_call (ok_cs T L) (hr.mono (by decide)) rfl T.cs.g T.cs.k T.cs.b .nil pass0 (pa_cons (pv 0) (pa_cons (pv 1) (pa_cons (pv 2) pa_nil)))))) pss_nil)
      (pss_cons (ps_if (pt_cmpR op_le (pv 1) (pe_glob rfl T.g_MAKE_BLEND relI) (nomark _)) (pss_one (ps_ret (pe_call (ok_fm T L) (hr.mono (by decide)) rfl T.fm.g T.fm.k T.fm.b .nil pass0 (pa_cons (pv 0) (pa_cons (pv 1) (pa_cons (pv 3) pa_nil)))))) pss_nil)
      (pss_one (ps_ret (pe_call (ok_te T L) hr rfl T.te.g T.te.k T.te.b .nil pass0 (pa_cons (pv 0) (pa_cons (pv 1) (pa_cons (pv 2) (pa_cons (pv 3) pa_nil)))))))), ?_⟩
    refine ⟨_, rfl, _, _, rfl, rfl, decide (z ≤ 5), rfl, ?_⟩
    by_cases c1 : z ≤ 5
    · rw [decide_eq_true c1]
      exact iteT ⟨_, rfl, _, rfl, _, rfl, H0, p, s, na, z, nums, row, cl, rfl, BA, hna, hc, c1, kq⟩
    · rw [decide_eq_false c1]
      refine iteF ⟨_, rfl, _, _, rfl, rfl, decide (z ≤ 8), rfl, ?_⟩
      by_cases c2 : z ≤ 8
      · rw [decide_eq_true c2]
        exact iteT ⟨_, rfl, _, rfl, _, rfl, H0, p, s, ra, z, nums, row, cl, rfl, BA, hra, h70, hc, by omega, c2, kq⟩
      · rw [decide_eq_false c2]
        exact iteF ⟨_, rfl, _, rfl, _, rfl, _, rfl, H0, p, s, na, ra, z, nums, row, cl, rfl, BA, hna, hra, h70, hc, by omega, kq⟩
end
end FB

/-! ## FBQ -/
set_option maxRecDepth 100000
set_option maxHeartbeats 2000000
/-! how the list of calls is read. -/
namespace FB
open PySem PySem.Spec PyProof.Rows L2 LamX
def numsT : List V := ([0, 4, 2, 2, 1, 4, 0, 0, 0, 0, 0, 0, 1, 0, 2, 1, 0] : List Int).map V.int
def rowsT : List V := ([8, 9] : List Int).map V.int
/-- what the program reads of a call: its number, its whole numbers, its row, what is left -/
structure CallRd (p : Int) (r : List Int) (c : List (List Int)) (t : List Int) (n : Nat) (nums row : List Int) : Prop where
  tab : atI numsT p = some (nV n)
  le : n ≤ r.length
  isN : nums = r.take n
  rest : (inV (V.int p) rowsT = false ∧ row = [] ∧ t = r.drop n) ∨ (inV (V.int p) rowsT = true ∧ n = 0 ∧ ∃ (m : Nat) (r' : List Int), r = (m : Int) :: r' ∧ m ≤ r'.length ∧ row = r'.take m ∧ t = r'.drop m)
  form : row = [] ∨ PySr96.whole c = [[8], row] ∨ PySr96.whole c = [[9], row]
  means : (p = 0 ∧ Sr96Neutral.parseCall (PySr96.whole c) = some .create) ∨ (p ≠ 0 ∧ ∃ call, CallOk p nums row call ∧ Sr96Neutral.parseCall (PySr96.whole c) = some call)
theorem shape_is {p : Int} {n k : Nat} (h : PySr96.shape p = some (n, k)) :
    (p = 0 ∧ n = 0 ∧ k = 0) ∨ (p = 1 ∧ n = 4 ∧ k = 0) ∨ (p = 2 ∧ n = 2 ∧ k = 0) ∨ (p = 3 ∧ n = 2 ∧ k = 0) ∨ (p = 4 ∧ n = 1 ∧ k = 0) ∨ (p = 5 ∧ n = 4 ∧ k = 0) ∨ (p = 6 ∧ n = 0 ∧ k = 0) ∨ (p = 7 ∧ n = 0 ∧ k = 0) ∨ (p = 8 ∧ n = 0 ∧ k = 1) ∨ (p = 9 ∧ n = 0 ∧ k = 1) ∨
    (p = 10 ∧ n = 0 ∧ k = 0) ∨ (p = 11 ∧ n = 0 ∧ k = 0) ∨ (p = 12 ∧ n = 1 ∧ k = 0) ∨ (p = 13 ∧ n = 0 ∧ k = 0) ∨ (p = 14 ∧ n = 2 ∧ k = 0) ∨ (p = 15 ∧ n = 1 ∧ k = 0) ∨ (p = 16 ∧ n = 0 ∧ k = 0) := by
  unfold PySr96.shape at h
  by_cases e0 : p = 0
  · rw [if_pos e0] at h
    injection h with h
    injection h with h1 h2
    exact .inl ⟨e0, h1.symm, h2.symm⟩
  rw [if_neg e0] at h
  by_cases e1 : p = 1
  · rw [if_pos e1] at h
    injection h with h
    injection h with h1 h2
    exact .inr (.inl ⟨e1, h1.symm, h2.symm⟩)
  rw [if_neg e1] at h
  by_cases e2 : p = 2
  · rw [if_pos e2] at h
    injection h with h
    injection h with h1 h2
    exact .inr (.inr (.inl ⟨e2, h1.symm, h2.symm⟩))
  rw [if_neg e2] at h
  by_cases e3 : p = 3
  · rw [if_pos e3] at h
    injection h with h
    injection h with h1 h2
    exact .inr (.inr (.inr (.inl ⟨e3, h1.symm, h2.symm⟩)))
  rw [if_neg e3] at h
  by_cases e4 : p = 4
  · rw [if_pos e4] at h
    injection h with h
    injection h with h1 h2
    exact .inr (.inr (.inr (.inr (.inl ⟨e4, h1.symm, h2.symm⟩))))
  rw [if_neg e4] at h
  by_cases e5 : p = 5
  · rw [if_pos e5] at h
    injection h with h
    injection h with h1 h2
    exact .inr (.inr (.inr (.inr (.inr (.inl ⟨e5, h1.symm, h2.symm⟩)))))
  rw [if_neg e5] at h
  by_cases e6 : p = 6
  · rw [if_pos e6] at h
    injection h with h
    injection h with h1 h2
    exact .inr (.inr (.inr (.inr (.inr (.inr (.inl ⟨e6, h1.symm, h2.symm⟩))))))
  rw [if_neg e6] at h
  by_cases e7 : p = 7
  · rw [if_pos e7] at h
    injection h with h
    injection h with h1 h2
    exact .inr (.inr (.inr (.inr (.inr (.inr (.inr (.inl ⟨e7, h1.symm, h2.symm⟩)))))))
  rw [if_neg e7] at h
  by_cases e8 : p = 8
  · rw [if_pos e8] at h
    injection h with h
    injection h with h1 h2
    exact .inr (.inr (.inr (.inr (.inr (.inr (.inr (.inr (.inl ⟨e8, h1.symm, h2.symm⟩))))))))
  rw [if_neg e8] at h
  by_cases e9 : p = 9
  · rw [if_pos e9] at h
    injection h with h
    injection h with h1 h2
    exact .inr (.inr (.inr (.inr (.inr (.inr (.inr (.inr (.inr (.inl ⟨e9, h1.symm, h2.symm⟩)))))))))
  rw [if_neg e9] at h
  by_cases e10 : p = 10
  · rw [if_pos e10] at h
    injection h with h
    injection h with h1 h2
    exact .inr (.inr (.inr (.inr (.inr (.inr (.inr (.inr (.inr (.inr (.inl ⟨e10, h1.symm, h2.symm⟩))))))))))
  rw [if_neg e10] at h
  by_cases e11 : p = 11
  · rw [if_pos e11] at h
    injection h with h
    injection h with h1 h2
    exact .inr (.inr (.inr (.inr (.inr (.inr (.inr (.inr (.inr (.inr (.inr (.inl ⟨e11, h1.symm, h2.symm⟩)))))))))))
  rw [if_neg e11] at h
  by_cases e12 : p = 12
  · rw [if_pos e12] at h
    injection h with h
    injection h with h1 h2
    exact .inr (.inr (.inr (.inr (.inr (.inr (.inr (.inr (.inr (.inr (.inr (.inr (.inl ⟨e12, h1.symm, h2.symm⟩))))))))))))
  rw [if_neg e12] at h
  by_cases e13 : p = 13
  · rw [if_pos e13] at h
    injection h with h
    injection h with h1 h2
    exact .inr (.inr (.inr (.inr (.inr (.inr (.inr (.inr (.inr (.inr (.inr (.inr (.inr (.inl ⟨e13, h1.symm, h2.symm⟩)))))))))))))
  rw [if_neg e13] at h
  by_cases e14 : p = 14
  · rw [if_pos e14] at h
    injection h with h
    injection h with h1 h2
    exact .inr (.inr (.inr (.inr (.inr (.inr (.inr (.inr (.inr (.inr (.inr (.inr (.inr (.inr (.inl ⟨e14, h1.symm, h2.symm⟩))))))))))))))
  rw [if_neg e14] at h
  by_cases e15 : p = 15
  · rw [if_pos e15] at h
    injection h with h
    injection h with h1 h2
    exact .inr (.inr (.inr (.inr (.inr (.inr (.inr (.inr (.inr (.inr (.inr (.inr (.inr (.inr (.inr (.inl ⟨e15, h1.symm, h2.symm⟩)))))))))))))))
  rw [if_neg e15] at h
  by_cases e16 : p = 16
  · rw [if_pos e16] at h
    injection h with h
    injection h with h1 h2
    exact .inr (.inr (.inr (.inr (.inr (.inr (.inr (.inr (.inr (.inr (.inr (.inr (.inr (.inr (.inr (.inr (⟨e16, h1.symm, h2.symm⟩))))))))))))))))
  rw [if_neg e16] at h
  cases h
theorem call_plain {p : Int} {r : List Int} {c : List (List Int)} {t : List Int} {n : Nat} (h : PyFlat.call PySr96.shape (p :: r) = some (c, t)) (hs : PySr96.shape p = some (n, 0)) : n ≤ r.length ∧ c = [p :: r.take n] ∧ t = r.drop n := by
  unfold PyFlat.call at h
  dsimp only at h
  rw [hs] at h
  dsimp only at h
  split at h
  · cases h
  · rename_i hl
    unfold PyFlat.rows at h
    dsimp only at h
    injection h with h
    injection h with h1 h2
    exact ⟨by omega, h1.symm, h2.symm⟩
theorem call_row {p : Int} {r : List Int} {c : List (List Int)} {t : List Int} (h : PyFlat.call PySr96.shape (p :: r) = some (c, t)) (hs : PySr96.shape p = some (0, 1)) : ∃ (m : Nat) (r' : List Int), r = (m : Int) :: r' ∧ m ≤ r'.length ∧ c = [[p], r'.take m] ∧ t = r'.drop m := by
  unfold PyFlat.call at h
  dsimp only at h
  rw [hs] at h
  dsimp only at h
  split at h
  · cases h
  · cases r with
    | nil =>
      simp [PyFlat.rows, PyFlat.row] at h
    | cons z r' =>
      by_cases hz : 0 ≤ z ∧ z.toNat ≤ r'.length
      · simp only [List.drop_zero, List.take_zero, PyFlat.rows, PyFlat.row, if_pos hz] at h
        injection h with h
        injection h with h1 h2
        exact ⟨z.toNat, r', by rw [Int.toNat_of_nonneg hz.1], hz.2, h1.symm, h2.symm⟩
      · simp only [List.drop_zero, List.take_zero, PyFlat.rows, PyFlat.row, if_neg hz] at h
        cases h
theorem take1 {r : List Int} (h : 1 ≤ r.length) : ∃ a, r.take 1 = [a] := by
  match r, h with
  | a :: _, _ => exact ⟨a, rfl⟩
theorem take2 {r : List Int} (h : 2 ≤ r.length) : ∃ a b, r.take 2 = [a, b] := by
  match r, h with
  | a :: b :: _, _ => exact ⟨a, b, rfl⟩
theorem take4 {r : List Int} (h : 4 ≤ r.length) : ∃ a b c d, r.take 4 = [a, b, c, d] := by
  match r, h with
  | a :: b :: c :: d :: _, _ => exact ⟨a, b, c, d, rfl⟩
theorem call_is {p : Int} {r : List Int} {c : List (List Int)} {t : List Int} (h : PyFlat.call PySr96.shape (p :: r) = some (c, t)) : ∃ (n : Nat) (nums row : List Int), CallRd p r c t n nums row := by
  have hs : ∃ n k, PySr96.shape p = some (n, k) := by
    unfold PyFlat.call at h
    dsimp only at h
    cases e : PySr96.shape p with
    | none =>
      rw [e] at h
      cases h
    | some v => exact ⟨v.1, v.2, rfl⟩
  obtain ⟨n, k, hs⟩ := hs
  have T0 : ∀ {p : Int} {n : Nat}, PySr96.shape p = some (n, 0) → PyFlat.call PySr96.shape (p :: r) = some (c, t) → atI numsT p = some (nV n) → inV (V.int p) rowsT = false →
      ((p = 0 ∧ Sr96Neutral.parseCall (PySr96.whole [p :: r.take n]) = some .create) ∨ (n ≤ r.length → p ≠ 0 ∧ ∃ call, CallOk p (r.take n) [] call ∧ Sr96Neutral.parseCall (PySr96.whole [p :: r.take n]) = some call)) → ∃ (n : Nat) (nums row : List Int), CallRd p r c t n nums row := by
    intro p n hs h h1 h2 h3
    obtain ⟨g1, g2, g3⟩ := call_plain h hs
    refine ⟨n, r.take n, [], ⟨h1, g1, rfl, .inl ⟨h2, rfl, g3⟩, .inl rfl, ?_⟩⟩
    rw [g2]
    exact h3.imp id fun z => z g1
  have T1 : ∀ {p : Int}, PySr96.shape p = some (0, 1) → PyFlat.call PySr96.shape (p :: r) = some (c, t) → atI numsT p = some (nV 0) → inV (V.int p) rowsT = true → p ≠ 0 → (∀ row, PySr96.whole [[p], row] = [[8], row] ∨ PySr96.whole [[p], row] = [[9], row]) → (∀ row, ∃ call, CallOk p [] row call ∧ Sr96Neutral.parseCall (PySr96.whole [[p], row]) = some call) →
      ∃ (n : Nat) (nums row : List Int), CallRd p r c t n nums row := by
    intro p hs h h1 h2 h3 h5 h4
    obtain ⟨m, r', g1, g2, g3, g4⟩ := call_row h hs
    refine ⟨0, [], r'.take m, ⟨h1, Nat.zero_le _, rfl, .inr ⟨h2, rfl, m, r', g1, g2, rfl, g4⟩, .inr ?_, .inr ⟨h3, ?_⟩⟩⟩
    · rw [g3]
      exact h5 _
    · rw [g3]
      exact h4 _
  rcases shape_is hs with ⟨rfl, rfl, rfl⟩ | ⟨rfl, rfl, rfl⟩ | ⟨rfl, rfl, rfl⟩ | ⟨rfl, rfl, rfl⟩ | ⟨rfl, rfl, rfl⟩ | ⟨rfl, rfl, rfl⟩ | ⟨rfl, rfl, rfl⟩ | ⟨rfl, rfl, rfl⟩ | ⟨rfl, rfl, rfl⟩ | ⟨rfl, rfl, rfl⟩ | ⟨rfl, rfl, rfl⟩ | ⟨rfl, rfl, rfl⟩ | ⟨rfl, rfl, rfl⟩ | ⟨rfl, rfl, rfl⟩ | ⟨rfl, rfl, rfl⟩ | ⟨rfl, rfl, rfl⟩ | ⟨rfl, rfl, rfl⟩
  · exact T0 hs h rfl rfl (.inl ⟨rfl, rfl⟩)
  · refine T0 hs h rfl rfl (.inr fun hl => ⟨by decide, ?_⟩)
    obtain ⟨a, b, c, d, e⟩ := take4 hl
    rw [e]
    exact ⟨_, .addBin a b c d [], rfl⟩
  · refine T0 hs h rfl rfl (.inr fun hl => ⟨by decide, ?_⟩)
    obtain ⟨a, b, e⟩ := take2 hl
    rw [e]
    exact ⟨_, .addFlour a b [], rfl⟩
  · refine T0 hs h rfl rfl (.inr fun hl => ⟨by decide, ?_⟩)
    obtain ⟨a, b, e⟩ := take2 hl
    rw [e]
    exact ⟨_, .setPrice a b [], rfl⟩
  · refine T0 hs h rfl rfl (.inr fun hl => ⟨by decide, ?_⟩)
    obtain ⟨a, e⟩ := take1 hl
    rw [e]
    exact ⟨_, .emptyBin a [], rfl⟩
  · refine T0 hs h rfl rfl (.inr fun hl => ⟨by decide, ?_⟩)
    obtain ⟨a, b, c, d, e⟩ := take4 hl
    rw [e]
    exact ⟨_, .setRequest a b c d [], rfl⟩
  · exact T0 hs h rfl rfl (.inr fun _ => ⟨by decide, _, .cheapestBlend [], rfl⟩)
  · exact T0 hs h rfl rfl (.inr fun _ => ⟨by decide, _, .makeCheapestBlend [], rfl⟩)
  · exact T1 hs h rfl rfl (by decide) (fun _ => .inl rfl) fun row => ⟨_, .makeBlend row, rfl⟩
  · exact T1 hs h rfl rfl (by decide) (fun _ => .inr rfl) fun row => ⟨_, .checkBlend row, rfl⟩
  · exact T0 hs h rfl rfl (.inr fun _ => ⟨by decide, _, .countBlends [], rfl⟩)
  · exact T0 hs h rfl rfl (.inr fun _ => ⟨by decide, _, .greatestAmount [], rfl⟩)
  · refine T0 hs h rfl rfl (.inr fun hl => ⟨by decide, ?_⟩)
    obtain ⟨a, e⟩ := take1 hl
    rw [e]
    exact ⟨_, .extremeAverages a [], rfl⟩
  · exact T0 hs h rfl rfl (.inr fun _ => ⟨by decide, _, .obstacle [], rfl⟩)
  · refine T0 hs h rfl rfl (.inr fun hl => ⟨by decide, ?_⟩)
    obtain ⟨a, b, e⟩ := take2 hl
    rw [e]
    exact ⟨_, .cheapestIfPrice a b [], rfl⟩
  · refine T0 hs h rfl rfl (.inr fun hl => ⟨by decide, ?_⟩)
    obtain ⟨a, e⟩ := take1 hl
    rw [e]
    exact ⟨_, .cheapestWithout a [], rfl⟩
  · exact T0 hs h rfl rfl (.inr fun _ => ⟨by decide, _, .describe [], rfl⟩)
/-- one call read off the list -/
theorem calls_cons {f : Nat} {p : Int} {r : List Int} {raw : List (List (List Int))} (h : PyFlat.calls PySr96.shape f (p :: r) = some raw) : ∃ (f' : Nat) (c : List (List Int)) (t : List Int) (raw' : List (List (List Int))), PyFlat.call PySr96.shape (p :: r) = some (c, t) ∧ PyFlat.calls PySr96.shape f' t = some raw' ∧ raw = c :: raw' := by
  cases f with
  | zero => cases h
  | succ f =>
    unfold PyFlat.calls at h
    cases e : PyFlat.call PySr96.shape (p :: r) with
    | none =>
      rw [e] at h
      cases h
    | some v =>
      obtain ⟨c, t⟩ := v
      rw [e] at h
      dsimp only at h
      cases e2 : PyFlat.calls PySr96.shape f t with
      | none =>
        rw [e2] at h
        cases h
      | some cs =>
        rw [e2] at h
        exact ⟨f, c, t, cs, rfl, e2, (Option.some.inj h).symm⟩
/-- what a step of the specification gives -/
theorem step_create {c : List (List Int)} (h : Sr96Neutral.parseCall c = some .create) (st : Sr96.State) : Sr96Neutral.step st c = (some ⟨[], ⟨1, 0, 999, 999⟩, 0⟩, [0]) := by
  unfold Sr96Neutral.step
  rw [h]
  rfl
theorem step_none {c : List (List Int)} {call : Sr96.Call} {z : Int} {nums row : List Int} (h : Sr96Neutral.parseCall c = some call) (k : CallOk z nums row call) : Sr96Neutral.step none c = (none, [-11]) := by
  unfold Sr96Neutral.step
  rw [h]
  cases k <;> rfl
theorem step_some {c : List (List Int)} {call : Sr96.Call} {z : Int} {nums row : List Int} (h : Sr96Neutral.parseCall c = some call) (k : CallOk z nums row call) (s : Sr96.Store) : Sr96Neutral.step (some s) c = (some (stepS s call), ansL s call) := by
  unfold Sr96Neutral.step
  rw [h]
  have e : Sr96.step (some s) call = (some (stepS s call), (Sr96.perform s call).2) := by
    have g : Sr96.step (some s) call = match Sr96.perform s call with | (some changed, result) => (some changed, result) | (none, result) => (some s, result) := by
      cases k <;> rfl
    rw [g]
    unfold stepS
    cases Sr96.perform s call with
    | mk a b => cases a <;> rfl
  dsimp only
  rw [e]
  rfl
end FB

/-! ## FBR -/
set_option maxRecDepth 100000
set_option maxHeartbeats 2000000
/-! answers. -/
namespace FB
open PySem PySem.Spec PyProof.Rows L2 LamX
def spAns (K : PySem.W.Frag) (T : Addr) : Sp := fun vs H Q _ => ∃ (c : Addr) (ns : List Int), vs = [.ref c] ∧ SqL K H c (ns.map V.int) ∧ PySr96.answers_asked ns = true ∧ H T = some (.tbl #[]) ∧ ∀ H' p, H' p = some (.lst ((PySr96.answers ns).map V.int)) → Q (.ref p) H'
/-- what stands for the state: None, or a bakery -/
def StAt (A : Ads) (T : Addr) (H0 H : Hp) (v : V) : Sr96.State → Prop
  | none => v = .non ∧ Same H0 H ∧ (∀ b ps, H0 b ≠ some (.tbl ps)) ∧ TabS H T lamQ
  | some s => ∃ p, v = .ref p ∧ BakAt A T H0 H p s
section
variable {A : Ads} {T : Addr} {H0 H : Hp} {v : V} {st : Sr96.State}
theorem StAt.all (h : StAt A T H0 H v st) : Same H0 H ∧ (∀ b ps, H0 b ≠ some (.tbl ps)) ∧ TabS H T lamQ := by
  cases st with
  | none => exact h.2
  | some s =>
    obtain ⟨p, _, dx, l, q, as, B⟩ := h
    exact ⟨B.ext, B.notab, B.tab⟩
theorem StAt.put (h : StAt A T H0 H v st) {b : Addr} {o : HO} (ho : ∀ ps, o ≠ .tbl ps) (hb : H b = none ∨ ∃ u, H0 b = some u ∧ ∀ φ, u ≠ .ext φ) : StAt A T (upd H0 b o) (upd H b o) v st := by
  cases st with
  | some s =>
    obtain ⟨p, e, B⟩ := h
    exact ⟨p, e, B.put ho hb⟩
  | none =>
    obtain ⟨e, s0, nt, tb⟩ := h
    refine ⟨e, fun c u z => ?_, fun c ps z => ?_, ?_⟩
    · by_cases hc : c = b
      · rw [hc, upd_same] at z ⊢
        exact z
      · rw [upd_ne hc] at z ⊢
        exact s0 c u z
    · by_cases hc : c = b
      · rw [hc, upd_same] at z
        exact ho ps (Option.some.inj z)
      · rw [upd_ne hc] at z
        exact nt c ps z
    · rcases hb with h | ⟨u, h, hv⟩
      · refine tabS_upd tb (fun z => ?_) fun c z => ?_
        · obtain ⟨ps, k1, _⟩ := tb
          rw [← z, h] at k1
          cases k1
        · rw [h] at z
          cases z
      · have e := s0 b u h
        exact tabS_upd tb (not_tbl (fun ps w => nt b ps (by rw [h, w])) tb e) (code_ne hv e)
theorem StAt.same (h : StAt A T H0 H v st) {H1 : Hp} (e : Same H H1) : StAt A T H0 H1 v st := by
  cases st with
  | some s =>
    obtain ⟨p, z, B⟩ := h
    exact ⟨p, z, B.same e⟩
  | none =>
    obtain ⟨z, s0, nt, tb⟩ := h
    exact ⟨z, s0.trans e, nt, tb.ext e⟩
end
theorem relR {a : Addr} : RelV (.ref a) (Value.ref a) := rfl
theorem told_cons (a : List Int) (l : List (List Int)) : PyFlat.told (a :: l) = ((a.length : Nat) : Int) :: (a ++ PyFlat.told l) := by
  unfold PyFlat.told
  rw [List.flatMap_cons]
  rfl
/-- what is still to be said: the calls left, from a state -/
def left (st : Sr96.State) (raw : List (List (List Int))) : List Int := PyFlat.told (PyFlat.played Sr96Neutral.step st (raw.map PySr96.whole))
theorem left_nil (st : Sr96.State) : left st [] = [] := rfl
theorem left_cons (st : Sr96.State) (c : List (List Int)) (raw : List (List (List Int))) : left st (c :: raw) = (((Sr96Neutral.step st (PySr96.whole c)).2.length : Nat) : Int) :: ((Sr96Neutral.step st (PySr96.whole c)).2 ++ left (Sr96Neutral.step st (PySr96.whole c)).1 raw) := by
  unfold left
  rw [List.map_cons]
  exact told_cons _ _
theorem drop_at {ns : List Int} {i : Nat} (h : i < ns.length) : ∃ z, ns[i]? = some z ∧ ns.drop i = z :: ns.drop (i + 1) := ⟨ns[i], List.getElem?_eq_getElem h, List.drop_eq_getElem_cons h⟩
/-- the row that a call brings is short -/
theorem row_short {p : Int} {r : List Int} {c : List (List Int)} {t : List Int} {n : Nat} {nums row : List Int} (R : CallRd p r c t n nums row) (hk : Sr96Neutral.asked1 (PySr96.whole c) = true) : row.length ≤ 70 := by
  rcases R.form with e | e | e
  · rw [e]
    exact Nat.zero_le _
  · rw [e] at hk
    have z : (Sr96Neutral.areInt32 row && decide (row.length ≤ 70)) = true := hk
    simp only [Bool.and_eq_true, decide_eq_true_eq] at z
    exact z.2
  · rw [e] at hk
    have z : (Sr96Neutral.areInt32 row && decide (row.length ≤ 70)) = true := hk
    simp only [Bool.and_eq_true, decide_eq_true_eq] at z
    exact z.2
/-- where the program stands between two calls -/
structure At (K : PySem.W.Frag) (A : Ads) (T : Addr) (ns : List Int) (Hc H : Hp) (c r an : Addr) (v2 : V) (pl : Nat) (st : Sr96.State) (out : List Int) (H0 : Hp) : Prop where
  st : StAt A T H0 H v2 st
  base : Same Hc H0
  rd : ∃ dx, H0 r = some (.ins A.cR dx (rdF c pl))
  out : H0 an = some (.lst (out.map V.int))
section
variable {K : PySem.W.Frag} {A : Ads} {T : Addr} {ns : List Int} {Hc H H0 : Hp} {c r an : Addr} {v2 : V} {pl : Nat} {st : Sr96.State} {out : List Int}
/-- a new list -/
theorem At.newL (a : At K A T ns Hc H c r an v2 pl st out H0) {b : Addr} {xs : List V} (n : H b = none) : At K A T ns Hc (upd H b (.lst xs)) c r an v2 pl st out (upd H0 b (.lst xs)) := by
  have s0 := a.st.all.1
  have n0 := s0.free n
  obtain ⟨dx, hr⟩ := a.rd
  exact ⟨a.st.put (lst_no_tbl xs).1 (.inl n), same_upd a.base n0, ⟨dx, (upd_ne (ne_of_none hr n0)).trans hr⟩, (upd_ne (ne_of_none a.out n0)).trans a.out⟩
/-- the reader goes on -/
theorem At.go (a : At K A T ns Hc H c r an v2 pl st out H0) (nr : Hc r = none) {dx : Addr} (hr : H0 r = some (.ins A.cR dx (rdF c pl))) (m : Nat) : At K A T ns Hc (upd H r (.ins A.cR dx (rdF c m))) c r an v2 m st out (upd H0 r (.ins A.cR dx (rdF c m))) := by
  have ne : an ≠ r := ne_of a.out hr (fun e => by cases e)
  exact ⟨a.st.put (ins_no_tbl _ _ _).1 (.inr ⟨_, hr, (ins_no_tbl _ _ _).2⟩), same_put0 a.base nr, ⟨dx, upd_same⟩, (upd_ne ne).trans a.out⟩
/-- what was answered is written -/
theorem At.say (a : At K A T ns Hc H c r an v2 pl st out H0) (nan : Hc an = none) (out' : List Int) : At K A T ns Hc (upd H an (.lst (out'.map V.int))) c r an v2 pl st out' (upd H0 an (.lst (out'.map V.int))) := by
  obtain ⟨dx, hr⟩ := a.rd
  have ne : r ≠ an := ne_of hr a.out (fun e => by cases e)
  exact ⟨a.st.put (lst_no_tbl _).1 (.inr ⟨_, a.out, (lst_no_tbl _).2⟩), same_put0 a.base nan, ⟨dx, (upd_ne ne).trans hr⟩, upd_same⟩
/-- the state ahead of a turn, m numbers left -/
def LoopW (K : PySem.W.Frag) (A : Ads) (T : Addr) (ns : List Int) (Hc : Hp) (c r an : Addr) (m : Nat) (σ : L2.St) (H : Hp) : Prop :=
  ∃ (pl f : Nat) (raw : List (List (List Int))) (out : List Int) (st : Sr96.State) (v2 : V) (v4 v5 v6 v7 : Option V) (H0 : Hp), m = ns.length - pl ∧ pl ≤ ns.length ∧ PyFlat.calls PySr96.shape f (ns.drop pl) = some raw ∧ (∀ c ∈ raw, Sr96Neutral.asked1 (PySr96.whole c) = true) ∧
    out ++ left st raw = PySr96.answers ns ∧ σ = [some (.ref c), some (.ref r), some v2, some (.ref an), v4, v5, v6, v7] ∧ At K A T ns Hc H c r an v2 pl st out H0
/-- the list of calls alone -/
theorem calls_base {xs : List V} (hs : SqL K H c xs) : ∃ Hc : Hp, SqL K Hc c xs ∧ Same Hc H ∧ ∀ b ps, Hc b ≠ some (.tbl ps) := by
  have one : ∀ {o : HO}, H c = some o → (∀ ps, o ≠ .tbl ps) → Same (fun b => if b = c then some o else none) H ∧ ∀ b ps, (fun b => if b = c then some o else none) b ≠ some (.tbl ps) := fun {o} e n => by
    refine ⟨fun b u z => ?_, fun b ps z => ?_⟩
    · by_cases hb : b = c
      · have z' : some o = some u := (if_pos hb).symm.trans z
        rw [hb, e]
        exact z'
      · have z' : (none : Option HO) = some u := (if_neg hb).symm.trans z
        cases z'
    · by_cases hb : b = c
      · have z' : some o = some (HO.tbl ps) := (if_pos hb).symm.trans z
        exact n ps (Option.some.inj z')
      · have z' : (none : Option HO) = some (HO.tbl ps) := (if_neg hb).symm.trans z
        cases z'
  rcases hs with (h | ⟨o, h⟩) | h
  · obtain ⟨h1, h2⟩ := one h (fun ps z => by cases z)
    exact ⟨_, .inl (.inl (if_pos rfl)), h1, h2⟩
  · obtain ⟨h1, h2⟩ := one h (fun ps z => by cases z)
    exact ⟨_, .inl (.inr ⟨o, if_pos rfl⟩), h1, h2⟩
  · exact ⟨fun _ => none, .inr h, (fun _ _ z => by cases z), (fun _ _ z => by cases z)⟩
end
section
variable {P : Program} {w : World} {K : PySem.W.Frag} {mg : Str → Option Value} {base : Heap} {A : Ads} {c0 Tb : Addr}
theorem ok_an (T : Txt K mg A) (L : LamH K mg base c0 Tb) : FnOk P w K mg base CX0 14 A.d_an.f A.d_an.fd ["calls"] (spAns K Tb) := by
  refine T.an.F.ok c_an (fun vs H Q E h => ?_) (fun cdv Ar outer s H vs Q E hr h => ?_)
  · obtain ⟨c, ns, rfl, _⟩ := h
    rfl
  · obtain ⟨c, ns, rfl, hs, hask, hT, kq⟩ := h
    have hr1 : Room 1 _ := hr.mono (by decide)
    have hr2 : Room 2 _ := hr.mono (by decide)
    have hr4 : Room 4 _ := hr.mono (by decide)
    refine ⟨_, pss_cons (ps_set (i := 1) c_an.nd rfl (Or.inl rfl) (pe_make T.Ri.M (ok_Ri T) hr2 (by rfl) T.mgR T.Ri.b .nil pass0 (pa_cons (pv 0) pa_nil)))
      (pss_cons (ps_set (i := 2) c_an.nd rfl (Or.inl rfl) pe_non)
      (pss_cons (ps_set (i := 3) c_an.nd rfl (Or.inl rfl) (pe_lst pa_nil))
      (pss_cons (ps_while PassesOwn.never (pt_val (pe_meth0 (pv 1) T.clR T.more.m (ok_more T) hr1 T.more.b .nil pass0))
        (pss_cons (ps_set (i := 4) c_an.nd rfl (Or.inl rfl) (pe_meth0 (pv 1) T.clR T.one.m (ok_one T) hr1 T.one.b .nil pass0))
        (pss_cons (ps_set (i := 5) c_an.nd rfl (Or.inl rfl) (pe_meth (pv 1) T.clR T.several.m (ok_several T) hr1 T.several.b .nil pass0 (pa_cons (pe_ix ix_tup (pe_glob rfl T.mg_NUMBERS_OF_CALL relR) (pv 4) (fun _ _ => rfl)) pa_nil)))
        (C8.pss_cut (ps_set (i := 6) c_an.nd rfl (Or.inl rfl) (pe_ifExp (pt_cmpR op_in_seq (pv 4) (pe_glob rfl T.mg_CALLS_WITH_ROW relR) (by rfl)) (pe_meth (pv 1) T.clR T.several.m (ok_several T) hr1 T.several.b .nil pass0 (pa_cons (pe_meth0 (pv 1) T.clR T.one.m (ok_one T) hr1 T.one.b .nil pass0) pa_nil)) (pe_lst pa_nil)))
        (C8.pss_cut (ps_if (pt_cmpR op_eq (pv 4) (pe_glob rfl T.g_CREATE relI) (nomark _))
            (pss_cons (ps_set (i := 2) c_an.nd rfl (Or.inl rfl) (pe_make0 T.Ki.M (ok_Ki T (Tb := Tb)) hr4 (by rfl) T.mgK T.Ki.b .nil pass0)) (pss_one (ps_set (i := 7) c_an.nd rfl (Or.inl rfl) (pe_lst (pa_cons pe_int pa_nil)))))
            (pss_one (ps_if (pt_cmpR op_isN (pv 2) pe_non (nomark _)) (pss_one (ps_set (i := 7) c_an.nd rfl (Or.inl rfl) (pe_lst (pa_cons (pe_glob rfl T.g_NO_INSTANCE relI) pa_nil))))
              (pss_one (ps_set (i := 7) c_an.nd rfl (Or.inl rfl) (pe_call (ok_ao T L) hr rfl T.ao.g T.ao.k T.ao.b .nil pass0 (pa_cons (pv 2) (pa_cons (pv 4) (pa_cons (pv 5) (pa_cons (pv 6) pa_nil))))))))))
        (pss_cons (ps_expr (pe_bm PySem.F.plainAttrs_list PySem.F.slot_list_append PySem.F.type_list_append mt_append (pv 3) (pa_cons (pe_callB call_len_seq (by rfl) T.b_len PySem.boot_len (pa_cons (pv 7) pa_nil)) pa_nil)))
        (pss_one (ps_expr (pe_bm PySem.F.plainAttrs_list PySem.F.slot_list_extend PySem.F.type_list_extend mt_extend (pv 3) (pa_cons (pv 7) pa_nil))))))))))
      (pss_one (ps_ret (pv 3)))))), ?_⟩
    obtain ⟨Hc, hcs, hcH, hct⟩ := calls_base hs
    -- what is asked of the list
    obtain ⟨raw0, hraw0, hk0, hshort, hans⟩ : ∃ raw0, PyFlat.calls PySr96.shape ns.length ns = some raw0 ∧ (∀ c ∈ raw0, Sr96Neutral.asked1 (PySr96.whole c) = true) ∧ (PySr96.answers ns).length ≤ 10000000 ∧ PySr96.answers ns = left none raw0 := by
      unfold PySr96.answers_asked at hask
      cases e : PyFlat.calls PySr96.shape ns.length ns with
      | none =>
        rw [e] at hask
        cases hask
      | some raw =>
        rw [e] at hask
        simp only [Bool.and_eq_true] at hask
        obtain ⟨⟨_, h4⟩, h5⟩ := hask
        unfold Sr96Neutral.asked at h4
        simp only [Bool.and_eq_true, List.all_eq_true] at h4
        unfold PyFlat.short at h5
        refine ⟨raw, rfl, fun c hc => h4.2.2 _ (List.mem_map.mpr ⟨c, hc, rfl⟩), of_decide_eq_true h5, ?_⟩
        unfold PySr96.answers PySr96.calls
        rw [e]
        rfl
    refine ⟨_, rfl, fun x dx nx ndx nex => ⟨x, dx, c, rfl, upd_same, rfl, ?_⟩⟩
    have hx3 : upd (upd (upd H dx (.own x)) x (.ins A.cR dx [])) x (.ins A.cR dx (rdF c 0)) x = some (.ins A.cR dx (rdF c 0)) := upd_same
    have sx3 : Same (upd H x (.ins A.cR dx (rdF c 0))) (upd (upd (upd H dx (.own x)) x (.ins A.cR dx [])) x (.ins A.cR dx (rdF c 0))) := fun b o e => by
      by_cases hb : b = x
      · rw [hb, upd_same] at e
        rw [hb, upd_same]
        exact e
      · rw [upd_ne hb] at e
        rw [upd_ne hb, upd_ne hb, upd_ne (ne_of_none e ndx)]
        exact e
    have stA : StAt A Tb Hc H .non none := ⟨rfl, hcH, hct, TabS.nil hT⟩
    have stB := (stA.put (b := x) (o := .ins A.cR dx (rdF c 0)) (ins_no_tbl _ _ _).1 (.inl nx)).same sx3
    generalize upd (upd (upd H dx (.own x)) x (.ins A.cR dx [])) x (.ins A.cR dx (rdF c 0)) = H3 at hx3 sx3 stB
    have ncx : Hc x = none := hcH.free nx
    refine ⟨Nat.zero_le _, fun an nan => ?_⟩
    have sB := stB.all.1
    have nan0 := sB.free nan
    have nxan : x ≠ an := ne_of_none hx3 nan
    have ncan : Hc an = none := (upd_ne (Ne.symm nxan)).symm.trans nan0
    have stC := stB.put (b := an) (o := .lst []) (lst_no_tbl _).1 (.inl nan)
    have at0 : At K A Tb ns Hc (upd H3 an (.lst [])) c x an .non 0 none [] (upd (upd Hc x (.ins A.cR dx (rdF c 0))) an (.lst [])) := ⟨stC, same_put0 (same_put0 (Same.refl _) ncx) ncan, ⟨dx, (upd_ne nxan).trans upd_same⟩, upd_same⟩
    refine ⟨LoopW K A Tb ns Hc c x an, ⟨_, 0, ns.length, raw0, [], none, .non, none, none, none, none, _, rfl, Nat.zero_le _, hraw0, hk0, hans.symm, rfl, at0⟩, ?_⟩
    rintro m σ H1 ⟨pl, f, raw, out, st, v2, v4, v5, v6, v7, H0, rfl, hpl, hraw, hk, hout, rfl, a0⟩
    obtain ⟨dr, hr0⟩ := a0.rd
    have s0 := a0.st.all.1
    have hxa := s0 _ _ hr0
    refine ⟨_, rfl, x, dr, _, rfl, hxa, rfl, x, dr, c, pl, ns, rfl, hxa, (a0.base.trans s0).seq hcs, decide (pl < ns.length), rfl, ?_⟩
    by_cases cl : pl < ns.length
    · rw [decide_eq_true cl]
      refine iteT ⟨fun σ' H' => ∃ m', m' < ns.length - pl ∧ LoopW K A Tb ns Hc c x an m' σ' H', fun _ _ z => z, ?_⟩
      obtain ⟨z, hz, hd⟩ := drop_at cl
      rw [hd] at hraw
      obtain ⟨f', cc, t, raw', hcall, hraw', rfl⟩ := calls_cons hraw
      obtain ⟨n, nums, row, R⟩ := call_is hcall
      have hkc := hk cc (List.mem_cons_self ..)
      have h70 := row_short R hkc
      -- call = reader.take_one()
      refine ⟨_, rfl, x, dr, _, rfl, hxa, rfl, x, dr, c, pl, ns, z, rfl, hxa, (a0.base.trans s0).seq hcs, hz, ?_⟩
      have a1 := a0.go ncx hr0 (pl + 1)
      have hq1 : SqL K (upd H1 x (.ins A.cR dr (rdF c (pl + 1)))) c (ns.map V.int) := (a1.base.trans a1.st.all.1).seq hcs
      -- numbers = reader.take_several(NUMBERS_OF_CALL[call])
      refine ⟨_, rfl, x, dr, _, rfl, upd_same, rfl, _, rfl, A.tNum, numsT, z, nV n, rfl, rfl, T.at_NUMBERS_OF_CALL _, R.tab, x, dr, c, pl + 1, n, ns, rfl, upd_same, hq1, fun na nna => ?_⟩
      have eN : ((ns.drop (pl + 1)).take n).map V.int = nums.map V.int := by rw [R.isN]
      rw [eN]
      have a2 := a1.newL (xs := nums.map V.int) nna
      have hr2 : upd (upd H0 x (.ins A.cR dr (rdF c (pl + 1)))) na (.lst (nums.map V.int)) x = some (.ins A.cR dr (rdF c (pl + 1))) := (upd_ne (ne_of_none upd_same (a1.st.all.1.free nna))).trans upd_same
      have a3 := a2.go ncx hr2 (pl + 1 + n)
      have hna3 : upd (upd (upd H0 x (.ins A.cR dr (rdF c (pl + 1)))) na (.lst (nums.map V.int))) x (.ins A.cR dr (rdF c (pl + 1 + n))) na = some (.lst (nums.map V.int)) := (upd_ne (Ne.symm (ne_of_none upd_same (a1.st.all.1.free nna)))).trans upd_same
      have hr3 : upd (upd (upd H0 x (.ins A.cR dr (rdF c (pl + 1)))) na (.lst (nums.map V.int))) x (.ins A.cR dr (rdF c (pl + 1 + n))) x = some (.ins A.cR dr (rdF c (pl + 1 + n))) := upd_same
      generalize upd (upd (upd H0 x (.ins A.cR dr (rdF c (pl + 1)))) na (.lst (nums.map V.int))) x (.ins A.cR dr (rdF c (pl + 1 + n))) = H03 at a3 hna3 hr3
      have hx3' := a3.st.all.1 _ _ hr3
      have hq3 := (a3.base.trans a3.st.all.1).seq hcs
      generalize upd (upd (upd H1 x (.ins A.cR dr (rdF c (pl + 1)))) na (.lst (nums.map V.int))) x (.ins A.cR dr (rdF c (pl + 1 + n))) = H13 at a3 hx3' hq3
      have hnl : n ≤ (ns.drop (pl + 1)).length := R.le
      rw [List.length_drop] at hnl
      -- row = ..
      refine ⟨fun σ' H' => ∃ (ra : Addr) (pl' : Nat) (H0' : Hp), σ' = [some (.ref c), some (.ref x), some v2, some (.ref an), some (.int z), some (.ref na), some (.ref ra), v7] ∧ At K A Tb ns Hc H' c x an v2 pl' st out H0' ∧ H0' na = some (.lst (nums.map V.int)) ∧ H0' ra = some (.lst (row.map V.int)) ∧ ns.drop pl' = t ∧ pl < pl' ∧ pl' ≤ ns.length, ?_, ?_⟩
      · refine ⟨_, rfl, A.tRow, rowsT, rfl, .inr (T.at_CALLS_WITH_ROW _), rfl, rfl, inV (V.int z) rowsT, rfl, ?_⟩
        rcases R.rest with ⟨e1, e2, e3⟩ | ⟨e1, e2, mm, r', e3, e4, e5, e6⟩
        · rw [e1]
          refine iteF ⟨Nat.zero_le _, fun ra nra => ⟨ra, pl + 1 + n, _, rfl, a3.newL nra, ?_, ?_, ?_, by omega, by omega⟩⟩
          · exact (upd_ne (ne_of_none hna3 (a3.st.all.1.free nra))).trans hna3
          · rw [upd_same, e2]
            rfl
          · rw [e3, List.drop_drop]
        · rw [e1]
          subst e2
          have hlt1 : pl + 1 < ns.length := by
            have q := congrArg List.length e3
            rw [List.length_drop, List.length_cons] at q
            omega
          obtain ⟨z2, hz2, hd2⟩ := drop_at hlt1
          rw [hd2] at e3
          injection e3 with e7 e8
          rw [e7] at hz2
          have hml : mm ≤ ns.length - (pl + 1 + 1) := by
            have q := e4
            rw [← e8, List.length_drop] at q
            exact q
          have hr4 := a3.go ncx hr3 (pl + 1 + 0 + 1)
          have hq4 := (hr4.base.trans hr4.st.all.1).seq hcs
          refine iteT ⟨_, rfl, x, dr, _, rfl, hx3', rfl, _, rfl, x, dr, _, rfl, hx3', rfl, x, dr, c, pl + 1 + 0, ns, (mm : Int), rfl, hx3', hq3, hz2, x, dr, c, pl + 1 + 0 + 1, mm, ns, rfl, upd_same, hq4, fun ra nra => ?_⟩
          have a5 := hr4.newL (xs := row.map V.int) nra
          have nxra := ne_of_none (H := upd H03 x (.ins A.cR dr (rdF c (pl + 1 + 0 + 1)))) upd_same (hr4.st.all.1.free nra)
          have hr5 : upd (upd H03 x (.ins A.cR dr (rdF c (pl + 1 + 0 + 1)))) ra (.lst (row.map V.int)) x = some (.ins A.cR dr (rdF c (pl + 1 + 0 + 1))) := (upd_ne nxra).trans upd_same
          have a6 := a5.go ncx hr5 (pl + 1 + 0 + 1 + mm)
          have eR : ((ns.drop (pl + 1 + 0 + 1)).take mm).map V.int = row.map V.int := by rw [e5, ← e8]
          rw [eR]
          have nnax : na ≠ x := ne_of hna3 hr3 (fun e => by cases e)
          refine ⟨ra, pl + 1 + 0 + 1 + mm, _, rfl, a6, ?_, ?_, ?_, by omega, by omega⟩
          · have q1 : upd H03 x (.ins A.cR dr (rdF c (pl + 1 + 0 + 1))) na = some (.lst (nums.map V.int)) := (upd_ne nnax).trans hna3
            exact (upd_ne nnax).trans ((upd_ne (ne_of_none q1 (hr4.st.all.1.free nra))).trans q1)
          · exact (upd_ne (Ne.symm nxra)).trans upd_same
          · rw [e6, ← e8, List.drop_drop]
      · rintro σ' H6 ⟨ra, pl', H06, rfl, a6, hna6, hra6, hdrop, hlt, hle⟩
        refine ⟨fun σ' H' => ∃ (v2' : V) (a : Addr) (H0' : Hp), σ' = [some (.ref c), some (.ref x), some v2', some (.ref an), some (.int z), some (.ref na), some (.ref ra), some (.ref a)] ∧ At K A Tb ns Hc H' c x an v2' pl' (Sr96Neutral.step st (PySr96.whole cc)).1 out H0' ∧ H0' a = some (.lst ((Sr96Neutral.step st (PySr96.whole cc)).2.map V.int)) ∧ an ≠ a, ?_, ?_⟩
        · refine ⟨_, rfl, rfl, decide (V.int z = V.int 0), rfl, ?_⟩
          rcases R.means with ⟨rfl, hp⟩ | ⟨hz0, call, hcall', hp⟩
          · rw [step_create hp st]
            obtain ⟨q1, q2, q3⟩ := a6.st.all
            refine iteT (fun p dp np ndp nep => ⟨H06, p, dp, rfl, same_put0 (same_put0 q1 (q1.free ndp)) (q1.free np), q2, ?_, q1.free np, upd_same, fun H7 B7 => ⟨rfl, (by show 1 ≤ sizeLine; decide), fun a na' => ?_⟩⟩)
            · exact q3.ext fun b o e => by rw [upd_ne (ne_of_none e np), upd_ne (ne_of_none e ndp)]; exact e
            · have a7 : At K A Tb ns Hc H7 c x an (.ref p) pl' (some ⟨[], ⟨1, 0, 999, 999⟩, 0⟩) out H06 := ⟨⟨p, rfl, B7⟩, a6.base, a6.rd, a6.out⟩
              exact ⟨.ref p, a, _, rfl, a7.newL na', upd_same, ne_of_none a7.out (a7.st.all.1.free na')⟩
          · have hz1 : ¬ (V.int z = V.int 0) := fun e => hz0 (by injection e)
            rw [decide_eq_false hz1]
            refine iteF ?_
            cases st with
            | none =>
              rw [step_none hp hcall']
              obtain ⟨rfl, q⟩ := a6.st
              refine ⟨_, rfl, rfl, true, rfl, iteT ⟨(by show 1 ≤ sizeLine; decide), fun a na' => ?_⟩⟩
              exact ⟨.non, a, _, rfl, a6.newL na', upd_same, ne_of_none a6.out (a6.st.all.1.free na')⟩
            | some s =>
              rw [step_some hp hcall' s]
              obtain ⟨p, rfl, BA⟩ := a6.st
              refine ⟨_, rfl, rfl, false, rfl, iteF ⟨_, rfl, _, rfl, _, rfl, _, rfl, H06, p, s, na, ra, z, nums, row, call, rfl, BA, hna6, hra6, h70, hcall', fun a H7 n7 B7 => ?_⟩⟩
              obtain ⟨dr6, hr6⟩ := a6.rd
              exact ⟨.ref p, a, _, rfl, ⟨⟨p, rfl, B7⟩, same_upd a6.base n7, ⟨dr6, (upd_ne (ne_of_none hr6 n7)).trans hr6⟩, (upd_ne (ne_of_none a6.out n7)).trans a6.out⟩, upd_same, ne_of_none a6.out n7⟩
        · rintro σ' H8 ⟨v2', a, H08, rfl, a8, ha8, nea⟩
          rw [left_cons] at hout
          generalize Sr96Neutral.step st (PySr96.whole cc) = stp at hout a8 ha8
          obtain ⟨st', ansl⟩ := stp
          dsimp only at hout a8 ha8
          have q8 := a8.st.all.1
          have han8 := q8 _ _ a8.out
          have haa8 := q8 _ _ ha8
          have hlen := congrArg List.length hout
          rw [List.length_append, List.length_cons, List.length_append] at hlen
          refine ⟨_, rfl, .inl ⟨rfl, _, SqL.of han8⟩, _, rfl, a, _, rfl, .inl (SqL.of haa8), an, _, _, rfl, rfl, han8, ?_, ?_⟩
          · rw [List.length_map]
            exact size_less (by omega)
          · refine ⟨_, rfl, .inl ⟨rfl, _, SqL.of upd_same⟩, _, rfl, an, a, _, _, rfl, rfl, upd_same, (upd_ne (Ne.symm nea)).trans haa8, ?_, ?_⟩
            · rw [List.length_append, List.length_map, List.length_map, List.length_singleton]
              exact size_small (by omega)
            · have eO : out.map V.int ++ [V.int (((ansl.map V.int).length : Nat) : Int)] ++ ansl.map V.int = (out ++ ((ansl.length : Nat) : Int) :: ansl).map V.int := by
                rw [List.map_append, List.map_cons, List.length_map, List.append_assoc]
                rfl
              rw [upd_upd, eO]
              have a9 := a8.say ncan (out ++ ((ansl.length : Nat) : Int) :: ansl)
              refine ⟨ns.length - pl', by omega, pl', f', raw', _, st', v2', _, _, _, _, _, rfl, hle, by rw [hdrop]; exact hraw', fun c hc => hk c (List.mem_cons_of_mem _ hc), ?_, rfl, a9⟩
              rw [← hout, List.append_assoc, List.cons_append]
    · rw [decide_eq_false cl]
      have e0 : ns.drop pl = [] := List.drop_of_length_le (by omega)
      have er : raw = [] := by
        rw [e0] at hraw
        cases f <;> exact (Option.some.inj hraw).symm
      subst er
      rw [left_nil, List.append_nil] at hout
      refine iteF ⟨_, rfl, kq _ an ?_⟩
      rw [← hout]
      exact s0 _ _ a0.out
end
end FB

/-! ## FBEnd -/
set_option maxRecDepth 100000
set_option maxHeartbeats 2000000
/-! The end of a Spec row whose program makes a lambda in one def: the table of that def's code object is tracked from the start. -/
namespace FB
open PySem PySem.Spec PyProof.Rows L2 LamX
open PySem.W (WData Codec OpenSpec Well WellAll ReadsW ReadsAllW)
/-- an empty table at T beside what H tracks -/
def withTab (H : Hp) (T : Addr) : Hp := fun b => if b = T then some (.tbl #[]) else H b
theorem withTab_at (H : Hp) (T : Addr) : withTab H T T = some (.tbl #[]) := if_pos rfl
theorem withTab_ne {H : Hp} {T b : Addr} (n : b ≠ T) : withTab H T b = H b := if_neg n
theorem noTab_lookup {K : PySem.W.Frag} {h : Heap} {T : Addr} (X : K.In h) (e : h.get? T = some { cls := .none, data := .fields #[] }) (n : PySem.W.noTabs K = true) : K.lookup T = none := by
  cases q : K.lookup T with
  | none => rfl
  | some o =>
    have z := X T o q
    rw [e] at z
    cases z
    exact absurd (show false = true from List.all_eq_true.mp n _ (PySem.W.mem_of_lookupK q)) Bool.false_ne_true
section
variable {P : Program} {w : World} {K : PySem.W.Frag} {mg mb : Str → Option Value} {CX : CXT} {k : Nat} {fa c T : Addr} {fd : FuncData} {ps : List Str} {sp : Sp} {z : Shared} {vals : List Value} {ds : List WData} {R : PySem.W.WRecords} {cl : Str → Option Addr} {d0 : WData}
theorem spec_callT (KX : K.In z.heap) (hns : z.heap.Ns mainGlobals mg) (hb : z.heap.Ns builtinsNs mb) (hbb : ∀ x : Str, x ≠ "__name__" → mb x = bootBuiltins x) (hlim : z.heap.NoLimit) (hg : z.gens = #[])
    (hT : z.heap.get? T = some { cls := .none, data := .fields #[] }) (nT : K.lookup T = none) (C : PySem.W.CodeHd z.heap c T)
    (hbm : ∃ (bm : Addr) (ob : Obj), mg "__builtins__" = some (.ref bm) ∧ bm ≠ builtinsNs ∧ z.heap.get? bm = some ob ∧ ob.cls = .type "module" ∧ ob.dict = some builtinsNs ∧ ob.data = .plain)
    (hwl : WellAll w.params z.heap vals ds) (hpl : plWs ds = true) (hwt : ∀ d ∈ ds, d.weight ≤ 1048576) (hr : Room k callerA)
    (F : ∀ base : Heap, K.In base → base.Ns mainGlobals mg → TabB base mg c T → FnOk P w K mg base CX k fa fd ps sp) (hbind : ∀ (s : Shared) (us : List Value), us.length = ps.length → BindsTo s fd ⟨us, []⟩ (ps.zip us)) (hlen : ds.length = ps.length)
    (hsp : ∀ (H H' : Hp) (xs : List V), DwAll K H xs ds → Same H H' → H' T = some (.tbl #[]) → sp xs H' (fun v H' => Dw K H' v d0) fun _ _ _ => False)
    (hCX : ∀ H e s', CX [] H z (fun _ _ _ => False) e s' → False) :
    codeAny (model P w) callerA (.call (.ref fa) ⟨vals, []⟩) (fun r s' => ∃ u as, r = .ok (.ret u) ∧ ReadsW R cl s'.heap u d0 as ∧ OldK z.heap s'.heap ∧ s'.os = z.os ∧ AllBare s'.gens) z := by
  obtain ⟨A, hA, ar⟩ := area_all ds vals hwl hpl hwt
  have hO : OnlyF (argH K z.heap A) := argH_only ar
  have ok0 : HOk P w (argH K z.heap A) z.heap := argH_ok ar
  have hD := dw_all KX ar ds vals hwl hpl hA
  have hV := vals_toV hA
  -- the tracked objects are lists and tuples: the table is none of them
  have isSeq : ∀ b u, argH K z.heap A b = some u → K.lookup b = none ∧ ∃ (o : Obj) (us : List Value), z.heap.get? b = some o ∧ o.data = .seq us.toArray := fun b u q => by
    obtain ⟨h1, us, _, _, e | e⟩ := argH_is ar q
    · exact ⟨h1, _, us, e.1, rfl⟩
    · exact ⟨h1, _, us, e.1, rfl⟩
  generalize argH K z.heap A = H at hO ok0 hD isSeq
  have off : ∀ {b : Addr} {o : Obj}, z.heap.get? b = some o → (∀ us n, o.data ≠ .seq us n) → H b = none := fun {b o} e hn => by
    cases q : H b with
    | none => rfl
    | some u =>
      obtain ⟨_, o', us, e', d⟩ := isSeq b u q
      rw [e] at e'
      cases e'
      exact (hn _ _ d).elim
  have nHT : H T = none := off hT fun us n q => by cases q
  have sm : Same H (withTab H T) := fun b o e => (withTab_ne (ne_of_none e nHT)).trans e
  have hok : HOk P w (withTab H T) z.heap := fun b u e => by
    by_cases hbT : b = T
    · rw [hbT, withTab_at] at e
      cases e
      rw [hbT]
      exact hT
    · rw [withTab_ne hbT] at e
      exact (ok0 b u e).stay (fun _ _ _ q => q) (fun d q => sm d _ q) fun d ys q => sm d _ q
  have off2 : ∀ {b : Addr} {o : Obj}, z.heap.get? b = some o → (∀ us n, o.data ≠ .seq us n) → o.data ≠ .fields #[] → withTab H T b = none := fun {b o} e h1 h2 => by
    have nb : b ≠ T := fun q => by
      rw [q, hT] at e
      cases e
      exact h2 rfl
    rw [withTab_ne nb]
    exact off e h1
  have kb : ∀ {b : Addr} {o : Obj}, z.heap.get? b = some o → withTab H T b = none → (hidT z.heap (withTab H T)).get? b = some o := fun e n => hidT_get e n
  have nsB : ∀ {b : Addr} {m : Str → Option Value}, z.heap.Ns b m → (hidT z.heap (withTab H T)).Ns b m := fun {b m} ⟨o, es, ep, e, d, r⟩ => by
    refine ⟨o, es, ep, kb e (off2 e (fun us n q => ?_) fun q => ?_), d, r⟩
    · rw [d] at q
      cases q
    · rw [d] at q
      cases q
  have KB : K.In (hidT z.heap (withTab H T)) := fun b o e => by
    refine kb (KX b o e) ?_
    have nb : b ≠ T := fun q => by
      rw [q, nT] at e
      cases e
    rw [withTab_ne nb]
    cases q : H b with
    | none => rfl
    | some u =>
      rw [(isSeq b u q).1] at e
      cases e
  have hM : L2.Mod K mg (hidT z.heap (withTab H T)) := ⟨KB, nsB hns, ⟨mb, nsB hb, hbb⟩, let ⟨mc, h1, h2⟩ := hlim; ⟨mc, nsB h1, h2⟩⟩
  have nGT : mainGlobals ≠ T := fun q => by
    obtain ⟨o, es, ep, e, d, _⟩ := hns
    rw [q, hT] at e
    cases e
    cases d
  have TB : TabB (hidT z.heap (withTab H T)) mg c T := by
    refine ⟨?_, ?_, nGT⟩
    · obtain ⟨o, us, file, tf, flags, tg, inF, text, tt, e1, r1, r2, r3, r4⟩ := C
      refine ⟨o, us, file, tf, flags, tg, inF, text, tt, kb e1 (off2 e1 (fun vs n q => ?_) fun q => ?_), r1, r2, r3, r4⟩
      · rw [r2] at q
        cases q
      · rw [r2] at q
        cases q
        simp at r3
    · obtain ⟨bm, ob, b1, b2, b3, b4, b5, b6⟩ := hbm
      have nG : bm ≠ mainGlobals := fun q => by
        obtain ⟨o, es, ep, e, d, _⟩ := hns
        rw [q, e] at b3
        cases b3
        rw [d] at b6
        cases b6
      have nP : bm ≠ T := fun q => by
        rw [q, hT] at b3
        cases b3
        cases b6
      refine ⟨bm, ob, b1, b2, nG, nP, kb b3 (off2 b3 (fun vs n q => ?_) fun q => ?_), b4, b5, b6⟩
      · rw [b6] at q
        cases q
      · rw [b6] at q
        cases q
  have e0 : Env0 P w K mg (hidT z.heap (withTab H T)) callerA [] z (withTab H T) := ⟨rfl, hM, fun b o e => of_hidT e, Nat.le_of_eq (hidT_size _ _), trivial, fun b q => absurd (show b ∈ ([] : List Addr) from q) (by simp), hok, .of_eq hg⟩
  have hl : vals.length = ps.length := (wellAll_len hwl).trans hlen
  refine codeAny_mono ((F _ KB (nsB hns) TB).run callerA [] z (withTab H T) ⟨vals, []⟩ vals (vals.map toV) _ _ hr e0 (hbind z vals hl) hV (hsp H _ _ hD sm (withTab_at H T))) fun r s' x => ?_
  cases r with
  | error e => exact (hCX _ e s' x).elim
  | ok fl =>
    cases fl with
    | next => exact False.elim x
    | brk => exact False.elim x
    | cont => exact False.elim x
    | ret u =>
      obtain ⟨v, H', os, bare, un, ok', rv, q⟩ := x
      have kept : ∀ b o, b ≠ T → z.heap.get? b = some o → s'.heap.get? b = some o := fun b o nb e => by
        cases q2 : withTab H T b with
        | none => exact un.keep b o e q2 (fun y => absurd (show b ∈ ([] : List Addr) from y) (by simp)) (by simp)
        | some u2 =>
          have q3 : H b = some u2 := (withTab_ne nb).symm.trans q2
          rcases hO b with y | ⟨ob, u3, y⟩
          · rw [q3] at y
            cases y
          · have y1 : withTab H T b = some (.frz ob u3) := (withTab_ne nb).trans y
            obtain ⟨g1, _⟩ := hok b _ y1
            obtain ⟨g2, _⟩ := ok' b _ (un.frzs b ob _ y1)
            rw [e] at g1
            cases g1
            exact g2
      obtain ⟨more, hm⟩ := un.tbls T #[] (withTab_at H T)
      have grown : s'.heap.get? T = some { cls := .none, data := .fields (#[] ++ more) } := ok' T _ hm
      have KX' : K.In s'.heap := fun b o e => kept b o (fun y => by
        rw [y, nT] at e
        cases e) (KX b o e)
      obtain ⟨as, hrd⟩ := Dw.reads (R := R) (cl := cl) ok' KX' d0 v u q rv
      refine ⟨u, as, rfl, hrd, ⟨fun b o e => ?_, fun b o e => ?_⟩, os, bare⟩
      · by_cases nb : b = T
        · rw [nb, hT] at e
          cases e
          rw [nb]
          exact .inr (.inl ⟨(C.tab hT).isCodeTable, rfl, #[], more, rfl, grown⟩)
        · exact .inl (kept b o nb e)
      · by_cases nb : b = T
        · rw [nb]
          exact ⟨_, grown⟩
        · exact ⟨o, kept b o nb e⟩
end
/-- the goal that k_headS leaves, from the promise of the row's def: lam is the def whose code object has the table -/
theorem walk_specT {r : OpenSpec} {k : Nat} {q : Program} {loose : List Str} {XP : (Str → Option Value) → Heap → Prop} {YP : World → Heap → Prop} {d : DefRec} {K : Params → PySem.W.Frag} {CX : CXT} {ps : List Str} {lam : Str} {sp : PySem.W.Frag → Addr → Sp}
    (hwell : r.wellSaid = true) (hdf : d.params.defaults = []) (hlen : r.args.length = ps.length) (hr : Room k callerA)
    (hY : ∀ (w : World) (h : Heap), YP w h → (K w.params).In h) (hsome : ((recsOf q).find? (fun e => e.name == lam)).isSome = true) (hno : ∀ w : World, PySem.W.noTabs (K w.params) = true)
    (F : ∀ (w : World) (mg : Str → Option Value) (fa : Addr) (h : Heap), YP w h → (K w.params).In h → h.Ns mainGlobals mg → mg d.name = some (.ref fa) →
      ∃ (fd : FuncData) (c T : Addr), PySem.W.tabIn (K w.params) lam = some (c, T) ∧ (∀ (s : Shared) (us : List Value), us.length = ps.length → BindsTo s fd ⟨us, []⟩ (ps.zip us)) ∧
        ∀ base : Heap, (K w.params).In base → base.Ns mainGlobals mg → TabB base mg c T → FnOk r.prog w (K w.params) mg base CX k fa fd ps (sp (K w.params) T))
    (hsp : ∀ (K : PySem.W.Frag) (T : Addr) (H H' : Hp) (xs : List V) (a : Codec.denoteAll r.args), Codec.withinAll r.args a = true → Codec.app r.args r.asked a = true → DwAll K H xs (Codec.encAll r.args a) → Same H H' → H' T = some (.tbl #[]) →
      sp K T xs H' (fun v H' => Dw K H' v (r.ret.enc (Codec.app r.args r.f a))) fun _ _ _ => False)
    (hCX : ∀ (H : Hp) (s : Shared) (e : Value) (s' : Shared), CX [] H s (fun _ _ _ => False) e s' → False) :
    PySem.W.WalkOS q loose XP YP r d [] (fun f vs => PySem.call f vs) := by
  intro w z0 z mg mb G Y fa o pm cd doc dV kV ho hd hcd hD hmg hg args vals as hpre hlay hrd hwl hlo
  obtain ⟨a, e1, e2⟩ := PySem.W.os_pre_some hpre
  obtain ⟨e3, hwi⟩ := Codec.encAll_of_decAll r.args args a e1
  subst e3
  have KX := hY w _ Y
  obtain ⟨fd, c, T, ht, hb, hF⟩ := F w mg fa _ Y KX G.T.g hmg
  obtain ⟨dl, hrec⟩ := Option.isSome_iff_exists.mp hsome
  obtain ⟨C, hT⟩ := PySem.W.tab_of G.T KX hrec ht
  refine PySem.W.enter_call (codeAny_mono (spec_callT (R := []) (cl := classAt z0.heap) (d0 := r.ret.enc (Codec.app r.args r.f a)) KX G.T.g G.T.b G.T.builtins G.T.nolimit hg hT (noTab_lookup KX hT (hno w)) C G.T.bmain hwl (pl_encAll _ _) (layable_weight hlay) hr hF hb
    ((encAll_len _ _).trans hlen) (fun H H' xs hS sm hH => hsp _ T H H' xs a hwi e2 hS sm hH) fun H e s' => hCX H z e s') fun r' s' hq => ?_)
  obtain ⟨u, as', rfl, h1, h2, h3, h4⟩ := hq
  exact ⟨.inl ⟨u, _, as', rfl, fun _ => rfl, h1, (OpenSpec.post_iff hwell hwi _ _).mpr rfl, fun y => Bool.noConfusion (show false = true from y)⟩, h2, h3, h4⟩
end FB

/-! ## FBY -/
set_option maxRecDepth 100000
set_option maxHeartbeats 2000000
/-! What the top leaves, fact by fact. -/
namespace FB
open PySem PySem.Spec PyProof.Rows L2
/-- how a call without keywords binds the arguments of a def -/
def BindsBy (x qual : Str) (st : Stmt) (ps : List Str) : Prop := ∀ (kV doc pm : Value) (an : Option Addr) (cdv ct : Value) (us : List Value), us.length = ps.length → bindArgs (PySem.W.fnOf x qual (defArgs st) (defBody st) (defScope st) .none kV doc pm an cdv ct) ⟨us, []⟩ = pure (ps.zip us)
theorem b_gd : BindsBy "greatest_divisor" "greatest_divisor" s_gd ["first", "second"] := fun _ _ _ _ _ _ us hl => match us, hl with | [_, _], _ => rfl
theorem b_av : BindsBy "average" "average" s_av ["total", "weight"] := fun _ _ _ _ _ _ us hl => match us, hl with | [_, _], _ => rfl
theorem b_bf : BindsBy "blends_from" "blends_from" s_bf ["amounts", "weight"] := fun _ _ _ _ _ _ us hl => match us, hl with | [_, _], _ => rfl
theorem b_ab : BindsBy "available_blends" "available_blends" s_ab ["bins", "weight"] := fun _ _ _ _ _ _ us hl => match us, hl with | [_, _], _ => rfl
theorem b_co : BindsBy "cost_of" "cost_of" s_co ["bins", "blend"] := fun _ _ _ _ _ _ us hl => match us, hl with | [_, _], _ => rfl
theorem b_ss : BindsBy "strength_sum" "strength_sum" s_ss ["bins", "blend"] := fun _ _ _ _ _ _ us hl => match us, hl with | [_, _], _ => rfl
theorem b_as : BindsBy "ash_sum" "ash_sum" s_as ["bins", "blend"] := fun _ _ _ _ _ _ us hl => match us, hl with | [_, _], _ => rfl
theorem b_ia : BindsBy "is_available" "is_available" s_ia ["bins", "blend"] := fun _ _ _ _ _ _ us hl => match us, hl with | [_, _], _ => rfl
theorem b_kb : BindsBy "keeps_bounds" "keeps_bounds" s_kb ["request", "weight", "strength", "ash"] := fun _ _ _ _ _ _ us hl => match us, hl with | [_, _, _, _], _ => rfl
theorem b_mr : BindsBy "meets_request" "meets_request" s_mr ["bins", "request", "blend"] := fun _ _ _ _ _ _ us hl => match us, hl with | [_, _, _], _ => rfl
theorem b_iv : BindsBy "is_valid" "is_valid" s_iv ["bins", "request", "blend"] := fun _ _ _ _ _ _ us hl => match us, hl with | [_, _, _], _ => rfl
theorem b_vb : BindsBy "valid_blends" "valid_blends" s_vb ["bins", "request"] := fun _ _ _ _ _ _ us hl => match us, hl with | [_, _], _ => rfl
theorem b_fc : BindsBy "find_cheapest" "find_cheapest" s_fc ["bins", "request"] := fun _ _ _ _ _ _ us hl => match us, hl with | [_, _], _ => rfl
theorem b_su : BindsBy "sums_up_to" "sums_up_to" s_su ["bins", "most"] := fun _ _ _ _ _ _ us hl => match us, hl with | [_, _], _ => rfl
theorem b_gw : BindsBy "greatest_weight" "greatest_weight" s_gw ["bins", "request", "most"] := fun _ _ _ _ _ _ us hl => match us, hl with | [_, _, _], _ => rfl
theorem b_fo : BindsBy "find_obstacle" "find_obstacle" s_fo ["bins", "request"] := fun _ _ _ _ _ _ us hl => match us, hl with | [_, _], _ => rfl
theorem b_ip : BindsBy "is_price" "is_price" s_ip ["price"] := fun _ _ _ _ _ _ us hl => match us, hl with | [_], _ => rfl
theorem b_im : BindsBy "is_amount" "is_amount" s_im ["kilograms"] := fun _ _ _ _ _ _ us hl => match us, hl with | [_], _ => rfl
theorem b_ih : BindsBy "is_ash" "is_ash" s_ih ["ash"] := fun _ _ _ _ _ _ us hl => match us, hl with | [_], _ => rfl
theorem b_iw : BindsBy "is_weight" "is_weight" s_iw ["n"] := fun _ _ _ _ _ _ us hl => match us, hl with | [_], _ => rfl
theorem b_cs : BindsBy "change_stock" "change_stock" s_cs ["bakery", "call", "numbers"] := fun _ _ _ _ _ _ us hl => match us, hl with | [_, _, _], _ => rfl
theorem b_fm : BindsBy "find_or_make" "find_or_make" s_fm ["bakery", "call", "row"] := fun _ _ _ _ _ _ us hl => match us, hl with | [_, _, _], _ => rfl
theorem b_te : BindsBy "tell" "tell" s_te ["bakery", "call", "numbers", "row"] := fun _ _ _ _ _ _ us hl => match us, hl with | [_, _, _, _], _ => rfl
theorem b_ao : BindsBy "answer_of" "answer_of" s_ao ["bakery", "call", "numbers", "row"] := fun _ _ _ _ _ _ us hl => match us, hl with | [_, _, _, _], _ => rfl
theorem b_an : BindsBy "answers" "answers" s_an ["calls"] := fun _ _ _ _ _ _ us hl => match us, hl with | [_], _ => rfl
theorem b_Bi : BindsBy "__init__" "Bin.__init__" s_Bi ["self", "kilograms", "strength", "ash", "price"] := fun _ _ _ _ _ _ us hl => match us, hl with | [_, _, _, _, _], _ => rfl
theorem b_Qi : BindsBy "__init__" "Request.__init__" s_Qi ["self", "n", "min_strength", "max_strength", "max_ash"] := fun _ _ _ _ _ _ us hl => match us, hl with | [_, _, _, _, _], _ => rfl
theorem b_Ki : BindsBy "__init__" "Bakery.__init__" s_Ki ["self"] := fun _ _ _ _ _ _ us hl => match us, hl with | [_], _ => rfl
theorem b_addBin : BindsBy "add_bin" "Bakery.add_bin" s_addBin ["self", "kilograms", "strength", "ash", "price"] := fun _ _ _ _ _ _ us hl => match us, hl with | [_, _, _, _, _], _ => rfl
theorem b_addFlour : BindsBy "add_flour" "Bakery.add_flour" s_addFlour ["self", "i", "kilograms"] := fun _ _ _ _ _ _ us hl => match us, hl with | [_, _, _], _ => rfl
theorem b_setPrice : BindsBy "set_price" "Bakery.set_price" s_setPrice ["self", "i", "price"] := fun _ _ _ _ _ _ us hl => match us, hl with | [_, _, _], _ => rfl
theorem b_emptyBin : BindsBy "empty_bin" "Bakery.empty_bin" s_emptyBin ["self", "i"] := fun _ _ _ _ _ _ us hl => match us, hl with | [_, _], _ => rfl
theorem b_setReq : BindsBy "set_request" "Bakery.set_request" s_setReq ["self", "n", "min_strength", "max_strength", "max_ash"] := fun _ _ _ _ _ _ us hl => match us, hl with | [_, _, _, _, _], _ => rfl
theorem b_cheap : BindsBy "cheapest_blend" "Bakery.cheapest_blend" s_cheap ["self"] := fun _ _ _ _ _ _ us hl => match us, hl with | [_], _ => rfl
theorem b_mkCheap : BindsBy "make_cheapest_blend" "Bakery.make_cheapest_blend" s_mkCheap ["self"] := fun _ _ _ _ _ _ us hl => match us, hl with | [_], _ => rfl
theorem b_mkBlend : BindsBy "make_blend" "Bakery.make_blend" s_mkBlend ["self", "blend"] := fun _ _ _ _ _ _ us hl => match us, hl with | [_, _], _ => rfl
theorem b_check : BindsBy "check_blend" "Bakery.check_blend" s_check ["self", "blend"] := fun _ _ _ _ _ _ us hl => match us, hl with | [_, _], _ => rfl
theorem b_count : BindsBy "count_blends" "Bakery.count_blends" s_count ["self"] := fun _ _ _ _ _ _ us hl => match us, hl with | [_], _ => rfl
theorem b_great : BindsBy "greatest_amount" "Bakery.greatest_amount" s_great ["self"] := fun _ _ _ _ _ _ us hl => match us, hl with | [_], _ => rfl
theorem b_extr : BindsBy "extreme_averages" "Bakery.extreme_averages" s_extr ["self", "n"] := fun _ _ _ _ _ _ us hl => match us, hl with | [_, _], _ => rfl
theorem b_obst : BindsBy "obstacle" "Bakery.obstacle" s_obst ["self"] := fun _ _ _ _ _ _ us hl => match us, hl with | [_], _ => rfl
theorem b_ifPrice : BindsBy "cheapest_if_price" "Bakery.cheapest_if_price" s_ifPrice ["self", "i", "price"] := fun _ _ _ _ _ _ us hl => match us, hl with | [_, _, _], _ => rfl
theorem b_without : BindsBy "cheapest_without" "Bakery.cheapest_without" s_without ["self", "i"] := fun _ _ _ _ _ _ us hl => match us, hl with | [_, _], _ => rfl
theorem b_descr : BindsBy "describe" "Bakery.describe" s_descr ["self"] := fun _ _ _ _ _ _ us hl => match us, hl with | [_], _ => rfl
theorem b_from_ : BindsBy "cheapest_from" "Bakery.cheapest_from" s_from_ ["self", "bins"] := fun _ _ _ _ _ _ us hl => match us, hl with | [_, _], _ => rfl
theorem b_with_ : BindsBy "cheapest_with" "Bakery.cheapest_with" s_with_ ["self", "i", "other"] := fun _ _ _ _ _ _ us hl => match us, hl with | [_, _, _], _ => rfl
theorem b_hasBin : BindsBy "has_bin" "Bakery.has_bin" s_hasBin ["self", "i"] := fun _ _ _ _ _ _ us hl => match us, hl with | [_, _], _ => rfl
theorem b_hasForm : BindsBy "has_form" "Bakery.has_form" s_hasForm ["self", "blend"] := fun _ _ _ _ _ _ us hl => match us, hl with | [_, _], _ => rfl
theorem b_take : BindsBy "take_out" "Bakery.take_out" s_take ["self", "blend"] := fun _ _ _ _ _ _ us hl => match us, hl with | [_, _], _ => rfl
theorem b_Ri : BindsBy "__init__" "Reader.__init__" s_Ri ["self", "calls"] := fun _ _ _ _ _ _ us hl => match us, hl with | [_, _], _ => rfl
theorem b_more : BindsBy "has_more" "Reader.has_more" s_more ["self"] := fun _ _ _ _ _ _ us hl => match us, hl with | [_], _ => rfl
theorem b_one : BindsBy "take_one" "Reader.take_one" s_one ["self"] := fun _ _ _ _ _ _ us hl => match us, hl with | [_], _ => rfl
theorem b_several : BindsBy "take_several" "Reader.take_several" s_several ["self", "how_many"] := fun _ _ _ _ _ _ us hl => match us, hl with | [_, _], _ => rfl
section
variable {K : PySem.W.Frag} {h : Heap} {mg : Str → Option Value} {x qual : Str} {st : Stmt} {ps : List Str} {f C : Addr} {oc : Value} {od an : Option Addr} {osl : Array (Option Value)} {kV doc pm cdv ct : Value}
theorem def_mk (X : K.In h) (G : h.Ns mainGlobals mg) (b : BindsBy x x st ps) (e1 : PySem.W.nsIn K mainGlobals x = some (some (.ref f)))
    (e2 : K.lookup f = some ⟨oc, od, .func (PySem.W.fnOf x x (defArgs st) (defBody st) (defScope st) .none kV doc pm an cdv ct), osl⟩)
    (e3 : PySem.W.codeIn K cdv x = true) (e4 : PySem.W.keepIn K (.ref f) = true) : ∃ d : DA, DefAt K mg x st ps d ∧ ∀ (s : Shared) (us : List Value), us.length = ps.length → BindsTo s d.fd ⟨us, []⟩ (ps.zip us) :=
  ⟨⟨f, _⟩, ⟨PySem.W.mg_of X G e1, fun_mk e2 e3 e4, (fun_mk e2 e3 e4).binds b⟩, fun _ us hl => .of_eq (b kV doc pm an cdv ct us hl)⟩
theorem cls_mk (X : K.In h) (G : h.Ns mainGlobals mg) {goal : Prop} (e1 : PySem.W.nsIn K mainGlobals x = some (some (.ref C))) (pg : PySem.W.plainGet K C Str.empty = true) (hd : PySem.W.hasDictIn K C = true) (po : PySem.W.plainOver K C = true)
    (sa : PySem.W.findIn K (.ref C) "__setattr__" = some (some (.builtin "object.__setattr__"))) (go : mg x = some (.ref C) → Cls K C → goal) : goal := go (PySem.W.mg_of X G e1) ⟨pg, hd, po, sa⟩
theorem meth_mk (_ : Cls K C) (b : BindsBy x qual st ps) (e1 : PySem.W.findIn K (.ref C) x = some (some (.ref f))) (e5 : PySem.W.isFn K (.ref f) = true)
    (e2 : K.lookup f = some ⟨oc, od, .func (PySem.W.fnOf x qual (defArgs st) (defBody st) (defScope st) .none kV doc pm an cdv ct), osl⟩)
    (e3 : PySem.W.codeIn K cdv qual = true) (e4 : PySem.W.keepIn K (.ref f) = true) : ∃ d : DA, MethAt K C x qual st ps d :=
  ⟨⟨f, _⟩, ⟨e1, e5, e4⟩, fun_mk e2 e3 e4, (fun_mk e2 e3 e4).binds b⟩
theorem init_mk (_ : Cls K C) (b : BindsBy "__init__" qual st ps) (e1 : PySem.W.findIn K (.ref C) "__init__" = some (some (.ref f))) (e5 : PySem.W.isFn K (.ref f) = true)
    (e2 : K.lookup f = some ⟨oc, od, .func (PySem.W.fnOf "__init__" qual (defArgs st) (defBody st) (defScope st) .none kV doc pm an cdv ct), osl⟩)
    (e3 : PySem.W.codeIn K cdv qual = true) (e4 : PySem.W.keepIn K (.ref f) = true) (e6 : PySem.W.makesIn K C = true) (e7 : PySem.W.keepIn K (.ref C) = true) : ∃ d : DA, InitAt K C qual st ps d :=
  ⟨⟨f, _⟩, ⟨e6, e1, e5, e7⟩, fun_mk e2 e3 e4, (fun_mk e2 e3 e4).binds b⟩
theorem noat_mk (_ : Cls K C) (x : Str) (e : PySem.W.findIn K (.ref C) x = some none) : NoAttr K C x := e
theorem int_mk (X : K.In h) (G : h.Ns mainGlobals mg) (x : Str) (i : Int) {t : Tok} (e : PySem.W.nsIn K mainGlobals x = some (some (.int i t))) : ∃ t : Tok, mg x = some (.int i t) := ⟨t, PySem.W.mg_of X G e⟩
theorem vals_ints : ∀ {us : List Value} {is : List Int}, us.map absV = is.map (fun i => some (V.int i)) → Vals (is.map V.int) us
  | [], [], _ => .nil
  | [], _ :: _, e => by cases e
  | _ :: _, [], e => by cases e
  | u :: us, i :: is, e => by
    injection e with e1 e2
    refine .cons ?_ (vals_ints e2)
    cases u with
    | int j t =>
      cases e1
      exact ⟨t, rfl⟩
    | _ => cases e1
theorem tup_mk (X : K.In h) (G : h.Ns mainGlobals mg) (x : Str) (is : List Int) {t : Addr} {n : Nat} {its : Array Value} (e1 : PySem.W.nsIn K mainGlobals x = some (some (.ref t)))
    (e2 : K.lookup t = some ⟨.type "tuple", od, .seq its n, osl⟩) (e3 : its.size ≤ sizeLine) (e4 : its.toList.map absV = is.map (fun i => some (V.int i))) : ∃ t : Addr, mg x = some (.ref t) ∧ ∀ H : Hp, SqT K H t (is.map V.int) :=
  ⟨t, PySem.W.mg_of X G e1, fun _ => .inr ⟨_, its, n, e2, rfl, rfl, e3, vals_ints e4⟩⟩
theorem tab_mk (_ : K.In h) {c T : Addr} {fd : FuncData} {cc : Value} {cd : Option Addr} {vs : Array Value} {csl : Array (Option Value)} (e1 : PySem.W.nsIn K mainGlobals x = some (some (.ref f))) (e2 : K.lookup f = some ⟨oc, od, .func fd, osl⟩) (e3 : fd.code = .ref c)
    (e4 : K.lookup c = some ⟨cc, cd, .fields vs, csl⟩) (e5 : (vs[11]? : Option Value) = some (.ref T)) : ∃ c T : Addr, PySem.W.tabIn K x = some (c, T) := by
  refine ⟨c, T, ?_⟩
  unfold PySem.W.tabIn
  rw [e1]
  show (match K.lookup f with | some ⟨_, _, .func fd, _⟩ => _ | _ => _) = _
  rw [e2]
  show (match fd.code with | .ref c => _ | _ => _) = _
  rw [e3]
  show (match K.lookup c with | some ⟨_, _, .fields vs, _⟩ => _ | _ => _) = _
  rw [e4]
  show (match (vs[11]? : Option Value) with | some (.ref P) => _ | _ => _) = _
  rw [e5]
end
end FB

/-! ## FBZ -/
set_option maxRecDepth 100000
open PySem PySem.W PyProof.Rows
set_option maxRecDepth 100000 in
set_option maxHeartbeats 0 in
theorem PySem.Challenge.cw_flourblend_s01_answers_holds : PySem.Challenge.rw_flourblend_s01_answers.Holds := by
  w_on; k_headS; (case hw => exact ⟨[.list [.int 0]], by decide +kernel, by decide +kernel⟩)
  k_fillS
  refine FB.walk_specT (r := PySem.Challenge.rw_flourblend_s01_answers) (k := 14) (CX := L2.CX0) (ps := ["calls"]) (lam := "find_cheapest") (sp := FB.spAns) (by decide +kernel) rfl rfl ⟨rfl, by decide, by decide⟩ (fun w h Y => PySem.W.kIn_of Y) (by kernel_rfl) (fun w => by kernel_rfl) ?F ?S (fun _ _ _ _ z => z)
  case F =>
    intro w mg fa h Y KX G hmg
    refine' Exists.elim (FB.def_mk (x := "greatest_divisor") (st := FB.s_gd) (ps := ["first", "second"]) KX G FB.b_gd ?a ?l ?c ?k) fun d_gd h_gd => ?_; (case a => k_is); (case l => k_is); (case c => k_is); (case k => k_is)
    refine' Exists.elim (FB.def_mk (x := "average") (st := FB.s_av) (ps := ["total", "weight"]) KX G FB.b_av ?a ?l ?c ?k) fun d_av h_av => ?_; (case a => k_is); (case l => k_is); (case c => k_is); (case k => k_is)
    refine' Exists.elim (FB.def_mk (x := "blends_from") (st := FB.s_bf) (ps := ["amounts", "weight"]) KX G FB.b_bf ?a ?l ?c ?k) fun d_bf h_bf => ?_; (case a => k_is); (case l => k_is); (case c => k_is); (case k => k_is)
    refine' Exists.elim (FB.def_mk (x := "available_blends") (st := FB.s_ab) (ps := ["bins", "weight"]) KX G FB.b_ab ?a ?l ?c ?k) fun d_ab h_ab => ?_; (case a => k_is); (case l => k_is); (case c => k_is); (case k => k_is)
    refine' Exists.elim (FB.def_mk (x := "cost_of") (st := FB.s_co) (ps := ["bins", "blend"]) KX G FB.b_co ?a ?l ?c ?k) fun d_co h_co => ?_; (case a => k_is); (case l => k_is); (case c => k_is); (case k => k_is)
    refine' Exists.elim (FB.def_mk (x := "strength_sum") (st := FB.s_ss) (ps := ["bins", "blend"]) KX G FB.b_ss ?a ?l ?c ?k) fun d_ss h_ss => ?_; (case a => k_is); (case l => k_is); (case c => k_is); (case k => k_is)
    refine' Exists.elim (FB.def_mk (x := "ash_sum") (st := FB.s_as) (ps := ["bins", "blend"]) KX G FB.b_as ?a ?l ?c ?k) fun d_as h_as => ?_; (case a => k_is); (case l => k_is); (case c => k_is); (case k => k_is)
    refine' Exists.elim (FB.def_mk (x := "is_available") (st := FB.s_ia) (ps := ["bins", "blend"]) KX G FB.b_ia ?a ?l ?c ?k) fun d_ia h_ia => ?_; (case a => k_is); (case l => k_is); (case c => k_is); (case k => k_is)
    refine' Exists.elim (FB.def_mk (x := "keeps_bounds") (st := FB.s_kb) (ps := ["request", "weight", "strength", "ash"]) KX G FB.b_kb ?a ?l ?c ?k) fun d_kb h_kb => ?_; (case a => k_is); (case l => k_is); (case c => k_is); (case k => k_is)
    refine' Exists.elim (FB.def_mk (x := "meets_request") (st := FB.s_mr) (ps := ["bins", "request", "blend"]) KX G FB.b_mr ?a ?l ?c ?k) fun d_mr h_mr => ?_; (case a => k_is); (case l => k_is); (case c => k_is); (case k => k_is)
    refine' Exists.elim (FB.def_mk (x := "is_valid") (st := FB.s_iv) (ps := ["bins", "request", "blend"]) KX G FB.b_iv ?a ?l ?c ?k) fun d_iv h_iv => ?_; (case a => k_is); (case l => k_is); (case c => k_is); (case k => k_is)
    refine' Exists.elim (FB.def_mk (x := "valid_blends") (st := FB.s_vb) (ps := ["bins", "request"]) KX G FB.b_vb ?a ?l ?c ?k) fun d_vb h_vb => ?_; (case a => k_is); (case l => k_is); (case c => k_is); (case k => k_is)
    refine' Exists.elim (FB.def_mk (x := "find_cheapest") (st := FB.s_fc) (ps := ["bins", "request"]) KX G FB.b_fc ?a ?l ?c ?k) fun d_fc h_fc => ?_; (case a => k_is); (case l => k_is); (case c => k_is); (case k => k_is)
    refine' Exists.elim (FB.def_mk (x := "sums_up_to") (st := FB.s_su) (ps := ["bins", "most"]) KX G FB.b_su ?a ?l ?c ?k) fun d_su h_su => ?_; (case a => k_is); (case l => k_is); (case c => k_is); (case k => k_is)
    refine' Exists.elim (FB.def_mk (x := "greatest_weight") (st := FB.s_gw) (ps := ["bins", "request", "most"]) KX G FB.b_gw ?a ?l ?c ?k) fun d_gw h_gw => ?_; (case a => k_is); (case l => k_is); (case c => k_is); (case k => k_is)
    refine' Exists.elim (FB.def_mk (x := "find_obstacle") (st := FB.s_fo) (ps := ["bins", "request"]) KX G FB.b_fo ?a ?l ?c ?k) fun d_fo h_fo => ?_; (case a => k_is); (case l => k_is); (case c => k_is); (case k => k_is)
    refine' Exists.elim (FB.def_mk (x := "is_price") (st := FB.s_ip) (ps := ["price"]) KX G FB.b_ip ?a ?l ?c ?k) fun d_ip h_ip => ?_; (case a => k_is); (case l => k_is); (case c => k_is); (case k => k_is)
    refine' Exists.elim (FB.def_mk (x := "is_amount") (st := FB.s_im) (ps := ["kilograms"]) KX G FB.b_im ?a ?l ?c ?k) fun d_im h_im => ?_; (case a => k_is); (case l => k_is); (case c => k_is); (case k => k_is)
    refine' Exists.elim (FB.def_mk (x := "is_ash") (st := FB.s_ih) (ps := ["ash"]) KX G FB.b_ih ?a ?l ?c ?k) fun d_ih h_ih => ?_; (case a => k_is); (case l => k_is); (case c => k_is); (case k => k_is)
    refine' Exists.elim (FB.def_mk (x := "is_weight") (st := FB.s_iw) (ps := ["n"]) KX G FB.b_iw ?a ?l ?c ?k) fun d_iw h_iw => ?_; (case a => k_is); (case l => k_is); (case c => k_is); (case k => k_is)
    refine' Exists.elim (FB.def_mk (x := "change_stock") (st := FB.s_cs) (ps := ["bakery", "call", "numbers"]) KX G FB.b_cs ?a ?l ?c ?k) fun d_cs h_cs => ?_; (case a => k_is); (case l => k_is); (case c => k_is); (case k => k_is)
    refine' Exists.elim (FB.def_mk (x := "find_or_make") (st := FB.s_fm) (ps := ["bakery", "call", "row"]) KX G FB.b_fm ?a ?l ?c ?k) fun d_fm h_fm => ?_; (case a => k_is); (case l => k_is); (case c => k_is); (case k => k_is)
    refine' Exists.elim (FB.def_mk (x := "tell") (st := FB.s_te) (ps := ["bakery", "call", "numbers", "row"]) KX G FB.b_te ?a ?l ?c ?k) fun d_te h_te => ?_; (case a => k_is); (case l => k_is); (case c => k_is); (case k => k_is)
    refine' Exists.elim (FB.def_mk (x := "answer_of") (st := FB.s_ao) (ps := ["bakery", "call", "numbers", "row"]) KX G FB.b_ao ?a ?l ?c ?k) fun d_ao h_ao => ?_; (case a => k_is); (case l => k_is); (case c => k_is); (case k => k_is)
    refine' Exists.elim (FB.def_mk (x := "answers") (st := FB.s_an) (ps := ["calls"]) KX G FB.b_an ?a ?l ?c ?k) fun d_an h_an => ?_; (case a => k_is); (case l => k_is); (case c => k_is); (case k => k_is)
    refine' FB.cls_mk (x := "Bin") KX G ?a ?b ?c ?d ?e fun gB clB => ?_; (case a => k_is); (case b => k_is); (case c => k_is); (case d => k_is); (case e => k_is)
    have nB_kilograms := FB.noat_mk clB "kilograms" (by k_is)
    have nB_strength := FB.noat_mk clB "strength" (by k_is)
    have nB_ash := FB.noat_mk clB "ash" (by k_is)
    have nB_price := FB.noat_mk clB "price" (by k_is)
    refine' Exists.elim (FB.init_mk (qual := "Bin.__init__") (st := FB.s_Bi) (ps := ["self", "kilograms", "strength", "ash", "price"]) clB FB.b_Bi ?a ?t ?l ?c ?k ?m ?n) fun m_Bi h_Bi => ?_; (case a => k_is); (case t => k_is); (case l => k_is); (case c => k_is); (case k => k_is); (case m => k_is); (case n => k_is)
    refine' FB.cls_mk (x := "Request") KX G ?a ?b ?c ?d ?e fun gQ clQ => ?_; (case a => k_is); (case b => k_is); (case c => k_is); (case d => k_is); (case e => k_is)
    have nQ_n := FB.noat_mk clQ "n" (by k_is)
    have nQ_min_strength := FB.noat_mk clQ "min_strength" (by k_is)
    have nQ_max_strength := FB.noat_mk clQ "max_strength" (by k_is)
    have nQ_max_ash := FB.noat_mk clQ "max_ash" (by k_is)
    refine' Exists.elim (FB.init_mk (qual := "Request.__init__") (st := FB.s_Qi) (ps := ["self", "n", "min_strength", "max_strength", "max_ash"]) clQ FB.b_Qi ?a ?t ?l ?c ?k ?m ?n) fun m_Qi h_Qi => ?_; (case a => k_is); (case t => k_is); (case l => k_is); (case c => k_is); (case k => k_is); (case m => k_is); (case n => k_is)
    refine' FB.cls_mk (x := "Bakery") KX G ?a ?b ?c ?d ?e fun gK clK => ?_; (case a => k_is); (case b => k_is); (case c => k_is); (case d => k_is); (case e => k_is)
    have nK_bins := FB.noat_mk clK "bins" (by k_is)
    have nK_request := FB.noat_mk clK "request" (by k_is)
    have nK_spent := FB.noat_mk clK "spent" (by k_is)
    refine' Exists.elim (FB.init_mk (qual := "Bakery.__init__") (st := FB.s_Ki) (ps := ["self"]) clK FB.b_Ki ?a ?t ?l ?c ?k ?m ?n) fun m_Ki h_Ki => ?_; (case a => k_is); (case t => k_is); (case l => k_is); (case c => k_is); (case k => k_is); (case m => k_is); (case n => k_is)
    refine' Exists.elim (FB.meth_mk (x := "add_bin") (qual := "Bakery.add_bin") (st := FB.s_addBin) (ps := ["self", "kilograms", "strength", "ash", "price"]) clK FB.b_addBin ?a ?t ?l ?c ?k) fun m_addBin h_addBin => ?_; (case a => k_is); (case t => k_is); (case l => k_is); (case c => k_is); (case k => k_is)
    refine' Exists.elim (FB.meth_mk (x := "add_flour") (qual := "Bakery.add_flour") (st := FB.s_addFlour) (ps := ["self", "i", "kilograms"]) clK FB.b_addFlour ?a ?t ?l ?c ?k) fun m_addFlour h_addFlour => ?_; (case a => k_is); (case t => k_is); (case l => k_is); (case c => k_is); (case k => k_is)
    refine' Exists.elim (FB.meth_mk (x := "set_price") (qual := "Bakery.set_price") (st := FB.s_setPrice) (ps := ["self", "i", "price"]) clK FB.b_setPrice ?a ?t ?l ?c ?k) fun m_setPrice h_setPrice => ?_; (case a => k_is); (case t => k_is); (case l => k_is); (case c => k_is); (case k => k_is)
    refine' Exists.elim (FB.meth_mk (x := "empty_bin") (qual := "Bakery.empty_bin") (st := FB.s_emptyBin) (ps := ["self", "i"]) clK FB.b_emptyBin ?a ?t ?l ?c ?k) fun m_emptyBin h_emptyBin => ?_; (case a => k_is); (case t => k_is); (case l => k_is); (case c => k_is); (case k => k_is)
    refine' Exists.elim (FB.meth_mk (x := "set_request") (qual := "Bakery.set_request") (st := FB.s_setReq) (ps := ["self", "n", "min_strength", "max_strength", "max_ash"]) clK FB.b_setReq ?a ?t ?l ?c ?k) fun m_setReq h_setReq => ?_; (case a => k_is); (case t => k_is); (case l => k_is); (case c => k_is); (case k => k_is)
    refine' Exists.elim (FB.meth_mk (x := "cheapest_blend") (qual := "Bakery.cheapest_blend") (st := FB.s_cheap) (ps := ["self"]) clK FB.b_cheap ?a ?t ?l ?c ?k) fun m_cheap h_cheap => ?_; (case a => k_is); (case t => k_is); (case l => k_is); (case c => k_is); (case k => k_is)
    refine' Exists.elim (FB.meth_mk (x := "make_cheapest_blend") (qual := "Bakery.make_cheapest_blend") (st := FB.s_mkCheap) (ps := ["self"]) clK FB.b_mkCheap ?a ?t ?l ?c ?k) fun m_mkCheap h_mkCheap => ?_; (case a => k_is); (case t => k_is); (case l => k_is); (case c => k_is); (case k => k_is)
    refine' Exists.elim (FB.meth_mk (x := "make_blend") (qual := "Bakery.make_blend") (st := FB.s_mkBlend) (ps := ["self", "blend"]) clK FB.b_mkBlend ?a ?t ?l ?c ?k) fun m_mkBlend h_mkBlend => ?_; (case a => k_is); (case t => k_is); (case l => k_is); (case c => k_is); (case k => k_is)
    refine' Exists.elim (FB.meth_mk (x := "check_blend") (qual := "Bakery.check_blend") (st := FB.s_check) (ps := ["self", "blend"]) clK FB.b_check ?a ?t ?l ?c ?k) fun m_check h_check => ?_; (case a => k_is); (case t => k_is); (case l => k_is); (case c => k_is); (case k => k_is)
    refine' Exists.elim (FB.meth_mk (x := "count_blends") (qual := "Bakery.count_blends") (st := FB.s_count) (ps := ["self"]) clK FB.b_count ?a ?t ?l ?c ?k) fun m_count h_count => ?_; (case a => k_is); (case t => k_is); (case l => k_is); (case c => k_is); (case k => k_is)
    refine' Exists.elim (FB.meth_mk (x := "greatest_amount") (qual := "Bakery.greatest_amount") (st := FB.s_great) (ps := ["self"]) clK FB.b_great ?a ?t ?l ?c ?k) fun m_great h_great => ?_; (case a => k_is); (case t => k_is); (case l => k_is); (case c => k_is); (case k => k_is)
    refine' Exists.elim (FB.meth_mk (x := "extreme_averages") (qual := "Bakery.extreme_averages") (st := FB.s_extr) (ps := ["self", "n"]) clK FB.b_extr ?a ?t ?l ?c ?k) fun m_extr h_extr => ?_; (case a => k_is); (case t => k_is); (case l => k_is); (case c => k_is); (case k => k_is)
    refine' Exists.elim (FB.meth_mk (x := "obstacle") (qual := "Bakery.obstacle") (st := FB.s_obst) (ps := ["self"]) clK FB.b_obst ?a ?t ?l ?c ?k) fun m_obst h_obst => ?_; (case a => k_is); (case t => k_is); (case l => k_is); (case c => k_is); (case k => k_is)
    refine' Exists.elim (FB.meth_mk (x := "cheapest_if_price") (qual := "Bakery.cheapest_if_price") (st := FB.s_ifPrice) (ps := ["self", "i", "price"]) clK FB.b_ifPrice ?a ?t ?l ?c ?k) fun m_ifPrice h_ifPrice => ?_; (case a => k_is); (case t => k_is); (case l => k_is); (case c => k_is); (case k => k_is)
    refine' Exists.elim (FB.meth_mk (x := "cheapest_without") (qual := "Bakery.cheapest_without") (st := FB.s_without) (ps := ["self", "i"]) clK FB.b_without ?a ?t ?l ?c ?k) fun m_without h_without => ?_; (case a => k_is); (case t => k_is); (case l => k_is); (case c => k_is); (case k => k_is)
    refine' Exists.elim (FB.meth_mk (x := "describe") (qual := "Bakery.describe") (st := FB.s_descr) (ps := ["self"]) clK FB.b_descr ?a ?t ?l ?c ?k) fun m_descr h_descr => ?_; (case a => k_is); (case t => k_is); (case l => k_is); (case c => k_is); (case k => k_is)
    refine' Exists.elim (FB.meth_mk (x := "cheapest_from") (qual := "Bakery.cheapest_from") (st := FB.s_from_) (ps := ["self", "bins"]) clK FB.b_from_ ?a ?t ?l ?c ?k) fun m_from_ h_from_ => ?_; (case a => k_is); (case t => k_is); (case l => k_is); (case c => k_is); (case k => k_is)
    refine' Exists.elim (FB.meth_mk (x := "cheapest_with") (qual := "Bakery.cheapest_with") (st := FB.s_with_) (ps := ["self", "i", "other"]) clK FB.b_with_ ?a ?t ?l ?c ?k) fun m_with_ h_with_ => ?_; (case a => k_is); (case t => k_is); (case l => k_is); (case c => k_is); (case k => k_is)
    refine' Exists.elim (FB.meth_mk (x := "has_bin") (qual := "Bakery.has_bin") (st := FB.s_hasBin) (ps := ["self", "i"]) clK FB.b_hasBin ?a ?t ?l ?c ?k) fun m_hasBin h_hasBin => ?_; (case a => k_is); (case t => k_is); (case l => k_is); (case c => k_is); (case k => k_is)
    refine' Exists.elim (FB.meth_mk (x := "has_form") (qual := "Bakery.has_form") (st := FB.s_hasForm) (ps := ["self", "blend"]) clK FB.b_hasForm ?a ?t ?l ?c ?k) fun m_hasForm h_hasForm => ?_; (case a => k_is); (case t => k_is); (case l => k_is); (case c => k_is); (case k => k_is)
    refine' Exists.elim (FB.meth_mk (x := "take_out") (qual := "Bakery.take_out") (st := FB.s_take) (ps := ["self", "blend"]) clK FB.b_take ?a ?t ?l ?c ?k) fun m_take h_take => ?_; (case a => k_is); (case t => k_is); (case l => k_is); (case c => k_is); (case k => k_is)
    refine' FB.cls_mk (x := "Reader") KX G ?a ?b ?c ?d ?e fun gR clR => ?_; (case a => k_is); (case b => k_is); (case c => k_is); (case d => k_is); (case e => k_is)
    have nR_calls := FB.noat_mk clR "calls" (by k_is)
    have nR_place := FB.noat_mk clR "place" (by k_is)
    refine' Exists.elim (FB.init_mk (qual := "Reader.__init__") (st := FB.s_Ri) (ps := ["self", "calls"]) clR FB.b_Ri ?a ?t ?l ?c ?k ?m ?n) fun m_Ri h_Ri => ?_; (case a => k_is); (case t => k_is); (case l => k_is); (case c => k_is); (case k => k_is); (case m => k_is); (case n => k_is)
    refine' Exists.elim (FB.meth_mk (x := "has_more") (qual := "Reader.has_more") (st := FB.s_more) (ps := ["self"]) clR FB.b_more ?a ?t ?l ?c ?k) fun m_more h_more => ?_; (case a => k_is); (case t => k_is); (case l => k_is); (case c => k_is); (case k => k_is)
    refine' Exists.elim (FB.meth_mk (x := "take_one") (qual := "Reader.take_one") (st := FB.s_one) (ps := ["self"]) clR FB.b_one ?a ?t ?l ?c ?k) fun m_one h_one => ?_; (case a => k_is); (case t => k_is); (case l => k_is); (case c => k_is); (case k => k_is)
    refine' Exists.elim (FB.meth_mk (x := "take_several") (qual := "Reader.take_several") (st := FB.s_several) (ps := ["self", "how_many"]) clR FB.b_several ?a ?t ?l ?c ?k) fun m_several h_several => ?_; (case a => k_is); (case t => k_is); (case l => k_is); (case c => k_is); (case k => k_is)
    refine' Exists.elim (FB.tup_mk KX G "NUMBERS_OF_CALL" [0, 4, 2, 2, 1, 4, 0, 0, 0, 0, 0, 0, 1, 0, 2, 1, 0] ?a ?l ?z ?v) fun tNum h_tNum => ?_; (case a => k_is); (case l => k_is); (case z => decide); (case v => rfl)
    refine' Exists.elim (FB.tup_mk KX G "CALLS_WITH_ROW" [8, 9] ?a ?l ?z ?v) fun tRow h_tRow => ?_; (case a => k_is); (case l => k_is); (case z => decide); (case v => rfl)
    refine' Exists.elim (FB.int_mk KX G "NO_INSTANCE" (-11) ?a) fun k_NO_INSTANCE g_NO_INSTANCE => ?_; (case a => k_is)
    refine' Exists.elim (FB.int_mk KX G "NO_SUCH_BIN" (-2) ?a) fun k_NO_SUCH_BIN g_NO_SUCH_BIN => ?_; (case a => k_is)
    refine' Exists.elim (FB.int_mk KX G "OUT_OF_RANGE" (-22) ?a) fun k_OUT_OF_RANGE g_OUT_OF_RANGE => ?_; (case a => k_is)
    refine' Exists.elim (FB.int_mk KX G "TOO_MANY_BINS" (-28) ?a) fun k_TOO_MANY_BINS g_TOO_MANY_BINS => ?_; (case a => k_is)
    refine' Exists.elim (FB.int_mk KX G "TOO_LITTLE_FLOUR" (-6) ?a) fun k_TOO_LITTLE_FLOUR g_TOO_LITTLE_FLOUR => ?_; (case a => k_is)
    refine' Exists.elim (FB.int_mk KX G "NOT_VALID" (-33) ?a) fun k_NOT_VALID g_NOT_VALID => ?_; (case a => k_is)
    refine' Exists.elim (FB.int_mk KX G "NO_OBSTACLE" (0) ?a) fun k_NO_OBSTACLE g_NO_OBSTACLE => ?_; (case a => k_is)
    refine' Exists.elim (FB.int_mk KX G "NO_BLEND" (1) ?a) fun k_NO_BLEND g_NO_BLEND => ?_; (case a => k_is)
    refine' Exists.elim (FB.int_mk KX G "TOO_WEAK" (2) ?a) fun k_TOO_WEAK g_TOO_WEAK => ?_; (case a => k_is)
    refine' Exists.elim (FB.int_mk KX G "TOO_STRONG" (3) ?a) fun k_TOO_STRONG g_TOO_STRONG => ?_; (case a => k_is)
    refine' Exists.elim (FB.int_mk KX G "TOO_MUCH_ASH" (4) ?a) fun k_TOO_MUCH_ASH g_TOO_MUCH_ASH => ?_; (case a => k_is)
    refine' Exists.elim (FB.int_mk KX G "NONE_VALID" (5) ?a) fun k_NONE_VALID g_NONE_VALID => ?_; (case a => k_is)
    refine' Exists.elim (FB.int_mk KX G "MOST_KILOGRAMS" (30) ?a) fun k_MOST_KILOGRAMS g_MOST_KILOGRAMS => ?_; (case a => k_is)
    refine' Exists.elim (FB.int_mk KX G "MOST_STRENGTH" (999) ?a) fun k_MOST_STRENGTH g_MOST_STRENGTH => ?_; (case a => k_is)
    refine' Exists.elim (FB.int_mk KX G "MOST_ASH" (999) ?a) fun k_MOST_ASH g_MOST_ASH => ?_; (case a => k_is)
    refine' Exists.elim (FB.int_mk KX G "MOST_PRICE" (99) ?a) fun k_MOST_PRICE g_MOST_PRICE => ?_; (case a => k_is)
    refine' Exists.elim (FB.int_mk KX G "MOST_BINS" (4) ?a) fun k_MOST_BINS g_MOST_BINS => ?_; (case a => k_is)
    refine' Exists.elim (FB.int_mk KX G "CREATE" (0) ?a) fun k_CREATE g_CREATE => ?_; (case a => k_is)
    refine' Exists.elim (FB.int_mk KX G "ADD_BIN" (1) ?a) fun k_ADD_BIN g_ADD_BIN => ?_; (case a => k_is)
    refine' Exists.elim (FB.int_mk KX G "ADD_FLOUR" (2) ?a) fun k_ADD_FLOUR g_ADD_FLOUR => ?_; (case a => k_is)
    refine' Exists.elim (FB.int_mk KX G "SET_PRICE" (3) ?a) fun k_SET_PRICE g_SET_PRICE => ?_; (case a => k_is)
    refine' Exists.elim (FB.int_mk KX G "EMPTY_BIN" (4) ?a) fun k_EMPTY_BIN g_EMPTY_BIN => ?_; (case a => k_is)
    refine' Exists.elim (FB.int_mk KX G "SET_REQUEST" (5) ?a) fun k_SET_REQUEST g_SET_REQUEST => ?_; (case a => k_is)
    refine' Exists.elim (FB.int_mk KX G "CHEAPEST_BLEND" (6) ?a) fun k_CHEAPEST_BLEND g_CHEAPEST_BLEND => ?_; (case a => k_is)
    refine' Exists.elim (FB.int_mk KX G "MAKE_CHEAPEST_BLEND" (7) ?a) fun k_MAKE_CHEAPEST_BLEND g_MAKE_CHEAPEST_BLEND => ?_; (case a => k_is)
    refine' Exists.elim (FB.int_mk KX G "MAKE_BLEND" (8) ?a) fun k_MAKE_BLEND g_MAKE_BLEND => ?_; (case a => k_is)
    refine' Exists.elim (FB.int_mk KX G "CHECK_BLEND" (9) ?a) fun k_CHECK_BLEND g_CHECK_BLEND => ?_; (case a => k_is)
    refine' Exists.elim (FB.int_mk KX G "COUNT_BLENDS" (10) ?a) fun k_COUNT_BLENDS g_COUNT_BLENDS => ?_; (case a => k_is)
    refine' Exists.elim (FB.int_mk KX G "GREATEST_AMOUNT" (11) ?a) fun k_GREATEST_AMOUNT g_GREATEST_AMOUNT => ?_; (case a => k_is)
    refine' Exists.elim (FB.int_mk KX G "EXTREME_AVERAGES" (12) ?a) fun k_EXTREME_AVERAGES g_EXTREME_AVERAGES => ?_; (case a => k_is)
    refine' Exists.elim (FB.int_mk KX G "OBSTACLE" (13) ?a) fun k_OBSTACLE g_OBSTACLE => ?_; (case a => k_is)
    refine' Exists.elim (FB.int_mk KX G "CHEAPEST_IF_PRICE" (14) ?a) fun k_CHEAPEST_IF_PRICE g_CHEAPEST_IF_PRICE => ?_; (case a => k_is)
    refine' Exists.elim (FB.int_mk KX G "CHEAPEST_WITHOUT" (15) ?a) fun k_CHEAPEST_WITHOUT g_CHEAPEST_WITHOUT => ?_; (case a => k_is)
    have b_len := PySem.W.mg_none_of (n := "len") KX G (by k_is)
    have b_min := PySem.W.mg_none_of (n := "min") KX G (by k_is)
    have b_max := PySem.W.mg_none_of (n := "max") KX G (by k_is)
    have b_sum := PySem.W.mg_none_of (n := "sum") KX G (by k_is)
    have b_zip := PySem.W.mg_none_of (n := "zip") KX G (by k_is)
    have b_range := PySem.W.mg_none_of (n := "range") KX G (by k_is)
    have b_all := PySem.W.mg_none_of (n := "all") KX G (by k_is)
    have b_any := PySem.W.mg_none_of (n := "any") KX G (by k_is)
    have b_list := PySem.W.mg_none_of (n := "list") KX G (by k_is)
    refine' Exists.elim (FB.tab_mk KX (x := "find_cheapest") ?a ?l ?c ?k ?t) fun c hc => Exists.elim hc fun Tb ht => ?_; (case a => k_is); (case l => k_is); (case c => rfl); (case k => k_is); (case t => rfl)
    have e := hmg.symm.trans h_an.1.g
    cases e
    have T : FB.Txt _ mg { d_gd := d_gd, d_av := d_av, d_bf := d_bf, d_ab := d_ab, d_co := d_co, d_ss := d_ss, d_as := d_as, d_ia := d_ia, d_kb := d_kb, d_mr := d_mr, d_iv := d_iv, d_vb := d_vb, d_fc := d_fc, d_su := d_su, d_gw := d_gw, d_fo := d_fo, d_ip := d_ip, d_im := d_im, d_ih := d_ih, d_iw := d_iw, d_cs := d_cs, d_fm := d_fm, d_te := d_te, d_ao := d_ao, d_an := d_an, m_Bi := m_Bi, m_Qi := m_Qi, m_Ki := m_Ki, m_addBin := m_addBin, m_addFlour := m_addFlour, m_setPrice := m_setPrice, m_emptyBin := m_emptyBin, m_setReq := m_setReq, m_cheap := m_cheap, m_mkCheap := m_mkCheap, m_mkBlend := m_mkBlend, m_check := m_check, m_count := m_count, m_great := m_great, m_extr := m_extr, m_obst := m_obst, m_ifPrice := m_ifPrice, m_without := m_without, m_descr := m_descr, m_from_ := m_from_, m_with_ := m_with_, m_hasBin := m_hasBin, m_hasForm := m_hasForm, m_take := m_take, m_Ri := m_Ri, m_more := m_more, m_one := m_one, m_several := m_several, cB := _, cQ := _, cK := _, cR := _, tNum := tNum, tRow := tRow, k_NO_INSTANCE := k_NO_INSTANCE, k_NO_SUCH_BIN := k_NO_SUCH_BIN, k_OUT_OF_RANGE := k_OUT_OF_RANGE, k_TOO_MANY_BINS := k_TOO_MANY_BINS, k_TOO_LITTLE_FLOUR := k_TOO_LITTLE_FLOUR, k_NOT_VALID := k_NOT_VALID, k_NO_OBSTACLE := k_NO_OBSTACLE, k_NO_BLEND := k_NO_BLEND, k_TOO_WEAK := k_TOO_WEAK, k_TOO_STRONG := k_TOO_STRONG, k_TOO_MUCH_ASH := k_TOO_MUCH_ASH, k_NONE_VALID := k_NONE_VALID, k_MOST_KILOGRAMS := k_MOST_KILOGRAMS, k_MOST_STRENGTH := k_MOST_STRENGTH, k_MOST_ASH := k_MOST_ASH, k_MOST_PRICE := k_MOST_PRICE, k_MOST_BINS := k_MOST_BINS, k_CREATE := k_CREATE, k_ADD_BIN := k_ADD_BIN, k_ADD_FLOUR := k_ADD_FLOUR, k_SET_PRICE := k_SET_PRICE, k_EMPTY_BIN := k_EMPTY_BIN, k_SET_REQUEST := k_SET_REQUEST, k_CHEAPEST_BLEND := k_CHEAPEST_BLEND, k_MAKE_CHEAPEST_BLEND := k_MAKE_CHEAPEST_BLEND, k_MAKE_BLEND := k_MAKE_BLEND, k_CHECK_BLEND := k_CHECK_BLEND, k_COUNT_BLENDS := k_COUNT_BLENDS, k_GREATEST_AMOUNT := k_GREATEST_AMOUNT, k_EXTREME_AVERAGES := k_EXTREME_AVERAGES, k_OBSTACLE := k_OBSTACLE, k_CHEAPEST_IF_PRICE := k_CHEAPEST_IF_PRICE, k_CHEAPEST_WITHOUT := k_CHEAPEST_WITHOUT } := { gd := h_gd.1, av := h_av.1, bf := h_bf.1, ab := h_ab.1, co := h_co.1, ss := h_ss.1, as := h_as.1, ia := h_ia.1, kb := h_kb.1, mr := h_mr.1, iv := h_iv.1, vb := h_vb.1, fc := h_fc.1, su := h_su.1, gw := h_gw.1, fo := h_fo.1, ip := h_ip.1, im := h_im.1, ih := h_ih.1, iw := h_iw.1, cs := h_cs.1, fm := h_fm.1, te := h_te.1, ao := h_ao.1, an := h_an.1, Bi := h_Bi, Qi := h_Qi, Ki := h_Ki, addBin := h_addBin, addFlour := h_addFlour, setPrice := h_setPrice, emptyBin := h_emptyBin, setReq := h_setReq, cheap := h_cheap, mkCheap := h_mkCheap, mkBlend := h_mkBlend, check := h_check, count := h_count, great := h_great, extr := h_extr, obst := h_obst, ifPrice := h_ifPrice, without := h_without, descr := h_descr, from_ := h_from_, with_ := h_with_, hasBin := h_hasBin, hasForm := h_hasForm, take := h_take, Ri := h_Ri, more := h_more, one := h_one, several := h_several, clB := clB, mgB := gB, nB_kilograms := nB_kilograms, nB_strength := nB_strength, nB_ash := nB_ash, nB_price := nB_price, clQ := clQ, mgQ := gQ, nQ_n := nQ_n, nQ_min_strength := nQ_min_strength, nQ_max_strength := nQ_max_strength, nQ_max_ash := nQ_max_ash, clK := clK, mgK := gK, nK_bins := nK_bins, nK_request := nK_request, nK_spent := nK_spent, clR := clR, mgR := gR, nR_calls := nR_calls, nR_place := nR_place, mg_NUMBERS_OF_CALL := h_tNum.1, at_NUMBERS_OF_CALL := h_tNum.2, mg_CALLS_WITH_ROW := h_tRow.1, at_CALLS_WITH_ROW := h_tRow.2, g_NO_INSTANCE := g_NO_INSTANCE, g_NO_SUCH_BIN := g_NO_SUCH_BIN, g_OUT_OF_RANGE := g_OUT_OF_RANGE, g_TOO_MANY_BINS := g_TOO_MANY_BINS, g_TOO_LITTLE_FLOUR := g_TOO_LITTLE_FLOUR, g_NOT_VALID := g_NOT_VALID, g_NO_OBSTACLE := g_NO_OBSTACLE, g_NO_BLEND := g_NO_BLEND, g_TOO_WEAK := g_TOO_WEAK, g_TOO_STRONG := g_TOO_STRONG, g_TOO_MUCH_ASH := g_TOO_MUCH_ASH, g_NONE_VALID := g_NONE_VALID, g_MOST_KILOGRAMS := g_MOST_KILOGRAMS, g_MOST_STRENGTH := g_MOST_STRENGTH, g_MOST_ASH := g_MOST_ASH, g_MOST_PRICE := g_MOST_PRICE, g_MOST_BINS := g_MOST_BINS, g_CREATE := g_CREATE, g_ADD_BIN := g_ADD_BIN, g_ADD_FLOUR := g_ADD_FLOUR, g_SET_PRICE := g_SET_PRICE, g_EMPTY_BIN := g_EMPTY_BIN, g_SET_REQUEST := g_SET_REQUEST, g_CHEAPEST_BLEND := g_CHEAPEST_BLEND, g_MAKE_CHEAPEST_BLEND := g_MAKE_CHEAPEST_BLEND, g_MAKE_BLEND := g_MAKE_BLEND, g_CHECK_BLEND := g_CHECK_BLEND, g_COUNT_BLENDS := g_COUNT_BLENDS, g_GREATEST_AMOUNT := g_GREATEST_AMOUNT, g_EXTREME_AVERAGES := g_EXTREME_AVERAGES, g_OBSTACLE := g_OBSTACLE, g_CHEAPEST_IF_PRICE := g_CHEAPEST_IF_PRICE, g_CHEAPEST_WITHOUT := g_CHEAPEST_WITHOUT, b_len := b_len, b_min := b_min, b_max := b_max, b_sum := b_sum, b_zip := b_zip, b_range := b_range, b_all := b_all, b_any := b_any, b_list := b_list }
    exact ⟨d_an.fd, c, Tb, ht, h_an.2, fun base KB GB TB => FB.ok_an T ⟨KB, GB, ht, TB⟩⟩
  case S =>
    intro K T H H' xs a hwi hask hx sm hT
    cases hx with
    | cons h1 h2 =>
      cases h2
      cases h1 with
      | lst hs ha =>
        have e := L2.ints_dw a.1 _ ha
        subst e
        exact ⟨_, a.1, rfl, L2.Same.seq sm hs, hask, hT, fun H' p hp => .lst (L2.SqL.of hp) (L2.dw_ints _)⟩
