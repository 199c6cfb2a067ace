import PyProof.Rows.All
import Wide.All
import OpenK.AllK
import Wide.FinOn
import PyProof.EqAt
import PyProof.EqKinds
import PyProof.TupleCall
import KE.KRevSl
import HandS.Base
import HandS.Call
import HandS.List
import HandS.Comp
import HandS.Iter
import HandS.Walk
import HandS.Ends
import HandS.Evl
import HandS.Words
import Open.SpecLaws
import KE.OsGo
import HandS.Zip
import HandS.Spec
import HandS.WordsList
import PySem.Challenge.RW_balelayer_s01_mean
namespace Bal
/-- every other item, the first among them -/
def ev {α : Type} : List α → List α
  | [] => []
  | [a] => [a]
  | a :: _ :: r => a :: ev r
theorem everyMap {α β : Type} (g : α → β) : ∀ l : List α, ev (l.map g) = (ev l).map g
  | [] => rfl
  | [_] => rfl
  | a :: b :: r => by
    show g a :: ev (r.map g) = g a :: (ev r).map g
    rw [everyMap g r]
theorem everyLen {α : Type} : ∀ l : List α, (ev l).length ≤ l.length
  | [] => Nat.le_refl _
  | [_] => Nat.le_refl _
  | a :: b :: r => by
    have := everyLen r
    show (ev r).length + 1 ≤ r.length + 1 + 1
    omega
theorem everyRange {α : Type} : ∀ l : List α, (List.range ((l.length + 1) / 2)).filterMap (fun k => l[2 * k]?) = ev l
  | [] => by simp [ev]
  | [_] => by simp [ev]
  | a :: b :: r => by
    have e : ((a :: b :: r).length + 1) / 2 = (r.length + 1) / 2 + 1 := by
      rw [List.length_cons, List.length_cons]
      omega
    rw [e, List.range_succ_eq_map, List.filterMap_cons]
    show a :: List.filterMap _ _ = a :: ev r
    rw [← everyRange r, List.filterMap_map]
    congr 1
theorem fm_congr {α β : Type} {f g : α → Option β} : ∀ {l : List α}, (∀ x ∈ l, f x = g x) → l.filterMap f = l.filterMap g
  | [], _ => rfl
  | a :: r, h => by
    rw [List.filterMap_cons, List.filterMap_cons, h a List.mem_cons_self, fm_congr fun x hx => h x (List.mem_cons_of_mem _ hx)]
end Bal
namespace Bal
theorem sum_eq (l : List Nat) : ∀ k : Nat, l.foldl (· + ·) k = k + l.sum := by
  induction l with
  | nil => intro k; rfl
  | cons x r ih =>
    intro k
    rw [List.foldl_cons, ih, List.sum_cons]
    omega
theorem ksum (l : List Nat) : Kzd1.sum l = l.sum := by
  unfold Kzd1.sum
  rw [sum_eq, Nat.zero_add]
theorem top_ge : ∀ (l : List Nat) (k : Nat), k ≤ l.foldl max k ∧ ∀ x ∈ l, x ≤ l.foldl max k
  | [], k => ⟨Nat.le_refl _, fun x h => by cases h⟩
  | a :: r, k => by
    obtain ⟨h1, h2⟩ := top_ge r (max k a)
    refine ⟨Nat.le_trans (Nat.le_max_left k a) h1, fun x hx => ?_⟩
    cases hx with
    | head => exact Nat.le_trans (Nat.le_max_right k a) h1
    | tail _ hx => exact h2 x hx
theorem top_mem : ∀ (l : List Nat) (k : Nat), l.foldl max k = k ∨ l.foldl max k ∈ l
  | [], k => .inl rfl
  | a :: r, k => by
    rcases top_mem r (max k a) with h | h
    · by_cases c : k ≤ a
      · right
        have : max k a = a := Nat.max_eq_right c
        show r.foldl max (max k a) ∈ a :: r
        rw [h, this]
        exact List.mem_cons_self
      · left
        show r.foldl max (max k a) = k
        rw [h]
        exact Nat.max_eq_left (by omega)
    · right
      exact List.mem_cons_of_mem _ h
/-- the greatest item is top -/
theorem top_is {l : List Nat} {m : Nat} (h1 : m ∈ l) (h2 : ∀ x ∈ l, x ≤ m) : Kzd1.top l = m := by
  unfold Kzd1.top
  have a := (top_ge l 0).2 m h1
  rcases top_mem l 0 with h | h
  · omega
  · exact Nat.le_antisymm (h2 _ h) a
theorem over_all {α β : Type} (g : α → β) (d : α) (l : List α) : (List.range l.length).map (fun i => g (l.getD i d)) = l.map g := by
  apply List.ext_getElem?
  intro i
  rw [List.getElem?_map, List.getElem?_map]
  by_cases h : i < l.length
  · rw [List.getElem?_range h, List.getElem?_eq_getElem h]
    show some (g (l.getD i d)) = some (g l[i])
    rw [List.getD_eq_getElem?_getD, List.getElem?_eq_getElem h]
    rfl
  · rw [List.getElem?_eq_none (by rw [List.length_range]; omega), List.getElem?_eq_none (by omega)]
    rfl
open Kzd1
theorem kg_all (l : List Bale) : kgOf l (Kzd1.all l) = (l.map Bale.kg).sum := by
  unfold kgOf Kzd1.all at_
  rw [ksum, over_all Bale.kg]
theorem long_all (l : List Bale) : longOf l (Kzd1.all l) = (l.map fun b => b.kg * b.long).sum := by
  unfold longOf Kzd1.all at_
  rw [ksum, over_all fun b : Bale => b.kg * b.long]
/-- of an even list: the bales' kilograms, their lengths -/
theorem ev_kg : ∀ l : List Nat, l.length % 2 = 0 → ev l = (bales l).map Bale.kg
  | [], _ => rfl
  | [_], h => by simp at h
  | a :: b :: r, h => by
    have h' : r.length % 2 = 0 := by
      rw [List.length_cons, List.length_cons] at h
      omega
    show a :: ev r = a :: (bales r).map Bale.kg
    rw [ev_kg r h']
theorem od_long : ∀ l : List Nat, l.length % 2 = 0 → ev (l.drop 1) = (bales l).map Bale.long
  | [], _ => rfl
  | [_], h => by simp at h
  | a :: b :: r, h => by
    have h' : r.length % 2 = 0 := by
      rw [List.length_cons, List.length_cons] at h
      omega
    show ev (b :: r) = b :: (bales r).map Bale.long
    rw [← od_long r h']
    cases r with
    | nil => rfl
    | cons c r => rfl
theorem bales_len : ∀ l : List Nat, (bales l).length = l.length / 2
  | [] => rfl
  | [_] => by show 0 = 1 / 2; rfl
  | a :: b :: r => by
    show (bales r).length + 1 = (r.length + 1 + 1) / 2
    rw [bales_len r]
    omega
/-- what is right of the list, in three -/
theorem good_odd {l : List Nat} (h : l.length % 2 ≠ 0) : good l = false := by
  unfold good
  rw [decide_eq_false h]
  rfl
theorem good_long {l : List Nat} (h : 18 < l.length) : good l = false := by
  by_cases c : l.length % 2 = 0
  · unfold good ok
    have e : ¬ (bales l).length ≤ 9 := by
      rw [bales_len]
      omega
    rw [decide_eq_false e, Bool.false_and, Bool.and_false]
  · exact good_odd c
theorem good_eq {l : List Nat} (h : l.length % 2 = 0) (h2 : l.length ≤ 18) : good l = (bales l).all okBale := by
  unfold good ok
  have e : (bales l).length ≤ 9 := by
    rw [bales_len]
    omega
  rw [decide_eq_true e, decide_eq_true h, Bool.true_and, Bool.true_and]
theorem ok_iff {b : Bale} : okBale b = true ↔ 1 ≤ b.kg ∧ b.kg ≤ 300 ∧ b.long ≤ 500 := by
  unfold okBale
  rw [Bool.and_eq_true, Bool.and_eq_true, decide_eq_true_eq, decide_eq_true_eq, decide_eq_true_eq, and_assoc]
theorem good_iff {l : List Nat} : good l = true ↔ l.length % 2 = 0 ∧ l.length ≤ 18 ∧ ∀ b ∈ bales l, 1 ≤ b.kg ∧ b.kg ≤ 300 ∧ b.long ≤ 500 := by
  by_cases h : l.length % 2 = 0
  · by_cases h2 : l.length ≤ 18
    · rw [good_eq h h2, List.all_eq_true]
      constructor
      · intro z
        exact ⟨h, h2, fun b hb => ok_iff.mp (z b hb)⟩
      · intro z b hb
        exact ok_iff.mpr (z.2.2 b hb)
    · rw [good_long (Nat.lt_of_not_le h2)]
      constructor
      · intro z; cases z
      · intro z; exact absurd z.2.1 h2
  · rw [good_odd h]
    constructor
    · intro z; cases z
    · intro z; exact absurd z.1 h
/-! ### mean -/
theorem mean_due (l : List Int) : PyKzd1.mean l = (let a := Kzd1.answer (.mean (Kzd1Neutral.natsOf l)); a.value :: Kzd1Neutral.ints a.nums) := rfl
abbrev toZ (l : List Nat) : List Int := Kzd1Neutral.ints l
theorem nats_ints (l : List Nat) : Kzd1Neutral.natsOf (toZ l) = l := by
  unfold Kzd1Neutral.natsOf toZ Kzd1Neutral.ints
  rw [List.map_map]
  conv => rhs; rw [← List.map_id l]
  rfl
/-- a list of numbers not below 0 is one of naturals -/
theorem ints_of {l : List Int} (h : ∀ x ∈ l, 0 ≤ x) : l = toZ (Kzd1Neutral.natsOf l) := by
  unfold Kzd1Neutral.natsOf toZ Kzd1Neutral.ints
  rw [List.map_map]
  conv => lhs; rw [← List.map_id l]
  apply List.map_congr_left
  intro x hx
  show x = ((x.toNat : Nat) : Int)
  have := h x hx
  omega
theorem mean_bad {l : List Nat} (h : good l = false) : PyKzd1.mean (toZ l) = [-22] := by
  rw [mean_due, nats_ints]
  have e : Kzd1.answer (.mean l) = say (-22) := if_pos h
  rw [e]
  rfl
theorem mean_ok {l : List Nat} (h : good l = true) : PyKzd1.mean (toZ l) =
    [((Kzd1.mean (bales l) (Kzd1.all (bales l)) : Nat) : Int), ((((bales l).map Bale.kg).sum : Nat) : Int), ((top ((bales l).map Bale.long) : Nat) : Int)] := by
  rw [mean_due, nats_ints]
  have e : Kzd1.answer (.mean l) = ⟨((Kzd1.mean (bales l) (Kzd1.all (bales l)) : Nat) : Int), [kgOf (bales l) (Kzd1.all (bales l)), top ((bales l).map Bale.long)]⟩ := if_neg (by rw [h]; decide)
  rw [e, kg_all]
  rfl
theorem mean_none : PyKzd1.mean (toZ []) = [0, 0, 0] := by rfl
theorem kmean (l : List Bale) : Kzd1.mean l (Kzd1.all l) = if (l.map Bale.kg).sum = 0 then 0 else (l.map fun b => b.kg * b.long).sum / (l.map Bale.kg).sum := by
  unfold Kzd1.mean
  rw [kg_all, long_all]
/-- with a bale there are kilograms -/
theorem kg_pos {l : List Bale} (h : ∀ b ∈ l, 1 ≤ b.kg) (h0 : l ≠ []) : 0 < (l.map Bale.kg).sum := by
  cases l with
  | nil => exact absurd rfl h0
  | cons b r =>
    have := h b List.mem_cons_self
    rw [List.map_cons, List.sum_cons]
    omega
theorem sum_le {l : List Nat} {m : Nat} (h : ∀ x ∈ l, x ≤ m) : l.sum ≤ l.length * m := by
  induction l with
  | nil => exact Nat.zero_le _
  | cons a r ih =>
    have h1 := h a List.mem_cons_self
    have h2 := ih fun x hx => h x (List.mem_cons_of_mem _ hx)
    rw [List.sum_cons, List.length_cons, Nat.add_mul, Nat.one_mul]
    omega
theorem cast_sum (l : List Nat) : (toZ l).sum = ((l.sum : Nat) : Int) := by
  unfold toZ Kzd1Neutral.ints
  induction l with
  | nil => rfl
  | cons a r ih =>
    rw [List.map_cons, List.sum_cons, List.sum_cons, ih]
    omega
end Bal
namespace Bal
open Kzd1
/-! ### all choices, grown at the end -/
def firstOf (c : List Nat) : Nat := match c.getLast? with
  | none => 0
  | some b => b + 1
theorem firstOf_snoc (c : List Nat) (b : Nat) : firstOf (c ++ [b]) = b + 1 := by
  unfold firstOf
  rw [List.getLast?_concat]
def grow (n : Nat) (c : List Nat) : List (List Nat) := (List.range (n - firstOf c)).map fun j => c ++ [firstOf c + j]
def grown (n : Nat) : Nat → List (List Nat)
  | 0 => [[]]
  | p + 1 => (grown n p).flatMap (grow n)
theorem fl_congr {α β : Type} {f g : α → List β} : ∀ {l : List α}, (∀ x ∈ l, f x = g x) → l.flatMap f = l.flatMap g
  | [], _ => rfl
  | a :: r, h => by
    rw [List.flatMap_cons, List.flatMap_cons, h a List.mem_cons_self, fl_congr fun x hx => h x (List.mem_cons_of_mem _ hx)]
theorem picks_zero (l : List Nat) : picks 0 l = [[]] := by cases l <;> rfl
def steps (n : Nat) : Nat → List (List Nat) → List (List Nat)
  | 0, L => L
  | j + 1, L => steps n j (L.flatMap (grow n))
theorem steps_snoc (n : Nat) : ∀ (j : Nat) (L : List (List Nat)), steps n (j + 1) L = (steps n j L).flatMap (grow n)
  | 0, _ => rfl
  | j + 1, L => steps_snoc n j (L.flatMap (grow n))
theorem grown_steps (n : Nat) : ∀ j, grown n j = steps n j [[]]
  | 0 => rfl
  | j + 1 => by
    rw [steps_snoc, ← grown_steps n j]
    rfl
theorem steps_flat (n : Nat) : ∀ (j : Nat) (L : List (List Nat)), steps n j L = L.flatMap fun c => steps n j [c]
  | 0, L => by
    show L = L.flatMap fun c => [c]
    rw [List.flatMap_singleton']
  | j + 1, L => by
    show steps n j (L.flatMap (grow n)) = L.flatMap fun c => steps n j ([c].flatMap (grow n))
    rw [steps_flat n j, List.flatMap_assoc]
    apply fl_congr
    intro c _
    rw [List.flatMap_singleton, ← steps_flat n j]
theorem picks_range (n j : Nat) : ∀ (m s : Nat), s + m = n → picks (j + 1) (List.range' s m) = (List.range' s m).flatMap fun b => (picks j (List.range' (b + 1) (n - (b + 1)))).map (b :: ·)
  | 0, _, _ => rfl
  | m + 1, s, h => by
    rw [List.range'_succ]
    show (picks j (List.range' (s + 1) m)).map (s :: ·) ++ picks (j + 1) (List.range' (s + 1) m) = _
    rw [List.flatMap_cons, picks_range n j m (s + 1) (by omega), show n - (s + 1) = m by omega]
theorem steps_one (n : Nat) : ∀ (j : Nat) (c : List Nat), steps n j [c] = (picks j (List.range' (firstOf c) (n - firstOf c))).map (c ++ ·)
  | 0, c => by
    rw [picks_zero]
    show [c] = [c ++ []]
    rw [List.append_nil]
  | j + 1, c => by
    show steps n j ([c].flatMap (grow n)) = _
    rw [List.flatMap_singleton, steps_flat]
    have e : (grow n c).flatMap (fun d => steps n j [d]) = (List.range' (firstOf c) (n - firstOf c)).flatMap fun b => (picks j (List.range' (b + 1) (n - (b + 1)))).map ((c ++ [b]) ++ ·) := by
      unfold grow
      rw [List.flatMap_map, List.range'_eq_map_range, List.flatMap_map]
      apply fl_congr
      intro b _
      rw [steps_one n j, firstOf_snoc]
    rw [e]
    by_cases h : firstOf c ≤ n
    · rw [picks_range n j _ _ (show firstOf c + (n - firstOf c) = n by omega), List.map_flatMap]
      apply fl_congr
      intro b _
      rw [List.map_map]
      apply List.map_congr_left
      intro d _
      show (c ++ [b]) ++ d = c ++ (b :: d)
      rw [List.append_assoc]
      rfl
    · rw [show n - firstOf c = 0 by omega]
      rfl
theorem grown_is (n k : Nat) : grown n k = picks k (List.range n) := by
  rw [grown_steps, steps_one]
  show (picks k (List.range' 0 (n - 0))).map ([] ++ ·) = _
  rw [Nat.sub_zero, ← List.range_eq_range']
  exact List.map_id' _
/-! ### how many there are, and what is in them -/
theorem picks_len (k : Nat) : ∀ l : List Nat, (picks k l).length ≤ 2 ^ l.length := by
  intro l
  induction l generalizing k with
  | nil =>
    cases k with
    | zero => decide
    | succ k => exact Nat.zero_le _
  | cons a r ih =>
    cases k with
    | zero => exact Nat.one_le_two_pow
    | succ k =>
      show ((picks k r).map (a :: ·) ++ picks (k + 1) r).length ≤ _
      rw [List.length_append, List.length_map, List.length_cons, Nat.pow_succ]
      have h1 := ih k
      have h2 := ih (k + 1)
      omega
theorem picks_mem : ∀ (k : Nat) (l c : List Nat), c ∈ picks k l → c.length = k ∧ c.Sublist l
  | 0, l, c, h => by
    have e : c = [] := by
      rw [picks_zero] at h
      exact List.mem_singleton.mp h
    subst e
    exact ⟨rfl, List.nil_sublist _⟩
  | k + 1, [], c, h => by cases h
  | k + 1, a :: r, c, h => by
    have h' : c ∈ (picks k r).map (a :: ·) ++ picks (k + 1) r := h
    rcases List.mem_append.mp h' with h1 | h1
    · obtain ⟨d, hd, rfl⟩ := List.mem_map.mp h1
      obtain ⟨e1, e2⟩ := picks_mem k r d hd
      exact ⟨by rw [List.length_cons, e1], e2.cons_cons a⟩
    · obtain ⟨e1, e2⟩ := picks_mem (k + 1) r c h1
      exact ⟨e1, e2.cons a⟩
theorem picks_nil : ∀ (k : Nat) (l : List Nat), picks k l = [] ↔ l.length < k
  | 0, l => by
    rw [picks_zero]
    exact ⟨fun h => (by cases h), fun h => (by omega)⟩
  | k + 1, [] => ⟨fun _ => Nat.succ_pos k, fun _ => rfl⟩
  | k + 1, a :: r => by
    show (picks k r).map (a :: ·) ++ picks (k + 1) r = [] ↔ r.length + 1 < k + 1
    rw [List.append_eq_nil_iff, List.map_eq_nil_iff, picks_nil k r, picks_nil (k + 1) r]
    omega
theorem grown_len (n k : Nat) : (grown n k).length ≤ 2 ^ n := by
  rw [grown_is]
  have := picks_len k (List.range n)
  rw [List.length_range] at this
  exact this
theorem grown_mem {n k : Nat} {c : List Nat} (h : c ∈ grown n k) : c.length = k ∧ ∀ i ∈ c, i < n := by
  rw [grown_is] at h
  obtain ⟨h1, h2⟩ := picks_mem k _ c h
  exact ⟨h1, fun i hi => List.mem_range.mp (h2.subset hi)⟩
/-! ### the chosen bales alone -/
def sel (l c : List Nat) : List Nat := c.flatMap fun i => (l.drop (2 * i)).take 2
theorem two_at : ∀ (l : List Nat) (i : Nat), l.length % 2 = 0 → i < l.length / 2 → (l.drop (2 * i)).take 2 = [(at_ (bales l) i).kg, (at_ (bales l) i).long]
  | [], i, _, h => by simp at h
  | [_], i, h, _ => by simp at h
  | a :: b :: r, 0, _, _ => rfl
  | a :: b :: r, i + 1, h, hi => by
    rw [List.length_cons, List.length_cons] at h hi
    have := two_at r i (by omega) (by omega)
    show ((a :: b :: r).drop (2 * (i + 1))).take 2 = _
    rw [show 2 * (i + 1) = 2 * i + 1 + 1 by omega, List.drop_succ_cons, List.drop_succ_cons, this]
    rfl
theorem sel_snoc (l c : List Nat) (i : Nat) : sel l (c ++ [i]) = sel l c ++ (l.drop (2 * i)).take 2 := by
  unfold sel
  rw [List.flatMap_append, List.flatMap_singleton]
theorem sel_all {l : List Nat} (h : l.length % 2 = 0) : ∀ {c : List Nat}, (∀ i ∈ c, i < l.length / 2) → bales (sel l c) = c.map (at_ (bales l)) ∧ (sel l c).length = 2 * c.length
  | [], _ => ⟨rfl, rfl⟩
  | i :: c, hc => by
    obtain ⟨e1, e2⟩ := sel_all h (c := c) fun j hj => hc j (List.mem_cons_of_mem _ hj)
    have e : sel l (i :: c) = (at_ (bales l) i).kg :: (at_ (bales l) i).long :: sel l c := by
      show (l.drop (2 * i)).take 2 ++ sel l c = _
      rw [two_at l i h (hc i List.mem_cons_self)]
      rfl
    rw [e]
    constructor
    · show _ :: bales (sel l c) = _
      rw [e1]
      rfl
    · rw [List.length_cons, List.length_cons, e2, List.length_cons]
      omega
theorem at_mem {l : List Bale} {i : Nat} (h : i < l.length) : at_ l i ∈ l := by
  unfold at_
  rw [List.getD_eq_getElem?_getD, List.getElem?_eq_getElem h]
  exact List.getElem_mem h
theorem kgOf_is (l : List Bale) (c : List Nat) : kgOf l c = ((c.map (at_ l)).map Bale.kg).sum := by
  unfold kgOf
  rw [ksum, List.map_map]
  rfl
theorem longOf_is (l : List Bale) (c : List Nat) : longOf l c = ((c.map (at_ l)).map fun b => b.kg * b.long).sum := by
  unfold longOf
  rw [ksum, List.map_map]
  rfl
/-! ### bounds -/
theorem mul_le {a b m n : Nat} (h1 : a ≤ m) (h2 : b ≤ n) : a * b ≤ m * n := Nat.mul_le_mul h1 h2
theorem kg_le {l : List Bale} (h : ∀ b ∈ l, 1 ≤ b.kg ∧ b.kg ≤ 300 ∧ b.long ≤ 500) : (l.map Bale.kg).sum ≤ l.length * 300 := by
  have := sum_le (l := l.map Bale.kg) (m := 300) fun x hx => by
    obtain ⟨b, hb, rfl⟩ := List.mem_map.mp hx
    exact (h b hb).2.1
  rw [List.length_map] at this
  exact this
theorem long_le {l : List Bale} (h : ∀ b ∈ l, 1 ≤ b.kg ∧ b.kg ≤ 300 ∧ b.long ≤ 500) : (l.map fun b => b.kg * b.long).sum ≤ l.length * 150000 := by
  have := sum_le (l := l.map fun b => b.kg * b.long) (m := 150000) fun x hx => by
    obtain ⟨b, hb, rfl⟩ := List.mem_map.mp hx
    exact mul_le (m := 300) (n := 500) (h b hb).2.1 (h b hb).2.2
  rw [List.length_map] at this
  exact this
theorem gap_abs (a b : Nat) : (if ((a : Int) - (b : Int)) < 0 then -((a : Int) - (b : Int)) else (a : Int) - (b : Int)) = ((gap a b : Nat) : Int) := by
  unfold gap
  by_cases h : (a : Int) - (b : Int) < 0
  · rw [if_pos h, Nat.max_eq_right (by omega), Nat.min_eq_left (by omega)]
    omega
  · rw [if_neg h, Nat.max_eq_left (by omega), Nat.min_eq_right (by omega)]
    omega
/-! ### the nearest -/
def better (l : List Bale) (t : Nat) (a b : List Nat) : List Nat := if nearer l t b a then b else a
theorem pick_due (k t : Int) (l : List Int) : PyKzd1.pick k t l = (let a := Kzd1.answer (.pick k.toNat t.toNat (Kzd1Neutral.natsOf l)); a.value :: Kzd1Neutral.ints a.nums) := rfl
theorem pick_bad {k t : Nat} {l : List Nat} (h : good l = false ∨ k < 1 ∨ 9 < k ∨ 500 < t) : PyKzd1.pick (k : Int) (t : Int) (toZ l) = [-22] := by
  rw [pick_due, nats_ints, Int.toNat_natCast, Int.toNat_natCast]
  have e : Kzd1.answer (.pick k t l) = say (-22) := if_pos h
  rw [e]
  rfl
theorem pick_few {k t : Nat} {l : List Nat} (h : ¬ (good l = false ∨ k < 1 ∨ 9 < k ∨ 500 < t)) (hk : l.length / 2 < k) : PyKzd1.pick (k : Int) (t : Int) (toZ l) = [-33] := by
  rw [pick_due, nats_ints, Int.toNat_natCast, Int.toNat_natCast]
  have e : Kzd1.answer (.pick k t l) = match Kzd1.pick (bales l) k t with
    | none => say (-33)
    | some s => ⟨(off (bales l) t s / kgOf (bales l) s : Nat), s⟩ := if_neg h
  have e2 : Kzd1.pick (bales l) k t = none := by
    unfold Kzd1.pick Kzd1.all
    rw [(picks_nil k _).mpr (by rw [List.length_range, bales_len]; exact hk)]
  rw [e, e2]
  rfl
theorem pick_ok {k t : Nat} {l : List Nat} (h : ¬ (good l = false ∨ k < 1 ∨ 9 < k ∨ 500 < t)) {x : List Nat} {r : List (List Nat)} (hx : grown (l.length / 2) k = x :: r) {s : List Nat} (hs : r.foldl (better (bales l) t) x = s) :
    PyKzd1.pick (k : Int) (t : Int) (toZ l) = ((off (bales l) t s / kgOf (bales l) s : Nat) : Int) :: toZ s := by
  rw [pick_due, nats_ints, Int.toNat_natCast, Int.toNat_natCast]
  have e : Kzd1.answer (.pick k t l) = match Kzd1.pick (bales l) k t with
    | none => say (-33)
    | some s => ⟨(off (bales l) t s / kgOf (bales l) s : Nat), s⟩ := if_neg h
  have e2 : Kzd1.pick (bales l) k t = some s := by
    unfold Kzd1.pick Kzd1.all
    rw [bales_len, ← grown_is, hx, ← hs]
    rfl
  rw [e, e2]
theorem fold_mem {α : Type} {f : α → α → α} (hf : ∀ a b, f a b = a ∨ f a b = b) : ∀ (r : List α) (x : α), r.foldl f x ∈ x :: r
  | [], x => List.mem_singleton.mpr rfl
  | y :: r, x => by
    show r.foldl f (f x y) ∈ _
    have h := fold_mem hf r (f x y)
    rcases List.mem_cons.mp h with h | h
    · rcases hf x y with e | e
      · rw [h, e]
        exact List.mem_cons_self
      · rw [h, e]
        exact List.mem_cons_of_mem _ List.mem_cons_self
    · exact List.mem_cons_of_mem _ (List.mem_cons_of_mem _ h)
theorem better_or (l : List Bale) (t : Nat) (a b : List Nat) : better l t a b = a ∨ better l t a b = b := by
  unfold better
  split
  · exact .inr rfl
  · exact .inl rfl
end Bal
set_option Elab.async false
set_option linter.all false
set_option maxRecDepth 100000
set_option maxHeartbeats 4000000
namespace L2
open PySem PySem.Spec PyProof.Rows
theorem cut2_bounds (c n : Nat) : sliceBounds (some (c : Int)) none (some 2) n = (((min c n : Nat) : Int), (n : Int), 2) := by
  have e : ¬ ((c : Int) < 0) := by omega
  simp only [sliceBounds, Option.getD_some, if_neg e, if_pos (show (2 : Int) > 0 by decide)]
  have e2 : max 0 (min (c : Int) (n : Int)) = ((min c n : Nat) : Int) := by omega
  rw [e2]
theorem cut2_range (a n : Nat) (h : a ≤ n) : sliceRange (a : Int) (n : Int) 2 = (List.range ((n - a + 1) / 2)).map fun k => a + 2 * k := by
  unfold sliceRange
  have e : ((if (2 : Int) > 0 then (if (a : Int) < (n : Int) then ((n : Int) - a + 2 - 1) / 2 else 0) else (if (a : Int) > (n : Int) then ((a : Int) - n - 2 - 1) / (-2) else 0)) : Int).toNat = (n - a + 1) / 2 := by
    rw [if_pos (show (2 : Int) > 0 by decide)]
    by_cases c : (a : Int) < (n : Int)
    · rw [if_pos c]
      omega
    · rw [if_neg c]
      omega
  show (List.range (Int.toNat _)).map _ = _
  rw [e]
  apply List.map_congr_left
  intro k _
  show ((a : Int) + 2 * (k : Int)).toNat = a + 2 * k
  omega
theorem cut2_pick (items : Array Value) (c : Nat) : slicePick items (some (c : Int)) none (some 2) = (Bal.ev (items.toList.drop c)).toArray := by
  unfold slicePick
  rw [cut2_bounds]
  show (List.filterMap _ (sliceRange ((min c items.size : Nat) : Int) (items.size : Int) 2)).toArray = _
  rw [cut2_range _ _ (Nat.min_le_right _ _), List.filterMap_map, ← Bal.everyRange]
  have hl : ((items.toList.drop c).length + 1) / 2 = (items.size - min c items.size + 1) / 2 := by
    rw [List.length_drop, Array.length_toList]
    by_cases h : c ≤ items.size
    · rw [Nat.min_eq_left h]
    · have e1 : min c items.size = items.size := Nat.min_eq_right (by omega)
      rw [e1]
      omega
  rw [hl]
  refine congrArg List.toArray (Bal.fm_congr fun k hk => ?_)
  have hk := List.mem_range.mp hk
  show items[min c items.size + 2 * k]? = (items.toList.drop c)[2 * k]?
  rw [List.getElem?_drop, Array.getElem?_toList]
  by_cases h : c ≤ items.size
  · rw [Nat.min_eq_left h]
  · have e1 : min c items.size = items.size := Nat.min_eq_right (by omega)
    rw [e1] at hk ⊢
    omega
theorem Vals.ev : ∀ {xs : List V} {us : List Value}, Vals xs us → Vals (Bal.ev xs) (Bal.ev us)
  | _, _, .nil => .nil
  | _, _, .cons r .nil => .cons r .nil
  | _, _, .cons r (.cons _ t) => .cons r (Vals.ev t)
section
variable {X : Cx}
/-- xs[c::2] -/
def tCut2 (K : PySem.W.Frag) (c : Nat) (te : TE) : TE := fun σ H Q => te σ H fun x H1 => ∃ a xs, x = .ref a ∧ SqL K H1 a xs ∧ ∀ p, H1 p = none → Q (.ref p) (upd H1 p (.lst (Bal.ev (xs.drop c))))
theorem pe_cut2 {e : Expr} {te : TE} {k k0 : Nat} {i : Int} {p0 p1 p3 pos : Pos} (c : Nat) (hi : i = (c : Int)) (he : PE X e te) :
    PE X (.Subscript e (.Slice (some (.Constant (.int i) k0 p0)) none (some (.Constant (.int 2) k p1)) p3) pos) (tCut2 X.K c te) := by
  refine ⟨fun pins s σ H Q I h => ?_⟩
  refine Subscript_ (thn (he.run pins s σ H _ I h) fun v s1 ⟨x, H1, I1, r1, q1⟩ => ?_)
  obtain ⟨a, xs, ex, hx, q⟩ := q1
  subst ex
  cases r1
  have hlo : PO X (some (.Constant (.int i) k0 p0)) (tPart (tC (.int i))) := po_some pe_int
  have hst : PO X (some (.Constant (.int 2) k p1)) (tPart (tC (.int 2))) := po_some pe_int
  refine wpAny_Slice (thn (hlo.run pins s1 σ H1 (fun o H2 => o = some i ∧ H2 = H1) I1 ⟨i, rfl, rfl, rfl⟩) fun vl s2 ⟨l, H2, I2, pl, el, e2⟩ => ?_)
  subst el e2
  refine thn (po_none.run pins s2 σ H2 (fun o H3 => o = none ∧ H3 = H2) I2 ⟨rfl, rfl⟩) fun vu s3 ⟨u, H3, I3, pu, eu, e3⟩ => ?_
  subst eu e3
  refine thn (hst.run pins s3 σ H3 (fun o H4 => o = some 2 ∧ H4 = H3) I3 ⟨2, rfl, rfl, rfl⟩) fun vs s4 ⟨o, H4, I4, ps, eo, e4⟩ => ?_
  subst eo e4
  have I5 : Inv X pins σ H4 { s4 with heap := s4.heap.push { cls := .type "slice", data := .fields #[vl, vu, vs] } } := I4.kept (t' := s4.toks) fun b ob q => Heap.get?_push_of_some _ q
  obtain ⟨its, r, ht, hz⟩ := I5.list hx
  have hlen := r.length
  show wpAny (model X.prog X.w) X.A (subscriptTail e (.Slice (some (.Constant (.int i) k0 p0)) none (some (.Constant (.int 2) k p1)) p3) (.ref a) (.ref s4.heap.objs.size)) (EP X pins σ Q) X.xe { s4 with heap := s4.heap.push { cls := .type "slice", data := .fields #[vl, vu, vs] } }
  refine tail_any (ops := [.ref a, .ref s4.heap.objs.size]) ht.isList.typeIs (PySem.slot_list_getitem.lookup) ?_ (by with_unfolding_all rfl)
  refine wpAny_getItem_list_slice ht.isList (Heap.IsSliceOf.new _ vl vu vs) pl pu ps (by decide) ?_ (by rw [List.size_toArray]; omega)
  rw [hi, cut2_pick]
  refine ⟨.ref _, _, I5.laid (t' := s4.toks) (o := .lst (Bal.ev (xs.drop c))) (fun b ob q => Heap.get?_push_of_some _ q) (Nat.le_refl _) ?_, rfl, q _ (I5.hok.fresh (Nat.le_refl _))⟩
  refine ⟨?_, _, 0, (r.drop c).ev, Heap.get?_push_size _ rfl⟩
  have h1 := Bal.everyLen (xs.drop c)
  rw [List.length_drop] at h1
  omega
end
end L2
set_option Elab.async false
set_option linter.all false
set_option maxRecDepth 100000
set_option maxHeartbeats 2000000
namespace Evl
open PySem L2
section
variable {K : PySem.W.Frag} {σ : L2.St} {H H' : Hp} {ta tb te tx : TE} {t u : TT} {x y z v : V} {D : Ends} {tu tw tz : TS} {g : TG}
theorem el_cut2 {a : Addr} {xs : List V} {c : Nat} (h : Ev te σ H (.ref a)) (hs : SqL K H a xs) : EvL (tCut2 K c te) σ H (Bal.ev (xs.drop c)) := fun H1 e _ q =>
  h H1 e _ fun H2 e2 => ⟨a, xs, rfl, ex_l (e.trans e2) hs, fun p hp => q p _ (fresh_back e2 hp) (e2.trans (Ex.new hp)) upd_same⟩
theorem el_is {xs ys : List V} (h : EvL te σ H xs) (e : xs = ys) : EvL te σ H ys := by
  rw [← e]
  exact h
theorem ev_sumN {ns : List Int} {n : Int} (h : EvL te σ H (ns.map V.int)) (e : ns.sum = n) : Ev (tCB (rSum K) (tCons te tNil)) σ H (.int n) := fun H1 e1 Q q =>
  h H1 e1 _ fun p H2 _ e2 hp => ⟨p, ns, rfl, sq_of hp, by rw [e]; exact q H2 e2⟩
theorem ev_sum {a : Addr} {xs : List V} {ns : List Int} {n : Int} (h : Ev te σ H (.ref a)) (hs : SqL K H a xs) (ex : xs = ns.map V.int) (e : ns.sum = n) : Ev (tCB (rSum K) (tCons te tNil)) σ H (.int n) := fun H1 e1 Q q =>
  h H1 e1 _ fun H2 e2 => ⟨a, ns, rfl, by rw [← ex]; exact ex_l (e1.trans e2) hs, by rw [e]; exact q H2 e2⟩
theorem ev_max {a : Addr} {xs : List V} {ns : List Int} {n : Int} (h : Ev te σ H (.ref a)) (hs : SqL K H a xs) (ex : xs = ns.map V.int) (h0 : 0 < ns.length) (e : ∀ m, m ∈ ns → (∀ y, y ∈ ns → y ≤ m) → m = n) : Ev (tCB (rMax K) (tCons te tNil)) σ H (.int n) := fun H1 e1 Q q =>
  h H1 e1 _ fun H2 e2 => ⟨a, ns, rfl, by rw [← ex]; exact ex_l (e1.trans e2) hs, h0, fun m h1 h2 => by rw [e m h1 h2]; exact q H2 e2⟩
/-- for x, y in zip(new list, new list), whose body changes nothing that stands -/
theorem s_forZNN {ix iy : Nat} {xs ys : List V} (h1 : EvL ta σ H xs) (h2 : EvL tb σ H ys) (hl : xs.length = ys.length) (Pv : Nat → L2.St → Prop) (h0 : Pv 0 σ)
    (hs : ∀ i x y σ' H' (N : L2.St → Hp → Prop), xs[i]? = some x → ys[i]? = some y → Pv i σ' → Ex H H' → (∀ σ2 H2, Ex H' H2 → Pv (i + 1) σ2 → N σ2 H2) →
      tu { D with nx := N, ct := N, bk := D.nx } ((σ'.set ix (some x)).set iy (some y)) H')
    (hd : ∀ σ' H', Pv xs.length σ' → Ex H H' → D.nx σ' H') : tFor (iZip K (tCons ta (tCons tb tNil))) (gTup K 2 (gCons (gName ix) (gCons (gName iy) gNil))) tu D σ H :=
  h1 H (Ex.refl H) _ fun p H1 _ e1 hp => h2 H1 e1 _ fun q H2 _ e2 hq => by
    have hp2 : H2 p = some (.lst xs) := e2 p _ hp
    refine ⟨p, q, xs, ys, rfl, sq_of hp2, sq_of hq, ?_⟩
    refine for_it (walk_zip (xs := xs) (ys := ys) (n := xs.length) (by omega)) (fun i σ' H' => Ex H2 H' ∧ Pv i σ') ⟨Ex.refl H2, h0⟩ (fun i σ' H' _ w => ⟨ex_l w.1 (sq_of hp2), ex_l w.1 (sq_of hq)⟩) (fun i v σ' H3 H4 hi w y => ?_) fun σ' H3 w => hd σ' H3 w.2 ((e1.trans e2).trans w.1)
    obtain ⟨T, x', y', rfl, hT, rfl, f1, f2⟩ := y
    refine ⟨T, [x', y'], rfl, st_of upd_same, rfl, x', [y'], rfl, y', [], rfl, rfl, ?_⟩
    have eT : Ex H3 (upd H3 T (.tup [x', y'])) := Ex.new hT
    exact hs i x' y' σ' _ _ f1 f2 w.2 (((e1.trans e2).trans w.1).trans eT) fun σ2 H5 e5 k => ⟨(w.1.trans eT).trans e5, k⟩
theorem q_forZNN {ix iy : Nat} {xs ys : List V} (h1 : EvL ta σ H xs) (h2 : EvL tb σ H ys) (hl : xs.length = ys.length) (Pv : Nat → L2.St → Prop) (h0 : Pv 0 σ)
    (hs : ∀ i x y σ' H' (N : L2.St → Hp → Prop), xs[i]? = some x → ys[i]? = some y → Pv i σ' → Ex H H' → (∀ σ2 H2, Ex H' H2 → Pv (i + 1) σ2 → N σ2 H2) →
      tu { D with nx := N, ct := N, bk := tz D } ((σ'.set ix (some x)).set iy (some y)) H')
    (hd : ∀ σ' H', Pv xs.length σ' → Ex H H' → tz D σ' H') : tSeq (tFor (iZip K (tCons ta (tCons tb tNil))) (gTup K 2 (gCons (gName ix) (gCons (gName iy) gNil))) tu) tz D σ H :=
  s_forZNN (D := { D with nx := tz D }) h1 h2 hl Pv h0 hs hd
/-- [.. for x, y in zip(xs, ys)] -/
theorem el_lcZ {tA : TA} {a b : Addr} {xs ys : List V} {j1 j2 : Nat} {vs : List Nat} (f : Nat → V) (h : EvA tA σ H [.ref a, .ref b]) (hx : SqL K H a xs) (hy : SqL K H b ys) (hl : xs.length = ys.length) (hz : xs.length ≤ 40000)
    (hw : ∀ x y, wipe (((wipe σ vs).set j1 (some x)).set j2 (some y)) vs = wipe σ vs)
    (he : ∀ (i : Nat) (x y : V) H1, Ex H H1 → xs[i]? = some x → ys[i]? = some y → Ev te (((wipe σ vs).set j1 (some x)).set j2 (some y)) H1 (f i)) :
    EvL (tLc (iZip K tA) (gTup K 2 (gCons (gName j1) (gCons (gName j2) gNil))) tYes te vs) σ H ((List.range xs.length).map f) := fun H0 e Q q => h H0 e _ fun H1 e1 => by
  have hx1 := ex_l (e.trans e1) hx
  have hy1 := ex_l (e.trans e1) hy
  refine ⟨a, b, xs, ys, rfl, hx1, hy1, fun Dl hD => ?_⟩
  refine lc_it (walk_zip (xs := xs) (ys := ys) (n := xs.length) (by omega)) (fun i H' => Ex H1 H' ∧ H' Dl = some (.lst ((List.range i).map f))) ⟨Ex.new hD, upd_same⟩ (fun i H' _ w => ⟨ex_l w.1 hx1, ex_l w.1 hy1⟩) (fun i v H2 H3 hi w y => ?_)
    fun H' w => q Dl H' (fresh_back e1 hD) (e1.trans w.1) w.2
  obtain ⟨T, x', y', rfl, hT, rfl, f1, f2⟩ := y
  refine ⟨T, [x', y'], rfl, st_of upd_same, rfl, x', [y'], rfl, y', [], rfl, rfl, ?_⟩
  refine ⟨hw x' y', ?_⟩
  have eT : Ex H2 (upd H2 T (.tup [x', y'])) := Ex.new hT
  have eA : Ex H (upd H2 T (.tup [x', y'])) := ((e.trans e1).trans w.1).trans eT
  show te _ _ _
  refine he i x' y' _ eA f1 f2 _ (Ex.refl _) _ fun H4 e4 => ?_
  refine ⟨(List.range i).map f, e4 Dl _ (eT Dl _ w.2), sz_lt (by rw [List.length_map, List.length_range]; omega), Ex.mut ((w.1.trans eT).trans e4) hD, ?_⟩
  rw [upd_same, List.range_succ, List.map_append]
  rfl
end
end Evl
set_option Elab.async false
set_option linter.all false
set_option maxRecDepth 100000
set_option maxHeartbeats 2000000
namespace Evl
open PySem L2
section
variable {K : PySem.W.Frag} {σ : L2.St} {H H' : Hp} {ta tb te tx : TE} {t u : TT} {x y z v : V} {D : Ends} {tu tw tz : TS} {g : TG}
/-- a value of which P holds, in the heap behind -/
def EvP (te : TE) (σ : L2.St) (H : Hp) (P : Hp → V → Hp → Prop) : Prop := ∀ H1, Ex H H1 → ∀ Q : VK, (∀ v H2, Ex H1 H2 → P H1 v H2 → Q v H2) → te σ H1 Q
theorem q_asgP {i : Nat} {P : Hp → V → Hp → Prop} (h : EvP te σ H P) (k : ∀ v H1, Ex H H1 → P H v H1 → tz D (σ.set i (some v)) H1) : tSeq (tAsg te (gName i)) tz D σ H := h H (Ex.refl H) _ fun v H1 e p => k v H1 e p
theorem s_retP {P : Hp → V → Hp → Prop} (h : EvP te σ H P) (k : ∀ v H1, Ex H H1 → P H v H1 → D.rt v H1) : tRet te D σ H := h H (Ex.refl H) _ fun v H1 e p => k v H1 e p
def SpP (sp : Sp) (vs : List V) (H : Hp) (P : Hp → V → Hp → Prop) : Prop := ∀ H1, Ex H H1 → ∀ Q : VK, (∀ v H2, Ex H1 H2 → P H1 v H2 → Q v H2) → ∀ E : XK, sp vs H1 Q E
theorem ep_call {sp : Sp} {dvs vs : List V} {E : XK} {ta : TA} {P : Hp → V → Hp → Prop} (h : EvA ta σ H vs) (hP : ∀ {H1 H2 H3 v}, Ex H1 H2 → P H2 v H3 → P H1 v H3) (hs : SpP sp (vs ++ dvs) H P) : EvP (tCall sp dvs E ta) σ H P := fun H1 e Q q =>
  h H1 e _ fun H2 e2 => hs H2 (e.trans e2) Q (fun v H3 e3 p => q v H3 (e2.trans e3) (hP e2 p)) E
/-- a list that stands + a new one; a new one + one that stands -/
theorem el_catVL {l : Addr} {xs ys : List V} (ha : Ev ta σ H (.ref l)) (hl : H l = some (.lst xs)) (hb : EvL tb σ H ys) (hz : xs.length + ys.length ≤ 100000) : EvL (tOp rCat ta tb) σ H (xs ++ ys) := fun H1 e Q q =>
  ha H1 e _ fun H2 e2 => hb H2 (e.trans e2) _ fun p H3 _ e3 hp => ⟨l, p, xs, ys, rfl, rfl, ((e.trans e2).trans e3) l _ hl, hp, sz_of hz, fun r hr =>
    q r _ (fresh_back (e2.trans e3) hr) ((e2.trans e3).trans (Ex.new hr)) upd_same⟩
theorem el_catLV {l : Addr} {xs ys : List V} (ha : EvL ta σ H xs) (hb : Ev tb σ H (.ref l)) (hl : H l = some (.lst ys)) (hz : xs.length + ys.length ≤ 100000) : EvL (tOp rCat ta tb) σ H (xs ++ ys) := fun H1 e Q q =>
  ha H1 e _ fun p H2 _ e2 hp => hb H2 (e.trans e2) _ fun H3 e3 => ⟨p, l, xs, ys, rfl, rfl, e3 p _ hp, ((e.trans e2).trans e3) l _ hl, sz_of hz, fun r hr =>
    q r _ (fresh_back (e2.trans e3) hr) ((e2.trans e3).trans (Ex.new hr)) upd_same⟩
/-- xs.extend(a new list) -/
theorem s_extL {l : Addr} {xs ys : List V} (hl : H l = some (.lst xs)) (ha : Ev ta σ H (.ref l)) (h : EvL te σ H ys) (hz : xs.length + ys.length ≤ 100000) (k : ∀ H1, Ex H H1 → D.nx σ (upd H1 l (.lst (xs ++ ys)))) :
    tDrop (tBM K "list" rExtend ta (tCons te tNil)) D σ H := ha H (Ex.refl H) _ fun H1 e1 =>
  ⟨Or.inl ⟨rfl, xs, sq_of (e1 l _ hl)⟩, h H1 e1 _ fun p H2 hp e2 h2 => ⟨l, p, xs, ys, rfl, rfl, (e1.trans e2) l _ hl, h2, sz_of hz, k H2 (e1.trans e2)⟩⟩
/-- calls that give a new tuple -/
def SpU (sp : Sp) (vs : List V) (H : Hp) (xs : List V) : Prop := ∀ H1, Ex H H1 → ∀ Q : VK, (∀ p H2, H1 p = none → Ex H1 H2 → H2 p = some (.tup xs) → Q (.ref p) H2) → ∀ E : XK, sp vs H1 Q E
theorem eu_call {sp : Sp} {dvs vs xs : List V} {E : XK} {ta : TA} (h : EvA ta σ H vs) (hs : SpU sp (vs ++ dvs) H xs) : EvU (tCall sp dvs E ta) σ H xs := fun H1 e Q q =>
  h H1 e _ fun H2 e2 => hs H2 (e.trans e2) Q (fun p H3 hp e3 h3 => q p H3 (fresh_back e2 hp) (e2.trans e3) h3) E
/-- f(x, a new list) gives a new tuple -/
theorem eu_callVL {sp : Sp} {dvs xs ys : List V} {E : XK} (h1 : Ev ta σ H x) (h2 : EvL tb σ H ys) (hs : ∀ q H1, H1 q = some (.lst ys) → Ex H H1 → SpU sp ([x, .ref q] ++ dvs) H1 xs) : EvU (tCall sp dvs E (tCons ta (tCons tb tNil))) σ H xs := fun H1 e Q k =>
  h1 H1 e _ fun H2 e2 => h2 H2 (e.trans e2) _ fun q H3 _ e3 h3 => hs q H3 h3 ((e.trans e2).trans e3) H3 (Ex.refl H3) Q (fun p H4 hp e4 h4 => k p H4 (fresh_back (e2.trans e3) hp) ((e2.trans e3).trans e4) h4) E
/-- f(a new tuple, a new tuple) gives a value -/
theorem ev_callUU {sp : Sp} {dvs xs ys : List V} {E : XK} (h1 : EvU ta σ H xs) (h2 : EvU tb σ H ys) (hs : ∀ p q H1, H1 p = some (.tup xs) → H1 q = some (.tup ys) → Ex H H1 → SpV sp ([.ref p, .ref q] ++ dvs) H1 z) : Ev (tCall sp dvs E (tCons ta (tCons tb tNil))) σ H z := fun H1 e Q k =>
  h1 H1 e _ fun p H2 _ e2 hp => h2 H2 (e.trans e2) _ fun q H3 _ e3 hq => hs p q H3 (e3 p _ hp) hq ((e.trans e2).trans e3) H3 (Ex.refl H3) Q (fun H4 e4 => k H4 ((e2.trans e3).trans e4)) E
/-- the items are values, one of them a new list -/
theorem el_lst1 {xs : List V} (h : EvL te σ H xs) : EvP (tLst (tCons te tNil)) σ H fun H1 v H2 => ∃ p q, v = .ref p ∧ H1 p = none ∧ H2 p = some (.lst [.ref q]) ∧ H2 q = some (.lst xs) ∧ p ≠ q := fun H1 e Q k =>
  h H1 e _ fun q H2 hq e2 h2 => ⟨sz_of (show 1 ≤ 100000 by decide), fun p hp => k _ _ (e2.trans (Ex.new hp)) ⟨p, q, rfl, fresh_back e2 hp, upd_same, by
    rw [upd_ne (ne_of_none h2 hp)]
    exact h2, fun z => by
      rw [z, h2] at hp
      cases hp⟩⟩
/-- abs -/
theorem ev_abs {r : List V → Hp → VK → Prop} {i j : Int} (hr : r = fun xs H Q => ∃ i, xs = [.int i] ∧ Q (.int (if i < 0 then -i else i)) H) (h : Ev te σ H (.int i)) (e : (if i < 0 then -i else i) = j) : Ev (tCB r (tCons te tNil)) σ H (.int j) := fun H1 e1 Q q =>
  h H1 e1 _ fun H2 e2 => by
    subst hr
    refine ⟨i, rfl, ?_⟩
    rw [e]
    exact q H2 e2
/-- the first item left out -/
theorem cut_tail (xs : List V) : cutV xs (some 1) none = xs.drop 1 := by
  show (xs.drop (min 1 xs.length)).take (xs.length - min 1 xs.length) = _
  cases xs with
  | nil => rfl
  | cons a r =>
    rw [List.length_cons, Nat.min_eq_left (by omega), List.drop_succ_cons, List.drop_zero]
    show List.take (r.length + 1 - 1) r = r
    rw [Nat.add_sub_cancel, List.take_length]
theorem cut_two (xs : List V) (i : Nat) : cutV xs (some ((2 * i : Nat) : Int)) (some ((2 * i + 2 : Nat) : Int)) = (xs.drop (2 * i)).take 2 := by
  show (xs.drop (HT.sIx xs.length 0 (some ((2 * i : Nat) : Int)))).take (HT.sIx xs.length xs.length (some ((2 * i + 2 : Nat) : Int)) - HT.sIx xs.length 0 (some ((2 * i : Nat) : Int))) = _
  rw [HT.sIx_nat, HT.sIx_nat]
  by_cases h : 2 * i ≤ xs.length
  · rw [Nat.min_eq_left h]
    by_cases h2 : 2 * i + 2 ≤ xs.length
    · rw [Nat.min_eq_left h2, show 2 * i + 2 - 2 * i = 2 by omega]
    · rw [Nat.min_eq_right (by omega), List.take_of_length_le (by rw [List.length_drop]; exact Nat.le_refl _), List.take_of_length_le (by rw [List.length_drop]; omega)]
  · rw [Nat.min_eq_right (by omega), Nat.min_eq_right (by omega), List.drop_eq_nil_of_le (Nat.le_refl _), List.drop_eq_nil_of_le (by omega), List.take_nil, List.take_nil]
end
end Evl
set_option Elab.async false
set_option linter.all false
set_option maxRecDepth 100000
set_option maxHeartbeats 4000000
namespace Bal
open PySem PySem.Spec PyProof.Rows
abbrev topS (i : Nat) : Stmt := PySem.Challenge.pw_balelayer_s01_mean.main.body.getD i (.Pass ⟨0, 0, 0, 0⟩)
abbrev sTold : Stmt := topS 5
abbrev sAllKg : Stmt := topS 6
abbrev sWeighed : Stmt := topS 7
abbrev sMean : Stmt := topS 8
end Bal
set_option Elab.async false
set_option linter.all false
set_option maxRecDepth 100000
set_option maxHeartbeats 4000000
namespace Evl
open PySem L2
section
variable {K : PySem.W.Frag} {σ : L2.St} {H H' : Hp} {ta tb te tx : TE} {t u : TT} {x y z v : V} {D : Ends} {tu tw tz : TS} {g : TG}
/-- [.. for x, y in zip(new list, new list)] -/
theorem el_lcZNN {xs ys : List V} {j1 j2 : Nat} {vs : List Nat} (f : Nat → V) (h1 : EvL ta σ H xs) (h2 : EvL tb σ H ys) (hl : xs.length = ys.length) (hz : xs.length ≤ 40000)
    (hw : ∀ x y, wipe (((wipe σ vs).set j1 (some x)).set j2 (some y)) vs = wipe σ vs)
    (he : ∀ (i : Nat) (x y : V) H1, Ex H H1 → xs[i]? = some x → ys[i]? = some y → Ev te (((wipe σ vs).set j1 (some x)).set j2 (some y)) H1 (f i)) :
    EvL (tLc (iZip K (tCons ta (tCons tb tNil))) (gTup K 2 (gCons (gName j1) (gCons (gName j2) gNil))) tYes te vs) σ H ((List.range xs.length).map f) := fun H0 e Q q => h1 H0 e _ fun a H1 _ e1 ha => h2 H1 (e.trans e1) _ fun b H2 _ e2 hb => by
  have hx1 : SqL K H2 a xs := sq_of (e2 a _ ha)
  have hy1 : SqL K H2 b ys := sq_of hb
  refine ⟨a, b, xs, ys, rfl, hx1, hy1, fun Dl hD => ?_⟩
  refine lc_it (walk_zip (xs := xs) (ys := ys) (n := xs.length) (by omega)) (fun i H' => Ex H2 H' ∧ H' Dl = some (.lst ((List.range i).map f))) ⟨Ex.new hD, upd_same⟩ (fun i H' _ w => ⟨ex_l w.1 hx1, ex_l w.1 hy1⟩) (fun i v H3 H4 hi w y => ?_)
    fun H' w => q Dl H' (fresh_back (e1.trans e2) hD) ((e1.trans e2).trans w.1) w.2
  obtain ⟨T, x', y', rfl, hT, rfl, f1, f2⟩ := y
  refine ⟨T, [x', y'], rfl, st_of upd_same, rfl, x', [y'], rfl, y', [], rfl, rfl, ?_⟩
  refine ⟨hw x' y', ?_⟩
  have eT : Ex H3 (upd H3 T (.tup [x', y'])) := Ex.new hT
  have eA : Ex H (upd H3 T (.tup [x', y'])) := (((e.trans e1).trans e2).trans w.1).trans eT
  show te _ _ _
  refine he i x' y' _ eA f1 f2 _ (Ex.refl _) _ fun H5 e5 => ?_
  refine ⟨(List.range i).map f, e5 Dl _ (eT Dl _ w.2), sz_lt (by rw [List.length_map, List.length_range]; omega), Ex.mut ((w.1.trans eT).trans e5) hD, ?_⟩
  rw [upd_same, List.range_succ, List.map_append]
  rfl
end
end Evl
namespace Bal
open PySem PySem.Spec PyProof.Rows L2 Evl
theorem scT : FnScope ["bales", "kilograms", "length"] ["bales"] (defScope sTold) := ⟨rfl, rfl, rfl, by decide +kernel, rfl, by decide +kernel, by decide +kernel⟩
theorem scK : FnScope ["bales"] ["bales"] (defScope sAllKg) := ⟨rfl, rfl, rfl, by decide +kernel, rfl, by decide +kernel, by decide +kernel⟩
theorem scW : FnScope ["bales", "weight", "length"] ["bales"] (defScope sWeighed) := ⟨rfl, rfl, rfl, by decide +kernel, rfl, by decide +kernel, by decide +kernel⟩
def vn (n : Nat) : V := .int (n : Int)
/-- what the top has written of names -/
structure Txt (mg : Str → Option Value) : Prop where
  len : mg "len" = none
  zip : mg "zip" = none
  sum : mg "sum" = none
  mb : ∃ t, mg "MOST_BALES" = some (.int 9 t)
  lk : ∃ t, mg "LEAST_KILOGRAMS" = some (.int 1 t)
  mkg : ∃ t, mg "MOST_KILOGRAMS" = some (.int 300 t)
  lf : ∃ t, mg "LONGEST_FIBRES" = some (.int 500 t)
section
variable {P : Program} {w : World} {K : PySem.W.Frag} {mg : Str → Option Value} {base : Heap}
def spTold (K : PySem.W.Frag) : Sp := fun vs H Q _ => ∃ (a : Addr) (l : List Nat), vs = [.ref a] ∧ SqL K H a (l.map vn) ∧ l.length ≤ 20 ∧ ∀ H', Ex H H' → Q (.bl (Kzd1.good l)) H'
theorem kgV {l : List Nat} (h : l.length % 2 = 0) : ev ((l.map vn).drop 0) = (Kzd1.bales l).map fun b => vn b.kg := by
  rw [List.drop_zero, everyMap, ev_kg l h, List.map_map]
  rfl
theorem longV {l : List Nat} (h : l.length % 2 = 0) : ev ((l.map vn).drop 1) = (Kzd1.bales l).map fun b => vn b.long := by
  rw [← List.map_drop, everyMap, od_long l h, List.map_map]
  rfl
theorem map_at {α β : Type} {g : α → β} {l : List α} {i : Nat} {y : β} (h : (l.map g)[i]? = some y) : ∃ x, l[i]? = some x ∧ y = g x := by
  rw [List.getElem?_map] at h
  cases e : l[i]? with
  | none =>
    rw [e] at h
    cases h
  | some x =>
    rw [e] at h
    exact ⟨x, rfl, (Option.some.inj h).symm⟩
theorem take_more {α : Type} {l : List α} {i : Nat} {x : α} (h : l[i]? = some x) : l.take (i + 1) = l.take i ++ [x] := by
  rw [List.take_add_one, h]
  rfl
theorem ok_told {f : Addr} {fd : FuncData} {k : Nat} (F : Fun K "are_as_told" "are_as_told" sTold f fd) (T : Txt mg) : FnOk P w K mg base CX0 (k + 1) f fd ["bales"] (spTold K) := by
  refine F.ok scT (fun vs H Q E h => ?_) (fun cdv A outer s H vs Q E hr h => ?_)
  · obtain ⟨a, l, rfl, _⟩ := h
    rfl
  · obtain ⟨a, l, rfl, hS, hlen, q⟩ := h
    obtain ⟨tmb, gmb⟩ := T.mb
    obtain ⟨tlk, glk⟩ := T.lk
    obtain ⟨tmk, gmk⟩ := T.mkg
    obtain ⟨tlf, glf⟩ := T.lf
    refine ⟨_, pss_cons (ps_if (PW.pt (pw_or (pt_cmpR op_ne (pe_op op_mod (pe_callB call_len_seq (by rfl) T.len PySem.boot_len (pa_cons (pv 0) pa_nil)) pe_int) pe_int (nomark _))
          (pw_or1 (pt_cmpR op_gt (pe_callB call_len_seq (by rfl) T.len PySem.boot_len (pa_cons (pv 0) pa_nil)) (pe_op op_mul pe_int (pe_glob (v := .int 9) rfl gmb ⟨tmb, rfl⟩)) (nomark _)))))
        (pss_one (ps_ret pe_bl)) pss_nil)
      (pss_cons (ps_for PassesOwn.never rfl (pi_zip (by rfl) T.zip (pa_cons (pe_cut2 0 rfl (pv 0)) (pa_cons (pe_cut2 1 rfl (pv 0)) pa_nil)))
          (pg_tup rfl (pgs_cons (pg_name (i := 1) scT.nd rfl (.inl rfl)) (pgs_cons (pg_name (i := 2) scT.nd rfl (.inl rfl)) pgs_nil)))
        (pss_cons (ps_if (PW.pt (pw_or (pt_cmpR op_lt (pv 1) (pe_glob (v := .int 1) rfl glk ⟨tlk, rfl⟩) (nomark _)) (pw_or1 (pt_cmpR op_gt (pv 1) (pe_glob (v := .int 300) rfl gmk ⟨tmk, rfl⟩) (nomark _)))))
            (pss_one (ps_ret pe_bl)) pss_nil)
          (pss_one (ps_if (PW.pt (pw_or (pt_cmpR op_lt (pv 2) pe_int (nomark _)) (pw_or1 (pt_cmpR op_gt (pv 2) (pe_glob (v := .int 500) rfl glf ⟨tlf, rfl⟩) (nomark _)))))
            (pss_one (ps_ret pe_bl)) pss_nil))))
      (pss_one (ps_ret pe_bl))), ?_⟩
    have hl : (l.map vn).length = l.length := List.length_map ..
    have fin : ∀ {H' : Hp} {b : Bool}, Ex H H' → b = Kzd1.good l → Q (.bl b) H' := fun s e => by
      rw [e]
      exact q _ s
    have hlenE : ∀ {σ : L2.St} {H'}, Ex H H' → σ[0]? = some (some (.ref a)) → Ev (tCB (rLenS K) (tCons (tVar 0) tNil)) σ H' (.int (l.length : Int)) := fun e h0 => by
      have z := ev_len (K := K) (ev_var h0) (ex_l e hS)
      rw [hl] at z
      exact z
    -- if len(bales) % 2 != 0 or ..
    refine q_when (b := !decide (l.length % 2 = 0) || decide (18 < l.length)) (et_or (et_test (ev_is (ev_op (ev_op (hlenE (Ex.refl H) rfl) ev_c (rv_I (by show (0 : Int) < 2; decide))) ev_c (rv_ne rfl)) ?_))
      fun _ => et_test (ev_is (ev_op (hlenE (Ex.refl H) rfl) (ev_op ev_c ev_c (rv_I (.inl (by decide)))) rv_I0) ?_)) (fun hb H1 e1 => ?_) (fun hb H1 e1 => ?_)
    · refine congrArg (fun b : Bool => V.bl !b) (decide_eq_decide.mpr ⟨fun z => ?_, fun z => ?_⟩)
      · have := V.int.inj z
        omega
      · rw [show ((l.length : Int) % 2) = 0 by omega]
    · exact congrArg V.bl (decide_eq_decide.mpr (by omega))
    · refine s_ret ev_c fun H2 e2 => fin (e1.trans e2) ?_
      by_cases c : l.length % 2 = 0
      · rw [decide_eq_true c] at hb
        exact (good_long (of_decide_eq_true hb)).symm
      · exact (good_odd c).symm
    · rw [Bool.or_eq_false_iff] at hb
      have c1 : l.length % 2 = 0 := by simpa using hb.1
      have c2 : l.length ≤ 18 := Nat.le_of_not_lt (of_decide_eq_false hb.2)
      have hS1 : SqL K H1 a (l.map vn) := ex_l e1 hS
      refine q_forZNN (ix := 1) (iy := 2) (el_is (el_cut2 (ev_var rfl) hS1) (kgV c1)) (el_is (el_cut2 (ev_var rfl) hS1) (longV c1)) (by rw [List.length_map, List.length_map])
        (fun i σ' => ∃ y1 y2, σ' = [some (.ref a), y1, y2] ∧ ∀ b ∈ (Kzd1.bales l).take i, Kzd1.okBale b = true) ⟨none, none, rfl, fun b hb => by cases hb⟩ ?_ ?_
      · rintro i x y σ' H' N hx hy ⟨y1, y2, rfl, hok⟩ e2 hN
        obtain ⟨b, hb1, rfl⟩ := map_at hx
        obtain ⟨b', hb2, rfl⟩ := map_at hy
        cases hb1.symm.trans hb2
        have bad : Kzd1.okBale b = false → Kzd1.good l = false := fun z => by
          rw [good_eq c1 c2]
          cases q : (Kzd1.bales l).all Kzd1.okBale with
          | false => rfl
          | true =>
            have := List.all_eq_true.mp q b (List.mem_of_getElem? hb1)
            rw [z] at this
            cases this
        refine q_when (b := decide (b.kg < 1) || decide (300 < b.kg)) (et_or (et_test (ev_is (ev_op (ev_var rfl) ev_c rv_I0) ?_)) fun _ => et_test (ev_is (ev_op (ev_var rfl) ev_c rv_I0) ?_)) (fun hc H3 e3 => ?_) (fun hc H3 e3 => ?_)
        · exact congrArg V.bl (decide_eq_decide.mpr (by omega))
        · exact congrArg V.bl (decide_eq_decide.mpr (by omega))
        · refine s_ret ev_c fun H4 e4 => fin (((e1.trans e2).trans e3).trans e4) (bad ?_).symm
          cases q : Kzd1.okBale b with
          | false => rfl
          | true =>
            have := ok_iff.mp q
            rw [decide_eq_false (by omega), decide_eq_false (by omega)] at hc
            cases hc
        · refine s_when (b := decide ((b.long : Int) < 0) || decide (500 < b.long)) (et_or (et_test (ev_op (ev_var rfl) ev_c rv_I0)) fun _ => et_test (ev_is (ev_op (ev_var rfl) ev_c rv_I0) ?_)) (fun hc2 H4 e4 => ?_) (fun hc2 H4 e4 => ?_)
          · exact congrArg V.bl (decide_eq_decide.mpr (by omega))
          · refine s_ret ev_c fun H5 e5 => fin ((((e1.trans e2).trans e3).trans e4).trans e5) (bad ?_).symm
            cases q : Kzd1.okBale b with
            | false => rfl
            | true =>
              have := ok_iff.mp q
              rw [decide_eq_false (by omega), decide_eq_false (by omega)] at hc2
              cases hc2
          · refine hN _ _ (e3.trans e4) ⟨_, _, rfl, fun b2 h2 => ?_⟩
            rw [take_more hb1, List.mem_append, List.mem_singleton] at h2
            rcases h2 with h2 | rfl
            · exact hok b2 h2
            · rw [Bool.or_eq_false_iff] at hc hc2
              have z1 := of_decide_eq_false hc.1
              have z2 := of_decide_eq_false hc.2
              have z3 := of_decide_eq_false hc2.2
              exact ok_iff.mpr ⟨by omega, by omega, by omega⟩
      · rintro σ' H' ⟨y1, y2, rfl, hok⟩ e2
        refine s_ret ev_c fun H3 e3 => fin ((e1.trans e2).trans e3) ?_
        rw [List.length_map, List.take_length] at hok
        rw [good_eq c1 c2]
        exact (List.all_eq_true.mpr hok).symm
theorem spTold_v {a : Addr} {l : List Nat} {H : Hp} (hS : SqL K H a (l.map vn)) (hlen : l.length ≤ 20) : SpV (spTold K) [.ref a] H (.bl (Kzd1.good l)) := fun H1 e Q q E =>
  ⟨a, l, rfl, ex_l e hS, hlen, q⟩
/-- of a list that is whole: what it says of its bales -/
structure Whole (l : List Nat) : Prop where
  even : l.length % 2 = 0
  len : l.length ≤ 20
  ok : ∀ b ∈ Kzd1.bales l, 1 ≤ b.kg ∧ b.kg ≤ 300 ∧ b.long ≤ 500
def kgs (l : List Nat) : Nat := ((Kzd1.bales l).map Kzd1.Bale.kg).sum
def longs (l : List Nat) : Nat := ((Kzd1.bales l).map fun b => b.kg * b.long).sum
theorem vn_ints {α : Type} (g : α → Nat) (l : List α) : (l.map fun b => vn (g b)) = (toZ (l.map g)).map V.int := by
  unfold toZ Kzd1Neutral.ints
  rw [List.map_map, List.map_map]
  rfl
def spKg (K : PySem.W.Frag) : Sp := fun vs H Q _ => ∃ (a : Addr) (l : List Nat), vs = [.ref a] ∧ SqL K H a (l.map vn) ∧ Whole l ∧ RetV (vn (kgs l)) H Q
def spWeighed (K : PySem.W.Frag) : Sp := fun vs H Q _ => ∃ (a : Addr) (l : List Nat), vs = [.ref a] ∧ SqL K H a (l.map vn) ∧ Whole l ∧ RetV (vn (longs l)) H Q
theorem spKg_v {a : Addr} {l : List Nat} {H : Hp} (hS : SqL K H a (l.map vn)) (W : Whole l) : SpV (spKg K) [.ref a] H (vn (kgs l)) := fun H1 e Q q E => ⟨a, l, rfl, ex_l e hS, W, q⟩
theorem spWeighed_v {a : Addr} {l : List Nat} {H : Hp} (hS : SqL K H a (l.map vn)) (W : Whole l) : SpV (spWeighed K) [.ref a] H (vn (longs l)) := fun H1 e Q q E => ⟨a, l, rfl, ex_l e hS, W, q⟩
theorem ok_kg {f : Addr} {fd : FuncData} {k : Nat} (F : Fun K "all_kilograms" "all_kilograms" sAllKg f fd) (T : Txt mg) : FnOk P w K mg base CX0 (k + 1) f fd ["bales"] (spKg K) := by
  refine F.ok scK (fun vs H Q E h => ?_) (fun cdv A outer s H vs Q E hr h => ?_)
  · obtain ⟨a, l, rfl, _⟩ := h
    rfl
  · obtain ⟨a, l, rfl, hS, W, q⟩ := h
    refine ⟨_, pss_one (ps_ret (pe_callB (cr_sum rfl) (by rfl) T.sum boot_sum (pa_cons (pe_cut2 0 rfl (pv 0)) pa_nil))), ?_⟩
    exact s_ret (ev_sumN (el_is (el_is (el_cut2 (ev_var rfl) hS) (kgV W.even)) (vn_ints _ _)) (cast_sum _)) q
theorem ok_weighed {f : Addr} {fd : FuncData} {k : Nat} (F : Fun K "weighed_lengths" "weighed_lengths" sWeighed f fd) (T : Txt mg) : FnOk P w K mg base CX0 (k + 1) f fd ["bales"] (spWeighed K) := by
  refine F.ok scW (fun vs H Q E h => ?_) (fun cdv A outer s H vs Q E hr h => ?_)
  · obtain ⟨a, l, rfl, _⟩ := h
    rfl
  · obtain ⟨a, l, rfl, hS, W, q⟩ := h
    refine ⟨_, pss_one (ps_ret (pe_callB (cr_sum rfl) (by rfl) T.sum boot_sum (pa_cons
          (pe_lc (own := [("weight", 1), ("length", 2)]) (g := gTup K 2 (gCons (gName 1) (gCons (gName 2) gNil))) (by rfl) scW.nd (pi_zip (by rfl) T.zip (pa_cons (pe_cut2 0 rfl (pv 0)) (pa_cons (pe_cut2 1 rfl (pv 0)) pa_nil)))
            (blkOk_by (own := [("weight", 1), ("length", 2)]) (N := ["bales", "weight", "length"]) (sc := defScope sWeighed) (by decide +kernel))
            (fun _ _ _ _ _ => pg_tup rfl (pgs_cons (pg_name (i := 1) scW.nd rfl (.inl rfl)) (pgs_cons (pg_name (i := 2) scW.nd rfl (.inl rfl)) pgs_nil)))
            (fun _ _ _ _ _ => pts_nil) (fun _ _ _ _ _ => pe_op op_mul (pv 1) (pv 2))) pa_nil))), ?_⟩
    have exm : ((List.range ((Kzd1.bales l).map fun b => vn b.kg).length).map fun i => (fun b : Kzd1.Bale => vn (b.kg * b.long)) ((Kzd1.bales l).getD i ⟨0, 0⟩)) = (toZ ((Kzd1.bales l).map fun b => b.kg * b.long)).map V.int := by
      rw [List.length_map]
      refine (over_all (fun b : Kzd1.Bale => vn (b.kg * b.long)) ⟨0, 0⟩ _).trans ?_
      exact vn_ints (fun b : Kzd1.Bale => b.kg * b.long) _
    refine s_ret (v := vn (longs l)) (ev_sumN (el_is (el_lcZNN (fun i => (fun b : Kzd1.Bale => vn (b.kg * b.long)) ((Kzd1.bales l).getD i ⟨0, 0⟩)) (el_is (el_cut2 (ev_var rfl) hS) (kgV W.even)) (el_is (el_cut2 (ev_var rfl) hS) (longV W.even)) ?_ ?_ (fun _ _ => rfl) ?_) exm) (cast_sum _)) q
    · rw [List.length_map, List.length_map]
    · rw [List.length_map, bales_len]
      have := W.len
      omega
    · intro i x y H5 e5 hx hy
      obtain ⟨b, hb1, rfl⟩ := map_at hx
      obtain ⟨b', hb2, rfl⟩ := map_at hy
      cases hb1.symm.trans hb2
      have hb := W.ok b (List.mem_of_getElem? hb1)
      refine ev_is (ev_op (ev_var rfl) (ev_var rfl) (rv_I (.inl (by omega)))) ?_
      rw [List.getD_eq_getElem?_getD, hb1]
      show V.int ((b.kg : Int) * (b.long : Int)) = V.int ((b.kg * b.long : Nat) : Int)
      rw [Int.natCast_mul]
end
end Bal
set_option Elab.async false
set_option linter.all false
set_option maxRecDepth 100000
set_option maxHeartbeats 4000000
namespace Bal
open PySem PySem.Spec PyProof.Rows L2 Evl
theorem scM : FnScope ["bales", "kilograms"] ["bales"] (defScope sMean) := ⟨rfl, rfl, rfl, by decide +kernel, rfl, by decide +kernel, by decide +kernel⟩
section
variable {P : Program} {w : World} {K : PySem.W.Frag} {mg : Str → Option Value} {base : Heap}
/-- max of a new list -/
theorem ev_maxN {σ : L2.St} {H : Hp} {te : TE} {ns : List Int} {n : Int} (h : EvL te σ H (ns.map V.int)) (h0 : 0 < ns.length) (e : ∀ m, m ∈ ns → (∀ y, y ∈ ns → y ≤ m) → m = n) : Ev (tCB (rMax K) (tCons te tNil)) σ H (.int n) := fun H1 e1 Q q =>
  h H1 e1 _ fun p H2 _ e2 hp => ⟨p, ns, rfl, sq_of hp, h0, fun m h1 h2 => by rw [e m h1 h2]; exact q H2 e2⟩
theorem good_whole' {l : List Nat} (h : Kzd1.good l = true) : Whole l := by
  obtain ⟨h1, h2, h3⟩ := good_iff.mp h
  exact ⟨h1, by omega, h3⟩
def spMean (K : PySem.W.Frag) : Sp := fun vs H Q _ => ∃ (a : Addr) (l : List Nat), vs = [.ref a] ∧ SqL K H a (l.map vn) ∧ l.length ≤ 20 ∧ RetL ((PyKzd1.mean (toZ l)).map V.int) H Q
theorem ok_mean {f fT fK fW : Addr} {fd fdT fdK fdW : FuncData} {k : Nat} (F : Fun K "mean" "mean" sMean f fd) (T : Txt mg) (mMax : mg "max" = none)
    (FT : Fun K "are_as_told" "are_as_told" sTold fT fdT) (bT : Binds K fdT ["bales"] []) (gT : mg "are_as_told" = some (.ref fT))
    (FK : Fun K "all_kilograms" "all_kilograms" sAllKg fK fdK) (bK : Binds K fdK ["bales"] []) (gK : mg "all_kilograms" = some (.ref fK))
    (FW : Fun K "weighed_lengths" "weighed_lengths" sWeighed fW fdW) (bW : Binds K fdW ["bales"] []) (gW : mg "weighed_lengths" = some (.ref fW)) :
    FnOk P w K mg base CX0 (k + 2) f fd ["bales"] (spMean K) := by
  have GT : FnOk P w K mg base CX0 (k + 1) fT fdT ["bales"] (spTold K) := ok_told FT T
  have GK : FnOk P w K mg base CX0 (k + 1) fK fdK ["bales"] (spKg K) := ok_kg FK T
  have GW : FnOk P w K mg base CX0 (k + 1) fW fdW ["bales"] (spWeighed K) := ok_weighed FW T
  refine F.ok scM (fun vs H Q E h => ?_) (fun cdv A outer s H vs Q E hr h => ?_)
  · obtain ⟨a, l, rfl, _⟩ := h
    rfl
  · obtain ⟨a, l, rfl, hS, hlen, q⟩ := h
    refine ⟨_, pss_cons (ps_if (pt_not (pt_val (pe_call GT hr (by rfl) gT FT.kp bT .nil pass0 (pa_cons (pv 0) pa_nil)))) (pss_one (ps_ret (pe_lst (pa_cons (pe_un un_neg pe_int) pa_nil)))) pss_nil)
      (pss_cons (ps_if (pt_cmpR op_eq (pe_callB call_len_seq (by rfl) T.len PySem.boot_len (pa_cons (pv 0) pa_nil)) pe_int (nomark _)) (pss_one (ps_ret (pe_lst (pa_cons pe_int (pa_cons pe_int (pa_cons pe_int pa_nil)))))) pss_nil)
      (pss_cons (ps_set (i := 1) scM.nd rfl (.inl rfl) (pe_call GK hr (by rfl) gK FK.kp bK .nil pass0 (pa_cons (pv 0) pa_nil)))
      (pss_one (ps_ret (pe_lst (pa_cons (pe_op op_fdiv (pe_call GW hr (by rfl) gW FW.kp bW .nil pass0 (pa_cons (pv 0) pa_nil)) (pv 1))
        (pa_cons (pv 1) (pa_cons (pe_callB (cr_max rfl) (by rfl) mMax boot_max (pa_cons (pe_cut2 1 rfl (pv 0)) pa_nil)) pa_nil)))))))), ?_⟩
    -- if not are_as_told(bales): return [-22]
    refine q_when (et_not (et_B (ev_call (ea_cons (ev_var rfl) ea_nil) (spTold_v hS hlen)))) (fun hb H1 e1 => ?_) (fun hb H1 e1 => ?_)
    · refine s_retL (el_lst (ea_cons (ev_un ev_c ru_neg) ea_nil) (by decide)) fun p H2 hp e2 h2 => ?_
      refine q p H2 (fresh_back e1 hp) (e1.trans e2) ?_
      rw [mean_bad (by simpa using hb)]
      exact h2
    · have hg : Kzd1.good l = true := by simpa using hb
      obtain ⟨c1, c2, hbl⟩ := good_iff.mp hg
      have W := good_whole' hg
      have hS1 := ex_l e1 hS
      -- if len(bales) == 0
      refine q_when (b := decide (l.length = 0)) (et_test (ev_is (ev_op (ev_len (ev_var rfl) hS1) ev_c (rv_eq rfl)) ?_)) (fun hz H2 e2 => ?_) (fun hz H2 e2 => ?_)
      · refine congrArg V.bl (decide_eq_decide.mpr ?_)
        rw [List.length_map]
        exact ⟨fun z => by have := V.int.inj z; omega, fun z => by rw [z] <;> rfl⟩
      · have e0 : l = [] := List.length_eq_zero_iff.mp (of_decide_eq_true hz)
        subst e0
        exact s_retL (el_lst (ea_cons ev_c (ea_cons ev_c (ea_cons ev_c ea_nil))) (by decide)) fun p H3 hp e3 h3 => q p H3 (fresh_back (e1.trans e2) hp) ((e1.trans e2).trans e3) h3
      · have h0 : Kzd1.bales l ≠ [] := fun z => by
          have := bales_len l
          rw [z] at this
          have hz := of_decide_eq_false hz
          rw [List.length_nil] at this
          omega
        have kp : 0 < kgs l := kg_pos (fun b hb => (hbl b hb).1) h0
        have hS2 := ex_l e2 hS1
        refine q_asg (ev_call (ea_cons (ev_var rfl) ea_nil) (spKg_v hS2 W)) fun H3 e3 => ?_
        have hS3 := ex_l e3 hS2
        have hdue := mean_ok hg
        rw [kmean, if_neg (show ¬ ((Kzd1.bales l).map Kzd1.Bale.kg).sum = 0 from Nat.pos_iff_ne_zero.mp kp)] at hdue
        have hm : 0 < (toZ ((Kzd1.bales l).map Kzd1.Bale.long)).length := by
          unfold toZ Kzd1Neutral.ints
          rw [List.length_map, List.length_map]
          exact List.length_pos_iff.mpr h0
        have hs : kgs l ≤ 9 * 300 := by
          have z := kg_le hbl
          rw [bales_len] at z
          refine Nat.le_trans z (Nat.mul_le_mul_right _ ?_)
          omega
        refine s_retL (el_lst (ea_cons (ev_op (ev_call (ea_cons (ev_var rfl) ea_nil) (spWeighed_v hS3 W)) (ev_var rfl) (rv_I (by show (0 : Int) < _ ∧ _ < _; omega))) (ea_cons (ev_var rfl)
          (ea_cons (ev_maxN (n := ((Kzd1.top ((Kzd1.bales l).map Kzd1.Bale.long) : Nat) : Int)) (el_is (el_is (el_cut2 (ev_var rfl) hS3) (longV c1)) (vn_ints _ _)) hm ?_) ea_nil))) (show 3 ≤ 100000 by decide)) fun p H6 hp e6 h6 => ?_
        · intro m h1 h2
          obtain ⟨m', hm', rfl⟩ := List.mem_map.mp h1
          have et : Kzd1.top ((Kzd1.bales l).map Kzd1.Bale.long) = m' := top_is hm' fun x hx => by
            have := h2 (x : Int) (List.mem_map.mpr ⟨x, hx, rfl⟩)
            omega
          rw [et]
        · refine q p H6 (fresh_back ((e1.trans e2).trans e3) hp) (((e1.trans e2).trans e3).trans e6) ?_
          rw [hdue]
          exact h6
end
end Bal
set_option Elab.async false
set_option linter.all false
set_option maxRecDepth 100000
set_option maxHeartbeats 4000000
namespace Bal
open PySem PySem.Spec PyProof.Rows L2 Evl
open PySem.W (Codec)
/-- a list handed in: numbers not below 0 -/
theorem list_in {xs : List Int} (h : (Codec.inLen 0 20 xs && xs.all (Codec.inInt 0 4294967295)) = true) : xs = toZ (Kzd1Neutral.natsOf xs) ∧ xs.map V.int = (Kzd1Neutral.natsOf xs).map vn ∧ (Kzd1Neutral.natsOf xs).length ≤ 20 := by
  rw [Bool.and_eq_true] at h
  have hz : xs = toZ (Kzd1Neutral.natsOf xs) := ints_of fun x hx => (Codec.inInt_iff.mp (List.all_eq_true.mp h.2 x hx)).1
  refine ⟨hz, ?_, ?_⟩
  · conv => lhs; rw [hz]
    unfold toZ Kzd1Neutral.ints
    rw [List.map_map]
    rfl
  · unfold Kzd1Neutral.natsOf
    rw [List.length_map]
    exact (Codec.inNat_iff.mp h.1).2
/-- a number handed in -/
theorem int_in {i : Int} (h : Codec.inInt 0 4294967295 i = true) : ∃ n : Nat, i = (n : Int) := ⟨i.toNat, by have := (Codec.inInt_iff.mp h).1; omega⟩
theorem all_mk {P : Program} {w : World} {K : PySem.W.Frag} {h : Heap} {mg : Str → Option Value} {fa f1 f2 f3 f4 : Addr} (X : K.In h) (G : h.Ns mainGlobals mg) (hfa : mg "mean" = some (.ref fa))
    {od1 an1 od2 an2 od3 an3 od4 an4 : Option Addr}
    {sl1 sl2 sl3 sl4 : Array (Option Value)} {oc1 kV1 dc1 pm1 cd1 ct1 oc2 kV2 dc2 pm2 cd2 ct2 oc3 kV3 dc3 pm3 cd3 ct3 oc4 kV4 dc4 pm4 cd4 ct4 : Value} {t1 t2 t3 t4 : Tok}
    (a1 : PySem.W.nsIn K mainGlobals "are_as_told" = some (some (.ref f1))) (l1 : K.lookup f1 = some ⟨oc1, od1, .func (PySem.W.fnOf "are_as_told" "are_as_told" (defArgs sTold) (defBody sTold) (defScope sTold) .none kV1 dc1 pm1 an1 cd1 ct1), sl1⟩) (c1 : PySem.W.codeIn K cd1 "are_as_told" = true) (k1 : PySem.W.keepIn K (.ref f1) = true)
    (a2 : PySem.W.nsIn K mainGlobals "all_kilograms" = some (some (.ref f2))) (l2 : K.lookup f2 = some ⟨oc2, od2, .func (PySem.W.fnOf "all_kilograms" "all_kilograms" (defArgs sAllKg) (defBody sAllKg) (defScope sAllKg) .none kV2 dc2 pm2 an2 cd2 ct2), sl2⟩) (c2 : PySem.W.codeIn K cd2 "all_kilograms" = true) (k2 : PySem.W.keepIn K (.ref f2) = true)
    (a3 : PySem.W.nsIn K mainGlobals "weighed_lengths" = some (some (.ref f3))) (l3 : K.lookup f3 = some ⟨oc3, od3, .func (PySem.W.fnOf "weighed_lengths" "weighed_lengths" (defArgs sWeighed) (defBody sWeighed) (defScope sWeighed) .none kV3 dc3 pm3 an3 cd3 ct3), sl3⟩) (c3 : PySem.W.codeIn K cd3 "weighed_lengths" = true) (k3 : PySem.W.keepIn K (.ref f3) = true)
    (a4 : PySem.W.nsIn K mainGlobals "mean" = some (some (.ref f4))) (l4 : K.lookup f4 = some ⟨oc4, od4, .func (PySem.W.fnOf "mean" "mean" (defArgs sMean) (defBody sMean) (defScope sMean) .none kV4 dc4 pm4 an4 cd4 ct4), sl4⟩) (c4 : PySem.W.codeIn K cd4 "mean" = true) (k4 : PySem.W.keepIn K (.ref f4) = true)
    (z1 : PySem.W.nsIn K mainGlobals "len" = some none)
    (z2 : PySem.W.nsIn K mainGlobals "zip" = some none)
    (z3 : PySem.W.nsIn K mainGlobals "sum" = some none)
    (z4 : PySem.W.nsIn K mainGlobals "max" = some none)
    (g1 : PySem.W.nsIn K mainGlobals "MOST_BALES" = some (some (.int 9 t1)))
    (g2 : PySem.W.nsIn K mainGlobals "LEAST_KILOGRAMS" = some (some (.int 1 t2)))
    (g3 : PySem.W.nsIn K mainGlobals "MOST_KILOGRAMS" = some (some (.int 300 t3)))
    (g4 : PySem.W.nsIn K mainGlobals "LONGEST_FIBRES" = some (some (.int 500 t4)))
    : ∃ fd : FuncData, (∀ (s : Shared) (us : List Value), us.length = (["bales"] : List Str).length → BindsTo s fd ⟨us, []⟩ ((["bales"] : List Str).zip us)) ∧ ∀ base : Heap, K.In base → base.Ns mainGlobals mg → FnOk P w K mg base CX0 2 fa fd ["bales"] (spMean K) := by
  have e := hfa.symm.trans (PySem.W.mg_of X G a4)
  cases e
  have T : Txt mg := ⟨(PySem.W.mg_none_of X G z1), (PySem.W.mg_none_of X G z2), (PySem.W.mg_none_of X G z3), ⟨_, PySem.W.mg_of X G g1⟩, ⟨_, PySem.W.mg_of X G g2⟩, ⟨_, PySem.W.mg_of X G g3⟩, ⟨_, PySem.W.mg_of X G g4⟩⟩
  have F1 := fun_mk (st := sTold) l1 c1 k1
  have b1 := F1.binds (ps := ["bales"]) fun _ _ _ _ _ _ us hl => match us, hl with | [_], _ => rfl
  have F2 := fun_mk (st := sAllKg) l2 c2 k2
  have b2 := F2.binds (ps := ["bales"]) fun _ _ _ _ _ _ us hl => match us, hl with | [_], _ => rfl
  have F3 := fun_mk (st := sWeighed) l3 c3 k3
  have b3 := F3.binds (ps := ["bales"]) fun _ _ _ _ _ _ us hl => match us, hl with | [_], _ => rfl
  have F4 := fun_mk (st := sMean) l4 c4 k4
  exact ⟨PySem.W.fnOf "mean" "mean" (defArgs sMean) (defBody sMean) (defScope sMean) .none kV4 dc4 pm4 an4 cd4 ct4, fun s us hu => match us, hu with | [_], _ => .of_eq rfl, fun base _ _ => ok_mean F4 T (PySem.W.mg_none_of X G z4) F1 b1 (PySem.W.mg_of X G a1) F2 b2 (PySem.W.mg_of X G a2) F3 b3 (PySem.W.mg_of X G a3)⟩
end Bal
open PySem PySem.W PyProof.Rows
set_option maxRecDepth 100000 in
set_option maxHeartbeats 8000000 in
theorem PySem.Challenge.cw_balelayer_s01_mean_holds : PySem.Challenge.rw_balelayer_s01_mean.Holds := by
  w_on; k_headS; (case hw => exact ⟨[.list []], by decide +kernel, by decide +kernel⟩)
  k_fillS
  refine L2.walk_specK (r := PySem.Challenge.rw_balelayer_s01_mean) (k := 2) (CX := L2.CX0) (ps := ["bales"]) (sp := Bal.spMean) (by decide +kernel) rfl rfl ⟨rfl, by decide, by decide⟩ (fun w h Y => PySem.W.kIn_of Y) ?F ?S (fun _ _ _ _ z => z)
  case F =>
    intro w mg fa h Y KX G hmg
    refine' Bal.all_mk KX G hmg ?a1 ?l1 ?c1 ?k1 ?a2 ?l2 ?c2 ?k2 ?a3 ?l3 ?c3 ?k3 ?a4 ?l4 ?c4 ?k4 ?z1 ?z2 ?z3 ?z4 ?g1 ?g2 ?g3 ?g4
    (case a1 => k_is)
    (case l1 => k_is)
    (case c1 => k_is)
    (case k1 => k_is)
    (case a2 => k_is)
    (case l2 => k_is)
    (case c2 => k_is)
    (case k2 => k_is)
    (case a3 => k_is)
    (case l3 => k_is)
    (case c3 => k_is)
    (case k3 => k_is)
    (case a4 => k_is)
    (case l4 => k_is)
    (case c4 => k_is)
    (case k4 => k_is)
    (case z1 => k_is)
    (case z2 => k_is)
    (case z3 => k_is)
    (case z4 => k_is)
    (case g1 => k_is)
    (case g2 => k_is)
    (case g3 => k_is)
    (case g4 => k_is)
  case S =>
    intro K H xs a hO hwi hask hx
    obtain ⟨l, u⟩ := a
    cases hx with
    | cons h3 hx =>
      cases hx
      cases h3 with
      | lst hs ha =>
        have e := L2.ints_dw l _ ha
        subst e
        have q : ((PySem.W.Codec.inLen 0 20 l && l.all (PySem.W.Codec.inInt 0 4294967295)) && true) = true := hwi
        rw [Bool.and_eq_true] at q
        obtain ⟨hz, hV, hl⟩ := Bal.list_in q.1
        refine ⟨_, Kzd1Neutral.natsOf l, rfl, by rw [← hV]; exact hs, hl, fun p H2 _ _ hp => ?_⟩
        rw [← hz] at hp
        exact .lst (L2.SqL.of hp) (L2.dw_ints _)
