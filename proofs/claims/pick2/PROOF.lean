import PyProof.Rows.All
import Wide.All
import OpenK.AllK
import Wide.FinOn
import PyProof.EqAt
import PyProof.EqKinds
import PyProof.TupleCall
import KE.KRevSl
import HandS.Base
import HandS.Call
import HandS.List
import HandS.Comp
import HandS.Iter
import HandS.Walk
import HandS.Ends
import HandS.Evl
import HandS.Words
import Open.SpecLaws
import KE.OsGo
import HandS.Zip
import HandS.Spec
import HandS.WordsList
import PySem.Challenge.RW_balelayer_s02_pick
namespace Bal
/-- every other item, the first among them -/
def ev {α : Type} : List α → List α
  | [] => []
  | [a] => [a]
  | a :: _ :: r => a :: ev r
theorem everyMap {α β : Type} (g : α → β) : ∀ l : List α, ev (l.map g) = (ev l).map g
  | [] => rfl
  | [_] => rfl
  | a :: b :: r => by
    show g a :: ev (r.map g) = g a :: (ev r).map g
    rw [everyMap g r]
theorem everyLen {α : Type} : ∀ l : List α, (ev l).length ≤ l.length
  | [] => Nat.le_refl _
  | [_] => Nat.le_refl _
  | a :: b :: r => by
    have := everyLen r
    show (ev r).length + 1 ≤ r.length + 1 + 1
    omega
theorem everyRange {α : Type} : ∀ l : List α, (List.range ((l.length + 1) / 2)).filterMap (fun k => l[2 * k]?) = ev l
  | [] => by simp [ev]
  | [_] => by simp [ev]
  | a :: b :: r => by
    have e : ((a :: b :: r).length + 1) / 2 = (r.length + 1) / 2 + 1 := by
      rw [List.length_cons, List.length_cons]
      omega
    rw [e, List.range_succ_eq_map, List.filterMap_cons]
    show a :: List.filterMap _ _ = a :: ev r
    rw [← everyRange r, List.filterMap_map]
    congr 1
theorem fm_congr {α β : Type} {f g : α → Option β} : ∀ {l : List α}, (∀ x ∈ l, f x = g x) → l.filterMap f = l.filterMap g
  | [], _ => rfl
  | a :: r, h => by
    rw [List.filterMap_cons, List.filterMap_cons, h a List.mem_cons_self, fm_congr fun x hx => h x (List.mem_cons_of_mem _ hx)]
end Bal
namespace Bal
theorem sum_eq (l : List Nat) : ∀ k : Nat, l.foldl (· + ·) k = k + l.sum := by
  induction l with
  | nil => intro k; rfl
  | cons x r ih =>
    intro k
    rw [List.foldl_cons, ih, List.sum_cons]
    omega
theorem ksum (l : List Nat) : Kzd1.sum l = l.sum := by
  unfold Kzd1.sum
  rw [sum_eq, Nat.zero_add]
theorem top_ge : ∀ (l : List Nat) (k : Nat), k ≤ l.foldl max k ∧ ∀ x ∈ l, x ≤ l.foldl max k
  | [], k => ⟨Nat.le_refl _, fun x h => by cases h⟩
  | a :: r, k => by
    obtain ⟨h1, h2⟩ := top_ge r (max k a)
    refine ⟨Nat.le_trans (Nat.le_max_left k a) h1, fun x hx => ?_⟩
    cases hx with
    | head => exact Nat.le_trans (Nat.le_max_right k a) h1
    | tail _ hx => exact h2 x hx
theorem top_mem : ∀ (l : List Nat) (k : Nat), l.foldl max k = k ∨ l.foldl max k ∈ l
  | [], k => .inl rfl
  | a :: r, k => by
    rcases top_mem r (max k a) with h | h
    · by_cases c : k ≤ a
      · right
        have : max k a = a := Nat.max_eq_right c
        show r.foldl max (max k a) ∈ a :: r
        rw [h, this]
        exact List.mem_cons_self
      · left
        show r.foldl max (max k a) = k
        rw [h]
        exact Nat.max_eq_left (by omega)
    · right
      exact List.mem_cons_of_mem _ h
/-- the greatest item is top -/
theorem top_is {l : List Nat} {m : Nat} (h1 : m ∈ l) (h2 : ∀ x ∈ l, x ≤ m) : Kzd1.top l = m := by
  unfold Kzd1.top
  have a := (top_ge l 0).2 m h1
  rcases top_mem l 0 with h | h
  · omega
  · exact Nat.le_antisymm (h2 _ h) a
theorem over_all {α β : Type} (g : α → β) (d : α) (l : List α) : (List.range l.length).map (fun i => g (l.getD i d)) = l.map g := by
  apply List.ext_getElem?
  intro i
  rw [List.getElem?_map, List.getElem?_map]
  by_cases h : i < l.length
  · rw [List.getElem?_range h, List.getElem?_eq_getElem h]
    show some (g (l.getD i d)) = some (g l[i])
    rw [List.getD_eq_getElem?_getD, List.getElem?_eq_getElem h]
    rfl
  · rw [List.getElem?_eq_none (by rw [List.length_range]; omega), List.getElem?_eq_none (by omega)]
    rfl
open Kzd1
theorem kg_all (l : List Bale) : kgOf l (Kzd1.all l) = (l.map Bale.kg).sum := by
  unfold kgOf Kzd1.all at_
  rw [ksum, over_all Bale.kg]
theorem long_all (l : List Bale) : longOf l (Kzd1.all l) = (l.map fun b => b.kg * b.long).sum := by
  unfold longOf Kzd1.all at_
  rw [ksum, over_all fun b : Bale => b.kg * b.long]
/-- of an even list: the bales' kilograms, their lengths -/
theorem ev_kg : ∀ l : List Nat, l.length % 2 = 0 → ev l = (bales l).map Bale.kg
  | [], _ => rfl
  | [_], h => by simp at h
  | a :: b :: r, h => by
    have h' : r.length % 2 = 0 := by
      rw [List.length_cons, List.length_cons] at h
      omega
    show a :: ev r = a :: (bales r).map Bale.kg
    rw [ev_kg r h']
theorem od_long : ∀ l : List Nat, l.length % 2 = 0 → ev (l.drop 1) = (bales l).map Bale.long
  | [], _ => rfl
  | [_], h => by simp at h
  | a :: b :: r, h => by
    have h' : r.length % 2 = 0 := by
      rw [List.length_cons, List.length_cons] at h
      omega
    show ev (b :: r) = b :: (bales r).map Bale.long
    rw [← od_long r h']
    cases r with
    | nil => rfl
    | cons c r => rfl
theorem bales_len : ∀ l : List Nat, (bales l).length = l.length / 2
  | [] => rfl
  | [_] => by show 0 = 1 / 2; rfl
  | a :: b :: r => by
    show (bales r).length + 1 = (r.length + 1 + 1) / 2
    rw [bales_len r]
    omega
/-- what is right of the list, in three -/
theorem good_odd {l : List Nat} (h : l.length % 2 ≠ 0) : good l = false := by
  unfold good
  rw [decide_eq_false h]
  rfl
theorem good_long {l : List Nat} (h : 18 < l.length) : good l = false := by
  by_cases c : l.length % 2 = 0
  · unfold good ok
    have e : ¬ (bales l).length ≤ 9 := by
      rw [bales_len]
      omega
    rw [decide_eq_false e, Bool.false_and, Bool.and_false]
  · exact good_odd c
theorem good_eq {l : List Nat} (h : l.length % 2 = 0) (h2 : l.length ≤ 18) : good l = (bales l).all okBale := by
  unfold good ok
  have e : (bales l).length ≤ 9 := by
    rw [bales_len]
    omega
  rw [decide_eq_true e, decide_eq_true h, Bool.true_and, Bool.true_and]
theorem ok_iff {b : Bale} : okBale b = true ↔ 1 ≤ b.kg ∧ b.kg ≤ 300 ∧ b.long ≤ 500 := by
  unfold okBale
  rw [Bool.and_eq_true, Bool.and_eq_true, decide_eq_true_eq, decide_eq_true_eq, decide_eq_true_eq, and_assoc]
theorem good_iff {l : List Nat} : good l = true ↔ l.length % 2 = 0 ∧ l.length ≤ 18 ∧ ∀ b ∈ bales l, 1 ≤ b.kg ∧ b.kg ≤ 300 ∧ b.long ≤ 500 := by
  by_cases h : l.length % 2 = 0
  · by_cases h2 : l.length ≤ 18
    · rw [good_eq h h2, List.all_eq_true]
      constructor
      · intro z
        exact ⟨h, h2, fun b hb => ok_iff.mp (z b hb)⟩
      · intro z b hb
        exact ok_iff.mpr (z.2.2 b hb)
    · rw [good_long (Nat.lt_of_not_le h2)]
      constructor
      · intro z; cases z
      · intro z; exact absurd z.2.1 h2
  · rw [good_odd h]
    constructor
    · intro z; cases z
    · intro z; exact absurd z.1 h
/-! ### mean -/
theorem mean_due (l : List Int) : PyKzd1.mean l = (let a := Kzd1.answer (.mean (Kzd1Neutral.natsOf l)); a.value :: Kzd1Neutral.ints a.nums) := rfl
abbrev toZ (l : List Nat) : List Int := Kzd1Neutral.ints l
theorem nats_ints (l : List Nat) : Kzd1Neutral.natsOf (toZ l) = l := by
  unfold Kzd1Neutral.natsOf toZ Kzd1Neutral.ints
  rw [List.map_map]
  conv => rhs; rw [← List.map_id l]
  rfl
/-- a list of numbers not below 0 is one of naturals -/
theorem ints_of {l : List Int} (h : ∀ x ∈ l, 0 ≤ x) : l = toZ (Kzd1Neutral.natsOf l) := by
  unfold Kzd1Neutral.natsOf toZ Kzd1Neutral.ints
  rw [List.map_map]
  conv => lhs; rw [← List.map_id l]
  apply List.map_congr_left
  intro x hx
  show x = ((x.toNat : Nat) : Int)
  have := h x hx
  omega
theorem mean_bad {l : List Nat} (h : good l = false) : PyKzd1.mean (toZ l) = [-22] := by
  rw [mean_due, nats_ints]
  have e : Kzd1.answer (.mean l) = say (-22) := if_pos h
  rw [e]
  rfl
theorem mean_ok {l : List Nat} (h : good l = true) : PyKzd1.mean (toZ l) =
    [((Kzd1.mean (bales l) (Kzd1.all (bales l)) : Nat) : Int), ((((bales l).map Bale.kg).sum : Nat) : Int), ((top ((bales l).map Bale.long) : Nat) : Int)] := by
  rw [mean_due, nats_ints]
  have e : Kzd1.answer (.mean l) = ⟨((Kzd1.mean (bales l) (Kzd1.all (bales l)) : Nat) : Int), [kgOf (bales l) (Kzd1.all (bales l)), top ((bales l).map Bale.long)]⟩ := if_neg (by rw [h]; decide)
  rw [e, kg_all]
  rfl
theorem mean_none : PyKzd1.mean (toZ []) = [0, 0, 0] := by rfl
theorem kmean (l : List Bale) : Kzd1.mean l (Kzd1.all l) = if (l.map Bale.kg).sum = 0 then 0 else (l.map fun b => b.kg * b.long).sum / (l.map Bale.kg).sum := by
  unfold Kzd1.mean
  rw [kg_all, long_all]
/-- with a bale there are kilograms -/
theorem kg_pos {l : List Bale} (h : ∀ b ∈ l, 1 ≤ b.kg) (h0 : l ≠ []) : 0 < (l.map Bale.kg).sum := by
  cases l with
  | nil => exact absurd rfl h0
  | cons b r =>
    have := h b List.mem_cons_self
    rw [List.map_cons, List.sum_cons]
    omega
theorem sum_le {l : List Nat} {m : Nat} (h : ∀ x ∈ l, x ≤ m) : l.sum ≤ l.length * m := by
  induction l with
  | nil => exact Nat.zero_le _
  | cons a r ih =>
    have h1 := h a List.mem_cons_self
    have h2 := ih fun x hx => h x (List.mem_cons_of_mem _ hx)
    rw [List.sum_cons, List.length_cons, Nat.add_mul, Nat.one_mul]
    omega
theorem cast_sum (l : List Nat) : (toZ l).sum = ((l.sum : Nat) : Int) := by
  unfold toZ Kzd1Neutral.ints
  induction l with
  | nil => rfl
  | cons a r ih =>
    rw [List.map_cons, List.sum_cons, List.sum_cons, ih]
    omega
end Bal
namespace Bal
open Kzd1
/-! ### all choices, grown at the end -/
def firstOf (c : List Nat) : Nat := match c.getLast? with
  | none => 0
  | some b => b + 1
theorem firstOf_snoc (c : List Nat) (b : Nat) : firstOf (c ++ [b]) = b + 1 := by
  unfold firstOf
  rw [List.getLast?_concat]
def grow (n : Nat) (c : List Nat) : List (List Nat) := (List.range (n - firstOf c)).map fun j => c ++ [firstOf c + j]
def grown (n : Nat) : Nat → List (List Nat)
  | 0 => [[]]
  | p + 1 => (grown n p).flatMap (grow n)
theorem fl_congr {α β : Type} {f g : α → List β} : ∀ {l : List α}, (∀ x ∈ l, f x = g x) → l.flatMap f = l.flatMap g
  | [], _ => rfl
  | a :: r, h => by
    rw [List.flatMap_cons, List.flatMap_cons, h a List.mem_cons_self, fl_congr fun x hx => h x (List.mem_cons_of_mem _ hx)]
theorem picks_zero (l : List Nat) : picks 0 l = [[]] := by cases l <;> rfl
def steps (n : Nat) : Nat → List (List Nat) → List (List Nat)
  | 0, L => L
  | j + 1, L => steps n j (L.flatMap (grow n))
theorem steps_snoc (n : Nat) : ∀ (j : Nat) (L : List (List Nat)), steps n (j + 1) L = (steps n j L).flatMap (grow n)
  | 0, _ => rfl
  | j + 1, L => steps_snoc n j (L.flatMap (grow n))
theorem grown_steps (n : Nat) : ∀ j, grown n j = steps n j [[]]
  | 0 => rfl
  | j + 1 => by
    rw [steps_snoc, ← grown_steps n j]
    rfl
theorem steps_flat (n : Nat) : ∀ (j : Nat) (L : List (List Nat)), steps n j L = L.flatMap fun c => steps n j [c]
  | 0, L => by
    show L = L.flatMap fun c => [c]
    rw [List.flatMap_singleton']
  | j + 1, L => by
    show steps n j (L.flatMap (grow n)) = L.flatMap fun c => steps n j ([c].flatMap (grow n))
    rw [steps_flat n j, List.flatMap_assoc]
    apply fl_congr
    intro c _
    rw [List.flatMap_singleton, ← steps_flat n j]
theorem picks_range (n j : Nat) : ∀ (m s : Nat), s + m = n → picks (j + 1) (List.range' s m) = (List.range' s m).flatMap fun b => (picks j (List.range' (b + 1) (n - (b + 1)))).map (b :: ·)
  | 0, _, _ => rfl
  | m + 1, s, h => by
    rw [List.range'_succ]
    show (picks j (List.range' (s + 1) m)).map (s :: ·) ++ picks (j + 1) (List.range' (s + 1) m) = _
    rw [List.flatMap_cons, picks_range n j m (s + 1) (by omega), show n - (s + 1) = m by omega]
theorem steps_one (n : Nat) : ∀ (j : Nat) (c : List Nat), steps n j [c] = (picks j (List.range' (firstOf c) (n - firstOf c))).map (c ++ ·)
  | 0, c => by
    rw [picks_zero]
    show [c] = [c ++ []]
    rw [List.append_nil]
  | j + 1, c => by
    show steps n j ([c].flatMap (grow n)) = _
    rw [List.flatMap_singleton, steps_flat]
    have e : (grow n c).flatMap (fun d => steps n j [d]) = (List.range' (firstOf c) (n - firstOf c)).flatMap fun b => (picks j (List.range' (b + 1) (n - (b + 1)))).map ((c ++ [b]) ++ ·) := by
      unfold grow
      rw [List.flatMap_map, List.range'_eq_map_range, List.flatMap_map]
      apply fl_congr
      intro b _
      rw [steps_one n j, firstOf_snoc]
    rw [e]
    by_cases h : firstOf c ≤ n
    · rw [picks_range n j _ _ (show firstOf c + (n - firstOf c) = n by omega), List.map_flatMap]
      apply fl_congr
      intro b _
      rw [List.map_map]
      apply List.map_congr_left
      intro d _
      show (c ++ [b]) ++ d = c ++ (b :: d)
      rw [List.append_assoc]
      rfl
    · rw [show n - firstOf c = 0 by omega]
      rfl
theorem grown_is (n k : Nat) : grown n k = picks k (List.range n) := by
  rw [grown_steps, steps_one]
  show (picks k (List.range' 0 (n - 0))).map ([] ++ ·) = _
  rw [Nat.sub_zero, ← List.range_eq_range']
  exact List.map_id' _
/-! ### how many there are, and what is in them -/
theorem picks_len (k : Nat) : ∀ l : List Nat, (picks k l).length ≤ 2 ^ l.length := by
  intro l
  induction l generalizing k with
  | nil =>
    cases k with
    | zero => decide
    | succ k => exact Nat.zero_le _
  | cons a r ih =>
    cases k with
    | zero => exact Nat.one_le_two_pow
    | succ k =>
      show ((picks k r).map (a :: ·) ++ picks (k + 1) r).length ≤ _
      rw [List.length_append, List.length_map, List.length_cons, Nat.pow_succ]
      have h1 := ih k
      have h2 := ih (k + 1)
      omega
theorem picks_mem : ∀ (k : Nat) (l c : List Nat), c ∈ picks k l → c.length = k ∧ c.Sublist l
  | 0, l, c, h => by
    have e : c = [] := by
      rw [picks_zero] at h
      exact List.mem_singleton.mp h
    subst e
    exact ⟨rfl, List.nil_sublist _⟩
  | k + 1, [], c, h => by cases h
  | k + 1, a :: r, c, h => by
    have h' : c ∈ (picks k r).map (a :: ·) ++ picks (k + 1) r := h
    rcases List.mem_append.mp h' with h1 | h1
    · obtain ⟨d, hd, rfl⟩ := List.mem_map.mp h1
      obtain ⟨e1, e2⟩ := picks_mem k r d hd
      exact ⟨by rw [List.length_cons, e1], e2.cons_cons a⟩
    · obtain ⟨e1, e2⟩ := picks_mem (k + 1) r c h1
      exact ⟨e1, e2.cons a⟩
theorem picks_nil : ∀ (k : Nat) (l : List Nat), picks k l = [] ↔ l.length < k
  | 0, l => by
    rw [picks_zero]
    exact ⟨fun h => (by cases h), fun h => (by omega)⟩
  | k + 1, [] => ⟨fun _ => Nat.succ_pos k, fun _ => rfl⟩
  | k + 1, a :: r => by
    show (picks k r).map (a :: ·) ++ picks (k + 1) r = [] ↔ r.length + 1 < k + 1
    rw [List.append_eq_nil_iff, List.map_eq_nil_iff, picks_nil k r, picks_nil (k + 1) r]
    omega
theorem grown_len (n k : Nat) : (grown n k).length ≤ 2 ^ n := by
  rw [grown_is]
  have := picks_len k (List.range n)
  rw [List.length_range] at this
  exact this
theorem grown_mem {n k : Nat} {c : List Nat} (h : c ∈ grown n k) : c.length = k ∧ ∀ i ∈ c, i < n := by
  rw [grown_is] at h
  obtain ⟨h1, h2⟩ := picks_mem k _ c h
  exact ⟨h1, fun i hi => List.mem_range.mp (h2.subset hi)⟩
/-! ### the chosen bales alone -/
def sel (l c : List Nat) : List Nat := c.flatMap fun i => (l.drop (2 * i)).take 2
theorem two_at : ∀ (l : List Nat) (i : Nat), l.length % 2 = 0 → i < l.length / 2 → (l.drop (2 * i)).take 2 = [(at_ (bales l) i).kg, (at_ (bales l) i).long]
  | [], i, _, h => by simp at h
  | [_], i, h, _ => by simp at h
  | a :: b :: r, 0, _, _ => rfl
  | a :: b :: r, i + 1, h, hi => by
    rw [List.length_cons, List.length_cons] at h hi
    have := two_at r i (by omega) (by omega)
    show ((a :: b :: r).drop (2 * (i + 1))).take 2 = _
    rw [show 2 * (i + 1) = 2 * i + 1 + 1 by omega, List.drop_succ_cons, List.drop_succ_cons, this]
    rfl
theorem sel_snoc (l c : List Nat) (i : Nat) : sel l (c ++ [i]) = sel l c ++ (l.drop (2 * i)).take 2 := by
  unfold sel
  rw [List.flatMap_append, List.flatMap_singleton]
theorem sel_all {l : List Nat} (h : l.length % 2 = 0) : ∀ {c : List Nat}, (∀ i ∈ c, i < l.length / 2) → bales (sel l c) = c.map (at_ (bales l)) ∧ (sel l c).length = 2 * c.length
  | [], _ => ⟨rfl, rfl⟩
  | i :: c, hc => by
    obtain ⟨e1, e2⟩ := sel_all h (c := c) fun j hj => hc j (List.mem_cons_of_mem _ hj)
    have e : sel l (i :: c) = (at_ (bales l) i).kg :: (at_ (bales l) i).long :: sel l c := by
      show (l.drop (2 * i)).take 2 ++ sel l c = _
      rw [two_at l i h (hc i List.mem_cons_self)]
      rfl
    rw [e]
    constructor
    · show _ :: bales (sel l c) = _
      rw [e1]
      rfl
    · rw [List.length_cons, List.length_cons, e2, List.length_cons]
      omega
theorem at_mem {l : List Bale} {i : Nat} (h : i < l.length) : at_ l i ∈ l := by
  unfold at_
  rw [List.getD_eq_getElem?_getD, List.getElem?_eq_getElem h]
  exact List.getElem_mem h
theorem kgOf_is (l : List Bale) (c : List Nat) : kgOf l c = ((c.map (at_ l)).map Bale.kg).sum := by
  unfold kgOf
  rw [ksum, List.map_map]
  rfl
theorem longOf_is (l : List Bale) (c : List Nat) : longOf l c = ((c.map (at_ l)).map fun b => b.kg * b.long).sum := by
  unfold longOf
  rw [ksum, List.map_map]
  rfl
/-! ### bounds -/
theorem mul_le {a b m n : Nat} (h1 : a ≤ m) (h2 : b ≤ n) : a * b ≤ m * n := Nat.mul_le_mul h1 h2
theorem kg_le {l : List Bale} (h : ∀ b ∈ l, 1 ≤ b.kg ∧ b.kg ≤ 300 ∧ b.long ≤ 500) : (l.map Bale.kg).sum ≤ l.length * 300 := by
  have := sum_le (l := l.map Bale.kg) (m := 300) fun x hx => by
    obtain ⟨b, hb, rfl⟩ := List.mem_map.mp hx
    exact (h b hb).2.1
  rw [List.length_map] at this
  exact this
theorem long_le {l : List Bale} (h : ∀ b ∈ l, 1 ≤ b.kg ∧ b.kg ≤ 300 ∧ b.long ≤ 500) : (l.map fun b => b.kg * b.long).sum ≤ l.length * 150000 := by
  have := sum_le (l := l.map fun b => b.kg * b.long) (m := 150000) fun x hx => by
    obtain ⟨b, hb, rfl⟩ := List.mem_map.mp hx
    exact mul_le (m := 300) (n := 500) (h b hb).2.1 (h b hb).2.2
  rw [List.length_map] at this
  exact this
theorem gap_abs (a b : Nat) : (if ((a : Int) - (b : Int)) < 0 then -((a : Int) - (b : Int)) else (a : Int) - (b : Int)) = ((gap a b : Nat) : Int) := by
  unfold gap
  by_cases h : (a : Int) - (b : Int) < 0
  · rw [if_pos h, Nat.max_eq_right (by omega), Nat.min_eq_left (by omega)]
    omega
  · rw [if_neg h, Nat.max_eq_left (by omega), Nat.min_eq_right (by omega)]
    omega
/-! ### the nearest -/
def better (l : List Bale) (t : Nat) (a b : List Nat) : List Nat := if nearer l t b a then b else a
theorem pick_due (k t : Int) (l : List Int) : PyKzd1.pick k t l = (let a := Kzd1.answer (.pick k.toNat t.toNat (Kzd1Neutral.natsOf l)); a.value :: Kzd1Neutral.ints a.nums) := rfl
theorem pick_bad {k t : Nat} {l : List Nat} (h : good l = false ∨ k < 1 ∨ 9 < k ∨ 500 < t) : PyKzd1.pick (k : Int) (t : Int) (toZ l) = [-22] := by
  rw [pick_due, nats_ints, Int.toNat_natCast, Int.toNat_natCast]
  have e : Kzd1.answer (.pick k t l) = say (-22) := if_pos h
  rw [e]
  rfl
theorem pick_few {k t : Nat} {l : List Nat} (h : ¬ (good l = false ∨ k < 1 ∨ 9 < k ∨ 500 < t)) (hk : l.length / 2 < k) : PyKzd1.pick (k : Int) (t : Int) (toZ l) = [-33] := by
  rw [pick_due, nats_ints, Int.toNat_natCast, Int.toNat_natCast]
  have e : Kzd1.answer (.pick k t l) = match Kzd1.pick (bales l) k t with
    | none => say (-33)
    | some s => ⟨(off (bales l) t s / kgOf (bales l) s : Nat), s⟩ := if_neg h
  have e2 : Kzd1.pick (bales l) k t = none := by
    unfold Kzd1.pick Kzd1.all
    rw [(picks_nil k _).mpr (by rw [List.length_range, bales_len]; exact hk)]
  rw [e, e2]
  rfl
theorem pick_ok {k t : Nat} {l : List Nat} (h : ¬ (good l = false ∨ k < 1 ∨ 9 < k ∨ 500 < t)) {x : List Nat} {r : List (List Nat)} (hx : grown (l.length / 2) k = x :: r) {s : List Nat} (hs : r.foldl (better (bales l) t) x = s) :
    PyKzd1.pick (k : Int) (t : Int) (toZ l) = ((off (bales l) t s / kgOf (bales l) s : Nat) : Int) :: toZ s := by
  rw [pick_due, nats_ints, Int.toNat_natCast, Int.toNat_natCast]
  have e : Kzd1.answer (.pick k t l) = match Kzd1.pick (bales l) k t with
    | none => say (-33)
    | some s => ⟨(off (bales l) t s / kgOf (bales l) s : Nat), s⟩ := if_neg h
  have e2 : Kzd1.pick (bales l) k t = some s := by
    unfold Kzd1.pick Kzd1.all
    rw [bales_len, ← grown_is, hx, ← hs]
    rfl
  rw [e, e2]
theorem fold_mem {α : Type} {f : α → α → α} (hf : ∀ a b, f a b = a ∨ f a b = b) : ∀ (r : List α) (x : α), r.foldl f x ∈ x :: r
  | [], x => List.mem_singleton.mpr rfl
  | y :: r, x => by
    show r.foldl f (f x y) ∈ _
    have h := fold_mem hf r (f x y)
    rcases List.mem_cons.mp h with h | h
    · rcases hf x y with e | e
      · rw [h, e]
        exact List.mem_cons_self
      · rw [h, e]
        exact List.mem_cons_of_mem _ List.mem_cons_self
    · exact List.mem_cons_of_mem _ (List.mem_cons_of_mem _ h)
theorem better_or (l : List Bale) (t : Nat) (a b : List Nat) : better l t a b = a ∨ better l t a b = b := by
  unfold better
  split
  · exact .inr rfl
  · exact .inl rfl
end Bal
set_option Elab.async false
set_option linter.all false
set_option maxRecDepth 100000
set_option maxHeartbeats 4000000
namespace L2
open PySem PySem.Spec PyProof.Rows
theorem cut2_bounds (c n : Nat) : sliceBounds (some (c : Int)) none (some 2) n = (((min c n : Nat) : Int), (n : Int), 2) := by
  have e : ¬ ((c : Int) < 0) := by omega
  simp only [sliceBounds, Option.getD_some, if_neg e, if_pos (show (2 : Int) > 0 by decide)]
  have e2 : max 0 (min (c : Int) (n : Int)) = ((min c n : Nat) : Int) := by omega
  rw [e2]
theorem cut2_range (a n : Nat) (h : a ≤ n) : sliceRange (a : Int) (n : Int) 2 = (List.range ((n - a + 1) / 2)).map fun k => a + 2 * k := by
  unfold sliceRange
  have e : ((if (2 : Int) > 0 then (if (a : Int) < (n : Int) then ((n : Int) - a + 2 - 1) / 2 else 0) else (if (a : Int) > (n : Int) then ((a : Int) - n - 2 - 1) / (-2) else 0)) : Int).toNat = (n - a + 1) / 2 := by
    rw [if_pos (show (2 : Int) > 0 by decide)]
    by_cases c : (a : Int) < (n : Int)
    · rw [if_pos c]
      omega
    · rw [if_neg c]
      omega
  show (List.range (Int.toNat _)).map _ = _
  rw [e]
  apply List.map_congr_left
  intro k _
  show ((a : Int) + 2 * (k : Int)).toNat = a + 2 * k
  omega
theorem cut2_pick (items : Array Value) (c : Nat) : slicePick items (some (c : Int)) none (some 2) = (Bal.ev (items.toList.drop c)).toArray := by
  unfold slicePick
  rw [cut2_bounds]
  show (List.filterMap _ (sliceRange ((min c items.size : Nat) : Int) (items.size : Int) 2)).toArray = _
  rw [cut2_range _ _ (Nat.min_le_right _ _), List.filterMap_map, ← Bal.everyRange]
  have hl : ((items.toList.drop c).length + 1) / 2 = (items.size - min c items.size + 1) / 2 := by
    rw [List.length_drop, Array.length_toList]
    by_cases h : c ≤ items.size
    · rw [Nat.min_eq_left h]
    · have e1 : min c items.size = items.size := Nat.min_eq_right (by omega)
      rw [e1]
      omega
  rw [hl]
  refine congrArg List.toArray (Bal.fm_congr fun k hk => ?_)
  have hk := List.mem_range.mp hk
  show items[min c items.size + 2 * k]? = (items.toList.drop c)[2 * k]?
  rw [List.getElem?_drop, Array.getElem?_toList]
  by_cases h : c ≤ items.size
  · rw [Nat.min_eq_left h]
  · have e1 : min c items.size = items.size := Nat.min_eq_right (by omega)
    rw [e1] at hk ⊢
    omega
theorem Vals.ev : ∀ {xs : List V} {us : List Value}, Vals xs us → Vals (Bal.ev xs) (Bal.ev us)
  | _, _, .nil => .nil
  | _, _, .cons r .nil => .cons r .nil
  | _, _, .cons r (.cons _ t) => .cons r (Vals.ev t)
section
variable {X : Cx}
/-- xs[c::2] -/
def tCut2 (K : PySem.W.Frag) (c : Nat) (te : TE) : TE := fun σ H Q => te σ H fun x H1 => ∃ a xs, x = .ref a ∧ SqL K H1 a xs ∧ ∀ p, H1 p = none → Q (.ref p) (upd H1 p (.lst (Bal.ev (xs.drop c))))
theorem pe_cut2 {e : Expr} {te : TE} {k k0 : Nat} {i : Int} {p0 p1 p3 pos : Pos} (c : Nat) (hi : i = (c : Int)) (he : PE X e te) :
    PE X (.Subscript e (.Slice (some (.Constant (.int i) k0 p0)) none (some (.Constant (.int 2) k p1)) p3) pos) (tCut2 X.K c te) := by
  refine ⟨fun pins s σ H Q I h => ?_⟩
  refine Subscript_ (thn (he.run pins s σ H _ I h) fun v s1 ⟨x, H1, I1, r1, q1⟩ => ?_)
  obtain ⟨a, xs, ex, hx, q⟩ := q1
  subst ex
  cases r1
  have hlo : PO X (some (.Constant (.int i) k0 p0)) (tPart (tC (.int i))) := po_some pe_int
  have hst : PO X (some (.Constant (.int 2) k p1)) (tPart (tC (.int 2))) := po_some pe_int
  refine wpAny_Slice (thn (hlo.run pins s1 σ H1 (fun o H2 => o = some i ∧ H2 = H1) I1 ⟨i, rfl, rfl, rfl⟩) fun vl s2 ⟨l, H2, I2, pl, el, e2⟩ => ?_)
  subst el e2
  refine thn (po_none.run pins s2 σ H2 (fun o H3 => o = none ∧ H3 = H2) I2 ⟨rfl, rfl⟩) fun vu s3 ⟨u, H3, I3, pu, eu, e3⟩ => ?_
  subst eu e3
  refine thn (hst.run pins s3 σ H3 (fun o H4 => o = some 2 ∧ H4 = H3) I3 ⟨2, rfl, rfl, rfl⟩) fun vs s4 ⟨o, H4, I4, ps, eo, e4⟩ => ?_
  subst eo e4
  have I5 : Inv X pins σ H4 { s4 with heap := s4.heap.push { cls := .type "slice", data := .fields #[vl, vu, vs] } } := I4.kept (t' := s4.toks) fun b ob q => Heap.get?_push_of_some _ q
  obtain ⟨its, r, ht, hz⟩ := I5.list hx
  have hlen := r.length
  show wpAny (model X.prog X.w) X.A (subscriptTail e (.Slice (some (.Constant (.int i) k0 p0)) none (some (.Constant (.int 2) k p1)) p3) (.ref a) (.ref s4.heap.objs.size)) (EP X pins σ Q) X.xe { s4 with heap := s4.heap.push { cls := .type "slice", data := .fields #[vl, vu, vs] } }
  refine tail_any (ops := [.ref a, .ref s4.heap.objs.size]) ht.isList.typeIs (PySem.slot_list_getitem.lookup) ?_ (by with_unfolding_all rfl)
  refine wpAny_getItem_list_slice ht.isList (Heap.IsSliceOf.new _ vl vu vs) pl pu ps (by decide) ?_ (by rw [List.size_toArray]; omega)
  rw [hi, cut2_pick]
  refine ⟨.ref _, _, I5.laid (t' := s4.toks) (o := .lst (Bal.ev (xs.drop c))) (fun b ob q => Heap.get?_push_of_some _ q) (Nat.le_refl _) ?_, rfl, q _ (I5.hok.fresh (Nat.le_refl _))⟩
  refine ⟨?_, _, 0, (r.drop c).ev, Heap.get?_push_size _ rfl⟩
  have h1 := Bal.everyLen (xs.drop c)
  rw [List.length_drop] at h1
  omega
end
end L2
set_option Elab.async false
set_option linter.all false
set_option maxRecDepth 100000
set_option maxHeartbeats 2000000
namespace Evl
open PySem L2
section
variable {K : PySem.W.Frag} {σ : L2.St} {H H' : Hp} {ta tb te tx : TE} {t u : TT} {x y z v : V} {D : Ends} {tu tw tz : TS} {g : TG}
theorem el_cut2 {a : Addr} {xs : List V} {c : Nat} (h : Ev te σ H (.ref a)) (hs : SqL K H a xs) : EvL (tCut2 K c te) σ H (Bal.ev (xs.drop c)) := fun H1 e _ q =>
  h H1 e _ fun H2 e2 => ⟨a, xs, rfl, ex_l (e.trans e2) hs, fun p hp => q p _ (fresh_back e2 hp) (e2.trans (Ex.new hp)) upd_same⟩
theorem el_is {xs ys : List V} (h : EvL te σ H xs) (e : xs = ys) : EvL te σ H ys := by
  rw [← e]
  exact h
theorem ev_sumN {ns : List Int} {n : Int} (h : EvL te σ H (ns.map V.int)) (e : ns.sum = n) : Ev (tCB (rSum K) (tCons te tNil)) σ H (.int n) := fun H1 e1 Q q =>
  h H1 e1 _ fun p H2 _ e2 hp => ⟨p, ns, rfl, sq_of hp, by rw [e]; exact q H2 e2⟩
theorem ev_sum {a : Addr} {xs : List V} {ns : List Int} {n : Int} (h : Ev te σ H (.ref a)) (hs : SqL K H a xs) (ex : xs = ns.map V.int) (e : ns.sum = n) : Ev (tCB (rSum K) (tCons te tNil)) σ H (.int n) := fun H1 e1 Q q =>
  h H1 e1 _ fun H2 e2 => ⟨a, ns, rfl, by rw [← ex]; exact ex_l (e1.trans e2) hs, by rw [e]; exact q H2 e2⟩
theorem ev_max {a : Addr} {xs : List V} {ns : List Int} {n : Int} (h : Ev te σ H (.ref a)) (hs : SqL K H a xs) (ex : xs = ns.map V.int) (h0 : 0 < ns.length) (e : ∀ m, m ∈ ns → (∀ y, y ∈ ns → y ≤ m) → m = n) : Ev (tCB (rMax K) (tCons te tNil)) σ H (.int n) := fun H1 e1 Q q =>
  h H1 e1 _ fun H2 e2 => ⟨a, ns, rfl, by rw [← ex]; exact ex_l (e1.trans e2) hs, h0, fun m h1 h2 => by rw [e m h1 h2]; exact q H2 e2⟩
/-- for x, y in zip(new list, new list), whose body changes nothing that stands -/
theorem s_forZNN {ix iy : Nat} {xs ys : List V} (h1 : EvL ta σ H xs) (h2 : EvL tb σ H ys) (hl : xs.length = ys.length) (Pv : Nat → L2.St → Prop) (h0 : Pv 0 σ)
    (hs : ∀ i x y σ' H' (N : L2.St → Hp → Prop), xs[i]? = some x → ys[i]? = some y → Pv i σ' → Ex H H' → (∀ σ2 H2, Ex H' H2 → Pv (i + 1) σ2 → N σ2 H2) →
      tu { D with nx := N, ct := N, bk := D.nx } ((σ'.set ix (some x)).set iy (some y)) H')
    (hd : ∀ σ' H', Pv xs.length σ' → Ex H H' → D.nx σ' H') : tFor (iZip K (tCons ta (tCons tb tNil))) (gTup K 2 (gCons (gName ix) (gCons (gName iy) gNil))) tu D σ H :=
  h1 H (Ex.refl H) _ fun p H1 _ e1 hp => h2 H1 e1 _ fun q H2 _ e2 hq => by
    have hp2 : H2 p = some (.lst xs) := e2 p _ hp
    refine ⟨p, q, xs, ys, rfl, sq_of hp2, sq_of hq, ?_⟩
    refine for_it (walk_zip (xs := xs) (ys := ys) (n := xs.length) (by omega)) (fun i σ' H' => Ex H2 H' ∧ Pv i σ') ⟨Ex.refl H2, h0⟩ (fun i σ' H' _ w => ⟨ex_l w.1 (sq_of hp2), ex_l w.1 (sq_of hq)⟩) (fun i v σ' H3 H4 hi w y => ?_) fun σ' H3 w => hd σ' H3 w.2 ((e1.trans e2).trans w.1)
    obtain ⟨T, x', y', rfl, hT, rfl, f1, f2⟩ := y
    refine ⟨T, [x', y'], rfl, st_of upd_same, rfl, x', [y'], rfl, y', [], rfl, rfl, ?_⟩
    have eT : Ex H3 (upd H3 T (.tup [x', y'])) := Ex.new hT
    exact hs i x' y' σ' _ _ f1 f2 w.2 (((e1.trans e2).trans w.1).trans eT) fun σ2 H5 e5 k => ⟨(w.1.trans eT).trans e5, k⟩
theorem q_forZNN {ix iy : Nat} {xs ys : List V} (h1 : EvL ta σ H xs) (h2 : EvL tb σ H ys) (hl : xs.length = ys.length) (Pv : Nat → L2.St → Prop) (h0 : Pv 0 σ)
    (hs : ∀ i x y σ' H' (N : L2.St → Hp → Prop), xs[i]? = some x → ys[i]? = some y → Pv i σ' → Ex H H' → (∀ σ2 H2, Ex H' H2 → Pv (i + 1) σ2 → N σ2 H2) →
      tu { D with nx := N, ct := N, bk := tz D } ((σ'.set ix (some x)).set iy (some y)) H')
    (hd : ∀ σ' H', Pv xs.length σ' → Ex H H' → tz D σ' H') : tSeq (tFor (iZip K (tCons ta (tCons tb tNil))) (gTup K 2 (gCons (gName ix) (gCons (gName iy) gNil))) tu) tz D σ H :=
  s_forZNN (D := { D with nx := tz D }) h1 h2 hl Pv h0 hs hd
/-- [.. for x, y in zip(xs, ys)] -/
theorem el_lcZ {tA : TA} {a b : Addr} {xs ys : List V} {j1 j2 : Nat} {vs : List Nat} (f : Nat → V) (h : EvA tA σ H [.ref a, .ref b]) (hx : SqL K H a xs) (hy : SqL K H b ys) (hl : xs.length = ys.length) (hz : xs.length ≤ 40000)
    (hw : ∀ x y, wipe (((wipe σ vs).set j1 (some x)).set j2 (some y)) vs = wipe σ vs)
    (he : ∀ (i : Nat) (x y : V) H1, Ex H H1 → xs[i]? = some x → ys[i]? = some y → Ev te (((wipe σ vs).set j1 (some x)).set j2 (some y)) H1 (f i)) :
    EvL (tLc (iZip K tA) (gTup K 2 (gCons (gName j1) (gCons (gName j2) gNil))) tYes te vs) σ H ((List.range xs.length).map f) := fun H0 e Q q => h H0 e _ fun H1 e1 => by
  have hx1 := ex_l (e.trans e1) hx
  have hy1 := ex_l (e.trans e1) hy
  refine ⟨a, b, xs, ys, rfl, hx1, hy1, fun Dl hD => ?_⟩
  refine lc_it (walk_zip (xs := xs) (ys := ys) (n := xs.length) (by omega)) (fun i H' => Ex H1 H' ∧ H' Dl = some (.lst ((List.range i).map f))) ⟨Ex.new hD, upd_same⟩ (fun i H' _ w => ⟨ex_l w.1 hx1, ex_l w.1 hy1⟩) (fun i v H2 H3 hi w y => ?_)
    fun H' w => q Dl H' (fresh_back e1 hD) (e1.trans w.1) w.2
  obtain ⟨T, x', y', rfl, hT, rfl, f1, f2⟩ := y
  refine ⟨T, [x', y'], rfl, st_of upd_same, rfl, x', [y'], rfl, y', [], rfl, rfl, ?_⟩
  refine ⟨hw x' y', ?_⟩
  have eT : Ex H2 (upd H2 T (.tup [x', y'])) := Ex.new hT
  have eA : Ex H (upd H2 T (.tup [x', y'])) := ((e.trans e1).trans w.1).trans eT
  show te _ _ _
  refine he i x' y' _ eA f1 f2 _ (Ex.refl _) _ fun H4 e4 => ?_
  refine ⟨(List.range i).map f, e4 Dl _ (eT Dl _ w.2), sz_lt (by rw [List.length_map, List.length_range]; omega), Ex.mut ((w.1.trans eT).trans e4) hD, ?_⟩
  rw [upd_same, List.range_succ, List.map_append]
  rfl
end
end Evl
set_option Elab.async false
set_option linter.all false
set_option maxRecDepth 100000
set_option maxHeartbeats 2000000
namespace Evl
open PySem L2
section
variable {K : PySem.W.Frag} {σ : L2.St} {H H' : Hp} {ta tb te tx : TE} {t u : TT} {x y z v : V} {D : Ends} {tu tw tz : TS} {g : TG}
/-- a value of which P holds, in the heap behind -/
def EvP (te : TE) (σ : L2.St) (H : Hp) (P : Hp → V → Hp → Prop) : Prop := ∀ H1, Ex H H1 → ∀ Q : VK, (∀ v H2, Ex H1 H2 → P H1 v H2 → Q v H2) → te σ H1 Q
theorem q_asgP {i : Nat} {P : Hp → V → Hp → Prop} (h : EvP te σ H P) (k : ∀ v H1, Ex H H1 → P H v H1 → tz D (σ.set i (some v)) H1) : tSeq (tAsg te (gName i)) tz D σ H := h H (Ex.refl H) _ fun v H1 e p => k v H1 e p
theorem s_retP {P : Hp → V → Hp → Prop} (h : EvP te σ H P) (k : ∀ v H1, Ex H H1 → P H v H1 → D.rt v H1) : tRet te D σ H := h H (Ex.refl H) _ fun v H1 e p => k v H1 e p
def SpP (sp : Sp) (vs : List V) (H : Hp) (P : Hp → V → Hp → Prop) : Prop := ∀ H1, Ex H H1 → ∀ Q : VK, (∀ v H2, Ex H1 H2 → P H1 v H2 → Q v H2) → ∀ E : XK, sp vs H1 Q E
theorem ep_call {sp : Sp} {dvs vs : List V} {E : XK} {ta : TA} {P : Hp → V → Hp → Prop} (h : EvA ta σ H vs) (hP : ∀ {H1 H2 H3 v}, Ex H1 H2 → P H2 v H3 → P H1 v H3) (hs : SpP sp (vs ++ dvs) H P) : EvP (tCall sp dvs E ta) σ H P := fun H1 e Q q =>
  h H1 e _ fun H2 e2 => hs H2 (e.trans e2) Q (fun v H3 e3 p => q v H3 (e2.trans e3) (hP e2 p)) E
/-- a list that stands + a new one; a new one + one that stands -/
theorem el_catVL {l : Addr} {xs ys : List V} (ha : Ev ta σ H (.ref l)) (hl : H l = some (.lst xs)) (hb : EvL tb σ H ys) (hz : xs.length + ys.length ≤ 100000) : EvL (tOp rCat ta tb) σ H (xs ++ ys) := fun H1 e Q q =>
  ha H1 e _ fun H2 e2 => hb H2 (e.trans e2) _ fun p H3 _ e3 hp => ⟨l, p, xs, ys, rfl, rfl, ((e.trans e2).trans e3) l _ hl, hp, sz_of hz, fun r hr =>
    q r _ (fresh_back (e2.trans e3) hr) ((e2.trans e3).trans (Ex.new hr)) upd_same⟩
theorem el_catLV {l : Addr} {xs ys : List V} (ha : EvL ta σ H xs) (hb : Ev tb σ H (.ref l)) (hl : H l = some (.lst ys)) (hz : xs.length + ys.length ≤ 100000) : EvL (tOp rCat ta tb) σ H (xs ++ ys) := fun H1 e Q q =>
  ha H1 e _ fun p H2 _ e2 hp => hb H2 (e.trans e2) _ fun H3 e3 => ⟨p, l, xs, ys, rfl, rfl, e3 p _ hp, ((e.trans e2).trans e3) l _ hl, sz_of hz, fun r hr =>
    q r _ (fresh_back (e2.trans e3) hr) ((e2.trans e3).trans (Ex.new hr)) upd_same⟩
/-- xs.extend(a new list) -/
theorem s_extL {l : Addr} {xs ys : List V} (hl : H l = some (.lst xs)) (ha : Ev ta σ H (.ref l)) (h : EvL te σ H ys) (hz : xs.length + ys.length ≤ 100000) (k : ∀ H1, Ex H H1 → D.nx σ (upd H1 l (.lst (xs ++ ys)))) :
    tDrop (tBM K "list" rExtend ta (tCons te tNil)) D σ H := ha H (Ex.refl H) _ fun H1 e1 =>
  ⟨Or.inl ⟨rfl, xs, sq_of (e1 l _ hl)⟩, h H1 e1 _ fun p H2 hp e2 h2 => ⟨l, p, xs, ys, rfl, rfl, (e1.trans e2) l _ hl, h2, sz_of hz, k H2 (e1.trans e2)⟩⟩
/-- calls that give a new tuple -/
def SpU (sp : Sp) (vs : List V) (H : Hp) (xs : List V) : Prop := ∀ H1, Ex H H1 → ∀ Q : VK, (∀ p H2, H1 p = none → Ex H1 H2 → H2 p = some (.tup xs) → Q (.ref p) H2) → ∀ E : XK, sp vs H1 Q E
theorem eu_call {sp : Sp} {dvs vs xs : List V} {E : XK} {ta : TA} (h : EvA ta σ H vs) (hs : SpU sp (vs ++ dvs) H xs) : EvU (tCall sp dvs E ta) σ H xs := fun H1 e Q q =>
  h H1 e _ fun H2 e2 => hs H2 (e.trans e2) Q (fun p H3 hp e3 h3 => q p H3 (fresh_back e2 hp) (e2.trans e3) h3) E
/-- f(x, a new list) gives a new tuple -/
theorem eu_callVL {sp : Sp} {dvs xs ys : List V} {E : XK} (h1 : Ev ta σ H x) (h2 : EvL tb σ H ys) (hs : ∀ q H1, H1 q = some (.lst ys) → Ex H H1 → SpU sp ([x, .ref q] ++ dvs) H1 xs) : EvU (tCall sp dvs E (tCons ta (tCons tb tNil))) σ H xs := fun H1 e Q k =>
  h1 H1 e _ fun H2 e2 => h2 H2 (e.trans e2) _ fun q H3 _ e3 h3 => hs q H3 h3 ((e.trans e2).trans e3) H3 (Ex.refl H3) Q (fun p H4 hp e4 h4 => k p H4 (fresh_back (e2.trans e3) hp) ((e2.trans e3).trans e4) h4) E
/-- f(a new tuple, a new tuple) gives a value -/
theorem ev_callUU {sp : Sp} {dvs xs ys : List V} {E : XK} (h1 : EvU ta σ H xs) (h2 : EvU tb σ H ys) (hs : ∀ p q H1, H1 p = some (.tup xs) → H1 q = some (.tup ys) → Ex H H1 → SpV sp ([.ref p, .ref q] ++ dvs) H1 z) : Ev (tCall sp dvs E (tCons ta (tCons tb tNil))) σ H z := fun H1 e Q k =>
  h1 H1 e _ fun p H2 _ e2 hp => h2 H2 (e.trans e2) _ fun q H3 _ e3 hq => hs p q H3 (e3 p _ hp) hq ((e.trans e2).trans e3) H3 (Ex.refl H3) Q (fun H4 e4 => k H4 ((e2.trans e3).trans e4)) E
/-- the items are values, one of them a new list -/
theorem el_lst1 {xs : List V} (h : EvL te σ H xs) : EvP (tLst (tCons te tNil)) σ H fun H1 v H2 => ∃ p q, v = .ref p ∧ H1 p = none ∧ H2 p = some (.lst [.ref q]) ∧ H2 q = some (.lst xs) ∧ p ≠ q := fun H1 e Q k =>
  h H1 e _ fun q H2 hq e2 h2 => ⟨sz_of (show 1 ≤ 100000 by decide), fun p hp => k _ _ (e2.trans (Ex.new hp)) ⟨p, q, rfl, fresh_back e2 hp, upd_same, by
    rw [upd_ne (ne_of_none h2 hp)]
    exact h2, fun z => by
      rw [z, h2] at hp
      cases hp⟩⟩
/-- abs -/
theorem ev_abs {r : List V → Hp → VK → Prop} {i j : Int} (hr : r = fun xs H Q => ∃ i, xs = [.int i] ∧ Q (.int (if i < 0 then -i else i)) H) (h : Ev te σ H (.int i)) (e : (if i < 0 then -i else i) = j) : Ev (tCB r (tCons te tNil)) σ H (.int j) := fun H1 e1 Q q =>
  h H1 e1 _ fun H2 e2 => by
    subst hr
    refine ⟨i, rfl, ?_⟩
    rw [e]
    exact q H2 e2
/-- the first item left out -/
theorem cut_tail (xs : List V) : cutV xs (some 1) none = xs.drop 1 := by
  show (xs.drop (min 1 xs.length)).take (xs.length - min 1 xs.length) = _
  cases xs with
  | nil => rfl
  | cons a r =>
    rw [List.length_cons, Nat.min_eq_left (by omega), List.drop_succ_cons, List.drop_zero]
    show List.take (r.length + 1 - 1) r = r
    rw [Nat.add_sub_cancel, List.take_length]
theorem cut_two (xs : List V) (i : Nat) : cutV xs (some ((2 * i : Nat) : Int)) (some ((2 * i + 2 : Nat) : Int)) = (xs.drop (2 * i)).take 2 := by
  show (xs.drop (HT.sIx xs.length 0 (some ((2 * i : Nat) : Int)))).take (HT.sIx xs.length xs.length (some ((2 * i + 2 : Nat) : Int)) - HT.sIx xs.length 0 (some ((2 * i : Nat) : Int))) = _
  rw [HT.sIx_nat, HT.sIx_nat]
  by_cases h : 2 * i ≤ xs.length
  · rw [Nat.min_eq_left h]
    by_cases h2 : 2 * i + 2 ≤ xs.length
    · rw [Nat.min_eq_left h2, show 2 * i + 2 - 2 * i = 2 by omega]
    · rw [Nat.min_eq_right (by omega), List.take_of_length_le (by rw [List.length_drop]; exact Nat.le_refl _), List.take_of_length_le (by rw [List.length_drop]; omega)]
  · rw [Nat.min_eq_right (by omega), Nat.min_eq_right (by omega), List.drop_eq_nil_of_le (Nat.le_refl _), List.drop_eq_nil_of_le (by omega), List.take_nil, List.take_nil]
end
end Evl
set_option Elab.async false
set_option linter.all false
set_option maxRecDepth 100000
set_option maxHeartbeats 4000000
namespace Bal
open PySem PySem.Spec PyProof.Rows
abbrev topS (i : Nat) : Stmt := PySem.Challenge.pw_balelayer_s02_pick.main.body.getD i (.Pass ⟨0, 0, 0, 0⟩)
abbrev sTold : Stmt := topS 5
abbrev sAllKg : Stmt := topS 6
abbrev sWeighed : Stmt := topS 7
abbrev sChoices : Stmt := topS 8
abbrev sOnly : Stmt := topS 9
abbrev sHowFar : Stmt := topS 10
abbrev sLess : Stmt := topS 11
abbrev sNearest : Stmt := topS 12
abbrev sPick : Stmt := topS 13
end Bal
set_option Elab.async false
set_option linter.all false
set_option maxRecDepth 100000
set_option maxHeartbeats 4000000
namespace Evl
open PySem L2
section
variable {K : PySem.W.Frag} {σ : L2.St} {H H' : Hp} {ta tb te tx : TE} {t u : TT} {x y z v : V} {D : Ends} {tu tw tz : TS} {g : TG}
/-- [.. for x, y in zip(new list, new list)] -/
theorem el_lcZNN {xs ys : List V} {j1 j2 : Nat} {vs : List Nat} (f : Nat → V) (h1 : EvL ta σ H xs) (h2 : EvL tb σ H ys) (hl : xs.length = ys.length) (hz : xs.length ≤ 40000)
    (hw : ∀ x y, wipe (((wipe σ vs).set j1 (some x)).set j2 (some y)) vs = wipe σ vs)
    (he : ∀ (i : Nat) (x y : V) H1, Ex H H1 → xs[i]? = some x → ys[i]? = some y → Ev te (((wipe σ vs).set j1 (some x)).set j2 (some y)) H1 (f i)) :
    EvL (tLc (iZip K (tCons ta (tCons tb tNil))) (gTup K 2 (gCons (gName j1) (gCons (gName j2) gNil))) tYes te vs) σ H ((List.range xs.length).map f) := fun H0 e Q q => h1 H0 e _ fun a H1 _ e1 ha => h2 H1 (e.trans e1) _ fun b H2 _ e2 hb => by
  have hx1 : SqL K H2 a xs := sq_of (e2 a _ ha)
  have hy1 : SqL K H2 b ys := sq_of hb
  refine ⟨a, b, xs, ys, rfl, hx1, hy1, fun Dl hD => ?_⟩
  refine lc_it (walk_zip (xs := xs) (ys := ys) (n := xs.length) (by omega)) (fun i H' => Ex H2 H' ∧ H' Dl = some (.lst ((List.range i).map f))) ⟨Ex.new hD, upd_same⟩ (fun i H' _ w => ⟨ex_l w.1 hx1, ex_l w.1 hy1⟩) (fun i v H3 H4 hi w y => ?_)
    fun H' w => q Dl H' (fresh_back (e1.trans e2) hD) ((e1.trans e2).trans w.1) w.2
  obtain ⟨T, x', y', rfl, hT, rfl, f1, f2⟩ := y
  refine ⟨T, [x', y'], rfl, st_of upd_same, rfl, x', [y'], rfl, y', [], rfl, rfl, ?_⟩
  refine ⟨hw x' y', ?_⟩
  have eT : Ex H3 (upd H3 T (.tup [x', y'])) := Ex.new hT
  have eA : Ex H (upd H3 T (.tup [x', y'])) := (((e.trans e1).trans e2).trans w.1).trans eT
  show te _ _ _
  refine he i x' y' _ eA f1 f2 _ (Ex.refl _) _ fun H5 e5 => ?_
  refine ⟨(List.range i).map f, e5 Dl _ (eT Dl _ w.2), sz_lt (by rw [List.length_map, List.length_range]; omega), Ex.mut ((w.1.trans eT).trans e5) hD, ?_⟩
  rw [upd_same, List.range_succ, List.map_append]
  rfl
end
end Evl
namespace Bal
open PySem PySem.Spec PyProof.Rows L2 Evl
theorem scT : FnScope ["bales", "kilograms", "length"] ["bales"] (defScope sTold) := ⟨rfl, rfl, rfl, by decide +kernel, rfl, by decide +kernel, by decide +kernel⟩
theorem scK : FnScope ["bales"] ["bales"] (defScope sAllKg) := ⟨rfl, rfl, rfl, by decide +kernel, rfl, by decide +kernel, by decide +kernel⟩
theorem scW : FnScope ["bales", "weight", "length"] ["bales"] (defScope sWeighed) := ⟨rfl, rfl, rfl, by decide +kernel, rfl, by decide +kernel, by decide +kernel⟩
def vn (n : Nat) : V := .int (n : Int)
/-- what the top has written of names -/
structure Txt (mg : Str → Option Value) : Prop where
  len : mg "len" = none
  zip : mg "zip" = none
  sum : mg "sum" = none
  mb : ∃ t, mg "MOST_BALES" = some (.int 9 t)
  lk : ∃ t, mg "LEAST_KILOGRAMS" = some (.int 1 t)
  mkg : ∃ t, mg "MOST_KILOGRAMS" = some (.int 300 t)
  lf : ∃ t, mg "LONGEST_FIBRES" = some (.int 500 t)
section
variable {P : Program} {w : World} {K : PySem.W.Frag} {mg : Str → Option Value} {base : Heap}
def spTold (K : PySem.W.Frag) : Sp := fun vs H Q _ => ∃ (a : Addr) (l : List Nat), vs = [.ref a] ∧ SqL K H a (l.map vn) ∧ l.length ≤ 20 ∧ ∀ H', Ex H H' → Q (.bl (Kzd1.good l)) H'
theorem kgV {l : List Nat} (h : l.length % 2 = 0) : ev ((l.map vn).drop 0) = (Kzd1.bales l).map fun b => vn b.kg := by
  rw [List.drop_zero, everyMap, ev_kg l h, List.map_map]
  rfl
theorem longV {l : List Nat} (h : l.length % 2 = 0) : ev ((l.map vn).drop 1) = (Kzd1.bales l).map fun b => vn b.long := by
  rw [← List.map_drop, everyMap, od_long l h, List.map_map]
  rfl
theorem map_at {α β : Type} {g : α → β} {l : List α} {i : Nat} {y : β} (h : (l.map g)[i]? = some y) : ∃ x, l[i]? = some x ∧ y = g x := by
  rw [List.getElem?_map] at h
  cases e : l[i]? with
  | none =>
    rw [e] at h
    cases h
  | some x =>
    rw [e] at h
    exact ⟨x, rfl, (Option.some.inj h).symm⟩
theorem take_more {α : Type} {l : List α} {i : Nat} {x : α} (h : l[i]? = some x) : l.take (i + 1) = l.take i ++ [x] := by
  rw [List.take_add_one, h]
  rfl
theorem ok_told {f : Addr} {fd : FuncData} {k : Nat} (F : Fun K "are_as_told" "are_as_told" sTold f fd) (T : Txt mg) : FnOk P w K mg base CX0 (k + 1) f fd ["bales"] (spTold K) := by
  refine F.ok scT (fun vs H Q E h => ?_) (fun cdv A outer s H vs Q E hr h => ?_)
  · obtain ⟨a, l, rfl, _⟩ := h
    rfl
  · obtain ⟨a, l, rfl, hS, hlen, q⟩ := h
    obtain ⟨tmb, gmb⟩ := T.mb
    obtain ⟨tlk, glk⟩ := T.lk
    obtain ⟨tmk, gmk⟩ := T.mkg
    obtain ⟨tlf, glf⟩ := T.lf
    refine ⟨_, pss_cons (ps_if (PW.pt (pw_or (pt_cmpR op_ne (pe_op op_mod (pe_callB call_len_seq (by rfl) T.len PySem.boot_len (pa_cons (pv 0) pa_nil)) pe_int) pe_int (nomark _))
          (pw_or1 (pt_cmpR op_gt (pe_callB call_len_seq (by rfl) T.len PySem.boot_len (pa_cons (pv 0) pa_nil)) (pe_op op_mul pe_int (pe_glob (v := .int 9) rfl gmb ⟨tmb, rfl⟩)) (nomark _)))))
        (pss_one (ps_ret pe_bl)) pss_nil)
      (pss_cons (ps_for PassesOwn.never rfl (pi_zip (by rfl) T.zip (pa_cons (pe_cut2 0 rfl (pv 0)) (pa_cons (pe_cut2 1 rfl (pv 0)) pa_nil)))
          (pg_tup rfl (pgs_cons (pg_name (i := 1) scT.nd rfl (.inl rfl)) (pgs_cons (pg_name (i := 2) scT.nd rfl (.inl rfl)) pgs_nil)))
        (pss_cons (ps_if (PW.pt (pw_or (pt_cmpR op_lt (pv 1) (pe_glob (v := .int 1) rfl glk ⟨tlk, rfl⟩) (nomark _)) (pw_or1 (pt_cmpR op_gt (pv 1) (pe_glob (v := .int 300) rfl gmk ⟨tmk, rfl⟩) (nomark _)))))
            (pss_one (ps_ret pe_bl)) pss_nil)
          (pss_one (ps_if (PW.pt (pw_or (pt_cmpR op_lt (pv 2) pe_int (nomark _)) (pw_or1 (pt_cmpR op_gt (pv 2) (pe_glob (v := .int 500) rfl glf ⟨tlf, rfl⟩) (nomark _)))))
            (pss_one (ps_ret pe_bl)) pss_nil))))
      (pss_one (ps_ret pe_bl))), ?_⟩
    have hl : (l.map vn).length = l.length := List.length_map ..
    have fin : ∀ {H' : Hp} {b : Bool}, Ex H H' → b = Kzd1.good l → Q (.bl b) H' := fun s e => by
      rw [e]
      exact q _ s
    have hlenE : ∀ {σ : L2.St} {H'}, Ex H H' → σ[0]? = some (some (.ref a)) → Ev (tCB (rLenS K) (tCons (tVar 0) tNil)) σ H' (.int (l.length : Int)) := fun e h0 => by
      have z := ev_len (K := K) (ev_var h0) (ex_l e hS)
      rw [hl] at z
      exact z
    -- if len(bales) % 2 != 0 or ..
    refine q_when (b := !decide (l.length % 2 = 0) || decide (18 < l.length)) (et_or (et_test (ev_is (ev_op (ev_op (hlenE (Ex.refl H) rfl) ev_c (rv_I (by show (0 : Int) < 2; decide))) ev_c (rv_ne rfl)) ?_))
      fun _ => et_test (ev_is (ev_op (hlenE (Ex.refl H) rfl) (ev_op ev_c ev_c (rv_I (.inl (by decide)))) rv_I0) ?_)) (fun hb H1 e1 => ?_) (fun hb H1 e1 => ?_)
    · refine congrArg (fun b : Bool => V.bl !b) (decide_eq_decide.mpr ⟨fun z => ?_, fun z => ?_⟩)
      · have := V.int.inj z
        omega
      · rw [show ((l.length : Int) % 2) = 0 by omega]
    · exact congrArg V.bl (decide_eq_decide.mpr (by omega))
    · refine s_ret ev_c fun H2 e2 => fin (e1.trans e2) ?_
      by_cases c : l.length % 2 = 0
      · rw [decide_eq_true c] at hb
        exact (good_long (of_decide_eq_true hb)).symm
      · exact (good_odd c).symm
    · rw [Bool.or_eq_false_iff] at hb
      have c1 : l.length % 2 = 0 := by simpa using hb.1
      have c2 : l.length ≤ 18 := Nat.le_of_not_lt (of_decide_eq_false hb.2)
      have hS1 : SqL K H1 a (l.map vn) := ex_l e1 hS
      refine q_forZNN (ix := 1) (iy := 2) (el_is (el_cut2 (ev_var rfl) hS1) (kgV c1)) (el_is (el_cut2 (ev_var rfl) hS1) (longV c1)) (by rw [List.length_map, List.length_map])
        (fun i σ' => ∃ y1 y2, σ' = [some (.ref a), y1, y2] ∧ ∀ b ∈ (Kzd1.bales l).take i, Kzd1.okBale b = true) ⟨none, none, rfl, fun b hb => by cases hb⟩ ?_ ?_
      · rintro i x y σ' H' N hx hy ⟨y1, y2, rfl, hok⟩ e2 hN
        obtain ⟨b, hb1, rfl⟩ := map_at hx
        obtain ⟨b', hb2, rfl⟩ := map_at hy
        cases hb1.symm.trans hb2
        have bad : Kzd1.okBale b = false → Kzd1.good l = false := fun z => by
          rw [good_eq c1 c2]
          cases q : (Kzd1.bales l).all Kzd1.okBale with
          | false => rfl
          | true =>
            have := List.all_eq_true.mp q b (List.mem_of_getElem? hb1)
            rw [z] at this
            cases this
        refine q_when (b := decide (b.kg < 1) || decide (300 < b.kg)) (et_or (et_test (ev_is (ev_op (ev_var rfl) ev_c rv_I0) ?_)) fun _ => et_test (ev_is (ev_op (ev_var rfl) ev_c rv_I0) ?_)) (fun hc H3 e3 => ?_) (fun hc H3 e3 => ?_)
        · exact congrArg V.bl (decide_eq_decide.mpr (by omega))
        · exact congrArg V.bl (decide_eq_decide.mpr (by omega))
        · refine s_ret ev_c fun H4 e4 => fin (((e1.trans e2).trans e3).trans e4) (bad ?_).symm
          cases q : Kzd1.okBale b with
          | false => rfl
          | true =>
            have := ok_iff.mp q
            rw [decide_eq_false (by omega), decide_eq_false (by omega)] at hc
            cases hc
        · refine s_when (b := decide ((b.long : Int) < 0) || decide (500 < b.long)) (et_or (et_test (ev_op (ev_var rfl) ev_c rv_I0)) fun _ => et_test (ev_is (ev_op (ev_var rfl) ev_c rv_I0) ?_)) (fun hc2 H4 e4 => ?_) (fun hc2 H4 e4 => ?_)
          · exact congrArg V.bl (decide_eq_decide.mpr (by omega))
          · refine s_ret ev_c fun H5 e5 => fin ((((e1.trans e2).trans e3).trans e4).trans e5) (bad ?_).symm
            cases q : Kzd1.okBale b with
            | false => rfl
            | true =>
              have := ok_iff.mp q
              rw [decide_eq_false (by omega), decide_eq_false (by omega)] at hc2
              cases hc2
          · refine hN _ _ (e3.trans e4) ⟨_, _, rfl, fun b2 h2 => ?_⟩
            rw [take_more hb1, List.mem_append, List.mem_singleton] at h2
            rcases h2 with h2 | rfl
            · exact hok b2 h2
            · rw [Bool.or_eq_false_iff] at hc hc2
              have z1 := of_decide_eq_false hc.1
              have z2 := of_decide_eq_false hc.2
              have z3 := of_decide_eq_false hc2.2
              exact ok_iff.mpr ⟨by omega, by omega, by omega⟩
      · rintro σ' H' ⟨y1, y2, rfl, hok⟩ e2
        refine s_ret ev_c fun H3 e3 => fin ((e1.trans e2).trans e3) ?_
        rw [List.length_map, List.take_length] at hok
        rw [good_eq c1 c2]
        exact (List.all_eq_true.mpr hok).symm
theorem spTold_v {a : Addr} {l : List Nat} {H : Hp} (hS : SqL K H a (l.map vn)) (hlen : l.length ≤ 20) : SpV (spTold K) [.ref a] H (.bl (Kzd1.good l)) := fun H1 e Q q E =>
  ⟨a, l, rfl, ex_l e hS, hlen, q⟩
/-- of a list that is whole: what it says of its bales -/
structure Whole (l : List Nat) : Prop where
  even : l.length % 2 = 0
  len : l.length ≤ 20
  ok : ∀ b ∈ Kzd1.bales l, 1 ≤ b.kg ∧ b.kg ≤ 300 ∧ b.long ≤ 500
def kgs (l : List Nat) : Nat := ((Kzd1.bales l).map Kzd1.Bale.kg).sum
def longs (l : List Nat) : Nat := ((Kzd1.bales l).map fun b => b.kg * b.long).sum
theorem vn_ints {α : Type} (g : α → Nat) (l : List α) : (l.map fun b => vn (g b)) = (toZ (l.map g)).map V.int := by
  unfold toZ Kzd1Neutral.ints
  rw [List.map_map, List.map_map]
  rfl
def spKg (K : PySem.W.Frag) : Sp := fun vs H Q _ => ∃ (a : Addr) (l : List Nat), vs = [.ref a] ∧ SqL K H a (l.map vn) ∧ Whole l ∧ RetV (vn (kgs l)) H Q
def spWeighed (K : PySem.W.Frag) : Sp := fun vs H Q _ => ∃ (a : Addr) (l : List Nat), vs = [.ref a] ∧ SqL K H a (l.map vn) ∧ Whole l ∧ RetV (vn (longs l)) H Q
theorem spKg_v {a : Addr} {l : List Nat} {H : Hp} (hS : SqL K H a (l.map vn)) (W : Whole l) : SpV (spKg K) [.ref a] H (vn (kgs l)) := fun H1 e Q q E => ⟨a, l, rfl, ex_l e hS, W, q⟩
theorem spWeighed_v {a : Addr} {l : List Nat} {H : Hp} (hS : SqL K H a (l.map vn)) (W : Whole l) : SpV (spWeighed K) [.ref a] H (vn (longs l)) := fun H1 e Q q E => ⟨a, l, rfl, ex_l e hS, W, q⟩
theorem ok_kg {f : Addr} {fd : FuncData} {k : Nat} (F : Fun K "all_kilograms" "all_kilograms" sAllKg f fd) (T : Txt mg) : FnOk P w K mg base CX0 (k + 1) f fd ["bales"] (spKg K) := by
  refine F.ok scK (fun vs H Q E h => ?_) (fun cdv A outer s H vs Q E hr h => ?_)
  · obtain ⟨a, l, rfl, _⟩ := h
    rfl
  · obtain ⟨a, l, rfl, hS, W, q⟩ := h
    refine ⟨_, pss_one (ps_ret (pe_callB (cr_sum rfl) (by rfl) T.sum boot_sum (pa_cons (pe_cut2 0 rfl (pv 0)) pa_nil))), ?_⟩
    exact s_ret (ev_sumN (el_is (el_is (el_cut2 (ev_var rfl) hS) (kgV W.even)) (vn_ints _ _)) (cast_sum _)) q
theorem ok_weighed {f : Addr} {fd : FuncData} {k : Nat} (F : Fun K "weighed_lengths" "weighed_lengths" sWeighed f fd) (T : Txt mg) : FnOk P w K mg base CX0 (k + 1) f fd ["bales"] (spWeighed K) := by
  refine F.ok scW (fun vs H Q E h => ?_) (fun cdv A outer s H vs Q E hr h => ?_)
  · obtain ⟨a, l, rfl, _⟩ := h
    rfl
  · obtain ⟨a, l, rfl, hS, W, q⟩ := h
    refine ⟨_, pss_one (ps_ret (pe_callB (cr_sum rfl) (by rfl) T.sum boot_sum (pa_cons
          (pe_lc (own := [("weight", 1), ("length", 2)]) (g := gTup K 2 (gCons (gName 1) (gCons (gName 2) gNil))) (by rfl) scW.nd (pi_zip (by rfl) T.zip (pa_cons (pe_cut2 0 rfl (pv 0)) (pa_cons (pe_cut2 1 rfl (pv 0)) pa_nil)))
            (blkOk_by (own := [("weight", 1), ("length", 2)]) (N := ["bales", "weight", "length"]) (sc := defScope sWeighed) (by decide +kernel))
            (fun _ _ _ _ _ => pg_tup rfl (pgs_cons (pg_name (i := 1) scW.nd rfl (.inl rfl)) (pgs_cons (pg_name (i := 2) scW.nd rfl (.inl rfl)) pgs_nil)))
            (fun _ _ _ _ _ => pts_nil) (fun _ _ _ _ _ => pe_op op_mul (pv 1) (pv 2))) pa_nil))), ?_⟩
    have exm : ((List.range ((Kzd1.bales l).map fun b => vn b.kg).length).map fun i => (fun b : Kzd1.Bale => vn (b.kg * b.long)) ((Kzd1.bales l).getD i ⟨0, 0⟩)) = (toZ ((Kzd1.bales l).map fun b => b.kg * b.long)).map V.int := by
      rw [List.length_map]
      refine (over_all (fun b : Kzd1.Bale => vn (b.kg * b.long)) ⟨0, 0⟩ _).trans ?_
      exact vn_ints (fun b : Kzd1.Bale => b.kg * b.long) _
    refine s_ret (v := vn (longs l)) (ev_sumN (el_is (el_lcZNN (fun i => (fun b : Kzd1.Bale => vn (b.kg * b.long)) ((Kzd1.bales l).getD i ⟨0, 0⟩)) (el_is (el_cut2 (ev_var rfl) hS) (kgV W.even)) (el_is (el_cut2 (ev_var rfl) hS) (longV W.even)) ?_ ?_ (fun _ _ => rfl) ?_) exm) (cast_sum _)) q
    · rw [List.length_map, List.length_map]
    · rw [List.length_map, bales_len]
      have := W.len
      omega
    · intro i x y H5 e5 hx hy
      obtain ⟨b, hb1, rfl⟩ := map_at hx
      obtain ⟨b', hb2, rfl⟩ := map_at hy
      cases hb1.symm.trans hb2
      have hb := W.ok b (List.mem_of_getElem? hb1)
      refine ev_is (ev_op (ev_var rfl) (ev_var rfl) (rv_I (.inl (by omega)))) ?_
      rw [List.getD_eq_getElem?_getD, hb1]
      show V.int ((b.kg : Int) * (b.long : Int)) = V.int ((b.kg * b.long : Nat) : Int)
      rw [Int.natCast_mul]
end
end Bal
set_option Elab.async false
set_option linter.all false
set_option maxRecDepth 100000
set_option maxHeartbeats 4000000
namespace Bal
open PySem PySem.Spec PyProof.Rows L2 Evl
theorem scC : FnScope ["k", "count", "choices", "place", "longer", "chosen", "first", "bale"] ["k", "count"] (defScope sChoices) := ⟨rfl, rfl, rfl, by decide +kernel, rfl, by decide +kernel, by decide +kernel⟩
theorem scO : FnScope ["chosen", "bales", "told", "bale"] ["chosen", "bales"] (defScope sOnly) := ⟨rfl, rfl, rfl, by decide +kernel, rfl, by decide +kernel, by decide +kernel⟩
theorem scF : FnScope ["t", "bales", "kilograms"] ["t", "bales"] (defScope sHowFar) := ⟨rfl, rfl, rfl, by decide +kernel, rfl, by decide +kernel, by decide +kernel⟩
theorem scL : FnScope ["one", "other"] ["one", "other"] (defScope sLess) := ⟨rfl, rfl, rfl, by decide +kernel, rfl, by decide +kernel, by decide +kernel⟩
theorem scN : FnScope ["k", "t", "bales", "choices", "best", "chosen"] ["k", "t", "bales"] (defScope sNearest) := ⟨rfl, rfl, rfl, by decide +kernel, rfl, by decide +kernel, by decide +kernel⟩
theorem scP : FnScope ["k", "t", "bales", "chosen", "distance"] ["k", "t", "bales"] (defScope sPick) := ⟨rfl, rfl, rfl, by decide +kernel, rfl, by decide +kernel, by decide +kernel⟩
/-! ### rows of choices -/
abbrev Row := Addr × List Nat
def refsOf (rs : List Row) : List V := rs.map fun r => .ref r.1
def Stand (H : Hp) (rs : List Row) : Prop := ∀ r ∈ rs, H r.1 = some (.lst (r.2.map vn))
theorem Stand.on {H H' : Hp} {rs : List Row} (e : Ex H H') (h : Stand H rs) : Stand H' rs := fun r hr => e _ _ (h r hr)
theorem part_len {α β : Type} (f : α → List β) {L : List α} {j : Nat} {c : α} (h : L[j]? = some c) (m : Nat) : ((L.take j).flatMap f ++ (f c).take m).length ≤ (L.flatMap f).length := by
  have e : L = L.take j ++ c :: L.drop (j + 1) := by
    obtain ⟨hj, hc⟩ := List.getElem?_eq_some_iff.mp h
    conv => lhs; rw [← List.take_append_drop j L]
    rw [List.drop_eq_getElem_cons hj, hc]
  conv => rhs; rw [e]
  rw [List.flatMap_append, List.flatMap_cons, List.length_append, List.length_append, List.length_append]
  have := List.length_take_le' m (f c)
  omega
section
variable {P : Program} {w : World} {K : PySem.W.Frag} {mg : Str → Option Value} {base : Heap}
def spChoices : Sp := fun vs H Q _ => ∃ k n : Nat, vs = [vn k, vn n] ∧ k ≤ 9 ∧ n ≤ 10 ∧
  ∀ p rs H2, H p = none → Ex H H2 → H2 p = some (.lst (refsOf rs)) → Stand H2 rs → rs.map Prod.snd = grown n k → Q (.ref p) H2
theorem ok_choices {f : Addr} {fd : FuncData} {k : Nat} (F : Fun K "choices_of" "choices_of" sChoices f fd) (mLen : mg "len" = none) (mRange : mg "range" = none) : FnOk P w K mg base CX0 (k + 1) f fd ["k", "count"] spChoices := by
  refine F.ok scC (fun vs H Q E h => ?_) (fun cdv A outer s H vs Q E hr h => ?_)
  · obtain ⟨k, n, rfl, _⟩ := h
    rfl
  · obtain ⟨kk, n, rfl, hk, hn, q⟩ := h
    refine ⟨_, pss_cons (ps_set (i := 2) scC.nd rfl (.inl rfl) (pe_lst (pa_cons (pe_lst pa_nil) pa_nil)))
      (pss_cons (ps_for PassesOwn.never rfl (pi_range1 (by rfl) mRange (pa_cons (pv 0) pa_nil)) (pg_name (i := 3) scC.nd rfl (.inl rfl))
        (pss_cons (ps_set (i := 4) scC.nd rfl (.inl rfl) (pe_lst pa_nil))
        (pss_cons (ps_for PassesOwn.never rfl (pi_list (pv 2)) (pg_name (i := 5) scC.nd rfl (.inl rfl))
          (pss_cons (ps_set (i := 6) scC.nd rfl (.inl rfl) (pe_ifExp (pt_cmpR op_gt (pe_callB call_len_seq (by rfl) mLen PySem.boot_len (pa_cons (pv 5) pa_nil)) pe_int (nomark _))
              (pe_op op_add (pe_ix ix_list (pv 5) (pe_un un_neg pe_int) (fun _ _ => rfl)) pe_int) pe_int))
          (pss_one (ps_for PassesOwn.never rfl (pi_range2 (by rfl) mRange (pa_cons (pv 6) (pa_cons (pv 1) pa_nil))) (pg_name (i := 7) scC.nd rfl (.inl rfl))
            (pss_one (ps_expr (pe_bm PySem.F.plainAttrs_list PySem.F.slot_list_append PySem.F.type_list_append mt_append (pv 4) (pa_cons (pe_op op_cat (pv 5) (pe_lst (pa_cons (pv 7) pa_nil))) pa_nil))))))))
        (pss_one (ps_set (i := 2) scC.nd rfl (.inl rfl) (pv 4))))))
      (pss_one (ps_ret (pv 2)))), ?_⟩
    have two9 : 2 ^ n ≤ 1024 := Nat.pow_le_pow_right (by decide) hn
    -- choices = [[]]
    refine q_asgP (el_lst1 (el_lst ea_nil (by decide))) fun v H1 e1 ⟨p0, q0, hv, hp0, h1, h2, hne⟩ => ?_
    subst hv
    -- for place in range(k)
    refine q_forR1 (n := (kk : Int)) (ea_cons (ev_var rfl) ea_nil) ⟨by omega, by omega⟩ (fun i σ' H' => ∃ p rs y3 y4 y5 y6 y7, σ' = [some (vn kk), some (vn n), some (.ref p), y3, y4, y5, y6, y7] ∧ H p = none ∧ Ex H H' ∧ H' p = some (.lst (refsOf rs)) ∧ Stand H' rs ∧ rs.map Prod.snd = grown n i)
      (fun H2 e2 => ⟨p0, [(q0, [])], none, none, none, none, none, rfl, hp0, e1.trans e2, e2 _ _ h1, fun r hr => ?_, rfl⟩) ?_ ?_
    · rw [List.mem_singleton.mp hr]
      exact e2 _ _ h2
    · rintro i σ' H' hi ⟨p, rs, y3, y4, y5, y6, y7, rfl, hp, eH, hP, hR, hG⟩
      -- longer = []
      refine q_asgL (el_lst ea_nil (by decide)) fun pl H3 hpl e3 h3 => ?_
      have hP3 := sq_of (K := K) (e3 _ _ hP)
      -- for chosen in choices
      refine q_forLn (xs := refsOf rs) (ev_var rfl) hP3 (fun j σ2 H4 => ∃ qs y5 y6 y7, σ2 = [some (vn kk), some (vn n), some (.ref p), some (.int (i : Int)), some (.ref pl), y5, y6, y7] ∧ Ex H' H4 ∧ H4 pl = some (.lst (refsOf qs)) ∧ Stand H4 qs ∧ (∀ r ∈ qs, r.1 ≠ pl) ∧ qs.map Prod.snd = ((grown n i).take j).flatMap (grow n))
        (fun H4 e4 => ⟨[], _, _, _, rfl, e3.trans e4, e4 _ _ h3, fun r hr => (by cases hr), fun r hr => (by cases hr), rfl⟩) (fun j σ2 H4 _ ⟨qs, y5, y6, y7, _, e4, _⟩ => ex_l e4 (sq_of hP)) ?_ ?_
      · rintro j x σ2 H4 hx ⟨qs, y5, y6, y7, rfl, e4, hL, hQ, hne, hS⟩
        obtain ⟨⟨pc, c⟩, hr, rfl⟩ := map_at hx
        have hc4 : H4 pc = some (.lst (c.map vn)) := e4 _ _ (hR _ (List.mem_of_getElem? hr))
        have hcg : (grown n i)[j]? = some c := by
          rw [← hG, List.getElem?_map, hr]
          rfl
        obtain ⟨cl, cm⟩ := grown_mem (List.mem_of_getElem? hcg)
        -- first = ..
        refine q_asg (v := vn (firstOf c)) (ev_if (b := decide (0 < c.length)) (et_test (ev_is (ev_op (ev_len (ev_var rfl) (sq_of hc4)) ev_c rv_I0) ?_)) (fun hb => ?_) (fun hb => ?_)) fun H5 e5 => ?_
        · refine congrArg V.bl (decide_eq_decide.mpr ?_)
          rw [List.length_map]
          omega
        · have hb := of_decide_eq_true hb
          obtain ⟨b, hlast⟩ : ∃ b, c.getLast? = some b := by
            cases hz : c.getLast? with
            | none =>
              rw [List.getLast?_eq_none_iff] at hz
              rw [hz] at hb
              cases hb
            | some b => exact ⟨b, rfl⟩
          obtain ⟨d, rfl⟩ : ∃ d, c = d ++ [b] := List.getLast?_eq_some_iff.mp hlast
          refine ev_is (ev_op (ev_op (ev_var rfl) (ev_un ev_c ru_neg) (rv_ixL (sq_of hc4) (v := vn b) ?_)) ev_c rv_I0) ?_
          · rw [List.map_append]
            exact atI_last _ _
          · rw [firstOf_snoc]
            rfl
        · have hb := of_decide_eq_false hb
          have : c = [] := List.length_eq_zero_iff.mp (by omega)
          subst this
          exact ev_c
        · have e45 := e4.trans e5
          have hfst : firstOf c ≤ 11 := by
            unfold firstOf
            split
            · omega
            · rename_i b hb
              have := cm b (List.mem_of_getLast? hb)
              omega
          -- for bale in range(first, count)
          refine s_forR2 (lo := (firstOf c : Int)) (n := (n : Int)) (ea_cons (ev_var rfl) (ea_cons (ev_var rfl) ea_nil)) ⟨by omega, by omega, by omega, by omega⟩
            (fun m σ3 H6 => ∃ qs' y7, σ3 = [some (vn kk), some (vn n), some (.ref p), some (.int (i : Int)), some (.ref pl), some (.ref pc), some (vn (firstOf c)), y7] ∧ Ex H' H6 ∧ H6 pl = some (.lst (refsOf qs')) ∧ Stand H6 qs' ∧ (∀ r ∈ qs', r.1 ≠ pl) ∧ qs'.map Prod.snd = ((grown n i).take j).flatMap (grow n) ++ (grow n c).take m)
            (fun H6 e6 => ⟨qs, _, rfl, e45.trans e6, e6 _ _ (e5 _ _ hL), (hQ.on e5).on e6, hne, by rw [List.take_zero, List.append_nil]; exact hS⟩) ?_ ?_
          · rintro m σ3 H6 hm ⟨qs', y7, rfl, e6, hL6, hQ6, hne6, hS6⟩
            have hlen : qs'.length ≤ 1024 := by
              have z := congrArg List.length hS6
              rw [List.length_map] at z
              rw [z]
              refine Nat.le_trans (part_len (grow n) hcg m) ?_
              have z2 := grown_len n (i + 1)
              exact Nat.le_trans z2 two9
            have hcl : c.length ≤ 9 := by omega
            refine s_appL hL6 (ev_var rfl) (el_catVL (ev_var rfl) (e6 _ _ (hR _ (List.mem_of_getElem? hr))) (el_lst (ea_cons (ev_var rfl) ea_nil) (show 1 ≤ 100000 by decide)) ?_) ?_ fun pn H7 hpn e7 h7 => ?_
            · rw [List.length_map]
              show c.length + 1 ≤ 100000
              omega
            · show (List.map _ qs').length < 100000
              rw [List.length_map]
              omega
            · have hnp : pn ≠ pl := fun z => by
                rw [z, hL6] at hpn
                cases hpn
              refine ⟨qs' ++ [(pn, c ++ [firstOf c + m])], _, rfl, Ex.mut (e6.trans e7) hpl, ?_, fun r hr' => ?_, fun r hr' => ?_, ?_⟩
              · rw [upd_same]
                show _ = some (HO.lst (List.map _ (qs' ++ _)))
                rw [List.map_append]
                rfl
              · rcases List.mem_append.mp hr' with h8 | h8
                · rw [upd_ne (hne6 r h8)]
                  exact e7 _ _ (hQ6 r h8)
                · rw [List.mem_singleton.mp h8, upd_ne hnp, h7, List.map_append]
                  rfl
              · rcases List.mem_append.mp hr' with h8 | h8
                · exact hne6 r h8
                · rw [List.mem_singleton.mp h8]
                  exact hnp
              · have hmlt : m < n - firstOf c := by omega
                have hg : (grow n c)[m]? = some (c ++ [firstOf c + m]) := by
                  unfold grow
                  rw [List.getElem?_map, List.getElem?_range hmlt]
                  rfl
                rw [List.map_append, hS6, take_more hg, List.append_assoc]
                rfl
          · rintro σ3 H6 ⟨qs', y7', rfl, e6, hL6, hQ6, hne6, hS6⟩
            refine ⟨qs', _, _, _, rfl, e6, hL6, hQ6, hne6, ?_⟩
            have z : (grow n c).take ((n : Int) - (firstOf c : Int)).toNat = grow n c := List.take_of_length_le (by
              unfold grow
              rw [List.length_map, List.length_range]
              omega)
            rw [hS6, take_more hcg, List.flatMap_append, List.flatMap_singleton, z]
      · rintro σ2 H4 ⟨qs, y5, y6, y7, rfl, e4, hL, hQ, hne, hS⟩
        -- choices = longer
        refine s_asg (ev_var rfl) fun H5 e5 => ?_
        refine ⟨pl, qs, _, _, _, _, _, rfl, fresh_back eH hpl, (eH.trans e4).trans e5, e5 _ _ hL, hQ.on e5, ?_⟩
        have hl : (refsOf rs).length = (grown n i).length := by
          rw [← hG]
          show (List.map _ rs).length = (List.map _ rs).length
          rw [List.length_map, List.length_map]
        rw [hS, hl, List.take_length]
        rfl
    · rintro σ' H' ⟨p, rs, y3, y4, y5, y6, y7, rfl, hp, eH, hP, hR, hG⟩
      refine s_ret (ev_var rfl) fun H2 e2 => q p rs H2 hp (eH.trans e2) (e2 _ _ hP) (hR.on e2) ?_
      rw [hG, Int.toNat_natCast]
/-! ### only the chosen -/
def spOnly (K : PySem.W.Frag) : Sp := fun vs H Q _ => ∃ (a b : Addr) (c l : List Nat), vs = [.ref a, .ref b] ∧ SqL K H a (c.map vn) ∧ SqL K H b (l.map vn) ∧ c.length ≤ 100 ∧ RetL ((sel l c).map vn) H Q
theorem spOnly_l {a b : Addr} {c l : List Nat} {H : Hp} (ha : SqL K H a (c.map vn)) (hb : SqL K H b (l.map vn)) (hc : c.length ≤ 100) : SpL (spOnly K) [.ref a, .ref b] H ((sel l c).map vn) := fun H1 e Q q E => ⟨a, b, c, l, rfl, ex_l e ha, ex_l e hb, hc, q⟩
theorem sel_len (l : List Nat) : ∀ c : List Nat, (sel l c).length ≤ 2 * c.length
  | [] => Nat.le_refl _
  | i :: c => by
    have := sel_len l c
    show ((l.drop (2 * i)).take 2 ++ sel l c).length ≤ _
    rw [List.length_append, List.length_cons]
    have h2 := List.length_take_le 2 (l.drop (2 * i))
    omega
theorem ok_only {f : Addr} {fd : FuncData} {k : Nat} (F : Fun K "only" "only" sOnly f fd) : FnOk P w K mg base CX0 (k + 1) f fd ["chosen", "bales"] (spOnly K) := by
  refine F.ok scO (fun vs H Q E h => ?_) (fun cdv A outer s H vs Q E hr h => ?_)
  · obtain ⟨a, b, c, l, rfl, _⟩ := h
    rfl
  · obtain ⟨a, b, c, l, rfl, hA, hB, hc, q⟩ := h
    refine ⟨_, pss_cons (ps_set (i := 2) scO.nd rfl (.inl rfl) (pe_lst pa_nil))
      (pss_cons (ps_for PassesOwn.never rfl (pi_list (pv 0)) (pg_name (i := 3) scO.nd rfl (.inl rfl))
        (pss_one (ps_expr (pe_bm PySem.F.plainAttrs_list PySem.F.slot_list_extend PySem.F.type_list_extend mt_extend (pv 2) (pa_cons
          (pe_slice sl_list (pv 1) (po_some (pe_op op_mul pe_int (pv 3))) (po_some (pe_op op_add (pe_op op_mul pe_int (pv 3)) pe_int))) pa_nil)))))
      (pss_one (ps_ret (pv 2)))), ?_⟩
    refine q_asgL (el_lst ea_nil (by decide)) fun pl H1 hpl e1 h1 => ?_
    refine q_forLn (xs := c.map vn) (ev_var rfl) (ex_l e1 hA) (fun i σ' H' => ∃ y3, σ' = [some (.ref a), some (.ref b), some (.ref pl), y3] ∧ Ex H H' ∧ H' pl = some (.lst ((sel l (c.take i)).map vn)))
      (fun H2 e2 => ⟨none, rfl, e1.trans e2, e2 _ _ h1⟩) (fun i σ' H' _ ⟨_, _, e', _⟩ => ex_l e' hA) ?_ ?_
    · rintro i x σ' H' hx ⟨y3, rfl, e', hL⟩
      obtain ⟨b', hb', rfl⟩ := map_at hx
      have hsl := sel_len l (c.take i)
      have htl := List.length_take_le i c
      have hlc : (c.take i).length ≤ 100 := by
        rw [List.length_take]
        omega
      have m2 : Ev (tOp (rI CMul fun i j => V.int (i * j)) (tC (.int 2)) (tVar 3)) [some (.ref a), some (.ref b), some (.ref pl), some (vn b')] H' (.int ((2 * b' : Nat) : Int)) :=
        ev_is (ev_op ev_c (ev_var rfl) (rv_I (.inl (by decide)))) (congrArg V.int (by omega))
      refine s_extL (ys := ((l.map vn).drop (2 * b')).take 2) hL (ev_var rfl) (el_is (el_sl (lo := some ((2 * b' : Nat) : Int)) (hi := some ((2 * b' + 2 : Nat) : Int)) (ev_var rfl) (eo_some m2) (eo_some (ev_is (ev_op m2 ev_c rv_I0) (congrArg V.int (by omega)))) (ex_l e' hB)) (cut_two _ _)) ?_ fun H2 e2 => ?_
      · rw [List.length_map]
        have h2 := List.length_take_le 2 ((l.map vn).drop (2 * b'))
        omega
      · refine ⟨_, rfl, Ex.mut (e'.trans e2) hpl, ?_⟩
        rw [upd_same, take_more hb', sel_snoc, List.map_append, List.map_take, List.map_drop]
    · rintro σ' H' ⟨y3, rfl, e', hL⟩
      rw [List.length_map, List.take_length] at hL
      exact s_ret (ev_var rfl) fun H2 e2 => q pl H2 hpl (e'.trans e2) (e2 _ _ hL)
/-! ### how far -/
def RetU (xs : List V) (H : Hp) (Q : VK) : Prop := ∀ p H2, H p = none → Ex H H2 → H2 p = some (.tup xs) → Q (.ref p) H2
def far (l : List Nat) (t : Nat) : List V := [vn (Kzd1.gap (longs l) (t * kgs l)), vn (kgs l)]
def spFar (K : PySem.W.Frag) : Sp := fun vs H Q _ => ∃ (a : Addr) (t : Nat) (l : List Nat), vs = [vn t, .ref a] ∧ SqL K H a (l.map vn) ∧ Whole l ∧ t ≤ 500 ∧ RetU (far l t) H Q
theorem spFar_u {a : Addr} {t : Nat} {l : List Nat} {H : Hp} (hS : SqL K H a (l.map vn)) (W : Whole l) (ht : t ≤ 500) : SpU (spFar K) [vn t, .ref a] H (far l t) := fun H1 e Q q E => ⟨a, t, l, rfl, ex_l e hS, W, ht, q⟩
theorem ok_far {f fK fW : Addr} {fd fdK fdW : FuncData} {k : Nat} (F : Fun K "how_far" "how_far" sHowFar f fd) (T : Txt mg) (mAbs : mg "abs" = none)
    (FK : Fun K "all_kilograms" "all_kilograms" sAllKg fK fdK) (bK : Binds K fdK ["bales"] []) (gK : mg "all_kilograms" = some (.ref fK))
    (FW : Fun K "weighed_lengths" "weighed_lengths" sWeighed fW fdW) (bW : Binds K fdW ["bales"] []) (gW : mg "weighed_lengths" = some (.ref fW)) :
    FnOk P w K mg base CX0 (k + 2) f fd ["t", "bales"] (spFar K) := by
  have GK : FnOk P w K mg base CX0 (k + 1) fK fdK ["bales"] (spKg K) := ok_kg FK T
  have GW : FnOk P w K mg base CX0 (k + 1) fW fdW ["bales"] (spWeighed K) := ok_weighed FW T
  refine F.ok scF (fun vs H Q E h => ?_) (fun cdv A outer s H vs Q E hr h => ?_)
  · obtain ⟨a, t, l, rfl, _⟩ := h
    rfl
  · obtain ⟨a, t, l, rfl, hS, W, ht, q⟩ := h
    refine ⟨_, pss_cons (ps_set (i := 2) scF.nd rfl (.inl rfl) (pe_call GK hr (by rfl) gK FK.kp bK .nil pass0 (pa_cons (pv 1) pa_nil)))
      (pss_one (ps_ret (pe_tup (pa_cons (pe_callB call_abs (by rfl) mAbs (by decide +kernel) (pa_cons (pe_op op_sub (pe_call GW hr (by rfl) gW FW.kp bW .nil pass0 (pa_cons (pv 1) pa_nil)) (pe_op op_mul (pv 0) (pv 2))) pa_nil)) (pa_cons (pv 2) pa_nil))))), ?_⟩
    refine q_asg (ev_call (ea_cons (ev_var rfl) ea_nil) (spKg_v hS W)) fun H1 e1 => ?_
    refine s_retU (eu_tup (ea_cons (ev_abs (j := ((Kzd1.gap (longs l) (t * kgs l) : Nat) : Int)) rfl (ev_op (ev_call (ea_cons (ev_var rfl) ea_nil) (spWeighed_v (ex_l e1 hS) W)) (ev_op (ev_var rfl) (ev_var rfl) (rv_I (.inl ⟨by omega, by omega⟩))) rv_I0) ?_) (ea_cons (ev_var rfl) ea_nil)) (show 2 ≤ 100000 by decide)) fun p H2 hp e2 h2 => ?_
    · have := gap_abs (longs l) (t * kgs l)
      rw [Int.natCast_mul] at this
      exact this
    · exact q p H2 (fresh_back e1 hp) (e1.trans e2) h2
/-! ### which is less -/
def spLess (K : PySem.W.Frag) : Sp := fun vs H Q _ => ∃ (p q : Addr) (a b c d : Nat), vs = [.ref p, .ref q] ∧ SqT K H p [vn a, vn b] ∧ SqT K H q [vn c, vn d] ∧ a < 2 ^ 64 ∧ c < 2 ^ 64 ∧ RetV (.bl (decide (a * d < c * b))) H Q
theorem ok_less {f : Addr} {fd : FuncData} {k : Nat} (F : Fun K "is_less" "is_less" sLess f fd) : FnOk P w K mg base CX0 (k + 1) f fd ["one", "other"] (spLess K) := by
  refine F.ok scL (fun vs H Q E h => ?_) (fun cdv A outer s H vs Q E hr h => ?_)
  · obtain ⟨p, q, a, b, c, d, rfl, _⟩ := h
    rfl
  · obtain ⟨p, q, a, b, c, d, rfl, h1, h2, ha, hc, k⟩ := h
    refine ⟨_, pss_one (ps_ret (pe_cmpR op_lt (pe_op op_mul (pe_ix ix_tup (pv 0) pe_int (fun _ _ => rfl)) (pe_ix ix_tup (pv 1) pe_int (fun _ _ => rfl))) (pe_op op_mul (pe_ix ix_tup (pv 1) pe_int (fun _ _ => rfl)) (pe_ix ix_tup (pv 0) pe_int (fun _ _ => rfl))) (nomark _))), ?_⟩
    refine s_ret (ev_is (ev_op (ev_op (ev_op (ev_var rfl) ev_c (rv_ixT h1 rfl)) (ev_op (ev_var rfl) ev_c (rv_ixT h2 rfl)) (rv_I (.inl ⟨by omega, by omega⟩))) (ev_op (ev_op (ev_var rfl) ev_c (rv_ixT h2 rfl)) (ev_op (ev_var rfl) ev_c (rv_ixT h1 rfl)) (rv_I (.inl ⟨by omega, by omega⟩))) rv_I0) ?_) k
    refine congrArg V.bl (decide_eq_decide.mpr ?_)
    rw [← Int.natCast_mul, ← Int.natCast_mul]
    omega
theorem spLess_v {p q : Addr} {a b c d : Nat} {H : Hp} (h1 : SqT K H p [vn a, vn b]) (h2 : SqT K H q [vn c, vn d]) (ha : a < 2 ^ 64) (hc : c < 2 ^ 64) : SpV (spLess K) [.ref p, .ref q] H (.bl (decide (a * d < c * b))) := fun H1 e Q k E =>
  ⟨p, q, a, b, c, d, rfl, ex_t e h1, ex_t e h2, ha, hc, k⟩
/-! ### the chosen of a good list -/
theorem good_whole {l : List Nat} (h : Kzd1.good l = true) : Whole l := by
  obtain ⟨h1, h2, h3⟩ := good_iff.mp h
  exact ⟨h1, by omega, h3⟩
theorem sel_whole {l c : List Nat} (h : Kzd1.good l = true) (hc : ∀ i ∈ c, i < l.length / 2) (hn : c.length ≤ 9) : Whole (sel l c) := by
  obtain ⟨h1, h2, h3⟩ := good_iff.mp h
  obtain ⟨e1, e2⟩ := sel_all h1 hc
  refine ⟨by omega, by omega, fun b hb => ?_⟩
  rw [e1] at hb
  obtain ⟨i, hi, rfl⟩ := List.mem_map.mp hb
  exact h3 _ (at_mem (by rw [bales_len]; exact hc i hi))
theorem sel_far {l c : List Nat} (h : Kzd1.good l = true) (hc : ∀ i ∈ c, i < l.length / 2) (t : Nat) : far (sel l c) t = [vn (Kzd1.off (Kzd1.bales l) t c), vn (Kzd1.kgOf (Kzd1.bales l) c)] := by
  obtain ⟨e1, e2⟩ := sel_all (good_iff.mp h).1 hc
  have ek : kgs (sel l c) = Kzd1.kgOf (Kzd1.bales l) c := by
    unfold kgs
    rw [kgOf_is, e1]
  have el : longs (sel l c) = Kzd1.longOf (Kzd1.bales l) c := by
    unfold longs
    rw [longOf_is, e1]
  unfold far Kzd1.off
  rw [ek, el]
theorem kgOf_le {l c : List Nat} (h : Kzd1.good l = true) (hc : ∀ i ∈ c, i < l.length / 2) : Kzd1.kgOf (Kzd1.bales l) c ≤ c.length * 300 := by
  rw [kgOf_is]
  have := kg_le (l := c.map (Kzd1.at_ (Kzd1.bales l))) fun b hb => by
    obtain ⟨i, hi, rfl⟩ := List.mem_map.mp hb
    exact (good_iff.mp h).2.2 _ (at_mem (by rw [bales_len]; exact hc i hi))
  rw [List.length_map] at this
  exact this
theorem longOf_le {l c : List Nat} (h : Kzd1.good l = true) (hc : ∀ i ∈ c, i < l.length / 2) : Kzd1.longOf (Kzd1.bales l) c ≤ c.length * 150000 := by
  rw [longOf_is]
  have := long_le (l := c.map (Kzd1.at_ (Kzd1.bales l))) fun b hb => by
    obtain ⟨i, hi, rfl⟩ := List.mem_map.mp hb
    exact (good_iff.mp h).2.2 _ (at_mem (by rw [bales_len]; exact hc i hi))
  rw [List.length_map] at this
  exact this
theorem gap_le (a b : Nat) : Kzd1.gap a b ≤ max a b := Nat.sub_le _ _
theorem off_le {l c : List Nat} {t : Nat} (h : Kzd1.good l = true) (hc : ∀ i ∈ c, i < l.length / 2) (ht : t ≤ 500) : Kzd1.off (Kzd1.bales l) t c ≤ c.length * 150000 := by
  unfold Kzd1.off
  refine Nat.le_trans (gap_le _ _) (Nat.max_le.mpr ⟨longOf_le h hc, ?_⟩)
  have := mul_le ht (kgOf_le h hc)
  omega
theorem kgOf_pos {l c : List Nat} (h : Kzd1.good l = true) (hc : ∀ i ∈ c, i < l.length / 2) (h0 : c ≠ []) : 0 < Kzd1.kgOf (Kzd1.bales l) c := by
  rw [kgOf_is]
  refine kg_pos (fun b hb => ?_) fun z => h0 (List.map_eq_nil_iff.mp z)
  obtain ⟨i, hi, rfl⟩ := List.mem_map.mp hb
  exact ((good_iff.mp h).2.2 _ (at_mem (by rw [bales_len]; exact hc i hi))).1
/-- of a list of choices: how far, as a call of f(t, only(c, l)) -/
theorem far_sel {ta tc tl : TE} {σ : L2.St} {H : Hp} {a b : Addr} {l c : List Nat} {t : Nat} {E E' : XK} (h : Kzd1.good l = true) (hc : ∀ i ∈ c, i < l.length / 2) (hn : c.length ≤ 9) (ht : t ≤ 500)
    (h1 : Ev ta σ H (vn t)) (h2 : Ev tc σ H (.ref a)) (h3 : Ev tl σ H (.ref b)) (ha : SqL K H a (c.map vn)) (hb : SqL K H b (l.map vn)) :
    EvU (tCall (spFar K) [] E (tCons ta (tCons (tCall (spOnly K) [] E' (tCons tc (tCons tl tNil))) tNil))) σ H [vn (Kzd1.off (Kzd1.bales l) t c), vn (Kzd1.kgOf (Kzd1.bales l) c)] := by
  rw [← sel_far h hc t]
  exact eu_callVL h1 (el_call (ea_cons h2 (ea_cons h3 ea_nil)) (spOnly_l ha hb (by omega))) fun q H1 hq e => spFar_u (sq_of hq) (sel_whole h hc hn) ht
/-! ### the nearest -/
def spNear (K : PySem.W.Frag) : Sp := fun vs H Q _ => ∃ (a : Addr) (k t : Nat) (l : List Nat), vs = [vn k, vn t, .ref a] ∧ SqL K H a (l.map vn) ∧ Kzd1.good l = true ∧ 1 ≤ k ∧ k ≤ 9 ∧ t ≤ 500 ∧ k ≤ l.length / 2 ∧
  ∀ p c x r H2, Ex H H2 → H2 p = some (.lst (c.map vn)) → grown (l.length / 2) k = x :: r → r.foldl (better (Kzd1.bales l) t) x = c → Q (.ref p) H2
theorem spNear_p {a : Addr} {k t : Nat} {l : List Nat} {H : Hp} (hS : SqL K H a (l.map vn)) (hg : Kzd1.good l = true) (h1 : 1 ≤ k) (h9 : k ≤ 9) (ht : t ≤ 500) (hk : k ≤ l.length / 2) :
    SpP (spNear K) [vn k, vn t, .ref a] H fun _ v H2 => ∃ p c x r, v = .ref p ∧ H2 p = some (.lst (c.map vn)) ∧ grown (l.length / 2) k = x :: r ∧ r.foldl (better (Kzd1.bales l) t) x = c := fun H1 e Q q E =>
  ⟨a, k, t, l, rfl, ex_l e hS, hg, h1, h9, ht, hk, fun p c x r H2 e2 h2 hx hr => q _ H2 e2 ⟨p, c, x, r, rfl, h2, hx, hr⟩⟩
theorem spChoices_p {k n : Nat} {H : Hp} (hk : k ≤ 9) (hn : n ≤ 10) : SpP spChoices [vn k, vn n] H fun _ v H2 => ∃ p rs, v = .ref p ∧ H2 p = some (.lst (refsOf rs)) ∧ Stand H2 rs ∧ rs.map Prod.snd = grown n k := fun H1 e Q q E =>
  ⟨k, n, rfl, hk, hn, fun p rs H2 _ e2 h2 hs hg => q _ H2 e2 ⟨p, rs, rfl, h2, hs, hg⟩⟩
theorem ev_half {te : TE} {σ : L2.St} {H : Hp} {a : Addr} {l : List Nat} (h : Ev te σ H (.ref a)) (hS : SqL K H a (l.map vn)) : Ev (tOp (rI CDiv fun i j => V.int (i / j)) (tCB (rLenS K) (tCons te tNil)) (tC (.int 2))) σ H (vn (l.length / 2)) := by
  refine ev_is (ev_op (ev_len h hS) ev_c (rv_I (by show (0 : Int) < 2 ∧ (2 : Int) < _; decide))) ?_
  rw [List.length_map]
  exact congrArg V.int (by omega)
theorem ok_nearest {f fC fO fF fL fK fW : Addr} {fd fdC fdO fdF fdL fdK fdW : FuncData} {k : Nat} (F : Fun K "nearest" "nearest" sNearest f fd) (T : Txt mg) (mAbs : mg "abs" = none) (mRange : mg "range" = none)
    (FK : Fun K "all_kilograms" "all_kilograms" sAllKg fK fdK) (bK : Binds K fdK ["bales"] []) (gK : mg "all_kilograms" = some (.ref fK))
    (FW : Fun K "weighed_lengths" "weighed_lengths" sWeighed fW fdW) (bW : Binds K fdW ["bales"] []) (gW : mg "weighed_lengths" = some (.ref fW))
    (FC : Fun K "choices_of" "choices_of" sChoices fC fdC) (bC : Binds K fdC ["k", "count"] []) (gC : mg "choices_of" = some (.ref fC))
    (FO : Fun K "only" "only" sOnly fO fdO) (bO : Binds K fdO ["chosen", "bales"] []) (gO : mg "only" = some (.ref fO))
    (FF : Fun K "how_far" "how_far" sHowFar fF fdF) (bF : Binds K fdF ["t", "bales"] []) (gF : mg "how_far" = some (.ref fF))
    (FL : Fun K "is_less" "is_less" sLess fL fdL) (bL : Binds K fdL ["one", "other"] []) (gL : mg "is_less" = some (.ref fL)) :
    FnOk P w K mg base CX0 (k + 3) f fd ["k", "t", "bales"] (spNear K) := by
  have GC : FnOk P w K mg base CX0 (k + 2) fC fdC ["k", "count"] spChoices := ok_choices FC T.len mRange
  have GO : FnOk P w K mg base CX0 (k + 2) fO fdO ["chosen", "bales"] (spOnly K) := ok_only FO
  have GF : FnOk P w K mg base CX0 (k + 2) fF fdF ["t", "bales"] (spFar K) := ok_far FF T mAbs FK bK gK FW bW gW
  have GL : FnOk P w K mg base CX0 (k + 2) fL fdL ["one", "other"] (spLess K) := ok_less FL
  refine F.ok scN (fun vs H Q E h => ?_) (fun cdv A outer s H vs Q E hr h => ?_)
  · obtain ⟨a, k, t, l, rfl, _⟩ := h
    rfl
  · obtain ⟨a, kk, t, l, rfl, hS, hg, h1, h9, ht, hk, q⟩ := h
    refine ⟨_, pss_cons (ps_set (i := 3) scN.nd rfl (.inl rfl) (pe_call GC hr (by rfl) gC FC.kp bC .nil pass0 (pa_cons (pv 0) (pa_cons (pe_op op_fdiv (pe_callB call_len_seq (by rfl) T.len PySem.boot_len (pa_cons (pv 2) pa_nil)) pe_int) pa_nil))))
      (pss_cons (ps_set (i := 4) scN.nd rfl (.inl rfl) (pe_ix ix_list (pv 3) pe_int (fun _ _ => rfl)))
      (pss_cons (ps_for PassesOwn.never rfl (pi_list (pe_slice sl_list (pv 3) (po_some pe_int) po_none)) (pg_name (i := 5) scN.nd rfl (.inl rfl))
        (pss_one (ps_if (pt_val (pe_call GL hr (by rfl) gL FL.kp bL .nil pass0 (pa_cons (pe_call GF hr (by rfl) gF FF.kp bF .nil pass0 (pa_cons (pv 1) (pa_cons (pe_call GO hr (by rfl) gO FO.kp bO .nil pass0 (pa_cons (pv 5) (pa_cons (pv 2) pa_nil))) pa_nil)))
            (pa_cons (pe_call GF hr (by rfl) gF FF.kp bF .nil pass0 (pa_cons (pv 1) (pa_cons (pe_call GO hr (by rfl) gO FO.kp bO .nil pass0 (pa_cons (pv 4) (pa_cons (pv 2) pa_nil))) pa_nil))) pa_nil))))
          (pss_one (ps_set (i := 4) scN.nd rfl (.inl rfl) (pv 5))) pss_nil)))
      (pss_one (ps_ret (pv 4))))), ?_⟩
    have hlen := (good_iff.mp hg).2.1
    -- choices = choices_of(k, len(bales) // 2)
    refine q_asgP (ep_call (ea_cons (ev_var rfl) (ea_cons (ev_half (ev_var rfl) hS) ea_nil)) (fun _ p => p) (spChoices_p h9 (by omega))) fun v H1 e1 ⟨p, rs, hv, hp, hR, hG⟩ => ?_
    subst hv
    have hall : ∀ r ∈ rs, r.2.length ≤ 9 ∧ ∀ i ∈ r.2, i < l.length / 2 := fun r hr => by
      have z : r.2 ∈ grown (l.length / 2) kk := by
        rw [← hG]
        exact List.mem_map_of_mem hr
      obtain ⟨z1, z2⟩ := grown_mem z
      exact ⟨by omega, z2⟩
    cases rs with
    | nil =>
      have z : Kzd1.picks kk (List.range (l.length / 2)) = [] := by
        rw [← grown_is, ← hG]
        rfl
      rw [picks_nil, List.length_range] at z
      omega
    | cons r0 rs =>
      have hG' : grown (l.length / 2) kk = r0.2 :: rs.map Prod.snd := hG.symm
      -- best = choices[0]
      refine q_asg (v := .ref r0.1) (ev_op (ev_var rfl) ev_c (rv_ixL (sq_of hp) (atI_nat (j := 0) rfl))) fun H2 e2 => ?_
      have hp2 := e2 _ _ hp
      have hS2 := ex_l (e1.trans e2) hS
      -- for chosen in choices[1:]
      refine q_forNLn (xs := refsOf rs) (el_is (el_sl (lo := some 1) (hi := none) (ev_var rfl) (eo_some ev_c) eo_none (sq_of hp2)) (cut_tail _))
        (fun pt i σ' H' => ∃ (b : Row) (y5 : Option V), σ' = [some (vn kk), some (vn t), some (.ref a), some (.ref p), some (.ref b.1), y5] ∧ Ex H2 H' ∧ H' pt = some (.lst (refsOf rs)) ∧ b ∈ r0 :: rs ∧ b.2 = ((rs.map Prod.snd).take i).foldl (better (Kzd1.bales l) t) r0.2)
        (fun pt H3 _ e3 h3 => ⟨r0, none, rfl, e3, h3, List.mem_cons_self, rfl⟩) (fun pt i σ' H' _ ⟨_, _, _, _, h3, _⟩ => sq_of h3) ?_ ?_
      · rintro pt i x σ' H' hx ⟨b, y5, rfl, e3, h3, hb, hbf⟩
        obtain ⟨c, hc, rfl⟩ := map_at hx
        have hcm : c ∈ r0 :: rs := List.mem_cons_of_mem _ (List.mem_of_getElem? hc)
        have hbs := e3 _ _ (e2 _ _ (hR b hb))
        have hcs := e3 _ _ (e2 _ _ (hR c hcm))
        have hS3 := ex_l e3 hS2
        obtain ⟨b1, b2⟩ := hall b hb
        obtain ⟨c1, c2⟩ := hall c hcm
        have oc := off_le (t := t) hg c2 ht
        have ob := off_le (t := t) hg b2 ht
        have hstep : ((rs.map Prod.snd).take (i + 1)).foldl (better (Kzd1.bales l) t) r0.2 = better (Kzd1.bales l) t b.2 c.2 := by
          have z : (rs.map Prod.snd)[i]? = some c.2 := by
            rw [List.getElem?_map, hc]
            rfl
          rw [take_more z, List.foldl_append, ← hbf]
          rfl
        refine s_when (b := Kzd1.nearer (Kzd1.bales l) t c.2 b.2) (et_B (ev_callUU (far_sel hg c2 c1 ht (ev_var rfl) (ev_var rfl) (ev_var rfl) (sq_of hcs) hS3) (far_sel hg b2 b1 ht (ev_var rfl) (ev_var rfl) (ev_var rfl) (sq_of hbs) hS3)
          fun q1 q2 H4 h4 h5 e4 => spLess_v (st_of h4) (st_of h5) (by omega) (by omega))) (fun hn H4 e4 => ?_) (fun hn H4 e4 => ?_)
        · refine s_asg (ev_var rfl) fun H5 e5 => ⟨c, _, rfl, (e3.trans e4).trans e5, e5 _ _ (e4 _ _ h3), hcm, ?_⟩
          rw [hstep]
          unfold better
          rw [if_pos hn]
        · refine ⟨b, _, rfl, e3.trans e4, e4 _ _ h3, hb, ?_⟩
          rw [hstep]
          unfold better
          rw [if_neg (by rw [hn]; decide)]
      · rintro pt σ' H' ⟨b, y5, rfl, e3, h3, hb, hbf⟩
        refine s_ret (ev_var rfl) fun H4 e4 => q b.1 b.2 r0.2 (rs.map Prod.snd) H4 (((e1.trans e2).trans e3).trans e4) (e4 _ _ (e3 _ _ (e2 _ _ (hR b hb)))) hG' ?_
        have z : (refsOf rs).length = (rs.map Prod.snd).length := by
          show (List.map _ rs).length = _
          rw [List.length_map, List.length_map]
        rw [hbf, z, List.take_length]
/-! ### pick -/
def spPick (K : PySem.W.Frag) : Sp := fun vs H Q _ => ∃ (a : Addr) (k t : Nat) (l : List Nat), vs = [vn k, vn t, .ref a] ∧ SqL K H a (l.map vn) ∧ l.length ≤ 20 ∧ RetL ((PyKzd1.pick (k : Int) (t : Int) (toZ l)).map V.int) H Q
theorem ok_pick {f fN fT fC fO fF fL fK fW : Addr} {fd fdN fdT fdC fdO fdF fdL fdK fdW : FuncData} {k : Nat} (F : Fun K "pick" "pick" sPick f fd) (T : Txt mg) (mAbs : mg "abs" = none) (mRange : mg "range" = none)
    (FT : Fun K "are_as_told" "are_as_told" sTold fT fdT) (bT : Binds K fdT ["bales"] []) (gT : mg "are_as_told" = some (.ref fT))
    (FK : Fun K "all_kilograms" "all_kilograms" sAllKg fK fdK) (bK : Binds K fdK ["bales"] []) (gK : mg "all_kilograms" = some (.ref fK))
    (FW : Fun K "weighed_lengths" "weighed_lengths" sWeighed fW fdW) (bW : Binds K fdW ["bales"] []) (gW : mg "weighed_lengths" = some (.ref fW))
    (FC : Fun K "choices_of" "choices_of" sChoices fC fdC) (bC : Binds K fdC ["k", "count"] []) (gC : mg "choices_of" = some (.ref fC))
    (FO : Fun K "only" "only" sOnly fO fdO) (bO : Binds K fdO ["chosen", "bales"] []) (gO : mg "only" = some (.ref fO))
    (FF : Fun K "how_far" "how_far" sHowFar fF fdF) (bF : Binds K fdF ["t", "bales"] []) (gF : mg "how_far" = some (.ref fF))
    (FL : Fun K "is_less" "is_less" sLess fL fdL) (bL : Binds K fdL ["one", "other"] []) (gL : mg "is_less" = some (.ref fL))
    (FN : Fun K "nearest" "nearest" sNearest fN fdN) (bN : Binds K fdN ["k", "t", "bales"] []) (gN : mg "nearest" = some (.ref fN)) :
    FnOk P w K mg base CX0 (k + 4) f fd ["k", "t", "bales"] (spPick K) := by
  have GT : FnOk P w K mg base CX0 (k + 3) fT fdT ["bales"] (spTold K) := ok_told FT T
  have GN : FnOk P w K mg base CX0 (k + 3) fN fdN ["k", "t", "bales"] (spNear K) := ok_nearest FN T mAbs mRange FK bK gK FW bW gW FC bC gC FO bO gO FF bF gF FL bL gL
  have GO : FnOk P w K mg base CX0 (k + 3) fO fdO ["chosen", "bales"] (spOnly K) := ok_only FO
  have GF : FnOk P w K mg base CX0 (k + 3) fF fdF ["t", "bales"] (spFar K) := ok_far FF T mAbs FK bK gK FW bW gW
  refine F.ok scP (fun vs H Q E h => ?_) (fun cdv A outer s H vs Q E hr h => ?_)
  · obtain ⟨a, k, t, l, rfl, _⟩ := h
    rfl
  · obtain ⟨a, kk, t, l, rfl, hS, hlen, q⟩ := h
    obtain ⟨tmb, gmb⟩ := T.mb
    obtain ⟨tlf, glf⟩ := T.lf
    refine ⟨_, pss_cons (ps_if (PW.pt (pw_or (pt_not (pt_val (pe_call GT hr (by rfl) gT FT.kp bT .nil pass0 (pa_cons (pv 2) pa_nil)))) (pw_or (pt_cmpR op_lt (pv 0) pe_int (nomark _))
          (pw_or (pt_cmpR op_gt (pv 0) (pe_glob (v := .int 9) rfl gmb ⟨tmb, rfl⟩) (nomark _)) (pw_or1 (pt_cmpR op_gt (pv 1) (pe_glob (v := .int 500) rfl glf ⟨tlf, rfl⟩) (nomark _)))))))
        (pss_one (ps_ret (pe_lst (pa_cons (pe_un un_neg pe_int) pa_nil)))) pss_nil)
      (pss_cons (ps_if (pt_cmpR op_lt (pe_op op_fdiv (pe_callB call_len_seq (by rfl) T.len PySem.boot_len (pa_cons (pv 2) pa_nil)) pe_int) (pv 0) (nomark _)) (pss_one (ps_ret (pe_lst (pa_cons (pe_un un_neg pe_int) pa_nil)))) pss_nil)
      (pss_cons (ps_set (i := 3) scP.nd rfl (.inl rfl) (pe_call GN hr (by rfl) gN FN.kp bN .nil pass0 (pa_cons (pv 0) (pa_cons (pv 1) (pa_cons (pv 2) pa_nil)))))
      (pss_cons (ps_set (i := 4) scP.nd rfl (.inl rfl) (pe_call GF hr (by rfl) gF FF.kp bF .nil pass0 (pa_cons (pv 1) (pa_cons (pe_call GO hr (by rfl) gO FO.kp bO .nil pass0 (pa_cons (pv 3) (pa_cons (pv 2) pa_nil))) pa_nil))))
      (pss_one (ps_ret (pe_op op_cat (pe_lst (pa_cons (pe_op op_fdiv (pe_ix ix_tup (pv 4) pe_int (fun _ _ => rfl)) (pe_ix ix_tup (pv 4) pe_int (fun _ _ => rfl))) pa_nil)) (pv 3))))))), ?_⟩
    refine q_when (b := !Kzd1.good l || (decide (kk < 1) || (decide (9 < kk) || decide (500 < t)))) (et_or (et_not (et_B (ev_call (ea_cons (ev_var rfl) ea_nil) (spTold_v hS hlen)))) fun _ => et_or (et_test (ev_is (ev_op (ev_var rfl) ev_c rv_I0) ?_)) fun _ => et_or (et_test (ev_is (ev_op (ev_var rfl) ev_c rv_I0) ?_)) fun _ => et_test (ev_is (ev_op (ev_var rfl) ev_c rv_I0) ?_))
      (fun hb H1 e1 => ?_) (fun hb H1 e1 => ?_)
    · exact congrArg V.bl (decide_eq_decide.mpr (by omega))
    · exact congrArg V.bl (decide_eq_decide.mpr (by omega))
    · exact congrArg V.bl (decide_eq_decide.mpr (by omega))
    · have hbad : Kzd1.good l = false ∨ kk < 1 ∨ 9 < kk ∨ 500 < t := by
        simpa [Bool.or_eq_true, decide_eq_true_eq] using hb
      refine s_retL (el_lst (ea_cons (ev_un ev_c ru_neg) ea_nil) (by decide)) fun p H2 hp e2 h2 => ?_
      refine q p H2 (fresh_back e1 hp) (e1.trans e2) ?_
      rw [pick_bad hbad]
      exact h2
    · have hok : ¬ (Kzd1.good l = false ∨ kk < 1 ∨ 9 < kk ∨ 500 < t) := fun z => by
        have : (!Kzd1.good l || (decide (kk < 1) || (decide (9 < kk) || decide (500 < t)))) = true := by
          simpa [Bool.or_eq_true, decide_eq_true_eq] using z
        rw [hb] at this
        cases this
      have hg : Kzd1.good l = true := by
        cases z : Kzd1.good l with
        | true => rfl
        | false => exact absurd (.inl z) hok
      have hS1 := ex_l e1 hS
      refine q_when (b := decide (l.length / 2 < kk)) (et_test (ev_is (ev_op (ev_half (ev_var rfl) hS1) (ev_var rfl) rv_I0) ?_)) (fun hz H2 e2 => ?_) (fun hz H2 e2 => ?_)
      · exact congrArg V.bl (decide_eq_decide.mpr (by omega))
      · refine s_retL (el_lst (ea_cons (ev_un ev_c ru_neg) ea_nil) (by decide)) fun p H3 hp e3 h3 => ?_
        refine q p H3 (fresh_back (e1.trans e2) hp) ((e1.trans e2).trans e3) ?_
        rw [pick_few hok (of_decide_eq_true hz)]
        exact h3
      · have hz := of_decide_eq_false hz
        have hS2 := ex_l e2 hS1
        refine q_asgP (ep_call (ea_cons (ev_var rfl) (ea_cons (ev_var rfl) (ea_cons (ev_var rfl) ea_nil))) (fun _ p => p) (spNear_p hS2 hg (by omega) (by omega) (by omega) (by omega))) fun v H3 e3 ⟨pc, c, x, r, hv, hc, hx, hr'⟩ => ?_
        subst hv
        have hcm : c ∈ grown (l.length / 2) kk := by
          rw [hx, ← hr']
          exact fold_mem (better_or _ _) r x
        obtain ⟨c1, c2⟩ := grown_mem hcm
        have hS3 := ex_l e3 hS2
        refine q_asgU (far_sel hg c2 (by omega) (by omega) (ev_var rfl) (ev_var rfl) (ev_var rfl) (sq_of hc) hS3) fun pd H4 hpd e4 h4 => ?_
        have kp := kgOf_pos hg c2 fun z => by
          rw [z] at c1
          have : (0 : Nat) = kk := c1
          omega
        have kl := kgOf_le hg c2
        refine s_retL (el_catLV (el_lst (ea_cons (ev_op (ev_op (ev_var rfl) ev_c (rv_ixT (st_of h4) rfl)) (ev_op (ev_var rfl) ev_c (rv_ixT (st_of h4) rfl)) (rv_I (by show (0 : Int) < _ ∧ _ < _; omega))) ea_nil) (show 1 ≤ 100000 by decide)) (ev_var rfl) (e4 _ _ hc) ?_) fun p H5 hp e5 h5 => ?_
        · rw [List.length_map]
          show 1 + c.length ≤ 100000
          omega
        · refine q p H5 (fresh_back (((e1.trans e2).trans e3).trans e4) hp) ((((e1.trans e2).trans e3).trans e4).trans e5) ?_
          rw [pick_ok hok hx hr', h5]
          unfold toZ Kzd1Neutral.ints
          rw [List.map_cons, List.map_map]
          rfl
end
end Bal
set_option Elab.async false
set_option linter.all false
set_option maxRecDepth 100000
set_option maxHeartbeats 4000000
namespace Bal
open PySem PySem.Spec PyProof.Rows L2 Evl
open PySem.W (Codec)
/-- a list handed in: numbers not below 0 -/
theorem list_in {xs : List Int} (h : (Codec.inLen 0 20 xs && xs.all (Codec.inInt 0 4294967295)) = true) : xs = toZ (Kzd1Neutral.natsOf xs) ∧ xs.map V.int = (Kzd1Neutral.natsOf xs).map vn ∧ (Kzd1Neutral.natsOf xs).length ≤ 20 := by
  rw [Bool.and_eq_true] at h
  have hz : xs = toZ (Kzd1Neutral.natsOf xs) := ints_of fun x hx => (Codec.inInt_iff.mp (List.all_eq_true.mp h.2 x hx)).1
  refine ⟨hz, ?_, ?_⟩
  · conv => lhs; rw [hz]
    unfold toZ Kzd1Neutral.ints
    rw [List.map_map]
    rfl
  · unfold Kzd1Neutral.natsOf
    rw [List.length_map]
    exact (Codec.inNat_iff.mp h.1).2
/-- a number handed in -/
theorem int_in {i : Int} (h : Codec.inInt 0 4294967295 i = true) : ∃ n : Nat, i = (n : Int) := ⟨i.toNat, by have := (Codec.inInt_iff.mp h).1; omega⟩
theorem all_mk {P : Program} {w : World} {K : PySem.W.Frag} {h : Heap} {mg : Str → Option Value} {fa f1 f2 f3 f4 f5 f6 f7 f8 f9 : Addr} (X : K.In h) (G : h.Ns mainGlobals mg) (hfa : mg "pick" = some (.ref fa))
    {od1 an1 od2 an2 od3 an3 od4 an4 od5 an5 od6 an6 od7 an7 od8 an8 od9 an9 : Option Addr}
    {sl1 sl2 sl3 sl4 sl5 sl6 sl7 sl8 sl9 : Array (Option Value)} {oc1 kV1 dc1 pm1 cd1 ct1 oc2 kV2 dc2 pm2 cd2 ct2 oc3 kV3 dc3 pm3 cd3 ct3 oc4 kV4 dc4 pm4 cd4 ct4 oc5 kV5 dc5 pm5 cd5 ct5 oc6 kV6 dc6 pm6 cd6 ct6 oc7 kV7 dc7 pm7 cd7 ct7 oc8 kV8 dc8 pm8 cd8 ct8 oc9 kV9 dc9 pm9 cd9 ct9 : Value} {t1 t2 t3 t4 : Tok}
    (a1 : PySem.W.nsIn K mainGlobals "are_as_told" = some (some (.ref f1))) (l1 : K.lookup f1 = some ⟨oc1, od1, .func (PySem.W.fnOf "are_as_told" "are_as_told" (defArgs sTold) (defBody sTold) (defScope sTold) .none kV1 dc1 pm1 an1 cd1 ct1), sl1⟩) (c1 : PySem.W.codeIn K cd1 "are_as_told" = true) (k1 : PySem.W.keepIn K (.ref f1) = true)
    (a2 : PySem.W.nsIn K mainGlobals "all_kilograms" = some (some (.ref f2))) (l2 : K.lookup f2 = some ⟨oc2, od2, .func (PySem.W.fnOf "all_kilograms" "all_kilograms" (defArgs sAllKg) (defBody sAllKg) (defScope sAllKg) .none kV2 dc2 pm2 an2 cd2 ct2), sl2⟩) (c2 : PySem.W.codeIn K cd2 "all_kilograms" = true) (k2 : PySem.W.keepIn K (.ref f2) = true)
    (a3 : PySem.W.nsIn K mainGlobals "weighed_lengths" = some (some (.ref f3))) (l3 : K.lookup f3 = some ⟨oc3, od3, .func (PySem.W.fnOf "weighed_lengths" "weighed_lengths" (defArgs sWeighed) (defBody sWeighed) (defScope sWeighed) .none kV3 dc3 pm3 an3 cd3 ct3), sl3⟩) (c3 : PySem.W.codeIn K cd3 "weighed_lengths" = true) (k3 : PySem.W.keepIn K (.ref f3) = true)
    (a4 : PySem.W.nsIn K mainGlobals "choices_of" = some (some (.ref f4))) (l4 : K.lookup f4 = some ⟨oc4, od4, .func (PySem.W.fnOf "choices_of" "choices_of" (defArgs sChoices) (defBody sChoices) (defScope sChoices) .none kV4 dc4 pm4 an4 cd4 ct4), sl4⟩) (c4 : PySem.W.codeIn K cd4 "choices_of" = true) (k4 : PySem.W.keepIn K (.ref f4) = true)
    (a5 : PySem.W.nsIn K mainGlobals "only" = some (some (.ref f5))) (l5 : K.lookup f5 = some ⟨oc5, od5, .func (PySem.W.fnOf "only" "only" (defArgs sOnly) (defBody sOnly) (defScope sOnly) .none kV5 dc5 pm5 an5 cd5 ct5), sl5⟩) (c5 : PySem.W.codeIn K cd5 "only" = true) (k5 : PySem.W.keepIn K (.ref f5) = true)
    (a6 : PySem.W.nsIn K mainGlobals "how_far" = some (some (.ref f6))) (l6 : K.lookup f6 = some ⟨oc6, od6, .func (PySem.W.fnOf "how_far" "how_far" (defArgs sHowFar) (defBody sHowFar) (defScope sHowFar) .none kV6 dc6 pm6 an6 cd6 ct6), sl6⟩) (c6 : PySem.W.codeIn K cd6 "how_far" = true) (k6 : PySem.W.keepIn K (.ref f6) = true)
    (a7 : PySem.W.nsIn K mainGlobals "is_less" = some (some (.ref f7))) (l7 : K.lookup f7 = some ⟨oc7, od7, .func (PySem.W.fnOf "is_less" "is_less" (defArgs sLess) (defBody sLess) (defScope sLess) .none kV7 dc7 pm7 an7 cd7 ct7), sl7⟩) (c7 : PySem.W.codeIn K cd7 "is_less" = true) (k7 : PySem.W.keepIn K (.ref f7) = true)
    (a8 : PySem.W.nsIn K mainGlobals "nearest" = some (some (.ref f8))) (l8 : K.lookup f8 = some ⟨oc8, od8, .func (PySem.W.fnOf "nearest" "nearest" (defArgs sNearest) (defBody sNearest) (defScope sNearest) .none kV8 dc8 pm8 an8 cd8 ct8), sl8⟩) (c8 : PySem.W.codeIn K cd8 "nearest" = true) (k8 : PySem.W.keepIn K (.ref f8) = true)
    (a9 : PySem.W.nsIn K mainGlobals "pick" = some (some (.ref f9))) (l9 : K.lookup f9 = some ⟨oc9, od9, .func (PySem.W.fnOf "pick" "pick" (defArgs sPick) (defBody sPick) (defScope sPick) .none kV9 dc9 pm9 an9 cd9 ct9), sl9⟩) (c9 : PySem.W.codeIn K cd9 "pick" = true) (k9 : PySem.W.keepIn K (.ref f9) = true)
    (z1 : PySem.W.nsIn K mainGlobals "len" = some none)
    (z2 : PySem.W.nsIn K mainGlobals "zip" = some none)
    (z3 : PySem.W.nsIn K mainGlobals "sum" = some none)
    (z4 : PySem.W.nsIn K mainGlobals "abs" = some none)
    (z5 : PySem.W.nsIn K mainGlobals "range" = some none)
    (g1 : PySem.W.nsIn K mainGlobals "MOST_BALES" = some (some (.int 9 t1)))
    (g2 : PySem.W.nsIn K mainGlobals "LEAST_KILOGRAMS" = some (some (.int 1 t2)))
    (g3 : PySem.W.nsIn K mainGlobals "MOST_KILOGRAMS" = some (some (.int 300 t3)))
    (g4 : PySem.W.nsIn K mainGlobals "LONGEST_FIBRES" = some (some (.int 500 t4)))
    : ∃ fd : FuncData, (∀ (s : Shared) (us : List Value), us.length = (["k", "t", "bales"] : List Str).length → BindsTo s fd ⟨us, []⟩ ((["k", "t", "bales"] : List Str).zip us)) ∧ ∀ base : Heap, K.In base → base.Ns mainGlobals mg → FnOk P w K mg base CX0 4 fa fd ["k", "t", "bales"] (spPick K) := by
  have e := hfa.symm.trans (PySem.W.mg_of X G a9)
  cases e
  have T : Txt mg := ⟨(PySem.W.mg_none_of X G z1), (PySem.W.mg_none_of X G z2), (PySem.W.mg_none_of X G z3), ⟨_, PySem.W.mg_of X G g1⟩, ⟨_, PySem.W.mg_of X G g2⟩, ⟨_, PySem.W.mg_of X G g3⟩, ⟨_, PySem.W.mg_of X G g4⟩⟩
  have F1 := fun_mk (st := sTold) l1 c1 k1
  have b1 := F1.binds (ps := ["bales"]) fun _ _ _ _ _ _ us hl => match us, hl with | [_], _ => rfl
  have F2 := fun_mk (st := sAllKg) l2 c2 k2
  have b2 := F2.binds (ps := ["bales"]) fun _ _ _ _ _ _ us hl => match us, hl with | [_], _ => rfl
  have F3 := fun_mk (st := sWeighed) l3 c3 k3
  have b3 := F3.binds (ps := ["bales"]) fun _ _ _ _ _ _ us hl => match us, hl with | [_], _ => rfl
  have F4 := fun_mk (st := sChoices) l4 c4 k4
  have b4 := F4.binds (ps := ["k", "count"]) fun _ _ _ _ _ _ us hl => match us, hl with | [_, _], _ => rfl
  have F5 := fun_mk (st := sOnly) l5 c5 k5
  have b5 := F5.binds (ps := ["chosen", "bales"]) fun _ _ _ _ _ _ us hl => match us, hl with | [_, _], _ => rfl
  have F6 := fun_mk (st := sHowFar) l6 c6 k6
  have b6 := F6.binds (ps := ["t", "bales"]) fun _ _ _ _ _ _ us hl => match us, hl with | [_, _], _ => rfl
  have F7 := fun_mk (st := sLess) l7 c7 k7
  have b7 := F7.binds (ps := ["one", "other"]) fun _ _ _ _ _ _ us hl => match us, hl with | [_, _], _ => rfl
  have F8 := fun_mk (st := sNearest) l8 c8 k8
  have b8 := F8.binds (ps := ["k", "t", "bales"]) fun _ _ _ _ _ _ us hl => match us, hl with | [_, _, _], _ => rfl
  have F9 := fun_mk (st := sPick) l9 c9 k9
  exact ⟨PySem.W.fnOf "pick" "pick" (defArgs sPick) (defBody sPick) (defScope sPick) .none kV9 dc9 pm9 an9 cd9 ct9, fun s us hu => match us, hu with | [_, _, _], _ => .of_eq rfl, fun base _ _ => ok_pick F9 T (PySem.W.mg_none_of X G z4) (PySem.W.mg_none_of X G z5) F1 b1 (PySem.W.mg_of X G a1) F2 b2 (PySem.W.mg_of X G a2) F3 b3 (PySem.W.mg_of X G a3) F4 b4 (PySem.W.mg_of X G a4) F5 b5 (PySem.W.mg_of X G a5) F6 b6 (PySem.W.mg_of X G a6) F7 b7 (PySem.W.mg_of X G a7) F8 b8 (PySem.W.mg_of X G a8)⟩
end Bal
open PySem PySem.W PyProof.Rows
set_option maxRecDepth 100000 in
set_option maxHeartbeats 8000000 in
theorem PySem.Challenge.cw_balelayer_s02_pick_holds : PySem.Challenge.rw_balelayer_s02_pick.Holds := by
  w_on; k_headS; (case hw => exact ⟨[.int 0, .int 0, .list []], by decide +kernel, by decide +kernel⟩)
  k_fillS
  refine L2.walk_specK (r := PySem.Challenge.rw_balelayer_s02_pick) (k := 4) (CX := L2.CX0) (ps := ["k", "t", "bales"]) (sp := Bal.spPick) (by decide +kernel) rfl rfl ⟨rfl, by decide, by decide⟩ (fun w h Y => PySem.W.kIn_of Y) ?F ?S (fun _ _ _ _ z => z)
  case F =>
    intro w mg fa h Y KX G hmg
    refine' Bal.all_mk KX G hmg ?a1 ?l1 ?c1 ?k1 ?a2 ?l2 ?c2 ?k2 ?a3 ?l3 ?c3 ?k3 ?a4 ?l4 ?c4 ?k4 ?a5 ?l5 ?c5 ?k5 ?a6 ?l6 ?c6 ?k6 ?a7 ?l7 ?c7 ?k7 ?a8 ?l8 ?c8 ?k8 ?a9 ?l9 ?c9 ?k9 ?z1 ?z2 ?z3 ?z4 ?z5 ?g1 ?g2 ?g3 ?g4
    (case a1 => k_is)
    (case l1 => k_is)
    (case c1 => k_is)
    (case k1 => k_is)
    (case a2 => k_is)
    (case l2 => k_is)
    (case c2 => k_is)
    (case k2 => k_is)
    (case a3 => k_is)
    (case l3 => k_is)
    (case c3 => k_is)
    (case k3 => k_is)
    (case a4 => k_is)
    (case l4 => k_is)
    (case c4 => k_is)
    (case k4 => k_is)
    (case a5 => k_is)
    (case l5 => k_is)
    (case c5 => k_is)
    (case k5 => k_is)
    (case a6 => k_is)
    (case l6 => k_is)
    (case c6 => k_is)
    (case k6 => k_is)
    (case a7 => k_is)
    (case l7 => k_is)
    (case c7 => k_is)
    (case k7 => k_is)
    (case a8 => k_is)
    (case l8 => k_is)
    (case c8 => k_is)
    (case k8 => k_is)
    (case a9 => k_is)
    (case l9 => k_is)
    (case c9 => k_is)
    (case k9 => k_is)
    (case z1 => k_is)
    (case z2 => k_is)
    (case z3 => k_is)
    (case z4 => k_is)
    (case z5 => k_is)
    (case g1 => k_is)
    (case g2 => k_is)
    (case g3 => k_is)
    (case g4 => k_is)
  case S =>
    intro K H xs a hO hwi hask hx
    obtain ⟨k, t, l, u⟩ := a
    cases hx with
    | cons h1 hx =>
      cases hx with
      | cons h2 hx =>
        cases hx with
        | cons h3 hx =>
          cases hx
          cases h1
          cases h2
          cases h3 with
          | lst hs ha =>
            have e := L2.ints_dw l _ ha
            subst e
            have q : (PySem.W.Codec.inInt 0 4294967295 k && (PySem.W.Codec.inInt 0 4294967295 t && ((PySem.W.Codec.inLen 0 20 l && l.all (PySem.W.Codec.inInt 0 4294967295)) && true))) = true := hwi
            rw [Bool.and_eq_true, Bool.and_eq_true, Bool.and_eq_true] at q
            obtain ⟨q1, q2, q3, _⟩ := q
            obtain ⟨k, rfl⟩ := Bal.int_in q1
            obtain ⟨t, rfl⟩ := Bal.int_in q2
            obtain ⟨hz, hV, hl⟩ := Bal.list_in q3
            refine ⟨_, k, t, Kzd1Neutral.natsOf l, rfl, by rw [← hV]; exact hs, hl, fun p H2 _ _ hp => ?_⟩
            rw [← hz] at hp
            exact .lst (L2.SqL.of hp) (L2.dw_ints _)
