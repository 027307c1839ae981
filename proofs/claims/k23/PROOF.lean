import PyProof.Rows.All
import Wide.All
import OpenK.AllK
import Wide.FinOn
import HandS.ForMost
import HandS.IsInst
import HandS.Evl
import HandS.SetKeys
import HandS.More
import HandS.SortRule
import HandS.SortInts
import HandS.Flow
import KE.KItemsList
import HandS.ListItems
import HandS.Walk
import HandS.Zip
import HandS.Conv
import HandS.CallLocal
import HandS.TupAny
import KE.GoesEnum
import KE.GoesMore
import HandS.DictComp
import HandS.SetFor
import HandS.TupSets
import HandS.Style
import HandS.Dict
import HandS.WordsDict
import PySem.Challenge.RW_rankfall_k23_whole_claims_in_another_ord
set_option Elab.async false
set_option linter.all false
set_option maxRecDepth 100000
set_option maxHeartbeats 4000000
namespace Rf
open PySem PySem.Spec PyProof.Rows L2
/-! ### sharing coin by coin -/
def g (l : List Int) (i : Nat) : Int := l.getD i 0
theorem g_get {l : List Int} {i : Nat} (h : i < l.length) : l[i]? = some (g l i) := by
  unfold g
  rw [List.getD_eq_getElem?_getD, List.getElem?_eq_getElem h]
  rfl
theorem g_of {l : List Int} {i : Nat} {x : Int} (h : l[i]? = some x) : g l i = x := by
  unfold g
  rw [List.getD_eq_getElem?_getD, h]
  rfl
theorem g_mem {l : List Int} {i : Nat} (h : i < l.length) : g l i ∈ l := List.mem_of_getElem? (g_get h)
theorem mem_g {l : List Int} {x : Int} (h : x ∈ l) : ∃ i, i < l.length ∧ g l i = x := by
  obtain ⟨i, hi, e⟩ := List.mem_iff_getElem.mp h
  exact ⟨i, hi, g_of (by rw [List.getElem?_eq_getElem hi, e])⟩
theorem g_set_same {l : List Int} {i : Nat} {x : Int} (h : i < l.length) : g (l.set i x) i = x := by
  apply g_of
  rw [List.getElem?_set_self h]
theorem g_set_ne {l : List Int} {i j : Nat} {x : Int} (h : i ≠ j) : g (l.set i x) j = g l j := by
  unfold g
  rw [List.getD_eq_getElem?_getD, List.getD_eq_getElem?_getD, List.getElem?_set_ne h]
theorem ext_g {l m : List Int} (hl : l.length = m.length) (h : ∀ i, i < l.length → g l i = g m i) : l = m := by
  apply List.ext_getElem? 
  intro i
  by_cases hi : i < l.length
  · rw [g_get hi, g_get (hl ▸ hi), h i hi]
  · rw [List.getElem?_eq_none (by omega), List.getElem?_eq_none (by omega)]
theorem sum_set_g : ∀ {l : List Int} {j : Nat} {y : Int}, j < l.length → (l.set j y).sum = l.sum - g l j + y
  | [], j, y, h => by simp at h
  | a :: r, 0, y, h => by
    show (y :: r).sum = (a :: r).sum - a + y
    rw [List.sum_cons, List.sum_cons]
    omega
  | a :: r, j + 1, y, h => by
    have ih := sum_set_g (l := r) (j := j) (y := y) (by simpa using h)
    show (a :: r.set j y).sum = (a :: r).sum - g r j + y
    rw [List.sum_cons, List.sum_cons, ih]
    omega
theorem sum_le_of : ∀ {l m : List Int}, l.length = m.length → (∀ i, i < l.length → g l i ≤ g m i) → l.sum ≤ m.sum
  | [], [], _, _ => Int.le_refl _
  | [], _ :: _, h, _ => by simp at h
  | _ :: _, [], h, _ => by simp at h
  | a :: r, b :: s, hl, h => by
    have h0 : a ≤ b := h 0 (by simp)
    have ih := sum_le_of (l := r) (m := s) (by simpa using hl) (fun i hi => h (i + 1) (by simpa using hi))
    rw [List.sum_cons, List.sum_cons]
    omega
theorem eq_of_sum_le : ∀ {l m : List Int}, l.length = m.length → (∀ i, i < l.length → g l i ≤ g m i) → m.sum ≤ l.sum → l = m
  | [], [], _, _, _ => rfl
  | [], _ :: _, h, _, _ => by simp at h
  | _ :: _, [], h, _, _ => by simp at h
  | a :: r, b :: s, hl, h, hs => by
    have h0 : a ≤ b := h 0 (by simp)
    have hr : ∀ i, i < r.length → g r i ≤ g s i := fun i hi => h (i + 1) (by simpa using hi)
    have hl2 : r.length = s.length := by simpa using hl
    have h1 := sum_le_of hl2 hr
    rw [List.sum_cons, List.sum_cons] at hs
    have e : a = b := by omega
    rw [e, eq_of_sum_le hl2 hr (by omega)]
theorem sum_nonneg {l : List Int} (h : ∀ i, i < l.length → 0 ≤ g l i) : 0 ≤ l.sum := by
  have := sum_le_of (l := List.replicate l.length 0) (m := l) (by simp) (fun i hi => by
    have e : g (List.replicate l.length 0) i = 0 := by
      apply g_of
      rw [List.getElem?_replicate, if_pos (by simpa using hi)]
    rw [e]
    exact h i (by simpa using hi))
  have e : (List.replicate l.length (0 : Int)).sum = 0 := by
    generalize l.length = n
    induction n with
    | zero => rfl
    | succ n ih => rw [List.replicate_succ, List.sum_cons, ih]; rfl
  omega

/-- the least part's first place among those that aren't full, of the first n -/
def firstUp (a p : List Int) : Nat → Option Nat
  | 0 => none
  | k + 1 => match firstUp a p k with
    | none => if g p k < g a k then some k else none
    | some f => if g p k < g a k ∧ g p k * g a f < g p f * g a k then some k else some f
/-- the next coin goes to it -/
def nextS (a p : List Int) : List Int := match firstUp a p a.length with
  | some f => p.set f (g p f + 1)
  | none => p
def steps (a : List Int) : Nat → List Int → List Int
  | 0, p => p
  | n + 1, p => nextS a (steps a n p)
def zeros (a : List Int) : List Int := List.replicate a.length 0
def shareN (a : List Int) (n : Nat) : List Int := steps a n (zeros a)
/-- what each amount gets of c coins -/
def share (a : List Int) (c : Int) : List Int := shareN a (min c a.sum).toNat

theorem firstUp_none {a p : List Int} : ∀ {n : Nat}, firstUp a p n = none → ∀ j, j < n → ¬ g p j < g a j
  | 0, _, j, hj => absurd hj (Nat.not_lt_zero _)
  | k + 1, h, j, hj => by
    unfold firstUp at h
    cases e : firstUp a p k with
    | none =>
      rw [e] at h
      simp only at h
      by_cases hk : g p k < g a k
      · rw [if_pos hk] at h; cases h
      · by_cases hjk : j = k
        · subst hjk; exact hk
        · exact firstUp_none e j (by omega)
    | some f =>
      rw [e] at h
      simp only at h
      split at h <;> cases h
/-- what the chosen one is -/
structure IsFirst (a p : List Int) (n f : Nat) : Prop where
  lt : f < n
  room : g p f < g a f
  least : ∀ j, j < n → g p j < g a j → g p f * g a j < g p j * g a f ∨ (g p f * g a j = g p j * g a f ∧ f ≤ j)
/-- comparing parts is transitive -/
theorem part_trans {x y z a b c : Int} (ha : 0 < a) (hb : 0 < b) (hc : 0 < c) (h1 : x * b ≤ y * a) (h2 : y * c ≤ z * b) : x * c ≤ z * a := by
  have e1 : x * b * c ≤ y * a * c := Int.mul_le_mul_of_nonneg_right h1 (by omega)
  have e2 : y * c * a ≤ z * b * a := Int.mul_le_mul_of_nonneg_right h2 (by omega)
  have e3 : y * a * c = y * c * a := by rw [Int.mul_assoc, Int.mul_comm a c, ← Int.mul_assoc]
  have e4 : x * b * c = x * c * b := by rw [Int.mul_assoc, Int.mul_comm b c, ← Int.mul_assoc]
  have e5 : z * b * a = z * a * b := by rw [Int.mul_assoc, Int.mul_comm b a, ← Int.mul_assoc]
  have e6 : x * c * b ≤ z * a * b := by rw [← e4, ← e5]; omega
  exact Int.le_of_mul_le_mul_right e6 hb
theorem part_trans_lt {x y z a b c : Int} (ha : 0 < a) (hb : 0 < b) (hc : 0 < c) (h1 : x * b < y * a) (h2 : y * c ≤ z * b) : x * c < z * a := by
  have e1 : x * b * c < y * a * c := Int.mul_lt_mul_of_pos_right h1 hc
  have e2 : y * c * a ≤ z * b * a := Int.mul_le_mul_of_nonneg_right h2 (by omega)
  have e3 : y * a * c = y * c * a := by rw [Int.mul_assoc, Int.mul_comm a c, ← Int.mul_assoc]
  have e4 : x * b * c = x * c * b := by rw [Int.mul_assoc, Int.mul_comm b c, ← Int.mul_assoc]
  have e5 : z * b * a = z * a * b := by rw [Int.mul_assoc, Int.mul_comm b a, ← Int.mul_assoc]
  have e6 : x * c * b < z * a * b := by rw [← e4, ← e5]; omega
  exact Int.lt_of_mul_lt_mul_right e6 (by omega)
theorem firstUp_some {a p : List Int} (pos : ∀ i, i < a.length → 0 < g a i) : ∀ {n : Nat} {f : Nat}, n ≤ a.length → firstUp a p n = some f → IsFirst a p n f
  | 0, f, _, h => by cases h
  | k + 1, f, hn, h => by
    unfold firstUp at h
    have pk : 0 < g a k := pos k (by omega)
    cases e : firstUp a p k with
    | none =>
      rw [e] at h
      simp only at h
      by_cases hk : g p k < g a k
      · rw [if_pos hk] at h; cases h
        refine ⟨Nat.lt_succ_self _, hk, fun j hj hlt => ?_⟩
        by_cases hjk : j = k
        · subst hjk; exact .inr ⟨rfl, Nat.le_refl _⟩
        · exact absurd hlt (firstUp_none e j (by omega))
      · rw [if_neg hk] at h; cases h
    | some f' =>
      rw [e] at h
      simp only at h
      have F := firstUp_some pos (n := k) (by omega) e
      have pf : 0 < g a f' := pos f' (by have := F.lt; omega)
      by_cases hk : g p k < g a k ∧ g p k * g a f' < g p f' * g a k
      · rw [if_pos hk] at h; cases h
        refine ⟨Nat.lt_succ_self _, hk.1, fun j hj hlt => ?_⟩
        by_cases hjk : j = k
        · subst hjk; exact .inr ⟨rfl, Nat.le_refl _⟩
        · left
          have pj : 0 < g a j := pos j (by omega)
          have h1 := hk.2
          have h2 : g p f' * g a j ≤ g p j * g a f' := by
            rcases F.least j (by omega) hlt with q | q <;> omega
          exact part_trans_lt (a := g a k) (b := g a f') (c := g a j) pk pf pj h1 h2
      · rw [if_neg hk] at h; cases h
        refine ⟨by have := F.lt; omega, F.room, fun j hj hlt => ?_⟩
        by_cases hjk : j = k
        · subst hjk
          have : ¬ g p j * g a f < g p f * g a j := fun z => hk ⟨hlt, z⟩
          by_cases e1 : g p f * g a j = g p j * g a f
          · exact .inr ⟨e1, by have := F.lt; omega⟩
          · exact .inl (by omega)
        · exact F.least j (by omega) hlt

/-- a state of the sharing -/
structure Valid (a p : List Int) : Prop where
  len : p.length = a.length
  lo : ∀ i, i < a.length → 0 ≤ g p i
  hi : ∀ i, i < a.length → g p i ≤ g a i
  ord : ∀ i j, i < a.length → j < a.length → 0 < g p i → g p j < g a j → (g p i - 1) * g a j < g p j * g a i ∨ ((g p i - 1) * g a j = g p j * g a i ∧ i < j)
theorem valid_zeros {a : List Int} (pos : ∀ i, i < a.length → 0 < g a i) : Valid a (zeros a) := by
  have z : ∀ i, i < a.length → g (zeros a) i = 0 := fun i hi => by
    apply g_of
    unfold zeros
    rw [List.getElem?_replicate, if_pos hi]
  refine ⟨by simp [zeros], fun i hi => by rw [z i hi]; omega, fun i hi => by rw [z i hi]; have := pos i hi; omega, fun i j hi hj h => ?_⟩
  rw [z i hi] at h
  omega
theorem valid_full {a : List Int} (pos : ∀ i, i < a.length → 0 < g a i) : Valid a a :=
  ⟨rfl, fun i hi => by have := pos i hi; omega, fun i _ => Int.le_refl _, fun i j _ _ _ h => absurd h (Int.lt_irrefl _)⟩
theorem Valid.sum_le {a p : List Int} (V : Valid a p) : p.sum ≤ a.sum := sum_le_of V.len fun i hi => V.hi i (V.len ▸ hi)
theorem Valid.sum_nn {a p : List Int} (V : Valid a p) : 0 ≤ p.sum := sum_nonneg fun i hi => V.lo i (V.len ▸ hi)
theorem Valid.full {a p : List Int} (V : Valid a p) (h : a.sum ≤ p.sum) : p = a := eq_of_sum_le V.len (fun i hi => V.hi i (V.len ▸ hi)) h
theorem Valid.unique {a p q : List Int} (V : Valid a p) (W : Valid a q) (h : p.sum = q.sum) (pos : ∀ i, i < a.length → 0 < g a i) : p = q := by
  by_cases h1 : ∀ i, i < a.length → g p i ≤ g q i
  · exact eq_of_sum_le (V.len.trans W.len.symm) (fun i hi => h1 i (V.len ▸ hi)) (by omega)
  · by_cases h2 : ∀ i, i < a.length → g q i ≤ g p i
    · exact (eq_of_sum_le (W.len.trans V.len.symm) (fun i hi => h2 i (W.len ▸ hi)) (by omega)).symm
    · exfalso
      have h1' : ∃ i, i < a.length ∧ g q i < g p i := Classical.byContradiction fun c => h1 fun i hi => Int.not_lt.mp fun z => c ⟨i, hi, z⟩
      have h2' : ∃ j, j < a.length ∧ g p j < g q j := Classical.byContradiction fun c => h2 fun i hi => Int.not_lt.mp fun z => c ⟨i, hi, z⟩
      obtain ⟨i, hi, di⟩ := h1'
      obtain ⟨j, hj, dj⟩ := h2'
      have ai := pos i hi
      have aj := pos j hj
      have k1 := V.ord i j hi hj (by have := W.lo i hi; omega) (by have := W.hi j hj; omega)
      have k2 := W.ord j i hj hi (by have := V.lo j hj; omega) (by have := V.hi i hi; omega)
      have m1 : g q i * g a j ≤ (g p i - 1) * g a j := Int.mul_le_mul_of_nonneg_right (by omega) (by omega)
      have m2 : g p j * g a i ≤ (g q j - 1) * g a i := Int.mul_le_mul_of_nonneg_right (by omega) (by omega)
      rcases k1 with k1 | ⟨k1, o1⟩ <;> rcases k2 with k2 | ⟨k2, o2⟩ <;> omega
theorem valid_next {a p : List Int} (pos : ∀ i, i < a.length → 0 < g a i) (V : Valid a p) {f : Nat} (F : IsFirst a p a.length f) : Valid a (p.set f (g p f + 1)) := by
  have fl : f < p.length := V.len.symm ▸ F.lt
  refine ⟨by rw [List.length_set]; exact V.len, fun i hi => ?_, fun i hi => ?_, fun i j hi hj h1 h2 => ?_⟩
  · by_cases e : f = i
    · subst e; rw [g_set_same fl]; have := V.lo f hi; omega
    · rw [g_set_ne e]; exact V.lo i hi
  · by_cases e : f = i
    · subst e; rw [g_set_same fl]; have := F.room; omega
    · rw [g_set_ne e]; exact V.hi i hi
  · have ai := pos i hi
    have aj := pos j hj
    by_cases ei : f = i
    · subst ei
      rw [g_set_same fl] at h1 ⊢
      by_cases ej : f = j
      · subst ej
        rw [g_set_same fl] at h2 ⊢
        left
        exact Int.mul_lt_mul_of_pos_right (by omega) aj
      · rw [g_set_ne ej] at h2 ⊢
        have e0 : g p f + 1 - 1 = g p f := by omega
        rw [e0]
        rcases F.least j hj h2 with q | ⟨q, r⟩
        · exact .inl q
        · exact .inr ⟨q, by omega⟩
    · rw [g_set_ne ei] at h1 ⊢
      by_cases ej : f = j
      · subst ej
        rw [g_set_same fl] at h2 ⊢
        left
        have k := V.ord i f hi hj h1 (by omega)
        have m : g p f * g a i < (g p f + 1) * g a i := Int.mul_lt_mul_of_pos_right (by omega) ai
        rcases k with k | ⟨k, _⟩ <;> omega
      · rw [g_set_ne ej] at h2 ⊢
        exact V.ord i j hi hj h1 h2
theorem exists_first {a p : List Int} (V : Valid a p) (h : p.sum < a.sum) (pos : ∀ i, i < a.length → 0 < g a i) : ∃ f, firstUp a p a.length = some f ∧ IsFirst a p a.length f := by
  cases e : firstUp a p a.length with
  | some f => exact ⟨f, rfl, firstUp_some pos (Nat.le_refl _) e⟩
  | none =>
    exfalso
    have h1 := firstUp_none e
    have h2 := sum_le_of (l := a) (m := p) V.len.symm fun i hi => Int.not_lt.mp (h1 i hi)
    omega
theorem nextS_of {a p : List Int} {f : Nat} (h : firstUp a p a.length = some f) : nextS a p = p.set f (g p f + 1) := by
  unfold nextS
  rw [h]
theorem next_ok {a p : List Int} (pos : ∀ i, i < a.length → 0 < g a i) (V : Valid a p) (h : p.sum < a.sum) : Valid a (nextS a p) ∧ (nextS a p).sum = p.sum + 1 := by
  obtain ⟨f, e, F⟩ := exists_first V h pos
  have fl : f < p.length := V.len.symm ▸ F.lt
  rw [nextS_of e]
  refine ⟨valid_next pos V F, ?_⟩
  rw [sum_set_g fl]
  omega
theorem steps_ok {a p : List Int} (pos : ∀ i, i < a.length → 0 < g a i) (V : Valid a p) : ∀ n : Nat, p.sum + n ≤ a.sum → Valid a (steps a n p) ∧ (steps a n p).sum = p.sum + n
  | 0, _ => ⟨V, by simp [steps]⟩
  | n + 1, h => by
    obtain ⟨V1, s1⟩ := steps_ok pos V n (by omega)
    obtain ⟨V2, s2⟩ := next_ok pos V1 (by rw [s1]; omega)
    exact ⟨V2, by show (nextS a (steps a n p)).sum = _; rw [s2, s1]; omega⟩
theorem zeros_sum (a : List Int) : (zeros a).sum = 0 := by
  unfold zeros
  generalize a.length = n
  induction n with
  | zero => rfl
  | succ n ih => rw [List.replicate_succ, List.sum_cons, ih]; rfl
def AllPos (a : List Int) : Prop := ∀ i, i < a.length → 0 < g a i
theorem AllPos.of {a : List Int} (h : ∀ x ∈ a, 0 < x) : AllPos a := fun _ hi => h _ (g_mem hi)
theorem AllPos.sum_nn {a : List Int} (h : AllPos a) : 0 ≤ a.sum := sum_nonneg fun i hi => Int.le_of_lt (h i hi)
theorem share_ok {a : List Int} {c : Int} (pos : AllPos a) (hc : 0 ≤ c) : Valid a (share a c) ∧ (share a c).sum = min c a.sum := by
  have h0 := pos.sum_nn
  have z := zeros_sum a
  obtain ⟨V, s⟩ := steps_ok pos (valid_zeros pos) (min c a.sum).toNat (by rw [z]; omega)
  refine ⟨V, ?_⟩
  show (steps a _ (zeros a)).sum = _
  rw [s, z]
  omega
theorem share_unique {a p : List Int} {c : Int} (pos : AllPos a) (hc : 0 ≤ c) (V : Valid a p) (h : p.sum = min c a.sum) : p = share a c := by
  obtain ⟨W, s⟩ := share_ok pos hc
  exact V.unique W (by rw [h, s]) pos
theorem share_next {a : List Int} {c : Int} (pos : AllPos a) (hc : 0 ≤ c) (h : c < a.sum) : share a (c + 1) = nextS a (share a c) := by
  obtain ⟨W, s⟩ := share_ok pos hc
  obtain ⟨V2, s2⟩ := next_ok pos W (by rw [s]; omega)
  exact (share_unique pos (by omega) V2 (by rw [s2, s]; omega)).symm

/-! ### the program's jump -/
def partsOf (a : List Int) (c : Int) : Int := max 0 (c - a.length + 1)
def startAt (a : List Int) (p : Int) : List Int := a.map fun x => -((-x * p) / a.sum)
theorem g_map {l : List Int} {f : Int → Int} {i : Nat} (h : i < l.length) : g (l.map f) i = f (g l i) := by
  apply g_of
  rw [List.getElem?_map, g_get h]
  rfl
theorem ceil_ge {x p q : Int} (hq : 0 < q) : x * p ≤ -((-x * p) / q) * q := by
  have h := Int.ediv_mul_le (-x * p) (b := q) (by omega)
  have e : -x * p = -(x * p) := Int.neg_mul x p
  rw [Int.neg_mul]
  omega
theorem ceil_lt {x p q : Int} (hq : 0 < q) : (-((-x * p) / q) - 1) * q < x * p := by
  have h := Int.lt_ediv_add_one_mul_self (-x * p) hq
  have e : -x * p = -(x * p) := Int.neg_mul x p
  have e2 : (-((-x * p) / q) - 1) * q = -(((-x * p) / q + 1) * q) := by
    rw [← Int.neg_mul]
    congr 1
    omega
  rw [e2]
  omega
theorem start_valid {a : List Int} {p : Int} (pos : AllPos a) (h0 : 0 ≤ p) (h1 : p ≤ a.sum) (hq : 0 < a.sum) : Valid a (startAt a p) := by
  have sg : ∀ i, i < a.length → g (startAt a p) i = -((-(g a i) * p) / a.sum) := fun i hi => g_map hi
  have ge : ∀ i, i < a.length → g a i * p ≤ g (startAt a p) i * a.sum := fun i hi => by rw [sg i hi]; exact ceil_ge hq
  have lt : ∀ i, i < a.length → (g (startAt a p) i - 1) * a.sum < g a i * p := fun i hi => by rw [sg i hi]; exact ceil_lt hq
  refine ⟨by simp [startAt], fun i hi => ?_, fun i hi => ?_, fun i j hi hj h _ => ?_⟩
  · have ai := pos i hi
    have h2 := ge i hi
    have h3 : 0 ≤ g a i * p := Int.mul_nonneg (by omega) h0
    have h4 : 0 * a.sum ≤ g (startAt a p) i * a.sum := by rw [Int.zero_mul]; omega
    exact Int.le_of_mul_le_mul_right h4 hq
  · have ai := pos i hi
    have h2 := lt i hi
    have h3 : g a i * p ≤ g a i * a.sum := Int.mul_le_mul_of_nonneg_left h1 (by omega)
    have h4 : (g (startAt a p) i - 1) * a.sum < g a i * a.sum := by omega
    have := Int.lt_of_mul_lt_mul_right h4 (by omega)
    omega
  · left
    have ai := pos i hi
    have aj := pos j hj
    have l1 : (g (startAt a p) i - 1) * a.sum * g a j < g a i * p * g a j := Int.mul_lt_mul_of_pos_right (lt i hi) aj
    have l2 : g a j * p * g a i ≤ g (startAt a p) j * a.sum * g a i := Int.mul_le_mul_of_nonneg_right (ge j hj) (by omega)
    have e1 : g a i * p * g a j = g a j * p * g a i := by rw [Int.mul_right_comm, Int.mul_comm (g a i) (g a j), Int.mul_right_comm]
    have e2 : (g (startAt a p) i - 1) * a.sum * g a j = (g (startAt a p) i - 1) * g a j * a.sum := Int.mul_right_comm _ _ _
    have e3 : g (startAt a p) j * a.sum * g a i = g (startAt a p) j * g a i * a.sum := Int.mul_right_comm _ _ _
    have h4 : (g (startAt a p) i - 1) * g a j * a.sum < g (startAt a p) j * g a i * a.sum := by rw [← e2, ← e3]; omega
    exact Int.lt_of_mul_lt_mul_right h4 (by omega)
theorem sum_mul : ∀ (l : List Int) (p : Int), (l.map fun x => x * p).sum = l.sum * p
  | [], p => by simp
  | x :: r, p => by rw [List.map_cons, List.sum_cons, List.sum_cons, sum_mul r p, Int.add_mul]
theorem sum_ceil {q p : Int} (hq : 0 < q) : ∀ (l : List Int), ((l.map fun x => -((-x * p) / q)).sum - l.length) * q ≤ l.sum * p
  | [] => by simp
  | x :: r => by
    have ih := sum_ceil (q := q) (p := p) hq r
    have h := ceil_lt (x := x) (p := p) hq
    rw [List.map_cons, List.sum_cons, List.sum_cons, Int.add_mul, List.length_cons]
    have e : (-((-x * p) / q) + (r.map fun x => -((-x * p) / q)).sum - ((r.length + 1 : Nat) : Int)) = (-((-x * p) / q) - 1) + ((r.map fun x => -((-x * p) / q)).sum - (r.length : Int)) := by omega
    rw [e, Int.add_mul]
    omega
theorem sum_ceil_lt {q p : Int} (hq : 0 < q) : ∀ (l : List Int), l ≠ [] → ((l.map fun x => -((-x * p) / q)).sum - l.length) * q < l.sum * p
  | [], h => absurd rfl h
  | x :: r, _ => by
    have ih := sum_ceil (q := q) (p := p) hq r
    have h := ceil_lt (x := x) (p := p) hq
    rw [List.map_cons, List.sum_cons, List.sum_cons, Int.add_mul, List.length_cons]
    have e : (-((-x * p) / q) + (r.map fun x => -((-x * p) / q)).sum - ((r.length + 1 : Nat) : Int)) = (-((-x * p) / q) - 1) + ((r.map fun x => -((-x * p) / q)).sum - (r.length : Int)) := by omega
    rw [e, Int.add_mul]
    omega
theorem start_sum {a : List Int} {c : Int} (pos : AllPos a) (hc : 0 ≤ c) (h : c < a.sum) : (startAt a (partsOf a c)).sum ≤ c := by
  have hq : 0 < a.sum := by omega
  have ne : a ≠ [] := fun z => by subst z; simp at h; omega
  unfold partsOf
  by_cases hp : 0 ≤ c - a.length + 1
  · rw [Int.max_eq_right hp]
    have h2 := sum_ceil_lt (q := a.sum) (p := c - a.length + 1) hq a ne
    rw [Int.mul_comm a.sum] at h2
    have := Int.lt_of_mul_lt_mul_right h2 (by omega)
    show (a.map _).sum ≤ c
    omega
  · rw [Int.max_eq_left (by omega)]
    have e : startAt a 0 = zeros a := by
      unfold startAt zeros
      apply List.ext_getElem?
      intro i
      rw [List.getElem?_map, List.getElem?_replicate]
      by_cases hi : i < a.length
      · rw [g_get hi, if_pos hi]
        simp
      · rw [List.getElem?_eq_none (by omega), if_neg hi]
        rfl
    rw [e, zeros_sum]
    exact hc
/-- the program's sharing is the coins' -/
theorem prog_share {a : List Int} {c : Int} (pos : AllPos a) (hc : 0 ≤ c) (h : c < a.sum) : steps a (c - (startAt a (partsOf a c)).sum).toNat (startAt a (partsOf a c)) = share a c := by
  have hs := start_sum pos hc h
  have ne : a ≠ [] := fun z => by subst z; simp at h; omega
  have hl : 0 < a.length := List.length_pos_iff.mpr ne
  have V := start_valid (a := a) (p := partsOf a c) pos (by unfold partsOf; omega) (by unfold partsOf; omega) (by omega)
  obtain ⟨W, s⟩ := steps_ok pos V (c - (startAt a (partsOf a c)).sum).toNat (by omega)
  exact share_unique pos hc W (by rw [s]; omega)
theorem full_share {a : List Int} {c : Int} (pos : AllPos a) (hc : 0 ≤ c) (h : a.sum ≤ c) : a = share a c :=
  share_unique pos hc (valid_full pos) (by omega)
theorem nat_of {x : Int} {n : Nat} (h0 : 0 ≤ x) (h1 : x < n) : ∃ j : Nat, x = (j : Int) ∧ j < n := ⟨x.toNat, by omega, by omega⟩


end Rf
namespace Rf
open PySem PySem.Spec PyProof.Rows L2
/-! ### books: the mathematics of points 2 to 5 -/
structure Clm where
  d : Int
  c : Int
  a : Int
  r : Int
structure Bk where
  cash : List Int
  claims : List Clm
def Bk.clm (B : Bk) (k : Nat) : Clm := B.claims.getD k ⟨0, 0, 0, 0⟩
/-- a claim that point 2 lets by, among n houses -/
structure GoodC (n : Int) (q : Clm) : Prop where
  d0 : 0 ≤ q.d
  d1 : q.d < n
  c0 : 0 ≤ q.c
  c1 : q.c < n
  ne : q.d ≠ q.c
  a0 : 1 ≤ q.a
  a1 : q.a ≤ 999
  r0 : 1 ≤ q.r
  r1 : q.r ≤ 9
structure Good (B : Bk) : Prop where
  n0 : 1 ≤ B.cash.length
  n1 : B.cash.length ≤ 8
  cash : ∀ x ∈ B.cash, 0 ≤ x ∧ x ≤ 999
  m1 : B.claims.length ≤ 24
  claims : ∀ q ∈ B.claims, GoodC (B.cash.length : Int) q
theorem Bk.clm_get {B : Bk} {k : Nat} (h : k < B.claims.length) : B.claims[k]? = some (B.clm k) := by
  unfold Bk.clm
  rw [List.getD_eq_getElem?_getD, List.getElem?_eq_getElem h]
  rfl
theorem Bk.clm_of {B : Bk} {k : Nat} {q : Clm} (h : B.claims[k]? = some q) : B.clm k = q := by
  unfold Bk.clm
  rw [List.getD_eq_getElem?_getD, h]
  rfl
theorem Good.clm {B : Bk} (G : Good B) {k : Nat} (h : k < B.claims.length) : GoodC (B.cash.length : Int) (B.clm k) := G.claims _ (List.mem_of_getElem? (Bk.clm_get h))
/-- the claims of which h is the debtor; those of rank r; of the first i claims alone -/
def owesUp (B : Bk) (h : Int) (i : Nat) : List Nat := (List.range i).filter fun k => decide ((B.clm k).d = h)
def rankUp (B : Bk) (h r : Int) (i : Nat) : List Nat := (List.range i).filter fun k => decide ((B.clm k).d = h) && decide ((B.clm k).r = r)
def owes (B : Bk) (h : Int) : List Nat := owesUp B h B.claims.length
def ofRank (B : Bk) (h r : Int) : List Nat := rankUp B h r B.claims.length
def amt (B : Bk) (k : Nat) : Int := (B.clm k).a
def amts (B : Bk) (h r : Int) : List Int := (ofRank B h r).map (amt B)
theorem range_filter_succ (f : Nat → Bool) (i : Nat) : (List.range (i + 1)).filter f = (List.range i).filter f ++ (if f i = true then [i] else []) := by
  rw [List.range_succ, List.filter_append, List.filter_cons, List.filter_nil]
theorem mem_owesUp {B : Bk} {h : Int} {i k : Nat} : k ∈ owesUp B h i ↔ k < i ∧ (B.clm k).d = h := by
  unfold owesUp
  rw [List.mem_filter, List.mem_range, decide_eq_true_iff]
theorem mem_rankUp {B : Bk} {h r : Int} {i k : Nat} : k ∈ rankUp B h r i ↔ k < i ∧ (B.clm k).d = h ∧ (B.clm k).r = r := by
  unfold rankUp
  rw [List.mem_filter, List.mem_range, Bool.and_eq_true, decide_eq_true_iff, decide_eq_true_iff]
theorem rankUp_len (B : Bk) (h r : Int) (i : Nat) : (rankUp B h r i).length ≤ i := by
  unfold rankUp
  have := List.length_filter_le (fun k => decide ((B.clm k).d = h) && decide ((B.clm k).r = r)) (List.range i)
  rw [List.length_range] at this
  exact this
theorem owesUp_len (B : Bk) (h : Int) (i : Nat) : (owesUp B h i).length ≤ i := by
  unfold owesUp
  have := List.length_filter_le (fun k => decide ((B.clm k).d = h)) (List.range i)
  rw [List.length_range] at this
  exact this
theorem amts_ok {B : Bk} (G : Good B) (h r : Int) : ∀ x ∈ amts B h r, 1 ≤ x ∧ x ≤ 999 := fun x hx => by
  obtain ⟨k, hk, rfl⟩ := List.mem_map.mp hx
  have q := G.clm (mem_rankUp.mp hk).1
  exact ⟨q.a0, q.a1⟩
/-! the sharing's length; coins below nought are none -/
theorem nextS_len (a p : List Int) : (nextS a p).length = p.length := by
  unfold nextS
  split
  · rw [List.length_set]
  · rfl
theorem steps_len (a : List Int) : ∀ (n : Nat) (p : List Int), (steps a n p).length = p.length
  | 0, _ => rfl
  | n + 1, p => by
    show (nextS a (steps a n p)).length = p.length
    rw [nextS_len, steps_len a n p]
theorem share_len (a : List Int) (c : Int) : (share a c).length = a.length := by
  unfold share shareN
  rw [steps_len]
  exact List.length_replicate
theorem share_max {a : List Int} (pos : AllPos a) (c : Int) : share a (max 0 c) = share a c := by
  have h0 := pos.sum_nn
  unfold share
  have e : (min (max 0 c) a.sum).toNat = (min c a.sum).toNat := by omega
  rw [e]
/-! what a house pays: rank by rank -/
def payFrom (B : Bk) (h : Int) : List Int → Int → List (Nat × Int)
  | [], _ => []
  | r :: rs, m => (ofRank B h r).zip (share (amts B h r) m) ++ payFrom B h rs (m - (share (amts B h r) m).sum)
def ranks9 : List Int := [1, 2, 3, 4, 5, 6, 7, 8, 9]
theorem amts_len (B : Bk) (h r : Int) : (amts B h r).length = (ofRank B h r).length := List.length_map _
theorem pay_keys (B : Bk) (h : Int) : ∀ (rs : List Int) (m : Int), (payFrom B h rs m).map (·.1) = rs.flatMap (ofRank B h)
  | [], _ => rfl
  | r :: rs, m => by
    unfold payFrom
    rw [List.map_append, pay_keys B h rs, List.flatMap_cons]
    congr 1
    exact List.map_fst_zip (by rw [share_len, amts_len]; exact Nat.le_refl _)
theorem mem_flat {B : Bk} {h : Int} {rs : List Int} {k : Nat} : k ∈ rs.flatMap (ofRank B h) ↔ k < B.claims.length ∧ (B.clm k).d = h ∧ (B.clm k).r ∈ rs := by
  rw [List.mem_flatMap]
  constructor
  · rintro ⟨r, hr, hk⟩
    have q := mem_rankUp.mp hk
    exact ⟨q.1, q.2.1, by rw [q.2.2]; exact hr⟩
  · rintro ⟨h1, h2, h3⟩
    exact ⟨_, h3, mem_rankUp.mpr ⟨h1, h2, rfl⟩⟩
theorem nodup_filter_range (f : Nat → Bool) (n : Nat) : ((List.range n).filter f).Nodup := List.nodup_range.filter f
theorem flat_nodup {B : Bk} {h : Int} : ∀ {rs : List Int}, rs.Nodup → (rs.flatMap (ofRank B h)).Nodup
  | [], _ => List.nodup_nil
  | r :: rs, hn => by
    rw [List.flatMap_cons]
    have hn2 := List.nodup_cons.mp hn
    refine List.nodup_append.mpr ⟨nodup_filter_range _ _, flat_nodup hn2.2, fun a ha b hb e => ?_⟩
    subst e
    have q := mem_rankUp.mp ha
    have q2 := (mem_flat.mp hb).2.2
    rw [q.2.2] at q2
    exact hn2.1 q2
theorem ranks9_mem {B : Bk} (G : Good B) {k : Nat} (h : k < B.claims.length) : (B.clm k).r ∈ ranks9 := by
  have q := G.clm h
  have h1 := q.r0
  have h2 := q.r1
  generalize (B.clm k).r = r at *
  have : r = 1 ∨ r = 2 ∨ r = 3 ∨ r = 4 ∨ r = 5 ∨ r = 6 ∨ r = 7 ∨ r = 8 ∨ r = 9 := by omega
  simp only [ranks9, List.mem_cons, List.not_mem_nil, or_false]
  exact this
/-- ranks without a claim may be left out -/
theorem pay_filter (B : Bk) (h : Int) : ∀ (rs : List Int) (m : Int), payFrom B h (rs.filter fun r => !(ofRank B h r).isEmpty) m = payFrom B h rs m
  | [], _ => rfl
  | r :: rs, m => by
    rw [List.filter_cons]
    cases e : (ofRank B h r) with
    | nil =>
      have ea : amts B h r = [] := by
        unfold amts
        rw [e]
        rfl
      have es : share (amts B h r) m = [] := List.eq_nil_of_length_eq_zero (by rw [share_len, ea]; rfl)
      rw [if_neg (by simp)]
      conv => rhs; unfold payFrom
      rw [es, e, pay_filter B h rs]
      show payFrom B h rs m = payFrom B h rs (m - 0)
      rw [Int.sub_zero]
    | cons k t =>
      rw [if_pos (by simp)]
      conv => lhs; unfold payFrom
      conv => rhs; unfold payFrom
      rw [pay_filter B h rs]
/-! sorted lists with like members are one -/
theorem sorted_ext {α : Type} {f : α → Int} : ∀ {l m : List α}, l.Pairwise (fun x y => f x < f y) → m.Pairwise (fun x y => f x < f y) → (∀ x, x ∈ l ↔ x ∈ m) → l = m
  | [], [], _, _, _ => rfl
  | [], y :: m, _, _, h => absurd ((h y).mpr List.mem_cons_self) List.not_mem_nil
  | x :: l, [], _, _, h => absurd ((h x).mp List.mem_cons_self) List.not_mem_nil
  | x :: l, y :: m, hl, hm, h => by
    have hl2 := List.pairwise_cons.mp hl
    have hm2 := List.pairwise_cons.mp hm
    have e : x = y := by
      rcases List.mem_cons.mp ((h x).mp List.mem_cons_self) with q | q
      · exact q
      · rcases List.mem_cons.mp ((h y).mpr List.mem_cons_self) with z | z
        · exact z.symm
        · have := hm2.1 x q
          have := hl2.1 y z
          omega
    subst e
    congr 1
    refine sorted_ext hl2.2 hm2.2 fun z => ⟨fun hz => ?_, fun hz => ?_⟩
    · rcases List.mem_cons.mp ((h z).mp (List.mem_cons_of_mem _ hz)) with q | q
      · subst q
        have := hl2.1 z hz
        omega
      · exact q
    · rcases List.mem_cons.mp ((h z).mpr (List.mem_cons_of_mem _ hz)) with q | q
      · subst q
        have := hm2.1 z hz
        omega
      · exact q
theorem lookup_of {l : List (Nat × Int)} (hn : (l.map (·.1)).Nodup) {k : Nat} {c : Int} (h : (k, c) ∈ l) : l.lookup k = some c := by
  induction l with
  | nil => cases h
  | cons p r ih =>
    obtain ⟨k2, c2⟩ := p
    have hn2 := List.nodup_cons.mp (show (k2 :: r.map (·.1)).Nodup from hn)
    rw [List.lookup_cons]
    rcases List.mem_cons.mp h with e | e
    · cases e
      simp
    · have ne : ¬ k = k2 := fun z => hn2.1 (by rw [← z]; exact List.mem_map_of_mem (f := (·.1)) e)
      have hb : (k == k2) = false := beq_eq_false_iff_ne.mpr ne
      rw [hb]
      exact ih hn2.2 e
/-- what a house pays each of its claims, by the claims' numbers -/
def coinOf (B : Bk) (h m : Int) (k : Nat) : Int := ((payFrom B h ranks9 m).lookup k).getD 0
def payList (B : Bk) (h m : Int) : List (Nat × Int) := (owes B h).map fun k => (k, coinOf B h m k)
theorem pay_nodup (B : Bk) (h m : Int) : ((payFrom B h ranks9 m).map (·.1)).Nodup := by
  rw [pay_keys]
  exact flat_nodup (by decide)
theorem mem_payList {B : Bk} (G : Good B) {h m : Int} {x : Nat × Int} : x ∈ payList B h m ↔ x ∈ payFrom B h ranks9 m := by
  obtain ⟨k, c⟩ := x
  unfold payList
  rw [List.mem_map]
  constructor
  · rintro ⟨k2, hk, e⟩
    cases e
    have q := mem_owesUp.mp hk
    have hm : k ∈ (payFrom B h ranks9 m).map (·.1) := by
      rw [pay_keys]
      exact mem_flat.mpr ⟨q.1, q.2, ranks9_mem G q.1⟩
    obtain ⟨⟨k3, c3⟩, h3, e3⟩ := List.mem_map.mp hm
    have e3' : k3 = k := e3
    subst e3'
    unfold coinOf
    rw [lookup_of (pay_nodup B h m) h3]
    exact h3
  · intro hx
    have hm : k ∈ (payFrom B h ranks9 m).map (·.1) := List.mem_map_of_mem (f := (·.1)) hx
    rw [pay_keys] at hm
    have q := mem_flat.mp hm
    refine ⟨k, mem_owesUp.mpr ⟨q.1, q.2.1⟩, ?_⟩
    unfold coinOf
    rw [lookup_of (pay_nodup B h m) hx]
    rfl
theorem range_pairwise (f : Nat → Bool) (n : Nat) : ((List.range n).filter f).Pairwise (· < ·) := List.pairwise_lt_range.sublist List.filter_sublist
theorem payList_sorted (B : Bk) (h m : Int) : (payList B h m).Pairwise (fun x y => (x.1 : Int) < (y.1 : Int)) := by
  unfold payList
  rw [List.pairwise_map]
  exact (range_pairwise _ _).imp fun h => by simpa using h
/-- any arrangement of what is paid, rising by the claims' numbers, is that list -/
theorem payList_unique {B : Bk} (G : Good B) {h m : Int} {L : List (Nat × Int)} (hs : L.Pairwise (fun x y => (x.1 : Int) < (y.1 : Int))) (hp : L.Perm (payFrom B h ranks9 m)) : L = payList B h m :=
  sorted_ext (f := fun x => (x.1 : Int)) hs (payList_sorted B h m) fun _ => hp.mem_iff.trans (mem_payList G).symm
/-- what a house owes in all -/
def owedIn (B : Bk) (h : Int) : Int := ((owes B h).map (amt B)).sum
theorem pay_len (B : Bk) (h : Int) : ∀ (rs : List Int) (m : Int), (payFrom B h rs m).length = ((rs.map fun r => (ofRank B h r).length)).sum
  | [], _ => rfl
  | r :: rs, m => by
    unfold payFrom
    rw [List.length_append, List.length_zip, share_len, amts_len, Nat.min_self, pay_len B h rs, List.map_cons, List.sum_cons]


end Rf
namespace Rf
open PySem PySem.Spec PyProof.Rows L2
/-! ### clearings: the mathematics of points 3, 5, 6 -/
def sumIf (f : Nat → Bool) (v : Nat → Int) : Nat → Int
  | 0 => 0
  | i + 1 => sumIf f v i + (if f i = true then v i else 0)
theorem sumIf_le {f : Nat → Bool} {v w : Nat → Int} : ∀ {n : Nat}, (∀ k, k < n → f k = true → v k ≤ w k) → sumIf f v n ≤ sumIf f w n
  | 0, _ => Int.le_refl _
  | n + 1, h => by
    have ih := sumIf_le (f := f) (v := v) (w := w) (n := n) fun k hk => h k (by omega)
    unfold sumIf
    by_cases e : f n = true
    · have := h n (Nat.lt_succ_self n) e
      rw [if_pos e, if_pos e]
      omega
    · rw [if_neg e, if_neg e]
      omega
theorem sumIf_congr {f f' : Nat → Bool} {v w : Nat → Int} : ∀ {n : Nat}, (∀ k, k < n → f k = f' k) → (∀ k, k < n → f k = true → v k = w k) → sumIf f v n = sumIf f' w n
  | 0, _, _ => rfl
  | n + 1, h, h2 => by
    have ih := sumIf_congr (f := f) (f' := f') (v := v) (w := w) (n := n) (fun k hk => h k (by omega)) fun k hk => h2 k (by omega)
    unfold sumIf
    rw [ih, ← h n (Nat.lt_succ_self n)]
    by_cases e : f n = true
    · rw [if_pos e, if_pos e, h2 n (Nat.lt_succ_self n) e]
    · rw [if_neg e, if_neg e]
theorem sumIf_nonneg {f : Nat → Bool} {v : Nat → Int} : ∀ {n : Nat}, (∀ k, k < n → f k = true → 0 ≤ v k) → 0 ≤ sumIf f v n
  | 0, _ => Int.le_refl _
  | n + 1, h => by
    have ih := sumIf_nonneg (f := f) (v := v) (n := n) fun k hk => h k (by omega)
    unfold sumIf
    by_cases e : f n = true
    · have := h n (Nat.lt_succ_self n) e
      rw [if_pos e]
      omega
    · rw [if_neg e]
      omega
theorem sumIf_eq_of {f : Nat → Bool} {v w : Nat → Int} : ∀ {n : Nat}, (∀ k, k < n → f k = true → v k ≤ w k) → sumIf f w n ≤ sumIf f v n → ∀ k, k < n → f k = true → v k = w k
  | 0, _, _, k, hk, _ => absurd hk (Nat.not_lt_zero _)
  | n + 1, h, hs, k, hk, hf => by
    have h1 := sumIf_le (f := f) (v := v) (w := w) (n := n) fun k hk => h k (by omega)
    unfold sumIf at hs
    by_cases e : f n = true
    · have h2 := h n (Nat.lt_succ_self n) e
      rw [if_pos e, if_pos e] at hs
      by_cases q : k = n
      · subst q
        omega
      · exact sumIf_eq_of (n := n) (fun k hk => h k (by omega)) (by omega) k (by omega) hf
    · rw [if_neg e, if_neg e] at hs
      have q : k ≠ n := fun z => e (z ▸ hf)
      exact sumIf_eq_of (n := n) (fun k hk => h k (by omega)) (by omega) k (by omega) hf
theorem sumIf_list {f : Nat → Bool} {v : Nat → Int} : ∀ {n : Nat}, (((List.range n).filter f).map v).sum = sumIf f v n
  | 0 => rfl
  | n + 1 => by
    have ih := sumIf_list (f := f) (v := v) (n := n)
    rw [range_filter_succ, List.map_append, List.sum_append, ih]
    show sumIf f v n + _ = sumIf f v n + (if f n = true then v n else 0)
    by_cases e : f n = true
    · rw [if_pos e, if_pos e]
      simp
    · rw [if_neg e, if_neg e]
      simp
theorem sumIf_add {f : Nat → Bool} {v w : Nat → Int} : ∀ {n : Nat}, sumIf f (fun k => v k + w k) n = sumIf f v n + sumIf f w n
  | 0 => rfl
  | n + 1 => by
    unfold sumIf
    rw [sumIf_add (n := n)]
    by_cases e : f n = true
    · rw [if_pos e, if_pos e, if_pos e]
      omega
    · rw [if_neg e, if_neg e, if_neg e]
      omega
theorem perm_sum {l m : List Int} (h : l.Perm m) : l.sum = m.sum := by
  induction h with
  | nil => rfl
  | cons x _ ih => rw [List.sum_cons, List.sum_cons, ih]
  | swap x y l => rw [List.sum_cons, List.sum_cons, List.sum_cons, List.sum_cons]; omega
  | trans _ _ h1 h2 => rw [h1, h2]
/-! more coins: nobody gets less -/
theorem share_step_le {a : List Int} {c : Int} (pos : AllPos a) (hc : 0 ≤ c) (i : Nat) (hi : i < a.length) : g (share a c) i ≤ g (share a (c + 1)) i := by
  by_cases h : c < a.sum
  · rw [share_next pos hc h]
    unfold nextS
    split
    · next f hf =>
      have F := firstUp_some pos (Nat.le_refl _) hf
      have fl : f < (share a c).length := by rw [share_len]; exact F.lt
      by_cases e : f = i
      · subst e
        rw [g_set_same fl]
        omega
      · rw [g_set_ne e]
        exact Int.le_refl _
    · exact Int.le_refl _
  · rw [← full_share pos hc (by omega), ← full_share pos (by omega) (by omega)]
    exact Int.le_refl _
theorem share_mono {a : List Int} {c e : Int} (pos : AllPos a) (hc : 0 ≤ c) (h : c ≤ e) (i : Nat) (hi : i < a.length) : g (share a c) i ≤ g (share a e) i := by
  obtain ⟨n, hn⟩ : ∃ n : Nat, e = c + n := ⟨(e - c).toNat, by omega⟩
  subst hn
  clear h
  induction n with
  | zero =>
    rw [show c + ((0 : Nat) : Int) = c by omega]
    exact Int.le_refl _
  | succ n ih =>
    have h1 := share_step_le pos (c := c + n) (by omega) i hi
    rw [show c + ((n + 1 : Nat) : Int) = c + n + 1 by omega]
    omega
theorem amtsPos {B : Bk} (G : Good B) (x r : Int) : AllPos (amts B x r) := AllPos.of fun z hz => by
  have := amts_ok G x r z hz
  omega
/-- what is paid, entry by entry, with more means -/
theorem pay_mono {B : Bk} (G : Good B) (x : Int) : ∀ (rs : List Int) {m m' : Int}, 0 ≤ m → m ≤ m' → ∀ (j : Nat) (p p' : Nat × Int), (payFrom B x rs m)[j]? = some p → (payFrom B x rs m')[j]? = some p' → p.1 = p'.1 ∧ p.2 ≤ p'.2
  | [], _, _, _, _, j, p, p', h, _ => by cases h
  | r :: rs, m, m', h0, hm, j, p, p', h, h' => by
    unfold payFrom at h h'
    have pos := amtsPos G x r
    have l1 : ((ofRank B x r).zip (share (amts B x r) m)).length = (ofRank B x r).length := by rw [List.length_zip, share_len, amts_len, Nat.min_self]
    have l2 : ((ofRank B x r).zip (share (amts B x r) m')).length = (ofRank B x r).length := by rw [List.length_zip, share_len, amts_len, Nat.min_self]
    have s1 := (share_ok pos h0).2
    have s2 := (share_ok pos (show 0 ≤ m' by omega)).2
    have nn := pos.sum_nn
    by_cases hj : j < (ofRank B x r).length
    · rw [List.getElem?_append_left (by rw [l1]; exact hj)] at h
      rw [List.getElem?_append_left (by rw [l2]; exact hj)] at h'
      obtain ⟨a1, a2⟩ := List.getElem?_zip_eq_some.mp h
      obtain ⟨b1, b2⟩ := List.getElem?_zip_eq_some.mp h'
      have e1 : p.1 = p'.1 := Option.some.inj (a1.symm.trans b1)
      have ms := share_mono pos h0 hm j (by rw [amts_len]; exact hj)
      rw [g_of a2, g_of b2] at ms
      exact ⟨e1, ms⟩
    · rw [List.getElem?_append_right (by rw [l1]; omega), l1] at h
      rw [List.getElem?_append_right (by rw [l2]; omega), l2] at h'
      refine pay_mono G x rs ?_ ?_ _ p p' h h'
      · rw [s1]; omega
      · rw [s1, s2]; omega
theorem pay_between {B : Bk} (G : Good B) (x : Int) : ∀ (rs : List Int) {m : Int}, 0 ≤ m → ∀ p ∈ payFrom B x rs m, 0 ≤ p.2 ∧ p.2 ≤ amt B p.1
  | [], _, _, p, h => by cases h
  | r :: rs, m, h0, p, h => by
    unfold payFrom at h
    have pos := amtsPos G x r
    obtain ⟨W, s1⟩ := share_ok pos h0
    have nn := pos.sum_nn
    rcases List.mem_append.mp h with h | h
    · obtain ⟨j, hj, e⟩ := List.mem_iff_getElem.mp h
      have hz : ((ofRank B x r).zip (share (amts B x r) m))[j]? = some p := by rw [List.getElem?_eq_getElem hj, e]
      obtain ⟨a1, a2⟩ := List.getElem?_zip_eq_some.mp hz
      have hj2 : j < (amts B x r).length := by
        rw [amts_len]
        exact (List.getElem?_eq_some_iff.mp a1).1
      have b1 := W.lo j hj2
      have b2 := W.hi j hj2
      rw [g_of a2] at b1 b2
      have e2 : g (amts B x r) j = amt B p.1 := by
        apply g_of
        unfold amts
        rw [List.getElem?_map, a1]
        rfl
      rw [e2] at b2
      exact ⟨b1, b2⟩
    · exact pay_between G x rs (by rw [s1]; omega) p h
def owedBy (B : Bk) (x : Int) (rs : List Int) : Int := (rs.map fun r => (amts B x r).sum).sum
theorem owedBy_nn {B : Bk} (G : Good B) (x : Int) : ∀ rs : List Int, 0 ≤ owedBy B x rs
  | [] => Int.le_refl _
  | r :: rs => by
    have h1 := (amtsPos G x r).sum_nn
    have h2 := owedBy_nn G x rs
    unfold owedBy at *
    rw [List.map_cons, List.sum_cons]
    omega
theorem pay_sum {B : Bk} (G : Good B) (x : Int) : ∀ (rs : List Int) {m : Int}, 0 ≤ m → ((payFrom B x rs m).map (·.2)).sum = min m (owedBy B x rs)
  | [], m, h0 => by
    show (0 : Int) = min m 0
    omega
  | r :: rs, m, h0 => by
    have pos := amtsPos G x r
    have s1 := (share_ok pos h0).2
    have nn := pos.sum_nn
    have nn2 := owedBy_nn G x rs
    have ih := pay_sum G x rs (m := m - (share (amts B x r) m).sum) (by rw [s1]; omega)
    unfold payFrom
    rw [List.map_append, List.sum_append, ih]
    have e : ((ofRank B x r).zip (share (amts B x r) m)).map (·.2) = share (amts B x r) m := List.map_snd_zip (by rw [share_len, amts_len]; exact Nat.le_refl _)
    rw [e, s1]
    have e2 : owedBy B x (r :: rs) = (amts B x r).sum + owedBy B x rs := by
      unfold owedBy
      rw [List.map_cons, List.sum_cons]
    rw [e2]
    omega
/-! the coins of a claim -/
theorem coin_mem {B : Bk} (G : Good B) {x m : Int} {k : Nat} (hk : k < B.claims.length) (hd : (B.clm k).d = x) : (k, coinOf B x m k) ∈ payFrom B x ranks9 m :=
  (mem_payList G).mp (List.mem_map.mpr ⟨k, mem_owesUp.mpr ⟨hk, hd⟩, rfl⟩)
theorem coin_lo {B : Bk} (G : Good B) {x m : Int} {k : Nat} (hk : k < B.claims.length) (hd : (B.clm k).d = x) (h0 : 0 ≤ m) : 0 ≤ coinOf B x m k := (pay_between G x ranks9 h0 _ (coin_mem G hk hd)).1
theorem coin_hi {B : Bk} (G : Good B) {x m : Int} {k : Nat} (hk : k < B.claims.length) (hd : (B.clm k).d = x) (h0 : 0 ≤ m) : coinOf B x m k ≤ amt B k := (pay_between G x ranks9 h0 _ (coin_mem G hk hd)).2
theorem coin_mono {B : Bk} (G : Good B) {x m m' : Int} {k : Nat} (hk : k < B.claims.length) (hd : (B.clm k).d = x) (h0 : 0 ≤ m) (h : m ≤ m') : coinOf B x m k ≤ coinOf B x m' k := by
  obtain ⟨j, hj, e⟩ := List.mem_iff_getElem.mp (coin_mem G (m := m) hk hd)
  have h1 : (payFrom B x ranks9 m)[j]? = some (k, coinOf B x m k) := by rw [List.getElem?_eq_getElem hj, e]
  have hl : j < (payFrom B x ranks9 m').length := by
    rw [pay_len] at hj ⊢
    exact hj
  have h2 := List.getElem?_eq_getElem hl
  obtain ⟨q1, q2⟩ := pay_mono G x ranks9 h0 h j _ _ h1 h2
  have q3 : ((payFrom B x ranks9 m')[j]).1 = k := q1.symm
  have e2 : coinOf B x m' k = ((payFrom B x ranks9 m')[j]).2 := by
    unfold coinOf
    rw [lookup_of (c := ((payFrom B x ranks9 m')[j]).2) (pay_nodup B x m') (by rw [← q3]; exact List.getElem_mem hl)]
    rfl
  rw [e2]
  exact q2
theorem coin_sum {B : Bk} (G : Good B) {x m : Int} (h0 : 0 ≤ m) : sumIf (fun k => decide ((B.clm k).d = x)) (coinOf B x m) B.claims.length = min m (owedBy B x ranks9) := by
  rw [← pay_sum G x ranks9 h0, ← sumIf_list]
  have hp : (payList B x m).Perm (payFrom B x ranks9 m) := by
    refine (List.perm_ext_iff_of_nodup ?_ ?_).mpr fun _ => mem_payList G
    · exact (payList_sorted B x m).imp fun h z => by rw [z] at h; omega
    · exact List.Pairwise.of_map (·.1) (fun a b h z => h (by rw [z])) (pay_nodup B x m)
  have h2 := perm_sum (hp.map (·.2))
  rw [← h2]
  unfold payList
  rw [List.map_map]
  rfl
theorem owedBy_all {B : Bk} (G : Good B) (x : Int) : owedBy B x ranks9 = sumIf (fun k => decide ((B.clm k).d = x)) (amt B) B.claims.length := by
  -- with means enough all is paid: each claim its amount
  have nn := owedBy_nn G x ranks9
  have h1 := coin_sum G (x := x) (m := owedBy B x ranks9) nn
  rw [Int.min_self] at h1
  have h2 : sumIf (fun k => decide ((B.clm k).d = x)) (coinOf B x (owedBy B x ranks9)) B.claims.length ≤ sumIf (fun k => decide ((B.clm k).d = x)) (amt B) B.claims.length :=
    sumIf_le fun k hk hf => coin_hi G hk (of_decide_eq_true hf) nn
  have h3 : sumIf (fun k => decide ((B.clm k).d = x)) (amt B) B.claims.length = (((ranks9.flatMap (ofRank B x)).map (amt B))).sum := by
    rw [← sumIf_list]
    apply perm_sum
    apply List.Perm.map
    refine (List.perm_ext_iff_of_nodup (nodup_filter_range _ _) (flat_nodup (by decide))).mpr fun k => ?_
    rw [mem_flat, List.mem_filter, List.mem_range, decide_eq_true_iff]
    constructor
    · rintro ⟨q1, q2⟩
      exact ⟨q1, q2, ranks9_mem G q1⟩
    · rintro ⟨q1, q2, _⟩
      exact ⟨q1, q2⟩
  have h4 : ∀ rs : List Int, ((rs.flatMap (ofRank B x)).map (amt B)).sum = owedBy B x rs := fun rs => by
    induction rs with
    | nil => rfl
    | cons r rs ih =>
      rw [List.flatMap_cons, List.map_append, List.sum_append, ih]
      unfold owedBy
      rw [List.map_cons, List.sum_cons]
      rfl
  rw [h3, h4]
theorem owedIn_eq {B : Bk} (G : Good B) (x : Int) : owedIn B x = owedBy B x ranks9 := by
  rw [owedBy_all G, ← sumIf_list]
  rfl
/-- enough means: each claim its amount; too few: some less -/
theorem coin_full {B : Bk} (G : Good B) {x m : Int} {k : Nat} (hk : k < B.claims.length) (hd : (B.clm k).d = x) (h : owedIn B x ≤ m) : coinOf B x m k = amt B k := by
  have nn := owedBy_nn G x ranks9
  rw [owedIn_eq G] at h
  have h1 := coin_sum G (x := x) (m := m) (by omega)
  rw [Int.min_eq_right h, owedBy_all G] at h1
  exact sumIf_eq_of (f := fun k => decide ((B.clm k).d = x)) (v := coinOf B x m) (w := amt B) (n := B.claims.length) (fun k hk hf => coin_hi G hk (of_decide_eq_true hf) (by omega)) (by omega) k hk (decide_eq_true hd)


end Rf
namespace Rf
open PySem PySem.Spec PyProof.Rows L2
/-! ### payments led on: best and worst -/
def meansOf (B : Bk) (x : Int) (P : List Int) : Int := g B.cash x.toNat + sumIf (fun k => decide ((B.clm k).c = x)) (g P) P.length
def paidOut (B : Bk) (x : Int) (P : List Int) : Int := sumIf (fun k => decide ((B.clm k).d = x)) (g P) P.length
structure Pay (B : Bk) (P : List Int) : Prop where
  len : P.length = B.claims.length
  lo : ∀ k, k < B.claims.length → 0 ≤ g P k
  hi : ∀ k, k < B.claims.length → g P k ≤ amt B k
def LeP (P Q : List Int) : Prop := P.length = Q.length ∧ ∀ i, i < P.length → g P i ≤ g Q i
theorem LeP.refl (P : List Int) : LeP P P := ⟨rfl, fun _ _ => Int.le_refl _⟩
theorem LeP.trans {P Q R : List Int} (a : LeP P Q) (b : LeP Q R) : LeP P R := ⟨a.1.trans b.1, fun i hi => Int.le_trans (a.2 i hi) (b.2 i (a.1 ▸ hi))⟩
theorem LeP.anti {P Q : List Int} (a : LeP P Q) (b : LeP Q P) : P = Q := ext_g a.1 fun i hi => Int.le_antisymm (a.2 i hi) (b.2 i (a.1 ▸ hi))
theorem LeP.sum {P Q : List Int} (a : LeP P Q) : P.sum ≤ Q.sum := sum_le_of a.1 a.2
theorem LeP.eq {P Q : List Int} (a : LeP P Q) (h : Q.sum ≤ P.sum) : P = Q := eq_of_sum_le a.1 a.2 h
theorem LeP.lt {P Q : List Int} (a : LeP P Q) (h : P ≠ Q) : P.sum < Q.sum := Int.lt_of_not_ge fun z => h (a.eq z)
/-- what is paid when the houses hs pay with the means that P brings -/
def behind (B : Bk) (hs : List Int) (P : List Int) : List Int := (List.range B.claims.length).map fun k => if (B.clm k).d ∈ hs then coinOf B (B.clm k).d (meansOf B (B.clm k).d P) k else g P k
theorem behind_len (B : Bk) (hs P : List Int) : (behind B hs P).length = B.claims.length := by
  unfold behind
  rw [List.length_map, List.length_range]
theorem g_rangeMap {n k : Nat} {f : Nat → Int} (h : k < n) : g ((List.range n).map f) k = f k := by
  apply g_of
  rw [List.getElem?_map, List.getElem?_range h]
  rfl
theorem g_behind {B : Bk} {hs P : List Int} {k : Nat} (h : k < B.claims.length) : g (behind B hs P) k = if (B.clm k).d ∈ hs then coinOf B (B.clm k).d (meansOf B (B.clm k).d P) k else g P k := g_rangeMap h
theorem g_default {l : List Int} {k : Nat} (h : l.length ≤ k) : g l k = 0 := by
  unfold g
  rw [List.getD_eq_getElem?_getD, List.getElem?_eq_none h]
  rfl
theorem cash_nn {B : Bk} (G : Good B) (i : Nat) : 0 ≤ g B.cash i := by
  by_cases h : i < B.cash.length
  · exact (G.cash _ (g_mem h)).1
  · rw [g_default (by omega)]
    exact Int.le_refl _
theorem means_nn {B : Bk} (G : Good B) {P : List Int} (hP : Pay B P) (x : Int) : 0 ≤ meansOf B x P := by
  have h1 := cash_nn G x.toNat
  have h2 : 0 ≤ sumIf (fun k => decide ((B.clm k).c = x)) (g P) P.length := sumIf_nonneg fun k hk _ => hP.lo k (hP.len ▸ hk)
  unfold meansOf
  omega
theorem means_mono {B : Bk} {P Q : List Int} (h : LeP P Q) (x : Int) : meansOf B x P ≤ meansOf B x Q := by
  have h2 : sumIf (fun k => decide ((B.clm k).c = x)) (g P) P.length ≤ sumIf (fun k => decide ((B.clm k).c = x)) (g Q) P.length := sumIf_le fun k hk _ => h.2 k hk
  unfold meansOf
  rw [← h.1]
  omega
theorem behind_pay {B : Bk} (G : Good B) {hs P : List Int} (hP : Pay B P) : Pay B (behind B hs P) := by
  refine ⟨behind_len B hs P, fun k hk => ?_, fun k hk => ?_⟩
  · rw [g_behind hk]
    split
    · exact coin_lo G hk rfl (means_nn G hP _)
    · exact hP.lo k hk
  · rw [g_behind hk]
    split
    · exact coin_hi G hk rfl (means_nn G hP _)
    · exact hP.hi k hk
theorem behind_mono {B : Bk} (G : Good B) {hs P Q : List Int} (hP : Pay B P) (h : LeP P Q) : LeP (behind B hs P) (behind B hs Q) := by
  refine ⟨by rw [behind_len, behind_len], fun k hk => ?_⟩
  rw [behind_len] at hk
  rw [g_behind hk, g_behind hk]
  split
  · exact coin_mono G hk rfl (means_nn G hP _) (means_mono h _)
  · exact h.2 k (by rw [hP.len]; exact hk)
/-- fewer houses pay by their means: nobody gets less, where all is at most the amounts -/
theorem behind_anti {B : Bk} (G : Good B) {hs hs' P : List Int} (hP : Pay B P) (hsub : ∀ x ∈ hs, x ∈ hs') (hfix : LeP (behind B hs' P) P) : LeP (behind B hs' P) (behind B hs P) := by
  refine ⟨by rw [behind_len, behind_len], fun k hk => ?_⟩
  rw [behind_len] at hk
  have h1 := hfix.2 k (by rw [behind_len]; exact hk)
  rw [g_behind hk] at h1 ⊢
  rw [g_behind hk]
  by_cases e : (B.clm k).d ∈ hs
  · rw [if_pos e, if_pos (hsub _ e)]
    exact Int.le_refl _
  · rw [if_neg e]
    exact h1
def led (B : Bk) (hs : List Int) : Nat → List Int → List Int
  | 0, P => P
  | n + 1, P => behind B hs (led B hs n P)
theorem led_pay {B : Bk} (G : Good B) {hs P : List Int} (hP : Pay B P) : ∀ n, Pay B (led B hs n P)
  | 0 => hP
  | n + 1 => behind_pay G (led_pay G hP n)
theorem led_fixed {B : Bk} {hs P : List Int} (h : behind B hs P = P) : ∀ n, led B hs n P = P
  | 0 => rfl
  | n + 1 => by
    show behind B hs (led B hs n P) = P
    rw [led_fixed h n, h]
theorem led_succ' {B : Bk} {hs : List Int} : ∀ (n : Nat) (P : List Int), led B hs (n + 1) P = led B hs n (behind B hs P)
  | 0, _ => rfl
  | n + 1, P => by
    show behind B hs (led B hs (n + 1) P) = behind B hs (led B hs n (behind B hs P))
    rw [led_succ' n P]
theorem led_stays {B : Bk} {hs P : List Int} {n m : Nat} (h : behind B hs (led B hs n P) = led B hs n P) (hm : n ≤ m) : led B hs m P = led B hs n P := by
  obtain ⟨d, rfl⟩ : ∃ d, m = n + d := ⟨m - n, by omega⟩
  induction d with
  | zero => rfl
  | succ d ih =>
    show behind B hs (led B hs (n + d) P) = _
    rw [ih (by omega), h]
theorem led_down {B : Bk} (G : Good B) {hs P : List Int} (hP : Pay B P) (h : LeP (behind B hs P) P) : ∀ n, LeP (led B hs (n + 1) P) (led B hs n P)
  | 0 => h
  | n + 1 => behind_mono G (led_pay G hP (n + 1)) (led_down G hP h n)
theorem led_up {B : Bk} (G : Good B) {hs P : List Int} (hP : Pay B P) (h : LeP P (behind B hs P)) : ∀ n, LeP (led B hs n P) (led B hs (n + 1) P)
  | 0 => h
  | n + 1 => behind_mono G (led_pay G hP n) (led_up G hP h n)
theorem Pay.sum_nn {B : Bk} {P : List Int} (h : Pay B P) : 0 ≤ P.sum := sum_nonneg fun i hi => h.lo i (h.len ▸ hi)
def allP (B : Bk) : List Int := B.claims.map (·.a)
theorem g_allP {B : Bk} {k : Nat} (h : k < B.claims.length) : g (allP B) k = amt B k := by
  apply g_of
  unfold allP
  rw [List.getElem?_map, Bk.clm_get h]
  rfl
theorem allP_len (B : Bk) : (allP B).length = B.claims.length := List.length_map _
def noneP (B : Bk) : List Int := List.replicate B.claims.length 0
theorem g_noneP {B : Bk} {k : Nat} (h : k < B.claims.length) : g (noneP B) k = 0 := by
  apply g_of
  unfold noneP
  rw [List.getElem?_replicate, if_pos h]
theorem noneP_len (B : Bk) : (noneP B).length = B.claims.length := List.length_replicate
theorem amt_pos {B : Bk} (G : Good B) {k : Nat} (h : k < B.claims.length) : 1 ≤ amt B k ∧ amt B k ≤ 999 := ⟨(G.clm h).a0, (G.clm h).a1⟩
theorem allP_pay {B : Bk} (G : Good B) : Pay B (allP B) := ⟨allP_len B, fun k hk => by rw [g_allP hk]; have := amt_pos G hk; omega, fun k hk => by rw [g_allP hk]; exact Int.le_refl _⟩
theorem noneP_pay {B : Bk} (G : Good B) : Pay B (noneP B) := ⟨noneP_len B, fun k hk => by rw [g_noneP hk]; exact Int.le_refl _, fun k hk => by rw [g_noneP hk]; have := amt_pos G hk; omega⟩
theorem le_allP {B : Bk} {P : List Int} (h : Pay B P) : LeP P (allP B) := ⟨by rw [h.len, allP_len], fun k hk => by rw [h.len] at hk; rw [g_allP hk]; exact h.hi k hk⟩
theorem noneP_le {B : Bk} {P : List Int} (h : Pay B P) : LeP (noneP B) P := ⟨by rw [h.len, noneP_len], fun k hk => by rw [noneP_len] at hk; rw [g_noneP hk]; exact h.lo k hk⟩
theorem Pay.sum_le {B : Bk} {P : List Int} (h : Pay B P) : P.sum ≤ (allP B).sum := (le_allP h).sum
/-- down from P0, each turn that changes takes a coin at the least -/
theorem down_fix {B : Bk} (G : Good B) {hs P : List Int} (hP : Pay B P) (h : LeP (behind B hs P) P) : behind B hs (led B hs P.sum.toNat P) = led B hs P.sum.toNat P := by
  refine Classical.byContradiction fun hne => ?_
  have hstep : ∀ n, n ≤ P.sum.toNat → led B hs (n + 1) P ≠ led B hs n P := fun n hn e => hne (by
    have q := led_stays (m := P.sum.toNat) e hn
    rw [q]
    exact e)
  have hsum : ∀ n, n ≤ P.sum.toNat + 1 → (led B hs n P).sum + n ≤ P.sum := fun n => by
    induction n with
    | zero => intro _; show P.sum + 0 ≤ P.sum; omega
    | succ n ih =>
      intro hn
      have h1 := ih (by omega)
      have h2 := (led_down G hP h n).lt (hstep n (by omega))
      omega
  have h3 := hsum (P.sum.toNat + 1) (Nat.le_refl _)
  have h4 := (led_pay G hP (hs := hs) (P.sum.toNat + 1)).sum_nn
  have h5 := hP.sum_nn
  omega
theorem up_fix {B : Bk} (G : Good B) {hs P : List Int} (hP : Pay B P) (h : LeP P (behind B hs P)) {N : Nat} (hN : (allP B).sum - P.sum ≤ N) : behind B hs (led B hs N P) = led B hs N P := by
  refine Classical.byContradiction fun hne => ?_
  have hstep : ∀ n, n ≤ N → led B hs (n + 1) P ≠ led B hs n P := fun n hn e => hne (by
    have q := led_stays (m := N) e hn
    rw [q]
    exact e)
  have hsum : ∀ n, n ≤ N + 1 → P.sum + n ≤ (led B hs n P).sum := fun n => by
    induction n with
    | zero => intro _; show P.sum + 0 ≤ P.sum; omega
    | succ n ih =>
      intro hn
      have h1 := ih (by omega)
      have h2 := (led_up G hP h n).lt (Ne.symm (hstep n (by omega)))
      omega
  have h3 := hsum (N + 1) (Nat.le_refl _)
  have h4 := (led_pay G hP (hs := hs) (N + 1)).sum_le
  omega
/-- of the payments by which hs pay with their means and all others all, those that no claim has less by -/
def topIn (B : Bk) (hs : List Int) : List Int := led B hs (allP B).sum.toNat (allP B)
def lowIn (B : Bk) (hs : List Int) : List Int := led B hs (allP B).sum.toNat (noneP B)
theorem top_start {B : Bk} (G : Good B) (hs : List Int) : LeP (behind B hs (allP B)) (allP B) := le_allP (behind_pay G (allP_pay G))
theorem low_start {B : Bk} (G : Good B) (hs : List Int) : LeP (noneP B) (behind B hs (noneP B)) := noneP_le (behind_pay G (noneP_pay G))
theorem top_pay {B : Bk} (G : Good B) (hs : List Int) : Pay B (topIn B hs) := led_pay G (allP_pay G) _
theorem low_pay {B : Bk} (G : Good B) (hs : List Int) : Pay B (lowIn B hs) := led_pay G (noneP_pay G) _
theorem top_fix {B : Bk} (G : Good B) (hs : List Int) : behind B hs (topIn B hs) = topIn B hs := down_fix G (allP_pay G) (top_start G hs)
theorem low_fix {B : Bk} (G : Good B) (hs : List Int) : behind B hs (lowIn B hs) = lowIn B hs := up_fix G (noneP_pay G) (low_start G hs) (by
  have h1 := (noneP_pay G).sum_nn
  have h2 := (allP_pay G).sum_nn
  omega)
theorem led_ge {B : Bk} (G : Good B) {hs P Q : List Int} (hQ : Pay B Q) (h : LeP Q (behind B hs Q)) (h0 : LeP Q P) : ∀ n, LeP Q (led B hs n P)
  | 0 => h0
  | n + 1 => h.trans (behind_mono G hQ (led_ge G hQ h h0 n))
theorem led_le {B : Bk} (G : Good B) {hs P Q : List Int} (hP : Pay B P) (h : LeP (behind B hs Q) Q) (h0 : LeP P Q) : ∀ n, LeP (led B hs n P) Q
  | 0 => h0
  | n + 1 => (behind_mono G (led_pay G hP n) (led_le G hP h h0 n)).trans h
theorem top_ge {B : Bk} (G : Good B) {hs Q : List Int} (hQ : Pay B Q) (h : LeP Q (behind B hs Q)) : LeP Q (topIn B hs) := led_ge G hQ h (le_allP hQ) _
theorem low_le {B : Bk} (G : Good B) {hs Q : List Int} (hQ : Pay B Q) (h : LeP (behind B hs Q) Q) : LeP (lowIn B hs) Q := led_le G (noneP_pay G) h (noneP_le hQ) _
/-- wherever leading on from all paid comes to rest, that is it -/
theorem top_of_rest {B : Bk} (G : Good B) {hs : List Int} {n : Nat} (h : behind B hs (led B hs n (allP B)) = led B hs n (allP B)) : led B hs n (allP B) = topIn B hs := by
  refine LeP.anti (top_ge G (led_pay G (allP_pay G) n) (by rw [h]; exact LeP.refl _)) ?_
  exact led_ge G (top_pay G hs) (by rw [top_fix G]; exact LeP.refl _) (le_allP (top_pay G hs)) n
theorem low_of_rest {B : Bk} (G : Good B) {hs : List Int} {n : Nat} (h : behind B hs (led B hs n (noneP B)) = led B hs n (noneP B)) : led B hs n (noneP B) = lowIn B hs := by
  refine LeP.anti ?_ (low_le G (led_pay G (noneP_pay G) n) (by rw [h]; exact LeP.refl _))
  exact led_le G (noneP_pay G) (by rw [low_fix G]; exact LeP.refl _) (noneP_le (low_pay G hs)) n
/-- all houses -/
def houses (B : Bk) : List Int := (List.range B.cash.length).map fun k : Nat => (k : Int)
theorem mem_houses {B : Bk} {x : Int} : x ∈ houses B ↔ 0 ≤ x ∧ x < B.cash.length := by
  unfold houses
  rw [List.mem_map]
  constructor
  · rintro ⟨k, hk, rfl⟩
    have := List.mem_range.mp hk
    omega
  · rintro ⟨h0, h1⟩
    exact ⟨x.toNat, List.mem_range.mpr (by omega), by omega⟩
theorem debtor_in {B : Bk} (G : Good B) {k : Nat} (h : k < B.claims.length) : (B.clm k).d ∈ houses B := mem_houses.mpr ⟨(G.clm h).d0, (G.clm h).d1⟩
theorem creditor_in {B : Bk} (G : Good B) {k : Nat} (h : k < B.claims.length) : (B.clm k).c ∈ houses B := mem_houses.mpr ⟨(G.clm h).c0, (G.clm h).c1⟩
structure Clears (B : Bk) (P : List Int) : Prop where
  pay : Pay B P
  fix : behind B (houses B) P = P
def bestOf (B : Bk) : List Int := topIn B (houses B)
def worstOf (B : Bk) : List Int := lowIn B (houses B)
theorem best_clears {B : Bk} (G : Good B) : Clears B (bestOf B) := ⟨top_pay G _, top_fix G _⟩
theorem worst_clears {B : Bk} (G : Good B) : Clears B (worstOf B) := ⟨low_pay G _, low_fix G _⟩
theorem best_ge {B : Bk} (G : Good B) {Q : List Int} (h : Clears B Q) : LeP Q (bestOf B) := top_ge G h.pay (by rw [h.fix]; exact LeP.refl _)
theorem worst_le {B : Bk} (G : Good B) {Q : List Int} (h : Clears B Q) : LeP (worstOf B) Q := low_le G h.pay (by rw [h.fix]; exact LeP.refl _)
theorem best_is {B : Bk} (G : Good B) {Q : List Int} (h : Clears B Q) (hm : ∀ R, Clears B R → LeP R Q) : Q = bestOf B := (best_ge G h).anti (hm _ (best_clears G))
theorem worst_is {B : Bk} (G : Good B) {Q : List Int} (h : Clears B Q) (hm : ∀ R, Clears B R → LeP Q R) : Q = worstOf B := (hm _ (worst_clears G)).anti (worst_le G h)
/-- by a clearing each house pays the least of its means and what it owes -/
theorem clears_paid {B : Bk} (G : Good B) {P : List Int} (h : Clears B P) (x : Int) : paidOut B x P = min (meansOf B x P) (owedIn B x) := by
  have hm := means_nn G h.pay x
  rw [owedIn_eq G, ← coin_sum G hm]
  unfold paidOut
  rw [h.pay.len]
  refine sumIf_congr (fun _ _ => rfl) fun k hk hf => ?_
  have e := of_decide_eq_true hf
  have h1 := g_behind (hs := houses B) (P := P) hk
  rw [h.fix, if_pos (debtor_in G hk), e] at h1
  exact h1
theorem clears_iff {B : Bk} (G : Good B) {P : List Int} (hP : Pay B P) : Clears B P ↔ ∀ k, k < B.claims.length → g P k = coinOf B (B.clm k).d (meansOf B (B.clm k).d P) k := by
  constructor
  · intro h k hk
    have h1 := g_behind (hs := houses B) (P := P) hk
    rw [h.fix, if_pos (debtor_in G hk)] at h1
    exact h1
  · intro h
    refine ⟨hP, ext_g (by rw [behind_len, hP.len]) fun k hk => ?_⟩
    rw [behind_len] at hk
    rw [g_behind hk, if_pos (debtor_in G hk), h k hk]
theorem owedIn_nn {B : Bk} (G : Good B) (x : Int) : 0 ≤ owedIn B x := by
  rw [owedIn_eq G]
  exact owedBy_nn G x ranks9
/-! ### falling -/
theorem top_anti {B : Bk} (G : Good B) {hs hs' : List Int} (hsub : ∀ x ∈ hs, x ∈ hs') : LeP (topIn B hs') (topIn B hs) := by
  refine top_ge G (top_pay G hs') ?_
  have h := behind_anti G (top_pay G hs') hsub (by rw [top_fix G]; exact LeP.refl _)
  rw [top_fix G] at h
  exact h
theorem top_same {B : Bk} (G : Good B) {hs hs' : List Int} (h : ∀ x ∈ houses B, x ∈ hs ↔ x ∈ hs') : topIn B hs = topIn B hs' := by
  have e : ∀ P, behind B hs P = behind B hs' P := fun P => by
    unfold behind
    apply List.map_congr_left
    intro k hk
    have hk2 := List.mem_range.mp hk
    have := h _ (debtor_in G hk2)
    by_cases q : (B.clm k).d ∈ hs
    · rw [if_pos q, if_pos (this.mp q)]
    · rw [if_neg q, if_neg (fun z => q (this.mpr z))]
  have e2 : ∀ n P, led B hs n P = led B hs' n P := fun n => by
    induction n with
    | zero => intro P; rfl
    | succ n ih =>
      intro P
      show behind B hs (led B hs n P) = behind B hs' (led B hs' n P)
      rw [ih P, e]
  exact e2 _ _
/-- x fails: by the best clearing it doesn't pay all that it owes -/
def Fails (B : Bk) (x : Int) : Prop := paidOut B x (bestOf B) < owedIn B x
theorem fails_iff {B : Bk} (G : Good B) (x : Int) : Fails B x ↔ meansOf B x (bestOf B) < owedIn B x := by
  unfold Fails
  rw [clears_paid G (best_clears G)]
  omega
/-- where only failing houses have fallen, and no other one falls: that is the best clearing -/
theorem top_best {B : Bk} (G : Good B) {hs : List Int} (hin : ∀ x ∈ hs, x ∈ houses B) (hstop : ∀ x, x ∈ houses B → x ∉ hs → owedIn B x ≤ meansOf B x (topIn B hs)) : topIn B hs = bestOf B := by
  have hP := top_pay G hs
  refine LeP.anti (top_ge G hP ?_) (top_anti G hin)
  have hfix := top_fix G hs
  refine ⟨by rw [behind_len, hP.len], fun k hk => ?_⟩
  rw [hP.len] at hk
  rw [g_behind hk, if_pos (debtor_in G hk)]
  have h1 := g_behind (hs := hs) (P := topIn B hs) hk
  rw [hfix] at h1
  by_cases e : (B.clm k).d ∈ hs
  · rw [if_pos e] at h1
    omega
  · have h2 := coin_full G hk rfl (hstop _ (debtor_in G hk) e)
    rw [h2]
    exact hP.hi k hk
/-- a house that falls by some that fall fails -/
theorem falls_fails {B : Bk} (G : Good B) {hs : List Int} {x : Int} (hin : ∀ x ∈ hs, x ∈ houses B) (h : meansOf B x (topIn B hs) < owedIn B x) : Fails B x := by
  rw [fails_iff G]
  have h1 := means_mono (B := B) (top_anti G hin) x
  exact Int.lt_of_le_of_lt h1 h
theorem g_app_left {l m : List Int} {i : Nat} (h : i < l.length) : g (l ++ m) i = g l i := by
  apply g_of
  rw [List.getElem?_append_left h, g_get h]
theorem g_app_last {l : List Int} {x : Int} {i : Nat} (h : i = l.length) : g (l ++ [x]) i = x := by
  apply g_of
  rw [h, List.getElem?_append_right (Nat.le_refl _), Nat.sub_self]
  rfl


end Rf
namespace Rf
open PySem PySem.Spec PyProof.Rows L2
/-! ### more coins; sums; failing; waves -/
theorem clm_same {B B' : Bk} (h : B.claims = B'.claims) : B.clm = B'.clm := by
  funext k
  unfold Bk.clm
  rw [h]
theorem ofRank_same {B B' : Bk} (h : B.claims = B'.claims) (x r : Int) : ofRank B x r = ofRank B' x r := by
  unfold ofRank rankUp
  rw [clm_same h, h]
theorem amt_same {B B' : Bk} (h : B.claims = B'.claims) : amt B = amt B' := by
  funext k
  unfold amt
  rw [clm_same h]
theorem pay_same {B B' : Bk} (h : B.claims = B'.claims) (x : Int) : ∀ (rs : List Int) (m : Int), payFrom B x rs m = payFrom B' x rs m
  | [], _ => rfl
  | r :: rs, m => by
    unfold payFrom
    have e : amts B x r = amts B' x r := by
      unfold amts
      rw [ofRank_same h, amt_same h]
    rw [ofRank_same h, e, pay_same h x rs]
theorem coin_same {B B' : Bk} (h : B.claims = B'.claims) (x m : Int) (k : Nat) : coinOf B x m k = coinOf B' x m k := by
  unfold coinOf
  rw [pay_same h]
theorem owed_same {B B' : Bk} (h : B.claims = B'.claims) (x : Int) : owedIn B x = owedIn B' x := by
  unfold owedIn owes owesUp
  rw [clm_same h, amt_same h, h]
theorem allP_same {B B' : Bk} (h : B.claims = B'.claims) : allP B = allP B' := by
  unfold allP
  rw [h]
/-- the same claims, some houses with more coins -/
structure More (B B' : Bk) : Prop where
  cl : B.claims = B'.claims
  len : B.cash.length = B'.cash.length
  le : ∀ i, g B.cash i ≤ g B'.cash i
theorem pay_more {B B' : Bk} (h : B.claims = B'.claims) {P : List Int} (hP : Pay B P) : Pay B' P := by
  refine ⟨by rw [hP.len, h], fun k hk => hP.lo k (by rw [h]; exact hk), fun k hk => ?_⟩
  rw [← amt_same h]
  exact hP.hi k (by rw [h]; exact hk)
theorem means_more {B B' : Bk} (h : More B B') (x : Int) (P : List Int) : meansOf B x P ≤ meansOf B' x P := by
  unfold meansOf
  rw [clm_same h.cl]
  have := h.le x.toNat
  omega
theorem behind_more' {B B' : Bk} (G' : Good B') (G : Good B) (h : More B B') {hs P : List Int} (hP : Pay B P) : LeP (behind B hs P) (behind B' hs P) := by
  refine ⟨by rw [behind_len, behind_len, h.cl], fun k hk => ?_⟩
  rw [behind_len] at hk
  have hk' : k < B'.claims.length := by rw [← h.cl]; exact hk
  rw [g_behind hk, g_behind hk', ← clm_same h.cl]
  by_cases e : (B.clm k).d ∈ hs
  · rw [if_pos e, if_pos e, coin_same h.cl]
    exact coin_mono G' hk' (by rw [← clm_same h.cl]) (means_nn G hP _) (means_more h _ P)
  · rw [if_neg e, if_neg e]
    exact Int.le_refl _
theorem top_more {B B' : Bk} (G : Good B) (G' : Good B') (h : More B B') (hs : List Int) : LeP (topIn B hs) (topIn B' hs) := by
  have hP := top_pay G hs
  refine top_ge G' (pay_more h.cl hP) ?_
  have q := behind_more' G' G h (hs := hs) hP
  rw [top_fix G] at q
  exact q
theorem low_more {B B' : Bk} (G : Good B) (G' : Good B') (h : More B B') (hs : List Int) : LeP (lowIn B hs) (lowIn B' hs) := by
  have hP := pay_more h.cl.symm (low_pay G' hs)
  refine low_le G hP ?_
  have q := behind_more' G' G h (hs := hs) hP
  rw [low_fix G'] at q
  exact q
theorem houses_same {B B' : Bk} (h : B.cash.length = B'.cash.length) : houses B = houses B' := by
  unfold houses
  rw [h]
theorem best_more {B B' : Bk} (G : Good B) (G' : Good B') (h : More B B') : LeP (bestOf B) (bestOf B') := by
  unfold bestOf
  rw [← houses_same h.len]
  exact top_more G G' h _
theorem worst_more {B B' : Bk} (G : Good B) (G' : Good B') (h : More B B') : LeP (worstOf B) (worstOf B') := by
  unfold worstOf
  rw [← houses_same h.len]
  exact low_more G G' h _
theorem fails_more {B B' : Bk} (G : Good B) (G' : Good B') (h : More B B') {x : Int} (hf : Fails B' x) : Fails B x := by
  rw [fails_iff G'] at hf
  rw [fails_iff G]
  have h1 := means_more h x (bestOf B)
  have h2 := means_mono (B := B') (best_more G G' h) x
  rw [owed_same h.cl]
  omega
/-! sums over houses -/
def sumTo (v : Nat → Int) (n : Nat) : Int := sumIf (fun _ => true) v n
theorem sumTo_list (v : Nat → Int) (n : Nat) : ((List.range n).map v).sum = sumTo v n := by
  unfold sumTo
  rw [← sumIf_list]
  congr 2
  exact (List.filter_eq_self.mpr fun _ _ => rfl).symm
theorem sumTo_succ (v : Nat → Int) (n : Nat) : sumTo v (n + 1) = sumTo v n + v n := by
  unfold sumTo
  show sumIf _ v n + (if true = true then v n else 0) = _
  rw [if_pos rfl]
theorem sumTo_one (c v : Int) : ∀ n : Nat, sumTo (fun x => if c = (x : Int) then v else 0) n = if 0 ≤ c ∧ c < n then v else 0
  | 0 => by
    rw [if_neg (by omega)]
    rfl
  | n + 1 => by
    rw [sumTo_succ, sumTo_one c v n]
    by_cases e : c = (n : Int)
    · rw [if_pos e, if_neg (by omega), if_pos (by omega)]
      omega
    · rw [if_neg e]
      by_cases q : 0 ≤ c ∧ c < n
      · rw [if_pos q, if_pos (by omega)]
        omega
      · rw [if_neg q, if_neg (by omega)]
        rfl
theorem sumTo_add (v w : Nat → Int) (n : Nat) : sumTo (fun x => v x + w x) n = sumTo v n + sumTo w n := sumIf_add
theorem sumTo_congr {v w : Nat → Int} {n : Nat} (h : ∀ k, k < n → v k = w k) : sumTo v n = sumTo w n := sumIf_congr (fun _ _ => rfl) fun k hk _ => h k hk
/-- what goes to the houses is all -/
theorem sumTo_split {f : Nat → Int} {v : Nat → Int} {n : Nat} : ∀ {m : Nat}, (∀ k, k < m → 0 ≤ f k ∧ f k < n) → sumTo (fun x => sumIf (fun k => decide (f k = (x : Int))) v m) n = sumTo v m
  | 0, _ => by
    have : sumTo (fun x : Nat => sumIf (fun k => decide (f k = (x : Int))) v 0) n = sumTo (fun _ => 0) n := sumTo_congr fun _ _ => rfl
    rw [this]
    show sumTo (fun _ => 0) n = 0
    induction n with
    | zero => rfl
    | succ n ih => rw [sumTo_succ, ih (fun k hk => absurd hk (Nat.not_lt_zero _)) (sumTo_congr fun _ _ => rfl)]; rfl
  | m + 1, h => by
    have ih := sumTo_split (f := f) (v := v) (n := n) (m := m) fun k hk => h k (by omega)
    have e : sumTo (fun x => sumIf (fun k => decide (f k = (x : Int))) v (m + 1)) n = sumTo (fun x => sumIf (fun k => decide (f k = (x : Int))) v m + (if f m = (x : Int) then v m else 0)) n := sumTo_congr fun x _ => by
      show sumIf _ v m + (if decide (f m = (x : Int)) = true then v m else 0) = _
      by_cases q : f m = (x : Int)
      · rw [if_pos q, if_pos (decide_eq_true q)]
      · rw [if_neg q, if_neg (by rw [decide_eq_false q]; decide)]
    rw [e, sumTo_add, ih, sumTo_one, if_pos (h m (Nat.lt_succ_self m)), sumTo_succ]
theorem sum_g (l : List Int) : sumTo (g l) l.length = l.sum := by
  rw [← sumTo_list]
  congr 1
  apply List.ext_getElem?
  intro i
  rw [List.getElem?_map]
  by_cases h : i < l.length
  · rw [List.getElem?_range h, g_get h]
    rfl
  · rw [List.getElem?_eq_none (by rw [List.length_range]; omega), List.getElem?_eq_none (by omega)]
    rfl
def leftOf (B : Bk) (P : List Int) : List Int := (List.range B.cash.length).map fun x : Nat => meansOf B (x : Int) P - paidOut B (x : Int) P
theorem leftOf_len (B : Bk) (P : List Int) : (leftOf B P).length = B.cash.length := by
  unfold leftOf
  rw [List.length_map, List.length_range]
/-- no coin comes or goes -/
theorem left_sum {B : Bk} (G : Good B) {P : List Int} (hP : Pay B P) : (leftOf B P).sum = B.cash.sum := by
  have h1 : sumTo (fun x => sumIf (fun k => decide ((B.clm k).c = (x : Int))) (g P) P.length) B.cash.length = sumTo (g P) P.length := sumTo_split fun k hk => by
    have q := G.clm (hP.len ▸ hk)
    exact ⟨q.c0, q.c1⟩
  have h2 : sumTo (fun x => sumIf (fun k => decide ((B.clm k).d = (x : Int))) (g P) P.length) B.cash.length = sumTo (g P) P.length := sumTo_split fun k hk => by
    have q := G.clm (hP.len ▸ hk)
    exact ⟨q.d0, q.d1⟩
  have h3 := sum_g B.cash
  have e : sumTo (fun x => (meansOf B (x : Int) P - paidOut B (x : Int) P) + sumIf (fun k => decide ((B.clm k).d = (x : Int))) (g P) P.length) B.cash.length = sumTo (fun x => g B.cash x + sumIf (fun k => decide ((B.clm k).c = (x : Int))) (g P) P.length) B.cash.length := sumTo_congr fun x _ => by
    unfold meansOf paidOut
    rw [Int.toNat_natCast]
    omega
  rw [sumTo_add, sumTo_add] at e
  unfold leftOf
  rw [sumTo_list]
  omega
theorem left_nn {B : Bk} (G : Good B) {P : List Int} (h : Clears B P) : ∀ x ∈ leftOf B P, 0 ≤ x := fun y hy => by
  obtain ⟨x, _, rfl⟩ := List.mem_map.mp hy
  have q := clears_paid G h (x : Int)
  omega
/-! failing -/
def failingOf (B : Bk) : List Int := (houses B).filter fun x => decide (paidOut B x (bestOf B) < owedIn B x)
theorem mem_failing {B : Bk} {x : Int} : x ∈ failingOf B ↔ x ∈ houses B ∧ Fails B x := by
  unfold failingOf Fails
  rw [List.mem_filter, decide_eq_true_iff]
theorem houses_sorted (B : Bk) : (houses B).Pairwise (· < ·) := by
  unfold houses
  rw [List.pairwise_map]
  exact List.pairwise_lt_range.imp fun h => by simpa using h
theorem failing_sorted (B : Bk) : (failingOf B).Pairwise (· < ·) := (houses_sorted B).sublist List.filter_sublist
theorem owed_sum {B : Bk} (G : Good B) (x : Int) : owedIn B x = sumIf (fun k => decide ((B.clm k).d = x)) (amt B) B.claims.length := by
  rw [owedIn_eq G, owedBy_all G]
/-- nobody fails: all is paid -/
theorem none_fails {B : Bk} (G : Good B) : failingOf B = [] ↔ bestOf B = allP B := by
  have hP := (best_clears G).pay
  constructor
  · intro h
    refine ext_g (by rw [hP.len, allP_len]) fun k hk => ?_
    rw [hP.len] at hk
    rw [g_allP hk]
    have hn : ¬ Fails B (B.clm k).d := fun z => by
      have : (B.clm k).d ∈ failingOf B := mem_failing.mpr ⟨debtor_in G hk, z⟩
      rw [h] at this
      exact List.not_mem_nil this
    unfold Fails at hn
    rw [owed_sum G] at hn
    unfold paidOut at hn
    rw [hP.len] at hn
    exact sumIf_eq_of (f := fun j => decide ((B.clm j).d = (B.clm k).d)) (v := g (bestOf B)) (w := amt B) (fun j hj _ => hP.hi j hj) (by omega) k hk (decide_eq_true rfl)
  · intro h
    refine List.eq_nil_iff_forall_not_mem.mpr fun x hx => ?_
    have q := (mem_failing.mp hx).2
    unfold Fails paidOut at q
    rw [h, owed_sum G, allP_len] at q
    have e : sumIf (fun k => decide ((B.clm k).d = x)) (g (allP B)) B.claims.length = sumIf (fun k => decide ((B.clm k).d = x)) (amt B) B.claims.length := sumIf_congr (fun _ _ => rfl) fun k hk _ => g_allP hk
    omega
/-! waves -/
def waveOf (B : Bk) (F : List Int) : List Int := (houses B).filter fun x => decide (x ∉ F) && decide (meansOf B x (topIn B F) < owedIn B x)
theorem mem_wave {B : Bk} {F : List Int} {x : Int} : x ∈ waveOf B F ↔ x ∈ houses B ∧ x ∉ F ∧ meansOf B x (topIn B F) < owedIn B x := by
  unfold waveOf
  rw [List.mem_filter, Bool.and_eq_true, decide_eq_true_iff, decide_eq_true_iff]
def wavesFrom (B : Bk) : Nat → List Int → List (List Int)
  | 0, _ => []
  | f + 1, F => if waveOf B F = [] then [] else waveOf B F :: wavesFrom B f (F ++ waveOf B F)
def wavesOf (B : Bk) : List (List Int) := wavesFrom B (B.cash.length + 1) []
/-- what has fallen so far -/
structure Fallen (B : Bk) (F : List Int) : Prop where
  nd : F.Nodup
  inn : ∀ x ∈ F, x ∈ houses B
  fails : ∀ x ∈ F, Fails B x
theorem fallen_nil (B : Bk) : Fallen B [] := ⟨List.nodup_nil, (fun _ h => nomatch h), (fun _ h => nomatch h)⟩
theorem houses_nodup (B : Bk) : (houses B).Nodup := (houses_sorted B).imp fun h => by omega
theorem wave_sorted (B : Bk) (F : List Int) : (waveOf B F).Pairwise (· < ·) := (houses_sorted B).sublist List.filter_sublist
theorem fallen_more {B : Bk} (G : Good B) {F : List Int} (h : Fallen B F) : Fallen B (F ++ waveOf B F) := by
  refine ⟨List.nodup_append.mpr ⟨h.nd, (wave_sorted B F).imp fun h => by omega, fun a ha b hb e => ?_⟩, fun x hx => ?_, fun x hx => ?_⟩
  · subst e
    exact (mem_wave.mp hb).2.1 ha
  · rcases List.mem_append.mp hx with q | q
    · exact h.inn x q
    · exact (mem_wave.mp q).1
  · rcases List.mem_append.mp hx with q | q
    · exact h.fails x q
    · exact falls_fails G h.inn (mem_wave.mp q).2.2
theorem nodup_sub_len {l m : List Int} (hl : l.Nodup) (hm : m.Nodup) (h : ∀ x ∈ l, x ∈ m) : l.length ≤ m.length := by
  have hp : l.Perm (m.filter fun x => decide (x ∈ l)) := (List.perm_ext_iff_of_nodup hl (hm.filter _)).mpr fun x => by
    rw [List.mem_filter, decide_eq_true_iff]
    exact ⟨fun q => ⟨h x q, q⟩, fun q => q.2⟩
  rw [hp.length_eq]
  exact List.length_filter_le _ _
theorem fallen_len {B : Bk} {F : List Int} (h : Fallen B F) : F.length ≤ B.cash.length := by
  have q := nodup_sub_len h.nd (houses_nodup B) h.inn
  unfold houses at q
  rw [List.length_map, List.length_range] at q
  exact q
/-- where no other one falls, all that fail have fallen -/
theorem fallen_all {B : Bk} (G : Good B) {F : List Int} (h : Fallen B F) (hw : waveOf B F = []) : ∀ x, x ∈ F ↔ x ∈ failingOf B := by
  have hstop : ∀ x, x ∈ houses B → x ∉ F → owedIn B x ≤ meansOf B x (topIn B F) := fun x hx hn => Int.not_lt.mp fun z => by
    have : x ∈ waveOf B F := mem_wave.mpr ⟨hx, hn, z⟩
    rw [hw] at this
    exact List.not_mem_nil this
  have hb := top_best G h.inn hstop
  intro x
  rw [mem_failing]
  constructor
  · intro hx
    exact ⟨h.inn x hx, h.fails x hx⟩
  · rintro ⟨hx, hf⟩
    refine Classical.byContradiction fun hn => ?_
    have q := hstop x hx hn
    rw [hb] at q
    have := (fails_iff G x).mp hf
    omega
theorem waves_all {B : Bk} (G : Good B) : ∀ (f : Nat) {F : List Int}, Fallen B F → B.cash.length < F.length + f → ∀ x, x ∈ F ++ (wavesFrom B f F).flatten ↔ x ∈ failingOf B
  | 0, F, h, hl => absurd (fallen_len h) (by omega)
  | f + 1, F, h, hl => by
    unfold wavesFrom
    by_cases e : waveOf B F = []
    · rw [if_pos e, List.flatten_nil, List.append_nil]
      exact fallen_all G h e
    · rw [if_neg e, List.flatten_cons, ← List.append_assoc]
      refine waves_all G f (fallen_more G h) ?_
      have : 0 < (waveOf B F).length := List.length_pos_iff.mpr e
      rw [List.length_append]
      omega
/-! losses and nets -/
def lossAt (B : Bk) (i : Nat) (x : Nat) : Int := sumIf (fun k => decide ((B.clm k).c = (x : Int))) (fun k => amt B k - g (bestOf B) k) i
def lossesOf (B : Bk) : List Int := (List.range B.cash.length).map (lossAt B B.claims.length)
def netAt (B : Bk) (i : Nat) (x : Nat) : Int := g B.cash x + sumIf (fun k => decide ((B.clm k).c = (x : Int))) (amt B) i - sumIf (fun k => decide ((B.clm k).d = (x : Int))) (amt B) i
theorem rangeMap_set {n j : Nat} {v : Nat → Int} {y : Int} (hj : j < n) : ((List.range n).map v).set j y = (List.range n).map fun x => if x = j then y else v x := by
  refine ext_g (by simp) fun i hi => ?_
  have hi2 : i < n := by simpa using hi
  rw [g_rangeMap hi2]
  by_cases e : j = i
  · subst e
    rw [g_set_same (by simpa using hi2), if_pos rfl]
  · rw [g_set_ne e, g_rangeMap hi2, if_neg (fun z => e z.symm)]
theorem net_all {B : Bk} : (List.range B.cash.length).map (netAt B B.claims.length) = leftOf B (allP B) := by
  unfold leftOf
  apply List.map_congr_left
  intro x _
  unfold netAt meansOf paidOut
  rw [Int.toNat_natCast, allP_len]
  have e1 : sumIf (fun k => decide ((B.clm k).c = (x : Int))) (g (allP B)) B.claims.length = sumIf (fun k => decide ((B.clm k).c = (x : Int))) (amt B) B.claims.length := sumIf_congr (fun _ _ => rfl) fun k hk _ => g_allP hk
  have e2 : sumIf (fun k => decide ((B.clm k).d = (x : Int))) (g (allP B)) B.claims.length = sumIf (fun k => decide ((B.clm k).d = (x : Int))) (amt B) B.claims.length := sumIf_congr (fun _ _ => rfl) fun k hk _ => g_allP hk
  rw [e1, e2]
theorem loss_sum {B : Bk} (G : Good B) : (lossesOf B).sum = sumTo (fun k => amt B k - g (bestOf B) k) B.claims.length := by
  unfold lossesOf
  rw [sumTo_list]
  exact sumTo_split fun k hk => ⟨(G.clm hk).c0, (G.clm hk).c1⟩
theorem loss_none {B : Bk} (G : Good B) : failingOf B = [] ↔ (lossesOf B).sum = 0 := by
  rw [none_fails G, loss_sum G]
  have hP := (best_clears G).pay
  constructor
  · intro h
    have e : sumTo (fun k => amt B k - g (bestOf B) k) B.claims.length = sumTo (fun _ => 0) B.claims.length := sumTo_congr fun k hk => by rw [h, g_allP hk]; omega
    rw [e]
    generalize B.claims.length = n
    induction n with
    | zero => rfl
    | succ n ih => rw [sumTo_succ, ih]; rfl
  · intro h
    refine ext_g (by rw [hP.len, allP_len]) fun k hk => ?_
    rw [hP.len] at hk
    rw [g_allP hk]
    have q := sumIf_eq_of (f := fun _ => true) (v := fun _ => 0) (w := fun k => amt B k - g (bestOf B) k) (n := B.claims.length) (fun k hk _ => by have := hP.hi k hk; show (0 : Int) ≤ amt B k - g (bestOf B) k; omega) (by
      have z : sumIf (fun _ => true) (fun _ => (0 : Int)) B.claims.length = 0 := by
        generalize B.claims.length = n
        induction n with
        | zero => rfl
        | succ n ih =>
          show sumIf _ _ n + (if true = true then (0 : Int) else 0) = 0
          rw [ih]
          rfl
      rw [z]
      have h2 : sumIf (fun _ => true) (fun k => amt B k - g (bestOf B) k) B.claims.length = 0 := h
      omega) k hk rfl
    have q2 : (0 : Int) = amt B k - g (bestOf B) k := q
    omega
theorem net_fails {B : Bk} (G : Good B) {x : Nat} (hx : x < B.cash.length) (h : g (leftOf B (allP B)) x < 0) : (x : Int) ∈ failingOf B := by
  refine mem_failing.mpr ⟨mem_houses.mpr ⟨by omega, by omega⟩, (fails_iff G _).mpr ?_⟩
  have e : g (leftOf B (allP B)) x = meansOf B (x : Int) (allP B) - paidOut B (x : Int) (allP B) := g_rangeMap hx
  rw [e] at h
  have h1 := means_mono (B := B) (le_allP (best_clears G).pay) (x : Int)
  have h2 : paidOut B (x : Int) (allP B) = owedIn B (x : Int) := by
    rw [owed_sum G]
    unfold paidOut
    rw [allP_len]
    exact sumIf_congr (fun _ _ => rfl) fun k hk _ => g_allP hk
  omega
theorem loss_step {B : Bk} (G : Good B) {i j : Nat} (hi : i < B.claims.length) (hj : (B.clm i).c = (j : Int)) (hn : j < B.cash.length) :
    ((List.range B.cash.length).map (lossAt B i)).set j (lossAt B i j + (B.clm i).a - g (bestOf B) i) = (List.range B.cash.length).map (lossAt B (i + 1)) := by
  rw [rangeMap_set hn]
  apply List.map_congr_left
  intro x _
  show _ = lossAt B i x + (if decide ((B.clm i).c = (x : Int)) = true then amt B i - g (bestOf B) i else 0)
  by_cases e : x = j
  · subst e
    rw [if_pos rfl, if_pos (decide_eq_true hj)]
    unfold amt
    omega
  · rw [if_neg e, if_neg (by rw [decide_eq_false (fun z => e (by omega))]; decide)]
    omega
theorem net_step {B : Bk} (G : Good B) {i j l : Nat} (hi : i < B.claims.length) (hj : (B.clm i).c = (j : Int)) (hl : (B.clm i).d = (l : Int)) (hn : j < B.cash.length) (hm : l < B.cash.length) :
    (((List.range B.cash.length).map (netAt B i)).set j (netAt B i j + (B.clm i).a)).set l (netAt B i l - (B.clm i).a) = (List.range B.cash.length).map (netAt B (i + 1)) := by
  have ne : l ≠ j := fun z => (G.clm hi).ne (by rw [hj, hl, z])
  rw [rangeMap_set hn, rangeMap_set hm]
  apply List.map_congr_left
  intro x _
  show _ = g B.cash x + (sumIf _ (amt B) i + (if decide ((B.clm i).c = (x : Int)) = true then amt B i else 0)) - (sumIf _ (amt B) i + (if decide ((B.clm i).d = (x : Int)) = true then amt B i else 0))
  have ea : amt B i = (B.clm i).a := rfl
  by_cases e1 : x = l
  · subst e1
    rw [if_pos rfl, if_neg (by rw [decide_eq_false (fun z => ne (by omega))]; decide), if_pos (decide_eq_true hl)]
    unfold netAt
    omega
  · rw [if_neg e1, if_neg (c := decide ((B.clm i).d = (x : Int)) = true) (by rw [decide_eq_false (fun z => e1 (by omega))]; decide)]
    by_cases e2 : x = j
    · subst e2
      rw [if_pos rfl, if_pos (decide_eq_true hj)]
      unfold netAt
      omega
    · rw [if_neg e2, if_neg (by rw [decide_eq_false (fun z => e2 (by omega))]; decide)]
      unfold netAt
      omega
theorem range_get {n j : Nat} {v : Nat → Int} (hj : j < n) : g ((List.range n).map v) j = v j := g_rangeMap hj


end Rf
namespace Rf
open PySem PySem.Spec PyProof.Rows L2
/-! ### settled: paying house by house until nothing changes -/
def fixOf (B : Bk) (hs P : List Int) : List Int := led B hs (allP B).sum.toNat P
/-- further down (or up) -/
def Tw : Bool → List Int → List Int → Prop
  | true, P, Q => LeP P Q
  | false, P, Q => LeP Q P
theorem Tw.refl : ∀ (d : Bool) (P : List Int), Tw d P P
  | true, P => LeP.refl P
  | false, P => LeP.refl P
theorem Tw.trans : ∀ {d : Bool} {P Q R : List Int}, Tw d P Q → Tw d Q R → Tw d P R
  | true, _, _, _, a, b => LeP.trans a b
  | false, _, _, _, a, b => LeP.trans b a
theorem Tw.anti : ∀ {d : Bool} {P Q : List Int}, Tw d P Q → Tw d Q P → P = Q
  | true, _, _, a, b => LeP.anti a b
  | false, _, _, a, b => LeP.anti b a
theorem Tw.of : ∀ {d : Bool} {P Q : List Int}, P.length = Q.length → (∀ k, k < P.length → (d = true → g P k ≤ g Q k) ∧ (d = false → g Q k ≤ g P k)) → Tw d P Q
  | true, _, _, hl, h => ⟨hl, fun k hk => (h k hk).1 rfl⟩
  | false, _, _, hl, h => ⟨hl.symm, fun k hk => (h k (hl ▸ hk)).2 rfl⟩
theorem Tw.at : ∀ {d : Bool} {P Q : List Int}, Tw d P Q → ∀ k, k < P.length → (d = true → g P k ≤ g Q k) ∧ (d = false → g Q k ≤ g P k)
  | true, _, _, a, k, hk => ⟨fun _ => a.2 k hk, (fun z => nomatch z)⟩
  | false, _, _, a, k, hk => ⟨(fun z => nomatch z), fun _ => a.2 k (a.1 ▸ hk)⟩
theorem Tw.len : ∀ {d : Bool} {P Q : List Int}, Tw d P Q → P.length = Q.length
  | true, _, _, a => a.1
  | false, _, _, a => a.1.symm
theorem Tw.mono {B : Bk} (G : Good B) (hs : List Int) : ∀ {d : Bool} {P Q : List Int}, Pay B P → Pay B Q → Tw d P Q → Tw d (behind B hs P) (behind B hs Q)
  | true, _, _, hP, _, h => behind_mono G hP h
  | false, _, _, _, hQ, h => behind_mono G hQ h
/-- how far it can go yet -/
def far (B : Bk) : Bool → List Int → Nat
  | true, P => P.sum.toNat
  | false, P => ((allP B).sum - P.sum).toNat
theorem far_lt {B : Bk} : ∀ {d : Bool} {P Q : List Int}, Pay B P → Pay B Q → Tw d P Q → P ≠ Q → far B d P < far B d Q
  | true, P, Q, hP, hQ, h, hn => by
    have h1 := LeP.lt h hn
    have h2 := hP.sum_nn
    show P.sum.toNat < Q.sum.toNat
    omega
  | false, P, Q, hP, hQ, h, hn => by
    have h1 := LeP.lt h (Ne.symm hn)
    have h2 := hP.sum_le
    have h3 := hP.sum_le
    show ((allP B).sum - P.sum).toNat < ((allP B).sum - Q.sum).toNat
    omega
theorem far_le {B : Bk} {d : Bool} {P Q : List Int} (hP : Pay B P) (hQ : Pay B Q) (h : Tw d P Q) : far B d P ≤ far B d Q := by
  by_cases e : P = Q
  · rw [e]; exact Nat.le_refl _
  · exact Nat.le_of_lt (far_lt hP hQ h e)
theorem fix_pay {B : Bk} (G : Good B) {hs P : List Int} (hP : Pay B P) : Pay B (fixOf B hs P) := led_pay G hP _
theorem fix_fixed {B : Bk} (G : Good B) {hs P : List Int} (hP : Pay B P) : ∀ {d : Bool}, Tw d (behind B hs P) P → behind B hs (fixOf B hs P) = fixOf B hs P
  | true, h => by
    have h1 := down_fix G hP h
    have h2 : P.sum.toNat ≤ (allP B).sum.toNat := by have := hP.sum_le; omega
    unfold fixOf
    rw [led_stays h1 h2]
    exact h1
  | false, h => up_fix G hP h (by have := hP.sum_nn; have := (allP_pay G).sum_nn; omega)
theorem g_one {B : Bk} {x : Int} {P : List Int} {k : Nat} (h : k < B.claims.length) : g (behind B [x] P) k = if (B.clm k).d = x then coinOf B x (meansOf B x P) k else g P k := by
  rw [g_behind h]
  by_cases e : (B.clm k).d = x
  · rw [if_pos (List.mem_singleton.mpr e), if_pos e, e]
  · rw [if_neg (fun z => e (List.mem_singleton.mp z)), if_neg e]
def Stable (B : Bk) (x : Int) (P : List Int) : Prop := ∀ k, k < B.claims.length → (B.clm k).d = x → g P k = coinOf B x (meansOf B x P) k
theorem stable_all {B : Bk} {hs P : List Int} (hl : P.length = B.claims.length) (h : ∀ x ∈ hs, Stable B x P) : behind B hs P = P := by
  refine ext_g (by rw [behind_len, hl]) fun k hk => ?_
  rw [behind_len] at hk
  rw [g_behind hk]
  by_cases e : (B.clm k).d ∈ hs
  · rw [if_pos e]
    exact (h _ e k hk rfl).symm
  · rw [if_neg e]
theorem one_fixed {B : Bk} {hs P : List Int} {x : Int} (h : behind B hs P = P) (hx : x ∈ hs) : behind B [x] P = P := by
  have hl : P.length = B.claims.length := by rw [← h, behind_len]
  refine ext_g (by rw [behind_len, hl]) fun k hk => ?_
  rw [behind_len] at hk
  have q : g (behind B hs P) k = g P k := by rw [h]
  rw [g_behind hk] at q
  rw [g_one hk]
  by_cases e : (B.clm k).d = x
  · subst e
    rw [if_pos hx] at q
    rw [if_pos rfl]
    exact q
  · rw [if_neg e]
/-- what one house's paying keeps -/
structure Chaos (B : Bk) (hs P0 P : List Int) (d : Bool) : Prop where
  pay : Pay B P
  fwd : Tw d (behind B hs P) P
  far : Tw d (fixOf B hs P0) P
  near : Tw d P P0
theorem one_between {B : Bk} {hs P : List Int} {d : Bool} {x : Int} (h : Tw d (behind B hs P) P) (hx : x ∈ hs) : Tw d (behind B hs P) (behind B [x] P) ∧ Tw d (behind B [x] P) P := by
  have hl : P.length = B.claims.length := by rw [← h.len, behind_len]
  constructor
  · refine Tw.of (by rw [behind_len, behind_len]) fun k hk => ?_
    have q := h.at k hk
    rw [behind_len] at hk
    rw [g_one hk]
    by_cases e : (B.clm k).d = x
    · subst e
      rw [if_pos rfl, g_behind hk, if_pos hx]
      exact ⟨fun _ => Int.le_refl _, fun _ => Int.le_refl _⟩
    · rw [if_neg e]
      exact q
  · refine Tw.of (by rw [behind_len, hl]) fun k hk => ?_
    have q := h.at k (by rw [behind_len]; rw [behind_len] at hk; exact hk)
    rw [behind_len] at hk
    rw [g_one hk]
    by_cases e : (B.clm k).d = x
    · subst e
      rw [g_behind hk, if_pos hx] at q
      rw [if_pos rfl]
      exact q
    · rw [if_neg e]
      exact ⟨fun _ => Int.le_refl _, fun _ => Int.le_refl _⟩
theorem Chaos.step {B : Bk} (G : Good B) {hs P0 P : List Int} {d : Bool} (C : Chaos B hs P0 P d) (h0 : Pay B P0) (hf : Tw d (behind B hs P0) P0) {x : Int} (hx : x ∈ hs) : Chaos B hs P0 (behind B [x] P) d := by
  obtain ⟨b1, b2⟩ := one_between C.fwd hx
  have hp := behind_pay G (hs := [x]) C.pay
  refine ⟨hp, ?_, ?_, b2.trans C.near⟩
  · exact (Tw.mono G hs hp C.pay b2).trans b1
  · have q := Tw.mono G [x] (fix_pay G h0) C.pay C.far
    rw [one_fixed (fix_fixed G h0 hf) hx] at q
    exact q
theorem Chaos.start {B : Bk} (G : Good B) {hs P : List Int} {d : Bool} (h0 : Pay B P) (hf : Tw d (behind B hs P) P) : Chaos B hs P P d := by
  refine ⟨h0, hf, ?_, Tw.refl _ _⟩
  cases d with
  | true =>
    have : ∀ n, LeP (led B hs n P) P := fun n => by
      induction n with
      | zero => exact LeP.refl _
      | succ n ih => exact (led_down G h0 hf n).trans ih
    exact this _
  | false =>
    have : ∀ n, LeP P (led B hs n P) := fun n => by
      induction n with
      | zero => exact LeP.refl _
      | succ n ih => exact ih.trans (led_up G h0 hf n)
    exact this _
theorem Chaos.done {B : Bk} (G : Good B) {hs P0 P : List Int} {d : Bool} (C : Chaos B hs P0 P d) (h0 : Pay B P0) (h : ∀ x ∈ hs, Stable B x P) : P = fixOf B hs P0 := by
  have e := stable_all C.pay.len h
  cases d with
  | true => exact LeP.anti (led_ge G C.pay (by rw [e]; exact LeP.refl _) C.near _) C.far
  | false => exact LeP.anti C.far (led_le G h0 (by rw [e]; exact LeP.refl _) C.near _)
theorem sumIf_same {f : Nat → Bool} {v w : Nat → Int} {n : Nat} (h : ∀ k, k < n → f k = true → v k = w k) : sumIf f v n = sumIf f w n := sumIf_congr (fun _ _ => rfl) h
theorem means_same {B : Bk} {x : Int} {P Q : List Int} (hl : P.length = Q.length) (h : ∀ k, k < P.length → (B.clm k).c = x → g P k = g Q k) : meansOf B x P = meansOf B x Q := by
  unfold meansOf
  rw [← hl, sumIf_same fun k hk hf => h k hk (of_decide_eq_true hf)]
theorem stable_self {B : Bk} (G : Good B) {P : List Int} (hl : P.length = B.claims.length) (x : Int) : Stable B x (behind B [x] P) := fun k hk hd => by
  have e : meansOf B x (behind B [x] P) = meansOf B x P := means_same (by rw [behind_len, hl]) fun j hj hc => by
    rw [behind_len] at hj
    rw [g_one hj, if_neg (fun z => (G.clm hj).ne (by rw [z, hc]))]
  rw [e, g_one hk, if_pos hd]
theorem stable_other {B : Bk} {P : List Int} (hl : P.length = B.claims.length) {x y : Int} (hy : y ≠ x) (h : Stable B y P) (hc : ∀ k, k < B.claims.length → (B.clm k).c = y → g (behind B [x] P) k = g P k) : Stable B y (behind B [x] P) := fun k hk hd => by
  have e : meansOf B y (behind B [x] P) = meansOf B y P := means_same (by rw [behind_len, hl]) fun j hj hcj => hc j (by rw [behind_len] at hj; exact hj) hcj
  rw [e, g_one hk, if_neg (fun z => hy (hd.symm.trans z))]
  exact h k hk hd
/-! claims set one by one -/
def setL : List (Nat × Int) → List Int → List Int
  | [], P => P
  | (k, c) :: L, P => setL L (P.set k c)
theorem setL_len : ∀ (L : List (Nat × Int)) (P : List Int), (setL L P).length = P.length
  | [], _ => rfl
  | (k, c) :: L, P => by
    show (setL L (P.set k c)).length = _
    rw [setL_len L, List.length_set]
theorem setL_app : ∀ (L M : List (Nat × Int)) (P : List Int), setL (L ++ M) P = setL M (setL L P)
  | [], _, _ => rfl
  | (k, c) :: L, M, P => setL_app L M (P.set k c)
theorem setL_take {L : List (Nat × Int)} {j k : Nat} {c : Int} (h : L[j]? = some (k, c)) (P : List Int) : setL (L.take (j + 1)) P = (setL (L.take j) P).set k c := by
  rw [List.take_add_one, h, setL_app]
  rfl
theorem g_setL_out : ∀ {L : List (Nat × Int)} {P : List Int} {k : Nat}, k ∉ L.map (·.1) → g (setL L P) k = g P k
  | [], _, _, _ => rfl
  | (i, c) :: L, P, k, h => by
    rw [List.map_cons, List.mem_cons, not_or] at h
    show g (setL L (P.set i c)) k = _
    rw [g_setL_out h.2, g_set_ne (fun z => h.1 z.symm)]
theorem g_setL_in : ∀ {L : List (Nat × Int)} {P : List Int} {k : Nat} {c : Int}, (L.map (·.1)).Nodup → (k, c) ∈ L → k < P.length → g (setL L P) k = c
  | [], _, _, _, _, h, _ => nomatch h
  | (i, e) :: L, P, k, c, hn, h, hk => by
    rw [List.map_cons, List.nodup_cons] at hn
    show g (setL L (P.set i e)) k = c
    rcases List.mem_cons.mp h with q | q
    · cases q
      rw [g_setL_out hn.1, g_set_same hk]
    · exact g_setL_in hn.2 q (by rw [List.length_set]; exact hk)
theorem setL_pay {B : Bk} (G : Good B) {x : Int} {P : List Int} (hl : P.length = B.claims.length) : setL (payFrom B x ranks9 (meansOf B x P)) P = behind B [x] P := by
  refine ext_g (by rw [setL_len, behind_len, hl]) fun k hk => ?_
  rw [setL_len, hl] at hk
  rw [g_one hk]
  by_cases e : (B.clm k).d = x
  · rw [if_pos e]
    exact g_setL_in (pay_nodup B x _) (coin_mem G hk e) (by rw [hl]; exact hk)
  · rw [if_neg e]
    refine g_setL_out fun z => e ?_
    obtain ⟨y, hy, rfl⟩ := List.mem_map.mp z
    rw [← mem_payList G] at hy
    unfold payList at hy
    obtain ⟨j, hj, rfl⟩ := List.mem_map.mp hy
    exact (mem_owesUp.mp hj).2
/-- the creditors of the claims that changed -/
def addK (T : List Int) (y : Int) : List Int := if y ∈ T then T else T ++ [y]
def touch (B : Bk) (P : List Int) : List (Nat × Int) → List Int → List Int
  | [], T => T
  | (k, c) :: L, T => touch B P L (if c = g P k then T else addK T (B.clm k).c)
theorem touch_app {B : Bk} {P : List Int} : ∀ (L M : List (Nat × Int)) (T : List Int), touch B P (L ++ M) T = touch B P M (touch B P L T)
  | [], _, _ => rfl
  | (k, c) :: L, M, T => touch_app L M _
theorem touch_take {B : Bk} {P : List Int} {L : List (Nat × Int)} {j k : Nat} {c : Int} (h : L[j]? = some (k, c)) (T : List Int) : touch B P (L.take (j + 1)) T = if c = g P k then touch B P (L.take j) T else addK (touch B P (L.take j) T) (B.clm k).c := by
  rw [List.take_add_one, h, touch_app]
  rfl
theorem addK_sub {T : List Int} {y z : Int} (h : z ∈ T) : z ∈ addK T y := by
  unfold addK
  split
  · exact h
  · exact List.mem_append_left _ h
theorem addK_in (T : List Int) (y : Int) : y ∈ addK T y := by
  unfold addK
  split
  · assumption
  · exact List.mem_append_right _ (List.mem_singleton.mpr rfl)
theorem mem_addK {T : List Int} {y z : Int} (h : z ∈ addK T y) : z ∈ T ∨ z = y := by
  unfold addK at h
  split at h
  · exact .inl h
  · rcases List.mem_append.mp h with q | q
    · exact .inl q
    · exact .inr (List.mem_singleton.mp q)
theorem addK_nodup {T : List Int} {y : Int} (h : T.Nodup) : (addK T y).Nodup := by
  unfold addK
  split
  · exact h
  · next hn =>
    refine List.nodup_append.mpr ⟨h, by simp, fun a ha b hb z => ?_⟩
    rw [List.mem_singleton.mp hb] at z
    exact hn (z ▸ ha)
theorem touch_sub {B : Bk} {P : List Int} : ∀ {L : List (Nat × Int)} {T : List Int} {z : Int}, z ∈ T → z ∈ touch B P L T
  | [], _, _, h => h
  | (k, c) :: L, T, z, h => by
    refine touch_sub (L := L) ?_
    split
    · exact h
    · exact addK_sub h
theorem touch_in {B : Bk} {P : List Int} : ∀ {L : List (Nat × Int)} {T : List Int} {k : Nat} {c : Int}, (k, c) ∈ L → c ≠ g P k → (B.clm k).c ∈ touch B P L T
  | [], _, _, _, h, _ => nomatch h
  | (i, e) :: L, T, k, c, h, hn => by
    rcases List.mem_cons.mp h with q | q
    · cases q
      show _ ∈ touch B P L _
      rw [if_neg hn]
      exact touch_sub (addK_in _ _)
    · exact touch_in (L := L) q hn
theorem touch_nodup {B : Bk} {P : List Int} : ∀ {L : List (Nat × Int)} {T : List Int}, T.Nodup → (touch B P L T).Nodup
  | [], _, h => h
  | (k, c) :: L, T, h => by
    refine touch_nodup (L := L) ?_
    split
    · exact h
    · exact addK_nodup h
theorem touch_houses {B : Bk} (G : Good B) {P : List Int} : ∀ {L : List (Nat × Int)} {T : List Int}, (∀ p ∈ L, p.1 < B.claims.length) → (∀ t ∈ T, t ∈ houses B) → ∀ t ∈ touch B P L T, t ∈ houses B
  | [], _, _, h => h
  | (k, c) :: L, T, hL, h => by
    refine touch_houses G (L := L) (fun p hp => hL p (List.mem_cons_of_mem _ hp)) ?_
    split
    · exact h
    · intro t ht
      rcases mem_addK ht with q | q
      · exact h t q
      · rw [q]
        exact creditor_in G (hL _ List.mem_cons_self)
theorem touch_none {B : Bk} {P : List Int} : ∀ {L : List (Nat × Int)} {T : List Int}, (∀ p ∈ L, p.2 = g P p.1) → touch B P L T = T
  | [], _, _ => rfl
  | (k, c) :: L, T, h => by
    show touch B P L _ = T
    rw [if_pos (h (k, c) List.mem_cons_self)]
    exact touch_none fun p hp => h p (List.mem_cons_of_mem _ hp)
/-! the means, house by house -/
def meansL (B : Bk) (P : List Int) : List Int := (List.range B.cash.length).map fun x : Nat => meansOf B (x : Int) P
theorem meansL_len (B : Bk) (P : List Int) : (meansL B P).length = B.cash.length := by
  unfold meansL
  rw [List.length_map, List.length_range]
theorem g_meansL {B : Bk} {P : List Int} {x : Nat} (h : x < B.cash.length) : g (meansL B P) x = meansOf B (x : Int) P := g_rangeMap h
theorem sumIf_set {f : Nat → Bool} {P : List Int} {k : Nat} {c : Int} (hk : k < P.length) : ∀ {n : Nat}, sumIf f (g (P.set k c)) n = sumIf f (g P) n + (if k < n ∧ f k = true then c - g P k else 0)
  | 0 => by
    rw [if_neg (fun z => absurd z.1 (Nat.not_lt_zero _))]
    rfl
  | n + 1 => by
    show sumIf f (g (P.set k c)) n + (if f n = true then g (P.set k c) n else 0) = sumIf f (g P) n + (if f n = true then g P n else 0) + _
    rw [sumIf_set hk (n := n)]
    by_cases e : k = n
    · subst e
      rw [g_set_same hk]
      have e1 : ¬ (k < k ∧ f k = true) := fun z => absurd z.1 (Nat.lt_irrefl _)
      rw [if_neg e1]
      by_cases q : f k = true
      · have e2 : k < k + 1 ∧ f k = true := ⟨Nat.lt_succ_self _, q⟩
        rw [if_pos q, if_pos q, if_pos e2]
        omega
      · have e2 : ¬ (k < k + 1 ∧ f k = true) := fun z => q z.2
        rw [if_neg q, if_neg q, if_neg e2]
    · rw [g_set_ne e]
      by_cases q : k < n ∧ f k = true
      · have e2 : k < n + 1 ∧ f k = true := ⟨by omega, q.2⟩
        rw [if_pos q, if_pos e2]
        omega
      · have e2 : ¬ (k < n + 1 ∧ f k = true) := fun z => q ⟨by omega, z.2⟩
        rw [if_neg q, if_neg e2]
        omega
theorem means_set {B : Bk} {P : List Int} {k : Nat} {c : Int} (hl : P.length = B.claims.length) (hk : k < B.claims.length) (x : Int) : meansOf B x (P.set k c) = meansOf B x P + (if (B.clm k).c = x then c - g P k else 0) := by
  unfold meansOf
  rw [List.length_set, sumIf_set (by omega)]
  by_cases e : (B.clm k).c = x
  · rw [if_pos ⟨by omega, decide_eq_true e⟩, if_pos e]
    omega
  · rw [if_neg (fun z => e (of_decide_eq_true z.2)), if_neg e]
    omega
theorem meansL_set {B : Bk} {P : List Int} {k y : Nat} {c : Int} (hl : P.length = B.claims.length) (hk : k < B.claims.length) (hc : (B.clm k).c = (y : Int)) (hy : y < B.cash.length) : (meansL B P).set y (g (meansL B P) y + (c - g P k)) = meansL B (P.set k c) := by
  rw [g_meansL hy]
  unfold meansL
  rw [rangeMap_set hy]
  apply List.map_congr_left
  intro x _
  rw [means_set hl hk]
  by_cases e : x = y
  · subst e
    rw [if_pos rfl, if_pos hc]
  · rw [if_neg e, if_neg (fun z => e (by omega))]
    omega
theorem set_self {P : List Int} {k : Nat} (h : k < P.length) : P.set k (g P k) = P := by
  refine ext_g (List.length_set ..) fun i hi => ?_
  by_cases e : k = i
  · subst e
    rw [g_set_same h]
  · rw [g_set_ne e]
/-! the two ways that settled is asked -/
theorem fix_top (B : Bk) (hs : List Int) : fixOf B hs (allP B) = topIn B hs := rfl
theorem fix_low (B : Bk) (hs : List Int) : fixOf B hs (noneP B) = lowIn B hs := rfl
/-- more houses fallen: on from where it was -/
theorem top_start_more {B : Bk} (G : Good B) {hs hs' : List Int} : LeP (behind B hs' (topIn B hs)) (topIn B hs) := by
  have hp := top_pay G hs
  refine ⟨by rw [behind_len, hp.len], fun k hk => ?_⟩
  rw [behind_len] at hk
  rw [g_behind hk]
  by_cases e : (B.clm k).d ∈ hs'
  · rw [if_pos e]
    have q : g (topIn B hs) k = g (behind B hs (topIn B hs)) k := by rw [top_fix G]
    by_cases e2 : (B.clm k).d ∈ hs
    · rw [q, g_behind hk, if_pos e2]
      exact Int.le_refl _
    · -- one that has not fallen pays all
      have h1 : ∀ n, g (led B hs n (allP B)) k = amt B k := fun n => by
        induction n with
        | zero => exact g_allP hk
        | succ n ih =>
          show g (behind B hs (led B hs n (allP B))) k = _
          rw [g_behind hk, if_neg e2, ih]
      have h2 : g (topIn B hs) k = amt B k := h1 _
      rw [h2]
      exact coin_hi G hk rfl (means_nn G hp _)
  · rw [if_neg e]
    exact Int.le_refl _
theorem fix_more {B : Bk} (G : Good B) {hs hs' : List Int} (hsub : ∀ x ∈ hs, x ∈ hs') : fixOf B hs' (topIn B hs) = topIn B hs' := by
  have hp := top_pay G hs
  have h0 : Tw true (behind B hs' (topIn B hs)) (topIn B hs) := top_start_more G
  refine LeP.anti ?_ ?_
  · exact top_ge G (fix_pay G hp) (by rw [fix_fixed G hp h0]; exact LeP.refl _)
  · exact led_ge G (top_pay G hs') (by rw [top_fix G]; exact LeP.refl _) (top_anti G hsub) _


end Rf
namespace Rf
open PySem PySem.Spec PyProof.Rows L2
/-! ### a book within another one: its houses by σ, its claims by ix -/
structure Emb (B M : Bk) (σ : Int → Int) (ix : Nat → Nat) : Prop where
  lt : ∀ n, n < B.claims.length → ix n < M.claims.length
  d : ∀ n, n < B.claims.length → (M.clm (ix n)).d = σ (B.clm n).d
  a : ∀ n, n < B.claims.length → amt M (ix n) = amt B n
  rank : ∀ x, x ∈ houses B → ∀ r, ofRank M (σ x) r = (ofRank B x r).map ix
  cred : ∀ x, x ∈ houses B → ∀ v : Nat → Int, sumIf (fun k => decide ((M.clm k).c = σ x)) v M.claims.length = sumIf (fun n => decide ((B.clm n).c = x)) (fun n => v (ix n)) B.claims.length
  deb : ∀ x, x ∈ houses B → ∀ v : Nat → Int, sumIf (fun k => decide ((M.clm k).d = σ x)) v M.claims.length = sumIf (fun n => decide ((B.clm n).d = x)) (fun n => v (ix n)) B.claims.length
  cash : ∀ x, x ∈ houses B → g M.cash (σ x).toNat = g B.cash x.toNat
  inj : ∀ x y, x ∈ houses B → y ∈ houses B → σ x = σ y → x = y
  inn : ∀ x, x ∈ houses B → σ x ∈ houses M
theorem fibre_sum {m n : Nat} {f f' : Nat → Bool} {ix : Nat → Nat} (lt : ∀ k, k < n → f' k = true → ix k < m ∧ f (ix k) = true) (inj : ∀ i j, i < n → j < n → f' i = true → f' j = true → ix i = ix j → i = j) (cov : ∀ k, k < m → f k = true → ∃ i, i < n ∧ f' i = true ∧ ix i = k) (v : Nat → Int) : sumIf f v m = sumIf f' (fun i => v (ix i)) n := by
  rw [← sumIf_list, ← sumIf_list]
  have e : ((List.range n).filter f').map (fun i => v (ix i)) = (((List.range n).filter f').map ix).map v := by rw [List.map_map]; rfl
  rw [e]
  apply perm_sum
  apply List.Perm.map
  have nd : (((List.range n).filter f').map ix).Nodup := by
    have h0 := nodup_filter_range f' n
    refine List.Pairwise.map _ (fun a b h => h) ?_
    refine List.Pairwise.imp_of_mem (R := fun a b => a ≠ b) (fun {a b} ha hb hne z => ?_) h0
    have h1 := List.mem_filter.mp ha
    have h2 := List.mem_filter.mp hb
    exact hne (inj a b (List.mem_range.mp h1.1) (List.mem_range.mp h2.1) h1.2 h2.2 z)
  refine (List.perm_ext_iff_of_nodup (nodup_filter_range f m) nd).mpr fun k => ?_
  rw [List.mem_filter, List.mem_range, List.mem_map]
  constructor
  · rintro ⟨hk, hf⟩
    obtain ⟨i, hi, hf', e⟩ := cov k hk hf
    exact ⟨i, List.mem_filter.mpr ⟨List.mem_range.mpr hi, hf'⟩, e⟩
  · rintro ⟨i, hi, rfl⟩
    have h1 := List.mem_filter.mp hi
    exact lt i (List.mem_range.mp h1.1) h1.2
theorem Emb.of {B M : Bk} {σ : Int → Int} {ix : Nat → Nat} (GB : Good B) (inj : ∀ x y, x ∈ houses B → y ∈ houses B → σ x = σ y → x = y) (inn : ∀ x, x ∈ houses B → σ x ∈ houses M)
    (lt : ∀ n, n < B.claims.length → ix n < M.claims.length) (clm : ∀ n, n < B.claims.length → M.clm (ix n) = ⟨σ (B.clm n).d, σ (B.clm n).c, (B.clm n).a, (B.clm n).r⟩)
    (cov : ∀ k, k < M.claims.length → ∀ x, x ∈ houses B → ((M.clm k).d = σ x ∨ (M.clm k).c = σ x) → ∃ n, n < B.claims.length ∧ ix n = k)
    (mono : ∀ i j, i < j → j < B.claims.length → (B.clm i).d = (B.clm j).d → (B.clm i).r = (B.clm j).r → ix i < ix j)
    (ixi : ∀ i j, i < B.claims.length → j < B.claims.length → ix i = ix j → i = j)
    (cash : ∀ x, x ∈ houses B → g M.cash (σ x).toNat = g B.cash x.toNat) : Emb B M σ ix := by
  have hd : ∀ n, n < B.claims.length → (M.clm (ix n)).d = σ (B.clm n).d := fun n hn => by rw [clm n hn]
  have hc : ∀ n, n < B.claims.length → (M.clm (ix n)).c = σ (B.clm n).c := fun n hn => by rw [clm n hn]
  have hr : ∀ n, n < B.claims.length → (M.clm (ix n)).r = (B.clm n).r := fun n hn => by rw [clm n hn]
  refine ⟨lt, hd, fun n hn => ?_, fun x hx r => ?_, fun x hx v => ?_, fun x hx v => ?_, cash, inj, inn⟩
  · unfold amt
    rw [clm n hn]
  · refine sorted_ext (f := fun k : Nat => (k : Int)) ((range_pairwise _ _).imp fun h => by omega) ?_ fun k => ?_
    · rw [List.pairwise_map]
      refine List.Pairwise.imp_of_mem (R := fun a b => a < b) (fun {a b} ha hb hlt => ?_) (range_pairwise _ _)
      have h1 := mem_rankUp.mp ha
      have h2 := mem_rankUp.mp hb
      have := mono a b hlt h2.1 (h1.2.1.trans h2.2.1.symm) (h1.2.2.trans h2.2.2.symm)
      omega
    · rw [List.mem_map]
      constructor
      · intro hk
        obtain ⟨h1, h2, h3⟩ := mem_rankUp.mp hk
        obtain ⟨n, hn, rfl⟩ := cov k h1 x hx (.inl h2)
        refine ⟨n, mem_rankUp.mpr ⟨hn, ?_, ?_⟩, rfl⟩
        · rw [hd n hn] at h2
          exact inj _ _ (debtor_in GB hn) hx h2
        · rw [hr n hn] at h3
          exact h3
      · rintro ⟨n, hn, rfl⟩
        obtain ⟨h1, h2, h3⟩ := mem_rankUp.mp hn
        exact mem_rankUp.mpr ⟨lt n h1, by rw [hd n h1, h2], by rw [hr n h1, h3]⟩
  · refine fibre_sum (fun n hn hf => ⟨lt n hn, ?_⟩) (fun i j hi hj _ _ e => ixi i j hi hj e) (fun k hk hf => ?_) v
    · rw [hc n hn, of_decide_eq_true hf]
      exact decide_eq_true rfl
    · obtain ⟨n, hn, rfl⟩ := cov k hk x hx (.inr (of_decide_eq_true hf))
      refine ⟨n, hn, decide_eq_true ?_, rfl⟩
      have q := of_decide_eq_true hf
      rw [hc n hn] at q
      exact inj _ _ (creditor_in GB hn) hx q
  · refine fibre_sum (fun n hn hf => ⟨lt n hn, ?_⟩) (fun i j hi hj _ _ e => ixi i j hi hj e) (fun k hk hf => ?_) v
    · rw [hd n hn, of_decide_eq_true hf]
      exact decide_eq_true rfl
    · obtain ⟨n, hn, rfl⟩ := cov k hk x hx (.inl (of_decide_eq_true hf))
      refine ⟨n, hn, decide_eq_true ?_, rfl⟩
      have q := of_decide_eq_true hf
      rw [hd n hn] at q
      exact inj _ _ (debtor_in GB hn) hx q
section
variable {B M : Bk} {σ : Int → Int} {ix : Nat → Nat}
theorem Emb.amts (E : Emb B M σ ix) {x : Int} (hx : x ∈ houses B) (r : Int) : Rf.amts M (σ x) r = Rf.amts B x r := by
  unfold Rf.amts
  rw [E.rank x hx, List.map_map]
  exact List.map_congr_left fun n hn => E.a n (mem_rankUp.mp hn).1
theorem Emb.pay (E : Emb B M σ ix) {x : Int} (hx : x ∈ houses B) : ∀ (rs : List Int) (m : Int), payFrom M (σ x) rs m = (payFrom B x rs m).map fun p => (ix p.1, p.2)
  | [], _ => rfl
  | r :: rs, m => by
    unfold payFrom
    rw [E.amts hx, E.rank x hx, E.pay hx rs, List.map_append, List.zip_map_left]
    rfl
theorem Emb.coin (E : Emb B M σ ix) (GB : Good B) {x : Int} (hx : x ∈ houses B) {n : Nat} (hn : n < B.claims.length) (hd : (B.clm n).d = x) (m : Int) : coinOf M (σ x) m (ix n) = coinOf B x m n := by
  have h := coin_mem GB (m := m) hn hd
  have h2 : (ix n, coinOf B x m n) ∈ payFrom M (σ x) ranks9 m := by
    rw [E.pay hx]
    exact List.mem_map.mpr ⟨_, h, rfl⟩
  show ((payFrom M (σ x) ranks9 m).lookup (ix n)).getD 0 = _
  rw [lookup_of (pay_nodup M (σ x) m) h2]
  rfl
theorem Emb.owed (E : Emb B M σ ix) (GB : Good B) (GM : Good M) {x : Int} (hx : x ∈ houses B) : owedIn M (σ x) = owedIn B x := by
  rw [owedIn_eq GM, owedIn_eq GB]
  unfold owedBy
  congr 1
  exact List.map_congr_left fun r _ => by rw [E.amts hx]
/-- payments of the one book, seen in the other -/
structure ERel (B M : Bk) (ix : Nat → Nat) (P Q : List Int) : Prop where
  lp : P.length = M.claims.length
  lq : Q.length = B.claims.length
  at_ : ∀ n, n < B.claims.length → g P (ix n) = g Q n
theorem Emb.means (E : Emb B M σ ix) {P Q : List Int} (R : ERel B M ix P Q) {x : Int} (hx : x ∈ houses B) : meansOf M (σ x) P = meansOf B x Q := by
  unfold meansOf
  rw [E.cash x hx, R.lp, E.cred x hx, R.lq]
  congr 1
  exact sumIf_same fun k hk _ => R.at_ k hk
theorem Emb.paidOut (E : Emb B M σ ix) {P Q : List Int} (R : ERel B M ix P Q) {x : Int} (hx : x ∈ houses B) : Rf.paidOut M (σ x) P = Rf.paidOut B x Q := by
  unfold Rf.paidOut
  rw [R.lp, E.deb x hx, R.lq]
  exact sumIf_same fun k hk _ => R.at_ k hk
theorem Emb.behind (E : Emb B M σ ix) (GB : Good B) {P Q hs hs' : List Int} (R : ERel B M ix P Q) (hh : ∀ x, x ∈ houses B → (σ x ∈ hs' ↔ x ∈ hs)) : ERel B M ix (Rf.behind M hs' P) (Rf.behind B hs Q) := by
  refine ⟨behind_len _ _ _, behind_len _ _ _, fun n hn => ?_⟩
  have hx := debtor_in GB hn
  rw [g_behind (E.lt n hn), g_behind hn, E.d n hn]
  by_cases e : (B.clm n).d ∈ hs
  · rw [if_pos e, if_pos ((hh _ hx).mpr e), E.means R hx, E.coin GB hx hn rfl]
  · rw [if_neg e, if_neg (fun z => e ((hh _ hx).mp z))]
    exact R.at_ n hn
theorem Emb.led (E : Emb B M σ ix) (GB : Good B) {P Q hs hs' : List Int} (R : ERel B M ix P Q) (hh : ∀ x, x ∈ houses B → (σ x ∈ hs' ↔ x ∈ hs)) : ∀ n, ERel B M ix (Rf.led M hs' n P) (Rf.led B hs n Q)
  | 0 => R
  | n + 1 => E.behind GB (E.led GB R hh n) hh
theorem Emb.all (E : Emb B M σ ix) : ERel B M ix (allP M) (allP B) := ⟨allP_len M, allP_len B, fun n hn => by rw [g_allP (E.lt n hn), g_allP hn, E.a n hn]⟩
theorem Emb.none (E : Emb B M σ ix) : ERel B M ix (noneP M) (noneP B) := ⟨noneP_len M, noneP_len B, fun n hn => by rw [g_noneP (E.lt n hn), g_noneP hn]⟩
theorem Emb.top (E : Emb B M σ ix) (GB : Good B) (GM : Good M) {hs hs' : List Int} (hh : ∀ x, x ∈ houses B → (σ x ∈ hs' ↔ x ∈ hs)) : ERel B M ix (topIn M hs') (topIn B hs) := by
  have e1 := led_stays (m := (allP M).sum.toNat + (allP B).sum.toNat) (top_fix GM hs') (Nat.le_add_right _ _)
  have e2 := led_stays (m := (allP M).sum.toNat + (allP B).sum.toNat) (top_fix GB hs) (Nat.le_add_left _ _)
  have q := E.led GB E.all hh ((allP M).sum.toNat + (allP B).sum.toNat)
  rw [e1, e2] at q
  exact q
theorem Emb.low (E : Emb B M σ ix) (GB : Good B) (GM : Good M) {hs hs' : List Int} (hh : ∀ x, x ∈ houses B → (σ x ∈ hs' ↔ x ∈ hs)) : ERel B M ix (lowIn M hs') (lowIn B hs) := by
  have e1 := led_stays (m := (allP M).sum.toNat + (allP B).sum.toNat) (low_fix GM hs') (Nat.le_add_right _ _)
  have e2 := led_stays (m := (allP M).sum.toNat + (allP B).sum.toNat) (low_fix GB hs) (Nat.le_add_left _ _)
  have q := E.led GB E.none hh ((allP M).sum.toNat + (allP B).sum.toNat)
  rw [e1, e2] at q
  exact q
theorem Emb.houses (E : Emb B M σ ix) : ∀ x, x ∈ Rf.houses B → (σ x ∈ Rf.houses M ↔ x ∈ Rf.houses B) := fun x hx => ⟨fun _ => hx, fun _ => E.inn x hx⟩
theorem Emb.best (E : Emb B M σ ix) (GB : Good B) (GM : Good M) : ERel B M ix (bestOf M) (bestOf B) := E.top GB GM E.houses
theorem Emb.worst (E : Emb B M σ ix) (GB : Good B) (GM : Good M) : ERel B M ix (worstOf M) (worstOf B) := E.low GB GM E.houses
theorem Emb.fails (E : Emb B M σ ix) (GB : Good B) (GM : Good M) {x : Int} (hx : x ∈ Rf.houses B) : Fails M (σ x) ↔ Fails B x := by
  rw [fails_iff GM, fails_iff GB, E.means (E.best GB GM) hx, E.owed GB GM hx]
theorem Emb.wave (E : Emb B M σ ix) (GB : Good B) (GM : Good M) {F F' : List Int} (hh : ∀ x, x ∈ Rf.houses B → (σ x ∈ F' ↔ x ∈ F)) {x : Int} (hx : x ∈ Rf.houses B) : σ x ∈ waveOf M F' ↔ x ∈ waveOf B F := by
  rw [mem_wave, mem_wave, E.means (E.top GB GM hh) hx, E.owed GB GM hx, hh x hx]
  exact ⟨fun h => ⟨hx, h.2⟩, fun h => ⟨E.inn x hx, h.2⟩⟩
theorem Emb.lossAt (E : Emb B M σ ix) (GB : Good B) (GM : Good M) {x y : Nat} (hx : (x : Int) ∈ Rf.houses B) (hy : σ (x : Int) = (y : Int)) : Rf.lossAt M M.claims.length y = Rf.lossAt B B.claims.length x := by
  unfold Rf.lossAt
  rw [← hy, E.cred _ hx]
  exact sumIf_same fun k hk _ => by rw [E.a k hk, (E.best GB GM).at_ k hk]
theorem Emb.leftAt (E : Emb B M σ ix) {P Q : List Int} (R : ERel B M ix P Q) {x y : Nat} (hx : (x : Int) ∈ Rf.houses B) (hy : σ (x : Int) = (y : Int)) : g (leftOf M P) y = g (leftOf B Q) x := by
  have h1 := mem_houses.mp hx
  have h2 := mem_houses.mp (E.inn _ hx)
  rw [hy] at h2
  unfold leftOf
  rw [g_rangeMap (by omega), g_rangeMap (by omega), ← hy, E.means R hx, E.paidOut R hx]
end


end Rf
namespace Rf
open PySem PySem.Spec PyProof.Rows L2
/-! ### coins paid on one by one -/
/-- the claim that gets the next coin -/
def nextC (B : Bk) (x : Int) (P : List Int) : List Int → Option Nat
  | [] => none
  | r :: rs => match firstUp (amts B x r) ((ofRank B x r).map (g P)) (amts B x r).length with
    | some f => some ((ofRank B x r).getD f 0)
    | none => nextC B x P rs
theorem first_full {a : List Int} (pos : AllPos a) : firstUp a a a.length = none := by
  cases h : firstUp a a a.length with
  | none => rfl
  | some f =>
    have := (firstUp_some pos (Nat.le_refl _) h).room
    omega
theorem zip_get {ids : List Nat} {s : List Int} {i k : Nat} {v : Int} (h1 : ids[i]? = some k) (h2 : s[i]? = some v) : (ids.zip s)[i]? = some (k, v) := List.getElem?_zip_eq_some.mpr ⟨h1, h2⟩
theorem zip_set_map {ids : List Nat} {s : List Int} (hl : s.length = ids.length) (hn : ids.Nodup) {f : Nat} (hf : f < ids.length) : ids.zip (s.set f (g s f + 1)) = (ids.zip s).map fun p => if p.1 = ids[f] then (p.1, p.2 + 1) else p := by
  apply List.ext_getElem?
  intro i
  rw [List.getElem?_map]
  by_cases hi : i < ids.length
  · have h1 : ids[i]? = some ids[i] := List.getElem?_eq_getElem hi
    have h2 : s[i]? = some (g s i) := g_get (by omega)
    have e1 : (ids.zip s)[i]? = some (ids[i], g s i) := List.getElem?_zip_eq_some.mpr ⟨h1, h2⟩
    rw [e1]
    by_cases e : i = f
    · subst e
      have h3 : (s.set i (g s i + 1))[i]? = some (g s i + 1) := by rw [List.getElem?_set_self (by omega)]
      rw [zip_get h1 h3]
      show _ = some (if ids[i] = ids[i] then (ids[i], g s i + 1) else _)
      rw [if_pos rfl]
    · have h3 : (s.set f (g s f + 1))[i]? = some (g s i) := by rw [List.getElem?_set_ne (fun z => e z.symm), h2]
      rw [zip_get h1 h3]
      have hne : ids[i] ≠ ids[f] := fun z => e ((List.getElem_inj hn).mp z)
      show _ = some (if ids[i] = ids[f] then _ else (ids[i], g s i))
      rw [if_neg hne]
  · have l1 : (ids.zip s)[i]? = none := by rw [List.getElem?_eq_none]; rw [List.length_zip]; omega
    rw [l1, List.getElem?_eq_none (by rw [List.length_zip, List.length_set]; omega)]
    rfl
theorem map_id_of {α : Type} {l : List α} {f : α → α} (h : ∀ x ∈ l, f x = x) : l.map f = l := by
  induction l with
  | nil => rfl
  | cons x l ih => rw [List.map_cons, h x List.mem_cons_self, ih fun y hy => h y (List.mem_cons_of_mem _ hy)]
theorem next_pay {B : Bk} (G : Good B) {x : Int} {P : List Int} : ∀ {rs : List Int} {m : Int}, rs.Nodup → 0 ≤ m → m < owedBy B x rs → (∀ p ∈ payFrom B x rs m, g P p.1 = p.2) →
    ∃ c, nextC B x P rs = some c ∧ c ∈ rs.flatMap (ofRank B x) ∧ payFrom B x rs (m + 1) = (payFrom B x rs m).map fun p => if p.1 = c then (p.1, p.2 + 1) else p
  | [], m, _, h0, h1, _ => by
    have : owedBy B x [] = 0 := rfl
    omega
  | r :: rs, m, hn, h0, h1, hP => by
    have pos := amtsPos G x r
    obtain ⟨V, hs⟩ := share_ok pos h0
    have eo : owedBy B x (r :: rs) = (amts B x r).sum + owedBy B x rs := rfl
    have hl : (share (amts B x r) m).length = (ofRank B x r).length := by rw [share_len, amts_len]
    have hnd : (ofRank B x r).Nodup := nodup_filter_range _ _
    have eP : (ofRank B x r).map (g P) = share (amts B x r) m := by
      refine ext_g (by rw [List.length_map, hl]) fun i hi => ?_
      rw [List.length_map] at hi
      have h1 : (ofRank B x r)[i]? = some (ofRank B x r)[i] := List.getElem?_eq_getElem hi
      have h2 : (share (amts B x r) m)[i]? = some (g (share (amts B x r) m) i) := g_get (by omega)
      have hm : ((ofRank B x r)[i], g (share (amts B x r) m) i) ∈ payFrom B x (r :: rs) m := by
        unfold payFrom
        exact List.mem_append_left _ (List.mem_of_getElem? (List.getElem?_zip_eq_some.mpr ⟨h1, h2⟩))
      have q := hP _ hm
      apply g_of
      rw [List.getElem?_map, h1]
      exact congrArg some q
    have hr : r ∉ rs := (List.nodup_cons.mp hn).1
    by_cases hlt : m < (amts B x r).sum
    · have hsm : (share (amts B x r) m).sum = m := by rw [hs]; omega
      obtain ⟨f, e1, F⟩ := exists_first V (by omega) pos
      have hf : f < (ofRank B x r).length := by rw [← amts_len]; exact F.lt
      refine ⟨(ofRank B x r)[f], ?_, ?_, ?_⟩
      · unfold nextC
        rw [eP, e1]
        show some ((ofRank B x r).getD f 0) = _
        rw [List.getD_eq_getElem?_getD, List.getElem?_eq_getElem hf]
        rfl
      · rw [List.flatMap_cons]
        exact List.mem_append_left _ (List.getElem_mem hf)
      · have es : share (amts B x r) (m + 1) = (share (amts B x r) m).set f (g (share (amts B x r) m) f + 1) := by
          rw [share_next pos h0 hlt, nextS_of e1]
        have hs2 := (share_ok pos (show 0 ≤ m + 1 by omega)).2
        have hsm2 : (share (amts B x r) (m + 1)).sum = m + 1 := by rw [hs2]; omega
        unfold payFrom
        rw [hsm, hsm2, Int.sub_self, Int.sub_self, List.map_append, es, zip_set_map hl hnd hf]
        congr 1
        refine (map_id_of fun p hp => if_neg fun z => ?_).symm
        have h1 : p.1 ∈ (payFrom B x rs 0).map (·.1) := List.mem_map.mpr ⟨p, hp, rfl⟩
        rw [pay_keys] at h1
        have h2 := (mem_flat.mp h1).2.2
        have h3 := (mem_rankUp.mp (List.getElem_mem hf)).2.2
        rw [z, h3] at h2
        exact hr h2
    · have hfull : share (amts B x r) m = amts B x r := (full_share pos h0 (by omega)).symm
      have hfull1 : share (amts B x r) (m + 1) = amts B x r := (full_share pos (by omega) (by omega)).symm
      have hP' : ∀ p ∈ payFrom B x rs (m - (amts B x r).sum), g P p.1 = p.2 := fun p hp => hP p (by
        unfold payFrom
        rw [hfull]
        exact List.mem_append_right _ hp)
      obtain ⟨c, c1, c2, c3⟩ := next_pay G (rs := rs) (m := m - (amts B x r).sum) (List.nodup_cons.mp hn).2 (by omega) (by omega) hP'
      refine ⟨c, ?_, ?_, ?_⟩
      · unfold nextC
        rw [eP, hfull, first_full pos]
        exact c1
      · rw [List.flatMap_cons]
        exact List.mem_append_right _ c2
      · have em : m + 1 - (amts B x r).sum = m - (amts B x r).sum + 1 := by omega
        unfold payFrom
        rw [hfull, hfull1, em, c3, List.map_append]
        congr 1
        refine (map_id_of fun p hp => if_neg fun z => ?_).symm
        obtain ⟨i, hi⟩ := List.mem_iff_getElem?.mp hp
        have h1 : p.1 ∈ ofRank B x r := List.mem_of_getElem? (List.getElem?_zip_eq_some.mp hi).1
        have h3 := (mem_rankUp.mp h1).2.2
        have h2 := (mem_flat.mp c2).2.2
        rw [← z, h3] at h2
        exact hr h2
theorem present_nodup (B : Bk) (x : Int) : (ranks9.filter fun r => !(ofRank B x r).isEmpty).Nodup := (by decide : ranks9.Nodup).filter _
theorem owed_present {B : Bk} (x : Int) : ∀ rs : List Int, owedBy B x (rs.filter fun r => !(ofRank B x r).isEmpty) = owedBy B x rs
  | [] => rfl
  | r :: rs => by
    have ih := owed_present (B := B) x rs
    rw [List.filter_cons]
    have e : owedBy B x (r :: rs) = (amts B x r).sum + owedBy B x rs := rfl
    by_cases h : (ofRank B x r).isEmpty = true
    · rw [h, if_neg (by decide), ih, e]
      have : amts B x r = [] := by unfold amts; rw [List.isEmpty_iff.mp h]; rfl
      rw [this]
      show _ = (0 : Int) + _
      omega
    · have h' : (ofRank B x r).isEmpty = false := by simpa using h
      rw [h', if_pos (by decide), e]
      show (amts B x r).sum + owedBy B x _ = _
      rw [ih]
/-- the next coin, told by what a house has paid -/
theorem next_coin {B : Bk} (G : Good B) {x : Int} {P : List Int} {m : Int} (h0 : 0 ≤ m) (h1 : m < owedIn B x) (hP : ∀ k, k < B.claims.length → (B.clm k).d = x → g P k = coinOf B x m k) :
    ∃ c, nextC B x P (ranks9.filter fun r => !(ofRank B x r).isEmpty) = some c ∧ c < B.claims.length ∧ (B.clm c).d = x ∧ ∀ k, k < B.claims.length → (B.clm k).d = x → coinOf B x (m + 1) k = coinOf B x m k + (if k = c then 1 else 0) := by
  have ho : m < owedBy B x (ranks9.filter fun r => !(ofRank B x r).isEmpty) := by
    rw [owed_present, ← owedIn_eq G]
    exact h1
  have hPf : ∀ p ∈ payFrom B x (ranks9.filter fun r => !(ofRank B x r).isEmpty) m, g P p.1 = p.2 := fun p hp => by
    rw [pay_filter] at hp
    have hp' := (mem_payList G).mpr hp
    unfold payList at hp'
    obtain ⟨k, hk, rfl⟩ := List.mem_map.mp hp'
    exact hP k (mem_owesUp.mp hk).1 (mem_owesUp.mp hk).2
  obtain ⟨c, c1, c2, c3⟩ := next_pay G (present_nodup B x) h0 ho hPf
  rw [pay_filter, pay_filter] at c3
  have cm := mem_flat.mp c2
  refine ⟨c, c1, cm.1, cm.2.1, fun k hk hd => ?_⟩
  have h := coin_mem G (m := m) hk hd
  have h2 : (if k = c then (k, coinOf B x m k + 1) else (k, coinOf B x m k)) ∈ payFrom B x ranks9 (m + 1) := by
    rw [c3]
    exact List.mem_map.mpr ⟨_, h, rfl⟩
  show ((payFrom B x ranks9 (m + 1)).lookup k).getD 0 = _
  by_cases e : k = c
  · rw [if_pos e] at h2 ⊢
    rw [lookup_of (pay_nodup B x (m + 1)) h2]
    rfl
  · rw [if_neg e] at h2 ⊢
    rw [lookup_of (pay_nodup B x (m + 1)) h2]
    show coinOf B x m k = coinOf B x m k + 0
    omega
/-- payments while coins are paid on -/
structure Still (B : Bk) (P : List Int) : Prop where
  pay : Pay B P
  coin : ∀ k, k < B.claims.length → g P k = coinOf B (B.clm k).d (paidOut B (B.clm k).d P) k
  held : ∀ x, x ∈ houses B → paidOut B x P ≤ meansOf B x P
  le : LeP P (worstOf B)
theorem paid_none {B : Bk} (x : Int) : paidOut B x (noneP B) = 0 := by
  unfold paidOut
  rw [noneP_len]
  have e : sumIf (fun k => decide ((B.clm k).d = x)) (g (noneP B)) B.claims.length = sumIf (fun k => decide ((B.clm k).d = x)) (fun _ => 0) B.claims.length := sumIf_same fun k hk _ => g_noneP hk
  rw [e]
  generalize B.claims.length = n
  induction n with
  | zero => rfl
  | succ n ih =>
    show sumIf _ _ n + (if _ then (0 : Int) else 0) = 0
    rw [ih]
    split <;> rfl
theorem means_none {B : Bk} (x : Int) : meansOf B x (noneP B) = g B.cash x.toNat := by
  unfold meansOf
  rw [noneP_len]
  have e : sumIf (fun k => decide ((B.clm k).c = x)) (g (noneP B)) B.claims.length = sumIf (fun k => decide ((B.clm k).c = x)) (fun _ => 0) B.claims.length := sumIf_same fun k hk _ => g_noneP hk
  have z : ∀ n : Nat, sumIf (fun k => decide ((B.clm k).c = x)) (fun _ => (0 : Int)) n = 0 := fun n => by
    induction n with
    | zero => rfl
    | succ n ih =>
      show sumIf _ _ n + (if _ then (0 : Int) else 0) = 0
      rw [ih]
      split <;> rfl
  rw [e, z]
  omega
theorem coin_none {B : Bk} (G : Good B) {x : Int} {k : Nat} (hk : k < B.claims.length) (hd : (B.clm k).d = x) : coinOf B x 0 k = 0 := by
  have h1 := coin_sum G (x := x) (m := 0) (Int.le_refl 0)
  have h2 := owedIn_nn G x
  rw [owedIn_eq G] at h2
  have z : sumIf (fun k => decide ((B.clm k).d = x)) (fun _ => (0 : Int)) B.claims.length = 0 := by
    generalize B.claims.length = n
    induction n with
    | zero => rfl
    | succ n ih =>
      show sumIf _ _ n + (if _ then (0 : Int) else 0) = 0
      rw [ih]
      split <;> rfl
  have q := sumIf_eq_of (f := fun k => decide ((B.clm k).d = x)) (v := fun _ => 0) (w := coinOf B x 0) (n := B.claims.length) (fun j hj hf => coin_lo G hj (of_decide_eq_true hf) (Int.le_refl 0)) (by rw [h1, z]; omega) k hk (decide_eq_true hd)
  exact q.symm
theorem still_start {B : Bk} (G : Good B) : Still B (noneP B) := by
  refine ⟨noneP_pay G, fun k hk => ?_, fun x _ => ?_, noneP_le (worst_clears G).pay⟩
  · rw [paid_none, coin_none G hk rfl, g_noneP hk]
  · rw [paid_none, means_none]
    exact cash_nn G _
theorem paid_nn {B : Bk} {P : List Int} (hP : Pay B P) (x : Int) : 0 ≤ paidOut B x P := sumIf_nonneg fun k hk _ => hP.lo k (hP.len ▸ hk)
theorem paid_set {B : Bk} {P : List Int} {c : Nat} {v : Int} (hl : P.length = B.claims.length) (hc : c < B.claims.length) (x : Int) : paidOut B x (P.set c v) = paidOut B x P + (if (B.clm c).d = x then v - g P c else 0) := by
  unfold paidOut
  rw [List.length_set, sumIf_set (by rw [hl]; exact hc)]
  congr 1
  by_cases e : (B.clm c).d = x
  · rw [if_pos e, if_pos ⟨by rw [hl]; exact hc, decide_eq_true e⟩]
  · rw [if_neg e, if_neg (fun z => e (of_decide_eq_true z.2))]
theorem Still.step {B : Bk} (G : Good B) {P : List Int} (S : Still B P) {x : Int} (hx : x ∈ houses B) (h1 : paidOut B x P < meansOf B x P) (h2 : paidOut B x P < owedIn B x) :
    ∃ c, nextC B x P (ranks9.filter fun r => !(ofRank B x r).isEmpty) = some c ∧ c < B.claims.length ∧ (B.clm c).d = x ∧ Still B (P.set c (g P c + 1)) := by
  obtain ⟨c, c1, c2, c3, c4⟩ := next_coin G (paid_nn S.pay x) h2 fun k hk hd => by
    have q := S.coin k hk
    rw [hd] at q
    exact q
  have hl := S.pay.len
  have hcl : c < P.length := by rw [hl]; exact c2
  have eset : ∀ y, paidOut B y (P.set c (g P c + 1)) = paidOut B y P + (if x = y then 1 else 0) := fun y => by
    rw [paid_set hl c2, c3]
    congr 1
    split <;> omega
  have hcoin : ∀ k, k < B.claims.length → g (P.set c (g P c + 1)) k = coinOf B (B.clm k).d (paidOut B (B.clm k).d (P.set c (g P c + 1))) k := fun k hk => by
    rw [eset]
    by_cases e : x = (B.clm k).d
    · rw [if_pos e, ← e, c4 k hk e.symm]
      have q := S.coin k hk
      rw [← e] at q
      by_cases e2 : k = c
      · rw [if_pos e2, e2, g_set_same hcl]
        rw [e2] at q
        omega
      · rw [if_neg e2, g_set_ne (fun z => e2 z.symm), q]
        omega
    · have e2 : c ≠ k := fun z => e (by rw [← z, c3])
      rw [if_neg e, g_set_ne e2, Int.add_zero]
      exact S.coin k hk
  have hm1 : paidOut B x P + 1 ≤ meansOf B x (worstOf B) := by
    have := means_mono (B := B) S.le x
    omega
  have hle : LeP (P.set c (g P c + 1)) (worstOf B) := by
    refine ⟨by rw [List.length_set]; exact S.le.1, fun k hk => ?_⟩
    rw [List.length_set, hl] at hk
    by_cases e : c = k
    · have q := hcoin k hk
      rw [eset, ← e, c3, if_pos rfl] at q
      rw [← e, q]
      have w := (clears_iff G (worst_clears G).pay).mp (worst_clears G) c c2
      rw [c3] at w
      rw [w]
      exact coin_mono G c2 c3 (by have := paid_nn S.pay x; omega) hm1
    · rw [g_set_ne e]
      exact S.le.2 k (by rw [hl]; exact hk)
  have hpay : Pay B (P.set c (g P c + 1)) := by
    refine ⟨by rw [List.length_set]; exact hl, fun k hk => ?_, fun k hk => ?_⟩
    · by_cases e : c = k
      · rw [← e, g_set_same hcl]
        have := S.pay.lo c c2
        omega
      · rw [g_set_ne e]
        exact S.pay.lo k hk
    · have q1 := hle.2 k (by rw [List.length_set, hl]; exact hk)
      have q2 := (worst_clears G).pay.hi k hk
      omega
  refine ⟨c, c1, c2, c3, hpay, hcoin, fun y hy => ?_, hle⟩
  rw [eset, means_set hl c2]
  have := S.held y hy
  by_cases e : x = y
  · subst e
    rw [if_pos rfl]
    split <;> omega
  · rw [if_neg e]
    split <;> omega
theorem still_worst {B : Bk} (G : Good B) {P : List Int} (S : Still B P) (h : ∀ x, x ∈ houses B → meansOf B x P ≤ paidOut B x P ∨ owedIn B x ≤ paidOut B x P) : P = worstOf B := by
  refine S.le.anti (worst_le G ((clears_iff G S.pay).mpr fun k hk => ?_))
  have hx := debtor_in G hk
  have hh := S.held _ hx
  have q := S.coin k hk
  rcases h _ hx with e | e
  · have : paidOut B (B.clm k).d P = meansOf B (B.clm k).d P := by omega
    rw [this] at q
    exact q
  · rw [coin_full G hk rfl e] at q
    rw [coin_full G hk rfl (by omega)]
    exact q
def unpaidOf (B : Bk) (P : List Int) : List Int := (List.range B.cash.length).map fun x : Nat => owedIn B (x : Int) - paidOut B (x : Int) P
theorem unpaid_len (B : Bk) (P : List Int) : (unpaidOf B P).length = B.cash.length := by unfold unpaidOf; rw [List.length_map, List.length_range]
theorem g_unpaid {B : Bk} {P : List Int} {x : Nat} (h : x < B.cash.length) : g (unpaidOf B P) x = owedIn B (x : Int) - paidOut B (x : Int) P := g_rangeMap h
theorem g_left {B : Bk} {P : List Int} {x : Nat} (h : x < B.cash.length) : g (leftOf B P) x = meansOf B (x : Int) P - paidOut B (x : Int) P := g_rangeMap h
theorem left_none {B : Bk} : leftOf B (noneP B) = B.cash := by
  refine ext_g (leftOf_len _ _) fun k hk => ?_
  rw [leftOf_len] at hk
  rw [g_left hk, paid_none, means_none, Int.toNat_natCast]
  omega
theorem unpaid_set {B : Bk} {P : List Int} {c x : Nat} (hl : P.length = B.claims.length) (hc : c < B.claims.length) (hd : (B.clm c).d = (x : Int)) (hx : x < B.cash.length) : unpaidOf B (P.set c (g P c + 1)) = (unpaidOf B P).set x (g (unpaidOf B P) x - 1) := by
  unfold unpaidOf
  rw [rangeMap_set hx]
  apply List.map_congr_left
  intro y _
  rw [paid_set hl hc, hd]
  by_cases e : y = x
  · subst e
    rw [if_pos rfl, if_pos rfl, g_rangeMap hx]
    omega
  · rw [if_neg e, if_neg (by omega)]
    omega
theorem left_set {B : Bk} (G : Good B) {P : List Int} {c x y : Nat} (hl : P.length = B.claims.length) (hc : c < B.claims.length) (hd : (B.clm c).d = (x : Int)) (hcr : (B.clm c).c = (y : Int)) (hx : x < B.cash.length) (hy : y < B.cash.length) (v : Int) :
    leftOf B (P.set c (g P c + v)) = ((leftOf B P).set x (g (leftOf B P) x - v)).set y (g ((leftOf B P).set x (g (leftOf B P) x - v)) y + v) := by
  have ne : x ≠ y := fun z => (G.clm hc).ne (by rw [hd, hcr, z])
  rw [g_set_ne ne]
  refine ext_g (by rw [leftOf_len, List.length_set, List.length_set, leftOf_len]) fun k hk => ?_
  rw [leftOf_len] at hk
  rw [g_left hk, paid_set hl hc, means_set hl hc, hd, hcr]
  by_cases e1 : y = k
  · subst e1
    rw [g_set_same (by rw [List.length_set, leftOf_len]; exact hy), g_left hy, if_pos rfl, if_neg (by omega)]
    omega
  · rw [g_set_ne e1]
    by_cases e2 : x = k
    · subst e2
      rw [g_set_same (by rw [leftOf_len]; exact hx), g_left hx, if_neg (by omega), if_pos rfl]
      omega
    · rw [g_set_ne e2, g_left hk, if_neg (by omega), if_neg (by omega)]
      omega


end Rf
namespace Rf
open PySem PySem.Spec PyProof.Rows L2
/-! ### rings and orders: the mathematics of points 12 and 13 -/
def numbersOf (P : List Int) : List Nat := (List.range P.length).filter fun k => decide (0 < g P k)
theorem mem_numbers {P : List Int} {k : Nat} : k ∈ numbersOf P ↔ k < P.length ∧ 0 < g P k := by
  unfold numbersOf
  rw [List.mem_filter, List.mem_range, decide_eq_true_iff]
theorem numbers_len (P : List Int) : (numbersOf P).length ≤ P.length := by
  unfold numbersOf
  have := List.length_filter_le (fun k => decide (0 < g P k)) (List.range P.length)
  rw [List.length_range] at this
  exact this
theorem numbers_nodup (P : List Int) : (numbersOf P).Nodup := nodup_filter_range _ _
/-- debtors, creditors of claims -/
def dsOf (B : Bk) (ns : List Nat) : List Int := ns.map fun k => (B.clm k).d
def csOf (B : Bk) (ns : List Nat) : List Int := ns.map fun k => (B.clm k).c
theorem dsOf_len (B : Bk) (ns : List Nat) : (dsOf B ns).length = ns.length := List.length_map _
/-- the last of the claims whose debtor is x -/
def onw (B : Bk) (ns : List Nat) (x : Int) : Option Nat := (ns.filter fun k => decide ((B.clm k).d = x)).getLast?
theorem onw_mem {B : Bk} {ns : List Nat} {x : Int} {k : Nat} (h : onw B ns x = some k) : k ∈ ns ∧ (B.clm k).d = x := by
  have q := List.mem_of_getLast? h
  rw [List.mem_filter, decide_eq_true_iff] at q
  exact q
theorem onw_none {B : Bk} {ns : List Nat} {x : Int} (h : onw B ns x = none) : ∀ k ∈ ns, (B.clm k).d ≠ x := fun k hk e => by
  have q : ns.filter (fun k => decide ((B.clm k).d = x)) = [] := List.getLast?_eq_none_iff.mp h
  have m : k ∈ ns.filter fun k => decide ((B.clm k).d = x) := List.mem_filter.mpr ⟨hk, decide_eq_true e⟩
  rw [q] at m
  exact nomatch m
theorem onw_of {B : Bk} {ns : List Nat} {k : Nat} (hk : k ∈ ns) : ∃ j, onw B ns (B.clm k).d = some j := by
  cases h : onw B ns (B.clm k).d with
  | some j => exact ⟨j, rfl⟩
  | none => exact absurd rfl (onw_none h k hk)
def keptOf (B : Bk) (ns : List Nat) : List Nat := ns.filter fun k => (onw B ns (B.clm k).c).isSome
theorem kept_sub {B : Bk} {ns : List Nat} {k : Nat} (h : k ∈ keptOf B ns) : k ∈ ns := (List.mem_filter.mp h).1
theorem kept_lt {B : Bk} {ns : List Nat} (h : keptOf B ns ≠ ns) : (keptOf B ns).length < ns.length := by
  have s : (keptOf B ns).Sublist ns := List.filter_sublist
  rcases Nat.lt_or_ge (keptOf B ns).length ns.length with q | q
  · exact q
  · exact absurd (s.eq_of_length (Nat.le_antisymm s.length_le q)) h
/-- claims that are a ring -/
structure IsRing (B : Bk) (ks : List Nat) : Prop where
  two : 2 ≤ ks.length
  nd : ks.Nodup
  turn : csOf B ks = (dsOf B ks).drop 1 ++ (dsOf B ks).take 1
def wayGo (B : Bk) (ns : List Nat) : Nat → List Nat → Int → List Nat
  | 0, way, _ => way
  | f + 1, way, h => if h ∈ dsOf B way then way.drop ((dsOf B way).idxOf h) else wayGo B ns f (way ++ [(onw B ns h).getD 0]) (B.clm ((onw B ns h).getD 0)).c
structure WayOk (B : Bk) (ns way : List Nat) (h : Int) : Prop where
  sub : ∀ k ∈ way, k ∈ ns
  nd : (dsOf B way).Nodup
  ne : way ≠ []
  ch : csOf B way = (dsOf B way).drop 1 ++ [h]
  hc : ∃ k ∈ ns, (B.clm k).c = h
theorem way_start {B : Bk} {ns : List Nat} {n : Nat} (h : n ∈ ns) : WayOk B ns [n] (B.clm n).c := ⟨fun k hk => by rw [List.mem_singleton.mp hk]; exact h, by simp [dsOf], (fun z => nomatch z), rfl, n, h, rfl⟩
theorem way_step {B : Bk} {ns way : List Nat} {h : Int} (hcl : keptOf B ns = ns) (W : WayOk B ns way h) (hn : h ∉ dsOf B way) : ∃ k, onw B ns h = some k ∧ k ∈ ns ∧ (B.clm k).d = h ∧ WayOk B ns (way ++ [k]) (B.clm k).c := by
  obtain ⟨k0, hk0, e0⟩ := W.hc
  have q : k0 ∈ keptOf B ns := by rw [hcl]; exact hk0
  have q2 := (List.mem_filter.mp q).2
  rw [e0] at q2
  obtain ⟨k, hk⟩ := Option.isSome_iff_exists.mp q2
  obtain ⟨m, d⟩ := onw_mem hk
  refine ⟨k, hk, m, d, fun j hj => ?_, ?_, (by simp), ?_, k, m, rfl⟩
  · rcases List.mem_append.mp hj with z | z
    · exact W.sub j z
    · rw [List.mem_singleton.mp z]
      exact m
  · unfold dsOf
    rw [List.map_append]
    refine List.nodup_append.mpr ⟨W.nd, by simp, fun a ha b hb e => ?_⟩
    have eb : b = h := by rw [List.mem_singleton.mp hb]; exact d
    rw [e, eb] at ha
    exact hn ha
  · have e1 : csOf B (way ++ [k]) = csOf B way ++ [(B.clm k).c] := List.map_append
    have e2 : dsOf B (way ++ [k]) = dsOf B way ++ [h] := by
      unfold dsOf
      rw [List.map_append, ← d]
      rfl
    have hl : 1 ≤ (dsOf B way).length := by rw [dsOf_len]; exact List.length_pos_iff.mpr W.ne
    rw [e1, e2, W.ch, List.drop_append_of_le_length hl]
theorem nodup_of_map {α β : Type} {f : α → β} {l : List α} (h : (l.map f).Nodup) : l.Nodup := (List.pairwise_map.mp h).imp fun hn e => hn (by rw [e])
theorem way_ring {B : Bk} (G : Good B) {ns way : List Nat} {h : Int} (hlt : ∀ k ∈ ns, k < B.claims.length) (W : WayOk B ns way h) (hm : h ∈ dsOf B way) : IsRing B (way.drop ((dsOf B way).idxOf h)) ∧ ∀ k ∈ way.drop ((dsOf B way).idxOf h), k ∈ ns := by
  have hi : (dsOf B way).idxOf h < (dsOf B way).length := List.idxOf_lt_length_of_mem hm
  have hg : (dsOf B way)[(dsOf B way).idxOf h] = h := List.getElem_idxOf hi
  generalize hj : (dsOf B way).idxOf h = i at hi hg
  have hi' : i < way.length := by rw [dsOf_len] at hi; exact hi
  have hsub : ∀ k ∈ way.drop i, k ∈ ns := fun k hk => W.sub k (List.mem_of_mem_drop hk)
  have e1 : csOf B (way.drop i) = (csOf B way).drop i := List.map_drop
  have e2 : dsOf B (way.drop i) = (dsOf B way).drop i := List.map_drop
  have hd : (dsOf B way).drop i = h :: (dsOf B way).drop (i + 1) := by
    rw [List.drop_eq_getElem_cons hi, hg]
  have turn : csOf B (way.drop i) = (dsOf B (way.drop i)).drop 1 ++ (dsOf B (way.drop i)).take 1 := by
    rw [e1, e2, W.ch, hd, List.drop_append_of_le_length (by rw [List.length_drop]; omega), List.drop_drop]
    show List.drop (1 + i) (dsOf B way) ++ [h] = List.drop (i + 1) (dsOf B way) ++ [h]
    rw [Nat.add_comm]
  have hl : (way.drop i).length = way.length - i := List.length_drop
  refine ⟨⟨?_, ?_, turn⟩, hsub⟩
  · rcases Nat.lt_or_ge 1 (way.drop i).length with z | z
    · exact z
    · obtain ⟨k, hk⟩ := List.length_eq_one_iff.mp (show (way.drop i).length = 1 by omega)
      rw [hk] at turn
      have e : (B.clm k).c = (B.clm k).d := (List.cons.inj turn).1
      exact absurd e.symm (G.clm (hlt k (hsub k (by rw [hk]; exact List.mem_cons_self)))).ne
  · exact (nodup_of_map W.nd).sublist (List.drop_sublist i way)
theorem hs_len (B : Bk) : (houses B).length = B.cash.length := by unfold houses; rw [List.length_map, List.length_range]
theorem way_short {B : Bk} (G : Good B) {ns way : List Nat} {h : Int} (hlt : ∀ k ∈ ns, k < B.claims.length) (W : WayOk B ns way h) : way.length ≤ B.cash.length := by
  have q := nodup_sub_len W.nd (houses_nodup B) fun x hx => by
    obtain ⟨k, hk, rfl⟩ := List.mem_map.mp hx
    exact debtor_in G (hlt k (W.sub k hk))
  rw [dsOf_len, hs_len] at q
  exact q
theorem way_go {B : Bk} (G : Good B) {ns : List Nat} (hlt : ∀ k ∈ ns, k < B.claims.length) (hcl : keptOf B ns = ns) : ∀ (f : Nat) {way : List Nat} {h : Int}, WayOk B ns way h → B.cash.length < way.length + f → IsRing B (wayGo B ns f way h) ∧ ∀ k ∈ wayGo B ns f way h, k ∈ ns
  | 0, way, h, W, hf => by
    have := way_short G hlt W
    omega
  | f + 1, way, h, W, hf => by
    unfold wayGo
    by_cases hm : h ∈ dsOf B way
    · rw [if_pos hm]
      exact way_ring G hlt W hm
    · rw [if_neg hm]
      obtain ⟨k, hk, _, _, W2⟩ := way_step hcl W hm
      rw [hk]
      exact way_go G hlt hcl f W2 (by rw [List.length_append]; show _ < way.length + 1 + f; omega)
def ringIn (B : Bk) : Nat → List Nat → List Nat
  | 0, _ => []
  | _ + 1, [] => []
  | f + 1, n :: ns => if keptOf B (n :: ns) = n :: ns then wayGo B (n :: ns) (B.cash.length + 1) [n] (B.clm n).c else ringIn B f (keptOf B (n :: ns))
theorem ring_some {B : Bk} (G : Good B) : ∀ (f : Nat) {ns : List Nat}, (∀ k ∈ ns, k < B.claims.length) → ringIn B f ns ≠ [] → IsRing B (ringIn B f ns) ∧ ∀ k ∈ ringIn B f ns, k ∈ ns
  | 0, _, _, h => absurd rfl h
  | _ + 1, [], _, h => absurd rfl h
  | f + 1, n :: ns, hlt, h => by
    unfold ringIn at h ⊢
    by_cases e : keptOf B (n :: ns) = n :: ns
    · rw [if_pos e]
      exact way_go G hlt e _ (way_start List.mem_cons_self) (by show _ < 1 + _; omega)
    · rw [if_neg e] at h ⊢
      obtain ⟨a, b⟩ := ring_some G f (fun k hk => hlt k (kept_sub hk)) h
      exact ⟨a, fun k hk => kept_sub (b k hk)⟩
theorem ring_none {B : Bk} (G : Good B) : ∀ (f : Nat) {ns : List Nat}, ns.length < f → (∀ k ∈ ns, k < B.claims.length) → ringIn B f ns = [] → ∀ W : List Nat, (∀ k ∈ W, k ∈ ns) → W ≠ [] → ∃ k ∈ W, ∀ j ∈ W, (B.clm j).c ≠ (B.clm k).d
  | 0, _, h, _, _, _, _, _ => absurd h (Nat.not_lt_zero _)
  | _ + 1, [], _, _, _, W, hs, hn => by
    cases W with
    | nil => exact absurd rfl hn
    | cons k W => exact nomatch hs k List.mem_cons_self
  | f + 1, n :: ns, hf, hlt, h, W, hs, hn => by
    unfold ringIn at h
    by_cases e : keptOf B (n :: ns) = n :: ns
    · rw [if_pos e] at h
      have q := (way_go G hlt e (B.cash.length + 1) (way_start List.mem_cons_self) (by show _ < 1 + _; omega)).1.two
      rw [h] at q
      exact absurd q (by decide)
    · rw [if_neg e] at h
      have hl := kept_lt e
      by_cases hW : (W.filter fun k => decide (k ∈ keptOf B (n :: ns))) = []
      · obtain ⟨k, W', rfl⟩ := List.exists_cons_of_ne_nil hn
        refine ⟨k, List.mem_cons_self, fun j hj z => ?_⟩
        have q1 : j ∈ keptOf B (n :: ns) := List.mem_filter.mpr ⟨hs j hj, by
          obtain ⟨i, hi⟩ := onw_of (B := B) (hs k List.mem_cons_self)
          rw [z, hi]
          rfl⟩
        have q2 : j ∈ (k :: W').filter fun k => decide (k ∈ keptOf B (n :: ns)) := List.mem_filter.mpr ⟨hj, decide_eq_true q1⟩
        rw [hW] at q2
        exact nomatch q2
      · obtain ⟨k, hk, hk2⟩ := ring_none G f (by omega) (fun k hk => hlt k (kept_sub hk)) h _ (fun k hk => of_decide_eq_true (List.mem_filter.mp hk).2) hW
        have hkW := (List.mem_filter.mp hk).1
        refine ⟨k, hkW, fun j hj z => ?_⟩
        have q1 : j ∈ keptOf B (n :: ns) := List.mem_filter.mpr ⟨hs j hj, by
          obtain ⟨i, hi⟩ := onw_of (B := B) (hs k hkW)
          rw [z, hi]
          rfl⟩
        exact hk2 j (List.mem_filter.mpr ⟨hj, decide_eq_true q1⟩) z
/-! coins by a ring -/
def addR (P : List Int) (r : List Nat) (c : Int) : List Int := r.foldl (fun P k => P.set k (g P k + c)) P
theorem addR_len : ∀ (r : List Nat) (P : List Int) (c : Int), (addR P r c).length = P.length
  | [], _, _ => rfl
  | k :: r, P, c => by
    show (addR (P.set k (g P k + c)) r c).length = _
    rw [addR_len r, List.length_set]
theorem g_addR : ∀ {r : List Nat} {P : List Int} {c : Int}, r.Nodup → (∀ k ∈ r, k < P.length) → ∀ k, g (addR P r c) k = g P k + (if k ∈ r then c else 0)
  | [], P, c, _, _, k => by
    show g P k = _
    rw [if_neg List.not_mem_nil]
    omega
  | i :: r, P, c, hn, hl, k => by
    have hn2 := List.nodup_cons.mp hn
    show g (addR (P.set i (g P i + c)) r c) k = _
    rw [g_addR hn2.2 (fun j hj => by rw [List.length_set]; exact hl j (List.mem_cons_of_mem _ hj))]
    by_cases e : i = k
    · subst e
      rw [g_set_same (hl i List.mem_cons_self), if_neg hn2.1, if_pos List.mem_cons_self]
      omega
    · rw [g_set_ne e]
      congr 1
      by_cases z : k ∈ r
      · rw [if_pos z, if_pos (List.mem_cons_of_mem _ z)]
      · rw [if_neg z, if_neg fun y => by
          rcases List.mem_cons.mp y with w | w
          · exact e w.symm
          · exact z w]
theorem means_addR {B : Bk} (x : Int) (c : Int) : ∀ {r : List Nat} {P : List Int}, P.length = B.claims.length → (∀ k ∈ r, k < B.claims.length) → meansOf B x (addR P r c) = meansOf B x P + c * ((csOf B r).count x : Int)
  | [], P, _, _ => by
    show meansOf B x P = meansOf B x P + c * ((0 : Nat) : Int)
    rw [Int.natCast_zero, Int.mul_zero, Int.add_zero]
  | k :: r, P, hl, hr => by
    show meansOf B x (addR (P.set k (g P k + c)) r c) = _
    rw [means_addR x c (by rw [List.length_set]; exact hl) (fun j hj => hr j (List.mem_cons_of_mem _ hj)), means_set hl (hr k List.mem_cons_self)]
    have e : csOf B (k :: r) = (B.clm k).c :: csOf B r := rfl
    rw [e, List.count_cons]
    by_cases z : (B.clm k).c = x
    · rw [if_pos z, if_pos (by rw [z]; exact beq_self_eq_true x), Int.natCast_add, Int.mul_add]
      omega
    · rw [if_neg z, if_neg (fun y => z (eq_of_beq y)), Int.natCast_add, Int.mul_add]
      omega
theorem paid_addR {B : Bk} (x : Int) (c : Int) : ∀ {r : List Nat} {P : List Int}, P.length = B.claims.length → (∀ k ∈ r, k < B.claims.length) → paidOut B x (addR P r c) = paidOut B x P + c * ((dsOf B r).count x : Int)
  | [], P, _, _ => by
    show paidOut B x P = paidOut B x P + c * ((0 : Nat) : Int)
    rw [Int.natCast_zero, Int.mul_zero, Int.add_zero]
  | k :: r, P, hl, hr => by
    show paidOut B x (addR (P.set k (g P k + c)) r c) = _
    rw [paid_addR x c (by rw [List.length_set]; exact hl) (fun j hj => hr j (List.mem_cons_of_mem _ hj)), paid_set hl (hr k List.mem_cons_self)]
    have e : dsOf B (k :: r) = (B.clm k).d :: dsOf B r := rfl
    rw [e, List.count_cons]
    by_cases z : (B.clm k).d = x
    · rw [if_pos z, if_pos (by rw [z]; exact beq_self_eq_true x), Int.natCast_add, Int.mul_add]
      omega
    · rw [if_neg z, if_neg (fun y => z (eq_of_beq y)), Int.natCast_add, Int.mul_add]
      omega
theorem ring_count {B : Bk} {r : List Nat} (R : IsRing B r) (x : Int) : (csOf B r).count x = (dsOf B r).count x := by
  rw [R.turn, List.count_append, Nat.add_comm, ← List.count_append, List.take_append_drop]
theorem left_ring {B : Bk} {r : List Nat} {P : List Int} {c : Int} (R : IsRing B r) (hl : P.length = B.claims.length) (hr : ∀ k ∈ r, k < B.claims.length) : leftOf B (addR P r c) = leftOf B P := by
  refine ext_g (by rw [leftOf_len, leftOf_len]) fun k hk => ?_
  rw [leftOf_len] at hk
  rw [g_left hk, g_left hk, means_addR _ c hl hr, paid_addR _ c hl hr, ring_count R]
  omega
theorem sum_addR : ∀ {r : List Nat} {P : List Int} {c : Int}, (∀ k ∈ r, k < P.length) → (addR P r c).sum = P.sum + c * r.length
  | [], P, c, _ => by
    show P.sum = P.sum + c * ((0 : Nat) : Int)
    rw [Int.natCast_zero, Int.mul_zero, Int.add_zero]
  | k :: r, P, c, h => by
    show (addR (P.set k (g P k + c)) r c).sum = _
    rw [sum_addR fun j hj => by rw [List.length_set]; exact h j (List.mem_cons_of_mem _ hj), sum_set_g (h k List.mem_cons_self)]
    show _ = P.sum + c * ((r.length + 1 : Nat) : Int)
    rw [Int.natCast_add, Int.mul_add]
    omega
def minOf : List Int → Int
  | [] => 0
  | [x] => x
  | x :: y :: l => min x (minOf (y :: l))
theorem minOf_ok : ∀ {l : List Int}, l ≠ [] → minOf l ∈ l ∧ ∀ y ∈ l, minOf l ≤ y
  | [], h => absurd rfl h
  | [x], _ => ⟨List.mem_cons_self, fun y hy => by rw [List.mem_singleton.mp hy]; exact Int.le_refl _⟩
  | x :: y :: l, _ => by
    obtain ⟨a, b⟩ := minOf_ok (l := y :: l) (fun z => nomatch z)
    have e : minOf (x :: y :: l) = min x (minOf (y :: l)) := rfl
    rw [e]
    refine ⟨?_, fun z hz => ?_⟩
    · by_cases h : x ≤ minOf (y :: l)
      · rw [Int.min_eq_left h]
        exact List.mem_cons_self
      · rw [Int.min_eq_right (by omega)]
        exact List.mem_cons_of_mem _ a
    · rcases List.mem_cons.mp hz with w | w
      · subst w
        exact Int.min_le_left _ _
      · exact Int.le_trans (Int.min_le_right _ _) (b z w)
def ringsFrom (B : Bk) : Nat → List Int → List (List Nat × Int) × List Int
  | 0, P => ([], P)
  | f + 1, P => if ringIn B (P.length + 1) (numbersOf P) = [] then ([], P) else
    ((ringIn B (P.length + 1) (numbersOf P), minOf ((ringIn B (P.length + 1) (numbersOf P)).map (g P))) :: (ringsFrom B f (addR P (ringIn B (P.length + 1) (numbersOf P)) (-minOf ((ringIn B (P.length + 1) (numbersOf P)).map (g P))))).1,
      (ringsFrom B f (addR P (ringIn B (P.length + 1) (numbersOf P)) (-minOf ((ringIn B (P.length + 1) (numbersOf P)).map (g P))))).2)
def tot (rs : List (List Nat × Int)) (k : Nat) : Int := (rs.map fun q => if k ∈ q.1 then q.2 else 0).sum
structure RingsOk (B : Bk) (P : List Int) (rs : List (List Nat × Int)) (P' : List Int) : Prop where
  len : P'.length = B.claims.length
  lo : ∀ k, k < B.claims.length → 0 ≤ g P' k
  left : leftOf B P' = leftOf B P
  ring : ∀ q ∈ rs, IsRing B q.1 ∧ 1 ≤ q.2 ∧ ∀ k ∈ q.1, k < B.claims.length
  tot : ∀ k, k < B.claims.length → g P k = g P' k + tot rs k
  short : (rs.length : Int) ≤ P.sum - P'.sum
  none : ringIn B (P'.length + 1) (numbersOf P') = []
/-- a ring is taken off -/
theorem ring_off {B : Bk} (G : Good B) {P : List Int} {r : List Nat} (hl : P.length = B.claims.length) (h0 : ∀ k, k < B.claims.length → 0 ≤ g P k) (er : ringIn B (P.length + 1) (numbersOf P) = r) (hr : r ≠ []) :
    IsRing B r ∧ (∀ k ∈ r, k < B.claims.length) ∧ 1 ≤ minOf (r.map (g P)) ∧ (∀ k ∈ r, minOf (r.map (g P)) ≤ g P k) ∧ (addR P r (-minOf (r.map (g P)))).length = B.claims.length ∧ (∀ k, k < B.claims.length → 0 ≤ g (addR P r (-minOf (r.map (g P)))) k) ∧ leftOf B (addR P r (-minOf (r.map (g P)))) = leftOf B P ∧
      (addR P r (-minOf (r.map (g P)))).sum + 2 ≤ P.sum := by
  have hlt : ∀ k ∈ numbersOf P, k < B.claims.length := fun k hk => by rw [← hl]; exact (mem_numbers.mp hk).1
  obtain ⟨R, hs⟩ := ring_some G (P.length + 1) hlt (by rw [er]; exact hr)
  rw [er] at R hs
  have hrl : ∀ k ∈ r, k < B.claims.length := fun k hk => hlt k (hs k hk)
  have hm := minOf_ok (l := r.map (g P)) (fun z => hr (List.map_eq_nil_iff.mp z))
  have h1 : 1 ≤ minOf (r.map (g P)) := by
    obtain ⟨k, hk, e⟩ := List.mem_map.mp hm.1
    have := (mem_numbers.mp (hs k hk)).2
    omega
  have h2 : ∀ k ∈ r, minOf (r.map (g P)) ≤ g P k := fun k hk => hm.2 _ (List.mem_map_of_mem hk)
  have hrl' : ∀ k ∈ r, k < P.length := fun k hk => by rw [hl]; exact hrl k hk
  refine ⟨R, hrl, h1, h2, by rw [addR_len]; exact hl, fun k hk => ?_, left_ring R hl hrl, ?_⟩
  · rw [g_addR R.nd hrl']
    by_cases e : k ∈ r
    · rw [if_pos e]
      have := h2 k e
      omega
    · rw [if_neg e]
      have := h0 k hk
      omega
  · rw [sum_addR hrl']
    have t := R.two
    have : minOf (r.map (g P)) * 2 ≤ minOf (r.map (g P)) * (r.length : Int) := Int.mul_le_mul_of_nonneg_left (by omega) (by omega)
    rw [Int.neg_mul]
    omega
theorem sum_nn_of {P : List Int} {n : Nat} (hl : P.length = n) (h0 : ∀ k, k < n → 0 ≤ g P k) : 0 ≤ P.sum := sum_nonneg fun i hi => h0 i (hl ▸ hi)
theorem rings_ok {B : Bk} (G : Good B) : ∀ (f : Nat) {P : List Int}, P.length = B.claims.length → (∀ k, k < B.claims.length → 0 ≤ g P k) → P.sum < f → RingsOk B P (ringsFrom B f P).1 (ringsFrom B f P).2
  | 0, P, hl, h0, hf => by
    have := sum_nn_of hl h0
    omega
  | f + 1, P, hl, h0, hf => by
    unfold ringsFrom
    by_cases e : ringIn B (P.length + 1) (numbersOf P) = []
    · rw [if_pos e]
      exact ⟨hl, h0, rfl, (fun q h => nomatch h), fun k _ => by show g P k = g P k + 0; omega, by show (0 : Int) ≤ P.sum - P.sum; omega, e⟩
    · rw [if_neg e]
      generalize er : ringIn B (P.length + 1) (numbersOf P) = r at e
      obtain ⟨R, hrl, h1, h2, l2, lo2, lf2, s2⟩ := ring_off G hl h0 er e
      generalize minOf (r.map (g P)) = c at h1 h2 l2 lo2 lf2 s2 ⊢
      have s3 : (addR P r (-c)).sum < (f : Int) := by omega
      have ih := rings_ok G f l2 lo2 s3
      have hrl' : ∀ k ∈ r, k < P.length := fun k hk => by rw [hl]; exact hrl k hk
      refine ⟨ih.len, ih.lo, ih.left.trans lf2, fun q hq => ?_, fun k hk => ?_, ?_, ih.none⟩
      · rcases List.mem_cons.mp hq with z | z
        · rw [z]
          exact ⟨R, h1, hrl⟩
        · exact ih.ring q z
      · have q := ih.tot k hk
        rw [g_addR R.nd hrl'] at q
        show g P k = g (ringsFrom B f (addR P r (-c))).2 k + ((if k ∈ r then c else 0) + tot (ringsFrom B f (addR P r (-c))).1 k)
        by_cases z : k ∈ r
        · rw [if_pos z] at q ⊢
          omega
        · rw [if_neg z] at q ⊢
          omega
      · have := ih.short
        show (((ringsFrom B f (addR P r (-c))).1.length + 1 : Nat) : Int) ≤ P.sum - (ringsFrom B f (addR P r (-c))).2.sum
        omega
/-! payments, one after another -/
def onlyP (P : List Int) (ds : List Nat) : List Int := (List.range P.length).map fun k => if k ∈ ds then g P k else 0
theorem only_len (P : List Int) (ds : List Nat) : (onlyP P ds).length = P.length := by unfold onlyP; rw [List.length_map, List.length_range]
theorem g_only {P : List Int} {ds : List Nat} {k : Nat} (h : k < P.length) : g (onlyP P ds) k = if k ∈ ds then g P k else 0 := g_rangeMap h
theorem only_snoc {P : List Int} {ds : List Nat} {k : Nat} (h : k < P.length) (hn : k ∉ ds) : onlyP P (ds ++ [k]) = (onlyP P ds).set k (g (onlyP P ds) k + g P k) := by
  refine ext_g (by rw [List.length_set, only_len, only_len]) fun i hi => ?_
  rw [only_len] at hi
  rw [g_only hi]
  by_cases e : k = i
  · subst e
    rw [g_set_same (by rw [only_len]; exact hi), g_only hi, if_neg hn, if_pos (List.mem_append_right _ List.mem_cons_self)]
    omega
  · rw [g_set_ne e, g_only hi]
    by_cases z : i ∈ ds
    · rw [if_pos z, if_pos (List.mem_append_left _ z)]
    · rw [if_neg z, if_neg fun y => by
        rcases List.mem_append.mp y with w | w
        · exact z w
        · exact e (List.mem_singleton.mp w).symm]
theorem only_nil {B : Bk} {P : List Int} (hl : P.length = B.claims.length) : onlyP P [] = noneP B := by
  refine ext_g (by rw [only_len, noneP_len, hl]) fun k hk => ?_
  rw [only_len] at hk
  rw [g_only hk, g_noneP (by rw [← hl]; exact hk), if_neg List.not_mem_nil]
theorem only_all {P : List Int} {ds : List Nat} (h0 : ∀ k, k < P.length → 0 ≤ g P k) (h : ∀ k ∈ numbersOf P, k ∈ ds) : onlyP P ds = P := by
  refine ext_g (only_len _ _) fun k hk => ?_
  rw [only_len] at hk
  rw [g_only hk]
  by_cases z : k ∈ ds
  · rw [if_pos z]
  · rw [if_neg z]
    have := h0 k hk
    have : ¬ 0 < g P k := fun y => z (h k (mem_numbers.mpr ⟨hk, y⟩))
    omega
def payOne (B : Bk) (P : List Int) (s : List Nat × List Nat) (k : Nat) : List Nat × List Nat := if g P k ≤ g (leftOf B (onlyP P s.1)) (B.clm k).d.toNat then (s.1 ++ [k], s.2) else (s.1, s.2 ++ [k])
def passOf (B : Bk) (P : List Int) (ws done : List Nat) : List Nat × List Nat := ws.foldl (payOne B P) (done, [])
def payGo (B : Bk) (P : List Int) : Nat → List Nat → List Nat → List Nat
  | 0, _, done => done
  | f + 1, ws, done => if ws = [] then done else payGo B P f (passOf B P ws done).2 (passOf B P ws done).1
inductive PayOk (B : Bk) (P : List Int) : List Nat → Prop
  | nil : PayOk B P []
  | snoc {ds : List Nat} {k : Nat} : PayOk B P ds → k < P.length → 0 < g P k → k ∉ ds → g P k ≤ g (leftOf B (onlyP P ds)) (B.clm k).d.toNat → PayOk B P (ds ++ [k])
theorem pass_ok {B : Bk} {P : List Int} : ∀ (ws : List Nat) {s : List Nat × List Nat}, PayOk B P s.1 → (s.1 ++ s.2 ++ ws).Perm (numbersOf P) → PayOk B P (ws.foldl (payOne B P) s).1 ∧ ((ws.foldl (payOne B P) s).1 ++ (ws.foldl (payOne B P) s).2).Perm (numbersOf P) ∧ (ws.foldl (payOne B P) s).2.length ≤ s.2.length + ws.length
  | [], s, h, hp => ⟨h, by rw [List.append_nil] at hp; exact hp, Nat.le_refl _⟩
  | k :: ws, s, h, hp => by
    have hnd : (s.1 ++ s.2 ++ k :: ws).Nodup := hp.nodup_iff.mpr (numbers_nodup P)
    have hk := mem_numbers.mp (hp.mem_iff.mp (List.mem_append_right _ List.mem_cons_self))
    have hn : k ∉ s.1 := fun z => (List.nodup_append.mp hnd).2.2 k (List.mem_append_left _ z) k List.mem_cons_self rfl
    show PayOk B P (ws.foldl (payOne B P) (payOne B P s k)).1 ∧ ((ws.foldl (payOne B P) (payOne B P s k)).1 ++ (ws.foldl (payOne B P) (payOne B P s k)).2).Perm (numbersOf P) ∧ (ws.foldl (payOne B P) (payOne B P s k)).2.length ≤ _
    by_cases e : g P k ≤ g (leftOf B (onlyP P s.1)) (B.clm k).d.toNat
    · have e1 : payOne B P s k = (s.1 ++ [k], s.2) := if_pos e
      rw [e1]
      obtain ⟨a, b, c⟩ := pass_ok ws (s := (s.1 ++ [k], s.2)) (.snoc h hk.1 hk.2 hn e) (by
        refine List.Perm.trans ?_ hp
        show (s.1 ++ [k] ++ s.2 ++ ws).Perm (s.1 ++ s.2 ++ k :: ws)
        rw [List.append_assoc, List.append_assoc, List.append_assoc]
        exact List.Perm.append_left _ (List.perm_middle (a := k) (l₁ := s.2) (l₂ := ws)).symm)
      exact ⟨a, b, Nat.le_trans c (by show s.2.length + ws.length ≤ s.2.length + (ws.length + 1); omega)⟩
    · have e1 : payOne B P s k = (s.1, s.2 ++ [k]) := if_neg e
      rw [e1]
      obtain ⟨a, b, c⟩ := pass_ok ws (s := (s.1, s.2 ++ [k])) h (by
        refine List.Perm.trans (List.Perm.of_eq ?_) hp
        show s.1 ++ (s.2 ++ [k]) ++ ws = s.1 ++ s.2 ++ k :: ws
        rw [List.append_assoc, List.append_assoc, List.append_assoc]
        rfl)
      refine ⟨a, b, Nat.le_trans c ?_⟩
      show (s.2 ++ [k]).length + ws.length ≤ s.2.length + (ws.length + 1)
      rw [List.length_append]
      show s.2.length + 1 + ws.length ≤ _
      omega
/-- who waits for nobody holds enough -/
theorem pay_fits {B : Bk} (G : Good B) {P : List Int} {done rest : List Nat} {k : Nat} (hl : P.length = B.claims.length) (h0 : ∀ j, j < B.claims.length → 0 ≤ g P j) (hp : (done ++ rest).Perm (numbersOf P)) (hk : k ∈ rest) (hf : ∀ j ∈ rest, (B.clm j).c ≠ (B.clm k).d) (hleft : ∀ x, x < B.cash.length → 0 ≤ g (leftOf B P) x) :
    g P k ≤ g (leftOf B (onlyP P done)) (B.clm k).d.toNat := by
  have hkn := mem_numbers.mp (hp.mem_iff.mp (List.mem_append_right _ hk))
  have hkl : k < B.claims.length := by rw [← hl]; exact hkn.1
  obtain ⟨n, en, hn⟩ := (⟨(B.clm k).d.toNat, by have := (G.clm hkl).d0; omega, by have := (G.clm hkl).d1; have := (G.clm hkl).d0; omega⟩ : ∃ n : Nat, (B.clm k).d = (n : Int) ∧ n < B.cash.length)
  have e1 : (B.clm k).d.toNat = n := by omega
  have hnd : (done ++ rest).Nodup := hp.nodup_iff.mpr (numbers_nodup P)
  have hkd : k ∉ done := fun z => (List.nodup_append.mp hnd).2.2 k z k hk rfl
  rw [e1, g_left hn]
  have hm : meansOf B (n : Int) (onlyP P done) = meansOf B (n : Int) P := means_same (only_len _ _) fun j hj hc => by
    rw [only_len] at hj
    rw [g_only hj]
    by_cases z : j ∈ done
    · rw [if_pos z]
    · rw [if_neg z]
      have hj' : j < B.claims.length := by rw [← hl]; exact hj
      have := h0 j hj'
      have : ¬ 0 < g P j := fun y => by
        rcases List.mem_append.mp (hp.mem_iff.mpr (mem_numbers.mpr ⟨hj, y⟩)) with w | w
        · exact z w
        · exact hf j w (by rw [hc, en])
      omega
  have hs := paid_set (B := B) (P := onlyP P done) (c := k) (v := g (onlyP P done) k + g P k) (by rw [only_len]; exact hl) hkl (n : Int)
  rw [← only_snoc hkn.1 hkd, if_pos en] at hs
  have hle : paidOut B (n : Int) (onlyP P (done ++ [k])) ≤ paidOut B (n : Int) P := by
    unfold paidOut
    rw [only_len]
    refine sumIf_le fun j hj _ => ?_
    rw [g_only hj]
    by_cases z : j ∈ done ++ [k]
    · rw [if_pos z]
      exact Int.le_refl _
    · rw [if_neg z]
      exact h0 j (by rw [← hl]; exact hj)
  have hlf := hleft n hn
  rw [g_left hn] at hlf
  rw [hm]
  omega
theorem pass_less {B : Bk} (G : Good B) {P : List Int} (hl : P.length = B.claims.length) (h0 : ∀ j, j < B.claims.length → 0 ≤ g P j) (hleft : ∀ x, x < B.cash.length → 0 ≤ g (leftOf B P) x) {k : Nat} : ∀ (ws : List Nat) {s : List Nat × List Nat}, PayOk B P s.1 → (s.1 ++ s.2 ++ ws).Perm (numbersOf P) → k ∈ ws → (∀ j ∈ s.2 ++ ws, (B.clm j).c ≠ (B.clm k).d) → (ws.foldl (payOne B P) s).2.length < s.2.length + ws.length
  | [], _, _, _, hk, _ => nomatch hk
  | i :: ws, s, h, hp, hk, hf => by
    have hnd : (s.1 ++ s.2 ++ i :: ws).Nodup := hp.nodup_iff.mpr (numbers_nodup P)
    have hi := mem_numbers.mp (hp.mem_iff.mp (List.mem_append_right _ List.mem_cons_self))
    have hn : i ∉ s.1 := fun z => (List.nodup_append.mp hnd).2.2 i (List.mem_append_left _ z) i List.mem_cons_self rfl
    show (ws.foldl (payOne B P) (payOne B P s i)).2.length < s.2.length + (ws.length + 1)
    have p1 : (s.1 ++ [i] ++ s.2 ++ ws).Perm (numbersOf P) := by
      refine List.Perm.trans ?_ hp
      rw [List.append_assoc, List.append_assoc, List.append_assoc]
      exact List.Perm.append_left _ (List.perm_middle (a := i) (l₁ := s.2) (l₂ := ws)).symm
    have p2 : (s.1 ++ (s.2 ++ [i]) ++ ws).Perm (numbersOf P) := by
      refine List.Perm.trans (List.Perm.of_eq ?_) hp
      rw [List.append_assoc, List.append_assoc, List.append_assoc]
      rfl
    by_cases e : g P i ≤ g (leftOf B (onlyP P s.1)) (B.clm i).d.toNat
    · have e1 : payOne B P s i = (s.1 ++ [i], s.2) := if_pos e
      rw [e1]
      have q := (pass_ok ws (s := (s.1 ++ [i], s.2)) (.snoc h hi.1 hi.2 hn e) p1).2.2
      exact Nat.lt_of_le_of_lt q (by show s.2.length + ws.length < _; omega)
    · have e1 : payOne B P s i = (s.1, s.2 ++ [i]) := if_neg e
      rw [e1]
      rcases List.mem_cons.mp hk with z | z
      · subst z
        exact absurd (pay_fits G hl h0 (by rw [← List.append_assoc]; exact hp) (List.mem_append_right _ List.mem_cons_self) hf hleft) e
      · have q := pass_less G hl h0 hleft ws (s := (s.1, s.2 ++ [i])) h p2 z fun j hj => hf j (by
          rcases List.mem_append.mp hj with w | w
          · rcases List.mem_append.mp w with y | y
            · exact List.mem_append_left _ y
            · rw [List.mem_singleton.mp y]
              exact List.mem_append_right _ List.mem_cons_self
          · exact List.mem_append_right _ (List.mem_cons_of_mem _ w))
        have e2 : (s.2 ++ [i]).length = s.2.length + 1 := List.length_append
        rw [show ((s.1, s.2 ++ [i]) : List Nat × List Nat).2 = s.2 ++ [i] from rfl, e2] at q
        omega
/-- one round of payments -/
theorem pass_round {B : Bk} (G : Good B) {P : List Int} (hl : P.length = B.claims.length) (h0 : ∀ j, j < B.claims.length → 0 ≤ g P j) (hleft : ∀ x, x < B.cash.length → 0 ≤ g (leftOf B P) x) (hr : ringIn B (P.length + 1) (numbersOf P) = []) {ws done : List Nat} (hw : ws ≠ []) (h : PayOk B P done) (hp : (done ++ ws).Perm (numbersOf P)) :
    PayOk B P (passOf B P ws done).1 ∧ ((passOf B P ws done).1 ++ (passOf B P ws done).2).Perm (numbersOf P) ∧ (passOf B P ws done).2.length < ws.length := by
  have hs : ∀ k ∈ ws, k ∈ numbersOf P := fun k hk => hp.mem_iff.mp (List.mem_append_right _ hk)
  obtain ⟨k, hk, hf⟩ := ring_none G (P.length + 1) (by have := numbers_len P; omega) (fun k hk => by rw [← hl]; exact (mem_numbers.mp hk).1) hr ws hs hw
  have hp' : ((done, ([] : List Nat)).1 ++ (done, ([] : List Nat)).2 ++ ws).Perm (numbersOf P) := by
    show (done ++ [] ++ ws).Perm _
    rw [List.append_nil]
    exact hp
  obtain ⟨a, b, _⟩ := pass_ok (B := B) ws (s := (done, [])) h hp'
  have c := pass_less G hl h0 hleft ws (s := (done, [])) h hp' hk (fun j hj => hf j hj)
  exact ⟨a, b, by rw [show ((done, []) : List Nat × List Nat).2.length + ws.length = ws.length from Nat.zero_add _] at c; exact c⟩
theorem payGo_ok {B : Bk} (G : Good B) {P : List Int} (hl : P.length = B.claims.length) (h0 : ∀ j, j < B.claims.length → 0 ≤ g P j) (hleft : ∀ x, x < B.cash.length → 0 ≤ g (leftOf B P) x) (hr : ringIn B (P.length + 1) (numbersOf P) = []) : ∀ (f : Nat) {ws done : List Nat}, ws.length < f → PayOk B P done → (done ++ ws).Perm (numbersOf P) → PayOk B P (payGo B P f ws done) ∧ (payGo B P f ws done).Perm (numbersOf P)
  | 0, _, _, hf, _, _ => absurd hf (Nat.not_lt_zero _)
  | f + 1, ws, done, hf, h, hp => by
    unfold payGo
    by_cases e : ws = []
    · rw [if_pos e]
      rw [e, List.append_nil] at hp
      exact ⟨h, hp⟩
    · rw [if_neg e]
      obtain ⟨a, b, c⟩ := pass_round G hl h0 hleft hr e h hp
      exact payGo_ok G hl h0 hleft hr f (by omega) a b
/-! moves -/
inductive Mv where
  | pay : Nat → Int → Mv
  | ring : List Nat → Int → Mv
def Mv.nums : Mv → List Nat
  | .pay k _ => [k]
  | .ring ks _ => ks
def Mv.coins : Mv → Int
  | .pay _ c => c
  | .ring _ c => c
def Mv.word : Mv → Str
  | .pay _ _ => "pay"
  | .ring _ _ => "ring"
def doMv (P : List Int) (m : Mv) : List Int := addR P m.nums m.coins
def playedOf (P : List Int) (ms : List Mv) : List Int := ms.foldl doMv P
structure Fits (B : Bk) (P : List Int) (m : Mv) : Prop where
  one : 1 ≤ m.coins
  owed : ∀ k ∈ m.nums, k < B.claims.length ∧ g P k + m.coins ≤ amt B k
  pay : ∀ k c, m = .pay k c → c ≤ g (leftOf B P) (B.clm k).d.toNat
  ring : ∀ ks c, m = .ring ks c → IsRing B ks
def AllFit (B : Bk) : List Int → List Mv → Prop
  | _, [] => True
  | P, m :: ms => Fits B P m ∧ AllFit B (doMv P m) ms
theorem allFit_app {B : Bk} : ∀ {a b : List Mv} {P : List Int}, AllFit B P (a ++ b) ↔ AllFit B P a ∧ AllFit B (playedOf P a) b
  | [], _, _ => ⟨fun h => ⟨True.intro, h⟩, fun h => h.2⟩
  | m :: a, b, P => by
    show Fits B P m ∧ AllFit B (doMv P m) (a ++ b) ↔ (Fits B P m ∧ AllFit B (doMv P m) a) ∧ AllFit B (playedOf (doMv P m) a) b
    rw [allFit_app (a := a)]
    exact ⟨fun ⟨x, y, z⟩ => ⟨⟨x, y⟩, z⟩, fun ⟨⟨x, y⟩, z⟩ => ⟨x, y, z⟩⟩
theorem allFit_at {B : Bk} {ms : List Mv} {P : List Int} {i : Nat} {m : Mv} (h : AllFit B P ms) (hi : ms[i]? = some m) : Fits B (playedOf P (ms.take i)) m ∧ playedOf P (ms.take (i + 1)) = doMv (playedOf P (ms.take i)) m := by
  have hl := (List.getElem?_eq_some_iff.mp hi).1
  have he := (List.getElem?_eq_some_iff.mp hi).2
  have e : ms = ms.take i ++ (m :: ms.drop (i + 1)) := by
    have q := List.take_append_drop i ms
    rw [List.drop_eq_getElem_cons hl, he] at q
    exact q.symm
  rw [e] at h
  refine ⟨(allFit_app.mp h).2.1, ?_⟩
  unfold playedOf
  rw [List.take_add_one, hi, List.foldl_append]
  rfl
theorem allFit_take {B : Bk} {ms : List Mv} {P : List Int} (h : AllFit B P ms) (i : Nat) : AllFit B P (ms.take i) := by
  rw [← List.take_append_drop i ms] at h
  exact (allFit_app.mp h).1
theorem do_len (P : List Int) (m : Mv) : (doMv P m).length = P.length := addR_len _ _ _
theorem played_len : ∀ (ms : List Mv) (P : List Int), (playedOf P ms).length = P.length
  | [], _ => rfl
  | m :: ms, P => by
    show (playedOf (doMv P m) ms).length = _
    rw [played_len ms, do_len]
theorem fits_nd {B : Bk} {P : List Int} {m : Mv} (F : Fits B P m) : m.nums.Nodup := by
  cases m with
  | pay k c => exact List.nodup_cons.mpr ⟨List.not_mem_nil, List.nodup_nil⟩
  | ring ks c => exact (F.ring ks c rfl).nd
theorem do_ok {B : Bk} (G : Good B) {P : List Int} {m : Mv} (hP : Pay B P) (hn : ∀ x, x < B.cash.length → 0 ≤ g (leftOf B P) x) (F : Fits B P m) : Pay B (doMv P m) ∧ ∀ x, x < B.cash.length → 0 ≤ g (leftOf B (doMv P m)) x := by
  have hlt : ∀ k ∈ m.nums, k < P.length := fun k hk => by rw [hP.len]; exact (F.owed k hk).1
  have nd := fits_nd F
  have one := F.one
  have hpay : Pay B (doMv P m) := by
    refine ⟨by rw [do_len]; exact hP.len, fun k hk => ?_, fun k hk => ?_⟩
    · unfold doMv
      rw [g_addR nd hlt]
      have := hP.lo k hk
      split <;> omega
    · unfold doMv
      rw [g_addR nd hlt]
      by_cases e : k ∈ m.nums
      · rw [if_pos e]
        exact (F.owed k e).2
      · rw [if_neg e]
        have := hP.hi k hk
        omega
  refine ⟨hpay, fun x hx => ?_⟩
  cases m with
  | ring ks c =>
    have e : leftOf B (doMv P (.ring ks c)) = leftOf B P := left_ring (F.ring ks c rfl) hP.len fun k hk => (F.owed k hk).1
    rw [e]
    exact hn x hx
  | pay k c =>
    have hk := (F.owed k List.mem_cons_self).1
    have hc := F.pay k c rfl
    have d0 := (G.clm hk).d0
    have d1 := (G.clm hk).d1
    have hd : (B.clm k).d.toNat < B.cash.length := by omega
    have one' : 1 ≤ c := one
    show 0 ≤ g (leftOf B (P.set k (g P k + c))) x
    rw [g_left hx, means_set hP.len hk, paid_set hP.len hk]
    have hl := hn x hx
    rw [g_left hx] at hl
    rw [g_left hd, Int.toNat_of_nonneg d0] at hc
    by_cases e1 : (B.clm k).d = (x : Int)
    · rw [if_pos e1]
      rw [e1] at hc
      split <;> omega
    · rw [if_neg e1]
      split <;> omega
theorem run_ok {B : Bk} (G : Good B) : ∀ {ms : List Mv} {P : List Int}, Pay B P → (∀ x, x < B.cash.length → 0 ≤ g (leftOf B P) x) → AllFit B P ms → Pay B (playedOf P ms) ∧ ∀ x, x < B.cash.length → 0 ≤ g (leftOf B (playedOf P ms)) x
  | [], _, hP, hn, _ => ⟨hP, hn⟩
  | m :: ms, P, hP, hn, h => by
    obtain ⟨a, b⟩ := do_ok G hP hn h.1
    exact run_ok G (P := doMv P m) (ms := ms) a b h.2
def payMv (P : List Int) (k : Nat) : Mv := .pay k (g P k)
def ringMv (q : List Nat × Int) : Mv := .ring q.1 q.2
theorem pays_ok {B : Bk} {P : List Int} (hP : Pay B P) {ds : List Nat} (h : PayOk B P ds) : AllFit B (noneP B) (ds.map (payMv P)) ∧ playedOf (noneP B) (ds.map (payMv P)) = onlyP P ds := by
  induction h with
  | nil => exact ⟨True.intro, (only_nil hP.len).symm⟩
  | @snoc ds k h1 h2 h3 h4 h5 ih =>
    have hk : k < B.claims.length := by rw [← hP.len]; exact h2
    rw [List.map_append, allFit_app, ih.2]
    refine ⟨⟨ih.1, ⟨show 1 ≤ g P k by omega, fun j hj => ?_, fun k' c' e => ?_, fun ks c e => nomatch e⟩, True.intro⟩, ?_⟩
    · have ej : j = k := List.mem_singleton.mp hj
      rw [ej, g_only h2, if_neg h4]
      have := hP.hi k hk
      exact ⟨hk, by show 0 + g P k ≤ _; omega⟩
    · cases e
      exact h5
    · unfold playedOf at ih ⊢
      rw [List.foldl_append, ih.2, only_snoc h2 h4]
      rfl
theorem tot_nn {rs : List (List Nat × Int)} (h : ∀ q ∈ rs, 1 ≤ q.2) (k : Nat) : 0 ≤ tot rs k := by
  induction rs with
  | nil => exact Int.le_refl _
  | cons q rs ih =>
    have h1 := h q List.mem_cons_self
    have h2 := ih fun z hz => h z (List.mem_cons_of_mem _ hz)
    show 0 ≤ (if k ∈ q.1 then q.2 else 0) + tot rs k
    split <;> omega
theorem ringsPlay {B : Bk} : ∀ {rs : List (List Nat × Int)} {P : List Int}, P.length = B.claims.length → (∀ q ∈ rs, IsRing B q.1 ∧ 1 ≤ q.2 ∧ ∀ k ∈ q.1, k < B.claims.length) → (∀ k, k < B.claims.length → g P k + tot rs k ≤ amt B k) → AllFit B P (rs.map ringMv) ∧ ∀ k, k < B.claims.length → g (playedOf P (rs.map ringMv)) k = g P k + tot rs k
  | [], P, _, _, _ => ⟨True.intro, fun k _ => by show g P k = g P k + 0; omega⟩
  | q :: rs, P, hl, hr, ht => by
    obtain ⟨R, h1, h2⟩ := hr q List.mem_cons_self
    have h2' : ∀ k ∈ q.1, k < P.length := fun k hk => by rw [hl]; exact h2 k hk
    have eg : ∀ k, g (doMv P (ringMv q)) k = g P k + (if k ∈ q.1 then q.2 else 0) := g_addR R.nd h2'
    have et : ∀ k, tot (q :: rs) k = (if k ∈ q.1 then q.2 else 0) + tot rs k := fun k => rfl
    have nn : ∀ k, 0 ≤ tot rs k := tot_nn fun z hz => (hr z (List.mem_cons_of_mem _ hz)).2.1
    obtain ⟨a, b⟩ := ringsPlay (rs := rs) (P := doMv P (ringMv q)) (by rw [do_len]; exact hl) (fun z hz => hr z (List.mem_cons_of_mem _ hz)) fun k hk => by
      have := ht k hk
      rw [et] at this
      rw [eg]
      omega
    refine ⟨⟨⟨h1, fun k hk => ?_, fun k c e => (nomatch e), fun ks c e => ?_⟩, a⟩, fun k hk => ?_⟩
    · have := ht k (h2 k hk)
      rw [et, if_pos (show k ∈ q.1 from hk)] at this
      have := nn k
      exact ⟨h2 k hk, by show g P k + q.2 ≤ _; omega⟩
    · cases e
      exact R
    · have := b k hk
      rw [eg] at this
      show g (playedOf (doMv P (ringMv q)) (rs.map ringMv)) k = _
      rw [this, et]
      omega
def ringsOf (B : Bk) : List (List Nat × Int) × List Int := ringsFrom B ((bestOf B).sum.toNat + 1) (bestOf B)
def paysOf (B : Bk) (P : List Int) : List Nat := payGo B P (P.length + 1) (numbersOf P) []
def orderOf (B : Bk) : List Mv := (paysOf B (ringsOf B).2).map (payMv (ringsOf B).2) ++ (ringsOf B).1.map ringMv
theorem rings_best {B : Bk} (G : Good B) : RingsOk B (bestOf B) (ringsOf B).1 (ringsOf B).2 := by
  have hP := (best_clears G).pay
  refine rings_ok G _ hP.len (fun k hk => hP.lo k hk) ?_
  have := hP.sum_nn
  omega
theorem left_best_nn {B : Bk} (G : Good B) : ∀ x, x < B.cash.length → 0 ≤ g (leftOf B (bestOf B)) x := fun x hx => left_nn G (best_clears G) _ (g_mem (by rw [leftOf_len]; exact hx))
theorem rings_pay {B : Bk} (G : Good B) : Pay B (ringsOf B).2 := by
  have R := rings_best G
  have hP := (best_clears G).pay
  refine ⟨R.len, fun k hk => R.lo k hk, fun k hk => ?_⟩
  have := R.tot k hk
  have := tot_nn (fun q hq => (R.ring q hq).2.1) k
  have := hP.hi k hk
  omega
theorem pays_best {B : Bk} (G : Good B) : PayOk B (ringsOf B).2 (paysOf B (ringsOf B).2) ∧ (paysOf B (ringsOf B).2).Perm (numbersOf (ringsOf B).2) := by
  have R := rings_best G
  refine payGo_ok G R.len R.lo (fun x hx => by rw [R.left]; exact left_best_nn G x hx) R.none _ ?_ .nil (List.Perm.refl _)
  have := numbers_len (ringsOf B).2
  omega
theorem sum_count : ∀ {ds : List Nat} {P : List Int}, ds.Nodup → (∀ k ∈ ds, k < P.length ∧ 0 < g P k) → (∀ k, k < P.length → 0 ≤ g P k) → (ds.length : Int) ≤ P.sum
  | [], P, _, _, h0 => sum_nonneg h0
  | k :: ds, P, hn, h, h0 => by
    have hn2 := List.nodup_cons.mp hn
    have hk := h k List.mem_cons_self
    have q := sum_count (ds := ds) (P := P.set k 0) hn2.2 (fun j hj => by
      have hj' := h j (List.mem_cons_of_mem _ hj)
      rw [List.length_set, g_set_ne (fun z => hn2.1 (by rw [z]; exact hj))]
      exact hj') (fun j hj => by
      rw [List.length_set] at hj
      by_cases e : k = j
      · rw [← e, g_set_same hk.1]
        exact Int.le_refl _
      · rw [g_set_ne e]
        exact h0 j hj)
    rw [sum_set_g hk.1] at q
    show ((ds.length + 1 : Nat) : Int) ≤ _
    omega
/-- the order fits, comes to the best clearing, and is no longer than its coins -/
theorem order_ok {B : Bk} (G : Good B) : AllFit B (noneP B) (orderOf B) ∧ playedOf (noneP B) (orderOf B) = bestOf B ∧ ((orderOf B).length : Int) ≤ (bestOf B).sum := by
  have R := rings_best G
  have hP := (best_clears G).pay
  have hP' := rings_pay G
  obtain ⟨h1, h2⟩ := pays_best G
  obtain ⟨a, b⟩ := pays_ok hP' h1
  rw [only_all (fun k hk => R.lo k (by rw [← R.len]; exact hk)) (fun k hk => h2.mem_iff.mpr hk)] at b
  obtain ⟨c, d⟩ := ringsPlay (rs := (ringsOf B).1) R.len R.ring fun k hk => by
    rw [← R.tot k hk]
    exact hP.hi k hk
  have ep : playedOf (noneP B) (orderOf B) = playedOf (ringsOf B).2 ((ringsOf B).1.map ringMv) := by
    unfold orderOf playedOf at *
    rw [List.foldl_append, b]
  refine ⟨?_, ?_, ?_⟩
  · unfold orderOf
    rw [allFit_app, b]
    exact ⟨a, c⟩
  · rw [ep]
    refine ext_g (by rw [played_len, R.len, hP.len]) fun k hk => ?_
    rw [played_len, R.len] at hk
    rw [d k hk, ← R.tot k hk]
  · have q1 := sum_count (ds := paysOf B (ringsOf B).2) (P := (ringsOf B).2) (h2.nodup_iff.mpr (numbers_nodup _)) (fun k hk => mem_numbers.mp (h2.mem_iff.mp hk)) fun k hk => R.lo k (by rw [← R.len]; exact hk)
    have q2 := R.short
    unfold orderOf
    rw [List.length_append, List.length_map, List.length_map]
    omega
theorem pass_step {B : Bk} {P : List Int} {s : List Nat × List Nat} {k : Nat} {ws : List Nat} (hp : (s.1 ++ s.2 ++ k :: ws).Perm (numbersOf P)) : ((payOne B P s k).1 ++ (payOne B P s k).2 ++ ws).Perm (numbersOf P) ∧ k ∉ s.1 ∧ k < P.length := by
  have hnd : (s.1 ++ s.2 ++ k :: ws).Nodup := hp.nodup_iff.mpr (numbers_nodup P)
  have hk := mem_numbers.mp (hp.mem_iff.mp (List.mem_append_right _ List.mem_cons_self))
  refine ⟨?_, fun z => (List.nodup_append.mp hnd).2.2 k (List.mem_append_left _ z) k List.mem_cons_self rfl, hk.1⟩
  refine List.Perm.trans ?_ hp
  unfold payOne
  split
  · show (s.1 ++ [k] ++ s.2 ++ ws).Perm _
    rw [List.append_assoc, List.append_assoc, List.append_assoc]
    exact List.Perm.append_left _ (List.perm_middle (a := k) (l₁ := s.2) (l₂ := ws)).symm
  · refine List.Perm.of_eq ?_
    show s.1 ++ (s.2 ++ [k]) ++ ws = _
    rw [List.append_assoc, List.append_assoc, List.append_assoc]
    rfl


end Rf
namespace Rf
open PySem PySem.Spec PyProof.Rows L2
/-! ### the text by places -/
def top (i : Nat) : Stmt := PySem.Challenge.pw_rankfall_k23_whole_claims_in_another_ord.main.body.getD i (.Pass ⟨0, 0, 0, 0⟩)
abbrev s_next : Stmt := top 51
abbrev s_lbook : Stmt := top 52
abbrev s_are : Stmt := top 53
abbrev s_best : Stmt := top 27
abbrev s_worst : Stmt := top 28
abbrev s_isclr : Stmt := top 26
abbrev s_failing : Stmt := top 34
abbrev s_waves : Stmt := top 35
abbrev s_first_coins : Stmt := top 19
abbrev s_least_paid : Stmt := top 20
abbrev s_shared : Stmt := top 18
abbrev s_need : Stmt := top 12
abbrev s_wrong : Stmt := top 13
abbrev s_needhs : Stmt := top 15
abbrev s_needh : Stmt := top 14
abbrev s_owed : Stmt := top 16
abbrev s_paidby : Stmt := top 21
abbrev s_debts : Stmt := top 22
abbrev s_paidw : Stmt := top 23
abbrev s_meansby : Stmt := top 31
abbrev s_allpaid : Stmt := top 30
abbrev s_needp : Stmt := top 29
abbrev s_settled : Stmt := top 32
abbrev s_short : Stmt := top 36
abbrev s_nextclaim : Stmt := top 24
abbrev s_pinit : Stmt := inClass (top 48) 0
abbrev s_maypay : Stmt := inClass (top 48) 1
abbrev s_leastpayer : Stmt := inClass (top 48) 2
abbrev s_paycoin : Stmt := inClass (top 48) 3
abbrev s_stilled : Stmt := top 49
abbrev s_ringin : Stmt := top 44
abbrev s_wayround : Stmt := top 45
abbrev s_paidturn : Stmt := top 46
abbrev s_order : Stmt := top 43
abbrev s_played : Stmt := top 38
abbrev s_fits : Stmt := top 39
abbrev s_areowed : Stmt := top 40
abbrev s_isring : Stmt := top 41
abbrev s_makemv : Stmt := top 42
abbrev s_law : Stmt := top 54


end Rf
namespace Rf
open PySem PySem.Spec PyProof.Rows L2
/-! ### rules that the modules lack -/
section
variable {X : Cx}
theorem get_list : PGet X (rIxL X.K) := by
  intro pins s σ H o i ov iv Q I ro ri h
  obtain ⟨p, xs, k, z, rfl, rfl, hq, he, q⟩ := h
  cases ro
  obtain ⟨t, rfl⟩ := ri
  obtain ⟨its, r, pl, hz⟩ := I.list hq
  obtain ⟨j, h1, h2, h3, h4, h5⟩ := atI_get he
  obtain ⟨w, ew, rw'⟩ := r.get h2
  have hl := r.length
  have hn := line63
  have fin : EP X pins σ Q w s := ⟨z, H, I, rw', q⟩
  by_cases h0 : 0 ≤ k
  · have hj : k.toNat = j := by
      rw [seqIndex_of h0 h5] at h1
      exact Option.some.inj h1
    exact wpAny_getItem_list pl.isList h0 (by omega) (by rw [hj]; simpa using ew) fin
  · have hj : (k + (its.toArray.size : Int)).toNat = j := by
      rw [seqIndex_neg (by omega) h4] at h1
      rw [List.size_toArray, ← hl]
      exact Option.some.inj h1
    exact wpAny_getItem_list_neg pl.isList (by omega) (by rw [List.size_toArray] <;> omega) (by omega) (by rw [hj]; simpa using ew) fin
end
theorem dec_t {p : Prop} [Decidable p] (h : p) : V.bl (decide p) = V.bl true := congrArg V.bl (decide_eq_true h)
theorem dec_f {p : Prop} [Decidable p] (h : ¬ p) : V.bl (decide p) = V.bl false := congrArg V.bl (decide_eq_false h)
theorem dec_vint {i j : Int} : decide (V.int i = V.int j) = decide (i = j) := by
  rw [dec_int]
  by_cases h : i = j
  · rw [h]; simp
  · simp [h]
/-- len, list, tuple by values -/
def rLen (K : PySem.W.Frag) : List V → Hp → VK → Prop := fun xs H Q => ∃ p ys, xs = [.ref p] ∧ (SqL K H p ys ∨ SqT K H p ys) ∧ Q (.int ys.length) H
def rListOf (K : PySem.W.Frag) : List V → Hp → VK → Prop := fun xs H Q => ∃ p ys, xs = [.ref p] ∧ (SqL K H p ys ∨ SqT K H p ys) ∧ ∀ l, H l = none → Q (.ref l) (upd H l (.lst ys))
def rTupleOf (K : PySem.W.Frag) : List V → Hp → VK → Prop := fun xs H Q => ∃ p ys, xs = [.ref p] ∧ ((SqL K H p ys ∧ ∀ l, H l = none → Q (.ref l) (upd H l (.tup ys))) ∨ (SqT K H p ys ∧ Q (.ref p) H))
theorem call_len {X : Cx} : CallR X (.builtin "len") (rLen X.K) := call_len_seq
theorem call_listOf {X : Cx} : CallR X (.type "list") (rListOf X.K) := call_list_of
theorem call_tupleOf {X : Cx} : CallR X (.type "tuple") (rTupleOf X.K) := call_tuple_of
/-- a def of the top, as the walk asks for it -/
structure DefAt (K : PySem.W.Frag) (mg : Str → Option Value) (x : Str) (st : Stmt) (ps : List Str) (f : Addr) (fd : FuncData) : Prop where
  F : Fun K x x st f fd
  b : Binds K fd ps []
  g : mg x = some (.ref f)
theorem atI_g {l : List Int} {i : Int} {j : Nat} (e : i = (j : Int)) (h : j < l.length) : atI (l.map V.int) i = some (.int (g l j)) := by
  rw [e]
  apply atI_nat
  rw [List.getElem?_map, g_get h]
  rfl
theorem ixN_nat {n j : Nat} {i : Int} (e : i = (j : Int)) (h : j < n) : ixN n i = some j := by
  unfold ixN
  rw [if_pos (by omega), if_pos (by omega)]
  rw [e]
  rfl
theorem map_set {l : List Int} {j : Nat} {y : Int} : (l.map V.int).set j (.int y) = (l.set j y).map V.int := by
  rw [List.map_set]
/-- all that was tracked but at S stands -/
def Off (S : Addr → Prop) (H H' : Hp) : Prop := ∀ b o, H b = some o → ¬ S b → H' b = some o
theorem Off.refl {S : Addr → Prop} {H : Hp} : Off S H H := fun _ _ h _ => h
theorem Off.trans {S : Addr → Prop} {H H1 H2 : Hp} (a : Off S H H1) (b : Off S H1 H2) : Off S H H2 := fun x o h n => b x o (a x o h n) n
theorem Off.same {S : Addr → Prop} {H H1 : Hp} (a : Same H H1) : Off S H H1 := fun x o h _ => a x o h
theorem Same.off {S : Addr → Prop} {H H1 : Hp} (a : Same H H1) : Off S H H1 := fun x o h _ => a x o h
theorem Same.new {H : Hp} {p : Addr} {o : HO} (h : H p = none) : Same H (upd H p o) := fun b x e => by
  rw [upd_ne (ne_of_none e h)]
  exact e
theorem Same.mut {H H' : Hp} {p : Addr} {o : HO} (e : Same H H') (h : H p = none) : Same H (upd H' p o) := fun a u ha => by
  rw [upd_ne (ne_of_none ha h)]
  exact e a u ha
theorem sq_of {K : PySem.W.Frag} {H : Hp} {a : Addr} {xs : List V} (h : H a = some (.lst xs)) : SqL K H a xs := .inl (.inl h)
theorem st_of {K : PySem.W.Frag} {H : Hp} {a : Addr} {xs : List V} (h : H a = some (.tup xs)) : SqT K H a xs := .inl (.inl h)
theorem sz_of {n : Nat} (h : n ≤ 100000) : n ≤ sizeLine := Nat.le_trans h (by decide)
theorem sz_lt {n : Nat} (h : n < 100000) : n < sizeLine := Nat.lt_of_lt_of_le h (by decide)
/-! ### statements, one by one: what a part gives, then what follows -/
section
variable {te : TE} {g : TG} {t u tz : TS} {c : TT} {D : Ends} {σ : L2.St} {H : Hp} {i : Nat}
/-- name = e; what e leaves: R -/
theorem sq_set (R : V → Hp → Prop) (h : ∀ Q : VK, (∀ v H', R v H' → Q v H') → te σ H Q) (k : ∀ v H', R v H' → tz D (σ.set i (some v)) H') : tSeq (tAsg te (gName i)) tz D σ H := h _ k
/-- name = e, a value -/
theorem sq_val (v : V) (h : ∀ Q : VK, Q v H → te σ H Q) (k : tz D (σ.set i (some v)) H) : tSeq (tAsg te (gName i)) tz D σ H := h _ k
/-- name = e, an object -/
theorem sq_new (o : HO) (h : ∀ Q : VK, (∀ p H', H p = none → Same H H' → H' p = some o → Q (.ref p) H') → te σ H Q) (k : ∀ p H', H p = none → Same H H' → H' p = some o → tz D (σ.set i (some (.ref p))) H') : tSeq (tAsg te (gName i)) tz D σ H := h _ k
theorem sq_asg (R : V → Hp → Prop) (h : ∀ Q : VK, (∀ v H', R v H' → Q v H') → te σ H Q) (k : ∀ v H', R v H' → g v σ H' (tz D)) : tSeq (tAsg te g) tz D σ H := h _ k
/-- if c: .. else ..; c's answer is b -/
theorem sq_if (R : Bool → Hp → Prop) (h : ∀ Q : Bool → Hp → Prop, (∀ b H', R b H' → Q b H') → c σ H Q) (k1 : ∀ H', R true H' → t { D with nx := tz D } σ H') (k2 : ∀ H', R false H' → u { D with nx := tz D } σ H') : tSeq (tIfS c t u) tz D σ H := by
  refine h _ fun b H' r => ?_
  cases b with
  | true => exact iteT (k1 H' r)
  | false => exact iteF (k2 H' r)
theorem sq_ifP {p : Prop} [Decidable p] (h : ∀ Q : Bool → Hp → Prop, Q (decide p) H → c σ H Q) (k1 : p → t { D with nx := tz D } σ H) (k2 : ¬ p → u { D with nx := tz D } σ H) : tSeq (tIfS c t u) tz D σ H := by
  refine h _ ?_
  by_cases e : p
  · rw [decide_eq_true e]
    exact iteT (k1 e)
  · rw [decide_eq_false e]
    exact iteF (k2 e)
/-- if c: .. (no else) -/
theorem sq_whenP {p : Prop} [Decidable p] (h : ∀ Q : Bool → Hp → Prop, Q (decide p) H → c σ H Q) (k1 : p → t { D with nx := tz D } σ H) (k2 : ¬ p → tz D σ H) : tSeq (tIfS c t tNext) tz D σ H := sq_ifP h k1 k2
theorem if_ifP {p : Prop} [Decidable p] (h : ∀ Q : Bool → Hp → Prop, Q (decide p) H → c σ H Q) (k1 : p → t D σ H) (k2 : ¬ p → u D σ H) : tIfS c t u D σ H := by
  refine h _ ?_
  by_cases e : p
  · rw [decide_eq_true e]
    exact iteT (k1 e)
  · rw [decide_eq_false e]
    exact iteF (k2 e)
/-- any statement, then the rest -/
theorem sq_seq (h : t { D with nx := tz D } σ H) : tSeq t tz D σ H := h
theorem sq_nx (h : D.nx σ H) : tNext D σ H := h
end
section
variable {te : TE} {t tz : TS} {c : TT} {D : Ends} {σ : L2.St} {H : Hp}
/-- if c: .. (no else), where c is False; what it leaves: R -/
theorem sq_no (R : Hp → Prop) (h : ∀ Q : Bool → Hp → Prop, (∀ H', R H' → Q false H') → c σ H Q) (k : ∀ H', R H' → tz D σ H') : tSeq (tIfS c t tNext) tz D σ H := h _ fun H' r => iteF (k H' r)
/-- e alone -/
theorem sq_drop (R : Hp → Prop) (h : ∀ Q : VK, (∀ v H', R H' → Q v H') → te σ H Q) (k : ∀ H', R H' → tz D σ H') : tSeq (tDrop te) tz D σ H := h _ fun _ H' r => k H' r
/-- a statement, then the rest, with a word between them -/
theorem sq_cut (M : L2.St → Hp → Prop) (h : t { D with nx := M } σ H) (k : ∀ σ' H', M σ' H' → tz D σ' H') : Evl.tCut t tz D σ H := ⟨M, h, k⟩
end


end Rf
namespace Rf
open PySem PySem.Spec PyProof.Rows L2
/-- a class of the program, as the walk asks for it -/
structure ClsAt (K : PySem.W.Frag) (mg : Str → Option Value) (x : Str) (C : Addr) : Prop where
  cl : Cls K C
  g : mg x = some (.ref C)
  mks : PySem.W.makesIn K C = true
  kp : PySem.W.keepIn K (.ref C) = true
/-- a method -/
structure MethAt (K : PySem.W.Frag) (C : Addr) (m q : Str) (st : Stmt) (ps : List Str) (f : Addr) (fd : FuncData) : Prop where
  F : Fun K m q st f fd
  b : Binds K fd ps []
  m : Meth K C m f
theorem MethAt.made {K : PySem.W.Frag} {mg : Str → Option Value} {x q : Str} {C f : Addr} {st : Stmt} {ps : List Str} {fd : FuncData} (M : MethAt K C "__init__" q st ps f fd) (T : ClsAt K mg x C) : Mk K C f := ⟨T.mks, M.m.at_, M.m.fn, T.kp⟩


end Rf
namespace Rf
open PySem PySem.Spec PyProof.Rows L2
/-! ### loops, one by one -/
section
variable {K : PySem.W.Frag} {tl : TE} {ta : TA} {g : TG} {tu tz : TS} {D : Ends} {σ : L2.St} {H : Hp} {j : Nat}
/-- for i in range(n) -/
theorem sq_forR (n : Int) (h : ∀ Q : List V → Hp → Prop, Q [.int n] H → ta σ H Q) (hn : -(2 ^ 62) ≤ n ∧ n < 2 ^ 62) (Pv : Nat → L2.St → Hp → Prop) (h0 : Pv 0 σ H)
    (hs : ∀ (i : Nat) σ' H', (i : Int) < n → Pv i σ' H' → tu { D with nx := Pv (i + 1), ct := Pv (i + 1), bk := tz D } (σ'.set j (some (.int (i : Int)))) H') (hd : ∀ σ' H', Pv n.toNat σ' H' → tz D σ' H') : tSeq (tFor (iRng1 ta) (gName j) tu) tz D σ H := by
  refine h _ ⟨n, rfl, hn.1, hn.2, for_range (lo := 0) (n := n.toNat) (D := { D with nx := tz D }) Pv h0 (fun i σ' H' hi p => ?_) hd⟩
  have e : (0 : Int) + (i : Int) = (i : Int) := Int.zero_add _
  have q := hs i σ' H' (by omega) p
  show tu _ (σ'.set j (some (.int (0 + (i : Int))))) H'
  rw [e]
  exact q
/-- the same, the bound's reckoning leaves R -/
theorem sq_forRx (R : Int → Hp → Prop) (h : ∀ Q : List V → Hp → Prop, (∀ n H1, R n H1 → Q [.int n] H1) → ta σ H Q) (hn : ∀ n H1, R n H1 → -(2 ^ 62) ≤ n ∧ n < 2 ^ 62) (Pv : Int → Nat → L2.St → Hp → Prop) (h0 : ∀ n H1, R n H1 → Pv n 0 σ H1)
    (hs : ∀ (n : Int) (i : Nat) σ' H', (i : Int) < n → Pv n i σ' H' → tu { D with nx := Pv n (i + 1), ct := Pv n (i + 1), bk := tz D } (σ'.set j (some (.int (i : Int)))) H') (hd : ∀ (n : Int) σ' H', Pv n n.toNat σ' H' → tz D σ' H') : tSeq (tFor (iRng1 ta) (gName j) tu) tz D σ H := by
  refine h _ fun n H1 r => ⟨n, rfl, (hn n H1 r).1, (hn n H1 r).2, for_range (lo := 0) (n := n.toNat) (D := { D with nx := tz D }) (Pv n) (h0 n H1 r) (fun i σ' H' hi p => ?_) (hd n)⟩
  have e : (0 : Int) + (i : Int) = (i : Int) := Int.zero_add _
  have q := hs n i σ' H' (by omega) p
  show tu _ (σ'.set j (some (.int (0 + (i : Int))))) H'
  rw [e]
  exact q
/-- for i in range(lo, hi) -/
theorem sq_forR2 (lo n : Int) (h : ∀ Q : List V → Hp → Prop, Q [.int lo, .int n] H → ta σ H Q) (hl : -(2 ^ 62) ≤ lo ∧ lo < 2 ^ 62) (hn : -(2 ^ 62) ≤ n ∧ n < 2 ^ 62) (Pv : Nat → L2.St → Hp → Prop) (h0 : Pv 0 σ H)
    (hs : ∀ (i : Nat) σ' H', lo + (i : Int) < n → Pv i σ' H' → tu { D with nx := Pv (i + 1), ct := Pv (i + 1), bk := tz D } (σ'.set j (some (.int (lo + (i : Int))))) H') (hd : ∀ σ' H', Pv (n - lo).toNat σ' H' → tz D σ' H') : tSeq (tFor (iRng2 ta) (gName j) tu) tz D σ H :=
  h _ ⟨lo, n, rfl, ⟨hl.1, hl.2, hn.1, hn.2⟩, for_range (lo := lo) (n := (n - lo).toNat) (D := { D with nx := tz D }) Pv h0 (fun i σ' H' hi p => hs i σ' H' (by omega) p) hd⟩
/-- for x in a list -/
theorem sq_forL {a : Addr} {xs : List V} (h : ∀ Q : VK, Q (.ref a) H → tl σ H Q) (hx : SqL K H a xs) (Pv : Nat → L2.St → Hp → Prop) (h0 : Pv 0 σ H) (hl : ∀ i σ' H', i ≤ xs.length → Pv i σ' H' → SqL K H' a xs)
    (hs : ∀ i x σ' H', xs[i]? = some x → Pv i σ' H' → g x σ' H' fun σ2 H2 => tu { D with nx := Pv (i + 1), ct := Pv (i + 1), bk := tz D } σ2 H2) (hd : ∀ σ' H', Pv xs.length σ' H' → tz D σ' H') : tSeq (tFor (iList K tl) g tu) tz D σ H :=
  h _ ⟨a, rfl, ⟨xs, hx⟩, for_list (D := { D with nx := tz D }) Pv h0 hl hs hd⟩
/-- for x in a tuple -/
theorem sq_forT {a : Addr} {xs : List V} (h : ∀ Q : VK, Q (.ref a) H → tl σ H Q) (hx : SqT K H a xs) (Pv : Nat → L2.St → Hp → Prop) (h0 : Pv 0 σ H) (hl : ∀ i σ' H', i ≤ xs.length → Pv i σ' H' → SqT K H' a xs)
    (hs : ∀ i x σ' H', xs[i]? = some x → Pv i σ' H' → g x σ' H' fun σ2 H2 => tu { D with nx := Pv (i + 1), ct := Pv (i + 1), bk := tz D } σ2 H2) (hd : ∀ σ' H', Pv xs.length σ' H' → tz D σ' H') : tSeq (tFor (iTup K tl) g tu) tz D σ H :=
  h _ ⟨a, rfl, ⟨xs, hx⟩, for_tup (D := { D with nx := tz D }) Pv h0 hl hs hd⟩
/-- for i, x in enumerate(a list) -/
theorem sq_forE {a : Addr} {xs : List V} (h : ∀ Q : List V → Hp → Prop, Q [.ref a] H → ta σ H Q) (hx : SqL K H a xs) (Pv : Nat → L2.St → Hp → Prop) (h0 : Pv 0 σ H) (hl : ∀ i σ' H', i ≤ xs.length → Pv i σ' H' → SqL K H' a xs)
    (hs : ∀ (i : Nat) (x : V) (T : Addr) σ' H', xs[i]? = some x → Pv i σ' H' → H' T = none → g (.ref T) σ' (upd H' T (.tup [.int (i : Int), x])) fun σ2 H2 => tu { D with nx := Pv (i + 1), ct := Pv (i + 1), bk := tz D } σ2 H2) (hd : ∀ σ' H', Pv xs.length σ' H' → tz D σ' H') : tSeq (tFor (iEnum K ta) g tu) tz D σ H := by
  refine h _ ⟨a, xs, rfl, hx, fun i m σ H => m = xs.length - i ∧ i ≤ xs.length ∧ Pv i σ H, ⟨xs.length, rfl, Nat.zero_le _, h0⟩, ?_⟩
  rintro i m σ H ⟨rfl, hi, p⟩
  have q := hl i σ H hi p
  by_cases hlt : i < xs.length
  · have hx : xs[i]? = some xs[i] := List.getElem?_eq_getElem hlt
    refine .inr ⟨⟨xs, _, q, hx⟩, Pv (i + 1), fun σ' H' p' => ⟨xs.length - (i + 1), by omega, rfl, hlt, p'⟩, fun v H' y => ?_⟩
    obtain ⟨T, x', rfl, hT, rfl, f1⟩ := y
    exact hs i x' T σ H (f1 xs q) p hT
  · have e : i = xs.length := by omega
    subst e
    exact .inl ⟨⟨xs, q, Nat.le_refl _⟩, hd σ H p⟩
/-- a for that is its block's last -/
theorem last_for {wi : TI} (h : tSeq (tFor wi g tu) tNext D σ H) : tFor wi g tu D σ H := h
end
/-- for x in a new list -/
theorem sq_forN {K : PySem.W.Frag} {tl : TE} {g : TG} {tu tz : TS} {D : Ends} {σ : L2.St} {H : Hp} {xs : List V} (h : ∀ Q : VK, (∀ p H', H p = none → Same H H' → H' p = some (.lst xs) → Q (.ref p) H') → tl σ H Q) (Pv : Addr → Nat → L2.St → Hp → Prop)
    (h0 : ∀ p H', H p = none → Same H H' → H' p = some (.lst xs) → Pv p 0 σ H') (hl : ∀ p i σ' H', i ≤ xs.length → Pv p i σ' H' → SqL K H' p xs)
    (hs : ∀ p i x σ' H', xs[i]? = some x → Pv p i σ' H' → g x σ' H' fun σ2 H2 => tu { D with nx := Pv p (i + 1), ct := Pv p (i + 1), bk := tz D } σ2 H2) (hd : ∀ p σ' H', Pv p xs.length σ' H' → tz D σ' H') : tSeq (tFor (iList K tl) g tu) tz D σ H :=
  h _ fun p H' np s hp => ⟨p, rfl, ⟨xs, sq_of hp⟩, for_list (D := { D with nx := tz D }) (Pv p) (h0 p H' np s hp) (hl p) (hs p) (hd p)⟩
/-- the slots, told anew (much quicker than a long row of stores) -/
theorem sq_norm {tz : TS} {D : Ends} {σ : L2.St} {H : Hp} (σ' : L2.St) (e : σ = σ') (h : tz D σ' H) : tz D σ H := e ▸ h
section
variable {te : TE} {D : Ends} {σ : L2.St} {H : Hp} {i : Nat}
/-- name = e, a block's last -/
theorem last_set (R : V → Hp → Prop) (h : ∀ Q : VK, (∀ v H', R v H' → Q v H') → te σ H Q) (k : ∀ v H', R v H' → D.nx (σ.set i (some v)) H') : tAsg te (gName i) D σ H := h _ k
end


end Rf
namespace Rf
open PySem PySem.Spec PyProof.Rows L2
/-! ### enumerate(a tuple) -/
/-- the tuple at a, at each turn the next item in a new pair -/
def IteT (K : PySem.W.Frag) (a : Addr) : It where
  go := fun i H => ∃ (xs : List V) (x : V), SqT K H a xs ∧ xs[i]? = some x
  yld := fun i H v H' => ∃ T x, v = .ref T ∧ H T = none ∧ H' = upd H T (.tup [.int (i : Nat), x]) ∧ ∀ xs, SqT K H a xs → xs[i]? = some x
  stop := fun i H => ∃ xs : List V, SqT K H a xs ∧ xs.length ≤ i
theorem apart_types {h : Heap} {e a : Addr} {o u : Obj} (h1 : h.get? e = some o) (h2 : h.get? a = some u) (d : o.cls ≠ u.cls) : e ≠ a := fun z => by
  rw [z, h2] at h1
  exact d (congrArg Obj.cls (Option.some.inj h1).symm)
theorem turn_enumT {P : Program} {w : World} {K : PySem.W.Frag} {elts : List Expr} {kk : Nat} {tpos : Pos} (a e it : Addr) :
    Turn P w K (.Tuple elts kk tpos) (IteT K a) [e, it] e (fun i h => (∃ old, IsEnum h e it ((i : Nat) : Int) old) ∧ h.IsTupleIter it a i ∧ e ≠ it) where
  mem := List.mem_cons_self
  obj := fun i h st b hb => by
    obtain ⟨⟨old, he⟩, ⟨o, ho, hc, hd⟩, _⟩ := st
    rcases List.mem_cons.mp hb with z | z
    · subst z
      exact ⟨_, he, fun v q => nomatch q⟩
    · exact ⟨o, by rw [List.mem_singleton.mp z]; exact ho, fun v q => by rw [hd] at q; cases q⟩
  keep := fun i h h' st k => ⟨⟨st.1.choose, k e (by simp) _ st.1.choose_spec⟩, st.2.1.at fun o q => k it (by simp) o q, st.2.2⟩
  item := by
    intro X hP hw hK hc i pins s σ H E I hf st hg
    subst hP hw hK
    obtain ⟨⟨old, he⟩, hit, hne⟩ := st
    obtain ⟨xs, x, hq, hx⟩ := hg
    obtain ⟨its, rv, p, hz⟩ := I.tuple hq
    obtain ⟨u, hu, ru⟩ := rv.get hx
    have pt : s.heap.IsTuple a its.toArray := p
    have hel : e < s.heap.objs.size := Heap.lt_size he
    have hil : it < s.heap.objs.size := by obtain ⟨_, q, _⟩ := hit; exact Heap.lt_size q
    have hea : e ≠ a := by
      obtain ⟨o2, q2, c2, _⟩ := id pt
      exact apart_types he q2 (by rw [c2]; exact fun z => absurd (Value.type.inj z) (by decide))
    have hai : a ≠ it := by
      obtain ⟨o2, q2, c2, _⟩ := id pt
      obtain ⟨o3, q3, c3, _⟩ := id hit
      exact apart_types q2 q3 (by rw [c2, c3]; exact fun z => absurd (Value.type.inj z) (by decide))
    have hu2 : its.toArray[i]? = some u := by simpa using hu
    have hi : i < its.toArray.size := (Array.getElem?_eq_some_iff.mp hu2).1
    refine wpAny_pyNext_enum_itemD (Draws.tuple (A := X.A.in1) (I.ok.hd hc) it a hai its.toArray) he ⟨hit, pt⟩ hi hne (by simp [hne, hea]) fun y h' tk hy ho st' hT hsz hk => ?_
    obtain ⟨hit', _⟩ := st'
    have ey : y = u := Option.some.inj (hy.symm.trans hu2)
    subst ey
    refine ⟨_, rfl, wpAny_letOwnedTupleGo_enum (s := { s with heap := h', toks := tk + 1 }) ho fun h'' he' sb => ?_⟩
    have hT2 : h''.get? s.heap.objs.size = some { cls := .type "tuple", data := .seq #[.int i tk, y] } := (sb.2 _ (Nat.ne_of_gt hel)).trans hT
    have new : ObjOk X.prog X.w (upd H s.heap.objs.size (.tup [.int (i : Nat), x])) h'' s.heap.objs.size (.tup [.int (i : Nat), x]) := by
      refine ⟨by show 2 ≤ sizeLine; decide, [.int i tk, y], .cons ⟨_, rfl⟩ (.cons ru .nil), ⟨_, hT2, rfl, _, rfl⟩⟩
    have I1 : Inv X pins σ (upd H s.heap.objs.size (.tup [.int (i : Nat), x])) { s with heap := h'', toks := tk + 1 } := by
      refine I.turnedNew (ch := [e, it]) (fun b ob hb q => ?_) hf (Nat.le_refl _) new
      have n1 : b ≠ e := fun z => hb (by simp [z])
      have n2 : b ≠ it := fun z => hb (by simp [z])
      exact (sb.2 b n1).trans (hk b ob n1 n2 q)
    refine ⟨.ref s.heap.objs.size, _, I1, rfl, ⟨_, x, rfl, I.hok.fresh (Nat.le_refl _), rfl, fun ys hy => by rw [I.tuple_inj hy hq]; exact hx⟩, ⟨⟨y, ?_⟩, hit'.at fun o q => (sb.2 it (Ne.symm hne)).trans q, hne⟩, fun b hb => ?_⟩
    · have e1 : ((i + 1 : Nat) : Int) = (i : Int) + 1 := rfl
      rw [e1]
      exact he'
    · have hb' : b < s.heap.objs.size := by
        rcases List.mem_cons.mp hb with z | z
        · rw [z]; exact hel
        · rw [List.mem_singleton.mp z]; exact hil
      rw [upd_ne (Nat.ne_of_lt hb')]
      exact (hf b hb).1
  done := by
    intro X hP hw hK hc i pins s σ H E I hf st hg
    subst hP hw hK
    obtain ⟨⟨old, he⟩, hit, hne⟩ := st
    obtain ⟨xs, hq, hx⟩ := hg
    obtain ⟨its, rv, p, hz⟩ := I.tuple hq
    have pt : s.heap.IsTuple a its.toArray := p
    have hea : e ≠ a := by
      obtain ⟨o2, q2, c2, _⟩ := id pt
      exact apart_types he q2 (by rw [c2]; exact fun z => absurd (Value.type.inj z) (by decide))
    have hai : a ≠ it := by
      obtain ⟨o2, q2, c2, _⟩ := id pt
      obtain ⟨o3, q3, c3, _⟩ := id hit
      exact apart_types q2 q3 (by rw [c2, c3]; exact fun z => absurd (Value.type.inj z) (by decide))
    have hl := rv.length
    obtain ⟨f0, f1, f2, f3, f4, f5⟩ := hf it (by simp)
    have hT : s.TypeIs (.ref e) "enumerate" := ⟨_, he, rfl⟩
    unfold pyNext
    refine wpAny_bind (wpAny_attempt (wpAny_callSpecial?_slot (name := Str.ofString "__next__") hT F.slot_enumerate_next (wpAny_call_entry F.slot_enumerate_next hT F.entry_enumerate_next ?_ (F.args_enumerate_next_1 _))))
    show wpAny _ _ (field (.ref e) 2 >>= _) _ _ _
    refine wpAny_bind (wpAny_field he rfl (x := .ref it) rfl ?_)
    refine wpAny_bind (wpAny_nextOf_tuple_end (I.ok.hd hc) hit pt (by rw [Array.getElem?_eq_none]; simp; omega) fun h' x he' hx' => ?_)
    obtain ⟨o, ho, hc2⟩ := hx'
    refine wpAny_bind (wpAny_isInstance (T := "StopIteration") (b := true) ⟨o, ho, hc2⟩ isSubtype_stop ?_)
    exact wpAny_pure ⟨rfl, I.turned (t' := s.toks) (fun b o hb e => he' b o hb e) f0 f1 f3 f4 f5⟩
  self := fun A i s Q E st h => wpAny_pyIter_enum st.1.choose_spec h
set_option maxHeartbeats 1000000 in
theorem meets_enum1 {v : Value} {o : Obj} {H : Heap → Prop} (B : Begins v o H) : Meets (Builtin.«enumerate.__new__» ⟨[.type "enumerate", v], []⟩) (fun _ R s => H s.heap ∧ R (.ok (.ret (.ref (s.heap.push o).objs.size))) { s with heap := (s.heap.push o).push { cls := .type "enumerate", data := .fields #[.none, .bool false, .ref s.heap.objs.size, rawInt 0, .none, .none] } }) :=
  .of_wp fun prog w A R s h => by
    obtain ⟨hp, gn, d, tk, os⟩ := s
    obtain ⟨h1, h⟩ := h
    have hsub := sub_enumerate
    have go : ∀ {A' : Around} {E : Value → Shared → Prop} {Q : Value → Shared → Prop}, Q (.ref hp.objs.size) ⟨hp.push o, gn, d, tk, os⟩ → wpAny (model prog w) A' (pyIter v) Q E ⟨hp, gn, d, tk, os⟩ := fun q => B.iter prog w _ _ ⟨hp, gn, d, tk, os⟩ _ h1 q
    wp_walk using go
    refine wpAny_stack_any fun st => wpAny_pure ?_
    split
    · rename_i c _ _ _ _ _
      cases (c == Value.type "enumerate") <;> (wp_walk using go; exact ⟨_, rfl, h⟩)
    · wp_walk using go
      exact ⟨_, rfl, h⟩
theorem enum_one {prog : Program} {w : World} {A : Around} {E : Value → Shared → Prop} {s : Shared} {v : Value} {o : Obj} {H : Heap → Prop} {Q : Value → Shared → Prop} (B : Begins v o H) (h1 : H s.heap)
    (h : ∀ h', IsEnum h' (s.heap.objs.size + 1) s.heap.objs.size 0 .none → h'.get? s.heap.objs.size = some o → h'.objs.size = s.heap.objs.size + 2 → (∀ b u, s.heap.get? b = some u → h'.get? b = some u) → Q (.ref (s.heap.objs.size + 1)) { s with heap := h' }) :
    wpAny (model prog w) A (call (.type "enumerate") [v]) Q E s := by
  refine callType_new F.called_enumerate (by decide) (F.typeCall_enumerate_1 _) (F.newCall_enumerate_1 _) (fun obj => F.args_object_init_2 obj _) F.entry_enumerate_new (meets_enum1 B) ⟨h1, ?_⟩
  have hz : (s.heap.push o).objs.size = s.heap.objs.size + 1 := Heap.size_push ..
  have he := Heap.get?_push_size (s.heap.push o) (o := { cls := .type "enumerate", data := .fields #[.none, .bool false, .ref s.heap.objs.size, rawInt 0, .none, .none] }) rfl
  show _ ∧ _
  rw [hz] at he ⊢
  exact ⟨⟨_, he, rfl⟩, h _ he (Heap.get?_push_of_some _ (Heap.get?_push_size _ B.free)) (by rw [Heap.size_push, hz]) fun b u x => Heap.get?_push_of_some _ (Heap.get?_push_of_some _ x)⟩
def iEnumT (K : PySem.W.Frag) (ta : TA) : TI := fun σ H R => ta σ H fun vs H1 => ∃ a xs, vs = [.ref a] ∧ SqT K H1 a xs ∧ R (IteT K a) H1
theorem pi_enumT {X : Cx} {e : Expr} {ta : TA} {p pos tpos : Pos} {elts : List Expr} {kk : Nat} (hg : Gl X "enumerate") (hm : X.mg "enumerate" = none) (ha : PA X [e] ta) (hs : starEach [e] X.env = [(false, eval e X.env)] := by rfl) :
    PI X (.Tuple elts kk tpos) (.Call (.Name "enumerate" p) [e] [] pos) (iEnumT X.K ta) := by
  refine ⟨fun pins s σ H R I h => ?_⟩
  refine Call_ (ld_blt I hg hm boot_enumerate (PyProof.Rows.callWith_type1 (thn (ha.run pos pins s σ H _ I h) fun us s1 ⟨vs, H1, I1, r1, q1⟩ => ?_) hs rfl))
  obtain ⟨a, xs, ex, hq, q⟩ := q1
  subst ex
  cases r1 with
  | cons r rr =>
    cases rr
    cases r
    obtain ⟨its, rv, pt, hz⟩ := I1.tuple hq
    refine enum_one (begins_tuple a its.toArray) pt fun h' he hit hsz hk => wpAny_pyIter_enum he ?_
    have I2 : Inv X pins σ H1 { s1 with heap := h' } := I1.kept (t' := s1.toks) hk
    refine ⟨s1.heap.objs.size + 1, [s1.heap.objs.size + 1, s1.heap.objs.size], _, _, H1, rfl, I2, turn_enumT a (s1.heap.objs.size + 1) s1.heap.objs.size, ⟨⟨.none, he⟩, ⟨_, hit, rfl, rfl⟩, Nat.succ_ne_self _⟩, fun b hb => ?_, q⟩
    have hle : s1.heap.objs.size ≤ b := by
      rcases List.mem_cons.mp hb with z | z
      · rw [z]; exact Nat.le_add_right _ _
      · rw [List.mem_singleton.mp z]; exact Nat.le_refl _
    exact I1.fpOk hle (I1.hok.fresh hle)
section
variable {K : PySem.W.Frag} {ta : TA} {g : TG} {tu tz : TS} {D : Ends} {σ : L2.St} {H : Hp}
/-- for i, x in enumerate(a tuple) -/
theorem sq_forET {a : Addr} {xs : List V} (h : ∀ Q : List V → Hp → Prop, Q [.ref a] H → ta σ H Q) (hx : SqT K H a xs) (Pv : Nat → L2.St → Hp → Prop) (h0 : Pv 0 σ H) (hl : ∀ i σ' H', i ≤ xs.length → Pv i σ' H' → SqT K H' a xs)
    (hs : ∀ (i : Nat) (x : V) (T : Addr) σ' H', xs[i]? = some x → Pv i σ' H' → H' T = none → g (.ref T) σ' (upd H' T (.tup [.int (i : Int), x])) fun σ2 H2 => tu { D with nx := Pv (i + 1), ct := Pv (i + 1), bk := tz D } σ2 H2) (hd : ∀ σ' H', Pv xs.length σ' H' → tz D σ' H') : tSeq (tFor (iEnumT K ta) g tu) tz D σ H := by
  refine h _ ⟨a, xs, rfl, hx, fun i m σ H => m = xs.length - i ∧ i ≤ xs.length ∧ Pv i σ H, ⟨xs.length, rfl, Nat.zero_le _, h0⟩, ?_⟩
  rintro i m σ H ⟨rfl, hi, p⟩
  have q := hl i σ H hi p
  by_cases hlt : i < xs.length
  · have hx : xs[i]? = some xs[i] := List.getElem?_eq_getElem hlt
    refine .inr ⟨⟨xs, _, q, hx⟩, Pv (i + 1), fun σ' H' p' => ⟨xs.length - (i + 1), by omega, rfl, hlt, p'⟩, fun v H' y => ?_⟩
    obtain ⟨T, x', rfl, hT, rfl, f1⟩ := y
    exact hs i x' T σ H (f1 xs q) p hT
  · have e : i = xs.length := by omega
    subst e
    exact .inl ⟨⟨xs, q, Nat.le_refl _⟩, hd σ H p⟩
end


end Rf
namespace Rf
open PySem PySem.Spec PyProof.Rows L2
/-! ### zip(a tuple, a list) -/
/-- at each turn a new pair of the tuple's item and the list's -/
def ItTL (K : PySem.W.Frag) (ta la : Addr) : It where
  go := fun n H => ∃ (us ws : List V) (u w : V), SqT K H ta us ∧ SqL K H la ws ∧ us[n]? = some u ∧ ws[n]? = some w
  yld := fun n H v H' => ∃ C u w, v = .ref C ∧ H C = none ∧ H' = upd H C (.tup [u, w]) ∧ (∀ us, SqT K H ta us → us[n]? = some u) ∧ ∀ ws, SqL K H la ws → ws[n]? = some w
  stop := fun n H => ∃ us ws : List V, SqT K H ta us ∧ SqL K H la ws ∧ n ≤ us.length ∧ n ≤ ws.length ∧ (n = us.length ∨ n = ws.length)
theorem turn_TL {P : Program} {w : World} {K : PySem.W.Frag} {es : List Expr} {nn : Nat} {tp : Pos} {ta la zz tc to j1 j2 : Addr} (S : ZipSep2 zz tc to j1 j2 [j1, ta] [j2, la]) :
    Turn P w K (.Tuple es nn tp) (ItTL K ta la) [zz, tc, to, j1, j2] zz (fun n h => IsZip h zz tc to .none ∧ IsTupOf2 h tc (.ref j1) (.ref j2) ∧ (∃ u w, IsTupOf2 h to u w) ∧ h.IsTupleIter j1 ta n ∧ h.IsListIter j2 la n) where
  mem := List.mem_cons_self
  obj := fun n h st b hb => by
    obtain ⟨q1, q2, ⟨u, w, q3⟩, ⟨o1, r1, _, r2⟩, ⟨o2, r3, _, r4⟩⟩ := st
    rcases List.mem_cons.mp hb with e | hb
    · subst e; exact ⟨_, q1, (fun v m => nomatch m)⟩
    rcases List.mem_cons.mp hb with e | hb
    · subst e; exact ⟨_, q2, (fun v m => nomatch m)⟩
    rcases List.mem_cons.mp hb with e | hb
    · subst e; exact ⟨_, q3, (fun v m => nomatch m)⟩
    rcases List.mem_cons.mp hb with e | hb
    · subst e; exact ⟨o1, r1, fun v m => by rw [r2] at m; cases m⟩
    · rw [List.mem_singleton.mp hb]; exact ⟨o2, r3, fun v m => by rw [r4] at m; cases m⟩
  keep := fun n h h' st kp => ⟨kp zz (by simp) _ st.1, kp tc (by simp) _ st.2.1, let ⟨u, w, e⟩ := st.2.2.1; ⟨u, w, kp to (by simp) _ e⟩, st.2.2.2.1.at fun o e => kp j1 (by simp) o e, st.2.2.2.2.at fun o e => kp j2 (by simp) o e⟩
  item := by
    intro X hP hw hK hc n pins s σ H E I hf st hgo
    subst hP hw hK
    obtain ⟨q1, q2, ⟨u0, w0, q3⟩, q4, q5⟩ := st
    obtain ⟨us, ws, u, w, hu, hw, eu, ew⟩ := hgo
    obtain ⟨vs1, R1, p1, _⟩ := I.tuple hu
    obtain ⟨vs2, R2, p2, _⟩ := I.list hw
    obtain ⟨v1, ev1, rv1⟩ := R1.get eu
    obtain ⟨v2, ev2, rv2⟩ := R2.get ew
    have ev1' : vs1.toArray[n]? = some v1 := by simpa using ev1
    have ev2' : vs2.toArray[n]? = some v2 := by simpa using ev2
    have b1 : n < vs1.toArray.size := (Array.getElem?_eq_some_iff.mp ev1').1
    have b2 : n < vs2.toArray.size := (Array.getElem?_eq_some_iff.mp ev2').1
    have pt : s.heap.IsTuple ta vs1.toArray := p1
    have m1 : ta ≠ j1 := by
      obtain ⟨o2, e2, c2, _⟩ := id pt
      obtain ⟨o3, e3, c3, _⟩ := id q4
      exact apart_types e2 e3 (by rw [c2, c3]; exact fun z => absurd (Value.type.inj z) (by decide))
    have m2 : la ≠ j2 := by
      obtain ⟨o2, e2, c2, _⟩ := id p2.isList
      obtain ⟨o3, e3, c3, _⟩ := id q5
      exact apart_types e2 e3 (by rw [c2, c3]; exact fun z => absurd (Value.type.inj z) (by decide))
    have D1 := Draws.tuple (prog := X.prog) (w := X.w) (A := X.A.in1) (I.ok.hd hc) j1 ta m1 vs1.toArray
    have D2 := Draws.list (prog := X.prog) (w := X.w) (A := X.A.in1) (I.ok.hd hc) j2 la m2 vs2.toArray
    have zl : zz < s.heap.objs.size := Heap.lt_size q1
    refine wpAny_pyNext_zipD2_item S D1 D2 q1 q2 q3 ⟨q4, pt⟩ ⟨q5, p2.isList⟩ b1 b2 fun x1 x2 g tk e1 e2 f1 f2 st1 st2 hT gz kp => ?_
    have x1e : x1 = v1 := Option.some.inj (e1.symm.trans ev1')
    have x2e : x2 = v2 := Option.some.inj (e2.symm.trans ev2')
    subst x1e x2e
    refine ⟨_, rfl, wpAny_letOwnedTupleGo_zip (s := { s with heap := g, toks := tk }) f1 fun g2 f3 sb => ?_⟩
    have hT2 : g2.get? s.heap.objs.size = some { cls := .type "tuple", data := .seq #[x1, x2] } := (sb.2 _ (Nat.ne_of_gt zl)).trans hT
    have nw : ObjOk X.prog X.w (upd H s.heap.objs.size (.tup [u, w])) g2 s.heap.objs.size (.tup [u, w]) := by
      refine ⟨by show 2 ≤ sizeLine; decide, [x1, x2], .cons rv1 (.cons rv2 .nil), ⟨_, hT2, rfl, _, rfl⟩⟩
    have J : Inv X pins σ (upd H s.heap.objs.size (.tup [u, w])) { s with heap := g2, toks := tk } := by
      refine I.turnedNew (ch := [zz, tc, to, j1, j2]) (fun b ob hb e => ?_) hf (Nat.le_refl _) nw
      have n1 : b ≠ zz := fun z => hb (by simp [z])
      exact (sb.2 b n1).trans (kp b ob n1 (fun z => hb (by simp [z])) (fun z => hb (by simp [z])) (fun z => hb (by simp [z])) e)
    refine ⟨.ref s.heap.objs.size, _, J, rfl, ⟨_, u, w, rfl, I.hok.fresh (Nat.le_refl _), rfl, fun l hl => by rw [I.tuple_inj hl hu]; exact eu, fun l hl => by rw [I.list_inj hl hw]; exact ew⟩, ⟨f3, ?_, ⟨x1, x2, ?_⟩, ?_, ?_⟩, fun b hb => ?_⟩
    · exact (sb.2 _ S.TIz).trans (kp _ _ S.TIz S.TITO S.TIi1 S.TIi2 q2)
    · exact (sb.2 _ S.TOz).trans f2
    · exact st1.1.at fun o e => (sb.2 _ (Ne.symm S.zi1)).trans e
    · exact st2.1.at fun o e => (sb.2 _ (Ne.symm S.zi2)).trans e
    · have bl : b < s.heap.objs.size := by
        rcases List.mem_cons.mp hb with e | hb
        · rw [e]; exact zl
        rcases List.mem_cons.mp hb with e | hb
        · rw [e]; exact Heap.lt_size q2
        rcases List.mem_cons.mp hb with e | hb
        · rw [e]; exact Heap.lt_size q3
        rcases List.mem_cons.mp hb with e | hb
        · rw [e]; obtain ⟨_, r, _⟩ := q4; exact Heap.lt_size r
        · rw [List.mem_singleton.mp hb]; obtain ⟨_, r, _⟩ := q5; exact Heap.lt_size r
      rw [upd_ne (Nat.ne_of_lt bl)]
      exact (hf b hb).1
  done := by
    intro X hP hw hK hc n pins s σ H E I hf st hend
    subst hP hw hK
    obtain ⟨q1, q2, ⟨u0, w0, q3⟩, q4, q5⟩ := st
    obtain ⟨us, ws, hu, hw, g1, g2, he⟩ := hend
    obtain ⟨vs1, R1, p1, _⟩ := I.tuple hu
    obtain ⟨vs2, R2, p2, _⟩ := I.list hw
    have pt : s.heap.IsTuple ta vs1.toArray := p1
    have l1 : us.length = vs1.length := R1.length
    have l2 : ws.length = vs2.length := R2.length
    have m1 : ta ≠ j1 := by
      obtain ⟨o2, e2, c2, _⟩ := id pt
      obtain ⟨o3, e3, c3, _⟩ := id q4
      exact apart_types e2 e3 (by rw [c2, c3]; exact fun z => absurd (Value.type.inj z) (by decide))
    have m2 : la ≠ j2 := by
      obtain ⟨o2, e2, c2, _⟩ := id p2.isList
      obtain ⟨o3, e3, c3, _⟩ := id q5
      exact apart_types e2 e3 (by rw [c2, c3]; exact fun z => absurd (Value.type.inj z) (by decide))
    have D1 := Draws.tuple (prog := X.prog) (w := X.w) (A := X.A.in1) (I.ok.hd hc) j1 ta m1 vs1.toArray
    have D2 := Draws.list (prog := X.prog) (w := X.w) (A := X.A.in1) (I.ok.hd hc) j2 la m2 vs2.toArray
    have k1 : vs1.toArray.size = us.length := by rw [List.size_toArray, l1]
    have k2 : vs2.toArray.size = ws.length := by rw [List.size_toArray, l2]
    refine wpAny_pyNext_zipD2_end S D1 D2 q1 q2 q3 ⟨q4, pt⟩ ⟨q5, p2.isList⟩ (by rw [k1]; exact g1) (by rw [k2]; exact g2) (by rw [k1, k2]; exact he) fun g tk kp => ⟨rfl, ?_⟩
    exact I.turnedL (ch := [zz, tc, to, j1, j2]) (fun b o hb e => kp b o (fun z => hb (by simp [z])) (fun z => hb (by simp [z])) (fun z => hb (by simp [z])) (fun z => hb (by simp [z])) e) hf
  self := fun A n s Q E st h => wpAny_pyIter_zip st.1 h

theorem new_ne {n a i : Nat} (h : a < n) : n + i ≠ a := fun z => by rw [← z] at h; exact absurd h (Nat.not_lt.mpr (Nat.le_add_right _ _))
theorem add_ne {n i j : Nat} (h : i ≠ j) : n + i ≠ n + j := fun z => h (Nat.add_left_cancel z)
theorem not_two {x a b : Addr} (h1 : x ≠ a) (h2 : x ≠ b) : x ∉ [a, b] := fun z => by
  rcases List.mem_cons.mp z with e | e
  · exact h1 e
  · exact h2 (List.mem_singleton.mp e)
theorem zs_new {n a b : Nat} (ha : a < n) (hb : b < n) : ZipSep2 (n + 4) (n + 2) (n + 3) n (n + 1) [n, a] [n + 1, b] where
  TIz := add_ne (by decide)
  TOz := add_ne (by decide)
  TITO := add_ne (by decide)
  TIi1 := add_ne (j := 0) (by decide)
  mem1 := List.mem_cons_self
  zf1 := not_two (add_ne (j := 0) (by decide)) (new_ne ha)
  Tf1 := not_two (add_ne (j := 0) (by decide)) (new_ne ha)
  TIi2 := add_ne (by decide)
  mem2 := List.mem_cons_self
  zf2 := not_two (add_ne (by decide)) (new_ne hb)
  Tf2 := not_two (add_ne (by decide)) (new_ne hb)
  sep1_2 := not_two (add_ne (i := 0) (by decide)) (new_ne (i := 0) hb)
  sep2_1 := not_two (add_ne (j := 0) (by decide)) (new_ne ha)
theorem new_le {n c : Nat} (h : c ∈ [n + 4, n + 2, n + 3, n, n + 1]) : n ≤ c := by
  simp only [List.mem_cons, List.not_mem_nil, or_false] at h
  omega
def iTL (K : PySem.W.Frag) (ta : TA) : TI := fun σ H R => ta σ H fun vs H1 => ∃ p q us ws, vs = [.ref p, .ref q] ∧ SqT K H1 p us ∧ SqL K H1 q ws ∧ R (ItTL K p q) H1
theorem pi_zipTL {X : Cx} {e1 e2 : Expr} {ta : TA} {p pos tp : Pos} {es : List Expr} {nn : Nat} (hg : Gl X "zip") (hm : X.mg "zip" = none) (ha : PA X [e1, e2] ta)
    (hs : starEach [e1, e2] X.env = (false, eval e1 X.env) :: starEach [e2] X.env := by rfl) (hb : (backTo pos (starEach [e2] X.env)).any (·.1) = false := by rfl) :
    PI X (.Tuple es nn tp) (.Call (.Name "zip" p) [e1, e2] [] pos) (iTL X.K ta) := by
  refine ⟨fun pins s σ H R I h => ?_⟩
  refine Call_ (ld_blt I hg hm PyProof.Rows.boot_zip (PyProof.Rows.callWith_type1 (thn (ha.run pos pins s σ H _ I h) fun us0 s1 ⟨vs, H1, J, rr, q1⟩ => ?_) hs hb))
  obtain ⟨a, b, us, ws, ex, hu, hw, q⟩ := q1
  subst ex
  cases rr with
  | cons r1 rr =>
    cases rr with
    | cons r2 rr =>
      cases rr
      cases r1
      cases r2
      obtain ⟨vs1, R1, p1, _⟩ := J.tuple hu
      obtain ⟨vs2, R2, p2, _⟩ := J.list hw
      have pt : s1.heap.IsTuple a vs1.toArray := p1
      have al : a < s1.heap.objs.size := by obtain ⟨_, e, _⟩ := pt; exact Heap.lt_size e
      have bl : b < s1.heap.objs.size := by obtain ⟨_, e, _⟩ := p2.isList; exact Heap.lt_size e
      refine zip_begins2 (begins_tuple a vs1.toArray) (begins_list b vs2.toArray) pt p2.isList fun g f1 f2 f3 f4 f5 gz kp => wpAny_pyIter_zip f1 ?_
      have J2 : Inv X pins σ H1 { s1 with heap := g } := J.kept (t' := s1.toks) kp
      have S : ZipSep2 (s1.heap.objs.size + 4) (s1.heap.objs.size + 2) (s1.heap.objs.size + 3) s1.heap.objs.size (s1.heap.objs.size + 1) [s1.heap.objs.size, a] [s1.heap.objs.size + 1, b] := by
        exact zs_new al bl
      refine ⟨s1.heap.objs.size + 4, [s1.heap.objs.size + 4, s1.heap.objs.size + 2, s1.heap.objs.size + 3, s1.heap.objs.size, s1.heap.objs.size + 1], _, _, H1, rfl, J2, turn_TL S, ⟨f1, f2, ⟨_, _, f3⟩, ⟨_, f4, rfl, rfl⟩, ⟨_, f5, rfl, rfl⟩⟩, fun c hcm => ?_, q⟩
      have hle : s1.heap.objs.size ≤ c := by
        exact new_le hcm
      exact J.fpOk hle (J.hok.fresh hle)
section
variable {K : PySem.W.Frag} {ta : TA} {g : TG} {tu tz : TS} {D : Ends} {σ : L2.St} {H : Hp}
/-- for x, y in zip(a tuple, a list), of one length -/
theorem sq_forTL {a b : Addr} {us ws : List V} (h : ∀ Q : List V → Hp → Prop, Q [.ref a, .ref b] H → ta σ H Q) (hu : SqT K H a us) (hw : SqL K H b ws) (hlen : us.length = ws.length) (Pv : Nat → L2.St → Hp → Prop) (h0 : Pv 0 σ H) (hl : ∀ i σ' H', i ≤ us.length → Pv i σ' H' → SqT K H' a us ∧ SqL K H' b ws)
    (hs : ∀ (i : Nat) (x y : V) (T : Addr) σ' H', us[i]? = some x → ws[i]? = some y → Pv i σ' H' → H' T = none → g (.ref T) σ' (upd H' T (.tup [x, y])) fun σ2 H2 => tu { D with nx := Pv (i + 1), ct := Pv (i + 1), bk := tz D } σ2 H2) (hd : ∀ σ' H', Pv us.length σ' H' → tz D σ' H') : tSeq (tFor (iTL K ta) g tu) tz D σ H := by
  refine h _ ⟨a, b, us, ws, rfl, hu, hw, fun i m σ H => m = us.length - i ∧ i ≤ us.length ∧ Pv i σ H, ⟨us.length, rfl, Nat.zero_le _, h0⟩, ?_⟩
  rintro i m σ H ⟨rfl, hi, p⟩
  obtain ⟨q1, q2⟩ := hl i σ H hi p
  by_cases hlt : i < us.length
  · have hx : us[i]? = some us[i] := List.getElem?_eq_getElem hlt
    have hlt2 : i < ws.length := by omega
    have hy : ws[i]? = some ws[i] := List.getElem?_eq_getElem hlt2
    refine .inr ⟨⟨us, ws, _, _, q1, q2, hx, hy⟩, Pv (i + 1), fun σ' H' p' => ⟨us.length - (i + 1), by omega, rfl, hlt, p'⟩, fun v H' y => ?_⟩
    obtain ⟨T, x', y', rfl, hT, rfl, f1, f2⟩ := y
    exact hs i x' y' T σ H (f1 us q1) (f2 ws q2) p hT
  · have e : i = us.length := by omega
    subst e
    exact .inl ⟨⟨us, ws, q1, q2, Nat.le_refl _, by omega, .inl rfl⟩, hd σ H p⟩
end


end Rf
namespace Rf
open PySem PySem.Spec PyProof.Rows L2
/-! ### list(zip(a list, a list)) -/
section
variable {prog : Program} {w : World} {A : Around} {E : Value → Shared → Prop} {s : Shared} {z tc to j1 j2 a : Addr} {fp1 fp2 : List Addr} {n1 n2 n : Nat} {P1 P2 : Nat → Value → Prop} {St1 St2 : Nat → Heap → Prop} {b1 b2 : Value}
abbrev ZOut (h : Heap) (z tc to a : Addr) (f : Bool) : Prop := h.get? z = some { cls := .type "zip", dict := none, data := .fields #[rawInt a, .bool f, .bool false, .ref tc, .ref to], slots := #[] }
theorem not_free {f : Bool} {oa : Obj} {Q : Bool → Shared → Prop} (hz : ZOut s.heap z tc to a f) (ha : s.heap.get? a = some oa)
    (hQ : ∀ g, ZOut g z tc to a true → Heap.SameBut z s.heap g → Q false { s with heap := g }) : wpAny (model prog w) A (Builtin.SmallTypes.ownedTupleIsFree (.ref z)) Q E s := by
  unfold Builtin.SmallTypes.ownedTupleIsFree
  refine wpAny_bind (wpAny_field hz rfl (x := rawInt a) rfl ?_)
  show wpAny _ _ (loadIfAlive (a : Int).toNat >>= _) _ _ _
  have ea : (a : Int).toNat = a := Int.toNat_natCast a
  rw [ea]
  refine wpAny_bind (PySem.W.kdx_alive ha ?_)
  rw [if_neg (show ¬ (some oa).isNone = true from Bool.false_ne_true)]
  refine wpAny_bind (wpAny_field hz rfl (x := .bool f) rfl ?_)
  cases f with
  | true =>
    rw [if_neg (by decide)]
    exact wpAny_pure (hQ s.heap hz ⟨rfl, fun _ _ => rfl⟩)
  | false =>
    rw [if_pos (by decide)]
    refine wpAny_bind (wpAny_setField_rec hz (by simp) fun g h1 h2 => ?_)
    exact wpAny_pure (hQ g h1 h2)
/-- one more pair, the one ahead still held -/
theorem zo_item {f : Bool} {oa : Obj} {Q : Value → Shared → Prop} (S : ZipSep2 z tc to j1 j2 fp1 fp2) (D1 : Draws prog w A j1 fp1 n1 P1 St1) (D2 : Draws prog w A j2 fp2 n2 P2 St2)
    (hz : ZOut s.heap z tc to a f) (ha : s.heap.get? a = some oa) (hI : IsTupOf2 s.heap tc (.ref j1) (.ref j2)) (t1 : St1 n s.heap) (t2 : St2 n s.heap) (l1 : n < n1) (l2 : n < n2)
    (hQ : ∀ v1 v2 g k, P1 n v1 → P2 n v2 → ZOut g z tc to a true → St1 (n + 1) g → St2 (n + 1) g → IsTupOf2 g s.heap.objs.size v1 v2 → g.objs.size = s.heap.objs.size + 1 → (∀ c o, c ≠ z → c ≠ j1 → c ≠ j2 → s.heap.get? c = some o → g.get? c = some o) → Q (.ref s.heap.objs.size) { s with heap := g, toks := k }) :
    wpAny (model prog w) A (Builtin.«zip.__next__» ⟨[.ref z], []⟩) (fun fin s' => ∃ v, fin = .done (.ret v) ∧ Q v s') E s := by
  obtain ⟨hp, gn, dr, tk0, os⟩ := s
  refine wpAny_bind (m := field (.ref z) 2) (wpAny_field hz rfl (x := .bool false) rfl ?_)
  refine wpAny_bind (m := field (.ref z) 3) (wpAny_field hz rfl (x := .ref tc) rfl ?_)
  refine wpAny_bind (wpAny_seqItems hI rfl ?_)
  refine wpAny_bind (m := Builtin.SmallTypes.ownedTupleIsFree (.ref z)) (not_free hz ha fun g0 h0 s0 => ?_)
  simp only [Bool.false_eq_true, if_false]
  refine wpAny_bind ?_
  rw [← Array.forIn_toList]
  simp only [List.forIn_cons, List.forIn_nil]
  refine wpAny_bind (wpAny_bind (wpAny_holding ?_))
  show wpAny _ _ (Builtin.SmallTypes.nextOf (.ref j1) >>= _) _ _ ⟨g0, gn, dr, tk0, os⟩
  have e0 : St1 n g0 := D1.over t1 s0 S.zf1
  refine wpAny_bind (D1.item n _ _ _ l1 e0 fun v1 g1 k1 p1 u1 s1 => wpAny_pure ?_)
  refine wpAny_pure ?_
  refine wpAny_bind (wpAny_bind (wpAny_holding ?_))
  show wpAny _ _ (Builtin.SmallTypes.nextOf (.ref j2) >>= _) _ _ ⟨g1, gn, dr, k1, os⟩
  have e1 : St2 n g1 := D2.over (D2.over t2 s0 S.zf2) s1 S.sep1_2
  refine wpAny_bind (D2.item n _ _ _ l2 e1 fun v2 g2 k2 p2 u2 s2 => wpAny_pure ?_)
  refine wpAny_pure (wpAny_pure ?_)
  have gz : g2.objs.size = hp.objs.size := by rw [s2.1, s1.1, s0.1]
  have kp : ∀ c o, c ≠ z → c ≠ j1 → c ≠ j2 → hp.get? c = some o → g2.get? c = some o := fun c o x1 x2 x3 e => s2.extBut _ _ x3 (s1.extBut _ _ x2 (s0.extBut _ _ x1 e))
  show wpAny _ _ (newTuple [v1, v2] >>= fun r => ret r) _ _ (⟨g2, gn, dr, k2, os⟩ : Shared)
  refine wpAny_bind (wpAny_newTuple (wpAny_pure ⟨_, rfl, ?_⟩))
  have up : ∀ c o, g2.get? c = some o → (g2.push { cls := .type "tuple", data := .seq #[v1, v2] }).get? c = some o := fun c o e => Heap.get?_push_of_some _ e
  have hT := Heap.get?_push_size g2 (o := { cls := .type "tuple", data := .seq #[v1, v2] }) rfl
  have hz2 := Heap.size_push g2 { cls := .type "tuple", data := .seq #[v1, v2] }
  rw [gz] at hT hz2
  have r := hQ v1 v2 (g2.push { cls := .type "tuple", data := .seq #[v1, v2] }) k2 p1 p2 (up _ _ (s2.extBut _ _ S.zi2 (s1.extBut _ _ S.zi1 h0))) (D1.frame _ _ _ (D1.over u1 s2 S.sep2_1) fun b _ o e => up b o e) (D2.frame _ _ _ u2 fun b _ o e => up b o e) hT hz2 (fun c o x1 x2 x3 e => up c o (kp c o x1 x2 x3 e))
  show Q (.ref g2.objs.size) _
  rw [gz]
  exact r
/-- the end, the last pair still held -/
theorem zo_end {f : Bool} {oa : Obj} {Q : Fin → Shared → Prop} (S : ZipSep2 z tc to j1 j2 fp1 fp2) (D1 : Draws prog w A j1 fp1 n1 P1 St1) (D2 : Draws prog w A j2 fp2 n1 P2 St2)
    (hz : ZOut s.heap z tc to a f) (ha : s.heap.get? a = some oa) (hI : IsTupOf2 s.heap tc (.ref j1) (.ref j2)) (t1 : St1 n1 s.heap)
    (hE : ∀ g e, (∀ c o, c ≠ z → c ≠ j1 → c ≠ j2 → s.heap.get? c = some o → g.get? c = some o) → (∃ o, g.get? e = some o ∧ o.cls = .type "StopIteration") → E (.ref e) { s with heap := g }) :
    wpAny (model prog w) A (Builtin.«zip.__next__» ⟨[.ref z], []⟩) Q E s := by
  obtain ⟨hp, gn, dr, tk0, os⟩ := s
  refine wpAny_bind (m := field (.ref z) 2) (wpAny_field hz rfl (x := .bool false) rfl ?_)
  refine wpAny_bind (m := field (.ref z) 3) (wpAny_field hz rfl (x := .ref tc) rfl ?_)
  refine wpAny_bind (wpAny_seqItems hI rfl ?_)
  refine wpAny_bind (m := Builtin.SmallTypes.ownedTupleIsFree (.ref z)) (not_free hz ha fun g0 h0 s0 => ?_)
  simp only [Bool.false_eq_true, if_false]
  refine wpAny_bind ?_
  rw [← Array.forIn_toList]
  simp only [List.forIn_cons, List.forIn_nil]
  refine wpAny_bind (wpAny_bind (wpAny_holding ?_))
  show wpAny _ _ (Builtin.SmallTypes.nextOf (.ref j1) >>= _) _ _ ⟨g0, gn, dr, tk0, os⟩
  have e0 : St1 n1 g0 := D1.over t1 s0 S.zf1
  refine wpAny_bind (D1.done _ _ _ e0 fun g1 e u1 he => ?_)
  exact hE g1 e (fun c o x1 x2 _ q => u1 c o x2 (s0.extBut _ _ x1 q)) he
end
section
variable {prog : Program} {w : World} {A : Around} {E : Value → Shared → Prop} {s : Shared} {z tc to j1 j2 a : Addr} {fp1 fp2 : List Addr} {N n : Nat} {P1 P2 : Nat → Value → Prop} {St1 St2 : Nat → Heap → Prop}
/-- where a zip stands whose pairs are all held -/
def ZAt (h : Heap) (z tc to j1 j2 S : Addr) (n : Nat) : Prop := (n = 0 ∧ IsZip h z tc to .none ∧ ∃ u w, IsTupOf2 h to u w) ∨ ∃ a f oa, ZOut h z tc to a f ∧ h.get? a = some oa ∧ a ≠ z ∧ a ≠ j1 ∧ a ≠ j2 ∧ a ≠ to ∧ a ≠ S
theorem ZAt.lt {h : Heap} {S : Addr} (Z : ZAt h z tc to j1 j2 S n) : z < h.objs.size := by
  rcases Z with ⟨_, e, _⟩ | ⟨_, _, _, e, _⟩ <;> exact Heap.lt_size e
theorem ZAt.ty {S : Addr} (Z : ZAt s.heap z tc to j1 j2 S n) : s.TypeIs (.ref z) "zip" := by
  rcases Z with ⟨_, e, _⟩ | ⟨_, _, _, e, _⟩ <;> exact ⟨_, e, rfl⟩
theorem za_item {S : Addr} {Q : Option Value → Shared → Prop} (D : ZipSep2 z tc to j1 j2 fp1 fp2) (D1 : Draws prog w A.in1 j1 fp1 N P1 St1) (D2 : Draws prog w A.in1 j2 fp2 N P2 St2)
    (Z : ZAt s.heap z tc to j1 j2 S n) (hI : IsTupOf2 s.heap tc (.ref j1) (.ref j2)) (t1 : St1 n s.heap) (t2 : St2 n s.heap) (l : n < N) (hS : S < s.heap.objs.size) (hto : to < s.heap.objs.size)
    (hQ : ∀ v1 v2 g k, P1 n v1 → P2 n v2 → ZAt g z tc to j1 j2 S (n + 1) → St1 (n + 1) g → St2 (n + 1) g → IsTupOf2 g s.heap.objs.size v1 v2 → g.objs.size = s.heap.objs.size + 1 → (∀ c o, c ≠ z → c ≠ to → c ≠ j1 → c ≠ j2 → s.heap.get? c = some o → g.get? c = some o) → Q (some (.ref s.heap.objs.size)) { s with heap := g, toks := k }) :
    wpAny (model prog w) A (pyNext (.ref z)) Q E s := by
  have zl := Z.lt
  have ll1 : j1 < s.heap.objs.size := by obtain ⟨o, e⟩ := D1.live _ _ t1; exact Heap.lt_size e
  have ll2 : j2 < s.heap.objs.size := by obtain ⟨o, e⟩ := D2.live _ _ t2; exact Heap.lt_size e
  rcases Z with ⟨e0, hz, u, w0, hT⟩ | ⟨a, f, oa, hz, ha, m1, m2, m3, m4, m5⟩
  · subst e0
    refine wpAny_pyNext_zipD2_item D D1 D2 hz hI hT t1 t2 l l fun v1 v2 g k p1 p2 z1 _ u1 u2 hp gz kp => hQ v1 v2 g k p1 p2 (.inr ⟨s.heap.objs.size, false, _, z1, hp, Nat.ne_of_gt zl, Nat.ne_of_gt ll1, Nat.ne_of_gt ll2, Nat.ne_of_gt hto, Nat.ne_of_gt hS⟩) u1 u2 hp gz fun c o x1 x2 x3 x4 e => kp c o x1 x2 x3 x4 e
  · have hty : s.TypeIs (.ref z) "zip" := ⟨_, hz, rfl⟩
    unfold pyNext
    refine wpAny_bind (wpAny_attempt (wpAny_callSpecial?_slot hty F.slot_zip_next (wpAny_call_entry F.slot_zip_next hty F.entry_zip_next
      (zo_item D D1 D2 hz ha hI t1 t2 l l fun v1 v2 g k p1 p2 z1 u1 u2 hp gz kp => wpAny_pure (hQ v1 v2 g k p1 p2 (.inr ⟨a, true, oa, z1, kp _ _ m1 m2 m3 ha, m1, m2, m3, m4, m5⟩) u1 u2 hp gz fun c o x1 _ x3 x4 e => kp c o x1 x3 x4 e)) (F.args_zip_next_1 _))))
theorem za_end {S : Addr} {Q : Option Value → Shared → Prop} (D : ZipSep2 z tc to j1 j2 fp1 fp2) (D1 : Draws prog w A.in1 j1 fp1 N P1 St1) (D2 : Draws prog w A.in1 j2 fp2 N P2 St2)
    (Z : ZAt s.heap z tc to j1 j2 S N) (hI : IsTupOf2 s.heap tc (.ref j1) (.ref j2)) (t1 : St1 N s.heap) (t2 : St2 N s.heap)
    (hQ : ∀ g k, (∀ c o, c ≠ z → c ≠ to → c ≠ j1 → c ≠ j2 → s.heap.get? c = some o → g.get? c = some o) → Q none { s with heap := g, toks := k }) : wpAny (model prog w) A (pyNext (.ref z)) Q E s := by
  rcases Z with ⟨e0, hz, u, w0, hT⟩ | ⟨a, f, oa, hz, ha, m1, m2, m3, m4, m5⟩
  · subst e0
    exact wpAny_pyNext_zipD2_end D D1 D2 hz hI hT t1 t2 (Nat.le_refl _) (Nat.le_refl _) (.inl rfl) fun g k kp => hQ g k kp
  · have hty : s.TypeIs (.ref z) "zip" := ⟨_, hz, rfl⟩
    unfold pyNext
    refine wpAny_bind (wpAny_attempt (wpAny_callSpecial?_slot hty F.slot_zip_next (wpAny_call_entry F.slot_zip_next hty F.entry_zip_next (zo_end D D1 D2 hz ha hI t1 fun g e kp he => ?_) (F.args_zip_next_1 _))))
    obtain ⟨o, ho, hc⟩ := he
    refine wpAny_bind (wpAny_isInstance (T := "StopIteration") (b := true) ⟨o, ho, hc⟩ isSubtype_stop ?_)
    exact wpAny_pure (hQ g s.toks fun c o x1 _ x3 x4 e => kp c o x1 x3 x4 e)
/-- what the list made has -/
structure Made2 (P1 P2 : Nat → Value → Prop) (lo : Nat) (h : Heap) (as : List Addr) : Prop where
  rise : as.Pairwise (· < ·)
  above : ∀ a ∈ as, lo ≤ a ∧ a < h.objs.size
  pairs : ∀ (j : Nat) (a : Addr), as[j]? = some a → ∃ v1 v2, P1 j v1 ∧ P2 j v2 ∧ IsTupOf2 h a v1 v2
theorem lz_loop {S : Addr} {R : Result → Shared → Prop} {h1 : Heap} (D : ZipSep2 z tc to j1 j2 fp1 fp2) (D1 : Draws prog w A.in1.in1 j1 fp1 N P1 St1) (D2 : Draws prog w A.in1.in1 j2 fp2 N P2 St2) (hN : N ≤ sizeLine)
    (lS : S < h1.objs.size) (lz : z < h1.objs.size) (lt : tc < h1.objs.size) (lo : to < h1.objs.size) (l1 : j1 < h1.objs.size) (l2 : j2 < h1.objs.size) (nz : S ≠ z) (nt : S ≠ tc) (no : S ≠ to) (n1 : S ∉ fp1) (n2 : S ∉ fp2) (res : Value)
    (hR : ∀ g k acc c as, (∀ b o, b ≠ S → b ≠ z → b ≠ to → b ≠ j1 → b ≠ j2 → h1.get? b = some o → g.get? b = some o) → g.get? S = some { cls := .type "list", dict := none, data := .seq acc c, slots := #[] } → acc.toList = as.map Value.ref → as.length = N → Made2 P1 P2 h1.objs.size g as → R (.ok (.ret res)) { s with heap := g, toks := k }) :
    ∀ (m n : Nat) (h : Heap) (k c : Nat) (acc : Array Value) (as : List Addr), N - n = m → n ≤ N → ZAt h z tc to j1 j2 S n → IsTupOf2 h tc (.ref j1) (.ref j2) → St1 n h → St2 n h → h1.objs.size ≤ h.objs.size →
      (∀ b o, b ≠ S → b ≠ z → b ≠ to → b ≠ j1 → b ≠ j2 → h1.get? b = some o → h.get? b = some o) → h.get? S = some { cls := .type "list", dict := none, data := .seq acc c, slots := #[] } → acc.toList = as.map Value.ref → as.length = n → Made2 P1 P2 h1.objs.size h as →
      codeAny (model prog w) A (.builtin "list.extend.loop" ⟨[.ref S, .ref z, res], []⟩) R { s with heap := h, toks := k } := by
  have s1 : S ≠ j1 := fun e => n1 (e ▸ D.mem1)
  have s2 : S ≠ j2 := fun e => n2 (e ▸ D.mem2)
  intro m
  induction m with
  | zero =>
    intro n h k c acc as hm hn Z hI t1 t2 hle hk hL hacc hal hG
    have e : n = N := by omega
    subst e
    refine codeAny_builtin PySem.F.entry_extend_loop ?_
    rw [Around.under_plainId PySem.F.plain_extend_loop _]
    refine wpAny_bind (m := pyNext (.ref z)) (za_end (s := { s with heap := h, toks := k }) D D1 D2 Z hI t1 t2 fun g k2 kp => ?_)
    refine wpAny_pure (hR g k2 acc c as (fun b o x1 x2 x3 x4 x5 q => kp b o x2 x3 x4 x5 (hk b o x1 x2 x3 x4 x5 q)) (kp S _ nz no s1 s2 hL) hacc hal ⟨hG.rise, fun b hb => ?_, fun j b hj => ?_⟩)
    · obtain ⟨q1, q2⟩ := hG.above b hb
      obtain ⟨j, hj⟩ := List.mem_iff_getElem?.mp hb
      obtain ⟨v1, v2, _, _, e⟩ := hG.pairs j b hj
      have x := fun c (q : c < h1.objs.size) => (Nat.ne_of_gt (Nat.lt_of_lt_of_le q q1) : b ≠ c)
      exact ⟨q1, Heap.lt_size (kp b _ (x _ lz) (x _ lo) (x _ l1) (x _ l2) e)⟩
    · obtain ⟨q1, _⟩ := hG.above b (List.mem_of_getElem? hj)
      obtain ⟨v1, v2, y1, y2, e⟩ := hG.pairs j b hj
      have x := fun c (q : c < h1.objs.size) => (Nat.ne_of_gt (Nat.lt_of_lt_of_le q q1) : b ≠ c)
      exact ⟨v1, v2, y1, y2, kp b _ (x _ lz) (x _ lo) (x _ l1) (x _ l2) e⟩
  | succ m ih =>
    intro n h k c acc as hm hn Z hI t1 t2 hle hk hL hacc hal hG
    have hlt : n < N := by omega
    have hsz : acc.size = n := by rw [← Array.length_toList, hacc, List.length_map, hal]
    refine codeAny_builtin PySem.F.entry_extend_loop ?_
    rw [Around.under_plainId PySem.F.plain_extend_loop _]
    refine wpAny_bind (m := pyNext (.ref z)) (za_item (s := { s with heap := h, toks := k }) D D1 D2 Z hI t1 t2 hlt (Nat.lt_of_lt_of_le lS hle) (Nat.lt_of_lt_of_le lo hle) fun v1 v2 g k2 p1 p2 Z2 u1 u2 hp gz kp => ?_)
    have hL2 := kp S _ nz no s1 s2 hL
    have up : ∀ b o, b ≠ S → g.get? b = some o → (g.update S (Obj.mapSeq (·.push (Value.ref h.objs.size)))).get? b = some o := fun b o hb e => (Heap.get?_update_other _ _ (Ne.symm hb)).trans e
    have ltS : S < h.objs.size := Nat.lt_of_lt_of_le lS hle
    have f1 : St1 (n + 1) (g.update S (Obj.mapSeq (·.push (Value.ref h.objs.size)))) := D1.frame _ _ _ u1 fun b hb o e => up b o (fun q => n1 (q ▸ hb)) e
    have f2 : St2 (n + 1) (g.update S (Obj.mapSeq (·.push (Value.ref h.objs.size)))) := D2.frame _ _ _ u2 fun b hb o e => up b o (fun q => n2 (q ▸ hb)) e
    have Z3 : ZAt (g.update S (Obj.mapSeq (·.push (Value.ref h.objs.size)))) z tc to j1 j2 S (n + 1) := by
      rcases Z2 with ⟨e0, _⟩ | ⟨a, f, oa, z1, z2, m1, m2, m3, m4, m5⟩
      · exact absurd e0 (Nat.succ_ne_zero n)
      · exact .inr ⟨a, f, oa, up _ _ (Ne.symm nz) z1, up _ _ m5 z2, m1, m2, m3, m4, m5⟩
    have hI2 := up _ _ (Ne.symm nt) (kp tc _ D.TIz D.TITO D.TIi1 D.TIi2 hI)
    have big : g.objs.size = h.objs.size + 1 := gz
    have bigu : (g.update S (Obj.mapSeq (·.push (Value.ref h.objs.size)))).objs.size = h.objs.size + 1 := by rw [Heap.size_update]; exact big
    show wpAny _ A.in1 (updateSeq S (·.push (Value.ref h.objs.size)) >>= _) _ _ _
    refine wpAny_bind ?_
    refine wpAny_updateSeq hL2 rfl (wpAny_pure ⟨plainId_quiet PySem.F.plain_extend_loop _, ih (n + 1) _ k2 _ (acc.push (Value.ref h.objs.size)) (as ++ [h.objs.size]) (by omega) hlt Z3 hI2 f1 f2 (by rw [bigu]; omega)
      (fun b o x1 x2 x3 x4 x5 q => up b o x1 (kp b o x2 x3 x4 x5 (hk b o x1 x2 x3 x4 x5 q))) (Heap.get?_update_self _ hL2 rfl) (by rw [Array.toList_push, hacc, List.map_append]; rfl) (by rw [List.length_append, hal]; rfl) ⟨?_, ?_, ?_⟩⟩) (by rw [hsz]; omega) (by rw [Array.size_push, hsz]; omega)
    · refine List.pairwise_append.mpr ⟨hG.rise, List.pairwise_singleton _ _, fun b hb d hd => ?_⟩
      rw [List.mem_singleton.mp hd]
      exact (hG.above b hb).2
    · intro b hb
      rw [bigu]
      rcases List.mem_append.mp hb with hb | hb
      · exact ⟨(hG.above b hb).1, Nat.lt_succ_of_lt (hG.above b hb).2⟩
      · rw [List.mem_singleton.mp hb]
        exact ⟨hle, Nat.lt_succ_self _⟩
    · intro j b hj
      by_cases hjl : j < as.length
      · rw [List.getElem?_append_left hjl] at hj
        have q1 := (hG.above b (List.mem_of_getElem? hj)).1
        obtain ⟨w1, w2, y1, y2, e⟩ := hG.pairs j b hj
        have x := fun c (q : c < h1.objs.size) => (Nat.ne_of_gt (Nat.lt_of_lt_of_le q q1) : b ≠ c)
        exact ⟨w1, w2, y1, y2, up b _ (x _ lS) (kp b _ (x _ lz) (x _ lo) (x _ l1) (x _ l2) e)⟩
      · have ej : j = n := by
          have := (List.getElem?_eq_some_iff.mp hj).1
          rw [List.length_append, List.length_singleton] at this
          omega
        subst ej
        rw [List.getElem?_append_right (by omega), hal, Nat.sub_self] at hj
        have eb := Option.some.inj hj
        subst eb
        exact ⟨v1, v2, p1, p2, up _ _ (Nat.ne_of_gt ltS) hp⟩
theorem no_len_zip : typeLookup (.type "zip") "__len__" = pure none := by rw [typeLookup_type, builtinLookup_eq_fast]; kernel_rfl
theorem no_hint_zip : typeLookup (.type "zip") "__length_hint__" = pure none := by rw [typeLookup_type, builtinLookup_eq_fast]; kernel_rfl
theorem lz_extend {S : Addr} {R : Result → Shared → Prop} (D : ZipSep2 z tc to j1 j2 fp1 fp2) (D1 : Draws prog w A.in1.in1 j1 fp1 N P1 St1) (D2 : Draws prog w A.in1.in1 j2 fp2 N P2 St2) (hN : N ≤ sizeLine) {u0 w0 : Value} {c0 : Nat}
    (hz : IsZip s.heap z tc to .none) (hI : IsTupOf2 s.heap tc (.ref j1) (.ref j2)) (hO : IsTupOf2 s.heap to u0 w0) (t1 : St1 0 s.heap) (t2 : St2 0 s.heap) (hL : s.heap.get? S = some { cls := .type "list", data := .seq #[] c0 })
    (nz : S ≠ z) (nt : S ≠ tc) (no : S ≠ to) (n1 : S ∉ fp1) (n2 : S ∉ fp2) (res : Value)
    (hR : ∀ g k acc c as, (∀ b o, b ≠ S → b ≠ z → b ≠ to → b ≠ j1 → b ≠ j2 → s.heap.get? b = some o → g.get? b = some o) → g.get? S = some { cls := .type "list", dict := none, data := .seq acc c, slots := #[] } → acc.toList = as.map Value.ref → as.length = N → Made2 P1 P2 s.heap.objs.size g as → R (.ok (.ret res)) { s with heap := g, toks := k }) :
    wpAny (model prog w) A.in1 (Builtin.List.listExtendWith (.ref S) (.ref z) res)
      (fun fin s' => match fin with | .done f => R (.ok f) s' | .again c' => c'.quiet = true ∧ codeAny (model prog w) A c' R s') (fun e s' => R (.error e) s') s := by
  have hty : s.TypeIs (.ref z) "zip" := ⟨_, hz, rfl⟩
  have ll1 : j1 < s.heap.objs.size := by obtain ⟨o, e⟩ := D1.live _ _ t1; exact Heap.lt_size e
  have ll2 : j2 < s.heap.objs.size := by obtain ⟨o, e⟩ := D2.live _ _ t2; exact Heap.lt_size e
  unfold Builtin.List.listExtendWith
  refine wpAny_bind (wpAny_typeOf hty ?_)
  have x1 : Builtin.List.listSameRef (.ref S) (.ref z) = false := by simp [Builtin.List.listSameRef, nz]
  have x2 : (Value.type "zip" == Value.type "list") = false := by decide
  have x3 : (Value.type "zip" == Value.type "tuple") = false := by decide
  simp only [x1, x2, x3, Bool.or_false, Bool.false_eq_true, if_false]
  refine wpAny_bind (wpAny_pyIter_zip hz ?_)
  refine wpAny_bind (wpAny_holding ?_)
  unfold Builtin.List.listLengthHint
  refine wpAny_bind (wpAny_specialOf hty no_len_zip ?_)
  refine wpAny_bind (m := specialOf (Value.ref z) (Str.ofString "__length_hint__")) (wpAny_specialOf hty no_hint_zip ?_)
  refine wpAny_pure ?_
  refine wpAny_bind (m := rule "list.extend.makes-room") (wpAny_rule ?_)
  refine wpAny_bind (m := Builtin.List.listTouch (.ref S)) ?_
  show wpAny _ A.in1 (updateSeq S (·.push Value.none) >>= fun _ => updateSeq S (·.pop)) _ _ _
  refine wpAny_bind (wpAny_updateSeq hL rfl ?_)
  have hL2 := Heap.get?_update_self (Obj.mapSeq (·.push Value.none)) hL rfl
  refine wpAny_updateSeq (hz := by seq_fits) hL2 rfl ?_
  have hL3 := Heap.get?_update_self (Obj.mapSeq (·.pop)) hL2 rfl
  have up : ∀ b o, b ≠ S → s.heap.get? b = some o → ((s.heap.update S (Obj.mapSeq (·.push Value.none))).update S (Obj.mapSeq (·.pop))).get? b = some o := fun b o hb e => (Heap.get?_update_other _ _ (Ne.symm hb)).trans ((Heap.get?_update_other _ _ (Ne.symm hb)).trans e)
  refine wpAny_pure ⟨plainId_quiet F.plain_extend_loop _, lz_loop (h1 := s.heap) D D1 D2 hN (Heap.lt_size hL) (Heap.lt_size hz) (Heap.lt_size hI) (Heap.lt_size hO) ll1 ll2 nz nt no n1 n2 res hR N 0 _ s.toks _ _ [] (Nat.sub_zero _) (Nat.zero_le _) (.inl ⟨rfl, up _ _ (Ne.symm nz) hz, _, _, up _ _ (Ne.symm no) hO⟩) (up _ _ (Ne.symm nt) hI)
    (D1.frame _ _ _ t1 fun b hb o e => up b o (fun q => n1 (q ▸ hb)) e) (D2.frame _ _ _ t2 fun b hb o e => up b o (fun q => n2 (q ▸ hb)) e) (by rw [Heap.size_update, Heap.size_update]; exact Nat.le_refl _) (fun b o y1 _ _ _ _ e => up b o y1 e) hL3 rfl rfl ⟨List.Pairwise.nil, (fun _ q => nomatch q), fun j b q => by simp at q⟩⟩
theorem lz_init {S : Addr} {R : Result → Shared → Prop} (D : ZipSep2 z tc to j1 j2 fp1 fp2) (D1 : Draws prog w A.in1.in1 j1 fp1 N P1 St1) (D2 : Draws prog w A.in1.in1 j2 fp2 N P2 St2) (hN : N ≤ sizeLine) {u0 w0 : Value}
    (hz : IsZip s.heap z tc to .none) (hI : IsTupOf2 s.heap tc (.ref j1) (.ref j2)) (hO : IsTupOf2 s.heap to u0 w0) (t1 : St1 0 s.heap) (t2 : St2 0 s.heap) (hL : s.heap.get? S = some { cls := .type "list", data := .seq #[] })
    (nz : S ≠ z) (nt : S ≠ tc) (no : S ≠ to) (n1 : S ∉ fp1) (n2 : S ∉ fp2)
    (hR : ∀ g k acc c as, (∀ b o, b ≠ S → b ≠ z → b ≠ to → b ≠ j1 → b ≠ j2 → s.heap.get? b = some o → g.get? b = some o) → g.get? S = some { cls := .type "list", dict := none, data := .seq acc c, slots := #[] } → acc.toList = as.map Value.ref → as.length = N → Made2 P1 P2 s.heap.objs.size g as → R (.ok (.ret .none)) { s with heap := g, toks := k }) :
    wpAny (model prog w) A.in1 (Builtin.«list.__init__» ⟨[.ref S, .ref z], []⟩)
      (fun fin s' => match fin with | .done f => R (.ok f) s' | .again c' => c'.quiet = true ∧ codeAny (model prog w) A c' R s') (fun e s' => R (.error e) s') s := by
  refine wpAny_bind (m := Builtin.List.listItems (.ref S)) ?_
  unfold Builtin.List.listItems
  refine wpAny_bind (wpAny_seqItems hL rfl (wpAny_pure ?_))
  refine wpAny_bind (m := updateSeq S (fun _ => #[])) (wpAny_updateSeq hL rfl ?_)
  have hL2 := Heap.get?_update_self (Obj.mapSeq (fun _ => (#[] : Array Value))) hL rfl
  have up : ∀ b o, b ≠ S → s.heap.get? b = some o → (s.heap.update S (Obj.mapSeq (fun _ => (#[] : Array Value)))).get? b = some o := fun b o hb e => (Heap.get?_update_other _ _ (Ne.symm hb)).trans e
  refine wpAny_bind (wpAny_letGo ?_)
  have sz : (s.heap.update S (Obj.mapSeq (fun _ => (#[] : Array Value)))).objs.size = s.heap.objs.size := Heap.size_update ..
  refine lz_extend (s := { s with heap := s.heap.update S (Obj.mapSeq (fun _ => (#[] : Array Value))) }) D D1 D2 hN (up _ _ (Ne.symm nz) hz) (up _ _ (Ne.symm nt) hI) (up _ _ (Ne.symm no) hO) (D1.frame _ _ _ t1 fun b hb o e => up b o (fun q => n1 (q ▸ hb)) e) (D2.frame _ _ _ t2 fun b hb o e => up b o (fun q => n2 (q ▸ hb)) e) hL2 nz nt no n1 n2 .none fun g k acc c as kp e1 e2 e3 M => ?_
  refine hR g k acc c as (fun b o y1 y2 y3 y4 y5 e => kp b o y1 y2 y3 y4 y5 (up b o y1 e)) e1 e2 e3 ?_
  rw [← sz]
  exact M
end
section
variable {prog : Program} {w : World} {A : Around} {E : Value → Shared → Prop} {s : Shared} {z tc to j1 j2 a : Addr} {fp1 fp2 : List Addr} {N n : Nat} {P1 P2 : Nat → Value → Prop} {St1 St2 : Nat → Heap → Prop}
theorem lz_call {Q : Value → Shared → Prop} (D : ZipSep2 z tc to j1 j2 fp1 fp2) (D1 : Draws prog w A.in1.in1.in1 j1 fp1 N P1 St1) (D2 : Draws prog w A.in1.in1.in1 j2 fp2 N P2 St2) (hN : N ≤ sizeLine) {u0 w0 : Value}
    (hz : IsZip s.heap z tc to .none) (hI : IsTupOf2 s.heap tc (.ref j1) (.ref j2)) (hO : IsTupOf2 s.heap to u0 w0) (t1 : St1 0 s.heap) (t2 : St2 0 s.heap) (b1 : ∀ b ∈ fp1, b < s.heap.objs.size) (b2 : ∀ b ∈ fp2, b < s.heap.objs.size)
    (hQ : ∀ g k acc c as, (∀ b o, b ≠ z → b ≠ to → b ≠ j1 → b ≠ j2 → s.heap.get? b = some o → g.get? b = some o) → g.get? s.heap.objs.size = some { cls := .type "list", dict := none, data := .seq acc c, slots := #[] } → acc.toList = as.map Value.ref → as.length = N → Made2 P1 P2 (s.heap.objs.size + 1) g as → Q (.ref s.heap.objs.size) { s with heap := g, toks := k }) :
    wpAny (model prog w) A (call (.type "list") [.ref z]) Q E s := by
  refine callType_codes (Q₁ := fun obj s₁ => obj = .ref s.heap.objs.size ∧ s₁ = { s with heap := s.heap.push { cls := .type "list", data := .seq #[] } }) F.called_list (F.typeCall_list_1 _) F.entry_list_init (code_list_new _ ⟨rfl, rfl⟩) fun obj s₁ h₁ => ?_
  obtain ⟨rfl, rfl⟩ := h₁
  have up : ∀ b o, s.heap.get? b = some o → (s.heap.push { cls := .type "list", data := .seq #[] }).get? b = some o := fun b o e => Heap.get?_push_of_some _ e
  have hS : (s.heap.push { cls := .type "list", data := .seq #[] }).get? s.heap.objs.size = some { cls := .type "list", data := .seq #[] } := Heap.get?_push_size _ rfl
  have sz : (s.heap.push { cls := .type "list", data := .seq #[] }).objs.size = s.heap.objs.size + 1 := Heap.size_push ..
  have no : ∀ b, b < s.heap.objs.size → s.heap.objs.size ≠ b := fun b h => Nat.ne_of_gt h
  refine ⟨⟨_, hS, rfl⟩, F.args_list_init_2 _ _, lz_init (A := A.in1) (s := { s with heap := s.heap.push { cls := .type "list", data := .seq #[] } }) D D1 D2 hN (up _ _ hz) (up _ _ hI) (up _ _ hO) (D1.frame _ _ _ t1 fun b _ o e => up b o e) (D2.frame _ _ _ t2 fun b _ o e => up b o e) hS (no _ (Heap.lt_size hz)) (no _ (Heap.lt_size hI)) (no _ (Heap.lt_size hO)) (fun h => Nat.lt_irrefl _ (b1 _ h)) (fun h => Nat.lt_irrefl _ (b2 _ h)) fun g k acc c as kp e1 e2 e3 M => ?_⟩
  refine ⟨rfl, hQ g k acc c as (fun b o y2 y3 y4 y5 e => kp b o (Nat.ne_of_lt (Heap.lt_size e)) y2 y3 y4 y5 (up b o e)) e1 e2 e3 ?_⟩
  rw [← sz]
  exact M
end
/-- the first place of an address -/
def posA : List Addr → Addr → Nat
  | [], _ => 0
  | x :: r, a => if x = a then 0 else posA r a + 1
theorem posA_of : ∀ {as : List Addr} {j : Nat} {a : Addr}, as.Nodup → as[j]? = some a → posA as a = j
  | [], _, _, _, h => by cases h
  | x :: r, 0, a, hn, h => by
    have e : x = a := Option.some.inj h
    unfold posA
    rw [if_pos e]
  | x :: r, j + 1, a, hn, h => by
    have h2 : r[j]? = some a := h
    have hn2 := List.nodup_cons.mp hn
    have ne : ¬ x = a := fun e => hn2.1 (e ▸ List.mem_of_getElem? h2)
    unfold posA
    rw [if_neg ne, posA_of hn2.2 h2]
def putP (H : Hp) (S : Addr) (as : List Addr) (xs ys : List V) : Hp := fun b => if b = S then some (.lst (as.map V.ref)) else if b ∈ as then some (.tup [xs.getD (posA as b) .non, ys.getD (posA as b) .non]) else H b
theorem getD_of {xs : List V} {j : Nat} {x : V} (h : xs[j]? = some x) : xs.getD j .non = x := by
  rw [List.getD_eq_getElem?_getD, h]
  rfl
section
variable {X : Cx} {pins : List (Addr × Obj)} {σ : L2.St} {H : Hp} {s : Shared} {g : Heap} {S c k : Nat} {as : List Addr} {xs ys : List V} {acc : Array Value}
theorem laid_pairs (J : Inv X pins σ H s) (kp : ∀ b o, s.heap.get? b = some o → g.get? b = some o) (lo : s.heap.objs.size ≤ S) (hS : g.get? S = some { cls := .type "list", dict := none, data := .seq acc c, slots := #[] }) (hacc : acc.toList = as.map Value.ref) (hl : as.length ≤ sizeLine) (nd : as.Nodup) (ab : ∀ a ∈ as, S < a)
    (hp : ∀ (j : Nat) (a : Addr), as[j]? = some a → ∃ x y v1 v2, xs[j]? = some x ∧ ys[j]? = some y ∧ RelV x v1 ∧ RelV y v2 ∧ IsTupOf2 g a v1 v2) :
    Same H (putP H S as xs ys) ∧ (putP H S as xs ys) S = some (.lst (as.map V.ref)) ∧ (∀ (j : Nat) (a : Addr) (x y : V), as[j]? = some a → xs[j]? = some x → ys[j]? = some y → (putP H S as xs ys) a = some (.tup [x, y])) ∧ Inv X pins σ (putP H S as xs ys) { s with heap := g, toks := k } := by
  have fr : ∀ b, S ≤ b → H b = none := fun b h => J.hok.fresh (Nat.le_trans lo h)
  have sm : Same H (putP H S as xs ys) := fun b o e => by
    have n1 : ¬ b = S := fun z => by rw [z, fr S (Nat.le_refl _)] at e; cases e
    have n2 : ¬ b ∈ as := fun z => by rw [fr b (Nat.le_of_lt (ab b z))] at e; cases e
    unfold putP
    rw [if_neg n1, if_neg n2]
    exact e
  have eS : (putP H S as xs ys) S = some (.lst (as.map V.ref)) := if_pos rfl
  have eT : ∀ (j : Nat) (a : Addr) (x y : V), as[j]? = some a → xs[j]? = some x → ys[j]? = some y → (putP H S as xs ys) a = some (.tup [x, y]) := fun j a x y h1 h2 h3 => by
    have m := List.mem_of_getElem? h1
    unfold putP
    rw [if_neg (Nat.ne_of_gt (ab a m)), if_pos m, posA_of nd h1, getD_of h2, getD_of h3]
  refine ⟨sm, eS, eT, J.un ⟨fun b o q _ _ _ => kp b o q, fun b o q _ _ _ => ⟨o.slots, kp b o q⟩, fun b o q n _ => ?_, fun b o q _ => ⟨o, kp b o q⟩, fun b zs q => sm b _ q, fun b o u q => sm b _ q, fun b ps q => ⟨#[], by rw [sm b _ q]; simp⟩⟩ fun b u q => ?_⟩
  · have lb : b < s.heap.objs.size := Heap.lt_size q
    have n1 : ¬ b = S := Nat.ne_of_lt (Nat.lt_of_lt_of_le lb lo)
    have n2 : ¬ b ∈ as := fun z => Nat.lt_irrefl _ (Nat.lt_trans (Nat.lt_of_lt_of_le lb lo) (ab b z))
    unfold putP
    rw [if_neg n1, if_neg n2]
    exact n
  · by_cases h1 : b = S
    · subst h1
      rw [eS] at q
      cases q
      refine ⟨by rw [List.length_map]; exact hl, acc.toList, c, by rw [hacc]; exact LiI.vals_refs as, ?_⟩
      rw [Array.toArray_toList]
      exact hS
    · by_cases h2 : b ∈ as
      · obtain ⟨j, hj⟩ := List.mem_iff_getElem?.mp h2
        obtain ⟨x, y, v1, v2, q1, q2, r1, r2, e⟩ := hp j b hj
        rw [eT j b x y hj q1 q2] at q
        cases q
        exact ⟨by show 2 ≤ sizeLine; decide, [v1, v2], .cons r1 (.cons r2 .nil), ⟨_, e, rfl, _, rfl⟩⟩
      · have q2 : H b = some u := by
          unfold putP at q
          rw [if_neg h1, if_neg h2] at q
          exact q
        exact (J.hok b u q2).stay (fun d v _ y => kp d v y) (fun d y => sm d _ y) fun d zs y => sm d _ y
end
def tListZip (K : PySem.W.Frag) (ta : TA) : TE := fun σ H Q => ta σ H fun vs H1 => ∃ (l1 l2 : Addr) (xs ys : List V), vs = [.ref l1, .ref l2] ∧ SqL K H1 l1 xs ∧ SqL K H1 l2 ys ∧ xs.length = ys.length ∧
  ∀ (p : Addr) (ts : List Addr) (H' : Hp), H1 p = none → Same H1 H' → H' p = some (.lst (ts.map V.ref)) → ts.length = xs.length → (∀ (j : Nat) (t : Addr) (x y : V), ts[j]? = some t → xs[j]? = some x → ys[j]? = some y → H' t = some (.tup [x, y])) → (∀ t ∈ ts, H1 t = none) → p ∉ ts → Q (.ref p) H'
theorem pe_listZip {X : Cx} {e1 e2 : Expr} {ta : TA} {p p2 q pos : Pos} (hc : X.calm = true) (hg : Gl X "list") (hm : X.mg "list" = none) (hg2 : Gl X "zip") (hm2 : X.mg "zip" = none) (ha : PA X [e1, e2] ta)
    (hs : starEach [e1, e2] X.env = (false, eval e1 X.env) :: starEach [e2] X.env := by rfl) (hb : (backTo q (starEach [e2] X.env)).any (·.1) = false := by rfl)
    (na : starEach [.Call (.Name "zip" p2) [e1, e2] [] q] X.env = (false, eval (.Call (.Name "zip" p2) [e1, e2] [] q) X.env) :: starEach [] X.env := by rfl) :
    PE X (.Call (.Name "list" p) [.Call (.Name "zip" p2) [e1, e2] [] q] [] pos) (tListZip X.K ta) := by
  refine ⟨fun pins s σ H Q I h => ?_⟩
  refine Call_ (ld_blt I hg hm boot_list ?_)
  refine PyProof.Rows.callWith_type1 (PyProof.Rows.args_cons ?_ na) na rfl
  refine Call_ (ld_blt I hg2 hm2 PyProof.Rows.boot_zip (PyProof.Rows.callWith_type1 (thn (ha.run q pins s σ H _ I h) fun us0 s1 ⟨vs, H1, J, rr, q1⟩ => ?_) hs hb))
  obtain ⟨a, b, xs, ys, ex, hx, hy, hlen, q1⟩ := q1
  subst ex
  cases rr with
  | cons r1 rr =>
    cases rr with
    | cons r2 rr =>
      cases rr
      cases r1
      cases r2
      obtain ⟨vs1, R1, f1, z1⟩ := J.list hx
      obtain ⟨vs2, R2, f2, z2⟩ := J.list hy
      have l1 : xs.length = vs1.length := R1.length
      have l2 : ys.length = vs2.length := R2.length
      have al : a < s1.heap.objs.size := by obtain ⟨_, e, _⟩ := f1.isList; exact Heap.lt_size e
      have bl : b < s1.heap.objs.size := by obtain ⟨_, e, _⟩ := f2.isList; exact Heap.lt_size e
      refine zip_begins2 (begins_list a vs1.toArray) (begins_list b vs2.toArray) f1.isList f2.isList fun g g1 g2 g3 g4 g5 gz kp => ?_
      refine PyProof.Rows.args_nil ?_
      have hh : X.A.handled = none := J.ok.hd hc
      have D1 := Draws.list (prog := X.prog) (w := X.w) (A := X.A.in1.in1.in1) hh s1.heap.objs.size a (Nat.ne_of_lt al) vs1.toArray
      have D2 := Draws.list (prog := X.prog) (w := X.w) (A := X.A.in1.in1.in1) hh (s1.heap.objs.size + 1) b (Nat.ne_of_lt (Nat.lt_succ_of_lt bl)) vs2.toArray
      have k2 : vs2.toArray.size = vs1.toArray.size := by rw [List.size_toArray, List.size_toArray]; omega
      rw [k2] at D2
      have in1 : ∀ c ∈ [s1.heap.objs.size, a], c < g.objs.size := fun c hcm => by
        rw [gz]
        rcases List.mem_cons.mp hcm with e | e
        · rw [e]; exact Nat.lt_add_of_pos_right (by decide)
        · rw [List.mem_singleton.mp e]; exact Nat.lt_of_lt_of_le al (Nat.le_add_right _ _)
      have in2 : ∀ c ∈ [s1.heap.objs.size + 1, b], c < g.objs.size := fun c hcm => by
        rw [gz]
        rcases List.mem_cons.mp hcm with e | e
        · rw [e]; exact Nat.add_lt_add_left (by decide) _
        · rw [List.mem_singleton.mp e]; exact Nat.lt_of_lt_of_le bl (Nat.le_add_right _ _)
      refine lz_call (s := { s1 with heap := g }) (zs_new al bl) D1 D2 (by rw [List.size_toArray, ← l1]; exact z1) g1 g2 g3 ⟨⟨_, g4, rfl, rfl⟩, f1.isList.at fun o e => kp a o e⟩ ⟨⟨_, g5, rfl, rfl⟩, f2.isList.at fun o e => kp b o e⟩ in1 in2 fun g' k acc c as kp2 eS eacc elen M => ?_
      have kp3 : ∀ c o, s1.heap.get? c = some o → g'.get? c = some o := fun c o e => by
        have lc : c < s1.heap.objs.size := Heap.lt_size e
        have ne : ∀ i, c ≠ s1.heap.objs.size + i := fun i => Nat.ne_of_lt (Nat.lt_of_lt_of_le lc (Nat.le_add_right _ _))
        exact kp2 c o (ne 4) (ne 3) (ne 0) (ne 1) (kp c o e)
      have nd : as.Nodup := M.rise.imp fun h => Nat.ne_of_lt h
      have ab : ∀ t ∈ as, g.objs.size < t := fun t ht => (M.above t ht).1
      have la : as.length = xs.length := by rw [elen, List.size_toArray, l1]
      have lo : s1.heap.objs.size ≤ g.objs.size := by rw [gz]; exact Nat.le_add_right _ _
      obtain ⟨sm, e1, e2, J2⟩ := laid_pairs (k := k) (xs := xs) (ys := ys) J kp3 lo eS eacc (by rw [la]; exact z1) nd ab fun j t hj => by
        obtain ⟨v1, v2, y1, y2, e⟩ := M.pairs j t hj
        have hjl : j < xs.length := by rw [← la]; exact (List.getElem?_eq_some_iff.mp hj).1
        have hjl2 : j < ys.length := by omega
        have x1 : xs[j]? = some xs[j] := List.getElem?_eq_getElem hjl
        have x2 : ys[j]? = some ys[j] := List.getElem?_eq_getElem hjl2
        obtain ⟨w1, n1, o1⟩ := R1.get x1
        obtain ⟨w2, n2, o2⟩ := R2.get x2
        have y1' : vs1[j]? = some v1 := by simpa using y1
        have y2' : vs2[j]? = some v2 := by simpa using y2
        have i1 : w1 = v1 := Option.some.inj (n1.symm.trans y1')
        have i2 : w2 = v2 := Option.some.inj (n2.symm.trans y2')
        subst i1 i2
        exact ⟨_, _, _, _, x1, x2, o1, o2, e⟩
      refine ⟨.ref g.objs.size, putP H1 g.objs.size as xs ys, J2, rfl, q1 _ as _ (J.hok.fresh lo) sm e1 la e2 (fun t ht => J.hok.fresh (Nat.le_trans lo (Nat.le_of_lt (ab t ht)))) fun z => Nat.lt_irrefl _ (ab _ z)⟩


end Rf
namespace Rf
open PySem PySem.Spec PyProof.Rows L2
/-! ### while -/
/-- a while, by a word and a measure; what the test leaves: R -/
theorem sq_while {c : TT} {tu tz : TS} {D : Ends} {σ : L2.St} {H : Hp} (W : Nat → L2.St → Hp → Prop) (m0 : Nat) (h0 : W m0 σ H)
    (hs : ∀ m σ' H', W m σ' H' → ∃ R : Bool → Hp → Prop, (∀ Q : Bool → Hp → Prop, (∀ b H1, R b H1 → Q b H1) → c σ' H' Q) ∧
      (∀ H1, R true H1 → tu { D with nx := fun σ2 H2 => ∃ m', m' < m ∧ W m' σ2 H2, ct := fun σ2 H2 => ∃ m', m' < m ∧ W m' σ2 H2, bk := tz D } σ' H1) ∧ (∀ H1, R false H1 → tz D σ' H1)) : tSeq (tWhile c tu) tz D σ H := by
  refine ⟨W, ⟨m0, h0⟩, fun m σ' H' w => ?_⟩
  obtain ⟨R, hc, ht, hf⟩ := hs m σ' H' w
  refine hc _ fun b H1 r => ?_
  cases b with
  | true => exact iteT ⟨_, fun _ _ h => h, ht H1 r⟩
  | false => exact iteF (hf H1 r)
/-- a while that is its block's last -/
theorem last_while {c : TT} {tu : TS} {D : Ends} {σ : L2.St} {H : Hp} (h : tSeq (tWhile c tu) tNext D σ H) : tWhile c tu D σ H := h
/-- if c: .. else ..; the test leaves R -/
theorem if_ifR {c : TT} {t u : TS} {D : Ends} {σ : L2.St} {H : Hp} {p : Prop} [Decidable p] (R : Hp → Prop) (h : ∀ Q : Bool → Hp → Prop, (∀ H', R H' → Q (decide p) H') → c σ H Q) (k1 : p → ∀ H', R H' → t D σ H') (k2 : ¬ p → ∀ H', R H' → u D σ H') : tIfS c t u D σ H := by
  refine h _ fun H' r => ?_
  by_cases e : p
  · rw [decide_eq_true e]
    exact iteT (k1 e H' r)
  · rw [decide_eq_false e]
    exact iteF (k2 e H' r)


end Rf
namespace Rf
open PySem PySem.Spec PyProof.Rows L2
/-! ### while, the test by a walrus -/
/-- a while that names what it tests -/
theorem sq_whileW {c : TTw} {tu tz : TS} {D : Ends} {σ : L2.St} {H : Hp} (W : Nat → L2.St → Hp → Prop) (m0 : Nat) (h0 : W m0 σ H)
    (hs : ∀ m σ' H', W m σ' H' → ∃ R : Bool → L2.St → Hp → Prop, (∀ Q : Bool → L2.St → Hp → Prop, (∀ b σ1 H1, R b σ1 H1 → Q b σ1 H1) → c σ' H' Q) ∧
      (∀ σ1 H1, R true σ1 H1 → tu { D with nx := fun σ2 H2 => ∃ m', m' < m ∧ W m' σ2 H2, ct := fun σ2 H2 => ∃ m', m' < m ∧ W m' σ2 H2, bk := tz D } σ1 H1) ∧ (∀ σ1 H1, R false σ1 H1 → tz D σ1 H1)) : tSeq (tWhileW c tu tNext) tz D σ H := by
  refine ⟨W, ⟨m0, h0⟩, fun m σ' H' w => ?_⟩
  obtain ⟨R, hc, ht, hf⟩ := hs m σ' H' w
  refine hc _ fun b σ1 H1 r => ?_
  cases b with
  | true => exact iteT ⟨_, fun _ _ h => h, ht σ1 H1 r⟩
  | false => exact iteF (hf σ1 H1 r)


end Rf
namespace Rf
open PySem PySem.Spec PyProof.Rows L2
/-! ### data without bools, texts and dicts: == is equality -/
mutual
def clean : PyData → Prop
  | .none => True
  | .int _ => True
  | .list xs => cleanAll xs
  | .tuple xs => cleanAll xs
  | .bool _ => False
  | .str _ => False
  | .dict _ => False
def cleanAll : List PyData → Prop
  | [] => True
  | x :: xs => clean x ∧ cleanAll xs
end
mutual
theorem eqv_iff : ∀ (d e : PyData), clean d → clean e → (PyData.eqv d e = true ↔ d = e)
  | .none, e, _, h => by cases e <;> simp_all [PyData.eqv, clean]
  | .int i, e, _, h => by cases e <;> simp_all [PyData.eqv, clean]
  | .list xs, e, hx, h => by
    cases e with
    | list ys =>
      unfold PyData.eqv
      rw [eqvAll_iff xs ys (by simpa [clean] using hx) (by simpa [clean] using h)]
      exact ⟨fun z => by rw [z], fun z => PyData.list.inj z⟩
    | _ => simp_all [PyData.eqv, clean]
  | .tuple xs, e, hx, h => by
    cases e with
    | tuple ys =>
      unfold PyData.eqv
      rw [eqvAll_iff xs ys (by simpa [clean] using hx) (by simpa [clean] using h)]
      exact ⟨fun z => by rw [z], fun z => PyData.tuple.inj z⟩
    | _ => simp_all [PyData.eqv, clean]
  | .bool _, _, h, _ => by simp [clean] at h
  | .str _, _, h, _ => by simp [clean] at h
  | .dict _, _, h, _ => by simp [clean] at h
theorem eqvAll_iff : ∀ (xs ys : List PyData), cleanAll xs → cleanAll ys → (PyData.eqvAll xs ys = true ↔ xs = ys)
  | [], [], _, _ => by simp [PyData.eqvAll]
  | [], _ :: _, _, _ => by simp [PyData.eqvAll]
  | _ :: _, [], _, _ => by simp [PyData.eqvAll]
  | x :: xs, y :: ys, hx, hy => by
    obtain ⟨h1, h2⟩ := (show clean x ∧ cleanAll xs by simpa [cleanAll] using hx)
    obtain ⟨h3, h4⟩ := (show clean y ∧ cleanAll ys by simpa [cleanAll] using hy)
    unfold PyData.eqvAll
    rw [Bool.and_eq_true, eqv_iff x y h1 h3, eqvAll_iff xs ys h2 h4]
    exact ⟨fun z => by rw [z.1, z.2], fun z => List.cons.inj z⟩
end
mutual
theorem canLay_clean : ∀ (d : PyData), clean d → d.canLay0 = true
  | .none, _ => by simp [PyData.canLay0]
  | .int i, _ => by simp [PyData.canLay0]
  | .list xs, h => by
    unfold PyData.canLay0
    exact canLayAll_clean xs (by simpa [clean] using h)
  | .tuple xs, h => by
    unfold PyData.canLay0
    exact canLayAll_clean xs (by simpa [clean] using h)
  | .bool _, h => by simp [clean] at h
  | .str _, h => by simp [clean] at h
  | .dict _, h => by simp [clean] at h
theorem canLayAll_clean : ∀ (xs : List PyData), cleanAll xs → PyData.canLayAll0 xs = true
  | [], _ => by simp [PyData.canLayAll0]
  | x :: xs, h => by
    obtain ⟨h1, h2⟩ := (show clean x ∧ cleanAll xs by simpa [cleanAll] using h)
    unfold PyData.canLayAll0
    rw [canLay_clean x h1, canLayAll_clean xs h2]
    rfl
end
theorem depthAll_le {n : Nat} : ∀ (xs : List PyData), (∀ x ∈ xs, x.depth ≤ n) → PyData.depthAll xs ≤ n
  | [], _ => by simp [PyData.depthAll]
  | x :: xs, h => by
    unfold PyData.depthAll
    exact Nat.max_le.mpr ⟨h x List.mem_cons_self, depthAll_le xs fun y hy => h y (List.mem_cons_of_mem _ hy)⟩
theorem cleanAll_of : ∀ {xs : List PyData}, (∀ x ∈ xs, clean x) → cleanAll xs
  | [], _ => by simp [cleanAll]
  | x :: xs, h => by
    simp only [cleanAll]
    exact ⟨h x List.mem_cons_self, cleanAll_of fun y hy => h y (List.mem_cons_of_mem _ hy)⟩
/-- d is clean data at most n deep -/
structure Cl (n : Nat) (d : PyData) : Prop where
  c : clean d
  d : d.depth ≤ n
theorem Cl.shaped {n : Nat} {d : PyData} (h : Cl n d) (hn : n ≤ 64) : SeqAt.shaped d = true := by
  unfold SeqAt.shaped
  rw [canLay_clean d h.c, decide_eq_true (Nat.le_trans h.d hn)]
  rfl
theorem cl_int {i : Int} : Cl 0 (.int i) := ⟨by simp [clean], by simp [PyData.depth]⟩
theorem cl_none : Cl 0 .none := ⟨by simp [clean], by simp [PyData.depth]⟩
theorem cl_list {n : Nat} {xs : List PyData} (h : ∀ x ∈ xs, Cl n x) : Cl (n + 1) (.list xs) :=
  ⟨by simpa [clean] using cleanAll_of fun x hx => (h x hx).c, by
    unfold PyData.depth
    exact Nat.succ_le_succ (depthAll_le xs fun x hx => (h x hx).d)⟩
theorem cl_tup {n : Nat} {xs : List PyData} (h : ∀ x ∈ xs, Cl n x) : Cl (n + 1) (.tuple xs) :=
  ⟨by simpa [clean] using cleanAll_of fun x hx => (h x hx).c, by
    unfold PyData.depth
    exact Nat.succ_le_succ (depthAll_le xs fun x hx => (h x hx).d)⟩
theorem cl_ints {l : List Int} : ∀ x ∈ l.map PyData.int, Cl 0 x := fun x hx => by
  obtain ⟨i, _, rfl⟩ := List.mem_map.mp hx
  exact cl_int
def dInts (l : List Int) : PyData := .list (l.map .int)
theorem cl_dInts {l : List Int} : Cl 1 (dInts l) := cl_list cl_ints
theorem dInts_inj {l m : List Int} : dInts l = dInts m ↔ l = m := by
  constructor
  · intro h
    have h2 := PyData.list.inj h
    exact (List.map_inj_right (fun a b z => PyData.int.inj z)).mp h2
  · intro h; rw [h]
theorem dpAll_ints {K : PySem.W.Frag} {H : Hp} : ∀ {l : List Int}, DpAll K H (l.map V.int) (l.map PyData.int)
  | [] => .nil
  | _ :: _ => .cons (.int _) dpAll_ints
theorem dp_ints {K : PySem.W.Frag} {H : Hp} {a : Addr} {l : List Int} (h : SqL K H a (l.map V.int)) : Dp K H (.ref a) (dInts l) := .lst h dpAll_ints
theorem eqv_ints {l m : List Int} : PyData.eqv (dInts l) (dInts m) = decide (l = m) := by
  by_cases h : l = m
  · rw [decide_eq_true h, h]
    exact (eqv_iff _ _ cl_dInts.c cl_dInts.c).mpr rfl
  · rw [decide_eq_false h]
    cases e : PyData.eqv (dInts l) (dInts m) with
    | false => rfl
    | true => exact absurd (dInts_inj.mp ((eqv_iff _ _ cl_dInts.c cl_dInts.c).mp e)) h
theorem sh_ints {l : List Int} : SeqAt.shaped (dInts l) = true := cl_dInts.shaped (by decide)
theorem eqv_self {n : Nat} {d : PyData} (h : Cl n d) : PyData.eqv d d = true := (eqv_iff d d h.c h.c).mpr rfl
theorem neqv_self {n : Nat} {d : PyData} (h : Cl n d) : (!PyData.eqv d d) = false := by
  rw [eqv_self h]
  rfl
/-- xs[:-1] of a list with one more item -/
theorem cut_last (xs : List V) (y : V) : cutV (xs ++ [y]) none (some (-1)) = xs := by
  have hl : (xs ++ [y]).length = xs.length + 1 := by simp
  unfold cutV
  rw [hl, HT.sIx_none]
  have e : HT.sIx (xs.length + 1) (xs.length + 1) (some (-1)) = xs.length := by
    simp [HT.sIx]
    omega
  rw [e, List.drop_zero, Nat.sub_zero]
  exact List.take_left' rfl


end Rf
namespace Rf
open PySem PySem.Spec PyProof.Rows L2
/-! ### sorted of pairs whose first part is a tuple of numbers -/
def IsNest (h : Heap) (v : Value) (ns : List Int) (k : Int) : Prop := ∃ (a : Addr) (o : Obj) (t : Tok) (n : Nat) (b : Addr) (o2 : Obj) (its : Array Value) (n2 : Nat), v = .ref a ∧ h.get? a = some o ∧ o.cls = .type "tuple" ∧ o.data = .seq #[.ref b, .int k t] n ∧ h.get? b = some o2 ∧ o2.cls = .type "tuple" ∧ o2.data = .seq its n2 ∧ PyProof.Rows.IntsAre its.toList ns
theorem IsNest.keeps {h h' : Heap} {v : Value} {ns : List Int} {k : Int} (p : IsNest h v ns k) (q : ∀ b o, h.get? b = some o → o.cls = .type "tuple" → h'.get? b = some o) : IsNest h' v ns k := by
  obtain ⟨a, o, t, n, b, o2, its, n2, e, ho, hc, hd, hb, hc2, hd2, hi⟩ := p
  exact ⟨a, o, t, n, b, o2, its, n2, e, q _ _ ho hc, hc, hd, q _ _ hb hc2, hc2, hd2, hi⟩
theorem readsAll_ints {h : Heap} : ∀ {vs : List Value} {ns : List Int}, PyProof.Rows.IntsAre vs ns → ReadsAll h vs (ns.map PyData.int) []
  | _, _, .nil => .nil
  | _, _, .cons i t r => .cons (as := []) (bs := []) (.int i t) (readsAll_ints r)
theorem firsts_nest {h : Heap} : ∀ {vs : List Value}, (∀ v ∈ vs, ∃ ns k, IsNest h v ns k) → ∃ fs : List Value, PySem.W.KatTups h vs fs ∧ fs.length = vs.length ∧ ∀ f ∈ fs, ∃ b o, f = Value.ref b ∧ h.get? b = some o ∧ o.cls = .type "tuple"
  | [], _ => ⟨[], PySem.W.KatTups.nil, rfl, fun _ hm => by simp at hm⟩
  | v :: vs, hp => by
    obtain ⟨fs, h1, h2, h3⟩ := firsts_nest (vs := vs) fun v' hm => hp v' (List.mem_cons_of_mem _ hm)
    obtain ⟨ns, k, a, o, t, n, b, o2, its, n2, e, ho, hc, hd, hb, hc2, hd2, hi⟩ := hp v List.mem_cons_self
    subst e
    refine ⟨.ref b :: fs, PySem.W.KatTups.cons ho hc hd rfl h1, by rw [List.length_cons, List.length_cons, h2], fun f hm => ?_⟩
    rcases List.mem_cons.mp hm with rfl | hm
    · exact ⟨b, o2, rfl, hb, hc2⟩
    · exact h3 f hm
def lexN (x y : List Int × Int) : Bool := if x.1 = y.1 then decide (x.2 < y.2) else HT.lexLt x.1 y.1
theorem eqv_tups {l m : List Int} : PyData.eqv (.tuple (l.map .int)) (.tuple (m.map .int)) = decide (l = m) := by
  have c1 : clean (.tuple (l.map .int)) := (cl_tup (n := 0) cl_ints).c
  have c2 : clean (.tuple (m.map .int)) := (cl_tup (n := 0) cl_ints).c
  have inj : (PyData.tuple (l.map .int) = PyData.tuple (m.map .int)) ↔ l = m := ⟨fun z => (List.map_inj_right (fun a b z => PyData.int.inj z)).mp (PyData.tuple.inj z), fun z => by rw [z]⟩
  by_cases h : l = m
  · rw [decide_eq_true h]
    exact (eqv_iff _ _ c1 c2).mpr (inj.mpr h)
  · rw [decide_eq_false h]
    cases e : PyData.eqv (.tuple (l.map .int)) (.tuple (m.map .int)) with
    | false => rfl
    | true => exact absurd (inj.mp ((eqv_iff _ _ c1 c2).mp e)) h
section
variable {prog : Program} {w : World} {A : Around} {E : Value → Shared → Prop} {s : Shared}
theorem nest_cmp {vs : List Value} {kn : Value → List Int × Int} {cd : Value → Int} (hp : ∀ v ∈ vs, IsNest s.heap v (kn v).1 (kn v).2) (hcd : ∀ v ∈ vs, ∀ u ∈ vs, lexN (kn v) (kn u) = decide (cd v < cd u)) (hu : A.units + 8 < cLine) : SrtO.Cmp prog w A s (tuples' false) (fun p => p.1 ∈ vs) (SrtO.lt2 fun v u => decide (cd v < cd u)) := by
  intro p q hm hm'
  have h1 := hp _ hm
  have h2 := hp _ hm'
  have hcc := hcd _ hm _ hm'
  show wpAny (model prog w) A (keyLt' (tuples' false) p.1 q.1) (fun r s' => s' = s ∧ r = decide (cd p.1 < cd q.1)) (fun _ _ => False) s
  rw [← hcc]
  clear hcc
  unfold lexN
  generalize (kn p.1).1 = ns at h1 ⊢
  generalize (kn p.1).2 = y at h1 ⊢
  generalize (kn q.1).1 = ms at h2 ⊢
  generalize (kn q.1).2 = y' at h2 ⊢
  obtain ⟨a, o, t, n, b, o2, its, n2, e, ho, hc, hd, hb, hc2, hd2, hi⟩ := h1
  obtain ⟨a', o', t', n', b', o2', its', n2', e', ho', hc', hd', hb', hc2', hd2', hi'⟩ := h2
  rw [e, e']
  refine PySem.W.kat_lt ho hd ho' hd' ?_
  show PySem.W.KatLex prog w A false (decide (2 < 2)) _ [(.ref b, .ref b'), (.int y t, .int y' t')] 0 s
  have l1 : (PyData.tuple (ns.map .int)).canLay0 = true := canLay_clean _ (cl_tup (n := 0) cl_ints).c
  have l2 : (PyData.tuple (ms.map .int)).canLay0 = true := canLay_clean _ (cl_tup (n := 0) cl_ints).c
  have d1 : (PyData.tuple (ns.map .int)).depth ≤ 1 := (cl_tup (n := 0) cl_ints).d
  refine PySem.W.kat_cons (PySem.SeqAt.eqAt_reads (.tuple (ns.map .int)) (.tuple (ms.map .int)) A s _ _ [] [] (.tuple hb hc2 hd2 (readsAll_ints hi)) (.tuple hb' hc2' hd2' (readsAll_ints hi')) l1 l2 (by omega) prog w _ _ ?_)
  rw [eqv_tups]
  refine PySem.W.kat_go (fun e1 => ?_) (fun e1 => ?_)
  · have ex : ns = ms := of_decide_eq_true e1
    refine PySem.W.kat_yes (PySem.W.kat_cons (SeqAt.EqAt.int_int y t y' t' prog w _ _ ?_))
    refine PySem.W.kat_go (fun e2 => ?_) (fun e2 => ?_)
    · have ey : y = y' := by simpa using e2
      have e3 : (if ns = ms then decide (y < y') else HT.lexLt ns ms) = false := by
        rw [if_pos ex, ey]
        exact decide_eq_false (Int.lt_irrefl _)
      exact PySem.W.kat_yes (PySem.W.kat_nil ⟨rfl, e3.symm⟩)
    · have e3 : (if ns = ms then decide (y < y') else HT.lexLt ns ms) = decide (y < y') := if_pos ex
      refine PySem.W.kat_no (PySem.W.kat_one _ _ (PyProof.Rows.lt_int ?_))
      exact (show s = s ∧ decide (y < y') = (if ns = ms then decide (y < y') else HT.lexLt ns ms) from ⟨rfl, e3.symm⟩)
  · have ex : ¬ ns = ms := of_decide_eq_false e1
    have e3 : (if ns = ms then decide (y < y') else HT.lexLt ns ms) = HT.lexLt ns ms := if_neg ex
    refine PySem.W.kat_no (PySem.W.kat_one _ _ (HT.lt_tupInts ⟨o2, hb, hc2, n2, hd2⟩ ⟨o2', hb', hc2', n2', hd2'⟩ hi hi' (by omega) ?_))
    exact (show s = s ∧ HT.lexLt ns ms = (if ns = ms then decide (y < y') else HT.lexLt ns ms) from ⟨rfl, e3.symm⟩)
theorem nest_sortable {a : Addr} {vs : List Value} {kn : Value → List Int × Int} {cd : Value → Int} (h0 : 0 < vs.length) (hp : ∀ v ∈ vs, IsNest s.heap v (kn v).1 (kn v).2) (hcd : ∀ v ∈ vs, ∀ u ∈ vs, lexN (kn v) (kn u) = decide (cd v < cd u)) (hu : A.units + 8 < cLine) (ha : ∀ o, s.heap.get? a = some o → o.cls ≠ .type "tuple") : SrtO.SortableO prog w A s a vs fun v u => decide (cd v < cd u) := by
  intro h' keep
  have hp' : ∀ v ∈ vs, IsNest h' v (kn v).1 (kn v).2 := fun v hm => (hp v hm).keeps fun b o e c => keep b o (fun z => by subst z; exact ha o e c) e
  obtain ⟨fs, h1, h2, h3⟩ := firsts_nest fun v hm => ⟨_, _, hp' v hm⟩
  refine ⟨tuples' false, fun Q E hq => ?_, nest_cmp hp' hcd hu⟩
  refine PySem.W.kat_kind (T := .type "tuple") h1 (by omega) (fun f hm => ?_) (by rfl) ?_
  · obtain ⟨b, o, rfl, hb, hc⟩ := h3 f hm
    exact fun A Q E s k q => wpAny_typeOf_ref (k _ _ hb) (by rw [hc]; exact q)
  · have e : (Value.type "tuple" != Value.type "tuple") = false := by first | decide +kernel | rfl | decide
    rw [e]
    exact hq
theorem swo_code (cd : Value → Int) : SrtO.Swo fun v u => decide (cd v < cd u) := by
  refine ⟨fun x y h => ?_, fun x y z h1 h2 => ?_⟩
  · have := of_decide_eq_true h
    exact decide_eq_false (by omega)
  · have := of_decide_eq_false h1
    have := of_decide_eq_false h2
    exact decide_eq_false (by omega)
theorem sorted_nest {l : Addr} {vs : List Value} {kn : Value → List Int × Int} {cd : Value → Int} {Q : Value → Shared → Prop} (hl : s.heap.IsList l vs.toArray) (hz : vs.length ≤ sizeLine) (hp : ∀ v ∈ vs, IsNest s.heap v (kn v).1 (kn v).2) (hcd : ∀ v ∈ vs, ∀ u ∈ vs, lexN (kn v) (kn u) = decide (cd v < cd u)) (hu : A.units + 64 < cLine)
    (h : ∀ (h' : Heap) (d : Addr) (out : List Value), out.Pairwise (fun v u => cd v ≤ cd u) → out.Perm vs → (∀ b o, s.heap.get? b = some o → h'.get? b = some o) → s.heap.objs.size ≤ d → (∃ n, h'.get? d = some (seqObj "list" out.toArray n)) → Q (.ref d) { s with heap := h' }) :
    wpAny (model prog w) A (call (.builtin "sorted") [.ref l]) Q E s := by
  refine SrtO.sorted_ord (swo_code cd) hl hz (fun h2 h₁ a ha kk => ?_) fun out hs hb => ?_
  · refine nest_sortable (s := { s with heap := h₁ }) (by omega) (fun v hm => (hp v hm).keeps fun b o e _ => (kk b o e).2) hcd ?_ fun o e => ?_
    · show A.units + 1 + 1 + 8 < cLine
      omega
    · have e' : some o = some (seqObj "list" vs.toArray 0) := e.symm.trans ha
      cases e'
      intro c
      exact absurd (Value.type.inj c) (by decide)
  · exact h _ _ out (List.Pairwise.imp (fun {x y} z => by have := of_decide_eq_false z; omega) hs) hb.perm (fun b o e => sortedAll_old e) (Nat.le_succ _) (sortedAll_at s.heap vs out.toArray)
end
/-- sorted(xs), xs a list of pairs (a tuple of numbers, a number), ordered as cd says -/
def rSortedN (K : PySem.W.Frag) : List V → Hp → VK → Prop := fun vs H Q => ∃ (a : Addr) (xs : List V) (kn : V → List Int × Int) (cd : V → Int), vs = [V.ref a] ∧ SqL K H a xs ∧ (∀ x ∈ xs, ∃ t b, x = V.ref t ∧ H t = some (.tup [.ref b, .int (kn x).2]) ∧ H b = some (.tup ((kn x).1.map V.int))) ∧
  (∀ x ∈ xs, ∀ y ∈ xs, lexN (kn x) (kn y) = decide (cd x < cd y)) ∧ ∀ ys p, ys.Pairwise (fun x y => cd x ≤ cd y) → ys.Perm xs → H p = none → Q (.ref p) (upd H p (.lst ys))
theorem cr_sortedN {X : Cx} (hu : X.A.units + 64 < cLine) : CallR X (.builtin "sorted") (rSortedN X.K) := by
  intro pins s σ H vs us Q I r h
  obtain ⟨a, xs, kn, cd, rfl, hs, hx, hcd, q⟩ := h
  obtain ⟨its, rv, hl, hz⟩ := I.list hs
  obtain ⟨u, rfl, ru⟩ := vals1 r
  obtain rfl : u = Value.ref a := ru
  obtain ⟨e1, e2⟩ := bkV_refs rv fun x m => by
    obtain ⟨t, b, e, _⟩ := hx x m
    exact ⟨t, e⟩
  have hmem : ∀ v ∈ its, bkV v ∈ xs := fun v hv => by
    rw [e1]
    exact List.mem_map.mpr ⟨_, hv, rfl⟩
  refine sorted_nest (kn := fun u => kn (bkV u)) (cd := fun u => cd (bkV u)) hl.isList (by rw [← rv.length]; exact hz) (fun v hv => ?_) (fun v hv u hu => hcd _ (hmem v hv) _ (hmem u hu)) hu fun h' d out h1 h2 kp hd hn => ?_
  · obtain ⟨t, rfl⟩ := e2 v hv
    obtain ⟨t', b, e, ht, hb⟩ := hx _ (hmem _ hv)
    cases e
    obtain ⟨_, its2, r2, o, ho, hc, n, hd⟩ := I.hok _ _ ht
    obtain ⟨u1, u2, rfl, ri, rj⟩ := vals2 r2
    obtain ⟨t2, rfl⟩ := rj
    cases ri
    obtain ⟨_, its3, r3, o3, ho3, hc3, n3, hd3⟩ := I.hok _ _ hb
    exact ⟨t, o, t2, n, b, o3, _, n3, rfl, ho, hc, hd, ho3, hc3, hd3, by simpa using r3.ints⟩
  · have h3 : ∀ u ∈ out, ∃ a, u = Value.ref a := fun u hu => e2 u (h2.mem_iff.mp hu)
    obtain ⟨n, hn⟩ := hn
    have hb : (out.map bkV).Perm xs := by
      rw [e1]
      exact h2.map bkV
    refine ⟨.ref d, upd H d (.lst (out.map bkV)), I.laid (t' := s.toks) kp hd ⟨?_, out, n, bkV_vals h3, hn⟩, rfl, q _ d (List.pairwise_map.mpr h1) hb (I.hok.fresh hd)⟩
    rw [hb.length_eq]
    exact hz


end Rf
namespace Rf
open PySem PySem.Spec PyProof.Rows L2
/-! ### a book whose claims stand in another order -/
def ixP (p : List Nat) (n : Nat) : Nat := p.getD n 0
theorem ixP_get {p : List Nat} {n : Nat} (h : n < p.length) : p[n]? = some (ixP p n) := by
  unfold ixP
  rw [List.getD_eq_getElem?_getD, List.getElem?_eq_getElem h]
  rfl
def twinOf (B : Bk) (p : List Nat) : Bk := ⟨B.cash, p.map B.clm⟩
structure Twin (B : Bk) (p : List Nat) : Prop where
  perm : p.Perm (List.range B.claims.length)
  mono : ∀ i j, i < j → j < p.length → (B.clm (ixP p i)).d = (B.clm (ixP p j)).d → (B.clm (ixP p i)).r = (B.clm (ixP p j)).r → ixP p i < ixP p j
section
variable {B : Bk} {p : List Nat}
theorem Twin.len (T : Twin B p) : p.length = B.claims.length := by rw [T.perm.length_eq, List.length_range]
theorem Twin.clen (T : Twin B p) : (twinOf B p).claims.length = B.claims.length := by
  show (p.map B.clm).length = _
  rw [List.length_map, T.len]
theorem Twin.lt (T : Twin B p) {n : Nat} (h : n < B.claims.length) : ixP p n < B.claims.length := List.mem_range.mp (T.perm.mem_iff.mp (List.mem_of_getElem? (ixP_get (by rw [T.len]; exact h))))
theorem Twin.clm (T : Twin B p) {n : Nat} (h : n < B.claims.length) : (twinOf B p).clm n = B.clm (ixP p n) := Bk.clm_of (by
  show (p.map B.clm)[n]? = _
  rw [List.getElem?_map, ixP_get (by rw [T.len]; exact h)]
  rfl)
theorem Twin.good (T : Twin B p) (G : Good B) : Good (twinOf B p) := by
  refine ⟨G.n0, G.n1, G.cash, by rw [T.clen]; exact G.m1, fun q hq => ?_⟩
  obtain ⟨k, hk, rfl⟩ := List.mem_map.mp (show q ∈ p.map B.clm from hq)
  exact G.clm (List.mem_range.mp (T.perm.mem_iff.mp hk))
theorem Twin.inj (T : Twin B p) {i j : Nat} (hi : i < B.claims.length) (hj : j < B.claims.length) (e : ixP p i = ixP p j) : i = j := by
  have hnd : p.Nodup := T.perm.nodup_iff.mpr List.nodup_range
  have hi' : i < p.length := by rw [T.len]; exact hi
  have hj' : j < p.length := by rw [T.len]; exact hj
  have a := ixP_get hi'
  have b := ixP_get hj'
  rw [List.getElem?_eq_getElem hi'] at a
  rw [List.getElem?_eq_getElem hj', ← e, ← a] at b
  exact ((List.getElem_inj hnd).mp (Option.some.inj b)).symm
theorem Twin.onto (T : Twin B p) {k : Nat} (h : k < B.claims.length) : ∃ n, n < B.claims.length ∧ ixP p n = k := by
  obtain ⟨n, hn, e⟩ := List.getElem_of_mem (T.perm.mem_iff.mpr (List.mem_range.mpr h))
  refine ⟨n, by rw [← T.len]; exact hn, ?_⟩
  have a := ixP_get hn
  rw [List.getElem?_eq_getElem hn, e] at a
  exact (Option.some.inj a).symm
theorem twin_houses : Rf.houses (twinOf B p) = Rf.houses B := rfl
theorem Twin.emb (T : Twin B p) (G : Good B) : Emb (twinOf B p) B id (ixP p) := by
  refine Emb.of (T.good G) (fun x y _ _ e => e) (fun x hx => hx) (fun n hn => T.lt (by rw [T.clen] at hn; exact hn)) (fun n hn => ?_) (fun k hk x _ _ => ?_) (fun i j h hj hd hr => ?_) (fun i j hi hj e => T.inj (by rw [T.clen] at hi; exact hi) (by rw [T.clen] at hj; exact hj) e) (fun x _ => rfl)
  · rw [T.clen] at hn
    rw [T.clm hn]
    rfl
  · obtain ⟨n, hn, e⟩ := T.onto hk
    exact ⟨n, by rw [T.clen]; exact hn, e⟩
  · rw [T.clen] at hj
    rw [T.clm (by omega), T.clm hj] at hd hr
    exact T.mono i j h (by rw [T.len]; exact hj) hd hr
/-- payments of the book, in the twin's order -/
def byP (p : List Nat) (P : List Int) : List Int := p.map (g P)
theorem Twin.rel (T : Twin B p) {P Q : List Int} (R : ERel (twinOf B p) B (ixP p) P Q) : Q = byP p P := by
  have hl : Q.length = p.length := by rw [R.lq, T.clen, T.len]
  refine ext_g (by rw [hl]; exact (List.length_map _).symm) fun n hn => ?_
  have hn' : n < p.length := by rw [← hl]; exact hn
  rw [← R.at_ n (by rw [T.clen, ← T.len]; exact hn')]
  have e : (byP p P)[n]? = some (g P (ixP p n)) := by
    unfold byP
    rw [List.getElem?_map, ixP_get hn']
    rfl
  exact (g_of e).symm
theorem Twin.best (T : Twin B p) (G : Good B) : bestOf (twinOf B p) = byP p (bestOf B) := T.rel ((T.emb G).best (T.good G) G)
theorem Twin.worst (T : Twin B p) (G : Good B) : worstOf (twinOf B p) = byP p (worstOf B) := T.rel ((T.emb G).worst (T.good G) G)
theorem Twin.failing (T : Twin B p) (G : Good B) : failingOf (twinOf B p) = failingOf B := by
  unfold failingOf
  refine List.filter_congr fun x hx => decide_eq_decide.mpr ?_
  exact ((T.emb G).fails (T.good G) G hx).symm
theorem Twin.wave (T : Twin B p) (G : Good B) (F : List Int) : waveOf (twinOf B p) F = waveOf B F := by
  unfold waveOf
  refine List.filter_congr fun x hx => ?_
  have E := T.emb G
  have e1 := E.means (E.top (T.good G) G (hs := F) (hs' := F) fun _ _ => Iff.rfl) hx
  have e2 := E.owed (T.good G) G hx
  show _ = (decide (x ∉ F) && decide (meansOf B (id x) (topIn B F) < owedIn B (id x)))
  rw [e1, e2]
theorem Twin.wavesFrom (T : Twin B p) (G : Good B) : ∀ (f : Nat) (F : List Int), Rf.wavesFrom (twinOf B p) f F = Rf.wavesFrom B f F
  | 0, _ => rfl
  | f + 1, F => by
    unfold Rf.wavesFrom
    rw [T.wave G, T.wavesFrom G f]
theorem Twin.waves (T : Twin B p) (G : Good B) : wavesOf (twinOf B p) = wavesOf B := T.wavesFrom G _ _
theorem Twin.coin (T : Twin B p) (G : Good B) {x : Int} (hx : x ∈ Rf.houses B) {n : Nat} (hn : n < B.claims.length) (hd : ((twinOf B p).clm n).d = x) (m : Int) : coinOf B x m (ixP p n) = coinOf (twinOf B p) x m n := (T.emb G).coin (T.good G) hx (by rw [T.clen]; exact hn) hd m
theorem Twin.owes_len (T : Twin B p) (x : Int) : (owes (twinOf B p) x).length = (owes B x).length := by
  have h1 : (owes B x).Perm ((owes (twinOf B p) x).map (ixP p)) := by
    have nd1 : (owes B x).Nodup := nodup_filter_range _ _
    have nd2 : ((owes (twinOf B p) x).map (ixP p)).Nodup := by
      refine List.Pairwise.map (R := fun a b => ixP p a ≠ ixP p b) _ (fun a b h => h) ?_
      refine List.Pairwise.imp_of_mem (R := fun a b => a ≠ b) (fun {a b} ha hb hne z => hne ?_) (nodup_filter_range _ _ : (owes (twinOf B p) x).Nodup)
      have ha' := mem_owesUp.mp ha
      have hb' := mem_owesUp.mp hb
      rw [T.clen] at ha' hb'
      exact T.inj ha'.1 hb'.1 z
    refine (List.perm_ext_iff_of_nodup nd1 nd2).mpr fun k => ?_
    rw [List.mem_map]
    constructor
    · intro hk
      obtain ⟨k1, k2⟩ := mem_owesUp.mp hk
      obtain ⟨n, hn, e⟩ := T.onto k1
      refine ⟨n, mem_owesUp.mpr ⟨by rw [T.clen]; exact hn, ?_⟩, e⟩
      rw [T.clm hn, e]
      exact k2
    · rintro ⟨n, hn, rfl⟩
      obtain ⟨n1, n2⟩ := mem_owesUp.mp hn
      rw [T.clen] at n1
      rw [T.clm n1] at n2
      exact mem_owesUp.mpr ⟨T.lt n1, n2⟩
  rw [h1.length_eq, List.length_map]
theorem byP_get {P : List Int} {j : Nat} {k : Nat} (h : p[j]? = some k) : (byP p P)[j]? = some (g P k) := by
  unfold byP
  rw [List.getElem?_map, h]
  rfl
end
/-! the order that the law sorts by: a rank, a rank from the greatest, a debtor's rank -/
def keyW (way : Nat) (q : Clm) : List Int := if way = 0 then [q.r] else if way = 1 then [0 - q.r] else [q.d, q.r]
def codeW (way : Nat) (q : Clm) (k : Nat) : Int := (if way = 0 then q.r else if way = 1 then 0 - q.r else q.d * 10 + q.r) * 100 + k
theorem code_lt {n : Int} {way : Nat} {q q' : Clm} {k k' : Nat} (c : GoodC n q) (c' : GoodC n q') (hk : k < 24) (hk' : k' < 24) : lexN (keyW way q, (k : Int)) (keyW way q', (k' : Int)) = decide (codeW way q k < codeW way q' k') := by
  have r0 := c.r0
  have r1 := c.r1
  have r0' := c'.r0
  have r1' := c'.r1
  unfold lexN keyW codeW
  dsimp only
  by_cases w0 : way = 0
  · rw [if_pos w0, if_pos w0, if_pos w0, if_pos w0]
    by_cases e : q.r = q'.r
    · rw [if_pos (by rw [e])]
      exact decide_eq_decide.mpr (by omega)
    · rw [if_neg (fun z => e (List.cons.inj z).1), HT.lexLt_cons, if_neg e]
      exact decide_eq_decide.mpr (by omega)
  rw [if_neg w0, if_neg w0, if_neg w0, if_neg w0]
  by_cases w1 : way = 1
  · rw [if_pos w1, if_pos w1, if_pos w1, if_pos w1]
    by_cases e : q.r = q'.r
    · rw [if_pos (by rw [e])]
      exact decide_eq_decide.mpr (by omega)
    · have e' : ¬ (0 - q.r = 0 - q'.r) := by omega
      rw [if_neg (fun z => e' (List.cons.inj z).1), HT.lexLt_cons, if_neg e']
      exact decide_eq_decide.mpr (by omega)
  rw [if_neg w1, if_neg w1, if_neg w1, if_neg w1]
  by_cases e : q.d = q'.d
  · by_cases e2 : q.r = q'.r
    · rw [if_pos (by rw [e, e2])]
      exact decide_eq_decide.mpr (by omega)
    · rw [if_neg (fun z => e2 (List.cons.inj (List.cons.inj z).2).1), HT.lexLt_cons, if_pos e, HT.lexLt_cons, if_neg e2]
      exact decide_eq_decide.mpr (by omega)
  · rw [if_neg (fun z => e (List.cons.inj z).1), HT.lexLt_cons, if_neg e]
    exact decide_eq_decide.mpr (by omega)
theorem code_mono {way : Nat} {q q' : Clm} {k k' : Nat} (hd : q.d = q'.d) (hr : q.r = q'.r) (h : codeW way q k ≤ codeW way q' k') : k ≤ k' := by
  unfold codeW at h
  rw [hd, hr] at h
  omega
/-- numbers in a row that rises so are a twin's -/
theorem twin_of {B : Bk} {way : Nat} {p : List Nat} (hp : p.Perm (List.range B.claims.length)) (hs : p.Pairwise fun i j => codeW way (B.clm i) i ≤ codeW way (B.clm j) j) : Twin B p := by
  have hnd : p.Nodup := hp.nodup_iff.mpr List.nodup_range
  refine ⟨hp, fun i j hij hj hd hr => ?_⟩
  have hi : i < p.length := by omega
  have e1 : p[i] = ixP p i := by
    have := ixP_get hi
    rw [List.getElem?_eq_getElem hi] at this
    exact Option.some.inj this
  have e2 : p[j] = ixP p j := by
    have := ixP_get hj
    rw [List.getElem?_eq_getElem hj] at this
    exact Option.some.inj this
  have h1 := List.pairwise_iff_getElem.mp hs i j hi hj hij
  have h2 := List.pairwise_iff_getElem.mp hnd i j hi hj hij
  rw [e1, e2] at h1 h2
  have h3 := code_mono hd hr h1
  omega


end Rf
namespace Rf
open PySem PySem.Spec PyProof.Rows L2
/-! ### the law's draws (by int): any number of the range may come -/
structure RngAt (H : Hp) (h c : Addr) : Prop where
  ne : h ≠ c
  at_ : ∃ (x p : Int) (cells : List Int), H h = some (.lst [.int x, .ref c, .int p]) ∧ H c = some (.lst (cells.map V.int)) ∧ 0 ≤ x ∧ x < 2147483647 ∧ 0 ≤ p ∧ cells.length ≤ 63
def isHC (h c : Addr) (b : Addr) : Prop := b = h ∨ b = c
theorem RngAt.keep {H H' : Hp} {h c : Addr} (R : RngAt H h c) (e1 : H' h = H h) (e2 : H' c = H c) : RngAt H' h c := by
  obtain ⟨ne, x, p, cells, h1, h2, r⟩ := R
  exact ⟨ne, x, p, cells, e1.trans h1, e2.trans h2, r⟩
theorem RngAt.same {H H' : Hp} {h c : Addr} (R : RngAt H h c) (e : Same H H') : RngAt H' h c := by
  obtain ⟨ne, x, p, cells, h1, h2, r⟩ := R
  exact ⟨ne, x, p, cells, e _ _ h1, e _ _ h2, r⟩
theorem RngAt.off {S : Addr → Prop} {H H' : Hp} {h c : Addr} (R : RngAt H h c) (e : Off S H H') (n1 : ¬ S h) (n2 : ¬ S c) : RngAt H' h c := by
  obtain ⟨ne, x, p, cells, h1, h2, r⟩ := R
  exact ⟨ne, x, p, cells, e _ _ h1 n1, e _ _ h2 n2, r⟩
def spNext : Sp := fun vs H Q _ => ∃ (h c : Addr) (m : Int), vs = [.ref h, .int m] ∧ RngAt H h c ∧ 0 < m ∧ m < 1073741824 ∧
  ∀ (r : Int) (H' : Hp), 0 ≤ r → r < m → RngAt H' h c → Off (isHC h c) H H' → Q (.int r) H'
theorem Off.hc {H H1 H' : Hp} {h c b : Addr} {o : HO} (e : Off (isHC h c) H H') (hb : b = h ∨ b = c) : Off (isHC h c) H (upd H' b o) := fun a u q n => by
  have : a ≠ b := fun z => n (by rw [z]; exact hb)
  rw [upd_ne this]
  exact e a u q n
section
variable {P : Program} {w : World} {K : PySem.W.Frag} {mg : Str → Option Value} {base : Heap}
theorem sc_next : FnScope ["_law_h", "_law_many", "_law_at", "_law_cell"] ["_law_h", "_law_many"] (defScope s_next) := ⟨rfl, rfl, rfl, by decide +kernel, rfl, by decide +kernel, by decide +kernel⟩
theorem ok_next {f : Addr} {fd : FuncData} (D : DefAt K mg "_law_next" s_next ["_law_h", "_law_many"] f fd) (m_max : mg "max" = none) (m_len : mg "len" = none) (m_int : mg "int" = none := by assumption) : FnOk P w K mg base CX0 1 f fd ["_law_h", "_law_many"] spNext := by
  refine D.F.ok sc_next (fun vs H Q E h => ?_) (fun cdv A outer s H vs Q E hr h => ?_)
  · obtain ⟨h, c, m, rfl, _⟩ := h
    rfl
  · obtain ⟨h, c, m, rfl, R, m0, m1, k⟩ := h
    obtain ⟨ne, x, p, cells, e1, e2, x0, x1, p0, hl⟩ := R
    have hlen : (cells.map V.int).length = cells.length := List.length_map _
    refine ⟨_, pss_cons (ps_set (i := 2) sc_next.nd rfl (.inl rfl) (pe_op op_mod (pe_ix (r := rIxL K) ix_list (pv 0) pe_int (fun _ _ => rfl)) (pe_callB (call_max2 rfl) (by rfl) m_max (by decide +kernel) (pa_cons pe_int (pa_cons (pe_callB (r := rLen K) call_len (by rfl) m_len (by decide +kernel) (pa_cons (pe_ix (r := rIxL K) ix_list (pv 0) pe_int (fun _ _ => rfl)) pa_nil)) pa_nil)))))
        (pss_cons (ps_set (i := 3) sc_next.nd rfl (.inl rfl) (pe_ifExp (pt_cmpR (op_neD hr.units) (pe_ix (r := rIxL K) ix_list (pv 0) pe_int (fun _ _ => rfl)) (pe_lst pa_nil) (nomark _)) (pe_ix (r := rIxL K) ix_list (pe_ix (r := rIxL K) ix_list (pv 0) pe_int (fun _ _ => rfl)) (pv 2) (fun _ _ => rfl)) pe_int))
        (pss_cons (ps_if (pt_cmpR op_ge (pv 3) (pe_op op_pow pe_int pe_int) (nomark _)) (pss_cons (ps_asg (pe_op op_fdiv (pv 3) (pv 1)) (pg_sub (pe_ix (r := rIxL K) ix_list (pv 0) pe_int (fun _ _ => rfl)) (pv 2) set_list))
          (pss_one (ps_ret (pe_op op_mod (pe_callTy call_int1 (by rfl) m_int (by decide +kernel) (pa_cons (pv 3) pa_nil)) (pv 1))))) pss_nil)
        (pss_cons (ps_asg (pe_op op_mod (pe_callTy call_int1 (by rfl) m_int (by decide +kernel) (pa_cons (pe_op op_add (pe_op op_add (pe_op op_mul (pe_ix (r := rIxL K) ix_list (pv 0) pe_int (fun _ _ => rfl)) pe_int) (pe_op op_mul (pv 3) pe_int)) pe_int) pa_nil)) pe_int) (pg_sub (pv 0) pe_int set_list))
        (pss_cons (ps_asg (pe_op op_add (pe_ix (r := rIxL K) ix_list (pv 0) pe_int (fun _ _ => rfl)) pe_int) (pg_sub (pv 0) pe_int set_list))
        (pss_one (ps_ret (pe_op op_mod (pe_callTy call_int1 (by rfl) m_int (by decide +kernel) (pa_cons (pe_op op_fdiv (pe_ix (r := rIxL K) ix_list (pv 0) pe_int (fun _ _ => rfl)) pe_int) pa_nil)) (pv 1)))))))), ?_⟩
    -- at
    have q : (0 : Int) < (if (((cells.map V.int).length : Nat) : Int) > 1 then (((cells.map V.int).length : Nat) : Int) else 1) := by split <;> omega
    refine sq_val (.int (p % (if (((cells.map V.int).length : Nat) : Int) > 1 then (((cells.map V.int).length : Nat) : Int) else 1))) (fun Q k => ?_) ?_
    · exact ⟨_, rfl, h, _, 2, _, rfl, rfl, sq_of e1, atI_nat (j := 2) rfl, _, rfl, h, _, 1, _, rfl, rfl, sq_of e1, atI_nat (j := 1) rfl, c, _, rfl, .inl (sq_of e2), _, _, rfl, _, _, rfl, rfl, q, k⟩
    -- cell
    refine sq_set (fun v H1 => Same H H1 ∧ ∃ z, v = .int z ∧ ((10 ^ 18 : Int) ≤ z → ∃ j : Nat, p % (if (((cells.map V.int).length : Nat) : Int) > 1 then (((cells.map V.int).length : Nat) : Int) else 1) = (j : Int) ∧ j < cells.length)) (fun Q k => ?_) (fun v H1 h1 => ?_)
    · refine ⟨_, rfl, h, _, 1, _, rfl, rfl, sq_of e1, atI_nat (j := 1) rfl, Nat.zero_le _, fun l nl => ⟨dInts cells, dInts [], dp_ints (sq_of (Same.new nl _ _ e2)), dp_ints (l := []) (sq_of upd_same), sh_ints, sh_ints, _, rfl, ?_⟩⟩
      rw [eqv_ints]
      refine ite2 (fun hc => ?_) (fun _ => k _ _ ⟨Same.new nl, _, rfl, fun z => absurd z (by decide)⟩)
      have hne : cells ≠ [] := fun z => by rw [z] at hc; simp at hc
      have h0 : 0 < cells.length := List.length_pos_iff.mpr hne
      obtain ⟨j, ej, lj⟩ : ∃ j : Nat, p % (if (((cells.map V.int).length : Nat) : Int) > 1 then (((cells.map V.int).length : Nat) : Int) else 1) = (j : Int) ∧ j < cells.length := by
        rw [hlen]
        have q : (if ((cells.length : Nat) : Int) > 1 then ((cells.length : Nat) : Int) else 1) = (cells.length : Int) := by split <;> omega
        rw [q]
        have b1 := Int.emod_nonneg p (b := (cells.length : Int)) (by omega)
        have b2 := Int.emod_lt_of_pos p (b := (cells.length : Int)) (by omega)
        exact ⟨(p % (cells.length : Int)).toNat, by omega, by omega⟩
      refine ⟨_, rfl, h, _, 1, _, rfl, rfl, sq_of (Same.new nl _ _ e1), atI_nat (j := 1) rfl, _, rfl, c, _, _, _, rfl, rfl, sq_of (Same.new nl _ _ e2), atI_g ej lj, ?_⟩
      exact k _ _ ⟨Same.new nl, _, rfl, fun _ => ⟨j, ej, lj⟩⟩
    · obtain ⟨s1, z, rfl, hat⟩ := h1
      have f1 := s1 _ _ e1
      have f2 := s1 _ _ e2
      refine sq_ifP (p := (10 ^ 18 : Int) ≤ z) (fun Q k => ⟨_, rfl, _, _, rfl, rfl, ⟨by decide, by decide, by decide⟩, _, _, rfl, rfl, _, rfl, k⟩) (fun hz => ?_) (fun hz => ?_)
      · obtain ⟨j, ej, lj⟩ := hat hz
        refine ⟨_, rfl, _, rfl, _, _, rfl, rfl, ⟨m0, m1⟩, _, rfl, h, _, 1, _, rfl, rfl, sq_of f1, atI_nat (j := 1) rfl, _, rfl, c, _, _, j, rfl, rfl, f2, ixN_nat ej (by rw [hlen]; exact lj), ?_⟩
        refine ⟨_, rfl, .inl ⟨_, rfl, _, rfl, _, _, rfl, rfl, m0, ?_⟩⟩
        refine k _ _ (Int.emod_nonneg _ (by omega)) (Int.emod_lt_of_pos _ m0) ⟨ne, x, p, cells.set j (z / m), ?_, ?_, x0, x1, p0, by rw [List.length_set]; exact hl⟩ ((Off.same s1).hc (H1 := H) (.inr rfl))
        · rw [upd_ne ne]
          exact f1
        · rw [upd_same, map_set]
      · refine sq_nx ?_
        have b1 := Int.emod_nonneg (x * 48271 + z * 69621 + 11) (b := 2147483647) (by decide)
        have b2 := Int.emod_lt_of_pos (x * 48271 + z * 69621 + 11) (b := 2147483647) (by decide)
        refine ⟨_, rfl, h, _, 0, _, rfl, rfl, sq_of f1, atI_nat (j := 0) rfl, x, 48271, rfl, rfl, .inr ⟨by decide, by decide⟩, _, rfl, z, 69621, rfl, rfl, .inr ⟨by decide, by decide⟩, _, _, rfl, rfl, _, _, rfl, rfl, .inl ⟨_, rfl, _, _, rfl, rfl, (show (0 : Int) < 2147483647 by decide), ?_⟩⟩
        refine ⟨_, rfl, h, _, 0, 0, rfl, rfl, f1, rfl, ?_⟩
        refine ⟨_, rfl, h, _, 2, _, rfl, rfl, sq_of upd_same, atI_nat (j := 2) rfl, _, _, rfl, rfl, _, rfl, h, _, 2, 2, rfl, rfl, upd_same, rfl, ?_⟩
        refine ⟨_, rfl, h, _, 0, _, rfl, rfl, sq_of upd_same, atI_nat (j := 0) rfl, _, _, rfl, rfl, ⟨by decide, by decide⟩, .inl ⟨_, rfl, _, rfl, _, _, rfl, rfl, m0, ?_⟩⟩
        refine k _ _ (Int.emod_nonneg _ (by omega)) (Int.emod_lt_of_pos _ m0) ⟨ne, (x * 48271 + z * 69621 + 11) % 2147483647, p + 1, cells, ?_, ?_, b1, b2, by omega, hl⟩ (((Off.same s1).hc (H1 := H) (.inl rfl)).hc (H1 := H) (.inl rfl))
        · rw [upd_same]
          rfl
        · rw [upd_ne ne.symm, upd_ne ne.symm]
          exact f2
end
/-! ### what a piece of the law leaves: the draws' lists may turn, all else stands -/
structure Fr (h c : Addr) (H H' : Hp) : Prop where
  off : Off (isHC h c) H H'
  rng : RngAt H' h c
theorem Fr.refl {h c : Addr} {H : Hp} (R : RngAt H h c) : Fr h c H H := ⟨Off.refl, R⟩
theorem Fr.trans {h c : Addr} {H H1 H2 : Hp} (a : Fr h c H H1) (b : Fr h c H1 H2) : Fr h c H H2 := ⟨a.off.trans b.off, b.rng⟩
theorem Fr.same {h c : Addr} {H H' H2 : Hp} (a : Fr h c H H') (s : Same H' H2) : Fr h c H H2 := ⟨a.off.trans (Off.same s), a.rng.same s⟩
theorem RngAt.fresh {H : Hp} {h c p : Addr} (R : RngAt H h c) (np : H p = none) : ¬ isHC h c p := by
  obtain ⟨ne, x, q, cells, h1, h2, _⟩ := R
  rintro (e | e)
  · rw [e, h1] at np; cases np
  · rw [e, h2] at np; cases np
theorem Fr.free {h c p : Addr} {H H' : Hp} (a : Fr h c H H') (np : H' p = none) : H p = none := by
  cases e : H p with
  | none => rfl
  | some o =>
    have := a.off p o e (a.rng.fresh np)
    rw [np] at this
    cases this
theorem RngAt.upd {H : Hp} {h c p : Addr} {o : HO} (R : RngAt H h c) (n : ¬ isHC h c p) : RngAt (L2.upd H p o) h c :=
  R.keep (upd_ne fun z => n (.inl z.symm)) (upd_ne fun z => n (.inr z.symm))
theorem Off.mut {S : Addr → Prop} {H H' : Hp} {p : Addr} {o : HO} (e : Off S H H') (h : H p = none) : Off S H (L2.upd H' p o) := fun a u ha n => by
  rw [upd_ne (ne_of_none ha h)]
  exact e a u ha n
/-- a new object is written -/
theorem Fr.mut {h c p : Addr} {H H' : Hp} {o : HO} (a : Fr h c H H') (np : H p = none) (n : ¬ isHC h c p) : Fr h c H (L2.upd H' p o) := ⟨a.off.mut np, a.rng.upd n⟩
theorem Fr.new {h c p : Addr} {H H' : Hp} {o : HO} (a : Fr h c H H') (np : H' p = none) : Fr h c H (L2.upd H' p o) := a.same (Same.new np)
theorem Fr.get {h c p : Addr} {H H' : Hp} {o : HO} (a : Fr h c H H') (e : H p = some o) (n : ¬ isHC h c p) : H' p = some o := a.off p o e n


end Rf
namespace Rf
open PySem PySem.Spec PyProof.Rows L2
/-! ### pairs that are made, lists that lose an item -/
theorem sq_pair {K : PySem.W.Frag} {te : TE} {tz : TS} {D : Ends} {σ : L2.St} {H : Hp} {i j : Nat} (p : V → V → Hp → Prop) (h : ∀ Q : VK, (∀ a x y H', SqT K H' a [x, y] → p x y H' → Q (.ref a) H') → te σ H Q) (k : ∀ x y H', p x y H' → tz D ((σ.set i (some x)).set j (some y)) H') : tSeq (tAsg te (gTup K 2 (gCons (gName i) (gCons (gName j) gNil)))) tz D σ H :=
  h _ fun a x y H' hq hp => ⟨a, [x, y], rfl, hq, rfl, x, [y], rfl, y, [], rfl, rfl, k x y H' hp⟩
theorem erase_map {α β : Type} (f : α → β) : ∀ (l : List α) (k : Nat), (l.map f).eraseIdx k = (l.eraseIdx k).map f
  | [], k => by cases k <;> rfl
  | x :: l, 0 => rfl
  | x :: l, k + 1 => by
    show f x :: (l.map f).eraseIdx k = f x :: (l.eraseIdx k).map f
    rw [erase_map f l k]
theorem erase_perm {α : Type} : ∀ (l : List α) (k : Nat) (h : k < l.length), (l[k] :: l.eraseIdx k).Perm l
  | [], k, h => absurd h (Nat.not_lt_zero _)
  | x :: l, 0, h => List.Perm.refl _
  | x :: l, k + 1, h => by
    have ih := erase_perm l k (Nat.lt_of_succ_lt_succ h)
    show (l[k]'(Nat.lt_of_succ_lt_succ h) :: x :: l.eraseIdx k).Perm (x :: l)
    exact (List.Perm.swap x _ _).trans (ih.cons x)
theorem erase_len {α : Type} : ∀ (l : List α) (k : Nat), k < l.length → (l.eraseIdx k).length + 1 = l.length
  | [], k, h => absurd h (Nat.not_lt_zero _)
  | x :: l, 0, h => rfl
  | x :: l, k + 1, h => by
    show (l.eraseIdx k).length + 1 + 1 = l.length + 1
    rw [erase_len l k (Nat.lt_of_succ_lt_succ h)]


end Rf
namespace Rf
open PySem PySem.Spec PyProof.Rows L2
/-! ### dict comprehensions over a list; len(set(..)) of numbers -/
theorem dc_it {J : It} {n : Nat} {G : Hp → Prop} {Y : Nat → Hp → V → Hp → Prop} (w : Walk J n G Y) {g : TG} {tt : TT} {tk tv : TE} {vs : List Nat} {σ : L2.St} {H1 : Hp} {D : Addr} {Qd : Hp → Prop} (Pv : Nat → Hp → Prop) (h0 : Pv 0 (upd H1 D (.dK []))) (hG : ∀ i H, i ≤ n → Pv i H → G H)
    (hs : ∀ i x H H', i < n → Pv i H → Y i H x H' → g x (wipe σ vs) H' fun σ2 H2 => wipe σ2 vs = wipe σ vs ∧ tt σ2 H2 fun b H3 =>
      if b = true then tk σ2 H3 fun y H4 => tv σ2 H4 fun z H5 => ∃ kvs k, y = kV k ∧ H5 D = some (.dK kvs) ∧ kvs.length < sizeLine ∧ Pv (i + 1) (upd H5 D (.dK (putK kvs k z))) else Pv (i + 1) H3) (hd : ∀ H, Pv n H → Qd H) :
    ∃ W : Nat → Nat → Hp → Prop, (∃ m, W 0 m (upd H1 D (.dK []))) ∧ ∀ i m H, W i m H →
      (J.stop i H ∧ Qd H) ∨ (J.go i H ∧ ∃ Nx : Hp → Prop, (∀ H', Nx H' → ∃ m', m' < m ∧ W (i + 1) m' H') ∧ ∀ x H', J.yld i H x H' → g x (wipe σ vs) H' fun σ2 H2 => wipe σ2 vs = wipe σ vs ∧ tt σ2 H2 fun b H3 =>
        if b = true then tk σ2 H3 fun y H4 => tv σ2 H4 fun z H5 => ∃ kvs k, y = kV k ∧ H5 D = some (.dK kvs) ∧ kvs.length < sizeLine ∧ Nx (upd H5 D (.dK (putK kvs k z))) else Nx H3) := by
  refine ⟨fun i m H => m = n - i ∧ i ≤ n ∧ Pv i H, ⟨n, by simp, Nat.zero_le _, h0⟩, ?_⟩
  rintro i m H ⟨rfl, hi, p⟩
  have q := hG i H hi p
  by_cases hlt : i < n
  · refine .inr ⟨w.goes i H hlt q, Pv (i + 1), fun H' p' => ⟨n - (i + 1), by omega, rfl, hlt, p'⟩, fun x H' y => hs i x H H' hlt p (w.yields i H x H' hlt q y)⟩
  · have e : i = n := by omega
    subst e
    exact .inl ⟨w.stops H q, hd H p⟩


end Rf
namespace Rf
open PySem PySem.Spec PyProof.Rows L2
/-! ### a book as it stands in the heap: tuples within tuples -/
/-- the tuples at ts are the claims qs -/
def ClmsAt (K : PySem.W.Frag) (H : Hp) (ts : List Addr) (qs : List Clm) : Prop := ts.length = qs.length ∧ ∀ (i : Nat) (t : Addr) (q : Clm), ts[i]? = some t → qs[i]? = some q → SqT K H t [.int q.d, .int q.c, .int q.a, .int q.r]
structure BookAt (K : PySem.W.Frag) (H : Hp) (b ca cl : Addr) (ts : List Addr) (B : Bk) : Prop where
  hb : SqT K H b [.ref ca, .ref cl]
  hca : SqT K H ca (B.cash.map V.int)
  hcl : SqT K H cl (ts.map V.ref)
  hq : ClmsAt K H ts B.claims
theorem Same.tup {K : PySem.W.Frag} {H H' : Hp} {a : Addr} {xs : List V} (e : Same H H') (h : SqT K H a xs) : SqT K H' a xs := by
  rcases h with (h | ⟨o, h⟩) | h
  · exact .inl (.inl (e _ _ h))
  · exact .inl (.inr ⟨o, e _ _ h⟩)
  · exact .inr h
theorem BookAt.same {K : PySem.W.Frag} {H H' : Hp} {b ca cl : Addr} {ts : List Addr} {B : Bk} (A : BookAt K H b ca cl ts B) (s : Same H H') : BookAt K H' b ca cl ts B :=
  ⟨Same.tup s A.hb, Same.tup s A.hca, Same.tup s A.hcl, A.hq.1, fun i t q h1 h2 => Same.tup s (A.hq.2 i t q h1 h2)⟩
theorem ClmsAt.same {K : PySem.W.Frag} {H H' : Hp} {ts : List Addr} {qs : List Clm} (A : ClmsAt K H ts qs) (s : Same H H') : ClmsAt K H' ts qs := ⟨A.1, fun i t q h1 h2 => Same.tup s (A.2 i t q h1 h2)⟩
theorem BookAt.get {K : PySem.W.Frag} {H : Hp} {b ca cl : Addr} {ts : List Addr} {B : Bk} (A : BookAt K H b ca cl ts B) {k : Nat} (h : k < B.claims.length) : ∃ t, ts[k]? = some t ∧ SqT K H t [.int (B.clm k).d, .int (B.clm k).c, .int (B.clm k).a, .int (B.clm k).r] := by
  have hk : k < ts.length := by rw [A.hq.1]; exact h
  exact ⟨ts[k], List.getElem?_eq_getElem hk, A.hq.2 k _ _ (List.getElem?_eq_getElem hk) (Bk.clm_get h)⟩
section
variable {K : PySem.W.Frag} {te : TE} {tz : TS} {D : Ends} {σ : L2.St} {H : Hp}
/-- x, y = a pair -/
theorem sq_tup2 {i j : Nat} {a : Addr} {x y : V} (h : ∀ Q : VK, Q (.ref a) H → te σ H Q) (hq : SqT K H a [x, y]) (k : tz D ((σ.set i (some x)).set j (some y)) H) : tSeq (tAsg te (gTup K 2 (gCons (gName i) (gCons (gName j) gNil)))) tz D σ H :=
  h _ ⟨a, [x, y], rfl, hq, rfl, x, [y], rfl, y, [], rfl, rfl, k⟩
theorem sq_tup4 {i j l m : Nat} {a : Addr} {x y z w : V} (h : ∀ Q : VK, Q (.ref a) H → te σ H Q) (hq : SqT K H a [x, y, z, w]) (k : tz D ((((σ.set i (some x)).set j (some y)).set l (some z)).set m (some w)) H) : tSeq (tAsg te (gTup K 4 (gCons (gName i) (gCons (gName j) (gCons (gName l) (gCons (gName m) gNil)))))) tz D σ H :=
  h _ ⟨a, [x, y, z, w], rfl, hq, rfl, x, [y, z, w], rfl, y, [z, w], rfl, z, [w], rfl, w, [], rfl, rfl, k⟩
end
theorem map_ref_get {ts : List Addr} {i : Nat} {x : V} (h : (ts.map V.ref)[i]? = some x) : ∃ t, x = .ref t ∧ ts[i]? = some t := by
  rw [List.getElem?_map] at h
  cases e : ts[i]? with
  | none => rw [e] at h; cases h
  | some t => rw [e] at h; exact ⟨t, (Option.some.inj h).symm, rfl⟩
theorem map_int_get {l : List Int} {i : Nat} {x : V} (h : (l.map V.int)[i]? = some x) : x = .int (g l i) ∧ i < l.length := by
  have hi : i < l.length := by
    have := (List.getElem?_eq_some_iff.mp h).1
    rw [List.length_map] at this
    exact this
  rw [List.getElem?_map, g_get hi] at h
  exact ⟨(Option.some.inj h).symm, hi⟩


end Rf
namespace Rf
open PySem PySem.Spec PyProof.Rows L2
/-! ### the law's own books -/
theorem tup_off {K : PySem.W.Frag} {H H' : Hp} {h c a : Addr} {xs : List V} (R : RngAt H h c) (e : Off (isHC h c) H H') (q : SqT K H a xs) : SqT K H' a xs := by
  obtain ⟨ne, x, p, cells, h1, h2, _⟩ := R
  have n : ∀ o, H a = some o → (∀ ys, o ≠ .lst ys) → ¬ isHC h c a := fun o ho hno z => by
    rcases z with z | z
    · rw [z, h1] at ho
      exact hno _ (Option.some.inj ho).symm
    · rw [z, h2] at ho
      exact hno _ (Option.some.inj ho).symm
  rcases q with (q | ⟨o, q⟩) | q
  · exact .inl (.inl (e _ _ q (n _ q (fun _ z => nomatch z))))
  · exact .inl (.inr ⟨o, e _ _ q (n _ q (fun _ z => nomatch z))⟩)
  · exact .inr q
theorem Fr.clms {K : PySem.W.Frag} {H H' : Hp} {h c : Addr} {ts : List Addr} {qs : List Clm} (R : RngAt H h c) (e : Fr h c H H') (A : ClmsAt K H ts qs) : ClmsAt K H' ts qs := ⟨A.1, fun i t q h1 h2 => tup_off R e.off (A.2 i t q h1 h2)⟩
theorem Fr.book {K : PySem.W.Frag} {H H' : Hp} {h c b ca cl : Addr} {ts : List Addr} {B : Bk} (R : RngAt H h c) (e : Fr h c H H') (A : BookAt K H b ca cl ts B) : BookAt K H' b ca cl ts B :=
  ⟨tup_off R e.off A.hb, tup_off R e.off A.hca, tup_off R e.off A.hcl, Fr.clms R e A.hq⟩
theorem ClmsAt.app {K : PySem.W.Frag} {H : Hp} {ts : List Addr} {qs : List Clm} {t : Addr} {q : Clm} (A : ClmsAt K H ts qs) (h : SqT K H t [.int q.d, .int q.c, .int q.a, .int q.r]) : ClmsAt K H (ts ++ [t]) (qs ++ [q]) := by
  refine ⟨by rw [List.length_append, List.length_append, A.1]; rfl, fun i u p h1 h2 => ?_⟩
  by_cases hi : i < ts.length
  · rw [List.getElem?_append_left hi] at h1
    rw [List.getElem?_append_left (by rw [← A.1]; exact hi)] at h2
    exact A.2 i u p h1 h2
  · have e : i = ts.length := by
      have := (List.getElem?_eq_some_iff.mp h1).1
      rw [List.length_append] at this
      have : i < ts.length + 1 := this
      omega
    subst e
    rw [List.getElem?_append_right (Nat.le_refl _), Nat.sub_self] at h1
    rw [List.getElem?_append_right (by rw [A.1]; exact Nat.le_refl _), A.1, Nat.sub_self] at h2
    cases h1
    cases h2
    exact h
theorem ClmsAt.put {K : PySem.W.Frag} {H : Hp} {ts : List Addr} {qs : List Clm} {p : Addr} {o : HO} {xs : List V} (A : ClmsAt K H ts qs) (hp : H p = some (.lst xs)) : ClmsAt K (upd H p o) ts qs := by
  refine ⟨A.1, fun i t q h1 h2 => ?_⟩
  rcases A.2 i t q h1 h2 with (z | ⟨u, z⟩) | z
  · exact .inl (.inl (by rw [upd_ne (ne_of z hp (fun z => nomatch z))]; exact z))
  · exact .inl (.inr ⟨u, by rw [upd_ne (ne_of z hp (fun z => nomatch z))]; exact z⟩)
  · exact .inr z
/-- a book stands where a list is written -/
theorem BookAt.put {K : PySem.W.Frag} {H : Hp} {b ca cl p : Addr} {ts : List Addr} {B : Bk} {o : HO} {ys : List V} (A : BookAt K H b ca cl ts B) (hp : H p = some (.lst ys)) : BookAt K (L2.upd H p o) b ca cl ts B := by
  have q : ∀ (a : Addr) (xs : List V), SqT K H a xs → SqT K (L2.upd H p o) a xs := fun a xs z => by
    rcases z with (z | ⟨u, z⟩) | z
    · exact .inl (.inl (by rw [upd_ne (ne_of z hp (fun z => nomatch z))]; exact z))
    · exact .inl (.inr ⟨u, by rw [upd_ne (ne_of z hp (fun z => nomatch z))]; exact z⟩)
    · exact .inr z
  exact ⟨q _ _ A.hb, q _ _ A.hca, q _ _ A.hcl, A.hq.put hp⟩
/-- the other house: never the debtor -/
theorem other_house {d r n : Int} (d0 : 0 ≤ d) (d1 : d < n) (r0 : 0 ≤ r) (r1 : r < n - 1) : 0 ≤ (d + 1 + r) % n ∧ (d + 1 + r) % n < n ∧ d ≠ (d + 1 + r) % n := by
  have hn : 0 < n := by omega
  refine ⟨Int.emod_nonneg _ (by omega), Int.emod_lt_of_pos _ hn, ?_⟩
  by_cases h : d + 1 + r < n
  · rw [Int.emod_eq_of_lt (by omega) h]
    omega
  · have e : d + 1 + r = (d + 1 + r - n) + n * 1 := by omega
    rw [e, Int.add_mul_emod_self_left, Int.emod_eq_of_lt (by omega) (by omega)]
    omega
def spLBook (K : PySem.W.Frag) : Sp := fun vs H Q _ => ∃ (h c : Addr) (nh nc wd : Int), vs = [.ref h, .int nh, .int nc, .int wd] ∧ RngAt H h c ∧ 1 ≤ nh ∧ nh ≤ 8 ∧ 0 ≤ nc ∧ nc ≤ 24 ∧ 1 ≤ wd ∧ wd ≤ 999 ∧
  ∀ b ca cl ts B H', Good B → (B.cash.length : Int) ≤ nh → (B.claims.length : Int) ≤ nc → (∀ x ∈ B.cash, x ≤ max 20 wd) → (∀ q ∈ B.claims, q.a ≤ max 20 wd) → H b = none → Fr h c H H' → BookAt K H' b ca cl ts B → Q (.ref b) H'
section
variable {P : Program} {w : World} {K : PySem.W.Frag} {mg : Str → Option Value} {base : Heap}
theorem sc_lbook : FnScope ["_law_h", "_law_houses", "_law_claims", "_law_wide", "_law_many", "_law_most", "_law_ranks", "_law_k", "_law_cash", "_law_rows", "_law_debtor", "_law_creditor"] ["_law_h", "_law_houses", "_law_claims", "_law_wide"] (defScope s_lbook) := ⟨rfl, rfl, rfl, by decide +kernel, rfl, by decide +kernel, by decide +kernel⟩
/- 0:_law_h 1:_law_houses 2:_law_claims 3:_law_wide 4:_law_many 5:_law_most 6:_law_ranks 7:_law_k 8:_law_cash 9:_law_rows 10:_law_debtor 11:_law_creditor -/
theorem ok_lbook {f : Addr} {fd : FuncData} (D : DefAt K mg "_law_book" s_lbook ["_law_h", "_law_houses", "_law_claims", "_law_wide"] f fd) (m_max : mg "max" = none) (m_len : mg "len" = none) (m_range : mg "range" = none) (m_tuple : mg "tuple" = none) (m_int : mg "int" = none)
    {f1 : Addr} {fd1 : FuncData} (D_next : DefAt K mg "_law_next" s_next ["_law_h", "_law_many"] f1 fd1) : FnOk P w K mg base CX0 2 f fd ["_law_h", "_law_houses", "_law_claims", "_law_wide"] (spLBook K) := by
  have G_next : FnOk P w K mg base CX0 1 f1 fd1 ["_law_h", "_law_many"] spNext := ok_next D_next m_max m_len
  refine D.F.ok sc_lbook (fun vs H Q E h => ?_) (fun cdv A outer s H vs Q E hr h => ?_)
  · obtain ⟨h, c, nh, nc, wd, rfl, _⟩ := h
    rfl
  · obtain ⟨h, c, nh, nc, wd, rfl, R, nh0, nh1, nc0, nc1, wd0, wd1, k⟩ := h
    refine ⟨_, pss_cons (ps_set (i := 4) sc_lbook.nd rfl (.inl rfl) (pe_op op_add pe_int (pe_call G_next (hr.mono (by decide)) (by rfl) D_next.g D_next.F.kp D_next.b .nil pass0 (pa_cons (pv 0) (pa_cons (pv 1) pa_nil)))))
        (pss_cons (ps_set (i := 5) sc_lbook.nd rfl (.inr rfl) (pe_ix (r := rIxL K) ix_list (pe_lst (pa_cons pe_int (pa_cons pe_int (pa_cons (pv 3) pa_nil)))) (pe_call G_next (hr.mono (by decide)) (by rfl) D_next.g D_next.F.kp D_next.b .nil pass0 (pa_cons (pv 0) (pa_cons pe_int pa_nil))) (fun _ _ => rfl)))
        (pss_cons (ps_set (i := 6) sc_lbook.nd rfl (.inl rfl) (pe_ix (r := rIxL K) ix_list (pe_lst (pa_cons pe_int (pa_cons pe_int (pa_cons pe_int pa_nil)))) (pe_call G_next (hr.mono (by decide)) (by rfl) D_next.g D_next.F.kp D_next.b .nil pass0 (pa_cons (pv 0) (pa_cons pe_int pa_nil))) (fun _ _ => rfl)))
        (pss_cons (ps_set (i := 8) sc_lbook.nd rfl (.inl rfl) (pe_callTy (r := rTupleOf K) call_tupleOf (by rfl) m_tuple (by decide +kernel) (pa_cons (pe_lc (own := [("_law_k", 7)]) (g := gName 7) (tt := tYes) (by rfl) sc_lbook.nd (pi_range1 (by rfl) m_range (pa_cons (pv 4) pa_nil)) (blkOk_by (own := [("_law_k", 7)]) (N := ["_law_h", "_law_houses", "_law_claims", "_law_wide", "_law_many", "_law_most", "_law_ranks", "_law_k", "_law_cash", "_law_rows", "_law_debtor", "_law_creditor"]) (sc := defScope s_lbook) (by decide +kernel)) (fun _ _ _ _ _ => (pg_name (i := 7) sc_lbook.nd rfl (.inl rfl))) (fun _ _ _ _ _ => pts_nil) (fun _ _ _ _ _ => (pe_op op_mul (pe_call G_next (hr.mono (by decide)) (by rfl) D_next.g D_next.F.kp D_next.b .nil pass0 (pa_cons (pv 0) (pa_cons (pe_op op_add (pv 5) pe_int) pa_nil))) (pe_callTy call_int1 (by rfl) m_int (by decide +kernel) (pa_cons (pe_cmpR op_gt (pe_call G_next (hr.mono (by decide)) (by rfl) D_next.g D_next.F.kp D_next.b .nil pass0 (pa_cons (pv 0) (pa_cons pe_int pa_nil))) pe_int (nomark _)) pa_nil))))) pa_nil)))
        (pss_cons (ps_set (i := 9) sc_lbook.nd rfl (.inl rfl) (pe_lst pa_nil))
        (pss_cons (ps_for PassesOwn.never rfl (pi_range1 (by rfl) m_range (pa_cons (pe_op op_mul (pe_call G_next (hr.mono (by decide)) (by rfl) D_next.g D_next.F.kp D_next.b .nil pass0 (pa_cons (pv 0) (pa_cons (pe_op op_add (pv 2) pe_int) pa_nil))) (pe_callTy call_int1 (by rfl) m_int (by decide +kernel) (pa_cons (pe_cmpR op_gt (pv 4) pe_int (nomark _)) pa_nil))) pa_nil)) (pg_name (i := 7) sc_lbook.nd rfl (.inl rfl)) (pss_cons (ps_set (i := 10) sc_lbook.nd rfl (.inl rfl) (pe_call G_next (hr.mono (by decide)) (by rfl) D_next.g D_next.F.kp D_next.b .nil pass0 (pa_cons (pv 0) (pa_cons (pv 4) pa_nil))))
          (pss_cons (ps_set (i := 11) sc_lbook.nd rfl (.inl rfl) (pe_op op_mod (pe_op op_add (pe_op op_add (pv 10) pe_int) (pe_call G_next (hr.mono (by decide)) (by rfl) D_next.g D_next.F.kp D_next.b .nil pass0 (pa_cons (pv 0) (pa_cons (pe_op op_sub (pv 4) pe_int) pa_nil)))) (pv 4)))
          (pss_one (ps_expr (pe_bm PySem.F.plainAttrs_list PySem.F.slot_list_append PySem.F.type_list_append mt_append (pv 9) (pa_cons (pe_tup (pa_cons (pv 10) (pa_cons (pv 11) (pa_cons (pe_op op_add pe_int (pe_call G_next (hr.mono (by decide)) (by rfl) D_next.g D_next.F.kp D_next.b .nil pass0 (pa_cons (pv 0) (pa_cons (pv 5) pa_nil)))) (pa_cons (pe_op op_add pe_int (pe_call G_next (hr.mono (by decide)) (by rfl) D_next.g D_next.F.kp D_next.b .nil pass0 (pa_cons (pv 0) (pa_cons (pv 6) pa_nil)))) pa_nil))))) pa_nil)))))))
        (pss_one (ps_ret (pe_tup (pa_cons (pv 8) (pa_cons (pe_callTy (r := rTupleOf K) call_tupleOf (by rfl) m_tuple (by decide +kernel) (pa_cons (pv 9) pa_nil)) pa_nil)))))))))), ?_⟩
    -- many
    refine sq_set (fun v H1 => Fr h c H H1 ∧ ∃ n : Int, v = .int n ∧ 1 ≤ n ∧ n ≤ nh) (fun Q k => ⟨_, rfl, _, rfl, h, c, nh, rfl, R, by omega, by omega, fun r H1 r0 r1 R1 o1 => ⟨_, _, rfl, rfl, k _ _ ⟨⟨o1, R1⟩, _, rfl, by omega, by omega⟩⟩⟩) (fun v H1 hv => ?_)
    obtain ⟨F1, n, rfl, n0, n1⟩ := hv
    -- most
    refine sq_set (fun v H2 => Fr h c H H2 ∧ ∃ m : Int, v = .int m ∧ 1 ≤ m ∧ m ≤ max 20 wd ∧ m ≤ 999) (fun Q k => ?_) (fun v H2 hv => ?_)
    · refine ⟨_, rfl, by show 3 ≤ sizeLine; decide, fun l nl => ⟨_, rfl, h, c, 3, rfl, F1.rng.same (Same.new nl), by decide, by decide, fun r H2 r0 r1 R2 o2 => ?_⟩⟩
      have F2 : Fr h c H H2 := (F1.same (Same.new nl)).trans ⟨o2, R2⟩
      have hl := o2 l _ upd_same (F1.rng.fresh nl)
      have : r = 0 ∨ r = 1 ∨ r = 2 := by omega
      rcases this with rfl | rfl | rfl
      · exact ⟨l, _, _, _, rfl, rfl, sq_of hl, atI_nat (j := 0) rfl, k _ _ ⟨F2, 4, rfl, by omega, by omega, by omega⟩⟩
      · exact ⟨l, _, _, _, rfl, rfl, sq_of hl, atI_nat (j := 1) rfl, k _ _ ⟨F2, 20, rfl, by omega, by omega, by omega⟩⟩
      · exact ⟨l, _, _, _, rfl, rfl, sq_of hl, atI_nat (j := 2) rfl, k _ _ ⟨F2, wd, rfl, by omega, by omega, by omega⟩⟩
    obtain ⟨F2, m, rfl, m0, m1, m2⟩ := hv
    -- ranks
    refine sq_set (fun v H3 => Fr h c H H3 ∧ ∃ q : Int, v = .int q ∧ 1 ≤ q ∧ q ≤ 9) (fun Q k => ?_) (fun v H3 hv => ?_)
    · refine ⟨by show 3 ≤ sizeLine; decide, fun l nl => ⟨_, rfl, h, c, 3, rfl, F2.rng.same (Same.new nl), by decide, by decide, fun r H3 r0 r1 R3 o3 => ?_⟩⟩
      have F3 : Fr h c H H3 := (F2.same (Same.new nl)).trans ⟨o3, R3⟩
      have hl := o3 l _ upd_same (F2.rng.fresh nl)
      have : r = 0 ∨ r = 1 ∨ r = 2 := by omega
      rcases this with rfl | rfl | rfl
      · exact ⟨l, _, _, _, rfl, rfl, sq_of hl, atI_nat (j := 0) rfl, k _ _ ⟨F3, 1, rfl, by omega, by omega⟩⟩
      · exact ⟨l, _, _, _, rfl, rfl, sq_of hl, atI_nat (j := 1) rfl, k _ _ ⟨F3, 3, rfl, by omega, by omega⟩⟩
      · exact ⟨l, _, _, _, rfl, rfl, sq_of hl, atI_nat (j := 2) rfl, k _ _ ⟨F3, 9, rfl, by omega, by omega⟩⟩
    obtain ⟨F3, q, rfl, q0, q1⟩ := hv
    -- cash
    refine sq_set (fun v H4 => Fr h c H H4 ∧ ∃ (ca : Addr) (cash : List Int), v = .ref ca ∧ SqT K H4 ca (cash.map V.int) ∧ (cash.length : Int) = n ∧ ∀ x ∈ cash, 0 ≤ x ∧ x ≤ m) (fun Q k => ?_) (fun v H4 hv => ?_)
    · refine ⟨_, rfl, n, rfl, by omega, by omega, fun d nd => ?_⟩
      have nd0 := F3.free nd
      have nhd := F3.rng.fresh nd
      refine lc_range (lo := 0) (n := n.toNat) (fun i H' => Fr h c H H' ∧ ∃ cash : List Int, H' d = some (.lst (cash.map V.int)) ∧ cash.length = i ∧ ∀ x ∈ cash, 0 ≤ x ∧ x ≤ m) ⟨F3.new nd, [], upd_same, rfl, fun x hx => nomatch hx⟩ (fun i H' hi hP => ?_) (fun H' hP => ?_)
      · obtain ⟨F4, cash, hd, hl, hb⟩ := hP
        refine ⟨rfl, _, rfl, _, rfl, _, _, rfl, rfl, h, c, _, rfl, F4.rng, by omega, by omega, fun r H5 r0 r1 R5 o5 => ?_⟩
        refine ⟨_, rfl, h, c, 3, rfl, R5, by decide, by decide, fun r2 H6 r20 r21 R6 o6 => ⟨_, _, rfl, rfl, .inr ⟨_, rfl, _, _, rfl, rfl, .inl ⟨by omega, by omega⟩, ?_⟩⟩⟩
        have F6 : Fr h c H H6 := (F4.trans ⟨o5, R5⟩).trans ⟨o6, R6⟩
        have hd6 := o6 d _ (o5 d _ hd nhd) nhd
        refine ⟨_, hd6, ?_, F6.mut nd0 nhd, cash ++ [r * (if decide (0 < r2) = true then 1 else 0)], ?_, ?_, fun x hx => ?_⟩
        · rw [List.length_map]
          exact sz_lt (by omega)
        · rw [upd_same, List.map_append]
          rfl
        · rw [List.length_append, hl]
          rfl
        · rcases List.mem_append.mp hx with hx | hx
          · exact hb x hx
          · rw [List.mem_singleton.mp hx]
            split <;> omega
      · obtain ⟨F4, cash, hd, hl, hb⟩ := hP
        refine ⟨d, _, rfl, .inl ⟨sq_of hd, fun ca nca => k _ _ ⟨F4.new nca, ca, cash, rfl, st_of upd_same, by omega, hb⟩⟩⟩
    obtain ⟨F4, ca, cash, rfl, hca, hcn, hcb⟩ := hv
    -- rows
    refine sq_new (.lst []) (fun Q k => ⟨Nat.zero_le _, fun p np => k p _ np (Same.new np) upd_same⟩) (fun rw0 H5 nrw s5 hrw => ?_)
    have F5 := F4.same s5
    have hca5 := Same.tup s5 hca
    have nrw0 := F4.free nrw
    have nhrw := F4.rng.fresh nrw
    refine sq_forRx (fun z H6 => Fr h c H5 H6 ∧ 0 ≤ z ∧ z ≤ nc ∧ (0 < z → 1 < n)) (fun Q k => ?_) (fun z H6 hz => by have := hz.2; omega)
      (fun z i σ' H6 => Fr h c H4 H6 ∧ z ≤ nc ∧ (0 < z → 1 < n) ∧ (∃ (ts : List Addr) (qs : List Clm), H6 rw0 = some (.lst (ts.map V.ref)) ∧ ClmsAt K H6 ts qs ∧ qs.length = i ∧ (∀ q' ∈ qs, GoodC n q' ∧ q'.a ≤ m)) ∧
        ∃ y9 y10 y11, σ' = [some (.ref h), some (.int nh), some (.int nc), some (.int wd), some (.int n), some (.int m), some (.int q), y9, some (.ref ca), some (.ref rw0), y10, y11])
      (fun z H6 hz => ⟨((Fr.refl F4.rng).same s5).trans hz.1, hz.2.2.1, hz.2.2.2, ⟨[], [], hz.1.off rw0 _ hrw nhrw, ⟨rfl, fun i t p h1 => by cases h1⟩, rfl, fun p hp => nomatch hp⟩, _, _, _, rfl⟩) (fun z i σ' H6 hi hP => ?_) (fun z σ' H6 hP => ?_)
    · refine ⟨_, rfl, _, rfl, _, _, rfl, rfl, h, c, _, rfl, F5.rng, by omega, by omega, fun r H6 r0 r1 R6 o6 => ?_⟩
      refine ⟨_, rfl, _, _, rfl, rfl, .inr ⟨_, rfl, _, _, rfl, rfl, .inl ⟨by omega, by omega⟩, k _ _ ⟨⟨o6, R6⟩, ?_, ?_, ?_⟩⟩⟩
      · split <;> omega
      · split <;> omega
      · by_cases hn : 1 < n
        · exact fun _ => hn
        · rw [decide_eq_false hn]
          intro hh
          simp at hh
    · obtain ⟨F6, hz, hz2, ⟨ts, qs, hr6, hq6, hql, hqg⟩, y9, y10, y11, rfl⟩ := hP
      have hn : 1 < n := hz2 (by omega)
      -- debtor
      refine sq_set (fun v H7 => Fr h c H6 H7 ∧ ∃ d : Int, v = .int d ∧ 0 ≤ d ∧ d < n) (fun Q k => ⟨_, rfl, _, rfl, h, c, n, rfl, F6.rng, by omega, by omega, fun r H7 r0 r1 R7 o7 => k _ _ ⟨⟨o7, R7⟩, r, rfl, r0, r1⟩⟩) (fun v H7 hv => ?_)
      obtain ⟨F7, d, rfl, d0, d1⟩ := hv
      -- creditor
      refine sq_set (fun v H8 => Fr h c H6 H8 ∧ ∃ e : Int, v = .int e ∧ 0 ≤ e ∧ e < n ∧ d ≠ e) (fun Q k => ?_) (fun v H8 hv => ?_)
      · refine ⟨_, rfl, _, _, rfl, rfl, _, rfl, _, rfl, _, _, rfl, rfl, h, c, _, rfl, F7.rng, by omega, by omega, fun r H8 r0 r1 R8 o8 => ⟨_, _, rfl, rfl, _, rfl, _, _, rfl, rfl, by omega, ?_⟩⟩
        exact k _ _ ⟨F7.trans ⟨o8, R8⟩, _, rfl, other_house d0 d1 r0 r1⟩
      obtain ⟨F8, e, rfl, e0, e1, e2⟩ := hv
      -- the row
      have hr8 := F8.off rw0 _ hr6 nhrw
      refine ⟨_, rfl, .inl ⟨rfl, _, sq_of hr8⟩, _, rfl, _, rfl, _, rfl, _, rfl, h, c, m, rfl, F8.rng, by omega, by omega, fun a H9 a0 a1 R9 o9 => ⟨_, _, rfl, rfl, _, rfl, _, rfl, h, c, q, rfl, R9, by omega, by omega, fun rk H10 k0 k1 R10 o10 => ⟨_, _, rfl, rfl, by show 4 ≤ sizeLine; decide, fun t nt => ?_⟩⟩⟩
      have F10 : Fr h c H6 H10 := (F8.trans ⟨o9, R9⟩).trans ⟨o10, R10⟩
      have hr10 := F10.off rw0 _ hr6 nhrw
      have s11 : Same H10 (upd H10 t (.tup [.int d, .int e, .int (1 + a), .int (1 + rk)])) := Same.new nt
      have hr11 := s11 _ _ hr10
      have hq11 := (Fr.clms F6.rng F10 hq6).same s11
      have ht11 : SqT K (upd H10 t (.tup [.int d, .int e, .int (1 + a), .int (1 + rk)])) t [.int (Clm.mk d e (1 + a) (1 + rk)).d, .int (Clm.mk d e (1 + a) (1 + rk)).c, .int (Clm.mk d e (1 + a) (1 + rk)).a, .int (Clm.mk d e (1 + a) (1 + rk)).r] := st_of upd_same
      have F11 := F10.same s11
      refine ⟨rw0, _, _, rfl, rfl, hr11, ?_, ?_⟩
      · rw [List.length_map, hq6.1]
        exact sz_lt (by omega)
      · refine ⟨?_, hz, hz2, ⟨ts ++ [t], qs ++ [⟨d, e, 1 + a, 1 + rk⟩], ?_, (hq11.app ht11).put hr11, ?_, fun q' hq' => ?_⟩, _, _, _, rfl⟩
        · exact (F6.trans F11).mut nrw nhrw
        · rw [upd_same, List.map_append]
          rfl
        · rw [List.length_append, hql]
          rfl
        · rcases List.mem_append.mp hq' with hq' | hq'
          · exact hqg q' hq'
          · rw [List.mem_singleton.mp hq']
            exact ⟨⟨d0, d1, e0, e1, e2, by show 1 ≤ 1 + a; omega, by show 1 + a ≤ 999; omega, by show 1 ≤ 1 + rk; omega, by show 1 + rk ≤ 9; omega⟩, by show 1 + a ≤ m; omega⟩
    · obtain ⟨F6, hz, hz2, ⟨ts, qs, hr6, hq6, hql, hqg⟩, y9, y10, y11, rfl⟩ := hP
      have R4 := F4.rng
      have hca6 := tup_off R4 F6.off hca
      refine ⟨_, rfl, _, rfl, rw0, _, rfl, .inl ⟨sq_of hr6, fun cl ncl => ⟨by show 2 ≤ sizeLine; decide, fun b nb => ?_⟩⟩⟩
      have F7 : Fr h c H (upd (upd H6 cl (.tup (ts.map V.ref))) b (.tup [.ref ca, .ref cl])) := ((F4.trans F6).new ncl).new nb
      have s7 : Same H6 (upd H6 cl (.tup (ts.map V.ref))) := Same.new ncl
      have s8 : Same (upd H6 cl (.tup (ts.map V.ref))) (upd (upd H6 cl (.tup (ts.map V.ref))) b (.tup [.ref ca, .ref cl])) := Same.new nb
      refine k b ca cl ts ⟨cash, qs⟩ _ ⟨?_, ?_, fun x hx => ?_, ?_, fun q' hq' => ?_⟩ ?_ ?_ (fun x hx => ?_) (fun q' hq' => ?_) ?_ F7 ⟨st_of upd_same, Same.tup (s7.trans s8) hca6, st_of (s8 _ _ upd_same), hq6.same (s7.trans s8)⟩
      · show 1 ≤ cash.length
        omega
      · show cash.length ≤ 8
        omega
      · have := hcb x hx
        omega
      · show qs.length ≤ 24
        omega
      · show GoodC (cash.length : Int) q'
        rw [hcn]
        exact (hqg q' hq').1
      · show (cash.length : Int) ≤ nh
        omega
      · show (qs.length : Int) ≤ nc
        omega
      · have := hcb x hx
        omega
      · have := (hqg q' hq').2
        omega
      · exact ((F4.trans F6).new ncl).free nb
end


end Rf
namespace Rf
open PySem PySem.Spec PyProof.Rows L2
/-! ### the law's own sharing -/
def idx : Option Nat → Int
  | none => -1
  | some k => (k : Int)
/-- numbers from 0 to a million -/
def Bnd (l : List Int) : Prop := ∀ x ∈ l, 0 ≤ x ∧ x ≤ 1000000
theorem Bnd.g {l : List Int} (h : Bnd l) {i : Nat} (hi : i < l.length) : 0 ≤ g l i ∧ g l i ≤ 1000000 := h _ (g_mem hi)
theorem cmul_of {i j : Int} (h : 0 ≤ i ∧ i ≤ 1000000) : CMul i j := .inl ⟨by omega, by omega⟩
theorem fu_skip {a p : List Int} {i : Nat} (h : ¬ g p i < g a i) : firstUp a p (i + 1) = firstUp a p i := by
  conv => lhs; unfold firstUp
  cases e : firstUp a p i with
  | none => simp only [if_neg h]
  | some f => simp only [if_neg (fun z => h (And.left z))]
theorem fu_first {a p : List Int} {i : Nat} (h : g p i < g a i) (e : firstUp a p i = none) : firstUp a p (i + 1) = some i := by
  unfold firstUp
  rw [e]
  simp only [if_pos h]
theorem fu_less {a p : List Int} {i f : Nat} (h : g p i < g a i) (e : firstUp a p i = some f) (h2 : g p i * g a f < g p f * g a i) : firstUp a p (i + 1) = some i := by
  unfold firstUp
  rw [e]
  simp only [if_pos (And.intro h h2)]
theorem fu_keep {a p : List Int} {i f : Nat} (e : firstUp a p i = some f) (h2 : ¬ g p i * g a f < g p f * g a i) : firstUp a p (i + 1) = some f := by
  unfold firstUp
  rw [e]
  simp only [if_neg (fun z => h2 (And.right z))]
theorem fu_lt {a p : List Int} : ∀ {n f : Nat}, firstUp a p n = some f → f < n
  | 0, f, h => by cases h
  | k + 1, f, h => by
    unfold firstUp at h
    cases e : firstUp a p k with
    | none =>
      rw [e] at h
      simp only at h
      split at h <;> cases h
      exact Nat.lt_succ_self _
    | some f' =>
      rw [e] at h
      have := fu_lt e
      simp only at h
      split at h <;> cases h <;> omega
/-- two lists of like length and their ints -/
structure Two (K : PySem.W.Frag) (H : Hp) (a p : Addr) (as ps : List Int) : Prop where
  ha : SqL K H a (as.map V.int)
  hp : SqL K H p (ps.map V.int)
  len : ps.length = as.length
  small : as.length ≤ 1000
  ba : Bnd as
  bp : Bnd ps
theorem Two.same {K : PySem.W.Frag} {H H' : Hp} {a p : Addr} {as ps : List Int} (T : Two K H a p as ps) (s : Same H H') : Two K H' a p as ps := ⟨s.seq T.ha, s.seq T.hp, T.len, T.small, T.ba, T.bp⟩
theorem bnd_valid {a p : List Int} (B : Bnd a) (W : Valid a p) : Bnd p := fun x hx => by
  obtain ⟨i, hi, rfl⟩ := mem_g hx
  have hi' : i < a.length := W.len ▸ hi
  have h1 := W.lo i hi'
  have h2 := W.hi i hi'
  have h3 := B.g hi'
  omega
theorem shareN_ok {a : List Int} (pos : AllPos a) (n : Nat) (h : (n : Int) ≤ a.sum) : Valid a (shareN a n) ∧ (shareN a n).sum = n := by
  have z := zeros_sum a
  obtain ⟨W, s⟩ := steps_ok pos (valid_zeros pos) n (by rw [z]; omega)
  refine ⟨W, ?_⟩
  show (steps a n (zeros a)).sum = n
  rw [s, z]
  omega
theorem shareN_next {a : List Int} (pos : AllPos a) (n : Nat) (h : (n : Int) < a.sum) : ∃ f, firstUp a (shareN a n) a.length = some f ∧ f < a.length ∧ shareN a (n + 1) = (shareN a n).set f (g (shareN a n) f + 1) := by
  obtain ⟨W, s⟩ := shareN_ok pos n (by omega)
  obtain ⟨f, e, F⟩ := exists_first W (by rw [s]; exact h) pos
  exact ⟨f, e, F.lt, nextS_of e⟩
theorem bnd_sum : ∀ {l : List Int}, Bnd l → l.sum ≤ 1000000 * l.length
  | [], _ => by simp
  | x :: r, h => by
    have h1 := h x List.mem_cons_self
    have h2 := bnd_sum (l := r) fun y hy => h y (List.mem_cons_of_mem _ hy)
    rw [List.sum_cons, List.length_cons]
    omega
/-- amounts as the sharing takes them -/
structure Amts (as : List Int) : Prop where
  pos : AllPos as
  bnd : Bnd as
  small : as.length ≤ 1000
theorem Amts.sum_le {as : List Int} (h : Amts as) : as.sum ≤ 1000000000 := by
  have := bnd_sum h.bnd
  have := h.small
  omega
theorem Amts.sum_nn {as : List Int} (h : Amts as) : 0 ≤ as.sum := h.pos.sum_nn
theorem min_if (c s : Int) : (if s < c then s else c) = min c s := by
  by_cases h : s < c
  · rw [if_pos h, Int.min_eq_right (by omega)]
  · rw [if_neg h, Int.min_eq_left (by omega)]
theorem rep_zeros (as : List Int) (n : Int) (h : n = (as.length : Int)) : (List.replicate n.toNat [V.int 0]).flatten = (zeros as).map V.int := by
  rw [h, Int.toNat_natCast, List.flatten_replicate_singleton]
  unfold zeros
  rw [List.map_replicate]


end Rf
namespace Rf
open PySem PySem.Spec PyProof.Rows L2
/-- the list found is due: both of whole numbers -/
def spAre (K : PySem.W.Frag) : Sp := fun vs H Q _ => ∃ (a b : Addr) (xs ys : List Int), vs = [.ref a, .ref b] ∧ H a = some (.lst (xs.map V.int)) ∧ SqL K H b (ys.map V.int) ∧ ys.length ≤ 1000 ∧ Q (.bl (decide (xs = ys))) H
section
variable {P : Program} {w : World} {K : PySem.W.Frag} {mg : Str → Option Value} {base : Heap}
theorem sc_are : FnScope ["_law_found", "_law_due", "_law_k"] ["_law_found", "_law_due"] (defScope s_are) := ⟨rfl, rfl, rfl, by decide +kernel, rfl, by decide +kernel, by decide +kernel⟩
/- 0:_law_found 1:_law_due 2:_law_k -/
theorem ok_are {f : Addr} {fd : FuncData} (D : DefAt K mg "_law_are" s_are ["_law_found", "_law_due"] f fd) (m_range : mg "range" = none) (m_len : mg "len" = none) (m_isinstance : mg "isinstance" = none) (m_list : mg "list" = none) (m_bool : mg "bool" = none) (m_int : mg "int" = none) : FnOk P w K mg base CX0 1 f fd ["_law_found", "_law_due"] (spAre K) := by
  refine D.F.ok sc_are (fun vs H Q E h => ?_) (fun cdv A outer s H vs Q E hr h => ?_)
  · obtain ⟨a, b, xs, ys, rfl, _⟩ := h
    rfl
  · obtain ⟨a, b, xs, ys, rfl, ha, hb, hsm, k⟩ := h
    have lx : (xs.map V.int).length = xs.length := List.length_map _
    have ly : (ys.map V.int).length = ys.length := List.length_map _
    refine ⟨_, pss_cons (ps_if (PW.pt (pw_or (pt_not (pt_val (pe_callB (r := rIsi K) call_isi (by rfl) m_isinstance (by decide +kernel) (pa_cons (pv 0) (pa_cons (pe_bltn (v := .ty "list") (by rfl) m_list (by decide +kernel) rfl) pa_nil))))) (pw_or1 (pt_cmpR op_ne (pe_callB (r := rLen K) call_len (by rfl) m_len (by decide +kernel) (pa_cons (pv 0) pa_nil)) (pe_callB (r := rLen K) call_len (by rfl) m_len (by decide +kernel) (pa_cons (pv 1) pa_nil)) (nomark _))))) (pss_one (ps_ret pe_bl)) pss_nil)
        (pss_cons (ps_for PassesOwn.never rfl (pi_range1 (by rfl) m_range (pa_cons (pe_callB (r := rLen K) call_len (by rfl) m_len (by decide +kernel) (pa_cons (pv 1) pa_nil)) pa_nil)) (pg_name (i := 2) sc_are.nd rfl (.inl rfl)) (pss_one (ps_if (PW.pt (pw_or (pt_val (pe_callB (r := rIsi K) call_isi (by rfl) m_isinstance (by decide +kernel) (pa_cons (pe_ix (r := rIxL K) ix_list (pv 0) (pv 2) (fun _ _ => rfl)) (pa_cons (pe_bltn (v := .ty "bool") (by rfl) m_bool (by decide +kernel) rfl) pa_nil)))) (pw_or (pt_not (pt_val (pe_callB (r := rIsi K) call_isi (by rfl) m_isinstance (by decide +kernel) (pa_cons (pe_ix (r := rIxL K) ix_list (pv 0) (pv 2) (fun _ _ => rfl)) (pa_cons (pe_bltn (v := .ty "int") (by rfl) m_int (by decide +kernel) rfl) pa_nil))))) (pw_or1 (pt_cmpR op_ne (pe_ix (r := rIxL K) ix_list (pv 0) (pv 2) (fun _ _ => rfl)) (pe_ix (r := rIxL K) ix_list (pv 1) (pv 2) (fun _ _ => rfl)) (nomark _)))))) (pss_one (ps_ret pe_bl)) pss_nil)))
        (pss_one (ps_ret pe_bl))), ?_⟩
    refine sq_whenP (p := xs.length ≠ ys.length) (fun Q k => ?_) (fun hne => ?_) (fun hle => ?_)
    · refine ⟨_, rfl, _, _, .type "list", .type "list", true, rfl, .ty _, .base (.lst ha), kit_ty (by decide +kernel), _, rfl, iteF ?_⟩
      refine ⟨_, rfl, a, _, rfl, .inl (sq_of ha), _, rfl, b, _, rfl, .inl hb, rfl, _, rfl, ?_⟩
      have e : (!decide (V.int ((xs.map V.int).length : Int) = V.int ((ys.map V.int).length : Int))) = decide (xs.length ≠ ys.length) := by
        rw [dec_int, lx, ly]
        by_cases h : xs.length = ys.length
        · rw [h]; simp
        · rw [decide_eq_true (show xs.length ≠ ys.length from h)]
          have : ¬ ((xs.length : Int) = (ys.length : Int)) := by omega
          simp [this]
      rw [e]
      exact k
    · have e : decide (xs = ys) = false := decide_eq_false fun z => hne (by rw [z])
      rw [e] at k
      exact k
    · have hl : xs.length = ys.length := Classical.byContradiction hle
      refine sq_forR (ys.length : Int) (fun Q k => ⟨_, rfl, b, _, rfl, .inl hb, by rw [ly]; exact k⟩) (by omega)
        (fun i σ' H' => H' = H ∧ (∀ j, j < i → g xs j = g ys j) ∧ ∃ y, σ' = [some (.ref a), some (.ref b), y]) ⟨rfl, fun j hj => absurd hj (Nat.not_lt_zero _), none, rfl⟩ (fun i σ' H' hi hP => ?_) (fun σ' H' hP => ?_)
      · obtain ⟨rfl, he, y, rfl⟩ := hP
        have hi2 : i < ys.length := by omega
        have hi1 : i < xs.length := by omega
        refine if_ifP (p := g xs i ≠ g ys i) (fun Q k => ?_) (fun hne => ?_) (fun heq => ?_)
        · refine ⟨_, rfl, _, rfl, a, _, _, _, rfl, rfl, sq_of ha, atI_g rfl hi1, _, _, .type "int", .type "bool", false, rfl, .ty _, .base (.int _), kit_ty (by decide +kernel), _, rfl, iteF ?_⟩
          refine ⟨_, rfl, _, rfl, a, _, _, _, rfl, rfl, sq_of ha, atI_g rfl hi1, _, _, .type "int", .type "int", true, rfl, .ty _, .base (.int _), kit_ty (by decide +kernel), _, rfl, iteF ?_⟩
          refine ⟨_, rfl, _, rfl, a, _, _, _, rfl, rfl, sq_of ha, atI_g rfl hi1, _, rfl, _, rfl, b, _, _, _, rfl, rfl, hb, atI_g rfl hi2, rfl, _, rfl, ?_⟩
          have e : (!decide (V.int (g xs i) = V.int (g ys i))) = decide (g xs i ≠ g ys i) := by
            rw [dec_int]
            by_cases h : g xs i = g ys i
            · rw [h]; simp
            · simp [h]
          rw [e]
          exact k
        · have e : decide (xs = ys) = false := decide_eq_false fun z => hne (by rw [z])
          rw [e] at k
          exact k
        · refine sq_nx ⟨rfl, fun j hj => ?_, _, rfl⟩
          by_cases h : j < i
          · exact he j h
          · have : j = i := by omega
            subst this
            exact Classical.byContradiction heq
      · obtain ⟨rfl, he, y, rfl⟩ := hP
        have e : decide (xs = ys) = true := decide_eq_true (ext_g hl fun i hi => he i (by omega))
        rw [e] at k
        exact k
end


end Rf
namespace Rf
open PySem PySem.Spec PyProof.Rows L2
/-! ### what the program's clearings promise -/
def spBest (K : PySem.W.Frag) : Sp := fun vs H Q _ => ∃ (b ca cl : Addr) (ts : List Addr) (B : Bk), vs = [.ref b] ∧ BookAt K H b ca cl ts B ∧ Good B ∧ ∀ p H', H p = none → Same H H' → H' p = some (.lst ((bestOf B).map V.int)) → Q (.ref p) H'
def spWorst (K : PySem.W.Frag) : Sp := fun vs H Q _ => ∃ (b ca cl : Addr) (ts : List Addr) (B : Bk), vs = [.ref b] ∧ BookAt K H b ca cl ts B ∧ Good B ∧ ∀ p H', H p = none → Same H H' → H' p = some (.lst ((worstOf B).map V.int)) → Q (.ref p) H'
def spIsClr (K : PySem.W.Frag) : Sp := fun vs H Q _ => ∃ (b ca cl : Addr) (ts : List Addr) (B : Bk) (p : Addr) (P : List Int), vs = [.ref b, .ref p] ∧ BookAt K H b ca cl ts B ∧ Good B ∧ SqL K H p (P.map V.int) ∧ Pay B P ∧ ∀ H', Same H H' → Q (.bl (decide (behind B (houses B) P = P))) H'
def spLeft (K : PySem.W.Frag) : Sp := fun vs H Q _ => ∃ (b ca cl : Addr) (ts : List Addr) (B : Bk) (p : Addr) (P : List Int), vs = [.ref b, .ref p] ∧ BookAt K H b ca cl ts B ∧ Good B ∧ SqL K H p (P.map V.int) ∧ Pay B P ∧ ∀ q H', H q = none → Same H H' → H' q = some (.lst ((leftOf B P).map V.int)) → Q (.ref q) H'
theorem rgV_houses (B : Bk) : rgV 0 (B.cash.length : Int) = (houses B).map V.int := by
  unfold rgV houses
  rw [List.map_map, Int.sub_zero, Int.toNat_natCast]
  apply List.map_congr_left
  intro k _
  show V.int (0 + (k : Int)) = V.int (k : Int)
  rw [Int.zero_add]
theorem rgOk_len {n : Nat} (h : n ≤ 1000) : RgOk 0 (n : Int) := RgOk.of_le (by decide) (by omega) (by decide) (by omega)
theorem inV_ints {x : Int} {l : List Int} : inV (.int x) (l.map V.int) = decide (x ∈ l) := by
  unfold inV
  rw [List.any_map]
  by_cases h : x ∈ l
  · rw [decide_eq_true h]
    refine List.any_eq_true.mpr ⟨x, h, ?_⟩
    show (x == x) = true
    simp
  · rw [decide_eq_false h]
    refine List.any_eq_false.mpr fun y hy => ?_
    show ¬ (y == x) = true
    intro z
    have e : y = x := by simpa using z
    exact h (e ▸ hy)
theorem flat_ints (l : List Int) : (l.map V.int).all flatV = true := by
  rw [List.all_map]
  exact List.all_eq_true.mpr fun _ _ => rfl
theorem houses_len (B : Bk) : (houses B).length = B.cash.length := by
  unfold houses
  rw [List.length_map, List.length_range]
theorem houses_in (B : Bk) : ∀ x ∈ houses B, 0 ≤ x ∧ x < B.cash.length := fun _ h => mem_houses.mp h
/-- the law's list of all amounts -/
theorem allP_take {B : Bk} {j : Nat} (h : j < B.claims.length) : (allP B).take (j + 1) = (allP B).take j ++ [(B.clm j).a] := by
  have e : (allP B)[j]? = some (B.clm j).a := by
    unfold allP
    rw [List.getElem?_map, Bk.clm_get h]
    rfl
  rw [List.take_add_one, e]
  rfl
/-- the draws' start -/
theorem rng_start {H : Hp} {h c : Addr} {ns : List Int} {n : Int} (nc : H c = none) (nh : (upd H c (.lst (ns.map V.int))) h = none) (hns : ns.length ≤ 63) (n0 : 0 ≤ n) (n1 : n < 2147483647) : RngAt (upd (upd H c (.lst (ns.map V.int))) h (.lst [.int n, .ref c, .int 0])) h c := by
  have nhc : h ≠ c := fun z => by rw [z, upd_same] at nh; cases nh
  exact ⟨nhc, n, 0, ns, upd_same, by rw [upd_ne nhc.symm, upd_same], n0, n1, by decide, hns⟩


end Rf
namespace Rf
open PySem PySem.Spec PyProof.Rows L2
def spFailing (K : PySem.W.Frag) : Sp := fun vs H Q _ => ∃ (b ca cl : Addr) (ts : List Addr) (B : Bk), vs = [.ref b] ∧ BookAt K H b ca cl ts B ∧ Good B ∧ ∀ p H', H p = none → Same H H' → H' p = some (.lst ((failingOf B).map V.int)) → Q (.ref p) H'


end Rf
namespace Rf
open PySem PySem.Spec PyProof.Rows L2
/-! ### lists of lists; the waves, as the law tells them -/
def WavesAt (H : Hp) (ws : List Addr) (L : List (List Int)) : Prop := ws.length = L.length ∧ ∀ (i : Nat) (a : Addr) (l : List Int), ws[i]? = some a → L[i]? = some l → H a = some (.lst (l.map V.int))
theorem WavesAt.same {H H' : Hp} {ws : List Addr} {L : List (List Int)} (A : WavesAt H ws L) (s : Same H H') : WavesAt H' ws L := ⟨A.1, fun i a l h1 h2 => s _ _ (A.2 i a l h1 h2)⟩
theorem WavesAt.off {H : Hp} {ws : List Addr} {L : List (List Int)} {p : Addr} {o : HO} (A : WavesAt H ws L) (n : p ∉ ws) : WavesAt (upd H p o) ws L := ⟨A.1, fun i a l h1 h2 => by
  rw [upd_ne (fun z : a = p => n (by rw [← z]; exact List.mem_of_getElem? h1))]
  exact A.2 i a l h1 h2⟩
theorem WavesAt.app {H : Hp} {ws : List Addr} {L : List (List Int)} {p : Addr} {l : List Int} (A : WavesAt H ws L) (h : H p = some (.lst (l.map V.int))) : WavesAt H (ws ++ [p]) (L ++ [l]) := by
  refine ⟨by rw [List.length_append, List.length_append, A.1]; rfl, fun i a m h1 h2 => ?_⟩
  by_cases hi : i < ws.length
  · rw [List.getElem?_append_left hi] at h1
    rw [List.getElem?_append_left (by rw [← A.1]; exact hi)] at h2
    exact A.2 i a m h1 h2
  · have e : i = ws.length := by
      have := (List.getElem?_eq_some_iff.mp h1).1
      rw [List.length_append] at this
      have : i < ws.length + 1 := this
      omega
    subst e
    rw [List.getElem?_append_right (Nat.le_refl _), Nat.sub_self] at h1
    rw [List.getElem?_append_right (by rw [A.1]; exact Nat.le_refl _), A.1, Nat.sub_self] at h2
    cases h1
    cases h2
    exact h
/-- a new list of lists: each stands by itself -/
structure NewLists (H H' : Hp) (q : Addr) (ws : List Addr) (L : List (List Int)) : Prop where
  at_ : H' q = some (.lst (ws.map V.ref))
  nq : H q = none
  wa : WavesAt H' ws L
  nw : ∀ a ∈ ws, H a = none
  nd : ws.Nodup
  qn : q ∉ ws
theorem WavesAt.mem {H : Hp} {ws : List Addr} {L : List (List Int)} (A : WavesAt H ws L) {a : Addr} (h : a ∈ ws) : ∃ l : List Int, H a = some (.lst (l.map V.int)) := by
  obtain ⟨i, hi, rfl⟩ := List.mem_iff_getElem.mp h
  have hj : i < L.length := by rw [← A.1]; exact hi
  exact ⟨_, A.2 i _ _ (List.getElem?_eq_getElem hi) (List.getElem?_eq_getElem hj)⟩
theorem NewLists.same {H H' H2 : Hp} {q : Addr} {ws : List Addr} {L : List (List Int)} (A : NewLists H H' q ws L) (s : Same H' H2) : NewLists H H2 q ws L := ⟨s _ _ A.at_, A.nq, A.wa.same s, A.nw, A.nd, A.qn⟩
def waveUp (B : Bk) (F : List Int) (i : Nat) : List Int := ((houses B).take i).filter fun x => decide (x ∉ F) && decide (meansOf B x (topIn B F) < owedIn B x)
theorem waveUp_succ {B : Bk} {F : List Int} {i : Nat} (h : i < B.cash.length) : waveUp B F (i + 1) = waveUp B F i ++ (if decide ((i : Int) ∉ F) && decide (meansOf B (i : Int) (topIn B F) < owedIn B (i : Int)) then [(i : Int)] else []) := by
  unfold waveUp
  have e : (houses B)[i]? = some (i : Int) := by
    unfold houses
    rw [List.getElem?_map, List.getElem?_range h]
    rfl
  rw [List.take_add_one, e, List.filter_append]
  congr 1
  show List.filter _ [(i : Int)] = _
  rw [List.filter_cons, List.filter_nil]
theorem waveUp_all (B : Bk) (F : List Int) : waveUp B F B.cash.length = waveOf B F := by
  unfold waveUp waveOf
  rw [List.take_of_length_le (by unfold houses; rw [List.length_map, List.length_range]; exact Nat.le_refl _)]
theorem waveUp_len (B : Bk) (F : List Int) (i : Nat) : (waveUp B F i).length ≤ B.cash.length := by
  unfold waveUp
  refine Nat.le_trans (List.length_filter_le _ _) ?_
  rw [List.length_take, houses_len]
  exact Nat.min_le_right _ _
def spLWaves (K : PySem.W.Frag) : Sp := fun vs H Q _ => ∃ (b ca cl : Addr) (ts : List Addr) (B : Bk), vs = [.ref b] ∧ BookAt K H b ca cl ts B ∧ Good B ∧ ∀ q ws H', Same H H' → NewLists H H' q ws (wavesOf B) → Q (.ref q) H'
section
variable {P : Program} {w : World} {K : PySem.W.Frag} {mg : Str → Option Value} {base : Heap}
end


end Rf
namespace Rf
open PySem PySem.Spec PyProof.Rows L2
/-! ### the waves, put together -/
theorem waves_nodup {B : Bk} (G : Good B) : ∀ (f : Nat) {F : List Int}, Fallen B F → (F ++ (wavesFrom B f F).flatten).Nodup
  | 0, F, h => by
    unfold wavesFrom
    rw [List.flatten_nil, List.append_nil]
    exact h.nd
  | f + 1, F, h => by
    unfold wavesFrom
    by_cases e : waveOf B F = []
    · rw [if_pos e, List.flatten_nil, List.append_nil]
      exact h.nd
    · rw [if_neg e, List.flatten_cons, ← List.append_assoc]
      exact waves_nodup G f (fallen_more G h)
theorem waves_mem {B : Bk} (G : Good B) (x : Int) : x ∈ (wavesOf B).flatten ↔ x ∈ failingOf B := by
  have q := waves_all G (B.cash.length + 1) (fallen_nil B) (by show B.cash.length < 0 + _; omega) x
  rw [List.nil_append] at q
  exact q
theorem waves_nd {B : Bk} (G : Good B) : (wavesOf B).flatten.Nodup := by
  have q := waves_nodup G (B.cash.length + 1) (fallen_nil B)
  rw [List.nil_append] at q
  exact q
theorem waves_sorted {B : Bk} (G : Good B) {l : List Int} (hp : l.Perm (wavesOf B).flatten) (hs : l.Pairwise (· ≤ ·)) : l = failingOf B := by
  have hn : l.Nodup := hp.nodup_iff.mpr (waves_nd G)
  have hs2 : l.Pairwise (fun x y => id x < id y) := (hs.and hn).imp fun h => Int.lt_iff_le_and_ne.mpr h
  exact sorted_ext (f := id) hs2 (failing_sorted B) fun x => hp.mem_iff.trans (waves_mem G x)
theorem waves_len (B : Bk) : ∀ (f : Nat) (F : List Int), (wavesFrom B f F).length ≤ f
  | 0, F => Nat.le_refl _
  | f + 1, F => by
    unfold wavesFrom
    by_cases e : waveOf B F = []
    · rw [if_pos e]
      exact Nat.zero_le _
    · rw [if_neg e, List.length_cons]
      exact Nat.succ_le_succ (waves_len B f _)
theorem flat_len {B : Bk} (G : Good B) : (wavesOf B).flatten.length ≤ B.cash.length := by
  have q := nodup_sub_len (waves_nd G) (houses_nodup B) fun x hx => (mem_failing.mp ((waves_mem G x).mp hx)).1
  rw [houses_len] at q
  exact q
theorem flat_take {L : List (List Int)} {i : Nat} {l : List Int} (h : L[i]? = some l) : (L.take (i + 1)).flatten = (L.take i).flatten ++ l := by
  rw [List.take_add_one, h, List.flatten_append]
  congr 1
  show List.flatten [l] = l
  rw [List.flatten_cons, List.flatten_nil, List.append_nil]
theorem flat_le (L : List (List Int)) (i : Nat) : (L.take i).flatten.length ≤ L.flatten.length := by
  have q : (L.take i).flatten ++ (L.drop i).flatten = L.flatten := by rw [← List.flatten_append, List.take_append_drop]
  rw [← q, List.length_append]
  omega
theorem wave_le {L : List (List Int)} {i : Nat} {l : List Int} (h : L[i]? = some l) : l.length ≤ L.flatten.length := by
  have q := flat_le L (i + 1)
  rw [flat_take h, List.length_append] at q
  omega
/-! lists of lists as data -/
def dWaves (L : List (List Int)) : PyData := .list (L.map dInts)
theorem cl_dWaves {L : List (List Int)} : Cl 2 (dWaves L) := cl_list fun x hx => by
  obtain ⟨l, _, rfl⟩ := List.mem_map.mp hx
  exact cl_dInts
theorem sh_waves {L : List (List Int)} : SeqAt.shaped (dWaves L) = true := cl_dWaves.shaped (by decide)
theorem WavesAt.tail {H : Hp} {a : Addr} {ws : List Addr} {l : List Int} {L : List (List Int)} (A : WavesAt H (a :: ws) (l :: L)) : H a = some (.lst (l.map V.int)) ∧ WavesAt H ws L := by
  refine ⟨A.2 0 a l rfl rfl, ?_, fun i b m h1 h2 => A.2 (i + 1) b m (by simpa using h1) (by simpa using h2)⟩
  have q := A.1
  rw [List.length_cons, List.length_cons] at q
  omega
theorem dpAll_waves {K : PySem.W.Frag} {H : Hp} : ∀ {ws : List Addr} {L : List (List Int)}, WavesAt H ws L → DpAll K H (ws.map V.ref) (L.map dInts)
  | [], [], _ => .nil
  | [], _ :: _, A => by cases A.1
  | _ :: _, [], A => by cases A.1
  | a :: ws, l :: L, A => .cons (dp_ints (sq_of A.tail.1)) (dpAll_waves A.tail.2)
theorem dp_waves {K : PySem.W.Frag} {H : Hp} {q : Addr} {ws : List Addr} {L : List (List Int)} (h : H q = some (.lst (ws.map V.ref))) (A : WavesAt H ws L) : Dp K H (.ref q) (dWaves L) := .lst (sq_of h) (dpAll_waves A)
def failUp (B : Bk) (i : Nat) : List Int := ((houses B).take i).filter fun x => decide (paidOut B x (bestOf B) < owedIn B x)
theorem failUp_succ {B : Bk} {i : Nat} (h : i < B.cash.length) : failUp B (i + 1) = failUp B i ++ (if decide (paidOut B (i : Int) (bestOf B) < owedIn B (i : Int)) = true then [(i : Int)] else []) := by
  unfold failUp
  have e : (houses B)[i]? = some (i : Int) := by
    unfold houses
    rw [List.getElem?_map, List.getElem?_range h]
    rfl
  rw [List.take_add_one, e, List.filter_append]
  congr 1
  show List.filter _ [(i : Int)] = _
  rw [List.filter_cons, List.filter_nil]
theorem failUp_all (B : Bk) : failUp B B.cash.length = failingOf B := by
  unfold failUp failingOf
  rw [List.take_of_length_le (by unfold houses; rw [List.length_map, List.length_range]; exact Nat.le_refl _)]
theorem failUp_len (B : Bk) (i : Nat) : (failUp B i).length ≤ B.cash.length := by
  unfold failUp
  refine Nat.le_trans (List.length_filter_le _ _) ?_
  rw [List.length_take, houses_len]
  exact Nat.min_le_right _ _
def spWaves (K : PySem.W.Frag) : Sp := fun vs H Q _ => ∃ (b ca cl : Addr) (ts : List Addr) (B : Bk), vs = [.ref b] ∧ BookAt K H b ca cl ts B ∧ Good B ∧ ∀ q ws H', Same H H' → NewLists H H' q ws (wavesOf B) → Q (.ref q) H'


end Rf
namespace Rf
open PySem PySem.Spec PyProof.Rows L2
/-! ### the weaving of two books, as the law does it: lists that are written -/
def upTo (n i : Nat) : List Int := ((List.range n).drop i).map fun k : Nat => (k : Int)
theorem upTo_len (n i : Nat) : (upTo n i).length = n - i := by
  unfold upTo
  rw [List.length_map, List.length_drop, List.length_range]
theorem upTo_cons {n i : Nat} (h : i < n) : upTo n i = (i : Int) :: upTo n (i + 1) := by
  unfold upTo
  rw [List.drop_eq_getElem_cons (by rw [List.length_range]; exact h), List.map_cons, List.getElem_range]
theorem upTo_nil {n i : Nat} (h : upTo n i = []) : n ≤ i := by
  have := upTo_len n i
  rw [h] at this
  have e : ([] : List Int).length = 0 := rfl
  omega
theorem upTo_ne {n i : Nat} (h : upTo n i ≠ []) : i < n := Nat.lt_of_not_le fun z => h (List.eq_nil_of_length_eq_zero (by rw [upTo_len]; omega))
theorem rgV_up (n : Nat) : rgV 0 (n : Int) = (upTo n 0).map V.int := by
  unfold rgV upTo
  rw [List.map_map, Int.sub_zero, Int.toNat_natCast, List.drop_zero]
  apply List.map_congr_left
  intro k _
  show V.int (0 + (k : Int)) = V.int (k : Int)
  rw [Int.zero_add]
theorem pop0 {α : Type} {x : α} {l : List α} : PySem.seqIndex? 0 (x :: l).length = some 0 := by
  rw [seqIndex_of (by decide) (by rw [List.length_cons]; omega)]
  rfl
/-- pairs, each a tuple of its own -/
def SidesAt (H : Hp) (us : List Addr) (S : List (Int × Nat)) : Prop := us.length = S.length ∧ ∀ (i : Nat) (t : Addr) (p : Int × Nat), us[i]? = some t → S[i]? = some p → H t = some (.tup [.int p.1, .int (p.2 : Int)])
theorem SidesAt.same {H H' : Hp} {us : List Addr} {S : List (Int × Nat)} (A : SidesAt H us S) (s : Same H H') : SidesAt H' us S := ⟨A.1, fun i t r h1 h2 => s _ _ (A.2 i t r h1 h2)⟩
theorem SidesAt.put {H : Hp} {us : List Addr} {S : List (Int × Nat)} {p : Addr} {o : HO} {xs : List V} (A : SidesAt H us S) (hp : H p = some (.lst xs)) : SidesAt (L2.upd H p o) us S := ⟨A.1, fun i t r h1 h2 => by
  have z := A.2 i t r h1 h2
  rw [upd_ne (ne_of z hp (fun z => nomatch z))]
  exact z⟩
theorem SidesAt.app {H : Hp} {us : List Addr} {S : List (Int × Nat)} {t : Addr} {p : Int × Nat} (A : SidesAt H us S) (h : H t = some (.tup [.int p.1, .int (p.2 : Int)])) : SidesAt H (us ++ [t]) (S ++ [p]) := by
  refine ⟨by rw [List.length_append, List.length_append, A.1]; rfl, fun i u q h1 h2 => ?_⟩
  by_cases hi : i < us.length
  · rw [List.getElem?_append_left hi] at h1
    rw [List.getElem?_append_left (by rw [← A.1]; exact hi)] at h2
    exact A.2 i u q h1 h2
  · have e : i = us.length := by
      have := (List.getElem?_eq_some_iff.mp h1).1
      rw [List.length_append] at this
      have : i < us.length + 1 := this
      omega
    subst e
    rw [List.getElem?_append_right (Nat.le_refl _), Nat.sub_self] at h1
    rw [List.getElem?_append_right (by rw [A.1]; exact Nat.le_refl _), A.1, Nat.sub_self] at h2
    cases h1
    cases h2
    exact h
theorem SidesAt.off {H H' : Hp} {h c : Addr} {us : List Addr} {S : List (Int × Nat)} (A : SidesAt H us S) (R : RngAt H h c) (F : Fr h c H H') : SidesAt H' us S := ⟨A.1, fun i t r h1 h2 => by
  have z := A.2 i t r h1 h2
  refine F.off _ _ z fun n => ?_
  obtain ⟨ne, x, p, cells, e1, e2, _⟩ := R
  rcases n with n | n
  · rw [n, e1] at z; cases z
  · rw [n, e2] at z; cases z⟩
section
variable {ta : TA} {te : TE} {tz t u tu : TS} {c : TT} {D : Ends} {σ : L2.St} {H : Hp}
/-- x, y = two expressions -/
theorem sq_parP {i j : Nat} (R : V → V → Hp → Prop) (h : ∀ Q : List V → Hp → Prop, (∀ v w H', R v w H' → Q [v, w] H') → ta σ H Q) (k : ∀ v w H', R v w H' → tz D ((σ.set i (some v)).set j (some w)) H') : tSeq (tPar i j ta) tz D σ H := h _ fun v w H' r => ⟨v, w, rfl, k v w H' r⟩
/-- a block's last if, its answer open -/
theorem if_ifB (R : Bool → Hp → Prop) (h : ∀ Q : Bool → Hp → Prop, (∀ b H', R b H' → Q b H') → c σ H Q) (k1 : ∀ H', R true H' → t D σ H') (k2 : ∀ H', R false H' → u D σ H') : tIfS c t u D σ H := by
  refine h _ fun b H' r => ?_
  cases b with
  | true => exact iteT (k1 H' r)
  | false => exact iteF (k2 H' r)
/-- the last row of a block: an if (no else) whose word is False -/
theorem last_no (R : Hp → Prop) (h : ∀ Q : Bool → Hp → Prop, (∀ H', R H' → Q false H') → c σ H Q) (k : ∀ H', R H' → D.nx σ H') : tIfS c t tNext D σ H := h _ fun H' r => iteF (k H' r)
/-- for x in a tuple that is made -/
theorem sq_forTN {K : PySem.W.Frag} {tl : TE} {g : TG} {xs : List V} (h : ∀ Q : VK, (∀ p H', H p = none → Same H H' → H' p = some (.tup xs) → Q (.ref p) H') → tl σ H Q) (Pv : Addr → Nat → L2.St → Hp → Prop)
    (h0 : ∀ p H', H p = none → Same H H' → H' p = some (.tup xs) → Pv p 0 σ H') (hl : ∀ p i σ' H', i ≤ xs.length → Pv p i σ' H' → SqT K H' p xs)
    (hs : ∀ p i x σ' H', xs[i]? = some x → Pv p i σ' H' → g x σ' H' fun σ2 H2 => tu { D with nx := Pv p (i + 1), ct := Pv p (i + 1), bk := tz D } σ2 H2) (hd : ∀ p σ' H', Pv p xs.length σ' H' → tz D σ' H') : tSeq (tFor (iTup K tl) g tu) tz D σ H :=
  h _ fun p H' np s hp => ⟨p, rfl, ⟨xs, st_of hp⟩, for_tup (D := { D with nx := tz D }) (Pv p) (h0 p H' np s hp) (hl p) (hs p) (hd p)⟩
end


end Rf
namespace Rf
open PySem PySem.Spec PyProof.Rows L2
/-! ### the program's sharing -/
def spFirstCoins (K : PySem.W.Frag) : Sp := fun vs H Q _ => ∃ (a : Addr) (as : List Int) (c : Int), vs = [.ref a, .int c] ∧ SqL K H a (as.map V.int) ∧ Amts as ∧ 0 ≤ c ∧ c < as.sum ∧
  ∀ p H', H p = none → Same H H' → H' p = some (.lst ((startAt as (partsOf as c)).map V.int)) → Q (.ref p) H'
def spLeast (K : PySem.W.Frag) : Sp := fun vs H Q _ => ∃ (a p : Addr) (as ps : List Int), vs = [.ref a, .ref p] ∧ Two K H a p as ps ∧ ∀ H', Same H H' → Q (match firstUp as ps as.length with | none => V.non | some k => V.int (k : Int)) H'
def spShared (K : PySem.W.Frag) : Sp := fun vs H Q _ => ∃ (a : Addr) (as : List Int) (c : Int), vs = [.ref a, .int c] ∧ SqL K H a (as.map V.int) ∧ Amts as ∧
  ∀ p H', H p = none → Same H H' → H' p = some (.lst ((share as (max 0 c)).map V.int)) → Q (.ref p) H'
theorem max_if (c : Int) : (if c > 0 then c else 0) = max 0 c := by
  by_cases h : c > 0
  · rw [if_pos h, Int.max_eq_right (by omega)]
  · rw [if_neg h, Int.max_eq_left (by omega)]
def optV : Option Nat → V
  | none => .non
  | some k => .int (k : Int)
theorem startAt_len (as : List Int) (p : Int) : (startAt as p).length = as.length := by
  unfold startAt
  rw [List.length_map]
section
variable {P : Program} {w : World} {K : PySem.W.Frag} {mg : Str → Option Value} {base : Heap}
theorem sc_first_coins : FnScope ["amounts", "coins", "parts", "whole", "amount"] ["amounts", "coins"] (defScope s_first_coins) := ⟨rfl, rfl, rfl, by decide +kernel, rfl, by decide +kernel, by decide +kernel⟩
/- 0:amounts 1:coins 2:parts 3:whole 4:amount -/
theorem ok_first_coins {f : Addr} {fd : FuncData} (D : DefAt K mg "_first_coins" s_first_coins ["amounts", "coins"] f fd) (m_max : mg "max" = none) (m_len : mg "len" = none) (m_sum : mg "sum" = none) : FnOk P w K mg base CX0 1 f fd ["amounts", "coins"] (spFirstCoins K) := by
  refine D.F.ok sc_first_coins (fun vs H Q E h => ?_) (fun cdv A outer s H vs Q E hr h => ?_)
  · obtain ⟨a, as, c, rfl, _⟩ := h
    rfl
  · obtain ⟨a, as, c, rfl, ha, M, hc, hlt, k⟩ := h
    have la : (as.map V.int).length = as.length := List.length_map _
    have hs := M.sum_le
    have hsm := M.small
    have hp0 : 0 ≤ partsOf as c := by unfold partsOf; omega
    refine ⟨_, pss_cons (ps_set (i := 2) sc_first_coins.nd rfl (.inr rfl) (pe_callB (call_max2 rfl) (by rfl) m_max (by decide +kernel) (pa_cons pe_int (pa_cons (pe_op op_add (pe_op op_sub (pv 1) (pe_callB (r := rLen K) call_len (by rfl) m_len (by decide +kernel) (pa_cons (pv 0) pa_nil))) pe_int) pa_nil))))
        (pss_cons (ps_set (i := 3) sc_first_coins.nd rfl (.inr rfl) (pe_callB (r := rSum K) (cr_sum rfl) (by rfl) m_sum (by decide +kernel) (pa_cons (pv 0) pa_nil)))
        (pss_one (ps_ret (pe_lc (own := [("amount", 4)]) (g := gName 4) (tt := tYes) (by rfl) sc_first_coins.nd (pi_list (pv 0)) (blkOk_by (own := [("amount", 4)]) (N := ["amounts", "coins", "parts", "whole", "amount"]) (sc := defScope s_first_coins) (by decide +kernel)) (fun _ _ _ _ _ => (pg_name (i := 4) sc_first_coins.nd rfl (.inl rfl))) (fun _ _ _ _ _ => pts_nil) (fun _ _ _ _ _ => (pe_un un_neg (pe_op op_fdiv (pe_op op_mul (pe_un un_neg (pv 4)) (pv 2)) (pv 3)))))))), ?_⟩
    refine sq_val (.int (partsOf as c)) (fun Q k => ⟨_, rfl, _, rfl, a, _, rfl, .inl ha, _, _, rfl, rfl, _, _, rfl, rfl, _, _, rfl, ?_⟩) ?_
    · rw [max_if, la]
      exact k
    refine sq_val (.int as.sum) (fun Q k => ⟨_, rfl, a, as, rfl, ha, k⟩) ?_
    refine ⟨_, rfl, a, rfl, ⟨_, ha⟩, fun d nd => ?_⟩
    refine lc_list (xs := as.map V.int) (fun i H' => Same H H' ∧ H' d = some (.lst (((startAt as (partsOf as c)).take i).map V.int))) ⟨Same.new nd, by rw [upd_same]; rfl⟩ (fun i H' _ hP => hP.1.seq ha) (fun i x H' hx hP => ?_) (fun H' hP => ?_)
    · obtain ⟨s2, hd2⟩ := hP
      have hi : i < as.length := by
        have := (List.getElem?_eq_some_iff.mp hx).1
        rw [la] at this
        exact this
      have ex : x = .int (g as i) := by
        rw [List.getElem?_map, g_get hi] at hx
        exact (Option.some.inj hx).symm
      subst ex
      have b := M.bnd.g hi
      refine ⟨rfl, _, rfl, _, rfl, _, rfl, _, _, rfl, rfl, .inl ⟨by omega, by omega⟩, _, rfl, _, _, rfl, rfl, ⟨by omega, by omega⟩, _, rfl, _, hd2, ?_, Same.mut s2 nd, ?_⟩
      · rw [List.length_map, List.length_take]
        exact sz_lt (by omega)
      · rw [upd_same]
        have hg : (startAt as (partsOf as c))[i]? = some (-((-(g as i) * partsOf as c) / as.sum)) := by
          unfold startAt
          rw [List.getElem?_map, g_get hi]
          rfl
        rw [List.take_add_one, hg, List.map_append]
        rfl
    · obtain ⟨s2, hd2⟩ := hP
      refine k d H' nd s2 ?_
      rw [hd2, List.take_of_length_le (by rw [startAt_len, la]; exact Nat.le_refl _)]
theorem sc_least_paid : FnScope ["amounts", "paid", "least", "number", "amount"] ["amounts", "paid"] (defScope s_least_paid) := ⟨rfl, rfl, rfl, by decide +kernel, rfl, by decide +kernel, by decide +kernel⟩
/- 0:amounts 1:paid 2:least 3:number 4:amount -/
theorem ok_least_paid {f : Addr} {fd : FuncData} (D : DefAt K mg "_least_paid" s_least_paid ["amounts", "paid"] f fd) (m_enumerate : mg "enumerate" = none) : FnOk P w K mg base CX0 1 f fd ["amounts", "paid"] (spLeast K) := by
  refine D.F.ok sc_least_paid (fun vs H Q E h => ?_) (fun cdv A outer s H vs Q E hr h => ?_)
  · obtain ⟨a, p, as, ps, rfl, _⟩ := h
    rfl
  · obtain ⟨a, p, as, ps, rfl, T, k⟩ := h
    have la : (as.map V.int).length = as.length := List.length_map _
    refine ⟨_, pss_cons (ps_set (i := 2) sc_least_paid.nd rfl (.inl rfl) pe_non)
        (pss_cons (ps_for PassesOwn.never rfl (pi_enum (by rfl) m_enumerate (pa_cons (pv 0) pa_nil)) (pg_tup rfl (pgs_cons (pg_name (i := 3) sc_least_paid.nd rfl (.inl rfl)) (pgs_cons (pg_name (i := 4) sc_least_paid.nd rfl (.inl rfl)) pgs_nil))) (pss_one (ps_if (PW.pt (pw_and (pt_cmpR op_lt (pe_ix (r := rIxL K) ix_list (pv 1) (pv 3) (fun _ _ => rfl)) (pv 4) (nomark _)) (pw_and1 (PW.pt (pw_or (pt_cmpR op_isN (pv 2) pe_non (nomark _)) (pw_or1 (pt_cmpR op_lt (pe_op op_mul (pe_ix (r := rIxL K) ix_list (pv 1) (pv 3) (fun _ _ => rfl)) (pe_ix (r := rIxL K) ix_list (pv 0) (pv 2) (fun _ _ => rfl))) (pe_op op_mul (pe_ix (r := rIxL K) ix_list (pv 1) (pv 2) (fun _ _ => rfl)) (pv 4)) (nomark _)))))))) (pss_one (ps_set (i := 2) sc_least_paid.nd rfl (.inl rfl) (pv 3))) pss_nil)))
        (pss_one (ps_ret (pv 2)))), ?_⟩
    refine sq_val .non (fun Q k => k) ?_
    refine sq_forE (xs := as.map V.int) (fun Q k => ⟨_, rfl, k⟩) T.ha
      (fun i σ' H' => Same H H' ∧ ∃ y z, σ' = [some (.ref a), some (.ref p), some (optV (firstUp as ps i)), y, z]) ⟨Same.refl _, none, none, rfl⟩ (fun i σ' H' _ hP => hP.1.seq T.ha) (fun i x U σ' H' hx hP hU => ?_) (fun σ' H' hP => ?_)
    · obtain ⟨s1, y, z, rfl⟩ := hP
      have hi1 : i < as.length := by
        have := (List.getElem?_eq_some_iff.mp hx).1
        rw [la] at this
        exact this
      have ex : x = .int (g as i) := by
        rw [List.getElem?_map, g_get hi1] at hx
        exact (Option.some.inj hx).symm
      subst ex
      have hi2 : i < ps.length := by rw [T.len]; exact hi1
      have b1 := T.ba.g hi1
      have b2 := T.bp.g hi2
      have s2 : Same H (upd H' U (.tup [.int (i : Int), .int (g as i)])) := s1.trans (Same.new hU)
      have T2 := T.same s2
      refine ⟨U, _, rfl, st_of upd_same, rfl, _, _, rfl, _, _, rfl, rfl, ?_⟩
      refine if_ifP (p := g ps i < g as i ∧ ∀ f0, firstUp as ps i = some f0 → g ps i * g as f0 < g ps f0 * g as i) (fun Q k => ?_) (fun hyes => ?_) (fun hno => ?_)
      · refine ⟨_, rfl, _, rfl, p, _, _, _, rfl, rfl, T2.hp, atI_g rfl hi2, _, rfl, _, _, rfl, rfl, _, rfl, ?_⟩
        by_cases hlt : g ps i < g as i
        · rw [decide_eq_true hlt]
          refine iteT ⟨_, rfl, rfl, _, rfl, ?_⟩
          cases e : firstUp as ps i with
          | none =>
            refine iteT ?_
            have q : decide (g ps i < g as i ∧ ∀ f0, firstUp as ps i = some f0 → g ps i * g as f0 < g ps f0 * g as i) = true := decide_eq_true ⟨hlt, fun f0 z => by rw [e] at z; cases z⟩
            rw [q] at k
            exact k
          | some f0 =>
            have hf := fu_lt e
            have hf1 : f0 < as.length := by omega
            have hf2 : f0 < ps.length := by rw [T.len]; exact hf1
            have b4 := T.bp.g hf2
            refine iteF ⟨_, rfl, _, rfl, p, _, _, _, rfl, rfl, T2.hp, atI_g rfl hi2, _, rfl, _, rfl, a, _, _, _, rfl, rfl, T2.ha, atI_g rfl hf1, _, _, rfl, rfl, cmul_of b2, _, rfl, _, rfl, p, _, _, _, rfl, rfl, T2.hp, atI_g rfl hf2, _, rfl, _, _, rfl, rfl, cmul_of b4, _, _, rfl, rfl, _, rfl, ?_⟩
            have q : decide (g ps i * g as f0 < g ps f0 * g as i) = decide (g ps i < g as i ∧ ∀ f1, firstUp as ps i = some f1 → g ps i * g as f1 < g ps f1 * g as i) := by
              apply decide_eq_decide.mpr
              constructor
              · intro h
                refine ⟨hlt, fun f1 z => ?_⟩
                rw [e] at z
                cases z
                exact h
              · intro h
                exact h.2 f0 e
            rw [q]
            exact k
        · rw [decide_eq_false hlt]
          refine iteF ?_
          rw [decide_eq_false (fun z => hlt z.1)] at k
          exact k
      · refine ⟨_, rfl, s2, ?_⟩
        have e2 : firstUp as ps (i + 1) = some i := by
          cases e : firstUp as ps i with
          | none => exact fu_first hyes.1 e
          | some f0 => exact fu_less hyes.1 e (hyes.2 f0 e)
        rw [e2]
        exact ⟨_, _, rfl⟩
      · refine sq_nx ⟨s2, ?_⟩
        have e2 : firstUp as ps (i + 1) = firstUp as ps i := by
          by_cases hlt : g ps i < g as i
          · cases e : firstUp as ps i with
            | none => exact absurd ⟨hlt, fun f0 z => by rw [e] at z; cases z⟩ hno
            | some f0 =>
              refine fu_keep e fun h => hno ⟨hlt, fun f1 z => ?_⟩
              rw [e] at z
              cases z
              exact h
          · exact fu_skip hlt
        rw [e2]
        exact ⟨_, _, rfl⟩
    · obtain ⟨s1, y, z, rfl⟩ := hP
      rw [la]
      refine ⟨_, rfl, ?_⟩
      have q := k H' s1
      cases e : firstUp as ps as.length with
      | none => rw [e] at q; exact q
      | some f0 => rw [e] at q; exact q
theorem sc_shared : FnScope ["amounts", "coins", "whole", "paid", "_"] ["amounts", "coins"] (defScope s_shared) := ⟨rfl, rfl, rfl, by decide +kernel, rfl, by decide +kernel, by decide +kernel⟩
/- 0:amounts 1:coins 2:whole 3:paid 4:_ -/
theorem ok_shared {f : Addr} {fd : FuncData} (D : DefAt K mg "shared" s_shared ["amounts", "coins"] f fd) (m_range : mg "range" = none) (m_len : mg "len" = none) (m_max : mg "max" = none) (m_sum : mg "sum" = none) (m_list : mg "list" = none) (m_enumerate : mg "enumerate" = none)
    {f1 : Addr} {fd1 : FuncData} (D_first_coins : DefAt K mg "_first_coins" s_first_coins ["amounts", "coins"] f1 fd1)
    {f2 : Addr} {fd2 : FuncData} (D_least_paid : DefAt K mg "_least_paid" s_least_paid ["amounts", "paid"] f2 fd2) : FnOk P w K mg base CX0 2 f fd ["amounts", "coins"] (spShared K) := by
  have G_first_coins : FnOk P w K mg base CX0 1 f1 fd1 ["amounts", "coins"] (spFirstCoins K) := ok_first_coins D_first_coins m_max m_len m_sum
  have G_least_paid : FnOk P w K mg base CX0 1 f2 fd2 ["amounts", "paid"] (spLeast K) := ok_least_paid D_least_paid m_enumerate
  refine D.F.ok sc_shared (fun vs H Q E h => ?_) (fun cdv A outer s H vs Q E hr h => ?_)
  · obtain ⟨a, as, c, rfl, _⟩ := h
    rfl
  · obtain ⟨a, as, c, rfl, ha, M, k⟩ := h
    have hs := M.sum_le
    have hs0 := M.sum_nn
    have hsm := M.small
    refine ⟨_, pss_cons (ps_set (i := 2) sc_shared.nd rfl (.inl rfl) (pe_callB (r := rSum K) (cr_sum rfl) (by rfl) m_sum (by decide +kernel) (pa_cons (pv 0) pa_nil)))
        (pss_cons (ps_set (i := 1) sc_shared.nd rfl (.inl rfl) (pe_callB (call_max2 rfl) (by rfl) m_max (by decide +kernel) (pa_cons pe_int (pa_cons (pv 1) pa_nil))))
        (pss_cons (ps_if (pt_cmpR op_ge (pv 1) (pv 2) (nomark _)) (pss_one (ps_ret (pe_callTy (r := rListOf K) call_listOf (by rfl) m_list (by decide +kernel) (pa_cons (pv 0) pa_nil)))) pss_nil)
        (pss_cons (ps_set (i := 3) sc_shared.nd rfl (.inl rfl) (pe_call G_first_coins (hr.mono (by decide)) (by rfl) D_first_coins.g D_first_coins.F.kp D_first_coins.b .nil pass0 (pa_cons (pv 0) (pa_cons (pv 1) pa_nil))))
        (pss_cons (ps_for PassesOwn.never rfl (pi_range1 (by rfl) m_range (pa_cons (pe_op op_sub (pv 1) (pe_callB (r := rSum K) (cr_sum rfl) (by rfl) m_sum (by decide +kernel) (pa_cons (pv 3) pa_nil))) pa_nil)) (pg_name (i := 4) sc_shared.nd rfl (.inl rfl)) (pss_one (ps_augS (pv 3) (pe_call G_least_paid (hr.mono (by decide)) (by rfl) D_least_paid.g D_least_paid.F.kp D_least_paid.b .nil pass0 (pa_cons (pv 0) (pa_cons (pv 3) pa_nil))) get_list pe_int ip_add set_list)))
        (pss_one (ps_ret (pv 3))))))), ?_⟩
    refine sq_val (.int as.sum) (fun Q k => ⟨_, rfl, a, as, rfl, ha, k⟩) ?_
    refine sq_val (.int (max 0 c)) (fun Q k => ⟨_, rfl, _, _, rfl, by rw [max_if]; exact k⟩) ?_
    refine sq_whenP (p := as.sum ≤ max 0 c) (fun Q k => ⟨_, rfl, _, rfl, _, _, rfl, rfl, _, rfl, k⟩) (fun hge => ?_) (fun hlt => ?_)
    · refine ⟨_, rfl, a, _, rfl, .inl ha, fun l nl => k l _ nl (Same.new nl) ?_⟩
      rw [upd_same, ← full_share M.pos (by omega) hge]
    · refine sq_new (.lst ((startAt as (partsOf as (max 0 c))).map V.int)) (fun Q k => ⟨_, rfl, _, rfl, a, as, _, rfl, ha, M, by omega, by omega, k⟩) (fun p H1 np s1 hp => ?_)
      have hst := start_sum (c := max 0 c) M.pos (by omega) (by omega)
      have ne : as ≠ [] := fun z => by subst z; simp at hlt; omega
      have hl0 : 0 < as.length := List.length_pos_iff.mpr ne
      have V0 := start_valid (a := as) (p := partsOf as (max 0 c)) M.pos (by unfold partsOf; omega) (by unfold partsOf; omega) (by omega)
      have n0 := V0.sum_nn
      refine sq_forR (max 0 c - (startAt as (partsOf as (max 0 c))).sum) (fun Q k => ⟨_, rfl, _, rfl, p, _, rfl, sq_of hp, _, _, rfl, rfl, k⟩) (by omega)
        (fun i σ' H' => Same H H' ∧ H' p = some (.lst ((steps as i (startAt as (partsOf as (max 0 c)))).map V.int)) ∧ ∃ y, σ' = [some (.ref a), some (.int (max 0 c)), some (.int as.sum), some (.ref p), y]) ⟨s1, hp, none, rfl⟩ (fun i σ' H' hi hP => ?_) (fun σ' H' hP => ?_)
      · obtain ⟨s2, hp2, y, rfl⟩ := hP
        obtain ⟨W, sm⟩ := steps_ok M.pos V0 i (by omega)
        obtain ⟨f0, e, F⟩ := exists_first W (by omega) M.pos
        have hf2 : f0 < (steps as i (startAt as (partsOf as (max 0 c)))).length := by rw [W.len]; exact F.lt
        refine ⟨_, rfl, _, rfl, _, rfl, a, p, as, _, rfl, ⟨s2.seq ha, sq_of hp2, W.len, M.small, M.bnd, bnd_valid M.bnd W⟩, fun H3 s3 => ?_⟩
        rw [e]
        have hp3 := s3 _ _ hp2
        refine ⟨p, _, _, _, rfl, rfl, sq_of hp3, atI_g rfl hf2, _, _, rfl, rfl, p, _, _, f0, rfl, rfl, hp3, ixN_nat rfl (by rw [List.length_map]; exact hf2), ?_⟩
        refine ⟨Same.mut (s2.trans s3) np, ?_, _, rfl⟩
        rw [upd_same, map_set]
        show _ = some (HO.lst ((nextS as _).map V.int))
        rw [nextS_of e]
      · obtain ⟨s2, hp2, y, rfl⟩ := hP
        refine ⟨_, rfl, k p H' np s2 ?_⟩
        rw [hp2, prog_share M.pos (by omega) (by omega)]
end


end Rf
namespace Rf
open PySem PySem.Spec PyProof.Rows L2
/-! ### the program's books, where they are books -/
structure Lims (mg : Str → Option Value) : Prop where
  houses : ∃ t, mg "MOST_HOUSES" = some (.int 8 t)
  cash : ∃ t, mg "MOST_CASH" = some (.int 999 t)
  claims : ∃ t, mg "MOST_CLAIMS" = some (.int 24 t)
  amount : ∃ t, mg "MOST_AMOUNT" = some (.int 999 t)
  rank : ∃ t, mg "MOST_RANK" = some (.int 9 t)
def spWrong (K : PySem.W.Frag) : Sp := fun vs H Q _ => ∃ (t : Addr) (n : Int) (q : Clm), vs = [.ref t, .int n] ∧ SqT K H t [.int q.d, .int q.c, .int q.a, .int q.r] ∧ GoodC n q ∧ Q .non H
def spNeed (K : PySem.W.Frag) : Sp := fun vs H Q _ => ∃ (b ca cl : Addr) (ts : List Addr) (B : Bk), vs = [.ref b] ∧ BookAt K H b ca cl ts B ∧ Good B ∧ ∀ H', Same H H' → Q .non H'
def spNeedHs (K : PySem.W.Frag) : Sp := fun vs H Q _ => ∃ (b ca cl : Addr) (ts : List Addr) (B : Bk) (l : Addr) (xs : List Int), vs = [.ref b, .ref l] ∧ BookAt K H b ca cl ts B ∧ Good B ∧ SqL K H l (xs.map V.int) ∧ (∀ x ∈ xs, 0 ≤ x ∧ x < B.cash.length) ∧ ∀ H', Same H H' → Q .non H'
def spNeedH (K : PySem.W.Frag) : Sp := fun vs H Q _ => ∃ (b ca cl : Addr) (ts : List Addr) (B : Bk) (x : Int), vs = [.ref b, .int x] ∧ BookAt K H b ca cl ts B ∧ Good B ∧ 0 ≤ x ∧ x < B.cash.length ∧ ∀ H', Same H H' → Q .non H'
section
variable {P : Program} {w : World} {K : PySem.W.Frag} {mg : Str → Option Value} {base : Heap}
theorem sc_wrong : FnScope ["claim", "houses", "debtor", "creditor", "amount", "rank"] ["claim", "houses"] (defScope s_wrong) := ⟨rfl, rfl, rfl, by decide +kernel, rfl, by decide +kernel, by decide +kernel⟩
/- 0:claim 1:houses 2:debtor 3:creditor 4:amount 5:rank -/
theorem ok_wrong {f : Addr} {fd : FuncData} (D : DefAt K mg "_wrong_in_claim" s_wrong ["claim", "houses"] f fd) (L : Lims mg) : FnOk P w K mg base CX0 1 f fd ["claim", "houses"] (spWrong K) := by
  obtain ⟨t1, m_MOST_AMOUNT⟩ := L.amount
  obtain ⟨t2, m_MOST_RANK⟩ := L.rank
  refine D.F.ok sc_wrong (fun vs H Q E h => ?_) (fun cdv A outer s H vs Q E hr h => ?_)
  · obtain ⟨t, n, q, rfl, _⟩ := h
    rfl
  · obtain ⟨t, n, q, rfl, ht, Gc, k⟩ := h
    have ne : decide (V.int q.d = V.int q.c) = false := decide_eq_false fun z => Gc.ne (V.int.inj z)
    refine ⟨_, pss_cons (ps_asg (pv 0) (pg_tup rfl (pgs_cons (pg_name (i := 2) sc_wrong.nd rfl (.inl rfl)) (pgs_cons (pg_name (i := 3) sc_wrong.nd rfl (.inl rfl)) (pgs_cons (pg_name (i := 4) sc_wrong.nd rfl (.inl rfl)) (pgs_cons (pg_name (i := 5) sc_wrong.nd rfl (.inl rfl)) pgs_nil))))))
        (pss_cons (ps_if (PW.pt (pw_or (pt_not (PW.pt (pw_and (pt_chain op_le op_lt pe_int (pv 2) (pv 1)) (pw_and1 (pt_chain op_le op_lt pe_int (pv 3) (pv 1)))))) (pw_or1 (pt_cmpR op_eq (pv 2) (pv 3) (nomark _))))) (pss_one (ps_ret pe_str)) pss_nil)
        (pss_cons (ps_if (pt_not (pt_chain op_le op_le pe_int (pv 4) (pe_glob (v := .int 999) (by rfl) m_MOST_AMOUNT ⟨_, rfl⟩))) (pss_one (ps_ret pe_str)) pss_nil)
        (pss_cons (ps_if (pt_not (pt_chain op_le op_le pe_int (pv 5) (pe_glob (v := .int 9) (by rfl) m_MOST_RANK ⟨_, rfl⟩))) (pss_one (ps_ret pe_str)) pss_nil)
        (pss_one (ps_ret pe_non))))), ?_⟩
    refine sq_tup4 (fun Q k => ⟨_, rfl, k⟩) ht ?_
    refine sq_no (fun H' => H' = H) (fun Q k => ?_) (fun H' e => ?_)
    · refine ⟨_, rfl, _, _, rfl, rfl, true, dec_t Gc.d0, iteT ⟨_, rfl, _, _, rfl, rfl, true, dec_t Gc.d1, iteT ?_⟩⟩
      refine ⟨_, rfl, _, _, rfl, rfl, true, dec_t Gc.c0, iteT ⟨_, rfl, _, _, rfl, rfl, true, dec_t Gc.c1, iteF ?_⟩⟩
      refine ⟨_, rfl, _, rfl, rfl, ?_⟩
      rw [ne]
      exact ⟨_, rfl, k H rfl⟩
    subst e
    refine sq_no (fun H1 => H1 = H') (fun Q k => ?_) (fun H1 e => ?_)
    · exact ⟨_, rfl, _, _, rfl, rfl, true, dec_t Gc.a0, iteT ⟨_, _, rfl, rfl, true, dec_t Gc.a1, k H' rfl⟩⟩
    subst e
    refine sq_no (fun H2 => H2 = H1) (fun Q k => ?_) (fun H2 e => ?_)
    · exact ⟨_, rfl, _, _, rfl, rfl, true, dec_t Gc.r0, iteT ⟨_, _, rfl, rfl, true, dec_t Gc.r1, k H1 rfl⟩⟩
    subst e
    exact k
theorem sc_need : FnScope ["book", "cash", "claims", "houses", "house", "coins", "number", "claim", "wrong"] ["book"] (defScope s_need) := ⟨rfl, rfl, rfl, by decide +kernel, rfl, by decide +kernel, by decide +kernel⟩
/- 0:book 1:cash 2:claims 3:houses 4:house 5:coins 6:number 7:claim 8:wrong -/
theorem ok_need {f : Addr} {fd : FuncData} (D : DefAt K mg "need_book" s_need ["book"] f fd) (L : Lims mg) (m_len : mg "len" = none) (m_enumerate : mg "enumerate" = none)
    {f1 : Addr} {fd1 : FuncData} (D_wrong : DefAt K mg "_wrong_in_claim" s_wrong ["claim", "houses"] f1 fd1) : FnOk P w K mg base CX0 2 f fd ["book"] (spNeed K) := by
  have G_wrong : FnOk P w K mg base CX0 1 f1 fd1 ["claim", "houses"] (spWrong K) := ok_wrong D_wrong L
  obtain ⟨t1, m_MOST_HOUSES⟩ := L.houses
  obtain ⟨t2, m_MOST_CASH⟩ := L.cash
  obtain ⟨t3, m_MOST_CLAIMS⟩ := L.claims
  refine D.F.ok sc_need (fun vs H Q E h => ?_) (fun cdv A outer s H vs Q E hr h => ?_)
  · obtain ⟨b, ca, cl, ts, B, rfl, _⟩ := h
    rfl
  · obtain ⟨b, ca, cl, ts, B, rfl, A, G, k⟩ := h
    have lc : (B.cash.map V.int).length = B.cash.length := List.length_map _
    have lq : (ts.map V.ref).length = B.claims.length := by rw [List.length_map, A.hq.1]
    have n0 := G.n0
    have n1 := G.n1
    have m1 := G.m1
    refine ⟨_, pss_cons (ps_asg (pv 0) (pg_tup rfl (pgs_cons (pg_name (i := 1) sc_need.nd rfl (.inl rfl)) (pgs_cons (pg_name (i := 2) sc_need.nd rfl (.inl rfl)) pgs_nil))))
        (pss_cons (ps_set (i := 3) sc_need.nd rfl (.inl rfl) (pe_callB (r := rLen K) call_len (by rfl) m_len (by decide +kernel) (pa_cons (pv 1) pa_nil)))
        (pss_cons (ps_if (pt_not (pt_chain op_le op_le pe_int (pv 3) (pe_glob (v := .int 8) (by rfl) m_MOST_HOUSES ⟨_, rfl⟩))) (pss_one ps_never) pss_nil)
        (pss_cons (ps_for PassesOwn.never rfl (pi_enumT (by rfl) m_enumerate (pa_cons (pv 1) pa_nil)) (pg_tup rfl (pgs_cons (pg_name (i := 4) sc_need.nd rfl (.inl rfl)) (pgs_cons (pg_name (i := 5) sc_need.nd rfl (.inl rfl)) pgs_nil))) (pss_one (ps_if (pt_not (pt_chain op_le op_le pe_int (pv 5) (pe_glob (v := .int 999) (by rfl) m_MOST_CASH ⟨_, rfl⟩))) (pss_one ps_never) pss_nil)))
        (pss_cons (ps_if (pt_cmpR op_gt (pe_callB (r := rLen K) call_len (by rfl) m_len (by decide +kernel) (pa_cons (pv 2) pa_nil)) (pe_glob (v := .int 24) (by rfl) m_MOST_CLAIMS ⟨_, rfl⟩) (nomark _)) (pss_one ps_never) pss_nil)
        (pss_one (ps_for PassesOwn.never rfl (pi_enumT (by rfl) m_enumerate (pa_cons (pv 2) pa_nil)) (pg_tup rfl (pgs_cons (pg_name (i := 6) sc_need.nd rfl (.inl rfl)) (pgs_cons (pg_name (i := 7) sc_need.nd rfl (.inl rfl)) pgs_nil))) (pss_cons (ps_set (i := 8) sc_need.nd rfl (.inl rfl) (pe_call G_wrong (hr.mono (by decide)) (by rfl) D_wrong.g D_wrong.F.kp D_wrong.b .nil pass0 (pa_cons (pv 7) (pa_cons (pv 3) pa_nil))))
          (pss_one (ps_if (pt_cmpR op_notN (pv 8) pe_non (nomark _)) (pss_one ps_never) pss_nil))))))))), ?_⟩
    refine sq_tup2 (fun Q k => ⟨_, rfl, k⟩) A.hb ?_
    refine sq_val (.int (B.cash.length : Int)) (fun Q k => ⟨_, rfl, ca, _, rfl, .inr A.hca, by rw [lc]; exact k⟩) ?_
    refine sq_no (fun H' => H' = H) (fun Q k => ?_) (fun H' e => ?_)
    · exact ⟨_, rfl, _, _, rfl, rfl, true, dec_t (show (1 : Int) ≤ (B.cash.length : Int) by omega), iteT ⟨_, _, rfl, rfl, true, dec_t (show (B.cash.length : Int) ≤ 8 by omega), k H rfl⟩⟩
    subst e
    refine sq_forET (xs := B.cash.map V.int) (fun Q k => ⟨_, rfl, k⟩) A.hca
      (fun i σ' H1 => Same H' H1 ∧ ∃ y5 y6 y7 y8 y9, σ' = [some (.ref b), some (.ref ca), some (.ref cl), some (.int (B.cash.length : Int)), y5, y6, y7, y8, y9]) ⟨Same.refl _, none, none, none, none, none, rfl⟩ (fun i σ' H1 _ hP => Same.tup hP.1 A.hca) (fun i x U σ' H1 hx hP hU => ?_) (fun σ' H1 hP => ?_)
    · obtain ⟨s1, y5, y6, y7, y8, y9, rfl⟩ := hP
      obtain ⟨rfl, hi⟩ := map_int_get hx
      have gx := G.cash _ (g_mem hi)
      refine ⟨U, _, rfl, st_of upd_same, rfl, _, _, rfl, _, _, rfl, rfl, ?_⟩
      refine ⟨_, rfl, _, _, rfl, rfl, true, dec_t gx.1, iteT ⟨_, _, rfl, rfl, true, dec_t gx.2, iteF ?_⟩⟩
      exact ⟨s1.trans (Same.new hU), _, _, _, _, _, rfl⟩
    obtain ⟨s1, y5, y6, y7, y8, y9, rfl⟩ := hP
    have A1 := A.same s1
    refine sq_no (fun H2 => H2 = H1) (fun Q k => ?_) (fun H2 e => ?_)
    · refine ⟨_, rfl, cl, _, rfl, .inr A1.hcl, _, _, rfl, rfl, false, ?_, k H1 rfl⟩
      rw [lq]
      exact dec_f (show ¬ ((24 : Int) < (B.claims.length : Int)) by omega)
    subst e
    refine last_for ?_
    refine sq_forET (xs := ts.map V.ref) (fun Q k => ⟨_, rfl, k⟩) A1.hcl
      (fun i σ' H3 => Same H' H3 ∧ ∃ y5 y6 y7 y8 y9, σ' = [some (.ref b), some (.ref ca), some (.ref cl), some (.int (B.cash.length : Int)), y5, y6, y7, y8, y9]) ⟨s1, _, _, _, _, _, rfl⟩ (fun i σ' H3 _ hP => Same.tup hP.1 A.hcl) (fun i x U σ' H3 hx hP hU => ?_) (fun σ' H3 hP => ?_)
    · obtain ⟨s3, y5, y6, y7, y8, y9, rfl⟩ := hP
      obtain ⟨t, rfl, ht⟩ := map_ref_get hx
      have hi : i < B.claims.length := by
        rw [← A.hq.1]
        exact (List.getElem?_eq_some_iff.mp ht).1
      have hq := A.hq.2 i t _ ht (Bk.clm_get hi)
      have s4 := s3.trans (Same.new hU (o := .tup [.int (i : Int), .ref t]))
      refine ⟨U, _, rfl, st_of upd_same, rfl, _, _, rfl, _, _, rfl, rfl, ?_⟩
      refine sq_val .non (fun Q k => ⟨_, rfl, _, rfl, t, _, B.clm i, rfl, Same.tup s4 hq, G.clm hi, k⟩) ?_
      exact ⟨_, rfl, rfl, _, rfl, iteF ⟨s4, _, _, _, _, _, rfl⟩⟩
    · exact k H3 hP.1
theorem sc_needhs : FnScope ["book", "houses", "cash", "_", "house"] ["book", "houses"] (defScope s_needhs) := ⟨rfl, rfl, rfl, by decide +kernel, rfl, by decide +kernel, by decide +kernel⟩
/- 0:book 1:houses 2:cash 3:_ 4:house -/
theorem ok_needhs {f : Addr} {fd : FuncData} (D : DefAt K mg "need_houses" s_needhs ["book", "houses"] f fd) (L : Lims mg) (m_len : mg "len" = none) (m_enumerate : mg "enumerate" = none)
    {f1 : Addr} {fd1 : FuncData} (D_wrong : DefAt K mg "_wrong_in_claim" s_wrong ["claim", "houses"] f1 fd1)
    {f2 : Addr} {fd2 : FuncData} (D_need : DefAt K mg "need_book" s_need ["book"] f2 fd2) : FnOk P w K mg base CX0 3 f fd ["book", "houses"] (spNeedHs K) := by
  have G_need : FnOk P w K mg base CX0 2 f2 fd2 ["book"] (spNeed K) := ok_need D_need L m_len m_enumerate D_wrong
  refine D.F.ok sc_needhs (fun vs H Q E h => ?_) (fun cdv A outer s H vs Q E hr h => ?_)
  · obtain ⟨b, ca, cl, ts, B, l, xs, rfl, _⟩ := h
    rfl
  · obtain ⟨b, ca, cl, ts, B, l, xs, rfl, A, G, hx, hin, k⟩ := h
    have lc : (B.cash.map V.int).length = B.cash.length := List.length_map _
    refine ⟨_, pss_cons (ps_expr (pe_call G_need (hr.mono (by decide)) (by rfl) D_need.g D_need.F.kp D_need.b .nil pass0 (pa_cons (pv 0) pa_nil)))
        (pss_cons (ps_asg (pv 0) (pg_tup rfl (pgs_cons (pg_name (i := 2) sc_needhs.nd rfl (.inl rfl)) (pgs_cons (pg_name (i := 3) sc_needhs.nd rfl (.inl rfl)) pgs_nil))))
        (pss_one (ps_for PassesOwn.never rfl (pi_list (pv 1)) (pg_name (i := 4) sc_needhs.nd rfl (.inl rfl)) (pss_one (ps_if (pt_not (pt_chain op_le op_lt pe_int (pv 4) (pe_callB (r := rLen K) call_len (by rfl) m_len (by decide +kernel) (pa_cons (pv 2) pa_nil)))) (pss_one ps_never) pss_nil))))), ?_⟩
    refine sq_drop (fun H1 => Same H H1) (fun Q k => ⟨_, rfl, b, ca, cl, ts, B, rfl, A, G, fun H1 s1 => k _ H1 s1⟩) (fun H1 s1 => ?_)
    have A1 := A.same s1
    refine sq_tup2 (fun Q k => ⟨_, rfl, k⟩) A1.hb ?_
    refine last_for ?_
    refine sq_forL (xs := xs.map V.int) (fun Q k => ⟨_, rfl, k⟩) (Same.seq s1 hx)
      (fun i σ' H' => Same H H' ∧ ∃ y3 y4, σ' = [some (.ref b), some (.ref l), some (.ref ca), y3, y4]) ⟨s1, _, _, rfl⟩ (fun i σ' H' _ hP => Same.seq hP.1 hx) (fun i x σ' H' hy hP => ?_) (fun σ' H' hP => k H' hP.1)
    obtain ⟨s2, y3, y4, rfl⟩ := hP
    obtain ⟨rfl, hi⟩ := map_int_get hy
    have hg := hin _ (g_mem hi)
    exact ⟨_, rfl, _, _, rfl, rfl, true, dec_t hg.1, iteT ⟨_, rfl, ca, _, rfl, .inr (Same.tup s2 A.hca), _, _, rfl, rfl, true, by rw [lc]; exact dec_t hg.2, iteF ⟨s2, _, _, rfl⟩⟩⟩
theorem sc_needh : FnScope ["book", "house"] ["book", "house"] (defScope s_needh) := ⟨rfl, rfl, rfl, by decide +kernel, rfl, by decide +kernel, by decide +kernel⟩
/- 0:book 1:house -/
theorem ok_needh {f : Addr} {fd : FuncData} (D : DefAt K mg "need_house" s_needh ["book", "house"] f fd) (L : Lims mg) (m_len : mg "len" = none) (m_enumerate : mg "enumerate" = none)
    {f1 : Addr} {fd1 : FuncData} (D_wrong : DefAt K mg "_wrong_in_claim" s_wrong ["claim", "houses"] f1 fd1)
    {f2 : Addr} {fd2 : FuncData} (D_need : DefAt K mg "need_book" s_need ["book"] f2 fd2)
    {f3 : Addr} {fd3 : FuncData} (D_needhs : DefAt K mg "need_houses" s_needhs ["book", "houses"] f3 fd3) : FnOk P w K mg base CX0 4 f fd ["book", "house"] (spNeedH K) := by
  have G_needhs : FnOk P w K mg base CX0 3 f3 fd3 ["book", "houses"] (spNeedHs K) := ok_needhs D_needhs L m_len m_enumerate D_wrong D_need
  refine D.F.ok sc_needh (fun vs H Q E h => ?_) (fun cdv A outer s H vs Q E hr h => ?_)
  · obtain ⟨b, ca, cl, ts, B, x, rfl, _⟩ := h
    rfl
  · obtain ⟨b, ca, cl, ts, B, x, rfl, A, G, x0, x1, k⟩ := h
    refine ⟨_, pss_one (ps_expr (pe_call G_needhs (hr.mono (by decide)) (by rfl) D_needhs.g D_needhs.F.kp D_needhs.b .nil pass0 (pa_cons (pv 0) (pa_cons (pe_lst (pa_cons (pv 1) pa_nil)) pa_nil)))), ?_⟩
    refine ⟨_, rfl, _, rfl, (by show 1 ≤ sizeLine; decide), fun p np => ?_⟩
    have s1 : Same H (upd H p (.lst [.int x])) := Same.new np
    exact ⟨b, ca, cl, ts, B, p, [x], rfl, A.same s1, G, sq_of upd_same, fun y hy => by rw [List.mem_singleton.mp hy]; exact ⟨x0, x1⟩, fun H' s2 => k H' (s1.trans s2)⟩
end


end Rf
namespace Rf
open PySem PySem.Spec PyProof.Rows L2
/-! ### what a house owes -/
def spOwed (K : PySem.W.Frag) : Sp := fun vs H Q _ => ∃ (b ca cl : Addr) (ts : List Addr) (B : Bk) (x : Int), vs = [.ref b, .int x] ∧ BookAt K H b ca cl ts B ∧ Good B ∧ 0 ≤ x ∧ x < B.cash.length ∧ ∀ H', Same H H' → Q (.int (owedIn B x)) H'
section
variable {P : Program} {w : World} {K : PySem.W.Frag} {mg : Str → Option Value} {base : Heap}
theorem sc_owed : FnScope ["book", "house", "_", "claims", "debtor", "amount"] ["book", "house"] (defScope s_owed) := ⟨rfl, rfl, rfl, by decide +kernel, rfl, by decide +kernel, by decide +kernel⟩
/- 0:book 1:house 2:_ 3:claims 4:debtor 5:amount -/
theorem ok_owed {f : Addr} {fd : FuncData} (D : DefAt K mg "owed" s_owed ["book", "house"] f fd) (L : Lims mg) (m_len : mg "len" = none) (m_enumerate : mg "enumerate" = none) (m_sum : mg "sum" = none)
    {f1 : Addr} {fd1 : FuncData} (D_wrong : DefAt K mg "_wrong_in_claim" s_wrong ["claim", "houses"] f1 fd1)
    {f2 : Addr} {fd2 : FuncData} (D_need : DefAt K mg "need_book" s_need ["book"] f2 fd2)
    {f91 : Addr} {fd91 : FuncData} (D_needhs : DefAt K mg "need_houses" s_needhs ["book", "houses"] f91 fd91)
    {f3 : Addr} {fd3 : FuncData} (D_needh : DefAt K mg "need_house" s_needh ["book", "house"] f3 fd3) : FnOk P w K mg base CX0 5 f fd ["book", "house"] (spOwed K) := by
  have G_needh : FnOk P w K mg base CX0 4 f3 fd3 ["book", "house"] (spNeedH K) := ok_needh D_needh L m_len m_enumerate D_wrong D_need D_needhs
  refine D.F.ok sc_owed (fun vs H Q E h => ?_) (fun cdv A outer s H vs Q E hr h => ?_)
  · obtain ⟨b, ca, cl, ts, B, x, rfl, _⟩ := h
    rfl
  · obtain ⟨b, ca, cl, ts, B, x, rfl, A, G, x0, x1, k⟩ := h
    have lq : (ts.map V.ref).length = B.claims.length := by rw [List.length_map, A.hq.1]
    have m1 := G.m1
    refine ⟨_, pss_cons (ps_expr (pe_call G_needh (hr.mono (by decide)) (by rfl) D_needh.g D_needh.F.kp D_needh.b .nil pass0 (pa_cons (pv 0) (pa_cons (pv 1) pa_nil))))
        (pss_cons (ps_asg (pv 0) (pg_tup rfl (pgs_cons (pg_name (i := 2) sc_owed.nd rfl (.inl rfl)) (pgs_cons (pg_name (i := 3) sc_owed.nd rfl (.inl rfl)) pgs_nil))))
        (pss_one (ps_ret (pe_callB (r := rSum K) (cr_sum rfl) (by rfl) m_sum (by decide +kernel) (pa_cons (pe_lc (own := [("_", 2), ("debtor", 4), ("amount", 5)]) (g := (gTup K 4 (gCons (gName 4) (gCons (gName 2) (gCons (gName 5) (gCons (gName 2) gNil)))))) (by rfl) sc_owed.nd (pi_tup (pv 3)) (blkOk_by (own := [("_", 2), ("debtor", 4), ("amount", 5)]) (N := ["book", "house", "_", "claims", "debtor", "amount"]) (sc := defScope s_owed) (by decide +kernel)) (fun _ _ _ _ _ => (pg_tup rfl (pgs_cons (pg_name (i := 4) sc_owed.nd rfl (.inl rfl)) (pgs_cons (pg_name (i := 2) sc_owed.nd rfl (.inl rfl)) (pgs_cons (pg_name (i := 5) sc_owed.nd rfl (.inl rfl)) (pgs_cons (pg_name (i := 2) sc_owed.nd rfl (.inl rfl)) pgs_nil)))))) (fun _ _ _ _ _ => (pts_one (pt_cmpR op_eq (pv 4) (pv 1) (nomark _)))) (fun _ _ _ _ _ => (pv 5))) pa_nil))))), ?_⟩
    refine sq_drop (fun H1 => Same H H1) (fun Q k => ⟨_, rfl, _, rfl, b, ca, cl, ts, B, x, rfl, A, G, x0, x1, fun H1 s1 => k _ H1 s1⟩) (fun H1 s1 => ?_)
    have A1 := A.same s1
    refine sq_tup2 (fun Q k => ⟨_, rfl, k⟩) A1.hb ?_
    refine ⟨_, rfl, cl, rfl, ⟨_, A1.hcl⟩, fun d nd => ?_⟩
    refine lc_tup (xs := ts.map V.ref) (fun i H' => Same H1 H' ∧ H' d = some (.lst (((owesUp B x i).map (amt B)).map V.int))) ⟨Same.new nd, upd_same⟩ (fun i H' _ hP => Same.tup hP.1 A1.hcl) (fun i y H' hy hP => ?_) (fun H' hP => ?_)
    · obtain ⟨s2, hd⟩ := hP
      obtain ⟨t, rfl, ht⟩ := map_ref_get hy
      have hi : i < B.claims.length := by
        rw [← A.hq.1]
        exact (List.getElem?_eq_some_iff.mp ht).1
      have hq := Same.tup s2 (A1.hq.2 i t _ ht (Bk.clm_get hi))
      refine ⟨t, _, rfl, hq, rfl, _, _, rfl, _, _, rfl, _, _, rfl, _, _, rfl, rfl, rfl, ?_⟩
      have ho : owesUp B x (i + 1) = owesUp B x i ++ (if (B.clm i).d = x then [i] else []) := by
        unfold owesUp
        rw [range_filter_succ]
        by_cases e : (B.clm i).d = x
        · rw [if_pos e, if_pos (decide_eq_true e)]
        · rw [if_neg e, if_neg (by rw [decide_eq_false e]; decide)]
      refine ⟨_, rfl, _, rfl, rfl, _, rfl, ?_⟩
      by_cases e : (B.clm i).d = x
      · rw [e, decide_eq_true rfl]
        refine iteT ⟨_, rfl, _, hd, ?_, Same.mut s2 nd, ?_⟩
        · rw [List.length_map, List.length_map]
          have := owesUp_len B x i
          exact sz_lt (by omega)
        · rw [upd_same, ho, if_pos e, List.map_append, List.map_append]
          rfl
      · rw [decide_eq_false (fun z => e (V.int.inj z))]
        refine iteF ⟨s2, ?_⟩
        rw [ho, if_neg e, List.append_nil]
        exact hd
    · obtain ⟨s2, hd⟩ := hP
      rw [lq] at hd
      exact ⟨d, _, rfl, sq_of hd, k H' (s1.trans s2)⟩
end


end Rf
namespace Rf
open PySem PySem.Spec PyProof.Rows L2
/-! ### what a house pays, as the program reckons it -/
/-- the tuples at ts are the pairs L -/
def PrsAt (H : Hp) (ts : List Addr) (L : List (Nat × Int)) : Prop := ts.length = L.length ∧ ∀ (i : Nat) (t : Addr) (x : Nat × Int), ts[i]? = some t → L[i]? = some x → H t = some (.tup [.int (x.1 : Int), .int x.2])
theorem PrsAt.same {H H' : Hp} {ts : List Addr} {L : List (Nat × Int)} (A : PrsAt H ts L) (s : Same H H') : PrsAt H' ts L := ⟨A.1, fun i t x h1 h2 => s _ _ (A.2 i t x h1 h2)⟩
theorem PrsAt.nil (H : Hp) : PrsAt H [] [] := ⟨rfl, fun i t x h => by cases h⟩
theorem PrsAt.app {H : Hp} {ts us : List Addr} {L M : List (Nat × Int)} (A : PrsAt H ts L) (C : PrsAt H us M) : PrsAt H (ts ++ us) (L ++ M) := by
  refine ⟨by rw [List.length_append, List.length_append, A.1, C.1], fun i t x h1 h2 => ?_⟩
  by_cases hi : i < ts.length
  · rw [List.getElem?_append_left hi] at h1
    rw [List.getElem?_append_left (by rw [← A.1]; exact hi)] at h2
    exact A.2 i t x h1 h2
  · rw [List.getElem?_append_right (by omega)] at h1
    rw [List.getElem?_append_right (by rw [← A.1]; omega), ← A.1] at h2
    exact C.2 _ t x h1 h2
theorem PrsAt.one {H : Hp} {t : Addr} {k : Nat} {c : Int} (h : H t = some (.tup [.int (k : Int), .int c])) : PrsAt H [t] [(k, c)] := by
  refine ⟨rfl, fun i u x h1 h2 => ?_⟩
  match i, h1, h2 with
  | 0, h1, h2 =>
    cases h1
    cases h2
    exact h
  | n + 1, h1, _ => cases h1
theorem PrsAt.get {H : Hp} {ts : List Addr} {L : List (Nat × Int)} (A : PrsAt H ts L) {i : Nat} {t : Addr} (h : ts[i]? = some t) : ∃ x, L[i]? = some x ∧ H t = some (.tup [.int (x.1 : Int), .int x.2]) := by
  have hi : i < L.length := by
    rw [← A.1]
    exact (List.getElem?_eq_some_iff.mp h).1
  exact ⟨L[i], List.getElem?_eq_getElem hi, A.2 i t _ h (List.getElem?_eq_getElem hi)⟩
/-- pairs written anew: an object that holds no tuple -/
theorem PrsAt.put {H : Hp} {ts : List Addr} {L : List (Nat × Int)} {p : Addr} {o u : HO} (A : PrsAt H ts L) (hp : H p = some u) (hu : ∀ xs, u ≠ .tup xs) : PrsAt (upd H p o) ts L := by
  refine ⟨A.1, fun i t x h1 h2 => ?_⟩
  have h := A.2 i t x h1 h2
  have n : t ≠ p := ne_of h hp (fun z => hu _ z.symm)
  rw [upd_ne n]
  exact h
def rkP (B : Bk) (h r : Int) (i : Nat) : List (Nat × Int) := (rankUp B h r i).map fun k => (k, amt B k)
theorem rankUp_succ (B : Bk) (h r : Int) (i : Nat) : rankUp B h r (i + 1) = rankUp B h r i ++ (if (B.clm i).d = h ∧ (B.clm i).r = r then [i] else []) := by
  unfold rankUp
  rw [range_filter_succ]
  congr 1
  by_cases e : (B.clm i).d = h ∧ (B.clm i).r = r
  · rw [if_pos e, if_pos (by rw [decide_eq_true e.1, decide_eq_true e.2]; rfl)]
  · rw [if_neg e]
    by_cases e1 : (B.clm i).d = h
    · have e2 : ¬ (B.clm i).r = r := fun z => e ⟨e1, z⟩
      rw [if_neg (by rw [decide_eq_false e2, Bool.and_false]; decide)]
    · rw [if_neg (by rw [decide_eq_false e1, Bool.false_and]; decide)]
theorem valV_ranks {L : Int → Addr} {r : Int} : ∀ {rs : List Int}, valV (rs.map fun r => ((Sum.inl r : Key), V.ref (L r))) (Sum.inl r) = if r ∈ rs then some (V.ref (L r)) else none
  | [] => rfl
  | x :: rs => by
    rw [List.map_cons]
    by_cases e : x = r
    · subst e
      rw [valV_pos (by rfl), if_pos List.mem_cons_self]
    · rw [valV_neg (fun z => e (Sum.inl.inj z)), valV_ranks (rs := rs)]
      by_cases h : r ∈ rs
      · rw [if_pos h, if_pos (List.mem_cons_of_mem _ h)]
      · rw [if_neg h, if_neg (fun z => by
          rcases List.mem_cons.mp z with q | q
          · exact e q.symm
          · exact h q)]
/-- numbers, as they stand in a list -/
def numV (l : List Nat) : List V := l.map fun k : Nat => V.int (k : Int)
def amoV (B : Bk) (l : List Nat) : List V := (l.map (amt B)).map V.int
theorem numV_app (l : List Nat) (i : Nat) : numV (l ++ [i]) = numV l ++ [.int (i : Int)] := by
  unfold numV
  rw [List.map_append]
  rfl
theorem amoV_app (B : Bk) (l : List Nat) (i : Nat) : amoV B (l ++ [i]) = amoV B l ++ [.int (amt B i)] := by
  unfold amoV
  rw [List.map_append, List.map_append]
  rfl
theorem numV_len (l : List Nat) : (numV l).length = l.length := List.length_map _
theorem amoV_len (B : Bk) (l : List Nat) : (amoV B l).length = l.length := by
  unfold amoV
  rw [List.length_map, List.length_map]
/-- the dict of ranks: pairs of lists, of the claims C -/
structure RkH (H0 H : Hp) (d : Addr) (B : Bk) (rs : List Int) (T N M : Int → Addr) (C : Int → List Nat) : Prop where
  dic : H d = some (.dK (rs.map fun r => ((Sum.inl r : Key), V.ref (T r))))
  nd : rs.Nodup
  injN : ∀ r, r ∈ rs → ∀ r', r' ∈ rs → N r = N r' → r = r'
  injM : ∀ r, r ∈ rs → ∀ r', r' ∈ rs → M r = M r' → r = r'
  ne : ∀ r, r ∈ rs → ∀ r', r' ∈ rs → N r ≠ M r'
  frd : H0 d = none
  frT : ∀ r, r ∈ rs → H0 (T r) = none
  frN : ∀ r, r ∈ rs → H0 (N r) = none
  frM : ∀ r, r ∈ rs → H0 (M r) = none
  tup : ∀ r, r ∈ rs → H (T r) = some (.tup [.ref (N r), .ref (M r)])
  num : ∀ r, r ∈ rs → H (N r) = some (.lst (numV (C r)))
  amo : ∀ r, r ∈ rs → H (M r) = some (.lst (amoV B (C r)))
theorem RkH.same {H0 H H' : Hp} {d : Addr} {B : Bk} {rs : List Int} {T N M : Int → Addr} {C : Int → List Nat} (R : RkH H0 H d B rs T N M C) (s : Same H H') : RkH H0 H' d B rs T N M C :=
  ⟨s _ _ R.dic, R.nd, R.injN, R.injM, R.ne, R.frd, R.frT, R.frN, R.frM, fun r h => s _ _ (R.tup r h), fun r h => s _ _ (R.num r h), fun r h => s _ _ (R.amo r h)⟩
theorem RkH.congr {H0 H : Hp} {d : Addr} {B : Bk} {rs : List Int} {T N M : Int → Addr} {C C' : Int → List Nat} (R : RkH H0 H d B rs T N M C) (e : ∀ r, r ∈ rs → C r = C' r) : RkH H0 H d B rs T N M C' :=
  ⟨R.dic, R.nd, R.injN, R.injM, R.ne, R.frd, R.frT, R.frN, R.frM, R.tup, fun r h => by rw [← e r h]; exact R.num r h, fun r h => by rw [← e r h]; exact R.amo r h⟩
/-- one more number and amount for a rank that is there -/
theorem RkH.app {H0 H : Hp} {d : Addr} {B : Bk} {rs : List Int} {T N M : Int → Addr} {C : Int → List Nat} (R : RkH H0 H d B rs T N M C) {r : Int} (hr : r ∈ rs) (i : Nat) :
    RkH H0 (upd (upd H (N r) (.lst (numV (C r) ++ [.int (i : Int)]))) (M r) (.lst (amoV B (C r) ++ [.int (amt B i)]))) d B rs T N M (fun r' => if r' = r then C r ++ [i] else C r') := by
  have hN := R.num r hr
  have hM := R.amo r hr
  have nm := R.ne r hr r hr
  refine ⟨?_, R.nd, R.injN, R.injM, R.ne, R.frd, R.frT, R.frN, R.frM, fun r' h => ?_, fun r' h => ?_, fun r' h => ?_⟩
  · rw [upd_ne (ne_of R.dic hM (fun z => nomatch z)), upd_ne (ne_of R.dic hN (fun z => nomatch z))]
    exact R.dic
  · rw [upd_ne (ne_of (R.tup r' h) hM (fun z => nomatch z)), upd_ne (ne_of (R.tup r' h) hN (fun z => nomatch z))]
    exact R.tup r' h
  · rw [upd_ne (R.ne r' h r hr)]
    by_cases e : r' = r
    · subst e
      rw [upd_same, if_pos rfl, numV_app]
    · rw [upd_ne (fun z => e (R.injN r' h r hr z)), if_neg e]
      exact R.num r' h
  · by_cases e : r' = r
    · subst e
      rw [upd_same, if_pos rfl, amoV_app]
    · rw [upd_ne (fun z => e (R.injM r' h r hr z)), upd_ne (fun z => R.ne r hr r' h z.symm), if_neg e]
      exact R.amo r' h
/-- a rank's first lists -/
theorem RkH.add {H0 H Hc : Hp} {d t l1 l2 : Addr} {B : Bk} {rs : List Int} {T N M : Int → Addr} {C : Int → List Nat} (R : RkH H0 H d B rs T N M C) (s0 : Same H0 H) (s : Same H Hc) {r : Int} (hr : ¬ r ∈ rs) (n1 : H l1 = none) (n2 : H l2 = none) (nt : H t = none)
    (ht : Hc t = some (.tup [.ref l1, .ref l2])) (h1 : Hc l1 = some (.lst [])) (h2 : Hc l2 = some (.lst [])) (ne : l1 ≠ l2) :
    RkH H0 (upd Hc d (.dK (rs.map (fun r => ((Sum.inl r : Key), V.ref (T r))) ++ [(Sum.inl r, V.ref t)]))) d B (rs ++ [r]) (fun r' => if r' = r then t else T r') (fun r' => if r' = r then l1 else N r') (fun r' => if r' = r then l2 else M r') (fun r' => if r' = r then [] else C r') := by
  have fr : ∀ a, H a = none → H0 a = none := fun a h => s0.free h
  have mem : ∀ {r'}, r' ∈ rs ++ [r] → r' ≠ r → r' ∈ rs := fun {r'} h e => by
    rcases List.mem_append.mp h with q | q
    · exact q
    · exact absurd (List.mem_singleton.mp q) e
  have nN : ∀ r', r' ∈ rs → N r' ≠ l1 ∧ N r' ≠ l2 := fun r' h => ⟨ne_of_none (R.num r' h) n1, ne_of_none (R.num r' h) n2⟩
  have nM : ∀ r', r' ∈ rs → M r' ≠ l1 ∧ M r' ≠ l2 := fun r' h => ⟨ne_of_none (R.amo r' h) n1, ne_of_none (R.amo r' h) n2⟩
  have hd := s _ _ R.dic
  have neq : ∀ r', r' ∈ rs → ¬ r' = r := fun r' h z => hr (z ▸ h)
  refine ⟨?_, ?_, fun a ha b hb z => ?_, fun a ha b hb z => ?_, fun a ha b hb => ?_, R.frd, fun a ha => ?_, fun a ha => ?_, fun a ha => ?_, fun a ha => ?_, fun a ha => ?_, fun a ha => ?_⟩
  · rw [upd_same, List.map_append]
    congr 3
    · exact List.map_congr_left fun r' h => by rw [if_neg (neq r' h)]
    · show _ = [((Sum.inl r : Key), V.ref (if r = r then t else T r))]
      rw [if_pos rfl]
  · refine List.nodup_append.mpr ⟨R.nd, by simp, fun a ha b hb z => ?_⟩
    rw [List.mem_singleton.mp hb] at z
    exact hr (z ▸ ha)
  · by_cases c1 : a = r <;> by_cases c2 : b = r
    · rw [c1, c2]
    · rw [if_pos c1, if_neg c2] at z
      exact absurd z.symm (nN b (mem hb c2)).1
    · rw [if_neg c1, if_pos c2] at z
      exact absurd z (nN a (mem ha c1)).1
    · rw [if_neg c1, if_neg c2] at z
      exact R.injN a (mem ha c1) b (mem hb c2) z
  · by_cases c1 : a = r <;> by_cases c2 : b = r
    · rw [c1, c2]
    · rw [if_pos c1, if_neg c2] at z
      exact absurd z.symm (nM b (mem hb c2)).2
    · rw [if_neg c1, if_pos c2] at z
      exact absurd z (nM a (mem ha c1)).2
    · rw [if_neg c1, if_neg c2] at z
      exact R.injM a (mem ha c1) b (mem hb c2) z
  · by_cases c1 : a = r <;> by_cases c2 : b = r
    · rw [if_pos c1, if_pos c2]
      exact ne
    · rw [if_pos c1, if_neg c2]
      exact (nM b (mem hb c2)).1.symm
    · rw [if_neg c1, if_pos c2]
      exact (nN a (mem ha c1)).2
    · rw [if_neg c1, if_neg c2]
      exact R.ne a (mem ha c1) b (mem hb c2)
  · by_cases c : a = r
    · rw [if_pos c]; exact fr _ nt
    · rw [if_neg c]; exact R.frT a (mem ha c)
  · by_cases c : a = r
    · rw [if_pos c]; exact fr _ n1
    · rw [if_neg c]; exact R.frN a (mem ha c)
  · by_cases c : a = r
    · rw [if_pos c]; exact fr _ n2
    · rw [if_neg c]; exact R.frM a (mem ha c)
  · by_cases c : a = r
    · rw [if_pos c, if_pos c, if_pos c, upd_ne (ne_of ht hd (fun z => nomatch z))]
      exact ht
    · rw [if_neg c, if_neg c, if_neg c]
      have q := s _ _ (R.tup a (mem ha c))
      rw [upd_ne (ne_of q hd (fun z => nomatch z))]
      exact q
  · by_cases c : a = r
    · rw [if_pos c, if_pos c, upd_ne (ne_of h1 hd (fun z => nomatch z)), h1]
      rfl
    · rw [if_neg c, if_neg c]
      have q := s _ _ (R.num a (mem ha c))
      rw [upd_ne (ne_of q hd (fun z => nomatch z))]
      exact q
  · by_cases c : a = r
    · rw [if_pos c, if_pos c, upd_ne (ne_of h2 hd (fun z => nomatch z)), h2]
      rfl
    · rw [if_neg c, if_neg c]
      have q := s _ _ (R.amo a (mem ha c))
      rw [upd_ne (ne_of q hd (fun z => nomatch z))]
      exact q
theorem upd_comm {H : Hp} {a b : Addr} {o u : HO} (h : a ≠ b) : upd (upd H a o) b u = upd (upd H b u) a o := by
  funext c
  by_cases h1 : c = a
  · subst h1
    rw [upd_ne h, upd_same, upd_same]
  · by_cases h2 : c = b
    · subst h2
      rw [upd_same, upd_ne h1, upd_same]
    · rw [upd_ne h2, upd_ne h1, upd_ne h1, upd_ne h2]
/-- the ranks that are there, rising -/
def present (B : Bk) (h : Int) : List Int := ranks9.filter fun r => !(ofRank B h r).isEmpty
theorem present_mem {B : Bk} (G : Good B) {h r : Int} : r ∈ present B h ↔ ofRank B h r ≠ [] := by
  unfold present
  rw [List.mem_filter]
  constructor
  · rintro ⟨_, h2⟩ z
    rw [z] at h2
    simp at h2
  · intro h2
    obtain ⟨k, hk⟩ := List.exists_mem_of_ne_nil _ h2
    have q := mem_rankUp.mp hk
    refine ⟨?_, by cases e : ofRank B h r with | nil => exact absurd e h2 | cons _ _ => rfl⟩
    rw [← q.2.2]
    exact ranks9_mem G q.1
theorem lt_of_le_nodup {l : List Int} (h : l.Pairwise (· ≤ ·)) (hn : l.Nodup) : l.Pairwise (· < ·) := by
  refine List.Pairwise.imp₂ (fun a b h1 h2 => ?_) h hn
  have h3 : a ≠ b := h2
  omega
theorem present_eq {B : Bk} (G : Good B) {h : Int} {rs ys : List Int} (nd : rs.Nodup) (hm : ∀ r, r ∈ rs ↔ ofRank B h r ≠ []) (hp : ys.Perm rs) (hs : ys.Pairwise (· ≤ ·)) : ys = present B h := by
  refine sorted_ext (f := id) (lt_of_le_nodup hs (hp.nodup_iff.mpr nd)) ?_ fun r => (hp.mem_iff.trans (hm r)).trans (present_mem G).symm
  exact (show ranks9.Pairwise (· < ·) by decide).sublist List.filter_sublist
theorem present_len (B : Bk) (h : Int) : (present B h).length ≤ 9 := List.length_filter_le _ _
/-- the pair at a reference -/
def pairAt (H : Hp) : V → Int × Int
  | .ref t => match H t with
    | some (.tup [.int a, .int b]) => (a, b)
    | _ => (0, 0)
  | _ => (0, 0)
theorem pairAt_of {H : Hp} {t : Addr} {a b : Int} (h : H t = some (.tup [.int a, .int b])) : pairAt H (.ref t) = (a, b) := by
  simp only [pairAt, h]
theorem lex_fst {a b : Int × Int} (h : SrtO.lexB b a = false) (hn : a.1 ≠ b.1) : a.1 < b.1 := by
  have q := SrtO.lexB_no.mp h
  omega
theorem list_refs {ys : List V} (h : ∀ y ∈ ys, ∃ t, y = V.ref t) : ∃ ts : List Addr, ys = ts.map V.ref := by
  induction ys with
  | nil => exact ⟨[], rfl⟩
  | cons y r ih =>
    obtain ⟨t, e⟩ := h y List.mem_cons_self
    obtain ⟨ts, e2⟩ := ih fun z hz => h z (List.mem_cons_of_mem _ hz)
    exact ⟨t :: ts, by rw [e, e2]; rfl⟩
theorem ref_perm {ts us : List Addr} (h : (us.map V.ref).Perm (ts.map V.ref)) : us.Perm ts := by
  have f : ∀ l : List Addr, (l.map V.ref).filterMap (fun v => match v with | V.ref t => some t | _ => none) = l := fun l => by
    induction l with
    | nil => rfl
    | cons x r ih =>
      rw [List.map_cons, List.filterMap_cons]
      simp only [ih]
  have := h.filterMap (fun v => match v with | V.ref t => some t | _ => none)
  rw [f, f] at this
  exact this
/-- tuples in another arrangement are pairs in another arrangement -/
theorem prs_perm {H : Hp} {ts : List Addr} {L : List (Nat × Int)} (A : PrsAt H ts L) {us : List Addr} (h : us.Perm ts) : ∃ M : List (Nat × Int), M.Perm L ∧ PrsAt H us M := by
  have e : ∃ f : Addr → Nat × Int, L = ts.map f ∧ ∀ t ∈ ts, H t = some (.tup [.int ((f t).1 : Int), .int (f t).2]) := by
    refine ⟨fun t => ((pairAt H (.ref t)).1.toNat, (pairAt H (.ref t)).2), ?_, fun t ht => ?_⟩
    · apply List.ext_getElem?
      intro i
      rw [List.getElem?_map]
      by_cases hi : i < ts.length
      · have h1 := List.getElem?_eq_getElem hi
        have hj : i < L.length := by rw [← A.1]; exact hi
        have h2 := List.getElem?_eq_getElem hj
        rw [h1, h2]
        have q := pairAt_of (A.2 i _ _ h1 h2)
        show some L[i] = some ((pairAt H (.ref ts[i])).1.toNat, (pairAt H (.ref ts[i])).2)
        rw [q]
        rfl
      · rw [List.getElem?_eq_none (by rw [← A.1]; omega), List.getElem?_eq_none (by omega)]
        rfl
    · obtain ⟨i, hi, e⟩ := List.mem_iff_getElem.mp ht
      have h1 : ts[i]? = some t := by rw [List.getElem?_eq_getElem hi, e]
      obtain ⟨x, _, h2⟩ := A.get h1
      have q := pairAt_of h2
      show H t = some (.tup [.int ((pairAt H (V.ref t)).1.toNat : Int), .int (pairAt H (V.ref t)).2])
      rw [q]
      exact h2
  obtain ⟨f, e1, e2⟩ := e
  refine ⟨us.map f, by rw [e1]; exact h.map f, by rw [List.length_map], fun i t x h1 h2 => ?_⟩
  rw [List.getElem?_map, h1] at h2
  cases h2
  exact e2 t (h.mem_iff.mp (List.mem_of_getElem? h1))

theorem sq_aug {te : TE} {tz : TS} {D : Ends} {σ : L2.St} {H : Hp} {i : Nat} {f : Int → Int → Int} {a b : Int} (hx : σ[i]? = some (some (.int a))) (h : ∀ Q : VK, Q (.int b) H → te σ H Q) (k : tz D (σ.set i (some (.int (f a b)))) H) : tSeq (tAug i te (ipI f)) tz D σ H :=
  ⟨.int a, hx, h _ ⟨a, b, rfl, rfl, k⟩⟩
/-- debts by rank, as they stand -/
structure DbtAt (H0 H : Hp) (p : Addr) (B : Bk) (x : Int) : Prop where
  frp : H0 p = none
  at_ : ∃ (us : List Addr) (N M : Nat → Addr), H p = some (.lst (us.map V.ref)) ∧ us.length = (present B x).length ∧
    ∀ j t, us[j]? = some t → H0 t = none ∧ H0 (N j) = none ∧ H0 (M j) = none ∧ H t = some (.tup [.ref (N j), .ref (M j)]) ∧ H (N j) = some (.lst (numV (ofRank B x (g (present B x) j)))) ∧ H (M j) = some (.lst (amoV B (ofRank B x (g (present B x) j))))
theorem DbtAt.off {S : Addr → Prop} {H0 H H' : Hp} {p : Addr} {B : Bk} {x : Int} (A : DbtAt H0 H p B x) (e : Off S H H') (hS : ∀ a, S a → H0 a ≠ none) : DbtAt H0 H' p B x := by
  have k : ∀ a o, H0 a = none → H a = some o → H' a = some o := fun a o h1 h2 => e a o h2 fun z => hS a z h1
  obtain ⟨us, N, M, h1, h2, h3⟩ := A.at_
  refine ⟨A.frp, us, N, M, k _ _ A.frp h1, h2, fun j t ht => ?_⟩
  obtain ⟨a1, a2, a3, a4, a5, a6⟩ := h3 j t ht
  exact ⟨a1, a2, a3, k _ _ a1 a4, k _ _ a2 a5, k _ _ a3 a6⟩
theorem DbtAt.same {H0 H H' : Hp} {p : Addr} {B : Bk} {x : Int} (A : DbtAt H0 H p B x) (e : Same H H') : DbtAt H0 H' p B x := A.off (S := fun _ => False) (fun b o h _ => e b o h) fun _ z => z.elim
theorem DbtAt.less {H0 H1 H : Hp} {p : Addr} {B : Bk} {x : Int} (A : DbtAt H1 H p B x) (e : ∀ a, H1 a = none → H0 a = none) : DbtAt H0 H p B x := by
  obtain ⟨us, N, M, h1, h2, h3⟩ := A.at_
  refine ⟨e _ A.frp, us, N, M, h1, h2, fun j t ht => ?_⟩
  obtain ⟨a1, a2, a3, a4, a5, a6⟩ := h3 j t ht
  exact ⟨e _ a1, e _ a2, e _ a3, a4, a5, a6⟩
/-- the claims of a book alone -/
structure ClmG (B : Bk) : Prop where
  cl : ∀ q ∈ B.claims, GoodC (B.cash.length : Int) q
  m1 : B.claims.length ≤ 24
def spDebts (K : PySem.W.Frag) : Sp := fun vs H Q _ => ∃ (cl : Addr) (ts : List Addr) (B : Bk) (x : Int), vs = [.ref cl, .int x] ∧ SqT K H cl (ts.map V.ref) ∧ ClmsAt K H ts B.claims ∧ Good B ∧ ∀ p H', Same H H' → DbtAt H H' p B x → Q (.ref p) H'
def spPaidW (K : PySem.W.Frag) : Sp := fun vs H Q _ => ∃ (H0 : Hp) (p : Addr) (B : Bk) (x m : Int), vs = [.ref p, .int m] ∧ DbtAt H0 H p B x ∧ Good B ∧ ∀ q us H', H q = none → Same H H' → H' q = some (.lst (us.map V.ref)) → PrsAt H' us (payFrom B x ranks9 m) → Q (.ref q) H'
def spPaidBy (K : PySem.W.Frag) : Sp := fun vs H Q _ => ∃ (b ca cl : Addr) (ts : List Addr) (B : Bk) (x m : Int), vs = [.ref b, .int x, .int m] ∧ BookAt K H b ca cl ts B ∧ Good B ∧ 0 ≤ x ∧ x < B.cash.length ∧
  ∀ p us H', H p = none → Same H H' → H' p = some (.lst (us.map V.ref)) → PrsAt H' us (payList B x m) → Q (.ref p) H'


end Rf
namespace Rf
open PySem PySem.Spec PyProof.Rows L2
section
variable {P : Program} {w : World} {K : PySem.W.Frag} {mg : Str → Option Value} {base : Heap}
theorem sc_debts : FnScope ["claims", "house", "ranks", "number", "debtor", "_", "amount", "rank", "numbers", "amounts"] ["claims", "house"] (defScope s_debts) := ⟨rfl, rfl, rfl, by decide +kernel, rfl, by decide +kernel, by decide +kernel⟩
/- 0:claims 1:house 2:ranks 3:number 4:debtor 5:_ 6:amount 7:rank 8:numbers 9:amounts -/
theorem ok_debts {f : Addr} {fd : FuncData} (D : DefAt K mg "debts_by_rank" s_debts ["claims", "house"] f fd) (m_enumerate : mg "enumerate" = none) (m_sorted : mg "sorted" = none) : FnOk P w K mg base CX0 1 f fd ["claims", "house"] (spDebts K) := by
  refine D.F.ok sc_debts (fun vs H Q E h => ?_) (fun cdv A outer s H vs Q E hr h => ?_)
  · obtain ⟨cl, ts, B, x, rfl, _⟩ := h
    rfl
  · obtain ⟨cl, ts, B, x, rfl, hcl, hq, G, k⟩ := h
    have lq : (ts.map V.ref).length = B.claims.length := by rw [List.length_map, hq.1]
    have m1 := G.m1
    have hu := hu_of hr
    refine ⟨_, pss_cons (ps_set (i := 2) sc_debts.nd rfl (.inr rfl) pe_dnewK)
        (pss_cons (ps_for PassesOwn.never rfl (pi_enumT (by rfl) m_enumerate (pa_cons (pv 0) pa_nil)) (pg_tup rfl (pgs_cons (pg_name (i := 3) sc_debts.nd rfl (.inl rfl)) (pgs_cons (pg_tup rfl (pgs_cons (pg_name (i := 4) sc_debts.nd rfl (.inl rfl)) (pgs_cons (pg_name (i := 5) sc_debts.nd rfl (.inl rfl)) (pgs_cons (pg_name (i := 6) sc_debts.nd rfl (.inl rfl)) (pgs_cons (pg_name (i := 7) sc_debts.nd rfl (.inl rfl)) pgs_nil))))) pgs_nil))) (pss_one (ps_if (pt_cmpR op_eq (pv 4) (pv 1) (nomark _)) (pss_cons (ps_asg (pe_dsetd (pv 2) (pv 7) (pe_tup (pa_cons (pe_lst pa_nil) (pa_cons (pe_lst pa_nil) pa_nil))) ⟨rfl, rfl, rfl, rfl⟩) (pg_tup rfl (pgs_cons (pg_name (i := 8) sc_debts.nd rfl (.inl rfl)) (pgs_cons (pg_name (i := 9) sc_debts.nd rfl (.inl rfl)) pgs_nil))))
            (pss_cons (ps_expr (pe_bm PySem.F.plainAttrs_list PySem.F.slot_list_append PySem.F.type_list_append mt_append (pv 8) (pa_cons (pv 3) pa_nil)))
            (pss_one (ps_expr (pe_bm PySem.F.plainAttrs_list PySem.F.slot_list_append PySem.F.type_list_append mt_append (pv 9) (pa_cons (pv 6) pa_nil)))))) pss_nil)))
        (pss_one (ps_ret (pe_lc (own := [("rank", 7)]) (g := gName 7) (tt := tYes) (by rfl) sc_debts.nd (pi_list (pe_callB (call_sortedDI rfl) (by rfl) m_sorted (by decide +kernel) (pa_cons (pv 2) pa_nil))) (blkOk_by (own := [("rank", 7)]) (N := ["claims", "house", "ranks", "number", "debtor", "_", "amount", "rank", "numbers", "amounts"]) (sc := defScope s_debts) (by decide +kernel)) (fun _ _ _ _ _ => (pg_name (i := 7) sc_debts.nd rfl (.inl rfl))) (fun _ _ _ _ _ => pts_nil) (fun _ _ _ _ _ => (pe_dget hu (pv 2) (pv 7) (fun _ _ => rfl))))))), ?_⟩
    -- ranks
    refine sq_new (.dK []) (fun Q k d nd => k d _ nd (Same.new nd) upd_same) (fun d H2 nd s2 hd => ?_)
    refine sq_forET (xs := ts.map V.ref) (fun Q k => ⟨_, rfl, k⟩) (Same.tup s2 hcl)
      (fun i σ' H' => Same H H' ∧ (∃ rs T N M, RkH H H' d B rs T N M (fun r => rankUp B x r i) ∧ (∀ r, r ∈ rs ↔ rankUp B x r i ≠ []) ∧ rs.length ≤ i) ∧ ∃ y3 y4 y5 y6 y7 y8 y9, σ' = [some (.ref cl), some (.int x), some (.ref d), y3, y4, y5, y6, y7, y8, y9])
      ⟨s2, ⟨[], fun _ => 0, fun _ => 0, fun _ => 0, ⟨hd, List.nodup_nil, (fun r h => nomatch h), (fun r h => nomatch h), (fun r h => nomatch h), nd, (fun r h => nomatch h), (fun r h => nomatch h), (fun r h => nomatch h), (fun r h => nomatch h), (fun r h => nomatch h), (fun r h => nomatch h)⟩, (fun r => ⟨fun h => (nomatch h), fun h => absurd rfl h⟩), Nat.le_refl _⟩, _, _, _, _, _, _, _, rfl⟩
      (fun i σ' H' _ hP => Same.tup hP.1 hcl) (fun i y T0 σ' H' hy hP hT => ?_) (fun σ' H' hP => ?_)
    · obtain ⟨s3, ⟨rs, T, N, M, R, hmem, hlen⟩, y3, y4, y5, y6, y7, y8, y9, rfl⟩ := hP
      obtain ⟨t, rfl, ht⟩ := map_ref_get hy
      have hi : i < B.claims.length := by
        rw [← hq.1]
        exact (List.getElem?_eq_some_iff.mp ht).1
      have s4 : Same H' (upd H' T0 (.tup [.int (i : Int), .ref t])) := Same.new hT
      have s14 := s3.trans s4
      have hqt := Same.tup s14 (hq.2 i t _ ht (Bk.clm_get hi))
      have R4 := R.same s4
      have hT4 : (upd H' T0 (.tup [.int (i : Int), .ref t])) T0 = some (.tup [.int (i : Int), .ref t]) := upd_same
      generalize upd H' T0 (.tup [.int (i : Int), .ref t]) = H4 at s4 R4 s14 hqt hT4 ⊢
      refine ⟨T0, _, rfl, st_of hT4, rfl, _, _, rfl, _, _, rfl, t, _, rfl, hqt, rfl, _, _, rfl, _, _, rfl, _, _, rfl, _, _, rfl, rfl, rfl, ?_⟩
      refine if_ifP (p := (B.clm i).d = x) (fun Q k => ⟨_, rfl, _, rfl, rfl, _, rfl, by rw [dec_vint]; exact k⟩) (fun e => ?_) (fun e => ?_)
      · refine sq_asg (fun v H6 => Same H H6 ∧ ∃ rs' T' N' M', RkH H H6 d B rs' T' N' M' (fun r => rankUp B x r i) ∧ (B.clm i).r ∈ rs' ∧ v = .ref (T' (B.clm i).r) ∧ (∀ q, q ∈ rs' ↔ rankUp B x q i ≠ [] ∨ q = (B.clm i).r) ∧ rs'.length ≤ i + 1) (fun Q k => ?_) (fun v H6 hv => ?_)
        · refine ⟨_, rfl, d, rfl, .inl ⟨_, .inl R4.dic⟩, _, rfl, Nat.zero_le _, fun l1 n1 => ⟨Nat.zero_le _, fun l2 n2 => ⟨by show 2 ≤ sizeLine; decide, fun tt nt => ?_⟩⟩⟩
          have w1 : Same H4 (upd H4 l1 (.lst [])) := Same.new n1
          have w2 : Same (upd H4 l1 (.lst [])) (upd (upd H4 l1 (.lst [])) l2 (.lst [])) := Same.new n2
          have w3 := Same.new (o := .tup [.ref l1, .ref l2]) nt
          have g1 := w3 _ _ (w2 _ _ (show (upd H4 l1 (.lst [])) l1 = some (.lst []) from upd_same))
          have g2 := w3 _ _ (show (upd (upd H4 l1 (.lst [])) l2 (.lst [])) l2 = some (.lst []) from upd_same)
          have g3 : (upd (upd (upd H4 l1 (.lst [])) l2 (.lst [])) tt (.tup [.ref l1, .ref l2])) tt = some (.tup [.ref l1, .ref l2]) := upd_same
          have ne12 : l1 ≠ l2 := fun z => by rw [← z, upd_same] at n2; cases n2
          have w := (w1.trans w2).trans w3
          have n2' := w1.free n2
          have nt' := (w1.trans w2).free nt
          generalize upd (upd (upd H4 l1 (.lst [])) l2 (.lst [])) tt (.tup [.ref l1, .ref l2]) = Hc at w3 g1 g2 g3 w ⊢
          refine ⟨_, Sum.inl (B.clm i).r, w _ _ R4.dic, rfl, by rw [List.length_map]; exact sz_lt (by omega), fun v hv => ?_, fun hn => ?_⟩
          · rw [valV_ranks] at hv
            have hm : (B.clm i).r ∈ rs := Classical.byContradiction fun z => by rw [if_neg z] at hv; cases hv
            rw [if_pos hm] at hv
            have ev := (Option.some.inj hv).symm
            subst ev
            exact k _ _ ⟨s14.trans w, rs, T, N, M, R4.same w, hm, rfl, fun q => ⟨fun h => .inl ((hmem q).mp h), fun h => h.elim (fun h => (hmem q).mpr h) fun h => by rw [h]; exact hm⟩, by omega⟩
          · rw [valV_ranks] at hn
            have hm : ¬ (B.clm i).r ∈ rs := fun z => by rw [if_pos z] at hn; cases hn
            have z0 : rankUp B x (B.clm i).r i = [] := Classical.byContradiction fun z => hm ((hmem _).mpr z)
            rw [putK_new _ (by rw [valV_ranks, if_neg hm])]
            have R7 := (R4.add s14 w hm n1 n2' nt' g3 g1 g2 ne12).congr (C' := fun r => rankUp B x r i) fun r' _ => by
              by_cases c : r' = (B.clm i).r
              · rw [if_pos c, c, z0]
              · rw [if_neg c]
            refine k _ _ ⟨Same.mut (s14.trans w) R4.frd, _, _, _, _, R7, List.mem_append_right _ (List.mem_singleton.mpr rfl), by rw [if_pos rfl], fun q => ⟨fun h => ?_, fun h => ?_⟩, by rw [List.length_append]; show rs.length + 1 ≤ i + 1; omega⟩
            · rcases List.mem_append.mp h with h | h
              · exact .inl ((hmem q).mp h)
              · exact .inr (List.mem_singleton.mp h)
            · rcases h with h | h
              · exact List.mem_append_left _ ((hmem q).mpr h)
              · exact List.mem_append_right _ (List.mem_singleton.mpr h)
        · obtain ⟨s6, rs', T', N', M', R6, hm, rfl, hmem', hlen'⟩ := hv
          have hN := R6.num _ hm
          have hM := R6.amo _ hm
          have hrl := rankUp_len B x (B.clm i).r i
          refine ⟨T' (B.clm i).r, [.ref (N' (B.clm i).r), .ref (M' (B.clm i).r)], rfl, st_of (R6.tup _ hm), rfl, _, [_], rfl, _, [], rfl, rfl, ?_⟩
          refine ⟨_, rfl, .inl ⟨rfl, _, sq_of hN⟩, _, rfl, N' (B.clm i).r, _, _, rfl, rfl, hN, by rw [numV_len]; exact sz_lt (by omega), ?_⟩
          have hM2 : (upd H6 (N' (B.clm i).r) (.lst (numV (rankUp B x (B.clm i).r i) ++ [.int (i : Int)]))) (M' (B.clm i).r) = some (.lst (amoV B (rankUp B x (B.clm i).r i))) := by
            rw [upd_ne (R6.ne _ hm _ hm).symm]
            exact hM
          refine ⟨_, rfl, .inl ⟨rfl, _, sq_of hM2⟩, _, rfl, M' (B.clm i).r, _, _, rfl, rfl, hM2, by rw [amoV_len]; exact sz_lt (by omega), ?_⟩
          refine ⟨Same.mut (Same.mut s6 (R6.frN _ hm)) (R6.frM _ hm), ⟨rs', T', N', M', (R6.app hm i).congr fun r' _ => ?_, fun q => ?_, hlen'⟩, _, _, _, _, _, _, _, rfl⟩
          · rw [rankUp_succ]
            by_cases c : r' = (B.clm i).r
            · subst c
              rw [if_pos rfl, if_pos ⟨e, rfl⟩]
            · rw [if_neg c, if_neg (fun z => c z.2.symm), List.append_nil]
          · rw [hmem', rankUp_succ]
            by_cases c : q = (B.clm i).r
            · subst c
              rw [if_pos ⟨e, rfl⟩]
              exact ⟨fun _ z => by simp at z, fun _ => .inr rfl⟩
            · rw [if_neg (fun z => c z.2.symm), List.append_nil]
              exact ⟨fun h => h.elim id fun z => absurd z c, .inl⟩
      · refine sq_nx ⟨s14, ⟨rs, T, N, M, R4.congr fun r' _ => ?_, fun q => ?_, by omega⟩, _, _, _, _, _, _, _, rfl⟩
        · rw [rankUp_succ, if_neg (fun z => e z.1), List.append_nil]
        · rw [rankUp_succ, if_neg (fun z => e z.1), List.append_nil]
          exact hmem q
    · obtain ⟨s3, ⟨rs, T, N, M, R, hmem, hlen⟩, y3, y4, y5, y6, y7, y8, y9, rfl⟩ := hP
      rw [lq] at R hmem hlen
      refine ⟨_, rfl, d, _, rs, rfl, .inl R.dic, by rw [List.map_map]; rfl, by omega, fun ys p hp hs np => ?_⟩
      rw [present_eq G R.nd hmem hp hs]
      have s5 : Same H' (upd H' p (.lst ((present B x).map V.int))) := Same.new np
      have hpp : (upd H' p (.lst ((present B x).map V.int))) p = some (.lst ((present B x).map V.int)) := upd_same
      have R5 := R.same s5
      have s15 := s3.trans s5
      generalize upd H' p (.lst ((present B x).map V.int)) = H5 at s5 hpp R5 s15 ⊢
      refine ⟨p, rfl, ⟨_, sq_of hpp⟩, fun c nc => ?_⟩
      refine lc_list (xs := (present B x).map V.int) (fun j H' => Same H5 H' ∧ H' c = some (.lst (((present B x).map fun r => V.ref (T r)).take j))) ⟨Same.new nc, by rw [upd_same]; rfl⟩ (fun j H' _ hP => hP.1.seq (sq_of hpp)) (fun j z H' hz hP => ?_) (fun H' hP => ?_)
      · obtain ⟨s7, hc⟩ := hP
        obtain ⟨rfl, hj⟩ := map_int_get hz
        have hpl := present_len B x
        have hin : g (present B x) j ∈ rs := (hmem _).mpr ((present_mem G).mp (g_mem hj))
        have q := DGet.k (k := Sum.inl (g (present B x) j)) (s7 _ _ R5.dic)
        rw [valV_ranks, if_pos hin] at q
        refine ⟨rfl, _, rfl, _, rfl, d, _, rfl, q, _, hc, ?_, Same.mut s7 nc, ?_⟩
        · rw [List.length_take, List.length_map]
          exact sz_lt (by omega)
        · have ha : ((present B x).map fun r => V.ref (T r))[j]? = some (V.ref (T (g (present B x) j))) := by
            rw [List.getElem?_map, g_get hj]
            rfl
          rw [upd_same, List.take_add_one, ha]
          rfl
      · obtain ⟨s7, hc⟩ := hP
        rw [List.take_of_length_le (by rw [List.length_map, List.length_map]; exact Nat.le_refl _)] at hc
        have R8 := R5.same s7
        refine k c H' (s15.trans s7) ⟨s15.free nc, (present B x).map T, fun j => N (g (present B x) j), fun j => M (g (present B x) j), by rw [hc, List.map_map]; rfl, List.length_map _, fun j t ht => ?_⟩
        rw [List.getElem?_map] at ht
        by_cases hj : j < (present B x).length
        · rw [g_get hj] at ht
          have et := (Option.some.inj ht).symm
          subst et
          have hin : g (present B x) j ∈ rs := (hmem _).mpr ((present_mem G).mp (g_mem hj))
          exact ⟨R8.frT _ hin, R8.frN _ hin, R8.frM _ hin, R8.tup _ hin, R8.num _ hin, R8.amo _ hin⟩
        · rw [List.getElem?_eq_none (by omega)] at ht
          cases ht
theorem sc_paidw : FnScope ["debts", "means", "paid", "numbers", "amounts", "shares"] ["debts", "means"] (defScope s_paidw) := ⟨rfl, rfl, rfl, by decide +kernel, rfl, by decide +kernel, by decide +kernel⟩
/- 0:debts 1:means 2:paid 3:numbers 4:amounts 5:shares -/
theorem ok_paidw {f : Addr} {fd : FuncData} (D : DefAt K mg "paid_with" s_paidw ["debts", "means"] f fd) (m_len : mg "len" = none) (m_enumerate : mg "enumerate" = none) (m_sum : mg "sum" = none) (m_zip : mg "zip" = none) (m_range : mg "range" = none) (m_max : mg "max" = none) (m_list : mg "list" = none)
    {f4 : Addr} {fd4 : FuncData} (D_shared : DefAt K mg "shared" s_shared ["amounts", "coins"] f4 fd4)
    {f5 : Addr} {fd5 : FuncData} (D_first_coins : DefAt K mg "_first_coins" s_first_coins ["amounts", "coins"] f5 fd5)
    {f6 : Addr} {fd6 : FuncData} (D_least_paid : DefAt K mg "_least_paid" s_least_paid ["amounts", "paid"] f6 fd6) : FnOk P w K mg base CX0 4 f fd ["debts", "means"] (spPaidW K) := by
  have G_shared : FnOk P w K mg base CX0 2 f4 fd4 ["amounts", "coins"] (spShared K) := ok_shared D_shared m_range m_len m_max m_sum m_list m_enumerate D_first_coins D_least_paid
  refine D.F.ok sc_paidw (fun vs H Q E h => ?_) (fun cdv A outer s H vs Q E hr h => ?_)
  · obtain ⟨H0, p, B, x, m, rfl, _⟩ := h
    rfl
  · obtain ⟨H0, p, B, x, m, rfl, A, G, k⟩ := h
    have m1 := G.m1
    obtain ⟨us0, N, M, e1, e2, e3⟩ := A.at_
    have lu : (us0.map V.ref).length = (present B x).length := by rw [List.length_map, e2]
    refine ⟨_, pss_cons (ps_set (i := 2) sc_paidw.nd rfl (.inl rfl) (pe_lst pa_nil))
        (pss_cons (ps_for PassesOwn.never rfl (pi_list (pv 0)) (pg_tup rfl (pgs_cons (pg_name (i := 3) sc_paidw.nd rfl (.inl rfl)) (pgs_cons (pg_name (i := 4) sc_paidw.nd rfl (.inl rfl)) pgs_nil))) (pss_cons (ps_set (i := 5) sc_paidw.nd rfl (.inl rfl) (pe_call G_shared (hr.mono (by decide)) (by rfl) D_shared.g D_shared.F.kp D_shared.b .nil pass0 (pa_cons (pv 4) (pa_cons (pv 1) pa_nil))))
          (pss_cons (ps_aug (i := 1) sc_paidw.nd rfl (.inl rfl) (pe_callB (r := rSum K) (cr_sum rfl) (by rfl) m_sum (by decide +kernel) (pa_cons (pv 5) pa_nil)) ip_sub)
          (pss_one (ps_expr (pe_bm PySem.F.plainAttrs_list PySem.F.slot_list_extend PySem.F.type_list_extend mt_extend (pv 2) (pa_cons (pe_listZip rfl (by rfl) m_list (by rfl) m_zip (pa_cons (pv 3) (pa_cons (pv 5) pa_nil))) pa_nil)))))))
        (pss_one (ps_ret (pv 2)))), ?_⟩
    refine sq_new (.lst []) (fun Q k => ⟨Nat.zero_le _, fun p np => k p _ np (Same.new np) upd_same⟩) (fun pd H1 npd s1 hpd => ?_)
    refine sq_forL (a := p) (xs := us0.map V.ref) (fun Q k => ⟨_, rfl, k⟩) (sq_of (s1 _ _ e1))
      (fun i σ' H' => Same H H' ∧ ∃ (m' : Int) (done : List (Nat × Int)) (us : List Addr), H' pd = some (.lst (us.map V.ref)) ∧ PrsAt H' us done ∧ done.length ≤ 24 * i ∧ payFrom B x (present B x) m = done ++ payFrom B x ((present B x).drop i) m' ∧ ∃ y3 y4 y5, σ' = [some (.ref p), some (.int m'), some (.ref pd), y3, y4, y5])
      ⟨s1, m, [], [], hpd, PrsAt.nil _, Nat.zero_le _, rfl, _, _, _, rfl⟩ (fun i σ' H' _ hP => sq_of (hP.1 _ _ e1)) (fun i y σ' H' hy hP => ?_) (fun σ' H' hP => ?_)
    · obtain ⟨s2, m', done, us, hpd2, A2, hdl, hpay, y3, y4, y5, rfl⟩ := hP
      obtain ⟨t, rfl, ht⟩ := map_ref_get hy
      have hi : i < (present B x).length := by
        rw [← e2]
        exact (List.getElem?_eq_some_iff.mp ht).1
      obtain ⟨a1, a2, a3, a4, a5, a6⟩ := e3 i t ht
      have hdrop : (present B x).drop i = g (present B x) i :: (present B x).drop (i + 1) := by
        rw [List.drop_eq_getElem_cons hi]
        congr 1
        exact (g_of (List.getElem?_eq_getElem hi)).symm
      have hpl := present_len B x
      generalize g (present B x) i = r at hdrop a5 a6
      rw [hdrop] at hpay
      have hol : (ofRank B x r).length ≤ 24 := Nat.le_trans (rankUp_len B x r _) m1
      have ham := amts_ok G x r
      have Mm : Amts (amts B x r) := ⟨AllPos.of fun z hz => by have := ham z hz; omega, fun z hz => by have := ham z hz; omega, by rw [amts_len]; omega⟩
      have hss : (share (amts B x r) m').length = (ofRank B x r).length := by rw [share_len, amts_len]
      refine ⟨t, [.ref (N i), .ref (M i)], rfl, st_of (s2 _ _ a4), rfl, _, [_], rfl, _, [], rfl, rfl, ?_⟩
      -- shares
      refine sq_new (.lst ((share (amts B x r) m').map V.int)) (fun Q k => ⟨_, rfl, _, rfl, M i, amts B x r, m', rfl, sq_of (s2 _ _ a6), Mm, fun p2 H8 np2 s8 hp2 => by rw [share_max Mm.pos] at hp2; exact k p2 H8 np2 s8 hp2⟩) (fun so H5 nso s6 hso => ?_)
      -- means
      refine sq_aug (f := fun i j => i - j) (a := m') rfl (fun Q k => ⟨_, rfl, so, _, rfl, sq_of hso, k⟩) ?_
      have hpd5 := s6 _ _ hpd2
      -- paid.extend
      refine ⟨_, rfl, .inl ⟨rfl, _, sq_of hpd5⟩, _, rfl, _, rfl, N i, so, numV (ofRank B x r), _, rfl, sq_of (s6 _ _ (s2 _ _ a5)), sq_of hso, by rw [numV_len, List.length_map, hss], fun c ts2 H7 nc s7 hc hl hpr _ _ => ?_⟩
      rw [numV_len] at hl
      have hv : PrsAt H7 ts2 ((ofRank B x r).zip (share (amts B x r) m')) := by
        refine ⟨by rw [hl, List.length_zip, hss, Nat.min_self], fun j u z h1 h2 => ?_⟩
        obtain ⟨q1, q2⟩ := List.getElem?_zip_eq_some.mp h2
        refine hpr j u _ _ h1 ?_ ?_
        · unfold numV
          rw [List.getElem?_map, q1]
          rfl
        · rw [List.getElem?_map, q2]
          rfl
      have hpd7 := s7 _ _ hpd5
      have A7 := A2.same (s6.trans s7)
      refine ⟨pd, c, _, _, rfl, rfl, hpd7, hc, ?_, ?_⟩
      · rw [List.length_map, List.length_map, A2.1]
        exact sz_of (by omega)
      · refine ⟨Same.mut ((s2.trans s6).trans s7) npd, m' - (share (amts B x r) m').sum, done ++ (ofRank B x r).zip (share (amts B x r) m'), us ++ ts2, ?_, (A7.put hpd7 (fun xs z => nomatch z)).app (hv.put hpd7 (fun xs z => nomatch z)), ?_, ?_, _, _, _, rfl⟩
        · rw [upd_same, List.map_append]
        · rw [List.length_append, List.length_zip, hss, Nat.min_self]
          omega
        · rw [hpay, List.append_assoc]
          rfl
    · obtain ⟨s2, m', done, us, hpd2, A2, hdl, hpay, y3, y4, y5, rfl⟩ := hP
      rw [lu] at hpay
      have hend : payFrom B x ((present B x).drop (present B x).length) m' = [] := by
        rw [List.drop_length]
        rfl
      rw [hend, List.append_nil] at hpay
      have hall : done = payFrom B x ranks9 m := by
        rw [← hpay]
        exact pay_filter B x ranks9 m
      rw [hall] at A2
      exact ⟨_, rfl, k pd us H' npd s2 hpd2 A2⟩
theorem sc_paidby : FnScope ["book", "house", "means", "_", "claims"] ["book", "house", "means"] (defScope s_paidby) := ⟨rfl, rfl, rfl, by decide +kernel, rfl, by decide +kernel, by decide +kernel⟩
/- 0:book 1:house 2:means 3:_ 4:claims -/
theorem ok_paidby {f : Addr} {fd : FuncData} (D : DefAt K mg "paid_by" s_paidby ["book", "house", "means"] f fd) (L : Lims mg) (m_len : mg "len" = none) (m_enumerate : mg "enumerate" = none) (m_sum : mg "sum" = none) (m_sorted : mg "sorted" = none) (m_zip : mg "zip" = none)
    (m_range : mg "range" = none) (m_max : mg "max" = none) (m_list : mg "list" = none)
    {f1 : Addr} {fd1 : FuncData} (D_wrong : DefAt K mg "_wrong_in_claim" s_wrong ["claim", "houses"] f1 fd1)
    {f2 : Addr} {fd2 : FuncData} (D_need : DefAt K mg "need_book" s_need ["book"] f2 fd2)
    {f91 : Addr} {fd91 : FuncData} (D_needhs : DefAt K mg "need_houses" s_needhs ["book", "houses"] f91 fd91)
    {f3 : Addr} {fd3 : FuncData} (D_needh : DefAt K mg "need_house" s_needh ["book", "house"] f3 fd3)
    {f4 : Addr} {fd4 : FuncData} (D_shared : DefAt K mg "shared" s_shared ["amounts", "coins"] f4 fd4)
    {f5 : Addr} {fd5 : FuncData} (D_first_coins : DefAt K mg "_first_coins" s_first_coins ["amounts", "coins"] f5 fd5)
    {f6 : Addr} {fd6 : FuncData} (D_least_paid : DefAt K mg "_least_paid" s_least_paid ["amounts", "paid"] f6 fd6)
    {f7 : Addr} {fd7 : FuncData} (D_debts : DefAt K mg "debts_by_rank" s_debts ["claims", "house"] f7 fd7)
    {f8 : Addr} {fd8 : FuncData} (D_paidw : DefAt K mg "paid_with" s_paidw ["debts", "means"] f8 fd8) : FnOk P w K mg base CX0 5 f fd ["book", "house", "means"] (spPaidBy K) := by
  have G_needh : FnOk P w K mg base CX0 4 f3 fd3 ["book", "house"] (spNeedH K) := ok_needh D_needh L m_len m_enumerate D_wrong D_need D_needhs
  have G_debts : FnOk P w K mg base CX0 1 f7 fd7 ["claims", "house"] (spDebts K) := ok_debts D_debts m_enumerate m_sorted
  have G_paidw : FnOk P w K mg base CX0 4 f8 fd8 ["debts", "means"] (spPaidW K) := ok_paidw D_paidw m_len m_enumerate m_sum m_zip m_range m_max m_list D_shared D_first_coins D_least_paid
  refine D.F.ok sc_paidby (fun vs H Q E h => ?_) (fun cdv A outer s H vs Q E hr h => ?_)
  · obtain ⟨b, ca, cl, ts, B, x, m, rfl, _⟩ := h
    rfl
  · obtain ⟨b, ca, cl, ts, B, x, m, rfl, A, G, x0, x1, k⟩ := h
    refine ⟨_, pss_cons (ps_expr (pe_call G_needh (hr.mono (by decide)) (by rfl) D_needh.g D_needh.F.kp D_needh.b .nil pass0 (pa_cons (pv 0) (pa_cons (pv 1) pa_nil))))
        (pss_cons (ps_asg (pv 0) (pg_tup rfl (pgs_cons (pg_name (i := 3) sc_paidby.nd rfl (.inl rfl)) (pgs_cons (pg_name (i := 4) sc_paidby.nd rfl (.inl rfl)) pgs_nil))))
        (pss_one (ps_ret (pe_callB cr_sortedPO (by rfl) m_sorted (by decide +kernel) (pa_cons (pe_call G_paidw (hr.mono (by decide)) (by rfl) D_paidw.g D_paidw.F.kp D_paidw.b .nil pass0 (pa_cons (pe_call G_debts (hr.mono (by decide)) (by rfl) D_debts.g D_debts.F.kp D_debts.b .nil pass0 (pa_cons (pv 4) (pa_cons (pv 1) pa_nil))) (pa_cons (pv 2) pa_nil))) pa_nil))))), ?_⟩
    refine sq_drop (fun H1 => Same H H1) (fun Q k => ⟨_, rfl, _, rfl, b, ca, cl, ts, B, x, rfl, A, G, x0, x1, fun H1 s1 => k _ H1 s1⟩) (fun H1 s1 => ?_)
    have A1 := A.same s1
    refine sq_tup2 (fun Q k => ⟨_, rfl, k⟩) A1.hb ?_
    refine ⟨_, rfl, _, rfl, cl, ts, B, x, rfl, A1.hcl, A1.hq, G, fun p H2 s2 hp => ⟨_, rfl, H1, p, B, x, m, rfl, hp, G, fun pd us H4 npd s5 hpd4 A4 => ?_⟩⟩
    have hpp : H4 pd = some (.lst (us.map V.ref)) := hpd4
    refine ⟨pd, us.map V.ref, pairAt H4, rfl, sq_of hpd4, fun v hv => ?_, fun ys p2 hs hst np2 => ?_⟩
    · obtain ⟨t, ht, rfl⟩ := List.mem_map.mp hv
      obtain ⟨j, hj, e⟩ := List.mem_iff_getElem.mp ht
      obtain ⟨z, _, hz⟩ := A4.get (i := j) (t := t) (by rw [List.getElem?_eq_getElem hj, e])
      exact ⟨t, rfl, by rw [pairAt_of hz]; exact hz⟩
    · obtain ⟨vs, rfl⟩ := list_refs (ys := ys) fun y hy => by
        obtain ⟨t, _, e⟩ := List.mem_map.mp (hst.perm.mem_iff.mp hy)
        exact ⟨t, e.symm⟩
      obtain ⟨M, hM, AM⟩ := prs_perm A4 (ref_perm hst.perm)
      have hMe : M = payList B x m := by
        refine payList_unique G ?_ hM
        have hnd : (M.map (·.1)).Nodup := (hM.map (·.1)).nodup_iff.mpr (pay_nodup B x m)
        rw [List.pairwise_iff_getElem]
        intro i j hi hj hij
        have hvi : i < vs.length := by rw [AM.1]; exact hi
        have hvj : j < vs.length := by rw [AM.1]; exact hj
        have q1 := AM.2 i _ _ (List.getElem?_eq_getElem hvi) (List.getElem?_eq_getElem hi)
        have q2 := AM.2 j _ _ (List.getElem?_eq_getElem hvj) (List.getElem?_eq_getElem hj)
        have hp := (List.pairwise_iff_getElem.mp hs) i j (by rw [List.length_map]; exact hvi) (by rw [List.length_map]; exact hvj) hij
        rw [List.getElem_map, List.getElem_map] at hp
        have hp2 : SrtO.lexB (pairAt H4 (V.ref vs[j])) (pairAt H4 (V.ref vs[i])) = false := hp
        rw [pairAt_of q1, pairAt_of q2] at hp2
        refine lex_fst hp2 fun z => ?_
        have hn2 := (List.pairwise_iff_getElem.mp hnd) i j (by rw [List.length_map]; exact hi) (by rw [List.length_map]; exact hj) hij
        rw [List.getElem_map, List.getElem_map] at hn2
        have z2 : ((M[i].1 : Nat) : Int) = (M[j].1 : Int) := z
        exact hn2 (by omega)
      have s6 : Same H H4 := s1.trans (s2.trans s5)
      refine k p2 vs _ (s6.free np2) (s6.trans (Same.new np2)) upd_same ?_
      rw [← hMe]
      exact AM.same (Same.new np2)
end


end Rf
namespace Rf
open PySem PySem.Spec PyProof.Rows L2
/-! ### the program's means -/
def meansUp (B : Bk) (P : List Int) (i : Nat) : List Int := (List.range B.cash.length).map fun x : Nat => g B.cash x + sumIf (fun k => decide ((B.clm k).c = (x : Int))) (g P) i
theorem meansUp_zero (B : Bk) (P : List Int) : meansUp B P 0 = B.cash := by
  refine ext_g (by unfold meansUp; rw [List.length_map, List.length_range]) fun i hi => ?_
  have hi2 : i < B.cash.length := by unfold meansUp at hi; rw [List.length_map, List.length_range] at hi; exact hi
  unfold meansUp
  rw [g_rangeMap hi2]
  show g B.cash i + 0 = _
  omega
theorem meansUp_all {B : Bk} {P : List Int} (h : P.length = B.claims.length) : meansUp B P B.claims.length = meansL B P := by
  unfold meansUp meansL
  apply List.map_congr_left
  intro x _
  unfold meansOf
  rw [Int.toNat_natCast, h]
theorem meansUp_step {B : Bk} {P : List Int} {i y : Nat} (hc : (B.clm i).c = (y : Int)) (hy : y < B.cash.length) : (meansUp B P i).set y (g (meansUp B P i) y + g P i) = meansUp B P (i + 1) := by
  unfold meansUp
  rw [g_rangeMap hy, rangeMap_set hy]
  apply List.map_congr_left
  intro x _
  show _ = g B.cash x + (sumIf _ (g P) i + (if decide ((B.clm i).c = (x : Int)) = true then g P i else 0))
  by_cases e : x = y
  · subst e
    rw [if_pos rfl, if_pos (decide_eq_true hc)]
    omega
  · rw [if_neg e, if_neg (by rw [decide_eq_false (fun z => e (by omega))]; decide)]
    omega
theorem meansUp_len (B : Bk) (P : List Int) (i : Nat) : (meansUp B P i).length = B.cash.length := by
  unfold meansUp
  rw [List.length_map, List.length_range]
def spMeansBy (K : PySem.W.Frag) : Sp := fun vs H Q _ => ∃ (b ca cl : Addr) (ts : List Addr) (B : Bk) (p : Addr) (P : List Int), vs = [.ref b, .ref p] ∧ BookAt K H b ca cl ts B ∧ Good B ∧ SqL K H p (P.map V.int) ∧ P.length = B.claims.length ∧ ∀ q H', H q = none → Same H H' → H' q = some (.lst ((meansL B P).map V.int)) → Q (.ref q) H'
def spAllPaid (K : PySem.W.Frag) : Sp := fun vs H Q _ => ∃ (b ca cl : Addr) (ts : List Addr) (B : Bk), vs = [.ref b] ∧ BookAt K H b ca cl ts B ∧ Good B ∧ ∀ q H', H q = none → Same H H' → H' q = some (.lst ((allP B).map V.int)) → Q (.ref q) H'
section
variable {P : Program} {w : World} {K : PySem.W.Frag} {mg : Str → Option Value} {base : Heap}
theorem sc_meansby : FnScope ["book", "payments", "cash", "claims", "means", "_", "creditor", "coins"] ["book", "payments"] (defScope s_meansby) := ⟨rfl, rfl, rfl, by decide +kernel, rfl, by decide +kernel, by decide +kernel⟩
/- 0:book 1:payments 2:cash 3:claims 4:means 5:_ 6:creditor 7:coins -/
theorem ok_meansby {f : Addr} {fd : FuncData} (D : DefAt K mg "means_by" s_meansby ["book", "payments"] f fd) (m_zip : mg "zip" = none) (m_list : mg "list" = none) : FnOk P w K mg base CX0 1 f fd ["book", "payments"] (spMeansBy K) := by
  refine D.F.ok sc_meansby (fun vs H Q E h => ?_) (fun cdv A outer s H vs Q E hr h => ?_)
  · obtain ⟨b, ca, cl, ts, B, p, P, rfl, _⟩ := h
    rfl
  · obtain ⟨b, ca, cl, ts, B, p, P, rfl, A, G, hp, hl, k⟩ := h
    have lq : (ts.map V.ref).length = B.claims.length := by rw [List.length_map, A.hq.1]
    refine ⟨_, pss_cons (ps_asg (pv 0) (pg_tup rfl (pgs_cons (pg_name (i := 2) sc_meansby.nd rfl (.inl rfl)) (pgs_cons (pg_name (i := 3) sc_meansby.nd rfl (.inl rfl)) pgs_nil))))
        (pss_cons (ps_set (i := 4) sc_meansby.nd rfl (.inl rfl) (pe_callTy (r := rListOf K) call_listOf (by rfl) m_list (by decide +kernel) (pa_cons (pv 2) pa_nil)))
        (pss_cons (ps_for PassesOwn.never rfl (pi_zipTL (by rfl) m_zip (pa_cons (pv 3) (pa_cons (pv 1) pa_nil))) (pg_tup rfl (pgs_cons (pg_tup rfl (pgs_cons (pg_name (i := 5) sc_meansby.nd rfl (.inl rfl)) (pgs_cons (pg_name (i := 6) sc_meansby.nd rfl (.inl rfl)) (pgs_cons (pg_name (i := 5) sc_meansby.nd rfl (.inl rfl)) (pgs_cons (pg_name (i := 5) sc_meansby.nd rfl (.inl rfl)) pgs_nil))))) (pgs_cons (pg_name (i := 7) sc_meansby.nd rfl (.inl rfl)) pgs_nil))) (pss_one (ps_augS (pv 4) (pv 6) get_list (pv 7) ip_add set_list)))
        (pss_one (ps_ret (pv 4))))), ?_⟩
    refine sq_tup2 (fun Q k => ⟨_, rfl, k⟩) A.hb ?_
    refine sq_new (.lst (B.cash.map V.int)) (fun Q k => ⟨_, rfl, ca, _, rfl, .inr A.hca, fun l nl => k l _ nl (Same.new nl) upd_same⟩) (fun mn H1 nmn s1 hmn => ?_)
    refine sq_forTL (a := cl) (b := p) (us := ts.map V.ref) (ws := P.map V.int) (fun Q k => ⟨_, rfl, _, rfl, k⟩) (Same.tup s1 A.hcl) (s1.seq hp) (by rw [lq, List.length_map, hl])
      (fun i σ' H' => Same H H' ∧ H' mn = some (.lst ((meansUp B P i).map V.int)) ∧ ∃ y5 y6 y7, σ' = [some (.ref b), some (.ref p), some (.ref ca), some (.ref cl), some (.ref mn), y5, y6, y7]) ⟨s1, by rw [meansUp_zero]; exact hmn, _, _, _, rfl⟩
      (fun i σ' H' _ hP => ⟨Same.tup hP.1 A.hcl, hP.1.seq hp⟩) (fun i y z T σ' H' hy hz hP hT => ?_) (fun σ' H' hP => ?_)
    · obtain ⟨s2, hmn2, y5, y6, y7, rfl⟩ := hP
      obtain ⟨t, rfl, ht⟩ := map_ref_get hy
      obtain ⟨rfl, hi⟩ := map_int_get hz
      rw [hl] at hi
      have s3 : Same H' (upd H' T (.tup [.ref t, .int (g P i)])) := Same.new hT
      have hqt := Same.tup (s2.trans s3) (A.hq.2 i t _ ht (Bk.clm_get hi))
      have hmn3 := s3 _ _ hmn2
      have hT3 : (upd H' T (.tup [.ref t, .int (g P i)])) T = some (.tup [.ref t, .int (g P i)]) := upd_same
      have s23 := s2.trans s3
      generalize upd H' T (.tup [.ref t, .int (g P i)]) = H3 at s3 hqt hmn3 hT3 s23 ⊢
      obtain ⟨y, ey, hyl⟩ : ∃ y : Nat, (B.clm i).c = (y : Int) ∧ y < B.cash.length := ⟨(B.clm i).c.toNat, by have := (G.clm hi).c0; omega, by have := (G.clm hi).c0; have := (G.clm hi).c1; omega⟩
      have hyl2 : y < (meansUp B P i).length := by rw [meansUp_len]; exact hyl
      refine ⟨T, _, rfl, st_of hT3, rfl, _, _, rfl, t, _, rfl, hqt, rfl, _, _, rfl, _, _, rfl, _, _, rfl, _, _, rfl, rfl, _, _, rfl, rfl, ?_⟩
      refine ⟨_, rfl, _, rfl, mn, _, _, _, rfl, rfl, sq_of hmn3, atI_g ey hyl2, _, rfl, _, _, rfl, rfl, mn, _, _, y, rfl, rfl, hmn3, ixN_nat ey (by rw [List.length_map]; exact hyl2), ?_⟩
      refine ⟨Same.mut s23 nmn, ?_, _, _, _, rfl⟩
      rw [upd_same, map_set, meansUp_step ey hyl]
    · obtain ⟨s2, hmn2, y5, y6, y7, rfl⟩ := hP
      rw [lq, meansUp_all hl] at hmn2
      exact ⟨_, rfl, k mn H' nmn s2 hmn2⟩
theorem sc_allpaid : FnScope ["book", "_", "claims", "amount"] ["book"] (defScope s_allpaid) := ⟨rfl, rfl, rfl, by decide +kernel, rfl, by decide +kernel, by decide +kernel⟩
/- 0:book 1:_ 2:claims 3:amount -/
theorem ok_allpaid {f : Addr} {fd : FuncData} (D : DefAt K mg "all_paid" s_allpaid ["book"] f fd) : FnOk P w K mg base CX0 1 f fd ["book"] (spAllPaid K) := by
  refine D.F.ok sc_allpaid (fun vs H Q E h => ?_) (fun cdv A outer s H vs Q E hr h => ?_)
  · obtain ⟨b, ca, cl, ts, B, rfl, _⟩ := h
    rfl
  · obtain ⟨b, ca, cl, ts, B, rfl, A, G, k⟩ := h
    have lq : (ts.map V.ref).length = B.claims.length := by rw [List.length_map, A.hq.1]
    have m1 := G.m1
    refine ⟨_, pss_cons (ps_asg (pv 0) (pg_tup rfl (pgs_cons (pg_name (i := 1) sc_allpaid.nd rfl (.inl rfl)) (pgs_cons (pg_name (i := 2) sc_allpaid.nd rfl (.inl rfl)) pgs_nil))))
        (pss_one (ps_ret (pe_lc (own := [("_", 1), ("amount", 3)]) (g := (gTup K 4 (gCons (gName 1) (gCons (gName 1) (gCons (gName 3) (gCons (gName 1) gNil)))))) (tt := tYes) (by rfl) sc_allpaid.nd (pi_tup (pv 2)) (blkOk_by (own := [("_", 1), ("amount", 3)]) (N := ["book", "_", "claims", "amount"]) (sc := defScope s_allpaid) (by decide +kernel)) (fun _ _ _ _ _ => (pg_tup rfl (pgs_cons (pg_name (i := 1) sc_allpaid.nd rfl (.inl rfl)) (pgs_cons (pg_name (i := 1) sc_allpaid.nd rfl (.inl rfl)) (pgs_cons (pg_name (i := 3) sc_allpaid.nd rfl (.inl rfl)) (pgs_cons (pg_name (i := 1) sc_allpaid.nd rfl (.inl rfl)) pgs_nil)))))) (fun _ _ _ _ _ => pts_nil) (fun _ _ _ _ _ => (pv 3))))), ?_⟩
    refine sq_tup2 (fun Q k => ⟨_, rfl, k⟩) A.hb ?_
    refine ⟨_, rfl, cl, rfl, ⟨_, A.hcl⟩, fun d nd => ?_⟩
    refine lc_tup (xs := ts.map V.ref) (fun i H' => Same H H' ∧ H' d = some (.lst (((allP B).take i).map V.int))) ⟨Same.new nd, upd_same⟩ (fun i H' _ hP => Same.tup hP.1 A.hcl) (fun i y H' hy hP => ?_) (fun H' hP => ?_)
    · obtain ⟨s2, hd⟩ := hP
      obtain ⟨t, rfl, ht⟩ := map_ref_get hy
      have hi : i < B.claims.length := by
        rw [← A.hq.1]
        exact (List.getElem?_eq_some_iff.mp ht).1
      have hqt := Same.tup s2 (A.hq.2 i t _ ht (Bk.clm_get hi))
      refine ⟨t, _, rfl, hqt, rfl, _, _, rfl, _, _, rfl, _, _, rfl, _, _, rfl, rfl, rfl, _, rfl, _, hd, ?_, Same.mut s2 nd, ?_⟩
      · rw [List.length_map, List.length_take]
        exact sz_lt (by omega)
      · rw [upd_same, allP_take hi, List.map_append]
        rfl
    · obtain ⟨s2, hd⟩ := hP
      rw [lq, List.take_of_length_le (by rw [allP_len]; exact Nat.le_refl _)] at hd
      exact k d H' nd s2 hd
end


end Rf
namespace Rf
open PySem PySem.Spec PyProof.Rows L2
def spNeedP (K : PySem.W.Frag) : Sp := fun vs H Q _ => ∃ (b ca cl : Addr) (ts : List Addr) (B : Bk) (p : Addr) (P : List Int), vs = [.ref b, .ref p] ∧ BookAt K H b ca cl ts B ∧ Good B ∧ SqL K H p (P.map V.int) ∧ Pay B P ∧ ∀ H', Same H H' → Q .non H'
section
variable {P : Program} {w : World} {K : PySem.W.Frag} {mg : Str → Option Value} {base : Heap}
theorem sc_needp : FnScope ["book", "payments", "_", "claims", "number", "amount"] ["book", "payments"] (defScope s_needp) := ⟨rfl, rfl, rfl, by decide +kernel, rfl, by decide +kernel, by decide +kernel⟩
/- 0:book 1:payments 2:_ 3:claims 4:number 5:amount -/
theorem ok_needp {f : Addr} {fd : FuncData} (D : DefAt K mg "_need_payments" s_needp ["book", "payments"] f fd) (L : Lims mg) (m_len : mg "len" = none) (m_enumerate : mg "enumerate" = none)
    {f1 : Addr} {fd1 : FuncData} (D_wrong : DefAt K mg "_wrong_in_claim" s_wrong ["claim", "houses"] f1 fd1)
    {f2 : Addr} {fd2 : FuncData} (D_need : DefAt K mg "need_book" s_need ["book"] f2 fd2) : FnOk P w K mg base CX0 4 f fd ["book", "payments"] (spNeedP K) := by
  have G_need : FnOk P w K mg base CX0 2 f2 fd2 ["book"] (spNeed K) := ok_need D_need L m_len m_enumerate D_wrong
  refine D.F.ok sc_needp (fun vs H Q E h => ?_) (fun cdv A outer s H vs Q E hr h => ?_)
  · obtain ⟨b, ca, cl, ts, B, p, P, rfl, _⟩ := h
    rfl
  · obtain ⟨b, ca, cl, ts, B, p, P, rfl, A, G, hp, hP, k⟩ := h
    have lq : (ts.map V.ref).length = B.claims.length := by rw [List.length_map, A.hq.1]
    refine ⟨_, pss_cons (ps_expr (pe_call G_need (hr.mono (by decide)) (by rfl) D_need.g D_need.F.kp D_need.b .nil pass0 (pa_cons (pv 0) pa_nil)))
        (pss_cons (ps_asg (pv 0) (pg_tup rfl (pgs_cons (pg_name (i := 2) sc_needp.nd rfl (.inl rfl)) (pgs_cons (pg_name (i := 3) sc_needp.nd rfl (.inl rfl)) pgs_nil))))
        (pss_cons (ps_if (pt_cmpR op_ne (pe_callB (r := rLen K) call_len (by rfl) m_len (by decide +kernel) (pa_cons (pv 1) pa_nil)) (pe_callB (r := rLen K) call_len (by rfl) m_len (by decide +kernel) (pa_cons (pv 3) pa_nil)) (nomark _)) (pss_one ps_never) pss_nil)
        (pss_one (ps_for PassesOwn.never rfl (pi_enumT (by rfl) m_enumerate (pa_cons (pv 3) pa_nil)) (pg_tup rfl (pgs_cons (pg_name (i := 4) sc_needp.nd rfl (.inl rfl)) (pgs_cons (pg_tup rfl (pgs_cons (pg_name (i := 2) sc_needp.nd rfl (.inl rfl)) (pgs_cons (pg_name (i := 2) sc_needp.nd rfl (.inl rfl)) (pgs_cons (pg_name (i := 5) sc_needp.nd rfl (.inl rfl)) (pgs_cons (pg_name (i := 2) sc_needp.nd rfl (.inl rfl)) pgs_nil))))) pgs_nil))) (pss_one (ps_if (pt_not (pt_chain op_le op_le pe_int (pe_ix (r := rIxL K) ix_list (pv 1) (pv 4) (fun _ _ => rfl)) (pv 5))) (pss_one ps_never) pss_nil)))))), ?_⟩
    refine sq_drop (fun H1 => Same H H1) (fun Q k => ⟨_, rfl, b, ca, cl, ts, B, rfl, A, G, fun H1 s1 => k _ H1 s1⟩) (fun H1 s1 => ?_)
    have A1 := A.same s1
    refine sq_tup2 (fun Q k => ⟨_, rfl, k⟩) A1.hb ?_
    refine sq_no (fun H' => H' = H1) (fun Q k => ?_) (fun H2 e => ?_)
    · refine ⟨_, rfl, p, _, rfl, .inl (s1.seq hp), _, rfl, cl, _, rfl, .inr A1.hcl, rfl, ?_⟩
      rw [lq, List.length_map, hP.len]
      have e : decide (V.int (B.claims.length : Int) = V.int (B.claims.length : Int)) = true := decide_eq_true rfl
      rw [e]
      exact ⟨_, rfl, k H1 rfl⟩
    subst e
    refine last_for (sq_forET (xs := ts.map V.ref) (fun Q k => ⟨_, rfl, k⟩) A1.hcl
      (fun i σ' H' => Same H H' ∧ ∃ y3 y5 y6, σ' = [some (.ref b), some (.ref p), y3, some (.ref cl), y5, y6]) ⟨s1, _, _, _, rfl⟩
      (fun i σ' H' _ hP => Same.tup hP.1 A.hcl) (fun i y T σ' H' hy hPv hT => ?_) (fun σ' H' hPv => ?_))
    · obtain ⟨s2, y3, y5, y6, rfl⟩ := hPv
      obtain ⟨t, rfl, ht⟩ := map_ref_get hy
      have hi : i < B.claims.length := by
        rw [← A.hq.1]
        exact (List.getElem?_eq_some_iff.mp ht).1
      have s3 : Same H' (upd H' T (.tup [.int (i : Int), .ref t])) := Same.new hT
      have s23 := s2.trans s3
      have hqt := Same.tup s23 (A.hq.2 i t _ ht (Bk.clm_get hi))
      have hT4 : (upd H' T (.tup [.int (i : Int), .ref t])) T = some (.tup [.int (i : Int), .ref t]) := upd_same
      generalize upd H' T (.tup [.int (i : Int), .ref t]) = H4 at s23 hqt hT4 ⊢
      have hi2 : i < P.length := by rw [hP.len]; exact hi
      refine ⟨T, _, rfl, st_of hT4, rfl, _, _, rfl, _, _, rfl, t, _, rfl, hqt, rfl, _, _, rfl, _, _, rfl, _, _, rfl, _, _, rfl, rfl, rfl, ?_⟩
      refine ⟨_, rfl, _, rfl, p, _, _, _, rfl, rfl, s23.seq hp, atI_g rfl hi2, _, _, rfl, rfl, true, dec_t (hP.lo i hi), iteT ⟨_, rfl, _, _, rfl, rfl, true, dec_t (hP.hi i hi), iteF ⟨s23, _, _, _, rfl⟩⟩⟩
    · exact k H' hPv.1
end


end Rf
namespace Rf
open PySem PySem.Spec PyProof.Rows L2
/-! ### whether it is a clearing -/
/-- for i, x in enumerate(a new list) -/
theorem sq_forEN {K : PySem.W.Frag} {ta : TA} {g : TG} {tu tz : TS} {D : Ends} {σ : L2.St} {H : Hp} {xs : List V} (h : ∀ Q : List V → Hp → Prop, (∀ p H', H p = none → Same H H' → H' p = some (.lst xs) → Q [.ref p] H') → ta σ H Q) (Pv : Addr → Nat → L2.St → Hp → Prop)
    (h0 : ∀ p H', H p = none → Same H H' → H' p = some (.lst xs) → Pv p 0 σ H') (hl : ∀ p i σ' H', i ≤ xs.length → Pv p i σ' H' → SqL K H' p xs)
    (hs : ∀ p (i : Nat) (x : V) (T : Addr) σ' H', xs[i]? = some x → Pv p i σ' H' → H' T = none → g (.ref T) σ' (upd H' T (.tup [.int (i : Int), x])) fun σ2 H2 => tu { D with nx := Pv p (i + 1), ct := Pv p (i + 1), bk := tz D } σ2 H2) (hd : ∀ p σ' H', Pv p xs.length σ' H' → tz D σ' H') : tSeq (tFor (iEnum K ta) g tu) tz D σ H := by
  refine h _ fun a H1 na s1 ha => ⟨a, xs, rfl, sq_of ha, fun i m σ H => m = xs.length - i ∧ i ≤ xs.length ∧ Pv a i σ H, ⟨xs.length, rfl, Nat.zero_le _, h0 a H1 na s1 ha⟩, ?_⟩
  rintro i m σ H ⟨rfl, hi, p⟩
  have q := hl a i σ H hi p
  by_cases hlt : i < xs.length
  · have hx : xs[i]? = some xs[i] := List.getElem?_eq_getElem hlt
    refine .inr ⟨⟨xs, _, q, hx⟩, Pv a (i + 1), fun σ' H' p' => ⟨xs.length - (i + 1), by omega, rfl, hlt, p'⟩, fun v H' y => ?_⟩
    obtain ⟨T, x', rfl, hT, rfl, f1⟩ := y
    exact hs a i x' T σ H (f1 xs q) p hT
  · have e : i = xs.length := by omega
    subst e
    exact .inl ⟨⟨xs, q, Nat.le_refl _⟩, hd a σ H p⟩
section
variable {P : Program} {w : World} {K : PySem.W.Frag} {mg : Str → Option Value} {base : Heap}
theorem sc_isclr : FnScope ["book", "payments", "house", "means", "claim", "coins"] ["book", "payments"] (defScope s_isclr) := ⟨rfl, rfl, rfl, by decide +kernel, rfl, by decide +kernel, by decide +kernel⟩
/- 0:book 1:payments 2:house 3:means 4:claim 5:coins -/
theorem ok_isclr {f : Addr} {fd : FuncData} (D : DefAt K mg "is_clearing" s_isclr ["book", "payments"] f fd) (L : Lims mg) (m_len : mg "len" = none) (m_enumerate : mg "enumerate" = none) (m_zip : mg "zip" = none) (m_list : mg "list" = none)
    (m_sum : mg "sum" = none) (m_sorted : mg "sorted" = none) (m_range : mg "range" = none) (m_max : mg "max" = none)
    {f1 : Addr} {fd1 : FuncData} (D_wrong : DefAt K mg "_wrong_in_claim" s_wrong ["claim", "houses"] f1 fd1)
    {f2 : Addr} {fd2 : FuncData} (D_need : DefAt K mg "need_book" s_need ["book"] f2 fd2)
    {f91 : Addr} {fd91 : FuncData} (D_needhs : DefAt K mg "need_houses" s_needhs ["book", "houses"] f91 fd91)
    {f3 : Addr} {fd3 : FuncData} (D_needh : DefAt K mg "need_house" s_needh ["book", "house"] f3 fd3)
    {f4 : Addr} {fd4 : FuncData} (D_shared : DefAt K mg "shared" s_shared ["amounts", "coins"] f4 fd4)
    {f5 : Addr} {fd5 : FuncData} (D_first_coins : DefAt K mg "_first_coins" s_first_coins ["amounts", "coins"] f5 fd5)
    {f6 : Addr} {fd6 : FuncData} (D_least_paid : DefAt K mg "_least_paid" s_least_paid ["amounts", "paid"] f6 fd6)
    {f7 : Addr} {fd7 : FuncData} (D_debts : DefAt K mg "debts_by_rank" s_debts ["claims", "house"] f7 fd7)
    {f8 : Addr} {fd8 : FuncData} (D_paidw : DefAt K mg "paid_with" s_paidw ["debts", "means"] f8 fd8)
    {f9 : Addr} {fd9 : FuncData} (D_paidby : DefAt K mg "paid_by" s_paidby ["book", "house", "means"] f9 fd9)
    {f10 : Addr} {fd10 : FuncData} (D_needp : DefAt K mg "_need_payments" s_needp ["book", "payments"] f10 fd10)
    {f11 : Addr} {fd11 : FuncData} (D_meansby : DefAt K mg "means_by" s_meansby ["book", "payments"] f11 fd11) : FnOk P w K mg base CX0 6 f fd ["book", "payments"] (spIsClr K) := by
  have G_needp : FnOk P w K mg base CX0 4 f10 fd10 ["book", "payments"] (spNeedP K) := ok_needp D_needp L m_len m_enumerate D_wrong D_need
  have G_meansby : FnOk P w K mg base CX0 1 f11 fd11 ["book", "payments"] (spMeansBy K) := ok_meansby D_meansby m_zip m_list
  have G_paidby : FnOk P w K mg base CX0 5 f9 fd9 ["book", "house", "means"] (spPaidBy K) := ok_paidby D_paidby L m_len m_enumerate m_sum m_sorted m_zip m_range m_max m_list D_wrong D_need D_needhs D_needh D_shared D_first_coins D_least_paid D_debts D_paidw
  refine D.F.ok sc_isclr (fun vs H Q E h => ?_) (fun cdv A outer s H vs Q E hr h => ?_)
  · obtain ⟨b, ca, cl, ts, B, p, P, rfl, _⟩ := h
    rfl
  · obtain ⟨b, ca, cl, ts, B, p, P, rfl, A, G, hp, hP, k⟩ := h
    have hl := hP.len
    have lm : ((meansL B P).map V.int).length = B.cash.length := by rw [List.length_map, meansL_len]
    refine ⟨_, pss_cons (ps_expr (pe_call G_needp (hr.mono (by decide)) (by rfl) D_needp.g D_needp.F.kp D_needp.b .nil pass0 (pa_cons (pv 0) (pa_cons (pv 1) pa_nil))))
        (pss_cons (ps_for PassesOwn.never rfl (pi_enum (by rfl) m_enumerate (pa_cons (pe_call G_meansby (hr.mono (by decide)) (by rfl) D_meansby.g D_meansby.F.kp D_meansby.b .nil pass0 (pa_cons (pv 0) (pa_cons (pv 1) pa_nil))) pa_nil)) (pg_tup rfl (pgs_cons (pg_name (i := 2) sc_isclr.nd rfl (.inl rfl)) (pgs_cons (pg_name (i := 3) sc_isclr.nd rfl (.inl rfl)) pgs_nil))) (pss_one (ps_for PassesOwn.never rfl (pi_list (pe_call G_paidby (hr.mono (by decide)) (by rfl) D_paidby.g D_paidby.F.kp D_paidby.b .nil pass0 (pa_cons (pv 0) (pa_cons (pv 2) (pa_cons (pv 3) pa_nil))))) (pg_tup rfl (pgs_cons (pg_name (i := 4) sc_isclr.nd rfl (.inl rfl)) (pgs_cons (pg_name (i := 5) sc_isclr.nd rfl (.inl rfl)) pgs_nil))) (pss_one (ps_if (pt_cmpR op_ne (pe_ix (r := rIxL K) ix_list (pv 1) (pv 4) (fun _ _ => rfl)) (pv 5) (nomark _)) (pss_one (ps_ret pe_bl)) pss_nil)))))
        (pss_one (ps_ret pe_bl))), ?_⟩
    refine sq_drop (fun H1 => Same H H1) (fun Q k => ⟨_, rfl, _, rfl, b, ca, cl, ts, B, p, P, rfl, A, G, hp, hP, fun H1 s1 => k _ H1 s1⟩) (fun H1 s1 => ?_)
    have A1 := A.same s1
    refine sq_forEN (xs := (meansL B P).map V.int) (fun Q k => ⟨_, rfl, _, rfl, b, ca, cl, ts, B, p, P, rfl, A1, G, s1.seq hp, hl, k⟩)
      (fun mn i σ' H' => Same H H' ∧ H' mn = some (.lst ((meansL B P).map V.int)) ∧ (∀ x : Nat, x < i → Stable B (x : Int) P) ∧ ∃ y2 y3 y4 y5, σ' = [some (.ref b), some (.ref p), y2, y3, y4, y5])
      (fun mn H' nm s2 hm => ⟨s1.trans s2, hm, (fun x z => absurd z (Nat.not_lt_zero _)), _, _, _, _, rfl⟩) (fun mn i σ' H' _ hPv => sq_of hPv.2.1) (fun mn i y T σ' H' hy hPv hT => ?_) (fun mn σ' H' hPv => ?_)
    · obtain ⟨s2, hm, hst, y2, y3, y4, y5, rfl⟩ := hPv
      obtain ⟨rfl, hi⟩ := map_int_get hy
      rw [meansL_len] at hi
      rw [g_meansL hi]
      have s3 : Same H' (upd H' T (.tup [.int (i : Int), .int (meansOf B (i : Int) P)])) := Same.new hT
      have hT4 : (upd H' T (.tup [.int (i : Int), .int (meansOf B (i : Int) P)])) T = some (.tup [.int (i : Int), .int (meansOf B (i : Int) P)]) := upd_same
      have s23 := s2.trans s3
      have hm4 := s3 _ _ hm
      generalize upd H' T (.tup [.int (i : Int), .int (meansOf B (i : Int) P)]) = H4 at s23 hm4 hT4 ⊢
      have A4 := A.same s23
      refine ⟨T, _, rfl, st_of hT4, rfl, _, _, rfl, _, _, rfl, rfl, ?_⟩
      have hlu : ∀ us : List Addr, us.length = (payList B (i : Int) (meansOf B (i : Int) P)).length → (us.map V.ref).length = (payList B (i : Int) (meansOf B (i : Int) P)).length := fun us h => by rw [List.length_map, h]
      refine ⟨_, rfl, _, rfl, _, rfl, b, ca, cl, ts, B, (i : Int), meansOf B (i : Int) P, rfl, A4, G, by omega, by omega, fun q us H5 nq s5 hq5 hprs => ⟨q, rfl, ⟨_, sq_of hq5⟩, ?_⟩⟩
      refine for_list (D := _) (xs := us.map V.ref) (fun j σ2 H6 => Same H H6 ∧ H6 mn = some (.lst ((meansL B P).map V.int)) ∧ H6 q = some (.lst (us.map V.ref)) ∧ PrsAt H6 us (payList B (i : Int) (meansOf B (i : Int) P)) ∧ (∀ l k' c, l < j → (payList B (i : Int) (meansOf B (i : Int) P))[l]? = some (k', c) → g P k' = c) ∧ ∃ y2 y3 y4 y5, σ2 = [some (.ref b), some (.ref p), y2, y3, y4, y5])
        ⟨s23.trans s5, s5 _ _ hm4, hq5, hprs, (fun l _ _ z => absurd z (Nat.not_lt_zero _)), _, _, _, _, rfl⟩ (fun j σ2 H6 _ h6 => sq_of h6.2.2.1) (fun j z σ2 H6 hz h6 => ?_) (fun σ2 H6 h6 => ?_)
      · obtain ⟨s6, hm6, hq6, hpr6, hall, y2, y3, y4, y5, rfl⟩ := h6
        obtain ⟨u, rfl, hu⟩ := map_ref_get hz
        obtain ⟨⟨k', c⟩, hk', hu6⟩ := hpr6.get hu
        have hkm : (k', c) ∈ payList B (i : Int) (meansOf B (i : Int) P) := List.mem_of_getElem? hk'
        have hkin : k' < B.claims.length ∧ (B.clm k').d = (i : Int) := by
          unfold payList at hkm
          obtain ⟨k2, h2, e2⟩ := List.mem_map.mp hkm
          cases e2
          exact mem_owesUp.mp h2
        have hc : c = coinOf B (i : Int) (meansOf B (i : Int) P) k' := by
          unfold payList at hkm
          obtain ⟨k2, h2, e2⟩ := List.mem_map.mp hkm
          cases e2
          rfl
        have hk2 : k' < P.length := by rw [hl]; exact hkin.1
        refine ⟨u, _, rfl, st_of hu6, rfl, _, _, rfl, _, _, rfl, rfl, ?_⟩
        refine if_ifP (p := ¬ g P k' = c) (fun Q k => ⟨_, rfl, _, rfl, p, _, _, _, rfl, rfl, s6.seq hp, atI_g rfl hk2, _, rfl, rfl, _, rfl, ?_⟩) (fun e => ?_) (fun e => ?_)
        · have e2 : (!decide (V.int (g P k') = V.int c)) = decide (¬ g P k' = c) := by
            rw [dec_vint]
            exact (decide_not ..).symm
          rw [e2]
          exact k
        · have q := k H6 s6
          have e3 : decide (behind B (houses B) P = P) = false := decide_eq_false fun z => e (by
            have z2 : g (behind B (houses B) P) k' = g P k' := by rw [z]
            rw [g_behind hkin.1, if_pos (debtor_in G hkin.1), hkin.2] at z2
            rw [hc, z2])
          rw [e3] at q
          exact q
        · refine sq_nx ⟨s6, hm6, hq6, hpr6, fun l k2 c2 hl2 h2 => ?_, _, _, _, _, rfl⟩
          rcases Nat.lt_succ_iff_lt_or_eq.mp hl2 with h | h
          · exact hall l k2 c2 h h2
          · subst h
            rw [hk'] at h2
            cases h2
            exact Decidable.of_not_not e
      · obtain ⟨s6, hm6, hq6, hpr6, hall, y2, y3, y4, y5, rfl⟩ := h6
        refine ⟨s6, hm6, fun x hx => ?_, _, _, _, _, rfl⟩
        rcases Nat.lt_succ_iff_lt_or_eq.mp hx with h | h
        · exact hst x h
        · subst h
          intro k' hk' hd
          obtain ⟨l, hll⟩ := List.mem_iff_getElem?.mp ((mem_payList G).mpr (coin_mem G (m := meansOf B (x : Int) P) hk' hd))
          exact hall l k' _ (by rw [List.length_map, hpr6.1]; exact (List.getElem?_eq_some_iff.mp hll).1) hll
    · obtain ⟨s2, hm, hst, y2, y3, y4, y5, rfl⟩ := hPv
      rw [lm] at hst
      have q := k H' s2
      have e : behind B (houses B) P = P := stable_all hl fun x hx => by
        obtain ⟨h0, h1⟩ := mem_houses.mp hx
        have := hst x.toNat (by omega)
        rw [Int.toNat_of_nonneg h0] at this
        exact this
      rw [decide_eq_true e] at q
      exact q
end


end Rf
namespace Rf
open PySem PySem.Spec PyProof.Rows L2
/-! ### settled, as the program does it -/
/-- the heap where debts are made: what stands -/
structure SetFx (H H3 : Hp) (B : Bk) (pd mn db : Addr) (ds : List Addr) : Prop where
  s3 : Same H H3
  npd : H pd = none
  nmn : H mn = none
  ndb : H db = none
  ne : pd ≠ mn
  opd : H3 pd ≠ none
  omn : H3 mn ≠ none
  db_ : H3 db = some (.lst (ds.map V.ref))
  ndp : db ≠ pd
  ndm : db ≠ mn
  dl : ds.length = B.cash.length
  dd : ∀ (j : Nat) (t : Addr), ds[j]? = some t → ∃ H2, DbtAt H2 H3 t B (j : Int) ∧ H2 pd ≠ none ∧ H2 mn ≠ none
/-- what turns: payments and means -/
structure SetSt (H3 H' : Hp) (B : Bk) (P : List Int) (pd mn : Addr) : Prop where
  off : Off (isHC pd mn) H3 H'
  pd_ : H' pd = some (.lst (P.map V.int))
  mn_ : H' mn = some (.lst ((meansL B P).map V.int))
section
variable {H H3 H' : Hp} {B : Bk} {P : List Int} {pd mn db : Addr} {ds : List Addr}
theorem SetFx.same (F : SetFx H H3 B pd mn db ds) (S : SetSt H3 H' B P pd mn) : Same H H' := fun b o e => S.off b o (F.s3 b o e) fun z => by
  rcases z with z | z
  · rw [z, F.npd] at e; cases e
  · rw [z, F.nmn] at e; cases e
theorem SetFx.dbs (F : SetFx H H3 B pd mn db ds) (S : SetSt H3 H' B P pd mn) : H' db = some (.lst (ds.map V.ref)) := S.off _ _ F.db_ fun z => z.elim F.ndp F.ndm
theorem SetFx.dbt (F : SetFx H H3 B pd mn db ds) (S : SetSt H3 H' B P pd mn) {j : Nat} {t : Addr} (h : ds[j]? = some t) : ∃ H2, DbtAt H2 H' t B (j : Int) := by
  obtain ⟨H2, D, n1, n2⟩ := F.dd j t h
  exact ⟨H2, D.off S.off fun a z => by
    rcases z with z | z
    · rw [z]; exact n1
    · rw [z]; exact n2⟩
theorem SetSt.more {H2 : Hp} (S : SetSt H3 H' B P pd mn) (e : Same H' H2) : SetSt H3 H2 B P pd mn := ⟨fun b o h n => e _ _ (S.off b o h n), e _ _ S.pd_, e _ _ S.mn_⟩
theorem SetSt.mut (F : SetFx H H3 B pd mn db ds) (S : SetSt H3 H' B P pd mn) {q : Addr} {o : HO} (nq : H3 q = none) : SetSt H3 (upd H' q o) B P pd mn := by
  have n1 : pd ≠ q := fun z => F.opd (by rw [z]; exact nq)
  have n2 : mn ≠ q := fun z => F.omn (by rw [z]; exact nq)
  exact ⟨S.off.mut nq, by rw [upd_ne n1]; exact S.pd_, by rw [upd_ne n2]; exact S.mn_⟩
theorem SetSt.put (F : SetFx H H3 B pd mn db ds) (S : SetSt H3 H' B P pd mn) (hl : P.length = B.claims.length) {k y : Nat} {c : Int} (hk : k < B.claims.length) (hc : (B.clm k).c = (y : Int)) (hy : y < B.cash.length) :
    SetSt H3 (upd (upd H' mn (.lst (((meansL B P).set y (g (meansL B P) y + (c - g P k))).map V.int))) pd (.lst ((P.set k c).map V.int))) B (P.set k c) pd mn := by
  refine ⟨fun b o h n => ?_, upd_same, ?_⟩
  · rw [upd_ne (fun z => n (.inl z)), upd_ne (fun z => n (.inr z))]
    exact S.off b o h n
  · rw [upd_ne F.ne.symm, upd_same, meansL_set hl hk hc hy]
end
/-- a dict of houses, all True -/
def touV (T : List Int) : List (Key × V) := T.map fun t => ((Sum.inl t : Key), V.bl true)
theorem valV_tou {r : Int} : ∀ {T : List Int}, valV (touV T) (Sum.inl r) = if r ∈ T then some (V.bl true) else none
  | [] => rfl
  | x :: T => by
    show valV (((Sum.inl x : Key), V.bl true) :: touV T) (Sum.inl r) = _
    by_cases e : x = r
    · subst e
      rw [valV_pos (by rfl), if_pos List.mem_cons_self]
    · rw [valV_neg (fun z => e (Sum.inl.inj z)), valV_tou (T := T)]
      by_cases h : r ∈ T
      · rw [if_pos h, if_pos (List.mem_cons_of_mem _ h)]
      · rw [if_neg h, if_neg (fun z => by
          rcases List.mem_cons.mp z with q | q
          · exact e q.symm
          · exact h q)]
theorem putK_tou {T : List Int} {y : Int} : putK (touV T) (Sum.inl y) (V.bl true) = touV (addK T y) := by
  unfold addK
  by_cases h : y ∈ T
  · rw [if_pos h]
    unfold putK
    have a : ((touV T).any fun kv => decide (kv.1 = (Sum.inl y : Key))) = true := List.any_eq_true.mpr ⟨_, List.mem_map.mpr ⟨y, h, rfl⟩, decide_eq_true rfl⟩
    rw [if_pos a]
    unfold touV
    rw [List.map_map]
    apply List.map_congr_left
    intro t _
    show (if (Sum.inl t : Key) = Sum.inl y then ((Sum.inl t : Key), V.bl true) else ((Sum.inl t : Key), V.bl true)) = _
    split <;> rfl
  · rw [if_neg h, putK_new _ (by rw [valV_tou, if_neg h])]
    unfold touV
    rw [List.map_append]
    rfl
theorem at_rf {ts : List Addr} {k : Nat} {t : Addr} {i : Int} (e : i = (k : Int)) (h : ts[k]? = some t) : atI (ts.map V.ref) i = some (.ref t) := by
  rw [e]
  apply atI_nat
  rw [List.getElem?_map, h]
  rfl
theorem tou_len (T : List Int) : (touV T).length = T.length := List.length_map _
/-- the house of a number -/
theorem tou_len8 {B : Bk} (G : Good B) {T : List Int} (hn : T.Nodup) (h : ∀ t ∈ T, t ∈ houses B) : T.length ≤ 8 := by
  have q := nodup_sub_len hn (houses_nodup B) h
  rw [houses_len] at q
  have := G.n1
  omega
theorem isEmpty_map {l : List Int} : (!(l.map V.int).isEmpty) = !l.isEmpty := by
  cases l <;> rfl
def spSettled (K : PySem.W.Frag) : Sp := fun vs H Q _ => ∃ (b ca cl : Addr) (ts : List Addr) (B : Bk) (p : Addr) (P : List Int) (y : Addr) (hs : List Int) (d : Bool), vs = [.ref b, .ref p, .ref y] ∧ BookAt K H b ca cl ts B ∧ Good B ∧ SqL K H p (P.map V.int) ∧ SqL K H y (hs.map V.int) ∧ (∀ x ∈ hs, x ∈ houses B) ∧ hs.length ≤ 8 ∧
  Pay B P ∧ Tw d (behind B hs P) P ∧ ∀ q H', H q = none → Same H H' → H' q = some (.lst ((fixOf B hs P).map V.int)) → Q (.ref q) H'
/-- where the while stands -/
structure SetW (B : Bk) (hs P0 P W : List Int) (d : Bool) : Prop where
  c : Chaos B hs P0 P d
  sub : ∀ x ∈ W, x ∈ hs
  st : ∀ x ∈ hs, x ∉ W → Stable B x P
  len : W.length ≤ 8
/-- where one pass stands -/
structure SetP (B : Bk) (hs P0 Ps P : List Int) (d : Bool) (R T : List Int) : Prop where
  c : Chaos B hs P0 P d
  st : ∀ x ∈ hs, x ∉ R → x ∉ T → Stable B x P
  tn : T.Nodup
  th : ∀ t ∈ T, t ∈ houses B
  tw : Tw d P Ps
  ch : T = [] ∨ P ≠ Ps
theorem SetP.step {B : Bk} (G : Good B) {hs P0 Ps P : List Int} {d : Bool} {x : Int} {R T : List Int} (S : SetP B hs P0 Ps P d (x :: R) T) (h0 : Pay B P0) (hf : Tw d (behind B hs P0) P0) (hx : x ∈ hs) :
    SetP B hs P0 Ps (behind B [x] P) d R (touch B P (payFrom B x ranks9 (meansOf B x P)) T) := by
  have hl := S.c.pay.len
  obtain ⟨_, b2⟩ := one_between S.c.fwd hx
  have hin : ∀ {k c}, (k, c) ∈ payFrom B x ranks9 (meansOf B x P) → k < B.claims.length ∧ (B.clm k).d = x ∧ c = coinOf B x (meansOf B x P) k := fun {k c} h => by
    rw [← mem_payList G] at h
    unfold payList at h
    obtain ⟨k2, h2, e2⟩ := List.mem_map.mp h
    cases e2
    exact ⟨(mem_owesUp.mp h2).1, (mem_owesUp.mp h2).2, rfl⟩
  refine ⟨S.c.step G h0 hf hx, fun y hy hR hT => ?_, touch_nodup S.tn, touch_houses G (fun p hp => (hin (c := p.2) hp).1) S.th, b2.trans S.tw, ?_⟩
  · by_cases e : y = x
    · subst e
      exact stable_self G hl y
    · refine stable_other hl e (S.st y hy (fun z => ?_) fun z => hT (touch_sub z)) fun k hk hc => ?_
      · rcases List.mem_cons.mp z with q | q
        · exact e q
        · exact hR q
      · rw [g_one hk]
        by_cases e2 : (B.clm k).d = x
        · rw [if_pos e2]
          refine Classical.byContradiction fun z => hT ?_
          rw [← hc]
          exact touch_in (coin_mem G hk e2) z
        · rw [if_neg e2]
  · by_cases e : ∀ p ∈ payFrom B x ranks9 (meansOf B x P), p.2 = g P p.1
    · rw [touch_none e]
      have e2 : behind B [x] P = P := by
        refine ext_g (by rw [behind_len, hl]) fun k hk => ?_
        rw [behind_len] at hk
        rw [g_one hk]
        by_cases e3 : (B.clm k).d = x
        · rw [if_pos e3]
          exact e _ (coin_mem G hk e3)
        · rw [if_neg e3]
      rw [e2]
      exact S.ch
    · right
      intro z
      apply e
      intro p hp
      obtain ⟨q1, q2, q3⟩ := hin (k := p.1) (c := p.2) hp
      have e4 : behind B [x] P = P := Tw.anti b2 (z ▸ S.tw)
      have e5 : g (behind B [x] P) p.1 = g P p.1 := by rw [e4]
      rw [g_one q1, if_pos q2, ← q3] at e5
      exact e5


end Rf
namespace Rf
open PySem PySem.Spec PyProof.Rows L2
section
variable {P : Program} {w : World} {K : PySem.W.Frag} {mg : Str → Option Value} {base : Heap}
theorem sc_settled : FnScope ["book", "payments", "payers", "cash", "claims", "paid", "means", "house", "debts", "waiting", "touched", "claim", "coins", "_", "creditor"] ["book", "payments", "payers"] (defScope s_settled) := ⟨rfl, rfl, rfl, by decide +kernel, rfl, by decide +kernel, by decide +kernel⟩
/- 0:book 1:payments 2:payers 3:cash 4:claims 5:paid 6:means 7:house 8:debts 9:waiting 10:touched 11:claim 12:coins 13:_ 14:creditor -/
theorem ok_settled {f : Addr} {fd : FuncData} (D : DefAt K mg "settled" s_settled ["book", "payments", "payers"] f fd) (m_len : mg "len" = none) (m_enumerate : mg "enumerate" = none) (m_sum : mg "sum" = none) (m_sorted : mg "sorted" = none) (m_zip : mg "zip" = none) (m_range : mg "range" = none) (m_max : mg "max" = none) (m_list : mg "list" = none)
    {f4 : Addr} {fd4 : FuncData} (D_shared : DefAt K mg "shared" s_shared ["amounts", "coins"] f4 fd4)
    {f5 : Addr} {fd5 : FuncData} (D_first_coins : DefAt K mg "_first_coins" s_first_coins ["amounts", "coins"] f5 fd5)
    {f6 : Addr} {fd6 : FuncData} (D_least_paid : DefAt K mg "_least_paid" s_least_paid ["amounts", "paid"] f6 fd6)
    {f7 : Addr} {fd7 : FuncData} (D_debts : DefAt K mg "debts_by_rank" s_debts ["claims", "house"] f7 fd7)
    {f8 : Addr} {fd8 : FuncData} (D_paidw : DefAt K mg "paid_with" s_paidw ["debts", "means"] f8 fd8)
    {f11 : Addr} {fd11 : FuncData} (D_meansby : DefAt K mg "means_by" s_meansby ["book", "payments"] f11 fd11) : FnOk P w K mg base CX0 5 f fd ["book", "payments", "payers"] (spSettled K) := by
  have G_debts : FnOk P w K mg base CX0 1 f7 fd7 ["claims", "house"] (spDebts K) := ok_debts D_debts m_enumerate m_sorted
  have G_paidw : FnOk P w K mg base CX0 4 f8 fd8 ["debts", "means"] (spPaidW K) := ok_paidw D_paidw m_len m_enumerate m_sum m_zip m_range m_max m_list D_shared D_first_coins D_least_paid
  have G_meansby : FnOk P w K mg base CX0 1 f11 fd11 ["book", "payments"] (spMeansBy K) := ok_meansby D_meansby m_zip m_list
  refine D.F.ok sc_settled (fun vs H Q E h => ?_) (fun cdv A outer s H vs Q E hr h => ?_)
  · obtain ⟨b, ca, cl, ts, B, p, P, y, hs, d, rfl, _⟩ := h
    rfl
  · obtain ⟨b, ca, cl, ts, B, p, P0, y, hs, d, rfl, A, G, hp, hy, hin, hl8, hP, hf, k⟩ := h
    have lc : (B.cash.map V.int).length = B.cash.length := List.length_map _
    have n8 := G.n1
    have hu := hu_of hr
    refine ⟨_, pss_cons (ps_asg (pv 0) (pg_tup rfl (pgs_cons (pg_name (i := 3) sc_settled.nd rfl (.inl rfl)) (pgs_cons (pg_name (i := 4) sc_settled.nd rfl (.inr rfl)) pgs_nil))))
        (pss_cons (ps_set (i := 5) sc_settled.nd rfl (.inl rfl) (pe_callTy (r := rListOf K) call_listOf (by rfl) m_list (by decide +kernel) (pa_cons (pv 1) pa_nil)))
        (pss_cons (ps_set (i := 6) sc_settled.nd rfl (.inl rfl) (pe_call G_meansby (hr.mono (by decide)) (by rfl) D_meansby.g D_meansby.F.kp D_meansby.b .nil pass0 (pa_cons (pv 0) (pa_cons (pv 5) pa_nil))))
        (pss_cons (ps_setLc (i := 8) (own := [("house", 7)]) (g := gName 7) (tt := tYes) (by rfl) sc_settled.nd rfl rfl (sw_true rfl rfl rfl (by decide +kernel)) (pi_range1 (by rfl) m_range (pa_cons (pe_callB (r := rLen K) call_len (by rfl) m_len (by decide +kernel) (pa_cons (pv 3) pa_nil)) pa_nil)) (blkOk_by (own := [("house", 7)]) (N := ["book", "payments", "payers", "cash", "claims", "paid", "means", "house", "debts", "waiting", "touched", "claim", "coins", "_", "creditor"]) (sc := defScope s_settled) (by decide +kernel)) (fun _ _ _ _ _ => (pg_name (i := 7) sc_settled.nd rfl (.inl rfl))) (fun _ _ _ _ _ => pts_nil) (fun _ _ _ _ _ => (pe_call G_debts (hr.mono (by decide)) (by rfl) D_debts.g D_debts.F.kp D_debts.b .nil pass0 (pa_cons (pv 4) (pa_cons (pv 7) pa_nil)))))
        (pss_cons (ps_set (i := 9) sc_settled.nd rfl (.inl rfl) (pe_callTy (r := rListOf K) call_listOf (by rfl) m_list (by decide +kernel) (pa_cons (pv 2) pa_nil)))
        (pss_cons (ps_while PassesOwn.never (pt_truth (pv 9) (fun _ => rfl)) (pss_cons (ps_set (i := 10) sc_settled.nd rfl (.inr rfl) pe_dnewK)
          (pss_cons (ps_for PassesOwn.never rfl (pi_list (pv 9)) (pg_name (i := 7) sc_settled.nd rfl (.inl rfl)) (pss_one (ps_for PassesOwn.never rfl (pi_list (pe_call G_paidw (hr.mono (by decide)) (by rfl) D_paidw.g D_paidw.F.kp D_paidw.b .nil pass0 (pa_cons (pe_ix (r := rIxL K) ix_list (pv 8) (pv 7) (fun _ _ => rfl)) (pa_cons (pe_ix (r := rIxL K) ix_list (pv 6) (pv 7) (fun _ _ => rfl)) pa_nil)))) (pg_tup rfl (pgs_cons (pg_name (i := 11) sc_settled.nd rfl (.inl rfl)) (pgs_cons (pg_name (i := 12) sc_settled.nd rfl (.inl rfl)) pgs_nil))) (pss_one (ps_if (pt_cmpR op_ne (pv 12) (pe_ix (r := rIxL K) ix_list (pv 5) (pv 11) (fun _ _ => rfl)) (nomark _)) (pss_cons (ps_asg (pe_ix (r := rIxT K) ix_tup (pv 4) (pv 11) (fun _ _ => rfl)) (pg_tup rfl (pgs_cons (pg_name (i := 13) sc_settled.nd rfl (.inl rfl)) (pgs_cons (pg_name (i := 14) sc_settled.nd rfl (.inl rfl)) (pgs_cons (pg_name (i := 13) sc_settled.nd rfl (.inl rfl)) (pgs_cons (pg_name (i := 13) sc_settled.nd rfl (.inl rfl)) pgs_nil))))))
                (pss_cons (ps_augS (pv 6) (pv 14) get_list (pe_op op_sub (pv 12) (pe_ix (r := rIxL K) ix_list (pv 5) (pv 11) (fun _ _ => rfl))) ip_add set_list)
                (pss_cons (ps_asg (pv 12) (pg_sub (pv 5) (pv 11) set_list))
                (pss_one (ps_dput hu (pv 10) (pv 14) pe_bl rfl))))) pss_nil)))))
          (pss_one (ps_setLc (i := 9) (own := [("house", 7)]) (g := gName 7) (by rfl) sc_settled.nd rfl rfl (sw_true rfl rfl rfl (by decide +kernel)) (pi_list (pv 2)) (blkOk_by (own := [("house", 7)]) (N := ["book", "payments", "payers", "cash", "claims", "paid", "means", "house", "debts", "waiting", "touched", "claim", "coins", "_", "creditor"]) (sc := defScope s_settled) (by decide +kernel)) (fun _ _ _ _ _ => (pg_name (i := 7) sc_settled.nd rfl (.inl rfl))) (fun _ _ _ _ _ => (pts_one (pt_cmp (pc_din hu (pv 7) (pv 10))))) (fun _ _ _ _ _ => (pv 7)))))))
        (pss_one (ps_ret (pv 5)))))))), ?_⟩
    refine sq_tup2 (fun Q k => ⟨_, rfl, k⟩) A.hb ?_
    refine sq_new (.lst (P0.map V.int)) (fun Q k => ⟨_, rfl, p, _, rfl, .inl hp, fun l nl => k l _ nl (Same.new nl) upd_same⟩) (fun pd H1 npd s1 hpd => ?_)
    refine sq_new (.lst ((meansL B P0).map V.int)) (fun Q k => ⟨_, rfl, _, rfl, b, ca, cl, ts, B, pd, P0, rfl, A.same s1, G, sq_of hpd, hP.len, k⟩) (fun mn H2 nmn' s2' hmn => ?_)
    have s2 := s1.trans s2'
    have nmn := s1.free nmn'
    have ne : pd ≠ mn := ne_of_none hpd nmn'
    -- debts
    refine sq_set (fun v H3 => ∃ db ds, v = .ref db ∧ SetFx H H3 B pd mn db ds ∧ SetSt H3 H3 B P0 pd mn) (fun Q k => ?_) (fun v H3 hv => ?_)
    · have A2 := A.same s2
      have lc2 : ((B.cash.map V.int).length : Int) = (B.cash.length : Int) := by rw [lc]
      refine ⟨_, rfl, ca, _, rfl, .inr A2.hca, (B.cash.length : Int), by rw [lc], by omega, by omega, fun db ndb => ?_⟩
      have ndp : db ≠ pd := (ne_of_none (s2' _ _ hpd) ndb).symm
      have ndm : db ≠ mn := (ne_of_none hmn ndb).symm
      have hbase : ∀ a, a = db ∨ a = pd ∨ a = mn → (upd H2 db (.lst [])) a ≠ none := fun a z => by
        rcases z with z | z | z
        · rw [z, upd_same]; exact fun q => nomatch q
        · rw [z, upd_ne ndp.symm, s2' _ _ hpd]; exact fun q => nomatch q
        · rw [z, upd_ne ndm.symm, hmn]; exact fun q => nomatch q
      refine lc_range (lo := 0) (n := (B.cash.length : Int).toNat) (fun j H' => Same H2 H' ∧ ∃ ds : List Addr, H' db = some (.lst (ds.map V.ref)) ∧ ds.length = j ∧ ∀ (i : Nat) (t : Addr), ds[i]? = some t → DbtAt (upd H2 db (.lst [])) H' t B (i : Int)) ⟨Same.new ndb, [], upd_same, rfl, fun i t h => by cases h⟩ (fun j H' hj hPv => ?_) (fun H' hPv => ?_)
      · obtain ⟨s3, ds, hdb, hdl, hds⟩ := hPv
        have e0 : (0 : Int) + (j : Int) = (j : Int) := Int.zero_add _
        rw [e0]
        have A3 := A2.same s3
        refine ⟨rfl, _, rfl, _, rfl, cl, ts, B, (j : Int), rfl, A3.hcl, A3.hq, G, fun q H4 s4 D4 => ⟨_, s4 _ _ hdb, ?_, Same.mut (s3.trans s4) ndb, ds ++ [q], ?_, ?_, fun i t ht => ?_⟩⟩
        · rw [List.length_map, hdl]
          exact sz_lt (by omega)
        · rw [upd_same, List.map_append]
          rfl
        · rw [List.length_append, hdl]
          rfl
        · have D5 : DbtAt (upd H2 db (.lst [])) H4 t B (i : Int) := by
            by_cases hi : i < ds.length
            · rw [List.getElem?_append_left hi] at ht
              exact (hds i t ht).same s4
            · have ei : i = ds.length := by
                have := (List.getElem?_eq_some_iff.mp ht).1
                rw [List.length_append, List.length_singleton] at this
                omega
              subst ei
              rw [List.getElem?_append_right (Nat.le_refl _), Nat.sub_self] at ht
              have et := Option.some.inj ht
              subst et
              rw [hdl]
              refine D4.less fun a ha => ?_
              have na : a ≠ db := fun z => by rw [z, hdb] at ha; cases ha
              rw [upd_ne na]
              exact s3.free ha
          refine D5.off (S := fun a => a = db) (fun a o h n => ?_) fun a z => hbase a (.inl z)
          rw [upd_ne n]
          exact h
      · obtain ⟨s3, ds, hdb, hdl, hds⟩ := hPv
        refine k _ _ ⟨db, ds, rfl, ⟨s2.trans s3, npd, nmn, s2.free ndb, ne, ?_, ?_, hdb, ndp, ndm, by omega, fun j t ht => ⟨_, hds j t ht, hbase _ (.inr (.inl rfl)), hbase _ (.inr (.inr rfl))⟩⟩, ⟨Off.refl, s3 _ _ (s2' _ _ hpd), s3 _ _ hmn⟩⟩
        · rw [s3 _ _ (s2' _ _ hpd)]; exact fun q => nomatch q
        · rw [s3 _ _ hmn]; exact fun q => nomatch q
    · obtain ⟨db, ds, rfl, F, S3⟩ := hv
      have hy3 := (F.same S3).seq hy
      refine sq_new (.lst (hs.map V.int)) (fun Q k => ⟨_, rfl, y, _, rfl, .inl hy3, fun l nl => k l _ nl (Same.new nl) upd_same⟩) (fun wt H4 nwt s4 hwt => ?_)
      refine sq_while (fun m σ' H' => ∃ P' Wt wt, SetSt H3 H' B P' pd mn ∧ H3 wt = none ∧ H' wt = some (.lst (Wt.map V.int)) ∧ SetW B hs P0 P' Wt d ∧ m = 2 * far B d P' + (if Wt = [] then 0 else 1) ∧
        ∃ y7 y10 y11 y12 y13 y14, σ' = [some (.ref b), some (.ref p), some (.ref y), some (.ref ca), some (.ref cl), some (.ref pd), some (.ref mn), y7, some (.ref db), some (.ref wt), y10, y11, y12, y13, y14])
        _ ⟨P0, hs, wt, S3.more s4, nwt, hwt, ⟨Chaos.start G hP hf, fun _ h => h, fun x h n => absurd h n, hl8⟩, rfl, _, _, _, _, _, _, rfl⟩ (fun m σ' H' hW => ?_)
      obtain ⟨P', Wt, wt, S, nwt, hwt, Z, hm, y7, y10, y11, y12, y13, y14, rfl⟩ := hW
      have nwp : wt ≠ pd := fun z => F.opd (by rw [← z]; exact nwt)
      have nwm : wt ≠ mn := fun z => F.omn (by rw [← z]; exact nwt)
      refine ⟨fun bb H1 => H1 = H' ∧ bb = !Wt.isEmpty, fun Q k => ⟨_, rfl, _, .inl ⟨_, sq_of hwt, rfl⟩, k _ _ ⟨rfl, isEmpty_map⟩⟩, fun H1 h1 => ?_, fun H1 h1 => ?_⟩
      · obtain ⟨rfl, hne⟩ := h1
        have Wne : Wt ≠ [] := fun z => by rw [z] at hne; exact absurd hne (by decide)
        rw [if_neg Wne] at hm
        refine sq_new (.dK []) (fun Q k tc nt => k tc _ nt (Same.new nt) upd_same) (fun tc H2 ntc' s5 htc => ?_)
        have ntc : H3 tc = none := by
          cases e : H3 tc with
          | none => rfl
          | some o =>
            exfalso
            by_cases q : isHC pd mn tc
            · rcases q with q | q
              · rw [q, S.pd_] at ntc'; cases ntc'
              · rw [q, S.mn_] at ntc'; cases ntc'
            · rw [S.off _ _ e q] at ntc'; cases ntc'
        have hwt2 := s5 _ _ hwt
        refine sq_forL (a := wt) (xs := Wt.map V.int) (fun Q k => ⟨_, rfl, k⟩) (sq_of hwt2)
          (fun j σ' H' => ∃ P'' T, SetSt H3 H' B P'' pd mn ∧ H' wt = some (.lst (Wt.map V.int)) ∧ H' tc = some (.dK (touV T)) ∧ SetP B hs P0 P' P'' d (Wt.drop j) T ∧
            ∃ y7 y11 y12 y13 y14, σ' = [some (.ref b), some (.ref p), some (.ref y), some (.ref ca), some (.ref cl), some (.ref pd), some (.ref mn), y7, some (.ref db), some (.ref wt), some (.ref tc), y11, y12, y13, y14])
          ⟨P', [], S.more s5, hwt2, htc, ⟨Z.c, (fun x hx hR _ => Z.st x hx hR), List.nodup_nil, (fun t h => nomatch h), Tw.refl _ _, .inl rfl⟩, _, _, _, _, _, rfl⟩ (fun j σ' H' _ hPv => let ⟨_, _, _, h, _⟩ := hPv; sq_of h) (fun j xv σ' H' hxv hPv => ?_) (fun σ' H' hPv => ?_)
        · obtain ⟨P1, T, S1, hwt3, htc3, Z1, y7, y11, y12, y13, y14, rfl⟩ := hPv
          obtain ⟨rfl, hj⟩ := map_int_get hxv
          have hxW : g Wt j ∈ Wt := g_mem hj
          have hdrop : Wt.drop j = g Wt j :: Wt.drop (j + 1) := by
            rw [List.drop_eq_getElem_cons hj]
            congr 1
            exact (g_of (List.getElem?_eq_getElem hj)).symm
          rw [hdrop] at Z1
          generalize g Wt j = x at hxW Z1
          have hxh := Z.sub x hxW
          obtain ⟨hx0, hx1⟩ := mem_houses.mp (hin x hxh)
          obtain ⟨xj, exj, hxl⟩ := nat_of hx0 hx1
          have hdl : xj < ds.length := by rw [F.dl]; exact hxl
          have hdsx : ds[xj]? = some ds[xj] := List.getElem?_eq_getElem hdl
          have hsame := F.same S1
          have hml : xj < (meansL B P1).length := by rw [meansL_len]; exact hxl
          have hl1 := Z1.c.pay.len
          obtain ⟨H2x, Dx⟩ := F.dbt S1 hdsx
          rw [← exj] at Dx
          have hgm : g (meansL B P1) xj = meansOf B x P1 := by rw [g_meansL hxl, ← exj]
          have htn := tou_len8 G Z1.tn Z1.th
          refine ⟨_, rfl, _, rfl, db, _, _, _, rfl, rfl, sq_of (F.dbs S1), at_rf exj hdsx, _, rfl, _, rfl, mn, _, _, _, rfl, rfl, sq_of S1.mn_, atI_g exj hml, H2x, ds[xj], B, x, g (meansL B P1) xj, rfl, Dx, G, fun q us H5 nq s6 hq5 hprs => ⟨q, rfl, ⟨_, sq_of hq5⟩, ?_⟩⟩
          rw [hgm] at hprs
          have hpin : ∀ {k c}, (k, c) ∈ payFrom B x ranks9 (meansOf B x P1) → k < B.claims.length ∧ (B.clm k).d = x := fun {k c} h => by
            rw [← mem_payList G] at h
            unfold payList at h
            obtain ⟨k2, h2, e2⟩ := List.mem_map.mp h
            cases e2
            exact mem_owesUp.mp h2
          have hpn := pay_nodup B x (meansOf B x P1)
          have hsp := setL_pay G (x := x) hl1
          generalize hL : payFrom B x ranks9 (meansOf B x P1) = L at hprs hpin hpn hsp
          have nqw : q ≠ pd ∧ q ≠ mn ∧ q ≠ tc := ⟨(ne_of_none S1.pd_ nq).symm, (ne_of_none S1.mn_ nq).symm, (ne_of_none htc3 nq).symm⟩
          refine for_list (D := _) (xs := us.map V.ref) (fun i σ2 H6 => SetSt H3 H6 B (setL (L.take i) P1) pd mn ∧ H6 wt = some (.lst (Wt.map V.int)) ∧ H6 tc = some (.dK (touV (touch B P1 (L.take i) T))) ∧ H6 q = some (.lst (us.map V.ref)) ∧ PrsAt H6 us L ∧
              ∃ y7 y11 y12 y13 y14, σ2 = [some (.ref b), some (.ref p), some (.ref y), some (.ref ca), some (.ref cl), some (.ref pd), some (.ref mn), y7, some (.ref db), some (.ref wt), some (.ref tc), y11, y12, y13, y14])
            ⟨S1.more s6, s6 _ _ hwt3, s6 _ _ htc3, hq5, hprs, _, _, _, _, _, rfl⟩ (fun i σ2 H6 _ h6 => sq_of h6.2.2.2.1) (fun i z σ2 H6 hz h6 => ?_) (fun σ2 H6 h6 => ?_)
          · obtain ⟨S6, hwt6, htc6, hq6, hpr6, y7, y11, y12, y13, y14, rfl⟩ := h6
            obtain ⟨u, rfl, hu6⟩ := map_ref_get hz
            obtain ⟨⟨k', c⟩, hk', hux⟩ := hpr6.get hu6
            obtain ⟨hkl, hkd⟩ := hpin (List.mem_of_getElem? hk')
            have hl6 : (setL (L.take i) P1).length = B.claims.length := by rw [setL_len, hl1]
            have hk2 : k' < (setL (L.take i) P1).length := by rw [hl6]; exact hkl
            have hgk : g (setL (L.take i) P1) k' = g P1 k' := g_setL_out fun z => by
              obtain ⟨e, he, e2⟩ := List.mem_map.mp z
              obtain ⟨l, hl, el⟩ := List.mem_iff_getElem.mp he
              rw [List.length_take] at hl
              rw [List.getElem_take] at el
              have hil := (List.getElem?_eq_some_iff.mp hk').1
              have hn2 := (List.pairwise_iff_getElem.mp hpn) l i (by rw [List.length_map]; omega) (by rw [List.length_map]; exact hil) (by omega)
              rw [List.getElem_map, List.getElem_map, el, e2] at hn2
              have e3 : L[i] = (k', c) := (List.getElem?_eq_some_iff.mp hk').2
              rw [e3] at hn2
              exact hn2 rfl
            have tkS := setL_take hk' P1
            have tkT := touch_take (B := B) (P := P1) hk' T
            refine ⟨u, _, rfl, st_of hux, rfl, _, _, rfl, _, _, rfl, rfl, ?_⟩
            refine if_ifP (p := ¬ c = g P1 k') (fun Q k => ⟨_, rfl, _, rfl, _, rfl, pd, _, _, _, rfl, rfl, sq_of S6.pd_, atI_g rfl hk2, rfl, _, rfl, ?_⟩) (fun e => ?_) (fun e => ?_)
            · have e2 : (!decide (V.int c = V.int (g (setL (L.take i) P1) k'))) = decide (¬ c = g P1 k') := by
                rw [dec_vint, hgk]
                exact (decide_not ..).symm
              rw [e2]
              exact k
            · -- a coin more or fewer
              have h6s := F.same S6
              obtain ⟨t, ht, hqt⟩ := (A.same h6s).get hkl
              obtain ⟨cy, ecy, hcy⟩ := nat_of (G.clm hkl).c0 (G.clm hkl).c1
              have hcm : cy < (meansL B (setL (L.take i) P1)).length := by rw [meansL_len]; exact hcy
              refine ⟨_, rfl, _, rfl, cl, _, _, _, rfl, rfl, Same.tup h6s A.hcl, at_rf rfl ht, t, _, rfl, hqt, rfl, _, _, rfl, _, _, rfl, _, _, rfl, _, _, rfl, rfl, ?_⟩
              refine ⟨_, rfl, _, rfl, mn, _, _, _, rfl, rfl, sq_of S6.mn_, atI_g ecy hcm, _, rfl, _, rfl, _, rfl, pd, _, _, _, rfl, rfl, sq_of S6.pd_, atI_g rfl hk2, _, _, rfl, rfl, _, _, rfl, rfl, mn, _, _, cy, rfl, rfl, S6.mn_, ixN_nat ecy (by rw [List.length_map]; exact hcm), ?_⟩
              rw [map_set]
              refine ⟨_, rfl, _, rfl, _, rfl, pd, _, _, k', rfl, rfl, (by rw [upd_ne F.ne]; exact S6.pd_), ixN_nat rfl (by rw [List.length_map]; exact hk2), ?_⟩
              rw [map_set]
              have S7 := S6.put F hl6 (c := c) hkl ecy hcy
              have ntp : tc ≠ pd := ne_of htc6 S6.pd_ (fun z => nomatch z)
              have ntm : tc ≠ mn := ne_of htc6 S6.mn_ (fun z => nomatch z)
              have nqt : q ≠ tc := nqw.2.2
              have nwt2 : wt ≠ tc := ne_of hwt6 htc6 (fun z => nomatch z)
              have hT7 : ∀ {o1 o2 : HO}, (upd (upd H6 mn o1) pd o2) tc = some (.dK (touV (touch B P1 (L.take i) T))) := fun {o1 o2} => by
                rw [upd_ne ntp, upd_ne ntm]
                exact htc6
              have htl : (touV (touch B P1 (L.take i) T)).length < sizeLine := by
                rw [tou_len]
                have q1 := touch_nodup (B := B) (P := P1) (L := L.take i) Z1.tn
                have q2 := touch_houses G (P := P1) (L := L.take i) (fun pp hpp => (hpin (c := pp.2) (List.mem_of_mem_take hpp)).1) Z1.th
                have := tou_len8 G q1 q2
                exact sz_lt (by omega)
              refine ⟨_, rfl, _, rfl, tc, _, rfl, DPut.k (k := Sum.inl (B.clm k').c) hT7 htl, ?_⟩
              rw [putK_tou]
              rw [if_neg e] at tkT
              rw [← tkT]
              refine ⟨by rw [tkS]; exact S7.mut F ntc, ?_, upd_same, ?_, ?_, _, _, _, _, _, rfl⟩
              · rw [upd_ne nwt2, upd_ne nwp, upd_ne nwm]
                exact hwt6
              · rw [upd_ne nqt, upd_ne nqw.1, upd_ne nqw.2.1]
                exact hq6
              · exact ((hpr6.put S6.mn_ (fun xs z => nomatch z)).put (u := .lst ((setL (L.take i) P1).map V.int)) (by rw [upd_ne F.ne]; exact S6.pd_) (fun xs z => nomatch z)).put hT7 (fun xs z => nomatch z)
            · have e2 : c = g P1 k' := Decidable.of_not_not e
              have e3 : setL (L.take (i + 1)) P1 = setL (L.take i) P1 := by
                rw [tkS, e2, ← hgk, set_self hk2]
              rw [if_pos e2] at tkT
              refine sq_nx ⟨by rw [e3]; exact S6, hwt6, by rw [tkT]; exact htc6, hq6, hpr6, _, _, _, _, _, rfl⟩
          · obtain ⟨S6, hwt6, htc6, hq6, hpr6, y7, y11, y12, y13, y14, rfl⟩ := h6
            have hlen : (us.map V.ref).length = L.length := by rw [List.length_map, hpr6.1]
            rw [hlen, List.take_length] at S6 htc6
            rw [hsp] at S6
            have Z2 := Z1.step G hP hf hxh
            rw [hL] at Z2
            exact ⟨_, _, S6, hwt6, htc6, Z2, _, _, _, _, _, rfl⟩
        · obtain ⟨P1, T, S1, hwt3, htc3, Z1, y7, y11, y12, y13, y14, rfl⟩ := hPv
          rw [List.length_map, List.drop_length] at Z1
          have hy1 := (F.same S1).seq hy
          have htn := tou_len8 G Z1.tn Z1.th
          refine ⟨_, rfl, y, rfl, ⟨_, hy1⟩, fun wn nwn => ?_⟩
          refine lc_list (xs := hs.map V.int) (fun j H6 => Same H' H6 ∧ H6 wn = some (.lst (((hs.take j).filter fun h => decide (h ∈ T)).map V.int))) ⟨Same.new nwn, upd_same⟩ (fun j H6 _ hP6 => hP6.1.seq hy1) (fun j z H6 hz hP6 => ?_) (fun H6 hP6 => ?_)
          · obtain ⟨s7, hwn⟩ := hP6
            obtain ⟨rfl, hj⟩ := map_int_get hz
            have tk : (hs.take (j + 1)).filter (fun h => decide (h ∈ T)) = (hs.take j).filter (fun h => decide (h ∈ T)) ++ (if g hs j ∈ T then [g hs j] else []) := by
              rw [List.take_add_one, g_get hj, List.filter_append]
              congr 1
              show ([g hs j].filter fun h => decide (h ∈ T)) = _
              by_cases e : g hs j ∈ T
              · rw [if_pos e, List.filter_cons_of_pos (by exact decide_eq_true e)]
                rfl
              · rw [if_neg e, List.filter_cons_of_neg (by rw [decide_eq_false e]; decide)]
                rfl
            refine ⟨rfl, _, rfl, _, rfl, tc, _, rfl, DGet.k (k := Sum.inl (g hs j)) (s7 _ _ htc3), _, rfl, ?_⟩
            rw [valV_tou]
            by_cases e : g hs j ∈ T
            · rw [if_pos e]
              refine iteT ⟨_, rfl, _, hwn, ?_, Same.mut s7 nwn, ?_⟩
              · rw [List.length_map]
                have := List.length_filter_le (fun h => decide (h ∈ T)) (hs.take j)
                rw [List.length_take] at this
                exact sz_lt (by omega)
              · rw [upd_same, tk, if_pos e, List.map_append]
                rfl
            · rw [if_neg e]
              refine iteF ⟨s7, ?_⟩
              rw [tk, if_neg e, List.append_nil]
              exact hwn
          · obtain ⟨s7, hwn⟩ := hP6
            rw [List.take_of_length_le (by rw [List.length_map]; exact Nat.le_refl _)] at hwn
            have hm2 : 2 * far B d P1 + (if (hs.filter fun h => decide (h ∈ T)) = [] then 0 else 1) < m := by
              rcases Z1.ch with e | e
              · have : (hs.filter fun h => decide (h ∈ T)) = [] := by
                  rw [e]
                  exact List.filter_eq_nil_iff.mpr fun a _ => by simp
                rw [if_pos this]
                have := far_le Z1.c.pay Z.c.pay Z1.tw
                omega
              · have := far_lt Z1.c.pay Z.c.pay Z1.tw e
                split <;> omega
            have nwn3 : H3 wn = none := by
              cases e : H3 wn with
              | none => rfl
              | some o =>
                exfalso
                by_cases q : isHC pd mn wn
                · rcases q with q | q
                  · rw [q, S1.pd_] at nwn; cases nwn
                  · rw [q, S1.mn_] at nwn; cases nwn
                · rw [S1.off _ _ e q] at nwn; cases nwn
            have hfl : (hs.filter fun h => decide (h ∈ T)).length ≤ 8 := Nat.le_trans (List.length_filter_le _ _) hl8
            exact ⟨_, hm2, P1, _, wn, S1.more s7, nwn3, hwn, ⟨Z1.c, fun x hx => (List.mem_filter.mp hx).1, fun x hx hn => Z1.st x hx List.not_mem_nil fun z => hn (List.mem_filter.mpr ⟨hx, decide_eq_true z⟩), hfl⟩, rfl, _, _, _, _, _, _, rfl⟩
      · obtain ⟨rfl, hne⟩ := h1
        have Wn : Wt = [] := by
          cases Wt with
          | nil => rfl
          | cons _ _ => exact absurd hne (by simp)
        refine ⟨_, rfl, k pd H1 npd (F.same S) ?_⟩
        rw [S.pd_, Z.c.done G hP fun x hx => Z.st x hx (by rw [Wn]; exact List.not_mem_nil)]
end


end Rf
namespace Rf
open PySem PySem.Spec PyProof.Rows L2
/-! ### best and worst -/
section
variable {P : Program} {w : World} {K : PySem.W.Frag} {mg : Str → Option Value} {base : Heap}
/-- the functions that clearings rest on -/
structure PgC (K : PySem.W.Frag) (mg : Str → Option Value) : Prop where
  L : Lims mg
  m_len : mg "len" = none
  m_enumerate : mg "enumerate" = none
  m_sum : mg "sum" = none
  m_sorted : mg "sorted" = none
  m_zip : mg "zip" = none
  m_range : mg "range" = none
  m_max : mg "max" = none
  m_list : mg "list" = none
  wrong : ∃ f fd, DefAt K mg "_wrong_in_claim" s_wrong ["claim", "houses"] f fd
  need : ∃ f fd, DefAt K mg "need_book" s_need ["book"] f fd
  shared : ∃ f fd, DefAt K mg "shared" s_shared ["amounts", "coins"] f fd
  first_coins : ∃ f fd, DefAt K mg "_first_coins" s_first_coins ["amounts", "coins"] f fd
  least_paid : ∃ f fd, DefAt K mg "_least_paid" s_least_paid ["amounts", "paid"] f fd
  debts : ∃ f fd, DefAt K mg "debts_by_rank" s_debts ["claims", "house"] f fd
  paidw : ∃ f fd, DefAt K mg "paid_with" s_paidw ["debts", "means"] f fd
  meansby : ∃ f fd, DefAt K mg "means_by" s_meansby ["book", "payments"] f fd
  allpaid : ∃ f fd, DefAt K mg "all_paid" s_allpaid ["book"] f fd
  settled : ∃ f fd, DefAt K mg "settled" s_settled ["book", "payments", "payers"] f fd
theorem PgC.ok_settled (C : PgC K mg) {f : Addr} {fd : FuncData} (D : DefAt K mg "settled" s_settled ["book", "payments", "payers"] f fd) : FnOk P w K mg base CX0 5 f fd ["book", "payments", "payers"] (spSettled K) := by
  obtain ⟨f4, fd4, D4⟩ := C.shared
  obtain ⟨f5, fd5, D5⟩ := C.first_coins
  obtain ⟨f6, fd6, D6⟩ := C.least_paid
  obtain ⟨f7, fd7, D7⟩ := C.debts
  obtain ⟨f8, fd8, D8⟩ := C.paidw
  obtain ⟨f9, fd9, D9⟩ := C.meansby
  exact Rf.ok_settled D C.m_len C.m_enumerate C.m_sum C.m_sorted C.m_zip C.m_range C.m_max C.m_list D4 D5 D6 D7 D8 D9
theorem PgC.ok_need (C : PgC K mg) {f : Addr} {fd : FuncData} (D : DefAt K mg "need_book" s_need ["book"] f fd) : FnOk P w K mg base CX0 2 f fd ["book"] (spNeed K) := by
  obtain ⟨f4, fd4, D4⟩ := C.wrong
  exact Rf.ok_need D C.L C.m_len C.m_enumerate D4
theorem sc_best : FnScope ["book", "cash", "_"] ["book"] (defScope s_best) := ⟨rfl, rfl, rfl, by decide +kernel, rfl, by decide +kernel, by decide +kernel⟩
/- 0:book 1:cash 2:_ -/
theorem ok_best {f : Addr} {fd : FuncData} (D : DefAt K mg "best" s_best ["book"] f fd) (C : PgC K mg) : FnOk P w K mg base CX0 6 f fd ["book"] (spBest K) := by
  obtain ⟨f1, fd1, D_need⟩ := C.need
  obtain ⟨f2, fd2, D_allpaid⟩ := C.allpaid
  obtain ⟨f3, fd3, D_settled⟩ := C.settled
  have G_need : FnOk P w K mg base CX0 2 f1 fd1 ["book"] (spNeed K) := C.ok_need D_need
  have G_allpaid : FnOk P w K mg base CX0 1 f2 fd2 ["book"] (spAllPaid K) := ok_allpaid D_allpaid
  have G_settled : FnOk P w K mg base CX0 5 f3 fd3 ["book", "payments", "payers"] (spSettled K) := C.ok_settled D_settled
  have m_len := C.m_len
  have m_range := C.m_range
  have m_list := C.m_list
  refine D.F.ok sc_best (fun vs H Q E h => ?_) (fun cdv A outer s H vs Q E hr h => ?_)
  · obtain ⟨b, ca, cl, ts, B, rfl, _⟩ := h
    rfl
  · obtain ⟨b, ca, cl, ts, B, rfl, A, G, k⟩ := h
    have n8 := G.n1
    refine ⟨_, pss_cons (ps_expr (pe_call G_need (hr.mono (by decide)) (by rfl) D_need.g D_need.F.kp D_need.b .nil pass0 (pa_cons (pv 0) pa_nil)))
        (pss_cons (ps_asg (pv 0) (pg_tup rfl (pgs_cons (pg_name (i := 1) sc_best.nd rfl (.inl rfl)) (pgs_cons (pg_name (i := 2) sc_best.nd rfl (.inl rfl)) pgs_nil))))
        (pss_one (ps_ret (pe_call G_settled (hr.mono (by decide)) (by rfl) D_settled.g D_settled.F.kp D_settled.b .nil pass0 (pa_cons (pv 0) (pa_cons (pe_call G_allpaid (hr.mono (by decide)) (by rfl) D_allpaid.g D_allpaid.F.kp D_allpaid.b .nil pass0 (pa_cons (pv 0) pa_nil)) (pa_cons (pe_listRg rfl (by rfl) m_list (prg_1 (by rfl) m_range (pe_callB (r := rLen K) call_len (by rfl) m_len (by decide +kernel) (pa_cons (pv 1) pa_nil)))) pa_nil))))))), ?_⟩
    refine sq_drop (fun H1 => Same H H1) (fun Q k => ⟨_, rfl, b, ca, cl, ts, B, rfl, A, G, fun H1 s1 => k _ H1 s1⟩) (fun H1 s1 => ?_)
    have A1 := A.same s1
    refine sq_tup2 (fun Q k => ⟨_, rfl, k⟩) A1.hb ?_
    refine ⟨_, rfl, _, rfl, b, ca, cl, ts, B, rfl, A1, G, fun p H2 np s2 hp => ?_⟩
    have A2 := A1.same s2
    refine ⟨_, rfl, ca, _, rfl, .inr A2.hca, _, rfl, ?_⟩
    rw [List.length_map]
    refine ⟨rgOk_len (by omega), fun y ny => ?_⟩
    rw [rgV_houses]
    have s3 : Same H2 (upd H2 y (.lst ((houses B).map V.int))) := Same.new ny
    refine ⟨b, ca, cl, ts, B, p, allP B, y, houses B, true, rfl, A2.same s3, G, sq_of (s3 _ _ hp), sq_of upd_same, fun _ h => h, by rw [houses_len]; omega, allP_pay G, top_start G _, fun q H3 nq s4 hq => ?_⟩
    have s23 := (s1.trans s2).trans s3
    exact k q H3 (s23.free nq) (s23.trans s4) hq
theorem sc_worst : FnScope ["book", "cash", "claims"] ["book"] (defScope s_worst) := ⟨rfl, rfl, rfl, by decide +kernel, rfl, by decide +kernel, by decide +kernel⟩
/- 0:book 1:cash 2:claims -/
theorem ok_worst {f : Addr} {fd : FuncData} (D : DefAt K mg "worst" s_worst ["book"] f fd) (C : PgC K mg) : FnOk P w K mg base CX0 6 f fd ["book"] (spWorst K) := by
  obtain ⟨f1, fd1, D_need⟩ := C.need
  obtain ⟨f3, fd3, D_settled⟩ := C.settled
  have G_need : FnOk P w K mg base CX0 2 f1 fd1 ["book"] (spNeed K) := C.ok_need D_need
  have G_settled : FnOk P w K mg base CX0 5 f3 fd3 ["book", "payments", "payers"] (spSettled K) := C.ok_settled D_settled
  have m_len := C.m_len
  have m_range := C.m_range
  have m_list := C.m_list
  refine D.F.ok sc_worst (fun vs H Q E h => ?_) (fun cdv A outer s H vs Q E hr h => ?_)
  · obtain ⟨b, ca, cl, ts, B, rfl, _⟩ := h
    rfl
  · obtain ⟨b, ca, cl, ts, B, rfl, A, G, k⟩ := h
    have n8 := G.n1
    have m1 := G.m1
    have lq : (ts.map V.ref).length = B.claims.length := by rw [List.length_map, A.hq.1]
    refine ⟨_, pss_cons (ps_expr (pe_call G_need (hr.mono (by decide)) (by rfl) D_need.g D_need.F.kp D_need.b .nil pass0 (pa_cons (pv 0) pa_nil)))
        (pss_cons (ps_asg (pv 0) (pg_tup rfl (pgs_cons (pg_name (i := 1) sc_worst.nd rfl (.inl rfl)) (pgs_cons (pg_name (i := 2) sc_worst.nd rfl (.inl rfl)) pgs_nil))))
        (pss_one (ps_ret (pe_call G_settled (hr.mono (by decide)) (by rfl) D_settled.g D_settled.F.kp D_settled.b .nil pass0 (pa_cons (pv 0) (pa_cons (pe_op op_rep (pe_lst (pa_cons pe_int pa_nil)) (pe_callB (r := rLen K) call_len (by rfl) m_len (by decide +kernel) (pa_cons (pv 2) pa_nil))) (pa_cons (pe_listRg rfl (by rfl) m_list (prg_1 (by rfl) m_range (pe_callB (r := rLen K) call_len (by rfl) m_len (by decide +kernel) (pa_cons (pv 1) pa_nil)))) pa_nil))))))), ?_⟩
    refine sq_drop (fun H1 => Same H H1) (fun Q k => ⟨_, rfl, b, ca, cl, ts, B, rfl, A, G, fun H1 s1 => k _ H1 s1⟩) (fun H1 s1 => ?_)
    have A1 := A.same s1
    refine sq_tup2 (fun Q k => ⟨_, rfl, k⟩) A1.hb ?_
    refine ⟨_, rfl, (by show 1 ≤ sizeLine; decide), fun z nz => ⟨_, rfl, cl, _, rfl, .inr ((A1.same (Same.new nz)).hcl), z, _, [.int 0], rfl, rfl, upd_same, by rw [lq]; omega, by rw [lq]; omega, by rw [lq]; show 1 * _ ≤ sizeLine; exact sz_of (by omega), fun p np => ?_⟩⟩
    have e : (List.replicate ((ts.map V.ref).length : Int).toNat [V.int 0]).flatten = (noneP B).map V.int := by
      rw [lq]
      unfold noneP
      rw [Int.toNat_natCast, List.map_replicate]
      generalize B.claims.length = n
      induction n with
      | zero => rfl
      | succ n ih => rw [List.replicate_succ, List.flatten_cons, ih]; rfl
    rw [e]
    have s2 : Same H1 (upd (upd H1 z (.lst [.int 0])) p (.lst ((noneP B).map V.int))) := (Same.new nz).trans (Same.new np)
    have hp : (upd (upd H1 z (.lst [.int 0])) p (.lst ((noneP B).map V.int))) p = some (.lst ((noneP B).map V.int)) := upd_same
    generalize upd (upd H1 z (.lst [.int 0])) p (.lst ((noneP B).map V.int)) = H2 at s2 hp ⊢
    have A2 := A1.same s2
    refine ⟨_, rfl, ca, _, rfl, .inr A2.hca, _, rfl, ?_⟩
    rw [List.length_map]
    refine ⟨rgOk_len (by omega), fun y ny => ?_⟩
    rw [rgV_houses]
    have s3 : Same H2 (upd H2 y (.lst ((houses B).map V.int))) := Same.new ny
    refine ⟨b, ca, cl, ts, B, p, noneP B, y, houses B, false, rfl, A2.same s3, G, sq_of (s3 _ _ hp), sq_of upd_same, fun _ h => h, by rw [houses_len]; omega, noneP_pay G, low_start G _, fun q H3 nq s4 hq => ?_⟩
    have s23 := (s1.trans s2).trans s3
    exact k q H3 (s23.free nq) (s23.trans s4) hq
end


end Rf
namespace Rf
open PySem PySem.Spec PyProof.Rows L2
/-! ### who is short of coins, who fails -/
def shortOf (B : Bk) (P F : List Int) : List Int := (houses B).filter fun x => decide (x ∉ F) && decide (meansOf B x P < owedIn B x)
theorem short_wave (B : Bk) (F : List Int) : shortOf B (topIn B F) F = waveOf B F := rfl
theorem short_fail {B : Bk} (G : Good B) : shortOf B (bestOf B) [] = failingOf B := by
  unfold shortOf failingOf
  apply List.filter_congr
  intro x _
  have e : decide (x ∉ ([] : List Int)) = true := decide_eq_true List.not_mem_nil
  rw [e, Bool.true_and]
  exact decide_eq_decide.mpr (fails_iff G x).symm
def shortUp (B : Bk) (P F : List Int) (i : Nat) : List Int := ((houses B).take i).filter fun x => decide (x ∉ F) && decide (meansOf B x P < owedIn B x)
theorem shortUp_succ {B : Bk} {P F : List Int} {i : Nat} (h : i < B.cash.length) : shortUp B P F (i + 1) = shortUp B P F i ++ (if (decide ((i : Int) ∉ F) && decide (meansOf B (i : Int) P < owedIn B (i : Int))) = true then [(i : Int)] else []) := by
  unfold shortUp
  have e : (houses B)[i]? = some (i : Int) := by
    unfold houses
    rw [List.getElem?_map, List.getElem?_range h]
    rfl
  rw [List.take_add_one, e, List.filter_append]
  congr 1
  show List.filter _ [(i : Int)] = _
  rw [List.filter_cons, List.filter_nil]
theorem shortUp_all (B : Bk) (P F : List Int) : shortUp B P F B.cash.length = shortOf B P F := by
  unfold shortUp shortOf
  rw [List.take_of_length_le (by unfold houses; rw [List.length_map, List.length_range]; exact Nat.le_refl _)]
theorem shortUp_len (B : Bk) (P F : List Int) (i : Nat) : (shortUp B P F i).length ≤ B.cash.length := by
  unfold shortUp
  refine Nat.le_trans (List.length_filter_le _ _) ?_
  rw [List.length_take, houses_len]
  exact Nat.min_le_right _ _
def spShort (K : PySem.W.Frag) : Sp := fun vs H Q _ => ∃ (b ca cl : Addr) (ts : List Addr) (B : Bk) (p : Addr) (P : List Int) (y : Addr) (F : List Int), vs = [.ref b, .ref p, .ref y] ∧ BookAt K H b ca cl ts B ∧ Good B ∧ SqL K H p (P.map V.int) ∧ P.length = B.claims.length ∧ SqL K H y (F.map V.int) ∧ ∀ q H', H q = none → Same H H' → H' q = some (.lst ((shortOf B P F).map V.int)) → Q (.ref q) H'
section
variable {P : Program} {w : World} {K : PySem.W.Frag} {mg : Str → Option Value} {base : Heap}
theorem sc_short : FnScope ["book", "payments", "fallen", "means", "house", "coins"] ["book", "payments", "fallen"] (defScope s_short) := ⟨rfl, rfl, rfl, by decide +kernel, rfl, by decide +kernel, by decide +kernel⟩
/- 0:book 1:payments 2:fallen 3:means 4:house 5:coins -/
theorem ok_short {f : Addr} {fd : FuncData} (D : DefAt K mg "short_of_coins" s_short ["book", "payments", "fallen"] f fd) (C : PgC K mg)
    {f91 : Addr} {fd91 : FuncData} (D_needhs : DefAt K mg "need_houses" s_needhs ["book", "houses"] f91 fd91)
    {f1 : Addr} {fd1 : FuncData} (D_needh : DefAt K mg "need_house" s_needh ["book", "house"] f1 fd1)
    {f2 : Addr} {fd2 : FuncData} (D_owed : DefAt K mg "owed" s_owed ["book", "house"] f2 fd2) : FnOk P w K mg base CX0 6 f fd ["book", "payments", "fallen"] (spShort K) := by
  obtain ⟨f3, fd3, D_meansby⟩ := C.meansby
  obtain ⟨f4, fd4, D_wrong⟩ := C.wrong
  obtain ⟨f5, fd5, D_need⟩ := C.need
  have G_meansby : FnOk P w K mg base CX0 1 f3 fd3 ["book", "payments"] (spMeansBy K) := ok_meansby D_meansby C.m_zip C.m_list
  have G_owed : FnOk P w K mg base CX0 5 f2 fd2 ["book", "house"] (spOwed K) := ok_owed D_owed C.L C.m_len C.m_enumerate C.m_sum D_wrong D_need D_needhs D_needh
  have m_enumerate := C.m_enumerate
  refine D.F.ok sc_short (fun vs H Q E h => ?_) (fun cdv A outer s H vs Q E hr h => ?_)
  · obtain ⟨b, ca, cl, ts, B, p, P, y, F, rfl, _⟩ := h
    rfl
  · obtain ⟨b, ca, cl, ts, B, p, P, y, F, rfl, A, G, hp, hl, hy, k⟩ := h
    have n8 := G.n1
    have lm : ((meansL B P).map V.int).length = B.cash.length := by rw [List.length_map, meansL_len]
    refine ⟨_, pss_cons (ps_set (i := 3) sc_short.nd rfl (.inl rfl) (pe_call G_meansby (hr.mono (by decide)) (by rfl) D_meansby.g D_meansby.F.kp D_meansby.b .nil pass0 (pa_cons (pv 0) (pa_cons (pv 1) pa_nil))))
        (pss_one (ps_ret (pe_lc (own := [("house", 4), ("coins", 5)]) (g := (gTup K 2 (gCons (gName 4) (gCons (gName 5) gNil)))) (by rfl) sc_short.nd (pi_enum (by rfl) m_enumerate (pa_cons (pv 3) pa_nil)) (blkOk_by (own := [("house", 4), ("coins", 5)]) (N := ["book", "payments", "fallen", "means", "house", "coins"]) (sc := defScope s_short) (by decide +kernel)) (fun _ _ _ _ _ => (pg_tup rfl (pgs_cons (pg_name (i := 4) sc_short.nd rfl (.inl rfl)) (pgs_cons (pg_name (i := 5) sc_short.nd rfl (.inl rfl)) pgs_nil)))) (fun _ _ _ _ _ => (pts_one (PW.pt (pw_and (pt_cmpR (r := rIn K true) op_notIn_seq (pv 4) (pv 2) (by rfl)) (pw_and1 (pt_cmpR op_lt (pv 5) (pe_call G_owed (hr.mono (by decide)) (by rfl) D_owed.g D_owed.F.kp D_owed.b .nil pass0 (pa_cons (pv 0) (pa_cons (pv 4) pa_nil))) (nomark _))))))) (fun _ _ _ _ _ => (pv 4))))), ?_⟩
    refine sq_new (.lst ((meansL B P).map V.int)) (fun Q k => ⟨_, rfl, _, rfl, b, ca, cl, ts, B, p, P, rfl, A, G, hp, hl, k⟩) (fun mn H1 nmn s1 hmn => ?_)
    refine ⟨_, rfl, mn, _, rfl, sq_of hmn, fun c nc => ?_⟩
    refine lc_it (walk_enum (K := K) (a := mn) (xs := (meansL B P).map V.int))
      (fun i H' => Same H1 H' ∧ H' c = some (.lst ((shortUp B P F i).map V.int))) ⟨Same.new nc, by rw [upd_same]; rfl⟩ (fun i H' _ hP => sq_of (hP.1 _ _ hmn)) (fun i z Ha Hb hi hP hY => ?_) (fun H' hP => ?_)
    · obtain ⟨s7, hc⟩ := hP
      obtain ⟨T, z1, z2, rfl, hT, rfl, hz1, hz2⟩ := hY
      have ez1 := (Option.some.inj hz1).symm
      subst ez1
      obtain ⟨rfl, hi2⟩ := map_int_get hz2
      rw [meansL_len] at hi2
      rw [g_meansL hi2]
      have s8 : Same Ha (upd Ha T (.tup [.int (i : Int), .int (meansOf B (i : Int) P)])) := Same.new hT
      have hc8 := s8 _ _ hc
      have hT8 : (upd Ha T (.tup [.int (i : Int), .int (meansOf B (i : Int) P)])) T = some (.tup [.int (i : Int), .int (meansOf B (i : Int) P)]) := upd_same
      have s18 := s7.trans s8
      generalize upd Ha T (.tup [.int (i : Int), .int (meansOf B (i : Int) P)]) = H8 at s8 hc8 hT8 s18 ⊢
      have hy8 := (s1.trans s18).seq hy
      have A8 := A.same (s1.trans s18)
      have su := shortUp_succ (P := P) (F := F) hi2
      refine ⟨T, _, rfl, st_of hT8, rfl, _, _, rfl, _, _, rfl, rfl, rfl, _, rfl, _, rfl, y, _, rfl, .inl hy8, rfl, flat_ints F, _, rfl, ?_⟩
      have e1 : (if true = true then !inV (V.int (i : Int)) (F.map V.int) else inV (V.int (i : Int)) (F.map V.int)) = decide ((i : Int) ∉ F) := by
        rw [if_pos rfl, inV_ints]
        exact (decide_not ..).symm
      rw [e1]
      by_cases hF : (i : Int) ∉ F
      · rw [decide_eq_true hF]
        refine iteT ⟨_, rfl, _, rfl, _, rfl, b, ca, cl, ts, B, (i : Int), rfl, A8, G, by omega, by omega, fun H9 s9 => ⟨_, _, rfl, rfl, _, rfl, ?_⟩⟩
        rw [decide_eq_true hF, Bool.true_and] at su
        by_cases hm : meansOf B (i : Int) P < owedIn B (i : Int)
        · rw [decide_eq_true hm]
          refine iteT ⟨_, rfl, _, s9 _ _ hc8, ?_, Same.mut (s18.trans s9) nc, ?_⟩
          · rw [List.length_map]
            have := shortUp_len B P F i
            exact sz_lt (by omega)
          · rw [upd_same, su, if_pos (decide_eq_true hm), List.map_append]
            rfl
        · rw [decide_eq_false hm]
          refine iteF ⟨s18.trans s9, ?_⟩
          rw [su, if_neg (by rw [decide_eq_false hm]; decide), List.append_nil]
          exact s9 _ _ hc8
      · rw [decide_eq_false hF]
        refine iteF (iteF ⟨s18, ?_⟩)
        rw [su, if_neg (by rw [decide_eq_false hF, Bool.false_and]; decide), List.append_nil]
        exact hc8
    · obtain ⟨s7, hc⟩ := hP
      rw [lm, shortUp_all] at hc
      exact k c H' (s1.free nc) (s1.trans s7) hc
theorem sc_failing : FnScope ["book"] ["book"] (defScope s_failing) := ⟨rfl, rfl, rfl, by decide +kernel, rfl, by decide +kernel, by decide +kernel⟩
/- 0:book -/
theorem ok_failing {f : Addr} {fd : FuncData} (D : DefAt K mg "failing" s_failing ["book"] f fd) (C : PgC K mg)
    {f91 : Addr} {fd91 : FuncData} (D_needhs : DefAt K mg "need_houses" s_needhs ["book", "houses"] f91 fd91)
    {f1 : Addr} {fd1 : FuncData} (D_needh : DefAt K mg "need_house" s_needh ["book", "house"] f1 fd1)
    {f2 : Addr} {fd2 : FuncData} (D_owed : DefAt K mg "owed" s_owed ["book", "house"] f2 fd2)
    {f3 : Addr} {fd3 : FuncData} (D_best : DefAt K mg "best" s_best ["book"] f3 fd3)
    {f4 : Addr} {fd4 : FuncData} (D_short : DefAt K mg "short_of_coins" s_short ["book", "payments", "fallen"] f4 fd4) : FnOk P w K mg base CX0 7 f fd ["book"] (spFailing K) := by
  obtain ⟨f5, fd5, D_need⟩ := C.need
  have G_need : FnOk P w K mg base CX0 2 f5 fd5 ["book"] (spNeed K) := C.ok_need D_need
  have G_best : FnOk P w K mg base CX0 6 f3 fd3 ["book"] (spBest K) := ok_best D_best C
  have G_short : FnOk P w K mg base CX0 6 f4 fd4 ["book", "payments", "fallen"] (spShort K) := ok_short D_short C D_needhs D_needh D_owed
  refine D.F.ok sc_failing (fun vs H Q E h => ?_) (fun cdv A outer s H vs Q E hr h => ?_)
  · obtain ⟨b, ca, cl, ts, B, rfl, _⟩ := h
    rfl
  · obtain ⟨b, ca, cl, ts, B, rfl, A, G, k⟩ := h
    refine ⟨_, pss_cons (ps_expr (pe_call G_need (hr.mono (by decide)) (by rfl) D_need.g D_need.F.kp D_need.b .nil pass0 (pa_cons (pv 0) pa_nil)))
        (pss_one (ps_ret (pe_call G_short (hr.mono (by decide)) (by rfl) D_short.g D_short.F.kp D_short.b .nil pass0 (pa_cons (pv 0) (pa_cons (pe_call G_best (hr.mono (by decide)) (by rfl) D_best.g D_best.F.kp D_best.b .nil pass0 (pa_cons (pv 0) pa_nil)) (pa_cons (pe_lst pa_nil) pa_nil)))))), ?_⟩
    refine sq_drop (fun H1 => Same H H1) (fun Q k => ⟨_, rfl, b, ca, cl, ts, B, rfl, A, G, fun H1 s1 => k _ H1 s1⟩) (fun H1 s1 => ?_)
    refine ⟨_, rfl, _, rfl, b, ca, cl, ts, B, rfl, A.same s1, G, fun p H2 np s2 hp => ⟨Nat.zero_le _, fun y ny => ?_⟩⟩
    have s12 := s1.trans s2
    have s3 := Same.new (o := .lst []) ny
    refine ⟨b, ca, cl, ts, B, p, bestOf B, y, [], rfl, A.same (s12.trans s3), G, sq_of (s3 _ _ hp), (best_clears G).pay.len, sq_of upd_same, fun q H' nq s4 hq => ?_⟩
    rw [short_fail G] at hq
    exact k q H' ((s12.trans s3).free nq) ((s12.trans s3).trans s4) hq
end


end Rf
namespace Rf
open PySem PySem.Spec PyProof.Rows L2
/-! ### the program's waves -/
section
variable {P : Program} {w : World} {K : PySem.W.Frag} {mg : Str → Option Value} {base : Heap}
theorem sc_waves : FnScope ["book", "payments", "fallen", "found", "wave"] ["book"] (defScope s_waves) := ⟨rfl, rfl, rfl, by decide +kernel, rfl, by decide +kernel, by decide +kernel⟩
/- 0:book 1:payments 2:fallen 3:found 4:wave -/
theorem ok_waves {f : Addr} {fd : FuncData} (D : DefAt K mg "waves" s_waves ["book"] f fd) (C : PgC K mg)
    {f91 : Addr} {fd91 : FuncData} (D_needhs : DefAt K mg "need_houses" s_needhs ["book", "houses"] f91 fd91)
    {f1 : Addr} {fd1 : FuncData} (D_needh : DefAt K mg "need_house" s_needh ["book", "house"] f1 fd1)
    {f2 : Addr} {fd2 : FuncData} (D_owed : DefAt K mg "owed" s_owed ["book", "house"] f2 fd2)
    {f4 : Addr} {fd4 : FuncData} (D_short : DefAt K mg "short_of_coins" s_short ["book", "payments", "fallen"] f4 fd4) : FnOk P w K mg base CX0 7 f fd ["book"] (spWaves K) := by
  obtain ⟨f5, fd5, D_need⟩ := C.need
  obtain ⟨f6, fd6, D_allpaid⟩ := C.allpaid
  obtain ⟨f7, fd7, D_settled⟩ := C.settled
  have G_need : FnOk P w K mg base CX0 2 f5 fd5 ["book"] (spNeed K) := C.ok_need D_need
  have G_allpaid : FnOk P w K mg base CX0 1 f6 fd6 ["book"] (spAllPaid K) := ok_allpaid D_allpaid
  have G_settled : FnOk P w K mg base CX0 5 f7 fd7 ["book", "payments", "payers"] (spSettled K) := C.ok_settled D_settled
  have G_short : FnOk P w K mg base CX0 6 f4 fd4 ["book", "payments", "fallen"] (spShort K) := ok_short D_short C D_needhs D_needh D_owed
  refine D.F.ok sc_waves (fun vs H Q E h => ?_) (fun cdv A outer s H vs Q E hr h => ?_)
  · obtain ⟨b, ca, cl, ts, B, rfl, _⟩ := h
    rfl
  · obtain ⟨b, ca, cl, ts, B, rfl, A, G, k⟩ := h
    have n8 := G.n1
    refine ⟨_, pss_cons (ps_expr (pe_call G_need (hr.mono (by decide)) (by rfl) D_need.g D_need.F.kp D_need.b .nil pass0 (pa_cons (pv 0) pa_nil)))
        (pss_cons (ps_set (i := 1) sc_waves.nd rfl (.inl rfl) (pe_call G_allpaid (hr.mono (by decide)) (by rfl) D_allpaid.g D_allpaid.F.kp D_allpaid.b .nil pass0 (pa_cons (pv 0) pa_nil)))
        (pss_cons (ps_set (i := 2) sc_waves.nd rfl (.inl rfl) (pe_lst pa_nil))
        (pss_cons (ps_set (i := 3) sc_waves.nd rfl (.inl rfl) (pe_lst pa_nil))
        (pss_cons (ps_whileW PassesOwn.never (ptw_truth (pew_named (i := 4) sc_waves.nd rfl (.inl rfl) (pew_of (pe_call G_short (hr.mono (by decide)) (by rfl) D_short.g D_short.F.kp D_short.b .nil pass0 (pa_cons (pv 0) (pa_cons (pv 1) (pa_cons (pv 2) pa_nil))))))) (pss_cons (ps_expr (pe_bm PySem.F.plainAttrs_list PySem.F.slot_list_append PySem.F.type_list_append mt_append (pv 3) (pa_cons (pv 4) pa_nil)))
          (pss_cons (ps_expr (pe_bm PySem.F.plainAttrs_list PySem.F.slot_list_extend PySem.F.type_list_extend mt_extend (pv 2) (pa_cons (pv 4) pa_nil)))
          (pss_one (ps_set (i := 1) sc_waves.nd rfl (.inl rfl) (pe_call G_settled (hr.mono (by decide)) (by rfl) D_settled.g D_settled.F.kp D_settled.b .nil pass0 (pa_cons (pv 0) (pa_cons (pv 1) (pa_cons (pv 2) pa_nil)))))))) pss_nil)
        (pss_one (ps_ret (pv 3))))))), ?_⟩
    refine sq_drop (fun H1 => Same H H1) (fun Q k => ⟨_, rfl, b, ca, cl, ts, B, rfl, A, G, fun H1 s1 => k _ H1 s1⟩) (fun H1 s1 => ?_)
    refine sq_new (.lst ((allP B).map V.int)) (fun Q k => ⟨_, rfl, b, ca, cl, ts, B, rfl, A.same s1, G, k⟩) (fun p0 H2 np0 s2 hp0 => ?_)
    refine sq_new (.lst []) (fun Q k => ⟨Nat.zero_le _, fun p np => k p _ np (Same.new np) upd_same⟩) (fun fo H3 nfo' s3 hfo => ?_)
    refine sq_new (.lst []) (fun Q k => ⟨Nat.zero_le _, fun p np => k p _ np (Same.new np) upd_same⟩) (fun fu H4 nfu' s4 hfu => ?_)
    have s14 := ((s1.trans s2).trans s3).trans s4
    have nfo := (s1.trans s2).free nfo'
    have nfu := ((s1.trans s2).trans s3).free nfu'
    have ne : fo ≠ fu := ne_of_none hfo nfu'
    refine sq_whileW (fun m σ' H' => ∃ p F L ws fl, Same H H' ∧ H' p = some (.lst ((topIn B F).map V.int)) ∧ p ≠ fo ∧ p ≠ fu ∧ H' fo = some (.lst (F.map V.int)) ∧ H' fu = some (.lst (ws.map V.ref)) ∧ WavesAt H' ws L ∧ (∀ a ∈ ws, H a = none) ∧ ws.Nodup ∧ fu ∉ ws ∧ fo ∉ ws ∧
        Fallen B F ∧ wavesOf B = L ++ wavesFrom B fl F ∧ B.cash.length < F.length + fl ∧ L.length ≤ F.length ∧ m = 8 - F.length ∧ ∃ y4, σ' = [some (.ref b), some (.ref p), some (.ref fo), some (.ref fu), y4])
      _ ⟨p0, [], [], [], B.cash.length + 1, s14, ?_, ?_, ?_, s4 _ _ hfo, hfu, ⟨rfl, fun i a l h => by cases h⟩, (fun a h => nomatch h), List.nodup_nil, List.not_mem_nil, List.not_mem_nil, fallen_nil B, rfl, by show B.cash.length < 0 + _; omega, Nat.le_refl _, rfl, _, rfl⟩ (fun m σ' H' hW => ?_)
    · rw [(s3.trans s4) _ _ hp0]
      have e : topIn B [] = allP B := by
        have e1 : behind B [] (allP B) = allP B := stable_all (allP_len B) fun x h => nomatch h
        exact led_fixed e1 _
      rw [e]
    · exact ne_of_none hp0 nfo'
    · exact ne_of_none (s3 _ _ hp0) nfu'
    · obtain ⟨p, F, L, ws, fl, s5, hp, np1, np2, hf, hu, hwa, hnw, hnd, hqn, hqn2, hF, hwv, hfl, hLF, hm, y4, rfl⟩ := hW
      have A5 := A.same s5
      have hFl := fallen_len hF
      refine ⟨fun bb σ1 H6 => Same H' H6 ∧ bb = !(waveOf B F).isEmpty ∧ ∃ wv, H' wv = none ∧ H6 wv = some (.lst ((waveOf B F).map V.int)) ∧ σ1 = [some (.ref b), some (.ref p), some (.ref fo), some (.ref fu), some (.ref wv)], fun Q k => ?_, fun σ1 H6 h6 => ?_, fun σ1 H6 h6 => ?_⟩
      · refine ⟨_, rfl, _, rfl, _, rfl, b, ca, cl, ts, B, p, topIn B F, fo, F, rfl, A5, G, sq_of hp, (top_pay G F).len, sq_of hf, fun q H6 nq s6 hq => ⟨_, .inl ⟨_, sq_of hq, rfl⟩, k _ _ _ ⟨s6, ?_, q, nq, hq, rfl⟩⟩⟩
        exact isEmpty_map
      · obtain ⟨s6, hb, wv, nwv, hwv6, rfl⟩ := h6
        have hne : waveOf B F ≠ [] := fun z => by rw [z] at hb; exact absurd hb (by decide)
        have hu6 := s6 _ _ hu
        have hf6 := s6 _ _ hf
        have wne : wv ≠ fu ∧ wv ≠ fo ∧ wv ≠ p := ⟨(ne_of_none hu nwv).symm, (ne_of_none hf nwv).symm, (ne_of_none hp nwv).symm⟩
        have wnw : wv ∉ ws := fun z => by
          obtain ⟨l, e⟩ := hwa.mem z
          rw [e] at nwv
          cases nwv
        have hws8 : ws.length ≤ 8 := by rw [hwa.1]; omega
        refine ⟨_, rfl, .inl ⟨rfl, _, sq_of hu6⟩, _, rfl, fu, _, _, rfl, rfl, hu6, by rw [List.length_map]; exact sz_lt (by omega), ?_⟩
        have hf7 : (upd H6 fu (.lst (ws.map V.ref ++ [.ref wv]))) fo = some (.lst (F.map V.int)) := by rw [upd_ne ne]; exact hf6
        have hw7 : (upd H6 fu (.lst (ws.map V.ref ++ [.ref wv]))) wv = some (.lst ((waveOf B F).map V.int)) := by rw [upd_ne wne.1]; exact hwv6
        have hwl : (waveOf B F).length ≤ 8 := by
          have := (shortUp_len B (topIn B F) F B.cash.length)
          rw [shortUp_all] at this
          have e : (shortOf B (topIn B F) F).length = (waveOf B F).length := rfl
          omega
        refine ⟨_, rfl, .inl ⟨rfl, _, sq_of hf7⟩, _, rfl, fo, wv, _, _, rfl, rfl, hf7, hw7, by rw [List.length_map, List.length_map]; exact sz_of (by omega), ?_⟩
        rw [← List.map_append]
        have hF2 := fallen_more G hF
        have hF2l := fallen_len hF2
        have s8 : Same H (upd (upd H6 fu (.lst (ws.map V.ref ++ [.ref wv]))) fo (.lst ((F ++ waveOf B F).map V.int))) := Same.mut (Same.mut (s5.trans s6) nfu) nfo
        have hf8 : (upd (upd H6 fu (.lst (ws.map V.ref ++ [.ref wv]))) fo (.lst ((F ++ waveOf B F).map V.int))) fo = some (.lst ((F ++ waveOf B F).map V.int)) := upd_same
        have hu8 : (upd (upd H6 fu (.lst (ws.map V.ref ++ [.ref wv]))) fo (.lst ((F ++ waveOf B F).map V.int))) fu = some (.lst ((ws ++ [wv]).map V.ref)) := by
          rw [upd_ne ne.symm, upd_same, List.map_append]
          rfl
        have hp8 : (upd (upd H6 fu (.lst (ws.map V.ref ++ [.ref wv]))) fo (.lst ((F ++ waveOf B F).map V.int))) p = some (.lst ((topIn B F).map V.int)) := by
          rw [upd_ne np1, upd_ne np2]
          exact s6 _ _ hp
        have hwa8 : WavesAt (upd (upd H6 fu (.lst (ws.map V.ref ++ [.ref wv]))) fo (.lst ((F ++ waveOf B F).map V.int))) (ws ++ [wv]) (L ++ [waveOf B F]) := by
          refine (((hwa.same s6).off hqn).off hqn2).app ?_
          rw [upd_ne wne.2.1, upd_ne wne.1]
          exact hwv6
        generalize upd (upd H6 fu (.lst (ws.map V.ref ++ [.ref wv]))) fo (.lst ((F ++ waveOf B F).map V.int)) = H8 at s8 hf8 hu8 hp8 hwa8 ⊢
        refine ⟨_, rfl, _, rfl, _, rfl, b, ca, cl, ts, B, p, topIn B F, fo, F ++ waveOf B F, true, rfl, A.same s8, G, sq_of hp8, sq_of hf8, hF2.inn, by omega, top_pay G F, top_start_more G, fun q H9 nq s9 hq => ?_⟩
        rw [fix_more G fun x h => List.mem_append_left _ h] at hq
        have hpos : 0 < (waveOf B F).length := List.length_pos_iff.mpr hne
        obtain ⟨fl', rfl⟩ : ∃ n, fl = n + 1 := ⟨fl - 1, by omega⟩
        refine ⟨8 - (F ++ waveOf B F).length, ?_, q, F ++ waveOf B F, L ++ [waveOf B F], ws ++ [wv], fl', s8.trans s9, hq, (ne_of_none hf8 nq).symm, (ne_of_none hu8 nq).symm, s9 _ _ hf8, s9 _ _ hu8, hwa8.same s9, fun a ha => ?_, ?_, ?_, ?_, hF2, ?_, ?_, ?_, rfl, _, rfl⟩
        · rw [List.length_append] at hF2l ⊢
          omega
        · rcases List.mem_append.mp ha with h | h
          · exact hnw a h
          · rw [List.mem_singleton.mp h]
            exact s5.free nwv
        · refine List.nodup_append.mpr ⟨hnd, by simp, fun a ha c hc z => ?_⟩
          rw [List.mem_singleton.mp hc] at z
          exact wnw (z ▸ ha)
        · intro z
          rcases List.mem_append.mp z with h | h
          · exact hqn h
          · exact wne.1 (List.mem_singleton.mp h).symm
        · intro z
          rcases List.mem_append.mp z with h | h
          · exact hqn2 h
          · exact wne.2.1 (List.mem_singleton.mp h).symm
        · rw [hwv]
          have e : wavesFrom B (fl' + 1) F = waveOf B F :: wavesFrom B fl' (F ++ waveOf B F) := by
            show (if waveOf B F = [] then [] else _) = _
            rw [if_neg hne]
          rw [e, List.append_assoc]
          rfl
        · rw [List.length_append]
          omega
        · rw [List.length_append, List.length_append]
          show L.length + 1 ≤ _
          omega
      · obtain ⟨s6, hb, wv, nwv, hwv6, rfl⟩ := h6
        have he : waveOf B F = [] := by
          cases e : waveOf B F with
          | nil => rfl
          | cons _ _ => rw [e] at hb; exact absurd hb (by simp)
        obtain ⟨fl', rfl⟩ : ∃ n, fl = n + 1 := ⟨fl - 1, by omega⟩
        have e : wavesFrom B (fl' + 1) F = [] := by
          show (if waveOf B F = [] then [] else _) = _
          rw [if_pos he]
        rw [e, List.append_nil] at hwv
        refine ⟨_, rfl, k fu ws H6 (s5.trans s6) ⟨s6 _ _ hu, nfu, ?_, hnw, hnd, hqn⟩⟩
        rw [hwv]
        exact hwa.same s6
end


end Rf
namespace Rf
open PySem PySem.Spec PyProof.Rows L2
/-! ### tuples cut and joined -/
theorem slA_of {K : PySem.W.Frag} {H : Hp} {a : Addr} {xs : List V} {lo hi : Option Int} {Q : VK} (h : SqT K H a xs) (k : ∀ p H', Same H H' → SqT K H' p (cutV xs lo hi) → Q (.ref p) H') : rSlA K (.ref a) lo hi H Q := by
  refine ⟨a, xs, rfl, h, fun e => k a H (fun _ _ z => z) ?_, fun _ p np => k p _ (Same.new np) (st_of upd_same)⟩
  have e2 : cutV xs lo hi = xs := by
    unfold cutV
    rw [e.1, e.2, List.drop_zero, Nat.sub_zero, List.take_length]
  rw [e2]
  exact h
theorem catA_of {K : PySem.W.Frag} {H : Hp} {a b : Addr} {xs ys : List V} {Q : VK} (h1 : SqT K H a xs) (h2 : SqT K H b ys) (hl : xs.length + ys.length ≤ sizeLine) (k : ∀ p H', Same H H' → SqT K H' p (xs ++ ys) → Q (.ref p) H') : rCatA K (.ref a) (.ref b) H Q := by
  refine ⟨a, b, xs, ys, rfl, rfl, h1, h2, hl, fun e => k b H (fun _ _ z => z) ?_, fun _ e => k a H (fun _ _ z => z) ?_, fun _ _ p np => k p _ (Same.new np) (st_of upd_same)⟩
  · rw [e]
    exact h2
  · rw [e, List.append_nil]
    exact h1
theorem cut_front {l : List Int} {j : Nat} (h : j < l.length) : cutV (l.map V.int) none (some (j : Int)) = (l.take j).map V.int := by
  unfold cutV
  rw [List.length_map]
  have e1 : HT.sIx l.length 0 none = 0 := rfl
  have e2 : HT.sIx l.length l.length (some (j : Int)) = j := by
    rw [HT.sIx_nat]
    omega
  rw [e1, e2, List.drop_zero, Nat.sub_zero, List.map_take]
theorem cut_rest {l : List Int} {j : Nat} (h : j < l.length) : cutV (l.map V.int) (some ((j : Int) + 1)) none = (l.drop (j + 1)).map V.int := by
  unfold cutV
  rw [List.length_map]
  have e1 : HT.sIx l.length 0 (some ((j : Int) + 1)) = j + 1 := by
    show HT.sIx l.length 0 (some ((j + 1 : Nat) : Int)) = j + 1
    rw [HT.sIx_nat]
    omega
  have e2 : HT.sIx l.length l.length none = l.length := rfl
  rw [e1, e2, List.take_of_length_le (by rw [List.length_drop, List.length_map]; exact Nat.le_refl _), List.map_drop]
theorem set_parts {l : List Int} {j : Nat} {c : Int} (h : j < l.length) : l.take j ++ [c] ++ l.drop (j + 1) = l.set j c := by
  rw [List.set_eq_take_append_cons_drop, if_pos h, List.append_assoc]
  rfl
/-- the book where a house has other coins -/
def withC (B : Bk) (x : Int) (c : Int) : Bk := ⟨B.cash.set x.toNat c, B.claims⟩
theorem withC_good {B : Bk} (G : Good B) {x c : Int} (c0 : 0 ≤ c) (c1 : c ≤ 999) : Good (withC B x c) := by
  have hl : (withC B x c).cash.length = B.cash.length := List.length_set ..
  refine ⟨by rw [hl]; exact G.n0, by rw [hl]; exact G.n1, fun y hy => ?_, G.m1, fun q hq => by rw [hl]; exact G.claims q hq⟩
  rcases List.mem_or_eq_of_mem_set hy with h | h
  · exact Good.cash G y h
  · rw [h]
    exact ⟨c0, by omega⟩
theorem withC_cash {B : Bk} {x c : Int} (h : ∀ y ∈ B.cash, 0 ≤ y ∧ y ≤ 999) (c0 : 0 ≤ c) (c1 : c ≤ 999) : ∀ y ∈ (withC B x c).cash, 0 ≤ y ∧ y ≤ 999 := fun y hy => by
  rcases List.mem_or_eq_of_mem_set hy with h2 | h2
  · exact h y h2
  · rw [h2]
    exact ⟨c0, c1⟩
theorem cutV_take {l : List V} {j : Nat} (h : j ≤ l.length) : cutV l none (some (j : Int)) = l.take j := by
  unfold cutV
  rw [HT.sIx_nat, HT.sIx_none, List.drop_zero, Nat.sub_zero, Nat.min_eq_left h]
theorem cutV_drop {l : List V} {j : Nat} (h : j ≤ l.length) : cutV l (some (j : Int)) none = l.drop j := by
  unfold cutV
  rw [HT.sIx_nat, HT.sIx_none, Nat.min_eq_left h, List.take_of_length_le (by rw [List.length_drop]; exact Nat.le_refl _)]


end Rf
namespace Rf
open PySem PySem.Spec PyProof.Rows L2
/-! ### papers -/
structure Row where
  h : Int
  m : Int
  o : Int
deriving DecidableEq
def rowOf (B : Bk) (F : List Int) (x : Int) : Row := ⟨x, meansOf B x (topIn B F), owedIn B x⟩
def paperFrom (B : Bk) : Nat → List Int → List Row
  | 0, _ => []
  | f + 1, F => match waveOf B F with
    | [] => []
    | x :: _ => rowOf B F x :: paperFrom B f (F ++ [x])
theorem paperFrom_cons {B : Bk} {m : Nat} {F l : List Int} {x : Int} (h : waveOf B F = x :: l) : paperFrom B (m + 1) F = rowOf B F x :: paperFrom B m (F ++ [x]) := by
  rw [paperFrom, h]
theorem paperFrom_nil {B : Bk} {m : Nat} {F : List Int} (h : waveOf B F = []) : paperFrom B (m + 1) F = [] := by
  rw [paperFrom, h]
def paperOf (B : Bk) : List Row := paperFrom B (B.cash.length + 1) []
def showsFrom (B : Bk) : List Int → List Row → Bool
  | _, [] => true
  | F, r :: rs => decide ((0 ≤ r.h ∧ r.h < B.cash.length) ∧ r.h ∉ F ∧ r.m < r.o ∧ rowOf B F r.h = r) && showsFrom B (F ++ [r.h]) rs
theorem fallen_one {B : Bk} (G : Good B) {F : List Int} {x : Int} (h : Fallen B F) (hx : x ∈ waveOf B F) : Fallen B (F ++ [x]) := by
  have q := mem_wave.mp hx
  refine ⟨List.nodup_append.mpr ⟨h.nd, List.nodup_cons.mpr ⟨List.not_mem_nil, List.nodup_nil⟩, fun a ha b hb e => ?_⟩, fun y hy => ?_, fun y hy => ?_⟩
  · rw [List.mem_singleton.mp hb] at e
    exact q.2.1 (e ▸ ha)
  · rcases List.mem_append.mp hy with z | z
    · exact h.inn y z
    · rw [List.mem_singleton.mp z]
      exact q.1
  · rcases List.mem_append.mp hy with z | z
    · exact h.fails y z
    · rw [List.mem_singleton.mp z]
      exact falls_fails G h.inn q.2.2
theorem paper_all {B : Bk} (G : Good B) : ∀ (f : Nat) {F : List Int}, Fallen B F → B.cash.length < F.length + f → (F ++ (paperFrom B f F).map Row.h).Nodup ∧ ∀ x, x ∈ F ++ (paperFrom B f F).map Row.h ↔ x ∈ failingOf B
  | 0, F, h, hl => absurd (fallen_len h) (by omega)
  | f + 1, F, h, hl => by
    unfold paperFrom
    cases e : waveOf B F with
    | nil =>
      show (F ++ []).Nodup ∧ ∀ x, x ∈ F ++ [] ↔ _
      rw [List.append_nil]
      exact ⟨h.nd, fallen_all G h e⟩
    | cons x l =>
      have hx : x ∈ waveOf B F := by rw [e]; exact List.mem_cons_self
      have q := paper_all G f (fallen_one G h hx) (by rw [List.length_append]; show _ < F.length + 1 + f; omega)
      rw [List.append_assoc] at q
      exact q
theorem paper_shown {B : Bk} (G : Good B) : ∀ (f : Nat) {F : List Int}, Fallen B F → showsFrom B F (paperFrom B f F) = true
  | 0, F, h => rfl
  | f + 1, F, h => by
    unfold paperFrom
    cases e : waveOf B F with
    | nil => rfl
    | cons x l =>
      have hx : x ∈ waveOf B F := by rw [e]; exact List.mem_cons_self
      have q := mem_wave.mp hx
      show (decide ((0 ≤ x ∧ x < (B.cash.length : Int)) ∧ x ∉ F ∧ meansOf B x (topIn B F) < owedIn B x ∧ rowOf B F x = rowOf B F x) && showsFrom B (F ++ [x]) (paperFrom B f (F ++ [x]))) = true
      rw [decide_eq_true ⟨mem_houses.mp q.1, q.2.1, q.2.2, rfl⟩, paper_shown G f (fallen_one G h hx)]
      rfl
theorem paper_len (B : Bk) : ∀ (f : Nat) (F : List Int), (paperFrom B f F).length ≤ f
  | 0, F => Nat.le_refl _
  | f + 1, F => by
    unfold paperFrom
    cases waveOf B F with
    | nil => exact Nat.zero_le _
    | cons x l => exact Nat.succ_le_succ (paper_len B f _)
theorem paper_sorted {B : Bk} (G : Good B) {l : List Int} (hp : l.Perm ((paperOf B).map Row.h)) (hs : l.Pairwise (· ≤ ·)) : l = failingOf B := by
  have q := paper_all G (B.cash.length + 1) (fallen_nil B) (by show B.cash.length < 0 + _; omega)
  rw [List.nil_append] at q
  have hn : l.Nodup := hp.nodup_iff.mpr q.1
  have hs2 : l.Pairwise (fun x y => id x < id y) := (hs.and hn).imp fun h => Int.lt_iff_le_and_ne.mpr h
  exact sorted_ext (f := id) hs2 (failing_sorted B) fun x => hp.mem_iff.trans (q.2 x)
/-! rows in the heap -/
def RowAt (K : PySem.W.Frag) (H : Hp) (t : Addr) (r : Row) : Prop := SqT K H t [.int r.h, .int r.m, .int r.o]
def RowsAt (K : PySem.W.Frag) (H : Hp) (ts : List Addr) (rs : List Row) : Prop := ts.length = rs.length ∧ ∀ (i : Nat) (t : Addr) (r : Row), ts[i]? = some t → rs[i]? = some r → RowAt K H t r
theorem RowsAt.same {K : PySem.W.Frag} {H H' : Hp} {ts : List Addr} {rs : List Row} (A : RowsAt K H ts rs) (s : Same H H') : RowsAt K H' ts rs := ⟨A.1, fun i t q h1 h2 => Same.tup s (A.2 i t q h1 h2)⟩
theorem RowsAt.nil {K : PySem.W.Frag} {H : Hp} : RowsAt K H [] [] := ⟨rfl, fun i t r h1 => by cases h1⟩
theorem RowsAt.app {K : PySem.W.Frag} {H : Hp} {ts : List Addr} {rs : List Row} {t : Addr} {r : Row} (A : RowsAt K H ts rs) (h : RowAt K H t r) : RowsAt K H (ts ++ [t]) (rs ++ [r]) := by
  refine ⟨by rw [List.length_append, List.length_append, A.1]; rfl, fun i u p h1 h2 => ?_⟩
  by_cases hi : i < ts.length
  · rw [List.getElem?_append_left hi] at h1
    rw [List.getElem?_append_left (by rw [← A.1]; exact hi)] at h2
    exact A.2 i u p h1 h2
  · have e : i = ts.length := by
      have := (List.getElem?_eq_some_iff.mp h1).1
      rw [List.length_append] at this
      have : i < ts.length + 1 := this
      omega
    subst e
    rw [List.getElem?_append_right (Nat.le_refl _), Nat.sub_self] at h1
    rw [List.getElem?_append_right (by rw [A.1]; exact Nat.le_refl _), A.1, Nat.sub_self] at h2
    cases h1
    cases h2
    exact h
theorem tup_put {K : PySem.W.Frag} {H : Hp} {a p : Addr} {xs ys : List V} {o : HO} (z : SqT K H a xs) (hp : H p = some (.lst ys)) : SqT K (L2.upd H p o) a xs := by
  rcases z with (z | ⟨u, z⟩) | z
  · exact .inl (.inl (by rw [upd_ne (ne_of z hp (fun z => nomatch z))]; exact z))
  · exact .inl (.inr ⟨u, by rw [upd_ne (ne_of z hp (fun z => nomatch z))]; exact z⟩)
  · exact .inr z
theorem RowsAt.put {K : PySem.W.Frag} {H : Hp} {ts : List Addr} {rs : List Row} {p : Addr} {ys : List V} {o : HO} (A : RowsAt K H ts rs) (hp : H p = some (.lst ys)) : RowsAt K (L2.upd H p o) ts rs := ⟨A.1, fun i t r h1 h2 => tup_put (A.2 i t r h1 h2) hp⟩
theorem RowsAt.get {K : PySem.W.Frag} {H : Hp} {ts : List Addr} {rs : List Row} (A : RowsAt K H ts rs) {i : Nat} {t : Addr} (h : ts[i]? = some t) : ∃ r, rs[i]? = some r ∧ RowAt K H t r := by
  have hi : i < rs.length := by
    rw [← A.1]
    exact (List.getElem?_eq_some_iff.mp h).1
  exact ⟨rs[i], List.getElem?_eq_getElem hi, A.2 i t _ h (List.getElem?_eq_getElem hi)⟩
def dRow (r : Row) : PyData := .tuple [.int r.h, .int r.m, .int r.o]
def dRows (rs : List Row) : PyData := .list (rs.map dRow)
theorem cl_dRow {r : Row} : Cl 1 (dRow r) := cl_tup fun x hx => by
  rcases List.mem_cons.mp hx with h | hx
  · rw [h]; exact cl_int
  rcases List.mem_cons.mp hx with h | hx
  · rw [h]; exact cl_int
  rw [List.mem_singleton.mp hx]
  exact cl_int
theorem cl_dRows {rs : List Row} : Cl 2 (dRows rs) := cl_list fun x hx => by
  obtain ⟨l, _, rfl⟩ := List.mem_map.mp hx
  exact cl_dRow
theorem sh_row {r : Row} : SeqAt.shaped (dRow r) = true := cl_dRow.shaped (by decide)
theorem sh_rows {rs : List Row} : SeqAt.shaped (dRows rs) = true := cl_dRows.shaped (by decide)
theorem dRow_inj {r s : Row} : dRow r = dRow s ↔ r = s := by
  constructor
  · intro h
    cases r
    cases s
    unfold dRow at h
    simp at h
    obtain ⟨rfl, rfl, rfl⟩ := h
    rfl
  · rintro rfl
    rfl
theorem dRows_inj {r s : List Row} : dRows r = dRows s ↔ r = s := by
  constructor
  · intro h
    exact (List.map_inj_right (fun a b z => dRow_inj.mp z)).mp (PyData.list.inj h)
  · rintro rfl
    rfl
theorem eqv_row {r s : Row} : PyData.eqv (dRow r) (dRow s) = decide (r = s) := by
  by_cases h : r = s
  · rw [decide_eq_true h, h]
    exact eqv_self cl_dRow
  · rw [decide_eq_false h]
    cases e : PyData.eqv (dRow r) (dRow s) with
    | false => rfl
    | true => exact absurd (dRow_inj.mp ((eqv_iff _ _ cl_dRow.c cl_dRow.c).mp e)) h
theorem eqv_rows {r s : List Row} : PyData.eqv (dRows r) (dRows s) = decide (r = s) := by
  by_cases h : r = s
  · rw [decide_eq_true h, h]
    exact eqv_self cl_dRows
  · rw [decide_eq_false h]
    cases e : PyData.eqv (dRows r) (dRows s) with
    | false => rfl
    | true => exact absurd (dRows_inj.mp ((eqv_iff _ _ cl_dRows.c cl_dRows.c).mp e)) h
theorem dp_row {K : PySem.W.Frag} {H : Hp} {t : Addr} {r : Row} (h : RowAt K H t r) : Dp K H (.ref t) (dRow r) := .tup h (.cons (.int _) (.cons (.int _) (.cons (.int _) .nil)))
theorem RowsAt.tail {K : PySem.W.Frag} {H : Hp} {a : Addr} {ts : List Addr} {r : Row} {rs : List Row} (A : RowsAt K H (a :: ts) (r :: rs)) : RowAt K H a r ∧ RowsAt K H ts rs := by
  refine ⟨A.2 0 a r rfl rfl, ?_, fun i b m h1 h2 => A.2 (i + 1) b m (by simpa using h1) (by simpa using h2)⟩
  have q := A.1
  rw [List.length_cons, List.length_cons] at q
  omega
theorem dpAll_rows {K : PySem.W.Frag} {H : Hp} : ∀ {ts : List Addr} {rs : List Row}, RowsAt K H ts rs → DpAll K H (ts.map V.ref) (rs.map dRow)
  | [], [], _ => .nil
  | [], _ :: _, A => by cases A.1
  | _ :: _, [], A => by cases A.1
  | a :: ts, r :: rs, A => .cons (dp_row A.tail.1) (dpAll_rows A.tail.2)
theorem dp_rows {K : PySem.W.Frag} {H : Hp} {q : Addr} {ts : List Addr} {rs : List Row} (h : SqL K H q (ts.map V.ref)) (A : RowsAt K H ts rs) : Dp K H (.ref q) (dRows rs) := .lst h (dpAll_rows A)


end Rf
namespace Rf
open PySem PySem.Spec PyProof.Rows L2
/-! ### coins paid on, as the program does it -/
def spNextClaim (K : PySem.W.Frag) : Sp := fun vs H Q _ => ∃ (H0 : Hp) (p : Addr) (B : Bk) (x : Int) (q : Addr) (P : List Int), vs = [.ref p, .ref q] ∧ DbtAt H0 H p B x ∧ Good B ∧ SqL K H q (P.map V.int) ∧ Pay B P ∧ ∀ H', Same H H' → Q (optV (nextC B x P (present B x))) H'
/-- where a play's parts stand -/
structure PlA where
  cl : Addr
  he : Addr
  pa : Addr
  db : Addr
  un : Addr
  dx : Addr
  ts : List Addr
  ds : List Addr
/-- the lists that turn -/
def isPl (a : PlA) (b : Addr) : Prop := b = a.he ∨ b = a.pa ∨ b = a.un
open Classical in
noncomputable def maskH (S : Addr → Prop) : Hp := fun a => if S a then some (.lst []) else none
theorem mask_no {S : Addr → Prop} {a : Addr} (h : S a) : maskH S a ≠ none := by
  unfold maskH
  rw [if_pos h]
  exact fun z => nomatch z
theorem mask_out {S : Addr → Prop} {a : Addr} (h : ¬ S a) : maskH S a = none := by
  unfold maskH
  rw [if_neg h]
theorem mask_of {S : Addr → Prop} {a : Addr} (h : maskH S a = none) : ¬ S a := fun z => mask_no z h
/-- debts keep off what they are not -/
theorem DbtAt.mask {H0 H : Hp} {p : Addr} {B : Bk} {x : Int} {S : Addr → Prop} (A : DbtAt H0 H p B x) (h : ∀ a, H0 a = none → (∃ o, H a = some o) → ¬ S a) : DbtAt (maskH S) H p B x := by
  obtain ⟨us, N, M, h1, h2, h3⟩ := A.at_
  refine ⟨mask_out (h _ A.frp ⟨_, h1⟩), us, N, M, h1, h2, fun j t ht => ?_⟩
  obtain ⟨a1, a2, a3, a4, a5, a6⟩ := h3 j t ht
  exact ⟨mask_out (h _ a1 ⟨_, a4⟩), mask_out (h _ a2 ⟨_, a5⟩), mask_out (h _ a3 ⟨_, a6⟩), a4, a5, a6⟩
structure PlayAt (K : PySem.W.Frag) (C : Addr) (H : Hp) (p : Addr) (a : PlA) (B : Bk) (P : List Int) : Prop where
  ob : ∃ fs, H p = some (.ins C a.dx fs) ∧ fs.lookup ("claims" : Str) = some (V.ref a.cl) ∧ fs.lookup ("held" : Str) = some (V.ref a.he) ∧ fs.lookup ("payments" : Str) = some (V.ref a.pa) ∧ fs.lookup ("debts" : Str) = some (V.ref a.db) ∧ fs.lookup ("unpaid" : Str) = some (V.ref a.un) ∧
    fs.lookup ("may_pay" : Str) = none ∧ fs.lookup ("least_payer" : Str) = none ∧ fs.lookup ("pay_coin" : Str) = none
  cl : SqT K H a.cl (a.ts.map V.ref)
  cq : ClmsAt K H a.ts B.claims
  he : H a.he = some (.lst ((leftOf B P).map V.int))
  pa : H a.pa = some (.lst (P.map V.int))
  un : H a.un = some (.lst ((unpaidOf B P).map V.int))
  db : H a.db = some (.lst (a.ds.map V.ref))
  dl : a.ds.length = B.cash.length
  dd : ∀ (j : Nat) (t : Addr), a.ds[j]? = some t → DbtAt (maskH (isPl a)) H t B (j : Int)
  n1 : a.he ≠ a.pa
  n2 : a.he ≠ a.un
  n3 : a.pa ≠ a.un
  n4 : ¬ isPl a a.db
theorem PlayAt.same {K : PySem.W.Frag} {C : Addr} {H H' : Hp} {p : Addr} {a : PlA} {B : Bk} {P : List Int} (A : PlayAt K C H p a B P) (s : Same H H') : PlayAt K C H' p a B P := by
  obtain ⟨fs, h0, hr⟩ := A.ob
  exact ⟨⟨fs, s _ _ h0, hr⟩, Same.tup s A.cl, A.cq.same s, s _ _ A.he, s _ _ A.pa, s _ _ A.un, s _ _ A.db, A.dl, fun j t h => (A.dd j t h).same s, A.n1, A.n2, A.n3, A.n4⟩
theorem tup_offl {K : PySem.W.Frag} {H H' : Hp} {a q : Addr} {xs ys : List V} (hq : H q = some (.lst ys)) (e : Off (fun b => b = q) H H') (z : SqT K H a xs) : SqT K H' a xs := by
  rcases z with (z | ⟨o, z⟩) | z
  · exact .inl (.inl (e _ _ z (ne_of z hq (fun z => nomatch z))))
  · exact .inl (.inr ⟨o, e _ _ z (ne_of z hq (fun z => nomatch z))⟩)
  · exact .inr z
theorem putF_le (f : Str) (v : V) : ∀ fs : List (Str × V), (putF f v fs).length ≤ fs.length + 1
  | [] => Nat.le_refl _
  | (g, u) :: fs => by
    unfold putF
    split
    · exact Nat.le_succ _
    · exact Nat.succ_le_succ (putF_le f v fs)
def mayPay (B : Bk) (P : List Int) (x : Int) : Prop := paidOut B x P < meansOf B x P ∧ paidOut B x P < owedIn B x
instance (B : Bk) (P : List Int) (x : Int) : Decidable (mayPay B P x) := inferInstanceAs (Decidable (_ ∧ _))
def spMay (K : PySem.W.Frag) (C : Addr) : Sp := fun vs H Q _ => ∃ (p : Addr) (a : PlA) (B : Bk) (P : List Int) (x : Int), vs = [.ref p, .int x] ∧ PlayAt K C H p a B P ∧ 0 ≤ x ∧ x < B.cash.length ∧ Q (.bl (decide (mayPay B P x))) H
def spLeastPayer (K : PySem.W.Frag) (C : Addr) : Sp := fun vs H Q _ => ∃ (p : Addr) (a : PlA) (B : Bk) (P : List Int), vs = [.ref p] ∧ PlayAt K C H p a B P ∧ Good B ∧
  (∀ (x : Nat), x < B.cash.length → mayPay B P (x : Int) → Q (.int (x : Int)) H) ∧ ((∀ x : Nat, x < B.cash.length → ¬ mayPay B P (x : Int)) → Q .non H)
def spPayCoin (K : PySem.W.Frag) (C : Addr) : Sp := fun vs H Q _ => ∃ (p : Addr) (a : PlA) (B : Bk) (P : List Int) (x : Int), vs = [.ref p, .int x] ∧ PlayAt K C H p a B P ∧ Good B ∧ Still B P ∧ x ∈ houses B ∧ mayPay B P x ∧
  ∀ P' H', PlayAt K C H' p a B P' → Still B P' → P'.sum = P.sum + 1 → Off (isPl a) H H' → Q .non H'
def spPInit (K : PySem.W.Frag) (C : Addr) : Sp := fun vs H Q _ => ∃ (p dx b ca cl : Addr) (ts : List Addr) (B : Bk), vs = [.ref p, .ref b] ∧ H p = some (.ins C dx []) ∧ BookAt K H b ca cl ts B ∧ Good B ∧
  ∀ a H', PlayAt K C H' p a B (noneP B) → (∀ c o, H c = some o → c ≠ p → H' c = some o) → H a.he = none → H a.pa = none → H a.un = none → Q .non H'
def spStilled (K : PySem.W.Frag) : Sp := fun vs H Q _ => ∃ (b ca cl : Addr) (ts : List Addr) (B : Bk) (l : Addr) (xs : List Int), vs = [.ref b, .ref l] ∧ BookAt K H b ca cl ts B ∧ Good B ∧ SqL K H l (xs.map V.int) ∧ (∀ x ∈ xs, 0 ≤ x ∧ x < B.cash.length) ∧
  ∀ p H', H p = none → Same H H' → H' p = some (.lst ((worstOf B).map V.int)) → Q (.ref p) H'
theorem nextC_drop {B : Bk} {x : Int} {P : List Int} {l : List Int} {i : Nat} (hi : i < l.length) : nextC B x P (l.drop i) = match firstUp (amts B x (g l i)) ((ofRank B x (g l i)).map (g P)) (amts B x (g l i)).length with
    | some f => some ((ofRank B x (g l i)).getD f 0)
    | none => nextC B x P (l.drop (i + 1)) := by
  rw [List.drop_eq_getElem_cons hi, ← g_of (List.getElem?_eq_getElem hi)]
  rfl
section
variable {P : Program} {w : World} {K : PySem.W.Frag} {mg : Str → Option Value} {base : Heap}
theorem sc_nextclaim : FnScope ["debts", "payments", "numbers", "amounts", "least", "number"] ["debts", "payments"] (defScope s_nextclaim) := ⟨rfl, rfl, rfl, by decide +kernel, rfl, by decide +kernel, by decide +kernel⟩
/- 0:debts 1:payments 2:numbers 3:amounts 4:least 5:number -/
theorem ok_nextclaim {f : Addr} {fd : FuncData} (D : DefAt K mg "next_claim" s_nextclaim ["debts", "payments"] f fd) (m_enumerate : mg "enumerate" = none)
    {f6 : Addr} {fd6 : FuncData} (D_least_paid : DefAt K mg "_least_paid" s_least_paid ["amounts", "paid"] f6 fd6) : FnOk P w K mg base CX0 2 f fd ["debts", "payments"] (spNextClaim K) := by
  have G_least_paid : FnOk P w K mg base CX0 1 f6 fd6 ["amounts", "paid"] (spLeast K) := ok_least_paid D_least_paid m_enumerate
  refine D.F.ok sc_nextclaim (fun vs H Q E h => ?_) (fun cdv A outer s H vs Q E hr h => ?_)
  · obtain ⟨H0, p, B, x, q, P, rfl, _⟩ := h
    rfl
  · obtain ⟨H0, p, B, x, q, P, rfl, A, G, hq, hP, k⟩ := h
    obtain ⟨us, N, M, h1, h2, h3⟩ := A.at_
    have lu : (us.map V.ref).length = (present B x).length := by rw [List.length_map, h2]
    have m1 := G.m1
    refine ⟨_, pss_cons (ps_for PassesOwn.never rfl (pi_list (pv 0)) (pg_tup rfl (pgs_cons (pg_name (i := 2) sc_nextclaim.nd rfl (.inl rfl)) (pgs_cons (pg_name (i := 3) sc_nextclaim.nd rfl (.inl rfl)) pgs_nil))) (pss_cons (ps_set (i := 4) sc_nextclaim.nd rfl (.inl rfl) (pe_call G_least_paid (hr.mono (by decide)) (by rfl) D_least_paid.g D_least_paid.F.kp D_least_paid.b .nil pass0 (pa_cons (pv 3) (pa_cons (pe_lc (own := [("number", 5)]) (g := gName 5) (tt := tYes) (by rfl) sc_nextclaim.nd (pi_list (pv 2)) (blkOk_by (own := [("number", 5)]) (N := ["debts", "payments", "numbers", "amounts", "least", "number"]) (sc := defScope s_nextclaim) (by decide +kernel)) (fun _ _ _ _ _ => (pg_name (i := 5) sc_nextclaim.nd rfl (.inl rfl))) (fun _ _ _ _ _ => pts_nil) (fun _ _ _ _ _ => (pe_ix (r := rIxL K) ix_list (pv 1) (pv 5) (fun _ _ => rfl)))) pa_nil))))
          (pss_one (ps_if (pt_cmpR op_notN (pv 4) pe_non (nomark _)) (pss_one (ps_ret (pe_ix (r := rIxL K) ix_list (pv 2) (pv 4) (fun _ _ => rfl)))) pss_nil))))
        (pss_one (ps_ret pe_non)), ?_⟩
    refine sq_forL (xs := us.map V.ref) (fun Q k => ⟨_, rfl, k⟩) (sq_of h1)
      (fun i σ' H' => Same H H' ∧ nextC B x P (present B x) = nextC B x P ((present B x).drop i) ∧ ∃ y2 y3 y4, σ' = [some (.ref p), some (.ref q), y2, y3, y4, none]) ⟨Same.refl _, rfl, _, _, _, rfl⟩ (fun i σ' H' _ hW => sq_of (hW.1 _ _ h1)) (fun i y σ' H' hy hW => ?_) (fun σ' H' hW => ?_)
    · obtain ⟨s1, hn, y2, y3, y4, rfl⟩ := hW
      obtain ⟨t, rfl, ht⟩ := map_ref_get hy
      have hi : i < (present B x).length := by rw [← h2]; exact (List.getElem?_eq_some_iff.mp ht).1
      obtain ⟨_, _, _, a4, a5, a6⟩ := h3 i t ht
      have hg := nextC_drop (B := B) (x := x) (P := P) hi
      generalize g (present B x) i = r at a5 a6 hg
      have hol : (ofRank B x r).length ≤ 24 := Nat.le_trans (rankUp_len B x r _) m1
      have ham := amts_ok G x r
      refine ⟨t, _, rfl, st_of (s1 _ _ a4), rfl, _, _, rfl, _, _, rfl, rfl, ?_⟩
      -- least
      refine sq_set (fun v H2 => v = optV (firstUp (amts B x r) ((ofRank B x r).map (g P)) (amts B x r).length) ∧ Same H' H2) (fun Q k => ?_) (fun v H2 hv => ?_)
      · refine ⟨_, rfl, _, rfl, N i, rfl, ⟨_, sq_of (s1 _ _ a5)⟩, fun d nd => ?_⟩
        refine lc_list (xs := numV (ofRank B x r)) (fun j H3 => Same H' H3 ∧ H3 d = some (.lst ((((ofRank B x r).take j).map (g P)).map V.int))) ⟨Same.new nd, by rw [upd_same]; rfl⟩ (fun j H3 _ hW => sq_of (hW.1 _ _ (s1 _ _ a5))) (fun j z H3 hz hW => ?_) (fun H3 hW => ?_)
        · obtain ⟨s3, hd⟩ := hW
          have hj : j < (ofRank B x r).length := by
            have := (List.getElem?_eq_some_iff.mp hz).1
            rw [numV_len] at this
            exact this
          have hj1 : (ofRank B x r)[j]? = some (ofRank B x r)[j] := List.getElem?_eq_getElem hj
          have ez : z = .int (((ofRank B x r)[j] : Nat) : Int) := by
            unfold numV at hz
            rw [List.getElem?_map, hj1] at hz
            exact (Option.some.inj hz).symm
          subst ez
          have hk := (mem_rankUp.mp (List.getElem_mem hj)).1
          refine ⟨rfl, _, rfl, _, rfl, q, _, _, _, rfl, rfl, (s1.trans s3).seq hq, atI_g rfl (by rw [hP.len]; exact hk), _, hd, ?_, Same.mut s3 nd, ?_⟩
          · rw [List.length_map, List.length_map, List.length_take]
            exact sz_lt (by omega)
          · rw [upd_same, List.take_add_one, hj1, List.map_append, List.map_append]
            rfl
        · obtain ⟨s3, hd⟩ := hW
          rw [numV_len, List.take_length] at hd
          refine ⟨M i, d, amts B x r, _, rfl, ⟨sq_of (s3 _ _ (s1 _ _ a6)), sq_of hd, by rw [List.length_map, amts_len], by rw [amts_len]; omega, fun z hz => by have := ham z hz; omega, fun z hz => ?_⟩, fun H4 s4 => ?_⟩
          · obtain ⟨kk, hkk, rfl⟩ := List.mem_map.mp hz
            have hk := (mem_rankUp.mp hkk).1
            have := hP.lo _ hk
            have := hP.hi _ hk
            have := (amt_pos G hk).2
            omega
          · cases e : firstUp (amts B x r) ((ofRank B x r).map (g P)) (amts B x r).length with
            | none => exact k _ _ ⟨by rw [e]; rfl, s3.trans s4⟩
            | some k' => exact k _ _ ⟨by rw [e]; rfl, s3.trans s4⟩
      obtain ⟨rfl, s2⟩ := hv
      cases e : firstUp (amts B x r) ((ofRank B x r).map (g P)) (amts B x r).length with
      | none =>
        rw [e] at hg
        exact ⟨_, rfl, rfl, _, rfl, iteF ⟨s1.trans s2, hn.trans hg, _, _, _, rfl⟩⟩
      | some f' =>
        rw [e] at hg
        have hf : f' < (ofRank B x r).length := by
          have := (firstUp_some (amtsPos G x r) (Nat.le_refl _) e).lt
          rw [amts_len] at this
          exact this
        refine ⟨_, rfl, rfl, _, rfl, iteT ⟨_, rfl, _, rfl, N i, _, _, .int (((ofRank B x r)[f'] : Nat) : Int), rfl, rfl, sq_of (s2 _ _ (s1 _ _ a5)), atI_nat (j := f') ?_, ?_⟩⟩
        · unfold numV
          rw [List.getElem?_map, List.getElem?_eq_getElem hf]
          rfl
        · have hg' : nextC B x P ((present B x).drop i) = some ((ofRank B x r).getD f' 0) := hg
          have q := k H2 (s1.trans s2)
          rw [hn, hg', List.getD_eq_getElem?_getD, List.getElem?_eq_getElem hf] at q
          exact q
    · obtain ⟨s1, hn, y2, y3, y4, rfl⟩ := hW
      rw [lu, List.drop_length] at hn
      have := k H' s1
      rw [hn] at this
      exact this
variable {C_Play : Addr}
theorem sc_maypay : FnScope ["self", "house"] ["self", "house"] (defScope s_maypay) := ⟨rfl, rfl, rfl, by decide +kernel, rfl, by decide +kernel, by decide +kernel⟩
/- 0:self 1:house -/
theorem ok_maypay {f : Addr} {fd : FuncData} (M : MethAt K C_Play "may_pay" "Play.may_pay" s_maypay ["self", "house"] f fd) (T_Play : ClsAt K mg "Play" C_Play) (N_Play_held : NoAttr K C_Play "held") (N_Play_unpaid : NoAttr K C_Play "unpaid") : FnOk P w K mg base CX0 1 f fd ["self", "house"] (spMay K C_Play) := by
  refine M.F.ok sc_maypay (fun vs H Q E h => ?_) (fun cdv A outer s H vs Q E hr h => ?_)
  · obtain ⟨p, a, B, P, x, rfl, _⟩ := h
    rfl
  · obtain ⟨p, a, B, P, x, rfl, A, x0, x1, k⟩ := h
    obtain ⟨n, rfl, hn⟩ : ∃ n : Nat, x = (n : Int) ∧ n < B.cash.length := ⟨x.toNat, by omega, by omega⟩
    obtain ⟨fs, h0, f1, f2, f3, f4, f5, _⟩ := A.ob
    refine ⟨_, pss_one (ps_ret (pe_and (pe_cmpR op_gt (pe_ix (r := rIxL K) ix_list (pe_fld (pv 0) rfl) (pv 1) (fun _ _ => rfl)) pe_int (nomark _)) (pe_one (pe_cmpR op_gt (pe_ix (r := rIxL K) ix_list (pe_fld (pv 0) rfl) (pv 1) (fun _ _ => rfl)) pe_int (nomark _))))), ?_⟩
    refine ⟨_, rfl, p, C_Play, a.dx, fs, _, rfl, h0, T_Play.cl, N_Play_held, f2, _, rfl, a.he, _, _, _, rfl, rfl, sq_of A.he, atI_g rfl (by rw [leftOf_len]; exact hn), _, _, rfl, rfl, _, rfl, ?_⟩
    rw [g_left hn]
    by_cases e1 : meansOf B (n : Int) P - paidOut B (n : Int) P > 0
    · rw [decide_eq_true e1]
      refine iteT ⟨_, rfl, p, C_Play, a.dx, fs, _, rfl, h0, T_Play.cl, N_Play_unpaid, f5, _, rfl, a.un, _, _, _, rfl, rfl, sq_of A.un, atI_g rfl (by rw [unpaid_len]; exact hn), _, _, rfl, rfl, ?_⟩
      rw [g_unpaid hn]
      have e : decide (owedIn B (n : Int) - paidOut B (n : Int) P > 0) = decide (mayPay B P (n : Int)) := by
        by_cases e2 : owedIn B (n : Int) - paidOut B (n : Int) P > 0
        · rw [decide_eq_true e2, decide_eq_true (show mayPay B P (n : Int) from ⟨by omega, by omega⟩)]
        · rw [decide_eq_false e2, decide_eq_false (fun z : mayPay B P (n : Int) => e2 (by have := z.2; omega))]
      show Q (V.bl (decide (owedIn B (n : Int) - paidOut B (n : Int) P > 0))) H
      rw [e]
      exact k
    · rw [decide_eq_false e1]
      have e : decide (mayPay B P (n : Int)) = false := decide_eq_false fun z => e1 (by have := z.1; omega)
      rw [e] at k
      exact iteF k
theorem sc_leastpayer : FnScope ["self", "house"] ["self"] (defScope s_leastpayer) := ⟨rfl, rfl, rfl, by decide +kernel, rfl, by decide +kernel, by decide +kernel⟩
/- 0:self 1:house -/
theorem ok_leastpayer {f : Addr} {fd : FuncData} (M : MethAt K C_Play "least_payer" "Play.least_payer" s_leastpayer ["self"] f fd) (T_Play : ClsAt K mg "Play" C_Play) (N_Play_held : NoAttr K C_Play "held") (N_Play_unpaid : NoAttr K C_Play "unpaid") (m_range : mg "range" = none) (m_len : mg "len" = none)
    {f1 : Addr} {fd1 : FuncData} (M_maypay : MethAt K C_Play "may_pay" "Play.may_pay" s_maypay ["self", "house"] f1 fd1) : FnOk P w K mg base CX0 2 f fd ["self"] (spLeastPayer K C_Play) := by
  have G_maypay : FnOk P w K mg base CX0 1 f1 fd1 ["self", "house"] (spMay K C_Play) := ok_maypay M_maypay T_Play N_Play_held N_Play_unpaid
  refine M.F.ok sc_leastpayer (fun vs H Q E h => ?_) (fun cdv A outer s H vs Q E hr h => ?_)
  · obtain ⟨p, a, B, P, rfl, _⟩ := h
    rfl
  · obtain ⟨p, a, B, P, rfl, A, G, k1, k2⟩ := h
    obtain ⟨fs, h0, f1, f2, f3, f4, f5, f6, f7, f8⟩ := A.ob
    have n8 := G.n1
    refine ⟨_, pss_cons (ps_for PassesOwn.never rfl (pi_range1 (by rfl) m_range (pa_cons (pe_callB (r := rLen K) call_len (by rfl) m_len (by decide +kernel) (pa_cons (pe_fld (pv 0) rfl) pa_nil)) pa_nil)) (pg_name (i := 1) sc_leastpayer.nd rfl (.inl rfl)) (pss_one (ps_if (pt_val (pe_meth (pv 0) T_Play.cl M_maypay.m G_maypay (hr.mono (by decide)) M_maypay.b .nil pass0 (pa_cons (pv 1) pa_nil))) (pss_one (ps_ret (pv 1))) pss_nil)))
        (pss_one (ps_ret pe_non)), ?_⟩
    refine sq_forR (B.cash.length : Int) (fun Q k => ⟨_, rfl, p, C_Play, a.dx, fs, _, rfl, h0, T_Play.cl, N_Play_held, f2, a.he, _, rfl, .inl (sq_of A.he), by rw [List.length_map, leftOf_len]; exact k⟩) (by omega)
      (fun i σ' H' => H' = H ∧ (∀ x : Nat, x < i → ¬ mayPay B P (x : Int)) ∧ ∃ y1, σ' = [some (.ref p), y1]) ⟨rfl, fun x hx => absurd hx (Nat.not_lt_zero _), _, rfl⟩ (fun i σ' H' hi hW => ?_) (fun σ' H' hW => ?_)
    · obtain ⟨rfl, hno, y1, rfl⟩ := hW
      have hi' : i < B.cash.length := by omega
      refine ⟨_, rfl, p, a.dx, fs, rfl, h0, f6, _, rfl, p, a, B, P, _, rfl, A, by omega, by omega, _, rfl, ?_⟩
      by_cases e : mayPay B P (i : Int)
      · rw [decide_eq_true e]
        exact iteT ⟨_, rfl, k1 i hi' e⟩
      · rw [decide_eq_false e]
        refine iteF ⟨rfl, fun x hx => ?_, _, rfl⟩
        by_cases q : x = i
        · rw [q]; exact e
        · exact hno x (by omega)
    · obtain ⟨rfl, hno, y1, rfl⟩ := hW
      exact k2 fun x hx => hno x (by omega)
theorem sc_paycoin : FnScope ["self", "house", "claim", "_", "creditor"] ["self", "house"] (defScope s_paycoin) := ⟨rfl, rfl, rfl, by decide +kernel, rfl, by decide +kernel, by decide +kernel⟩
/- 0:self 1:house 2:claim 3:_ 4:creditor -/
theorem ok_paycoin {f : Addr} {fd : FuncData} (M : MethAt K C_Play "pay_coin" "Play.pay_coin" s_paycoin ["self", "house"] f fd) (T_Play : ClsAt K mg "Play" C_Play) (N_Play_claims : NoAttr K C_Play "claims") (N_Play_held : NoAttr K C_Play "held") (N_Play_payments : NoAttr K C_Play "payments") (N_Play_debts : NoAttr K C_Play "debts") (N_Play_unpaid : NoAttr K C_Play "unpaid") (m_enumerate : mg "enumerate" = none)
    {f6 : Addr} {fd6 : FuncData} (D_least_paid : DefAt K mg "_least_paid" s_least_paid ["amounts", "paid"] f6 fd6)
    {f1 : Addr} {fd1 : FuncData} (D_nextclaim : DefAt K mg "next_claim" s_nextclaim ["debts", "payments"] f1 fd1) : FnOk P w K mg base CX0 3 f fd ["self", "house"] (spPayCoin K C_Play) := by
  have G_nextclaim : FnOk P w K mg base CX0 2 f1 fd1 ["debts", "payments"] (spNextClaim K) := ok_nextclaim D_nextclaim m_enumerate D_least_paid
  refine M.F.ok sc_paycoin (fun vs H Q E h => ?_) (fun cdv A outer s H vs Q E hr h => ?_)
  · obtain ⟨p, a, B, P, x, rfl, _⟩ := h
    rfl
  · obtain ⟨p, a, B, P, x, rfl, A, G, S, hx, hm, k⟩ := h
    have hxx := mem_houses.mp hx
    obtain ⟨n, rfl, hn⟩ : ∃ n : Nat, x = (n : Int) ∧ n < B.cash.length := ⟨x.toNat, by omega, by omega⟩
    obtain ⟨fs, h0, f1, f2, f3, f4, f5, f6, f7, f8⟩ := A.ob
    obtain ⟨c, c1, c2, c3, S'⟩ := S.step G hx hm.1 hm.2
    have hpl := S.pay.len
    have hnd : n < a.ds.length := by rw [A.dl]; exact hn
    have hdn : a.ds[n]? = some a.ds[n] := List.getElem?_eq_getElem hnd
    obtain ⟨y, hcy, hy⟩ := nat_of (G.clm c2).c0 (G.clm c2).c1
    have hcl : c < P.length := by rw [hpl]; exact c2
    refine ⟨_, pss_cons (ps_set (i := 2) sc_paycoin.nd rfl (.inl rfl) (pe_call G_nextclaim (hr.mono (by decide)) (by rfl) D_nextclaim.g D_nextclaim.F.kp D_nextclaim.b .nil pass0 (pa_cons (pe_ix (r := rIxL K) ix_list (pe_fld (pv 0) rfl) (pv 1) (fun _ _ => rfl)) (pa_cons (pe_fld (pv 0) rfl) pa_nil))))
        (pss_cons (ps_asg (pe_ix (r := rIxT K) ix_tup (pe_fld (pv 0) rfl) (pv 2) (fun _ _ => rfl)) (pg_tup rfl (pgs_cons (pg_name (i := 3) sc_paycoin.nd rfl (.inl rfl)) (pgs_cons (pg_name (i := 4) sc_paycoin.nd rfl (.inl rfl)) (pgs_cons (pg_name (i := 3) sc_paycoin.nd rfl (.inl rfl)) (pgs_cons (pg_name (i := 3) sc_paycoin.nd rfl (.inl rfl)) pgs_nil))))))
        (pss_cons (ps_augS (pe_fld (pv 0) rfl) (pv 2) get_list pe_int ip_add set_list)
        (pss_cons (ps_augS (pe_fld (pv 0) rfl) (pv 1) get_list pe_int ip_sub set_list)
        (pss_cons (ps_augS (pe_fld (pv 0) rfl) (pv 1) get_list pe_int ip_sub set_list)
        (pss_one (ps_augS (pe_fld (pv 0) rfl) (pv 4) get_list pe_int ip_add set_list)))))), ?_⟩
    -- claim
    refine sq_set (fun v H1 => v = .int (c : Int) ∧ Same H H1) (fun Q k => ⟨_, rfl, p, C_Play, a.dx, fs, _, rfl, h0, T_Play.cl, N_Play_debts, f4, _, rfl, a.db, _, _, _, rfl, rfl, sq_of A.db, at_rf rfl hdn, _, rfl, p, C_Play, a.dx, fs, _, rfl, h0, T_Play.cl, N_Play_payments, f3, _, _, B, _, a.pa, P, rfl, A.dd n _ hdn, G, sq_of A.pa, S.pay, fun H1 s1 => ?_⟩) (fun v H1 hv => ?_)
    · have e : nextC B (n : Int) P (present B (n : Int)) = some c := c1
      rw [e]
      exact k _ _ ⟨rfl, s1⟩
    obtain ⟨rfl, s1⟩ := hv
    have A1 := A.same s1
    obtain ⟨fs1, h01, g1, g2, g3, g4, g5, g6, g7, g8⟩ := A1.ob
    have hct : a.ts[c]? = some (a.ts[c]'(by rw [A.cq.1]; exact c2)) := List.getElem?_eq_getElem _
    have hq := A1.cq.2 c _ _ hct (Bk.clm_get c2)
    -- creditor
    refine sq_tup4 (fun Q k => ⟨_, rfl, p, C_Play, a.dx, fs1, _, rfl, h01, T_Play.cl, N_Play_claims, g1, _, rfl, a.cl, _, _, _, rfl, rfl, A1.cl, at_rf rfl hct, k⟩) hq ?_
    have np : ∀ {q : Addr} {xs : List V}, H1 q = some (.lst xs) → p ≠ q := fun {q xs} h => ne_of h01 h (fun z => nomatch z)
    have npa := np A1.pa
    have nun := np A1.un
    have nhe := np A1.he
    -- the rest
    refine ⟨_, rfl, p, C_Play, a.dx, fs1, _, rfl, h01, T_Play.cl, N_Play_payments, g3, _, rfl, a.pa, _, _, _, rfl, rfl, sq_of A1.pa, atI_g rfl hcl, _, _, rfl, rfl, a.pa, _, _, c, rfl, rfl, A1.pa, ixN_nat rfl (by rw [List.length_map]; exact hcl), ?_⟩
    refine ⟨_, rfl, p, C_Play, a.dx, fs1, _, rfl, by rw [upd_ne npa]; exact h01, T_Play.cl, N_Play_unpaid, g5, _, rfl, a.un, _, _, _, rfl, rfl, sq_of (by rw [upd_ne A.n3.symm]; exact A1.un), atI_g rfl (by rw [unpaid_len]; exact hn), _, _, rfl, rfl, a.un, _, _, n, rfl, rfl, by rw [upd_ne A.n3.symm]; exact A1.un, ixN_nat rfl (by rw [List.length_map, unpaid_len]; exact hn), ?_⟩
    refine ⟨_, rfl, p, C_Play, a.dx, fs1, _, rfl, by rw [upd_ne nun, upd_ne npa]; exact h01, T_Play.cl, N_Play_held, g2, _, rfl, a.he, _, _, _, rfl, rfl, sq_of (by rw [upd_ne A.n2, upd_ne A.n1]; exact A1.he), atI_g rfl (by rw [leftOf_len]; exact hn), _, _, rfl, rfl, a.he, _, _, n, rfl, rfl, by rw [upd_ne A.n2, upd_ne A.n1]; exact A1.he, ixN_nat rfl (by rw [List.length_map, leftOf_len]; exact hn), ?_⟩
    rw [map_set, map_set, map_set]
    refine ⟨_, rfl, p, C_Play, a.dx, fs1, _, rfl, by rw [upd_ne nhe, upd_ne nun, upd_ne npa]; exact h01, T_Play.cl, N_Play_held, g2, _, rfl, a.he, _, _, _, rfl, rfl, sq_of upd_same, atI_g (j := y) hcy (by rw [List.length_set, leftOf_len]; exact hy), _, _, rfl, rfl, a.he, _, _, y, rfl, rfl, upd_same, ixN_nat hcy (by rw [List.length_map, List.length_set, leftOf_len]; exact hy), ?_⟩
    rw [map_set]
    have el := left_set G hpl c2 c3 hcy hn hy 1
    have eu := unpaid_set hpl c2 c3 hn
    have off : Off (isPl a) H1 (upd (upd (upd (upd H1 a.pa (.lst ((P.set c (g P c + 1)).map V.int))) a.un (.lst (((unpaidOf B P).set n (g (unpaidOf B P) n - 1)).map V.int))) a.he (.lst (((leftOf B P).set n (g (leftOf B P) n - 1)).map V.int))) a.he (.lst ((((leftOf B P).set n (g (leftOf B P) n - 1)).set y (g ((leftOf B P).set n (g (leftOf B P) n - 1)) y + 1)).map V.int))) := fun b o h hb => by
      rw [upd_ne (fun z => hb (.inl z)), upd_ne (fun z => hb (.inl z)), upd_ne (fun z => hb (.inr (.inr z))), upd_ne (fun z => hb (.inr (.inl z)))]
      exact h
    refine k (P.set c (g P c + 1)) _ ⟨⟨fs1, ?_, g1, g2, g3, g4, g5, g6, g7, g8⟩, ?_, ?_, ?_, ?_, ?_, ?_, A.dl, fun j t ht => (A1.dd j t ht).off off fun b hb => mask_no hb, A.n1, A.n2, A.n3, A.n4⟩ S' ?_ ((Off.same s1).trans off)
    · rw [upd_ne nhe, upd_ne nhe, upd_ne nun, upd_ne npa]
      exact h01
    · exact tup_put (tup_put (tup_put (tup_put A1.cl A1.pa) (by rw [upd_ne A.n3.symm]; exact A1.un)) (by rw [upd_ne A.n2, upd_ne A.n1]; exact A1.he)) upd_same
    · exact (((A1.cq.put A1.pa).put (by rw [upd_ne A.n3.symm]; exact A1.un)).put (by rw [upd_ne A.n2, upd_ne A.n1]; exact A1.he)).put upd_same
    · rw [upd_same, el]
    · rw [upd_ne A.n1.symm, upd_ne A.n1.symm, upd_ne A.n3, upd_same]
    · rw [upd_ne A.n2.symm, upd_ne A.n2.symm, upd_same, eu]
    · exact off _ _ A1.db A.n4
    · rw [sum_set_g hcl]
      omega
theorem sc_pinit : FnScope ["self", "book", "cash", "claims", "debtor", "_", "amount", "house"] ["self", "book"] (defScope s_pinit) := ⟨rfl, rfl, rfl, by decide +kernel, rfl, by decide +kernel, by decide +kernel⟩
/- 0:self 1:book 2:cash 3:claims 4:debtor 5:_ 6:amount 7:house -/
theorem ok_pinit {f : Addr} {fd : FuncData} (M : MethAt K C_Play "__init__" "Play.__init__" s_pinit ["self", "book"] f fd) (T_Play : ClsAt K mg "Play" C_Play) (N_Play_claims : NoAttr K C_Play "claims") (N_Play_held : NoAttr K C_Play "held") (N_Play_payments : NoAttr K C_Play "payments") (N_Play_debts : NoAttr K C_Play "debts") (N_Play_unpaid : NoAttr K C_Play "unpaid") (m_list : mg "list" = none) (m_len : mg "len" = none) (m_range : mg "range" = none) (m_enumerate : mg "enumerate" = none) (m_sorted : mg "sorted" = none)
    {f1 : Addr} {fd1 : FuncData} (D_debts : DefAt K mg "debts_by_rank" s_debts ["claims", "house"] f1 fd1) : FnOk P w K mg base CX0 2 f fd ["self", "book"] (spPInit K C_Play) := by
  have G_debts : FnOk P w K mg base CX0 1 f1 fd1 ["claims", "house"] (spDebts K) := ok_debts D_debts m_enumerate m_sorted
  refine M.F.ok sc_pinit (fun vs H Q E h => ?_) (fun cdv A outer s H vs Q E hr h => ?_)
  · obtain ⟨p, dx, b, ca, cl, ts, B, rfl, _⟩ := h
    rfl
  · obtain ⟨p, dx, b, ca, cl, ts, B, rfl, hp, A, G, k⟩ := h
    have n8 := G.n1
    have m1 := G.m1
    have lq : (ts.map V.ref).length = B.claims.length := by rw [List.length_map, A.hq.1]
    have lc : (B.cash.map V.int).length = B.cash.length := List.length_map _
    have btup : ∀ {H' : Hp} {o : HO}, BookAt K H' b ca cl ts B → (∃ C d fs, H' p = some (.ins C d fs)) → BookAt K (upd H' p o) b ca cl ts B := fun {H' o} A' hins => by
      obtain ⟨C', d', fs', hi⟩ := hins
      have q : ∀ (z : Addr) (xs : List V), SqT K H' z xs → SqT K (upd H' p o) z xs := fun z xs hz => by
        rcases hz with (hz | ⟨u, hz⟩) | hz
        · exact .inl (.inl (by rw [upd_ne (ne_of hz hi (fun z => nomatch z))]; exact hz))
        · exact .inl (.inr ⟨u, by rw [upd_ne (ne_of hz hi (fun z => nomatch z))]; exact hz⟩)
        · exact .inr hz
      exact ⟨q _ _ A'.hb, q _ _ A'.hca, q _ _ A'.hcl, A'.hq.1, fun i t c h1 h2 => q _ _ (A'.hq.2 i t c h1 h2)⟩
    refine ⟨_, pss_cons (ps_asg (pv 1) (pg_tup rfl (pgs_cons (pg_name (i := 2) sc_pinit.nd rfl (.inl rfl)) (pgs_cons (pg_name (i := 3) sc_pinit.nd rfl (.inr rfl)) pgs_nil))))
        (pss_cons (ps_fld (pv 0) (pv 3) rfl)
        (pss_cons (ps_fld (pv 0) (pe_callTy (r := rListOf K) call_listOf (by rfl) m_list (by decide +kernel) (pa_cons (pv 2) pa_nil)) rfl)
        (pss_cons (ps_fld (pv 0) (pe_op op_rep (pe_lst (pa_cons pe_int pa_nil)) (pe_callB (r := rLen K) call_len (by rfl) m_len (by decide +kernel) (pa_cons (pv 3) pa_nil))) rfl)
        (pss_cons (ps_fld (pv 0) (pe_lc (own := [("house", 7)]) (g := gName 7) (tt := tYes) (by rfl) sc_pinit.nd (pi_range1 (by rfl) m_range (pa_cons (pe_callB (r := rLen K) call_len (by rfl) m_len (by decide +kernel) (pa_cons (pv 2) pa_nil)) pa_nil)) (blkOk_by (own := [("house", 7)]) (N := ["self", "book", "cash", "claims", "debtor", "_", "amount", "house"]) (sc := defScope s_pinit) (by decide +kernel)) (fun _ _ _ _ _ => (pg_name (i := 7) sc_pinit.nd rfl (.inl rfl))) (fun _ _ _ _ _ => pts_nil) (fun _ _ _ _ _ => (pe_call G_debts (hr.mono (by decide)) (by rfl) D_debts.g D_debts.F.kp D_debts.b .nil pass0 (pa_cons (pv 3) (pa_cons (pv 7) pa_nil))))) rfl)
        (pss_cons (ps_fld (pv 0) (pe_op op_rep (pe_lst (pa_cons pe_int pa_nil)) (pe_callB (r := rLen K) call_len (by rfl) m_len (by decide +kernel) (pa_cons (pv 2) pa_nil))) rfl)
        (pss_one (ps_for PassesOwn.never rfl (pi_tup (pv 3)) (pg_tup rfl (pgs_cons (pg_name (i := 4) sc_pinit.nd rfl (.inl rfl)) (pgs_cons (pg_name (i := 5) sc_pinit.nd rfl (.inl rfl)) (pgs_cons (pg_name (i := 6) sc_pinit.nd rfl (.inl rfl)) (pgs_cons (pg_name (i := 5) sc_pinit.nd rfl (.inl rfl)) pgs_nil))))) (pss_one (ps_augS (pe_fld (pv 0) rfl) (pv 4) get_list (pv 6) ip_add set_list))))))))), ?_⟩
    refine sq_tup2 (fun Q k => ⟨_, rfl, k⟩) A.hb ?_
    -- claims
    refine ⟨_, rfl, _, rfl, p, C_Play, dx, [], rfl, hp, T_Play.cl, N_Play_claims, (by decide), ?_⟩
    have A1 : BookAt K (upd H p (.ins C_Play dx (putF "claims" (.ref cl) []))) b ca cl ts B := btup A ⟨_, _, _, hp⟩
    have k1 : ∀ c o, H c = some o → c ≠ p → (upd H p (.ins C_Play dx (putF "claims" (.ref cl) []))) c = some o := fun c o h hc => by rw [upd_ne hc]; exact h
    have hp1 : (upd H p (.ins C_Play dx (putF "claims" (.ref cl) []))) p = some (.ins C_Play dx (putF "claims" (.ref cl) [])) := upd_same
    have fr1 : ∀ q, (upd H p (.ins C_Play dx (putF "claims" (.ref cl) []))) q = none → H q = none := fun q hq => by
      by_cases e : q = p
      · rw [e, upd_same] at hq; cases hq
      · rw [upd_ne e] at hq; exact hq
    generalize upd H p (.ins C_Play dx (putF "claims" (.ref cl) [])) = H1 at A1 k1 hp1 fr1 ⊢
    -- held
    refine ⟨_, rfl, ca, _, rfl, .inr A1.hca, fun he nhe => ?_⟩
    have s2 := Same.new (o := .lst (B.cash.map V.int)) nhe
    refine ⟨_, rfl, p, C_Play, dx, _, rfl, s2 _ _ hp1, T_Play.cl, N_Play_held, (by have := putF_le "claims" (.ref cl) []; have z : ([] : List (Str × V)).length = 0 := rfl; omega), ?_⟩
    have A2 : BookAt K (upd (upd H1 he (.lst (B.cash.map V.int))) p (.ins C_Play dx (putF "held" (.ref he) (putF "claims" (.ref cl) [])))) b ca cl ts B := btup (A1.same s2) ⟨_, _, _, s2 _ _ hp1⟩
    have k2 : ∀ c o, H c = some o → c ≠ p → (upd (upd H1 he (.lst (B.cash.map V.int))) p (.ins C_Play dx (putF "held" (.ref he) (putF "claims" (.ref cl) [])))) c = some o := fun c o h hc => by rw [upd_ne hc]; exact s2 _ _ (k1 c o h hc)
    have hp2 : (upd (upd H1 he (.lst (B.cash.map V.int))) p (.ins C_Play dx (putF "held" (.ref he) (putF "claims" (.ref cl) [])))) p = some (.ins C_Play dx (putF "held" (.ref he) (putF "claims" (.ref cl) []))) := upd_same
    have nph : p ≠ he := ne_of_none hp1 nhe
    have he2 : (upd (upd H1 he (.lst (B.cash.map V.int))) p (.ins C_Play dx (putF "held" (.ref he) (putF "claims" (.ref cl) [])))) he = some (.lst (B.cash.map V.int)) := by rw [upd_ne nph.symm]; exact upd_same
    have fr2 : ∀ q, (upd (upd H1 he (.lst (B.cash.map V.int))) p (.ins C_Play dx (putF "held" (.ref he) (putF "claims" (.ref cl) [])))) q = none → H q = none := fun q hq => by
      by_cases e : q = p
      · rw [e, upd_same] at hq; cases hq
      · rw [upd_ne e] at hq
        exact fr1 q (s2.free hq)
    have nheH := fr1 he nhe
    generalize upd (upd H1 he (.lst (B.cash.map V.int))) p (.ins C_Play dx (putF "held" (.ref he) (putF "claims" (.ref cl) []))) = H2 at A2 k2 hp2 he2 fr2 ⊢
    -- payments
    refine ⟨by show 1 ≤ sizeLine; decide, fun z nz => ⟨_, rfl, cl, _, rfl, .inr ((A2.same (Same.new nz)).hcl), z, _, [.int 0], rfl, rfl, upd_same, by rw [lq]; omega, by rw [lq]; omega, by rw [lq]; show 1 * _ ≤ sizeLine; exact sz_of (by omega), fun pa npa => ?_⟩⟩
    have ep : (List.replicate ((ts.map V.ref).length : Int).toNat [V.int 0]).flatten = (noneP B).map V.int := by
      rw [lq]
      unfold noneP
      rw [Int.toNat_natCast, List.map_replicate]
      generalize B.claims.length = n
      induction n with
      | zero => rfl
      | succ n ih => rw [List.replicate_succ, List.flatten_cons, ih]; rfl
    rw [ep]
    have s3 : Same H2 (upd (upd H2 z (.lst [.int 0])) pa (.lst ((noneP B).map V.int))) := (Same.new nz).trans (Same.new npa)
    have npa2 : H2 pa = none := (Same.new nz).free npa
    have hpa3 : (upd (upd H2 z (.lst [.int 0])) pa (.lst ((noneP B).map V.int))) pa = some (.lst ((noneP B).map V.int)) := upd_same
    generalize upd (upd H2 z (.lst [.int 0])) pa (.lst ((noneP B).map V.int)) = H3 at s3 hpa3 ⊢
    refine ⟨_, rfl, p, C_Play, dx, _, rfl, s3 _ _ hp2, T_Play.cl, N_Play_payments, (by have := putF_le "claims" (.ref cl) []; have := putF_le "held" (.ref he) (putF "claims" (.ref cl) []); have z : ([] : List (Str × V)).length = 0 := rfl; omega), ?_⟩
    have A3 : BookAt K (upd H3 p (.ins C_Play dx (putF "payments" (.ref pa) (putF "held" (.ref he) (putF "claims" (.ref cl) []))))) b ca cl ts B := btup (A2.same s3) ⟨_, _, _, s3 _ _ hp2⟩
    have hp3 : (upd H3 p (.ins C_Play dx (putF "payments" (.ref pa) (putF "held" (.ref he) (putF "claims" (.ref cl) []))))) p = some (.ins C_Play dx (putF "payments" (.ref pa) (putF "held" (.ref he) (putF "claims" (.ref cl) [])))) := upd_same
    have npp : p ≠ pa := ne_of_none hp2 npa2
    have k3 : ∀ c o, H2 c = some o → c ≠ p → (upd H3 p (.ins C_Play dx (putF "payments" (.ref pa) (putF "held" (.ref he) (putF "claims" (.ref cl) []))))) c = some o := fun c o h hc => by rw [upd_ne hc]; exact s3 _ _ h
    have hpa4 : (upd H3 p (.ins C_Play dx (putF "payments" (.ref pa) (putF "held" (.ref he) (putF "claims" (.ref cl) []))))) pa = some (.lst ((noneP B).map V.int)) := by rw [upd_ne npp.symm]; exact hpa3
    have fr3 : ∀ q, (upd H3 p (.ins C_Play dx (putF "payments" (.ref pa) (putF "held" (.ref he) (putF "claims" (.ref cl) []))))) q = none → H2 q = none := fun q hq => by
      by_cases e : q = p
      · rw [e, upd_same] at hq; cases hq
      · rw [upd_ne e] at hq
        exact s3.free hq
    generalize upd H3 p (.ins C_Play dx (putF "payments" (.ref pa) (putF "held" (.ref he) (putF "claims" (.ref cl) [])))) = H4 at A3 hp3 k3 hpa4 fr3 ⊢
    have he4 := k3 _ _ he2 (Ne.symm nph)
    have nhp : he ≠ pa := ne_of_none he2 npa2
    -- debts
    refine ⟨_, rfl, ca, _, rfl, .inr A3.hca, (B.cash.length : Int), by rw [lc], by omega, by omega, fun db ndb => ?_⟩
    refine lc_range (lo := 0) (n := (B.cash.length : Int).toNat) (fun j H' => Same H4 H' ∧ ∃ ds, H' db = some (.lst (ds.map V.ref)) ∧ ds.length = j ∧ (∀ t ∈ ds, t ≠ db) ∧ ∀ (i : Nat) (t : Addr), ds[i]? = some t → DbtAt (upd H4 db (.lst [])) H' t B (i : Int)) ⟨Same.new ndb, [], upd_same, rfl, fun t h => (nomatch h), fun i t h => by cases h⟩ (fun j H' hj hW => ?_) (fun H' hW => ?_)
    · obtain ⟨s5, ds, hdb, hdl, hdn, hdd⟩ := hW
      have e0 : (0 : Int) + (j : Int) = (j : Int) := Int.zero_add _
      rw [e0]
      refine ⟨rfl, _, rfl, _, rfl, cl, ts, B, (j : Int), rfl, (A3.same s5).hcl, (A3.same s5).hq, G, fun t H6 s6 Dt => ?_⟩
      have hdb6 := s6 _ _ hdb
      have ntd : t ≠ db := fun z => by
        have := Dt.frp
        rw [z, hdb] at this
        cases this
      have off : Off (fun b => b = db) H6 (upd H6 db (.lst (ds.map V.ref ++ [.ref t]))) := fun b o h n => by rw [upd_ne n]; exact h
      have b0 : ∀ a, H' a = none → (upd H4 db (.lst [])) a = none := fun a ha => by
        have na : a ≠ db := fun z => by rw [z, hdb] at ha; cases ha
        rw [upd_ne na]
        exact s5.free ha
      refine ⟨_, hdb6, by rw [List.length_map]; exact sz_lt (by omega), Same.mut (s5.trans s6) ndb, ds ++ [t], by rw [upd_same, List.map_append]; rfl, by rw [List.length_append, hdl]; rfl, fun u hu => ?_, fun i u hu => ?_⟩
      · rcases List.mem_append.mp hu with q | q
        · exact hdn u q
        · rw [List.mem_singleton.mp q]; exact ntd
      · by_cases hi : i < ds.length
        · rw [List.getElem?_append_left hi] at hu
          exact ((hdd i u hu).same s6).off off fun a ha => by rw [ha, upd_same]; exact fun z => nomatch z
        · have ei : i = ds.length := by
            have := (List.getElem?_eq_some_iff.mp hu).1
            rw [List.length_append] at this
            have : i < ds.length + 1 := this
            omega
          subst ei
          rw [List.getElem?_append_right (Nat.le_refl _), Nat.sub_self] at hu
          have et := Option.some.inj hu
          subst et
          rw [hdl]
          exact (Dt.less b0).off off fun a ha => by rw [ha, upd_same]; exact fun z => nomatch z
    · obtain ⟨s5, ds, hdb, hdl, hdn, hdd⟩ := hW
      rw [Int.toNat_natCast] at hdl
      refine ⟨_, rfl, p, C_Play, dx, _, rfl, s5 _ _ hp3, T_Play.cl, N_Play_debts, (by have := putF_le "claims" (.ref cl) []; have := putF_le "held" (.ref he) (putF "claims" (.ref cl) []); have := putF_le "payments" (.ref pa) (putF "held" (.ref he) (putF "claims" (.ref cl) [])); have z : ([] : List (Str × V)).length = 0 := rfl; omega), ?_⟩
      have A5 : BookAt K (upd H' p (.ins C_Play dx (putF "debts" (.ref db) (putF "payments" (.ref pa) (putF "held" (.ref he) (putF "claims" (.ref cl) [])))))) b ca cl ts B := btup (A3.same s5) ⟨_, _, _, s5 _ _ hp3⟩
      have hp5 : (upd H' p (.ins C_Play dx (putF "debts" (.ref db) (putF "payments" (.ref pa) (putF "held" (.ref he) (putF "claims" (.ref cl) [])))))) p = some (.ins C_Play dx (putF "debts" (.ref db) (putF "payments" (.ref pa) (putF "held" (.ref he) (putF "claims" (.ref cl) []))))) := upd_same
      have k5 : ∀ c o, H' c = some o → c ≠ p → (upd H' p (.ins C_Play dx (putF "debts" (.ref db) (putF "payments" (.ref pa) (putF "held" (.ref he) (putF "claims" (.ref cl) [])))))) c = some o := fun c o h hc => by rw [upd_ne hc]; exact h
      have fr5 : ∀ q, (upd H' p (.ins C_Play dx (putF "debts" (.ref db) (putF "payments" (.ref pa) (putF "held" (.ref he) (putF "claims" (.ref cl) [])))))) q = none → H' q = none := fun q hq => by
        by_cases e : q = p
        · rw [e, upd_same] at hq; cases hq
        · rw [upd_ne e] at hq
          exact hq
      have npd : p ≠ db := ne_of_none hp3 ndb
      have hoff : Off (fun b => b = p) H' (upd H' p (.ins C_Play dx (putF "debts" (.ref db) (putF "payments" (.ref pa) (putF "held" (.ref he) (putF "claims" (.ref cl) [])))))) := fun b o h n => by rw [upd_ne n]; exact h
      have hdd5 : ∀ (i : Nat) (t : Addr), ds[i]? = some t → DbtAt (upd H4 db (.lst [])) (upd H' p (.ins C_Play dx (putF "debts" (.ref db) (putF "payments" (.ref pa) (putF "held" (.ref he) (putF "claims" (.ref cl) [])))))) t B (i : Int) := fun i t ht => (hdd i t ht).off hoff fun a ha => by
        rw [ha, upd_ne npd, hp3]
        exact fun z => nomatch z
      generalize upd H' p (.ins C_Play dx (putF "debts" (.ref db) (putF "payments" (.ref pa) (putF "held" (.ref he) (putF "claims" (.ref cl) []))))) = H5 at A5 hp5 k5 fr5 hdd5 ⊢
      have he5 := k5 _ _ (s5 _ _ he4) (Ne.symm nph)
      have hpa5 := k5 _ _ (s5 _ _ hpa4) (Ne.symm npp)
      have hdb5 := k5 _ _ hdb npd.symm
      -- unpaid
      refine ⟨by show 1 ≤ sizeLine; decide, fun z5 nz5 => ⟨_, rfl, ca, _, rfl, .inr ((A5.same (Same.new nz5)).hca), z5, _, [.int 0], rfl, rfl, upd_same, by rw [lc]; omega, by rw [lc]; omega, by rw [lc]; show 1 * _ ≤ sizeLine; exact sz_of (by omega), fun un nun => ?_⟩⟩
      have eu : (List.replicate ((B.cash.map V.int).length : Int).toNat [V.int 0]).flatten = ((List.range B.cash.length).map fun x : Nat => sumIf (fun k => decide ((B.clm k).d = (x : Int))) (amt B) 0).map V.int := by
        rw [lc, Int.toNat_natCast]
        have e1 : ((List.range B.cash.length).map fun x : Nat => sumIf (fun k => decide ((B.clm k).d = (x : Int))) (amt B) 0) = List.replicate B.cash.length 0 := by
          apply List.ext_getElem?
          intro i
          rw [List.getElem?_map]
          by_cases hi : i < B.cash.length
          · rw [List.getElem?_range hi, List.getElem?_replicate, if_pos hi]
            rfl
          · rw [List.getElem?_eq_none (by rw [List.length_range]; omega), List.getElem?_eq_none (by rw [List.length_replicate]; omega)]
            rfl
        rw [e1, List.map_replicate]
        generalize B.cash.length = n
        induction n with
        | zero => rfl
        | succ n ih => rw [List.replicate_succ, List.flatten_cons, ih]; rfl
      rw [eu]
      have s6 : Same H5 (upd (upd H5 z5 (.lst [.int 0])) un (.lst (((List.range B.cash.length).map fun x : Nat => sumIf (fun k => decide ((B.clm k).d = (x : Int))) (amt B) 0).map V.int))) := (Same.new nz5).trans (Same.new nun)
      have nun5 : H5 un = none := (Same.new nz5).free nun
      have hun6 : (upd (upd H5 z5 (.lst [.int 0])) un (.lst (((List.range B.cash.length).map fun x : Nat => sumIf (fun k => decide ((B.clm k).d = (x : Int))) (amt B) 0).map V.int))) un = some (.lst (((List.range B.cash.length).map fun x : Nat => sumIf (fun k => decide ((B.clm k).d = (x : Int))) (amt B) 0).map V.int)) := upd_same
      generalize upd (upd H5 z5 (.lst [.int 0])) un (.lst (((List.range B.cash.length).map fun x : Nat => sumIf (fun k => decide ((B.clm k).d = (x : Int))) (amt B) 0).map V.int)) = H6 at s6 hun6 ⊢
      refine ⟨_, rfl, p, C_Play, dx, _, rfl, s6 _ _ hp5, T_Play.cl, N_Play_unpaid, (by have := putF_le "claims" (.ref cl) []; have := putF_le "held" (.ref he) (putF "claims" (.ref cl) []); have := putF_le "payments" (.ref pa) (putF "held" (.ref he) (putF "claims" (.ref cl) [])); have := putF_le "debts" (.ref db) (putF "payments" (.ref pa) (putF "held" (.ref he) (putF "claims" (.ref cl) []))); have z : ([] : List (Str × V)).length = 0 := rfl; omega), ?_⟩
      have A7 : BookAt K (upd H6 p (.ins C_Play dx (putF "unpaid" (.ref un) (putF "debts" (.ref db) (putF "payments" (.ref pa) (putF "held" (.ref he) (putF "claims" (.ref cl) []))))))) b ca cl ts B := btup (A5.same s6) ⟨_, _, _, s6 _ _ hp5⟩
      have hp7 : (upd H6 p (.ins C_Play dx (putF "unpaid" (.ref un) (putF "debts" (.ref db) (putF "payments" (.ref pa) (putF "held" (.ref he) (putF "claims" (.ref cl) []))))))) p = some (.ins C_Play dx (putF "unpaid" (.ref un) (putF "debts" (.ref db) (putF "payments" (.ref pa) (putF "held" (.ref he) (putF "claims" (.ref cl) [])))))) := upd_same
      have k7 : ∀ c o, H6 c = some o → c ≠ p → (upd H6 p (.ins C_Play dx (putF "unpaid" (.ref un) (putF "debts" (.ref db) (putF "payments" (.ref pa) (putF "held" (.ref he) (putF "claims" (.ref cl) []))))))) c = some o := fun c o h hc => by rw [upd_ne hc]; exact h
      generalize upd H6 p (.ins C_Play dx (putF "unpaid" (.ref un) (putF "debts" (.ref db) (putF "payments" (.ref pa) (putF "held" (.ref he) (putF "claims" (.ref cl) [])))))) = H7 at A7 hp7 k7 ⊢
      have npu : p ≠ un := ne_of_none hp5 nun5
      have hun7 := k7 _ _ hun6 npu.symm
      have he7 := k7 _ _ (s6 _ _ he5) (Ne.symm nph)
      have hpa7 := k7 _ _ (s6 _ _ hpa5) (Ne.symm npp)
      have hdb7 := k7 _ _ (s6 _ _ hdb5) npd.symm
      have nhu : he ≠ un := ne_of_none he5 nun5
      have npau : pa ≠ un := ne_of_none hpa5 nun5
      have ndu : db ≠ un := ne_of_none hdb5 nun5
      have ndhe : he ≠ db := ne_of_none he4 ndb
      have ndpa : pa ≠ db := ne_of_none hpa4 ndb
      have hdd7 : ∀ (i : Nat) (t : Addr), ds[i]? = some t → DbtAt (maskH fun c => c = he ∨ c = pa ∨ c = un) H7 t B (i : Int) := fun i t ht => by
        have q := (hdd5 i t ht).mask (S := fun c => c = p ∨ c = he ∨ c = pa ∨ c = un) fun a ha hex hS => by
          obtain ⟨o, ho⟩ := hex
          rcases hS with z | z | z | z
          · rw [z, upd_ne npd, hp3] at ha; cases ha
          · rw [z, upd_ne ndhe, he4] at ha; cases ha
          · rw [z, upd_ne ndpa, hpa4] at ha; cases ha
          · rw [z, nun5] at ho; cases ho
        exact ((q.same s6).off (S := fun c => c = p) (fun c o h n => k7 c o h n) fun c hc => mask_no (.inl hc)).less fun c hc => mask_out fun z => mask_of hc (.inr z)
      -- the loop
      dsimp only
      refine last_for ?_
      refine sq_forT (a := cl) (xs := ts.map V.ref) (fun Q k => ⟨_, rfl, k⟩) A7.hcl
        (fun i σ' H' => H' un = some (.lst (((List.range B.cash.length).map fun x : Nat => sumIf (fun k => decide ((B.clm k).d = (x : Int))) (amt B) i).map V.int)) ∧ Off (fun b => b = un) H7 H' ∧ ∃ y4 y5 y6, σ' = [some (.ref p), some (.ref b), some (.ref ca), some (.ref cl), y4, y5, y6, none])
        ⟨hun7, Off.refl, _, _, _, rfl⟩ (fun i σ' H' _ hW => tup_offl hun7 hW.2.1 A7.hcl) (fun i y σ' H' hy hW => ?_) (fun σ' H' hW => ?_)
      · obtain ⟨hun8, off8, y4, y5, y6, rfl⟩ := hW
        obtain ⟨t, rfl, ht⟩ := map_ref_get hy
        have hi : i < B.claims.length := by
          rw [← A.hq.1]
          exact (List.getElem?_eq_some_iff.mp ht).1
        have hqt := tup_offl hun7 off8 (A7.hq.2 i t _ ht (Bk.clm_get hi))
        have gc := G.clm hi
        obtain ⟨l, el, hl⟩ := nat_of gc.d0 gc.d1
        have ll : l < ((List.range B.cash.length).map fun x : Nat => sumIf (fun k => decide ((B.clm k).d = (x : Int))) (amt B) i).length := by rw [List.length_map, List.length_range]; exact hl
        have hp8 : H' p = some (.ins C_Play dx (putF "unpaid" (.ref un) (putF "debts" (.ref db) (putF "payments" (.ref pa) (putF "held" (.ref he) (putF "claims" (.ref cl) [])))))) := off8 _ _ hp7 npu
        refine ⟨t, _, rfl, hqt, rfl, _, _, rfl, _, _, rfl, _, _, rfl, _, _, rfl, rfl, ?_⟩
        refine ⟨_, rfl, p, C_Play, dx, _, _, rfl, hp8, T_Play.cl, N_Play_unpaid, (by rw [lookup_putF, if_pos rfl]), _, rfl, un, _, _, _, rfl, rfl, sq_of hun8, atI_g el ll, _, rfl, _, _, rfl, rfl, un, _, _, l, rfl, rfl, hun8, ixN_nat el (by rw [List.length_map]; exact ll), ?_⟩
        rw [map_set]
        refine ⟨?_, fun c o h n => by rw [upd_ne n]; exact off8 c o h n, _, _, _, rfl⟩
        rw [upd_same, rangeMap_set hl, g_rangeMap hl]
        congr 3
        apply List.map_congr_left
        intro x _
        show _ = sumIf _ (amt B) i + (if decide ((B.clm i).d = (x : Int)) = true then amt B i else 0)
        by_cases e : x = l
        · rw [if_pos e, if_pos (decide_eq_true (by rw [el, e])), e]
          rfl
        · rw [if_neg e, if_neg (by rw [decide_eq_false (fun z => e (by omega))]; decide)]
          omega
      · obtain ⟨hun8, off8, y4, y5, y6, rfl⟩ := hW
        rw [lq] at hun8
        have keep : ∀ c o, H c = some o → c ≠ p → H' c = some o := fun c o h hc => off8 c o (k7 _ _ (s6 _ _ (k5 _ _ (s5 _ _ (k3 _ _ (k2 c o h hc) hc)) hc)) hc) fun z => by
          have h5 := k5 _ _ (s5 _ _ (k3 _ _ (k2 c o h hc) hc)) hc
          rw [z, nun5] at h5
          cases h5
        have fin : PlayAt K C_Play H' p ⟨cl, he, pa, db, un, dx, ts, ds⟩ B (noneP B) := by
          refine ⟨⟨_, off8 _ _ hp7 npu, ?_, ?_, ?_, ?_, ?_, ?_, ?_, ?_⟩, tup_offl hun7 off8 A7.hcl, ⟨A7.hq.1, fun i t c h1 h2 => tup_offl hun7 off8 (A7.hq.2 i t c h1 h2)⟩, ?_, off8 _ _ hpa7 npau, ?_, off8 _ _ hdb7 ndu, hdl, fun i t ht => (hdd7 i t ht).off off8 fun c hc => mask_no (.inr (.inr hc)), nhp, nhu, npau, fun z => ?_⟩
          · rw [lookup_putF, if_neg (by decide +kernel), lookup_putF, if_neg (by decide +kernel), lookup_putF, if_neg (by decide +kernel), lookup_putF, if_neg (by decide +kernel), lookup_putF, if_pos rfl]
          · rw [lookup_putF, if_neg (by decide +kernel), lookup_putF, if_neg (by decide +kernel), lookup_putF, if_neg (by decide +kernel), lookup_putF, if_pos rfl]
          · rw [lookup_putF, if_neg (by decide +kernel), lookup_putF, if_neg (by decide +kernel), lookup_putF, if_pos rfl]
          · rw [lookup_putF, if_neg (by decide +kernel), lookup_putF, if_pos rfl]
          · rw [lookup_putF, if_pos rfl]
          · rw [lookup_putF, if_neg (by decide +kernel), lookup_putF, if_neg (by decide +kernel), lookup_putF, if_neg (by decide +kernel), lookup_putF, if_neg (by decide +kernel), lookup_putF, if_neg (by decide +kernel)]
            rfl
          · rw [lookup_putF, if_neg (by decide +kernel), lookup_putF, if_neg (by decide +kernel), lookup_putF, if_neg (by decide +kernel), lookup_putF, if_neg (by decide +kernel), lookup_putF, if_neg (by decide +kernel)]
            rfl
          · rw [lookup_putF, if_neg (by decide +kernel), lookup_putF, if_neg (by decide +kernel), lookup_putF, if_neg (by decide +kernel), lookup_putF, if_neg (by decide +kernel), lookup_putF, if_neg (by decide +kernel)]
            rfl
          · rw [left_none]
            exact off8 _ _ he7 nhu
          · have e : unpaidOf B (noneP B) = (List.range B.cash.length).map fun x : Nat => sumIf (fun k => decide ((B.clm k).d = (x : Int))) (amt B) B.claims.length := by
              unfold unpaidOf
              apply List.map_congr_left
              intro x _
              rw [paid_none, owed_sum G]
              omega
            rw [e]
            exact hun8
          · rcases z with z | z | z
            · exact ndhe z.symm
            · exact ndpa z.symm
            · exact ndu z
        exact k _ H' fin keep nheH (fr2 _ npa2) (fr2 _ (fr3 _ (s5.free (fr5 _ nun5))))
theorem sc_stilled : FnScope ["book", "picks", "play", "house", "least"] ["book", "picks"] (defScope s_stilled) := ⟨rfl, rfl, rfl, by decide +kernel, rfl, by decide +kernel, by decide +kernel⟩
/- 0:book 1:picks 2:play 3:house 4:least -/
theorem ok_stilled {f : Addr} {fd : FuncData} (D : DefAt K mg "stilled" s_stilled ["book", "picks"] f fd) (T_Play : ClsAt K mg "Play" C_Play) (N_Play_claims : NoAttr K C_Play "claims") (N_Play_held : NoAttr K C_Play "held") (N_Play_payments : NoAttr K C_Play "payments") (N_Play_debts : NoAttr K C_Play "debts") (N_Play_unpaid : NoAttr K C_Play "unpaid")
    (L : Lims mg) (m_list : mg "list" = none) (m_len : mg "len" = none) (m_range : mg "range" = none) (m_enumerate : mg "enumerate" = none) (m_sorted : mg "sorted" = none)
    {f1 : Addr} {fd1 : FuncData} (D_wrong : DefAt K mg "_wrong_in_claim" s_wrong ["claim", "houses"] f1 fd1)
    {f2 : Addr} {fd2 : FuncData} (D_need : DefAt K mg "need_book" s_need ["book"] f2 fd2)
    {f3 : Addr} {fd3 : FuncData} (D_needhs : DefAt K mg "need_houses" s_needhs ["book", "houses"] f3 fd3)
    {f4 : Addr} {fd4 : FuncData} (D_debts : DefAt K mg "debts_by_rank" s_debts ["claims", "house"] f4 fd4)
    {f6 : Addr} {fd6 : FuncData} (D_least_paid : DefAt K mg "_least_paid" s_least_paid ["amounts", "paid"] f6 fd6)
    {f7 : Addr} {fd7 : FuncData} (D_nextclaim : DefAt K mg "next_claim" s_nextclaim ["debts", "payments"] f7 fd7)
    {f8 : Addr} {fd8 : FuncData} (M_pinit : MethAt K C_Play "__init__" "Play.__init__" s_pinit ["self", "book"] f8 fd8)
    {f9 : Addr} {fd9 : FuncData} (M_maypay : MethAt K C_Play "may_pay" "Play.may_pay" s_maypay ["self", "house"] f9 fd9)
    {f10 : Addr} {fd10 : FuncData} (M_leastpayer : MethAt K C_Play "least_payer" "Play.least_payer" s_leastpayer ["self"] f10 fd10)
    {f11 : Addr} {fd11 : FuncData} (M_paycoin : MethAt K C_Play "pay_coin" "Play.pay_coin" s_paycoin ["self", "house"] f11 fd11) : FnOk P w K mg base CX0 5 f fd ["book", "picks"] (spStilled K) := by
  have G_needhs : FnOk P w K mg base CX0 3 f3 fd3 ["book", "houses"] (spNeedHs K) := ok_needhs D_needhs L m_len m_enumerate D_wrong D_need
  have G_pinit : FnOk P w K mg base CX0 2 f8 fd8 ["self", "book"] (spPInit K C_Play) := ok_pinit M_pinit T_Play N_Play_claims N_Play_held N_Play_payments N_Play_debts N_Play_unpaid m_list m_len m_range m_enumerate m_sorted D_debts
  have G_maypay : FnOk P w K mg base CX0 1 f9 fd9 ["self", "house"] (spMay K C_Play) := ok_maypay M_maypay T_Play N_Play_held N_Play_unpaid
  have G_leastpayer : FnOk P w K mg base CX0 2 f10 fd10 ["self"] (spLeastPayer K C_Play) := ok_leastpayer M_leastpayer T_Play N_Play_held N_Play_unpaid m_range m_len M_maypay
  have G_paycoin : FnOk P w K mg base CX0 3 f11 fd11 ["self", "house"] (spPayCoin K C_Play) := ok_paycoin M_paycoin T_Play N_Play_claims N_Play_held N_Play_payments N_Play_debts N_Play_unpaid m_enumerate D_least_paid D_nextclaim
  refine D.F.ok sc_stilled (fun vs H Q E h => ?_) (fun cdv A outer s H vs Q E hr h => ?_)
  · obtain ⟨b, ca, cl, ts, B, l, xs, rfl, _⟩ := h
    rfl
  · obtain ⟨b, ca, cl, ts, B, l, xs, rfl, A, G, hl, hin, k⟩ := h
    refine ⟨_, pss_cons (ps_expr (pe_call G_needhs (hr.mono (by decide)) (by rfl) D_needhs.g D_needhs.F.kp D_needhs.b .nil pass0 (pa_cons (pv 0) (pa_cons (pv 1) pa_nil))))
        (pss_cons (ps_set (i := 2) sc_stilled.nd rfl (.inl rfl) (pe_make (M_pinit.made T_Play) G_pinit (hr.mono (by decide)) (by rfl) T_Play.g M_pinit.b .nil pass0 (pa_cons (pv 0) pa_nil)))
        (pss_cons (ps_for PassesOwn.never rfl (pi_list (pv 1)) (pg_name (i := 3) sc_stilled.nd rfl (.inl rfl)) (pss_one (ps_if (pt_val (pe_meth (pv 2) T_Play.cl M_maypay.m G_maypay (hr.mono (by decide)) M_maypay.b .nil pass0 (pa_cons (pv 3) pa_nil))) (pss_one (ps_expr (pe_meth (pv 2) T_Play.cl M_paycoin.m G_paycoin (hr.mono (by decide)) M_paycoin.b .nil pass0 (pa_cons (pv 3) pa_nil)))) pss_nil)))
        (pss_cons (ps_whileW PassesOwn.never (ptw_cmp op_notN (pew_named (i := 4) sc_stilled.nd rfl (.inl rfl) (pew_of (pe_meth0 (pv 2) T_Play.cl M_leastpayer.m G_leastpayer (hr.mono (by decide)) M_leastpayer.b .nil pass0))) pe_non rfl) (pss_one (ps_expr (pe_meth (pv 2) T_Play.cl M_paycoin.m G_paycoin (hr.mono (by decide)) M_paycoin.b .nil pass0 (pa_cons (pv 4) pa_nil)))) pss_nil)
        (pss_one (ps_ret (pe_fld (pv 2) rfl)))))), ?_⟩
    refine sq_drop (fun H1 => Same H H1) (fun Q k => ⟨_, rfl, _, rfl, b, ca, cl, ts, B, l, xs, rfl, A, G, hl, hin, fun H1 s1 => k _ H1 s1⟩) (fun H1 s1 => ?_)
    have A1 := A.same s1
    -- play
    refine sq_set (fun v H2 => ∃ p a, v = .ref p ∧ PlayAt K C_Play H2 p a B (noneP B) ∧ Same H1 H2 ∧ H1 a.he = none ∧ H1 a.pa = none ∧ H1 a.un = none) (fun Q k => ⟨_, rfl, fun p dx np ndx ne => ?_⟩) (fun v H2 hv => ?_)
    · have s2 : Same H1 (upd (upd H1 dx (.own p)) p (.ins C_Play dx [])) := fun c o h => by
        rw [upd_ne (ne_of_none h np), upd_ne (ne_of_none h ndx)]
        exact h
      have fr : ∀ q, (upd (upd H1 dx (.own p)) p (.ins C_Play dx [])) q = none → H1 q = none := fun q hq => s2.free hq
      exact ⟨p, dx, b, ca, cl, ts, B, rfl, upd_same, A1.same s2, G, fun a H' PA keep nh npa nun => ⟨rfl, k _ _ ⟨p, a, rfl, PA, fun c o h => keep c o (s2 c o h) (ne_of_none h np), fr _ nh, fr _ npa, fr _ nun⟩⟩⟩
    obtain ⟨p, a, rfl, PA, s2, nhe, npa, nun⟩ := hv
    have sOff : ∀ {Ha Hb : Hp}, Same H1 Ha → Off (isPl a) Ha Hb → Same H1 Hb := fun {Ha Hb} s o c u h => o c u (s c u h) fun z => by
      rcases z with z | z | z
      · rw [z, nhe] at h; cases h
      · rw [z, npa] at h; cases h
      · rw [z, nun] at h; cases h
    refine sq_forL (a := l) (xs := xs.map V.int) (fun Q k => ⟨_, rfl, k⟩) ((s1.trans s2).seq hl)
      (fun i σ' H' => Same H1 H' ∧ (∃ P, PlayAt K C_Play H' p a B P ∧ Still B P) ∧ ∃ y3, σ' = [some (.ref b), some (.ref l), some (.ref p), y3, none]) ⟨s2, ⟨_, PA, still_start G⟩, _, rfl⟩ (fun i σ' H' _ hW => (s1.trans hW.1).seq hl) (fun i x σ' H' hx hW => ?_) (fun σ' H' hW => ?_)
    · obtain ⟨s3, ⟨P, PA, S⟩, y3, rfl⟩ := hW
      obtain ⟨rfl, hi⟩ := map_int_get hx
      have hg := hin _ (g_mem hi)
      generalize g xs i = x at hg
      obtain ⟨fs, h0, f1, f2, f3, f4, f5, f6, f7, f8⟩ := PA.ob
      refine if_ifP (p := mayPay B P x) (fun Q k => ⟨_, rfl, p, a.dx, fs, rfl, h0, f6, _, rfl, p, a, B, P, x, rfl, PA, hg.1, hg.2, _, rfl, k⟩) (fun hm => ?_) (fun hm => ⟨s3, ⟨P, PA, S⟩, _, rfl⟩)
      exact ⟨_, rfl, p, a.dx, fs, rfl, h0, f8, _, rfl, p, a, B, P, x, rfl, PA, G, S, mem_houses.mpr hg, hm, fun P' H3 PA' S' _ off => ⟨sOff s3 off, ⟨P', PA', S'⟩, _, rfl⟩⟩
    obtain ⟨s3, ⟨P, PA, S⟩, y3, rfl⟩ := hW
    refine sq_whileW (fun m σ' H' => ∃ P, PlayAt K C_Play H' p a B P ∧ Still B P ∧ Same H1 H' ∧ m = ((allP B).sum - P.sum).toNat ∧ ∃ y4, σ' = [some (.ref b), some (.ref l), some (.ref p), y3, y4]) _ ⟨P, PA, S, s3, rfl, _, rfl⟩ (fun m σ' H2 hW => ?_)
    obtain ⟨P, PA, S, s4, rfl, y4, rfl⟩ := hW
    obtain ⟨fs, h0, f1, f2, f3, f4, f5, f6, f7, f8⟩ := PA.ob
    refine ⟨fun bb σ1 H3 => H3 = H2 ∧ ((bb = true ∧ ∃ x : Nat, x < B.cash.length ∧ mayPay B P (x : Int) ∧ σ1 = [some (.ref b), some (.ref l), some (.ref p), y3, some (.int (x : Int))]) ∨ (bb = false ∧ (∀ x : Nat, x < B.cash.length → ¬ mayPay B P (x : Int)) ∧ σ1 = [some (.ref b), some (.ref l), some (.ref p), y3, some .non])), fun Q k => ?_, fun σ1 H3 hR => ?_, fun σ1 H3 hR => ?_⟩
    · exact ⟨_, rfl, p, a.dx, fs, rfl, h0, f7, p, a, B, P, rfl, PA, G, fun x hx hm => ⟨rfl, _, rfl, k _ _ _ ⟨rfl, .inl ⟨rfl, x, hx, hm, rfl⟩⟩⟩, fun hno => ⟨rfl, _, rfl, k _ _ _ ⟨rfl, .inr ⟨rfl, hno, rfl⟩⟩⟩⟩
    · obtain ⟨rfl, ⟨_, x, hx, hm, rfl⟩ | ⟨z, _⟩⟩ := hR
      · refine ⟨_, rfl, p, a.dx, fs, rfl, h0, f8, _, rfl, p, a, B, P, (x : Int), rfl, PA, G, S, mem_houses.mpr ⟨by omega, by omega⟩, hm, fun P' H4 PA' S' hs off => ?_⟩
        have q := S'.pay.sum_le
        exact ⟨((allP B).sum - P'.sum).toNat, by omega, P', PA', S', sOff s4 off, rfl, _, rfl⟩
      · cases z
    · obtain ⟨rfl, ⟨z, _⟩ | ⟨_, hno, rfl⟩⟩ := hR
      · cases z
      · have e : P = worstOf B := still_worst G S fun x hx => by
          have hb := mem_houses.mp hx
          have q := hno x.toNat (by omega)
          rw [Int.toNat_of_nonneg hb.1] at q
          by_cases h : meansOf B x P ≤ paidOut B x P
          · exact .inl h
          · exact .inr (Int.not_lt.mp fun z => q ⟨by omega, z⟩)
        subst e
        exact ⟨_, rfl, p, C_Play, a.dx, fs, _, rfl, h0, T_Play.cl, N_Play_payments, f3, k _ H3 (s1.free npa) (s1.trans s4) PA.pa⟩
end


end Rf
namespace Rf
open PySem PySem.Spec PyProof.Rows L2
/-! ### the program's order -/
/-- the dict of who pays on -/
def OnwD (B : Bk) (ns : List Nat) (kvs : List (Key × V)) : Prop := ∀ x : Int, valV kvs (.inl x) = (onw B ns x).map fun k => V.int (k : Int)
theorem onw_snoc (B : Bk) (ns : List Nat) (k : Nat) (x : Int) : onw B (ns ++ [k]) x = if (B.clm k).d = x then some k else onw B ns x := by
  unfold onw
  rw [List.filter_append]
  by_cases e : (B.clm k).d = x
  · rw [if_pos e, List.filter_cons, if_pos (decide_eq_true e), List.filter_nil, List.getLast?_concat]
  · rw [if_neg e, List.filter_cons, if_neg (by rw [decide_eq_false e]; decide), List.filter_nil, List.append_nil]
theorem OnwD.put {B : Bk} {ns : List Nat} {kvs : List (Key × V)} (A : OnwD B ns kvs) (k : Nat) : OnwD B (ns ++ [k]) (putK kvs (.inl (B.clm k).d) (.int (k : Int))) := fun x => by
  rw [valV_put, onw_snoc]
  by_cases e : (B.clm k).d = x
  · subst e
    rw [if_pos rfl, if_pos rfl]
    rfl
  · rw [if_neg (fun z => e (Sum.inl.inj z).symm), if_neg e]
    exact A x
def MvAt (H : Hp) (u : Addr) : Mv → Prop
  | .pay k c => H u = some (.tup [.str "pay", .int (k : Int), .int c])
  | .ring ks c => ∃ t, H u = some (.tup [.str "ring", .ref t, .int c]) ∧ H t = some (.tup (numV ks))
theorem MvAt.same {H H' : Hp} {u : Addr} {m : Mv} (A : MvAt H u m) (s : Same H H') : MvAt H' u m := by
  cases m with
  | pay k c => exact s _ _ A
  | ring ks c =>
    obtain ⟨t, a, b⟩ := A
    exact ⟨t, s _ _ a, s _ _ b⟩
theorem MvAt.put {H : Hp} {u : Addr} {m : Mv} {p : Addr} {o : HO} {ys : List V} (A : MvAt H u m) (hp : H p = some (.lst ys)) : MvAt (upd H p o) u m := by
  cases m with
  | pay k c =>
    show (upd H p o) u = _
    rw [upd_ne (ne_of A hp (fun z => nomatch z))]
    exact A
  | ring ks c =>
    obtain ⟨t, a, b⟩ := A
    refine ⟨t, ?_, ?_⟩
    · rw [upd_ne (ne_of a hp (fun z => nomatch z))]
      exact a
    · rw [upd_ne (ne_of b hp (fun z => nomatch z))]
      exact b
def MvsAt (H : Hp) (us : List Addr) (ms : List Mv) : Prop := us.length = ms.length ∧ ∀ (i : Nat) (u : Addr) (m : Mv), us[i]? = some u → ms[i]? = some m → MvAt H u m
theorem MvsAt.same {H H' : Hp} {us : List Addr} {ms : List Mv} (A : MvsAt H us ms) (s : Same H H') : MvsAt H' us ms := ⟨A.1, fun i u m h1 h2 => (A.2 i u m h1 h2).same s⟩
theorem MvsAt.put {H : Hp} {us : List Addr} {ms : List Mv} {p : Addr} {o : HO} {ys : List V} (A : MvsAt H us ms) (hp : H p = some (.lst ys)) : MvsAt (upd H p o) us ms := ⟨A.1, fun i u m h1 h2 => (A.2 i u m h1 h2).put hp⟩
theorem MvsAt.nil (H : Hp) : MvsAt H [] [] := ⟨rfl, fun i u m h => by cases h⟩
theorem MvsAt.app {H : Hp} {us vs : List Addr} {L M : List Mv} (A : MvsAt H us L) (C : MvsAt H vs M) : MvsAt H (us ++ vs) (L ++ M) := by
  refine ⟨by rw [List.length_append, List.length_append, A.1, C.1], fun i t x h1 h2 => ?_⟩
  by_cases hi : i < us.length
  · rw [List.getElem?_append_left hi] at h1
    rw [List.getElem?_append_left (by rw [← A.1]; exact hi)] at h2
    exact A.2 i t x h1 h2
  · rw [List.getElem?_append_right (by omega)] at h1
    rw [List.getElem?_append_right (by rw [← A.1]; omega), ← A.1] at h2
    exact C.2 _ t x h1 h2
theorem MvsAt.one {H : Hp} {u : Addr} {m : Mv} (h : MvAt H u m) : MvsAt H [u] [m] := by
  refine ⟨rfl, fun i v x h1 h2 => ?_⟩
  match i, h1, h2 with
  | 0, h1, h2 =>
    cases h1
    cases h2
    exact h
  | n + 1, h1, _ => cases h1
theorem MvsAt.get {H : Hp} {us : List Addr} {L : List Mv} (A : MvsAt H us L) {i : Nat} {u : Addr} (h : us[i]? = some u) : ∃ m, L[i]? = some m ∧ MvAt H u m := by
  have hi : i < L.length := by
    rw [← A.1]
    exact (List.getElem?_eq_some_iff.mp h).1
  exact ⟨L[i], List.getElem?_eq_getElem hi, A.2 i u _ h (List.getElem?_eq_getElem hi)⟩
theorem numV_get {l : List Nat} {j : Nat} {x : V} (h : (numV l)[j]? = some x) : ∃ k, l[j]? = some k ∧ x = .int (k : Int) := by
  unfold numV at h
  rw [List.getElem?_map] at h
  cases e : l[j]? with
  | none => rw [e] at h; cases h
  | some k => rw [e] at h; exact ⟨k, rfl, (Option.some.inj h).symm⟩
theorem numV_ints (l : List Nat) : numV l = (l.map fun k : Nat => (k : Int)).map V.int := by
  unfold numV
  rw [List.map_map]
  rfl
theorem nums_inj {l m : List Nat} : (l.map fun k : Nat => (k : Int)) = m.map (fun k : Nat => (k : Int)) ↔ l = m := List.map_inj_right fun a b z => by exact Int.ofNat.inj z
theorem idx_first {x : Int} : ∀ {l : List Int} {m : Nat}, m < l.idxOf x → l[m]? ≠ some x
  | [], _, h => absurd h (Nat.not_lt_zero _)
  | a :: l, m, h => by
    rw [List.idxOf_cons] at h
    by_cases e : (a == x) = true
    · rw [e] at h
      exact absurd h (Nat.not_lt_zero _)
    · have e' : (a == x) = false := by simpa using e
      rw [e'] at h
      cases m with
      | zero => exact fun z => e (by rw [show a = x from Option.some.inj z]; exact beq_self_eq_true x)
      | succ m => exact idx_first (l := l) (Nat.lt_of_succ_lt_succ h)
theorem cut_drop {l : List Nat} {i : Nat} (h : i < l.length) : cutV (numV l) (some (i : Int)) none = numV (l.drop i) := by
  unfold cutV
  rw [HT.sIx_nat, HT.sIx_none, numV_len, Nat.min_eq_left (Nat.le_of_lt h), List.take_of_length_le (by rw [List.length_drop, numV_len]; exact Nat.le_refl _)]
  unfold numV
  rw [List.map_drop]
structure ClAt (K : PySem.W.Frag) (H : Hp) (cl : Addr) (ts : List Addr) (B : Bk) : Prop where
  t : SqT K H cl (ts.map V.ref)
  q : ClmsAt K H ts B.claims
theorem ClAt.same {K : PySem.W.Frag} {H H' : Hp} {cl : Addr} {ts : List Addr} {B : Bk} (A : ClAt K H cl ts B) (s : Same H H') : ClAt K H' cl ts B := ⟨Same.tup s A.t, A.q.same s⟩
theorem ClAt.get {K : PySem.W.Frag} {H : Hp} {cl : Addr} {ts : List Addr} {B : Bk} (A : ClAt K H cl ts B) {k : Nat} (hk : k < B.claims.length) : ∃ t, atI (ts.map V.ref) (k : Int) = some (.ref t) ∧ SqT K H t [.int (B.clm k).d, .int (B.clm k).c, .int (B.clm k).a, .int (B.clm k).r] := by
  have h1 : k < ts.length := by rw [A.q.1]; exact hk
  refine ⟨ts[k], atI_nat (j := k) ?_, A.q.2 k _ _ (List.getElem?_eq_getElem h1) (Bk.clm_get hk)⟩
  rw [List.getElem?_map, List.getElem?_eq_getElem h1]
  rfl
def spWayRound (K : PySem.W.Frag) : Sp := fun vs H Q _ => ∃ (cl d : Addr) (ts : List Addr) (B : Bk) (ns : List Nat) (n : Nat) (kvs : List (Key × V)), vs = [.ref cl, .ref d, .int (n : Int)] ∧ ClAt K H cl ts B ∧ Good B ∧ H d = some (.dK kvs) ∧ OnwD B ns kvs ∧ (∀ k ∈ ns, k < B.claims.length) ∧ keptOf B ns = ns ∧ n ∈ ns ∧
  ∀ q H', H q = none → Same H H' → H' q = some (.lst (numV (wayGo B ns (B.cash.length + 1) [n] (B.clm n).c))) → Q (.ref q) H'
def spRingIn (K : PySem.W.Frag) : Sp := fun vs H Q _ => ∃ (cl p : Addr) (ts : List Addr) (B : Bk) (P : List Int), vs = [.ref cl, .ref p] ∧ ClAt K H cl ts B ∧ Good B ∧ SqL K H p (P.map V.int) ∧ P.length = B.claims.length ∧
  ∀ q H', H q = none → Same H H' → H' q = some (.lst (numV (ringIn B (P.length + 1) (numbersOf P)))) → Q (.ref q) H'
def numsUp (P : List Int) (i : Nat) : List Nat := (List.range i).filter fun k => decide (0 < g P k)
theorem numsUp_succ (P : List Int) (i : Nat) : numsUp P (i + 1) = numsUp P i ++ (if 0 < g P i then [i] else []) := by
  unfold numsUp
  rw [range_filter_succ]
  by_cases e : 0 < g P i
  · rw [if_pos e, if_pos (decide_eq_true e)]
  · rw [if_neg e, if_neg (by rw [decide_eq_false e]; decide)]
theorem numsUp_len (P : List Int) (i : Nat) : (numsUp P i).length ≤ i := by
  unfold numsUp
  have := List.length_filter_le (fun k => decide (0 < g P k)) (List.range i)
  rw [List.length_range] at this
  exact this
section
variable {P : Program} {w : World} {K : PySem.W.Frag} {mg : Str → Option Value} {base : Heap}
theorem sc_wayround : FnScope ["claims", "onward", "start", "way", "debtor", "house", "_", "passed"] ["claims", "onward", "start"] (defScope s_wayround) := ⟨rfl, rfl, rfl, by decide +kernel, rfl, by decide +kernel, by decide +kernel⟩
/- 0:claims 1:onward 2:start 3:way 4:debtor 5:house 6:_ 7:passed -/
theorem ok_wayround {f : Addr} {fd : FuncData} (D : DefAt K mg "_way_round" s_wayround ["claims", "onward", "start"] f fd) : FnOk P w K mg base CX0 1 f fd ["claims", "onward", "start"] (spWayRound K) := by
  refine D.F.ok sc_wayround (fun vs H Q E h => ?_) (fun cdv A outer s H vs Q E hr h => ?_)
  · obtain ⟨cl, d, ts, B, ns, n, kvs, rfl, _⟩ := h
    rfl
  · obtain ⟨cl, d, ts, B, ns, n, kvs, rfl, A, G, hd, O, hlt, hcl, hn, k⟩ := h
    have hu := hu_of hr
    have n8 := G.n1
    refine ⟨_, pss_cons (ps_set (i := 3) sc_wayround.nd rfl (.inl rfl) (pe_lst (pa_cons (pv 2) pa_nil)))
        (pss_cons (ps_asg (pe_ix (r := rIxT K) ix_tup (pv 0) (pv 2) (fun _ _ => rfl)) (pg_tup rfl (pgs_cons (pg_name (i := 4) sc_wayround.nd rfl (.inl rfl)) (pgs_cons (pg_name (i := 5) sc_wayround.nd rfl (.inl rfl)) (pgs_cons (pg_name (i := 6) sc_wayround.nd rfl (.inl rfl)) (pgs_cons (pg_name (i := 6) sc_wayround.nd rfl (.inl rfl)) pgs_nil))))))
        (pss_cons (ps_set (i := 7) sc_wayround.nd rfl (.inl rfl) (pe_lst (pa_cons (pv 4) pa_nil)))
        (pss_cons (ps_while PassesOwn.never (pt_cmpR (r := rIn K true) op_notIn_seq (pv 5) (pv 7) (by rfl)) (pss_cons (ps_expr (pe_bm PySem.F.plainAttrs_list PySem.F.slot_list_append PySem.F.type_list_append mt_append (pv 3) (pa_cons (pe_dget hu (pv 1) (pv 5) (fun _ _ => rfl)) pa_nil)))
          (pss_cons (ps_expr (pe_bm PySem.F.plainAttrs_list PySem.F.slot_list_append PySem.F.type_list_append mt_append (pv 7) (pa_cons (pv 5) pa_nil)))
          (pss_one (ps_asg (pe_ix (r := rIxT K) ix_tup (pv 0) (pe_dget hu (pv 1) (pv 5) (fun _ _ => rfl)) (fun _ _ => rfl)) (pg_tup rfl (pgs_cons (pg_name (i := 6) sc_wayround.nd rfl (.inl rfl)) (pgs_cons (pg_name (i := 5) sc_wayround.nd rfl (.inl rfl)) (pgs_cons (pg_name (i := 6) sc_wayround.nd rfl (.inl rfl)) (pgs_cons (pg_name (i := 6) sc_wayround.nd rfl (.inl rfl)) pgs_nil))))))))))
        (pss_one (ps_ret (pe_slice sl_list (pv 3) (po_some (pe_bm PySem.F.plainAttrs_list PySem.F.slot_list_index PySem.F.type_list_index (r := rIndex K) mt_index (pv 7) (pa_cons (pv 5) pa_nil))) po_none)))))), ?_⟩
    refine sq_new (.lst (numV [n])) (fun Q k => ⟨_, rfl, by show 1 ≤ sizeLine; decide, fun p np => k p _ np (Same.new np) upd_same⟩) (fun wy H1 nwy s1 hwy => ?_)
    obtain ⟨t, hat, htq⟩ := (A.same s1).get (hlt n hn)
    refine ⟨_, rfl, _, rfl, cl, _, _, _, rfl, rfl, (A.same s1).t, hat, t, _, rfl, htq, rfl, _, _, rfl, _, _, rfl, _, _, rfl, _, _, rfl, rfl, ?_⟩
    dsimp only
    refine sq_new (.lst ((dsOf B [n]).map V.int)) (fun Q k => ⟨_, rfl, by show 1 ≤ sizeLine; decide, fun p np => k p _ np (Same.new np) upd_same⟩) (fun pa H2 npa s2 hpa => ?_)
    have ne : wy ≠ pa := ne_of_none hwy npa
    have npa0 := s1.free npa
    refine sq_while (fun m σ' H' => ∃ way hh f, Same H H' ∧ H' wy = some (.lst (numV way)) ∧ H' pa = some (.lst ((dsOf B way).map V.int)) ∧ WayOk B ns way hh ∧ B.cash.length < way.length + f ∧ wayGo B ns f way hh = wayGo B ns (B.cash.length + 1) [n] (B.clm n).c ∧ m = 9 - way.length ∧
        ∃ y4 y6, σ' = [some (.ref cl), some (.ref d), some (.int (n : Int)), some (.ref wy), y4, some (.int hh), y6, some (.ref pa)])
      _ ⟨[n], (B.clm n).c, B.cash.length + 1, s1.trans s2, s2 _ _ hwy, hpa, way_start hn, by show _ < 1 + _; omega, rfl, rfl, _, _, rfl⟩ (fun m σ' H' hW => ?_)
    obtain ⟨way, hh, f, s3, hwy3, hpa3, W, hf, hgo, hm, y4, y6, rfl⟩ := hW
    have hws := way_short G hlt W
    have hwp := List.length_pos_iff.mpr W.ne
    obtain ⟨f', rfl⟩ : ∃ f', f = f' + 1 := ⟨f - 1, by omega⟩
    have hdl : ((dsOf B way).map V.int).length = way.length := by rw [List.length_map, dsOf_len]
    refine ⟨fun bb H1 => H1 = H' ∧ bb = decide (hh ∉ dsOf B way), fun Q k => ⟨_, rfl, _, rfl, pa, _, rfl, .inl (sq_of hpa3), rfl, flat_ints _, _, rfl, k _ _ ⟨rfl, ?_⟩⟩, fun H1 h1 => ?_, fun H1 h1 => ?_⟩
    · rw [if_pos rfl, inV_ints]
      exact (decide_not ..).symm
    · obtain ⟨rfl, hb⟩ := h1
      have hni : hh ∉ dsOf B way := of_decide_eq_true hb.symm
      obtain ⟨k', hk', hkn, hkd, W2⟩ := way_step hcl W hni
      have hkl := hlt k' hkn
      have hd3 := s3 _ _ hd
      have hval : valV kvs (.inl hh) = some (.int (k' : Int)) := by rw [O hh, hk']; rfl
      have hget : ∀ {Hx : Hp}, Hx d = some (.dK kvs) → DGet Hx d (.int hh) (some (.int (k' : Int))) := fun {Hx} h => by
        have q := DGet.k (k := Sum.inl hh) h
        rw [hval] at q
        exact q
      refine ⟨_, rfl, .inl ⟨rfl, _, sq_of hwy3⟩, _, rfl, _, rfl, d, _, rfl, hget hd3, wy, _, _, rfl, rfl, hwy3, by rw [numV_len]; exact sz_lt (by omega), ?_⟩
      have hpa4 : (upd H1 wy (.lst (numV way ++ [.int (k' : Int)]))) pa = some (.lst ((dsOf B way).map V.int)) := by rw [upd_ne ne.symm]; exact hpa3
      refine ⟨_, rfl, .inl ⟨rfl, _, sq_of hpa4⟩, _, rfl, pa, _, _, rfl, rfl, hpa4, by rw [hdl]; exact sz_lt (by omega), ?_⟩
      have s5 : Same H (upd (upd H1 wy (.lst (numV way ++ [.int (k' : Int)]))) pa (.lst ((dsOf B way).map V.int ++ [.int hh]))) := Same.mut (Same.mut s3 nwy) npa0
      have hwy5 : (upd (upd H1 wy (.lst (numV way ++ [.int (k' : Int)]))) pa (.lst ((dsOf B way).map V.int ++ [.int hh]))) wy = some (.lst (numV (way ++ [k']))) := by rw [upd_ne ne, upd_same, numV_app]
      have hpa5 : (upd (upd H1 wy (.lst (numV way ++ [.int (k' : Int)]))) pa (.lst ((dsOf B way).map V.int ++ [.int hh]))) pa = some (.lst ((dsOf B (way ++ [k'])).map V.int)) := by
        rw [upd_same]
        unfold dsOf
        rw [List.map_append, List.map_append, ← hkd]
        rfl
      generalize upd (upd H1 wy (.lst (numV way ++ [.int (k' : Int)]))) pa (.lst ((dsOf B way).map V.int ++ [.int hh])) = H5 at s5 hwy5 hpa5 ⊢
      obtain ⟨t, hat, htq⟩ := (A.same s5).get hkl
      refine ⟨_, rfl, _, rfl, _, rfl, d, _, rfl, hget (s5 _ _ hd), cl, _, _, _, rfl, rfl, (A.same s5).t, hat, t, _, rfl, htq, rfl, _, _, rfl, _, _, rfl, _, _, rfl, _, _, rfl, rfl, ?_⟩
      have hlen : (way ++ [k']).length = way.length + 1 := List.length_append
      refine ⟨9 - (way ++ [k']).length, by omega, way ++ [k'], (B.clm k').c, f', s5, hwy5, hpa5, W2, by omega, ?_, rfl, _, _, rfl⟩
      rw [← hgo]
      conv => rhs; unfold wayGo
      rw [if_neg hni, hk']
      rfl
    · obtain ⟨rfl, hb⟩ := h1
      have hin : hh ∈ dsOf B way := Decidable.byContradiction fun z => by rw [decide_eq_true z] at hb; cases hb
      have hi : (dsOf B way).idxOf hh < (dsOf B way).length := List.idxOf_lt_length_of_mem hin
      have hge : (dsOf B way)[(dsOf B way).idxOf hh] = hh := List.getElem_idxOf hi
      have hmap : ((dsOf B way).map V.int)[(dsOf B way).idxOf hh]? = some (.int hh) := by
        rw [List.getElem?_map, List.getElem?_eq_getElem hi, hge]
        rfl
      refine ⟨_, rfl, ⟨_, rfl, .inl ⟨rfl, _, sq_of hpa3⟩, _, rfl, pa, _, .int hh, (dsOf B way).idxOf hh, .int hh, rfl, rfl, sq_of hpa3, rfl, flat_ints _, hmap, beq_self_eq_true hh, fun m z hm hz => ?_, _, rfl, wy, _, rfl, sq_of hwy3, fun q nq => ?_⟩⟩
      · obtain ⟨rfl, hm2⟩ := map_int_get hz
        have q := idx_first hm
        rw [g_get hm2] at q
        exact beq_eq_false_iff_ne.mpr fun z => q (congrArg some z)
      · refine k q _ (s3.free nq) (s3.trans (Same.new nq)) ?_
        rw [upd_same, ← hgo]
        conv => rhs; unfold wayGo
        rw [if_pos hin, cut_drop (by rw [dsOf_len] at hi; exact hi)]
theorem sc_ringin : FnScope ["claims", "payments", "numbers", "onward", "kept", "number", "coins"] ["claims", "payments"] (defScope s_ringin) := ⟨rfl, rfl, rfl, by decide +kernel, rfl, by decide +kernel, by decide +kernel⟩
/- 0:claims 1:payments 2:numbers 3:onward 4:kept 5:number 6:coins -/
theorem ok_ringin {f : Addr} {fd : FuncData} (D : DefAt K mg "_ring_in" s_ringin ["claims", "payments"] f fd) (m_enumerate : mg "enumerate" = none)
    {f1 : Addr} {fd1 : FuncData} (D_wayround : DefAt K mg "_way_round" s_wayround ["claims", "onward", "start"] f1 fd1) : FnOk P w K mg base CX0 2 f fd ["claims", "payments"] (spRingIn K) := by
  have G_wayround : FnOk P w K mg base CX0 1 f1 fd1 ["claims", "onward", "start"] (spWayRound K) := ok_wayround D_wayround
  refine D.F.ok sc_ringin (fun vs H Q E h => ?_) (fun cdv A outer s H vs Q E hr h => ?_)
  · obtain ⟨cl, p, ts, B, P, rfl, _⟩ := h
    rfl
  · obtain ⟨cl, p, ts, B, P, rfl, A, G, hp, hl, k⟩ := h
    have hu := hu_of hr
    have m1 := G.m1
    have lp : (P.map V.int).length = P.length := List.length_map _
    refine ⟨_, pss_cons (ps_setLc (i := 2) (own := [("number", 5), ("coins", 6)]) (g := (gTup K 2 (gCons (gName 5) (gCons (gName 6) gNil)))) (by rfl) sc_ringin.nd rfl rfl (sw_true rfl rfl rfl (by decide +kernel)) (pi_enum (by rfl) m_enumerate (pa_cons (pv 1) pa_nil)) (blkOk_by (own := [("number", 5), ("coins", 6)]) (N := ["claims", "payments", "numbers", "onward", "kept", "number", "coins"]) (sc := defScope s_ringin) (by decide +kernel)) (fun _ _ _ _ _ => (pg_tup rfl (pgs_cons (pg_name (i := 5) sc_ringin.nd rfl (.inl rfl)) (pgs_cons (pg_name (i := 6) sc_ringin.nd rfl (.inl rfl)) pgs_nil)))) (fun _ _ _ _ _ => (pts_one (pt_cmpR op_gt (pv 6) pe_int (nomark _)))) (fun _ _ _ _ _ => (pv 5)))
        (pss_cons (ps_while PassesOwn.never (pt_truth (pv 2) (fun _ => rfl)) (pss_cons (ps_set (i := 3) sc_ringin.nd rfl (.inr rfl) (pe_dc (own := [("number", 5)]) (g := gName 5) (tt := tYes) (by rfl) sc_ringin.nd (pi_list (pv 2)) (blkOk_by (own := [("number", 5)]) (N := ["claims", "payments", "numbers", "onward", "kept", "number", "coins"]) (sc := defScope s_ringin) (by decide +kernel)) (fun _ _ _ _ _ => (pg_name (i := 5) sc_ringin.nd rfl (.inl rfl))) (fun _ _ _ _ _ => pts_nil) (fun _ _ _ _ _ => (pe_ix (r := rIxT K) ix_tup (pe_ix (r := rIxT K) ix_tup (pv 0) (pv 5) (fun _ _ => rfl)) pe_int (fun _ _ => rfl))) (fun _ _ _ _ _ => (pv 5))))
          (pss_cons (ps_setLc (i := 4) (own := [("number", 5)]) (g := gName 5) (by rfl) sc_ringin.nd rfl rfl (sw_true rfl rfl rfl (by decide +kernel)) (pi_list (pv 2)) (blkOk_by (own := [("number", 5)]) (N := ["claims", "payments", "numbers", "onward", "kept", "number", "coins"]) (sc := defScope s_ringin) (by decide +kernel)) (fun _ _ _ _ _ => (pg_name (i := 5) sc_ringin.nd rfl (.inl rfl))) (fun _ _ _ _ _ => (pts_one (pt_cmp (pc_din hu (pe_ix (r := rIxT K) ix_tup (pe_ix (r := rIxT K) ix_tup (pv 0) (pv 5) (fun _ _ => rfl)) pe_int (fun _ _ => rfl)) (pv 3))))) (fun _ _ _ _ _ => (pv 5)))
          (pss_cons (ps_if (pt_cmpR (op_eqD hr.units) (pv 4) (pv 2) (nomark _)) (pss_one (ps_ret (pe_call G_wayround (hr.mono (by decide)) (by rfl) D_wayround.g D_wayround.F.kp D_wayround.b .nil pass0 (pa_cons (pv 0) (pa_cons (pv 3) (pa_cons (pe_ix (r := rIxL K) ix_list (pv 2) pe_int (fun _ _ => rfl)) pa_nil)))))) pss_nil)
          (pss_one (ps_set (i := 2) sc_ringin.nd rfl (.inl rfl) (pv 4)))))))
        (pss_one (ps_ret (pe_lst pa_nil)))), ?_⟩
    -- the numbers
    refine ⟨_, rfl, p, _, rfl, hp, fun c nc => ?_⟩
    refine lc_it (walk_enum (K := K) (a := p) (xs := P.map V.int))
      (fun i H' => Same H H' ∧ H' c = some (.lst (numV (numsUp P i)))) ⟨Same.new nc, by rw [upd_same]; rfl⟩ (fun i H' _ hP => hP.1.seq hp) (fun i z Ha Hb hi hP hY => ?_) (fun H' hP => ?_)
    · obtain ⟨s1, hc⟩ := hP
      obtain ⟨T, z1, z2, rfl, hT, rfl, hz1, hz2⟩ := hY
      have ez1 := (Option.some.inj hz1).symm
      subst ez1
      obtain ⟨rfl, hi2⟩ := map_int_get hz2
      have s2 : Same Ha (upd Ha T (.tup [.int (i : Int), .int (g P i)])) := Same.new hT
      have hc2 := s2 _ _ hc
      have hT2 : (upd Ha T (.tup [.int (i : Int), .int (g P i)])) T = some (.tup [.int (i : Int), .int (g P i)]) := upd_same
      have s12 := s1.trans s2
      generalize upd Ha T (.tup [.int (i : Int), .int (g P i)]) = H8 at s2 hc2 hT2 s12 ⊢
      refine ⟨T, _, rfl, st_of hT2, rfl, _, _, rfl, _, _, rfl, rfl, rfl, _, rfl, _, _, rfl, rfl, _, rfl, ?_⟩
      have su := numsUp_succ P i
      by_cases e : 0 < g P i
      · rw [if_pos e] at su
        rw [decide_eq_true (show g P i > 0 from e)]
        refine iteT ⟨_, rfl, _, hc2, ?_, Same.mut s12 nc, ?_⟩
        · rw [numV_len]
          have := numsUp_len P i
          exact sz_lt (by omega)
        · rw [upd_same, su, numV_app]
      · rw [if_neg e, List.append_nil] at su
        rw [decide_eq_false (show ¬ g P i > 0 from e)]
        exact iteF ⟨s12, by rw [su]; exact hc2⟩
    · obtain ⟨s1, hc⟩ := hP
      have e0 : numsUp P (P.map V.int).length = numbersOf P := by rw [lp]; rfl
      rw [e0] at hc
      dsimp only
      refine sq_while (fun m σ' H' => ∃ ns nl f, Same H H' ∧ H nl = none ∧ H' nl = some (.lst (numV ns)) ∧ (∀ k ∈ ns, k < B.claims.length) ∧ ns.length < f ∧ ns.length ≤ 24 ∧ ringIn B f ns = ringIn B (P.length + 1) (numbersOf P) ∧ m = ns.length ∧
          ∃ y3 y4 y5 y6, σ' = [some (.ref cl), some (.ref p), some (.ref nl), y3, y4, y5, y6])
        _ ⟨numbersOf P, c, P.length + 1, s1, nc, hc, fun k hk => by rw [← hl]; exact (mem_numbers.mp hk).1, ?_, ?_, rfl, rfl, _, _, _, _, rfl⟩ (fun m σ' H' hW => ?_)
      · have := numbers_len P
        omega
      · have := numbers_len P
        omega
      · obtain ⟨ns, nl, f, s3, nnl, hnl, hlt, hf, h24, hgo, rfl, y3, y4, y5, y6, rfl⟩ := hW
        obtain ⟨f', rfl⟩ : ∃ f', f = f' + 1 := ⟨f - 1, by omega⟩
        refine ⟨fun bb H1 => H1 = H' ∧ bb = !ns.isEmpty, fun Q k => ⟨_, rfl, _, .inl ⟨_, sq_of hnl, rfl⟩, k _ _ ⟨rfl, ?_⟩⟩, fun H1 h1 => ?_, fun H1 h1 => ?_⟩
        · cases ns <;> rfl
        · obtain ⟨rfl, hb⟩ := h1
          obtain ⟨n, ns', rfl⟩ : ∃ n l, ns = n :: l := by
            cases ns with
            | nil => exact absurd hb (by decide)
            | cons n l => exact ⟨n, l, rfl⟩
          -- the dict
          refine sq_set (fun v H2 => ∃ d kvs, v = .ref d ∧ Same H1 H2 ∧ H2 d = some (.dK kvs) ∧ OnwD B (n :: ns') kvs) (fun Q k => ⟨_, rfl, nl, rfl, ⟨_, sq_of hnl⟩, fun d nd => ?_⟩) (fun v H2 hv => ?_)
          · refine dc_it (walk_list (K := K) (a := nl) (xs := numV (n :: ns')))
              (fun i H' => Same H1 H' ∧ ∃ kvs, H' d = some (.dK kvs) ∧ kvs.length ≤ i ∧ OnwD B ((n :: ns').take i) kvs) ⟨Same.new nd, [], by rw [upd_same], Nat.le_refl _, fun x => rfl⟩ (fun i H' _ hP => sq_of (hP.1 _ _ hnl)) (fun i z Ha Hb hi hP hY => ?_) (fun H' hP => ?_)
            · obtain ⟨s4, kvs, hd, hkl, O⟩ := hP
              obtain ⟨rfl, hz⟩ := hY
              obtain ⟨k', hk', rfl⟩ := numV_get hz
              have hkn : k' < B.claims.length := hlt k' (List.mem_of_getElem? hk')
              obtain ⟨t, hat, htq⟩ := (A.same (s3.trans s4)).get hkn
              rw [numV_len] at hi
              refine ⟨rfl, _, rfl, _, rfl, cl, _, _, _, rfl, rfl, (A.same (s3.trans s4)).t, hat, t, _, 0, _, rfl, rfl, htq, atI_nat (j := 0) rfl, _, rfl, kvs, Sum.inl (B.clm k').d, rfl, hd, sz_lt (by omega), Same.mut s4 nd, _, upd_same, ?_, ?_⟩
              · have := length_putK kvs (Sum.inl (B.clm k').d) (.int (k' : Int))
                omega
              · rw [List.take_add_one, hk']
                exact O.put k'
            · obtain ⟨s4, kvs, hd, hkl, O⟩ := hP
              rw [numV_len, List.take_length] at O
              exact k _ _ ⟨d, kvs, rfl, s4, hd, O⟩
          · obtain ⟨d, kvs, rfl, s4, hd, O⟩ := hv
            have hnl4 := s4 _ _ hnl
            have A4 := A.same (s3.trans s4)
            -- kept
            refine ⟨_, rfl, nl, rfl, ⟨_, sq_of hnl4⟩, fun e ne => ?_⟩
            refine lc_it (walk_list (K := K) (a := nl) (xs := numV (n :: ns')))
              (fun i H' => Same H2 H' ∧ H' e = some (.lst (numV (((n :: ns').take i).filter fun k => (onw B (n :: ns') (B.clm k).c).isSome)))) ⟨Same.new ne, by rw [upd_same]; rfl⟩ (fun i H' _ hP => sq_of (hP.1 _ _ hnl4)) (fun i z Ha Hb hi hP hY => ?_) (fun H' hP => ?_)
            · obtain ⟨s5, he⟩ := hP
              obtain ⟨rfl, hz⟩ := hY
              obtain ⟨k', hk', rfl⟩ := numV_get hz
              have hkn : k' < B.claims.length := hlt k' (List.mem_of_getElem? hk')
              obtain ⟨t, hat, htq⟩ := (A4.same s5).get hkn
              rw [numV_len] at hi
              refine ⟨rfl, _, rfl, _, rfl, cl, _, _, _, rfl, rfl, (A4.same s5).t, hat, t, _, 1, _, rfl, rfl, htq, atI_nat (j := 1) rfl, _, rfl, d, _, rfl, DGet.k (k := Sum.inl (B.clm k').c) (s5 _ _ hd), _, rfl, ?_⟩
              rw [O (B.clm k').c]
              have tk : ((n :: ns').take (i + 1)).filter (fun k => (onw B (n :: ns') (B.clm k).c).isSome) = ((n :: ns').take i).filter (fun k => (onw B (n :: ns') (B.clm k).c).isSome) ++ (if (onw B (n :: ns') (B.clm k').c).isSome then [k'] else []) := by
                rw [List.take_add_one, hk', List.filter_append]
                congr 1
                show List.filter _ [k'] = _
                rw [List.filter_cons, List.filter_nil]
              cases eo : onw B (n :: ns') (B.clm k').c with
              | some j =>
                rw [eo] at tk
                refine iteT ⟨_, rfl, _, he, ?_, Same.mut s5 ne, ?_⟩
                · rw [numV_len]
                  have := List.length_filter_le (fun k => (onw B (n :: ns') (B.clm k).c).isSome) ((n :: ns').take i)
                  rw [List.length_take] at this
                  exact sz_lt (by omega)
                · rw [upd_same, tk, ← numV_app]
                  rfl
              | none =>
                rw [eo] at tk
                refine iteF ⟨s5, ?_⟩
                rw [tk, he]
                show _ = some (HO.lst (numV (_ ++ [])))
                rw [List.append_nil]
            · obtain ⟨s5, he⟩ := hP
              rw [numV_len, List.take_length] at he
              have he : H' e = some (.lst (numV (keptOf B (n :: ns')))) := he
              have hnl5 := s5 _ _ hnl4
              have s35 := s3.trans (s4.trans s5)
              have A5 := A.same s35
              dsimp only
              refine sq_ifP (p := keptOf B (n :: ns') = n :: ns') (fun Q k => ?_) (fun hk => ?_) (fun hk => ?_)
              · refine ⟨_, rfl, _, rfl, dInts _, dInts _, dp_ints (l := (keptOf B (n :: ns')).map fun k : Nat => (k : Int)) (by rw [← numV_ints]; exact sq_of he), dp_ints (l := (n :: ns').map fun k : Nat => (k : Int)) (by rw [← numV_ints]; exact sq_of hnl5), sh_ints, sh_ints, _, rfl, ?_⟩
                rw [eqv_ints, decide_eq_decide.mpr nums_inj]
                exact k
              · refine ⟨_, rfl, _, rfl, _, rfl, nl, _, 0, _, rfl, rfl, sq_of hnl5, atI_nat (j := 0) rfl, cl, d, ts, B, n :: ns', n, kvs, rfl, A5, G, s5 _ _ hd, O, hlt, hk, List.mem_cons_self, fun q H6 nq s6 hq => ?_⟩
                refine k q H6 (s35.free nq) (s35.trans s6) ?_
                rw [hq, ← hgo]
                conv => rhs; unfold ringIn
                rw [if_pos hk]
              · have hlt2 := kept_lt hk
                refine ⟨_, rfl, (keptOf B (n :: ns')).length, hlt2, keptOf B (n :: ns'), e, f', s35, (s3.trans s4).free ne, he, fun k hk => hlt k (kept_sub hk), by omega, by omega, ?_, rfl, _, _, _, _, rfl⟩
                rw [← hgo]
                conv => rhs; unfold ringIn
                rw [if_neg hk]
        · obtain ⟨rfl, hb⟩ := h1
          have hn : ns = [] := by
            cases ns with
            | nil => rfl
            | cons _ _ => exact absurd hb (by simp)
          subst hn
          refine ⟨Nat.zero_le _, fun q nq => k q _ (s3.free nq) (s3.trans (Same.new nq)) ?_⟩
          rw [upd_same, ← hgo]
          rfl
end


end Rf
namespace Rf
open PySem PySem.Spec PyProof.Rows L2
/-! ### the program's order: what is paid in turn, and the rings -/
def spPaidTurn (K : PySem.W.Frag) : Sp := fun vs H Q _ => ∃ (ca cl p : Addr) (ts : List Addr) (B : Bk) (P : List Int), vs = [.ref ca, .ref cl, .ref p] ∧ SqT K H ca (B.cash.map V.int) ∧ ClAt K H cl ts B ∧ Good B ∧ SqL K H p (P.map V.int) ∧ P.length = B.claims.length ∧ (∀ k, k < B.claims.length → 0 ≤ g P k) ∧ (∀ x, x < B.cash.length → 0 ≤ g (leftOf B P) x) ∧ ringIn B (P.length + 1) (numbersOf P) = [] ∧
  ∀ q us H', H q = none → Same H H' → H' q = some (.lst (us.map V.ref)) → MvsAt H' us ((paysOf B P).map (payMv P)) → Q (.ref q) H'
def spOrder (K : PySem.W.Frag) : Sp := fun vs H Q _ => ∃ (b ca cl : Addr) (ts : List Addr) (B : Bk), vs = [.ref b] ∧ BookAt K H b ca cl ts B ∧ Good B ∧
  ∀ q us H', H q = none → Same H H' → H' q = some (.lst (us.map V.ref)) → MvsAt H' us (orderOf B) → Q (.ref q) H'
section
variable {P : Program} {w : World} {K : PySem.W.Frag} {mg : Str → Option Value} {base : Heap}
theorem sc_paidturn : FnScope ["cash", "claims", "payments", "held", "moves", "number", "coins", "waiting", "later", "debtor", "creditor", "_"] ["cash", "claims", "payments"] (defScope s_paidturn) := ⟨rfl, rfl, rfl, by decide +kernel, rfl, by decide +kernel, by decide +kernel⟩
/- 0:cash 1:claims 2:payments 3:held 4:moves 5:number 6:coins 7:waiting 8:later 9:debtor 10:creditor 11:_ -/
theorem ok_paidturn {f : Addr} {fd : FuncData} (D : DefAt K mg "_paid_in_turn" s_paidturn ["cash", "claims", "payments"] f fd) (m_enumerate : mg "enumerate" = none) (m_list : mg "list" = none) : FnOk P w K mg base CX0 1 f fd ["cash", "claims", "payments"] (spPaidTurn K) := by
  refine D.F.ok sc_paidturn (fun vs H Q E h => ?_) (fun cdv A outer s H vs Q E hr h => ?_)
  · obtain ⟨ca, cl, p, ts, B, P, rfl, _⟩ := h
    rfl
  · obtain ⟨ca, cl, p, ts, B, P, rfl, hca, A, G, hp, hl, h0, hleft, hring, k⟩ := h
    have m1 := G.m1
    have lp : (P.map V.int).length = P.length := List.length_map _
    refine ⟨_, pss_cons (ps_set (i := 3) sc_paidturn.nd rfl (.inl rfl) (pe_callTy (r := rListOf K) call_listOf (by rfl) m_list (by decide +kernel) (pa_cons (pv 0) pa_nil)))
        (pss_cons (ps_set (i := 4) sc_paidturn.nd rfl (.inl rfl) (pe_lst pa_nil))
        (pss_cons (ps_setLc (i := 7) (own := [("number", 5), ("coins", 6)]) (g := (gTup K 2 (gCons (gName 5) (gCons (gName 6) gNil)))) (by rfl) sc_paidturn.nd rfl rfl (sw_true rfl rfl rfl (by decide +kernel)) (pi_enum (by rfl) m_enumerate (pa_cons (pv 2) pa_nil)) (blkOk_by (own := [("number", 5), ("coins", 6)]) (N := ["cash", "claims", "payments", "held", "moves", "number", "coins", "waiting", "later", "debtor", "creditor", "_"]) (sc := defScope s_paidturn) (by decide +kernel)) (fun _ _ _ _ _ => (pg_tup rfl (pgs_cons (pg_name (i := 5) sc_paidturn.nd rfl (.inl rfl)) (pgs_cons (pg_name (i := 6) sc_paidturn.nd rfl (.inl rfl)) pgs_nil)))) (fun _ _ _ _ _ => (pts_one (pt_cmpR op_gt (pv 6) pe_int (nomark _)))) (fun _ _ _ _ _ => (pv 5)))
        (pss_cons (ps_while PassesOwn.never (pt_truth (pv 7) (fun _ => rfl)) (pss_cons (ps_set (i := 8) sc_paidturn.nd rfl (.inl rfl) (pe_lst pa_nil))
          (pss_cons (ps_for PassesOwn.never rfl (pi_list (pv 7)) (pg_name (i := 5) sc_paidturn.nd rfl (.inl rfl)) (pss_cons (ps_asg (pe_ix (r := rIxT K) ix_tup (pv 1) (pv 5) (fun _ _ => rfl)) (pg_tup rfl (pgs_cons (pg_name (i := 9) sc_paidturn.nd rfl (.inl rfl)) (pgs_cons (pg_name (i := 10) sc_paidturn.nd rfl (.inl rfl)) (pgs_cons (pg_name (i := 11) sc_paidturn.nd rfl (.inl rfl)) (pgs_cons (pg_name (i := 11) sc_paidturn.nd rfl (.inl rfl)) pgs_nil))))))
            (pss_cons (ps_set (i := 6) sc_paidturn.nd rfl (.inl rfl) (pe_ix (r := rIxL K) ix_list (pv 2) (pv 5) (fun _ _ => rfl)))
            (pss_one (ps_if (pt_cmpR op_le (pv 6) (pe_ix (r := rIxL K) ix_list (pv 3) (pv 9) (fun _ _ => rfl)) (nomark _)) (pss_cons (ps_augS (pv 3) (pv 9) get_list (pv 6) ip_sub set_list)
              (pss_cons (ps_augS (pv 3) (pv 10) get_list (pv 6) ip_add set_list)
              (pss_one (ps_expr (pe_bm PySem.F.plainAttrs_list PySem.F.slot_list_append PySem.F.type_list_append mt_append (pv 4) (pa_cons (pe_tup (pa_cons pe_str (pa_cons (pv 5) (pa_cons (pv 6) pa_nil)))) pa_nil)))))) (pss_one (ps_expr (pe_bm PySem.F.plainAttrs_list PySem.F.slot_list_append PySem.F.type_list_append mt_append (pv 8) (pa_cons (pv 5) pa_nil)))))))))
          (pss_one (ps_set (i := 7) sc_paidturn.nd rfl (.inl rfl) (pv 8))))))
        (pss_one (ps_ret (pv 4)))))), ?_⟩
    refine sq_new (.lst ((leftOf B (onlyP P [])).map V.int)) (fun Q k => ⟨_, rfl, ca, _, rfl, .inr hca, fun l nl => k l _ nl (Same.new nl) (by rw [upd_same, only_nil hl, left_none])⟩) (fun he H1 nhe s1 hhe => ?_)
    refine sq_new (.lst []) (fun Q k => ⟨Nat.zero_le _, fun l nl => k l _ nl (Same.new nl) upd_same⟩) (fun mo H2 nmo' s2 hmo => ?_)
    have nmo := s1.free nmo'
    have ne1 : he ≠ mo := ne_of_none hhe nmo'
    have s02 := s1.trans s2
    have hhe2 := s2 _ _ hhe
    refine ⟨_, rfl, p, _, rfl, s02.seq hp, fun c nc => ?_⟩
    refine lc_it (walk_enum (K := K) (a := p) (xs := P.map V.int))
      (fun i H' => Same H2 H' ∧ H' c = some (.lst (numV (numsUp P i)))) ⟨Same.new nc, by rw [upd_same]; rfl⟩ (fun i H' _ hP => (s02.trans hP.1).seq hp) (fun i z Ha Hb hi hP hY => ?_) (fun H3 hP => ?_)
    · obtain ⟨s3, hc⟩ := hP
      obtain ⟨T, z1, z2, rfl, hT, rfl, hz1, hz2⟩ := hY
      have ez1 := (Option.some.inj hz1).symm
      subst ez1
      obtain ⟨rfl, hi2⟩ := map_int_get hz2
      have s4 : Same Ha (upd Ha T (.tup [.int (i : Int), .int (g P i)])) := Same.new hT
      have hc2 := s4 _ _ hc
      have hT2 : (upd Ha T (.tup [.int (i : Int), .int (g P i)])) T = some (.tup [.int (i : Int), .int (g P i)]) := upd_same
      have s12 := s3.trans s4
      generalize upd Ha T (.tup [.int (i : Int), .int (g P i)]) = H8 at s4 hc2 hT2 s12 ⊢
      refine ⟨T, _, rfl, st_of hT2, rfl, _, _, rfl, _, _, rfl, rfl, rfl, _, rfl, _, _, rfl, rfl, _, rfl, ?_⟩
      have su := numsUp_succ P i
      by_cases e : 0 < g P i
      · rw [if_pos e] at su
        rw [decide_eq_true (show g P i > 0 from e)]
        refine iteT ⟨_, rfl, _, hc2, ?_, Same.mut s12 nc, ?_⟩
        · rw [numV_len]
          have := numsUp_len P i
          exact sz_lt (by omega)
        · rw [upd_same, su, numV_app]
      · rw [if_neg e, List.append_nil] at su
        rw [decide_eq_false (show ¬ g P i > 0 from e)]
        exact iteF ⟨s12, by rw [su]; exact hc2⟩
    · obtain ⟨s3, hc⟩ := hP
      have e0 : numsUp P (P.map V.int).length = numbersOf P := by rw [lp]; rfl
      rw [e0] at hc
      have nl := numbers_len P
      dsimp only
      refine sq_while (fun m σ' H' => ∃ ws done wt us f, Same H H' ∧ H wt = none ∧ wt ≠ he ∧ wt ≠ mo ∧ H' he = some (.lst ((leftOf B (onlyP P done)).map V.int)) ∧ H' mo = some (.lst (us.map V.ref)) ∧ MvsAt H' us (done.map (payMv P)) ∧ H' wt = some (.lst (numV ws)) ∧ PayOk B P done ∧ (done ++ ws).Perm (numbersOf P) ∧ ws.length < f ∧ payGo B P f ws done = paysOf B P ∧ m = ws.length ∧
          ∃ y5 y6 y8 y9 y10 y11, σ' = [some (.ref ca), some (.ref cl), some (.ref p), some (.ref he), some (.ref mo), y5, y6, some (.ref wt), y8, y9, y10, y11])
        _ ⟨numbersOf P, [], c, [], P.length + 1, s02.trans s3, s02.free nc, (ne_of_none hhe2 nc).symm, (ne_of_none hmo nc).symm, s3 _ _ hhe2, s3 _ _ hmo, MvsAt.nil _, hc, .nil, List.Perm.refl _, by omega, rfl, rfl, _, _, _, _, _, _, rfl⟩ (fun m σ' H' hW => ?_)
      obtain ⟨ws, done, wt, us, f, s4, nwt, nw1, nw2, hhe4, hmo4, hus4, hwt4, PO, hpm, hf, hgo, rfl, y5, y6, y8, y9, y10, y11, rfl⟩ := hW
      obtain ⟨f', rfl⟩ : ∃ f', f = f' + 1 := ⟨f - 1, by omega⟩
      refine ⟨fun bb H1 => H1 = H' ∧ bb = !ws.isEmpty, fun Q k => ⟨_, rfl, _, .inl ⟨_, sq_of hwt4, rfl⟩, k _ _ ⟨rfl, ?_⟩⟩, fun H1 h1 => ?_, fun H1 h1 => ?_⟩
      · cases ws <;> rfl
      · obtain ⟨rfl, hb⟩ := h1
        have hne : ws ≠ [] := fun z => by rw [z] at hb; exact absurd hb (by decide)
        have hwl : done.length + ws.length ≤ 24 := by
          have := hpm.length_eq
          rw [List.length_append] at this
          omega
        refine sq_new (.lst []) (fun Q k => ⟨Nat.zero_le _, fun l nl => k l _ nl (Same.new nl) upd_same⟩) (fun la H5 nla s5 hla => ?_)
        have nl1 : la ≠ he := (ne_of_none hhe4 nla).symm
        have nl2 : la ≠ mo := (ne_of_none hmo4 nla).symm
        have nl3 : la ≠ wt := (ne_of_none hwt4 nla).symm
        have nla0 := s4.free nla
        refine sq_forL (a := wt) (xs := numV ws) (fun Q k => ⟨_, rfl, k⟩) (sq_of (s5 _ _ hwt4))
          (fun i σ' H' => ∃ us, Same H H' ∧ H' he = some (.lst ((leftOf B (onlyP P ((ws.take i).foldl (payOne B P) (done, [])).1)).map V.int)) ∧ H' mo = some (.lst (us.map V.ref)) ∧ MvsAt H' us (((ws.take i).foldl (payOne B P) (done, [])).1.map (payMv P)) ∧ H' wt = some (.lst (numV ws)) ∧ H' la = some (.lst (numV ((ws.take i).foldl (payOne B P) (done, [])).2)) ∧
            (((ws.take i).foldl (payOne B P) (done, [])).1 ++ ((ws.take i).foldl (payOne B P) (done, [])).2 ++ ws.drop i).Perm (numbersOf P) ∧
            ∃ y5 y6 y9 y10 y11, σ' = [some (.ref ca), some (.ref cl), some (.ref p), some (.ref he), some (.ref mo), y5, y6, some (.ref wt), some (.ref la), y9, y10, y11])
          ⟨us, s4.trans s5, s5 _ _ hhe4, s5 _ _ hmo4, hus4.same s5, s5 _ _ hwt4, hla, by show (done ++ [] ++ ws).Perm _; rw [List.append_nil]; exact hpm, _, _, _, _, _, rfl⟩ (fun i σ' H' _ hP => by obtain ⟨_, _, _, _, _, h, _⟩ := hP; exact sq_of h) (fun i z σ' H6 hz hP => ?_) (fun σ' H6 hP => ?_)
        · obtain ⟨us6, s6, hhe6, hmo6, hus6, hwt6, hla6, hpm6, y5, y6, y9, y10, y11, rfl⟩ := hP
          obtain ⟨k', hk', rfl⟩ := numV_get hz
          have hi : i < ws.length := (List.getElem?_eq_some_iff.mp hk').1
          have hdrop : ws.drop i = k' :: ws.drop (i + 1) := by
            rw [List.drop_eq_getElem_cons hi]
            congr 1
            exact (List.getElem?_eq_some_iff.mp hk').2
          have htk : (ws.take (i + 1)).foldl (payOne B P) (done, []) = payOne B P ((ws.take i).foldl (payOne B P) (done, [])) k' := by
            rw [List.take_add_one, hk', List.foldl_append]
            rfl
          rw [hdrop] at hpm6
          rw [htk]
          generalize (ws.take i).foldl (payOne B P) (done, []) = st at *
          obtain ⟨hp7, hnk, hkl⟩ := pass_step (B := B) hpm6
          have hlen6 := hpm6.length_eq
          rw [List.length_append, List.length_append] at hlen6
          have hkn : k' < B.claims.length := by rw [← hl]; exact hkl
          obtain ⟨t, hat, htq⟩ := (A.same s6).get hkn
          have gc := G.clm hkn
          obtain ⟨x, ex, hx⟩ := nat_of gc.d0 gc.d1
          obtain ⟨y, ey, hy⟩ := nat_of gc.c0 gc.c1
          refine ⟨_, rfl, _, rfl, cl, _, _, _, rfl, rfl, (A.same s6).t, hat, t, _, rfl, htq, rfl, _, _, rfl, _, _, rfl, _, _, rfl, _, _, rfl, rfl, ?_⟩
          dsimp only
          refine sq_val (.int (g P k')) (fun Q k => ⟨_, rfl, _, rfl, p, _, _, _, rfl, rfl, s6.seq hp, atI_g rfl hkl, k⟩) ?_
          have hll : x < (leftOf B (onlyP P st.1)).length := by rw [leftOf_len]; exact hx
          have exn : (B.clm k').d.toNat = x := by omega
          refine if_ifP (p := g P k' ≤ g (leftOf B (onlyP P st.1)) x) (fun Q k => ⟨_, rfl, _, rfl, _, rfl, he, _, _, _, rfl, rfl, sq_of hhe6, atI_g ex hll, _, _, rfl, rfl, _, rfl, k⟩) (fun hyes => ?_) (fun hno => ?_)
          · have e1 : payOne B P st k' = (st.1 ++ [k'], st.2) := if_pos (by rw [exn]; exact hyes)
            rw [e1] at hp7 ⊢
            refine ⟨_, rfl, _, rfl, he, _, _, _, rfl, rfl, sq_of hhe6, atI_g ex hll, _, rfl, _, _, rfl, rfl, he, _, _, x, rfl, rfl, hhe6, ixN_nat ex (by rw [List.length_map]; exact hll), ?_⟩
            rw [map_set]
            have hly : y < ((leftOf B (onlyP P st.1)).set x (g (leftOf B (onlyP P st.1)) x - g P k')).length := by rw [List.length_set, leftOf_len]; exact hy
            refine ⟨_, rfl, _, rfl, he, _, _, _, rfl, rfl, sq_of upd_same, atI_g ey hly, _, rfl, _, _, rfl, rfl, he, _, _, y, rfl, rfl, upd_same, ixN_nat ey (by rw [List.length_map]; exact hly), ?_⟩
            rw [map_set, ← left_set G (by rw [only_len]; exact hl) hkn ex ey hx hy, ← only_snoc hkl hnk]
            have hmo7 : (upd (upd H6 he (.lst (((leftOf B (onlyP P st.1)).set x (g (leftOf B (onlyP P st.1)) x - g P k')).map V.int))) he (.lst ((leftOf B (onlyP P (st.1 ++ [k']))).map V.int))) mo = some (.lst (us6.map V.ref)) := by rw [upd_ne ne1.symm, upd_ne ne1.symm]; exact hmo6
            have hwt7 : (upd (upd H6 he (.lst (((leftOf B (onlyP P st.1)).set x (g (leftOf B (onlyP P st.1)) x - g P k')).map V.int))) he (.lst ((leftOf B (onlyP P (st.1 ++ [k']))).map V.int))) wt = some (.lst (numV ws)) := by rw [upd_ne nw1, upd_ne nw1]; exact hwt6
            have hla7 : (upd (upd H6 he (.lst (((leftOf B (onlyP P st.1)).set x (g (leftOf B (onlyP P st.1)) x - g P k')).map V.int))) he (.lst ((leftOf B (onlyP P (st.1 ++ [k']))).map V.int))) la = some (.lst (numV st.2)) := by rw [upd_ne nl1, upd_ne nl1]; exact hla6
            have hhe7 : (upd (upd H6 he (.lst (((leftOf B (onlyP P st.1)).set x (g (leftOf B (onlyP P st.1)) x - g P k')).map V.int))) he (.lst ((leftOf B (onlyP P (st.1 ++ [k']))).map V.int))) he = some (.lst ((leftOf B (onlyP P (st.1 ++ [k']))).map V.int)) := upd_same
            have hus7 : MvsAt (upd (upd H6 he (.lst (((leftOf B (onlyP P st.1)).set x (g (leftOf B (onlyP P st.1)) x - g P k')).map V.int))) he (.lst ((leftOf B (onlyP P (st.1 ++ [k']))).map V.int))) us6 (st.1.map (payMv P)) := (hus6.put hhe6).put upd_same
            have s7 : Same H (upd (upd H6 he (.lst (((leftOf B (onlyP P st.1)).set x (g (leftOf B (onlyP P st.1)) x - g P k')).map V.int))) he (.lst ((leftOf B (onlyP P (st.1 ++ [k']))).map V.int))) := Same.mut (Same.mut s6 nhe) nhe
            generalize upd (upd H6 he (.lst (((leftOf B (onlyP P st.1)).set x (g (leftOf B (onlyP P st.1)) x - g P k')).map V.int))) he (.lst ((leftOf B (onlyP P (st.1 ++ [k']))).map V.int)) = H7 at hmo7 hwt7 hla7 hhe7 hus7 s7 ⊢
            refine ⟨_, rfl, .inl ⟨rfl, _, sq_of hmo7⟩, _, rfl, _, rfl, by show 3 ≤ sizeLine; decide, fun u nu => ⟨mo, _, _, rfl, rfl, (Same.new nu) _ _ hmo7, ?_, ?_⟩⟩
            · rw [List.length_map, hus7.1, List.length_map]
              exact sz_lt (by omega)
            · have su : Same H7 (upd H7 u (.tup [.str "pay", .int (k' : Int), .int (g P k')])) := Same.new nu
              have hu8 : (upd H7 u (.tup [.str "pay", .int (k' : Int), .int (g P k')])) u = some (.tup [.str "pay", .int (k' : Int), .int (g P k')]) := upd_same
              generalize upd H7 u (.tup [.str "pay", .int (k' : Int), .int (g P k')]) = H8 at su hu8 ⊢
              refine ⟨us6 ++ [u], Same.mut (s7.trans su) nmo, ?_, ?_, ?_, ?_, ?_, hp7, _, _, _, _, _, rfl⟩
              · rw [upd_ne ne1]
                exact su _ _ hhe7
              · rw [upd_same, List.map_append]
                rfl
              · show MvsAt _ (us6 ++ [u]) ((st.1 ++ [k']).map (payMv P))
                rw [List.map_append]
                exact ((hus7.same su).app (MvsAt.one (show MvAt H8 u (payMv P k') from hu8))).put (su _ _ hmo7)
              · rw [upd_ne nw2]
                exact su _ _ hwt7
              · rw [upd_ne nl2]
                exact su _ _ hla7
          · have e1 : payOne B P st k' = (st.1, st.2 ++ [k']) := if_neg (by rw [exn]; exact hno)
            rw [e1] at hp7 ⊢
            refine ⟨_, rfl, .inl ⟨rfl, _, sq_of hla6⟩, _, rfl, la, _, _, rfl, rfl, hla6, ?_, us6, Same.mut s6 nla0, ?_, ?_, ?_, ?_, ?_, hp7, _, _, _, _, _, rfl⟩
            · rw [numV_len]
              exact sz_lt (by omega)
            · rw [upd_ne nl1.symm]
              exact hhe6
            · rw [upd_ne nl2.symm]
              exact hmo6
            · exact hus6.put hla6
            · rw [upd_ne nl3.symm]
              exact hwt6
            · rw [upd_same, numV_app]
        · obtain ⟨us6, s6, hhe6, hmo6, hus6, hwt6, hla6, hpm6, y5, y6, y9, y10, y11, rfl⟩ := hP
          rw [numV_len, List.take_length] at hhe6 hus6 hla6
          obtain ⟨a1, a2, a3⟩ := pass_round G hl h0 hleft hring hne PO hpm
          refine ⟨_, rfl, (passOf B P ws done).2.length, a3, (passOf B P ws done).2, (passOf B P ws done).1, la, us6, f', s6, nla0, nl1, nl2, hhe6, hmo6, hus6, hla6, a1, a2, by omega, ?_, rfl, _, _, _, _, _, _, rfl⟩
          rw [← hgo]
          conv => rhs; unfold payGo
          rw [if_neg hne]
      · obtain ⟨rfl, hb⟩ := h1
        have hn : ws = [] := by
          cases ws with
          | nil => rfl
          | cons _ _ => exact absurd hb (by simp)
        subst hn
        refine ⟨_, rfl, k mo us H1 nmo s4 hmo4 ?_⟩
        rw [← hgo]
        unfold payGo
        rw [if_pos rfl]
        exact hus4
theorem sum_le_c {c : Int} : ∀ {l : List Int}, (∀ x ∈ l, x ≤ c) → l.sum ≤ c * l.length
  | [], _ => by show (0 : Int) ≤ c * ((0 : Nat) : Int); rw [Int.natCast_zero, Int.mul_zero]; exact Int.le_refl _
  | x :: l, h => by
    have h1 := h x List.mem_cons_self
    have h2 := sum_le_c fun y hy => h y (List.mem_cons_of_mem x hy)
    show x + l.sum ≤ c * ((l.length + 1 : Nat) : Int)
    rw [Int.natCast_add, Int.mul_add]
    omega
theorem pay_sum_small {B : Bk} (G : Good B) {P : List Int} (hP : Pay B P) : P.sum ≤ 23976 := by
  have h1 := sum_le_c (c := 999) (l := P) fun x hx => by
    obtain ⟨i, hi, rfl⟩ := mem_g hx
    have hi' : i < B.claims.length := by rw [← hP.len]; exact hi
    have := hP.hi i hi'
    have := (amt_pos G hi').2
    omega
  have := G.m1
  have := hP.len
  omega
theorem sc_order : FnScope ["book", "cash", "claims", "payments", "rings", "ring", "number", "coins"] ["book"] (defScope s_order) := ⟨rfl, rfl, rfl, by decide +kernel, rfl, by decide +kernel, by decide +kernel⟩
/- 0:book 1:cash 2:claims 3:payments 4:rings 5:ring 6:number 7:coins -/
theorem ok_order {f : Addr} {fd : FuncData} (D : DefAt K mg "order" s_order ["book"] f fd) (C : PgC K mg) (m_min : mg "min" = none) (m_tuple : mg "tuple" = none)
    {f1 : Addr} {fd1 : FuncData} (D_best : DefAt K mg "best" s_best ["book"] f1 fd1)
    {f2 : Addr} {fd2 : FuncData} (D_wayround : DefAt K mg "_way_round" s_wayround ["claims", "onward", "start"] f2 fd2)
    {f3 : Addr} {fd3 : FuncData} (D_ringin : DefAt K mg "_ring_in" s_ringin ["claims", "payments"] f3 fd3)
    {f4 : Addr} {fd4 : FuncData} (D_paidturn : DefAt K mg "_paid_in_turn" s_paidturn ["cash", "claims", "payments"] f4 fd4) : FnOk P w K mg base CX0 7 f fd ["book"] (spOrder K) := by
  obtain ⟨f5, fd5, D_need⟩ := C.need
  have G_need : FnOk P w K mg base CX0 2 f5 fd5 ["book"] (spNeed K) := C.ok_need D_need
  have G_best : FnOk P w K mg base CX0 6 f1 fd1 ["book"] (spBest K) := ok_best D_best C
  have G_ringin : FnOk P w K mg base CX0 2 f3 fd3 ["claims", "payments"] (spRingIn K) := ok_ringin D_ringin C.m_enumerate D_wayround
  have G_paidturn : FnOk P w K mg base CX0 1 f4 fd4 ["cash", "claims", "payments"] (spPaidTurn K) := ok_paidturn D_paidturn C.m_enumerate C.m_list
  refine D.F.ok sc_order (fun vs H Q E h => ?_) (fun cdv A outer s H vs Q E hr h => ?_)
  · obtain ⟨b, ca, cl, ts, B, rfl, _⟩ := h
    rfl
  · obtain ⟨b, ca, cl, ts, B, rfl, A, G, k⟩ := h
    have m1 := G.m1
    have hBP := (best_clears G).pay
    have hsm := pay_sum_small G hBP
    refine ⟨_, pss_cons (ps_expr (pe_call G_need (hr.mono (by decide)) (by rfl) D_need.g D_need.F.kp D_need.b .nil pass0 (pa_cons (pv 0) pa_nil)))
        (pss_cons (ps_asg (pv 0) (pg_tup rfl (pgs_cons (pg_name (i := 1) sc_order.nd rfl (.inl rfl)) (pgs_cons (pg_name (i := 2) sc_order.nd rfl (.inl rfl)) pgs_nil))))
        (pss_cons (ps_set (i := 3) sc_order.nd rfl (.inr rfl) (pe_call G_best (hr.mono (by decide)) (by rfl) D_best.g D_best.F.kp D_best.b .nil pass0 (pa_cons (pv 0) pa_nil)))
        (pss_cons (ps_set (i := 4) sc_order.nd rfl (.inl rfl) (pe_lst pa_nil))
        (pss_cons (ps_whileW PassesOwn.never (ptw_truth (pew_named (i := 5) sc_order.nd rfl (.inl rfl) (pew_of (pe_call G_ringin (hr.mono (by decide)) (by rfl) D_ringin.g D_ringin.F.kp D_ringin.b .nil pass0 (pa_cons (pv 2) (pa_cons (pv 3) pa_nil)))))) (pss_cons (ps_set (i := 7) sc_order.nd rfl (.inl rfl) (pe_callB (cr_min rfl) (by rfl) m_min (by decide +kernel) (pa_cons (pe_lc (own := [("number", 6)]) (g := gName 6) (tt := tYes) (by rfl) sc_order.nd (pi_list (pv 5)) (blkOk_by (own := [("number", 6)]) (N := ["book", "cash", "claims", "payments", "rings", "ring", "number", "coins"]) (sc := defScope s_order) (by decide +kernel)) (fun _ _ _ _ _ => (pg_name (i := 6) sc_order.nd rfl (.inl rfl))) (fun _ _ _ _ _ => pts_nil) (fun _ _ _ _ _ => (pe_ix (r := rIxL K) ix_list (pv 3) (pv 6) (fun _ _ => rfl)))) pa_nil)))
          (pss_cons (ps_for PassesOwn.never rfl (pi_list (pv 5)) (pg_name (i := 6) sc_order.nd rfl (.inl rfl)) (pss_one (ps_augS (pv 3) (pv 6) get_list (pv 7) ip_sub set_list)))
          (pss_one (ps_expr (pe_bm PySem.F.plainAttrs_list PySem.F.slot_list_append PySem.F.type_list_append mt_append (pv 4) (pa_cons (pe_tup (pa_cons pe_str (pa_cons (pe_callTy (r := rTupleOf K) call_tupleOf (by rfl) m_tuple (by decide +kernel) (pa_cons (pv 5) pa_nil)) (pa_cons (pv 7) pa_nil)))) pa_nil)))))) pss_nil)
        (pss_one (ps_ret (pe_op op_cat (pe_call G_paidturn (hr.mono (by decide)) (by rfl) D_paidturn.g D_paidturn.F.kp D_paidturn.b .nil pass0 (pa_cons (pv 1) (pa_cons (pv 2) (pa_cons (pv 3) pa_nil)))) (pv 4)))))))), ?_⟩
    refine sq_drop (fun H1 => Same H H1) (fun Q k => ⟨_, rfl, b, ca, cl, ts, B, rfl, A, G, fun H1 s1 => k _ H1 s1⟩) (fun H1 s1 => ?_)
    have A1 := A.same s1
    refine sq_tup2 (fun Q k => ⟨_, rfl, k⟩) A1.hb ?_
    refine sq_new (.lst ((bestOf B).map V.int)) (fun Q k => ⟨_, rfl, b, ca, cl, ts, B, rfl, A1, G, k⟩) (fun p H2 np' s2 hp => ?_)
    have np := s1.free np'
    refine sq_new (.lst []) (fun Q k => ⟨Nat.zero_le _, fun l nl => k l _ nl (Same.new nl) upd_same⟩) (fun ro H3 nro' s3 hro => ?_)
    have nro := (s1.trans s2).free nro'
    have ne : p ≠ ro := ne_of_none hp nro'
    have s03 := (s1.trans s2).trans s3
    refine sq_whileW (fun m σ' H' => ∃ Pi rs us f, Same H H' ∧ H' p = some (.lst (Pi.map V.int)) ∧ H' ro = some (.lst (us.map V.ref)) ∧ MvsAt H' us (rs.map ringMv) ∧ Pi.length = B.claims.length ∧ (∀ k, k < B.claims.length → 0 ≤ g Pi k) ∧ leftOf B Pi = leftOf B (bestOf B) ∧
        (rs ++ (ringsFrom B f Pi).1, (ringsFrom B f Pi).2) = ringsOf B ∧ Pi.sum < f ∧ (rs.length : Int) ≤ (bestOf B).sum - Pi.sum ∧ m = Pi.sum.toNat ∧ ∃ y5 y6 y7, σ' = [some (.ref b), some (.ref ca), some (.ref cl), some (.ref p), some (.ref ro), y5, y6, y7])
      _ ⟨bestOf B, [], [], (bestOf B).sum.toNat + 1, s03, s3 _ _ hp, hro, MvsAt.nil _, hBP.len, fun k hk => hBP.lo k hk, rfl, rfl, by have := hBP.sum_nn; omega, by show (0 : Int) ≤ _; omega, rfl, _, _, _, rfl⟩ (fun m σ' H' hW => ?_)
    obtain ⟨Pi, rs, us, f, s4, hp4, hro4, hus, hl, h0, hlf, hgo, hf, hrl, rfl, y5, y6, y7, rfl⟩ := hW
    have A4 := A.same s4
    have hPnn := sum_nn_of hl h0
    obtain ⟨f', rfl⟩ : ∃ f', f = f' + 1 := ⟨f - 1, by omega⟩
    generalize er : ringIn B (Pi.length + 1) (numbersOf Pi) = r
    refine ⟨fun bb σ1 H6 => Same H' H6 ∧ bb = !r.isEmpty ∧ ∃ rg, H' rg = none ∧ H6 rg = some (.lst (numV r)) ∧ σ1 = [some (.ref b), some (.ref ca), some (.ref cl), some (.ref p), some (.ref ro), some (.ref rg), y6, y7], fun Q k => ?_, fun σ1 H6 h6 => ?_, fun σ1 H6 h6 => ?_⟩
    · refine ⟨_, rfl, _, rfl, cl, p, ts, B, Pi, rfl, ⟨A4.hcl, A4.hq⟩, G, sq_of hp4, hl, fun q H6 nq s6 hq => ⟨_, .inl ⟨_, sq_of hq, rfl⟩, k _ _ _ ⟨s6, ?_, q, nq, ?_, rfl⟩⟩⟩
      · rw [er]
        cases r <;> rfl
      · rw [hq, er]
    · obtain ⟨s6, hb, rg, nrg, hrg, rfl⟩ := h6
      have hne : r ≠ [] := fun z => by rw [z] at hb; exact absurd hb (by decide)
      obtain ⟨R, hrlt, c1, c2, l2, lo2, lf2, sm2⟩ := ring_off G hl h0 er hne
      have hs := (ring_some G (Pi.length + 1) (ns := numbersOf Pi) (fun k hk => by rw [← hl]; exact (mem_numbers.mp hk).1) (by rw [er]; exact hne)).2
      have hmin := minOf_ok (l := r.map (g Pi)) (fun z => hne (List.map_eq_nil_iff.mp z))
      have hrl24 : r.length ≤ 24 := by
        have q := nodup_sub_len (l := r.map fun k : Nat => (k : Int)) (m := (List.range B.claims.length).map fun k : Nat => (k : Int)) (List.pairwise_map.mpr (R.nd.imp fun h z => h (Int.ofNat.inj z))) (List.pairwise_map.mpr (List.nodup_range.imp fun h z => h (Int.ofNat.inj z))) fun x hx => by
          obtain ⟨k, hk, rfl⟩ := List.mem_map.mp hx
          exact List.mem_map_of_mem (f := fun k : Nat => (k : Int)) (List.mem_range.mpr (hrlt k hk))
        rw [List.length_map, List.length_map, List.length_range] at q
        omega
      have hp6 := s6 _ _ hp4
      have hro6 := s6 _ _ hro4
      have nrp : rg ≠ p := (ne_of_none hp4 nrg).symm
      have nrr : rg ≠ ro := (ne_of_none hro4 nrg).symm
      have hus6 := hus.same s6
      have s46 := s4.trans s6
      have hfrom : ringsFrom B (f' + 1) Pi = ((r, minOf (r.map (g Pi))) :: (ringsFrom B f' (addR Pi r (-minOf (r.map (g Pi))))).1, (ringsFrom B f' (addR Pi r (-minOf (r.map (g Pi))))).2) := by
        show (if ringIn B (Pi.length + 1) (numbersOf Pi) = [] then _ else _) = _
        rw [er, if_neg hne]
      -- coins
      refine sq_set (fun v H7 => v = .int (minOf (r.map (g Pi))) ∧ Same H6 H7) (fun Q k => ?_) (fun v H7 hv => ?_)
      · refine ⟨_, rfl, rg, rfl, ⟨_, sq_of hrg⟩, fun d nd => ?_⟩
        refine lc_list (xs := numV r) (fun j H' => Same H6 H' ∧ H' d = some (.lst (((r.take j).map (g Pi)).map V.int))) ⟨Same.new nd, by rw [upd_same]; rfl⟩ (fun j H' _ hP => sq_of (hP.1 _ _ hrg)) (fun j z H' hz hP => ?_) (fun H' hP => ?_)
        · obtain ⟨s7, hd⟩ := hP
          obtain ⟨k', hk', rfl⟩ := numV_get hz
          have hkl : k' < Pi.length := by rw [hl]; exact hrlt k' (List.mem_of_getElem? hk')
          refine ⟨rfl, _, rfl, _, rfl, p, _, _, _, rfl, rfl, sq_of (s7 _ _ hp6), atI_g rfl hkl, _, hd, ?_, Same.mut s7 nd, ?_⟩
          · rw [List.length_map, List.length_map, List.length_take]
            exact sz_lt (by omega)
          · rw [upd_same, List.take_add_one, hk', List.map_append, List.map_append]
            rfl
        · obtain ⟨s7, hd⟩ := hP
          rw [numV_len, List.take_length] at hd
          refine ⟨d, r.map (g Pi), rfl, sq_of hd, by rw [List.length_map]; exact List.length_pos_iff.mpr hne, fun m hm hle => ?_⟩
          have e : m = minOf (r.map (g Pi)) := Int.le_antisymm (hle _ hmin.1) (hmin.2 _ hm)
          rw [e]
          exact k _ _ ⟨rfl, s7⟩
      obtain ⟨rfl, s7⟩ := hv
      have hp7 := s7 _ _ hp6
      have hro7 := s7 _ _ hro6
      have hrg7 := s7 _ _ hrg
      generalize minOf (r.map (g Pi)) = c at *
      refine sq_forL (a := rg) (xs := numV r) (fun Q k => ⟨_, rfl, k⟩) (sq_of hrg7)
        (fun i σ' H' => Same H H' ∧ H' p = some (.lst ((addR Pi (r.take i) (-c)).map V.int)) ∧ H' ro = some (.lst (us.map V.ref)) ∧ MvsAt H' us (rs.map ringMv) ∧ H' rg = some (.lst (numV r)) ∧ ∃ y6, σ' = [some (.ref b), some (.ref ca), some (.ref cl), some (.ref p), some (.ref ro), some (.ref rg), y6, some (.int c)])
        ⟨s46.trans s7, hp7, hro7, hus6.same s7, hrg7, _, rfl⟩ (fun i σ' H' _ hP => sq_of hP.2.2.2.2.1) (fun i z σ' H8 hz hP => ?_) (fun σ' H8 hP => ?_)
      · obtain ⟨s8, hp8, hro8, hus8, hrg8, y6, rfl⟩ := hP
        obtain ⟨k', hk', rfl⟩ := numV_get hz
        have hkl : k' < (addR Pi (r.take i) (-c)).length := by rw [addR_len, hl]; exact hrlt k' (List.mem_of_getElem? hk')
        refine ⟨_, rfl, _, rfl, p, _, _, _, rfl, rfl, sq_of hp8, atI_g rfl hkl, _, rfl, _, _, rfl, rfl, p, _, _, k', rfl, rfl, hp8, ixN_nat rfl (by rw [List.length_map]; exact hkl), ?_⟩
        rw [map_set]
        have e : (addR Pi (r.take i) (-c)).set k' (g (addR Pi (r.take i) (-c)) k' - c) = addR Pi (r.take (i + 1)) (-c) := by
          unfold addR
          rw [List.take_add_one, hk', List.foldl_append, Int.sub_eq_add_neg]
          rfl
        rw [e]
        exact ⟨Same.mut s8 np, upd_same, by rw [upd_ne ne.symm]; exact hro8, hus8.put hp8, by rw [upd_ne nrp]; exact hrg8, _, rfl⟩
      · obtain ⟨s8, hp8, hro8, hus8, hrg8, y6, rfl⟩ := hP
        rw [numV_len, List.take_length] at hp8
        refine ⟨_, rfl, .inl ⟨rfl, _, sq_of hro8⟩, _, rfl, rg, _, rfl, .inl ⟨sq_of hrg8, fun t nt => ⟨_, rfl, by show 3 ≤ sizeLine; decide, fun u nu => ⟨ro, us.map V.ref, _, rfl, rfl, ?_, ?_, ?_⟩⟩⟩⟩
        · exact (Same.new nu) _ _ ((Same.new nt) _ _ hro8)
        · rw [List.length_map, hus8.1, List.length_map]
          exact sz_lt (by omega)
        · have st : Same H8 (upd H8 t (.tup (numV r))) := Same.new nt
          have ht9 : (upd H8 t (.tup (numV r))) t = some (.tup (numV r)) := upd_same
          generalize upd H8 t (.tup (numV r)) = H9 at st ht9 nu ⊢
          have su : Same H9 (upd H9 u (.tup [.str "ring", .ref t, .int c])) := Same.new nu
          have hu10 : (upd H9 u (.tup [.str "ring", .ref t, .int c])) u = some (.tup [.str "ring", .ref t, .int c]) := upd_same
          generalize upd H9 u (.tup [.str "ring", .ref t, .int c]) = H10 at su hu10 ⊢
          have stu := st.trans su
          have snn := sum_nn_of l2 lo2
          have hm10 : MvAt H10 u (ringMv (r, c)) := ⟨t, hu10, su _ _ ht9⟩
          refine ⟨(addR Pi r (-c)).sum.toNat, by omega, addR Pi r (-c), rs ++ [(r, c)], us ++ [u], f', Same.mut (s8.trans stu) nro, ?_, ?_, ?_, l2, lo2, lf2.trans hlf, ?_, by omega, ?_, rfl, _, _, _, rfl⟩
          · rw [upd_ne ne]
            exact stu _ _ hp8
          · rw [upd_same, List.map_append]
            rfl
          · rw [List.map_append]
            exact ((hus8.same stu).app (MvsAt.one hm10)).put (stu _ _ hro8)
          · rw [← hgo, hfrom, List.append_assoc]
            rfl
          · rw [List.length_append]
            show ((rs.length + 1 : Nat) : Int) ≤ _
            omega
    · obtain ⟨s6, hb, rg, nrg, hrg, rfl⟩ := h6
      have hn : r = [] := by
        cases r with
        | nil => rfl
        | cons _ _ => exact absurd hb (by simp)
      rw [hn] at er
      have hfrom : ringsFrom B (f' + 1) Pi = ([], Pi) := by
        show (if ringIn B (Pi.length + 1) (numbersOf Pi) = [] then _ else _) = _
        rw [er, if_pos rfl]
      rw [hfrom, List.append_nil] at hgo
      have s46 := s4.trans s6
      have hro6 := s6 _ _ hro4
      have hus6 := hus.same s6
      have hrs : rs.length ≤ 30000 := by omega
      have e1 : (ringsOf B).1 = rs := by rw [← hgo]
      have e2 : (ringsOf B).2 = Pi := by rw [← hgo]
      refine ⟨_, rfl, _, rfl, _, rfl, ca, cl, p, ts, B, Pi, rfl, (A.same s46).hca, ⟨(A.same s46).hcl, (A.same s46).hq⟩, G, sq_of (s6 _ _ hp4), hl, h0, fun x hx => by rw [hlf]; exact left_best_nn G x hx, er, fun q vs H7 nq s7 hq hvs => ⟨_, rfl, q, ro, _, _, rfl, rfl, hq, s7 _ _ hro6, ?_, fun z nz => ?_⟩⟩
      · have hp9 := (pays_best G).2.length_eq
        have := numbers_len (ringsOf B).2
        rw [e2] at hp9 this
        rw [List.length_map, List.length_map, hvs.1, hus6.1, List.length_map, List.length_map, hp9]
        exact sz_of (by omega)
      · refine k z (vs ++ us) _ ((s46.trans s7).free nz) ((s46.trans s7).trans (Same.new nz)) ?_ ?_
        · rw [upd_same, List.map_append]
        · unfold orderOf
          rw [e1, e2]
          exact (hvs.app (hus6.same s7)).same (Same.new nz)
end


end Rf
namespace Rf
open PySem PySem.Spec PyProof.Rows L2
/-! ### the program's playing of moves that fit -/
def tLenSetT (K : PySem.W.Frag) (ta : TE) : TE := fun σ H Q => ta σ H fun x H1 => ∃ (l : Addr) (ns : List Int), x = .ref l ∧ SqT K H1 l (ns.map V.int) ∧ ns.Nodup ∧ ns.length ≤ 4000 ∧ Q (.int (ns.length : Nat)) H1
theorem pe_lenSetT {X : Cx} {a : Expr} {ta : TE} {p p2 q pos : Pos} (hc : X.calm = true) (hg : Gl X "len") (hm : X.mg "len" = none) (hg2 : Gl X "set") (hm2 : X.mg "set" = none) (ha : PE X a ta)
    (na : starEach [a] X.env = (false, eval a X.env) :: starEach [] X.env := by rfl) : PE X (.Call (.Name "len" p) [.Call (.Name "set" p2) [a] [] q] [] pos) (tLenSetT X.K ta) := by
  refine ⟨fun pins s σ H Q I h => ?_⟩
  refine Call_ (ld_blt I hg hm boot_len ?_)
  refine PyProof.Rows.callWith_builtin1 (PyProof.Rows.args_cons ?_ rfl) rfl rfl
  refine Call_ (ld_blt I hg2 hm2 boot_set ?_)
  refine PyProof.Rows.callWith_type1 (PyProof.Rows.args_cons (thn (ha.run pins s σ H _ I h) fun v s1 ⟨x, H1, I1, r1, q1⟩ => PyProof.Rows.args_nil ?_) na) na rfl
  obtain ⟨l, ns, rfl, hq, hnd, hl, q1⟩ := q1
  cases r1
  obtain ⟨its, r, pl, hz⟩ := I1.tuple hq
  refine call_set_tupI ns (I1.ok.hd hc) pl (by simpa using RZ.intsAre_vals r) (by unfold scanBound; omega) fun h' tk c hS hcn hk => ?_
  refine PyProof.Rows.args_nil ?_
  obtain ⟨o, es, ep, t, ho, hex, hd, _, hnk, hmem, hsz, hf, hn, _⟩ := hS
  have e : es.size = ns.length := by
    have q1 := nodup_sub_len hnk hnd fun x hx => of_decide_eq_true ((hmem x).mpr hx)
    have q2 := nodup_sub_len hnd hnk fun x hx => (hmem x).mp (decide_eq_true hx)
    rw [List.length_map, Array.length_toList] at q1 q2
    exact Nat.le_antisymm q1 q2
  have I2 : Inv X pins σ H1 { s1 with heap := h', toks := tk } := I1.kept fun b o e => hk b o e
  exact call_len_set ho hex hd hf (by rw [e]; omega) ⟨.int ns.length, H1, I2.tok _, ⟨_, by rw [e]⟩, q1⟩
theorem ring_next {B : Bk} {ks : List Nat} (R : IsRing B ks) {i : Nat} {a b : Nat} (ha : ks[i]? = some a) (hb : ks[i + 1]? = some b) : (B.clm a).c = (B.clm b).d := by
  have h1 : (csOf B ks)[i]? = some (B.clm a).c := by
    unfold csOf
    rw [List.getElem?_map, ha]
    rfl
  have hi : i + 1 < ks.length := (List.getElem?_eq_some_iff.mp hb).1
  rw [R.turn, List.getElem?_append_left (by rw [List.length_drop, dsOf_len]; omega), List.getElem?_drop] at h1
  have h2 : (dsOf B ks)[1 + i]? = some (B.clm b).d := by
    unfold dsOf
    rw [List.getElem?_map, Nat.add_comm, hb]
    rfl
  rw [h2] at h1
  exact (Option.some.inj h1).symm
theorem ring_last {B : Bk} {ks : List Nat} (R : IsRing B ks) : ∃ ini a b, ks = ini ++ [a] ∧ ks[0]? = some b ∧ (B.clm a).c = (B.clm b).d := by
  have hne : ks ≠ [] := fun z => by have := R.two; rw [z] at this; exact absurd this (by decide)
  obtain ⟨b, l, hb⟩ := List.exists_cons_of_ne_nil hne
  obtain ⟨ini, a, ha⟩ : ∃ ini a, ks = ini ++ [a] := ⟨ks.dropLast, ks.getLast hne, (List.dropLast_concat_getLast hne).symm⟩
  refine ⟨ini, a, b, ha, by rw [hb]; rfl, ?_⟩
  have t := R.turn
  have e1 : csOf B ks = csOf B ini ++ [(B.clm a).c] := by rw [ha]; exact List.map_append
  have e2 : (dsOf B ks).take 1 = [(B.clm b).d] := by rw [hb]; rfl
  rw [e1, e2] at t
  exact (List.cons.inj ((List.append_inj' t rfl).2)).1
theorem ring_short {B : Bk} {ks : List Nat} (R : IsRing B ks) (h : ∀ k ∈ ks, k < B.claims.length) : ks.length ≤ B.claims.length := by
  have q := nodup_sub_len (l := ks.map fun k : Nat => (k : Int)) (m := (List.range B.claims.length).map fun k : Nat => (k : Int)) (List.pairwise_map.mpr (R.nd.imp fun h z => h (Int.ofNat.inj z))) (List.pairwise_map.mpr (List.nodup_range.imp fun h z => h (Int.ofNat.inj z))) fun x hx => by
    obtain ⟨k, hk, rfl⟩ := List.mem_map.mp hx
    exact List.mem_map_of_mem (f := fun k : Nat => (k : Int)) (List.mem_range.mpr (h k hk))
  rw [List.length_map, List.length_map, List.length_range] at q
  exact q
def spAreOwed (K : PySem.W.Frag) : Sp := fun vs H Q _ => ∃ (cl p t : Addr) (ts : List Addr) (B : Bk) (P : List Int) (ks : List Nat) (c : Int), vs = [.ref cl, .ref p, .ref t, .int c] ∧ ClAt K H cl ts B ∧ SqL K H p (P.map V.int) ∧ P.length = B.claims.length ∧ B.claims.length ≤ 24 ∧ SqT K H t (numV ks) ∧ 1 ≤ c ∧ (∀ k ∈ ks, k < B.claims.length ∧ g P k + c ≤ amt B k) ∧ Q (.bl true) H
def spIsRing (K : PySem.W.Frag) : Sp := fun vs H Q _ => ∃ (cl t : Addr) (ts : List Addr) (B : Bk) (ks : List Nat), vs = [.ref cl, .ref t] ∧ ClAt K H cl ts B ∧ B.claims.length ≤ 24 ∧ SqT K H t (numV ks) ∧ (∀ k ∈ ks, k < B.claims.length) ∧ IsRing B ks ∧ Q (.bl true) H
def spFits (K : PySem.W.Frag) : Sp := fun vs H Q _ => ∃ (cl p he u : Addr) (ts : List Addr) (B : Bk) (P : List Int) (m : Mv), vs = [.ref cl, .ref p, .ref he, .ref u] ∧ ClAt K H cl ts B ∧ Good B ∧ SqL K H p (P.map V.int) ∧ P.length = B.claims.length ∧ SqL K H he ((leftOf B P).map V.int) ∧ MvAt H u m ∧ Fits B P m ∧ ∀ H', Same H H' → Q (.bl true) H'
def spMakeMv (K : PySem.W.Frag) : Sp := fun vs H Q _ => ∃ (cl p he u : Addr) (ts : List Addr) (B : Bk) (P : List Int) (m : Mv), vs = [.ref cl, .ref p, .ref he, .ref u] ∧ ClAt K H cl ts B ∧ Good B ∧ H p = some (.lst (P.map V.int)) ∧ P.length = B.claims.length ∧ H he = some (.lst ((leftOf B P).map V.int)) ∧ p ≠ he ∧ MvAt H u m ∧ Fits B P m ∧
  ∀ H', Off (fun a => a = p ∨ a = he) H H' → H' p = some (.lst ((doMv P m).map V.int)) → H' he = some (.lst ((leftOf B (doMv P m)).map V.int)) → Q .non H'
def spPlayed (K : PySem.W.Frag) : Sp := fun vs H Q _ => ∃ (b ca cl : Addr) (ts : List Addr) (B : Bk) (l : Addr) (us : List Addr) (ms : List Mv), vs = [.ref b, .ref l] ∧ BookAt K H b ca cl ts B ∧ Good B ∧ SqL K H l (us.map V.ref) ∧ MvsAt H us ms ∧ AllFit B (noneP B) ms ∧
  ∀ t p he H', Same H H' → H t = none → H p = none → H he = none → H' t = some (.tup [.ref p, .ref he]) → H' p = some (.lst ((playedOf (noneP B) ms).map V.int)) → H' he = some (.lst ((leftOf B (playedOf (noneP B) ms)).map V.int)) → Q (.ref t) H'


end Rf
namespace Rf
open PySem PySem.Spec PyProof.Rows L2
section
variable {P : Program} {w : World} {K : PySem.W.Frag} {mg : Str → Option Value} {base : Heap}
theorem sc_areowed : FnScope ["claims", "payments", "numbers", "coins", "number", "_", "amount"] ["claims", "payments", "numbers", "coins"] (defScope s_areowed) := ⟨rfl, rfl, rfl, by decide +kernel, rfl, by decide +kernel, by decide +kernel⟩
/- 0:claims 1:payments 2:numbers 3:coins 4:number 5:_ 6:amount -/
theorem ok_areowed {f : Addr} {fd : FuncData} (D : DefAt K mg "_are_owed" s_areowed ["claims", "payments", "numbers", "coins"] f fd) (m_len : mg "len" = none) : FnOk P w K mg base CX0 1 f fd ["claims", "payments", "numbers", "coins"] (spAreOwed K) := by
  refine D.F.ok sc_areowed (fun vs H Q E h => ?_) (fun cdv A outer s H vs Q E hr h => ?_)
  · obtain ⟨cl, p, t, ts, B, P, ks, c, rfl, _⟩ := h
    rfl
  · obtain ⟨cl, p, t, ts, B, P, ks, c, rfl, A, hp, hl, m1, ht, c1, hk, k⟩ := h
    have lq : (ts.map V.ref).length = B.claims.length := by rw [List.length_map, A.q.1]
    refine ⟨_, pss_cons (ps_if (pt_cmpR op_lt (pv 3) pe_int (nomark _)) (pss_one (ps_ret pe_bl)) pss_nil)
        (pss_cons (ps_for PassesOwn.never rfl (pi_tup (pv 2)) (pg_name (i := 4) sc_areowed.nd rfl (.inl rfl)) (pss_cons (ps_if (pt_not (pt_chain op_le op_lt pe_int (pv 4) (pe_callB (r := rLen K) call_len (by rfl) m_len (by decide +kernel) (pa_cons (pv 0) pa_nil)))) (pss_one (ps_ret pe_bl)) pss_nil)
          (pss_cons (ps_asg (pe_ix (r := rIxT K) ix_tup (pv 0) (pv 4) (fun _ _ => rfl)) (pg_tup rfl (pgs_cons (pg_name (i := 5) sc_areowed.nd rfl (.inl rfl)) (pgs_cons (pg_name (i := 5) sc_areowed.nd rfl (.inl rfl)) (pgs_cons (pg_name (i := 6) sc_areowed.nd rfl (.inl rfl)) (pgs_cons (pg_name (i := 5) sc_areowed.nd rfl (.inl rfl)) pgs_nil))))))
          (pss_one (ps_if (pt_cmpR op_gt (pv 3) (pe_op op_sub (pv 6) (pe_ix (r := rIxL K) ix_list (pv 1) (pv 4) (fun _ _ => rfl))) (nomark _)) (pss_one (ps_ret pe_bl)) pss_nil)))))
        (pss_one (ps_ret pe_bl))), ?_⟩
    refine sq_no (fun H' => H' = H) (fun Q k => ⟨_, rfl, _, _, rfl, rfl, _, rfl, ?_⟩) (fun H' e => ?_)
    · rw [decide_eq_false (show ¬ c < 1 by omega)]
      exact k _ rfl
    subst e
    refine sq_forT (a := t) (xs := numV ks) (fun Q k => ⟨_, rfl, k⟩) ht
      (fun i σ' H1 => H1 = H' ∧ ∃ y4 y5 y6, σ' = [some (.ref cl), some (.ref p), some (.ref t), some (.int c), y4, y5, y6]) ⟨rfl, _, _, _, rfl⟩ (fun i σ' H1 _ hW => by rw [hW.1]; exact ht) (fun i z σ' H1 hz hW => ?_) (fun σ' H1 hW => ?_)
    · obtain ⟨rfl, y4, y5, y6, rfl⟩ := hW
      obtain ⟨k', hk', rfl⟩ := numV_get hz
      obtain ⟨hkl, hka⟩ := hk k' (List.mem_of_getElem? hk')
      obtain ⟨u, hat, htq⟩ := A.get hkl
      refine sq_no (fun H' => H' = H1) (fun Q k => ⟨_, rfl, _, _, rfl, rfl, true, dec_t (by omega), iteT ⟨_, rfl, cl, _, rfl, .inr A.t, _, _, rfl, rfl, true, by rw [lq]; exact dec_t (by omega), k _ rfl⟩⟩) (fun H' e => ?_)
      subst e
      refine ⟨_, rfl, _, rfl, cl, _, _, _, rfl, rfl, A.t, hat, u, _, rfl, htq, rfl, _, _, rfl, _, _, rfl, _, _, rfl, _, _, rfl, rfl, ?_⟩
      dsimp only
      refine if_ifP (p := c > amt B k' - g P k') (fun Q k => ⟨_, rfl, _, rfl, _, rfl, _, rfl, p, _, _, _, rfl, rfl, hp, atI_g rfl (by rw [hl]; exact hkl), _, _, rfl, rfl, _, _, rfl, rfl, _, rfl, k⟩) (fun hm => ?_) (fun hm => ⟨rfl, _, _, _, rfl⟩)
      omega
    · obtain ⟨rfl, _⟩ := hW
      exact k
theorem sc_isring : FnScope ["claims", "numbers", "_", "house", "number", "debtor", "creditor"] ["claims", "numbers"] (defScope s_isring) := ⟨rfl, rfl, rfl, by decide +kernel, rfl, by decide +kernel, by decide +kernel⟩
/- 0:claims 1:numbers 2:_ 3:house 4:number 5:debtor 6:creditor -/
theorem ok_isring {f : Addr} {fd : FuncData} (D : DefAt K mg "_is_ring" s_isring ["claims", "numbers"] f fd) (m_len : mg "len" = none) (m_set : mg "set" = none) : FnOk P w K mg base CX0 1 f fd ["claims", "numbers"] (spIsRing K) := by
  refine D.F.ok sc_isring (fun vs H Q E h => ?_) (fun cdv A outer s H vs Q E hr h => ?_)
  · obtain ⟨cl, t, ts, B, ks, rfl, _⟩ := h
    rfl
  · obtain ⟨cl, t, ts, B, ks, rfl, A, m1, ht, hk, R, k⟩ := h
    have hks := ring_short R hk
    have hln : (ks.map fun k : Nat => (k : Int)).length = ks.length := List.length_map _
    have two := R.two
    refine ⟨_, pss_cons (ps_if (PW.pt (pw_or (pt_cmpR op_lt (pe_callB (r := rLen K) call_len (by rfl) m_len (by decide +kernel) (pa_cons (pv 1) pa_nil)) pe_int (nomark _)) (pw_or1 (pt_cmpR op_lt (pe_lenSetT rfl (by rfl) m_len (by rfl) m_set (pv 1)) (pe_callB (r := rLen K) call_len (by rfl) m_len (by decide +kernel) (pa_cons (pv 1) pa_nil)) (nomark _))))) (pss_one (ps_ret pe_bl)) pss_nil)
        (pss_cons (ps_asg (pe_ix (r := rIxT K) ix_tup (pv 0) (pe_ix (r := rIxT K) ix_tup (pv 1) (pe_un un_neg pe_int) (fun _ _ => rfl)) (fun _ _ => rfl)) (pg_tup rfl (pgs_cons (pg_name (i := 2) sc_isring.nd rfl (.inl rfl)) (pgs_cons (pg_name (i := 3) sc_isring.nd rfl (.inl rfl)) (pgs_cons (pg_name (i := 2) sc_isring.nd rfl (.inl rfl)) (pgs_cons (pg_name (i := 2) sc_isring.nd rfl (.inl rfl)) pgs_nil))))))
        (pss_cons (ps_for PassesOwn.never rfl (pi_tup (pv 1)) (pg_name (i := 4) sc_isring.nd rfl (.inl rfl)) (pss_cons (ps_asg (pe_ix (r := rIxT K) ix_tup (pv 0) (pv 4) (fun _ _ => rfl)) (pg_tup rfl (pgs_cons (pg_name (i := 5) sc_isring.nd rfl (.inl rfl)) (pgs_cons (pg_name (i := 6) sc_isring.nd rfl (.inl rfl)) (pgs_cons (pg_name (i := 2) sc_isring.nd rfl (.inl rfl)) (pgs_cons (pg_name (i := 2) sc_isring.nd rfl (.inl rfl)) pgs_nil))))))
          (pss_cons (ps_if (pt_cmpR op_ne (pv 5) (pv 3) (nomark _)) (pss_one (ps_ret pe_bl)) pss_nil)
          (pss_one (ps_set (i := 3) sc_isring.nd rfl (.inl rfl) (pv 6))))))
        (pss_one (ps_ret pe_bl)))), ?_⟩
    refine sq_no (fun H' => H' = H) (fun Q k => ⟨_, rfl, t, _, rfl, .inr ht, _, _, rfl, rfl, _, rfl, ?_⟩) (fun H' e => ?_)
    · rw [decide_eq_false (by rw [numV_len]; omega)]
      refine iteF ⟨_, rfl, t, ks.map (fun k : Nat => (k : Int)), rfl, by rw [← numV_ints]; exact ht, List.pairwise_map.mpr (R.nd.imp fun h z => h (Int.ofNat.inj z)), by omega, _, rfl, t, _, rfl, .inr ht, _, _, rfl, rfl, _, rfl, ?_⟩
      rw [decide_eq_false (by rw [numV_len, hln]; omega)]
      exact k _ rfl
    subst e
    obtain ⟨ini, a, b, hks', hb0, hab⟩ := ring_last R
    have hal := hk a (by rw [hks']; exact List.mem_append_right _ List.mem_cons_self)
    obtain ⟨u, hat, htq⟩ := A.get hal
    refine ⟨_, rfl, _, rfl, _, rfl, t, _, _, .int (a : Int), rfl, rfl, ht, ?_, cl, _, _, _, rfl, rfl, A.t, hat, u, _, rfl, htq, rfl, _, _, rfl, _, _, rfl, _, _, rfl, _, _, rfl, rfl, ?_⟩
    · rw [hks', numV_app]
      exact atI_last _ _
    dsimp only
    refine sq_forT (a := t) (xs := numV ks) (fun Q k => ⟨_, rfl, k⟩) ht
      (fun i σ' H1 => H1 = H' ∧ ∃ hh, (∀ k, ks[i]? = some k → hh = (B.clm k).d) ∧ ∃ y2 y4 y5 y6, σ' = [some (.ref cl), some (.ref t), y2, some (.int hh), y4, y5, y6]) ⟨rfl, (B.clm a).c, fun k hk => by rw [hb0] at hk; cases hk; exact hab, _, _, _, _, rfl⟩ (fun i σ' H1 _ hW => by rw [hW.1]; exact ht) (fun i z σ' H1 hz hW => ?_) (fun σ' H1 hW => ?_)
    · obtain ⟨rfl, hh, hd, y2, y4, y5, y6, rfl⟩ := hW
      obtain ⟨k', hk', rfl⟩ := numV_get hz
      have hkl := hk k' (List.mem_of_getElem? hk')
      obtain ⟨u, hat, htq⟩ := A.get hkl
      have ehh := hd k' hk'
      subst ehh
      refine ⟨_, rfl, _, rfl, cl, _, _, _, rfl, rfl, A.t, hat, u, _, rfl, htq, rfl, _, _, rfl, _, _, rfl, _, _, rfl, _, _, rfl, rfl, ?_⟩
      dsimp only
      refine sq_no (fun H' => H' = H1) (fun Q k => ⟨_, rfl, _, rfl, rfl, _, rfl, ?_⟩) (fun H' e => ?_)
      · rw [decide_eq_true rfl]
        exact k _ rfl
      subst e
      exact ⟨_, rfl, rfl, (B.clm k').c, fun j hj => ring_next R hk' hj, _, _, _, _, rfl⟩
    · obtain ⟨rfl, _⟩ := hW
      exact k
end


end Rf
namespace Rf
open PySem PySem.Spec PyProof.Rows L2
/-! ### the program's playing, move by move -/
theorem str_ne {a b : Str} (h : a ≠ b) : decide (V.str a = V.str b) = false := decide_eq_false fun z => h (V.str.inj z)
theorem str_eq (a : Str) : decide (V.str a = V.str a) = true := decide_eq_true rfl
theorem pay_ring : ("pay" : Str) ≠ ("ring" : Str) := by decide +kernel
section
variable {P : Program} {w : World} {K : PySem.W.Frag} {mg : Str → Option Value} {base : Heap}
theorem sc_makemv : FnScope ["claims", "payments", "held", "move", "word", "what", "coins", "number", "debtor", "creditor", "_"] ["claims", "payments", "held", "move"] (defScope s_makemv) := ⟨rfl, rfl, rfl, by decide +kernel, rfl, by decide +kernel, by decide +kernel⟩
/- 0:claims 1:payments 2:held 3:move 4:word 5:what 6:coins 7:number 8:debtor 9:creditor 10:_ -/
theorem ok_makemv {f : Addr} {fd : FuncData} (D : DefAt K mg "_make_move" s_makemv ["claims", "payments", "held", "move"] f fd) : FnOk P w K mg base CX0 1 f fd ["claims", "payments", "held", "move"] (spMakeMv K) := by
  refine D.F.ok sc_makemv (fun vs H Q E h => ?_) (fun cdv A outer s H vs Q E hr h => ?_)
  · obtain ⟨cl, p, he, u, ts, B, P, m, rfl, _⟩ := h
    rfl
  · obtain ⟨cl, p, he, u, ts, B, P, m, rfl, A, G, hp, hl, hhe, ne, hu, F, k⟩ := h
    refine ⟨_, pss_cons (ps_asg (pv 3) (pg_tup rfl (pgs_cons (pg_name (i := 4) sc_makemv.nd rfl (.inl rfl)) (pgs_cons (pg_name (i := 5) sc_makemv.nd rfl (.inl rfl)) (pgs_cons (pg_name (i := 6) sc_makemv.nd rfl (.inl rfl)) pgs_nil)))))
        (pss_one (ps_if (pt_cmpR op_eq (pv 4) pe_str (nomark _)) (pss_one (ps_for PassesOwn.never rfl (pi_tup (pv 5)) (pg_name (i := 7) sc_makemv.nd rfl (.inl rfl)) (pss_one (ps_augS (pv 1) (pv 7) get_list (pv 6) ip_add set_list)))) (pss_cons (ps_asg (pe_ix (r := rIxT K) ix_tup (pv 0) (pv 5) (fun _ _ => rfl)) (pg_tup rfl (pgs_cons (pg_name (i := 8) sc_makemv.nd rfl (.inl rfl)) (pgs_cons (pg_name (i := 9) sc_makemv.nd rfl (.inl rfl)) (pgs_cons (pg_name (i := 10) sc_makemv.nd rfl (.inl rfl)) (pgs_cons (pg_name (i := 10) sc_makemv.nd rfl (.inl rfl)) pgs_nil))))))
          (pss_cons (ps_augS (pv 1) (pv 5) get_list (pv 6) ip_add set_list)
          (pss_cons (ps_augS (pv 2) (pv 8) get_list (pv 6) ip_sub set_list)
          (pss_one (ps_augS (pv 2) (pv 9) get_list (pv 6) ip_add set_list))))))), ?_⟩
    cases m with
    | pay k' c =>
      have hu' : H u = some (.tup [.str "pay", .int (k' : Int), .int c]) := hu
      refine ⟨_, rfl, u, _, rfl, st_of hu', rfl, _, _, rfl, _, _, rfl, _, _, rfl, rfl, ?_⟩
      dsimp only
      obtain ⟨hkl, hka⟩ := F.owed k' List.mem_cons_self
      have gc := G.clm hkl
      obtain ⟨x, ex, hx⟩ := nat_of gc.d0 gc.d1
      obtain ⟨y, ey, hy⟩ := nat_of gc.c0 gc.c1
      refine if_ifP (p := False) (fun Q k => ⟨_, rfl, rfl, _, rfl, ?_⟩) (fun z => z.elim) (fun _ => ?_)
      · rw [str_ne pay_ring]
        exact k
      obtain ⟨t, hat, htq⟩ := A.get hkl
      refine ⟨_, rfl, _, rfl, cl, _, _, _, rfl, rfl, A.t, hat, t, _, rfl, htq, rfl, _, _, rfl, _, _, rfl, _, _, rfl, _, _, rfl, rfl, ?_⟩
      have hkp : k' < P.length := by rw [hl]; exact hkl
      refine ⟨_, rfl, _, rfl, p, _, _, _, rfl, rfl, sq_of hp, atI_g rfl hkp, _, rfl, _, _, rfl, rfl, p, _, _, k', rfl, rfl, hp, ixN_nat rfl (by rw [List.length_map]; exact hkp), ?_⟩
      rw [map_set]
      have hhe2 : (upd H p (.lst ((P.set k' (g P k' + c)).map V.int))) he = some (.lst ((leftOf B P).map V.int)) := by rw [upd_ne ne.symm]; exact hhe
      have hll : x < (leftOf B P).length := by rw [leftOf_len]; exact hx
      refine ⟨_, rfl, _, rfl, he, _, _, _, rfl, rfl, sq_of hhe2, atI_g ex hll, _, rfl, _, _, rfl, rfl, he, _, _, x, rfl, rfl, hhe2, ixN_nat ex (by rw [List.length_map]; exact hll), ?_⟩
      rw [map_set]
      have hly : y < ((leftOf B P).set x (g (leftOf B P) x - c)).length := by rw [List.length_set, leftOf_len]; exact hy
      refine ⟨_, rfl, _, rfl, he, _, _, _, rfl, rfl, sq_of upd_same, atI_g ey hly, _, rfl, _, _, rfl, rfl, he, _, _, y, rfl, rfl, upd_same, ixN_nat ey (by rw [List.length_map]; exact hly), ?_⟩
      rw [map_set, ← left_set G hl hkl ex ey hx hy]
      refine k _ (fun b o h n => ?_) ?_ upd_same
      · rw [upd_ne (fun z => n (.inr z)), upd_ne (fun z => n (.inr z)), upd_ne (fun z => n (.inl z))]
        exact h
      · rw [upd_ne ne, upd_ne ne, upd_same]
        rfl
    | ring ks c =>
      obtain ⟨t, hu', ht⟩ := hu
      refine ⟨_, rfl, u, _, rfl, st_of hu', rfl, _, _, rfl, _, _, rfl, _, _, rfl, rfl, ?_⟩
      dsimp only
      refine if_ifP (p := True) (fun Q k => ⟨_, rfl, rfl, _, rfl, ?_⟩) (fun _ => ?_) (fun z => absurd True.intro z)
      · rw [str_eq]
        exact k
      refine last_for ?_
      have hoff : ∀ {Hx : Hp}, Off (fun a => a = p ∨ a = he) H Hx → Hx t = some (.tup (numV ks)) := fun {Hx} o => o t _ ht fun z => by
        rcases z with z | z
        · rw [z, hp] at ht; cases ht
        · rw [z, hhe] at ht; cases ht
      refine sq_forT (a := t) (xs := numV ks) (fun Q k => ⟨_, rfl, k⟩) (st_of ht)
        (fun i σ' H1 => Off (fun a => a = p ∨ a = he) H H1 ∧ H1 p = some (.lst ((addR P (ks.take i) c).map V.int)) ∧ H1 he = some (.lst ((leftOf B P).map V.int)) ∧ ∃ y7 y8 y9 y10, σ' = [some (.ref cl), some (.ref p), some (.ref he), some (.ref u), some (.str "ring"), some (.ref t), some (.int c), y7, y8, y9, y10])
        ⟨Off.refl, hp, hhe, _, _, _, _, rfl⟩ (fun i σ' H1 _ hW => st_of (hoff hW.1)) (fun i z σ' H1 hz hW => ?_) (fun σ' H1 hW => ?_)
      · obtain ⟨o1, hp1, hhe1, y7, y8, y9, y10, rfl⟩ := hW
        obtain ⟨k', hk', rfl⟩ := numV_get hz
        have hkl : k' < (addR P (ks.take i) c).length := by rw [addR_len, hl]; exact (F.owed k' (List.mem_of_getElem? hk')).1
        refine ⟨_, rfl, _, rfl, p, _, _, _, rfl, rfl, sq_of hp1, atI_g rfl hkl, _, rfl, _, _, rfl, rfl, p, _, _, k', rfl, rfl, hp1, ixN_nat rfl (by rw [List.length_map]; exact hkl), ?_⟩
        rw [map_set]
        have e : (addR P (ks.take i) c).set k' (g (addR P (ks.take i) c) k' + c) = addR P (ks.take (i + 1)) c := by
          unfold addR
          rw [List.take_add_one, hk', List.foldl_append]
          rfl
        rw [e]
        exact ⟨fun b o h n => by rw [upd_ne (fun z => n (.inl z))]; exact o1 b o h n, upd_same, by rw [upd_ne ne.symm]; exact hhe1, _, _, _, _, rfl⟩
      · obtain ⟨o1, hp1, hhe1, y7, y8, y9, y10, rfl⟩ := hW
        rw [numV_len, List.take_length] at hp1
        refine k _ o1 hp1 ?_
        rw [hhe1]
        show _ = some (HO.lst ((leftOf B (addR P ks c)).map V.int))
        rw [left_ring (F.ring ks c rfl) hl fun k hk => (F.owed k hk).1]
end


end Rf
namespace Rf
open PySem PySem.Spec PyProof.Rows L2
section
variable {P : Program} {w : World} {K : PySem.W.Frag} {mg : Str → Option Value} {base : Heap}
theorem sc_fits : FnScope ["claims", "payments", "held", "move", "word", "what", "coins", "debtor", "_"] ["claims", "payments", "held", "move"] (defScope s_fits) := ⟨rfl, rfl, rfl, by decide +kernel, rfl, by decide +kernel, by decide +kernel⟩
/- 0:claims 1:payments 2:held 3:move 4:word 5:what 6:coins 7:debtor 8:_ -/
theorem ok_fits {f : Addr} {fd : FuncData} (D : DefAt K mg "_fits" s_fits ["claims", "payments", "held", "move"] f fd) (m_len : mg "len" = none) (m_set : mg "set" = none)
    {f1 : Addr} {fd1 : FuncData} (D_areowed : DefAt K mg "_are_owed" s_areowed ["claims", "payments", "numbers", "coins"] f1 fd1)
    {f2 : Addr} {fd2 : FuncData} (D_isring : DefAt K mg "_is_ring" s_isring ["claims", "numbers"] f2 fd2) : FnOk P w K mg base CX0 2 f fd ["claims", "payments", "held", "move"] (spFits K) := by
  have G_areowed : FnOk P w K mg base CX0 1 f1 fd1 ["claims", "payments", "numbers", "coins"] (spAreOwed K) := ok_areowed D_areowed m_len
  have G_isring : FnOk P w K mg base CX0 1 f2 fd2 ["claims", "numbers"] (spIsRing K) := ok_isring D_isring m_len m_set
  refine D.F.ok sc_fits (fun vs H Q E h => ?_) (fun cdv A outer s H vs Q E hr h => ?_)
  · obtain ⟨cl, p, he, u, ts, B, P, m, rfl, _⟩ := h
    rfl
  · obtain ⟨cl, p, he, u, ts, B, P, m, rfl, A, G, hp, hl, hhe, hu, F, k⟩ := h
    refine ⟨_, pss_cons (ps_asg (pv 3) (pg_tup rfl (pgs_cons (pg_name (i := 4) sc_fits.nd rfl (.inl rfl)) (pgs_cons (pg_name (i := 5) sc_fits.nd rfl (.inl rfl)) (pgs_cons (pg_name (i := 6) sc_fits.nd rfl (.inl rfl)) pgs_nil)))))
        (pss_cons (ps_if (pt_cmpR op_eq (pv 4) pe_str (nomark _)) (pss_one (ps_ret (pe_and (pe_call G_areowed (hr.mono (by decide)) (by rfl) D_areowed.g D_areowed.F.kp D_areowed.b .nil pass0 (pa_cons (pv 0) (pa_cons (pv 1) (pa_cons (pv 5) (pa_cons (pv 6) pa_nil))))) (pe_one (pe_call G_isring (hr.mono (by decide)) (by rfl) D_isring.g D_isring.F.kp D_isring.b .nil pass0 (pa_cons (pv 0) (pa_cons (pv 5) pa_nil))))))) pss_nil)
        (pss_cons (ps_if (PW.pt (pw_and (pt_cmpR op_eq (pv 4) pe_str (nomark _)) (pw_and1 (pt_val (pe_call G_areowed (hr.mono (by decide)) (by rfl) D_areowed.g D_areowed.F.kp D_areowed.b .nil pass0 (pa_cons (pv 0) (pa_cons (pv 1) (pa_cons (pe_tup (pa_cons (pv 5) pa_nil)) (pa_cons (pv 6) pa_nil))))))))) (pss_cons (ps_asg (pe_ix (r := rIxT K) ix_tup (pv 0) (pv 5) (fun _ _ => rfl)) (pg_tup rfl (pgs_cons (pg_name (i := 7) sc_fits.nd rfl (.inl rfl)) (pgs_cons (pg_name (i := 8) sc_fits.nd rfl (.inl rfl)) (pgs_cons (pg_name (i := 8) sc_fits.nd rfl (.inl rfl)) (pgs_cons (pg_name (i := 8) sc_fits.nd rfl (.inl rfl)) pgs_nil))))))
          (pss_one (ps_ret (pe_cmpR op_le (pv 6) (pe_ix (r := rIxL K) ix_list (pv 2) (pv 7) (fun _ _ => rfl)) (nomark _))))) pss_nil)
        (pss_one (ps_ret pe_bl)))), ?_⟩
    cases m with
    | pay k' c =>
      have hu' : H u = some (.tup [.str "pay", .int (k' : Int), .int c]) := hu
      refine ⟨_, rfl, u, _, rfl, st_of hu', rfl, _, _, rfl, _, _, rfl, _, _, rfl, rfl, ?_⟩
      dsimp only
      obtain ⟨hkl, hka⟩ := F.owed k' List.mem_cons_self
      have gc := G.clm hkl
      obtain ⟨x, ex, hx⟩ := nat_of gc.d0 gc.d1
      have hpay := F.pay k' c rfl
      refine sq_no (fun H' => H' = H) (fun Q k => ⟨_, rfl, rfl, _, rfl, ?_⟩) (fun H' e => ?_)
      · rw [str_ne pay_ring]
        exact k _ rfl
      subst e
      refine sq_if (fun b H1 => b = true ∧ Same H' H1) (fun Q k => ⟨_, rfl, rfl, _, rfl, ?_⟩) (fun H1 h1 => ?_) (fun H1 h1 => ?_)
      · rw [str_eq]
        refine iteT ⟨_, rfl, _, rfl, _, rfl, by show 1 ≤ sizeLine; decide, fun t nt => ⟨_, rfl, cl, p, t, ts, B, P, [k'], c, rfl, A.same (Same.new nt), (Same.new nt).seq hp, hl, G.m1, st_of upd_same, F.one, F.owed, _, rfl, k _ _ ⟨rfl, Same.new nt⟩⟩⟩
      · obtain ⟨_, s1⟩ := h1
        obtain ⟨t, hat, htq⟩ := (A.same s1).get hkl
        refine ⟨_, rfl, _, rfl, cl, _, _, _, rfl, rfl, (A.same s1).t, hat, t, _, rfl, htq, rfl, _, _, rfl, _, _, rfl, _, _, rfl, _, _, rfl, rfl, ?_⟩
        refine ⟨_, rfl, _, rfl, _, rfl, he, _, _, _, rfl, rfl, s1.seq hhe, atI_g ex (by rw [leftOf_len]; exact hx), _, _, rfl, rfl, ?_⟩
        have e : decide (c ≤ g (leftOf B P) x) = true := decide_eq_true (by have e2 : (B.clm k').d.toNat = x := by omega
                                                                            rw [e2] at hpay; exact hpay)
        show Q (V.bl (decide (c ≤ g (leftOf B P) x))) H1
        rw [e]
        exact k _ s1
      · cases h1.1
    | ring ks c =>
      obtain ⟨t, hu', ht⟩ := hu
      refine ⟨_, rfl, u, _, rfl, st_of hu', rfl, _, _, rfl, _, _, rfl, _, _, rfl, rfl, ?_⟩
      dsimp only
      refine sq_if (fun b H1 => b = true ∧ H1 = H) (fun Q k => ⟨_, rfl, rfl, _, rfl, ?_⟩) (fun H1 h1 => ?_) (fun H1 h1 => ?_)
      · rw [str_eq]
        exact k _ _ ⟨rfl, rfl⟩
      · obtain ⟨_, rfl⟩ := h1
        exact ⟨_, rfl, _, rfl, _, rfl, _, rfl, cl, p, t, ts, B, P, ks, c, rfl, A, hp, hl, G.m1, st_of ht, F.one, F.owed, _, rfl, iteT ⟨_, rfl, _, rfl, cl, t, ts, B, ks, rfl, A, G.m1, st_of ht, fun k hk => (F.owed k hk).1, F.ring ks c rfl, k _ (Same.refl _)⟩⟩
      · cases h1.1
theorem sc_played : FnScope ["book", "moves", "cash", "claims", "payments", "held", "number", "move"] ["book", "moves"] (defScope s_played) := ⟨rfl, rfl, rfl, by decide +kernel, rfl, by decide +kernel, by decide +kernel⟩
/- 0:book 1:moves 2:cash 3:claims 4:payments 5:held 6:number 7:move -/
theorem ok_played {f : Addr} {fd : FuncData} (D : DefAt K mg "played" s_played ["book", "moves"] f fd) (C : PgC K mg) (m_set : mg "set" = none)
    {f1 : Addr} {fd1 : FuncData} (D_areowed : DefAt K mg "_are_owed" s_areowed ["claims", "payments", "numbers", "coins"] f1 fd1)
    {f2 : Addr} {fd2 : FuncData} (D_isring : DefAt K mg "_is_ring" s_isring ["claims", "numbers"] f2 fd2)
    {f3 : Addr} {fd3 : FuncData} (D_fits : DefAt K mg "_fits" s_fits ["claims", "payments", "held", "move"] f3 fd3)
    {f4 : Addr} {fd4 : FuncData} (D_makemv : DefAt K mg "_make_move" s_makemv ["claims", "payments", "held", "move"] f4 fd4) : FnOk P w K mg base CX0 3 f fd ["book", "moves"] (spPlayed K) := by
  obtain ⟨f5, fd5, D_need⟩ := C.need
  have G_need : FnOk P w K mg base CX0 2 f5 fd5 ["book"] (spNeed K) := C.ok_need D_need
  have G_fits : FnOk P w K mg base CX0 2 f3 fd3 ["claims", "payments", "held", "move"] (spFits K) := ok_fits D_fits C.m_len m_set D_areowed D_isring
  have G_makemv : FnOk P w K mg base CX0 1 f4 fd4 ["claims", "payments", "held", "move"] (spMakeMv K) := ok_makemv D_makemv
  have m_len := C.m_len
  have m_list := C.m_list
  have m_enumerate := C.m_enumerate
  refine D.F.ok sc_played (fun vs H Q E h => ?_) (fun cdv A outer s H vs Q E hr h => ?_)
  · obtain ⟨b, ca, cl, ts, B, l, us, ms, rfl, _⟩ := h
    rfl
  · obtain ⟨b, ca, cl, ts, B, l, us, ms, rfl, A, G, hl, hus, hfit, k⟩ := h
    have m1 := G.m1
    have lq : (ts.map V.ref).length = B.claims.length := by rw [List.length_map, A.hq.1]
    refine ⟨_, pss_cons (ps_expr (pe_call G_need (hr.mono (by decide)) (by rfl) D_need.g D_need.F.kp D_need.b .nil pass0 (pa_cons (pv 0) pa_nil)))
        (pss_cons (ps_asg (pv 0) (pg_tup rfl (pgs_cons (pg_name (i := 2) sc_played.nd rfl (.inl rfl)) (pgs_cons (pg_name (i := 3) sc_played.nd rfl (.inl rfl)) pgs_nil))))
        (pss_cons (ps_set (i := 4) sc_played.nd rfl (.inl rfl) (pe_op op_rep (pe_lst (pa_cons pe_int pa_nil)) (pe_callB (r := rLen K) call_len (by rfl) m_len (by decide +kernel) (pa_cons (pv 3) pa_nil))))
        (pss_cons (ps_set (i := 5) sc_played.nd rfl (.inl rfl) (pe_callTy (r := rListOf K) call_listOf (by rfl) m_list (by decide +kernel) (pa_cons (pv 2) pa_nil)))
        (pss_cons (ps_for PassesOwn.never rfl (pi_enum (by rfl) m_enumerate (pa_cons (pv 1) pa_nil)) (pg_tup rfl (pgs_cons (pg_name (i := 6) sc_played.nd rfl (.inl rfl)) (pgs_cons (pg_name (i := 7) sc_played.nd rfl (.inl rfl)) pgs_nil))) (pss_cons (ps_if (pt_not (pt_val (pe_call G_fits (hr.mono (by decide)) (by rfl) D_fits.g D_fits.F.kp D_fits.b .nil pass0 (pa_cons (pv 3) (pa_cons (pv 4) (pa_cons (pv 5) (pa_cons (pv 7) pa_nil))))))) (pss_one ps_never) pss_nil)
          (pss_one (ps_expr (pe_call G_makemv (hr.mono (by decide)) (by rfl) D_makemv.g D_makemv.F.kp D_makemv.b .nil pass0 (pa_cons (pv 3) (pa_cons (pv 4) (pa_cons (pv 5) (pa_cons (pv 7) pa_nil)))))))))
        (pss_one (ps_ret (pe_tup (pa_cons (pv 4) (pa_cons (pv 5) pa_nil))))))))), ?_⟩
    refine sq_drop (fun H1 => Same H H1) (fun Q k => ⟨_, rfl, b, ca, cl, ts, B, rfl, A, G, fun H1 s1 => k _ H1 s1⟩) (fun H1 s1 => ?_)
    have A1 := A.same s1
    refine sq_tup2 (fun Q k => ⟨_, rfl, k⟩) A1.hb ?_
    refine sq_new (.lst ((noneP B).map V.int)) (fun Q k => ?_) (fun p H2 np' s2 hp => ?_)
    · refine ⟨(by show 1 ≤ sizeLine; decide), fun z nz => ⟨_, rfl, cl, _, rfl, .inr ((A1.same (Same.new nz)).hcl), z, _, [.int 0], rfl, rfl, upd_same, by rw [lq]; omega, by rw [lq]; omega, by rw [lq]; show 1 * _ ≤ sizeLine; exact sz_of (by omega), fun p np => ?_⟩⟩
      have e : (List.replicate ((ts.map V.ref).length : Int).toNat [V.int 0]).flatten = (noneP B).map V.int := by
        rw [lq]
        unfold noneP
        rw [Int.toNat_natCast, List.map_replicate]
        generalize B.claims.length = n
        induction n with
        | zero => rfl
        | succ n ih => rw [List.replicate_succ, List.flatten_cons, ih]; rfl
      rw [e]
      exact k p _ ((Same.new nz).free np) ((Same.new nz).trans (Same.new np)) upd_same
    have np := s1.free np'
    have A2 := A1.same s2
    refine sq_new (.lst ((leftOf B (noneP B)).map V.int)) (fun Q k => ⟨_, rfl, ca, _, rfl, .inr A2.hca, fun q nq => k q _ nq (Same.new nq) (by rw [upd_same, left_none])⟩) (fun he H3 nhe' s3 hhe => ?_)
    have nhe := (s1.trans s2).free nhe'
    have ne : p ≠ he := ne_of_none hp nhe'
    have s03 := (s1.trans s2).trans s3
    refine sq_forE (a := l) (xs := us.map V.ref) (fun Q k => ⟨_, rfl, k⟩) (s03.seq hl)
      (fun i σ' H' => Same H H' ∧ H' p = some (.lst ((playedOf (noneP B) (ms.take i)).map V.int)) ∧ H' he = some (.lst ((leftOf B (playedOf (noneP B) (ms.take i))).map V.int)) ∧ ∃ y6 y7, σ' = [some (.ref b), some (.ref l), some (.ref ca), some (.ref cl), some (.ref p), some (.ref he), y6, y7])
      ⟨s03, s3 _ _ hp, hhe, _, _, rfl⟩ (fun i σ' H' _ hW => hW.1.seq hl) (fun i z T σ' H' hz hW nT => ?_) (fun σ' H' hW => ?_)
    · obtain ⟨s4, hp4, hhe4, y6, y7, rfl⟩ := hW
      obtain ⟨u, rfl, hu⟩ := map_ref_get hz
      obtain ⟨m, hm, hum⟩ := (hus.same s4).get hu
      obtain ⟨F, hnext⟩ := allFit_at hfit hm
      have hPl : (playedOf (noneP B) (ms.take i)).length = B.claims.length := by rw [played_len, noneP_len]
      generalize playedOf (noneP B) (ms.take i) = Pi at *
      have s5 : Same H' (upd H' T (.tup [.int (i : Int), .ref u])) := Same.new nT
      have hT5 : (upd H' T (.tup [.int (i : Int), .ref u])) T = some (.tup [.int (i : Int), .ref u]) := upd_same
      generalize upd H' T (.tup [.int (i : Int), .ref u]) = H5 at s5 hT5 ⊢
      have s45 := s4.trans s5
      have A5 := A.same s45
      refine ⟨T, _, rfl, st_of hT5, rfl, _, _, rfl, _, _, rfl, rfl, ?_⟩
      dsimp only
      refine sq_no (fun H6 => Same H5 H6) (fun Q k => ⟨_, rfl, _, rfl, _, rfl, _, rfl, cl, p, he, u, ts, B, Pi, m, rfl, ⟨A5.hcl, A5.hq⟩, G, sq_of (s5 _ _ hp4), hPl, sq_of (s5 _ _ hhe4), hum.same s5, F, fun H6 s6 => ⟨_, rfl, k _ s6⟩⟩) (fun H6 s6 => ?_)
      have s46 := s45.trans s6
      have A6 := A.same s46
      refine ⟨_, rfl, _, rfl, _, rfl, _, rfl, cl, p, he, u, ts, B, Pi, m, rfl, ⟨A6.hcl, A6.hq⟩, G, s6 _ _ (s5 _ _ hp4), hPl, s6 _ _ (s5 _ _ hhe4), ne, (hum.same s5).same s6, F, fun H7 o7 hp7 hhe7 => ⟨fun a o h => o7 _ _ (s46 _ _ h) fun z => ?_, ?_, ?_, _, _, rfl⟩⟩
      · rcases z with z | z
        · rw [z, np] at h; cases h
        · rw [z, nhe] at h; cases h
      · rw [hp7, hnext]
      · rw [hhe7, hnext]
    · obtain ⟨s4, hp4, hhe4, y6, y7, rfl⟩ := hW
      rw [List.length_map, hus.1, List.take_length] at hp4 hhe4
      refine ⟨_, rfl, _, rfl, by show 2 ≤ sizeLine; decide, fun t nt => ?_⟩
      exact k t p he _ (s4.trans (Same.new nt)) (s4.free nt) np nhe upd_same ((Same.new nt) _ _ hp4) ((Same.new nt) _ _ hhe4)
end


end Rf
namespace Rf
open PySem PySem.Spec PyProof.Rows L2
/-! ### dict(pairs), their numbers unlike -/
theorem putK_new {kvs : List (Key × V)} {k : Key} {v : V} (h : ∀ q ∈ kvs, q.1 ≠ k) : putK kvs k v = kvs ++ [(k, v)] := by
  unfold putK
  rw [if_neg]
  intro z
  obtain ⟨q, hq, e⟩ := List.any_eq_true.mp z
  exact h q hq (of_decide_eq_true e)
theorem merge_nodup : ∀ {more kvs : List (Key × V)}, ((kvs ++ more).map (·.1)).Nodup → mergeK kvs more = kvs ++ more
  | [], kvs, _ => (List.append_nil kvs).symm
  | q :: more, kvs, h => by
    have e : mergeK kvs (q :: more) = mergeK (putK kvs q.1 q.2) more := rfl
    have h2 := h
    rw [List.map_append, List.map_cons] at h2
    have hn : ∀ r ∈ kvs, r.1 ≠ q.1 := fun r hr z => (List.nodup_append.mp h2).2.2 r.1 (List.mem_map.mpr ⟨r, hr, rfl⟩) q.1 List.mem_cons_self z
    rw [e, putK_new hn, merge_nodup (by rw [List.append_assoc]; exact h), List.append_assoc]
    rfl
/-- what a house pays, as a dict's rows -/
def payKvs (L : List (Nat × Int)) : List (Key × V) := L.map fun x => ((Sum.inl (x.1 : Int) : Key), V.int x.2)
theorem payKvs_nodup {L : List (Nat × Int)} (h : (L.map (·.1)).Nodup) : ((payKvs L).map (·.1)).Nodup := by
  unfold payKvs
  rw [List.map_map]
  have e : L.map ((·.1) ∘ fun x : Nat × Int => ((Sum.inl (x.1 : Int) : Key), V.int x.2)) = (L.map (·.1)).map fun k : Nat => (Sum.inl (k : Int) : Key) := by
    rw [List.map_map]
    rfl
  rw [e]
  exact List.pairwise_map.mpr (h.imp fun hne z => hne (Int.ofNat.inj (Sum.inl.inj z)))
theorem payKvs_get {L : List (Nat × Int)} (h : (L.map (·.1)).Nodup) {k : Nat} {c : Int} (hm : (k, c) ∈ L) : valV (payKvs L) (Sum.inl (k : Int)) = some (.int c) := by
  induction L with
  | nil => cases hm
  | cons x L ih =>
    rw [List.map_cons, List.nodup_cons] at h
    unfold valV payKvs
    rw [List.map_cons, List.find?_cons]
    by_cases e : x.1 = k
    · rw [decide_eq_true (show ((Sum.inl (x.1 : Int) : Key) = Sum.inl (k : Int)) by rw [e])]
      rcases List.mem_cons.mp hm with q | q
      · rw [← q]
        rfl
      · exact absurd (List.mem_map.mpr ⟨_, q, e.symm⟩) h.1
    · rw [decide_eq_false (fun z : ((Sum.inl (x.1 : Int) : Key) = Sum.inl (k : Int)) => e (Int.ofNat.inj (Sum.inl.inj z)))]
      rcases List.mem_cons.mp hm with q | q
      · exact absurd (congrArg Prod.fst q).symm e
      · exact ih h.2 q


end Rf
namespace Rf
open PySem PySem.Spec PyProof.Rows L2
def spLaw (K : PySem.W.Frag) : Sp := fun vs H Q _ => ∃ (a : Addr) (ns : List Int), vs = [.ref a] ∧ SqL K H a (ns.map V.int) ∧ ns.length ≤ 63 ∧ ∀ H', Q (.bl true) H'
def spAsk (K : PySem.W.Frag) (F : Bk → List Int) : Sp := fun vs H Q _ => ∃ (b ca cl : Addr) (ts : List Addr) (B : Bk), vs = [.ref b] ∧ BookAt K H b ca cl ts B ∧ Good B ∧ ∀ p H', H p = none → Same H H' → H' p = some (.lst ((F B).map V.int)) → Q (.ref p) H'
theorem upTo_get {n i : Nat} (h : i < n) : (upTo n 0)[i]? = some (i : Int) := by
  unfold upTo
  rw [List.drop_zero, List.getElem?_map, List.getElem?_range h]
  rfl
/-! the rows that the law sorts -/
def NestAt (H : Hp) (way : Nat) (B : Bk) (us : List Addr) : Prop := ∀ (j : Nat) (u : Addr), us[j]? = some u → ∃ b, H u = some (.tup [.ref b, .int (j : Int)]) ∧ H b = some (.tup ((keyW way (B.clm j)).map V.int))
theorem NestAt.same {H H' : Hp} {way : Nat} {B : Bk} {us : List Addr} (A : NestAt H way B us) (s : Same H H') : NestAt H' way B us := fun j u h => by
  obtain ⟨b, h1, h2⟩ := A j u h
  exact ⟨b, s _ _ h1, s _ _ h2⟩
theorem NestAt.put {H : Hp} {way : Nat} {B : Bk} {us : List Addr} {p : Addr} {o : HO} {xs : List V} (A : NestAt H way B us) (hp : H p = some (.lst xs)) : NestAt (L2.upd H p o) way B us := fun j u h => by
  obtain ⟨b, h1, h2⟩ := A j u h
  exact ⟨b, by rw [upd_ne (ne_of h1 hp (fun z => nomatch z))]; exact h1, by rw [upd_ne (ne_of h2 hp (fun z => nomatch z))]; exact h2⟩
theorem NestAt.app {H : Hp} {way : Nat} {B : Bk} {us : List Addr} {u b : Addr} (A : NestAt H way B us) (h1 : H u = some (.tup [.ref b, .int (us.length : Int)])) (h2 : H b = some (.tup ((keyW way (B.clm us.length)).map V.int))) : NestAt H way B (us ++ [u]) := fun j v h => by
  by_cases hj : j < us.length
  · rw [List.getElem?_append_left hj] at h
    exact A j v h
  · have e : j = us.length := by
      have := (List.getElem?_eq_some_iff.mp h).1
      rw [List.length_append] at this
      have : j < us.length + 1 := this
      omega
    subst e
    rw [List.getElem?_append_right (Nat.le_refl _), Nat.sub_self] at h
    cases h
    exact ⟨b, h1, h2⟩
/-- the number that stands in a row -/
def kOf (H : Hp) (x : V) : Nat := match x with
  | .ref u => match H u with
    | some (.tup [_, .int k]) => k.toNat
    | _ => 0
  | _ => 0
theorem kOf_of {H : Hp} {u b : Addr} {j : Nat} (h : H u = some (.tup [.ref b, .int (j : Int)])) : kOf H (.ref u) = j := by
  show (match H u with
    | some (.tup [_, .int k]) => k.toNat
    | _ => 0) = j
  rw [h]
  exact Int.toNat_natCast j
theorem nest_ks {H : Hp} {way : Nat} {B : Bk} {us : List Addr} (A : NestAt H way B us) : (us.map V.ref).map (kOf H) = List.range us.length := by
  apply List.ext_getElem?
  intro j
  rw [List.map_map, List.getElem?_map]
  by_cases hj : j < us.length
  · obtain ⟨b, h1, _⟩ := A j us[j] (List.getElem?_eq_getElem hj)
    rw [List.getElem?_eq_getElem hj, List.getElem?_range hj]
    exact congrArg some (kOf_of h1)
  · rw [List.getElem?_eq_none (by omega), List.getElem?_eq_none (by rw [List.length_range]; omega)]
    rfl
theorem nest_mem {H : Hp} {way : Nat} {B : Bk} {us : List Addr} (A : NestAt H way B us) {x : V} (hx : x ∈ us.map V.ref) : ∃ u b, x = .ref u ∧ kOf H x < us.length ∧ H u = some (.tup [.ref b, .int (kOf H x : Int)]) ∧ H b = some (.tup ((keyW way (B.clm (kOf H x))).map V.int)) := by
  obtain ⟨u, hu, rfl⟩ := List.mem_map.mp hx
  obtain ⟨j, hj⟩ := List.mem_iff_getElem?.mp hu
  obtain ⟨b, h1, h2⟩ := A j u hj
  have e := kOf_of h1
  rw [e]
  exact ⟨u, b, rfl, (List.getElem?_eq_some_iff.mp hj).1, h1, h2⟩
theorem Paired.prs {K : PySem.W.Frag} {H : Hp} : ∀ {us : List Addr} {L : List (Nat × Int)}, PrsAt H us L → Paired (fun p kv => SqT K H p [kV kv.1, kv.2]) us (payKvs L)
  | [], [], _ => .nil
  | [], _ :: _, A => absurd A.1 (by simp)
  | _ :: _, [], A => absurd A.1 (by simp)
  | u :: us, x :: L, A => .cons (st_of (A.2 0 u x rfl rfl)) (Paired.prs ⟨Nat.succ.inj A.1, fun i t y h1 h2 => A.2 (i + 1) t y h1 h2⟩)
section
variable {P : Program} {w : World} {K : PySem.W.Frag} {mg : Str → Option Value} {base : Heap}
theorem sc_law : FnScope ["_law_script", "_law_h", "_law_book_here", "_law_numbers", "_law_way", "_law_rows", "_law_k", "_law_debtor", "_law_creditor", "_law_amount", "_law_rank", "_law_places", "_law_twin", "_law_ask", "_law_mine", "_law_yours", "_law_house", "_law_means", "_law_moves", "_law_picks", "_law_value", "_law_pair"] ["_law_script"] (defScope s_law) := ⟨rfl, rfl, rfl, by decide +kernel, rfl, by decide +kernel, by decide +kernel⟩
/- 0:_law_script 1:_law_h 2:_law_book_here 3:_law_numbers 4:_law_way 5:_law_rows 6:_law_k 7:_law_debtor 8:_law_creditor 9:_law_amount 10:_law_rank 11:_law_places 12:_law_twin 13:_law_ask 14:_law_mine 15:_law_yours 16:_law_house 17:_law_means 18:_law_moves 19:_law_picks 20:_law_value 21:_law_pair -/
theorem law_body {f : Addr} {fd : FuncData} (D : DefAt K mg "law" s_law ["_law_script"] f fd) (m_range : mg "range" = none) (m_len : mg "len" = none) (m_list : mg "list" = none) (m_tuple : mg "tuple" = none) (m_sorted : mg "sorted" = none) (m_dict : mg "dict" = none)
    {f1 : Addr} {fd1 : FuncData} (D_next : DefAt K mg "_law_next" s_next ["_law_h", "_law_many"] f1 fd1) (G_next : FnOk P w K mg base CX0 1 f1 fd1 ["_law_h", "_law_many"] spNext)
    {f2 : Addr} {fd2 : FuncData} (D_lbook : DefAt K mg "_law_book" s_lbook ["_law_h", "_law_houses", "_law_claims", "_law_wide"] f2 fd2) (G_lbook : FnOk P w K mg base CX0 2 f2 fd2 ["_law_h", "_law_houses", "_law_claims", "_law_wide"] (spLBook K))
    {f3 : Addr} {fd3 : FuncData} (D_are : DefAt K mg "_law_are" s_are ["_law_found", "_law_due"] f3 fd3) (G_are : FnOk P w K mg base CX0 1 f3 fd3 ["_law_found", "_law_due"] (spAre K))
    {f4 : Addr} {fd4 : FuncData} (D_isclr : DefAt K mg "is_clearing" s_isclr ["book", "payments"] f4 fd4) (G_isclr : FnOk P w K mg base CX0 20 f4 fd4 ["book", "payments"] (spIsClr K))
    {f5 : Addr} {fd5 : FuncData} (D_failing : DefAt K mg "failing" s_failing ["book"] f5 fd5) (G_failing : FnOk P w K mg base CX0 20 f5 fd5 ["book"] (spFailing K))
    {f6 : Addr} {fd6 : FuncData} (D_best : DefAt K mg "best" s_best ["book"] f6 fd6) (G_best : FnOk P w K mg base CX0 20 f6 fd6 ["book"] (spAsk K bestOf))
    {f7 : Addr} {fd7 : FuncData} (D_worst : DefAt K mg "worst" s_worst ["book"] f7 fd7) (G_worst : FnOk P w K mg base CX0 20 f7 fd7 ["book"] (spAsk K worstOf))
    {f8 : Addr} {fd8 : FuncData} (D_waves : DefAt K mg "waves" s_waves ["book"] f8 fd8) (G_waves : FnOk P w K mg base CX0 20 f8 fd8 ["book"] (spWaves K))
    {f9 : Addr} {fd9 : FuncData} (D_paidby : DefAt K mg "paid_by" s_paidby ["book", "house", "means"] f9 fd9) (G_paidby : FnOk P w K mg base CX0 20 f9 fd9 ["book", "house", "means"] (spPaidBy K))
    {f10 : Addr} {fd10 : FuncData} (D_order : DefAt K mg "order" s_order ["book"] f10 fd10) (G_order : FnOk P w K mg base CX0 20 f10 fd10 ["book"] (spOrder K))
    {f11 : Addr} {fd11 : FuncData} (D_played : DefAt K mg "played" s_played ["book", "moves"] f11 fd11) (G_played : FnOk P w K mg base CX0 20 f11 fd11 ["book", "moves"] (spPlayed K))
    {f12 : Addr} {fd12 : FuncData} (D_stilled : DefAt K mg "stilled" s_stilled ["book", "picks"] f12 fd12) (G_stilled : FnOk P w K mg base CX0 20 f12 fd12 ["book", "picks"] (spStilled K)) : FnOk P w K mg base CX0 22 f fd ["_law_script"] (spLaw K) := by
  have A_ask : ∀ (a : Addr) (sp : Sp), (if a = f6 then some (spAsk K bestOf) else if a = f7 then some (spAsk K worstOf) else none) = some sp → Held P w K mg base 20 a sp := fun a sp hs => by
    by_cases e6 : a = f6
    · subst e6
      rw [if_pos rfl] at hs
      cases hs
      exact ⟨_, _, G_best, D_best.F.kp, D_best.b⟩
    · rw [if_neg e6] at hs
      by_cases e7 : a = f7
      · subst e7
        rw [if_pos rfl] at hs
        cases hs
        exact ⟨_, _, G_worst, D_worst.F.kp, D_worst.b⟩
      · rw [if_neg e7] at hs
        cases hs
  have ask_of : ∀ (j : Nat) (y : V), ([V.ref f6, V.ref f7] : List V)[j]? = some y → ∃ (a : Addr) (F : Bk → List Int), y = .ref a ∧ (if a = f6 then some (spAsk K bestOf) else if a = f7 then some (spAsk K worstOf) else none) = some (spAsk K F) ∧ (∀ B, Good B → Clears B (F B)) ∧ ∀ B p, Twin B p → Good B → F (twinOf B p) = byP p (F B) := fun j y hy => by
    match j, hy with
    | 0, hy =>
      cases hy
      exact ⟨f6, bestOf, rfl, if_pos rfl, fun B G => best_clears G, fun B p T G => T.best G⟩
    | 1, hy =>
      cases hy
      by_cases e : f7 = f6
      · exact ⟨f7, bestOf, rfl, if_pos e, fun B G => best_clears G, fun B p T G => T.best G⟩
      · exact ⟨f7, worstOf, rfl, by rw [if_neg e, if_pos rfl], fun B G => worst_clears G, fun B p T G => T.worst G⟩
    | n + 2, hy => cases hy
  refine D.F.ok sc_law (fun vs H Q E h => ?_) (fun cdv A outer s H vs Q E hr h => ?_)
  · obtain ⟨a, ns, rfl, _⟩ := h
    rfl
  · obtain ⟨a, ns, rfl, ha, hns, k⟩ := h
    have hu := hu_of hr
    refine ⟨_, pss_cons (ps_set (i := 1) sc_law.nd rfl (.inr rfl) (pe_lst (pa_cons pe_int (pa_cons (pe_callTy (r := rListOf K) call_listOf (by rfl) m_list (by decide +kernel) (pa_cons (pv 0) pa_nil)) (pa_cons pe_int pa_nil)))))
        (pss_cons (ps_set (i := 2) sc_law.nd rfl (.inr rfl) (pe_call G_lbook (hr.mono (by decide)) (by rfl) D_lbook.g D_lbook.F.kp D_lbook.b .nil pass0 (pa_cons (pv 1) (pa_cons pe_int (pa_cons pe_int (pa_cons pe_int pa_nil))))))
        (pss_cons (ps_set (i := 3) sc_law.nd rfl (.inl rfl) (pe_listRg rfl (by rfl) m_list (prg_1 (by rfl) m_range (pe_callB (r := rLen K) call_len (by rfl) m_len (by decide +kernel) (pa_cons (pe_ix (r := rIxT K) ix_tup (pv 2) pe_int (fun _ _ => rfl)) pa_nil)))))
        (pss_cons (ps_par (i := 4) (j := 5) (by rfl) sc_law.nd rfl rfl (by decide) rfl rfl (pa_cons (pe_call G_next (hr.mono (by decide)) (by rfl) D_next.g D_next.F.kp D_next.b .nil pass0 (pa_cons (pv 1) (pa_cons pe_int pa_nil))) (pa_cons (pe_lst pa_nil) pa_nil)) (by rfl))
        (pss_cons (ps_for PassesOwn.never rfl (pi_list (pv 3)) (pg_name (i := 6) sc_law.nd rfl (.inl rfl)) (pss_cons (ps_asg (pe_ix (r := rIxT K) ix_tup (pe_ix (r := rIxT K) ix_tup (pv 2) pe_int (fun _ _ => rfl)) (pv 6) (fun _ _ => rfl)) (pg_tup rfl (pgs_cons (pg_name (i := 7) sc_law.nd rfl (.inl rfl)) (pgs_cons (pg_name (i := 8) sc_law.nd rfl (.inl rfl)) (pgs_cons (pg_name (i := 9) sc_law.nd rfl (.inl rfl)) (pgs_cons (pg_name (i := 10) sc_law.nd rfl (.inl rfl)) pgs_nil))))))
          (pss_one (ps_expr (pe_bm PySem.F.plainAttrs_list PySem.F.slot_list_append PySem.F.type_list_append mt_append (pv 5) (pa_cons (pe_tup (pa_cons (pe_ix (r := rIxL K) ix_list (pe_lst (pa_cons (pe_tup (pa_cons (pv 10) pa_nil)) (pa_cons (pe_tup (pa_cons (pe_op op_sub pe_int (pv 10)) pa_nil)) (pa_cons (pe_tup (pa_cons (pv 7) (pa_cons (pv 10) pa_nil))) pa_nil)))) (pv 4) (fun _ _ => rfl)) (pa_cons (pv 6) pa_nil))) pa_nil))))))
        (pss_cons (ps_set (i := 11) sc_law.nd rfl (.inr rfl) (pe_lc (own := [("_law_k", 6), ("_law_value", 20)]) (g := (gTup K 2 (gCons (gName 20) (gCons (gName 6) gNil)))) (tt := tYes) (by rfl) sc_law.nd (pi_list (pe_callB (r := rSortedN K) (cr_sortedN hr.units) (by rfl) m_sorted (by decide +kernel) (pa_cons (pv 5) pa_nil))) (blkOk_by (own := [("_law_k", 6), ("_law_value", 20)]) (N := ["_law_script", "_law_h", "_law_book_here", "_law_numbers", "_law_way", "_law_rows", "_law_k", "_law_debtor", "_law_creditor", "_law_amount", "_law_rank", "_law_places", "_law_twin", "_law_ask", "_law_mine", "_law_yours", "_law_house", "_law_means", "_law_moves", "_law_picks", "_law_value", "_law_pair"]) (sc := defScope s_law) (by decide +kernel)) (fun _ _ _ _ _ => (pg_tup rfl (pgs_cons (pg_name (i := 20) sc_law.nd rfl (.inl rfl)) (pgs_cons (pg_name (i := 6) sc_law.nd rfl (.inl rfl)) pgs_nil)))) (fun _ _ _ _ _ => pts_nil) (fun _ _ _ _ _ => (pv 6))))
        (pss_cons (ps_set (i := 12) sc_law.nd rfl (.inl rfl) (pe_tup (pa_cons (pe_ix (r := rIxT K) ix_tup (pv 2) pe_int (fun _ _ => rfl)) (pa_cons (pe_callTy (r := rTupleOf K) call_tupleOf (by rfl) m_tuple (by decide +kernel) (pa_cons (pe_lc (own := [("_law_k", 6)]) (g := gName 6) (tt := tYes) (by rfl) sc_law.nd (pi_list (pv 11)) (blkOk_by (own := [("_law_k", 6)]) (N := ["_law_script", "_law_h", "_law_book_here", "_law_numbers", "_law_way", "_law_rows", "_law_k", "_law_debtor", "_law_creditor", "_law_amount", "_law_rank", "_law_places", "_law_twin", "_law_ask", "_law_mine", "_law_yours", "_law_house", "_law_means", "_law_moves", "_law_picks", "_law_value", "_law_pair"]) (sc := defScope s_law) (by decide +kernel)) (fun _ _ _ _ _ => (pg_name (i := 6) sc_law.nd rfl (.inl rfl))) (fun _ _ _ _ _ => pts_nil) (fun _ _ _ _ _ => (pe_ix (r := rIxT K) ix_tup (pe_ix (r := rIxT K) ix_tup (pv 2) pe_int (fun _ _ => rfl)) (pv 6) (fun _ _ => rfl)))) pa_nil)) pa_nil))))
        (pss_cons (ps_for PassesOwn.never rfl (pi_tup (pe_tup (pa_cons (pe_glob (v := .ref _) (by rfl) D_best.g rfl) (pa_cons (pe_glob (v := .ref _) (by rfl) D_worst.g rfl) pa_nil)))) (pg_name (i := 13) sc_law.nd rfl (.inl rfl)) (pss_cons (ps_asg (pe_tup (pa_cons (pe_callA (i := 13) A_ask (hr.mono (by decide)) rfl (.inl rfl) (pa_cons (pv 2) pa_nil)) (pa_cons (pe_callA (i := 13) A_ask (hr.mono (by decide)) rfl (.inl rfl) (pa_cons (pv 12) pa_nil)) pa_nil))) (pg_tup rfl (pgs_cons (pg_name (i := 14) sc_law.nd rfl (.inr rfl)) (pgs_cons (pg_name (i := 15) sc_law.nd rfl (.inl rfl)) pgs_nil))))
          (pss_one (ps_if (PW.pt (pw_or (pt_not (pt_val (pe_call G_are (hr.mono (by decide)) (by rfl) D_are.g D_are.F.kp D_are.b .nil pass0 (pa_cons (pv 15) (pa_cons (pe_lc (own := [("_law_k", 6)]) (g := gName 6) (tt := tYes) (by rfl) sc_law.nd (pi_list (pv 11)) (blkOk_by (own := [("_law_k", 6)]) (N := ["_law_script", "_law_h", "_law_book_here", "_law_numbers", "_law_way", "_law_rows", "_law_k", "_law_debtor", "_law_creditor", "_law_amount", "_law_rank", "_law_places", "_law_twin", "_law_ask", "_law_mine", "_law_yours", "_law_house", "_law_means", "_law_moves", "_law_picks", "_law_value", "_law_pair"]) (sc := defScope s_law) (by decide +kernel)) (fun _ _ _ _ _ => (pg_name (i := 6) sc_law.nd rfl (.inl rfl))) (fun _ _ _ _ _ => pts_nil) (fun _ _ _ _ _ => (pe_ix (r := rIxL K) ix_list (pv 14) (pv 6) (fun _ _ => rfl)))) pa_nil))))) (pw_or1 (pt_not (pt_val (pe_call G_isclr (hr.mono (by decide)) (by rfl) D_isclr.g D_isclr.F.kp D_isclr.b .nil pass0 (pa_cons (pv 12) (pa_cons (pe_lc (own := [("_law_k", 6)]) (g := gName 6) (tt := tYes) (by rfl) sc_law.nd (pi_list (pv 11)) (blkOk_by (own := [("_law_k", 6)]) (N := ["_law_script", "_law_h", "_law_book_here", "_law_numbers", "_law_way", "_law_rows", "_law_k", "_law_debtor", "_law_creditor", "_law_amount", "_law_rank", "_law_places", "_law_twin", "_law_ask", "_law_mine", "_law_yours", "_law_house", "_law_means", "_law_moves", "_law_picks", "_law_value", "_law_pair"]) (sc := defScope s_law) (by decide +kernel)) (fun _ _ _ _ _ => (pg_name (i := 6) sc_law.nd rfl (.inl rfl))) (fun _ _ _ _ _ => pts_nil) (fun _ _ _ _ _ => (pe_ix (r := rIxL K) ix_list (pv 14) (pv 6) (fun _ _ => rfl)))) pa_nil)))))))) (pss_one (ps_ret pe_bl)) pss_nil))))
        (pss_cons (ps_if (PW.pt (pw_or (pt_cmpR (op_neD hr.units) (pe_call G_failing (hr.mono (by decide)) (by rfl) D_failing.g D_failing.F.kp D_failing.b .nil pass0 (pa_cons (pv 12) pa_nil)) (pe_call G_failing (hr.mono (by decide)) (by rfl) D_failing.g D_failing.F.kp D_failing.b .nil pass0 (pa_cons (pv 2) pa_nil)) (nomark _)) (pw_or1 (pt_cmpR (op_neD hr.units) (pe_call G_waves (hr.mono (by decide)) (by rfl) D_waves.g D_waves.F.kp D_waves.b .nil pass0 (pa_cons (pv 12) pa_nil)) (pe_call G_waves (hr.mono (by decide)) (by rfl) D_waves.g D_waves.F.kp D_waves.b .nil pass0 (pa_cons (pv 2) pa_nil)) (nomark _))))) (pss_one (ps_ret pe_bl)) pss_nil)
        (pss_cons (ps_for PassesOwn.never rfl (pi_range1 (by rfl) m_range (pa_cons (pe_callB (r := rLen K) call_len (by rfl) m_len (by decide +kernel) (pa_cons (pe_ix (r := rIxT K) ix_tup (pv 2) pe_int (fun _ _ => rfl)) pa_nil)) pa_nil)) (pg_name (i := 16) sc_law.nd rfl (.inl rfl)) (pss_cons (ps_set (i := 17) sc_law.nd rfl (.inl rfl) (pe_call G_next (hr.mono (by decide)) (by rfl) D_next.g D_next.F.kp D_next.b .nil pass0 (pa_cons (pv 1) (pa_cons pe_int pa_nil))))
          (pss_cons (ps_set (i := 14) sc_law.nd rfl (.inr rfl) (pe_callTy (call_dictP rfl) (by rfl) m_dict (by decide +kernel) (pa_cons (pe_call G_paidby (hr.mono (by decide)) (by rfl) D_paidby.g D_paidby.F.kp D_paidby.b .nil pass0 (pa_cons (pv 2) (pa_cons (pv 16) (pa_cons (pv 17) pa_nil)))) pa_nil)))
          (pss_cons (ps_if (pt_cmpR (op_neD hr.units) (pe_lc (own := [("_law_pair", 21)]) (g := gName 21) (by rfl) sc_law.nd (pi_list (pe_call G_paidby (hr.mono (by decide)) (by rfl) D_paidby.g D_paidby.F.kp D_paidby.b .nil pass0 (pa_cons (pv 12) (pa_cons (pv 16) (pa_cons (pv 17) pa_nil))))) (blkOk_by (own := [("_law_pair", 21)]) (N := ["_law_script", "_law_h", "_law_book_here", "_law_numbers", "_law_way", "_law_rows", "_law_k", "_law_debtor", "_law_creditor", "_law_amount", "_law_rank", "_law_places", "_law_twin", "_law_ask", "_law_mine", "_law_yours", "_law_house", "_law_means", "_law_moves", "_law_picks", "_law_value", "_law_pair"]) (sc := defScope s_law) (by decide +kernel)) (fun _ _ _ _ _ => (pg_name (i := 21) sc_law.nd rfl (.inl rfl))) (fun _ _ _ _ _ => (pts_one (pt_cmpR op_ne (pe_dget2 hu (pv 14) (pe_ix (r := rIxL K) ix_list (pv 11) (pe_ix (r := rIxT K) ix_tup (pv 21) pe_int (fun _ _ => rfl)) (fun _ _ => rfl)) (pe_un un_neg pe_int) ⟨rfl, rfl, rfl, rfl⟩) (pe_ix (r := rIxT K) ix_tup (pv 21) pe_int (fun _ _ => rfl)) (nomark _)))) (fun _ _ _ _ _ => (pv 21))) (pe_lst pa_nil) (nomark _)) (pss_one (ps_ret pe_bl)) pss_nil)
          (pss_one (ps_if (pt_cmpR op_ne (pe_callB (r := rLen K) call_len (by rfl) m_len (by decide +kernel) (pa_cons (pe_call G_paidby (hr.mono (by decide)) (by rfl) D_paidby.g D_paidby.F.kp D_paidby.b .nil pass0 (pa_cons (pv 12) (pa_cons (pv 16) (pa_cons (pv 17) pa_nil)))) pa_nil)) (pe_callB call_lenD (by rfl) m_len (by decide +kernel) (pa_cons (pv 14) pa_nil)) (nomark _)) (pss_one (ps_ret pe_bl)) pss_nil))))))
        (pss_cons (ps_set (i := 18) sc_law.nd rfl (.inl rfl) (pe_call G_order (hr.mono (by decide)) (by rfl) D_order.g D_order.F.kp D_order.b .nil pass0 (pa_cons (pv 12) pa_nil)))
        (pss_cons (ps_if (pt_cmpR (op_neD hr.units) (pe_ix (r := rIxT K) ix_tup (pe_call G_played (hr.mono (by decide)) (by rfl) D_played.g D_played.F.kp D_played.b .nil pass0 (pa_cons (pv 12) (pa_cons (pv 18) pa_nil))) pe_int (fun _ _ => rfl)) (pe_lc (own := [("_law_k", 6)]) (g := gName 6) (tt := tYes) (by rfl) sc_law.nd (pi_list (pv 11)) (blkOk_by (own := [("_law_k", 6)]) (N := ["_law_script", "_law_h", "_law_book_here", "_law_numbers", "_law_way", "_law_rows", "_law_k", "_law_debtor", "_law_creditor", "_law_amount", "_law_rank", "_law_places", "_law_twin", "_law_ask", "_law_mine", "_law_yours", "_law_house", "_law_means", "_law_moves", "_law_picks", "_law_value", "_law_pair"]) (sc := defScope s_law) (by decide +kernel)) (fun _ _ _ _ _ => (pg_name (i := 6) sc_law.nd rfl (.inl rfl))) (fun _ _ _ _ _ => pts_nil) (fun _ _ _ _ _ => (pe_ix (r := rIxL K) ix_list (pe_call G_best (hr.mono (by decide)) (by rfl) D_best.g D_best.F.kp D_best.b .nil pass0 (pa_cons (pv 2) pa_nil)) (pv 6) (fun _ _ => rfl)))) (nomark _)) (pss_one (ps_ret pe_bl)) pss_nil)
        (pss_cons (ps_set (i := 19) sc_law.nd rfl (.inr rfl) (pe_lc (own := [("_law_k", 6)]) (g := gName 6) (tt := tYes) (by rfl) sc_law.nd (pi_range1 (by rfl) m_range (pa_cons (pe_call G_next (hr.mono (by decide)) (by rfl) D_next.g D_next.F.kp D_next.b .nil pass0 (pa_cons (pv 1) (pa_cons pe_int pa_nil))) pa_nil)) (blkOk_by (own := [("_law_k", 6)]) (N := ["_law_script", "_law_h", "_law_book_here", "_law_numbers", "_law_way", "_law_rows", "_law_k", "_law_debtor", "_law_creditor", "_law_amount", "_law_rank", "_law_places", "_law_twin", "_law_ask", "_law_mine", "_law_yours", "_law_house", "_law_means", "_law_moves", "_law_picks", "_law_value", "_law_pair"]) (sc := defScope s_law) (by decide +kernel)) (fun _ _ _ _ _ => (pg_name (i := 6) sc_law.nd rfl (.inl rfl))) (fun _ _ _ _ _ => pts_nil) (fun _ _ _ _ _ => (pe_call G_next (hr.mono (by decide)) (by rfl) D_next.g D_next.F.kp D_next.b .nil pass0 (pa_cons (pv 1) (pa_cons (pe_callB (r := rLen K) call_len (by rfl) m_len (by decide +kernel) (pa_cons (pe_ix (r := rIxT K) ix_tup (pv 2) pe_int (fun _ _ => rfl)) pa_nil)) pa_nil))))))
        (pss_one (ps_ret (pe_cmpR (op_eqD hr.units) (pe_call G_stilled (hr.mono (by decide)) (by rfl) D_stilled.g D_stilled.F.kp D_stilled.b .nil pass0 (pa_cons (pv 12) (pa_cons (pv 19) pa_nil))) (pe_lc (own := [("_law_k", 6)]) (g := gName 6) (tt := tYes) (by rfl) sc_law.nd (pi_list (pv 11)) (blkOk_by (own := [("_law_k", 6)]) (N := ["_law_script", "_law_h", "_law_book_here", "_law_numbers", "_law_way", "_law_rows", "_law_k", "_law_debtor", "_law_creditor", "_law_amount", "_law_rank", "_law_places", "_law_twin", "_law_ask", "_law_mine", "_law_yours", "_law_house", "_law_means", "_law_moves", "_law_picks", "_law_value", "_law_pair"]) (sc := defScope s_law) (by decide +kernel)) (fun _ _ _ _ _ => (pg_name (i := 6) sc_law.nd rfl (.inl rfl))) (fun _ _ _ _ _ => pts_nil) (fun _ _ _ _ _ => (pe_ix (r := rIxL K) ix_list (pe_call G_stilled (hr.mono (by decide)) (by rfl) D_stilled.g D_stilled.F.kp D_stilled.b .nil pass0 (pa_cons (pv 2) (pa_cons (pv 19) pa_nil))) (pv 6) (fun _ _ => rfl)))) (nomark _)))))))))))))))), ?_⟩
    refine sq_set (fun v H1 => ∃ h c, v = .ref h ∧ RngAt H1 h c) (fun Q k => ⟨_, rfl, a, _, rfl, .inl ha, fun c nc => ⟨by show 3 ≤ sizeLine; decide, fun h nh => k _ _ ⟨h, c, rfl, rng_start nc nh hns (by decide) (by decide)⟩⟩⟩) (fun v H1 hv => ?_)
    obtain ⟨h, c, rfl, R⟩ := hv
    refine sq_set (fun v H2 => ∃ b ca cl ts B, v = .ref b ∧ Good B ∧ RngAt H2 h c ∧ BookAt K H2 b ca cl ts B) (fun Q k => ⟨_, rfl, h, c, 8, 24, 30, rfl, R, by decide, by decide, by decide, by decide, by decide, by decide, fun b ca cl ts B H' G _ _ _ _ _ F A => k _ _ ⟨b, ca, cl, ts, B, rfl, G, F.rng, A⟩⟩) (fun v H2 hv => ?_)
    obtain ⟨b, ca, cl, ts, B, rfl, G, R2, A2⟩ := hv
    clear R
    have n0 := G.n0
    have n1 := G.n1
    have m1 := G.m1
    have lc : (B.cash.map V.int).length = B.cash.length := List.length_map _
    have lq : (ts.map V.ref).length = B.claims.length := by rw [List.length_map, A2.hq.1]
    -- the numbers
    refine sq_new (.lst ((upTo B.claims.length 0).map V.int)) (fun Q k => ⟨_, rfl, b, _, 1, _, rfl, rfl, A2.hb, atI_nat (j := 1) rfl, cl, _, rfl, .inr A2.hcl, _, rfl, by rw [lq]; exact rgOk_len (by omega), fun y ny => k y _ ny (Same.new ny) (by rw [upd_same, lq, rgV_up])⟩) (fun nu H3 nnu s3 hnu => ?_)
    have R3 := R2.same s3
    have A3 := A2.same s3
    have nhnu := R2.fresh nnu
    refine sq_parP (fun v w' H4 => Fr h c H3 H4 ∧ ∃ (way : Nat) (rw : Addr), v = .int (way : Int) ∧ way < 3 ∧ w' = .ref rw ∧ ¬ isHC h c rw ∧ H3 rw = none ∧ H4 rw = some (.lst (([] : List Addr).map V.ref))) (fun Q k => ⟨_, rfl, h, c, 3, rfl, R3, by decide, by decide, fun r H4 r0 r1 R4 o4 => ⟨Nat.zero_le _, fun rw nrw => ?_⟩⟩) (fun v w' H4 hv => ?_)
    · have F4 : Fr h c H3 H4 := ⟨o4, R4⟩
      exact k _ _ _ ⟨F4.new nrw, r.toNat, rw, congrArg V.int (by omega), by omega, rfl, R4.fresh nrw, F4.free nrw, upd_same⟩
    obtain ⟨F4, way, rw, rfl, hway, rfl, nhrw, nrw, hrw⟩ := hv
    have hnu4 := F4.get hnu nhnu
    have A4 := Fr.book R3 F4 A3
    have lnu : ((upTo B.claims.length 0).map V.int).length = B.claims.length := by rw [List.length_map, upTo_len]; rfl
    refine sq_norm [some (.ref a), some (.ref h), some (.ref b), some (.ref nu), some (.int (way : Int)), some (.ref rw), none, none, none, none, none, none, none, none, none, none, none, none, none, none, none, none] rfl ?_
    refine sq_forL (a := nu) (xs := (upTo B.claims.length 0).map V.int) (fun Q k => ⟨_, rfl, k⟩) (sq_of hnu4)
      (fun i σ' H' => Fr h c H3 H' ∧ (∃ us : List Addr, H' rw = some (.lst (us.map V.ref)) ∧ us.length = i ∧ NestAt H' way B us) ∧ ∃ y6 y7 y8 y9 y10, σ' = [some (.ref a), some (.ref h), some (.ref b), some (.ref nu), some (.int (way : Int)), some (.ref rw), y6, y7, y8, y9, y10, none, none, none, none, none, none, none, none, none, none, none])
      ⟨F4, ⟨[], hrw, rfl, fun j u h => by cases h⟩, none, none, none, none, none, rfl⟩ (fun i σ' H' _ hP => sq_of (hP.1.get hnu nhnu)) (fun i z σ' H' hz hP => ?_) (fun σ' H' hP => ?_)
    · obtain ⟨F5, ⟨us, hrw5, hul, hus⟩, y6, y7, y8, y9, y10, rfl⟩ := hP
      have hi : i < B.claims.length := by
        have := (List.getElem?_eq_some_iff.mp hz).1
        rw [lnu] at this
        exact this
      obtain rfl : z = .int (i : Int) := by
        rw [List.getElem?_map, upTo_get hi] at hz
        exact (Option.some.inj hz).symm
      have A5 := Fr.book R3 F5 A3
      obtain ⟨t, hat, htq⟩ := (show ClAt K H' cl ts B from ⟨A5.hcl, A5.hq⟩).get hi
      have hul24 : us.length < 24 := by omega
      refine ⟨_, rfl, b, _, 1, _, rfl, rfl, A5.hb, atI_nat (j := 1) rfl, _, rfl, cl, _, _, _, rfl, rfl, A5.hcl, hat, t, _, rfl, htq, rfl, _, _, rfl, _, _, rfl, _, _, rfl, _, _, rfl, rfl, ?_⟩
      try dsimp only
      refine ⟨_, rfl, .inl ⟨rfl, _, sq_of hrw5⟩, _, rfl, by show 1 ≤ sizeLine; decide, fun t1 nt1 => ⟨_, rfl, _, _, rfl, rfl, by show 1 ≤ sizeLine; decide, fun t2 nt2 => ⟨_, rfl, _, rfl, by show 2 ≤ sizeLine; decide, fun t3 nt3 => ⟨by show 3 ≤ sizeLine; decide, fun l nl => ?_⟩⟩⟩⟩
      have sx : Same H' (upd (upd (upd (upd H' t1 (.tup [.int (B.clm i).r])) t2 (.tup [.int (0 - (B.clm i).r)])) t3 (.tup [.int (B.clm i).d, .int (B.clm i).r])) l (.lst [.ref t1, .ref t2, .ref t3])) := (((Same.new nt1).trans (Same.new nt2)).trans (Same.new nt3)).trans (Same.new nl)
      have k1 : (upd (upd (upd (upd H' t1 (.tup [.int (B.clm i).r])) t2 (.tup [.int (0 - (B.clm i).r)])) t3 (.tup [.int (B.clm i).d, .int (B.clm i).r])) l (.lst [.ref t1, .ref t2, .ref t3])) t1 = some (.tup [.int (B.clm i).r]) := Same.new nl _ _ (Same.new nt3 _ _ (Same.new nt2 _ _ upd_same))
      have k2 : (upd (upd (upd (upd H' t1 (.tup [.int (B.clm i).r])) t2 (.tup [.int (0 - (B.clm i).r)])) t3 (.tup [.int (B.clm i).d, .int (B.clm i).r])) l (.lst [.ref t1, .ref t2, .ref t3])) t2 = some (.tup [.int (0 - (B.clm i).r)]) := Same.new nl _ _ (Same.new nt3 _ _ upd_same)
      have k3 : (upd (upd (upd (upd H' t1 (.tup [.int (B.clm i).r])) t2 (.tup [.int (0 - (B.clm i).r)])) t3 (.tup [.int (B.clm i).d, .int (B.clm i).r])) l (.lst [.ref t1, .ref t2, .ref t3])) t3 = some (.tup [.int (B.clm i).d, .int (B.clm i).r]) := Same.new nl _ _ upd_same
      have k4 : (upd (upd (upd (upd H' t1 (.tup [.int (B.clm i).r])) t2 (.tup [.int (0 - (B.clm i).r)])) t3 (.tup [.int (B.clm i).d, .int (B.clm i).r])) l (.lst [.ref t1, .ref t2, .ref t3])) l = some (.lst [.ref t1, .ref t2, .ref t3]) := upd_same
      generalize upd (upd (upd (upd H' t1 (.tup [.int (B.clm i).r])) t2 (.tup [.int (0 - (B.clm i).r)])) t3 (.tup [.int (B.clm i).d, .int (B.clm i).r])) l (.lst [.ref t1, .ref t2, .ref t3]) = H6 at sx k1 k2 k3 k4 ⊢
      obtain ⟨tk, htk, hkey⟩ : ∃ tk, ([V.ref t1, .ref t2, .ref t3] : List V)[way]? = some (.ref tk) ∧ H6 tk = some (.tup ((keyW way (B.clm i)).map V.int)) := by
        have : way = 0 ∨ way = 1 ∨ way = 2 := by omega
        rcases this with rfl | rfl | rfl
        · exact ⟨t1, rfl, k1⟩
        · exact ⟨t2, rfl, k2⟩
        · exact ⟨t3, rfl, k3⟩
      refine ⟨_, rfl, l, _, (way : Int), _, rfl, rfl, sq_of k4, atI_nat htk, _, rfl, by show 2 ≤ sizeLine; decide, fun u nu' => ⟨rw, _, _, rfl, rfl, Same.new nu' _ _ (sx _ _ hrw5), ?_, ?_⟩⟩
      · rw [List.length_map]
        exact sz_lt (by omega)
      · subst hul
        have hrw6 := Same.new (o := .tup [.ref tk, .int (us.length : Int)]) nu' _ _ (sx _ _ hrw5)
        refine ⟨((F5.same sx).new nu').mut nrw nhrw, ⟨us ++ [u], by rw [upd_same, List.map_append]; rfl, by rw [List.length_append]; rfl, ((((hus.same sx).same (Same.new nu')).app (b := tk) upd_same (Same.new nu' _ _ hkey)).put hrw6)⟩, _, _, _, _, _, rfl⟩
    obtain ⟨F5, ⟨us, hrw5, hul, hus⟩, y6, y7, y8, y9, y10, rfl⟩ := hP
    rw [lnu] at hul
    have A5 := Fr.book R3 F5 A3
    have R5 := F5.rng
    clear A4 hnu4 F4 hrw A3 A2 s3 R3 R2
    -- the places
    refine sq_set (fun v H6 => Same H' H6 ∧ ∃ (pl : Addr) (p : List Nat), v = .ref pl ∧ H' pl = none ∧ H6 pl = some (.lst (numV p)) ∧ Twin B p) (fun Q k => ⟨_, rfl, rw, us.map V.ref, (fun x => (keyW way (B.clm (kOf H' x)), (kOf H' x : Int))), (fun x => codeW way (B.clm (kOf H' x)) (kOf H' x)), rfl, sq_of hrw5, fun x hx => ?_, fun x hx y hy => ?_, fun ys q hs hp nq => ?_⟩) (fun v H6 hv => ?_)
    · obtain ⟨u, b', e, _, h1, h2⟩ := nest_mem hus hx
      exact ⟨u, b', e, h1, h2⟩
    · obtain ⟨u, b', e, hk, h1, h2⟩ := nest_mem hus hx
      obtain ⟨u2, b2, e2, hk2, h12, h22⟩ := nest_mem hus hy
      exact code_lt (G.clm (by omega)) (G.clm (by omega)) (by omega) (by omega)
    · have hT : Twin B (ys.map (kOf H')) := by
        refine twin_of ?_ (List.pairwise_map.mpr hs)
        have e := hp.map (kOf H')
        rw [nest_ks hus, hul] at e
        exact e
      have hly : ys.length = B.claims.length := by rw [hp.length_eq, List.length_map, hul]
      refine ⟨q, rfl, ⟨_, sq_of upd_same⟩, fun d nd => ?_⟩
      refine lc_list (xs := ys) (fun j H7 => Same (upd H' q (.lst ys)) H7 ∧ H7 d = some (.lst (numV ((ys.map (kOf H')).take j)))) ⟨Same.new nd, upd_same⟩ (fun j H7 _ hP => sq_of (hP.1 _ _ upd_same)) (fun j y H7 hy hP => ?_) (fun H7 hP => ?_)
      · obtain ⟨s7, hd⟩ := hP
        obtain ⟨u, b', rfl, hk, h1, h2⟩ := nest_mem hus (hp.mem_iff.mp (List.mem_of_getElem? hy))
        refine ⟨u, _, rfl, st_of (s7 _ _ (Same.new nq _ _ h1)), rfl, _, _, rfl, _, _, rfl, rfl, rfl, _, rfl, _, hd, ?_, Same.mut s7 nd, ?_⟩
        · rw [numV_len, List.length_take, List.length_map]
          exact sz_lt (by omega)
        · rw [upd_same, List.take_add_one, List.getElem?_map, hy]
          exact congrArg (fun z => some (HO.lst z)) (numV_app _ _).symm
      · obtain ⟨s7, hd⟩ := hP
        rw [List.take_of_length_le (by rw [List.length_map]; exact Nat.le_refl _)] at hd
        exact k _ _ ⟨(Same.new nq).trans s7, d, _, rfl, (Same.new nq).free nd, hd, hT⟩
    obtain ⟨s6, pl, p, rfl, npl, hpl, T⟩ := hv
    have R6 := R5.same s6
    have A6 := A5.same s6
    have nhpl := R5.fresh npl
    have GT := T.good G
    have lp := T.len
    have hpm : ∀ {j k' : Nat}, p[j]? = some k' → k' < B.claims.length := fun {j k'} h => List.mem_range.mp (T.perm.mem_iff.mp (List.mem_of_getElem? h))
    clear hrw5 hus nhrw nrw F5 A5
    refine sq_norm [some (.ref a), some (.ref h), some (.ref b), some (.ref nu), some (.int (way : Int)), some (.ref rw), y6, y7, y8, y9, y10, some (.ref pl), none, none, none, none, none, none, none, none, none, none] rfl ?_
    -- the twin
    refine sq_set (fun v H7 => Same H6 H7 ∧ ∃ (tw ca2 cl2 : Addr) (us2 : List Addr), v = .ref tw ∧ BookAt K H7 tw ca2 cl2 us2 (twinOf B p)) (fun Q k => ⟨_, rfl, b, _, 0, _, rfl, rfl, A6.hb, atI_nat (j := 0) rfl, _, rfl, pl, rfl, ⟨_, sq_of hpl⟩, fun d nd => ?_⟩) (fun v H7 hv => ?_)
    · refine lc_list (xs := numV p) (fun j H7 => Same H6 H7 ∧ ∃ us2 : List Addr, H7 d = some (.lst (us2.map V.ref)) ∧ ClmsAt K H7 us2 ((p.take j).map B.clm)) ⟨Same.new nd, [], upd_same, ⟨rfl, fun i t q h => by cases h⟩⟩ (fun j H7 _ hP => sq_of (hP.1 _ _ hpl)) (fun j y H7 hy hP => ?_) (fun H7 hP => ?_)
      · obtain ⟨s7, us2, hd, hu2⟩ := hP
        obtain ⟨k', hk', rfl⟩ := numV_get hy
        have hkl := hpm hk'
        have A7 := A6.same s7
        obtain ⟨t, hat, htq⟩ := (show ClAt K H7 cl ts B from ⟨A7.hcl, A7.hq⟩).get hkl
        refine ⟨rfl, _, rfl, b, _, 1, _, rfl, rfl, A7.hb, atI_nat (j := 1) rfl, _, rfl, cl, _, _, _, rfl, rfl, A7.hcl, hat, _, hd, ?_, Same.mut s7 nd, us2 ++ [t], by rw [upd_same, List.map_append]; rfl, ?_⟩
        · rw [List.length_map, hu2.1, List.length_map, List.length_take]
          exact sz_lt (by omega)
        · rw [List.take_add_one, hk', List.map_append]
          exact (hu2.app htq).put hd
      · obtain ⟨s7, us2, hd, hu2⟩ := hP
        rw [numV_len, List.take_length] at hu2
        refine ⟨d, _, rfl, .inl ⟨sq_of hd, fun cl2 ncl2 => ⟨by show 2 ≤ sizeLine; decide, fun tw ntw => k _ _ ⟨(s7.trans (Same.new ncl2)).trans (Same.new ntw), tw, ca, cl2, us2, rfl, st_of upd_same, Same.tup ((s7.trans (Same.new ncl2)).trans (Same.new ntw)) A6.hca, st_of (Same.new ntw _ _ upd_same), (hu2.same (Same.new ncl2)).same (Same.new ntw)⟩⟩⟩⟩
    obtain ⟨s7, tw, ca2, cl2, us2, rfl, T7⟩ := hv
    have R7 := R6.same s7
    have A7 := A6.same s7
    have hpl7 := s7 _ _ hpl
    have byl : ∀ P : List Int, (byP p P).length = B.claims.length := fun P => by rw [← lp]; exact List.length_map _
    refine sq_norm [some (.ref a), some (.ref h), some (.ref b), some (.ref nu), some (.int (way : Int)), some (.ref rw), y6, y7, y8, y9, y10, some (.ref pl), some (.ref tw), none, none, none, none, none, none, none, none, none] rfl ?_
    -- best, worst
    refine sq_forTN (xs := [V.ref f6, V.ref f7]) (fun Q k => ⟨by show 2 ≤ sizeLine; decide, fun q np => k q _ np (Same.new np) upd_same⟩)
      (fun q n σ' H9 => Same H7 H9 ∧ H9 q = some (.tup [V.ref f6, V.ref f7]) ∧ ∃ y13 y14 y15, σ' = [some (.ref a), some (.ref h), some (.ref b), some (.ref nu), some (.int (way : Int)), some (.ref rw), y6, y7, y8, y9, y10, some (.ref pl), some (.ref tw), y13, y14, y15, none, none, none, none, none, none])
      (fun q H9 np s9 hp => ⟨s9, hp, _, _, _, rfl⟩) (fun q n σ' H9 _ hP => st_of hP.2.1) (fun q n y σ' H9 hy hP => ?_) (fun q σ' H9 hP => ?_)
    · obtain ⟨s9, hp9, y13, y14, y15, rfl⟩ := hP
      obtain ⟨af, F', rfl, hS, hFC, hFT⟩ := ask_of n y hy
      have A9 := A7.same s9
      have T9 := T7.same s9
      have eF := hFT B p T G
      have lF : (F' B).length = B.claims.length := (hFC B G).pay.len
      refine sq_pair (K := K) (fun x y H11 => ∃ mi yo, x = .ref mi ∧ y = .ref yo ∧ Same H9 H11 ∧ H11 mi = some (.lst ((F' B).map V.int)) ∧ H11 yo = some (.lst ((byP p (F' B)).map V.int))) (fun Q k => ⟨af, _, rfl, hS, _, rfl, b, ca, cl, ts, B, rfl, A9, G, fun mi H10 nmi s10 hmi => ⟨af, _, rfl, hS, _, rfl, tw, ca2, cl2, us2, twinOf B p, rfl, T9.same s10, GT, fun yo H11 nyo s11 hyo => ⟨by show 2 ≤ sizeLine; decide, fun t nt => k t _ _ _ (st_of upd_same) ⟨mi, yo, rfl, rfl, (s10.trans s11).trans (Same.new nt), Same.new nt _ _ (s11 _ _ hmi), Same.new nt _ _ (by rw [hyo, eF])⟩⟩⟩⟩) (fun x y H11 hv => ?_)
      obtain ⟨mi, yo, rfl, rfl, s11, hmi, hyo⟩ := hv
      have s71 := s9.trans s11
      have pl11 := s71 _ _ hpl7
      refine last_no (fun H12 => Same H11 H12) (fun Q k => ⟨_, rfl, _, rfl, pl, rfl, ⟨_, sq_of pl11⟩, fun d nd => ?_⟩) (fun H12 s12 => ⟨s71.trans s12, (s11.trans s12) _ _ hp9, _, _, _, rfl⟩)
      refine lc_list (xs := numV p) (fun j H12 => Same H11 H12 ∧ H12 d = some (.lst (((byP p (F' B)).take j).map V.int))) ⟨Same.new nd, upd_same⟩ (fun j H12 _ hP => sq_of (hP.1 _ _ pl11)) (fun j y H12 hy hP => ?_) (fun H12 hP => ?_)
      · obtain ⟨s12, hd⟩ := hP
        obtain ⟨k', hk', rfl⟩ := numV_get hy
        have hkl := hpm hk'
        refine ⟨rfl, _, rfl, _, rfl, mi, _, _, _, rfl, rfl, sq_of (s12 _ _ hmi), atI_g rfl (by rw [lF]; exact hkl), _, hd, ?_, Same.mut s12 nd, ?_⟩
        · rw [List.length_map, List.length_take, byl]
          exact sz_lt (by omega)
        · rw [upd_same, List.take_add_one, byP_get hk', List.map_append]
          rfl
      · obtain ⟨s12, hd⟩ := hP
        rw [numV_len, List.take_of_length_le (by rw [byl, lp]; exact Nat.le_refl _)] at hd
        have pl12 := s12 _ _ pl11
        refine ⟨yo, d, _, _, rfl, s12 _ _ hyo, sq_of hd, by rw [byl]; omega, ?_⟩
        rw [decide_eq_true rfl]
        refine ⟨_, rfl, iteF ⟨_, rfl, _, rfl, pl, rfl, ⟨_, sq_of pl12⟩, fun d2 nd2 => ?_⟩⟩
        refine lc_list (xs := numV p) (fun j H13 => Same H12 H13 ∧ H13 d2 = some (.lst (((byP p (F' B)).take j).map V.int))) ⟨Same.new nd2, upd_same⟩ (fun j H13 _ hP => sq_of (hP.1 _ _ pl12)) (fun j y H13 hy hP => ?_) (fun H13 hP => ?_)
        · obtain ⟨s13, hd2⟩ := hP
          obtain ⟨k', hk', rfl⟩ := numV_get hy
          have hkl := hpm hk'
          refine ⟨rfl, _, rfl, _, rfl, mi, _, _, _, rfl, rfl, sq_of ((s12.trans s13) _ _ hmi), atI_g rfl (by rw [lF]; exact hkl), _, hd2, ?_, Same.mut s13 nd2, ?_⟩
          · rw [List.length_map, List.length_take, byl]
            exact sz_lt (by omega)
          · rw [upd_same, List.take_add_one, byP_get hk', List.map_append]
            rfl
        · obtain ⟨s13, hd2⟩ := hP
          rw [numV_len, List.take_of_length_le (by rw [byl, lp]; exact Nat.le_refl _)] at hd2
          have cT := hFC (twinOf B p) GT
          rw [eF] at cT
          refine ⟨tw, ca2, cl2, us2, twinOf B p, d2, byP p (F' B), rfl, ((T9.same s11).same s12).same s13, GT, sq_of hd2, cT.pay, fun H14 s14 => ?_⟩
          rw [decide_eq_true cT.fix]
          exact ⟨_, rfl, k _ ((s12.trans s13).trans s14)⟩
    obtain ⟨s9, _, y13, y14, y15, rfl⟩ := hP
    have A9 := A7.same s9
    have T9 := T7.same s9
    have R9 := R7.same s9
    have pl9 := s9 _ _ hpl7
    -- failing, waves
    refine sq_no (fun H10 => Same H9 H10) (fun Q k => ⟨_, rfl, tw, ca2, cl2, us2, twinOf B p, rfl, T9, GT, fun q1 H10 nq1 s10 hq1 => ⟨_, rfl, b, ca, cl, ts, B, rfl, A9.same s10, G, fun q2 H11 nq2 s11 hq2 => ⟨dInts (failingOf (twinOf B p)), dInts (failingOf B), dp_ints (sq_of (s11 _ _ hq1)), dp_ints (sq_of hq2), sh_ints, sh_ints, _, rfl, ?_⟩⟩⟩) (fun H10 s10 => ?_)
    · rw [T.failing G, neqv_self cl_dInts]
      refine iteF ⟨_, rfl, tw, ca2, cl2, us2, twinOf B p, rfl, (T9.same s10).same s11, GT, fun q3 ws3 Ha sa N3 => ⟨_, rfl, b, ca, cl, ts, B, rfl, ((A9.same s10).same s11).same sa, G, fun q4 ws4 Hb sb N4 => ⟨dWaves (wavesOf (twinOf B p)), dWaves (wavesOf B), dp_waves (sb _ _ N3.at_) (N3.wa.same sb), dp_waves N4.at_ N4.wa, sh_waves, sh_waves, _, rfl, ?_⟩⟩⟩
      rw [T.waves G, neqv_self cl_dWaves]
      exact k _ ((s10.trans s11).trans (sa.trans sb))
    have A10 := A9.same s10
    have T10 := T9.same s10
    have R10 := R9.same s10
    have pl10 := s10 _ _ pl9
    have nhpl' := nhpl
    -- what houses pay
    refine sq_forR (B.cash.length : Int) (fun Q k => ⟨_, rfl, b, _, 0, _, rfl, rfl, A10.hb, atI_nat (j := 0) rfl, ca, _, rfl, .inr A10.hca, by rw [lc]; exact k⟩) (by omega)
      (fun i σ' H' => Fr h c H10 H' ∧ ∃ y14 y16 y17, σ' = [some (.ref a), some (.ref h), some (.ref b), some (.ref nu), some (.int (way : Int)), some (.ref rw), y6, y7, y8, y9, y10, some (.ref pl), some (.ref tw), y13, y14, y15, y16, y17, none, none, none, none])
      ⟨Fr.refl R10, _, _, _, rfl⟩ (fun i σ' H11 hi hP => ?_) (fun σ' H11 hP => ?_)
    · obtain ⟨F11, y14, y16, y17, rfl⟩ := hP
      have hx : (i : Int) ∈ houses B := mem_houses.mpr ⟨by omega, hi⟩
      refine sq_set (fun v H12 => Fr h c H10 H12 ∧ ∃ m : Int, v = .int m) (fun Q k => ⟨_, rfl, h, c, 60, rfl, F11.rng, by decide, by decide, fun r H12 r0 r1 R12 o12 => k _ _ ⟨F11.trans ⟨o12, R12⟩, r, rfl⟩⟩) (fun v H12 hv => ?_)
      obtain ⟨F12, m, rfl⟩ := hv
      have A12 := Fr.book R10 F12 A10
      have T12 := Fr.book R10 F12 T10
      have pl12 := F12.get pl10 nhpl'
      have keysB : ((payList B (i : Int) m).map (·.1)).Nodup := by
        unfold payList
        rw [List.map_map]
        have e : (owes B (i : Int)).map ((·.1) ∘ fun k => (k, coinOf B (i : Int) m k)) = (owes B (i : Int)).map id := rfl
        rw [e, List.map_id]
        exact nodup_filter_range _ _
      refine sq_set (fun v H13 => Same H12 H13 ∧ ∃ md, v = .ref md ∧ H13 md = some (.dK (payKvs (payList B (i : Int) m)))) (fun Q k => ⟨_, rfl, _, rfl, _, rfl, b, ca, cl, ts, B, (i : Int), m, rfl, A12, G, by omega, hi, fun q us3 H13 nq s13 hq hus => ⟨q, us3, payKvs (payList B (i : Int) m), rfl, sq_of hq, Paired.prs hus, fun md nmd => k _ _ ⟨s13.trans (Same.new nmd), md, rfl, ?_⟩⟩⟩) (fun v H13 hv => ?_)
      · rw [upd_same]
        exact congrArg (fun z => some (HO.dK z)) (merge_nodup (kvs := []) (payKvs_nodup keysB))
      obtain ⟨s13, md, rfl, hmd⟩ := hv
      have T13 := T12.same s13
      have pl13 := s13 _ _ pl12
      refine sq_no (fun H14 => Same H13 H14) (fun Q k => ⟨_, rfl, _, rfl, _, rfl, tw, ca2, cl2, us2, twinOf B p, (i : Int), m, rfl, T13, GT, by omega, hi, fun q us3 H14 nq s14 hq hus => ⟨q, rfl, ⟨_, sq_of hq⟩, fun d nd => ?_⟩⟩) (fun H14 s14 => ?_)
      · refine lc_list (xs := us3.map V.ref) (fun j H15 => Same H14 H15 ∧ H15 d = some (.lst [])) ⟨Same.new nd, upd_same⟩ (fun j H15 _ hP => sq_of (hP.1 _ _ hq)) (fun j y H15 hy hP => ?_) (fun H15 hP => ?_)
        · obtain ⟨s15, hd⟩ := hP
          obtain ⟨u, rfl, hu3⟩ := map_ref_get hy
          obtain ⟨x, hxl, hxt⟩ := hus.get hu3
          have hxm := List.mem_of_getElem? hxl
          obtain ⟨k', hk', rfl⟩ := List.mem_map.mp hxm
          obtain ⟨k1, k2⟩ := mem_owesUp.mp hk'
          rw [T.clen] at k1
          have hc := T.coin G hx k1 k2 m
          have hin : (ixP p k', coinOf (twinOf B p) (i : Int) m k') ∈ payList B (i : Int) m := by
            rw [← hc]
            refine List.mem_map.mpr ⟨ixP p k', mem_owesUp.mpr ⟨T.lt k1, ?_⟩, rfl⟩
            rw [← T.clm k1]
            exact k2
          have hpk : p[k']? = some (ixP p k') := ixP_get (by rw [lp]; exact k1)
          have hmd15 := (s14.trans s15) _ _ hmd
          have hg := payKvs_get keysB hin
          have hxt15 := s15 _ _ hxt
          refine ⟨rfl, _, rfl, md, rfl, .inl ⟨_, .inl hmd15⟩, _, rfl, _, rfl, u, _, 0, _, rfl, rfl, st_of hxt15, atI_nat (j := 0) rfl, pl, _, _, .int (ixP p k' : Int), rfl, rfl, sq_of ((s14.trans s15) _ _ pl13), atI_nat (j := k') (by unfold numV; rw [List.getElem?_map, hpk]; rfl), 1, rfl, _, DGet.k (k := Sum.inl (ixP p k' : Int)) hmd15, _, rfl, u, _, 1, _, rfl, rfl, st_of hxt15, atI_nat (j := 1) rfl, ?_⟩
          rw [hg]
          refine ⟨rfl, false, ?_, iteF ⟨s15, hd⟩⟩
          show V.bl (!decide (V.int (coinOf (twinOf B p) (i : Int) m k') = V.int (coinOf (twinOf B p) (i : Int) m k'))) = V.bl false
          rw [decide_eq_true rfl]
          rfl
        · obtain ⟨s15, hd⟩ := hP
          exact ⟨Nat.zero_le _, fun l nl => ⟨dInts [], dInts [], dp_ints (l := []) (sq_of (Same.new nl _ _ hd)), dp_ints (l := []) (sq_of upd_same), sh_ints, sh_ints, false, by rw [neqv_self cl_dInts], k _ ((s14.trans s15).trans (Same.new nl))⟩⟩
      have T14 := T13.same s14
      have hmd14 := s14 _ _ hmd
      refine last_no (fun H15 => Same H14 H15) (fun Q k => ⟨_, rfl, _, rfl, _, rfl, tw, ca2, cl2, us2, twinOf B p, (i : Int), m, rfl, T14, GT, by omega, hi, fun q us3 H15 nq s15 hq hus => ⟨q, _, rfl, .inl (sq_of hq), _, rfl, md, _, rfl, s15 _ _ hmd14, rfl, _, rfl, ?_⟩⟩) (fun H15 s15 => ⟨((F12.same s13).same s14).same s15, _, _, _, rfl⟩)
      have e : V.int (((us3.map V.ref).length : Nat) : Int) = V.int (((payKvs (payList B (i : Int) m)).length : Nat) : Int) := by
        have e1 : (payKvs (payList B (i : Int) m)).length = (owes B (i : Int)).length := by
          unfold payKvs payList
          rw [List.length_map, List.length_map]
        have e2 : (payList (twinOf B p) (i : Int) m).length = (owes (twinOf B p) (i : Int)).length := List.length_map _
        rw [List.length_map, hus.1, e1, e2, T.owes_len]
      rw [decide_eq_true e]
      exact k _ s15
    obtain ⟨F11, y14, y16, y17, rfl⟩ := hP
    have A11 := Fr.book R10 F11 A10
    have T11 := Fr.book R10 F11 T10
    have pl11 := F11.get pl10 nhpl'
    have R11 := F11.rng
    -- an order of the twin
    refine sq_set (fun v H12 => Same H11 H12 ∧ ∃ mo us3, v = .ref mo ∧ H12 mo = some (.lst (us3.map V.ref)) ∧ MvsAt H12 us3 (orderOf (twinOf B p))) (fun Q k => ⟨_, rfl, tw, ca2, cl2, us2, twinOf B p, rfl, T11, GT, fun q us3 H12 nq s12 hq hm => k _ _ ⟨s12, q, us3, rfl, hq, hm⟩⟩) (fun v H12 hv => ?_)
    obtain ⟨s12, mo, us3, rfl, hmo, hus3⟩ := hv
    have A12 := A11.same s12
    have T12 := T11.same s12
    have R12 := R11.same s12
    have pl12 := s12 _ _ pl11
    have lbB : (bestOf B).length = B.claims.length := (best_clears G).pay.len
    have lwB : (worstOf B).length = B.claims.length := (worst_clears G).pay.len
    refine sq_no (fun H13 => Same H12 H13) (fun Q k => ⟨_, rfl, _, rfl, tw, ca2, cl2, us2, twinOf B p, mo, us3, orderOf (twinOf B p), rfl, T12, GT, sq_of hmo, hus3, (order_ok GT).1, fun t q he H13 s13 nt nq nhe ht hq hhe => ⟨t, _, 0, _, rfl, rfl, st_of ht, atI_nat (j := 0) rfl, _, rfl, pl, rfl, ⟨_, sq_of (s13 _ _ pl12)⟩, fun d nd => ?_⟩⟩) (fun H13 s13 => ?_)
    · refine lc_list (xs := numV p) (fun j H14 => Same H13 H14 ∧ H14 d = some (.lst (((byP p (bestOf B)).take j).map V.int))) ⟨Same.new nd, upd_same⟩ (fun j H14 _ hP => sq_of (hP.1 _ _ (s13 _ _ pl12))) (fun j y H14 hy hP => ?_) (fun H14 hP => ?_)
      · obtain ⟨s14, hd⟩ := hP
        obtain ⟨k', hk', rfl⟩ := numV_get hy
        have hkl := hpm hk'
        refine ⟨rfl, _, rfl, b, ca, cl, ts, B, rfl, (A12.same s13).same s14, G, fun q2 H15 nq2 s15 hq2 => ⟨_, rfl, q2, _, _, _, rfl, rfl, sq_of hq2, atI_g rfl (by rw [lbB]; exact hkl), _, s15 _ _ hd, ?_, Same.mut (s14.trans s15) nd, ?_⟩⟩
        · rw [List.length_map, List.length_take, byl]
          exact sz_lt (by omega)
        · rw [upd_same, List.take_add_one, byP_get hk', List.map_append]
          rfl
      · obtain ⟨s14, hd⟩ := hP
        rw [numV_len, List.take_of_length_le (by rw [byl, lp]; exact Nat.le_refl _)] at hd
        refine ⟨dInts (byP p (bestOf B)), dInts (byP p (bestOf B)), dp_ints (sq_of (s14 _ _ (by rw [hq, (order_ok GT).2.1, T.best G]))), dp_ints (sq_of hd), sh_ints, sh_ints, false, by rw [neqv_self cl_dInts], k _ (s13.trans s14)⟩
    have A13 := A12.same s13
    have T13 := T12.same s13
    have R13 := R12.same s13
    have pl13 := s13 _ _ pl12
    -- coins paid on
    refine sq_set (fun v H14 => Fr h c H13 H14 ∧ ∃ (pi : Addr) (xs : List Int), v = .ref pi ∧ H14 pi = some (.lst (xs.map V.int)) ∧ ∀ x ∈ xs, 0 ≤ x ∧ x < B.cash.length) (fun Q k => ⟨_, rfl, h, c, 20, rfl, R13, by decide, by decide, fun r H14 r0 r1 R14 o14 => ⟨r, rfl, by omega, by omega, fun d nd => ?_⟩⟩) (fun v H14 hv => ?_)
    · have F14 : Fr h c H13 H14 := ⟨o14, R14⟩
      have nd0 := F14.free nd
      have nhd := R14.fresh nd
      refine lc_range (lo := 0) (n := r.toNat) (fun j H15 => Fr h c H13 H15 ∧ ∃ xs : List Int, H15 d = some (.lst (xs.map V.int)) ∧ xs.length = j ∧ ∀ x ∈ xs, 0 ≤ x ∧ x < B.cash.length) ⟨F14.new nd, [], upd_same, rfl, fun x hx => nomatch hx⟩ (fun j H15 hj hP => ?_) (fun H15 hP => ?_)
      · obtain ⟨F15, xs, hd, hl, hxs⟩ := hP
        have A15 := Fr.book R13 F15 A13
        refine ⟨rfl, _, rfl, _, rfl, b, _, 0, _, rfl, rfl, A15.hb, atI_nat (j := 0) rfl, ca, _, rfl, .inr A15.hca, h, c, _, rfl, F15.rng, by rw [lc]; omega, by rw [lc]; omega, fun r2 H16 r20 r21 R16 o16 => ?_⟩
        rw [lc] at r21
        refine ⟨_, o16 d _ hd nhd, ?_, (F15.trans ⟨o16, R16⟩).mut nd0 nhd, xs ++ [r2], ?_, ?_, fun x hx => ?_⟩
        · rw [List.length_map]
          exact sz_lt (by omega)
        · rw [upd_same, List.map_append]
          rfl
        · rw [List.length_append, hl]
          rfl
        · rcases List.mem_append.mp hx with e | e
          · exact hxs x e
          · rw [List.mem_singleton.mp e]
            exact ⟨r20, r21⟩
      · obtain ⟨F15, xs, hd, hl, hxs⟩ := hP
        exact k _ _ ⟨F15, d, xs, rfl, hd, hxs⟩
    obtain ⟨F14, pi, xs, rfl, hpi, hxs⟩ := hv
    have A14 := Fr.book R13 F14 A13
    have T14 := Fr.book R13 F14 T13
    have pl14 := F14.get pl13 nhpl'
    refine ⟨_, rfl, _, rfl, tw, ca2, cl2, us2, twinOf B p, pi, xs, rfl, T14, GT, sq_of hpi, hxs, fun q H15 nq s15 hq => ⟨_, rfl, pl, rfl, ⟨_, sq_of (s15 _ _ pl14)⟩, fun d nd => ?_⟩⟩
    refine lc_list (xs := numV p) (fun j H16 => Same H15 H16 ∧ H16 d = some (.lst (((byP p (worstOf B)).take j).map V.int))) ⟨Same.new nd, upd_same⟩ (fun j H16 _ hP => sq_of (hP.1 _ _ (s15 _ _ pl14))) (fun j y H16 hy hP => ?_) (fun H16 hP => ?_)
    · obtain ⟨s16, hd⟩ := hP
      obtain ⟨k', hk', rfl⟩ := numV_get hy
      have hkl := hpm hk'
      refine ⟨rfl, _, rfl, _, rfl, b, ca, cl, ts, B, pi, xs, rfl, (A14.same s15).same s16, G, sq_of ((s15.trans s16) _ _ hpi), hxs, fun q2 H17 nq2 s17 hq2 => ⟨_, rfl, q2, _, _, _, rfl, rfl, sq_of hq2, atI_g rfl (by rw [lwB]; exact hkl), _, s17 _ _ hd, ?_, Same.mut (s16.trans s17) nd, ?_⟩⟩
      · rw [List.length_map, List.length_take, byl]
        exact sz_lt (by omega)
      · rw [upd_same, List.take_add_one, byP_get hk', List.map_append]
        rfl
    · obtain ⟨s16, hd⟩ := hP
      rw [numV_len, List.take_of_length_le (by rw [byl, lp]; exact Nat.le_refl _)] at hd
      refine ⟨dInts (byP p (worstOf B)), dInts (byP p (worstOf B)), dp_ints (sq_of (s16 _ _ (by rw [hq, T.worst G]))), dp_ints (sq_of hd), sh_ints, sh_ints, ?_⟩
      rw [eqv_self cl_dInts]
      exact k _
end


end Rf
namespace Rf
open PySem PySem.Spec PyProof.Rows L2
section
variable {P : Program} {w : World} {K : PySem.W.Frag} {mg : Str → Option Value} {base : Heap}
theorem ok_law {f : Addr} {fd : FuncData} (D : DefAt K mg "law" s_law ["_law_script"] f fd) (L : Lims mg) (m_range : mg "range" = none) (m_len : mg "len" = none) (m_max : mg "max" = none) (m_min : mg "min" = none) (m_sum : mg "sum" = none) (m_list : mg "list" = none) (m_enumerate : mg "enumerate" = none) (m_isinstance : mg "isinstance" = none) (m_bool : mg "bool" = none) (m_int : mg "int" = none) (m_tuple : mg "tuple" = none) (m_sorted : mg "sorted" = none) (m_zip : mg "zip" = none) (m_set : mg "set" = none) (m_dict : mg "dict" = none) 
    {C_Play : Addr} (T_Play : ClsAt K mg "Play" C_Play) (N_Play_claims : NoAttr K C_Play "claims") (N_Play_held : NoAttr K C_Play "held") (N_Play_payments : NoAttr K C_Play "payments") (N_Play_debts : NoAttr K C_Play "debts") (N_Play_unpaid : NoAttr K C_Play "unpaid") 
    {g0 : Addr} {gd0 : FuncData} (D_need : DefAt K mg "need_book" s_need ["book"] g0 gd0) 
    {g1 : Addr} {gd1 : FuncData} (D_wrong : DefAt K mg "_wrong_in_claim" s_wrong ["claim", "houses"] g1 gd1) 
    {g2 : Addr} {gd2 : FuncData} (D_needh : DefAt K mg "need_house" s_needh ["book", "house"] g2 gd2) 
    {g3 : Addr} {gd3 : FuncData} (D_needhs : DefAt K mg "need_houses" s_needhs ["book", "houses"] g3 gd3) 
    {g4 : Addr} {gd4 : FuncData} (D_owed : DefAt K mg "owed" s_owed ["book", "house"] g4 gd4) 
    {g5 : Addr} {gd5 : FuncData} (D_shared : DefAt K mg "shared" s_shared ["amounts", "coins"] g5 gd5) 
    {g6 : Addr} {gd6 : FuncData} (D_first_coins : DefAt K mg "_first_coins" s_first_coins ["amounts", "coins"] g6 gd6) 
    {g7 : Addr} {gd7 : FuncData} (D_least_paid : DefAt K mg "_least_paid" s_least_paid ["amounts", "paid"] g7 gd7) 
    {g8 : Addr} {gd8 : FuncData} (D_paidby : DefAt K mg "paid_by" s_paidby ["book", "house", "means"] g8 gd8) 
    {g9 : Addr} {gd9 : FuncData} (D_debts : DefAt K mg "debts_by_rank" s_debts ["claims", "house"] g9 gd9) 
    {g10 : Addr} {gd10 : FuncData} (D_paidw : DefAt K mg "paid_with" s_paidw ["debts", "means"] g10 gd10) 
    {g11 : Addr} {gd11 : FuncData} (D_nextclaim : DefAt K mg "next_claim" s_nextclaim ["debts", "payments"] g11 gd11) 
    {g12 : Addr} {gd12 : FuncData} (D_isclr : DefAt K mg "is_clearing" s_isclr ["book", "payments"] g12 gd12) 
    {g13 : Addr} {gd13 : FuncData} (D_best : DefAt K mg "best" s_best ["book"] g13 gd13) 
    {g14 : Addr} {gd14 : FuncData} (D_worst : DefAt K mg "worst" s_worst ["book"] g14 gd14) 
    {g15 : Addr} {gd15 : FuncData} (D_needp : DefAt K mg "_need_payments" s_needp ["book", "payments"] g15 gd15) 
    {g16 : Addr} {gd16 : FuncData} (D_allpaid : DefAt K mg "all_paid" s_allpaid ["book"] g16 gd16) 
    {g17 : Addr} {gd17 : FuncData} (D_meansby : DefAt K mg "means_by" s_meansby ["book", "payments"] g17 gd17) 
    {g18 : Addr} {gd18 : FuncData} (D_settled : DefAt K mg "settled" s_settled ["book", "payments", "payers"] g18 gd18) 
    {g19 : Addr} {gd19 : FuncData} (D_failing : DefAt K mg "failing" s_failing ["book"] g19 gd19) 
    {g20 : Addr} {gd20 : FuncData} (D_waves : DefAt K mg "waves" s_waves ["book"] g20 gd20) 
    {g21 : Addr} {gd21 : FuncData} (D_short : DefAt K mg "short_of_coins" s_short ["book", "payments", "fallen"] g21 gd21) 
    {g22 : Addr} {gd22 : FuncData} (D_played : DefAt K mg "played" s_played ["book", "moves"] g22 gd22) 
    {g23 : Addr} {gd23 : FuncData} (D_fits : DefAt K mg "_fits" s_fits ["claims", "payments", "held", "move"] g23 gd23) 
    {g24 : Addr} {gd24 : FuncData} (D_areowed : DefAt K mg "_are_owed" s_areowed ["claims", "payments", "numbers", "coins"] g24 gd24) 
    {g25 : Addr} {gd25 : FuncData} (D_isring : DefAt K mg "_is_ring" s_isring ["claims", "numbers"] g25 gd25) 
    {g26 : Addr} {gd26 : FuncData} (D_makemv : DefAt K mg "_make_move" s_makemv ["claims", "payments", "held", "move"] g26 gd26) 
    {g27 : Addr} {gd27 : FuncData} (D_order : DefAt K mg "order" s_order ["book"] g27 gd27) 
    {g28 : Addr} {gd28 : FuncData} (D_ringin : DefAt K mg "_ring_in" s_ringin ["claims", "payments"] g28 gd28) 
    {g29 : Addr} {gd29 : FuncData} (D_wayround : DefAt K mg "_way_round" s_wayround ["claims", "onward", "start"] g29 gd29) 
    {g30 : Addr} {gd30 : FuncData} (D_paidturn : DefAt K mg "_paid_in_turn" s_paidturn ["cash", "claims", "payments"] g30 gd30) 
    {g31 : Addr} {gd31 : FuncData} (M_pinit : MethAt K C_Play "__init__" "Play.__init__" s_pinit ["self", "book"] g31 gd31) 
    {g32 : Addr} {gd32 : FuncData} (M_maypay : MethAt K C_Play "may_pay" "Play.may_pay" s_maypay ["self", "house"] g32 gd32) 
    {g33 : Addr} {gd33 : FuncData} (M_leastpayer : MethAt K C_Play "least_payer" "Play.least_payer" s_leastpayer ["self"] g33 gd33) 
    {g34 : Addr} {gd34 : FuncData} (M_paycoin : MethAt K C_Play "pay_coin" "Play.pay_coin" s_paycoin ["self", "house"] g34 gd34) 
    {g35 : Addr} {gd35 : FuncData} (D_stilled : DefAt K mg "stilled" s_stilled ["book", "picks"] g35 gd35) 
    {g36 : Addr} {gd36 : FuncData} (D_next : DefAt K mg "_law_next" s_next ["_law_h", "_law_many"] g36 gd36) 
    {g37 : Addr} {gd37 : FuncData} (D_lbook : DefAt K mg "_law_book" s_lbook ["_law_h", "_law_houses", "_law_claims", "_law_wide"] g37 gd37) 
    {g38 : Addr} {gd38 : FuncData} (D_are : DefAt K mg "_law_are" s_are ["_law_found", "_law_due"] g38 gd38) : FnOk P w K mg base CX0 22 f fd ["_law_script"] (spLaw K) := by
  have C : PgC K mg := ⟨L, m_len, m_enumerate, m_sum, m_sorted, m_zip, m_range, m_max, m_list, ⟨_, _, D_wrong⟩, ⟨_, _, D_need⟩, ⟨_, _, D_shared⟩, ⟨_, _, D_first_coins⟩, ⟨_, _, D_least_paid⟩, ⟨_, _, D_debts⟩, ⟨_, _, D_paidw⟩, ⟨_, _, D_meansby⟩, ⟨_, _, D_allpaid⟩, ⟨_, _, D_settled⟩⟩
  have G_next := ok_next (P := P) (w := w) (base := base) D_next m_max m_len
  have G_best : FnOk P w K mg base CX0 20 _ _ ["book"] (spAsk K bestOf) := FnOk.mono (ok_best (P := P) (w := w) (base := base) D_best C) (show _ ≤ 20 by decide)
  have G_worst : FnOk P w K mg base CX0 20 _ _ ["book"] (spAsk K worstOf) := FnOk.mono (ok_worst (P := P) (w := w) (base := base) D_worst C) (show _ ≤ 20 by decide)
  have G_waves := FnOk.mono (ok_waves (P := P) (w := w) (base := base) D_waves C D_needhs D_needh D_owed D_short) (show _ ≤ 20 by decide)
  have G_failing := FnOk.mono (ok_failing (P := P) (w := w) (base := base) D_failing C D_needhs D_needh D_owed D_best D_short) (show _ ≤ 20 by decide)
  have G_order := FnOk.mono (ok_order (P := P) (w := w) (base := base) D_order C m_min m_tuple D_best D_wayround D_ringin D_paidturn) (show _ ≤ 20 by decide)
  have G_played := FnOk.mono (ok_played (P := P) (w := w) (base := base) D_played C m_set D_areowed D_isring D_fits D_makemv) (show _ ≤ 20 by decide)
  have G_stilled := FnOk.mono (ok_stilled (P := P) (w := w) (base := base) D_stilled T_Play N_Play_claims N_Play_held N_Play_payments N_Play_debts N_Play_unpaid L m_list m_len m_range m_enumerate m_sorted D_wrong D_need D_needhs D_debts D_least_paid D_nextclaim M_pinit M_maypay M_leastpayer M_paycoin) (show _ ≤ 20 by decide)
  have G_paidby := FnOk.mono (ok_paidby (P := P) (w := w) (base := base) D_paidby L m_len m_enumerate m_sum m_sorted m_zip m_range m_max m_list D_wrong D_need D_needhs D_needh D_shared D_first_coins D_least_paid D_debts D_paidw) (show _ ≤ 20 by decide)
  have G_isclr := FnOk.mono (ok_isclr (P := P) (w := w) (base := base) D_isclr L m_len m_enumerate m_zip m_list m_sum m_sorted m_range m_max D_wrong D_need D_needhs D_needh D_shared D_first_coins D_least_paid D_debts D_paidw D_paidby D_needp D_meansby) (show _ ≤ 20 by decide)
  exact law_body D m_range m_len m_list m_tuple m_sorted m_dict D_next G_next D_lbook (ok_lbook D_lbook m_max m_len m_range m_tuple m_int D_next) D_are (ok_are D_are m_range m_len m_isinstance m_list m_bool m_int) D_isclr G_isclr D_failing G_failing D_best G_best D_worst G_worst D_waves G_waves D_paidby G_paidby D_order G_order D_played G_played D_stilled G_stilled
end


end Rf
namespace Rf
open PySem PySem.Spec PyProof.Rows L2
/-! ### what the top has written; the law's own head -/
theorem all_mk {l : PySem.W.OpenLaw} {w : World} {K : PySem.W.Frag} {h : Heap} {mg : Str → Option Value} {fa f1 f2 f3 f4 f5 f6 f7 f8 f9 f10 f11 f12 f13 f14 f15 f16 f17 f18 f19 f20 f21 f22 f23 f24 f25 f26 f27 f28 f29 f30 f31 f32 f33 f34 f35 f36 f37 f38 f39 f40 : Addr} (X : K.In h) (G : h.Ns mainGlobals mg) (hfa : mg "law" = some (.ref fa))
    {od1 an1 od2 an2 od3 an3 od4 an4 od5 an5 od6 an6 od7 an7 od8 an8 od9 an9 od10 an10 od11 an11 od12 an12 od13 an13 od14 an14 od15 an15 od16 an16 od17 an17 od18 an18 od19 an19 od20 an20 od21 an21 od22 an22 od23 an23 od24 an24 od25 an25 od26 an26 od27 an27 od28 an28 od29 an29 od30 an30 od31 an31 od32 an32 od33 an33 od34 an34 od35 an35 od36 an36 od37 an37 od38 an38 od39 an39 od40 an40 : Option Addr} {sl1 sl2 sl3 sl4 sl5 sl6 sl7 sl8 sl9 sl10 sl11 sl12 sl13 sl14 sl15 sl16 sl17 sl18 sl19 sl20 sl21 sl22 sl23 sl24 sl25 sl26 sl27 sl28 sl29 sl30 sl31 sl32 sl33 sl34 sl35 sl36 sl37 sl38 sl39 sl40 : Array (Option Value)}
    {oc1 kV1 dc1 pm1 cd1 ct1 oc2 kV2 dc2 pm2 cd2 ct2 oc3 kV3 dc3 pm3 cd3 ct3 oc4 kV4 dc4 pm4 cd4 ct4 oc5 kV5 dc5 pm5 cd5 ct5 oc6 kV6 dc6 pm6 cd6 ct6 oc7 kV7 dc7 pm7 cd7 ct7 oc8 kV8 dc8 pm8 cd8 ct8 oc9 kV9 dc9 pm9 cd9 ct9 oc10 kV10 dc10 pm10 cd10 ct10 oc11 kV11 dc11 pm11 cd11 ct11 oc12 kV12 dc12 pm12 cd12 ct12 oc13 kV13 dc13 pm13 cd13 ct13 oc14 kV14 dc14 pm14 cd14 ct14 oc15 kV15 dc15 pm15 cd15 ct15 oc16 kV16 dc16 pm16 cd16 ct16 oc17 kV17 dc17 pm17 cd17 ct17 oc18 kV18 dc18 pm18 cd18 ct18 oc19 kV19 dc19 pm19 cd19 ct19 oc20 kV20 dc20 pm20 cd20 ct20 oc21 kV21 dc21 pm21 cd21 ct21 oc22 kV22 dc22 pm22 cd22 ct22 oc23 kV23 dc23 pm23 cd23 ct23 oc24 kV24 dc24 pm24 cd24 ct24 oc25 kV25 dc25 pm25 cd25 ct25 oc26 kV26 dc26 pm26 cd26 ct26 oc27 kV27 dc27 pm27 cd27 ct27 oc28 kV28 dc28 pm28 cd28 ct28 oc29 kV29 dc29 pm29 cd29 ct29 oc30 kV30 dc30 pm30 cd30 ct30 oc31 kV31 dc31 pm31 cd31 ct31 oc32 kV32 dc32 pm32 cd32 ct32 oc33 kV33 dc33 pm33 cd33 ct33 oc34 kV34 dc34 pm34 cd34 ct34 oc35 kV35 dc35 pm35 cd35 ct35 oc36 kV36 dc36 pm36 cd36 ct36 oc37 kV37 dc37 pm37 cd37 ct37 oc38 kV38 dc38 pm38 cd38 ct38 oc39 kV39 dc39 pm39 cd39 ct39 oc40 kV40 dc40 pm40 cd40 ct40 : Value}
    {C0 : Addr} (aC0 : PySem.W.nsIn K mainGlobals "Play" = some (some (.ref C0))) (pg0 : PySem.W.plainGet K C0 Str.empty = true) (hd0 : PySem.W.hasDictIn K C0 = true) (po0 : PySem.W.plainOver K C0 = true) (sa0 : PySem.W.findIn K (.ref C0) "__setattr__" = some (some (.builtin "object.__setattr__"))) (mk0 : PySem.W.makesIn K C0 = true) (kc0 : PySem.W.keepIn K (.ref C0) = true)
    (n0_0 : PySem.W.findIn K (.ref C0) "claims" = some none)
    (n0_1 : PySem.W.findIn K (.ref C0) "held" = some none)
    (n0_2 : PySem.W.findIn K (.ref C0) "payments" = some none)
    (n0_3 : PySem.W.findIn K (.ref C0) "debts" = some none)
    (n0_4 : PySem.W.findIn K (.ref C0) "unpaid" = some none)
    (a1 : PySem.W.nsIn K mainGlobals "need_book" = some (some (.ref f1))) (l1 : K.lookup f1 = some ⟨oc1, od1, .func (PySem.W.fnOf "need_book" "need_book" (defArgs s_need) (defBody s_need) (defScope s_need) .none kV1 dc1 pm1 an1 cd1 ct1), sl1⟩) (c1 : PySem.W.codeIn K cd1 "need_book" = true) (k1 : PySem.W.keepIn K (.ref f1) = true)
    (a2 : PySem.W.nsIn K mainGlobals "_wrong_in_claim" = some (some (.ref f2))) (l2 : K.lookup f2 = some ⟨oc2, od2, .func (PySem.W.fnOf "_wrong_in_claim" "_wrong_in_claim" (defArgs s_wrong) (defBody s_wrong) (defScope s_wrong) .none kV2 dc2 pm2 an2 cd2 ct2), sl2⟩) (c2 : PySem.W.codeIn K cd2 "_wrong_in_claim" = true) (k2 : PySem.W.keepIn K (.ref f2) = true)
    (a3 : PySem.W.nsIn K mainGlobals "need_house" = some (some (.ref f3))) (l3 : K.lookup f3 = some ⟨oc3, od3, .func (PySem.W.fnOf "need_house" "need_house" (defArgs s_needh) (defBody s_needh) (defScope s_needh) .none kV3 dc3 pm3 an3 cd3 ct3), sl3⟩) (c3 : PySem.W.codeIn K cd3 "need_house" = true) (k3 : PySem.W.keepIn K (.ref f3) = true)
    (a4 : PySem.W.nsIn K mainGlobals "need_houses" = some (some (.ref f4))) (l4 : K.lookup f4 = some ⟨oc4, od4, .func (PySem.W.fnOf "need_houses" "need_houses" (defArgs s_needhs) (defBody s_needhs) (defScope s_needhs) .none kV4 dc4 pm4 an4 cd4 ct4), sl4⟩) (c4 : PySem.W.codeIn K cd4 "need_houses" = true) (k4 : PySem.W.keepIn K (.ref f4) = true)
    (a5 : PySem.W.nsIn K mainGlobals "owed" = some (some (.ref f5))) (l5 : K.lookup f5 = some ⟨oc5, od5, .func (PySem.W.fnOf "owed" "owed" (defArgs s_owed) (defBody s_owed) (defScope s_owed) .none kV5 dc5 pm5 an5 cd5 ct5), sl5⟩) (c5 : PySem.W.codeIn K cd5 "owed" = true) (k5 : PySem.W.keepIn K (.ref f5) = true)
    (a6 : PySem.W.nsIn K mainGlobals "shared" = some (some (.ref f6))) (l6 : K.lookup f6 = some ⟨oc6, od6, .func (PySem.W.fnOf "shared" "shared" (defArgs s_shared) (defBody s_shared) (defScope s_shared) .none kV6 dc6 pm6 an6 cd6 ct6), sl6⟩) (c6 : PySem.W.codeIn K cd6 "shared" = true) (k6 : PySem.W.keepIn K (.ref f6) = true)
    (a7 : PySem.W.nsIn K mainGlobals "_first_coins" = some (some (.ref f7))) (l7 : K.lookup f7 = some ⟨oc7, od7, .func (PySem.W.fnOf "_first_coins" "_first_coins" (defArgs s_first_coins) (defBody s_first_coins) (defScope s_first_coins) .none kV7 dc7 pm7 an7 cd7 ct7), sl7⟩) (c7 : PySem.W.codeIn K cd7 "_first_coins" = true) (k7 : PySem.W.keepIn K (.ref f7) = true)
    (a8 : PySem.W.nsIn K mainGlobals "_least_paid" = some (some (.ref f8))) (l8 : K.lookup f8 = some ⟨oc8, od8, .func (PySem.W.fnOf "_least_paid" "_least_paid" (defArgs s_least_paid) (defBody s_least_paid) (defScope s_least_paid) .none kV8 dc8 pm8 an8 cd8 ct8), sl8⟩) (c8 : PySem.W.codeIn K cd8 "_least_paid" = true) (k8 : PySem.W.keepIn K (.ref f8) = true)
    (a9 : PySem.W.nsIn K mainGlobals "paid_by" = some (some (.ref f9))) (l9 : K.lookup f9 = some ⟨oc9, od9, .func (PySem.W.fnOf "paid_by" "paid_by" (defArgs s_paidby) (defBody s_paidby) (defScope s_paidby) .none kV9 dc9 pm9 an9 cd9 ct9), sl9⟩) (c9 : PySem.W.codeIn K cd9 "paid_by" = true) (k9 : PySem.W.keepIn K (.ref f9) = true)
    (a10 : PySem.W.nsIn K mainGlobals "debts_by_rank" = some (some (.ref f10))) (l10 : K.lookup f10 = some ⟨oc10, od10, .func (PySem.W.fnOf "debts_by_rank" "debts_by_rank" (defArgs s_debts) (defBody s_debts) (defScope s_debts) .none kV10 dc10 pm10 an10 cd10 ct10), sl10⟩) (c10 : PySem.W.codeIn K cd10 "debts_by_rank" = true) (k10 : PySem.W.keepIn K (.ref f10) = true)
    (a11 : PySem.W.nsIn K mainGlobals "paid_with" = some (some (.ref f11))) (l11 : K.lookup f11 = some ⟨oc11, od11, .func (PySem.W.fnOf "paid_with" "paid_with" (defArgs s_paidw) (defBody s_paidw) (defScope s_paidw) .none kV11 dc11 pm11 an11 cd11 ct11), sl11⟩) (c11 : PySem.W.codeIn K cd11 "paid_with" = true) (k11 : PySem.W.keepIn K (.ref f11) = true)
    (a12 : PySem.W.nsIn K mainGlobals "next_claim" = some (some (.ref f12))) (l12 : K.lookup f12 = some ⟨oc12, od12, .func (PySem.W.fnOf "next_claim" "next_claim" (defArgs s_nextclaim) (defBody s_nextclaim) (defScope s_nextclaim) .none kV12 dc12 pm12 an12 cd12 ct12), sl12⟩) (c12 : PySem.W.codeIn K cd12 "next_claim" = true) (k12 : PySem.W.keepIn K (.ref f12) = true)
    (a13 : PySem.W.nsIn K mainGlobals "is_clearing" = some (some (.ref f13))) (l13 : K.lookup f13 = some ⟨oc13, od13, .func (PySem.W.fnOf "is_clearing" "is_clearing" (defArgs s_isclr) (defBody s_isclr) (defScope s_isclr) .none kV13 dc13 pm13 an13 cd13 ct13), sl13⟩) (c13 : PySem.W.codeIn K cd13 "is_clearing" = true) (k13 : PySem.W.keepIn K (.ref f13) = true)
    (a14 : PySem.W.nsIn K mainGlobals "best" = some (some (.ref f14))) (l14 : K.lookup f14 = some ⟨oc14, od14, .func (PySem.W.fnOf "best" "best" (defArgs s_best) (defBody s_best) (defScope s_best) .none kV14 dc14 pm14 an14 cd14 ct14), sl14⟩) (c14 : PySem.W.codeIn K cd14 "best" = true) (k14 : PySem.W.keepIn K (.ref f14) = true)
    (a15 : PySem.W.nsIn K mainGlobals "worst" = some (some (.ref f15))) (l15 : K.lookup f15 = some ⟨oc15, od15, .func (PySem.W.fnOf "worst" "worst" (defArgs s_worst) (defBody s_worst) (defScope s_worst) .none kV15 dc15 pm15 an15 cd15 ct15), sl15⟩) (c15 : PySem.W.codeIn K cd15 "worst" = true) (k15 : PySem.W.keepIn K (.ref f15) = true)
    (a16 : PySem.W.nsIn K mainGlobals "_need_payments" = some (some (.ref f16))) (l16 : K.lookup f16 = some ⟨oc16, od16, .func (PySem.W.fnOf "_need_payments" "_need_payments" (defArgs s_needp) (defBody s_needp) (defScope s_needp) .none kV16 dc16 pm16 an16 cd16 ct16), sl16⟩) (c16 : PySem.W.codeIn K cd16 "_need_payments" = true) (k16 : PySem.W.keepIn K (.ref f16) = true)
    (a17 : PySem.W.nsIn K mainGlobals "all_paid" = some (some (.ref f17))) (l17 : K.lookup f17 = some ⟨oc17, od17, .func (PySem.W.fnOf "all_paid" "all_paid" (defArgs s_allpaid) (defBody s_allpaid) (defScope s_allpaid) .none kV17 dc17 pm17 an17 cd17 ct17), sl17⟩) (c17 : PySem.W.codeIn K cd17 "all_paid" = true) (k17 : PySem.W.keepIn K (.ref f17) = true)
    (a18 : PySem.W.nsIn K mainGlobals "means_by" = some (some (.ref f18))) (l18 : K.lookup f18 = some ⟨oc18, od18, .func (PySem.W.fnOf "means_by" "means_by" (defArgs s_meansby) (defBody s_meansby) (defScope s_meansby) .none kV18 dc18 pm18 an18 cd18 ct18), sl18⟩) (c18 : PySem.W.codeIn K cd18 "means_by" = true) (k18 : PySem.W.keepIn K (.ref f18) = true)
    (a19 : PySem.W.nsIn K mainGlobals "settled" = some (some (.ref f19))) (l19 : K.lookup f19 = some ⟨oc19, od19, .func (PySem.W.fnOf "settled" "settled" (defArgs s_settled) (defBody s_settled) (defScope s_settled) .none kV19 dc19 pm19 an19 cd19 ct19), sl19⟩) (c19 : PySem.W.codeIn K cd19 "settled" = true) (k19 : PySem.W.keepIn K (.ref f19) = true)
    (a20 : PySem.W.nsIn K mainGlobals "failing" = some (some (.ref f20))) (l20 : K.lookup f20 = some ⟨oc20, od20, .func (PySem.W.fnOf "failing" "failing" (defArgs s_failing) (defBody s_failing) (defScope s_failing) .none kV20 dc20 pm20 an20 cd20 ct20), sl20⟩) (c20 : PySem.W.codeIn K cd20 "failing" = true) (k20 : PySem.W.keepIn K (.ref f20) = true)
    (a21 : PySem.W.nsIn K mainGlobals "waves" = some (some (.ref f21))) (l21 : K.lookup f21 = some ⟨oc21, od21, .func (PySem.W.fnOf "waves" "waves" (defArgs s_waves) (defBody s_waves) (defScope s_waves) .none kV21 dc21 pm21 an21 cd21 ct21), sl21⟩) (c21 : PySem.W.codeIn K cd21 "waves" = true) (k21 : PySem.W.keepIn K (.ref f21) = true)
    (a22 : PySem.W.nsIn K mainGlobals "short_of_coins" = some (some (.ref f22))) (l22 : K.lookup f22 = some ⟨oc22, od22, .func (PySem.W.fnOf "short_of_coins" "short_of_coins" (defArgs s_short) (defBody s_short) (defScope s_short) .none kV22 dc22 pm22 an22 cd22 ct22), sl22⟩) (c22 : PySem.W.codeIn K cd22 "short_of_coins" = true) (k22 : PySem.W.keepIn K (.ref f22) = true)
    (a23 : PySem.W.nsIn K mainGlobals "played" = some (some (.ref f23))) (l23 : K.lookup f23 = some ⟨oc23, od23, .func (PySem.W.fnOf "played" "played" (defArgs s_played) (defBody s_played) (defScope s_played) .none kV23 dc23 pm23 an23 cd23 ct23), sl23⟩) (c23 : PySem.W.codeIn K cd23 "played" = true) (k23 : PySem.W.keepIn K (.ref f23) = true)
    (a24 : PySem.W.nsIn K mainGlobals "_fits" = some (some (.ref f24))) (l24 : K.lookup f24 = some ⟨oc24, od24, .func (PySem.W.fnOf "_fits" "_fits" (defArgs s_fits) (defBody s_fits) (defScope s_fits) .none kV24 dc24 pm24 an24 cd24 ct24), sl24⟩) (c24 : PySem.W.codeIn K cd24 "_fits" = true) (k24 : PySem.W.keepIn K (.ref f24) = true)
    (a25 : PySem.W.nsIn K mainGlobals "_are_owed" = some (some (.ref f25))) (l25 : K.lookup f25 = some ⟨oc25, od25, .func (PySem.W.fnOf "_are_owed" "_are_owed" (defArgs s_areowed) (defBody s_areowed) (defScope s_areowed) .none kV25 dc25 pm25 an25 cd25 ct25), sl25⟩) (c25 : PySem.W.codeIn K cd25 "_are_owed" = true) (k25 : PySem.W.keepIn K (.ref f25) = true)
    (a26 : PySem.W.nsIn K mainGlobals "_is_ring" = some (some (.ref f26))) (l26 : K.lookup f26 = some ⟨oc26, od26, .func (PySem.W.fnOf "_is_ring" "_is_ring" (defArgs s_isring) (defBody s_isring) (defScope s_isring) .none kV26 dc26 pm26 an26 cd26 ct26), sl26⟩) (c26 : PySem.W.codeIn K cd26 "_is_ring" = true) (k26 : PySem.W.keepIn K (.ref f26) = true)
    (a27 : PySem.W.nsIn K mainGlobals "_make_move" = some (some (.ref f27))) (l27 : K.lookup f27 = some ⟨oc27, od27, .func (PySem.W.fnOf "_make_move" "_make_move" (defArgs s_makemv) (defBody s_makemv) (defScope s_makemv) .none kV27 dc27 pm27 an27 cd27 ct27), sl27⟩) (c27 : PySem.W.codeIn K cd27 "_make_move" = true) (k27 : PySem.W.keepIn K (.ref f27) = true)
    (a28 : PySem.W.nsIn K mainGlobals "order" = some (some (.ref f28))) (l28 : K.lookup f28 = some ⟨oc28, od28, .func (PySem.W.fnOf "order" "order" (defArgs s_order) (defBody s_order) (defScope s_order) .none kV28 dc28 pm28 an28 cd28 ct28), sl28⟩) (c28 : PySem.W.codeIn K cd28 "order" = true) (k28 : PySem.W.keepIn K (.ref f28) = true)
    (a29 : PySem.W.nsIn K mainGlobals "_ring_in" = some (some (.ref f29))) (l29 : K.lookup f29 = some ⟨oc29, od29, .func (PySem.W.fnOf "_ring_in" "_ring_in" (defArgs s_ringin) (defBody s_ringin) (defScope s_ringin) .none kV29 dc29 pm29 an29 cd29 ct29), sl29⟩) (c29 : PySem.W.codeIn K cd29 "_ring_in" = true) (k29 : PySem.W.keepIn K (.ref f29) = true)
    (a30 : PySem.W.nsIn K mainGlobals "_way_round" = some (some (.ref f30))) (l30 : K.lookup f30 = some ⟨oc30, od30, .func (PySem.W.fnOf "_way_round" "_way_round" (defArgs s_wayround) (defBody s_wayround) (defScope s_wayround) .none kV30 dc30 pm30 an30 cd30 ct30), sl30⟩) (c30 : PySem.W.codeIn K cd30 "_way_round" = true) (k30 : PySem.W.keepIn K (.ref f30) = true)
    (a31 : PySem.W.nsIn K mainGlobals "_paid_in_turn" = some (some (.ref f31))) (l31 : K.lookup f31 = some ⟨oc31, od31, .func (PySem.W.fnOf "_paid_in_turn" "_paid_in_turn" (defArgs s_paidturn) (defBody s_paidturn) (defScope s_paidturn) .none kV31 dc31 pm31 an31 cd31 ct31), sl31⟩) (c31 : PySem.W.codeIn K cd31 "_paid_in_turn" = true) (k31 : PySem.W.keepIn K (.ref f31) = true)
    (a32 : PySem.W.findIn K (.ref C0) "__init__" = some (some (.ref f32))) (i32 : PySem.W.isFn K (.ref f32) = true) (l32 : K.lookup f32 = some ⟨oc32, od32, .func (PySem.W.fnOf "__init__" "Play.__init__" (defArgs s_pinit) (defBody s_pinit) (defScope s_pinit) .none kV32 dc32 pm32 an32 cd32 ct32), sl32⟩) (c32 : PySem.W.codeIn K cd32 "Play.__init__" = true) (k32 : PySem.W.keepIn K (.ref f32) = true)
    (a33 : PySem.W.findIn K (.ref C0) "may_pay" = some (some (.ref f33))) (i33 : PySem.W.isFn K (.ref f33) = true) (l33 : K.lookup f33 = some ⟨oc33, od33, .func (PySem.W.fnOf "may_pay" "Play.may_pay" (defArgs s_maypay) (defBody s_maypay) (defScope s_maypay) .none kV33 dc33 pm33 an33 cd33 ct33), sl33⟩) (c33 : PySem.W.codeIn K cd33 "Play.may_pay" = true) (k33 : PySem.W.keepIn K (.ref f33) = true)
    (a34 : PySem.W.findIn K (.ref C0) "least_payer" = some (some (.ref f34))) (i34 : PySem.W.isFn K (.ref f34) = true) (l34 : K.lookup f34 = some ⟨oc34, od34, .func (PySem.W.fnOf "least_payer" "Play.least_payer" (defArgs s_leastpayer) (defBody s_leastpayer) (defScope s_leastpayer) .none kV34 dc34 pm34 an34 cd34 ct34), sl34⟩) (c34 : PySem.W.codeIn K cd34 "Play.least_payer" = true) (k34 : PySem.W.keepIn K (.ref f34) = true)
    (a35 : PySem.W.findIn K (.ref C0) "pay_coin" = some (some (.ref f35))) (i35 : PySem.W.isFn K (.ref f35) = true) (l35 : K.lookup f35 = some ⟨oc35, od35, .func (PySem.W.fnOf "pay_coin" "Play.pay_coin" (defArgs s_paycoin) (defBody s_paycoin) (defScope s_paycoin) .none kV35 dc35 pm35 an35 cd35 ct35), sl35⟩) (c35 : PySem.W.codeIn K cd35 "Play.pay_coin" = true) (k35 : PySem.W.keepIn K (.ref f35) = true)
    (a36 : PySem.W.nsIn K mainGlobals "stilled" = some (some (.ref f36))) (l36 : K.lookup f36 = some ⟨oc36, od36, .func (PySem.W.fnOf "stilled" "stilled" (defArgs s_stilled) (defBody s_stilled) (defScope s_stilled) .none kV36 dc36 pm36 an36 cd36 ct36), sl36⟩) (c36 : PySem.W.codeIn K cd36 "stilled" = true) (k36 : PySem.W.keepIn K (.ref f36) = true)
    (a37 : PySem.W.nsIn K mainGlobals "_law_next" = some (some (.ref f37))) (l37 : K.lookup f37 = some ⟨oc37, od37, .func (PySem.W.fnOf "_law_next" "_law_next" (defArgs s_next) (defBody s_next) (defScope s_next) .none kV37 dc37 pm37 an37 cd37 ct37), sl37⟩) (c37 : PySem.W.codeIn K cd37 "_law_next" = true) (k37 : PySem.W.keepIn K (.ref f37) = true)
    (a38 : PySem.W.nsIn K mainGlobals "_law_book" = some (some (.ref f38))) (l38 : K.lookup f38 = some ⟨oc38, od38, .func (PySem.W.fnOf "_law_book" "_law_book" (defArgs s_lbook) (defBody s_lbook) (defScope s_lbook) .none kV38 dc38 pm38 an38 cd38 ct38), sl38⟩) (c38 : PySem.W.codeIn K cd38 "_law_book" = true) (k38 : PySem.W.keepIn K (.ref f38) = true)
    (a39 : PySem.W.nsIn K mainGlobals "_law_are" = some (some (.ref f39))) (l39 : K.lookup f39 = some ⟨oc39, od39, .func (PySem.W.fnOf "_law_are" "_law_are" (defArgs s_are) (defBody s_are) (defScope s_are) .none kV39 dc39 pm39 an39 cd39 ct39), sl39⟩) (c39 : PySem.W.codeIn K cd39 "_law_are" = true) (k39 : PySem.W.keepIn K (.ref f39) = true)
    (a40 : PySem.W.nsIn K mainGlobals "law" = some (some (.ref f40))) (l40 : K.lookup f40 = some ⟨oc40, od40, .func (PySem.W.fnOf "law" "law" (defArgs s_law) (defBody s_law) (defScope s_law) .none kV40 dc40 pm40 an40 cd40 ct40), sl40⟩) (c40 : PySem.W.codeIn K cd40 "law" = true) (k40 : PySem.W.keepIn K (.ref f40) = true)
    (z1 : PySem.W.nsIn K mainGlobals "range" = some none)
    (z2 : PySem.W.nsIn K mainGlobals "len" = some none)
    (z3 : PySem.W.nsIn K mainGlobals "max" = some none)
    (z4 : PySem.W.nsIn K mainGlobals "min" = some none)
    (z5 : PySem.W.nsIn K mainGlobals "sum" = some none)
    (z6 : PySem.W.nsIn K mainGlobals "list" = some none)
    (z7 : PySem.W.nsIn K mainGlobals "enumerate" = some none)
    (z8 : PySem.W.nsIn K mainGlobals "isinstance" = some none)
    (z9 : PySem.W.nsIn K mainGlobals "bool" = some none)
    (z10 : PySem.W.nsIn K mainGlobals "int" = some none)
    (z11 : PySem.W.nsIn K mainGlobals "tuple" = some none)
    (z12 : PySem.W.nsIn K mainGlobals "sorted" = some none)
    (z13 : PySem.W.nsIn K mainGlobals "zip" = some none)
    (z14 : PySem.W.nsIn K mainGlobals "set" = some none)
    (z15 : PySem.W.nsIn K mainGlobals "dict" = some none)
    {tk1 : Tok} (g1 : PySem.W.nsIn K mainGlobals "MOST_HOUSES" = some (some (.int 8 tk1)))
    {tk2 : Tok} (g2 : PySem.W.nsIn K mainGlobals "MOST_CASH" = some (some (.int 999 tk2)))
    {tk3 : Tok} (g3 : PySem.W.nsIn K mainGlobals "MOST_CLAIMS" = some (some (.int 24 tk3)))
    {tk4 : Tok} (g4 : PySem.W.nsIn K mainGlobals "MOST_AMOUNT" = some (some (.int 999 tk4)))
    {tk5 : Tok} (g5 : PySem.W.nsIn K mainGlobals "MOST_RANK" = some (some (.int 9 tk5)))
    : ∃ fd : FuncData, (∀ (s : Shared) (v : Value), BindsTo s fd ⟨[v], []⟩ [("_law_script", v)]) ∧ ∀ base : Heap, K.In base → base.Ns mainGlobals mg → FnOk l.prog w K mg base CX0 22 fa fd ["_law_script"] (spLaw K) := by
  have e := hfa.symm.trans (PySem.W.mg_of X G a40)
  cases e
  have F1 := fun_mk (st := s_need) l1 c1 k1
  have D_need : DefAt K mg "need_book" s_need ["book"] _ _ := ⟨F1, F1.binds (ps := ["book"]) fun _ _ _ _ _ _ us hl => match us, hl with | [_], _ => rfl, PySem.W.mg_of X G a1⟩
  have F2 := fun_mk (st := s_wrong) l2 c2 k2
  have D_wrong : DefAt K mg "_wrong_in_claim" s_wrong ["claim", "houses"] _ _ := ⟨F2, F2.binds (ps := ["claim", "houses"]) fun _ _ _ _ _ _ us hl => match us, hl with | [_, _], _ => rfl, PySem.W.mg_of X G a2⟩
  have F3 := fun_mk (st := s_needh) l3 c3 k3
  have D_needh : DefAt K mg "need_house" s_needh ["book", "house"] _ _ := ⟨F3, F3.binds (ps := ["book", "house"]) fun _ _ _ _ _ _ us hl => match us, hl with | [_, _], _ => rfl, PySem.W.mg_of X G a3⟩
  have F4 := fun_mk (st := s_needhs) l4 c4 k4
  have D_needhs : DefAt K mg "need_houses" s_needhs ["book", "houses"] _ _ := ⟨F4, F4.binds (ps := ["book", "houses"]) fun _ _ _ _ _ _ us hl => match us, hl with | [_, _], _ => rfl, PySem.W.mg_of X G a4⟩
  have F5 := fun_mk (st := s_owed) l5 c5 k5
  have D_owed : DefAt K mg "owed" s_owed ["book", "house"] _ _ := ⟨F5, F5.binds (ps := ["book", "house"]) fun _ _ _ _ _ _ us hl => match us, hl with | [_, _], _ => rfl, PySem.W.mg_of X G a5⟩
  have F6 := fun_mk (st := s_shared) l6 c6 k6
  have D_shared : DefAt K mg "shared" s_shared ["amounts", "coins"] _ _ := ⟨F6, F6.binds (ps := ["amounts", "coins"]) fun _ _ _ _ _ _ us hl => match us, hl with | [_, _], _ => rfl, PySem.W.mg_of X G a6⟩
  have F7 := fun_mk (st := s_first_coins) l7 c7 k7
  have D_first_coins : DefAt K mg "_first_coins" s_first_coins ["amounts", "coins"] _ _ := ⟨F7, F7.binds (ps := ["amounts", "coins"]) fun _ _ _ _ _ _ us hl => match us, hl with | [_, _], _ => rfl, PySem.W.mg_of X G a7⟩
  have F8 := fun_mk (st := s_least_paid) l8 c8 k8
  have D_least_paid : DefAt K mg "_least_paid" s_least_paid ["amounts", "paid"] _ _ := ⟨F8, F8.binds (ps := ["amounts", "paid"]) fun _ _ _ _ _ _ us hl => match us, hl with | [_, _], _ => rfl, PySem.W.mg_of X G a8⟩
  have F9 := fun_mk (st := s_paidby) l9 c9 k9
  have D_paidby : DefAt K mg "paid_by" s_paidby ["book", "house", "means"] _ _ := ⟨F9, F9.binds (ps := ["book", "house", "means"]) fun _ _ _ _ _ _ us hl => match us, hl with | [_, _, _], _ => rfl, PySem.W.mg_of X G a9⟩
  have F10 := fun_mk (st := s_debts) l10 c10 k10
  have D_debts : DefAt K mg "debts_by_rank" s_debts ["claims", "house"] _ _ := ⟨F10, F10.binds (ps := ["claims", "house"]) fun _ _ _ _ _ _ us hl => match us, hl with | [_, _], _ => rfl, PySem.W.mg_of X G a10⟩
  have F11 := fun_mk (st := s_paidw) l11 c11 k11
  have D_paidw : DefAt K mg "paid_with" s_paidw ["debts", "means"] _ _ := ⟨F11, F11.binds (ps := ["debts", "means"]) fun _ _ _ _ _ _ us hl => match us, hl with | [_, _], _ => rfl, PySem.W.mg_of X G a11⟩
  have F12 := fun_mk (st := s_nextclaim) l12 c12 k12
  have D_nextclaim : DefAt K mg "next_claim" s_nextclaim ["debts", "payments"] _ _ := ⟨F12, F12.binds (ps := ["debts", "payments"]) fun _ _ _ _ _ _ us hl => match us, hl with | [_, _], _ => rfl, PySem.W.mg_of X G a12⟩
  have F13 := fun_mk (st := s_isclr) l13 c13 k13
  have D_isclr : DefAt K mg "is_clearing" s_isclr ["book", "payments"] _ _ := ⟨F13, F13.binds (ps := ["book", "payments"]) fun _ _ _ _ _ _ us hl => match us, hl with | [_, _], _ => rfl, PySem.W.mg_of X G a13⟩
  have F14 := fun_mk (st := s_best) l14 c14 k14
  have D_best : DefAt K mg "best" s_best ["book"] _ _ := ⟨F14, F14.binds (ps := ["book"]) fun _ _ _ _ _ _ us hl => match us, hl with | [_], _ => rfl, PySem.W.mg_of X G a14⟩
  have F15 := fun_mk (st := s_worst) l15 c15 k15
  have D_worst : DefAt K mg "worst" s_worst ["book"] _ _ := ⟨F15, F15.binds (ps := ["book"]) fun _ _ _ _ _ _ us hl => match us, hl with | [_], _ => rfl, PySem.W.mg_of X G a15⟩
  have F16 := fun_mk (st := s_needp) l16 c16 k16
  have D_needp : DefAt K mg "_need_payments" s_needp ["book", "payments"] _ _ := ⟨F16, F16.binds (ps := ["book", "payments"]) fun _ _ _ _ _ _ us hl => match us, hl with | [_, _], _ => rfl, PySem.W.mg_of X G a16⟩
  have F17 := fun_mk (st := s_allpaid) l17 c17 k17
  have D_allpaid : DefAt K mg "all_paid" s_allpaid ["book"] _ _ := ⟨F17, F17.binds (ps := ["book"]) fun _ _ _ _ _ _ us hl => match us, hl with | [_], _ => rfl, PySem.W.mg_of X G a17⟩
  have F18 := fun_mk (st := s_meansby) l18 c18 k18
  have D_meansby : DefAt K mg "means_by" s_meansby ["book", "payments"] _ _ := ⟨F18, F18.binds (ps := ["book", "payments"]) fun _ _ _ _ _ _ us hl => match us, hl with | [_, _], _ => rfl, PySem.W.mg_of X G a18⟩
  have F19 := fun_mk (st := s_settled) l19 c19 k19
  have D_settled : DefAt K mg "settled" s_settled ["book", "payments", "payers"] _ _ := ⟨F19, F19.binds (ps := ["book", "payments", "payers"]) fun _ _ _ _ _ _ us hl => match us, hl with | [_, _, _], _ => rfl, PySem.W.mg_of X G a19⟩
  have F20 := fun_mk (st := s_failing) l20 c20 k20
  have D_failing : DefAt K mg "failing" s_failing ["book"] _ _ := ⟨F20, F20.binds (ps := ["book"]) fun _ _ _ _ _ _ us hl => match us, hl with | [_], _ => rfl, PySem.W.mg_of X G a20⟩
  have F21 := fun_mk (st := s_waves) l21 c21 k21
  have D_waves : DefAt K mg "waves" s_waves ["book"] _ _ := ⟨F21, F21.binds (ps := ["book"]) fun _ _ _ _ _ _ us hl => match us, hl with | [_], _ => rfl, PySem.W.mg_of X G a21⟩
  have F22 := fun_mk (st := s_short) l22 c22 k22
  have D_short : DefAt K mg "short_of_coins" s_short ["book", "payments", "fallen"] _ _ := ⟨F22, F22.binds (ps := ["book", "payments", "fallen"]) fun _ _ _ _ _ _ us hl => match us, hl with | [_, _, _], _ => rfl, PySem.W.mg_of X G a22⟩
  have F23 := fun_mk (st := s_played) l23 c23 k23
  have D_played : DefAt K mg "played" s_played ["book", "moves"] _ _ := ⟨F23, F23.binds (ps := ["book", "moves"]) fun _ _ _ _ _ _ us hl => match us, hl with | [_, _], _ => rfl, PySem.W.mg_of X G a23⟩
  have F24 := fun_mk (st := s_fits) l24 c24 k24
  have D_fits : DefAt K mg "_fits" s_fits ["claims", "payments", "held", "move"] _ _ := ⟨F24, F24.binds (ps := ["claims", "payments", "held", "move"]) fun _ _ _ _ _ _ us hl => match us, hl with | [_, _, _, _], _ => rfl, PySem.W.mg_of X G a24⟩
  have F25 := fun_mk (st := s_areowed) l25 c25 k25
  have D_areowed : DefAt K mg "_are_owed" s_areowed ["claims", "payments", "numbers", "coins"] _ _ := ⟨F25, F25.binds (ps := ["claims", "payments", "numbers", "coins"]) fun _ _ _ _ _ _ us hl => match us, hl with | [_, _, _, _], _ => rfl, PySem.W.mg_of X G a25⟩
  have F26 := fun_mk (st := s_isring) l26 c26 k26
  have D_isring : DefAt K mg "_is_ring" s_isring ["claims", "numbers"] _ _ := ⟨F26, F26.binds (ps := ["claims", "numbers"]) fun _ _ _ _ _ _ us hl => match us, hl with | [_, _], _ => rfl, PySem.W.mg_of X G a26⟩
  have F27 := fun_mk (st := s_makemv) l27 c27 k27
  have D_makemv : DefAt K mg "_make_move" s_makemv ["claims", "payments", "held", "move"] _ _ := ⟨F27, F27.binds (ps := ["claims", "payments", "held", "move"]) fun _ _ _ _ _ _ us hl => match us, hl with | [_, _, _, _], _ => rfl, PySem.W.mg_of X G a27⟩
  have F28 := fun_mk (st := s_order) l28 c28 k28
  have D_order : DefAt K mg "order" s_order ["book"] _ _ := ⟨F28, F28.binds (ps := ["book"]) fun _ _ _ _ _ _ us hl => match us, hl with | [_], _ => rfl, PySem.W.mg_of X G a28⟩
  have F29 := fun_mk (st := s_ringin) l29 c29 k29
  have D_ringin : DefAt K mg "_ring_in" s_ringin ["claims", "payments"] _ _ := ⟨F29, F29.binds (ps := ["claims", "payments"]) fun _ _ _ _ _ _ us hl => match us, hl with | [_, _], _ => rfl, PySem.W.mg_of X G a29⟩
  have F30 := fun_mk (st := s_wayround) l30 c30 k30
  have D_wayround : DefAt K mg "_way_round" s_wayround ["claims", "onward", "start"] _ _ := ⟨F30, F30.binds (ps := ["claims", "onward", "start"]) fun _ _ _ _ _ _ us hl => match us, hl with | [_, _, _], _ => rfl, PySem.W.mg_of X G a30⟩
  have F31 := fun_mk (st := s_paidturn) l31 c31 k31
  have D_paidturn : DefAt K mg "_paid_in_turn" s_paidturn ["cash", "claims", "payments"] _ _ := ⟨F31, F31.binds (ps := ["cash", "claims", "payments"]) fun _ _ _ _ _ _ us hl => match us, hl with | [_, _, _], _ => rfl, PySem.W.mg_of X G a31⟩
  have F32 := fun_mk (st := s_pinit) l32 c32 k32
  have M_pinit : MethAt K C0 "__init__" "Play.__init__" s_pinit ["self", "book"] _ _ := ⟨F32, F32.binds (ps := ["self", "book"]) fun _ _ _ _ _ _ us hl => match us, hl with | [_, _], _ => rfl, ⟨a32, i32, k32⟩⟩
  have F33 := fun_mk (st := s_maypay) l33 c33 k33
  have M_maypay : MethAt K C0 "may_pay" "Play.may_pay" s_maypay ["self", "house"] _ _ := ⟨F33, F33.binds (ps := ["self", "house"]) fun _ _ _ _ _ _ us hl => match us, hl with | [_, _], _ => rfl, ⟨a33, i33, k33⟩⟩
  have F34 := fun_mk (st := s_leastpayer) l34 c34 k34
  have M_leastpayer : MethAt K C0 "least_payer" "Play.least_payer" s_leastpayer ["self"] _ _ := ⟨F34, F34.binds (ps := ["self"]) fun _ _ _ _ _ _ us hl => match us, hl with | [_], _ => rfl, ⟨a34, i34, k34⟩⟩
  have F35 := fun_mk (st := s_paycoin) l35 c35 k35
  have M_paycoin : MethAt K C0 "pay_coin" "Play.pay_coin" s_paycoin ["self", "house"] _ _ := ⟨F35, F35.binds (ps := ["self", "house"]) fun _ _ _ _ _ _ us hl => match us, hl with | [_, _], _ => rfl, ⟨a35, i35, k35⟩⟩
  have F36 := fun_mk (st := s_stilled) l36 c36 k36
  have D_stilled : DefAt K mg "stilled" s_stilled ["book", "picks"] _ _ := ⟨F36, F36.binds (ps := ["book", "picks"]) fun _ _ _ _ _ _ us hl => match us, hl with | [_, _], _ => rfl, PySem.W.mg_of X G a36⟩
  have F37 := fun_mk (st := s_next) l37 c37 k37
  have D_next : DefAt K mg "_law_next" s_next ["_law_h", "_law_many"] _ _ := ⟨F37, F37.binds (ps := ["_law_h", "_law_many"]) fun _ _ _ _ _ _ us hl => match us, hl with | [_, _], _ => rfl, PySem.W.mg_of X G a37⟩
  have F38 := fun_mk (st := s_lbook) l38 c38 k38
  have D_lbook : DefAt K mg "_law_book" s_lbook ["_law_h", "_law_houses", "_law_claims", "_law_wide"] _ _ := ⟨F38, F38.binds (ps := ["_law_h", "_law_houses", "_law_claims", "_law_wide"]) fun _ _ _ _ _ _ us hl => match us, hl with | [_, _, _, _], _ => rfl, PySem.W.mg_of X G a38⟩
  have F39 := fun_mk (st := s_are) l39 c39 k39
  have D_are : DefAt K mg "_law_are" s_are ["_law_found", "_law_due"] _ _ := ⟨F39, F39.binds (ps := ["_law_found", "_law_due"]) fun _ _ _ _ _ _ us hl => match us, hl with | [_, _], _ => rfl, PySem.W.mg_of X G a39⟩
  have F40 := fun_mk (st := s_law) l40 c40 k40
  have D_law : DefAt K mg "law" s_law ["_law_script"] _ _ := ⟨F40, F40.binds (ps := ["_law_script"]) fun _ _ _ _ _ _ us hl => match us, hl with | [_], _ => rfl, PySem.W.mg_of X G a40⟩
  have m_range : mg "range" = none := PySem.W.mg_none_of X G z1
  have m_len : mg "len" = none := PySem.W.mg_none_of X G z2
  have m_max : mg "max" = none := PySem.W.mg_none_of X G z3
  have m_min : mg "min" = none := PySem.W.mg_none_of X G z4
  have m_sum : mg "sum" = none := PySem.W.mg_none_of X G z5
  have m_list : mg "list" = none := PySem.W.mg_none_of X G z6
  have m_enumerate : mg "enumerate" = none := PySem.W.mg_none_of X G z7
  have m_isinstance : mg "isinstance" = none := PySem.W.mg_none_of X G z8
  have m_bool : mg "bool" = none := PySem.W.mg_none_of X G z9
  have m_int : mg "int" = none := PySem.W.mg_none_of X G z10
  have m_tuple : mg "tuple" = none := PySem.W.mg_none_of X G z11
  have m_sorted : mg "sorted" = none := PySem.W.mg_none_of X G z12
  have m_zip : mg "zip" = none := PySem.W.mg_none_of X G z13
  have m_set : mg "set" = none := PySem.W.mg_none_of X G z14
  have m_dict : mg "dict" = none := PySem.W.mg_none_of X G z15
  have L : Lims mg := ⟨⟨_, PySem.W.mg_of X G g1⟩, ⟨_, PySem.W.mg_of X G g2⟩, ⟨_, PySem.W.mg_of X G g3⟩, ⟨_, PySem.W.mg_of X G g4⟩, ⟨_, PySem.W.mg_of X G g5⟩⟩
  have T_Play : ClsAt K mg "Play" C0 := ⟨⟨pg0, hd0, po0, sa0⟩, PySem.W.mg_of X G aC0, mk0, kc0⟩
  exact ⟨PySem.W.fnOf "law" "law" (defArgs s_law) (defBody s_law) (defScope s_law) .none kV40 dc40 pm40 an40 cd40 ct40, fun s v => .of_eq rfl, fun base _ _ => ok_law (D := D_law) (T_Play := T_Play) (N_Play_claims := n0_0) (N_Play_held := n0_1) (N_Play_payments := n0_2) (N_Play_debts := n0_3) (N_Play_unpaid := n0_4) (L := L) (m_range := m_range) (m_len := m_len) (m_max := m_max) (m_min := m_min) (m_sum := m_sum) (m_list := m_list) (m_enumerate := m_enumerate) (m_isinstance := m_isinstance) (m_bool := m_bool) (m_int := m_int) (m_tuple := m_tuple) (m_sorted := m_sorted) (m_zip := m_zip) (m_set := m_set) (m_dict := m_dict) (D_need := D_need) (D_wrong := D_wrong) (D_needh := D_needh) (D_needhs := D_needhs) (D_owed := D_owed) (D_shared := D_shared) (D_first_coins := D_first_coins) (D_least_paid := D_least_paid) (D_paidby := D_paidby) (D_debts := D_debts) (D_paidw := D_paidw) (D_nextclaim := D_nextclaim) (D_isclr := D_isclr) (D_best := D_best) (D_worst := D_worst) (D_needp := D_needp) (D_allpaid := D_allpaid) (D_meansby := D_meansby) (D_settled := D_settled) (D_failing := D_failing) (D_waves := D_waves) (D_short := D_short) (D_played := D_played) (D_fits := D_fits) (D_areowed := D_areowed) (D_isring := D_isring) (D_makemv := D_makemv) (D_order := D_order) (D_ringin := D_ringin) (D_wayround := D_wayround) (D_paidturn := D_paidturn) (M_pinit := M_pinit) (M_maypay := M_maypay) (M_leastpayer := M_leastpayer) (M_paycoin := M_paycoin) (D_stilled := D_stilled) (D_next := D_next) (D_lbook := D_lbook) (D_are := D_are)⟩
end Rf
open PySem PySem.W PyProof.Rows
set_option maxRecDepth 100000 in
set_option maxHeartbeats 0 in
theorem PySem.Challenge.cw_rankfall_k23_whole_claims_in_another_ord_holds : PySem.Challenge.rw_rankfall_k23_whole_claims_in_another_ord.Holds := by
  w_on; o_law; k_head; (case hw => w_witness2)
  k_fill
  refine L2.walk_of (l := PySem.Challenge.rw_rankfall_k23_whole_claims_in_another_ord) (n := 63) (k := 22) (x := "_law_script") (CX := fun _ => L2.CX0) (sp := fun w => Rf.spLaw _) rfl (by decide) rfl ⟨rfl, by decide, by decide⟩ (fun w h Y => PySem.W.kIn_of Y) ?F (fun _ _ a ns hl _ hS => ⟨a, ns, rfl, hS, hl, fun _ => rfl⟩) (fun _ _ _ _ _ h => h)
  case F =>
    intro w mg fa h KX G hmg
    refine' Rf.all_mk KX G hmg ?aC0 ?pg0 ?hd0 ?po0 ?sa0 ?mk0 ?kc0 ?n0_0 ?n0_1 ?n0_2 ?n0_3 ?n0_4 ?a1 ?l1 ?c1 ?k1 ?a2 ?l2 ?c2 ?k2 ?a3 ?l3 ?c3 ?k3 ?a4 ?l4 ?c4 ?k4 ?a5 ?l5 ?c5 ?k5 ?a6 ?l6 ?c6 ?k6 ?a7 ?l7 ?c7 ?k7 ?a8 ?l8 ?c8 ?k8 ?a9 ?l9 ?c9 ?k9 ?a10 ?l10 ?c10 ?k10 ?a11 ?l11 ?c11 ?k11 ?a12 ?l12 ?c12 ?k12 ?a13 ?l13 ?c13 ?k13 ?a14 ?l14 ?c14 ?k14 ?a15 ?l15 ?c15 ?k15 ?a16 ?l16 ?c16 ?k16 ?a17 ?l17 ?c17 ?k17 ?a18 ?l18 ?c18 ?k18 ?a19 ?l19 ?c19 ?k19 ?a20 ?l20 ?c20 ?k20 ?a21 ?l21 ?c21 ?k21 ?a22 ?l22 ?c22 ?k22 ?a23 ?l23 ?c23 ?k23 ?a24 ?l24 ?c24 ?k24 ?a25 ?l25 ?c25 ?k25 ?a26 ?l26 ?c26 ?k26 ?a27 ?l27 ?c27 ?k27 ?a28 ?l28 ?c28 ?k28 ?a29 ?l29 ?c29 ?k29 ?a30 ?l30 ?c30 ?k30 ?a31 ?l31 ?c31 ?k31 ?a32 ?i32 ?l32 ?c32 ?k32 ?a33 ?i33 ?l33 ?c33 ?k33 ?a34 ?i34 ?l34 ?c34 ?k34 ?a35 ?i35 ?l35 ?c35 ?k35 ?a36 ?l36 ?c36 ?k36 ?a37 ?l37 ?c37 ?k37 ?a38 ?l38 ?c38 ?k38 ?a39 ?l39 ?c39 ?k39 ?a40 ?l40 ?c40 ?k40 ?z1 ?z2 ?z3 ?z4 ?z5 ?z6 ?z7 ?z8 ?z9 ?z10 ?z11 ?z12 ?z13 ?z14 ?z15 ?g1 ?g2 ?g3 ?g4 ?g5
    (case aC0 => k_is)
    (case pg0 => k_is)
    (case hd0 => k_is)
    (case po0 => k_is)
    (case sa0 => k_is)
    (case mk0 => k_is)
    (case kc0 => k_is)
    (case n0_0 => k_is)
    (case n0_1 => k_is)
    (case n0_2 => k_is)
    (case n0_3 => k_is)
    (case n0_4 => k_is)
    (case a1 => k_is)
    (case l1 => k_is)
    (case c1 => k_is)
    (case k1 => k_is)
    (case a2 => k_is)
    (case l2 => k_is)
    (case c2 => k_is)
    (case k2 => k_is)
    (case a3 => k_is)
    (case l3 => k_is)
    (case c3 => k_is)
    (case k3 => k_is)
    (case a4 => k_is)
    (case l4 => k_is)
    (case c4 => k_is)
    (case k4 => k_is)
    (case a5 => k_is)
    (case l5 => k_is)
    (case c5 => k_is)
    (case k5 => k_is)
    (case a6 => k_is)
    (case l6 => k_is)
    (case c6 => k_is)
    (case k6 => k_is)
    (case a7 => k_is)
    (case l7 => k_is)
    (case c7 => k_is)
    (case k7 => k_is)
    (case a8 => k_is)
    (case l8 => k_is)
    (case c8 => k_is)
    (case k8 => k_is)
    (case a9 => k_is)
    (case l9 => k_is)
    (case c9 => k_is)
    (case k9 => k_is)
    (case a10 => k_is)
    (case l10 => k_is)
    (case c10 => k_is)
    (case k10 => k_is)
    (case a11 => k_is)
    (case l11 => k_is)
    (case c11 => k_is)
    (case k11 => k_is)
    (case a12 => k_is)
    (case l12 => k_is)
    (case c12 => k_is)
    (case k12 => k_is)
    (case a13 => k_is)
    (case l13 => k_is)
    (case c13 => k_is)
    (case k13 => k_is)
    (case a14 => k_is)
    (case l14 => k_is)
    (case c14 => k_is)
    (case k14 => k_is)
    (case a15 => k_is)
    (case l15 => k_is)
    (case c15 => k_is)
    (case k15 => k_is)
    (case a16 => k_is)
    (case l16 => k_is)
    (case c16 => k_is)
    (case k16 => k_is)
    (case a17 => k_is)
    (case l17 => k_is)
    (case c17 => k_is)
    (case k17 => k_is)
    (case a18 => k_is)
    (case l18 => k_is)
    (case c18 => k_is)
    (case k18 => k_is)
    (case a19 => k_is)
    (case l19 => k_is)
    (case c19 => k_is)
    (case k19 => k_is)
    (case a20 => k_is)
    (case l20 => k_is)
    (case c20 => k_is)
    (case k20 => k_is)
    (case a21 => k_is)
    (case l21 => k_is)
    (case c21 => k_is)
    (case k21 => k_is)
    (case a22 => k_is)
    (case l22 => k_is)
    (case c22 => k_is)
    (case k22 => k_is)
    (case a23 => k_is)
    (case l23 => k_is)
    (case c23 => k_is)
    (case k23 => k_is)
    (case a24 => k_is)
    (case l24 => k_is)
    (case c24 => k_is)
    (case k24 => k_is)
    (case a25 => k_is)
    (case l25 => k_is)
    (case c25 => k_is)
    (case k25 => k_is)
    (case a26 => k_is)
    (case l26 => k_is)
    (case c26 => k_is)
    (case k26 => k_is)
    (case a27 => k_is)
    (case l27 => k_is)
    (case c27 => k_is)
    (case k27 => k_is)
    (case a28 => k_is)
    (case l28 => k_is)
    (case c28 => k_is)
    (case k28 => k_is)
    (case a29 => k_is)
    (case l29 => k_is)
    (case c29 => k_is)
    (case k29 => k_is)
    (case a30 => k_is)
    (case l30 => k_is)
    (case c30 => k_is)
    (case k30 => k_is)
    (case a31 => k_is)
    (case l31 => k_is)
    (case c31 => k_is)
    (case k31 => k_is)
    (case a32 => k_is)
    (case i32 => k_is)
    (case l32 => k_is)
    (case c32 => k_is)
    (case k32 => k_is)
    (case a33 => k_is)
    (case i33 => k_is)
    (case l33 => k_is)
    (case c33 => k_is)
    (case k33 => k_is)
    (case a34 => k_is)
    (case i34 => k_is)
    (case l34 => k_is)
    (case c34 => k_is)
    (case k34 => k_is)
    (case a35 => k_is)
    (case i35 => k_is)
    (case l35 => k_is)
    (case c35 => k_is)
    (case k35 => k_is)
    (case a36 => k_is)
    (case l36 => k_is)
    (case c36 => k_is)
    (case k36 => k_is)
    (case a37 => k_is)
    (case l37 => k_is)
    (case c37 => k_is)
    (case k37 => k_is)
    (case a38 => k_is)
    (case l38 => k_is)
    (case c38 => k_is)
    (case k38 => k_is)
    (case a39 => k_is)
    (case l39 => k_is)
    (case c39 => k_is)
    (case k39 => k_is)
    (case a40 => k_is)
    (case l40 => k_is)
    (case c40 => k_is)
    (case k40 => k_is)
    (case z1 => k_is)
    (case z2 => k_is)
    (case z3 => k_is)
    (case z4 => k_is)
    (case z5 => k_is)
    (case z6 => k_is)
    (case z7 => k_is)
    (case z8 => k_is)
    (case z9 => k_is)
    (case z10 => k_is)
    (case z11 => k_is)
    (case z12 => k_is)
    (case z13 => k_is)
    (case z14 => k_is)
    (case z15 => k_is)
    (case g1 => k_is)
    (case g2 => k_is)
    (case g3 => k_is)
    (case g4 => k_is)
    (case g5 => k_is)


