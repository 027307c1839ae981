import PyProof.Rows.All
import Wide.All
import OpenK.AllK
import Wide.FinOn
import HandS.ForMost
import HandS.IsInst
import HandS.Evl
import HandS.SetKeys
import HandS.More
import HandS.SortRule
import HandS.Flow
import KE.KItemsList
import HandS.ListItems
import HandS.Walk
import HandS.Zip
import HandS.Conv
import HandS.Style
import KE.GoesEnum
import KE.GoesMore
import HandS.Exc
import HandS.ExcOwn
import HandS.WordsExc
import HandS.ExcInit
import HandS.ExcField
import HandS.ExcIs
import HandS.TryOnly
import HandS.TryMany
import HandS.Nested
import HandS.FStr
import KE.KExcSuper
import KE.KExcIs
import KE.RegKIsAll
import KE.RegKSuper
import HandS.Small
import HandS.SortInts
import HandS.TupAny
import HandS.TupMul
import PySem.Challenge.RW_rankfall_k18_other_refusals
set_option Elab.async false
set_option linter.all false
set_option maxRecDepth 100000
set_option maxHeartbeats 4000000
namespace Rf
open PySem PySem.Spec PyProof.Rows L2
/-! ### sharing coin by coin -/
def g (l : List Int) (i : Nat) : Int := l.getD i 0
theorem g_get {l : List Int} {i : Nat} (h : i < l.length) : l[i]? = some (g l i) := by
  unfold g
  rw [List.getD_eq_getElem?_getD, List.getElem?_eq_getElem h]
  rfl
theorem g_of {l : List Int} {i : Nat} {x : Int} (h : l[i]? = some x) : g l i = x := by
  unfold g
  rw [List.getD_eq_getElem?_getD, h]
  rfl
theorem g_mem {l : List Int} {i : Nat} (h : i < l.length) : g l i ∈ l := List.mem_of_getElem? (g_get h)
theorem mem_g {l : List Int} {x : Int} (h : x ∈ l) : ∃ i, i < l.length ∧ g l i = x := by
  obtain ⟨i, hi, e⟩ := List.mem_iff_getElem.mp h
  exact ⟨i, hi, g_of (by rw [List.getElem?_eq_getElem hi, e])⟩
theorem g_set_same {l : List Int} {i : Nat} {x : Int} (h : i < l.length) : g (l.set i x) i = x := by
  apply g_of
  rw [List.getElem?_set_self h]
theorem g_set_ne {l : List Int} {i j : Nat} {x : Int} (h : i ≠ j) : g (l.set i x) j = g l j := by
  unfold g
  rw [List.getD_eq_getElem?_getD, List.getD_eq_getElem?_getD, List.getElem?_set_ne h]
theorem ext_g {l m : List Int} (hl : l.length = m.length) (h : ∀ i, i < l.length → g l i = g m i) : l = m := by
  apply List.ext_getElem? 
  intro i
  by_cases hi : i < l.length
  · rw [g_get hi, g_get (hl ▸ hi), h i hi]
  · rw [List.getElem?_eq_none (by omega), List.getElem?_eq_none (by omega)]
theorem sum_set_g : ∀ {l : List Int} {j : Nat} {y : Int}, j < l.length → (l.set j y).sum = l.sum - g l j + y
  | [], j, y, h => by simp at h
  | a :: r, 0, y, h => by
    show (y :: r).sum = (a :: r).sum - a + y
    rw [List.sum_cons, List.sum_cons]
    omega
  | a :: r, j + 1, y, h => by
    have ih := sum_set_g (l := r) (j := j) (y := y) (by simpa using h)
    show (a :: r.set j y).sum = (a :: r).sum - g r j + y
    rw [List.sum_cons, List.sum_cons, ih]
    omega
theorem sum_le_of : ∀ {l m : List Int}, l.length = m.length → (∀ i, i < l.length → g l i ≤ g m i) → l.sum ≤ m.sum
  | [], [], _, _ => Int.le_refl _
  | [], _ :: _, h, _ => by simp at h
  | _ :: _, [], h, _ => by simp at h
  | a :: r, b :: s, hl, h => by
    have h0 : a ≤ b := h 0 (by simp)
    have ih := sum_le_of (l := r) (m := s) (by simpa using hl) (fun i hi => h (i + 1) (by simpa using hi))
    rw [List.sum_cons, List.sum_cons]
    omega
theorem eq_of_sum_le : ∀ {l m : List Int}, l.length = m.length → (∀ i, i < l.length → g l i ≤ g m i) → m.sum ≤ l.sum → l = m
  | [], [], _, _, _ => rfl
  | [], _ :: _, h, _, _ => by simp at h
  | _ :: _, [], h, _, _ => by simp at h
  | a :: r, b :: s, hl, h, hs => by
    have h0 : a ≤ b := h 0 (by simp)
    have hr : ∀ i, i < r.length → g r i ≤ g s i := fun i hi => h (i + 1) (by simpa using hi)
    have hl2 : r.length = s.length := by simpa using hl
    have h1 := sum_le_of hl2 hr
    rw [List.sum_cons, List.sum_cons] at hs
    have e : a = b := by omega
    rw [e, eq_of_sum_le hl2 hr (by omega)]
theorem sum_nonneg {l : List Int} (h : ∀ i, i < l.length → 0 ≤ g l i) : 0 ≤ l.sum := by
  have := sum_le_of (l := List.replicate l.length 0) (m := l) (by simp) (fun i hi => by
    have e : g (List.replicate l.length 0) i = 0 := by
      apply g_of
      rw [List.getElem?_replicate, if_pos (by simpa using hi)]
    rw [e]
    exact h i (by simpa using hi))
  have e : (List.replicate l.length (0 : Int)).sum = 0 := by
    generalize l.length = n
    induction n with
    | zero => rfl
    | succ n ih => rw [List.replicate_succ, List.sum_cons, ih]; rfl
  omega

/-- the least part's first place among those that aren't full, of the first n -/
def firstUp (a p : List Int) : Nat → Option Nat
  | 0 => none
  | k + 1 => match firstUp a p k with
    | none => if g p k < g a k then some k else none
    | some f => if g p k < g a k ∧ g p k * g a f < g p f * g a k then some k else some f
/-- the next coin goes to it -/
def nextS (a p : List Int) : List Int := match firstUp a p a.length with
  | some f => p.set f (g p f + 1)
  | none => p
def steps (a : List Int) : Nat → List Int → List Int
  | 0, p => p
  | n + 1, p => nextS a (steps a n p)
def zeros (a : List Int) : List Int := List.replicate a.length 0
def shareN (a : List Int) (n : Nat) : List Int := steps a n (zeros a)
/-- what each amount gets of c coins -/
def share (a : List Int) (c : Int) : List Int := shareN a (min c a.sum).toNat

theorem firstUp_none {a p : List Int} : ∀ {n : Nat}, firstUp a p n = none → ∀ j, j < n → ¬ g p j < g a j
  | 0, _, j, hj => absurd hj (Nat.not_lt_zero _)
  | k + 1, h, j, hj => by
    unfold firstUp at h
    cases e : firstUp a p k with
    | none =>
      rw [e] at h
      simp only at h
      by_cases hk : g p k < g a k
      · rw [if_pos hk] at h; cases h
      · by_cases hjk : j = k
        · subst hjk; exact hk
        · exact firstUp_none e j (by omega)
    | some f =>
      rw [e] at h
      simp only at h
      split at h <;> cases h
/-- what the chosen one is -/
structure IsFirst (a p : List Int) (n f : Nat) : Prop where
  lt : f < n
  room : g p f < g a f
  least : ∀ j, j < n → g p j < g a j → g p f * g a j < g p j * g a f ∨ (g p f * g a j = g p j * g a f ∧ f ≤ j)
/-- comparing parts is transitive -/
theorem part_trans {x y z a b c : Int} (ha : 0 < a) (hb : 0 < b) (hc : 0 < c) (h1 : x * b ≤ y * a) (h2 : y * c ≤ z * b) : x * c ≤ z * a := by
  have e1 : x * b * c ≤ y * a * c := Int.mul_le_mul_of_nonneg_right h1 (by omega)
  have e2 : y * c * a ≤ z * b * a := Int.mul_le_mul_of_nonneg_right h2 (by omega)
  have e3 : y * a * c = y * c * a := by rw [Int.mul_assoc, Int.mul_comm a c, ← Int.mul_assoc]
  have e4 : x * b * c = x * c * b := by rw [Int.mul_assoc, Int.mul_comm b c, ← Int.mul_assoc]
  have e5 : z * b * a = z * a * b := by rw [Int.mul_assoc, Int.mul_comm b a, ← Int.mul_assoc]
  have e6 : x * c * b ≤ z * a * b := by rw [← e4, ← e5]; omega
  exact Int.le_of_mul_le_mul_right e6 hb
theorem part_trans_lt {x y z a b c : Int} (ha : 0 < a) (hb : 0 < b) (hc : 0 < c) (h1 : x * b < y * a) (h2 : y * c ≤ z * b) : x * c < z * a := by
  have e1 : x * b * c < y * a * c := Int.mul_lt_mul_of_pos_right h1 hc
  have e2 : y * c * a ≤ z * b * a := Int.mul_le_mul_of_nonneg_right h2 (by omega)
  have e3 : y * a * c = y * c * a := by rw [Int.mul_assoc, Int.mul_comm a c, ← Int.mul_assoc]
  have e4 : x * b * c = x * c * b := by rw [Int.mul_assoc, Int.mul_comm b c, ← Int.mul_assoc]
  have e5 : z * b * a = z * a * b := by rw [Int.mul_assoc, Int.mul_comm b a, ← Int.mul_assoc]
  have e6 : x * c * b < z * a * b := by rw [← e4, ← e5]; omega
  exact Int.lt_of_mul_lt_mul_right e6 (by omega)
theorem firstUp_some {a p : List Int} (pos : ∀ i, i < a.length → 0 < g a i) : ∀ {n : Nat} {f : Nat}, n ≤ a.length → firstUp a p n = some f → IsFirst a p n f
  | 0, f, _, h => by cases h
  | k + 1, f, hn, h => by
    unfold firstUp at h
    have pk : 0 < g a k := pos k (by omega)
    cases e : firstUp a p k with
    | none =>
      rw [e] at h
      simp only at h
      by_cases hk : g p k < g a k
      · rw [if_pos hk] at h; cases h
        refine ⟨Nat.lt_succ_self _, hk, fun j hj hlt => ?_⟩
        by_cases hjk : j = k
        · subst hjk; exact .inr ⟨rfl, Nat.le_refl _⟩
        · exact absurd hlt (firstUp_none e j (by omega))
      · rw [if_neg hk] at h; cases h
    | some f' =>
      rw [e] at h
      simp only at h
      have F := firstUp_some pos (n := k) (by omega) e
      have pf : 0 < g a f' := pos f' (by have := F.lt; omega)
      by_cases hk : g p k < g a k ∧ g p k * g a f' < g p f' * g a k
      · rw [if_pos hk] at h; cases h
        refine ⟨Nat.lt_succ_self _, hk.1, fun j hj hlt => ?_⟩
        by_cases hjk : j = k
        · subst hjk; exact .inr ⟨rfl, Nat.le_refl _⟩
        · left
          have pj : 0 < g a j := pos j (by omega)
          have h1 := hk.2
          have h2 : g p f' * g a j ≤ g p j * g a f' := by
            rcases F.least j (by omega) hlt with q | q <;> omega
          exact part_trans_lt (a := g a k) (b := g a f') (c := g a j) pk pf pj h1 h2
      · rw [if_neg hk] at h; cases h
        refine ⟨by have := F.lt; omega, F.room, fun j hj hlt => ?_⟩
        by_cases hjk : j = k
        · subst hjk
          have : ¬ g p j * g a f < g p f * g a j := fun z => hk ⟨hlt, z⟩
          by_cases e1 : g p f * g a j = g p j * g a f
          · exact .inr ⟨e1, by have := F.lt; omega⟩
          · exact .inl (by omega)
        · exact F.least j (by omega) hlt

/-- a state of the sharing -/
structure Valid (a p : List Int) : Prop where
  len : p.length = a.length
  lo : ∀ i, i < a.length → 0 ≤ g p i
  hi : ∀ i, i < a.length → g p i ≤ g a i
  ord : ∀ i j, i < a.length → j < a.length → 0 < g p i → g p j < g a j → (g p i - 1) * g a j < g p j * g a i ∨ ((g p i - 1) * g a j = g p j * g a i ∧ i < j)
theorem valid_zeros {a : List Int} (pos : ∀ i, i < a.length → 0 < g a i) : Valid a (zeros a) := by
  have z : ∀ i, i < a.length → g (zeros a) i = 0 := fun i hi => by
    apply g_of
    unfold zeros
    rw [List.getElem?_replicate, if_pos hi]
  refine ⟨by simp [zeros], fun i hi => by rw [z i hi]; omega, fun i hi => by rw [z i hi]; have := pos i hi; omega, fun i j hi hj h => ?_⟩
  rw [z i hi] at h
  omega
theorem valid_full {a : List Int} (pos : ∀ i, i < a.length → 0 < g a i) : Valid a a :=
  ⟨rfl, fun i hi => by have := pos i hi; omega, fun i _ => Int.le_refl _, fun i j _ _ _ h => absurd h (Int.lt_irrefl _)⟩
theorem Valid.sum_le {a p : List Int} (V : Valid a p) : p.sum ≤ a.sum := sum_le_of V.len fun i hi => V.hi i (V.len ▸ hi)
theorem Valid.sum_nn {a p : List Int} (V : Valid a p) : 0 ≤ p.sum := sum_nonneg fun i hi => V.lo i (V.len ▸ hi)
theorem Valid.full {a p : List Int} (V : Valid a p) (h : a.sum ≤ p.sum) : p = a := eq_of_sum_le V.len (fun i hi => V.hi i (V.len ▸ hi)) h
theorem Valid.unique {a p q : List Int} (V : Valid a p) (W : Valid a q) (h : p.sum = q.sum) (pos : ∀ i, i < a.length → 0 < g a i) : p = q := by
  by_cases h1 : ∀ i, i < a.length → g p i ≤ g q i
  · exact eq_of_sum_le (V.len.trans W.len.symm) (fun i hi => h1 i (V.len ▸ hi)) (by omega)
  · by_cases h2 : ∀ i, i < a.length → g q i ≤ g p i
    · exact (eq_of_sum_le (W.len.trans V.len.symm) (fun i hi => h2 i (W.len ▸ hi)) (by omega)).symm
    · exfalso
      have h1' : ∃ i, i < a.length ∧ g q i < g p i := Classical.byContradiction fun c => h1 fun i hi => Int.not_lt.mp fun z => c ⟨i, hi, z⟩
      have h2' : ∃ j, j < a.length ∧ g p j < g q j := Classical.byContradiction fun c => h2 fun i hi => Int.not_lt.mp fun z => c ⟨i, hi, z⟩
      obtain ⟨i, hi, di⟩ := h1'
      obtain ⟨j, hj, dj⟩ := h2'
      have ai := pos i hi
      have aj := pos j hj
      have k1 := V.ord i j hi hj (by have := W.lo i hi; omega) (by have := W.hi j hj; omega)
      have k2 := W.ord j i hj hi (by have := V.lo j hj; omega) (by have := V.hi i hi; omega)
      have m1 : g q i * g a j ≤ (g p i - 1) * g a j := Int.mul_le_mul_of_nonneg_right (by omega) (by omega)
      have m2 : g p j * g a i ≤ (g q j - 1) * g a i := Int.mul_le_mul_of_nonneg_right (by omega) (by omega)
      rcases k1 with k1 | ⟨k1, o1⟩ <;> rcases k2 with k2 | ⟨k2, o2⟩ <;> omega
theorem valid_next {a p : List Int} (pos : ∀ i, i < a.length → 0 < g a i) (V : Valid a p) {f : Nat} (F : IsFirst a p a.length f) : Valid a (p.set f (g p f + 1)) := by
  have fl : f < p.length := V.len.symm ▸ F.lt
  refine ⟨by rw [List.length_set]; exact V.len, fun i hi => ?_, fun i hi => ?_, fun i j hi hj h1 h2 => ?_⟩
  · by_cases e : f = i
    · subst e; rw [g_set_same fl]; have := V.lo f hi; omega
    · rw [g_set_ne e]; exact V.lo i hi
  · by_cases e : f = i
    · subst e; rw [g_set_same fl]; have := F.room; omega
    · rw [g_set_ne e]; exact V.hi i hi
  · have ai := pos i hi
    have aj := pos j hj
    by_cases ei : f = i
    · subst ei
      rw [g_set_same fl] at h1 ⊢
      by_cases ej : f = j
      · subst ej
        rw [g_set_same fl] at h2 ⊢
        left
        exact Int.mul_lt_mul_of_pos_right (by omega) aj
      · rw [g_set_ne ej] at h2 ⊢
        have e0 : g p f + 1 - 1 = g p f := by omega
        rw [e0]
        rcases F.least j hj h2 with q | ⟨q, r⟩
        · exact .inl q
        · exact .inr ⟨q, by omega⟩
    · rw [g_set_ne ei] at h1 ⊢
      by_cases ej : f = j
      · subst ej
        rw [g_set_same fl] at h2 ⊢
        left
        have k := V.ord i f hi hj h1 (by omega)
        have m : g p f * g a i < (g p f + 1) * g a i := Int.mul_lt_mul_of_pos_right (by omega) ai
        rcases k with k | ⟨k, _⟩ <;> omega
      · rw [g_set_ne ej] at h2 ⊢
        exact V.ord i j hi hj h1 h2
theorem exists_first {a p : List Int} (V : Valid a p) (h : p.sum < a.sum) (pos : ∀ i, i < a.length → 0 < g a i) : ∃ f, firstUp a p a.length = some f ∧ IsFirst a p a.length f := by
  cases e : firstUp a p a.length with
  | some f => exact ⟨f, rfl, firstUp_some pos (Nat.le_refl _) e⟩
  | none =>
    exfalso
    have h1 := firstUp_none e
    have h2 := sum_le_of (l := a) (m := p) V.len.symm fun i hi => Int.not_lt.mp (h1 i hi)
    omega
theorem nextS_of {a p : List Int} {f : Nat} (h : firstUp a p a.length = some f) : nextS a p = p.set f (g p f + 1) := by
  unfold nextS
  rw [h]
theorem next_ok {a p : List Int} (pos : ∀ i, i < a.length → 0 < g a i) (V : Valid a p) (h : p.sum < a.sum) : Valid a (nextS a p) ∧ (nextS a p).sum = p.sum + 1 := by
  obtain ⟨f, e, F⟩ := exists_first V h pos
  have fl : f < p.length := V.len.symm ▸ F.lt
  rw [nextS_of e]
  refine ⟨valid_next pos V F, ?_⟩
  rw [sum_set_g fl]
  omega
theorem steps_ok {a p : List Int} (pos : ∀ i, i < a.length → 0 < g a i) (V : Valid a p) : ∀ n : Nat, p.sum + n ≤ a.sum → Valid a (steps a n p) ∧ (steps a n p).sum = p.sum + n
  | 0, _ => ⟨V, by simp [steps]⟩
  | n + 1, h => by
    obtain ⟨V1, s1⟩ := steps_ok pos V n (by omega)
    obtain ⟨V2, s2⟩ := next_ok pos V1 (by rw [s1]; omega)
    exact ⟨V2, by show (nextS a (steps a n p)).sum = _; rw [s2, s1]; omega⟩
theorem zeros_sum (a : List Int) : (zeros a).sum = 0 := by
  unfold zeros
  generalize a.length = n
  induction n with
  | zero => rfl
  | succ n ih => rw [List.replicate_succ, List.sum_cons, ih]; rfl
def AllPos (a : List Int) : Prop := ∀ i, i < a.length → 0 < g a i
theorem AllPos.of {a : List Int} (h : ∀ x ∈ a, 0 < x) : AllPos a := fun _ hi => h _ (g_mem hi)
theorem AllPos.sum_nn {a : List Int} (h : AllPos a) : 0 ≤ a.sum := sum_nonneg fun i hi => Int.le_of_lt (h i hi)
theorem share_ok {a : List Int} {c : Int} (pos : AllPos a) (hc : 0 ≤ c) : Valid a (share a c) ∧ (share a c).sum = min c a.sum := by
  have h0 := pos.sum_nn
  have z := zeros_sum a
  obtain ⟨V, s⟩ := steps_ok pos (valid_zeros pos) (min c a.sum).toNat (by rw [z]; omega)
  refine ⟨V, ?_⟩
  show (steps a _ (zeros a)).sum = _
  rw [s, z]
  omega
theorem share_unique {a p : List Int} {c : Int} (pos : AllPos a) (hc : 0 ≤ c) (V : Valid a p) (h : p.sum = min c a.sum) : p = share a c := by
  obtain ⟨W, s⟩ := share_ok pos hc
  exact V.unique W (by rw [h, s]) pos
theorem share_next {a : List Int} {c : Int} (pos : AllPos a) (hc : 0 ≤ c) (h : c < a.sum) : share a (c + 1) = nextS a (share a c) := by
  obtain ⟨W, s⟩ := share_ok pos hc
  obtain ⟨V2, s2⟩ := next_ok pos W (by rw [s]; omega)
  exact (share_unique pos (by omega) V2 (by rw [s2, s]; omega)).symm

/-! ### the program's jump -/
def partsOf (a : List Int) (c : Int) : Int := max 0 (c - a.length + 1)
def startAt (a : List Int) (p : Int) : List Int := a.map fun x => -((-x * p) / a.sum)
theorem g_map {l : List Int} {f : Int → Int} {i : Nat} (h : i < l.length) : g (l.map f) i = f (g l i) := by
  apply g_of
  rw [List.getElem?_map, g_get h]
  rfl
theorem ceil_ge {x p q : Int} (hq : 0 < q) : x * p ≤ -((-x * p) / q) * q := by
  have h := Int.ediv_mul_le (-x * p) (b := q) (by omega)
  have e : -x * p = -(x * p) := Int.neg_mul x p
  rw [Int.neg_mul]
  omega
theorem ceil_lt {x p q : Int} (hq : 0 < q) : (-((-x * p) / q) - 1) * q < x * p := by
  have h := Int.lt_ediv_add_one_mul_self (-x * p) hq
  have e : -x * p = -(x * p) := Int.neg_mul x p
  have e2 : (-((-x * p) / q) - 1) * q = -(((-x * p) / q + 1) * q) := by
    rw [← Int.neg_mul]
    congr 1
    omega
  rw [e2]
  omega
theorem start_valid {a : List Int} {p : Int} (pos : AllPos a) (h0 : 0 ≤ p) (h1 : p ≤ a.sum) (hq : 0 < a.sum) : Valid a (startAt a p) := by
  have sg : ∀ i, i < a.length → g (startAt a p) i = -((-(g a i) * p) / a.sum) := fun i hi => g_map hi
  have ge : ∀ i, i < a.length → g a i * p ≤ g (startAt a p) i * a.sum := fun i hi => by rw [sg i hi]; exact ceil_ge hq
  have lt : ∀ i, i < a.length → (g (startAt a p) i - 1) * a.sum < g a i * p := fun i hi => by rw [sg i hi]; exact ceil_lt hq
  refine ⟨by simp [startAt], fun i hi => ?_, fun i hi => ?_, fun i j hi hj h _ => ?_⟩
  · have ai := pos i hi
    have h2 := ge i hi
    have h3 : 0 ≤ g a i * p := Int.mul_nonneg (by omega) h0
    have h4 : 0 * a.sum ≤ g (startAt a p) i * a.sum := by rw [Int.zero_mul]; omega
    exact Int.le_of_mul_le_mul_right h4 hq
  · have ai := pos i hi
    have h2 := lt i hi
    have h3 : g a i * p ≤ g a i * a.sum := Int.mul_le_mul_of_nonneg_left h1 (by omega)
    have h4 : (g (startAt a p) i - 1) * a.sum < g a i * a.sum := by omega
    have := Int.lt_of_mul_lt_mul_right h4 (by omega)
    omega
  · left
    have ai := pos i hi
    have aj := pos j hj
    have l1 : (g (startAt a p) i - 1) * a.sum * g a j < g a i * p * g a j := Int.mul_lt_mul_of_pos_right (lt i hi) aj
    have l2 : g a j * p * g a i ≤ g (startAt a p) j * a.sum * g a i := Int.mul_le_mul_of_nonneg_right (ge j hj) (by omega)
    have e1 : g a i * p * g a j = g a j * p * g a i := by rw [Int.mul_right_comm, Int.mul_comm (g a i) (g a j), Int.mul_right_comm]
    have e2 : (g (startAt a p) i - 1) * a.sum * g a j = (g (startAt a p) i - 1) * g a j * a.sum := Int.mul_right_comm _ _ _
    have e3 : g (startAt a p) j * a.sum * g a i = g (startAt a p) j * g a i * a.sum := Int.mul_right_comm _ _ _
    have h4 : (g (startAt a p) i - 1) * g a j * a.sum < g (startAt a p) j * g a i * a.sum := by rw [← e2, ← e3]; omega
    exact Int.lt_of_mul_lt_mul_right h4 (by omega)
theorem sum_mul : ∀ (l : List Int) (p : Int), (l.map fun x => x * p).sum = l.sum * p
  | [], p => by simp
  | x :: r, p => by rw [List.map_cons, List.sum_cons, List.sum_cons, sum_mul r p, Int.add_mul]
theorem sum_ceil {q p : Int} (hq : 0 < q) : ∀ (l : List Int), ((l.map fun x => -((-x * p) / q)).sum - l.length) * q ≤ l.sum * p
  | [] => by simp
  | x :: r => by
    have ih := sum_ceil (q := q) (p := p) hq r
    have h := ceil_lt (x := x) (p := p) hq
    rw [List.map_cons, List.sum_cons, List.sum_cons, Int.add_mul, List.length_cons]
    have e : (-((-x * p) / q) + (r.map fun x => -((-x * p) / q)).sum - ((r.length + 1 : Nat) : Int)) = (-((-x * p) / q) - 1) + ((r.map fun x => -((-x * p) / q)).sum - (r.length : Int)) := by omega
    rw [e, Int.add_mul]
    omega
theorem sum_ceil_lt {q p : Int} (hq : 0 < q) : ∀ (l : List Int), l ≠ [] → ((l.map fun x => -((-x * p) / q)).sum - l.length) * q < l.sum * p
  | [], h => absurd rfl h
  | x :: r, _ => by
    have ih := sum_ceil (q := q) (p := p) hq r
    have h := ceil_lt (x := x) (p := p) hq
    rw [List.map_cons, List.sum_cons, List.sum_cons, Int.add_mul, List.length_cons]
    have e : (-((-x * p) / q) + (r.map fun x => -((-x * p) / q)).sum - ((r.length + 1 : Nat) : Int)) = (-((-x * p) / q) - 1) + ((r.map fun x => -((-x * p) / q)).sum - (r.length : Int)) := by omega
    rw [e, Int.add_mul]
    omega
theorem start_sum {a : List Int} {c : Int} (pos : AllPos a) (hc : 0 ≤ c) (h : c < a.sum) : (startAt a (partsOf a c)).sum ≤ c := by
  have hq : 0 < a.sum := by omega
  have ne : a ≠ [] := fun z => by subst z; simp at h; omega
  unfold partsOf
  by_cases hp : 0 ≤ c - a.length + 1
  · rw [Int.max_eq_right hp]
    have h2 := sum_ceil_lt (q := a.sum) (p := c - a.length + 1) hq a ne
    rw [Int.mul_comm a.sum] at h2
    have := Int.lt_of_mul_lt_mul_right h2 (by omega)
    show (a.map _).sum ≤ c
    omega
  · rw [Int.max_eq_left (by omega)]
    have e : startAt a 0 = zeros a := by
      unfold startAt zeros
      apply List.ext_getElem?
      intro i
      rw [List.getElem?_map, List.getElem?_replicate]
      by_cases hi : i < a.length
      · rw [g_get hi, if_pos hi]
        simp
      · rw [List.getElem?_eq_none (by omega), if_neg hi]
        rfl
    rw [e, zeros_sum]
    exact hc
/-- the program's sharing is the coins' -/
theorem prog_share {a : List Int} {c : Int} (pos : AllPos a) (hc : 0 ≤ c) (h : c < a.sum) : steps a (c - (startAt a (partsOf a c)).sum).toNat (startAt a (partsOf a c)) = share a c := by
  have hs := start_sum pos hc h
  have ne : a ≠ [] := fun z => by subst z; simp at h; omega
  have hl : 0 < a.length := List.length_pos_iff.mpr ne
  have V := start_valid (a := a) (p := partsOf a c) pos (by unfold partsOf; omega) (by unfold partsOf; omega) (by omega)
  obtain ⟨W, s⟩ := steps_ok pos V (c - (startAt a (partsOf a c)).sum).toNat (by omega)
  exact share_unique pos hc W (by rw [s]; omega)
theorem full_share {a : List Int} {c : Int} (pos : AllPos a) (hc : 0 ≤ c) (h : a.sum ≤ c) : a = share a c :=
  share_unique pos hc (valid_full pos) (by omega)


end Rf
namespace Rf
open PySem PySem.Spec PyProof.Rows L2
/-! ### books: the mathematics of points 2 to 5 -/
structure Clm where
  d : Int
  c : Int
  a : Int
  r : Int
structure Bk where
  cash : List Int
  claims : List Clm
def Bk.clm (B : Bk) (k : Nat) : Clm := B.claims.getD k ⟨0, 0, 0, 0⟩
/-- a claim that point 2 lets by, among n houses -/
structure GoodC (n : Int) (q : Clm) : Prop where
  d0 : 0 ≤ q.d
  d1 : q.d < n
  c0 : 0 ≤ q.c
  c1 : q.c < n
  ne : q.d ≠ q.c
  a0 : 1 ≤ q.a
  a1 : q.a ≤ 999
  r0 : 1 ≤ q.r
  r1 : q.r ≤ 9
structure Good (B : Bk) : Prop where
  n0 : 1 ≤ B.cash.length
  n1 : B.cash.length ≤ 8
  cash : ∀ x ∈ B.cash, 0 ≤ x ∧ x ≤ 999
  m1 : B.claims.length ≤ 24
  claims : ∀ q ∈ B.claims, GoodC (B.cash.length : Int) q
theorem Bk.clm_get {B : Bk} {k : Nat} (h : k < B.claims.length) : B.claims[k]? = some (B.clm k) := by
  unfold Bk.clm
  rw [List.getD_eq_getElem?_getD, List.getElem?_eq_getElem h]
  rfl
theorem Bk.clm_of {B : Bk} {k : Nat} {q : Clm} (h : B.claims[k]? = some q) : B.clm k = q := by
  unfold Bk.clm
  rw [List.getD_eq_getElem?_getD, h]
  rfl
theorem Good.clm {B : Bk} (G : Good B) {k : Nat} (h : k < B.claims.length) : GoodC (B.cash.length : Int) (B.clm k) := G.claims _ (List.mem_of_getElem? (Bk.clm_get h))
/-- the claims of which h is the debtor; those of rank r; of the first i claims alone -/
def owesUp (B : Bk) (h : Int) (i : Nat) : List Nat := (List.range i).filter fun k => decide ((B.clm k).d = h)
def rankUp (B : Bk) (h r : Int) (i : Nat) : List Nat := (List.range i).filter fun k => decide ((B.clm k).d = h) && decide ((B.clm k).r = r)
def owes (B : Bk) (h : Int) : List Nat := owesUp B h B.claims.length
def ofRank (B : Bk) (h r : Int) : List Nat := rankUp B h r B.claims.length
def amt (B : Bk) (k : Nat) : Int := (B.clm k).a
def amts (B : Bk) (h r : Int) : List Int := (ofRank B h r).map (amt B)
theorem range_filter_succ (f : Nat → Bool) (i : Nat) : (List.range (i + 1)).filter f = (List.range i).filter f ++ (if f i = true then [i] else []) := by
  rw [List.range_succ, List.filter_append, List.filter_cons, List.filter_nil]
theorem mem_owesUp {B : Bk} {h : Int} {i k : Nat} : k ∈ owesUp B h i ↔ k < i ∧ (B.clm k).d = h := by
  unfold owesUp
  rw [List.mem_filter, List.mem_range, decide_eq_true_iff]
theorem mem_rankUp {B : Bk} {h r : Int} {i k : Nat} : k ∈ rankUp B h r i ↔ k < i ∧ (B.clm k).d = h ∧ (B.clm k).r = r := by
  unfold rankUp
  rw [List.mem_filter, List.mem_range, Bool.and_eq_true, decide_eq_true_iff, decide_eq_true_iff]
theorem rankUp_len (B : Bk) (h r : Int) (i : Nat) : (rankUp B h r i).length ≤ i := by
  unfold rankUp
  have := List.length_filter_le (fun k => decide ((B.clm k).d = h) && decide ((B.clm k).r = r)) (List.range i)
  rw [List.length_range] at this
  exact this
theorem owesUp_len (B : Bk) (h : Int) (i : Nat) : (owesUp B h i).length ≤ i := by
  unfold owesUp
  have := List.length_filter_le (fun k => decide ((B.clm k).d = h)) (List.range i)
  rw [List.length_range] at this
  exact this
theorem amts_ok {B : Bk} (G : Good B) (h r : Int) : ∀ x ∈ amts B h r, 1 ≤ x ∧ x ≤ 999 := fun x hx => by
  obtain ⟨k, hk, rfl⟩ := List.mem_map.mp hx
  have q := G.clm (mem_rankUp.mp hk).1
  exact ⟨q.a0, q.a1⟩
/-! the sharing's length; coins below nought are none -/
theorem nextS_len (a p : List Int) : (nextS a p).length = p.length := by
  unfold nextS
  split
  · rw [List.length_set]
  · rfl
theorem steps_len (a : List Int) : ∀ (n : Nat) (p : List Int), (steps a n p).length = p.length
  | 0, _ => rfl
  | n + 1, p => by
    show (nextS a (steps a n p)).length = p.length
    rw [nextS_len, steps_len a n p]
theorem share_len (a : List Int) (c : Int) : (share a c).length = a.length := by
  unfold share shareN
  rw [steps_len]
  exact List.length_replicate
theorem share_max {a : List Int} (pos : AllPos a) (c : Int) : share a (max 0 c) = share a c := by
  have h0 := pos.sum_nn
  unfold share
  have e : (min (max 0 c) a.sum).toNat = (min c a.sum).toNat := by omega
  rw [e]
/-! what a house pays: rank by rank -/
def payFrom (B : Bk) (h : Int) : List Int → Int → List (Nat × Int)
  | [], _ => []
  | r :: rs, m => (ofRank B h r).zip (share (amts B h r) m) ++ payFrom B h rs (m - (share (amts B h r) m).sum)
def ranks9 : List Int := [1, 2, 3, 4, 5, 6, 7, 8, 9]
theorem amts_len (B : Bk) (h r : Int) : (amts B h r).length = (ofRank B h r).length := List.length_map _
theorem pay_keys (B : Bk) (h : Int) : ∀ (rs : List Int) (m : Int), (payFrom B h rs m).map (·.1) = rs.flatMap (ofRank B h)
  | [], _ => rfl
  | r :: rs, m => by
    unfold payFrom
    rw [List.map_append, pay_keys B h rs, List.flatMap_cons]
    congr 1
    exact List.map_fst_zip (by rw [share_len, amts_len]; exact Nat.le_refl _)
theorem mem_flat {B : Bk} {h : Int} {rs : List Int} {k : Nat} : k ∈ rs.flatMap (ofRank B h) ↔ k < B.claims.length ∧ (B.clm k).d = h ∧ (B.clm k).r ∈ rs := by
  rw [List.mem_flatMap]
  constructor
  · rintro ⟨r, hr, hk⟩
    have q := mem_rankUp.mp hk
    exact ⟨q.1, q.2.1, by rw [q.2.2]; exact hr⟩
  · rintro ⟨h1, h2, h3⟩
    exact ⟨_, h3, mem_rankUp.mpr ⟨h1, h2, rfl⟩⟩
theorem nodup_filter_range (f : Nat → Bool) (n : Nat) : ((List.range n).filter f).Nodup := List.nodup_range.filter f
theorem flat_nodup {B : Bk} {h : Int} : ∀ {rs : List Int}, rs.Nodup → (rs.flatMap (ofRank B h)).Nodup
  | [], _ => List.nodup_nil
  | r :: rs, hn => by
    rw [List.flatMap_cons]
    have hn2 := List.nodup_cons.mp hn
    refine List.nodup_append.mpr ⟨nodup_filter_range _ _, flat_nodup hn2.2, fun a ha b hb e => ?_⟩
    subst e
    have q := mem_rankUp.mp ha
    have q2 := (mem_flat.mp hb).2.2
    rw [q.2.2] at q2
    exact hn2.1 q2
theorem ranks9_mem {B : Bk} (G : Good B) {k : Nat} (h : k < B.claims.length) : (B.clm k).r ∈ ranks9 := by
  have q := G.clm h
  have h1 := q.r0
  have h2 := q.r1
  generalize (B.clm k).r = r at *
  have : r = 1 ∨ r = 2 ∨ r = 3 ∨ r = 4 ∨ r = 5 ∨ r = 6 ∨ r = 7 ∨ r = 8 ∨ r = 9 := by omega
  simp only [ranks9, List.mem_cons, List.not_mem_nil, or_false]
  exact this
/-- ranks without a claim may be left out -/
theorem pay_filter (B : Bk) (h : Int) : ∀ (rs : List Int) (m : Int), payFrom B h (rs.filter fun r => !(ofRank B h r).isEmpty) m = payFrom B h rs m
  | [], _ => rfl
  | r :: rs, m => by
    rw [List.filter_cons]
    cases e : (ofRank B h r) with
    | nil =>
      have ea : amts B h r = [] := by
        unfold amts
        rw [e]
        rfl
      have es : share (amts B h r) m = [] := List.eq_nil_of_length_eq_zero (by rw [share_len, ea]; rfl)
      rw [if_neg (by simp)]
      conv => rhs; unfold payFrom
      rw [es, e, pay_filter B h rs]
      show payFrom B h rs m = payFrom B h rs (m - 0)
      rw [Int.sub_zero]
    | cons k t =>
      rw [if_pos (by simp)]
      conv => lhs; unfold payFrom
      conv => rhs; unfold payFrom
      rw [pay_filter B h rs]
/-! sorted lists with like members are one -/
theorem sorted_ext {α : Type} {f : α → Int} : ∀ {l m : List α}, l.Pairwise (fun x y => f x < f y) → m.Pairwise (fun x y => f x < f y) → (∀ x, x ∈ l ↔ x ∈ m) → l = m
  | [], [], _, _, _ => rfl
  | [], y :: m, _, _, h => absurd ((h y).mpr List.mem_cons_self) List.not_mem_nil
  | x :: l, [], _, _, h => absurd ((h x).mp List.mem_cons_self) List.not_mem_nil
  | x :: l, y :: m, hl, hm, h => by
    have hl2 := List.pairwise_cons.mp hl
    have hm2 := List.pairwise_cons.mp hm
    have e : x = y := by
      rcases List.mem_cons.mp ((h x).mp List.mem_cons_self) with q | q
      · exact q
      · rcases List.mem_cons.mp ((h y).mpr List.mem_cons_self) with z | z
        · exact z.symm
        · have := hm2.1 x q
          have := hl2.1 y z
          omega
    subst e
    congr 1
    refine sorted_ext hl2.2 hm2.2 fun z => ⟨fun hz => ?_, fun hz => ?_⟩
    · rcases List.mem_cons.mp ((h z).mp (List.mem_cons_of_mem _ hz)) with q | q
      · subst q
        have := hl2.1 z hz
        omega
      · exact q
    · rcases List.mem_cons.mp ((h z).mpr (List.mem_cons_of_mem _ hz)) with q | q
      · subst q
        have := hm2.1 z hz
        omega
      · exact q
theorem lookup_of {l : List (Nat × Int)} (hn : (l.map (·.1)).Nodup) {k : Nat} {c : Int} (h : (k, c) ∈ l) : l.lookup k = some c := by
  induction l with
  | nil => cases h
  | cons p r ih =>
    obtain ⟨k2, c2⟩ := p
    have hn2 := List.nodup_cons.mp (show (k2 :: r.map (·.1)).Nodup from hn)
    rw [List.lookup_cons]
    rcases List.mem_cons.mp h with e | e
    · cases e
      simp
    · have ne : ¬ k = k2 := fun z => hn2.1 (by rw [← z]; exact List.mem_map_of_mem (f := (·.1)) e)
      have hb : (k == k2) = false := beq_eq_false_iff_ne.mpr ne
      rw [hb]
      exact ih hn2.2 e
/-- what a house pays each of its claims, by the claims' numbers -/
def coinOf (B : Bk) (h m : Int) (k : Nat) : Int := ((payFrom B h ranks9 m).lookup k).getD 0
def payList (B : Bk) (h m : Int) : List (Nat × Int) := (owes B h).map fun k => (k, coinOf B h m k)
theorem pay_nodup (B : Bk) (h m : Int) : ((payFrom B h ranks9 m).map (·.1)).Nodup := by
  rw [pay_keys]
  exact flat_nodup (by decide)
theorem mem_payList {B : Bk} (G : Good B) {h m : Int} {x : Nat × Int} : x ∈ payList B h m ↔ x ∈ payFrom B h ranks9 m := by
  obtain ⟨k, c⟩ := x
  unfold payList
  rw [List.mem_map]
  constructor
  · rintro ⟨k2, hk, e⟩
    cases e
    have q := mem_owesUp.mp hk
    have hm : k ∈ (payFrom B h ranks9 m).map (·.1) := by
      rw [pay_keys]
      exact mem_flat.mpr ⟨q.1, q.2, ranks9_mem G q.1⟩
    obtain ⟨⟨k3, c3⟩, h3, e3⟩ := List.mem_map.mp hm
    have e3' : k3 = k := e3
    subst e3'
    unfold coinOf
    rw [lookup_of (pay_nodup B h m) h3]
    exact h3
  · intro hx
    have hm : k ∈ (payFrom B h ranks9 m).map (·.1) := List.mem_map_of_mem (f := (·.1)) hx
    rw [pay_keys] at hm
    have q := mem_flat.mp hm
    refine ⟨k, mem_owesUp.mpr ⟨q.1, q.2.1⟩, ?_⟩
    unfold coinOf
    rw [lookup_of (pay_nodup B h m) hx]
    rfl
theorem range_pairwise (f : Nat → Bool) (n : Nat) : ((List.range n).filter f).Pairwise (· < ·) := List.pairwise_lt_range.sublist List.filter_sublist
theorem payList_sorted (B : Bk) (h m : Int) : (payList B h m).Pairwise (fun x y => (x.1 : Int) < (y.1 : Int)) := by
  unfold payList
  rw [List.pairwise_map]
  exact (range_pairwise _ _).imp fun h => by simpa using h
/-- any arrangement of what is paid, rising by the claims' numbers, is that list -/
theorem payList_unique {B : Bk} (G : Good B) {h m : Int} {L : List (Nat × Int)} (hs : L.Pairwise (fun x y => (x.1 : Int) < (y.1 : Int))) (hp : L.Perm (payFrom B h ranks9 m)) : L = payList B h m :=
  sorted_ext (f := fun x => (x.1 : Int)) hs (payList_sorted B h m) fun _ => hp.mem_iff.trans (mem_payList G).symm
/-- what a house owes in all -/
def owedIn (B : Bk) (h : Int) : Int := ((owes B h).map (amt B)).sum
theorem pay_len (B : Bk) (h : Int) : ∀ (rs : List Int) (m : Int), (payFrom B h rs m).length = ((rs.map fun r => (ofRank B h r).length)).sum
  | [], _ => rfl
  | r :: rs, m => by
    unfold payFrom
    rw [List.length_append, List.length_zip, share_len, amts_len, Nat.min_self, pay_len B h rs, List.map_cons, List.sum_cons]


end Rf
namespace Rf
open PySem PySem.Spec PyProof.Rows L2
/-! ### clearings: the mathematics of points 3, 5, 6 -/
def sumIf (f : Nat → Bool) (v : Nat → Int) : Nat → Int
  | 0 => 0
  | i + 1 => sumIf f v i + (if f i = true then v i else 0)
theorem sumIf_le {f : Nat → Bool} {v w : Nat → Int} : ∀ {n : Nat}, (∀ k, k < n → f k = true → v k ≤ w k) → sumIf f v n ≤ sumIf f w n
  | 0, _ => Int.le_refl _
  | n + 1, h => by
    have ih := sumIf_le (f := f) (v := v) (w := w) (n := n) fun k hk => h k (by omega)
    unfold sumIf
    by_cases e : f n = true
    · have := h n (Nat.lt_succ_self n) e
      rw [if_pos e, if_pos e]
      omega
    · rw [if_neg e, if_neg e]
      omega
theorem sumIf_congr {f f' : Nat → Bool} {v w : Nat → Int} : ∀ {n : Nat}, (∀ k, k < n → f k = f' k) → (∀ k, k < n → f k = true → v k = w k) → sumIf f v n = sumIf f' w n
  | 0, _, _ => rfl
  | n + 1, h, h2 => by
    have ih := sumIf_congr (f := f) (f' := f') (v := v) (w := w) (n := n) (fun k hk => h k (by omega)) fun k hk => h2 k (by omega)
    unfold sumIf
    rw [ih, ← h n (Nat.lt_succ_self n)]
    by_cases e : f n = true
    · rw [if_pos e, if_pos e, h2 n (Nat.lt_succ_self n) e]
    · rw [if_neg e, if_neg e]
theorem sumIf_nonneg {f : Nat → Bool} {v : Nat → Int} : ∀ {n : Nat}, (∀ k, k < n → f k = true → 0 ≤ v k) → 0 ≤ sumIf f v n
  | 0, _ => Int.le_refl _
  | n + 1, h => by
    have ih := sumIf_nonneg (f := f) (v := v) (n := n) fun k hk => h k (by omega)
    unfold sumIf
    by_cases e : f n = true
    · have := h n (Nat.lt_succ_self n) e
      rw [if_pos e]
      omega
    · rw [if_neg e]
      omega
theorem sumIf_eq_of {f : Nat → Bool} {v w : Nat → Int} : ∀ {n : Nat}, (∀ k, k < n → f k = true → v k ≤ w k) → sumIf f w n ≤ sumIf f v n → ∀ k, k < n → f k = true → v k = w k
  | 0, _, _, k, hk, _ => absurd hk (Nat.not_lt_zero _)
  | n + 1, h, hs, k, hk, hf => by
    have h1 := sumIf_le (f := f) (v := v) (w := w) (n := n) fun k hk => h k (by omega)
    unfold sumIf at hs
    by_cases e : f n = true
    · have h2 := h n (Nat.lt_succ_self n) e
      rw [if_pos e, if_pos e] at hs
      by_cases q : k = n
      · subst q
        omega
      · exact sumIf_eq_of (n := n) (fun k hk => h k (by omega)) (by omega) k (by omega) hf
    · rw [if_neg e, if_neg e] at hs
      have q : k ≠ n := fun z => e (z ▸ hf)
      exact sumIf_eq_of (n := n) (fun k hk => h k (by omega)) (by omega) k (by omega) hf
theorem sumIf_list {f : Nat → Bool} {v : Nat → Int} : ∀ {n : Nat}, (((List.range n).filter f).map v).sum = sumIf f v n
  | 0 => rfl
  | n + 1 => by
    have ih := sumIf_list (f := f) (v := v) (n := n)
    rw [range_filter_succ, List.map_append, List.sum_append, ih]
    show sumIf f v n + _ = sumIf f v n + (if f n = true then v n else 0)
    by_cases e : f n = true
    · rw [if_pos e, if_pos e]
      simp
    · rw [if_neg e, if_neg e]
      simp
theorem sumIf_add {f : Nat → Bool} {v w : Nat → Int} : ∀ {n : Nat}, sumIf f (fun k => v k + w k) n = sumIf f v n + sumIf f w n
  | 0 => rfl
  | n + 1 => by
    unfold sumIf
    rw [sumIf_add (n := n)]
    by_cases e : f n = true
    · rw [if_pos e, if_pos e, if_pos e]
      omega
    · rw [if_neg e, if_neg e, if_neg e]
      omega
theorem perm_sum {l m : List Int} (h : l.Perm m) : l.sum = m.sum := by
  induction h with
  | nil => rfl
  | cons x _ ih => rw [List.sum_cons, List.sum_cons, ih]
  | swap x y l => rw [List.sum_cons, List.sum_cons, List.sum_cons, List.sum_cons]; omega
  | trans _ _ h1 h2 => rw [h1, h2]
/-! more coins: nobody gets less -/
theorem share_step_le {a : List Int} {c : Int} (pos : AllPos a) (hc : 0 ≤ c) (i : Nat) (hi : i < a.length) : g (share a c) i ≤ g (share a (c + 1)) i := by
  by_cases h : c < a.sum
  · rw [share_next pos hc h]
    unfold nextS
    split
    · next f hf =>
      have F := firstUp_some pos (Nat.le_refl _) hf
      have fl : f < (share a c).length := by rw [share_len]; exact F.lt
      by_cases e : f = i
      · subst e
        rw [g_set_same fl]
        omega
      · rw [g_set_ne e]
        exact Int.le_refl _
    · exact Int.le_refl _
  · rw [← full_share pos hc (by omega), ← full_share pos (by omega) (by omega)]
    exact Int.le_refl _
theorem share_mono {a : List Int} {c e : Int} (pos : AllPos a) (hc : 0 ≤ c) (h : c ≤ e) (i : Nat) (hi : i < a.length) : g (share a c) i ≤ g (share a e) i := by
  obtain ⟨n, hn⟩ : ∃ n : Nat, e = c + n := ⟨(e - c).toNat, by omega⟩
  subst hn
  clear h
  induction n with
  | zero =>
    rw [show c + ((0 : Nat) : Int) = c by omega]
    exact Int.le_refl _
  | succ n ih =>
    have h1 := share_step_le pos (c := c + n) (by omega) i hi
    rw [show c + ((n + 1 : Nat) : Int) = c + n + 1 by omega]
    omega
theorem amtsPos {B : Bk} (G : Good B) (x r : Int) : AllPos (amts B x r) := AllPos.of fun z hz => by
  have := amts_ok G x r z hz
  omega
/-- what is paid, entry by entry, with more means -/
theorem pay_mono {B : Bk} (G : Good B) (x : Int) : ∀ (rs : List Int) {m m' : Int}, 0 ≤ m → m ≤ m' → ∀ (j : Nat) (p p' : Nat × Int), (payFrom B x rs m)[j]? = some p → (payFrom B x rs m')[j]? = some p' → p.1 = p'.1 ∧ p.2 ≤ p'.2
  | [], _, _, _, _, j, p, p', h, _ => by cases h
  | r :: rs, m, m', h0, hm, j, p, p', h, h' => by
    unfold payFrom at h h'
    have pos := amtsPos G x r
    have l1 : ((ofRank B x r).zip (share (amts B x r) m)).length = (ofRank B x r).length := by rw [List.length_zip, share_len, amts_len, Nat.min_self]
    have l2 : ((ofRank B x r).zip (share (amts B x r) m')).length = (ofRank B x r).length := by rw [List.length_zip, share_len, amts_len, Nat.min_self]
    have s1 := (share_ok pos h0).2
    have s2 := (share_ok pos (show 0 ≤ m' by omega)).2
    have nn := pos.sum_nn
    by_cases hj : j < (ofRank B x r).length
    · rw [List.getElem?_append_left (by rw [l1]; exact hj)] at h
      rw [List.getElem?_append_left (by rw [l2]; exact hj)] at h'
      obtain ⟨a1, a2⟩ := List.getElem?_zip_eq_some.mp h
      obtain ⟨b1, b2⟩ := List.getElem?_zip_eq_some.mp h'
      have e1 : p.1 = p'.1 := Option.some.inj (a1.symm.trans b1)
      have ms := share_mono pos h0 hm j (by rw [amts_len]; exact hj)
      rw [g_of a2, g_of b2] at ms
      exact ⟨e1, ms⟩
    · rw [List.getElem?_append_right (by rw [l1]; omega), l1] at h
      rw [List.getElem?_append_right (by rw [l2]; omega), l2] at h'
      refine pay_mono G x rs ?_ ?_ _ p p' h h'
      · rw [s1]; omega
      · rw [s1, s2]; omega
theorem pay_between {B : Bk} (G : Good B) (x : Int) : ∀ (rs : List Int) {m : Int}, 0 ≤ m → ∀ p ∈ payFrom B x rs m, 0 ≤ p.2 ∧ p.2 ≤ amt B p.1
  | [], _, _, p, h => by cases h
  | r :: rs, m, h0, p, h => by
    unfold payFrom at h
    have pos := amtsPos G x r
    obtain ⟨W, s1⟩ := share_ok pos h0
    have nn := pos.sum_nn
    rcases List.mem_append.mp h with h | h
    · obtain ⟨j, hj, e⟩ := List.mem_iff_getElem.mp h
      have hz : ((ofRank B x r).zip (share (amts B x r) m))[j]? = some p := by rw [List.getElem?_eq_getElem hj, e]
      obtain ⟨a1, a2⟩ := List.getElem?_zip_eq_some.mp hz
      have hj2 : j < (amts B x r).length := by
        rw [amts_len]
        exact (List.getElem?_eq_some_iff.mp a1).1
      have b1 := W.lo j hj2
      have b2 := W.hi j hj2
      rw [g_of a2] at b1 b2
      have e2 : g (amts B x r) j = amt B p.1 := by
        apply g_of
        unfold amts
        rw [List.getElem?_map, a1]
        rfl
      rw [e2] at b2
      exact ⟨b1, b2⟩
    · exact pay_between G x rs (by rw [s1]; omega) p h
def owedBy (B : Bk) (x : Int) (rs : List Int) : Int := (rs.map fun r => (amts B x r).sum).sum
theorem owedBy_nn {B : Bk} (G : Good B) (x : Int) : ∀ rs : List Int, 0 ≤ owedBy B x rs
  | [] => Int.le_refl _
  | r :: rs => by
    have h1 := (amtsPos G x r).sum_nn
    have h2 := owedBy_nn G x rs
    unfold owedBy at *
    rw [List.map_cons, List.sum_cons]
    omega
theorem pay_sum {B : Bk} (G : Good B) (x : Int) : ∀ (rs : List Int) {m : Int}, 0 ≤ m → ((payFrom B x rs m).map (·.2)).sum = min m (owedBy B x rs)
  | [], m, h0 => by
    show (0 : Int) = min m 0
    omega
  | r :: rs, m, h0 => by
    have pos := amtsPos G x r
    have s1 := (share_ok pos h0).2
    have nn := pos.sum_nn
    have nn2 := owedBy_nn G x rs
    have ih := pay_sum G x rs (m := m - (share (amts B x r) m).sum) (by rw [s1]; omega)
    unfold payFrom
    rw [List.map_append, List.sum_append, ih]
    have e : ((ofRank B x r).zip (share (amts B x r) m)).map (·.2) = share (amts B x r) m := List.map_snd_zip (by rw [share_len, amts_len]; exact Nat.le_refl _)
    rw [e, s1]
    have e2 : owedBy B x (r :: rs) = (amts B x r).sum + owedBy B x rs := by
      unfold owedBy
      rw [List.map_cons, List.sum_cons]
    rw [e2]
    omega
/-! the coins of a claim -/
theorem coin_mem {B : Bk} (G : Good B) {x m : Int} {k : Nat} (hk : k < B.claims.length) (hd : (B.clm k).d = x) : (k, coinOf B x m k) ∈ payFrom B x ranks9 m :=
  (mem_payList G).mp (List.mem_map.mpr ⟨k, mem_owesUp.mpr ⟨hk, hd⟩, rfl⟩)
theorem coin_lo {B : Bk} (G : Good B) {x m : Int} {k : Nat} (hk : k < B.claims.length) (hd : (B.clm k).d = x) (h0 : 0 ≤ m) : 0 ≤ coinOf B x m k := (pay_between G x ranks9 h0 _ (coin_mem G hk hd)).1
theorem coin_hi {B : Bk} (G : Good B) {x m : Int} {k : Nat} (hk : k < B.claims.length) (hd : (B.clm k).d = x) (h0 : 0 ≤ m) : coinOf B x m k ≤ amt B k := (pay_between G x ranks9 h0 _ (coin_mem G hk hd)).2
theorem coin_mono {B : Bk} (G : Good B) {x m m' : Int} {k : Nat} (hk : k < B.claims.length) (hd : (B.clm k).d = x) (h0 : 0 ≤ m) (h : m ≤ m') : coinOf B x m k ≤ coinOf B x m' k := by
  obtain ⟨j, hj, e⟩ := List.mem_iff_getElem.mp (coin_mem G (m := m) hk hd)
  have h1 : (payFrom B x ranks9 m)[j]? = some (k, coinOf B x m k) := by rw [List.getElem?_eq_getElem hj, e]
  have hl : j < (payFrom B x ranks9 m').length := by
    rw [pay_len] at hj ⊢
    exact hj
  have h2 := List.getElem?_eq_getElem hl
  obtain ⟨q1, q2⟩ := pay_mono G x ranks9 h0 h j _ _ h1 h2
  have q3 : ((payFrom B x ranks9 m')[j]).1 = k := q1.symm
  have e2 : coinOf B x m' k = ((payFrom B x ranks9 m')[j]).2 := by
    unfold coinOf
    rw [lookup_of (c := ((payFrom B x ranks9 m')[j]).2) (pay_nodup B x m') (by rw [← q3]; exact List.getElem_mem hl)]
    rfl
  rw [e2]
  exact q2
theorem coin_sum {B : Bk} (G : Good B) {x m : Int} (h0 : 0 ≤ m) : sumIf (fun k => decide ((B.clm k).d = x)) (coinOf B x m) B.claims.length = min m (owedBy B x ranks9) := by
  rw [← pay_sum G x ranks9 h0, ← sumIf_list]
  have hp : (payList B x m).Perm (payFrom B x ranks9 m) := by
    refine (List.perm_ext_iff_of_nodup ?_ ?_).mpr fun _ => mem_payList G
    · exact (payList_sorted B x m).imp fun h z => by rw [z] at h; omega
    · exact List.Pairwise.of_map (·.1) (fun a b h z => h (by rw [z])) (pay_nodup B x m)
  have h2 := perm_sum (hp.map (·.2))
  rw [← h2]
  unfold payList
  rw [List.map_map]
  rfl
theorem owedBy_all {B : Bk} (G : Good B) (x : Int) : owedBy B x ranks9 = sumIf (fun k => decide ((B.clm k).d = x)) (amt B) B.claims.length := by
  -- with means enough all is paid: each claim its amount
  have nn := owedBy_nn G x ranks9
  have h1 := coin_sum G (x := x) (m := owedBy B x ranks9) nn
  rw [Int.min_self] at h1
  have h2 : sumIf (fun k => decide ((B.clm k).d = x)) (coinOf B x (owedBy B x ranks9)) B.claims.length ≤ sumIf (fun k => decide ((B.clm k).d = x)) (amt B) B.claims.length :=
    sumIf_le fun k hk hf => coin_hi G hk (of_decide_eq_true hf) nn
  have h3 : sumIf (fun k => decide ((B.clm k).d = x)) (amt B) B.claims.length = (((ranks9.flatMap (ofRank B x)).map (amt B))).sum := by
    rw [← sumIf_list]
    apply perm_sum
    apply List.Perm.map
    refine (List.perm_ext_iff_of_nodup (nodup_filter_range _ _) (flat_nodup (by decide))).mpr fun k => ?_
    rw [mem_flat, List.mem_filter, List.mem_range, decide_eq_true_iff]
    constructor
    · rintro ⟨q1, q2⟩
      exact ⟨q1, q2, ranks9_mem G q1⟩
    · rintro ⟨q1, q2, _⟩
      exact ⟨q1, q2⟩
  have h4 : ∀ rs : List Int, ((rs.flatMap (ofRank B x)).map (amt B)).sum = owedBy B x rs := fun rs => by
    induction rs with
    | nil => rfl
    | cons r rs ih =>
      rw [List.flatMap_cons, List.map_append, List.sum_append, ih]
      unfold owedBy
      rw [List.map_cons, List.sum_cons]
      rfl
  rw [h3, h4]
theorem owedIn_eq {B : Bk} (G : Good B) (x : Int) : owedIn B x = owedBy B x ranks9 := by
  rw [owedBy_all G, ← sumIf_list]
  rfl
/-- enough means: each claim its amount; too few: some less -/
theorem coin_full {B : Bk} (G : Good B) {x m : Int} {k : Nat} (hk : k < B.claims.length) (hd : (B.clm k).d = x) (h : owedIn B x ≤ m) : coinOf B x m k = amt B k := by
  have nn := owedBy_nn G x ranks9
  rw [owedIn_eq G] at h
  have h1 := coin_sum G (x := x) (m := m) (by omega)
  rw [Int.min_eq_right h, owedBy_all G] at h1
  exact sumIf_eq_of (f := fun k => decide ((B.clm k).d = x)) (v := coinOf B x m) (w := amt B) (n := B.claims.length) (fun k hk hf => coin_hi G hk (of_decide_eq_true hf) (by omega)) (by omega) k hk (decide_eq_true hd)


end Rf
namespace Rf
open PySem PySem.Spec PyProof.Rows L2
/-! ### payments led on: best and worst -/
def meansOf (B : Bk) (x : Int) (P : List Int) : Int := g B.cash x.toNat + sumIf (fun k => decide ((B.clm k).c = x)) (g P) P.length
def paidOut (B : Bk) (x : Int) (P : List Int) : Int := sumIf (fun k => decide ((B.clm k).d = x)) (g P) P.length
structure Pay (B : Bk) (P : List Int) : Prop where
  len : P.length = B.claims.length
  lo : ∀ k, k < B.claims.length → 0 ≤ g P k
  hi : ∀ k, k < B.claims.length → g P k ≤ amt B k
def LeP (P Q : List Int) : Prop := P.length = Q.length ∧ ∀ i, i < P.length → g P i ≤ g Q i
theorem LeP.refl (P : List Int) : LeP P P := ⟨rfl, fun _ _ => Int.le_refl _⟩
theorem LeP.trans {P Q R : List Int} (a : LeP P Q) (b : LeP Q R) : LeP P R := ⟨a.1.trans b.1, fun i hi => Int.le_trans (a.2 i hi) (b.2 i (a.1 ▸ hi))⟩
theorem LeP.anti {P Q : List Int} (a : LeP P Q) (b : LeP Q P) : P = Q := ext_g a.1 fun i hi => Int.le_antisymm (a.2 i hi) (b.2 i (a.1 ▸ hi))
theorem LeP.sum {P Q : List Int} (a : LeP P Q) : P.sum ≤ Q.sum := sum_le_of a.1 a.2
theorem LeP.eq {P Q : List Int} (a : LeP P Q) (h : Q.sum ≤ P.sum) : P = Q := eq_of_sum_le a.1 a.2 h
theorem LeP.lt {P Q : List Int} (a : LeP P Q) (h : P ≠ Q) : P.sum < Q.sum := Int.lt_of_not_ge fun z => h (a.eq z)
/-- what is paid when the houses hs pay with the means that P brings -/
def behind (B : Bk) (hs : List Int) (P : List Int) : List Int := (List.range B.claims.length).map fun k => if (B.clm k).d ∈ hs then coinOf B (B.clm k).d (meansOf B (B.clm k).d P) k else g P k
theorem behind_len (B : Bk) (hs P : List Int) : (behind B hs P).length = B.claims.length := by
  unfold behind
  rw [List.length_map, List.length_range]
theorem g_rangeMap {n k : Nat} {f : Nat → Int} (h : k < n) : g ((List.range n).map f) k = f k := by
  apply g_of
  rw [List.getElem?_map, List.getElem?_range h]
  rfl
theorem g_behind {B : Bk} {hs P : List Int} {k : Nat} (h : k < B.claims.length) : g (behind B hs P) k = if (B.clm k).d ∈ hs then coinOf B (B.clm k).d (meansOf B (B.clm k).d P) k else g P k := g_rangeMap h
theorem g_default {l : List Int} {k : Nat} (h : l.length ≤ k) : g l k = 0 := by
  unfold g
  rw [List.getD_eq_getElem?_getD, List.getElem?_eq_none h]
  rfl
theorem cash_nn {B : Bk} (G : Good B) (i : Nat) : 0 ≤ g B.cash i := by
  by_cases h : i < B.cash.length
  · exact (G.cash _ (g_mem h)).1
  · rw [g_default (by omega)]
    exact Int.le_refl _
theorem means_nn {B : Bk} (G : Good B) {P : List Int} (hP : Pay B P) (x : Int) : 0 ≤ meansOf B x P := by
  have h1 := cash_nn G x.toNat
  have h2 : 0 ≤ sumIf (fun k => decide ((B.clm k).c = x)) (g P) P.length := sumIf_nonneg fun k hk _ => hP.lo k (hP.len ▸ hk)
  unfold meansOf
  omega
theorem means_mono {B : Bk} {P Q : List Int} (h : LeP P Q) (x : Int) : meansOf B x P ≤ meansOf B x Q := by
  have h2 : sumIf (fun k => decide ((B.clm k).c = x)) (g P) P.length ≤ sumIf (fun k => decide ((B.clm k).c = x)) (g Q) P.length := sumIf_le fun k hk _ => h.2 k hk
  unfold meansOf
  rw [← h.1]
  omega
theorem behind_pay {B : Bk} (G : Good B) {hs P : List Int} (hP : Pay B P) : Pay B (behind B hs P) := by
  refine ⟨behind_len B hs P, fun k hk => ?_, fun k hk => ?_⟩
  · rw [g_behind hk]
    split
    · exact coin_lo G hk rfl (means_nn G hP _)
    · exact hP.lo k hk
  · rw [g_behind hk]
    split
    · exact coin_hi G hk rfl (means_nn G hP _)
    · exact hP.hi k hk
theorem behind_mono {B : Bk} (G : Good B) {hs P Q : List Int} (hP : Pay B P) (h : LeP P Q) : LeP (behind B hs P) (behind B hs Q) := by
  refine ⟨by rw [behind_len, behind_len], fun k hk => ?_⟩
  rw [behind_len] at hk
  rw [g_behind hk, g_behind hk]
  split
  · exact coin_mono G hk rfl (means_nn G hP _) (means_mono h _)
  · exact h.2 k (by rw [hP.len]; exact hk)
/-- fewer houses pay by their means: nobody gets less, where all is at most the amounts -/
theorem behind_anti {B : Bk} (G : Good B) {hs hs' P : List Int} (hP : Pay B P) (hsub : ∀ x ∈ hs, x ∈ hs') (hfix : LeP (behind B hs' P) P) : LeP (behind B hs' P) (behind B hs P) := by
  refine ⟨by rw [behind_len, behind_len], fun k hk => ?_⟩
  rw [behind_len] at hk
  have h1 := hfix.2 k (by rw [behind_len]; exact hk)
  rw [g_behind hk] at h1 ⊢
  rw [g_behind hk]
  by_cases e : (B.clm k).d ∈ hs
  · rw [if_pos e, if_pos (hsub _ e)]
    exact Int.le_refl _
  · rw [if_neg e]
    exact h1
def led (B : Bk) (hs : List Int) : Nat → List Int → List Int
  | 0, P => P
  | n + 1, P => behind B hs (led B hs n P)
theorem led_pay {B : Bk} (G : Good B) {hs P : List Int} (hP : Pay B P) : ∀ n, Pay B (led B hs n P)
  | 0 => hP
  | n + 1 => behind_pay G (led_pay G hP n)
theorem led_fixed {B : Bk} {hs P : List Int} (h : behind B hs P = P) : ∀ n, led B hs n P = P
  | 0 => rfl
  | n + 1 => by
    show behind B hs (led B hs n P) = P
    rw [led_fixed h n, h]
theorem led_succ' {B : Bk} {hs : List Int} : ∀ (n : Nat) (P : List Int), led B hs (n + 1) P = led B hs n (behind B hs P)
  | 0, _ => rfl
  | n + 1, P => by
    show behind B hs (led B hs (n + 1) P) = behind B hs (led B hs n (behind B hs P))
    rw [led_succ' n P]
theorem led_stays {B : Bk} {hs P : List Int} {n m : Nat} (h : behind B hs (led B hs n P) = led B hs n P) (hm : n ≤ m) : led B hs m P = led B hs n P := by
  obtain ⟨d, rfl⟩ : ∃ d, m = n + d := ⟨m - n, by omega⟩
  induction d with
  | zero => rfl
  | succ d ih =>
    show behind B hs (led B hs (n + d) P) = _
    rw [ih (by omega), h]
theorem led_down {B : Bk} (G : Good B) {hs P : List Int} (hP : Pay B P) (h : LeP (behind B hs P) P) : ∀ n, LeP (led B hs (n + 1) P) (led B hs n P)
  | 0 => h
  | n + 1 => behind_mono G (led_pay G hP (n + 1)) (led_down G hP h n)
theorem led_up {B : Bk} (G : Good B) {hs P : List Int} (hP : Pay B P) (h : LeP P (behind B hs P)) : ∀ n, LeP (led B hs n P) (led B hs (n + 1) P)
  | 0 => h
  | n + 1 => behind_mono G (led_pay G hP n) (led_up G hP h n)
theorem Pay.sum_nn {B : Bk} {P : List Int} (h : Pay B P) : 0 ≤ P.sum := sum_nonneg fun i hi => h.lo i (h.len ▸ hi)
def allP (B : Bk) : List Int := B.claims.map (·.a)
theorem g_allP {B : Bk} {k : Nat} (h : k < B.claims.length) : g (allP B) k = amt B k := by
  apply g_of
  unfold allP
  rw [List.getElem?_map, Bk.clm_get h]
  rfl
theorem allP_len (B : Bk) : (allP B).length = B.claims.length := List.length_map _
def noneP (B : Bk) : List Int := List.replicate B.claims.length 0
theorem g_noneP {B : Bk} {k : Nat} (h : k < B.claims.length) : g (noneP B) k = 0 := by
  apply g_of
  unfold noneP
  rw [List.getElem?_replicate, if_pos h]
theorem noneP_len (B : Bk) : (noneP B).length = B.claims.length := List.length_replicate
theorem amt_pos {B : Bk} (G : Good B) {k : Nat} (h : k < B.claims.length) : 1 ≤ amt B k ∧ amt B k ≤ 999 := ⟨(G.clm h).a0, (G.clm h).a1⟩
theorem allP_pay {B : Bk} (G : Good B) : Pay B (allP B) := ⟨allP_len B, fun k hk => by rw [g_allP hk]; have := amt_pos G hk; omega, fun k hk => by rw [g_allP hk]; exact Int.le_refl _⟩
theorem noneP_pay {B : Bk} (G : Good B) : Pay B (noneP B) := ⟨noneP_len B, fun k hk => by rw [g_noneP hk]; exact Int.le_refl _, fun k hk => by rw [g_noneP hk]; have := amt_pos G hk; omega⟩
theorem le_allP {B : Bk} {P : List Int} (h : Pay B P) : LeP P (allP B) := ⟨by rw [h.len, allP_len], fun k hk => by rw [h.len] at hk; rw [g_allP hk]; exact h.hi k hk⟩
theorem noneP_le {B : Bk} {P : List Int} (h : Pay B P) : LeP (noneP B) P := ⟨by rw [h.len, noneP_len], fun k hk => by rw [noneP_len] at hk; rw [g_noneP hk]; exact h.lo k hk⟩
theorem Pay.sum_le {B : Bk} {P : List Int} (h : Pay B P) : P.sum ≤ (allP B).sum := (le_allP h).sum
/-- down from P0, each turn that changes takes a coin at the least -/
theorem down_fix {B : Bk} (G : Good B) {hs P : List Int} (hP : Pay B P) (h : LeP (behind B hs P) P) : behind B hs (led B hs P.sum.toNat P) = led B hs P.sum.toNat P := by
  refine Classical.byContradiction fun hne => ?_
  have hstep : ∀ n, n ≤ P.sum.toNat → led B hs (n + 1) P ≠ led B hs n P := fun n hn e => hne (by
    have q := led_stays (m := P.sum.toNat) e hn
    rw [q]
    exact e)
  have hsum : ∀ n, n ≤ P.sum.toNat + 1 → (led B hs n P).sum + n ≤ P.sum := fun n => by
    induction n with
    | zero => intro _; show P.sum + 0 ≤ P.sum; omega
    | succ n ih =>
      intro hn
      have h1 := ih (by omega)
      have h2 := (led_down G hP h n).lt (hstep n (by omega))
      omega
  have h3 := hsum (P.sum.toNat + 1) (Nat.le_refl _)
  have h4 := (led_pay G hP (hs := hs) (P.sum.toNat + 1)).sum_nn
  have h5 := hP.sum_nn
  omega
theorem up_fix {B : Bk} (G : Good B) {hs P : List Int} (hP : Pay B P) (h : LeP P (behind B hs P)) {N : Nat} (hN : (allP B).sum - P.sum ≤ N) : behind B hs (led B hs N P) = led B hs N P := by
  refine Classical.byContradiction fun hne => ?_
  have hstep : ∀ n, n ≤ N → led B hs (n + 1) P ≠ led B hs n P := fun n hn e => hne (by
    have q := led_stays (m := N) e hn
    rw [q]
    exact e)
  have hsum : ∀ n, n ≤ N + 1 → P.sum + n ≤ (led B hs n P).sum := fun n => by
    induction n with
    | zero => intro _; show P.sum + 0 ≤ P.sum; omega
    | succ n ih =>
      intro hn
      have h1 := ih (by omega)
      have h2 := (led_up G hP h n).lt (Ne.symm (hstep n (by omega)))
      omega
  have h3 := hsum (N + 1) (Nat.le_refl _)
  have h4 := (led_pay G hP (hs := hs) (N + 1)).sum_le
  omega
/-- of the payments by which hs pay with their means and all others all, those that no claim has less by -/
def topIn (B : Bk) (hs : List Int) : List Int := led B hs (allP B).sum.toNat (allP B)
def lowIn (B : Bk) (hs : List Int) : List Int := led B hs (allP B).sum.toNat (noneP B)
theorem top_start {B : Bk} (G : Good B) (hs : List Int) : LeP (behind B hs (allP B)) (allP B) := le_allP (behind_pay G (allP_pay G))
theorem low_start {B : Bk} (G : Good B) (hs : List Int) : LeP (noneP B) (behind B hs (noneP B)) := noneP_le (behind_pay G (noneP_pay G))
theorem top_pay {B : Bk} (G : Good B) (hs : List Int) : Pay B (topIn B hs) := led_pay G (allP_pay G) _
theorem low_pay {B : Bk} (G : Good B) (hs : List Int) : Pay B (lowIn B hs) := led_pay G (noneP_pay G) _
theorem top_fix {B : Bk} (G : Good B) (hs : List Int) : behind B hs (topIn B hs) = topIn B hs := down_fix G (allP_pay G) (top_start G hs)
theorem low_fix {B : Bk} (G : Good B) (hs : List Int) : behind B hs (lowIn B hs) = lowIn B hs := up_fix G (noneP_pay G) (low_start G hs) (by
  have h1 := (noneP_pay G).sum_nn
  have h2 := (allP_pay G).sum_nn
  omega)
theorem led_ge {B : Bk} (G : Good B) {hs P Q : List Int} (hQ : Pay B Q) (h : LeP Q (behind B hs Q)) (h0 : LeP Q P) : ∀ n, LeP Q (led B hs n P)
  | 0 => h0
  | n + 1 => h.trans (behind_mono G hQ (led_ge G hQ h h0 n))
theorem led_le {B : Bk} (G : Good B) {hs P Q : List Int} (hP : Pay B P) (h : LeP (behind B hs Q) Q) (h0 : LeP P Q) : ∀ n, LeP (led B hs n P) Q
  | 0 => h0
  | n + 1 => (behind_mono G (led_pay G hP n) (led_le G hP h h0 n)).trans h
theorem top_ge {B : Bk} (G : Good B) {hs Q : List Int} (hQ : Pay B Q) (h : LeP Q (behind B hs Q)) : LeP Q (topIn B hs) := led_ge G hQ h (le_allP hQ) _
theorem low_le {B : Bk} (G : Good B) {hs Q : List Int} (hQ : Pay B Q) (h : LeP (behind B hs Q) Q) : LeP (lowIn B hs) Q := led_le G (noneP_pay G) h (noneP_le hQ) _
/-- wherever leading on from all paid comes to rest, that is it -/
theorem top_of_rest {B : Bk} (G : Good B) {hs : List Int} {n : Nat} (h : behind B hs (led B hs n (allP B)) = led B hs n (allP B)) : led B hs n (allP B) = topIn B hs := by
  refine LeP.anti (top_ge G (led_pay G (allP_pay G) n) (by rw [h]; exact LeP.refl _)) ?_
  exact led_ge G (top_pay G hs) (by rw [top_fix G]; exact LeP.refl _) (le_allP (top_pay G hs)) n
theorem low_of_rest {B : Bk} (G : Good B) {hs : List Int} {n : Nat} (h : behind B hs (led B hs n (noneP B)) = led B hs n (noneP B)) : led B hs n (noneP B) = lowIn B hs := by
  refine LeP.anti ?_ (low_le G (led_pay G (noneP_pay G) n) (by rw [h]; exact LeP.refl _))
  exact led_le G (noneP_pay G) (by rw [low_fix G]; exact LeP.refl _) (noneP_le (low_pay G hs)) n
/-- all houses -/
def houses (B : Bk) : List Int := (List.range B.cash.length).map fun k : Nat => (k : Int)
theorem mem_houses {B : Bk} {x : Int} : x ∈ houses B ↔ 0 ≤ x ∧ x < B.cash.length := by
  unfold houses
  rw [List.mem_map]
  constructor
  · rintro ⟨k, hk, rfl⟩
    have := List.mem_range.mp hk
    omega
  · rintro ⟨h0, h1⟩
    exact ⟨x.toNat, List.mem_range.mpr (by omega), by omega⟩
theorem debtor_in {B : Bk} (G : Good B) {k : Nat} (h : k < B.claims.length) : (B.clm k).d ∈ houses B := mem_houses.mpr ⟨(G.clm h).d0, (G.clm h).d1⟩
theorem creditor_in {B : Bk} (G : Good B) {k : Nat} (h : k < B.claims.length) : (B.clm k).c ∈ houses B := mem_houses.mpr ⟨(G.clm h).c0, (G.clm h).c1⟩
structure Clears (B : Bk) (P : List Int) : Prop where
  pay : Pay B P
  fix : behind B (houses B) P = P
def bestOf (B : Bk) : List Int := topIn B (houses B)
def worstOf (B : Bk) : List Int := lowIn B (houses B)
theorem best_clears {B : Bk} (G : Good B) : Clears B (bestOf B) := ⟨top_pay G _, top_fix G _⟩
theorem worst_clears {B : Bk} (G : Good B) : Clears B (worstOf B) := ⟨low_pay G _, low_fix G _⟩
theorem best_ge {B : Bk} (G : Good B) {Q : List Int} (h : Clears B Q) : LeP Q (bestOf B) := top_ge G h.pay (by rw [h.fix]; exact LeP.refl _)
theorem worst_le {B : Bk} (G : Good B) {Q : List Int} (h : Clears B Q) : LeP (worstOf B) Q := low_le G h.pay (by rw [h.fix]; exact LeP.refl _)
theorem best_is {B : Bk} (G : Good B) {Q : List Int} (h : Clears B Q) (hm : ∀ R, Clears B R → LeP R Q) : Q = bestOf B := (best_ge G h).anti (hm _ (best_clears G))
theorem worst_is {B : Bk} (G : Good B) {Q : List Int} (h : Clears B Q) (hm : ∀ R, Clears B R → LeP Q R) : Q = worstOf B := (hm _ (worst_clears G)).anti (worst_le G h)
/-- by a clearing each house pays the least of its means and what it owes -/
theorem clears_paid {B : Bk} (G : Good B) {P : List Int} (h : Clears B P) (x : Int) : paidOut B x P = min (meansOf B x P) (owedIn B x) := by
  have hm := means_nn G h.pay x
  rw [owedIn_eq G, ← coin_sum G hm]
  unfold paidOut
  rw [h.pay.len]
  refine sumIf_congr (fun _ _ => rfl) fun k hk hf => ?_
  have e := of_decide_eq_true hf
  have h1 := g_behind (hs := houses B) (P := P) hk
  rw [h.fix, if_pos (debtor_in G hk), e] at h1
  exact h1
theorem clears_iff {B : Bk} (G : Good B) {P : List Int} (hP : Pay B P) : Clears B P ↔ ∀ k, k < B.claims.length → g P k = coinOf B (B.clm k).d (meansOf B (B.clm k).d P) k := by
  constructor
  · intro h k hk
    have h1 := g_behind (hs := houses B) (P := P) hk
    rw [h.fix, if_pos (debtor_in G hk)] at h1
    exact h1
  · intro h
    refine ⟨hP, ext_g (by rw [behind_len, hP.len]) fun k hk => ?_⟩
    rw [behind_len] at hk
    rw [g_behind hk, if_pos (debtor_in G hk), h k hk]
theorem owedIn_nn {B : Bk} (G : Good B) (x : Int) : 0 ≤ owedIn B x := by
  rw [owedIn_eq G]
  exact owedBy_nn G x ranks9
/-! ### falling -/
theorem top_anti {B : Bk} (G : Good B) {hs hs' : List Int} (hsub : ∀ x ∈ hs, x ∈ hs') : LeP (topIn B hs') (topIn B hs) := by
  refine top_ge G (top_pay G hs') ?_
  have h := behind_anti G (top_pay G hs') hsub (by rw [top_fix G]; exact LeP.refl _)
  rw [top_fix G] at h
  exact h
theorem top_same {B : Bk} (G : Good B) {hs hs' : List Int} (h : ∀ x ∈ houses B, x ∈ hs ↔ x ∈ hs') : topIn B hs = topIn B hs' := by
  have e : ∀ P, behind B hs P = behind B hs' P := fun P => by
    unfold behind
    apply List.map_congr_left
    intro k hk
    have hk2 := List.mem_range.mp hk
    have := h _ (debtor_in G hk2)
    by_cases q : (B.clm k).d ∈ hs
    · rw [if_pos q, if_pos (this.mp q)]
    · rw [if_neg q, if_neg (fun z => q (this.mpr z))]
  have e2 : ∀ n P, led B hs n P = led B hs' n P := fun n => by
    induction n with
    | zero => intro P; rfl
    | succ n ih =>
      intro P
      show behind B hs (led B hs n P) = behind B hs' (led B hs' n P)
      rw [ih P, e]
  exact e2 _ _
/-- x fails: by the best clearing it doesn't pay all that it owes -/
def Fails (B : Bk) (x : Int) : Prop := paidOut B x (bestOf B) < owedIn B x
theorem fails_iff {B : Bk} (G : Good B) (x : Int) : Fails B x ↔ meansOf B x (bestOf B) < owedIn B x := by
  unfold Fails
  rw [clears_paid G (best_clears G)]
  omega
/-- where only failing houses have fallen, and no other one falls: that is the best clearing -/
theorem top_best {B : Bk} (G : Good B) {hs : List Int} (hin : ∀ x ∈ hs, x ∈ houses B) (hstop : ∀ x, x ∈ houses B → x ∉ hs → owedIn B x ≤ meansOf B x (topIn B hs)) : topIn B hs = bestOf B := by
  have hP := top_pay G hs
  refine LeP.anti (top_ge G hP ?_) (top_anti G hin)
  have hfix := top_fix G hs
  refine ⟨by rw [behind_len, hP.len], fun k hk => ?_⟩
  rw [hP.len] at hk
  rw [g_behind hk, if_pos (debtor_in G hk)]
  have h1 := g_behind (hs := hs) (P := topIn B hs) hk
  rw [hfix] at h1
  by_cases e : (B.clm k).d ∈ hs
  · rw [if_pos e] at h1
    omega
  · have h2 := coin_full G hk rfl (hstop _ (debtor_in G hk) e)
    rw [h2]
    exact hP.hi k hk
/-- a house that falls by some that fall fails -/
theorem falls_fails {B : Bk} (G : Good B) {hs : List Int} {x : Int} (hin : ∀ x ∈ hs, x ∈ houses B) (h : meansOf B x (topIn B hs) < owedIn B x) : Fails B x := by
  rw [fails_iff G]
  have h1 := means_mono (B := B) (top_anti G hin) x
  exact Int.lt_of_le_of_lt h1 h
theorem g_app_left {l m : List Int} {i : Nat} (h : i < l.length) : g (l ++ m) i = g l i := by
  apply g_of
  rw [List.getElem?_append_left h, g_get h]
theorem g_app_last {l : List Int} {x : Int} {i : Nat} (h : i = l.length) : g (l ++ [x]) i = x := by
  apply g_of
  rw [h, List.getElem?_append_right (Nat.le_refl _), Nat.sub_self]
  rfl


end Rf
namespace Rf
open PySem PySem.Spec PyProof.Rows L2
/-! ### more coins; sums; failing; waves -/
theorem clm_same {B B' : Bk} (h : B.claims = B'.claims) : B.clm = B'.clm := by
  funext k
  unfold Bk.clm
  rw [h]
theorem ofRank_same {B B' : Bk} (h : B.claims = B'.claims) (x r : Int) : ofRank B x r = ofRank B' x r := by
  unfold ofRank rankUp
  rw [clm_same h, h]
theorem amt_same {B B' : Bk} (h : B.claims = B'.claims) : amt B = amt B' := by
  funext k
  unfold amt
  rw [clm_same h]
theorem pay_same {B B' : Bk} (h : B.claims = B'.claims) (x : Int) : ∀ (rs : List Int) (m : Int), payFrom B x rs m = payFrom B' x rs m
  | [], _ => rfl
  | r :: rs, m => by
    unfold payFrom
    have e : amts B x r = amts B' x r := by
      unfold amts
      rw [ofRank_same h, amt_same h]
    rw [ofRank_same h, e, pay_same h x rs]
theorem coin_same {B B' : Bk} (h : B.claims = B'.claims) (x m : Int) (k : Nat) : coinOf B x m k = coinOf B' x m k := by
  unfold coinOf
  rw [pay_same h]
theorem owed_same {B B' : Bk} (h : B.claims = B'.claims) (x : Int) : owedIn B x = owedIn B' x := by
  unfold owedIn owes owesUp
  rw [clm_same h, amt_same h, h]
theorem allP_same {B B' : Bk} (h : B.claims = B'.claims) : allP B = allP B' := by
  unfold allP
  rw [h]
/-- the same claims, some houses with more coins -/
structure More (B B' : Bk) : Prop where
  cl : B.claims = B'.claims
  len : B.cash.length = B'.cash.length
  le : ∀ i, g B.cash i ≤ g B'.cash i
theorem pay_more {B B' : Bk} (h : B.claims = B'.claims) {P : List Int} (hP : Pay B P) : Pay B' P := by
  refine ⟨by rw [hP.len, h], fun k hk => hP.lo k (by rw [h]; exact hk), fun k hk => ?_⟩
  rw [← amt_same h]
  exact hP.hi k (by rw [h]; exact hk)
theorem means_more {B B' : Bk} (h : More B B') (x : Int) (P : List Int) : meansOf B x P ≤ meansOf B' x P := by
  unfold meansOf
  rw [clm_same h.cl]
  have := h.le x.toNat
  omega
theorem behind_more' {B B' : Bk} (G' : Good B') (G : Good B) (h : More B B') {hs P : List Int} (hP : Pay B P) : LeP (behind B hs P) (behind B' hs P) := by
  refine ⟨by rw [behind_len, behind_len, h.cl], fun k hk => ?_⟩
  rw [behind_len] at hk
  have hk' : k < B'.claims.length := by rw [← h.cl]; exact hk
  rw [g_behind hk, g_behind hk', ← clm_same h.cl]
  by_cases e : (B.clm k).d ∈ hs
  · rw [if_pos e, if_pos e, coin_same h.cl]
    exact coin_mono G' hk' (by rw [← clm_same h.cl]) (means_nn G hP _) (means_more h _ P)
  · rw [if_neg e, if_neg e]
    exact Int.le_refl _
theorem top_more {B B' : Bk} (G : Good B) (G' : Good B') (h : More B B') (hs : List Int) : LeP (topIn B hs) (topIn B' hs) := by
  have hP := top_pay G hs
  refine top_ge G' (pay_more h.cl hP) ?_
  have q := behind_more' G' G h (hs := hs) hP
  rw [top_fix G] at q
  exact q
theorem low_more {B B' : Bk} (G : Good B) (G' : Good B') (h : More B B') (hs : List Int) : LeP (lowIn B hs) (lowIn B' hs) := by
  have hP := pay_more h.cl.symm (low_pay G' hs)
  refine low_le G hP ?_
  have q := behind_more' G' G h (hs := hs) hP
  rw [low_fix G'] at q
  exact q
theorem houses_same {B B' : Bk} (h : B.cash.length = B'.cash.length) : houses B = houses B' := by
  unfold houses
  rw [h]
theorem best_more {B B' : Bk} (G : Good B) (G' : Good B') (h : More B B') : LeP (bestOf B) (bestOf B') := by
  unfold bestOf
  rw [← houses_same h.len]
  exact top_more G G' h _
theorem worst_more {B B' : Bk} (G : Good B) (G' : Good B') (h : More B B') : LeP (worstOf B) (worstOf B') := by
  unfold worstOf
  rw [← houses_same h.len]
  exact low_more G G' h _
theorem fails_more {B B' : Bk} (G : Good B) (G' : Good B') (h : More B B') {x : Int} (hf : Fails B' x) : Fails B x := by
  rw [fails_iff G'] at hf
  rw [fails_iff G]
  have h1 := means_more h x (bestOf B)
  have h2 := means_mono (B := B') (best_more G G' h) x
  rw [owed_same h.cl]
  omega
/-! sums over houses -/
def sumTo (v : Nat → Int) (n : Nat) : Int := sumIf (fun _ => true) v n
theorem sumTo_list (v : Nat → Int) (n : Nat) : ((List.range n).map v).sum = sumTo v n := by
  unfold sumTo
  rw [← sumIf_list]
  congr 2
  exact (List.filter_eq_self.mpr fun _ _ => rfl).symm
theorem sumTo_succ (v : Nat → Int) (n : Nat) : sumTo v (n + 1) = sumTo v n + v n := by
  unfold sumTo
  show sumIf _ v n + (if true = true then v n else 0) = _
  rw [if_pos rfl]
theorem sumTo_one (c v : Int) : ∀ n : Nat, sumTo (fun x => if c = (x : Int) then v else 0) n = if 0 ≤ c ∧ c < n then v else 0
  | 0 => by
    rw [if_neg (by omega)]
    rfl
  | n + 1 => by
    rw [sumTo_succ, sumTo_one c v n]
    by_cases e : c = (n : Int)
    · rw [if_pos e, if_neg (by omega), if_pos (by omega)]
      omega
    · rw [if_neg e]
      by_cases q : 0 ≤ c ∧ c < n
      · rw [if_pos q, if_pos (by omega)]
        omega
      · rw [if_neg q, if_neg (by omega)]
        rfl
theorem sumTo_add (v w : Nat → Int) (n : Nat) : sumTo (fun x => v x + w x) n = sumTo v n + sumTo w n := sumIf_add
theorem sumTo_congr {v w : Nat → Int} {n : Nat} (h : ∀ k, k < n → v k = w k) : sumTo v n = sumTo w n := sumIf_congr (fun _ _ => rfl) fun k hk _ => h k hk
/-- what goes to the houses is all -/
theorem sumTo_split {f : Nat → Int} {v : Nat → Int} {n : Nat} : ∀ {m : Nat}, (∀ k, k < m → 0 ≤ f k ∧ f k < n) → sumTo (fun x => sumIf (fun k => decide (f k = (x : Int))) v m) n = sumTo v m
  | 0, _ => by
    have : sumTo (fun x : Nat => sumIf (fun k => decide (f k = (x : Int))) v 0) n = sumTo (fun _ => 0) n := sumTo_congr fun _ _ => rfl
    rw [this]
    show sumTo (fun _ => 0) n = 0
    induction n with
    | zero => rfl
    | succ n ih => rw [sumTo_succ, ih (fun k hk => absurd hk (Nat.not_lt_zero _)) (sumTo_congr fun _ _ => rfl)]; rfl
  | m + 1, h => by
    have ih := sumTo_split (f := f) (v := v) (n := n) (m := m) fun k hk => h k (by omega)
    have e : sumTo (fun x => sumIf (fun k => decide (f k = (x : Int))) v (m + 1)) n = sumTo (fun x => sumIf (fun k => decide (f k = (x : Int))) v m + (if f m = (x : Int) then v m else 0)) n := sumTo_congr fun x _ => by
      show sumIf _ v m + (if decide (f m = (x : Int)) = true then v m else 0) = _
      by_cases q : f m = (x : Int)
      · rw [if_pos q, if_pos (decide_eq_true q)]
      · rw [if_neg q, if_neg (by rw [decide_eq_false q]; decide)]
    rw [e, sumTo_add, ih, sumTo_one, if_pos (h m (Nat.lt_succ_self m)), sumTo_succ]
theorem sum_g (l : List Int) : sumTo (g l) l.length = l.sum := by
  rw [← sumTo_list]
  congr 1
  apply List.ext_getElem?
  intro i
  rw [List.getElem?_map]
  by_cases h : i < l.length
  · rw [List.getElem?_range h, g_get h]
    rfl
  · rw [List.getElem?_eq_none (by rw [List.length_range]; omega), List.getElem?_eq_none (by omega)]
    rfl
def leftOf (B : Bk) (P : List Int) : List Int := (List.range B.cash.length).map fun x : Nat => meansOf B (x : Int) P - paidOut B (x : Int) P
theorem leftOf_len (B : Bk) (P : List Int) : (leftOf B P).length = B.cash.length := by
  unfold leftOf
  rw [List.length_map, List.length_range]
/-- no coin comes or goes -/
theorem left_sum {B : Bk} (G : Good B) {P : List Int} (hP : Pay B P) : (leftOf B P).sum = B.cash.sum := by
  have h1 : sumTo (fun x => sumIf (fun k => decide ((B.clm k).c = (x : Int))) (g P) P.length) B.cash.length = sumTo (g P) P.length := sumTo_split fun k hk => by
    have q := G.clm (hP.len ▸ hk)
    exact ⟨q.c0, q.c1⟩
  have h2 : sumTo (fun x => sumIf (fun k => decide ((B.clm k).d = (x : Int))) (g P) P.length) B.cash.length = sumTo (g P) P.length := sumTo_split fun k hk => by
    have q := G.clm (hP.len ▸ hk)
    exact ⟨q.d0, q.d1⟩
  have h3 := sum_g B.cash
  have e : sumTo (fun x => (meansOf B (x : Int) P - paidOut B (x : Int) P) + sumIf (fun k => decide ((B.clm k).d = (x : Int))) (g P) P.length) B.cash.length = sumTo (fun x => g B.cash x + sumIf (fun k => decide ((B.clm k).c = (x : Int))) (g P) P.length) B.cash.length := sumTo_congr fun x _ => by
    unfold meansOf paidOut
    rw [Int.toNat_natCast]
    omega
  rw [sumTo_add, sumTo_add] at e
  unfold leftOf
  rw [sumTo_list]
  omega
theorem left_nn {B : Bk} (G : Good B) {P : List Int} (h : Clears B P) : ∀ x ∈ leftOf B P, 0 ≤ x := fun y hy => by
  obtain ⟨x, _, rfl⟩ := List.mem_map.mp hy
  have q := clears_paid G h (x : Int)
  omega
/-! failing -/
def failingOf (B : Bk) : List Int := (houses B).filter fun x => decide (paidOut B x (bestOf B) < owedIn B x)
theorem mem_failing {B : Bk} {x : Int} : x ∈ failingOf B ↔ x ∈ houses B ∧ Fails B x := by
  unfold failingOf Fails
  rw [List.mem_filter, decide_eq_true_iff]
theorem houses_sorted (B : Bk) : (houses B).Pairwise (· < ·) := by
  unfold houses
  rw [List.pairwise_map]
  exact List.pairwise_lt_range.imp fun h => by simpa using h
theorem failing_sorted (B : Bk) : (failingOf B).Pairwise (· < ·) := (houses_sorted B).sublist List.filter_sublist
theorem owed_sum {B : Bk} (G : Good B) (x : Int) : owedIn B x = sumIf (fun k => decide ((B.clm k).d = x)) (amt B) B.claims.length := by
  rw [owedIn_eq G, owedBy_all G]
/-- nobody fails: all is paid -/
theorem none_fails {B : Bk} (G : Good B) : failingOf B = [] ↔ bestOf B = allP B := by
  have hP := (best_clears G).pay
  constructor
  · intro h
    refine ext_g (by rw [hP.len, allP_len]) fun k hk => ?_
    rw [hP.len] at hk
    rw [g_allP hk]
    have hn : ¬ Fails B (B.clm k).d := fun z => by
      have : (B.clm k).d ∈ failingOf B := mem_failing.mpr ⟨debtor_in G hk, z⟩
      rw [h] at this
      exact List.not_mem_nil this
    unfold Fails at hn
    rw [owed_sum G] at hn
    unfold paidOut at hn
    rw [hP.len] at hn
    exact sumIf_eq_of (f := fun j => decide ((B.clm j).d = (B.clm k).d)) (v := g (bestOf B)) (w := amt B) (fun j hj _ => hP.hi j hj) (by omega) k hk (decide_eq_true rfl)
  · intro h
    refine List.eq_nil_iff_forall_not_mem.mpr fun x hx => ?_
    have q := (mem_failing.mp hx).2
    unfold Fails paidOut at q
    rw [h, owed_sum G, allP_len] at q
    have e : sumIf (fun k => decide ((B.clm k).d = x)) (g (allP B)) B.claims.length = sumIf (fun k => decide ((B.clm k).d = x)) (amt B) B.claims.length := sumIf_congr (fun _ _ => rfl) fun k hk _ => g_allP hk
    omega
/-! waves -/
def waveOf (B : Bk) (F : List Int) : List Int := (houses B).filter fun x => decide (x ∉ F) && decide (meansOf B x (topIn B F) < owedIn B x)
theorem mem_wave {B : Bk} {F : List Int} {x : Int} : x ∈ waveOf B F ↔ x ∈ houses B ∧ x ∉ F ∧ meansOf B x (topIn B F) < owedIn B x := by
  unfold waveOf
  rw [List.mem_filter, Bool.and_eq_true, decide_eq_true_iff, decide_eq_true_iff]
def wavesFrom (B : Bk) : Nat → List Int → List (List Int)
  | 0, _ => []
  | f + 1, F => if waveOf B F = [] then [] else waveOf B F :: wavesFrom B f (F ++ waveOf B F)
def wavesOf (B : Bk) : List (List Int) := wavesFrom B (B.cash.length + 1) []
/-- what has fallen so far -/
structure Fallen (B : Bk) (F : List Int) : Prop where
  nd : F.Nodup
  inn : ∀ x ∈ F, x ∈ houses B
  fails : ∀ x ∈ F, Fails B x
theorem fallen_nil (B : Bk) : Fallen B [] := ⟨List.nodup_nil, (fun _ h => nomatch h), (fun _ h => nomatch h)⟩
theorem houses_nodup (B : Bk) : (houses B).Nodup := (houses_sorted B).imp fun h => by omega
theorem wave_sorted (B : Bk) (F : List Int) : (waveOf B F).Pairwise (· < ·) := (houses_sorted B).sublist List.filter_sublist
theorem fallen_more {B : Bk} (G : Good B) {F : List Int} (h : Fallen B F) : Fallen B (F ++ waveOf B F) := by
  refine ⟨List.nodup_append.mpr ⟨h.nd, (wave_sorted B F).imp fun h => by omega, fun a ha b hb e => ?_⟩, fun x hx => ?_, fun x hx => ?_⟩
  · subst e
    exact (mem_wave.mp hb).2.1 ha
  · rcases List.mem_append.mp hx with q | q
    · exact h.inn x q
    · exact (mem_wave.mp q).1
  · rcases List.mem_append.mp hx with q | q
    · exact h.fails x q
    · exact falls_fails G h.inn (mem_wave.mp q).2.2
theorem nodup_sub_len {l m : List Int} (hl : l.Nodup) (hm : m.Nodup) (h : ∀ x ∈ l, x ∈ m) : l.length ≤ m.length := by
  have hp : l.Perm (m.filter fun x => decide (x ∈ l)) := (List.perm_ext_iff_of_nodup hl (hm.filter _)).mpr fun x => by
    rw [List.mem_filter, decide_eq_true_iff]
    exact ⟨fun q => ⟨h x q, q⟩, fun q => q.2⟩
  rw [hp.length_eq]
  exact List.length_filter_le _ _
theorem fallen_len {B : Bk} {F : List Int} (h : Fallen B F) : F.length ≤ B.cash.length := by
  have q := nodup_sub_len h.nd (houses_nodup B) h.inn
  unfold houses at q
  rw [List.length_map, List.length_range] at q
  exact q
/-- where no other one falls, all that fail have fallen -/
theorem fallen_all {B : Bk} (G : Good B) {F : List Int} (h : Fallen B F) (hw : waveOf B F = []) : ∀ x, x ∈ F ↔ x ∈ failingOf B := by
  have hstop : ∀ x, x ∈ houses B → x ∉ F → owedIn B x ≤ meansOf B x (topIn B F) := fun x hx hn => Int.not_lt.mp fun z => by
    have : x ∈ waveOf B F := mem_wave.mpr ⟨hx, hn, z⟩
    rw [hw] at this
    exact List.not_mem_nil this
  have hb := top_best G h.inn hstop
  intro x
  rw [mem_failing]
  constructor
  · intro hx
    exact ⟨h.inn x hx, h.fails x hx⟩
  · rintro ⟨hx, hf⟩
    refine Classical.byContradiction fun hn => ?_
    have q := hstop x hx hn
    rw [hb] at q
    have := (fails_iff G x).mp hf
    omega
theorem waves_all {B : Bk} (G : Good B) : ∀ (f : Nat) {F : List Int}, Fallen B F → B.cash.length < F.length + f → ∀ x, x ∈ F ++ (wavesFrom B f F).flatten ↔ x ∈ failingOf B
  | 0, F, h, hl => absurd (fallen_len h) (by omega)
  | f + 1, F, h, hl => by
    unfold wavesFrom
    by_cases e : waveOf B F = []
    · rw [if_pos e, List.flatten_nil, List.append_nil]
      exact fallen_all G h e
    · rw [if_neg e, List.flatten_cons, ← List.append_assoc]
      refine waves_all G f (fallen_more G h) ?_
      have : 0 < (waveOf B F).length := List.length_pos_iff.mpr e
      rw [List.length_append]
      omega
/-! losses and nets -/
def lossAt (B : Bk) (i : Nat) (x : Nat) : Int := sumIf (fun k => decide ((B.clm k).c = (x : Int))) (fun k => amt B k - g (bestOf B) k) i
def lossesOf (B : Bk) : List Int := (List.range B.cash.length).map (lossAt B B.claims.length)
def netAt (B : Bk) (i : Nat) (x : Nat) : Int := g B.cash x + sumIf (fun k => decide ((B.clm k).c = (x : Int))) (amt B) i - sumIf (fun k => decide ((B.clm k).d = (x : Int))) (amt B) i
theorem rangeMap_set {n j : Nat} {v : Nat → Int} {y : Int} (hj : j < n) : ((List.range n).map v).set j y = (List.range n).map fun x => if x = j then y else v x := by
  refine ext_g (by simp) fun i hi => ?_
  have hi2 : i < n := by simpa using hi
  rw [g_rangeMap hi2]
  by_cases e : j = i
  · subst e
    rw [g_set_same (by simpa using hi2), if_pos rfl]
  · rw [g_set_ne e, g_rangeMap hi2, if_neg (fun z => e z.symm)]
theorem net_all {B : Bk} : (List.range B.cash.length).map (netAt B B.claims.length) = leftOf B (allP B) := by
  unfold leftOf
  apply List.map_congr_left
  intro x _
  unfold netAt meansOf paidOut
  rw [Int.toNat_natCast, allP_len]
  have e1 : sumIf (fun k => decide ((B.clm k).c = (x : Int))) (g (allP B)) B.claims.length = sumIf (fun k => decide ((B.clm k).c = (x : Int))) (amt B) B.claims.length := sumIf_congr (fun _ _ => rfl) fun k hk _ => g_allP hk
  have e2 : sumIf (fun k => decide ((B.clm k).d = (x : Int))) (g (allP B)) B.claims.length = sumIf (fun k => decide ((B.clm k).d = (x : Int))) (amt B) B.claims.length := sumIf_congr (fun _ _ => rfl) fun k hk _ => g_allP hk
  rw [e1, e2]
theorem loss_sum {B : Bk} (G : Good B) : (lossesOf B).sum = sumTo (fun k => amt B k - g (bestOf B) k) B.claims.length := by
  unfold lossesOf
  rw [sumTo_list]
  exact sumTo_split fun k hk => ⟨(G.clm hk).c0, (G.clm hk).c1⟩
theorem loss_none {B : Bk} (G : Good B) : failingOf B = [] ↔ (lossesOf B).sum = 0 := by
  rw [none_fails G, loss_sum G]
  have hP := (best_clears G).pay
  constructor
  · intro h
    have e : sumTo (fun k => amt B k - g (bestOf B) k) B.claims.length = sumTo (fun _ => 0) B.claims.length := sumTo_congr fun k hk => by rw [h, g_allP hk]; omega
    rw [e]
    generalize B.claims.length = n
    induction n with
    | zero => rfl
    | succ n ih => rw [sumTo_succ, ih]; rfl
  · intro h
    refine ext_g (by rw [hP.len, allP_len]) fun k hk => ?_
    rw [hP.len] at hk
    rw [g_allP hk]
    have q := sumIf_eq_of (f := fun _ => true) (v := fun _ => 0) (w := fun k => amt B k - g (bestOf B) k) (n := B.claims.length) (fun k hk _ => by have := hP.hi k hk; show (0 : Int) ≤ amt B k - g (bestOf B) k; omega) (by
      have z : sumIf (fun _ => true) (fun _ => (0 : Int)) B.claims.length = 0 := by
        generalize B.claims.length = n
        induction n with
        | zero => rfl
        | succ n ih =>
          show sumIf _ _ n + (if true = true then (0 : Int) else 0) = 0
          rw [ih]
          rfl
      rw [z]
      have h2 : sumIf (fun _ => true) (fun k => amt B k - g (bestOf B) k) B.claims.length = 0 := h
      omega) k hk rfl
    have q2 : (0 : Int) = amt B k - g (bestOf B) k := q
    omega
theorem net_fails {B : Bk} (G : Good B) {x : Nat} (hx : x < B.cash.length) (h : g (leftOf B (allP B)) x < 0) : (x : Int) ∈ failingOf B := by
  refine mem_failing.mpr ⟨mem_houses.mpr ⟨by omega, by omega⟩, (fails_iff G _).mpr ?_⟩
  have e : g (leftOf B (allP B)) x = meansOf B (x : Int) (allP B) - paidOut B (x : Int) (allP B) := g_rangeMap hx
  rw [e] at h
  have h1 := means_mono (B := B) (le_allP (best_clears G).pay) (x : Int)
  have h2 : paidOut B (x : Int) (allP B) = owedIn B (x : Int) := by
    rw [owed_sum G]
    unfold paidOut
    rw [allP_len]
    exact sumIf_congr (fun _ _ => rfl) fun k hk _ => g_allP hk
  omega
theorem loss_step {B : Bk} (G : Good B) {i j : Nat} (hi : i < B.claims.length) (hj : (B.clm i).c = (j : Int)) (hn : j < B.cash.length) :
    ((List.range B.cash.length).map (lossAt B i)).set j (lossAt B i j + (B.clm i).a - g (bestOf B) i) = (List.range B.cash.length).map (lossAt B (i + 1)) := by
  rw [rangeMap_set hn]
  apply List.map_congr_left
  intro x _
  show _ = lossAt B i x + (if decide ((B.clm i).c = (x : Int)) = true then amt B i - g (bestOf B) i else 0)
  by_cases e : x = j
  · subst e
    rw [if_pos rfl, if_pos (decide_eq_true hj)]
    unfold amt
    omega
  · rw [if_neg e, if_neg (by rw [decide_eq_false (fun z => e (by omega))]; decide)]
    omega
theorem net_step {B : Bk} (G : Good B) {i j l : Nat} (hi : i < B.claims.length) (hj : (B.clm i).c = (j : Int)) (hl : (B.clm i).d = (l : Int)) (hn : j < B.cash.length) (hm : l < B.cash.length) :
    (((List.range B.cash.length).map (netAt B i)).set j (netAt B i j + (B.clm i).a)).set l (netAt B i l - (B.clm i).a) = (List.range B.cash.length).map (netAt B (i + 1)) := by
  have ne : l ≠ j := fun z => (G.clm hi).ne (by rw [hj, hl, z])
  rw [rangeMap_set hn, rangeMap_set hm]
  apply List.map_congr_left
  intro x _
  show _ = g B.cash x + (sumIf _ (amt B) i + (if decide ((B.clm i).c = (x : Int)) = true then amt B i else 0)) - (sumIf _ (amt B) i + (if decide ((B.clm i).d = (x : Int)) = true then amt B i else 0))
  have ea : amt B i = (B.clm i).a := rfl
  by_cases e1 : x = l
  · subst e1
    rw [if_pos rfl, if_neg (by rw [decide_eq_false (fun z => ne (by omega))]; decide), if_pos (decide_eq_true hl)]
    unfold netAt
    omega
  · rw [if_neg e1, if_neg (c := decide ((B.clm i).d = (x : Int)) = true) (by rw [decide_eq_false (fun z => e1 (by omega))]; decide)]
    by_cases e2 : x = j
    · subst e2
      rw [if_pos rfl, if_pos (decide_eq_true hj)]
      unfold netAt
      omega
    · rw [if_neg e2, if_neg (by rw [decide_eq_false (fun z => e2 (by omega))]; decide)]
      unfold netAt
      omega
theorem range_get {n j : Nat} {v : Nat → Int} (hj : j < n) : g ((List.range n).map v) j = v j := g_rangeMap hj


end Rf
namespace Rf
open PySem PySem.Spec PyProof.Rows L2
/-! ### settled: paying house by house until nothing changes -/
def fixOf (B : Bk) (hs P : List Int) : List Int := led B hs (allP B).sum.toNat P
/-- further down (or up) -/
def Tw : Bool → List Int → List Int → Prop
  | true, P, Q => LeP P Q
  | false, P, Q => LeP Q P
theorem Tw.refl : ∀ (d : Bool) (P : List Int), Tw d P P
  | true, P => LeP.refl P
  | false, P => LeP.refl P
theorem Tw.trans : ∀ {d : Bool} {P Q R : List Int}, Tw d P Q → Tw d Q R → Tw d P R
  | true, _, _, _, a, b => LeP.trans a b
  | false, _, _, _, a, b => LeP.trans b a
theorem Tw.anti : ∀ {d : Bool} {P Q : List Int}, Tw d P Q → Tw d Q P → P = Q
  | true, _, _, a, b => LeP.anti a b
  | false, _, _, a, b => LeP.anti b a
theorem Tw.of : ∀ {d : Bool} {P Q : List Int}, P.length = Q.length → (∀ k, k < P.length → (d = true → g P k ≤ g Q k) ∧ (d = false → g Q k ≤ g P k)) → Tw d P Q
  | true, _, _, hl, h => ⟨hl, fun k hk => (h k hk).1 rfl⟩
  | false, _, _, hl, h => ⟨hl.symm, fun k hk => (h k (hl ▸ hk)).2 rfl⟩
theorem Tw.at : ∀ {d : Bool} {P Q : List Int}, Tw d P Q → ∀ k, k < P.length → (d = true → g P k ≤ g Q k) ∧ (d = false → g Q k ≤ g P k)
  | true, _, _, a, k, hk => ⟨fun _ => a.2 k hk, (fun z => nomatch z)⟩
  | false, _, _, a, k, hk => ⟨(fun z => nomatch z), fun _ => a.2 k (a.1 ▸ hk)⟩
theorem Tw.len : ∀ {d : Bool} {P Q : List Int}, Tw d P Q → P.length = Q.length
  | true, _, _, a => a.1
  | false, _, _, a => a.1.symm
theorem Tw.mono {B : Bk} (G : Good B) (hs : List Int) : ∀ {d : Bool} {P Q : List Int}, Pay B P → Pay B Q → Tw d P Q → Tw d (behind B hs P) (behind B hs Q)
  | true, _, _, hP, _, h => behind_mono G hP h
  | false, _, _, _, hQ, h => behind_mono G hQ h
/-- how far it can go yet -/
def far (B : Bk) : Bool → List Int → Nat
  | true, P => P.sum.toNat
  | false, P => ((allP B).sum - P.sum).toNat
theorem far_lt {B : Bk} : ∀ {d : Bool} {P Q : List Int}, Pay B P → Pay B Q → Tw d P Q → P ≠ Q → far B d P < far B d Q
  | true, P, Q, hP, hQ, h, hn => by
    have h1 := LeP.lt h hn
    have h2 := hP.sum_nn
    show P.sum.toNat < Q.sum.toNat
    omega
  | false, P, Q, hP, hQ, h, hn => by
    have h1 := LeP.lt h (Ne.symm hn)
    have h2 := hP.sum_le
    have h3 := hP.sum_le
    show ((allP B).sum - P.sum).toNat < ((allP B).sum - Q.sum).toNat
    omega
theorem far_le {B : Bk} {d : Bool} {P Q : List Int} (hP : Pay B P) (hQ : Pay B Q) (h : Tw d P Q) : far B d P ≤ far B d Q := by
  by_cases e : P = Q
  · rw [e]; exact Nat.le_refl _
  · exact Nat.le_of_lt (far_lt hP hQ h e)
theorem fix_pay {B : Bk} (G : Good B) {hs P : List Int} (hP : Pay B P) : Pay B (fixOf B hs P) := led_pay G hP _
theorem fix_fixed {B : Bk} (G : Good B) {hs P : List Int} (hP : Pay B P) : ∀ {d : Bool}, Tw d (behind B hs P) P → behind B hs (fixOf B hs P) = fixOf B hs P
  | true, h => by
    have h1 := down_fix G hP h
    have h2 : P.sum.toNat ≤ (allP B).sum.toNat := by have := hP.sum_le; omega
    unfold fixOf
    rw [led_stays h1 h2]
    exact h1
  | false, h => up_fix G hP h (by have := hP.sum_nn; have := (allP_pay G).sum_nn; omega)
theorem g_one {B : Bk} {x : Int} {P : List Int} {k : Nat} (h : k < B.claims.length) : g (behind B [x] P) k = if (B.clm k).d = x then coinOf B x (meansOf B x P) k else g P k := by
  rw [g_behind h]
  by_cases e : (B.clm k).d = x
  · rw [if_pos (List.mem_singleton.mpr e), if_pos e, e]
  · rw [if_neg (fun z => e (List.mem_singleton.mp z)), if_neg e]
def Stable (B : Bk) (x : Int) (P : List Int) : Prop := ∀ k, k < B.claims.length → (B.clm k).d = x → g P k = coinOf B x (meansOf B x P) k
theorem stable_all {B : Bk} {hs P : List Int} (hl : P.length = B.claims.length) (h : ∀ x ∈ hs, Stable B x P) : behind B hs P = P := by
  refine ext_g (by rw [behind_len, hl]) fun k hk => ?_
  rw [behind_len] at hk
  rw [g_behind hk]
  by_cases e : (B.clm k).d ∈ hs
  · rw [if_pos e]
    exact (h _ e k hk rfl).symm
  · rw [if_neg e]
theorem one_fixed {B : Bk} {hs P : List Int} {x : Int} (h : behind B hs P = P) (hx : x ∈ hs) : behind B [x] P = P := by
  have hl : P.length = B.claims.length := by rw [← h, behind_len]
  refine ext_g (by rw [behind_len, hl]) fun k hk => ?_
  rw [behind_len] at hk
  have q : g (behind B hs P) k = g P k := by rw [h]
  rw [g_behind hk] at q
  rw [g_one hk]
  by_cases e : (B.clm k).d = x
  · subst e
    rw [if_pos hx] at q
    rw [if_pos rfl]
    exact q
  · rw [if_neg e]
/-- what one house's paying keeps -/
structure Chaos (B : Bk) (hs P0 P : List Int) (d : Bool) : Prop where
  pay : Pay B P
  fwd : Tw d (behind B hs P) P
  far : Tw d (fixOf B hs P0) P
  near : Tw d P P0
theorem one_between {B : Bk} {hs P : List Int} {d : Bool} {x : Int} (h : Tw d (behind B hs P) P) (hx : x ∈ hs) : Tw d (behind B hs P) (behind B [x] P) ∧ Tw d (behind B [x] P) P := by
  have hl : P.length = B.claims.length := by rw [← h.len, behind_len]
  constructor
  · refine Tw.of (by rw [behind_len, behind_len]) fun k hk => ?_
    have q := h.at k hk
    rw [behind_len] at hk
    rw [g_one hk]
    by_cases e : (B.clm k).d = x
    · subst e
      rw [if_pos rfl, g_behind hk, if_pos hx]
      exact ⟨fun _ => Int.le_refl _, fun _ => Int.le_refl _⟩
    · rw [if_neg e]
      exact q
  · refine Tw.of (by rw [behind_len, hl]) fun k hk => ?_
    have q := h.at k (by rw [behind_len]; rw [behind_len] at hk; exact hk)
    rw [behind_len] at hk
    rw [g_one hk]
    by_cases e : (B.clm k).d = x
    · subst e
      rw [g_behind hk, if_pos hx] at q
      rw [if_pos rfl]
      exact q
    · rw [if_neg e]
      exact ⟨fun _ => Int.le_refl _, fun _ => Int.le_refl _⟩
theorem Chaos.step {B : Bk} (G : Good B) {hs P0 P : List Int} {d : Bool} (C : Chaos B hs P0 P d) (h0 : Pay B P0) (hf : Tw d (behind B hs P0) P0) {x : Int} (hx : x ∈ hs) : Chaos B hs P0 (behind B [x] P) d := by
  obtain ⟨b1, b2⟩ := one_between C.fwd hx
  have hp := behind_pay G (hs := [x]) C.pay
  refine ⟨hp, ?_, ?_, b2.trans C.near⟩
  · exact (Tw.mono G hs hp C.pay b2).trans b1
  · have q := Tw.mono G [x] (fix_pay G h0) C.pay C.far
    rw [one_fixed (fix_fixed G h0 hf) hx] at q
    exact q
theorem Chaos.start {B : Bk} (G : Good B) {hs P : List Int} {d : Bool} (h0 : Pay B P) (hf : Tw d (behind B hs P) P) : Chaos B hs P P d := by
  refine ⟨h0, hf, ?_, Tw.refl _ _⟩
  cases d with
  | true =>
    have : ∀ n, LeP (led B hs n P) P := fun n => by
      induction n with
      | zero => exact LeP.refl _
      | succ n ih => exact (led_down G h0 hf n).trans ih
    exact this _
  | false =>
    have : ∀ n, LeP P (led B hs n P) := fun n => by
      induction n with
      | zero => exact LeP.refl _
      | succ n ih => exact ih.trans (led_up G h0 hf n)
    exact this _
theorem Chaos.done {B : Bk} (G : Good B) {hs P0 P : List Int} {d : Bool} (C : Chaos B hs P0 P d) (h0 : Pay B P0) (h : ∀ x ∈ hs, Stable B x P) : P = fixOf B hs P0 := by
  have e := stable_all C.pay.len h
  cases d with
  | true => exact LeP.anti (led_ge G C.pay (by rw [e]; exact LeP.refl _) C.near _) C.far
  | false => exact LeP.anti C.far (led_le G h0 (by rw [e]; exact LeP.refl _) C.near _)
theorem sumIf_same {f : Nat → Bool} {v w : Nat → Int} {n : Nat} (h : ∀ k, k < n → f k = true → v k = w k) : sumIf f v n = sumIf f w n := sumIf_congr (fun _ _ => rfl) h
theorem means_same {B : Bk} {x : Int} {P Q : List Int} (hl : P.length = Q.length) (h : ∀ k, k < P.length → (B.clm k).c = x → g P k = g Q k) : meansOf B x P = meansOf B x Q := by
  unfold meansOf
  rw [← hl, sumIf_same fun k hk hf => h k hk (of_decide_eq_true hf)]
theorem stable_self {B : Bk} (G : Good B) {P : List Int} (hl : P.length = B.claims.length) (x : Int) : Stable B x (behind B [x] P) := fun k hk hd => by
  have e : meansOf B x (behind B [x] P) = meansOf B x P := means_same (by rw [behind_len, hl]) fun j hj hc => by
    rw [behind_len] at hj
    rw [g_one hj, if_neg (fun z => (G.clm hj).ne (by rw [z, hc]))]
  rw [e, g_one hk, if_pos hd]
theorem stable_other {B : Bk} {P : List Int} (hl : P.length = B.claims.length) {x y : Int} (hy : y ≠ x) (h : Stable B y P) (hc : ∀ k, k < B.claims.length → (B.clm k).c = y → g (behind B [x] P) k = g P k) : Stable B y (behind B [x] P) := fun k hk hd => by
  have e : meansOf B y (behind B [x] P) = meansOf B y P := means_same (by rw [behind_len, hl]) fun j hj hcj => hc j (by rw [behind_len] at hj; exact hj) hcj
  rw [e, g_one hk, if_neg (fun z => hy (hd.symm.trans z))]
  exact h k hk hd
/-! claims set one by one -/
def setL : List (Nat × Int) → List Int → List Int
  | [], P => P
  | (k, c) :: L, P => setL L (P.set k c)
theorem setL_len : ∀ (L : List (Nat × Int)) (P : List Int), (setL L P).length = P.length
  | [], _ => rfl
  | (k, c) :: L, P => by
    show (setL L (P.set k c)).length = _
    rw [setL_len L, List.length_set]
theorem setL_app : ∀ (L M : List (Nat × Int)) (P : List Int), setL (L ++ M) P = setL M (setL L P)
  | [], _, _ => rfl
  | (k, c) :: L, M, P => setL_app L M (P.set k c)
theorem setL_take {L : List (Nat × Int)} {j k : Nat} {c : Int} (h : L[j]? = some (k, c)) (P : List Int) : setL (L.take (j + 1)) P = (setL (L.take j) P).set k c := by
  rw [List.take_add_one, h, setL_app]
  rfl
theorem g_setL_out : ∀ {L : List (Nat × Int)} {P : List Int} {k : Nat}, k ∉ L.map (·.1) → g (setL L P) k = g P k
  | [], _, _, _ => rfl
  | (i, c) :: L, P, k, h => by
    rw [List.map_cons, List.mem_cons, not_or] at h
    show g (setL L (P.set i c)) k = _
    rw [g_setL_out h.2, g_set_ne (fun z => h.1 z.symm)]
theorem g_setL_in : ∀ {L : List (Nat × Int)} {P : List Int} {k : Nat} {c : Int}, (L.map (·.1)).Nodup → (k, c) ∈ L → k < P.length → g (setL L P) k = c
  | [], _, _, _, _, h, _ => nomatch h
  | (i, e) :: L, P, k, c, hn, h, hk => by
    rw [List.map_cons, List.nodup_cons] at hn
    show g (setL L (P.set i e)) k = c
    rcases List.mem_cons.mp h with q | q
    · cases q
      rw [g_setL_out hn.1, g_set_same hk]
    · exact g_setL_in hn.2 q (by rw [List.length_set]; exact hk)
theorem setL_pay {B : Bk} (G : Good B) {x : Int} {P : List Int} (hl : P.length = B.claims.length) : setL (payFrom B x ranks9 (meansOf B x P)) P = behind B [x] P := by
  refine ext_g (by rw [setL_len, behind_len, hl]) fun k hk => ?_
  rw [setL_len, hl] at hk
  rw [g_one hk]
  by_cases e : (B.clm k).d = x
  · rw [if_pos e]
    exact g_setL_in (pay_nodup B x _) (coin_mem G hk e) (by rw [hl]; exact hk)
  · rw [if_neg e]
    refine g_setL_out fun z => e ?_
    obtain ⟨y, hy, rfl⟩ := List.mem_map.mp z
    rw [← mem_payList G] at hy
    unfold payList at hy
    obtain ⟨j, hj, rfl⟩ := List.mem_map.mp hy
    exact (mem_owesUp.mp hj).2
/-- the creditors of the claims that changed -/
def addK (T : List Int) (y : Int) : List Int := if y ∈ T then T else T ++ [y]
def touch (B : Bk) (P : List Int) : List (Nat × Int) → List Int → List Int
  | [], T => T
  | (k, c) :: L, T => touch B P L (if c = g P k then T else addK T (B.clm k).c)
theorem touch_app {B : Bk} {P : List Int} : ∀ (L M : List (Nat × Int)) (T : List Int), touch B P (L ++ M) T = touch B P M (touch B P L T)
  | [], _, _ => rfl
  | (k, c) :: L, M, T => touch_app L M _
theorem touch_take {B : Bk} {P : List Int} {L : List (Nat × Int)} {j k : Nat} {c : Int} (h : L[j]? = some (k, c)) (T : List Int) : touch B P (L.take (j + 1)) T = if c = g P k then touch B P (L.take j) T else addK (touch B P (L.take j) T) (B.clm k).c := by
  rw [List.take_add_one, h, touch_app]
  rfl
theorem addK_sub {T : List Int} {y z : Int} (h : z ∈ T) : z ∈ addK T y := by
  unfold addK
  split
  · exact h
  · exact List.mem_append_left _ h
theorem addK_in (T : List Int) (y : Int) : y ∈ addK T y := by
  unfold addK
  split
  · assumption
  · exact List.mem_append_right _ (List.mem_singleton.mpr rfl)
theorem mem_addK {T : List Int} {y z : Int} (h : z ∈ addK T y) : z ∈ T ∨ z = y := by
  unfold addK at h
  split at h
  · exact .inl h
  · rcases List.mem_append.mp h with q | q
    · exact .inl q
    · exact .inr (List.mem_singleton.mp q)
theorem addK_nodup {T : List Int} {y : Int} (h : T.Nodup) : (addK T y).Nodup := by
  unfold addK
  split
  · exact h
  · next hn =>
    refine List.nodup_append.mpr ⟨h, by simp, fun a ha b hb z => ?_⟩
    rw [List.mem_singleton.mp hb] at z
    exact hn (z ▸ ha)
theorem touch_sub {B : Bk} {P : List Int} : ∀ {L : List (Nat × Int)} {T : List Int} {z : Int}, z ∈ T → z ∈ touch B P L T
  | [], _, _, h => h
  | (k, c) :: L, T, z, h => by
    refine touch_sub (L := L) ?_
    split
    · exact h
    · exact addK_sub h
theorem touch_in {B : Bk} {P : List Int} : ∀ {L : List (Nat × Int)} {T : List Int} {k : Nat} {c : Int}, (k, c) ∈ L → c ≠ g P k → (B.clm k).c ∈ touch B P L T
  | [], _, _, _, h, _ => nomatch h
  | (i, e) :: L, T, k, c, h, hn => by
    rcases List.mem_cons.mp h with q | q
    · cases q
      show _ ∈ touch B P L _
      rw [if_neg hn]
      exact touch_sub (addK_in _ _)
    · exact touch_in (L := L) q hn
theorem touch_nodup {B : Bk} {P : List Int} : ∀ {L : List (Nat × Int)} {T : List Int}, T.Nodup → (touch B P L T).Nodup
  | [], _, h => h
  | (k, c) :: L, T, h => by
    refine touch_nodup (L := L) ?_
    split
    · exact h
    · exact addK_nodup h
theorem touch_houses {B : Bk} (G : Good B) {P : List Int} : ∀ {L : List (Nat × Int)} {T : List Int}, (∀ p ∈ L, p.1 < B.claims.length) → (∀ t ∈ T, t ∈ houses B) → ∀ t ∈ touch B P L T, t ∈ houses B
  | [], _, _, h => h
  | (k, c) :: L, T, hL, h => by
    refine touch_houses G (L := L) (fun p hp => hL p (List.mem_cons_of_mem _ hp)) ?_
    split
    · exact h
    · intro t ht
      rcases mem_addK ht with q | q
      · exact h t q
      · rw [q]
        exact creditor_in G (hL _ List.mem_cons_self)
theorem touch_none {B : Bk} {P : List Int} : ∀ {L : List (Nat × Int)} {T : List Int}, (∀ p ∈ L, p.2 = g P p.1) → touch B P L T = T
  | [], _, _ => rfl
  | (k, c) :: L, T, h => by
    show touch B P L _ = T
    rw [if_pos (h (k, c) List.mem_cons_self)]
    exact touch_none fun p hp => h p (List.mem_cons_of_mem _ hp)
/-! the means, house by house -/
def meansL (B : Bk) (P : List Int) : List Int := (List.range B.cash.length).map fun x : Nat => meansOf B (x : Int) P
theorem meansL_len (B : Bk) (P : List Int) : (meansL B P).length = B.cash.length := by
  unfold meansL
  rw [List.length_map, List.length_range]
theorem g_meansL {B : Bk} {P : List Int} {x : Nat} (h : x < B.cash.length) : g (meansL B P) x = meansOf B (x : Int) P := g_rangeMap h
theorem sumIf_set {f : Nat → Bool} {P : List Int} {k : Nat} {c : Int} (hk : k < P.length) : ∀ {n : Nat}, sumIf f (g (P.set k c)) n = sumIf f (g P) n + (if k < n ∧ f k = true then c - g P k else 0)
  | 0 => by
    rw [if_neg (fun z => absurd z.1 (Nat.not_lt_zero _))]
    rfl
  | n + 1 => by
    show sumIf f (g (P.set k c)) n + (if f n = true then g (P.set k c) n else 0) = sumIf f (g P) n + (if f n = true then g P n else 0) + _
    rw [sumIf_set hk (n := n)]
    by_cases e : k = n
    · subst e
      rw [g_set_same hk]
      have e1 : ¬ (k < k ∧ f k = true) := fun z => absurd z.1 (Nat.lt_irrefl _)
      rw [if_neg e1]
      by_cases q : f k = true
      · have e2 : k < k + 1 ∧ f k = true := ⟨Nat.lt_succ_self _, q⟩
        rw [if_pos q, if_pos q, if_pos e2]
        omega
      · have e2 : ¬ (k < k + 1 ∧ f k = true) := fun z => q z.2
        rw [if_neg q, if_neg q, if_neg e2]
    · rw [g_set_ne e]
      by_cases q : k < n ∧ f k = true
      · have e2 : k < n + 1 ∧ f k = true := ⟨by omega, q.2⟩
        rw [if_pos q, if_pos e2]
        omega
      · have e2 : ¬ (k < n + 1 ∧ f k = true) := fun z => q ⟨by omega, z.2⟩
        rw [if_neg q, if_neg e2]
        omega
theorem means_set {B : Bk} {P : List Int} {k : Nat} {c : Int} (hl : P.length = B.claims.length) (hk : k < B.claims.length) (x : Int) : meansOf B x (P.set k c) = meansOf B x P + (if (B.clm k).c = x then c - g P k else 0) := by
  unfold meansOf
  rw [List.length_set, sumIf_set (by omega)]
  by_cases e : (B.clm k).c = x
  · rw [if_pos ⟨by omega, decide_eq_true e⟩, if_pos e]
    omega
  · rw [if_neg (fun z => e (of_decide_eq_true z.2)), if_neg e]
    omega
theorem meansL_set {B : Bk} {P : List Int} {k y : Nat} {c : Int} (hl : P.length = B.claims.length) (hk : k < B.claims.length) (hc : (B.clm k).c = (y : Int)) (hy : y < B.cash.length) : (meansL B P).set y (g (meansL B P) y + (c - g P k)) = meansL B (P.set k c) := by
  rw [g_meansL hy]
  unfold meansL
  rw [rangeMap_set hy]
  apply List.map_congr_left
  intro x _
  rw [means_set hl hk]
  by_cases e : x = y
  · subst e
    rw [if_pos rfl, if_pos hc]
  · rw [if_neg e, if_neg (fun z => e (by omega))]
    omega
theorem set_self {P : List Int} {k : Nat} (h : k < P.length) : P.set k (g P k) = P := by
  refine ext_g (List.length_set ..) fun i hi => ?_
  by_cases e : k = i
  · subst e
    rw [g_set_same h]
  · rw [g_set_ne e]
/-! the two ways that settled is asked -/
theorem fix_top (B : Bk) (hs : List Int) : fixOf B hs (allP B) = topIn B hs := rfl
theorem fix_low (B : Bk) (hs : List Int) : fixOf B hs (noneP B) = lowIn B hs := rfl
/-- more houses fallen: on from where it was -/
theorem top_start_more {B : Bk} (G : Good B) {hs hs' : List Int} : LeP (behind B hs' (topIn B hs)) (topIn B hs) := by
  have hp := top_pay G hs
  refine ⟨by rw [behind_len, hp.len], fun k hk => ?_⟩
  rw [behind_len] at hk
  rw [g_behind hk]
  by_cases e : (B.clm k).d ∈ hs'
  · rw [if_pos e]
    have q : g (topIn B hs) k = g (behind B hs (topIn B hs)) k := by rw [top_fix G]
    by_cases e2 : (B.clm k).d ∈ hs
    · rw [q, g_behind hk, if_pos e2]
      exact Int.le_refl _
    · -- one that has not fallen pays all
      have h1 : ∀ n, g (led B hs n (allP B)) k = amt B k := fun n => by
        induction n with
        | zero => exact g_allP hk
        | succ n ih =>
          show g (behind B hs (led B hs n (allP B))) k = _
          rw [g_behind hk, if_neg e2, ih]
      have h2 : g (topIn B hs) k = amt B k := h1 _
      rw [h2]
      exact coin_hi G hk rfl (means_nn G hp _)
  · rw [if_neg e]
    exact Int.le_refl _
theorem fix_more {B : Bk} (G : Good B) {hs hs' : List Int} (hsub : ∀ x ∈ hs, x ∈ hs') : fixOf B hs' (topIn B hs) = topIn B hs' := by
  have hp := top_pay G hs
  have h0 : Tw true (behind B hs' (topIn B hs)) (topIn B hs) := top_start_more G
  refine LeP.anti ?_ ?_
  · exact top_ge G (fix_pay G hp) (by rw [fix_fixed G hp h0]; exact LeP.refl _)
  · exact led_ge G (top_pay G hs') (by rw [top_fix G]; exact LeP.refl _) (top_anti G hsub) _


end Rf
namespace Rf
open PySem PySem.Spec PyProof.Rows L2


end Rf
namespace Rf
open PySem PySem.Spec PyProof.Rows L2
/-! ### the text by places -/
def top (i : Nat) : Stmt := PySem.Challenge.pw_rankfall_k18_other_refusals.main.body.getD i (.Pass ⟨0, 0, 0, 0⟩)
abbrev s_bbinit : Stmt := inClass (top 2) 0
abbrev s_nminit : Stmt := inClass (top 5) 0
abbrev s_btinit : Stmt := inClass (top 6) 0
abbrev s_next : Stmt := top 46
abbrev s_lbook : Stmt := top 47
abbrev s_best : Stmt := top 29
abbrev s_isclr : Stmt := top 28
abbrev s_left : Stmt := top 27
abbrev s_first_coins : Stmt := top 20
abbrev s_least_paid : Stmt := top 21
abbrev s_shared : Stmt := top 19
abbrev s_need : Stmt := top 13
abbrev s_wrong : Stmt := top 14
abbrev s_needhs : Stmt := top 16
abbrev s_needh : Stmt := top 15
abbrev s_owed : Stmt := top 17
abbrev s_paidby : Stmt := top 22
abbrev s_debts : Stmt := top 23
abbrev s_paidw : Stmt := top 24
abbrev s_meansby : Stmt := top 32
abbrev s_allpaid : Stmt := top 31
abbrev s_needp : Stmt := top 30
abbrev s_felled : Stmt := top 36
abbrev s_needs : Stmt := top 37
abbrev s_merged : Stmt := top 40
abbrev s_stilled : Stmt := top 44
abbrev s_ask : Stmt := top 48
abbrev s_kind : Stmt := top 49
abbrev s_law : Stmt := top 50


end Rf
namespace Rf
open PySem PySem.Spec PyProof.Rows L2
/-! ### rules that the modules lack -/
section
variable {X : Cx}
theorem get_list : PGet X (rIxL X.K) := by
  intro pins s σ H o i ov iv Q I ro ri h
  obtain ⟨p, xs, k, z, rfl, rfl, hq, he, q⟩ := h
  cases ro
  obtain ⟨t, rfl⟩ := ri
  obtain ⟨its, r, pl, hz⟩ := I.list hq
  obtain ⟨j, h1, h2, h3, h4, h5⟩ := atI_get he
  obtain ⟨w, ew, rw'⟩ := r.get h2
  have hl := r.length
  have hn := line63
  have fin : EP X pins σ Q w s := ⟨z, H, I, rw', q⟩
  by_cases h0 : 0 ≤ k
  · have hj : k.toNat = j := by
      rw [seqIndex_of h0 h5] at h1
      exact Option.some.inj h1
    exact wpAny_getItem_list pl.isList h0 (by omega) (by rw [hj]; simpa using ew) fin
  · have hj : (k + (its.toArray.size : Int)).toNat = j := by
      rw [seqIndex_neg (by omega) h4] at h1
      rw [List.size_toArray, ← hl]
      exact Option.some.inj h1
    exact wpAny_getItem_list_neg pl.isList (by omega) (by rw [List.size_toArray] <;> omega) (by omega) (by rw [hj]; simpa using ew) fin
end
theorem dec_t {p : Prop} [Decidable p] (h : p) : V.bl (decide p) = V.bl true := congrArg V.bl (decide_eq_true h)
theorem dec_f {p : Prop} [Decidable p] (h : ¬ p) : V.bl (decide p) = V.bl false := congrArg V.bl (decide_eq_false h)
theorem dec_vint {i j : Int} : decide (V.int i = V.int j) = decide (i = j) := by
  rw [dec_int]
  by_cases h : i = j
  · rw [h]; simp
  · simp [h]
/-- len, list, tuple by values -/
def rLen (K : PySem.W.Frag) : List V → Hp → VK → Prop := fun xs H Q => ∃ p ys, xs = [.ref p] ∧ (SqL K H p ys ∨ SqT K H p ys) ∧ Q (.int ys.length) H
def rListOf (K : PySem.W.Frag) : List V → Hp → VK → Prop := fun xs H Q => ∃ p ys, xs = [.ref p] ∧ (SqL K H p ys ∨ SqT K H p ys) ∧ ∀ l, H l = none → Q (.ref l) (upd H l (.lst ys))
def rTupleOf (K : PySem.W.Frag) : List V → Hp → VK → Prop := fun xs H Q => ∃ p ys, xs = [.ref p] ∧ ((SqL K H p ys ∧ ∀ l, H l = none → Q (.ref l) (upd H l (.tup ys))) ∨ (SqT K H p ys ∧ Q (.ref p) H))
theorem call_len {X : Cx} : CallR X (.builtin "len") (rLen X.K) := call_len_seq
theorem call_listOf {X : Cx} : CallR X (.type "list") (rListOf X.K) := call_list_of
theorem call_tupleOf {X : Cx} : CallR X (.type "tuple") (rTupleOf X.K) := call_tuple_of
/-- a def of the top, as the walk asks for it -/
structure DefAt (K : PySem.W.Frag) (mg : Str → Option Value) (x : Str) (st : Stmt) (ps : List Str) (f : Addr) (fd : FuncData) : Prop where
  F : Fun K x x st f fd
  b : Binds K fd ps []
  g : mg x = some (.ref f)
theorem atI_g {l : List Int} {i : Int} {j : Nat} (e : i = (j : Int)) (h : j < l.length) : atI (l.map V.int) i = some (.int (g l j)) := by
  rw [e]
  apply atI_nat
  rw [List.getElem?_map, g_get h]
  rfl
theorem ixN_nat {n j : Nat} {i : Int} (e : i = (j : Int)) (h : j < n) : ixN n i = some j := by
  unfold ixN
  rw [if_pos (by omega), if_pos (by omega)]
  rw [e]
  rfl
theorem map_set {l : List Int} {j : Nat} {y : Int} : (l.map V.int).set j (.int y) = (l.set j y).map V.int := by
  rw [List.map_set]
/-- all that was tracked but at S stands -/
def Off (S : Addr → Prop) (H H' : Hp) : Prop := ∀ b o, H b = some o → ¬ S b → H' b = some o
theorem Off.refl {S : Addr → Prop} {H : Hp} : Off S H H := fun _ _ h _ => h
theorem Off.trans {S : Addr → Prop} {H H1 H2 : Hp} (a : Off S H H1) (b : Off S H1 H2) : Off S H H2 := fun x o h n => b x o (a x o h n) n
theorem Off.same {S : Addr → Prop} {H H1 : Hp} (a : Same H H1) : Off S H H1 := fun x o h _ => a x o h
theorem Same.off {S : Addr → Prop} {H H1 : Hp} (a : Same H H1) : Off S H H1 := fun x o h _ => a x o h
theorem Same.new {H : Hp} {p : Addr} {o : HO} (h : H p = none) : Same H (upd H p o) := fun b x e => by
  rw [upd_ne (ne_of_none e h)]
  exact e
theorem Same.mut {H H' : Hp} {p : Addr} {o : HO} (e : Same H H') (h : H p = none) : Same H (upd H' p o) := fun a u ha => by
  rw [upd_ne (ne_of_none ha h)]
  exact e a u ha
theorem sq_of {K : PySem.W.Frag} {H : Hp} {a : Addr} {xs : List V} (h : H a = some (.lst xs)) : SqL K H a xs := .inl (.inl h)
theorem st_of {K : PySem.W.Frag} {H : Hp} {a : Addr} {xs : List V} (h : H a = some (.tup xs)) : SqT K H a xs := .inl (.inl h)
theorem sz_of {n : Nat} (h : n ≤ 100000) : n ≤ sizeLine := Nat.le_trans h (by decide)
theorem sz_lt {n : Nat} (h : n < 100000) : n < sizeLine := Nat.lt_of_lt_of_le h (by decide)
/-! ### statements, one by one: what a part gives, then what follows -/
section
variable {te : TE} {g : TG} {t u tz : TS} {c : TT} {D : Ends} {σ : L2.St} {H : Hp} {i : Nat}
/-- name = e; what e leaves: R -/
theorem sq_set (R : V → Hp → Prop) (h : ∀ Q : VK, (∀ v H', R v H' → Q v H') → te σ H Q) (k : ∀ v H', R v H' → tz D (σ.set i (some v)) H') : tSeq (tAsg te (gName i)) tz D σ H := h _ k
/-- name = e, a value -/
theorem sq_val (v : V) (h : ∀ Q : VK, Q v H → te σ H Q) (k : tz D (σ.set i (some v)) H) : tSeq (tAsg te (gName i)) tz D σ H := h _ k
/-- name = e, an object -/
theorem sq_new (o : HO) (h : ∀ Q : VK, (∀ p H', H p = none → Same H H' → H' p = some o → Q (.ref p) H') → te σ H Q) (k : ∀ p H', H p = none → Same H H' → H' p = some o → tz D (σ.set i (some (.ref p))) H') : tSeq (tAsg te (gName i)) tz D σ H := h _ k
theorem sq_asg (R : V → Hp → Prop) (h : ∀ Q : VK, (∀ v H', R v H' → Q v H') → te σ H Q) (k : ∀ v H', R v H' → g v σ H' (tz D)) : tSeq (tAsg te g) tz D σ H := h _ k
/-- if c: .. else ..; c's answer is b -/
theorem sq_if (R : Bool → Hp → Prop) (h : ∀ Q : Bool → Hp → Prop, (∀ b H', R b H' → Q b H') → c σ H Q) (k1 : ∀ H', R true H' → t { D with nx := tz D } σ H') (k2 : ∀ H', R false H' → u { D with nx := tz D } σ H') : tSeq (tIfS c t u) tz D σ H := by
  refine h _ fun b H' r => ?_
  cases b with
  | true => exact iteT (k1 H' r)
  | false => exact iteF (k2 H' r)
theorem sq_ifP {p : Prop} [Decidable p] (h : ∀ Q : Bool → Hp → Prop, Q (decide p) H → c σ H Q) (k1 : p → t { D with nx := tz D } σ H) (k2 : ¬ p → u { D with nx := tz D } σ H) : tSeq (tIfS c t u) tz D σ H := by
  refine h _ ?_
  by_cases e : p
  · rw [decide_eq_true e]
    exact iteT (k1 e)
  · rw [decide_eq_false e]
    exact iteF (k2 e)
/-- if c: .. (no else) -/
theorem sq_whenP {p : Prop} [Decidable p] (h : ∀ Q : Bool → Hp → Prop, Q (decide p) H → c σ H Q) (k1 : p → t { D with nx := tz D } σ H) (k2 : ¬ p → tz D σ H) : tSeq (tIfS c t tNext) tz D σ H := sq_ifP h k1 k2
theorem if_ifP {p : Prop} [Decidable p] (h : ∀ Q : Bool → Hp → Prop, Q (decide p) H → c σ H Q) (k1 : p → t D σ H) (k2 : ¬ p → u D σ H) : tIfS c t u D σ H := by
  refine h _ ?_
  by_cases e : p
  · rw [decide_eq_true e]
    exact iteT (k1 e)
  · rw [decide_eq_false e]
    exact iteF (k2 e)
/-- any statement, then the rest -/
theorem sq_seq (h : t { D with nx := tz D } σ H) : tSeq t tz D σ H := h
theorem sq_nx (h : D.nx σ H) : tNext D σ H := h
end
section
variable {te : TE} {t tz : TS} {c : TT} {D : Ends} {σ : L2.St} {H : Hp}
/-- if c: .. (no else), where c is False; what it leaves: R -/
theorem sq_no (R : Hp → Prop) (h : ∀ Q : Bool → Hp → Prop, (∀ H', R H' → Q false H') → c σ H Q) (k : ∀ H', R H' → tz D σ H') : tSeq (tIfS c t tNext) tz D σ H := h _ fun H' r => iteF (k H' r)
/-- e alone -/
theorem sq_drop (R : Hp → Prop) (h : ∀ Q : VK, (∀ v H', R H' → Q v H') → te σ H Q) (k : ∀ H', R H' → tz D σ H') : tSeq (tDrop te) tz D σ H := h _ fun _ H' r => k H' r
/-- a statement, then the rest, with a word between them -/
theorem sq_cut (M : L2.St → Hp → Prop) (h : t { D with nx := M } σ H) (k : ∀ σ' H', M σ' H' → tz D σ' H') : Evl.tCut t tz D σ H := ⟨M, h, k⟩
end


end Rf
namespace Rf
open PySem PySem.Spec PyProof.Rows L2
/-! ### loops, one by one -/
section
variable {K : PySem.W.Frag} {tl : TE} {ta : TA} {g : TG} {tu tz : TS} {D : Ends} {σ : L2.St} {H : Hp} {j : Nat}
/-- for i in range(n) -/
theorem sq_forR (n : Int) (h : ∀ Q : List V → Hp → Prop, Q [.int n] H → ta σ H Q) (hn : -(2 ^ 62) ≤ n ∧ n < 2 ^ 62) (Pv : Nat → L2.St → Hp → Prop) (h0 : Pv 0 σ H)
    (hs : ∀ (i : Nat) σ' H', (i : Int) < n → Pv i σ' H' → tu { D with nx := Pv (i + 1), ct := Pv (i + 1), bk := tz D } (σ'.set j (some (.int (i : Int)))) H') (hd : ∀ σ' H', Pv n.toNat σ' H' → tz D σ' H') : tSeq (tFor (iRng1 ta) (gName j) tu) tz D σ H := by
  refine h _ ⟨n, rfl, hn.1, hn.2, for_range (lo := 0) (n := n.toNat) (D := { D with nx := tz D }) Pv h0 (fun i σ' H' hi p => ?_) hd⟩
  have e : (0 : Int) + (i : Int) = (i : Int) := Int.zero_add _
  have q := hs i σ' H' (by omega) p
  show tu _ (σ'.set j (some (.int (0 + (i : Int))))) H'
  rw [e]
  exact q
/-- the same, the bound's reckoning leaves R -/
theorem sq_forRx (R : Int → Hp → Prop) (h : ∀ Q : List V → Hp → Prop, (∀ n H1, R n H1 → Q [.int n] H1) → ta σ H Q) (hn : ∀ n H1, R n H1 → -(2 ^ 62) ≤ n ∧ n < 2 ^ 62) (Pv : Int → Nat → L2.St → Hp → Prop) (h0 : ∀ n H1, R n H1 → Pv n 0 σ H1)
    (hs : ∀ (n : Int) (i : Nat) σ' H', (i : Int) < n → Pv n i σ' H' → tu { D with nx := Pv n (i + 1), ct := Pv n (i + 1), bk := tz D } (σ'.set j (some (.int (i : Int)))) H') (hd : ∀ (n : Int) σ' H', Pv n n.toNat σ' H' → tz D σ' H') : tSeq (tFor (iRng1 ta) (gName j) tu) tz D σ H := by
  refine h _ fun n H1 r => ⟨n, rfl, (hn n H1 r).1, (hn n H1 r).2, for_range (lo := 0) (n := n.toNat) (D := { D with nx := tz D }) (Pv n) (h0 n H1 r) (fun i σ' H' hi p => ?_) (hd n)⟩
  have e : (0 : Int) + (i : Int) = (i : Int) := Int.zero_add _
  have q := hs n i σ' H' (by omega) p
  show tu _ (σ'.set j (some (.int (0 + (i : Int))))) H'
  rw [e]
  exact q
/-- for i in range(lo, hi) -/
theorem sq_forR2 (lo n : Int) (h : ∀ Q : List V → Hp → Prop, Q [.int lo, .int n] H → ta σ H Q) (hl : -(2 ^ 62) ≤ lo ∧ lo < 2 ^ 62) (hn : -(2 ^ 62) ≤ n ∧ n < 2 ^ 62) (Pv : Nat → L2.St → Hp → Prop) (h0 : Pv 0 σ H)
    (hs : ∀ (i : Nat) σ' H', lo + (i : Int) < n → Pv i σ' H' → tu { D with nx := Pv (i + 1), ct := Pv (i + 1), bk := tz D } (σ'.set j (some (.int (lo + (i : Int))))) H') (hd : ∀ σ' H', Pv (n - lo).toNat σ' H' → tz D σ' H') : tSeq (tFor (iRng2 ta) (gName j) tu) tz D σ H :=
  h _ ⟨lo, n, rfl, ⟨hl.1, hl.2, hn.1, hn.2⟩, for_range (lo := lo) (n := (n - lo).toNat) (D := { D with nx := tz D }) Pv h0 (fun i σ' H' hi p => hs i σ' H' (by omega) p) hd⟩
/-- for x in a list -/
theorem sq_forL {a : Addr} {xs : List V} (h : ∀ Q : VK, Q (.ref a) H → tl σ H Q) (hx : SqL K H a xs) (Pv : Nat → L2.St → Hp → Prop) (h0 : Pv 0 σ H) (hl : ∀ i σ' H', i ≤ xs.length → Pv i σ' H' → SqL K H' a xs)
    (hs : ∀ i x σ' H', xs[i]? = some x → Pv i σ' H' → g x σ' H' fun σ2 H2 => tu { D with nx := Pv (i + 1), ct := Pv (i + 1), bk := tz D } σ2 H2) (hd : ∀ σ' H', Pv xs.length σ' H' → tz D σ' H') : tSeq (tFor (iList K tl) g tu) tz D σ H :=
  h _ ⟨a, rfl, ⟨xs, hx⟩, for_list (D := { D with nx := tz D }) Pv h0 hl hs hd⟩
/-- for x in a tuple -/
theorem sq_forT {a : Addr} {xs : List V} (h : ∀ Q : VK, Q (.ref a) H → tl σ H Q) (hx : SqT K H a xs) (Pv : Nat → L2.St → Hp → Prop) (h0 : Pv 0 σ H) (hl : ∀ i σ' H', i ≤ xs.length → Pv i σ' H' → SqT K H' a xs)
    (hs : ∀ i x σ' H', xs[i]? = some x → Pv i σ' H' → g x σ' H' fun σ2 H2 => tu { D with nx := Pv (i + 1), ct := Pv (i + 1), bk := tz D } σ2 H2) (hd : ∀ σ' H', Pv xs.length σ' H' → tz D σ' H') : tSeq (tFor (iTup K tl) g tu) tz D σ H :=
  h _ ⟨a, rfl, ⟨xs, hx⟩, for_tup (D := { D with nx := tz D }) Pv h0 hl hs hd⟩
/-- for i, x in enumerate(a list) -/
theorem sq_forE {a : Addr} {xs : List V} (h : ∀ Q : List V → Hp → Prop, Q [.ref a] H → ta σ H Q) (hx : SqL K H a xs) (Pv : Nat → L2.St → Hp → Prop) (h0 : Pv 0 σ H) (hl : ∀ i σ' H', i ≤ xs.length → Pv i σ' H' → SqL K H' a xs)
    (hs : ∀ (i : Nat) (x : V) (T : Addr) σ' H', xs[i]? = some x → Pv i σ' H' → H' T = none → g (.ref T) σ' (upd H' T (.tup [.int (i : Int), x])) fun σ2 H2 => tu { D with nx := Pv (i + 1), ct := Pv (i + 1), bk := tz D } σ2 H2) (hd : ∀ σ' H', Pv xs.length σ' H' → tz D σ' H') : tSeq (tFor (iEnum K ta) g tu) tz D σ H := by
  refine h _ ⟨a, xs, rfl, hx, fun i m σ H => m = xs.length - i ∧ i ≤ xs.length ∧ Pv i σ H, ⟨xs.length, rfl, Nat.zero_le _, h0⟩, ?_⟩
  rintro i m σ H ⟨rfl, hi, p⟩
  have q := hl i σ H hi p
  by_cases hlt : i < xs.length
  · have hx : xs[i]? = some xs[i] := List.getElem?_eq_getElem hlt
    refine .inr ⟨⟨xs, _, q, hx⟩, Pv (i + 1), fun σ' H' p' => ⟨xs.length - (i + 1), by omega, rfl, hlt, p'⟩, fun v H' y => ?_⟩
    obtain ⟨T, x', rfl, hT, rfl, f1⟩ := y
    exact hs i x' T σ H (f1 xs q) p hT
  · have e : i = xs.length := by omega
    subst e
    exact .inl ⟨⟨xs, q, Nat.le_refl _⟩, hd σ H p⟩
/-- a for that is its block's last -/
theorem last_for {wi : TI} (h : tSeq (tFor wi g tu) tNext D σ H) : tFor wi g tu D σ H := h
end
/-- for x in a new list -/
theorem sq_forN {K : PySem.W.Frag} {tl : TE} {g : TG} {tu tz : TS} {D : Ends} {σ : L2.St} {H : Hp} {xs : List V} (h : ∀ Q : VK, (∀ p H', H p = none → Same H H' → H' p = some (.lst xs) → Q (.ref p) H') → tl σ H Q) (Pv : Addr → Nat → L2.St → Hp → Prop)
    (h0 : ∀ p H', H p = none → Same H H' → H' p = some (.lst xs) → Pv p 0 σ H') (hl : ∀ p i σ' H', i ≤ xs.length → Pv p i σ' H' → SqL K H' p xs)
    (hs : ∀ p i x σ' H', xs[i]? = some x → Pv p i σ' H' → g x σ' H' fun σ2 H2 => tu { D with nx := Pv p (i + 1), ct := Pv p (i + 1), bk := tz D } σ2 H2) (hd : ∀ p σ' H', Pv p xs.length σ' H' → tz D σ' H') : tSeq (tFor (iList K tl) g tu) tz D σ H :=
  h _ fun p H' np s hp => ⟨p, rfl, ⟨xs, sq_of hp⟩, for_list (D := { D with nx := tz D }) (Pv p) (h0 p H' np s hp) (hl p) (hs p) (hd p)⟩
/-- the slots, told anew (much quicker than a long row of stores) -/
theorem sq_norm {tz : TS} {D : Ends} {σ : L2.St} {H : Hp} (σ' : L2.St) (e : σ = σ') (h : tz D σ' H) : tz D σ H := e ▸ h


end Rf
namespace Rf
open PySem PySem.Spec PyProof.Rows L2
/-! ### enumerate(a tuple) -/
/-- the tuple at a, at each turn the next item in a new pair -/
def IteT (K : PySem.W.Frag) (a : Addr) : It where
  go := fun i H => ∃ (xs : List V) (x : V), SqT K H a xs ∧ xs[i]? = some x
  yld := fun i H v H' => ∃ T x, v = .ref T ∧ H T = none ∧ H' = upd H T (.tup [.int (i : Nat), x]) ∧ ∀ xs, SqT K H a xs → xs[i]? = some x
  stop := fun i H => ∃ xs : List V, SqT K H a xs ∧ xs.length ≤ i
theorem apart_types {h : Heap} {e a : Addr} {o u : Obj} (h1 : h.get? e = some o) (h2 : h.get? a = some u) (d : o.cls ≠ u.cls) : e ≠ a := fun z => by
  rw [z, h2] at h1
  exact d (congrArg Obj.cls (Option.some.inj h1).symm)
theorem turn_enumT {P : Program} {w : World} {K : PySem.W.Frag} {elts : List Expr} {kk : Nat} {tpos : Pos} (a e it : Addr) :
    Turn P w K (.Tuple elts kk tpos) (IteT K a) [e, it] e (fun i h => (∃ old, IsEnum h e it ((i : Nat) : Int) old) ∧ h.IsTupleIter it a i ∧ e ≠ it) where
  mem := List.mem_cons_self
  obj := fun i h st b hb => by
    obtain ⟨⟨old, he⟩, ⟨o, ho, hc, hd⟩, _⟩ := st
    rcases List.mem_cons.mp hb with z | z
    · subst z
      exact ⟨_, he, fun v q => nomatch q⟩
    · exact ⟨o, by rw [List.mem_singleton.mp z]; exact ho, fun v q => by rw [hd] at q; cases q⟩
  keep := fun i h h' st k => ⟨⟨st.1.choose, k e (by simp) _ st.1.choose_spec⟩, st.2.1.at fun o q => k it (by simp) o q, st.2.2⟩
  item := by
    intro X hP hw hK hc i pins s σ H E I hf st hg
    subst hP hw hK
    obtain ⟨⟨old, he⟩, hit, hne⟩ := st
    obtain ⟨xs, x, hq, hx⟩ := hg
    obtain ⟨its, rv, p, hz⟩ := I.tuple hq
    obtain ⟨u, hu, ru⟩ := rv.get hx
    have pt : s.heap.IsTuple a its.toArray := p
    have hel : e < s.heap.objs.size := Heap.lt_size he
    have hil : it < s.heap.objs.size := by obtain ⟨_, q, _⟩ := hit; exact Heap.lt_size q
    have hea : e ≠ a := by
      obtain ⟨o2, q2, c2, _⟩ := id pt
      exact apart_types he q2 (by rw [c2]; exact fun z => absurd (Value.type.inj z) (by decide))
    have hai : a ≠ it := by
      obtain ⟨o2, q2, c2, _⟩ := id pt
      obtain ⟨o3, q3, c3, _⟩ := id hit
      exact apart_types q2 q3 (by rw [c2, c3]; exact fun z => absurd (Value.type.inj z) (by decide))
    have hu2 : its.toArray[i]? = some u := by simpa using hu
    have hi : i < its.toArray.size := (Array.getElem?_eq_some_iff.mp hu2).1
    refine wpAny_pyNext_enum_itemD (Draws.tuple (A := X.A.in1) (I.ok.hd hc) it a hai its.toArray) he ⟨hit, pt⟩ hi hne (by simp [hne, hea]) fun y h' tk hy ho st' hT hsz hk => ?_
    obtain ⟨hit', _⟩ := st'
    have ey : y = u := Option.some.inj (hy.symm.trans hu2)
    subst ey
    refine ⟨_, rfl, wpAny_letOwnedTupleGo_enum (s := { s with heap := h', toks := tk + 1 }) ho fun h'' he' sb => ?_⟩
    have hT2 : h''.get? s.heap.objs.size = some { cls := .type "tuple", data := .seq #[.int i tk, y] } := (sb.2 _ (Nat.ne_of_gt hel)).trans hT
    have new : ObjOk X.prog X.w (upd H s.heap.objs.size (.tup [.int (i : Nat), x])) h'' s.heap.objs.size (.tup [.int (i : Nat), x]) := by
      refine ⟨by show 2 ≤ sizeLine; decide, [.int i tk, y], .cons ⟨_, rfl⟩ (.cons ru .nil), ⟨_, hT2, rfl, _, rfl⟩⟩
    have I1 : Inv X pins σ (upd H s.heap.objs.size (.tup [.int (i : Nat), x])) { s with heap := h'', toks := tk + 1 } := by
      refine I.turnedNew (ch := [e, it]) (fun b ob hb q => ?_) hf (Nat.le_refl _) new
      have n1 : b ≠ e := fun z => hb (by simp [z])
      have n2 : b ≠ it := fun z => hb (by simp [z])
      exact (sb.2 b n1).trans (hk b ob n1 n2 q)
    refine ⟨.ref s.heap.objs.size, _, I1, rfl, ⟨_, x, rfl, I.hok.fresh (Nat.le_refl _), rfl, fun ys hy => by rw [I.tuple_inj hy hq]; exact hx⟩, ⟨⟨y, ?_⟩, hit'.at fun o q => (sb.2 it (Ne.symm hne)).trans q, hne⟩, fun b hb => ?_⟩
    · have e1 : ((i + 1 : Nat) : Int) = (i : Int) + 1 := rfl
      rw [e1]
      exact he'
    · have hb' : b < s.heap.objs.size := by
        rcases List.mem_cons.mp hb with z | z
        · rw [z]; exact hel
        · rw [List.mem_singleton.mp z]; exact hil
      rw [upd_ne (Nat.ne_of_lt hb')]
      exact (hf b hb).1
  done := by
    intro X hP hw hK hc i pins s σ H E I hf st hg
    subst hP hw hK
    obtain ⟨⟨old, he⟩, hit, hne⟩ := st
    obtain ⟨xs, hq, hx⟩ := hg
    obtain ⟨its, rv, p, hz⟩ := I.tuple hq
    have pt : s.heap.IsTuple a its.toArray := p
    have hea : e ≠ a := by
      obtain ⟨o2, q2, c2, _⟩ := id pt
      exact apart_types he q2 (by rw [c2]; exact fun z => absurd (Value.type.inj z) (by decide))
    have hai : a ≠ it := by
      obtain ⟨o2, q2, c2, _⟩ := id pt
      obtain ⟨o3, q3, c3, _⟩ := id hit
      exact apart_types q2 q3 (by rw [c2, c3]; exact fun z => absurd (Value.type.inj z) (by decide))
    have hl := rv.length
    obtain ⟨f0, f1, f2, f3, f4, f5⟩ := hf it (by simp)
    have hT : s.TypeIs (.ref e) "enumerate" := ⟨_, he, rfl⟩
    unfold pyNext
    refine wpAny_bind (wpAny_attempt (wpAny_callSpecial?_slot (name := Str.ofString "__next__") hT F.slot_enumerate_next (wpAny_call_entry F.slot_enumerate_next hT F.entry_enumerate_next ?_ (F.args_enumerate_next_1 _))))
    show wpAny _ _ (field (.ref e) 2 >>= _) _ _ _
    refine wpAny_bind (wpAny_field he rfl (x := .ref it) rfl ?_)
    refine wpAny_bind (wpAny_nextOf_tuple_end (I.ok.hd hc) hit pt (by rw [Array.getElem?_eq_none]; simp; omega) fun h' x he' hx' => ?_)
    obtain ⟨o, ho, hc2⟩ := hx'
    refine wpAny_bind (wpAny_isInstance (T := "StopIteration") (b := true) ⟨o, ho, hc2⟩ isSubtype_stop ?_)
    exact wpAny_pure ⟨rfl, I.turned (t' := s.toks) (fun b o hb e => he' b o hb e) f0 f1 f3 f4 f5⟩
  self := fun A i s Q E st h => wpAny_pyIter_enum st.1.choose_spec h
set_option maxHeartbeats 1000000 in
theorem meets_enum1 {v : Value} {o : Obj} {H : Heap → Prop} (B : Begins v o H) : Meets (Builtin.«enumerate.__new__» ⟨[.type "enumerate", v], []⟩) (fun _ R s => H s.heap ∧ R (.ok (.ret (.ref (s.heap.push o).objs.size))) { s with heap := (s.heap.push o).push { cls := .type "enumerate", data := .fields #[.none, .bool false, .ref s.heap.objs.size, rawInt 0, .none, .none] } }) :=
  .of_wp fun prog w A R s h => by
    obtain ⟨hp, gn, d, tk, os⟩ := s
    obtain ⟨h1, h⟩ := h
    have hsub := sub_enumerate
    have go : ∀ {A' : Around} {E : Value → Shared → Prop} {Q : Value → Shared → Prop}, Q (.ref hp.objs.size) ⟨hp.push o, gn, d, tk, os⟩ → wpAny (model prog w) A' (pyIter v) Q E ⟨hp, gn, d, tk, os⟩ := fun q => B.iter prog w _ _ ⟨hp, gn, d, tk, os⟩ _ h1 q
    wp_walk using go
    refine wpAny_stack_any fun st => wpAny_pure ?_
    split
    · rename_i c _ _ _ _ _
      cases (c == Value.type "enumerate") <;> (wp_walk using go; exact ⟨_, rfl, h⟩)
    · wp_walk using go
      exact ⟨_, rfl, h⟩
theorem enum_one {prog : Program} {w : World} {A : Around} {E : Value → Shared → Prop} {s : Shared} {v : Value} {o : Obj} {H : Heap → Prop} {Q : Value → Shared → Prop} (B : Begins v o H) (h1 : H s.heap)
    (h : ∀ h', IsEnum h' (s.heap.objs.size + 1) s.heap.objs.size 0 .none → h'.get? s.heap.objs.size = some o → h'.objs.size = s.heap.objs.size + 2 → (∀ b u, s.heap.get? b = some u → h'.get? b = some u) → Q (.ref (s.heap.objs.size + 1)) { s with heap := h' }) :
    wpAny (model prog w) A (call (.type "enumerate") [v]) Q E s := by
  refine callType_new F.called_enumerate (by decide) (F.typeCall_enumerate_1 _) (F.newCall_enumerate_1 _) (fun obj => F.args_object_init_2 obj _) F.entry_enumerate_new (meets_enum1 B) ⟨h1, ?_⟩
  have hz : (s.heap.push o).objs.size = s.heap.objs.size + 1 := Heap.size_push ..
  have he := Heap.get?_push_size (s.heap.push o) (o := { cls := .type "enumerate", data := .fields #[.none, .bool false, .ref s.heap.objs.size, rawInt 0, .none, .none] }) rfl
  show _ ∧ _
  rw [hz] at he ⊢
  exact ⟨⟨_, he, rfl⟩, h _ he (Heap.get?_push_of_some _ (Heap.get?_push_size _ B.free)) (by rw [Heap.size_push, hz]) fun b u x => Heap.get?_push_of_some _ (Heap.get?_push_of_some _ x)⟩
def iEnumT (K : PySem.W.Frag) (ta : TA) : TI := fun σ H R => ta σ H fun vs H1 => ∃ a xs, vs = [.ref a] ∧ SqT K H1 a xs ∧ R (IteT K a) H1
theorem pi_enumT {X : Cx} {e : Expr} {ta : TA} {p pos tpos : Pos} {elts : List Expr} {kk : Nat} (hg : Gl X "enumerate") (hm : X.mg "enumerate" = none) (ha : PA X [e] ta) (hs : starEach [e] X.env = [(false, eval e X.env)] := by rfl) :
    PI X (.Tuple elts kk tpos) (.Call (.Name "enumerate" p) [e] [] pos) (iEnumT X.K ta) := by
  refine ⟨fun pins s σ H R I h => ?_⟩
  refine Call_ (ld_blt I hg hm boot_enumerate (PyProof.Rows.callWith_type1 (thn (ha.run pos pins s σ H _ I h) fun us s1 ⟨vs, H1, I1, r1, q1⟩ => ?_) hs rfl))
  obtain ⟨a, xs, ex, hq, q⟩ := q1
  subst ex
  cases r1 with
  | cons r rr =>
    cases rr
    cases r
    obtain ⟨its, rv, pt, hz⟩ := I1.tuple hq
    refine enum_one (begins_tuple a its.toArray) pt fun h' he hit hsz hk => wpAny_pyIter_enum he ?_
    have I2 : Inv X pins σ H1 { s1 with heap := h' } := I1.kept (t' := s1.toks) hk
    refine ⟨s1.heap.objs.size + 1, [s1.heap.objs.size + 1, s1.heap.objs.size], _, _, H1, rfl, I2, turn_enumT a (s1.heap.objs.size + 1) s1.heap.objs.size, ⟨⟨.none, he⟩, ⟨_, hit, rfl, rfl⟩, Nat.succ_ne_self _⟩, fun b hb => ?_, q⟩
    have hle : s1.heap.objs.size ≤ b := by
      rcases List.mem_cons.mp hb with z | z
      · rw [z]; exact Nat.le_add_right _ _
      · rw [List.mem_singleton.mp z]; exact Nat.le_refl _
    exact I1.fpOk hle (I1.hok.fresh hle)
section
variable {K : PySem.W.Frag} {ta : TA} {g : TG} {tu tz : TS} {D : Ends} {σ : L2.St} {H : Hp}
/-- for i, x in enumerate(a tuple) -/
theorem sq_forET {a : Addr} {xs : List V} (h : ∀ Q : List V → Hp → Prop, Q [.ref a] H → ta σ H Q) (hx : SqT K H a xs) (Pv : Nat → L2.St → Hp → Prop) (h0 : Pv 0 σ H) (hl : ∀ i σ' H', i ≤ xs.length → Pv i σ' H' → SqT K H' a xs)
    (hs : ∀ (i : Nat) (x : V) (T : Addr) σ' H', xs[i]? = some x → Pv i σ' H' → H' T = none → g (.ref T) σ' (upd H' T (.tup [.int (i : Int), x])) fun σ2 H2 => tu { D with nx := Pv (i + 1), ct := Pv (i + 1), bk := tz D } σ2 H2) (hd : ∀ σ' H', Pv xs.length σ' H' → tz D σ' H') : tSeq (tFor (iEnumT K ta) g tu) tz D σ H := by
  refine h _ ⟨a, xs, rfl, hx, fun i m σ H => m = xs.length - i ∧ i ≤ xs.length ∧ Pv i σ H, ⟨xs.length, rfl, Nat.zero_le _, h0⟩, ?_⟩
  rintro i m σ H ⟨rfl, hi, p⟩
  have q := hl i σ H hi p
  by_cases hlt : i < xs.length
  · have hx : xs[i]? = some xs[i] := List.getElem?_eq_getElem hlt
    refine .inr ⟨⟨xs, _, q, hx⟩, Pv (i + 1), fun σ' H' p' => ⟨xs.length - (i + 1), by omega, rfl, hlt, p'⟩, fun v H' y => ?_⟩
    obtain ⟨T, x', rfl, hT, rfl, f1⟩ := y
    exact hs i x' T σ H (f1 xs q) p hT
  · have e : i = xs.length := by omega
    subst e
    exact .inl ⟨⟨xs, q, Nat.le_refl _⟩, hd σ H p⟩
end


end Rf
namespace Rf
open PySem PySem.Spec PyProof.Rows L2
/-! ### zip(a tuple, a list) -/
/-- at each turn a new pair of the tuple's item and the list's -/
def ItTL (K : PySem.W.Frag) (ta la : Addr) : It where
  go := fun n H => ∃ (us ws : List V) (u w : V), SqT K H ta us ∧ SqL K H la ws ∧ us[n]? = some u ∧ ws[n]? = some w
  yld := fun n H v H' => ∃ C u w, v = .ref C ∧ H C = none ∧ H' = upd H C (.tup [u, w]) ∧ (∀ us, SqT K H ta us → us[n]? = some u) ∧ ∀ ws, SqL K H la ws → ws[n]? = some w
  stop := fun n H => ∃ us ws : List V, SqT K H ta us ∧ SqL K H la ws ∧ n ≤ us.length ∧ n ≤ ws.length ∧ (n = us.length ∨ n = ws.length)
theorem turn_TL {P : Program} {w : World} {K : PySem.W.Frag} {es : List Expr} {nn : Nat} {tp : Pos} {ta la zz tc to j1 j2 : Addr} (S : ZipSep2 zz tc to j1 j2 [j1, ta] [j2, la]) :
    Turn P w K (.Tuple es nn tp) (ItTL K ta la) [zz, tc, to, j1, j2] zz (fun n h => IsZip h zz tc to .none ∧ IsTupOf2 h tc (.ref j1) (.ref j2) ∧ (∃ u w, IsTupOf2 h to u w) ∧ h.IsTupleIter j1 ta n ∧ h.IsListIter j2 la n) where
  mem := List.mem_cons_self
  obj := fun n h st b hb => by
    obtain ⟨q1, q2, ⟨u, w, q3⟩, ⟨o1, r1, _, r2⟩, ⟨o2, r3, _, r4⟩⟩ := st
    rcases List.mem_cons.mp hb with e | hb
    · subst e; exact ⟨_, q1, (fun v m => nomatch m)⟩
    rcases List.mem_cons.mp hb with e | hb
    · subst e; exact ⟨_, q2, (fun v m => nomatch m)⟩
    rcases List.mem_cons.mp hb with e | hb
    · subst e; exact ⟨_, q3, (fun v m => nomatch m)⟩
    rcases List.mem_cons.mp hb with e | hb
    · subst e; exact ⟨o1, r1, fun v m => by rw [r2] at m; cases m⟩
    · rw [List.mem_singleton.mp hb]; exact ⟨o2, r3, fun v m => by rw [r4] at m; cases m⟩
  keep := fun n h h' st kp => ⟨kp zz (by simp) _ st.1, kp tc (by simp) _ st.2.1, let ⟨u, w, e⟩ := st.2.2.1; ⟨u, w, kp to (by simp) _ e⟩, st.2.2.2.1.at fun o e => kp j1 (by simp) o e, st.2.2.2.2.at fun o e => kp j2 (by simp) o e⟩
  item := by
    intro X hP hw hK hc n pins s σ H E I hf st hgo
    subst hP hw hK
    obtain ⟨q1, q2, ⟨u0, w0, q3⟩, q4, q5⟩ := st
    obtain ⟨us, ws, u, w, hu, hw, eu, ew⟩ := hgo
    obtain ⟨vs1, R1, p1, _⟩ := I.tuple hu
    obtain ⟨vs2, R2, p2, _⟩ := I.list hw
    obtain ⟨v1, ev1, rv1⟩ := R1.get eu
    obtain ⟨v2, ev2, rv2⟩ := R2.get ew
    have ev1' : vs1.toArray[n]? = some v1 := by simpa using ev1
    have ev2' : vs2.toArray[n]? = some v2 := by simpa using ev2
    have b1 : n < vs1.toArray.size := (Array.getElem?_eq_some_iff.mp ev1').1
    have b2 : n < vs2.toArray.size := (Array.getElem?_eq_some_iff.mp ev2').1
    have pt : s.heap.IsTuple ta vs1.toArray := p1
    have m1 : ta ≠ j1 := by
      obtain ⟨o2, e2, c2, _⟩ := id pt
      obtain ⟨o3, e3, c3, _⟩ := id q4
      exact apart_types e2 e3 (by rw [c2, c3]; exact fun z => absurd (Value.type.inj z) (by decide))
    have m2 : la ≠ j2 := by
      obtain ⟨o2, e2, c2, _⟩ := id p2.isList
      obtain ⟨o3, e3, c3, _⟩ := id q5
      exact apart_types e2 e3 (by rw [c2, c3]; exact fun z => absurd (Value.type.inj z) (by decide))
    have D1 := Draws.tuple (prog := X.prog) (w := X.w) (A := X.A.in1) (I.ok.hd hc) j1 ta m1 vs1.toArray
    have D2 := Draws.list (prog := X.prog) (w := X.w) (A := X.A.in1) (I.ok.hd hc) j2 la m2 vs2.toArray
    have zl : zz < s.heap.objs.size := Heap.lt_size q1
    refine wpAny_pyNext_zipD2_item S D1 D2 q1 q2 q3 ⟨q4, pt⟩ ⟨q5, p2.isList⟩ b1 b2 fun x1 x2 g tk e1 e2 f1 f2 st1 st2 hT gz kp => ?_
    have x1e : x1 = v1 := Option.some.inj (e1.symm.trans ev1')
    have x2e : x2 = v2 := Option.some.inj (e2.symm.trans ev2')
    subst x1e x2e
    refine ⟨_, rfl, wpAny_letOwnedTupleGo_zip (s := { s with heap := g, toks := tk }) f1 fun g2 f3 sb => ?_⟩
    have hT2 : g2.get? s.heap.objs.size = some { cls := .type "tuple", data := .seq #[x1, x2] } := (sb.2 _ (Nat.ne_of_gt zl)).trans hT
    have nw : ObjOk X.prog X.w (upd H s.heap.objs.size (.tup [u, w])) g2 s.heap.objs.size (.tup [u, w]) := by
      refine ⟨by show 2 ≤ sizeLine; decide, [x1, x2], .cons rv1 (.cons rv2 .nil), ⟨_, hT2, rfl, _, rfl⟩⟩
    have J : Inv X pins σ (upd H s.heap.objs.size (.tup [u, w])) { s with heap := g2, toks := tk } := by
      refine I.turnedNew (ch := [zz, tc, to, j1, j2]) (fun b ob hb e => ?_) hf (Nat.le_refl _) nw
      have n1 : b ≠ zz := fun z => hb (by simp [z])
      exact (sb.2 b n1).trans (kp b ob n1 (fun z => hb (by simp [z])) (fun z => hb (by simp [z])) (fun z => hb (by simp [z])) e)
    refine ⟨.ref s.heap.objs.size, _, J, rfl, ⟨_, u, w, rfl, I.hok.fresh (Nat.le_refl _), rfl, fun l hl => by rw [I.tuple_inj hl hu]; exact eu, fun l hl => by rw [I.list_inj hl hw]; exact ew⟩, ⟨f3, ?_, ⟨x1, x2, ?_⟩, ?_, ?_⟩, fun b hb => ?_⟩
    · exact (sb.2 _ S.TIz).trans (kp _ _ S.TIz S.TITO S.TIi1 S.TIi2 q2)
    · exact (sb.2 _ S.TOz).trans f2
    · exact st1.1.at fun o e => (sb.2 _ (Ne.symm S.zi1)).trans e
    · exact st2.1.at fun o e => (sb.2 _ (Ne.symm S.zi2)).trans e
    · have bl : b < s.heap.objs.size := by
        rcases List.mem_cons.mp hb with e | hb
        · rw [e]; exact zl
        rcases List.mem_cons.mp hb with e | hb
        · rw [e]; exact Heap.lt_size q2
        rcases List.mem_cons.mp hb with e | hb
        · rw [e]; exact Heap.lt_size q3
        rcases List.mem_cons.mp hb with e | hb
        · rw [e]; obtain ⟨_, r, _⟩ := q4; exact Heap.lt_size r
        · rw [List.mem_singleton.mp hb]; obtain ⟨_, r, _⟩ := q5; exact Heap.lt_size r
      rw [upd_ne (Nat.ne_of_lt bl)]
      exact (hf b hb).1
  done := by
    intro X hP hw hK hc n pins s σ H E I hf st hend
    subst hP hw hK
    obtain ⟨q1, q2, ⟨u0, w0, q3⟩, q4, q5⟩ := st
    obtain ⟨us, ws, hu, hw, g1, g2, he⟩ := hend
    obtain ⟨vs1, R1, p1, _⟩ := I.tuple hu
    obtain ⟨vs2, R2, p2, _⟩ := I.list hw
    have pt : s.heap.IsTuple ta vs1.toArray := p1
    have l1 : us.length = vs1.length := R1.length
    have l2 : ws.length = vs2.length := R2.length
    have m1 : ta ≠ j1 := by
      obtain ⟨o2, e2, c2, _⟩ := id pt
      obtain ⟨o3, e3, c3, _⟩ := id q4
      exact apart_types e2 e3 (by rw [c2, c3]; exact fun z => absurd (Value.type.inj z) (by decide))
    have m2 : la ≠ j2 := by
      obtain ⟨o2, e2, c2, _⟩ := id p2.isList
      obtain ⟨o3, e3, c3, _⟩ := id q5
      exact apart_types e2 e3 (by rw [c2, c3]; exact fun z => absurd (Value.type.inj z) (by decide))
    have D1 := Draws.tuple (prog := X.prog) (w := X.w) (A := X.A.in1) (I.ok.hd hc) j1 ta m1 vs1.toArray
    have D2 := Draws.list (prog := X.prog) (w := X.w) (A := X.A.in1) (I.ok.hd hc) j2 la m2 vs2.toArray
    have k1 : vs1.toArray.size = us.length := by rw [List.size_toArray, l1]
    have k2 : vs2.toArray.size = ws.length := by rw [List.size_toArray, l2]
    refine wpAny_pyNext_zipD2_end S D1 D2 q1 q2 q3 ⟨q4, pt⟩ ⟨q5, p2.isList⟩ (by rw [k1]; exact g1) (by rw [k2]; exact g2) (by rw [k1, k2]; exact he) fun g tk kp => ⟨rfl, ?_⟩
    exact I.turnedL (ch := [zz, tc, to, j1, j2]) (fun b o hb e => kp b o (fun z => hb (by simp [z])) (fun z => hb (by simp [z])) (fun z => hb (by simp [z])) (fun z => hb (by simp [z])) e) hf
  self := fun A n s Q E st h => wpAny_pyIter_zip st.1 h

theorem new_ne {n a i : Nat} (h : a < n) : n + i ≠ a := fun z => by rw [← z] at h; exact absurd h (Nat.not_lt.mpr (Nat.le_add_right _ _))
theorem add_ne {n i j : Nat} (h : i ≠ j) : n + i ≠ n + j := fun z => h (Nat.add_left_cancel z)
theorem not_two {x a b : Addr} (h1 : x ≠ a) (h2 : x ≠ b) : x ∉ [a, b] := fun z => by
  rcases List.mem_cons.mp z with e | e
  · exact h1 e
  · exact h2 (List.mem_singleton.mp e)
theorem zs_new {n a b : Nat} (ha : a < n) (hb : b < n) : ZipSep2 (n + 4) (n + 2) (n + 3) n (n + 1) [n, a] [n + 1, b] where
  TIz := add_ne (by decide)
  TOz := add_ne (by decide)
  TITO := add_ne (by decide)
  TIi1 := add_ne (j := 0) (by decide)
  mem1 := List.mem_cons_self
  zf1 := not_two (add_ne (j := 0) (by decide)) (new_ne ha)
  Tf1 := not_two (add_ne (j := 0) (by decide)) (new_ne ha)
  TIi2 := add_ne (by decide)
  mem2 := List.mem_cons_self
  zf2 := not_two (add_ne (by decide)) (new_ne hb)
  Tf2 := not_two (add_ne (by decide)) (new_ne hb)
  sep1_2 := not_two (add_ne (i := 0) (by decide)) (new_ne (i := 0) hb)
  sep2_1 := not_two (add_ne (j := 0) (by decide)) (new_ne ha)
theorem new_le {n c : Nat} (h : c ∈ [n + 4, n + 2, n + 3, n, n + 1]) : n ≤ c := by
  simp only [List.mem_cons, List.not_mem_nil, or_false] at h
  omega
def iTL (K : PySem.W.Frag) (ta : TA) : TI := fun σ H R => ta σ H fun vs H1 => ∃ p q us ws, vs = [.ref p, .ref q] ∧ SqT K H1 p us ∧ SqL K H1 q ws ∧ R (ItTL K p q) H1
theorem pi_zipTL {X : Cx} {e1 e2 : Expr} {ta : TA} {p pos tp : Pos} {es : List Expr} {nn : Nat} (hg : Gl X "zip") (hm : X.mg "zip" = none) (ha : PA X [e1, e2] ta)
    (hs : starEach [e1, e2] X.env = (false, eval e1 X.env) :: starEach [e2] X.env := by rfl) (hb : (backTo pos (starEach [e2] X.env)).any (·.1) = false := by rfl) :
    PI X (.Tuple es nn tp) (.Call (.Name "zip" p) [e1, e2] [] pos) (iTL X.K ta) := by
  refine ⟨fun pins s σ H R I h => ?_⟩
  refine Call_ (ld_blt I hg hm PyProof.Rows.boot_zip (PyProof.Rows.callWith_type1 (thn (ha.run pos pins s σ H _ I h) fun us0 s1 ⟨vs, H1, J, rr, q1⟩ => ?_) hs hb))
  obtain ⟨a, b, us, ws, ex, hu, hw, q⟩ := q1
  subst ex
  cases rr with
  | cons r1 rr =>
    cases rr with
    | cons r2 rr =>
      cases rr
      cases r1
      cases r2
      obtain ⟨vs1, R1, p1, _⟩ := J.tuple hu
      obtain ⟨vs2, R2, p2, _⟩ := J.list hw
      have pt : s1.heap.IsTuple a vs1.toArray := p1
      have al : a < s1.heap.objs.size := by obtain ⟨_, e, _⟩ := pt; exact Heap.lt_size e
      have bl : b < s1.heap.objs.size := by obtain ⟨_, e, _⟩ := p2.isList; exact Heap.lt_size e
      refine zip_begins2 (begins_tuple a vs1.toArray) (begins_list b vs2.toArray) pt p2.isList fun g f1 f2 f3 f4 f5 gz kp => wpAny_pyIter_zip f1 ?_
      have J2 : Inv X pins σ H1 { s1 with heap := g } := J.kept (t' := s1.toks) kp
      have S : ZipSep2 (s1.heap.objs.size + 4) (s1.heap.objs.size + 2) (s1.heap.objs.size + 3) s1.heap.objs.size (s1.heap.objs.size + 1) [s1.heap.objs.size, a] [s1.heap.objs.size + 1, b] := by
        exact zs_new al bl
      refine ⟨s1.heap.objs.size + 4, [s1.heap.objs.size + 4, s1.heap.objs.size + 2, s1.heap.objs.size + 3, s1.heap.objs.size, s1.heap.objs.size + 1], _, _, H1, rfl, J2, turn_TL S, ⟨f1, f2, ⟨_, _, f3⟩, ⟨_, f4, rfl, rfl⟩, ⟨_, f5, rfl, rfl⟩⟩, fun c hcm => ?_, q⟩
      have hle : s1.heap.objs.size ≤ c := by
        exact new_le hcm
      exact J.fpOk hle (J.hok.fresh hle)
section
variable {K : PySem.W.Frag} {ta : TA} {g : TG} {tu tz : TS} {D : Ends} {σ : L2.St} {H : Hp}
/-- for x, y in zip(a tuple, a list), of one length -/
theorem sq_forTL {a b : Addr} {us ws : List V} (h : ∀ Q : List V → Hp → Prop, Q [.ref a, .ref b] H → ta σ H Q) (hu : SqT K H a us) (hw : SqL K H b ws) (hlen : us.length = ws.length) (Pv : Nat → L2.St → Hp → Prop) (h0 : Pv 0 σ H) (hl : ∀ i σ' H', i ≤ us.length → Pv i σ' H' → SqT K H' a us ∧ SqL K H' b ws)
    (hs : ∀ (i : Nat) (x y : V) (T : Addr) σ' H', us[i]? = some x → ws[i]? = some y → Pv i σ' H' → H' T = none → g (.ref T) σ' (upd H' T (.tup [x, y])) fun σ2 H2 => tu { D with nx := Pv (i + 1), ct := Pv (i + 1), bk := tz D } σ2 H2) (hd : ∀ σ' H', Pv us.length σ' H' → tz D σ' H') : tSeq (tFor (iTL K ta) g tu) tz D σ H := by
  refine h _ ⟨a, b, us, ws, rfl, hu, hw, fun i m σ H => m = us.length - i ∧ i ≤ us.length ∧ Pv i σ H, ⟨us.length, rfl, Nat.zero_le _, h0⟩, ?_⟩
  rintro i m σ H ⟨rfl, hi, p⟩
  obtain ⟨q1, q2⟩ := hl i σ H hi p
  by_cases hlt : i < us.length
  · have hx : us[i]? = some us[i] := List.getElem?_eq_getElem hlt
    have hlt2 : i < ws.length := by omega
    have hy : ws[i]? = some ws[i] := List.getElem?_eq_getElem hlt2
    refine .inr ⟨⟨us, ws, _, _, q1, q2, hx, hy⟩, Pv (i + 1), fun σ' H' p' => ⟨us.length - (i + 1), by omega, rfl, hlt, p'⟩, fun v H' y => ?_⟩
    obtain ⟨T, x', y', rfl, hT, rfl, f1, f2⟩ := y
    exact hs i x' y' T σ H (f1 us q1) (f2 ws q2) p hT
  · have e : i = us.length := by omega
    subst e
    exact .inl ⟨⟨us, ws, q1, q2, Nat.le_refl _, by omega, .inl rfl⟩, hd σ H p⟩
end


end Rf
namespace Rf
open PySem PySem.Spec PyProof.Rows L2
/-! ### list(zip(a list, a list)) -/
section
variable {prog : Program} {w : World} {A : Around} {E : Value → Shared → Prop} {s : Shared} {z tc to j1 j2 a : Addr} {fp1 fp2 : List Addr} {n1 n2 n : Nat} {P1 P2 : Nat → Value → Prop} {St1 St2 : Nat → Heap → Prop} {b1 b2 : Value}
abbrev ZOut (h : Heap) (z tc to a : Addr) (f : Bool) : Prop := h.get? z = some { cls := .type "zip", dict := none, data := .fields #[rawInt a, .bool f, .bool false, .ref tc, .ref to], slots := #[] }
theorem not_free {f : Bool} {oa : Obj} {Q : Bool → Shared → Prop} (hz : ZOut s.heap z tc to a f) (ha : s.heap.get? a = some oa)
    (hQ : ∀ g, ZOut g z tc to a true → Heap.SameBut z s.heap g → Q false { s with heap := g }) : wpAny (model prog w) A (Builtin.SmallTypes.ownedTupleIsFree (.ref z)) Q E s := by
  unfold Builtin.SmallTypes.ownedTupleIsFree
  refine wpAny_bind (wpAny_field hz rfl (x := rawInt a) rfl ?_)
  show wpAny _ _ (loadIfAlive (a : Int).toNat >>= _) _ _ _
  have ea : (a : Int).toNat = a := Int.toNat_natCast a
  rw [ea]
  refine wpAny_bind (PySem.W.kdx_alive ha ?_)
  rw [if_neg (show ¬ (some oa).isNone = true from Bool.false_ne_true)]
  refine wpAny_bind (wpAny_field hz rfl (x := .bool f) rfl ?_)
  cases f with
  | true =>
    rw [if_neg (by decide)]
    exact wpAny_pure (hQ s.heap hz ⟨rfl, fun _ _ => rfl⟩)
  | false =>
    rw [if_pos (by decide)]
    refine wpAny_bind (wpAny_setField_rec hz (by simp) fun g h1 h2 => ?_)
    exact wpAny_pure (hQ g h1 h2)
/-- one more pair, the one ahead still held -/
theorem zo_item {f : Bool} {oa : Obj} {Q : Value → Shared → Prop} (S : ZipSep2 z tc to j1 j2 fp1 fp2) (D1 : Draws prog w A j1 fp1 n1 P1 St1) (D2 : Draws prog w A j2 fp2 n2 P2 St2)
    (hz : ZOut s.heap z tc to a f) (ha : s.heap.get? a = some oa) (hI : IsTupOf2 s.heap tc (.ref j1) (.ref j2)) (t1 : St1 n s.heap) (t2 : St2 n s.heap) (l1 : n < n1) (l2 : n < n2)
    (hQ : ∀ v1 v2 g k, P1 n v1 → P2 n v2 → ZOut g z tc to a true → St1 (n + 1) g → St2 (n + 1) g → IsTupOf2 g s.heap.objs.size v1 v2 → g.objs.size = s.heap.objs.size + 1 → (∀ c o, c ≠ z → c ≠ j1 → c ≠ j2 → s.heap.get? c = some o → g.get? c = some o) → Q (.ref s.heap.objs.size) { s with heap := g, toks := k }) :
    wpAny (model prog w) A (Builtin.«zip.__next__» ⟨[.ref z], []⟩) (fun fin s' => ∃ v, fin = .done (.ret v) ∧ Q v s') E s := by
  obtain ⟨hp, gn, dr, tk0, os⟩ := s
  refine wpAny_bind (m := field (.ref z) 2) (wpAny_field hz rfl (x := .bool false) rfl ?_)
  refine wpAny_bind (m := field (.ref z) 3) (wpAny_field hz rfl (x := .ref tc) rfl ?_)
  refine wpAny_bind (wpAny_seqItems hI rfl ?_)
  refine wpAny_bind (m := Builtin.SmallTypes.ownedTupleIsFree (.ref z)) (not_free hz ha fun g0 h0 s0 => ?_)
  simp only [Bool.false_eq_true, if_false]
  refine wpAny_bind ?_
  rw [← Array.forIn_toList]
  simp only [List.forIn_cons, List.forIn_nil]
  refine wpAny_bind (wpAny_bind (wpAny_holding ?_))
  show wpAny _ _ (Builtin.SmallTypes.nextOf (.ref j1) >>= _) _ _ ⟨g0, gn, dr, tk0, os⟩
  have e0 : St1 n g0 := D1.over t1 s0 S.zf1
  refine wpAny_bind (D1.item n _ _ _ l1 e0 fun v1 g1 k1 p1 u1 s1 => wpAny_pure ?_)
  refine wpAny_pure ?_
  refine wpAny_bind (wpAny_bind (wpAny_holding ?_))
  show wpAny _ _ (Builtin.SmallTypes.nextOf (.ref j2) >>= _) _ _ ⟨g1, gn, dr, k1, os⟩
  have e1 : St2 n g1 := D2.over (D2.over t2 s0 S.zf2) s1 S.sep1_2
  refine wpAny_bind (D2.item n _ _ _ l2 e1 fun v2 g2 k2 p2 u2 s2 => wpAny_pure ?_)
  refine wpAny_pure (wpAny_pure ?_)
  have gz : g2.objs.size = hp.objs.size := by rw [s2.1, s1.1, s0.1]
  have kp : ∀ c o, c ≠ z → c ≠ j1 → c ≠ j2 → hp.get? c = some o → g2.get? c = some o := fun c o x1 x2 x3 e => s2.extBut _ _ x3 (s1.extBut _ _ x2 (s0.extBut _ _ x1 e))
  show wpAny _ _ (newTuple [v1, v2] >>= fun r => ret r) _ _ (⟨g2, gn, dr, k2, os⟩ : Shared)
  refine wpAny_bind (wpAny_newTuple (wpAny_pure ⟨_, rfl, ?_⟩))
  have up : ∀ c o, g2.get? c = some o → (g2.push { cls := .type "tuple", data := .seq #[v1, v2] }).get? c = some o := fun c o e => Heap.get?_push_of_some _ e
  have hT := Heap.get?_push_size g2 (o := { cls := .type "tuple", data := .seq #[v1, v2] }) rfl
  have hz2 := Heap.size_push g2 { cls := .type "tuple", data := .seq #[v1, v2] }
  rw [gz] at hT hz2
  have r := hQ v1 v2 (g2.push { cls := .type "tuple", data := .seq #[v1, v2] }) k2 p1 p2 (up _ _ (s2.extBut _ _ S.zi2 (s1.extBut _ _ S.zi1 h0))) (D1.frame _ _ _ (D1.over u1 s2 S.sep2_1) fun b _ o e => up b o e) (D2.frame _ _ _ u2 fun b _ o e => up b o e) hT hz2 (fun c o x1 x2 x3 e => up c o (kp c o x1 x2 x3 e))
  show Q (.ref g2.objs.size) _
  rw [gz]
  exact r
/-- the end, the last pair still held -/
theorem zo_end {f : Bool} {oa : Obj} {Q : Fin → Shared → Prop} (S : ZipSep2 z tc to j1 j2 fp1 fp2) (D1 : Draws prog w A j1 fp1 n1 P1 St1) (D2 : Draws prog w A j2 fp2 n1 P2 St2)
    (hz : ZOut s.heap z tc to a f) (ha : s.heap.get? a = some oa) (hI : IsTupOf2 s.heap tc (.ref j1) (.ref j2)) (t1 : St1 n1 s.heap)
    (hE : ∀ g e, (∀ c o, c ≠ z → c ≠ j1 → c ≠ j2 → s.heap.get? c = some o → g.get? c = some o) → (∃ o, g.get? e = some o ∧ o.cls = .type "StopIteration") → E (.ref e) { s with heap := g }) :
    wpAny (model prog w) A (Builtin.«zip.__next__» ⟨[.ref z], []⟩) Q E s := by
  obtain ⟨hp, gn, dr, tk0, os⟩ := s
  refine wpAny_bind (m := field (.ref z) 2) (wpAny_field hz rfl (x := .bool false) rfl ?_)
  refine wpAny_bind (m := field (.ref z) 3) (wpAny_field hz rfl (x := .ref tc) rfl ?_)
  refine wpAny_bind (wpAny_seqItems hI rfl ?_)
  refine wpAny_bind (m := Builtin.SmallTypes.ownedTupleIsFree (.ref z)) (not_free hz ha fun g0 h0 s0 => ?_)
  simp only [Bool.false_eq_true, if_false]
  refine wpAny_bind ?_
  rw [← Array.forIn_toList]
  simp only [List.forIn_cons, List.forIn_nil]
  refine wpAny_bind (wpAny_bind (wpAny_holding ?_))
  show wpAny _ _ (Builtin.SmallTypes.nextOf (.ref j1) >>= _) _ _ ⟨g0, gn, dr, tk0, os⟩
  have e0 : St1 n1 g0 := D1.over t1 s0 S.zf1
  refine wpAny_bind (D1.done _ _ _ e0 fun g1 e u1 he => ?_)
  exact hE g1 e (fun c o x1 x2 _ q => u1 c o x2 (s0.extBut _ _ x1 q)) he
end
section
variable {prog : Program} {w : World} {A : Around} {E : Value → Shared → Prop} {s : Shared} {z tc to j1 j2 a : Addr} {fp1 fp2 : List Addr} {N n : Nat} {P1 P2 : Nat → Value → Prop} {St1 St2 : Nat → Heap → Prop}
/-- where a zip stands whose pairs are all held -/
def ZAt (h : Heap) (z tc to j1 j2 S : Addr) (n : Nat) : Prop := (n = 0 ∧ IsZip h z tc to .none ∧ ∃ u w, IsTupOf2 h to u w) ∨ ∃ a f oa, ZOut h z tc to a f ∧ h.get? a = some oa ∧ a ≠ z ∧ a ≠ j1 ∧ a ≠ j2 ∧ a ≠ to ∧ a ≠ S
theorem ZAt.lt {h : Heap} {S : Addr} (Z : ZAt h z tc to j1 j2 S n) : z < h.objs.size := by
  rcases Z with ⟨_, e, _⟩ | ⟨_, _, _, e, _⟩ <;> exact Heap.lt_size e
theorem ZAt.ty {S : Addr} (Z : ZAt s.heap z tc to j1 j2 S n) : s.TypeIs (.ref z) "zip" := by
  rcases Z with ⟨_, e, _⟩ | ⟨_, _, _, e, _⟩ <;> exact ⟨_, e, rfl⟩
theorem za_item {S : Addr} {Q : Option Value → Shared → Prop} (D : ZipSep2 z tc to j1 j2 fp1 fp2) (D1 : Draws prog w A.in1 j1 fp1 N P1 St1) (D2 : Draws prog w A.in1 j2 fp2 N P2 St2)
    (Z : ZAt s.heap z tc to j1 j2 S n) (hI : IsTupOf2 s.heap tc (.ref j1) (.ref j2)) (t1 : St1 n s.heap) (t2 : St2 n s.heap) (l : n < N) (hS : S < s.heap.objs.size) (hto : to < s.heap.objs.size)
    (hQ : ∀ v1 v2 g k, P1 n v1 → P2 n v2 → ZAt g z tc to j1 j2 S (n + 1) → St1 (n + 1) g → St2 (n + 1) g → IsTupOf2 g s.heap.objs.size v1 v2 → g.objs.size = s.heap.objs.size + 1 → (∀ c o, c ≠ z → c ≠ to → c ≠ j1 → c ≠ j2 → s.heap.get? c = some o → g.get? c = some o) → Q (some (.ref s.heap.objs.size)) { s with heap := g, toks := k }) :
    wpAny (model prog w) A (pyNext (.ref z)) Q E s := by
  have zl := Z.lt
  have ll1 : j1 < s.heap.objs.size := by obtain ⟨o, e⟩ := D1.live _ _ t1; exact Heap.lt_size e
  have ll2 : j2 < s.heap.objs.size := by obtain ⟨o, e⟩ := D2.live _ _ t2; exact Heap.lt_size e
  rcases Z with ⟨e0, hz, u, w0, hT⟩ | ⟨a, f, oa, hz, ha, m1, m2, m3, m4, m5⟩
  · subst e0
    refine wpAny_pyNext_zipD2_item D D1 D2 hz hI hT t1 t2 l l fun v1 v2 g k p1 p2 z1 _ u1 u2 hp gz kp => hQ v1 v2 g k p1 p2 (.inr ⟨s.heap.objs.size, false, _, z1, hp, Nat.ne_of_gt zl, Nat.ne_of_gt ll1, Nat.ne_of_gt ll2, Nat.ne_of_gt hto, Nat.ne_of_gt hS⟩) u1 u2 hp gz fun c o x1 x2 x3 x4 e => kp c o x1 x2 x3 x4 e
  · have hty : s.TypeIs (.ref z) "zip" := ⟨_, hz, rfl⟩
    unfold pyNext
    refine wpAny_bind (wpAny_attempt (wpAny_callSpecial?_slot hty F.slot_zip_next (wpAny_call_entry F.slot_zip_next hty F.entry_zip_next
      (zo_item D D1 D2 hz ha hI t1 t2 l l fun v1 v2 g k p1 p2 z1 u1 u2 hp gz kp => wpAny_pure (hQ v1 v2 g k p1 p2 (.inr ⟨a, true, oa, z1, kp _ _ m1 m2 m3 ha, m1, m2, m3, m4, m5⟩) u1 u2 hp gz fun c o x1 _ x3 x4 e => kp c o x1 x3 x4 e)) (F.args_zip_next_1 _))))
theorem za_end {S : Addr} {Q : Option Value → Shared → Prop} (D : ZipSep2 z tc to j1 j2 fp1 fp2) (D1 : Draws prog w A.in1 j1 fp1 N P1 St1) (D2 : Draws prog w A.in1 j2 fp2 N P2 St2)
    (Z : ZAt s.heap z tc to j1 j2 S N) (hI : IsTupOf2 s.heap tc (.ref j1) (.ref j2)) (t1 : St1 N s.heap) (t2 : St2 N s.heap)
    (hQ : ∀ g k, (∀ c o, c ≠ z → c ≠ to → c ≠ j1 → c ≠ j2 → s.heap.get? c = some o → g.get? c = some o) → Q none { s with heap := g, toks := k }) : wpAny (model prog w) A (pyNext (.ref z)) Q E s := by
  rcases Z with ⟨e0, hz, u, w0, hT⟩ | ⟨a, f, oa, hz, ha, m1, m2, m3, m4, m5⟩
  · subst e0
    exact wpAny_pyNext_zipD2_end D D1 D2 hz hI hT t1 t2 (Nat.le_refl _) (Nat.le_refl _) (.inl rfl) fun g k kp => hQ g k kp
  · have hty : s.TypeIs (.ref z) "zip" := ⟨_, hz, rfl⟩
    unfold pyNext
    refine wpAny_bind (wpAny_attempt (wpAny_callSpecial?_slot hty F.slot_zip_next (wpAny_call_entry F.slot_zip_next hty F.entry_zip_next (zo_end D D1 D2 hz ha hI t1 fun g e kp he => ?_) (F.args_zip_next_1 _))))
    obtain ⟨o, ho, hc⟩ := he
    refine wpAny_bind (wpAny_isInstance (T := "StopIteration") (b := true) ⟨o, ho, hc⟩ isSubtype_stop ?_)
    exact wpAny_pure (hQ g s.toks fun c o x1 _ x3 x4 e => kp c o x1 x3 x4 e)
/-- what the list made has -/
structure Made2 (P1 P2 : Nat → Value → Prop) (lo : Nat) (h : Heap) (as : List Addr) : Prop where
  rise : as.Pairwise (· < ·)
  above : ∀ a ∈ as, lo ≤ a ∧ a < h.objs.size
  pairs : ∀ (j : Nat) (a : Addr), as[j]? = some a → ∃ v1 v2, P1 j v1 ∧ P2 j v2 ∧ IsTupOf2 h a v1 v2
theorem lz_loop {S : Addr} {R : Result → Shared → Prop} {h1 : Heap} (D : ZipSep2 z tc to j1 j2 fp1 fp2) (D1 : Draws prog w A.in1.in1 j1 fp1 N P1 St1) (D2 : Draws prog w A.in1.in1 j2 fp2 N P2 St2) (hN : N ≤ sizeLine)
    (lS : S < h1.objs.size) (lz : z < h1.objs.size) (lt : tc < h1.objs.size) (lo : to < h1.objs.size) (l1 : j1 < h1.objs.size) (l2 : j2 < h1.objs.size) (nz : S ≠ z) (nt : S ≠ tc) (no : S ≠ to) (n1 : S ∉ fp1) (n2 : S ∉ fp2) (res : Value)
    (hR : ∀ g k acc c as, (∀ b o, b ≠ S → b ≠ z → b ≠ to → b ≠ j1 → b ≠ j2 → h1.get? b = some o → g.get? b = some o) → g.get? S = some { cls := .type "list", dict := none, data := .seq acc c, slots := #[] } → acc.toList = as.map Value.ref → as.length = N → Made2 P1 P2 h1.objs.size g as → R (.ok (.ret res)) { s with heap := g, toks := k }) :
    ∀ (m n : Nat) (h : Heap) (k c : Nat) (acc : Array Value) (as : List Addr), N - n = m → n ≤ N → ZAt h z tc to j1 j2 S n → IsTupOf2 h tc (.ref j1) (.ref j2) → St1 n h → St2 n h → h1.objs.size ≤ h.objs.size →
      (∀ b o, b ≠ S → b ≠ z → b ≠ to → b ≠ j1 → b ≠ j2 → h1.get? b = some o → h.get? b = some o) → h.get? S = some { cls := .type "list", dict := none, data := .seq acc c, slots := #[] } → acc.toList = as.map Value.ref → as.length = n → Made2 P1 P2 h1.objs.size h as →
      codeAny (model prog w) A (.builtin "list.extend.loop" ⟨[.ref S, .ref z, res], []⟩) R { s with heap := h, toks := k } := by
  have s1 : S ≠ j1 := fun e => n1 (e ▸ D.mem1)
  have s2 : S ≠ j2 := fun e => n2 (e ▸ D.mem2)
  intro m
  induction m with
  | zero =>
    intro n h k c acc as hm hn Z hI t1 t2 hle hk hL hacc hal hG
    have e : n = N := by omega
    subst e
    refine codeAny_builtin PySem.F.entry_extend_loop ?_
    rw [Around.under_plainId PySem.F.plain_extend_loop _]
    refine wpAny_bind (m := pyNext (.ref z)) (za_end (s := { s with heap := h, toks := k }) D D1 D2 Z hI t1 t2 fun g k2 kp => ?_)
    refine wpAny_pure (hR g k2 acc c as (fun b o x1 x2 x3 x4 x5 q => kp b o x2 x3 x4 x5 (hk b o x1 x2 x3 x4 x5 q)) (kp S _ nz no s1 s2 hL) hacc hal ⟨hG.rise, fun b hb => ?_, fun j b hj => ?_⟩)
    · obtain ⟨q1, q2⟩ := hG.above b hb
      obtain ⟨j, hj⟩ := List.mem_iff_getElem?.mp hb
      obtain ⟨v1, v2, _, _, e⟩ := hG.pairs j b hj
      have x := fun c (q : c < h1.objs.size) => (Nat.ne_of_gt (Nat.lt_of_lt_of_le q q1) : b ≠ c)
      exact ⟨q1, Heap.lt_size (kp b _ (x _ lz) (x _ lo) (x _ l1) (x _ l2) e)⟩
    · obtain ⟨q1, _⟩ := hG.above b (List.mem_of_getElem? hj)
      obtain ⟨v1, v2, y1, y2, e⟩ := hG.pairs j b hj
      have x := fun c (q : c < h1.objs.size) => (Nat.ne_of_gt (Nat.lt_of_lt_of_le q q1) : b ≠ c)
      exact ⟨v1, v2, y1, y2, kp b _ (x _ lz) (x _ lo) (x _ l1) (x _ l2) e⟩
  | succ m ih =>
    intro n h k c acc as hm hn Z hI t1 t2 hle hk hL hacc hal hG
    have hlt : n < N := by omega
    have hsz : acc.size = n := by rw [← Array.length_toList, hacc, List.length_map, hal]
    refine codeAny_builtin PySem.F.entry_extend_loop ?_
    rw [Around.under_plainId PySem.F.plain_extend_loop _]
    refine wpAny_bind (m := pyNext (.ref z)) (za_item (s := { s with heap := h, toks := k }) D D1 D2 Z hI t1 t2 hlt (Nat.lt_of_lt_of_le lS hle) (Nat.lt_of_lt_of_le lo hle) fun v1 v2 g k2 p1 p2 Z2 u1 u2 hp gz kp => ?_)
    have hL2 := kp S _ nz no s1 s2 hL
    have up : ∀ b o, b ≠ S → g.get? b = some o → (g.update S (Obj.mapSeq (·.push (Value.ref h.objs.size)))).get? b = some o := fun b o hb e => (Heap.get?_update_other _ _ (Ne.symm hb)).trans e
    have ltS : S < h.objs.size := Nat.lt_of_lt_of_le lS hle
    have f1 : St1 (n + 1) (g.update S (Obj.mapSeq (·.push (Value.ref h.objs.size)))) := D1.frame _ _ _ u1 fun b hb o e => up b o (fun q => n1 (q ▸ hb)) e
    have f2 : St2 (n + 1) (g.update S (Obj.mapSeq (·.push (Value.ref h.objs.size)))) := D2.frame _ _ _ u2 fun b hb o e => up b o (fun q => n2 (q ▸ hb)) e
    have Z3 : ZAt (g.update S (Obj.mapSeq (·.push (Value.ref h.objs.size)))) z tc to j1 j2 S (n + 1) := by
      rcases Z2 with ⟨e0, _⟩ | ⟨a, f, oa, z1, z2, m1, m2, m3, m4, m5⟩
      · exact absurd e0 (Nat.succ_ne_zero n)
      · exact .inr ⟨a, f, oa, up _ _ (Ne.symm nz) z1, up _ _ m5 z2, m1, m2, m3, m4, m5⟩
    have hI2 := up _ _ (Ne.symm nt) (kp tc _ D.TIz D.TITO D.TIi1 D.TIi2 hI)
    have big : g.objs.size = h.objs.size + 1 := gz
    have bigu : (g.update S (Obj.mapSeq (·.push (Value.ref h.objs.size)))).objs.size = h.objs.size + 1 := by rw [Heap.size_update]; exact big
    show wpAny _ A.in1 (updateSeq S (·.push (Value.ref h.objs.size)) >>= _) _ _ _
    refine wpAny_bind ?_
    refine wpAny_updateSeq hL2 rfl (wpAny_pure ⟨plainId_quiet PySem.F.plain_extend_loop _, ih (n + 1) _ k2 _ (acc.push (Value.ref h.objs.size)) (as ++ [h.objs.size]) (by omega) hlt Z3 hI2 f1 f2 (by rw [bigu]; omega)
      (fun b o x1 x2 x3 x4 x5 q => up b o x1 (kp b o x2 x3 x4 x5 (hk b o x1 x2 x3 x4 x5 q))) (Heap.get?_update_self _ hL2 rfl) (by rw [Array.toList_push, hacc, List.map_append]; rfl) (by rw [List.length_append, hal]; rfl) ⟨?_, ?_, ?_⟩⟩) (by rw [hsz]; omega) (by rw [Array.size_push, hsz]; omega)
    · refine List.pairwise_append.mpr ⟨hG.rise, List.pairwise_singleton _ _, fun b hb d hd => ?_⟩
      rw [List.mem_singleton.mp hd]
      exact (hG.above b hb).2
    · intro b hb
      rw [bigu]
      rcases List.mem_append.mp hb with hb | hb
      · exact ⟨(hG.above b hb).1, Nat.lt_succ_of_lt (hG.above b hb).2⟩
      · rw [List.mem_singleton.mp hb]
        exact ⟨hle, Nat.lt_succ_self _⟩
    · intro j b hj
      by_cases hjl : j < as.length
      · rw [List.getElem?_append_left hjl] at hj
        have q1 := (hG.above b (List.mem_of_getElem? hj)).1
        obtain ⟨w1, w2, y1, y2, e⟩ := hG.pairs j b hj
        have x := fun c (q : c < h1.objs.size) => (Nat.ne_of_gt (Nat.lt_of_lt_of_le q q1) : b ≠ c)
        exact ⟨w1, w2, y1, y2, up b _ (x _ lS) (kp b _ (x _ lz) (x _ lo) (x _ l1) (x _ l2) e)⟩
      · have ej : j = n := by
          have := (List.getElem?_eq_some_iff.mp hj).1
          rw [List.length_append, List.length_singleton] at this
          omega
        subst ej
        rw [List.getElem?_append_right (by omega), hal, Nat.sub_self] at hj
        have eb := Option.some.inj hj
        subst eb
        exact ⟨v1, v2, p1, p2, up _ _ (Nat.ne_of_gt ltS) hp⟩
theorem no_len_zip : typeLookup (.type "zip") "__len__" = pure none := by rw [typeLookup_type, builtinLookup_eq_fast]; kernel_rfl
theorem no_hint_zip : typeLookup (.type "zip") "__length_hint__" = pure none := by rw [typeLookup_type, builtinLookup_eq_fast]; kernel_rfl
theorem lz_extend {S : Addr} {R : Result → Shared → Prop} (D : ZipSep2 z tc to j1 j2 fp1 fp2) (D1 : Draws prog w A.in1.in1 j1 fp1 N P1 St1) (D2 : Draws prog w A.in1.in1 j2 fp2 N P2 St2) (hN : N ≤ sizeLine) {u0 w0 : Value} {c0 : Nat}
    (hz : IsZip s.heap z tc to .none) (hI : IsTupOf2 s.heap tc (.ref j1) (.ref j2)) (hO : IsTupOf2 s.heap to u0 w0) (t1 : St1 0 s.heap) (t2 : St2 0 s.heap) (hL : s.heap.get? S = some { cls := .type "list", data := .seq #[] c0 })
    (nz : S ≠ z) (nt : S ≠ tc) (no : S ≠ to) (n1 : S ∉ fp1) (n2 : S ∉ fp2) (res : Value)
    (hR : ∀ g k acc c as, (∀ b o, b ≠ S → b ≠ z → b ≠ to → b ≠ j1 → b ≠ j2 → s.heap.get? b = some o → g.get? b = some o) → g.get? S = some { cls := .type "list", dict := none, data := .seq acc c, slots := #[] } → acc.toList = as.map Value.ref → as.length = N → Made2 P1 P2 s.heap.objs.size g as → R (.ok (.ret res)) { s with heap := g, toks := k }) :
    wpAny (model prog w) A.in1 (Builtin.List.listExtendWith (.ref S) (.ref z) res)
      (fun fin s' => match fin with | .done f => R (.ok f) s' | .again c' => c'.quiet = true ∧ codeAny (model prog w) A c' R s') (fun e s' => R (.error e) s') s := by
  have hty : s.TypeIs (.ref z) "zip" := ⟨_, hz, rfl⟩
  have ll1 : j1 < s.heap.objs.size := by obtain ⟨o, e⟩ := D1.live _ _ t1; exact Heap.lt_size e
  have ll2 : j2 < s.heap.objs.size := by obtain ⟨o, e⟩ := D2.live _ _ t2; exact Heap.lt_size e
  unfold Builtin.List.listExtendWith
  refine wpAny_bind (wpAny_typeOf hty ?_)
  have x1 : Builtin.List.listSameRef (.ref S) (.ref z) = false := by simp [Builtin.List.listSameRef, nz]
  have x2 : (Value.type "zip" == Value.type "list") = false := by decide
  have x3 : (Value.type "zip" == Value.type "tuple") = false := by decide
  simp only [x1, x2, x3, Bool.or_false, Bool.false_eq_true, if_false]
  refine wpAny_bind (wpAny_pyIter_zip hz ?_)
  refine wpAny_bind (wpAny_holding ?_)
  unfold Builtin.List.listLengthHint
  refine wpAny_bind (wpAny_specialOf hty no_len_zip ?_)
  refine wpAny_bind (m := specialOf (Value.ref z) (Str.ofString "__length_hint__")) (wpAny_specialOf hty no_hint_zip ?_)
  refine wpAny_pure ?_
  refine wpAny_bind (m := rule "list.extend.makes-room") (wpAny_rule ?_)
  refine wpAny_bind (m := Builtin.List.listTouch (.ref S)) ?_
  show wpAny _ A.in1 (updateSeq S (·.push Value.none) >>= fun _ => updateSeq S (·.pop)) _ _ _
  refine wpAny_bind (wpAny_updateSeq hL rfl ?_)
  have hL2 := Heap.get?_update_self (Obj.mapSeq (·.push Value.none)) hL rfl
  refine wpAny_updateSeq (hz := by seq_fits) hL2 rfl ?_
  have hL3 := Heap.get?_update_self (Obj.mapSeq (·.pop)) hL2 rfl
  have up : ∀ b o, b ≠ S → s.heap.get? b = some o → ((s.heap.update S (Obj.mapSeq (·.push Value.none))).update S (Obj.mapSeq (·.pop))).get? b = some o := fun b o hb e => (Heap.get?_update_other _ _ (Ne.symm hb)).trans ((Heap.get?_update_other _ _ (Ne.symm hb)).trans e)
  refine wpAny_pure ⟨plainId_quiet F.plain_extend_loop _, lz_loop (h1 := s.heap) D D1 D2 hN (Heap.lt_size hL) (Heap.lt_size hz) (Heap.lt_size hI) (Heap.lt_size hO) ll1 ll2 nz nt no n1 n2 res hR N 0 _ s.toks _ _ [] (Nat.sub_zero _) (Nat.zero_le _) (.inl ⟨rfl, up _ _ (Ne.symm nz) hz, _, _, up _ _ (Ne.symm no) hO⟩) (up _ _ (Ne.symm nt) hI)
    (D1.frame _ _ _ t1 fun b hb o e => up b o (fun q => n1 (q ▸ hb)) e) (D2.frame _ _ _ t2 fun b hb o e => up b o (fun q => n2 (q ▸ hb)) e) (by rw [Heap.size_update, Heap.size_update]; exact Nat.le_refl _) (fun b o y1 _ _ _ _ e => up b o y1 e) hL3 rfl rfl ⟨List.Pairwise.nil, (fun _ q => nomatch q), fun j b q => by simp at q⟩⟩
theorem lz_init {S : Addr} {R : Result → Shared → Prop} (D : ZipSep2 z tc to j1 j2 fp1 fp2) (D1 : Draws prog w A.in1.in1 j1 fp1 N P1 St1) (D2 : Draws prog w A.in1.in1 j2 fp2 N P2 St2) (hN : N ≤ sizeLine) {u0 w0 : Value}
    (hz : IsZip s.heap z tc to .none) (hI : IsTupOf2 s.heap tc (.ref j1) (.ref j2)) (hO : IsTupOf2 s.heap to u0 w0) (t1 : St1 0 s.heap) (t2 : St2 0 s.heap) (hL : s.heap.get? S = some { cls := .type "list", data := .seq #[] })
    (nz : S ≠ z) (nt : S ≠ tc) (no : S ≠ to) (n1 : S ∉ fp1) (n2 : S ∉ fp2)
    (hR : ∀ g k acc c as, (∀ b o, b ≠ S → b ≠ z → b ≠ to → b ≠ j1 → b ≠ j2 → s.heap.get? b = some o → g.get? b = some o) → g.get? S = some { cls := .type "list", dict := none, data := .seq acc c, slots := #[] } → acc.toList = as.map Value.ref → as.length = N → Made2 P1 P2 s.heap.objs.size g as → R (.ok (.ret .none)) { s with heap := g, toks := k }) :
    wpAny (model prog w) A.in1 (Builtin.«list.__init__» ⟨[.ref S, .ref z], []⟩)
      (fun fin s' => match fin with | .done f => R (.ok f) s' | .again c' => c'.quiet = true ∧ codeAny (model prog w) A c' R s') (fun e s' => R (.error e) s') s := by
  refine wpAny_bind (m := Builtin.List.listItems (.ref S)) ?_
  unfold Builtin.List.listItems
  refine wpAny_bind (wpAny_seqItems hL rfl (wpAny_pure ?_))
  refine wpAny_bind (m := updateSeq S (fun _ => #[])) (wpAny_updateSeq hL rfl ?_)
  have hL2 := Heap.get?_update_self (Obj.mapSeq (fun _ => (#[] : Array Value))) hL rfl
  have up : ∀ b o, b ≠ S → s.heap.get? b = some o → (s.heap.update S (Obj.mapSeq (fun _ => (#[] : Array Value)))).get? b = some o := fun b o hb e => (Heap.get?_update_other _ _ (Ne.symm hb)).trans e
  refine wpAny_bind (wpAny_letGo ?_)
  have sz : (s.heap.update S (Obj.mapSeq (fun _ => (#[] : Array Value)))).objs.size = s.heap.objs.size := Heap.size_update ..
  refine lz_extend (s := { s with heap := s.heap.update S (Obj.mapSeq (fun _ => (#[] : Array Value))) }) D D1 D2 hN (up _ _ (Ne.symm nz) hz) (up _ _ (Ne.symm nt) hI) (up _ _ (Ne.symm no) hO) (D1.frame _ _ _ t1 fun b hb o e => up b o (fun q => n1 (q ▸ hb)) e) (D2.frame _ _ _ t2 fun b hb o e => up b o (fun q => n2 (q ▸ hb)) e) hL2 nz nt no n1 n2 .none fun g k acc c as kp e1 e2 e3 M => ?_
  refine hR g k acc c as (fun b o y1 y2 y3 y4 y5 e => kp b o y1 y2 y3 y4 y5 (up b o y1 e)) e1 e2 e3 ?_
  rw [← sz]
  exact M
end
section
variable {prog : Program} {w : World} {A : Around} {E : Value → Shared → Prop} {s : Shared} {z tc to j1 j2 a : Addr} {fp1 fp2 : List Addr} {N n : Nat} {P1 P2 : Nat → Value → Prop} {St1 St2 : Nat → Heap → Prop}
theorem lz_call {Q : Value → Shared → Prop} (D : ZipSep2 z tc to j1 j2 fp1 fp2) (D1 : Draws prog w A.in1.in1.in1 j1 fp1 N P1 St1) (D2 : Draws prog w A.in1.in1.in1 j2 fp2 N P2 St2) (hN : N ≤ sizeLine) {u0 w0 : Value}
    (hz : IsZip s.heap z tc to .none) (hI : IsTupOf2 s.heap tc (.ref j1) (.ref j2)) (hO : IsTupOf2 s.heap to u0 w0) (t1 : St1 0 s.heap) (t2 : St2 0 s.heap) (b1 : ∀ b ∈ fp1, b < s.heap.objs.size) (b2 : ∀ b ∈ fp2, b < s.heap.objs.size)
    (hQ : ∀ g k acc c as, (∀ b o, b ≠ z → b ≠ to → b ≠ j1 → b ≠ j2 → s.heap.get? b = some o → g.get? b = some o) → g.get? s.heap.objs.size = some { cls := .type "list", dict := none, data := .seq acc c, slots := #[] } → acc.toList = as.map Value.ref → as.length = N → Made2 P1 P2 (s.heap.objs.size + 1) g as → Q (.ref s.heap.objs.size) { s with heap := g, toks := k }) :
    wpAny (model prog w) A (call (.type "list") [.ref z]) Q E s := by
  refine callType_codes (Q₁ := fun obj s₁ => obj = .ref s.heap.objs.size ∧ s₁ = { s with heap := s.heap.push { cls := .type "list", data := .seq #[] } }) F.called_list (F.typeCall_list_1 _) F.entry_list_init (code_list_new _ ⟨rfl, rfl⟩) fun obj s₁ h₁ => ?_
  obtain ⟨rfl, rfl⟩ := h₁
  have up : ∀ b o, s.heap.get? b = some o → (s.heap.push { cls := .type "list", data := .seq #[] }).get? b = some o := fun b o e => Heap.get?_push_of_some _ e
  have hS : (s.heap.push { cls := .type "list", data := .seq #[] }).get? s.heap.objs.size = some { cls := .type "list", data := .seq #[] } := Heap.get?_push_size _ rfl
  have sz : (s.heap.push { cls := .type "list", data := .seq #[] }).objs.size = s.heap.objs.size + 1 := Heap.size_push ..
  have no : ∀ b, b < s.heap.objs.size → s.heap.objs.size ≠ b := fun b h => Nat.ne_of_gt h
  refine ⟨⟨_, hS, rfl⟩, F.args_list_init_2 _ _, lz_init (A := A.in1) (s := { s with heap := s.heap.push { cls := .type "list", data := .seq #[] } }) D D1 D2 hN (up _ _ hz) (up _ _ hI) (up _ _ hO) (D1.frame _ _ _ t1 fun b _ o e => up b o e) (D2.frame _ _ _ t2 fun b _ o e => up b o e) hS (no _ (Heap.lt_size hz)) (no _ (Heap.lt_size hI)) (no _ (Heap.lt_size hO)) (fun h => Nat.lt_irrefl _ (b1 _ h)) (fun h => Nat.lt_irrefl _ (b2 _ h)) fun g k acc c as kp e1 e2 e3 M => ?_⟩
  refine ⟨rfl, hQ g k acc c as (fun b o y2 y3 y4 y5 e => kp b o (Nat.ne_of_lt (Heap.lt_size e)) y2 y3 y4 y5 (up b o e)) e1 e2 e3 ?_⟩
  rw [← sz]
  exact M
end
/-- the first place of an address -/
def posA : List Addr → Addr → Nat
  | [], _ => 0
  | x :: r, a => if x = a then 0 else posA r a + 1
theorem posA_of : ∀ {as : List Addr} {j : Nat} {a : Addr}, as.Nodup → as[j]? = some a → posA as a = j
  | [], _, _, _, h => by cases h
  | x :: r, 0, a, hn, h => by
    have e : x = a := Option.some.inj h
    unfold posA
    rw [if_pos e]
  | x :: r, j + 1, a, hn, h => by
    have h2 : r[j]? = some a := h
    have hn2 := List.nodup_cons.mp hn
    have ne : ¬ x = a := fun e => hn2.1 (e ▸ List.mem_of_getElem? h2)
    unfold posA
    rw [if_neg ne, posA_of hn2.2 h2]
def putP (H : Hp) (S : Addr) (as : List Addr) (xs ys : List V) : Hp := fun b => if b = S then some (.lst (as.map V.ref)) else if b ∈ as then some (.tup [xs.getD (posA as b) .non, ys.getD (posA as b) .non]) else H b
theorem getD_of {xs : List V} {j : Nat} {x : V} (h : xs[j]? = some x) : xs.getD j .non = x := by
  rw [List.getD_eq_getElem?_getD, h]
  rfl
section
variable {X : Cx} {pins : List (Addr × Obj)} {σ : L2.St} {H : Hp} {s : Shared} {g : Heap} {S c k : Nat} {as : List Addr} {xs ys : List V} {acc : Array Value}
theorem laid_pairs (J : Inv X pins σ H s) (kp : ∀ b o, s.heap.get? b = some o → g.get? b = some o) (lo : s.heap.objs.size ≤ S) (hS : g.get? S = some { cls := .type "list", dict := none, data := .seq acc c, slots := #[] }) (hacc : acc.toList = as.map Value.ref) (hl : as.length ≤ sizeLine) (nd : as.Nodup) (ab : ∀ a ∈ as, S < a)
    (hp : ∀ (j : Nat) (a : Addr), as[j]? = some a → ∃ x y v1 v2, xs[j]? = some x ∧ ys[j]? = some y ∧ RelV x v1 ∧ RelV y v2 ∧ IsTupOf2 g a v1 v2) :
    Same H (putP H S as xs ys) ∧ (putP H S as xs ys) S = some (.lst (as.map V.ref)) ∧ (∀ (j : Nat) (a : Addr) (x y : V), as[j]? = some a → xs[j]? = some x → ys[j]? = some y → (putP H S as xs ys) a = some (.tup [x, y])) ∧ Inv X pins σ (putP H S as xs ys) { s with heap := g, toks := k } := by
  have fr : ∀ b, S ≤ b → H b = none := fun b h => J.hok.fresh (Nat.le_trans lo h)
  have sm : Same H (putP H S as xs ys) := fun b o e => by
    have n1 : ¬ b = S := fun z => by rw [z, fr S (Nat.le_refl _)] at e; cases e
    have n2 : ¬ b ∈ as := fun z => by rw [fr b (Nat.le_of_lt (ab b z))] at e; cases e
    unfold putP
    rw [if_neg n1, if_neg n2]
    exact e
  have eS : (putP H S as xs ys) S = some (.lst (as.map V.ref)) := if_pos rfl
  have eT : ∀ (j : Nat) (a : Addr) (x y : V), as[j]? = some a → xs[j]? = some x → ys[j]? = some y → (putP H S as xs ys) a = some (.tup [x, y]) := fun j a x y h1 h2 h3 => by
    have m := List.mem_of_getElem? h1
    unfold putP
    rw [if_neg (Nat.ne_of_gt (ab a m)), if_pos m, posA_of nd h1, getD_of h2, getD_of h3]
  refine ⟨sm, eS, eT, J.un ⟨fun b o q _ _ _ => kp b o q, fun b o q _ _ _ => ⟨o.slots, kp b o q⟩, fun b o q n _ => ?_, fun b o q _ => ⟨o, kp b o q⟩, fun b zs q => sm b _ q, fun b o u q => sm b _ q, fun b ps q => ⟨#[], by rw [sm b _ q]; simp⟩⟩ fun b u q => ?_⟩
  · have lb : b < s.heap.objs.size := Heap.lt_size q
    have n1 : ¬ b = S := Nat.ne_of_lt (Nat.lt_of_lt_of_le lb lo)
    have n2 : ¬ b ∈ as := fun z => Nat.lt_irrefl _ (Nat.lt_trans (Nat.lt_of_lt_of_le lb lo) (ab b z))
    unfold putP
    rw [if_neg n1, if_neg n2]
    exact n
  · by_cases h1 : b = S
    · subst h1
      rw [eS] at q
      cases q
      refine ⟨by rw [List.length_map]; exact hl, acc.toList, c, by rw [hacc]; exact LiI.vals_refs as, ?_⟩
      rw [Array.toArray_toList]
      exact hS
    · by_cases h2 : b ∈ as
      · obtain ⟨j, hj⟩ := List.mem_iff_getElem?.mp h2
        obtain ⟨x, y, v1, v2, q1, q2, r1, r2, e⟩ := hp j b hj
        rw [eT j b x y hj q1 q2] at q
        cases q
        exact ⟨by show 2 ≤ sizeLine; decide, [v1, v2], .cons r1 (.cons r2 .nil), ⟨_, e, rfl, _, rfl⟩⟩
      · have q2 : H b = some u := by
          unfold putP at q
          rw [if_neg h1, if_neg h2] at q
          exact q
        exact (J.hok b u q2).stay (fun d v _ y => kp d v y) (fun d y => sm d _ y) fun d zs y => sm d _ y
end
def tListZip (K : PySem.W.Frag) (ta : TA) : TE := fun σ H Q => ta σ H fun vs H1 => ∃ (l1 l2 : Addr) (xs ys : List V), vs = [.ref l1, .ref l2] ∧ SqL K H1 l1 xs ∧ SqL K H1 l2 ys ∧ xs.length = ys.length ∧
  ∀ (p : Addr) (ts : List Addr) (H' : Hp), H1 p = none → Same H1 H' → H' p = some (.lst (ts.map V.ref)) → ts.length = xs.length → (∀ (j : Nat) (t : Addr) (x y : V), ts[j]? = some t → xs[j]? = some x → ys[j]? = some y → H' t = some (.tup [x, y])) → (∀ t ∈ ts, H1 t = none) → p ∉ ts → Q (.ref p) H'
theorem pe_listZip {X : Cx} {e1 e2 : Expr} {ta : TA} {p p2 q pos : Pos} (hc : X.calm = true) (hg : Gl X "list") (hm : X.mg "list" = none) (hg2 : Gl X "zip") (hm2 : X.mg "zip" = none) (ha : PA X [e1, e2] ta)
    (hs : starEach [e1, e2] X.env = (false, eval e1 X.env) :: starEach [e2] X.env := by rfl) (hb : (backTo q (starEach [e2] X.env)).any (·.1) = false := by rfl)
    (na : starEach [.Call (.Name "zip" p2) [e1, e2] [] q] X.env = (false, eval (.Call (.Name "zip" p2) [e1, e2] [] q) X.env) :: starEach [] X.env := by rfl) :
    PE X (.Call (.Name "list" p) [.Call (.Name "zip" p2) [e1, e2] [] q] [] pos) (tListZip X.K ta) := by
  refine ⟨fun pins s σ H Q I h => ?_⟩
  refine Call_ (ld_blt I hg hm boot_list ?_)
  refine PyProof.Rows.callWith_type1 (PyProof.Rows.args_cons ?_ na) na rfl
  refine Call_ (ld_blt I hg2 hm2 PyProof.Rows.boot_zip (PyProof.Rows.callWith_type1 (thn (ha.run q pins s σ H _ I h) fun us0 s1 ⟨vs, H1, J, rr, q1⟩ => ?_) hs hb))
  obtain ⟨a, b, xs, ys, ex, hx, hy, hlen, q1⟩ := q1
  subst ex
  cases rr with
  | cons r1 rr =>
    cases rr with
    | cons r2 rr =>
      cases rr
      cases r1
      cases r2
      obtain ⟨vs1, R1, f1, z1⟩ := J.list hx
      obtain ⟨vs2, R2, f2, z2⟩ := J.list hy
      have l1 : xs.length = vs1.length := R1.length
      have l2 : ys.length = vs2.length := R2.length
      have al : a < s1.heap.objs.size := by obtain ⟨_, e, _⟩ := f1.isList; exact Heap.lt_size e
      have bl : b < s1.heap.objs.size := by obtain ⟨_, e, _⟩ := f2.isList; exact Heap.lt_size e
      refine zip_begins2 (begins_list a vs1.toArray) (begins_list b vs2.toArray) f1.isList f2.isList fun g g1 g2 g3 g4 g5 gz kp => ?_
      refine PyProof.Rows.args_nil ?_
      have hh : X.A.handled = none := J.ok.hd hc
      have D1 := Draws.list (prog := X.prog) (w := X.w) (A := X.A.in1.in1.in1) hh s1.heap.objs.size a (Nat.ne_of_lt al) vs1.toArray
      have D2 := Draws.list (prog := X.prog) (w := X.w) (A := X.A.in1.in1.in1) hh (s1.heap.objs.size + 1) b (Nat.ne_of_lt (Nat.lt_succ_of_lt bl)) vs2.toArray
      have k2 : vs2.toArray.size = vs1.toArray.size := by rw [List.size_toArray, List.size_toArray]; omega
      rw [k2] at D2
      have in1 : ∀ c ∈ [s1.heap.objs.size, a], c < g.objs.size := fun c hcm => by
        rw [gz]
        rcases List.mem_cons.mp hcm with e | e
        · rw [e]; exact Nat.lt_add_of_pos_right (by decide)
        · rw [List.mem_singleton.mp e]; exact Nat.lt_of_lt_of_le al (Nat.le_add_right _ _)
      have in2 : ∀ c ∈ [s1.heap.objs.size + 1, b], c < g.objs.size := fun c hcm => by
        rw [gz]
        rcases List.mem_cons.mp hcm with e | e
        · rw [e]; exact Nat.add_lt_add_left (by decide) _
        · rw [List.mem_singleton.mp e]; exact Nat.lt_of_lt_of_le bl (Nat.le_add_right _ _)
      refine lz_call (s := { s1 with heap := g }) (zs_new al bl) D1 D2 (by rw [List.size_toArray, ← l1]; exact z1) g1 g2 g3 ⟨⟨_, g4, rfl, rfl⟩, f1.isList.at fun o e => kp a o e⟩ ⟨⟨_, g5, rfl, rfl⟩, f2.isList.at fun o e => kp b o e⟩ in1 in2 fun g' k acc c as kp2 eS eacc elen M => ?_
      have kp3 : ∀ c o, s1.heap.get? c = some o → g'.get? c = some o := fun c o e => by
        have lc : c < s1.heap.objs.size := Heap.lt_size e
        have ne : ∀ i, c ≠ s1.heap.objs.size + i := fun i => Nat.ne_of_lt (Nat.lt_of_lt_of_le lc (Nat.le_add_right _ _))
        exact kp2 c o (ne 4) (ne 3) (ne 0) (ne 1) (kp c o e)
      have nd : as.Nodup := M.rise.imp fun h => Nat.ne_of_lt h
      have ab : ∀ t ∈ as, g.objs.size < t := fun t ht => (M.above t ht).1
      have la : as.length = xs.length := by rw [elen, List.size_toArray, l1]
      have lo : s1.heap.objs.size ≤ g.objs.size := by rw [gz]; exact Nat.le_add_right _ _
      obtain ⟨sm, e1, e2, J2⟩ := laid_pairs (k := k) (xs := xs) (ys := ys) J kp3 lo eS eacc (by rw [la]; exact z1) nd ab fun j t hj => by
        obtain ⟨v1, v2, y1, y2, e⟩ := M.pairs j t hj
        have hjl : j < xs.length := by rw [← la]; exact (List.getElem?_eq_some_iff.mp hj).1
        have hjl2 : j < ys.length := by omega
        have x1 : xs[j]? = some xs[j] := List.getElem?_eq_getElem hjl
        have x2 : ys[j]? = some ys[j] := List.getElem?_eq_getElem hjl2
        obtain ⟨w1, n1, o1⟩ := R1.get x1
        obtain ⟨w2, n2, o2⟩ := R2.get x2
        have y1' : vs1[j]? = some v1 := by simpa using y1
        have y2' : vs2[j]? = some v2 := by simpa using y2
        have i1 : w1 = v1 := Option.some.inj (n1.symm.trans y1')
        have i2 : w2 = v2 := Option.some.inj (n2.symm.trans y2')
        subst i1 i2
        exact ⟨_, _, _, _, x1, x2, o1, o2, e⟩
      refine ⟨.ref g.objs.size, putP H1 g.objs.size as xs ys, J2, rfl, q1 _ as _ (J.hok.fresh lo) sm e1 la e2 (fun t ht => J.hok.fresh (Nat.le_trans lo (Nat.le_of_lt (ab t ht)))) fun z => Nat.lt_irrefl _ (ab _ z)⟩


end Rf
namespace Rf
open PySem PySem.Spec PyProof.Rows L2
/-! ### while -/
/-- a while, by a word and a measure; what the test leaves: R -/
theorem sq_while {c : TT} {tu tz : TS} {D : Ends} {σ : L2.St} {H : Hp} (W : Nat → L2.St → Hp → Prop) (m0 : Nat) (h0 : W m0 σ H)
    (hs : ∀ m σ' H', W m σ' H' → ∃ R : Bool → Hp → Prop, (∀ Q : Bool → Hp → Prop, (∀ b H1, R b H1 → Q b H1) → c σ' H' Q) ∧
      (∀ H1, R true H1 → tu { D with nx := fun σ2 H2 => ∃ m', m' < m ∧ W m' σ2 H2, ct := fun σ2 H2 => ∃ m', m' < m ∧ W m' σ2 H2, bk := tz D } σ' H1) ∧ (∀ H1, R false H1 → tz D σ' H1)) : tSeq (tWhile c tu) tz D σ H := by
  refine ⟨W, ⟨m0, h0⟩, fun m σ' H' w => ?_⟩
  obtain ⟨R, hc, ht, hf⟩ := hs m σ' H' w
  refine hc _ fun b H1 r => ?_
  cases b with
  | true => exact iteT ⟨_, fun _ _ h => h, ht H1 r⟩
  | false => exact iteF (hf H1 r)
/-- a while that is its block's last -/
theorem last_while {c : TT} {tu : TS} {D : Ends} {σ : L2.St} {H : Hp} (h : tSeq (tWhile c tu) tNext D σ H) : tWhile c tu D σ H := h
/-- if c: .. else ..; the test leaves R -/
theorem if_ifR {c : TT} {t u : TS} {D : Ends} {σ : L2.St} {H : Hp} {p : Prop} [Decidable p] (R : Hp → Prop) (h : ∀ Q : Bool → Hp → Prop, (∀ H', R H' → Q (decide p) H') → c σ H Q) (k1 : p → ∀ H', R H' → t D σ H') (k2 : ¬ p → ∀ H', R H' → u D σ H') : tIfS c t u D σ H := by
  refine h _ fun H' r => ?_
  by_cases e : p
  · rw [decide_eq_true e]
    exact iteT (k1 e H' r)
  · rw [decide_eq_false e]
    exact iteF (k2 e H' r)


end Rf
namespace Rf
open PySem PySem.Spec PyProof.Rows L2
/-! ### data without bools, texts and dicts: == is equality -/
mutual
def clean : PyData → Prop
  | .none => True
  | .int _ => True
  | .list xs => cleanAll xs
  | .tuple xs => cleanAll xs
  | .bool _ => False
  | .str _ => False
  | .dict _ => False
def cleanAll : List PyData → Prop
  | [] => True
  | x :: xs => clean x ∧ cleanAll xs
end
mutual
theorem eqv_iff : ∀ (d e : PyData), clean d → clean e → (PyData.eqv d e = true ↔ d = e)
  | .none, e, _, h => by cases e <;> simp_all [PyData.eqv, clean]
  | .int i, e, _, h => by cases e <;> simp_all [PyData.eqv, clean]
  | .list xs, e, hx, h => by
    cases e with
    | list ys =>
      unfold PyData.eqv
      rw [eqvAll_iff xs ys (by simpa [clean] using hx) (by simpa [clean] using h)]
      exact ⟨fun z => by rw [z], fun z => PyData.list.inj z⟩
    | _ => simp_all [PyData.eqv, clean]
  | .tuple xs, e, hx, h => by
    cases e with
    | tuple ys =>
      unfold PyData.eqv
      rw [eqvAll_iff xs ys (by simpa [clean] using hx) (by simpa [clean] using h)]
      exact ⟨fun z => by rw [z], fun z => PyData.tuple.inj z⟩
    | _ => simp_all [PyData.eqv, clean]
  | .bool _, _, h, _ => by simp [clean] at h
  | .str _, _, h, _ => by simp [clean] at h
  | .dict _, _, h, _ => by simp [clean] at h
theorem eqvAll_iff : ∀ (xs ys : List PyData), cleanAll xs → cleanAll ys → (PyData.eqvAll xs ys = true ↔ xs = ys)
  | [], [], _, _ => by simp [PyData.eqvAll]
  | [], _ :: _, _, _ => by simp [PyData.eqvAll]
  | _ :: _, [], _, _ => by simp [PyData.eqvAll]
  | x :: xs, y :: ys, hx, hy => by
    obtain ⟨h1, h2⟩ := (show clean x ∧ cleanAll xs by simpa [cleanAll] using hx)
    obtain ⟨h3, h4⟩ := (show clean y ∧ cleanAll ys by simpa [cleanAll] using hy)
    unfold PyData.eqvAll
    rw [Bool.and_eq_true, eqv_iff x y h1 h3, eqvAll_iff xs ys h2 h4]
    exact ⟨fun z => by rw [z.1, z.2], fun z => List.cons.inj z⟩
end
mutual
theorem canLay_clean : ∀ (d : PyData), clean d → d.canLay0 = true
  | .none, _ => by simp [PyData.canLay0]
  | .int i, _ => by simp [PyData.canLay0]
  | .list xs, h => by
    unfold PyData.canLay0
    exact canLayAll_clean xs (by simpa [clean] using h)
  | .tuple xs, h => by
    unfold PyData.canLay0
    exact canLayAll_clean xs (by simpa [clean] using h)
  | .bool _, h => by simp [clean] at h
  | .str _, h => by simp [clean] at h
  | .dict _, h => by simp [clean] at h
theorem canLayAll_clean : ∀ (xs : List PyData), cleanAll xs → PyData.canLayAll0 xs = true
  | [], _ => by simp [PyData.canLayAll0]
  | x :: xs, h => by
    obtain ⟨h1, h2⟩ := (show clean x ∧ cleanAll xs by simpa [cleanAll] using h)
    unfold PyData.canLayAll0
    rw [canLay_clean x h1, canLayAll_clean xs h2]
    rfl
end
theorem depthAll_le {n : Nat} : ∀ (xs : List PyData), (∀ x ∈ xs, x.depth ≤ n) → PyData.depthAll xs ≤ n
  | [], _ => by simp [PyData.depthAll]
  | x :: xs, h => by
    unfold PyData.depthAll
    exact Nat.max_le.mpr ⟨h x List.mem_cons_self, depthAll_le xs fun y hy => h y (List.mem_cons_of_mem _ hy)⟩
theorem cleanAll_of : ∀ {xs : List PyData}, (∀ x ∈ xs, clean x) → cleanAll xs
  | [], _ => by simp [cleanAll]
  | x :: xs, h => by
    simp only [cleanAll]
    exact ⟨h x List.mem_cons_self, cleanAll_of fun y hy => h y (List.mem_cons_of_mem _ hy)⟩
/-- d is clean data at most n deep -/
structure Cl (n : Nat) (d : PyData) : Prop where
  c : clean d
  d : d.depth ≤ n
theorem Cl.shaped {n : Nat} {d : PyData} (h : Cl n d) (hn : n ≤ 64) : SeqAt.shaped d = true := by
  unfold SeqAt.shaped
  rw [canLay_clean d h.c, decide_eq_true (Nat.le_trans h.d hn)]
  rfl
theorem cl_int {i : Int} : Cl 0 (.int i) := ⟨by simp [clean], by simp [PyData.depth]⟩
theorem cl_none : Cl 0 .none := ⟨by simp [clean], by simp [PyData.depth]⟩
theorem cl_list {n : Nat} {xs : List PyData} (h : ∀ x ∈ xs, Cl n x) : Cl (n + 1) (.list xs) :=
  ⟨by simpa [clean] using cleanAll_of fun x hx => (h x hx).c, by
    unfold PyData.depth
    exact Nat.succ_le_succ (depthAll_le xs fun x hx => (h x hx).d)⟩
theorem cl_tup {n : Nat} {xs : List PyData} (h : ∀ x ∈ xs, Cl n x) : Cl (n + 1) (.tuple xs) :=
  ⟨by simpa [clean] using cleanAll_of fun x hx => (h x hx).c, by
    unfold PyData.depth
    exact Nat.succ_le_succ (depthAll_le xs fun x hx => (h x hx).d)⟩
theorem cl_ints {l : List Int} : ∀ x ∈ l.map PyData.int, Cl 0 x := fun x hx => by
  obtain ⟨i, _, rfl⟩ := List.mem_map.mp hx
  exact cl_int
def dInts (l : List Int) : PyData := .list (l.map .int)
theorem cl_dInts {l : List Int} : Cl 1 (dInts l) := cl_list cl_ints
theorem dInts_inj {l m : List Int} : dInts l = dInts m ↔ l = m := by
  constructor
  · intro h
    have h2 := PyData.list.inj h
    exact (List.map_inj_right (fun a b z => PyData.int.inj z)).mp h2
  · intro h; rw [h]
theorem dpAll_ints {K : PySem.W.Frag} {H : Hp} : ∀ {l : List Int}, DpAll K H (l.map V.int) (l.map PyData.int)
  | [] => .nil
  | _ :: _ => .cons (.int _) dpAll_ints
theorem dp_ints {K : PySem.W.Frag} {H : Hp} {a : Addr} {l : List Int} (h : SqL K H a (l.map V.int)) : Dp K H (.ref a) (dInts l) := .lst h dpAll_ints
theorem eqv_ints {l m : List Int} : PyData.eqv (dInts l) (dInts m) = decide (l = m) := by
  by_cases h : l = m
  · rw [decide_eq_true h, h]
    exact (eqv_iff _ _ cl_dInts.c cl_dInts.c).mpr rfl
  · rw [decide_eq_false h]
    cases e : PyData.eqv (dInts l) (dInts m) with
    | false => rfl
    | true => exact absurd (dInts_inj.mp ((eqv_iff _ _ cl_dInts.c cl_dInts.c).mp e)) h
theorem sh_ints {l : List Int} : SeqAt.shaped (dInts l) = true := cl_dInts.shaped (by decide)
theorem eqv_self {n : Nat} {d : PyData} (h : Cl n d) : PyData.eqv d d = true := (eqv_iff d d h.c h.c).mpr rfl
theorem neqv_self {n : Nat} {d : PyData} (h : Cl n d) : (!PyData.eqv d d) = false := by
  rw [eqv_self h]
  rfl
/-- xs[:-1] of a list with one more item -/
theorem cut_last (xs : List V) (y : V) : cutV (xs ++ [y]) none (some (-1)) = xs := by
  have hl : (xs ++ [y]).length = xs.length + 1 := by simp
  unfold cutV
  rw [hl, HT.sIx_none]
  have e : HT.sIx (xs.length + 1) (xs.length + 1) (some (-1)) = xs.length := by
    simp [HT.sIx]
    omega
  rw [e, List.drop_zero, Nat.sub_zero]
  exact List.take_left' rfl


end Rf
namespace Rf
open PySem PySem.Spec PyProof.Rows L2
/-! ### the law's draws: any number of the range may come -/
structure RngAt (H : Hp) (h c : Addr) : Prop where
  ne : h ≠ c
  at_ : ∃ (x p : Int) (cells : List Int), H h = some (.lst [.int x, .ref c, .int p]) ∧ H c = some (.lst (cells.map V.int)) ∧ 0 ≤ x ∧ x < 2147483647 ∧ 0 ≤ p ∧ cells.length ≤ 63
def isHC (h c : Addr) (b : Addr) : Prop := b = h ∨ b = c
theorem RngAt.keep {H H' : Hp} {h c : Addr} (R : RngAt H h c) (e1 : H' h = H h) (e2 : H' c = H c) : RngAt H' h c := by
  obtain ⟨ne, x, p, cells, h1, h2, r⟩ := R
  exact ⟨ne, x, p, cells, e1.trans h1, e2.trans h2, r⟩
theorem RngAt.same {H H' : Hp} {h c : Addr} (R : RngAt H h c) (e : Same H H') : RngAt H' h c := by
  obtain ⟨ne, x, p, cells, h1, h2, r⟩ := R
  exact ⟨ne, x, p, cells, e _ _ h1, e _ _ h2, r⟩
theorem RngAt.off {S : Addr → Prop} {H H' : Hp} {h c : Addr} (R : RngAt H h c) (e : Off S H H') (n1 : ¬ S h) (n2 : ¬ S c) : RngAt H' h c := by
  obtain ⟨ne, x, p, cells, h1, h2, r⟩ := R
  exact ⟨ne, x, p, cells, e _ _ h1 n1, e _ _ h2 n2, r⟩
def spNext : Sp := fun vs H Q _ => ∃ (h c : Addr) (m : Int), vs = [.ref h, .int m] ∧ RngAt H h c ∧ 0 < m ∧ m < 1073741824 ∧
  ∀ (r : Int) (H' : Hp), 0 ≤ r → r < m → RngAt H' h c → Off (isHC h c) H H' → Q (.int r) H'
theorem Off.hc {H H1 H' : Hp} {h c b : Addr} {o : HO} (e : Off (isHC h c) H H') (hb : b = h ∨ b = c) : Off (isHC h c) H (upd H' b o) := fun a u q n => by
  have : a ≠ b := fun z => n (by rw [z]; exact hb)
  rw [upd_ne this]
  exact e a u q n
section
variable {P : Program} {w : World} {K : PySem.W.Frag} {mg : Str → Option Value} {base : Heap}
theorem sc_next : FnScope ["_law_h", "_law_many", "_law_at", "_law_cell"] ["_law_h", "_law_many"] (defScope s_next) := ⟨rfl, rfl, rfl, by decide +kernel, rfl, by decide +kernel, by decide +kernel⟩
theorem ok_next {f : Addr} {fd : FuncData} (D : DefAt K mg "_law_next" s_next ["_law_h", "_law_many"] f fd) (m_max : mg "max" = none) (m_len : mg "len" = none) : FnOk P w K mg base CX0 1 f fd ["_law_h", "_law_many"] spNext := by
  refine D.F.ok sc_next (fun vs H Q E h => ?_) (fun cdv A outer s H vs Q E hr h => ?_)
  · obtain ⟨h, c, m, rfl, _⟩ := h
    rfl
  · obtain ⟨h, c, m, rfl, R, m0, m1, k⟩ := h
    obtain ⟨ne, x, p, cells, e1, e2, x0, x1, p0, hl⟩ := R
    have hlen : (cells.map V.int).length = cells.length := List.length_map _
    refine ⟨_, pss_cons (ps_set (i := 2) sc_next.nd rfl (.inl rfl) (pe_op op_mod (pe_ix (r := rIxL K) ix_list (pv 0) pe_int (fun _ _ => rfl)) (pe_callB (call_max2 rfl) (by rfl) m_max (by decide +kernel) (pa_cons pe_int (pa_cons (pe_callB (r := rLen K) call_len (by rfl) m_len (by decide +kernel) (pa_cons (pe_ix (r := rIxL K) ix_list (pv 0) pe_int (fun _ _ => rfl)) pa_nil)) pa_nil)))))
        (pss_cons (ps_set (i := 3) sc_next.nd rfl (.inl rfl) (pe_ifExp (pt_cmpR (op_neD hr.units) (pe_ix (r := rIxL K) ix_list (pv 0) pe_int (fun _ _ => rfl)) (pe_lst pa_nil) (nomark _)) (pe_ix (r := rIxL K) ix_list (pe_ix (r := rIxL K) ix_list (pv 0) pe_int (fun _ _ => rfl)) (pv 2) (fun _ _ => rfl)) pe_int))
        (pss_cons (ps_if (pt_cmpR op_ge (pv 3) (pe_op op_pow pe_int pe_int) (nomark _)) (pss_cons (ps_asg (pe_op op_fdiv (pv 3) (pv 1)) (pg_sub (pe_ix (r := rIxL K) ix_list (pv 0) pe_int (fun _ _ => rfl)) (pv 2) set_list))
          (pss_one (ps_ret (pe_op op_mod (pv 3) (pv 1))))) pss_nil)
        (pss_cons (ps_asg (pe_op op_mod (pe_op op_add (pe_op op_add (pe_op op_mul (pe_ix (r := rIxL K) ix_list (pv 0) pe_int (fun _ _ => rfl)) pe_int) (pe_op op_mul (pv 3) pe_int)) pe_int) pe_int) (pg_sub (pv 0) pe_int set_list))
        (pss_cons (ps_asg (pe_op op_add (pe_ix (r := rIxL K) ix_list (pv 0) pe_int (fun _ _ => rfl)) pe_int) (pg_sub (pv 0) pe_int set_list))
        (pss_one (ps_ret (pe_op op_mod (pe_op op_fdiv (pe_ix (r := rIxL K) ix_list (pv 0) pe_int (fun _ _ => rfl)) pe_int) (pv 1)))))))), ?_⟩
    -- at
    have q : (0 : Int) < (if (((cells.map V.int).length : Nat) : Int) > 1 then (((cells.map V.int).length : Nat) : Int) else 1) := by split <;> omega
    refine sq_val (.int (p % (if (((cells.map V.int).length : Nat) : Int) > 1 then (((cells.map V.int).length : Nat) : Int) else 1))) (fun Q k => ?_) ?_
    · exact ⟨_, rfl, h, _, 2, _, rfl, rfl, sq_of e1, atI_nat (j := 2) rfl, _, rfl, h, _, 1, _, rfl, rfl, sq_of e1, atI_nat (j := 1) rfl, c, _, rfl, .inl (sq_of e2), _, _, rfl, _, _, rfl, rfl, q, k⟩
    -- cell
    refine sq_set (fun v H1 => Same H H1 ∧ ∃ z, v = .int z ∧ ((10 ^ 18 : Int) ≤ z → ∃ j : Nat, p % (if (((cells.map V.int).length : Nat) : Int) > 1 then (((cells.map V.int).length : Nat) : Int) else 1) = (j : Int) ∧ j < cells.length)) (fun Q k => ?_) (fun v H1 h1 => ?_)
    · refine ⟨_, rfl, h, _, 1, _, rfl, rfl, sq_of e1, atI_nat (j := 1) rfl, Nat.zero_le _, fun l nl => ⟨dInts cells, dInts [], dp_ints (sq_of (Same.new nl _ _ e2)), dp_ints (l := []) (sq_of upd_same), sh_ints, sh_ints, _, rfl, ?_⟩⟩
      rw [eqv_ints]
      refine ite2 (fun hc => ?_) (fun _ => k _ _ ⟨Same.new nl, _, rfl, fun z => absurd z (by decide)⟩)
      have hne : cells ≠ [] := fun z => by rw [z] at hc; simp at hc
      have h0 : 0 < cells.length := List.length_pos_iff.mpr hne
      obtain ⟨j, ej, lj⟩ : ∃ j : Nat, p % (if (((cells.map V.int).length : Nat) : Int) > 1 then (((cells.map V.int).length : Nat) : Int) else 1) = (j : Int) ∧ j < cells.length := by
        rw [hlen]
        have q : (if ((cells.length : Nat) : Int) > 1 then ((cells.length : Nat) : Int) else 1) = (cells.length : Int) := by split <;> omega
        rw [q]
        have b1 := Int.emod_nonneg p (b := (cells.length : Int)) (by omega)
        have b2 := Int.emod_lt_of_pos p (b := (cells.length : Int)) (by omega)
        exact ⟨(p % (cells.length : Int)).toNat, by omega, by omega⟩
      refine ⟨_, rfl, h, _, 1, _, rfl, rfl, sq_of (Same.new nl _ _ e1), atI_nat (j := 1) rfl, _, rfl, c, _, _, _, rfl, rfl, sq_of (Same.new nl _ _ e2), atI_g ej lj, ?_⟩
      exact k _ _ ⟨Same.new nl, _, rfl, fun _ => ⟨j, ej, lj⟩⟩
    · obtain ⟨s1, z, rfl, hat⟩ := h1
      have f1 := s1 _ _ e1
      have f2 := s1 _ _ e2
      refine sq_ifP (p := (10 ^ 18 : Int) ≤ z) (fun Q k => ⟨_, rfl, _, _, rfl, rfl, ⟨by decide, by decide, by decide⟩, _, _, rfl, rfl, _, rfl, k⟩) (fun hz => ?_) (fun hz => ?_)
      · obtain ⟨j, ej, lj⟩ := hat hz
        refine ⟨_, rfl, _, rfl, _, _, rfl, rfl, ⟨m0, m1⟩, _, rfl, h, _, 1, _, rfl, rfl, sq_of f1, atI_nat (j := 1) rfl, _, rfl, c, _, _, j, rfl, rfl, f2, ixN_nat ej (by rw [hlen]; exact lj), ?_⟩
        refine ⟨_, rfl, _, rfl, _, _, rfl, rfl, m0, ?_⟩
        refine k _ _ (Int.emod_nonneg _ (by omega)) (Int.emod_lt_of_pos _ m0) ⟨ne, x, p, cells.set j (z / m), ?_, ?_, x0, x1, p0, by rw [List.length_set]; exact hl⟩ ((Off.same s1).hc (H1 := H) (.inr rfl))
        · rw [upd_ne ne]
          exact f1
        · rw [upd_same, map_set]
      · refine sq_nx ?_
        have b1 := Int.emod_nonneg (x * 48271 + z * 69621 + 11) (b := 2147483647) (by decide)
        have b2 := Int.emod_lt_of_pos (x * 48271 + z * 69621 + 11) (b := 2147483647) (by decide)
        refine ⟨_, rfl, h, _, 0, _, rfl, rfl, sq_of f1, atI_nat (j := 0) rfl, x, 48271, rfl, rfl, .inr ⟨by decide, by decide⟩, _, rfl, z, 69621, rfl, rfl, .inr ⟨by decide, by decide⟩, _, _, rfl, rfl, _, _, rfl, rfl, _, _, rfl, rfl, (show (0 : Int) < 2147483647 by decide), ?_⟩
        refine ⟨_, rfl, h, _, 0, 0, rfl, rfl, f1, rfl, ?_⟩
        refine ⟨_, rfl, h, _, 2, _, rfl, rfl, sq_of upd_same, atI_nat (j := 2) rfl, _, _, rfl, rfl, _, rfl, h, _, 2, 2, rfl, rfl, upd_same, rfl, ?_⟩
        refine ⟨_, rfl, h, _, 0, _, rfl, rfl, sq_of upd_same, atI_nat (j := 0) rfl, _, _, rfl, rfl, ⟨by decide, by decide⟩, _, rfl, _, _, rfl, rfl, m0, ?_⟩
        refine k _ _ (Int.emod_nonneg _ (by omega)) (Int.emod_lt_of_pos _ m0) ⟨ne, (x * 48271 + z * 69621 + 11) % 2147483647, p + 1, cells, ?_, ?_, b1, b2, by omega, hl⟩ (((Off.same s1).hc (H1 := H) (.inl rfl)).hc (H1 := H) (.inl rfl))
        · rw [upd_same]
          rfl
        · rw [upd_ne ne.symm, upd_ne ne.symm]
          exact f2
end
/-! ### what a piece of the law leaves: the draws' lists may turn, all else stands -/
structure Fr (h c : Addr) (H H' : Hp) : Prop where
  off : Off (isHC h c) H H'
  rng : RngAt H' h c
theorem Fr.refl {h c : Addr} {H : Hp} (R : RngAt H h c) : Fr h c H H := ⟨Off.refl, R⟩
theorem Fr.trans {h c : Addr} {H H1 H2 : Hp} (a : Fr h c H H1) (b : Fr h c H1 H2) : Fr h c H H2 := ⟨a.off.trans b.off, b.rng⟩
theorem Fr.same {h c : Addr} {H H' H2 : Hp} (a : Fr h c H H') (s : Same H' H2) : Fr h c H H2 := ⟨a.off.trans (Off.same s), a.rng.same s⟩
theorem RngAt.fresh {H : Hp} {h c p : Addr} (R : RngAt H h c) (np : H p = none) : ¬ isHC h c p := by
  obtain ⟨ne, x, q, cells, h1, h2, _⟩ := R
  rintro (e | e)
  · rw [e, h1] at np; cases np
  · rw [e, h2] at np; cases np
theorem Fr.free {h c p : Addr} {H H' : Hp} (a : Fr h c H H') (np : H' p = none) : H p = none := by
  cases e : H p with
  | none => rfl
  | some o =>
    have := a.off p o e (a.rng.fresh np)
    rw [np] at this
    cases this
theorem RngAt.upd {H : Hp} {h c p : Addr} {o : HO} (R : RngAt H h c) (n : ¬ isHC h c p) : RngAt (L2.upd H p o) h c :=
  R.keep (upd_ne fun z => n (.inl z.symm)) (upd_ne fun z => n (.inr z.symm))
theorem Off.mut {S : Addr → Prop} {H H' : Hp} {p : Addr} {o : HO} (e : Off S H H') (h : H p = none) : Off S H (L2.upd H' p o) := fun a u ha n => by
  rw [upd_ne (ne_of_none ha h)]
  exact e a u ha n
/-- a new object is written -/
theorem Fr.mut {h c p : Addr} {H H' : Hp} {o : HO} (a : Fr h c H H') (np : H p = none) (n : ¬ isHC h c p) : Fr h c H (L2.upd H' p o) := ⟨a.off.mut np, a.rng.upd n⟩
theorem Fr.new {h c p : Addr} {H H' : Hp} {o : HO} (a : Fr h c H H') (np : H' p = none) : Fr h c H (L2.upd H' p o) := a.same (Same.new np)
theorem Fr.get {h c p : Addr} {H H' : Hp} {o : HO} (a : Fr h c H H') (e : H p = some o) (n : ¬ isHC h c p) : H' p = some o := a.off p o e n


end Rf
namespace Rf
open PySem PySem.Spec PyProof.Rows L2
/-! ### an own exception whose __init__ says super().__init__(..) -/
section
open NdefX PySem.W PySem.Calls
theorem look_class {y : Str} {cc c : Addr} (h : ([("__class__", cc)] : List (Str × Addr)).lookup y = some c) : y = "__class__" ∧ c = cc := by
  by_cases e : y = "__class__"
  · subst e
    have : some cc = some c := h
    exact ⟨rfl, (Option.some.inj this).symm⟩
  · have : ([("__class__", cc)] : List (Str × Addr)).lookup y = none := by
      have e2 : (y == ("__class__" : Str)) = false := by simpa using e
      simp [List.lookup, e2]
    rw [this] at h
    cases h
theorem in_base {K : PySem.W.Frag} {base : Heap} {a : Addr} {o : Obj} (h : K.In base) (e : K.lookup a = some o) : base.get? a = some o := h _ _ e
/-- what the top has left of such an __init__ -/
structure SupAt (P : Program) (K : PySem.W.Frag) (mg : Str → Option Value) (C f cc cda : Addr) (fd : FuncData) (qual : Str) (st : Stmt) : Prop where
  lk : ∃ (oc : Value) (od an : Option Addr) (osl : Array (Option Value)) (kV doc pm ct : Value), fd = ksFn "__init__" qual (defArgs st) (defBody st) (defScope st) .none kV doc pm an (.ref cda) ct cc ∧ K.lookup f = some ⟨oc, od, .func fd, osl⟩
  code : codeIn K (.ref cda) qual = true
  file : ∃ (ccl : Value) (cdd : Option Addr) (vs : Array Value) (ccs : Array (Option Value)) (fl : Str) (tf : Tok), K.lookup cda = some ⟨ccl, cdd, .fields vs, ccs⟩ ∧ vs[2]? = some (.str fl tf) ∧ ((P.main.file : Str) == fl) = true
  cell : ∃ (cl : Value) (cld : Option Addr) (csl : Array (Option Value)), K.lookup cc = some ⟨cl, cld, .cell (some (.ref C)), csl⟩
  cls : ∃ cd, clsIn K C = some cd
  me : mroIn K C (.ref C) = some true
  sup : mg "super" = none
  top : (P.main.scope.names.lookup ("super" : Str)).isSome = false
  ve : ks_superIn K C C "__init__" = some (some (.builtin "ValueError.__init__"))
  sub : subIn K (.ref C) (.type "ValueError") = some true
  any : nsIn K cStatics "thirdparty.any" = some none
variable {P : Program} {w : World} {K : PySem.W.Frag} {mg : Str → Option Value} {base : Heap} {CX : CXT}
theorem ok_super {C f cc cda : Addr} {fd : FuncData} {qual : Str} {st : Stmt} {N ps : List Str} {k : Nat} {sp : Sp} {e : Expr} {rest : List Stmt} {p0 p1 p2 p3 p4 : Pos} {ar : Arg} (Z : SupAt P K mg C f cc cda fd qual st) (S : NScope N ps ["__class__"] (defScope st)) (T : OexC K C)
    (hbd : defBody st = .Expr (.Call (.Attribute (.Call (.Name "super" p0) [] [] p1) "__init__" p2) [e] [] p3) p4 :: rest) (hks : (defScope st).names.lookup ("super" : Str) = some .globalImplicit)
    (har : ((defArgs st).posonlyargs ++ (defArgs st).args).head? = some ar) (hself : ps.head? = some ar.arg)
    (len : ∀ vs H Q E, sp vs H Q E → vs.length = ps.length)
    (hbody : ∀ (A : Around) (outer : List Env) (s : Shared) (H : Hp) (vs : List V) (Q : VK) (E : XK), Room k (A.deeper (ksEnv qual (defScope st) s.heap.objs.size f (.ref cda) cc)) → sp vs H Q E →
      ∃ (a : Addr) (vr : List V) (te : TE) (t : TS), vs = .ref a :: vr ∧ H a = some (exo a C none) ∧ PE (ncx CX P w K mg base N ⟨"__init__", qual, defArgs st, defBody st, defScope st, [("__class__", cc)], cda⟩ f A outer s H E) e te ∧
        PSs (ncx CX P w K mg base N ⟨"__init__", qual, defArgs st, defBody st, defScope st, [("__class__", cc)], cda⟩ f A outer s H E) rest t ∧
        te (startF N vs [none]) H (fun v H1 => [v].length = 1 ∧ H1 a = some (exo a C none) ∧ t { nx := fun _ H' => Q .non H', rt := Q } (startF N vs [none]) H1))
    (hev : ∀ env : Env, ∃ pl : Sem Bool, eval (.Call (.Attribute (.Call (.Name "super" p0) [] [] p1) "__init__" p2) [e] [] p3) env = (do
      let ov ← attributeBase (.Call (.Name "super" p0) [] [] p1) "__init__" env (eval (.Call (.Name "super" p0) [] [] p1) env)
      standAt p2.atName
      let (f, first) ← holding [ov] (getMethod ov "__init__" pl)
      callWith p3 f first (backTo p3 (starEach [e] env)) []))
    (hi : ∀ L : Addr, interactive (ksEnv qual (defScope st) L f (.ref cda) cc) = false)
    (hsw : ∀ env : Env, swapsWith (.Call (.Attribute (.Call (.Name "super" p0) [] [] p1) "__init__" p2) [e] [] p3) none p4.line env = pure false)
    (he : ∀ env : Env, starEach [e] env = (false, eval e env) :: starEach [] env := by intro env; rfl) :
    FnOk P w K mg base CX (k + 1) f fd ps sp := by
  obtain ⟨oc, od, an, osl, kV, doc, pm, ct, rfl, lk⟩ := Z.lk
  obtain ⟨ccl, cdd, vcs, ccs, fl, tf, hcode, hvs, hfile⟩ := Z.file
  obtain ⟨cl, cld, csl, hcell⟩ := Z.cell
  obtain ⟨cdD, hD⟩ := Z.cls
  refine ⟨len, fun A outer s H args us vs Q E hr e0 hb r hsp => ?_⟩
  have hl := len _ _ _ _ hsp
  have KX : K.In s.heap := e0.mod.kin.keeps fun b o q => (e0.bs b o q).1
  have lim : s.heap.NoLimit := e0.mod.nolimit.keeps fun b o q => (e0.bs b o q).1
  have C0 : CellsAt [("__class__", cc)] ["__class__"] [none] s.heap H := by
    refine ⟨rfl, fun y c q => ?_, fun x y c q1 q2 => ?_, fun i y q => ?_⟩
    · obtain ⟨_, rfl⟩ := look_class q
      have := e0.bs _ _ (e0.mod.kin _ _ hcell)
      exact ⟨this.2, _, _, this.1, rfl⟩
    · rw [(look_class q1).1, (look_class q2).1]
    · have : i = 0 ∧ y = "__class__" := by
        cases i with
        | zero => exact ⟨rfl, (Option.some.inj q).symm⟩
        | succ i => cases q
      obtain ⟨rfl, rfl⟩ := this
      exact ⟨cc, rfl, fun v z => by cases z⟩
  refine codeAny_call_function hr.depth (KX _ _ lk) rfl S.co S.gen rfl (PySem.W.codeRec_of KX Z.code) (hb _ _ _ _ ?_)
  refine wpAny_newFunctionEnv S.nocell (fun ⟨n, _⟩ hy => S.par n (List.of_mem_zip hy).1) (fun h₁ hns hsb => ⟨lim.fresh _ hsb, ?_⟩) S.kind
  show codeAny _ _ (.func (defBody st) (ksEnv qual (defScope st) s.heap.objs.size f (.ref cda) cc)) _ _
  have kp : ∀ b o, s.heap.get? b = some o → h₁.get? b = some o := fun b o q => hsb.extBut b o (Nat.ne_of_lt (Heap.lt_size q)) (Heap.get?_push_of_some _ q)
  obtain ⟨a, vr, te, t, rfl, ha, hte, ht, hq⟩ := hbody A outer s H vs Q E (hr.deeper _) hsp
  have I : Inv (ncx CX P w K mg base N ⟨"__init__", qual, defArgs st, defBody st, defScope st, [("__class__", cc)], cda⟩ f A outer s H E) [] (startF N (.ref a :: vr) [none]) H { s with heap := h₁, toks := s.toks + (ps.zip us).length } := inv_startN S hr.hd e0 hl r C0 hns kp
  refine ks_codeAny_funcAt ?_
  rw [hbd]
  obtain ⟨pl, hev⟩ := hev (ksEnv qual (defScope st) s.heap.objs.size f (.ref cda) cc)
  refine ks_wpAt_execs_cons (ks_wpAt_Expr_any (ks_wpAt_MethodCall (pl := pl) ?_ hev) (hi _) (hsw _))
  have X1 : K.In h₁ := KX.keeps kp
  obtain ⟨oD, hD1, hD2⟩ : ∃ oD, h₁.get? C = some oD ∧ oD.data = .cls cdD := by
    unfold clsIn at hD
    split at hD
    · rename_i c d cd' sl ho
      cases hD
      exact ⟨_, X1 _ _ ho, rfl⟩
    · cases hD
  obtain ⟨t1, hx⟩ := exo_at I.hok ha
  have hkc : (defScope st).names.lookup ("__class__" : Str) = some .free := S.frk _ List.mem_cons_self
  have har2 : ar.arg ∈ ps := by
    cases ps with
    | nil => cases hself
    | cons x l =>
      have : x = ar.arg := Option.some.inj hself
      rw [this]
      exact List.mem_cons_self
  have hka : (defScope st).names.lookup ar.arg = some .local := S.par _ har2
  have hv : (fun y => (ps.zip us).reverse.lookup y) ar.arg = some (.ref a) := by
    cases r with
    | @cons _ u0 _ ur ra rw' =>
      obtain rfl : u0 = Value.ref a := ra
      have nd : ps.Nodup := by
        have q := S.nd.sublist (List.take_sublist (ps.length + 1) N)
        have p2 : N.take (ps.length + 1) = ps ++ (["__class__"] : List Str) := S.pre
        rw [p2] at q
        exact (List.nodup_append.mp q).1
      exact zip_look (i := 0) nd (by rw [← hself]; cases ps <;> rfl) rfl
  obtain ⟨mb, hb1, hb2⟩ := e0.mod.blt
  have bk : ∀ b o, base.get? b = some o → h₁.get? b = some o := fun b o q => kp _ _ (e0.bs b o q).1
  refine ks_wpAt_super_base (env := ksEnv qual (defScope st) s.heap.objs.size f (.ref cda) cc) hks hkc rfl rfl (X1 _ _ lk) rfl har rfl (X1 _ _ hcode) rfl hvs hfile Z.top ?_
  refine ks_loadName_global S.kind hks (loadGlobal_builtin (env := ksEnv qual (defScope st) s.heap.objs.size f (.ref cda) cc) (e0.mod.glob.keeps bk) Z.sup (hb1.keeps bk) ((hb2 _ (by decide)).trans rfl) ⟨rfl, ?_⟩)
  refine wpAny_loadName_free S.kind hkc rfl ⟨_, X1 _ _ hcell, rfl⟩ ?_
  refine wpAny_loadName_local S.kind hka hns hv ?_
  refine ks_wpAny_isType_cls hD1 hD2 ⟨rfl, ?_⟩
  refine ks_wpAny_call_super hD1 hD2 hx rfl (fun c q => by cases q) (looks_mroIn X1 Z.me) (fun h' hso k => ?_)
  have I2 := I.kept (t' := s.toks + (ps.zip us).length) k
  have X2 : K.In h' := X1.keeps k
  have J : InstAt h' a _ C none := ⟨k _ _ hx, rfl, rfl, trivial⟩
  have hve := Z.ve
  unfold ks_superIn at hve
  rw [hD] at hve
  refine kxs_getMethod kxs_ValueError hso (looks_opaque X2 Z.any) (l₀ := cdD.mro) (fun A Q E s k q => wpAny_bind ((looks_clsIn X2 hD) A _ E s k (wpAny_pure q))) rfl X2 hve (J.type.andThen (looks_subIn X2 Z.sub)) (ks_ne X2 J hD) rfl ?_
  have k3 : ∀ b o, h'.get? b = some o → (h'.push (kxs_mw "ValueError.__init__" a)).get? b = some o := fun b o q => Heap.get?_push_of_some _ q
  have I3 := I2.kept (t' := s.toks + (ps.zip us).length + 1) k3
  have I4 : Inv (ncx CX P w K mg base N ⟨"__init__", qual, defArgs st, defBody st, defScope st, [("__class__", cc)], cda⟩ f A outer s H E) [(h'.objs.size, kxs_mw "ValueError.__init__" a)] _ H _ := I3.pins_of fun p hp => by
    rw [List.mem_singleton.mp hp]
    exact ⟨Heap.get?_push_at rfl rfl, I2.hok.fresh (Nat.le_refl _), (Nat.ne_of_lt I2.lt).symm, I2.nofs (Nat.le_refl _), fun v z => by cases z⟩
  have hpa : PA (ncx CX P w K mg base N ⟨"__init__", qual, defArgs st, defBody st, defScope st, [("__class__", cc)], cda⟩ f A outer s H E) [e] _ := pa_cons hte pa_nil (hs := he _)
  have hrun := hpa.run p3 _ _ _ H (fun vs H1 => vs.length = 1 ∧ H1 a = some (exo a C none) ∧ t { nx := fun _ H' => Q .non H', rt := Q } (startF N (.ref a :: vr) [none]) H1) I4 hq
  rw [he] at hrun ⊢
  refine kxs_callWith (i := "ValueError.__init__") (x := a) rfl (evalArgs_plain (wpAny_mono hrun (fun us2 s1 hs => ?_) fun _ _ q => q))
  obtain ⟨vs2, H1, I5, rv2, hv1, ha1, hq1⟩ := hs
  obtain ⟨hu, _⟩ := I5.pin _ (List.mem_append_right _ List.mem_cons_self)
  refine ⟨hu, ?_⟩
  obtain ⟨t2, hx2⟩ := exo_at I5.hok ha1
  obtain ⟨nm, q, N2, bs, bm, sn, sub, ab, col, dd, k0, k1, k2, k3', k5, hC, hbm⟩ := T.cls
  obtain ⟨hh, g, d, tk, os⟩ := s1
  have hz : us2.length ≤ sizeLine := by
    have q2 : vs2.length = us2.length := rv2.length
    rw [← q2, hv1]
    decide
  refine wpAny_call (codeAny_of_tree ?_)
  show wpAny _ _ (callAny (.ref h'.objs.size) ⟨us2, []⟩) _ _ _
  simp only [callAny]
  refine wpAny_bind (wpAny_load hu ?_)
  have isM : (kxs_mw "ValueError.__init__" a).cls = .type "method-wrapper" := rfl
  rw [isM]
  refine KFB.if_so (by decide) ?_
  refine wpAny_bind (check_bound_init F.excBase_ValueError.toExcCallFacts (I5.kIn _ _ hC) hx2 rfl ?_)
  refine wpAny_bind (wpAny_pure (wpAny_pure ?_))
  refine ⟨plainId_quiet F.excBase_ValueError.init.plain _, codeAny_builtin F.excBase_ValueError.initEntry ?_⟩
  refine exc_init_tree (cls := .ref C) (t0 := t2) (dv := none) (c2 := .none) (c3 := .none) (b4 := .bool false) hx2 hz fun h2 kk hx3 _ => ?_
  have J6 := I5.write (t' := tk) (x := a) (e := a) (o := exo a C none) (by rw [ha1]; exact True.intro) (.inl rfl) kk ⟨_, hx3⟩ (exo_ok hx3)
  have eu : upd H1 a (exo a C none) = H1 := by
    funext b
    by_cases hb : b = a
    · subst hb
      rw [upd_same, ha1]
    · rw [upd_ne hb]
  rw [eu] at J6
  have J7 : Inv (ncx CX P w K mg base N ⟨"__init__", qual, defArgs st, defBody st, defScope st, [("__class__", cc)], cda⟩ f A outer s H E) [] (startF N (.ref a :: vr) [none]) H1 ⟨h2, g, d, tk, os⟩ := J6.pins_of fun p hp => by cases hp
  show PySem.wpAt _ _ _ (execs rest _) _ _ _
  refine wpAt_of_wpAny (wpAny_mono (ht.run [] _ _ H1 _ J7 hq1) (fun fl s' hs => ?_) fun _ _ z => z)
  exact match fl, hs with
    | .ret _, ⟨v, _, Hz, Jz, rz, z⟩ => ⟨v, Hz, Jz.os, Jz.bare, Jz.base, Jz.hok, rz, z⟩
    | .next, ⟨_, Hz, Jz, z⟩ => ⟨.non, Hz, Jz.os, Jz.bare, Jz.base, Jz.hok, rfl, z⟩
    | .brk, ⟨_, _, _, z⟩ => z.elim
    | .cont, ⟨_, _, _, z⟩ => z.elim
end


end Rf
namespace Rf
open PySem PySem.Spec PyProof.Rows L2
/-! ### the program's own exceptions -/
/-- a class with such an __init__ -/
structure InitAt (P : Program) (K : PySem.W.Frag) (mg : Str → Option Value) (x : Str) (C f cc cda : Addr) (fd : FuncData) (qual : Str) (st : Stmt) (ps : List Str) : Prop where
  Z : SupAt P K mg C f cc cda fd qual st
  T : OexC K C
  iC : PySem.W.findIn K (.ref C) "__init__" = some (some (.ref f))
  tI : PySem.W.typeIn K (.ref f) = some (.type "function")
  b : Binds K fd ps []
  gC : mg x = some (.ref C)
/-- a class without one -/
structure OwnAt (K : PySem.W.Frag) (mg : Str → Option Value) (x : Str) (C : Addr) : Prop where
  q : PySem.W.excIn K C [.type "ValueError", .type "Exception", .type "BaseException", .type "object"] "ValueError.__new__" = true
  gC : mg x = some (.ref C)
  kC : PySem.W.keepIn K (.ref C) = true
  eC : PySem.W.subIn K (.ref C) (.type "BaseException") = some true
  tC : PySem.W.typeIn K (.ref C) = some (.type "type")
theorem num_len {n : Int} (h0 : 0 ≤ n) (h1 : n < 1000) : (Str.ofString (toString n)).length ≤ 3 := PyProof.Rows.toString_length_le h0 (by decide) (by omega)
theorem num_log {n : Int} (h0 : 0 ≤ n) (h1 : n < 1000) : n.natAbs.log2 < 1920 := by
  have h : n.natAbs < 2 ^ 10 := by omega
  rcases Nat.eq_zero_or_pos n.natAbs with e | e
  · rw [e]
    decide
  · exact Nat.lt_of_lt_of_le ((Nat.log2_lt (by omega)).mpr h) (by decide)
theorem app_len (a b : Str) : (a ++ b).length = a.length + b.length := by
  rw [TL.len_tl, TL.len_tl, TL.len_tl, TL.tl_append, List.length_append]
/-- BadBook(at, why) -/
def spBB (C : Addr) : Sp := fun vs H Q _ => ∃ (a : Addr) (n : Int) (y : Str), vs = [.ref a, .int n, .str y] ∧ H a = some (exo a C none) ∧ 0 ≤ n ∧ n < 1000 ∧ y.length ≤ 20 ∧
  ∀ d H', H d = none → d ≠ a → H' a = some (exo a C (some d)) → H' d = some (exd d [("why", .str y), ("at", .int n)]) → (∀ b, b ≠ a → b ≠ d → H' b = H b) → Q .non H'
/-- NoMove(number), BadText(row) -/
def spOne (C : Addr) (fl : Str) : Sp := fun vs H Q _ => ∃ (a : Addr) (n : Int), vs = [.ref a, .int n] ∧ H a = some (exo a C none) ∧ 0 ≤ n ∧ n < 1000 ∧
  ∀ d H', H d = none → d ≠ a → H' a = some (exo a C (some d)) → H' d = some (exd d [(fl, .int n)]) → (∀ b, b ≠ a → b ≠ d → H' b = H b) → Q .non H'
theorem exc_end {H1 H2 : Hp} {a d : Addr} {o : HO} (na : H1 a = none) (hb : ∀ b, b ≠ a → b ≠ d → H2 b = H1 b) (nd : d ≠ a) : upd (del H2 a) d o = upd H1 d o := by
  funext b
  by_cases e : b = d
  · subst e
    rw [upd_same, upd_same]
  · rw [upd_ne e, upd_ne e]
    by_cases e2 : b = a
    · subst e2
      rw [del_same, na]
    · rw [del_ne e2, hb b e2 e]
/-- what raising BadBook wants -/
theorem raise_bb {C : Addr} {H : Hp} {Q : XK} {n : Int} {y : Str} (h0 : 0 ≤ n) (h1 : n < 1000) (hy : y.length ≤ 20) (k : ∀ d, H d = none → Q (.ref C) (some d) (upd H d (.xd [("why", .str y), ("at", .int n)]))) :
    [V.int n, .str y].length ≤ 1000 ∧ ∀ a, H a = none → spBB C (.ref a :: ([V.int n, .str y] ++ [])) (upd H a (exo a C none)) (fun v H2 => v = .non ∧ ∃ (d : Addr) (fs : List (Str × V)), H2 a = some (exo a C (some d)) ∧ H2 d = some (exd d fs) ∧ H d = none ∧ Q (.ref C) (some d) (upd (del H2 a) d (.xd fs))) (fun _ _ _ => False) := by
  refine ⟨by show 2 ≤ 1000; decide, fun a na => ⟨a, n, y, rfl, upd_same, h0, h1, hy, fun d H' nd da ha hd hb => ⟨rfl, d, _, ha, hd, ?_, ?_⟩⟩⟩
  · rw [upd_ne da] at nd
    exact nd
  · rw [upd_ne da] at nd
    rw [exc_end na (fun b e1 e2 => by rw [hb b e1 e2, upd_ne e1]) da]
    exact k d nd
theorem raise_one {C : Addr} {H : Hp} {Q : XK} {n : Int} {fl : Str} (h0 : 0 ≤ n) (h1 : n < 1000) (k : ∀ d, H d = none → Q (.ref C) (some d) (upd H d (.xd [(fl, .int n)]))) :
    [V.int n].length ≤ 1000 ∧ ∀ a, H a = none → spOne C fl (.ref a :: ([V.int n] ++ [])) (upd H a (exo a C none)) (fun v H2 => v = .non ∧ ∃ (d : Addr) (fs : List (Str × V)), H2 a = some (exo a C (some d)) ∧ H2 d = some (exd d fs) ∧ H d = none ∧ Q (.ref C) (some d) (upd (del H2 a) d (.xd fs))) (fun _ _ _ => False) := by
  refine ⟨by show 1 ≤ 1000; decide, fun a na => ⟨a, n, rfl, upd_same, h0, h1, fun d H' nd da ha hd hb => ⟨rfl, d, _, ha, hd, ?_, ?_⟩⟩⟩
  · rw [upd_ne da] at nd
    exact nd
  · rw [upd_ne da] at nd
    rw [exc_end na (fun b e1 e2 => by rw [hb b e1 e2, upd_ne e1]) da]
    exact k d nd
section
variable {P : Program} {w : World} {K : PySem.W.Frag} {mg : Str → Option Value} {base : Heap} {C f cc cda : Addr} {fd : FuncData}
theorem scx_bbinit : NdefX.NScope ["self", "at", "why", "__class__"] ["self", "at", "why"] ["__class__"] (defScope s_bbinit) := NdefX.nscope_by (by decide +kernel)
theorem ok_bbinit (D : InitAt P K mg "BadBook" C f cc cda fd "BadBook.__init__" s_bbinit ["self", "at", "why"]) (hat : PySem.W.findIn K (.ref C) "at" = some none) (hwhy : PySem.W.findIn K (.ref C) "why" = some none) : FnOk P w K mg base CX0 1 f fd ["self", "at", "why"] (spBB C) := by
  refine ok_super (k := 0) D.Z scx_bbinit D.T rfl rfl rfl rfl (fun vs H Q E h => ?_) (fun A outer s H vs Q E hr h => ?_) (fun env => ⟨_, rfl⟩) (fun L => by rfl) (fun env => by rfl)
  · obtain ⟨a, n, y, rfl, _⟩ := h
    rfl
  · obtain ⟨a, n, y, rfl, ha, h0, h1, hy, k⟩ := h
    refine ⟨a, [.int n, .str y], _, _, rfl, ha, pe_joined (PJ.cons pe_str (PJ.cons (pe_fmt (pv 2)) (PJ.cons pe_str (PJ.cons (pe_fmt (pv 1)) PJ.nil)))), pss_cons (ps_ost (pv 0) (pv 1)) (pss_one (ps_ost (pv 0) (pv 2))), ?_⟩
    have l1 := num_len h0 h1
    refine ⟨_, rfl, ?_, _, rfl, .inl ⟨y, rfl, sz_of (by omega), _, rfl, ?_, _, rfl, ?_, _, rfl, .inr ⟨n, rfl, num_log h0 h1, _, rfl, ?_, rfl, ha, ?_⟩⟩⟩
    · exact (by decide +kernel : ((Str.empty : Str) ++ ("no book: " : Str)).length ≤ sizeLine)
    · rw [app_len]
      have : ((Str.empty : Str) ++ ("no book: " : Str)).length = 9 := by decide +kernel
      rw [this]
      exact sz_of (by omega)
    · rw [app_len, app_len]
      have : ((Str.empty : Str) ++ ("no book: " : Str)).length = 9 := by decide +kernel
      have e2 : (" at " : Str).length = 4 := by decide +kernel
      rw [this, e2]
      exact sz_of (by omega)
    · rw [app_len, app_len, app_len]
      have : ((Str.empty : Str) ++ ("no book: " : Str)).length = 9 := by decide +kernel
      have e2 : (" at " : Str).length = 4 := by decide +kernel
      rw [this, e2]
      exact sz_of (by omega)
    · refine ⟨_, rfl, _, rfl, a, C, rfl, D.T, hat, .inl ⟨ha, fun d nd da => ?_⟩⟩
      refine ⟨_, rfl, _, rfl, a, C, rfl, D.T, hwhy, .inr ⟨d, [("at", .int n)], upd_same, by rw [upd_ne da, upd_same], by show 1 ≤ 900; decide, ?_⟩⟩
      refine k d _ nd da ?_ upd_same (fun b e1 e2 => ?_)
      · rw [upd_ne da.symm, upd_same]
      · rw [upd_ne e2, upd_ne e1, upd_ne e2]
theorem scx_nminit : NdefX.NScope ["self", "number", "__class__"] ["self", "number"] ["__class__"] (defScope s_nminit) := NdefX.nscope_by (by decide +kernel)
theorem ok_nminit (D : InitAt P K mg "NoMove" C f cc cda fd "NoMove.__init__" s_nminit ["self", "number"]) (hat : PySem.W.findIn K (.ref C) "number" = some none) : FnOk P w K mg base CX0 1 f fd ["self", "number"] (spOne C "number") := by
  refine ok_super (k := 0) D.Z scx_nminit D.T rfl rfl rfl rfl (fun vs H Q E h => ?_) (fun A outer s H vs Q E hr h => ?_) (fun env => ⟨_, rfl⟩) (fun L => by rfl) (fun env => by rfl)
  · obtain ⟨a, n, rfl, _⟩ := h
    rfl
  · obtain ⟨a, n, rfl, ha, h0, h1, k⟩ := h
    refine ⟨a, [.int n], _, _, rfl, ha, pe_joined (PJ.cons pe_str (PJ.cons (pe_fmt (pv 1)) (PJ.cons pe_str PJ.nil))), pss_one (ps_ost (pv 0) (pv 1)), ?_⟩
    have l1 := num_len h0 h1
    have e1 : ((Str.empty : Str) ++ ("move " : Str)).length = 5 := by decide +kernel
    have e2 : (" doesn't fit" : Str).length = 12 := by decide +kernel
    refine ⟨_, rfl, by rw [e1]; exact sz_of (by decide), _, rfl, .inr ⟨n, rfl, num_log h0 h1, _, rfl, by rw [app_len, e1]; exact sz_of (by omega), _, rfl, by rw [app_len, app_len, e1, e2]; exact sz_of (by omega), rfl, ha, ?_⟩⟩
    refine ⟨_, rfl, _, rfl, a, C, rfl, D.T, hat, .inl ⟨ha, fun d nd da => ?_⟩⟩
    exact k d _ nd da upd_same (by rw [upd_ne da, upd_same]) (fun b e1 e2 => by rw [upd_ne e1, upd_ne e2])
theorem scx_btinit : NdefX.NScope ["self", "row", "__class__"] ["self", "row"] ["__class__"] (defScope s_btinit) := NdefX.nscope_by (by decide +kernel)
theorem ok_btinit (D : InitAt P K mg "BadText" C f cc cda fd "BadText.__init__" s_btinit ["self", "row"]) (hat : PySem.W.findIn K (.ref C) "row" = some none) : FnOk P w K mg base CX0 1 f fd ["self", "row"] (spOne C "row") := by
  refine ok_super (k := 0) D.Z scx_btinit D.T rfl rfl rfl rfl (fun vs H Q E h => ?_) (fun A outer s H vs Q E hr h => ?_) (fun env => ⟨_, rfl⟩) (fun L => by rfl) (fun env => by rfl)
  · obtain ⟨a, n, rfl, _⟩ := h
    rfl
  · obtain ⟨a, n, rfl, ha, h0, h1, k⟩ := h
    refine ⟨a, [.int n], _, _, rfl, ha, pe_joined (PJ.cons pe_str (PJ.cons (pe_fmt (pv 1)) (PJ.cons pe_str PJ.nil))), pss_one (ps_ost (pv 0) (pv 1)), ?_⟩
    have l1 := num_len h0 h1
    have e1 : ((Str.empty : Str) ++ ("row " : Str)).length = 4 := by decide +kernel
    have e2 : (" isn't so" : Str).length = 9 := by decide +kernel
    refine ⟨_, rfl, by rw [e1]; exact sz_of (by decide), _, rfl, .inr ⟨n, rfl, num_log h0 h1, _, rfl, by rw [app_len, e1]; exact sz_of (by omega), _, rfl, by rw [app_len, app_len, e1, e2]; exact sz_of (by omega), rfl, ha, ?_⟩⟩
    refine ⟨_, rfl, _, rfl, a, C, rfl, D.T, hat, .inl ⟨ha, fun d nd da => ?_⟩⟩
    exact k d _ nd da upd_same (by rw [upd_ne da, upd_same]) (fun b e1 e2 => by rw [upd_ne e1, upd_ne e2])
end


end Rf
namespace Rf
open PySem PySem.Spec PyProof.Rows L2
/-! ### a book as it stands in the heap: tuples within tuples -/
/-- the tuples at ts are the claims qs -/
def ClmsAt (K : PySem.W.Frag) (H : Hp) (ts : List Addr) (qs : List Clm) : Prop := ts.length = qs.length ∧ ∀ (i : Nat) (t : Addr) (q : Clm), ts[i]? = some t → qs[i]? = some q → SqT K H t [.int q.d, .int q.c, .int q.a, .int q.r]
structure BookAt (K : PySem.W.Frag) (H : Hp) (b ca cl : Addr) (ts : List Addr) (B : Bk) : Prop where
  hb : SqT K H b [.ref ca, .ref cl]
  hca : SqT K H ca (B.cash.map V.int)
  hcl : SqT K H cl (ts.map V.ref)
  hq : ClmsAt K H ts B.claims
theorem Same.tup {K : PySem.W.Frag} {H H' : Hp} {a : Addr} {xs : List V} (e : Same H H') (h : SqT K H a xs) : SqT K H' a xs := by
  rcases h with (h | ⟨o, h⟩) | h
  · exact .inl (.inl (e _ _ h))
  · exact .inl (.inr ⟨o, e _ _ h⟩)
  · exact .inr h
theorem BookAt.same {K : PySem.W.Frag} {H H' : Hp} {b ca cl : Addr} {ts : List Addr} {B : Bk} (A : BookAt K H b ca cl ts B) (s : Same H H') : BookAt K H' b ca cl ts B :=
  ⟨Same.tup s A.hb, Same.tup s A.hca, Same.tup s A.hcl, A.hq.1, fun i t q h1 h2 => Same.tup s (A.hq.2 i t q h1 h2)⟩
theorem ClmsAt.same {K : PySem.W.Frag} {H H' : Hp} {ts : List Addr} {qs : List Clm} (A : ClmsAt K H ts qs) (s : Same H H') : ClmsAt K H' ts qs := ⟨A.1, fun i t q h1 h2 => Same.tup s (A.2 i t q h1 h2)⟩
theorem BookAt.get {K : PySem.W.Frag} {H : Hp} {b ca cl : Addr} {ts : List Addr} {B : Bk} (A : BookAt K H b ca cl ts B) {k : Nat} (h : k < B.claims.length) : ∃ t, ts[k]? = some t ∧ SqT K H t [.int (B.clm k).d, .int (B.clm k).c, .int (B.clm k).a, .int (B.clm k).r] := by
  have hk : k < ts.length := by rw [A.hq.1]; exact h
  exact ⟨ts[k], List.getElem?_eq_getElem hk, A.hq.2 k _ _ (List.getElem?_eq_getElem hk) (Bk.clm_get h)⟩
section
variable {K : PySem.W.Frag} {te : TE} {tz : TS} {D : Ends} {σ : L2.St} {H : Hp}
/-- x, y = a pair -/
theorem sq_tup2 {i j : Nat} {a : Addr} {x y : V} (h : ∀ Q : VK, Q (.ref a) H → te σ H Q) (hq : SqT K H a [x, y]) (k : tz D ((σ.set i (some x)).set j (some y)) H) : tSeq (tAsg te (gTup K 2 (gCons (gName i) (gCons (gName j) gNil)))) tz D σ H :=
  h _ ⟨a, [x, y], rfl, hq, rfl, x, [y], rfl, y, [], rfl, rfl, k⟩
theorem sq_tup4 {i j l m : Nat} {a : Addr} {x y z w : V} (h : ∀ Q : VK, Q (.ref a) H → te σ H Q) (hq : SqT K H a [x, y, z, w]) (k : tz D ((((σ.set i (some x)).set j (some y)).set l (some z)).set m (some w)) H) : tSeq (tAsg te (gTup K 4 (gCons (gName i) (gCons (gName j) (gCons (gName l) (gCons (gName m) gNil)))))) tz D σ H :=
  h _ ⟨a, [x, y, z, w], rfl, hq, rfl, x, [y, z, w], rfl, y, [z, w], rfl, z, [w], rfl, w, [], rfl, rfl, k⟩
end
theorem map_ref_get {ts : List Addr} {i : Nat} {x : V} (h : (ts.map V.ref)[i]? = some x) : ∃ t, x = .ref t ∧ ts[i]? = some t := by
  rw [List.getElem?_map] at h
  cases e : ts[i]? with
  | none => rw [e] at h; cases h
  | some t => rw [e] at h; exact ⟨t, (Option.some.inj h).symm, rfl⟩
theorem map_int_get {l : List Int} {i : Nat} {x : V} (h : (l.map V.int)[i]? = some x) : x = .int (g l i) ∧ i < l.length := by
  have hi : i < l.length := by
    have := (List.getElem?_eq_some_iff.mp h).1
    rw [List.length_map] at this
    exact this
  rw [List.getElem?_map, g_get hi] at h
  exact ⟨(Option.some.inj h).symm, hi⟩


end Rf
namespace Rf
open PySem PySem.Spec PyProof.Rows L2
/-! ### in an except suite: isinstance of the caught one; calls of functions out of a list -/
/-- isinstance(e, c), e what the suite holds, with a dict or without; c a class or a tuple of classes -/
def rIsX (K : PySem.W.Frag) (a : Addr) (cls : Value) (d : Option Addr) : List V → Hp → VK → Prop := fun xs H Q => ∃ (C : Addr) (c : V) (b : Bool), cls = .ref C ∧ xs = [.ref a, c] ∧ ExcC K C ∧ (d = none ∨ ∃ dd fs, d = some dd ∧ H dd = some (.xd fs)) ∧
  ((∃ cv, (∀ u, RelV c u → u = cv) ∧ PySem.W.kitOne K (.ref C) cv = some b) ∨ (∃ (t : Addr) (cs : List Addr), c = .ref t ∧ H t = some (.tup (cs.map V.ref)) ∧ PySem.W.kitAny K (.ref C) (cs.map Value.ref) = some b)) ∧ Q (.bl b) H
theorem vals_refs : ∀ {cs : List Addr} {us : List Value}, Vals (cs.map V.ref) us → us = cs.map Value.ref
  | [], _, .nil => rfl
  | c :: cs, u :: us, .cons r t => by
    have e : u = Value.ref c := r
    rw [e, vals_refs t]
    rfl
theorem call_isX {X : Cx} {a : Addr} {cls : Value} {d : Option Addr} {oe : Obj} {pn : List (Addr × Obj)} (hz : Zc cls d oe) (hf : ∃ vs, oe.data = .fields vs) : CallR (X.suite a ((a, oe) :: pn)) (.builtin "isinstance") (rIsX X.K a cls d) := by
  intro pins s σ H xs us Q I r h
  obtain ⟨C, c, b, rfl, rfl, T, hd, hc, q⟩ := h
  cases r with
  | cons rx rr =>
    cases rr with
    | cons rt rr =>
      cases rr
      cases rx
      obtain ⟨hget, _⟩ := I.pin (a, oe) (List.mem_append.mpr (.inl List.mem_cons_self))
      obtain ⟨vs, hv⟩ := hf
      have J : ∃ od, PySem.W.InstAt s.heap a oe C od := by
        obtain ⟨oc, od, oda, osl⟩ := oe
        obtain ⟨h1, h2⟩ := hz
        dsimp only at h1 h2 hv
        subst h1 h2 hv
        rcases hd with rfl | ⟨dd, fs, rfl, ed⟩
        · exact ⟨none, hget, rfl, rfl, trivial⟩
        · have hx : ObjOk X.prog X.w H s.heap dd (.xd fs) := I.hok dd _ ed
          obtain ⟨mA, hns, hr⟩ := hx
          obtain ⟨o, es, ep, ho, _⟩ := hns
          exact ⟨some o, hget, rfl, rfl, ho⟩
      obtain ⟨od, J⟩ := J
      have hcl : (PySem.W.clsIn X.K C).isSome = true := by
        obtain ⟨cd, hc2, _⟩ := PySem.W.any_some T.hd
        rw [hc2]
        rfl
      have Z : PySem.W.KitX X.K (.ref a) (.ref C) (fun h => PySem.W.InstAt h a oe C od) := PySem.W.kitx_exc hcl T.hg T.hk T.hs T.ha T.hn T.ht T.hm
      rcases hc with ⟨cv, hcv, e⟩ | ⟨t, cs, rfl, ht, e⟩
      · have ec := hcv _ rt
        subst ec
        exact PySem.W.kia_one Z I.kIn J e (fun z => nomatch z) fun tk => ⟨.bl b, H, I.kept (t' := tk) fun _ _ z => z, rfl, q⟩
      · cases rt
        obtain ⟨its, rv, ⟨⟨c1, d1, dt1, sl1⟩, ho, hc1, n, hdt⟩, hlen⟩ := I.tuple (st_of ht)
        dsimp only at hc1 hdt
        subst hc1 hdt
        have ei := vals_refs rv
        exact PySem.W.kia_tup (its := its) Z I.kIn J ho (by rw [ei]; exact e) (fun z => nomatch z) fun tk => ⟨.bl b, H, I.kept (t' := tk) fun _ _ z => z, rfl, q⟩
/-- a function that stands somewhere, with its promise -/
def HeldX (P : Program) (w : World) (K : PySem.W.Frag) (mg : Str → Option Value) (base : Heap) (k : Nat) (f : Addr) (sp : Sp) : Prop := ∃ (fd : FuncData) (ps : List Str), FnOk P w K mg base (L2.CX P w) k f fd ps sp ∧ PySem.W.keepIn K (.ref f) = true ∧ Binds K fd ps []
def tCallE (P : Program) (w : World) (K : PySem.W.Frag) (mg : Str → Option Value) (base : Heap) (k : Nat) (sp : Sp) (W : WX) (tf : TE) (t : TA) : TE := fun σ H Q => tf σ H fun y H1 => ∃ f, y = .ref f ∧ HeldX P w K mg base k f sp ∧ t σ H1 fun vs H2 => sp vs H2 Q (WE W σ)
theorem pe_callE {X : Cx} {k : Nat} {sp : Sp} {W : WX} {fe e : Expr} {es : List Expr} {tf : TE} {t : TA} {pos : Pos} (hf : PE X fe tf) (hr : Room k X.A) (tk : Takes X W) (ha : PA X (e :: es) t)
    (ht : eval (.Call fe (e :: es) [] pos) X.env = (do callWith pos (← eval fe X.env) [] (backTo pos (starEach (e :: es) X.env)) (backToKw pos (keywordEach [] X.env))) := by rfl)
    (he : starEach (e :: es) X.env = (false, eval e X.env) :: starEach es X.env := by rfl) (hpl : (backTo pos (starEach es X.env)).any (·.1) = false := by rfl) : PE X (.Call fe (e :: es) [] pos) (tCallE X.prog X.w X.K X.mg X.base k sp W tf t) := by
  refine ⟨fun pins s σ H Q I h => ?_⟩
  refine Call_ (thn (hf.run pins s σ H _ I h) fun u s1 ⟨y, H1, I1, ry, f, ey, hh, q⟩ => ?_) ht
  subst ey
  obtain rfl : u = Value.ref f := ry
  obtain ⟨fd, ps, F, hk, hb⟩ := hh
  refine PySem.W.callWith_K (h₀ := X.base) I1.ok.mod.kin hk (thn (ha.run pos pins s1 σ H1 _ I1 q) fun us s2 ⟨vs, H2, I2, r, q2⟩ => ⟨I2.kIn, ?_⟩) he hpl
  exact run_fnS (E := WE W) F hr hb (passAt tk σ) I2 r q2
/-- a class of the text -/
structure ClsIs (mg : Str → Option Value) (x : Str) (C : Addr) : Prop where
  gC : mg x = some (.ref C)
/-- pe_bm whose frag is told apart from the reading's -/
theorem pe_bmS {K : PySem.W.Frag} {X : Cx} {o e : Expr} {es : List Expr} {to : TE} {t : TA} {name : Str} {apos cpos : Pos} {T id : String} {r : V → List V → Hp → VK → Prop} (pa : PlainAttrs T) (slot : Slot T name id) (hty : typeOf (.builtin id) = pure (.type "method_descriptor"))
    (hm : MtR X id r) (ho : PE X o to) (ha : PA X (e :: es) t) (hK : X.K = K := by rfl)
    (hbase : attributeBase o name X.env (eval o X.env) = eval o X.env := by rfl)
    (hfew : ((backTo cpos (starEach (e :: es) X.env)).all (fun x => !x.1) && (backToKw cpos (keywordEach [] X.env)).all (fun x => x.1.isSome)
      && decide ((e :: es).length + ([] : List Keyword).length + (if ([] : List Keyword).isEmpty then 0 else 1) < 30)) = true := by rfl)
    (hline : (apos.endLine == cpos.line) = true := by rfl) (hs : starEach (e :: es) X.env = (false, eval e X.env) :: starEach es X.env := by rfl) (hplain : (backTo cpos (starEach es X.env)).any (·.1) = false := by rfl) :
    PE X (.Call (.Attribute o name apos) (e :: es) [] cpos) (tBM K T r to t) := by
  subst hK
  exact pe_bm pa slot hty hm ho ha hbase hfew hline hs hplain


end Rf
namespace Rf
open PySem PySem.Spec PyProof.Rows L2
/-! ### the law's own books -/
theorem tup_off {K : PySem.W.Frag} {H H' : Hp} {h c a : Addr} {xs : List V} (R : RngAt H h c) (e : Off (isHC h c) H H') (q : SqT K H a xs) : SqT K H' a xs := by
  obtain ⟨ne, x, p, cells, h1, h2, _⟩ := R
  have n : ∀ o, H a = some o → (∀ ys, o ≠ .lst ys) → ¬ isHC h c a := fun o ho hno z => by
    rcases z with z | z
    · rw [z, h1] at ho
      exact hno _ (Option.some.inj ho).symm
    · rw [z, h2] at ho
      exact hno _ (Option.some.inj ho).symm
  rcases q with (q | ⟨o, q⟩) | q
  · exact .inl (.inl (e _ _ q (n _ q (fun _ z => nomatch z))))
  · exact .inl (.inr ⟨o, e _ _ q (n _ q (fun _ z => nomatch z))⟩)
  · exact .inr q
theorem Fr.clms {K : PySem.W.Frag} {H H' : Hp} {h c : Addr} {ts : List Addr} {qs : List Clm} (R : RngAt H h c) (e : Fr h c H H') (A : ClmsAt K H ts qs) : ClmsAt K H' ts qs := ⟨A.1, fun i t q h1 h2 => tup_off R e.off (A.2 i t q h1 h2)⟩
theorem Fr.book {K : PySem.W.Frag} {H H' : Hp} {h c b ca cl : Addr} {ts : List Addr} {B : Bk} (R : RngAt H h c) (e : Fr h c H H') (A : BookAt K H b ca cl ts B) : BookAt K H' b ca cl ts B :=
  ⟨tup_off R e.off A.hb, tup_off R e.off A.hca, tup_off R e.off A.hcl, Fr.clms R e A.hq⟩
theorem ClmsAt.app {K : PySem.W.Frag} {H : Hp} {ts : List Addr} {qs : List Clm} {t : Addr} {q : Clm} (A : ClmsAt K H ts qs) (h : SqT K H t [.int q.d, .int q.c, .int q.a, .int q.r]) : ClmsAt K H (ts ++ [t]) (qs ++ [q]) := by
  refine ⟨by rw [List.length_append, List.length_append, A.1]; rfl, fun i u p h1 h2 => ?_⟩
  by_cases hi : i < ts.length
  · rw [List.getElem?_append_left hi] at h1
    rw [List.getElem?_append_left (by rw [← A.1]; exact hi)] at h2
    exact A.2 i u p h1 h2
  · have e : i = ts.length := by
      have := (List.getElem?_eq_some_iff.mp h1).1
      rw [List.length_append] at this
      have : i < ts.length + 1 := this
      omega
    subst e
    rw [List.getElem?_append_right (Nat.le_refl _), Nat.sub_self] at h1
    rw [List.getElem?_append_right (by rw [A.1]; exact Nat.le_refl _), A.1, Nat.sub_self] at h2
    cases h1
    cases h2
    exact h
theorem ClmsAt.put {K : PySem.W.Frag} {H : Hp} {ts : List Addr} {qs : List Clm} {p : Addr} {o : HO} {xs : List V} (A : ClmsAt K H ts qs) (hp : H p = some (.lst xs)) : ClmsAt K (upd H p o) ts qs := by
  refine ⟨A.1, fun i t q h1 h2 => ?_⟩
  rcases A.2 i t q h1 h2 with (z | ⟨u, z⟩) | z
  · exact .inl (.inl (by rw [upd_ne (ne_of z hp (fun z => nomatch z))]; exact z))
  · exact .inl (.inr ⟨u, by rw [upd_ne (ne_of z hp (fun z => nomatch z))]; exact z⟩)
  · exact .inr z
/-- a book stands where a list is written -/
theorem BookAt.put {K : PySem.W.Frag} {H : Hp} {b ca cl p : Addr} {ts : List Addr} {B : Bk} {o : HO} {ys : List V} (A : BookAt K H b ca cl ts B) (hp : H p = some (.lst ys)) : BookAt K (L2.upd H p o) b ca cl ts B := by
  have q : ∀ (a : Addr) (xs : List V), SqT K H a xs → SqT K (L2.upd H p o) a xs := fun a xs z => by
    rcases z with (z | ⟨u, z⟩) | z
    · exact .inl (.inl (by rw [upd_ne (ne_of z hp (fun z => nomatch z))]; exact z))
    · exact .inl (.inr ⟨u, by rw [upd_ne (ne_of z hp (fun z => nomatch z))]; exact z⟩)
    · exact .inr z
  exact ⟨q _ _ A.hb, q _ _ A.hca, q _ _ A.hcl, A.hq.put hp⟩
/-- the other house: never the debtor -/
theorem other_house {d r n : Int} (d0 : 0 ≤ d) (d1 : d < n) (r0 : 0 ≤ r) (r1 : r < n - 1) : 0 ≤ (d + 1 + r) % n ∧ (d + 1 + r) % n < n ∧ d ≠ (d + 1 + r) % n := by
  have hn : 0 < n := by omega
  refine ⟨Int.emod_nonneg _ (by omega), Int.emod_lt_of_pos _ hn, ?_⟩
  by_cases h : d + 1 + r < n
  · rw [Int.emod_eq_of_lt (by omega) h]
    omega
  · have e : d + 1 + r = (d + 1 + r - n) + n * 1 := by omega
    rw [e, Int.add_mul_emod_self_left, Int.emod_eq_of_lt (by omega) (by omega)]
    omega
def spLBook (K : PySem.W.Frag) : Sp := fun vs H Q _ => ∃ (h c : Addr) (nh nc wd : Int), vs = [.ref h, .int nh, .int nc, .int wd] ∧ RngAt H h c ∧ 1 ≤ nh ∧ nh ≤ 8 ∧ 0 ≤ nc ∧ nc ≤ 24 ∧ 1 ≤ wd ∧ wd ≤ 999 ∧
  ∀ b ca cl ts B H', Good B → (B.cash.length : Int) ≤ nh → (B.claims.length : Int) ≤ nc → (∀ x ∈ B.cash, x ≤ max 20 wd) → (∀ q ∈ B.claims, q.a ≤ max 20 wd) → H b = none → Fr h c H H' → BookAt K H' b ca cl ts B → Q (.ref b) H'
section
variable {P : Program} {w : World} {K : PySem.W.Frag} {mg : Str → Option Value} {base : Heap}
theorem sc_lbook : FnScope ["_law_h", "_law_houses", "_law_claims", "_law_wide", "_law_many", "_law_most", "_law_ranks", "_law_k", "_law_cash", "_law_rows", "_law_debtor", "_law_creditor"] ["_law_h", "_law_houses", "_law_claims", "_law_wide"] (defScope s_lbook) := ⟨rfl, rfl, rfl, by decide +kernel, rfl, by decide +kernel, by decide +kernel⟩
/- 0:_law_h 1:_law_houses 2:_law_claims 3:_law_wide 4:_law_many 5:_law_most 6:_law_ranks 7:_law_k 8:_law_cash 9:_law_rows 10:_law_debtor 11:_law_creditor -/
theorem ok_lbook {f : Addr} {fd : FuncData} (D : DefAt K mg "_law_book" s_lbook ["_law_h", "_law_houses", "_law_claims", "_law_wide"] f fd) (m_max : mg "max" = none) (m_len : mg "len" = none) (m_range : mg "range" = none) (m_tuple : mg "tuple" = none) (m_int : mg "int" = none)
    {f1 : Addr} {fd1 : FuncData} (D_next : DefAt K mg "_law_next" s_next ["_law_h", "_law_many"] f1 fd1) : FnOk P w K mg base CX0 2 f fd ["_law_h", "_law_houses", "_law_claims", "_law_wide"] (spLBook K) := by
  have G_next : FnOk P w K mg base CX0 1 f1 fd1 ["_law_h", "_law_many"] spNext := ok_next D_next m_max m_len
  refine D.F.ok sc_lbook (fun vs H Q E h => ?_) (fun cdv A outer s H vs Q E hr h => ?_)
  · obtain ⟨h, c, nh, nc, wd, rfl, _⟩ := h
    rfl
  · obtain ⟨h, c, nh, nc, wd, rfl, R, nh0, nh1, nc0, nc1, wd0, wd1, k⟩ := h
    refine ⟨_, pss_cons (ps_set (i := 4) sc_lbook.nd rfl (.inl rfl) (pe_op op_add pe_int (pe_call G_next (hr.mono (by decide)) (by rfl) D_next.g D_next.F.kp D_next.b .nil pass0 (pa_cons (pv 0) (pa_cons (pv 1) pa_nil)))))
        (pss_cons (ps_set (i := 5) sc_lbook.nd rfl (.inr rfl) (pe_ix (r := rIxL K) ix_list (pe_lst (pa_cons pe_int (pa_cons pe_int (pa_cons (pv 3) pa_nil)))) (pe_call G_next (hr.mono (by decide)) (by rfl) D_next.g D_next.F.kp D_next.b .nil pass0 (pa_cons (pv 0) (pa_cons pe_int pa_nil))) (fun _ _ => rfl)))
        (pss_cons (ps_set (i := 6) sc_lbook.nd rfl (.inl rfl) (pe_ix (r := rIxL K) ix_list (pe_lst (pa_cons pe_int (pa_cons pe_int (pa_cons pe_int pa_nil)))) (pe_call G_next (hr.mono (by decide)) (by rfl) D_next.g D_next.F.kp D_next.b .nil pass0 (pa_cons (pv 0) (pa_cons pe_int pa_nil))) (fun _ _ => rfl)))
        (pss_cons (ps_set (i := 8) sc_lbook.nd rfl (.inl rfl) (pe_callTy (r := rTupleOf K) call_tupleOf (by rfl) m_tuple (by decide +kernel) (pa_cons (pe_lc (own := [("_law_k", 7)]) (g := gName 7) (tt := tYes) (by rfl) sc_lbook.nd (pi_range1 (by rfl) m_range (pa_cons (pv 4) pa_nil)) (blkOk_by (own := [("_law_k", 7)]) (N := ["_law_h", "_law_houses", "_law_claims", "_law_wide", "_law_many", "_law_most", "_law_ranks", "_law_k", "_law_cash", "_law_rows", "_law_debtor", "_law_creditor"]) (sc := defScope s_lbook) (by decide +kernel)) (fun _ _ _ _ _ => (pg_name (i := 7) sc_lbook.nd rfl (.inl rfl))) (fun _ _ _ _ _ => pts_nil) (fun _ _ _ _ _ => (pe_op op_mul (pe_call G_next (hr.mono (by decide)) (by rfl) D_next.g D_next.F.kp D_next.b .nil pass0 (pa_cons (pv 0) (pa_cons (pe_op op_add (pv 5) pe_int) pa_nil))) (pe_callTy call_int1 (by rfl) m_int (by decide +kernel) (pa_cons (pe_cmpR op_gt (pe_call G_next (hr.mono (by decide)) (by rfl) D_next.g D_next.F.kp D_next.b .nil pass0 (pa_cons (pv 0) (pa_cons pe_int pa_nil))) pe_int (nomark _)) pa_nil))))) pa_nil)))
        (pss_cons (ps_set (i := 9) sc_lbook.nd rfl (.inl rfl) (pe_lst pa_nil))
        (pss_cons (ps_for PassesOwn.never rfl (pi_range1 (by rfl) m_range (pa_cons (pe_op op_mul (pe_call G_next (hr.mono (by decide)) (by rfl) D_next.g D_next.F.kp D_next.b .nil pass0 (pa_cons (pv 0) (pa_cons (pe_op op_add (pv 2) pe_int) pa_nil))) (pe_callTy call_int1 (by rfl) m_int (by decide +kernel) (pa_cons (pe_cmpR op_gt (pv 4) pe_int (nomark _)) pa_nil))) pa_nil)) (pg_name (i := 7) sc_lbook.nd rfl (.inl rfl)) (pss_cons (ps_set (i := 10) sc_lbook.nd rfl (.inl rfl) (pe_call G_next (hr.mono (by decide)) (by rfl) D_next.g D_next.F.kp D_next.b .nil pass0 (pa_cons (pv 0) (pa_cons (pv 4) pa_nil))))
          (pss_cons (ps_set (i := 11) sc_lbook.nd rfl (.inl rfl) (pe_op op_mod (pe_op op_add (pe_op op_add (pv 10) pe_int) (pe_call G_next (hr.mono (by decide)) (by rfl) D_next.g D_next.F.kp D_next.b .nil pass0 (pa_cons (pv 0) (pa_cons (pe_op op_sub (pv 4) pe_int) pa_nil)))) (pv 4)))
          (pss_one (ps_expr (pe_bm PySem.F.plainAttrs_list PySem.F.slot_list_append PySem.F.type_list_append mt_append (pv 9) (pa_cons (pe_tup (pa_cons (pv 10) (pa_cons (pv 11) (pa_cons (pe_op op_add pe_int (pe_call G_next (hr.mono (by decide)) (by rfl) D_next.g D_next.F.kp D_next.b .nil pass0 (pa_cons (pv 0) (pa_cons (pv 5) pa_nil)))) (pa_cons (pe_op op_add pe_int (pe_call G_next (hr.mono (by decide)) (by rfl) D_next.g D_next.F.kp D_next.b .nil pass0 (pa_cons (pv 0) (pa_cons (pv 6) pa_nil)))) pa_nil))))) pa_nil)))))))
        (pss_one (ps_ret (pe_tup (pa_cons (pv 8) (pa_cons (pe_callTy (r := rTupleOf K) call_tupleOf (by rfl) m_tuple (by decide +kernel) (pa_cons (pv 9) pa_nil)) pa_nil)))))))))), ?_⟩
    -- many
    refine sq_set (fun v H1 => Fr h c H H1 ∧ ∃ n : Int, v = .int n ∧ 1 ≤ n ∧ n ≤ nh) (fun Q k => ⟨_, rfl, _, rfl, h, c, nh, rfl, R, by omega, by omega, fun r H1 r0 r1 R1 o1 => ⟨_, _, rfl, rfl, k _ _ ⟨⟨o1, R1⟩, _, rfl, by omega, by omega⟩⟩⟩) (fun v H1 hv => ?_)
    obtain ⟨F1, n, rfl, n0, n1⟩ := hv
    -- most
    refine sq_set (fun v H2 => Fr h c H H2 ∧ ∃ m : Int, v = .int m ∧ 1 ≤ m ∧ m ≤ max 20 wd ∧ m ≤ 999) (fun Q k => ?_) (fun v H2 hv => ?_)
    · refine ⟨_, rfl, by show 3 ≤ sizeLine; decide, fun l nl => ⟨_, rfl, h, c, 3, rfl, F1.rng.same (Same.new nl), by decide, by decide, fun r H2 r0 r1 R2 o2 => ?_⟩⟩
      have F2 : Fr h c H H2 := (F1.same (Same.new nl)).trans ⟨o2, R2⟩
      have hl := o2 l _ upd_same (F1.rng.fresh nl)
      have : r = 0 ∨ r = 1 ∨ r = 2 := by omega
      rcases this with rfl | rfl | rfl
      · exact ⟨l, _, _, _, rfl, rfl, sq_of hl, atI_nat (j := 0) rfl, k _ _ ⟨F2, 4, rfl, by omega, by omega, by omega⟩⟩
      · exact ⟨l, _, _, _, rfl, rfl, sq_of hl, atI_nat (j := 1) rfl, k _ _ ⟨F2, 20, rfl, by omega, by omega, by omega⟩⟩
      · exact ⟨l, _, _, _, rfl, rfl, sq_of hl, atI_nat (j := 2) rfl, k _ _ ⟨F2, wd, rfl, by omega, by omega, by omega⟩⟩
    obtain ⟨F2, m, rfl, m0, m1, m2⟩ := hv
    -- ranks
    refine sq_set (fun v H3 => Fr h c H H3 ∧ ∃ q : Int, v = .int q ∧ 1 ≤ q ∧ q ≤ 9) (fun Q k => ?_) (fun v H3 hv => ?_)
    · refine ⟨by show 3 ≤ sizeLine; decide, fun l nl => ⟨_, rfl, h, c, 3, rfl, F2.rng.same (Same.new nl), by decide, by decide, fun r H3 r0 r1 R3 o3 => ?_⟩⟩
      have F3 : Fr h c H H3 := (F2.same (Same.new nl)).trans ⟨o3, R3⟩
      have hl := o3 l _ upd_same (F2.rng.fresh nl)
      have : r = 0 ∨ r = 1 ∨ r = 2 := by omega
      rcases this with rfl | rfl | rfl
      · exact ⟨l, _, _, _, rfl, rfl, sq_of hl, atI_nat (j := 0) rfl, k _ _ ⟨F3, 1, rfl, by omega, by omega⟩⟩
      · exact ⟨l, _, _, _, rfl, rfl, sq_of hl, atI_nat (j := 1) rfl, k _ _ ⟨F3, 3, rfl, by omega, by omega⟩⟩
      · exact ⟨l, _, _, _, rfl, rfl, sq_of hl, atI_nat (j := 2) rfl, k _ _ ⟨F3, 9, rfl, by omega, by omega⟩⟩
    obtain ⟨F3, q, rfl, q0, q1⟩ := hv
    -- cash
    refine sq_set (fun v H4 => Fr h c H H4 ∧ ∃ (ca : Addr) (cash : List Int), v = .ref ca ∧ SqT K H4 ca (cash.map V.int) ∧ (cash.length : Int) = n ∧ ∀ x ∈ cash, 0 ≤ x ∧ x ≤ m) (fun Q k => ?_) (fun v H4 hv => ?_)
    · refine ⟨_, rfl, n, rfl, by omega, by omega, fun d nd => ?_⟩
      have nd0 := F3.free nd
      have nhd := F3.rng.fresh nd
      refine lc_range (lo := 0) (n := n.toNat) (fun i H' => Fr h c H H' ∧ ∃ cash : List Int, H' d = some (.lst (cash.map V.int)) ∧ cash.length = i ∧ ∀ x ∈ cash, 0 ≤ x ∧ x ≤ m) ⟨F3.new nd, [], upd_same, rfl, fun x hx => nomatch hx⟩ (fun i H' hi hP => ?_) (fun H' hP => ?_)
      · obtain ⟨F4, cash, hd, hl, hb⟩ := hP
        refine ⟨rfl, _, rfl, _, rfl, _, _, rfl, rfl, h, c, _, rfl, F4.rng, by omega, by omega, fun r H5 r0 r1 R5 o5 => ?_⟩
        refine ⟨_, rfl, h, c, 3, rfl, R5, by decide, by decide, fun r2 H6 r20 r21 R6 o6 => ⟨_, _, rfl, rfl, .inr ⟨_, rfl, _, _, rfl, rfl, .inl ⟨by omega, by omega⟩, ?_⟩⟩⟩
        have F6 : Fr h c H H6 := (F4.trans ⟨o5, R5⟩).trans ⟨o6, R6⟩
        have hd6 := o6 d _ (o5 d _ hd nhd) nhd
        refine ⟨_, hd6, ?_, F6.mut nd0 nhd, cash ++ [r * (if decide (0 < r2) = true then 1 else 0)], ?_, ?_, fun x hx => ?_⟩
        · rw [List.length_map]
          exact sz_lt (by omega)
        · rw [upd_same, List.map_append]
          rfl
        · rw [List.length_append, hl]
          rfl
        · rcases List.mem_append.mp hx with hx | hx
          · exact hb x hx
          · rw [List.mem_singleton.mp hx]
            split <;> omega
      · obtain ⟨F4, cash, hd, hl, hb⟩ := hP
        refine ⟨d, _, rfl, .inl ⟨sq_of hd, fun ca nca => k _ _ ⟨F4.new nca, ca, cash, rfl, st_of upd_same, by omega, hb⟩⟩⟩
    obtain ⟨F4, ca, cash, rfl, hca, hcn, hcb⟩ := hv
    -- rows
    refine sq_new (.lst []) (fun Q k => ⟨Nat.zero_le _, fun p np => k p _ np (Same.new np) upd_same⟩) (fun rw0 H5 nrw s5 hrw => ?_)
    have F5 := F4.same s5
    have hca5 := Same.tup s5 hca
    have nrw0 := F4.free nrw
    have nhrw := F4.rng.fresh nrw
    refine sq_forRx (fun z H6 => Fr h c H5 H6 ∧ 0 ≤ z ∧ z ≤ nc ∧ (0 < z → 1 < n)) (fun Q k => ?_) (fun z H6 hz => by have := hz.2; omega)
      (fun z i σ' H6 => Fr h c H4 H6 ∧ z ≤ nc ∧ (0 < z → 1 < n) ∧ (∃ (ts : List Addr) (qs : List Clm), H6 rw0 = some (.lst (ts.map V.ref)) ∧ ClmsAt K H6 ts qs ∧ qs.length = i ∧ (∀ q' ∈ qs, GoodC n q' ∧ q'.a ≤ m)) ∧
        ∃ y9 y10 y11, σ' = [some (.ref h), some (.int nh), some (.int nc), some (.int wd), some (.int n), some (.int m), some (.int q), y9, some (.ref ca), some (.ref rw0), y10, y11])
      (fun z H6 hz => ⟨((Fr.refl F4.rng).same s5).trans hz.1, hz.2.2.1, hz.2.2.2, ⟨[], [], hz.1.off rw0 _ hrw nhrw, ⟨rfl, fun i t p h1 => by cases h1⟩, rfl, fun p hp => nomatch hp⟩, _, _, _, rfl⟩) (fun z i σ' H6 hi hP => ?_) (fun z σ' H6 hP => ?_)
    · refine ⟨_, rfl, _, rfl, _, _, rfl, rfl, h, c, _, rfl, F5.rng, by omega, by omega, fun r H6 r0 r1 R6 o6 => ?_⟩
      refine ⟨_, rfl, _, _, rfl, rfl, .inr ⟨_, rfl, _, _, rfl, rfl, .inl ⟨by omega, by omega⟩, k _ _ ⟨⟨o6, R6⟩, ?_, ?_, ?_⟩⟩⟩
      · split <;> omega
      · split <;> omega
      · by_cases hn : 1 < n
        · exact fun _ => hn
        · rw [decide_eq_false hn]
          intro hh
          simp at hh
    · obtain ⟨F6, hz, hz2, ⟨ts, qs, hr6, hq6, hql, hqg⟩, y9, y10, y11, rfl⟩ := hP
      have hn : 1 < n := hz2 (by omega)
      -- debtor
      refine sq_set (fun v H7 => Fr h c H6 H7 ∧ ∃ d : Int, v = .int d ∧ 0 ≤ d ∧ d < n) (fun Q k => ⟨_, rfl, _, rfl, h, c, n, rfl, F6.rng, by omega, by omega, fun r H7 r0 r1 R7 o7 => k _ _ ⟨⟨o7, R7⟩, r, rfl, r0, r1⟩⟩) (fun v H7 hv => ?_)
      obtain ⟨F7, d, rfl, d0, d1⟩ := hv
      -- creditor
      refine sq_set (fun v H8 => Fr h c H6 H8 ∧ ∃ e : Int, v = .int e ∧ 0 ≤ e ∧ e < n ∧ d ≠ e) (fun Q k => ?_) (fun v H8 hv => ?_)
      · refine ⟨_, rfl, _, _, rfl, rfl, _, rfl, _, rfl, _, _, rfl, rfl, h, c, _, rfl, F7.rng, by omega, by omega, fun r H8 r0 r1 R8 o8 => ⟨_, _, rfl, rfl, _, rfl, _, _, rfl, rfl, by omega, ?_⟩⟩
        exact k _ _ ⟨F7.trans ⟨o8, R8⟩, _, rfl, other_house d0 d1 r0 r1⟩
      obtain ⟨F8, e, rfl, e0, e1, e2⟩ := hv
      -- the row
      have hr8 := F8.off rw0 _ hr6 nhrw
      refine ⟨_, rfl, .inl ⟨rfl, _, sq_of hr8⟩, _, rfl, _, rfl, _, rfl, _, rfl, h, c, m, rfl, F8.rng, by omega, by omega, fun a H9 a0 a1 R9 o9 => ⟨_, _, rfl, rfl, _, rfl, _, rfl, h, c, q, rfl, R9, by omega, by omega, fun rk H10 k0 k1 R10 o10 => ⟨_, _, rfl, rfl, by show 4 ≤ sizeLine; decide, fun t nt => ?_⟩⟩⟩
      have F10 : Fr h c H6 H10 := (F8.trans ⟨o9, R9⟩).trans ⟨o10, R10⟩
      have hr10 := F10.off rw0 _ hr6 nhrw
      have s11 : Same H10 (upd H10 t (.tup [.int d, .int e, .int (1 + a), .int (1 + rk)])) := Same.new nt
      have hr11 := s11 _ _ hr10
      have hq11 := (Fr.clms F6.rng F10 hq6).same s11
      have ht11 : SqT K (upd H10 t (.tup [.int d, .int e, .int (1 + a), .int (1 + rk)])) t [.int (Clm.mk d e (1 + a) (1 + rk)).d, .int (Clm.mk d e (1 + a) (1 + rk)).c, .int (Clm.mk d e (1 + a) (1 + rk)).a, .int (Clm.mk d e (1 + a) (1 + rk)).r] := st_of upd_same
      have F11 := F10.same s11
      refine ⟨rw0, _, _, rfl, rfl, hr11, ?_, ?_⟩
      · rw [List.length_map, hq6.1]
        exact sz_lt (by omega)
      · refine ⟨?_, hz, hz2, ⟨ts ++ [t], qs ++ [⟨d, e, 1 + a, 1 + rk⟩], ?_, (hq11.app ht11).put hr11, ?_, fun q' hq' => ?_⟩, _, _, _, rfl⟩
        · exact (F6.trans F11).mut nrw nhrw
        · rw [upd_same, List.map_append]
          rfl
        · rw [List.length_append, hql]
          rfl
        · rcases List.mem_append.mp hq' with hq' | hq'
          · exact hqg q' hq'
          · rw [List.mem_singleton.mp hq']
            exact ⟨⟨d0, d1, e0, e1, e2, by show 1 ≤ 1 + a; omega, by show 1 + a ≤ 999; omega, by show 1 ≤ 1 + rk; omega, by show 1 + rk ≤ 9; omega⟩, by show 1 + a ≤ m; omega⟩
    · obtain ⟨F6, hz, hz2, ⟨ts, qs, hr6, hq6, hql, hqg⟩, y9, y10, y11, rfl⟩ := hP
      have R4 := F4.rng
      have hca6 := tup_off R4 F6.off hca
      refine ⟨_, rfl, _, rfl, rw0, _, rfl, .inl ⟨sq_of hr6, fun cl ncl => ⟨by show 2 ≤ sizeLine; decide, fun b nb => ?_⟩⟩⟩
      have F7 : Fr h c H (upd (upd H6 cl (.tup (ts.map V.ref))) b (.tup [.ref ca, .ref cl])) := ((F4.trans F6).new ncl).new nb
      have s7 : Same H6 (upd H6 cl (.tup (ts.map V.ref))) := Same.new ncl
      have s8 : Same (upd H6 cl (.tup (ts.map V.ref))) (upd (upd H6 cl (.tup (ts.map V.ref))) b (.tup [.ref ca, .ref cl])) := Same.new nb
      refine k b ca cl ts ⟨cash, qs⟩ _ ⟨?_, ?_, fun x hx => ?_, ?_, fun q' hq' => ?_⟩ ?_ ?_ (fun x hx => ?_) (fun q' hq' => ?_) ?_ F7 ⟨st_of upd_same, Same.tup (s7.trans s8) hca6, st_of (s8 _ _ upd_same), hq6.same (s7.trans s8)⟩
      · show 1 ≤ cash.length
        omega
      · show cash.length ≤ 8
        omega
      · have := hcb x hx
        omega
      · show qs.length ≤ 24
        omega
      · show GoodC (cash.length : Int) q'
        rw [hcn]
        exact (hqg q' hq').1
      · show (cash.length : Int) ≤ nh
        omega
      · show (qs.length : Int) ≤ nc
        omega
      · have := hcb x hx
        omega
      · have := (hqg q' hq').2
        omega
      · exact ((F4.trans F6).new ncl).free nb
end


end Rf
namespace Rf
open PySem PySem.Spec PyProof.Rows L2
/-! ### the law's own sharing -/
def idx : Option Nat → Int
  | none => -1
  | some k => (k : Int)
/-- numbers from 0 to a million -/
def Bnd (l : List Int) : Prop := ∀ x ∈ l, 0 ≤ x ∧ x ≤ 1000000
theorem Bnd.g {l : List Int} (h : Bnd l) {i : Nat} (hi : i < l.length) : 0 ≤ g l i ∧ g l i ≤ 1000000 := h _ (g_mem hi)
theorem cmul_of {i j : Int} (h : 0 ≤ i ∧ i ≤ 1000000) : CMul i j := .inl ⟨by omega, by omega⟩
theorem fu_skip {a p : List Int} {i : Nat} (h : ¬ g p i < g a i) : firstUp a p (i + 1) = firstUp a p i := by
  conv => lhs; unfold firstUp
  cases e : firstUp a p i with
  | none => simp only [if_neg h]
  | some f => simp only [if_neg (fun z => h (And.left z))]
theorem fu_first {a p : List Int} {i : Nat} (h : g p i < g a i) (e : firstUp a p i = none) : firstUp a p (i + 1) = some i := by
  unfold firstUp
  rw [e]
  simp only [if_pos h]
theorem fu_less {a p : List Int} {i f : Nat} (h : g p i < g a i) (e : firstUp a p i = some f) (h2 : g p i * g a f < g p f * g a i) : firstUp a p (i + 1) = some i := by
  unfold firstUp
  rw [e]
  simp only [if_pos (And.intro h h2)]
theorem fu_keep {a p : List Int} {i f : Nat} (e : firstUp a p i = some f) (h2 : ¬ g p i * g a f < g p f * g a i) : firstUp a p (i + 1) = some f := by
  unfold firstUp
  rw [e]
  simp only [if_neg (fun z => h2 (And.right z))]
theorem fu_lt {a p : List Int} : ∀ {n f : Nat}, firstUp a p n = some f → f < n
  | 0, f, h => by cases h
  | k + 1, f, h => by
    unfold firstUp at h
    cases e : firstUp a p k with
    | none =>
      rw [e] at h
      simp only at h
      split at h <;> cases h
      exact Nat.lt_succ_self _
    | some f' =>
      rw [e] at h
      have := fu_lt e
      simp only at h
      split at h <;> cases h <;> omega
/-- two lists of like length and their ints -/
structure Two (K : PySem.W.Frag) (H : Hp) (a p : Addr) (as ps : List Int) : Prop where
  ha : SqL K H a (as.map V.int)
  hp : SqL K H p (ps.map V.int)
  len : ps.length = as.length
  small : as.length ≤ 1000
  ba : Bnd as
  bp : Bnd ps
theorem Two.same {K : PySem.W.Frag} {H H' : Hp} {a p : Addr} {as ps : List Int} (T : Two K H a p as ps) (s : Same H H') : Two K H' a p as ps := ⟨s.seq T.ha, s.seq T.hp, T.len, T.small, T.ba, T.bp⟩
theorem bnd_valid {a p : List Int} (B : Bnd a) (W : Valid a p) : Bnd p := fun x hx => by
  obtain ⟨i, hi, rfl⟩ := mem_g hx
  have hi' : i < a.length := W.len ▸ hi
  have h1 := W.lo i hi'
  have h2 := W.hi i hi'
  have h3 := B.g hi'
  omega
theorem shareN_ok {a : List Int} (pos : AllPos a) (n : Nat) (h : (n : Int) ≤ a.sum) : Valid a (shareN a n) ∧ (shareN a n).sum = n := by
  have z := zeros_sum a
  obtain ⟨W, s⟩ := steps_ok pos (valid_zeros pos) n (by rw [z]; omega)
  refine ⟨W, ?_⟩
  show (steps a n (zeros a)).sum = n
  rw [s, z]
  omega
theorem shareN_next {a : List Int} (pos : AllPos a) (n : Nat) (h : (n : Int) < a.sum) : ∃ f, firstUp a (shareN a n) a.length = some f ∧ f < a.length ∧ shareN a (n + 1) = (shareN a n).set f (g (shareN a n) f + 1) := by
  obtain ⟨W, s⟩ := shareN_ok pos n (by omega)
  obtain ⟨f, e, F⟩ := exists_first W (by rw [s]; exact h) pos
  exact ⟨f, e, F.lt, nextS_of e⟩
theorem bnd_sum : ∀ {l : List Int}, Bnd l → l.sum ≤ 1000000 * l.length
  | [], _ => by simp
  | x :: r, h => by
    have h1 := h x List.mem_cons_self
    have h2 := bnd_sum (l := r) fun y hy => h y (List.mem_cons_of_mem _ hy)
    rw [List.sum_cons, List.length_cons]
    omega
/-- amounts as the sharing takes them -/
structure Amts (as : List Int) : Prop where
  pos : AllPos as
  bnd : Bnd as
  small : as.length ≤ 1000
theorem Amts.sum_le {as : List Int} (h : Amts as) : as.sum ≤ 1000000000 := by
  have := bnd_sum h.bnd
  have := h.small
  omega
theorem Amts.sum_nn {as : List Int} (h : Amts as) : 0 ≤ as.sum := h.pos.sum_nn
theorem min_if (c s : Int) : (if s < c then s else c) = min c s := by
  by_cases h : s < c
  · rw [if_pos h, Int.min_eq_right (by omega)]
  · rw [if_neg h, Int.min_eq_left (by omega)]
theorem rep_zeros (as : List Int) (n : Int) (h : n = (as.length : Int)) : (List.replicate n.toNat [V.int 0]).flatten = (zeros as).map V.int := by
  rw [h, Int.toNat_natCast, List.flatten_replicate_singleton]
  unfold zeros
  rw [List.map_replicate]


end Rf
namespace Rf
open PySem PySem.Spec PyProof.Rows L2
def spFirst (K : PySem.W.Frag) : Sp := fun vs H Q _ => ∃ (a p : Addr) (as ps : List Int), vs = [.ref a, .ref p] ∧ Two K H a p as ps ∧ Q (.int (idx (firstUp as ps as.length))) H
section
variable {P : Program} {w : World} {K : PySem.W.Frag} {mg : Str → Option Value} {base : Heap}
end


end Rf
namespace Rf
open PySem PySem.Spec PyProof.Rows L2
def spLShared (K : PySem.W.Frag) : Sp := fun vs H Q _ => ∃ (a : Addr) (as : List Int) (c : Int), vs = [.ref a, .int c] ∧ SqL K H a (as.map V.int) ∧ Amts as ∧ 0 ≤ c ∧ ∀ p H', H p = none → Same H H' → H' p = some (.lst ((share as c).map V.int)) → Q (.ref p) H'
section
variable {P : Program} {w : World} {K : PySem.W.Frag} {mg : Str → Option Value} {base : Heap}
end


end Rf
namespace Rf
open PySem PySem.Spec PyProof.Rows L2
/-- the list found is due: both of whole numbers -/
def spAre (K : PySem.W.Frag) : Sp := fun vs H Q _ => ∃ (a b : Addr) (xs ys : List Int), vs = [.ref a, .ref b] ∧ H a = some (.lst (xs.map V.int)) ∧ SqL K H b (ys.map V.int) ∧ ys.length ≤ 1000 ∧ Q (.bl (decide (xs = ys))) H
section
variable {P : Program} {w : World} {K : PySem.W.Frag} {mg : Str → Option Value} {base : Heap}
end


end Rf
namespace Rf
open PySem PySem.Spec PyProof.Rows L2
/-! ### what a house pays, as the law reckons it -/
def nats (l : List Nat) : List Int := l.map fun k : Nat => (k : Int)
theorem nats_len (l : List Nat) : (nats l).length = l.length := List.length_map _
theorem nats_get {l : List Nat} {j k : Nat} (h : l[j]? = some k) : (nats l)[j]? = some (k : Int) := by
  unfold nats
  rw [List.getElem?_map, h]
  rfl
theorem at_nats {l : List Nat} {j k : Nat} {i : Int} (e : i = (j : Int)) (h : l[j]? = some k) : atI ((nats l).map V.int) i = some (.int (k : Int)) := by
  rw [e]
  apply atI_nat
  rw [List.getElem?_map, nats_get h]
  rfl
theorem nats_app (l m : List Nat) : nats (l ++ m) = nats l ++ nats m := List.map_append
def dPairs (L : List (Nat × Int)) : List (Key × V) := L.map fun p => ((Sum.inl (p.1 : Int) : Key), V.int p.2)
theorem dPairs_len (L : List (Nat × Int)) : (dPairs L).length = L.length := List.length_map _
theorem valV_pairs_none {k : Nat} : ∀ {L : List (Nat × Int)}, k ∉ L.map (·.1) → valV (dPairs L) (Sum.inl (k : Int)) = none
  | [], _ => rfl
  | p :: r, h => by
    have h1 : k ∉ p.1 :: r.map (·.1) := h
    have h2 : k ≠ p.1 ∧ k ∉ r.map (·.1) := ⟨fun z => h1 (by rw [z]; exact List.mem_cons_self), fun z => h1 (List.mem_cons_of_mem _ z)⟩
    show valV (((Sum.inl (p.1 : Int) : Key), V.int p.2) :: dPairs r) _ = none
    rw [valV_neg (fun z => h2.1 (by have := Sum.inl.inj z; omega))]
    exact valV_pairs_none h2.2
theorem valV_pairs {k : Nat} {c : Int} : ∀ {L : List (Nat × Int)}, (L.map (·.1)).Nodup → (k, c) ∈ L → valV (dPairs L) (Sum.inl (k : Int)) = some (.int c)
  | p :: r, hn, h => by
    have hn2 := List.nodup_cons.mp (show (p.1 :: r.map (·.1)).Nodup from hn)
    show valV (((Sum.inl (p.1 : Int) : Key), V.int p.2) :: dPairs r) _ = _
    rcases List.mem_cons.mp h with e | e
    · subst e
      exact valV_pos rfl
    · have ne : ¬ p.1 = k := fun z => hn2.1 (by rw [z]; exact List.mem_map_of_mem (f := (·.1)) e)
      rw [valV_neg (fun z => ne (by have := Sum.inl.inj z; omega))]
      exact valV_pairs hn2.2 e
theorem take_filter_succ {α : Type} {l : List α} {f : α → Bool} {j : Nat} {k : α} (h : l[j]? = some k) : (l.take (j + 1)).filter f = (l.take j).filter f ++ (if f k = true then [k] else []) := by
  rw [List.take_add_one, h, List.filter_append]
  congr 1
  show [k].filter f = _
  rw [List.filter_cons, List.filter_nil]
theorem owes_rank (B : Bk) (x r : Int) : (owes B x).filter (fun k => decide ((B.clm k).r = r)) = ofRank B x r := by
  unfold owes ofRank owesUp rankUp
  rw [List.filter_filter]
  congr 1
  funext k
  exact Bool.and_comm _ _
theorem amts_of_pays {B : Bk} (G : Good B) (x r : Int) : Amts (amts B x r) := by
  have ham := amts_ok G x r
  refine ⟨AllPos.of fun z hz => by have := ham z hz; omega, fun z hz => by have := ham z hz; omega, ?_⟩
  rw [amts_len]
  have := rankUp_len B x r B.claims.length
  have := G.m1
  show (rankUp B x r B.claims.length).length ≤ 1000
  omega
theorem at_refs {ts : List Addr} {k : Nat} {t : Addr} {i : Int} (e : i = (k : Int)) (h : ts[k]? = some t) : atI (ts.map V.ref) i = some (.ref t) := by
  rw [e]
  apply atI_nat
  rw [List.getElem?_map, h]
  rfl
def spLPaid (K : PySem.W.Frag) : Sp := fun vs H Q _ => ∃ (b ca cl : Addr) (ts : List Addr) (B : Bk) (x m : Int), vs = [.ref b, .int x, .int m] ∧ BookAt K H b ca cl ts B ∧ Good B ∧ 0 ≤ m ∧
  ∀ p H', H p = none → Same H H' → H' p = some (.dK (dPairs (payFrom B x ranks9 m))) → Q (.ref p) H'
section
variable {P : Program} {w : World} {K : PySem.W.Frag} {mg : Str → Option Value} {base : Heap}
end


end Rf
namespace Rf
open PySem PySem.Spec PyProof.Rows L2
/-! ### means, payments behind, as the law reckons them -/
def setAll (F : List Int) (L : List (Nat × Int)) : List Int := L.foldl (fun F p => F.set p.1 p.2) F
theorem setAll_app (F : List Int) (L : List (Nat × Int)) (k : Nat) (c : Int) : setAll F (L ++ [(k, c)]) = (setAll F L).set k c := by
  unfold setAll
  rw [List.foldl_append]
  rfl
theorem setAll_len : ∀ (L : List (Nat × Int)) (F : List Int), (setAll F L).length = F.length
  | [], _ => rfl
  | p :: L, F => by
    show (setAll (F.set p.1 p.2) L).length = F.length
    rw [setAll_len L, List.length_set]
theorem setAll_out : ∀ (L : List (Nat × Int)) (F : List Int) {k : Nat}, k ∉ L.map (·.1) → g (setAll F L) k = g F k
  | [], _, _, _ => rfl
  | p :: L, F, k, h => by
    show g (setAll (F.set p.1 p.2) L) k = g F k
    have h1 : k ∉ p.1 :: L.map (·.1) := h
    rw [setAll_out L _ (fun z => h1 (List.mem_cons_of_mem _ z)), g_set_ne (fun z => h1 (by rw [z]; exact List.mem_cons_self))]
theorem setAll_in : ∀ (L : List (Nat × Int)) (F : List Int) {k : Nat} {c : Int}, (L.map (·.1)).Nodup → (k, c) ∈ L → k < F.length → g (setAll F L) k = c
  | p :: L, F, k, c, hn, h, hk => by
    show g (setAll (F.set p.1 p.2) L) k = c
    have hn2 := List.nodup_cons.mp (show (p.1 :: L.map (·.1)).Nodup from hn)
    rcases List.mem_cons.mp h with e | e
    · subst e
      rw [setAll_out L _ hn2.1, g_set_same hk]
    · exact setAll_in L _ hn2.2 e (by rw [List.length_set]; exact hk)
theorem behind_nil {B : Bk} {P : List Int} (h : P.length = B.claims.length) : behind B [] P = P := by
  refine ext_g (by rw [behind_len, h]) fun k hk => ?_
  rw [behind_len] at hk
  rw [g_behind hk, if_neg List.not_mem_nil]
/-- one more house pays -/
theorem behind_more {B : Bk} (G : Good B) {hs P : List Int} (hP : Pay B P) (x : Int) : setAll (behind B hs P) (payFrom B x ranks9 (meansOf B x P)) = behind B (hs ++ [x]) P := by
  refine ext_g (by rw [setAll_len, behind_len, behind_len]) fun k hk => ?_
  rw [setAll_len, behind_len] at hk
  have hnd := pay_nodup B x (meansOf B x P)
  rw [g_behind hk]
  by_cases e : (B.clm k).d = x
  · have hin := coin_mem G (m := meansOf B x P) hk e
    rw [setAll_in _ _ hnd hin (by rw [behind_len]; exact hk), if_pos (List.mem_append_right _ (by rw [e]; exact List.mem_singleton.mpr rfl)), e]
  · have hout : k ∉ (payFrom B x ranks9 (meansOf B x P)).map (·.1) := fun z => by
      rw [pay_keys] at z
      exact e (mem_flat.mp z).2.1
    rw [setAll_out _ _ hout, g_behind hk]
    by_cases q : (B.clm k).d ∈ hs
    · rw [if_pos q, if_pos (List.mem_append_left _ q)]
    · rw [if_neg q, if_neg (fun z => by
        rcases List.mem_append.mp z with z | z
        · exact q z
        · exact e (List.mem_singleton.mp z))]
theorem at_ints {l : List Int} {i : Int} (h0 : 0 ≤ i) (h1 : i < l.length) : atI (l.map V.int) i = some (.int (g l i.toNat)) := atI_g (by omega) (by omega)
theorem range_sum_succ (f : Nat → Bool) (P : List Int) (j : Nat) : ((List.range (j + 1)).filter f).map (g P) = ((List.range j).filter f).map (g P) ++ (if f j = true then [g P j] else []) := by
  rw [range_filter_succ, List.map_append]
  congr 1
  split <;> rfl
def spLMeans (K : PySem.W.Frag) : Sp := fun vs H Q _ => ∃ (b ca cl : Addr) (ts : List Addr) (B : Bk) (x : Int) (p : Addr) (P : List Int), vs = [.ref b, .int x, .ref p] ∧ BookAt K H b ca cl ts B ∧ Good B ∧ 0 ≤ x ∧ x < B.cash.length ∧ SqL K H p (P.map V.int) ∧ P.length = B.claims.length ∧ ∀ H', Same H H' → Q (.int (meansOf B x P)) H'
def spLBehind (K : PySem.W.Frag) : Sp := fun vs H Q _ => ∃ (b ca cl : Addr) (ts : List Addr) (B : Bk) (hp : Addr) (hs : List Int) (p : Addr) (P : List Int), vs = [.ref b, .ref hp, .ref p] ∧ BookAt K H b ca cl ts B ∧ Good B ∧ SqL K H hp (hs.map V.int) ∧ (∀ x ∈ hs, 0 ≤ x ∧ x < B.cash.length) ∧ SqL K H p (P.map V.int) ∧ Pay B P ∧
  ∀ q H', H q = none → Same H H' → H' q = some (.lst ((behind B hs P).map V.int)) → Q (.ref q) H'
section
variable {P : Program} {w : World} {K : PySem.W.Frag} {mg : Str → Option Value} {base : Heap}
end


end Rf
namespace Rf
open PySem PySem.Spec PyProof.Rows L2
/-! ### what the program's clearings promise -/
def spBest (K : PySem.W.Frag) : Sp := fun vs H Q _ => ∃ (b ca cl : Addr) (ts : List Addr) (B : Bk), vs = [.ref b] ∧ BookAt K H b ca cl ts B ∧ Good B ∧ ∀ p H', H p = none → Same H H' → H' p = some (.lst ((bestOf B).map V.int)) → Q (.ref p) H'
def spWorst (K : PySem.W.Frag) : Sp := fun vs H Q _ => ∃ (b ca cl : Addr) (ts : List Addr) (B : Bk), vs = [.ref b] ∧ BookAt K H b ca cl ts B ∧ Good B ∧ ∀ p H', H p = none → Same H H' → H' p = some (.lst ((worstOf B).map V.int)) → Q (.ref p) H'
def spIsClr (K : PySem.W.Frag) : Sp := fun vs H Q _ => ∃ (b ca cl : Addr) (ts : List Addr) (B : Bk) (p : Addr) (P : List Int), vs = [.ref b, .ref p] ∧ BookAt K H b ca cl ts B ∧ Good B ∧ SqL K H p (P.map V.int) ∧ Pay B P ∧ ∀ H', Same H H' → Q (.bl (decide (behind B (houses B) P = P))) H'
def spLeft (K : PySem.W.Frag) : Sp := fun vs H Q _ => ∃ (b ca cl : Addr) (ts : List Addr) (B : Bk) (p : Addr) (P : List Int), vs = [.ref b, .ref p] ∧ BookAt K H b ca cl ts B ∧ Good B ∧ SqL K H p (P.map V.int) ∧ Pay B P ∧ ∀ q H', H q = none → Same H H' → H' q = some (.lst ((leftOf B P).map V.int)) → Q (.ref q) H'
theorem rgV_houses (B : Bk) : rgV 0 (B.cash.length : Int) = (houses B).map V.int := by
  unfold rgV houses
  rw [List.map_map, Int.sub_zero, Int.toNat_natCast]
  apply List.map_congr_left
  intro k _
  show V.int (0 + (k : Int)) = V.int (k : Int)
  rw [Int.zero_add]
theorem rgOk_len {n : Nat} (h : n ≤ 1000) : RgOk 0 (n : Int) := RgOk.of_le (by decide) (by omega) (by decide) (by omega)
theorem inV_ints {x : Int} {l : List Int} : inV (.int x) (l.map V.int) = decide (x ∈ l) := by
  unfold inV
  rw [List.any_map]
  by_cases h : x ∈ l
  · rw [decide_eq_true h]
    refine List.any_eq_true.mpr ⟨x, h, ?_⟩
    show (x == x) = true
    simp
  · rw [decide_eq_false h]
    refine List.any_eq_false.mpr fun y hy => ?_
    show ¬ (y == x) = true
    intro z
    have e : y = x := by simpa using z
    exact h (e ▸ hy)
theorem flat_ints (l : List Int) : (l.map V.int).all flatV = true := by
  rw [List.all_map]
  exact List.all_eq_true.mpr fun _ _ => rfl
theorem houses_len (B : Bk) : (houses B).length = B.cash.length := by
  unfold houses
  rw [List.length_map, List.length_range]
theorem houses_in (B : Bk) : ∀ x ∈ houses B, 0 ≤ x ∧ x < B.cash.length := fun _ h => mem_houses.mp h
/-- the law's list of all amounts -/
theorem allP_take {B : Bk} {j : Nat} (h : j < B.claims.length) : (allP B).take (j + 1) = (allP B).take j ++ [(B.clm j).a] := by
  have e : (allP B)[j]? = some (B.clm j).a := by
    unfold allP
    rw [List.getElem?_map, Bk.clm_get h]
    rfl
  rw [List.take_add_one, e]
  rfl
/-- the draws' start -/
theorem rng_start {H : Hp} {h c : Addr} {ns : List Int} {n : Int} (nc : H c = none) (nh : (upd H c (.lst (ns.map V.int))) h = none) (hns : ns.length ≤ 63) (n0 : 0 ≤ n) (n1 : n < 2147483647) : RngAt (upd (upd H c (.lst (ns.map V.int))) h (.lst [.int n, .ref c, .int 0])) h c := by
  have nhc : h ≠ c := fun z => by rw [z, upd_same] at nh; cases nh
  exact ⟨nhc, n, 0, ns, upd_same, by rw [upd_ne nhc.symm, upd_same], n0, n1, by decide, hns⟩


end Rf
namespace Rf
open PySem PySem.Spec PyProof.Rows L2
/-! ### the program's sharing -/
def spFirstCoins (K : PySem.W.Frag) : Sp := fun vs H Q _ => ∃ (a : Addr) (as : List Int) (c : Int), vs = [.ref a, .int c] ∧ SqL K H a (as.map V.int) ∧ Amts as ∧ 0 ≤ c ∧ c < as.sum ∧
  ∀ p H', H p = none → Same H H' → H' p = some (.lst ((startAt as (partsOf as c)).map V.int)) → Q (.ref p) H'
def spLeast (K : PySem.W.Frag) : Sp := fun vs H Q _ => ∃ (a p : Addr) (as ps : List Int), vs = [.ref a, .ref p] ∧ Two K H a p as ps ∧ ∀ H', Same H H' → Q (match firstUp as ps as.length with | none => V.non | some k => V.int (k : Int)) H'
def spShared (K : PySem.W.Frag) : Sp := fun vs H Q _ => ∃ (a : Addr) (as : List Int) (c : Int), vs = [.ref a, .int c] ∧ SqL K H a (as.map V.int) ∧ Amts as ∧
  ∀ p H', H p = none → Same H H' → H' p = some (.lst ((share as (max 0 c)).map V.int)) → Q (.ref p) H'
theorem max_if (c : Int) : (if c > 0 then c else 0) = max 0 c := by
  by_cases h : c > 0
  · rw [if_pos h, Int.max_eq_right (by omega)]
  · rw [if_neg h, Int.max_eq_left (by omega)]
def optV : Option Nat → V
  | none => .non
  | some k => .int (k : Int)
theorem startAt_len (as : List Int) (p : Int) : (startAt as p).length = as.length := by
  unfold startAt
  rw [List.length_map]
section
variable {P : Program} {w : World} {K : PySem.W.Frag} {mg : Str → Option Value} {base : Heap}
theorem sc_first_coins : FnScope ["amounts", "coins", "parts", "whole", "amount"] ["amounts", "coins"] (defScope s_first_coins) := ⟨rfl, rfl, rfl, by decide +kernel, rfl, by decide +kernel, by decide +kernel⟩
/- 0:amounts 1:coins 2:parts 3:whole 4:amount -/
theorem ok_first_coins {f : Addr} {fd : FuncData} (D : DefAt K mg "_first_coins" s_first_coins ["amounts", "coins"] f fd) (m_max : mg "max" = none) (m_len : mg "len" = none) (m_sum : mg "sum" = none) : FnOk P w K mg base CX0 1 f fd ["amounts", "coins"] (spFirstCoins K) := by
  refine D.F.ok sc_first_coins (fun vs H Q E h => ?_) (fun cdv A outer s H vs Q E hr h => ?_)
  · obtain ⟨a, as, c, rfl, _⟩ := h
    rfl
  · obtain ⟨a, as, c, rfl, ha, M, hc, hlt, k⟩ := h
    have la : (as.map V.int).length = as.length := List.length_map _
    have hs := M.sum_le
    have hsm := M.small
    have hp0 : 0 ≤ partsOf as c := by unfold partsOf; omega
    refine ⟨_, pss_cons (ps_set (i := 2) sc_first_coins.nd rfl (.inr rfl) (pe_callB (call_max2 rfl) (by rfl) m_max (by decide +kernel) (pa_cons pe_int (pa_cons (pe_op op_add (pe_op op_sub (pv 1) (pe_callB (r := rLen K) call_len (by rfl) m_len (by decide +kernel) (pa_cons (pv 0) pa_nil))) pe_int) pa_nil))))
        (pss_cons (ps_set (i := 3) sc_first_coins.nd rfl (.inr rfl) (pe_callB (r := rSum K) (cr_sum rfl) (by rfl) m_sum (by decide +kernel) (pa_cons (pv 0) pa_nil)))
        (pss_one (ps_ret (pe_lc (own := [("amount", 4)]) (g := gName 4) (tt := tYes) (by rfl) sc_first_coins.nd (pi_list (pv 0)) (blkOk_by (own := [("amount", 4)]) (N := ["amounts", "coins", "parts", "whole", "amount"]) (sc := defScope s_first_coins) (by decide +kernel)) (fun _ _ _ _ _ => (pg_name (i := 4) sc_first_coins.nd rfl (.inl rfl))) (fun _ _ _ _ _ => pts_nil) (fun _ _ _ _ _ => (pe_un un_neg (pe_op op_fdiv (pe_op op_mul (pe_un un_neg (pv 4)) (pv 2)) (pv 3)))))))), ?_⟩
    refine sq_val (.int (partsOf as c)) (fun Q k => ⟨_, rfl, _, rfl, a, _, rfl, .inl ha, _, _, rfl, rfl, _, _, rfl, rfl, _, _, rfl, ?_⟩) ?_
    · rw [max_if, la]
      exact k
    refine sq_val (.int as.sum) (fun Q k => ⟨_, rfl, a, as, rfl, ha, k⟩) ?_
    refine ⟨_, rfl, a, rfl, ⟨_, ha⟩, fun d nd => ?_⟩
    refine lc_list (xs := as.map V.int) (fun i H' => Same H H' ∧ H' d = some (.lst (((startAt as (partsOf as c)).take i).map V.int))) ⟨Same.new nd, by rw [upd_same]; rfl⟩ (fun i H' _ hP => hP.1.seq ha) (fun i x H' hx hP => ?_) (fun H' hP => ?_)
    · obtain ⟨s2, hd2⟩ := hP
      have hi : i < as.length := by
        have := (List.getElem?_eq_some_iff.mp hx).1
        rw [la] at this
        exact this
      have ex : x = .int (g as i) := by
        rw [List.getElem?_map, g_get hi] at hx
        exact (Option.some.inj hx).symm
      subst ex
      have b := M.bnd.g hi
      refine ⟨rfl, _, rfl, _, rfl, _, rfl, _, _, rfl, rfl, .inl ⟨by omega, by omega⟩, _, rfl, _, _, rfl, rfl, ⟨by omega, by omega⟩, _, rfl, _, hd2, ?_, Same.mut s2 nd, ?_⟩
      · rw [List.length_map, List.length_take]
        exact sz_lt (by omega)
      · rw [upd_same]
        have hg : (startAt as (partsOf as c))[i]? = some (-((-(g as i) * partsOf as c) / as.sum)) := by
          unfold startAt
          rw [List.getElem?_map, g_get hi]
          rfl
        rw [List.take_add_one, hg, List.map_append]
        rfl
    · obtain ⟨s2, hd2⟩ := hP
      refine k d H' nd s2 ?_
      rw [hd2, List.take_of_length_le (by rw [startAt_len, la]; exact Nat.le_refl _)]
theorem sc_least_paid : FnScope ["amounts", "paid", "least", "number", "amount"] ["amounts", "paid"] (defScope s_least_paid) := ⟨rfl, rfl, rfl, by decide +kernel, rfl, by decide +kernel, by decide +kernel⟩
/- 0:amounts 1:paid 2:least 3:number 4:amount -/
theorem ok_least_paid {f : Addr} {fd : FuncData} (D : DefAt K mg "_least_paid" s_least_paid ["amounts", "paid"] f fd) (m_enumerate : mg "enumerate" = none) : FnOk P w K mg base CX0 1 f fd ["amounts", "paid"] (spLeast K) := by
  refine D.F.ok sc_least_paid (fun vs H Q E h => ?_) (fun cdv A outer s H vs Q E hr h => ?_)
  · obtain ⟨a, p, as, ps, rfl, _⟩ := h
    rfl
  · obtain ⟨a, p, as, ps, rfl, T, k⟩ := h
    have la : (as.map V.int).length = as.length := List.length_map _
    refine ⟨_, pss_cons (ps_set (i := 2) sc_least_paid.nd rfl (.inl rfl) pe_non)
        (pss_cons (ps_for PassesOwn.never rfl (pi_enum (by rfl) m_enumerate (pa_cons (pv 0) pa_nil)) (pg_tup rfl (pgs_cons (pg_name (i := 3) sc_least_paid.nd rfl (.inl rfl)) (pgs_cons (pg_name (i := 4) sc_least_paid.nd rfl (.inl rfl)) pgs_nil))) (pss_one (ps_if (PW.pt (pw_and (pt_cmpR op_lt (pe_ix (r := rIxL K) ix_list (pv 1) (pv 3) (fun _ _ => rfl)) (pv 4) (nomark _)) (pw_and1 (PW.pt (pw_or (pt_cmpR op_isN (pv 2) pe_non (nomark _)) (pw_or1 (pt_cmpR op_lt (pe_op op_mul (pe_ix (r := rIxL K) ix_list (pv 1) (pv 3) (fun _ _ => rfl)) (pe_ix (r := rIxL K) ix_list (pv 0) (pv 2) (fun _ _ => rfl))) (pe_op op_mul (pe_ix (r := rIxL K) ix_list (pv 1) (pv 2) (fun _ _ => rfl)) (pv 4)) (nomark _)))))))) (pss_one (ps_set (i := 2) sc_least_paid.nd rfl (.inl rfl) (pv 3))) pss_nil)))
        (pss_one (ps_ret (pv 2)))), ?_⟩
    refine sq_val .non (fun Q k => k) ?_
    refine sq_forE (xs := as.map V.int) (fun Q k => ⟨_, rfl, k⟩) T.ha
      (fun i σ' H' => Same H H' ∧ ∃ y z, σ' = [some (.ref a), some (.ref p), some (optV (firstUp as ps i)), y, z]) ⟨Same.refl _, none, none, rfl⟩ (fun i σ' H' _ hP => hP.1.seq T.ha) (fun i x U σ' H' hx hP hU => ?_) (fun σ' H' hP => ?_)
    · obtain ⟨s1, y, z, rfl⟩ := hP
      have hi1 : i < as.length := by
        have := (List.getElem?_eq_some_iff.mp hx).1
        rw [la] at this
        exact this
      have ex : x = .int (g as i) := by
        rw [List.getElem?_map, g_get hi1] at hx
        exact (Option.some.inj hx).symm
      subst ex
      have hi2 : i < ps.length := by rw [T.len]; exact hi1
      have b1 := T.ba.g hi1
      have b2 := T.bp.g hi2
      have s2 : Same H (upd H' U (.tup [.int (i : Int), .int (g as i)])) := s1.trans (Same.new hU)
      have T2 := T.same s2
      refine ⟨U, _, rfl, st_of upd_same, rfl, _, _, rfl, _, _, rfl, rfl, ?_⟩
      refine if_ifP (p := g ps i < g as i ∧ ∀ f0, firstUp as ps i = some f0 → g ps i * g as f0 < g ps f0 * g as i) (fun Q k => ?_) (fun hyes => ?_) (fun hno => ?_)
      · refine ⟨_, rfl, _, rfl, p, _, _, _, rfl, rfl, T2.hp, atI_g rfl hi2, _, rfl, _, _, rfl, rfl, _, rfl, ?_⟩
        by_cases hlt : g ps i < g as i
        · rw [decide_eq_true hlt]
          refine iteT ⟨_, rfl, rfl, _, rfl, ?_⟩
          cases e : firstUp as ps i with
          | none =>
            refine iteT ?_
            have q : decide (g ps i < g as i ∧ ∀ f0, firstUp as ps i = some f0 → g ps i * g as f0 < g ps f0 * g as i) = true := decide_eq_true ⟨hlt, fun f0 z => by rw [e] at z; cases z⟩
            rw [q] at k
            exact k
          | some f0 =>
            have hf := fu_lt e
            have hf1 : f0 < as.length := by omega
            have hf2 : f0 < ps.length := by rw [T.len]; exact hf1
            have b4 := T.bp.g hf2
            refine iteF ⟨_, rfl, _, rfl, p, _, _, _, rfl, rfl, T2.hp, atI_g rfl hi2, _, rfl, _, rfl, a, _, _, _, rfl, rfl, T2.ha, atI_g rfl hf1, _, _, rfl, rfl, cmul_of b2, _, rfl, _, rfl, p, _, _, _, rfl, rfl, T2.hp, atI_g rfl hf2, _, rfl, _, _, rfl, rfl, cmul_of b4, _, _, rfl, rfl, _, rfl, ?_⟩
            have q : decide (g ps i * g as f0 < g ps f0 * g as i) = decide (g ps i < g as i ∧ ∀ f1, firstUp as ps i = some f1 → g ps i * g as f1 < g ps f1 * g as i) := by
              apply decide_eq_decide.mpr
              constructor
              · intro h
                refine ⟨hlt, fun f1 z => ?_⟩
                rw [e] at z
                cases z
                exact h
              · intro h
                exact h.2 f0 e
            rw [q]
            exact k
        · rw [decide_eq_false hlt]
          refine iteF ?_
          rw [decide_eq_false (fun z => hlt z.1)] at k
          exact k
      · refine ⟨_, rfl, s2, ?_⟩
        have e2 : firstUp as ps (i + 1) = some i := by
          cases e : firstUp as ps i with
          | none => exact fu_first hyes.1 e
          | some f0 => exact fu_less hyes.1 e (hyes.2 f0 e)
        rw [e2]
        exact ⟨_, _, rfl⟩
      · refine sq_nx ⟨s2, ?_⟩
        have e2 : firstUp as ps (i + 1) = firstUp as ps i := by
          by_cases hlt : g ps i < g as i
          · cases e : firstUp as ps i with
            | none => exact absurd ⟨hlt, fun f0 z => by rw [e] at z; cases z⟩ hno
            | some f0 =>
              refine fu_keep e fun h => hno ⟨hlt, fun f1 z => ?_⟩
              rw [e] at z
              cases z
              exact h
          · exact fu_skip hlt
        rw [e2]
        exact ⟨_, _, rfl⟩
    · obtain ⟨s1, y, z, rfl⟩ := hP
      rw [la]
      refine ⟨_, rfl, ?_⟩
      have q := k H' s1
      cases e : firstUp as ps as.length with
      | none => rw [e] at q; exact q
      | some f0 => rw [e] at q; exact q
theorem sc_shared : FnScope ["amounts", "coins", "whole", "paid", "_"] ["amounts", "coins"] (defScope s_shared) := ⟨rfl, rfl, rfl, by decide +kernel, rfl, by decide +kernel, by decide +kernel⟩
/- 0:amounts 1:coins 2:whole 3:paid 4:_ -/
theorem ok_shared {f : Addr} {fd : FuncData} (D : DefAt K mg "shared" s_shared ["amounts", "coins"] f fd) (m_range : mg "range" = none) (m_len : mg "len" = none) (m_max : mg "max" = none) (m_sum : mg "sum" = none) (m_list : mg "list" = none) (m_enumerate : mg "enumerate" = none)
    {f1 : Addr} {fd1 : FuncData} (D_first_coins : DefAt K mg "_first_coins" s_first_coins ["amounts", "coins"] f1 fd1)
    {f2 : Addr} {fd2 : FuncData} (D_least_paid : DefAt K mg "_least_paid" s_least_paid ["amounts", "paid"] f2 fd2) : FnOk P w K mg base CX0 2 f fd ["amounts", "coins"] (spShared K) := by
  have G_first_coins : FnOk P w K mg base CX0 1 f1 fd1 ["amounts", "coins"] (spFirstCoins K) := ok_first_coins D_first_coins m_max m_len m_sum
  have G_least_paid : FnOk P w K mg base CX0 1 f2 fd2 ["amounts", "paid"] (spLeast K) := ok_least_paid D_least_paid m_enumerate
  refine D.F.ok sc_shared (fun vs H Q E h => ?_) (fun cdv A outer s H vs Q E hr h => ?_)
  · obtain ⟨a, as, c, rfl, _⟩ := h
    rfl
  · obtain ⟨a, as, c, rfl, ha, M, k⟩ := h
    have hs := M.sum_le
    have hs0 := M.sum_nn
    have hsm := M.small
    refine ⟨_, pss_cons (ps_set (i := 2) sc_shared.nd rfl (.inl rfl) (pe_callB (r := rSum K) (cr_sum rfl) (by rfl) m_sum (by decide +kernel) (pa_cons (pv 0) pa_nil)))
        (pss_cons (ps_set (i := 1) sc_shared.nd rfl (.inl rfl) (pe_callB (call_max2 rfl) (by rfl) m_max (by decide +kernel) (pa_cons pe_int (pa_cons (pv 1) pa_nil))))
        (pss_cons (ps_if (pt_cmpR op_ge (pv 1) (pv 2) (nomark _)) (pss_one (ps_ret (pe_callTy (r := rListOf K) call_listOf (by rfl) m_list (by decide +kernel) (pa_cons (pv 0) pa_nil)))) pss_nil)
        (pss_cons (ps_set (i := 3) sc_shared.nd rfl (.inl rfl) (pe_call G_first_coins (hr.mono (by decide)) (by rfl) D_first_coins.g D_first_coins.F.kp D_first_coins.b .nil pass0 (pa_cons (pv 0) (pa_cons (pv 1) pa_nil))))
        (pss_cons (ps_for PassesOwn.never rfl (pi_range1 (by rfl) m_range (pa_cons (pe_op op_sub (pv 1) (pe_callB (r := rSum K) (cr_sum rfl) (by rfl) m_sum (by decide +kernel) (pa_cons (pv 3) pa_nil))) pa_nil)) (pg_name (i := 4) sc_shared.nd rfl (.inl rfl)) (pss_one (ps_augS (pv 3) (pe_call G_least_paid (hr.mono (by decide)) (by rfl) D_least_paid.g D_least_paid.F.kp D_least_paid.b .nil pass0 (pa_cons (pv 0) (pa_cons (pv 3) pa_nil))) get_list pe_int ip_add set_list)))
        (pss_one (ps_ret (pv 3))))))), ?_⟩
    refine sq_val (.int as.sum) (fun Q k => ⟨_, rfl, a, as, rfl, ha, k⟩) ?_
    refine sq_val (.int (max 0 c)) (fun Q k => ⟨_, rfl, _, _, rfl, by rw [max_if]; exact k⟩) ?_
    refine sq_whenP (p := as.sum ≤ max 0 c) (fun Q k => ⟨_, rfl, _, rfl, _, _, rfl, rfl, _, rfl, k⟩) (fun hge => ?_) (fun hlt => ?_)
    · refine ⟨_, rfl, a, _, rfl, .inl ha, fun l nl => k l _ nl (Same.new nl) ?_⟩
      rw [upd_same, ← full_share M.pos (by omega) hge]
    · refine sq_new (.lst ((startAt as (partsOf as (max 0 c))).map V.int)) (fun Q k => ⟨_, rfl, _, rfl, a, as, _, rfl, ha, M, by omega, by omega, k⟩) (fun p H1 np s1 hp => ?_)
      have hst := start_sum (c := max 0 c) M.pos (by omega) (by omega)
      have ne : as ≠ [] := fun z => by subst z; simp at hlt; omega
      have hl0 : 0 < as.length := List.length_pos_iff.mpr ne
      have V0 := start_valid (a := as) (p := partsOf as (max 0 c)) M.pos (by unfold partsOf; omega) (by unfold partsOf; omega) (by omega)
      have n0 := V0.sum_nn
      refine sq_forR (max 0 c - (startAt as (partsOf as (max 0 c))).sum) (fun Q k => ⟨_, rfl, _, rfl, p, _, rfl, sq_of hp, _, _, rfl, rfl, k⟩) (by omega)
        (fun i σ' H' => Same H H' ∧ H' p = some (.lst ((steps as i (startAt as (partsOf as (max 0 c)))).map V.int)) ∧ ∃ y, σ' = [some (.ref a), some (.int (max 0 c)), some (.int as.sum), some (.ref p), y]) ⟨s1, hp, none, rfl⟩ (fun i σ' H' hi hP => ?_) (fun σ' H' hP => ?_)
      · obtain ⟨s2, hp2, y, rfl⟩ := hP
        obtain ⟨W, sm⟩ := steps_ok M.pos V0 i (by omega)
        obtain ⟨f0, e, F⟩ := exists_first W (by omega) M.pos
        have hf2 : f0 < (steps as i (startAt as (partsOf as (max 0 c)))).length := by rw [W.len]; exact F.lt
        refine ⟨_, rfl, _, rfl, _, rfl, a, p, as, _, rfl, ⟨s2.seq ha, sq_of hp2, W.len, M.small, M.bnd, bnd_valid M.bnd W⟩, fun H3 s3 => ?_⟩
        rw [e]
        have hp3 := s3 _ _ hp2
        refine ⟨p, _, _, _, rfl, rfl, sq_of hp3, atI_g rfl hf2, _, _, rfl, rfl, p, _, _, f0, rfl, rfl, hp3, ixN_nat rfl (by rw [List.length_map]; exact hf2), ?_⟩
        refine ⟨Same.mut (s2.trans s3) np, ?_, _, rfl⟩
        rw [upd_same, map_set]
        show _ = some (HO.lst ((nextS as _).map V.int))
        rw [nextS_of e]
      · obtain ⟨s2, hp2, y, rfl⟩ := hP
        refine ⟨_, rfl, k p H' np s2 ?_⟩
        rw [hp2, prog_share M.pos (by omega) (by omega)]
end


end Rf
namespace Rf
open PySem PySem.Spec PyProof.Rows L2
/-! ### the program's books, where they are books -/
structure Lims (mg : Str → Option Value) : Prop where
  houses : ∃ t, mg "MOST_HOUSES" = some (.int 8 t)
  cash : ∃ t, mg "MOST_CASH" = some (.int 999 t)
  claims : ∃ t, mg "MOST_CLAIMS" = some (.int 24 t)
  amount : ∃ t, mg "MOST_AMOUNT" = some (.int 999 t)
  rank : ∃ t, mg "MOST_RANK" = some (.int 9 t)
def spWrong (K : PySem.W.Frag) : Sp := fun vs H Q _ => ∃ (t : Addr) (n : Int) (q : Clm), vs = [.ref t, .int n] ∧ SqT K H t [.int q.d, .int q.c, .int q.a, .int q.r] ∧ GoodC n q ∧ Q .non H
def spNeed (K : PySem.W.Frag) : Sp := fun vs H Q _ => ∃ (b ca cl : Addr) (ts : List Addr) (B : Bk), vs = [.ref b] ∧ BookAt K H b ca cl ts B ∧ Good B ∧ ∀ H', Same H H' → Q .non H'
def spNeedHs (K : PySem.W.Frag) : Sp := fun vs H Q _ => ∃ (b ca cl : Addr) (ts : List Addr) (B : Bk) (l : Addr) (xs : List Int), vs = [.ref b, .ref l] ∧ BookAt K H b ca cl ts B ∧ Good B ∧ SqL K H l (xs.map V.int) ∧ (∀ x ∈ xs, 0 ≤ x ∧ x < B.cash.length) ∧ ∀ H', Same H H' → Q .non H'
def spNeedH (K : PySem.W.Frag) : Sp := fun vs H Q _ => ∃ (b ca cl : Addr) (ts : List Addr) (B : Bk) (x : Int), vs = [.ref b, .int x] ∧ BookAt K H b ca cl ts B ∧ Good B ∧ 0 ≤ x ∧ x < B.cash.length ∧ ∀ H', Same H H' → Q .non H'
section
variable {P : Program} {w : World} {K : PySem.W.Frag} {mg : Str → Option Value} {base : Heap}
theorem sc_wrong : FnScope ["claim", "houses", "debtor", "creditor", "amount", "rank"] ["claim", "houses"] (defScope s_wrong) := ⟨rfl, rfl, rfl, by decide +kernel, rfl, by decide +kernel, by decide +kernel⟩
/- 0:claim 1:houses 2:debtor 3:creditor 4:amount 5:rank -/
theorem ok_wrong {f : Addr} {fd : FuncData} (D : DefAt K mg "_wrong_in_claim" s_wrong ["claim", "houses"] f fd) (L : Lims mg) : FnOk P w K mg base CX0 1 f fd ["claim", "houses"] (spWrong K) := by
  obtain ⟨t1, m_MOST_AMOUNT⟩ := L.amount
  obtain ⟨t2, m_MOST_RANK⟩ := L.rank
  refine D.F.ok sc_wrong (fun vs H Q E h => ?_) (fun cdv A outer s H vs Q E hr h => ?_)
  · obtain ⟨t, n, q, rfl, _⟩ := h
    rfl
  · obtain ⟨t, n, q, rfl, ht, Gc, k⟩ := h
    have ne : decide (V.int q.d = V.int q.c) = false := decide_eq_false fun z => Gc.ne (V.int.inj z)
    refine ⟨_, pss_cons (ps_asg (pv 0) (pg_tup rfl (pgs_cons (pg_name (i := 2) sc_wrong.nd rfl (.inl rfl)) (pgs_cons (pg_name (i := 3) sc_wrong.nd rfl (.inl rfl)) (pgs_cons (pg_name (i := 4) sc_wrong.nd rfl (.inl rfl)) (pgs_cons (pg_name (i := 5) sc_wrong.nd rfl (.inl rfl)) pgs_nil))))))
        (pss_cons (ps_if (PW.pt (pw_or (pt_not (PW.pt (pw_and (pt_chain op_le op_lt pe_int (pv 2) (pv 1)) (pw_and1 (pt_chain op_le op_lt pe_int (pv 3) (pv 1)))))) (pw_or1 (pt_cmpR op_eq (pv 2) (pv 3) (nomark _))))) (pss_one (ps_ret pe_str)) pss_nil)
        (pss_cons (ps_if (pt_not (pt_chain op_le op_le pe_int (pv 4) (pe_glob (v := .int 999) (by rfl) m_MOST_AMOUNT ⟨_, rfl⟩))) (pss_one (ps_ret pe_str)) pss_nil)
        (pss_cons (ps_if (pt_not (pt_chain op_le op_le pe_int (pv 5) (pe_glob (v := .int 9) (by rfl) m_MOST_RANK ⟨_, rfl⟩))) (pss_one (ps_ret pe_str)) pss_nil)
        (pss_one (ps_ret pe_non))))), ?_⟩
    refine sq_tup4 (fun Q k => ⟨_, rfl, k⟩) ht ?_
    refine sq_no (fun H' => H' = H) (fun Q k => ?_) (fun H' e => ?_)
    · refine ⟨_, rfl, _, _, rfl, rfl, true, dec_t Gc.d0, iteT ⟨_, rfl, _, _, rfl, rfl, true, dec_t Gc.d1, iteT ?_⟩⟩
      refine ⟨_, rfl, _, _, rfl, rfl, true, dec_t Gc.c0, iteT ⟨_, rfl, _, _, rfl, rfl, true, dec_t Gc.c1, iteF ?_⟩⟩
      refine ⟨_, rfl, _, rfl, rfl, ?_⟩
      rw [ne]
      exact ⟨_, rfl, k H rfl⟩
    subst e
    refine sq_no (fun H1 => H1 = H') (fun Q k => ?_) (fun H1 e => ?_)
    · exact ⟨_, rfl, _, _, rfl, rfl, true, dec_t Gc.a0, iteT ⟨_, _, rfl, rfl, true, dec_t Gc.a1, k H' rfl⟩⟩
    subst e
    refine sq_no (fun H2 => H2 = H1) (fun Q k => ?_) (fun H2 e => ?_)
    · exact ⟨_, rfl, _, _, rfl, rfl, true, dec_t Gc.r0, iteT ⟨_, _, rfl, rfl, true, dec_t Gc.r1, k H1 rfl⟩⟩
    subst e
    exact k
theorem sc_need : FnScope ["book", "cash", "claims", "houses", "house", "coins", "number", "claim", "wrong"] ["book"] (defScope s_need) := ⟨rfl, rfl, rfl, by decide +kernel, rfl, by decide +kernel, by decide +kernel⟩
/- 0:book 1:cash 2:claims 3:houses 4:house 5:coins 6:number 7:claim 8:wrong -/
theorem ok_need {f : Addr} {fd : FuncData} (D : DefAt K mg "need_book" s_need ["book"] f fd) (L : Lims mg) (m_len : mg "len" = none) (m_enumerate : mg "enumerate" = none)
    {f1 : Addr} {fd1 : FuncData} (D_wrong : DefAt K mg "_wrong_in_claim" s_wrong ["claim", "houses"] f1 fd1) : FnOk P w K mg base CX0 2 f fd ["book"] (spNeed K) := by
  have G_wrong : FnOk P w K mg base CX0 1 f1 fd1 ["claim", "houses"] (spWrong K) := ok_wrong D_wrong L
  obtain ⟨t1, m_MOST_HOUSES⟩ := L.houses
  obtain ⟨t2, m_MOST_CASH⟩ := L.cash
  obtain ⟨t3, m_MOST_CLAIMS⟩ := L.claims
  refine D.F.ok sc_need (fun vs H Q E h => ?_) (fun cdv A outer s H vs Q E hr h => ?_)
  · obtain ⟨b, ca, cl, ts, B, rfl, _⟩ := h
    rfl
  · obtain ⟨b, ca, cl, ts, B, rfl, A, G, k⟩ := h
    have lc : (B.cash.map V.int).length = B.cash.length := List.length_map _
    have lq : (ts.map V.ref).length = B.claims.length := by rw [List.length_map, A.hq.1]
    have n0 := G.n0
    have n1 := G.n1
    have m1 := G.m1
    refine ⟨_, pss_cons (ps_asg (pv 0) (pg_tup rfl (pgs_cons (pg_name (i := 1) sc_need.nd rfl (.inl rfl)) (pgs_cons (pg_name (i := 2) sc_need.nd rfl (.inl rfl)) pgs_nil))))
        (pss_cons (ps_set (i := 3) sc_need.nd rfl (.inl rfl) (pe_callB (r := rLen K) call_len (by rfl) m_len (by decide +kernel) (pa_cons (pv 1) pa_nil)))
        (pss_cons (ps_if (pt_not (pt_chain op_le op_le pe_int (pv 3) (pe_glob (v := .int 8) (by rfl) m_MOST_HOUSES ⟨_, rfl⟩))) (pss_one ps_never) pss_nil)
        (pss_cons (ps_for PassesOwn.never rfl (pi_enumT (by rfl) m_enumerate (pa_cons (pv 1) pa_nil)) (pg_tup rfl (pgs_cons (pg_name (i := 4) sc_need.nd rfl (.inl rfl)) (pgs_cons (pg_name (i := 5) sc_need.nd rfl (.inl rfl)) pgs_nil))) (pss_one (ps_if (pt_not (pt_chain op_le op_le pe_int (pv 5) (pe_glob (v := .int 999) (by rfl) m_MOST_CASH ⟨_, rfl⟩))) (pss_one ps_never) pss_nil)))
        (pss_cons (ps_if (pt_cmpR op_gt (pe_callB (r := rLen K) call_len (by rfl) m_len (by decide +kernel) (pa_cons (pv 2) pa_nil)) (pe_glob (v := .int 24) (by rfl) m_MOST_CLAIMS ⟨_, rfl⟩) (nomark _)) (pss_one ps_never) pss_nil)
        (pss_one (ps_for PassesOwn.never rfl (pi_enumT (by rfl) m_enumerate (pa_cons (pv 2) pa_nil)) (pg_tup rfl (pgs_cons (pg_name (i := 6) sc_need.nd rfl (.inl rfl)) (pgs_cons (pg_name (i := 7) sc_need.nd rfl (.inl rfl)) pgs_nil))) (pss_cons (ps_set (i := 8) sc_need.nd rfl (.inl rfl) (pe_call G_wrong (hr.mono (by decide)) (by rfl) D_wrong.g D_wrong.F.kp D_wrong.b .nil pass0 (pa_cons (pv 7) (pa_cons (pv 3) pa_nil))))
          (pss_one (ps_if (pt_cmpR op_notN (pv 8) pe_non (nomark _)) (pss_one ps_never) pss_nil))))))))), ?_⟩
    refine sq_tup2 (fun Q k => ⟨_, rfl, k⟩) A.hb ?_
    refine sq_val (.int (B.cash.length : Int)) (fun Q k => ⟨_, rfl, ca, _, rfl, .inr A.hca, by rw [lc]; exact k⟩) ?_
    refine sq_no (fun H' => H' = H) (fun Q k => ?_) (fun H' e => ?_)
    · exact ⟨_, rfl, _, _, rfl, rfl, true, dec_t (show (1 : Int) ≤ (B.cash.length : Int) by omega), iteT ⟨_, _, rfl, rfl, true, dec_t (show (B.cash.length : Int) ≤ 8 by omega), k H rfl⟩⟩
    subst e
    refine sq_forET (xs := B.cash.map V.int) (fun Q k => ⟨_, rfl, k⟩) A.hca
      (fun i σ' H1 => Same H' H1 ∧ ∃ y5 y6 y7 y8 y9, σ' = [some (.ref b), some (.ref ca), some (.ref cl), some (.int (B.cash.length : Int)), y5, y6, y7, y8, y9]) ⟨Same.refl _, none, none, none, none, none, rfl⟩ (fun i σ' H1 _ hP => Same.tup hP.1 A.hca) (fun i x U σ' H1 hx hP hU => ?_) (fun σ' H1 hP => ?_)
    · obtain ⟨s1, y5, y6, y7, y8, y9, rfl⟩ := hP
      obtain ⟨rfl, hi⟩ := map_int_get hx
      have gx := G.cash _ (g_mem hi)
      refine ⟨U, _, rfl, st_of upd_same, rfl, _, _, rfl, _, _, rfl, rfl, ?_⟩
      refine ⟨_, rfl, _, _, rfl, rfl, true, dec_t gx.1, iteT ⟨_, _, rfl, rfl, true, dec_t gx.2, iteF ?_⟩⟩
      exact ⟨s1.trans (Same.new hU), _, _, _, _, _, rfl⟩
    obtain ⟨s1, y5, y6, y7, y8, y9, rfl⟩ := hP
    have A1 := A.same s1
    refine sq_no (fun H2 => H2 = H1) (fun Q k => ?_) (fun H2 e => ?_)
    · refine ⟨_, rfl, cl, _, rfl, .inr A1.hcl, _, _, rfl, rfl, false, ?_, k H1 rfl⟩
      rw [lq]
      exact dec_f (show ¬ ((24 : Int) < (B.claims.length : Int)) by omega)
    subst e
    refine last_for ?_
    refine sq_forET (xs := ts.map V.ref) (fun Q k => ⟨_, rfl, k⟩) A1.hcl
      (fun i σ' H3 => Same H' H3 ∧ ∃ y5 y6 y7 y8 y9, σ' = [some (.ref b), some (.ref ca), some (.ref cl), some (.int (B.cash.length : Int)), y5, y6, y7, y8, y9]) ⟨s1, _, _, _, _, _, rfl⟩ (fun i σ' H3 _ hP => Same.tup hP.1 A.hcl) (fun i x U σ' H3 hx hP hU => ?_) (fun σ' H3 hP => ?_)
    · obtain ⟨s3, y5, y6, y7, y8, y9, rfl⟩ := hP
      obtain ⟨t, rfl, ht⟩ := map_ref_get hx
      have hi : i < B.claims.length := by
        rw [← A.hq.1]
        exact (List.getElem?_eq_some_iff.mp ht).1
      have hq := A.hq.2 i t _ ht (Bk.clm_get hi)
      have s4 := s3.trans (Same.new hU (o := .tup [.int (i : Int), .ref t]))
      refine ⟨U, _, rfl, st_of upd_same, rfl, _, _, rfl, _, _, rfl, rfl, ?_⟩
      refine sq_val .non (fun Q k => ⟨_, rfl, _, rfl, t, _, B.clm i, rfl, Same.tup s4 hq, G.clm hi, k⟩) ?_
      exact ⟨_, rfl, rfl, _, rfl, iteF ⟨s4, _, _, _, _, _, rfl⟩⟩
    · exact k H3 hP.1
theorem sc_needhs : FnScope ["book", "houses", "cash", "_", "house"] ["book", "houses"] (defScope s_needhs) := ⟨rfl, rfl, rfl, by decide +kernel, rfl, by decide +kernel, by decide +kernel⟩
/- 0:book 1:houses 2:cash 3:_ 4:house -/
theorem ok_needhs {f : Addr} {fd : FuncData} (D : DefAt K mg "need_houses" s_needhs ["book", "houses"] f fd) (L : Lims mg) (m_len : mg "len" = none) (m_enumerate : mg "enumerate" = none)
    {f1 : Addr} {fd1 : FuncData} (D_wrong : DefAt K mg "_wrong_in_claim" s_wrong ["claim", "houses"] f1 fd1)
    {f2 : Addr} {fd2 : FuncData} (D_need : DefAt K mg "need_book" s_need ["book"] f2 fd2) : FnOk P w K mg base CX0 3 f fd ["book", "houses"] (spNeedHs K) := by
  have G_need : FnOk P w K mg base CX0 2 f2 fd2 ["book"] (spNeed K) := ok_need D_need L m_len m_enumerate D_wrong
  refine D.F.ok sc_needhs (fun vs H Q E h => ?_) (fun cdv A outer s H vs Q E hr h => ?_)
  · obtain ⟨b, ca, cl, ts, B, l, xs, rfl, _⟩ := h
    rfl
  · obtain ⟨b, ca, cl, ts, B, l, xs, rfl, A, G, hx, hin, k⟩ := h
    have lc : (B.cash.map V.int).length = B.cash.length := List.length_map _
    refine ⟨_, pss_cons (ps_expr (pe_call G_need (hr.mono (by decide)) (by rfl) D_need.g D_need.F.kp D_need.b .nil pass0 (pa_cons (pv 0) pa_nil)))
        (pss_cons (ps_asg (pv 0) (pg_tup rfl (pgs_cons (pg_name (i := 2) sc_needhs.nd rfl (.inl rfl)) (pgs_cons (pg_name (i := 3) sc_needhs.nd rfl (.inl rfl)) pgs_nil))))
        (pss_one (ps_for PassesOwn.never rfl (pi_list (pv 1)) (pg_name (i := 4) sc_needhs.nd rfl (.inl rfl)) (pss_one (ps_if (pt_not (pt_chain op_le op_lt pe_int (pv 4) (pe_callB (r := rLen K) call_len (by rfl) m_len (by decide +kernel) (pa_cons (pv 2) pa_nil)))) (pss_one ps_never) pss_nil))))), ?_⟩
    refine sq_drop (fun H1 => Same H H1) (fun Q k => ⟨_, rfl, b, ca, cl, ts, B, rfl, A, G, fun H1 s1 => k _ H1 s1⟩) (fun H1 s1 => ?_)
    have A1 := A.same s1
    refine sq_tup2 (fun Q k => ⟨_, rfl, k⟩) A1.hb ?_
    refine last_for ?_
    refine sq_forL (xs := xs.map V.int) (fun Q k => ⟨_, rfl, k⟩) (Same.seq s1 hx)
      (fun i σ' H' => Same H H' ∧ ∃ y3 y4, σ' = [some (.ref b), some (.ref l), some (.ref ca), y3, y4]) ⟨s1, _, _, rfl⟩ (fun i σ' H' _ hP => Same.seq hP.1 hx) (fun i x σ' H' hy hP => ?_) (fun σ' H' hP => k H' hP.1)
    obtain ⟨s2, y3, y4, rfl⟩ := hP
    obtain ⟨rfl, hi⟩ := map_int_get hy
    have hg := hin _ (g_mem hi)
    exact ⟨_, rfl, _, _, rfl, rfl, true, dec_t hg.1, iteT ⟨_, rfl, ca, _, rfl, .inr (Same.tup s2 A.hca), _, _, rfl, rfl, true, by rw [lc]; exact dec_t hg.2, iteF ⟨s2, _, _, rfl⟩⟩⟩
theorem sc_needh : FnScope ["book", "house"] ["book", "house"] (defScope s_needh) := ⟨rfl, rfl, rfl, by decide +kernel, rfl, by decide +kernel, by decide +kernel⟩
/- 0:book 1:house -/
theorem ok_needh {f : Addr} {fd : FuncData} (D : DefAt K mg "need_house" s_needh ["book", "house"] f fd) (L : Lims mg) (m_len : mg "len" = none) (m_enumerate : mg "enumerate" = none)
    {f1 : Addr} {fd1 : FuncData} (D_wrong : DefAt K mg "_wrong_in_claim" s_wrong ["claim", "houses"] f1 fd1)
    {f2 : Addr} {fd2 : FuncData} (D_need : DefAt K mg "need_book" s_need ["book"] f2 fd2)
    {f3 : Addr} {fd3 : FuncData} (D_needhs : DefAt K mg "need_houses" s_needhs ["book", "houses"] f3 fd3) : FnOk P w K mg base CX0 4 f fd ["book", "house"] (spNeedH K) := by
  have G_needhs : FnOk P w K mg base CX0 3 f3 fd3 ["book", "houses"] (spNeedHs K) := ok_needhs D_needhs L m_len m_enumerate D_wrong D_need
  refine D.F.ok sc_needh (fun vs H Q E h => ?_) (fun cdv A outer s H vs Q E hr h => ?_)
  · obtain ⟨b, ca, cl, ts, B, x, rfl, _⟩ := h
    rfl
  · obtain ⟨b, ca, cl, ts, B, x, rfl, A, G, x0, x1, k⟩ := h
    refine ⟨_, pss_one (ps_expr (pe_call G_needhs (hr.mono (by decide)) (by rfl) D_needhs.g D_needhs.F.kp D_needhs.b .nil pass0 (pa_cons (pv 0) (pa_cons (pe_lst (pa_cons (pv 1) pa_nil)) pa_nil)))), ?_⟩
    refine ⟨_, rfl, _, rfl, (by show 1 ≤ sizeLine; decide), fun p np => ?_⟩
    have s1 : Same H (upd H p (.lst [.int x])) := Same.new np
    exact ⟨b, ca, cl, ts, B, p, [x], rfl, A.same s1, G, sq_of upd_same, fun y hy => by rw [List.mem_singleton.mp hy]; exact ⟨x0, x1⟩, fun H' s2 => k H' (s1.trans s2)⟩
end


end Rf
namespace Rf
open PySem PySem.Spec PyProof.Rows L2
/-! ### what a house owes -/
def spOwed (K : PySem.W.Frag) : Sp := fun vs H Q _ => ∃ (b ca cl : Addr) (ts : List Addr) (B : Bk) (x : Int), vs = [.ref b, .int x] ∧ BookAt K H b ca cl ts B ∧ Good B ∧ 0 ≤ x ∧ x < B.cash.length ∧ ∀ H', Same H H' → Q (.int (owedIn B x)) H'
section
variable {P : Program} {w : World} {K : PySem.W.Frag} {mg : Str → Option Value} {base : Heap}
theorem sc_owed : FnScope ["book", "house", "_", "claims", "debtor", "amount"] ["book", "house"] (defScope s_owed) := ⟨rfl, rfl, rfl, by decide +kernel, rfl, by decide +kernel, by decide +kernel⟩
/- 0:book 1:house 2:_ 3:claims 4:debtor 5:amount -/
theorem ok_owed {f : Addr} {fd : FuncData} (D : DefAt K mg "owed" s_owed ["book", "house"] f fd) (L : Lims mg) (m_len : mg "len" = none) (m_enumerate : mg "enumerate" = none) (m_sum : mg "sum" = none)
    {f1 : Addr} {fd1 : FuncData} (D_wrong : DefAt K mg "_wrong_in_claim" s_wrong ["claim", "houses"] f1 fd1)
    {f2 : Addr} {fd2 : FuncData} (D_need : DefAt K mg "need_book" s_need ["book"] f2 fd2)
    {f91 : Addr} {fd91 : FuncData} (D_needhs : DefAt K mg "need_houses" s_needhs ["book", "houses"] f91 fd91)
    {f3 : Addr} {fd3 : FuncData} (D_needh : DefAt K mg "need_house" s_needh ["book", "house"] f3 fd3) : FnOk P w K mg base CX0 5 f fd ["book", "house"] (spOwed K) := by
  have G_needh : FnOk P w K mg base CX0 4 f3 fd3 ["book", "house"] (spNeedH K) := ok_needh D_needh L m_len m_enumerate D_wrong D_need D_needhs
  refine D.F.ok sc_owed (fun vs H Q E h => ?_) (fun cdv A outer s H vs Q E hr h => ?_)
  · obtain ⟨b, ca, cl, ts, B, x, rfl, _⟩ := h
    rfl
  · obtain ⟨b, ca, cl, ts, B, x, rfl, A, G, x0, x1, k⟩ := h
    have lq : (ts.map V.ref).length = B.claims.length := by rw [List.length_map, A.hq.1]
    have m1 := G.m1
    refine ⟨_, pss_cons (ps_expr (pe_call G_needh (hr.mono (by decide)) (by rfl) D_needh.g D_needh.F.kp D_needh.b .nil pass0 (pa_cons (pv 0) (pa_cons (pv 1) pa_nil))))
        (pss_cons (ps_asg (pv 0) (pg_tup rfl (pgs_cons (pg_name (i := 2) sc_owed.nd rfl (.inl rfl)) (pgs_cons (pg_name (i := 3) sc_owed.nd rfl (.inl rfl)) pgs_nil))))
        (pss_one (ps_ret (pe_callB (r := rSum K) (cr_sum rfl) (by rfl) m_sum (by decide +kernel) (pa_cons (pe_lc (own := [("_", 2), ("debtor", 4), ("amount", 5)]) (g := (gTup K 4 (gCons (gName 4) (gCons (gName 2) (gCons (gName 5) (gCons (gName 2) gNil)))))) (by rfl) sc_owed.nd (pi_tup (pv 3)) (blkOk_by (own := [("_", 2), ("debtor", 4), ("amount", 5)]) (N := ["book", "house", "_", "claims", "debtor", "amount"]) (sc := defScope s_owed) (by decide +kernel)) (fun _ _ _ _ _ => (pg_tup rfl (pgs_cons (pg_name (i := 4) sc_owed.nd rfl (.inl rfl)) (pgs_cons (pg_name (i := 2) sc_owed.nd rfl (.inl rfl)) (pgs_cons (pg_name (i := 5) sc_owed.nd rfl (.inl rfl)) (pgs_cons (pg_name (i := 2) sc_owed.nd rfl (.inl rfl)) pgs_nil)))))) (fun _ _ _ _ _ => (pts_one (pt_cmpR op_eq (pv 4) (pv 1) (nomark _)))) (fun _ _ _ _ _ => (pv 5))) pa_nil))))), ?_⟩
    refine sq_drop (fun H1 => Same H H1) (fun Q k => ⟨_, rfl, _, rfl, b, ca, cl, ts, B, x, rfl, A, G, x0, x1, fun H1 s1 => k _ H1 s1⟩) (fun H1 s1 => ?_)
    have A1 := A.same s1
    refine sq_tup2 (fun Q k => ⟨_, rfl, k⟩) A1.hb ?_
    refine ⟨_, rfl, cl, rfl, ⟨_, A1.hcl⟩, fun d nd => ?_⟩
    refine lc_tup (xs := ts.map V.ref) (fun i H' => Same H1 H' ∧ H' d = some (.lst (((owesUp B x i).map (amt B)).map V.int))) ⟨Same.new nd, upd_same⟩ (fun i H' _ hP => Same.tup hP.1 A1.hcl) (fun i y H' hy hP => ?_) (fun H' hP => ?_)
    · obtain ⟨s2, hd⟩ := hP
      obtain ⟨t, rfl, ht⟩ := map_ref_get hy
      have hi : i < B.claims.length := by
        rw [← A.hq.1]
        exact (List.getElem?_eq_some_iff.mp ht).1
      have hq := Same.tup s2 (A1.hq.2 i t _ ht (Bk.clm_get hi))
      refine ⟨t, _, rfl, hq, rfl, _, _, rfl, _, _, rfl, _, _, rfl, _, _, rfl, rfl, rfl, ?_⟩
      have ho : owesUp B x (i + 1) = owesUp B x i ++ (if (B.clm i).d = x then [i] else []) := by
        unfold owesUp
        rw [range_filter_succ]
        by_cases e : (B.clm i).d = x
        · rw [if_pos e, if_pos (decide_eq_true e)]
        · rw [if_neg e, if_neg (by rw [decide_eq_false e]; decide)]
      refine ⟨_, rfl, _, rfl, rfl, _, rfl, ?_⟩
      by_cases e : (B.clm i).d = x
      · rw [e, decide_eq_true rfl]
        refine iteT ⟨_, rfl, _, hd, ?_, Same.mut s2 nd, ?_⟩
        · rw [List.length_map, List.length_map]
          have := owesUp_len B x i
          exact sz_lt (by omega)
        · rw [upd_same, ho, if_pos e, List.map_append, List.map_append]
          rfl
      · rw [decide_eq_false (fun z => e (V.int.inj z))]
        refine iteF ⟨s2, ?_⟩
        rw [ho, if_neg e, List.append_nil]
        exact hd
    · obtain ⟨s2, hd⟩ := hP
      rw [lq] at hd
      exact ⟨d, _, rfl, sq_of hd, k H' (s1.trans s2)⟩
end


end Rf
namespace Rf
open PySem PySem.Spec PyProof.Rows L2
/-! ### what a house pays, as the program reckons it -/
/-- the tuples at ts are the pairs L -/
def PrsAt (H : Hp) (ts : List Addr) (L : List (Nat × Int)) : Prop := ts.length = L.length ∧ ∀ (i : Nat) (t : Addr) (x : Nat × Int), ts[i]? = some t → L[i]? = some x → H t = some (.tup [.int (x.1 : Int), .int x.2])
theorem PrsAt.same {H H' : Hp} {ts : List Addr} {L : List (Nat × Int)} (A : PrsAt H ts L) (s : Same H H') : PrsAt H' ts L := ⟨A.1, fun i t x h1 h2 => s _ _ (A.2 i t x h1 h2)⟩
theorem PrsAt.nil (H : Hp) : PrsAt H [] [] := ⟨rfl, fun i t x h => by cases h⟩
theorem PrsAt.app {H : Hp} {ts us : List Addr} {L M : List (Nat × Int)} (A : PrsAt H ts L) (C : PrsAt H us M) : PrsAt H (ts ++ us) (L ++ M) := by
  refine ⟨by rw [List.length_append, List.length_append, A.1, C.1], fun i t x h1 h2 => ?_⟩
  by_cases hi : i < ts.length
  · rw [List.getElem?_append_left hi] at h1
    rw [List.getElem?_append_left (by rw [← A.1]; exact hi)] at h2
    exact A.2 i t x h1 h2
  · rw [List.getElem?_append_right (by omega)] at h1
    rw [List.getElem?_append_right (by rw [← A.1]; omega), ← A.1] at h2
    exact C.2 _ t x h1 h2
theorem PrsAt.one {H : Hp} {t : Addr} {k : Nat} {c : Int} (h : H t = some (.tup [.int (k : Int), .int c])) : PrsAt H [t] [(k, c)] := by
  refine ⟨rfl, fun i u x h1 h2 => ?_⟩
  match i, h1, h2 with
  | 0, h1, h2 =>
    cases h1
    cases h2
    exact h
  | n + 1, h1, _ => cases h1
theorem PrsAt.get {H : Hp} {ts : List Addr} {L : List (Nat × Int)} (A : PrsAt H ts L) {i : Nat} {t : Addr} (h : ts[i]? = some t) : ∃ x, L[i]? = some x ∧ H t = some (.tup [.int (x.1 : Int), .int x.2]) := by
  have hi : i < L.length := by
    rw [← A.1]
    exact (List.getElem?_eq_some_iff.mp h).1
  exact ⟨L[i], List.getElem?_eq_getElem hi, A.2 i t _ h (List.getElem?_eq_getElem hi)⟩
/-- pairs written anew: an object that holds no tuple -/
theorem PrsAt.put {H : Hp} {ts : List Addr} {L : List (Nat × Int)} {p : Addr} {o u : HO} (A : PrsAt H ts L) (hp : H p = some u) (hu : ∀ xs, u ≠ .tup xs) : PrsAt (upd H p o) ts L := by
  refine ⟨A.1, fun i t x h1 h2 => ?_⟩
  have h := A.2 i t x h1 h2
  have n : t ≠ p := ne_of h hp (fun z => hu _ z.symm)
  rw [upd_ne n]
  exact h
def rkP (B : Bk) (h r : Int) (i : Nat) : List (Nat × Int) := (rankUp B h r i).map fun k => (k, amt B k)
theorem rankUp_succ (B : Bk) (h r : Int) (i : Nat) : rankUp B h r (i + 1) = rankUp B h r i ++ (if (B.clm i).d = h ∧ (B.clm i).r = r then [i] else []) := by
  unfold rankUp
  rw [range_filter_succ]
  congr 1
  by_cases e : (B.clm i).d = h ∧ (B.clm i).r = r
  · rw [if_pos e, if_pos (by rw [decide_eq_true e.1, decide_eq_true e.2]; rfl)]
  · rw [if_neg e]
    by_cases e1 : (B.clm i).d = h
    · have e2 : ¬ (B.clm i).r = r := fun z => e ⟨e1, z⟩
      rw [if_neg (by rw [decide_eq_false e2, Bool.and_false]; decide)]
    · rw [if_neg (by rw [decide_eq_false e1, Bool.false_and]; decide)]
theorem valV_ranks {L : Int → Addr} {r : Int} : ∀ {rs : List Int}, valV (rs.map fun r => ((Sum.inl r : Key), V.ref (L r))) (Sum.inl r) = if r ∈ rs then some (V.ref (L r)) else none
  | [] => rfl
  | x :: rs => by
    rw [List.map_cons]
    by_cases e : x = r
    · subst e
      rw [valV_pos (by rfl), if_pos List.mem_cons_self]
    · rw [valV_neg (fun z => e (Sum.inl.inj z)), valV_ranks (rs := rs)]
      by_cases h : r ∈ rs
      · rw [if_pos h, if_pos (List.mem_cons_of_mem _ h)]
      · rw [if_neg h, if_neg (fun z => by
          rcases List.mem_cons.mp z with q | q
          · exact e q.symm
          · exact h q)]
/-- numbers, as they stand in a list -/
def numV (l : List Nat) : List V := l.map fun k : Nat => V.int (k : Int)
def amoV (B : Bk) (l : List Nat) : List V := (l.map (amt B)).map V.int
theorem numV_app (l : List Nat) (i : Nat) : numV (l ++ [i]) = numV l ++ [.int (i : Int)] := by
  unfold numV
  rw [List.map_append]
  rfl
theorem amoV_app (B : Bk) (l : List Nat) (i : Nat) : amoV B (l ++ [i]) = amoV B l ++ [.int (amt B i)] := by
  unfold amoV
  rw [List.map_append, List.map_append]
  rfl
theorem numV_len (l : List Nat) : (numV l).length = l.length := List.length_map _
theorem amoV_len (B : Bk) (l : List Nat) : (amoV B l).length = l.length := by
  unfold amoV
  rw [List.length_map, List.length_map]
/-- the dict of ranks: pairs of lists, of the claims C -/
structure RkH (H0 H : Hp) (d : Addr) (B : Bk) (rs : List Int) (T N M : Int → Addr) (C : Int → List Nat) : Prop where
  dic : H d = some (.dK (rs.map fun r => ((Sum.inl r : Key), V.ref (T r))))
  nd : rs.Nodup
  injN : ∀ r, r ∈ rs → ∀ r', r' ∈ rs → N r = N r' → r = r'
  injM : ∀ r, r ∈ rs → ∀ r', r' ∈ rs → M r = M r' → r = r'
  ne : ∀ r, r ∈ rs → ∀ r', r' ∈ rs → N r ≠ M r'
  frd : H0 d = none
  frT : ∀ r, r ∈ rs → H0 (T r) = none
  frN : ∀ r, r ∈ rs → H0 (N r) = none
  frM : ∀ r, r ∈ rs → H0 (M r) = none
  tup : ∀ r, r ∈ rs → H (T r) = some (.tup [.ref (N r), .ref (M r)])
  num : ∀ r, r ∈ rs → H (N r) = some (.lst (numV (C r)))
  amo : ∀ r, r ∈ rs → H (M r) = some (.lst (amoV B (C r)))
theorem RkH.same {H0 H H' : Hp} {d : Addr} {B : Bk} {rs : List Int} {T N M : Int → Addr} {C : Int → List Nat} (R : RkH H0 H d B rs T N M C) (s : Same H H') : RkH H0 H' d B rs T N M C :=
  ⟨s _ _ R.dic, R.nd, R.injN, R.injM, R.ne, R.frd, R.frT, R.frN, R.frM, fun r h => s _ _ (R.tup r h), fun r h => s _ _ (R.num r h), fun r h => s _ _ (R.amo r h)⟩
theorem RkH.congr {H0 H : Hp} {d : Addr} {B : Bk} {rs : List Int} {T N M : Int → Addr} {C C' : Int → List Nat} (R : RkH H0 H d B rs T N M C) (e : ∀ r, r ∈ rs → C r = C' r) : RkH H0 H d B rs T N M C' :=
  ⟨R.dic, R.nd, R.injN, R.injM, R.ne, R.frd, R.frT, R.frN, R.frM, R.tup, fun r h => by rw [← e r h]; exact R.num r h, fun r h => by rw [← e r h]; exact R.amo r h⟩
/-- one more number and amount for a rank that is there -/
theorem RkH.app {H0 H : Hp} {d : Addr} {B : Bk} {rs : List Int} {T N M : Int → Addr} {C : Int → List Nat} (R : RkH H0 H d B rs T N M C) {r : Int} (hr : r ∈ rs) (i : Nat) :
    RkH H0 (upd (upd H (N r) (.lst (numV (C r) ++ [.int (i : Int)]))) (M r) (.lst (amoV B (C r) ++ [.int (amt B i)]))) d B rs T N M (fun r' => if r' = r then C r ++ [i] else C r') := by
  have hN := R.num r hr
  have hM := R.amo r hr
  have nm := R.ne r hr r hr
  refine ⟨?_, R.nd, R.injN, R.injM, R.ne, R.frd, R.frT, R.frN, R.frM, fun r' h => ?_, fun r' h => ?_, fun r' h => ?_⟩
  · rw [upd_ne (ne_of R.dic hM (fun z => nomatch z)), upd_ne (ne_of R.dic hN (fun z => nomatch z))]
    exact R.dic
  · rw [upd_ne (ne_of (R.tup r' h) hM (fun z => nomatch z)), upd_ne (ne_of (R.tup r' h) hN (fun z => nomatch z))]
    exact R.tup r' h
  · rw [upd_ne (R.ne r' h r hr)]
    by_cases e : r' = r
    · subst e
      rw [upd_same, if_pos rfl, numV_app]
    · rw [upd_ne (fun z => e (R.injN r' h r hr z)), if_neg e]
      exact R.num r' h
  · by_cases e : r' = r
    · subst e
      rw [upd_same, if_pos rfl, amoV_app]
    · rw [upd_ne (fun z => e (R.injM r' h r hr z)), upd_ne (fun z => R.ne r hr r' h z.symm), if_neg e]
      exact R.amo r' h
/-- a rank's first lists -/
theorem RkH.add {H0 H Hc : Hp} {d t l1 l2 : Addr} {B : Bk} {rs : List Int} {T N M : Int → Addr} {C : Int → List Nat} (R : RkH H0 H d B rs T N M C) (s0 : Same H0 H) (s : Same H Hc) {r : Int} (hr : ¬ r ∈ rs) (n1 : H l1 = none) (n2 : H l2 = none) (nt : H t = none)
    (ht : Hc t = some (.tup [.ref l1, .ref l2])) (h1 : Hc l1 = some (.lst [])) (h2 : Hc l2 = some (.lst [])) (ne : l1 ≠ l2) :
    RkH H0 (upd Hc d (.dK (rs.map (fun r => ((Sum.inl r : Key), V.ref (T r))) ++ [(Sum.inl r, V.ref t)]))) d B (rs ++ [r]) (fun r' => if r' = r then t else T r') (fun r' => if r' = r then l1 else N r') (fun r' => if r' = r then l2 else M r') (fun r' => if r' = r then [] else C r') := by
  have fr : ∀ a, H a = none → H0 a = none := fun a h => s0.free h
  have mem : ∀ {r'}, r' ∈ rs ++ [r] → r' ≠ r → r' ∈ rs := fun {r'} h e => by
    rcases List.mem_append.mp h with q | q
    · exact q
    · exact absurd (List.mem_singleton.mp q) e
  have nN : ∀ r', r' ∈ rs → N r' ≠ l1 ∧ N r' ≠ l2 := fun r' h => ⟨ne_of_none (R.num r' h) n1, ne_of_none (R.num r' h) n2⟩
  have nM : ∀ r', r' ∈ rs → M r' ≠ l1 ∧ M r' ≠ l2 := fun r' h => ⟨ne_of_none (R.amo r' h) n1, ne_of_none (R.amo r' h) n2⟩
  have hd := s _ _ R.dic
  have neq : ∀ r', r' ∈ rs → ¬ r' = r := fun r' h z => hr (z ▸ h)
  refine ⟨?_, ?_, fun a ha b hb z => ?_, fun a ha b hb z => ?_, fun a ha b hb => ?_, R.frd, fun a ha => ?_, fun a ha => ?_, fun a ha => ?_, fun a ha => ?_, fun a ha => ?_, fun a ha => ?_⟩
  · rw [upd_same, List.map_append]
    congr 3
    · exact List.map_congr_left fun r' h => by rw [if_neg (neq r' h)]
    · show _ = [((Sum.inl r : Key), V.ref (if r = r then t else T r))]
      rw [if_pos rfl]
  · refine List.nodup_append.mpr ⟨R.nd, by simp, fun a ha b hb z => ?_⟩
    rw [List.mem_singleton.mp hb] at z
    exact hr (z ▸ ha)
  · by_cases c1 : a = r <;> by_cases c2 : b = r
    · rw [c1, c2]
    · rw [if_pos c1, if_neg c2] at z
      exact absurd z.symm (nN b (mem hb c2)).1
    · rw [if_neg c1, if_pos c2] at z
      exact absurd z (nN a (mem ha c1)).1
    · rw [if_neg c1, if_neg c2] at z
      exact R.injN a (mem ha c1) b (mem hb c2) z
  · by_cases c1 : a = r <;> by_cases c2 : b = r
    · rw [c1, c2]
    · rw [if_pos c1, if_neg c2] at z
      exact absurd z.symm (nM b (mem hb c2)).2
    · rw [if_neg c1, if_pos c2] at z
      exact absurd z (nM a (mem ha c1)).2
    · rw [if_neg c1, if_neg c2] at z
      exact R.injM a (mem ha c1) b (mem hb c2) z
  · by_cases c1 : a = r <;> by_cases c2 : b = r
    · rw [if_pos c1, if_pos c2]
      exact ne
    · rw [if_pos c1, if_neg c2]
      exact (nM b (mem hb c2)).1.symm
    · rw [if_neg c1, if_pos c2]
      exact (nN a (mem ha c1)).2
    · rw [if_neg c1, if_neg c2]
      exact R.ne a (mem ha c1) b (mem hb c2)
  · by_cases c : a = r
    · rw [if_pos c]; exact fr _ nt
    · rw [if_neg c]; exact R.frT a (mem ha c)
  · by_cases c : a = r
    · rw [if_pos c]; exact fr _ n1
    · rw [if_neg c]; exact R.frN a (mem ha c)
  · by_cases c : a = r
    · rw [if_pos c]; exact fr _ n2
    · rw [if_neg c]; exact R.frM a (mem ha c)
  · by_cases c : a = r
    · rw [if_pos c, if_pos c, if_pos c, upd_ne (ne_of ht hd (fun z => nomatch z))]
      exact ht
    · rw [if_neg c, if_neg c, if_neg c]
      have q := s _ _ (R.tup a (mem ha c))
      rw [upd_ne (ne_of q hd (fun z => nomatch z))]
      exact q
  · by_cases c : a = r
    · rw [if_pos c, if_pos c, upd_ne (ne_of h1 hd (fun z => nomatch z)), h1]
      rfl
    · rw [if_neg c, if_neg c]
      have q := s _ _ (R.num a (mem ha c))
      rw [upd_ne (ne_of q hd (fun z => nomatch z))]
      exact q
  · by_cases c : a = r
    · rw [if_pos c, if_pos c, upd_ne (ne_of h2 hd (fun z => nomatch z)), h2]
      rfl
    · rw [if_neg c, if_neg c]
      have q := s _ _ (R.amo a (mem ha c))
      rw [upd_ne (ne_of q hd (fun z => nomatch z))]
      exact q
theorem upd_comm {H : Hp} {a b : Addr} {o u : HO} (h : a ≠ b) : upd (upd H a o) b u = upd (upd H b u) a o := by
  funext c
  by_cases h1 : c = a
  · subst h1
    rw [upd_ne h, upd_same, upd_same]
  · by_cases h2 : c = b
    · subst h2
      rw [upd_same, upd_ne h1, upd_same]
    · rw [upd_ne h2, upd_ne h1, upd_ne h1, upd_ne h2]
/-- the ranks that are there, rising -/
def present (B : Bk) (h : Int) : List Int := ranks9.filter fun r => !(ofRank B h r).isEmpty
theorem present_mem {B : Bk} (G : Good B) {h r : Int} : r ∈ present B h ↔ ofRank B h r ≠ [] := by
  unfold present
  rw [List.mem_filter]
  constructor
  · rintro ⟨_, h2⟩ z
    rw [z] at h2
    simp at h2
  · intro h2
    obtain ⟨k, hk⟩ := List.exists_mem_of_ne_nil _ h2
    have q := mem_rankUp.mp hk
    refine ⟨?_, by cases e : ofRank B h r with | nil => exact absurd e h2 | cons _ _ => rfl⟩
    rw [← q.2.2]
    exact ranks9_mem G q.1
theorem lt_of_le_nodup {l : List Int} (h : l.Pairwise (· ≤ ·)) (hn : l.Nodup) : l.Pairwise (· < ·) := by
  refine List.Pairwise.imp₂ (fun a b h1 h2 => ?_) h hn
  have h3 : a ≠ b := h2
  omega
theorem present_eq {B : Bk} (G : Good B) {h : Int} {rs ys : List Int} (nd : rs.Nodup) (hm : ∀ r, r ∈ rs ↔ ofRank B h r ≠ []) (hp : ys.Perm rs) (hs : ys.Pairwise (· ≤ ·)) : ys = present B h := by
  refine sorted_ext (f := id) (lt_of_le_nodup hs (hp.nodup_iff.mpr nd)) ?_ fun r => (hp.mem_iff.trans (hm r)).trans (present_mem G).symm
  exact (show ranks9.Pairwise (· < ·) by decide).sublist List.filter_sublist
theorem present_len (B : Bk) (h : Int) : (present B h).length ≤ 9 := List.length_filter_le _ _
/-- the pair at a reference -/
def pairAt (H : Hp) : V → Int × Int
  | .ref t => match H t with
    | some (.tup [.int a, .int b]) => (a, b)
    | _ => (0, 0)
  | _ => (0, 0)
theorem pairAt_of {H : Hp} {t : Addr} {a b : Int} (h : H t = some (.tup [.int a, .int b])) : pairAt H (.ref t) = (a, b) := by
  simp only [pairAt, h]
theorem lex_fst {a b : Int × Int} (h : SrtO.lexB b a = false) (hn : a.1 ≠ b.1) : a.1 < b.1 := by
  have q := SrtO.lexB_no.mp h
  omega
theorem list_refs {ys : List V} (h : ∀ y ∈ ys, ∃ t, y = V.ref t) : ∃ ts : List Addr, ys = ts.map V.ref := by
  induction ys with
  | nil => exact ⟨[], rfl⟩
  | cons y r ih =>
    obtain ⟨t, e⟩ := h y List.mem_cons_self
    obtain ⟨ts, e2⟩ := ih fun z hz => h z (List.mem_cons_of_mem _ hz)
    exact ⟨t :: ts, by rw [e, e2]; rfl⟩
theorem ref_perm {ts us : List Addr} (h : (us.map V.ref).Perm (ts.map V.ref)) : us.Perm ts := by
  have f : ∀ l : List Addr, (l.map V.ref).filterMap (fun v => match v with | V.ref t => some t | _ => none) = l := fun l => by
    induction l with
    | nil => rfl
    | cons x r ih =>
      rw [List.map_cons, List.filterMap_cons]
      simp only [ih]
  have := h.filterMap (fun v => match v with | V.ref t => some t | _ => none)
  rw [f, f] at this
  exact this
/-- tuples in another arrangement are pairs in another arrangement -/
theorem prs_perm {H : Hp} {ts : List Addr} {L : List (Nat × Int)} (A : PrsAt H ts L) {us : List Addr} (h : us.Perm ts) : ∃ M : List (Nat × Int), M.Perm L ∧ PrsAt H us M := by
  have e : ∃ f : Addr → Nat × Int, L = ts.map f ∧ ∀ t ∈ ts, H t = some (.tup [.int ((f t).1 : Int), .int (f t).2]) := by
    refine ⟨fun t => ((pairAt H (.ref t)).1.toNat, (pairAt H (.ref t)).2), ?_, fun t ht => ?_⟩
    · apply List.ext_getElem?
      intro i
      rw [List.getElem?_map]
      by_cases hi : i < ts.length
      · have h1 := List.getElem?_eq_getElem hi
        have hj : i < L.length := by rw [← A.1]; exact hi
        have h2 := List.getElem?_eq_getElem hj
        rw [h1, h2]
        have q := pairAt_of (A.2 i _ _ h1 h2)
        show some L[i] = some ((pairAt H (.ref ts[i])).1.toNat, (pairAt H (.ref ts[i])).2)
        rw [q]
        rfl
      · rw [List.getElem?_eq_none (by rw [← A.1]; omega), List.getElem?_eq_none (by omega)]
        rfl
    · obtain ⟨i, hi, e⟩ := List.mem_iff_getElem.mp ht
      have h1 : ts[i]? = some t := by rw [List.getElem?_eq_getElem hi, e]
      obtain ⟨x, _, h2⟩ := A.get h1
      have q := pairAt_of h2
      show H t = some (.tup [.int ((pairAt H (V.ref t)).1.toNat : Int), .int (pairAt H (V.ref t)).2])
      rw [q]
      exact h2
  obtain ⟨f, e1, e2⟩ := e
  refine ⟨us.map f, by rw [e1]; exact h.map f, by rw [List.length_map], fun i t x h1 h2 => ?_⟩
  rw [List.getElem?_map, h1] at h2
  cases h2
  exact e2 t (h.mem_iff.mp (List.mem_of_getElem? h1))

theorem sq_aug {te : TE} {tz : TS} {D : Ends} {σ : L2.St} {H : Hp} {i : Nat} {f : Int → Int → Int} {a b : Int} (hx : σ[i]? = some (some (.int a))) (h : ∀ Q : VK, Q (.int b) H → te σ H Q) (k : tz D (σ.set i (some (.int (f a b)))) H) : tSeq (tAug i te (ipI f)) tz D σ H :=
  ⟨.int a, hx, h _ ⟨a, b, rfl, rfl, k⟩⟩
/-- debts by rank, as they stand -/
structure DbtAt (H0 H : Hp) (p : Addr) (B : Bk) (x : Int) : Prop where
  frp : H0 p = none
  at_ : ∃ (us : List Addr) (N M : Nat → Addr), H p = some (.lst (us.map V.ref)) ∧ us.length = (present B x).length ∧
    ∀ j t, us[j]? = some t → H0 t = none ∧ H0 (N j) = none ∧ H0 (M j) = none ∧ H t = some (.tup [.ref (N j), .ref (M j)]) ∧ H (N j) = some (.lst (numV (ofRank B x (g (present B x) j)))) ∧ H (M j) = some (.lst (amoV B (ofRank B x (g (present B x) j))))
theorem DbtAt.off {S : Addr → Prop} {H0 H H' : Hp} {p : Addr} {B : Bk} {x : Int} (A : DbtAt H0 H p B x) (e : Off S H H') (hS : ∀ a, S a → H0 a ≠ none) : DbtAt H0 H' p B x := by
  have k : ∀ a o, H0 a = none → H a = some o → H' a = some o := fun a o h1 h2 => e a o h2 fun z => hS a z h1
  obtain ⟨us, N, M, h1, h2, h3⟩ := A.at_
  refine ⟨A.frp, us, N, M, k _ _ A.frp h1, h2, fun j t ht => ?_⟩
  obtain ⟨a1, a2, a3, a4, a5, a6⟩ := h3 j t ht
  exact ⟨a1, a2, a3, k _ _ a1 a4, k _ _ a2 a5, k _ _ a3 a6⟩
theorem DbtAt.same {H0 H H' : Hp} {p : Addr} {B : Bk} {x : Int} (A : DbtAt H0 H p B x) (e : Same H H') : DbtAt H0 H' p B x := A.off (S := fun _ => False) (fun b o h _ => e b o h) fun _ z => z.elim
theorem DbtAt.less {H0 H1 H : Hp} {p : Addr} {B : Bk} {x : Int} (A : DbtAt H1 H p B x) (e : ∀ a, H1 a = none → H0 a = none) : DbtAt H0 H p B x := by
  obtain ⟨us, N, M, h1, h2, h3⟩ := A.at_
  refine ⟨e _ A.frp, us, N, M, h1, h2, fun j t ht => ?_⟩
  obtain ⟨a1, a2, a3, a4, a5, a6⟩ := h3 j t ht
  exact ⟨e _ a1, e _ a2, e _ a3, a4, a5, a6⟩
/-- the claims of a book alone -/
structure ClmG (B : Bk) : Prop where
  cl : ∀ q ∈ B.claims, GoodC (B.cash.length : Int) q
  m1 : B.claims.length ≤ 24
def spDebts (K : PySem.W.Frag) : Sp := fun vs H Q _ => ∃ (cl : Addr) (ts : List Addr) (B : Bk) (x : Int), vs = [.ref cl, .int x] ∧ SqT K H cl (ts.map V.ref) ∧ ClmsAt K H ts B.claims ∧ Good B ∧ ∀ p H', Same H H' → DbtAt H H' p B x → Q (.ref p) H'
def spPaidW (K : PySem.W.Frag) : Sp := fun vs H Q _ => ∃ (H0 : Hp) (p : Addr) (B : Bk) (x m : Int), vs = [.ref p, .int m] ∧ DbtAt H0 H p B x ∧ Good B ∧ ∀ q us H', H q = none → Same H H' → H' q = some (.lst (us.map V.ref)) → PrsAt H' us (payFrom B x ranks9 m) → Q (.ref q) H'
def spPaidBy (K : PySem.W.Frag) : Sp := fun vs H Q _ => ∃ (b ca cl : Addr) (ts : List Addr) (B : Bk) (x m : Int), vs = [.ref b, .int x, .int m] ∧ BookAt K H b ca cl ts B ∧ Good B ∧ 0 ≤ x ∧ x < B.cash.length ∧
  ∀ p us H', H p = none → Same H H' → H' p = some (.lst (us.map V.ref)) → PrsAt H' us (payList B x m) → Q (.ref p) H'


end Rf
namespace Rf
open PySem PySem.Spec PyProof.Rows L2
section
variable {P : Program} {w : World} {K : PySem.W.Frag} {mg : Str → Option Value} {base : Heap}
theorem sc_debts : FnScope ["claims", "house", "ranks", "number", "debtor", "_", "amount", "rank", "numbers", "amounts"] ["claims", "house"] (defScope s_debts) := ⟨rfl, rfl, rfl, by decide +kernel, rfl, by decide +kernel, by decide +kernel⟩
/- 0:claims 1:house 2:ranks 3:number 4:debtor 5:_ 6:amount 7:rank 8:numbers 9:amounts -/
theorem ok_debts {f : Addr} {fd : FuncData} (D : DefAt K mg "debts_by_rank" s_debts ["claims", "house"] f fd) (m_enumerate : mg "enumerate" = none) (m_sorted : mg "sorted" = none) : FnOk P w K mg base CX0 1 f fd ["claims", "house"] (spDebts K) := by
  refine D.F.ok sc_debts (fun vs H Q E h => ?_) (fun cdv A outer s H vs Q E hr h => ?_)
  · obtain ⟨cl, ts, B, x, rfl, _⟩ := h
    rfl
  · obtain ⟨cl, ts, B, x, rfl, hcl, hq, G, k⟩ := h
    have lq : (ts.map V.ref).length = B.claims.length := by rw [List.length_map, hq.1]
    have m1 := G.m1
    have hu := hu_of hr
    refine ⟨_, pss_cons (ps_set (i := 2) sc_debts.nd rfl (.inr rfl) pe_dnewK)
        (pss_cons (ps_for PassesOwn.never rfl (pi_enumT (by rfl) m_enumerate (pa_cons (pv 0) pa_nil)) (pg_tup rfl (pgs_cons (pg_name (i := 3) sc_debts.nd rfl (.inl rfl)) (pgs_cons (pg_tup rfl (pgs_cons (pg_name (i := 4) sc_debts.nd rfl (.inl rfl)) (pgs_cons (pg_name (i := 5) sc_debts.nd rfl (.inl rfl)) (pgs_cons (pg_name (i := 6) sc_debts.nd rfl (.inl rfl)) (pgs_cons (pg_name (i := 7) sc_debts.nd rfl (.inl rfl)) pgs_nil))))) pgs_nil))) (pss_one (ps_if (pt_cmpR op_eq (pv 4) (pv 1) (nomark _)) (pss_cons (ps_asg (pe_dsetd (pv 2) (pv 7) (pe_tup (pa_cons (pe_lst pa_nil) (pa_cons (pe_lst pa_nil) pa_nil))) ⟨rfl, rfl, rfl, rfl⟩) (pg_tup rfl (pgs_cons (pg_name (i := 8) sc_debts.nd rfl (.inl rfl)) (pgs_cons (pg_name (i := 9) sc_debts.nd rfl (.inl rfl)) pgs_nil))))
            (pss_cons (ps_expr (pe_bm PySem.F.plainAttrs_list PySem.F.slot_list_append PySem.F.type_list_append mt_append (pv 8) (pa_cons (pv 3) pa_nil)))
            (pss_one (ps_expr (pe_bm PySem.F.plainAttrs_list PySem.F.slot_list_append PySem.F.type_list_append mt_append (pv 9) (pa_cons (pv 6) pa_nil)))))) pss_nil)))
        (pss_one (ps_ret (pe_lc (own := [("rank", 7)]) (g := gName 7) (tt := tYes) (by rfl) sc_debts.nd (pi_list (pe_callB (call_sortedDI rfl) (by rfl) m_sorted (by decide +kernel) (pa_cons (pv 2) pa_nil))) (blkOk_by (own := [("rank", 7)]) (N := ["claims", "house", "ranks", "number", "debtor", "_", "amount", "rank", "numbers", "amounts"]) (sc := defScope s_debts) (by decide +kernel)) (fun _ _ _ _ _ => (pg_name (i := 7) sc_debts.nd rfl (.inl rfl))) (fun _ _ _ _ _ => pts_nil) (fun _ _ _ _ _ => (pe_dget hu (pv 2) (pv 7) (fun _ _ => rfl))))))), ?_⟩
    -- ranks
    refine sq_new (.dK []) (fun Q k d nd => k d _ nd (Same.new nd) upd_same) (fun d H2 nd s2 hd => ?_)
    refine sq_forET (xs := ts.map V.ref) (fun Q k => ⟨_, rfl, k⟩) (Same.tup s2 hcl)
      (fun i σ' H' => Same H H' ∧ (∃ rs T N M, RkH H H' d B rs T N M (fun r => rankUp B x r i) ∧ (∀ r, r ∈ rs ↔ rankUp B x r i ≠ []) ∧ rs.length ≤ i) ∧ ∃ y3 y4 y5 y6 y7 y8 y9, σ' = [some (.ref cl), some (.int x), some (.ref d), y3, y4, y5, y6, y7, y8, y9])
      ⟨s2, ⟨[], fun _ => 0, fun _ => 0, fun _ => 0, ⟨hd, List.nodup_nil, (fun r h => nomatch h), (fun r h => nomatch h), (fun r h => nomatch h), nd, (fun r h => nomatch h), (fun r h => nomatch h), (fun r h => nomatch h), (fun r h => nomatch h), (fun r h => nomatch h), (fun r h => nomatch h)⟩, (fun r => ⟨fun h => (nomatch h), fun h => absurd rfl h⟩), Nat.le_refl _⟩, _, _, _, _, _, _, _, rfl⟩
      (fun i σ' H' _ hP => Same.tup hP.1 hcl) (fun i y T0 σ' H' hy hP hT => ?_) (fun σ' H' hP => ?_)
    · obtain ⟨s3, ⟨rs, T, N, M, R, hmem, hlen⟩, y3, y4, y5, y6, y7, y8, y9, rfl⟩ := hP
      obtain ⟨t, rfl, ht⟩ := map_ref_get hy
      have hi : i < B.claims.length := by
        rw [← hq.1]
        exact (List.getElem?_eq_some_iff.mp ht).1
      have s4 : Same H' (upd H' T0 (.tup [.int (i : Int), .ref t])) := Same.new hT
      have s14 := s3.trans s4
      have hqt := Same.tup s14 (hq.2 i t _ ht (Bk.clm_get hi))
      have R4 := R.same s4
      have hT4 : (upd H' T0 (.tup [.int (i : Int), .ref t])) T0 = some (.tup [.int (i : Int), .ref t]) := upd_same
      generalize upd H' T0 (.tup [.int (i : Int), .ref t]) = H4 at s4 R4 s14 hqt hT4 ⊢
      refine ⟨T0, _, rfl, st_of hT4, rfl, _, _, rfl, _, _, rfl, t, _, rfl, hqt, rfl, _, _, rfl, _, _, rfl, _, _, rfl, _, _, rfl, rfl, rfl, ?_⟩
      refine if_ifP (p := (B.clm i).d = x) (fun Q k => ⟨_, rfl, _, rfl, rfl, _, rfl, by rw [dec_vint]; exact k⟩) (fun e => ?_) (fun e => ?_)
      · refine sq_asg (fun v H6 => Same H H6 ∧ ∃ rs' T' N' M', RkH H H6 d B rs' T' N' M' (fun r => rankUp B x r i) ∧ (B.clm i).r ∈ rs' ∧ v = .ref (T' (B.clm i).r) ∧ (∀ q, q ∈ rs' ↔ rankUp B x q i ≠ [] ∨ q = (B.clm i).r) ∧ rs'.length ≤ i + 1) (fun Q k => ?_) (fun v H6 hv => ?_)
        · refine ⟨_, rfl, d, rfl, .inl ⟨_, .inl R4.dic⟩, _, rfl, Nat.zero_le _, fun l1 n1 => ⟨Nat.zero_le _, fun l2 n2 => ⟨by show 2 ≤ sizeLine; decide, fun tt nt => ?_⟩⟩⟩
          have w1 : Same H4 (upd H4 l1 (.lst [])) := Same.new n1
          have w2 : Same (upd H4 l1 (.lst [])) (upd (upd H4 l1 (.lst [])) l2 (.lst [])) := Same.new n2
          have w3 := Same.new (o := .tup [.ref l1, .ref l2]) nt
          have g1 := w3 _ _ (w2 _ _ (show (upd H4 l1 (.lst [])) l1 = some (.lst []) from upd_same))
          have g2 := w3 _ _ (show (upd (upd H4 l1 (.lst [])) l2 (.lst [])) l2 = some (.lst []) from upd_same)
          have g3 : (upd (upd (upd H4 l1 (.lst [])) l2 (.lst [])) tt (.tup [.ref l1, .ref l2])) tt = some (.tup [.ref l1, .ref l2]) := upd_same
          have ne12 : l1 ≠ l2 := fun z => by rw [← z, upd_same] at n2; cases n2
          have w := (w1.trans w2).trans w3
          have n2' := w1.free n2
          have nt' := (w1.trans w2).free nt
          generalize upd (upd (upd H4 l1 (.lst [])) l2 (.lst [])) tt (.tup [.ref l1, .ref l2]) = Hc at w3 g1 g2 g3 w ⊢
          refine ⟨_, Sum.inl (B.clm i).r, w _ _ R4.dic, rfl, by rw [List.length_map]; exact sz_lt (by omega), fun v hv => ?_, fun hn => ?_⟩
          · rw [valV_ranks] at hv
            have hm : (B.clm i).r ∈ rs := Classical.byContradiction fun z => by rw [if_neg z] at hv; cases hv
            rw [if_pos hm] at hv
            have ev := (Option.some.inj hv).symm
            subst ev
            exact k _ _ ⟨s14.trans w, rs, T, N, M, R4.same w, hm, rfl, fun q => ⟨fun h => .inl ((hmem q).mp h), fun h => h.elim (fun h => (hmem q).mpr h) fun h => by rw [h]; exact hm⟩, by omega⟩
          · rw [valV_ranks] at hn
            have hm : ¬ (B.clm i).r ∈ rs := fun z => by rw [if_pos z] at hn; cases hn
            have z0 : rankUp B x (B.clm i).r i = [] := Classical.byContradiction fun z => hm ((hmem _).mpr z)
            rw [putK_new _ (by rw [valV_ranks, if_neg hm])]
            have R7 := (R4.add s14 w hm n1 n2' nt' g3 g1 g2 ne12).congr (C' := fun r => rankUp B x r i) fun r' _ => by
              by_cases c : r' = (B.clm i).r
              · rw [if_pos c, c, z0]
              · rw [if_neg c]
            refine k _ _ ⟨Same.mut (s14.trans w) R4.frd, _, _, _, _, R7, List.mem_append_right _ (List.mem_singleton.mpr rfl), by rw [if_pos rfl], fun q => ⟨fun h => ?_, fun h => ?_⟩, by rw [List.length_append]; show rs.length + 1 ≤ i + 1; omega⟩
            · rcases List.mem_append.mp h with h | h
              · exact .inl ((hmem q).mp h)
              · exact .inr (List.mem_singleton.mp h)
            · rcases h with h | h
              · exact List.mem_append_left _ ((hmem q).mpr h)
              · exact List.mem_append_right _ (List.mem_singleton.mpr h)
        · obtain ⟨s6, rs', T', N', M', R6, hm, rfl, hmem', hlen'⟩ := hv
          have hN := R6.num _ hm
          have hM := R6.amo _ hm
          have hrl := rankUp_len B x (B.clm i).r i
          refine ⟨T' (B.clm i).r, [.ref (N' (B.clm i).r), .ref (M' (B.clm i).r)], rfl, st_of (R6.tup _ hm), rfl, _, [_], rfl, _, [], rfl, rfl, ?_⟩
          refine ⟨_, rfl, .inl ⟨rfl, _, sq_of hN⟩, _, rfl, N' (B.clm i).r, _, _, rfl, rfl, hN, by rw [numV_len]; exact sz_lt (by omega), ?_⟩
          have hM2 : (upd H6 (N' (B.clm i).r) (.lst (numV (rankUp B x (B.clm i).r i) ++ [.int (i : Int)]))) (M' (B.clm i).r) = some (.lst (amoV B (rankUp B x (B.clm i).r i))) := by
            rw [upd_ne (R6.ne _ hm _ hm).symm]
            exact hM
          refine ⟨_, rfl, .inl ⟨rfl, _, sq_of hM2⟩, _, rfl, M' (B.clm i).r, _, _, rfl, rfl, hM2, by rw [amoV_len]; exact sz_lt (by omega), ?_⟩
          refine ⟨Same.mut (Same.mut s6 (R6.frN _ hm)) (R6.frM _ hm), ⟨rs', T', N', M', (R6.app hm i).congr fun r' _ => ?_, fun q => ?_, hlen'⟩, _, _, _, _, _, _, _, rfl⟩
          · rw [rankUp_succ]
            by_cases c : r' = (B.clm i).r
            · subst c
              rw [if_pos rfl, if_pos ⟨e, rfl⟩]
            · rw [if_neg c, if_neg (fun z => c z.2.symm), List.append_nil]
          · rw [hmem', rankUp_succ]
            by_cases c : q = (B.clm i).r
            · subst c
              rw [if_pos ⟨e, rfl⟩]
              exact ⟨fun _ z => by simp at z, fun _ => .inr rfl⟩
            · rw [if_neg (fun z => c z.2.symm), List.append_nil]
              exact ⟨fun h => h.elim id fun z => absurd z c, .inl⟩
      · refine sq_nx ⟨s14, ⟨rs, T, N, M, R4.congr fun r' _ => ?_, fun q => ?_, by omega⟩, _, _, _, _, _, _, _, rfl⟩
        · rw [rankUp_succ, if_neg (fun z => e z.1), List.append_nil]
        · rw [rankUp_succ, if_neg (fun z => e z.1), List.append_nil]
          exact hmem q
    · obtain ⟨s3, ⟨rs, T, N, M, R, hmem, hlen⟩, y3, y4, y5, y6, y7, y8, y9, rfl⟩ := hP
      rw [lq] at R hmem hlen
      refine ⟨_, rfl, d, _, rs, rfl, .inl R.dic, by rw [List.map_map]; rfl, by omega, fun ys p hp hs np => ?_⟩
      rw [present_eq G R.nd hmem hp hs]
      have s5 : Same H' (upd H' p (.lst ((present B x).map V.int))) := Same.new np
      have hpp : (upd H' p (.lst ((present B x).map V.int))) p = some (.lst ((present B x).map V.int)) := upd_same
      have R5 := R.same s5
      have s15 := s3.trans s5
      generalize upd H' p (.lst ((present B x).map V.int)) = H5 at s5 hpp R5 s15 ⊢
      refine ⟨p, rfl, ⟨_, sq_of hpp⟩, fun c nc => ?_⟩
      refine lc_list (xs := (present B x).map V.int) (fun j H' => Same H5 H' ∧ H' c = some (.lst (((present B x).map fun r => V.ref (T r)).take j))) ⟨Same.new nc, by rw [upd_same]; rfl⟩ (fun j H' _ hP => hP.1.seq (sq_of hpp)) (fun j z H' hz hP => ?_) (fun H' hP => ?_)
      · obtain ⟨s7, hc⟩ := hP
        obtain ⟨rfl, hj⟩ := map_int_get hz
        have hpl := present_len B x
        have hin : g (present B x) j ∈ rs := (hmem _).mpr ((present_mem G).mp (g_mem hj))
        have q := DGet.k (k := Sum.inl (g (present B x) j)) (s7 _ _ R5.dic)
        rw [valV_ranks, if_pos hin] at q
        refine ⟨rfl, _, rfl, _, rfl, d, _, rfl, q, _, hc, ?_, Same.mut s7 nc, ?_⟩
        · rw [List.length_take, List.length_map]
          exact sz_lt (by omega)
        · have ha : ((present B x).map fun r => V.ref (T r))[j]? = some (V.ref (T (g (present B x) j))) := by
            rw [List.getElem?_map, g_get hj]
            rfl
          rw [upd_same, List.take_add_one, ha]
          rfl
      · obtain ⟨s7, hc⟩ := hP
        rw [List.take_of_length_le (by rw [List.length_map, List.length_map]; exact Nat.le_refl _)] at hc
        have R8 := R5.same s7
        refine k c H' (s15.trans s7) ⟨s15.free nc, (present B x).map T, fun j => N (g (present B x) j), fun j => M (g (present B x) j), by rw [hc, List.map_map]; rfl, List.length_map _, fun j t ht => ?_⟩
        rw [List.getElem?_map] at ht
        by_cases hj : j < (present B x).length
        · rw [g_get hj] at ht
          have et := (Option.some.inj ht).symm
          subst et
          have hin : g (present B x) j ∈ rs := (hmem _).mpr ((present_mem G).mp (g_mem hj))
          exact ⟨R8.frT _ hin, R8.frN _ hin, R8.frM _ hin, R8.tup _ hin, R8.num _ hin, R8.amo _ hin⟩
        · rw [List.getElem?_eq_none (by omega)] at ht
          cases ht
theorem sc_paidw : FnScope ["debts", "means", "paid", "numbers", "amounts", "shares"] ["debts", "means"] (defScope s_paidw) := ⟨rfl, rfl, rfl, by decide +kernel, rfl, by decide +kernel, by decide +kernel⟩
/- 0:debts 1:means 2:paid 3:numbers 4:amounts 5:shares -/
theorem ok_paidw {f : Addr} {fd : FuncData} (D : DefAt K mg "paid_with" s_paidw ["debts", "means"] f fd) (m_len : mg "len" = none) (m_enumerate : mg "enumerate" = none) (m_sum : mg "sum" = none) (m_zip : mg "zip" = none) (m_range : mg "range" = none) (m_max : mg "max" = none) (m_list : mg "list" = none)
    {f4 : Addr} {fd4 : FuncData} (D_shared : DefAt K mg "shared" s_shared ["amounts", "coins"] f4 fd4)
    {f5 : Addr} {fd5 : FuncData} (D_first_coins : DefAt K mg "_first_coins" s_first_coins ["amounts", "coins"] f5 fd5)
    {f6 : Addr} {fd6 : FuncData} (D_least_paid : DefAt K mg "_least_paid" s_least_paid ["amounts", "paid"] f6 fd6) : FnOk P w K mg base CX0 4 f fd ["debts", "means"] (spPaidW K) := by
  have G_shared : FnOk P w K mg base CX0 2 f4 fd4 ["amounts", "coins"] (spShared K) := ok_shared D_shared m_range m_len m_max m_sum m_list m_enumerate D_first_coins D_least_paid
  refine D.F.ok sc_paidw (fun vs H Q E h => ?_) (fun cdv A outer s H vs Q E hr h => ?_)
  · obtain ⟨H0, p, B, x, m, rfl, _⟩ := h
    rfl
  · obtain ⟨H0, p, B, x, m, rfl, A, G, k⟩ := h
    have m1 := G.m1
    obtain ⟨us0, N, M, e1, e2, e3⟩ := A.at_
    have lu : (us0.map V.ref).length = (present B x).length := by rw [List.length_map, e2]
    refine ⟨_, pss_cons (ps_set (i := 2) sc_paidw.nd rfl (.inl rfl) (pe_lst pa_nil))
        (pss_cons (ps_for PassesOwn.never rfl (pi_list (pv 0)) (pg_tup rfl (pgs_cons (pg_name (i := 3) sc_paidw.nd rfl (.inl rfl)) (pgs_cons (pg_name (i := 4) sc_paidw.nd rfl (.inl rfl)) pgs_nil))) (pss_cons (ps_set (i := 5) sc_paidw.nd rfl (.inl rfl) (pe_call G_shared (hr.mono (by decide)) (by rfl) D_shared.g D_shared.F.kp D_shared.b .nil pass0 (pa_cons (pv 4) (pa_cons (pv 1) pa_nil))))
          (pss_cons (ps_aug (i := 1) sc_paidw.nd rfl (.inl rfl) (pe_callB (r := rSum K) (cr_sum rfl) (by rfl) m_sum (by decide +kernel) (pa_cons (pv 5) pa_nil)) ip_sub)
          (pss_one (ps_expr (pe_bm PySem.F.plainAttrs_list PySem.F.slot_list_extend PySem.F.type_list_extend mt_extend (pv 2) (pa_cons (pe_listZip rfl (by rfl) m_list (by rfl) m_zip (pa_cons (pv 3) (pa_cons (pv 5) pa_nil))) pa_nil)))))))
        (pss_one (ps_ret (pv 2)))), ?_⟩
    refine sq_new (.lst []) (fun Q k => ⟨Nat.zero_le _, fun p np => k p _ np (Same.new np) upd_same⟩) (fun pd H1 npd s1 hpd => ?_)
    refine sq_forL (a := p) (xs := us0.map V.ref) (fun Q k => ⟨_, rfl, k⟩) (sq_of (s1 _ _ e1))
      (fun i σ' H' => Same H H' ∧ ∃ (m' : Int) (done : List (Nat × Int)) (us : List Addr), H' pd = some (.lst (us.map V.ref)) ∧ PrsAt H' us done ∧ done.length ≤ 24 * i ∧ payFrom B x (present B x) m = done ++ payFrom B x ((present B x).drop i) m' ∧ ∃ y3 y4 y5, σ' = [some (.ref p), some (.int m'), some (.ref pd), y3, y4, y5])
      ⟨s1, m, [], [], hpd, PrsAt.nil _, Nat.zero_le _, rfl, _, _, _, rfl⟩ (fun i σ' H' _ hP => sq_of (hP.1 _ _ e1)) (fun i y σ' H' hy hP => ?_) (fun σ' H' hP => ?_)
    · obtain ⟨s2, m', done, us, hpd2, A2, hdl, hpay, y3, y4, y5, rfl⟩ := hP
      obtain ⟨t, rfl, ht⟩ := map_ref_get hy
      have hi : i < (present B x).length := by
        rw [← e2]
        exact (List.getElem?_eq_some_iff.mp ht).1
      obtain ⟨a1, a2, a3, a4, a5, a6⟩ := e3 i t ht
      have hdrop : (present B x).drop i = g (present B x) i :: (present B x).drop (i + 1) := by
        rw [List.drop_eq_getElem_cons hi]
        congr 1
        exact (g_of (List.getElem?_eq_getElem hi)).symm
      have hpl := present_len B x
      generalize g (present B x) i = r at hdrop a5 a6
      rw [hdrop] at hpay
      have hol : (ofRank B x r).length ≤ 24 := Nat.le_trans (rankUp_len B x r _) m1
      have ham := amts_ok G x r
      have Mm : Amts (amts B x r) := ⟨AllPos.of fun z hz => by have := ham z hz; omega, fun z hz => by have := ham z hz; omega, by rw [amts_len]; omega⟩
      have hss : (share (amts B x r) m').length = (ofRank B x r).length := by rw [share_len, amts_len]
      refine ⟨t, [.ref (N i), .ref (M i)], rfl, st_of (s2 _ _ a4), rfl, _, [_], rfl, _, [], rfl, rfl, ?_⟩
      -- shares
      refine sq_new (.lst ((share (amts B x r) m').map V.int)) (fun Q k => ⟨_, rfl, _, rfl, M i, amts B x r, m', rfl, sq_of (s2 _ _ a6), Mm, fun p2 H8 np2 s8 hp2 => by rw [share_max Mm.pos] at hp2; exact k p2 H8 np2 s8 hp2⟩) (fun so H5 nso s6 hso => ?_)
      -- means
      refine sq_aug (f := fun i j => i - j) (a := m') rfl (fun Q k => ⟨_, rfl, so, _, rfl, sq_of hso, k⟩) ?_
      have hpd5 := s6 _ _ hpd2
      -- paid.extend
      refine ⟨_, rfl, .inl ⟨rfl, _, sq_of hpd5⟩, _, rfl, _, rfl, N i, so, numV (ofRank B x r), _, rfl, sq_of (s6 _ _ (s2 _ _ a5)), sq_of hso, by rw [numV_len, List.length_map, hss], fun c ts2 H7 nc s7 hc hl hpr _ _ => ?_⟩
      rw [numV_len] at hl
      have hv : PrsAt H7 ts2 ((ofRank B x r).zip (share (amts B x r) m')) := by
        refine ⟨by rw [hl, List.length_zip, hss, Nat.min_self], fun j u z h1 h2 => ?_⟩
        obtain ⟨q1, q2⟩ := List.getElem?_zip_eq_some.mp h2
        refine hpr j u _ _ h1 ?_ ?_
        · unfold numV
          rw [List.getElem?_map, q1]
          rfl
        · rw [List.getElem?_map, q2]
          rfl
      have hpd7 := s7 _ _ hpd5
      have A7 := A2.same (s6.trans s7)
      refine ⟨pd, c, _, _, rfl, rfl, hpd7, hc, ?_, ?_⟩
      · rw [List.length_map, List.length_map, A2.1]
        exact sz_of (by omega)
      · refine ⟨Same.mut ((s2.trans s6).trans s7) npd, m' - (share (amts B x r) m').sum, done ++ (ofRank B x r).zip (share (amts B x r) m'), us ++ ts2, ?_, (A7.put hpd7 (fun xs z => nomatch z)).app (hv.put hpd7 (fun xs z => nomatch z)), ?_, ?_, _, _, _, rfl⟩
        · rw [upd_same, List.map_append]
        · rw [List.length_append, List.length_zip, hss, Nat.min_self]
          omega
        · rw [hpay, List.append_assoc]
          rfl
    · obtain ⟨s2, m', done, us, hpd2, A2, hdl, hpay, y3, y4, y5, rfl⟩ := hP
      rw [lu] at hpay
      have hend : payFrom B x ((present B x).drop (present B x).length) m' = [] := by
        rw [List.drop_length]
        rfl
      rw [hend, List.append_nil] at hpay
      have hall : done = payFrom B x ranks9 m := by
        rw [← hpay]
        exact pay_filter B x ranks9 m
      rw [hall] at A2
      exact ⟨_, rfl, k pd us H' npd s2 hpd2 A2⟩
theorem sc_paidby : FnScope ["book", "house", "means", "_", "claims"] ["book", "house", "means"] (defScope s_paidby) := ⟨rfl, rfl, rfl, by decide +kernel, rfl, by decide +kernel, by decide +kernel⟩
/- 0:book 1:house 2:means 3:_ 4:claims -/
theorem ok_paidby {f : Addr} {fd : FuncData} (D : DefAt K mg "paid_by" s_paidby ["book", "house", "means"] f fd) (L : Lims mg) (m_len : mg "len" = none) (m_enumerate : mg "enumerate" = none) (m_sum : mg "sum" = none) (m_sorted : mg "sorted" = none) (m_zip : mg "zip" = none)
    (m_range : mg "range" = none) (m_max : mg "max" = none) (m_list : mg "list" = none)
    {f1 : Addr} {fd1 : FuncData} (D_wrong : DefAt K mg "_wrong_in_claim" s_wrong ["claim", "houses"] f1 fd1)
    {f2 : Addr} {fd2 : FuncData} (D_need : DefAt K mg "need_book" s_need ["book"] f2 fd2)
    {f91 : Addr} {fd91 : FuncData} (D_needhs : DefAt K mg "need_houses" s_needhs ["book", "houses"] f91 fd91)
    {f3 : Addr} {fd3 : FuncData} (D_needh : DefAt K mg "need_house" s_needh ["book", "house"] f3 fd3)
    {f4 : Addr} {fd4 : FuncData} (D_shared : DefAt K mg "shared" s_shared ["amounts", "coins"] f4 fd4)
    {f5 : Addr} {fd5 : FuncData} (D_first_coins : DefAt K mg "_first_coins" s_first_coins ["amounts", "coins"] f5 fd5)
    {f6 : Addr} {fd6 : FuncData} (D_least_paid : DefAt K mg "_least_paid" s_least_paid ["amounts", "paid"] f6 fd6)
    {f7 : Addr} {fd7 : FuncData} (D_debts : DefAt K mg "debts_by_rank" s_debts ["claims", "house"] f7 fd7)
    {f8 : Addr} {fd8 : FuncData} (D_paidw : DefAt K mg "paid_with" s_paidw ["debts", "means"] f8 fd8) : FnOk P w K mg base CX0 5 f fd ["book", "house", "means"] (spPaidBy K) := by
  have G_needh : FnOk P w K mg base CX0 4 f3 fd3 ["book", "house"] (spNeedH K) := ok_needh D_needh L m_len m_enumerate D_wrong D_need D_needhs
  have G_debts : FnOk P w K mg base CX0 1 f7 fd7 ["claims", "house"] (spDebts K) := ok_debts D_debts m_enumerate m_sorted
  have G_paidw : FnOk P w K mg base CX0 4 f8 fd8 ["debts", "means"] (spPaidW K) := ok_paidw D_paidw m_len m_enumerate m_sum m_zip m_range m_max m_list D_shared D_first_coins D_least_paid
  refine D.F.ok sc_paidby (fun vs H Q E h => ?_) (fun cdv A outer s H vs Q E hr h => ?_)
  · obtain ⟨b, ca, cl, ts, B, x, m, rfl, _⟩ := h
    rfl
  · obtain ⟨b, ca, cl, ts, B, x, m, rfl, A, G, x0, x1, k⟩ := h
    refine ⟨_, pss_cons (ps_expr (pe_call G_needh (hr.mono (by decide)) (by rfl) D_needh.g D_needh.F.kp D_needh.b .nil pass0 (pa_cons (pv 0) (pa_cons (pv 1) pa_nil))))
        (pss_cons (ps_asg (pv 0) (pg_tup rfl (pgs_cons (pg_name (i := 3) sc_paidby.nd rfl (.inl rfl)) (pgs_cons (pg_name (i := 4) sc_paidby.nd rfl (.inl rfl)) pgs_nil))))
        (pss_one (ps_ret (pe_callB cr_sortedPO (by rfl) m_sorted (by decide +kernel) (pa_cons (pe_call G_paidw (hr.mono (by decide)) (by rfl) D_paidw.g D_paidw.F.kp D_paidw.b .nil pass0 (pa_cons (pe_call G_debts (hr.mono (by decide)) (by rfl) D_debts.g D_debts.F.kp D_debts.b .nil pass0 (pa_cons (pv 4) (pa_cons (pv 1) pa_nil))) (pa_cons (pv 2) pa_nil))) pa_nil))))), ?_⟩
    refine sq_drop (fun H1 => Same H H1) (fun Q k => ⟨_, rfl, _, rfl, b, ca, cl, ts, B, x, rfl, A, G, x0, x1, fun H1 s1 => k _ H1 s1⟩) (fun H1 s1 => ?_)
    have A1 := A.same s1
    refine sq_tup2 (fun Q k => ⟨_, rfl, k⟩) A1.hb ?_
    refine ⟨_, rfl, _, rfl, cl, ts, B, x, rfl, A1.hcl, A1.hq, G, fun p H2 s2 hp => ⟨_, rfl, H1, p, B, x, m, rfl, hp, G, fun pd us H4 npd s5 hpd4 A4 => ?_⟩⟩
    have hpp : H4 pd = some (.lst (us.map V.ref)) := hpd4
    refine ⟨pd, us.map V.ref, pairAt H4, rfl, sq_of hpd4, fun v hv => ?_, fun ys p2 hs hst np2 => ?_⟩
    · obtain ⟨t, ht, rfl⟩ := List.mem_map.mp hv
      obtain ⟨j, hj, e⟩ := List.mem_iff_getElem.mp ht
      obtain ⟨z, _, hz⟩ := A4.get (i := j) (t := t) (by rw [List.getElem?_eq_getElem hj, e])
      exact ⟨t, rfl, by rw [pairAt_of hz]; exact hz⟩
    · obtain ⟨vs, rfl⟩ := list_refs (ys := ys) fun y hy => by
        obtain ⟨t, _, e⟩ := List.mem_map.mp (hst.perm.mem_iff.mp hy)
        exact ⟨t, e.symm⟩
      obtain ⟨M, hM, AM⟩ := prs_perm A4 (ref_perm hst.perm)
      have hMe : M = payList B x m := by
        refine payList_unique G ?_ hM
        have hnd : (M.map (·.1)).Nodup := (hM.map (·.1)).nodup_iff.mpr (pay_nodup B x m)
        rw [List.pairwise_iff_getElem]
        intro i j hi hj hij
        have hvi : i < vs.length := by rw [AM.1]; exact hi
        have hvj : j < vs.length := by rw [AM.1]; exact hj
        have q1 := AM.2 i _ _ (List.getElem?_eq_getElem hvi) (List.getElem?_eq_getElem hi)
        have q2 := AM.2 j _ _ (List.getElem?_eq_getElem hvj) (List.getElem?_eq_getElem hj)
        have hp := (List.pairwise_iff_getElem.mp hs) i j (by rw [List.length_map]; exact hvi) (by rw [List.length_map]; exact hvj) hij
        rw [List.getElem_map, List.getElem_map] at hp
        have hp2 : SrtO.lexB (pairAt H4 (V.ref vs[j])) (pairAt H4 (V.ref vs[i])) = false := hp
        rw [pairAt_of q1, pairAt_of q2] at hp2
        refine lex_fst hp2 fun z => ?_
        have hn2 := (List.pairwise_iff_getElem.mp hnd) i j (by rw [List.length_map]; exact hi) (by rw [List.length_map]; exact hj) hij
        rw [List.getElem_map, List.getElem_map] at hn2
        have z2 : ((M[i].1 : Nat) : Int) = (M[j].1 : Int) := z
        exact hn2 (by omega)
      have s6 : Same H H4 := s1.trans (s2.trans s5)
      refine k p2 vs _ (s6.free np2) (s6.trans (Same.new np2)) upd_same ?_
      rw [← hMe]
      exact AM.same (Same.new np2)
end


end Rf
namespace Rf
open PySem PySem.Spec PyProof.Rows L2
/-! ### the program's means -/
def meansUp (B : Bk) (P : List Int) (i : Nat) : List Int := (List.range B.cash.length).map fun x : Nat => g B.cash x + sumIf (fun k => decide ((B.clm k).c = (x : Int))) (g P) i
theorem meansUp_zero (B : Bk) (P : List Int) : meansUp B P 0 = B.cash := by
  refine ext_g (by unfold meansUp; rw [List.length_map, List.length_range]) fun i hi => ?_
  have hi2 : i < B.cash.length := by unfold meansUp at hi; rw [List.length_map, List.length_range] at hi; exact hi
  unfold meansUp
  rw [g_rangeMap hi2]
  show g B.cash i + 0 = _
  omega
theorem meansUp_all {B : Bk} {P : List Int} (h : P.length = B.claims.length) : meansUp B P B.claims.length = meansL B P := by
  unfold meansUp meansL
  apply List.map_congr_left
  intro x _
  unfold meansOf
  rw [Int.toNat_natCast, h]
theorem meansUp_step {B : Bk} {P : List Int} {i y : Nat} (hc : (B.clm i).c = (y : Int)) (hy : y < B.cash.length) : (meansUp B P i).set y (g (meansUp B P i) y + g P i) = meansUp B P (i + 1) := by
  unfold meansUp
  rw [g_rangeMap hy, rangeMap_set hy]
  apply List.map_congr_left
  intro x _
  show _ = g B.cash x + (sumIf _ (g P) i + (if decide ((B.clm i).c = (x : Int)) = true then g P i else 0))
  by_cases e : x = y
  · subst e
    rw [if_pos rfl, if_pos (decide_eq_true hc)]
    omega
  · rw [if_neg e, if_neg (by rw [decide_eq_false (fun z => e (by omega))]; decide)]
    omega
theorem meansUp_len (B : Bk) (P : List Int) (i : Nat) : (meansUp B P i).length = B.cash.length := by
  unfold meansUp
  rw [List.length_map, List.length_range]
def spMeansBy (K : PySem.W.Frag) : Sp := fun vs H Q _ => ∃ (b ca cl : Addr) (ts : List Addr) (B : Bk) (p : Addr) (P : List Int), vs = [.ref b, .ref p] ∧ BookAt K H b ca cl ts B ∧ Good B ∧ SqL K H p (P.map V.int) ∧ P.length = B.claims.length ∧ ∀ q H', H q = none → Same H H' → H' q = some (.lst ((meansL B P).map V.int)) → Q (.ref q) H'
def spAllPaid (K : PySem.W.Frag) : Sp := fun vs H Q _ => ∃ (b ca cl : Addr) (ts : List Addr) (B : Bk), vs = [.ref b] ∧ BookAt K H b ca cl ts B ∧ Good B ∧ ∀ q H', H q = none → Same H H' → H' q = some (.lst ((allP B).map V.int)) → Q (.ref q) H'
section
variable {P : Program} {w : World} {K : PySem.W.Frag} {mg : Str → Option Value} {base : Heap}
theorem sc_meansby : FnScope ["book", "payments", "cash", "claims", "means", "_", "creditor", "coins"] ["book", "payments"] (defScope s_meansby) := ⟨rfl, rfl, rfl, by decide +kernel, rfl, by decide +kernel, by decide +kernel⟩
/- 0:book 1:payments 2:cash 3:claims 4:means 5:_ 6:creditor 7:coins -/
theorem ok_meansby {f : Addr} {fd : FuncData} (D : DefAt K mg "means_by" s_meansby ["book", "payments"] f fd) (m_zip : mg "zip" = none) (m_list : mg "list" = none) : FnOk P w K mg base CX0 1 f fd ["book", "payments"] (spMeansBy K) := by
  refine D.F.ok sc_meansby (fun vs H Q E h => ?_) (fun cdv A outer s H vs Q E hr h => ?_)
  · obtain ⟨b, ca, cl, ts, B, p, P, rfl, _⟩ := h
    rfl
  · obtain ⟨b, ca, cl, ts, B, p, P, rfl, A, G, hp, hl, k⟩ := h
    have lq : (ts.map V.ref).length = B.claims.length := by rw [List.length_map, A.hq.1]
    refine ⟨_, pss_cons (ps_asg (pv 0) (pg_tup rfl (pgs_cons (pg_name (i := 2) sc_meansby.nd rfl (.inl rfl)) (pgs_cons (pg_name (i := 3) sc_meansby.nd rfl (.inl rfl)) pgs_nil))))
        (pss_cons (ps_set (i := 4) sc_meansby.nd rfl (.inl rfl) (pe_callTy (r := rListOf K) call_listOf (by rfl) m_list (by decide +kernel) (pa_cons (pv 2) pa_nil)))
        (pss_cons (ps_for PassesOwn.never rfl (pi_zipTL (by rfl) m_zip (pa_cons (pv 3) (pa_cons (pv 1) pa_nil))) (pg_tup rfl (pgs_cons (pg_tup rfl (pgs_cons (pg_name (i := 5) sc_meansby.nd rfl (.inl rfl)) (pgs_cons (pg_name (i := 6) sc_meansby.nd rfl (.inl rfl)) (pgs_cons (pg_name (i := 5) sc_meansby.nd rfl (.inl rfl)) (pgs_cons (pg_name (i := 5) sc_meansby.nd rfl (.inl rfl)) pgs_nil))))) (pgs_cons (pg_name (i := 7) sc_meansby.nd rfl (.inl rfl)) pgs_nil))) (pss_one (ps_augS (pv 4) (pv 6) get_list (pv 7) ip_add set_list)))
        (pss_one (ps_ret (pv 4))))), ?_⟩
    refine sq_tup2 (fun Q k => ⟨_, rfl, k⟩) A.hb ?_
    refine sq_new (.lst (B.cash.map V.int)) (fun Q k => ⟨_, rfl, ca, _, rfl, .inr A.hca, fun l nl => k l _ nl (Same.new nl) upd_same⟩) (fun mn H1 nmn s1 hmn => ?_)
    refine sq_forTL (a := cl) (b := p) (us := ts.map V.ref) (ws := P.map V.int) (fun Q k => ⟨_, rfl, _, rfl, k⟩) (Same.tup s1 A.hcl) (s1.seq hp) (by rw [lq, List.length_map, hl])
      (fun i σ' H' => Same H H' ∧ H' mn = some (.lst ((meansUp B P i).map V.int)) ∧ ∃ y5 y6 y7, σ' = [some (.ref b), some (.ref p), some (.ref ca), some (.ref cl), some (.ref mn), y5, y6, y7]) ⟨s1, by rw [meansUp_zero]; exact hmn, _, _, _, rfl⟩
      (fun i σ' H' _ hP => ⟨Same.tup hP.1 A.hcl, hP.1.seq hp⟩) (fun i y z T σ' H' hy hz hP hT => ?_) (fun σ' H' hP => ?_)
    · obtain ⟨s2, hmn2, y5, y6, y7, rfl⟩ := hP
      obtain ⟨t, rfl, ht⟩ := map_ref_get hy
      obtain ⟨rfl, hi⟩ := map_int_get hz
      rw [hl] at hi
      have s3 : Same H' (upd H' T (.tup [.ref t, .int (g P i)])) := Same.new hT
      have hqt := Same.tup (s2.trans s3) (A.hq.2 i t _ ht (Bk.clm_get hi))
      have hmn3 := s3 _ _ hmn2
      have hT3 : (upd H' T (.tup [.ref t, .int (g P i)])) T = some (.tup [.ref t, .int (g P i)]) := upd_same
      have s23 := s2.trans s3
      generalize upd H' T (.tup [.ref t, .int (g P i)]) = H3 at s3 hqt hmn3 hT3 s23 ⊢
      obtain ⟨y, ey, hyl⟩ : ∃ y : Nat, (B.clm i).c = (y : Int) ∧ y < B.cash.length := ⟨(B.clm i).c.toNat, by have := (G.clm hi).c0; omega, by have := (G.clm hi).c0; have := (G.clm hi).c1; omega⟩
      have hyl2 : y < (meansUp B P i).length := by rw [meansUp_len]; exact hyl
      refine ⟨T, _, rfl, st_of hT3, rfl, _, _, rfl, t, _, rfl, hqt, rfl, _, _, rfl, _, _, rfl, _, _, rfl, _, _, rfl, rfl, _, _, rfl, rfl, ?_⟩
      refine ⟨_, rfl, _, rfl, mn, _, _, _, rfl, rfl, sq_of hmn3, atI_g ey hyl2, _, rfl, _, _, rfl, rfl, mn, _, _, y, rfl, rfl, hmn3, ixN_nat ey (by rw [List.length_map]; exact hyl2), ?_⟩
      refine ⟨Same.mut s23 nmn, ?_, _, _, _, rfl⟩
      rw [upd_same, map_set, meansUp_step ey hyl]
    · obtain ⟨s2, hmn2, y5, y6, y7, rfl⟩ := hP
      rw [lq, meansUp_all hl] at hmn2
      exact ⟨_, rfl, k mn H' nmn s2 hmn2⟩
theorem sc_allpaid : FnScope ["book", "_", "claims", "amount"] ["book"] (defScope s_allpaid) := ⟨rfl, rfl, rfl, by decide +kernel, rfl, by decide +kernel, by decide +kernel⟩
/- 0:book 1:_ 2:claims 3:amount -/
theorem ok_allpaid {f : Addr} {fd : FuncData} (D : DefAt K mg "all_paid" s_allpaid ["book"] f fd) : FnOk P w K mg base CX0 1 f fd ["book"] (spAllPaid K) := by
  refine D.F.ok sc_allpaid (fun vs H Q E h => ?_) (fun cdv A outer s H vs Q E hr h => ?_)
  · obtain ⟨b, ca, cl, ts, B, rfl, _⟩ := h
    rfl
  · obtain ⟨b, ca, cl, ts, B, rfl, A, G, k⟩ := h
    have lq : (ts.map V.ref).length = B.claims.length := by rw [List.length_map, A.hq.1]
    have m1 := G.m1
    refine ⟨_, pss_cons (ps_asg (pv 0) (pg_tup rfl (pgs_cons (pg_name (i := 1) sc_allpaid.nd rfl (.inl rfl)) (pgs_cons (pg_name (i := 2) sc_allpaid.nd rfl (.inl rfl)) pgs_nil))))
        (pss_one (ps_ret (pe_lc (own := [("_", 1), ("amount", 3)]) (g := (gTup K 4 (gCons (gName 1) (gCons (gName 1) (gCons (gName 3) (gCons (gName 1) gNil)))))) (tt := tYes) (by rfl) sc_allpaid.nd (pi_tup (pv 2)) (blkOk_by (own := [("_", 1), ("amount", 3)]) (N := ["book", "_", "claims", "amount"]) (sc := defScope s_allpaid) (by decide +kernel)) (fun _ _ _ _ _ => (pg_tup rfl (pgs_cons (pg_name (i := 1) sc_allpaid.nd rfl (.inl rfl)) (pgs_cons (pg_name (i := 1) sc_allpaid.nd rfl (.inl rfl)) (pgs_cons (pg_name (i := 3) sc_allpaid.nd rfl (.inl rfl)) (pgs_cons (pg_name (i := 1) sc_allpaid.nd rfl (.inl rfl)) pgs_nil)))))) (fun _ _ _ _ _ => pts_nil) (fun _ _ _ _ _ => (pv 3))))), ?_⟩
    refine sq_tup2 (fun Q k => ⟨_, rfl, k⟩) A.hb ?_
    refine ⟨_, rfl, cl, rfl, ⟨_, A.hcl⟩, fun d nd => ?_⟩
    refine lc_tup (xs := ts.map V.ref) (fun i H' => Same H H' ∧ H' d = some (.lst (((allP B).take i).map V.int))) ⟨Same.new nd, upd_same⟩ (fun i H' _ hP => Same.tup hP.1 A.hcl) (fun i y H' hy hP => ?_) (fun H' hP => ?_)
    · obtain ⟨s2, hd⟩ := hP
      obtain ⟨t, rfl, ht⟩ := map_ref_get hy
      have hi : i < B.claims.length := by
        rw [← A.hq.1]
        exact (List.getElem?_eq_some_iff.mp ht).1
      have hqt := Same.tup s2 (A.hq.2 i t _ ht (Bk.clm_get hi))
      refine ⟨t, _, rfl, hqt, rfl, _, _, rfl, _, _, rfl, _, _, rfl, _, _, rfl, rfl, rfl, _, rfl, _, hd, ?_, Same.mut s2 nd, ?_⟩
      · rw [List.length_map, List.length_take]
        exact sz_lt (by omega)
      · rw [upd_same, allP_take hi, List.map_append]
        rfl
    · obtain ⟨s2, hd⟩ := hP
      rw [lq, List.take_of_length_le (by rw [allP_len]; exact Nat.le_refl _)] at hd
      exact k d H' nd s2 hd
end


end Rf
namespace Rf
open PySem PySem.Spec PyProof.Rows L2
def spNeedP (K : PySem.W.Frag) : Sp := fun vs H Q _ => ∃ (b ca cl : Addr) (ts : List Addr) (B : Bk) (p : Addr) (P : List Int), vs = [.ref b, .ref p] ∧ BookAt K H b ca cl ts B ∧ Good B ∧ SqL K H p (P.map V.int) ∧ Pay B P ∧ ∀ H', Same H H' → Q .non H'
section
variable {P : Program} {w : World} {K : PySem.W.Frag} {mg : Str → Option Value} {base : Heap}
theorem sc_needp : FnScope ["book", "payments", "_", "claims", "number", "amount"] ["book", "payments"] (defScope s_needp) := ⟨rfl, rfl, rfl, by decide +kernel, rfl, by decide +kernel, by decide +kernel⟩
/- 0:book 1:payments 2:_ 3:claims 4:number 5:amount -/
theorem ok_needp {f : Addr} {fd : FuncData} (D : DefAt K mg "_need_payments" s_needp ["book", "payments"] f fd) (L : Lims mg) (m_len : mg "len" = none) (m_enumerate : mg "enumerate" = none)
    {f1 : Addr} {fd1 : FuncData} (D_wrong : DefAt K mg "_wrong_in_claim" s_wrong ["claim", "houses"] f1 fd1)
    {f2 : Addr} {fd2 : FuncData} (D_need : DefAt K mg "need_book" s_need ["book"] f2 fd2) : FnOk P w K mg base CX0 4 f fd ["book", "payments"] (spNeedP K) := by
  have G_need : FnOk P w K mg base CX0 2 f2 fd2 ["book"] (spNeed K) := ok_need D_need L m_len m_enumerate D_wrong
  refine D.F.ok sc_needp (fun vs H Q E h => ?_) (fun cdv A outer s H vs Q E hr h => ?_)
  · obtain ⟨b, ca, cl, ts, B, p, P, rfl, _⟩ := h
    rfl
  · obtain ⟨b, ca, cl, ts, B, p, P, rfl, A, G, hp, hP, k⟩ := h
    have lq : (ts.map V.ref).length = B.claims.length := by rw [List.length_map, A.hq.1]
    refine ⟨_, pss_cons (ps_expr (pe_call G_need (hr.mono (by decide)) (by rfl) D_need.g D_need.F.kp D_need.b .nil pass0 (pa_cons (pv 0) pa_nil)))
        (pss_cons (ps_asg (pv 0) (pg_tup rfl (pgs_cons (pg_name (i := 2) sc_needp.nd rfl (.inl rfl)) (pgs_cons (pg_name (i := 3) sc_needp.nd rfl (.inl rfl)) pgs_nil))))
        (pss_cons (ps_if (pt_cmpR op_ne (pe_callB (r := rLen K) call_len (by rfl) m_len (by decide +kernel) (pa_cons (pv 1) pa_nil)) (pe_callB (r := rLen K) call_len (by rfl) m_len (by decide +kernel) (pa_cons (pv 3) pa_nil)) (nomark _)) (pss_one ps_never) pss_nil)
        (pss_one (ps_for PassesOwn.never rfl (pi_enumT (by rfl) m_enumerate (pa_cons (pv 3) pa_nil)) (pg_tup rfl (pgs_cons (pg_name (i := 4) sc_needp.nd rfl (.inl rfl)) (pgs_cons (pg_tup rfl (pgs_cons (pg_name (i := 2) sc_needp.nd rfl (.inl rfl)) (pgs_cons (pg_name (i := 2) sc_needp.nd rfl (.inl rfl)) (pgs_cons (pg_name (i := 5) sc_needp.nd rfl (.inl rfl)) (pgs_cons (pg_name (i := 2) sc_needp.nd rfl (.inl rfl)) pgs_nil))))) pgs_nil))) (pss_one (ps_if (pt_not (pt_chain op_le op_le pe_int (pe_ix (r := rIxL K) ix_list (pv 1) (pv 4) (fun _ _ => rfl)) (pv 5))) (pss_one ps_never) pss_nil)))))), ?_⟩
    refine sq_drop (fun H1 => Same H H1) (fun Q k => ⟨_, rfl, b, ca, cl, ts, B, rfl, A, G, fun H1 s1 => k _ H1 s1⟩) (fun H1 s1 => ?_)
    have A1 := A.same s1
    refine sq_tup2 (fun Q k => ⟨_, rfl, k⟩) A1.hb ?_
    refine sq_no (fun H' => H' = H1) (fun Q k => ?_) (fun H2 e => ?_)
    · refine ⟨_, rfl, p, _, rfl, .inl (s1.seq hp), _, rfl, cl, _, rfl, .inr A1.hcl, rfl, ?_⟩
      rw [lq, List.length_map, hP.len]
      have e : decide (V.int (B.claims.length : Int) = V.int (B.claims.length : Int)) = true := decide_eq_true rfl
      rw [e]
      exact ⟨_, rfl, k H1 rfl⟩
    subst e
    refine last_for (sq_forET (xs := ts.map V.ref) (fun Q k => ⟨_, rfl, k⟩) A1.hcl
      (fun i σ' H' => Same H H' ∧ ∃ y3 y5 y6, σ' = [some (.ref b), some (.ref p), y3, some (.ref cl), y5, y6]) ⟨s1, _, _, _, rfl⟩
      (fun i σ' H' _ hP => Same.tup hP.1 A.hcl) (fun i y T σ' H' hy hPv hT => ?_) (fun σ' H' hPv => ?_))
    · obtain ⟨s2, y3, y5, y6, rfl⟩ := hPv
      obtain ⟨t, rfl, ht⟩ := map_ref_get hy
      have hi : i < B.claims.length := by
        rw [← A.hq.1]
        exact (List.getElem?_eq_some_iff.mp ht).1
      have s3 : Same H' (upd H' T (.tup [.int (i : Int), .ref t])) := Same.new hT
      have s23 := s2.trans s3
      have hqt := Same.tup s23 (A.hq.2 i t _ ht (Bk.clm_get hi))
      have hT4 : (upd H' T (.tup [.int (i : Int), .ref t])) T = some (.tup [.int (i : Int), .ref t]) := upd_same
      generalize upd H' T (.tup [.int (i : Int), .ref t]) = H4 at s23 hqt hT4 ⊢
      have hi2 : i < P.length := by rw [hP.len]; exact hi
      refine ⟨T, _, rfl, st_of hT4, rfl, _, _, rfl, _, _, rfl, t, _, rfl, hqt, rfl, _, _, rfl, _, _, rfl, _, _, rfl, _, _, rfl, rfl, rfl, ?_⟩
      refine ⟨_, rfl, _, rfl, p, _, _, _, rfl, rfl, s23.seq hp, atI_g rfl hi2, _, _, rfl, rfl, true, dec_t (hP.lo i hi), iteT ⟨_, rfl, _, _, rfl, rfl, true, dec_t (hP.hi i hi), iteF ⟨s23, _, _, _, rfl⟩⟩⟩
    · exact k H' hPv.1
end


end Rf
namespace Rf
open PySem PySem.Spec PyProof.Rows L2
/-! ### what is left -/
def leftUp (B : Bk) (P : List Int) (i : Nat) : List Int := (List.range B.cash.length).map fun x : Nat => meansOf B (x : Int) P - sumIf (fun k => decide ((B.clm k).d = (x : Int))) (g P) i
theorem leftUp_zero (B : Bk) (P : List Int) : leftUp B P 0 = meansL B P := by
  unfold leftUp meansL
  apply List.map_congr_left
  intro x _
  show _ - 0 = _
  omega
theorem leftUp_all {B : Bk} {P : List Int} (h : P.length = B.claims.length) : leftUp B P B.claims.length = leftOf B P := by
  unfold leftUp leftOf paidOut
  rw [h]
theorem leftUp_step {B : Bk} {P : List Int} {i y : Nat} (hc : (B.clm i).d = (y : Int)) (hy : y < B.cash.length) : (leftUp B P i).set y (g (leftUp B P i) y - g P i) = leftUp B P (i + 1) := by
  unfold leftUp
  rw [g_rangeMap hy, rangeMap_set hy]
  apply List.map_congr_left
  intro x _
  show _ = meansOf B (x : Int) P - (sumIf _ (g P) i + (if decide ((B.clm i).d = (x : Int)) = true then g P i else 0))
  by_cases e : x = y
  · subst e
    rw [if_pos rfl, if_pos (decide_eq_true hc)]
    omega
  · rw [if_neg e, if_neg (by rw [decide_eq_false (fun z => e (by omega))]; decide)]
    omega
theorem leftUp_len (B : Bk) (P : List Int) (i : Nat) : (leftUp B P i).length = B.cash.length := by
  unfold leftUp
  rw [List.length_map, List.length_range]
section
variable {P : Program} {w : World} {K : PySem.W.Frag} {mg : Str → Option Value} {base : Heap}
theorem sc_left : FnScope ["book", "payments", "_", "claims", "coins", "debtor", "paid"] ["book", "payments"] (defScope s_left) := ⟨rfl, rfl, rfl, by decide +kernel, rfl, by decide +kernel, by decide +kernel⟩
/- 0:book 1:payments 2:_ 3:claims 4:coins 5:debtor 6:paid -/
theorem ok_left {f : Addr} {fd : FuncData} (D : DefAt K mg "left" s_left ["book", "payments"] f fd) (L : Lims mg) (m_len : mg "len" = none) (m_enumerate : mg "enumerate" = none) (m_zip : mg "zip" = none) (m_list : mg "list" = none)
    {f1 : Addr} {fd1 : FuncData} (D_wrong : DefAt K mg "_wrong_in_claim" s_wrong ["claim", "houses"] f1 fd1)
    {f2 : Addr} {fd2 : FuncData} (D_need : DefAt K mg "need_book" s_need ["book"] f2 fd2)
    {f3 : Addr} {fd3 : FuncData} (D_needp : DefAt K mg "_need_payments" s_needp ["book", "payments"] f3 fd3)
    {f4 : Addr} {fd4 : FuncData} (D_meansby : DefAt K mg "means_by" s_meansby ["book", "payments"] f4 fd4) : FnOk P w K mg base CX0 5 f fd ["book", "payments"] (spLeft K) := by
  have G_needp : FnOk P w K mg base CX0 4 f3 fd3 ["book", "payments"] (spNeedP K) := ok_needp D_needp L m_len m_enumerate D_wrong D_need
  have G_meansby : FnOk P w K mg base CX0 1 f4 fd4 ["book", "payments"] (spMeansBy K) := ok_meansby D_meansby m_zip m_list
  refine D.F.ok sc_left (fun vs H Q E h => ?_) (fun cdv A outer s H vs Q E hr h => ?_)
  · obtain ⟨b, ca, cl, ts, B, p, P, rfl, _⟩ := h
    rfl
  · obtain ⟨b, ca, cl, ts, B, p, P, rfl, A, G, hp, hP, k⟩ := h
    have lq : (ts.map V.ref).length = B.claims.length := by rw [List.length_map, A.hq.1]
    have hl := hP.len
    refine ⟨_, pss_cons (ps_expr (pe_call G_needp (hr.mono (by decide)) (by rfl) D_needp.g D_needp.F.kp D_needp.b .nil pass0 (pa_cons (pv 0) (pa_cons (pv 1) pa_nil))))
        (pss_cons (ps_asg (pv 0) (pg_tup rfl (pgs_cons (pg_name (i := 2) sc_left.nd rfl (.inl rfl)) (pgs_cons (pg_name (i := 3) sc_left.nd rfl (.inl rfl)) pgs_nil))))
        (pss_cons (ps_set (i := 4) sc_left.nd rfl (.inl rfl) (pe_call G_meansby (hr.mono (by decide)) (by rfl) D_meansby.g D_meansby.F.kp D_meansby.b .nil pass0 (pa_cons (pv 0) (pa_cons (pv 1) pa_nil))))
        (pss_cons (ps_for PassesOwn.never rfl (pi_zipTL (by rfl) m_zip (pa_cons (pv 3) (pa_cons (pv 1) pa_nil))) (pg_tup rfl (pgs_cons (pg_tup rfl (pgs_cons (pg_name (i := 5) sc_left.nd rfl (.inl rfl)) (pgs_cons (pg_name (i := 2) sc_left.nd rfl (.inl rfl)) (pgs_cons (pg_name (i := 2) sc_left.nd rfl (.inl rfl)) (pgs_cons (pg_name (i := 2) sc_left.nd rfl (.inl rfl)) pgs_nil))))) (pgs_cons (pg_name (i := 6) sc_left.nd rfl (.inl rfl)) pgs_nil))) (pss_one (ps_augS (pv 4) (pv 5) get_list (pv 6) ip_sub set_list)))
        (pss_one (ps_ret (pv 4)))))), ?_⟩
    refine sq_drop (fun H1 => Same H H1) (fun Q k => ⟨_, rfl, _, rfl, b, ca, cl, ts, B, p, P, rfl, A, G, hp, hP, fun H1 s1 => k _ H1 s1⟩) (fun H1 s1 => ?_)
    have A1 := A.same s1
    refine sq_tup2 (fun Q k => ⟨_, rfl, k⟩) A1.hb ?_
    refine sq_new (.lst ((meansL B P).map V.int)) (fun Q k => ⟨_, rfl, _, rfl, b, ca, cl, ts, B, p, P, rfl, A1, G, s1.seq hp, hl, k⟩) (fun mn H2 nmn' s2' hmn => ?_)
    have s2 := s1.trans s2'
    have nmn := s1.free nmn'
    refine sq_forTL (a := cl) (b := p) (us := ts.map V.ref) (ws := P.map V.int) (fun Q k => ⟨_, rfl, _, rfl, k⟩) (Same.tup s2 A.hcl) (s2.seq hp) (by rw [lq, List.length_map, hl])
      (fun i σ' H' => Same H H' ∧ H' mn = some (.lst ((leftUp B P i).map V.int)) ∧ ∃ y2 y5 y6, σ' = [some (.ref b), some (.ref p), y2, some (.ref cl), some (.ref mn), y5, y6]) ⟨s2, by rw [leftUp_zero]; exact hmn, _, _, _, rfl⟩
      (fun i σ' H' _ hP => ⟨Same.tup hP.1 A.hcl, hP.1.seq hp⟩) (fun i y z T σ' H' hy hz hPv hT => ?_) (fun σ' H' hPv => ?_)
    · obtain ⟨s2, hmn2, y2, y5, y6, rfl⟩ := hPv
      obtain ⟨t, rfl, ht⟩ := map_ref_get hy
      obtain ⟨rfl, hi⟩ := map_int_get hz
      rw [hl] at hi
      have s3 : Same H' (upd H' T (.tup [.ref t, .int (g P i)])) := Same.new hT
      have hqt := Same.tup (s2.trans s3) (A.hq.2 i t _ ht (Bk.clm_get hi))
      have hmn3 := s3 _ _ hmn2
      have hT3 : (upd H' T (.tup [.ref t, .int (g P i)])) T = some (.tup [.ref t, .int (g P i)]) := upd_same
      have s23 := s2.trans s3
      generalize upd H' T (.tup [.ref t, .int (g P i)]) = H3 at s3 hqt hmn3 hT3 s23 ⊢
      obtain ⟨y, ey, hyl⟩ : ∃ y : Nat, (B.clm i).d = (y : Int) ∧ y < B.cash.length := ⟨(B.clm i).d.toNat, by have := (G.clm hi).d0; omega, by have := (G.clm hi).d0; have := (G.clm hi).d1; omega⟩
      have hyl2 : y < (leftUp B P i).length := by rw [leftUp_len]; exact hyl
      refine ⟨T, _, rfl, st_of hT3, rfl, _, _, rfl, t, _, rfl, hqt, rfl, _, _, rfl, _, _, rfl, _, _, rfl, _, _, rfl, rfl, _, _, rfl, rfl, ?_⟩
      refine ⟨_, rfl, _, rfl, mn, _, _, _, rfl, rfl, sq_of hmn3, atI_g ey hyl2, _, rfl, _, _, rfl, rfl, mn, _, _, y, rfl, rfl, hmn3, ixN_nat ey (by rw [List.length_map]; exact hyl2), ?_⟩
      refine ⟨Same.mut s23 nmn, ?_, _, _, _, rfl⟩
      rw [upd_same, map_set, leftUp_step ey hyl]
    · obtain ⟨s2, hmn2, y2, y5, y6, rfl⟩ := hPv
      rw [lq, leftUp_all hl] at hmn2
      exact ⟨_, rfl, k mn H' nmn s2 hmn2⟩
end


end Rf
namespace Rf
open PySem PySem.Spec PyProof.Rows L2
/-! ### whether it is a clearing -/
/-- for i, x in enumerate(a new list) -/
theorem sq_forEN {K : PySem.W.Frag} {ta : TA} {g : TG} {tu tz : TS} {D : Ends} {σ : L2.St} {H : Hp} {xs : List V} (h : ∀ Q : List V → Hp → Prop, (∀ p H', H p = none → Same H H' → H' p = some (.lst xs) → Q [.ref p] H') → ta σ H Q) (Pv : Addr → Nat → L2.St → Hp → Prop)
    (h0 : ∀ p H', H p = none → Same H H' → H' p = some (.lst xs) → Pv p 0 σ H') (hl : ∀ p i σ' H', i ≤ xs.length → Pv p i σ' H' → SqL K H' p xs)
    (hs : ∀ p (i : Nat) (x : V) (T : Addr) σ' H', xs[i]? = some x → Pv p i σ' H' → H' T = none → g (.ref T) σ' (upd H' T (.tup [.int (i : Int), x])) fun σ2 H2 => tu { D with nx := Pv p (i + 1), ct := Pv p (i + 1), bk := tz D } σ2 H2) (hd : ∀ p σ' H', Pv p xs.length σ' H' → tz D σ' H') : tSeq (tFor (iEnum K ta) g tu) tz D σ H := by
  refine h _ fun a H1 na s1 ha => ⟨a, xs, rfl, sq_of ha, fun i m σ H => m = xs.length - i ∧ i ≤ xs.length ∧ Pv a i σ H, ⟨xs.length, rfl, Nat.zero_le _, h0 a H1 na s1 ha⟩, ?_⟩
  rintro i m σ H ⟨rfl, hi, p⟩
  have q := hl a i σ H hi p
  by_cases hlt : i < xs.length
  · have hx : xs[i]? = some xs[i] := List.getElem?_eq_getElem hlt
    refine .inr ⟨⟨xs, _, q, hx⟩, Pv a (i + 1), fun σ' H' p' => ⟨xs.length - (i + 1), by omega, rfl, hlt, p'⟩, fun v H' y => ?_⟩
    obtain ⟨T, x', rfl, hT, rfl, f1⟩ := y
    exact hs a i x' T σ H (f1 xs q) p hT
  · have e : i = xs.length := by omega
    subst e
    exact .inl ⟨⟨xs, q, Nat.le_refl _⟩, hd a σ H p⟩
section
variable {P : Program} {w : World} {K : PySem.W.Frag} {mg : Str → Option Value} {base : Heap}
theorem sc_isclr : FnScope ["book", "payments", "house", "means", "claim", "coins"] ["book", "payments"] (defScope s_isclr) := ⟨rfl, rfl, rfl, by decide +kernel, rfl, by decide +kernel, by decide +kernel⟩
/- 0:book 1:payments 2:house 3:means 4:claim 5:coins -/
theorem ok_isclr {f : Addr} {fd : FuncData} (D : DefAt K mg "is_clearing" s_isclr ["book", "payments"] f fd) (L : Lims mg) (m_len : mg "len" = none) (m_enumerate : mg "enumerate" = none) (m_zip : mg "zip" = none) (m_list : mg "list" = none)
    (m_sum : mg "sum" = none) (m_sorted : mg "sorted" = none) (m_range : mg "range" = none) (m_max : mg "max" = none)
    {f1 : Addr} {fd1 : FuncData} (D_wrong : DefAt K mg "_wrong_in_claim" s_wrong ["claim", "houses"] f1 fd1)
    {f2 : Addr} {fd2 : FuncData} (D_need : DefAt K mg "need_book" s_need ["book"] f2 fd2)
    {f91 : Addr} {fd91 : FuncData} (D_needhs : DefAt K mg "need_houses" s_needhs ["book", "houses"] f91 fd91)
    {f3 : Addr} {fd3 : FuncData} (D_needh : DefAt K mg "need_house" s_needh ["book", "house"] f3 fd3)
    {f4 : Addr} {fd4 : FuncData} (D_shared : DefAt K mg "shared" s_shared ["amounts", "coins"] f4 fd4)
    {f5 : Addr} {fd5 : FuncData} (D_first_coins : DefAt K mg "_first_coins" s_first_coins ["amounts", "coins"] f5 fd5)
    {f6 : Addr} {fd6 : FuncData} (D_least_paid : DefAt K mg "_least_paid" s_least_paid ["amounts", "paid"] f6 fd6)
    {f7 : Addr} {fd7 : FuncData} (D_debts : DefAt K mg "debts_by_rank" s_debts ["claims", "house"] f7 fd7)
    {f8 : Addr} {fd8 : FuncData} (D_paidw : DefAt K mg "paid_with" s_paidw ["debts", "means"] f8 fd8)
    {f9 : Addr} {fd9 : FuncData} (D_paidby : DefAt K mg "paid_by" s_paidby ["book", "house", "means"] f9 fd9)
    {f10 : Addr} {fd10 : FuncData} (D_needp : DefAt K mg "_need_payments" s_needp ["book", "payments"] f10 fd10)
    {f11 : Addr} {fd11 : FuncData} (D_meansby : DefAt K mg "means_by" s_meansby ["book", "payments"] f11 fd11) : FnOk P w K mg base CX0 6 f fd ["book", "payments"] (spIsClr K) := by
  have G_needp : FnOk P w K mg base CX0 4 f10 fd10 ["book", "payments"] (spNeedP K) := ok_needp D_needp L m_len m_enumerate D_wrong D_need
  have G_meansby : FnOk P w K mg base CX0 1 f11 fd11 ["book", "payments"] (spMeansBy K) := ok_meansby D_meansby m_zip m_list
  have G_paidby : FnOk P w K mg base CX0 5 f9 fd9 ["book", "house", "means"] (spPaidBy K) := ok_paidby D_paidby L m_len m_enumerate m_sum m_sorted m_zip m_range m_max m_list D_wrong D_need D_needhs D_needh D_shared D_first_coins D_least_paid D_debts D_paidw
  refine D.F.ok sc_isclr (fun vs H Q E h => ?_) (fun cdv A outer s H vs Q E hr h => ?_)
  · obtain ⟨b, ca, cl, ts, B, p, P, rfl, _⟩ := h
    rfl
  · obtain ⟨b, ca, cl, ts, B, p, P, rfl, A, G, hp, hP, k⟩ := h
    have hl := hP.len
    have lm : ((meansL B P).map V.int).length = B.cash.length := by rw [List.length_map, meansL_len]
    refine ⟨_, pss_cons (ps_expr (pe_call G_needp (hr.mono (by decide)) (by rfl) D_needp.g D_needp.F.kp D_needp.b .nil pass0 (pa_cons (pv 0) (pa_cons (pv 1) pa_nil))))
        (pss_cons (ps_for PassesOwn.never rfl (pi_enum (by rfl) m_enumerate (pa_cons (pe_call G_meansby (hr.mono (by decide)) (by rfl) D_meansby.g D_meansby.F.kp D_meansby.b .nil pass0 (pa_cons (pv 0) (pa_cons (pv 1) pa_nil))) pa_nil)) (pg_tup rfl (pgs_cons (pg_name (i := 2) sc_isclr.nd rfl (.inl rfl)) (pgs_cons (pg_name (i := 3) sc_isclr.nd rfl (.inl rfl)) pgs_nil))) (pss_one (ps_for PassesOwn.never rfl (pi_list (pe_call G_paidby (hr.mono (by decide)) (by rfl) D_paidby.g D_paidby.F.kp D_paidby.b .nil pass0 (pa_cons (pv 0) (pa_cons (pv 2) (pa_cons (pv 3) pa_nil))))) (pg_tup rfl (pgs_cons (pg_name (i := 4) sc_isclr.nd rfl (.inl rfl)) (pgs_cons (pg_name (i := 5) sc_isclr.nd rfl (.inl rfl)) pgs_nil))) (pss_one (ps_if (pt_cmpR op_ne (pe_ix (r := rIxL K) ix_list (pv 1) (pv 4) (fun _ _ => rfl)) (pv 5) (nomark _)) (pss_one (ps_ret pe_bl)) pss_nil)))))
        (pss_one (ps_ret pe_bl))), ?_⟩
    refine sq_drop (fun H1 => Same H H1) (fun Q k => ⟨_, rfl, _, rfl, b, ca, cl, ts, B, p, P, rfl, A, G, hp, hP, fun H1 s1 => k _ H1 s1⟩) (fun H1 s1 => ?_)
    have A1 := A.same s1
    refine sq_forEN (xs := (meansL B P).map V.int) (fun Q k => ⟨_, rfl, _, rfl, b, ca, cl, ts, B, p, P, rfl, A1, G, s1.seq hp, hl, k⟩)
      (fun mn i σ' H' => Same H H' ∧ H' mn = some (.lst ((meansL B P).map V.int)) ∧ (∀ x : Nat, x < i → Stable B (x : Int) P) ∧ ∃ y2 y3 y4 y5, σ' = [some (.ref b), some (.ref p), y2, y3, y4, y5])
      (fun mn H' nm s2 hm => ⟨s1.trans s2, hm, (fun x z => absurd z (Nat.not_lt_zero _)), _, _, _, _, rfl⟩) (fun mn i σ' H' _ hPv => sq_of hPv.2.1) (fun mn i y T σ' H' hy hPv hT => ?_) (fun mn σ' H' hPv => ?_)
    · obtain ⟨s2, hm, hst, y2, y3, y4, y5, rfl⟩ := hPv
      obtain ⟨rfl, hi⟩ := map_int_get hy
      rw [meansL_len] at hi
      rw [g_meansL hi]
      have s3 : Same H' (upd H' T (.tup [.int (i : Int), .int (meansOf B (i : Int) P)])) := Same.new hT
      have hT4 : (upd H' T (.tup [.int (i : Int), .int (meansOf B (i : Int) P)])) T = some (.tup [.int (i : Int), .int (meansOf B (i : Int) P)]) := upd_same
      have s23 := s2.trans s3
      have hm4 := s3 _ _ hm
      generalize upd H' T (.tup [.int (i : Int), .int (meansOf B (i : Int) P)]) = H4 at s23 hm4 hT4 ⊢
      have A4 := A.same s23
      refine ⟨T, _, rfl, st_of hT4, rfl, _, _, rfl, _, _, rfl, rfl, ?_⟩
      have hlu : ∀ us : List Addr, us.length = (payList B (i : Int) (meansOf B (i : Int) P)).length → (us.map V.ref).length = (payList B (i : Int) (meansOf B (i : Int) P)).length := fun us h => by rw [List.length_map, h]
      refine ⟨_, rfl, _, rfl, _, rfl, b, ca, cl, ts, B, (i : Int), meansOf B (i : Int) P, rfl, A4, G, by omega, by omega, fun q us H5 nq s5 hq5 hprs => ⟨q, rfl, ⟨_, sq_of hq5⟩, ?_⟩⟩
      refine for_list (D := _) (xs := us.map V.ref) (fun j σ2 H6 => Same H H6 ∧ H6 mn = some (.lst ((meansL B P).map V.int)) ∧ H6 q = some (.lst (us.map V.ref)) ∧ PrsAt H6 us (payList B (i : Int) (meansOf B (i : Int) P)) ∧ (∀ l k' c, l < j → (payList B (i : Int) (meansOf B (i : Int) P))[l]? = some (k', c) → g P k' = c) ∧ ∃ y2 y3 y4 y5, σ2 = [some (.ref b), some (.ref p), y2, y3, y4, y5])
        ⟨s23.trans s5, s5 _ _ hm4, hq5, hprs, (fun l _ _ z => absurd z (Nat.not_lt_zero _)), _, _, _, _, rfl⟩ (fun j σ2 H6 _ h6 => sq_of h6.2.2.1) (fun j z σ2 H6 hz h6 => ?_) (fun σ2 H6 h6 => ?_)
      · obtain ⟨s6, hm6, hq6, hpr6, hall, y2, y3, y4, y5, rfl⟩ := h6
        obtain ⟨u, rfl, hu⟩ := map_ref_get hz
        obtain ⟨⟨k', c⟩, hk', hu6⟩ := hpr6.get hu
        have hkm : (k', c) ∈ payList B (i : Int) (meansOf B (i : Int) P) := List.mem_of_getElem? hk'
        have hkin : k' < B.claims.length ∧ (B.clm k').d = (i : Int) := by
          unfold payList at hkm
          obtain ⟨k2, h2, e2⟩ := List.mem_map.mp hkm
          cases e2
          exact mem_owesUp.mp h2
        have hc : c = coinOf B (i : Int) (meansOf B (i : Int) P) k' := by
          unfold payList at hkm
          obtain ⟨k2, h2, e2⟩ := List.mem_map.mp hkm
          cases e2
          rfl
        have hk2 : k' < P.length := by rw [hl]; exact hkin.1
        refine ⟨u, _, rfl, st_of hu6, rfl, _, _, rfl, _, _, rfl, rfl, ?_⟩
        refine if_ifP (p := ¬ g P k' = c) (fun Q k => ⟨_, rfl, _, rfl, p, _, _, _, rfl, rfl, s6.seq hp, atI_g rfl hk2, _, rfl, rfl, _, rfl, ?_⟩) (fun e => ?_) (fun e => ?_)
        · have e2 : (!decide (V.int (g P k') = V.int c)) = decide (¬ g P k' = c) := by
            rw [dec_vint]
            exact (decide_not ..).symm
          rw [e2]
          exact k
        · have q := k H6 s6
          have e3 : decide (behind B (houses B) P = P) = false := decide_eq_false fun z => e (by
            have z2 : g (behind B (houses B) P) k' = g P k' := by rw [z]
            rw [g_behind hkin.1, if_pos (debtor_in G hkin.1), hkin.2] at z2
            rw [hc, z2])
          rw [e3] at q
          exact q
        · refine sq_nx ⟨s6, hm6, hq6, hpr6, fun l k2 c2 hl2 h2 => ?_, _, _, _, _, rfl⟩
          rcases Nat.lt_succ_iff_lt_or_eq.mp hl2 with h | h
          · exact hall l k2 c2 h h2
          · subst h
            rw [hk'] at h2
            cases h2
            exact Decidable.of_not_not e
      · obtain ⟨s6, hm6, hq6, hpr6, hall, y2, y3, y4, y5, rfl⟩ := h6
        refine ⟨s6, hm6, fun x hx => ?_, _, _, _, _, rfl⟩
        rcases Nat.lt_succ_iff_lt_or_eq.mp hx with h | h
        · exact hst x h
        · subst h
          intro k' hk' hd
          obtain ⟨l, hll⟩ := List.mem_iff_getElem?.mp ((mem_payList G).mpr (coin_mem G (m := meansOf B (x : Int) P) hk' hd))
          exact hall l k' _ (by rw [List.length_map, hpr6.1]; exact (List.getElem?_eq_some_iff.mp hll).1) hll
    · obtain ⟨s2, hm, hst, y2, y3, y4, y5, rfl⟩ := hPv
      rw [lm] at hst
      have q := k H' s2
      have e : behind B (houses B) P = P := stable_all hl fun x hx => by
        obtain ⟨h0, h1⟩ := mem_houses.mp hx
        have := hst x.toNat (by omega)
        rw [Int.toNat_of_nonneg h0] at this
        exact this
      rw [decide_eq_true e] at q
      exact q
end


end Rf
namespace Rf
open PySem PySem.Spec PyProof.Rows L2
/-! ### tuples cut and joined -/
theorem slA_of {K : PySem.W.Frag} {H : Hp} {a : Addr} {xs : List V} {lo hi : Option Int} {Q : VK} (h : SqT K H a xs) (k : ∀ p H', Same H H' → SqT K H' p (cutV xs lo hi) → Q (.ref p) H') : rSlA K (.ref a) lo hi H Q := by
  refine ⟨a, xs, rfl, h, fun e => k a H (fun _ _ z => z) ?_, fun _ p np => k p _ (Same.new np) (st_of upd_same)⟩
  have e2 : cutV xs lo hi = xs := by
    unfold cutV
    rw [e.1, e.2, List.drop_zero, Nat.sub_zero, List.take_length]
  rw [e2]
  exact h
theorem catA_of {K : PySem.W.Frag} {H : Hp} {a b : Addr} {xs ys : List V} {Q : VK} (h1 : SqT K H a xs) (h2 : SqT K H b ys) (hl : xs.length + ys.length ≤ sizeLine) (k : ∀ p H', Same H H' → SqT K H' p (xs ++ ys) → Q (.ref p) H') : rCatA K (.ref a) (.ref b) H Q := by
  refine ⟨a, b, xs, ys, rfl, rfl, h1, h2, hl, fun e => k b H (fun _ _ z => z) ?_, fun _ e => k a H (fun _ _ z => z) ?_, fun _ _ p np => k p _ (Same.new np) (st_of upd_same)⟩
  · rw [e]
    exact h2
  · rw [e, List.append_nil]
    exact h1
theorem cut_front {l : List Int} {j : Nat} (h : j < l.length) : cutV (l.map V.int) none (some (j : Int)) = (l.take j).map V.int := by
  unfold cutV
  rw [List.length_map]
  have e1 : HT.sIx l.length 0 none = 0 := rfl
  have e2 : HT.sIx l.length l.length (some (j : Int)) = j := by
    rw [HT.sIx_nat]
    omega
  rw [e1, e2, List.drop_zero, Nat.sub_zero, List.map_take]
theorem cut_rest {l : List Int} {j : Nat} (h : j < l.length) : cutV (l.map V.int) (some ((j : Int) + 1)) none = (l.drop (j + 1)).map V.int := by
  unfold cutV
  rw [List.length_map]
  have e1 : HT.sIx l.length 0 (some ((j : Int) + 1)) = j + 1 := by
    show HT.sIx l.length 0 (some ((j + 1 : Nat) : Int)) = j + 1
    rw [HT.sIx_nat]
    omega
  have e2 : HT.sIx l.length l.length none = l.length := rfl
  rw [e1, e2, List.take_of_length_le (by rw [List.length_drop, List.length_map]; exact Nat.le_refl _), List.map_drop]
theorem set_parts {l : List Int} {j : Nat} {c : Int} (h : j < l.length) : l.take j ++ [c] ++ l.drop (j + 1) = l.set j c := by
  rw [List.set_eq_take_append_cons_drop, if_pos h, List.append_assoc]
  rfl
/-- the book where a house has other coins -/
def withC (B : Bk) (x : Int) (c : Int) : Bk := ⟨B.cash.set x.toNat c, B.claims⟩
theorem withC_good {B : Bk} (G : Good B) {x c : Int} (c0 : 0 ≤ c) (c1 : c ≤ 999) : Good (withC B x c) := by
  have hl : (withC B x c).cash.length = B.cash.length := List.length_set ..
  refine ⟨by rw [hl]; exact G.n0, by rw [hl]; exact G.n1, fun y hy => ?_, G.m1, fun q hq => by rw [hl]; exact G.claims q hq⟩
  rcases List.mem_or_eq_of_mem_set hy with h | h
  · exact Good.cash G y h
  · rw [h]
    exact ⟨c0, by omega⟩
theorem withC_cash {B : Bk} {x c : Int} (h : ∀ y ∈ B.cash, 0 ≤ y ∧ y ≤ 999) (c0 : 0 ≤ c) (c1 : c ≤ 999) : ∀ y ∈ (withC B x c).cash, 0 ≤ y ∧ y ≤ 999 := fun y hy => by
  rcases List.mem_or_eq_of_mem_set hy with h2 | h2
  · exact h y h2
  · rw [h2]
    exact ⟨c0, c1⟩
theorem cutV_take {l : List V} {j : Nat} (h : j ≤ l.length) : cutV l none (some (j : Int)) = l.take j := by
  unfold cutV
  rw [HT.sIx_nat, HT.sIx_none, List.drop_zero, Nat.sub_zero, Nat.min_eq_left h]
theorem cutV_drop {l : List V} {j : Nat} (h : j ≤ l.length) : cutV l (some (j : Int)) none = l.drop j := by
  unfold cutV
  rw [HT.sIx_nat, HT.sIx_none, Nat.min_eq_left h, List.take_of_length_le (by rw [List.length_drop]; exact Nat.le_refl _)]


end Rf
namespace Rf
open PySem PySem.Spec PyProof.Rows L2
/-! ### list.count of flat items -/
section
variable {X : Cx}
def rCount (K : PySem.W.Frag) : V → List V → Hp → VK → Prop := fun x xs H Q => ∃ (a : Addr) (ys : List V) (y : V), x = V.ref a ∧ xs = [y] ∧ SqL K H a ys ∧ flatV y = true ∧ ys.all flatV = true ∧ Q (.int ((ys.countP fun z => eqV z y : Nat) : Int)) H
theorem count_vals {y : V} {uy : Value} : ∀ {ys : List V} {us : List Value}, Vals ys us → ys.all flatV = true → us.countP (eqU y) = ys.countP fun z => eqV z y
  | _, _, .nil, _ => rfl
  | z :: ys, u :: us, .cons r t, f => by
    rw [List.all_cons, Bool.and_eq_true] at f
    have ih := count_vals (y := y) (uy := uy) t f.2
    rw [List.countP_cons, List.countP_cons, ih, eqU_of r f.1]
theorem mt_countF : MtR X "list.count" (rCount X.K) := by
  intro pins s σ H x xs v us Q I rx rxs h
  obtain ⟨a, ys, y, rfl, rfl, hs, fy, fys, q⟩ := h
  cases rx
  cases rxs with
  | cons ry rt =>
    rename_i uy ut
    cases rt
    obtain ⟨its, rv, ⟨⟨cls, dd, data, sl⟩, n, ho, hc, hdn, hd⟩, hlen⟩ := I.list hs
    simp only at hc hd
    subst hc hd
    refine call_meets PySem.F.slot_list_count ⟨_, ho, rfl⟩ PySem.F.entry_list_count (PySem.F.args_list_count_2 _ _)
      (SeqAt.list_countAt a its.toArray n dd sl uy (eqU y)) ⟨ho, fun u' hu' => mem_eqAt ry fy rv fys u' (by simpa using hu'), ?_⟩
    exact ⟨.int ((ys.countP fun z => eqV z y : Nat) : Int), H, I.tok _, ⟨_, by rw [← count_vals (uy := uy) rv fys]⟩, q⟩
end


end Rf
namespace Rf
open PySem PySem.Spec PyProof.Rows L2
/-! ### houses that there aren't, payments that are none -/
def Small64 (x : Int) : Prop := x.natAbs < 2 ^ 64
theorem log64 {x : Int} (h : Small64 x) : x.natAbs.log2 < 1920 := by
  unfold Small64 at h
  rcases Nat.eq_zero_or_pos x.natAbs with e | e
  · rw [e]
    decide
  · exact Nat.lt_of_lt_of_le ((Nat.log2_lt (by omega)).mpr h) (by decide)
theorem txt64 {x : Int} (h : Small64 x) : (Str.ofString (toString x)).length ≤ 1921 := PyProof.Rows.int_text_len_1921 (log64 h)
theorem small_of {x : Int} (h0 : -1000000000 ≤ x) (h1 : x ≤ 1000000000) : Small64 x := by
  unfold Small64
  omega
theorem empty_len (y : Str) : ((Str.empty : Str) ++ y).length = y.length := by
  rw [app_len]
  show 0 + y.length = y.length
  omega
def spHsNo (K : PySem.W.Frag) (C : Addr) : Sp := fun vs H _ E => ∃ (b ca cl : Addr) (ts : List Addr) (B : Bk) (l : Addr) (xs : List Int), vs = [.ref b, .ref l] ∧ BookAt K H b ca cl ts B ∧ Good B ∧ SqL K H l (xs.map V.int) ∧ (∀ x ∈ xs, Small64 x) ∧ (∃ x ∈ xs, ¬ (0 ≤ x ∧ x < B.cash.length)) ∧ ∀ H', Same H H' → E (.ref C) none H'
def spHNo (K : PySem.W.Frag) (C : Addr) (m : Nat) : Sp := fun vs H _ E => ∃ (b ca cl : Addr) (ts : List Addr) (B : Bk) (x : Int) (ys : List V), vs = .ref b :: .int x :: ys ∧ ys.length = m ∧ BookAt K H b ca cl ts B ∧ Good B ∧ Small64 x ∧ ¬ (0 ≤ x ∧ x < B.cash.length) ∧ ∀ H', Same H H' → E (.ref C) none H'
def spMNo (K : PySem.W.Frag) (C : Addr) : Sp := fun vs H _ E => ∃ (b ca cl : Addr) (ts : List Addr) (B : Bk) (x y : Int), vs = [.ref b, .int x, .int y] ∧ BookAt K H b ca cl ts B ∧ Good B ∧ Small64 x ∧ Small64 y ∧ (¬ (0 ≤ x ∧ x < B.cash.length) ∨ ¬ (0 ≤ y ∧ y < B.cash.length)) ∧ ∀ H', Same H H' → E (.ref C) none H'
def spPNo (K : PySem.W.Frag) (C : Addr) : Sp := fun vs H _ E => ∃ (b ca cl : Addr) (ts : List Addr) (B : Bk) (p : Addr) (P : List Int), vs = [.ref b, .ref p] ∧ BookAt K H b ca cl ts B ∧ Good B ∧ SqL K H p (P.map V.int) ∧ P.length ≤ 1000 ∧ (∀ x ∈ P, Small64 x) ∧ ¬ Pay B P ∧ ∀ H', Same H H' → E (.ref C) none H'
section
variable {P : Program} {w : World} {K : PySem.W.Frag} {mg : Str → Option Value} {base : Heap} {C : Addr}

theorem ok_needhsN {f : Addr} {fd : FuncData} (D : DefAt K mg "need_houses" s_needhs ["book", "houses"] f fd) (L : Lims mg) (m_len : mg "len" = none) (m_enumerate : mg "enumerate" = none)
    {f1 : Addr} {fd1 : FuncData} (D_wrong : DefAt K mg "_wrong_in_claim" s_wrong ["claim", "houses"] f1 fd1)
    {f2 : Addr} {fd2 : FuncData} (D_need : DefAt K mg "need_book" s_need ["book"] f2 fd2) (X_NoHouse : OwnAt K mg "NoHouse" C) : FnOk P w K mg base (L2.CX P w) 3 f fd ["book", "houses"] (spHsNo K C) := by
  have G_need : FnOk P w K mg base CX0 2 f2 fd2 ["book"] (spNeed K) := ok_need D_need L m_len m_enumerate D_wrong
  refine D.F.okX sc_needhs (fun vs H Q E h => ?_) (fun cdv A outer s H vs Q E hr h => ?_)
  · obtain ⟨b, ca, cl, ts, B, l, xs, rfl, _⟩ := h
    rfl
  · obtain ⟨b, ca, cl, ts, B, l, xs, rfl, A, G, hx, hsm, hbad, k⟩ := h
    have lc : (B.cash.map V.int).length = B.cash.length := List.length_map _
    refine ⟨_, pss_cons (ps_expr (pe_call G_need (hr.mono (by decide)) (by rfl) D_need.g D_need.F.kp D_need.b .nil pass0 (pa_cons (pv 0) pa_nil)))
        (pss_cons (ps_asg (pv 0) (pg_tup rfl (pgs_cons (pg_name (i := 2) sc_needhs.nd rfl (.inl rfl)) (pgs_cons (pg_name (i := 3) sc_needhs.nd rfl (.inl rfl)) pgs_nil))))
        (pss_one (ps_for (passes_of rfl) rfl (pi_list (pv 1)) (pg_name (i := 4) sc_needhs.nd rfl (.inl rfl)) (pss_one (ps_if (pt_not (pt_chain op_le op_lt pe_int (pv 4) (pe_callB (r := rLen K) call_len (by rfl) m_len (by decide +kernel) (pa_cons (pv 2) pa_nil)))) (pss_one (ps_raise rfl (takes_of rfl rfl rfl rfl) (pmk_ownA PySem.F.excBase_ValueError X_NoHouse.q X_NoHouse.gC X_NoHouse.kC (raises_own X_NoHouse.eC X_NoHouse.tC) (by rfl) (pa_cons (pe_joined (PJ.cons pe_str (PJ.cons (pe_fmt (pv 4)) PJ.nil))) pa_nil)))) pss_nil))))), ?_⟩
    refine sq_drop (fun H1 => Same H H1) (fun Q k => ⟨_, rfl, b, ca, cl, ts, B, rfl, A, G, fun H1 s1 => k _ H1 s1⟩) (fun H1 s1 => ?_)
    have A1 := A.same s1
    refine sq_tup2 (fun Q k => ⟨_, rfl, k⟩) A1.hb ?_
    refine last_for ?_
    refine sq_forL (xs := xs.map V.int) (fun Q k => ⟨_, rfl, k⟩) (Same.seq s1 hx)
      (fun i σ' H' => Same H H' ∧ (∀ j, j < i → 0 ≤ g xs j ∧ g xs j < B.cash.length) ∧ ∃ y3 y4, σ' = [some (.ref b), some (.ref l), some (.ref ca), y3, y4]) ⟨s1, fun j hj => absurd hj (Nat.not_lt_zero _), _, _, rfl⟩ (fun i σ' H' _ hP => Same.seq hP.1 hx) (fun i x σ' H' hy hP => ?_) (fun σ' H' hP => ?_)
    · obtain ⟨s2, hpre, y3, y4, rfl⟩ := hP
      obtain ⟨rfl, hi⟩ := map_int_get hy
      have hs := hsm _ (g_mem hi)
      have raise : ∀ {Q : Prop}, (E (.ref C) none H' → Q) → Q := fun f => f (k _ s2)
      have l1 := txt64 hs
      have l2 : ("there is no house " : Str).length = 18 := by decide +kernel
      have rd : ∀ {W : WX}, (∀ σ, W (.ref C) none σ H' = E (.ref C) none H') → True := fun _ => trivial
      by_cases c1 : 0 ≤ g xs i
      · by_cases c2 : g xs i < B.cash.length
        · exact ⟨_, rfl, _, _, rfl, rfl, true, dec_t c1, iteT ⟨_, rfl, ca, _, rfl, .inr (Same.tup s2 A.hca), _, _, rfl, rfl, true, by rw [lc]; exact dec_t c2, iteF ⟨s2, fun j hj => by
            by_cases e : j < i
            · exact hpre j e
            · have : j = i := by omega
              subst this
              exact ⟨c1, c2⟩, _, _, rfl⟩⟩⟩
        · exact ⟨_, rfl, _, _, rfl, rfl, true, dec_t c1, iteT ⟨_, rfl, ca, _, rfl, .inr (Same.tup s2 A.hca), _, _, rfl, rfl, false, by rw [lc]; exact dec_f c2, iteT ⟨_, rfl, by rw [empty_len, l2]; exact sz_of (by decide), _, rfl, .inr ⟨_, rfl, log64 hs, _, rfl, by rw [app_len, empty_len, l2]; exact sz_of (by omega), by show 1 ≤ sizeLine; decide, k _ s2⟩⟩⟩⟩
      · exact ⟨_, rfl, _, _, rfl, rfl, false, dec_f c1, iteF ⟨_, rfl, iteT ⟨_, rfl, by rw [empty_len, l2]; exact sz_of (by decide), _, rfl, .inr ⟨_, rfl, log64 hs, _, rfl, by rw [app_len, empty_len, l2]; exact sz_of (by omega), by show 1 ≤ sizeLine; decide, k _ s2⟩⟩⟩⟩
    · obtain ⟨s2, hpre, _⟩ := hP
      rw [List.length_map] at hpre
      obtain ⟨x, hxm, hxb⟩ := hbad
      obtain ⟨i, hi, rfl⟩ := mem_g hxm
      exact absurd (hpre i hi) hxb

theorem ok_needhN {f : Addr} {fd : FuncData} (D : DefAt K mg "need_house" s_needh ["book", "house"] f fd) {f1 : Addr} {fd1 : FuncData} (D_needhs : DefAt K mg "need_houses" s_needhs ["book", "houses"] f1 fd1) (GX_needhs : FnOk P w K mg base (L2.CX P w) 3 f1 fd1 ["book", "houses"] (spHsNo K C)) : FnOk P w K mg base (L2.CX P w) 4 f fd ["book", "house"] (spHNo K C 0) := by
  refine D.F.okX sc_needh (fun vs H Q E h => ?_) (fun cdv A outer s H vs Q E hr h => ?_)
  · obtain ⟨b, ca, cl, ts, B, x, ys, rfl, hy, _⟩ := h
    rw [List.length_cons, List.length_cons, hy]
    rfl
  · obtain ⟨b, ca, cl, ts, B, x, ys, rfl, hy, A, G, hs, hb, k⟩ := h
    obtain rfl : ys = [] := List.eq_nil_of_length_eq_zero hy
    refine ⟨_, pss_one (ps_expr (pe_callS GX_needhs (hr.mono (by decide)) (by rfl) D_needhs.g D_needhs.F.kp D_needhs.b (fun σ => passAt (takes_of rfl rfl rfl rfl) σ) (pa_cons (pv 0) (pa_cons (pe_lst (pa_cons (pv 1) pa_nil)) pa_nil)))), ?_⟩
    exact ⟨_, rfl, _, rfl, by show 1 ≤ sizeLine; decide, fun p np => ⟨b, ca, cl, ts, B, p, [x], rfl, A.same (Same.new np), G, sq_of upd_same, fun y hy => by rw [List.mem_singleton.mp hy]; exact hs, ⟨x, List.mem_cons_self, hb⟩, fun H' s => k H' ((Same.new np).trans s)⟩⟩

theorem ok_owedN {f : Addr} {fd : FuncData} (D : DefAt K mg "owed" s_owed ["book", "house"] f fd) {f1 : Addr} {fd1 : FuncData} (D_needh : DefAt K mg "need_house" s_needh ["book", "house"] f1 fd1) (GX_needh : FnOk P w K mg base (L2.CX P w) 4 f1 fd1 ["book", "house"] (spHNo K C 0)) : FnOk P w K mg base (L2.CX P w) 5 f fd ["book", "house"] (spHNo K C 0) := by
  refine D.F.okX sc_owed (fun vs H Q E h => ?_) (fun cdv A outer s H vs Q E hr h => ?_)
  · obtain ⟨b, ca, cl, ts, B, x, ys, rfl, hy, _⟩ := h
    rw [List.length_cons, List.length_cons, hy]
    rfl
  · obtain ⟨b, ca, cl, ts, B, x, ys, rfl, hy, A, G, hs, hb, k⟩ := h
    obtain rfl : ys = [] := List.eq_nil_of_length_eq_zero hy
    refine ⟨_, pss_cons (ps_expr (pe_callS GX_needh (hr.mono (by decide)) (by rfl) D_needh.g D_needh.F.kp D_needh.b (fun σ => passAt (takes_of rfl rfl rfl rfl) σ) (pa_cons (pv 0) (pa_cons (pv 1) pa_nil))))
        (pss_cons ps_never
        (pss_one ps_never)), ?_⟩
    exact ⟨_, rfl, _, rfl, b, ca, cl, ts, B, x, [], rfl, rfl, A, G, hs, hb, k⟩
theorem sc_felled : FnScope ["book", "house", "cash", "claims", "without", "already", "other"] ["book", "house"] (defScope s_felled) := ⟨rfl, rfl, rfl, by decide +kernel, rfl, by decide +kernel, by decide +kernel⟩
theorem ok_felledN {f : Addr} {fd : FuncData} (D : DefAt K mg "felled" s_felled ["book", "house"] f fd) {f1 : Addr} {fd1 : FuncData} (D_needh : DefAt K mg "need_house" s_needh ["book", "house"] f1 fd1) (GX_needh : FnOk P w K mg base (L2.CX P w) 4 f1 fd1 ["book", "house"] (spHNo K C 0)) : FnOk P w K mg base (L2.CX P w) 5 f fd ["book", "house"] (spHNo K C 0) := by
  refine D.F.okX sc_felled (fun vs H Q E h => ?_) (fun cdv A outer s H vs Q E hr h => ?_)
  · obtain ⟨b, ca, cl, ts, B, x, ys, rfl, hy, _⟩ := h
    rw [List.length_cons, List.length_cons, hy]
    rfl
  · obtain ⟨b, ca, cl, ts, B, x, ys, rfl, hy, A, G, hs, hb, k⟩ := h
    obtain rfl : ys = [] := List.eq_nil_of_length_eq_zero hy
    refine ⟨_, pss_cons (ps_expr (pe_callS GX_needh (hr.mono (by decide)) (by rfl) D_needh.g D_needh.F.kp D_needh.b (fun σ => passAt (takes_of rfl rfl rfl rfl) σ) (pa_cons (pv 0) (pa_cons (pv 1) pa_nil))))
        (pss_cons ps_never
        (pss_cons ps_never
        (pss_cons ps_never
        (pss_one ps_never)))), ?_⟩
    exact ⟨_, rfl, _, rfl, b, ca, cl, ts, B, x, [], rfl, rfl, A, G, hs, hb, k⟩
theorem sc_needs : FnScope ["book", "house", "cash", "_", "others", "payments", "means", "other"] ["book", "house"] (defScope s_needs) := ⟨rfl, rfl, rfl, by decide +kernel, rfl, by decide +kernel, by decide +kernel⟩
theorem ok_needsN {f : Addr} {fd : FuncData} (D : DefAt K mg "needs" s_needs ["book", "house"] f fd) {f1 : Addr} {fd1 : FuncData} (D_needh : DefAt K mg "need_house" s_needh ["book", "house"] f1 fd1) (GX_needh : FnOk P w K mg base (L2.CX P w) 4 f1 fd1 ["book", "house"] (spHNo K C 0)) : FnOk P w K mg base (L2.CX P w) 5 f fd ["book", "house"] (spHNo K C 0) := by
  refine D.F.okX sc_needs (fun vs H Q E h => ?_) (fun cdv A outer s H vs Q E hr h => ?_)
  · obtain ⟨b, ca, cl, ts, B, x, ys, rfl, hy, _⟩ := h
    rw [List.length_cons, List.length_cons, hy]
    rfl
  · obtain ⟨b, ca, cl, ts, B, x, ys, rfl, hy, A, G, hs, hb, k⟩ := h
    obtain rfl : ys = [] := List.eq_nil_of_length_eq_zero hy
    refine ⟨_, pss_cons (ps_expr (pe_callS GX_needh (hr.mono (by decide)) (by rfl) D_needh.g D_needh.F.kp D_needh.b (fun σ => passAt (takes_of rfl rfl rfl rfl) σ) (pa_cons (pv 0) (pa_cons (pv 1) pa_nil))))
        (pss_cons ps_never
        (pss_cons ps_never
        (pss_cons ps_never
        (pss_cons ps_never
        (pss_one ps_never))))), ?_⟩
    exact ⟨_, rfl, _, rfl, b, ca, cl, ts, B, x, [], rfl, rfl, A, G, hs, hb, k⟩

theorem ok_paidbyN {f : Addr} {fd : FuncData} (D : DefAt K mg "paid_by" s_paidby ["book", "house", "means"] f fd) {f1 : Addr} {fd1 : FuncData} (D_needh : DefAt K mg "need_house" s_needh ["book", "house"] f1 fd1) (GX_needh : FnOk P w K mg base (L2.CX P w) 4 f1 fd1 ["book", "house"] (spHNo K C 0)) : FnOk P w K mg base (L2.CX P w) 5 f fd ["book", "house", "means"] (spHNo K C 1) := by
  refine D.F.okX sc_paidby (fun vs H Q E h => ?_) (fun cdv A outer s H vs Q E hr h => ?_)
  · obtain ⟨b, ca, cl, ts, B, x, ys, rfl, hy, _⟩ := h
    rw [List.length_cons, List.length_cons, hy]
    rfl
  · obtain ⟨b, ca, cl, ts, B, x, ys, rfl, hy, A, G, hs, hb, k⟩ := h
    obtain ⟨y1, rfl⟩ : ∃ y1, ys = [y1] := by
      match ys, hy with
      | [y1], _ => exact ⟨y1, rfl⟩
    refine ⟨_, pss_cons (ps_expr (pe_callS GX_needh (hr.mono (by decide)) (by rfl) D_needh.g D_needh.F.kp D_needh.b (fun σ => passAt (takes_of rfl rfl rfl rfl) σ) (pa_cons (pv 0) (pa_cons (pv 1) pa_nil))))
        (pss_cons ps_never
        (pss_one ps_never)), ?_⟩
    exact ⟨_, rfl, _, rfl, b, ca, cl, ts, B, x, [], rfl, rfl, A, G, hs, hb, k⟩
theorem sc_merged : FnScope ["book", "one", "other", "cash", "claims", "lesser", "greater", "coins", "numbers", "kept", "debtor", "creditor", "amount", "rank", "together", "house"] ["book", "one", "other"] (defScope s_merged) := ⟨rfl, rfl, rfl, by decide +kernel, rfl, by decide +kernel, by decide +kernel⟩
theorem ok_mergedN {f : Addr} {fd : FuncData} (D : DefAt K mg "merged" s_merged ["book", "one", "other"] f fd) {f1 : Addr} {fd1 : FuncData} (D_needhs : DefAt K mg "need_houses" s_needhs ["book", "houses"] f1 fd1) (GX_needhs : FnOk P w K mg base (L2.CX P w) 3 f1 fd1 ["book", "houses"] (spHsNo K C)) : FnOk P w K mg base (L2.CX P w) 4 f fd ["book", "one", "other"] (spMNo K C) := by
  refine D.F.okX sc_merged (fun vs H Q E h => ?_) (fun cdv A outer s H vs Q E hr h => ?_)
  · obtain ⟨b, ca, cl, ts, B, x, y, rfl, _⟩ := h
    rfl
  · obtain ⟨b, ca, cl, ts, B, x, y, rfl, A, G, hx, hy, hb, k⟩ := h
    refine ⟨_, pss_cons (ps_expr (pe_callS GX_needhs (hr.mono (by decide)) (by rfl) D_needhs.g D_needhs.F.kp D_needhs.b (fun σ => passAt (takes_of rfl rfl rfl rfl) σ) (pa_cons (pv 0) (pa_cons (pe_lst (pa_cons (pv 1) (pa_cons (pv 2) pa_nil))) pa_nil))))
        (pss_cons ps_never
        (pss_cons ps_never
        (pss_cons ps_never
        (pss_cons ps_never
        (pss_cons ps_never
        (pss_cons ps_never
        (pss_cons ps_never
        (pss_cons ps_never
        (pss_cons ps_never
        (pss_cons ps_never
        (pss_cons ps_never
        (pss_one ps_never)))))))))))), ?_⟩
    refine ⟨_, rfl, _, rfl, _, rfl, by show 2 ≤ sizeLine; decide, fun p np => ⟨b, ca, cl, ts, B, p, [x, y], rfl, A.same (Same.new np), G, sq_of upd_same, fun z hz => ?_, ?_, fun H' s => k H' ((Same.new np).trans s)⟩⟩
    · rcases List.mem_cons.mp hz with e | e
      · rw [e]; exact hx
      · rw [List.mem_singleton.mp e]; exact hy
    · rcases hb with e | e
      · exact ⟨x, List.mem_cons_self, e⟩
      · exact ⟨y, List.mem_cons_of_mem _ List.mem_cons_self, e⟩
theorem sc_stilled : FnScope ["book", "picks", "play", "house", "least"] ["book", "picks"] (defScope s_stilled) := ⟨rfl, rfl, rfl, by decide +kernel, rfl, by decide +kernel, by decide +kernel⟩
theorem ok_stilledN {f : Addr} {fd : FuncData} (D : DefAt K mg "stilled" s_stilled ["book", "picks"] f fd) {f1 : Addr} {fd1 : FuncData} (D_needhs : DefAt K mg "need_houses" s_needhs ["book", "houses"] f1 fd1) (GX_needhs : FnOk P w K mg base (L2.CX P w) 3 f1 fd1 ["book", "houses"] (spHsNo K C)) : FnOk P w K mg base (L2.CX P w) 4 f fd ["book", "picks"] (spHsNo K C) := by
  refine D.F.okX sc_stilled (fun vs H Q E h => ?_) (fun cdv A outer s H vs Q E hr h => ?_)
  · obtain ⟨b, ca, cl, ts, B, l, xs, rfl, _⟩ := h
    rfl
  · obtain ⟨b, ca, cl, ts, B, l, xs, rfl, A, G, hx, hsm, hbad, k⟩ := h
    refine ⟨_, pss_cons (ps_expr (pe_callS GX_needhs (hr.mono (by decide)) (by rfl) D_needhs.g D_needhs.F.kp D_needhs.b (fun σ => passAt (takes_of rfl rfl rfl rfl) σ) (pa_cons (pv 0) (pa_cons (pv 1) pa_nil))))
        (pss_cons ps_never
        (pss_cons ps_never
        (pss_cons ps_never
        (pss_one ps_never)))), ?_⟩
    exact ⟨_, rfl, _, rfl, b, ca, cl, ts, B, l, xs, rfl, A, G, hx, hsm, hbad, k⟩

theorem ok_needpN {f : Addr} {fd : FuncData} (D : DefAt K mg "_need_payments" s_needp ["book", "payments"] f fd) (L : Lims mg) (m_len : mg "len" = none) (m_enumerate : mg "enumerate" = none)
    {f1 : Addr} {fd1 : FuncData} (D_wrong : DefAt K mg "_wrong_in_claim" s_wrong ["claim", "houses"] f1 fd1)
    {f2 : Addr} {fd2 : FuncData} (D_need : DefAt K mg "need_book" s_need ["book"] f2 fd2) (X_BadPayments : OwnAt K mg "BadPayments" C) : FnOk P w K mg base (L2.CX P w) 3 f fd ["book", "payments"] (spPNo K C) := by
  have G_need : FnOk P w K mg base CX0 2 f2 fd2 ["book"] (spNeed K) := ok_need D_need L m_len m_enumerate D_wrong
  refine D.F.okX sc_needp (fun vs H Q E h => ?_) (fun cdv A outer s H vs Q E hr h => ?_)
  · obtain ⟨b, ca, cl, ts, B, p, Py, rfl, _⟩ := h
    rfl
  · obtain ⟨b, ca, cl, ts, B, p, Py, rfl, A, G, hp, hl, hsm, hbad, k⟩ := h
    have lq : (ts.map V.ref).length = B.claims.length := by rw [List.length_map, A.hq.1]
    have m1 := G.m1
    refine ⟨_, pss_cons (ps_expr (pe_call G_need (hr.mono (by decide)) (by rfl) D_need.g D_need.F.kp D_need.b .nil pass0 (pa_cons (pv 0) pa_nil)))
        (pss_cons (ps_asg (pv 0) (pg_tup rfl (pgs_cons (pg_name (i := 2) sc_needp.nd rfl (.inl rfl)) (pgs_cons (pg_name (i := 3) sc_needp.nd rfl (.inl rfl)) pgs_nil))))
        (pss_cons (ps_if (pt_cmpR op_ne (pe_callB (r := rLen K) call_len (by rfl) m_len (by decide +kernel) (pa_cons (pv 1) pa_nil)) (pe_callB (r := rLen K) call_len (by rfl) m_len (by decide +kernel) (pa_cons (pv 3) pa_nil)) (nomark _)) (pss_one (ps_raise rfl (takes_of rfl rfl rfl rfl) (pmk_ownA PySem.F.excBase_ValueError X_BadPayments.q X_BadPayments.gC X_BadPayments.kC (raises_own X_BadPayments.eC X_BadPayments.tC) (by rfl) (pa_cons (pe_joined (PJ.cons (pe_fmt (pe_callB (r := rLen K) call_len (by rfl) m_len (by decide +kernel) (pa_cons (pv 1) pa_nil))) (PJ.cons pe_str (PJ.cons (pe_fmt (pe_callB (r := rLen K) call_len (by rfl) m_len (by decide +kernel) (pa_cons (pv 3) pa_nil))) (PJ.cons pe_str PJ.nil))))) pa_nil)))) pss_nil)
        (pss_one (ps_for (passes_of rfl) rfl (pi_enumT (by rfl) m_enumerate (pa_cons (pv 3) pa_nil)) (pg_tup rfl (pgs_cons (pg_name (i := 4) sc_needp.nd rfl (.inl rfl)) (pgs_cons (pg_tup rfl (pgs_cons (pg_name (i := 2) sc_needp.nd rfl (.inl rfl)) (pgs_cons (pg_name (i := 2) sc_needp.nd rfl (.inl rfl)) (pgs_cons (pg_name (i := 5) sc_needp.nd rfl (.inl rfl)) (pgs_cons (pg_name (i := 2) sc_needp.nd rfl (.inl rfl)) pgs_nil))))) pgs_nil))) (pss_one (ps_if (pt_not (pt_chain op_le op_le pe_int (pe_ix (r := rIxL K) ix_list (pv 1) (pv 4) (fun _ _ => rfl)) (pv 5))) (pss_one (ps_raise rfl (takes_of rfl rfl rfl rfl) (pmk_ownA PySem.F.excBase_ValueError X_BadPayments.q X_BadPayments.gC X_BadPayments.kC (raises_own X_BadPayments.eC X_BadPayments.tC) (by rfl) (pa_cons (pe_joined (PJ.cons (pe_fmt (pe_ix (r := rIxL K) ix_list (pv 1) (pv 4) (fun _ _ => rfl))) (PJ.cons pe_str (PJ.cons (pe_fmt (pv 4)) (PJ.cons pe_str (PJ.cons (pe_fmt (pv 5)) PJ.nil)))))) pa_nil)))) pss_nil)))))), ?_⟩
    refine sq_drop (fun H1 => Same H H1) (fun Q k => ⟨_, rfl, b, ca, cl, ts, B, rfl, A, G, fun H1 s1 => k _ H1 s1⟩) (fun H1 s1 => ?_)
    have A1 := A.same s1
    refine sq_tup2 (fun Q k => ⟨_, rfl, k⟩) A1.hb ?_
    have sm1 : Small64 (Py.length : Int) := small_of (by omega) (by omega)
    have sm2 : Small64 (B.claims.length : Int) := small_of (by omega) (by omega)
    have t1 := txt64 sm1
    have t2 := txt64 sm2
    have l1 : (" payments for " : Str).length = 14 := by decide +kernel
    have l2 : (" claims" : Str).length = 7 := by decide +kernel
    refine sq_whenP (p := Py.length ≠ B.claims.length) (fun Q k => ?_) (fun hne => ?_) (fun hne => ?_)
    · refine ⟨_, rfl, p, _, rfl, .inl (s1.seq hp), _, rfl, cl, _, rfl, .inr A1.hcl, rfl, _, rfl, ?_⟩
      have e : (!decide (V.int ((Py.map V.int).length : Int) = V.int ((ts.map V.ref).length : Int))) = decide (Py.length ≠ B.claims.length) := by
        rw [dec_vint, lq, List.length_map, ← decide_not]
        exact decide_eq_decide.mpr ⟨fun z => fun e => z (by rw [e]), fun z => fun e => z (by omega)⟩
      rw [e]
      exact k
    · refine ⟨_, rfl, p, _, rfl, .inl (s1.seq hp), .inr ⟨(Py.length : Int), by rw [List.length_map], log64 sm1, _, rfl, by rw [empty_len]; exact sz_of (by omega), _, rfl, by rw [app_len, empty_len, l1]; exact sz_of (by omega), _, rfl, cl, _, rfl, .inr A1.hcl, .inr ⟨(B.claims.length : Int), by rw [lq], log64 sm2, _, rfl, by rw [app_len, app_len, empty_len, l1]; exact sz_of (by omega), _, rfl, by rw [app_len, app_len, app_len, empty_len, l1, l2]; exact sz_of (by omega), by show 1 ≤ sizeLine; decide, k _ s1⟩⟩⟩
    have hlen : Py.length = B.claims.length := Classical.byContradiction hne
    refine last_for (sq_forET (xs := ts.map V.ref) (fun Q k => ⟨_, rfl, k⟩) A1.hcl
      (fun i σ' H' => Same H H' ∧ (∀ j, j < i → 0 ≤ g Py j ∧ g Py j ≤ amt B j) ∧ ∃ y3 y5 y6, σ' = [some (.ref b), some (.ref p), y3, some (.ref cl), y5, y6]) ⟨s1, fun j hj => absurd hj (Nat.not_lt_zero _), _, _, _, rfl⟩
      (fun i σ' H' _ hP => Same.tup hP.1 A.hcl) (fun i y T σ' H' hy hPv hT => ?_) (fun σ' H' hPv => ?_))
    · obtain ⟨s2, hpre, y3, y5, y6, rfl⟩ := hPv
      obtain ⟨t, rfl, ht⟩ := map_ref_get hy
      have hi : i < B.claims.length := by
        rw [← A.hq.1]
        exact (List.getElem?_eq_some_iff.mp ht).1
      have s23 := s2.trans (Same.new (o := .tup [.int (i : Int), .ref t]) hT)
      have hqt := Same.tup s23 (A.hq.2 i t _ ht (Bk.clm_get hi))
      have hT4 : (upd H' T (.tup [.int (i : Int), .ref t])) T = some (.tup [.int (i : Int), .ref t]) := upd_same
      generalize upd H' T (.tup [.int (i : Int), .ref t]) = H4 at s23 hqt hT4 ⊢
      have hi2 : i < Py.length := by omega
      refine ⟨T, _, rfl, st_of hT4, rfl, _, _, rfl, _, _, rfl, t, _, rfl, hqt, rfl, _, _, rfl, _, _, rfl, _, _, rfl, _, _, rfl, rfl, rfl, ?_⟩
      have hsx := hsm _ (g_mem hi2)
      have sx := txt64 hsx
      have si : Small64 (i : Int) := small_of (by omega) (by omega)
      have ti := txt64 si
      have ga := amt_pos G hi
      have sa : Small64 (B.clm i).a := small_of (by have : 1 ≤ (B.clm i).a := ga.1; omega) (by have : (B.clm i).a ≤ 999 := ga.2; omega)
      have ta := txt64 sa
      have l3 : (" coins for claim " : Str).length = 17 := by decide +kernel
      have l4 : (" of " : Str).length = 4 := by decide +kernel
      by_cases c1 : 0 ≤ g Py i
      · by_cases c2 : g Py i ≤ amt B i
        · exact ⟨_, rfl, _, rfl, p, _, _, _, rfl, rfl, s23.seq hp, atI_g rfl hi2, _, _, rfl, rfl, true, dec_t c1, iteT ⟨_, rfl, _, _, rfl, rfl, true, dec_t c2, iteF ⟨s23, fun j hj => by
            by_cases e : j < i
            · exact hpre j e
            · have : j = i := by omega
              subst this
              exact ⟨c1, c2⟩, _, _, _, rfl⟩⟩⟩
        · exact ⟨_, rfl, _, rfl, p, _, _, _, rfl, rfl, s23.seq hp, atI_g rfl hi2, _, _, rfl, rfl, true, dec_t c1, iteT ⟨_, rfl, _, _, rfl, rfl, false, dec_f c2, iteT
            ⟨_, rfl, _, rfl, p, _, _, _, rfl, rfl, s23.seq hp, atI_g rfl hi2, .inr ⟨_, rfl, log64 hsx, _, rfl, by rw [empty_len]; exact sz_of (by omega), _, rfl, by rw [app_len, empty_len, l3]; exact sz_of (by omega), _, rfl, .inr ⟨_, rfl, log64 si, _, rfl, by rw [app_len, app_len, empty_len, l3]; exact sz_of (by omega), _, rfl, by rw [app_len, app_len, app_len, empty_len, l3, l4]; exact sz_of (by omega), _, rfl, .inr ⟨_, rfl, log64 sa, _, rfl, by rw [app_len, app_len, app_len, app_len, empty_len, l3, l4]; exact sz_of (by omega), by show 1 ≤ sizeLine; decide, k _ s23⟩⟩⟩⟩⟩⟩
      · exact ⟨_, rfl, _, rfl, p, _, _, _, rfl, rfl, s23.seq hp, atI_g rfl hi2, _, _, rfl, rfl, false, dec_f c1, iteF ⟨_, rfl, iteT
            ⟨_, rfl, _, rfl, p, _, _, _, rfl, rfl, s23.seq hp, atI_g rfl hi2, .inr ⟨_, rfl, log64 hsx, _, rfl, by rw [empty_len]; exact sz_of (by omega), _, rfl, by rw [app_len, empty_len, l3]; exact sz_of (by omega), _, rfl, .inr ⟨_, rfl, log64 si, _, rfl, by rw [app_len, app_len, empty_len, l3]; exact sz_of (by omega), _, rfl, by rw [app_len, app_len, app_len, empty_len, l3, l4]; exact sz_of (by omega), _, rfl, .inr ⟨_, rfl, log64 sa, _, rfl, by rw [app_len, app_len, app_len, app_len, empty_len, l3, l4]; exact sz_of (by omega), by show 1 ≤ sizeLine; decide, k _ s23⟩⟩⟩⟩⟩⟩
    · obtain ⟨s2, hpre, _⟩ := hPv
      rw [lq] at hpre
      exact absurd ⟨hlen, fun j hj => (hpre j hj).1, fun j hj => (hpre j hj).2⟩ hbad

theorem ok_isclrN {f : Addr} {fd : FuncData} (D : DefAt K mg "is_clearing" s_isclr ["book", "payments"] f fd) {f1 : Addr} {fd1 : FuncData} (D_needp : DefAt K mg "_need_payments" s_needp ["book", "payments"] f1 fd1) (GX_needp : FnOk P w K mg base (L2.CX P w) 3 f1 fd1 ["book", "payments"] (spPNo K C)) : FnOk P w K mg base (L2.CX P w) 4 f fd ["book", "payments"] (spPNo K C) := by
  refine D.F.okX sc_isclr (fun vs H Q E h => ?_) (fun cdv A outer s H vs Q E hr h => ?_)
  · obtain ⟨b, ca, cl, ts, B, p, Py, rfl, _⟩ := h
    rfl
  · obtain ⟨b, ca, cl, ts, B, p, Py, rfl, A, G, hp, hl, hsm, hbad, k⟩ := h
    refine ⟨_, pss_cons (ps_expr (pe_callS GX_needp (hr.mono (by decide)) (by rfl) D_needp.g D_needp.F.kp D_needp.b (fun σ => passAt (takes_of rfl rfl rfl rfl) σ) (pa_cons (pv 0) (pa_cons (pv 1) pa_nil))))
        (pss_cons ps_never
        (pss_one ps_never)), ?_⟩
    exact ⟨_, rfl, _, rfl, b, ca, cl, ts, B, p, Py, rfl, A, G, hp, hl, hsm, hbad, k⟩

theorem ok_leftN {f : Addr} {fd : FuncData} (D : DefAt K mg "left" s_left ["book", "payments"] f fd) {f1 : Addr} {fd1 : FuncData} (D_needp : DefAt K mg "_need_payments" s_needp ["book", "payments"] f1 fd1) (GX_needp : FnOk P w K mg base (L2.CX P w) 3 f1 fd1 ["book", "payments"] (spPNo K C)) : FnOk P w K mg base (L2.CX P w) 4 f fd ["book", "payments"] (spPNo K C) := by
  refine D.F.okX sc_left (fun vs H Q E h => ?_) (fun cdv A outer s H vs Q E hr h => ?_)
  · obtain ⟨b, ca, cl, ts, B, p, Py, rfl, _⟩ := h
    rfl
  · obtain ⟨b, ca, cl, ts, B, p, Py, rfl, A, G, hp, hl, hsm, hbad, k⟩ := h
    refine ⟨_, pss_cons (ps_expr (pe_callS GX_needp (hr.mono (by decide)) (by rfl) D_needp.g D_needp.F.kp D_needp.b (fun σ => passAt (takes_of rfl rfl rfl rfl) σ) (pa_cons (pv 0) (pa_cons (pv 1) pa_nil))))
        (pss_cons ps_never
        (pss_cons ps_never
        (pss_cons ps_never
        (pss_one ps_never)))), ?_⟩
    exact ⟨_, rfl, _, rfl, b, ca, cl, ts, B, p, Py, rfl, A, G, hp, hl, hsm, hbad, k⟩
end


end Rf
namespace Rf
open PySem PySem.Spec PyProof.Rows L2
/-! ### the law asks for what isn't there -/
def spAsk (K : PySem.W.Frag) (CH CP : Addr) : Sp := fun vs H _ E => ∃ (way : Int) (b ca cl : Addr) (ts : List Addr) (B : Bk) (x : Int) (p : Addr) (Py : List Int), vs = [.int way, .ref b, .int x, .ref p] ∧ 0 ≤ way ∧ way < 9 ∧ BookAt K H b ca cl ts B ∧ Good B ∧ Small64 x ∧ ¬ (0 ≤ x ∧ x < B.cash.length) ∧
  SqL K H p (Py.map V.int) ∧ Py.length ≤ 1000 ∧ (∀ z ∈ Py, Small64 z) ∧ ¬ Pay B Py ∧ (way ≤ 6 → ∀ H', Same H H' → E (.ref CH) none H') ∧ (6 < way → ∀ H', Same H H' → E (.ref CP) none H')
def spKind (K : PySem.W.Frag) : Sp := fun vs H Q _ => ∃ (way : Int) (b ca cl : Addr) (ts : List Addr) (B : Bk) (x : Int) (p : Addr) (Py : List Int), vs = [.int way, .ref b, .int x, .ref p] ∧ 0 ≤ way ∧ way < 9 ∧ BookAt K H b ca cl ts B ∧ Good B ∧ Small64 x ∧ ¬ (0 ≤ x ∧ x < B.cash.length) ∧
  SqL K H p (Py.map V.int) ∧ Py.length ≤ 1000 ∧ (∀ z ∈ Py, Small64 z) ∧ ¬ Pay B Py ∧ ∀ H', Same H H' → Q (.str (if way ≤ 6 then "house" else "payments")) H'
section
variable {P : Program} {w : World} {K : PySem.W.Frag} {mg : Str → Option Value} {base : Heap} {CH CP : Addr}
theorem sc_ask : FnScope ["_law_way", "_law_book_here", "_law_house", "_law_payments"] ["_law_way", "_law_book_here", "_law_house", "_law_payments"] (defScope s_ask) := ⟨rfl, rfl, rfl, by decide +kernel, rfl, by decide +kernel, by decide +kernel⟩
/- 0:_law_way 1:_law_book_here 2:_law_house 3:_law_payments -/
theorem ok_ask {f : Addr} {fd : FuncData} (D : DefAt K mg "_law_ask" s_ask ["_law_way", "_law_book_here", "_law_house", "_law_payments"] f fd)
    {f0 : Addr} {fd0 : FuncData} (D_owed : DefAt K mg "owed" s_owed ["book", "house"] f0 fd0) (GX_owed : FnOk P w K mg base (L2.CX P w) 8 f0 fd0 ["book", "house"] (spHNo K CH 0))
    {f1 : Addr} {fd1 : FuncData} (D_felled : DefAt K mg "felled" s_felled ["book", "house"] f1 fd1) (GX_felled : FnOk P w K mg base (L2.CX P w) 8 f1 fd1 ["book", "house"] (spHNo K CH 0))
    {f2 : Addr} {fd2 : FuncData} (D_needs : DefAt K mg "needs" s_needs ["book", "house"] f2 fd2) (GX_needs : FnOk P w K mg base (L2.CX P w) 8 f2 fd2 ["book", "house"] (spHNo K CH 0))
    {f3 : Addr} {fd3 : FuncData} (D_paidby : DefAt K mg "paid_by" s_paidby ["book", "house", "means"] f3 fd3) (GX_paidby : FnOk P w K mg base (L2.CX P w) 8 f3 fd3 ["book", "house", "means"] (spHNo K CH 1))
    {f4 : Addr} {fd4 : FuncData} (D_merged : DefAt K mg "merged" s_merged ["book", "one", "other"] f4 fd4) (GX_merged : FnOk P w K mg base (L2.CX P w) 8 f4 fd4 ["book", "one", "other"] (spMNo K CH))
    {f5 : Addr} {fd5 : FuncData} (D_stilled : DefAt K mg "stilled" s_stilled ["book", "picks"] f5 fd5) (GX_stilled : FnOk P w K mg base (L2.CX P w) 8 f5 fd5 ["book", "picks"] (spHsNo K CH))
    {f6 : Addr} {fd6 : FuncData} (D_left : DefAt K mg "left" s_left ["book", "payments"] f6 fd6) (GX_left : FnOk P w K mg base (L2.CX P w) 8 f6 fd6 ["book", "payments"] (spPNo K CP))
    {f7 : Addr} {fd7 : FuncData} (D_isclr : DefAt K mg "is_clearing" s_isclr ["book", "payments"] f7 fd7) (GX_isclr : FnOk P w K mg base (L2.CX P w) 8 f7 fd7 ["book", "payments"] (spPNo K CP))
    : FnOk P w K mg base (L2.CX P w) 9 f fd ["_law_way", "_law_book_here", "_law_house", "_law_payments"] (spAsk K CH CP) := by
  refine D.F.okX sc_ask (fun vs H Q E h => ?_) (fun cdv A outer s H vs Q E hr h => ?_)
  · obtain ⟨way, b, ca, cl, ts, B, x, p, Py, rfl, _⟩ := h
    rfl
  · obtain ⟨way, b, ca, cl, ts, B, x, p, Py, rfl, w0, w1, A, G, hx, hb, hp, hpl, hps, hpn, k1, k2⟩ := h
    have n0 := G.n0
    have s0 : Small64 0 := small_of (by decide) (by decide)
    refine ⟨_, pss_cons (ps_if (pt_cmpR op_lt (pv 0) pe_int (nomark _)) (pss_one (ps_ret (pe_callE (k := 8) (sp := spHNo K CH 0) (pe_ix (r := rIxL K) ix_list (pe_lst (pa_cons (pe_glob (v := .ref _) (by rfl) D_owed.g rfl) (pa_cons (pe_glob (v := .ref _) (by rfl) D_felled.g rfl) (pa_cons (pe_glob (v := .ref _) (by rfl) D_needs.g rfl) pa_nil)))) (pv 0) (fun _ _ => rfl)) (hr.mono (by decide)) (takes_of rfl rfl rfl rfl) (pa_cons (pv 1) (pa_cons (pv 2) pa_nil))))) pss_nil)
        (pss_cons (ps_if (pt_cmpR op_eq (pv 0) pe_int (nomark _)) (pss_one (ps_ret (pe_callS GX_paidby (hr.mono (by decide)) (by rfl) D_paidby.g D_paidby.F.kp D_paidby.b (fun σ => passAt (takes_of rfl rfl rfl rfl) σ) (pa_cons (pv 1) (pa_cons (pv 2) (pa_cons pe_int pa_nil)))))) pss_nil)
        (pss_cons (ps_if (pt_cmpR op_lt (pv 0) pe_int (nomark _)) (pss_one (ps_ret (pe_callS GX_merged (hr.mono (by decide)) (by rfl) D_merged.g D_merged.F.kp D_merged.b (fun σ => passAt (takes_of rfl rfl rfl rfl) σ) (pa_cons (pv 1) (pa_cons (pe_ix (r := rIxL K) ix_list (pe_lst (pa_cons pe_int (pa_cons (pv 2) pa_nil))) (pe_op op_sub (pv 0) pe_int) (fun _ _ => rfl)) (pa_cons (pe_ix (r := rIxL K) ix_list (pe_lst (pa_cons (pv 2) (pa_cons pe_int pa_nil))) (pe_op op_sub (pv 0) pe_int) (fun _ _ => rfl)) pa_nil)))))) pss_nil)
        (pss_cons (ps_if (pt_cmpR op_eq (pv 0) pe_int (nomark _)) (pss_one (ps_ret (pe_callS GX_stilled (hr.mono (by decide)) (by rfl) D_stilled.g D_stilled.F.kp D_stilled.b (fun σ => passAt (takes_of rfl rfl rfl rfl) σ) (pa_cons (pv 1) (pa_cons (pe_lst (pa_cons pe_int (pa_cons pe_int (pa_cons (pv 2) pa_nil)))) pa_nil))))) pss_nil)
        (pss_one (ps_ret (pe_callE (k := 8) (sp := spPNo K CP) (pe_ix (r := rIxL K) ix_list (pe_lst (pa_cons (pe_glob (v := .ref _) (by rfl) D_left.g rfl) (pa_cons (pe_glob (v := .ref _) (by rfl) D_isclr.g rfl) pa_nil))) (pe_op op_sub (pv 0) pe_int) (fun _ _ => rfl)) (hr.mono (by decide)) (takes_of rfl rfl rfl rfl) (pa_cons (pv 1) (pa_cons (pv 3) pa_nil)))))))), ?_⟩
    refine sq_whenP (p := way < 3) (fun Q k => ⟨_, rfl, _, _, rfl, rfl, _, rfl, k⟩) (fun c => ?_) (fun c => ?_)
    · have k3 := k1 (by omega)
      have : way = 0 ∨ way = 1 ∨ way = 2 := by omega
      rcases this with rfl | rfl | rfl
      · exact ⟨by show 3 ≤ sizeLine; decide, fun l nl => ⟨_, rfl, l, _, _, _, rfl, rfl, sq_of upd_same, atI_nat (j := 0) rfl, f0, rfl, ⟨_, _, GX_owed, D_owed.F.kp, D_owed.b⟩, _, rfl, _, rfl, b, ca, cl, ts, B, x, [], rfl, rfl, A.same (Same.new nl), G, hx, hb, fun H' s => k3 H' ((Same.new nl).trans s)⟩⟩
      · exact ⟨by show 3 ≤ sizeLine; decide, fun l nl => ⟨_, rfl, l, _, _, _, rfl, rfl, sq_of upd_same, atI_nat (j := 1) rfl, f1, rfl, ⟨_, _, GX_felled, D_felled.F.kp, D_felled.b⟩, _, rfl, _, rfl, b, ca, cl, ts, B, x, [], rfl, rfl, A.same (Same.new nl), G, hx, hb, fun H' s => k3 H' ((Same.new nl).trans s)⟩⟩
      · exact ⟨by show 3 ≤ sizeLine; decide, fun l nl => ⟨_, rfl, l, _, _, _, rfl, rfl, sq_of upd_same, atI_nat (j := 2) rfl, f2, rfl, ⟨_, _, GX_needs, D_needs.F.kp, D_needs.b⟩, _, rfl, _, rfl, b, ca, cl, ts, B, x, [], rfl, rfl, A.same (Same.new nl), G, hx, hb, fun H' s => k3 H' ((Same.new nl).trans s)⟩⟩
    refine sq_whenP (p := way = 3) (fun Q k => ⟨_, rfl, rfl, _, rfl, by rw [dec_vint]; exact k⟩) (fun c => ?_) (fun c => ?_)
    · exact ⟨_, rfl, _, rfl, b, ca, cl, ts, B, x, [.int 5], rfl, rfl, A, G, hx, hb, k1 (by omega)⟩
    refine sq_whenP (p := way < 6) (fun Q k => ⟨_, rfl, _, _, rfl, rfl, _, rfl, k⟩) (fun c => ?_) (fun c => ?_)
    · have k3 := k1 (by omega)
      have : way = 4 ∨ way = 5 := by omega
      rcases this with rfl | rfl
      · exact ⟨_, rfl, _, rfl, by show 2 ≤ sizeLine; decide, fun l nl => ⟨_, rfl, _, _, rfl, rfl, l, _, _, _, rfl, rfl, sq_of upd_same, atI_nat (j := 0) rfl, _, rfl, by show 2 ≤ sizeLine; decide, fun l2 n2 => ⟨_, rfl, _, _, rfl, rfl, l2, _, _, _, rfl, rfl, sq_of upd_same, atI_nat (j := 0) rfl, b, ca, cl, ts, B, 0, x, rfl, (A.same (Same.new nl)).same (Same.new n2), G, s0, hx, .inr hb, fun H' s => k3 H' (((Same.new nl).trans (Same.new n2)).trans s)⟩⟩⟩
      · exact ⟨_, rfl, _, rfl, by show 2 ≤ sizeLine; decide, fun l nl => ⟨_, rfl, _, _, rfl, rfl, l, _, _, _, rfl, rfl, sq_of upd_same, atI_nat (j := 1) rfl, _, rfl, by show 2 ≤ sizeLine; decide, fun l2 n2 => ⟨_, rfl, _, _, rfl, rfl, l2, _, _, _, rfl, rfl, sq_of upd_same, atI_nat (j := 1) rfl, b, ca, cl, ts, B, x, 0, rfl, (A.same (Same.new nl)).same (Same.new n2), G, hx, s0, .inl hb, fun H' s => k3 H' (((Same.new nl).trans (Same.new n2)).trans s)⟩⟩⟩
    refine sq_whenP (p := way = 6) (fun Q k => ⟨_, rfl, rfl, _, rfl, by rw [dec_vint]; exact k⟩) (fun c => ?_) (fun c => ?_)
    · have k3 := k1 (by omega)
      exact ⟨_, rfl, _, rfl, by show 3 ≤ sizeLine; decide, fun l nl => ⟨b, ca, cl, ts, B, l, [0, 0, x], rfl, A.same (Same.new nl), G, sq_of upd_same, fun z hz => by
        rcases List.mem_cons.mp hz with e | e
        · rw [e]; exact s0
        · rcases List.mem_cons.mp e with e | e
          · rw [e]; exact s0
          · rw [List.mem_singleton.mp e]; exact hx, ⟨x, List.mem_cons_of_mem _ (List.mem_cons_of_mem _ List.mem_cons_self), hb⟩, fun H' s => k3 H' ((Same.new nl).trans s)⟩⟩
    have k3 := k2 (by omega)
    have : way = 7 ∨ way = 8 := by omega
    rcases this with rfl | rfl
    · exact ⟨by show 2 ≤ sizeLine; decide, fun l nl => ⟨_, rfl, _, _, rfl, rfl, l, _, _, _, rfl, rfl, sq_of upd_same, atI_nat (j := 0) rfl, f6, rfl, ⟨_, _, GX_left, D_left.F.kp, D_left.b⟩, _, rfl, _, rfl, b, ca, cl, ts, B, p, Py, rfl, A.same (Same.new nl), G, (Same.new nl).seq hp, hpl, hps, hpn, fun H' s => k3 H' ((Same.new nl).trans s)⟩⟩
    · exact ⟨by show 2 ≤ sizeLine; decide, fun l nl => ⟨_, rfl, _, _, rfl, rfl, l, _, _, _, rfl, rfl, sq_of upd_same, atI_nat (j := 1) rfl, f7, rfl, ⟨_, _, GX_isclr, D_isclr.F.kp, D_isclr.b⟩, _, rfl, _, rfl, b, ca, cl, ts, B, p, Py, rfl, A.same (Same.new nl), G, (Same.new nl).seq hp, hpl, hps, hpn, fun H' s => k3 H' ((Same.new nl).trans s)⟩⟩
theorem sc_kind : FnScope ["_law_way", "_law_book_here", "_law_house", "_law_payments", "e", "_law_kinds"] ["_law_way", "_law_book_here", "_law_house", "_law_payments"] (defScope s_kind) := ⟨rfl, rfl, rfl, by decide +kernel, rfl, by decide +kernel, by decide +kernel⟩
/- 0:_law_way 1:_law_book_here 2:_law_house 3:_law_payments 4:e 5:_law_kinds -/
theorem ok_kind {f : Addr} {fd : FuncData} (D : DefAt K mg "_law_kind" s_kind ["_law_way", "_law_book_here", "_law_house", "_law_payments"] f fd) {f1 : Addr} {fd1 : FuncData} (D_ask : DefAt K mg "_law_ask" s_ask ["_law_way", "_law_book_here", "_law_house", "_law_payments"] f1 fd1) (GX_ask : FnOk P w K mg base (L2.CX P w) 9 f1 fd1 ["_law_way", "_law_book_here", "_law_house", "_law_payments"] (spAsk K CH CP))
    {C1 C2 C3 CF : Addr} (X_FallError : OwnAt K mg "FallError" CF) (X_NoHouse : OwnAt K mg "NoHouse" CH) (X_BadPayments : OwnAt K mg "BadPayments" CP) (X_BadBook : ClsIs mg "BadBook" C1) (X_BadText : ClsIs mg "BadText" C2) (X_NoMove : ClsIs mg "NoMove" C3)
    (m_isinstance : mg "isinstance" = none) (m_ValueError : mg "ValueError" = none) (TH : ExcC K CH) (TP : ExcC K CP) (hexH : PySem.W.exmOne K (.ref CH) (.ref CF) = some true) (hexP : PySem.W.exmOne K (.ref CP) (.ref CF) = some true)
    (aH : PySem.W.kitAny K (.ref CH) [.ref C1, .ref C2, .ref C3] = some false) (aP : PySem.W.kitAny K (.ref CP) [.ref C1, .ref C2, .ref C3] = some false) (vH : PySem.W.kitOne K (.ref CH) (.type "ValueError") = some true) (vP : PySem.W.kitOne K (.ref CP) (.type "ValueError") = some true)
    (hh : PySem.W.kitOne K (.ref CH) (.ref CH) = some true) (hp' : PySem.W.kitOne K (.ref CH) (.ref CP) = some false) (ph : PySem.W.kitOne K (.ref CP) (.ref CH) = some false) (pp : PySem.W.kitOne K (.ref CP) (.ref CP) = some true) : FnOk P w K mg base CX0 10 f fd ["_law_way", "_law_book_here", "_law_house", "_law_payments"] (spKind K) := by
  refine D.F.ok sc_kind (fun vs H Q E h => ?_) (fun cdv A outer s H vs Q E hr h => ?_)
  · obtain ⟨way, b, ca, cl, ts, B, x, p, Py, rfl, _⟩ := h
    rfl
  · obtain ⟨way, b, ca, cl, ts, B, x, p, Py, rfl, w0, w1, A0, G, hx, hb, hp, hpl, hps, hpn, k⟩ := h
    refine ⟨_, pss_cons (ps_try_as (i := 4) rfl rfl sc_kind.nd rfl rfl ⟨rfl, by decide, .inl X_FallError.gC⟩ takes0
      (fun W pn xe tk _ => (pss_one (ps_expr (pe_callS GX_ask (hr.mono (by decide)) (by rfl) D_ask.g D_ask.F.kp D_ask.b (fun σ => passAt tk σ) (pa_cons (pv 0) (pa_cons (pv 1) (pa_cons (pv 2) (pa_cons (pv 3) pa_nil))))))))
      (fun a oe cls d pn hz hf => (pss_cons (ps_set (i := 5) sc_kind.nd rfl (.inl rfl) (pe_lst (pa_cons (pe_callB (r := rIsX K a cls d) (call_isX hz hf) (by rfl) m_isinstance (by decide +kernel) (pa_cons (pv 4) (pa_cons (pe_glob (v := .ref _) (by rfl) X_NoHouse.gC rfl) pa_nil))) (pa_cons (pe_callB (r := rIsX K a cls d) (call_isX hz hf) (by rfl) m_isinstance (by decide +kernel) (pa_cons (pv 4) (pa_cons (pe_glob (v := .ref _) (by rfl) X_BadPayments.gC rfl) pa_nil))) pa_nil))))
            (pss_cons (ps_if (PW.pt (pw_or (pt_val (pe_callB (r := rIsX K a cls d) (call_isX hz hf) (by rfl) m_isinstance (by decide +kernel) (pa_cons (pv 4) (pa_cons (pe_tup (pa_cons (pe_glob (v := .ref _) (by rfl) X_BadBook.gC rfl) (pa_cons (pe_glob (v := .ref _) (by rfl) X_BadText.gC rfl) (pa_cons (pe_glob (v := .ref _) (by rfl) X_NoMove.gC rfl) pa_nil)))) pa_nil)))) (pw_or (pt_not (pt_val (pe_callB (r := rIsX K a cls d) (call_isX hz hf) (by rfl) m_isinstance (by decide +kernel) (pa_cons (pv 4) (pa_cons (pe_bltn (v := .ty "ValueError") (by rfl) m_ValueError (by decide +kernel) rfl) pa_nil))))) (pw_or1 (pt_cmpR op_ne (pe_bmS (K := K) (apos := ⟨281, 89, 281, 105⟩) (cpos := ⟨281, 89, 281, 111⟩) (X := Cx.suite (cxOf CX0 P w K mg base ["_law_way", "_law_book_here", "_law_house", "_law_payments", "e", "_law_kinds"] "_law_kind" (defScope s_kind) f cdv A outer s H E).nox a ((a, oe) :: pn)) PySem.F.plainAttrs_list PySem.F.slot_list_count PySem.F.type_list_count (r := rCount K) mt_countF (pv 5) (pa_cons pe_bl pa_nil)) pe_int (nomark _)))))) (pss_one (ps_ret pe_str)) pss_nil)
            (pss_one (ps_ret (pe_ix (r := rIxL _) ix_list (pe_lst (pa_cons pe_str (pa_cons pe_str pa_nil))) (pe_bmS (K := K) (apos := ⟨283, 37, 283, 53⟩) (cpos := ⟨283, 37, 283, 59⟩) (X := Cx.suite (cxOf CX0 P w K mg base ["_law_way", "_law_book_here", "_law_house", "_law_payments", "e", "_law_kinds"] "_law_kind" (defScope s_kind) f cdv A outer s H E).nox a ((a, oe) :: pn)) PySem.F.plainAttrs_list PySem.F.slot_list_index PySem.F.type_list_index (r := rIndex _) mt_index (pv 5) (pa_cons pe_bl pa_nil)) (fun _ _ => rfl))))))))
        (pss_one (ps_ret pe_str)), ?_⟩
    refine ⟨_, rfl, _, rfl, _, rfl, _, rfl, way, b, ca, cl, ts, B, x, p, Py, rfl, w0, w1, A0, G, hx, hb, hp, hpl, hps, hpn, fun c H1 s1 => ?_, fun c H1 s1 => ?_⟩
    · rw [if_pos c] at k
      refine ⟨true, hexH, fun _ a0 na => ?_, fun q => nomatch q⟩
      refine sq_new (.lst [.bl true, .bl false]) (fun Q k => ⟨_, rfl, CH, .ref CH, true, rfl, rfl, TH, .inl rfl, .inl ⟨.ref CH, fun u r => r, hh⟩, _, rfl, CH, .ref CP, false, rfl, rfl, TH, .inl rfl, .inl ⟨.ref CP, fun u r => r, hp'⟩, by show 2 ≤ sizeLine; decide, fun l nl => k l _ nl (Same.new nl) upd_same⟩) (fun l H2 nl s2 hl => ?_)
      refine sq_no (fun H3 => Same H2 H3) (fun Q k => ?_) (fun H3 s3 => ?_)
      · refine ⟨_, rfl, by show 3 ≤ sizeLine; decide, fun t nt => ?_⟩
        have s3 : Same H2 (upd H2 t (.tup [.ref C1, .ref C2, .ref C3])) := Same.new nt
        refine ⟨CH, .ref t, false, rfl, rfl, TH, .inl rfl, .inr ⟨t, [C1, C2, C3], rfl, upd_same, aH⟩, _, rfl, iteF ?_⟩
        refine ⟨_, rfl, CH, .ty "ValueError", true, rfl, rfl, TH, .inl rfl, .inl ⟨.type "ValueError", fun u r => r, vH⟩, _, rfl, iteF ?_⟩
        exact ⟨_, rfl, .inl ⟨rfl, _, sq_of (s3 _ _ hl)⟩, l, _, .bl true, rfl, rfl, sq_of (s3 _ _ hl), rfl, rfl, rfl, _, rfl, k _ s3⟩
      exact ⟨by show 2 ≤ sizeLine; decide, fun l2 n2 => ⟨_, rfl, .inl ⟨rfl, _, sq_of (Same.new n2 _ _ (s3 _ _ hl))⟩, l, _, .bl true, 0, _, rfl, rfl, sq_of (Same.new n2 _ _ (s3 _ _ hl)), rfl, rfl, rfl, rfl, fun m z' hm => absurd hm (Nat.not_lt_zero _), l2, _, _, _, rfl, rfl, sq_of upd_same, atI_nat (j := 0) rfl, k _ (((s1.trans s2).trans s3).trans (Same.new n2))⟩⟩
    · rw [if_neg (by omega)] at k
      refine ⟨true, hexP, fun _ a0 na => ?_, fun q => nomatch q⟩
      refine sq_new (.lst [.bl false, .bl true]) (fun Q k => ⟨_, rfl, CP, .ref CH, false, rfl, rfl, TP, .inl rfl, .inl ⟨.ref CH, fun u r => r, ph⟩, _, rfl, CP, .ref CP, true, rfl, rfl, TP, .inl rfl, .inl ⟨.ref CP, fun u r => r, pp⟩, by show 2 ≤ sizeLine; decide, fun l nl => k l _ nl (Same.new nl) upd_same⟩) (fun l H2 nl s2 hl => ?_)
      refine sq_no (fun H3 => Same H2 H3) (fun Q k => ?_) (fun H3 s3 => ?_)
      · refine ⟨_, rfl, by show 3 ≤ sizeLine; decide, fun t nt => ?_⟩
        have s3 : Same H2 (upd H2 t (.tup [.ref C1, .ref C2, .ref C3])) := Same.new nt
        refine ⟨CP, .ref t, false, rfl, rfl, TP, .inl rfl, .inr ⟨t, [C1, C2, C3], rfl, upd_same, aP⟩, _, rfl, iteF ?_⟩
        refine ⟨_, rfl, CP, .ty "ValueError", true, rfl, rfl, TP, .inl rfl, .inl ⟨.type "ValueError", fun u r => r, vP⟩, _, rfl, iteF ?_⟩
        exact ⟨_, rfl, .inl ⟨rfl, _, sq_of (s3 _ _ hl)⟩, l, _, .bl true, rfl, rfl, sq_of (s3 _ _ hl), rfl, rfl, rfl, _, rfl, k _ s3⟩
      exact ⟨by show 2 ≤ sizeLine; decide, fun l2 n2 => ⟨_, rfl, .inl ⟨rfl, _, sq_of (Same.new n2 _ _ (s3 _ _ hl))⟩, l, _, .bl true, 1, _, rfl, rfl, sq_of (Same.new n2 _ _ (s3 _ _ hl)), rfl, rfl, rfl, rfl, fun m z' hm hz => by
        have : m = 0 := by omega
        subst this
        cases hz
        rfl, l2, _, _, _, rfl, rfl, sq_of upd_same, atI_nat (j := 1) rfl, k _ (((s1.trans s2).trans s3).trans (Same.new n2))⟩⟩
end


end Rf
namespace Rf
open PySem PySem.Spec PyProof.Rows L2
def spLaw (K : PySem.W.Frag) : Sp := fun vs H Q _ => ∃ (a : Addr) (ns : List Int), vs = [.ref a] ∧ SqL K H a (ns.map V.int) ∧ ns.length ≤ 63 ∧ ∀ H', Q (.bl true) H'
/-! ### payments that are none -/
structure BadP (B : Bk) (P : List Int) : Prop where
  len : P.length ≤ 1000
  small : ∀ z ∈ P, Small64 z
  not : ¬ Pay B P
theorem pay_small {B : Bk} (G : Good B) {P : List Int} (h : Pay B P) : ∀ z ∈ P, Small64 z := fun z hz => by
  obtain ⟨i, hi, e⟩ := mem_g hz
  rw [h.len] at hi
  have q1 := h.lo i hi
  have q2 := h.hi i hi
  have q3 := (G.clm hi).a1
  unfold amt at q2
  exact small_of (by omega) (by omega)
theorem bad_len {B : Bk} {P : List Int} (hl : P.length ≤ 1000) (hs : ∀ z ∈ P, Small64 z) (h : P.length ≠ B.claims.length) : BadP B P := ⟨hl, hs, fun z => h z.len⟩
theorem bad_at {B : Bk} (G : Good B) {P : List Int} {j : Nat} {v : Int} (h : Pay B P) (hj : j < B.claims.length) (hv : Small64 v) (hn : ¬ (0 ≤ v ∧ v ≤ amt B j)) : BadP B (P.set j v) := by
  have m1 := G.m1
  refine ⟨by rw [List.length_set, h.len]; omega, fun z hz => ?_, fun z => hn ?_⟩
  · rcases List.mem_or_eq_of_mem_set hz with q | q
    · exact pay_small G h z q
    · rw [q]
      exact hv
  · have q1 := z.lo j hj
    have q2 := z.hi j hj
    rw [g_set_same (by rw [h.len]; exact hj)] at q1 q2
    exact ⟨q1, q2⟩
def BadsAt (B : Bk) (h c : Addr) (bs : List Addr) (H : Hp) : Prop := ∀ p ∈ bs, ¬ isHC h c p ∧ ∃ P, H p = some (.lst (P.map V.int)) ∧ BadP B P
theorem BadsAt.same {B : Bk} {h c : Addr} {bs : List Addr} {H H' : Hp} (q : BadsAt B h c bs H) (s : Same H H') : BadsAt B h c bs H' := fun p hp => by
  obtain ⟨n, P, h1, h2⟩ := q p hp
  exact ⟨n, P, s _ _ h1, h2⟩
theorem ref_at {bs : List Addr} {j : Nat} (h : j < bs.length) : ∃ p, p ∈ bs ∧ (bs.map V.ref)[j]? = some (.ref p) := ⟨bs[j], List.getElem_mem h, by rw [List.getElem?_map, List.getElem?_eq_getElem h]; rfl⟩
/-- a list cut; two lists joined -/
theorem slL_of {K : PySem.W.Frag} {H : Hp} {a : Addr} {xs : List V} {lo hi : Option Int} {Q : VK} (h : H a = some (.lst xs)) (k : ∀ p H', H p = none → Same H H' → H' p = some (.lst (cutV xs lo hi)) → Q (.ref p) H') : rSlL K (.ref a) lo hi H Q := ⟨a, xs, rfl, sq_of h, fun p np => k p _ np (Same.new np) upd_same⟩
theorem slL_up {K : PySem.W.Frag} {σ : L2.St} {H : Hp} {a : Addr} {xs : List V} {lo : Option Int} {Q : VK} (h : H a = some (.lst xs)) (k : ∀ p H', H p = none → Same H H' → H' p = some (.lst (cutV xs lo none)) → Q (.ref p) H') : tNoPart σ H fun u H3 => rSlL K (.ref a) lo u H3 Q := slL_of h k
theorem catL_of {H : Hp} {a b : Addr} {xs ys : List V} {Q : VK} (h1 : H a = some (.lst xs)) (h2 : H b = some (.lst ys)) (hl : xs.length + ys.length ≤ sizeLine) (k : ∀ p H', H p = none → Same H H' → H' p = some (.lst (xs ++ ys)) → Q (.ref p) H') : rCat (.ref a) (.ref b) H Q := ⟨a, b, xs, ys, rfl, rfl, h1, h2, hl, fun p np => k p _ np (Same.new np) upd_same⟩
section
variable {P : Program} {w : World} {K : PySem.W.Frag} {mg : Str → Option Value} {base : Heap}
theorem sc_law : FnScope ["_law_script", "_law_h", "_law_book_here", "_law_far", "_law_house", "_law_good", "_law_bad", "_law_at", "_law_payments", "_law_kept", "_law_way", "_law_claim"] ["_law_script"] (defScope s_law) := ⟨rfl, rfl, rfl, by decide +kernel, rfl, by decide +kernel, by decide +kernel⟩
/- 0:_law_script 1:_law_h 2:_law_book_here 3:_law_far 4:_law_house 5:_law_good 6:_law_bad 7:_law_at 8:_law_payments 9:_law_kept 10:_law_way 11:_law_claim -/
theorem law_body {f : Addr} {fd : FuncData} (D : DefAt K mg "law" s_law ["_law_script"] f fd) (m_range : mg "range" = none) (m_list : mg "list" = none) (m_len : mg "len" = none) (m_int : mg "int" = none) (m_isinstance : mg "isinstance" = none) (m_bool : mg "bool" = none)
    {f1 : Addr} {fd1 : FuncData} (D_next : DefAt K mg "_law_next" s_next ["_law_h", "_law_many"] f1 fd1) (G_next : FnOk P w K mg base CX0 1 f1 fd1 ["_law_h", "_law_many"] spNext)
    {f2 : Addr} {fd2 : FuncData} (D_lbook : DefAt K mg "_law_book" s_lbook ["_law_h", "_law_houses", "_law_claims", "_law_wide"] f2 fd2) (G_lbook : FnOk P w K mg base CX0 2 f2 fd2 ["_law_h", "_law_houses", "_law_claims", "_law_wide"] (spLBook K))
    {f3 : Addr} {fd3 : FuncData} (D_kind : DefAt K mg "_law_kind" s_kind ["_law_way", "_law_book_here", "_law_house", "_law_payments"] f3 fd3) (G_kind : FnOk P w K mg base CX0 10 f3 fd3 ["_law_way", "_law_book_here", "_law_house", "_law_payments"] (spKind K))
    {f4 : Addr} {fd4 : FuncData} (D_isclr : DefAt K mg "is_clearing" s_isclr ["book", "payments"] f4 fd4) (G_isclr : FnOk P w K mg base CX0 10 f4 fd4 ["book", "payments"] (spIsClr K))
    {f5 : Addr} {fd5 : FuncData} (D_left : DefAt K mg "left" s_left ["book", "payments"] f5 fd5) (G_left : FnOk P w K mg base CX0 10 f5 fd5 ["book", "payments"] (spLeft K))
    {f6 : Addr} {fd6 : FuncData} (D_owed : DefAt K mg "owed" s_owed ["book", "house"] f6 fd6) (G_owed : FnOk P w K mg base CX0 10 f6 fd6 ["book", "house"] (spOwed K)) : FnOk P w K mg base CX0 21 f fd ["_law_script"] (spLaw K) := by
  refine D.F.ok sc_law (fun vs H Q E h => ?_) (fun cdv A outer s H vs Q E hr h => ?_)
  · obtain ⟨a, ns, rfl, _⟩ := h
    rfl
  · obtain ⟨a, ns, rfl, ha, hns, k⟩ := h
    refine ⟨_, pss_cons (ps_set (i := 1) sc_law.nd rfl (.inr rfl) (pe_lst (pa_cons pe_int (pa_cons (pe_callTy (r := rListOf K) call_listOf (by rfl) m_list (by decide +kernel) (pa_cons (pv 0) pa_nil)) (pa_cons pe_int pa_nil)))))
        (pss_cons (ps_set (i := 2) sc_law.nd rfl (.inl rfl) (pe_call G_lbook (hr.mono (by decide)) (by rfl) D_lbook.g D_lbook.F.kp D_lbook.b .nil pass0 (pa_cons (pv 1) (pa_cons pe_int (pa_cons pe_int (pa_cons pe_int pa_nil))))))
        (pss_cons (ps_set (i := 3) sc_law.nd rfl (.inl rfl) (pe_call G_next (hr.mono (by decide)) (by rfl) D_next.g D_next.F.kp D_next.b .nil pass0 (pa_cons (pv 1) (pa_cons pe_int pa_nil))))
        (pss_cons (ps_set (i := 4) sc_law.nd rfl (.inl rfl) (pe_ix (r := rIxL K) ix_list (pe_lst (pa_cons (pe_op op_add (pe_callB (r := rLen K) call_len (by rfl) m_len (by decide +kernel) (pa_cons (pe_ix (r := rIxT K) ix_tup (pv 2) pe_int (fun _ _ => rfl)) pa_nil)) (pv 3)) (pa_cons (pe_op op_sub (pe_un un_neg pe_int) (pv 3)) pa_nil))) (pe_call G_next (hr.mono (by decide)) (by rfl) D_next.g D_next.F.kp D_next.b .nil pass0 (pa_cons (pv 1) (pa_cons pe_int pa_nil))) (fun _ _ => rfl)))
        (pss_cons (ps_setLc (i := 5) (own := [("_law_claim", 11)]) (g := gName 11) (tt := tYes) (by rfl) sc_law.nd rfl rfl (sw_true rfl rfl rfl (by decide +kernel)) (pi_tup (pe_ix (r := rIxT K) ix_tup (pv 2) pe_int (fun _ _ => rfl))) (blkOk_by (own := [("_law_claim", 11)]) (N := ["_law_script", "_law_h", "_law_book_here", "_law_far", "_law_house", "_law_good", "_law_bad", "_law_at", "_law_payments", "_law_kept", "_law_way", "_law_claim"]) (sc := defScope s_law) (by decide +kernel)) (fun _ _ _ _ _ => (pg_name (i := 11) sc_law.nd rfl (.inl rfl))) (fun _ _ _ _ _ => pts_nil) (fun _ _ _ _ _ => (pe_call G_next (hr.mono (by decide)) (by rfl) D_next.g D_next.F.kp D_next.b .nil pass0 (pa_cons (pv 1) (pa_cons (pe_op op_add (pe_ix (r := rIxT K) ix_tup (pv 11) pe_int (fun _ _ => rfl)) pe_int) pa_nil)))))
        (pss_cons (ps_set (i := 6) sc_law.nd rfl (.inl rfl) (pe_lst (pa_cons (pe_op op_cat (pv 5) (pe_lst (pa_cons pe_int pa_nil))) (pa_cons (pe_op op_rep (pe_lst (pa_cons pe_int pa_nil)) (pe_op op_add (pe_op op_add (pe_callB (r := rLen K) call_len (by rfl) m_len (by decide +kernel) (pa_cons (pv 5) pa_nil)) pe_int) (pe_call G_next (hr.mono (by decide)) (by rfl) D_next.g D_next.F.kp D_next.b .nil pass0 (pa_cons (pv 1) (pa_cons pe_int pa_nil))))) pa_nil))))
        (Evl.pss_cut (ps_if (pt_cmpR (op_neD hr.units) (pv 5) (pe_lst pa_nil) (nomark _)) (pss_cons (ps_set (i := 7) sc_law.nd rfl (.inl rfl) (pe_call G_next (hr.mono (by decide)) (by rfl) D_next.g D_next.F.kp D_next.b .nil pass0 (pa_cons (pv 1) (pa_cons (pe_callB (r := rLen K) call_len (by rfl) m_len (by decide +kernel) (pa_cons (pv 5) pa_nil)) pa_nil))))
          (pss_cons (ps_set (i := 6) sc_law.nd rfl (.inl rfl) (pe_op op_cat (pv 6) (pe_lst (pa_cons (pe_slice sl_list (pv 5) (po_some pe_int) po_none) (pa_cons (pe_op op_cat (pe_op op_cat (pe_slice sl_list (pv 5) po_none (po_some (pv 7))) (pe_lst (pa_cons (pe_op op_sub (pe_un un_neg pe_int) (pv 3)) pa_nil))) (pe_slice sl_list (pv 5) (po_some (pe_op op_add (pv 7) pe_int)) po_none)) pa_nil)))))
          (pss_one (ps_expr (pe_bm PySem.F.plainAttrs_list PySem.F.slot_list_append PySem.F.type_list_append mt_append (pv 6) (pa_cons (pe_op op_cat (pe_op op_cat (pe_slice sl_list (pv 5) po_none (po_some (pv 7))) (pe_lst (pa_cons (pe_op op_add (pe_op op_add (pe_ix (r := rIxT K) ix_tup (pe_ix (r := rIxT K) ix_tup (pe_ix (r := rIxT K) ix_tup (pv 2) pe_int (fun _ _ => rfl)) (pv 7) (fun _ _ => rfl)) pe_int (fun _ _ => rfl)) pe_int) (pv 3)) pa_nil))) (pe_slice sl_list (pv 5) (po_some (pe_op op_add (pv 7) pe_int)) po_none)) pa_nil)))))) pss_nil)
        (pss_cons (ps_set (i := 8) sc_law.nd rfl (.inl rfl) (pe_ix (r := rIxL K) ix_list (pv 6) (pe_call G_next (hr.mono (by decide)) (by rfl) D_next.g D_next.F.kp D_next.b .nil pass0 (pa_cons (pv 1) (pa_cons (pe_callB (r := rLen K) call_len (by rfl) m_len (by decide +kernel) (pa_cons (pv 6) pa_nil)) pa_nil))) (fun _ _ => rfl)))
        (pss_cons (ps_set (i := 9) sc_law.nd rfl (.inl rfl) (pe_callTy (r := rListOf K) call_listOf (by rfl) m_list (by decide +kernel) (pa_cons (pv 8) pa_nil)))
        (pss_cons (ps_for PassesOwn.never rfl (pi_range1 (by rfl) m_range (pa_cons pe_int pa_nil)) (pg_name (i := 10) sc_law.nd rfl (.inl rfl)) (pss_one (ps_if (pt_cmpR op_ne (pe_call G_kind (hr.mono (by decide)) (by rfl) D_kind.g D_kind.F.kp D_kind.b .nil pass0 (pa_cons (pv 10) (pa_cons (pv 2) (pa_cons (pv 4) (pa_cons (pv 8) pa_nil))))) (pe_ix (r := rIxL K) ix_list (pe_lst (pa_cons pe_str (pa_cons pe_str pa_nil))) (pe_callTy call_int1 (by rfl) m_int (by decide +kernel) (pa_cons (pe_cmpR op_gt (pv 10) pe_int (nomark _)) pa_nil)) (fun _ _ => rfl)) (nomark _)) (pss_one (ps_ret pe_bl)) pss_nil)))
        (pss_cons (ps_if (PW.pt (pw_or (pt_cmpR (op_neD hr.units) (pv 8) (pv 9) (nomark _)) (pw_or1 (pt_cmpR op_isBl (pe_callB (r := rIsi K) call_isi (by rfl) m_isinstance (by decide +kernel) (pa_cons (pe_call G_isclr (hr.mono (by decide)) (by rfl) D_isclr.g D_isclr.F.kp D_isclr.b .nil pass0 (pa_cons (pv 2) (pa_cons (pv 5) pa_nil))) (pa_cons (pe_bltn (v := .ty "bool") (by rfl) m_bool (by decide +kernel) rfl) pa_nil))) pe_bl (nomark _))))) (pss_one (ps_ret pe_bl)) pss_nil)
        (pss_one (ps_ret (pe_and (pe_cmpR op_eq (pe_callB (r := rLen K) call_len (by rfl) m_len (by decide +kernel) (pa_cons (pe_call G_left (hr.mono (by decide)) (by rfl) D_left.g D_left.F.kp D_left.b .nil pass0 (pa_cons (pv 2) (pa_cons (pv 5) pa_nil))) pa_nil)) (pe_callB (r := rLen K) call_len (by rfl) m_len (by decide +kernel) (pa_cons (pe_ix (r := rIxT K) ix_tup (pv 2) pe_int (fun _ _ => rfl)) pa_nil)) (nomark _)) (pe_one (pe_cmpR op_ge (pe_call G_owed (hr.mono (by decide)) (by rfl) D_owed.g D_owed.F.kp D_owed.b .nil pass0 (pa_cons (pv 2) (pa_cons pe_int pa_nil))) pe_int (nomark _)))))))))))))))), ?_⟩
    refine sq_set (fun v H1 => ∃ h c, v = .ref h ∧ RngAt H1 h c) (fun Q k => ⟨_, rfl, a, _, rfl, .inl ha, fun c nc => ⟨by show 3 ≤ sizeLine; decide, fun h nh => k _ _ ⟨h, c, rfl, rng_start nc nh hns (by decide) (by decide)⟩⟩⟩) (fun v H1 hv => ?_)
    obtain ⟨h, c, rfl, R⟩ := hv
    refine sq_set (fun v H2 => ∃ b ca cl ts B, v = .ref b ∧ Good B ∧ RngAt H2 h c ∧ BookAt K H2 b ca cl ts B) (fun Q k => ⟨_, rfl, h, c, 8, 24, 20, rfl, R, by decide, by decide, by decide, by decide, by decide, by decide, fun b ca cl ts B H' G _ _ _ _ _ F A => k _ _ ⟨b, ca, cl, ts, B, rfl, G, F.rng, A⟩⟩) (fun v H2 hv => ?_)
    obtain ⟨b, ca, cl, ts, B, rfl, G, R2, A2⟩ := hv
    have n0 := G.n0
    have n1 := G.n1
    have m1 := G.m1
    have lc : (B.cash.map V.int).length = B.cash.length := List.length_map _
    have lq : (ts.map V.ref).length = B.claims.length := by rw [List.length_map, A2.hq.1]
    refine sq_set (fun v H3 => Fr h c H2 H3 ∧ ∃ y : Int, v = .int y ∧ 0 ≤ y ∧ y < 1000000) (fun Q k => ⟨_, rfl, h, c, 1000000, rfl, R2, by decide, by decide, fun r H3 r0 r1 R3 o3 => k _ _ ⟨⟨o3, R3⟩, r, rfl, r0, r1⟩⟩) (fun v H3 hv => ?_)
    obtain ⟨F3, far, rfl, far0, far1⟩ := hv
    have A3 := Fr.book R2 F3 A2
    refine sq_set (fun v H4 => Fr h c H2 H4 ∧ ∃ x : Int, v = .int x ∧ Small64 x ∧ ¬ (0 ≤ x ∧ x < B.cash.length)) (fun Q k => ?_) (fun v H4 hv => ?_)
    · refine ⟨_, rfl, b, _, 0, _, rfl, rfl, A3.hb, atI_nat (j := 0) rfl, ca, _, rfl, .inr A3.hca, _, rfl, _, _, rfl, rfl, 1, rfl, _, rfl, _, _, rfl, rfl, by show 2 ≤ sizeLine; decide, fun l nl => ⟨_, rfl, h, c, 2, rfl, F3.rng.same (Same.new nl), by decide, by decide, fun r H4 r0 r1 R4 o4 => ?_⟩⟩
      have hl := o4 l _ upd_same (F3.rng.fresh nl)
      have F4 := (F3.same (Same.new nl)).trans ⟨o4, R4⟩
      have : r = 0 ∨ r = 1 := by omega
      rcases this with rfl | rfl
      · exact ⟨l, _, _, _, rfl, rfl, sq_of hl, atI_nat (j := 0) rfl, k _ _ ⟨F4, _, rfl, small_of (by omega) (by omega), by omega⟩⟩
      · exact ⟨l, _, _, _, rfl, rfl, sq_of hl, atI_nat (j := 1) rfl, k _ _ ⟨F4, _, rfl, small_of (by omega) (by omega), by omega⟩⟩
    obtain ⟨F4, x, rfl, hx, hxn⟩ := hv
    have A4 := Fr.book R2 F4 A2
    -- good
    refine sq_set (fun v H5 => Fr h c H4 H5 ∧ ∃ (gd : Addr) (S : List Int), v = .ref gd ∧ H4 gd = none ∧ H5 gd = some (.lst (S.map V.int)) ∧ Pay B S) (fun Q k => ?_) (fun v H5 hv => ?_)
    · refine ⟨_, rfl, b, _, 1, _, rfl, rfl, A4.hb, atI_nat (j := 1) rfl, cl, rfl, ⟨_, A4.hcl⟩, fun d nd => ?_⟩
      have nhd := F4.rng.fresh nd
      refine lc_tup (xs := ts.map V.ref) (fun j H' => Fr h c H4 H' ∧ ∃ S : List Int, H' d = some (.lst (S.map V.int)) ∧ S.length = j ∧ ∀ i, i < j → 0 ≤ g S i ∧ g S i ≤ amt B i) ⟨(Fr.refl F4.rng).new nd, [], upd_same, rfl, fun i hi => absurd hi (Nat.not_lt_zero _)⟩ (fun j H' _ hP => tup_off F4.rng hP.1.off A4.hcl) (fun j y H' hy hP => ?_) (fun H' hP => ?_)
      · obtain ⟨F, S, hd, hl, hb⟩ := hP
        obtain ⟨t, rfl, ht⟩ := map_ref_get hy
        have hj : j < B.claims.length := by
          rw [← A4.hq.1]
          exact (List.getElem?_eq_some_iff.mp ht).1
        have hq := (Fr.book F4.rng F A4).hq.2 j t _ ht (Bk.clm_get hj)
        have b1 := (G.clm hj).a0
        have b2 := (G.clm hj).a1
        refine ⟨rfl, _, rfl, _, rfl, t, _, 2, _, rfl, rfl, hq, atI_nat (j := 2) rfl, _, _, rfl, rfl, h, c, _, rfl, F.rng, by omega, by omega, fun r Hb r0 r1 Rb ob => ⟨_, ob d _ hd nhd, ?_, (F.trans ⟨ob, Rb⟩).mut nd nhd, S ++ [r], ?_, ?_, fun i hi2 => ?_⟩⟩
        · rw [List.length_map]
          exact sz_lt (by omega)
        · rw [upd_same, List.map_append]
          rfl
        · rw [List.length_append, hl]
          rfl
        · by_cases e : i < j
          · have q := hb i e
            rw [g_app_left (by omega)]
            exact q
          · have e2 : i = j := by omega
            subst e2
            rw [g_app_last hl.symm]
            unfold amt
            omega
      · obtain ⟨F, S, hd, hl, hb⟩ := hP
        have hl2 : S.length = B.claims.length := by omega
        exact k _ _ ⟨F, d, S, rfl, nd, hd, hl2, fun i hi => (hb i (by omega)).1, fun i hi => (hb i (by omega)).2⟩
    obtain ⟨F5, gd, S, rfl, ngd, hgd, hS⟩ := hv
    have A5 := Fr.book F4.rng F5 A4
    have nhgd := F4.rng.fresh ngd
    have hSl := hS.len
    have hSm : (S.map V.int).length = B.claims.length := by rw [List.length_map, hSl]
    have hSs := pay_small G hS
    -- bad
    refine sq_set (fun v H6 => Fr h c H5 H6 ∧ ∃ (bd : Addr) (bs : List Addr), v = .ref bd ∧ H6 bd = some (.lst (bs.map V.ref)) ∧ bs.length = 2 ∧ BadsAt B h c bs H6 ∧ ¬ isHC h c bd) (fun Q k => ?_) (fun v H6 hv => ?_)
    · refine ⟨_, rfl, by show 1 ≤ sizeLine; decide, fun l1 nl1 => ⟨gd, l1, _, _, rfl, rfl, Same.new nl1 _ _ hgd, upd_same, ?_, fun p1 np1 => ⟨by show 1 ≤ sizeLine; decide, fun l2 nl2 => ?_⟩⟩⟩
      · rw [hSm]
        exact sz_of (by simp; omega)
      · have s1 : Same H5 (upd (upd (upd H5 l1 (.lst [V.int 0])) p1 (.lst (S.map V.int ++ [V.int 0]))) l2 (.lst [V.int 0])) := ((Same.new nl1).trans (Same.new np1)).trans (Same.new nl2)
        have hp1 : (upd (upd (upd H5 l1 (.lst [V.int 0])) p1 (.lst (S.map V.int ++ [V.int 0]))) l2 (.lst [V.int 0])) p1 = some (.lst ((S ++ [0]).map V.int)) := Same.new nl2 _ _ (by rw [upd_same, List.map_append]; rfl)
        have hl2 : (upd (upd (upd H5 l1 (.lst [V.int 0])) p1 (.lst (S.map V.int ++ [V.int 0]))) l2 (.lst [V.int 0])) l2 = some (.lst [V.int 0]) := upd_same
        have fp1 : H5 p1 = none := (Fr.refl F5.rng).same (Same.new nl1) |>.free np1
        have fl2 : H5 l2 = none := ((Fr.refl F5.rng).same ((Same.new nl1).trans (Same.new np1))).free nl2
        generalize (upd (upd (upd H5 l1 (.lst [V.int 0])) p1 (.lst (S.map V.int ++ [V.int 0]))) l2 (.lst [V.int 0])) = H7 at s1 hp1 hl2 ⊢
        refine ⟨_, rfl, gd, _, rfl, .inl (sq_of (s1 _ _ hgd)), _, _, rfl, rfl, _, rfl, h, c, 3, rfl, F5.rng.same s1, by decide, by decide, fun r Hb r0 r1 Rb ob => ⟨_, _, rfl, rfl, ?_⟩⟩
        have hl2b := ob _ _ hl2 (F5.rng.fresh fl2)
        have hp1b := ob _ _ hp1 (F5.rng.fresh fp1)
        have F6 := ((Fr.refl F5.rng).same s1).trans ⟨ob, Rb⟩
        refine ⟨l2, _, _, rfl, rfl, hl2b, by omega, by omega, ?_, fun p2 np2 => ⟨by show 2 ≤ sizeLine; decide, fun l3 nl3 => k _ _ ⟨(F6.same (Same.new np2)).same (Same.new nl3), l3, [p1, p2], rfl, upd_same, rfl, ?_, ?_⟩⟩⟩
        · rw [hSm]
          exact sz_of (by simp; omega)
        · intro p hp
          rcases List.mem_cons.mp hp with e | e
          · subst e
            refine ⟨F5.rng.fresh fp1, _, Same.new nl3 _ _ (Same.new np2 _ _ hp1b), bad_len ?_ (fun z hz => ?_) ?_⟩
            · rw [List.length_append, hSl]
              simp
              omega
            · rcases List.mem_append.mp hz with q | q
              · exact hSs z q
              · rw [List.mem_singleton.mp q]
                exact small_of (by decide) (by decide)
            · rw [List.length_append, hSl]
              simp
          · have e := List.mem_singleton.mp e
            subst e
            refine ⟨F6.rng.fresh np2, List.replicate (((S.map V.int).length : Int) + 1 + r).toNat 0, Same.new nl3 _ _ ?_, bad_len ?_ (fun z hz => ?_) ?_⟩
            · rw [upd_same, List.map_replicate, List.flatten_replicate_singleton]
            · rw [List.length_replicate, hSm]
              omega
            · rw [List.eq_of_mem_replicate hz]
              exact small_of (by decide) (by decide)
            · rw [List.length_replicate, hSm]
              omega
        · exact (F6.same (Same.new np2)).rng.fresh nl3
    obtain ⟨F6, bd, bs, rfl, hbd, hbl, hbs, nhbd⟩ := hv
    have hgd6 := F6.get hgd nhgd
    have A6 := Fr.book F5.rng F6 A5
    refine sq_cut (fun σ' H7 => Fr h c H6 H7 ∧ ∃ (bd : Addr) (bs : List Addr) (y : Option V), σ' = [some (.ref a), some (.ref h), some (.ref b), some (.int far), some (.int x), some (.ref gd), some (.ref bd), y, none, none, none, none] ∧ H7 bd = some (.lst (bs.map V.ref)) ∧ 1 ≤ bs.length ∧ bs.length ≤ 5 ∧ BadsAt B h c bs H7 ∧ ¬ isHC h c bd) ?_ (fun σ' H7 hM => ?_)
    · refine ⟨_, rfl, Nat.zero_le _, fun l nl => ⟨dInts S, dInts [], dp_ints (sq_of (Same.new nl _ _ hgd6)), dp_ints (l := []) (sq_of upd_same), sh_ints, sh_ints, _, rfl, ?_⟩⟩
      have F7 := (Fr.refl F6.rng).same (Same.new (o := .lst []) nl)
      have hgd7 := Same.new (o := .lst []) nl _ _ hgd6
      have hbd7 := Same.new (o := .lst []) nl _ _ hbd
      have hbs7 := hbs.same (Same.new (o := .lst []) nl)
      have A7 := A6.same (Same.new (o := .lst []) nl)
      generalize upd H6 l (.lst []) = H7 at F7 hgd7 hbd7 hbs7 A7 ⊢
      rw [eqv_ints]
      refine ite2 (fun hc => ?_) (fun _ => ⟨F7, bd, bs, none, rfl, hbd7, by omega, by omega, hbs7, nhbd⟩)
      have hne : S ≠ [] := fun z => by rw [z] at hc; simp at hc
      have h0 : 0 < S.length := List.length_pos_iff.mpr hne
      refine sq_set (fun v H8 => Fr h c H7 H8 ∧ ∃ j : Nat, v = .int (j : Int) ∧ j < S.length) (fun Q k => ⟨_, rfl, _, rfl, gd, _, rfl, .inl (sq_of hgd7), h, c, _, rfl, F7.rng, by omega, by omega, fun r H8 r0 r1 R8 o8 => k _ _ ⟨⟨o8, R8⟩, r.toNat, by rw [Int.toNat_of_nonneg r0], by omega⟩⟩) (fun v H8 hv => ?_)
      obtain ⟨F8, j, rfl, hj⟩ := hv
      have hjc : j < B.claims.length := by omega
      have hgd8 := F8.get hgd7 nhgd
      have hbd8 := F8.get hbd7 nhbd
      have A8 := Fr.book F7.rng F8 A7
      have q8 := A8.hq
      have cl8 := G.clm hjc
      have ca0 := cl8.a0
      have ca1 := cl8.a1
      have lS : ∀ v : Int, (cutV (S.map V.int) none (some (j : Int))).length + [V.int v].length ≤ sizeLine := fun v => by
        rw [cut_front hj, List.length_map, List.length_take]
        exact sz_of (by show _ + 1 ≤ _; omega)
      have lS2 : ∀ v : Int, (cutV (S.map V.int) none (some (j : Int)) ++ [V.int v]).length + (cutV (S.map V.int) (some ((j : Int) + 1)) none).length ≤ sizeLine := fun v => by
        rw [cut_front hj, cut_rest hj, List.length_append, List.length_map, List.length_map, List.length_take, List.length_drop]
        exact sz_of (by show _ + 1 + _ ≤ _; omega)
      have eS : ∀ v : Int, cutV (S.map V.int) none (some (j : Int)) ++ [V.int v] ++ cutV (S.map V.int) (some ((j : Int) + 1)) none = (S.set j v).map V.int := fun v => by
        rw [cut_front hj, cut_rest hj, ← set_parts hj, List.map_append, List.map_append]
        rfl
      have eT : cutV (S.map V.int) (some 1) none = (S.drop 1).map V.int := cut_rest (j := 0) (by omega)
      refine sq_set (fun v H9 => Same H8 H9 ∧ ∃ (bd : Addr) (bs : List Addr), v = .ref bd ∧ H8 bd = none ∧ H9 bd = some (.lst (bs.map V.ref)) ∧ bs.length = 4 ∧ BadsAt B h c bs H9 ∧ ¬ isHC h c bd) (fun Q k => ?_) (fun v H9 hv => ?_)
      · refine ⟨_, rfl, _, rfl, 1, rfl, slL_up hgd8 fun p1 H9 f1 s9 h1 => ⟨_, rfl, _, rfl, (j : Int), rfl, slL_of (s9 _ _ hgd8) fun p2 Ha f2 sa h2 => ⟨1, rfl, _, rfl, _, _, rfl, rfl, by show 1 ≤ sizeLine; decide, fun p3 n3 => catL_of (Same.new n3 _ _ h2) upd_same (lS _) fun p4 Hb f4 sb h4 => ⟨_, rfl, _, rfl, _, _, rfl, rfl, (j : Int) + 1, rfl, slL_up (sb _ _ (Same.new n3 _ _ (sa _ _ (s9 _ _ hgd8)))) fun p5 Hc f5 sc h5 => catL_of (sc _ _ h4) h5 (lS2 _) fun p6 Hd f6 sd h6 => ⟨by show 2 ≤ sizeLine; decide, fun p7 n7 => ?_⟩⟩⟩⟩⟩
        have t := s9.trans (sa.trans ((Same.new n3).trans (sb.trans (sc.trans (sd.trans (Same.new (o := .lst [.ref p1, .ref p6]) n7))))))
        have g6 := Same.new (o := .lst [.ref p1, .ref p6]) n7 _ _ h6
        have g1 := (sa.trans ((Same.new n3).trans (sb.trans (sc.trans (sd.trans (Same.new (o := .lst [.ref p1, .ref p6]) n7)))))) _ _ h1
        have f6' := (s9.trans (sa.trans ((Same.new n3).trans (sb.trans sc))))
        have F9 := F8.same t
        refine catL_of (t _ _ hbd8) upd_same ?_ fun p8 He f8 se h8 => k _ _ ⟨t.trans se, p8, bs ++ [p1, p6], rfl, ((Fr.refl F8.rng).same t).free f8, by rw [h8, List.map_append]; rfl, by rw [List.length_append, hbl]; rfl, fun p hp => ?_, F9.rng.fresh f8⟩
        · rw [List.length_map]
          exact sz_of (by show _ + 2 ≤ _; omega)
        · rcases List.mem_append.mp hp with q | q
          · obtain ⟨n, S', e1, e2⟩ := hbs7 p q
            exact ⟨n, S', (t.trans se) _ _ (F8.get e1 n), e2⟩
          · rcases List.mem_cons.mp q with q | q
            · subst q
              refine ⟨F8.rng.fresh f1, S.drop 1, se _ _ (by rw [g1, eT]), bad_len ?_ (fun z hz => hSs z (List.mem_of_mem_drop hz)) ?_⟩
              · rw [List.length_drop]
                omega
              · rw [List.length_drop]
                omega
            · have q := List.mem_singleton.mp q
              subst q
              exact ⟨(F8.rng.same f6').fresh f6, S.set j (-1 - far), se _ _ (by rw [g6]; exact congrArg (fun z => some (HO.lst z)) (eS _)), bad_at G hS hjc (small_of (by omega) (by omega)) (by omega)⟩
      obtain ⟨s9, bd, bs, rfl, nbd8, hbd9, hbl9, hbs9, nhbd9⟩ := hv
      have hgd9 := s9 _ _ hgd8
      have A9 := A8.same s9
      obtain ⟨t, ht, hq⟩ := A9.get hjc
      refine ⟨_, rfl, .inl ⟨rfl, _, sq_of hbd9⟩, _, rfl, _, rfl, (j : Int), rfl, slL_of hgd9 fun p2 Ha f2 sa h2 => ⟨_, rfl, b, _, 1, _, rfl, rfl, (A9.same sa).hb, atI_nat (j := 1) rfl, _, rfl, cl, _, (j : Int), .ref t, rfl, rfl, (A9.same sa).hcl, atI_nat (by rw [List.getElem?_map, ht]; rfl), t, _, 2, _, rfl, rfl, Same.tup sa hq, atI_nat (j := 2) rfl, _, _, rfl, rfl, _, rfl, _, _, rfl, rfl, by show 1 ≤ sizeLine; decide, fun p3 n3 => catL_of (Same.new n3 _ _ h2) upd_same (lS _) fun p4 Hb f4 sb h4 => ⟨_, rfl, _, rfl, _, _, rfl, rfl, (j : Int) + 1, rfl, slL_up (sb _ _ (Same.new n3 _ _ (sa _ _ hgd9))) fun p5 Hc f5 sc h5 => catL_of (sc _ _ h4) h5 (lS2 _) fun p6 Hd f6 sd h6 => ?_⟩⟩⟩
      have u := sa.trans ((Same.new n3).trans (sb.trans sc))
      have u2 := u.trans sd
      have ne : p6 ≠ bd := (ne_of_none (u _ _ hbd9) f6).symm
      refine ⟨bd, _, _, rfl, rfl, u2 _ _ hbd9, by rw [List.length_map, hbl9]; decide, ?_⟩
      have F9 := F8.same (s9.trans u2)
      have e0 : upd Hd bd (.lst (bs.map V.ref ++ [.ref p6])) bd = some (.lst ((bs ++ [p6]).map V.ref)) := by
        rw [upd_same, List.map_append]
        rfl
      have key : ∀ (p : Addr) (S' : List Int), Hd p = some (.lst (S'.map V.int)) → (upd Hd bd (.lst (bs.map V.ref ++ [.ref p6]))) p = some (.lst (S'.map V.int)) := fun p S' e => by
        have n : p ≠ bd := fun z => by
          rw [z, u2 _ _ hbd9] at e
          have e2 : bs.map V.ref = S'.map V.int := by
            have := Option.some.inj e
            injection this
          cases bs with
          | nil => simp at hbl9
          | cons x xs =>
            cases S' with
            | nil => cases e2
            | cons y ys => cases e2
        rw [upd_ne n]
        exact e
      refine ⟨(F7.trans F9).mut ((F7.trans F8).free nbd8) nhbd9, bd, bs ++ [p6], _, rfl, e0, by rw [List.length_append]; omega, by rw [List.length_append, hbl9]; exact Nat.le_refl _, fun p hp => ?_, nhbd9⟩
      rcases List.mem_append.mp hp with q | q
      · obtain ⟨n, S', e1, e2⟩ := hbs9 p q
        exact ⟨n, S', key _ _ (u2 _ _ e1), e2⟩
      · have q := List.mem_singleton.mp q
        subst q
        refine ⟨(F8.same (s9.trans u)).rng.fresh f6, S.set j (amt B j + 1 + far), key _ _ (by rw [h6]; exact congrArg (fun z => some (HO.lst z)) (eS _)), bad_at G hS hjc ?_ ?_⟩
        · unfold amt
          exact small_of (by omega) (by omega)
        · omega
    obtain ⟨F7, bd, bs, y7, rfl, hbd, hb1, hb2, hbs, nhbd⟩ := hM
    have hgd7 := F7.get hgd6 nhgd
    have A7 := Fr.book F6.rng F7 A6
    refine sq_set (fun v H8 => Fr h c H7 H8 ∧ ∃ (p : Addr) (S : List Int), v = .ref p ∧ H8 p = some (.lst (S.map V.int)) ∧ BadP B S) (fun Q k => ?_) (fun v H8 hv => ?_)
    · have hlb : (bs.map V.ref).length = bs.length := List.length_map _
      refine ⟨_, rfl, _, rfl, _, rfl, bd, _, rfl, .inl (sq_of hbd), h, c, _, rfl, F7.rng, by omega, by omega, fun r Hb r0 r1 Rb ob => ?_⟩
      have hbdb := ob _ _ hbd nhbd
      obtain ⟨p, hp, hpa⟩ := ref_at (bs := bs) (j := r.toNat) (by omega)
      obtain ⟨hpb, S', h1, h2⟩ := hbs p hp
      exact ⟨bd, _, r, _, rfl, rfl, sq_of hbdb, by
        have e : r = ((r.toNat : Nat) : Int) := by omega
        rw [e]
        exact atI_nat hpa, k _ _ ⟨⟨ob, Rb⟩, p, S', rfl, ob _ _ h1 hpb, h2⟩⟩
    obtain ⟨F8, p, S', rfl, hp, hP⟩ := hv
    have hgd8 := F8.get hgd7 nhgd
    have A8 := Fr.book F7.rng F8 A7
    refine sq_new (.lst (S'.map V.int)) (fun Q k => ⟨_, rfl, p, _, rfl, .inl (sq_of hp), fun l nl => k l _ nl (Same.new nl) upd_same⟩) (fun kp H9 nkp s9 hkp => ?_)
    have A9 := A8.same s9
    have hp9 := s9 _ _ hp
    have hgd9 := s9 _ _ hgd8
    refine sq_norm [some (.ref a), some (.ref h), some (.ref b), some (.int far), some (.int x), some (.ref gd), some (.ref bd), y7, some (.ref p), some (.ref kp), none, none] rfl ?_
    refine sq_forR 9 (fun Q k => k) (by decide) (fun i σ' H' => Same H9 H' ∧ ∃ y10, σ' = [some (.ref a), some (.ref h), some (.ref b), some (.int far), some (.int x), some (.ref gd), some (.ref bd), y7, some (.ref p), some (.ref kp), y10, none]) ⟨Same.refl _, none, rfl⟩ (fun i σ' H' hi hP' => ?_) (fun σ' H' hP' => ?_)
    · obtain ⟨s10, y10, rfl⟩ := hP'
      have hw : ((i : Int) ≤ 6) ↔ ¬ ((i : Int) > 6) := by omega
      refine ⟨_, rfl, _, rfl, _, rfl, _, rfl, (i : Int), b, ca, cl, ts, B, x, p, S', rfl, by omega, by omega, A9.same s10, G, hx, hxn, sq_of (s10 _ _ hp9), hP.len, hP.small, hP.not, fun H11 s11 => ?_⟩
      by_cases c6 : (i : Int) > 6
      · rw [if_neg (by omega)]
        refine ⟨by show 2 ≤ sizeLine; decide, fun l nl => ⟨_, rfl, _, _, rfl, rfl, .inr ⟨_, rfl, l, _, _, .str "payments", rfl, rfl, sq_of upd_same, ?_, rfl, _, rfl, ?_⟩⟩⟩
        · rw [decide_eq_true (show (6 : Int) < (i : Int) from c6)]
          exact atI_nat (j := 1) rfl
        · rw [decide_eq_true (rfl : (V.str "payments") = V.str "payments")]
          exact iteF ⟨(s10.trans s11).trans (Same.new nl), _, rfl⟩
      · rw [if_pos (by omega)]
        refine ⟨by show 2 ≤ sizeLine; decide, fun l nl => ⟨_, rfl, _, _, rfl, rfl, .inr ⟨_, rfl, l, _, _, .str "house", rfl, rfl, sq_of upd_same, ?_, rfl, _, rfl, ?_⟩⟩⟩
        · rw [decide_eq_false (show ¬ (6 : Int) < (i : Int) from c6)]
          exact atI_nat (j := 0) rfl
        · rw [decide_eq_true (rfl : (V.str "house") = V.str "house")]
          exact iteF ⟨(s10.trans s11).trans (Same.new nl), _, rfl⟩
    · obtain ⟨s10, y10, rfl⟩ := hP'
      have A10 := A9.same s10
      have hp10 := s10 _ _ hp9
      have hkp10 := s10 _ _ hkp
      have hgd10 := s10 _ _ hgd9
      refine sq_no (fun H11 => Same H' H11) (fun Q k => ?_) (fun H11 s11 => ?_)
      · refine ⟨_, rfl, _, rfl, dInts S', dInts S', dp_ints (sq_of hp10), dp_ints (sq_of hkp10), sh_ints, sh_ints, _, rfl, ?_⟩
        rw [neqv_self cl_dInts]
        refine iteF ⟨_, rfl, _, rfl, b, ca, cl, ts, B, gd, S, rfl, A10, G, sq_of hgd10, hS, fun H11 s11 => ?_⟩
        refine ⟨.bl (decide (behind B (houses B) S = S)), .ty "bool", .type "bool", .type "bool", true, rfl, .ty _, .base ?_, ?_, ?_⟩
        · exact .bl _
        · rfl
        · refine ⟨true, false, rfl, rfl, ?_⟩
          exact ⟨false, rfl, k _ s11⟩
      have A11 := A10.same s11
      refine ⟨_, rfl, _, rfl, b, ca, cl, ts, B, gd, S, rfl, A11, G, sq_of (s11 _ _ hgd10), hS, fun q H12 nq s12 hq => ?_⟩
      have A12 := A11.same s12
      have h00 := owedIn_nn G 0
      refine ⟨q, _, rfl, .inl (sq_of hq), _, rfl, b, _, 0, _, rfl, rfl, A12.hb, atI_nat (j := 0) rfl, ca, _, rfl, .inr A12.hca, ?_⟩
      rw [show (List.map V.int (leftOf B S)).length = (List.map V.int B.cash).length by rw [List.length_map, List.length_map, leftOf_len]]
      refine ⟨rfl, ?_⟩
      rw [decide_eq_true (rfl : V.int _ = V.int _)]
      refine ⟨_, rfl, iteT ⟨_, rfl, b, ca, cl, ts, B, 0, rfl, A12, G, Int.le_refl _, by omega, fun H13 s13 => ⟨_, _, rfl, rfl, ?_⟩⟩⟩
      show Q (V.bl (decide (0 ≤ owedIn B 0))) H13
      rw [dec_t h00]
      exact k _
end


end Rf
namespace Rf
open PySem PySem.Spec PyProof.Rows L2
section
variable {P : Program} {w : World} {K : PySem.W.Frag} {mg : Str → Option Value} {base : Heap}
theorem ok_law {f : Addr} {fd : FuncData} (D : DefAt K mg "law" s_law ["_law_script"] f fd) (L : Lims mg) (m_range : mg "range" = none) (m_len : mg "len" = none) (m_max : mg "max" = none) (m_min : mg "min" = none) (m_sum : mg "sum" = none) (m_list : mg "list" = none) (m_enumerate : mg "enumerate" = none) (m_isinstance : mg "isinstance" = none) (m_bool : mg "bool" = none) (m_int : mg "int" = none) (m_tuple : mg "tuple" = none) (m_sorted : mg "sorted" = none) (m_zip : mg "zip" = none) (m_ValueError : mg "ValueError" = none) 
    {C_FallError : Addr} (X_FallError : OwnAt K mg "FallError" C_FallError) 
    {C_BadBook fi_BadBook cc_BadBook ca_BadBook : Addr} {fdi_BadBook : FuncData} (X_BadBook : InitAt P K mg "BadBook" C_BadBook fi_BadBook cc_BadBook ca_BadBook fdi_BadBook "BadBook.__init__" s_bbinit ["self", "at", "why"]) 
    {C_NoHouse : Addr} (X_NoHouse : OwnAt K mg "NoHouse" C_NoHouse) 
    {C_BadPayments : Addr} (X_BadPayments : OwnAt K mg "BadPayments" C_BadPayments) 
    {C_NoMove fi_NoMove cc_NoMove ca_NoMove : Addr} {fdi_NoMove : FuncData} (X_NoMove : InitAt P K mg "NoMove" C_NoMove fi_NoMove cc_NoMove ca_NoMove fdi_NoMove "NoMove.__init__" s_nminit ["self", "number"]) 
    {C_BadText fi_BadText cc_BadText ca_BadText : Addr} {fdi_BadText : FuncData} (X_BadText : InitAt P K mg "BadText" C_BadText fi_BadText cc_BadText ca_BadText fdi_BadText "BadText.__init__" s_btinit ["self", "row"]) (xsp : PySem.W.specialIn K (.builtin "object.__class__") "__get__" = some (some (.builtin "getset_descriptor.__get__"))) (xtk : PySem.W.takesIn K (.builtin "object.__class__") = some true) (xfd : PySem.W.hasDictIn K C_FallError = true) (hga : PySem.W.findIn K (.ref C_NoHouse) "__getattribute__" = some (some (.builtin "BaseException.__getattribute__"))) (hgt : PySem.W.findIn K (.ref C_NoHouse) "__getattr__" = some none) (hhd : PySem.W.hasDictIn K C_NoHouse = true) (hcl : PySem.W.findIn K (.ref C_NoHouse) "__class__" = some (some (.builtin "object.__class__"))) (hmo : PySem.W.mroIn K C_NoHouse (.type "object") = some true) (hsb : PySem.W.subIn K (.ref C_NoHouse) (.ref C_FallError) = some true) (hk1 : PySem.W.kitAny K (.ref C_NoHouse) [.ref C_BadBook, .ref C_BadText, .ref C_NoMove] = some false) (hk2 : PySem.W.kitOne K (.ref C_NoHouse) (.type "ValueError") = some true) (hk3 : PySem.W.kitOne K (.ref C_NoHouse) (.ref C_NoHouse) = some true) (hk4 : PySem.W.kitOne K (.ref C_NoHouse) (.ref C_BadPayments) = some false) (pga : PySem.W.findIn K (.ref C_BadPayments) "__getattribute__" = some (some (.builtin "BaseException.__getattribute__"))) (pgt : PySem.W.findIn K (.ref C_BadPayments) "__getattr__" = some none) (phd : PySem.W.hasDictIn K C_BadPayments = true) (pcl : PySem.W.findIn K (.ref C_BadPayments) "__class__" = some (some (.builtin "object.__class__"))) (pmo : PySem.W.mroIn K C_BadPayments (.type "object") = some true) (psb : PySem.W.subIn K (.ref C_BadPayments) (.ref C_FallError) = some true) (pk1 : PySem.W.kitAny K (.ref C_BadPayments) [.ref C_BadBook, .ref C_BadText, .ref C_NoMove] = some false) (pk2 : PySem.W.kitOne K (.ref C_BadPayments) (.type "ValueError") = some true) (pk3 : PySem.W.kitOne K (.ref C_BadPayments) (.ref C_NoHouse) = some false) (pk4 : PySem.W.kitOne K (.ref C_BadPayments) (.ref C_BadPayments) = some true) 
    {g0 : Addr} {gd0 : FuncData} (D_need : DefAt K mg "need_book" s_need ["book"] g0 gd0) 
    {g1 : Addr} {gd1 : FuncData} (D_wrong : DefAt K mg "_wrong_in_claim" s_wrong ["claim", "houses"] g1 gd1) 
    {g2 : Addr} {gd2 : FuncData} (D_needh : DefAt K mg "need_house" s_needh ["book", "house"] g2 gd2) 
    {g3 : Addr} {gd3 : FuncData} (D_needhs : DefAt K mg "need_houses" s_needhs ["book", "houses"] g3 gd3) 
    {g4 : Addr} {gd4 : FuncData} (D_owed : DefAt K mg "owed" s_owed ["book", "house"] g4 gd4) 
    {g5 : Addr} {gd5 : FuncData} (D_shared : DefAt K mg "shared" s_shared ["amounts", "coins"] g5 gd5) 
    {g6 : Addr} {gd6 : FuncData} (D_first_coins : DefAt K mg "_first_coins" s_first_coins ["amounts", "coins"] g6 gd6) 
    {g7 : Addr} {gd7 : FuncData} (D_least_paid : DefAt K mg "_least_paid" s_least_paid ["amounts", "paid"] g7 gd7) 
    {g8 : Addr} {gd8 : FuncData} (D_paidby : DefAt K mg "paid_by" s_paidby ["book", "house", "means"] g8 gd8) 
    {g9 : Addr} {gd9 : FuncData} (D_debts : DefAt K mg "debts_by_rank" s_debts ["claims", "house"] g9 gd9) 
    {g10 : Addr} {gd10 : FuncData} (D_paidw : DefAt K mg "paid_with" s_paidw ["debts", "means"] g10 gd10) 
    {g11 : Addr} {gd11 : FuncData} (D_left : DefAt K mg "left" s_left ["book", "payments"] g11 gd11) 
    {g12 : Addr} {gd12 : FuncData} (D_isclr : DefAt K mg "is_clearing" s_isclr ["book", "payments"] g12 gd12) 
    {g13 : Addr} {gd13 : FuncData} (D_best : DefAt K mg "best" s_best ["book"] g13 gd13) 
    {g14 : Addr} {gd14 : FuncData} (D_needp : DefAt K mg "_need_payments" s_needp ["book", "payments"] g14 gd14) 
    {g15 : Addr} {gd15 : FuncData} (D_allpaid : DefAt K mg "all_paid" s_allpaid ["book"] g15 gd15) 
    {g16 : Addr} {gd16 : FuncData} (D_meansby : DefAt K mg "means_by" s_meansby ["book", "payments"] g16 gd16) 
    {g17 : Addr} {gd17 : FuncData} (D_felled : DefAt K mg "felled" s_felled ["book", "house"] g17 gd17) 
    {g18 : Addr} {gd18 : FuncData} (D_needs : DefAt K mg "needs" s_needs ["book", "house"] g18 gd18) 
    {g19 : Addr} {gd19 : FuncData} (D_merged : DefAt K mg "merged" s_merged ["book", "one", "other"] g19 gd19) 
    {g20 : Addr} {gd20 : FuncData} (D_stilled : DefAt K mg "stilled" s_stilled ["book", "picks"] g20 gd20) 
    {g21 : Addr} {gd21 : FuncData} (D_next : DefAt K mg "_law_next" s_next ["_law_h", "_law_many"] g21 gd21) 
    {g22 : Addr} {gd22 : FuncData} (D_lbook : DefAt K mg "_law_book" s_lbook ["_law_h", "_law_houses", "_law_claims", "_law_wide"] g22 gd22) 
    {g23 : Addr} {gd23 : FuncData} (D_ask : DefAt K mg "_law_ask" s_ask ["_law_way", "_law_book_here", "_law_house", "_law_payments"] g23 gd23) 
    {g24 : Addr} {gd24 : FuncData} (D_kind : DefAt K mg "_law_kind" s_kind ["_law_way", "_law_book_here", "_law_house", "_law_payments"] g24 gd24) : FnOk P w K mg base CX0 21 f fd ["_law_script"] (spLaw K) := by
  have G_next := ok_next (P := P) (w := w) (base := base) D_next m_max m_len
  have GX_needhs := ok_needhsN (P := P) (w := w) (base := base) D_needhs L m_len m_enumerate D_wrong D_need X_NoHouse
  have GX_needh := ok_needhN (P := P) (w := w) (base := base) D_needh D_needhs GX_needhs
  have GX_needp := ok_needpN (P := P) (w := w) (base := base) D_needp L m_len m_enumerate D_wrong D_need X_BadPayments
  have GX_ask := ok_ask (P := P) (w := w) (base := base) D_ask
    D_owed (FnOk.mono (ok_owedN (P := P) (w := w) (base := base) D_owed D_needh GX_needh) (show _ ≤ 8 by decide))
    D_felled (FnOk.mono (ok_felledN (P := P) (w := w) (base := base) D_felled D_needh GX_needh) (show _ ≤ 8 by decide))
    D_needs (FnOk.mono (ok_needsN (P := P) (w := w) (base := base) D_needs D_needh GX_needh) (show _ ≤ 8 by decide))
    D_paidby (FnOk.mono (ok_paidbyN (P := P) (w := w) (base := base) D_paidby D_needh GX_needh) (show _ ≤ 8 by decide))
    D_merged (FnOk.mono (ok_mergedN (P := P) (w := w) (base := base) D_merged D_needhs GX_needhs) (show _ ≤ 8 by decide))
    D_stilled (FnOk.mono (ok_stilledN (P := P) (w := w) (base := base) D_stilled D_needhs GX_needhs) (show _ ≤ 8 by decide))
    D_left (FnOk.mono (ok_leftN (P := P) (w := w) (base := base) D_left D_needp GX_needp) (show _ ≤ 8 by decide))
    D_isclr (FnOk.mono (ok_isclrN (P := P) (w := w) (base := base) D_isclr D_needp GX_needp) (show _ ≤ 8 by decide))
  have TH : ExcC K C_NoHouse := ⟨hga, hgt, X_NoHouse.eC, hhd, hcl, xsp, xtk, hmo⟩
  have TP : ExcC K C_BadPayments := ⟨pga, pgt, X_BadPayments.eC, phd, pcl, xsp, xtk, pmo⟩
  have G_kind := ok_kind (P := P) (w := w) (base := base) D_kind D_ask GX_ask X_FallError X_NoHouse X_BadPayments ⟨X_BadBook.gC⟩ ⟨X_BadText.gC⟩ ⟨X_NoMove.gC⟩ m_isinstance m_ValueError TH TP (PySem.W.exm_ref X_FallError.eC xfd X_FallError.tC hsb) (PySem.W.exm_ref X_FallError.eC xfd X_FallError.tC psb) hk1 pk1 hk2 pk2 hk3 hk4 pk3 pk4
  have G_left := FnOk.mono (ok_left (P := P) (w := w) (base := base) D_left L m_len m_enumerate m_zip m_list D_wrong D_need D_needp D_meansby) (show _ ≤ 10 by decide)
  have G_isclr := FnOk.mono (ok_isclr (P := P) (w := w) (base := base) D_isclr L m_len m_enumerate m_zip m_list m_sum m_sorted m_range m_max D_wrong D_need D_needhs D_needh D_shared D_first_coins D_least_paid D_debts D_paidw D_paidby D_needp D_meansby) (show _ ≤ 10 by decide)
  have G_owed := FnOk.mono (ok_owed (P := P) (w := w) (base := base) D_owed L m_len m_enumerate m_sum D_wrong D_need D_needhs D_needh) (show _ ≤ 10 by decide)
  exact law_body D m_range m_list m_len m_int m_isinstance m_bool D_next G_next D_lbook (ok_lbook D_lbook m_max m_len m_range m_tuple m_int D_next) D_kind G_kind D_isclr G_isclr D_left G_left D_owed G_owed
end


end Rf
namespace Rf
open PySem PySem.Spec PyProof.Rows L2
/-! ### what the top has written; the law's own head -/
theorem all_mk {l : PySem.W.OpenLaw} {w : World} {K : PySem.W.Frag} {h : Heap} {mg : Str → Option Value} {fa f1 f2 f3 f4 f5 f6 f7 f8 f9 f10 f11 f12 f13 f14 f15 f16 f17 f18 f19 f20 f21 f22 f23 f24 f25 f26 : Addr} (X : K.In h) (G : h.Ns mainGlobals mg) (hfa : mg "law" = some (.ref fa))
    {od1 an1 od2 an2 od3 an3 od4 an4 od5 an5 od6 an6 od7 an7 od8 an8 od9 an9 od10 an10 od11 an11 od12 an12 od13 an13 od14 an14 od15 an15 od16 an16 od17 an17 od18 an18 od19 an19 od20 an20 od21 an21 od22 an22 od23 an23 od24 an24 od25 an25 od26 an26 : Option Addr} {sl1 sl2 sl3 sl4 sl5 sl6 sl7 sl8 sl9 sl10 sl11 sl12 sl13 sl14 sl15 sl16 sl17 sl18 sl19 sl20 sl21 sl22 sl23 sl24 sl25 sl26 : Array (Option Value)}
    {oc1 kV1 dc1 pm1 cd1 ct1 oc2 kV2 dc2 pm2 cd2 ct2 oc3 kV3 dc3 pm3 cd3 ct3 oc4 kV4 dc4 pm4 cd4 ct4 oc5 kV5 dc5 pm5 cd5 ct5 oc6 kV6 dc6 pm6 cd6 ct6 oc7 kV7 dc7 pm7 cd7 ct7 oc8 kV8 dc8 pm8 cd8 ct8 oc9 kV9 dc9 pm9 cd9 ct9 oc10 kV10 dc10 pm10 cd10 ct10 oc11 kV11 dc11 pm11 cd11 ct11 oc12 kV12 dc12 pm12 cd12 ct12 oc13 kV13 dc13 pm13 cd13 ct13 oc14 kV14 dc14 pm14 cd14 ct14 oc15 kV15 dc15 pm15 cd15 ct15 oc16 kV16 dc16 pm16 cd16 ct16 oc17 kV17 dc17 pm17 cd17 ct17 oc18 kV18 dc18 pm18 cd18 ct18 oc19 kV19 dc19 pm19 cd19 ct19 oc20 kV20 dc20 pm20 cd20 ct20 oc21 kV21 dc21 pm21 cd21 ct21 oc22 kV22 dc22 pm22 cd22 ct22 oc23 kV23 dc23 pm23 cd23 ct23 oc24 kV24 dc24 pm24 cd24 ct24 oc25 kV25 dc25 pm25 cd25 ct25 oc26 kV26 dc26 pm26 cd26 ct26 : Value}
    {C_FallError : Addr} (eg0 : PySem.W.nsIn K mainGlobals "FallError" = some (some (.ref C_FallError)))
    (ek0 : PySem.W.keepIn K (.ref C_FallError) = true) (es0 : PySem.W.subIn K (.ref C_FallError) (.type "BaseException") = some true) (et0 : PySem.W.typeIn K (.ref C_FallError) = some (.type "type"))
    (ex0 : PySem.W.excIn K C_FallError [.type "ValueError", .type "Exception", .type "BaseException", .type "object"] "ValueError.__new__" = true)
    {C_BadBook : Addr} (eg1 : PySem.W.nsIn K mainGlobals "BadBook" = some (some (.ref C_BadBook)))
    (ek1 : PySem.W.keepIn K (.ref C_BadBook) = true) (es1 : PySem.W.subIn K (.ref C_BadBook) (.type "BaseException") = some true) (et1 : PySem.W.typeIn K (.ref C_BadBook) = some (.type "type"))
    {nm1 qn1 : Str} {N1 : Addr} {bs1 bm1 : List Value} {sn1 : List Str} {sub1 : List Value} {ab1 : Bool} {col1 : Option Bool} {dd1 : Option Addr} {m01 m11 m21 m31 m51 : Option Value}
    (ex1 : K.lookup C_BadBook = some (excClassObj nm1 qn1 C_BadBook N1 bs1 bm1 true sn1 sub1 ab1 col1 dd1 m01 m11 m21 m31 m51 "ValueError.__new__")) (eb1 : PySem.HandSPX.refsVE bm1 = true)
    (ea1 : PySem.W.findIn K (.ref C_BadBook) "__setattr__" = some (some (.builtin "object.__setattr__")))
    {xf1 xc1 xd1 : Addr} (ei1 : PySem.W.findIn K (.ref C_BadBook) "__init__" = some (some (.ref xf1))) (ey1 : PySem.W.typeIn K (.ref xf1) = some (.type "function"))
    {xo1 xk1 xdc1 xpm1 xct1 : Value} {xod1 xan1 : Option Addr} {xsl1 : Array (Option Value)} (el1 : K.lookup xf1 = some ⟨xo1, xod1, .func (PySem.W.ksFn "__init__" "BadBook.__init__" (defArgs s_bbinit) (defBody s_bbinit) (defScope s_bbinit) .none xk1 xdc1 xpm1 xan1 (.ref xd1) xct1 xc1), xsl1⟩)
    (ej1 : PySem.W.codeIn K (.ref xd1) "BadBook.__init__" = true) {yc1 : Value} {yd1 : Option Addr} {yv1 : Array Value} {ys1 : Array (Option Value)} {yf1 : Str} {yt1 : Tok} (eo1 : K.lookup xd1 = some ⟨yc1, yd1, .fields yv1, ys1⟩) (ep1 : yv1[2]? = some (.str yf1 yt1)) (eq1 : ((l.prog.main.file : Str) == yf1) = true)
    {zc1 : Value} {zd1 : Option Addr} {zs1 : Array (Option Value)} (er1 : K.lookup xc1 = some ⟨zc1, zd1, .cell (some (.ref C_BadBook)), zs1⟩) (eu1 : PySem.W.isClsIn K C_BadBook = true) (ev1 : PySem.W.mroIn K C_BadBook (.ref C_BadBook) = some true)
    (ew1 : PySem.W.ks_superIn K C_BadBook C_BadBook "__init__" = some (some (.builtin "ValueError.__init__"))) (ez1 : PySem.W.subIn K (.ref C_BadBook) (.type "ValueError") = some true)
    {C_NoHouse : Addr} (eg2 : PySem.W.nsIn K mainGlobals "NoHouse" = some (some (.ref C_NoHouse)))
    (ek2 : PySem.W.keepIn K (.ref C_NoHouse) = true) (es2 : PySem.W.subIn K (.ref C_NoHouse) (.type "BaseException") = some true) (et2 : PySem.W.typeIn K (.ref C_NoHouse) = some (.type "type"))
    (ex2 : PySem.W.excIn K C_NoHouse [.type "ValueError", .type "Exception", .type "BaseException", .type "object"] "ValueError.__new__" = true)
    {C_BadPayments : Addr} (eg3 : PySem.W.nsIn K mainGlobals "BadPayments" = some (some (.ref C_BadPayments)))
    (ek3 : PySem.W.keepIn K (.ref C_BadPayments) = true) (es3 : PySem.W.subIn K (.ref C_BadPayments) (.type "BaseException") = some true) (et3 : PySem.W.typeIn K (.ref C_BadPayments) = some (.type "type"))
    (ex3 : PySem.W.excIn K C_BadPayments [.type "ValueError", .type "Exception", .type "BaseException", .type "object"] "ValueError.__new__" = true)
    {C_NoMove : Addr} (eg4 : PySem.W.nsIn K mainGlobals "NoMove" = some (some (.ref C_NoMove)))
    (ek4 : PySem.W.keepIn K (.ref C_NoMove) = true) (es4 : PySem.W.subIn K (.ref C_NoMove) (.type "BaseException") = some true) (et4 : PySem.W.typeIn K (.ref C_NoMove) = some (.type "type"))
    {nm4 qn4 : Str} {N4 : Addr} {bs4 bm4 : List Value} {sn4 : List Str} {sub4 : List Value} {ab4 : Bool} {col4 : Option Bool} {dd4 : Option Addr} {m04 m14 m24 m34 m54 : Option Value}
    (ex4 : K.lookup C_NoMove = some (excClassObj nm4 qn4 C_NoMove N4 bs4 bm4 true sn4 sub4 ab4 col4 dd4 m04 m14 m24 m34 m54 "ValueError.__new__")) (eb4 : PySem.HandSPX.refsVE bm4 = true)
    (ea4 : PySem.W.findIn K (.ref C_NoMove) "__setattr__" = some (some (.builtin "object.__setattr__")))
    {xf4 xc4 xd4 : Addr} (ei4 : PySem.W.findIn K (.ref C_NoMove) "__init__" = some (some (.ref xf4))) (ey4 : PySem.W.typeIn K (.ref xf4) = some (.type "function"))
    {xo4 xk4 xdc4 xpm4 xct4 : Value} {xod4 xan4 : Option Addr} {xsl4 : Array (Option Value)} (el4 : K.lookup xf4 = some ⟨xo4, xod4, .func (PySem.W.ksFn "__init__" "NoMove.__init__" (defArgs s_nminit) (defBody s_nminit) (defScope s_nminit) .none xk4 xdc4 xpm4 xan4 (.ref xd4) xct4 xc4), xsl4⟩)
    (ej4 : PySem.W.codeIn K (.ref xd4) "NoMove.__init__" = true) {yc4 : Value} {yd4 : Option Addr} {yv4 : Array Value} {ys4 : Array (Option Value)} {yf4 : Str} {yt4 : Tok} (eo4 : K.lookup xd4 = some ⟨yc4, yd4, .fields yv4, ys4⟩) (ep4 : yv4[2]? = some (.str yf4 yt4)) (eq4 : ((l.prog.main.file : Str) == yf4) = true)
    {zc4 : Value} {zd4 : Option Addr} {zs4 : Array (Option Value)} (er4 : K.lookup xc4 = some ⟨zc4, zd4, .cell (some (.ref C_NoMove)), zs4⟩) (eu4 : PySem.W.isClsIn K C_NoMove = true) (ev4 : PySem.W.mroIn K C_NoMove (.ref C_NoMove) = some true)
    (ew4 : PySem.W.ks_superIn K C_NoMove C_NoMove "__init__" = some (some (.builtin "ValueError.__init__"))) (ez4 : PySem.W.subIn K (.ref C_NoMove) (.type "ValueError") = some true)
    {C_BadText : Addr} (eg5 : PySem.W.nsIn K mainGlobals "BadText" = some (some (.ref C_BadText)))
    (ek5 : PySem.W.keepIn K (.ref C_BadText) = true) (es5 : PySem.W.subIn K (.ref C_BadText) (.type "BaseException") = some true) (et5 : PySem.W.typeIn K (.ref C_BadText) = some (.type "type"))
    {nm5 qn5 : Str} {N5 : Addr} {bs5 bm5 : List Value} {sn5 : List Str} {sub5 : List Value} {ab5 : Bool} {col5 : Option Bool} {dd5 : Option Addr} {m05 m15 m25 m35 m55 : Option Value}
    (ex5 : K.lookup C_BadText = some (excClassObj nm5 qn5 C_BadText N5 bs5 bm5 true sn5 sub5 ab5 col5 dd5 m05 m15 m25 m35 m55 "ValueError.__new__")) (eb5 : PySem.HandSPX.refsVE bm5 = true)
    (ea5 : PySem.W.findIn K (.ref C_BadText) "__setattr__" = some (some (.builtin "object.__setattr__")))
    {xf5 xc5 xd5 : Addr} (ei5 : PySem.W.findIn K (.ref C_BadText) "__init__" = some (some (.ref xf5))) (ey5 : PySem.W.typeIn K (.ref xf5) = some (.type "function"))
    {xo5 xk5 xdc5 xpm5 xct5 : Value} {xod5 xan5 : Option Addr} {xsl5 : Array (Option Value)} (el5 : K.lookup xf5 = some ⟨xo5, xod5, .func (PySem.W.ksFn "__init__" "BadText.__init__" (defArgs s_btinit) (defBody s_btinit) (defScope s_btinit) .none xk5 xdc5 xpm5 xan5 (.ref xd5) xct5 xc5), xsl5⟩)
    (ej5 : PySem.W.codeIn K (.ref xd5) "BadText.__init__" = true) {yc5 : Value} {yd5 : Option Addr} {yv5 : Array Value} {ys5 : Array (Option Value)} {yf5 : Str} {yt5 : Tok} (eo5 : K.lookup xd5 = some ⟨yc5, yd5, .fields yv5, ys5⟩) (ep5 : yv5[2]? = some (.str yf5 yt5)) (eq5 : ((l.prog.main.file : Str) == yf5) = true)
    {zc5 : Value} {zd5 : Option Addr} {zs5 : Array (Option Value)} (er5 : K.lookup xc5 = some ⟨zc5, zd5, .cell (some (.ref C_BadText)), zs5⟩) (eu5 : PySem.W.isClsIn K C_BadText = true) (ev5 : PySem.W.mroIn K C_BadText (.ref C_BadText) = some true)
    (ew5 : PySem.W.ks_superIn K C_BadText C_BadText "__init__" = some (some (.builtin "ValueError.__init__"))) (ez5 : PySem.W.subIn K (.ref C_BadText) (.type "ValueError") = some true)
    (esup : PySem.W.nsIn K mainGlobals "super" = some none) (etop : (l.prog.main.scope.names.lookup ("super" : Str)).isSome = false) (eany : PySem.W.nsIn K PySem.cStatics "thirdparty.any" = some none)
    (xsp : PySem.W.specialIn K (.builtin "object.__class__") "__get__" = some (some (.builtin "getset_descriptor.__get__")))
    (xtk : PySem.W.takesIn K (.builtin "object.__class__") = some true)
    (xfd : PySem.W.hasDictIn K C_FallError = true)
    (hga : PySem.W.findIn K (.ref C_NoHouse) "__getattribute__" = some (some (.builtin "BaseException.__getattribute__")))
    (hgt : PySem.W.findIn K (.ref C_NoHouse) "__getattr__" = some none)
    (hhd : PySem.W.hasDictIn K C_NoHouse = true)
    (hcl : PySem.W.findIn K (.ref C_NoHouse) "__class__" = some (some (.builtin "object.__class__")))
    (hmo : PySem.W.mroIn K C_NoHouse (.type "object") = some true)
    (hsb : PySem.W.subIn K (.ref C_NoHouse) (.ref C_FallError) = some true)
    (hk1 : PySem.W.kitAny K (.ref C_NoHouse) [.ref C_BadBook, .ref C_BadText, .ref C_NoMove] = some false)
    (hk2 : PySem.W.kitOne K (.ref C_NoHouse) (.type "ValueError") = some true)
    (hk3 : PySem.W.kitOne K (.ref C_NoHouse) (.ref C_NoHouse) = some true)
    (hk4 : PySem.W.kitOne K (.ref C_NoHouse) (.ref C_BadPayments) = some false)
    (pga : PySem.W.findIn K (.ref C_BadPayments) "__getattribute__" = some (some (.builtin "BaseException.__getattribute__")))
    (pgt : PySem.W.findIn K (.ref C_BadPayments) "__getattr__" = some none)
    (phd : PySem.W.hasDictIn K C_BadPayments = true)
    (pcl : PySem.W.findIn K (.ref C_BadPayments) "__class__" = some (some (.builtin "object.__class__")))
    (pmo : PySem.W.mroIn K C_BadPayments (.type "object") = some true)
    (psb : PySem.W.subIn K (.ref C_BadPayments) (.ref C_FallError) = some true)
    (pk1 : PySem.W.kitAny K (.ref C_BadPayments) [.ref C_BadBook, .ref C_BadText, .ref C_NoMove] = some false)
    (pk2 : PySem.W.kitOne K (.ref C_BadPayments) (.type "ValueError") = some true)
    (pk3 : PySem.W.kitOne K (.ref C_BadPayments) (.ref C_NoHouse) = some false)
    (pk4 : PySem.W.kitOne K (.ref C_BadPayments) (.ref C_BadPayments) = some true)
    (a1 : PySem.W.nsIn K mainGlobals "need_book" = some (some (.ref f1))) (l1 : K.lookup f1 = some ⟨oc1, od1, .func (PySem.W.fnOf "need_book" "need_book" (defArgs s_need) (defBody s_need) (defScope s_need) .none kV1 dc1 pm1 an1 cd1 ct1), sl1⟩) (c1 : PySem.W.codeIn K cd1 "need_book" = true) (k1 : PySem.W.keepIn K (.ref f1) = true)
    (a2 : PySem.W.nsIn K mainGlobals "_wrong_in_claim" = some (some (.ref f2))) (l2 : K.lookup f2 = some ⟨oc2, od2, .func (PySem.W.fnOf "_wrong_in_claim" "_wrong_in_claim" (defArgs s_wrong) (defBody s_wrong) (defScope s_wrong) .none kV2 dc2 pm2 an2 cd2 ct2), sl2⟩) (c2 : PySem.W.codeIn K cd2 "_wrong_in_claim" = true) (k2 : PySem.W.keepIn K (.ref f2) = true)
    (a3 : PySem.W.nsIn K mainGlobals "need_house" = some (some (.ref f3))) (l3 : K.lookup f3 = some ⟨oc3, od3, .func (PySem.W.fnOf "need_house" "need_house" (defArgs s_needh) (defBody s_needh) (defScope s_needh) .none kV3 dc3 pm3 an3 cd3 ct3), sl3⟩) (c3 : PySem.W.codeIn K cd3 "need_house" = true) (k3 : PySem.W.keepIn K (.ref f3) = true)
    (a4 : PySem.W.nsIn K mainGlobals "need_houses" = some (some (.ref f4))) (l4 : K.lookup f4 = some ⟨oc4, od4, .func (PySem.W.fnOf "need_houses" "need_houses" (defArgs s_needhs) (defBody s_needhs) (defScope s_needhs) .none kV4 dc4 pm4 an4 cd4 ct4), sl4⟩) (c4 : PySem.W.codeIn K cd4 "need_houses" = true) (k4 : PySem.W.keepIn K (.ref f4) = true)
    (a5 : PySem.W.nsIn K mainGlobals "owed" = some (some (.ref f5))) (l5 : K.lookup f5 = some ⟨oc5, od5, .func (PySem.W.fnOf "owed" "owed" (defArgs s_owed) (defBody s_owed) (defScope s_owed) .none kV5 dc5 pm5 an5 cd5 ct5), sl5⟩) (c5 : PySem.W.codeIn K cd5 "owed" = true) (k5 : PySem.W.keepIn K (.ref f5) = true)
    (a6 : PySem.W.nsIn K mainGlobals "shared" = some (some (.ref f6))) (l6 : K.lookup f6 = some ⟨oc6, od6, .func (PySem.W.fnOf "shared" "shared" (defArgs s_shared) (defBody s_shared) (defScope s_shared) .none kV6 dc6 pm6 an6 cd6 ct6), sl6⟩) (c6 : PySem.W.codeIn K cd6 "shared" = true) (k6 : PySem.W.keepIn K (.ref f6) = true)
    (a7 : PySem.W.nsIn K mainGlobals "_first_coins" = some (some (.ref f7))) (l7 : K.lookup f7 = some ⟨oc7, od7, .func (PySem.W.fnOf "_first_coins" "_first_coins" (defArgs s_first_coins) (defBody s_first_coins) (defScope s_first_coins) .none kV7 dc7 pm7 an7 cd7 ct7), sl7⟩) (c7 : PySem.W.codeIn K cd7 "_first_coins" = true) (k7 : PySem.W.keepIn K (.ref f7) = true)
    (a8 : PySem.W.nsIn K mainGlobals "_least_paid" = some (some (.ref f8))) (l8 : K.lookup f8 = some ⟨oc8, od8, .func (PySem.W.fnOf "_least_paid" "_least_paid" (defArgs s_least_paid) (defBody s_least_paid) (defScope s_least_paid) .none kV8 dc8 pm8 an8 cd8 ct8), sl8⟩) (c8 : PySem.W.codeIn K cd8 "_least_paid" = true) (k8 : PySem.W.keepIn K (.ref f8) = true)
    (a9 : PySem.W.nsIn K mainGlobals "paid_by" = some (some (.ref f9))) (l9 : K.lookup f9 = some ⟨oc9, od9, .func (PySem.W.fnOf "paid_by" "paid_by" (defArgs s_paidby) (defBody s_paidby) (defScope s_paidby) .none kV9 dc9 pm9 an9 cd9 ct9), sl9⟩) (c9 : PySem.W.codeIn K cd9 "paid_by" = true) (k9 : PySem.W.keepIn K (.ref f9) = true)
    (a10 : PySem.W.nsIn K mainGlobals "debts_by_rank" = some (some (.ref f10))) (l10 : K.lookup f10 = some ⟨oc10, od10, .func (PySem.W.fnOf "debts_by_rank" "debts_by_rank" (defArgs s_debts) (defBody s_debts) (defScope s_debts) .none kV10 dc10 pm10 an10 cd10 ct10), sl10⟩) (c10 : PySem.W.codeIn K cd10 "debts_by_rank" = true) (k10 : PySem.W.keepIn K (.ref f10) = true)
    (a11 : PySem.W.nsIn K mainGlobals "paid_with" = some (some (.ref f11))) (l11 : K.lookup f11 = some ⟨oc11, od11, .func (PySem.W.fnOf "paid_with" "paid_with" (defArgs s_paidw) (defBody s_paidw) (defScope s_paidw) .none kV11 dc11 pm11 an11 cd11 ct11), sl11⟩) (c11 : PySem.W.codeIn K cd11 "paid_with" = true) (k11 : PySem.W.keepIn K (.ref f11) = true)
    (a12 : PySem.W.nsIn K mainGlobals "left" = some (some (.ref f12))) (l12 : K.lookup f12 = some ⟨oc12, od12, .func (PySem.W.fnOf "left" "left" (defArgs s_left) (defBody s_left) (defScope s_left) .none kV12 dc12 pm12 an12 cd12 ct12), sl12⟩) (c12 : PySem.W.codeIn K cd12 "left" = true) (k12 : PySem.W.keepIn K (.ref f12) = true)
    (a13 : PySem.W.nsIn K mainGlobals "is_clearing" = some (some (.ref f13))) (l13 : K.lookup f13 = some ⟨oc13, od13, .func (PySem.W.fnOf "is_clearing" "is_clearing" (defArgs s_isclr) (defBody s_isclr) (defScope s_isclr) .none kV13 dc13 pm13 an13 cd13 ct13), sl13⟩) (c13 : PySem.W.codeIn K cd13 "is_clearing" = true) (k13 : PySem.W.keepIn K (.ref f13) = true)
    (a14 : PySem.W.nsIn K mainGlobals "best" = some (some (.ref f14))) (l14 : K.lookup f14 = some ⟨oc14, od14, .func (PySem.W.fnOf "best" "best" (defArgs s_best) (defBody s_best) (defScope s_best) .none kV14 dc14 pm14 an14 cd14 ct14), sl14⟩) (c14 : PySem.W.codeIn K cd14 "best" = true) (k14 : PySem.W.keepIn K (.ref f14) = true)
    (a15 : PySem.W.nsIn K mainGlobals "_need_payments" = some (some (.ref f15))) (l15 : K.lookup f15 = some ⟨oc15, od15, .func (PySem.W.fnOf "_need_payments" "_need_payments" (defArgs s_needp) (defBody s_needp) (defScope s_needp) .none kV15 dc15 pm15 an15 cd15 ct15), sl15⟩) (c15 : PySem.W.codeIn K cd15 "_need_payments" = true) (k15 : PySem.W.keepIn K (.ref f15) = true)
    (a16 : PySem.W.nsIn K mainGlobals "all_paid" = some (some (.ref f16))) (l16 : K.lookup f16 = some ⟨oc16, od16, .func (PySem.W.fnOf "all_paid" "all_paid" (defArgs s_allpaid) (defBody s_allpaid) (defScope s_allpaid) .none kV16 dc16 pm16 an16 cd16 ct16), sl16⟩) (c16 : PySem.W.codeIn K cd16 "all_paid" = true) (k16 : PySem.W.keepIn K (.ref f16) = true)
    (a17 : PySem.W.nsIn K mainGlobals "means_by" = some (some (.ref f17))) (l17 : K.lookup f17 = some ⟨oc17, od17, .func (PySem.W.fnOf "means_by" "means_by" (defArgs s_meansby) (defBody s_meansby) (defScope s_meansby) .none kV17 dc17 pm17 an17 cd17 ct17), sl17⟩) (c17 : PySem.W.codeIn K cd17 "means_by" = true) (k17 : PySem.W.keepIn K (.ref f17) = true)
    (a18 : PySem.W.nsIn K mainGlobals "felled" = some (some (.ref f18))) (l18 : K.lookup f18 = some ⟨oc18, od18, .func (PySem.W.fnOf "felled" "felled" (defArgs s_felled) (defBody s_felled) (defScope s_felled) .none kV18 dc18 pm18 an18 cd18 ct18), sl18⟩) (c18 : PySem.W.codeIn K cd18 "felled" = true) (k18 : PySem.W.keepIn K (.ref f18) = true)
    (a19 : PySem.W.nsIn K mainGlobals "needs" = some (some (.ref f19))) (l19 : K.lookup f19 = some ⟨oc19, od19, .func (PySem.W.fnOf "needs" "needs" (defArgs s_needs) (defBody s_needs) (defScope s_needs) .none kV19 dc19 pm19 an19 cd19 ct19), sl19⟩) (c19 : PySem.W.codeIn K cd19 "needs" = true) (k19 : PySem.W.keepIn K (.ref f19) = true)
    (a20 : PySem.W.nsIn K mainGlobals "merged" = some (some (.ref f20))) (l20 : K.lookup f20 = some ⟨oc20, od20, .func (PySem.W.fnOf "merged" "merged" (defArgs s_merged) (defBody s_merged) (defScope s_merged) .none kV20 dc20 pm20 an20 cd20 ct20), sl20⟩) (c20 : PySem.W.codeIn K cd20 "merged" = true) (k20 : PySem.W.keepIn K (.ref f20) = true)
    (a21 : PySem.W.nsIn K mainGlobals "stilled" = some (some (.ref f21))) (l21 : K.lookup f21 = some ⟨oc21, od21, .func (PySem.W.fnOf "stilled" "stilled" (defArgs s_stilled) (defBody s_stilled) (defScope s_stilled) .none kV21 dc21 pm21 an21 cd21 ct21), sl21⟩) (c21 : PySem.W.codeIn K cd21 "stilled" = true) (k21 : PySem.W.keepIn K (.ref f21) = true)
    (a22 : PySem.W.nsIn K mainGlobals "_law_next" = some (some (.ref f22))) (l22 : K.lookup f22 = some ⟨oc22, od22, .func (PySem.W.fnOf "_law_next" "_law_next" (defArgs s_next) (defBody s_next) (defScope s_next) .none kV22 dc22 pm22 an22 cd22 ct22), sl22⟩) (c22 : PySem.W.codeIn K cd22 "_law_next" = true) (k22 : PySem.W.keepIn K (.ref f22) = true)
    (a23 : PySem.W.nsIn K mainGlobals "_law_book" = some (some (.ref f23))) (l23 : K.lookup f23 = some ⟨oc23, od23, .func (PySem.W.fnOf "_law_book" "_law_book" (defArgs s_lbook) (defBody s_lbook) (defScope s_lbook) .none kV23 dc23 pm23 an23 cd23 ct23), sl23⟩) (c23 : PySem.W.codeIn K cd23 "_law_book" = true) (k23 : PySem.W.keepIn K (.ref f23) = true)
    (a24 : PySem.W.nsIn K mainGlobals "_law_ask" = some (some (.ref f24))) (l24 : K.lookup f24 = some ⟨oc24, od24, .func (PySem.W.fnOf "_law_ask" "_law_ask" (defArgs s_ask) (defBody s_ask) (defScope s_ask) .none kV24 dc24 pm24 an24 cd24 ct24), sl24⟩) (c24 : PySem.W.codeIn K cd24 "_law_ask" = true) (k24 : PySem.W.keepIn K (.ref f24) = true)
    (a25 : PySem.W.nsIn K mainGlobals "_law_kind" = some (some (.ref f25))) (l25 : K.lookup f25 = some ⟨oc25, od25, .func (PySem.W.fnOf "_law_kind" "_law_kind" (defArgs s_kind) (defBody s_kind) (defScope s_kind) .none kV25 dc25 pm25 an25 cd25 ct25), sl25⟩) (c25 : PySem.W.codeIn K cd25 "_law_kind" = true) (k25 : PySem.W.keepIn K (.ref f25) = true)
    (a26 : PySem.W.nsIn K mainGlobals "law" = some (some (.ref f26))) (l26 : K.lookup f26 = some ⟨oc26, od26, .func (PySem.W.fnOf "law" "law" (defArgs s_law) (defBody s_law) (defScope s_law) .none kV26 dc26 pm26 an26 cd26 ct26), sl26⟩) (c26 : PySem.W.codeIn K cd26 "law" = true) (k26 : PySem.W.keepIn K (.ref f26) = true)
    (z1 : PySem.W.nsIn K mainGlobals "range" = some none)
    (z2 : PySem.W.nsIn K mainGlobals "len" = some none)
    (z3 : PySem.W.nsIn K mainGlobals "max" = some none)
    (z4 : PySem.W.nsIn K mainGlobals "min" = some none)
    (z5 : PySem.W.nsIn K mainGlobals "sum" = some none)
    (z6 : PySem.W.nsIn K mainGlobals "list" = some none)
    (z7 : PySem.W.nsIn K mainGlobals "enumerate" = some none)
    (z8 : PySem.W.nsIn K mainGlobals "isinstance" = some none)
    (z9 : PySem.W.nsIn K mainGlobals "bool" = some none)
    (z10 : PySem.W.nsIn K mainGlobals "int" = some none)
    (z11 : PySem.W.nsIn K mainGlobals "tuple" = some none)
    (z12 : PySem.W.nsIn K mainGlobals "sorted" = some none)
    (z13 : PySem.W.nsIn K mainGlobals "zip" = some none)
    (z14 : PySem.W.nsIn K mainGlobals "ValueError" = some none)
    {tk1 : Tok} (g1 : PySem.W.nsIn K mainGlobals "MOST_HOUSES" = some (some (.int 8 tk1)))
    {tk2 : Tok} (g2 : PySem.W.nsIn K mainGlobals "MOST_CASH" = some (some (.int 999 tk2)))
    {tk3 : Tok} (g3 : PySem.W.nsIn K mainGlobals "MOST_CLAIMS" = some (some (.int 24 tk3)))
    {tk4 : Tok} (g4 : PySem.W.nsIn K mainGlobals "MOST_AMOUNT" = some (some (.int 999 tk4)))
    {tk5 : Tok} (g5 : PySem.W.nsIn K mainGlobals "MOST_RANK" = some (some (.int 9 tk5)))
    : ∃ fd : FuncData, (∀ (s : Shared) (v : Value), BindsTo s fd ⟨[v], []⟩ [("_law_script", v)]) ∧ ∀ base : Heap, K.In base → base.Ns mainGlobals mg → FnOk l.prog w K mg base CX0 21 fa fd ["_law_script"] (spLaw K) := by
  have e := hfa.symm.trans (PySem.W.mg_of X G a26)
  cases e
  have F1 := fun_mk (st := s_need) l1 c1 k1
  have D_need : DefAt K mg "need_book" s_need ["book"] _ _ := ⟨F1, F1.binds (ps := ["book"]) fun _ _ _ _ _ _ us hl => match us, hl with | [_], _ => rfl, PySem.W.mg_of X G a1⟩
  have F2 := fun_mk (st := s_wrong) l2 c2 k2
  have D_wrong : DefAt K mg "_wrong_in_claim" s_wrong ["claim", "houses"] _ _ := ⟨F2, F2.binds (ps := ["claim", "houses"]) fun _ _ _ _ _ _ us hl => match us, hl with | [_, _], _ => rfl, PySem.W.mg_of X G a2⟩
  have F3 := fun_mk (st := s_needh) l3 c3 k3
  have D_needh : DefAt K mg "need_house" s_needh ["book", "house"] _ _ := ⟨F3, F3.binds (ps := ["book", "house"]) fun _ _ _ _ _ _ us hl => match us, hl with | [_, _], _ => rfl, PySem.W.mg_of X G a3⟩
  have F4 := fun_mk (st := s_needhs) l4 c4 k4
  have D_needhs : DefAt K mg "need_houses" s_needhs ["book", "houses"] _ _ := ⟨F4, F4.binds (ps := ["book", "houses"]) fun _ _ _ _ _ _ us hl => match us, hl with | [_, _], _ => rfl, PySem.W.mg_of X G a4⟩
  have F5 := fun_mk (st := s_owed) l5 c5 k5
  have D_owed : DefAt K mg "owed" s_owed ["book", "house"] _ _ := ⟨F5, F5.binds (ps := ["book", "house"]) fun _ _ _ _ _ _ us hl => match us, hl with | [_, _], _ => rfl, PySem.W.mg_of X G a5⟩
  have F6 := fun_mk (st := s_shared) l6 c6 k6
  have D_shared : DefAt K mg "shared" s_shared ["amounts", "coins"] _ _ := ⟨F6, F6.binds (ps := ["amounts", "coins"]) fun _ _ _ _ _ _ us hl => match us, hl with | [_, _], _ => rfl, PySem.W.mg_of X G a6⟩
  have F7 := fun_mk (st := s_first_coins) l7 c7 k7
  have D_first_coins : DefAt K mg "_first_coins" s_first_coins ["amounts", "coins"] _ _ := ⟨F7, F7.binds (ps := ["amounts", "coins"]) fun _ _ _ _ _ _ us hl => match us, hl with | [_, _], _ => rfl, PySem.W.mg_of X G a7⟩
  have F8 := fun_mk (st := s_least_paid) l8 c8 k8
  have D_least_paid : DefAt K mg "_least_paid" s_least_paid ["amounts", "paid"] _ _ := ⟨F8, F8.binds (ps := ["amounts", "paid"]) fun _ _ _ _ _ _ us hl => match us, hl with | [_, _], _ => rfl, PySem.W.mg_of X G a8⟩
  have F9 := fun_mk (st := s_paidby) l9 c9 k9
  have D_paidby : DefAt K mg "paid_by" s_paidby ["book", "house", "means"] _ _ := ⟨F9, F9.binds (ps := ["book", "house", "means"]) fun _ _ _ _ _ _ us hl => match us, hl with | [_, _, _], _ => rfl, PySem.W.mg_of X G a9⟩
  have F10 := fun_mk (st := s_debts) l10 c10 k10
  have D_debts : DefAt K mg "debts_by_rank" s_debts ["claims", "house"] _ _ := ⟨F10, F10.binds (ps := ["claims", "house"]) fun _ _ _ _ _ _ us hl => match us, hl with | [_, _], _ => rfl, PySem.W.mg_of X G a10⟩
  have F11 := fun_mk (st := s_paidw) l11 c11 k11
  have D_paidw : DefAt K mg "paid_with" s_paidw ["debts", "means"] _ _ := ⟨F11, F11.binds (ps := ["debts", "means"]) fun _ _ _ _ _ _ us hl => match us, hl with | [_, _], _ => rfl, PySem.W.mg_of X G a11⟩
  have F12 := fun_mk (st := s_left) l12 c12 k12
  have D_left : DefAt K mg "left" s_left ["book", "payments"] _ _ := ⟨F12, F12.binds (ps := ["book", "payments"]) fun _ _ _ _ _ _ us hl => match us, hl with | [_, _], _ => rfl, PySem.W.mg_of X G a12⟩
  have F13 := fun_mk (st := s_isclr) l13 c13 k13
  have D_isclr : DefAt K mg "is_clearing" s_isclr ["book", "payments"] _ _ := ⟨F13, F13.binds (ps := ["book", "payments"]) fun _ _ _ _ _ _ us hl => match us, hl with | [_, _], _ => rfl, PySem.W.mg_of X G a13⟩
  have F14 := fun_mk (st := s_best) l14 c14 k14
  have D_best : DefAt K mg "best" s_best ["book"] _ _ := ⟨F14, F14.binds (ps := ["book"]) fun _ _ _ _ _ _ us hl => match us, hl with | [_], _ => rfl, PySem.W.mg_of X G a14⟩
  have F15 := fun_mk (st := s_needp) l15 c15 k15
  have D_needp : DefAt K mg "_need_payments" s_needp ["book", "payments"] _ _ := ⟨F15, F15.binds (ps := ["book", "payments"]) fun _ _ _ _ _ _ us hl => match us, hl with | [_, _], _ => rfl, PySem.W.mg_of X G a15⟩
  have F16 := fun_mk (st := s_allpaid) l16 c16 k16
  have D_allpaid : DefAt K mg "all_paid" s_allpaid ["book"] _ _ := ⟨F16, F16.binds (ps := ["book"]) fun _ _ _ _ _ _ us hl => match us, hl with | [_], _ => rfl, PySem.W.mg_of X G a16⟩
  have F17 := fun_mk (st := s_meansby) l17 c17 k17
  have D_meansby : DefAt K mg "means_by" s_meansby ["book", "payments"] _ _ := ⟨F17, F17.binds (ps := ["book", "payments"]) fun _ _ _ _ _ _ us hl => match us, hl with | [_, _], _ => rfl, PySem.W.mg_of X G a17⟩
  have F18 := fun_mk (st := s_felled) l18 c18 k18
  have D_felled : DefAt K mg "felled" s_felled ["book", "house"] _ _ := ⟨F18, F18.binds (ps := ["book", "house"]) fun _ _ _ _ _ _ us hl => match us, hl with | [_, _], _ => rfl, PySem.W.mg_of X G a18⟩
  have F19 := fun_mk (st := s_needs) l19 c19 k19
  have D_needs : DefAt K mg "needs" s_needs ["book", "house"] _ _ := ⟨F19, F19.binds (ps := ["book", "house"]) fun _ _ _ _ _ _ us hl => match us, hl with | [_, _], _ => rfl, PySem.W.mg_of X G a19⟩
  have F20 := fun_mk (st := s_merged) l20 c20 k20
  have D_merged : DefAt K mg "merged" s_merged ["book", "one", "other"] _ _ := ⟨F20, F20.binds (ps := ["book", "one", "other"]) fun _ _ _ _ _ _ us hl => match us, hl with | [_, _, _], _ => rfl, PySem.W.mg_of X G a20⟩
  have F21 := fun_mk (st := s_stilled) l21 c21 k21
  have D_stilled : DefAt K mg "stilled" s_stilled ["book", "picks"] _ _ := ⟨F21, F21.binds (ps := ["book", "picks"]) fun _ _ _ _ _ _ us hl => match us, hl with | [_, _], _ => rfl, PySem.W.mg_of X G a21⟩
  have F22 := fun_mk (st := s_next) l22 c22 k22
  have D_next : DefAt K mg "_law_next" s_next ["_law_h", "_law_many"] _ _ := ⟨F22, F22.binds (ps := ["_law_h", "_law_many"]) fun _ _ _ _ _ _ us hl => match us, hl with | [_, _], _ => rfl, PySem.W.mg_of X G a22⟩
  have F23 := fun_mk (st := s_lbook) l23 c23 k23
  have D_lbook : DefAt K mg "_law_book" s_lbook ["_law_h", "_law_houses", "_law_claims", "_law_wide"] _ _ := ⟨F23, F23.binds (ps := ["_law_h", "_law_houses", "_law_claims", "_law_wide"]) fun _ _ _ _ _ _ us hl => match us, hl with | [_, _, _, _], _ => rfl, PySem.W.mg_of X G a23⟩
  have F24 := fun_mk (st := s_ask) l24 c24 k24
  have D_ask : DefAt K mg "_law_ask" s_ask ["_law_way", "_law_book_here", "_law_house", "_law_payments"] _ _ := ⟨F24, F24.binds (ps := ["_law_way", "_law_book_here", "_law_house", "_law_payments"]) fun _ _ _ _ _ _ us hl => match us, hl with | [_, _, _, _], _ => rfl, PySem.W.mg_of X G a24⟩
  have F25 := fun_mk (st := s_kind) l25 c25 k25
  have D_kind : DefAt K mg "_law_kind" s_kind ["_law_way", "_law_book_here", "_law_house", "_law_payments"] _ _ := ⟨F25, F25.binds (ps := ["_law_way", "_law_book_here", "_law_house", "_law_payments"]) fun _ _ _ _ _ _ us hl => match us, hl with | [_, _, _, _], _ => rfl, PySem.W.mg_of X G a25⟩
  have F26 := fun_mk (st := s_law) l26 c26 k26
  have D_law : DefAt K mg "law" s_law ["_law_script"] _ _ := ⟨F26, F26.binds (ps := ["_law_script"]) fun _ _ _ _ _ _ us hl => match us, hl with | [_], _ => rfl, PySem.W.mg_of X G a26⟩
  have m_range : mg "range" = none := PySem.W.mg_none_of X G z1
  have m_len : mg "len" = none := PySem.W.mg_none_of X G z2
  have m_max : mg "max" = none := PySem.W.mg_none_of X G z3
  have m_min : mg "min" = none := PySem.W.mg_none_of X G z4
  have m_sum : mg "sum" = none := PySem.W.mg_none_of X G z5
  have m_list : mg "list" = none := PySem.W.mg_none_of X G z6
  have m_enumerate : mg "enumerate" = none := PySem.W.mg_none_of X G z7
  have m_isinstance : mg "isinstance" = none := PySem.W.mg_none_of X G z8
  have m_bool : mg "bool" = none := PySem.W.mg_none_of X G z9
  have m_int : mg "int" = none := PySem.W.mg_none_of X G z10
  have m_tuple : mg "tuple" = none := PySem.W.mg_none_of X G z11
  have m_sorted : mg "sorted" = none := PySem.W.mg_none_of X G z12
  have m_zip : mg "zip" = none := PySem.W.mg_none_of X G z13
  have m_ValueError : mg "ValueError" = none := PySem.W.mg_none_of X G z14
  have L : Lims mg := ⟨⟨_, PySem.W.mg_of X G g1⟩, ⟨_, PySem.W.mg_of X G g2⟩, ⟨_, PySem.W.mg_of X G g3⟩, ⟨_, PySem.W.mg_of X G g4⟩, ⟨_, PySem.W.mg_of X G g5⟩⟩
  have esup2 : mg "super" = none := PySem.W.mg_none_of X G esup
  have X_FallError : OwnAt K mg "FallError" C_FallError := ⟨ex0, PySem.W.mg_of X G eg0, ek0, es0, et0⟩
  have X_BadBook : InitAt l.prog K mg "BadBook" C_BadBook xf1 xc1 xd1 _ "BadBook.__init__" s_bbinit ["self", "at", "why"] := ⟨⟨⟨_, _, _, _, _, _, _, _, rfl, el1⟩, ej1, ⟨_, _, _, _, _, _, eo1, ep1, eq1⟩, ⟨_, _, _, er1⟩, Option.isSome_iff_exists.mp eu1, ev1, esup2, etop, ew1, ez1, eany⟩, ⟨⟨_, _, _, _, _, _, _, _, _, _, _, _, _, _, _, ex1, eb1⟩, ea1, es1, et1, ek1⟩, ei1, ey1, .all fun us hl => match us, hl with | [_, _, _], _ => rfl, PySem.W.mg_of X G eg1⟩
  have X_NoHouse : OwnAt K mg "NoHouse" C_NoHouse := ⟨ex2, PySem.W.mg_of X G eg2, ek2, es2, et2⟩
  have X_BadPayments : OwnAt K mg "BadPayments" C_BadPayments := ⟨ex3, PySem.W.mg_of X G eg3, ek3, es3, et3⟩
  have X_NoMove : InitAt l.prog K mg "NoMove" C_NoMove xf4 xc4 xd4 _ "NoMove.__init__" s_nminit ["self", "number"] := ⟨⟨⟨_, _, _, _, _, _, _, _, rfl, el4⟩, ej4, ⟨_, _, _, _, _, _, eo4, ep4, eq4⟩, ⟨_, _, _, er4⟩, Option.isSome_iff_exists.mp eu4, ev4, esup2, etop, ew4, ez4, eany⟩, ⟨⟨_, _, _, _, _, _, _, _, _, _, _, _, _, _, _, ex4, eb4⟩, ea4, es4, et4, ek4⟩, ei4, ey4, .all fun us hl => match us, hl with | [_, _], _ => rfl, PySem.W.mg_of X G eg4⟩
  have X_BadText : InitAt l.prog K mg "BadText" C_BadText xf5 xc5 xd5 _ "BadText.__init__" s_btinit ["self", "row"] := ⟨⟨⟨_, _, _, _, _, _, _, _, rfl, el5⟩, ej5, ⟨_, _, _, _, _, _, eo5, ep5, eq5⟩, ⟨_, _, _, er5⟩, Option.isSome_iff_exists.mp eu5, ev5, esup2, etop, ew5, ez5, eany⟩, ⟨⟨_, _, _, _, _, _, _, _, _, _, _, _, _, _, _, ex5, eb5⟩, ea5, es5, et5, ek5⟩, ei5, ey5, .all fun us hl => match us, hl with | [_, _], _ => rfl, PySem.W.mg_of X G eg5⟩
  exact ⟨PySem.W.fnOf "law" "law" (defArgs s_law) (defBody s_law) (defScope s_law) .none kV26 dc26 pm26 an26 cd26 ct26, fun s v => .of_eq rfl, fun base _ _ => ok_law (D := D_law) (X_FallError := X_FallError) (X_BadBook := X_BadBook) (X_NoHouse := X_NoHouse) (X_BadPayments := X_BadPayments) (X_NoMove := X_NoMove) (X_BadText := X_BadText) (xsp := xsp) (xtk := xtk) (xfd := xfd) (hga := hga) (hgt := hgt) (hhd := hhd) (hcl := hcl) (hmo := hmo) (hsb := hsb) (hk1 := hk1) (hk2 := hk2) (hk3 := hk3) (hk4 := hk4) (pga := pga) (pgt := pgt) (phd := phd) (pcl := pcl) (pmo := pmo) (psb := psb) (pk1 := pk1) (pk2 := pk2) (pk3 := pk3) (pk4 := pk4) (L := L) (m_range := m_range) (m_len := m_len) (m_max := m_max) (m_min := m_min) (m_sum := m_sum) (m_list := m_list) (m_enumerate := m_enumerate) (m_isinstance := m_isinstance) (m_bool := m_bool) (m_int := m_int) (m_tuple := m_tuple) (m_sorted := m_sorted) (m_zip := m_zip) (m_ValueError := m_ValueError) (D_need := D_need) (D_wrong := D_wrong) (D_needh := D_needh) (D_needhs := D_needhs) (D_owed := D_owed) (D_shared := D_shared) (D_first_coins := D_first_coins) (D_least_paid := D_least_paid) (D_paidby := D_paidby) (D_debts := D_debts) (D_paidw := D_paidw) (D_left := D_left) (D_isclr := D_isclr) (D_best := D_best) (D_needp := D_needp) (D_allpaid := D_allpaid) (D_meansby := D_meansby) (D_felled := D_felled) (D_needs := D_needs) (D_merged := D_merged) (D_stilled := D_stilled) (D_next := D_next) (D_lbook := D_lbook) (D_ask := D_ask) (D_kind := D_kind)⟩
end Rf
open PySem PySem.W PyProof.Rows
set_option maxRecDepth 100000 in
set_option maxHeartbeats 0 in
theorem PySem.Challenge.cw_rankfall_k18_other_refusals_holds : PySem.Challenge.rw_rankfall_k18_other_refusals.Holds := by
  w_on; o_law; k_head; (case hw => w_witness2)
  k_fill
  refine L2.walk_of (l := PySem.Challenge.rw_rankfall_k18_other_refusals) (n := 63) (k := 21) (x := "_law_script") (CX := fun _ => L2.CX0) (sp := fun w => Rf.spLaw _) rfl (by decide) rfl ⟨rfl, by decide, by decide⟩ (fun w h Y => PySem.W.kIn_of Y) ?F (fun _ _ a ns hl _ hS => ⟨a, ns, rfl, hS, hl, fun _ => rfl⟩) (fun _ _ _ _ _ h => h)
  case F =>
    intro w mg fa h KX G hmg
    refine' Rf.all_mk KX G hmg ?eg0 ?ek0 ?es0 ?et0 ?ex0 ?eg1 ?ek1 ?es1 ?et1 ?ex1 ?eb1 ?ea1 ?ei1 ?ey1 ?el1 ?ej1 ?eo1 ?ep1 ?eq1 ?er1 ?eu1 ?ev1 ?ew1 ?ez1 ?eg2 ?ek2 ?es2 ?et2 ?ex2 ?eg3 ?ek3 ?es3 ?et3 ?ex3 ?eg4 ?ek4 ?es4 ?et4 ?ex4 ?eb4 ?ea4 ?ei4 ?ey4 ?el4 ?ej4 ?eo4 ?ep4 ?eq4 ?er4 ?eu4 ?ev4 ?ew4 ?ez4 ?eg5 ?ek5 ?es5 ?et5 ?ex5 ?eb5 ?ea5 ?ei5 ?ey5 ?el5 ?ej5 ?eo5 ?ep5 ?eq5 ?er5 ?eu5 ?ev5 ?ew5 ?ez5 ?esup ?etop ?eany ?xsp ?xtk ?xfd ?hga ?hgt ?hhd ?hcl ?hmo ?hsb ?hk1 ?hk2 ?hk3 ?hk4 ?pga ?pgt ?phd ?pcl ?pmo ?psb ?pk1 ?pk2 ?pk3 ?pk4 ?a1 ?l1 ?c1 ?k1 ?a2 ?l2 ?c2 ?k2 ?a3 ?l3 ?c3 ?k3 ?a4 ?l4 ?c4 ?k4 ?a5 ?l5 ?c5 ?k5 ?a6 ?l6 ?c6 ?k6 ?a7 ?l7 ?c7 ?k7 ?a8 ?l8 ?c8 ?k8 ?a9 ?l9 ?c9 ?k9 ?a10 ?l10 ?c10 ?k10 ?a11 ?l11 ?c11 ?k11 ?a12 ?l12 ?c12 ?k12 ?a13 ?l13 ?c13 ?k13 ?a14 ?l14 ?c14 ?k14 ?a15 ?l15 ?c15 ?k15 ?a16 ?l16 ?c16 ?k16 ?a17 ?l17 ?c17 ?k17 ?a18 ?l18 ?c18 ?k18 ?a19 ?l19 ?c19 ?k19 ?a20 ?l20 ?c20 ?k20 ?a21 ?l21 ?c21 ?k21 ?a22 ?l22 ?c22 ?k22 ?a23 ?l23 ?c23 ?k23 ?a24 ?l24 ?c24 ?k24 ?a25 ?l25 ?c25 ?k25 ?a26 ?l26 ?c26 ?k26 ?z1 ?z2 ?z3 ?z4 ?z5 ?z6 ?z7 ?z8 ?z9 ?z10 ?z11 ?z12 ?z13 ?z14 ?g1 ?g2 ?g3 ?g4 ?g5
    (case eg0 => first | k_is | k_exc | ks_is | kit_is | rfl | decide +kernel)
    (case ek0 => first | k_is | k_exc | ks_is | kit_is | rfl | decide +kernel)
    (case es0 => first | k_is | k_exc | ks_is | kit_is | rfl | decide +kernel)
    (case et0 => first | k_is | k_exc | ks_is | kit_is | rfl | decide +kernel)
    (case ex0 => first | k_is | k_exc | ks_is | kit_is | rfl | decide +kernel)
    (case eg1 => first | k_is | k_exc | ks_is | kit_is | rfl | decide +kernel)
    (case ek1 => first | k_is | k_exc | ks_is | kit_is | rfl | decide +kernel)
    (case es1 => first | k_is | k_exc | ks_is | kit_is | rfl | decide +kernel)
    (case et1 => first | k_is | k_exc | ks_is | kit_is | rfl | decide +kernel)
    (case ex1 => first | k_is | k_exc | ks_is | kit_is | rfl | decide +kernel)
    (case eb1 => first | k_is | k_exc | ks_is | kit_is | rfl | decide +kernel)
    (case ea1 => first | k_is | k_exc | ks_is | kit_is | rfl | decide +kernel)
    (case ei1 => first | k_is | k_exc | ks_is | kit_is | rfl | decide +kernel)
    (case ey1 => first | k_is | k_exc | ks_is | kit_is | rfl | decide +kernel)
    (case el1 => first | k_is | k_exc | ks_is | kit_is | rfl | decide +kernel)
    (case ej1 => first | k_is | k_exc | ks_is | kit_is | rfl | decide +kernel)
    (case eo1 => first | k_is | k_exc | ks_is | kit_is | rfl | decide +kernel)
    (case ep1 => first | k_is | k_exc | ks_is | kit_is | rfl | decide +kernel)
    (case eq1 => first | k_is | k_exc | ks_is | kit_is | rfl | decide +kernel)
    (case er1 => first | k_is | k_exc | ks_is | kit_is | rfl | decide +kernel)
    (case eu1 => first | k_is | k_exc | ks_is | kit_is | rfl | decide +kernel)
    (case ev1 => first | k_is | k_exc | ks_is | kit_is | rfl | decide +kernel)
    (case ew1 => first | k_is | k_exc | ks_is | kit_is | rfl | decide +kernel)
    (case ez1 => first | k_is | k_exc | ks_is | kit_is | rfl | decide +kernel)
    (case eg2 => first | k_is | k_exc | ks_is | kit_is | rfl | decide +kernel)
    (case ek2 => first | k_is | k_exc | ks_is | kit_is | rfl | decide +kernel)
    (case es2 => first | k_is | k_exc | ks_is | kit_is | rfl | decide +kernel)
    (case et2 => first | k_is | k_exc | ks_is | kit_is | rfl | decide +kernel)
    (case ex2 => first | k_is | k_exc | ks_is | kit_is | rfl | decide +kernel)
    (case eg3 => first | k_is | k_exc | ks_is | kit_is | rfl | decide +kernel)
    (case ek3 => first | k_is | k_exc | ks_is | kit_is | rfl | decide +kernel)
    (case es3 => first | k_is | k_exc | ks_is | kit_is | rfl | decide +kernel)
    (case et3 => first | k_is | k_exc | ks_is | kit_is | rfl | decide +kernel)
    (case ex3 => first | k_is | k_exc | ks_is | kit_is | rfl | decide +kernel)
    (case eg4 => first | k_is | k_exc | ks_is | kit_is | rfl | decide +kernel)
    (case ek4 => first | k_is | k_exc | ks_is | kit_is | rfl | decide +kernel)
    (case es4 => first | k_is | k_exc | ks_is | kit_is | rfl | decide +kernel)
    (case et4 => first | k_is | k_exc | ks_is | kit_is | rfl | decide +kernel)
    (case ex4 => first | k_is | k_exc | ks_is | kit_is | rfl | decide +kernel)
    (case eb4 => first | k_is | k_exc | ks_is | kit_is | rfl | decide +kernel)
    (case ea4 => first | k_is | k_exc | ks_is | kit_is | rfl | decide +kernel)
    (case ei4 => first | k_is | k_exc | ks_is | kit_is | rfl | decide +kernel)
    (case ey4 => first | k_is | k_exc | ks_is | kit_is | rfl | decide +kernel)
    (case el4 => first | k_is | k_exc | ks_is | kit_is | rfl | decide +kernel)
    (case ej4 => first | k_is | k_exc | ks_is | kit_is | rfl | decide +kernel)
    (case eo4 => first | k_is | k_exc | ks_is | kit_is | rfl | decide +kernel)
    (case ep4 => first | k_is | k_exc | ks_is | kit_is | rfl | decide +kernel)
    (case eq4 => first | k_is | k_exc | ks_is | kit_is | rfl | decide +kernel)
    (case er4 => first | k_is | k_exc | ks_is | kit_is | rfl | decide +kernel)
    (case eu4 => first | k_is | k_exc | ks_is | kit_is | rfl | decide +kernel)
    (case ev4 => first | k_is | k_exc | ks_is | kit_is | rfl | decide +kernel)
    (case ew4 => first | k_is | k_exc | ks_is | kit_is | rfl | decide +kernel)
    (case ez4 => first | k_is | k_exc | ks_is | kit_is | rfl | decide +kernel)
    (case eg5 => first | k_is | k_exc | ks_is | kit_is | rfl | decide +kernel)
    (case ek5 => first | k_is | k_exc | ks_is | kit_is | rfl | decide +kernel)
    (case es5 => first | k_is | k_exc | ks_is | kit_is | rfl | decide +kernel)
    (case et5 => first | k_is | k_exc | ks_is | kit_is | rfl | decide +kernel)
    (case ex5 => first | k_is | k_exc | ks_is | kit_is | rfl | decide +kernel)
    (case eb5 => first | k_is | k_exc | ks_is | kit_is | rfl | decide +kernel)
    (case ea5 => first | k_is | k_exc | ks_is | kit_is | rfl | decide +kernel)
    (case ei5 => first | k_is | k_exc | ks_is | kit_is | rfl | decide +kernel)
    (case ey5 => first | k_is | k_exc | ks_is | kit_is | rfl | decide +kernel)
    (case el5 => first | k_is | k_exc | ks_is | kit_is | rfl | decide +kernel)
    (case ej5 => first | k_is | k_exc | ks_is | kit_is | rfl | decide +kernel)
    (case eo5 => first | k_is | k_exc | ks_is | kit_is | rfl | decide +kernel)
    (case ep5 => first | k_is | k_exc | ks_is | kit_is | rfl | decide +kernel)
    (case eq5 => first | k_is | k_exc | ks_is | kit_is | rfl | decide +kernel)
    (case er5 => first | k_is | k_exc | ks_is | kit_is | rfl | decide +kernel)
    (case eu5 => first | k_is | k_exc | ks_is | kit_is | rfl | decide +kernel)
    (case ev5 => first | k_is | k_exc | ks_is | kit_is | rfl | decide +kernel)
    (case ew5 => first | k_is | k_exc | ks_is | kit_is | rfl | decide +kernel)
    (case ez5 => first | k_is | k_exc | ks_is | kit_is | rfl | decide +kernel)
    (case esup => first | k_is | k_exc | ks_is | kit_is | rfl | decide +kernel)
    (case etop => first | k_is | k_exc | ks_is | kit_is | rfl | decide +kernel)
    (case eany => first | k_is | k_exc | ks_is | kit_is | rfl | decide +kernel)
    (case xsp => first | k_is | k_exc | ks_is | kit_is | rfl | decide +kernel)
    (case xtk => first | k_is | k_exc | ks_is | kit_is | rfl | decide +kernel)
    (case xfd => first | k_is | k_exc | ks_is | kit_is | rfl | decide +kernel)
    (case hga => first | k_is | k_exc | ks_is | kit_is | rfl | decide +kernel)
    (case hgt => first | k_is | k_exc | ks_is | kit_is | rfl | decide +kernel)
    (case hhd => first | k_is | k_exc | ks_is | kit_is | rfl | decide +kernel)
    (case hcl => first | k_is | k_exc | ks_is | kit_is | rfl | decide +kernel)
    (case hmo => first | k_is | k_exc | ks_is | kit_is | rfl | decide +kernel)
    (case hsb => first | k_is | k_exc | ks_is | kit_is | rfl | decide +kernel)
    (case hk1 => first | k_is | k_exc | ks_is | kit_is | rfl | decide +kernel)
    (case hk2 => first | k_is | k_exc | ks_is | kit_is | rfl | decide +kernel)
    (case hk3 => first | k_is | k_exc | ks_is | kit_is | rfl | decide +kernel)
    (case hk4 => first | k_is | k_exc | ks_is | kit_is | rfl | decide +kernel)
    (case pga => first | k_is | k_exc | ks_is | kit_is | rfl | decide +kernel)
    (case pgt => first | k_is | k_exc | ks_is | kit_is | rfl | decide +kernel)
    (case phd => first | k_is | k_exc | ks_is | kit_is | rfl | decide +kernel)
    (case pcl => first | k_is | k_exc | ks_is | kit_is | rfl | decide +kernel)
    (case pmo => first | k_is | k_exc | ks_is | kit_is | rfl | decide +kernel)
    (case psb => first | k_is | k_exc | ks_is | kit_is | rfl | decide +kernel)
    (case pk1 => first | k_is | k_exc | ks_is | kit_is | rfl | decide +kernel)
    (case pk2 => first | k_is | k_exc | ks_is | kit_is | rfl | decide +kernel)
    (case pk3 => first | k_is | k_exc | ks_is | kit_is | rfl | decide +kernel)
    (case pk4 => first | k_is | k_exc | ks_is | kit_is | rfl | decide +kernel)
    (case a1 => k_is)
    (case l1 => k_is)
    (case c1 => k_is)
    (case k1 => k_is)
    (case a2 => k_is)
    (case l2 => k_is)
    (case c2 => k_is)
    (case k2 => k_is)
    (case a3 => k_is)
    (case l3 => k_is)
    (case c3 => k_is)
    (case k3 => k_is)
    (case a4 => k_is)
    (case l4 => k_is)
    (case c4 => k_is)
    (case k4 => k_is)
    (case a5 => k_is)
    (case l5 => k_is)
    (case c5 => k_is)
    (case k5 => k_is)
    (case a6 => k_is)
    (case l6 => k_is)
    (case c6 => k_is)
    (case k6 => k_is)
    (case a7 => k_is)
    (case l7 => k_is)
    (case c7 => k_is)
    (case k7 => k_is)
    (case a8 => k_is)
    (case l8 => k_is)
    (case c8 => k_is)
    (case k8 => k_is)
    (case a9 => k_is)
    (case l9 => k_is)
    (case c9 => k_is)
    (case k9 => k_is)
    (case a10 => k_is)
    (case l10 => k_is)
    (case c10 => k_is)
    (case k10 => k_is)
    (case a11 => k_is)
    (case l11 => k_is)
    (case c11 => k_is)
    (case k11 => k_is)
    (case a12 => k_is)
    (case l12 => k_is)
    (case c12 => k_is)
    (case k12 => k_is)
    (case a13 => k_is)
    (case l13 => k_is)
    (case c13 => k_is)
    (case k13 => k_is)
    (case a14 => k_is)
    (case l14 => k_is)
    (case c14 => k_is)
    (case k14 => k_is)
    (case a15 => k_is)
    (case l15 => k_is)
    (case c15 => k_is)
    (case k15 => k_is)
    (case a16 => k_is)
    (case l16 => k_is)
    (case c16 => k_is)
    (case k16 => k_is)
    (case a17 => k_is)
    (case l17 => k_is)
    (case c17 => k_is)
    (case k17 => k_is)
    (case a18 => k_is)
    (case l18 => k_is)
    (case c18 => k_is)
    (case k18 => k_is)
    (case a19 => k_is)
    (case l19 => k_is)
    (case c19 => k_is)
    (case k19 => k_is)
    (case a20 => k_is)
    (case l20 => k_is)
    (case c20 => k_is)
    (case k20 => k_is)
    (case a21 => k_is)
    (case l21 => k_is)
    (case c21 => k_is)
    (case k21 => k_is)
    (case a22 => k_is)
    (case l22 => k_is)
    (case c22 => k_is)
    (case k22 => k_is)
    (case a23 => k_is)
    (case l23 => k_is)
    (case c23 => k_is)
    (case k23 => k_is)
    (case a24 => k_is)
    (case l24 => k_is)
    (case c24 => k_is)
    (case k24 => k_is)
    (case a25 => k_is)
    (case l25 => k_is)
    (case c25 => k_is)
    (case k25 => k_is)
    (case a26 => k_is)
    (case l26 => k_is)
    (case c26 => k_is)
    (case k26 => k_is)
    (case z1 => k_is)
    (case z2 => k_is)
    (case z3 => k_is)
    (case z4 => k_is)
    (case z5 => k_is)
    (case z6 => k_is)
    (case z7 => k_is)
    (case z8 => k_is)
    (case z9 => k_is)
    (case z10 => k_is)
    (case z11 => k_is)
    (case z12 => k_is)
    (case z13 => k_is)
    (case z14 => k_is)
    (case g1 => k_is)
    (case g2 => k_is)
    (case g3 => k_is)
    (case g4 => k_is)
    (case g5 => k_is)


