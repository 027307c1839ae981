import PyProof.Rows.All
import Wide.All
import OpenK.AllK
import Wide.FinOn
import HandS.ForMost
import HandS.IsInst
import HandS.Evl
import HandS.SetKeys
import HandS.More
import HandS.SortRule
import HandS.Flow
import KE.KItemsList
import HandS.ListItems
import HandS.Walk
import HandS.Zip
import HandS.Conv
import HandS.Style
import KE.GoesEnum
import KE.GoesMore
import HandS.Exc
import HandS.ExcOwn
import HandS.WordsExc
import HandS.ExcInit
import HandS.ExcField
import HandS.ExcIs
import HandS.TryOnly
import HandS.TryMany
import HandS.Nested
import HandS.FStr
import KE.KExcSuper
import KE.KExcIs
import KE.RegKIsAll
import KE.RegKSuper
import HandS.Small
import HandS.SortInts
import HandS.TupAny
import HandS.TupMul
import HandS.Text
import PySem.Challenge.RW_rankfall_k16_texts_refused
set_option Elab.async false
set_option linter.all false
set_option maxRecDepth 100000
set_option maxHeartbeats 4000000
namespace Rf
open PySem PySem.Spec PyProof.Rows L2
/-! ### sharing coin by coin -/
def g (l : List Int) (i : Nat) : Int := l.getD i 0
theorem g_get {l : List Int} {i : Nat} (h : i < l.length) : l[i]? = some (g l i) := by
  unfold g
  rw [List.getD_eq_getElem?_getD, List.getElem?_eq_getElem h]
  rfl
theorem g_of {l : List Int} {i : Nat} {x : Int} (h : l[i]? = some x) : g l i = x := by
  unfold g
  rw [List.getD_eq_getElem?_getD, h]
  rfl
theorem g_mem {l : List Int} {i : Nat} (h : i < l.length) : g l i ∈ l := List.mem_of_getElem? (g_get h)
theorem mem_g {l : List Int} {x : Int} (h : x ∈ l) : ∃ i, i < l.length ∧ g l i = x := by
  obtain ⟨i, hi, e⟩ := List.mem_iff_getElem.mp h
  exact ⟨i, hi, g_of (by rw [List.getElem?_eq_getElem hi, e])⟩
theorem g_set_same {l : List Int} {i : Nat} {x : Int} (h : i < l.length) : g (l.set i x) i = x := by
  apply g_of
  rw [List.getElem?_set_self h]
theorem g_set_ne {l : List Int} {i j : Nat} {x : Int} (h : i ≠ j) : g (l.set i x) j = g l j := by
  unfold g
  rw [List.getD_eq_getElem?_getD, List.getD_eq_getElem?_getD, List.getElem?_set_ne h]
theorem ext_g {l m : List Int} (hl : l.length = m.length) (h : ∀ i, i < l.length → g l i = g m i) : l = m := by
  apply List.ext_getElem? 
  intro i
  by_cases hi : i < l.length
  · rw [g_get hi, g_get (hl ▸ hi), h i hi]
  · rw [List.getElem?_eq_none (by omega), List.getElem?_eq_none (by omega)]
theorem sum_set_g : ∀ {l : List Int} {j : Nat} {y : Int}, j < l.length → (l.set j y).sum = l.sum - g l j + y
  | [], j, y, h => by simp at h
  | a :: r, 0, y, h => by
    show (y :: r).sum = (a :: r).sum - a + y
    rw [List.sum_cons, List.sum_cons]
    omega
  | a :: r, j + 1, y, h => by
    have ih := sum_set_g (l := r) (j := j) (y := y) (by simpa using h)
    show (a :: r.set j y).sum = (a :: r).sum - g r j + y
    rw [List.sum_cons, List.sum_cons, ih]
    omega
theorem sum_le_of : ∀ {l m : List Int}, l.length = m.length → (∀ i, i < l.length → g l i ≤ g m i) → l.sum ≤ m.sum
  | [], [], _, _ => Int.le_refl _
  | [], _ :: _, h, _ => by simp at h
  | _ :: _, [], h, _ => by simp at h
  | a :: r, b :: s, hl, h => by
    have h0 : a ≤ b := h 0 (by simp)
    have ih := sum_le_of (l := r) (m := s) (by simpa using hl) (fun i hi => h (i + 1) (by simpa using hi))
    rw [List.sum_cons, List.sum_cons]
    omega
theorem eq_of_sum_le : ∀ {l m : List Int}, l.length = m.length → (∀ i, i < l.length → g l i ≤ g m i) → m.sum ≤ l.sum → l = m
  | [], [], _, _, _ => rfl
  | [], _ :: _, h, _, _ => by simp at h
  | _ :: _, [], h, _, _ => by simp at h
  | a :: r, b :: s, hl, h, hs => by
    have h0 : a ≤ b := h 0 (by simp)
    have hr : ∀ i, i < r.length → g r i ≤ g s i := fun i hi => h (i + 1) (by simpa using hi)
    have hl2 : r.length = s.length := by simpa using hl
    have h1 := sum_le_of hl2 hr
    rw [List.sum_cons, List.sum_cons] at hs
    have e : a = b := by omega
    rw [e, eq_of_sum_le hl2 hr (by omega)]
theorem sum_nonneg {l : List Int} (h : ∀ i, i < l.length → 0 ≤ g l i) : 0 ≤ l.sum := by
  have := sum_le_of (l := List.replicate l.length 0) (m := l) (by simp) (fun i hi => by
    have e : g (List.replicate l.length 0) i = 0 := by
      apply g_of
      rw [List.getElem?_replicate, if_pos (by simpa using hi)]
    rw [e]
    exact h i (by simpa using hi))
  have e : (List.replicate l.length (0 : Int)).sum = 0 := by
    generalize l.length = n
    induction n with
    | zero => rfl
    | succ n ih => rw [List.replicate_succ, List.sum_cons, ih]; rfl
  omega

/-- the least part's first place among those that aren't full, of the first n -/
def firstUp (a p : List Int) : Nat → Option Nat
  | 0 => none
  | k + 1 => match firstUp a p k with
    | none => if g p k < g a k then some k else none
    | some f => if g p k < g a k ∧ g p k * g a f < g p f * g a k then some k else some f
/-- the next coin goes to it -/
def nextS (a p : List Int) : List Int := match firstUp a p a.length with
  | some f => p.set f (g p f + 1)
  | none => p
def steps (a : List Int) : Nat → List Int → List Int
  | 0, p => p
  | n + 1, p => nextS a (steps a n p)
def zeros (a : List Int) : List Int := List.replicate a.length 0
def shareN (a : List Int) (n : Nat) : List Int := steps a n (zeros a)
/-- what each amount gets of c coins -/
def share (a : List Int) (c : Int) : List Int := shareN a (min c a.sum).toNat

theorem firstUp_none {a p : List Int} : ∀ {n : Nat}, firstUp a p n = none → ∀ j, j < n → ¬ g p j < g a j
  | 0, _, j, hj => absurd hj (Nat.not_lt_zero _)
  | k + 1, h, j, hj => by
    unfold firstUp at h
    cases e : firstUp a p k with
    | none =>
      rw [e] at h
      simp only at h
      by_cases hk : g p k < g a k
      · rw [if_pos hk] at h; cases h
      · by_cases hjk : j = k
        · subst hjk; exact hk
        · exact firstUp_none e j (by omega)
    | some f =>
      rw [e] at h
      simp only at h
      split at h <;> cases h
/-- what the chosen one is -/
structure IsFirst (a p : List Int) (n f : Nat) : Prop where
  lt : f < n
  room : g p f < g a f
  least : ∀ j, j < n → g p j < g a j → g p f * g a j < g p j * g a f ∨ (g p f * g a j = g p j * g a f ∧ f ≤ j)
/-- comparing parts is transitive -/
theorem part_trans {x y z a b c : Int} (ha : 0 < a) (hb : 0 < b) (hc : 0 < c) (h1 : x * b ≤ y * a) (h2 : y * c ≤ z * b) : x * c ≤ z * a := by
  have e1 : x * b * c ≤ y * a * c := Int.mul_le_mul_of_nonneg_right h1 (by omega)
  have e2 : y * c * a ≤ z * b * a := Int.mul_le_mul_of_nonneg_right h2 (by omega)
  have e3 : y * a * c = y * c * a := by rw [Int.mul_assoc, Int.mul_comm a c, ← Int.mul_assoc]
  have e4 : x * b * c = x * c * b := by rw [Int.mul_assoc, Int.mul_comm b c, ← Int.mul_assoc]
  have e5 : z * b * a = z * a * b := by rw [Int.mul_assoc, Int.mul_comm b a, ← Int.mul_assoc]
  have e6 : x * c * b ≤ z * a * b := by rw [← e4, ← e5]; omega
  exact Int.le_of_mul_le_mul_right e6 hb
theorem part_trans_lt {x y z a b c : Int} (ha : 0 < a) (hb : 0 < b) (hc : 0 < c) (h1 : x * b < y * a) (h2 : y * c ≤ z * b) : x * c < z * a := by
  have e1 : x * b * c < y * a * c := Int.mul_lt_mul_of_pos_right h1 hc
  have e2 : y * c * a ≤ z * b * a := Int.mul_le_mul_of_nonneg_right h2 (by omega)
  have e3 : y * a * c = y * c * a := by rw [Int.mul_assoc, Int.mul_comm a c, ← Int.mul_assoc]
  have e4 : x * b * c = x * c * b := by rw [Int.mul_assoc, Int.mul_comm b c, ← Int.mul_assoc]
  have e5 : z * b * a = z * a * b := by rw [Int.mul_assoc, Int.mul_comm b a, ← Int.mul_assoc]
  have e6 : x * c * b < z * a * b := by rw [← e4, ← e5]; omega
  exact Int.lt_of_mul_lt_mul_right e6 (by omega)
theorem firstUp_some {a p : List Int} (pos : ∀ i, i < a.length → 0 < g a i) : ∀ {n : Nat} {f : Nat}, n ≤ a.length → firstUp a p n = some f → IsFirst a p n f
  | 0, f, _, h => by cases h
  | k + 1, f, hn, h => by
    unfold firstUp at h
    have pk : 0 < g a k := pos k (by omega)
    cases e : firstUp a p k with
    | none =>
      rw [e] at h
      simp only at h
      by_cases hk : g p k < g a k
      · rw [if_pos hk] at h; cases h
        refine ⟨Nat.lt_succ_self _, hk, fun j hj hlt => ?_⟩
        by_cases hjk : j = k
        · subst hjk; exact .inr ⟨rfl, Nat.le_refl _⟩
        · exact absurd hlt (firstUp_none e j (by omega))
      · rw [if_neg hk] at h; cases h
    | some f' =>
      rw [e] at h
      simp only at h
      have F := firstUp_some pos (n := k) (by omega) e
      have pf : 0 < g a f' := pos f' (by have := F.lt; omega)
      by_cases hk : g p k < g a k ∧ g p k * g a f' < g p f' * g a k
      · rw [if_pos hk] at h; cases h
        refine ⟨Nat.lt_succ_self _, hk.1, fun j hj hlt => ?_⟩
        by_cases hjk : j = k
        · subst hjk; exact .inr ⟨rfl, Nat.le_refl _⟩
        · left
          have pj : 0 < g a j := pos j (by omega)
          have h1 := hk.2
          have h2 : g p f' * g a j ≤ g p j * g a f' := by
            rcases F.least j (by omega) hlt with q | q <;> omega
          exact part_trans_lt (a := g a k) (b := g a f') (c := g a j) pk pf pj h1 h2
      · rw [if_neg hk] at h; cases h
        refine ⟨by have := F.lt; omega, F.room, fun j hj hlt => ?_⟩
        by_cases hjk : j = k
        · subst hjk
          have : ¬ g p j * g a f < g p f * g a j := fun z => hk ⟨hlt, z⟩
          by_cases e1 : g p f * g a j = g p j * g a f
          · exact .inr ⟨e1, by have := F.lt; omega⟩
          · exact .inl (by omega)
        · exact F.least j (by omega) hlt

/-- a state of the sharing -/
structure Valid (a p : List Int) : Prop where
  len : p.length = a.length
  lo : ∀ i, i < a.length → 0 ≤ g p i
  hi : ∀ i, i < a.length → g p i ≤ g a i
  ord : ∀ i j, i < a.length → j < a.length → 0 < g p i → g p j < g a j → (g p i - 1) * g a j < g p j * g a i ∨ ((g p i - 1) * g a j = g p j * g a i ∧ i < j)
theorem valid_zeros {a : List Int} (pos : ∀ i, i < a.length → 0 < g a i) : Valid a (zeros a) := by
  have z : ∀ i, i < a.length → g (zeros a) i = 0 := fun i hi => by
    apply g_of
    unfold zeros
    rw [List.getElem?_replicate, if_pos hi]
  refine ⟨by simp [zeros], fun i hi => by rw [z i hi]; omega, fun i hi => by rw [z i hi]; have := pos i hi; omega, fun i j hi hj h => ?_⟩
  rw [z i hi] at h
  omega
theorem valid_full {a : List Int} (pos : ∀ i, i < a.length → 0 < g a i) : Valid a a :=
  ⟨rfl, fun i hi => by have := pos i hi; omega, fun i _ => Int.le_refl _, fun i j _ _ _ h => absurd h (Int.lt_irrefl _)⟩
theorem Valid.sum_le {a p : List Int} (V : Valid a p) : p.sum ≤ a.sum := sum_le_of V.len fun i hi => V.hi i (V.len ▸ hi)
theorem Valid.sum_nn {a p : List Int} (V : Valid a p) : 0 ≤ p.sum := sum_nonneg fun i hi => V.lo i (V.len ▸ hi)
theorem Valid.full {a p : List Int} (V : Valid a p) (h : a.sum ≤ p.sum) : p = a := eq_of_sum_le V.len (fun i hi => V.hi i (V.len ▸ hi)) h
theorem Valid.unique {a p q : List Int} (V : Valid a p) (W : Valid a q) (h : p.sum = q.sum) (pos : ∀ i, i < a.length → 0 < g a i) : p = q := by
  by_cases h1 : ∀ i, i < a.length → g p i ≤ g q i
  · exact eq_of_sum_le (V.len.trans W.len.symm) (fun i hi => h1 i (V.len ▸ hi)) (by omega)
  · by_cases h2 : ∀ i, i < a.length → g q i ≤ g p i
    · exact (eq_of_sum_le (W.len.trans V.len.symm) (fun i hi => h2 i (W.len ▸ hi)) (by omega)).symm
    · exfalso
      have h1' : ∃ i, i < a.length ∧ g q i < g p i := Classical.byContradiction fun c => h1 fun i hi => Int.not_lt.mp fun z => c ⟨i, hi, z⟩
      have h2' : ∃ j, j < a.length ∧ g p j < g q j := Classical.byContradiction fun c => h2 fun i hi => Int.not_lt.mp fun z => c ⟨i, hi, z⟩
      obtain ⟨i, hi, di⟩ := h1'
      obtain ⟨j, hj, dj⟩ := h2'
      have ai := pos i hi
      have aj := pos j hj
      have k1 := V.ord i j hi hj (by have := W.lo i hi; omega) (by have := W.hi j hj; omega)
      have k2 := W.ord j i hj hi (by have := V.lo j hj; omega) (by have := V.hi i hi; omega)
      have m1 : g q i * g a j ≤ (g p i - 1) * g a j := Int.mul_le_mul_of_nonneg_right (by omega) (by omega)
      have m2 : g p j * g a i ≤ (g q j - 1) * g a i := Int.mul_le_mul_of_nonneg_right (by omega) (by omega)
      rcases k1 with k1 | ⟨k1, o1⟩ <;> rcases k2 with k2 | ⟨k2, o2⟩ <;> omega
theorem valid_next {a p : List Int} (pos : ∀ i, i < a.length → 0 < g a i) (V : Valid a p) {f : Nat} (F : IsFirst a p a.length f) : Valid a (p.set f (g p f + 1)) := by
  have fl : f < p.length := V.len.symm ▸ F.lt
  refine ⟨by rw [List.length_set]; exact V.len, fun i hi => ?_, fun i hi => ?_, fun i j hi hj h1 h2 => ?_⟩
  · by_cases e : f = i
    · subst e; rw [g_set_same fl]; have := V.lo f hi; omega
    · rw [g_set_ne e]; exact V.lo i hi
  · by_cases e : f = i
    · subst e; rw [g_set_same fl]; have := F.room; omega
    · rw [g_set_ne e]; exact V.hi i hi
  · have ai := pos i hi
    have aj := pos j hj
    by_cases ei : f = i
    · subst ei
      rw [g_set_same fl] at h1 ⊢
      by_cases ej : f = j
      · subst ej
        rw [g_set_same fl] at h2 ⊢
        left
        exact Int.mul_lt_mul_of_pos_right (by omega) aj
      · rw [g_set_ne ej] at h2 ⊢
        have e0 : g p f + 1 - 1 = g p f := by omega
        rw [e0]
        rcases F.least j hj h2 with q | ⟨q, r⟩
        · exact .inl q
        · exact .inr ⟨q, by omega⟩
    · rw [g_set_ne ei] at h1 ⊢
      by_cases ej : f = j
      · subst ej
        rw [g_set_same fl] at h2 ⊢
        left
        have k := V.ord i f hi hj h1 (by omega)
        have m : g p f * g a i < (g p f + 1) * g a i := Int.mul_lt_mul_of_pos_right (by omega) ai
        rcases k with k | ⟨k, _⟩ <;> omega
      · rw [g_set_ne ej] at h2 ⊢
        exact V.ord i j hi hj h1 h2
theorem exists_first {a p : List Int} (V : Valid a p) (h : p.sum < a.sum) (pos : ∀ i, i < a.length → 0 < g a i) : ∃ f, firstUp a p a.length = some f ∧ IsFirst a p a.length f := by
  cases e : firstUp a p a.length with
  | some f => exact ⟨f, rfl, firstUp_some pos (Nat.le_refl _) e⟩
  | none =>
    exfalso
    have h1 := firstUp_none e
    have h2 := sum_le_of (l := a) (m := p) V.len.symm fun i hi => Int.not_lt.mp (h1 i hi)
    omega
theorem nextS_of {a p : List Int} {f : Nat} (h : firstUp a p a.length = some f) : nextS a p = p.set f (g p f + 1) := by
  unfold nextS
  rw [h]
theorem next_ok {a p : List Int} (pos : ∀ i, i < a.length → 0 < g a i) (V : Valid a p) (h : p.sum < a.sum) : Valid a (nextS a p) ∧ (nextS a p).sum = p.sum + 1 := by
  obtain ⟨f, e, F⟩ := exists_first V h pos
  have fl : f < p.length := V.len.symm ▸ F.lt
  rw [nextS_of e]
  refine ⟨valid_next pos V F, ?_⟩
  rw [sum_set_g fl]
  omega
theorem steps_ok {a p : List Int} (pos : ∀ i, i < a.length → 0 < g a i) (V : Valid a p) : ∀ n : Nat, p.sum + n ≤ a.sum → Valid a (steps a n p) ∧ (steps a n p).sum = p.sum + n
  | 0, _ => ⟨V, by simp [steps]⟩
  | n + 1, h => by
    obtain ⟨V1, s1⟩ := steps_ok pos V n (by omega)
    obtain ⟨V2, s2⟩ := next_ok pos V1 (by rw [s1]; omega)
    exact ⟨V2, by show (nextS a (steps a n p)).sum = _; rw [s2, s1]; omega⟩
theorem zeros_sum (a : List Int) : (zeros a).sum = 0 := by
  unfold zeros
  generalize a.length = n
  induction n with
  | zero => rfl
  | succ n ih => rw [List.replicate_succ, List.sum_cons, ih]; rfl
def AllPos (a : List Int) : Prop := ∀ i, i < a.length → 0 < g a i
theorem AllPos.of {a : List Int} (h : ∀ x ∈ a, 0 < x) : AllPos a := fun _ hi => h _ (g_mem hi)
theorem AllPos.sum_nn {a : List Int} (h : AllPos a) : 0 ≤ a.sum := sum_nonneg fun i hi => Int.le_of_lt (h i hi)
theorem share_ok {a : List Int} {c : Int} (pos : AllPos a) (hc : 0 ≤ c) : Valid a (share a c) ∧ (share a c).sum = min c a.sum := by
  have h0 := pos.sum_nn
  have z := zeros_sum a
  obtain ⟨V, s⟩ := steps_ok pos (valid_zeros pos) (min c a.sum).toNat (by rw [z]; omega)
  refine ⟨V, ?_⟩
  show (steps a _ (zeros a)).sum = _
  rw [s, z]
  omega
theorem share_unique {a p : List Int} {c : Int} (pos : AllPos a) (hc : 0 ≤ c) (V : Valid a p) (h : p.sum = min c a.sum) : p = share a c := by
  obtain ⟨W, s⟩ := share_ok pos hc
  exact V.unique W (by rw [h, s]) pos
theorem share_next {a : List Int} {c : Int} (pos : AllPos a) (hc : 0 ≤ c) (h : c < a.sum) : share a (c + 1) = nextS a (share a c) := by
  obtain ⟨W, s⟩ := share_ok pos hc
  obtain ⟨V2, s2⟩ := next_ok pos W (by rw [s]; omega)
  exact (share_unique pos (by omega) V2 (by rw [s2, s]; omega)).symm

/-! ### the program's jump -/
def partsOf (a : List Int) (c : Int) : Int := max 0 (c - a.length + 1)
def startAt (a : List Int) (p : Int) : List Int := a.map fun x => -((-x * p) / a.sum)
theorem g_map {l : List Int} {f : Int → Int} {i : Nat} (h : i < l.length) : g (l.map f) i = f (g l i) := by
  apply g_of
  rw [List.getElem?_map, g_get h]
  rfl
theorem ceil_ge {x p q : Int} (hq : 0 < q) : x * p ≤ -((-x * p) / q) * q := by
  have h := Int.ediv_mul_le (-x * p) (b := q) (by omega)
  have e : -x * p = -(x * p) := Int.neg_mul x p
  rw [Int.neg_mul]
  omega
theorem ceil_lt {x p q : Int} (hq : 0 < q) : (-((-x * p) / q) - 1) * q < x * p := by
  have h := Int.lt_ediv_add_one_mul_self (-x * p) hq
  have e : -x * p = -(x * p) := Int.neg_mul x p
  have e2 : (-((-x * p) / q) - 1) * q = -(((-x * p) / q + 1) * q) := by
    rw [← Int.neg_mul]
    congr 1
    omega
  rw [e2]
  omega
theorem start_valid {a : List Int} {p : Int} (pos : AllPos a) (h0 : 0 ≤ p) (h1 : p ≤ a.sum) (hq : 0 < a.sum) : Valid a (startAt a p) := by
  have sg : ∀ i, i < a.length → g (startAt a p) i = -((-(g a i) * p) / a.sum) := fun i hi => g_map hi
  have ge : ∀ i, i < a.length → g a i * p ≤ g (startAt a p) i * a.sum := fun i hi => by rw [sg i hi]; exact ceil_ge hq
  have lt : ∀ i, i < a.length → (g (startAt a p) i - 1) * a.sum < g a i * p := fun i hi => by rw [sg i hi]; exact ceil_lt hq
  refine ⟨by simp [startAt], fun i hi => ?_, fun i hi => ?_, fun i j hi hj h _ => ?_⟩
  · have ai := pos i hi
    have h2 := ge i hi
    have h3 : 0 ≤ g a i * p := Int.mul_nonneg (by omega) h0
    have h4 : 0 * a.sum ≤ g (startAt a p) i * a.sum := by rw [Int.zero_mul]; omega
    exact Int.le_of_mul_le_mul_right h4 hq
  · have ai := pos i hi
    have h2 := lt i hi
    have h3 : g a i * p ≤ g a i * a.sum := Int.mul_le_mul_of_nonneg_left h1 (by omega)
    have h4 : (g (startAt a p) i - 1) * a.sum < g a i * a.sum := by omega
    have := Int.lt_of_mul_lt_mul_right h4 (by omega)
    omega
  · left
    have ai := pos i hi
    have aj := pos j hj
    have l1 : (g (startAt a p) i - 1) * a.sum * g a j < g a i * p * g a j := Int.mul_lt_mul_of_pos_right (lt i hi) aj
    have l2 : g a j * p * g a i ≤ g (startAt a p) j * a.sum * g a i := Int.mul_le_mul_of_nonneg_right (ge j hj) (by omega)
    have e1 : g a i * p * g a j = g a j * p * g a i := by rw [Int.mul_right_comm, Int.mul_comm (g a i) (g a j), Int.mul_right_comm]
    have e2 : (g (startAt a p) i - 1) * a.sum * g a j = (g (startAt a p) i - 1) * g a j * a.sum := Int.mul_right_comm _ _ _
    have e3 : g (startAt a p) j * a.sum * g a i = g (startAt a p) j * g a i * a.sum := Int.mul_right_comm _ _ _
    have h4 : (g (startAt a p) i - 1) * g a j * a.sum < g (startAt a p) j * g a i * a.sum := by rw [← e2, ← e3]; omega
    exact Int.lt_of_mul_lt_mul_right h4 (by omega)
theorem sum_mul : ∀ (l : List Int) (p : Int), (l.map fun x => x * p).sum = l.sum * p
  | [], p => by simp
  | x :: r, p => by rw [List.map_cons, List.sum_cons, List.sum_cons, sum_mul r p, Int.add_mul]
theorem sum_ceil {q p : Int} (hq : 0 < q) : ∀ (l : List Int), ((l.map fun x => -((-x * p) / q)).sum - l.length) * q ≤ l.sum * p
  | [] => by simp
  | x :: r => by
    have ih := sum_ceil (q := q) (p := p) hq r
    have h := ceil_lt (x := x) (p := p) hq
    rw [List.map_cons, List.sum_cons, List.sum_cons, Int.add_mul, List.length_cons]
    have e : (-((-x * p) / q) + (r.map fun x => -((-x * p) / q)).sum - ((r.length + 1 : Nat) : Int)) = (-((-x * p) / q) - 1) + ((r.map fun x => -((-x * p) / q)).sum - (r.length : Int)) := by omega
    rw [e, Int.add_mul]
    omega
theorem sum_ceil_lt {q p : Int} (hq : 0 < q) : ∀ (l : List Int), l ≠ [] → ((l.map fun x => -((-x * p) / q)).sum - l.length) * q < l.sum * p
  | [], h => absurd rfl h
  | x :: r, _ => by
    have ih := sum_ceil (q := q) (p := p) hq r
    have h := ceil_lt (x := x) (p := p) hq
    rw [List.map_cons, List.sum_cons, List.sum_cons, Int.add_mul, List.length_cons]
    have e : (-((-x * p) / q) + (r.map fun x => -((-x * p) / q)).sum - ((r.length + 1 : Nat) : Int)) = (-((-x * p) / q) - 1) + ((r.map fun x => -((-x * p) / q)).sum - (r.length : Int)) := by omega
    rw [e, Int.add_mul]
    omega
theorem start_sum {a : List Int} {c : Int} (pos : AllPos a) (hc : 0 ≤ c) (h : c < a.sum) : (startAt a (partsOf a c)).sum ≤ c := by
  have hq : 0 < a.sum := by omega
  have ne : a ≠ [] := fun z => by subst z; simp at h; omega
  unfold partsOf
  by_cases hp : 0 ≤ c - a.length + 1
  · rw [Int.max_eq_right hp]
    have h2 := sum_ceil_lt (q := a.sum) (p := c - a.length + 1) hq a ne
    rw [Int.mul_comm a.sum] at h2
    have := Int.lt_of_mul_lt_mul_right h2 (by omega)
    show (a.map _).sum ≤ c
    omega
  · rw [Int.max_eq_left (by omega)]
    have e : startAt a 0 = zeros a := by
      unfold startAt zeros
      apply List.ext_getElem?
      intro i
      rw [List.getElem?_map, List.getElem?_replicate]
      by_cases hi : i < a.length
      · rw [g_get hi, if_pos hi]
        simp
      · rw [List.getElem?_eq_none (by omega), if_neg hi]
        rfl
    rw [e, zeros_sum]
    exact hc
/-- the program's sharing is the coins' -/
theorem prog_share {a : List Int} {c : Int} (pos : AllPos a) (hc : 0 ≤ c) (h : c < a.sum) : steps a (c - (startAt a (partsOf a c)).sum).toNat (startAt a (partsOf a c)) = share a c := by
  have hs := start_sum pos hc h
  have ne : a ≠ [] := fun z => by subst z; simp at h; omega
  have hl : 0 < a.length := List.length_pos_iff.mpr ne
  have V := start_valid (a := a) (p := partsOf a c) pos (by unfold partsOf; omega) (by unfold partsOf; omega) (by omega)
  obtain ⟨W, s⟩ := steps_ok pos V (c - (startAt a (partsOf a c)).sum).toNat (by omega)
  exact share_unique pos hc W (by rw [s]; omega)
theorem full_share {a : List Int} {c : Int} (pos : AllPos a) (hc : 0 ≤ c) (h : a.sum ≤ c) : a = share a c :=
  share_unique pos hc (valid_full pos) (by omega)


end Rf
namespace Rf
open PySem PySem.Spec PyProof.Rows L2
/-! ### books: the mathematics of points 2 to 5 -/
structure Clm where
  d : Int
  c : Int
  a : Int
  r : Int
structure Bk where
  cash : List Int
  claims : List Clm
def Bk.clm (B : Bk) (k : Nat) : Clm := B.claims.getD k ⟨0, 0, 0, 0⟩
/-- a claim that point 2 lets by, among n houses -/
structure GoodC (n : Int) (q : Clm) : Prop where
  d0 : 0 ≤ q.d
  d1 : q.d < n
  c0 : 0 ≤ q.c
  c1 : q.c < n
  ne : q.d ≠ q.c
  a0 : 1 ≤ q.a
  a1 : q.a ≤ 999
  r0 : 1 ≤ q.r
  r1 : q.r ≤ 9
structure Good (B : Bk) : Prop where
  n0 : 1 ≤ B.cash.length
  n1 : B.cash.length ≤ 8
  cash : ∀ x ∈ B.cash, 0 ≤ x ∧ x ≤ 999
  m1 : B.claims.length ≤ 24
  claims : ∀ q ∈ B.claims, GoodC (B.cash.length : Int) q
theorem Bk.clm_get {B : Bk} {k : Nat} (h : k < B.claims.length) : B.claims[k]? = some (B.clm k) := by
  unfold Bk.clm
  rw [List.getD_eq_getElem?_getD, List.getElem?_eq_getElem h]
  rfl
theorem Bk.clm_of {B : Bk} {k : Nat} {q : Clm} (h : B.claims[k]? = some q) : B.clm k = q := by
  unfold Bk.clm
  rw [List.getD_eq_getElem?_getD, h]
  rfl
theorem Good.clm {B : Bk} (G : Good B) {k : Nat} (h : k < B.claims.length) : GoodC (B.cash.length : Int) (B.clm k) := G.claims _ (List.mem_of_getElem? (Bk.clm_get h))
/-- the claims of which h is the debtor; those of rank r; of the first i claims alone -/
def owesUp (B : Bk) (h : Int) (i : Nat) : List Nat := (List.range i).filter fun k => decide ((B.clm k).d = h)
def rankUp (B : Bk) (h r : Int) (i : Nat) : List Nat := (List.range i).filter fun k => decide ((B.clm k).d = h) && decide ((B.clm k).r = r)
def owes (B : Bk) (h : Int) : List Nat := owesUp B h B.claims.length
def ofRank (B : Bk) (h r : Int) : List Nat := rankUp B h r B.claims.length
def amt (B : Bk) (k : Nat) : Int := (B.clm k).a
def amts (B : Bk) (h r : Int) : List Int := (ofRank B h r).map (amt B)
theorem range_filter_succ (f : Nat → Bool) (i : Nat) : (List.range (i + 1)).filter f = (List.range i).filter f ++ (if f i = true then [i] else []) := by
  rw [List.range_succ, List.filter_append, List.filter_cons, List.filter_nil]
theorem mem_owesUp {B : Bk} {h : Int} {i k : Nat} : k ∈ owesUp B h i ↔ k < i ∧ (B.clm k).d = h := by
  unfold owesUp
  rw [List.mem_filter, List.mem_range, decide_eq_true_iff]
theorem mem_rankUp {B : Bk} {h r : Int} {i k : Nat} : k ∈ rankUp B h r i ↔ k < i ∧ (B.clm k).d = h ∧ (B.clm k).r = r := by
  unfold rankUp
  rw [List.mem_filter, List.mem_range, Bool.and_eq_true, decide_eq_true_iff, decide_eq_true_iff]
theorem rankUp_len (B : Bk) (h r : Int) (i : Nat) : (rankUp B h r i).length ≤ i := by
  unfold rankUp
  have := List.length_filter_le (fun k => decide ((B.clm k).d = h) && decide ((B.clm k).r = r)) (List.range i)
  rw [List.length_range] at this
  exact this
theorem owesUp_len (B : Bk) (h : Int) (i : Nat) : (owesUp B h i).length ≤ i := by
  unfold owesUp
  have := List.length_filter_le (fun k => decide ((B.clm k).d = h)) (List.range i)
  rw [List.length_range] at this
  exact this
theorem amts_ok {B : Bk} (G : Good B) (h r : Int) : ∀ x ∈ amts B h r, 1 ≤ x ∧ x ≤ 999 := fun x hx => by
  obtain ⟨k, hk, rfl⟩ := List.mem_map.mp hx
  have q := G.clm (mem_rankUp.mp hk).1
  exact ⟨q.a0, q.a1⟩
/-! the sharing's length; coins below nought are none -/
theorem nextS_len (a p : List Int) : (nextS a p).length = p.length := by
  unfold nextS
  split
  · rw [List.length_set]
  · rfl
theorem steps_len (a : List Int) : ∀ (n : Nat) (p : List Int), (steps a n p).length = p.length
  | 0, _ => rfl
  | n + 1, p => by
    show (nextS a (steps a n p)).length = p.length
    rw [nextS_len, steps_len a n p]
theorem share_len (a : List Int) (c : Int) : (share a c).length = a.length := by
  unfold share shareN
  rw [steps_len]
  exact List.length_replicate
theorem share_max {a : List Int} (pos : AllPos a) (c : Int) : share a (max 0 c) = share a c := by
  have h0 := pos.sum_nn
  unfold share
  have e : (min (max 0 c) a.sum).toNat = (min c a.sum).toNat := by omega
  rw [e]
/-! what a house pays: rank by rank -/
def payFrom (B : Bk) (h : Int) : List Int → Int → List (Nat × Int)
  | [], _ => []
  | r :: rs, m => (ofRank B h r).zip (share (amts B h r) m) ++ payFrom B h rs (m - (share (amts B h r) m).sum)
def ranks9 : List Int := [1, 2, 3, 4, 5, 6, 7, 8, 9]
theorem amts_len (B : Bk) (h r : Int) : (amts B h r).length = (ofRank B h r).length := List.length_map _
theorem pay_keys (B : Bk) (h : Int) : ∀ (rs : List Int) (m : Int), (payFrom B h rs m).map (·.1) = rs.flatMap (ofRank B h)
  | [], _ => rfl
  | r :: rs, m => by
    unfold payFrom
    rw [List.map_append, pay_keys B h rs, List.flatMap_cons]
    congr 1
    exact List.map_fst_zip (by rw [share_len, amts_len]; exact Nat.le_refl _)
theorem mem_flat {B : Bk} {h : Int} {rs : List Int} {k : Nat} : k ∈ rs.flatMap (ofRank B h) ↔ k < B.claims.length ∧ (B.clm k).d = h ∧ (B.clm k).r ∈ rs := by
  rw [List.mem_flatMap]
  constructor
  · rintro ⟨r, hr, hk⟩
    have q := mem_rankUp.mp hk
    exact ⟨q.1, q.2.1, by rw [q.2.2]; exact hr⟩
  · rintro ⟨h1, h2, h3⟩
    exact ⟨_, h3, mem_rankUp.mpr ⟨h1, h2, rfl⟩⟩
theorem nodup_filter_range (f : Nat → Bool) (n : Nat) : ((List.range n).filter f).Nodup := List.nodup_range.filter f
theorem flat_nodup {B : Bk} {h : Int} : ∀ {rs : List Int}, rs.Nodup → (rs.flatMap (ofRank B h)).Nodup
  | [], _ => List.nodup_nil
  | r :: rs, hn => by
    rw [List.flatMap_cons]
    have hn2 := List.nodup_cons.mp hn
    refine List.nodup_append.mpr ⟨nodup_filter_range _ _, flat_nodup hn2.2, fun a ha b hb e => ?_⟩
    subst e
    have q := mem_rankUp.mp ha
    have q2 := (mem_flat.mp hb).2.2
    rw [q.2.2] at q2
    exact hn2.1 q2
theorem ranks9_mem {B : Bk} (G : Good B) {k : Nat} (h : k < B.claims.length) : (B.clm k).r ∈ ranks9 := by
  have q := G.clm h
  have h1 := q.r0
  have h2 := q.r1
  generalize (B.clm k).r = r at *
  have : r = 1 ∨ r = 2 ∨ r = 3 ∨ r = 4 ∨ r = 5 ∨ r = 6 ∨ r = 7 ∨ r = 8 ∨ r = 9 := by omega
  simp only [ranks9, List.mem_cons, List.not_mem_nil, or_false]
  exact this
/-- ranks without a claim may be left out -/
theorem pay_filter (B : Bk) (h : Int) : ∀ (rs : List Int) (m : Int), payFrom B h (rs.filter fun r => !(ofRank B h r).isEmpty) m = payFrom B h rs m
  | [], _ => rfl
  | r :: rs, m => by
    rw [List.filter_cons]
    cases e : (ofRank B h r) with
    | nil =>
      have ea : amts B h r = [] := by
        unfold amts
        rw [e]
        rfl
      have es : share (amts B h r) m = [] := List.eq_nil_of_length_eq_zero (by rw [share_len, ea]; rfl)
      rw [if_neg (by simp)]
      conv => rhs; unfold payFrom
      rw [es, e, pay_filter B h rs]
      show payFrom B h rs m = payFrom B h rs (m - 0)
      rw [Int.sub_zero]
    | cons k t =>
      rw [if_pos (by simp)]
      conv => lhs; unfold payFrom
      conv => rhs; unfold payFrom
      rw [pay_filter B h rs]
/-! sorted lists with like members are one -/
theorem sorted_ext {α : Type} {f : α → Int} : ∀ {l m : List α}, l.Pairwise (fun x y => f x < f y) → m.Pairwise (fun x y => f x < f y) → (∀ x, x ∈ l ↔ x ∈ m) → l = m
  | [], [], _, _, _ => rfl
  | [], y :: m, _, _, h => absurd ((h y).mpr List.mem_cons_self) List.not_mem_nil
  | x :: l, [], _, _, h => absurd ((h x).mp List.mem_cons_self) List.not_mem_nil
  | x :: l, y :: m, hl, hm, h => by
    have hl2 := List.pairwise_cons.mp hl
    have hm2 := List.pairwise_cons.mp hm
    have e : x = y := by
      rcases List.mem_cons.mp ((h x).mp List.mem_cons_self) with q | q
      · exact q
      · rcases List.mem_cons.mp ((h y).mpr List.mem_cons_self) with z | z
        · exact z.symm
        · have := hm2.1 x q
          have := hl2.1 y z
          omega
    subst e
    congr 1
    refine sorted_ext hl2.2 hm2.2 fun z => ⟨fun hz => ?_, fun hz => ?_⟩
    · rcases List.mem_cons.mp ((h z).mp (List.mem_cons_of_mem _ hz)) with q | q
      · subst q
        have := hl2.1 z hz
        omega
      · exact q
    · rcases List.mem_cons.mp ((h z).mpr (List.mem_cons_of_mem _ hz)) with q | q
      · subst q
        have := hm2.1 z hz
        omega
      · exact q
theorem lookup_of {l : List (Nat × Int)} (hn : (l.map (·.1)).Nodup) {k : Nat} {c : Int} (h : (k, c) ∈ l) : l.lookup k = some c := by
  induction l with
  | nil => cases h
  | cons p r ih =>
    obtain ⟨k2, c2⟩ := p
    have hn2 := List.nodup_cons.mp (show (k2 :: r.map (·.1)).Nodup from hn)
    rw [List.lookup_cons]
    rcases List.mem_cons.mp h with e | e
    · cases e
      simp
    · have ne : ¬ k = k2 := fun z => hn2.1 (by rw [← z]; exact List.mem_map_of_mem (f := (·.1)) e)
      have hb : (k == k2) = false := beq_eq_false_iff_ne.mpr ne
      rw [hb]
      exact ih hn2.2 e
/-- what a house pays each of its claims, by the claims' numbers -/
def coinOf (B : Bk) (h m : Int) (k : Nat) : Int := ((payFrom B h ranks9 m).lookup k).getD 0
def payList (B : Bk) (h m : Int) : List (Nat × Int) := (owes B h).map fun k => (k, coinOf B h m k)
theorem pay_nodup (B : Bk) (h m : Int) : ((payFrom B h ranks9 m).map (·.1)).Nodup := by
  rw [pay_keys]
  exact flat_nodup (by decide)
theorem mem_payList {B : Bk} (G : Good B) {h m : Int} {x : Nat × Int} : x ∈ payList B h m ↔ x ∈ payFrom B h ranks9 m := by
  obtain ⟨k, c⟩ := x
  unfold payList
  rw [List.mem_map]
  constructor
  · rintro ⟨k2, hk, e⟩
    cases e
    have q := mem_owesUp.mp hk
    have hm : k ∈ (payFrom B h ranks9 m).map (·.1) := by
      rw [pay_keys]
      exact mem_flat.mpr ⟨q.1, q.2, ranks9_mem G q.1⟩
    obtain ⟨⟨k3, c3⟩, h3, e3⟩ := List.mem_map.mp hm
    have e3' : k3 = k := e3
    subst e3'
    unfold coinOf
    rw [lookup_of (pay_nodup B h m) h3]
    exact h3
  · intro hx
    have hm : k ∈ (payFrom B h ranks9 m).map (·.1) := List.mem_map_of_mem (f := (·.1)) hx
    rw [pay_keys] at hm
    have q := mem_flat.mp hm
    refine ⟨k, mem_owesUp.mpr ⟨q.1, q.2.1⟩, ?_⟩
    unfold coinOf
    rw [lookup_of (pay_nodup B h m) hx]
    rfl
theorem range_pairwise (f : Nat → Bool) (n : Nat) : ((List.range n).filter f).Pairwise (· < ·) := List.pairwise_lt_range.sublist List.filter_sublist
theorem payList_sorted (B : Bk) (h m : Int) : (payList B h m).Pairwise (fun x y => (x.1 : Int) < (y.1 : Int)) := by
  unfold payList
  rw [List.pairwise_map]
  exact (range_pairwise _ _).imp fun h => by simpa using h
/-- any arrangement of what is paid, rising by the claims' numbers, is that list -/
theorem payList_unique {B : Bk} (G : Good B) {h m : Int} {L : List (Nat × Int)} (hs : L.Pairwise (fun x y => (x.1 : Int) < (y.1 : Int))) (hp : L.Perm (payFrom B h ranks9 m)) : L = payList B h m :=
  sorted_ext (f := fun x => (x.1 : Int)) hs (payList_sorted B h m) fun _ => hp.mem_iff.trans (mem_payList G).symm
/-- what a house owes in all -/
def owedIn (B : Bk) (h : Int) : Int := ((owes B h).map (amt B)).sum
theorem pay_len (B : Bk) (h : Int) : ∀ (rs : List Int) (m : Int), (payFrom B h rs m).length = ((rs.map fun r => (ofRank B h r).length)).sum
  | [], _ => rfl
  | r :: rs, m => by
    unfold payFrom
    rw [List.length_append, List.length_zip, share_len, amts_len, Nat.min_self, pay_len B h rs, List.map_cons, List.sum_cons]


end Rf
namespace Rf
open PySem PySem.Spec PyProof.Rows L2
/-! ### clearings: the mathematics of points 3, 5, 6 -/
def sumIf (f : Nat → Bool) (v : Nat → Int) : Nat → Int
  | 0 => 0
  | i + 1 => sumIf f v i + (if f i = true then v i else 0)
theorem sumIf_le {f : Nat → Bool} {v w : Nat → Int} : ∀ {n : Nat}, (∀ k, k < n → f k = true → v k ≤ w k) → sumIf f v n ≤ sumIf f w n
  | 0, _ => Int.le_refl _
  | n + 1, h => by
    have ih := sumIf_le (f := f) (v := v) (w := w) (n := n) fun k hk => h k (by omega)
    unfold sumIf
    by_cases e : f n = true
    · have := h n (Nat.lt_succ_self n) e
      rw [if_pos e, if_pos e]
      omega
    · rw [if_neg e, if_neg e]
      omega
theorem sumIf_congr {f f' : Nat → Bool} {v w : Nat → Int} : ∀ {n : Nat}, (∀ k, k < n → f k = f' k) → (∀ k, k < n → f k = true → v k = w k) → sumIf f v n = sumIf f' w n
  | 0, _, _ => rfl
  | n + 1, h, h2 => by
    have ih := sumIf_congr (f := f) (f' := f') (v := v) (w := w) (n := n) (fun k hk => h k (by omega)) fun k hk => h2 k (by omega)
    unfold sumIf
    rw [ih, ← h n (Nat.lt_succ_self n)]
    by_cases e : f n = true
    · rw [if_pos e, if_pos e, h2 n (Nat.lt_succ_self n) e]
    · rw [if_neg e, if_neg e]
theorem sumIf_nonneg {f : Nat → Bool} {v : Nat → Int} : ∀ {n : Nat}, (∀ k, k < n → f k = true → 0 ≤ v k) → 0 ≤ sumIf f v n
  | 0, _ => Int.le_refl _
  | n + 1, h => by
    have ih := sumIf_nonneg (f := f) (v := v) (n := n) fun k hk => h k (by omega)
    unfold sumIf
    by_cases e : f n = true
    · have := h n (Nat.lt_succ_self n) e
      rw [if_pos e]
      omega
    · rw [if_neg e]
      omega
theorem sumIf_eq_of {f : Nat → Bool} {v w : Nat → Int} : ∀ {n : Nat}, (∀ k, k < n → f k = true → v k ≤ w k) → sumIf f w n ≤ sumIf f v n → ∀ k, k < n → f k = true → v k = w k
  | 0, _, _, k, hk, _ => absurd hk (Nat.not_lt_zero _)
  | n + 1, h, hs, k, hk, hf => by
    have h1 := sumIf_le (f := f) (v := v) (w := w) (n := n) fun k hk => h k (by omega)
    unfold sumIf at hs
    by_cases e : f n = true
    · have h2 := h n (Nat.lt_succ_self n) e
      rw [if_pos e, if_pos e] at hs
      by_cases q : k = n
      · subst q
        omega
      · exact sumIf_eq_of (n := n) (fun k hk => h k (by omega)) (by omega) k (by omega) hf
    · rw [if_neg e, if_neg e] at hs
      have q : k ≠ n := fun z => e (z ▸ hf)
      exact sumIf_eq_of (n := n) (fun k hk => h k (by omega)) (by omega) k (by omega) hf
theorem sumIf_list {f : Nat → Bool} {v : Nat → Int} : ∀ {n : Nat}, (((List.range n).filter f).map v).sum = sumIf f v n
  | 0 => rfl
  | n + 1 => by
    have ih := sumIf_list (f := f) (v := v) (n := n)
    rw [range_filter_succ, List.map_append, List.sum_append, ih]
    show sumIf f v n + _ = sumIf f v n + (if f n = true then v n else 0)
    by_cases e : f n = true
    · rw [if_pos e, if_pos e]
      simp
    · rw [if_neg e, if_neg e]
      simp
theorem sumIf_add {f : Nat → Bool} {v w : Nat → Int} : ∀ {n : Nat}, sumIf f (fun k => v k + w k) n = sumIf f v n + sumIf f w n
  | 0 => rfl
  | n + 1 => by
    unfold sumIf
    rw [sumIf_add (n := n)]
    by_cases e : f n = true
    · rw [if_pos e, if_pos e, if_pos e]
      omega
    · rw [if_neg e, if_neg e, if_neg e]
      omega
theorem perm_sum {l m : List Int} (h : l.Perm m) : l.sum = m.sum := by
  induction h with
  | nil => rfl
  | cons x _ ih => rw [List.sum_cons, List.sum_cons, ih]
  | swap x y l => rw [List.sum_cons, List.sum_cons, List.sum_cons, List.sum_cons]; omega
  | trans _ _ h1 h2 => rw [h1, h2]
/-! more coins: nobody gets less -/
theorem share_step_le {a : List Int} {c : Int} (pos : AllPos a) (hc : 0 ≤ c) (i : Nat) (hi : i < a.length) : g (share a c) i ≤ g (share a (c + 1)) i := by
  by_cases h : c < a.sum
  · rw [share_next pos hc h]
    unfold nextS
    split
    · next f hf =>
      have F := firstUp_some pos (Nat.le_refl _) hf
      have fl : f < (share a c).length := by rw [share_len]; exact F.lt
      by_cases e : f = i
      · subst e
        rw [g_set_same fl]
        omega
      · rw [g_set_ne e]
        exact Int.le_refl _
    · exact Int.le_refl _
  · rw [← full_share pos hc (by omega), ← full_share pos (by omega) (by omega)]
    exact Int.le_refl _
theorem share_mono {a : List Int} {c e : Int} (pos : AllPos a) (hc : 0 ≤ c) (h : c ≤ e) (i : Nat) (hi : i < a.length) : g (share a c) i ≤ g (share a e) i := by
  obtain ⟨n, hn⟩ : ∃ n : Nat, e = c + n := ⟨(e - c).toNat, by omega⟩
  subst hn
  clear h
  induction n with
  | zero =>
    rw [show c + ((0 : Nat) : Int) = c by omega]
    exact Int.le_refl _
  | succ n ih =>
    have h1 := share_step_le pos (c := c + n) (by omega) i hi
    rw [show c + ((n + 1 : Nat) : Int) = c + n + 1 by omega]
    omega
theorem amtsPos {B : Bk} (G : Good B) (x r : Int) : AllPos (amts B x r) := AllPos.of fun z hz => by
  have := amts_ok G x r z hz
  omega
/-- what is paid, entry by entry, with more means -/
theorem pay_mono {B : Bk} (G : Good B) (x : Int) : ∀ (rs : List Int) {m m' : Int}, 0 ≤ m → m ≤ m' → ∀ (j : Nat) (p p' : Nat × Int), (payFrom B x rs m)[j]? = some p → (payFrom B x rs m')[j]? = some p' → p.1 = p'.1 ∧ p.2 ≤ p'.2
  | [], _, _, _, _, j, p, p', h, _ => by cases h
  | r :: rs, m, m', h0, hm, j, p, p', h, h' => by
    unfold payFrom at h h'
    have pos := amtsPos G x r
    have l1 : ((ofRank B x r).zip (share (amts B x r) m)).length = (ofRank B x r).length := by rw [List.length_zip, share_len, amts_len, Nat.min_self]
    have l2 : ((ofRank B x r).zip (share (amts B x r) m')).length = (ofRank B x r).length := by rw [List.length_zip, share_len, amts_len, Nat.min_self]
    have s1 := (share_ok pos h0).2
    have s2 := (share_ok pos (show 0 ≤ m' by omega)).2
    have nn := pos.sum_nn
    by_cases hj : j < (ofRank B x r).length
    · rw [List.getElem?_append_left (by rw [l1]; exact hj)] at h
      rw [List.getElem?_append_left (by rw [l2]; exact hj)] at h'
      obtain ⟨a1, a2⟩ := List.getElem?_zip_eq_some.mp h
      obtain ⟨b1, b2⟩ := List.getElem?_zip_eq_some.mp h'
      have e1 : p.1 = p'.1 := Option.some.inj (a1.symm.trans b1)
      have ms := share_mono pos h0 hm j (by rw [amts_len]; exact hj)
      rw [g_of a2, g_of b2] at ms
      exact ⟨e1, ms⟩
    · rw [List.getElem?_append_right (by rw [l1]; omega), l1] at h
      rw [List.getElem?_append_right (by rw [l2]; omega), l2] at h'
      refine pay_mono G x rs ?_ ?_ _ p p' h h'
      · rw [s1]; omega
      · rw [s1, s2]; omega
theorem pay_between {B : Bk} (G : Good B) (x : Int) : ∀ (rs : List Int) {m : Int}, 0 ≤ m → ∀ p ∈ payFrom B x rs m, 0 ≤ p.2 ∧ p.2 ≤ amt B p.1
  | [], _, _, p, h => by cases h
  | r :: rs, m, h0, p, h => by
    unfold payFrom at h
    have pos := amtsPos G x r
    obtain ⟨W, s1⟩ := share_ok pos h0
    have nn := pos.sum_nn
    rcases List.mem_append.mp h with h | h
    · obtain ⟨j, hj, e⟩ := List.mem_iff_getElem.mp h
      have hz : ((ofRank B x r).zip (share (amts B x r) m))[j]? = some p := by rw [List.getElem?_eq_getElem hj, e]
      obtain ⟨a1, a2⟩ := List.getElem?_zip_eq_some.mp hz
      have hj2 : j < (amts B x r).length := by
        rw [amts_len]
        exact (List.getElem?_eq_some_iff.mp a1).1
      have b1 := W.lo j hj2
      have b2 := W.hi j hj2
      rw [g_of a2] at b1 b2
      have e2 : g (amts B x r) j = amt B p.1 := by
        apply g_of
        unfold amts
        rw [List.getElem?_map, a1]
        rfl
      rw [e2] at b2
      exact ⟨b1, b2⟩
    · exact pay_between G x rs (by rw [s1]; omega) p h
def owedBy (B : Bk) (x : Int) (rs : List Int) : Int := (rs.map fun r => (amts B x r).sum).sum
theorem owedBy_nn {B : Bk} (G : Good B) (x : Int) : ∀ rs : List Int, 0 ≤ owedBy B x rs
  | [] => Int.le_refl _
  | r :: rs => by
    have h1 := (amtsPos G x r).sum_nn
    have h2 := owedBy_nn G x rs
    unfold owedBy at *
    rw [List.map_cons, List.sum_cons]
    omega
theorem pay_sum {B : Bk} (G : Good B) (x : Int) : ∀ (rs : List Int) {m : Int}, 0 ≤ m → ((payFrom B x rs m).map (·.2)).sum = min m (owedBy B x rs)
  | [], m, h0 => by
    show (0 : Int) = min m 0
    omega
  | r :: rs, m, h0 => by
    have pos := amtsPos G x r
    have s1 := (share_ok pos h0).2
    have nn := pos.sum_nn
    have nn2 := owedBy_nn G x rs
    have ih := pay_sum G x rs (m := m - (share (amts B x r) m).sum) (by rw [s1]; omega)
    unfold payFrom
    rw [List.map_append, List.sum_append, ih]
    have e : ((ofRank B x r).zip (share (amts B x r) m)).map (·.2) = share (amts B x r) m := List.map_snd_zip (by rw [share_len, amts_len]; exact Nat.le_refl _)
    rw [e, s1]
    have e2 : owedBy B x (r :: rs) = (amts B x r).sum + owedBy B x rs := by
      unfold owedBy
      rw [List.map_cons, List.sum_cons]
    rw [e2]
    omega
/-! the coins of a claim -/
theorem coin_mem {B : Bk} (G : Good B) {x m : Int} {k : Nat} (hk : k < B.claims.length) (hd : (B.clm k).d = x) : (k, coinOf B x m k) ∈ payFrom B x ranks9 m :=
  (mem_payList G).mp (List.mem_map.mpr ⟨k, mem_owesUp.mpr ⟨hk, hd⟩, rfl⟩)
theorem coin_lo {B : Bk} (G : Good B) {x m : Int} {k : Nat} (hk : k < B.claims.length) (hd : (B.clm k).d = x) (h0 : 0 ≤ m) : 0 ≤ coinOf B x m k := (pay_between G x ranks9 h0 _ (coin_mem G hk hd)).1
theorem coin_hi {B : Bk} (G : Good B) {x m : Int} {k : Nat} (hk : k < B.claims.length) (hd : (B.clm k).d = x) (h0 : 0 ≤ m) : coinOf B x m k ≤ amt B k := (pay_between G x ranks9 h0 _ (coin_mem G hk hd)).2
theorem coin_mono {B : Bk} (G : Good B) {x m m' : Int} {k : Nat} (hk : k < B.claims.length) (hd : (B.clm k).d = x) (h0 : 0 ≤ m) (h : m ≤ m') : coinOf B x m k ≤ coinOf B x m' k := by
  obtain ⟨j, hj, e⟩ := List.mem_iff_getElem.mp (coin_mem G (m := m) hk hd)
  have h1 : (payFrom B x ranks9 m)[j]? = some (k, coinOf B x m k) := by rw [List.getElem?_eq_getElem hj, e]
  have hl : j < (payFrom B x ranks9 m').length := by
    rw [pay_len] at hj ⊢
    exact hj
  have h2 := List.getElem?_eq_getElem hl
  obtain ⟨q1, q2⟩ := pay_mono G x ranks9 h0 h j _ _ h1 h2
  have q3 : ((payFrom B x ranks9 m')[j]).1 = k := q1.symm
  have e2 : coinOf B x m' k = ((payFrom B x ranks9 m')[j]).2 := by
    unfold coinOf
    rw [lookup_of (c := ((payFrom B x ranks9 m')[j]).2) (pay_nodup B x m') (by rw [← q3]; exact List.getElem_mem hl)]
    rfl
  rw [e2]
  exact q2
theorem coin_sum {B : Bk} (G : Good B) {x m : Int} (h0 : 0 ≤ m) : sumIf (fun k => decide ((B.clm k).d = x)) (coinOf B x m) B.claims.length = min m (owedBy B x ranks9) := by
  rw [← pay_sum G x ranks9 h0, ← sumIf_list]
  have hp : (payList B x m).Perm (payFrom B x ranks9 m) := by
    refine (List.perm_ext_iff_of_nodup ?_ ?_).mpr fun _ => mem_payList G
    · exact (payList_sorted B x m).imp fun h z => by rw [z] at h; omega
    · exact List.Pairwise.of_map (·.1) (fun a b h z => h (by rw [z])) (pay_nodup B x m)
  have h2 := perm_sum (hp.map (·.2))
  rw [← h2]
  unfold payList
  rw [List.map_map]
  rfl
theorem owedBy_all {B : Bk} (G : Good B) (x : Int) : owedBy B x ranks9 = sumIf (fun k => decide ((B.clm k).d = x)) (amt B) B.claims.length := by
  -- with means enough all is paid: each claim its amount
  have nn := owedBy_nn G x ranks9
  have h1 := coin_sum G (x := x) (m := owedBy B x ranks9) nn
  rw [Int.min_self] at h1
  have h2 : sumIf (fun k => decide ((B.clm k).d = x)) (coinOf B x (owedBy B x ranks9)) B.claims.length ≤ sumIf (fun k => decide ((B.clm k).d = x)) (amt B) B.claims.length :=
    sumIf_le fun k hk hf => coin_hi G hk (of_decide_eq_true hf) nn
  have h3 : sumIf (fun k => decide ((B.clm k).d = x)) (amt B) B.claims.length = (((ranks9.flatMap (ofRank B x)).map (amt B))).sum := by
    rw [← sumIf_list]
    apply perm_sum
    apply List.Perm.map
    refine (List.perm_ext_iff_of_nodup (nodup_filter_range _ _) (flat_nodup (by decide))).mpr fun k => ?_
    rw [mem_flat, List.mem_filter, List.mem_range, decide_eq_true_iff]
    constructor
    · rintro ⟨q1, q2⟩
      exact ⟨q1, q2, ranks9_mem G q1⟩
    · rintro ⟨q1, q2, _⟩
      exact ⟨q1, q2⟩
  have h4 : ∀ rs : List Int, ((rs.flatMap (ofRank B x)).map (amt B)).sum = owedBy B x rs := fun rs => by
    induction rs with
    | nil => rfl
    | cons r rs ih =>
      rw [List.flatMap_cons, List.map_append, List.sum_append, ih]
      unfold owedBy
      rw [List.map_cons, List.sum_cons]
      rfl
  rw [h3, h4]
theorem owedIn_eq {B : Bk} (G : Good B) (x : Int) : owedIn B x = owedBy B x ranks9 := by
  rw [owedBy_all G, ← sumIf_list]
  rfl
/-- enough means: each claim its amount; too few: some less -/
theorem coin_full {B : Bk} (G : Good B) {x m : Int} {k : Nat} (hk : k < B.claims.length) (hd : (B.clm k).d = x) (h : owedIn B x ≤ m) : coinOf B x m k = amt B k := by
  have nn := owedBy_nn G x ranks9
  rw [owedIn_eq G] at h
  have h1 := coin_sum G (x := x) (m := m) (by omega)
  rw [Int.min_eq_right h, owedBy_all G] at h1
  exact sumIf_eq_of (f := fun k => decide ((B.clm k).d = x)) (v := coinOf B x m) (w := amt B) (n := B.claims.length) (fun k hk hf => coin_hi G hk (of_decide_eq_true hf) (by omega)) (by omega) k hk (decide_eq_true hd)


end Rf
namespace Rf
open PySem PySem.Spec PyProof.Rows L2
/-! ### payments led on: best and worst -/
def meansOf (B : Bk) (x : Int) (P : List Int) : Int := g B.cash x.toNat + sumIf (fun k => decide ((B.clm k).c = x)) (g P) P.length
def paidOut (B : Bk) (x : Int) (P : List Int) : Int := sumIf (fun k => decide ((B.clm k).d = x)) (g P) P.length
structure Pay (B : Bk) (P : List Int) : Prop where
  len : P.length = B.claims.length
  lo : ∀ k, k < B.claims.length → 0 ≤ g P k
  hi : ∀ k, k < B.claims.length → g P k ≤ amt B k
def LeP (P Q : List Int) : Prop := P.length = Q.length ∧ ∀ i, i < P.length → g P i ≤ g Q i
theorem LeP.refl (P : List Int) : LeP P P := ⟨rfl, fun _ _ => Int.le_refl _⟩
theorem LeP.trans {P Q R : List Int} (a : LeP P Q) (b : LeP Q R) : LeP P R := ⟨a.1.trans b.1, fun i hi => Int.le_trans (a.2 i hi) (b.2 i (a.1 ▸ hi))⟩
theorem LeP.anti {P Q : List Int} (a : LeP P Q) (b : LeP Q P) : P = Q := ext_g a.1 fun i hi => Int.le_antisymm (a.2 i hi) (b.2 i (a.1 ▸ hi))
theorem LeP.sum {P Q : List Int} (a : LeP P Q) : P.sum ≤ Q.sum := sum_le_of a.1 a.2
theorem LeP.eq {P Q : List Int} (a : LeP P Q) (h : Q.sum ≤ P.sum) : P = Q := eq_of_sum_le a.1 a.2 h
theorem LeP.lt {P Q : List Int} (a : LeP P Q) (h : P ≠ Q) : P.sum < Q.sum := Int.lt_of_not_ge fun z => h (a.eq z)
/-- what is paid when the houses hs pay with the means that P brings -/
def behind (B : Bk) (hs : List Int) (P : List Int) : List Int := (List.range B.claims.length).map fun k => if (B.clm k).d ∈ hs then coinOf B (B.clm k).d (meansOf B (B.clm k).d P) k else g P k
theorem behind_len (B : Bk) (hs P : List Int) : (behind B hs P).length = B.claims.length := by
  unfold behind
  rw [List.length_map, List.length_range]
theorem g_rangeMap {n k : Nat} {f : Nat → Int} (h : k < n) : g ((List.range n).map f) k = f k := by
  apply g_of
  rw [List.getElem?_map, List.getElem?_range h]
  rfl
theorem g_behind {B : Bk} {hs P : List Int} {k : Nat} (h : k < B.claims.length) : g (behind B hs P) k = if (B.clm k).d ∈ hs then coinOf B (B.clm k).d (meansOf B (B.clm k).d P) k else g P k := g_rangeMap h
theorem g_default {l : List Int} {k : Nat} (h : l.length ≤ k) : g l k = 0 := by
  unfold g
  rw [List.getD_eq_getElem?_getD, List.getElem?_eq_none h]
  rfl
theorem cash_nn {B : Bk} (G : Good B) (i : Nat) : 0 ≤ g B.cash i := by
  by_cases h : i < B.cash.length
  · exact (G.cash _ (g_mem h)).1
  · rw [g_default (by omega)]
    exact Int.le_refl _
theorem means_nn {B : Bk} (G : Good B) {P : List Int} (hP : Pay B P) (x : Int) : 0 ≤ meansOf B x P := by
  have h1 := cash_nn G x.toNat
  have h2 : 0 ≤ sumIf (fun k => decide ((B.clm k).c = x)) (g P) P.length := sumIf_nonneg fun k hk _ => hP.lo k (hP.len ▸ hk)
  unfold meansOf
  omega
theorem means_mono {B : Bk} {P Q : List Int} (h : LeP P Q) (x : Int) : meansOf B x P ≤ meansOf B x Q := by
  have h2 : sumIf (fun k => decide ((B.clm k).c = x)) (g P) P.length ≤ sumIf (fun k => decide ((B.clm k).c = x)) (g Q) P.length := sumIf_le fun k hk _ => h.2 k hk
  unfold meansOf
  rw [← h.1]
  omega
theorem behind_pay {B : Bk} (G : Good B) {hs P : List Int} (hP : Pay B P) : Pay B (behind B hs P) := by
  refine ⟨behind_len B hs P, fun k hk => ?_, fun k hk => ?_⟩
  · rw [g_behind hk]
    split
    · exact coin_lo G hk rfl (means_nn G hP _)
    · exact hP.lo k hk
  · rw [g_behind hk]
    split
    · exact coin_hi G hk rfl (means_nn G hP _)
    · exact hP.hi k hk
theorem behind_mono {B : Bk} (G : Good B) {hs P Q : List Int} (hP : Pay B P) (h : LeP P Q) : LeP (behind B hs P) (behind B hs Q) := by
  refine ⟨by rw [behind_len, behind_len], fun k hk => ?_⟩
  rw [behind_len] at hk
  rw [g_behind hk, g_behind hk]
  split
  · exact coin_mono G hk rfl (means_nn G hP _) (means_mono h _)
  · exact h.2 k (by rw [hP.len]; exact hk)
/-- fewer houses pay by their means: nobody gets less, where all is at most the amounts -/
theorem behind_anti {B : Bk} (G : Good B) {hs hs' P : List Int} (hP : Pay B P) (hsub : ∀ x ∈ hs, x ∈ hs') (hfix : LeP (behind B hs' P) P) : LeP (behind B hs' P) (behind B hs P) := by
  refine ⟨by rw [behind_len, behind_len], fun k hk => ?_⟩
  rw [behind_len] at hk
  have h1 := hfix.2 k (by rw [behind_len]; exact hk)
  rw [g_behind hk] at h1 ⊢
  rw [g_behind hk]
  by_cases e : (B.clm k).d ∈ hs
  · rw [if_pos e, if_pos (hsub _ e)]
    exact Int.le_refl _
  · rw [if_neg e]
    exact h1
def led (B : Bk) (hs : List Int) : Nat → List Int → List Int
  | 0, P => P
  | n + 1, P => behind B hs (led B hs n P)
theorem led_pay {B : Bk} (G : Good B) {hs P : List Int} (hP : Pay B P) : ∀ n, Pay B (led B hs n P)
  | 0 => hP
  | n + 1 => behind_pay G (led_pay G hP n)
theorem led_fixed {B : Bk} {hs P : List Int} (h : behind B hs P = P) : ∀ n, led B hs n P = P
  | 0 => rfl
  | n + 1 => by
    show behind B hs (led B hs n P) = P
    rw [led_fixed h n, h]
theorem led_succ' {B : Bk} {hs : List Int} : ∀ (n : Nat) (P : List Int), led B hs (n + 1) P = led B hs n (behind B hs P)
  | 0, _ => rfl
  | n + 1, P => by
    show behind B hs (led B hs (n + 1) P) = behind B hs (led B hs n (behind B hs P))
    rw [led_succ' n P]
theorem led_stays {B : Bk} {hs P : List Int} {n m : Nat} (h : behind B hs (led B hs n P) = led B hs n P) (hm : n ≤ m) : led B hs m P = led B hs n P := by
  obtain ⟨d, rfl⟩ : ∃ d, m = n + d := ⟨m - n, by omega⟩
  induction d with
  | zero => rfl
  | succ d ih =>
    show behind B hs (led B hs (n + d) P) = _
    rw [ih (by omega), h]
theorem led_down {B : Bk} (G : Good B) {hs P : List Int} (hP : Pay B P) (h : LeP (behind B hs P) P) : ∀ n, LeP (led B hs (n + 1) P) (led B hs n P)
  | 0 => h
  | n + 1 => behind_mono G (led_pay G hP (n + 1)) (led_down G hP h n)
theorem led_up {B : Bk} (G : Good B) {hs P : List Int} (hP : Pay B P) (h : LeP P (behind B hs P)) : ∀ n, LeP (led B hs n P) (led B hs (n + 1) P)
  | 0 => h
  | n + 1 => behind_mono G (led_pay G hP n) (led_up G hP h n)
theorem Pay.sum_nn {B : Bk} {P : List Int} (h : Pay B P) : 0 ≤ P.sum := sum_nonneg fun i hi => h.lo i (h.len ▸ hi)
def allP (B : Bk) : List Int := B.claims.map (·.a)
theorem g_allP {B : Bk} {k : Nat} (h : k < B.claims.length) : g (allP B) k = amt B k := by
  apply g_of
  unfold allP
  rw [List.getElem?_map, Bk.clm_get h]
  rfl
theorem allP_len (B : Bk) : (allP B).length = B.claims.length := List.length_map _
def noneP (B : Bk) : List Int := List.replicate B.claims.length 0
theorem g_noneP {B : Bk} {k : Nat} (h : k < B.claims.length) : g (noneP B) k = 0 := by
  apply g_of
  unfold noneP
  rw [List.getElem?_replicate, if_pos h]
theorem noneP_len (B : Bk) : (noneP B).length = B.claims.length := List.length_replicate
theorem amt_pos {B : Bk} (G : Good B) {k : Nat} (h : k < B.claims.length) : 1 ≤ amt B k ∧ amt B k ≤ 999 := ⟨(G.clm h).a0, (G.clm h).a1⟩
theorem allP_pay {B : Bk} (G : Good B) : Pay B (allP B) := ⟨allP_len B, fun k hk => by rw [g_allP hk]; have := amt_pos G hk; omega, fun k hk => by rw [g_allP hk]; exact Int.le_refl _⟩
theorem noneP_pay {B : Bk} (G : Good B) : Pay B (noneP B) := ⟨noneP_len B, fun k hk => by rw [g_noneP hk]; exact Int.le_refl _, fun k hk => by rw [g_noneP hk]; have := amt_pos G hk; omega⟩
theorem le_allP {B : Bk} {P : List Int} (h : Pay B P) : LeP P (allP B) := ⟨by rw [h.len, allP_len], fun k hk => by rw [h.len] at hk; rw [g_allP hk]; exact h.hi k hk⟩
theorem noneP_le {B : Bk} {P : List Int} (h : Pay B P) : LeP (noneP B) P := ⟨by rw [h.len, noneP_len], fun k hk => by rw [noneP_len] at hk; rw [g_noneP hk]; exact h.lo k hk⟩
theorem Pay.sum_le {B : Bk} {P : List Int} (h : Pay B P) : P.sum ≤ (allP B).sum := (le_allP h).sum
/-- down from P0, each turn that changes takes a coin at the least -/
theorem down_fix {B : Bk} (G : Good B) {hs P : List Int} (hP : Pay B P) (h : LeP (behind B hs P) P) : behind B hs (led B hs P.sum.toNat P) = led B hs P.sum.toNat P := by
  refine Classical.byContradiction fun hne => ?_
  have hstep : ∀ n, n ≤ P.sum.toNat → led B hs (n + 1) P ≠ led B hs n P := fun n hn e => hne (by
    have q := led_stays (m := P.sum.toNat) e hn
    rw [q]
    exact e)
  have hsum : ∀ n, n ≤ P.sum.toNat + 1 → (led B hs n P).sum + n ≤ P.sum := fun n => by
    induction n with
    | zero => intro _; show P.sum + 0 ≤ P.sum; omega
    | succ n ih =>
      intro hn
      have h1 := ih (by omega)
      have h2 := (led_down G hP h n).lt (hstep n (by omega))
      omega
  have h3 := hsum (P.sum.toNat + 1) (Nat.le_refl _)
  have h4 := (led_pay G hP (hs := hs) (P.sum.toNat + 1)).sum_nn
  have h5 := hP.sum_nn
  omega
theorem up_fix {B : Bk} (G : Good B) {hs P : List Int} (hP : Pay B P) (h : LeP P (behind B hs P)) {N : Nat} (hN : (allP B).sum - P.sum ≤ N) : behind B hs (led B hs N P) = led B hs N P := by
  refine Classical.byContradiction fun hne => ?_
  have hstep : ∀ n, n ≤ N → led B hs (n + 1) P ≠ led B hs n P := fun n hn e => hne (by
    have q := led_stays (m := N) e hn
    rw [q]
    exact e)
  have hsum : ∀ n, n ≤ N + 1 → P.sum + n ≤ (led B hs n P).sum := fun n => by
    induction n with
    | zero => intro _; show P.sum + 0 ≤ P.sum; omega
    | succ n ih =>
      intro hn
      have h1 := ih (by omega)
      have h2 := (led_up G hP h n).lt (Ne.symm (hstep n (by omega)))
      omega
  have h3 := hsum (N + 1) (Nat.le_refl _)
  have h4 := (led_pay G hP (hs := hs) (N + 1)).sum_le
  omega
/-- of the payments by which hs pay with their means and all others all, those that no claim has less by -/
def topIn (B : Bk) (hs : List Int) : List Int := led B hs (allP B).sum.toNat (allP B)
def lowIn (B : Bk) (hs : List Int) : List Int := led B hs (allP B).sum.toNat (noneP B)
theorem top_start {B : Bk} (G : Good B) (hs : List Int) : LeP (behind B hs (allP B)) (allP B) := le_allP (behind_pay G (allP_pay G))
theorem low_start {B : Bk} (G : Good B) (hs : List Int) : LeP (noneP B) (behind B hs (noneP B)) := noneP_le (behind_pay G (noneP_pay G))
theorem top_pay {B : Bk} (G : Good B) (hs : List Int) : Pay B (topIn B hs) := led_pay G (allP_pay G) _
theorem low_pay {B : Bk} (G : Good B) (hs : List Int) : Pay B (lowIn B hs) := led_pay G (noneP_pay G) _
theorem top_fix {B : Bk} (G : Good B) (hs : List Int) : behind B hs (topIn B hs) = topIn B hs := down_fix G (allP_pay G) (top_start G hs)
theorem low_fix {B : Bk} (G : Good B) (hs : List Int) : behind B hs (lowIn B hs) = lowIn B hs := up_fix G (noneP_pay G) (low_start G hs) (by
  have h1 := (noneP_pay G).sum_nn
  have h2 := (allP_pay G).sum_nn
  omega)
theorem led_ge {B : Bk} (G : Good B) {hs P Q : List Int} (hQ : Pay B Q) (h : LeP Q (behind B hs Q)) (h0 : LeP Q P) : ∀ n, LeP Q (led B hs n P)
  | 0 => h0
  | n + 1 => h.trans (behind_mono G hQ (led_ge G hQ h h0 n))
theorem led_le {B : Bk} (G : Good B) {hs P Q : List Int} (hP : Pay B P) (h : LeP (behind B hs Q) Q) (h0 : LeP P Q) : ∀ n, LeP (led B hs n P) Q
  | 0 => h0
  | n + 1 => (behind_mono G (led_pay G hP n) (led_le G hP h h0 n)).trans h
theorem top_ge {B : Bk} (G : Good B) {hs Q : List Int} (hQ : Pay B Q) (h : LeP Q (behind B hs Q)) : LeP Q (topIn B hs) := led_ge G hQ h (le_allP hQ) _
theorem low_le {B : Bk} (G : Good B) {hs Q : List Int} (hQ : Pay B Q) (h : LeP (behind B hs Q) Q) : LeP (lowIn B hs) Q := led_le G (noneP_pay G) h (noneP_le hQ) _
/-- wherever leading on from all paid comes to rest, that is it -/
theorem top_of_rest {B : Bk} (G : Good B) {hs : List Int} {n : Nat} (h : behind B hs (led B hs n (allP B)) = led B hs n (allP B)) : led B hs n (allP B) = topIn B hs := by
  refine LeP.anti (top_ge G (led_pay G (allP_pay G) n) (by rw [h]; exact LeP.refl _)) ?_
  exact led_ge G (top_pay G hs) (by rw [top_fix G]; exact LeP.refl _) (le_allP (top_pay G hs)) n
theorem low_of_rest {B : Bk} (G : Good B) {hs : List Int} {n : Nat} (h : behind B hs (led B hs n (noneP B)) = led B hs n (noneP B)) : led B hs n (noneP B) = lowIn B hs := by
  refine LeP.anti ?_ (low_le G (led_pay G (noneP_pay G) n) (by rw [h]; exact LeP.refl _))
  exact led_le G (noneP_pay G) (by rw [low_fix G]; exact LeP.refl _) (noneP_le (low_pay G hs)) n
/-- all houses -/
def houses (B : Bk) : List Int := (List.range B.cash.length).map fun k : Nat => (k : Int)
theorem mem_houses {B : Bk} {x : Int} : x ∈ houses B ↔ 0 ≤ x ∧ x < B.cash.length := by
  unfold houses
  rw [List.mem_map]
  constructor
  · rintro ⟨k, hk, rfl⟩
    have := List.mem_range.mp hk
    omega
  · rintro ⟨h0, h1⟩
    exact ⟨x.toNat, List.mem_range.mpr (by omega), by omega⟩
theorem debtor_in {B : Bk} (G : Good B) {k : Nat} (h : k < B.claims.length) : (B.clm k).d ∈ houses B := mem_houses.mpr ⟨(G.clm h).d0, (G.clm h).d1⟩
theorem creditor_in {B : Bk} (G : Good B) {k : Nat} (h : k < B.claims.length) : (B.clm k).c ∈ houses B := mem_houses.mpr ⟨(G.clm h).c0, (G.clm h).c1⟩
structure Clears (B : Bk) (P : List Int) : Prop where
  pay : Pay B P
  fix : behind B (houses B) P = P
def bestOf (B : Bk) : List Int := topIn B (houses B)
def worstOf (B : Bk) : List Int := lowIn B (houses B)
theorem best_clears {B : Bk} (G : Good B) : Clears B (bestOf B) := ⟨top_pay G _, top_fix G _⟩
theorem worst_clears {B : Bk} (G : Good B) : Clears B (worstOf B) := ⟨low_pay G _, low_fix G _⟩
theorem best_ge {B : Bk} (G : Good B) {Q : List Int} (h : Clears B Q) : LeP Q (bestOf B) := top_ge G h.pay (by rw [h.fix]; exact LeP.refl _)
theorem worst_le {B : Bk} (G : Good B) {Q : List Int} (h : Clears B Q) : LeP (worstOf B) Q := low_le G h.pay (by rw [h.fix]; exact LeP.refl _)
theorem best_is {B : Bk} (G : Good B) {Q : List Int} (h : Clears B Q) (hm : ∀ R, Clears B R → LeP R Q) : Q = bestOf B := (best_ge G h).anti (hm _ (best_clears G))
theorem worst_is {B : Bk} (G : Good B) {Q : List Int} (h : Clears B Q) (hm : ∀ R, Clears B R → LeP Q R) : Q = worstOf B := (hm _ (worst_clears G)).anti (worst_le G h)
/-- by a clearing each house pays the least of its means and what it owes -/
theorem clears_paid {B : Bk} (G : Good B) {P : List Int} (h : Clears B P) (x : Int) : paidOut B x P = min (meansOf B x P) (owedIn B x) := by
  have hm := means_nn G h.pay x
  rw [owedIn_eq G, ← coin_sum G hm]
  unfold paidOut
  rw [h.pay.len]
  refine sumIf_congr (fun _ _ => rfl) fun k hk hf => ?_
  have e := of_decide_eq_true hf
  have h1 := g_behind (hs := houses B) (P := P) hk
  rw [h.fix, if_pos (debtor_in G hk), e] at h1
  exact h1
theorem clears_iff {B : Bk} (G : Good B) {P : List Int} (hP : Pay B P) : Clears B P ↔ ∀ k, k < B.claims.length → g P k = coinOf B (B.clm k).d (meansOf B (B.clm k).d P) k := by
  constructor
  · intro h k hk
    have h1 := g_behind (hs := houses B) (P := P) hk
    rw [h.fix, if_pos (debtor_in G hk)] at h1
    exact h1
  · intro h
    refine ⟨hP, ext_g (by rw [behind_len, hP.len]) fun k hk => ?_⟩
    rw [behind_len] at hk
    rw [g_behind hk, if_pos (debtor_in G hk), h k hk]
theorem owedIn_nn {B : Bk} (G : Good B) (x : Int) : 0 ≤ owedIn B x := by
  rw [owedIn_eq G]
  exact owedBy_nn G x ranks9
/-! ### falling -/
theorem top_anti {B : Bk} (G : Good B) {hs hs' : List Int} (hsub : ∀ x ∈ hs, x ∈ hs') : LeP (topIn B hs') (topIn B hs) := by
  refine top_ge G (top_pay G hs') ?_
  have h := behind_anti G (top_pay G hs') hsub (by rw [top_fix G]; exact LeP.refl _)
  rw [top_fix G] at h
  exact h
theorem top_same {B : Bk} (G : Good B) {hs hs' : List Int} (h : ∀ x ∈ houses B, x ∈ hs ↔ x ∈ hs') : topIn B hs = topIn B hs' := by
  have e : ∀ P, behind B hs P = behind B hs' P := fun P => by
    unfold behind
    apply List.map_congr_left
    intro k hk
    have hk2 := List.mem_range.mp hk
    have := h _ (debtor_in G hk2)
    by_cases q : (B.clm k).d ∈ hs
    · rw [if_pos q, if_pos (this.mp q)]
    · rw [if_neg q, if_neg (fun z => q (this.mpr z))]
  have e2 : ∀ n P, led B hs n P = led B hs' n P := fun n => by
    induction n with
    | zero => intro P; rfl
    | succ n ih =>
      intro P
      show behind B hs (led B hs n P) = behind B hs' (led B hs' n P)
      rw [ih P, e]
  exact e2 _ _
/-- x fails: by the best clearing it doesn't pay all that it owes -/
def Fails (B : Bk) (x : Int) : Prop := paidOut B x (bestOf B) < owedIn B x
theorem fails_iff {B : Bk} (G : Good B) (x : Int) : Fails B x ↔ meansOf B x (bestOf B) < owedIn B x := by
  unfold Fails
  rw [clears_paid G (best_clears G)]
  omega
/-- where only failing houses have fallen, and no other one falls: that is the best clearing -/
theorem top_best {B : Bk} (G : Good B) {hs : List Int} (hin : ∀ x ∈ hs, x ∈ houses B) (hstop : ∀ x, x ∈ houses B → x ∉ hs → owedIn B x ≤ meansOf B x (topIn B hs)) : topIn B hs = bestOf B := by
  have hP := top_pay G hs
  refine LeP.anti (top_ge G hP ?_) (top_anti G hin)
  have hfix := top_fix G hs
  refine ⟨by rw [behind_len, hP.len], fun k hk => ?_⟩
  rw [hP.len] at hk
  rw [g_behind hk, if_pos (debtor_in G hk)]
  have h1 := g_behind (hs := hs) (P := topIn B hs) hk
  rw [hfix] at h1
  by_cases e : (B.clm k).d ∈ hs
  · rw [if_pos e] at h1
    omega
  · have h2 := coin_full G hk rfl (hstop _ (debtor_in G hk) e)
    rw [h2]
    exact hP.hi k hk
/-- a house that falls by some that fall fails -/
theorem falls_fails {B : Bk} (G : Good B) {hs : List Int} {x : Int} (hin : ∀ x ∈ hs, x ∈ houses B) (h : meansOf B x (topIn B hs) < owedIn B x) : Fails B x := by
  rw [fails_iff G]
  have h1 := means_mono (B := B) (top_anti G hin) x
  exact Int.lt_of_le_of_lt h1 h
theorem g_app_left {l m : List Int} {i : Nat} (h : i < l.length) : g (l ++ m) i = g l i := by
  apply g_of
  rw [List.getElem?_append_left h, g_get h]
theorem g_app_last {l : List Int} {x : Int} {i : Nat} (h : i = l.length) : g (l ++ [x]) i = x := by
  apply g_of
  rw [h, List.getElem?_append_right (Nat.le_refl _), Nat.sub_self]
  rfl


end Rf
namespace Rf
open PySem PySem.Spec PyProof.Rows L2
/-! ### more coins; sums; failing; waves -/
theorem clm_same {B B' : Bk} (h : B.claims = B'.claims) : B.clm = B'.clm := by
  funext k
  unfold Bk.clm
  rw [h]
theorem ofRank_same {B B' : Bk} (h : B.claims = B'.claims) (x r : Int) : ofRank B x r = ofRank B' x r := by
  unfold ofRank rankUp
  rw [clm_same h, h]
theorem amt_same {B B' : Bk} (h : B.claims = B'.claims) : amt B = amt B' := by
  funext k
  unfold amt
  rw [clm_same h]
theorem pay_same {B B' : Bk} (h : B.claims = B'.claims) (x : Int) : ∀ (rs : List Int) (m : Int), payFrom B x rs m = payFrom B' x rs m
  | [], _ => rfl
  | r :: rs, m => by
    unfold payFrom
    have e : amts B x r = amts B' x r := by
      unfold amts
      rw [ofRank_same h, amt_same h]
    rw [ofRank_same h, e, pay_same h x rs]
theorem coin_same {B B' : Bk} (h : B.claims = B'.claims) (x m : Int) (k : Nat) : coinOf B x m k = coinOf B' x m k := by
  unfold coinOf
  rw [pay_same h]
theorem owed_same {B B' : Bk} (h : B.claims = B'.claims) (x : Int) : owedIn B x = owedIn B' x := by
  unfold owedIn owes owesUp
  rw [clm_same h, amt_same h, h]
theorem allP_same {B B' : Bk} (h : B.claims = B'.claims) : allP B = allP B' := by
  unfold allP
  rw [h]
/-- the same claims, some houses with more coins -/
structure More (B B' : Bk) : Prop where
  cl : B.claims = B'.claims
  len : B.cash.length = B'.cash.length
  le : ∀ i, g B.cash i ≤ g B'.cash i
theorem pay_more {B B' : Bk} (h : B.claims = B'.claims) {P : List Int} (hP : Pay B P) : Pay B' P := by
  refine ⟨by rw [hP.len, h], fun k hk => hP.lo k (by rw [h]; exact hk), fun k hk => ?_⟩
  rw [← amt_same h]
  exact hP.hi k (by rw [h]; exact hk)
theorem means_more {B B' : Bk} (h : More B B') (x : Int) (P : List Int) : meansOf B x P ≤ meansOf B' x P := by
  unfold meansOf
  rw [clm_same h.cl]
  have := h.le x.toNat
  omega
theorem behind_more' {B B' : Bk} (G' : Good B') (G : Good B) (h : More B B') {hs P : List Int} (hP : Pay B P) : LeP (behind B hs P) (behind B' hs P) := by
  refine ⟨by rw [behind_len, behind_len, h.cl], fun k hk => ?_⟩
  rw [behind_len] at hk
  have hk' : k < B'.claims.length := by rw [← h.cl]; exact hk
  rw [g_behind hk, g_behind hk', ← clm_same h.cl]
  by_cases e : (B.clm k).d ∈ hs
  · rw [if_pos e, if_pos e, coin_same h.cl]
    exact coin_mono G' hk' (by rw [← clm_same h.cl]) (means_nn G hP _) (means_more h _ P)
  · rw [if_neg e, if_neg e]
    exact Int.le_refl _
theorem top_more {B B' : Bk} (G : Good B) (G' : Good B') (h : More B B') (hs : List Int) : LeP (topIn B hs) (topIn B' hs) := by
  have hP := top_pay G hs
  refine top_ge G' (pay_more h.cl hP) ?_
  have q := behind_more' G' G h (hs := hs) hP
  rw [top_fix G] at q
  exact q
theorem low_more {B B' : Bk} (G : Good B) (G' : Good B') (h : More B B') (hs : List Int) : LeP (lowIn B hs) (lowIn B' hs) := by
  have hP := pay_more h.cl.symm (low_pay G' hs)
  refine low_le G hP ?_
  have q := behind_more' G' G h (hs := hs) hP
  rw [low_fix G'] at q
  exact q
theorem houses_same {B B' : Bk} (h : B.cash.length = B'.cash.length) : houses B = houses B' := by
  unfold houses
  rw [h]
theorem best_more {B B' : Bk} (G : Good B) (G' : Good B') (h : More B B') : LeP (bestOf B) (bestOf B') := by
  unfold bestOf
  rw [← houses_same h.len]
  exact top_more G G' h _
theorem worst_more {B B' : Bk} (G : Good B) (G' : Good B') (h : More B B') : LeP (worstOf B) (worstOf B') := by
  unfold worstOf
  rw [← houses_same h.len]
  exact low_more G G' h _
theorem fails_more {B B' : Bk} (G : Good B) (G' : Good B') (h : More B B') {x : Int} (hf : Fails B' x) : Fails B x := by
  rw [fails_iff G'] at hf
  rw [fails_iff G]
  have h1 := means_more h x (bestOf B)
  have h2 := means_mono (B := B') (best_more G G' h) x
  rw [owed_same h.cl]
  omega
/-! sums over houses -/
def sumTo (v : Nat → Int) (n : Nat) : Int := sumIf (fun _ => true) v n
theorem sumTo_list (v : Nat → Int) (n : Nat) : ((List.range n).map v).sum = sumTo v n := by
  unfold sumTo
  rw [← sumIf_list]
  congr 2
  exact (List.filter_eq_self.mpr fun _ _ => rfl).symm
theorem sumTo_succ (v : Nat → Int) (n : Nat) : sumTo v (n + 1) = sumTo v n + v n := by
  unfold sumTo
  show sumIf _ v n + (if true = true then v n else 0) = _
  rw [if_pos rfl]
theorem sumTo_one (c v : Int) : ∀ n : Nat, sumTo (fun x => if c = (x : Int) then v else 0) n = if 0 ≤ c ∧ c < n then v else 0
  | 0 => by
    rw [if_neg (by omega)]
    rfl
  | n + 1 => by
    rw [sumTo_succ, sumTo_one c v n]
    by_cases e : c = (n : Int)
    · rw [if_pos e, if_neg (by omega), if_pos (by omega)]
      omega
    · rw [if_neg e]
      by_cases q : 0 ≤ c ∧ c < n
      · rw [if_pos q, if_pos (by omega)]
        omega
      · rw [if_neg q, if_neg (by omega)]
        rfl
theorem sumTo_add (v w : Nat → Int) (n : Nat) : sumTo (fun x => v x + w x) n = sumTo v n + sumTo w n := sumIf_add
theorem sumTo_congr {v w : Nat → Int} {n : Nat} (h : ∀ k, k < n → v k = w k) : sumTo v n = sumTo w n := sumIf_congr (fun _ _ => rfl) fun k hk _ => h k hk
/-- what goes to the houses is all -/
theorem sumTo_split {f : Nat → Int} {v : Nat → Int} {n : Nat} : ∀ {m : Nat}, (∀ k, k < m → 0 ≤ f k ∧ f k < n) → sumTo (fun x => sumIf (fun k => decide (f k = (x : Int))) v m) n = sumTo v m
  | 0, _ => by
    have : sumTo (fun x : Nat => sumIf (fun k => decide (f k = (x : Int))) v 0) n = sumTo (fun _ => 0) n := sumTo_congr fun _ _ => rfl
    rw [this]
    show sumTo (fun _ => 0) n = 0
    induction n with
    | zero => rfl
    | succ n ih => rw [sumTo_succ, ih (fun k hk => absurd hk (Nat.not_lt_zero _)) (sumTo_congr fun _ _ => rfl)]; rfl
  | m + 1, h => by
    have ih := sumTo_split (f := f) (v := v) (n := n) (m := m) fun k hk => h k (by omega)
    have e : sumTo (fun x => sumIf (fun k => decide (f k = (x : Int))) v (m + 1)) n = sumTo (fun x => sumIf (fun k => decide (f k = (x : Int))) v m + (if f m = (x : Int) then v m else 0)) n := sumTo_congr fun x _ => by
      show sumIf _ v m + (if decide (f m = (x : Int)) = true then v m else 0) = _
      by_cases q : f m = (x : Int)
      · rw [if_pos q, if_pos (decide_eq_true q)]
      · rw [if_neg q, if_neg (by rw [decide_eq_false q]; decide)]
    rw [e, sumTo_add, ih, sumTo_one, if_pos (h m (Nat.lt_succ_self m)), sumTo_succ]
theorem sum_g (l : List Int) : sumTo (g l) l.length = l.sum := by
  rw [← sumTo_list]
  congr 1
  apply List.ext_getElem?
  intro i
  rw [List.getElem?_map]
  by_cases h : i < l.length
  · rw [List.getElem?_range h, g_get h]
    rfl
  · rw [List.getElem?_eq_none (by rw [List.length_range]; omega), List.getElem?_eq_none (by omega)]
    rfl
def leftOf (B : Bk) (P : List Int) : List Int := (List.range B.cash.length).map fun x : Nat => meansOf B (x : Int) P - paidOut B (x : Int) P
theorem leftOf_len (B : Bk) (P : List Int) : (leftOf B P).length = B.cash.length := by
  unfold leftOf
  rw [List.length_map, List.length_range]
/-- no coin comes or goes -/
theorem left_sum {B : Bk} (G : Good B) {P : List Int} (hP : Pay B P) : (leftOf B P).sum = B.cash.sum := by
  have h1 : sumTo (fun x => sumIf (fun k => decide ((B.clm k).c = (x : Int))) (g P) P.length) B.cash.length = sumTo (g P) P.length := sumTo_split fun k hk => by
    have q := G.clm (hP.len ▸ hk)
    exact ⟨q.c0, q.c1⟩
  have h2 : sumTo (fun x => sumIf (fun k => decide ((B.clm k).d = (x : Int))) (g P) P.length) B.cash.length = sumTo (g P) P.length := sumTo_split fun k hk => by
    have q := G.clm (hP.len ▸ hk)
    exact ⟨q.d0, q.d1⟩
  have h3 := sum_g B.cash
  have e : sumTo (fun x => (meansOf B (x : Int) P - paidOut B (x : Int) P) + sumIf (fun k => decide ((B.clm k).d = (x : Int))) (g P) P.length) B.cash.length = sumTo (fun x => g B.cash x + sumIf (fun k => decide ((B.clm k).c = (x : Int))) (g P) P.length) B.cash.length := sumTo_congr fun x _ => by
    unfold meansOf paidOut
    rw [Int.toNat_natCast]
    omega
  rw [sumTo_add, sumTo_add] at e
  unfold leftOf
  rw [sumTo_list]
  omega
theorem left_nn {B : Bk} (G : Good B) {P : List Int} (h : Clears B P) : ∀ x ∈ leftOf B P, 0 ≤ x := fun y hy => by
  obtain ⟨x, _, rfl⟩ := List.mem_map.mp hy
  have q := clears_paid G h (x : Int)
  omega
/-! failing -/
def failingOf (B : Bk) : List Int := (houses B).filter fun x => decide (paidOut B x (bestOf B) < owedIn B x)
theorem mem_failing {B : Bk} {x : Int} : x ∈ failingOf B ↔ x ∈ houses B ∧ Fails B x := by
  unfold failingOf Fails
  rw [List.mem_filter, decide_eq_true_iff]
theorem houses_sorted (B : Bk) : (houses B).Pairwise (· < ·) := by
  unfold houses
  rw [List.pairwise_map]
  exact List.pairwise_lt_range.imp fun h => by simpa using h
theorem failing_sorted (B : Bk) : (failingOf B).Pairwise (· < ·) := (houses_sorted B).sublist List.filter_sublist
theorem owed_sum {B : Bk} (G : Good B) (x : Int) : owedIn B x = sumIf (fun k => decide ((B.clm k).d = x)) (amt B) B.claims.length := by
  rw [owedIn_eq G, owedBy_all G]
/-- nobody fails: all is paid -/
theorem none_fails {B : Bk} (G : Good B) : failingOf B = [] ↔ bestOf B = allP B := by
  have hP := (best_clears G).pay
  constructor
  · intro h
    refine ext_g (by rw [hP.len, allP_len]) fun k hk => ?_
    rw [hP.len] at hk
    rw [g_allP hk]
    have hn : ¬ Fails B (B.clm k).d := fun z => by
      have : (B.clm k).d ∈ failingOf B := mem_failing.mpr ⟨debtor_in G hk, z⟩
      rw [h] at this
      exact List.not_mem_nil this
    unfold Fails at hn
    rw [owed_sum G] at hn
    unfold paidOut at hn
    rw [hP.len] at hn
    exact sumIf_eq_of (f := fun j => decide ((B.clm j).d = (B.clm k).d)) (v := g (bestOf B)) (w := amt B) (fun j hj _ => hP.hi j hj) (by omega) k hk (decide_eq_true rfl)
  · intro h
    refine List.eq_nil_iff_forall_not_mem.mpr fun x hx => ?_
    have q := (mem_failing.mp hx).2
    unfold Fails paidOut at q
    rw [h, owed_sum G, allP_len] at q
    have e : sumIf (fun k => decide ((B.clm k).d = x)) (g (allP B)) B.claims.length = sumIf (fun k => decide ((B.clm k).d = x)) (amt B) B.claims.length := sumIf_congr (fun _ _ => rfl) fun k hk _ => g_allP hk
    omega
/-! waves -/
def waveOf (B : Bk) (F : List Int) : List Int := (houses B).filter fun x => decide (x ∉ F) && decide (meansOf B x (topIn B F) < owedIn B x)
theorem mem_wave {B : Bk} {F : List Int} {x : Int} : x ∈ waveOf B F ↔ x ∈ houses B ∧ x ∉ F ∧ meansOf B x (topIn B F) < owedIn B x := by
  unfold waveOf
  rw [List.mem_filter, Bool.and_eq_true, decide_eq_true_iff, decide_eq_true_iff]
def wavesFrom (B : Bk) : Nat → List Int → List (List Int)
  | 0, _ => []
  | f + 1, F => if waveOf B F = [] then [] else waveOf B F :: wavesFrom B f (F ++ waveOf B F)
def wavesOf (B : Bk) : List (List Int) := wavesFrom B (B.cash.length + 1) []
/-- what has fallen so far -/
structure Fallen (B : Bk) (F : List Int) : Prop where
  nd : F.Nodup
  inn : ∀ x ∈ F, x ∈ houses B
  fails : ∀ x ∈ F, Fails B x
theorem fallen_nil (B : Bk) : Fallen B [] := ⟨List.nodup_nil, (fun _ h => nomatch h), (fun _ h => nomatch h)⟩
theorem houses_nodup (B : Bk) : (houses B).Nodup := (houses_sorted B).imp fun h => by omega
theorem wave_sorted (B : Bk) (F : List Int) : (waveOf B F).Pairwise (· < ·) := (houses_sorted B).sublist List.filter_sublist
theorem fallen_more {B : Bk} (G : Good B) {F : List Int} (h : Fallen B F) : Fallen B (F ++ waveOf B F) := by
  refine ⟨List.nodup_append.mpr ⟨h.nd, (wave_sorted B F).imp fun h => by omega, fun a ha b hb e => ?_⟩, fun x hx => ?_, fun x hx => ?_⟩
  · subst e
    exact (mem_wave.mp hb).2.1 ha
  · rcases List.mem_append.mp hx with q | q
    · exact h.inn x q
    · exact (mem_wave.mp q).1
  · rcases List.mem_append.mp hx with q | q
    · exact h.fails x q
    · exact falls_fails G h.inn (mem_wave.mp q).2.2
theorem nodup_sub_len {l m : List Int} (hl : l.Nodup) (hm : m.Nodup) (h : ∀ x ∈ l, x ∈ m) : l.length ≤ m.length := by
  have hp : l.Perm (m.filter fun x => decide (x ∈ l)) := (List.perm_ext_iff_of_nodup hl (hm.filter _)).mpr fun x => by
    rw [List.mem_filter, decide_eq_true_iff]
    exact ⟨fun q => ⟨h x q, q⟩, fun q => q.2⟩
  rw [hp.length_eq]
  exact List.length_filter_le _ _
theorem fallen_len {B : Bk} {F : List Int} (h : Fallen B F) : F.length ≤ B.cash.length := by
  have q := nodup_sub_len h.nd (houses_nodup B) h.inn
  unfold houses at q
  rw [List.length_map, List.length_range] at q
  exact q
/-- where no other one falls, all that fail have fallen -/
theorem fallen_all {B : Bk} (G : Good B) {F : List Int} (h : Fallen B F) (hw : waveOf B F = []) : ∀ x, x ∈ F ↔ x ∈ failingOf B := by
  have hstop : ∀ x, x ∈ houses B → x ∉ F → owedIn B x ≤ meansOf B x (topIn B F) := fun x hx hn => Int.not_lt.mp fun z => by
    have : x ∈ waveOf B F := mem_wave.mpr ⟨hx, hn, z⟩
    rw [hw] at this
    exact List.not_mem_nil this
  have hb := top_best G h.inn hstop
  intro x
  rw [mem_failing]
  constructor
  · intro hx
    exact ⟨h.inn x hx, h.fails x hx⟩
  · rintro ⟨hx, hf⟩
    refine Classical.byContradiction fun hn => ?_
    have q := hstop x hx hn
    rw [hb] at q
    have := (fails_iff G x).mp hf
    omega
theorem waves_all {B : Bk} (G : Good B) : ∀ (f : Nat) {F : List Int}, Fallen B F → B.cash.length < F.length + f → ∀ x, x ∈ F ++ (wavesFrom B f F).flatten ↔ x ∈ failingOf B
  | 0, F, h, hl => absurd (fallen_len h) (by omega)
  | f + 1, F, h, hl => by
    unfold wavesFrom
    by_cases e : waveOf B F = []
    · rw [if_pos e, List.flatten_nil, List.append_nil]
      exact fallen_all G h e
    · rw [if_neg e, List.flatten_cons, ← List.append_assoc]
      refine waves_all G f (fallen_more G h) ?_
      have : 0 < (waveOf B F).length := List.length_pos_iff.mpr e
      rw [List.length_append]
      omega
/-! losses and nets -/
def lossAt (B : Bk) (i : Nat) (x : Nat) : Int := sumIf (fun k => decide ((B.clm k).c = (x : Int))) (fun k => amt B k - g (bestOf B) k) i
def lossesOf (B : Bk) : List Int := (List.range B.cash.length).map (lossAt B B.claims.length)
def netAt (B : Bk) (i : Nat) (x : Nat) : Int := g B.cash x + sumIf (fun k => decide ((B.clm k).c = (x : Int))) (amt B) i - sumIf (fun k => decide ((B.clm k).d = (x : Int))) (amt B) i
theorem rangeMap_set {n j : Nat} {v : Nat → Int} {y : Int} (hj : j < n) : ((List.range n).map v).set j y = (List.range n).map fun x => if x = j then y else v x := by
  refine ext_g (by simp) fun i hi => ?_
  have hi2 : i < n := by simpa using hi
  rw [g_rangeMap hi2]
  by_cases e : j = i
  · subst e
    rw [g_set_same (by simpa using hi2), if_pos rfl]
  · rw [g_set_ne e, g_rangeMap hi2, if_neg (fun z => e z.symm)]
theorem net_all {B : Bk} : (List.range B.cash.length).map (netAt B B.claims.length) = leftOf B (allP B) := by
  unfold leftOf
  apply List.map_congr_left
  intro x _
  unfold netAt meansOf paidOut
  rw [Int.toNat_natCast, allP_len]
  have e1 : sumIf (fun k => decide ((B.clm k).c = (x : Int))) (g (allP B)) B.claims.length = sumIf (fun k => decide ((B.clm k).c = (x : Int))) (amt B) B.claims.length := sumIf_congr (fun _ _ => rfl) fun k hk _ => g_allP hk
  have e2 : sumIf (fun k => decide ((B.clm k).d = (x : Int))) (g (allP B)) B.claims.length = sumIf (fun k => decide ((B.clm k).d = (x : Int))) (amt B) B.claims.length := sumIf_congr (fun _ _ => rfl) fun k hk _ => g_allP hk
  rw [e1, e2]
theorem loss_sum {B : Bk} (G : Good B) : (lossesOf B).sum = sumTo (fun k => amt B k - g (bestOf B) k) B.claims.length := by
  unfold lossesOf
  rw [sumTo_list]
  exact sumTo_split fun k hk => ⟨(G.clm hk).c0, (G.clm hk).c1⟩
theorem loss_none {B : Bk} (G : Good B) : failingOf B = [] ↔ (lossesOf B).sum = 0 := by
  rw [none_fails G, loss_sum G]
  have hP := (best_clears G).pay
  constructor
  · intro h
    have e : sumTo (fun k => amt B k - g (bestOf B) k) B.claims.length = sumTo (fun _ => 0) B.claims.length := sumTo_congr fun k hk => by rw [h, g_allP hk]; omega
    rw [e]
    generalize B.claims.length = n
    induction n with
    | zero => rfl
    | succ n ih => rw [sumTo_succ, ih]; rfl
  · intro h
    refine ext_g (by rw [hP.len, allP_len]) fun k hk => ?_
    rw [hP.len] at hk
    rw [g_allP hk]
    have q := sumIf_eq_of (f := fun _ => true) (v := fun _ => 0) (w := fun k => amt B k - g (bestOf B) k) (n := B.claims.length) (fun k hk _ => by have := hP.hi k hk; show (0 : Int) ≤ amt B k - g (bestOf B) k; omega) (by
      have z : sumIf (fun _ => true) (fun _ => (0 : Int)) B.claims.length = 0 := by
        generalize B.claims.length = n
        induction n with
        | zero => rfl
        | succ n ih =>
          show sumIf _ _ n + (if true = true then (0 : Int) else 0) = 0
          rw [ih]
          rfl
      rw [z]
      have h2 : sumIf (fun _ => true) (fun k => amt B k - g (bestOf B) k) B.claims.length = 0 := h
      omega) k hk rfl
    have q2 : (0 : Int) = amt B k - g (bestOf B) k := q
    omega
theorem net_fails {B : Bk} (G : Good B) {x : Nat} (hx : x < B.cash.length) (h : g (leftOf B (allP B)) x < 0) : (x : Int) ∈ failingOf B := by
  refine mem_failing.mpr ⟨mem_houses.mpr ⟨by omega, by omega⟩, (fails_iff G _).mpr ?_⟩
  have e : g (leftOf B (allP B)) x = meansOf B (x : Int) (allP B) - paidOut B (x : Int) (allP B) := g_rangeMap hx
  rw [e] at h
  have h1 := means_mono (B := B) (le_allP (best_clears G).pay) (x : Int)
  have h2 : paidOut B (x : Int) (allP B) = owedIn B (x : Int) := by
    rw [owed_sum G]
    unfold paidOut
    rw [allP_len]
    exact sumIf_congr (fun _ _ => rfl) fun k hk _ => g_allP hk
  omega
theorem loss_step {B : Bk} (G : Good B) {i j : Nat} (hi : i < B.claims.length) (hj : (B.clm i).c = (j : Int)) (hn : j < B.cash.length) :
    ((List.range B.cash.length).map (lossAt B i)).set j (lossAt B i j + (B.clm i).a - g (bestOf B) i) = (List.range B.cash.length).map (lossAt B (i + 1)) := by
  rw [rangeMap_set hn]
  apply List.map_congr_left
  intro x _
  show _ = lossAt B i x + (if decide ((B.clm i).c = (x : Int)) = true then amt B i - g (bestOf B) i else 0)
  by_cases e : x = j
  · subst e
    rw [if_pos rfl, if_pos (decide_eq_true hj)]
    unfold amt
    omega
  · rw [if_neg e, if_neg (by rw [decide_eq_false (fun z => e (by omega))]; decide)]
    omega
theorem net_step {B : Bk} (G : Good B) {i j l : Nat} (hi : i < B.claims.length) (hj : (B.clm i).c = (j : Int)) (hl : (B.clm i).d = (l : Int)) (hn : j < B.cash.length) (hm : l < B.cash.length) :
    (((List.range B.cash.length).map (netAt B i)).set j (netAt B i j + (B.clm i).a)).set l (netAt B i l - (B.clm i).a) = (List.range B.cash.length).map (netAt B (i + 1)) := by
  have ne : l ≠ j := fun z => (G.clm hi).ne (by rw [hj, hl, z])
  rw [rangeMap_set hn, rangeMap_set hm]
  apply List.map_congr_left
  intro x _
  show _ = g B.cash x + (sumIf _ (amt B) i + (if decide ((B.clm i).c = (x : Int)) = true then amt B i else 0)) - (sumIf _ (amt B) i + (if decide ((B.clm i).d = (x : Int)) = true then amt B i else 0))
  have ea : amt B i = (B.clm i).a := rfl
  by_cases e1 : x = l
  · subst e1
    rw [if_pos rfl, if_neg (by rw [decide_eq_false (fun z => ne (by omega))]; decide), if_pos (decide_eq_true hl)]
    unfold netAt
    omega
  · rw [if_neg e1, if_neg (c := decide ((B.clm i).d = (x : Int)) = true) (by rw [decide_eq_false (fun z => e1 (by omega))]; decide)]
    by_cases e2 : x = j
    · subst e2
      rw [if_pos rfl, if_pos (decide_eq_true hj)]
      unfold netAt
      omega
    · rw [if_neg e2, if_neg (by rw [decide_eq_false (fun z => e2 (by omega))]; decide)]
      unfold netAt
      omega
theorem range_get {n j : Nat} {v : Nat → Int} (hj : j < n) : g ((List.range n).map v) j = v j := g_rangeMap hj


end Rf
namespace Rf
open PySem PySem.Spec PyProof.Rows L2
/-! ### settled: paying house by house until nothing changes -/
def fixOf (B : Bk) (hs P : List Int) : List Int := led B hs (allP B).sum.toNat P
/-- further down (or up) -/
def Tw : Bool → List Int → List Int → Prop
  | true, P, Q => LeP P Q
  | false, P, Q => LeP Q P
theorem Tw.refl : ∀ (d : Bool) (P : List Int), Tw d P P
  | true, P => LeP.refl P
  | false, P => LeP.refl P
theorem Tw.trans : ∀ {d : Bool} {P Q R : List Int}, Tw d P Q → Tw d Q R → Tw d P R
  | true, _, _, _, a, b => LeP.trans a b
  | false, _, _, _, a, b => LeP.trans b a
theorem Tw.anti : ∀ {d : Bool} {P Q : List Int}, Tw d P Q → Tw d Q P → P = Q
  | true, _, _, a, b => LeP.anti a b
  | false, _, _, a, b => LeP.anti b a
theorem Tw.of : ∀ {d : Bool} {P Q : List Int}, P.length = Q.length → (∀ k, k < P.length → (d = true → g P k ≤ g Q k) ∧ (d = false → g Q k ≤ g P k)) → Tw d P Q
  | true, _, _, hl, h => ⟨hl, fun k hk => (h k hk).1 rfl⟩
  | false, _, _, hl, h => ⟨hl.symm, fun k hk => (h k (hl ▸ hk)).2 rfl⟩
theorem Tw.at : ∀ {d : Bool} {P Q : List Int}, Tw d P Q → ∀ k, k < P.length → (d = true → g P k ≤ g Q k) ∧ (d = false → g Q k ≤ g P k)
  | true, _, _, a, k, hk => ⟨fun _ => a.2 k hk, (fun z => nomatch z)⟩
  | false, _, _, a, k, hk => ⟨(fun z => nomatch z), fun _ => a.2 k (a.1 ▸ hk)⟩
theorem Tw.len : ∀ {d : Bool} {P Q : List Int}, Tw d P Q → P.length = Q.length
  | true, _, _, a => a.1
  | false, _, _, a => a.1.symm
theorem Tw.mono {B : Bk} (G : Good B) (hs : List Int) : ∀ {d : Bool} {P Q : List Int}, Pay B P → Pay B Q → Tw d P Q → Tw d (behind B hs P) (behind B hs Q)
  | true, _, _, hP, _, h => behind_mono G hP h
  | false, _, _, _, hQ, h => behind_mono G hQ h
/-- how far it can go yet -/
def far (B : Bk) : Bool → List Int → Nat
  | true, P => P.sum.toNat
  | false, P => ((allP B).sum - P.sum).toNat
theorem far_lt {B : Bk} : ∀ {d : Bool} {P Q : List Int}, Pay B P → Pay B Q → Tw d P Q → P ≠ Q → far B d P < far B d Q
  | true, P, Q, hP, hQ, h, hn => by
    have h1 := LeP.lt h hn
    have h2 := hP.sum_nn
    show P.sum.toNat < Q.sum.toNat
    omega
  | false, P, Q, hP, hQ, h, hn => by
    have h1 := LeP.lt h (Ne.symm hn)
    have h2 := hP.sum_le
    have h3 := hP.sum_le
    show ((allP B).sum - P.sum).toNat < ((allP B).sum - Q.sum).toNat
    omega
theorem far_le {B : Bk} {d : Bool} {P Q : List Int} (hP : Pay B P) (hQ : Pay B Q) (h : Tw d P Q) : far B d P ≤ far B d Q := by
  by_cases e : P = Q
  · rw [e]; exact Nat.le_refl _
  · exact Nat.le_of_lt (far_lt hP hQ h e)
theorem fix_pay {B : Bk} (G : Good B) {hs P : List Int} (hP : Pay B P) : Pay B (fixOf B hs P) := led_pay G hP _
theorem fix_fixed {B : Bk} (G : Good B) {hs P : List Int} (hP : Pay B P) : ∀ {d : Bool}, Tw d (behind B hs P) P → behind B hs (fixOf B hs P) = fixOf B hs P
  | true, h => by
    have h1 := down_fix G hP h
    have h2 : P.sum.toNat ≤ (allP B).sum.toNat := by have := hP.sum_le; omega
    unfold fixOf
    rw [led_stays h1 h2]
    exact h1
  | false, h => up_fix G hP h (by have := hP.sum_nn; have := (allP_pay G).sum_nn; omega)
theorem g_one {B : Bk} {x : Int} {P : List Int} {k : Nat} (h : k < B.claims.length) : g (behind B [x] P) k = if (B.clm k).d = x then coinOf B x (meansOf B x P) k else g P k := by
  rw [g_behind h]
  by_cases e : (B.clm k).d = x
  · rw [if_pos (List.mem_singleton.mpr e), if_pos e, e]
  · rw [if_neg (fun z => e (List.mem_singleton.mp z)), if_neg e]
def Stable (B : Bk) (x : Int) (P : List Int) : Prop := ∀ k, k < B.claims.length → (B.clm k).d = x → g P k = coinOf B x (meansOf B x P) k
theorem stable_all {B : Bk} {hs P : List Int} (hl : P.length = B.claims.length) (h : ∀ x ∈ hs, Stable B x P) : behind B hs P = P := by
  refine ext_g (by rw [behind_len, hl]) fun k hk => ?_
  rw [behind_len] at hk
  rw [g_behind hk]
  by_cases e : (B.clm k).d ∈ hs
  · rw [if_pos e]
    exact (h _ e k hk rfl).symm
  · rw [if_neg e]
theorem one_fixed {B : Bk} {hs P : List Int} {x : Int} (h : behind B hs P = P) (hx : x ∈ hs) : behind B [x] P = P := by
  have hl : P.length = B.claims.length := by rw [← h, behind_len]
  refine ext_g (by rw [behind_len, hl]) fun k hk => ?_
  rw [behind_len] at hk
  have q : g (behind B hs P) k = g P k := by rw [h]
  rw [g_behind hk] at q
  rw [g_one hk]
  by_cases e : (B.clm k).d = x
  · subst e
    rw [if_pos hx] at q
    rw [if_pos rfl]
    exact q
  · rw [if_neg e]
/-- what one house's paying keeps -/
structure Chaos (B : Bk) (hs P0 P : List Int) (d : Bool) : Prop where
  pay : Pay B P
  fwd : Tw d (behind B hs P) P
  far : Tw d (fixOf B hs P0) P
  near : Tw d P P0
theorem one_between {B : Bk} {hs P : List Int} {d : Bool} {x : Int} (h : Tw d (behind B hs P) P) (hx : x ∈ hs) : Tw d (behind B hs P) (behind B [x] P) ∧ Tw d (behind B [x] P) P := by
  have hl : P.length = B.claims.length := by rw [← h.len, behind_len]
  constructor
  · refine Tw.of (by rw [behind_len, behind_len]) fun k hk => ?_
    have q := h.at k hk
    rw [behind_len] at hk
    rw [g_one hk]
    by_cases e : (B.clm k).d = x
    · subst e
      rw [if_pos rfl, g_behind hk, if_pos hx]
      exact ⟨fun _ => Int.le_refl _, fun _ => Int.le_refl _⟩
    · rw [if_neg e]
      exact q
  · refine Tw.of (by rw [behind_len, hl]) fun k hk => ?_
    have q := h.at k (by rw [behind_len]; rw [behind_len] at hk; exact hk)
    rw [behind_len] at hk
    rw [g_one hk]
    by_cases e : (B.clm k).d = x
    · subst e
      rw [g_behind hk, if_pos hx] at q
      rw [if_pos rfl]
      exact q
    · rw [if_neg e]
      exact ⟨fun _ => Int.le_refl _, fun _ => Int.le_refl _⟩
theorem Chaos.step {B : Bk} (G : Good B) {hs P0 P : List Int} {d : Bool} (C : Chaos B hs P0 P d) (h0 : Pay B P0) (hf : Tw d (behind B hs P0) P0) {x : Int} (hx : x ∈ hs) : Chaos B hs P0 (behind B [x] P) d := by
  obtain ⟨b1, b2⟩ := one_between C.fwd hx
  have hp := behind_pay G (hs := [x]) C.pay
  refine ⟨hp, ?_, ?_, b2.trans C.near⟩
  · exact (Tw.mono G hs hp C.pay b2).trans b1
  · have q := Tw.mono G [x] (fix_pay G h0) C.pay C.far
    rw [one_fixed (fix_fixed G h0 hf) hx] at q
    exact q
theorem Chaos.start {B : Bk} (G : Good B) {hs P : List Int} {d : Bool} (h0 : Pay B P) (hf : Tw d (behind B hs P) P) : Chaos B hs P P d := by
  refine ⟨h0, hf, ?_, Tw.refl _ _⟩
  cases d with
  | true =>
    have : ∀ n, LeP (led B hs n P) P := fun n => by
      induction n with
      | zero => exact LeP.refl _
      | succ n ih => exact (led_down G h0 hf n).trans ih
    exact this _
  | false =>
    have : ∀ n, LeP P (led B hs n P) := fun n => by
      induction n with
      | zero => exact LeP.refl _
      | succ n ih => exact ih.trans (led_up G h0 hf n)
    exact this _
theorem Chaos.done {B : Bk} (G : Good B) {hs P0 P : List Int} {d : Bool} (C : Chaos B hs P0 P d) (h0 : Pay B P0) (h : ∀ x ∈ hs, Stable B x P) : P = fixOf B hs P0 := by
  have e := stable_all C.pay.len h
  cases d with
  | true => exact LeP.anti (led_ge G C.pay (by rw [e]; exact LeP.refl _) C.near _) C.far
  | false => exact LeP.anti C.far (led_le G h0 (by rw [e]; exact LeP.refl _) C.near _)
theorem sumIf_same {f : Nat → Bool} {v w : Nat → Int} {n : Nat} (h : ∀ k, k < n → f k = true → v k = w k) : sumIf f v n = sumIf f w n := sumIf_congr (fun _ _ => rfl) h
theorem means_same {B : Bk} {x : Int} {P Q : List Int} (hl : P.length = Q.length) (h : ∀ k, k < P.length → (B.clm k).c = x → g P k = g Q k) : meansOf B x P = meansOf B x Q := by
  unfold meansOf
  rw [← hl, sumIf_same fun k hk hf => h k hk (of_decide_eq_true hf)]
theorem stable_self {B : Bk} (G : Good B) {P : List Int} (hl : P.length = B.claims.length) (x : Int) : Stable B x (behind B [x] P) := fun k hk hd => by
  have e : meansOf B x (behind B [x] P) = meansOf B x P := means_same (by rw [behind_len, hl]) fun j hj hc => by
    rw [behind_len] at hj
    rw [g_one hj, if_neg (fun z => (G.clm hj).ne (by rw [z, hc]))]
  rw [e, g_one hk, if_pos hd]
theorem stable_other {B : Bk} {P : List Int} (hl : P.length = B.claims.length) {x y : Int} (hy : y ≠ x) (h : Stable B y P) (hc : ∀ k, k < B.claims.length → (B.clm k).c = y → g (behind B [x] P) k = g P k) : Stable B y (behind B [x] P) := fun k hk hd => by
  have e : meansOf B y (behind B [x] P) = meansOf B y P := means_same (by rw [behind_len, hl]) fun j hj hcj => hc j (by rw [behind_len] at hj; exact hj) hcj
  rw [e, g_one hk, if_neg (fun z => hy (hd.symm.trans z))]
  exact h k hk hd
/-! claims set one by one -/
def setL : List (Nat × Int) → List Int → List Int
  | [], P => P
  | (k, c) :: L, P => setL L (P.set k c)
theorem setL_len : ∀ (L : List (Nat × Int)) (P : List Int), (setL L P).length = P.length
  | [], _ => rfl
  | (k, c) :: L, P => by
    show (setL L (P.set k c)).length = _
    rw [setL_len L, List.length_set]
theorem setL_app : ∀ (L M : List (Nat × Int)) (P : List Int), setL (L ++ M) P = setL M (setL L P)
  | [], _, _ => rfl
  | (k, c) :: L, M, P => setL_app L M (P.set k c)
theorem setL_take {L : List (Nat × Int)} {j k : Nat} {c : Int} (h : L[j]? = some (k, c)) (P : List Int) : setL (L.take (j + 1)) P = (setL (L.take j) P).set k c := by
  rw [List.take_add_one, h, setL_app]
  rfl
theorem g_setL_out : ∀ {L : List (Nat × Int)} {P : List Int} {k : Nat}, k ∉ L.map (·.1) → g (setL L P) k = g P k
  | [], _, _, _ => rfl
  | (i, c) :: L, P, k, h => by
    rw [List.map_cons, List.mem_cons, not_or] at h
    show g (setL L (P.set i c)) k = _
    rw [g_setL_out h.2, g_set_ne (fun z => h.1 z.symm)]
theorem g_setL_in : ∀ {L : List (Nat × Int)} {P : List Int} {k : Nat} {c : Int}, (L.map (·.1)).Nodup → (k, c) ∈ L → k < P.length → g (setL L P) k = c
  | [], _, _, _, _, h, _ => nomatch h
  | (i, e) :: L, P, k, c, hn, h, hk => by
    rw [List.map_cons, List.nodup_cons] at hn
    show g (setL L (P.set i e)) k = c
    rcases List.mem_cons.mp h with q | q
    · cases q
      rw [g_setL_out hn.1, g_set_same hk]
    · exact g_setL_in hn.2 q (by rw [List.length_set]; exact hk)
theorem setL_pay {B : Bk} (G : Good B) {x : Int} {P : List Int} (hl : P.length = B.claims.length) : setL (payFrom B x ranks9 (meansOf B x P)) P = behind B [x] P := by
  refine ext_g (by rw [setL_len, behind_len, hl]) fun k hk => ?_
  rw [setL_len, hl] at hk
  rw [g_one hk]
  by_cases e : (B.clm k).d = x
  · rw [if_pos e]
    exact g_setL_in (pay_nodup B x _) (coin_mem G hk e) (by rw [hl]; exact hk)
  · rw [if_neg e]
    refine g_setL_out fun z => e ?_
    obtain ⟨y, hy, rfl⟩ := List.mem_map.mp z
    rw [← mem_payList G] at hy
    unfold payList at hy
    obtain ⟨j, hj, rfl⟩ := List.mem_map.mp hy
    exact (mem_owesUp.mp hj).2
/-- the creditors of the claims that changed -/
def addK (T : List Int) (y : Int) : List Int := if y ∈ T then T else T ++ [y]
def touch (B : Bk) (P : List Int) : List (Nat × Int) → List Int → List Int
  | [], T => T
  | (k, c) :: L, T => touch B P L (if c = g P k then T else addK T (B.clm k).c)
theorem touch_app {B : Bk} {P : List Int} : ∀ (L M : List (Nat × Int)) (T : List Int), touch B P (L ++ M) T = touch B P M (touch B P L T)
  | [], _, _ => rfl
  | (k, c) :: L, M, T => touch_app L M _
theorem touch_take {B : Bk} {P : List Int} {L : List (Nat × Int)} {j k : Nat} {c : Int} (h : L[j]? = some (k, c)) (T : List Int) : touch B P (L.take (j + 1)) T = if c = g P k then touch B P (L.take j) T else addK (touch B P (L.take j) T) (B.clm k).c := by
  rw [List.take_add_one, h, touch_app]
  rfl
theorem addK_sub {T : List Int} {y z : Int} (h : z ∈ T) : z ∈ addK T y := by
  unfold addK
  split
  · exact h
  · exact List.mem_append_left _ h
theorem addK_in (T : List Int) (y : Int) : y ∈ addK T y := by
  unfold addK
  split
  · assumption
  · exact List.mem_append_right _ (List.mem_singleton.mpr rfl)
theorem mem_addK {T : List Int} {y z : Int} (h : z ∈ addK T y) : z ∈ T ∨ z = y := by
  unfold addK at h
  split at h
  · exact .inl h
  · rcases List.mem_append.mp h with q | q
    · exact .inl q
    · exact .inr (List.mem_singleton.mp q)
theorem addK_nodup {T : List Int} {y : Int} (h : T.Nodup) : (addK T y).Nodup := by
  unfold addK
  split
  · exact h
  · next hn =>
    refine List.nodup_append.mpr ⟨h, by simp, fun a ha b hb z => ?_⟩
    rw [List.mem_singleton.mp hb] at z
    exact hn (z ▸ ha)
theorem touch_sub {B : Bk} {P : List Int} : ∀ {L : List (Nat × Int)} {T : List Int} {z : Int}, z ∈ T → z ∈ touch B P L T
  | [], _, _, h => h
  | (k, c) :: L, T, z, h => by
    refine touch_sub (L := L) ?_
    split
    · exact h
    · exact addK_sub h
theorem touch_in {B : Bk} {P : List Int} : ∀ {L : List (Nat × Int)} {T : List Int} {k : Nat} {c : Int}, (k, c) ∈ L → c ≠ g P k → (B.clm k).c ∈ touch B P L T
  | [], _, _, _, h, _ => nomatch h
  | (i, e) :: L, T, k, c, h, hn => by
    rcases List.mem_cons.mp h with q | q
    · cases q
      show _ ∈ touch B P L _
      rw [if_neg hn]
      exact touch_sub (addK_in _ _)
    · exact touch_in (L := L) q hn
theorem touch_nodup {B : Bk} {P : List Int} : ∀ {L : List (Nat × Int)} {T : List Int}, T.Nodup → (touch B P L T).Nodup
  | [], _, h => h
  | (k, c) :: L, T, h => by
    refine touch_nodup (L := L) ?_
    split
    · exact h
    · exact addK_nodup h
theorem touch_houses {B : Bk} (G : Good B) {P : List Int} : ∀ {L : List (Nat × Int)} {T : List Int}, (∀ p ∈ L, p.1 < B.claims.length) → (∀ t ∈ T, t ∈ houses B) → ∀ t ∈ touch B P L T, t ∈ houses B
  | [], _, _, h => h
  | (k, c) :: L, T, hL, h => by
    refine touch_houses G (L := L) (fun p hp => hL p (List.mem_cons_of_mem _ hp)) ?_
    split
    · exact h
    · intro t ht
      rcases mem_addK ht with q | q
      · exact h t q
      · rw [q]
        exact creditor_in G (hL _ List.mem_cons_self)
theorem touch_none {B : Bk} {P : List Int} : ∀ {L : List (Nat × Int)} {T : List Int}, (∀ p ∈ L, p.2 = g P p.1) → touch B P L T = T
  | [], _, _ => rfl
  | (k, c) :: L, T, h => by
    show touch B P L _ = T
    rw [if_pos (h (k, c) List.mem_cons_self)]
    exact touch_none fun p hp => h p (List.mem_cons_of_mem _ hp)
/-! the means, house by house -/
def meansL (B : Bk) (P : List Int) : List Int := (List.range B.cash.length).map fun x : Nat => meansOf B (x : Int) P
theorem meansL_len (B : Bk) (P : List Int) : (meansL B P).length = B.cash.length := by
  unfold meansL
  rw [List.length_map, List.length_range]
theorem g_meansL {B : Bk} {P : List Int} {x : Nat} (h : x < B.cash.length) : g (meansL B P) x = meansOf B (x : Int) P := g_rangeMap h
theorem sumIf_set {f : Nat → Bool} {P : List Int} {k : Nat} {c : Int} (hk : k < P.length) : ∀ {n : Nat}, sumIf f (g (P.set k c)) n = sumIf f (g P) n + (if k < n ∧ f k = true then c - g P k else 0)
  | 0 => by
    rw [if_neg (fun z => absurd z.1 (Nat.not_lt_zero _))]
    rfl
  | n + 1 => by
    show sumIf f (g (P.set k c)) n + (if f n = true then g (P.set k c) n else 0) = sumIf f (g P) n + (if f n = true then g P n else 0) + _
    rw [sumIf_set hk (n := n)]
    by_cases e : k = n
    · subst e
      rw [g_set_same hk]
      have e1 : ¬ (k < k ∧ f k = true) := fun z => absurd z.1 (Nat.lt_irrefl _)
      rw [if_neg e1]
      by_cases q : f k = true
      · have e2 : k < k + 1 ∧ f k = true := ⟨Nat.lt_succ_self _, q⟩
        rw [if_pos q, if_pos q, if_pos e2]
        omega
      · have e2 : ¬ (k < k + 1 ∧ f k = true) := fun z => q z.2
        rw [if_neg q, if_neg q, if_neg e2]
    · rw [g_set_ne e]
      by_cases q : k < n ∧ f k = true
      · have e2 : k < n + 1 ∧ f k = true := ⟨by omega, q.2⟩
        rw [if_pos q, if_pos e2]
        omega
      · have e2 : ¬ (k < n + 1 ∧ f k = true) := fun z => q ⟨by omega, z.2⟩
        rw [if_neg q, if_neg e2]
        omega
theorem means_set {B : Bk} {P : List Int} {k : Nat} {c : Int} (hl : P.length = B.claims.length) (hk : k < B.claims.length) (x : Int) : meansOf B x (P.set k c) = meansOf B x P + (if (B.clm k).c = x then c - g P k else 0) := by
  unfold meansOf
  rw [List.length_set, sumIf_set (by omega)]
  by_cases e : (B.clm k).c = x
  · rw [if_pos ⟨by omega, decide_eq_true e⟩, if_pos e]
    omega
  · rw [if_neg (fun z => e (of_decide_eq_true z.2)), if_neg e]
    omega
theorem meansL_set {B : Bk} {P : List Int} {k y : Nat} {c : Int} (hl : P.length = B.claims.length) (hk : k < B.claims.length) (hc : (B.clm k).c = (y : Int)) (hy : y < B.cash.length) : (meansL B P).set y (g (meansL B P) y + (c - g P k)) = meansL B (P.set k c) := by
  rw [g_meansL hy]
  unfold meansL
  rw [rangeMap_set hy]
  apply List.map_congr_left
  intro x _
  rw [means_set hl hk]
  by_cases e : x = y
  · subst e
    rw [if_pos rfl, if_pos hc]
  · rw [if_neg e, if_neg (fun z => e (by omega))]
    omega
theorem set_self {P : List Int} {k : Nat} (h : k < P.length) : P.set k (g P k) = P := by
  refine ext_g (List.length_set ..) fun i hi => ?_
  by_cases e : k = i
  · subst e
    rw [g_set_same h]
  · rw [g_set_ne e]
/-! the two ways that settled is asked -/
theorem fix_top (B : Bk) (hs : List Int) : fixOf B hs (allP B) = topIn B hs := rfl
theorem fix_low (B : Bk) (hs : List Int) : fixOf B hs (noneP B) = lowIn B hs := rfl
/-- more houses fallen: on from where it was -/
theorem top_start_more {B : Bk} (G : Good B) {hs hs' : List Int} : LeP (behind B hs' (topIn B hs)) (topIn B hs) := by
  have hp := top_pay G hs
  refine ⟨by rw [behind_len, hp.len], fun k hk => ?_⟩
  rw [behind_len] at hk
  rw [g_behind hk]
  by_cases e : (B.clm k).d ∈ hs'
  · rw [if_pos e]
    have q : g (topIn B hs) k = g (behind B hs (topIn B hs)) k := by rw [top_fix G]
    by_cases e2 : (B.clm k).d ∈ hs
    · rw [q, g_behind hk, if_pos e2]
      exact Int.le_refl _
    · -- one that has not fallen pays all
      have h1 : ∀ n, g (led B hs n (allP B)) k = amt B k := fun n => by
        induction n with
        | zero => exact g_allP hk
        | succ n ih =>
          show g (behind B hs (led B hs n (allP B))) k = _
          rw [g_behind hk, if_neg e2, ih]
      have h2 : g (topIn B hs) k = amt B k := h1 _
      rw [h2]
      exact coin_hi G hk rfl (means_nn G hp _)
  · rw [if_neg e]
    exact Int.le_refl _
theorem fix_more {B : Bk} (G : Good B) {hs hs' : List Int} (hsub : ∀ x ∈ hs, x ∈ hs') : fixOf B hs' (topIn B hs) = topIn B hs' := by
  have hp := top_pay G hs
  have h0 : Tw true (behind B hs' (topIn B hs)) (topIn B hs) := top_start_more G
  refine LeP.anti ?_ ?_
  · exact top_ge G (fix_pay G hp) (by rw [fix_fixed G hp h0]; exact LeP.refl _)
  · exact led_ge G (top_pay G hs') (by rw [top_fix G]; exact LeP.refl _) (top_anti G hsub) _


end Rf
namespace Rf
open PySem PySem.Spec PyProof.Rows L2
/-! ### books as texts: mathematics -/
def nS (i : Int) : Str := Str.ofString (toString i)
def wordsOf (q : Clm) : List Str := [nS q.d, "owes", nS q.c, nS q.a, "at", nS q.r]
def cashWords (B : Bk) : List Str := "cash" :: B.cash.map nS
def rowsOf (B : Bk) : List (List Str) := cashWords B :: B.claims.map wordsOf
def rowS (ws : List Str) : Str := Txt.join " " ws
def textOf (B : Bk) : Str := Txt.join "\n" ((rowsOf B).map rowS)
theorem tl_nS {i : Int} (h : 0 ≤ i) : TL.tl (nS i) = TL.numL i.toNat := by
  obtain ⟨n, rfl⟩ := Int.eq_ofNat_of_zero_le h
  rw [Int.toNat_natCast]
  exact TL.tl_num n
theorem nS_free {i : Int} {s : Nat} (h : 0 ≤ i) (hs : s < 48 ∨ 57 < s) : s ∉ TL.tl (nS i) := by
  rw [tl_nS h]
  exact TL.numL_free hs
theorem tl_sp : TL.tl (" " : Str) = [32] := by decide +kernel
theorem tl_nl : TL.tl ("\n" : Str) = [10] := by decide +kernel
theorem tl_cash : TL.tl ("cash" : Str) = [99, 97, 115, 104] := by decide +kernel
theorem tl_owes : TL.tl ("owes" : Str) = [111, 119, 101, 115] := by decide +kernel
theorem tl_at : TL.tl ("at" : Str) = [97, 116] := by decide +kernel
theorem wordsOf_free {n : Int} {q : Clm} (c : GoodC n q) {s : Nat} (hs : s = 32 ∨ s = 10) : ∀ p ∈ wordsOf q, s ∉ TL.tl p := fun p hp => by
  have hs2 : s < 48 ∨ 57 < s := by omega
  have d0 := c.d0
  have c0 := c.c0
  have a0 := c.a0
  have r0 := c.r0
  unfold wordsOf at hp
  simp only [List.mem_cons, List.not_mem_nil, or_false] at hp
  rcases hp with rfl | rfl | rfl | rfl | rfl | rfl
  · exact nS_free d0 hs2
  · rw [tl_owes]
    rcases hs with rfl | rfl <;> decide
  · exact nS_free c0 hs2
  · exact nS_free (by omega) hs2
  · rw [tl_at]
    rcases hs with rfl | rfl <;> decide
  · exact nS_free (by omega) hs2
theorem cashWords_free {B : Bk} (G : Good B) {s : Nat} (hs : s = 32 ∨ s = 10) : ∀ p ∈ cashWords B, s ∉ TL.tl p := fun p hp => by
  have hs2 : s < 48 ∨ 57 < s := by omega
  rcases List.mem_cons.mp hp with rfl | hp
  · rw [tl_cash]
    rcases hs with rfl | rfl <;> decide
  · obtain ⟨x, hx, rfl⟩ := List.mem_map.mp hp
    exact nS_free (G.cash x hx).1 hs2
theorem rowsOf_free {B : Bk} (G : Good B) {s : Nat} (hs : s = 32 ∨ s = 10) : ∀ ws ∈ rowsOf B, ∀ p ∈ ws, s ∉ TL.tl p := fun ws hw => by
  rcases List.mem_cons.mp hw with rfl | hw
  · exact cashWords_free G hs
  · obtain ⟨q, hq, rfl⟩ := List.mem_map.mp hw
    exact wordsOf_free (G.claims q hq) hs
theorem joinL_mem {S : List Nat} {x : Nat} : ∀ {ps : List (List Nat)}, x ∈ TL.joinL S ps → x ∈ S ∨ ∃ p ∈ ps, x ∈ p
  | [], h => by cases h
  | [p], h => .inr ⟨p, List.mem_singleton.mpr rfl, h⟩
  | p :: q :: r, h => by
    have h : x ∈ p ++ (S ++ TL.joinL S (q :: r)) := h
    rcases List.mem_append.mp h with h | h
    · exact .inr ⟨p, List.mem_cons_self, h⟩
    · rcases List.mem_append.mp h with h | h
      · exact .inl h
      · rcases joinL_mem h with h | ⟨z, hz, h⟩
        · exact .inl h
        · exact .inr ⟨z, List.mem_cons_of_mem _ hz, h⟩
theorem rowS_free {ws : List Str} (h : ∀ p ∈ ws, (10 : Nat) ∉ TL.tl p) : (10 : Nat) ∉ TL.tl (rowS ws) := fun hm => by
  unfold rowS at hm
  rw [TL.join_eq, TL.tl_join, tl_sp] at hm
  rcases joinL_mem hm with q | ⟨p, hp, q⟩
  · exact absurd q (by decide)
  · obtain ⟨z, hz, rfl⟩ := List.mem_map.mp hp
    exact h z hz q
theorem split_row {ws : List Str} (hne : ws ≠ []) (h : ∀ p ∈ ws, (32 : Nat) ∉ TL.tl p) : Txt.split (rowS ws) " " = ws := TL.split_join tl_sp (by decide +kernel) hne h
theorem split_text {B : Bk} (G : Good B) : Txt.split (textOf B) "\n" = (rowsOf B).map rowS := TL.split_join tl_nl (by decide +kernel) (by unfold rowsOf; simp) fun p hp => by
  obtain ⟨ws, hw, rfl⟩ := List.mem_map.mp hp
  exact rowS_free (rowsOf_free G (.inr rfl) ws hw)
theorem rows_ne {B : Bk} : ∀ ws ∈ rowsOf B, ws ≠ [] := fun ws hw => by
  rcases List.mem_cons.mp hw with rfl | hw
  · exact fun z => nomatch z
  · obtain ⟨q, _, rfl⟩ := List.mem_map.mp hw
    exact fun z => nomatch z
theorem split_rows {B : Bk} (G : Good B) : ∀ ws ∈ rowsOf B, Txt.split (rowS ws) " " = ws := fun ws hw => split_row (rows_ne ws hw) (rowsOf_free G (.inl rfl) ws hw)
/-- a claim's row, as it is written -/
theorem row_written (q : Clm) : (((((((Str.empty ++ nS q.d) ++ " owes ") ++ nS q.c) ++ " ") ++ nS q.a) ++ " at ") ++ nS q.r) = rowS (wordsOf q) := by
  apply TL.ext_tl
  unfold rowS
  rw [TL.join_eq, TL.tl_join, tl_sp]
  have e1 : TL.tl (" owes " : Str) = [32] ++ TL.tl ("owes" : Str) ++ [32] := by decide +kernel
  have e2 : TL.tl (" at " : Str) = [32] ++ TL.tl ("at" : Str) ++ [32] := by decide +kernel
  have e3 : TL.tl (Str.empty) = [] := rfl
  simp only [TL.tl_append, e1, e2, e3, tl_sp, wordsOf, List.map_cons, List.map_nil, TL.joinL, List.nil_append, List.append_assoc]
/-! lengths -/
theorem nS_len {i : Int} (h0 : 0 ≤ i) (h1 : i < 1000) : (nS i).length ≤ 3 := by
  rw [TL.len_tl, tl_nS h0]
  exact TL.numL_len (by decide) (by omega)
theorem joinL_len {S : List Nat} {m : Nat} : ∀ {ps : List (List Nat)}, (∀ p ∈ ps, p.length ≤ m) → (TL.joinL S ps).length ≤ ps.length * (m + S.length)
  | [], _ => Nat.zero_le _
  | [p], h => by
    have := h p (List.mem_singleton.mpr rfl)
    show p.length ≤ 1 * (m + S.length)
    omega
  | p :: q :: r, h => by
    have h1 := h p List.mem_cons_self
    have ih := joinL_len (S := S) (m := m) (ps := q :: r) fun z hz => h z (List.mem_cons_of_mem _ hz)
    show (p ++ (S ++ TL.joinL S (q :: r))).length ≤ ((q :: r).length + 1) * (m + S.length)
    rw [List.length_append, List.length_append, Nat.add_mul, Nat.one_mul]
    omega
theorem wordsOf_len {n : Int} {q : Clm} (c : GoodC n q) (hn : n ≤ 8) : ∀ p ∈ wordsOf q, p.length ≤ 4 := fun p hp => by
  have d0 := c.d0
  have d1 := c.d1
  have c0 := c.c0
  have c1 := c.c1
  have a0 := c.a0
  have a1 := c.a1
  have r0 := c.r0
  have r1 := c.r1
  unfold wordsOf at hp
  simp only [List.mem_cons, List.not_mem_nil, or_false] at hp
  rcases hp with rfl | rfl | rfl | rfl | rfl | rfl
  · exact Nat.le_trans (nS_len d0 (by omega)) (by decide)
  · exact (show ("owes" : Str).length ≤ 4 by decide +kernel)
  · exact Nat.le_trans (nS_len c0 (by omega)) (by decide)
  · exact Nat.le_trans (nS_len (by omega) (by omega)) (by decide)
  · exact (show ("at" : Str).length ≤ 4 by decide +kernel)
  · exact Nat.le_trans (nS_len (by omega) (by omega)) (by decide)
theorem cashWords_len {B : Bk} (G : Good B) : ∀ p ∈ cashWords B, p.length ≤ 4 := fun p hp => by
  rcases List.mem_cons.mp hp with rfl | hp
  · exact (show ("cash" : Str).length ≤ 4 by decide +kernel)
  · obtain ⟨x, hx, rfl⟩ := List.mem_map.mp hp
    have := G.cash x hx
    exact Nat.le_trans (nS_len this.1 (by omega)) (by decide)
theorem rowsOf_len {B : Bk} (G : Good B) : ∀ ws ∈ rowsOf B, ws.length ≤ 9 ∧ ∀ p ∈ ws, p.length ≤ 4 := fun ws hw => by
  have n1 := G.n1
  rcases List.mem_cons.mp hw with rfl | hw
  · exact ⟨by show (B.cash.map nS).length + 1 ≤ 9; rw [List.length_map]; omega, cashWords_len G⟩
  · obtain ⟨q, hq, rfl⟩ := List.mem_map.mp hw
    exact ⟨by show 6 ≤ 9; decide, wordsOf_len (G.claims q hq) (by omega)⟩
theorem rowS_len {ws : List Str} (h : ws.length ≤ 9 ∧ ∀ p ∈ ws, p.length ≤ 4) : (rowS ws).length ≤ 45 := by
  unfold rowS
  rw [TL.len_tl, TL.join_eq, TL.tl_join, tl_sp]
  refine Nat.le_trans (joinL_len (m := 4) fun p hp => ?_) ?_
  · obtain ⟨z, hz, rfl⟩ := List.mem_map.mp hp
    rw [← TL.len_tl]
    exact h.2 z hz
  · rw [List.length_map]
    show ws.length * 5 ≤ 45
    omega
theorem textOf_len {B : Bk} (G : Good B) : (textOf B).length ≤ 1150 := by
  have m1 := G.m1
  unfold textOf
  rw [TL.len_tl, TL.join_eq, TL.tl_join, tl_nl]
  refine Nat.le_trans (joinL_len (m := 45) fun p hp => ?_) ?_
  · obtain ⟨z, hz, rfl⟩ := List.mem_map.mp hp
    obtain ⟨ws, hw, rfl⟩ := List.mem_map.mp hz
    rw [← TL.len_tl]
    exact rowS_len (rowsOf_len G ws hw)
  · rw [List.length_map, List.length_map]
    show (B.claims.map wordsOf).length.succ * 46 ≤ 1150
    rw [List.length_map]
    omega
theorem sum_len {m : Nat} : ∀ {ps : List Str}, (∀ p ∈ ps, p.length ≤ m) → (ps.map (·.length)).sum ≤ ps.length * m
  | [], _ => Nat.zero_le _
  | p :: ps, h => by
    have h1 := h p List.mem_cons_self
    have ih := sum_len (ps := ps) fun z hz => h z (List.mem_cons_of_mem _ hz)
    rw [List.map_cons, List.sum_cons, List.length_cons, Nat.add_mul, Nat.one_mul]
    omega
/-! a number's first figure -/
theorem numL_head : ∀ {n : Nat}, 0 < n → ∃ c r, TL.numL n = c :: r ∧ c ≠ 48 := by
  intro n
  induction n using Nat.strongRecOn with
  | ind n ih =>
    intro h
    by_cases c : n < 10
    · exact ⟨48 + n, [], TL.numL_lt c, by omega⟩
    · obtain ⟨d, r, e, hd⟩ := ih (n / 10) (by omega) (by omega)
      exact ⟨d, r ++ [48 + n % 10], by rw [TL.numL_step (by omega), e]; rfl, hd⟩
theorem numL_zero : TL.numL 0 = [48] := TL.numL_lt (by decide)
/-- the first sign of a written number -/
theorem nS_first {i : Int} (h : 0 ≤ i) : ∃ c, (TL.tl (nS i))[0]? = some c ∧ (c = 48 ↔ i = 0) := by
  rw [tl_nS h]
  by_cases e : i = 0
  · subst e
    exact ⟨48, by show (TL.numL 0)[0]? = _; rw [numL_zero]; rfl, by simp⟩
  · obtain ⟨c, r, e1, hc⟩ := numL_head (n := i.toNat) (by omega)
    exact ⟨c, by rw [e1]; rfl, ⟨fun z => absurd z hc, fun z => absurd z e⟩⟩
theorem nS_len1 {i : Int} (h : 0 ≤ i) : 1 ≤ (nS i).length := by
  rw [TL.len_tl, tl_nS h]
  have := TL.numL_ne i.toNat
  exact List.length_pos_iff.mpr this
theorem nS_digit {i : Int} (h : 0 ≤ i) {c : Nat} (hc : c ∈ TL.tl (nS i)) : c ∈ TL.tl ("0123456789" : Str) := by
  rw [tl_nS h] at hc
  have r := TL.numL_digits i.toNat c hc
  have e : TL.tl ("0123456789" : Str) = [48, 49, 50, 51, 52, 53, 54, 55, 56, 57] := by decide +kernel
  rw [e]
  simp only [List.mem_cons, List.not_mem_nil, or_false]
  omega
theorem nS_int {i : Int} (h0 : 0 ≤ i) (h1 : i < 1000) : PySem.intText? (nS i) = some i := by
  obtain ⟨n, rfl⟩ := Int.eq_ofNat_of_zero_le h0
  exact TL.int_num (Nat.le_trans (TL.numL_len (k := 3) (by decide) (by omega)) (by decide))
theorem nS_log {i : Int} (h0 : 0 ≤ i) (h1 : i < 1000) : i.natAbs.log2 < 1920 := by
  by_cases e : i = 0
  · subst e
    decide
  · rw [Nat.log2_lt (by omega)]
    have t : (2 : Nat) ^ 10 ≤ 2 ^ 1920 := Nat.pow_le_pow_right (by decide) (by decide)
    exact Nat.lt_of_lt_of_le (show i.natAbs < 2 ^ 10 by omega) t
theorem nS_zero : nS 0 = ("0" : Str) := rfl
theorem nS_str {i : Int} {c : Nat} (h : 0 ≤ i) (hc : (TL.tl (nS i))[0]? = some c) (e : c = 48) (hi : c = 48 ↔ i = 0) : nS i = ("0" : Str) := by
  have := hi.mp e
  subst this
  exact nS_zero


end Rf
namespace Rf
open PySem PySem.Spec PyProof.Rows L2


end Rf
namespace Rf
open PySem PySem.Spec PyProof.Rows L2
/-! ### the text by places -/
def top (i : Nat) : Stmt := PySem.Challenge.pw_rankfall_k16_texts_refused.main.body.getD i (.Pass ⟨0, 0, 0, 0⟩)
abbrev s_bbinit : Stmt := inClass (top 2) 0
abbrev s_nminit : Stmt := inClass (top 5) 0
abbrev s_btinit : Stmt := inClass (top 6) 0
abbrev s_next : Stmt := top 24
abbrev s_lbook : Stmt := top 25
abbrev s_need : Stmt := top 13
abbrev s_wrong : Stmt := top 14
abbrev s_written : Stmt := top 18
abbrev s_arenum : Stmt := top 22
abbrev s_iscash : Stmt := top 20
abbrev s_isclaim : Stmt := top 21
abbrev s_read : Stmt := top 19
abbrev s_refu : Stmt := top 26
abbrev s_law : Stmt := top 27


end Rf
namespace Rf
open PySem PySem.Spec PyProof.Rows L2
/-! ### rules that the modules lack -/
section
variable {X : Cx}
theorem get_list : PGet X (rIxL X.K) := by
  intro pins s σ H o i ov iv Q I ro ri h
  obtain ⟨p, xs, k, z, rfl, rfl, hq, he, q⟩ := h
  cases ro
  obtain ⟨t, rfl⟩ := ri
  obtain ⟨its, r, pl, hz⟩ := I.list hq
  obtain ⟨j, h1, h2, h3, h4, h5⟩ := atI_get he
  obtain ⟨w, ew, rw'⟩ := r.get h2
  have hl := r.length
  have hn := line63
  have fin : EP X pins σ Q w s := ⟨z, H, I, rw', q⟩
  by_cases h0 : 0 ≤ k
  · have hj : k.toNat = j := by
      rw [seqIndex_of h0 h5] at h1
      exact Option.some.inj h1
    exact wpAny_getItem_list pl.isList h0 (by omega) (by rw [hj]; simpa using ew) fin
  · have hj : (k + (its.toArray.size : Int)).toNat = j := by
      rw [seqIndex_neg (by omega) h4] at h1
      rw [List.size_toArray, ← hl]
      exact Option.some.inj h1
    exact wpAny_getItem_list_neg pl.isList (by omega) (by rw [List.size_toArray] <;> omega) (by omega) (by rw [hj]; simpa using ew) fin
end
theorem dec_t {p : Prop} [Decidable p] (h : p) : V.bl (decide p) = V.bl true := congrArg V.bl (decide_eq_true h)
theorem dec_f {p : Prop} [Decidable p] (h : ¬ p) : V.bl (decide p) = V.bl false := congrArg V.bl (decide_eq_false h)
theorem dec_vint {i j : Int} : decide (V.int i = V.int j) = decide (i = j) := by
  rw [dec_int]
  by_cases h : i = j
  · rw [h]; simp
  · simp [h]
/-- len, list, tuple by values -/
def rLen (K : PySem.W.Frag) : List V → Hp → VK → Prop := fun xs H Q => ∃ p ys, xs = [.ref p] ∧ (SqL K H p ys ∨ SqT K H p ys) ∧ Q (.int ys.length) H
def rListOf (K : PySem.W.Frag) : List V → Hp → VK → Prop := fun xs H Q => ∃ p ys, xs = [.ref p] ∧ (SqL K H p ys ∨ SqT K H p ys) ∧ ∀ l, H l = none → Q (.ref l) (upd H l (.lst ys))
def rTupleOf (K : PySem.W.Frag) : List V → Hp → VK → Prop := fun xs H Q => ∃ p ys, xs = [.ref p] ∧ ((SqL K H p ys ∧ ∀ l, H l = none → Q (.ref l) (upd H l (.tup ys))) ∨ (SqT K H p ys ∧ Q (.ref p) H))
theorem call_len {X : Cx} : CallR X (.builtin "len") (rLen X.K) := call_len_seq
theorem call_listOf {X : Cx} : CallR X (.type "list") (rListOf X.K) := call_list_of
theorem call_tupleOf {X : Cx} : CallR X (.type "tuple") (rTupleOf X.K) := call_tuple_of
/-- a def of the top, as the walk asks for it -/
structure DefAt (K : PySem.W.Frag) (mg : Str → Option Value) (x : Str) (st : Stmt) (ps : List Str) (f : Addr) (fd : FuncData) : Prop where
  F : Fun K x x st f fd
  b : Binds K fd ps []
  g : mg x = some (.ref f)
theorem atI_g {l : List Int} {i : Int} {j : Nat} (e : i = (j : Int)) (h : j < l.length) : atI (l.map V.int) i = some (.int (g l j)) := by
  rw [e]
  apply atI_nat
  rw [List.getElem?_map, g_get h]
  rfl
theorem ixN_nat {n j : Nat} {i : Int} (e : i = (j : Int)) (h : j < n) : ixN n i = some j := by
  unfold ixN
  rw [if_pos (by omega), if_pos (by omega)]
  rw [e]
  rfl
theorem map_set {l : List Int} {j : Nat} {y : Int} : (l.map V.int).set j (.int y) = (l.set j y).map V.int := by
  rw [List.map_set]
/-- all that was tracked but at S stands -/
def Off (S : Addr → Prop) (H H' : Hp) : Prop := ∀ b o, H b = some o → ¬ S b → H' b = some o
theorem Off.refl {S : Addr → Prop} {H : Hp} : Off S H H := fun _ _ h _ => h
theorem Off.trans {S : Addr → Prop} {H H1 H2 : Hp} (a : Off S H H1) (b : Off S H1 H2) : Off S H H2 := fun x o h n => b x o (a x o h n) n
theorem Off.same {S : Addr → Prop} {H H1 : Hp} (a : Same H H1) : Off S H H1 := fun x o h _ => a x o h
theorem Same.off {S : Addr → Prop} {H H1 : Hp} (a : Same H H1) : Off S H H1 := fun x o h _ => a x o h
theorem Same.new {H : Hp} {p : Addr} {o : HO} (h : H p = none) : Same H (upd H p o) := fun b x e => by
  rw [upd_ne (ne_of_none e h)]
  exact e
theorem Same.mut {H H' : Hp} {p : Addr} {o : HO} (e : Same H H') (h : H p = none) : Same H (upd H' p o) := fun a u ha => by
  rw [upd_ne (ne_of_none ha h)]
  exact e a u ha
theorem sq_of {K : PySem.W.Frag} {H : Hp} {a : Addr} {xs : List V} (h : H a = some (.lst xs)) : SqL K H a xs := .inl (.inl h)
theorem st_of {K : PySem.W.Frag} {H : Hp} {a : Addr} {xs : List V} (h : H a = some (.tup xs)) : SqT K H a xs := .inl (.inl h)
theorem sz_of {n : Nat} (h : n ≤ 100000) : n ≤ sizeLine := Nat.le_trans h (by decide)
theorem sz_lt {n : Nat} (h : n < 100000) : n < sizeLine := Nat.lt_of_lt_of_le h (by decide)
/-! ### statements, one by one: what a part gives, then what follows -/
section
variable {te : TE} {g : TG} {t u tz : TS} {c : TT} {D : Ends} {σ : L2.St} {H : Hp} {i : Nat}
/-- name = e; what e leaves: R -/
theorem sq_set (R : V → Hp → Prop) (h : ∀ Q : VK, (∀ v H', R v H' → Q v H') → te σ H Q) (k : ∀ v H', R v H' → tz D (σ.set i (some v)) H') : tSeq (tAsg te (gName i)) tz D σ H := h _ k
/-- name = e, a value -/
theorem sq_val (v : V) (h : ∀ Q : VK, Q v H → te σ H Q) (k : tz D (σ.set i (some v)) H) : tSeq (tAsg te (gName i)) tz D σ H := h _ k
/-- name = e, an object -/
theorem sq_new (o : HO) (h : ∀ Q : VK, (∀ p H', H p = none → Same H H' → H' p = some o → Q (.ref p) H') → te σ H Q) (k : ∀ p H', H p = none → Same H H' → H' p = some o → tz D (σ.set i (some (.ref p))) H') : tSeq (tAsg te (gName i)) tz D σ H := h _ k
theorem sq_asg (R : V → Hp → Prop) (h : ∀ Q : VK, (∀ v H', R v H' → Q v H') → te σ H Q) (k : ∀ v H', R v H' → g v σ H' (tz D)) : tSeq (tAsg te g) tz D σ H := h _ k
/-- if c: .. else ..; c's answer is b -/
theorem sq_if (R : Bool → Hp → Prop) (h : ∀ Q : Bool → Hp → Prop, (∀ b H', R b H' → Q b H') → c σ H Q) (k1 : ∀ H', R true H' → t { D with nx := tz D } σ H') (k2 : ∀ H', R false H' → u { D with nx := tz D } σ H') : tSeq (tIfS c t u) tz D σ H := by
  refine h _ fun b H' r => ?_
  cases b with
  | true => exact iteT (k1 H' r)
  | false => exact iteF (k2 H' r)
theorem sq_ifP {p : Prop} [Decidable p] (h : ∀ Q : Bool → Hp → Prop, Q (decide p) H → c σ H Q) (k1 : p → t { D with nx := tz D } σ H) (k2 : ¬ p → u { D with nx := tz D } σ H) : tSeq (tIfS c t u) tz D σ H := by
  refine h _ ?_
  by_cases e : p
  · rw [decide_eq_true e]
    exact iteT (k1 e)
  · rw [decide_eq_false e]
    exact iteF (k2 e)
/-- if c: .. (no else) -/
theorem sq_whenP {p : Prop} [Decidable p] (h : ∀ Q : Bool → Hp → Prop, Q (decide p) H → c σ H Q) (k1 : p → t { D with nx := tz D } σ H) (k2 : ¬ p → tz D σ H) : tSeq (tIfS c t tNext) tz D σ H := sq_ifP h k1 k2
theorem if_ifP {p : Prop} [Decidable p] (h : ∀ Q : Bool → Hp → Prop, Q (decide p) H → c σ H Q) (k1 : p → t D σ H) (k2 : ¬ p → u D σ H) : tIfS c t u D σ H := by
  refine h _ ?_
  by_cases e : p
  · rw [decide_eq_true e]
    exact iteT (k1 e)
  · rw [decide_eq_false e]
    exact iteF (k2 e)
/-- any statement, then the rest -/
theorem sq_seq (h : t { D with nx := tz D } σ H) : tSeq t tz D σ H := h
theorem sq_nx (h : D.nx σ H) : tNext D σ H := h
end
section
variable {te : TE} {t tz : TS} {c : TT} {D : Ends} {σ : L2.St} {H : Hp}
/-- if c: .. (no else), where c is False; what it leaves: R -/
theorem sq_no (R : Hp → Prop) (h : ∀ Q : Bool → Hp → Prop, (∀ H', R H' → Q false H') → c σ H Q) (k : ∀ H', R H' → tz D σ H') : tSeq (tIfS c t tNext) tz D σ H := h _ fun H' r => iteF (k H' r)
/-- e alone -/
theorem sq_drop (R : Hp → Prop) (h : ∀ Q : VK, (∀ v H', R H' → Q v H') → te σ H Q) (k : ∀ H', R H' → tz D σ H') : tSeq (tDrop te) tz D σ H := h _ fun _ H' r => k H' r
/-- a statement, then the rest, with a word between them -/
theorem sq_cut (M : L2.St → Hp → Prop) (h : t { D with nx := M } σ H) (k : ∀ σ' H', M σ' H' → tz D σ' H') : Evl.tCut t tz D σ H := ⟨M, h, k⟩
end


end Rf
namespace Rf
open PySem PySem.Spec PyProof.Rows L2
/-! ### loops, one by one -/
section
variable {K : PySem.W.Frag} {tl : TE} {ta : TA} {g : TG} {tu tz : TS} {D : Ends} {σ : L2.St} {H : Hp} {j : Nat}
/-- for i in range(n) -/
theorem sq_forR (n : Int) (h : ∀ Q : List V → Hp → Prop, Q [.int n] H → ta σ H Q) (hn : -(2 ^ 62) ≤ n ∧ n < 2 ^ 62) (Pv : Nat → L2.St → Hp → Prop) (h0 : Pv 0 σ H)
    (hs : ∀ (i : Nat) σ' H', (i : Int) < n → Pv i σ' H' → tu { D with nx := Pv (i + 1), ct := Pv (i + 1), bk := tz D } (σ'.set j (some (.int (i : Int)))) H') (hd : ∀ σ' H', Pv n.toNat σ' H' → tz D σ' H') : tSeq (tFor (iRng1 ta) (gName j) tu) tz D σ H := by
  refine h _ ⟨n, rfl, hn.1, hn.2, for_range (lo := 0) (n := n.toNat) (D := { D with nx := tz D }) Pv h0 (fun i σ' H' hi p => ?_) hd⟩
  have e : (0 : Int) + (i : Int) = (i : Int) := Int.zero_add _
  have q := hs i σ' H' (by omega) p
  show tu _ (σ'.set j (some (.int (0 + (i : Int))))) H'
  rw [e]
  exact q
/-- the same, the bound's reckoning leaves R -/
theorem sq_forRx (R : Int → Hp → Prop) (h : ∀ Q : List V → Hp → Prop, (∀ n H1, R n H1 → Q [.int n] H1) → ta σ H Q) (hn : ∀ n H1, R n H1 → -(2 ^ 62) ≤ n ∧ n < 2 ^ 62) (Pv : Int → Nat → L2.St → Hp → Prop) (h0 : ∀ n H1, R n H1 → Pv n 0 σ H1)
    (hs : ∀ (n : Int) (i : Nat) σ' H', (i : Int) < n → Pv n i σ' H' → tu { D with nx := Pv n (i + 1), ct := Pv n (i + 1), bk := tz D } (σ'.set j (some (.int (i : Int)))) H') (hd : ∀ (n : Int) σ' H', Pv n n.toNat σ' H' → tz D σ' H') : tSeq (tFor (iRng1 ta) (gName j) tu) tz D σ H := by
  refine h _ fun n H1 r => ⟨n, rfl, (hn n H1 r).1, (hn n H1 r).2, for_range (lo := 0) (n := n.toNat) (D := { D with nx := tz D }) (Pv n) (h0 n H1 r) (fun i σ' H' hi p => ?_) (hd n)⟩
  have e : (0 : Int) + (i : Int) = (i : Int) := Int.zero_add _
  have q := hs n i σ' H' (by omega) p
  show tu _ (σ'.set j (some (.int (0 + (i : Int))))) H'
  rw [e]
  exact q
/-- for i in range(lo, hi) -/
theorem sq_forR2 (lo n : Int) (h : ∀ Q : List V → Hp → Prop, Q [.int lo, .int n] H → ta σ H Q) (hl : -(2 ^ 62) ≤ lo ∧ lo < 2 ^ 62) (hn : -(2 ^ 62) ≤ n ∧ n < 2 ^ 62) (Pv : Nat → L2.St → Hp → Prop) (h0 : Pv 0 σ H)
    (hs : ∀ (i : Nat) σ' H', lo + (i : Int) < n → Pv i σ' H' → tu { D with nx := Pv (i + 1), ct := Pv (i + 1), bk := tz D } (σ'.set j (some (.int (lo + (i : Int))))) H') (hd : ∀ σ' H', Pv (n - lo).toNat σ' H' → tz D σ' H') : tSeq (tFor (iRng2 ta) (gName j) tu) tz D σ H :=
  h _ ⟨lo, n, rfl, ⟨hl.1, hl.2, hn.1, hn.2⟩, for_range (lo := lo) (n := (n - lo).toNat) (D := { D with nx := tz D }) Pv h0 (fun i σ' H' hi p => hs i σ' H' (by omega) p) hd⟩
/-- for x in a list -/
theorem sq_forL {a : Addr} {xs : List V} (h : ∀ Q : VK, Q (.ref a) H → tl σ H Q) (hx : SqL K H a xs) (Pv : Nat → L2.St → Hp → Prop) (h0 : Pv 0 σ H) (hl : ∀ i σ' H', i ≤ xs.length → Pv i σ' H' → SqL K H' a xs)
    (hs : ∀ i x σ' H', xs[i]? = some x → Pv i σ' H' → g x σ' H' fun σ2 H2 => tu { D with nx := Pv (i + 1), ct := Pv (i + 1), bk := tz D } σ2 H2) (hd : ∀ σ' H', Pv xs.length σ' H' → tz D σ' H') : tSeq (tFor (iList K tl) g tu) tz D σ H :=
  h _ ⟨a, rfl, ⟨xs, hx⟩, for_list (D := { D with nx := tz D }) Pv h0 hl hs hd⟩
/-- for x in a tuple -/
theorem sq_forT {a : Addr} {xs : List V} (h : ∀ Q : VK, Q (.ref a) H → tl σ H Q) (hx : SqT K H a xs) (Pv : Nat → L2.St → Hp → Prop) (h0 : Pv 0 σ H) (hl : ∀ i σ' H', i ≤ xs.length → Pv i σ' H' → SqT K H' a xs)
    (hs : ∀ i x σ' H', xs[i]? = some x → Pv i σ' H' → g x σ' H' fun σ2 H2 => tu { D with nx := Pv (i + 1), ct := Pv (i + 1), bk := tz D } σ2 H2) (hd : ∀ σ' H', Pv xs.length σ' H' → tz D σ' H') : tSeq (tFor (iTup K tl) g tu) tz D σ H :=
  h _ ⟨a, rfl, ⟨xs, hx⟩, for_tup (D := { D with nx := tz D }) Pv h0 hl hs hd⟩
/-- for i, x in enumerate(a list) -/
theorem sq_forE {a : Addr} {xs : List V} (h : ∀ Q : List V → Hp → Prop, Q [.ref a] H → ta σ H Q) (hx : SqL K H a xs) (Pv : Nat → L2.St → Hp → Prop) (h0 : Pv 0 σ H) (hl : ∀ i σ' H', i ≤ xs.length → Pv i σ' H' → SqL K H' a xs)
    (hs : ∀ (i : Nat) (x : V) (T : Addr) σ' H', xs[i]? = some x → Pv i σ' H' → H' T = none → g (.ref T) σ' (upd H' T (.tup [.int (i : Int), x])) fun σ2 H2 => tu { D with nx := Pv (i + 1), ct := Pv (i + 1), bk := tz D } σ2 H2) (hd : ∀ σ' H', Pv xs.length σ' H' → tz D σ' H') : tSeq (tFor (iEnum K ta) g tu) tz D σ H := by
  refine h _ ⟨a, xs, rfl, hx, fun i m σ H => m = xs.length - i ∧ i ≤ xs.length ∧ Pv i σ H, ⟨xs.length, rfl, Nat.zero_le _, h0⟩, ?_⟩
  rintro i m σ H ⟨rfl, hi, p⟩
  have q := hl i σ H hi p
  by_cases hlt : i < xs.length
  · have hx : xs[i]? = some xs[i] := List.getElem?_eq_getElem hlt
    refine .inr ⟨⟨xs, _, q, hx⟩, Pv (i + 1), fun σ' H' p' => ⟨xs.length - (i + 1), by omega, rfl, hlt, p'⟩, fun v H' y => ?_⟩
    obtain ⟨T, x', rfl, hT, rfl, f1⟩ := y
    exact hs i x' T σ H (f1 xs q) p hT
  · have e : i = xs.length := by omega
    subst e
    exact .inl ⟨⟨xs, q, Nat.le_refl _⟩, hd σ H p⟩
/-- a for that is its block's last -/
theorem last_for {wi : TI} (h : tSeq (tFor wi g tu) tNext D σ H) : tFor wi g tu D σ H := h
end
/-- for x in a new list -/
theorem sq_forN {K : PySem.W.Frag} {tl : TE} {g : TG} {tu tz : TS} {D : Ends} {σ : L2.St} {H : Hp} {xs : List V} (h : ∀ Q : VK, (∀ p H', H p = none → Same H H' → H' p = some (.lst xs) → Q (.ref p) H') → tl σ H Q) (Pv : Addr → Nat → L2.St → Hp → Prop)
    (h0 : ∀ p H', H p = none → Same H H' → H' p = some (.lst xs) → Pv p 0 σ H') (hl : ∀ p i σ' H', i ≤ xs.length → Pv p i σ' H' → SqL K H' p xs)
    (hs : ∀ p i x σ' H', xs[i]? = some x → Pv p i σ' H' → g x σ' H' fun σ2 H2 => tu { D with nx := Pv p (i + 1), ct := Pv p (i + 1), bk := tz D } σ2 H2) (hd : ∀ p σ' H', Pv p xs.length σ' H' → tz D σ' H') : tSeq (tFor (iList K tl) g tu) tz D σ H :=
  h _ fun p H' np s hp => ⟨p, rfl, ⟨xs, sq_of hp⟩, for_list (D := { D with nx := tz D }) (Pv p) (h0 p H' np s hp) (hl p) (hs p) (hd p)⟩
/-- the slots, told anew (much quicker than a long row of stores) -/
theorem sq_norm {tz : TS} {D : Ends} {σ : L2.St} {H : Hp} (σ' : L2.St) (e : σ = σ') (h : tz D σ' H) : tz D σ H := e ▸ h


end Rf
namespace Rf
open PySem PySem.Spec PyProof.Rows L2
/-! ### enumerate(a tuple) -/
/-- the tuple at a, at each turn the next item in a new pair -/
def IteT (K : PySem.W.Frag) (a : Addr) : It where
  go := fun i H => ∃ (xs : List V) (x : V), SqT K H a xs ∧ xs[i]? = some x
  yld := fun i H v H' => ∃ T x, v = .ref T ∧ H T = none ∧ H' = upd H T (.tup [.int (i : Nat), x]) ∧ ∀ xs, SqT K H a xs → xs[i]? = some x
  stop := fun i H => ∃ xs : List V, SqT K H a xs ∧ xs.length ≤ i
theorem apart_types {h : Heap} {e a : Addr} {o u : Obj} (h1 : h.get? e = some o) (h2 : h.get? a = some u) (d : o.cls ≠ u.cls) : e ≠ a := fun z => by
  rw [z, h2] at h1
  exact d (congrArg Obj.cls (Option.some.inj h1).symm)
theorem turn_enumT {P : Program} {w : World} {K : PySem.W.Frag} {elts : List Expr} {kk : Nat} {tpos : Pos} (a e it : Addr) :
    Turn P w K (.Tuple elts kk tpos) (IteT K a) [e, it] e (fun i h => (∃ old, IsEnum h e it ((i : Nat) : Int) old) ∧ h.IsTupleIter it a i ∧ e ≠ it) where
  mem := List.mem_cons_self
  obj := fun i h st b hb => by
    obtain ⟨⟨old, he⟩, ⟨o, ho, hc, hd⟩, _⟩ := st
    rcases List.mem_cons.mp hb with z | z
    · subst z
      exact ⟨_, he, fun v q => nomatch q⟩
    · exact ⟨o, by rw [List.mem_singleton.mp z]; exact ho, fun v q => by rw [hd] at q; cases q⟩
  keep := fun i h h' st k => ⟨⟨st.1.choose, k e (by simp) _ st.1.choose_spec⟩, st.2.1.at fun o q => k it (by simp) o q, st.2.2⟩
  item := by
    intro X hP hw hK hc i pins s σ H E I hf st hg
    subst hP hw hK
    obtain ⟨⟨old, he⟩, hit, hne⟩ := st
    obtain ⟨xs, x, hq, hx⟩ := hg
    obtain ⟨its, rv, p, hz⟩ := I.tuple hq
    obtain ⟨u, hu, ru⟩ := rv.get hx
    have pt : s.heap.IsTuple a its.toArray := p
    have hel : e < s.heap.objs.size := Heap.lt_size he
    have hil : it < s.heap.objs.size := by obtain ⟨_, q, _⟩ := hit; exact Heap.lt_size q
    have hea : e ≠ a := by
      obtain ⟨o2, q2, c2, _⟩ := id pt
      exact apart_types he q2 (by rw [c2]; exact fun z => absurd (Value.type.inj z) (by decide))
    have hai : a ≠ it := by
      obtain ⟨o2, q2, c2, _⟩ := id pt
      obtain ⟨o3, q3, c3, _⟩ := id hit
      exact apart_types q2 q3 (by rw [c2, c3]; exact fun z => absurd (Value.type.inj z) (by decide))
    have hu2 : its.toArray[i]? = some u := by simpa using hu
    have hi : i < its.toArray.size := (Array.getElem?_eq_some_iff.mp hu2).1
    refine wpAny_pyNext_enum_itemD (Draws.tuple (A := X.A.in1) (I.ok.hd hc) it a hai its.toArray) he ⟨hit, pt⟩ hi hne (by simp [hne, hea]) fun y h' tk hy ho st' hT hsz hk => ?_
    obtain ⟨hit', _⟩ := st'
    have ey : y = u := Option.some.inj (hy.symm.trans hu2)
    subst ey
    refine ⟨_, rfl, wpAny_letOwnedTupleGo_enum (s := { s with heap := h', toks := tk + 1 }) ho fun h'' he' sb => ?_⟩
    have hT2 : h''.get? s.heap.objs.size = some { cls := .type "tuple", data := .seq #[.int i tk, y] } := (sb.2 _ (Nat.ne_of_gt hel)).trans hT
    have new : ObjOk X.prog X.w (upd H s.heap.objs.size (.tup [.int (i : Nat), x])) h'' s.heap.objs.size (.tup [.int (i : Nat), x]) := by
      refine ⟨by show 2 ≤ sizeLine; decide, [.int i tk, y], .cons ⟨_, rfl⟩ (.cons ru .nil), ⟨_, hT2, rfl, _, rfl⟩⟩
    have I1 : Inv X pins σ (upd H s.heap.objs.size (.tup [.int (i : Nat), x])) { s with heap := h'', toks := tk + 1 } := by
      refine I.turnedNew (ch := [e, it]) (fun b ob hb q => ?_) hf (Nat.le_refl _) new
      have n1 : b ≠ e := fun z => hb (by simp [z])
      have n2 : b ≠ it := fun z => hb (by simp [z])
      exact (sb.2 b n1).trans (hk b ob n1 n2 q)
    refine ⟨.ref s.heap.objs.size, _, I1, rfl, ⟨_, x, rfl, I.hok.fresh (Nat.le_refl _), rfl, fun ys hy => by rw [I.tuple_inj hy hq]; exact hx⟩, ⟨⟨y, ?_⟩, hit'.at fun o q => (sb.2 it (Ne.symm hne)).trans q, hne⟩, fun b hb => ?_⟩
    · have e1 : ((i + 1 : Nat) : Int) = (i : Int) + 1 := rfl
      rw [e1]
      exact he'
    · have hb' : b < s.heap.objs.size := by
        rcases List.mem_cons.mp hb with z | z
        · rw [z]; exact hel
        · rw [List.mem_singleton.mp z]; exact hil
      rw [upd_ne (Nat.ne_of_lt hb')]
      exact (hf b hb).1
  done := by
    intro X hP hw hK hc i pins s σ H E I hf st hg
    subst hP hw hK
    obtain ⟨⟨old, he⟩, hit, hne⟩ := st
    obtain ⟨xs, hq, hx⟩ := hg
    obtain ⟨its, rv, p, hz⟩ := I.tuple hq
    have pt : s.heap.IsTuple a its.toArray := p
    have hea : e ≠ a := by
      obtain ⟨o2, q2, c2, _⟩ := id pt
      exact apart_types he q2 (by rw [c2]; exact fun z => absurd (Value.type.inj z) (by decide))
    have hai : a ≠ it := by
      obtain ⟨o2, q2, c2, _⟩ := id pt
      obtain ⟨o3, q3, c3, _⟩ := id hit
      exact apart_types q2 q3 (by rw [c2, c3]; exact fun z => absurd (Value.type.inj z) (by decide))
    have hl := rv.length
    obtain ⟨f0, f1, f2, f3, f4, f5⟩ := hf it (by simp)
    have hT : s.TypeIs (.ref e) "enumerate" := ⟨_, he, rfl⟩
    unfold pyNext
    refine wpAny_bind (wpAny_attempt (wpAny_callSpecial?_slot (name := Str.ofString "__next__") hT F.slot_enumerate_next (wpAny_call_entry F.slot_enumerate_next hT F.entry_enumerate_next ?_ (F.args_enumerate_next_1 _))))
    show wpAny _ _ (field (.ref e) 2 >>= _) _ _ _
    refine wpAny_bind (wpAny_field he rfl (x := .ref it) rfl ?_)
    refine wpAny_bind (wpAny_nextOf_tuple_end (I.ok.hd hc) hit pt (by rw [Array.getElem?_eq_none]; simp; omega) fun h' x he' hx' => ?_)
    obtain ⟨o, ho, hc2⟩ := hx'
    refine wpAny_bind (wpAny_isInstance (T := "StopIteration") (b := true) ⟨o, ho, hc2⟩ isSubtype_stop ?_)
    exact wpAny_pure ⟨rfl, I.turned (t' := s.toks) (fun b o hb e => he' b o hb e) f0 f1 f3 f4 f5⟩
  self := fun A i s Q E st h => wpAny_pyIter_enum st.1.choose_spec h
set_option maxHeartbeats 1000000 in
theorem meets_enum1 {v : Value} {o : Obj} {H : Heap → Prop} (B : Begins v o H) : Meets (Builtin.«enumerate.__new__» ⟨[.type "enumerate", v], []⟩) (fun _ R s => H s.heap ∧ R (.ok (.ret (.ref (s.heap.push o).objs.size))) { s with heap := (s.heap.push o).push { cls := .type "enumerate", data := .fields #[.none, .bool false, .ref s.heap.objs.size, rawInt 0, .none, .none] } }) :=
  .of_wp fun prog w A R s h => by
    obtain ⟨hp, gn, d, tk, os⟩ := s
    obtain ⟨h1, h⟩ := h
    have hsub := sub_enumerate
    have go : ∀ {A' : Around} {E : Value → Shared → Prop} {Q : Value → Shared → Prop}, Q (.ref hp.objs.size) ⟨hp.push o, gn, d, tk, os⟩ → wpAny (model prog w) A' (pyIter v) Q E ⟨hp, gn, d, tk, os⟩ := fun q => B.iter prog w _ _ ⟨hp, gn, d, tk, os⟩ _ h1 q
    wp_walk using go
    refine wpAny_stack_any fun st => wpAny_pure ?_
    split
    · rename_i c _ _ _ _ _
      cases (c == Value.type "enumerate") <;> (wp_walk using go; exact ⟨_, rfl, h⟩)
    · wp_walk using go
      exact ⟨_, rfl, h⟩
theorem enum_one {prog : Program} {w : World} {A : Around} {E : Value → Shared → Prop} {s : Shared} {v : Value} {o : Obj} {H : Heap → Prop} {Q : Value → Shared → Prop} (B : Begins v o H) (h1 : H s.heap)
    (h : ∀ h', IsEnum h' (s.heap.objs.size + 1) s.heap.objs.size 0 .none → h'.get? s.heap.objs.size = some o → h'.objs.size = s.heap.objs.size + 2 → (∀ b u, s.heap.get? b = some u → h'.get? b = some u) → Q (.ref (s.heap.objs.size + 1)) { s with heap := h' }) :
    wpAny (model prog w) A (call (.type "enumerate") [v]) Q E s := by
  refine callType_new F.called_enumerate (by decide) (F.typeCall_enumerate_1 _) (F.newCall_enumerate_1 _) (fun obj => F.args_object_init_2 obj _) F.entry_enumerate_new (meets_enum1 B) ⟨h1, ?_⟩
  have hz : (s.heap.push o).objs.size = s.heap.objs.size + 1 := Heap.size_push ..
  have he := Heap.get?_push_size (s.heap.push o) (o := { cls := .type "enumerate", data := .fields #[.none, .bool false, .ref s.heap.objs.size, rawInt 0, .none, .none] }) rfl
  show _ ∧ _
  rw [hz] at he ⊢
  exact ⟨⟨_, he, rfl⟩, h _ he (Heap.get?_push_of_some _ (Heap.get?_push_size _ B.free)) (by rw [Heap.size_push, hz]) fun b u x => Heap.get?_push_of_some _ (Heap.get?_push_of_some _ x)⟩
def iEnumT (K : PySem.W.Frag) (ta : TA) : TI := fun σ H R => ta σ H fun vs H1 => ∃ a xs, vs = [.ref a] ∧ SqT K H1 a xs ∧ R (IteT K a) H1
theorem pi_enumT {X : Cx} {e : Expr} {ta : TA} {p pos tpos : Pos} {elts : List Expr} {kk : Nat} (hg : Gl X "enumerate") (hm : X.mg "enumerate" = none) (ha : PA X [e] ta) (hs : starEach [e] X.env = [(false, eval e X.env)] := by rfl) :
    PI X (.Tuple elts kk tpos) (.Call (.Name "enumerate" p) [e] [] pos) (iEnumT X.K ta) := by
  refine ⟨fun pins s σ H R I h => ?_⟩
  refine Call_ (ld_blt I hg hm boot_enumerate (PyProof.Rows.callWith_type1 (thn (ha.run pos pins s σ H _ I h) fun us s1 ⟨vs, H1, I1, r1, q1⟩ => ?_) hs rfl))
  obtain ⟨a, xs, ex, hq, q⟩ := q1
  subst ex
  cases r1 with
  | cons r rr =>
    cases rr
    cases r
    obtain ⟨its, rv, pt, hz⟩ := I1.tuple hq
    refine enum_one (begins_tuple a its.toArray) pt fun h' he hit hsz hk => wpAny_pyIter_enum he ?_
    have I2 : Inv X pins σ H1 { s1 with heap := h' } := I1.kept (t' := s1.toks) hk
    refine ⟨s1.heap.objs.size + 1, [s1.heap.objs.size + 1, s1.heap.objs.size], _, _, H1, rfl, I2, turn_enumT a (s1.heap.objs.size + 1) s1.heap.objs.size, ⟨⟨.none, he⟩, ⟨_, hit, rfl, rfl⟩, Nat.succ_ne_self _⟩, fun b hb => ?_, q⟩
    have hle : s1.heap.objs.size ≤ b := by
      rcases List.mem_cons.mp hb with z | z
      · rw [z]; exact Nat.le_add_right _ _
      · rw [List.mem_singleton.mp z]; exact Nat.le_refl _
    exact I1.fpOk hle (I1.hok.fresh hle)
section
variable {K : PySem.W.Frag} {ta : TA} {g : TG} {tu tz : TS} {D : Ends} {σ : L2.St} {H : Hp}
/-- for i, x in enumerate(a tuple) -/
theorem sq_forET {a : Addr} {xs : List V} (h : ∀ Q : List V → Hp → Prop, Q [.ref a] H → ta σ H Q) (hx : SqT K H a xs) (Pv : Nat → L2.St → Hp → Prop) (h0 : Pv 0 σ H) (hl : ∀ i σ' H', i ≤ xs.length → Pv i σ' H' → SqT K H' a xs)
    (hs : ∀ (i : Nat) (x : V) (T : Addr) σ' H', xs[i]? = some x → Pv i σ' H' → H' T = none → g (.ref T) σ' (upd H' T (.tup [.int (i : Int), x])) fun σ2 H2 => tu { D with nx := Pv (i + 1), ct := Pv (i + 1), bk := tz D } σ2 H2) (hd : ∀ σ' H', Pv xs.length σ' H' → tz D σ' H') : tSeq (tFor (iEnumT K ta) g tu) tz D σ H := by
  refine h _ ⟨a, xs, rfl, hx, fun i m σ H => m = xs.length - i ∧ i ≤ xs.length ∧ Pv i σ H, ⟨xs.length, rfl, Nat.zero_le _, h0⟩, ?_⟩
  rintro i m σ H ⟨rfl, hi, p⟩
  have q := hl i σ H hi p
  by_cases hlt : i < xs.length
  · have hx : xs[i]? = some xs[i] := List.getElem?_eq_getElem hlt
    refine .inr ⟨⟨xs, _, q, hx⟩, Pv (i + 1), fun σ' H' p' => ⟨xs.length - (i + 1), by omega, rfl, hlt, p'⟩, fun v H' y => ?_⟩
    obtain ⟨T, x', rfl, hT, rfl, f1⟩ := y
    exact hs i x' T σ H (f1 xs q) p hT
  · have e : i = xs.length := by omega
    subst e
    exact .inl ⟨⟨xs, q, Nat.le_refl _⟩, hd σ H p⟩
end


end Rf
namespace Rf
open PySem PySem.Spec PyProof.Rows L2
/-! ### data without bools, texts and dicts: == is equality -/
mutual
def clean : PyData → Prop
  | .none => True
  | .int _ => True
  | .list xs => cleanAll xs
  | .tuple xs => cleanAll xs
  | .bool _ => False
  | .str _ => False
  | .dict _ => False
def cleanAll : List PyData → Prop
  | [] => True
  | x :: xs => clean x ∧ cleanAll xs
end
mutual
theorem eqv_iff : ∀ (d e : PyData), clean d → clean e → (PyData.eqv d e = true ↔ d = e)
  | .none, e, _, h => by cases e <;> simp_all [PyData.eqv, clean]
  | .int i, e, _, h => by cases e <;> simp_all [PyData.eqv, clean]
  | .list xs, e, hx, h => by
    cases e with
    | list ys =>
      unfold PyData.eqv
      rw [eqvAll_iff xs ys (by simpa [clean] using hx) (by simpa [clean] using h)]
      exact ⟨fun z => by rw [z], fun z => PyData.list.inj z⟩
    | _ => simp_all [PyData.eqv, clean]
  | .tuple xs, e, hx, h => by
    cases e with
    | tuple ys =>
      unfold PyData.eqv
      rw [eqvAll_iff xs ys (by simpa [clean] using hx) (by simpa [clean] using h)]
      exact ⟨fun z => by rw [z], fun z => PyData.tuple.inj z⟩
    | _ => simp_all [PyData.eqv, clean]
  | .bool _, _, h, _ => by simp [clean] at h
  | .str _, _, h, _ => by simp [clean] at h
  | .dict _, _, h, _ => by simp [clean] at h
theorem eqvAll_iff : ∀ (xs ys : List PyData), cleanAll xs → cleanAll ys → (PyData.eqvAll xs ys = true ↔ xs = ys)
  | [], [], _, _ => by simp [PyData.eqvAll]
  | [], _ :: _, _, _ => by simp [PyData.eqvAll]
  | _ :: _, [], _, _ => by simp [PyData.eqvAll]
  | x :: xs, y :: ys, hx, hy => by
    obtain ⟨h1, h2⟩ := (show clean x ∧ cleanAll xs by simpa [cleanAll] using hx)
    obtain ⟨h3, h4⟩ := (show clean y ∧ cleanAll ys by simpa [cleanAll] using hy)
    unfold PyData.eqvAll
    rw [Bool.and_eq_true, eqv_iff x y h1 h3, eqvAll_iff xs ys h2 h4]
    exact ⟨fun z => by rw [z.1, z.2], fun z => List.cons.inj z⟩
end
mutual
theorem canLay_clean : ∀ (d : PyData), clean d → d.canLay0 = true
  | .none, _ => by simp [PyData.canLay0]
  | .int i, _ => by simp [PyData.canLay0]
  | .list xs, h => by
    unfold PyData.canLay0
    exact canLayAll_clean xs (by simpa [clean] using h)
  | .tuple xs, h => by
    unfold PyData.canLay0
    exact canLayAll_clean xs (by simpa [clean] using h)
  | .bool _, h => by simp [clean] at h
  | .str _, h => by simp [clean] at h
  | .dict _, h => by simp [clean] at h
theorem canLayAll_clean : ∀ (xs : List PyData), cleanAll xs → PyData.canLayAll0 xs = true
  | [], _ => by simp [PyData.canLayAll0]
  | x :: xs, h => by
    obtain ⟨h1, h2⟩ := (show clean x ∧ cleanAll xs by simpa [cleanAll] using h)
    unfold PyData.canLayAll0
    rw [canLay_clean x h1, canLayAll_clean xs h2]
    rfl
end
theorem depthAll_le {n : Nat} : ∀ (xs : List PyData), (∀ x ∈ xs, x.depth ≤ n) → PyData.depthAll xs ≤ n
  | [], _ => by simp [PyData.depthAll]
  | x :: xs, h => by
    unfold PyData.depthAll
    exact Nat.max_le.mpr ⟨h x List.mem_cons_self, depthAll_le xs fun y hy => h y (List.mem_cons_of_mem _ hy)⟩
theorem cleanAll_of : ∀ {xs : List PyData}, (∀ x ∈ xs, clean x) → cleanAll xs
  | [], _ => by simp [cleanAll]
  | x :: xs, h => by
    simp only [cleanAll]
    exact ⟨h x List.mem_cons_self, cleanAll_of fun y hy => h y (List.mem_cons_of_mem _ hy)⟩
/-- d is clean data at most n deep -/
structure Cl (n : Nat) (d : PyData) : Prop where
  c : clean d
  d : d.depth ≤ n
theorem Cl.shaped {n : Nat} {d : PyData} (h : Cl n d) (hn : n ≤ 64) : SeqAt.shaped d = true := by
  unfold SeqAt.shaped
  rw [canLay_clean d h.c, decide_eq_true (Nat.le_trans h.d hn)]
  rfl
theorem cl_int {i : Int} : Cl 0 (.int i) := ⟨by simp [clean], by simp [PyData.depth]⟩
theorem cl_none : Cl 0 .none := ⟨by simp [clean], by simp [PyData.depth]⟩
theorem cl_list {n : Nat} {xs : List PyData} (h : ∀ x ∈ xs, Cl n x) : Cl (n + 1) (.list xs) :=
  ⟨by simpa [clean] using cleanAll_of fun x hx => (h x hx).c, by
    unfold PyData.depth
    exact Nat.succ_le_succ (depthAll_le xs fun x hx => (h x hx).d)⟩
theorem cl_tup {n : Nat} {xs : List PyData} (h : ∀ x ∈ xs, Cl n x) : Cl (n + 1) (.tuple xs) :=
  ⟨by simpa [clean] using cleanAll_of fun x hx => (h x hx).c, by
    unfold PyData.depth
    exact Nat.succ_le_succ (depthAll_le xs fun x hx => (h x hx).d)⟩
theorem cl_ints {l : List Int} : ∀ x ∈ l.map PyData.int, Cl 0 x := fun x hx => by
  obtain ⟨i, _, rfl⟩ := List.mem_map.mp hx
  exact cl_int
def dInts (l : List Int) : PyData := .list (l.map .int)
theorem cl_dInts {l : List Int} : Cl 1 (dInts l) := cl_list cl_ints
theorem dInts_inj {l m : List Int} : dInts l = dInts m ↔ l = m := by
  constructor
  · intro h
    have h2 := PyData.list.inj h
    exact (List.map_inj_right (fun a b z => PyData.int.inj z)).mp h2
  · intro h; rw [h]
theorem dpAll_ints {K : PySem.W.Frag} {H : Hp} : ∀ {l : List Int}, DpAll K H (l.map V.int) (l.map PyData.int)
  | [] => .nil
  | _ :: _ => .cons (.int _) dpAll_ints
theorem dp_ints {K : PySem.W.Frag} {H : Hp} {a : Addr} {l : List Int} (h : SqL K H a (l.map V.int)) : Dp K H (.ref a) (dInts l) := .lst h dpAll_ints
theorem eqv_ints {l m : List Int} : PyData.eqv (dInts l) (dInts m) = decide (l = m) := by
  by_cases h : l = m
  · rw [decide_eq_true h, h]
    exact (eqv_iff _ _ cl_dInts.c cl_dInts.c).mpr rfl
  · rw [decide_eq_false h]
    cases e : PyData.eqv (dInts l) (dInts m) with
    | false => rfl
    | true => exact absurd (dInts_inj.mp ((eqv_iff _ _ cl_dInts.c cl_dInts.c).mp e)) h
theorem sh_ints {l : List Int} : SeqAt.shaped (dInts l) = true := cl_dInts.shaped (by decide)
theorem eqv_self {n : Nat} {d : PyData} (h : Cl n d) : PyData.eqv d d = true := (eqv_iff d d h.c h.c).mpr rfl
theorem neqv_self {n : Nat} {d : PyData} (h : Cl n d) : (!PyData.eqv d d) = false := by
  rw [eqv_self h]
  rfl
/-- xs[:-1] of a list with one more item -/
theorem cut_last (xs : List V) (y : V) : cutV (xs ++ [y]) none (some (-1)) = xs := by
  have hl : (xs ++ [y]).length = xs.length + 1 := by simp
  unfold cutV
  rw [hl, HT.sIx_none]
  have e : HT.sIx (xs.length + 1) (xs.length + 1) (some (-1)) = xs.length := by
    simp [HT.sIx]
    omega
  rw [e, List.drop_zero, Nat.sub_zero]
  exact List.take_left' rfl


end Rf
namespace Rf
open PySem PySem.Spec PyProof.Rows L2
/-! ### the law's draws: any number of the range may come -/
structure RngAt (H : Hp) (h c : Addr) : Prop where
  ne : h ≠ c
  at_ : ∃ (x p : Int) (cells : List Int), H h = some (.lst [.int x, .ref c, .int p]) ∧ H c = some (.lst (cells.map V.int)) ∧ 0 ≤ x ∧ x < 2147483647 ∧ 0 ≤ p ∧ cells.length ≤ 63
def isHC (h c : Addr) (b : Addr) : Prop := b = h ∨ b = c
theorem RngAt.keep {H H' : Hp} {h c : Addr} (R : RngAt H h c) (e1 : H' h = H h) (e2 : H' c = H c) : RngAt H' h c := by
  obtain ⟨ne, x, p, cells, h1, h2, r⟩ := R
  exact ⟨ne, x, p, cells, e1.trans h1, e2.trans h2, r⟩
theorem RngAt.same {H H' : Hp} {h c : Addr} (R : RngAt H h c) (e : Same H H') : RngAt H' h c := by
  obtain ⟨ne, x, p, cells, h1, h2, r⟩ := R
  exact ⟨ne, x, p, cells, e _ _ h1, e _ _ h2, r⟩
theorem RngAt.off {S : Addr → Prop} {H H' : Hp} {h c : Addr} (R : RngAt H h c) (e : Off S H H') (n1 : ¬ S h) (n2 : ¬ S c) : RngAt H' h c := by
  obtain ⟨ne, x, p, cells, h1, h2, r⟩ := R
  exact ⟨ne, x, p, cells, e _ _ h1 n1, e _ _ h2 n2, r⟩
def spNext : Sp := fun vs H Q _ => ∃ (h c : Addr) (m : Int), vs = [.ref h, .int m] ∧ RngAt H h c ∧ 0 < m ∧ m < 1073741824 ∧
  ∀ (r : Int) (H' : Hp), 0 ≤ r → r < m → RngAt H' h c → Off (isHC h c) H H' → Q (.int r) H'
theorem Off.hc {H H1 H' : Hp} {h c b : Addr} {o : HO} (e : Off (isHC h c) H H') (hb : b = h ∨ b = c) : Off (isHC h c) H (upd H' b o) := fun a u q n => by
  have : a ≠ b := fun z => n (by rw [z]; exact hb)
  rw [upd_ne this]
  exact e a u q n
section
variable {P : Program} {w : World} {K : PySem.W.Frag} {mg : Str → Option Value} {base : Heap}
theorem sc_next : FnScope ["_law_h", "_law_many", "_law_at", "_law_cell"] ["_law_h", "_law_many"] (defScope s_next) := ⟨rfl, rfl, rfl, by decide +kernel, rfl, by decide +kernel, by decide +kernel⟩
theorem ok_next {f : Addr} {fd : FuncData} (D : DefAt K mg "_law_next" s_next ["_law_h", "_law_many"] f fd) (m_max : mg "max" = none) (m_len : mg "len" = none) : FnOk P w K mg base CX0 1 f fd ["_law_h", "_law_many"] spNext := by
  refine D.F.ok sc_next (fun vs H Q E h => ?_) (fun cdv A outer s H vs Q E hr h => ?_)
  · obtain ⟨h, c, m, rfl, _⟩ := h
    rfl
  · obtain ⟨h, c, m, rfl, R, m0, m1, k⟩ := h
    obtain ⟨ne, x, p, cells, e1, e2, x0, x1, p0, hl⟩ := R
    have hlen : (cells.map V.int).length = cells.length := List.length_map _
    refine ⟨_, pss_cons (ps_set (i := 2) sc_next.nd rfl (.inl rfl) (pe_op op_mod (pe_ix (r := rIxL K) ix_list (pv 0) pe_int (fun _ _ => rfl)) (pe_callB (call_max2 rfl) (by rfl) m_max (by decide +kernel) (pa_cons pe_int (pa_cons (pe_callB (r := rLen K) call_len (by rfl) m_len (by decide +kernel) (pa_cons (pe_ix (r := rIxL K) ix_list (pv 0) pe_int (fun _ _ => rfl)) pa_nil)) pa_nil)))))
        (pss_cons (ps_set (i := 3) sc_next.nd rfl (.inl rfl) (pe_ifExp (pt_cmpR (op_neD hr.units) (pe_ix (r := rIxL K) ix_list (pv 0) pe_int (fun _ _ => rfl)) (pe_lst pa_nil) (nomark _)) (pe_ix (r := rIxL K) ix_list (pe_ix (r := rIxL K) ix_list (pv 0) pe_int (fun _ _ => rfl)) (pv 2) (fun _ _ => rfl)) pe_int))
        (pss_cons (ps_if (pt_cmpR op_ge (pv 3) (pe_op op_pow pe_int pe_int) (nomark _)) (pss_cons (ps_asg (pe_op op_fdiv (pv 3) (pv 1)) (pg_sub (pe_ix (r := rIxL K) ix_list (pv 0) pe_int (fun _ _ => rfl)) (pv 2) set_list))
          (pss_one (ps_ret (pe_op op_mod (pv 3) (pv 1))))) pss_nil)
        (pss_cons (ps_asg (pe_op op_mod (pe_op op_add (pe_op op_add (pe_op op_mul (pe_ix (r := rIxL K) ix_list (pv 0) pe_int (fun _ _ => rfl)) pe_int) (pe_op op_mul (pv 3) pe_int)) pe_int) pe_int) (pg_sub (pv 0) pe_int set_list))
        (pss_cons (ps_asg (pe_op op_add (pe_ix (r := rIxL K) ix_list (pv 0) pe_int (fun _ _ => rfl)) pe_int) (pg_sub (pv 0) pe_int set_list))
        (pss_one (ps_ret (pe_op op_mod (pe_op op_fdiv (pe_ix (r := rIxL K) ix_list (pv 0) pe_int (fun _ _ => rfl)) pe_int) (pv 1)))))))), ?_⟩
    -- at
    have q : (0 : Int) < (if (((cells.map V.int).length : Nat) : Int) > 1 then (((cells.map V.int).length : Nat) : Int) else 1) := by split <;> omega
    refine sq_val (.int (p % (if (((cells.map V.int).length : Nat) : Int) > 1 then (((cells.map V.int).length : Nat) : Int) else 1))) (fun Q k => ?_) ?_
    · exact ⟨_, rfl, h, _, 2, _, rfl, rfl, sq_of e1, atI_nat (j := 2) rfl, _, rfl, h, _, 1, _, rfl, rfl, sq_of e1, atI_nat (j := 1) rfl, c, _, rfl, .inl (sq_of e2), _, _, rfl, _, _, rfl, rfl, q, k⟩
    -- cell
    refine sq_set (fun v H1 => Same H H1 ∧ ∃ z, v = .int z ∧ ((10 ^ 18 : Int) ≤ z → ∃ j : Nat, p % (if (((cells.map V.int).length : Nat) : Int) > 1 then (((cells.map V.int).length : Nat) : Int) else 1) = (j : Int) ∧ j < cells.length)) (fun Q k => ?_) (fun v H1 h1 => ?_)
    · refine ⟨_, rfl, h, _, 1, _, rfl, rfl, sq_of e1, atI_nat (j := 1) rfl, Nat.zero_le _, fun l nl => ⟨dInts cells, dInts [], dp_ints (sq_of (Same.new nl _ _ e2)), dp_ints (l := []) (sq_of upd_same), sh_ints, sh_ints, _, rfl, ?_⟩⟩
      rw [eqv_ints]
      refine ite2 (fun hc => ?_) (fun _ => k _ _ ⟨Same.new nl, _, rfl, fun z => absurd z (by decide)⟩)
      have hne : cells ≠ [] := fun z => by rw [z] at hc; simp at hc
      have h0 : 0 < cells.length := List.length_pos_iff.mpr hne
      obtain ⟨j, ej, lj⟩ : ∃ j : Nat, p % (if (((cells.map V.int).length : Nat) : Int) > 1 then (((cells.map V.int).length : Nat) : Int) else 1) = (j : Int) ∧ j < cells.length := by
        rw [hlen]
        have q : (if ((cells.length : Nat) : Int) > 1 then ((cells.length : Nat) : Int) else 1) = (cells.length : Int) := by split <;> omega
        rw [q]
        have b1 := Int.emod_nonneg p (b := (cells.length : Int)) (by omega)
        have b2 := Int.emod_lt_of_pos p (b := (cells.length : Int)) (by omega)
        exact ⟨(p % (cells.length : Int)).toNat, by omega, by omega⟩
      refine ⟨_, rfl, h, _, 1, _, rfl, rfl, sq_of (Same.new nl _ _ e1), atI_nat (j := 1) rfl, _, rfl, c, _, _, _, rfl, rfl, sq_of (Same.new nl _ _ e2), atI_g ej lj, ?_⟩
      exact k _ _ ⟨Same.new nl, _, rfl, fun _ => ⟨j, ej, lj⟩⟩
    · obtain ⟨s1, z, rfl, hat⟩ := h1
      have f1 := s1 _ _ e1
      have f2 := s1 _ _ e2
      refine sq_ifP (p := (10 ^ 18 : Int) ≤ z) (fun Q k => ⟨_, rfl, _, _, rfl, rfl, ⟨by decide, by decide, by decide⟩, _, _, rfl, rfl, _, rfl, k⟩) (fun hz => ?_) (fun hz => ?_)
      · obtain ⟨j, ej, lj⟩ := hat hz
        refine ⟨_, rfl, _, rfl, _, _, rfl, rfl, ⟨m0, m1⟩, _, rfl, h, _, 1, _, rfl, rfl, sq_of f1, atI_nat (j := 1) rfl, _, rfl, c, _, _, j, rfl, rfl, f2, ixN_nat ej (by rw [hlen]; exact lj), ?_⟩
        refine ⟨_, rfl, _, rfl, _, _, rfl, rfl, m0, ?_⟩
        refine k _ _ (Int.emod_nonneg _ (by omega)) (Int.emod_lt_of_pos _ m0) ⟨ne, x, p, cells.set j (z / m), ?_, ?_, x0, x1, p0, by rw [List.length_set]; exact hl⟩ ((Off.same s1).hc (H1 := H) (.inr rfl))
        · rw [upd_ne ne]
          exact f1
        · rw [upd_same, map_set]
      · refine sq_nx ?_
        have b1 := Int.emod_nonneg (x * 48271 + z * 69621 + 11) (b := 2147483647) (by decide)
        have b2 := Int.emod_lt_of_pos (x * 48271 + z * 69621 + 11) (b := 2147483647) (by decide)
        refine ⟨_, rfl, h, _, 0, _, rfl, rfl, sq_of f1, atI_nat (j := 0) rfl, x, 48271, rfl, rfl, .inr ⟨by decide, by decide⟩, _, rfl, z, 69621, rfl, rfl, .inr ⟨by decide, by decide⟩, _, _, rfl, rfl, _, _, rfl, rfl, _, _, rfl, rfl, (show (0 : Int) < 2147483647 by decide), ?_⟩
        refine ⟨_, rfl, h, _, 0, 0, rfl, rfl, f1, rfl, ?_⟩
        refine ⟨_, rfl, h, _, 2, _, rfl, rfl, sq_of upd_same, atI_nat (j := 2) rfl, _, _, rfl, rfl, _, rfl, h, _, 2, 2, rfl, rfl, upd_same, rfl, ?_⟩
        refine ⟨_, rfl, h, _, 0, _, rfl, rfl, sq_of upd_same, atI_nat (j := 0) rfl, _, _, rfl, rfl, ⟨by decide, by decide⟩, _, rfl, _, _, rfl, rfl, m0, ?_⟩
        refine k _ _ (Int.emod_nonneg _ (by omega)) (Int.emod_lt_of_pos _ m0) ⟨ne, (x * 48271 + z * 69621 + 11) % 2147483647, p + 1, cells, ?_, ?_, b1, b2, by omega, hl⟩ (((Off.same s1).hc (H1 := H) (.inl rfl)).hc (H1 := H) (.inl rfl))
        · rw [upd_same]
          rfl
        · rw [upd_ne ne.symm, upd_ne ne.symm]
          exact f2
end
/-! ### what a piece of the law leaves: the draws' lists may turn, all else stands -/
structure Fr (h c : Addr) (H H' : Hp) : Prop where
  off : Off (isHC h c) H H'
  rng : RngAt H' h c
theorem Fr.refl {h c : Addr} {H : Hp} (R : RngAt H h c) : Fr h c H H := ⟨Off.refl, R⟩
theorem Fr.trans {h c : Addr} {H H1 H2 : Hp} (a : Fr h c H H1) (b : Fr h c H1 H2) : Fr h c H H2 := ⟨a.off.trans b.off, b.rng⟩
theorem Fr.same {h c : Addr} {H H' H2 : Hp} (a : Fr h c H H') (s : Same H' H2) : Fr h c H H2 := ⟨a.off.trans (Off.same s), a.rng.same s⟩
theorem RngAt.fresh {H : Hp} {h c p : Addr} (R : RngAt H h c) (np : H p = none) : ¬ isHC h c p := by
  obtain ⟨ne, x, q, cells, h1, h2, _⟩ := R
  rintro (e | e)
  · rw [e, h1] at np; cases np
  · rw [e, h2] at np; cases np
theorem Fr.free {h c p : Addr} {H H' : Hp} (a : Fr h c H H') (np : H' p = none) : H p = none := by
  cases e : H p with
  | none => rfl
  | some o =>
    have := a.off p o e (a.rng.fresh np)
    rw [np] at this
    cases this
theorem RngAt.upd {H : Hp} {h c p : Addr} {o : HO} (R : RngAt H h c) (n : ¬ isHC h c p) : RngAt (L2.upd H p o) h c :=
  R.keep (upd_ne fun z => n (.inl z.symm)) (upd_ne fun z => n (.inr z.symm))
theorem Off.mut {S : Addr → Prop} {H H' : Hp} {p : Addr} {o : HO} (e : Off S H H') (h : H p = none) : Off S H (L2.upd H' p o) := fun a u ha n => by
  rw [upd_ne (ne_of_none ha h)]
  exact e a u ha n
/-- a new object is written -/
theorem Fr.mut {h c p : Addr} {H H' : Hp} {o : HO} (a : Fr h c H H') (np : H p = none) (n : ¬ isHC h c p) : Fr h c H (L2.upd H' p o) := ⟨a.off.mut np, a.rng.upd n⟩
theorem Fr.new {h c p : Addr} {H H' : Hp} {o : HO} (a : Fr h c H H') (np : H' p = none) : Fr h c H (L2.upd H' p o) := a.same (Same.new np)
theorem Fr.get {h c p : Addr} {H H' : Hp} {o : HO} (a : Fr h c H H') (e : H p = some o) (n : ¬ isHC h c p) : H' p = some o := a.off p o e n


end Rf
namespace Rf
open PySem PySem.Spec PyProof.Rows L2
/-! ### an own exception whose __init__ says super().__init__(..) -/
section
open NdefX PySem.W PySem.Calls
theorem look_class {y : Str} {cc c : Addr} (h : ([("__class__", cc)] : List (Str × Addr)).lookup y = some c) : y = "__class__" ∧ c = cc := by
  by_cases e : y = "__class__"
  · subst e
    have : some cc = some c := h
    exact ⟨rfl, (Option.some.inj this).symm⟩
  · have : ([("__class__", cc)] : List (Str × Addr)).lookup y = none := by
      have e2 : (y == ("__class__" : Str)) = false := by simpa using e
      simp [List.lookup, e2]
    rw [this] at h
    cases h
theorem in_base {K : PySem.W.Frag} {base : Heap} {a : Addr} {o : Obj} (h : K.In base) (e : K.lookup a = some o) : base.get? a = some o := h _ _ e
/-- what the top has left of such an __init__ -/
structure SupAt (P : Program) (K : PySem.W.Frag) (mg : Str → Option Value) (C f cc cda : Addr) (fd : FuncData) (qual : Str) (st : Stmt) : Prop where
  lk : ∃ (oc : Value) (od an : Option Addr) (osl : Array (Option Value)) (kV doc pm ct : Value), fd = ksFn "__init__" qual (defArgs st) (defBody st) (defScope st) .none kV doc pm an (.ref cda) ct cc ∧ K.lookup f = some ⟨oc, od, .func fd, osl⟩
  code : codeIn K (.ref cda) qual = true
  file : ∃ (ccl : Value) (cdd : Option Addr) (vs : Array Value) (ccs : Array (Option Value)) (fl : Str) (tf : Tok), K.lookup cda = some ⟨ccl, cdd, .fields vs, ccs⟩ ∧ vs[2]? = some (.str fl tf) ∧ ((P.main.file : Str) == fl) = true
  cell : ∃ (cl : Value) (cld : Option Addr) (csl : Array (Option Value)), K.lookup cc = some ⟨cl, cld, .cell (some (.ref C)), csl⟩
  cls : ∃ cd, clsIn K C = some cd
  me : mroIn K C (.ref C) = some true
  sup : mg "super" = none
  top : (P.main.scope.names.lookup ("super" : Str)).isSome = false
  ve : ks_superIn K C C "__init__" = some (some (.builtin "ValueError.__init__"))
  sub : subIn K (.ref C) (.type "ValueError") = some true
  any : nsIn K cStatics "thirdparty.any" = some none
variable {P : Program} {w : World} {K : PySem.W.Frag} {mg : Str → Option Value} {base : Heap} {CX : CXT}
theorem ok_super {C f cc cda : Addr} {fd : FuncData} {qual : Str} {st : Stmt} {N ps : List Str} {k : Nat} {sp : Sp} {e : Expr} {rest : List Stmt} {p0 p1 p2 p3 p4 : Pos} {ar : Arg} (Z : SupAt P K mg C f cc cda fd qual st) (S : NScope N ps ["__class__"] (defScope st)) (T : OexC K C)
    (hbd : defBody st = .Expr (.Call (.Attribute (.Call (.Name "super" p0) [] [] p1) "__init__" p2) [e] [] p3) p4 :: rest) (hks : (defScope st).names.lookup ("super" : Str) = some .globalImplicit)
    (har : ((defArgs st).posonlyargs ++ (defArgs st).args).head? = some ar) (hself : ps.head? = some ar.arg)
    (len : ∀ vs H Q E, sp vs H Q E → vs.length = ps.length)
    (hbody : ∀ (A : Around) (outer : List Env) (s : Shared) (H : Hp) (vs : List V) (Q : VK) (E : XK), Room k (A.deeper (ksEnv qual (defScope st) s.heap.objs.size f (.ref cda) cc)) → sp vs H Q E →
      ∃ (a : Addr) (vr : List V) (te : TE) (t : TS), vs = .ref a :: vr ∧ H a = some (exo a C none) ∧ PE (ncx CX P w K mg base N ⟨"__init__", qual, defArgs st, defBody st, defScope st, [("__class__", cc)], cda⟩ f A outer s H E) e te ∧
        PSs (ncx CX P w K mg base N ⟨"__init__", qual, defArgs st, defBody st, defScope st, [("__class__", cc)], cda⟩ f A outer s H E) rest t ∧
        te (startF N vs [none]) H (fun v H1 => [v].length = 1 ∧ H1 a = some (exo a C none) ∧ t { nx := fun _ H' => Q .non H', rt := Q } (startF N vs [none]) H1))
    (hev : ∀ env : Env, ∃ pl : Sem Bool, eval (.Call (.Attribute (.Call (.Name "super" p0) [] [] p1) "__init__" p2) [e] [] p3) env = (do
      let ov ← attributeBase (.Call (.Name "super" p0) [] [] p1) "__init__" env (eval (.Call (.Name "super" p0) [] [] p1) env)
      standAt p2.atName
      let (f, first) ← holding [ov] (getMethod ov "__init__" pl)
      callWith p3 f first (backTo p3 (starEach [e] env)) []))
    (hi : ∀ L : Addr, interactive (ksEnv qual (defScope st) L f (.ref cda) cc) = false)
    (hsw : ∀ env : Env, swapsWith (.Call (.Attribute (.Call (.Name "super" p0) [] [] p1) "__init__" p2) [e] [] p3) none p4.line env = pure false)
    (he : ∀ env : Env, starEach [e] env = (false, eval e env) :: starEach [] env := by intro env; rfl) :
    FnOk P w K mg base CX (k + 1) f fd ps sp := by
  obtain ⟨oc, od, an, osl, kV, doc, pm, ct, rfl, lk⟩ := Z.lk
  obtain ⟨ccl, cdd, vcs, ccs, fl, tf, hcode, hvs, hfile⟩ := Z.file
  obtain ⟨cl, cld, csl, hcell⟩ := Z.cell
  obtain ⟨cdD, hD⟩ := Z.cls
  refine ⟨len, fun A outer s H args us vs Q E hr e0 hb r hsp => ?_⟩
  have hl := len _ _ _ _ hsp
  have KX : K.In s.heap := e0.mod.kin.keeps fun b o q => (e0.bs b o q).1
  have lim : s.heap.NoLimit := e0.mod.nolimit.keeps fun b o q => (e0.bs b o q).1
  have C0 : CellsAt [("__class__", cc)] ["__class__"] [none] s.heap H := by
    refine ⟨rfl, fun y c q => ?_, fun x y c q1 q2 => ?_, fun i y q => ?_⟩
    · obtain ⟨_, rfl⟩ := look_class q
      have := e0.bs _ _ (e0.mod.kin _ _ hcell)
      exact ⟨this.2, _, _, this.1, rfl⟩
    · rw [(look_class q1).1, (look_class q2).1]
    · have : i = 0 ∧ y = "__class__" := by
        cases i with
        | zero => exact ⟨rfl, (Option.some.inj q).symm⟩
        | succ i => cases q
      obtain ⟨rfl, rfl⟩ := this
      exact ⟨cc, rfl, fun v z => by cases z⟩
  refine codeAny_call_function hr.depth (KX _ _ lk) rfl S.co S.gen rfl (PySem.W.codeRec_of KX Z.code) (hb _ _ _ _ ?_)
  refine wpAny_newFunctionEnv S.nocell (fun ⟨n, _⟩ hy => S.par n (List.of_mem_zip hy).1) (fun h₁ hns hsb => ⟨lim.fresh _ hsb, ?_⟩) S.kind
  show codeAny _ _ (.func (defBody st) (ksEnv qual (defScope st) s.heap.objs.size f (.ref cda) cc)) _ _
  have kp : ∀ b o, s.heap.get? b = some o → h₁.get? b = some o := fun b o q => hsb.extBut b o (Nat.ne_of_lt (Heap.lt_size q)) (Heap.get?_push_of_some _ q)
  obtain ⟨a, vr, te, t, rfl, ha, hte, ht, hq⟩ := hbody A outer s H vs Q E (hr.deeper _) hsp
  have I : Inv (ncx CX P w K mg base N ⟨"__init__", qual, defArgs st, defBody st, defScope st, [("__class__", cc)], cda⟩ f A outer s H E) [] (startF N (.ref a :: vr) [none]) H { s with heap := h₁, toks := s.toks + (ps.zip us).length } := inv_startN S hr.hd e0 hl r C0 hns kp
  refine ks_codeAny_funcAt ?_
  rw [hbd]
  obtain ⟨pl, hev⟩ := hev (ksEnv qual (defScope st) s.heap.objs.size f (.ref cda) cc)
  refine ks_wpAt_execs_cons (ks_wpAt_Expr_any (ks_wpAt_MethodCall (pl := pl) ?_ hev) (hi _) (hsw _))
  have X1 : K.In h₁ := KX.keeps kp
  obtain ⟨oD, hD1, hD2⟩ : ∃ oD, h₁.get? C = some oD ∧ oD.data = .cls cdD := by
    unfold clsIn at hD
    split at hD
    · rename_i c d cd' sl ho
      cases hD
      exact ⟨_, X1 _ _ ho, rfl⟩
    · cases hD
  obtain ⟨t1, hx⟩ := exo_at I.hok ha
  have hkc : (defScope st).names.lookup ("__class__" : Str) = some .free := S.frk _ List.mem_cons_self
  have har2 : ar.arg ∈ ps := by
    cases ps with
    | nil => cases hself
    | cons x l =>
      have : x = ar.arg := Option.some.inj hself
      rw [this]
      exact List.mem_cons_self
  have hka : (defScope st).names.lookup ar.arg = some .local := S.par _ har2
  have hv : (fun y => (ps.zip us).reverse.lookup y) ar.arg = some (.ref a) := by
    cases r with
    | @cons _ u0 _ ur ra rw' =>
      obtain rfl : u0 = Value.ref a := ra
      have nd : ps.Nodup := by
        have q := S.nd.sublist (List.take_sublist (ps.length + 1) N)
        have p2 : N.take (ps.length + 1) = ps ++ (["__class__"] : List Str) := S.pre
        rw [p2] at q
        exact (List.nodup_append.mp q).1
      exact zip_look (i := 0) nd (by rw [← hself]; cases ps <;> rfl) rfl
  obtain ⟨mb, hb1, hb2⟩ := e0.mod.blt
  have bk : ∀ b o, base.get? b = some o → h₁.get? b = some o := fun b o q => kp _ _ (e0.bs b o q).1
  refine ks_wpAt_super_base (env := ksEnv qual (defScope st) s.heap.objs.size f (.ref cda) cc) hks hkc rfl rfl (X1 _ _ lk) rfl har rfl (X1 _ _ hcode) rfl hvs hfile Z.top ?_
  refine ks_loadName_global S.kind hks (loadGlobal_builtin (env := ksEnv qual (defScope st) s.heap.objs.size f (.ref cda) cc) (e0.mod.glob.keeps bk) Z.sup (hb1.keeps bk) ((hb2 _ (by decide)).trans rfl) ⟨rfl, ?_⟩)
  refine wpAny_loadName_free S.kind hkc rfl ⟨_, X1 _ _ hcell, rfl⟩ ?_
  refine wpAny_loadName_local S.kind hka hns hv ?_
  refine ks_wpAny_isType_cls hD1 hD2 ⟨rfl, ?_⟩
  refine ks_wpAny_call_super hD1 hD2 hx rfl (fun c q => by cases q) (looks_mroIn X1 Z.me) (fun h' hso k => ?_)
  have I2 := I.kept (t' := s.toks + (ps.zip us).length) k
  have X2 : K.In h' := X1.keeps k
  have J : InstAt h' a _ C none := ⟨k _ _ hx, rfl, rfl, trivial⟩
  have hve := Z.ve
  unfold ks_superIn at hve
  rw [hD] at hve
  refine kxs_getMethod kxs_ValueError hso (looks_opaque X2 Z.any) (l₀ := cdD.mro) (fun A Q E s k q => wpAny_bind ((looks_clsIn X2 hD) A _ E s k (wpAny_pure q))) rfl X2 hve (J.type.andThen (looks_subIn X2 Z.sub)) (ks_ne X2 J hD) rfl ?_
  have k3 : ∀ b o, h'.get? b = some o → (h'.push (kxs_mw "ValueError.__init__" a)).get? b = some o := fun b o q => Heap.get?_push_of_some _ q
  have I3 := I2.kept (t' := s.toks + (ps.zip us).length + 1) k3
  have I4 : Inv (ncx CX P w K mg base N ⟨"__init__", qual, defArgs st, defBody st, defScope st, [("__class__", cc)], cda⟩ f A outer s H E) [(h'.objs.size, kxs_mw "ValueError.__init__" a)] _ H _ := I3.pins_of fun p hp => by
    rw [List.mem_singleton.mp hp]
    exact ⟨Heap.get?_push_at rfl rfl, I2.hok.fresh (Nat.le_refl _), (Nat.ne_of_lt I2.lt).symm, I2.nofs (Nat.le_refl _), fun v z => by cases z⟩
  have hpa : PA (ncx CX P w K mg base N ⟨"__init__", qual, defArgs st, defBody st, defScope st, [("__class__", cc)], cda⟩ f A outer s H E) [e] _ := pa_cons hte pa_nil (hs := he _)
  have hrun := hpa.run p3 _ _ _ H (fun vs H1 => vs.length = 1 ∧ H1 a = some (exo a C none) ∧ t { nx := fun _ H' => Q .non H', rt := Q } (startF N (.ref a :: vr) [none]) H1) I4 hq
  rw [he] at hrun ⊢
  refine kxs_callWith (i := "ValueError.__init__") (x := a) rfl (evalArgs_plain (wpAny_mono hrun (fun us2 s1 hs => ?_) fun _ _ q => q))
  obtain ⟨vs2, H1, I5, rv2, hv1, ha1, hq1⟩ := hs
  obtain ⟨hu, _⟩ := I5.pin _ (List.mem_append_right _ List.mem_cons_self)
  refine ⟨hu, ?_⟩
  obtain ⟨t2, hx2⟩ := exo_at I5.hok ha1
  obtain ⟨nm, q, N2, bs, bm, sn, sub, ab, col, dd, k0, k1, k2, k3', k5, hC, hbm⟩ := T.cls
  obtain ⟨hh, g, d, tk, os⟩ := s1
  have hz : us2.length ≤ sizeLine := by
    have q2 : vs2.length = us2.length := rv2.length
    rw [← q2, hv1]
    decide
  refine wpAny_call (codeAny_of_tree ?_)
  show wpAny _ _ (callAny (.ref h'.objs.size) ⟨us2, []⟩) _ _ _
  simp only [callAny]
  refine wpAny_bind (wpAny_load hu ?_)
  have isM : (kxs_mw "ValueError.__init__" a).cls = .type "method-wrapper" := rfl
  rw [isM]
  refine KFB.if_so (by decide) ?_
  refine wpAny_bind (check_bound_init F.excBase_ValueError.toExcCallFacts (I5.kIn _ _ hC) hx2 rfl ?_)
  refine wpAny_bind (wpAny_pure (wpAny_pure ?_))
  refine ⟨plainId_quiet F.excBase_ValueError.init.plain _, codeAny_builtin F.excBase_ValueError.initEntry ?_⟩
  refine exc_init_tree (cls := .ref C) (t0 := t2) (dv := none) (c2 := .none) (c3 := .none) (b4 := .bool false) hx2 hz fun h2 kk hx3 _ => ?_
  have J6 := I5.write (t' := tk) (x := a) (e := a) (o := exo a C none) (by rw [ha1]; exact True.intro) (.inl rfl) kk ⟨_, hx3⟩ (exo_ok hx3)
  have eu : upd H1 a (exo a C none) = H1 := by
    funext b
    by_cases hb : b = a
    · subst hb
      rw [upd_same, ha1]
    · rw [upd_ne hb]
  rw [eu] at J6
  have J7 : Inv (ncx CX P w K mg base N ⟨"__init__", qual, defArgs st, defBody st, defScope st, [("__class__", cc)], cda⟩ f A outer s H E) [] (startF N (.ref a :: vr) [none]) H1 ⟨h2, g, d, tk, os⟩ := J6.pins_of fun p hp => by cases hp
  show PySem.wpAt _ _ _ (execs rest _) _ _ _
  refine wpAt_of_wpAny (wpAny_mono (ht.run [] _ _ H1 _ J7 hq1) (fun fl s' hs => ?_) fun _ _ z => z)
  exact match fl, hs with
    | .ret _, ⟨v, _, Hz, Jz, rz, z⟩ => ⟨v, Hz, Jz.os, Jz.bare, Jz.base, Jz.hok, rz, z⟩
    | .next, ⟨_, Hz, Jz, z⟩ => ⟨.non, Hz, Jz.os, Jz.bare, Jz.base, Jz.hok, rfl, z⟩
    | .brk, ⟨_, _, _, z⟩ => z.elim
    | .cont, ⟨_, _, _, z⟩ => z.elim
end


end Rf
namespace Rf
open PySem PySem.Spec PyProof.Rows L2
/-! ### the program's own exceptions -/
/-- a class with such an __init__ -/
structure InitAt (P : Program) (K : PySem.W.Frag) (mg : Str → Option Value) (x : Str) (C f cc cda : Addr) (fd : FuncData) (qual : Str) (st : Stmt) (ps : List Str) : Prop where
  Z : SupAt P K mg C f cc cda fd qual st
  T : OexC K C
  iC : PySem.W.findIn K (.ref C) "__init__" = some (some (.ref f))
  tI : PySem.W.typeIn K (.ref f) = some (.type "function")
  b : Binds K fd ps []
  gC : mg x = some (.ref C)
/-- a class without one -/
structure OwnAt (K : PySem.W.Frag) (mg : Str → Option Value) (x : Str) (C : Addr) : Prop where
  q : PySem.W.excIn K C [.type "ValueError", .type "Exception", .type "BaseException", .type "object"] "ValueError.__new__" = true
  gC : mg x = some (.ref C)
  kC : PySem.W.keepIn K (.ref C) = true
  eC : PySem.W.subIn K (.ref C) (.type "BaseException") = some true
  tC : PySem.W.typeIn K (.ref C) = some (.type "type")
theorem num_len {n : Int} (h0 : 0 ≤ n) (h1 : n < 1000) : (Str.ofString (toString n)).length ≤ 3 := PyProof.Rows.toString_length_le h0 (by decide) (by omega)
theorem num_log {n : Int} (h0 : 0 ≤ n) (h1 : n < 1000) : n.natAbs.log2 < 1920 := by
  have h : n.natAbs < 2 ^ 10 := by omega
  rcases Nat.eq_zero_or_pos n.natAbs with e | e
  · rw [e]
    decide
  · exact Nat.lt_of_lt_of_le ((Nat.log2_lt (by omega)).mpr h) (by decide)
theorem app_len (a b : Str) : (a ++ b).length = a.length + b.length := by
  rw [TL.len_tl, TL.len_tl, TL.len_tl, TL.tl_append, List.length_append]
/-- BadBook(at, why) -/
def spBB (C : Addr) : Sp := fun vs H Q _ => ∃ (a : Addr) (n : Int) (y : Str), vs = [.ref a, .int n, .str y] ∧ H a = some (exo a C none) ∧ 0 ≤ n ∧ n < 1000 ∧ y.length ≤ 20 ∧
  ∀ d H', H d = none → d ≠ a → H' a = some (exo a C (some d)) → H' d = some (exd d [("why", .str y), ("at", .int n)]) → (∀ b, b ≠ a → b ≠ d → H' b = H b) → Q .non H'
/-- NoMove(number), BadText(row) -/
def spOne (C : Addr) (fl : Str) : Sp := fun vs H Q _ => ∃ (a : Addr) (n : Int), vs = [.ref a, .int n] ∧ H a = some (exo a C none) ∧ 0 ≤ n ∧ n < 1000 ∧
  ∀ d H', H d = none → d ≠ a → H' a = some (exo a C (some d)) → H' d = some (exd d [(fl, .int n)]) → (∀ b, b ≠ a → b ≠ d → H' b = H b) → Q .non H'
theorem exc_end {H1 H2 : Hp} {a d : Addr} {o : HO} (na : H1 a = none) (hb : ∀ b, b ≠ a → b ≠ d → H2 b = H1 b) (nd : d ≠ a) : upd (del H2 a) d o = upd H1 d o := by
  funext b
  by_cases e : b = d
  · subst e
    rw [upd_same, upd_same]
  · rw [upd_ne e, upd_ne e]
    by_cases e2 : b = a
    · subst e2
      rw [del_same, na]
    · rw [del_ne e2, hb b e2 e]
/-- what raising BadBook wants -/
theorem raise_bb {C : Addr} {H : Hp} {Q : XK} {n : Int} {y : Str} (h0 : 0 ≤ n) (h1 : n < 1000) (hy : y.length ≤ 20) (k : ∀ d, H d = none → Q (.ref C) (some d) (upd H d (.xd [("why", .str y), ("at", .int n)]))) :
    [V.int n, .str y].length ≤ 1000 ∧ ∀ a, H a = none → spBB C (.ref a :: ([V.int n, .str y] ++ [])) (upd H a (exo a C none)) (fun v H2 => v = .non ∧ ∃ (d : Addr) (fs : List (Str × V)), H2 a = some (exo a C (some d)) ∧ H2 d = some (exd d fs) ∧ H d = none ∧ Q (.ref C) (some d) (upd (del H2 a) d (.xd fs))) (fun _ _ _ => False) := by
  refine ⟨by show 2 ≤ 1000; decide, fun a na => ⟨a, n, y, rfl, upd_same, h0, h1, hy, fun d H' nd da ha hd hb => ⟨rfl, d, _, ha, hd, ?_, ?_⟩⟩⟩
  · rw [upd_ne da] at nd
    exact nd
  · rw [upd_ne da] at nd
    rw [exc_end na (fun b e1 e2 => by rw [hb b e1 e2, upd_ne e1]) da]
    exact k d nd
theorem raise_one {C : Addr} {H : Hp} {Q : XK} {n : Int} {fl : Str} (h0 : 0 ≤ n) (h1 : n < 1000) (k : ∀ d, H d = none → Q (.ref C) (some d) (upd H d (.xd [(fl, .int n)]))) :
    [V.int n].length ≤ 1000 ∧ ∀ a, H a = none → spOne C fl (.ref a :: ([V.int n] ++ [])) (upd H a (exo a C none)) (fun v H2 => v = .non ∧ ∃ (d : Addr) (fs : List (Str × V)), H2 a = some (exo a C (some d)) ∧ H2 d = some (exd d fs) ∧ H d = none ∧ Q (.ref C) (some d) (upd (del H2 a) d (.xd fs))) (fun _ _ _ => False) := by
  refine ⟨by show 1 ≤ 1000; decide, fun a na => ⟨a, n, rfl, upd_same, h0, h1, fun d H' nd da ha hd hb => ⟨rfl, d, _, ha, hd, ?_, ?_⟩⟩⟩
  · rw [upd_ne da] at nd
    exact nd
  · rw [upd_ne da] at nd
    rw [exc_end na (fun b e1 e2 => by rw [hb b e1 e2, upd_ne e1]) da]
    exact k d nd
section
variable {P : Program} {w : World} {K : PySem.W.Frag} {mg : Str → Option Value} {base : Heap} {C f cc cda : Addr} {fd : FuncData}
theorem scx_bbinit : NdefX.NScope ["self", "at", "why", "__class__"] ["self", "at", "why"] ["__class__"] (defScope s_bbinit) := NdefX.nscope_by (by decide +kernel)
theorem ok_bbinit (D : InitAt P K mg "BadBook" C f cc cda fd "BadBook.__init__" s_bbinit ["self", "at", "why"]) (hat : PySem.W.findIn K (.ref C) "at" = some none) (hwhy : PySem.W.findIn K (.ref C) "why" = some none) : FnOk P w K mg base CX0 1 f fd ["self", "at", "why"] (spBB C) := by
  refine ok_super (k := 0) D.Z scx_bbinit D.T rfl rfl rfl rfl (fun vs H Q E h => ?_) (fun A outer s H vs Q E hr h => ?_) (fun env => ⟨_, rfl⟩) (fun L => by rfl) (fun env => by rfl)
  · obtain ⟨a, n, y, rfl, _⟩ := h
    rfl
  · obtain ⟨a, n, y, rfl, ha, h0, h1, hy, k⟩ := h
    refine ⟨a, [.int n, .str y], _, _, rfl, ha, pe_joined (PJ.cons pe_str (PJ.cons (pe_fmt (pv 2)) (PJ.cons pe_str (PJ.cons (pe_fmt (pv 1)) PJ.nil)))), pss_cons (ps_ost (pv 0) (pv 1)) (pss_one (ps_ost (pv 0) (pv 2))), ?_⟩
    have l1 := num_len h0 h1
    refine ⟨_, rfl, ?_, _, rfl, .inl ⟨y, rfl, sz_of (by omega), _, rfl, ?_, _, rfl, ?_, _, rfl, .inr ⟨n, rfl, num_log h0 h1, _, rfl, ?_, rfl, ha, ?_⟩⟩⟩
    · exact (by decide +kernel : ((Str.empty : Str) ++ ("no book: " : Str)).length ≤ sizeLine)
    · rw [app_len]
      have : ((Str.empty : Str) ++ ("no book: " : Str)).length = 9 := by decide +kernel
      rw [this]
      exact sz_of (by omega)
    · rw [app_len, app_len]
      have : ((Str.empty : Str) ++ ("no book: " : Str)).length = 9 := by decide +kernel
      have e2 : (" at " : Str).length = 4 := by decide +kernel
      rw [this, e2]
      exact sz_of (by omega)
    · rw [app_len, app_len, app_len]
      have : ((Str.empty : Str) ++ ("no book: " : Str)).length = 9 := by decide +kernel
      have e2 : (" at " : Str).length = 4 := by decide +kernel
      rw [this, e2]
      exact sz_of (by omega)
    · refine ⟨_, rfl, _, rfl, a, C, rfl, D.T, hat, .inl ⟨ha, fun d nd da => ?_⟩⟩
      refine ⟨_, rfl, _, rfl, a, C, rfl, D.T, hwhy, .inr ⟨d, [("at", .int n)], upd_same, by rw [upd_ne da, upd_same], by show 1 ≤ 900; decide, ?_⟩⟩
      refine k d _ nd da ?_ upd_same (fun b e1 e2 => ?_)
      · rw [upd_ne da.symm, upd_same]
      · rw [upd_ne e2, upd_ne e1, upd_ne e2]
theorem scx_nminit : NdefX.NScope ["self", "number", "__class__"] ["self", "number"] ["__class__"] (defScope s_nminit) := NdefX.nscope_by (by decide +kernel)
theorem ok_nminit (D : InitAt P K mg "NoMove" C f cc cda fd "NoMove.__init__" s_nminit ["self", "number"]) (hat : PySem.W.findIn K (.ref C) "number" = some none) : FnOk P w K mg base CX0 1 f fd ["self", "number"] (spOne C "number") := by
  refine ok_super (k := 0) D.Z scx_nminit D.T rfl rfl rfl rfl (fun vs H Q E h => ?_) (fun A outer s H vs Q E hr h => ?_) (fun env => ⟨_, rfl⟩) (fun L => by rfl) (fun env => by rfl)
  · obtain ⟨a, n, rfl, _⟩ := h
    rfl
  · obtain ⟨a, n, rfl, ha, h0, h1, k⟩ := h
    refine ⟨a, [.int n], _, _, rfl, ha, pe_joined (PJ.cons pe_str (PJ.cons (pe_fmt (pv 1)) (PJ.cons pe_str PJ.nil))), pss_one (ps_ost (pv 0) (pv 1)), ?_⟩
    have l1 := num_len h0 h1
    have e1 : ((Str.empty : Str) ++ ("move " : Str)).length = 5 := by decide +kernel
    have e2 : (" doesn't fit" : Str).length = 12 := by decide +kernel
    refine ⟨_, rfl, by rw [e1]; exact sz_of (by decide), _, rfl, .inr ⟨n, rfl, num_log h0 h1, _, rfl, by rw [app_len, e1]; exact sz_of (by omega), _, rfl, by rw [app_len, app_len, e1, e2]; exact sz_of (by omega), rfl, ha, ?_⟩⟩
    refine ⟨_, rfl, _, rfl, a, C, rfl, D.T, hat, .inl ⟨ha, fun d nd da => ?_⟩⟩
    exact k d _ nd da upd_same (by rw [upd_ne da, upd_same]) (fun b e1 e2 => by rw [upd_ne e1, upd_ne e2])
theorem scx_btinit : NdefX.NScope ["self", "row", "__class__"] ["self", "row"] ["__class__"] (defScope s_btinit) := NdefX.nscope_by (by decide +kernel)
theorem ok_btinit (D : InitAt P K mg "BadText" C f cc cda fd "BadText.__init__" s_btinit ["self", "row"]) (hat : PySem.W.findIn K (.ref C) "row" = some none) : FnOk P w K mg base CX0 1 f fd ["self", "row"] (spOne C "row") := by
  refine ok_super (k := 0) D.Z scx_btinit D.T rfl rfl rfl rfl (fun vs H Q E h => ?_) (fun A outer s H vs Q E hr h => ?_) (fun env => ⟨_, rfl⟩) (fun L => by rfl) (fun env => by rfl)
  · obtain ⟨a, n, rfl, _⟩ := h
    rfl
  · obtain ⟨a, n, rfl, ha, h0, h1, k⟩ := h
    refine ⟨a, [.int n], _, _, rfl, ha, pe_joined (PJ.cons pe_str (PJ.cons (pe_fmt (pv 1)) (PJ.cons pe_str PJ.nil))), pss_one (ps_ost (pv 0) (pv 1)), ?_⟩
    have l1 := num_len h0 h1
    have e1 : ((Str.empty : Str) ++ ("row " : Str)).length = 4 := by decide +kernel
    have e2 : (" isn't so" : Str).length = 9 := by decide +kernel
    refine ⟨_, rfl, by rw [e1]; exact sz_of (by decide), _, rfl, .inr ⟨n, rfl, num_log h0 h1, _, rfl, by rw [app_len, e1]; exact sz_of (by omega), _, rfl, by rw [app_len, app_len, e1, e2]; exact sz_of (by omega), rfl, ha, ?_⟩⟩
    refine ⟨_, rfl, _, rfl, a, C, rfl, D.T, hat, .inl ⟨ha, fun d nd da => ?_⟩⟩
    exact k d _ nd da upd_same (by rw [upd_ne da, upd_same]) (fun b e1 e2 => by rw [upd_ne e1, upd_ne e2])
end


end Rf
namespace Rf
open PySem PySem.Spec PyProof.Rows L2
/-! ### a book as it stands in the heap: tuples within tuples -/
/-- the tuples at ts are the claims qs -/
def ClmsAt (K : PySem.W.Frag) (H : Hp) (ts : List Addr) (qs : List Clm) : Prop := ts.length = qs.length ∧ ∀ (i : Nat) (t : Addr) (q : Clm), ts[i]? = some t → qs[i]? = some q → SqT K H t [.int q.d, .int q.c, .int q.a, .int q.r]
structure BookAt (K : PySem.W.Frag) (H : Hp) (b ca cl : Addr) (ts : List Addr) (B : Bk) : Prop where
  hb : SqT K H b [.ref ca, .ref cl]
  hca : SqT K H ca (B.cash.map V.int)
  hcl : SqT K H cl (ts.map V.ref)
  hq : ClmsAt K H ts B.claims
theorem Same.tup {K : PySem.W.Frag} {H H' : Hp} {a : Addr} {xs : List V} (e : Same H H') (h : SqT K H a xs) : SqT K H' a xs := by
  rcases h with (h | ⟨o, h⟩) | h
  · exact .inl (.inl (e _ _ h))
  · exact .inl (.inr ⟨o, e _ _ h⟩)
  · exact .inr h
theorem BookAt.same {K : PySem.W.Frag} {H H' : Hp} {b ca cl : Addr} {ts : List Addr} {B : Bk} (A : BookAt K H b ca cl ts B) (s : Same H H') : BookAt K H' b ca cl ts B :=
  ⟨Same.tup s A.hb, Same.tup s A.hca, Same.tup s A.hcl, A.hq.1, fun i t q h1 h2 => Same.tup s (A.hq.2 i t q h1 h2)⟩
theorem ClmsAt.same {K : PySem.W.Frag} {H H' : Hp} {ts : List Addr} {qs : List Clm} (A : ClmsAt K H ts qs) (s : Same H H') : ClmsAt K H' ts qs := ⟨A.1, fun i t q h1 h2 => Same.tup s (A.2 i t q h1 h2)⟩
theorem BookAt.get {K : PySem.W.Frag} {H : Hp} {b ca cl : Addr} {ts : List Addr} {B : Bk} (A : BookAt K H b ca cl ts B) {k : Nat} (h : k < B.claims.length) : ∃ t, ts[k]? = some t ∧ SqT K H t [.int (B.clm k).d, .int (B.clm k).c, .int (B.clm k).a, .int (B.clm k).r] := by
  have hk : k < ts.length := by rw [A.hq.1]; exact h
  exact ⟨ts[k], List.getElem?_eq_getElem hk, A.hq.2 k _ _ (List.getElem?_eq_getElem hk) (Bk.clm_get h)⟩
section
variable {K : PySem.W.Frag} {te : TE} {tz : TS} {D : Ends} {σ : L2.St} {H : Hp}
/-- x, y = a pair -/
theorem sq_tup2 {i j : Nat} {a : Addr} {x y : V} (h : ∀ Q : VK, Q (.ref a) H → te σ H Q) (hq : SqT K H a [x, y]) (k : tz D ((σ.set i (some x)).set j (some y)) H) : tSeq (tAsg te (gTup K 2 (gCons (gName i) (gCons (gName j) gNil)))) tz D σ H :=
  h _ ⟨a, [x, y], rfl, hq, rfl, x, [y], rfl, y, [], rfl, rfl, k⟩
theorem sq_tup4 {i j l m : Nat} {a : Addr} {x y z w : V} (h : ∀ Q : VK, Q (.ref a) H → te σ H Q) (hq : SqT K H a [x, y, z, w]) (k : tz D ((((σ.set i (some x)).set j (some y)).set l (some z)).set m (some w)) H) : tSeq (tAsg te (gTup K 4 (gCons (gName i) (gCons (gName j) (gCons (gName l) (gCons (gName m) gNil)))))) tz D σ H :=
  h _ ⟨a, [x, y, z, w], rfl, hq, rfl, x, [y, z, w], rfl, y, [z, w], rfl, z, [w], rfl, w, [], rfl, rfl, k⟩
end
theorem map_ref_get {ts : List Addr} {i : Nat} {x : V} (h : (ts.map V.ref)[i]? = some x) : ∃ t, x = .ref t ∧ ts[i]? = some t := by
  rw [List.getElem?_map] at h
  cases e : ts[i]? with
  | none => rw [e] at h; cases h
  | some t => rw [e] at h; exact ⟨t, (Option.some.inj h).symm, rfl⟩
theorem map_int_get {l : List Int} {i : Nat} {x : V} (h : (l.map V.int)[i]? = some x) : x = .int (g l i) ∧ i < l.length := by
  have hi : i < l.length := by
    have := (List.getElem?_eq_some_iff.mp h).1
    rw [List.length_map] at this
    exact this
  rw [List.getElem?_map, g_get hi] at h
  exact ⟨(Option.some.inj h).symm, hi⟩


end Rf
namespace Rf
open PySem PySem.Spec PyProof.Rows L2
/-! ### in an except suite: isinstance of the caught one; calls of functions out of a list -/
/-- isinstance(e, c), e what the suite holds, with a dict or without; c a class or a tuple of classes -/
def rIsX (K : PySem.W.Frag) (a : Addr) (cls : Value) (d : Option Addr) : List V → Hp → VK → Prop := fun xs H Q => ∃ (C : Addr) (c : V) (b : Bool), cls = .ref C ∧ xs = [.ref a, c] ∧ ExcC K C ∧ (d = none ∨ ∃ dd fs, d = some dd ∧ H dd = some (.xd fs)) ∧
  ((∃ cv, (∀ u, RelV c u → u = cv) ∧ PySem.W.kitOne K (.ref C) cv = some b) ∨ (∃ (t : Addr) (cs : List Addr), c = .ref t ∧ H t = some (.tup (cs.map V.ref)) ∧ PySem.W.kitAny K (.ref C) (cs.map Value.ref) = some b)) ∧ Q (.bl b) H
theorem vals_refs : ∀ {cs : List Addr} {us : List Value}, Vals (cs.map V.ref) us → us = cs.map Value.ref
  | [], _, .nil => rfl
  | c :: cs, u :: us, .cons r t => by
    have e : u = Value.ref c := r
    rw [e, vals_refs t]
    rfl
theorem call_isX {X : Cx} {a : Addr} {cls : Value} {d : Option Addr} {oe : Obj} {pn : List (Addr × Obj)} (hz : Zc cls d oe) (hf : ∃ vs, oe.data = .fields vs) : CallR (X.suite a ((a, oe) :: pn)) (.builtin "isinstance") (rIsX X.K a cls d) := by
  intro pins s σ H xs us Q I r h
  obtain ⟨C, c, b, rfl, rfl, T, hd, hc, q⟩ := h
  cases r with
  | cons rx rr =>
    cases rr with
    | cons rt rr =>
      cases rr
      cases rx
      obtain ⟨hget, _⟩ := I.pin (a, oe) (List.mem_append.mpr (.inl List.mem_cons_self))
      obtain ⟨vs, hv⟩ := hf
      have J : ∃ od, PySem.W.InstAt s.heap a oe C od := by
        obtain ⟨oc, od, oda, osl⟩ := oe
        obtain ⟨h1, h2⟩ := hz
        dsimp only at h1 h2 hv
        subst h1 h2 hv
        rcases hd with rfl | ⟨dd, fs, rfl, ed⟩
        · exact ⟨none, hget, rfl, rfl, trivial⟩
        · have hx : ObjOk X.prog X.w H s.heap dd (.xd fs) := I.hok dd _ ed
          obtain ⟨mA, hns, hr⟩ := hx
          obtain ⟨o, es, ep, ho, _⟩ := hns
          exact ⟨some o, hget, rfl, rfl, ho⟩
      obtain ⟨od, J⟩ := J
      have hcl : (PySem.W.clsIn X.K C).isSome = true := by
        obtain ⟨cd, hc2, _⟩ := PySem.W.any_some T.hd
        rw [hc2]
        rfl
      have Z : PySem.W.KitX X.K (.ref a) (.ref C) (fun h => PySem.W.InstAt h a oe C od) := PySem.W.kitx_exc hcl T.hg T.hk T.hs T.ha T.hn T.ht T.hm
      rcases hc with ⟨cv, hcv, e⟩ | ⟨t, cs, rfl, ht, e⟩
      · have ec := hcv _ rt
        subst ec
        exact PySem.W.kia_one Z I.kIn J e (fun z => nomatch z) fun tk => ⟨.bl b, H, I.kept (t' := tk) fun _ _ z => z, rfl, q⟩
      · cases rt
        obtain ⟨its, rv, ⟨⟨c1, d1, dt1, sl1⟩, ho, hc1, n, hdt⟩, hlen⟩ := I.tuple (st_of ht)
        dsimp only at hc1 hdt
        subst hc1 hdt
        have ei := vals_refs rv
        exact PySem.W.kia_tup (its := its) Z I.kIn J ho (by rw [ei]; exact e) (fun z => nomatch z) fun tk => ⟨.bl b, H, I.kept (t' := tk) fun _ _ z => z, rfl, q⟩
/-- a function that stands somewhere, with its promise -/
def HeldX (P : Program) (w : World) (K : PySem.W.Frag) (mg : Str → Option Value) (base : Heap) (k : Nat) (f : Addr) (sp : Sp) : Prop := ∃ (fd : FuncData) (ps : List Str), FnOk P w K mg base (L2.CX P w) k f fd ps sp ∧ PySem.W.keepIn K (.ref f) = true ∧ Binds K fd ps []
def tCallE (P : Program) (w : World) (K : PySem.W.Frag) (mg : Str → Option Value) (base : Heap) (k : Nat) (sp : Sp) (W : WX) (tf : TE) (t : TA) : TE := fun σ H Q => tf σ H fun y H1 => ∃ f, y = .ref f ∧ HeldX P w K mg base k f sp ∧ t σ H1 fun vs H2 => sp vs H2 Q (WE W σ)
theorem pe_callE {X : Cx} {k : Nat} {sp : Sp} {W : WX} {fe e : Expr} {es : List Expr} {tf : TE} {t : TA} {pos : Pos} (hf : PE X fe tf) (hr : Room k X.A) (tk : Takes X W) (ha : PA X (e :: es) t)
    (ht : eval (.Call fe (e :: es) [] pos) X.env = (do callWith pos (← eval fe X.env) [] (backTo pos (starEach (e :: es) X.env)) (backToKw pos (keywordEach [] X.env))) := by rfl)
    (he : starEach (e :: es) X.env = (false, eval e X.env) :: starEach es X.env := by rfl) (hpl : (backTo pos (starEach es X.env)).any (·.1) = false := by rfl) : PE X (.Call fe (e :: es) [] pos) (tCallE X.prog X.w X.K X.mg X.base k sp W tf t) := by
  refine ⟨fun pins s σ H Q I h => ?_⟩
  refine Call_ (thn (hf.run pins s σ H _ I h) fun u s1 ⟨y, H1, I1, ry, f, ey, hh, q⟩ => ?_) ht
  subst ey
  obtain rfl : u = Value.ref f := ry
  obtain ⟨fd, ps, F, hk, hb⟩ := hh
  refine PySem.W.callWith_K (h₀ := X.base) I1.ok.mod.kin hk (thn (ha.run pos pins s1 σ H1 _ I1 q) fun us s2 ⟨vs, H2, I2, r, q2⟩ => ⟨I2.kIn, ?_⟩) he hpl
  exact run_fnS (E := WE W) F hr hb (passAt tk σ) I2 r q2
/-- a class of the text -/
structure ClsIs (mg : Str → Option Value) (x : Str) (C : Addr) : Prop where
  gC : mg x = some (.ref C)
/-- pe_bm whose frag is told apart from the reading's -/
theorem pe_bmS {K : PySem.W.Frag} {X : Cx} {o e : Expr} {es : List Expr} {to : TE} {t : TA} {name : Str} {apos cpos : Pos} {T id : String} {r : V → List V → Hp → VK → Prop} (pa : PlainAttrs T) (slot : Slot T name id) (hty : typeOf (.builtin id) = pure (.type "method_descriptor"))
    (hm : MtR X id r) (ho : PE X o to) (ha : PA X (e :: es) t) (hK : X.K = K := by rfl)
    (hbase : attributeBase o name X.env (eval o X.env) = eval o X.env := by rfl)
    (hfew : ((backTo cpos (starEach (e :: es) X.env)).all (fun x => !x.1) && (backToKw cpos (keywordEach [] X.env)).all (fun x => x.1.isSome)
      && decide ((e :: es).length + ([] : List Keyword).length + (if ([] : List Keyword).isEmpty then 0 else 1) < 30)) = true := by rfl)
    (hline : (apos.endLine == cpos.line) = true := by rfl) (hs : starEach (e :: es) X.env = (false, eval e X.env) :: starEach es X.env := by rfl) (hplain : (backTo cpos (starEach es X.env)).any (·.1) = false := by rfl) :
    PE X (.Call (.Attribute o name apos) (e :: es) [] cpos) (tBM K T r to t) := by
  subst hK
  exact pe_bm pa slot hty hm ho ha hbase hfew hline hs hplain


end Rf
namespace Rf
open PySem PySem.Spec PyProof.Rows L2
/-! ### the law's own books -/
theorem tup_off {K : PySem.W.Frag} {H H' : Hp} {h c a : Addr} {xs : List V} (R : RngAt H h c) (e : Off (isHC h c) H H') (q : SqT K H a xs) : SqT K H' a xs := by
  obtain ⟨ne, x, p, cells, h1, h2, _⟩ := R
  have n : ∀ o, H a = some o → (∀ ys, o ≠ .lst ys) → ¬ isHC h c a := fun o ho hno z => by
    rcases z with z | z
    · rw [z, h1] at ho
      exact hno _ (Option.some.inj ho).symm
    · rw [z, h2] at ho
      exact hno _ (Option.some.inj ho).symm
  rcases q with (q | ⟨o, q⟩) | q
  · exact .inl (.inl (e _ _ q (n _ q (fun _ z => nomatch z))))
  · exact .inl (.inr ⟨o, e _ _ q (n _ q (fun _ z => nomatch z))⟩)
  · exact .inr q
theorem Fr.clms {K : PySem.W.Frag} {H H' : Hp} {h c : Addr} {ts : List Addr} {qs : List Clm} (R : RngAt H h c) (e : Fr h c H H') (A : ClmsAt K H ts qs) : ClmsAt K H' ts qs := ⟨A.1, fun i t q h1 h2 => tup_off R e.off (A.2 i t q h1 h2)⟩
theorem Fr.book {K : PySem.W.Frag} {H H' : Hp} {h c b ca cl : Addr} {ts : List Addr} {B : Bk} (R : RngAt H h c) (e : Fr h c H H') (A : BookAt K H b ca cl ts B) : BookAt K H' b ca cl ts B :=
  ⟨tup_off R e.off A.hb, tup_off R e.off A.hca, tup_off R e.off A.hcl, Fr.clms R e A.hq⟩
theorem ClmsAt.app {K : PySem.W.Frag} {H : Hp} {ts : List Addr} {qs : List Clm} {t : Addr} {q : Clm} (A : ClmsAt K H ts qs) (h : SqT K H t [.int q.d, .int q.c, .int q.a, .int q.r]) : ClmsAt K H (ts ++ [t]) (qs ++ [q]) := by
  refine ⟨by rw [List.length_append, List.length_append, A.1]; rfl, fun i u p h1 h2 => ?_⟩
  by_cases hi : i < ts.length
  · rw [List.getElem?_append_left hi] at h1
    rw [List.getElem?_append_left (by rw [← A.1]; exact hi)] at h2
    exact A.2 i u p h1 h2
  · have e : i = ts.length := by
      have := (List.getElem?_eq_some_iff.mp h1).1
      rw [List.length_append] at this
      have : i < ts.length + 1 := this
      omega
    subst e
    rw [List.getElem?_append_right (Nat.le_refl _), Nat.sub_self] at h1
    rw [List.getElem?_append_right (by rw [A.1]; exact Nat.le_refl _), A.1, Nat.sub_self] at h2
    cases h1
    cases h2
    exact h
theorem ClmsAt.put {K : PySem.W.Frag} {H : Hp} {ts : List Addr} {qs : List Clm} {p : Addr} {o : HO} {xs : List V} (A : ClmsAt K H ts qs) (hp : H p = some (.lst xs)) : ClmsAt K (upd H p o) ts qs := by
  refine ⟨A.1, fun i t q h1 h2 => ?_⟩
  rcases A.2 i t q h1 h2 with (z | ⟨u, z⟩) | z
  · exact .inl (.inl (by rw [upd_ne (ne_of z hp (fun z => nomatch z))]; exact z))
  · exact .inl (.inr ⟨u, by rw [upd_ne (ne_of z hp (fun z => nomatch z))]; exact z⟩)
  · exact .inr z
/-- a book stands where a list is written -/
theorem BookAt.put {K : PySem.W.Frag} {H : Hp} {b ca cl p : Addr} {ts : List Addr} {B : Bk} {o : HO} {ys : List V} (A : BookAt K H b ca cl ts B) (hp : H p = some (.lst ys)) : BookAt K (L2.upd H p o) b ca cl ts B := by
  have q : ∀ (a : Addr) (xs : List V), SqT K H a xs → SqT K (L2.upd H p o) a xs := fun a xs z => by
    rcases z with (z | ⟨u, z⟩) | z
    · exact .inl (.inl (by rw [upd_ne (ne_of z hp (fun z => nomatch z))]; exact z))
    · exact .inl (.inr ⟨u, by rw [upd_ne (ne_of z hp (fun z => nomatch z))]; exact z⟩)
    · exact .inr z
  exact ⟨q _ _ A.hb, q _ _ A.hca, q _ _ A.hcl, A.hq.put hp⟩
/-- the other house: never the debtor -/
theorem other_house {d r n : Int} (d0 : 0 ≤ d) (d1 : d < n) (r0 : 0 ≤ r) (r1 : r < n - 1) : 0 ≤ (d + 1 + r) % n ∧ (d + 1 + r) % n < n ∧ d ≠ (d + 1 + r) % n := by
  have hn : 0 < n := by omega
  refine ⟨Int.emod_nonneg _ (by omega), Int.emod_lt_of_pos _ hn, ?_⟩
  by_cases h : d + 1 + r < n
  · rw [Int.emod_eq_of_lt (by omega) h]
    omega
  · have e : d + 1 + r = (d + 1 + r - n) + n * 1 := by omega
    rw [e, Int.add_mul_emod_self_left, Int.emod_eq_of_lt (by omega) (by omega)]
    omega
def spLBook (K : PySem.W.Frag) : Sp := fun vs H Q _ => ∃ (h c : Addr) (nh nc wd : Int), vs = [.ref h, .int nh, .int nc, .int wd] ∧ RngAt H h c ∧ 1 ≤ nh ∧ nh ≤ 8 ∧ 0 ≤ nc ∧ nc ≤ 24 ∧ 1 ≤ wd ∧ wd ≤ 999 ∧
  ∀ b ca cl ts B H', Good B → (B.cash.length : Int) ≤ nh → (B.claims.length : Int) ≤ nc → (∀ x ∈ B.cash, x ≤ max 20 wd) → (∀ q ∈ B.claims, q.a ≤ max 20 wd) → H b = none → Fr h c H H' → BookAt K H' b ca cl ts B → Q (.ref b) H'
section
variable {P : Program} {w : World} {K : PySem.W.Frag} {mg : Str → Option Value} {base : Heap}
theorem sc_lbook : FnScope ["_law_h", "_law_houses", "_law_claims", "_law_wide", "_law_many", "_law_most", "_law_ranks", "_law_k", "_law_cash", "_law_rows", "_law_debtor", "_law_creditor"] ["_law_h", "_law_houses", "_law_claims", "_law_wide"] (defScope s_lbook) := ⟨rfl, rfl, rfl, by decide +kernel, rfl, by decide +kernel, by decide +kernel⟩
/- 0:_law_h 1:_law_houses 2:_law_claims 3:_law_wide 4:_law_many 5:_law_most 6:_law_ranks 7:_law_k 8:_law_cash 9:_law_rows 10:_law_debtor 11:_law_creditor -/
theorem ok_lbook {f : Addr} {fd : FuncData} (D : DefAt K mg "_law_book" s_lbook ["_law_h", "_law_houses", "_law_claims", "_law_wide"] f fd) (m_max : mg "max" = none) (m_len : mg "len" = none) (m_range : mg "range" = none) (m_tuple : mg "tuple" = none) (m_int : mg "int" = none)
    {f1 : Addr} {fd1 : FuncData} (D_next : DefAt K mg "_law_next" s_next ["_law_h", "_law_many"] f1 fd1) : FnOk P w K mg base CX0 2 f fd ["_law_h", "_law_houses", "_law_claims", "_law_wide"] (spLBook K) := by
  have G_next : FnOk P w K mg base CX0 1 f1 fd1 ["_law_h", "_law_many"] spNext := ok_next D_next m_max m_len
  refine D.F.ok sc_lbook (fun vs H Q E h => ?_) (fun cdv A outer s H vs Q E hr h => ?_)
  · obtain ⟨h, c, nh, nc, wd, rfl, _⟩ := h
    rfl
  · obtain ⟨h, c, nh, nc, wd, rfl, R, nh0, nh1, nc0, nc1, wd0, wd1, k⟩ := h
    refine ⟨_, pss_cons (ps_set (i := 4) sc_lbook.nd rfl (.inl rfl) (pe_op op_add pe_int (pe_call G_next (hr.mono (by decide)) (by rfl) D_next.g D_next.F.kp D_next.b .nil pass0 (pa_cons (pv 0) (pa_cons (pv 1) pa_nil)))))
        (pss_cons (ps_set (i := 5) sc_lbook.nd rfl (.inr rfl) (pe_ix (r := rIxL K) ix_list (pe_lst (pa_cons pe_int (pa_cons pe_int (pa_cons (pv 3) pa_nil)))) (pe_call G_next (hr.mono (by decide)) (by rfl) D_next.g D_next.F.kp D_next.b .nil pass0 (pa_cons (pv 0) (pa_cons pe_int pa_nil))) (fun _ _ => rfl)))
        (pss_cons (ps_set (i := 6) sc_lbook.nd rfl (.inl rfl) (pe_ix (r := rIxL K) ix_list (pe_lst (pa_cons pe_int (pa_cons pe_int (pa_cons pe_int pa_nil)))) (pe_call G_next (hr.mono (by decide)) (by rfl) D_next.g D_next.F.kp D_next.b .nil pass0 (pa_cons (pv 0) (pa_cons pe_int pa_nil))) (fun _ _ => rfl)))
        (pss_cons (ps_set (i := 8) sc_lbook.nd rfl (.inl rfl) (pe_callTy (r := rTupleOf K) call_tupleOf (by rfl) m_tuple (by decide +kernel) (pa_cons (pe_lc (own := [("_law_k", 7)]) (g := gName 7) (tt := tYes) (by rfl) sc_lbook.nd (pi_range1 (by rfl) m_range (pa_cons (pv 4) pa_nil)) (blkOk_by (own := [("_law_k", 7)]) (N := ["_law_h", "_law_houses", "_law_claims", "_law_wide", "_law_many", "_law_most", "_law_ranks", "_law_k", "_law_cash", "_law_rows", "_law_debtor", "_law_creditor"]) (sc := defScope s_lbook) (by decide +kernel)) (fun _ _ _ _ _ => (pg_name (i := 7) sc_lbook.nd rfl (.inl rfl))) (fun _ _ _ _ _ => pts_nil) (fun _ _ _ _ _ => (pe_op op_mul (pe_call G_next (hr.mono (by decide)) (by rfl) D_next.g D_next.F.kp D_next.b .nil pass0 (pa_cons (pv 0) (pa_cons (pe_op op_add (pv 5) pe_int) pa_nil))) (pe_callTy call_int1 (by rfl) m_int (by decide +kernel) (pa_cons (pe_cmpR op_gt (pe_call G_next (hr.mono (by decide)) (by rfl) D_next.g D_next.F.kp D_next.b .nil pass0 (pa_cons (pv 0) (pa_cons pe_int pa_nil))) pe_int (nomark _)) pa_nil))))) pa_nil)))
        (pss_cons (ps_set (i := 9) sc_lbook.nd rfl (.inl rfl) (pe_lst pa_nil))
        (pss_cons (ps_for PassesOwn.never rfl (pi_range1 (by rfl) m_range (pa_cons (pe_op op_mul (pe_call G_next (hr.mono (by decide)) (by rfl) D_next.g D_next.F.kp D_next.b .nil pass0 (pa_cons (pv 0) (pa_cons (pe_op op_add (pv 2) pe_int) pa_nil))) (pe_callTy call_int1 (by rfl) m_int (by decide +kernel) (pa_cons (pe_cmpR op_gt (pv 4) pe_int (nomark _)) pa_nil))) pa_nil)) (pg_name (i := 7) sc_lbook.nd rfl (.inl rfl)) (pss_cons (ps_set (i := 10) sc_lbook.nd rfl (.inl rfl) (pe_call G_next (hr.mono (by decide)) (by rfl) D_next.g D_next.F.kp D_next.b .nil pass0 (pa_cons (pv 0) (pa_cons (pv 4) pa_nil))))
          (pss_cons (ps_set (i := 11) sc_lbook.nd rfl (.inl rfl) (pe_op op_mod (pe_op op_add (pe_op op_add (pv 10) pe_int) (pe_call G_next (hr.mono (by decide)) (by rfl) D_next.g D_next.F.kp D_next.b .nil pass0 (pa_cons (pv 0) (pa_cons (pe_op op_sub (pv 4) pe_int) pa_nil)))) (pv 4)))
          (pss_one (ps_expr (pe_bm PySem.F.plainAttrs_list PySem.F.slot_list_append PySem.F.type_list_append mt_append (pv 9) (pa_cons (pe_tup (pa_cons (pv 10) (pa_cons (pv 11) (pa_cons (pe_op op_add pe_int (pe_call G_next (hr.mono (by decide)) (by rfl) D_next.g D_next.F.kp D_next.b .nil pass0 (pa_cons (pv 0) (pa_cons (pv 5) pa_nil)))) (pa_cons (pe_op op_add pe_int (pe_call G_next (hr.mono (by decide)) (by rfl) D_next.g D_next.F.kp D_next.b .nil pass0 (pa_cons (pv 0) (pa_cons (pv 6) pa_nil)))) pa_nil))))) pa_nil)))))))
        (pss_one (ps_ret (pe_tup (pa_cons (pv 8) (pa_cons (pe_callTy (r := rTupleOf K) call_tupleOf (by rfl) m_tuple (by decide +kernel) (pa_cons (pv 9) pa_nil)) pa_nil)))))))))), ?_⟩
    -- many
    refine sq_set (fun v H1 => Fr h c H H1 ∧ ∃ n : Int, v = .int n ∧ 1 ≤ n ∧ n ≤ nh) (fun Q k => ⟨_, rfl, _, rfl, h, c, nh, rfl, R, by omega, by omega, fun r H1 r0 r1 R1 o1 => ⟨_, _, rfl, rfl, k _ _ ⟨⟨o1, R1⟩, _, rfl, by omega, by omega⟩⟩⟩) (fun v H1 hv => ?_)
    obtain ⟨F1, n, rfl, n0, n1⟩ := hv
    -- most
    refine sq_set (fun v H2 => Fr h c H H2 ∧ ∃ m : Int, v = .int m ∧ 1 ≤ m ∧ m ≤ max 20 wd ∧ m ≤ 999) (fun Q k => ?_) (fun v H2 hv => ?_)
    · refine ⟨_, rfl, by show 3 ≤ sizeLine; decide, fun l nl => ⟨_, rfl, h, c, 3, rfl, F1.rng.same (Same.new nl), by decide, by decide, fun r H2 r0 r1 R2 o2 => ?_⟩⟩
      have F2 : Fr h c H H2 := (F1.same (Same.new nl)).trans ⟨o2, R2⟩
      have hl := o2 l _ upd_same (F1.rng.fresh nl)
      have : r = 0 ∨ r = 1 ∨ r = 2 := by omega
      rcases this with rfl | rfl | rfl
      · exact ⟨l, _, _, _, rfl, rfl, sq_of hl, atI_nat (j := 0) rfl, k _ _ ⟨F2, 4, rfl, by omega, by omega, by omega⟩⟩
      · exact ⟨l, _, _, _, rfl, rfl, sq_of hl, atI_nat (j := 1) rfl, k _ _ ⟨F2, 20, rfl, by omega, by omega, by omega⟩⟩
      · exact ⟨l, _, _, _, rfl, rfl, sq_of hl, atI_nat (j := 2) rfl, k _ _ ⟨F2, wd, rfl, by omega, by omega, by omega⟩⟩
    obtain ⟨F2, m, rfl, m0, m1, m2⟩ := hv
    -- ranks
    refine sq_set (fun v H3 => Fr h c H H3 ∧ ∃ q : Int, v = .int q ∧ 1 ≤ q ∧ q ≤ 9) (fun Q k => ?_) (fun v H3 hv => ?_)
    · refine ⟨by show 3 ≤ sizeLine; decide, fun l nl => ⟨_, rfl, h, c, 3, rfl, F2.rng.same (Same.new nl), by decide, by decide, fun r H3 r0 r1 R3 o3 => ?_⟩⟩
      have F3 : Fr h c H H3 := (F2.same (Same.new nl)).trans ⟨o3, R3⟩
      have hl := o3 l _ upd_same (F2.rng.fresh nl)
      have : r = 0 ∨ r = 1 ∨ r = 2 := by omega
      rcases this with rfl | rfl | rfl
      · exact ⟨l, _, _, _, rfl, rfl, sq_of hl, atI_nat (j := 0) rfl, k _ _ ⟨F3, 1, rfl, by omega, by omega⟩⟩
      · exact ⟨l, _, _, _, rfl, rfl, sq_of hl, atI_nat (j := 1) rfl, k _ _ ⟨F3, 3, rfl, by omega, by omega⟩⟩
      · exact ⟨l, _, _, _, rfl, rfl, sq_of hl, atI_nat (j := 2) rfl, k _ _ ⟨F3, 9, rfl, by omega, by omega⟩⟩
    obtain ⟨F3, q, rfl, q0, q1⟩ := hv
    -- cash
    refine sq_set (fun v H4 => Fr h c H H4 ∧ ∃ (ca : Addr) (cash : List Int), v = .ref ca ∧ SqT K H4 ca (cash.map V.int) ∧ (cash.length : Int) = n ∧ ∀ x ∈ cash, 0 ≤ x ∧ x ≤ m) (fun Q k => ?_) (fun v H4 hv => ?_)
    · refine ⟨_, rfl, n, rfl, by omega, by omega, fun d nd => ?_⟩
      have nd0 := F3.free nd
      have nhd := F3.rng.fresh nd
      refine lc_range (lo := 0) (n := n.toNat) (fun i H' => Fr h c H H' ∧ ∃ cash : List Int, H' d = some (.lst (cash.map V.int)) ∧ cash.length = i ∧ ∀ x ∈ cash, 0 ≤ x ∧ x ≤ m) ⟨F3.new nd, [], upd_same, rfl, fun x hx => nomatch hx⟩ (fun i H' hi hP => ?_) (fun H' hP => ?_)
      · obtain ⟨F4, cash, hd, hl, hb⟩ := hP
        refine ⟨rfl, _, rfl, _, rfl, _, _, rfl, rfl, h, c, _, rfl, F4.rng, by omega, by omega, fun r H5 r0 r1 R5 o5 => ?_⟩
        refine ⟨_, rfl, h, c, 3, rfl, R5, by decide, by decide, fun r2 H6 r20 r21 R6 o6 => ⟨_, _, rfl, rfl, .inr ⟨_, rfl, _, _, rfl, rfl, .inl ⟨by omega, by omega⟩, ?_⟩⟩⟩
        have F6 : Fr h c H H6 := (F4.trans ⟨o5, R5⟩).trans ⟨o6, R6⟩
        have hd6 := o6 d _ (o5 d _ hd nhd) nhd
        refine ⟨_, hd6, ?_, F6.mut nd0 nhd, cash ++ [r * (if decide (0 < r2) = true then 1 else 0)], ?_, ?_, fun x hx => ?_⟩
        · rw [List.length_map]
          exact sz_lt (by omega)
        · rw [upd_same, List.map_append]
          rfl
        · rw [List.length_append, hl]
          rfl
        · rcases List.mem_append.mp hx with hx | hx
          · exact hb x hx
          · rw [List.mem_singleton.mp hx]
            split <;> omega
      · obtain ⟨F4, cash, hd, hl, hb⟩ := hP
        refine ⟨d, _, rfl, .inl ⟨sq_of hd, fun ca nca => k _ _ ⟨F4.new nca, ca, cash, rfl, st_of upd_same, by omega, hb⟩⟩⟩
    obtain ⟨F4, ca, cash, rfl, hca, hcn, hcb⟩ := hv
    -- rows
    refine sq_new (.lst []) (fun Q k => ⟨Nat.zero_le _, fun p np => k p _ np (Same.new np) upd_same⟩) (fun rw0 H5 nrw s5 hrw => ?_)
    have F5 := F4.same s5
    have hca5 := Same.tup s5 hca
    have nrw0 := F4.free nrw
    have nhrw := F4.rng.fresh nrw
    refine sq_forRx (fun z H6 => Fr h c H5 H6 ∧ 0 ≤ z ∧ z ≤ nc ∧ (0 < z → 1 < n)) (fun Q k => ?_) (fun z H6 hz => by have := hz.2; omega)
      (fun z i σ' H6 => Fr h c H4 H6 ∧ z ≤ nc ∧ (0 < z → 1 < n) ∧ (∃ (ts : List Addr) (qs : List Clm), H6 rw0 = some (.lst (ts.map V.ref)) ∧ ClmsAt K H6 ts qs ∧ qs.length = i ∧ (∀ q' ∈ qs, GoodC n q' ∧ q'.a ≤ m)) ∧
        ∃ y9 y10 y11, σ' = [some (.ref h), some (.int nh), some (.int nc), some (.int wd), some (.int n), some (.int m), some (.int q), y9, some (.ref ca), some (.ref rw0), y10, y11])
      (fun z H6 hz => ⟨((Fr.refl F4.rng).same s5).trans hz.1, hz.2.2.1, hz.2.2.2, ⟨[], [], hz.1.off rw0 _ hrw nhrw, ⟨rfl, fun i t p h1 => by cases h1⟩, rfl, fun p hp => nomatch hp⟩, _, _, _, rfl⟩) (fun z i σ' H6 hi hP => ?_) (fun z σ' H6 hP => ?_)
    · refine ⟨_, rfl, _, rfl, _, _, rfl, rfl, h, c, _, rfl, F5.rng, by omega, by omega, fun r H6 r0 r1 R6 o6 => ?_⟩
      refine ⟨_, rfl, _, _, rfl, rfl, .inr ⟨_, rfl, _, _, rfl, rfl, .inl ⟨by omega, by omega⟩, k _ _ ⟨⟨o6, R6⟩, ?_, ?_, ?_⟩⟩⟩
      · split <;> omega
      · split <;> omega
      · by_cases hn : 1 < n
        · exact fun _ => hn
        · rw [decide_eq_false hn]
          intro hh
          simp at hh
    · obtain ⟨F6, hz, hz2, ⟨ts, qs, hr6, hq6, hql, hqg⟩, y9, y10, y11, rfl⟩ := hP
      have hn : 1 < n := hz2 (by omega)
      -- debtor
      refine sq_set (fun v H7 => Fr h c H6 H7 ∧ ∃ d : Int, v = .int d ∧ 0 ≤ d ∧ d < n) (fun Q k => ⟨_, rfl, _, rfl, h, c, n, rfl, F6.rng, by omega, by omega, fun r H7 r0 r1 R7 o7 => k _ _ ⟨⟨o7, R7⟩, r, rfl, r0, r1⟩⟩) (fun v H7 hv => ?_)
      obtain ⟨F7, d, rfl, d0, d1⟩ := hv
      -- creditor
      refine sq_set (fun v H8 => Fr h c H6 H8 ∧ ∃ e : Int, v = .int e ∧ 0 ≤ e ∧ e < n ∧ d ≠ e) (fun Q k => ?_) (fun v H8 hv => ?_)
      · refine ⟨_, rfl, _, _, rfl, rfl, _, rfl, _, rfl, _, _, rfl, rfl, h, c, _, rfl, F7.rng, by omega, by omega, fun r H8 r0 r1 R8 o8 => ⟨_, _, rfl, rfl, _, rfl, _, _, rfl, rfl, by omega, ?_⟩⟩
        exact k _ _ ⟨F7.trans ⟨o8, R8⟩, _, rfl, other_house d0 d1 r0 r1⟩
      obtain ⟨F8, e, rfl, e0, e1, e2⟩ := hv
      -- the row
      have hr8 := F8.off rw0 _ hr6 nhrw
      refine ⟨_, rfl, .inl ⟨rfl, _, sq_of hr8⟩, _, rfl, _, rfl, _, rfl, _, rfl, h, c, m, rfl, F8.rng, by omega, by omega, fun a H9 a0 a1 R9 o9 => ⟨_, _, rfl, rfl, _, rfl, _, rfl, h, c, q, rfl, R9, by omega, by omega, fun rk H10 k0 k1 R10 o10 => ⟨_, _, rfl, rfl, by show 4 ≤ sizeLine; decide, fun t nt => ?_⟩⟩⟩
      have F10 : Fr h c H6 H10 := (F8.trans ⟨o9, R9⟩).trans ⟨o10, R10⟩
      have hr10 := F10.off rw0 _ hr6 nhrw
      have s11 : Same H10 (upd H10 t (.tup [.int d, .int e, .int (1 + a), .int (1 + rk)])) := Same.new nt
      have hr11 := s11 _ _ hr10
      have hq11 := (Fr.clms F6.rng F10 hq6).same s11
      have ht11 : SqT K (upd H10 t (.tup [.int d, .int e, .int (1 + a), .int (1 + rk)])) t [.int (Clm.mk d e (1 + a) (1 + rk)).d, .int (Clm.mk d e (1 + a) (1 + rk)).c, .int (Clm.mk d e (1 + a) (1 + rk)).a, .int (Clm.mk d e (1 + a) (1 + rk)).r] := st_of upd_same
      have F11 := F10.same s11
      refine ⟨rw0, _, _, rfl, rfl, hr11, ?_, ?_⟩
      · rw [List.length_map, hq6.1]
        exact sz_lt (by omega)
      · refine ⟨?_, hz, hz2, ⟨ts ++ [t], qs ++ [⟨d, e, 1 + a, 1 + rk⟩], ?_, (hq11.app ht11).put hr11, ?_, fun q' hq' => ?_⟩, _, _, _, rfl⟩
        · exact (F6.trans F11).mut nrw nhrw
        · rw [upd_same, List.map_append]
          rfl
        · rw [List.length_append, hql]
          rfl
        · rcases List.mem_append.mp hq' with hq' | hq'
          · exact hqg q' hq'
          · rw [List.mem_singleton.mp hq']
            exact ⟨⟨d0, d1, e0, e1, e2, by show 1 ≤ 1 + a; omega, by show 1 + a ≤ 999; omega, by show 1 ≤ 1 + rk; omega, by show 1 + rk ≤ 9; omega⟩, by show 1 + a ≤ m; omega⟩
    · obtain ⟨F6, hz, hz2, ⟨ts, qs, hr6, hq6, hql, hqg⟩, y9, y10, y11, rfl⟩ := hP
      have R4 := F4.rng
      have hca6 := tup_off R4 F6.off hca
      refine ⟨_, rfl, _, rfl, rw0, _, rfl, .inl ⟨sq_of hr6, fun cl ncl => ⟨by show 2 ≤ sizeLine; decide, fun b nb => ?_⟩⟩⟩
      have F7 : Fr h c H (upd (upd H6 cl (.tup (ts.map V.ref))) b (.tup [.ref ca, .ref cl])) := ((F4.trans F6).new ncl).new nb
      have s7 : Same H6 (upd H6 cl (.tup (ts.map V.ref))) := Same.new ncl
      have s8 : Same (upd H6 cl (.tup (ts.map V.ref))) (upd (upd H6 cl (.tup (ts.map V.ref))) b (.tup [.ref ca, .ref cl])) := Same.new nb
      refine k b ca cl ts ⟨cash, qs⟩ _ ⟨?_, ?_, fun x hx => ?_, ?_, fun q' hq' => ?_⟩ ?_ ?_ (fun x hx => ?_) (fun q' hq' => ?_) ?_ F7 ⟨st_of upd_same, Same.tup (s7.trans s8) hca6, st_of (s8 _ _ upd_same), hq6.same (s7.trans s8)⟩
      · show 1 ≤ cash.length
        omega
      · show cash.length ≤ 8
        omega
      · have := hcb x hx
        omega
      · show qs.length ≤ 24
        omega
      · show GoodC (cash.length : Int) q'
        rw [hcn]
        exact (hqg q' hq').1
      · show (cash.length : Int) ≤ nh
        omega
      · show (qs.length : Int) ≤ nc
        omega
      · have := hcb x hx
        omega
      · have := (hqg q' hq').2
        omega
      · exact ((F4.trans F6).new ncl).free nb
end


end Rf
namespace Rf
open PySem PySem.Spec PyProof.Rows L2
/-! ### the weaving of two books, as the law does it: lists that are written -/
def upTo (n i : Nat) : List Int := ((List.range n).drop i).map fun k : Nat => (k : Int)
theorem upTo_len (n i : Nat) : (upTo n i).length = n - i := by
  unfold upTo
  rw [List.length_map, List.length_drop, List.length_range]
theorem upTo_cons {n i : Nat} (h : i < n) : upTo n i = (i : Int) :: upTo n (i + 1) := by
  unfold upTo
  rw [List.drop_eq_getElem_cons (by rw [List.length_range]; exact h), List.map_cons, List.getElem_range]
theorem upTo_nil {n i : Nat} (h : upTo n i = []) : n ≤ i := by
  have := upTo_len n i
  rw [h] at this
  have e : ([] : List Int).length = 0 := rfl
  omega
theorem upTo_ne {n i : Nat} (h : upTo n i ≠ []) : i < n := Nat.lt_of_not_le fun z => h (List.eq_nil_of_length_eq_zero (by rw [upTo_len]; omega))
theorem rgV_up (n : Nat) : rgV 0 (n : Int) = (upTo n 0).map V.int := by
  unfold rgV upTo
  rw [List.map_map, Int.sub_zero, Int.toNat_natCast, List.drop_zero]
  apply List.map_congr_left
  intro k _
  show V.int (0 + (k : Int)) = V.int (k : Int)
  rw [Int.zero_add]
theorem pop0 {α : Type} {x : α} {l : List α} : PySem.seqIndex? 0 (x :: l).length = some 0 := by
  rw [seqIndex_of (by decide) (by rw [List.length_cons]; omega)]
  rfl
/-- pairs, each a tuple of its own -/
def SidesAt (H : Hp) (us : List Addr) (S : List (Int × Nat)) : Prop := us.length = S.length ∧ ∀ (i : Nat) (t : Addr) (p : Int × Nat), us[i]? = some t → S[i]? = some p → H t = some (.tup [.int p.1, .int (p.2 : Int)])
theorem SidesAt.same {H H' : Hp} {us : List Addr} {S : List (Int × Nat)} (A : SidesAt H us S) (s : Same H H') : SidesAt H' us S := ⟨A.1, fun i t r h1 h2 => s _ _ (A.2 i t r h1 h2)⟩
theorem SidesAt.put {H : Hp} {us : List Addr} {S : List (Int × Nat)} {p : Addr} {o : HO} {xs : List V} (A : SidesAt H us S) (hp : H p = some (.lst xs)) : SidesAt (L2.upd H p o) us S := ⟨A.1, fun i t r h1 h2 => by
  have z := A.2 i t r h1 h2
  rw [upd_ne (ne_of z hp (fun z => nomatch z))]
  exact z⟩
theorem SidesAt.app {H : Hp} {us : List Addr} {S : List (Int × Nat)} {t : Addr} {p : Int × Nat} (A : SidesAt H us S) (h : H t = some (.tup [.int p.1, .int (p.2 : Int)])) : SidesAt H (us ++ [t]) (S ++ [p]) := by
  refine ⟨by rw [List.length_append, List.length_append, A.1]; rfl, fun i u q h1 h2 => ?_⟩
  by_cases hi : i < us.length
  · rw [List.getElem?_append_left hi] at h1
    rw [List.getElem?_append_left (by rw [← A.1]; exact hi)] at h2
    exact A.2 i u q h1 h2
  · have e : i = us.length := by
      have := (List.getElem?_eq_some_iff.mp h1).1
      rw [List.length_append] at this
      have : i < us.length + 1 := this
      omega
    subst e
    rw [List.getElem?_append_right (Nat.le_refl _), Nat.sub_self] at h1
    rw [List.getElem?_append_right (by rw [A.1]; exact Nat.le_refl _), A.1, Nat.sub_self] at h2
    cases h1
    cases h2
    exact h
theorem SidesAt.off {H H' : Hp} {h c : Addr} {us : List Addr} {S : List (Int × Nat)} (A : SidesAt H us S) (R : RngAt H h c) (F : Fr h c H H') : SidesAt H' us S := ⟨A.1, fun i t r h1 h2 => by
  have z := A.2 i t r h1 h2
  refine F.off _ _ z fun n => ?_
  obtain ⟨ne, x, p, cells, e1, e2, _⟩ := R
  rcases n with n | n
  · rw [n, e1] at z; cases z
  · rw [n, e2] at z; cases z⟩
section
variable {ta : TA} {te : TE} {tz t u tu : TS} {c : TT} {D : Ends} {σ : L2.St} {H : Hp}
/-- x, y = two expressions -/
theorem sq_parP {i j : Nat} (R : V → V → Hp → Prop) (h : ∀ Q : List V → Hp → Prop, (∀ v w H', R v w H' → Q [v, w] H') → ta σ H Q) (k : ∀ v w H', R v w H' → tz D ((σ.set i (some v)).set j (some w)) H') : tSeq (tPar i j ta) tz D σ H := h _ fun v w H' r => ⟨v, w, rfl, k v w H' r⟩
/-- a block's last if, its answer open -/
theorem if_ifB (R : Bool → Hp → Prop) (h : ∀ Q : Bool → Hp → Prop, (∀ b H', R b H' → Q b H') → c σ H Q) (k1 : ∀ H', R true H' → t D σ H') (k2 : ∀ H', R false H' → u D σ H') : tIfS c t u D σ H := by
  refine h _ fun b H' r => ?_
  cases b with
  | true => exact iteT (k1 H' r)
  | false => exact iteF (k2 H' r)
/-- the last row of a block: an if (no else) whose word is False -/
theorem last_no (R : Hp → Prop) (h : ∀ Q : Bool → Hp → Prop, (∀ H', R H' → Q false H') → c σ H Q) (k : ∀ H', R H' → D.nx σ H') : tIfS c t tNext D σ H := h _ fun H' r => iteF (k H' r)
/-- for x in a tuple that is made -/
theorem sq_forTN {K : PySem.W.Frag} {tl : TE} {g : TG} {xs : List V} (h : ∀ Q : VK, (∀ p H', H p = none → Same H H' → H' p = some (.tup xs) → Q (.ref p) H') → tl σ H Q) (Pv : Addr → Nat → L2.St → Hp → Prop)
    (h0 : ∀ p H', H p = none → Same H H' → H' p = some (.tup xs) → Pv p 0 σ H') (hl : ∀ p i σ' H', i ≤ xs.length → Pv p i σ' H' → SqT K H' p xs)
    (hs : ∀ p i x σ' H', xs[i]? = some x → Pv p i σ' H' → g x σ' H' fun σ2 H2 => tu { D with nx := Pv p (i + 1), ct := Pv p (i + 1), bk := tz D } σ2 H2) (hd : ∀ p σ' H', Pv p xs.length σ' H' → tz D σ' H') : tSeq (tFor (iTup K tl) g tu) tz D σ H :=
  h _ fun p H' np s hp => ⟨p, rfl, ⟨xs, st_of hp⟩, for_tup (D := { D with nx := tz D }) (Pv p) (h0 p H' np s hp) (hl p) (hs p) (hd p)⟩
end


end Rf
namespace Rf
open PySem PySem.Spec PyProof.Rows L2
/-! ### what the program's clearings promise -/
def spBest (K : PySem.W.Frag) : Sp := fun vs H Q _ => ∃ (b ca cl : Addr) (ts : List Addr) (B : Bk), vs = [.ref b] ∧ BookAt K H b ca cl ts B ∧ Good B ∧ ∀ p H', H p = none → Same H H' → H' p = some (.lst ((bestOf B).map V.int)) → Q (.ref p) H'
def spWorst (K : PySem.W.Frag) : Sp := fun vs H Q _ => ∃ (b ca cl : Addr) (ts : List Addr) (B : Bk), vs = [.ref b] ∧ BookAt K H b ca cl ts B ∧ Good B ∧ ∀ p H', H p = none → Same H H' → H' p = some (.lst ((worstOf B).map V.int)) → Q (.ref p) H'
def spIsClr (K : PySem.W.Frag) : Sp := fun vs H Q _ => ∃ (b ca cl : Addr) (ts : List Addr) (B : Bk) (p : Addr) (P : List Int), vs = [.ref b, .ref p] ∧ BookAt K H b ca cl ts B ∧ Good B ∧ SqL K H p (P.map V.int) ∧ Pay B P ∧ ∀ H', Same H H' → Q (.bl (decide (behind B (houses B) P = P))) H'
def spLeft (K : PySem.W.Frag) : Sp := fun vs H Q _ => ∃ (b ca cl : Addr) (ts : List Addr) (B : Bk) (p : Addr) (P : List Int), vs = [.ref b, .ref p] ∧ BookAt K H b ca cl ts B ∧ Good B ∧ SqL K H p (P.map V.int) ∧ Pay B P ∧ ∀ q H', H q = none → Same H H' → H' q = some (.lst ((leftOf B P).map V.int)) → Q (.ref q) H'
theorem rgV_houses (B : Bk) : rgV 0 (B.cash.length : Int) = (houses B).map V.int := by
  unfold rgV houses
  rw [List.map_map, Int.sub_zero, Int.toNat_natCast]
  apply List.map_congr_left
  intro k _
  show V.int (0 + (k : Int)) = V.int (k : Int)
  rw [Int.zero_add]
theorem rgOk_len {n : Nat} (h : n ≤ 1000) : RgOk 0 (n : Int) := RgOk.of_le (by decide) (by omega) (by decide) (by omega)
theorem inV_ints {x : Int} {l : List Int} : inV (.int x) (l.map V.int) = decide (x ∈ l) := by
  unfold inV
  rw [List.any_map]
  by_cases h : x ∈ l
  · rw [decide_eq_true h]
    refine List.any_eq_true.mpr ⟨x, h, ?_⟩
    show (x == x) = true
    simp
  · rw [decide_eq_false h]
    refine List.any_eq_false.mpr fun y hy => ?_
    show ¬ (y == x) = true
    intro z
    have e : y = x := by simpa using z
    exact h (e ▸ hy)
theorem flat_ints (l : List Int) : (l.map V.int).all flatV = true := by
  rw [List.all_map]
  exact List.all_eq_true.mpr fun _ _ => rfl
theorem houses_len (B : Bk) : (houses B).length = B.cash.length := by
  unfold houses
  rw [List.length_map, List.length_range]
theorem houses_in (B : Bk) : ∀ x ∈ houses B, 0 ≤ x ∧ x < B.cash.length := fun _ h => mem_houses.mp h
/-- the law's list of all amounts -/
theorem allP_take {B : Bk} {j : Nat} (h : j < B.claims.length) : (allP B).take (j + 1) = (allP B).take j ++ [(B.clm j).a] := by
  have e : (allP B)[j]? = some (B.clm j).a := by
    unfold allP
    rw [List.getElem?_map, Bk.clm_get h]
    rfl
  rw [List.take_add_one, e]
  rfl
/-- the draws' start -/
theorem rng_start {H : Hp} {h c : Addr} {ns : List Int} {n : Int} (nc : H c = none) (nh : (upd H c (.lst (ns.map V.int))) h = none) (hns : ns.length ≤ 63) (n0 : 0 ≤ n) (n1 : n < 2147483647) : RngAt (upd (upd H c (.lst (ns.map V.int))) h (.lst [.int n, .ref c, .int 0])) h c := by
  have nhc : h ≠ c := fun z => by rw [z, upd_same] at nh; cases nh
  exact ⟨nhc, n, 0, ns, upd_same, by rw [upd_ne nhc.symm, upd_same], n0, n1, by decide, hns⟩


end Rf
namespace Rf
open PySem PySem.Spec PyProof.Rows L2
/-! ### the program's books, where they are books -/
structure Lims (mg : Str → Option Value) : Prop where
  houses : ∃ t, mg "MOST_HOUSES" = some (.int 8 t)
  cash : ∃ t, mg "MOST_CASH" = some (.int 999 t)
  claims : ∃ t, mg "MOST_CLAIMS" = some (.int 24 t)
  amount : ∃ t, mg "MOST_AMOUNT" = some (.int 999 t)
  rank : ∃ t, mg "MOST_RANK" = some (.int 9 t)
def spWrong (K : PySem.W.Frag) : Sp := fun vs H Q _ => ∃ (t : Addr) (n : Int) (q : Clm), vs = [.ref t, .int n] ∧ SqT K H t [.int q.d, .int q.c, .int q.a, .int q.r] ∧ GoodC n q ∧ Q .non H
def spNeed (K : PySem.W.Frag) : Sp := fun vs H Q _ => ∃ (b ca cl : Addr) (ts : List Addr) (B : Bk), vs = [.ref b] ∧ BookAt K H b ca cl ts B ∧ Good B ∧ ∀ H', Same H H' → Q .non H'
def spNeedHs (K : PySem.W.Frag) : Sp := fun vs H Q _ => ∃ (b ca cl : Addr) (ts : List Addr) (B : Bk) (l : Addr) (xs : List Int), vs = [.ref b, .ref l] ∧ BookAt K H b ca cl ts B ∧ Good B ∧ SqL K H l (xs.map V.int) ∧ (∀ x ∈ xs, 0 ≤ x ∧ x < B.cash.length) ∧ ∀ H', Same H H' → Q .non H'
def spNeedH (K : PySem.W.Frag) : Sp := fun vs H Q _ => ∃ (b ca cl : Addr) (ts : List Addr) (B : Bk) (x : Int), vs = [.ref b, .int x] ∧ BookAt K H b ca cl ts B ∧ Good B ∧ 0 ≤ x ∧ x < B.cash.length ∧ ∀ H', Same H H' → Q .non H'
section
variable {P : Program} {w : World} {K : PySem.W.Frag} {mg : Str → Option Value} {base : Heap}
theorem sc_wrong : FnScope ["claim", "houses", "debtor", "creditor", "amount", "rank"] ["claim", "houses"] (defScope s_wrong) := ⟨rfl, rfl, rfl, by decide +kernel, rfl, by decide +kernel, by decide +kernel⟩
/- 0:claim 1:houses 2:debtor 3:creditor 4:amount 5:rank -/
theorem ok_wrong {f : Addr} {fd : FuncData} (D : DefAt K mg "_wrong_in_claim" s_wrong ["claim", "houses"] f fd) (L : Lims mg) : FnOk P w K mg base CX0 1 f fd ["claim", "houses"] (spWrong K) := by
  obtain ⟨t1, m_MOST_AMOUNT⟩ := L.amount
  obtain ⟨t2, m_MOST_RANK⟩ := L.rank
  refine D.F.ok sc_wrong (fun vs H Q E h => ?_) (fun cdv A outer s H vs Q E hr h => ?_)
  · obtain ⟨t, n, q, rfl, _⟩ := h
    rfl
  · obtain ⟨t, n, q, rfl, ht, Gc, k⟩ := h
    have ne : decide (V.int q.d = V.int q.c) = false := decide_eq_false fun z => Gc.ne (V.int.inj z)
    refine ⟨_, pss_cons (ps_asg (pv 0) (pg_tup rfl (pgs_cons (pg_name (i := 2) sc_wrong.nd rfl (.inl rfl)) (pgs_cons (pg_name (i := 3) sc_wrong.nd rfl (.inl rfl)) (pgs_cons (pg_name (i := 4) sc_wrong.nd rfl (.inl rfl)) (pgs_cons (pg_name (i := 5) sc_wrong.nd rfl (.inl rfl)) pgs_nil))))))
        (pss_cons (ps_if (PW.pt (pw_or (pt_not (PW.pt (pw_and (pt_chain op_le op_lt pe_int (pv 2) (pv 1)) (pw_and1 (pt_chain op_le op_lt pe_int (pv 3) (pv 1)))))) (pw_or1 (pt_cmpR op_eq (pv 2) (pv 3) (nomark _))))) (pss_one (ps_ret pe_str)) pss_nil)
        (pss_cons (ps_if (pt_not (pt_chain op_le op_le pe_int (pv 4) (pe_glob (v := .int 999) (by rfl) m_MOST_AMOUNT ⟨_, rfl⟩))) (pss_one (ps_ret pe_str)) pss_nil)
        (pss_cons (ps_if (pt_not (pt_chain op_le op_le pe_int (pv 5) (pe_glob (v := .int 9) (by rfl) m_MOST_RANK ⟨_, rfl⟩))) (pss_one (ps_ret pe_str)) pss_nil)
        (pss_one (ps_ret pe_non))))), ?_⟩
    refine sq_tup4 (fun Q k => ⟨_, rfl, k⟩) ht ?_
    refine sq_no (fun H' => H' = H) (fun Q k => ?_) (fun H' e => ?_)
    · refine ⟨_, rfl, _, _, rfl, rfl, true, dec_t Gc.d0, iteT ⟨_, rfl, _, _, rfl, rfl, true, dec_t Gc.d1, iteT ?_⟩⟩
      refine ⟨_, rfl, _, _, rfl, rfl, true, dec_t Gc.c0, iteT ⟨_, rfl, _, _, rfl, rfl, true, dec_t Gc.c1, iteF ?_⟩⟩
      refine ⟨_, rfl, _, rfl, rfl, ?_⟩
      rw [ne]
      exact ⟨_, rfl, k H rfl⟩
    subst e
    refine sq_no (fun H1 => H1 = H') (fun Q k => ?_) (fun H1 e => ?_)
    · exact ⟨_, rfl, _, _, rfl, rfl, true, dec_t Gc.a0, iteT ⟨_, _, rfl, rfl, true, dec_t Gc.a1, k H' rfl⟩⟩
    subst e
    refine sq_no (fun H2 => H2 = H1) (fun Q k => ?_) (fun H2 e => ?_)
    · exact ⟨_, rfl, _, _, rfl, rfl, true, dec_t Gc.r0, iteT ⟨_, _, rfl, rfl, true, dec_t Gc.r1, k H1 rfl⟩⟩
    subst e
    exact k
theorem sc_need : FnScope ["book", "cash", "claims", "houses", "house", "coins", "number", "claim", "wrong"] ["book"] (defScope s_need) := ⟨rfl, rfl, rfl, by decide +kernel, rfl, by decide +kernel, by decide +kernel⟩
/- 0:book 1:cash 2:claims 3:houses 4:house 5:coins 6:number 7:claim 8:wrong -/
theorem ok_need {f : Addr} {fd : FuncData} (D : DefAt K mg "need_book" s_need ["book"] f fd) (L : Lims mg) (m_len : mg "len" = none) (m_enumerate : mg "enumerate" = none)
    {f1 : Addr} {fd1 : FuncData} (D_wrong : DefAt K mg "_wrong_in_claim" s_wrong ["claim", "houses"] f1 fd1) : FnOk P w K mg base CX0 2 f fd ["book"] (spNeed K) := by
  have G_wrong : FnOk P w K mg base CX0 1 f1 fd1 ["claim", "houses"] (spWrong K) := ok_wrong D_wrong L
  obtain ⟨t1, m_MOST_HOUSES⟩ := L.houses
  obtain ⟨t2, m_MOST_CASH⟩ := L.cash
  obtain ⟨t3, m_MOST_CLAIMS⟩ := L.claims
  refine D.F.ok sc_need (fun vs H Q E h => ?_) (fun cdv A outer s H vs Q E hr h => ?_)
  · obtain ⟨b, ca, cl, ts, B, rfl, _⟩ := h
    rfl
  · obtain ⟨b, ca, cl, ts, B, rfl, A, G, k⟩ := h
    have lc : (B.cash.map V.int).length = B.cash.length := List.length_map _
    have lq : (ts.map V.ref).length = B.claims.length := by rw [List.length_map, A.hq.1]
    have n0 := G.n0
    have n1 := G.n1
    have m1 := G.m1
    refine ⟨_, pss_cons (ps_asg (pv 0) (pg_tup rfl (pgs_cons (pg_name (i := 1) sc_need.nd rfl (.inl rfl)) (pgs_cons (pg_name (i := 2) sc_need.nd rfl (.inl rfl)) pgs_nil))))
        (pss_cons (ps_set (i := 3) sc_need.nd rfl (.inl rfl) (pe_callB (r := rLen K) call_len (by rfl) m_len (by decide +kernel) (pa_cons (pv 1) pa_nil)))
        (pss_cons (ps_if (pt_not (pt_chain op_le op_le pe_int (pv 3) (pe_glob (v := .int 8) (by rfl) m_MOST_HOUSES ⟨_, rfl⟩))) (pss_one ps_never) pss_nil)
        (pss_cons (ps_for PassesOwn.never rfl (pi_enumT (by rfl) m_enumerate (pa_cons (pv 1) pa_nil)) (pg_tup rfl (pgs_cons (pg_name (i := 4) sc_need.nd rfl (.inl rfl)) (pgs_cons (pg_name (i := 5) sc_need.nd rfl (.inl rfl)) pgs_nil))) (pss_one (ps_if (pt_not (pt_chain op_le op_le pe_int (pv 5) (pe_glob (v := .int 999) (by rfl) m_MOST_CASH ⟨_, rfl⟩))) (pss_one ps_never) pss_nil)))
        (pss_cons (ps_if (pt_cmpR op_gt (pe_callB (r := rLen K) call_len (by rfl) m_len (by decide +kernel) (pa_cons (pv 2) pa_nil)) (pe_glob (v := .int 24) (by rfl) m_MOST_CLAIMS ⟨_, rfl⟩) (nomark _)) (pss_one ps_never) pss_nil)
        (pss_one (ps_for PassesOwn.never rfl (pi_enumT (by rfl) m_enumerate (pa_cons (pv 2) pa_nil)) (pg_tup rfl (pgs_cons (pg_name (i := 6) sc_need.nd rfl (.inl rfl)) (pgs_cons (pg_name (i := 7) sc_need.nd rfl (.inl rfl)) pgs_nil))) (pss_cons (ps_set (i := 8) sc_need.nd rfl (.inl rfl) (pe_call G_wrong (hr.mono (by decide)) (by rfl) D_wrong.g D_wrong.F.kp D_wrong.b .nil pass0 (pa_cons (pv 7) (pa_cons (pv 3) pa_nil))))
          (pss_one (ps_if (pt_cmpR op_notN (pv 8) pe_non (nomark _)) (pss_one ps_never) pss_nil))))))))), ?_⟩
    refine sq_tup2 (fun Q k => ⟨_, rfl, k⟩) A.hb ?_
    refine sq_val (.int (B.cash.length : Int)) (fun Q k => ⟨_, rfl, ca, _, rfl, .inr A.hca, by rw [lc]; exact k⟩) ?_
    refine sq_no (fun H' => H' = H) (fun Q k => ?_) (fun H' e => ?_)
    · exact ⟨_, rfl, _, _, rfl, rfl, true, dec_t (show (1 : Int) ≤ (B.cash.length : Int) by omega), iteT ⟨_, _, rfl, rfl, true, dec_t (show (B.cash.length : Int) ≤ 8 by omega), k H rfl⟩⟩
    subst e
    refine sq_forET (xs := B.cash.map V.int) (fun Q k => ⟨_, rfl, k⟩) A.hca
      (fun i σ' H1 => Same H' H1 ∧ ∃ y5 y6 y7 y8 y9, σ' = [some (.ref b), some (.ref ca), some (.ref cl), some (.int (B.cash.length : Int)), y5, y6, y7, y8, y9]) ⟨Same.refl _, none, none, none, none, none, rfl⟩ (fun i σ' H1 _ hP => Same.tup hP.1 A.hca) (fun i x U σ' H1 hx hP hU => ?_) (fun σ' H1 hP => ?_)
    · obtain ⟨s1, y5, y6, y7, y8, y9, rfl⟩ := hP
      obtain ⟨rfl, hi⟩ := map_int_get hx
      have gx := G.cash _ (g_mem hi)
      refine ⟨U, _, rfl, st_of upd_same, rfl, _, _, rfl, _, _, rfl, rfl, ?_⟩
      refine ⟨_, rfl, _, _, rfl, rfl, true, dec_t gx.1, iteT ⟨_, _, rfl, rfl, true, dec_t gx.2, iteF ?_⟩⟩
      exact ⟨s1.trans (Same.new hU), _, _, _, _, _, rfl⟩
    obtain ⟨s1, y5, y6, y7, y8, y9, rfl⟩ := hP
    have A1 := A.same s1
    refine sq_no (fun H2 => H2 = H1) (fun Q k => ?_) (fun H2 e => ?_)
    · refine ⟨_, rfl, cl, _, rfl, .inr A1.hcl, _, _, rfl, rfl, false, ?_, k H1 rfl⟩
      rw [lq]
      exact dec_f (show ¬ ((24 : Int) < (B.claims.length : Int)) by omega)
    subst e
    refine last_for ?_
    refine sq_forET (xs := ts.map V.ref) (fun Q k => ⟨_, rfl, k⟩) A1.hcl
      (fun i σ' H3 => Same H' H3 ∧ ∃ y5 y6 y7 y8 y9, σ' = [some (.ref b), some (.ref ca), some (.ref cl), some (.int (B.cash.length : Int)), y5, y6, y7, y8, y9]) ⟨s1, _, _, _, _, _, rfl⟩ (fun i σ' H3 _ hP => Same.tup hP.1 A.hcl) (fun i x U σ' H3 hx hP hU => ?_) (fun σ' H3 hP => ?_)
    · obtain ⟨s3, y5, y6, y7, y8, y9, rfl⟩ := hP
      obtain ⟨t, rfl, ht⟩ := map_ref_get hx
      have hi : i < B.claims.length := by
        rw [← A.hq.1]
        exact (List.getElem?_eq_some_iff.mp ht).1
      have hq := A.hq.2 i t _ ht (Bk.clm_get hi)
      have s4 := s3.trans (Same.new hU (o := .tup [.int (i : Int), .ref t]))
      refine ⟨U, _, rfl, st_of upd_same, rfl, _, _, rfl, _, _, rfl, rfl, ?_⟩
      refine sq_val .non (fun Q k => ⟨_, rfl, _, rfl, t, _, B.clm i, rfl, Same.tup s4 hq, G.clm hi, k⟩) ?_
      exact ⟨_, rfl, rfl, _, rfl, iteF ⟨s4, _, _, _, _, _, rfl⟩⟩
    · exact k H3 hP.1
end


end Rf
namespace Rf
open PySem PySem.Spec PyProof.Rows L2
/-! ### tuples cut and joined -/
theorem slA_of {K : PySem.W.Frag} {H : Hp} {a : Addr} {xs : List V} {lo hi : Option Int} {Q : VK} (h : SqT K H a xs) (k : ∀ p H', Same H H' → SqT K H' p (cutV xs lo hi) → Q (.ref p) H') : rSlA K (.ref a) lo hi H Q := by
  refine ⟨a, xs, rfl, h, fun e => k a H (fun _ _ z => z) ?_, fun _ p np => k p _ (Same.new np) (st_of upd_same)⟩
  have e2 : cutV xs lo hi = xs := by
    unfold cutV
    rw [e.1, e.2, List.drop_zero, Nat.sub_zero, List.take_length]
  rw [e2]
  exact h
theorem catA_of {K : PySem.W.Frag} {H : Hp} {a b : Addr} {xs ys : List V} {Q : VK} (h1 : SqT K H a xs) (h2 : SqT K H b ys) (hl : xs.length + ys.length ≤ sizeLine) (k : ∀ p H', Same H H' → SqT K H' p (xs ++ ys) → Q (.ref p) H') : rCatA K (.ref a) (.ref b) H Q := by
  refine ⟨a, b, xs, ys, rfl, rfl, h1, h2, hl, fun e => k b H (fun _ _ z => z) ?_, fun _ e => k a H (fun _ _ z => z) ?_, fun _ _ p np => k p _ (Same.new np) (st_of upd_same)⟩
  · rw [e]
    exact h2
  · rw [e, List.append_nil]
    exact h1
theorem cut_front {l : List Int} {j : Nat} (h : j < l.length) : cutV (l.map V.int) none (some (j : Int)) = (l.take j).map V.int := by
  unfold cutV
  rw [List.length_map]
  have e1 : HT.sIx l.length 0 none = 0 := rfl
  have e2 : HT.sIx l.length l.length (some (j : Int)) = j := by
    rw [HT.sIx_nat]
    omega
  rw [e1, e2, List.drop_zero, Nat.sub_zero, List.map_take]
theorem cut_rest {l : List Int} {j : Nat} (h : j < l.length) : cutV (l.map V.int) (some ((j : Int) + 1)) none = (l.drop (j + 1)).map V.int := by
  unfold cutV
  rw [List.length_map]
  have e1 : HT.sIx l.length 0 (some ((j : Int) + 1)) = j + 1 := by
    show HT.sIx l.length 0 (some ((j + 1 : Nat) : Int)) = j + 1
    rw [HT.sIx_nat]
    omega
  have e2 : HT.sIx l.length l.length none = l.length := rfl
  rw [e1, e2, List.take_of_length_le (by rw [List.length_drop, List.length_map]; exact Nat.le_refl _), List.map_drop]
theorem set_parts {l : List Int} {j : Nat} {c : Int} (h : j < l.length) : l.take j ++ [c] ++ l.drop (j + 1) = l.set j c := by
  rw [List.set_eq_take_append_cons_drop, if_pos h, List.append_assoc]
  rfl
/-- the book where a house has other coins -/
def withC (B : Bk) (x : Int) (c : Int) : Bk := ⟨B.cash.set x.toNat c, B.claims⟩
theorem withC_good {B : Bk} (G : Good B) {x c : Int} (c0 : 0 ≤ c) (c1 : c ≤ 999) : Good (withC B x c) := by
  have hl : (withC B x c).cash.length = B.cash.length := List.length_set ..
  refine ⟨by rw [hl]; exact G.n0, by rw [hl]; exact G.n1, fun y hy => ?_, G.m1, fun q hq => by rw [hl]; exact G.claims q hq⟩
  rcases List.mem_or_eq_of_mem_set hy with h | h
  · exact Good.cash G y h
  · rw [h]
    exact ⟨c0, by omega⟩
theorem withC_cash {B : Bk} {x c : Int} (h : ∀ y ∈ B.cash, 0 ≤ y ∧ y ≤ 999) (c0 : 0 ≤ c) (c1 : c ≤ 999) : ∀ y ∈ (withC B x c).cash, 0 ≤ y ∧ y ≤ 999 := fun y hy => by
  rcases List.mem_or_eq_of_mem_set hy with h2 | h2
  · exact h y h2
  · rw [h2]
    exact ⟨c0, c1⟩
theorem cutV_take {l : List V} {j : Nat} (h : j ≤ l.length) : cutV l none (some (j : Int)) = l.take j := by
  unfold cutV
  rw [HT.sIx_nat, HT.sIx_none, List.drop_zero, Nat.sub_zero, Nat.min_eq_left h]
theorem cutV_drop {l : List V} {j : Nat} (h : j ≤ l.length) : cutV l (some (j : Int)) none = l.drop j := by
  unfold cutV
  rw [HT.sIx_nat, HT.sIx_none, Nat.min_eq_left h, List.take_of_length_le (by rw [List.length_drop]; exact Nat.le_refl _)]


end Rf
namespace Rf
open PySem PySem.Spec PyProof.Rows L2
/-! ### books that are none -/
def badHs (n : Int) (q : Clm) : Prop := ¬ ((0 ≤ q.d ∧ q.d < n) ∧ (0 ≤ q.c ∧ q.c < n)) ∨ q.d = q.c
instance (n : Int) (q : Clm) : Decidable (badHs n q) := inferInstanceAs (Decidable (_ ∨ _))
def outOf (lo hi x : Int) : Prop := ¬ (lo ≤ x ∧ x ≤ hi)
instance (lo hi x : Int) : Decidable (outOf lo hi x) := inferInstanceAs (Decidable (¬ _))
def wrongClm (n : Int) (q : Clm) : Option Str := if badHs n q then some "house" else if outOf 1 999 q.a then some "amount" else if outOf 1 9 q.r then some "rank" else none
theorem outOf_not {lo hi x : Int} (c : lo ≤ x) : (!decide (x ≤ hi)) = decide (outOf lo hi x) := by
  rw [← decide_not]
  exact decide_eq_decide.mpr ⟨fun z y => z y.2, fun z y => z ⟨c, y⟩⟩
theorem wrong_none {n : Int} {q : Clm} : wrongClm n q = none ↔ GoodC n q := by
  unfold wrongClm
  constructor
  · intro h
    split at h
    · cases h
    · split at h
      · cases h
      · split at h
        · cases h
        · rename_i h1 h2 h3
          unfold badHs at h1
          unfold outOf at h2 h3
          have e1 : (0 ≤ q.d ∧ q.d < n) ∧ (0 ≤ q.c ∧ q.c < n) := Classical.byContradiction fun z => h1 (.inl z)
          have e2 : q.d ≠ q.c := fun z => h1 (.inr z)
          exact ⟨e1.1.1, e1.1.2, e1.2.1, e1.2.2, e2, by omega, by omega, by omega, by omega⟩
  · intro G
    have h1 : ¬ badHs n q := fun z => by
      rcases z with z | z
      · exact z ⟨⟨G.d0, G.d1⟩, G.c0, G.c1⟩
      · exact G.ne z
    have h2 : ¬ outOf 1 999 q.a := fun z => z ⟨G.a0, G.a1⟩
    have h3 : ¬ outOf 1 9 q.r := fun z => z ⟨G.r0, G.r1⟩
    rw [if_neg h1, if_neg h2, if_neg h3]
theorem wrong_short {n : Int} {q : Clm} {w : Str} (h : wrongClm n q = some w) : w.length ≤ 20 := by
  unfold wrongClm at h
  split at h
  · cases h; decide +kernel
  · split at h
    · cases h; decide +kernel
    · split at h
      · cases h; decide +kernel
      · cases h
structure Counted (B : Bk) : Prop where
  n0 : 1 ≤ B.cash.length
  n1 : B.cash.length ≤ 8
structure Cashed (B : Bk) : Prop extends Counted B where
  cash : ∀ j, j < B.cash.length → 0 ≤ g B.cash j ∧ g B.cash j ≤ 999
inductive Wrong (B : Bk) : Int → Str → Prop
  | houses (h : ¬ (1 ≤ B.cash.length ∧ B.cash.length ≤ 8)) : Wrong B 0 "houses"
  | cash (i : Nat) (c : Counted B) (hi : i < B.cash.length) (ok : ∀ j, j < i → 0 ≤ g B.cash j ∧ g B.cash j ≤ 999) (h : ¬ (0 ≤ g B.cash i ∧ g B.cash i ≤ 999)) : Wrong B (i : Int) "cash"
  | claims (c : Cashed B) (h : 24 < B.claims.length) : Wrong B 0 "claims"
  | claim (k : Nat) (w : Str) (c : Cashed B) (m : B.claims.length ≤ 24) (hk : k < B.claims.length) (ok : ∀ j, j < k → GoodC (B.cash.length : Int) (B.clm j)) (h : wrongClm (B.cash.length : Int) (B.clm k) = some w) : Wrong B (k : Int) w
theorem Wrong.small {B : Bk} {n : Int} {w : Str} (h : Wrong B n w) : 0 ≤ n ∧ n < 1000 ∧ w.length ≤ 20 := by
  cases h with
  | houses h => exact ⟨by decide, by decide, by decide +kernel⟩
  | cash i c hi ok h => exact ⟨by omega, by have := c.n1; omega, by decide +kernel⟩
  | claims c h => exact ⟨by decide, by decide, by decide +kernel⟩
  | claim k w c m hk ok h => exact ⟨by omega, by omega, wrong_short h⟩
/-- a bad book is handed in first, and n things behind it -/
def spBad (K : PySem.W.Frag) (C : Addr) (m : Nat) : Sp := fun vs H _ E => ∃ (b ca cl : Addr) (ts : List Addr) (B : Bk) (n : Int) (y : Str) (xs : List V), vs = .ref b :: xs ∧ xs.length = m ∧ BookAt K H b ca cl ts B ∧ Wrong B n y ∧
  ∀ d H', Same H H' → H d = none → H' d = some (.xd [("why", .str y), ("at", .int n)]) → E (.ref C) (some d) H'
def wrongV : Option Str → V
  | none => .non
  | some w => .str w
def spWrongV (K : PySem.W.Frag) : Sp := fun vs H Q _ => ∃ (t : Addr) (n : Int) (q : Clm), vs = [.ref t, .int n] ∧ SqT K H t [.int q.d, .int q.c, .int q.a, .int q.r] ∧ Q (wrongV (wrongClm n q)) H
section
variable {P : Program} {w : World} {K : PySem.W.Frag} {mg : Str → Option Value} {base : Heap}
theorem ok_wrongV {f : Addr} {fd : FuncData} (D : DefAt K mg "_wrong_in_claim" s_wrong ["claim", "houses"] f fd) (L : Lims mg) : FnOk P w K mg base CX0 1 f fd ["claim", "houses"] (spWrongV K) := by
  obtain ⟨t1, m_MOST_AMOUNT⟩ := L.amount
  obtain ⟨t2, m_MOST_RANK⟩ := L.rank
  refine D.F.ok sc_wrong (fun vs H Q E h => ?_) (fun cdv A outer s H vs Q E hr h => ?_)
  · obtain ⟨t, n, q, rfl, _⟩ := h
    rfl
  · obtain ⟨t, n, q, rfl, ht, k⟩ := h
    refine ⟨_, pss_cons (ps_asg (pv 0) (pg_tup rfl (pgs_cons (pg_name (i := 2) sc_wrong.nd rfl (.inl rfl)) (pgs_cons (pg_name (i := 3) sc_wrong.nd rfl (.inl rfl)) (pgs_cons (pg_name (i := 4) sc_wrong.nd rfl (.inl rfl)) (pgs_cons (pg_name (i := 5) sc_wrong.nd rfl (.inl rfl)) pgs_nil))))))
        (pss_cons (ps_if (PW.pt (pw_or (pt_not (PW.pt (pw_and (pt_chain op_le op_lt pe_int (pv 2) (pv 1)) (pw_and1 (pt_chain op_le op_lt pe_int (pv 3) (pv 1)))))) (pw_or1 (pt_cmpR op_eq (pv 2) (pv 3) (nomark _))))) (pss_one (ps_ret pe_str)) pss_nil)
        (pss_cons (ps_if (pt_not (pt_chain op_le op_le pe_int (pv 4) (pe_glob (v := .int 999) (by rfl) m_MOST_AMOUNT ⟨_, rfl⟩))) (pss_one (ps_ret pe_str)) pss_nil)
        (pss_cons (ps_if (pt_not (pt_chain op_le op_le pe_int (pv 5) (pe_glob (v := .int 9) (by rfl) m_MOST_RANK ⟨_, rfl⟩))) (pss_one (ps_ret pe_str)) pss_nil)
        (pss_one (ps_ret pe_non))))), ?_⟩
    refine sq_tup4 (fun Q k => ⟨_, rfl, k⟩) ht ?_
    unfold wrongClm at k
    refine sq_whenP (p := badHs n q) (fun Q k => ?_) (fun hb => ?_) (fun hb => ?_)
    · by_cases c1 : 0 ≤ q.d
      · by_cases c2 : q.d < n
        · by_cases c3 : 0 ≤ q.c
          · by_cases c4 : q.c < n
            · refine ⟨_, rfl, _, _, rfl, rfl, true, dec_t c1, iteT ⟨_, rfl, _, _, rfl, rfl, true, dec_t c2, iteT ⟨_, rfl, _, _, rfl, rfl, true, dec_t c3, iteT ⟨_, rfl, _, _, rfl, rfl, true, dec_t c4, iteF ⟨_, rfl, _, rfl, rfl, ?_⟩⟩⟩⟩⟩
              have e : decide (V.int q.d = V.int q.c) = decide (badHs n q) := by
                rw [dec_vint]
                exact decide_eq_decide.mpr ⟨fun z => .inr z, fun z => z.resolve_left fun z2 => z2 ⟨⟨c1, c2⟩, c3, c4⟩⟩
              rw [e]
              exact ⟨_, rfl, k⟩
            · rw [decide_eq_true (show badHs n q from .inl fun z => c4 z.2.2)] at k
              exact ⟨_, rfl, _, _, rfl, rfl, true, dec_t c1, iteT ⟨_, rfl, _, _, rfl, rfl, true, dec_t c2, iteT ⟨_, rfl, _, _, rfl, rfl, true, dec_t c3, iteT ⟨_, rfl, _, _, rfl, rfl, false, dec_f c4, iteT k⟩⟩⟩⟩
          · rw [decide_eq_true (show badHs n q from .inl fun z => c3 z.2.1)] at k
            exact ⟨_, rfl, _, _, rfl, rfl, true, dec_t c1, iteT ⟨_, rfl, _, _, rfl, rfl, true, dec_t c2, iteT ⟨_, rfl, _, _, rfl, rfl, false, dec_f c3, iteF ⟨_, rfl, iteT k⟩⟩⟩⟩
        · rw [decide_eq_true (show badHs n q from .inl fun z => c2 z.1.2)] at k
          exact ⟨_, rfl, _, _, rfl, rfl, true, dec_t c1, iteT ⟨_, rfl, _, _, rfl, rfl, false, dec_f c2, iteF (iteT k)⟩⟩
      · rw [decide_eq_true (show badHs n q from .inl fun z => c1 z.1.1)] at k
        exact ⟨_, rfl, _, _, rfl, rfl, false, dec_f c1, iteF ⟨_, rfl, iteF (iteT k)⟩⟩
    · rw [if_pos hb] at k
      exact k
    rw [if_neg hb] at k
    refine sq_whenP (p := outOf 1 999 q.a) (fun Q k => ?_) (fun hb => ?_) (fun hb => ?_)
    · by_cases c1 : 1 ≤ q.a
      · refine ⟨_, rfl, _, _, rfl, rfl, true, dec_t c1, iteT ⟨_, _, rfl, rfl, _, rfl, ?_⟩⟩
        show Q (!decide (q.a ≤ 999)) H
        rw [outOf_not c1]
        exact k
      · rw [decide_eq_true (show outOf 1 999 q.a from fun z => c1 z.1)] at k
        exact ⟨_, rfl, _, _, rfl, rfl, false, dec_f c1, iteF ⟨_, rfl, k⟩⟩
    · rw [if_pos hb] at k
      exact k
    rw [if_neg hb] at k
    refine sq_whenP (p := outOf 1 9 q.r) (fun Q k => ?_) (fun hb => ?_) (fun hb => ?_)
    · by_cases c1 : 1 ≤ q.r
      · refine ⟨_, rfl, _, _, rfl, rfl, true, dec_t c1, iteT ⟨_, _, rfl, rfl, _, rfl, ?_⟩⟩
        show Q (!decide (q.r ≤ 9)) H
        rw [outOf_not c1]
        exact k
      · rw [decide_eq_true (show outOf 1 9 q.r from fun z => c1 z.1)] at k
        exact ⟨_, rfl, _, _, rfl, rfl, false, dec_f c1, iteF ⟨_, rfl, k⟩⟩
    · rw [if_pos hb] at k
      exact k
    rw [if_neg hb] at k
    exact k
theorem ok_needB {f : Addr} {fd : FuncData} (D : DefAt K mg "need_book" s_need ["book"] f fd) (L : Lims mg) (m_len : mg "len" = none) (m_enumerate : mg "enumerate" = none)
    {f1 : Addr} {fd1 : FuncData} (D_wrong : DefAt K mg "_wrong_in_claim" s_wrong ["claim", "houses"] f1 fd1)
    {C fi cc cda : Addr} {fdi : FuncData} (X_BadBook : InitAt P K mg "BadBook" C fi cc cda fdi "BadBook.__init__" s_bbinit ["self", "at", "why"]) (hat : PySem.W.findIn K (.ref C) "at" = some none) (hwhy : PySem.W.findIn K (.ref C) "why" = some none) : FnOk P w K mg base (L2.CX P w) 4 f fd ["book"] (spBad K C 0) := by
  have G_wrong : FnOk P w K mg base CX0 1 f1 fd1 ["claim", "houses"] (spWrongV K) := ok_wrongV D_wrong L
  have G_bbinit : FnOk P w K mg base CX0 1 fi fdi ["self", "at", "why"] (spBB C) := ok_bbinit X_BadBook hat hwhy
  obtain ⟨t1, m_MOST_HOUSES⟩ := L.houses
  obtain ⟨t2, m_MOST_CASH⟩ := L.cash
  obtain ⟨t3, m_MOST_CLAIMS⟩ := L.claims
  refine D.F.okX sc_need (fun vs H Q E h => ?_) (fun cdv A outer s H vs Q E hr h => ?_)
  · obtain ⟨b, ca, cl, ts, B, n, y, xs, rfl, hx, _⟩ := h
    rw [List.length_cons, hx]
    rfl
  · obtain ⟨b, ca, cl, ts, B, n, y, xs, rfl, hx, A, hW, k⟩ := h
    obtain rfl : xs = [] := List.eq_nil_of_length_eq_zero hx
    have lc : (B.cash.map V.int).length = B.cash.length := List.length_map _
    have lq : (ts.map V.ref).length = B.claims.length := by rw [List.length_map, A.hq.1]
    have kk : ∀ {H1 : Hp}, Same H H1 → ∀ d, H1 d = none → E (.ref C) (some d) (upd H1 d (.xd [("why", .str y), ("at", .int n)])) := fun s d nd => k d _ (s.trans (Same.new nd)) (s.free nd) upd_same
    obtain ⟨hn0, hn1, hy⟩ := hW.small
    refine ⟨_, pss_cons (ps_asg (pv 0) (pg_tup rfl (pgs_cons (pg_name (i := 1) sc_need.nd rfl (.inl rfl)) (pgs_cons (pg_name (i := 2) sc_need.nd rfl (.inl rfl)) pgs_nil))))
        (pss_cons (ps_set (i := 3) sc_need.nd rfl (.inl rfl) (pe_callB (r := rLen K) call_len (by rfl) m_len (by decide +kernel) (pa_cons (pv 1) pa_nil)))
        (pss_cons (ps_if (pt_not (pt_chain op_le op_le pe_int (pv 3) (pe_glob (v := .int 8) (by rfl) m_MOST_HOUSES ⟨_, rfl⟩))) (pss_one (ps_raise rfl (takes_of rfl rfl rfl rfl) (pmk_oex X_BadBook.T X_BadBook.iC X_BadBook.tI G_bbinit (hr.mono (by decide)) X_BadBook.b .nil pass0 (by rfl) X_BadBook.gC (pa_cons pe_int (pa_cons pe_str pa_nil))))) pss_nil)
        (pss_cons (ps_for (passes_of rfl) rfl (pi_enumT (by rfl) m_enumerate (pa_cons (pv 1) pa_nil)) (pg_tup rfl (pgs_cons (pg_name (i := 4) sc_need.nd rfl (.inl rfl)) (pgs_cons (pg_name (i := 5) sc_need.nd rfl (.inl rfl)) pgs_nil))) (pss_one (ps_if (pt_not (pt_chain op_le op_le pe_int (pv 5) (pe_glob (v := .int 999) (by rfl) m_MOST_CASH ⟨_, rfl⟩))) (pss_one (ps_raise rfl (takes_of rfl rfl rfl rfl) (pmk_oex X_BadBook.T X_BadBook.iC X_BadBook.tI G_bbinit (hr.mono (by decide)) X_BadBook.b .nil pass0 (by rfl) X_BadBook.gC (pa_cons (pv 4) (pa_cons pe_str pa_nil))))) pss_nil)))
        (pss_cons (ps_if (pt_cmpR op_gt (pe_callB (r := rLen K) call_len (by rfl) m_len (by decide +kernel) (pa_cons (pv 2) pa_nil)) (pe_glob (v := .int 24) (by rfl) m_MOST_CLAIMS ⟨_, rfl⟩) (nomark _)) (pss_one (ps_raise rfl (takes_of rfl rfl rfl rfl) (pmk_oex X_BadBook.T X_BadBook.iC X_BadBook.tI G_bbinit (hr.mono (by decide)) X_BadBook.b .nil pass0 (by rfl) X_BadBook.gC (pa_cons pe_int (pa_cons pe_str pa_nil))))) pss_nil)
        (pss_one (ps_for (passes_of rfl) rfl (pi_enumT (by rfl) m_enumerate (pa_cons (pv 2) pa_nil)) (pg_tup rfl (pgs_cons (pg_name (i := 6) sc_need.nd rfl (.inl rfl)) (pgs_cons (pg_name (i := 7) sc_need.nd rfl (.inl rfl)) pgs_nil))) (pss_cons (ps_set (i := 8) sc_need.nd rfl (.inl rfl) (pe_call G_wrong (hr.mono (by decide)) (by rfl) D_wrong.g D_wrong.F.kp D_wrong.b .nil pass0 (pa_cons (pv 7) (pa_cons (pv 3) pa_nil))))
          (pss_one (ps_if (pt_cmpR op_notN (pv 8) pe_non (nomark _)) (pss_one (ps_raise rfl (takes_of rfl rfl rfl rfl) (pmk_oex X_BadBook.T X_BadBook.iC X_BadBook.tI G_bbinit (hr.mono (by decide)) X_BadBook.b .nil pass0 (by rfl) X_BadBook.gC (pa_cons (pv 6) (pa_cons (pv 8) pa_nil))))) pss_nil))))))))), ?_⟩
    refine sq_tup2 (fun Q k => ⟨_, rfl, k⟩) A.hb ?_
    refine sq_val (.int (B.cash.length : Int)) (fun Q k => ⟨_, rfl, ca, _, rfl, .inr A.hca, by rw [lc]; exact k⟩) ?_
    refine sq_whenP (p := outOf 1 8 (B.cash.length : Int)) (fun Q k => ?_) (fun hb => ?_) (fun hb => ?_)
    · by_cases c1 : (1 : Int) ≤ (B.cash.length : Int)
      · refine ⟨_, rfl, _, _, rfl, rfl, true, dec_t c1, iteT ⟨_, _, rfl, rfl, _, rfl, ?_⟩⟩
        show Q (!decide ((B.cash.length : Int) ≤ 8)) H
        rw [outOf_not c1]
        exact k
      · rw [decide_eq_true (show outOf 1 8 (B.cash.length : Int) from fun z => c1 z.1)] at k
        exact ⟨_, rfl, _, _, rfl, rfl, false, dec_f c1, iteF ⟨_, rfl, k⟩⟩
    · cases hW with
      | houses h => exact raise_bb hn0 hn1 hy (kk (Same.refl H))
      | cash i c hi ok h => exact absurd (show 1 ≤ (B.cash.length : Int) ∧ (B.cash.length : Int) ≤ 8 by have := c.n0; have := c.n1; omega) hb
      | claims c h => exact absurd (show 1 ≤ (B.cash.length : Int) ∧ (B.cash.length : Int) ≤ 8 by have := c.n0; have := c.n1; omega) hb
      | claim q w c m hk ok h => exact absurd (show 1 ≤ (B.cash.length : Int) ∧ (B.cash.length : Int) ≤ 8 by have := c.n0; have := c.n1; omega) hb
    have hC : Counted B := by
      have : 1 ≤ (B.cash.length : Int) ∧ (B.cash.length : Int) ≤ 8 := Classical.byContradiction fun z => hb z
      exact ⟨by omega, by omega⟩
    have hcn := hC.n1
    refine sq_forET (xs := B.cash.map V.int) (fun Q k => ⟨_, rfl, k⟩) A.hca
      (fun i σ' H1 => Same H H1 ∧ (∀ j, j < i → 0 ≤ g B.cash j ∧ g B.cash j ≤ 999) ∧ ∃ y5 y6 y7 y8 y9, σ' = [some (.ref b), some (.ref ca), some (.ref cl), some (.int (B.cash.length : Int)), y5, y6, y7, y8, y9]) ⟨Same.refl _, fun j hj => absurd hj (Nat.not_lt_zero _), none, none, none, none, none, rfl⟩ (fun i σ' H1 _ hP => Same.tup hP.1 A.hca) (fun i x U σ' H1 hx hP hU => ?_) (fun σ' H1 hP => ?_)
    · obtain ⟨s1, hpre, y5, y6, y7, y8, y9, rfl⟩ := hP
      obtain ⟨rfl, hi⟩ := map_int_get hx
      refine ⟨U, _, rfl, st_of upd_same, rfl, _, _, rfl, _, _, rfl, rfl, ?_⟩
      have s2 := s1.trans (Same.new hU (o := .tup [.int (i : Int), .int (g B.cash i)]))
      generalize upd H1 U (.tup [.int (i : Int), .int (g B.cash i)]) = H2 at s2 ⊢
      refine if_ifP (p := outOf 0 999 (g B.cash i)) (fun Q k => ?_) (fun hb2 => ?_) (fun hb2 => ?_)
      · by_cases c1 : (0 : Int) ≤ g B.cash i
        · refine ⟨_, rfl, _, _, rfl, rfl, true, dec_t c1, iteT ⟨_, _, rfl, rfl, _, rfl, ?_⟩⟩
          show Q (!decide (g B.cash i ≤ 999)) H2
          rw [outOf_not c1]
          exact k
        · rw [decide_eq_true (show outOf 0 999 (g B.cash i) from fun z => c1 z.1)] at k
          exact ⟨_, rfl, _, _, rfl, rfl, false, dec_f c1, iteF ⟨_, rfl, k⟩⟩
      · cases hW with
        | houses h => exact absurd ⟨hC.n0, hC.n1⟩ h
        | cash i0 c hi0 ok h =>
          have : i0 = i := by
            rcases Nat.lt_trichotomy i0 i with z | z | z
            · exact absurd (hpre _ z) h
            · exact z
            · exact absurd (ok _ z) hb2
          subst this
          exact ⟨_, rfl, raise_bb hn0 hn1 hy (kk s2)⟩
        | claims c h => exact absurd (c.cash i hi) hb2
        | claim q w c m hk ok h => exact absurd (c.cash i hi) hb2
      · refine sq_nx ⟨s2, fun j hj => ?_, _, _, _, _, _, rfl⟩
        by_cases e : j < i
        · exact hpre j e
        · have : j = i := by omega
          subst this
          exact Classical.byContradiction fun z => hb2 z
    obtain ⟨s1, hpre, y5, y6, y7, y8, y9, rfl⟩ := hP
    rw [lc] at hpre
    have hC2 : Cashed B := ⟨hC, hpre⟩
    have A1 := A.same s1
    refine sq_whenP (p := (24 : Int) < (B.claims.length : Int)) (fun Q k => ⟨_, rfl, cl, _, rfl, .inr A1.hcl, _, _, rfl, rfl, _, rfl, by rw [lq]; exact k⟩) (fun hb2 => ?_) (fun hb2 => ?_)
    · cases hW with
      | houses h => exact absurd ⟨hC.n0, hC.n1⟩ h
      | cash i0 c hi0 ok h => exact absurd (hpre _ hi0) h
      | claims c h => exact raise_bb hn0 hn1 hy (kk s1)
      | claim q w c m hk ok h => exact absurd m (by omega)
    refine last_for ?_
    refine sq_forET (xs := ts.map V.ref) (fun Q k => ⟨_, rfl, k⟩) A1.hcl
      (fun i σ' H3 => Same H H3 ∧ (∀ j, j < i → GoodC (B.cash.length : Int) (B.clm j)) ∧ ∃ y5 y6 y7 y8 y9, σ' = [some (.ref b), some (.ref ca), some (.ref cl), some (.int (B.cash.length : Int)), y5, y6, y7, y8, y9]) ⟨s1, fun j hj => absurd hj (Nat.not_lt_zero _), _, _, _, _, _, rfl⟩ (fun i σ' H3 _ hP => Same.tup hP.1 A.hcl) (fun i x U σ' H3 hx hP hU => ?_) (fun σ' H3 hP => ?_)
    · obtain ⟨s3, hok, y5, y6, y7, y8, y9, rfl⟩ := hP
      obtain ⟨t, rfl, ht⟩ := map_ref_get hx
      have hi : i < B.claims.length := by
        rw [← A.hq.1]
        exact (List.getElem?_eq_some_iff.mp ht).1
      have hq := A.hq.2 i t _ ht (Bk.clm_get hi)
      have s4 := s3.trans (Same.new hU (o := .tup [.int (i : Int), .ref t]))
      refine ⟨U, _, rfl, st_of upd_same, rfl, _, _, rfl, _, _, rfl, rfl, ?_⟩
      generalize upd H3 U (.tup [.int (i : Int), .ref t]) = H4 at s4 ⊢
      refine sq_val (wrongV (wrongClm (B.cash.length : Int) (B.clm i))) (fun Q k => ⟨_, rfl, _, rfl, t, _, B.clm i, rfl, Same.tup s4 hq, k⟩) ?_
      cases e : wrongClm (B.cash.length : Int) (B.clm i) with
      | none =>
        refine ⟨_, rfl, rfl, _, rfl, iteF ⟨s4, fun j hj => ?_, _, _, _, _, _, rfl⟩⟩
        by_cases e2 : j < i
        · exact hok j e2
        · have : j = i := by omega
          subst this
          exact wrong_none.mp e
      | some w =>
        refine ⟨_, rfl, rfl, _, rfl, iteT ?_⟩
        cases hW with
        | houses h => exact absurd ⟨hC.n0, hC.n1⟩ h
        | cash i0 c hi0 ok h => exact absurd (hpre _ hi0) h
        | claims c h => exact absurd h (by omega)
        | claim q w2 c m hk ok h =>
          have : q = i := by
            rcases Nat.lt_trichotomy q i with z | z | z
            · rw [wrong_none.mpr (hok _ z)] at h
              cases h
            · exact z
            · rw [wrong_none.mpr (ok _ z)] at e
              cases e
          subst this
          rw [e] at h
          cases h
          exact ⟨_, rfl, _, rfl, raise_bb hn0 hn1 hy (kk s4)⟩
    · obtain ⟨s3, hok, _⟩ := hP
      rw [lq] at hok
      cases hW with
      | houses h => exact absurd ⟨hC.n0, hC.n1⟩ h
      | cash i0 c hi0 ok h => exact absurd (hpre _ hi0) h
      | claims c h => exact absurd h (by omega)
      | claim q w2 c m hk ok h =>
        rw [wrong_none.mpr (hok _ hk)] at h
        cases h
end


end Rf
namespace Rf
open PySem PySem.Spec PyProof.Rows L2
/-! ### texts: the program -/
structure LimsT (mg : Str → Option Value) : Prop where
  figures : ∃ t, mg "FIGURES" = some (.str "0123456789" t)
  most : ∃ t, mg "MOST_FIGURES" = some (.int 9 t)
/-- for c in a text -/
theorem sq_forS {te : TE} {g : TG} {tu : TS} {D : Ends} {σ : L2.St} {H : Hp} {z : Str} (h : ∀ Q : VK, Q (.str z) H → te σ H Q) (Pv : Nat → L2.St → Hp → Prop) (h0 : Pv 0 σ H)
    (hs : ∀ i c σ' H', (TL.tl z)[i]? = some c → Pv i σ' H' → g (.str ⟨#[c]⟩) σ' H' fun σ2 H2 => tu { D with nx := Pv (i + 1), ct := Pv (i + 1), bk := D.nx } σ2 H2) (hd : ∀ σ' H', Pv z.cps.size σ' H' → D.nx σ' H') : tFor (iStr te) g tu D σ H :=
  h _ ⟨z, rfl, for_it walk_str Pv h0 (fun _ _ _ _ _ => trivial) (fun i x σ' H' H2 hi p y => by
    obtain ⟨rfl, c, hc, rfl⟩ := y
    exact hs i c σ' H2 (by rw [TL.tl, Array.getElem?_toList]; exact hc) p) hd⟩
theorem slQ_up {K : PySem.W.Frag} {σ : L2.St} {H : Hp} {a : Addr} {xs : List V} {lo : Option Int} {Q : VK} (h : SqL K H a xs) (k : ∀ p, H p = none → Q (.ref p) (upd H p (.lst (cutV xs lo none)))) : tNoPart σ H fun u H3 => rSlL K (.ref a) lo u H3 Q := ⟨a, xs, rfl, h, k⟩
def Small3 (x : Int) : Prop := 0 ≤ x ∧ x < 1000
def spAreNum (K : PySem.W.Frag) : Sp := fun vs H Q _ => ∃ (l : Addr) (xs : List Int), vs = [.ref l] ∧ SqL K H l ((xs.map nS).map V.str) ∧ (∀ x ∈ xs, Small3 x) ∧ Q (.bl true) H
section
variable {P : Program} {w : World} {K : PySem.W.Frag} {mg : Str → Option Value} {base : Heap}
theorem sc_arenum : FnScope ["words", "word", "letter"] ["words"] (defScope s_arenum) := ⟨rfl, rfl, rfl, by decide +kernel, rfl, by decide +kernel, by decide +kernel⟩
/- 0:words 1:word 2:letter -/
theorem ok_arenum {f : Addr} {fd : FuncData} (D : DefAt K mg "_are_numbers" s_arenum ["words"] f fd) (LT : LimsT mg) (m_len : mg "len" = none) : FnOk P w K mg base CX0 1 f fd ["words"] (spAreNum K) := by
  obtain ⟨t1, m_FIGURES⟩ := LT.figures
  obtain ⟨t2, m_MOST_FIGURES⟩ := LT.most
  refine D.F.ok sc_arenum (fun vs H Q E h => ?_) (fun cdv A outer s H vs Q E hr h => ?_)
  · obtain ⟨l, xs, rfl, _⟩ := h
    rfl
  · obtain ⟨l, xs, rfl, hl, hx, k⟩ := h
    refine ⟨_, pss_cons (ps_for PassesOwn.never rfl (pi_list (pv 0)) (pg_name (i := 1) sc_arenum.nd rfl (.inl rfl)) (pss_cons (ps_if (PW.pt (pw_or (pt_not (pt_chain op_le op_le pe_int (pe_callB call_len_str (by rfl) m_len (by decide +kernel) (pa_cons (pv 1) pa_nil)) (pe_glob (v := .int 9) (by rfl) m_MOST_FIGURES ⟨_, rfl⟩))) (pw_or1 (PW.pt (pw_and (pt_cmpR op_eq (pe_ix (r := rIxS) ix_str (pv 1) pe_int (fun _ _ => rfl)) pe_str (nomark _)) (pw_and1 (pt_cmpR op_ne (pv 1) pe_str (nomark _)))))))) (pss_one (ps_ret pe_bl)) pss_nil)
          (pss_one (ps_for PassesOwn.never rfl (pi_str (pv 1)) (pg_name (i := 2) sc_arenum.nd rfl (.inl rfl)) (pss_one (ps_if (pt_cmpR op_notIn_sign (pv 2) (pe_glob (v := .str "0123456789") (by rfl) m_FIGURES ⟨_, rfl⟩) (by rfl)) (pss_one (ps_ret pe_bl)) pss_nil))))))
        (pss_one (ps_ret pe_bl)), ?_⟩
    refine sq_forL (xs := (xs.map nS).map V.str) (fun Q k => ⟨_, rfl, k⟩) hl (fun i σ' H' => H' = H ∧ ∃ y1 y2, σ' = [some (.ref l), y1, y2]) ⟨rfl, none, none, rfl⟩ (fun i σ' H' _ hP => by rw [hP.1]; exact hl) (fun i z σ' H' hz hP => ?_) (fun σ' H' hP => ?_)
    · obtain ⟨rfl, y1, y2, rfl⟩ := hP
      obtain ⟨x, hxm, rfl⟩ : ∃ x, x ∈ xs ∧ z = .str (nS x) := by
        rw [List.map_map, List.getElem?_map] at hz
        cases e : xs[i]? with
        | none =>
          rw [e] at hz
          cases hz
        | some x =>
          rw [e] at hz
          exact ⟨x, List.mem_of_getElem? e, (Option.some.inj hz).symm⟩
      have h0 := (hx x hxm).1
      have h1 := (hx x hxm).2
      have l1 := nS_len1 h0
      have l3 := nS_len h0 h1
      obtain ⟨c, hc, h48⟩ := nS_first h0
      refine sq_no (fun H2 => H2 = H') (fun Q k => ⟨_, rfl, nS x, rfl, sz_of (by omega), _, _, rfl, rfl, true, dec_t (show (1 : Int) ≤ ((nS x).length : Int) by omega), iteT ⟨_, _, rfl, rfl, true, dec_t (show ((nS x).length : Int) ≤ 9 by omega), iteF ⟨_, rfl, nS x, 0, c, rfl, rfl, sz_of (by omega), atI_nat (j := 0) hc, rfl, _, rfl, ?_⟩⟩⟩) (fun H2 e => ?_)
      · by_cases e : x = 0
        · subst e
          have e2 := h48.mpr rfl
          subst e2
          rw [decide_eq_true (show V.str ⟨#[48]⟩ = V.str "0" from rfl)]
          refine iteT ⟨_, rfl, rfl, _, rfl, ?_⟩
          rw [decide_eq_true (show V.str (nS 0) = V.str "0" from congrArg V.str nS_zero)]
          exact k _ rfl
        · have e2 : ¬ V.str ⟨#[c]⟩ = V.str "0" := fun z => by
            have z2 : (⟨#[c]⟩ : Str) = "0" := V.str.inj z
            have z3 : TL.tl (⟨#[c]⟩ : Str) = TL.tl ("0" : Str) := congrArg TL.tl z2
            have z4 : [c] = [48] := z3.trans (by decide +kernel)
            exact e (h48.mp (List.cons.inj z4).1)
          rw [decide_eq_false e2]
          exact iteF (k _ rfl)
      subst e
      refine sq_forS (fun Q k => ⟨_, rfl, k⟩) (fun j σ' H3 => H3 = H2 ∧ ∃ y, σ' = [some (.ref l), some (.str (nS x)), y]) ⟨rfl, y2, rfl⟩ (fun j c2 σ' H3 hc2 hP => ?_) (fun σ' H3 hP => ?_)
      · obtain ⟨rfl, y, rfl⟩ := hP
        have hm := nS_digit h0 (List.mem_of_getElem? hc2)
        refine ⟨_, rfl, c2, _, rfl, rfl, _, rfl, ?_⟩
        rw [decide_eq_true hm]
        exact iteF ⟨rfl, _, rfl⟩
      · obtain ⟨rfl, y, rfl⟩ := hP
        exact ⟨rfl, _, _, rfl⟩
    · obtain ⟨rfl, y1, y2, rfl⟩ := hP
      exact k
def spWordsNum (K : PySem.W.Frag) (V0 : List Str → Prop) : Sp := fun vs H Q _ => ∃ (l : Addr) (ws : List Str), vs = [.ref l] ∧ SqL K H l (ws.map V.str) ∧ V0 ws ∧ ∀ H', Same H H' → Q (.bl true) H'
def IsCash (ws : List Str) : Prop := ∃ xs : List Int, ws = ("cash" : Str) :: xs.map nS ∧ 1 ≤ xs.length ∧ xs.length ≤ 8 ∧ ∀ x ∈ xs, Small3 x
def IsClm (ws : List Str) : Prop := ∃ d c a r : Int, ws = [nS d, ("owes" : Str), nS c, nS a, ("at" : Str), nS r] ∧ Small3 d ∧ Small3 c ∧ Small3 a ∧ Small3 r
theorem sc_iscash : FnScope ["words"] ["words"] (defScope s_iscash) := ⟨rfl, rfl, rfl, by decide +kernel, rfl, by decide +kernel, by decide +kernel⟩
/- 0:words -/
theorem ok_iscash {f : Addr} {fd : FuncData} (D : DefAt K mg "_is_cash" s_iscash ["words"] f fd) (m_len : mg "len" = none)
    {f1 : Addr} {fd1 : FuncData} (D_arenum : DefAt K mg "_are_numbers" s_arenum ["words"] f1 fd1) (G_arenum : FnOk P w K mg base CX0 1 f1 fd1 ["words"] (spAreNum K)) : FnOk P w K mg base CX0 2 f fd ["words"] (spWordsNum K IsCash) := by
  refine D.F.ok sc_iscash (fun vs H Q E h => ?_) (fun cdv A outer s H vs Q E hr h => ?_)
  · obtain ⟨l, ws, rfl, _⟩ := h
    rfl
  · obtain ⟨l, ws, rfl, hl, ⟨xs, rfl, x1, x8, hx⟩, k⟩ := h
    have hlen : ((("cash" : Str) :: xs.map nS).map V.str).length = xs.length + 1 := by simp
    refine ⟨_, pss_one (ps_ret (pe_and (pe_cmpR op_eq (pe_ix (r := rIxL K) ix_list (pv 0) pe_int (fun _ _ => rfl)) pe_str (nomark _)) (pe_and (pe_cmpR op_gt (pe_callB (r := rLen K) call_len (by rfl) m_len (by decide +kernel) (pa_cons (pv 0) pa_nil)) pe_int (nomark _)) (pe_one (pe_call G_arenum (hr.mono (by decide)) (by rfl) D_arenum.g D_arenum.F.kp D_arenum.b .nil pass0 (pa_cons (pe_slice sl_list (pv 0) (po_some pe_int) po_none) pa_nil)))))), ?_⟩
    refine ⟨_, rfl, l, _, 0, _, rfl, rfl, hl, atI_nat (j := 0) rfl, rfl, ?_⟩
    rw [decide_eq_true (rfl : V.str "cash" = V.str "cash")]
    refine ⟨_, rfl, iteT ⟨_, rfl, l, _, rfl, .inl hl, _, _, rfl, rfl, true, dec_t (show (1 : Int) < (((("cash" : Str) :: xs.map nS).map V.str).length : Int) by rw [hlen]; omega), iteT ?_⟩⟩
    refine ⟨_, rfl, 1, rfl, slQ_up hl fun p np => ⟨p, xs, rfl, sq_of ?_, hx, k _ (Same.new np)⟩⟩
    rw [upd_same]
    exact congrArg (fun z => some (HO.lst z)) (cutV_drop (j := 1) (by rw [hlen]; omega))
theorem sc_isclaim : FnScope ["words", "debtor", "owes", "creditor", "amount", "at", "rank"] ["words"] (defScope s_isclaim) := ⟨rfl, rfl, rfl, by decide +kernel, rfl, by decide +kernel, by decide +kernel⟩
/- 0:words 1:debtor 2:owes 3:creditor 4:amount 5:at 6:rank -/
theorem ok_isclaim {f : Addr} {fd : FuncData} (D : DefAt K mg "_is_claim" s_isclaim ["words"] f fd) (m_len : mg "len" = none)
    {f1 : Addr} {fd1 : FuncData} (D_arenum : DefAt K mg "_are_numbers" s_arenum ["words"] f1 fd1) (G_arenum : FnOk P w K mg base CX0 1 f1 fd1 ["words"] (spAreNum K)) : FnOk P w K mg base CX0 2 f fd ["words"] (spWordsNum K IsClm) := by
  refine D.F.ok sc_isclaim (fun vs H Q E h => ?_) (fun cdv A outer s H vs Q E hr h => ?_)
  · obtain ⟨l, ws, rfl, _⟩ := h
    rfl
  · obtain ⟨l, ws, rfl, hl, ⟨d, c, a, r, rfl, hd, hc, ha, hr'⟩, k⟩ := h
    refine ⟨_, pss_cons (ps_if (pt_cmpR op_ne (pe_callB (r := rLen K) call_len (by rfl) m_len (by decide +kernel) (pa_cons (pv 0) pa_nil)) pe_int (nomark _)) (pss_one (ps_ret pe_bl)) pss_nil)
        (pss_cons (ps_asg (pv 0) (pg_lst rfl (pgs_cons (pg_name (i := 1) sc_isclaim.nd rfl (.inl rfl)) (pgs_cons (pg_name (i := 2) sc_isclaim.nd rfl (.inl rfl)) (pgs_cons (pg_name (i := 3) sc_isclaim.nd rfl (.inl rfl)) (pgs_cons (pg_name (i := 4) sc_isclaim.nd rfl (.inl rfl)) (pgs_cons (pg_name (i := 5) sc_isclaim.nd rfl (.inl rfl)) (pgs_cons (pg_name (i := 6) sc_isclaim.nd rfl (.inl rfl)) pgs_nil))))))))
        (pss_one (ps_ret (pe_and (pe_cmpR op_eq (pv 2) pe_str (nomark _)) (pe_and (pe_cmpR op_eq (pv 5) pe_str (nomark _)) (pe_one (pe_call G_arenum (hr.mono (by decide)) (by rfl) D_arenum.g D_arenum.F.kp D_arenum.b .nil pass0 (pa_cons (pe_lst (pa_cons (pv 1) (pa_cons (pv 3) (pa_cons (pv 4) (pa_cons (pv 6) pa_nil))))) pa_nil)))))))), ?_⟩
    refine sq_no (fun H2 => H2 = H) (fun Q k => ⟨_, rfl, l, _, rfl, .inl hl, rfl, _, rfl, k _ rfl⟩) (fun H2 e => ?_)
    subst e
    refine ⟨_, rfl, l, _, rfl, hl, rfl, _, _, rfl, _, _, rfl, _, _, rfl, _, _, rfl, _, _, rfl, _, _, rfl, rfl, ?_⟩
    try dsimp only
    refine ⟨_, rfl, rfl, ?_⟩
    rw [decide_eq_true (rfl : V.str "owes" = V.str "owes")]
    refine ⟨_, rfl, iteT ⟨_, rfl, rfl, ?_⟩⟩
    rw [decide_eq_true (rfl : V.str "at" = V.str "at")]
    refine ⟨_, rfl, iteT ⟨_, rfl, _, rfl, _, rfl, _, rfl, by show 4 ≤ sizeLine; decide, fun p np => ⟨p, [d, c, a, r], rfl, sq_of upd_same, fun x hx => ?_, k _ (Same.new np)⟩⟩⟩
    simp only [List.mem_cons, List.not_mem_nil, or_false] at hx
    rcases hx with rfl | rfl | rfl | rfl <;> assumption
end


end Rf
namespace Rf
open PySem PySem.Spec PyProof.Rows L2
/-! ### written -/
def rowsUp (B : Bk) (i : Nat) : List (List Str) := cashWords B :: (B.claims.take i).map wordsOf
theorem rowsUp_next {B : Bk} {i : Nat} (h : i < B.claims.length) : rowsUp B (i + 1) = rowsUp B i ++ [wordsOf (B.clm i)] := by
  unfold rowsUp
  rw [List.take_add_one, Bk.clm_get h, List.map_append]
  rfl
theorem rowsUp_all {B : Bk} : rowsUp B B.claims.length = rowsOf B := by
  unfold rowsUp rowsOf
  rw [List.take_length]
def spWritten (K : PySem.W.Frag) : Sp := fun vs H Q _ => ∃ (b ca cl : Addr) (ts : List Addr) (B : Bk), vs = [.ref b] ∧ BookAt K H b ca cl ts B ∧ Good B ∧ ∀ H', Same H H' → Q (.str (textOf B)) H'
section
variable {P : Program} {w : World} {K : PySem.W.Frag} {mg : Str → Option Value} {base : Heap}
theorem sc_written : FnScope ["book", "cash", "claims", "rows", "debtor", "creditor", "amount", "rank", "coins"] ["book"] (defScope s_written) := ⟨rfl, rfl, rfl, by decide +kernel, rfl, by decide +kernel, by decide +kernel⟩
/- 0:book 1:cash 2:claims 3:rows 4:debtor 5:creditor 6:amount 7:rank 8:coins -/
theorem ok_written {f : Addr} {fd : FuncData} (D : DefAt K mg "written" s_written ["book"] f fd) (m_str : mg "str" = none)
    {f1 : Addr} {fd1 : FuncData} (D_need : DefAt K mg "need_book" s_need ["book"] f1 fd1) (G_need : FnOk P w K mg base CX0 2 f1 fd1 ["book"] (spNeed K)) : FnOk P w K mg base CX0 3 f fd ["book"] (spWritten K) := by
  refine D.F.ok sc_written (fun vs H Q E h => ?_) (fun cdv A outer s H vs Q E hr h => ?_)
  · obtain ⟨b, ca, cl, ts, B, rfl, _⟩ := h
    rfl
  · obtain ⟨b, ca, cl, ts, B, rfl, A, G, k⟩ := h
    have lc : (B.cash.map V.int).length = B.cash.length := List.length_map _
    have lq : (ts.map V.ref).length = B.claims.length := by rw [List.length_map, A.hq.1]
    have n1 := G.n1
    have m1 := G.m1
    refine ⟨_, pss_cons (ps_expr (pe_call G_need (hr.mono (by decide)) (by rfl) D_need.g D_need.F.kp D_need.b .nil pass0 (pa_cons (pv 0) pa_nil)))
        (pss_cons (ps_asg (pv 0) (pg_tup rfl (pgs_cons (pg_name (i := 1) sc_written.nd rfl (.inl rfl)) (pgs_cons (pg_name (i := 2) sc_written.nd rfl (.inl rfl)) pgs_nil))))
        (pss_cons (ps_set (i := 3) sc_written.nd rfl (.inl rfl) (pe_lst (pa_cons (pe_join pe_str (pe_op op_cat (pe_lst (pa_cons pe_str pa_nil)) (pe_lc (own := [("coins", 8)]) (g := gName 8) (tt := tYes) (by rfl) sc_written.nd (pi_tup (pv 1)) (blkOk_by (own := [("coins", 8)]) (N := ["book", "cash", "claims", "rows", "debtor", "creditor", "amount", "rank", "coins"]) (sc := defScope s_written) (by decide +kernel)) (fun _ _ _ _ _ => (pg_name (i := 8) sc_written.nd rfl (.inl rfl))) (fun _ _ _ _ _ => pts_nil) (fun _ _ _ _ _ => (pe_callTy call_str_int (by rfl) m_str (by decide +kernel) (pa_cons (pv 8) pa_nil)))))) pa_nil)))
        (pss_cons (ps_for PassesOwn.never rfl (pi_tup (pv 2)) (pg_tup rfl (pgs_cons (pg_name (i := 4) sc_written.nd rfl (.inl rfl)) (pgs_cons (pg_name (i := 5) sc_written.nd rfl (.inl rfl)) (pgs_cons (pg_name (i := 6) sc_written.nd rfl (.inl rfl)) (pgs_cons (pg_name (i := 7) sc_written.nd rfl (.inl rfl)) pgs_nil))))) (pss_one (ps_expr (pe_bm PySem.F.plainAttrs_list PySem.F.slot_list_append PySem.F.type_list_append mt_append (pv 3) (pa_cons (pe_joined (PJ.cons (pe_fmt (pv 4)) (PJ.cons pe_str (PJ.cons (pe_fmt (pv 5)) (PJ.cons pe_str (PJ.cons (pe_fmt (pv 6)) (PJ.cons pe_str (PJ.cons (pe_fmt (pv 7)) PJ.nil)))))))) pa_nil)))))
        (pss_one (ps_ret (pe_join pe_str (pv 3))))))), ?_⟩
    refine sq_drop (fun H1 => Same H H1) (fun Q k => ⟨_, rfl, b, ca, cl, ts, B, rfl, A, G, fun H1 s1 => k _ H1 s1⟩) (fun H1 s1 => ?_)
    have A1 := A.same s1
    refine sq_tup2 (fun Q k => ⟨_, rfl, k⟩) A1.hb ?_
    refine sq_new (.lst [.str (rowS (cashWords B))]) (fun Q k => ?_) (fun r H2 nr s2 hr2 => ?_)
    · refine ⟨⟨_, rfl⟩, by show 1 ≤ sizeLine; decide, fun l1 n1' => ⟨_, rfl, ca, rfl, ⟨_, Same.tup (Same.new n1') A1.hca⟩, fun d nd => ?_⟩⟩
      refine lc_tup (xs := B.cash.map V.int) (fun j H' => Same (upd H1 l1 (.lst [.str "cash"])) H' ∧ H' d = some (.lst (((B.cash.take j).map nS).map V.str))) ⟨Same.new nd, upd_same⟩ (fun j H' _ hP => Same.tup ((Same.new n1').trans hP.1) A1.hca) (fun j y H' hy hP => ?_) (fun H' hP => ?_)
      · obtain ⟨s', hd⟩ := hP
        obtain ⟨rfl, hj⟩ := map_int_get hy
        have gx := G.cash _ (g_mem hj)
        refine ⟨rfl, _, rfl, _, rfl, nS_log gx.1 (by omega), _, hd, ?_, Same.mut s' nd, ?_⟩
        · rw [List.length_map, List.length_map, List.length_take]
          exact sz_lt (by omega)
        · rw [upd_same, List.take_add_one, g_get hj, List.map_append, List.map_append]
          rfl
      · obtain ⟨s', hd⟩ := hP
        rw [lc, List.take_length] at hd
        refine ⟨l1, d, _, _, rfl, rfl, s' _ _ upd_same, hd, ?_, fun p np => ⟨" ", p, cashWords B, rfl, rfl, .inl (sq_of upd_same), ?_, by show 1 ≤ sizeLine; decide, fun r nr => k r _ ?_ ?_ upd_same⟩⟩
        · rw [List.length_map, List.length_map]
          exact sz_of (by show 1 + _ ≤ _; omega)
        · have := sum_len (cashWords_len G)
          have l2 : (cashWords B).length = B.cash.length + 1 := by unfold cashWords; simp
          have l3 : (" " : Str).length = 1 := by decide +kernel
          rw [l3]
          omega
        · exact ((Same.new n1').trans (s'.trans (Same.new np))).free nr
        · exact ((Same.new n1').trans (s'.trans (Same.new np))).trans (Same.new nr)
    have A2 := A1.same s2
    refine sq_norm [some (.ref b), some (.ref ca), some (.ref cl), some (.ref r), none, none, none, none, none] rfl ?_
    refine sq_forT (a := cl) (xs := ts.map V.ref) (fun Q k => ⟨_, rfl, k⟩) A2.hcl
      (fun i σ' H' => Same H1 H' ∧ H' r = some (.lst (((rowsUp B i).map rowS).map V.str)) ∧ ∃ y4 y5 y6 y7, σ' = [some (.ref b), some (.ref ca), some (.ref cl), some (.ref r), y4, y5, y6, y7, none])
      ⟨s2, hr2, none, none, none, none, rfl⟩ (fun i σ' H' _ hP => Same.tup hP.1 A1.hcl) (fun i y σ' H' hy hPv => ?_) (fun σ' H' hPv => ?_)
    · obtain ⟨s3, hr3, y4, y5, y6, y7, rfl⟩ := hPv
      obtain ⟨t, rfl, ht⟩ := map_ref_get hy
      have hi : i < B.claims.length := by
        rw [← A.hq.1]
        exact (List.getElem?_eq_some_iff.mp ht).1
      have hqt := Same.tup s3 (A1.hq.2 i t _ ht (Bk.clm_get hi))
      have gc := G.clm hi
      have d0 := gc.d0
      have d1 := gc.d1
      have c0 := gc.c0
      have c1 := gc.c1
      have a0 := gc.a0
      have a1 := gc.a1
      have r0 := gc.r0
      have r1 := gc.r1
      have ld : (Str.ofString (toString (B.clm i).d)).length ≤ 3 := nS_len d0 (by omega)
      have lcr : (Str.ofString (toString (B.clm i).c)).length ≤ 3 := nS_len c0 (by omega)
      have la : (Str.ofString (toString (B.clm i).a)).length ≤ 3 := nS_len (by omega) (by omega)
      have lr : (Str.ofString (toString (B.clm i).r)).length ≤ 3 := nS_len (by omega) (by omega)
      have e00 : (Str.empty).length = 0 := rfl
      have w1 : (" owes " : Str).length = 6 := by decide +kernel
      have w2 : (" " : Str).length = 1 := by decide +kernel
      have w3 : (" at " : Str).length = 4 := by decide +kernel
      have lru : (rowsUp B i).length ≤ 25 := by
        unfold rowsUp
        rw [List.length_cons, List.length_map, List.length_take]
        omega
      refine ⟨t, _, rfl, hqt, rfl, _, _, rfl, _, _, rfl, _, _, rfl, _, _, rfl, rfl, ?_⟩
      try dsimp only
      refine ⟨_, rfl, .inl ⟨rfl, _, sq_of hr3⟩, _, rfl, .inr ⟨_, rfl, nS_log d0 (by omega), _, rfl, ?_, _, rfl, ?_, _, rfl, .inr ⟨_, rfl, nS_log c0 (by omega), _, rfl, ?_, _, rfl, ?_, _, rfl, .inr ⟨_, rfl, nS_log (by omega) (by omega), _, rfl, ?_, _, rfl, ?_, _, rfl, .inr ⟨_, rfl, nS_log (by omega) (by omega), _, rfl, ?_, ?_⟩⟩⟩⟩⟩
      · exact sz_of (by simp only [app_len, e00]; omega)
      · exact sz_of (by simp only [app_len, e00]; omega)
      · exact sz_of (by simp only [app_len, e00]; omega)
      · exact sz_of (by simp only [app_len, e00]; omega)
      · exact sz_of (by simp only [app_len, e00]; omega)
      · exact sz_of (by simp only [app_len, e00]; omega)
      · exact sz_of (by simp only [app_len, e00]; omega)
      · refine ⟨r, _, _, rfl, rfl, hr3, ?_, Same.mut s3 nr, ?_, _, _, _, _, rfl⟩
        · rw [List.length_map, List.length_map]
          exact sz_lt (by omega)
        · rw [upd_same, rowsUp_next hi, List.map_append, List.map_append]
          exact congrArg (fun z => some (HO.lst (((rowsUp B i).map rowS).map V.str ++ [V.str z]))) (row_written (B.clm i))
    · obtain ⟨s3, hr3, y4, y5, y6, y7, rfl⟩ := hPv
      rw [lq, rowsUp_all] at hr3
      refine ⟨⟨_, rfl⟩, _, rfl, "\n", r, (rowsOf B).map rowS, rfl, rfl, .inl (sq_of hr3), ?_, k _ (s1.trans s3)⟩
      have l1 := sum_len (m := 45) (ps := (rowsOf B).map rowS) fun p hp => by
        obtain ⟨ws, hw, rfl⟩ := List.mem_map.mp hp
        exact rowS_len (rowsOf_len G ws hw)
      have l2 : ((rowsOf B).map rowS).length ≤ 25 := by
        rw [List.length_map]
        unfold rowsOf
        rw [List.length_cons, List.length_map]
        omega
      have l3 : ("\n" : Str).length = 1 := by decide +kernel
      rw [l3]
      omega
end


end Rf
namespace Rf
open PySem PySem.Spec PyProof.Rows L2
/-! ### read: a text that a book is written as -/
def WsAt (H : Hp) (ls : List Addr) (L : List (List Str)) : Prop := ls.length = L.length ∧ ∀ (i : Nat) (l : Addr) (ws : List Str), ls[i]? = some l → L[i]? = some ws → H l = some (.lst (ws.map V.str))
theorem WsAt.same {H H' : Hp} {ls : List Addr} {L : List (List Str)} (h : WsAt H ls L) (s : Same H H') : WsAt H' ls L := ⟨h.1, fun i l ws h1 h2 => s _ _ (h.2 i l ws h1 h2)⟩
theorem WsAt.put {H : Hp} {d : Addr} {o : HO} {ls : List Addr} {L : List (List Str)} (h : WsAt H ls L) (n : d ∉ ls) : WsAt (upd H d o) ls L := ⟨h.1, fun i l ws h1 h2 => by
  have e : l ≠ d := fun z => by
    subst z
    exact n (List.mem_of_getElem? h1)
  rw [upd_ne e]
  exact h.2 i l ws h1 h2⟩
theorem WsAt.app {H : Hp} {ls : List Addr} {L : List (List Str)} {l : Addr} {ws : List Str} (h : WsAt H ls L) (e : H l = some (.lst (ws.map V.str))) : WsAt H (ls ++ [l]) (L ++ [ws]) := by
  refine ⟨by rw [List.length_append, List.length_append, h.1]; rfl, fun i a us h1 h2 => ?_⟩
  by_cases hi : i < ls.length
  · rw [List.getElem?_append_left hi] at h1
    rw [List.getElem?_append_left (by rw [← h.1]; exact hi)] at h2
    exact h.2 i a us h1 h2
  · have e2 : i = ls.length := by
      have := (List.getElem?_eq_some_iff.mp h1).1
      rw [List.length_append] at this
      have : i < ls.length + 1 := this
      omega
    subst e2
    rw [List.getElem?_append_right (Nat.le_refl _), Nat.sub_self] at h1
    rw [List.getElem?_append_right (by rw [h.1]; exact Nat.le_refl _), h.1, Nat.sub_self] at h2
    cases h1
    cases h2
    exact e
def spRead (K : PySem.W.Frag) : Sp := fun vs H Q _ => ∃ B : Bk, vs = [.str (textOf B)] ∧ Good B ∧ ∀ b ca cl ts H', Same H H' → H b = none → BookAt K H' b ca cl ts B → Q (.ref b) H'
section
variable {P : Program} {w : World} {K : PySem.W.Frag} {mg : Str → Option Value} {base : Heap}
theorem sc_read : FnScope ["text", "rows", "number", "words", "good", "cash", "claims", "debtor", "_", "creditor", "amount", "rank", "book", "row", "word"] ["text"] (defScope s_read) := ⟨rfl, rfl, rfl, by decide +kernel, rfl, by decide +kernel, by decide +kernel⟩
/- 0:text 1:rows 2:number 3:words 4:good 5:cash 6:claims 7:debtor 8:_ 9:creditor 10:amount 11:rank 12:book 13:row 14:word -/
theorem ok_read {f : Addr} {fd : FuncData} (D : DefAt K mg "read" s_read ["text"] f fd) (m_enumerate : mg "enumerate" = none) (m_int : mg "int" = none) (m_tuple : mg "tuple" = none)
    {f1 : Addr} {fd1 : FuncData} (D_need : DefAt K mg "need_book" s_need ["book"] f1 fd1) (G_need : FnOk P w K mg base CX0 2 f1 fd1 ["book"] (spNeed K))
    {f2 : Addr} {fd2 : FuncData} (D_iscash : DefAt K mg "_is_cash" s_iscash ["words"] f2 fd2) (G_iscash : FnOk P w K mg base CX0 2 f2 fd2 ["words"] (spWordsNum K IsCash))
    {f3 : Addr} {fd3 : FuncData} (D_isclaim : DefAt K mg "_is_claim" s_isclaim ["words"] f3 fd3) (G_isclaim : FnOk P w K mg base CX0 2 f3 fd3 ["words"] (spWordsNum K IsClm)) : FnOk P w K mg base CX0 3 f fd ["text"] (spRead K) := by
  refine D.F.ok sc_read (fun vs H Q E h => ?_) (fun cdv A outer s H vs Q E hr h => ?_)
  · obtain ⟨B, rfl, _⟩ := h
    rfl
  · obtain ⟨B, rfl, G, k⟩ := h
    have n0 := G.n0
    have n1 := G.n1
    have m1 := G.m1
    have tl := textOf_len G
    have lL : (rowsOf B).length = B.claims.length + 1 := by unfold rowsOf; simp
    have w1 : (" " : Str).length = 1 := by decide +kernel
    have w2 : ("\n" : Str).length = 1 := by decide +kernel
    refine ⟨_, pss_cons (ps_setLc (i := 1) (own := [("row", 13)]) (g := gName 13) (tt := tYes) (by rfl) sc_read.nd rfl rfl (sw_true rfl rfl rfl (by decide +kernel)) (pi_list (pe_split (pv 0) pe_str)) (blkOk_by (own := [("row", 13)]) (N := ["text", "rows", "number", "words", "good", "cash", "claims", "debtor", "_", "creditor", "amount", "rank", "book", "row", "word"]) (sc := defScope s_read) (by decide +kernel)) (fun _ _ _ _ _ => (pg_name (i := 13) sc_read.nd rfl (.inl rfl))) (fun _ _ _ _ _ => pts_nil) (fun _ _ _ _ _ => (pe_split (pv 13) pe_str)))
        (pss_cons (ps_for PassesOwn.never rfl (pi_enum (by rfl) m_enumerate (pa_cons (pv 1) pa_nil)) (pg_tup rfl (pgs_cons (pg_name (i := 2) sc_read.nd rfl (.inl rfl)) (pgs_cons (pg_name (i := 3) sc_read.nd rfl (.inl rfl)) pgs_nil))) (pss_cons (ps_set (i := 4) sc_read.nd rfl (.inl rfl) (pe_ifExp (pt_cmpR op_eq (pv 2) pe_int (nomark _)) (pe_call G_iscash (hr.mono (by decide)) (by rfl) D_iscash.g D_iscash.F.kp D_iscash.b .nil pass0 (pa_cons (pv 3) pa_nil)) (pe_call G_isclaim (hr.mono (by decide)) (by rfl) D_isclaim.g D_isclaim.F.kp D_isclaim.b .nil pass0 (pa_cons (pv 3) pa_nil))))
          (pss_one (ps_if (pt_not (pt_val (pv 4))) (pss_one ps_never) pss_nil))))
        (pss_cons (ps_setLc (i := 5) (own := [("word", 14)]) (g := gName 14) (tt := tYes) (by rfl) sc_read.nd rfl rfl (sw_true rfl rfl rfl (by decide +kernel)) (pi_list (pe_slice sl_list (pe_ix (r := rIxL K) ix_list (pv 1) pe_int (fun _ _ => rfl)) (po_some pe_int) po_none)) (blkOk_by (own := [("word", 14)]) (N := ["text", "rows", "number", "words", "good", "cash", "claims", "debtor", "_", "creditor", "amount", "rank", "book", "row", "word"]) (sc := defScope s_read) (by decide +kernel)) (fun _ _ _ _ _ => (pg_name (i := 14) sc_read.nd rfl (.inl rfl))) (fun _ _ _ _ _ => pts_nil) (fun _ _ _ _ _ => (pe_callTy call_int_str (by rfl) m_int (by decide +kernel) (pa_cons (pv 14) pa_nil))))
        (pss_cons (ps_set (i := 6) sc_read.nd rfl (.inl rfl) (pe_lst pa_nil))
        (pss_cons (ps_for PassesOwn.never rfl (pi_list (pe_slice sl_list (pv 1) (po_some pe_int) po_none)) (pg_lst rfl (pgs_cons (pg_name (i := 7) sc_read.nd rfl (.inl rfl)) (pgs_cons (pg_name (i := 8) sc_read.nd rfl (.inl rfl)) (pgs_cons (pg_name (i := 9) sc_read.nd rfl (.inl rfl)) (pgs_cons (pg_name (i := 10) sc_read.nd rfl (.inl rfl)) (pgs_cons (pg_name (i := 8) sc_read.nd rfl (.inl rfl)) (pgs_cons (pg_name (i := 11) sc_read.nd rfl (.inl rfl)) pgs_nil))))))) (pss_one (ps_expr (pe_bm PySem.F.plainAttrs_list PySem.F.slot_list_append PySem.F.type_list_append mt_append (pv 6) (pa_cons (pe_tup (pa_cons (pe_callTy call_int_str (by rfl) m_int (by decide +kernel) (pa_cons (pv 7) pa_nil)) (pa_cons (pe_callTy call_int_str (by rfl) m_int (by decide +kernel) (pa_cons (pv 9) pa_nil)) (pa_cons (pe_callTy call_int_str (by rfl) m_int (by decide +kernel) (pa_cons (pv 10) pa_nil)) (pa_cons (pe_callTy call_int_str (by rfl) m_int (by decide +kernel) (pa_cons (pv 11) pa_nil)) pa_nil))))) pa_nil)))))
        (pss_cons (ps_set (i := 12) sc_read.nd rfl (.inl rfl) (pe_tup (pa_cons (pe_callTy (r := rTupleOf K) call_tupleOf (by rfl) m_tuple (by decide +kernel) (pa_cons (pv 5) pa_nil)) (pa_cons (pe_callTy (r := rTupleOf K) call_tupleOf (by rfl) m_tuple (by decide +kernel) (pa_cons (pv 6) pa_nil)) pa_nil))))
        (pss_cons (ps_expr (pe_call G_need (hr.mono (by decide)) (by rfl) D_need.g D_need.F.kp D_need.b .nil pass0 (pa_cons (pv 12) pa_nil)))
        (pss_one (ps_ret (pv 12))))))))), ?_⟩
    -- the rows' words
    refine sq_set (fun v H1 => Same H H1 ∧ ∃ d ls, v = .ref d ∧ H1 d = some (.lst (ls.map V.ref)) ∧ WsAt H1 ls (rowsOf B) ∧ H d = none) (fun Q k => ?_) (fun v H1 hv => ?_)
    · refine ⟨_, rfl, ⟨_, rfl⟩, textOf B, "\n", rfl, rfl, by rw [w2]; rfl, sz_of (by omega), fun q nq => ⟨q, rfl, ⟨_, sq_of upd_same⟩, fun d nd => ?_⟩⟩
      rw [split_text G] at nd ⊢
      refine lc_list (xs := ((rowsOf B).map rowS).map V.str) (fun j H' => Same (upd H q (.lst (((rowsOf B).map rowS).map V.str))) H' ∧ ∃ ls, H' d = some (.lst (ls.map V.ref)) ∧ WsAt H' ls ((rowsOf B).take j) ∧ d ∉ ls) ⟨Same.new nd, [], upd_same, ⟨rfl, fun i l ws h => by cases h⟩, by simp⟩ (fun j H' _ hP => hP.1.seq (sq_of upd_same)) (fun j y H' hy hP => ?_) (fun H' hP => ?_)
      · obtain ⟨s', ls, hd, hls, ndl⟩ := hP
        obtain ⟨ws, hws, rfl⟩ : ∃ ws, (rowsOf B)[j]? = some ws ∧ y = .str (rowS ws) := by
          rw [List.map_map, List.getElem?_map] at hy
          cases e : (rowsOf B)[j]? with
          | none =>
            rw [e] at hy
            cases hy
          | some ws =>
            rw [e] at hy
            exact ⟨ws, rfl, (Option.some.inj hy).symm⟩
        have hmem := List.mem_of_getElem? hws
        have hj := (List.getElem?_eq_some_iff.mp hws).1
        have l1 := rowS_len (rowsOf_len G ws hmem)
        refine ⟨rfl, _, rfl, ⟨_, rfl⟩, rowS ws, " ", rfl, rfl, by rw [w1]; rfl, sz_of (by omega), fun l nl => ⟨_, Same.new nl _ _ hd, ?_, Same.mut (s'.trans (Same.new nl)) nd, ls ++ [l], ?_, ?_, ?_⟩⟩
        · rw [List.length_map, hls.1, List.length_take]
          exact sz_lt (by omega)
        · rw [upd_same, List.map_append]
          rfl
        · rw [List.take_add_one, hws]
          refine ((hls.same (Same.new nl)).app ?_).put ?_
          · rw [upd_same, split_rows G ws hmem]
          · intro z
            rcases List.mem_append.mp z with z | z
            · exact ndl z
            · rw [List.mem_singleton.mp z, nl] at hd
              cases hd
        · intro z
          rcases List.mem_append.mp z with z | z
          · exact ndl z
          · rw [List.mem_singleton.mp z, nl] at hd
            cases hd
      · obtain ⟨s', ls, hd, hls, _⟩ := hP
        rw [List.length_map, List.length_map, List.take_length] at hls
        exact k _ _ ⟨(Same.new nq).trans s', d, ls, rfl, hd, hls, (Same.new nq).free nd⟩
    obtain ⟨s1, rw', ls, rfl, hrw, hls, nrw⟩ := hv
    have lls : ls.length = B.claims.length + 1 := by rw [hls.1, lL]
    obtain ⟨l0, lr, rfl⟩ : ∃ l0 lr, ls = l0 :: lr := by
      cases ls with
      | nil => simp at lls
      | cons a b => exact ⟨a, b, rfl⟩
    have h00 : H1 l0 = some (.lst ((cashWords B).map V.str)) := hls.2 0 l0 _ rfl rfl
    have hlr : ∀ {H' : Hp}, Same H1 H' → ∀ i, (hi : i < B.claims.length) → ∃ l, lr[i]? = some l ∧ H' l = some (.lst ((wordsOf (B.clm i)).map V.str)) := fun s' i hi => by
      have : i < lr.length := by rw [List.length_cons] at lls; omega
      refine ⟨lr[i], List.getElem?_eq_getElem this, s' _ _ (hls.2 (i + 1) _ _ (by rw [List.getElem?_cons_succ, List.getElem?_eq_getElem this]) ?_)⟩
      show (B.claims.map wordsOf)[i]? = _
      rw [List.getElem?_map, Bk.clm_get hi]
      rfl
    -- each row is good
    refine sq_norm [some (.str (textOf B)), some (.ref rw'), none, none, none, none, none, none, none, none, none, none, none, none, none] rfl ?_
    refine sq_forE (xs := (l0 :: lr).map V.ref) (fun Q k => ⟨_, rfl, k⟩) (sq_of hrw)
      (fun i σ' H' => Same H1 H' ∧ ∃ y2 y3 y4, σ' = [some (.str (textOf B)), some (.ref rw'), y2, y3, y4, none, none, none, none, none, none, none, none, none, none]) ⟨Same.refl _, none, none, none, rfl⟩ (fun i σ' H' _ hP => hP.1.seq (sq_of hrw)) (fun i x U σ' H' hx hP hU => ?_) (fun σ' H' hP => ?_)
    · obtain ⟨s2, y2, y3, y4, rfl⟩ := hP
      obtain ⟨l, rfl, hl⟩ := map_ref_get hx
      refine ⟨U, _, rfl, st_of upd_same, rfl, _, _, rfl, _, _, rfl, rfl, ?_⟩
      try dsimp only
      refine sq_set (fun v H3 => Same H' H3 ∧ v = .bl true) (fun Q k => ⟨_, rfl, rfl, _, rfl, ?_⟩) (fun v H3 hv => ?_)
      · rw [dec_vint]
        cases i with
        | zero =>
          cases hl
          rw [decide_eq_true (show ((0 : Nat) : Int) = 0 from rfl)]
          refine iteT ⟨_, rfl, l0, cashWords B, rfl, sq_of ((s2.trans (Same.new hU)) _ _ h00), ⟨B.cash, rfl, n0, n1, fun z hz => ⟨(G.cash z hz).1, by have := (G.cash z hz).2; omega⟩⟩, fun H3 s3 => k _ _ ⟨(Same.new hU).trans s3, rfl⟩⟩
        | succ i =>
          have hi : i < B.claims.length := by
            have := (List.getElem?_eq_some_iff.mp hl).1
            rw [List.length_cons] at this lls
            omega
          obtain ⟨l', hl', hw⟩ := hlr (s2.trans (Same.new hU)) i hi
          have e : l' = l := by
            have e2 : lr[i]? = some l := hl
            rw [hl'] at e2
            exact Option.some.inj e2
          subst e
          have gc := G.clm hi
          have d1 := gc.d1
          have c1 := gc.c1
          have a0 := gc.a0
          have a1 := gc.a1
          have r0 := gc.r0
          have r1 := gc.r1
          rw [decide_eq_false (show ¬ ((i + 1 : Nat) : Int) = 0 by omega)]
          exact iteF ⟨_, rfl, l', wordsOf (B.clm i), rfl, sq_of hw, ⟨_, _, _, _, rfl, ⟨gc.d0, by omega⟩, ⟨gc.c0, by omega⟩, ⟨by omega, by omega⟩, ⟨by omega, by omega⟩⟩, fun H3 s3 => k _ _ ⟨(Same.new hU).trans s3, rfl⟩⟩
      obtain ⟨s3, rfl⟩ := hv
      exact ⟨_, rfl, true, rfl, iteF ⟨s2.trans s3, _, _, _, rfl⟩⟩
    obtain ⟨s2, y2, y3, y4, rfl⟩ := hP
    have lcw : ((cashWords B).map V.str).length = B.cash.length + 1 := by unfold cashWords; simp
    have ecw : cutV ((cashWords B).map V.str) (some 1) none = (B.cash.map nS).map V.str := cutV_drop (j := 1) (by rw [lcw]; omega)
    -- the coins
    refine sq_new (.lst (B.cash.map V.int)) (fun Q k => ?_) (fun co H3 nco s3 hco => ?_)
    · refine ⟨_, rfl, rw', _, 0, _, rfl, rfl, sq_of (s2 _ _ hrw), atI_nat (j := 0) rfl, 1, rfl, slQ_up (sq_of (s2 _ _ h00)) fun p np => ?_⟩
      rw [ecw]
      refine ⟨p, rfl, ⟨_, sq_of upd_same⟩, fun d nd => ?_⟩
      refine lc_list (xs := (B.cash.map nS).map V.str) (fun j H4 => Same (upd H' p (.lst ((B.cash.map nS).map V.str))) H4 ∧ H4 d = some (.lst ((B.cash.take j).map V.int))) ⟨Same.new nd, upd_same⟩ (fun j H4 _ hP => hP.1.seq (sq_of upd_same)) (fun j y H4 hy hP => ?_) (fun H4 hP => ?_)
      · obtain ⟨s4, hd⟩ := hP
        obtain ⟨hj, rfl⟩ : j < B.cash.length ∧ y = .str (nS (g B.cash j)) := by
          rw [List.map_map, List.getElem?_map] at hy
          cases e : B.cash[j]? with
          | none =>
            rw [e] at hy
            cases hy
          | some z =>
            have hj := (List.getElem?_eq_some_iff.mp e).1
            rw [g_get hj] at e hy
            exact ⟨hj, (Option.some.inj hy).symm⟩
        have gx := G.cash _ (g_mem hj)
        have ln := nS_len gx.1 (by omega)
        refine ⟨rfl, _, rfl, nS (g B.cash j), g B.cash j, rfl, nS_int gx.1 (by omega), by omega, _, hd, ?_, Same.mut s4 nd, ?_⟩
        · rw [List.length_map, List.length_take]
          exact sz_lt (by omega)
        · rw [upd_same, List.take_add_one, g_get hj, List.map_append]
          rfl
      · obtain ⟨s4, hd⟩ := hP
        rw [List.length_map, List.length_map, List.take_length] at hd
        exact k d H4 ((Same.new np).free nd) ((Same.new np).trans s4) hd
    refine sq_new (.lst []) (fun Q k => ⟨Nat.zero_le _, fun l nl => k l _ nl (Same.new nl) upd_same⟩) (fun cm H4 ncm s4 hcm => ?_)
    refine sq_norm [some (.str (textOf B)), some (.ref rw'), y2, y3, y4, some (.ref co), some (.ref cm), none, none, none, none, none, none, none, none] rfl ?_
    have s14 := s2.trans (s3.trans s4)
    have lrw : ((l0 :: lr).map V.ref).length = B.claims.length + 1 := by rw [List.length_map, lls]
    have erw : cutV ((l0 :: lr).map V.ref) (some 1) none = lr.map V.ref := cutV_drop (j := 1) (by rw [lrw]; omega)
    refine sq_forN (xs := lr.map V.ref) (fun Q k => ⟨_, rfl, 1, rfl, slQ_up (sq_of (s14 _ _ hrw)) fun p np => k p _ np (Same.new np) (by rw [upd_same, erw])⟩)
      (fun p i σ' H5 => Same H3 H5 ∧ H5 p = some (.lst (lr.map V.ref)) ∧ (∃ us, H5 cm = some (.lst (us.map V.ref)) ∧ ClmsAt K H5 us (B.claims.take i)) ∧ p ≠ cm ∧ ∃ y7 y8 y9 y10 y11, σ' = [some (.str (textOf B)), some (.ref rw'), y2, y3, y4, some (.ref co), some (.ref cm), y7, y8, y9, y10, y11, none, none, none])
      (fun p H5 np s5 hp => ⟨s4.trans s5, hp, ⟨[], s5 _ _ hcm, rfl, fun i t q h => by cases h⟩, (ne_of_none hcm np).symm, none, none, none, none, none, rfl⟩) (fun p i σ' H5 _ hP => sq_of hP.2.1) (fun p i y σ' H5 hy hP => ?_) (fun p σ' H5 hP => ?_)
    · obtain ⟨s5, hp, ⟨us, hus, hcs⟩, npc, y7, y8, y9, y10, y11, rfl⟩ := hP
      obtain ⟨l, rfl, hl⟩ := map_ref_get hy
      have hi : i < B.claims.length := by
        have := (List.getElem?_eq_some_iff.mp hl).1
        rw [List.length_cons] at lls
        omega
      obtain ⟨l', hl', hw⟩ := hlr (s2.trans (s3.trans s5)) i hi
      have e : l' = l := by
        rw [hl'] at hl
        exact Option.some.inj hl
      subst e
      have gc := G.clm hi
      have d0 := gc.d0
      have d1 := gc.d1
      have c0 := gc.c0
      have c1 := gc.c1
      have a0 := gc.a0
      have a1 := gc.a1
      have r0 := gc.r0
      have r1 := gc.r1
      have ld := nS_len d0 (by omega)
      have lc := nS_len c0 (by omega)
      have la := nS_len (i := (B.clm i).a) (by omega) (by omega)
      have lr' := nS_len (i := (B.clm i).r) (by omega) (by omega)
      have hul : us.length ≤ 24 := by
        rw [hcs.1, List.length_take]
        omega
      refine ⟨l', _, rfl, sq_of hw, rfl, _, _, rfl, _, _, rfl, _, _, rfl, _, _, rfl, _, _, rfl, _, _, rfl, rfl, ?_⟩
      try dsimp only
      refine ⟨_, rfl, .inl ⟨rfl, _, sq_of hus⟩, _, rfl, nS (B.clm i).d, (B.clm i).d, rfl, nS_int d0 (by omega), by omega, _, rfl, nS (B.clm i).c, (B.clm i).c, rfl, nS_int c0 (by omega), by omega, _, rfl, nS (B.clm i).a, (B.clm i).a, rfl, nS_int (by omega) (by omega), by omega, _, rfl, nS (B.clm i).r, (B.clm i).r, rfl, nS_int (by omega) (by omega), by omega, by show 4 ≤ sizeLine; decide, fun t nt => ⟨cm, _, _, rfl, rfl, Same.new nt _ _ hus, by rw [List.length_map]; exact sz_lt (by omega), ?_⟩⟩
      refine ⟨Same.mut (s5.trans (Same.new nt)) ncm, ?_, ⟨us ++ [t], by rw [upd_same, List.map_append]; rfl, ?_⟩, npc, _, _, _, _, _, rfl⟩
      · rw [upd_ne npc]
        exact Same.new nt _ _ hp
      · rw [List.take_add_one, Bk.clm_get hi]
        exact ((hcs.same (Same.new nt)).app (st_of upd_same)).put (Same.new nt _ _ hus)
    obtain ⟨s5, hp, ⟨us, hus, hcs⟩, npc, y7, y8, y9, y10, y11, rfl⟩ := hP
    have llr : (lr.map V.ref).length = B.claims.length := by
      rw [List.length_map]
      rw [List.length_cons] at lls
      omega
    rw [llr, List.take_length] at hcs
    have hco5 := s5 _ _ hco
    refine sq_set (fun v H6 => Same H5 H6 ∧ ∃ tg c1 c2, v = .ref tg ∧ H5 tg = none ∧ BookAt K H6 tg c1 c2 us B) (fun Q k => ⟨_, rfl, co, _, rfl, .inl ⟨sq_of hco5, fun c1 nc1 => ⟨_, rfl, cm, _, rfl, .inl ⟨sq_of (Same.new nc1 _ _ hus), fun c2 nc2 => ⟨by show 2 ≤ sizeLine; decide, fun tg ntg => k _ _ ⟨((Same.new nc1).trans (Same.new nc2)).trans (Same.new ntg), tg, c1, c2, rfl, ((Same.new nc1).trans (Same.new nc2)).free ntg, st_of upd_same, st_of (Same.new ntg _ _ (Same.new nc2 _ _ upd_same)), st_of (Same.new ntg _ _ upd_same), hcs.same (((Same.new nc1).trans (Same.new nc2)).trans (Same.new ntg))⟩⟩⟩⟩⟩⟩) (fun v H6 hv => ?_)
    obtain ⟨s6, tg, c1, c2, rfl, ntg, A6⟩ := hv
    have s05 := (s1.trans (s2.trans (s3.trans s5)))
    refine sq_drop (fun Ha => Same H6 Ha) (fun Q k => ⟨_, rfl, tg, c1, c2, us, B, rfl, A6, G, fun Ha sa => k _ Ha sa⟩) (fun Ha sa => ?_)
    exact ⟨_, rfl, k tg c1 c2 us Ha (s05.trans (s6.trans sa)) (s05.free ntg) (A6.same sa)⟩
end


end Rf
namespace Rf
open PySem PySem.Spec PyProof.Rows L2
/-! ### texts that are none: mathematics -/
def digits : List Nat := TL.tl ("0123456789" : Str)
def badHead (w : Str) : Bool := !(decide (1 ≤ w.length) && decide (w.length ≤ 9)) || (decide ((TL.tl w)[0]? = some 48) && !decide (w = ("0" : Str)))
def numOk (w : Str) : Bool := !badHead w && (TL.tl w).all fun c => decide (c ∈ TL.tl ("0123456789" : Str))
def cashOk : List Str → Bool
  | [] => false
  | w :: ws => decide (w = ("cash" : Str)) && (decide (0 < ws.length) && ws.all numOk)
def clmOk : List Str → Bool
  | [d, o, c, a, t, r] => decide (o = ("owes" : Str)) && (decide (t = ("at" : Str)) && [d, c, a, r].all numOk)
  | _ => false
theorem cashOk_cons {w : Str} {ws : List Str} : cashOk (w :: ws) = (decide (w = ("cash" : Str)) && (decide (0 < ws.length) && ws.all numOk)) := rfl
theorem clmOk_six {d o c a t r : Str} : clmOk [d, o, c, a, t, r] = (decide (o = ("owes" : Str)) && (decide (t = ("at" : Str)) && [d, c, a, r].all numOk)) := rfl
def rowOk (i : Nat) (ws : List Str) : Bool := if i = 0 then cashOk ws else clmOk ws
/-- a row as words: no blank and no line end in them -/
def isRow (ws : List Str) : Bool := !ws.isEmpty && (decide (ws.length ≤ 12) && ws.all fun p => decide (p.length ≤ 12) && (decide ((32 : Nat) ∉ TL.tl p) && decide ((10 : Nat) ∉ TL.tl p)))
theorem isRow_ne {ws : List Str} (h : isRow ws = true) : ws ≠ [] := fun e => by
  subst e
  cases h
theorem isRow_len {ws : List Str} (h : isRow ws = true) : ws.length ≤ 12 := by
  unfold isRow at h
  simp only [Bool.and_eq_true, decide_eq_true_eq] at h
  exact h.2.1
theorem isRow_word {ws : List Str} (h : isRow ws = true) {p : Str} (hp : p ∈ ws) : p.length ≤ 12 ∧ (32 : Nat) ∉ TL.tl p ∧ (10 : Nat) ∉ TL.tl p := by
  unfold isRow at h
  simp only [Bool.and_eq_true, List.all_eq_true, decide_eq_true_eq] at h
  have := h.2.2 p hp
  exact ⟨this.1, this.2.1, this.2.2⟩
theorem isRow_of {ws : List Str} (h0 : ws ≠ []) (h1 : ws.length ≤ 12) (h2 : ∀ p ∈ ws, p.length ≤ 12 ∧ (32 : Nat) ∉ TL.tl p ∧ (10 : Nat) ∉ TL.tl p) : isRow ws = true := by
  unfold isRow
  simp only [Bool.and_eq_true, List.all_eq_true, decide_eq_true_eq]
  refine ⟨?_, h1, fun p hp => h2 p hp⟩
  cases ws with
  | nil => exact absurd rfl h0
  | cons a b => rfl
theorem isRow_split {ws : List Str} (h : isRow ws = true) : Txt.split (rowS ws) " " = ws := split_row (isRow_ne h) fun p hp => (isRow_word h hp).2.1
theorem isRow_rowlen {ws : List Str} (h : isRow ws = true) : (rowS ws).length ≤ 160 := by
  have h1 := isRow_len h
  unfold rowS
  rw [TL.len_tl, TL.join_eq, TL.tl_join, tl_sp]
  refine Nat.le_trans (joinL_len (m := 12) fun p hp => ?_) ?_
  · obtain ⟨z, hz, rfl⟩ := List.mem_map.mp hp
    rw [← TL.len_tl]
    exact (isRow_word h hz).1
  · rw [List.length_map]
    show ws.length * 13 ≤ 160
    omega
theorem rows_split {L : List (List Str)} (hL : L ≠ []) (h : ∀ ws ∈ L, isRow ws = true) : Txt.split (Txt.join "\n" (L.map rowS)) "\n" = L.map rowS := TL.split_join tl_nl (by decide +kernel) (by simpa using hL) fun p hp => by
  obtain ⟨ws, hw, rfl⟩ := List.mem_map.mp hp
  exact rowS_free fun q hq => (isRow_word (h ws hw) hq).2.2
theorem rows_len {L : List (List Str)} (h : ∀ ws ∈ L, isRow ws = true) : (Txt.join "\n" (L.map rowS)).length ≤ L.length * 161 := by
  rw [TL.len_tl, TL.join_eq, TL.tl_join, tl_nl]
  refine Nat.le_trans (joinL_len (m := 160) fun p hp => ?_) ?_
  · obtain ⟨z, hz, rfl⟩ := List.mem_map.mp hp
    obtain ⟨ws, hw, rfl⟩ := List.mem_map.mp hz
    rw [← TL.len_tl]
    exact isRow_rowlen (h ws hw)
  · rw [List.length_map, List.length_map]
    exact Nat.le_refl _
/-! numbers of up to nine figures -/
def Small9 (x : Int) : Prop := 0 ≤ x ∧ x < 1000000000
theorem nS_len9 {i : Int} (h : Small9 i) : (nS i).length ≤ 9 := by
  obtain ⟨h0, h1⟩ := h
  rw [TL.len_tl, tl_nS h0]
  exact TL.numL_len (by decide) (by omega)
theorem nS_int9 {i : Int} (h : Small9 i) : PySem.intText? (nS i) = some i := by
  obtain ⟨h0, h1⟩ := h
  obtain ⟨n, rfl⟩ := Int.eq_ofNat_of_zero_le h0
  exact TL.int_num (Nat.le_trans (TL.numL_len (k := 9) (by decide) (by omega)) (by decide))
theorem nS_ok {i : Int} (h : Small9 i) : numOk (nS i) = true := by
  have l1 := nS_len1 h.1
  have l9 := nS_len9 h
  obtain ⟨c, hc, h48⟩ := nS_first h.1
  have e : badHead (nS i) = false := by
    unfold badHead
    rw [decide_eq_true l1, decide_eq_true l9, hc]
    by_cases e : c = 48
    · rw [nS_str h.1 hc e h48]
      simp
    · simp [e]
  unfold numOk
  rw [e, Bool.not_false, Bool.true_and, List.all_eq_true]
  exact fun c hc => decide_eq_true (nS_digit h.1 hc)
/-! ### texts that are none: the program -/
def spAreNumB (K : PySem.W.Frag) : Sp := fun vs H Q _ => ∃ (l : Addr) (ws : List Str), vs = [.ref l] ∧ SqL K H l (ws.map V.str) ∧ (∀ w ∈ ws, w.length ≤ 1000) ∧ Q (.bl (ws.all numOk)) H
def spRowOk (K : PySem.W.Frag) (ok : List Str → Bool) : Sp := fun vs H Q _ => ∃ (l : Addr) (ws : List Str), vs = [.ref l] ∧ SqL K H l (ws.map V.str) ∧ ws ≠ [] ∧ (∀ w ∈ ws, w.length ≤ 1000) ∧ ∀ H', Same H H' → Q (.bl (ok ws)) H'
theorem dec_vstr {x y : Str} : decide (V.str x = V.str y) = decide (x = y) := decide_eq_decide.mpr ⟨fun z => V.str.inj z, fun z => by rw [z]⟩
theorem map_str_get {l : List Str} {i : Nat} {x : V} (h : (l.map V.str)[i]? = some x) : ∃ w, l[i]? = some w ∧ x = .str w := by
  rw [List.getElem?_map] at h
  cases e : l[i]? with
  | none =>
    rw [e] at h
    cases h
  | some w =>
    rw [e] at h
    exact ⟨w, rfl, (Option.some.inj h).symm⟩
section
variable {P : Program} {w : World} {K : PySem.W.Frag} {mg : Str → Option Value} {base : Heap}

/- 0:words 1:word 2:letter -/
theorem ok_arenumB {f : Addr} {fd : FuncData} (D : DefAt K mg "_are_numbers" s_arenum ["words"] f fd) (LT : LimsT mg) (m_len : mg "len" = none) : FnOk P w K mg base CX0 1 f fd ["words"] (spAreNumB K) := by
  obtain ⟨t1, m_FIGURES⟩ := LT.figures
  obtain ⟨t2, m_MOST_FIGURES⟩ := LT.most
  refine D.F.ok sc_arenum (fun vs H Q E h => ?_) (fun cdv A outer s H vs Q E hr h => ?_)
  · obtain ⟨l, ws, rfl, _⟩ := h
    rfl
  · obtain ⟨l, ws, rfl, hl, hw, k⟩ := h
    refine ⟨_, pss_cons (ps_for PassesOwn.never rfl (pi_list (pv 0)) (pg_name (i := 1) sc_arenum.nd rfl (.inl rfl)) (pss_cons (ps_if (PW.pt (pw_or (pt_not (pt_chain op_le op_le pe_int (pe_callB call_len_str (by rfl) m_len (by decide +kernel) (pa_cons (pv 1) pa_nil)) (pe_glob (v := .int 9) (by rfl) m_MOST_FIGURES ⟨_, rfl⟩))) (pw_or1 (PW.pt (pw_and (pt_cmpR op_eq (pe_ix (r := rIxS) ix_str (pv 1) pe_int (fun _ _ => rfl)) pe_str (nomark _)) (pw_and1 (pt_cmpR op_ne (pv 1) pe_str (nomark _)))))))) (pss_one (ps_ret pe_bl)) pss_nil)
          (pss_one (ps_for PassesOwn.never rfl (pi_str (pv 1)) (pg_name (i := 2) sc_arenum.nd rfl (.inl rfl)) (pss_one (ps_if (pt_cmpR op_notIn_sign (pv 2) (pe_glob (v := .str "0123456789") (by rfl) m_FIGURES ⟨_, rfl⟩) (by rfl)) (pss_one (ps_ret pe_bl)) pss_nil))))))
        (pss_one (ps_ret pe_bl)), ?_⟩
    refine sq_forL (xs := ws.map V.str) (fun Q k => ⟨_, rfl, k⟩) hl (fun i σ' H' => H' = H ∧ (ws.take i).all numOk = true ∧ ∃ y1 y2, σ' = [some (.ref l), y1, y2]) ⟨rfl, rfl, none, none, rfl⟩ (fun i σ' H' _ hP => by rw [hP.1]; exact hl) (fun i z σ' H' hz hP => ?_) (fun σ' H' hP => ?_)
    · obtain ⟨rfl, hpre, y1, y2, rfl⟩ := hP
      obtain ⟨x, hxe, rfl⟩ := map_str_get hz
      have hxm := List.mem_of_getElem? hxe
      have lx := hw x hxm
      have hbad : numOk x = false → ws.all numOk = false := fun e => by
        rw [List.all_eq_false]
        exact ⟨x, hxm, by rw [e]; exact Bool.false_ne_true⟩
      refine sq_whenP (p := badHead x = true) (fun Q k => ?_) (fun c => ?_) (fun c => ?_)
      · rw [Bool.decide_eq_true] at k
        unfold badHead at k
        by_cases c1 : 1 ≤ x.length
        · rw [decide_eq_true c1] at k
          by_cases c2 : x.length ≤ 9
          · rw [decide_eq_true c2] at k
            obtain ⟨c, hc⟩ : ∃ c, (TL.tl x)[0]? = some c := ⟨_, List.getElem?_eq_getElem (by rw [← TL.len_tl]; omega)⟩
            rw [hc] at k
            refine ⟨_, rfl, x, rfl, sz_of (by omega), _, _, rfl, rfl, true, dec_t (show (1 : Int) ≤ (x.length : Int) by omega), iteT ⟨_, _, rfl, rfl, true, dec_t (show (x.length : Int) ≤ 9 by omega), iteF ⟨_, rfl, x, 0, c, rfl, rfl, sz_of (by omega), atI_nat (j := 0) hc, rfl, _, rfl, ?_⟩⟩⟩
            by_cases e : c = 48
            · subst e
              rw [decide_eq_true (show V.str ⟨#[48]⟩ = V.str "0" from rfl)]
              refine iteT ⟨_, rfl, rfl, _, rfl, ?_⟩
              rw [dec_vstr]
              simpa using k
            · have e2 : ¬ V.str ⟨#[c]⟩ = V.str "0" := fun z => by
                have z2 : (⟨#[c]⟩ : Str) = "0" := V.str.inj z
                have z3 : TL.tl (⟨#[c]⟩ : Str) = TL.tl ("0" : Str) := congrArg TL.tl z2
                have z4 : [c] = [48] := z3.trans (by decide +kernel)
                exact e (List.cons.inj z4).1
              rw [decide_eq_false e2]
              refine iteF ?_
              simpa [e] using k
          · rw [decide_eq_false c2] at k
            exact ⟨_, rfl, x, rfl, sz_of (by omega), _, _, rfl, rfl, true, dec_t (show (1 : Int) ≤ (x.length : Int) by omega), iteT ⟨_, _, rfl, rfl, false, dec_f (show ¬ (x.length : Int) ≤ 9 by omega), iteT k⟩⟩
        · rw [decide_eq_false c1] at k
          exact ⟨_, rfl, x, rfl, sz_of (by omega), _, _, rfl, rfl, false, dec_f (show ¬ (1 : Int) ≤ (x.length : Int) by omega), iteF ⟨_, rfl, iteT k⟩⟩
      · rw [hbad (by unfold numOk; rw [c]; rfl)] at k
        exact k
      have c' : badHead x = false := by simpa using c
      refine sq_forS (fun Q k => ⟨_, rfl, k⟩) (fun j σ' H3 => H3 = H' ∧ (((TL.tl x).take j).all fun c => decide (c ∈ TL.tl ("0123456789" : Str))) = true ∧ ∃ y, σ' = [some (.ref l), some (.str x), y]) ⟨rfl, rfl, y2, rfl⟩ (fun j c2 σ' H3 hc2 hP => ?_) (fun σ' H3 hP => ?_)
      · obtain ⟨rfl, hd, y, rfl⟩ := hP
        refine if_ifP (p := ¬ c2 ∈ TL.tl ("0123456789" : Str)) (fun Q k => ⟨_, rfl, c2, _, rfl, rfl, _, rfl, by rw [← decide_not]; exact k⟩) (fun hm => ?_) (fun hm => ?_)
        · rw [hbad (by
            unfold numOk
            rw [c', Bool.not_false, Bool.true_and, List.all_eq_false]
            exact ⟨c2, List.mem_of_getElem? hc2, by simpa using hm⟩)] at k
          exact k
        · refine sq_nx ⟨rfl, ?_, _, rfl⟩
          rw [List.take_add_one, hc2, List.all_append, hd]
          simpa using hm
      · obtain ⟨rfl, hd, y, rfl⟩ := hP
        refine ⟨rfl, ?_, _, _, rfl⟩
        rw [List.take_add_one, hxe, List.all_append, hpre]
        have e : x.cps.size = (TL.tl x).length := by simp [TL.tl]
        rw [e, List.take_length] at hd
        have e2 : numOk x = true := by
          unfold numOk
          rw [c', hd]
          rfl
        show (true && (numOk x && true)) = true
        rw [e2]
        rfl
    · obtain ⟨rfl, hpre, y1, y2, rfl⟩ := hP
      rw [List.length_map, List.take_length] at hpre
      rw [hpre] at k
      exact k

theorem ok_iscashB {f : Addr} {fd : FuncData} (D : DefAt K mg "_is_cash" s_iscash ["words"] f fd) (m_len : mg "len" = none)
    {f1 : Addr} {fd1 : FuncData} (D_arenum : DefAt K mg "_are_numbers" s_arenum ["words"] f1 fd1) (G_arenum : FnOk P w K mg base CX0 1 f1 fd1 ["words"] (spAreNumB K)) : FnOk P w K mg base CX0 2 f fd ["words"] (spRowOk K cashOk) := by
  refine D.F.ok sc_iscash (fun vs H Q E h => ?_) (fun cdv A outer s H vs Q E hr h => ?_)
  · obtain ⟨l, ws, rfl, _⟩ := h
    rfl
  · obtain ⟨l, ws, rfl, hl, hne, hw, k⟩ := h
    cases ws with
    | nil => exact absurd rfl hne
    | cons w0 wr =>
    have hlen : ((w0 :: wr).map V.str).length = wr.length + 1 := by simp
    refine ⟨_, pss_one (ps_ret (pe_and (pe_cmpR op_eq (pe_ix (r := rIxL K) ix_list (pv 0) pe_int (fun _ _ => rfl)) pe_str (nomark _)) (pe_and (pe_cmpR op_gt (pe_callB (r := rLen K) call_len (by rfl) m_len (by decide +kernel) (pa_cons (pv 0) pa_nil)) pe_int (nomark _)) (pe_one (pe_call G_arenum (hr.mono (by decide)) (by rfl) D_arenum.g D_arenum.F.kp D_arenum.b .nil pass0 (pa_cons (pe_slice sl_list (pv 0) (po_some pe_int) po_none) pa_nil)))))), ?_⟩
    rw [cashOk_cons] at k
    refine ⟨_, rfl, l, _, 0, _, rfl, rfl, hl, atI_nat (j := 0) rfl, rfl, ?_⟩
    rw [dec_vstr]
    by_cases c0 : w0 = ("cash" : Str)
    · rw [decide_eq_true c0] at k ⊢
      by_cases c1 : 0 < wr.length
      · rw [decide_eq_true c1] at k
        refine ⟨_, rfl, iteT ⟨_, rfl, l, _, rfl, .inl hl, _, _, rfl, rfl, true, dec_t (show (1 : Int) < (((w0 :: wr).map V.str).length : Int) by rw [hlen]; omega), iteT ?_⟩⟩
        refine ⟨_, rfl, 1, rfl, slQ_up hl fun p np => ⟨p, wr, rfl, sq_of ?_, fun w hm => hw w (List.mem_cons_of_mem _ hm), k _ (Same.new np)⟩⟩
        rw [upd_same]
        exact congrArg (fun z => some (HO.lst z)) (cutV_drop (j := 1) (by rw [hlen]; omega))
      · rw [decide_eq_false c1] at k
        exact ⟨_, rfl, iteT ⟨_, rfl, l, _, rfl, .inl hl, _, _, rfl, rfl, false, dec_f (show ¬ (1 : Int) < (((w0 :: wr).map V.str).length : Int) by rw [hlen]; omega), iteF (k _ (Same.refl _))⟩⟩
    · rw [decide_eq_false c0] at k ⊢
      exact ⟨_, rfl, iteF (k _ (Same.refl _))⟩

theorem ok_isclaimB {f : Addr} {fd : FuncData} (D : DefAt K mg "_is_claim" s_isclaim ["words"] f fd) (m_len : mg "len" = none)
    {f1 : Addr} {fd1 : FuncData} (D_arenum : DefAt K mg "_are_numbers" s_arenum ["words"] f1 fd1) (G_arenum : FnOk P w K mg base CX0 1 f1 fd1 ["words"] (spAreNumB K)) : FnOk P w K mg base CX0 2 f fd ["words"] (spRowOk K clmOk) := by
  refine D.F.ok sc_isclaim (fun vs H Q E h => ?_) (fun cdv A outer s H vs Q E hr h => ?_)
  · obtain ⟨l, ws, rfl, _⟩ := h
    rfl
  · obtain ⟨l, ws, rfl, hl, hne, hw, k⟩ := h
    refine ⟨_, pss_cons (ps_if (pt_cmpR op_ne (pe_callB (r := rLen K) call_len (by rfl) m_len (by decide +kernel) (pa_cons (pv 0) pa_nil)) pe_int (nomark _)) (pss_one (ps_ret pe_bl)) pss_nil)
        (pss_cons (ps_asg (pv 0) (pg_lst rfl (pgs_cons (pg_name (i := 1) sc_isclaim.nd rfl (.inl rfl)) (pgs_cons (pg_name (i := 2) sc_isclaim.nd rfl (.inl rfl)) (pgs_cons (pg_name (i := 3) sc_isclaim.nd rfl (.inl rfl)) (pgs_cons (pg_name (i := 4) sc_isclaim.nd rfl (.inl rfl)) (pgs_cons (pg_name (i := 5) sc_isclaim.nd rfl (.inl rfl)) (pgs_cons (pg_name (i := 6) sc_isclaim.nd rfl (.inl rfl)) pgs_nil))))))))
        (pss_one (ps_ret (pe_and (pe_cmpR op_eq (pv 2) pe_str (nomark _)) (pe_and (pe_cmpR op_eq (pv 5) pe_str (nomark _)) (pe_one (pe_call G_arenum (hr.mono (by decide)) (by rfl) D_arenum.g D_arenum.F.kp D_arenum.b .nil pass0 (pa_cons (pe_lst (pa_cons (pv 1) (pa_cons (pv 3) (pa_cons (pv 4) (pa_cons (pv 6) pa_nil))))) pa_nil)))))))), ?_⟩
    refine sq_whenP (p := ¬ ((ws.length : Int) = 6)) (fun Q k => ⟨_, rfl, l, _, rfl, .inl hl, rfl, _, rfl, by rw [dec_vint, ← decide_not, List.length_map]; exact k⟩) (fun c => ?_) (fun c => ?_)
    · have e : clmOk ws = false := by
        unfold clmOk
        split
        · exact absurd rfl c
        · rfl
      rw [e] at k
      exact k _ (Same.refl _)
    match ws, hl, hw, k, c with
    | [d, o, c, a, t, r], hl, hw, k, _ =>
      refine ⟨_, rfl, l, _, rfl, hl, rfl, _, _, rfl, _, _, rfl, _, _, rfl, _, _, rfl, _, _, rfl, _, _, rfl, rfl, ?_⟩
      try dsimp only
      refine ⟨_, rfl, rfl, ?_⟩
      rw [clmOk_six] at k
      rw [dec_vstr]
      by_cases c0 : o = ("owes" : Str)
      · rw [decide_eq_true c0] at k ⊢
        refine ⟨_, rfl, iteT ⟨_, rfl, rfl, ?_⟩⟩
        rw [dec_vstr]
        by_cases c1 : t = ("at" : Str)
        · rw [decide_eq_true c1] at k ⊢
          refine ⟨_, rfl, iteT ⟨_, rfl, _, rfl, _, rfl, _, rfl, by show 4 ≤ sizeLine; decide, fun p np => ⟨p, [d, c, a, r], rfl, sq_of upd_same, fun x hx => hw x ?_, k _ (Same.new np)⟩⟩⟩
          simp only [List.mem_cons, List.not_mem_nil, or_false] at hx ⊢
          rcases hx with h | h | h | h <;> simp [h]
        · rw [decide_eq_false c1] at k ⊢
          exact ⟨_, rfl, iteF (k _ (Same.refl _))⟩
      · rw [decide_eq_false c0] at k ⊢
        exact ⟨_, rfl, iteF (k _ (Same.refl _))⟩
    | [], _, _, _, c => exact (c (by simp)).elim
    | [_], _, _, _, c => exact (c (by simp)).elim
    | [_, _], _, _, _, c => exact (c (by simp)).elim
    | [_, _, _], _, _, _, c => exact (c (by simp)).elim
    | [_, _, _, _], _, _, _, c => exact (c (by simp)).elim
    | [_, _, _, _, _], _, _, _, c => exact (c (by simp)).elim
    | _ :: _ :: _ :: _ :: _ :: _ :: _ :: _, _, _, _, c => exact (c (by simp only [List.length_cons]; omega)).elim
end


end Rf
namespace Rf
open PySem PySem.Spec PyProof.Rows L2
/-! ### read refuses -/
structure Fit9 (B : Bk) : Prop where
  n0 : 1 ≤ B.cash.length
  n1 : B.cash.length ≤ 11
  m1 : B.claims.length ≤ 90
  cash : ∀ x ∈ B.cash, Small9 x
  claims : ∀ q ∈ B.claims, Small9 q.d ∧ Small9 q.c ∧ Small9 q.a ∧ Small9 q.r
theorem Bk.clm_mem {B : Bk} {i : Nat} (h : i < B.claims.length) : B.clm i ∈ B.claims := List.mem_of_getElem? (Bk.clm_get h)
theorem Fit9.clm {B : Bk} (h : Fit9 B) {i : Nat} (hi : i < B.claims.length) : Small9 (B.clm i).d ∧ Small9 (B.clm i).c ∧ Small9 (B.clm i).a ∧ Small9 (B.clm i).r := h.claims _ (Bk.clm_mem hi)
theorem nS_word {i : Int} (h : Small9 i) : (nS i).length ≤ 12 ∧ (32 : Nat) ∉ TL.tl (nS i) ∧ (10 : Nat) ∉ TL.tl (nS i) := ⟨Nat.le_trans (nS_len9 h) (by decide), nS_free h.1 (.inl (by decide)), nS_free h.1 (.inl (by decide))⟩
theorem wordsOf_row {q : Clm} (h : Small9 q.d ∧ Small9 q.c ∧ Small9 q.a ∧ Small9 q.r) : isRow (wordsOf q) = true := isRow_of (by unfold wordsOf; simp) (by unfold wordsOf; simp) fun p hp => by
  unfold wordsOf at hp
  simp only [List.mem_cons, List.not_mem_nil, or_false] at hp
  rcases hp with rfl | rfl | rfl | rfl | rfl | rfl
  · exact nS_word h.1
  · decide +kernel
  · exact nS_word h.2.1
  · exact nS_word h.2.2.1
  · decide +kernel
  · exact nS_word h.2.2.2
theorem Fit9.rows {B : Bk} (h : Fit9 B) : ∀ ws ∈ rowsOf B, isRow ws = true := fun ws hw => by
  rcases List.mem_cons.mp hw with rfl | hw
  · refine isRow_of (by unfold cashWords; simp) (by unfold cashWords; rw [List.length_cons, List.length_map]; have := h.n1; omega) fun p hp => ?_
    rcases List.mem_cons.mp hp with rfl | hp
    · decide +kernel
    · obtain ⟨x, hx, rfl⟩ := List.mem_map.mp hp
      exact nS_word (h.cash x hx)
  · obtain ⟨q, hq, rfl⟩ := List.mem_map.mp hw
    exact wordsOf_row (h.claims q hq)
theorem wordsOf_ok {q : Clm} (h : Small9 q.d ∧ Small9 q.c ∧ Small9 q.a ∧ Small9 q.r) : clmOk (wordsOf q) = true := by
  unfold wordsOf clmOk
  simp [nS_ok h.1, nS_ok h.2.1, nS_ok h.2.2.1, nS_ok h.2.2.2]
theorem Fit9.cashOk {B : Bk} (h : Fit9 B) : cashOk (cashWords B) = true := by
  have n0 := h.n0
  unfold cashWords
  rw [cashOk_cons]
  have e : (B.cash.map nS).all numOk = true := by
    rw [List.all_eq_true]
    intro p hp
    obtain ⟨x, hx, rfl⟩ := List.mem_map.mp hp
    exact nS_ok (h.cash x hx)
  rw [e]
  have e2 : 0 < (B.cash.map nS).length := by rw [List.length_map]; omega
  simp only [decide_eq_true e2, decide_true, Bool.and_self]
/-- a text with a row that is none -/
def spReadT (K : PySem.W.Frag) (C : Addr) : Sp := fun vs H _ E => ∃ (L : List (List Str)) (i : Nat), vs = [.str (Txt.join "\n" (L.map rowS))] ∧ L.length ≤ 100 ∧ (∀ ws ∈ L, isRow ws = true) ∧ i < L.length ∧ (∀ j ws, j < i → L[j]? = some ws → rowOk j ws = true) ∧ (∃ ws, L[i]? = some ws ∧ rowOk i ws = false) ∧
  ∀ d H', Same H H' → H d = none → H' d = some (.xd [("row", .int (i : Int))]) → E (.ref C) (some d) H'
/-- a text of rows, but no book -/
def spReadW (K : PySem.W.Frag) (C : Addr) : Sp := fun vs H _ E => ∃ (B : Bk) (n : Int) (y : Str), vs = [.str (textOf B)] ∧ Fit9 B ∧ Wrong B n y ∧
  ∀ d H', Same H H' → H d = none → H' d = some (.xd [("why", .str y), ("at", .int n)]) → E (.ref C) (some d) H'
section
variable {P : Program} {w : World} {K : PySem.W.Frag} {mg : Str → Option Value} {base : Heap}

theorem ok_readT {f : Addr} {fd : FuncData} (D : DefAt K mg "read" s_read ["text"] f fd) (m_enumerate : mg "enumerate" = none)
    {f2 : Addr} {fd2 : FuncData} (D_iscash : DefAt K mg "_is_cash" s_iscash ["words"] f2 fd2) (G_iscash : FnOk P w K mg base CX0 2 f2 fd2 ["words"] (spRowOk K cashOk))
    {f3 : Addr} {fd3 : FuncData} (D_isclaim : DefAt K mg "_is_claim" s_isclaim ["words"] f3 fd3) (G_isclaim : FnOk P w K mg base CX0 2 f3 fd3 ["words"] (spRowOk K clmOk))
    {CT fi cc cda : Addr} {fdi : FuncData} (X_BadText : InitAt P K mg "BadText" CT fi cc cda fdi "BadText.__init__" s_btinit ["self", "row"]) (hrow : PySem.W.findIn K (.ref CT) "row" = some none) : FnOk P w K mg base (L2.CX P w) 5 f fd ["text"] (spReadT K CT) := by
  have G_btinit : FnOk P w K mg base CX0 1 fi fdi ["self", "row"] (spOne CT "row") := ok_btinit X_BadText hrow
  refine D.F.okX sc_read (fun vs H Q E h => ?_) (fun cdv A outer s H vs Q E hr h => ?_)
  · obtain ⟨L, i, rfl, _⟩ := h
    rfl
  · obtain ⟨L, i, rfl, hL, hrows, hi, hpre, hbad, k⟩ := h
    have hne : L ≠ [] := fun e => by
      subst e
      exact absurd hi (Nat.not_lt_zero _)
    have tl := rows_len hrows
    have tl2 : (Txt.join "\n" (L.map rowS)).length ≤ 20000 := Nat.le_trans tl (by omega)
    have w1 : (" " : Str).length = 1 := by decide +kernel
    have w2 : ("\n" : Str).length = 1 := by decide +kernel
    refine ⟨_, pss_cons (ps_setLc (i := 1) (own := [("row", 13)]) (g := gName 13) (tt := tYes) (by rfl) sc_read.nd rfl rfl (sw_true rfl rfl rfl (by decide +kernel)) (pi_list (pe_split (pv 0) pe_str)) (blkOk_by (own := [("row", 13)]) (N := ["text", "rows", "number", "words", "good", "cash", "claims", "debtor", "_", "creditor", "amount", "rank", "book", "row", "word"]) (sc := defScope s_read) (by decide +kernel)) (fun _ _ _ _ _ => (pg_name (i := 13) sc_read.nd rfl (.inl rfl))) (fun _ _ _ _ _ => pts_nil) (fun _ _ _ _ _ => (pe_split (pv 13) pe_str)))
        (pss_cons (ps_for (passes_of rfl) rfl (pi_enum (by rfl) m_enumerate (pa_cons (pv 1) pa_nil)) (pg_tup rfl (pgs_cons (pg_name (i := 2) sc_read.nd rfl (.inl rfl)) (pgs_cons (pg_name (i := 3) sc_read.nd rfl (.inl rfl)) pgs_nil))) (pss_cons (ps_set (i := 4) sc_read.nd rfl (.inl rfl) (pe_ifExp (pt_cmpR op_eq (pv 2) pe_int (nomark _)) (pe_call G_iscash (hr.mono (by decide)) (by rfl) D_iscash.g D_iscash.F.kp D_iscash.b .nil pass0 (pa_cons (pv 3) pa_nil)) (pe_call G_isclaim (hr.mono (by decide)) (by rfl) D_isclaim.g D_isclaim.F.kp D_isclaim.b .nil pass0 (pa_cons (pv 3) pa_nil))))
          (pss_one (ps_if (pt_not (pt_val (pv 4))) (pss_one (ps_raise rfl (takes_of rfl rfl rfl rfl) (pmk_oex X_BadText.T X_BadText.iC X_BadText.tI G_btinit (hr.mono (by decide)) X_BadText.b .nil pass0 (by rfl) X_BadText.gC (pa_cons (pv 2) pa_nil)))) pss_nil))))
        (pss_cons ps_never
        (pss_cons ps_never
        (pss_cons ps_never
        (pss_cons ps_never
        (pss_cons ps_never
        (pss_one ps_never))))))), ?_⟩
    -- the rows' words
    refine sq_set (fun v H1 => Same H H1 ∧ ∃ d ls, v = .ref d ∧ H1 d = some (.lst (ls.map V.ref)) ∧ WsAt H1 ls L ∧ H d = none) (fun Q k => ?_) (fun v H1 hv => ?_)
    · refine ⟨_, rfl, ⟨_, rfl⟩, Txt.join "\n" (L.map rowS), "\n", rfl, rfl, by rw [w2]; rfl, sz_of (by omega), fun q nq => ⟨q, rfl, ⟨_, sq_of upd_same⟩, fun d nd => ?_⟩⟩
      rw [rows_split hne hrows] at nd ⊢
      refine lc_list (xs := (L.map rowS).map V.str) (fun j H' => Same (upd H q (.lst ((L.map rowS).map V.str))) H' ∧ ∃ ls, H' d = some (.lst (ls.map V.ref)) ∧ WsAt H' ls (L.take j) ∧ d ∉ ls) ⟨Same.new nd, [], upd_same, ⟨rfl, fun i l ws h => by cases h⟩, by simp⟩ (fun j H' _ hP => hP.1.seq (sq_of upd_same)) (fun j y H' hy hP => ?_) (fun H' hP => ?_)
      · obtain ⟨s', ls, hd, hls, ndl⟩ := hP
        obtain ⟨ws, hws, rfl⟩ : ∃ ws, L[j]? = some ws ∧ y = .str (rowS ws) := by
          rw [List.map_map, List.getElem?_map] at hy
          cases e : L[j]? with
          | none =>
            rw [e] at hy
            cases hy
          | some ws =>
            rw [e] at hy
            exact ⟨ws, rfl, (Option.some.inj hy).symm⟩
        have hmem := List.mem_of_getElem? hws
        have hj := (List.getElem?_eq_some_iff.mp hws).1
        have l1 := isRow_rowlen (hrows ws hmem)
        refine ⟨rfl, _, rfl, ⟨_, rfl⟩, rowS ws, " ", rfl, rfl, by rw [w1]; rfl, sz_of (by omega), fun l nl => ⟨_, Same.new nl _ _ hd, ?_, Same.mut (s'.trans (Same.new nl)) nd, ls ++ [l], ?_, ?_, ?_⟩⟩
        · rw [List.length_map, hls.1, List.length_take]
          exact sz_lt (by omega)
        · rw [upd_same, List.map_append]
          rfl
        · rw [List.take_add_one, hws]
          refine ((hls.same (Same.new nl)).app ?_).put ?_
          · rw [upd_same, isRow_split (hrows ws hmem)]
          · intro z
            rcases List.mem_append.mp z with z | z
            · exact ndl z
            · rw [List.mem_singleton.mp z, nl] at hd
              cases hd
        · intro z
          rcases List.mem_append.mp z with z | z
          · exact ndl z
          · rw [List.mem_singleton.mp z, nl] at hd
            cases hd
      · obtain ⟨s', ls, hd, hls, _⟩ := hP
        rw [List.length_map, List.length_map, List.take_length] at hls
        exact k _ _ ⟨(Same.new nq).trans s', d, ls, rfl, hd, hls, (Same.new nq).free nd⟩
    obtain ⟨s1, rw', ls, rfl, hrw, hls, nrw⟩ := hv
    -- the first row that is none
    refine sq_norm [some (.str (Txt.join "\n" (L.map rowS))), some (.ref rw'), none, none, none, none, none, none, none, none, none, none, none, none, none] rfl ?_
    refine sq_forE (xs := ls.map V.ref) (fun Q k => ⟨_, rfl, k⟩) (sq_of hrw)
      (fun j σ' H' => Same H1 H' ∧ j ≤ i ∧ ∃ y2 y3 y4, σ' = [some (.str (Txt.join "\n" (L.map rowS))), some (.ref rw'), y2, y3, y4, none, none, none, none, none, none, none, none, none, none]) ⟨Same.refl _, Nat.zero_le _, none, none, none, rfl⟩ (fun i σ' H' _ hP => hP.1.seq (sq_of hrw)) (fun j x U σ' H' hx hP hU => ?_) (fun σ' H' hP => ?_)
    · obtain ⟨s2, hji, y2, y3, y4, rfl⟩ := hP
      obtain ⟨l, rfl, hl⟩ := map_ref_get hx
      obtain ⟨ws, hws⟩ : ∃ ws, L[j]? = some ws := ⟨_, List.getElem?_eq_getElem (by rw [← hls.1]; exact (List.getElem?_eq_some_iff.mp hl).1)⟩
      have hmem := List.mem_of_getElem? hws
      have hwl := (s2.trans (Same.new hU (o := .tup [.int (j : Int), .ref l]))) _ _ (hls.2 j l ws hl hws)
      have hne2 := isRow_ne (hrows ws hmem)
      have hlen : ∀ w ∈ ws, w.length ≤ 1000 := fun w hw => Nat.le_trans (isRow_word (hrows ws hmem) hw).1 (by decide)
      refine ⟨U, _, rfl, st_of upd_same, rfl, _, _, rfl, _, _, rfl, rfl, ?_⟩
      try dsimp only
      refine sq_set (fun v H3 => Same H' H3 ∧ v = .bl (rowOk j ws)) (fun Q k => ⟨_, rfl, rfl, _, rfl, ?_⟩) (fun v H3 hv => ?_)
      · rw [dec_vint]
        unfold rowOk at k
        by_cases c : j = 0
        · rw [decide_eq_true (show (j : Int) = 0 by omega)]
          rw [if_pos c] at k
          exact iteT ⟨_, rfl, l, ws, rfl, sq_of hwl, hne2, hlen, fun H3 s3 => k _ _ ⟨(Same.new hU).trans s3, rfl⟩⟩
        · rw [decide_eq_false (show ¬ (j : Int) = 0 by omega)]
          rw [if_neg c] at k
          exact iteF ⟨_, rfl, l, ws, rfl, sq_of hwl, hne2, hlen, fun H3 s3 => k _ _ ⟨(Same.new hU).trans s3, rfl⟩⟩
      obtain ⟨s3, rfl⟩ := hv
      by_cases c : j = i
      · subst c
        obtain ⟨ws', e1, e2⟩ := hbad
        rw [hws] at e1
        cases e1
        rw [e2]
        refine ⟨_, rfl, false, rfl, iteT ⟨_, rfl, raise_one (by omega) (by omega) fun d nd => k d _ (((s1.trans s2).trans s3).trans (Same.new nd)) (((s1.trans s2).trans s3).free nd) upd_same⟩⟩
      · rw [hpre j ws (by omega) hws]
        exact ⟨_, rfl, true, rfl, iteF ⟨s2.trans s3, by omega, _, _, _, rfl⟩⟩
    · obtain ⟨_, hji, _⟩ := hP
      rw [List.length_map, hls.1] at hji
      omega
theorem ok_readW {f : Addr} {fd : FuncData} (D : DefAt K mg "read" s_read ["text"] f fd) (m_enumerate : mg "enumerate" = none) (m_int : mg "int" = none) (m_tuple : mg "tuple" = none)
    {C : Addr} {f1 : Addr} {fd1 : FuncData} (D_need : DefAt K mg "need_book" s_need ["book"] f1 fd1) (GX_need : FnOk P w K mg base (L2.CX P w) 4 f1 fd1 ["book"] (spBad K C 0))
    {f2 : Addr} {fd2 : FuncData} (D_iscash : DefAt K mg "_is_cash" s_iscash ["words"] f2 fd2) (G_iscash : FnOk P w K mg base CX0 2 f2 fd2 ["words"] (spRowOk K cashOk))
    {f3 : Addr} {fd3 : FuncData} (D_isclaim : DefAt K mg "_is_claim" s_isclaim ["words"] f3 fd3) (G_isclaim : FnOk P w K mg base CX0 2 f3 fd3 ["words"] (spRowOk K clmOk))
    {CT fi cc cda : Addr} {fdi : FuncData} (X_BadText : InitAt P K mg "BadText" CT fi cc cda fdi "BadText.__init__" s_btinit ["self", "row"]) (hrow : PySem.W.findIn K (.ref CT) "row" = some none) : FnOk P w K mg base (L2.CX P w) 5 f fd ["text"] (spReadW K C) := by
  have G_btinit : FnOk P w K mg base CX0 1 fi fdi ["self", "row"] (spOne CT "row") := ok_btinit X_BadText hrow
  refine D.F.okX sc_read (fun vs H Q E h => ?_) (fun cdv A outer s H vs Q E hr h => ?_)
  · obtain ⟨B, n, y, rfl, _⟩ := h
    rfl
  · obtain ⟨B, n, y, rfl, N9, hW, k⟩ := h
    have n0 := N9.n0
    have n1 := N9.n1
    have m1 := N9.m1
    have hrows := N9.rows
    have hcashOk := N9.cashOk
    have tl := rows_len hrows
    have lL : (rowsOf B).length = B.claims.length + 1 := by unfold rowsOf; simp
    have tl2 : (textOf B).length ≤ 20000 := Nat.le_trans tl (by rw [lL]; omega)
    have w1 : (" " : Str).length = 1 := by decide +kernel
    have w2 : ("\n" : Str).length = 1 := by decide +kernel
    refine ⟨_, pss_cons (ps_setLc (i := 1) (own := [("row", 13)]) (g := gName 13) (tt := tYes) (by rfl) sc_read.nd rfl rfl (sw_true rfl rfl rfl (by decide +kernel)) (pi_list (pe_split (pv 0) pe_str)) (blkOk_by (own := [("row", 13)]) (N := ["text", "rows", "number", "words", "good", "cash", "claims", "debtor", "_", "creditor", "amount", "rank", "book", "row", "word"]) (sc := defScope s_read) (by decide +kernel)) (fun _ _ _ _ _ => (pg_name (i := 13) sc_read.nd rfl (.inl rfl))) (fun _ _ _ _ _ => pts_nil) (fun _ _ _ _ _ => (pe_split (pv 13) pe_str)))
        (pss_cons (ps_for (passes_of rfl) rfl (pi_enum (by rfl) m_enumerate (pa_cons (pv 1) pa_nil)) (pg_tup rfl (pgs_cons (pg_name (i := 2) sc_read.nd rfl (.inl rfl)) (pgs_cons (pg_name (i := 3) sc_read.nd rfl (.inl rfl)) pgs_nil))) (pss_cons (ps_set (i := 4) sc_read.nd rfl (.inl rfl) (pe_ifExp (pt_cmpR op_eq (pv 2) pe_int (nomark _)) (pe_call G_iscash (hr.mono (by decide)) (by rfl) D_iscash.g D_iscash.F.kp D_iscash.b .nil pass0 (pa_cons (pv 3) pa_nil)) (pe_call G_isclaim (hr.mono (by decide)) (by rfl) D_isclaim.g D_isclaim.F.kp D_isclaim.b .nil pass0 (pa_cons (pv 3) pa_nil))))
          (pss_one (ps_if (pt_not (pt_val (pv 4))) (pss_one (ps_raise rfl (takes_of rfl rfl rfl rfl) (pmk_oex X_BadText.T X_BadText.iC X_BadText.tI G_btinit (hr.mono (by decide)) X_BadText.b .nil pass0 (by rfl) X_BadText.gC (pa_cons (pv 2) pa_nil)))) pss_nil))))
        (pss_cons (ps_setLc (i := 5) (own := [("word", 14)]) (g := gName 14) (tt := tYes) (by rfl) sc_read.nd rfl rfl (sw_true rfl rfl rfl (by decide +kernel)) (pi_list (pe_slice sl_list (pe_ix (r := rIxL K) ix_list (pv 1) pe_int (fun _ _ => rfl)) (po_some pe_int) po_none)) (blkOk_by (own := [("word", 14)]) (N := ["text", "rows", "number", "words", "good", "cash", "claims", "debtor", "_", "creditor", "amount", "rank", "book", "row", "word"]) (sc := defScope s_read) (by decide +kernel)) (fun _ _ _ _ _ => (pg_name (i := 14) sc_read.nd rfl (.inl rfl))) (fun _ _ _ _ _ => pts_nil) (fun _ _ _ _ _ => (pe_callTy call_int_str (by rfl) m_int (by decide +kernel) (pa_cons (pv 14) pa_nil))))
        (pss_cons (ps_set (i := 6) sc_read.nd rfl (.inl rfl) (pe_lst pa_nil))
        (pss_cons (ps_for (passes_of rfl) rfl (pi_list (pe_slice sl_list (pv 1) (po_some pe_int) po_none)) (pg_lst rfl (pgs_cons (pg_name (i := 7) sc_read.nd rfl (.inl rfl)) (pgs_cons (pg_name (i := 8) sc_read.nd rfl (.inl rfl)) (pgs_cons (pg_name (i := 9) sc_read.nd rfl (.inl rfl)) (pgs_cons (pg_name (i := 10) sc_read.nd rfl (.inl rfl)) (pgs_cons (pg_name (i := 8) sc_read.nd rfl (.inl rfl)) (pgs_cons (pg_name (i := 11) sc_read.nd rfl (.inl rfl)) pgs_nil))))))) (pss_one (ps_expr (pe_bm PySem.F.plainAttrs_list PySem.F.slot_list_append PySem.F.type_list_append mt_append (pv 6) (pa_cons (pe_tup (pa_cons (pe_callTy call_int_str (by rfl) m_int (by decide +kernel) (pa_cons (pv 7) pa_nil)) (pa_cons (pe_callTy call_int_str (by rfl) m_int (by decide +kernel) (pa_cons (pv 9) pa_nil)) (pa_cons (pe_callTy call_int_str (by rfl) m_int (by decide +kernel) (pa_cons (pv 10) pa_nil)) (pa_cons (pe_callTy call_int_str (by rfl) m_int (by decide +kernel) (pa_cons (pv 11) pa_nil)) pa_nil))))) pa_nil)))))
        (pss_cons (ps_set (i := 12) sc_read.nd rfl (.inl rfl) (pe_tup (pa_cons (pe_callTy (r := rTupleOf K) call_tupleOf (by rfl) m_tuple (by decide +kernel) (pa_cons (pv 5) pa_nil)) (pa_cons (pe_callTy (r := rTupleOf K) call_tupleOf (by rfl) m_tuple (by decide +kernel) (pa_cons (pv 6) pa_nil)) pa_nil))))
        (pss_cons (ps_expr (pe_callS GX_need (hr.mono (by decide)) (by rfl) D_need.g D_need.F.kp D_need.b (fun σ => passAt (takes_of rfl rfl rfl rfl) σ) (pa_cons (pv 12) pa_nil)))
        (pss_one (ps_ret (pv 12))))))))), ?_⟩
    -- the rows' words
    refine sq_set (fun v H1 => Same H H1 ∧ ∃ d ls, v = .ref d ∧ H1 d = some (.lst (ls.map V.ref)) ∧ WsAt H1 ls (rowsOf B) ∧ H d = none) (fun Q k => ?_) (fun v H1 hv => ?_)
    · refine ⟨_, rfl, ⟨_, rfl⟩, textOf B, "\n", rfl, rfl, by rw [w2]; rfl, sz_of (by omega), fun q nq => ⟨q, rfl, ⟨_, sq_of upd_same⟩, fun d nd => ?_⟩⟩
      rw [show Txt.split (textOf B) "\n" = (rowsOf B).map rowS from rows_split (L := rowsOf B) (by unfold rowsOf; simp) hrows] at nd ⊢
      refine lc_list (xs := ((rowsOf B).map rowS).map V.str) (fun j H' => Same (upd H q (.lst (((rowsOf B).map rowS).map V.str))) H' ∧ ∃ ls, H' d = some (.lst (ls.map V.ref)) ∧ WsAt H' ls ((rowsOf B).take j) ∧ d ∉ ls) ⟨Same.new nd, [], upd_same, ⟨rfl, fun i l ws h => by cases h⟩, by simp⟩ (fun j H' _ hP => hP.1.seq (sq_of upd_same)) (fun j y H' hy hP => ?_) (fun H' hP => ?_)
      · obtain ⟨s', ls, hd, hls, ndl⟩ := hP
        obtain ⟨ws, hws, rfl⟩ : ∃ ws, (rowsOf B)[j]? = some ws ∧ y = .str (rowS ws) := by
          rw [List.map_map, List.getElem?_map] at hy
          cases e : (rowsOf B)[j]? with
          | none =>
            rw [e] at hy
            cases hy
          | some ws =>
            rw [e] at hy
            exact ⟨ws, rfl, (Option.some.inj hy).symm⟩
        have hmem := List.mem_of_getElem? hws
        have hj := (List.getElem?_eq_some_iff.mp hws).1
        have l1 := isRow_rowlen (hrows ws hmem)
        refine ⟨rfl, _, rfl, ⟨_, rfl⟩, rowS ws, " ", rfl, rfl, by rw [w1]; rfl, sz_of (by omega), fun l nl => ⟨_, Same.new nl _ _ hd, ?_, Same.mut (s'.trans (Same.new nl)) nd, ls ++ [l], ?_, ?_, ?_⟩⟩
        · rw [List.length_map, hls.1, List.length_take]
          exact sz_lt (by omega)
        · rw [upd_same, List.map_append]
          rfl
        · rw [List.take_add_one, hws]
          refine ((hls.same (Same.new nl)).app ?_).put ?_
          · rw [upd_same, isRow_split (hrows ws hmem)]
          · intro z
            rcases List.mem_append.mp z with z | z
            · exact ndl z
            · rw [List.mem_singleton.mp z, nl] at hd
              cases hd
        · intro z
          rcases List.mem_append.mp z with z | z
          · exact ndl z
          · rw [List.mem_singleton.mp z, nl] at hd
            cases hd
      · obtain ⟨s', ls, hd, hls, _⟩ := hP
        rw [List.length_map, List.length_map, List.take_length] at hls
        exact k _ _ ⟨(Same.new nq).trans s', d, ls, rfl, hd, hls, (Same.new nq).free nd⟩
    obtain ⟨s1, rw', ls, rfl, hrw, hls, nrw⟩ := hv
    have lls : ls.length = B.claims.length + 1 := by rw [hls.1, lL]
    obtain ⟨l0, lr, rfl⟩ : ∃ l0 lr, ls = l0 :: lr := by
      cases ls with
      | nil => simp at lls
      | cons a b => exact ⟨a, b, rfl⟩
    have h00 : H1 l0 = some (.lst ((cashWords B).map V.str)) := hls.2 0 l0 _ rfl rfl
    have hlr : ∀ {H' : Hp}, Same H1 H' → ∀ i, (hi : i < B.claims.length) → ∃ l, lr[i]? = some l ∧ H' l = some (.lst ((wordsOf (B.clm i)).map V.str)) := fun s' i hi => by
      have : i < lr.length := by rw [List.length_cons] at lls; omega
      refine ⟨lr[i], List.getElem?_eq_getElem this, s' _ _ (hls.2 (i + 1) _ _ (by rw [List.getElem?_cons_succ, List.getElem?_eq_getElem this]) ?_)⟩
      show (B.claims.map wordsOf)[i]? = _
      rw [List.getElem?_map, Bk.clm_get hi]
      rfl
    -- each row is good
    refine sq_norm [some (.str (textOf B)), some (.ref rw'), none, none, none, none, none, none, none, none, none, none, none, none, none] rfl ?_
    refine sq_forE (xs := (l0 :: lr).map V.ref) (fun Q k => ⟨_, rfl, k⟩) (sq_of hrw)
      (fun i σ' H' => Same H1 H' ∧ ∃ y2 y3 y4, σ' = [some (.str (textOf B)), some (.ref rw'), y2, y3, y4, none, none, none, none, none, none, none, none, none, none]) ⟨Same.refl _, none, none, none, rfl⟩ (fun i σ' H' _ hP => hP.1.seq (sq_of hrw)) (fun i x U σ' H' hx hP hU => ?_) (fun σ' H' hP => ?_)
    · obtain ⟨s2, y2, y3, y4, rfl⟩ := hP
      obtain ⟨l, rfl, hl⟩ := map_ref_get hx
      refine ⟨U, _, rfl, st_of upd_same, rfl, _, _, rfl, _, _, rfl, rfl, ?_⟩
      try dsimp only
      refine sq_set (fun v H3 => Same H' H3 ∧ v = .bl true) (fun Q k => ⟨_, rfl, rfl, _, rfl, ?_⟩) (fun v H3 hv => ?_)
      · rw [dec_vint]
        cases i with
        | zero =>
          cases hl
          rw [decide_eq_true (show ((0 : Nat) : Int) = 0 from rfl)]
          refine iteT ⟨_, rfl, l0, cashWords B, rfl, sq_of ((s2.trans (Same.new hU)) _ _ h00), by unfold cashWords; simp, fun w hw => Nat.le_trans (isRow_word (hrows (cashWords B) List.mem_cons_self) hw).1 (by decide), fun H3 s3 => k _ _ ⟨(Same.new hU).trans s3, congrArg V.bl hcashOk⟩⟩
        | succ i =>
          have hi : i < B.claims.length := by
            have := (List.getElem?_eq_some_iff.mp hl).1
            rw [List.length_cons] at this lls
            omega
          obtain ⟨l', hl', hw⟩ := hlr (s2.trans (Same.new hU)) i hi
          have e : l' = l := by
            have e2 : lr[i]? = some l := hl
            rw [hl'] at e2
            exact Option.some.inj e2
          subst e
          have gc := N9.clm hi
          rw [decide_eq_false (show ¬ ((i + 1 : Nat) : Int) = 0 by omega)]
          exact iteF ⟨_, rfl, l', wordsOf (B.clm i), rfl, sq_of hw, by unfold wordsOf; simp, fun w hw => Nat.le_trans (isRow_word (hrows _ (List.mem_cons_of_mem _ (List.mem_map.mpr ⟨_, Bk.clm_mem hi, rfl⟩))) hw).1 (by decide), fun H3 s3 => k _ _ ⟨(Same.new hU).trans s3, congrArg V.bl (wordsOf_ok gc)⟩⟩
      obtain ⟨s3, rfl⟩ := hv
      exact ⟨_, rfl, true, rfl, iteF ⟨s2.trans s3, _, _, _, rfl⟩⟩
    obtain ⟨s2, y2, y3, y4, rfl⟩ := hP
    have lcw : ((cashWords B).map V.str).length = B.cash.length + 1 := by unfold cashWords; simp
    have ecw : cutV ((cashWords B).map V.str) (some 1) none = (B.cash.map nS).map V.str := cutV_drop (j := 1) (by rw [lcw]; omega)
    -- the coins
    refine sq_new (.lst (B.cash.map V.int)) (fun Q k => ?_) (fun co H3 nco s3 hco => ?_)
    · refine ⟨_, rfl, rw', _, 0, _, rfl, rfl, sq_of (s2 _ _ hrw), atI_nat (j := 0) rfl, 1, rfl, slQ_up (sq_of (s2 _ _ h00)) fun p np => ?_⟩
      rw [ecw]
      refine ⟨p, rfl, ⟨_, sq_of upd_same⟩, fun d nd => ?_⟩
      refine lc_list (xs := (B.cash.map nS).map V.str) (fun j H4 => Same (upd H' p (.lst ((B.cash.map nS).map V.str))) H4 ∧ H4 d = some (.lst ((B.cash.take j).map V.int))) ⟨Same.new nd, upd_same⟩ (fun j H4 _ hP => hP.1.seq (sq_of upd_same)) (fun j y H4 hy hP => ?_) (fun H4 hP => ?_)
      · obtain ⟨s4, hd⟩ := hP
        obtain ⟨hj, rfl⟩ : j < B.cash.length ∧ y = .str (nS (g B.cash j)) := by
          rw [List.map_map, List.getElem?_map] at hy
          cases e : B.cash[j]? with
          | none =>
            rw [e] at hy
            cases hy
          | some z =>
            have hj := (List.getElem?_eq_some_iff.mp e).1
            rw [g_get hj] at e hy
            exact ⟨hj, (Option.some.inj hy).symm⟩
        have gx := N9.cash _ (g_mem hj)
        have ln := nS_len9 gx
        refine ⟨rfl, _, rfl, nS (g B.cash j), g B.cash j, rfl, nS_int9 gx, by omega, _, hd, ?_, Same.mut s4 nd, ?_⟩
        · rw [List.length_map, List.length_take]
          exact sz_lt (by omega)
        · rw [upd_same, List.take_add_one, g_get hj, List.map_append]
          rfl
      · obtain ⟨s4, hd⟩ := hP
        rw [List.length_map, List.length_map, List.take_length] at hd
        exact k d H4 ((Same.new np).free nd) ((Same.new np).trans s4) hd
    refine sq_new (.lst []) (fun Q k => ⟨Nat.zero_le _, fun l nl => k l _ nl (Same.new nl) upd_same⟩) (fun cm H4 ncm s4 hcm => ?_)
    refine sq_norm [some (.str (textOf B)), some (.ref rw'), y2, y3, y4, some (.ref co), some (.ref cm), none, none, none, none, none, none, none, none] rfl ?_
    have s14 := s2.trans (s3.trans s4)
    have lrw : ((l0 :: lr).map V.ref).length = B.claims.length + 1 := by rw [List.length_map, lls]
    have erw : cutV ((l0 :: lr).map V.ref) (some 1) none = lr.map V.ref := cutV_drop (j := 1) (by rw [lrw]; omega)
    refine sq_forN (xs := lr.map V.ref) (fun Q k => ⟨_, rfl, 1, rfl, slQ_up (sq_of (s14 _ _ hrw)) fun p np => k p _ np (Same.new np) (by rw [upd_same, erw])⟩)
      (fun p i σ' H5 => Same H3 H5 ∧ H5 p = some (.lst (lr.map V.ref)) ∧ (∃ us, H5 cm = some (.lst (us.map V.ref)) ∧ ClmsAt K H5 us (B.claims.take i)) ∧ p ≠ cm ∧ ∃ y7 y8 y9 y10 y11, σ' = [some (.str (textOf B)), some (.ref rw'), y2, y3, y4, some (.ref co), some (.ref cm), y7, y8, y9, y10, y11, none, none, none])
      (fun p H5 np s5 hp => ⟨s4.trans s5, hp, ⟨[], s5 _ _ hcm, rfl, fun i t q h => by cases h⟩, (ne_of_none hcm np).symm, none, none, none, none, none, rfl⟩) (fun p i σ' H5 _ hP => sq_of hP.2.1) (fun p i y σ' H5 hy hP => ?_) (fun p σ' H5 hP => ?_)
    · obtain ⟨s5, hp, ⟨us, hus, hcs⟩, npc, y7, y8, y9, y10, y11, rfl⟩ := hP
      obtain ⟨l, rfl, hl⟩ := map_ref_get hy
      have hi : i < B.claims.length := by
        have := (List.getElem?_eq_some_iff.mp hl).1
        rw [List.length_cons] at lls
        omega
      obtain ⟨l', hl', hw⟩ := hlr (s2.trans (s3.trans s5)) i hi
      have e : l' = l := by
        rw [hl'] at hl
        exact Option.some.inj hl
      subst e
      have gc := N9.clm hi
      have ld := nS_len9 gc.1
      have lc := nS_len9 gc.2.1
      have la := nS_len9 gc.2.2.1
      have lr' := nS_len9 gc.2.2.2
      have hul : us.length ≤ 90 := by
        rw [hcs.1, List.length_take]
        omega
      refine ⟨l', _, rfl, sq_of hw, rfl, _, _, rfl, _, _, rfl, _, _, rfl, _, _, rfl, _, _, rfl, _, _, rfl, rfl, ?_⟩
      try dsimp only
      refine ⟨_, rfl, .inl ⟨rfl, _, sq_of hus⟩, _, rfl, nS (B.clm i).d, (B.clm i).d, rfl, nS_int9 gc.1, by omega, _, rfl, nS (B.clm i).c, (B.clm i).c, rfl, nS_int9 gc.2.1, by omega, _, rfl, nS (B.clm i).a, (B.clm i).a, rfl, nS_int9 gc.2.2.1, by omega, _, rfl, nS (B.clm i).r, (B.clm i).r, rfl, nS_int9 gc.2.2.2, by omega, by show 4 ≤ sizeLine; decide, fun t nt => ⟨cm, _, _, rfl, rfl, Same.new nt _ _ hus, by rw [List.length_map]; exact sz_lt (by omega), ?_⟩⟩
      refine ⟨Same.mut (s5.trans (Same.new nt)) ncm, ?_, ⟨us ++ [t], by rw [upd_same, List.map_append]; rfl, ?_⟩, npc, _, _, _, _, _, rfl⟩
      · rw [upd_ne npc]
        exact Same.new nt _ _ hp
      · rw [List.take_add_one, Bk.clm_get hi]
        exact ((hcs.same (Same.new nt)).app (st_of upd_same)).put (Same.new nt _ _ hus)
    obtain ⟨s5, hp, ⟨us, hus, hcs⟩, npc, y7, y8, y9, y10, y11, rfl⟩ := hP
    have llr : (lr.map V.ref).length = B.claims.length := by
      rw [List.length_map]
      rw [List.length_cons] at lls
      omega
    rw [llr, List.take_length] at hcs
    have hco5 := s5 _ _ hco
    refine sq_set (fun v H6 => Same H5 H6 ∧ ∃ tg c1 c2, v = .ref tg ∧ H5 tg = none ∧ BookAt K H6 tg c1 c2 us B) (fun Q k => ⟨_, rfl, co, _, rfl, .inl ⟨sq_of hco5, fun c1 nc1 => ⟨_, rfl, cm, _, rfl, .inl ⟨sq_of (Same.new nc1 _ _ hus), fun c2 nc2 => ⟨by show 2 ≤ sizeLine; decide, fun tg ntg => k _ _ ⟨((Same.new nc1).trans (Same.new nc2)).trans (Same.new ntg), tg, c1, c2, rfl, ((Same.new nc1).trans (Same.new nc2)).free ntg, st_of upd_same, st_of (Same.new ntg _ _ (Same.new nc2 _ _ upd_same)), st_of (Same.new ntg _ _ upd_same), hcs.same (((Same.new nc1).trans (Same.new nc2)).trans (Same.new ntg))⟩⟩⟩⟩⟩⟩) (fun v H6 hv => ?_)
    obtain ⟨s6, tg, c1, c2, rfl, ntg, A6⟩ := hv
    have s05 := (s1.trans (s2.trans (s3.trans s5)))
    exact ⟨_, rfl, tg, c1, c2, us, B, n, y, [], rfl, rfl, A6, hW, fun d Ha sa nd hd => k d Ha (s05.trans (s6.trans sa)) ((s05.trans s6).free nd) hd⟩
end


end Rf
namespace Rf
open PySem PySem.Spec PyProof.Rows L2
section
variable {P : Program} {w : World} {K : PySem.W.Frag} {mg : Str → Option Value} {base : Heap}
/-- one promise or another -/
theorem FnOk.or {CX : CXT} {k : Nat} {f : Addr} {fd : FuncData} {ps : List Str} {sp sp' : Sp} (F : FnOk P w K mg base CX k f fd ps sp) (F' : FnOk P w K mg base CX k f fd ps sp') : FnOk P w K mg base CX k f fd ps (fun vs H Q E => sp vs H Q E ∨ sp' vs H Q E) :=
  ⟨fun vs H Q E q => q.elim (F.len vs H Q E) (F'.len vs H Q E), fun A outer s H args us vs Q E hr he hb hv hs => hs.elim (F.run A outer s H args us vs Q E hr he hb hv) (F'.run A outer s H args us vs Q E hr he hb hv)⟩
end


end Rf
namespace Rf
open PySem PySem.Spec PyProof.Rows L2
/-! ### the law's word for a refusal -/
def spRefT (K : PySem.W.Frag) : Sp := fun vs H Q _ => ∃ (l : Addr), vs = [.ref l] ∧
  ((∃ (L : List (List Str)) (i : Nat), SqL K H l ((L.map rowS).map V.str) ∧ L.length ≤ 100 ∧ (∀ ws ∈ L, isRow ws = true) ∧ i < L.length ∧ (∀ j ws, j < i → L[j]? = some ws → rowOk j ws = true) ∧ (∃ ws, L[i]? = some ws ∧ rowOk i ws = false) ∧ ∀ H', Same H H' → Q (.int (i : Int)) H') ∨
   (∃ (B : Bk) (n : Int) (y : Str), SqL K H l (((rowsOf B).map rowS).map V.str) ∧ Fit9 B ∧ Wrong B n y ∧ ∀ t H', Same H H' → H t = none → H' t = some (.tup [.int n, .str y]) → Q (.ref t) H'))
theorem rows_join {L : List (List Str)} (hL : L.length ≤ 100) (h : ∀ ws ∈ L, isRow ws = true) : ((L.map rowS).map (·.length)).sum + (L.map rowS).length * ("\n" : Str).length ≤ 100000 := by
  have l1 := sum_len (m := 160) (ps := L.map rowS) fun p hp => by
    obtain ⟨ws, hw, rfl⟩ := List.mem_map.mp hp
    exact isRow_rowlen (h ws hw)
  have l3 : ("\n" : Str).length = 1 := by decide +kernel
  rw [l3]
  rw [List.length_map] at l1 ⊢
  omega
/-- join in a try's body, where the frag is told apart from the reading's -/
theorem pe_joinK {K : PySem.W.Frag} {X : Cx} {o e : Expr} {to te : TE} {apos pos : Pos} (ho : PE X o to) (he : PE X e te) (hK : X.K = K := by rfl) (hs : starEach [e] X.env = [(false, eval e X.env)] := by rfl) (hbase : attributeBase o "join" X.env (eval o X.env) = eval o X.env := by rfl) (hline : (apos.endLine == pos.line) = true := by rfl) :
    PE X (.Call (.Attribute o "join" apos) [e] [] pos) (tM1 (fun x xs H Q => ∃ a p, ∃ ys : List Str, x = .str a ∧ xs = [.ref p] ∧ (SqL K H p (ys.map V.str) ∨ SqT K H p (ys.map V.str)) ∧
      (ys.map (·.length)).sum + ys.length * a.length ≤ 16777216 ∧ Q (.str (Txt.join a ys)) H) to te) := by
  subst hK
  exact pe_join ho he hs hbase hline
section
variable {P : Program} {w : World} {K : PySem.W.Frag} {mg : Str → Option Value} {base : Heap} {C CT : Addr}
theorem sc_refu : FnScope ["_law_rows", "e"] ["_law_rows"] (defScope s_refu) := ⟨rfl, rfl, rfl, by decide +kernel, rfl, by decide +kernel, by decide +kernel⟩
/- 0:_law_rows 1:e -/
theorem ok_refu {f : Addr} {fd : FuncData} (D : DefAt K mg "_law_refusal" s_refu ["_law_rows"] f fd) {f1 : Addr} {fd1 : FuncData} (D_read : DefAt K mg "read" s_read ["text"] f1 fd1) (GX_read : FnOk P w K mg base (L2.CX P w) 5 f1 fd1 ["text"] (fun vs H Q E => spReadT K CT vs H Q E ∨ spReadW K C vs H Q E))
    {C1 C3 C4 CF : Addr} (X_BadBook : ClsIs mg "BadBook" C) (X_BadText : ClsIs mg "BadText" CT) (X_FallError : ClsIs mg "FallError" CF) (X_BadPayments : ClsIs mg "BadPayments" C1) (X_NoHouse : ClsIs mg "NoHouse" C3) (X_NoMove : ClsIs mg "NoMove" C4)
    (m_isinstance : mg "isinstance" = none) (m_ValueError : mg "ValueError" = none)
    (TX : XfC K C) (TXT : XfC K CT) (N_at : PySem.W.findIn K (.ref C) "at" = some none) (N_why : PySem.W.findIn K (.ref C) "why" = some none) (N_row : PySem.W.findIn K (.ref CT) "row" = some none) (TC : ExcC K C) (TCT : ExcC K CT)
    (hex : PySem.W.exmOne K (.ref C) (.ref CF) = some true) (hexT : PySem.W.exmOne K (.ref CT) (.ref CF) = some true)
    (hk1 : PySem.W.kitAny K (.ref C) [.ref C1, .ref C3, .ref C4] = some false) (hk2 : PySem.W.kitOne K (.ref C) (.type "ValueError") = some true) (hk3 : PySem.W.kitOne K (.ref C) (.ref CT) = some false)
    (hk4 : PySem.W.kitAny K (.ref CT) [.ref C1, .ref C3, .ref C4] = some false) (hk5 : PySem.W.kitOne K (.ref CT) (.type "ValueError") = some true) (hk6 : PySem.W.kitOne K (.ref CT) (.ref CT) = some true) (hk7 : PySem.W.kitOne K (.ref CT) (.ref C) = some false) : FnOk P w K mg base CX0 8 f fd ["_law_rows"] (spRefT K) := by
  refine D.F.ok sc_refu (fun vs H Q E h => ?_) (fun cdv A outer s H vs Q E hr h => ?_)
  · obtain ⟨l, rfl, _⟩ := h
    rfl
  · obtain ⟨l, rfl, h⟩ := h
    refine ⟨_, pss_cons (ps_try_as (i := 1) rfl rfl sc_refu.nd rfl rfl ⟨rfl, by decide, .inl X_FallError.gC⟩ takes0
      (fun W pn xe tk _ => (pss_one (ps_expr (pe_callS GX_read (hr.mono (by decide)) (by rfl) D_read.g D_read.F.kp D_read.b (fun σ => passAt tk σ) (pa_cons (pe_joinK (K := K) pe_str (pv 0)) pa_nil)))))
      (fun a oe cls d pn hz hf => (pss_cons (ps_if (PW.pt (pw_or (pt_val (pe_callB (r := rIsX K a cls d) (call_isX hz hf) (by rfl) m_isinstance (by decide +kernel) (pa_cons (pv 1) (pa_cons (pe_tup (pa_cons (pe_glob (v := .ref _) (by rfl) X_BadPayments.gC rfl) (pa_cons (pe_glob (v := .ref _) (by rfl) X_NoHouse.gC rfl) (pa_cons (pe_glob (v := .ref _) (by rfl) X_NoMove.gC rfl) pa_nil)))) pa_nil)))) (pw_or1 (pt_not (pt_val (pe_callB (r := rIsX K a cls d) (call_isX hz hf) (by rfl) m_isinstance (by decide +kernel) (pa_cons (pv 1) (pa_cons (pe_bltn (v := .ty "ValueError") (by rfl) m_ValueError (by decide +kernel) rfl) pa_nil)))))))) (pss_one (ps_ret pe_non)) pss_nil)
            (pss_cons (ps_if (pt_val (pe_callB (r := rIsX K a cls d) (call_isX hz hf) (by rfl) m_isinstance (by decide +kernel) (pa_cons (pv 1) (pa_cons (pe_glob (v := .ref _) (by rfl) X_BadText.gC rfl) pa_nil)))) (pss_one (ps_ret (pe_ifExp (pt_val (pe_callB (r := rIsX K a cls d) (call_isX hz hf) (by rfl) m_isinstance (by decide +kernel) (pa_cons (pv 1) (pa_cons (pe_glob (v := .ref _) (by rfl) X_BadBook.gC rfl) pa_nil)))) pe_non (pe_xf TXT N_row hz hf (pv 1))))) pss_nil)
            (pss_one (ps_ret (pe_tup (pa_cons (pe_xf TX N_at hz hf (pv 1)) (pa_cons (pe_xf TX N_why hz hf (pv 1)) pa_nil)))))))))
        (pss_one (ps_ret pe_non)), ?_⟩
    rcases h with ⟨L, i, hl, hL, hrows, hi, hpre, hbad, k⟩ | ⟨B, n, y, hl, N9, hW, k⟩
    · refine ⟨⟨_, rfl⟩, _, rfl, "\n", l, L.map rowS, rfl, rfl, .inl hl, sz_of (rows_join hL hrows), .inl ⟨L, i, rfl, hL, hrows, hi, hpre, hbad, fun d H1 s1 nd hd => ⟨true, hexT, fun _ a0 na => ?_, fun q => nomatch q⟩⟩⟩
      refine sq_no (fun H2 => Same H1 H2) (fun Q k => ?_) (fun H2 s2 => ?_)
      · refine ⟨_, rfl, by show 3 ≤ sizeLine; decide, fun t nt => ?_⟩
        have s3 : Same H1 (upd H1 t (.tup [.ref C1, .ref C3, .ref C4])) := Same.new nt
        refine ⟨CT, .ref t, false, rfl, rfl, TCT, .inr ⟨d, _, rfl, s3 _ _ hd⟩, .inr ⟨t, [C1, C3, C4], rfl, upd_same, hk4⟩, _, rfl, iteF ?_⟩
        exact ⟨_, rfl, CT, .ty "ValueError", true, rfl, rfl, TCT, .inr ⟨d, _, rfl, s3 _ _ hd⟩, .inl ⟨.type "ValueError", fun u r => r, hk5⟩, _, rfl, k _ s3⟩
      have hd2 := s2 _ _ hd
      refine ⟨_, rfl, CT, .ref CT, true, rfl, rfl, TCT, .inr ⟨d, _, rfl, hd2⟩, .inl ⟨.ref CT, fun u r => r, hk6⟩, _, rfl, iteT ?_⟩
      exact ⟨_, rfl, CT, .ref C, false, rfl, rfl, TCT, .inr ⟨d, _, rfl, hd2⟩, .inl ⟨.ref C, fun u r => r, hk7⟩, _, rfl, iteF ⟨_, rfl, rfl, rfl, d, _, _, rfl, hd2, rfl, k _ (s1.trans s2)⟩⟩
    · refine ⟨⟨_, rfl⟩, _, rfl, "\n", l, (rowsOf B).map rowS, rfl, rfl, .inl hl, sz_of (rows_join ?_ N9.rows), .inr ⟨B, n, y, rfl, N9, hW, fun d H1 s1 nd hd => ⟨true, hex, fun _ a0 na => ?_, fun q => nomatch q⟩⟩⟩
      · have := N9.m1
        unfold rowsOf
        rw [List.length_cons, List.length_map]
        omega
      refine sq_no (fun H2 => Same H1 H2) (fun Q k => ?_) (fun H2 s2 => ?_)
      · refine ⟨_, rfl, by show 3 ≤ sizeLine; decide, fun t nt => ?_⟩
        have s3 : Same H1 (upd H1 t (.tup [.ref C1, .ref C3, .ref C4])) := Same.new nt
        refine ⟨C, .ref t, false, rfl, rfl, TC, .inr ⟨d, _, rfl, s3 _ _ hd⟩, .inr ⟨t, [C1, C3, C4], rfl, upd_same, hk1⟩, _, rfl, iteF ?_⟩
        exact ⟨_, rfl, C, .ty "ValueError", true, rfl, rfl, TC, .inr ⟨d, _, rfl, s3 _ _ hd⟩, .inl ⟨.type "ValueError", fun u r => r, hk2⟩, _, rfl, k _ s3⟩
      have hd2 := s2 _ _ hd
      refine sq_no (fun H3 => H3 = H2) (fun Q k => ⟨_, rfl, C, .ref CT, false, rfl, rfl, TC, .inr ⟨d, _, rfl, hd2⟩, .inl ⟨.ref CT, fun u r => r, hk3⟩, _, rfl, k _ rfl⟩) (fun H3 e => ?_)
      subst e
      refine ⟨_, rfl, rfl, rfl, d, _, _, rfl, hd2, rfl, _, rfl, rfl, rfl, d, _, _, rfl, hd2, rfl, by show 2 ≤ sizeLine; decide, fun t nt => ?_⟩
      have s4 := s1.trans s2
      exact k t _ (s4.trans (Same.new nt)) (s4.free nt) upd_same
end


end Rf
namespace Rf
open PySem PySem.Spec PyProof.Rows L2
def spLaw (K : PySem.W.Frag) : Sp := fun vs H Q _ => ∃ (a : Addr) (ns : List Int), vs = [.ref a] ∧ SqL K H a (ns.map V.int) ∧ ns.length ≤ 63 ∧ ∀ H', Q (.bl true) H'
theorem op_mul_str {X : Cx} : OpR X (binaryOp .Mult) (fun x y H Q => ∃ i j, x = .str i ∧ y = .int j ∧ MulOk i j ∧ Q (.str (Txt.mul i j)) H) := by
  intro pins s σ H x y v u Q I rx ry h
  obtain ⟨i, j, rfl, rfl, hz, q⟩ := h
  obtain ⟨t, rfl⟩ := rx
  obtain ⟨t', rfl⟩ := ry
  exact PySem.SB.mul hz (fun t' tk => ⟨.str _, H, I.tok _, ⟨_, rfl⟩, q⟩)
theorem Wrong.ok {B : Bk} {n : Int} {w : Str} (h : Wrong B n w) : PyData.strOk w = true := by
  cases h with
  | houses h => decide +kernel
  | cash i c hi ok h => decide +kernel
  | claims c h => decide +kernel
  | claim k w c m hk ok h =>
    unfold wrongClm at h
    split at h
    · cases h; decide +kernel
    · split at h
      · cases h; decide +kernel
      · split at h
        · cases h; decide +kernel
        · cases h
def dWord (n : Int) (y : Str) : PyData := .tuple [.int n, .str y]
theorem word_shaped {n : Int} {y : Str} (h : PyData.strOk y = true) : SeqAt.shaped (dWord n y) = true ∧ (dWord n y).canLay0 = true := by
  have e : (dWord n y).canLay0 = true := by simp [dWord, PyData.canLay0, PyData.canLayAll0, h]
  refine ⟨?_, e⟩
  unfold SeqAt.shaped
  rw [e]
  rfl
/-! the law's rows -/
def headsW : List (List Str) := [[""], ["cash"], ["cash", ""], ["cash", "01"], ["cash", "1", "", "2"], ["cash", "1", ""], ["Cash", "1"], ["cash", "x"], ["cash", "-1"], ["1"], ["cash", "1234567890"]]
def oddW : List (List Str) := [[""], ["", ""], ["0", "owes", "1", "5", "at"], ["0", "owes", "1", "5", "at", "1", ""], ["", "0", "owes", "1", "5", "at", "1"], ["0", "owes", "1", "5", "at", "01"], ["0", "owes", "1", "5", "at", "x"], ["0", "owes", "1", "5"], ["0", "owe", "1", "5", "at", "1"], ["0", "owes", "1", "5", "on", "1"], ["0", "", "owes", "1", "5", "at", "1"], ["cash", "1"], ["0", "owes", "1", "-5", "at", "1"], ["0", "owes", "1", "5", "at", "1", "1"], ["owes", "0", "1", "5", "at", "1"], ["0", "owes", "1", "1234567890", "at", "1"], ["a", "owes", "1", "5", "at", "1"], ["0", "owes", "1", "05", "at", "1"]]
theorem heads_rows : headsW.map rowS = (["", "cash", "cash ", "cash 01", "cash 1  2", "cash 1 ", "Cash 1", "cash x", "cash -1", "1", "cash 1234567890"] : List Str) := by decide +kernel
theorem odd_rows : oddW.map rowS = (["", " ", "0 owes 1 5 at", "0 owes 1 5 at 1 ", " 0 owes 1 5 at 1", "0 owes 1 5 at 01", "0 owes 1 5 at x", "0 owes 1 5", "0 owe 1 5 at 1", "0 owes 1 5 on 1", "0  owes 1 5 at 1", "cash 1", "0 owes 1 -5 at 1", "0 owes 1 5 at 1 1", "owes 0 1 5 at 1", "0 owes 1 1234567890 at 1", "a owes 1 5 at 1", "0 owes 1 05 at 1"] : List Str) := by decide +kernel
theorem heads_bad : ∀ ws ∈ headsW, isRow ws = true ∧ cashOk ws = false := by decide +kernel
theorem odd_bad : ∀ ws ∈ oddW, isRow ws = true ∧ clmOk ws = false := by decide +kernel
theorem row_at {L : List (List Str)} {j : Nat} {ws : List Str} (h : L[j]? = some ws) : ((L.map rowS).map V.str)[j]? = some (.str (rowS ws)) := by
  rw [List.getElem?_map, List.getElem?_map, h]
  rfl
theorem row_one : rowS ["nothing"] = "nothing" := by decide +kernel
theorem rep_nothing : ∀ n : Nat, (List.replicate n [V.str "nothing"]).flatten = ((List.replicate n [("nothing" : Str)]).map rowS).map V.str
  | 0 => rfl
  | n + 1 => by
    rw [List.replicate_succ, List.replicate_succ, List.flatten_cons, rep_nothing n, List.map_cons, List.map_cons, row_one]
    rfl
theorem good9 {B : Bk} (G : Good B) : Fit9 B := by
  have n1 := G.n1
  have m1 := G.m1
  refine ⟨G.n0, by omega, by omega, fun x hx => ?_, fun q hq => ?_⟩
  · have := G.cash x hx
    exact ⟨this.1, by omega⟩
  · have c := G.claims q hq
    have d0 := c.d0
    have d1 := c.d1
    have c0 := c.c0
    have c1 := c.c1
    have a0 := c.a0
    have a1 := c.a1
    have r0 := c.r0
    have r1 := c.r1
    exact ⟨⟨d0, by omega⟩, ⟨c0, by omega⟩, ⟨by omega, by omega⟩, ⟨by omega, by omega⟩⟩
theorem Fit9.row_ok {B : Bk} (h : Fit9 B) {j : Nat} {ws : List Str} (e : (rowsOf B)[j]? = some ws) : rowOk j ws = true := by
  unfold rowsOf at e
  cases j with
  | zero =>
    cases e
    exact h.cashOk
  | succ j =>
    have e2 : (B.claims.map wordsOf)[j]? = some ws := e
    have hm := List.mem_of_getElem? e2
    obtain ⟨q, hq, rfl⟩ := List.mem_map.mp hm
    exact wordsOf_ok (h.claims q hq)
/-- claims that are none, in a book of n houses -/
def none3 (n : Int) : List (Clm × Str) := [(⟨0, 0, 5, 1⟩, "house"), (⟨0, n, 5, 1⟩, "house"), (⟨9, 0, 5, 1⟩, "house")]
def none2 : List (Clm × Str) := [(⟨0, 1, 0, 1⟩, "amount"), (⟨0, 1, 1000, 1⟩, "amount")]
def none4 : List (Clm × Str) := [(⟨0, 1, 0, 1⟩, "amount"), (⟨0, 1, 1000, 1⟩, "amount"), (⟨0, 1, 5, 0⟩, "rank"), (⟨0, 1, 5, 10⟩, "rank")]
def noneOf (n : Int) : List (Clm × Str) := none3 n ++ if n > 1 then none4 else []
theorem noneOf_bad {n : Int} (h0 : 1 ≤ n) (h1 : n ≤ 8) {p : Clm × Str} (hp : p ∈ noneOf n) : wrongClm n p.1 = some p.2 ∧ Small9 p.1.d ∧ Small9 p.1.c ∧ Small9 p.1.a ∧ Small9 p.1.r := by
  unfold noneOf at hp
  have b : ∀ q : Clm, badHs n q → wrongClm n q = some ("house" : Str) := fun q hq => by
    unfold wrongClm
    rw [if_pos hq]
  rcases List.mem_append.mp hp with hp | hp
  · unfold none3 at hp
    simp only [List.mem_cons, List.not_mem_nil, or_false] at hp
    rcases hp with rfl | rfl | rfl
    · exact ⟨b _ (.inr rfl), ⟨by decide, by decide⟩, ⟨by decide, by decide⟩, ⟨by decide, by decide⟩, by decide, by decide⟩
    · exact ⟨b _ (.inl fun z => absurd z.2.2 (Int.lt_irrefl n)), (by show Small9 0; exact ⟨by decide, by decide⟩), ⟨by show 0 ≤ n; omega, by show n < 1000000000; omega⟩, (by show Small9 5; exact ⟨by decide, by decide⟩), (by show Small9 1; exact ⟨by decide, by decide⟩)⟩
    · exact ⟨b _ (.inl fun z => absurd (show (9 : Int) < n from z.1.2) (by omega)), ⟨by decide, by decide⟩, ⟨by decide, by decide⟩, ⟨by decide, by decide⟩, by decide, by decide⟩
  · split at hp
    · rename_i c
      have nb : ∀ a r : Int, ¬ badHs n ⟨0, 1, a, r⟩ := fun a r z => by
        rcases z with z | z
        · exact z ⟨⟨by show (0 : Int) ≤ 0; decide, by show (0 : Int) < n; omega⟩, by show (0 : Int) ≤ 1; decide, by show (1 : Int) < n; omega⟩
        · exact absurd (show (0 : Int) = 1 from z) (by decide)
      unfold none4 at hp
      simp only [List.mem_cons, List.not_mem_nil, or_false] at hp
      rcases hp with rfl | rfl | rfl | rfl
      · refine ⟨?_, ⟨by decide, by decide⟩, ⟨by decide, by decide⟩, ⟨by decide, by decide⟩, by decide, by decide⟩
        unfold wrongClm
        rw [if_neg (nb _ _)]
        rfl
      · refine ⟨?_, ⟨by decide, by decide⟩, ⟨by decide, by decide⟩, ⟨by decide, by decide⟩, by decide, by decide⟩
        unfold wrongClm
        rw [if_neg (nb _ _)]
        rfl
      · refine ⟨?_, ⟨by decide, by decide⟩, ⟨by decide, by decide⟩, ⟨by decide, by decide⟩, by decide, by decide⟩
        unfold wrongClm
        rw [if_neg (nb _ _)]
        rfl
      · refine ⟨?_, ⟨by decide, by decide⟩, ⟨by decide, by decide⟩, ⟨by decide, by decide⟩, by decide, by decide⟩
        unfold wrongClm
        rw [if_neg (nb _ _)]
        rfl
    · cases hp
theorem many_row (n : Int) : (("0 owes " : Str) ++ nS n) ++ " 5 at 1" = rowS (wordsOf ⟨0, n, 5, 1⟩) := by
  apply TL.ext_tl
  unfold rowS
  rw [TL.join_eq, TL.tl_join, tl_sp]
  have e1 : TL.tl ("0 owes " : Str) = TL.tl (nS 0) ++ [32] ++ TL.tl ("owes" : Str) ++ [32] := by decide +kernel
  have e2 : TL.tl (" 5 at 1" : Str) = [32] ++ TL.tl (nS 5) ++ [32] ++ TL.tl ("at" : Str) ++ [32] ++ TL.tl (nS 1) := by decide +kernel
  simp only [TL.tl_append, e1, e2, wordsOf, List.map_cons, List.map_nil, TL.joinL, List.nil_append, List.append_assoc]
/-- pairs of a row and a word, each a tuple of its own -/
def PairsAt (H : Hp) (us : List Addr) (ps : List (Clm × Str)) : Prop := us.length = ps.length ∧ ∀ (i : Nat) (t : Addr) (p : Clm × Str), us[i]? = some t → ps[i]? = some p → H t = some (.tup [.str (rowS (wordsOf p.1)), .str p.2])
theorem PairsAt.same {H H' : Hp} {us : List Addr} {ps : List (Clm × Str)} (A : PairsAt H us ps) (s : Same H H') : PairsAt H' us ps := ⟨A.1, fun i t p h1 h2 => s _ _ (A.2 i t p h1 h2)⟩
theorem PairsAt.put {H : Hp} {us : List Addr} {ps : List (Clm × Str)} {p : Addr} {o : HO} {xs : List V} (A : PairsAt H us ps) (hp : H p = some (.lst xs)) : PairsAt (L2.upd H p o) us ps := ⟨A.1, fun i t r h1 h2 => by
  have z := A.2 i t r h1 h2
  rw [upd_ne (ne_of z hp (fun z => nomatch z))]
  exact z⟩
theorem PairsAt.app {H : Hp} {us : List Addr} {ps : List (Clm × Str)} {t : Addr} {p : Clm × Str} (A : PairsAt H us ps) (h : H t = some (.tup [.str (rowS (wordsOf p.1)), .str p.2])) : PairsAt H (us ++ [t]) (ps ++ [p]) := by
  refine ⟨by rw [List.length_append, List.length_append, A.1]; rfl, fun i u q h1 h2 => ?_⟩
  by_cases hi : i < us.length
  · rw [List.getElem?_append_left hi] at h1
    rw [List.getElem?_append_left (by rw [← A.1]; exact hi)] at h2
    exact A.2 i u q h1 h2
  · have e : i = us.length := by
      have := (List.getElem?_eq_some_iff.mp h1).1
      rw [List.length_append] at this
      have : i < us.length + 1 := this
      omega
    subst e
    rw [List.getElem?_append_right (Nat.le_refl _), Nat.sub_self] at h1
    rw [List.getElem?_append_right (by rw [A.1]; exact Nat.le_refl _), A.1, Nat.sub_self] at h2
    cases h1
    cases h2
    exact h
theorem PairsAt.off {H H' : Hp} {h c : Addr} {us : List Addr} {ps : List (Clm × Str)} (A : PairsAt H us ps) (R : RngAt H h c) (F : Fr h c H H') : PairsAt H' us ps := ⟨A.1, fun i t r h1 h2 => by
  have z := A.2 i t r h1 h2
  refine F.off _ _ z fun n => ?_
  obtain ⟨ne, x, p, cells, e1, e2, _⟩ := R
  rcases n with n | n
  · rw [n, e1] at z; cases z
  · rw [n, e2] at z; cases z⟩
section
variable {te : TE} {D : Ends} {σ : L2.St} {H : Hp} {i : Nat}
/-- name = e, a block's last -/
theorem last_set (R : V → Hp → Prop) (h : ∀ Q : VK, (∀ v H', R v H' → Q v H') → te σ H Q) (k : ∀ v H', R v H' → D.nx (σ.set i (some v)) H') : tAsg te (gName i) D σ H := h _ k
end
theorem none0 {H : Hp} : PairsAt H [] [] := ⟨rfl, fun i t p h => by cases h⟩
/-- a book with one claim more, that is none -/
theorem more_wrong {B : Bk} (G : Good B) (hm : B.claims.length ≤ 22) {q : Clm} {y : Str} (hq : wrongClm (B.cash.length : Int) q = some y) : Wrong ⟨B.cash, B.claims ++ [q]⟩ (B.claims.length : Int) y := by
  have hl : (B.claims ++ [q]).length = B.claims.length + 1 := by simp
  refine .claim B.claims.length y ⟨⟨G.n0, G.n1⟩, fun j hj => G.cash _ (g_mem hj)⟩ (by show (B.claims ++ [q]).length ≤ 24; omega) (by show _ < (B.claims ++ [q]).length; omega) (fun j hj => ?_) ?_
  · have e : Bk.clm ⟨B.cash, B.claims ++ [q]⟩ j = B.clm j := by
      apply Option.some.inj
      rw [← Bk.clm_get (B := ⟨B.cash, B.claims ++ [q]⟩) (by show j < (B.claims ++ [q]).length; omega), ← Bk.clm_get hj]
      exact List.getElem?_append_left hj
    rw [e]
    exact G.clm hj
  · have e : Bk.clm ⟨B.cash, B.claims ++ [q]⟩ B.claims.length = q := by
      apply Option.some.inj
      rw [← Bk.clm_get (B := ⟨B.cash, B.claims ++ [q]⟩) (by show B.claims.length < (B.claims ++ [q]).length; omega)]
      show (B.claims ++ [q])[B.claims.length]? = some q
      simp
    rw [e]
    exact hq
theorem dp_word {K : PySem.W.Frag} {H : Hp} {t : Addr} {n : Int} {y : Str} (h : H t = some (.tup [.int n, .str y])) : Dp K H (.ref t) (dWord n y) := .tup (st_of h) (.cons (.int _) (.cons (.str _) .nil))
section
variable {P : Program} {w : World} {K : PySem.W.Frag} {mg : Str → Option Value} {base : Heap}
theorem sc_law : FnScope ["_law_script", "_law_h", "_law_book_here", "_law_rows", "_law_heads", "_law_odd", "_law_at", "_law_more", "_law_many", "_law_last", "_law_none", "_law_row", "_law_why"] ["_law_script"] (defScope s_law) := ⟨rfl, rfl, rfl, by decide +kernel, rfl, by decide +kernel, by decide +kernel⟩
/- 0:_law_script 1:_law_h 2:_law_book_here 3:_law_rows 4:_law_heads 5:_law_odd 6:_law_at 7:_law_more 8:_law_many 9:_law_last 10:_law_none 11:_law_row 12:_law_why -/
theorem law_body {f : Addr} {fd : FuncData} (D : DefAt K mg "law" s_law ["_law_script"] f fd) (m_len : mg "len" = none) (m_str : mg "str" = none) (m_list : mg "list" = none)
    {f1 : Addr} {fd1 : FuncData} (D_next : DefAt K mg "_law_next" s_next ["_law_h", "_law_many"] f1 fd1) (G_next : FnOk P w K mg base CX0 1 f1 fd1 ["_law_h", "_law_many"] spNext)
    {f2 : Addr} {fd2 : FuncData} (D_lbook : DefAt K mg "_law_book" s_lbook ["_law_h", "_law_houses", "_law_claims", "_law_wide"] f2 fd2) (G_lbook : FnOk P w K mg base CX0 2 f2 fd2 ["_law_h", "_law_houses", "_law_claims", "_law_wide"] (spLBook K))
    {f3 : Addr} {fd3 : FuncData} (D_written : DefAt K mg "written" s_written ["book"] f3 fd3) (G_written : FnOk P w K mg base CX0 3 f3 fd3 ["book"] (spWritten K))
    {f4 : Addr} {fd4 : FuncData} (D_refu : DefAt K mg "_law_refusal" s_refu ["_law_rows"] f4 fd4) (G_refu : FnOk P w K mg base CX0 8 f4 fd4 ["_law_rows"] (spRefT K)) : FnOk P w K mg base CX0 21 f fd ["_law_script"] (spLaw K) := by
  refine D.F.ok sc_law (fun vs H Q E h => ?_) (fun cdv A outer s H vs Q E hr h => ?_)
  · obtain ⟨a, ns, rfl, _⟩ := h
    rfl
  · obtain ⟨a, ns, rfl, ha, hns, k⟩ := h
    refine ⟨_, pss_cons (ps_set (i := 1) sc_law.nd rfl (.inl rfl) (pe_lst (pa_cons pe_int (pa_cons (pe_callTy (r := rListOf K) call_listOf (by rfl) m_list (by decide +kernel) (pa_cons (pv 0) pa_nil)) (pa_cons pe_int pa_nil)))))
        (pss_cons (ps_set (i := 2) sc_law.nd rfl (.inl rfl) (pe_call G_lbook (hr.mono (by decide)) (by rfl) D_lbook.g D_lbook.F.kp D_lbook.b .nil pass0 (pa_cons (pv 1) (pa_cons pe_int (pa_cons pe_int (pa_cons pe_int pa_nil))))))
        (pss_cons (ps_set (i := 3) sc_law.nd rfl (.inl rfl) (pe_split (pe_call G_written (hr.mono (by decide)) (by rfl) D_written.g D_written.F.kp D_written.b .nil pass0 (pa_cons (pv 2) pa_nil)) pe_str))
        (pss_cons (ps_set (i := 4) sc_law.nd rfl (.inl rfl) (pe_lst (pa_cons pe_str (pa_cons pe_str (pa_cons pe_str (pa_cons pe_str (pa_cons pe_str (pa_cons pe_str (pa_cons pe_str (pa_cons pe_str (pa_cons pe_str pa_nil)))))))))))
        (pss_cons (ps_set (i := 4) sc_law.nd rfl (.inl rfl) (pe_op op_cat (pv 4) (pe_lst (pa_cons pe_str (pa_cons pe_str pa_nil)))))
        (Evl.pss_cut (ps_if (pt_cmpR op_ne (pe_call G_refu (hr.mono (by decide)) (by rfl) D_refu.g D_refu.F.kp D_refu.b .nil pass0 (pa_cons (pe_op op_cat (pe_lst (pa_cons (pe_ix (r := rIxL K) ix_list (pv 4) (pe_call G_next (hr.mono (by decide)) (by rfl) D_next.g D_next.F.kp D_next.b .nil pass0 (pa_cons (pv 1) (pa_cons pe_int pa_nil))) (fun _ _ => rfl)) pa_nil)) (pe_slice sl_list (pv 3) (po_some pe_int) po_none)) pa_nil)) pe_int (nomark _)) (pss_one (ps_ret pe_bl)) pss_nil)
        (pss_cons (ps_set (i := 5) sc_law.nd rfl (.inl rfl) (pe_lst (pa_cons pe_str (pa_cons pe_str (pa_cons pe_str (pa_cons pe_str (pa_cons pe_str (pa_cons pe_str (pa_cons pe_str pa_nil)))))))))
        (pss_cons (ps_set (i := 5) sc_law.nd rfl (.inl rfl) (pe_op op_cat (pv 5) (pe_lst (pa_cons pe_str (pa_cons pe_str (pa_cons pe_str (pa_cons pe_str (pa_cons pe_str (pa_cons pe_str pa_nil)))))))))
        (pss_cons (ps_set (i := 5) sc_law.nd rfl (.inl rfl) (pe_op op_cat (pv 5) (pe_lst (pa_cons pe_str (pa_cons pe_str (pa_cons pe_str (pa_cons pe_str pa_nil)))))))
        (pss_cons (ps_expr (pe_bm PySem.F.plainAttrs_list PySem.F.slot_list_append PySem.F.type_list_append mt_append (pv 5) (pa_cons pe_str pa_nil)))
        (pss_cons (ps_set (i := 6) sc_law.nd rfl (.inl rfl) (pe_op op_add pe_int (pe_call G_next (hr.mono (by decide)) (by rfl) D_next.g D_next.F.kp D_next.b .nil pass0 (pa_cons (pv 1) (pa_cons (pe_callB (r := rLen K) call_len (by rfl) m_len (by decide +kernel) (pa_cons (pv 3) pa_nil)) pa_nil)))))
        (pss_cons (ps_set (i := 7) sc_law.nd rfl (.inl rfl) (pe_op op_cat (pe_slice sl_list (pv 3) (po_some (pv 6)) po_none) (pe_op op_rep (pe_lst (pa_cons pe_str pa_nil)) (pe_call G_next (hr.mono (by decide)) (by rfl) D_next.g D_next.F.kp D_next.b .nil pass0 (pa_cons (pv 1) (pa_cons pe_int pa_nil))))))
        (pss_cons (ps_if (pt_cmpR op_ne (pe_call G_refu (hr.mono (by decide)) (by rfl) D_refu.g D_refu.F.kp D_refu.b .nil pass0 (pa_cons (pe_op op_cat (pe_op op_cat (pe_slice sl_list (pv 3) po_none (po_some (pv 6))) (pe_lst (pa_cons (pe_ix (r := rIxL K) ix_list (pv 5) (pe_call G_next (hr.mono (by decide)) (by rfl) D_next.g D_next.F.kp D_next.b .nil pass0 (pa_cons (pv 1) (pa_cons (pe_callB (r := rLen K) call_len (by rfl) m_len (by decide +kernel) (pa_cons (pv 5) pa_nil)) pa_nil))) (fun _ _ => rfl)) pa_nil))) (pv 7)) pa_nil)) (pv 6) (nomark _)) (pss_one (ps_ret pe_bl)) pss_nil)
        (pss_cons (ps_set (i := 8) sc_law.nd rfl (.inl rfl) (pe_callB (r := rLen K) call_len (by rfl) m_len (by decide +kernel) (pa_cons (pe_ix (r := rIxT K) ix_tup (pv 2) pe_int (fun _ _ => rfl)) pa_nil)))
        (pss_cons (ps_set (i := 9) sc_law.nd rfl (.inl rfl) (pe_op op_sub (pe_callB (r := rLen K) call_len (by rfl) m_len (by decide +kernel) (pa_cons (pv 3) pa_nil)) pe_int))
        (pss_cons (ps_set (i := 10) sc_law.nd rfl (.inl rfl) (pe_lst (pa_cons (pe_tup (pa_cons pe_str (pa_cons pe_str pa_nil))) (pa_cons (pe_tup (pa_cons (pe_op op_add_str (pe_op op_add_str pe_str (pe_callTy call_str_int (by rfl) m_str (by decide +kernel) (pa_cons (pv 8) pa_nil))) pe_str) (pa_cons pe_str pa_nil))) pa_nil))))
        (pss_cons (ps_expr (pe_bm PySem.F.plainAttrs_list PySem.F.slot_list_append PySem.F.type_list_append mt_append (pv 10) (pa_cons (pe_tup (pa_cons pe_str (pa_cons pe_str pa_nil))) pa_nil)))
        (Evl.pss_cut (ps_if (pt_cmpR op_gt (pv 8) pe_int (nomark _)) (pss_cons (ps_set (i := 10) sc_law.nd rfl (.inl rfl) (pe_op op_cat (pv 10) (pe_lst (pa_cons (pe_tup (pa_cons pe_str (pa_cons pe_str pa_nil))) (pa_cons (pe_tup (pa_cons pe_str (pa_cons pe_str pa_nil))) pa_nil)))))
          (pss_one (ps_set (i := 10) sc_law.nd rfl (.inl rfl) (pe_op op_cat (pv 10) (pe_lst (pa_cons (pe_tup (pa_cons pe_str (pa_cons pe_str pa_nil))) (pa_cons (pe_tup (pa_cons pe_str (pa_cons pe_str pa_nil))) pa_nil))))))) pss_nil)
        (pss_cons (ps_asg (pe_ix (r := rIxL K) ix_list (pv 10) (pe_call G_next (hr.mono (by decide)) (by rfl) D_next.g D_next.F.kp D_next.b .nil pass0 (pa_cons (pv 1) (pa_cons (pe_callB (r := rLen K) call_len (by rfl) m_len (by decide +kernel) (pa_cons (pv 10) pa_nil)) pa_nil))) (fun _ _ => rfl)) (pg_tup rfl (pgs_cons (pg_name (i := 11) sc_law.nd rfl (.inl rfl)) (pgs_cons (pg_name (i := 12) sc_law.nd rfl (.inl rfl)) pgs_nil))))
        (pss_cons (ps_if (pt_cmpR (op_neD hr.units) (pe_call G_refu (hr.mono (by decide)) (by rfl) D_refu.g D_refu.F.kp D_refu.b .nil pass0 (pa_cons (pe_op op_cat (pv 3) (pe_lst (pa_cons (pv 11) pa_nil))) pa_nil)) (pe_tup (pa_cons (pv 9) (pa_cons (pv 12) pa_nil))) (nomark _)) (pss_one (ps_ret pe_bl)) pss_nil)
        (pss_cons (ps_if (pt_cmpR (op_neD hr.units) (pe_call G_refu (hr.mono (by decide)) (by rfl) D_refu.g D_refu.F.kp D_refu.b .nil pass0 (pa_cons (pe_op op_cat (pe_lst (pa_cons (pe_op op_add_str pe_str (pe_op op_mul_str pe_str pe_int)) pa_nil)) (pe_slice sl_list (pv 3) (po_some pe_int) po_none)) pa_nil)) (pe_tup (pa_cons pe_int (pa_cons pe_str pa_nil))) (nomark _)) (pss_one (ps_ret pe_bl)) pss_nil)
        (pss_cons (ps_if (pt_cmpR (op_neD hr.units) (pe_call G_refu (hr.mono (by decide)) (by rfl) D_refu.g D_refu.F.kp D_refu.b .nil pass0 (pa_cons (pe_lst (pa_cons pe_str pa_nil)) pa_nil)) (pe_tup (pa_cons pe_int (pa_cons pe_str pa_nil))) (nomark _)) (pss_one (ps_ret pe_bl)) pss_nil)
        (pss_cons (ps_if (pt_cmpR (op_neD hr.units) (pe_call G_refu (hr.mono (by decide)) (by rfl) D_refu.g D_refu.F.kp D_refu.b .nil pass0 (pa_cons (pe_lst (pa_cons pe_str (pa_cons pe_str pa_nil))) pa_nil)) (pe_tup (pa_cons pe_int (pa_cons pe_str pa_nil))) (nomark _)) (pss_one (ps_ret pe_bl)) pss_nil)
        (pss_one (ps_ret (pe_cmpR (op_eqD hr.units) (pe_call G_refu (hr.mono (by decide)) (by rfl) D_refu.g D_refu.F.kp D_refu.b .nil pass0 (pa_cons (pe_lst (pa_cons pe_str (pa_cons pe_str pa_nil))) pa_nil)) (pe_tup (pa_cons pe_int (pa_cons pe_str pa_nil))) (nomark _)))))))))))))))))))))))))), ?_⟩
    refine sq_set (fun v H1 => ∃ h c, v = .ref h ∧ RngAt H1 h c) (fun Q k => ⟨_, rfl, a, _, rfl, .inl ha, fun c nc => ⟨by show 3 ≤ sizeLine; decide, fun h nh => k _ _ ⟨h, c, rfl, rng_start nc nh hns (by decide) (by decide)⟩⟩⟩) (fun v H1 hv => ?_)
    obtain ⟨h, c, rfl, R⟩ := hv
    refine sq_set (fun v H2 => ∃ b ca cl ts B, v = .ref b ∧ Good B ∧ B.claims.length ≤ 22 ∧ RngAt H2 h c ∧ BookAt K H2 b ca cl ts B) (fun Q k => ⟨_, rfl, h, c, 8, 22, 999, rfl, R, by decide, by decide, by decide, by decide, by decide, by decide, fun b ca cl ts B H' G _ hm _ _ _ F A => k _ _ ⟨b, ca, cl, ts, B, rfl, G, by omega, F.rng, A⟩⟩) (fun v H2 hv => ?_)
    obtain ⟨b, ca, cl, ts, B, rfl, G, m22, R2, A2⟩ := hv
    have n0 := G.n0
    have n1 := G.n1
    have N9 := good9 G
    have lc : (B.cash.map V.int).length = B.cash.length := List.length_map _
    have tl := textOf_len G
    have w2 : ("\n" : Str).length = 1 := by decide +kernel
    have lR : (rowsOf B).length = B.claims.length + 1 := by unfold rowsOf; simp
    have lRV : (((rowsOf B).map rowS).map V.str).length = B.claims.length + 1 := by rw [List.length_map, List.length_map, lR]
    have ec1 : cutV (((rowsOf B).map rowS).map V.str) (some 1) none = (((rowsOf B).map rowS).map V.str).drop 1 := cutV_drop (j := 1) (by rw [lRV]; omega)
    -- the rows
    refine sq_set (fun v H3 => Same H2 H3 ∧ ∃ q, v = .ref q ∧ H2 q = none ∧ H3 q = some (.lst (((rowsOf B).map rowS).map V.str))) (fun Q k => ⟨_, rfl, b, ca, cl, ts, B, rfl, A2, G, fun H3 s3 => ⟨⟨_, rfl⟩, textOf B, "\n", rfl, rfl, by rw [w2]; rfl, sz_of (by omega), fun q nq => k _ _ ⟨s3.trans (Same.new nq), q, rfl, s3.free nq, by rw [upd_same, split_text G]⟩⟩⟩) (fun v H3 hv => ?_)
    obtain ⟨s3, q, rfl, nq, hq3⟩ := hv
    have hqf := R2.fresh nq
    have A3 := A2.same s3
    have R3 := R2.same s3
    -- the heads
    refine sq_set (fun v H4 => Same H3 H4 ∧ ∃ d, v = .ref d ∧ H3 d = none ∧ H4 d = some (.lst [.str "", .str "cash", .str "cash ", .str "cash 01", .str "cash 1  2", .str "cash 1 ", .str "Cash 1", .str "cash x", .str "cash -1"])) (fun Q k => ⟨by show 9 ≤ sizeLine; decide, fun d nd => k _ _ ⟨Same.new nd, d, rfl, nd, upd_same⟩⟩) (fun v H4 hv => ?_)
    obtain ⟨s4, d0, rfl, nd0, hd0⟩ := hv
    refine sq_set (fun v H5 => Same H4 H5 ∧ ∃ d, v = .ref d ∧ H4 d = none ∧ H5 d = some (.lst ((headsW.map rowS).map V.str))) (fun Q k => ⟨_, rfl, by show 2 ≤ sizeLine; decide, fun e ne => ⟨d0, e, _, _, rfl, rfl, Same.new ne _ _ hd0, upd_same, by show 9 + 2 ≤ sizeLine; decide, fun d nd => k _ _ ⟨(Same.new ne).trans (Same.new nd), d, rfl, (Same.new ne).free nd, by rw [upd_same, heads_rows]; rfl⟩⟩⟩) (fun v H5 hv => ?_)
    obtain ⟨s5, d, rfl, nd, hd⟩ := hv
    have R4 := R3.same s4
    have hdf := R4.fresh nd
    have R5 := R4.same s5
    have A5 := (A3.same s4).same s5
    have hq5 := s5 _ _ (s4 _ _ hq3)
    refine sq_norm [some (.ref a), some (.ref h), some (.ref b), some (.ref q), some (.ref d), none, none, none, none, none, none, none, none] rfl ?_
    refine sq_cut (fun σ' H6 => Fr h c H5 H6 ∧ σ' = [some (.ref a), some (.ref h), some (.ref b), some (.ref q), some (.ref d), none, none, none, none, none, none, none, none]) ?_ (fun σ' H6 hM => ?_)
    · refine last_no (fun H6 => Fr h c H5 H6) (fun Q k => ⟨_, rfl, _, rfl, h, c, 11, rfl, R5, by decide, by decide, fun r H6 r0 r1 R6 o6 => ?_⟩) (fun H6 F6 => ⟨F6, rfl⟩)
      obtain ⟨j, rfl⟩ := Int.eq_ofNat_of_zero_le r0
      obtain ⟨ws, hws⟩ : ∃ ws, headsW[j]? = some ws := ⟨_, List.getElem?_eq_getElem (by show j < 11; omega)⟩
      have hbad := heads_bad ws (List.mem_of_getElem? hws)
      have F6 : Fr h c H5 H6 := ⟨o6, R6⟩
      refine ⟨d, _, (j : Int), _, rfl, rfl, sq_of (F6.get hd hdf), atI_nat (row_at hws), by show 1 ≤ sizeLine; decide, fun p np => ⟨_, rfl, 1, rfl, slQ_up (sq_of (Same.new np _ _ (F6.get hq5 hqf))) fun p2 np2 => ⟨p, p2, _, _, rfl, rfl, Same.new np2 _ _ upd_same, upd_same, ?_, fun p3 np3 => ⟨p3, rfl, .inl ⟨ws :: B.claims.map wordsOf, 0, sq_of ?_, ?_, ?_, by rw [List.length_cons]; omega, fun j ws hj => absurd hj (Nat.not_lt_zero _), ⟨ws, rfl, hbad.2⟩, fun H7 s7 => ⟨rfl, _, rfl, ?_⟩⟩⟩⟩⟩⟩
      · rw [ec1, List.length_drop, lRV]
        exact sz_of (by show 1 + _ ≤ _; omega)
      · rw [upd_same]
        exact congrArg (fun z => some (HO.lst ([V.str (rowS ws)] ++ z))) ec1
      · rw [List.length_cons, List.length_map]
        omega
      · intro us hu
        rcases List.mem_cons.mp hu with e | e
        · rw [e]
          exact hbad.1
        · exact N9.rows us (List.mem_cons_of_mem _ e)
      · rw [decide_eq_true (show V.int ((0 : Nat) : Int) = V.int 0 from rfl)]
        exact k _ (((F6.new np).new np2).new np3 |>.same s7)
    obtain ⟨F6, rfl⟩ := hM
    have R6 := F6.rng
    have hq6 := F6.get hq5 hqf
    have A6 := Fr.book R5 F6 A5
    -- the odd rows
    refine sq_set (fun v H7 => Same H6 H7 ∧ ∃ d, v = .ref d ∧ H6 d = none ∧ H7 d = some (.lst [.str "", .str " ", .str "0 owes 1 5 at", .str "0 owes 1 5 at 1 ", .str " 0 owes 1 5 at 1", .str "0 owes 1 5 at 01", .str "0 owes 1 5 at x"])) (fun Q k => ⟨by show 7 ≤ sizeLine; decide, fun d nd => k _ _ ⟨Same.new nd, d, rfl, nd, upd_same⟩⟩) (fun v H7 hv => ?_)
    obtain ⟨s7, e0, rfl, ne0, he0⟩ := hv
    refine sq_set (fun v H8 => Same H7 H8 ∧ ∃ d, v = .ref d ∧ H7 d = none ∧ H8 d = some (.lst [.str "", .str " ", .str "0 owes 1 5 at", .str "0 owes 1 5 at 1 ", .str " 0 owes 1 5 at 1", .str "0 owes 1 5 at 01", .str "0 owes 1 5 at x", .str "0 owes 1 5", .str "0 owe 1 5 at 1", .str "0 owes 1 5 on 1", .str "0  owes 1 5 at 1", .str "cash 1", .str "0 owes 1 -5 at 1"])) (fun Q k => ⟨_, rfl, by show 6 ≤ sizeLine; decide, fun e ne => ⟨e0, e, _, _, rfl, rfl, Same.new ne _ _ he0, upd_same, by show 7 + 6 ≤ sizeLine; decide, fun d nd => k _ _ ⟨(Same.new ne).trans (Same.new nd), d, rfl, (Same.new ne).free nd, by rw [upd_same]; rfl⟩⟩⟩) (fun v H8 hv => ?_)
    obtain ⟨s8, e1, rfl, ne1, he1⟩ := hv
    refine sq_set (fun v H9 => Same H8 H9 ∧ ∃ d, v = .ref d ∧ H8 d = none ∧ H9 d = some (.lst [.str "", .str " ", .str "0 owes 1 5 at", .str "0 owes 1 5 at 1 ", .str " 0 owes 1 5 at 1", .str "0 owes 1 5 at 01", .str "0 owes 1 5 at x", .str "0 owes 1 5", .str "0 owe 1 5 at 1", .str "0 owes 1 5 on 1", .str "0  owes 1 5 at 1", .str "cash 1", .str "0 owes 1 -5 at 1", .str "0 owes 1 5 at 1 1", .str "owes 0 1 5 at 1", .str "0 owes 1 1234567890 at 1", .str "a owes 1 5 at 1"])) (fun Q k => ⟨_, rfl, by show 4 ≤ sizeLine; decide, fun e ne => ⟨e1, e, _, _, rfl, rfl, Same.new ne _ _ he1, upd_same, by show 13 + 4 ≤ sizeLine; decide, fun d nd => k _ _ ⟨(Same.new ne).trans (Same.new nd), d, rfl, (Same.new ne).free nd, by rw [upd_same]; rfl⟩⟩⟩) (fun v H9 hv => ?_)
    obtain ⟨s9, o, rfl, no, ho9⟩ := hv
    have s69 := s7.trans (s8.trans s9)
    have no6 := (s7.trans s8).free no
    refine sq_drop (fun Ha => Same H6 Ha ∧ Ha o = some (.lst ((oddW.map rowS).map V.str))) (fun Q k => ⟨_, rfl, .inl ⟨rfl, _, sq_of ho9⟩, o, _, _, rfl, rfl, ho9, by show 17 < sizeLine; decide, k _ _ ⟨Same.mut s69 no6, by rw [upd_same, odd_rows]; rfl⟩⟩) (fun Ha hv => ?_)
    obtain ⟨sa, hoa⟩ := hv
    have hof := R6.fresh no6
    have Ra := R6.same sa
    have hqa := sa _ _ hq6
    have Aa := A6.same sa
    refine sq_norm [some (.ref a), some (.ref h), some (.ref b), some (.ref q), some (.ref d), some (.ref o), none, none, none, none, none, none, none] rfl ?_
    -- the place
    refine sq_set (fun v Hb => Fr h c Ha Hb ∧ ∃ j : Nat, v = .int (j : Int) ∧ 1 ≤ j ∧ j ≤ B.claims.length + 1) (fun Q k => ⟨_, rfl, _, rfl, q, _, rfl, .inl (sq_of hqa), h, c, _, rfl, Ra, by rw [lRV]; omega, by rw [lRV]; omega, fun r Hb r0 r1 Rb ob => ⟨_, _, rfl, rfl, k _ _ ⟨⟨ob, Rb⟩, (1 + r).toNat, congrArg V.int (by omega), by omega, by rw [lRV] at r1; omega⟩⟩⟩) (fun v Hb hv => ?_)
    obtain ⟨Fb, j, rfl, j0, j1⟩ := hv
    have hqb := Fb.get hqa hqf
    have hob := Fb.get hoa hof
    -- what stands behind
    refine sq_set (fun v Hc => Fr h c Ha Hc ∧ ∃ (m : Addr) (z : Nat), v = .ref m ∧ z ≤ 1 ∧ Hc m = some (.lst (((((rowsOf B).drop j ++ List.replicate z [("nothing" : Str)]).map rowS).map V.str))) ∧ ¬ isHC h c m) (fun Q k => ⟨_, rfl, _, rfl, (j : Int), rfl, slQ_up (sq_of hqb) fun p np => ⟨by show 1 ≤ sizeLine; decide, fun z nz => ⟨_, rfl, h, c, 2, rfl, (Fb.rng.same (Same.new np)).same (Same.new nz), by decide, by decide, fun r Hc r0 r1 Rc oc => ?_⟩⟩⟩) (fun v Hc hv => ?_)
    · have Rz := (Fb.rng.same (Same.new (o := .lst (cutV (((rowsOf B).map rowS).map V.str) (some (j : Int)) none)) np))
      have F0 : Fr h c (upd (upd Hb p (.lst (cutV (((rowsOf B).map rowS).map V.str) (some (j : Int)) none))) z (.lst [V.str "nothing"])) Hc := ⟨oc, Rc⟩
      have hp := F0.get (Same.new nz _ _ (upd_same (H := Hb) (a := p) (o := .lst (cutV (((rowsOf B).map rowS).map V.str) (some (j : Int)) none)))) (Fb.rng.fresh np)
      have hz := F0.get (upd_same (a := z)) (Rz.fresh nz)
      obtain ⟨i, rfl⟩ := Int.eq_ofNat_of_zero_le r0
      refine ⟨z, (i : Int), _, rfl, rfl, hz, by omega, by omega, sz_of (by show 1 * _ ≤ _; rw [Int.toNat_natCast]; omega), fun p2 np2 => ⟨p, p2, _, _, rfl, rfl, Same.new np2 _ _ hp, upd_same, ?_, fun p3 np3 => k _ _ ⟨((((Fb.new np).new nz).trans F0).new np2).new np3, p3, i, rfl, by omega, ?_, ?_⟩⟩⟩
      · rw [Int.toNat_natCast, rep_nothing, List.length_map, List.length_map, List.length_replicate, cutV_drop (by rw [lRV]; exact j1), List.length_drop, lRV]
        exact sz_of (by omega)
      · rw [upd_same, Int.toNat_natCast, rep_nothing, cutV_drop (by rw [lRV]; exact j1), List.map_append, List.map_append, List.map_drop, List.map_drop]
      · exact (F0.new np2).rng.fresh np3
    obtain ⟨Fc, m, z, rfl, z1, hm, hmf⟩ := hv
    have hqc := Fc.get hqa hqf
    have hoc := Fc.get hoa hof
    refine sq_norm [some (.ref a), some (.ref h), some (.ref b), some (.ref q), some (.ref d), some (.ref o), some (.int (j : Int)), some (.ref m), none, none, none, none, none] rfl ?_
    refine sq_no (fun Hd => Fr h c Ha Hd) (fun Q k => ⟨_, rfl, _, rfl, (j : Int), rfl, q, _, rfl, sq_of hqc, fun p1 np1 => ⟨_, rfl, _, rfl, _, rfl, o, _, rfl, .inl (sq_of (Same.new np1 _ _ hoc)), h, c, 18, rfl, Fc.rng.same (Same.new np1), by decide, by decide, fun r Hd r0 r1 Rd od => ?_⟩⟩) (fun Hd Fd => ?_)
    · have F0 : Fr h c (upd Hc p1 (.lst (cutV (((rowsOf B).map rowS).map V.str) none (some (j : Int))))) Hd := ⟨od, Rd⟩
      have hp1 := F0.get (upd_same (a := p1)) (Fc.rng.fresh np1)
      have hod := F0.get (Same.new np1 _ _ hoc) hof
      have hmd := F0.get (Same.new np1 _ _ hm) hmf
      obtain ⟨i, rfl⟩ := Int.eq_ofNat_of_zero_le r0
      obtain ⟨ws, hws⟩ : ∃ ws, oddW[i]? = some ws := ⟨_, List.getElem?_eq_getElem (by show i < 18; omega)⟩
      have hbad := odd_bad ws (List.mem_of_getElem? hws)
      have e1 : cutV (((rowsOf B).map rowS).map V.str) none (some (j : Int)) = (((rowsOf B).take j).map rowS).map V.str := by rw [cutV_take (by rw [lRV]; exact j1), List.map_take, List.map_take]
      have lt : ((rowsOf B).take j).length = j := by rw [List.length_take, lR]; omega
      have lm : ((rowsOf B).drop j ++ List.replicate z [("nothing" : Str)]).length ≤ 24 := by rw [List.length_append, List.length_drop, List.length_replicate, lR]; omega
      refine ⟨o, _, (i : Int), _, rfl, rfl, sq_of hod, atI_nat (row_at hws), by show 1 ≤ sizeLine; decide, fun p2 np2 => ⟨p1, p2, _, _, rfl, rfl, Same.new np2 _ _ hp1, upd_same, ?_, fun p3 np3 => ⟨_, rfl, p3, m, _, _, rfl, rfl, upd_same, Same.new np3 _ _ (Same.new np2 _ _ hmd), ?_, fun p4 np4 => ⟨p4, rfl, .inl ⟨(rowsOf B).take j ++ [ws] ++ ((rowsOf B).drop j ++ List.replicate z [("nothing" : Str)]), j, sq_of ?_, ?_, ?_, ?_, fun j' us hj e => ?_, ⟨ws, ?_, ?_⟩, fun H7 s7 => ⟨_, rfl, rfl, _, rfl, ?_⟩⟩⟩⟩⟩⟩
      · rw [e1, List.length_map, List.length_map, lt]
        exact sz_of (by show _ + 1 ≤ _; omega)
      · rw [e1, List.length_append, List.length_map, List.length_map, List.length_map, List.length_map, lt]
        exact sz_of (by show _ + 1 + _ ≤ _; omega)
      · rw [upd_same, e1]
        simp only [List.map_append]
        rfl
      · rw [List.length_append, List.length_append, lt]
        show j + 1 + _ ≤ 100
        omega
      · intro us hu
        rcases List.mem_append.mp hu with hu | hu
        · rcases List.mem_append.mp hu with hu | hu
          · exact N9.rows us (List.mem_of_mem_take hu)
          · rw [List.mem_singleton.mp hu]
            exact hbad.1
        · rcases List.mem_append.mp hu with hu | hu
          · exact N9.rows us (List.mem_of_mem_drop hu)
          · rw [List.eq_of_mem_replicate hu]
            decide +kernel
      · rw [List.length_append, List.length_append, lt]
        show j < j + 1 + _
        omega
      · rw [List.append_assoc, List.getElem?_append_left (by rw [lt]; exact hj), List.getElem?_take, if_pos hj] at e
        exact N9.row_ok e
      · rw [List.append_assoc, List.getElem?_append_right (by rw [lt]; exact Nat.le_refl _), lt, Nat.sub_self]
        rfl
      · unfold rowOk
        rw [if_neg (by omega)]
        exact hbad.2
      · rw [decide_eq_true (rfl : V.int (j : Int) = V.int (j : Int))]
        exact k _ ((((((Fc.new np1).trans F0).new np2).new np3).new np4).same s7)
    have Rd := Fd.rng
    have hqd := Fd.get hqa hqf
    have Ad := Fr.book Ra Fd Aa
    clear hm hmf hoc hqc hob hqb hoa hof
    refine sq_val (.int (B.cash.length : Int)) (fun Q k => ⟨_, rfl, b, _, 0, _, rfl, rfl, Ad.hb, atI_nat (j := 0) rfl, ca, _, rfl, .inr Ad.hca, by rw [lc]; exact k⟩) ?_
    refine sq_set (fun v He => He = Hd ∧ v = .int (B.claims.length : Int)) (fun Q k => ⟨_, rfl, q, _, rfl, .inl (sq_of hqd), _, _, rfl, rfl, k _ _ ⟨rfl, congrArg V.int (by rw [lRV]; omega)⟩⟩) (fun v He hv => ?_)
    obtain ⟨rfl, rfl⟩ := hv
    have lmany : (nS (B.cash.length : Int)).length ≤ 3 := nS_len (by omega) (by omega)
    have l7 : ("0 owes " : Str).length = 7 := by decide +kernel
    have l8 : (" 5 at 1" : Str).length = 7 := by decide +kernel
    -- claims that are none
    refine sq_set (fun v Hf => Same He Hf ∧ ∃ no us, v = .ref no ∧ He no = none ∧ Hf no = some (.lst (us.map V.ref)) ∧ PairsAt Hf us [(⟨0, 0, 5, 1⟩, "house"), (⟨0, (B.cash.length : Int), 5, 1⟩, "house")]) (fun Q k => ⟨by show 2 ≤ sizeLine; decide, fun t1 nt1 => ⟨_, rfl, _, rfl, nS_log (by omega) (by omega), "0 owes ", _, rfl, rfl, ?_, _, _, rfl, rfl, ?_, by show 2 ≤ sizeLine; decide, fun t2 nt2 => ⟨by show 2 ≤ sizeLine; decide, fun l nl => k _ _ ⟨((Same.new nt1).trans (Same.new nt2)).trans (Same.new nl), l, [t1, t2], rfl, ((Same.new nt1).trans (Same.new nt2)).free nl, upd_same, ((none0.app ?_).app ?_)⟩⟩⟩⟩) (fun v Hf hv => ?_)
    · exact sz_of (by rw [l7]; show 7 + (nS (B.cash.length : Int)).length ≤ _; omega)
    · refine sz_of ?_
      rw [app_len, l7, l8]
      show 7 + (nS (B.cash.length : Int)).length + 7 ≤ _
      omega
    · rw [Same.new nl _ _ (Same.new nt2 _ _ upd_same)]
      exact congrArg (fun z => some (HO.tup [.str z, .str "house"])) (show ("0 owes 0 5 at 1" : Str) = rowS (wordsOf ⟨0, 0, 5, 1⟩) by decide +kernel)
    · rw [Same.new nl _ _ upd_same]
      exact congrArg (fun z => some (HO.tup [.str z, .str "house"])) (many_row (B.cash.length : Int))
    obtain ⟨sf, no, us, rfl, nno, hno, hus⟩ := hv
    refine sq_drop (fun Hg => Same He Hg ∧ ∃ us, Hg no = some (.lst (us.map V.ref)) ∧ PairsAt Hg us (none3 (B.cash.length : Int))) (fun Q k => ⟨_, rfl, .inl ⟨rfl, _, sq_of hno⟩, by show 2 ≤ sizeLine; decide, fun t nt => ⟨no, _, _, rfl, rfl, Same.new nt _ _ hno, ?_, k _ _ ⟨Same.mut (sf.trans (Same.new nt)) nno, us ++ [t], by rw [upd_same, List.map_append]; rfl, ((hus.same (Same.new nt)).app ?_).put (Same.new nt _ _ hno)⟩⟩⟩) (fun Hg hv => ?_)
    · rw [List.length_map, hus.1]
      show 2 < sizeLine
      decide
    · rw [upd_same]
      exact congrArg (fun z => some (HO.tup [.str z, .str "house"])) (show ("9 owes 0 5 at 1" : Str) = rowS (wordsOf ⟨9, 0, 5, 1⟩) by decide +kernel)
    obtain ⟨sg, us3, hno3, hus3⟩ := hv
    have lu3 : us3.length = 3 := hus3.1
    refine sq_norm [some (.ref a), some (.ref h), some (.ref b), some (.ref q), some (.ref d), some (.ref o), some (.int (j : Int)), some (.ref m), some (.int (B.cash.length : Int)), some (.int (B.claims.length : Int)), some (.ref no), none, none] rfl ?_
    refine sq_cut (fun σ' Hh => Same He Hh ∧ ∃ no us, σ' = [some (.ref a), some (.ref h), some (.ref b), some (.ref q), some (.ref d), some (.ref o), some (.int (j : Int)), some (.ref m), some (.int (B.cash.length : Int)), some (.int (B.claims.length : Int)), some (.ref no), none, none] ∧ He no = none ∧ Hh no = some (.lst (us.map V.ref)) ∧ PairsAt Hh us (noneOf (B.cash.length : Int))) ?_ (fun σ' Hh hM => ?_)
    · refine if_ifP (p := (B.cash.length : Int) > 1) (fun Q k => ⟨_, rfl, _, _, rfl, rfl, _, rfl, k⟩) (fun c1 => ?_) (fun c1 => ?_)
      · refine sq_set (fun v Hh => Same Hg Hh ∧ ∃ n2 us, v = .ref n2 ∧ Hg n2 = none ∧ Hh n2 = some (.lst (us.map V.ref)) ∧ PairsAt Hh us (none3 (B.cash.length : Int) ++ none2)) (fun Q k => ⟨_, rfl, by show 2 ≤ sizeLine; decide, fun t1 nt1 => ⟨by show 2 ≤ sizeLine; decide, fun t2 nt2 => ⟨by show 2 ≤ sizeLine; decide, fun l nl => ⟨no, l, _, _, rfl, rfl, Same.new nl _ _ (Same.new nt2 _ _ (Same.new nt1 _ _ hno3)), upd_same, ?_, fun p np => k _ _ ⟨(((Same.new nt1).trans (Same.new nt2)).trans (Same.new nl)).trans (Same.new np), p, us3 ++ [t1, t2], rfl, (((Same.new nt1).trans (Same.new nt2)).trans (Same.new nl)).free np, by rw [upd_same, List.map_append]; rfl, ?_⟩⟩⟩⟩⟩) (fun v Hh hv => ?_)
        · rw [List.length_map, lu3]
          show 3 + 2 ≤ sizeLine
          decide
        · have e := (((hus3.same ((((Same.new nt1).trans (Same.new nt2)).trans (Same.new nl)).trans (Same.new (o := .lst (us3.map V.ref ++ [V.ref t1, V.ref t2])) np))).app (t := t1) (p := (⟨0, 1, 0, 1⟩, "amount")) ?_).app (t := t2) (p := (⟨0, 1, 1000, 1⟩, "amount")) ?_)
          · rw [List.append_assoc, List.append_assoc] at e
            exact e
          · rw [Same.new np _ _ (Same.new nl _ _ (Same.new nt2 _ _ upd_same))]
            exact congrArg (fun z => some (HO.tup [.str z, .str "amount"])) (show ("0 owes 1 0 at 1" : Str) = rowS (wordsOf ⟨0, 1, 0, 1⟩) by decide +kernel)
          · rw [Same.new np _ _ (Same.new nl _ _ upd_same)]
            exact congrArg (fun z => some (HO.tup [.str z, .str "amount"])) (show ("0 owes 1 1000 at 1" : Str) = rowS (wordsOf ⟨0, 1, 1000, 1⟩) by decide +kernel)
        obtain ⟨sh, n2, us5, rfl, nn2, hn2, hus5⟩ := hv
        have lu5 : us5.length = 5 := hus5.1
        have nx := sg.free nn2
        refine last_set (fun v Hi => Same Hh Hi ∧ ∃ n3 us, v = .ref n3 ∧ Hh n3 = none ∧ Hi n3 = some (.lst (us.map V.ref)) ∧ PairsAt Hi us (noneOf (B.cash.length : Int))) (fun Q k => ⟨_, rfl, by show 2 ≤ sizeLine; decide, fun t1 nt1 => ⟨by show 2 ≤ sizeLine; decide, fun t2 nt2 => ⟨by show 2 ≤ sizeLine; decide, fun l nl => ⟨n2, l, _, _, rfl, rfl, Same.new nl _ _ (Same.new nt2 _ _ (Same.new nt1 _ _ hn2)), upd_same, ?_, fun p np => k _ _ ⟨(((Same.new nt1).trans (Same.new nt2)).trans (Same.new nl)).trans (Same.new np), p, us5 ++ [t1, t2], rfl, (((Same.new nt1).trans (Same.new nt2)).trans (Same.new nl)).free np, by rw [upd_same, List.map_append]; rfl, ?_⟩⟩⟩⟩⟩) (fun v Hi hv => ?_)
        · rw [List.length_map, lu5]
          show 5 + 2 ≤ sizeLine
          decide
        · have e := (((hus5.same ((((Same.new nt1).trans (Same.new nt2)).trans (Same.new nl)).trans (Same.new (o := .lst (us5.map V.ref ++ [V.ref t1, V.ref t2])) np))).app (t := t1) (p := (⟨0, 1, 5, 0⟩, "rank")) ?_).app (t := t2) (p := (⟨0, 1, 5, 10⟩, "rank")) ?_)
          · rw [List.append_assoc, List.append_assoc] at e
            unfold noneOf
            rw [if_pos c1]
            unfold none4
            rw [List.append_assoc] at e
            exact e
          · rw [Same.new np _ _ (Same.new nl _ _ (Same.new nt2 _ _ upd_same))]
            exact congrArg (fun z => some (HO.tup [.str z, .str "rank"])) (show ("0 owes 1 5 at 0" : Str) = rowS (wordsOf ⟨0, 1, 5, 0⟩) by decide +kernel)
          · rw [Same.new np _ _ (Same.new nl _ _ upd_same)]
            exact congrArg (fun z => some (HO.tup [.str z, .str "rank"])) (show ("0 owes 1 5 at 10" : Str) = rowS (wordsOf ⟨0, 1, 5, 10⟩) by decide +kernel)
        obtain ⟨si, n3, us7, rfl, nn3, hn3, hus7⟩ := hv
        exact ⟨sg.trans (sh.trans si), n3, us7, rfl, (sg.trans sh).free nn3, hn3, hus7⟩
      · refine ⟨sg, no, us3, rfl, nno, hno3, ?_⟩
        unfold noneOf
        rw [if_neg c1, List.append_nil]
        exact hus3
    obtain ⟨sh, no, us, rfl, nno2, hnoh, hush⟩ := hM
    have Rh := Rd.same sh
    have nof := Rd.fresh nno2
    have hqh := sh _ _ hqd
    have lun : us.length = (noneOf (B.cash.length : Int)).length := hush.1
    have lno : 3 ≤ (noneOf (B.cash.length : Int)).length ∧ (noneOf (B.cash.length : Int)).length ≤ 7 := by
      unfold noneOf
      rw [List.length_append]
      split
      · exact ⟨by show 3 ≤ 3 + 4; decide, by show 3 + 4 ≤ 7; decide⟩
      · exact ⟨by show 3 ≤ 3 + 0; decide, by show 3 + 0 ≤ 7; decide⟩
    refine sq_asg (fun v Hi => Fr h c Hh Hi ∧ ∃ t p, v = .ref t ∧ p ∈ noneOf (B.cash.length : Int) ∧ Hi t = some (.tup [.str (rowS (wordsOf p.1)), .str p.2])) (fun Q k => ⟨_, rfl, _, rfl, _, rfl, no, _, rfl, .inl (sq_of hnoh), h, c, _, rfl, Rh, by rw [List.length_map, lun]; omega, by rw [List.length_map, lun]; omega, fun r Hi r0 r1 Ri oi => ?_⟩) (fun v Hi hv => ?_)
    · obtain ⟨i, rfl⟩ := Int.eq_ofNat_of_zero_le r0
      rw [List.length_map] at r1
      have hi : i < us.length := by omega
      have Fi : Fr h c Hh Hi := ⟨oi, Ri⟩
      refine ⟨no, _, (i : Int), .ref us[i], rfl, rfl, sq_of (Fi.get hnoh nof), atI_nat (by rw [List.getElem?_map, List.getElem?_eq_getElem hi]; rfl), k _ _ ⟨Fi, us[i], (noneOf (B.cash.length : Int))[i]'(by omega), rfl, List.getElem_mem _, (hush.off Rh Fi).2 i _ _ (List.getElem?_eq_getElem hi) (List.getElem?_eq_getElem _)⟩⟩
    obtain ⟨Fi, t, p, rfl, hp, ht⟩ := hv
    obtain ⟨hwr, hd9, hc9, ha9, hr9⟩ := noneOf_bad (by omega) (by omega) hp
    refine ⟨t, _, rfl, st_of ht, rfl, _, _, rfl, _, _, rfl, rfl, ?_⟩
    dsimp only
    have hqi := Fi.get hqh hqf
    have hW := more_wrong G m22 hwr
    have NW : Fit9 ⟨B.cash, B.claims ++ [p.1]⟩ := ⟨N9.n0, N9.n1, by show (B.claims ++ [p.1]).length ≤ 90; rw [List.length_append]; show _ + 1 ≤ 90; omega, N9.cash, fun x hx => by
      rcases List.mem_append.mp hx with e | e
      · exact N9.claims x e
      · rw [List.mem_singleton.mp e]
        exact ⟨hd9, hc9, ha9, hr9⟩⟩
    have lcl : (B.claims ++ [p.1]).map wordsOf = B.claims.map wordsOf ++ [wordsOf p.1] := by rw [List.map_append]; rfl
    -- the row behind
    refine sq_no (fun Hj => Same Hi Hj) (fun Q k => ⟨_, rfl, _, rfl, by show 1 ≤ sizeLine; decide, fun p1 np1 => ⟨q, p1, _, _, rfl, rfl, Same.new np1 _ _ hqi, upd_same, ?_, fun p2 np2 => ⟨p2, rfl, .inr ⟨⟨B.cash, B.claims ++ [p.1]⟩, (B.claims.length : Int), p.2, sq_of ?_, NW, hW, fun t2 Hj sj nt2 ht2 => ⟨_, rfl, _, rfl, by show 2 ≤ sizeLine; decide, fun t3 nt3 => ⟨dWord (B.claims.length : Int) p.2, dWord (B.claims.length : Int) p.2, dp_word (Same.new nt3 _ _ ht2), dp_word upd_same, (word_shaped hW.ok).1, (word_shaped hW.ok).1, _, rfl, ?_⟩⟩⟩⟩⟩⟩) (fun Hj sj => ?_)
    · rw [lRV]
      exact sz_of (by show _ + 1 ≤ _; omega)
    · rw [upd_same]
      unfold rowsOf
      show some (HO.lst _) = some (HO.lst ((((cashWords B) :: ((B.claims ++ [p.1]).map wordsOf)).map rowS).map V.str))
      rw [lcl]
      simp only [List.map_cons, List.map_append, List.cons_append, List.map_nil]
    · rw [SeqAt.eqv_refl _ (word_shaped hW.ok).2]
      exact k _ ((((Same.new np1).trans (Same.new np2)).trans sj).trans (Same.new nt3))
    have hqj := sj _ _ hqi
    -- nine houses
    have l0 : (" 0" : Str).length = 2 := by decide +kernel
    have lca : ("cash" : Str).length = 4 := by decide +kernel
    have hW9 : Wrong ⟨List.replicate 9 0, B.claims⟩ 0 "houses" := .houses (by show ¬ (1 ≤ (List.replicate 9 (0 : Int)).length ∧ (List.replicate 9 (0 : Int)).length ≤ 8); decide)
    have N99 : Fit9 ⟨List.replicate 9 0, B.claims⟩ := ⟨by show 1 ≤ (List.replicate 9 (0 : Int)).length; decide, by show (List.replicate 9 (0 : Int)).length ≤ 11; decide, N9.m1, fun x hx => by rw [List.eq_of_mem_replicate hx]; exact ⟨by decide, by decide⟩, N9.claims⟩
    have e9 : ("cash" : Str) ++ Txt.mul " 0" 9 = rowS (cashWords ⟨List.replicate 9 0, B.claims⟩) := by
      show _ = rowS (("cash" : Str) :: (List.replicate 9 (0 : Int)).map nS)
      decide +kernel
    have l18 : (Txt.mul " 0" 9).length = 18 := by decide +kernel
    refine sq_no (fun Hk => Same Hj Hk) (fun Q k => ⟨" 0", 9, rfl, rfl, ⟨by decide +kernel, fun _ _ => by decide +kernel, fun _ _ => by decide +kernel⟩, "cash", _, rfl, rfl, by rw [l18, lca]; decide, by show 1 ≤ sizeLine; decide, fun p1 np1 => ⟨_, rfl, 1, rfl, slQ_up (sq_of (Same.new np1 _ _ hqj)) fun p2 np2 => ⟨p1, p2, _, _, rfl, rfl, Same.new np2 _ _ upd_same, upd_same, ?_, fun p3 np3 => ⟨p3, rfl, .inr ⟨⟨List.replicate 9 0, B.claims⟩, 0, "houses", sq_of ?_, N99, hW9, fun t2 Hk sk nt2 ht2 => ⟨by show 2 ≤ sizeLine; decide, fun t3 nt3 => ⟨dWord 0 "houses", dWord 0 "houses", dp_word (Same.new nt3 _ _ ht2), dp_word upd_same, (word_shaped hW9.ok).1, (word_shaped hW9.ok).1, _, rfl, ?_⟩⟩⟩⟩⟩⟩⟩) (fun Hk sk => ?_)
    · rw [ec1, List.length_drop, lRV]
      exact sz_of (by show 1 + _ ≤ _; omega)
    · rw [upd_same, ec1, e9]
      rfl
    · rw [SeqAt.eqv_refl _ (word_shaped hW9.ok).2]
      exact k _ (((((Same.new np1).trans (Same.new np2)).trans (Same.new np3)).trans sk).trans (Same.new nt3))
    -- too many coins
    have hWa : Wrong ⟨[0, 123456789], []⟩ 1 "cash" := .cash 1 ⟨by decide, by decide⟩ (by decide) (fun j hj => by
      have : j = 0 := by omega
      subst this
      decide) (by decide)
    have Na : Fit9 ⟨[0, 123456789], []⟩ := ⟨by decide, by decide, by decide, fun x hx => by
      simp only [List.mem_cons, List.not_mem_nil, or_false] at hx
      rcases hx with rfl | rfl
      · exact ⟨by decide, by decide⟩
      · exact ⟨by decide, by decide⟩, fun q hq => by cases hq⟩
    have ea : ([("cash 0 123456789" : Str)] : List Str) = (rowsOf ⟨[0, 123456789], []⟩).map rowS := by decide +kernel
    refine sq_no (fun Hl => Same Hk Hl) (fun Q k => ⟨by show 1 ≤ sizeLine; decide, fun p1 np1 => ⟨p1, rfl, .inr ⟨⟨[0, 123456789], []⟩, 1, "cash", sq_of (by rw [upd_same, ← ea]; rfl), Na, hWa, fun t2 Hl sl nt2 ht2 => ⟨by show 2 ≤ sizeLine; decide, fun t3 nt3 => ⟨dWord 1 "cash", dWord 1 "cash", dp_word (Same.new nt3 _ _ ht2), dp_word upd_same, (word_shaped hWa.ok).1, (word_shaped hWa.ok).1, _, rfl, ?_⟩⟩⟩⟩⟩) (fun Hl sl => ?_)
    · rw [SeqAt.eqv_refl _ (word_shaped hWa.ok).2]
      exact k _ (((Same.new np1).trans sl).trans (Same.new nt3))
    -- a great amount
    have hWb : Wrong ⟨[0, 0], [⟨0, 1, 100000000, 1⟩]⟩ 0 "amount" := .claim 0 "amount" ⟨⟨by decide, by decide⟩, fun j hj => by
      have : j = 0 ∨ j = 1 := by
        have : j < 2 := hj
        omega
      rcases this with rfl | rfl <;> decide⟩ (by decide) (by decide) (fun j hj => absurd hj (Nat.not_lt_zero _)) (by decide +kernel)
    have Nb : Fit9 ⟨[0, 0], [⟨0, 1, 100000000, 1⟩]⟩ := ⟨by decide, by decide, by decide, fun x hx => by
      simp only [List.mem_cons, List.not_mem_nil, or_false] at hx
      rcases hx with rfl | rfl <;> exact ⟨by decide, by decide⟩, fun q hq => by
      rw [List.mem_singleton.mp hq]
      exact ⟨⟨by decide, by decide⟩, ⟨by decide, by decide⟩, ⟨by decide, by decide⟩, by decide, by decide⟩⟩
    have eb : ([("cash 0 0" : Str), "0 owes 1 100000000 at 1"] : List Str) = (rowsOf ⟨[0, 0], [⟨0, 1, 100000000, 1⟩]⟩).map rowS := by decide +kernel
    refine sq_no (fun Hm => Same Hl Hm) (fun Q k => ⟨by show 2 ≤ sizeLine; decide, fun p1 np1 => ⟨p1, rfl, .inr ⟨⟨[0, 0], [⟨0, 1, 100000000, 1⟩]⟩, 0, "amount", sq_of (by rw [upd_same, ← eb]; rfl), Nb, hWb, fun t2 Hm sm nt2 ht2 => ⟨by show 2 ≤ sizeLine; decide, fun t3 nt3 => ⟨dWord 0 "amount", dWord 0 "amount", dp_word (Same.new nt3 _ _ ht2), dp_word upd_same, (word_shaped hWb.ok).1, (word_shaped hWb.ok).1, _, rfl, ?_⟩⟩⟩⟩⟩) (fun Hm sm => ?_)
    · rw [SeqAt.eqv_refl _ (word_shaped hWb.ok).2]
      exact k _ (((Same.new np1).trans sm).trans (Same.new nt3))
    -- the first of two
    have hWc : Wrong ⟨[5, 1000], [⟨0, 0, 0, 0⟩]⟩ 1 "cash" := .cash 1 ⟨by decide, by decide⟩ (by decide) (fun j hj => by
      have : j = 0 := by omega
      subst this
      decide) (by decide)
    have Nc : Fit9 ⟨[5, 1000], [⟨0, 0, 0, 0⟩]⟩ := ⟨by decide, by decide, by decide, fun x hx => by
      simp only [List.mem_cons, List.not_mem_nil, or_false] at hx
      rcases hx with rfl | rfl <;> exact ⟨by decide, by decide⟩, fun q hq => by
      rw [List.mem_singleton.mp hq]
      exact ⟨⟨by decide, by decide⟩, ⟨by decide, by decide⟩, ⟨by decide, by decide⟩, by decide, by decide⟩⟩
    have ecc : ([("cash 5 1000" : Str), "0 owes 0 0 at 0"] : List Str) = (rowsOf ⟨[5, 1000], [⟨0, 0, 0, 0⟩]⟩).map rowS := by decide +kernel
    refine ⟨by show 2 ≤ sizeLine; decide, fun p1 np1 => ⟨p1, rfl, .inr ⟨⟨[5, 1000], [⟨0, 0, 0, 0⟩]⟩, 1, "cash", sq_of (by rw [upd_same, ← ecc]; rfl), Nc, hWc, fun t2 Hn sn nt2 ht2 => ⟨by show 2 ≤ sizeLine; decide, fun t3 nt3 => ⟨dWord 1 "cash", dWord 1 "cash", dp_word (Same.new nt3 _ _ ht2), dp_word upd_same, (word_shaped hWc.ok).1, (word_shaped hWc.ok).1, ?_⟩⟩⟩⟩⟩
    rw [SeqAt.eqv_refl _ (word_shaped hWc.ok).2]
    exact k _
end


end Rf
namespace Rf
open PySem PySem.Spec PyProof.Rows L2
section
variable {P : Program} {w : World} {K : PySem.W.Frag} {mg : Str → Option Value} {base : Heap}
theorem ok_law {f : Addr} {fd : FuncData} (D : DefAt K mg "law" s_law ["_law_script"] f fd) (L : Lims mg) (LT : LimsT mg) (m_range : mg "range" = none) (m_len : mg "len" = none) (m_max : mg "max" = none) (m_list : mg "list" = none) (m_enumerate : mg "enumerate" = none) (m_isinstance : mg "isinstance" = none) (m_int : mg "int" = none) (m_tuple : mg "tuple" = none) (m_str : mg "str" = none) (m_ValueError : mg "ValueError" = none) 
    {C_FallError : Addr} (X_FallError : OwnAt K mg "FallError" C_FallError) 
    {C_BadBook fi_BadBook cc_BadBook ca_BadBook : Addr} {fdi_BadBook : FuncData} (X_BadBook : InitAt P K mg "BadBook" C_BadBook fi_BadBook cc_BadBook ca_BadBook fdi_BadBook "BadBook.__init__" s_bbinit ["self", "at", "why"]) 
    {C_NoHouse : Addr} (X_NoHouse : OwnAt K mg "NoHouse" C_NoHouse) 
    {C_BadPayments : Addr} (X_BadPayments : OwnAt K mg "BadPayments" C_BadPayments) 
    {C_NoMove fi_NoMove cc_NoMove ca_NoMove : Addr} {fdi_NoMove : FuncData} (X_NoMove : InitAt P K mg "NoMove" C_NoMove fi_NoMove cc_NoMove ca_NoMove fdi_NoMove "NoMove.__init__" s_nminit ["self", "number"]) 
    {C_BadText fi_BadText cc_BadText ca_BadText : Addr} {fdi_BadText : FuncData} (X_BadText : InitAt P K mg "BadText" C_BadText fi_BadText cc_BadText ca_BadText fdi_BadText "BadText.__init__" s_btinit ["self", "row"]) (N_at : PySem.W.findIn K (.ref C_BadBook) "at" = some none) (N_why : PySem.W.findIn K (.ref C_BadBook) "why" = some none) (N_row : PySem.W.findIn K (.ref C_BadText) "row" = some none) (xga : PySem.W.findIn K (.ref C_BadBook) "__getattribute__" = some (some (.builtin "BaseException.__getattribute__"))) (xgt : PySem.W.findIn K (.ref C_BadBook) "__getattr__" = some none) (xhd : PySem.W.hasDictIn K C_BadBook = true) (xcl : PySem.W.findIn K (.ref C_BadBook) "__class__" = some (some (.builtin "object.__class__"))) (xmo : PySem.W.mroIn K C_BadBook (.type "object") = some true) (xsb : PySem.W.subIn K (.ref C_BadBook) (.ref C_FallError) = some true) (tga : PySem.W.findIn K (.ref C_BadText) "__getattribute__" = some (some (.builtin "BaseException.__getattribute__"))) (tgt : PySem.W.findIn K (.ref C_BadText) "__getattr__" = some none) (thd : PySem.W.hasDictIn K C_BadText = true) (tcl : PySem.W.findIn K (.ref C_BadText) "__class__" = some (some (.builtin "object.__class__"))) (tmo : PySem.W.mroIn K C_BadText (.type "object") = some true) (tsb : PySem.W.subIn K (.ref C_BadText) (.ref C_FallError) = some true) (xsp : PySem.W.specialIn K (.builtin "object.__class__") "__get__" = some (some (.builtin "getset_descriptor.__get__"))) (xtk : PySem.W.takesIn K (.builtin "object.__class__") = some true) (xfd : PySem.W.hasDictIn K C_FallError = true) (hk1 : PySem.W.kitAny K (.ref C_BadBook) [.ref C_BadPayments, .ref C_NoHouse, .ref C_NoMove] = some false) (hk2 : PySem.W.kitOne K (.ref C_BadBook) (.type "ValueError") = some true) (hk3 : PySem.W.kitOne K (.ref C_BadBook) (.ref C_BadText) = some false) (hk4 : PySem.W.kitAny K (.ref C_BadText) [.ref C_BadPayments, .ref C_NoHouse, .ref C_NoMove] = some false) (hk5 : PySem.W.kitOne K (.ref C_BadText) (.type "ValueError") = some true) (hk6 : PySem.W.kitOne K (.ref C_BadText) (.ref C_BadText) = some true) (hk7 : PySem.W.kitOne K (.ref C_BadText) (.ref C_BadBook) = some false) 
    {g0 : Addr} {gd0 : FuncData} (D_need : DefAt K mg "need_book" s_need ["book"] g0 gd0) 
    {g1 : Addr} {gd1 : FuncData} (D_wrong : DefAt K mg "_wrong_in_claim" s_wrong ["claim", "houses"] g1 gd1) 
    {g2 : Addr} {gd2 : FuncData} (D_written : DefAt K mg "written" s_written ["book"] g2 gd2) 
    {g3 : Addr} {gd3 : FuncData} (D_read : DefAt K mg "read" s_read ["text"] g3 gd3) 
    {g4 : Addr} {gd4 : FuncData} (D_iscash : DefAt K mg "_is_cash" s_iscash ["words"] g4 gd4) 
    {g5 : Addr} {gd5 : FuncData} (D_isclaim : DefAt K mg "_is_claim" s_isclaim ["words"] g5 gd5) 
    {g6 : Addr} {gd6 : FuncData} (D_arenum : DefAt K mg "_are_numbers" s_arenum ["words"] g6 gd6) 
    {g7 : Addr} {gd7 : FuncData} (D_next : DefAt K mg "_law_next" s_next ["_law_h", "_law_many"] g7 gd7) 
    {g8 : Addr} {gd8 : FuncData} (D_lbook : DefAt K mg "_law_book" s_lbook ["_law_h", "_law_houses", "_law_claims", "_law_wide"] g8 gd8) 
    {g9 : Addr} {gd9 : FuncData} (D_refu : DefAt K mg "_law_refusal" s_refu ["_law_rows"] g9 gd9) : FnOk P w K mg base CX0 21 f fd ["_law_script"] (spLaw K) := by
  have G_next := ok_next (P := P) (w := w) (base := base) D_next m_max m_len
  have G_need := ok_need (P := P) (w := w) (base := base) D_need L m_len m_enumerate D_wrong
  have GX_need := ok_needB (P := P) (w := w) (base := base) D_need L m_len m_enumerate D_wrong X_BadBook N_at N_why
  have G_written := ok_written (P := P) (w := w) (base := base) D_written m_str D_need G_need
  have G_arenum := ok_arenumB (P := P) (w := w) (base := base) D_arenum LT m_len
  have G_iscash := ok_iscashB (P := P) (w := w) (base := base) D_iscash m_len D_arenum G_arenum
  have G_isclaim := ok_isclaimB (P := P) (w := w) (base := base) D_isclaim m_len D_arenum G_arenum
  have GX_read : FnOk P w K mg base (L2.CX P w) 5 _ _ ["text"] (fun vs H Q E => spReadT K C_BadText vs H Q E ∨ spReadW K C_BadBook vs H Q E) := FnOk.or (ok_readT (P := P) (w := w) (base := base) D_read m_enumerate D_iscash G_iscash D_isclaim G_isclaim X_BadText N_row) (ok_readW (P := P) (w := w) (base := base) D_read m_enumerate m_int m_tuple D_need GX_need D_iscash G_iscash D_isclaim G_isclaim X_BadText N_row)
  have TX : XfC K C_BadBook := ⟨xga, xgt, X_BadBook.T.exC, xhd⟩
  have TXT : XfC K C_BadText := ⟨tga, tgt, X_BadText.T.exC, thd⟩
  have TC : ExcC K C_BadBook := ⟨xga, xgt, X_BadBook.T.exC, xhd, xcl, xsp, xtk, xmo⟩
  have TCT : ExcC K C_BadText := ⟨tga, tgt, X_BadText.T.exC, thd, tcl, xsp, xtk, tmo⟩
  have G_refu := ok_refu (P := P) (w := w) (base := base) D_refu D_read GX_read ⟨X_BadBook.gC⟩ ⟨X_BadText.gC⟩ ⟨X_FallError.gC⟩ ⟨X_BadPayments.gC⟩ ⟨X_NoHouse.gC⟩ ⟨X_NoMove.gC⟩ m_isinstance m_ValueError TX TXT N_at N_why N_row TC TCT (PySem.W.exm_ref X_FallError.eC xfd X_FallError.tC xsb) (PySem.W.exm_ref X_FallError.eC xfd X_FallError.tC tsb) hk1 hk2 hk3 hk4 hk5 hk6 hk7
  exact law_body D m_len m_str m_list D_next G_next D_lbook (ok_lbook D_lbook m_max m_len m_range m_tuple m_int D_next) D_written G_written D_refu G_refu
end


end Rf
namespace Rf
open PySem PySem.Spec PyProof.Rows L2
/-! ### what the top has written; the law's own head -/
theorem all_mk {l : PySem.W.OpenLaw} {w : World} {K : PySem.W.Frag} {h : Heap} {mg : Str → Option Value} {fa f1 f2 f3 f4 f5 f6 f7 f8 f9 f10 f11 : Addr} (X : K.In h) (G : h.Ns mainGlobals mg) (hfa : mg "law" = some (.ref fa))
    {od1 an1 od2 an2 od3 an3 od4 an4 od5 an5 od6 an6 od7 an7 od8 an8 od9 an9 od10 an10 od11 an11 : Option Addr} {sl1 sl2 sl3 sl4 sl5 sl6 sl7 sl8 sl9 sl10 sl11 : Array (Option Value)}
    {oc1 kV1 dc1 pm1 cd1 ct1 oc2 kV2 dc2 pm2 cd2 ct2 oc3 kV3 dc3 pm3 cd3 ct3 oc4 kV4 dc4 pm4 cd4 ct4 oc5 kV5 dc5 pm5 cd5 ct5 oc6 kV6 dc6 pm6 cd6 ct6 oc7 kV7 dc7 pm7 cd7 ct7 oc8 kV8 dc8 pm8 cd8 ct8 oc9 kV9 dc9 pm9 cd9 ct9 oc10 kV10 dc10 pm10 cd10 ct10 oc11 kV11 dc11 pm11 cd11 ct11 : Value}
    {tx1 : Tok} (gx1 : PySem.W.nsIn K mainGlobals "FIGURES" = some (some (.str "0123456789" tx1)))
    {tx2 : Tok} (gx2 : PySem.W.nsIn K mainGlobals "MOST_FIGURES" = some (some (.int 9 tx2)))
    {C_FallError : Addr} (eg0 : PySem.W.nsIn K mainGlobals "FallError" = some (some (.ref C_FallError)))
    (ek0 : PySem.W.keepIn K (.ref C_FallError) = true) (es0 : PySem.W.subIn K (.ref C_FallError) (.type "BaseException") = some true) (et0 : PySem.W.typeIn K (.ref C_FallError) = some (.type "type"))
    (ex0 : PySem.W.excIn K C_FallError [.type "ValueError", .type "Exception", .type "BaseException", .type "object"] "ValueError.__new__" = true)
    {C_BadBook : Addr} (eg1 : PySem.W.nsIn K mainGlobals "BadBook" = some (some (.ref C_BadBook)))
    (ek1 : PySem.W.keepIn K (.ref C_BadBook) = true) (es1 : PySem.W.subIn K (.ref C_BadBook) (.type "BaseException") = some true) (et1 : PySem.W.typeIn K (.ref C_BadBook) = some (.type "type"))
    {nm1 qn1 : Str} {N1 : Addr} {bs1 bm1 : List Value} {sn1 : List Str} {sub1 : List Value} {ab1 : Bool} {col1 : Option Bool} {dd1 : Option Addr} {m01 m11 m21 m31 m51 : Option Value}
    (ex1 : K.lookup C_BadBook = some (excClassObj nm1 qn1 C_BadBook N1 bs1 bm1 true sn1 sub1 ab1 col1 dd1 m01 m11 m21 m31 m51 "ValueError.__new__")) (eb1 : PySem.HandSPX.refsVE bm1 = true)
    (ea1 : PySem.W.findIn K (.ref C_BadBook) "__setattr__" = some (some (.builtin "object.__setattr__")))
    {xf1 xc1 xd1 : Addr} (ei1 : PySem.W.findIn K (.ref C_BadBook) "__init__" = some (some (.ref xf1))) (ey1 : PySem.W.typeIn K (.ref xf1) = some (.type "function"))
    {xo1 xk1 xdc1 xpm1 xct1 : Value} {xod1 xan1 : Option Addr} {xsl1 : Array (Option Value)} (el1 : K.lookup xf1 = some ⟨xo1, xod1, .func (PySem.W.ksFn "__init__" "BadBook.__init__" (defArgs s_bbinit) (defBody s_bbinit) (defScope s_bbinit) .none xk1 xdc1 xpm1 xan1 (.ref xd1) xct1 xc1), xsl1⟩)
    (ej1 : PySem.W.codeIn K (.ref xd1) "BadBook.__init__" = true) {yc1 : Value} {yd1 : Option Addr} {yv1 : Array Value} {ys1 : Array (Option Value)} {yf1 : Str} {yt1 : Tok} (eo1 : K.lookup xd1 = some ⟨yc1, yd1, .fields yv1, ys1⟩) (ep1 : yv1[2]? = some (.str yf1 yt1)) (eq1 : ((l.prog.main.file : Str) == yf1) = true)
    {zc1 : Value} {zd1 : Option Addr} {zs1 : Array (Option Value)} (er1 : K.lookup xc1 = some ⟨zc1, zd1, .cell (some (.ref C_BadBook)), zs1⟩) (eu1 : PySem.W.isClsIn K C_BadBook = true) (ev1 : PySem.W.mroIn K C_BadBook (.ref C_BadBook) = some true)
    (ew1 : PySem.W.ks_superIn K C_BadBook C_BadBook "__init__" = some (some (.builtin "ValueError.__init__"))) (ez1 : PySem.W.subIn K (.ref C_BadBook) (.type "ValueError") = some true)
    {C_NoHouse : Addr} (eg2 : PySem.W.nsIn K mainGlobals "NoHouse" = some (some (.ref C_NoHouse)))
    (ek2 : PySem.W.keepIn K (.ref C_NoHouse) = true) (es2 : PySem.W.subIn K (.ref C_NoHouse) (.type "BaseException") = some true) (et2 : PySem.W.typeIn K (.ref C_NoHouse) = some (.type "type"))
    (ex2 : PySem.W.excIn K C_NoHouse [.type "ValueError", .type "Exception", .type "BaseException", .type "object"] "ValueError.__new__" = true)
    {C_BadPayments : Addr} (eg3 : PySem.W.nsIn K mainGlobals "BadPayments" = some (some (.ref C_BadPayments)))
    (ek3 : PySem.W.keepIn K (.ref C_BadPayments) = true) (es3 : PySem.W.subIn K (.ref C_BadPayments) (.type "BaseException") = some true) (et3 : PySem.W.typeIn K (.ref C_BadPayments) = some (.type "type"))
    (ex3 : PySem.W.excIn K C_BadPayments [.type "ValueError", .type "Exception", .type "BaseException", .type "object"] "ValueError.__new__" = true)
    {C_NoMove : Addr} (eg4 : PySem.W.nsIn K mainGlobals "NoMove" = some (some (.ref C_NoMove)))
    (ek4 : PySem.W.keepIn K (.ref C_NoMove) = true) (es4 : PySem.W.subIn K (.ref C_NoMove) (.type "BaseException") = some true) (et4 : PySem.W.typeIn K (.ref C_NoMove) = some (.type "type"))
    {nm4 qn4 : Str} {N4 : Addr} {bs4 bm4 : List Value} {sn4 : List Str} {sub4 : List Value} {ab4 : Bool} {col4 : Option Bool} {dd4 : Option Addr} {m04 m14 m24 m34 m54 : Option Value}
    (ex4 : K.lookup C_NoMove = some (excClassObj nm4 qn4 C_NoMove N4 bs4 bm4 true sn4 sub4 ab4 col4 dd4 m04 m14 m24 m34 m54 "ValueError.__new__")) (eb4 : PySem.HandSPX.refsVE bm4 = true)
    (ea4 : PySem.W.findIn K (.ref C_NoMove) "__setattr__" = some (some (.builtin "object.__setattr__")))
    {xf4 xc4 xd4 : Addr} (ei4 : PySem.W.findIn K (.ref C_NoMove) "__init__" = some (some (.ref xf4))) (ey4 : PySem.W.typeIn K (.ref xf4) = some (.type "function"))
    {xo4 xk4 xdc4 xpm4 xct4 : Value} {xod4 xan4 : Option Addr} {xsl4 : Array (Option Value)} (el4 : K.lookup xf4 = some ⟨xo4, xod4, .func (PySem.W.ksFn "__init__" "NoMove.__init__" (defArgs s_nminit) (defBody s_nminit) (defScope s_nminit) .none xk4 xdc4 xpm4 xan4 (.ref xd4) xct4 xc4), xsl4⟩)
    (ej4 : PySem.W.codeIn K (.ref xd4) "NoMove.__init__" = true) {yc4 : Value} {yd4 : Option Addr} {yv4 : Array Value} {ys4 : Array (Option Value)} {yf4 : Str} {yt4 : Tok} (eo4 : K.lookup xd4 = some ⟨yc4, yd4, .fields yv4, ys4⟩) (ep4 : yv4[2]? = some (.str yf4 yt4)) (eq4 : ((l.prog.main.file : Str) == yf4) = true)
    {zc4 : Value} {zd4 : Option Addr} {zs4 : Array (Option Value)} (er4 : K.lookup xc4 = some ⟨zc4, zd4, .cell (some (.ref C_NoMove)), zs4⟩) (eu4 : PySem.W.isClsIn K C_NoMove = true) (ev4 : PySem.W.mroIn K C_NoMove (.ref C_NoMove) = some true)
    (ew4 : PySem.W.ks_superIn K C_NoMove C_NoMove "__init__" = some (some (.builtin "ValueError.__init__"))) (ez4 : PySem.W.subIn K (.ref C_NoMove) (.type "ValueError") = some true)
    {C_BadText : Addr} (eg5 : PySem.W.nsIn K mainGlobals "BadText" = some (some (.ref C_BadText)))
    (ek5 : PySem.W.keepIn K (.ref C_BadText) = true) (es5 : PySem.W.subIn K (.ref C_BadText) (.type "BaseException") = some true) (et5 : PySem.W.typeIn K (.ref C_BadText) = some (.type "type"))
    {nm5 qn5 : Str} {N5 : Addr} {bs5 bm5 : List Value} {sn5 : List Str} {sub5 : List Value} {ab5 : Bool} {col5 : Option Bool} {dd5 : Option Addr} {m05 m15 m25 m35 m55 : Option Value}
    (ex5 : K.lookup C_BadText = some (excClassObj nm5 qn5 C_BadText N5 bs5 bm5 true sn5 sub5 ab5 col5 dd5 m05 m15 m25 m35 m55 "ValueError.__new__")) (eb5 : PySem.HandSPX.refsVE bm5 = true)
    (ea5 : PySem.W.findIn K (.ref C_BadText) "__setattr__" = some (some (.builtin "object.__setattr__")))
    {xf5 xc5 xd5 : Addr} (ei5 : PySem.W.findIn K (.ref C_BadText) "__init__" = some (some (.ref xf5))) (ey5 : PySem.W.typeIn K (.ref xf5) = some (.type "function"))
    {xo5 xk5 xdc5 xpm5 xct5 : Value} {xod5 xan5 : Option Addr} {xsl5 : Array (Option Value)} (el5 : K.lookup xf5 = some ⟨xo5, xod5, .func (PySem.W.ksFn "__init__" "BadText.__init__" (defArgs s_btinit) (defBody s_btinit) (defScope s_btinit) .none xk5 xdc5 xpm5 xan5 (.ref xd5) xct5 xc5), xsl5⟩)
    (ej5 : PySem.W.codeIn K (.ref xd5) "BadText.__init__" = true) {yc5 : Value} {yd5 : Option Addr} {yv5 : Array Value} {ys5 : Array (Option Value)} {yf5 : Str} {yt5 : Tok} (eo5 : K.lookup xd5 = some ⟨yc5, yd5, .fields yv5, ys5⟩) (ep5 : yv5[2]? = some (.str yf5 yt5)) (eq5 : ((l.prog.main.file : Str) == yf5) = true)
    {zc5 : Value} {zd5 : Option Addr} {zs5 : Array (Option Value)} (er5 : K.lookup xc5 = some ⟨zc5, zd5, .cell (some (.ref C_BadText)), zs5⟩) (eu5 : PySem.W.isClsIn K C_BadText = true) (ev5 : PySem.W.mroIn K C_BadText (.ref C_BadText) = some true)
    (ew5 : PySem.W.ks_superIn K C_BadText C_BadText "__init__" = some (some (.builtin "ValueError.__init__"))) (ez5 : PySem.W.subIn K (.ref C_BadText) (.type "ValueError") = some true)
    (esup : PySem.W.nsIn K mainGlobals "super" = some none) (etop : (l.prog.main.scope.names.lookup ("super" : Str)).isSome = false) (eany : PySem.W.nsIn K PySem.cStatics "thirdparty.any" = some none)
    (N_at : PySem.W.findIn K (.ref C_BadBook) "at" = some none)
    (N_why : PySem.W.findIn K (.ref C_BadBook) "why" = some none)
    (N_row : PySem.W.findIn K (.ref C_BadText) "row" = some none)
    (xga : PySem.W.findIn K (.ref C_BadBook) "__getattribute__" = some (some (.builtin "BaseException.__getattribute__")))
    (xgt : PySem.W.findIn K (.ref C_BadBook) "__getattr__" = some none)
    (xhd : PySem.W.hasDictIn K C_BadBook = true)
    (xcl : PySem.W.findIn K (.ref C_BadBook) "__class__" = some (some (.builtin "object.__class__")))
    (xmo : PySem.W.mroIn K C_BadBook (.type "object") = some true)
    (xsb : PySem.W.subIn K (.ref C_BadBook) (.ref C_FallError) = some true)
    (tga : PySem.W.findIn K (.ref C_BadText) "__getattribute__" = some (some (.builtin "BaseException.__getattribute__")))
    (tgt : PySem.W.findIn K (.ref C_BadText) "__getattr__" = some none)
    (thd : PySem.W.hasDictIn K C_BadText = true)
    (tcl : PySem.W.findIn K (.ref C_BadText) "__class__" = some (some (.builtin "object.__class__")))
    (tmo : PySem.W.mroIn K C_BadText (.type "object") = some true)
    (tsb : PySem.W.subIn K (.ref C_BadText) (.ref C_FallError) = some true)
    (xsp : PySem.W.specialIn K (.builtin "object.__class__") "__get__" = some (some (.builtin "getset_descriptor.__get__")))
    (xtk : PySem.W.takesIn K (.builtin "object.__class__") = some true)
    (xfd : PySem.W.hasDictIn K C_FallError = true)
    (hk1 : PySem.W.kitAny K (.ref C_BadBook) [.ref C_BadPayments, .ref C_NoHouse, .ref C_NoMove] = some false)
    (hk2 : PySem.W.kitOne K (.ref C_BadBook) (.type "ValueError") = some true)
    (hk3 : PySem.W.kitOne K (.ref C_BadBook) (.ref C_BadText) = some false)
    (hk4 : PySem.W.kitAny K (.ref C_BadText) [.ref C_BadPayments, .ref C_NoHouse, .ref C_NoMove] = some false)
    (hk5 : PySem.W.kitOne K (.ref C_BadText) (.type "ValueError") = some true)
    (hk6 : PySem.W.kitOne K (.ref C_BadText) (.ref C_BadText) = some true)
    (hk7 : PySem.W.kitOne K (.ref C_BadText) (.ref C_BadBook) = some false)
    (a1 : PySem.W.nsIn K mainGlobals "need_book" = some (some (.ref f1))) (l1 : K.lookup f1 = some ⟨oc1, od1, .func (PySem.W.fnOf "need_book" "need_book" (defArgs s_need) (defBody s_need) (defScope s_need) .none kV1 dc1 pm1 an1 cd1 ct1), sl1⟩) (c1 : PySem.W.codeIn K cd1 "need_book" = true) (k1 : PySem.W.keepIn K (.ref f1) = true)
    (a2 : PySem.W.nsIn K mainGlobals "_wrong_in_claim" = some (some (.ref f2))) (l2 : K.lookup f2 = some ⟨oc2, od2, .func (PySem.W.fnOf "_wrong_in_claim" "_wrong_in_claim" (defArgs s_wrong) (defBody s_wrong) (defScope s_wrong) .none kV2 dc2 pm2 an2 cd2 ct2), sl2⟩) (c2 : PySem.W.codeIn K cd2 "_wrong_in_claim" = true) (k2 : PySem.W.keepIn K (.ref f2) = true)
    (a3 : PySem.W.nsIn K mainGlobals "written" = some (some (.ref f3))) (l3 : K.lookup f3 = some ⟨oc3, od3, .func (PySem.W.fnOf "written" "written" (defArgs s_written) (defBody s_written) (defScope s_written) .none kV3 dc3 pm3 an3 cd3 ct3), sl3⟩) (c3 : PySem.W.codeIn K cd3 "written" = true) (k3 : PySem.W.keepIn K (.ref f3) = true)
    (a4 : PySem.W.nsIn K mainGlobals "read" = some (some (.ref f4))) (l4 : K.lookup f4 = some ⟨oc4, od4, .func (PySem.W.fnOf "read" "read" (defArgs s_read) (defBody s_read) (defScope s_read) .none kV4 dc4 pm4 an4 cd4 ct4), sl4⟩) (c4 : PySem.W.codeIn K cd4 "read" = true) (k4 : PySem.W.keepIn K (.ref f4) = true)
    (a5 : PySem.W.nsIn K mainGlobals "_is_cash" = some (some (.ref f5))) (l5 : K.lookup f5 = some ⟨oc5, od5, .func (PySem.W.fnOf "_is_cash" "_is_cash" (defArgs s_iscash) (defBody s_iscash) (defScope s_iscash) .none kV5 dc5 pm5 an5 cd5 ct5), sl5⟩) (c5 : PySem.W.codeIn K cd5 "_is_cash" = true) (k5 : PySem.W.keepIn K (.ref f5) = true)
    (a6 : PySem.W.nsIn K mainGlobals "_is_claim" = some (some (.ref f6))) (l6 : K.lookup f6 = some ⟨oc6, od6, .func (PySem.W.fnOf "_is_claim" "_is_claim" (defArgs s_isclaim) (defBody s_isclaim) (defScope s_isclaim) .none kV6 dc6 pm6 an6 cd6 ct6), sl6⟩) (c6 : PySem.W.codeIn K cd6 "_is_claim" = true) (k6 : PySem.W.keepIn K (.ref f6) = true)
    (a7 : PySem.W.nsIn K mainGlobals "_are_numbers" = some (some (.ref f7))) (l7 : K.lookup f7 = some ⟨oc7, od7, .func (PySem.W.fnOf "_are_numbers" "_are_numbers" (defArgs s_arenum) (defBody s_arenum) (defScope s_arenum) .none kV7 dc7 pm7 an7 cd7 ct7), sl7⟩) (c7 : PySem.W.codeIn K cd7 "_are_numbers" = true) (k7 : PySem.W.keepIn K (.ref f7) = true)
    (a8 : PySem.W.nsIn K mainGlobals "_law_next" = some (some (.ref f8))) (l8 : K.lookup f8 = some ⟨oc8, od8, .func (PySem.W.fnOf "_law_next" "_law_next" (defArgs s_next) (defBody s_next) (defScope s_next) .none kV8 dc8 pm8 an8 cd8 ct8), sl8⟩) (c8 : PySem.W.codeIn K cd8 "_law_next" = true) (k8 : PySem.W.keepIn K (.ref f8) = true)
    (a9 : PySem.W.nsIn K mainGlobals "_law_book" = some (some (.ref f9))) (l9 : K.lookup f9 = some ⟨oc9, od9, .func (PySem.W.fnOf "_law_book" "_law_book" (defArgs s_lbook) (defBody s_lbook) (defScope s_lbook) .none kV9 dc9 pm9 an9 cd9 ct9), sl9⟩) (c9 : PySem.W.codeIn K cd9 "_law_book" = true) (k9 : PySem.W.keepIn K (.ref f9) = true)
    (a10 : PySem.W.nsIn K mainGlobals "_law_refusal" = some (some (.ref f10))) (l10 : K.lookup f10 = some ⟨oc10, od10, .func (PySem.W.fnOf "_law_refusal" "_law_refusal" (defArgs s_refu) (defBody s_refu) (defScope s_refu) .none kV10 dc10 pm10 an10 cd10 ct10), sl10⟩) (c10 : PySem.W.codeIn K cd10 "_law_refusal" = true) (k10 : PySem.W.keepIn K (.ref f10) = true)
    (a11 : PySem.W.nsIn K mainGlobals "law" = some (some (.ref f11))) (l11 : K.lookup f11 = some ⟨oc11, od11, .func (PySem.W.fnOf "law" "law" (defArgs s_law) (defBody s_law) (defScope s_law) .none kV11 dc11 pm11 an11 cd11 ct11), sl11⟩) (c11 : PySem.W.codeIn K cd11 "law" = true) (k11 : PySem.W.keepIn K (.ref f11) = true)
    (z1 : PySem.W.nsIn K mainGlobals "range" = some none)
    (z2 : PySem.W.nsIn K mainGlobals "len" = some none)
    (z3 : PySem.W.nsIn K mainGlobals "max" = some none)
    (z4 : PySem.W.nsIn K mainGlobals "list" = some none)
    (z5 : PySem.W.nsIn K mainGlobals "enumerate" = some none)
    (z6 : PySem.W.nsIn K mainGlobals "isinstance" = some none)
    (z7 : PySem.W.nsIn K mainGlobals "int" = some none)
    (z8 : PySem.W.nsIn K mainGlobals "tuple" = some none)
    (z9 : PySem.W.nsIn K mainGlobals "str" = some none)
    (z10 : PySem.W.nsIn K mainGlobals "ValueError" = some none)
    {tk1 : Tok} (g1 : PySem.W.nsIn K mainGlobals "MOST_HOUSES" = some (some (.int 8 tk1)))
    {tk2 : Tok} (g2 : PySem.W.nsIn K mainGlobals "MOST_CASH" = some (some (.int 999 tk2)))
    {tk3 : Tok} (g3 : PySem.W.nsIn K mainGlobals "MOST_CLAIMS" = some (some (.int 24 tk3)))
    {tk4 : Tok} (g4 : PySem.W.nsIn K mainGlobals "MOST_AMOUNT" = some (some (.int 999 tk4)))
    {tk5 : Tok} (g5 : PySem.W.nsIn K mainGlobals "MOST_RANK" = some (some (.int 9 tk5)))
    : ∃ fd : FuncData, (∀ (s : Shared) (v : Value), BindsTo s fd ⟨[v], []⟩ [("_law_script", v)]) ∧ ∀ base : Heap, K.In base → base.Ns mainGlobals mg → FnOk l.prog w K mg base CX0 21 fa fd ["_law_script"] (spLaw K) := by
  have e := hfa.symm.trans (PySem.W.mg_of X G a11)
  cases e
  have F1 := fun_mk (st := s_need) l1 c1 k1
  have D_need : DefAt K mg "need_book" s_need ["book"] _ _ := ⟨F1, F1.binds (ps := ["book"]) fun _ _ _ _ _ _ us hl => match us, hl with | [_], _ => rfl, PySem.W.mg_of X G a1⟩
  have F2 := fun_mk (st := s_wrong) l2 c2 k2
  have D_wrong : DefAt K mg "_wrong_in_claim" s_wrong ["claim", "houses"] _ _ := ⟨F2, F2.binds (ps := ["claim", "houses"]) fun _ _ _ _ _ _ us hl => match us, hl with | [_, _], _ => rfl, PySem.W.mg_of X G a2⟩
  have F3 := fun_mk (st := s_written) l3 c3 k3
  have D_written : DefAt K mg "written" s_written ["book"] _ _ := ⟨F3, F3.binds (ps := ["book"]) fun _ _ _ _ _ _ us hl => match us, hl with | [_], _ => rfl, PySem.W.mg_of X G a3⟩
  have F4 := fun_mk (st := s_read) l4 c4 k4
  have D_read : DefAt K mg "read" s_read ["text"] _ _ := ⟨F4, F4.binds (ps := ["text"]) fun _ _ _ _ _ _ us hl => match us, hl with | [_], _ => rfl, PySem.W.mg_of X G a4⟩
  have F5 := fun_mk (st := s_iscash) l5 c5 k5
  have D_iscash : DefAt K mg "_is_cash" s_iscash ["words"] _ _ := ⟨F5, F5.binds (ps := ["words"]) fun _ _ _ _ _ _ us hl => match us, hl with | [_], _ => rfl, PySem.W.mg_of X G a5⟩
  have F6 := fun_mk (st := s_isclaim) l6 c6 k6
  have D_isclaim : DefAt K mg "_is_claim" s_isclaim ["words"] _ _ := ⟨F6, F6.binds (ps := ["words"]) fun _ _ _ _ _ _ us hl => match us, hl with | [_], _ => rfl, PySem.W.mg_of X G a6⟩
  have F7 := fun_mk (st := s_arenum) l7 c7 k7
  have D_arenum : DefAt K mg "_are_numbers" s_arenum ["words"] _ _ := ⟨F7, F7.binds (ps := ["words"]) fun _ _ _ _ _ _ us hl => match us, hl with | [_], _ => rfl, PySem.W.mg_of X G a7⟩
  have F8 := fun_mk (st := s_next) l8 c8 k8
  have D_next : DefAt K mg "_law_next" s_next ["_law_h", "_law_many"] _ _ := ⟨F8, F8.binds (ps := ["_law_h", "_law_many"]) fun _ _ _ _ _ _ us hl => match us, hl with | [_, _], _ => rfl, PySem.W.mg_of X G a8⟩
  have F9 := fun_mk (st := s_lbook) l9 c9 k9
  have D_lbook : DefAt K mg "_law_book" s_lbook ["_law_h", "_law_houses", "_law_claims", "_law_wide"] _ _ := ⟨F9, F9.binds (ps := ["_law_h", "_law_houses", "_law_claims", "_law_wide"]) fun _ _ _ _ _ _ us hl => match us, hl with | [_, _, _, _], _ => rfl, PySem.W.mg_of X G a9⟩
  have F10 := fun_mk (st := s_refu) l10 c10 k10
  have D_refu : DefAt K mg "_law_refusal" s_refu ["_law_rows"] _ _ := ⟨F10, F10.binds (ps := ["_law_rows"]) fun _ _ _ _ _ _ us hl => match us, hl with | [_], _ => rfl, PySem.W.mg_of X G a10⟩
  have F11 := fun_mk (st := s_law) l11 c11 k11
  have D_law : DefAt K mg "law" s_law ["_law_script"] _ _ := ⟨F11, F11.binds (ps := ["_law_script"]) fun _ _ _ _ _ _ us hl => match us, hl with | [_], _ => rfl, PySem.W.mg_of X G a11⟩
  have m_range : mg "range" = none := PySem.W.mg_none_of X G z1
  have m_len : mg "len" = none := PySem.W.mg_none_of X G z2
  have m_max : mg "max" = none := PySem.W.mg_none_of X G z3
  have m_list : mg "list" = none := PySem.W.mg_none_of X G z4
  have m_enumerate : mg "enumerate" = none := PySem.W.mg_none_of X G z5
  have m_isinstance : mg "isinstance" = none := PySem.W.mg_none_of X G z6
  have m_int : mg "int" = none := PySem.W.mg_none_of X G z7
  have m_tuple : mg "tuple" = none := PySem.W.mg_none_of X G z8
  have m_str : mg "str" = none := PySem.W.mg_none_of X G z9
  have m_ValueError : mg "ValueError" = none := PySem.W.mg_none_of X G z10
  have L : Lims mg := ⟨⟨_, PySem.W.mg_of X G g1⟩, ⟨_, PySem.W.mg_of X G g2⟩, ⟨_, PySem.W.mg_of X G g3⟩, ⟨_, PySem.W.mg_of X G g4⟩, ⟨_, PySem.W.mg_of X G g5⟩⟩
  have LT : LimsT mg := ⟨⟨_, PySem.W.mg_of X G gx1⟩, ⟨_, PySem.W.mg_of X G gx2⟩⟩
  have esup2 : mg "super" = none := PySem.W.mg_none_of X G esup
  have X_FallError : OwnAt K mg "FallError" C_FallError := ⟨ex0, PySem.W.mg_of X G eg0, ek0, es0, et0⟩
  have X_BadBook : InitAt l.prog K mg "BadBook" C_BadBook xf1 xc1 xd1 _ "BadBook.__init__" s_bbinit ["self", "at", "why"] := ⟨⟨⟨_, _, _, _, _, _, _, _, rfl, el1⟩, ej1, ⟨_, _, _, _, _, _, eo1, ep1, eq1⟩, ⟨_, _, _, er1⟩, Option.isSome_iff_exists.mp eu1, ev1, esup2, etop, ew1, ez1, eany⟩, ⟨⟨_, _, _, _, _, _, _, _, _, _, _, _, _, _, _, ex1, eb1⟩, ea1, es1, et1, ek1⟩, ei1, ey1, .all fun us hl => match us, hl with | [_, _, _], _ => rfl, PySem.W.mg_of X G eg1⟩
  have X_NoHouse : OwnAt K mg "NoHouse" C_NoHouse := ⟨ex2, PySem.W.mg_of X G eg2, ek2, es2, et2⟩
  have X_BadPayments : OwnAt K mg "BadPayments" C_BadPayments := ⟨ex3, PySem.W.mg_of X G eg3, ek3, es3, et3⟩
  have X_NoMove : InitAt l.prog K mg "NoMove" C_NoMove xf4 xc4 xd4 _ "NoMove.__init__" s_nminit ["self", "number"] := ⟨⟨⟨_, _, _, _, _, _, _, _, rfl, el4⟩, ej4, ⟨_, _, _, _, _, _, eo4, ep4, eq4⟩, ⟨_, _, _, er4⟩, Option.isSome_iff_exists.mp eu4, ev4, esup2, etop, ew4, ez4, eany⟩, ⟨⟨_, _, _, _, _, _, _, _, _, _, _, _, _, _, _, ex4, eb4⟩, ea4, es4, et4, ek4⟩, ei4, ey4, .all fun us hl => match us, hl with | [_, _], _ => rfl, PySem.W.mg_of X G eg4⟩
  have X_BadText : InitAt l.prog K mg "BadText" C_BadText xf5 xc5 xd5 _ "BadText.__init__" s_btinit ["self", "row"] := ⟨⟨⟨_, _, _, _, _, _, _, _, rfl, el5⟩, ej5, ⟨_, _, _, _, _, _, eo5, ep5, eq5⟩, ⟨_, _, _, er5⟩, Option.isSome_iff_exists.mp eu5, ev5, esup2, etop, ew5, ez5, eany⟩, ⟨⟨_, _, _, _, _, _, _, _, _, _, _, _, _, _, _, ex5, eb5⟩, ea5, es5, et5, ek5⟩, ei5, ey5, .all fun us hl => match us, hl with | [_, _], _ => rfl, PySem.W.mg_of X G eg5⟩
  exact ⟨PySem.W.fnOf "law" "law" (defArgs s_law) (defBody s_law) (defScope s_law) .none kV11 dc11 pm11 an11 cd11 ct11, fun s v => .of_eq rfl, fun base _ _ => ok_law (D := D_law) (X_FallError := X_FallError) (X_BadBook := X_BadBook) (X_NoHouse := X_NoHouse) (X_BadPayments := X_BadPayments) (X_NoMove := X_NoMove) (X_BadText := X_BadText) (N_at := N_at) (N_why := N_why) (N_row := N_row) (xga := xga) (xgt := xgt) (xhd := xhd) (xcl := xcl) (xmo := xmo) (xsb := xsb) (tga := tga) (tgt := tgt) (thd := thd) (tcl := tcl) (tmo := tmo) (tsb := tsb) (xsp := xsp) (xtk := xtk) (xfd := xfd) (hk1 := hk1) (hk2 := hk2) (hk3 := hk3) (hk4 := hk4) (hk5 := hk5) (hk6 := hk6) (hk7 := hk7) (L := L) (LT := LT) (m_range := m_range) (m_len := m_len) (m_max := m_max) (m_list := m_list) (m_enumerate := m_enumerate) (m_isinstance := m_isinstance) (m_int := m_int) (m_tuple := m_tuple) (m_str := m_str) (m_ValueError := m_ValueError) (D_need := D_need) (D_wrong := D_wrong) (D_written := D_written) (D_read := D_read) (D_iscash := D_iscash) (D_isclaim := D_isclaim) (D_arenum := D_arenum) (D_next := D_next) (D_lbook := D_lbook) (D_refu := D_refu)⟩
end Rf
open PySem PySem.W PyProof.Rows
set_option maxRecDepth 100000 in
set_option maxHeartbeats 0 in
theorem PySem.Challenge.cw_rankfall_k16_texts_refused_holds : PySem.Challenge.rw_rankfall_k16_texts_refused.Holds := by
  w_on; o_law; k_head; (case hw => w_witness2)
  k_fill
  refine L2.walk_of (l := PySem.Challenge.rw_rankfall_k16_texts_refused) (n := 63) (k := 21) (x := "_law_script") (CX := fun _ => L2.CX0) (sp := fun w => Rf.spLaw _) rfl (by decide) rfl ⟨rfl, by decide, by decide⟩ (fun w h Y => PySem.W.kIn_of Y) ?F (fun _ _ a ns hl _ hS => ⟨a, ns, rfl, hS, hl, fun _ => rfl⟩) (fun _ _ _ _ _ h => h)
  case F =>
    intro w mg fa h KX G hmg
    refine' Rf.all_mk KX G hmg ?gx1 ?gx2 ?eg0 ?ek0 ?es0 ?et0 ?ex0 ?eg1 ?ek1 ?es1 ?et1 ?ex1 ?eb1 ?ea1 ?ei1 ?ey1 ?el1 ?ej1 ?eo1 ?ep1 ?eq1 ?er1 ?eu1 ?ev1 ?ew1 ?ez1 ?eg2 ?ek2 ?es2 ?et2 ?ex2 ?eg3 ?ek3 ?es3 ?et3 ?ex3 ?eg4 ?ek4 ?es4 ?et4 ?ex4 ?eb4 ?ea4 ?ei4 ?ey4 ?el4 ?ej4 ?eo4 ?ep4 ?eq4 ?er4 ?eu4 ?ev4 ?ew4 ?ez4 ?eg5 ?ek5 ?es5 ?et5 ?ex5 ?eb5 ?ea5 ?ei5 ?ey5 ?el5 ?ej5 ?eo5 ?ep5 ?eq5 ?er5 ?eu5 ?ev5 ?ew5 ?ez5 ?esup ?etop ?eany ?N_at ?N_why ?N_row ?xga ?xgt ?xhd ?xcl ?xmo ?xsb ?tga ?tgt ?thd ?tcl ?tmo ?tsb ?xsp ?xtk ?xfd ?hk1 ?hk2 ?hk3 ?hk4 ?hk5 ?hk6 ?hk7 ?a1 ?l1 ?c1 ?k1 ?a2 ?l2 ?c2 ?k2 ?a3 ?l3 ?c3 ?k3 ?a4 ?l4 ?c4 ?k4 ?a5 ?l5 ?c5 ?k5 ?a6 ?l6 ?c6 ?k6 ?a7 ?l7 ?c7 ?k7 ?a8 ?l8 ?c8 ?k8 ?a9 ?l9 ?c9 ?k9 ?a10 ?l10 ?c10 ?k10 ?a11 ?l11 ?c11 ?k11 ?z1 ?z2 ?z3 ?z4 ?z5 ?z6 ?z7 ?z8 ?z9 ?z10 ?g1 ?g2 ?g3 ?g4 ?g5
    (case gx1 => k_is)
    (case gx2 => k_is)
    (case eg0 => first | k_is | k_exc | ks_is | kit_is | rfl | decide +kernel)
    (case ek0 => first | k_is | k_exc | ks_is | kit_is | rfl | decide +kernel)
    (case es0 => first | k_is | k_exc | ks_is | kit_is | rfl | decide +kernel)
    (case et0 => first | k_is | k_exc | ks_is | kit_is | rfl | decide +kernel)
    (case ex0 => first | k_is | k_exc | ks_is | kit_is | rfl | decide +kernel)
    (case eg1 => first | k_is | k_exc | ks_is | kit_is | rfl | decide +kernel)
    (case ek1 => first | k_is | k_exc | ks_is | kit_is | rfl | decide +kernel)
    (case es1 => first | k_is | k_exc | ks_is | kit_is | rfl | decide +kernel)
    (case et1 => first | k_is | k_exc | ks_is | kit_is | rfl | decide +kernel)
    (case ex1 => first | k_is | k_exc | ks_is | kit_is | rfl | decide +kernel)
    (case eb1 => first | k_is | k_exc | ks_is | kit_is | rfl | decide +kernel)
    (case ea1 => first | k_is | k_exc | ks_is | kit_is | rfl | decide +kernel)
    (case ei1 => first | k_is | k_exc | ks_is | kit_is | rfl | decide +kernel)
    (case ey1 => first | k_is | k_exc | ks_is | kit_is | rfl | decide +kernel)
    (case el1 => first | k_is | k_exc | ks_is | kit_is | rfl | decide +kernel)
    (case ej1 => first | k_is | k_exc | ks_is | kit_is | rfl | decide +kernel)
    (case eo1 => first | k_is | k_exc | ks_is | kit_is | rfl | decide +kernel)
    (case ep1 => first | k_is | k_exc | ks_is | kit_is | rfl | decide +kernel)
    (case eq1 => first | k_is | k_exc | ks_is | kit_is | rfl | decide +kernel)
    (case er1 => first | k_is | k_exc | ks_is | kit_is | rfl | decide +kernel)
    (case eu1 => first | k_is | k_exc | ks_is | kit_is | rfl | decide +kernel)
    (case ev1 => first | k_is | k_exc | ks_is | kit_is | rfl | decide +kernel)
    (case ew1 => first | k_is | k_exc | ks_is | kit_is | rfl | decide +kernel)
    (case ez1 => first | k_is | k_exc | ks_is | kit_is | rfl | decide +kernel)
    (case eg2 => first | k_is | k_exc | ks_is | kit_is | rfl | decide +kernel)
    (case ek2 => first | k_is | k_exc | ks_is | kit_is | rfl | decide +kernel)
    (case es2 => first | k_is | k_exc | ks_is | kit_is | rfl | decide +kernel)
    (case et2 => first | k_is | k_exc | ks_is | kit_is | rfl | decide +kernel)
    (case ex2 => first | k_is | k_exc | ks_is | kit_is | rfl | decide +kernel)
    (case eg3 => first | k_is | k_exc | ks_is | kit_is | rfl | decide +kernel)
    (case ek3 => first | k_is | k_exc | ks_is | kit_is | rfl | decide +kernel)
    (case es3 => first | k_is | k_exc | ks_is | kit_is | rfl | decide +kernel)
    (case et3 => first | k_is | k_exc | ks_is | kit_is | rfl | decide +kernel)
    (case ex3 => first | k_is | k_exc | ks_is | kit_is | rfl | decide +kernel)
    (case eg4 => first | k_is | k_exc | ks_is | kit_is | rfl | decide +kernel)
    (case ek4 => first | k_is | k_exc | ks_is | kit_is | rfl | decide +kernel)
    (case es4 => first | k_is | k_exc | ks_is | kit_is | rfl | decide +kernel)
    (case et4 => first | k_is | k_exc | ks_is | kit_is | rfl | decide +kernel)
    (case ex4 => first | k_is | k_exc | ks_is | kit_is | rfl | decide +kernel)
    (case eb4 => first | k_is | k_exc | ks_is | kit_is | rfl | decide +kernel)
    (case ea4 => first | k_is | k_exc | ks_is | kit_is | rfl | decide +kernel)
    (case ei4 => first | k_is | k_exc | ks_is | kit_is | rfl | decide +kernel)
    (case ey4 => first | k_is | k_exc | ks_is | kit_is | rfl | decide +kernel)
    (case el4 => first | k_is | k_exc | ks_is | kit_is | rfl | decide +kernel)
    (case ej4 => first | k_is | k_exc | ks_is | kit_is | rfl | decide +kernel)
    (case eo4 => first | k_is | k_exc | ks_is | kit_is | rfl | decide +kernel)
    (case ep4 => first | k_is | k_exc | ks_is | kit_is | rfl | decide +kernel)
    (case eq4 => first | k_is | k_exc | ks_is | kit_is | rfl | decide +kernel)
    (case er4 => first | k_is | k_exc | ks_is | kit_is | rfl | decide +kernel)
    (case eu4 => first | k_is | k_exc | ks_is | kit_is | rfl | decide +kernel)
    (case ev4 => first | k_is | k_exc | ks_is | kit_is | rfl | decide +kernel)
    (case ew4 => first | k_is | k_exc | ks_is | kit_is | rfl | decide +kernel)
    (case ez4 => first | k_is | k_exc | ks_is | kit_is | rfl | decide +kernel)
    (case eg5 => first | k_is | k_exc | ks_is | kit_is | rfl | decide +kernel)
    (case ek5 => first | k_is | k_exc | ks_is | kit_is | rfl | decide +kernel)
    (case es5 => first | k_is | k_exc | ks_is | kit_is | rfl | decide +kernel)
    (case et5 => first | k_is | k_exc | ks_is | kit_is | rfl | decide +kernel)
    (case ex5 => first | k_is | k_exc | ks_is | kit_is | rfl | decide +kernel)
    (case eb5 => first | k_is | k_exc | ks_is | kit_is | rfl | decide +kernel)
    (case ea5 => first | k_is | k_exc | ks_is | kit_is | rfl | decide +kernel)
    (case ei5 => first | k_is | k_exc | ks_is | kit_is | rfl | decide +kernel)
    (case ey5 => first | k_is | k_exc | ks_is | kit_is | rfl | decide +kernel)
    (case el5 => first | k_is | k_exc | ks_is | kit_is | rfl | decide +kernel)
    (case ej5 => first | k_is | k_exc | ks_is | kit_is | rfl | decide +kernel)
    (case eo5 => first | k_is | k_exc | ks_is | kit_is | rfl | decide +kernel)
    (case ep5 => first | k_is | k_exc | ks_is | kit_is | rfl | decide +kernel)
    (case eq5 => first | k_is | k_exc | ks_is | kit_is | rfl | decide +kernel)
    (case er5 => first | k_is | k_exc | ks_is | kit_is | rfl | decide +kernel)
    (case eu5 => first | k_is | k_exc | ks_is | kit_is | rfl | decide +kernel)
    (case ev5 => first | k_is | k_exc | ks_is | kit_is | rfl | decide +kernel)
    (case ew5 => first | k_is | k_exc | ks_is | kit_is | rfl | decide +kernel)
    (case ez5 => first | k_is | k_exc | ks_is | kit_is | rfl | decide +kernel)
    (case esup => first | k_is | k_exc | ks_is | kit_is | rfl | decide +kernel)
    (case etop => first | k_is | k_exc | ks_is | kit_is | rfl | decide +kernel)
    (case eany => first | k_is | k_exc | ks_is | kit_is | rfl | decide +kernel)
    (case N_at => first | k_is | k_exc | ks_is | kit_is | rfl | decide +kernel)
    (case N_why => first | k_is | k_exc | ks_is | kit_is | rfl | decide +kernel)
    (case N_row => first | k_is | k_exc | ks_is | kit_is | rfl | decide +kernel)
    (case xga => first | k_is | k_exc | ks_is | kit_is | rfl | decide +kernel)
    (case xgt => first | k_is | k_exc | ks_is | kit_is | rfl | decide +kernel)
    (case xhd => first | k_is | k_exc | ks_is | kit_is | rfl | decide +kernel)
    (case xcl => first | k_is | k_exc | ks_is | kit_is | rfl | decide +kernel)
    (case xmo => first | k_is | k_exc | ks_is | kit_is | rfl | decide +kernel)
    (case xsb => first | k_is | k_exc | ks_is | kit_is | rfl | decide +kernel)
    (case tga => first | k_is | k_exc | ks_is | kit_is | rfl | decide +kernel)
    (case tgt => first | k_is | k_exc | ks_is | kit_is | rfl | decide +kernel)
    (case thd => first | k_is | k_exc | ks_is | kit_is | rfl | decide +kernel)
    (case tcl => first | k_is | k_exc | ks_is | kit_is | rfl | decide +kernel)
    (case tmo => first | k_is | k_exc | ks_is | kit_is | rfl | decide +kernel)
    (case tsb => first | k_is | k_exc | ks_is | kit_is | rfl | decide +kernel)
    (case xsp => first | k_is | k_exc | ks_is | kit_is | rfl | decide +kernel)
    (case xtk => first | k_is | k_exc | ks_is | kit_is | rfl | decide +kernel)
    (case xfd => first | k_is | k_exc | ks_is | kit_is | rfl | decide +kernel)
    (case hk1 => first | k_is | k_exc | ks_is | kit_is | rfl | decide +kernel)
    (case hk2 => first | k_is | k_exc | ks_is | kit_is | rfl | decide +kernel)
    (case hk3 => first | k_is | k_exc | ks_is | kit_is | rfl | decide +kernel)
    (case hk4 => first | k_is | k_exc | ks_is | kit_is | rfl | decide +kernel)
    (case hk5 => first | k_is | k_exc | ks_is | kit_is | rfl | decide +kernel)
    (case hk6 => first | k_is | k_exc | ks_is | kit_is | rfl | decide +kernel)
    (case hk7 => first | k_is | k_exc | ks_is | kit_is | rfl | decide +kernel)
    (case a1 => k_is)
    (case l1 => k_is)
    (case c1 => k_is)
    (case k1 => k_is)
    (case a2 => k_is)
    (case l2 => k_is)
    (case c2 => k_is)
    (case k2 => k_is)
    (case a3 => k_is)
    (case l3 => k_is)
    (case c3 => k_is)
    (case k3 => k_is)
    (case a4 => k_is)
    (case l4 => k_is)
    (case c4 => k_is)
    (case k4 => k_is)
    (case a5 => k_is)
    (case l5 => k_is)
    (case c5 => k_is)
    (case k5 => k_is)
    (case a6 => k_is)
    (case l6 => k_is)
    (case c6 => k_is)
    (case k6 => k_is)
    (case a7 => k_is)
    (case l7 => k_is)
    (case c7 => k_is)
    (case k7 => k_is)
    (case a8 => k_is)
    (case l8 => k_is)
    (case c8 => k_is)
    (case k8 => k_is)
    (case a9 => k_is)
    (case l9 => k_is)
    (case c9 => k_is)
    (case k9 => k_is)
    (case a10 => k_is)
    (case l10 => k_is)
    (case c10 => k_is)
    (case k10 => k_is)
    (case a11 => k_is)
    (case l11 => k_is)
    (case c11 => k_is)
    (case k11 => k_is)
    (case z1 => k_is)
    (case z2 => k_is)
    (case z3 => k_is)
    (case z4 => k_is)
    (case z5 => k_is)
    (case z6 => k_is)
    (case z7 => k_is)
    (case z8 => k_is)
    (case z9 => k_is)
    (case z10 => k_is)
    (case g1 => k_is)
    (case g2 => k_is)
    (case g3 => k_is)
    (case g4 => k_is)
    (case g5 => k_is)


