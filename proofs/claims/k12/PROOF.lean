import PyProof.Rows.All
import Wide.All
import OpenK.AllK
import Wide.FinOn
import HandS.ForMost
import HandS.IsInst
import HandS.Evl
import HandS.SetKeys
import HandS.More
import HandS.SortRule
import HandS.SortInts
import HandS.Flow
import KE.KItemsList
import HandS.ListItems
import HandS.Walk
import HandS.Zip
import HandS.Conv
import HandS.CallLocal
import HandS.TupAny
import KE.GoesEnum
import KE.GoesMore
import HandS.DictComp
import HandS.SetFor
import HandS.TupSets
import HandS.Style
import HandS.Exc
import HandS.ExcOwn
import HandS.WordsExc
import HandS.ExcInit
import HandS.ExcField
import HandS.ExcIs
import HandS.TryOnly
import HandS.TryMany
import HandS.Nested
import HandS.FStr
import KE.KExcSuper
import KE.KExcIs
import KE.RegKIsAll
import KE.RegKSuper
import HandS.Small
import HandS.TupMul
import PySem.Challenge.RW_rankfall_k12_moves_played
set_option Elab.async false
set_option linter.all false
set_option maxRecDepth 100000
set_option maxHeartbeats 4000000
namespace Rf
open PySem PySem.Spec PyProof.Rows L2
/-! ### sharing coin by coin -/
def g (l : List Int) (i : Nat) : Int := l.getD i 0
theorem g_get {l : List Int} {i : Nat} (h : i < l.length) : l[i]? = some (g l i) := by
  unfold g
  rw [List.getD_eq_getElem?_getD, List.getElem?_eq_getElem h]
  rfl
theorem g_of {l : List Int} {i : Nat} {x : Int} (h : l[i]? = some x) : g l i = x := by
  unfold g
  rw [List.getD_eq_getElem?_getD, h]
  rfl
theorem g_mem {l : List Int} {i : Nat} (h : i < l.length) : g l i ∈ l := List.mem_of_getElem? (g_get h)
theorem mem_g {l : List Int} {x : Int} (h : x ∈ l) : ∃ i, i < l.length ∧ g l i = x := by
  obtain ⟨i, hi, e⟩ := List.mem_iff_getElem.mp h
  exact ⟨i, hi, g_of (by rw [List.getElem?_eq_getElem hi, e])⟩
theorem g_set_same {l : List Int} {i : Nat} {x : Int} (h : i < l.length) : g (l.set i x) i = x := by
  apply g_of
  rw [List.getElem?_set_self h]
theorem g_set_ne {l : List Int} {i j : Nat} {x : Int} (h : i ≠ j) : g (l.set i x) j = g l j := by
  unfold g
  rw [List.getD_eq_getElem?_getD, List.getD_eq_getElem?_getD, List.getElem?_set_ne h]
theorem ext_g {l m : List Int} (hl : l.length = m.length) (h : ∀ i, i < l.length → g l i = g m i) : l = m := by
  apply List.ext_getElem? 
  intro i
  by_cases hi : i < l.length
  · rw [g_get hi, g_get (hl ▸ hi), h i hi]
  · rw [List.getElem?_eq_none (by omega), List.getElem?_eq_none (by omega)]
theorem sum_set_g : ∀ {l : List Int} {j : Nat} {y : Int}, j < l.length → (l.set j y).sum = l.sum - g l j + y
  | [], j, y, h => by simp at h
  | a :: r, 0, y, h => by
    show (y :: r).sum = (a :: r).sum - a + y
    rw [List.sum_cons, List.sum_cons]
    omega
  | a :: r, j + 1, y, h => by
    have ih := sum_set_g (l := r) (j := j) (y := y) (by simpa using h)
    show (a :: r.set j y).sum = (a :: r).sum - g r j + y
    rw [List.sum_cons, List.sum_cons, ih]
    omega
theorem sum_le_of : ∀ {l m : List Int}, l.length = m.length → (∀ i, i < l.length → g l i ≤ g m i) → l.sum ≤ m.sum
  | [], [], _, _ => Int.le_refl _
  | [], _ :: _, h, _ => by simp at h
  | _ :: _, [], h, _ => by simp at h
  | a :: r, b :: s, hl, h => by
    have h0 : a ≤ b := h 0 (by simp)
    have ih := sum_le_of (l := r) (m := s) (by simpa using hl) (fun i hi => h (i + 1) (by simpa using hi))
    rw [List.sum_cons, List.sum_cons]
    omega
theorem eq_of_sum_le : ∀ {l m : List Int}, l.length = m.length → (∀ i, i < l.length → g l i ≤ g m i) → m.sum ≤ l.sum → l = m
  | [], [], _, _, _ => rfl
  | [], _ :: _, h, _, _ => by simp at h
  | _ :: _, [], h, _, _ => by simp at h
  | a :: r, b :: s, hl, h, hs => by
    have h0 : a ≤ b := h 0 (by simp)
    have hr : ∀ i, i < r.length → g r i ≤ g s i := fun i hi => h (i + 1) (by simpa using hi)
    have hl2 : r.length = s.length := by simpa using hl
    have h1 := sum_le_of hl2 hr
    rw [List.sum_cons, List.sum_cons] at hs
    have e : a = b := by omega
    rw [e, eq_of_sum_le hl2 hr (by omega)]
theorem sum_nonneg {l : List Int} (h : ∀ i, i < l.length → 0 ≤ g l i) : 0 ≤ l.sum := by
  have := sum_le_of (l := List.replicate l.length 0) (m := l) (by simp) (fun i hi => by
    have e : g (List.replicate l.length 0) i = 0 := by
      apply g_of
      rw [List.getElem?_replicate, if_pos (by simpa using hi)]
    rw [e]
    exact h i (by simpa using hi))
  have e : (List.replicate l.length (0 : Int)).sum = 0 := by
    generalize l.length = n
    induction n with
    | zero => rfl
    | succ n ih => rw [List.replicate_succ, List.sum_cons, ih]; rfl
  omega

/-- the least part's first place among those that aren't full, of the first n -/
def firstUp (a p : List Int) : Nat → Option Nat
  | 0 => none
  | k + 1 => match firstUp a p k with
    | none => if g p k < g a k then some k else none
    | some f => if g p k < g a k ∧ g p k * g a f < g p f * g a k then some k else some f
/-- the next coin goes to it -/
def nextS (a p : List Int) : List Int := match firstUp a p a.length with
  | some f => p.set f (g p f + 1)
  | none => p
def steps (a : List Int) : Nat → List Int → List Int
  | 0, p => p
  | n + 1, p => nextS a (steps a n p)
def zeros (a : List Int) : List Int := List.replicate a.length 0
def shareN (a : List Int) (n : Nat) : List Int := steps a n (zeros a)
/-- what each amount gets of c coins -/
def share (a : List Int) (c : Int) : List Int := shareN a (min c a.sum).toNat

theorem firstUp_none {a p : List Int} : ∀ {n : Nat}, firstUp a p n = none → ∀ j, j < n → ¬ g p j < g a j
  | 0, _, j, hj => absurd hj (Nat.not_lt_zero _)
  | k + 1, h, j, hj => by
    unfold firstUp at h
    cases e : firstUp a p k with
    | none =>
      rw [e] at h
      simp only at h
      by_cases hk : g p k < g a k
      · rw [if_pos hk] at h; cases h
      · by_cases hjk : j = k
        · subst hjk; exact hk
        · exact firstUp_none e j (by omega)
    | some f =>
      rw [e] at h
      simp only at h
      split at h <;> cases h
/-- what the chosen one is -/
structure IsFirst (a p : List Int) (n f : Nat) : Prop where
  lt : f < n
  room : g p f < g a f
  least : ∀ j, j < n → g p j < g a j → g p f * g a j < g p j * g a f ∨ (g p f * g a j = g p j * g a f ∧ f ≤ j)
/-- comparing parts is transitive -/
theorem part_trans {x y z a b c : Int} (ha : 0 < a) (hb : 0 < b) (hc : 0 < c) (h1 : x * b ≤ y * a) (h2 : y * c ≤ z * b) : x * c ≤ z * a := by
  have e1 : x * b * c ≤ y * a * c := Int.mul_le_mul_of_nonneg_right h1 (by omega)
  have e2 : y * c * a ≤ z * b * a := Int.mul_le_mul_of_nonneg_right h2 (by omega)
  have e3 : y * a * c = y * c * a := by rw [Int.mul_assoc, Int.mul_comm a c, ← Int.mul_assoc]
  have e4 : x * b * c = x * c * b := by rw [Int.mul_assoc, Int.mul_comm b c, ← Int.mul_assoc]
  have e5 : z * b * a = z * a * b := by rw [Int.mul_assoc, Int.mul_comm b a, ← Int.mul_assoc]
  have e6 : x * c * b ≤ z * a * b := by rw [← e4, ← e5]; omega
  exact Int.le_of_mul_le_mul_right e6 hb
theorem part_trans_lt {x y z a b c : Int} (ha : 0 < a) (hb : 0 < b) (hc : 0 < c) (h1 : x * b < y * a) (h2 : y * c ≤ z * b) : x * c < z * a := by
  have e1 : x * b * c < y * a * c := Int.mul_lt_mul_of_pos_right h1 hc
  have e2 : y * c * a ≤ z * b * a := Int.mul_le_mul_of_nonneg_right h2 (by omega)
  have e3 : y * a * c = y * c * a := by rw [Int.mul_assoc, Int.mul_comm a c, ← Int.mul_assoc]
  have e4 : x * b * c = x * c * b := by rw [Int.mul_assoc, Int.mul_comm b c, ← Int.mul_assoc]
  have e5 : z * b * a = z * a * b := by rw [Int.mul_assoc, Int.mul_comm b a, ← Int.mul_assoc]
  have e6 : x * c * b < z * a * b := by rw [← e4, ← e5]; omega
  exact Int.lt_of_mul_lt_mul_right e6 (by omega)
theorem firstUp_some {a p : List Int} (pos : ∀ i, i < a.length → 0 < g a i) : ∀ {n : Nat} {f : Nat}, n ≤ a.length → firstUp a p n = some f → IsFirst a p n f
  | 0, f, _, h => by cases h
  | k + 1, f, hn, h => by
    unfold firstUp at h
    have pk : 0 < g a k := pos k (by omega)
    cases e : firstUp a p k with
    | none =>
      rw [e] at h
      simp only at h
      by_cases hk : g p k < g a k
      · rw [if_pos hk] at h; cases h
        refine ⟨Nat.lt_succ_self _, hk, fun j hj hlt => ?_⟩
        by_cases hjk : j = k
        · subst hjk; exact .inr ⟨rfl, Nat.le_refl _⟩
        · exact absurd hlt (firstUp_none e j (by omega))
      · rw [if_neg hk] at h; cases h
    | some f' =>
      rw [e] at h
      simp only at h
      have F := firstUp_some pos (n := k) (by omega) e
      have pf : 0 < g a f' := pos f' (by have := F.lt; omega)
      by_cases hk : g p k < g a k ∧ g p k * g a f' < g p f' * g a k
      · rw [if_pos hk] at h; cases h
        refine ⟨Nat.lt_succ_self _, hk.1, fun j hj hlt => ?_⟩
        by_cases hjk : j = k
        · subst hjk; exact .inr ⟨rfl, Nat.le_refl _⟩
        · left
          have pj : 0 < g a j := pos j (by omega)
          have h1 := hk.2
          have h2 : g p f' * g a j ≤ g p j * g a f' := by
            rcases F.least j (by omega) hlt with q | q <;> omega
          exact part_trans_lt (a := g a k) (b := g a f') (c := g a j) pk pf pj h1 h2
      · rw [if_neg hk] at h; cases h
        refine ⟨by have := F.lt; omega, F.room, fun j hj hlt => ?_⟩
        by_cases hjk : j = k
        · subst hjk
          have : ¬ g p j * g a f < g p f * g a j := fun z => hk ⟨hlt, z⟩
          by_cases e1 : g p f * g a j = g p j * g a f
          · exact .inr ⟨e1, by have := F.lt; omega⟩
          · exact .inl (by omega)
        · exact F.least j (by omega) hlt

/-- a state of the sharing -/
structure Valid (a p : List Int) : Prop where
  len : p.length = a.length
  lo : ∀ i, i < a.length → 0 ≤ g p i
  hi : ∀ i, i < a.length → g p i ≤ g a i
  ord : ∀ i j, i < a.length → j < a.length → 0 < g p i → g p j < g a j → (g p i - 1) * g a j < g p j * g a i ∨ ((g p i - 1) * g a j = g p j * g a i ∧ i < j)
theorem valid_zeros {a : List Int} (pos : ∀ i, i < a.length → 0 < g a i) : Valid a (zeros a) := by
  have z : ∀ i, i < a.length → g (zeros a) i = 0 := fun i hi => by
    apply g_of
    unfold zeros
    rw [List.getElem?_replicate, if_pos hi]
  refine ⟨by simp [zeros], fun i hi => by rw [z i hi]; omega, fun i hi => by rw [z i hi]; have := pos i hi; omega, fun i j hi hj h => ?_⟩
  rw [z i hi] at h
  omega
theorem valid_full {a : List Int} (pos : ∀ i, i < a.length → 0 < g a i) : Valid a a :=
  ⟨rfl, fun i hi => by have := pos i hi; omega, fun i _ => Int.le_refl _, fun i j _ _ _ h => absurd h (Int.lt_irrefl _)⟩
theorem Valid.sum_le {a p : List Int} (V : Valid a p) : p.sum ≤ a.sum := sum_le_of V.len fun i hi => V.hi i (V.len ▸ hi)
theorem Valid.sum_nn {a p : List Int} (V : Valid a p) : 0 ≤ p.sum := sum_nonneg fun i hi => V.lo i (V.len ▸ hi)
theorem Valid.full {a p : List Int} (V : Valid a p) (h : a.sum ≤ p.sum) : p = a := eq_of_sum_le V.len (fun i hi => V.hi i (V.len ▸ hi)) h
theorem Valid.unique {a p q : List Int} (V : Valid a p) (W : Valid a q) (h : p.sum = q.sum) (pos : ∀ i, i < a.length → 0 < g a i) : p = q := by
  by_cases h1 : ∀ i, i < a.length → g p i ≤ g q i
  · exact eq_of_sum_le (V.len.trans W.len.symm) (fun i hi => h1 i (V.len ▸ hi)) (by omega)
  · by_cases h2 : ∀ i, i < a.length → g q i ≤ g p i
    · exact (eq_of_sum_le (W.len.trans V.len.symm) (fun i hi => h2 i (W.len ▸ hi)) (by omega)).symm
    · exfalso
      have h1' : ∃ i, i < a.length ∧ g q i < g p i := Classical.byContradiction fun c => h1 fun i hi => Int.not_lt.mp fun z => c ⟨i, hi, z⟩
      have h2' : ∃ j, j < a.length ∧ g p j < g q j := Classical.byContradiction fun c => h2 fun i hi => Int.not_lt.mp fun z => c ⟨i, hi, z⟩
      obtain ⟨i, hi, di⟩ := h1'
      obtain ⟨j, hj, dj⟩ := h2'
      have ai := pos i hi
      have aj := pos j hj
      have k1 := V.ord i j hi hj (by have := W.lo i hi; omega) (by have := W.hi j hj; omega)
      have k2 := W.ord j i hj hi (by have := V.lo j hj; omega) (by have := V.hi i hi; omega)
      have m1 : g q i * g a j ≤ (g p i - 1) * g a j := Int.mul_le_mul_of_nonneg_right (by omega) (by omega)
      have m2 : g p j * g a i ≤ (g q j - 1) * g a i := Int.mul_le_mul_of_nonneg_right (by omega) (by omega)
      rcases k1 with k1 | ⟨k1, o1⟩ <;> rcases k2 with k2 | ⟨k2, o2⟩ <;> omega
theorem valid_next {a p : List Int} (pos : ∀ i, i < a.length → 0 < g a i) (V : Valid a p) {f : Nat} (F : IsFirst a p a.length f) : Valid a (p.set f (g p f + 1)) := by
  have fl : f < p.length := V.len.symm ▸ F.lt
  refine ⟨by rw [List.length_set]; exact V.len, fun i hi => ?_, fun i hi => ?_, fun i j hi hj h1 h2 => ?_⟩
  · by_cases e : f = i
    · subst e; rw [g_set_same fl]; have := V.lo f hi; omega
    · rw [g_set_ne e]; exact V.lo i hi
  · by_cases e : f = i
    · subst e; rw [g_set_same fl]; have := F.room; omega
    · rw [g_set_ne e]; exact V.hi i hi
  · have ai := pos i hi
    have aj := pos j hj
    by_cases ei : f = i
    · subst ei
      rw [g_set_same fl] at h1 ⊢
      by_cases ej : f = j
      · subst ej
        rw [g_set_same fl] at h2 ⊢
        left
        exact Int.mul_lt_mul_of_pos_right (by omega) aj
      · rw [g_set_ne ej] at h2 ⊢
        have e0 : g p f + 1 - 1 = g p f := by omega
        rw [e0]
        rcases F.least j hj h2 with q | ⟨q, r⟩
        · exact .inl q
        · exact .inr ⟨q, by omega⟩
    · rw [g_set_ne ei] at h1 ⊢
      by_cases ej : f = j
      · subst ej
        rw [g_set_same fl] at h2 ⊢
        left
        have k := V.ord i f hi hj h1 (by omega)
        have m : g p f * g a i < (g p f + 1) * g a i := Int.mul_lt_mul_of_pos_right (by omega) ai
        rcases k with k | ⟨k, _⟩ <;> omega
      · rw [g_set_ne ej] at h2 ⊢
        exact V.ord i j hi hj h1 h2
theorem exists_first {a p : List Int} (V : Valid a p) (h : p.sum < a.sum) (pos : ∀ i, i < a.length → 0 < g a i) : ∃ f, firstUp a p a.length = some f ∧ IsFirst a p a.length f := by
  cases e : firstUp a p a.length with
  | some f => exact ⟨f, rfl, firstUp_some pos (Nat.le_refl _) e⟩
  | none =>
    exfalso
    have h1 := firstUp_none e
    have h2 := sum_le_of (l := a) (m := p) V.len.symm fun i hi => Int.not_lt.mp (h1 i hi)
    omega
theorem nextS_of {a p : List Int} {f : Nat} (h : firstUp a p a.length = some f) : nextS a p = p.set f (g p f + 1) := by
  unfold nextS
  rw [h]
theorem next_ok {a p : List Int} (pos : ∀ i, i < a.length → 0 < g a i) (V : Valid a p) (h : p.sum < a.sum) : Valid a (nextS a p) ∧ (nextS a p).sum = p.sum + 1 := by
  obtain ⟨f, e, F⟩ := exists_first V h pos
  have fl : f < p.length := V.len.symm ▸ F.lt
  rw [nextS_of e]
  refine ⟨valid_next pos V F, ?_⟩
  rw [sum_set_g fl]
  omega
theorem steps_ok {a p : List Int} (pos : ∀ i, i < a.length → 0 < g a i) (V : Valid a p) : ∀ n : Nat, p.sum + n ≤ a.sum → Valid a (steps a n p) ∧ (steps a n p).sum = p.sum + n
  | 0, _ => ⟨V, by simp [steps]⟩
  | n + 1, h => by
    obtain ⟨V1, s1⟩ := steps_ok pos V n (by omega)
    obtain ⟨V2, s2⟩ := next_ok pos V1 (by rw [s1]; omega)
    exact ⟨V2, by show (nextS a (steps a n p)).sum = _; rw [s2, s1]; omega⟩
theorem zeros_sum (a : List Int) : (zeros a).sum = 0 := by
  unfold zeros
  generalize a.length = n
  induction n with
  | zero => rfl
  | succ n ih => rw [List.replicate_succ, List.sum_cons, ih]; rfl
def AllPos (a : List Int) : Prop := ∀ i, i < a.length → 0 < g a i
theorem AllPos.of {a : List Int} (h : ∀ x ∈ a, 0 < x) : AllPos a := fun _ hi => h _ (g_mem hi)
theorem AllPos.sum_nn {a : List Int} (h : AllPos a) : 0 ≤ a.sum := sum_nonneg fun i hi => Int.le_of_lt (h i hi)
theorem share_ok {a : List Int} {c : Int} (pos : AllPos a) (hc : 0 ≤ c) : Valid a (share a c) ∧ (share a c).sum = min c a.sum := by
  have h0 := pos.sum_nn
  have z := zeros_sum a
  obtain ⟨V, s⟩ := steps_ok pos (valid_zeros pos) (min c a.sum).toNat (by rw [z]; omega)
  refine ⟨V, ?_⟩
  show (steps a _ (zeros a)).sum = _
  rw [s, z]
  omega
theorem share_unique {a p : List Int} {c : Int} (pos : AllPos a) (hc : 0 ≤ c) (V : Valid a p) (h : p.sum = min c a.sum) : p = share a c := by
  obtain ⟨W, s⟩ := share_ok pos hc
  exact V.unique W (by rw [h, s]) pos
theorem share_next {a : List Int} {c : Int} (pos : AllPos a) (hc : 0 ≤ c) (h : c < a.sum) : share a (c + 1) = nextS a (share a c) := by
  obtain ⟨W, s⟩ := share_ok pos hc
  obtain ⟨V2, s2⟩ := next_ok pos W (by rw [s]; omega)
  exact (share_unique pos (by omega) V2 (by rw [s2, s]; omega)).symm

/-! ### the program's jump -/
def partsOf (a : List Int) (c : Int) : Int := max 0 (c - a.length + 1)
def startAt (a : List Int) (p : Int) : List Int := a.map fun x => -((-x * p) / a.sum)
theorem g_map {l : List Int} {f : Int → Int} {i : Nat} (h : i < l.length) : g (l.map f) i = f (g l i) := by
  apply g_of
  rw [List.getElem?_map, g_get h]
  rfl
theorem ceil_ge {x p q : Int} (hq : 0 < q) : x * p ≤ -((-x * p) / q) * q := by
  have h := Int.ediv_mul_le (-x * p) (b := q) (by omega)
  have e : -x * p = -(x * p) := Int.neg_mul x p
  rw [Int.neg_mul]
  omega
theorem ceil_lt {x p q : Int} (hq : 0 < q) : (-((-x * p) / q) - 1) * q < x * p := by
  have h := Int.lt_ediv_add_one_mul_self (-x * p) hq
  have e : -x * p = -(x * p) := Int.neg_mul x p
  have e2 : (-((-x * p) / q) - 1) * q = -(((-x * p) / q + 1) * q) := by
    rw [← Int.neg_mul]
    congr 1
    omega
  rw [e2]
  omega
theorem start_valid {a : List Int} {p : Int} (pos : AllPos a) (h0 : 0 ≤ p) (h1 : p ≤ a.sum) (hq : 0 < a.sum) : Valid a (startAt a p) := by
  have sg : ∀ i, i < a.length → g (startAt a p) i = -((-(g a i) * p) / a.sum) := fun i hi => g_map hi
  have ge : ∀ i, i < a.length → g a i * p ≤ g (startAt a p) i * a.sum := fun i hi => by rw [sg i hi]; exact ceil_ge hq
  have lt : ∀ i, i < a.length → (g (startAt a p) i - 1) * a.sum < g a i * p := fun i hi => by rw [sg i hi]; exact ceil_lt hq
  refine ⟨by simp [startAt], fun i hi => ?_, fun i hi => ?_, fun i j hi hj h _ => ?_⟩
  · have ai := pos i hi
    have h2 := ge i hi
    have h3 : 0 ≤ g a i * p := Int.mul_nonneg (by omega) h0
    have h4 : 0 * a.sum ≤ g (startAt a p) i * a.sum := by rw [Int.zero_mul]; omega
    exact Int.le_of_mul_le_mul_right h4 hq
  · have ai := pos i hi
    have h2 := lt i hi
    have h3 : g a i * p ≤ g a i * a.sum := Int.mul_le_mul_of_nonneg_left h1 (by omega)
    have h4 : (g (startAt a p) i - 1) * a.sum < g a i * a.sum := by omega
    have := Int.lt_of_mul_lt_mul_right h4 (by omega)
    omega
  · left
    have ai := pos i hi
    have aj := pos j hj
    have l1 : (g (startAt a p) i - 1) * a.sum * g a j < g a i * p * g a j := Int.mul_lt_mul_of_pos_right (lt i hi) aj
    have l2 : g a j * p * g a i ≤ g (startAt a p) j * a.sum * g a i := Int.mul_le_mul_of_nonneg_right (ge j hj) (by omega)
    have e1 : g a i * p * g a j = g a j * p * g a i := by rw [Int.mul_right_comm, Int.mul_comm (g a i) (g a j), Int.mul_right_comm]
    have e2 : (g (startAt a p) i - 1) * a.sum * g a j = (g (startAt a p) i - 1) * g a j * a.sum := Int.mul_right_comm _ _ _
    have e3 : g (startAt a p) j * a.sum * g a i = g (startAt a p) j * g a i * a.sum := Int.mul_right_comm _ _ _
    have h4 : (g (startAt a p) i - 1) * g a j * a.sum < g (startAt a p) j * g a i * a.sum := by rw [← e2, ← e3]; omega
    exact Int.lt_of_mul_lt_mul_right h4 (by omega)
theorem sum_mul : ∀ (l : List Int) (p : Int), (l.map fun x => x * p).sum = l.sum * p
  | [], p => by simp
  | x :: r, p => by rw [List.map_cons, List.sum_cons, List.sum_cons, sum_mul r p, Int.add_mul]
theorem sum_ceil {q p : Int} (hq : 0 < q) : ∀ (l : List Int), ((l.map fun x => -((-x * p) / q)).sum - l.length) * q ≤ l.sum * p
  | [] => by simp
  | x :: r => by
    have ih := sum_ceil (q := q) (p := p) hq r
    have h := ceil_lt (x := x) (p := p) hq
    rw [List.map_cons, List.sum_cons, List.sum_cons, Int.add_mul, List.length_cons]
    have e : (-((-x * p) / q) + (r.map fun x => -((-x * p) / q)).sum - ((r.length + 1 : Nat) : Int)) = (-((-x * p) / q) - 1) + ((r.map fun x => -((-x * p) / q)).sum - (r.length : Int)) := by omega
    rw [e, Int.add_mul]
    omega
theorem sum_ceil_lt {q p : Int} (hq : 0 < q) : ∀ (l : List Int), l ≠ [] → ((l.map fun x => -((-x * p) / q)).sum - l.length) * q < l.sum * p
  | [], h => absurd rfl h
  | x :: r, _ => by
    have ih := sum_ceil (q := q) (p := p) hq r
    have h := ceil_lt (x := x) (p := p) hq
    rw [List.map_cons, List.sum_cons, List.sum_cons, Int.add_mul, List.length_cons]
    have e : (-((-x * p) / q) + (r.map fun x => -((-x * p) / q)).sum - ((r.length + 1 : Nat) : Int)) = (-((-x * p) / q) - 1) + ((r.map fun x => -((-x * p) / q)).sum - (r.length : Int)) := by omega
    rw [e, Int.add_mul]
    omega
theorem start_sum {a : List Int} {c : Int} (pos : AllPos a) (hc : 0 ≤ c) (h : c < a.sum) : (startAt a (partsOf a c)).sum ≤ c := by
  have hq : 0 < a.sum := by omega
  have ne : a ≠ [] := fun z => by subst z; simp at h; omega
  unfold partsOf
  by_cases hp : 0 ≤ c - a.length + 1
  · rw [Int.max_eq_right hp]
    have h2 := sum_ceil_lt (q := a.sum) (p := c - a.length + 1) hq a ne
    rw [Int.mul_comm a.sum] at h2
    have := Int.lt_of_mul_lt_mul_right h2 (by omega)
    show (a.map _).sum ≤ c
    omega
  · rw [Int.max_eq_left (by omega)]
    have e : startAt a 0 = zeros a := by
      unfold startAt zeros
      apply List.ext_getElem?
      intro i
      rw [List.getElem?_map, List.getElem?_replicate]
      by_cases hi : i < a.length
      · rw [g_get hi, if_pos hi]
        simp
      · rw [List.getElem?_eq_none (by omega), if_neg hi]
        rfl
    rw [e, zeros_sum]
    exact hc
/-- the program's sharing is the coins' -/
theorem prog_share {a : List Int} {c : Int} (pos : AllPos a) (hc : 0 ≤ c) (h : c < a.sum) : steps a (c - (startAt a (partsOf a c)).sum).toNat (startAt a (partsOf a c)) = share a c := by
  have hs := start_sum pos hc h
  have ne : a ≠ [] := fun z => by subst z; simp at h; omega
  have hl : 0 < a.length := List.length_pos_iff.mpr ne
  have V := start_valid (a := a) (p := partsOf a c) pos (by unfold partsOf; omega) (by unfold partsOf; omega) (by omega)
  obtain ⟨W, s⟩ := steps_ok pos V (c - (startAt a (partsOf a c)).sum).toNat (by omega)
  exact share_unique pos hc W (by rw [s]; omega)
theorem full_share {a : List Int} {c : Int} (pos : AllPos a) (hc : 0 ≤ c) (h : a.sum ≤ c) : a = share a c :=
  share_unique pos hc (valid_full pos) (by omega)
theorem nat_of {x : Int} {n : Nat} (h0 : 0 ≤ x) (h1 : x < n) : ∃ j : Nat, x = (j : Int) ∧ j < n := ⟨x.toNat, by omega, by omega⟩


end Rf
namespace Rf
open PySem PySem.Spec PyProof.Rows L2
/-! ### books: the mathematics of points 2 to 5 -/
structure Clm where
  d : Int
  c : Int
  a : Int
  r : Int
structure Bk where
  cash : List Int
  claims : List Clm
def Bk.clm (B : Bk) (k : Nat) : Clm := B.claims.getD k ⟨0, 0, 0, 0⟩
/-- a claim that point 2 lets by, among n houses -/
structure GoodC (n : Int) (q : Clm) : Prop where
  d0 : 0 ≤ q.d
  d1 : q.d < n
  c0 : 0 ≤ q.c
  c1 : q.c < n
  ne : q.d ≠ q.c
  a0 : 1 ≤ q.a
  a1 : q.a ≤ 999
  r0 : 1 ≤ q.r
  r1 : q.r ≤ 9
structure Good (B : Bk) : Prop where
  n0 : 1 ≤ B.cash.length
  n1 : B.cash.length ≤ 8
  cash : ∀ x ∈ B.cash, 0 ≤ x ∧ x ≤ 999
  m1 : B.claims.length ≤ 24
  claims : ∀ q ∈ B.claims, GoodC (B.cash.length : Int) q
theorem Bk.clm_get {B : Bk} {k : Nat} (h : k < B.claims.length) : B.claims[k]? = some (B.clm k) := by
  unfold Bk.clm
  rw [List.getD_eq_getElem?_getD, List.getElem?_eq_getElem h]
  rfl
theorem Bk.clm_of {B : Bk} {k : Nat} {q : Clm} (h : B.claims[k]? = some q) : B.clm k = q := by
  unfold Bk.clm
  rw [List.getD_eq_getElem?_getD, h]
  rfl
theorem Good.clm {B : Bk} (G : Good B) {k : Nat} (h : k < B.claims.length) : GoodC (B.cash.length : Int) (B.clm k) := G.claims _ (List.mem_of_getElem? (Bk.clm_get h))
/-- the claims of which h is the debtor; those of rank r; of the first i claims alone -/
def owesUp (B : Bk) (h : Int) (i : Nat) : List Nat := (List.range i).filter fun k => decide ((B.clm k).d = h)
def rankUp (B : Bk) (h r : Int) (i : Nat) : List Nat := (List.range i).filter fun k => decide ((B.clm k).d = h) && decide ((B.clm k).r = r)
def owes (B : Bk) (h : Int) : List Nat := owesUp B h B.claims.length
def ofRank (B : Bk) (h r : Int) : List Nat := rankUp B h r B.claims.length
def amt (B : Bk) (k : Nat) : Int := (B.clm k).a
def amts (B : Bk) (h r : Int) : List Int := (ofRank B h r).map (amt B)
theorem range_filter_succ (f : Nat → Bool) (i : Nat) : (List.range (i + 1)).filter f = (List.range i).filter f ++ (if f i = true then [i] else []) := by
  rw [List.range_succ, List.filter_append, List.filter_cons, List.filter_nil]
theorem mem_owesUp {B : Bk} {h : Int} {i k : Nat} : k ∈ owesUp B h i ↔ k < i ∧ (B.clm k).d = h := by
  unfold owesUp
  rw [List.mem_filter, List.mem_range, decide_eq_true_iff]
theorem mem_rankUp {B : Bk} {h r : Int} {i k : Nat} : k ∈ rankUp B h r i ↔ k < i ∧ (B.clm k).d = h ∧ (B.clm k).r = r := by
  unfold rankUp
  rw [List.mem_filter, List.mem_range, Bool.and_eq_true, decide_eq_true_iff, decide_eq_true_iff]
theorem rankUp_len (B : Bk) (h r : Int) (i : Nat) : (rankUp B h r i).length ≤ i := by
  unfold rankUp
  have := List.length_filter_le (fun k => decide ((B.clm k).d = h) && decide ((B.clm k).r = r)) (List.range i)
  rw [List.length_range] at this
  exact this
theorem owesUp_len (B : Bk) (h : Int) (i : Nat) : (owesUp B h i).length ≤ i := by
  unfold owesUp
  have := List.length_filter_le (fun k => decide ((B.clm k).d = h)) (List.range i)
  rw [List.length_range] at this
  exact this
theorem amts_ok {B : Bk} (G : Good B) (h r : Int) : ∀ x ∈ amts B h r, 1 ≤ x ∧ x ≤ 999 := fun x hx => by
  obtain ⟨k, hk, rfl⟩ := List.mem_map.mp hx
  have q := G.clm (mem_rankUp.mp hk).1
  exact ⟨q.a0, q.a1⟩
/-! the sharing's length; coins below nought are none -/
theorem nextS_len (a p : List Int) : (nextS a p).length = p.length := by
  unfold nextS
  split
  · rw [List.length_set]
  · rfl
theorem steps_len (a : List Int) : ∀ (n : Nat) (p : List Int), (steps a n p).length = p.length
  | 0, _ => rfl
  | n + 1, p => by
    show (nextS a (steps a n p)).length = p.length
    rw [nextS_len, steps_len a n p]
theorem share_len (a : List Int) (c : Int) : (share a c).length = a.length := by
  unfold share shareN
  rw [steps_len]
  exact List.length_replicate
theorem share_max {a : List Int} (pos : AllPos a) (c : Int) : share a (max 0 c) = share a c := by
  have h0 := pos.sum_nn
  unfold share
  have e : (min (max 0 c) a.sum).toNat = (min c a.sum).toNat := by omega
  rw [e]
/-! what a house pays: rank by rank -/
def payFrom (B : Bk) (h : Int) : List Int → Int → List (Nat × Int)
  | [], _ => []
  | r :: rs, m => (ofRank B h r).zip (share (amts B h r) m) ++ payFrom B h rs (m - (share (amts B h r) m).sum)
def ranks9 : List Int := [1, 2, 3, 4, 5, 6, 7, 8, 9]
theorem amts_len (B : Bk) (h r : Int) : (amts B h r).length = (ofRank B h r).length := List.length_map _
theorem pay_keys (B : Bk) (h : Int) : ∀ (rs : List Int) (m : Int), (payFrom B h rs m).map (·.1) = rs.flatMap (ofRank B h)
  | [], _ => rfl
  | r :: rs, m => by
    unfold payFrom
    rw [List.map_append, pay_keys B h rs, List.flatMap_cons]
    congr 1
    exact List.map_fst_zip (by rw [share_len, amts_len]; exact Nat.le_refl _)
theorem mem_flat {B : Bk} {h : Int} {rs : List Int} {k : Nat} : k ∈ rs.flatMap (ofRank B h) ↔ k < B.claims.length ∧ (B.clm k).d = h ∧ (B.clm k).r ∈ rs := by
  rw [List.mem_flatMap]
  constructor
  · rintro ⟨r, hr, hk⟩
    have q := mem_rankUp.mp hk
    exact ⟨q.1, q.2.1, by rw [q.2.2]; exact hr⟩
  · rintro ⟨h1, h2, h3⟩
    exact ⟨_, h3, mem_rankUp.mpr ⟨h1, h2, rfl⟩⟩
theorem nodup_filter_range (f : Nat → Bool) (n : Nat) : ((List.range n).filter f).Nodup := List.nodup_range.filter f
theorem flat_nodup {B : Bk} {h : Int} : ∀ {rs : List Int}, rs.Nodup → (rs.flatMap (ofRank B h)).Nodup
  | [], _ => List.nodup_nil
  | r :: rs, hn => by
    rw [List.flatMap_cons]
    have hn2 := List.nodup_cons.mp hn
    refine List.nodup_append.mpr ⟨nodup_filter_range _ _, flat_nodup hn2.2, fun a ha b hb e => ?_⟩
    subst e
    have q := mem_rankUp.mp ha
    have q2 := (mem_flat.mp hb).2.2
    rw [q.2.2] at q2
    exact hn2.1 q2
theorem ranks9_mem {B : Bk} (G : Good B) {k : Nat} (h : k < B.claims.length) : (B.clm k).r ∈ ranks9 := by
  have q := G.clm h
  have h1 := q.r0
  have h2 := q.r1
  generalize (B.clm k).r = r at *
  have : r = 1 ∨ r = 2 ∨ r = 3 ∨ r = 4 ∨ r = 5 ∨ r = 6 ∨ r = 7 ∨ r = 8 ∨ r = 9 := by omega
  simp only [ranks9, List.mem_cons, List.not_mem_nil, or_false]
  exact this
/-- ranks without a claim may be left out -/
theorem pay_filter (B : Bk) (h : Int) : ∀ (rs : List Int) (m : Int), payFrom B h (rs.filter fun r => !(ofRank B h r).isEmpty) m = payFrom B h rs m
  | [], _ => rfl
  | r :: rs, m => by
    rw [List.filter_cons]
    cases e : (ofRank B h r) with
    | nil =>
      have ea : amts B h r = [] := by
        unfold amts
        rw [e]
        rfl
      have es : share (amts B h r) m = [] := List.eq_nil_of_length_eq_zero (by rw [share_len, ea]; rfl)
      rw [if_neg (by simp)]
      conv => rhs; unfold payFrom
      rw [es, e, pay_filter B h rs]
      show payFrom B h rs m = payFrom B h rs (m - 0)
      rw [Int.sub_zero]
    | cons k t =>
      rw [if_pos (by simp)]
      conv => lhs; unfold payFrom
      conv => rhs; unfold payFrom
      rw [pay_filter B h rs]
/-! sorted lists with like members are one -/
theorem sorted_ext {α : Type} {f : α → Int} : ∀ {l m : List α}, l.Pairwise (fun x y => f x < f y) → m.Pairwise (fun x y => f x < f y) → (∀ x, x ∈ l ↔ x ∈ m) → l = m
  | [], [], _, _, _ => rfl
  | [], y :: m, _, _, h => absurd ((h y).mpr List.mem_cons_self) List.not_mem_nil
  | x :: l, [], _, _, h => absurd ((h x).mp List.mem_cons_self) List.not_mem_nil
  | x :: l, y :: m, hl, hm, h => by
    have hl2 := List.pairwise_cons.mp hl
    have hm2 := List.pairwise_cons.mp hm
    have e : x = y := by
      rcases List.mem_cons.mp ((h x).mp List.mem_cons_self) with q | q
      · exact q
      · rcases List.mem_cons.mp ((h y).mpr List.mem_cons_self) with z | z
        · exact z.symm
        · have := hm2.1 x q
          have := hl2.1 y z
          omega
    subst e
    congr 1
    refine sorted_ext hl2.2 hm2.2 fun z => ⟨fun hz => ?_, fun hz => ?_⟩
    · rcases List.mem_cons.mp ((h z).mp (List.mem_cons_of_mem _ hz)) with q | q
      · subst q
        have := hl2.1 z hz
        omega
      · exact q
    · rcases List.mem_cons.mp ((h z).mpr (List.mem_cons_of_mem _ hz)) with q | q
      · subst q
        have := hm2.1 z hz
        omega
      · exact q
theorem lookup_of {l : List (Nat × Int)} (hn : (l.map (·.1)).Nodup) {k : Nat} {c : Int} (h : (k, c) ∈ l) : l.lookup k = some c := by
  induction l with
  | nil => cases h
  | cons p r ih =>
    obtain ⟨k2, c2⟩ := p
    have hn2 := List.nodup_cons.mp (show (k2 :: r.map (·.1)).Nodup from hn)
    rw [List.lookup_cons]
    rcases List.mem_cons.mp h with e | e
    · cases e
      simp
    · have ne : ¬ k = k2 := fun z => hn2.1 (by rw [← z]; exact List.mem_map_of_mem (f := (·.1)) e)
      have hb : (k == k2) = false := beq_eq_false_iff_ne.mpr ne
      rw [hb]
      exact ih hn2.2 e
/-- what a house pays each of its claims, by the claims' numbers -/
def coinOf (B : Bk) (h m : Int) (k : Nat) : Int := ((payFrom B h ranks9 m).lookup k).getD 0
def payList (B : Bk) (h m : Int) : List (Nat × Int) := (owes B h).map fun k => (k, coinOf B h m k)
theorem pay_nodup (B : Bk) (h m : Int) : ((payFrom B h ranks9 m).map (·.1)).Nodup := by
  rw [pay_keys]
  exact flat_nodup (by decide)
theorem mem_payList {B : Bk} (G : Good B) {h m : Int} {x : Nat × Int} : x ∈ payList B h m ↔ x ∈ payFrom B h ranks9 m := by
  obtain ⟨k, c⟩ := x
  unfold payList
  rw [List.mem_map]
  constructor
  · rintro ⟨k2, hk, e⟩
    cases e
    have q := mem_owesUp.mp hk
    have hm : k ∈ (payFrom B h ranks9 m).map (·.1) := by
      rw [pay_keys]
      exact mem_flat.mpr ⟨q.1, q.2, ranks9_mem G q.1⟩
    obtain ⟨⟨k3, c3⟩, h3, e3⟩ := List.mem_map.mp hm
    have e3' : k3 = k := e3
    subst e3'
    unfold coinOf
    rw [lookup_of (pay_nodup B h m) h3]
    exact h3
  · intro hx
    have hm : k ∈ (payFrom B h ranks9 m).map (·.1) := List.mem_map_of_mem (f := (·.1)) hx
    rw [pay_keys] at hm
    have q := mem_flat.mp hm
    refine ⟨k, mem_owesUp.mpr ⟨q.1, q.2.1⟩, ?_⟩
    unfold coinOf
    rw [lookup_of (pay_nodup B h m) hx]
    rfl
theorem range_pairwise (f : Nat → Bool) (n : Nat) : ((List.range n).filter f).Pairwise (· < ·) := List.pairwise_lt_range.sublist List.filter_sublist
theorem payList_sorted (B : Bk) (h m : Int) : (payList B h m).Pairwise (fun x y => (x.1 : Int) < (y.1 : Int)) := by
  unfold payList
  rw [List.pairwise_map]
  exact (range_pairwise _ _).imp fun h => by simpa using h
/-- any arrangement of what is paid, rising by the claims' numbers, is that list -/
theorem payList_unique {B : Bk} (G : Good B) {h m : Int} {L : List (Nat × Int)} (hs : L.Pairwise (fun x y => (x.1 : Int) < (y.1 : Int))) (hp : L.Perm (payFrom B h ranks9 m)) : L = payList B h m :=
  sorted_ext (f := fun x => (x.1 : Int)) hs (payList_sorted B h m) fun _ => hp.mem_iff.trans (mem_payList G).symm
/-- what a house owes in all -/
def owedIn (B : Bk) (h : Int) : Int := ((owes B h).map (amt B)).sum
theorem pay_len (B : Bk) (h : Int) : ∀ (rs : List Int) (m : Int), (payFrom B h rs m).length = ((rs.map fun r => (ofRank B h r).length)).sum
  | [], _ => rfl
  | r :: rs, m => by
    unfold payFrom
    rw [List.length_append, List.length_zip, share_len, amts_len, Nat.min_self, pay_len B h rs, List.map_cons, List.sum_cons]


end Rf
namespace Rf
open PySem PySem.Spec PyProof.Rows L2
/-! ### clearings: the mathematics of points 3, 5, 6 -/
def sumIf (f : Nat → Bool) (v : Nat → Int) : Nat → Int
  | 0 => 0
  | i + 1 => sumIf f v i + (if f i = true then v i else 0)
theorem sumIf_le {f : Nat → Bool} {v w : Nat → Int} : ∀ {n : Nat}, (∀ k, k < n → f k = true → v k ≤ w k) → sumIf f v n ≤ sumIf f w n
  | 0, _ => Int.le_refl _
  | n + 1, h => by
    have ih := sumIf_le (f := f) (v := v) (w := w) (n := n) fun k hk => h k (by omega)
    unfold sumIf
    by_cases e : f n = true
    · have := h n (Nat.lt_succ_self n) e
      rw [if_pos e, if_pos e]
      omega
    · rw [if_neg e, if_neg e]
      omega
theorem sumIf_congr {f f' : Nat → Bool} {v w : Nat → Int} : ∀ {n : Nat}, (∀ k, k < n → f k = f' k) → (∀ k, k < n → f k = true → v k = w k) → sumIf f v n = sumIf f' w n
  | 0, _, _ => rfl
  | n + 1, h, h2 => by
    have ih := sumIf_congr (f := f) (f' := f') (v := v) (w := w) (n := n) (fun k hk => h k (by omega)) fun k hk => h2 k (by omega)
    unfold sumIf
    rw [ih, ← h n (Nat.lt_succ_self n)]
    by_cases e : f n = true
    · rw [if_pos e, if_pos e, h2 n (Nat.lt_succ_self n) e]
    · rw [if_neg e, if_neg e]
theorem sumIf_nonneg {f : Nat → Bool} {v : Nat → Int} : ∀ {n : Nat}, (∀ k, k < n → f k = true → 0 ≤ v k) → 0 ≤ sumIf f v n
  | 0, _ => Int.le_refl _
  | n + 1, h => by
    have ih := sumIf_nonneg (f := f) (v := v) (n := n) fun k hk => h k (by omega)
    unfold sumIf
    by_cases e : f n = true
    · have := h n (Nat.lt_succ_self n) e
      rw [if_pos e]
      omega
    · rw [if_neg e]
      omega
theorem sumIf_eq_of {f : Nat → Bool} {v w : Nat → Int} : ∀ {n : Nat}, (∀ k, k < n → f k = true → v k ≤ w k) → sumIf f w n ≤ sumIf f v n → ∀ k, k < n → f k = true → v k = w k
  | 0, _, _, k, hk, _ => absurd hk (Nat.not_lt_zero _)
  | n + 1, h, hs, k, hk, hf => by
    have h1 := sumIf_le (f := f) (v := v) (w := w) (n := n) fun k hk => h k (by omega)
    unfold sumIf at hs
    by_cases e : f n = true
    · have h2 := h n (Nat.lt_succ_self n) e
      rw [if_pos e, if_pos e] at hs
      by_cases q : k = n
      · subst q
        omega
      · exact sumIf_eq_of (n := n) (fun k hk => h k (by omega)) (by omega) k (by omega) hf
    · rw [if_neg e, if_neg e] at hs
      have q : k ≠ n := fun z => e (z ▸ hf)
      exact sumIf_eq_of (n := n) (fun k hk => h k (by omega)) (by omega) k (by omega) hf
theorem sumIf_list {f : Nat → Bool} {v : Nat → Int} : ∀ {n : Nat}, (((List.range n).filter f).map v).sum = sumIf f v n
  | 0 => rfl
  | n + 1 => by
    have ih := sumIf_list (f := f) (v := v) (n := n)
    rw [range_filter_succ, List.map_append, List.sum_append, ih]
    show sumIf f v n + _ = sumIf f v n + (if f n = true then v n else 0)
    by_cases e : f n = true
    · rw [if_pos e, if_pos e]
      simp
    · rw [if_neg e, if_neg e]
      simp
theorem sumIf_add {f : Nat → Bool} {v w : Nat → Int} : ∀ {n : Nat}, sumIf f (fun k => v k + w k) n = sumIf f v n + sumIf f w n
  | 0 => rfl
  | n + 1 => by
    unfold sumIf
    rw [sumIf_add (n := n)]
    by_cases e : f n = true
    · rw [if_pos e, if_pos e, if_pos e]
      omega
    · rw [if_neg e, if_neg e, if_neg e]
      omega
theorem perm_sum {l m : List Int} (h : l.Perm m) : l.sum = m.sum := by
  induction h with
  | nil => rfl
  | cons x _ ih => rw [List.sum_cons, List.sum_cons, ih]
  | swap x y l => rw [List.sum_cons, List.sum_cons, List.sum_cons, List.sum_cons]; omega
  | trans _ _ h1 h2 => rw [h1, h2]
/-! more coins: nobody gets less -/
theorem share_step_le {a : List Int} {c : Int} (pos : AllPos a) (hc : 0 ≤ c) (i : Nat) (hi : i < a.length) : g (share a c) i ≤ g (share a (c + 1)) i := by
  by_cases h : c < a.sum
  · rw [share_next pos hc h]
    unfold nextS
    split
    · next f hf =>
      have F := firstUp_some pos (Nat.le_refl _) hf
      have fl : f < (share a c).length := by rw [share_len]; exact F.lt
      by_cases e : f = i
      · subst e
        rw [g_set_same fl]
        omega
      · rw [g_set_ne e]
        exact Int.le_refl _
    · exact Int.le_refl _
  · rw [← full_share pos hc (by omega), ← full_share pos (by omega) (by omega)]
    exact Int.le_refl _
theorem share_mono {a : List Int} {c e : Int} (pos : AllPos a) (hc : 0 ≤ c) (h : c ≤ e) (i : Nat) (hi : i < a.length) : g (share a c) i ≤ g (share a e) i := by
  obtain ⟨n, hn⟩ : ∃ n : Nat, e = c + n := ⟨(e - c).toNat, by omega⟩
  subst hn
  clear h
  induction n with
  | zero =>
    rw [show c + ((0 : Nat) : Int) = c by omega]
    exact Int.le_refl _
  | succ n ih =>
    have h1 := share_step_le pos (c := c + n) (by omega) i hi
    rw [show c + ((n + 1 : Nat) : Int) = c + n + 1 by omega]
    omega
theorem amtsPos {B : Bk} (G : Good B) (x r : Int) : AllPos (amts B x r) := AllPos.of fun z hz => by
  have := amts_ok G x r z hz
  omega
/-- what is paid, entry by entry, with more means -/
theorem pay_mono {B : Bk} (G : Good B) (x : Int) : ∀ (rs : List Int) {m m' : Int}, 0 ≤ m → m ≤ m' → ∀ (j : Nat) (p p' : Nat × Int), (payFrom B x rs m)[j]? = some p → (payFrom B x rs m')[j]? = some p' → p.1 = p'.1 ∧ p.2 ≤ p'.2
  | [], _, _, _, _, j, p, p', h, _ => by cases h
  | r :: rs, m, m', h0, hm, j, p, p', h, h' => by
    unfold payFrom at h h'
    have pos := amtsPos G x r
    have l1 : ((ofRank B x r).zip (share (amts B x r) m)).length = (ofRank B x r).length := by rw [List.length_zip, share_len, amts_len, Nat.min_self]
    have l2 : ((ofRank B x r).zip (share (amts B x r) m')).length = (ofRank B x r).length := by rw [List.length_zip, share_len, amts_len, Nat.min_self]
    have s1 := (share_ok pos h0).2
    have s2 := (share_ok pos (show 0 ≤ m' by omega)).2
    have nn := pos.sum_nn
    by_cases hj : j < (ofRank B x r).length
    · rw [List.getElem?_append_left (by rw [l1]; exact hj)] at h
      rw [List.getElem?_append_left (by rw [l2]; exact hj)] at h'
      obtain ⟨a1, a2⟩ := List.getElem?_zip_eq_some.mp h
      obtain ⟨b1, b2⟩ := List.getElem?_zip_eq_some.mp h'
      have e1 : p.1 = p'.1 := Option.some.inj (a1.symm.trans b1)
      have ms := share_mono pos h0 hm j (by rw [amts_len]; exact hj)
      rw [g_of a2, g_of b2] at ms
      exact ⟨e1, ms⟩
    · rw [List.getElem?_append_right (by rw [l1]; omega), l1] at h
      rw [List.getElem?_append_right (by rw [l2]; omega), l2] at h'
      refine pay_mono G x rs ?_ ?_ _ p p' h h'
      · rw [s1]; omega
      · rw [s1, s2]; omega
theorem pay_between {B : Bk} (G : Good B) (x : Int) : ∀ (rs : List Int) {m : Int}, 0 ≤ m → ∀ p ∈ payFrom B x rs m, 0 ≤ p.2 ∧ p.2 ≤ amt B p.1
  | [], _, _, p, h => by cases h
  | r :: rs, m, h0, p, h => by
    unfold payFrom at h
    have pos := amtsPos G x r
    obtain ⟨W, s1⟩ := share_ok pos h0
    have nn := pos.sum_nn
    rcases List.mem_append.mp h with h | h
    · obtain ⟨j, hj, e⟩ := List.mem_iff_getElem.mp h
      have hz : ((ofRank B x r).zip (share (amts B x r) m))[j]? = some p := by rw [List.getElem?_eq_getElem hj, e]
      obtain ⟨a1, a2⟩ := List.getElem?_zip_eq_some.mp hz
      have hj2 : j < (amts B x r).length := by
        rw [amts_len]
        exact (List.getElem?_eq_some_iff.mp a1).1
      have b1 := W.lo j hj2
      have b2 := W.hi j hj2
      rw [g_of a2] at b1 b2
      have e2 : g (amts B x r) j = amt B p.1 := by
        apply g_of
        unfold amts
        rw [List.getElem?_map, a1]
        rfl
      rw [e2] at b2
      exact ⟨b1, b2⟩
    · exact pay_between G x rs (by rw [s1]; omega) p h
def owedBy (B : Bk) (x : Int) (rs : List Int) : Int := (rs.map fun r => (amts B x r).sum).sum
theorem owedBy_nn {B : Bk} (G : Good B) (x : Int) : ∀ rs : List Int, 0 ≤ owedBy B x rs
  | [] => Int.le_refl _
  | r :: rs => by
    have h1 := (amtsPos G x r).sum_nn
    have h2 := owedBy_nn G x rs
    unfold owedBy at *
    rw [List.map_cons, List.sum_cons]
    omega
theorem pay_sum {B : Bk} (G : Good B) (x : Int) : ∀ (rs : List Int) {m : Int}, 0 ≤ m → ((payFrom B x rs m).map (·.2)).sum = min m (owedBy B x rs)
  | [], m, h0 => by
    show (0 : Int) = min m 0
    omega
  | r :: rs, m, h0 => by
    have pos := amtsPos G x r
    have s1 := (share_ok pos h0).2
    have nn := pos.sum_nn
    have nn2 := owedBy_nn G x rs
    have ih := pay_sum G x rs (m := m - (share (amts B x r) m).sum) (by rw [s1]; omega)
    unfold payFrom
    rw [List.map_append, List.sum_append, ih]
    have e : ((ofRank B x r).zip (share (amts B x r) m)).map (·.2) = share (amts B x r) m := List.map_snd_zip (by rw [share_len, amts_len]; exact Nat.le_refl _)
    rw [e, s1]
    have e2 : owedBy B x (r :: rs) = (amts B x r).sum + owedBy B x rs := by
      unfold owedBy
      rw [List.map_cons, List.sum_cons]
    rw [e2]
    omega
/-! the coins of a claim -/
theorem coin_mem {B : Bk} (G : Good B) {x m : Int} {k : Nat} (hk : k < B.claims.length) (hd : (B.clm k).d = x) : (k, coinOf B x m k) ∈ payFrom B x ranks9 m :=
  (mem_payList G).mp (List.mem_map.mpr ⟨k, mem_owesUp.mpr ⟨hk, hd⟩, rfl⟩)
theorem coin_lo {B : Bk} (G : Good B) {x m : Int} {k : Nat} (hk : k < B.claims.length) (hd : (B.clm k).d = x) (h0 : 0 ≤ m) : 0 ≤ coinOf B x m k := (pay_between G x ranks9 h0 _ (coin_mem G hk hd)).1
theorem coin_hi {B : Bk} (G : Good B) {x m : Int} {k : Nat} (hk : k < B.claims.length) (hd : (B.clm k).d = x) (h0 : 0 ≤ m) : coinOf B x m k ≤ amt B k := (pay_between G x ranks9 h0 _ (coin_mem G hk hd)).2
theorem coin_mono {B : Bk} (G : Good B) {x m m' : Int} {k : Nat} (hk : k < B.claims.length) (hd : (B.clm k).d = x) (h0 : 0 ≤ m) (h : m ≤ m') : coinOf B x m k ≤ coinOf B x m' k := by
  obtain ⟨j, hj, e⟩ := List.mem_iff_getElem.mp (coin_mem G (m := m) hk hd)
  have h1 : (payFrom B x ranks9 m)[j]? = some (k, coinOf B x m k) := by rw [List.getElem?_eq_getElem hj, e]
  have hl : j < (payFrom B x ranks9 m').length := by
    rw [pay_len] at hj ⊢
    exact hj
  have h2 := List.getElem?_eq_getElem hl
  obtain ⟨q1, q2⟩ := pay_mono G x ranks9 h0 h j _ _ h1 h2
  have q3 : ((payFrom B x ranks9 m')[j]).1 = k := q1.symm
  have e2 : coinOf B x m' k = ((payFrom B x ranks9 m')[j]).2 := by
    unfold coinOf
    rw [lookup_of (c := ((payFrom B x ranks9 m')[j]).2) (pay_nodup B x m') (by rw [← q3]; exact List.getElem_mem hl)]
    rfl
  rw [e2]
  exact q2
theorem coin_sum {B : Bk} (G : Good B) {x m : Int} (h0 : 0 ≤ m) : sumIf (fun k => decide ((B.clm k).d = x)) (coinOf B x m) B.claims.length = min m (owedBy B x ranks9) := by
  rw [← pay_sum G x ranks9 h0, ← sumIf_list]
  have hp : (payList B x m).Perm (payFrom B x ranks9 m) := by
    refine (List.perm_ext_iff_of_nodup ?_ ?_).mpr fun _ => mem_payList G
    · exact (payList_sorted B x m).imp fun h z => by rw [z] at h; omega
    · exact List.Pairwise.of_map (·.1) (fun a b h z => h (by rw [z])) (pay_nodup B x m)
  have h2 := perm_sum (hp.map (·.2))
  rw [← h2]
  unfold payList
  rw [List.map_map]
  rfl
theorem owedBy_all {B : Bk} (G : Good B) (x : Int) : owedBy B x ranks9 = sumIf (fun k => decide ((B.clm k).d = x)) (amt B) B.claims.length := by
  -- with means enough all is paid: each claim its amount
  have nn := owedBy_nn G x ranks9
  have h1 := coin_sum G (x := x) (m := owedBy B x ranks9) nn
  rw [Int.min_self] at h1
  have h2 : sumIf (fun k => decide ((B.clm k).d = x)) (coinOf B x (owedBy B x ranks9)) B.claims.length ≤ sumIf (fun k => decide ((B.clm k).d = x)) (amt B) B.claims.length :=
    sumIf_le fun k hk hf => coin_hi G hk (of_decide_eq_true hf) nn
  have h3 : sumIf (fun k => decide ((B.clm k).d = x)) (amt B) B.claims.length = (((ranks9.flatMap (ofRank B x)).map (amt B))).sum := by
    rw [← sumIf_list]
    apply perm_sum
    apply List.Perm.map
    refine (List.perm_ext_iff_of_nodup (nodup_filter_range _ _) (flat_nodup (by decide))).mpr fun k => ?_
    rw [mem_flat, List.mem_filter, List.mem_range, decide_eq_true_iff]
    constructor
    · rintro ⟨q1, q2⟩
      exact ⟨q1, q2, ranks9_mem G q1⟩
    · rintro ⟨q1, q2, _⟩
      exact ⟨q1, q2⟩
  have h4 : ∀ rs : List Int, ((rs.flatMap (ofRank B x)).map (amt B)).sum = owedBy B x rs := fun rs => by
    induction rs with
    | nil => rfl
    | cons r rs ih =>
      rw [List.flatMap_cons, List.map_append, List.sum_append, ih]
      unfold owedBy
      rw [List.map_cons, List.sum_cons]
      rfl
  rw [h3, h4]
theorem owedIn_eq {B : Bk} (G : Good B) (x : Int) : owedIn B x = owedBy B x ranks9 := by
  rw [owedBy_all G, ← sumIf_list]
  rfl
/-- enough means: each claim its amount; too few: some less -/
theorem coin_full {B : Bk} (G : Good B) {x m : Int} {k : Nat} (hk : k < B.claims.length) (hd : (B.clm k).d = x) (h : owedIn B x ≤ m) : coinOf B x m k = amt B k := by
  have nn := owedBy_nn G x ranks9
  rw [owedIn_eq G] at h
  have h1 := coin_sum G (x := x) (m := m) (by omega)
  rw [Int.min_eq_right h, owedBy_all G] at h1
  exact sumIf_eq_of (f := fun k => decide ((B.clm k).d = x)) (v := coinOf B x m) (w := amt B) (n := B.claims.length) (fun k hk hf => coin_hi G hk (of_decide_eq_true hf) (by omega)) (by omega) k hk (decide_eq_true hd)


end Rf
namespace Rf
open PySem PySem.Spec PyProof.Rows L2
/-! ### payments led on: best and worst -/
def meansOf (B : Bk) (x : Int) (P : List Int) : Int := g B.cash x.toNat + sumIf (fun k => decide ((B.clm k).c = x)) (g P) P.length
def paidOut (B : Bk) (x : Int) (P : List Int) : Int := sumIf (fun k => decide ((B.clm k).d = x)) (g P) P.length
structure Pay (B : Bk) (P : List Int) : Prop where
  len : P.length = B.claims.length
  lo : ∀ k, k < B.claims.length → 0 ≤ g P k
  hi : ∀ k, k < B.claims.length → g P k ≤ amt B k
def LeP (P Q : List Int) : Prop := P.length = Q.length ∧ ∀ i, i < P.length → g P i ≤ g Q i
theorem LeP.refl (P : List Int) : LeP P P := ⟨rfl, fun _ _ => Int.le_refl _⟩
theorem LeP.trans {P Q R : List Int} (a : LeP P Q) (b : LeP Q R) : LeP P R := ⟨a.1.trans b.1, fun i hi => Int.le_trans (a.2 i hi) (b.2 i (a.1 ▸ hi))⟩
theorem LeP.anti {P Q : List Int} (a : LeP P Q) (b : LeP Q P) : P = Q := ext_g a.1 fun i hi => Int.le_antisymm (a.2 i hi) (b.2 i (a.1 ▸ hi))
theorem LeP.sum {P Q : List Int} (a : LeP P Q) : P.sum ≤ Q.sum := sum_le_of a.1 a.2
theorem LeP.eq {P Q : List Int} (a : LeP P Q) (h : Q.sum ≤ P.sum) : P = Q := eq_of_sum_le a.1 a.2 h
theorem LeP.lt {P Q : List Int} (a : LeP P Q) (h : P ≠ Q) : P.sum < Q.sum := Int.lt_of_not_ge fun z => h (a.eq z)
/-- what is paid when the houses hs pay with the means that P brings -/
def behind (B : Bk) (hs : List Int) (P : List Int) : List Int := (List.range B.claims.length).map fun k => if (B.clm k).d ∈ hs then coinOf B (B.clm k).d (meansOf B (B.clm k).d P) k else g P k
theorem behind_len (B : Bk) (hs P : List Int) : (behind B hs P).length = B.claims.length := by
  unfold behind
  rw [List.length_map, List.length_range]
theorem g_rangeMap {n k : Nat} {f : Nat → Int} (h : k < n) : g ((List.range n).map f) k = f k := by
  apply g_of
  rw [List.getElem?_map, List.getElem?_range h]
  rfl
theorem g_behind {B : Bk} {hs P : List Int} {k : Nat} (h : k < B.claims.length) : g (behind B hs P) k = if (B.clm k).d ∈ hs then coinOf B (B.clm k).d (meansOf B (B.clm k).d P) k else g P k := g_rangeMap h
theorem g_default {l : List Int} {k : Nat} (h : l.length ≤ k) : g l k = 0 := by
  unfold g
  rw [List.getD_eq_getElem?_getD, List.getElem?_eq_none h]
  rfl
theorem cash_nn {B : Bk} (G : Good B) (i : Nat) : 0 ≤ g B.cash i := by
  by_cases h : i < B.cash.length
  · exact (G.cash _ (g_mem h)).1
  · rw [g_default (by omega)]
    exact Int.le_refl _
theorem means_nn {B : Bk} (G : Good B) {P : List Int} (hP : Pay B P) (x : Int) : 0 ≤ meansOf B x P := by
  have h1 := cash_nn G x.toNat
  have h2 : 0 ≤ sumIf (fun k => decide ((B.clm k).c = x)) (g P) P.length := sumIf_nonneg fun k hk _ => hP.lo k (hP.len ▸ hk)
  unfold meansOf
  omega
theorem means_mono {B : Bk} {P Q : List Int} (h : LeP P Q) (x : Int) : meansOf B x P ≤ meansOf B x Q := by
  have h2 : sumIf (fun k => decide ((B.clm k).c = x)) (g P) P.length ≤ sumIf (fun k => decide ((B.clm k).c = x)) (g Q) P.length := sumIf_le fun k hk _ => h.2 k hk
  unfold meansOf
  rw [← h.1]
  omega
theorem behind_pay {B : Bk} (G : Good B) {hs P : List Int} (hP : Pay B P) : Pay B (behind B hs P) := by
  refine ⟨behind_len B hs P, fun k hk => ?_, fun k hk => ?_⟩
  · rw [g_behind hk]
    split
    · exact coin_lo G hk rfl (means_nn G hP _)
    · exact hP.lo k hk
  · rw [g_behind hk]
    split
    · exact coin_hi G hk rfl (means_nn G hP _)
    · exact hP.hi k hk
theorem behind_mono {B : Bk} (G : Good B) {hs P Q : List Int} (hP : Pay B P) (h : LeP P Q) : LeP (behind B hs P) (behind B hs Q) := by
  refine ⟨by rw [behind_len, behind_len], fun k hk => ?_⟩
  rw [behind_len] at hk
  rw [g_behind hk, g_behind hk]
  split
  · exact coin_mono G hk rfl (means_nn G hP _) (means_mono h _)
  · exact h.2 k (by rw [hP.len]; exact hk)
/-- fewer houses pay by their means: nobody gets less, where all is at most the amounts -/
theorem behind_anti {B : Bk} (G : Good B) {hs hs' P : List Int} (hP : Pay B P) (hsub : ∀ x ∈ hs, x ∈ hs') (hfix : LeP (behind B hs' P) P) : LeP (behind B hs' P) (behind B hs P) := by
  refine ⟨by rw [behind_len, behind_len], fun k hk => ?_⟩
  rw [behind_len] at hk
  have h1 := hfix.2 k (by rw [behind_len]; exact hk)
  rw [g_behind hk] at h1 ⊢
  rw [g_behind hk]
  by_cases e : (B.clm k).d ∈ hs
  · rw [if_pos e, if_pos (hsub _ e)]
    exact Int.le_refl _
  · rw [if_neg e]
    exact h1
def led (B : Bk) (hs : List Int) : Nat → List Int → List Int
  | 0, P => P
  | n + 1, P => behind B hs (led B hs n P)
theorem led_pay {B : Bk} (G : Good B) {hs P : List Int} (hP : Pay B P) : ∀ n, Pay B (led B hs n P)
  | 0 => hP
  | n + 1 => behind_pay G (led_pay G hP n)
theorem led_fixed {B : Bk} {hs P : List Int} (h : behind B hs P = P) : ∀ n, led B hs n P = P
  | 0 => rfl
  | n + 1 => by
    show behind B hs (led B hs n P) = P
    rw [led_fixed h n, h]
theorem led_succ' {B : Bk} {hs : List Int} : ∀ (n : Nat) (P : List Int), led B hs (n + 1) P = led B hs n (behind B hs P)
  | 0, _ => rfl
  | n + 1, P => by
    show behind B hs (led B hs (n + 1) P) = behind B hs (led B hs n (behind B hs P))
    rw [led_succ' n P]
theorem led_stays {B : Bk} {hs P : List Int} {n m : Nat} (h : behind B hs (led B hs n P) = led B hs n P) (hm : n ≤ m) : led B hs m P = led B hs n P := by
  obtain ⟨d, rfl⟩ : ∃ d, m = n + d := ⟨m - n, by omega⟩
  induction d with
  | zero => rfl
  | succ d ih =>
    show behind B hs (led B hs (n + d) P) = _
    rw [ih (by omega), h]
theorem led_down {B : Bk} (G : Good B) {hs P : List Int} (hP : Pay B P) (h : LeP (behind B hs P) P) : ∀ n, LeP (led B hs (n + 1) P) (led B hs n P)
  | 0 => h
  | n + 1 => behind_mono G (led_pay G hP (n + 1)) (led_down G hP h n)
theorem led_up {B : Bk} (G : Good B) {hs P : List Int} (hP : Pay B P) (h : LeP P (behind B hs P)) : ∀ n, LeP (led B hs n P) (led B hs (n + 1) P)
  | 0 => h
  | n + 1 => behind_mono G (led_pay G hP n) (led_up G hP h n)
theorem Pay.sum_nn {B : Bk} {P : List Int} (h : Pay B P) : 0 ≤ P.sum := sum_nonneg fun i hi => h.lo i (h.len ▸ hi)
def allP (B : Bk) : List Int := B.claims.map (·.a)
theorem g_allP {B : Bk} {k : Nat} (h : k < B.claims.length) : g (allP B) k = amt B k := by
  apply g_of
  unfold allP
  rw [List.getElem?_map, Bk.clm_get h]
  rfl
theorem allP_len (B : Bk) : (allP B).length = B.claims.length := List.length_map _
def noneP (B : Bk) : List Int := List.replicate B.claims.length 0
theorem g_noneP {B : Bk} {k : Nat} (h : k < B.claims.length) : g (noneP B) k = 0 := by
  apply g_of
  unfold noneP
  rw [List.getElem?_replicate, if_pos h]
theorem noneP_len (B : Bk) : (noneP B).length = B.claims.length := List.length_replicate
theorem amt_pos {B : Bk} (G : Good B) {k : Nat} (h : k < B.claims.length) : 1 ≤ amt B k ∧ amt B k ≤ 999 := ⟨(G.clm h).a0, (G.clm h).a1⟩
theorem allP_pay {B : Bk} (G : Good B) : Pay B (allP B) := ⟨allP_len B, fun k hk => by rw [g_allP hk]; have := amt_pos G hk; omega, fun k hk => by rw [g_allP hk]; exact Int.le_refl _⟩
theorem noneP_pay {B : Bk} (G : Good B) : Pay B (noneP B) := ⟨noneP_len B, fun k hk => by rw [g_noneP hk]; exact Int.le_refl _, fun k hk => by rw [g_noneP hk]; have := amt_pos G hk; omega⟩
theorem le_allP {B : Bk} {P : List Int} (h : Pay B P) : LeP P (allP B) := ⟨by rw [h.len, allP_len], fun k hk => by rw [h.len] at hk; rw [g_allP hk]; exact h.hi k hk⟩
theorem noneP_le {B : Bk} {P : List Int} (h : Pay B P) : LeP (noneP B) P := ⟨by rw [h.len, noneP_len], fun k hk => by rw [noneP_len] at hk; rw [g_noneP hk]; exact h.lo k hk⟩
theorem Pay.sum_le {B : Bk} {P : List Int} (h : Pay B P) : P.sum ≤ (allP B).sum := (le_allP h).sum
/-- down from P0, each turn that changes takes a coin at the least -/
theorem down_fix {B : Bk} (G : Good B) {hs P : List Int} (hP : Pay B P) (h : LeP (behind B hs P) P) : behind B hs (led B hs P.sum.toNat P) = led B hs P.sum.toNat P := by
  refine Classical.byContradiction fun hne => ?_
  have hstep : ∀ n, n ≤ P.sum.toNat → led B hs (n + 1) P ≠ led B hs n P := fun n hn e => hne (by
    have q := led_stays (m := P.sum.toNat) e hn
    rw [q]
    exact e)
  have hsum : ∀ n, n ≤ P.sum.toNat + 1 → (led B hs n P).sum + n ≤ P.sum := fun n => by
    induction n with
    | zero => intro _; show P.sum + 0 ≤ P.sum; omega
    | succ n ih =>
      intro hn
      have h1 := ih (by omega)
      have h2 := (led_down G hP h n).lt (hstep n (by omega))
      omega
  have h3 := hsum (P.sum.toNat + 1) (Nat.le_refl _)
  have h4 := (led_pay G hP (hs := hs) (P.sum.toNat + 1)).sum_nn
  have h5 := hP.sum_nn
  omega
theorem up_fix {B : Bk} (G : Good B) {hs P : List Int} (hP : Pay B P) (h : LeP P (behind B hs P)) {N : Nat} (hN : (allP B).sum - P.sum ≤ N) : behind B hs (led B hs N P) = led B hs N P := by
  refine Classical.byContradiction fun hne => ?_
  have hstep : ∀ n, n ≤ N → led B hs (n + 1) P ≠ led B hs n P := fun n hn e => hne (by
    have q := led_stays (m := N) e hn
    rw [q]
    exact e)
  have hsum : ∀ n, n ≤ N + 1 → P.sum + n ≤ (led B hs n P).sum := fun n => by
    induction n with
    | zero => intro _; show P.sum + 0 ≤ P.sum; omega
    | succ n ih =>
      intro hn
      have h1 := ih (by omega)
      have h2 := (led_up G hP h n).lt (Ne.symm (hstep n (by omega)))
      omega
  have h3 := hsum (N + 1) (Nat.le_refl _)
  have h4 := (led_pay G hP (hs := hs) (N + 1)).sum_le
  omega
/-- of the payments by which hs pay with their means and all others all, those that no claim has less by -/
def topIn (B : Bk) (hs : List Int) : List Int := led B hs (allP B).sum.toNat (allP B)
def lowIn (B : Bk) (hs : List Int) : List Int := led B hs (allP B).sum.toNat (noneP B)
theorem top_start {B : Bk} (G : Good B) (hs : List Int) : LeP (behind B hs (allP B)) (allP B) := le_allP (behind_pay G (allP_pay G))
theorem low_start {B : Bk} (G : Good B) (hs : List Int) : LeP (noneP B) (behind B hs (noneP B)) := noneP_le (behind_pay G (noneP_pay G))
theorem top_pay {B : Bk} (G : Good B) (hs : List Int) : Pay B (topIn B hs) := led_pay G (allP_pay G) _
theorem low_pay {B : Bk} (G : Good B) (hs : List Int) : Pay B (lowIn B hs) := led_pay G (noneP_pay G) _
theorem top_fix {B : Bk} (G : Good B) (hs : List Int) : behind B hs (topIn B hs) = topIn B hs := down_fix G (allP_pay G) (top_start G hs)
theorem low_fix {B : Bk} (G : Good B) (hs : List Int) : behind B hs (lowIn B hs) = lowIn B hs := up_fix G (noneP_pay G) (low_start G hs) (by
  have h1 := (noneP_pay G).sum_nn
  have h2 := (allP_pay G).sum_nn
  omega)
theorem led_ge {B : Bk} (G : Good B) {hs P Q : List Int} (hQ : Pay B Q) (h : LeP Q (behind B hs Q)) (h0 : LeP Q P) : ∀ n, LeP Q (led B hs n P)
  | 0 => h0
  | n + 1 => h.trans (behind_mono G hQ (led_ge G hQ h h0 n))
theorem led_le {B : Bk} (G : Good B) {hs P Q : List Int} (hP : Pay B P) (h : LeP (behind B hs Q) Q) (h0 : LeP P Q) : ∀ n, LeP (led B hs n P) Q
  | 0 => h0
  | n + 1 => (behind_mono G (led_pay G hP n) (led_le G hP h h0 n)).trans h
theorem top_ge {B : Bk} (G : Good B) {hs Q : List Int} (hQ : Pay B Q) (h : LeP Q (behind B hs Q)) : LeP Q (topIn B hs) := led_ge G hQ h (le_allP hQ) _
theorem low_le {B : Bk} (G : Good B) {hs Q : List Int} (hQ : Pay B Q) (h : LeP (behind B hs Q) Q) : LeP (lowIn B hs) Q := led_le G (noneP_pay G) h (noneP_le hQ) _
/-- wherever leading on from all paid comes to rest, that is it -/
theorem top_of_rest {B : Bk} (G : Good B) {hs : List Int} {n : Nat} (h : behind B hs (led B hs n (allP B)) = led B hs n (allP B)) : led B hs n (allP B) = topIn B hs := by
  refine LeP.anti (top_ge G (led_pay G (allP_pay G) n) (by rw [h]; exact LeP.refl _)) ?_
  exact led_ge G (top_pay G hs) (by rw [top_fix G]; exact LeP.refl _) (le_allP (top_pay G hs)) n
theorem low_of_rest {B : Bk} (G : Good B) {hs : List Int} {n : Nat} (h : behind B hs (led B hs n (noneP B)) = led B hs n (noneP B)) : led B hs n (noneP B) = lowIn B hs := by
  refine LeP.anti ?_ (low_le G (led_pay G (noneP_pay G) n) (by rw [h]; exact LeP.refl _))
  exact led_le G (noneP_pay G) (by rw [low_fix G]; exact LeP.refl _) (noneP_le (low_pay G hs)) n
/-- all houses -/
def houses (B : Bk) : List Int := (List.range B.cash.length).map fun k : Nat => (k : Int)
theorem mem_houses {B : Bk} {x : Int} : x ∈ houses B ↔ 0 ≤ x ∧ x < B.cash.length := by
  unfold houses
  rw [List.mem_map]
  constructor
  · rintro ⟨k, hk, rfl⟩
    have := List.mem_range.mp hk
    omega
  · rintro ⟨h0, h1⟩
    exact ⟨x.toNat, List.mem_range.mpr (by omega), by omega⟩
theorem debtor_in {B : Bk} (G : Good B) {k : Nat} (h : k < B.claims.length) : (B.clm k).d ∈ houses B := mem_houses.mpr ⟨(G.clm h).d0, (G.clm h).d1⟩
theorem creditor_in {B : Bk} (G : Good B) {k : Nat} (h : k < B.claims.length) : (B.clm k).c ∈ houses B := mem_houses.mpr ⟨(G.clm h).c0, (G.clm h).c1⟩
structure Clears (B : Bk) (P : List Int) : Prop where
  pay : Pay B P
  fix : behind B (houses B) P = P
def bestOf (B : Bk) : List Int := topIn B (houses B)
def worstOf (B : Bk) : List Int := lowIn B (houses B)
theorem best_clears {B : Bk} (G : Good B) : Clears B (bestOf B) := ⟨top_pay G _, top_fix G _⟩
theorem worst_clears {B : Bk} (G : Good B) : Clears B (worstOf B) := ⟨low_pay G _, low_fix G _⟩
theorem best_ge {B : Bk} (G : Good B) {Q : List Int} (h : Clears B Q) : LeP Q (bestOf B) := top_ge G h.pay (by rw [h.fix]; exact LeP.refl _)
theorem worst_le {B : Bk} (G : Good B) {Q : List Int} (h : Clears B Q) : LeP (worstOf B) Q := low_le G h.pay (by rw [h.fix]; exact LeP.refl _)
theorem best_is {B : Bk} (G : Good B) {Q : List Int} (h : Clears B Q) (hm : ∀ R, Clears B R → LeP R Q) : Q = bestOf B := (best_ge G h).anti (hm _ (best_clears G))
theorem worst_is {B : Bk} (G : Good B) {Q : List Int} (h : Clears B Q) (hm : ∀ R, Clears B R → LeP Q R) : Q = worstOf B := (hm _ (worst_clears G)).anti (worst_le G h)
/-- by a clearing each house pays the least of its means and what it owes -/
theorem clears_paid {B : Bk} (G : Good B) {P : List Int} (h : Clears B P) (x : Int) : paidOut B x P = min (meansOf B x P) (owedIn B x) := by
  have hm := means_nn G h.pay x
  rw [owedIn_eq G, ← coin_sum G hm]
  unfold paidOut
  rw [h.pay.len]
  refine sumIf_congr (fun _ _ => rfl) fun k hk hf => ?_
  have e := of_decide_eq_true hf
  have h1 := g_behind (hs := houses B) (P := P) hk
  rw [h.fix, if_pos (debtor_in G hk), e] at h1
  exact h1
theorem clears_iff {B : Bk} (G : Good B) {P : List Int} (hP : Pay B P) : Clears B P ↔ ∀ k, k < B.claims.length → g P k = coinOf B (B.clm k).d (meansOf B (B.clm k).d P) k := by
  constructor
  · intro h k hk
    have h1 := g_behind (hs := houses B) (P := P) hk
    rw [h.fix, if_pos (debtor_in G hk)] at h1
    exact h1
  · intro h
    refine ⟨hP, ext_g (by rw [behind_len, hP.len]) fun k hk => ?_⟩
    rw [behind_len] at hk
    rw [g_behind hk, if_pos (debtor_in G hk), h k hk]
theorem owedIn_nn {B : Bk} (G : Good B) (x : Int) : 0 ≤ owedIn B x := by
  rw [owedIn_eq G]
  exact owedBy_nn G x ranks9
/-! ### falling -/
theorem top_anti {B : Bk} (G : Good B) {hs hs' : List Int} (hsub : ∀ x ∈ hs, x ∈ hs') : LeP (topIn B hs') (topIn B hs) := by
  refine top_ge G (top_pay G hs') ?_
  have h := behind_anti G (top_pay G hs') hsub (by rw [top_fix G]; exact LeP.refl _)
  rw [top_fix G] at h
  exact h
theorem top_same {B : Bk} (G : Good B) {hs hs' : List Int} (h : ∀ x ∈ houses B, x ∈ hs ↔ x ∈ hs') : topIn B hs = topIn B hs' := by
  have e : ∀ P, behind B hs P = behind B hs' P := fun P => by
    unfold behind
    apply List.map_congr_left
    intro k hk
    have hk2 := List.mem_range.mp hk
    have := h _ (debtor_in G hk2)
    by_cases q : (B.clm k).d ∈ hs
    · rw [if_pos q, if_pos (this.mp q)]
    · rw [if_neg q, if_neg (fun z => q (this.mpr z))]
  have e2 : ∀ n P, led B hs n P = led B hs' n P := fun n => by
    induction n with
    | zero => intro P; rfl
    | succ n ih =>
      intro P
      show behind B hs (led B hs n P) = behind B hs' (led B hs' n P)
      rw [ih P, e]
  exact e2 _ _
/-- x fails: by the best clearing it doesn't pay all that it owes -/
def Fails (B : Bk) (x : Int) : Prop := paidOut B x (bestOf B) < owedIn B x
theorem fails_iff {B : Bk} (G : Good B) (x : Int) : Fails B x ↔ meansOf B x (bestOf B) < owedIn B x := by
  unfold Fails
  rw [clears_paid G (best_clears G)]
  omega
/-- where only failing houses have fallen, and no other one falls: that is the best clearing -/
theorem top_best {B : Bk} (G : Good B) {hs : List Int} (hin : ∀ x ∈ hs, x ∈ houses B) (hstop : ∀ x, x ∈ houses B → x ∉ hs → owedIn B x ≤ meansOf B x (topIn B hs)) : topIn B hs = bestOf B := by
  have hP := top_pay G hs
  refine LeP.anti (top_ge G hP ?_) (top_anti G hin)
  have hfix := top_fix G hs
  refine ⟨by rw [behind_len, hP.len], fun k hk => ?_⟩
  rw [hP.len] at hk
  rw [g_behind hk, if_pos (debtor_in G hk)]
  have h1 := g_behind (hs := hs) (P := topIn B hs) hk
  rw [hfix] at h1
  by_cases e : (B.clm k).d ∈ hs
  · rw [if_pos e] at h1
    omega
  · have h2 := coin_full G hk rfl (hstop _ (debtor_in G hk) e)
    rw [h2]
    exact hP.hi k hk
/-- a house that falls by some that fall fails -/
theorem falls_fails {B : Bk} (G : Good B) {hs : List Int} {x : Int} (hin : ∀ x ∈ hs, x ∈ houses B) (h : meansOf B x (topIn B hs) < owedIn B x) : Fails B x := by
  rw [fails_iff G]
  have h1 := means_mono (B := B) (top_anti G hin) x
  exact Int.lt_of_le_of_lt h1 h
theorem g_app_left {l m : List Int} {i : Nat} (h : i < l.length) : g (l ++ m) i = g l i := by
  apply g_of
  rw [List.getElem?_append_left h, g_get h]
theorem g_app_last {l : List Int} {x : Int} {i : Nat} (h : i = l.length) : g (l ++ [x]) i = x := by
  apply g_of
  rw [h, List.getElem?_append_right (Nat.le_refl _), Nat.sub_self]
  rfl


end Rf
namespace Rf
open PySem PySem.Spec PyProof.Rows L2
/-! ### more coins; sums; failing; waves -/
theorem clm_same {B B' : Bk} (h : B.claims = B'.claims) : B.clm = B'.clm := by
  funext k
  unfold Bk.clm
  rw [h]
theorem ofRank_same {B B' : Bk} (h : B.claims = B'.claims) (x r : Int) : ofRank B x r = ofRank B' x r := by
  unfold ofRank rankUp
  rw [clm_same h, h]
theorem amt_same {B B' : Bk} (h : B.claims = B'.claims) : amt B = amt B' := by
  funext k
  unfold amt
  rw [clm_same h]
theorem pay_same {B B' : Bk} (h : B.claims = B'.claims) (x : Int) : ∀ (rs : List Int) (m : Int), payFrom B x rs m = payFrom B' x rs m
  | [], _ => rfl
  | r :: rs, m => by
    unfold payFrom
    have e : amts B x r = amts B' x r := by
      unfold amts
      rw [ofRank_same h, amt_same h]
    rw [ofRank_same h, e, pay_same h x rs]
theorem coin_same {B B' : Bk} (h : B.claims = B'.claims) (x m : Int) (k : Nat) : coinOf B x m k = coinOf B' x m k := by
  unfold coinOf
  rw [pay_same h]
theorem owed_same {B B' : Bk} (h : B.claims = B'.claims) (x : Int) : owedIn B x = owedIn B' x := by
  unfold owedIn owes owesUp
  rw [clm_same h, amt_same h, h]
theorem allP_same {B B' : Bk} (h : B.claims = B'.claims) : allP B = allP B' := by
  unfold allP
  rw [h]
/-- the same claims, some houses with more coins -/
structure More (B B' : Bk) : Prop where
  cl : B.claims = B'.claims
  len : B.cash.length = B'.cash.length
  le : ∀ i, g B.cash i ≤ g B'.cash i
theorem pay_more {B B' : Bk} (h : B.claims = B'.claims) {P : List Int} (hP : Pay B P) : Pay B' P := by
  refine ⟨by rw [hP.len, h], fun k hk => hP.lo k (by rw [h]; exact hk), fun k hk => ?_⟩
  rw [← amt_same h]
  exact hP.hi k (by rw [h]; exact hk)
theorem means_more {B B' : Bk} (h : More B B') (x : Int) (P : List Int) : meansOf B x P ≤ meansOf B' x P := by
  unfold meansOf
  rw [clm_same h.cl]
  have := h.le x.toNat
  omega
theorem behind_more' {B B' : Bk} (G' : Good B') (G : Good B) (h : More B B') {hs P : List Int} (hP : Pay B P) : LeP (behind B hs P) (behind B' hs P) := by
  refine ⟨by rw [behind_len, behind_len, h.cl], fun k hk => ?_⟩
  rw [behind_len] at hk
  have hk' : k < B'.claims.length := by rw [← h.cl]; exact hk
  rw [g_behind hk, g_behind hk', ← clm_same h.cl]
  by_cases e : (B.clm k).d ∈ hs
  · rw [if_pos e, if_pos e, coin_same h.cl]
    exact coin_mono G' hk' (by rw [← clm_same h.cl]) (means_nn G hP _) (means_more h _ P)
  · rw [if_neg e, if_neg e]
    exact Int.le_refl _
theorem top_more {B B' : Bk} (G : Good B) (G' : Good B') (h : More B B') (hs : List Int) : LeP (topIn B hs) (topIn B' hs) := by
  have hP := top_pay G hs
  refine top_ge G' (pay_more h.cl hP) ?_
  have q := behind_more' G' G h (hs := hs) hP
  rw [top_fix G] at q
  exact q
theorem low_more {B B' : Bk} (G : Good B) (G' : Good B') (h : More B B') (hs : List Int) : LeP (lowIn B hs) (lowIn B' hs) := by
  have hP := pay_more h.cl.symm (low_pay G' hs)
  refine low_le G hP ?_
  have q := behind_more' G' G h (hs := hs) hP
  rw [low_fix G'] at q
  exact q
theorem houses_same {B B' : Bk} (h : B.cash.length = B'.cash.length) : houses B = houses B' := by
  unfold houses
  rw [h]
theorem best_more {B B' : Bk} (G : Good B) (G' : Good B') (h : More B B') : LeP (bestOf B) (bestOf B') := by
  unfold bestOf
  rw [← houses_same h.len]
  exact top_more G G' h _
theorem worst_more {B B' : Bk} (G : Good B) (G' : Good B') (h : More B B') : LeP (worstOf B) (worstOf B') := by
  unfold worstOf
  rw [← houses_same h.len]
  exact low_more G G' h _
theorem fails_more {B B' : Bk} (G : Good B) (G' : Good B') (h : More B B') {x : Int} (hf : Fails B' x) : Fails B x := by
  rw [fails_iff G'] at hf
  rw [fails_iff G]
  have h1 := means_more h x (bestOf B)
  have h2 := means_mono (B := B') (best_more G G' h) x
  rw [owed_same h.cl]
  omega
/-! sums over houses -/
def sumTo (v : Nat → Int) (n : Nat) : Int := sumIf (fun _ => true) v n
theorem sumTo_list (v : Nat → Int) (n : Nat) : ((List.range n).map v).sum = sumTo v n := by
  unfold sumTo
  rw [← sumIf_list]
  congr 2
  exact (List.filter_eq_self.mpr fun _ _ => rfl).symm
theorem sumTo_succ (v : Nat → Int) (n : Nat) : sumTo v (n + 1) = sumTo v n + v n := by
  unfold sumTo
  show sumIf _ v n + (if true = true then v n else 0) = _
  rw [if_pos rfl]
theorem sumTo_one (c v : Int) : ∀ n : Nat, sumTo (fun x => if c = (x : Int) then v else 0) n = if 0 ≤ c ∧ c < n then v else 0
  | 0 => by
    rw [if_neg (by omega)]
    rfl
  | n + 1 => by
    rw [sumTo_succ, sumTo_one c v n]
    by_cases e : c = (n : Int)
    · rw [if_pos e, if_neg (by omega), if_pos (by omega)]
      omega
    · rw [if_neg e]
      by_cases q : 0 ≤ c ∧ c < n
      · rw [if_pos q, if_pos (by omega)]
        omega
      · rw [if_neg q, if_neg (by omega)]
        rfl
theorem sumTo_add (v w : Nat → Int) (n : Nat) : sumTo (fun x => v x + w x) n = sumTo v n + sumTo w n := sumIf_add
theorem sumTo_congr {v w : Nat → Int} {n : Nat} (h : ∀ k, k < n → v k = w k) : sumTo v n = sumTo w n := sumIf_congr (fun _ _ => rfl) fun k hk _ => h k hk
/-- what goes to the houses is all -/
theorem sumTo_split {f : Nat → Int} {v : Nat → Int} {n : Nat} : ∀ {m : Nat}, (∀ k, k < m → 0 ≤ f k ∧ f k < n) → sumTo (fun x => sumIf (fun k => decide (f k = (x : Int))) v m) n = sumTo v m
  | 0, _ => by
    have : sumTo (fun x : Nat => sumIf (fun k => decide (f k = (x : Int))) v 0) n = sumTo (fun _ => 0) n := sumTo_congr fun _ _ => rfl
    rw [this]
    show sumTo (fun _ => 0) n = 0
    induction n with
    | zero => rfl
    | succ n ih => rw [sumTo_succ, ih (fun k hk => absurd hk (Nat.not_lt_zero _)) (sumTo_congr fun _ _ => rfl)]; rfl
  | m + 1, h => by
    have ih := sumTo_split (f := f) (v := v) (n := n) (m := m) fun k hk => h k (by omega)
    have e : sumTo (fun x => sumIf (fun k => decide (f k = (x : Int))) v (m + 1)) n = sumTo (fun x => sumIf (fun k => decide (f k = (x : Int))) v m + (if f m = (x : Int) then v m else 0)) n := sumTo_congr fun x _ => by
      show sumIf _ v m + (if decide (f m = (x : Int)) = true then v m else 0) = _
      by_cases q : f m = (x : Int)
      · rw [if_pos q, if_pos (decide_eq_true q)]
      · rw [if_neg q, if_neg (by rw [decide_eq_false q]; decide)]
    rw [e, sumTo_add, ih, sumTo_one, if_pos (h m (Nat.lt_succ_self m)), sumTo_succ]
theorem sum_g (l : List Int) : sumTo (g l) l.length = l.sum := by
  rw [← sumTo_list]
  congr 1
  apply List.ext_getElem?
  intro i
  rw [List.getElem?_map]
  by_cases h : i < l.length
  · rw [List.getElem?_range h, g_get h]
    rfl
  · rw [List.getElem?_eq_none (by rw [List.length_range]; omega), List.getElem?_eq_none (by omega)]
    rfl
def leftOf (B : Bk) (P : List Int) : List Int := (List.range B.cash.length).map fun x : Nat => meansOf B (x : Int) P - paidOut B (x : Int) P
theorem leftOf_len (B : Bk) (P : List Int) : (leftOf B P).length = B.cash.length := by
  unfold leftOf
  rw [List.length_map, List.length_range]
/-- no coin comes or goes -/
theorem left_sum {B : Bk} (G : Good B) {P : List Int} (hP : Pay B P) : (leftOf B P).sum = B.cash.sum := by
  have h1 : sumTo (fun x => sumIf (fun k => decide ((B.clm k).c = (x : Int))) (g P) P.length) B.cash.length = sumTo (g P) P.length := sumTo_split fun k hk => by
    have q := G.clm (hP.len ▸ hk)
    exact ⟨q.c0, q.c1⟩
  have h2 : sumTo (fun x => sumIf (fun k => decide ((B.clm k).d = (x : Int))) (g P) P.length) B.cash.length = sumTo (g P) P.length := sumTo_split fun k hk => by
    have q := G.clm (hP.len ▸ hk)
    exact ⟨q.d0, q.d1⟩
  have h3 := sum_g B.cash
  have e : sumTo (fun x => (meansOf B (x : Int) P - paidOut B (x : Int) P) + sumIf (fun k => decide ((B.clm k).d = (x : Int))) (g P) P.length) B.cash.length = sumTo (fun x => g B.cash x + sumIf (fun k => decide ((B.clm k).c = (x : Int))) (g P) P.length) B.cash.length := sumTo_congr fun x _ => by
    unfold meansOf paidOut
    rw [Int.toNat_natCast]
    omega
  rw [sumTo_add, sumTo_add] at e
  unfold leftOf
  rw [sumTo_list]
  omega
theorem left_nn {B : Bk} (G : Good B) {P : List Int} (h : Clears B P) : ∀ x ∈ leftOf B P, 0 ≤ x := fun y hy => by
  obtain ⟨x, _, rfl⟩ := List.mem_map.mp hy
  have q := clears_paid G h (x : Int)
  omega
/-! failing -/
def failingOf (B : Bk) : List Int := (houses B).filter fun x => decide (paidOut B x (bestOf B) < owedIn B x)
theorem mem_failing {B : Bk} {x : Int} : x ∈ failingOf B ↔ x ∈ houses B ∧ Fails B x := by
  unfold failingOf Fails
  rw [List.mem_filter, decide_eq_true_iff]
theorem houses_sorted (B : Bk) : (houses B).Pairwise (· < ·) := by
  unfold houses
  rw [List.pairwise_map]
  exact List.pairwise_lt_range.imp fun h => by simpa using h
theorem failing_sorted (B : Bk) : (failingOf B).Pairwise (· < ·) := (houses_sorted B).sublist List.filter_sublist
theorem owed_sum {B : Bk} (G : Good B) (x : Int) : owedIn B x = sumIf (fun k => decide ((B.clm k).d = x)) (amt B) B.claims.length := by
  rw [owedIn_eq G, owedBy_all G]
/-- nobody fails: all is paid -/
theorem none_fails {B : Bk} (G : Good B) : failingOf B = [] ↔ bestOf B = allP B := by
  have hP := (best_clears G).pay
  constructor
  · intro h
    refine ext_g (by rw [hP.len, allP_len]) fun k hk => ?_
    rw [hP.len] at hk
    rw [g_allP hk]
    have hn : ¬ Fails B (B.clm k).d := fun z => by
      have : (B.clm k).d ∈ failingOf B := mem_failing.mpr ⟨debtor_in G hk, z⟩
      rw [h] at this
      exact List.not_mem_nil this
    unfold Fails at hn
    rw [owed_sum G] at hn
    unfold paidOut at hn
    rw [hP.len] at hn
    exact sumIf_eq_of (f := fun j => decide ((B.clm j).d = (B.clm k).d)) (v := g (bestOf B)) (w := amt B) (fun j hj _ => hP.hi j hj) (by omega) k hk (decide_eq_true rfl)
  · intro h
    refine List.eq_nil_iff_forall_not_mem.mpr fun x hx => ?_
    have q := (mem_failing.mp hx).2
    unfold Fails paidOut at q
    rw [h, owed_sum G, allP_len] at q
    have e : sumIf (fun k => decide ((B.clm k).d = x)) (g (allP B)) B.claims.length = sumIf (fun k => decide ((B.clm k).d = x)) (amt B) B.claims.length := sumIf_congr (fun _ _ => rfl) fun k hk _ => g_allP hk
    omega
/-! waves -/
def waveOf (B : Bk) (F : List Int) : List Int := (houses B).filter fun x => decide (x ∉ F) && decide (meansOf B x (topIn B F) < owedIn B x)
theorem mem_wave {B : Bk} {F : List Int} {x : Int} : x ∈ waveOf B F ↔ x ∈ houses B ∧ x ∉ F ∧ meansOf B x (topIn B F) < owedIn B x := by
  unfold waveOf
  rw [List.mem_filter, Bool.and_eq_true, decide_eq_true_iff, decide_eq_true_iff]
def wavesFrom (B : Bk) : Nat → List Int → List (List Int)
  | 0, _ => []
  | f + 1, F => if waveOf B F = [] then [] else waveOf B F :: wavesFrom B f (F ++ waveOf B F)
def wavesOf (B : Bk) : List (List Int) := wavesFrom B (B.cash.length + 1) []
/-- what has fallen so far -/
structure Fallen (B : Bk) (F : List Int) : Prop where
  nd : F.Nodup
  inn : ∀ x ∈ F, x ∈ houses B
  fails : ∀ x ∈ F, Fails B x
theorem fallen_nil (B : Bk) : Fallen B [] := ⟨List.nodup_nil, (fun _ h => nomatch h), (fun _ h => nomatch h)⟩
theorem houses_nodup (B : Bk) : (houses B).Nodup := (houses_sorted B).imp fun h => by omega
theorem wave_sorted (B : Bk) (F : List Int) : (waveOf B F).Pairwise (· < ·) := (houses_sorted B).sublist List.filter_sublist
theorem fallen_more {B : Bk} (G : Good B) {F : List Int} (h : Fallen B F) : Fallen B (F ++ waveOf B F) := by
  refine ⟨List.nodup_append.mpr ⟨h.nd, (wave_sorted B F).imp fun h => by omega, fun a ha b hb e => ?_⟩, fun x hx => ?_, fun x hx => ?_⟩
  · subst e
    exact (mem_wave.mp hb).2.1 ha
  · rcases List.mem_append.mp hx with q | q
    · exact h.inn x q
    · exact (mem_wave.mp q).1
  · rcases List.mem_append.mp hx with q | q
    · exact h.fails x q
    · exact falls_fails G h.inn (mem_wave.mp q).2.2
theorem nodup_sub_len {l m : List Int} (hl : l.Nodup) (hm : m.Nodup) (h : ∀ x ∈ l, x ∈ m) : l.length ≤ m.length := by
  have hp : l.Perm (m.filter fun x => decide (x ∈ l)) := (List.perm_ext_iff_of_nodup hl (hm.filter _)).mpr fun x => by
    rw [List.mem_filter, decide_eq_true_iff]
    exact ⟨fun q => ⟨h x q, q⟩, fun q => q.2⟩
  rw [hp.length_eq]
  exact List.length_filter_le _ _
theorem fallen_len {B : Bk} {F : List Int} (h : Fallen B F) : F.length ≤ B.cash.length := by
  have q := nodup_sub_len h.nd (houses_nodup B) h.inn
  unfold houses at q
  rw [List.length_map, List.length_range] at q
  exact q
/-- where no other one falls, all that fail have fallen -/
theorem fallen_all {B : Bk} (G : Good B) {F : List Int} (h : Fallen B F) (hw : waveOf B F = []) : ∀ x, x ∈ F ↔ x ∈ failingOf B := by
  have hstop : ∀ x, x ∈ houses B → x ∉ F → owedIn B x ≤ meansOf B x (topIn B F) := fun x hx hn => Int.not_lt.mp fun z => by
    have : x ∈ waveOf B F := mem_wave.mpr ⟨hx, hn, z⟩
    rw [hw] at this
    exact List.not_mem_nil this
  have hb := top_best G h.inn hstop
  intro x
  rw [mem_failing]
  constructor
  · intro hx
    exact ⟨h.inn x hx, h.fails x hx⟩
  · rintro ⟨hx, hf⟩
    refine Classical.byContradiction fun hn => ?_
    have q := hstop x hx hn
    rw [hb] at q
    have := (fails_iff G x).mp hf
    omega
theorem waves_all {B : Bk} (G : Good B) : ∀ (f : Nat) {F : List Int}, Fallen B F → B.cash.length < F.length + f → ∀ x, x ∈ F ++ (wavesFrom B f F).flatten ↔ x ∈ failingOf B
  | 0, F, h, hl => absurd (fallen_len h) (by omega)
  | f + 1, F, h, hl => by
    unfold wavesFrom
    by_cases e : waveOf B F = []
    · rw [if_pos e, List.flatten_nil, List.append_nil]
      exact fallen_all G h e
    · rw [if_neg e, List.flatten_cons, ← List.append_assoc]
      refine waves_all G f (fallen_more G h) ?_
      have : 0 < (waveOf B F).length := List.length_pos_iff.mpr e
      rw [List.length_append]
      omega
/-! losses and nets -/
def lossAt (B : Bk) (i : Nat) (x : Nat) : Int := sumIf (fun k => decide ((B.clm k).c = (x : Int))) (fun k => amt B k - g (bestOf B) k) i
def lossesOf (B : Bk) : List Int := (List.range B.cash.length).map (lossAt B B.claims.length)
def netAt (B : Bk) (i : Nat) (x : Nat) : Int := g B.cash x + sumIf (fun k => decide ((B.clm k).c = (x : Int))) (amt B) i - sumIf (fun k => decide ((B.clm k).d = (x : Int))) (amt B) i
theorem rangeMap_set {n j : Nat} {v : Nat → Int} {y : Int} (hj : j < n) : ((List.range n).map v).set j y = (List.range n).map fun x => if x = j then y else v x := by
  refine ext_g (by simp) fun i hi => ?_
  have hi2 : i < n := by simpa using hi
  rw [g_rangeMap hi2]
  by_cases e : j = i
  · subst e
    rw [g_set_same (by simpa using hi2), if_pos rfl]
  · rw [g_set_ne e, g_rangeMap hi2, if_neg (fun z => e z.symm)]
theorem net_all {B : Bk} : (List.range B.cash.length).map (netAt B B.claims.length) = leftOf B (allP B) := by
  unfold leftOf
  apply List.map_congr_left
  intro x _
  unfold netAt meansOf paidOut
  rw [Int.toNat_natCast, allP_len]
  have e1 : sumIf (fun k => decide ((B.clm k).c = (x : Int))) (g (allP B)) B.claims.length = sumIf (fun k => decide ((B.clm k).c = (x : Int))) (amt B) B.claims.length := sumIf_congr (fun _ _ => rfl) fun k hk _ => g_allP hk
  have e2 : sumIf (fun k => decide ((B.clm k).d = (x : Int))) (g (allP B)) B.claims.length = sumIf (fun k => decide ((B.clm k).d = (x : Int))) (amt B) B.claims.length := sumIf_congr (fun _ _ => rfl) fun k hk _ => g_allP hk
  rw [e1, e2]
theorem loss_sum {B : Bk} (G : Good B) : (lossesOf B).sum = sumTo (fun k => amt B k - g (bestOf B) k) B.claims.length := by
  unfold lossesOf
  rw [sumTo_list]
  exact sumTo_split fun k hk => ⟨(G.clm hk).c0, (G.clm hk).c1⟩
theorem loss_none {B : Bk} (G : Good B) : failingOf B = [] ↔ (lossesOf B).sum = 0 := by
  rw [none_fails G, loss_sum G]
  have hP := (best_clears G).pay
  constructor
  · intro h
    have e : sumTo (fun k => amt B k - g (bestOf B) k) B.claims.length = sumTo (fun _ => 0) B.claims.length := sumTo_congr fun k hk => by rw [h, g_allP hk]; omega
    rw [e]
    generalize B.claims.length = n
    induction n with
    | zero => rfl
    | succ n ih => rw [sumTo_succ, ih]; rfl
  · intro h
    refine ext_g (by rw [hP.len, allP_len]) fun k hk => ?_
    rw [hP.len] at hk
    rw [g_allP hk]
    have q := sumIf_eq_of (f := fun _ => true) (v := fun _ => 0) (w := fun k => amt B k - g (bestOf B) k) (n := B.claims.length) (fun k hk _ => by have := hP.hi k hk; show (0 : Int) ≤ amt B k - g (bestOf B) k; omega) (by
      have z : sumIf (fun _ => true) (fun _ => (0 : Int)) B.claims.length = 0 := by
        generalize B.claims.length = n
        induction n with
        | zero => rfl
        | succ n ih =>
          show sumIf _ _ n + (if true = true then (0 : Int) else 0) = 0
          rw [ih]
          rfl
      rw [z]
      have h2 : sumIf (fun _ => true) (fun k => amt B k - g (bestOf B) k) B.claims.length = 0 := h
      omega) k hk rfl
    have q2 : (0 : Int) = amt B k - g (bestOf B) k := q
    omega
theorem net_fails {B : Bk} (G : Good B) {x : Nat} (hx : x < B.cash.length) (h : g (leftOf B (allP B)) x < 0) : (x : Int) ∈ failingOf B := by
  refine mem_failing.mpr ⟨mem_houses.mpr ⟨by omega, by omega⟩, (fails_iff G _).mpr ?_⟩
  have e : g (leftOf B (allP B)) x = meansOf B (x : Int) (allP B) - paidOut B (x : Int) (allP B) := g_rangeMap hx
  rw [e] at h
  have h1 := means_mono (B := B) (le_allP (best_clears G).pay) (x : Int)
  have h2 : paidOut B (x : Int) (allP B) = owedIn B (x : Int) := by
    rw [owed_sum G]
    unfold paidOut
    rw [allP_len]
    exact sumIf_congr (fun _ _ => rfl) fun k hk _ => g_allP hk
  omega
theorem loss_step {B : Bk} (G : Good B) {i j : Nat} (hi : i < B.claims.length) (hj : (B.clm i).c = (j : Int)) (hn : j < B.cash.length) :
    ((List.range B.cash.length).map (lossAt B i)).set j (lossAt B i j + (B.clm i).a - g (bestOf B) i) = (List.range B.cash.length).map (lossAt B (i + 1)) := by
  rw [rangeMap_set hn]
  apply List.map_congr_left
  intro x _
  show _ = lossAt B i x + (if decide ((B.clm i).c = (x : Int)) = true then amt B i - g (bestOf B) i else 0)
  by_cases e : x = j
  · subst e
    rw [if_pos rfl, if_pos (decide_eq_true hj)]
    unfold amt
    omega
  · rw [if_neg e, if_neg (by rw [decide_eq_false (fun z => e (by omega))]; decide)]
    omega
theorem net_step {B : Bk} (G : Good B) {i j l : Nat} (hi : i < B.claims.length) (hj : (B.clm i).c = (j : Int)) (hl : (B.clm i).d = (l : Int)) (hn : j < B.cash.length) (hm : l < B.cash.length) :
    (((List.range B.cash.length).map (netAt B i)).set j (netAt B i j + (B.clm i).a)).set l (netAt B i l - (B.clm i).a) = (List.range B.cash.length).map (netAt B (i + 1)) := by
  have ne : l ≠ j := fun z => (G.clm hi).ne (by rw [hj, hl, z])
  rw [rangeMap_set hn, rangeMap_set hm]
  apply List.map_congr_left
  intro x _
  show _ = g B.cash x + (sumIf _ (amt B) i + (if decide ((B.clm i).c = (x : Int)) = true then amt B i else 0)) - (sumIf _ (amt B) i + (if decide ((B.clm i).d = (x : Int)) = true then amt B i else 0))
  have ea : amt B i = (B.clm i).a := rfl
  by_cases e1 : x = l
  · subst e1
    rw [if_pos rfl, if_neg (by rw [decide_eq_false (fun z => ne (by omega))]; decide), if_pos (decide_eq_true hl)]
    unfold netAt
    omega
  · rw [if_neg e1, if_neg (c := decide ((B.clm i).d = (x : Int)) = true) (by rw [decide_eq_false (fun z => e1 (by omega))]; decide)]
    by_cases e2 : x = j
    · subst e2
      rw [if_pos rfl, if_pos (decide_eq_true hj)]
      unfold netAt
      omega
    · rw [if_neg e2, if_neg (by rw [decide_eq_false (fun z => e2 (by omega))]; decide)]
      unfold netAt
      omega
theorem range_get {n j : Nat} {v : Nat → Int} (hj : j < n) : g ((List.range n).map v) j = v j := g_rangeMap hj


end Rf
namespace Rf
open PySem PySem.Spec PyProof.Rows L2
/-! ### settled: paying house by house until nothing changes -/
def fixOf (B : Bk) (hs P : List Int) : List Int := led B hs (allP B).sum.toNat P
/-- further down (or up) -/
def Tw : Bool → List Int → List Int → Prop
  | true, P, Q => LeP P Q
  | false, P, Q => LeP Q P
theorem Tw.refl : ∀ (d : Bool) (P : List Int), Tw d P P
  | true, P => LeP.refl P
  | false, P => LeP.refl P
theorem Tw.trans : ∀ {d : Bool} {P Q R : List Int}, Tw d P Q → Tw d Q R → Tw d P R
  | true, _, _, _, a, b => LeP.trans a b
  | false, _, _, _, a, b => LeP.trans b a
theorem Tw.anti : ∀ {d : Bool} {P Q : List Int}, Tw d P Q → Tw d Q P → P = Q
  | true, _, _, a, b => LeP.anti a b
  | false, _, _, a, b => LeP.anti b a
theorem Tw.of : ∀ {d : Bool} {P Q : List Int}, P.length = Q.length → (∀ k, k < P.length → (d = true → g P k ≤ g Q k) ∧ (d = false → g Q k ≤ g P k)) → Tw d P Q
  | true, _, _, hl, h => ⟨hl, fun k hk => (h k hk).1 rfl⟩
  | false, _, _, hl, h => ⟨hl.symm, fun k hk => (h k (hl ▸ hk)).2 rfl⟩
theorem Tw.at : ∀ {d : Bool} {P Q : List Int}, Tw d P Q → ∀ k, k < P.length → (d = true → g P k ≤ g Q k) ∧ (d = false → g Q k ≤ g P k)
  | true, _, _, a, k, hk => ⟨fun _ => a.2 k hk, (fun z => nomatch z)⟩
  | false, _, _, a, k, hk => ⟨(fun z => nomatch z), fun _ => a.2 k (a.1 ▸ hk)⟩
theorem Tw.len : ∀ {d : Bool} {P Q : List Int}, Tw d P Q → P.length = Q.length
  | true, _, _, a => a.1
  | false, _, _, a => a.1.symm
theorem Tw.mono {B : Bk} (G : Good B) (hs : List Int) : ∀ {d : Bool} {P Q : List Int}, Pay B P → Pay B Q → Tw d P Q → Tw d (behind B hs P) (behind B hs Q)
  | true, _, _, hP, _, h => behind_mono G hP h
  | false, _, _, _, hQ, h => behind_mono G hQ h
/-- how far it can go yet -/
def far (B : Bk) : Bool → List Int → Nat
  | true, P => P.sum.toNat
  | false, P => ((allP B).sum - P.sum).toNat
theorem far_lt {B : Bk} : ∀ {d : Bool} {P Q : List Int}, Pay B P → Pay B Q → Tw d P Q → P ≠ Q → far B d P < far B d Q
  | true, P, Q, hP, hQ, h, hn => by
    have h1 := LeP.lt h hn
    have h2 := hP.sum_nn
    show P.sum.toNat < Q.sum.toNat
    omega
  | false, P, Q, hP, hQ, h, hn => by
    have h1 := LeP.lt h (Ne.symm hn)
    have h2 := hP.sum_le
    have h3 := hP.sum_le
    show ((allP B).sum - P.sum).toNat < ((allP B).sum - Q.sum).toNat
    omega
theorem far_le {B : Bk} {d : Bool} {P Q : List Int} (hP : Pay B P) (hQ : Pay B Q) (h : Tw d P Q) : far B d P ≤ far B d Q := by
  by_cases e : P = Q
  · rw [e]; exact Nat.le_refl _
  · exact Nat.le_of_lt (far_lt hP hQ h e)
theorem fix_pay {B : Bk} (G : Good B) {hs P : List Int} (hP : Pay B P) : Pay B (fixOf B hs P) := led_pay G hP _
theorem fix_fixed {B : Bk} (G : Good B) {hs P : List Int} (hP : Pay B P) : ∀ {d : Bool}, Tw d (behind B hs P) P → behind B hs (fixOf B hs P) = fixOf B hs P
  | true, h => by
    have h1 := down_fix G hP h
    have h2 : P.sum.toNat ≤ (allP B).sum.toNat := by have := hP.sum_le; omega
    unfold fixOf
    rw [led_stays h1 h2]
    exact h1
  | false, h => up_fix G hP h (by have := hP.sum_nn; have := (allP_pay G).sum_nn; omega)
theorem g_one {B : Bk} {x : Int} {P : List Int} {k : Nat} (h : k < B.claims.length) : g (behind B [x] P) k = if (B.clm k).d = x then coinOf B x (meansOf B x P) k else g P k := by
  rw [g_behind h]
  by_cases e : (B.clm k).d = x
  · rw [if_pos (List.mem_singleton.mpr e), if_pos e, e]
  · rw [if_neg (fun z => e (List.mem_singleton.mp z)), if_neg e]
def Stable (B : Bk) (x : Int) (P : List Int) : Prop := ∀ k, k < B.claims.length → (B.clm k).d = x → g P k = coinOf B x (meansOf B x P) k
theorem stable_all {B : Bk} {hs P : List Int} (hl : P.length = B.claims.length) (h : ∀ x ∈ hs, Stable B x P) : behind B hs P = P := by
  refine ext_g (by rw [behind_len, hl]) fun k hk => ?_
  rw [behind_len] at hk
  rw [g_behind hk]
  by_cases e : (B.clm k).d ∈ hs
  · rw [if_pos e]
    exact (h _ e k hk rfl).symm
  · rw [if_neg e]
theorem one_fixed {B : Bk} {hs P : List Int} {x : Int} (h : behind B hs P = P) (hx : x ∈ hs) : behind B [x] P = P := by
  have hl : P.length = B.claims.length := by rw [← h, behind_len]
  refine ext_g (by rw [behind_len, hl]) fun k hk => ?_
  rw [behind_len] at hk
  have q : g (behind B hs P) k = g P k := by rw [h]
  rw [g_behind hk] at q
  rw [g_one hk]
  by_cases e : (B.clm k).d = x
  · subst e
    rw [if_pos hx] at q
    rw [if_pos rfl]
    exact q
  · rw [if_neg e]
/-- what one house's paying keeps -/
structure Chaos (B : Bk) (hs P0 P : List Int) (d : Bool) : Prop where
  pay : Pay B P
  fwd : Tw d (behind B hs P) P
  far : Tw d (fixOf B hs P0) P
  near : Tw d P P0
theorem one_between {B : Bk} {hs P : List Int} {d : Bool} {x : Int} (h : Tw d (behind B hs P) P) (hx : x ∈ hs) : Tw d (behind B hs P) (behind B [x] P) ∧ Tw d (behind B [x] P) P := by
  have hl : P.length = B.claims.length := by rw [← h.len, behind_len]
  constructor
  · refine Tw.of (by rw [behind_len, behind_len]) fun k hk => ?_
    have q := h.at k hk
    rw [behind_len] at hk
    rw [g_one hk]
    by_cases e : (B.clm k).d = x
    · subst e
      rw [if_pos rfl, g_behind hk, if_pos hx]
      exact ⟨fun _ => Int.le_refl _, fun _ => Int.le_refl _⟩
    · rw [if_neg e]
      exact q
  · refine Tw.of (by rw [behind_len, hl]) fun k hk => ?_
    have q := h.at k (by rw [behind_len]; rw [behind_len] at hk; exact hk)
    rw [behind_len] at hk
    rw [g_one hk]
    by_cases e : (B.clm k).d = x
    · subst e
      rw [g_behind hk, if_pos hx] at q
      rw [if_pos rfl]
      exact q
    · rw [if_neg e]
      exact ⟨fun _ => Int.le_refl _, fun _ => Int.le_refl _⟩
theorem Chaos.step {B : Bk} (G : Good B) {hs P0 P : List Int} {d : Bool} (C : Chaos B hs P0 P d) (h0 : Pay B P0) (hf : Tw d (behind B hs P0) P0) {x : Int} (hx : x ∈ hs) : Chaos B hs P0 (behind B [x] P) d := by
  obtain ⟨b1, b2⟩ := one_between C.fwd hx
  have hp := behind_pay G (hs := [x]) C.pay
  refine ⟨hp, ?_, ?_, b2.trans C.near⟩
  · exact (Tw.mono G hs hp C.pay b2).trans b1
  · have q := Tw.mono G [x] (fix_pay G h0) C.pay C.far
    rw [one_fixed (fix_fixed G h0 hf) hx] at q
    exact q
theorem Chaos.start {B : Bk} (G : Good B) {hs P : List Int} {d : Bool} (h0 : Pay B P) (hf : Tw d (behind B hs P) P) : Chaos B hs P P d := by
  refine ⟨h0, hf, ?_, Tw.refl _ _⟩
  cases d with
  | true =>
    have : ∀ n, LeP (led B hs n P) P := fun n => by
      induction n with
      | zero => exact LeP.refl _
      | succ n ih => exact (led_down G h0 hf n).trans ih
    exact this _
  | false =>
    have : ∀ n, LeP P (led B hs n P) := fun n => by
      induction n with
      | zero => exact LeP.refl _
      | succ n ih => exact ih.trans (led_up G h0 hf n)
    exact this _
theorem Chaos.done {B : Bk} (G : Good B) {hs P0 P : List Int} {d : Bool} (C : Chaos B hs P0 P d) (h0 : Pay B P0) (h : ∀ x ∈ hs, Stable B x P) : P = fixOf B hs P0 := by
  have e := stable_all C.pay.len h
  cases d with
  | true => exact LeP.anti (led_ge G C.pay (by rw [e]; exact LeP.refl _) C.near _) C.far
  | false => exact LeP.anti C.far (led_le G h0 (by rw [e]; exact LeP.refl _) C.near _)
theorem sumIf_same {f : Nat → Bool} {v w : Nat → Int} {n : Nat} (h : ∀ k, k < n → f k = true → v k = w k) : sumIf f v n = sumIf f w n := sumIf_congr (fun _ _ => rfl) h
theorem means_same {B : Bk} {x : Int} {P Q : List Int} (hl : P.length = Q.length) (h : ∀ k, k < P.length → (B.clm k).c = x → g P k = g Q k) : meansOf B x P = meansOf B x Q := by
  unfold meansOf
  rw [← hl, sumIf_same fun k hk hf => h k hk (of_decide_eq_true hf)]
theorem stable_self {B : Bk} (G : Good B) {P : List Int} (hl : P.length = B.claims.length) (x : Int) : Stable B x (behind B [x] P) := fun k hk hd => by
  have e : meansOf B x (behind B [x] P) = meansOf B x P := means_same (by rw [behind_len, hl]) fun j hj hc => by
    rw [behind_len] at hj
    rw [g_one hj, if_neg (fun z => (G.clm hj).ne (by rw [z, hc]))]
  rw [e, g_one hk, if_pos hd]
theorem stable_other {B : Bk} {P : List Int} (hl : P.length = B.claims.length) {x y : Int} (hy : y ≠ x) (h : Stable B y P) (hc : ∀ k, k < B.claims.length → (B.clm k).c = y → g (behind B [x] P) k = g P k) : Stable B y (behind B [x] P) := fun k hk hd => by
  have e : meansOf B y (behind B [x] P) = meansOf B y P := means_same (by rw [behind_len, hl]) fun j hj hcj => hc j (by rw [behind_len] at hj; exact hj) hcj
  rw [e, g_one hk, if_neg (fun z => hy (hd.symm.trans z))]
  exact h k hk hd
/-! claims set one by one -/
def setL : List (Nat × Int) → List Int → List Int
  | [], P => P
  | (k, c) :: L, P => setL L (P.set k c)
theorem setL_len : ∀ (L : List (Nat × Int)) (P : List Int), (setL L P).length = P.length
  | [], _ => rfl
  | (k, c) :: L, P => by
    show (setL L (P.set k c)).length = _
    rw [setL_len L, List.length_set]
theorem setL_app : ∀ (L M : List (Nat × Int)) (P : List Int), setL (L ++ M) P = setL M (setL L P)
  | [], _, _ => rfl
  | (k, c) :: L, M, P => setL_app L M (P.set k c)
theorem setL_take {L : List (Nat × Int)} {j k : Nat} {c : Int} (h : L[j]? = some (k, c)) (P : List Int) : setL (L.take (j + 1)) P = (setL (L.take j) P).set k c := by
  rw [List.take_add_one, h, setL_app]
  rfl
theorem g_setL_out : ∀ {L : List (Nat × Int)} {P : List Int} {k : Nat}, k ∉ L.map (·.1) → g (setL L P) k = g P k
  | [], _, _, _ => rfl
  | (i, c) :: L, P, k, h => by
    rw [List.map_cons, List.mem_cons, not_or] at h
    show g (setL L (P.set i c)) k = _
    rw [g_setL_out h.2, g_set_ne (fun z => h.1 z.symm)]
theorem g_setL_in : ∀ {L : List (Nat × Int)} {P : List Int} {k : Nat} {c : Int}, (L.map (·.1)).Nodup → (k, c) ∈ L → k < P.length → g (setL L P) k = c
  | [], _, _, _, _, h, _ => nomatch h
  | (i, e) :: L, P, k, c, hn, h, hk => by
    rw [List.map_cons, List.nodup_cons] at hn
    show g (setL L (P.set i e)) k = c
    rcases List.mem_cons.mp h with q | q
    · cases q
      rw [g_setL_out hn.1, g_set_same hk]
    · exact g_setL_in hn.2 q (by rw [List.length_set]; exact hk)
theorem setL_pay {B : Bk} (G : Good B) {x : Int} {P : List Int} (hl : P.length = B.claims.length) : setL (payFrom B x ranks9 (meansOf B x P)) P = behind B [x] P := by
  refine ext_g (by rw [setL_len, behind_len, hl]) fun k hk => ?_
  rw [setL_len, hl] at hk
  rw [g_one hk]
  by_cases e : (B.clm k).d = x
  · rw [if_pos e]
    exact g_setL_in (pay_nodup B x _) (coin_mem G hk e) (by rw [hl]; exact hk)
  · rw [if_neg e]
    refine g_setL_out fun z => e ?_
    obtain ⟨y, hy, rfl⟩ := List.mem_map.mp z
    rw [← mem_payList G] at hy
    unfold payList at hy
    obtain ⟨j, hj, rfl⟩ := List.mem_map.mp hy
    exact (mem_owesUp.mp hj).2
/-- the creditors of the claims that changed -/
def addK (T : List Int) (y : Int) : List Int := if y ∈ T then T else T ++ [y]
def touch (B : Bk) (P : List Int) : List (Nat × Int) → List Int → List Int
  | [], T => T
  | (k, c) :: L, T => touch B P L (if c = g P k then T else addK T (B.clm k).c)
theorem touch_app {B : Bk} {P : List Int} : ∀ (L M : List (Nat × Int)) (T : List Int), touch B P (L ++ M) T = touch B P M (touch B P L T)
  | [], _, _ => rfl
  | (k, c) :: L, M, T => touch_app L M _
theorem touch_take {B : Bk} {P : List Int} {L : List (Nat × Int)} {j k : Nat} {c : Int} (h : L[j]? = some (k, c)) (T : List Int) : touch B P (L.take (j + 1)) T = if c = g P k then touch B P (L.take j) T else addK (touch B P (L.take j) T) (B.clm k).c := by
  rw [List.take_add_one, h, touch_app]
  rfl
theorem addK_sub {T : List Int} {y z : Int} (h : z ∈ T) : z ∈ addK T y := by
  unfold addK
  split
  · exact h
  · exact List.mem_append_left _ h
theorem addK_in (T : List Int) (y : Int) : y ∈ addK T y := by
  unfold addK
  split
  · assumption
  · exact List.mem_append_right _ (List.mem_singleton.mpr rfl)
theorem mem_addK {T : List Int} {y z : Int} (h : z ∈ addK T y) : z ∈ T ∨ z = y := by
  unfold addK at h
  split at h
  · exact .inl h
  · rcases List.mem_append.mp h with q | q
    · exact .inl q
    · exact .inr (List.mem_singleton.mp q)
theorem addK_nodup {T : List Int} {y : Int} (h : T.Nodup) : (addK T y).Nodup := by
  unfold addK
  split
  · exact h
  · next hn =>
    refine List.nodup_append.mpr ⟨h, by simp, fun a ha b hb z => ?_⟩
    rw [List.mem_singleton.mp hb] at z
    exact hn (z ▸ ha)
theorem touch_sub {B : Bk} {P : List Int} : ∀ {L : List (Nat × Int)} {T : List Int} {z : Int}, z ∈ T → z ∈ touch B P L T
  | [], _, _, h => h
  | (k, c) :: L, T, z, h => by
    refine touch_sub (L := L) ?_
    split
    · exact h
    · exact addK_sub h
theorem touch_in {B : Bk} {P : List Int} : ∀ {L : List (Nat × Int)} {T : List Int} {k : Nat} {c : Int}, (k, c) ∈ L → c ≠ g P k → (B.clm k).c ∈ touch B P L T
  | [], _, _, _, h, _ => nomatch h
  | (i, e) :: L, T, k, c, h, hn => by
    rcases List.mem_cons.mp h with q | q
    · cases q
      show _ ∈ touch B P L _
      rw [if_neg hn]
      exact touch_sub (addK_in _ _)
    · exact touch_in (L := L) q hn
theorem touch_nodup {B : Bk} {P : List Int} : ∀ {L : List (Nat × Int)} {T : List Int}, T.Nodup → (touch B P L T).Nodup
  | [], _, h => h
  | (k, c) :: L, T, h => by
    refine touch_nodup (L := L) ?_
    split
    · exact h
    · exact addK_nodup h
theorem touch_houses {B : Bk} (G : Good B) {P : List Int} : ∀ {L : List (Nat × Int)} {T : List Int}, (∀ p ∈ L, p.1 < B.claims.length) → (∀ t ∈ T, t ∈ houses B) → ∀ t ∈ touch B P L T, t ∈ houses B
  | [], _, _, h => h
  | (k, c) :: L, T, hL, h => by
    refine touch_houses G (L := L) (fun p hp => hL p (List.mem_cons_of_mem _ hp)) ?_
    split
    · exact h
    · intro t ht
      rcases mem_addK ht with q | q
      · exact h t q
      · rw [q]
        exact creditor_in G (hL _ List.mem_cons_self)
theorem touch_none {B : Bk} {P : List Int} : ∀ {L : List (Nat × Int)} {T : List Int}, (∀ p ∈ L, p.2 = g P p.1) → touch B P L T = T
  | [], _, _ => rfl
  | (k, c) :: L, T, h => by
    show touch B P L _ = T
    rw [if_pos (h (k, c) List.mem_cons_self)]
    exact touch_none fun p hp => h p (List.mem_cons_of_mem _ hp)
/-! the means, house by house -/
def meansL (B : Bk) (P : List Int) : List Int := (List.range B.cash.length).map fun x : Nat => meansOf B (x : Int) P
theorem meansL_len (B : Bk) (P : List Int) : (meansL B P).length = B.cash.length := by
  unfold meansL
  rw [List.length_map, List.length_range]
theorem g_meansL {B : Bk} {P : List Int} {x : Nat} (h : x < B.cash.length) : g (meansL B P) x = meansOf B (x : Int) P := g_rangeMap h
theorem sumIf_set {f : Nat → Bool} {P : List Int} {k : Nat} {c : Int} (hk : k < P.length) : ∀ {n : Nat}, sumIf f (g (P.set k c)) n = sumIf f (g P) n + (if k < n ∧ f k = true then c - g P k else 0)
  | 0 => by
    rw [if_neg (fun z => absurd z.1 (Nat.not_lt_zero _))]
    rfl
  | n + 1 => by
    show sumIf f (g (P.set k c)) n + (if f n = true then g (P.set k c) n else 0) = sumIf f (g P) n + (if f n = true then g P n else 0) + _
    rw [sumIf_set hk (n := n)]
    by_cases e : k = n
    · subst e
      rw [g_set_same hk]
      have e1 : ¬ (k < k ∧ f k = true) := fun z => absurd z.1 (Nat.lt_irrefl _)
      rw [if_neg e1]
      by_cases q : f k = true
      · have e2 : k < k + 1 ∧ f k = true := ⟨Nat.lt_succ_self _, q⟩
        rw [if_pos q, if_pos q, if_pos e2]
        omega
      · have e2 : ¬ (k < k + 1 ∧ f k = true) := fun z => q z.2
        rw [if_neg q, if_neg q, if_neg e2]
    · rw [g_set_ne e]
      by_cases q : k < n ∧ f k = true
      · have e2 : k < n + 1 ∧ f k = true := ⟨by omega, q.2⟩
        rw [if_pos q, if_pos e2]
        omega
      · have e2 : ¬ (k < n + 1 ∧ f k = true) := fun z => q ⟨by omega, z.2⟩
        rw [if_neg q, if_neg e2]
        omega
theorem means_set {B : Bk} {P : List Int} {k : Nat} {c : Int} (hl : P.length = B.claims.length) (hk : k < B.claims.length) (x : Int) : meansOf B x (P.set k c) = meansOf B x P + (if (B.clm k).c = x then c - g P k else 0) := by
  unfold meansOf
  rw [List.length_set, sumIf_set (by omega)]
  by_cases e : (B.clm k).c = x
  · rw [if_pos ⟨by omega, decide_eq_true e⟩, if_pos e]
    omega
  · rw [if_neg (fun z => e (of_decide_eq_true z.2)), if_neg e]
    omega
theorem meansL_set {B : Bk} {P : List Int} {k y : Nat} {c : Int} (hl : P.length = B.claims.length) (hk : k < B.claims.length) (hc : (B.clm k).c = (y : Int)) (hy : y < B.cash.length) : (meansL B P).set y (g (meansL B P) y + (c - g P k)) = meansL B (P.set k c) := by
  rw [g_meansL hy]
  unfold meansL
  rw [rangeMap_set hy]
  apply List.map_congr_left
  intro x _
  rw [means_set hl hk]
  by_cases e : x = y
  · subst e
    rw [if_pos rfl, if_pos hc]
  · rw [if_neg e, if_neg (fun z => e (by omega))]
    omega
theorem set_self {P : List Int} {k : Nat} (h : k < P.length) : P.set k (g P k) = P := by
  refine ext_g (List.length_set ..) fun i hi => ?_
  by_cases e : k = i
  · subst e
    rw [g_set_same h]
  · rw [g_set_ne e]
/-! the two ways that settled is asked -/
theorem fix_top (B : Bk) (hs : List Int) : fixOf B hs (allP B) = topIn B hs := rfl
theorem fix_low (B : Bk) (hs : List Int) : fixOf B hs (noneP B) = lowIn B hs := rfl
/-- more houses fallen: on from where it was -/
theorem top_start_more {B : Bk} (G : Good B) {hs hs' : List Int} : LeP (behind B hs' (topIn B hs)) (topIn B hs) := by
  have hp := top_pay G hs
  refine ⟨by rw [behind_len, hp.len], fun k hk => ?_⟩
  rw [behind_len] at hk
  rw [g_behind hk]
  by_cases e : (B.clm k).d ∈ hs'
  · rw [if_pos e]
    have q : g (topIn B hs) k = g (behind B hs (topIn B hs)) k := by rw [top_fix G]
    by_cases e2 : (B.clm k).d ∈ hs
    · rw [q, g_behind hk, if_pos e2]
      exact Int.le_refl _
    · -- one that has not fallen pays all
      have h1 : ∀ n, g (led B hs n (allP B)) k = amt B k := fun n => by
        induction n with
        | zero => exact g_allP hk
        | succ n ih =>
          show g (behind B hs (led B hs n (allP B))) k = _
          rw [g_behind hk, if_neg e2, ih]
      have h2 : g (topIn B hs) k = amt B k := h1 _
      rw [h2]
      exact coin_hi G hk rfl (means_nn G hp _)
  · rw [if_neg e]
    exact Int.le_refl _
theorem fix_more {B : Bk} (G : Good B) {hs hs' : List Int} (hsub : ∀ x ∈ hs, x ∈ hs') : fixOf B hs' (topIn B hs) = topIn B hs' := by
  have hp := top_pay G hs
  have h0 : Tw true (behind B hs' (topIn B hs)) (topIn B hs) := top_start_more G
  refine LeP.anti ?_ ?_
  · exact top_ge G (fix_pay G hp) (by rw [fix_fixed G hp h0]; exact LeP.refl _)
  · exact led_ge G (top_pay G hs') (by rw [top_fix G]; exact LeP.refl _) (top_anti G hsub) _


end Rf
namespace Rf
open PySem PySem.Spec PyProof.Rows L2
/-! ### coins paid on one by one -/
/-- the claim that gets the next coin -/
def nextC (B : Bk) (x : Int) (P : List Int) : List Int → Option Nat
  | [] => none
  | r :: rs => match firstUp (amts B x r) ((ofRank B x r).map (g P)) (amts B x r).length with
    | some f => some ((ofRank B x r).getD f 0)
    | none => nextC B x P rs
theorem first_full {a : List Int} (pos : AllPos a) : firstUp a a a.length = none := by
  cases h : firstUp a a a.length with
  | none => rfl
  | some f =>
    have := (firstUp_some pos (Nat.le_refl _) h).room
    omega
theorem zip_get {ids : List Nat} {s : List Int} {i k : Nat} {v : Int} (h1 : ids[i]? = some k) (h2 : s[i]? = some v) : (ids.zip s)[i]? = some (k, v) := List.getElem?_zip_eq_some.mpr ⟨h1, h2⟩
theorem zip_set_map {ids : List Nat} {s : List Int} (hl : s.length = ids.length) (hn : ids.Nodup) {f : Nat} (hf : f < ids.length) : ids.zip (s.set f (g s f + 1)) = (ids.zip s).map fun p => if p.1 = ids[f] then (p.1, p.2 + 1) else p := by
  apply List.ext_getElem?
  intro i
  rw [List.getElem?_map]
  by_cases hi : i < ids.length
  · have h1 : ids[i]? = some ids[i] := List.getElem?_eq_getElem hi
    have h2 : s[i]? = some (g s i) := g_get (by omega)
    have e1 : (ids.zip s)[i]? = some (ids[i], g s i) := List.getElem?_zip_eq_some.mpr ⟨h1, h2⟩
    rw [e1]
    by_cases e : i = f
    · subst e
      have h3 : (s.set i (g s i + 1))[i]? = some (g s i + 1) := by rw [List.getElem?_set_self (by omega)]
      rw [zip_get h1 h3]
      show _ = some (if ids[i] = ids[i] then (ids[i], g s i + 1) else _)
      rw [if_pos rfl]
    · have h3 : (s.set f (g s f + 1))[i]? = some (g s i) := by rw [List.getElem?_set_ne (fun z => e z.symm), h2]
      rw [zip_get h1 h3]
      have hne : ids[i] ≠ ids[f] := fun z => e ((List.getElem_inj hn).mp z)
      show _ = some (if ids[i] = ids[f] then _ else (ids[i], g s i))
      rw [if_neg hne]
  · have l1 : (ids.zip s)[i]? = none := by rw [List.getElem?_eq_none]; rw [List.length_zip]; omega
    rw [l1, List.getElem?_eq_none (by rw [List.length_zip, List.length_set]; omega)]
    rfl
theorem map_id_of {α : Type} {l : List α} {f : α → α} (h : ∀ x ∈ l, f x = x) : l.map f = l := by
  induction l with
  | nil => rfl
  | cons x l ih => rw [List.map_cons, h x List.mem_cons_self, ih fun y hy => h y (List.mem_cons_of_mem _ hy)]
theorem next_pay {B : Bk} (G : Good B) {x : Int} {P : List Int} : ∀ {rs : List Int} {m : Int}, rs.Nodup → 0 ≤ m → m < owedBy B x rs → (∀ p ∈ payFrom B x rs m, g P p.1 = p.2) →
    ∃ c, nextC B x P rs = some c ∧ c ∈ rs.flatMap (ofRank B x) ∧ payFrom B x rs (m + 1) = (payFrom B x rs m).map fun p => if p.1 = c then (p.1, p.2 + 1) else p
  | [], m, _, h0, h1, _ => by
    have : owedBy B x [] = 0 := rfl
    omega
  | r :: rs, m, hn, h0, h1, hP => by
    have pos := amtsPos G x r
    obtain ⟨V, hs⟩ := share_ok pos h0
    have eo : owedBy B x (r :: rs) = (amts B x r).sum + owedBy B x rs := rfl
    have hl : (share (amts B x r) m).length = (ofRank B x r).length := by rw [share_len, amts_len]
    have hnd : (ofRank B x r).Nodup := nodup_filter_range _ _
    have eP : (ofRank B x r).map (g P) = share (amts B x r) m := by
      refine ext_g (by rw [List.length_map, hl]) fun i hi => ?_
      rw [List.length_map] at hi
      have h1 : (ofRank B x r)[i]? = some (ofRank B x r)[i] := List.getElem?_eq_getElem hi
      have h2 : (share (amts B x r) m)[i]? = some (g (share (amts B x r) m) i) := g_get (by omega)
      have hm : ((ofRank B x r)[i], g (share (amts B x r) m) i) ∈ payFrom B x (r :: rs) m := by
        unfold payFrom
        exact List.mem_append_left _ (List.mem_of_getElem? (List.getElem?_zip_eq_some.mpr ⟨h1, h2⟩))
      have q := hP _ hm
      apply g_of
      rw [List.getElem?_map, h1]
      exact congrArg some q
    have hr : r ∉ rs := (List.nodup_cons.mp hn).1
    by_cases hlt : m < (amts B x r).sum
    · have hsm : (share (amts B x r) m).sum = m := by rw [hs]; omega
      obtain ⟨f, e1, F⟩ := exists_first V (by omega) pos
      have hf : f < (ofRank B x r).length := by rw [← amts_len]; exact F.lt
      refine ⟨(ofRank B x r)[f], ?_, ?_, ?_⟩
      · unfold nextC
        rw [eP, e1]
        show some ((ofRank B x r).getD f 0) = _
        rw [List.getD_eq_getElem?_getD, List.getElem?_eq_getElem hf]
        rfl
      · rw [List.flatMap_cons]
        exact List.mem_append_left _ (List.getElem_mem hf)
      · have es : share (amts B x r) (m + 1) = (share (amts B x r) m).set f (g (share (amts B x r) m) f + 1) := by
          rw [share_next pos h0 hlt, nextS_of e1]
        have hs2 := (share_ok pos (show 0 ≤ m + 1 by omega)).2
        have hsm2 : (share (amts B x r) (m + 1)).sum = m + 1 := by rw [hs2]; omega
        unfold payFrom
        rw [hsm, hsm2, Int.sub_self, Int.sub_self, List.map_append, es, zip_set_map hl hnd hf]
        congr 1
        refine (map_id_of fun p hp => if_neg fun z => ?_).symm
        have h1 : p.1 ∈ (payFrom B x rs 0).map (·.1) := List.mem_map.mpr ⟨p, hp, rfl⟩
        rw [pay_keys] at h1
        have h2 := (mem_flat.mp h1).2.2
        have h3 := (mem_rankUp.mp (List.getElem_mem hf)).2.2
        rw [z, h3] at h2
        exact hr h2
    · have hfull : share (amts B x r) m = amts B x r := (full_share pos h0 (by omega)).symm
      have hfull1 : share (amts B x r) (m + 1) = amts B x r := (full_share pos (by omega) (by omega)).symm
      have hP' : ∀ p ∈ payFrom B x rs (m - (amts B x r).sum), g P p.1 = p.2 := fun p hp => hP p (by
        unfold payFrom
        rw [hfull]
        exact List.mem_append_right _ hp)
      obtain ⟨c, c1, c2, c3⟩ := next_pay G (rs := rs) (m := m - (amts B x r).sum) (List.nodup_cons.mp hn).2 (by omega) (by omega) hP'
      refine ⟨c, ?_, ?_, ?_⟩
      · unfold nextC
        rw [eP, hfull, first_full pos]
        exact c1
      · rw [List.flatMap_cons]
        exact List.mem_append_right _ c2
      · have em : m + 1 - (amts B x r).sum = m - (amts B x r).sum + 1 := by omega
        unfold payFrom
        rw [hfull, hfull1, em, c3, List.map_append]
        congr 1
        refine (map_id_of fun p hp => if_neg fun z => ?_).symm
        obtain ⟨i, hi⟩ := List.mem_iff_getElem?.mp hp
        have h1 : p.1 ∈ ofRank B x r := List.mem_of_getElem? (List.getElem?_zip_eq_some.mp hi).1
        have h3 := (mem_rankUp.mp h1).2.2
        have h2 := (mem_flat.mp c2).2.2
        rw [← z, h3] at h2
        exact hr h2
theorem present_nodup (B : Bk) (x : Int) : (ranks9.filter fun r => !(ofRank B x r).isEmpty).Nodup := (by decide : ranks9.Nodup).filter _
theorem owed_present {B : Bk} (x : Int) : ∀ rs : List Int, owedBy B x (rs.filter fun r => !(ofRank B x r).isEmpty) = owedBy B x rs
  | [] => rfl
  | r :: rs => by
    have ih := owed_present (B := B) x rs
    rw [List.filter_cons]
    have e : owedBy B x (r :: rs) = (amts B x r).sum + owedBy B x rs := rfl
    by_cases h : (ofRank B x r).isEmpty = true
    · rw [h, if_neg (by decide), ih, e]
      have : amts B x r = [] := by unfold amts; rw [List.isEmpty_iff.mp h]; rfl
      rw [this]
      show _ = (0 : Int) + _
      omega
    · have h' : (ofRank B x r).isEmpty = false := by simpa using h
      rw [h', if_pos (by decide), e]
      show (amts B x r).sum + owedBy B x _ = _
      rw [ih]
/-- the next coin, told by what a house has paid -/
theorem next_coin {B : Bk} (G : Good B) {x : Int} {P : List Int} {m : Int} (h0 : 0 ≤ m) (h1 : m < owedIn B x) (hP : ∀ k, k < B.claims.length → (B.clm k).d = x → g P k = coinOf B x m k) :
    ∃ c, nextC B x P (ranks9.filter fun r => !(ofRank B x r).isEmpty) = some c ∧ c < B.claims.length ∧ (B.clm c).d = x ∧ ∀ k, k < B.claims.length → (B.clm k).d = x → coinOf B x (m + 1) k = coinOf B x m k + (if k = c then 1 else 0) := by
  have ho : m < owedBy B x (ranks9.filter fun r => !(ofRank B x r).isEmpty) := by
    rw [owed_present, ← owedIn_eq G]
    exact h1
  have hPf : ∀ p ∈ payFrom B x (ranks9.filter fun r => !(ofRank B x r).isEmpty) m, g P p.1 = p.2 := fun p hp => by
    rw [pay_filter] at hp
    have hp' := (mem_payList G).mpr hp
    unfold payList at hp'
    obtain ⟨k, hk, rfl⟩ := List.mem_map.mp hp'
    exact hP k (mem_owesUp.mp hk).1 (mem_owesUp.mp hk).2
  obtain ⟨c, c1, c2, c3⟩ := next_pay G (present_nodup B x) h0 ho hPf
  rw [pay_filter, pay_filter] at c3
  have cm := mem_flat.mp c2
  refine ⟨c, c1, cm.1, cm.2.1, fun k hk hd => ?_⟩
  have h := coin_mem G (m := m) hk hd
  have h2 : (if k = c then (k, coinOf B x m k + 1) else (k, coinOf B x m k)) ∈ payFrom B x ranks9 (m + 1) := by
    rw [c3]
    exact List.mem_map.mpr ⟨_, h, rfl⟩
  show ((payFrom B x ranks9 (m + 1)).lookup k).getD 0 = _
  by_cases e : k = c
  · rw [if_pos e] at h2 ⊢
    rw [lookup_of (pay_nodup B x (m + 1)) h2]
    rfl
  · rw [if_neg e] at h2 ⊢
    rw [lookup_of (pay_nodup B x (m + 1)) h2]
    show coinOf B x m k = coinOf B x m k + 0
    omega
/-- payments while coins are paid on -/
structure Still (B : Bk) (P : List Int) : Prop where
  pay : Pay B P
  coin : ∀ k, k < B.claims.length → g P k = coinOf B (B.clm k).d (paidOut B (B.clm k).d P) k
  held : ∀ x, x ∈ houses B → paidOut B x P ≤ meansOf B x P
  le : LeP P (worstOf B)
theorem paid_none {B : Bk} (x : Int) : paidOut B x (noneP B) = 0 := by
  unfold paidOut
  rw [noneP_len]
  have e : sumIf (fun k => decide ((B.clm k).d = x)) (g (noneP B)) B.claims.length = sumIf (fun k => decide ((B.clm k).d = x)) (fun _ => 0) B.claims.length := sumIf_same fun k hk _ => g_noneP hk
  rw [e]
  generalize B.claims.length = n
  induction n with
  | zero => rfl
  | succ n ih =>
    show sumIf _ _ n + (if _ then (0 : Int) else 0) = 0
    rw [ih]
    split <;> rfl
theorem means_none {B : Bk} (x : Int) : meansOf B x (noneP B) = g B.cash x.toNat := by
  unfold meansOf
  rw [noneP_len]
  have e : sumIf (fun k => decide ((B.clm k).c = x)) (g (noneP B)) B.claims.length = sumIf (fun k => decide ((B.clm k).c = x)) (fun _ => 0) B.claims.length := sumIf_same fun k hk _ => g_noneP hk
  have z : ∀ n : Nat, sumIf (fun k => decide ((B.clm k).c = x)) (fun _ => (0 : Int)) n = 0 := fun n => by
    induction n with
    | zero => rfl
    | succ n ih =>
      show sumIf _ _ n + (if _ then (0 : Int) else 0) = 0
      rw [ih]
      split <;> rfl
  rw [e, z]
  omega
theorem coin_none {B : Bk} (G : Good B) {x : Int} {k : Nat} (hk : k < B.claims.length) (hd : (B.clm k).d = x) : coinOf B x 0 k = 0 := by
  have h1 := coin_sum G (x := x) (m := 0) (Int.le_refl 0)
  have h2 := owedIn_nn G x
  rw [owedIn_eq G] at h2
  have z : sumIf (fun k => decide ((B.clm k).d = x)) (fun _ => (0 : Int)) B.claims.length = 0 := by
    generalize B.claims.length = n
    induction n with
    | zero => rfl
    | succ n ih =>
      show sumIf _ _ n + (if _ then (0 : Int) else 0) = 0
      rw [ih]
      split <;> rfl
  have q := sumIf_eq_of (f := fun k => decide ((B.clm k).d = x)) (v := fun _ => 0) (w := coinOf B x 0) (n := B.claims.length) (fun j hj hf => coin_lo G hj (of_decide_eq_true hf) (Int.le_refl 0)) (by rw [h1, z]; omega) k hk (decide_eq_true hd)
  exact q.symm
theorem still_start {B : Bk} (G : Good B) : Still B (noneP B) := by
  refine ⟨noneP_pay G, fun k hk => ?_, fun x _ => ?_, noneP_le (worst_clears G).pay⟩
  · rw [paid_none, coin_none G hk rfl, g_noneP hk]
  · rw [paid_none, means_none]
    exact cash_nn G _
theorem paid_nn {B : Bk} {P : List Int} (hP : Pay B P) (x : Int) : 0 ≤ paidOut B x P := sumIf_nonneg fun k hk _ => hP.lo k (hP.len ▸ hk)
theorem paid_set {B : Bk} {P : List Int} {c : Nat} {v : Int} (hl : P.length = B.claims.length) (hc : c < B.claims.length) (x : Int) : paidOut B x (P.set c v) = paidOut B x P + (if (B.clm c).d = x then v - g P c else 0) := by
  unfold paidOut
  rw [List.length_set, sumIf_set (by rw [hl]; exact hc)]
  congr 1
  by_cases e : (B.clm c).d = x
  · rw [if_pos e, if_pos ⟨by rw [hl]; exact hc, decide_eq_true e⟩]
  · rw [if_neg e, if_neg (fun z => e (of_decide_eq_true z.2))]
theorem Still.step {B : Bk} (G : Good B) {P : List Int} (S : Still B P) {x : Int} (hx : x ∈ houses B) (h1 : paidOut B x P < meansOf B x P) (h2 : paidOut B x P < owedIn B x) :
    ∃ c, nextC B x P (ranks9.filter fun r => !(ofRank B x r).isEmpty) = some c ∧ c < B.claims.length ∧ (B.clm c).d = x ∧ Still B (P.set c (g P c + 1)) := by
  obtain ⟨c, c1, c2, c3, c4⟩ := next_coin G (paid_nn S.pay x) h2 fun k hk hd => by
    have q := S.coin k hk
    rw [hd] at q
    exact q
  have hl := S.pay.len
  have hcl : c < P.length := by rw [hl]; exact c2
  have eset : ∀ y, paidOut B y (P.set c (g P c + 1)) = paidOut B y P + (if x = y then 1 else 0) := fun y => by
    rw [paid_set hl c2, c3]
    congr 1
    split <;> omega
  have hcoin : ∀ k, k < B.claims.length → g (P.set c (g P c + 1)) k = coinOf B (B.clm k).d (paidOut B (B.clm k).d (P.set c (g P c + 1))) k := fun k hk => by
    rw [eset]
    by_cases e : x = (B.clm k).d
    · rw [if_pos e, ← e, c4 k hk e.symm]
      have q := S.coin k hk
      rw [← e] at q
      by_cases e2 : k = c
      · rw [if_pos e2, e2, g_set_same hcl]
        rw [e2] at q
        omega
      · rw [if_neg e2, g_set_ne (fun z => e2 z.symm), q]
        omega
    · have e2 : c ≠ k := fun z => e (by rw [← z, c3])
      rw [if_neg e, g_set_ne e2, Int.add_zero]
      exact S.coin k hk
  have hm1 : paidOut B x P + 1 ≤ meansOf B x (worstOf B) := by
    have := means_mono (B := B) S.le x
    omega
  have hle : LeP (P.set c (g P c + 1)) (worstOf B) := by
    refine ⟨by rw [List.length_set]; exact S.le.1, fun k hk => ?_⟩
    rw [List.length_set, hl] at hk
    by_cases e : c = k
    · have q := hcoin k hk
      rw [eset, ← e, c3, if_pos rfl] at q
      rw [← e, q]
      have w := (clears_iff G (worst_clears G).pay).mp (worst_clears G) c c2
      rw [c3] at w
      rw [w]
      exact coin_mono G c2 c3 (by have := paid_nn S.pay x; omega) hm1
    · rw [g_set_ne e]
      exact S.le.2 k (by rw [hl]; exact hk)
  have hpay : Pay B (P.set c (g P c + 1)) := by
    refine ⟨by rw [List.length_set]; exact hl, fun k hk => ?_, fun k hk => ?_⟩
    · by_cases e : c = k
      · rw [← e, g_set_same hcl]
        have := S.pay.lo c c2
        omega
      · rw [g_set_ne e]
        exact S.pay.lo k hk
    · have q1 := hle.2 k (by rw [List.length_set, hl]; exact hk)
      have q2 := (worst_clears G).pay.hi k hk
      omega
  refine ⟨c, c1, c2, c3, hpay, hcoin, fun y hy => ?_, hle⟩
  rw [eset, means_set hl c2]
  have := S.held y hy
  by_cases e : x = y
  · subst e
    rw [if_pos rfl]
    split <;> omega
  · rw [if_neg e]
    split <;> omega
theorem still_worst {B : Bk} (G : Good B) {P : List Int} (S : Still B P) (h : ∀ x, x ∈ houses B → meansOf B x P ≤ paidOut B x P ∨ owedIn B x ≤ paidOut B x P) : P = worstOf B := by
  refine S.le.anti (worst_le G ((clears_iff G S.pay).mpr fun k hk => ?_))
  have hx := debtor_in G hk
  have hh := S.held _ hx
  have q := S.coin k hk
  rcases h _ hx with e | e
  · have : paidOut B (B.clm k).d P = meansOf B (B.clm k).d P := by omega
    rw [this] at q
    exact q
  · rw [coin_full G hk rfl e] at q
    rw [coin_full G hk rfl (by omega)]
    exact q
def unpaidOf (B : Bk) (P : List Int) : List Int := (List.range B.cash.length).map fun x : Nat => owedIn B (x : Int) - paidOut B (x : Int) P
theorem unpaid_len (B : Bk) (P : List Int) : (unpaidOf B P).length = B.cash.length := by unfold unpaidOf; rw [List.length_map, List.length_range]
theorem g_unpaid {B : Bk} {P : List Int} {x : Nat} (h : x < B.cash.length) : g (unpaidOf B P) x = owedIn B (x : Int) - paidOut B (x : Int) P := g_rangeMap h
theorem g_left {B : Bk} {P : List Int} {x : Nat} (h : x < B.cash.length) : g (leftOf B P) x = meansOf B (x : Int) P - paidOut B (x : Int) P := g_rangeMap h
theorem left_none {B : Bk} : leftOf B (noneP B) = B.cash := by
  refine ext_g (leftOf_len _ _) fun k hk => ?_
  rw [leftOf_len] at hk
  rw [g_left hk, paid_none, means_none, Int.toNat_natCast]
  omega
theorem unpaid_set {B : Bk} {P : List Int} {c x : Nat} (hl : P.length = B.claims.length) (hc : c < B.claims.length) (hd : (B.clm c).d = (x : Int)) (hx : x < B.cash.length) : unpaidOf B (P.set c (g P c + 1)) = (unpaidOf B P).set x (g (unpaidOf B P) x - 1) := by
  unfold unpaidOf
  rw [rangeMap_set hx]
  apply List.map_congr_left
  intro y _
  rw [paid_set hl hc, hd]
  by_cases e : y = x
  · subst e
    rw [if_pos rfl, if_pos rfl, g_rangeMap hx]
    omega
  · rw [if_neg e, if_neg (by omega)]
    omega
theorem left_set {B : Bk} (G : Good B) {P : List Int} {c x y : Nat} (hl : P.length = B.claims.length) (hc : c < B.claims.length) (hd : (B.clm c).d = (x : Int)) (hcr : (B.clm c).c = (y : Int)) (hx : x < B.cash.length) (hy : y < B.cash.length) (v : Int) :
    leftOf B (P.set c (g P c + v)) = ((leftOf B P).set x (g (leftOf B P) x - v)).set y (g ((leftOf B P).set x (g (leftOf B P) x - v)) y + v) := by
  have ne : x ≠ y := fun z => (G.clm hc).ne (by rw [hd, hcr, z])
  rw [g_set_ne ne]
  refine ext_g (by rw [leftOf_len, List.length_set, List.length_set, leftOf_len]) fun k hk => ?_
  rw [leftOf_len] at hk
  rw [g_left hk, paid_set hl hc, means_set hl hc, hd, hcr]
  by_cases e1 : y = k
  · subst e1
    rw [g_set_same (by rw [List.length_set, leftOf_len]; exact hy), g_left hy, if_pos rfl, if_neg (by omega)]
    omega
  · rw [g_set_ne e1]
    by_cases e2 : x = k
    · subst e2
      rw [g_set_same (by rw [leftOf_len]; exact hx), g_left hx, if_neg (by omega), if_pos rfl]
      omega
    · rw [g_set_ne e2, g_left hk, if_neg (by omega), if_neg (by omega)]
      omega


end Rf
namespace Rf
open PySem PySem.Spec PyProof.Rows L2
/-! ### rings and orders: the mathematics of points 12 and 13 -/
def numbersOf (P : List Int) : List Nat := (List.range P.length).filter fun k => decide (0 < g P k)
theorem mem_numbers {P : List Int} {k : Nat} : k ∈ numbersOf P ↔ k < P.length ∧ 0 < g P k := by
  unfold numbersOf
  rw [List.mem_filter, List.mem_range, decide_eq_true_iff]
theorem numbers_len (P : List Int) : (numbersOf P).length ≤ P.length := by
  unfold numbersOf
  have := List.length_filter_le (fun k => decide (0 < g P k)) (List.range P.length)
  rw [List.length_range] at this
  exact this
theorem numbers_nodup (P : List Int) : (numbersOf P).Nodup := nodup_filter_range _ _
/-- debtors, creditors of claims -/
def dsOf (B : Bk) (ns : List Nat) : List Int := ns.map fun k => (B.clm k).d
def csOf (B : Bk) (ns : List Nat) : List Int := ns.map fun k => (B.clm k).c
theorem dsOf_len (B : Bk) (ns : List Nat) : (dsOf B ns).length = ns.length := List.length_map _
/-- the last of the claims whose debtor is x -/
def onw (B : Bk) (ns : List Nat) (x : Int) : Option Nat := (ns.filter fun k => decide ((B.clm k).d = x)).getLast?
theorem onw_mem {B : Bk} {ns : List Nat} {x : Int} {k : Nat} (h : onw B ns x = some k) : k ∈ ns ∧ (B.clm k).d = x := by
  have q := List.mem_of_getLast? h
  rw [List.mem_filter, decide_eq_true_iff] at q
  exact q
theorem onw_none {B : Bk} {ns : List Nat} {x : Int} (h : onw B ns x = none) : ∀ k ∈ ns, (B.clm k).d ≠ x := fun k hk e => by
  have q : ns.filter (fun k => decide ((B.clm k).d = x)) = [] := List.getLast?_eq_none_iff.mp h
  have m : k ∈ ns.filter fun k => decide ((B.clm k).d = x) := List.mem_filter.mpr ⟨hk, decide_eq_true e⟩
  rw [q] at m
  exact nomatch m
theorem onw_of {B : Bk} {ns : List Nat} {k : Nat} (hk : k ∈ ns) : ∃ j, onw B ns (B.clm k).d = some j := by
  cases h : onw B ns (B.clm k).d with
  | some j => exact ⟨j, rfl⟩
  | none => exact absurd rfl (onw_none h k hk)
def keptOf (B : Bk) (ns : List Nat) : List Nat := ns.filter fun k => (onw B ns (B.clm k).c).isSome
theorem kept_sub {B : Bk} {ns : List Nat} {k : Nat} (h : k ∈ keptOf B ns) : k ∈ ns := (List.mem_filter.mp h).1
theorem kept_lt {B : Bk} {ns : List Nat} (h : keptOf B ns ≠ ns) : (keptOf B ns).length < ns.length := by
  have s : (keptOf B ns).Sublist ns := List.filter_sublist
  rcases Nat.lt_or_ge (keptOf B ns).length ns.length with q | q
  · exact q
  · exact absurd (s.eq_of_length (Nat.le_antisymm s.length_le q)) h
/-- claims that are a ring -/
structure IsRing (B : Bk) (ks : List Nat) : Prop where
  two : 2 ≤ ks.length
  nd : ks.Nodup
  turn : csOf B ks = (dsOf B ks).drop 1 ++ (dsOf B ks).take 1
def wayGo (B : Bk) (ns : List Nat) : Nat → List Nat → Int → List Nat
  | 0, way, _ => way
  | f + 1, way, h => if h ∈ dsOf B way then way.drop ((dsOf B way).idxOf h) else wayGo B ns f (way ++ [(onw B ns h).getD 0]) (B.clm ((onw B ns h).getD 0)).c
structure WayOk (B : Bk) (ns way : List Nat) (h : Int) : Prop where
  sub : ∀ k ∈ way, k ∈ ns
  nd : (dsOf B way).Nodup
  ne : way ≠ []
  ch : csOf B way = (dsOf B way).drop 1 ++ [h]
  hc : ∃ k ∈ ns, (B.clm k).c = h
theorem way_start {B : Bk} {ns : List Nat} {n : Nat} (h : n ∈ ns) : WayOk B ns [n] (B.clm n).c := ⟨fun k hk => by rw [List.mem_singleton.mp hk]; exact h, by simp [dsOf], (fun z => nomatch z), rfl, n, h, rfl⟩
theorem way_step {B : Bk} {ns way : List Nat} {h : Int} (hcl : keptOf B ns = ns) (W : WayOk B ns way h) (hn : h ∉ dsOf B way) : ∃ k, onw B ns h = some k ∧ k ∈ ns ∧ (B.clm k).d = h ∧ WayOk B ns (way ++ [k]) (B.clm k).c := by
  obtain ⟨k0, hk0, e0⟩ := W.hc
  have q : k0 ∈ keptOf B ns := by rw [hcl]; exact hk0
  have q2 := (List.mem_filter.mp q).2
  rw [e0] at q2
  obtain ⟨k, hk⟩ := Option.isSome_iff_exists.mp q2
  obtain ⟨m, d⟩ := onw_mem hk
  refine ⟨k, hk, m, d, fun j hj => ?_, ?_, (by simp), ?_, k, m, rfl⟩
  · rcases List.mem_append.mp hj with z | z
    · exact W.sub j z
    · rw [List.mem_singleton.mp z]
      exact m
  · unfold dsOf
    rw [List.map_append]
    refine List.nodup_append.mpr ⟨W.nd, by simp, fun a ha b hb e => ?_⟩
    have eb : b = h := by rw [List.mem_singleton.mp hb]; exact d
    rw [e, eb] at ha
    exact hn ha
  · have e1 : csOf B (way ++ [k]) = csOf B way ++ [(B.clm k).c] := List.map_append
    have e2 : dsOf B (way ++ [k]) = dsOf B way ++ [h] := by
      unfold dsOf
      rw [List.map_append, ← d]
      rfl
    have hl : 1 ≤ (dsOf B way).length := by rw [dsOf_len]; exact List.length_pos_iff.mpr W.ne
    rw [e1, e2, W.ch, List.drop_append_of_le_length hl]
theorem nodup_of_map {α β : Type} {f : α → β} {l : List α} (h : (l.map f).Nodup) : l.Nodup := (List.pairwise_map.mp h).imp fun hn e => hn (by rw [e])
theorem way_ring {B : Bk} (G : Good B) {ns way : List Nat} {h : Int} (hlt : ∀ k ∈ ns, k < B.claims.length) (W : WayOk B ns way h) (hm : h ∈ dsOf B way) : IsRing B (way.drop ((dsOf B way).idxOf h)) ∧ ∀ k ∈ way.drop ((dsOf B way).idxOf h), k ∈ ns := by
  have hi : (dsOf B way).idxOf h < (dsOf B way).length := List.idxOf_lt_length_of_mem hm
  have hg : (dsOf B way)[(dsOf B way).idxOf h] = h := List.getElem_idxOf hi
  generalize hj : (dsOf B way).idxOf h = i at hi hg
  have hi' : i < way.length := by rw [dsOf_len] at hi; exact hi
  have hsub : ∀ k ∈ way.drop i, k ∈ ns := fun k hk => W.sub k (List.mem_of_mem_drop hk)
  have e1 : csOf B (way.drop i) = (csOf B way).drop i := List.map_drop
  have e2 : dsOf B (way.drop i) = (dsOf B way).drop i := List.map_drop
  have hd : (dsOf B way).drop i = h :: (dsOf B way).drop (i + 1) := by
    rw [List.drop_eq_getElem_cons hi, hg]
  have turn : csOf B (way.drop i) = (dsOf B (way.drop i)).drop 1 ++ (dsOf B (way.drop i)).take 1 := by
    rw [e1, e2, W.ch, hd, List.drop_append_of_le_length (by rw [List.length_drop]; omega), List.drop_drop]
    show List.drop (1 + i) (dsOf B way) ++ [h] = List.drop (i + 1) (dsOf B way) ++ [h]
    rw [Nat.add_comm]
  have hl : (way.drop i).length = way.length - i := List.length_drop
  refine ⟨⟨?_, ?_, turn⟩, hsub⟩
  · rcases Nat.lt_or_ge 1 (way.drop i).length with z | z
    · exact z
    · obtain ⟨k, hk⟩ := List.length_eq_one_iff.mp (show (way.drop i).length = 1 by omega)
      rw [hk] at turn
      have e : (B.clm k).c = (B.clm k).d := (List.cons.inj turn).1
      exact absurd e.symm (G.clm (hlt k (hsub k (by rw [hk]; exact List.mem_cons_self)))).ne
  · exact (nodup_of_map W.nd).sublist (List.drop_sublist i way)
theorem hs_len (B : Bk) : (houses B).length = B.cash.length := by unfold houses; rw [List.length_map, List.length_range]
theorem way_short {B : Bk} (G : Good B) {ns way : List Nat} {h : Int} (hlt : ∀ k ∈ ns, k < B.claims.length) (W : WayOk B ns way h) : way.length ≤ B.cash.length := by
  have q := nodup_sub_len W.nd (houses_nodup B) fun x hx => by
    obtain ⟨k, hk, rfl⟩ := List.mem_map.mp hx
    exact debtor_in G (hlt k (W.sub k hk))
  rw [dsOf_len, hs_len] at q
  exact q
theorem way_go {B : Bk} (G : Good B) {ns : List Nat} (hlt : ∀ k ∈ ns, k < B.claims.length) (hcl : keptOf B ns = ns) : ∀ (f : Nat) {way : List Nat} {h : Int}, WayOk B ns way h → B.cash.length < way.length + f → IsRing B (wayGo B ns f way h) ∧ ∀ k ∈ wayGo B ns f way h, k ∈ ns
  | 0, way, h, W, hf => by
    have := way_short G hlt W
    omega
  | f + 1, way, h, W, hf => by
    unfold wayGo
    by_cases hm : h ∈ dsOf B way
    · rw [if_pos hm]
      exact way_ring G hlt W hm
    · rw [if_neg hm]
      obtain ⟨k, hk, _, _, W2⟩ := way_step hcl W hm
      rw [hk]
      exact way_go G hlt hcl f W2 (by rw [List.length_append]; show _ < way.length + 1 + f; omega)
def ringIn (B : Bk) : Nat → List Nat → List Nat
  | 0, _ => []
  | _ + 1, [] => []
  | f + 1, n :: ns => if keptOf B (n :: ns) = n :: ns then wayGo B (n :: ns) (B.cash.length + 1) [n] (B.clm n).c else ringIn B f (keptOf B (n :: ns))
theorem ring_some {B : Bk} (G : Good B) : ∀ (f : Nat) {ns : List Nat}, (∀ k ∈ ns, k < B.claims.length) → ringIn B f ns ≠ [] → IsRing B (ringIn B f ns) ∧ ∀ k ∈ ringIn B f ns, k ∈ ns
  | 0, _, _, h => absurd rfl h
  | _ + 1, [], _, h => absurd rfl h
  | f + 1, n :: ns, hlt, h => by
    unfold ringIn at h ⊢
    by_cases e : keptOf B (n :: ns) = n :: ns
    · rw [if_pos e]
      exact way_go G hlt e _ (way_start List.mem_cons_self) (by show _ < 1 + _; omega)
    · rw [if_neg e] at h ⊢
      obtain ⟨a, b⟩ := ring_some G f (fun k hk => hlt k (kept_sub hk)) h
      exact ⟨a, fun k hk => kept_sub (b k hk)⟩
theorem ring_none {B : Bk} (G : Good B) : ∀ (f : Nat) {ns : List Nat}, ns.length < f → (∀ k ∈ ns, k < B.claims.length) → ringIn B f ns = [] → ∀ W : List Nat, (∀ k ∈ W, k ∈ ns) → W ≠ [] → ∃ k ∈ W, ∀ j ∈ W, (B.clm j).c ≠ (B.clm k).d
  | 0, _, h, _, _, _, _, _ => absurd h (Nat.not_lt_zero _)
  | _ + 1, [], _, _, _, W, hs, hn => by
    cases W with
    | nil => exact absurd rfl hn
    | cons k W => exact nomatch hs k List.mem_cons_self
  | f + 1, n :: ns, hf, hlt, h, W, hs, hn => by
    unfold ringIn at h
    by_cases e : keptOf B (n :: ns) = n :: ns
    · rw [if_pos e] at h
      have q := (way_go G hlt e (B.cash.length + 1) (way_start List.mem_cons_self) (by show _ < 1 + _; omega)).1.two
      rw [h] at q
      exact absurd q (by decide)
    · rw [if_neg e] at h
      have hl := kept_lt e
      by_cases hW : (W.filter fun k => decide (k ∈ keptOf B (n :: ns))) = []
      · obtain ⟨k, W', rfl⟩ := List.exists_cons_of_ne_nil hn
        refine ⟨k, List.mem_cons_self, fun j hj z => ?_⟩
        have q1 : j ∈ keptOf B (n :: ns) := List.mem_filter.mpr ⟨hs j hj, by
          obtain ⟨i, hi⟩ := onw_of (B := B) (hs k List.mem_cons_self)
          rw [z, hi]
          rfl⟩
        have q2 : j ∈ (k :: W').filter fun k => decide (k ∈ keptOf B (n :: ns)) := List.mem_filter.mpr ⟨hj, decide_eq_true q1⟩
        rw [hW] at q2
        exact nomatch q2
      · obtain ⟨k, hk, hk2⟩ := ring_none G f (by omega) (fun k hk => hlt k (kept_sub hk)) h _ (fun k hk => of_decide_eq_true (List.mem_filter.mp hk).2) hW
        have hkW := (List.mem_filter.mp hk).1
        refine ⟨k, hkW, fun j hj z => ?_⟩
        have q1 : j ∈ keptOf B (n :: ns) := List.mem_filter.mpr ⟨hs j hj, by
          obtain ⟨i, hi⟩ := onw_of (B := B) (hs k hkW)
          rw [z, hi]
          rfl⟩
        exact hk2 j (List.mem_filter.mpr ⟨hj, decide_eq_true q1⟩) z
/-! coins by a ring -/
def addR (P : List Int) (r : List Nat) (c : Int) : List Int := r.foldl (fun P k => P.set k (g P k + c)) P
theorem addR_len : ∀ (r : List Nat) (P : List Int) (c : Int), (addR P r c).length = P.length
  | [], _, _ => rfl
  | k :: r, P, c => by
    show (addR (P.set k (g P k + c)) r c).length = _
    rw [addR_len r, List.length_set]
theorem g_addR : ∀ {r : List Nat} {P : List Int} {c : Int}, r.Nodup → (∀ k ∈ r, k < P.length) → ∀ k, g (addR P r c) k = g P k + (if k ∈ r then c else 0)
  | [], P, c, _, _, k => by
    show g P k = _
    rw [if_neg List.not_mem_nil]
    omega
  | i :: r, P, c, hn, hl, k => by
    have hn2 := List.nodup_cons.mp hn
    show g (addR (P.set i (g P i + c)) r c) k = _
    rw [g_addR hn2.2 (fun j hj => by rw [List.length_set]; exact hl j (List.mem_cons_of_mem _ hj))]
    by_cases e : i = k
    · subst e
      rw [g_set_same (hl i List.mem_cons_self), if_neg hn2.1, if_pos List.mem_cons_self]
      omega
    · rw [g_set_ne e]
      congr 1
      by_cases z : k ∈ r
      · rw [if_pos z, if_pos (List.mem_cons_of_mem _ z)]
      · rw [if_neg z, if_neg fun y => by
          rcases List.mem_cons.mp y with w | w
          · exact e w.symm
          · exact z w]
theorem means_addR {B : Bk} (x : Int) (c : Int) : ∀ {r : List Nat} {P : List Int}, P.length = B.claims.length → (∀ k ∈ r, k < B.claims.length) → meansOf B x (addR P r c) = meansOf B x P + c * ((csOf B r).count x : Int)
  | [], P, _, _ => by
    show meansOf B x P = meansOf B x P + c * ((0 : Nat) : Int)
    rw [Int.natCast_zero, Int.mul_zero, Int.add_zero]
  | k :: r, P, hl, hr => by
    show meansOf B x (addR (P.set k (g P k + c)) r c) = _
    rw [means_addR x c (by rw [List.length_set]; exact hl) (fun j hj => hr j (List.mem_cons_of_mem _ hj)), means_set hl (hr k List.mem_cons_self)]
    have e : csOf B (k :: r) = (B.clm k).c :: csOf B r := rfl
    rw [e, List.count_cons]
    by_cases z : (B.clm k).c = x
    · rw [if_pos z, if_pos (by rw [z]; exact beq_self_eq_true x), Int.natCast_add, Int.mul_add]
      omega
    · rw [if_neg z, if_neg (fun y => z (eq_of_beq y)), Int.natCast_add, Int.mul_add]
      omega
theorem paid_addR {B : Bk} (x : Int) (c : Int) : ∀ {r : List Nat} {P : List Int}, P.length = B.claims.length → (∀ k ∈ r, k < B.claims.length) → paidOut B x (addR P r c) = paidOut B x P + c * ((dsOf B r).count x : Int)
  | [], P, _, _ => by
    show paidOut B x P = paidOut B x P + c * ((0 : Nat) : Int)
    rw [Int.natCast_zero, Int.mul_zero, Int.add_zero]
  | k :: r, P, hl, hr => by
    show paidOut B x (addR (P.set k (g P k + c)) r c) = _
    rw [paid_addR x c (by rw [List.length_set]; exact hl) (fun j hj => hr j (List.mem_cons_of_mem _ hj)), paid_set hl (hr k List.mem_cons_self)]
    have e : dsOf B (k :: r) = (B.clm k).d :: dsOf B r := rfl
    rw [e, List.count_cons]
    by_cases z : (B.clm k).d = x
    · rw [if_pos z, if_pos (by rw [z]; exact beq_self_eq_true x), Int.natCast_add, Int.mul_add]
      omega
    · rw [if_neg z, if_neg (fun y => z (eq_of_beq y)), Int.natCast_add, Int.mul_add]
      omega
theorem ring_count {B : Bk} {r : List Nat} (R : IsRing B r) (x : Int) : (csOf B r).count x = (dsOf B r).count x := by
  rw [R.turn, List.count_append, Nat.add_comm, ← List.count_append, List.take_append_drop]
theorem left_ring {B : Bk} {r : List Nat} {P : List Int} {c : Int} (R : IsRing B r) (hl : P.length = B.claims.length) (hr : ∀ k ∈ r, k < B.claims.length) : leftOf B (addR P r c) = leftOf B P := by
  refine ext_g (by rw [leftOf_len, leftOf_len]) fun k hk => ?_
  rw [leftOf_len] at hk
  rw [g_left hk, g_left hk, means_addR _ c hl hr, paid_addR _ c hl hr, ring_count R]
  omega
theorem sum_addR : ∀ {r : List Nat} {P : List Int} {c : Int}, (∀ k ∈ r, k < P.length) → (addR P r c).sum = P.sum + c * r.length
  | [], P, c, _ => by
    show P.sum = P.sum + c * ((0 : Nat) : Int)
    rw [Int.natCast_zero, Int.mul_zero, Int.add_zero]
  | k :: r, P, c, h => by
    show (addR (P.set k (g P k + c)) r c).sum = _
    rw [sum_addR fun j hj => by rw [List.length_set]; exact h j (List.mem_cons_of_mem _ hj), sum_set_g (h k List.mem_cons_self)]
    show _ = P.sum + c * ((r.length + 1 : Nat) : Int)
    rw [Int.natCast_add, Int.mul_add]
    omega
def minOf : List Int → Int
  | [] => 0
  | [x] => x
  | x :: y :: l => min x (minOf (y :: l))
theorem minOf_ok : ∀ {l : List Int}, l ≠ [] → minOf l ∈ l ∧ ∀ y ∈ l, minOf l ≤ y
  | [], h => absurd rfl h
  | [x], _ => ⟨List.mem_cons_self, fun y hy => by rw [List.mem_singleton.mp hy]; exact Int.le_refl _⟩
  | x :: y :: l, _ => by
    obtain ⟨a, b⟩ := minOf_ok (l := y :: l) (fun z => nomatch z)
    have e : minOf (x :: y :: l) = min x (minOf (y :: l)) := rfl
    rw [e]
    refine ⟨?_, fun z hz => ?_⟩
    · by_cases h : x ≤ minOf (y :: l)
      · rw [Int.min_eq_left h]
        exact List.mem_cons_self
      · rw [Int.min_eq_right (by omega)]
        exact List.mem_cons_of_mem _ a
    · rcases List.mem_cons.mp hz with w | w
      · subst w
        exact Int.min_le_left _ _
      · exact Int.le_trans (Int.min_le_right _ _) (b z w)
def ringsFrom (B : Bk) : Nat → List Int → List (List Nat × Int) × List Int
  | 0, P => ([], P)
  | f + 1, P => if ringIn B (P.length + 1) (numbersOf P) = [] then ([], P) else
    ((ringIn B (P.length + 1) (numbersOf P), minOf ((ringIn B (P.length + 1) (numbersOf P)).map (g P))) :: (ringsFrom B f (addR P (ringIn B (P.length + 1) (numbersOf P)) (-minOf ((ringIn B (P.length + 1) (numbersOf P)).map (g P))))).1,
      (ringsFrom B f (addR P (ringIn B (P.length + 1) (numbersOf P)) (-minOf ((ringIn B (P.length + 1) (numbersOf P)).map (g P))))).2)
def tot (rs : List (List Nat × Int)) (k : Nat) : Int := (rs.map fun q => if k ∈ q.1 then q.2 else 0).sum
structure RingsOk (B : Bk) (P : List Int) (rs : List (List Nat × Int)) (P' : List Int) : Prop where
  len : P'.length = B.claims.length
  lo : ∀ k, k < B.claims.length → 0 ≤ g P' k
  left : leftOf B P' = leftOf B P
  ring : ∀ q ∈ rs, IsRing B q.1 ∧ 1 ≤ q.2 ∧ ∀ k ∈ q.1, k < B.claims.length
  tot : ∀ k, k < B.claims.length → g P k = g P' k + tot rs k
  short : (rs.length : Int) ≤ P.sum - P'.sum
  none : ringIn B (P'.length + 1) (numbersOf P') = []
/-- a ring is taken off -/
theorem ring_off {B : Bk} (G : Good B) {P : List Int} {r : List Nat} (hl : P.length = B.claims.length) (h0 : ∀ k, k < B.claims.length → 0 ≤ g P k) (er : ringIn B (P.length + 1) (numbersOf P) = r) (hr : r ≠ []) :
    IsRing B r ∧ (∀ k ∈ r, k < B.claims.length) ∧ 1 ≤ minOf (r.map (g P)) ∧ (∀ k ∈ r, minOf (r.map (g P)) ≤ g P k) ∧ (addR P r (-minOf (r.map (g P)))).length = B.claims.length ∧ (∀ k, k < B.claims.length → 0 ≤ g (addR P r (-minOf (r.map (g P)))) k) ∧ leftOf B (addR P r (-minOf (r.map (g P)))) = leftOf B P ∧
      (addR P r (-minOf (r.map (g P)))).sum + 2 ≤ P.sum := by
  have hlt : ∀ k ∈ numbersOf P, k < B.claims.length := fun k hk => by rw [← hl]; exact (mem_numbers.mp hk).1
  obtain ⟨R, hs⟩ := ring_some G (P.length + 1) hlt (by rw [er]; exact hr)
  rw [er] at R hs
  have hrl : ∀ k ∈ r, k < B.claims.length := fun k hk => hlt k (hs k hk)
  have hm := minOf_ok (l := r.map (g P)) (fun z => hr (List.map_eq_nil_iff.mp z))
  have h1 : 1 ≤ minOf (r.map (g P)) := by
    obtain ⟨k, hk, e⟩ := List.mem_map.mp hm.1
    have := (mem_numbers.mp (hs k hk)).2
    omega
  have h2 : ∀ k ∈ r, minOf (r.map (g P)) ≤ g P k := fun k hk => hm.2 _ (List.mem_map_of_mem hk)
  have hrl' : ∀ k ∈ r, k < P.length := fun k hk => by rw [hl]; exact hrl k hk
  refine ⟨R, hrl, h1, h2, by rw [addR_len]; exact hl, fun k hk => ?_, left_ring R hl hrl, ?_⟩
  · rw [g_addR R.nd hrl']
    by_cases e : k ∈ r
    · rw [if_pos e]
      have := h2 k e
      omega
    · rw [if_neg e]
      have := h0 k hk
      omega
  · rw [sum_addR hrl']
    have t := R.two
    have : minOf (r.map (g P)) * 2 ≤ minOf (r.map (g P)) * (r.length : Int) := Int.mul_le_mul_of_nonneg_left (by omega) (by omega)
    rw [Int.neg_mul]
    omega
theorem sum_nn_of {P : List Int} {n : Nat} (hl : P.length = n) (h0 : ∀ k, k < n → 0 ≤ g P k) : 0 ≤ P.sum := sum_nonneg fun i hi => h0 i (hl ▸ hi)
theorem rings_ok {B : Bk} (G : Good B) : ∀ (f : Nat) {P : List Int}, P.length = B.claims.length → (∀ k, k < B.claims.length → 0 ≤ g P k) → P.sum < f → RingsOk B P (ringsFrom B f P).1 (ringsFrom B f P).2
  | 0, P, hl, h0, hf => by
    have := sum_nn_of hl h0
    omega
  | f + 1, P, hl, h0, hf => by
    unfold ringsFrom
    by_cases e : ringIn B (P.length + 1) (numbersOf P) = []
    · rw [if_pos e]
      exact ⟨hl, h0, rfl, (fun q h => nomatch h), fun k _ => by show g P k = g P k + 0; omega, by show (0 : Int) ≤ P.sum - P.sum; omega, e⟩
    · rw [if_neg e]
      generalize er : ringIn B (P.length + 1) (numbersOf P) = r at e
      obtain ⟨R, hrl, h1, h2, l2, lo2, lf2, s2⟩ := ring_off G hl h0 er e
      generalize minOf (r.map (g P)) = c at h1 h2 l2 lo2 lf2 s2 ⊢
      have s3 : (addR P r (-c)).sum < (f : Int) := by omega
      have ih := rings_ok G f l2 lo2 s3
      have hrl' : ∀ k ∈ r, k < P.length := fun k hk => by rw [hl]; exact hrl k hk
      refine ⟨ih.len, ih.lo, ih.left.trans lf2, fun q hq => ?_, fun k hk => ?_, ?_, ih.none⟩
      · rcases List.mem_cons.mp hq with z | z
        · rw [z]
          exact ⟨R, h1, hrl⟩
        · exact ih.ring q z
      · have q := ih.tot k hk
        rw [g_addR R.nd hrl'] at q
        show g P k = g (ringsFrom B f (addR P r (-c))).2 k + ((if k ∈ r then c else 0) + tot (ringsFrom B f (addR P r (-c))).1 k)
        by_cases z : k ∈ r
        · rw [if_pos z] at q ⊢
          omega
        · rw [if_neg z] at q ⊢
          omega
      · have := ih.short
        show (((ringsFrom B f (addR P r (-c))).1.length + 1 : Nat) : Int) ≤ P.sum - (ringsFrom B f (addR P r (-c))).2.sum
        omega
/-! payments, one after another -/
def onlyP (P : List Int) (ds : List Nat) : List Int := (List.range P.length).map fun k => if k ∈ ds then g P k else 0
theorem only_len (P : List Int) (ds : List Nat) : (onlyP P ds).length = P.length := by unfold onlyP; rw [List.length_map, List.length_range]
theorem g_only {P : List Int} {ds : List Nat} {k : Nat} (h : k < P.length) : g (onlyP P ds) k = if k ∈ ds then g P k else 0 := g_rangeMap h
theorem only_snoc {P : List Int} {ds : List Nat} {k : Nat} (h : k < P.length) (hn : k ∉ ds) : onlyP P (ds ++ [k]) = (onlyP P ds).set k (g (onlyP P ds) k + g P k) := by
  refine ext_g (by rw [List.length_set, only_len, only_len]) fun i hi => ?_
  rw [only_len] at hi
  rw [g_only hi]
  by_cases e : k = i
  · subst e
    rw [g_set_same (by rw [only_len]; exact hi), g_only hi, if_neg hn, if_pos (List.mem_append_right _ List.mem_cons_self)]
    omega
  · rw [g_set_ne e, g_only hi]
    by_cases z : i ∈ ds
    · rw [if_pos z, if_pos (List.mem_append_left _ z)]
    · rw [if_neg z, if_neg fun y => by
        rcases List.mem_append.mp y with w | w
        · exact z w
        · exact e (List.mem_singleton.mp w).symm]
theorem only_nil {B : Bk} {P : List Int} (hl : P.length = B.claims.length) : onlyP P [] = noneP B := by
  refine ext_g (by rw [only_len, noneP_len, hl]) fun k hk => ?_
  rw [only_len] at hk
  rw [g_only hk, g_noneP (by rw [← hl]; exact hk), if_neg List.not_mem_nil]
theorem only_all {P : List Int} {ds : List Nat} (h0 : ∀ k, k < P.length → 0 ≤ g P k) (h : ∀ k ∈ numbersOf P, k ∈ ds) : onlyP P ds = P := by
  refine ext_g (only_len _ _) fun k hk => ?_
  rw [only_len] at hk
  rw [g_only hk]
  by_cases z : k ∈ ds
  · rw [if_pos z]
  · rw [if_neg z]
    have := h0 k hk
    have : ¬ 0 < g P k := fun y => z (h k (mem_numbers.mpr ⟨hk, y⟩))
    omega
def payOne (B : Bk) (P : List Int) (s : List Nat × List Nat) (k : Nat) : List Nat × List Nat := if g P k ≤ g (leftOf B (onlyP P s.1)) (B.clm k).d.toNat then (s.1 ++ [k], s.2) else (s.1, s.2 ++ [k])
def passOf (B : Bk) (P : List Int) (ws done : List Nat) : List Nat × List Nat := ws.foldl (payOne B P) (done, [])
def payGo (B : Bk) (P : List Int) : Nat → List Nat → List Nat → List Nat
  | 0, _, done => done
  | f + 1, ws, done => if ws = [] then done else payGo B P f (passOf B P ws done).2 (passOf B P ws done).1
inductive PayOk (B : Bk) (P : List Int) : List Nat → Prop
  | nil : PayOk B P []
  | snoc {ds : List Nat} {k : Nat} : PayOk B P ds → k < P.length → 0 < g P k → k ∉ ds → g P k ≤ g (leftOf B (onlyP P ds)) (B.clm k).d.toNat → PayOk B P (ds ++ [k])
theorem pass_ok {B : Bk} {P : List Int} : ∀ (ws : List Nat) {s : List Nat × List Nat}, PayOk B P s.1 → (s.1 ++ s.2 ++ ws).Perm (numbersOf P) → PayOk B P (ws.foldl (payOne B P) s).1 ∧ ((ws.foldl (payOne B P) s).1 ++ (ws.foldl (payOne B P) s).2).Perm (numbersOf P) ∧ (ws.foldl (payOne B P) s).2.length ≤ s.2.length + ws.length
  | [], s, h, hp => ⟨h, by rw [List.append_nil] at hp; exact hp, Nat.le_refl _⟩
  | k :: ws, s, h, hp => by
    have hnd : (s.1 ++ s.2 ++ k :: ws).Nodup := hp.nodup_iff.mpr (numbers_nodup P)
    have hk := mem_numbers.mp (hp.mem_iff.mp (List.mem_append_right _ List.mem_cons_self))
    have hn : k ∉ s.1 := fun z => (List.nodup_append.mp hnd).2.2 k (List.mem_append_left _ z) k List.mem_cons_self rfl
    show PayOk B P (ws.foldl (payOne B P) (payOne B P s k)).1 ∧ ((ws.foldl (payOne B P) (payOne B P s k)).1 ++ (ws.foldl (payOne B P) (payOne B P s k)).2).Perm (numbersOf P) ∧ (ws.foldl (payOne B P) (payOne B P s k)).2.length ≤ _
    by_cases e : g P k ≤ g (leftOf B (onlyP P s.1)) (B.clm k).d.toNat
    · have e1 : payOne B P s k = (s.1 ++ [k], s.2) := if_pos e
      rw [e1]
      obtain ⟨a, b, c⟩ := pass_ok ws (s := (s.1 ++ [k], s.2)) (.snoc h hk.1 hk.2 hn e) (by
        refine List.Perm.trans ?_ hp
        show (s.1 ++ [k] ++ s.2 ++ ws).Perm (s.1 ++ s.2 ++ k :: ws)
        rw [List.append_assoc, List.append_assoc, List.append_assoc]
        exact List.Perm.append_left _ (List.perm_middle (a := k) (l₁ := s.2) (l₂ := ws)).symm)
      exact ⟨a, b, Nat.le_trans c (by show s.2.length + ws.length ≤ s.2.length + (ws.length + 1); omega)⟩
    · have e1 : payOne B P s k = (s.1, s.2 ++ [k]) := if_neg e
      rw [e1]
      obtain ⟨a, b, c⟩ := pass_ok ws (s := (s.1, s.2 ++ [k])) h (by
        refine List.Perm.trans (List.Perm.of_eq ?_) hp
        show s.1 ++ (s.2 ++ [k]) ++ ws = s.1 ++ s.2 ++ k :: ws
        rw [List.append_assoc, List.append_assoc, List.append_assoc]
        rfl)
      refine ⟨a, b, Nat.le_trans c ?_⟩
      show (s.2 ++ [k]).length + ws.length ≤ s.2.length + (ws.length + 1)
      rw [List.length_append]
      show s.2.length + 1 + ws.length ≤ _
      omega
/-- who waits for nobody holds enough -/
theorem pay_fits {B : Bk} (G : Good B) {P : List Int} {done rest : List Nat} {k : Nat} (hl : P.length = B.claims.length) (h0 : ∀ j, j < B.claims.length → 0 ≤ g P j) (hp : (done ++ rest).Perm (numbersOf P)) (hk : k ∈ rest) (hf : ∀ j ∈ rest, (B.clm j).c ≠ (B.clm k).d) (hleft : ∀ x, x < B.cash.length → 0 ≤ g (leftOf B P) x) :
    g P k ≤ g (leftOf B (onlyP P done)) (B.clm k).d.toNat := by
  have hkn := mem_numbers.mp (hp.mem_iff.mp (List.mem_append_right _ hk))
  have hkl : k < B.claims.length := by rw [← hl]; exact hkn.1
  obtain ⟨n, en, hn⟩ := (⟨(B.clm k).d.toNat, by have := (G.clm hkl).d0; omega, by have := (G.clm hkl).d1; have := (G.clm hkl).d0; omega⟩ : ∃ n : Nat, (B.clm k).d = (n : Int) ∧ n < B.cash.length)
  have e1 : (B.clm k).d.toNat = n := by omega
  have hnd : (done ++ rest).Nodup := hp.nodup_iff.mpr (numbers_nodup P)
  have hkd : k ∉ done := fun z => (List.nodup_append.mp hnd).2.2 k z k hk rfl
  rw [e1, g_left hn]
  have hm : meansOf B (n : Int) (onlyP P done) = meansOf B (n : Int) P := means_same (only_len _ _) fun j hj hc => by
    rw [only_len] at hj
    rw [g_only hj]
    by_cases z : j ∈ done
    · rw [if_pos z]
    · rw [if_neg z]
      have hj' : j < B.claims.length := by rw [← hl]; exact hj
      have := h0 j hj'
      have : ¬ 0 < g P j := fun y => by
        rcases List.mem_append.mp (hp.mem_iff.mpr (mem_numbers.mpr ⟨hj, y⟩)) with w | w
        · exact z w
        · exact hf j w (by rw [hc, en])
      omega
  have hs := paid_set (B := B) (P := onlyP P done) (c := k) (v := g (onlyP P done) k + g P k) (by rw [only_len]; exact hl) hkl (n : Int)
  rw [← only_snoc hkn.1 hkd, if_pos en] at hs
  have hle : paidOut B (n : Int) (onlyP P (done ++ [k])) ≤ paidOut B (n : Int) P := by
    unfold paidOut
    rw [only_len]
    refine sumIf_le fun j hj _ => ?_
    rw [g_only hj]
    by_cases z : j ∈ done ++ [k]
    · rw [if_pos z]
      exact Int.le_refl _
    · rw [if_neg z]
      exact h0 j (by rw [← hl]; exact hj)
  have hlf := hleft n hn
  rw [g_left hn] at hlf
  rw [hm]
  omega
theorem pass_less {B : Bk} (G : Good B) {P : List Int} (hl : P.length = B.claims.length) (h0 : ∀ j, j < B.claims.length → 0 ≤ g P j) (hleft : ∀ x, x < B.cash.length → 0 ≤ g (leftOf B P) x) {k : Nat} : ∀ (ws : List Nat) {s : List Nat × List Nat}, PayOk B P s.1 → (s.1 ++ s.2 ++ ws).Perm (numbersOf P) → k ∈ ws → (∀ j ∈ s.2 ++ ws, (B.clm j).c ≠ (B.clm k).d) → (ws.foldl (payOne B P) s).2.length < s.2.length + ws.length
  | [], _, _, _, hk, _ => nomatch hk
  | i :: ws, s, h, hp, hk, hf => by
    have hnd : (s.1 ++ s.2 ++ i :: ws).Nodup := hp.nodup_iff.mpr (numbers_nodup P)
    have hi := mem_numbers.mp (hp.mem_iff.mp (List.mem_append_right _ List.mem_cons_self))
    have hn : i ∉ s.1 := fun z => (List.nodup_append.mp hnd).2.2 i (List.mem_append_left _ z) i List.mem_cons_self rfl
    show (ws.foldl (payOne B P) (payOne B P s i)).2.length < s.2.length + (ws.length + 1)
    have p1 : (s.1 ++ [i] ++ s.2 ++ ws).Perm (numbersOf P) := by
      refine List.Perm.trans ?_ hp
      rw [List.append_assoc, List.append_assoc, List.append_assoc]
      exact List.Perm.append_left _ (List.perm_middle (a := i) (l₁ := s.2) (l₂ := ws)).symm
    have p2 : (s.1 ++ (s.2 ++ [i]) ++ ws).Perm (numbersOf P) := by
      refine List.Perm.trans (List.Perm.of_eq ?_) hp
      rw [List.append_assoc, List.append_assoc, List.append_assoc]
      rfl
    by_cases e : g P i ≤ g (leftOf B (onlyP P s.1)) (B.clm i).d.toNat
    · have e1 : payOne B P s i = (s.1 ++ [i], s.2) := if_pos e
      rw [e1]
      have q := (pass_ok ws (s := (s.1 ++ [i], s.2)) (.snoc h hi.1 hi.2 hn e) p1).2.2
      exact Nat.lt_of_le_of_lt q (by show s.2.length + ws.length < _; omega)
    · have e1 : payOne B P s i = (s.1, s.2 ++ [i]) := if_neg e
      rw [e1]
      rcases List.mem_cons.mp hk with z | z
      · subst z
        exact absurd (pay_fits G hl h0 (by rw [← List.append_assoc]; exact hp) (List.mem_append_right _ List.mem_cons_self) hf hleft) e
      · have q := pass_less G hl h0 hleft ws (s := (s.1, s.2 ++ [i])) h p2 z fun j hj => hf j (by
          rcases List.mem_append.mp hj with w | w
          · rcases List.mem_append.mp w with y | y
            · exact List.mem_append_left _ y
            · rw [List.mem_singleton.mp y]
              exact List.mem_append_right _ List.mem_cons_self
          · exact List.mem_append_right _ (List.mem_cons_of_mem _ w))
        have e2 : (s.2 ++ [i]).length = s.2.length + 1 := List.length_append
        rw [show ((s.1, s.2 ++ [i]) : List Nat × List Nat).2 = s.2 ++ [i] from rfl, e2] at q
        omega
/-- one round of payments -/
theorem pass_round {B : Bk} (G : Good B) {P : List Int} (hl : P.length = B.claims.length) (h0 : ∀ j, j < B.claims.length → 0 ≤ g P j) (hleft : ∀ x, x < B.cash.length → 0 ≤ g (leftOf B P) x) (hr : ringIn B (P.length + 1) (numbersOf P) = []) {ws done : List Nat} (hw : ws ≠ []) (h : PayOk B P done) (hp : (done ++ ws).Perm (numbersOf P)) :
    PayOk B P (passOf B P ws done).1 ∧ ((passOf B P ws done).1 ++ (passOf B P ws done).2).Perm (numbersOf P) ∧ (passOf B P ws done).2.length < ws.length := by
  have hs : ∀ k ∈ ws, k ∈ numbersOf P := fun k hk => hp.mem_iff.mp (List.mem_append_right _ hk)
  obtain ⟨k, hk, hf⟩ := ring_none G (P.length + 1) (by have := numbers_len P; omega) (fun k hk => by rw [← hl]; exact (mem_numbers.mp hk).1) hr ws hs hw
  have hp' : ((done, ([] : List Nat)).1 ++ (done, ([] : List Nat)).2 ++ ws).Perm (numbersOf P) := by
    show (done ++ [] ++ ws).Perm _
    rw [List.append_nil]
    exact hp
  obtain ⟨a, b, _⟩ := pass_ok (B := B) ws (s := (done, [])) h hp'
  have c := pass_less G hl h0 hleft ws (s := (done, [])) h hp' hk (fun j hj => hf j hj)
  exact ⟨a, b, by rw [show ((done, []) : List Nat × List Nat).2.length + ws.length = ws.length from Nat.zero_add _] at c; exact c⟩
theorem payGo_ok {B : Bk} (G : Good B) {P : List Int} (hl : P.length = B.claims.length) (h0 : ∀ j, j < B.claims.length → 0 ≤ g P j) (hleft : ∀ x, x < B.cash.length → 0 ≤ g (leftOf B P) x) (hr : ringIn B (P.length + 1) (numbersOf P) = []) : ∀ (f : Nat) {ws done : List Nat}, ws.length < f → PayOk B P done → (done ++ ws).Perm (numbersOf P) → PayOk B P (payGo B P f ws done) ∧ (payGo B P f ws done).Perm (numbersOf P)
  | 0, _, _, hf, _, _ => absurd hf (Nat.not_lt_zero _)
  | f + 1, ws, done, hf, h, hp => by
    unfold payGo
    by_cases e : ws = []
    · rw [if_pos e]
      rw [e, List.append_nil] at hp
      exact ⟨h, hp⟩
    · rw [if_neg e]
      obtain ⟨a, b, c⟩ := pass_round G hl h0 hleft hr e h hp
      exact payGo_ok G hl h0 hleft hr f (by omega) a b
/-! moves -/
inductive Mv where
  | pay : Nat → Int → Mv
  | ring : List Nat → Int → Mv
def Mv.nums : Mv → List Nat
  | .pay k _ => [k]
  | .ring ks _ => ks
def Mv.coins : Mv → Int
  | .pay _ c => c
  | .ring _ c => c
def Mv.word : Mv → Str
  | .pay _ _ => "pay"
  | .ring _ _ => "ring"
def doMv (P : List Int) (m : Mv) : List Int := addR P m.nums m.coins
def playedOf (P : List Int) (ms : List Mv) : List Int := ms.foldl doMv P
structure Fits (B : Bk) (P : List Int) (m : Mv) : Prop where
  one : 1 ≤ m.coins
  owed : ∀ k ∈ m.nums, k < B.claims.length ∧ g P k + m.coins ≤ amt B k
  pay : ∀ k c, m = .pay k c → c ≤ g (leftOf B P) (B.clm k).d.toNat
  ring : ∀ ks c, m = .ring ks c → IsRing B ks
def AllFit (B : Bk) : List Int → List Mv → Prop
  | _, [] => True
  | P, m :: ms => Fits B P m ∧ AllFit B (doMv P m) ms
theorem allFit_app {B : Bk} : ∀ {a b : List Mv} {P : List Int}, AllFit B P (a ++ b) ↔ AllFit B P a ∧ AllFit B (playedOf P a) b
  | [], _, _ => ⟨fun h => ⟨True.intro, h⟩, fun h => h.2⟩
  | m :: a, b, P => by
    show Fits B P m ∧ AllFit B (doMv P m) (a ++ b) ↔ (Fits B P m ∧ AllFit B (doMv P m) a) ∧ AllFit B (playedOf (doMv P m) a) b
    rw [allFit_app (a := a)]
    exact ⟨fun ⟨x, y, z⟩ => ⟨⟨x, y⟩, z⟩, fun ⟨⟨x, y⟩, z⟩ => ⟨x, y, z⟩⟩
theorem allFit_at {B : Bk} {ms : List Mv} {P : List Int} {i : Nat} {m : Mv} (h : AllFit B P ms) (hi : ms[i]? = some m) : Fits B (playedOf P (ms.take i)) m ∧ playedOf P (ms.take (i + 1)) = doMv (playedOf P (ms.take i)) m := by
  have hl := (List.getElem?_eq_some_iff.mp hi).1
  have he := (List.getElem?_eq_some_iff.mp hi).2
  have e : ms = ms.take i ++ (m :: ms.drop (i + 1)) := by
    have q := List.take_append_drop i ms
    rw [List.drop_eq_getElem_cons hl, he] at q
    exact q.symm
  rw [e] at h
  refine ⟨(allFit_app.mp h).2.1, ?_⟩
  unfold playedOf
  rw [List.take_add_one, hi, List.foldl_append]
  rfl
theorem allFit_take {B : Bk} {ms : List Mv} {P : List Int} (h : AllFit B P ms) (i : Nat) : AllFit B P (ms.take i) := by
  rw [← List.take_append_drop i ms] at h
  exact (allFit_app.mp h).1
theorem do_len (P : List Int) (m : Mv) : (doMv P m).length = P.length := addR_len _ _ _
theorem played_len : ∀ (ms : List Mv) (P : List Int), (playedOf P ms).length = P.length
  | [], _ => rfl
  | m :: ms, P => by
    show (playedOf (doMv P m) ms).length = _
    rw [played_len ms, do_len]
theorem fits_nd {B : Bk} {P : List Int} {m : Mv} (F : Fits B P m) : m.nums.Nodup := by
  cases m with
  | pay k c => exact List.nodup_cons.mpr ⟨List.not_mem_nil, List.nodup_nil⟩
  | ring ks c => exact (F.ring ks c rfl).nd
theorem do_ok {B : Bk} (G : Good B) {P : List Int} {m : Mv} (hP : Pay B P) (hn : ∀ x, x < B.cash.length → 0 ≤ g (leftOf B P) x) (F : Fits B P m) : Pay B (doMv P m) ∧ ∀ x, x < B.cash.length → 0 ≤ g (leftOf B (doMv P m)) x := by
  have hlt : ∀ k ∈ m.nums, k < P.length := fun k hk => by rw [hP.len]; exact (F.owed k hk).1
  have nd := fits_nd F
  have one := F.one
  have hpay : Pay B (doMv P m) := by
    refine ⟨by rw [do_len]; exact hP.len, fun k hk => ?_, fun k hk => ?_⟩
    · unfold doMv
      rw [g_addR nd hlt]
      have := hP.lo k hk
      split <;> omega
    · unfold doMv
      rw [g_addR nd hlt]
      by_cases e : k ∈ m.nums
      · rw [if_pos e]
        exact (F.owed k e).2
      · rw [if_neg e]
        have := hP.hi k hk
        omega
  refine ⟨hpay, fun x hx => ?_⟩
  cases m with
  | ring ks c =>
    have e : leftOf B (doMv P (.ring ks c)) = leftOf B P := left_ring (F.ring ks c rfl) hP.len fun k hk => (F.owed k hk).1
    rw [e]
    exact hn x hx
  | pay k c =>
    have hk := (F.owed k List.mem_cons_self).1
    have hc := F.pay k c rfl
    have d0 := (G.clm hk).d0
    have d1 := (G.clm hk).d1
    have hd : (B.clm k).d.toNat < B.cash.length := by omega
    have one' : 1 ≤ c := one
    show 0 ≤ g (leftOf B (P.set k (g P k + c))) x
    rw [g_left hx, means_set hP.len hk, paid_set hP.len hk]
    have hl := hn x hx
    rw [g_left hx] at hl
    rw [g_left hd, Int.toNat_of_nonneg d0] at hc
    by_cases e1 : (B.clm k).d = (x : Int)
    · rw [if_pos e1]
      rw [e1] at hc
      split <;> omega
    · rw [if_neg e1]
      split <;> omega
theorem run_ok {B : Bk} (G : Good B) : ∀ {ms : List Mv} {P : List Int}, Pay B P → (∀ x, x < B.cash.length → 0 ≤ g (leftOf B P) x) → AllFit B P ms → Pay B (playedOf P ms) ∧ ∀ x, x < B.cash.length → 0 ≤ g (leftOf B (playedOf P ms)) x
  | [], _, hP, hn, _ => ⟨hP, hn⟩
  | m :: ms, P, hP, hn, h => by
    obtain ⟨a, b⟩ := do_ok G hP hn h.1
    exact run_ok G (P := doMv P m) (ms := ms) a b h.2
def payMv (P : List Int) (k : Nat) : Mv := .pay k (g P k)
def ringMv (q : List Nat × Int) : Mv := .ring q.1 q.2
theorem pays_ok {B : Bk} {P : List Int} (hP : Pay B P) {ds : List Nat} (h : PayOk B P ds) : AllFit B (noneP B) (ds.map (payMv P)) ∧ playedOf (noneP B) (ds.map (payMv P)) = onlyP P ds := by
  induction h with
  | nil => exact ⟨True.intro, (only_nil hP.len).symm⟩
  | @snoc ds k h1 h2 h3 h4 h5 ih =>
    have hk : k < B.claims.length := by rw [← hP.len]; exact h2
    rw [List.map_append, allFit_app, ih.2]
    refine ⟨⟨ih.1, ⟨show 1 ≤ g P k by omega, fun j hj => ?_, fun k' c' e => ?_, fun ks c e => nomatch e⟩, True.intro⟩, ?_⟩
    · have ej : j = k := List.mem_singleton.mp hj
      rw [ej, g_only h2, if_neg h4]
      have := hP.hi k hk
      exact ⟨hk, by show 0 + g P k ≤ _; omega⟩
    · cases e
      exact h5
    · unfold playedOf at ih ⊢
      rw [List.foldl_append, ih.2, only_snoc h2 h4]
      rfl
theorem tot_nn {rs : List (List Nat × Int)} (h : ∀ q ∈ rs, 1 ≤ q.2) (k : Nat) : 0 ≤ tot rs k := by
  induction rs with
  | nil => exact Int.le_refl _
  | cons q rs ih =>
    have h1 := h q List.mem_cons_self
    have h2 := ih fun z hz => h z (List.mem_cons_of_mem _ hz)
    show 0 ≤ (if k ∈ q.1 then q.2 else 0) + tot rs k
    split <;> omega
theorem ringsPlay {B : Bk} : ∀ {rs : List (List Nat × Int)} {P : List Int}, P.length = B.claims.length → (∀ q ∈ rs, IsRing B q.1 ∧ 1 ≤ q.2 ∧ ∀ k ∈ q.1, k < B.claims.length) → (∀ k, k < B.claims.length → g P k + tot rs k ≤ amt B k) → AllFit B P (rs.map ringMv) ∧ ∀ k, k < B.claims.length → g (playedOf P (rs.map ringMv)) k = g P k + tot rs k
  | [], P, _, _, _ => ⟨True.intro, fun k _ => by show g P k = g P k + 0; omega⟩
  | q :: rs, P, hl, hr, ht => by
    obtain ⟨R, h1, h2⟩ := hr q List.mem_cons_self
    have h2' : ∀ k ∈ q.1, k < P.length := fun k hk => by rw [hl]; exact h2 k hk
    have eg : ∀ k, g (doMv P (ringMv q)) k = g P k + (if k ∈ q.1 then q.2 else 0) := g_addR R.nd h2'
    have et : ∀ k, tot (q :: rs) k = (if k ∈ q.1 then q.2 else 0) + tot rs k := fun k => rfl
    have nn : ∀ k, 0 ≤ tot rs k := tot_nn fun z hz => (hr z (List.mem_cons_of_mem _ hz)).2.1
    obtain ⟨a, b⟩ := ringsPlay (rs := rs) (P := doMv P (ringMv q)) (by rw [do_len]; exact hl) (fun z hz => hr z (List.mem_cons_of_mem _ hz)) fun k hk => by
      have := ht k hk
      rw [et] at this
      rw [eg]
      omega
    refine ⟨⟨⟨h1, fun k hk => ?_, fun k c e => (nomatch e), fun ks c e => ?_⟩, a⟩, fun k hk => ?_⟩
    · have := ht k (h2 k hk)
      rw [et, if_pos (show k ∈ q.1 from hk)] at this
      have := nn k
      exact ⟨h2 k hk, by show g P k + q.2 ≤ _; omega⟩
    · cases e
      exact R
    · have := b k hk
      rw [eg] at this
      show g (playedOf (doMv P (ringMv q)) (rs.map ringMv)) k = _
      rw [this, et]
      omega
def ringsOf (B : Bk) : List (List Nat × Int) × List Int := ringsFrom B ((bestOf B).sum.toNat + 1) (bestOf B)
def paysOf (B : Bk) (P : List Int) : List Nat := payGo B P (P.length + 1) (numbersOf P) []
def orderOf (B : Bk) : List Mv := (paysOf B (ringsOf B).2).map (payMv (ringsOf B).2) ++ (ringsOf B).1.map ringMv
theorem rings_best {B : Bk} (G : Good B) : RingsOk B (bestOf B) (ringsOf B).1 (ringsOf B).2 := by
  have hP := (best_clears G).pay
  refine rings_ok G _ hP.len (fun k hk => hP.lo k hk) ?_
  have := hP.sum_nn
  omega
theorem left_best_nn {B : Bk} (G : Good B) : ∀ x, x < B.cash.length → 0 ≤ g (leftOf B (bestOf B)) x := fun x hx => left_nn G (best_clears G) _ (g_mem (by rw [leftOf_len]; exact hx))
theorem rings_pay {B : Bk} (G : Good B) : Pay B (ringsOf B).2 := by
  have R := rings_best G
  have hP := (best_clears G).pay
  refine ⟨R.len, fun k hk => R.lo k hk, fun k hk => ?_⟩
  have := R.tot k hk
  have := tot_nn (fun q hq => (R.ring q hq).2.1) k
  have := hP.hi k hk
  omega
theorem pays_best {B : Bk} (G : Good B) : PayOk B (ringsOf B).2 (paysOf B (ringsOf B).2) ∧ (paysOf B (ringsOf B).2).Perm (numbersOf (ringsOf B).2) := by
  have R := rings_best G
  refine payGo_ok G R.len R.lo (fun x hx => by rw [R.left]; exact left_best_nn G x hx) R.none _ ?_ .nil (List.Perm.refl _)
  have := numbers_len (ringsOf B).2
  omega
theorem sum_count : ∀ {ds : List Nat} {P : List Int}, ds.Nodup → (∀ k ∈ ds, k < P.length ∧ 0 < g P k) → (∀ k, k < P.length → 0 ≤ g P k) → (ds.length : Int) ≤ P.sum
  | [], P, _, _, h0 => sum_nonneg h0
  | k :: ds, P, hn, h, h0 => by
    have hn2 := List.nodup_cons.mp hn
    have hk := h k List.mem_cons_self
    have q := sum_count (ds := ds) (P := P.set k 0) hn2.2 (fun j hj => by
      have hj' := h j (List.mem_cons_of_mem _ hj)
      rw [List.length_set, g_set_ne (fun z => hn2.1 (by rw [z]; exact hj))]
      exact hj') (fun j hj => by
      rw [List.length_set] at hj
      by_cases e : k = j
      · rw [← e, g_set_same hk.1]
        exact Int.le_refl _
      · rw [g_set_ne e]
        exact h0 j hj)
    rw [sum_set_g hk.1] at q
    show ((ds.length + 1 : Nat) : Int) ≤ _
    omega
/-- the order fits, comes to the best clearing, and is no longer than its coins -/
theorem order_ok {B : Bk} (G : Good B) : AllFit B (noneP B) (orderOf B) ∧ playedOf (noneP B) (orderOf B) = bestOf B ∧ ((orderOf B).length : Int) ≤ (bestOf B).sum := by
  have R := rings_best G
  have hP := (best_clears G).pay
  have hP' := rings_pay G
  obtain ⟨h1, h2⟩ := pays_best G
  obtain ⟨a, b⟩ := pays_ok hP' h1
  rw [only_all (fun k hk => R.lo k (by rw [← R.len]; exact hk)) (fun k hk => h2.mem_iff.mpr hk)] at b
  obtain ⟨c, d⟩ := ringsPlay (rs := (ringsOf B).1) R.len R.ring fun k hk => by
    rw [← R.tot k hk]
    exact hP.hi k hk
  have ep : playedOf (noneP B) (orderOf B) = playedOf (ringsOf B).2 ((ringsOf B).1.map ringMv) := by
    unfold orderOf playedOf at *
    rw [List.foldl_append, b]
  refine ⟨?_, ?_, ?_⟩
  · unfold orderOf
    rw [allFit_app, b]
    exact ⟨a, c⟩
  · rw [ep]
    refine ext_g (by rw [played_len, R.len, hP.len]) fun k hk => ?_
    rw [played_len, R.len] at hk
    rw [d k hk, ← R.tot k hk]
  · have q1 := sum_count (ds := paysOf B (ringsOf B).2) (P := (ringsOf B).2) (h2.nodup_iff.mpr (numbers_nodup _)) (fun k hk => mem_numbers.mp (h2.mem_iff.mp hk)) fun k hk => R.lo k (by rw [← R.len]; exact hk)
    have q2 := R.short
    unfold orderOf
    rw [List.length_append, List.length_map, List.length_map]
    omega
theorem pass_step {B : Bk} {P : List Int} {s : List Nat × List Nat} {k : Nat} {ws : List Nat} (hp : (s.1 ++ s.2 ++ k :: ws).Perm (numbersOf P)) : ((payOne B P s k).1 ++ (payOne B P s k).2 ++ ws).Perm (numbersOf P) ∧ k ∉ s.1 ∧ k < P.length := by
  have hnd : (s.1 ++ s.2 ++ k :: ws).Nodup := hp.nodup_iff.mpr (numbers_nodup P)
  have hk := mem_numbers.mp (hp.mem_iff.mp (List.mem_append_right _ List.mem_cons_self))
  refine ⟨?_, fun z => (List.nodup_append.mp hnd).2.2 k (List.mem_append_left _ z) k List.mem_cons_self rfl, hk.1⟩
  refine List.Perm.trans ?_ hp
  unfold payOne
  split
  · show (s.1 ++ [k] ++ s.2 ++ ws).Perm _
    rw [List.append_assoc, List.append_assoc, List.append_assoc]
    exact List.Perm.append_left _ (List.perm_middle (a := k) (l₁ := s.2) (l₂ := ws)).symm
  · refine List.Perm.of_eq ?_
    show s.1 ++ (s.2 ++ [k]) ++ ws = _
    rw [List.append_assoc, List.append_assoc, List.append_assoc]
    rfl


end Rf
namespace Rf
open PySem PySem.Spec PyProof.Rows L2


end Rf
namespace Rf
open PySem PySem.Spec PyProof.Rows L2
/-! ### the text by places -/
def top (i : Nat) : Stmt := PySem.Challenge.pw_rankfall_k12_moves_played.main.body.getD i (.Pass ⟨0, 0, 0, 0⟩)
abbrev s_bbinit : Stmt := inClass (top 2) 0
abbrev s_nminit : Stmt := inClass (top 5) 0
abbrev s_btinit : Stmt := inClass (top 6) 0
abbrev s_next : Stmt := top 22
abbrev s_lbook : Stmt := top 23
abbrev s_are : Stmt := top 26
abbrev s_need : Stmt := top 13
abbrev s_wrong : Stmt := top 14
abbrev s_played : Stmt := top 16
abbrev s_fits : Stmt := top 17
abbrev s_areowed : Stmt := top 18
abbrev s_isring : Stmt := top 19
abbrev s_makemv : Stmt := top 20
abbrev s_lfits : Stmt := top 24
abbrev s_lplayed : Stmt := top 25
abbrev s_lring : Stmt := top 27
abbrev s_lmove : Stmt := top 28
abbrev s_told : Stmt := top 29
abbrev s_lgood : Stmt := top 30
abbrev s_law : Stmt := top 31


end Rf
namespace Rf
open PySem PySem.Spec PyProof.Rows L2
/-! ### rules that the modules lack -/
section
variable {X : Cx}
theorem get_list : PGet X (rIxL X.K) := by
  intro pins s σ H o i ov iv Q I ro ri h
  obtain ⟨p, xs, k, z, rfl, rfl, hq, he, q⟩ := h
  cases ro
  obtain ⟨t, rfl⟩ := ri
  obtain ⟨its, r, pl, hz⟩ := I.list hq
  obtain ⟨j, h1, h2, h3, h4, h5⟩ := atI_get he
  obtain ⟨w, ew, rw'⟩ := r.get h2
  have hl := r.length
  have hn := line63
  have fin : EP X pins σ Q w s := ⟨z, H, I, rw', q⟩
  by_cases h0 : 0 ≤ k
  · have hj : k.toNat = j := by
      rw [seqIndex_of h0 h5] at h1
      exact Option.some.inj h1
    exact wpAny_getItem_list pl.isList h0 (by omega) (by rw [hj]; simpa using ew) fin
  · have hj : (k + (its.toArray.size : Int)).toNat = j := by
      rw [seqIndex_neg (by omega) h4] at h1
      rw [List.size_toArray, ← hl]
      exact Option.some.inj h1
    exact wpAny_getItem_list_neg pl.isList (by omega) (by rw [List.size_toArray] <;> omega) (by omega) (by rw [hj]; simpa using ew) fin
end
theorem dec_t {p : Prop} [Decidable p] (h : p) : V.bl (decide p) = V.bl true := congrArg V.bl (decide_eq_true h)
theorem dec_f {p : Prop} [Decidable p] (h : ¬ p) : V.bl (decide p) = V.bl false := congrArg V.bl (decide_eq_false h)
theorem dec_vint {i j : Int} : decide (V.int i = V.int j) = decide (i = j) := by
  rw [dec_int]
  by_cases h : i = j
  · rw [h]; simp
  · simp [h]
/-- len, list, tuple by values -/
def rLen (K : PySem.W.Frag) : List V → Hp → VK → Prop := fun xs H Q => ∃ p ys, xs = [.ref p] ∧ (SqL K H p ys ∨ SqT K H p ys) ∧ Q (.int ys.length) H
def rListOf (K : PySem.W.Frag) : List V → Hp → VK → Prop := fun xs H Q => ∃ p ys, xs = [.ref p] ∧ (SqL K H p ys ∨ SqT K H p ys) ∧ ∀ l, H l = none → Q (.ref l) (upd H l (.lst ys))
def rTupleOf (K : PySem.W.Frag) : List V → Hp → VK → Prop := fun xs H Q => ∃ p ys, xs = [.ref p] ∧ ((SqL K H p ys ∧ ∀ l, H l = none → Q (.ref l) (upd H l (.tup ys))) ∨ (SqT K H p ys ∧ Q (.ref p) H))
theorem call_len {X : Cx} : CallR X (.builtin "len") (rLen X.K) := call_len_seq
theorem call_listOf {X : Cx} : CallR X (.type "list") (rListOf X.K) := call_list_of
theorem call_tupleOf {X : Cx} : CallR X (.type "tuple") (rTupleOf X.K) := call_tuple_of
/-- a def of the top, as the walk asks for it -/
structure DefAt (K : PySem.W.Frag) (mg : Str → Option Value) (x : Str) (st : Stmt) (ps : List Str) (f : Addr) (fd : FuncData) : Prop where
  F : Fun K x x st f fd
  b : Binds K fd ps []
  g : mg x = some (.ref f)
theorem atI_g {l : List Int} {i : Int} {j : Nat} (e : i = (j : Int)) (h : j < l.length) : atI (l.map V.int) i = some (.int (g l j)) := by
  rw [e]
  apply atI_nat
  rw [List.getElem?_map, g_get h]
  rfl
theorem ixN_nat {n j : Nat} {i : Int} (e : i = (j : Int)) (h : j < n) : ixN n i = some j := by
  unfold ixN
  rw [if_pos (by omega), if_pos (by omega)]
  rw [e]
  rfl
theorem map_set {l : List Int} {j : Nat} {y : Int} : (l.map V.int).set j (.int y) = (l.set j y).map V.int := by
  rw [List.map_set]
/-- all that was tracked but at S stands -/
def Off (S : Addr → Prop) (H H' : Hp) : Prop := ∀ b o, H b = some o → ¬ S b → H' b = some o
theorem Off.refl {S : Addr → Prop} {H : Hp} : Off S H H := fun _ _ h _ => h
theorem Off.trans {S : Addr → Prop} {H H1 H2 : Hp} (a : Off S H H1) (b : Off S H1 H2) : Off S H H2 := fun x o h n => b x o (a x o h n) n
theorem Off.same {S : Addr → Prop} {H H1 : Hp} (a : Same H H1) : Off S H H1 := fun x o h _ => a x o h
theorem Same.off {S : Addr → Prop} {H H1 : Hp} (a : Same H H1) : Off S H H1 := fun x o h _ => a x o h
theorem Same.new {H : Hp} {p : Addr} {o : HO} (h : H p = none) : Same H (upd H p o) := fun b x e => by
  rw [upd_ne (ne_of_none e h)]
  exact e
theorem Same.mut {H H' : Hp} {p : Addr} {o : HO} (e : Same H H') (h : H p = none) : Same H (upd H' p o) := fun a u ha => by
  rw [upd_ne (ne_of_none ha h)]
  exact e a u ha
theorem sq_of {K : PySem.W.Frag} {H : Hp} {a : Addr} {xs : List V} (h : H a = some (.lst xs)) : SqL K H a xs := .inl (.inl h)
theorem st_of {K : PySem.W.Frag} {H : Hp} {a : Addr} {xs : List V} (h : H a = some (.tup xs)) : SqT K H a xs := .inl (.inl h)
theorem sz_of {n : Nat} (h : n ≤ 100000) : n ≤ sizeLine := Nat.le_trans h (by decide)
theorem sz_lt {n : Nat} (h : n < 100000) : n < sizeLine := Nat.lt_of_lt_of_le h (by decide)
/-! ### statements, one by one: what a part gives, then what follows -/
section
variable {te : TE} {g : TG} {t u tz : TS} {c : TT} {D : Ends} {σ : L2.St} {H : Hp} {i : Nat}
/-- name = e; what e leaves: R -/
theorem sq_set (R : V → Hp → Prop) (h : ∀ Q : VK, (∀ v H', R v H' → Q v H') → te σ H Q) (k : ∀ v H', R v H' → tz D (σ.set i (some v)) H') : tSeq (tAsg te (gName i)) tz D σ H := h _ k
/-- name = e, a value -/
theorem sq_val (v : V) (h : ∀ Q : VK, Q v H → te σ H Q) (k : tz D (σ.set i (some v)) H) : tSeq (tAsg te (gName i)) tz D σ H := h _ k
/-- name = e, an object -/
theorem sq_new (o : HO) (h : ∀ Q : VK, (∀ p H', H p = none → Same H H' → H' p = some o → Q (.ref p) H') → te σ H Q) (k : ∀ p H', H p = none → Same H H' → H' p = some o → tz D (σ.set i (some (.ref p))) H') : tSeq (tAsg te (gName i)) tz D σ H := h _ k
theorem sq_asg (R : V → Hp → Prop) (h : ∀ Q : VK, (∀ v H', R v H' → Q v H') → te σ H Q) (k : ∀ v H', R v H' → g v σ H' (tz D)) : tSeq (tAsg te g) tz D σ H := h _ k
/-- if c: .. else ..; c's answer is b -/
theorem sq_if (R : Bool → Hp → Prop) (h : ∀ Q : Bool → Hp → Prop, (∀ b H', R b H' → Q b H') → c σ H Q) (k1 : ∀ H', R true H' → t { D with nx := tz D } σ H') (k2 : ∀ H', R false H' → u { D with nx := tz D } σ H') : tSeq (tIfS c t u) tz D σ H := by
  refine h _ fun b H' r => ?_
  cases b with
  | true => exact iteT (k1 H' r)
  | false => exact iteF (k2 H' r)
theorem sq_ifP {p : Prop} [Decidable p] (h : ∀ Q : Bool → Hp → Prop, Q (decide p) H → c σ H Q) (k1 : p → t { D with nx := tz D } σ H) (k2 : ¬ p → u { D with nx := tz D } σ H) : tSeq (tIfS c t u) tz D σ H := by
  refine h _ ?_
  by_cases e : p
  · rw [decide_eq_true e]
    exact iteT (k1 e)
  · rw [decide_eq_false e]
    exact iteF (k2 e)
/-- if c: .. (no else) -/
theorem sq_whenP {p : Prop} [Decidable p] (h : ∀ Q : Bool → Hp → Prop, Q (decide p) H → c σ H Q) (k1 : p → t { D with nx := tz D } σ H) (k2 : ¬ p → tz D σ H) : tSeq (tIfS c t tNext) tz D σ H := sq_ifP h k1 k2
theorem if_ifP {p : Prop} [Decidable p] (h : ∀ Q : Bool → Hp → Prop, Q (decide p) H → c σ H Q) (k1 : p → t D σ H) (k2 : ¬ p → u D σ H) : tIfS c t u D σ H := by
  refine h _ ?_
  by_cases e : p
  · rw [decide_eq_true e]
    exact iteT (k1 e)
  · rw [decide_eq_false e]
    exact iteF (k2 e)
/-- any statement, then the rest -/
theorem sq_seq (h : t { D with nx := tz D } σ H) : tSeq t tz D σ H := h
theorem sq_nx (h : D.nx σ H) : tNext D σ H := h
end
section
variable {te : TE} {t tz : TS} {c : TT} {D : Ends} {σ : L2.St} {H : Hp}
/-- if c: .. (no else), where c is False; what it leaves: R -/
theorem sq_no (R : Hp → Prop) (h : ∀ Q : Bool → Hp → Prop, (∀ H', R H' → Q false H') → c σ H Q) (k : ∀ H', R H' → tz D σ H') : tSeq (tIfS c t tNext) tz D σ H := h _ fun H' r => iteF (k H' r)
/-- e alone -/
theorem sq_drop (R : Hp → Prop) (h : ∀ Q : VK, (∀ v H', R H' → Q v H') → te σ H Q) (k : ∀ H', R H' → tz D σ H') : tSeq (tDrop te) tz D σ H := h _ fun _ H' r => k H' r
/-- a statement, then the rest, with a word between them -/
theorem sq_cut (M : L2.St → Hp → Prop) (h : t { D with nx := M } σ H) (k : ∀ σ' H', M σ' H' → tz D σ' H') : Evl.tCut t tz D σ H := ⟨M, h, k⟩
end


end Rf
namespace Rf
open PySem PySem.Spec PyProof.Rows L2
/-! ### loops, one by one -/
section
variable {K : PySem.W.Frag} {tl : TE} {ta : TA} {g : TG} {tu tz : TS} {D : Ends} {σ : L2.St} {H : Hp} {j : Nat}
/-- for i in range(n) -/
theorem sq_forR (n : Int) (h : ∀ Q : List V → Hp → Prop, Q [.int n] H → ta σ H Q) (hn : -(2 ^ 62) ≤ n ∧ n < 2 ^ 62) (Pv : Nat → L2.St → Hp → Prop) (h0 : Pv 0 σ H)
    (hs : ∀ (i : Nat) σ' H', (i : Int) < n → Pv i σ' H' → tu { D with nx := Pv (i + 1), ct := Pv (i + 1), bk := tz D } (σ'.set j (some (.int (i : Int)))) H') (hd : ∀ σ' H', Pv n.toNat σ' H' → tz D σ' H') : tSeq (tFor (iRng1 ta) (gName j) tu) tz D σ H := by
  refine h _ ⟨n, rfl, hn.1, hn.2, for_range (lo := 0) (n := n.toNat) (D := { D with nx := tz D }) Pv h0 (fun i σ' H' hi p => ?_) hd⟩
  have e : (0 : Int) + (i : Int) = (i : Int) := Int.zero_add _
  have q := hs i σ' H' (by omega) p
  show tu _ (σ'.set j (some (.int (0 + (i : Int))))) H'
  rw [e]
  exact q
/-- the same, the bound's reckoning leaves R -/
theorem sq_forRx (R : Int → Hp → Prop) (h : ∀ Q : List V → Hp → Prop, (∀ n H1, R n H1 → Q [.int n] H1) → ta σ H Q) (hn : ∀ n H1, R n H1 → -(2 ^ 62) ≤ n ∧ n < 2 ^ 62) (Pv : Int → Nat → L2.St → Hp → Prop) (h0 : ∀ n H1, R n H1 → Pv n 0 σ H1)
    (hs : ∀ (n : Int) (i : Nat) σ' H', (i : Int) < n → Pv n i σ' H' → tu { D with nx := Pv n (i + 1), ct := Pv n (i + 1), bk := tz D } (σ'.set j (some (.int (i : Int)))) H') (hd : ∀ (n : Int) σ' H', Pv n n.toNat σ' H' → tz D σ' H') : tSeq (tFor (iRng1 ta) (gName j) tu) tz D σ H := by
  refine h _ fun n H1 r => ⟨n, rfl, (hn n H1 r).1, (hn n H1 r).2, for_range (lo := 0) (n := n.toNat) (D := { D with nx := tz D }) (Pv n) (h0 n H1 r) (fun i σ' H' hi p => ?_) (hd n)⟩
  have e : (0 : Int) + (i : Int) = (i : Int) := Int.zero_add _
  have q := hs n i σ' H' (by omega) p
  show tu _ (σ'.set j (some (.int (0 + (i : Int))))) H'
  rw [e]
  exact q
/-- for i in range(lo, hi) -/
theorem sq_forR2 (lo n : Int) (h : ∀ Q : List V → Hp → Prop, Q [.int lo, .int n] H → ta σ H Q) (hl : -(2 ^ 62) ≤ lo ∧ lo < 2 ^ 62) (hn : -(2 ^ 62) ≤ n ∧ n < 2 ^ 62) (Pv : Nat → L2.St → Hp → Prop) (h0 : Pv 0 σ H)
    (hs : ∀ (i : Nat) σ' H', lo + (i : Int) < n → Pv i σ' H' → tu { D with nx := Pv (i + 1), ct := Pv (i + 1), bk := tz D } (σ'.set j (some (.int (lo + (i : Int))))) H') (hd : ∀ σ' H', Pv (n - lo).toNat σ' H' → tz D σ' H') : tSeq (tFor (iRng2 ta) (gName j) tu) tz D σ H :=
  h _ ⟨lo, n, rfl, ⟨hl.1, hl.2, hn.1, hn.2⟩, for_range (lo := lo) (n := (n - lo).toNat) (D := { D with nx := tz D }) Pv h0 (fun i σ' H' hi p => hs i σ' H' (by omega) p) hd⟩
/-- for x in a list -/
theorem sq_forL {a : Addr} {xs : List V} (h : ∀ Q : VK, Q (.ref a) H → tl σ H Q) (hx : SqL K H a xs) (Pv : Nat → L2.St → Hp → Prop) (h0 : Pv 0 σ H) (hl : ∀ i σ' H', i ≤ xs.length → Pv i σ' H' → SqL K H' a xs)
    (hs : ∀ i x σ' H', xs[i]? = some x → Pv i σ' H' → g x σ' H' fun σ2 H2 => tu { D with nx := Pv (i + 1), ct := Pv (i + 1), bk := tz D } σ2 H2) (hd : ∀ σ' H', Pv xs.length σ' H' → tz D σ' H') : tSeq (tFor (iList K tl) g tu) tz D σ H :=
  h _ ⟨a, rfl, ⟨xs, hx⟩, for_list (D := { D with nx := tz D }) Pv h0 hl hs hd⟩
/-- for x in a tuple -/
theorem sq_forT {a : Addr} {xs : List V} (h : ∀ Q : VK, Q (.ref a) H → tl σ H Q) (hx : SqT K H a xs) (Pv : Nat → L2.St → Hp → Prop) (h0 : Pv 0 σ H) (hl : ∀ i σ' H', i ≤ xs.length → Pv i σ' H' → SqT K H' a xs)
    (hs : ∀ i x σ' H', xs[i]? = some x → Pv i σ' H' → g x σ' H' fun σ2 H2 => tu { D with nx := Pv (i + 1), ct := Pv (i + 1), bk := tz D } σ2 H2) (hd : ∀ σ' H', Pv xs.length σ' H' → tz D σ' H') : tSeq (tFor (iTup K tl) g tu) tz D σ H :=
  h _ ⟨a, rfl, ⟨xs, hx⟩, for_tup (D := { D with nx := tz D }) Pv h0 hl hs hd⟩
/-- for i, x in enumerate(a list) -/
theorem sq_forE {a : Addr} {xs : List V} (h : ∀ Q : List V → Hp → Prop, Q [.ref a] H → ta σ H Q) (hx : SqL K H a xs) (Pv : Nat → L2.St → Hp → Prop) (h0 : Pv 0 σ H) (hl : ∀ i σ' H', i ≤ xs.length → Pv i σ' H' → SqL K H' a xs)
    (hs : ∀ (i : Nat) (x : V) (T : Addr) σ' H', xs[i]? = some x → Pv i σ' H' → H' T = none → g (.ref T) σ' (upd H' T (.tup [.int (i : Int), x])) fun σ2 H2 => tu { D with nx := Pv (i + 1), ct := Pv (i + 1), bk := tz D } σ2 H2) (hd : ∀ σ' H', Pv xs.length σ' H' → tz D σ' H') : tSeq (tFor (iEnum K ta) g tu) tz D σ H := by
  refine h _ ⟨a, xs, rfl, hx, fun i m σ H => m = xs.length - i ∧ i ≤ xs.length ∧ Pv i σ H, ⟨xs.length, rfl, Nat.zero_le _, h0⟩, ?_⟩
  rintro i m σ H ⟨rfl, hi, p⟩
  have q := hl i σ H hi p
  by_cases hlt : i < xs.length
  · have hx : xs[i]? = some xs[i] := List.getElem?_eq_getElem hlt
    refine .inr ⟨⟨xs, _, q, hx⟩, Pv (i + 1), fun σ' H' p' => ⟨xs.length - (i + 1), by omega, rfl, hlt, p'⟩, fun v H' y => ?_⟩
    obtain ⟨T, x', rfl, hT, rfl, f1⟩ := y
    exact hs i x' T σ H (f1 xs q) p hT
  · have e : i = xs.length := by omega
    subst e
    exact .inl ⟨⟨xs, q, Nat.le_refl _⟩, hd σ H p⟩
/-- a for that is its block's last -/
theorem last_for {wi : TI} (h : tSeq (tFor wi g tu) tNext D σ H) : tFor wi g tu D σ H := h
end
/-- for x in a new list -/
theorem sq_forN {K : PySem.W.Frag} {tl : TE} {g : TG} {tu tz : TS} {D : Ends} {σ : L2.St} {H : Hp} {xs : List V} (h : ∀ Q : VK, (∀ p H', H p = none → Same H H' → H' p = some (.lst xs) → Q (.ref p) H') → tl σ H Q) (Pv : Addr → Nat → L2.St → Hp → Prop)
    (h0 : ∀ p H', H p = none → Same H H' → H' p = some (.lst xs) → Pv p 0 σ H') (hl : ∀ p i σ' H', i ≤ xs.length → Pv p i σ' H' → SqL K H' p xs)
    (hs : ∀ p i x σ' H', xs[i]? = some x → Pv p i σ' H' → g x σ' H' fun σ2 H2 => tu { D with nx := Pv p (i + 1), ct := Pv p (i + 1), bk := tz D } σ2 H2) (hd : ∀ p σ' H', Pv p xs.length σ' H' → tz D σ' H') : tSeq (tFor (iList K tl) g tu) tz D σ H :=
  h _ fun p H' np s hp => ⟨p, rfl, ⟨xs, sq_of hp⟩, for_list (D := { D with nx := tz D }) (Pv p) (h0 p H' np s hp) (hl p) (hs p) (hd p)⟩
/-- the slots, told anew (much quicker than a long row of stores) -/
theorem sq_norm {tz : TS} {D : Ends} {σ : L2.St} {H : Hp} (σ' : L2.St) (e : σ = σ') (h : tz D σ' H) : tz D σ H := e ▸ h
section
variable {te : TE} {D : Ends} {σ : L2.St} {H : Hp} {i : Nat}
/-- name = e, a block's last -/
theorem last_set (R : V → Hp → Prop) (h : ∀ Q : VK, (∀ v H', R v H' → Q v H') → te σ H Q) (k : ∀ v H', R v H' → D.nx (σ.set i (some v)) H') : tAsg te (gName i) D σ H := h _ k
end


end Rf
namespace Rf
open PySem PySem.Spec PyProof.Rows L2
/-! ### enumerate(a tuple) -/
/-- the tuple at a, at each turn the next item in a new pair -/
def IteT (K : PySem.W.Frag) (a : Addr) : It where
  go := fun i H => ∃ (xs : List V) (x : V), SqT K H a xs ∧ xs[i]? = some x
  yld := fun i H v H' => ∃ T x, v = .ref T ∧ H T = none ∧ H' = upd H T (.tup [.int (i : Nat), x]) ∧ ∀ xs, SqT K H a xs → xs[i]? = some x
  stop := fun i H => ∃ xs : List V, SqT K H a xs ∧ xs.length ≤ i
theorem apart_types {h : Heap} {e a : Addr} {o u : Obj} (h1 : h.get? e = some o) (h2 : h.get? a = some u) (d : o.cls ≠ u.cls) : e ≠ a := fun z => by
  rw [z, h2] at h1
  exact d (congrArg Obj.cls (Option.some.inj h1).symm)
theorem turn_enumT {P : Program} {w : World} {K : PySem.W.Frag} {elts : List Expr} {kk : Nat} {tpos : Pos} (a e it : Addr) :
    Turn P w K (.Tuple elts kk tpos) (IteT K a) [e, it] e (fun i h => (∃ old, IsEnum h e it ((i : Nat) : Int) old) ∧ h.IsTupleIter it a i ∧ e ≠ it) where
  mem := List.mem_cons_self
  obj := fun i h st b hb => by
    obtain ⟨⟨old, he⟩, ⟨o, ho, hc, hd⟩, _⟩ := st
    rcases List.mem_cons.mp hb with z | z
    · subst z
      exact ⟨_, he, fun v q => nomatch q⟩
    · exact ⟨o, by rw [List.mem_singleton.mp z]; exact ho, fun v q => by rw [hd] at q; cases q⟩
  keep := fun i h h' st k => ⟨⟨st.1.choose, k e (by simp) _ st.1.choose_spec⟩, st.2.1.at fun o q => k it (by simp) o q, st.2.2⟩
  item := by
    intro X hP hw hK hc i pins s σ H E I hf st hg
    subst hP hw hK
    obtain ⟨⟨old, he⟩, hit, hne⟩ := st
    obtain ⟨xs, x, hq, hx⟩ := hg
    obtain ⟨its, rv, p, hz⟩ := I.tuple hq
    obtain ⟨u, hu, ru⟩ := rv.get hx
    have pt : s.heap.IsTuple a its.toArray := p
    have hel : e < s.heap.objs.size := Heap.lt_size he
    have hil : it < s.heap.objs.size := by obtain ⟨_, q, _⟩ := hit; exact Heap.lt_size q
    have hea : e ≠ a := by
      obtain ⟨o2, q2, c2, _⟩ := id pt
      exact apart_types he q2 (by rw [c2]; exact fun z => absurd (Value.type.inj z) (by decide))
    have hai : a ≠ it := by
      obtain ⟨o2, q2, c2, _⟩ := id pt
      obtain ⟨o3, q3, c3, _⟩ := id hit
      exact apart_types q2 q3 (by rw [c2, c3]; exact fun z => absurd (Value.type.inj z) (by decide))
    have hu2 : its.toArray[i]? = some u := by simpa using hu
    have hi : i < its.toArray.size := (Array.getElem?_eq_some_iff.mp hu2).1
    refine wpAny_pyNext_enum_itemD (Draws.tuple (A := X.A.in1) (I.ok.hd hc) it a hai its.toArray) he ⟨hit, pt⟩ hi hne (by simp [hne, hea]) fun y h' tk hy ho st' hT hsz hk => ?_
    obtain ⟨hit', _⟩ := st'
    have ey : y = u := Option.some.inj (hy.symm.trans hu2)
    subst ey
    refine ⟨_, rfl, wpAny_letOwnedTupleGo_enum (s := { s with heap := h', toks := tk + 1 }) ho fun h'' he' sb => ?_⟩
    have hT2 : h''.get? s.heap.objs.size = some { cls := .type "tuple", data := .seq #[.int i tk, y] } := (sb.2 _ (Nat.ne_of_gt hel)).trans hT
    have new : ObjOk X.prog X.w (upd H s.heap.objs.size (.tup [.int (i : Nat), x])) h'' s.heap.objs.size (.tup [.int (i : Nat), x]) := by
      refine ⟨by show 2 ≤ sizeLine; decide, [.int i tk, y], .cons ⟨_, rfl⟩ (.cons ru .nil), ⟨_, hT2, rfl, _, rfl⟩⟩
    have I1 : Inv X pins σ (upd H s.heap.objs.size (.tup [.int (i : Nat), x])) { s with heap := h'', toks := tk + 1 } := by
      refine I.turnedNew (ch := [e, it]) (fun b ob hb q => ?_) hf (Nat.le_refl _) new
      have n1 : b ≠ e := fun z => hb (by simp [z])
      have n2 : b ≠ it := fun z => hb (by simp [z])
      exact (sb.2 b n1).trans (hk b ob n1 n2 q)
    refine ⟨.ref s.heap.objs.size, _, I1, rfl, ⟨_, x, rfl, I.hok.fresh (Nat.le_refl _), rfl, fun ys hy => by rw [I.tuple_inj hy hq]; exact hx⟩, ⟨⟨y, ?_⟩, hit'.at fun o q => (sb.2 it (Ne.symm hne)).trans q, hne⟩, fun b hb => ?_⟩
    · have e1 : ((i + 1 : Nat) : Int) = (i : Int) + 1 := rfl
      rw [e1]
      exact he'
    · have hb' : b < s.heap.objs.size := by
        rcases List.mem_cons.mp hb with z | z
        · rw [z]; exact hel
        · rw [List.mem_singleton.mp z]; exact hil
      rw [upd_ne (Nat.ne_of_lt hb')]
      exact (hf b hb).1
  done := by
    intro X hP hw hK hc i pins s σ H E I hf st hg
    subst hP hw hK
    obtain ⟨⟨old, he⟩, hit, hne⟩ := st
    obtain ⟨xs, hq, hx⟩ := hg
    obtain ⟨its, rv, p, hz⟩ := I.tuple hq
    have pt : s.heap.IsTuple a its.toArray := p
    have hea : e ≠ a := by
      obtain ⟨o2, q2, c2, _⟩ := id pt
      exact apart_types he q2 (by rw [c2]; exact fun z => absurd (Value.type.inj z) (by decide))
    have hai : a ≠ it := by
      obtain ⟨o2, q2, c2, _⟩ := id pt
      obtain ⟨o3, q3, c3, _⟩ := id hit
      exact apart_types q2 q3 (by rw [c2, c3]; exact fun z => absurd (Value.type.inj z) (by decide))
    have hl := rv.length
    obtain ⟨f0, f1, f2, f3, f4, f5⟩ := hf it (by simp)
    have hT : s.TypeIs (.ref e) "enumerate" := ⟨_, he, rfl⟩
    unfold pyNext
    refine wpAny_bind (wpAny_attempt (wpAny_callSpecial?_slot (name := Str.ofString "__next__") hT F.slot_enumerate_next (wpAny_call_entry F.slot_enumerate_next hT F.entry_enumerate_next ?_ (F.args_enumerate_next_1 _))))
    show wpAny _ _ (field (.ref e) 2 >>= _) _ _ _
    refine wpAny_bind (wpAny_field he rfl (x := .ref it) rfl ?_)
    refine wpAny_bind (wpAny_nextOf_tuple_end (I.ok.hd hc) hit pt (by rw [Array.getElem?_eq_none]; simp; omega) fun h' x he' hx' => ?_)
    obtain ⟨o, ho, hc2⟩ := hx'
    refine wpAny_bind (wpAny_isInstance (T := "StopIteration") (b := true) ⟨o, ho, hc2⟩ isSubtype_stop ?_)
    exact wpAny_pure ⟨rfl, I.turned (t' := s.toks) (fun b o hb e => he' b o hb e) f0 f1 f3 f4 f5⟩
  self := fun A i s Q E st h => wpAny_pyIter_enum st.1.choose_spec h
set_option maxHeartbeats 1000000 in
theorem meets_enum1 {v : Value} {o : Obj} {H : Heap → Prop} (B : Begins v o H) : Meets (Builtin.«enumerate.__new__» ⟨[.type "enumerate", v], []⟩) (fun _ R s => H s.heap ∧ R (.ok (.ret (.ref (s.heap.push o).objs.size))) { s with heap := (s.heap.push o).push { cls := .type "enumerate", data := .fields #[.none, .bool false, .ref s.heap.objs.size, rawInt 0, .none, .none] } }) :=
  .of_wp fun prog w A R s h => by
    obtain ⟨hp, gn, d, tk, os⟩ := s
    obtain ⟨h1, h⟩ := h
    have hsub := sub_enumerate
    have go : ∀ {A' : Around} {E : Value → Shared → Prop} {Q : Value → Shared → Prop}, Q (.ref hp.objs.size) ⟨hp.push o, gn, d, tk, os⟩ → wpAny (model prog w) A' (pyIter v) Q E ⟨hp, gn, d, tk, os⟩ := fun q => B.iter prog w _ _ ⟨hp, gn, d, tk, os⟩ _ h1 q
    wp_walk using go
    refine wpAny_stack_any fun st => wpAny_pure ?_
    split
    · rename_i c _ _ _ _ _
      cases (c == Value.type "enumerate") <;> (wp_walk using go; exact ⟨_, rfl, h⟩)
    · wp_walk using go
      exact ⟨_, rfl, h⟩
theorem enum_one {prog : Program} {w : World} {A : Around} {E : Value → Shared → Prop} {s : Shared} {v : Value} {o : Obj} {H : Heap → Prop} {Q : Value → Shared → Prop} (B : Begins v o H) (h1 : H s.heap)
    (h : ∀ h', IsEnum h' (s.heap.objs.size + 1) s.heap.objs.size 0 .none → h'.get? s.heap.objs.size = some o → h'.objs.size = s.heap.objs.size + 2 → (∀ b u, s.heap.get? b = some u → h'.get? b = some u) → Q (.ref (s.heap.objs.size + 1)) { s with heap := h' }) :
    wpAny (model prog w) A (call (.type "enumerate") [v]) Q E s := by
  refine callType_new F.called_enumerate (by decide) (F.typeCall_enumerate_1 _) (F.newCall_enumerate_1 _) (fun obj => F.args_object_init_2 obj _) F.entry_enumerate_new (meets_enum1 B) ⟨h1, ?_⟩
  have hz : (s.heap.push o).objs.size = s.heap.objs.size + 1 := Heap.size_push ..
  have he := Heap.get?_push_size (s.heap.push o) (o := { cls := .type "enumerate", data := .fields #[.none, .bool false, .ref s.heap.objs.size, rawInt 0, .none, .none] }) rfl
  show _ ∧ _
  rw [hz] at he ⊢
  exact ⟨⟨_, he, rfl⟩, h _ he (Heap.get?_push_of_some _ (Heap.get?_push_size _ B.free)) (by rw [Heap.size_push, hz]) fun b u x => Heap.get?_push_of_some _ (Heap.get?_push_of_some _ x)⟩
def iEnumT (K : PySem.W.Frag) (ta : TA) : TI := fun σ H R => ta σ H fun vs H1 => ∃ a xs, vs = [.ref a] ∧ SqT K H1 a xs ∧ R (IteT K a) H1
theorem pi_enumT {X : Cx} {e : Expr} {ta : TA} {p pos tpos : Pos} {elts : List Expr} {kk : Nat} (hg : Gl X "enumerate") (hm : X.mg "enumerate" = none) (ha : PA X [e] ta) (hs : starEach [e] X.env = [(false, eval e X.env)] := by rfl) :
    PI X (.Tuple elts kk tpos) (.Call (.Name "enumerate" p) [e] [] pos) (iEnumT X.K ta) := by
  refine ⟨fun pins s σ H R I h => ?_⟩
  refine Call_ (ld_blt I hg hm boot_enumerate (PyProof.Rows.callWith_type1 (thn (ha.run pos pins s σ H _ I h) fun us s1 ⟨vs, H1, I1, r1, q1⟩ => ?_) hs rfl))
  obtain ⟨a, xs, ex, hq, q⟩ := q1
  subst ex
  cases r1 with
  | cons r rr =>
    cases rr
    cases r
    obtain ⟨its, rv, pt, hz⟩ := I1.tuple hq
    refine enum_one (begins_tuple a its.toArray) pt fun h' he hit hsz hk => wpAny_pyIter_enum he ?_
    have I2 : Inv X pins σ H1 { s1 with heap := h' } := I1.kept (t' := s1.toks) hk
    refine ⟨s1.heap.objs.size + 1, [s1.heap.objs.size + 1, s1.heap.objs.size], _, _, H1, rfl, I2, turn_enumT a (s1.heap.objs.size + 1) s1.heap.objs.size, ⟨⟨.none, he⟩, ⟨_, hit, rfl, rfl⟩, Nat.succ_ne_self _⟩, fun b hb => ?_, q⟩
    have hle : s1.heap.objs.size ≤ b := by
      rcases List.mem_cons.mp hb with z | z
      · rw [z]; exact Nat.le_add_right _ _
      · rw [List.mem_singleton.mp z]; exact Nat.le_refl _
    exact I1.fpOk hle (I1.hok.fresh hle)
section
variable {K : PySem.W.Frag} {ta : TA} {g : TG} {tu tz : TS} {D : Ends} {σ : L2.St} {H : Hp}
/-- for i, x in enumerate(a tuple) -/
theorem sq_forET {a : Addr} {xs : List V} (h : ∀ Q : List V → Hp → Prop, Q [.ref a] H → ta σ H Q) (hx : SqT K H a xs) (Pv : Nat → L2.St → Hp → Prop) (h0 : Pv 0 σ H) (hl : ∀ i σ' H', i ≤ xs.length → Pv i σ' H' → SqT K H' a xs)
    (hs : ∀ (i : Nat) (x : V) (T : Addr) σ' H', xs[i]? = some x → Pv i σ' H' → H' T = none → g (.ref T) σ' (upd H' T (.tup [.int (i : Int), x])) fun σ2 H2 => tu { D with nx := Pv (i + 1), ct := Pv (i + 1), bk := tz D } σ2 H2) (hd : ∀ σ' H', Pv xs.length σ' H' → tz D σ' H') : tSeq (tFor (iEnumT K ta) g tu) tz D σ H := by
  refine h _ ⟨a, xs, rfl, hx, fun i m σ H => m = xs.length - i ∧ i ≤ xs.length ∧ Pv i σ H, ⟨xs.length, rfl, Nat.zero_le _, h0⟩, ?_⟩
  rintro i m σ H ⟨rfl, hi, p⟩
  have q := hl i σ H hi p
  by_cases hlt : i < xs.length
  · have hx : xs[i]? = some xs[i] := List.getElem?_eq_getElem hlt
    refine .inr ⟨⟨xs, _, q, hx⟩, Pv (i + 1), fun σ' H' p' => ⟨xs.length - (i + 1), by omega, rfl, hlt, p'⟩, fun v H' y => ?_⟩
    obtain ⟨T, x', rfl, hT, rfl, f1⟩ := y
    exact hs i x' T σ H (f1 xs q) p hT
  · have e : i = xs.length := by omega
    subst e
    exact .inl ⟨⟨xs, q, Nat.le_refl _⟩, hd σ H p⟩
end


end Rf
namespace Rf
open PySem PySem.Spec PyProof.Rows L2
/-! ### zip(a tuple, a list) -/
/-- at each turn a new pair of the tuple's item and the list's -/
def ItTL (K : PySem.W.Frag) (ta la : Addr) : It where
  go := fun n H => ∃ (us ws : List V) (u w : V), SqT K H ta us ∧ SqL K H la ws ∧ us[n]? = some u ∧ ws[n]? = some w
  yld := fun n H v H' => ∃ C u w, v = .ref C ∧ H C = none ∧ H' = upd H C (.tup [u, w]) ∧ (∀ us, SqT K H ta us → us[n]? = some u) ∧ ∀ ws, SqL K H la ws → ws[n]? = some w
  stop := fun n H => ∃ us ws : List V, SqT K H ta us ∧ SqL K H la ws ∧ n ≤ us.length ∧ n ≤ ws.length ∧ (n = us.length ∨ n = ws.length)
theorem turn_TL {P : Program} {w : World} {K : PySem.W.Frag} {es : List Expr} {nn : Nat} {tp : Pos} {ta la zz tc to j1 j2 : Addr} (S : ZipSep2 zz tc to j1 j2 [j1, ta] [j2, la]) :
    Turn P w K (.Tuple es nn tp) (ItTL K ta la) [zz, tc, to, j1, j2] zz (fun n h => IsZip h zz tc to .none ∧ IsTupOf2 h tc (.ref j1) (.ref j2) ∧ (∃ u w, IsTupOf2 h to u w) ∧ h.IsTupleIter j1 ta n ∧ h.IsListIter j2 la n) where
  mem := List.mem_cons_self
  obj := fun n h st b hb => by
    obtain ⟨q1, q2, ⟨u, w, q3⟩, ⟨o1, r1, _, r2⟩, ⟨o2, r3, _, r4⟩⟩ := st
    rcases List.mem_cons.mp hb with e | hb
    · subst e; exact ⟨_, q1, (fun v m => nomatch m)⟩
    rcases List.mem_cons.mp hb with e | hb
    · subst e; exact ⟨_, q2, (fun v m => nomatch m)⟩
    rcases List.mem_cons.mp hb with e | hb
    · subst e; exact ⟨_, q3, (fun v m => nomatch m)⟩
    rcases List.mem_cons.mp hb with e | hb
    · subst e; exact ⟨o1, r1, fun v m => by rw [r2] at m; cases m⟩
    · rw [List.mem_singleton.mp hb]; exact ⟨o2, r3, fun v m => by rw [r4] at m; cases m⟩
  keep := fun n h h' st kp => ⟨kp zz (by simp) _ st.1, kp tc (by simp) _ st.2.1, let ⟨u, w, e⟩ := st.2.2.1; ⟨u, w, kp to (by simp) _ e⟩, st.2.2.2.1.at fun o e => kp j1 (by simp) o e, st.2.2.2.2.at fun o e => kp j2 (by simp) o e⟩
  item := by
    intro X hP hw hK hc n pins s σ H E I hf st hgo
    subst hP hw hK
    obtain ⟨q1, q2, ⟨u0, w0, q3⟩, q4, q5⟩ := st
    obtain ⟨us, ws, u, w, hu, hw, eu, ew⟩ := hgo
    obtain ⟨vs1, R1, p1, _⟩ := I.tuple hu
    obtain ⟨vs2, R2, p2, _⟩ := I.list hw
    obtain ⟨v1, ev1, rv1⟩ := R1.get eu
    obtain ⟨v2, ev2, rv2⟩ := R2.get ew
    have ev1' : vs1.toArray[n]? = some v1 := by simpa using ev1
    have ev2' : vs2.toArray[n]? = some v2 := by simpa using ev2
    have b1 : n < vs1.toArray.size := (Array.getElem?_eq_some_iff.mp ev1').1
    have b2 : n < vs2.toArray.size := (Array.getElem?_eq_some_iff.mp ev2').1
    have pt : s.heap.IsTuple ta vs1.toArray := p1
    have m1 : ta ≠ j1 := by
      obtain ⟨o2, e2, c2, _⟩ := id pt
      obtain ⟨o3, e3, c3, _⟩ := id q4
      exact apart_types e2 e3 (by rw [c2, c3]; exact fun z => absurd (Value.type.inj z) (by decide))
    have m2 : la ≠ j2 := by
      obtain ⟨o2, e2, c2, _⟩ := id p2.isList
      obtain ⟨o3, e3, c3, _⟩ := id q5
      exact apart_types e2 e3 (by rw [c2, c3]; exact fun z => absurd (Value.type.inj z) (by decide))
    have D1 := Draws.tuple (prog := X.prog) (w := X.w) (A := X.A.in1) (I.ok.hd hc) j1 ta m1 vs1.toArray
    have D2 := Draws.list (prog := X.prog) (w := X.w) (A := X.A.in1) (I.ok.hd hc) j2 la m2 vs2.toArray
    have zl : zz < s.heap.objs.size := Heap.lt_size q1
    refine wpAny_pyNext_zipD2_item S D1 D2 q1 q2 q3 ⟨q4, pt⟩ ⟨q5, p2.isList⟩ b1 b2 fun x1 x2 g tk e1 e2 f1 f2 st1 st2 hT gz kp => ?_
    have x1e : x1 = v1 := Option.some.inj (e1.symm.trans ev1')
    have x2e : x2 = v2 := Option.some.inj (e2.symm.trans ev2')
    subst x1e x2e
    refine ⟨_, rfl, wpAny_letOwnedTupleGo_zip (s := { s with heap := g, toks := tk }) f1 fun g2 f3 sb => ?_⟩
    have hT2 : g2.get? s.heap.objs.size = some { cls := .type "tuple", data := .seq #[x1, x2] } := (sb.2 _ (Nat.ne_of_gt zl)).trans hT
    have nw : ObjOk X.prog X.w (upd H s.heap.objs.size (.tup [u, w])) g2 s.heap.objs.size (.tup [u, w]) := by
      refine ⟨by show 2 ≤ sizeLine; decide, [x1, x2], .cons rv1 (.cons rv2 .nil), ⟨_, hT2, rfl, _, rfl⟩⟩
    have J : Inv X pins σ (upd H s.heap.objs.size (.tup [u, w])) { s with heap := g2, toks := tk } := by
      refine I.turnedNew (ch := [zz, tc, to, j1, j2]) (fun b ob hb e => ?_) hf (Nat.le_refl _) nw
      have n1 : b ≠ zz := fun z => hb (by simp [z])
      exact (sb.2 b n1).trans (kp b ob n1 (fun z => hb (by simp [z])) (fun z => hb (by simp [z])) (fun z => hb (by simp [z])) e)
    refine ⟨.ref s.heap.objs.size, _, J, rfl, ⟨_, u, w, rfl, I.hok.fresh (Nat.le_refl _), rfl, fun l hl => by rw [I.tuple_inj hl hu]; exact eu, fun l hl => by rw [I.list_inj hl hw]; exact ew⟩, ⟨f3, ?_, ⟨x1, x2, ?_⟩, ?_, ?_⟩, fun b hb => ?_⟩
    · exact (sb.2 _ S.TIz).trans (kp _ _ S.TIz S.TITO S.TIi1 S.TIi2 q2)
    · exact (sb.2 _ S.TOz).trans f2
    · exact st1.1.at fun o e => (sb.2 _ (Ne.symm S.zi1)).trans e
    · exact st2.1.at fun o e => (sb.2 _ (Ne.symm S.zi2)).trans e
    · have bl : b < s.heap.objs.size := by
        rcases List.mem_cons.mp hb with e | hb
        · rw [e]; exact zl
        rcases List.mem_cons.mp hb with e | hb
        · rw [e]; exact Heap.lt_size q2
        rcases List.mem_cons.mp hb with e | hb
        · rw [e]; exact Heap.lt_size q3
        rcases List.mem_cons.mp hb with e | hb
        · rw [e]; obtain ⟨_, r, _⟩ := q4; exact Heap.lt_size r
        · rw [List.mem_singleton.mp hb]; obtain ⟨_, r, _⟩ := q5; exact Heap.lt_size r
      rw [upd_ne (Nat.ne_of_lt bl)]
      exact (hf b hb).1
  done := by
    intro X hP hw hK hc n pins s σ H E I hf st hend
    subst hP hw hK
    obtain ⟨q1, q2, ⟨u0, w0, q3⟩, q4, q5⟩ := st
    obtain ⟨us, ws, hu, hw, g1, g2, he⟩ := hend
    obtain ⟨vs1, R1, p1, _⟩ := I.tuple hu
    obtain ⟨vs2, R2, p2, _⟩ := I.list hw
    have pt : s.heap.IsTuple ta vs1.toArray := p1
    have l1 : us.length = vs1.length := R1.length
    have l2 : ws.length = vs2.length := R2.length
    have m1 : ta ≠ j1 := by
      obtain ⟨o2, e2, c2, _⟩ := id pt
      obtain ⟨o3, e3, c3, _⟩ := id q4
      exact apart_types e2 e3 (by rw [c2, c3]; exact fun z => absurd (Value.type.inj z) (by decide))
    have m2 : la ≠ j2 := by
      obtain ⟨o2, e2, c2, _⟩ := id p2.isList
      obtain ⟨o3, e3, c3, _⟩ := id q5
      exact apart_types e2 e3 (by rw [c2, c3]; exact fun z => absurd (Value.type.inj z) (by decide))
    have D1 := Draws.tuple (prog := X.prog) (w := X.w) (A := X.A.in1) (I.ok.hd hc) j1 ta m1 vs1.toArray
    have D2 := Draws.list (prog := X.prog) (w := X.w) (A := X.A.in1) (I.ok.hd hc) j2 la m2 vs2.toArray
    have k1 : vs1.toArray.size = us.length := by rw [List.size_toArray, l1]
    have k2 : vs2.toArray.size = ws.length := by rw [List.size_toArray, l2]
    refine wpAny_pyNext_zipD2_end S D1 D2 q1 q2 q3 ⟨q4, pt⟩ ⟨q5, p2.isList⟩ (by rw [k1]; exact g1) (by rw [k2]; exact g2) (by rw [k1, k2]; exact he) fun g tk kp => ⟨rfl, ?_⟩
    exact I.turnedL (ch := [zz, tc, to, j1, j2]) (fun b o hb e => kp b o (fun z => hb (by simp [z])) (fun z => hb (by simp [z])) (fun z => hb (by simp [z])) (fun z => hb (by simp [z])) e) hf
  self := fun A n s Q E st h => wpAny_pyIter_zip st.1 h

theorem new_ne {n a i : Nat} (h : a < n) : n + i ≠ a := fun z => by rw [← z] at h; exact absurd h (Nat.not_lt.mpr (Nat.le_add_right _ _))
theorem add_ne {n i j : Nat} (h : i ≠ j) : n + i ≠ n + j := fun z => h (Nat.add_left_cancel z)
theorem not_two {x a b : Addr} (h1 : x ≠ a) (h2 : x ≠ b) : x ∉ [a, b] := fun z => by
  rcases List.mem_cons.mp z with e | e
  · exact h1 e
  · exact h2 (List.mem_singleton.mp e)
theorem zs_new {n a b : Nat} (ha : a < n) (hb : b < n) : ZipSep2 (n + 4) (n + 2) (n + 3) n (n + 1) [n, a] [n + 1, b] where
  TIz := add_ne (by decide)
  TOz := add_ne (by decide)
  TITO := add_ne (by decide)
  TIi1 := add_ne (j := 0) (by decide)
  mem1 := List.mem_cons_self
  zf1 := not_two (add_ne (j := 0) (by decide)) (new_ne ha)
  Tf1 := not_two (add_ne (j := 0) (by decide)) (new_ne ha)
  TIi2 := add_ne (by decide)
  mem2 := List.mem_cons_self
  zf2 := not_two (add_ne (by decide)) (new_ne hb)
  Tf2 := not_two (add_ne (by decide)) (new_ne hb)
  sep1_2 := not_two (add_ne (i := 0) (by decide)) (new_ne (i := 0) hb)
  sep2_1 := not_two (add_ne (j := 0) (by decide)) (new_ne ha)
theorem new_le {n c : Nat} (h : c ∈ [n + 4, n + 2, n + 3, n, n + 1]) : n ≤ c := by
  simp only [List.mem_cons, List.not_mem_nil, or_false] at h
  omega
def iTL (K : PySem.W.Frag) (ta : TA) : TI := fun σ H R => ta σ H fun vs H1 => ∃ p q us ws, vs = [.ref p, .ref q] ∧ SqT K H1 p us ∧ SqL K H1 q ws ∧ R (ItTL K p q) H1
theorem pi_zipTL {X : Cx} {e1 e2 : Expr} {ta : TA} {p pos tp : Pos} {es : List Expr} {nn : Nat} (hg : Gl X "zip") (hm : X.mg "zip" = none) (ha : PA X [e1, e2] ta)
    (hs : starEach [e1, e2] X.env = (false, eval e1 X.env) :: starEach [e2] X.env := by rfl) (hb : (backTo pos (starEach [e2] X.env)).any (·.1) = false := by rfl) :
    PI X (.Tuple es nn tp) (.Call (.Name "zip" p) [e1, e2] [] pos) (iTL X.K ta) := by
  refine ⟨fun pins s σ H R I h => ?_⟩
  refine Call_ (ld_blt I hg hm PyProof.Rows.boot_zip (PyProof.Rows.callWith_type1 (thn (ha.run pos pins s σ H _ I h) fun us0 s1 ⟨vs, H1, J, rr, q1⟩ => ?_) hs hb))
  obtain ⟨a, b, us, ws, ex, hu, hw, q⟩ := q1
  subst ex
  cases rr with
  | cons r1 rr =>
    cases rr with
    | cons r2 rr =>
      cases rr
      cases r1
      cases r2
      obtain ⟨vs1, R1, p1, _⟩ := J.tuple hu
      obtain ⟨vs2, R2, p2, _⟩ := J.list hw
      have pt : s1.heap.IsTuple a vs1.toArray := p1
      have al : a < s1.heap.objs.size := by obtain ⟨_, e, _⟩ := pt; exact Heap.lt_size e
      have bl : b < s1.heap.objs.size := by obtain ⟨_, e, _⟩ := p2.isList; exact Heap.lt_size e
      refine zip_begins2 (begins_tuple a vs1.toArray) (begins_list b vs2.toArray) pt p2.isList fun g f1 f2 f3 f4 f5 gz kp => wpAny_pyIter_zip f1 ?_
      have J2 : Inv X pins σ H1 { s1 with heap := g } := J.kept (t' := s1.toks) kp
      have S : ZipSep2 (s1.heap.objs.size + 4) (s1.heap.objs.size + 2) (s1.heap.objs.size + 3) s1.heap.objs.size (s1.heap.objs.size + 1) [s1.heap.objs.size, a] [s1.heap.objs.size + 1, b] := by
        exact zs_new al bl
      refine ⟨s1.heap.objs.size + 4, [s1.heap.objs.size + 4, s1.heap.objs.size + 2, s1.heap.objs.size + 3, s1.heap.objs.size, s1.heap.objs.size + 1], _, _, H1, rfl, J2, turn_TL S, ⟨f1, f2, ⟨_, _, f3⟩, ⟨_, f4, rfl, rfl⟩, ⟨_, f5, rfl, rfl⟩⟩, fun c hcm => ?_, q⟩
      have hle : s1.heap.objs.size ≤ c := by
        exact new_le hcm
      exact J.fpOk hle (J.hok.fresh hle)
section
variable {K : PySem.W.Frag} {ta : TA} {g : TG} {tu tz : TS} {D : Ends} {σ : L2.St} {H : Hp}
/-- for x, y in zip(a tuple, a list), of one length -/
theorem sq_forTL {a b : Addr} {us ws : List V} (h : ∀ Q : List V → Hp → Prop, Q [.ref a, .ref b] H → ta σ H Q) (hu : SqT K H a us) (hw : SqL K H b ws) (hlen : us.length = ws.length) (Pv : Nat → L2.St → Hp → Prop) (h0 : Pv 0 σ H) (hl : ∀ i σ' H', i ≤ us.length → Pv i σ' H' → SqT K H' a us ∧ SqL K H' b ws)
    (hs : ∀ (i : Nat) (x y : V) (T : Addr) σ' H', us[i]? = some x → ws[i]? = some y → Pv i σ' H' → H' T = none → g (.ref T) σ' (upd H' T (.tup [x, y])) fun σ2 H2 => tu { D with nx := Pv (i + 1), ct := Pv (i + 1), bk := tz D } σ2 H2) (hd : ∀ σ' H', Pv us.length σ' H' → tz D σ' H') : tSeq (tFor (iTL K ta) g tu) tz D σ H := by
  refine h _ ⟨a, b, us, ws, rfl, hu, hw, fun i m σ H => m = us.length - i ∧ i ≤ us.length ∧ Pv i σ H, ⟨us.length, rfl, Nat.zero_le _, h0⟩, ?_⟩
  rintro i m σ H ⟨rfl, hi, p⟩
  obtain ⟨q1, q2⟩ := hl i σ H hi p
  by_cases hlt : i < us.length
  · have hx : us[i]? = some us[i] := List.getElem?_eq_getElem hlt
    have hlt2 : i < ws.length := by omega
    have hy : ws[i]? = some ws[i] := List.getElem?_eq_getElem hlt2
    refine .inr ⟨⟨us, ws, _, _, q1, q2, hx, hy⟩, Pv (i + 1), fun σ' H' p' => ⟨us.length - (i + 1), by omega, rfl, hlt, p'⟩, fun v H' y => ?_⟩
    obtain ⟨T, x', y', rfl, hT, rfl, f1, f2⟩ := y
    exact hs i x' y' T σ H (f1 us q1) (f2 ws q2) p hT
  · have e : i = us.length := by omega
    subst e
    exact .inl ⟨⟨us, ws, q1, q2, Nat.le_refl _, by omega, .inl rfl⟩, hd σ H p⟩
end


end Rf
namespace Rf
open PySem PySem.Spec PyProof.Rows L2
/-! ### list(zip(a list, a list)) -/
section
variable {prog : Program} {w : World} {A : Around} {E : Value → Shared → Prop} {s : Shared} {z tc to j1 j2 a : Addr} {fp1 fp2 : List Addr} {n1 n2 n : Nat} {P1 P2 : Nat → Value → Prop} {St1 St2 : Nat → Heap → Prop} {b1 b2 : Value}
abbrev ZOut (h : Heap) (z tc to a : Addr) (f : Bool) : Prop := h.get? z = some { cls := .type "zip", dict := none, data := .fields #[rawInt a, .bool f, .bool false, .ref tc, .ref to], slots := #[] }
theorem not_free {f : Bool} {oa : Obj} {Q : Bool → Shared → Prop} (hz : ZOut s.heap z tc to a f) (ha : s.heap.get? a = some oa)
    (hQ : ∀ g, ZOut g z tc to a true → Heap.SameBut z s.heap g → Q false { s with heap := g }) : wpAny (model prog w) A (Builtin.SmallTypes.ownedTupleIsFree (.ref z)) Q E s := by
  unfold Builtin.SmallTypes.ownedTupleIsFree
  refine wpAny_bind (wpAny_field hz rfl (x := rawInt a) rfl ?_)
  show wpAny _ _ (loadIfAlive (a : Int).toNat >>= _) _ _ _
  have ea : (a : Int).toNat = a := Int.toNat_natCast a
  rw [ea]
  refine wpAny_bind (PySem.W.kdx_alive ha ?_)
  rw [if_neg (show ¬ (some oa).isNone = true from Bool.false_ne_true)]
  refine wpAny_bind (wpAny_field hz rfl (x := .bool f) rfl ?_)
  cases f with
  | true =>
    rw [if_neg (by decide)]
    exact wpAny_pure (hQ s.heap hz ⟨rfl, fun _ _ => rfl⟩)
  | false =>
    rw [if_pos (by decide)]
    refine wpAny_bind (wpAny_setField_rec hz (by simp) fun g h1 h2 => ?_)
    exact wpAny_pure (hQ g h1 h2)
/-- one more pair, the one ahead still held -/
theorem zo_item {f : Bool} {oa : Obj} {Q : Value → Shared → Prop} (S : ZipSep2 z tc to j1 j2 fp1 fp2) (D1 : Draws prog w A j1 fp1 n1 P1 St1) (D2 : Draws prog w A j2 fp2 n2 P2 St2)
    (hz : ZOut s.heap z tc to a f) (ha : s.heap.get? a = some oa) (hI : IsTupOf2 s.heap tc (.ref j1) (.ref j2)) (t1 : St1 n s.heap) (t2 : St2 n s.heap) (l1 : n < n1) (l2 : n < n2)
    (hQ : ∀ v1 v2 g k, P1 n v1 → P2 n v2 → ZOut g z tc to a true → St1 (n + 1) g → St2 (n + 1) g → IsTupOf2 g s.heap.objs.size v1 v2 → g.objs.size = s.heap.objs.size + 1 → (∀ c o, c ≠ z → c ≠ j1 → c ≠ j2 → s.heap.get? c = some o → g.get? c = some o) → Q (.ref s.heap.objs.size) { s with heap := g, toks := k }) :
    wpAny (model prog w) A (Builtin.«zip.__next__» ⟨[.ref z], []⟩) (fun fin s' => ∃ v, fin = .done (.ret v) ∧ Q v s') E s := by
  obtain ⟨hp, gn, dr, tk0, os⟩ := s
  refine wpAny_bind (m := field (.ref z) 2) (wpAny_field hz rfl (x := .bool false) rfl ?_)
  refine wpAny_bind (m := field (.ref z) 3) (wpAny_field hz rfl (x := .ref tc) rfl ?_)
  refine wpAny_bind (wpAny_seqItems hI rfl ?_)
  refine wpAny_bind (m := Builtin.SmallTypes.ownedTupleIsFree (.ref z)) (not_free hz ha fun g0 h0 s0 => ?_)
  simp only [Bool.false_eq_true, if_false]
  refine wpAny_bind ?_
  rw [← Array.forIn_toList]
  simp only [List.forIn_cons, List.forIn_nil]
  refine wpAny_bind (wpAny_bind (wpAny_holding ?_))
  show wpAny _ _ (Builtin.SmallTypes.nextOf (.ref j1) >>= _) _ _ ⟨g0, gn, dr, tk0, os⟩
  have e0 : St1 n g0 := D1.over t1 s0 S.zf1
  refine wpAny_bind (D1.item n _ _ _ l1 e0 fun v1 g1 k1 p1 u1 s1 => wpAny_pure ?_)
  refine wpAny_pure ?_
  refine wpAny_bind (wpAny_bind (wpAny_holding ?_))
  show wpAny _ _ (Builtin.SmallTypes.nextOf (.ref j2) >>= _) _ _ ⟨g1, gn, dr, k1, os⟩
  have e1 : St2 n g1 := D2.over (D2.over t2 s0 S.zf2) s1 S.sep1_2
  refine wpAny_bind (D2.item n _ _ _ l2 e1 fun v2 g2 k2 p2 u2 s2 => wpAny_pure ?_)
  refine wpAny_pure (wpAny_pure ?_)
  have gz : g2.objs.size = hp.objs.size := by rw [s2.1, s1.1, s0.1]
  have kp : ∀ c o, c ≠ z → c ≠ j1 → c ≠ j2 → hp.get? c = some o → g2.get? c = some o := fun c o x1 x2 x3 e => s2.extBut _ _ x3 (s1.extBut _ _ x2 (s0.extBut _ _ x1 e))
  show wpAny _ _ (newTuple [v1, v2] >>= fun r => ret r) _ _ (⟨g2, gn, dr, k2, os⟩ : Shared)
  refine wpAny_bind (wpAny_newTuple (wpAny_pure ⟨_, rfl, ?_⟩))
  have up : ∀ c o, g2.get? c = some o → (g2.push { cls := .type "tuple", data := .seq #[v1, v2] }).get? c = some o := fun c o e => Heap.get?_push_of_some _ e
  have hT := Heap.get?_push_size g2 (o := { cls := .type "tuple", data := .seq #[v1, v2] }) rfl
  have hz2 := Heap.size_push g2 { cls := .type "tuple", data := .seq #[v1, v2] }
  rw [gz] at hT hz2
  have r := hQ v1 v2 (g2.push { cls := .type "tuple", data := .seq #[v1, v2] }) k2 p1 p2 (up _ _ (s2.extBut _ _ S.zi2 (s1.extBut _ _ S.zi1 h0))) (D1.frame _ _ _ (D1.over u1 s2 S.sep2_1) fun b _ o e => up b o e) (D2.frame _ _ _ u2 fun b _ o e => up b o e) hT hz2 (fun c o x1 x2 x3 e => up c o (kp c o x1 x2 x3 e))
  show Q (.ref g2.objs.size) _
  rw [gz]
  exact r
/-- the end, the last pair still held -/
theorem zo_end {f : Bool} {oa : Obj} {Q : Fin → Shared → Prop} (S : ZipSep2 z tc to j1 j2 fp1 fp2) (D1 : Draws prog w A j1 fp1 n1 P1 St1) (D2 : Draws prog w A j2 fp2 n1 P2 St2)
    (hz : ZOut s.heap z tc to a f) (ha : s.heap.get? a = some oa) (hI : IsTupOf2 s.heap tc (.ref j1) (.ref j2)) (t1 : St1 n1 s.heap)
    (hE : ∀ g e, (∀ c o, c ≠ z → c ≠ j1 → c ≠ j2 → s.heap.get? c = some o → g.get? c = some o) → (∃ o, g.get? e = some o ∧ o.cls = .type "StopIteration") → E (.ref e) { s with heap := g }) :
    wpAny (model prog w) A (Builtin.«zip.__next__» ⟨[.ref z], []⟩) Q E s := by
  obtain ⟨hp, gn, dr, tk0, os⟩ := s
  refine wpAny_bind (m := field (.ref z) 2) (wpAny_field hz rfl (x := .bool false) rfl ?_)
  refine wpAny_bind (m := field (.ref z) 3) (wpAny_field hz rfl (x := .ref tc) rfl ?_)
  refine wpAny_bind (wpAny_seqItems hI rfl ?_)
  refine wpAny_bind (m := Builtin.SmallTypes.ownedTupleIsFree (.ref z)) (not_free hz ha fun g0 h0 s0 => ?_)
  simp only [Bool.false_eq_true, if_false]
  refine wpAny_bind ?_
  rw [← Array.forIn_toList]
  simp only [List.forIn_cons, List.forIn_nil]
  refine wpAny_bind (wpAny_bind (wpAny_holding ?_))
  show wpAny _ _ (Builtin.SmallTypes.nextOf (.ref j1) >>= _) _ _ ⟨g0, gn, dr, tk0, os⟩
  have e0 : St1 n1 g0 := D1.over t1 s0 S.zf1
  refine wpAny_bind (D1.done _ _ _ e0 fun g1 e u1 he => ?_)
  exact hE g1 e (fun c o x1 x2 _ q => u1 c o x2 (s0.extBut _ _ x1 q)) he
end
section
variable {prog : Program} {w : World} {A : Around} {E : Value → Shared → Prop} {s : Shared} {z tc to j1 j2 a : Addr} {fp1 fp2 : List Addr} {N n : Nat} {P1 P2 : Nat → Value → Prop} {St1 St2 : Nat → Heap → Prop}
/-- where a zip stands whose pairs are all held -/
def ZAt (h : Heap) (z tc to j1 j2 S : Addr) (n : Nat) : Prop := (n = 0 ∧ IsZip h z tc to .none ∧ ∃ u w, IsTupOf2 h to u w) ∨ ∃ a f oa, ZOut h z tc to a f ∧ h.get? a = some oa ∧ a ≠ z ∧ a ≠ j1 ∧ a ≠ j2 ∧ a ≠ to ∧ a ≠ S
theorem ZAt.lt {h : Heap} {S : Addr} (Z : ZAt h z tc to j1 j2 S n) : z < h.objs.size := by
  rcases Z with ⟨_, e, _⟩ | ⟨_, _, _, e, _⟩ <;> exact Heap.lt_size e
theorem ZAt.ty {S : Addr} (Z : ZAt s.heap z tc to j1 j2 S n) : s.TypeIs (.ref z) "zip" := by
  rcases Z with ⟨_, e, _⟩ | ⟨_, _, _, e, _⟩ <;> exact ⟨_, e, rfl⟩
theorem za_item {S : Addr} {Q : Option Value → Shared → Prop} (D : ZipSep2 z tc to j1 j2 fp1 fp2) (D1 : Draws prog w A.in1 j1 fp1 N P1 St1) (D2 : Draws prog w A.in1 j2 fp2 N P2 St2)
    (Z : ZAt s.heap z tc to j1 j2 S n) (hI : IsTupOf2 s.heap tc (.ref j1) (.ref j2)) (t1 : St1 n s.heap) (t2 : St2 n s.heap) (l : n < N) (hS : S < s.heap.objs.size) (hto : to < s.heap.objs.size)
    (hQ : ∀ v1 v2 g k, P1 n v1 → P2 n v2 → ZAt g z tc to j1 j2 S (n + 1) → St1 (n + 1) g → St2 (n + 1) g → IsTupOf2 g s.heap.objs.size v1 v2 → g.objs.size = s.heap.objs.size + 1 → (∀ c o, c ≠ z → c ≠ to → c ≠ j1 → c ≠ j2 → s.heap.get? c = some o → g.get? c = some o) → Q (some (.ref s.heap.objs.size)) { s with heap := g, toks := k }) :
    wpAny (model prog w) A (pyNext (.ref z)) Q E s := by
  have zl := Z.lt
  have ll1 : j1 < s.heap.objs.size := by obtain ⟨o, e⟩ := D1.live _ _ t1; exact Heap.lt_size e
  have ll2 : j2 < s.heap.objs.size := by obtain ⟨o, e⟩ := D2.live _ _ t2; exact Heap.lt_size e
  rcases Z with ⟨e0, hz, u, w0, hT⟩ | ⟨a, f, oa, hz, ha, m1, m2, m3, m4, m5⟩
  · subst e0
    refine wpAny_pyNext_zipD2_item D D1 D2 hz hI hT t1 t2 l l fun v1 v2 g k p1 p2 z1 _ u1 u2 hp gz kp => hQ v1 v2 g k p1 p2 (.inr ⟨s.heap.objs.size, false, _, z1, hp, Nat.ne_of_gt zl, Nat.ne_of_gt ll1, Nat.ne_of_gt ll2, Nat.ne_of_gt hto, Nat.ne_of_gt hS⟩) u1 u2 hp gz fun c o x1 x2 x3 x4 e => kp c o x1 x2 x3 x4 e
  · have hty : s.TypeIs (.ref z) "zip" := ⟨_, hz, rfl⟩
    unfold pyNext
    refine wpAny_bind (wpAny_attempt (wpAny_callSpecial?_slot hty F.slot_zip_next (wpAny_call_entry F.slot_zip_next hty F.entry_zip_next
      (zo_item D D1 D2 hz ha hI t1 t2 l l fun v1 v2 g k p1 p2 z1 u1 u2 hp gz kp => wpAny_pure (hQ v1 v2 g k p1 p2 (.inr ⟨a, true, oa, z1, kp _ _ m1 m2 m3 ha, m1, m2, m3, m4, m5⟩) u1 u2 hp gz fun c o x1 _ x3 x4 e => kp c o x1 x3 x4 e)) (F.args_zip_next_1 _))))
theorem za_end {S : Addr} {Q : Option Value → Shared → Prop} (D : ZipSep2 z tc to j1 j2 fp1 fp2) (D1 : Draws prog w A.in1 j1 fp1 N P1 St1) (D2 : Draws prog w A.in1 j2 fp2 N P2 St2)
    (Z : ZAt s.heap z tc to j1 j2 S N) (hI : IsTupOf2 s.heap tc (.ref j1) (.ref j2)) (t1 : St1 N s.heap) (t2 : St2 N s.heap)
    (hQ : ∀ g k, (∀ c o, c ≠ z → c ≠ to → c ≠ j1 → c ≠ j2 → s.heap.get? c = some o → g.get? c = some o) → Q none { s with heap := g, toks := k }) : wpAny (model prog w) A (pyNext (.ref z)) Q E s := by
  rcases Z with ⟨e0, hz, u, w0, hT⟩ | ⟨a, f, oa, hz, ha, m1, m2, m3, m4, m5⟩
  · subst e0
    exact wpAny_pyNext_zipD2_end D D1 D2 hz hI hT t1 t2 (Nat.le_refl _) (Nat.le_refl _) (.inl rfl) fun g k kp => hQ g k kp
  · have hty : s.TypeIs (.ref z) "zip" := ⟨_, hz, rfl⟩
    unfold pyNext
    refine wpAny_bind (wpAny_attempt (wpAny_callSpecial?_slot hty F.slot_zip_next (wpAny_call_entry F.slot_zip_next hty F.entry_zip_next (zo_end D D1 D2 hz ha hI t1 fun g e kp he => ?_) (F.args_zip_next_1 _))))
    obtain ⟨o, ho, hc⟩ := he
    refine wpAny_bind (wpAny_isInstance (T := "StopIteration") (b := true) ⟨o, ho, hc⟩ isSubtype_stop ?_)
    exact wpAny_pure (hQ g s.toks fun c o x1 _ x3 x4 e => kp c o x1 x3 x4 e)
/-- what the list made has -/
structure Made2 (P1 P2 : Nat → Value → Prop) (lo : Nat) (h : Heap) (as : List Addr) : Prop where
  rise : as.Pairwise (· < ·)
  above : ∀ a ∈ as, lo ≤ a ∧ a < h.objs.size
  pairs : ∀ (j : Nat) (a : Addr), as[j]? = some a → ∃ v1 v2, P1 j v1 ∧ P2 j v2 ∧ IsTupOf2 h a v1 v2
theorem lz_loop {S : Addr} {R : Result → Shared → Prop} {h1 : Heap} (D : ZipSep2 z tc to j1 j2 fp1 fp2) (D1 : Draws prog w A.in1.in1 j1 fp1 N P1 St1) (D2 : Draws prog w A.in1.in1 j2 fp2 N P2 St2) (hN : N ≤ sizeLine)
    (lS : S < h1.objs.size) (lz : z < h1.objs.size) (lt : tc < h1.objs.size) (lo : to < h1.objs.size) (l1 : j1 < h1.objs.size) (l2 : j2 < h1.objs.size) (nz : S ≠ z) (nt : S ≠ tc) (no : S ≠ to) (n1 : S ∉ fp1) (n2 : S ∉ fp2) (res : Value)
    (hR : ∀ g k acc c as, (∀ b o, b ≠ S → b ≠ z → b ≠ to → b ≠ j1 → b ≠ j2 → h1.get? b = some o → g.get? b = some o) → g.get? S = some { cls := .type "list", dict := none, data := .seq acc c, slots := #[] } → acc.toList = as.map Value.ref → as.length = N → Made2 P1 P2 h1.objs.size g as → R (.ok (.ret res)) { s with heap := g, toks := k }) :
    ∀ (m n : Nat) (h : Heap) (k c : Nat) (acc : Array Value) (as : List Addr), N - n = m → n ≤ N → ZAt h z tc to j1 j2 S n → IsTupOf2 h tc (.ref j1) (.ref j2) → St1 n h → St2 n h → h1.objs.size ≤ h.objs.size →
      (∀ b o, b ≠ S → b ≠ z → b ≠ to → b ≠ j1 → b ≠ j2 → h1.get? b = some o → h.get? b = some o) → h.get? S = some { cls := .type "list", dict := none, data := .seq acc c, slots := #[] } → acc.toList = as.map Value.ref → as.length = n → Made2 P1 P2 h1.objs.size h as →
      codeAny (model prog w) A (.builtin "list.extend.loop" ⟨[.ref S, .ref z, res], []⟩) R { s with heap := h, toks := k } := by
  have s1 : S ≠ j1 := fun e => n1 (e ▸ D.mem1)
  have s2 : S ≠ j2 := fun e => n2 (e ▸ D.mem2)
  intro m
  induction m with
  | zero =>
    intro n h k c acc as hm hn Z hI t1 t2 hle hk hL hacc hal hG
    have e : n = N := by omega
    subst e
    refine codeAny_builtin PySem.F.entry_extend_loop ?_
    rw [Around.under_plainId PySem.F.plain_extend_loop _]
    refine wpAny_bind (m := pyNext (.ref z)) (za_end (s := { s with heap := h, toks := k }) D D1 D2 Z hI t1 t2 fun g k2 kp => ?_)
    refine wpAny_pure (hR g k2 acc c as (fun b o x1 x2 x3 x4 x5 q => kp b o x2 x3 x4 x5 (hk b o x1 x2 x3 x4 x5 q)) (kp S _ nz no s1 s2 hL) hacc hal ⟨hG.rise, fun b hb => ?_, fun j b hj => ?_⟩)
    · obtain ⟨q1, q2⟩ := hG.above b hb
      obtain ⟨j, hj⟩ := List.mem_iff_getElem?.mp hb
      obtain ⟨v1, v2, _, _, e⟩ := hG.pairs j b hj
      have x := fun c (q : c < h1.objs.size) => (Nat.ne_of_gt (Nat.lt_of_lt_of_le q q1) : b ≠ c)
      exact ⟨q1, Heap.lt_size (kp b _ (x _ lz) (x _ lo) (x _ l1) (x _ l2) e)⟩
    · obtain ⟨q1, _⟩ := hG.above b (List.mem_of_getElem? hj)
      obtain ⟨v1, v2, y1, y2, e⟩ := hG.pairs j b hj
      have x := fun c (q : c < h1.objs.size) => (Nat.ne_of_gt (Nat.lt_of_lt_of_le q q1) : b ≠ c)
      exact ⟨v1, v2, y1, y2, kp b _ (x _ lz) (x _ lo) (x _ l1) (x _ l2) e⟩
  | succ m ih =>
    intro n h k c acc as hm hn Z hI t1 t2 hle hk hL hacc hal hG
    have hlt : n < N := by omega
    have hsz : acc.size = n := by rw [← Array.length_toList, hacc, List.length_map, hal]
    refine codeAny_builtin PySem.F.entry_extend_loop ?_
    rw [Around.under_plainId PySem.F.plain_extend_loop _]
    refine wpAny_bind (m := pyNext (.ref z)) (za_item (s := { s with heap := h, toks := k }) D D1 D2 Z hI t1 t2 hlt (Nat.lt_of_lt_of_le lS hle) (Nat.lt_of_lt_of_le lo hle) fun v1 v2 g k2 p1 p2 Z2 u1 u2 hp gz kp => ?_)
    have hL2 := kp S _ nz no s1 s2 hL
    have up : ∀ b o, b ≠ S → g.get? b = some o → (g.update S (Obj.mapSeq (·.push (Value.ref h.objs.size)))).get? b = some o := fun b o hb e => (Heap.get?_update_other _ _ (Ne.symm hb)).trans e
    have ltS : S < h.objs.size := Nat.lt_of_lt_of_le lS hle
    have f1 : St1 (n + 1) (g.update S (Obj.mapSeq (·.push (Value.ref h.objs.size)))) := D1.frame _ _ _ u1 fun b hb o e => up b o (fun q => n1 (q ▸ hb)) e
    have f2 : St2 (n + 1) (g.update S (Obj.mapSeq (·.push (Value.ref h.objs.size)))) := D2.frame _ _ _ u2 fun b hb o e => up b o (fun q => n2 (q ▸ hb)) e
    have Z3 : ZAt (g.update S (Obj.mapSeq (·.push (Value.ref h.objs.size)))) z tc to j1 j2 S (n + 1) := by
      rcases Z2 with ⟨e0, _⟩ | ⟨a, f, oa, z1, z2, m1, m2, m3, m4, m5⟩
      · exact absurd e0 (Nat.succ_ne_zero n)
      · exact .inr ⟨a, f, oa, up _ _ (Ne.symm nz) z1, up _ _ m5 z2, m1, m2, m3, m4, m5⟩
    have hI2 := up _ _ (Ne.symm nt) (kp tc _ D.TIz D.TITO D.TIi1 D.TIi2 hI)
    have big : g.objs.size = h.objs.size + 1 := gz
    have bigu : (g.update S (Obj.mapSeq (·.push (Value.ref h.objs.size)))).objs.size = h.objs.size + 1 := by rw [Heap.size_update]; exact big
    show wpAny _ A.in1 (updateSeq S (·.push (Value.ref h.objs.size)) >>= _) _ _ _
    refine wpAny_bind ?_
    refine wpAny_updateSeq hL2 rfl (wpAny_pure ⟨plainId_quiet PySem.F.plain_extend_loop _, ih (n + 1) _ k2 _ (acc.push (Value.ref h.objs.size)) (as ++ [h.objs.size]) (by omega) hlt Z3 hI2 f1 f2 (by rw [bigu]; omega)
      (fun b o x1 x2 x3 x4 x5 q => up b o x1 (kp b o x2 x3 x4 x5 (hk b o x1 x2 x3 x4 x5 q))) (Heap.get?_update_self _ hL2 rfl) (by rw [Array.toList_push, hacc, List.map_append]; rfl) (by rw [List.length_append, hal]; rfl) ⟨?_, ?_, ?_⟩⟩) (by rw [hsz]; omega) (by rw [Array.size_push, hsz]; omega)
    · refine List.pairwise_append.mpr ⟨hG.rise, List.pairwise_singleton _ _, fun b hb d hd => ?_⟩
      rw [List.mem_singleton.mp hd]
      exact (hG.above b hb).2
    · intro b hb
      rw [bigu]
      rcases List.mem_append.mp hb with hb | hb
      · exact ⟨(hG.above b hb).1, Nat.lt_succ_of_lt (hG.above b hb).2⟩
      · rw [List.mem_singleton.mp hb]
        exact ⟨hle, Nat.lt_succ_self _⟩
    · intro j b hj
      by_cases hjl : j < as.length
      · rw [List.getElem?_append_left hjl] at hj
        have q1 := (hG.above b (List.mem_of_getElem? hj)).1
        obtain ⟨w1, w2, y1, y2, e⟩ := hG.pairs j b hj
        have x := fun c (q : c < h1.objs.size) => (Nat.ne_of_gt (Nat.lt_of_lt_of_le q q1) : b ≠ c)
        exact ⟨w1, w2, y1, y2, up b _ (x _ lS) (kp b _ (x _ lz) (x _ lo) (x _ l1) (x _ l2) e)⟩
      · have ej : j = n := by
          have := (List.getElem?_eq_some_iff.mp hj).1
          rw [List.length_append, List.length_singleton] at this
          omega
        subst ej
        rw [List.getElem?_append_right (by omega), hal, Nat.sub_self] at hj
        have eb := Option.some.inj hj
        subst eb
        exact ⟨v1, v2, p1, p2, up _ _ (Nat.ne_of_gt ltS) hp⟩
theorem no_len_zip : typeLookup (.type "zip") "__len__" = pure none := by rw [typeLookup_type, builtinLookup_eq_fast]; kernel_rfl
theorem no_hint_zip : typeLookup (.type "zip") "__length_hint__" = pure none := by rw [typeLookup_type, builtinLookup_eq_fast]; kernel_rfl
theorem lz_extend {S : Addr} {R : Result → Shared → Prop} (D : ZipSep2 z tc to j1 j2 fp1 fp2) (D1 : Draws prog w A.in1.in1 j1 fp1 N P1 St1) (D2 : Draws prog w A.in1.in1 j2 fp2 N P2 St2) (hN : N ≤ sizeLine) {u0 w0 : Value} {c0 : Nat}
    (hz : IsZip s.heap z tc to .none) (hI : IsTupOf2 s.heap tc (.ref j1) (.ref j2)) (hO : IsTupOf2 s.heap to u0 w0) (t1 : St1 0 s.heap) (t2 : St2 0 s.heap) (hL : s.heap.get? S = some { cls := .type "list", data := .seq #[] c0 })
    (nz : S ≠ z) (nt : S ≠ tc) (no : S ≠ to) (n1 : S ∉ fp1) (n2 : S ∉ fp2) (res : Value)
    (hR : ∀ g k acc c as, (∀ b o, b ≠ S → b ≠ z → b ≠ to → b ≠ j1 → b ≠ j2 → s.heap.get? b = some o → g.get? b = some o) → g.get? S = some { cls := .type "list", dict := none, data := .seq acc c, slots := #[] } → acc.toList = as.map Value.ref → as.length = N → Made2 P1 P2 s.heap.objs.size g as → R (.ok (.ret res)) { s with heap := g, toks := k }) :
    wpAny (model prog w) A.in1 (Builtin.List.listExtendWith (.ref S) (.ref z) res)
      (fun fin s' => match fin with | .done f => R (.ok f) s' | .again c' => c'.quiet = true ∧ codeAny (model prog w) A c' R s') (fun e s' => R (.error e) s') s := by
  have hty : s.TypeIs (.ref z) "zip" := ⟨_, hz, rfl⟩
  have ll1 : j1 < s.heap.objs.size := by obtain ⟨o, e⟩ := D1.live _ _ t1; exact Heap.lt_size e
  have ll2 : j2 < s.heap.objs.size := by obtain ⟨o, e⟩ := D2.live _ _ t2; exact Heap.lt_size e
  unfold Builtin.List.listExtendWith
  refine wpAny_bind (wpAny_typeOf hty ?_)
  have x1 : Builtin.List.listSameRef (.ref S) (.ref z) = false := by simp [Builtin.List.listSameRef, nz]
  have x2 : (Value.type "zip" == Value.type "list") = false := by decide
  have x3 : (Value.type "zip" == Value.type "tuple") = false := by decide
  simp only [x1, x2, x3, Bool.or_false, Bool.false_eq_true, if_false]
  refine wpAny_bind (wpAny_pyIter_zip hz ?_)
  refine wpAny_bind (wpAny_holding ?_)
  unfold Builtin.List.listLengthHint
  refine wpAny_bind (wpAny_specialOf hty no_len_zip ?_)
  refine wpAny_bind (m := specialOf (Value.ref z) (Str.ofString "__length_hint__")) (wpAny_specialOf hty no_hint_zip ?_)
  refine wpAny_pure ?_
  refine wpAny_bind (m := rule "list.extend.makes-room") (wpAny_rule ?_)
  refine wpAny_bind (m := Builtin.List.listTouch (.ref S)) ?_
  show wpAny _ A.in1 (updateSeq S (·.push Value.none) >>= fun _ => updateSeq S (·.pop)) _ _ _
  refine wpAny_bind (wpAny_updateSeq hL rfl ?_)
  have hL2 := Heap.get?_update_self (Obj.mapSeq (·.push Value.none)) hL rfl
  refine wpAny_updateSeq (hz := by seq_fits) hL2 rfl ?_
  have hL3 := Heap.get?_update_self (Obj.mapSeq (·.pop)) hL2 rfl
  have up : ∀ b o, b ≠ S → s.heap.get? b = some o → ((s.heap.update S (Obj.mapSeq (·.push Value.none))).update S (Obj.mapSeq (·.pop))).get? b = some o := fun b o hb e => (Heap.get?_update_other _ _ (Ne.symm hb)).trans ((Heap.get?_update_other _ _ (Ne.symm hb)).trans e)
  refine wpAny_pure ⟨plainId_quiet F.plain_extend_loop _, lz_loop (h1 := s.heap) D D1 D2 hN (Heap.lt_size hL) (Heap.lt_size hz) (Heap.lt_size hI) (Heap.lt_size hO) ll1 ll2 nz nt no n1 n2 res hR N 0 _ s.toks _ _ [] (Nat.sub_zero _) (Nat.zero_le _) (.inl ⟨rfl, up _ _ (Ne.symm nz) hz, _, _, up _ _ (Ne.symm no) hO⟩) (up _ _ (Ne.symm nt) hI)
    (D1.frame _ _ _ t1 fun b hb o e => up b o (fun q => n1 (q ▸ hb)) e) (D2.frame _ _ _ t2 fun b hb o e => up b o (fun q => n2 (q ▸ hb)) e) (by rw [Heap.size_update, Heap.size_update]; exact Nat.le_refl _) (fun b o y1 _ _ _ _ e => up b o y1 e) hL3 rfl rfl ⟨List.Pairwise.nil, (fun _ q => nomatch q), fun j b q => by simp at q⟩⟩
theorem lz_init {S : Addr} {R : Result → Shared → Prop} (D : ZipSep2 z tc to j1 j2 fp1 fp2) (D1 : Draws prog w A.in1.in1 j1 fp1 N P1 St1) (D2 : Draws prog w A.in1.in1 j2 fp2 N P2 St2) (hN : N ≤ sizeLine) {u0 w0 : Value}
    (hz : IsZip s.heap z tc to .none) (hI : IsTupOf2 s.heap tc (.ref j1) (.ref j2)) (hO : IsTupOf2 s.heap to u0 w0) (t1 : St1 0 s.heap) (t2 : St2 0 s.heap) (hL : s.heap.get? S = some { cls := .type "list", data := .seq #[] })
    (nz : S ≠ z) (nt : S ≠ tc) (no : S ≠ to) (n1 : S ∉ fp1) (n2 : S ∉ fp2)
    (hR : ∀ g k acc c as, (∀ b o, b ≠ S → b ≠ z → b ≠ to → b ≠ j1 → b ≠ j2 → s.heap.get? b = some o → g.get? b = some o) → g.get? S = some { cls := .type "list", dict := none, data := .seq acc c, slots := #[] } → acc.toList = as.map Value.ref → as.length = N → Made2 P1 P2 s.heap.objs.size g as → R (.ok (.ret .none)) { s with heap := g, toks := k }) :
    wpAny (model prog w) A.in1 (Builtin.«list.__init__» ⟨[.ref S, .ref z], []⟩)
      (fun fin s' => match fin with | .done f => R (.ok f) s' | .again c' => c'.quiet = true ∧ codeAny (model prog w) A c' R s') (fun e s' => R (.error e) s') s := by
  refine wpAny_bind (m := Builtin.List.listItems (.ref S)) ?_
  unfold Builtin.List.listItems
  refine wpAny_bind (wpAny_seqItems hL rfl (wpAny_pure ?_))
  refine wpAny_bind (m := updateSeq S (fun _ => #[])) (wpAny_updateSeq hL rfl ?_)
  have hL2 := Heap.get?_update_self (Obj.mapSeq (fun _ => (#[] : Array Value))) hL rfl
  have up : ∀ b o, b ≠ S → s.heap.get? b = some o → (s.heap.update S (Obj.mapSeq (fun _ => (#[] : Array Value)))).get? b = some o := fun b o hb e => (Heap.get?_update_other _ _ (Ne.symm hb)).trans e
  refine wpAny_bind (wpAny_letGo ?_)
  have sz : (s.heap.update S (Obj.mapSeq (fun _ => (#[] : Array Value)))).objs.size = s.heap.objs.size := Heap.size_update ..
  refine lz_extend (s := { s with heap := s.heap.update S (Obj.mapSeq (fun _ => (#[] : Array Value))) }) D D1 D2 hN (up _ _ (Ne.symm nz) hz) (up _ _ (Ne.symm nt) hI) (up _ _ (Ne.symm no) hO) (D1.frame _ _ _ t1 fun b hb o e => up b o (fun q => n1 (q ▸ hb)) e) (D2.frame _ _ _ t2 fun b hb o e => up b o (fun q => n2 (q ▸ hb)) e) hL2 nz nt no n1 n2 .none fun g k acc c as kp e1 e2 e3 M => ?_
  refine hR g k acc c as (fun b o y1 y2 y3 y4 y5 e => kp b o y1 y2 y3 y4 y5 (up b o y1 e)) e1 e2 e3 ?_
  rw [← sz]
  exact M
end
section
variable {prog : Program} {w : World} {A : Around} {E : Value → Shared → Prop} {s : Shared} {z tc to j1 j2 a : Addr} {fp1 fp2 : List Addr} {N n : Nat} {P1 P2 : Nat → Value → Prop} {St1 St2 : Nat → Heap → Prop}
theorem lz_call {Q : Value → Shared → Prop} (D : ZipSep2 z tc to j1 j2 fp1 fp2) (D1 : Draws prog w A.in1.in1.in1 j1 fp1 N P1 St1) (D2 : Draws prog w A.in1.in1.in1 j2 fp2 N P2 St2) (hN : N ≤ sizeLine) {u0 w0 : Value}
    (hz : IsZip s.heap z tc to .none) (hI : IsTupOf2 s.heap tc (.ref j1) (.ref j2)) (hO : IsTupOf2 s.heap to u0 w0) (t1 : St1 0 s.heap) (t2 : St2 0 s.heap) (b1 : ∀ b ∈ fp1, b < s.heap.objs.size) (b2 : ∀ b ∈ fp2, b < s.heap.objs.size)
    (hQ : ∀ g k acc c as, (∀ b o, b ≠ z → b ≠ to → b ≠ j1 → b ≠ j2 → s.heap.get? b = some o → g.get? b = some o) → g.get? s.heap.objs.size = some { cls := .type "list", dict := none, data := .seq acc c, slots := #[] } → acc.toList = as.map Value.ref → as.length = N → Made2 P1 P2 (s.heap.objs.size + 1) g as → Q (.ref s.heap.objs.size) { s with heap := g, toks := k }) :
    wpAny (model prog w) A (call (.type "list") [.ref z]) Q E s := by
  refine callType_codes (Q₁ := fun obj s₁ => obj = .ref s.heap.objs.size ∧ s₁ = { s with heap := s.heap.push { cls := .type "list", data := .seq #[] } }) F.called_list (F.typeCall_list_1 _) F.entry_list_init (code_list_new _ ⟨rfl, rfl⟩) fun obj s₁ h₁ => ?_
  obtain ⟨rfl, rfl⟩ := h₁
  have up : ∀ b o, s.heap.get? b = some o → (s.heap.push { cls := .type "list", data := .seq #[] }).get? b = some o := fun b o e => Heap.get?_push_of_some _ e
  have hS : (s.heap.push { cls := .type "list", data := .seq #[] }).get? s.heap.objs.size = some { cls := .type "list", data := .seq #[] } := Heap.get?_push_size _ rfl
  have sz : (s.heap.push { cls := .type "list", data := .seq #[] }).objs.size = s.heap.objs.size + 1 := Heap.size_push ..
  have no : ∀ b, b < s.heap.objs.size → s.heap.objs.size ≠ b := fun b h => Nat.ne_of_gt h
  refine ⟨⟨_, hS, rfl⟩, F.args_list_init_2 _ _, lz_init (A := A.in1) (s := { s with heap := s.heap.push { cls := .type "list", data := .seq #[] } }) D D1 D2 hN (up _ _ hz) (up _ _ hI) (up _ _ hO) (D1.frame _ _ _ t1 fun b _ o e => up b o e) (D2.frame _ _ _ t2 fun b _ o e => up b o e) hS (no _ (Heap.lt_size hz)) (no _ (Heap.lt_size hI)) (no _ (Heap.lt_size hO)) (fun h => Nat.lt_irrefl _ (b1 _ h)) (fun h => Nat.lt_irrefl _ (b2 _ h)) fun g k acc c as kp e1 e2 e3 M => ?_⟩
  refine ⟨rfl, hQ g k acc c as (fun b o y2 y3 y4 y5 e => kp b o (Nat.ne_of_lt (Heap.lt_size e)) y2 y3 y4 y5 (up b o e)) e1 e2 e3 ?_⟩
  rw [← sz]
  exact M
end
/-- the first place of an address -/
def posA : List Addr → Addr → Nat
  | [], _ => 0
  | x :: r, a => if x = a then 0 else posA r a + 1
theorem posA_of : ∀ {as : List Addr} {j : Nat} {a : Addr}, as.Nodup → as[j]? = some a → posA as a = j
  | [], _, _, _, h => by cases h
  | x :: r, 0, a, hn, h => by
    have e : x = a := Option.some.inj h
    unfold posA
    rw [if_pos e]
  | x :: r, j + 1, a, hn, h => by
    have h2 : r[j]? = some a := h
    have hn2 := List.nodup_cons.mp hn
    have ne : ¬ x = a := fun e => hn2.1 (e ▸ List.mem_of_getElem? h2)
    unfold posA
    rw [if_neg ne, posA_of hn2.2 h2]
def putP (H : Hp) (S : Addr) (as : List Addr) (xs ys : List V) : Hp := fun b => if b = S then some (.lst (as.map V.ref)) else if b ∈ as then some (.tup [xs.getD (posA as b) .non, ys.getD (posA as b) .non]) else H b
theorem getD_of {xs : List V} {j : Nat} {x : V} (h : xs[j]? = some x) : xs.getD j .non = x := by
  rw [List.getD_eq_getElem?_getD, h]
  rfl
section
variable {X : Cx} {pins : List (Addr × Obj)} {σ : L2.St} {H : Hp} {s : Shared} {g : Heap} {S c k : Nat} {as : List Addr} {xs ys : List V} {acc : Array Value}
theorem laid_pairs (J : Inv X pins σ H s) (kp : ∀ b o, s.heap.get? b = some o → g.get? b = some o) (lo : s.heap.objs.size ≤ S) (hS : g.get? S = some { cls := .type "list", dict := none, data := .seq acc c, slots := #[] }) (hacc : acc.toList = as.map Value.ref) (hl : as.length ≤ sizeLine) (nd : as.Nodup) (ab : ∀ a ∈ as, S < a)
    (hp : ∀ (j : Nat) (a : Addr), as[j]? = some a → ∃ x y v1 v2, xs[j]? = some x ∧ ys[j]? = some y ∧ RelV x v1 ∧ RelV y v2 ∧ IsTupOf2 g a v1 v2) :
    Same H (putP H S as xs ys) ∧ (putP H S as xs ys) S = some (.lst (as.map V.ref)) ∧ (∀ (j : Nat) (a : Addr) (x y : V), as[j]? = some a → xs[j]? = some x → ys[j]? = some y → (putP H S as xs ys) a = some (.tup [x, y])) ∧ Inv X pins σ (putP H S as xs ys) { s with heap := g, toks := k } := by
  have fr : ∀ b, S ≤ b → H b = none := fun b h => J.hok.fresh (Nat.le_trans lo h)
  have sm : Same H (putP H S as xs ys) := fun b o e => by
    have n1 : ¬ b = S := fun z => by rw [z, fr S (Nat.le_refl _)] at e; cases e
    have n2 : ¬ b ∈ as := fun z => by rw [fr b (Nat.le_of_lt (ab b z))] at e; cases e
    unfold putP
    rw [if_neg n1, if_neg n2]
    exact e
  have eS : (putP H S as xs ys) S = some (.lst (as.map V.ref)) := if_pos rfl
  have eT : ∀ (j : Nat) (a : Addr) (x y : V), as[j]? = some a → xs[j]? = some x → ys[j]? = some y → (putP H S as xs ys) a = some (.tup [x, y]) := fun j a x y h1 h2 h3 => by
    have m := List.mem_of_getElem? h1
    unfold putP
    rw [if_neg (Nat.ne_of_gt (ab a m)), if_pos m, posA_of nd h1, getD_of h2, getD_of h3]
  refine ⟨sm, eS, eT, J.un ⟨fun b o q _ _ _ => kp b o q, fun b o q _ _ _ => ⟨o.slots, kp b o q⟩, fun b o q n _ => ?_, fun b o q _ => ⟨o, kp b o q⟩, fun b zs q => sm b _ q, fun b o u q => sm b _ q, fun b ps q => ⟨#[], by rw [sm b _ q]; simp⟩⟩ fun b u q => ?_⟩
  · have lb : b < s.heap.objs.size := Heap.lt_size q
    have n1 : ¬ b = S := Nat.ne_of_lt (Nat.lt_of_lt_of_le lb lo)
    have n2 : ¬ b ∈ as := fun z => Nat.lt_irrefl _ (Nat.lt_trans (Nat.lt_of_lt_of_le lb lo) (ab b z))
    unfold putP
    rw [if_neg n1, if_neg n2]
    exact n
  · by_cases h1 : b = S
    · subst h1
      rw [eS] at q
      cases q
      refine ⟨by rw [List.length_map]; exact hl, acc.toList, c, by rw [hacc]; exact LiI.vals_refs as, ?_⟩
      rw [Array.toArray_toList]
      exact hS
    · by_cases h2 : b ∈ as
      · obtain ⟨j, hj⟩ := List.mem_iff_getElem?.mp h2
        obtain ⟨x, y, v1, v2, q1, q2, r1, r2, e⟩ := hp j b hj
        rw [eT j b x y hj q1 q2] at q
        cases q
        exact ⟨by show 2 ≤ sizeLine; decide, [v1, v2], .cons r1 (.cons r2 .nil), ⟨_, e, rfl, _, rfl⟩⟩
      · have q2 : H b = some u := by
          unfold putP at q
          rw [if_neg h1, if_neg h2] at q
          exact q
        exact (J.hok b u q2).stay (fun d v _ y => kp d v y) (fun d y => sm d _ y) fun d zs y => sm d _ y
end
def tListZip (K : PySem.W.Frag) (ta : TA) : TE := fun σ H Q => ta σ H fun vs H1 => ∃ (l1 l2 : Addr) (xs ys : List V), vs = [.ref l1, .ref l2] ∧ SqL K H1 l1 xs ∧ SqL K H1 l2 ys ∧ xs.length = ys.length ∧
  ∀ (p : Addr) (ts : List Addr) (H' : Hp), H1 p = none → Same H1 H' → H' p = some (.lst (ts.map V.ref)) → ts.length = xs.length → (∀ (j : Nat) (t : Addr) (x y : V), ts[j]? = some t → xs[j]? = some x → ys[j]? = some y → H' t = some (.tup [x, y])) → (∀ t ∈ ts, H1 t = none) → p ∉ ts → Q (.ref p) H'
theorem pe_listZip {X : Cx} {e1 e2 : Expr} {ta : TA} {p p2 q pos : Pos} (hc : X.calm = true) (hg : Gl X "list") (hm : X.mg "list" = none) (hg2 : Gl X "zip") (hm2 : X.mg "zip" = none) (ha : PA X [e1, e2] ta)
    (hs : starEach [e1, e2] X.env = (false, eval e1 X.env) :: starEach [e2] X.env := by rfl) (hb : (backTo q (starEach [e2] X.env)).any (·.1) = false := by rfl)
    (na : starEach [.Call (.Name "zip" p2) [e1, e2] [] q] X.env = (false, eval (.Call (.Name "zip" p2) [e1, e2] [] q) X.env) :: starEach [] X.env := by rfl) :
    PE X (.Call (.Name "list" p) [.Call (.Name "zip" p2) [e1, e2] [] q] [] pos) (tListZip X.K ta) := by
  refine ⟨fun pins s σ H Q I h => ?_⟩
  refine Call_ (ld_blt I hg hm boot_list ?_)
  refine PyProof.Rows.callWith_type1 (PyProof.Rows.args_cons ?_ na) na rfl
  refine Call_ (ld_blt I hg2 hm2 PyProof.Rows.boot_zip (PyProof.Rows.callWith_type1 (thn (ha.run q pins s σ H _ I h) fun us0 s1 ⟨vs, H1, J, rr, q1⟩ => ?_) hs hb))
  obtain ⟨a, b, xs, ys, ex, hx, hy, hlen, q1⟩ := q1
  subst ex
  cases rr with
  | cons r1 rr =>
    cases rr with
    | cons r2 rr =>
      cases rr
      cases r1
      cases r2
      obtain ⟨vs1, R1, f1, z1⟩ := J.list hx
      obtain ⟨vs2, R2, f2, z2⟩ := J.list hy
      have l1 : xs.length = vs1.length := R1.length
      have l2 : ys.length = vs2.length := R2.length
      have al : a < s1.heap.objs.size := by obtain ⟨_, e, _⟩ := f1.isList; exact Heap.lt_size e
      have bl : b < s1.heap.objs.size := by obtain ⟨_, e, _⟩ := f2.isList; exact Heap.lt_size e
      refine zip_begins2 (begins_list a vs1.toArray) (begins_list b vs2.toArray) f1.isList f2.isList fun g g1 g2 g3 g4 g5 gz kp => ?_
      refine PyProof.Rows.args_nil ?_
      have hh : X.A.handled = none := J.ok.hd hc
      have D1 := Draws.list (prog := X.prog) (w := X.w) (A := X.A.in1.in1.in1) hh s1.heap.objs.size a (Nat.ne_of_lt al) vs1.toArray
      have D2 := Draws.list (prog := X.prog) (w := X.w) (A := X.A.in1.in1.in1) hh (s1.heap.objs.size + 1) b (Nat.ne_of_lt (Nat.lt_succ_of_lt bl)) vs2.toArray
      have k2 : vs2.toArray.size = vs1.toArray.size := by rw [List.size_toArray, List.size_toArray]; omega
      rw [k2] at D2
      have in1 : ∀ c ∈ [s1.heap.objs.size, a], c < g.objs.size := fun c hcm => by
        rw [gz]
        rcases List.mem_cons.mp hcm with e | e
        · rw [e]; exact Nat.lt_add_of_pos_right (by decide)
        · rw [List.mem_singleton.mp e]; exact Nat.lt_of_lt_of_le al (Nat.le_add_right _ _)
      have in2 : ∀ c ∈ [s1.heap.objs.size + 1, b], c < g.objs.size := fun c hcm => by
        rw [gz]
        rcases List.mem_cons.mp hcm with e | e
        · rw [e]; exact Nat.add_lt_add_left (by decide) _
        · rw [List.mem_singleton.mp e]; exact Nat.lt_of_lt_of_le bl (Nat.le_add_right _ _)
      refine lz_call (s := { s1 with heap := g }) (zs_new al bl) D1 D2 (by rw [List.size_toArray, ← l1]; exact z1) g1 g2 g3 ⟨⟨_, g4, rfl, rfl⟩, f1.isList.at fun o e => kp a o e⟩ ⟨⟨_, g5, rfl, rfl⟩, f2.isList.at fun o e => kp b o e⟩ in1 in2 fun g' k acc c as kp2 eS eacc elen M => ?_
      have kp3 : ∀ c o, s1.heap.get? c = some o → g'.get? c = some o := fun c o e => by
        have lc : c < s1.heap.objs.size := Heap.lt_size e
        have ne : ∀ i, c ≠ s1.heap.objs.size + i := fun i => Nat.ne_of_lt (Nat.lt_of_lt_of_le lc (Nat.le_add_right _ _))
        exact kp2 c o (ne 4) (ne 3) (ne 0) (ne 1) (kp c o e)
      have nd : as.Nodup := M.rise.imp fun h => Nat.ne_of_lt h
      have ab : ∀ t ∈ as, g.objs.size < t := fun t ht => (M.above t ht).1
      have la : as.length = xs.length := by rw [elen, List.size_toArray, l1]
      have lo : s1.heap.objs.size ≤ g.objs.size := by rw [gz]; exact Nat.le_add_right _ _
      obtain ⟨sm, e1, e2, J2⟩ := laid_pairs (k := k) (xs := xs) (ys := ys) J kp3 lo eS eacc (by rw [la]; exact z1) nd ab fun j t hj => by
        obtain ⟨v1, v2, y1, y2, e⟩ := M.pairs j t hj
        have hjl : j < xs.length := by rw [← la]; exact (List.getElem?_eq_some_iff.mp hj).1
        have hjl2 : j < ys.length := by omega
        have x1 : xs[j]? = some xs[j] := List.getElem?_eq_getElem hjl
        have x2 : ys[j]? = some ys[j] := List.getElem?_eq_getElem hjl2
        obtain ⟨w1, n1, o1⟩ := R1.get x1
        obtain ⟨w2, n2, o2⟩ := R2.get x2
        have y1' : vs1[j]? = some v1 := by simpa using y1
        have y2' : vs2[j]? = some v2 := by simpa using y2
        have i1 : w1 = v1 := Option.some.inj (n1.symm.trans y1')
        have i2 : w2 = v2 := Option.some.inj (n2.symm.trans y2')
        subst i1 i2
        exact ⟨_, _, _, _, x1, x2, o1, o2, e⟩
      refine ⟨.ref g.objs.size, putP H1 g.objs.size as xs ys, J2, rfl, q1 _ as _ (J.hok.fresh lo) sm e1 la e2 (fun t ht => J.hok.fresh (Nat.le_trans lo (Nat.le_of_lt (ab t ht)))) fun z => Nat.lt_irrefl _ (ab _ z)⟩


end Rf
namespace Rf
open PySem PySem.Spec PyProof.Rows L2
/-! ### while -/
/-- a while, by a word and a measure; what the test leaves: R -/
theorem sq_while {c : TT} {tu tz : TS} {D : Ends} {σ : L2.St} {H : Hp} (W : Nat → L2.St → Hp → Prop) (m0 : Nat) (h0 : W m0 σ H)
    (hs : ∀ m σ' H', W m σ' H' → ∃ R : Bool → Hp → Prop, (∀ Q : Bool → Hp → Prop, (∀ b H1, R b H1 → Q b H1) → c σ' H' Q) ∧
      (∀ H1, R true H1 → tu { D with nx := fun σ2 H2 => ∃ m', m' < m ∧ W m' σ2 H2, ct := fun σ2 H2 => ∃ m', m' < m ∧ W m' σ2 H2, bk := tz D } σ' H1) ∧ (∀ H1, R false H1 → tz D σ' H1)) : tSeq (tWhile c tu) tz D σ H := by
  refine ⟨W, ⟨m0, h0⟩, fun m σ' H' w => ?_⟩
  obtain ⟨R, hc, ht, hf⟩ := hs m σ' H' w
  refine hc _ fun b H1 r => ?_
  cases b with
  | true => exact iteT ⟨_, fun _ _ h => h, ht H1 r⟩
  | false => exact iteF (hf H1 r)
/-- a while that is its block's last -/
theorem last_while {c : TT} {tu : TS} {D : Ends} {σ : L2.St} {H : Hp} (h : tSeq (tWhile c tu) tNext D σ H) : tWhile c tu D σ H := h
/-- if c: .. else ..; the test leaves R -/
theorem if_ifR {c : TT} {t u : TS} {D : Ends} {σ : L2.St} {H : Hp} {p : Prop} [Decidable p] (R : Hp → Prop) (h : ∀ Q : Bool → Hp → Prop, (∀ H', R H' → Q (decide p) H') → c σ H Q) (k1 : p → ∀ H', R H' → t D σ H') (k2 : ¬ p → ∀ H', R H' → u D σ H') : tIfS c t u D σ H := by
  refine h _ fun H' r => ?_
  by_cases e : p
  · rw [decide_eq_true e]
    exact iteT (k1 e H' r)
  · rw [decide_eq_false e]
    exact iteF (k2 e H' r)


end Rf
namespace Rf
open PySem PySem.Spec PyProof.Rows L2
/-! ### while, the test by a walrus -/
/-- a while that names what it tests -/
theorem sq_whileW {c : TTw} {tu tz : TS} {D : Ends} {σ : L2.St} {H : Hp} (W : Nat → L2.St → Hp → Prop) (m0 : Nat) (h0 : W m0 σ H)
    (hs : ∀ m σ' H', W m σ' H' → ∃ R : Bool → L2.St → Hp → Prop, (∀ Q : Bool → L2.St → Hp → Prop, (∀ b σ1 H1, R b σ1 H1 → Q b σ1 H1) → c σ' H' Q) ∧
      (∀ σ1 H1, R true σ1 H1 → tu { D with nx := fun σ2 H2 => ∃ m', m' < m ∧ W m' σ2 H2, ct := fun σ2 H2 => ∃ m', m' < m ∧ W m' σ2 H2, bk := tz D } σ1 H1) ∧ (∀ σ1 H1, R false σ1 H1 → tz D σ1 H1)) : tSeq (tWhileW c tu tNext) tz D σ H := by
  refine ⟨W, ⟨m0, h0⟩, fun m σ' H' w => ?_⟩
  obtain ⟨R, hc, ht, hf⟩ := hs m σ' H' w
  refine hc _ fun b σ1 H1 r => ?_
  cases b with
  | true => exact iteT ⟨_, fun _ _ h => h, ht σ1 H1 r⟩
  | false => exact iteF (hf σ1 H1 r)


end Rf
namespace Rf
open PySem PySem.Spec PyProof.Rows L2
/-! ### data without bools, texts and dicts: == is equality -/
mutual
def clean : PyData → Prop
  | .none => True
  | .int _ => True
  | .list xs => cleanAll xs
  | .tuple xs => cleanAll xs
  | .bool _ => False
  | .str _ => False
  | .dict _ => False
def cleanAll : List PyData → Prop
  | [] => True
  | x :: xs => clean x ∧ cleanAll xs
end
mutual
theorem eqv_iff : ∀ (d e : PyData), clean d → clean e → (PyData.eqv d e = true ↔ d = e)
  | .none, e, _, h => by cases e <;> simp_all [PyData.eqv, clean]
  | .int i, e, _, h => by cases e <;> simp_all [PyData.eqv, clean]
  | .list xs, e, hx, h => by
    cases e with
    | list ys =>
      unfold PyData.eqv
      rw [eqvAll_iff xs ys (by simpa [clean] using hx) (by simpa [clean] using h)]
      exact ⟨fun z => by rw [z], fun z => PyData.list.inj z⟩
    | _ => simp_all [PyData.eqv, clean]
  | .tuple xs, e, hx, h => by
    cases e with
    | tuple ys =>
      unfold PyData.eqv
      rw [eqvAll_iff xs ys (by simpa [clean] using hx) (by simpa [clean] using h)]
      exact ⟨fun z => by rw [z], fun z => PyData.tuple.inj z⟩
    | _ => simp_all [PyData.eqv, clean]
  | .bool _, _, h, _ => by simp [clean] at h
  | .str _, _, h, _ => by simp [clean] at h
  | .dict _, _, h, _ => by simp [clean] at h
theorem eqvAll_iff : ∀ (xs ys : List PyData), cleanAll xs → cleanAll ys → (PyData.eqvAll xs ys = true ↔ xs = ys)
  | [], [], _, _ => by simp [PyData.eqvAll]
  | [], _ :: _, _, _ => by simp [PyData.eqvAll]
  | _ :: _, [], _, _ => by simp [PyData.eqvAll]
  | x :: xs, y :: ys, hx, hy => by
    obtain ⟨h1, h2⟩ := (show clean x ∧ cleanAll xs by simpa [cleanAll] using hx)
    obtain ⟨h3, h4⟩ := (show clean y ∧ cleanAll ys by simpa [cleanAll] using hy)
    unfold PyData.eqvAll
    rw [Bool.and_eq_true, eqv_iff x y h1 h3, eqvAll_iff xs ys h2 h4]
    exact ⟨fun z => by rw [z.1, z.2], fun z => List.cons.inj z⟩
end
mutual
theorem canLay_clean : ∀ (d : PyData), clean d → d.canLay0 = true
  | .none, _ => by simp [PyData.canLay0]
  | .int i, _ => by simp [PyData.canLay0]
  | .list xs, h => by
    unfold PyData.canLay0
    exact canLayAll_clean xs (by simpa [clean] using h)
  | .tuple xs, h => by
    unfold PyData.canLay0
    exact canLayAll_clean xs (by simpa [clean] using h)
  | .bool _, h => by simp [clean] at h
  | .str _, h => by simp [clean] at h
  | .dict _, h => by simp [clean] at h
theorem canLayAll_clean : ∀ (xs : List PyData), cleanAll xs → PyData.canLayAll0 xs = true
  | [], _ => by simp [PyData.canLayAll0]
  | x :: xs, h => by
    obtain ⟨h1, h2⟩ := (show clean x ∧ cleanAll xs by simpa [cleanAll] using h)
    unfold PyData.canLayAll0
    rw [canLay_clean x h1, canLayAll_clean xs h2]
    rfl
end
theorem depthAll_le {n : Nat} : ∀ (xs : List PyData), (∀ x ∈ xs, x.depth ≤ n) → PyData.depthAll xs ≤ n
  | [], _ => by simp [PyData.depthAll]
  | x :: xs, h => by
    unfold PyData.depthAll
    exact Nat.max_le.mpr ⟨h x List.mem_cons_self, depthAll_le xs fun y hy => h y (List.mem_cons_of_mem _ hy)⟩
theorem cleanAll_of : ∀ {xs : List PyData}, (∀ x ∈ xs, clean x) → cleanAll xs
  | [], _ => by simp [cleanAll]
  | x :: xs, h => by
    simp only [cleanAll]
    exact ⟨h x List.mem_cons_self, cleanAll_of fun y hy => h y (List.mem_cons_of_mem _ hy)⟩
/-- d is clean data at most n deep -/
structure Cl (n : Nat) (d : PyData) : Prop where
  c : clean d
  d : d.depth ≤ n
theorem Cl.shaped {n : Nat} {d : PyData} (h : Cl n d) (hn : n ≤ 64) : SeqAt.shaped d = true := by
  unfold SeqAt.shaped
  rw [canLay_clean d h.c, decide_eq_true (Nat.le_trans h.d hn)]
  rfl
theorem cl_int {i : Int} : Cl 0 (.int i) := ⟨by simp [clean], by simp [PyData.depth]⟩
theorem cl_none : Cl 0 .none := ⟨by simp [clean], by simp [PyData.depth]⟩
theorem cl_list {n : Nat} {xs : List PyData} (h : ∀ x ∈ xs, Cl n x) : Cl (n + 1) (.list xs) :=
  ⟨by simpa [clean] using cleanAll_of fun x hx => (h x hx).c, by
    unfold PyData.depth
    exact Nat.succ_le_succ (depthAll_le xs fun x hx => (h x hx).d)⟩
theorem cl_tup {n : Nat} {xs : List PyData} (h : ∀ x ∈ xs, Cl n x) : Cl (n + 1) (.tuple xs) :=
  ⟨by simpa [clean] using cleanAll_of fun x hx => (h x hx).c, by
    unfold PyData.depth
    exact Nat.succ_le_succ (depthAll_le xs fun x hx => (h x hx).d)⟩
theorem cl_ints {l : List Int} : ∀ x ∈ l.map PyData.int, Cl 0 x := fun x hx => by
  obtain ⟨i, _, rfl⟩ := List.mem_map.mp hx
  exact cl_int
def dInts (l : List Int) : PyData := .list (l.map .int)
theorem cl_dInts {l : List Int} : Cl 1 (dInts l) := cl_list cl_ints
theorem dInts_inj {l m : List Int} : dInts l = dInts m ↔ l = m := by
  constructor
  · intro h
    have h2 := PyData.list.inj h
    exact (List.map_inj_right (fun a b z => PyData.int.inj z)).mp h2
  · intro h; rw [h]
theorem dpAll_ints {K : PySem.W.Frag} {H : Hp} : ∀ {l : List Int}, DpAll K H (l.map V.int) (l.map PyData.int)
  | [] => .nil
  | _ :: _ => .cons (.int _) dpAll_ints
theorem dp_ints {K : PySem.W.Frag} {H : Hp} {a : Addr} {l : List Int} (h : SqL K H a (l.map V.int)) : Dp K H (.ref a) (dInts l) := .lst h dpAll_ints
theorem eqv_ints {l m : List Int} : PyData.eqv (dInts l) (dInts m) = decide (l = m) := by
  by_cases h : l = m
  · rw [decide_eq_true h, h]
    exact (eqv_iff _ _ cl_dInts.c cl_dInts.c).mpr rfl
  · rw [decide_eq_false h]
    cases e : PyData.eqv (dInts l) (dInts m) with
    | false => rfl
    | true => exact absurd (dInts_inj.mp ((eqv_iff _ _ cl_dInts.c cl_dInts.c).mp e)) h
theorem sh_ints {l : List Int} : SeqAt.shaped (dInts l) = true := cl_dInts.shaped (by decide)
theorem eqv_self {n : Nat} {d : PyData} (h : Cl n d) : PyData.eqv d d = true := (eqv_iff d d h.c h.c).mpr rfl
theorem neqv_self {n : Nat} {d : PyData} (h : Cl n d) : (!PyData.eqv d d) = false := by
  rw [eqv_self h]
  rfl
/-- xs[:-1] of a list with one more item -/
theorem cut_last (xs : List V) (y : V) : cutV (xs ++ [y]) none (some (-1)) = xs := by
  have hl : (xs ++ [y]).length = xs.length + 1 := by simp
  unfold cutV
  rw [hl, HT.sIx_none]
  have e : HT.sIx (xs.length + 1) (xs.length + 1) (some (-1)) = xs.length := by
    simp [HT.sIx]
    omega
  rw [e, List.drop_zero, Nat.sub_zero]
  exact List.take_left' rfl


end Rf
namespace Rf
open PySem PySem.Spec PyProof.Rows L2
/-! ### the law's draws: any number of the range may come -/
structure RngAt (H : Hp) (h c : Addr) : Prop where
  ne : h ≠ c
  at_ : ∃ (x p : Int) (cells : List Int), H h = some (.lst [.int x, .ref c, .int p]) ∧ H c = some (.lst (cells.map V.int)) ∧ 0 ≤ x ∧ x < 2147483647 ∧ 0 ≤ p ∧ cells.length ≤ 63
def isHC (h c : Addr) (b : Addr) : Prop := b = h ∨ b = c
theorem RngAt.keep {H H' : Hp} {h c : Addr} (R : RngAt H h c) (e1 : H' h = H h) (e2 : H' c = H c) : RngAt H' h c := by
  obtain ⟨ne, x, p, cells, h1, h2, r⟩ := R
  exact ⟨ne, x, p, cells, e1.trans h1, e2.trans h2, r⟩
theorem RngAt.same {H H' : Hp} {h c : Addr} (R : RngAt H h c) (e : Same H H') : RngAt H' h c := by
  obtain ⟨ne, x, p, cells, h1, h2, r⟩ := R
  exact ⟨ne, x, p, cells, e _ _ h1, e _ _ h2, r⟩
theorem RngAt.off {S : Addr → Prop} {H H' : Hp} {h c : Addr} (R : RngAt H h c) (e : Off S H H') (n1 : ¬ S h) (n2 : ¬ S c) : RngAt H' h c := by
  obtain ⟨ne, x, p, cells, h1, h2, r⟩ := R
  exact ⟨ne, x, p, cells, e _ _ h1 n1, e _ _ h2 n2, r⟩
def spNext : Sp := fun vs H Q _ => ∃ (h c : Addr) (m : Int), vs = [.ref h, .int m] ∧ RngAt H h c ∧ 0 < m ∧ m < 1073741824 ∧
  ∀ (r : Int) (H' : Hp), 0 ≤ r → r < m → RngAt H' h c → Off (isHC h c) H H' → Q (.int r) H'
theorem Off.hc {H H1 H' : Hp} {h c b : Addr} {o : HO} (e : Off (isHC h c) H H') (hb : b = h ∨ b = c) : Off (isHC h c) H (upd H' b o) := fun a u q n => by
  have : a ≠ b := fun z => n (by rw [z]; exact hb)
  rw [upd_ne this]
  exact e a u q n
section
variable {P : Program} {w : World} {K : PySem.W.Frag} {mg : Str → Option Value} {base : Heap}
theorem sc_next : FnScope ["_law_h", "_law_many", "_law_at", "_law_cell"] ["_law_h", "_law_many"] (defScope s_next) := ⟨rfl, rfl, rfl, by decide +kernel, rfl, by decide +kernel, by decide +kernel⟩
theorem ok_next {f : Addr} {fd : FuncData} (D : DefAt K mg "_law_next" s_next ["_law_h", "_law_many"] f fd) (m_max : mg "max" = none) (m_len : mg "len" = none) : FnOk P w K mg base CX0 1 f fd ["_law_h", "_law_many"] spNext := by
  refine D.F.ok sc_next (fun vs H Q E h => ?_) (fun cdv A outer s H vs Q E hr h => ?_)
  · obtain ⟨h, c, m, rfl, _⟩ := h
    rfl
  · obtain ⟨h, c, m, rfl, R, m0, m1, k⟩ := h
    obtain ⟨ne, x, p, cells, e1, e2, x0, x1, p0, hl⟩ := R
    have hlen : (cells.map V.int).length = cells.length := List.length_map _
    refine ⟨_, pss_cons (ps_set (i := 2) sc_next.nd rfl (.inl rfl) (pe_op op_mod (pe_ix (r := rIxL K) ix_list (pv 0) pe_int (fun _ _ => rfl)) (pe_callB (call_max2 rfl) (by rfl) m_max (by decide +kernel) (pa_cons pe_int (pa_cons (pe_callB (r := rLen K) call_len (by rfl) m_len (by decide +kernel) (pa_cons (pe_ix (r := rIxL K) ix_list (pv 0) pe_int (fun _ _ => rfl)) pa_nil)) pa_nil)))))
        (pss_cons (ps_set (i := 3) sc_next.nd rfl (.inl rfl) (pe_ifExp (pt_cmpR (op_neD hr.units) (pe_ix (r := rIxL K) ix_list (pv 0) pe_int (fun _ _ => rfl)) (pe_lst pa_nil) (nomark _)) (pe_ix (r := rIxL K) ix_list (pe_ix (r := rIxL K) ix_list (pv 0) pe_int (fun _ _ => rfl)) (pv 2) (fun _ _ => rfl)) pe_int))
        (pss_cons (ps_if (pt_cmpR op_ge (pv 3) (pe_op op_pow pe_int pe_int) (nomark _)) (pss_cons (ps_asg (pe_op op_fdiv (pv 3) (pv 1)) (pg_sub (pe_ix (r := rIxL K) ix_list (pv 0) pe_int (fun _ _ => rfl)) (pv 2) set_list))
          (pss_one (ps_ret (pe_op op_mod (pv 3) (pv 1))))) pss_nil)
        (pss_cons (ps_asg (pe_op op_mod (pe_op op_add (pe_op op_add (pe_op op_mul (pe_ix (r := rIxL K) ix_list (pv 0) pe_int (fun _ _ => rfl)) pe_int) (pe_op op_mul (pv 3) pe_int)) pe_int) pe_int) (pg_sub (pv 0) pe_int set_list))
        (pss_cons (ps_asg (pe_op op_add (pe_ix (r := rIxL K) ix_list (pv 0) pe_int (fun _ _ => rfl)) pe_int) (pg_sub (pv 0) pe_int set_list))
        (pss_one (ps_ret (pe_op op_mod (pe_op op_fdiv (pe_ix (r := rIxL K) ix_list (pv 0) pe_int (fun _ _ => rfl)) pe_int) (pv 1)))))))), ?_⟩
    -- at
    have q : (0 : Int) < (if (((cells.map V.int).length : Nat) : Int) > 1 then (((cells.map V.int).length : Nat) : Int) else 1) := by split <;> omega
    refine sq_val (.int (p % (if (((cells.map V.int).length : Nat) : Int) > 1 then (((cells.map V.int).length : Nat) : Int) else 1))) (fun Q k => ?_) ?_
    · exact ⟨_, rfl, h, _, 2, _, rfl, rfl, sq_of e1, atI_nat (j := 2) rfl, _, rfl, h, _, 1, _, rfl, rfl, sq_of e1, atI_nat (j := 1) rfl, c, _, rfl, .inl (sq_of e2), _, _, rfl, _, _, rfl, rfl, q, k⟩
    -- cell
    refine sq_set (fun v H1 => Same H H1 ∧ ∃ z, v = .int z ∧ ((10 ^ 18 : Int) ≤ z → ∃ j : Nat, p % (if (((cells.map V.int).length : Nat) : Int) > 1 then (((cells.map V.int).length : Nat) : Int) else 1) = (j : Int) ∧ j < cells.length)) (fun Q k => ?_) (fun v H1 h1 => ?_)
    · refine ⟨_, rfl, h, _, 1, _, rfl, rfl, sq_of e1, atI_nat (j := 1) rfl, Nat.zero_le _, fun l nl => ⟨dInts cells, dInts [], dp_ints (sq_of (Same.new nl _ _ e2)), dp_ints (l := []) (sq_of upd_same), sh_ints, sh_ints, _, rfl, ?_⟩⟩
      rw [eqv_ints]
      refine ite2 (fun hc => ?_) (fun _ => k _ _ ⟨Same.new nl, _, rfl, fun z => absurd z (by decide)⟩)
      have hne : cells ≠ [] := fun z => by rw [z] at hc; simp at hc
      have h0 : 0 < cells.length := List.length_pos_iff.mpr hne
      obtain ⟨j, ej, lj⟩ : ∃ j : Nat, p % (if (((cells.map V.int).length : Nat) : Int) > 1 then (((cells.map V.int).length : Nat) : Int) else 1) = (j : Int) ∧ j < cells.length := by
        rw [hlen]
        have q : (if ((cells.length : Nat) : Int) > 1 then ((cells.length : Nat) : Int) else 1) = (cells.length : Int) := by split <;> omega
        rw [q]
        have b1 := Int.emod_nonneg p (b := (cells.length : Int)) (by omega)
        have b2 := Int.emod_lt_of_pos p (b := (cells.length : Int)) (by omega)
        exact ⟨(p % (cells.length : Int)).toNat, by omega, by omega⟩
      refine ⟨_, rfl, h, _, 1, _, rfl, rfl, sq_of (Same.new nl _ _ e1), atI_nat (j := 1) rfl, _, rfl, c, _, _, _, rfl, rfl, sq_of (Same.new nl _ _ e2), atI_g ej lj, ?_⟩
      exact k _ _ ⟨Same.new nl, _, rfl, fun _ => ⟨j, ej, lj⟩⟩
    · obtain ⟨s1, z, rfl, hat⟩ := h1
      have f1 := s1 _ _ e1
      have f2 := s1 _ _ e2
      refine sq_ifP (p := (10 ^ 18 : Int) ≤ z) (fun Q k => ⟨_, rfl, _, _, rfl, rfl, ⟨by decide, by decide, by decide⟩, _, _, rfl, rfl, _, rfl, k⟩) (fun hz => ?_) (fun hz => ?_)
      · obtain ⟨j, ej, lj⟩ := hat hz
        refine ⟨_, rfl, _, rfl, _, _, rfl, rfl, ⟨m0, m1⟩, _, rfl, h, _, 1, _, rfl, rfl, sq_of f1, atI_nat (j := 1) rfl, _, rfl, c, _, _, j, rfl, rfl, f2, ixN_nat ej (by rw [hlen]; exact lj), ?_⟩
        refine ⟨_, rfl, _, rfl, _, _, rfl, rfl, m0, ?_⟩
        refine k _ _ (Int.emod_nonneg _ (by omega)) (Int.emod_lt_of_pos _ m0) ⟨ne, x, p, cells.set j (z / m), ?_, ?_, x0, x1, p0, by rw [List.length_set]; exact hl⟩ ((Off.same s1).hc (H1 := H) (.inr rfl))
        · rw [upd_ne ne]
          exact f1
        · rw [upd_same, map_set]
      · refine sq_nx ?_
        have b1 := Int.emod_nonneg (x * 48271 + z * 69621 + 11) (b := 2147483647) (by decide)
        have b2 := Int.emod_lt_of_pos (x * 48271 + z * 69621 + 11) (b := 2147483647) (by decide)
        refine ⟨_, rfl, h, _, 0, _, rfl, rfl, sq_of f1, atI_nat (j := 0) rfl, x, 48271, rfl, rfl, .inr ⟨by decide, by decide⟩, _, rfl, z, 69621, rfl, rfl, .inr ⟨by decide, by decide⟩, _, _, rfl, rfl, _, _, rfl, rfl, _, _, rfl, rfl, (show (0 : Int) < 2147483647 by decide), ?_⟩
        refine ⟨_, rfl, h, _, 0, 0, rfl, rfl, f1, rfl, ?_⟩
        refine ⟨_, rfl, h, _, 2, _, rfl, rfl, sq_of upd_same, atI_nat (j := 2) rfl, _, _, rfl, rfl, _, rfl, h, _, 2, 2, rfl, rfl, upd_same, rfl, ?_⟩
        refine ⟨_, rfl, h, _, 0, _, rfl, rfl, sq_of upd_same, atI_nat (j := 0) rfl, _, _, rfl, rfl, ⟨by decide, by decide⟩, _, rfl, _, _, rfl, rfl, m0, ?_⟩
        refine k _ _ (Int.emod_nonneg _ (by omega)) (Int.emod_lt_of_pos _ m0) ⟨ne, (x * 48271 + z * 69621 + 11) % 2147483647, p + 1, cells, ?_, ?_, b1, b2, by omega, hl⟩ (((Off.same s1).hc (H1 := H) (.inl rfl)).hc (H1 := H) (.inl rfl))
        · rw [upd_same]
          rfl
        · rw [upd_ne ne.symm, upd_ne ne.symm]
          exact f2
end
/-! ### what a piece of the law leaves: the draws' lists may turn, all else stands -/
structure Fr (h c : Addr) (H H' : Hp) : Prop where
  off : Off (isHC h c) H H'
  rng : RngAt H' h c
theorem Fr.refl {h c : Addr} {H : Hp} (R : RngAt H h c) : Fr h c H H := ⟨Off.refl, R⟩
theorem Fr.trans {h c : Addr} {H H1 H2 : Hp} (a : Fr h c H H1) (b : Fr h c H1 H2) : Fr h c H H2 := ⟨a.off.trans b.off, b.rng⟩
theorem Fr.same {h c : Addr} {H H' H2 : Hp} (a : Fr h c H H') (s : Same H' H2) : Fr h c H H2 := ⟨a.off.trans (Off.same s), a.rng.same s⟩
theorem RngAt.fresh {H : Hp} {h c p : Addr} (R : RngAt H h c) (np : H p = none) : ¬ isHC h c p := by
  obtain ⟨ne, x, q, cells, h1, h2, _⟩ := R
  rintro (e | e)
  · rw [e, h1] at np; cases np
  · rw [e, h2] at np; cases np
theorem Fr.free {h c p : Addr} {H H' : Hp} (a : Fr h c H H') (np : H' p = none) : H p = none := by
  cases e : H p with
  | none => rfl
  | some o =>
    have := a.off p o e (a.rng.fresh np)
    rw [np] at this
    cases this
theorem RngAt.upd {H : Hp} {h c p : Addr} {o : HO} (R : RngAt H h c) (n : ¬ isHC h c p) : RngAt (L2.upd H p o) h c :=
  R.keep (upd_ne fun z => n (.inl z.symm)) (upd_ne fun z => n (.inr z.symm))
theorem Off.mut {S : Addr → Prop} {H H' : Hp} {p : Addr} {o : HO} (e : Off S H H') (h : H p = none) : Off S H (L2.upd H' p o) := fun a u ha n => by
  rw [upd_ne (ne_of_none ha h)]
  exact e a u ha n
/-- a new object is written -/
theorem Fr.mut {h c p : Addr} {H H' : Hp} {o : HO} (a : Fr h c H H') (np : H p = none) (n : ¬ isHC h c p) : Fr h c H (L2.upd H' p o) := ⟨a.off.mut np, a.rng.upd n⟩
theorem Fr.new {h c p : Addr} {H H' : Hp} {o : HO} (a : Fr h c H H') (np : H' p = none) : Fr h c H (L2.upd H' p o) := a.same (Same.new np)
theorem Fr.get {h c p : Addr} {H H' : Hp} {o : HO} (a : Fr h c H H') (e : H p = some o) (n : ¬ isHC h c p) : H' p = some o := a.off p o e n


end Rf
namespace Rf
open PySem PySem.Spec PyProof.Rows L2
/-! ### an own exception whose __init__ says super().__init__(..) -/
section
open NdefX PySem.W PySem.Calls
theorem look_class {y : Str} {cc c : Addr} (h : ([("__class__", cc)] : List (Str × Addr)).lookup y = some c) : y = "__class__" ∧ c = cc := by
  by_cases e : y = "__class__"
  · subst e
    have : some cc = some c := h
    exact ⟨rfl, (Option.some.inj this).symm⟩
  · have : ([("__class__", cc)] : List (Str × Addr)).lookup y = none := by
      have e2 : (y == ("__class__" : Str)) = false := by simpa using e
      simp [List.lookup, e2]
    rw [this] at h
    cases h
theorem in_base {K : PySem.W.Frag} {base : Heap} {a : Addr} {o : Obj} (h : K.In base) (e : K.lookup a = some o) : base.get? a = some o := h _ _ e
/-- what the top has left of such an __init__ -/
structure SupAt (P : Program) (K : PySem.W.Frag) (mg : Str → Option Value) (C f cc cda : Addr) (fd : FuncData) (qual : Str) (st : Stmt) : Prop where
  lk : ∃ (oc : Value) (od an : Option Addr) (osl : Array (Option Value)) (kV doc pm ct : Value), fd = ksFn "__init__" qual (defArgs st) (defBody st) (defScope st) .none kV doc pm an (.ref cda) ct cc ∧ K.lookup f = some ⟨oc, od, .func fd, osl⟩
  code : codeIn K (.ref cda) qual = true
  file : ∃ (ccl : Value) (cdd : Option Addr) (vs : Array Value) (ccs : Array (Option Value)) (fl : Str) (tf : Tok), K.lookup cda = some ⟨ccl, cdd, .fields vs, ccs⟩ ∧ vs[2]? = some (.str fl tf) ∧ ((P.main.file : Str) == fl) = true
  cell : ∃ (cl : Value) (cld : Option Addr) (csl : Array (Option Value)), K.lookup cc = some ⟨cl, cld, .cell (some (.ref C)), csl⟩
  cls : ∃ cd, clsIn K C = some cd
  me : mroIn K C (.ref C) = some true
  sup : mg "super" = none
  top : (P.main.scope.names.lookup ("super" : Str)).isSome = false
  ve : ks_superIn K C C "__init__" = some (some (.builtin "ValueError.__init__"))
  sub : subIn K (.ref C) (.type "ValueError") = some true
  any : nsIn K cStatics "thirdparty.any" = some none
variable {P : Program} {w : World} {K : PySem.W.Frag} {mg : Str → Option Value} {base : Heap} {CX : CXT}
theorem ok_super {C f cc cda : Addr} {fd : FuncData} {qual : Str} {st : Stmt} {N ps : List Str} {k : Nat} {sp : Sp} {e : Expr} {rest : List Stmt} {p0 p1 p2 p3 p4 : Pos} {ar : Arg} (Z : SupAt P K mg C f cc cda fd qual st) (S : NScope N ps ["__class__"] (defScope st)) (T : OexC K C)
    (hbd : defBody st = .Expr (.Call (.Attribute (.Call (.Name "super" p0) [] [] p1) "__init__" p2) [e] [] p3) p4 :: rest) (hks : (defScope st).names.lookup ("super" : Str) = some .globalImplicit)
    (har : ((defArgs st).posonlyargs ++ (defArgs st).args).head? = some ar) (hself : ps.head? = some ar.arg)
    (len : ∀ vs H Q E, sp vs H Q E → vs.length = ps.length)
    (hbody : ∀ (A : Around) (outer : List Env) (s : Shared) (H : Hp) (vs : List V) (Q : VK) (E : XK), Room k (A.deeper (ksEnv qual (defScope st) s.heap.objs.size f (.ref cda) cc)) → sp vs H Q E →
      ∃ (a : Addr) (vr : List V) (te : TE) (t : TS), vs = .ref a :: vr ∧ H a = some (exo a C none) ∧ PE (ncx CX P w K mg base N ⟨"__init__", qual, defArgs st, defBody st, defScope st, [("__class__", cc)], cda⟩ f A outer s H E) e te ∧
        PSs (ncx CX P w K mg base N ⟨"__init__", qual, defArgs st, defBody st, defScope st, [("__class__", cc)], cda⟩ f A outer s H E) rest t ∧
        te (startF N vs [none]) H (fun v H1 => [v].length = 1 ∧ H1 a = some (exo a C none) ∧ t { nx := fun _ H' => Q .non H', rt := Q } (startF N vs [none]) H1))
    (hev : ∀ env : Env, ∃ pl : Sem Bool, eval (.Call (.Attribute (.Call (.Name "super" p0) [] [] p1) "__init__" p2) [e] [] p3) env = (do
      let ov ← attributeBase (.Call (.Name "super" p0) [] [] p1) "__init__" env (eval (.Call (.Name "super" p0) [] [] p1) env)
      standAt p2.atName
      let (f, first) ← holding [ov] (getMethod ov "__init__" pl)
      callWith p3 f first (backTo p3 (starEach [e] env)) []))
    (hi : ∀ L : Addr, interactive (ksEnv qual (defScope st) L f (.ref cda) cc) = false)
    (hsw : ∀ env : Env, swapsWith (.Call (.Attribute (.Call (.Name "super" p0) [] [] p1) "__init__" p2) [e] [] p3) none p4.line env = pure false)
    (he : ∀ env : Env, starEach [e] env = (false, eval e env) :: starEach [] env := by intro env; rfl) :
    FnOk P w K mg base CX (k + 1) f fd ps sp := by
  obtain ⟨oc, od, an, osl, kV, doc, pm, ct, rfl, lk⟩ := Z.lk
  obtain ⟨ccl, cdd, vcs, ccs, fl, tf, hcode, hvs, hfile⟩ := Z.file
  obtain ⟨cl, cld, csl, hcell⟩ := Z.cell
  obtain ⟨cdD, hD⟩ := Z.cls
  refine ⟨len, fun A outer s H args us vs Q E hr e0 hb r hsp => ?_⟩
  have hl := len _ _ _ _ hsp
  have KX : K.In s.heap := e0.mod.kin.keeps fun b o q => (e0.bs b o q).1
  have lim : s.heap.NoLimit := e0.mod.nolimit.keeps fun b o q => (e0.bs b o q).1
  have C0 : CellsAt [("__class__", cc)] ["__class__"] [none] s.heap H := by
    refine ⟨rfl, fun y c q => ?_, fun x y c q1 q2 => ?_, fun i y q => ?_⟩
    · obtain ⟨_, rfl⟩ := look_class q
      have := e0.bs _ _ (e0.mod.kin _ _ hcell)
      exact ⟨this.2, _, _, this.1, rfl⟩
    · rw [(look_class q1).1, (look_class q2).1]
    · have : i = 0 ∧ y = "__class__" := by
        cases i with
        | zero => exact ⟨rfl, (Option.some.inj q).symm⟩
        | succ i => cases q
      obtain ⟨rfl, rfl⟩ := this
      exact ⟨cc, rfl, fun v z => by cases z⟩
  refine codeAny_call_function hr.depth (KX _ _ lk) rfl S.co S.gen rfl (PySem.W.codeRec_of KX Z.code) (hb _ _ _ _ ?_)
  refine wpAny_newFunctionEnv S.nocell (fun ⟨n, _⟩ hy => S.par n (List.of_mem_zip hy).1) (fun h₁ hns hsb => ⟨lim.fresh _ hsb, ?_⟩) S.kind
  show codeAny _ _ (.func (defBody st) (ksEnv qual (defScope st) s.heap.objs.size f (.ref cda) cc)) _ _
  have kp : ∀ b o, s.heap.get? b = some o → h₁.get? b = some o := fun b o q => hsb.extBut b o (Nat.ne_of_lt (Heap.lt_size q)) (Heap.get?_push_of_some _ q)
  obtain ⟨a, vr, te, t, rfl, ha, hte, ht, hq⟩ := hbody A outer s H vs Q E (hr.deeper _) hsp
  have I : Inv (ncx CX P w K mg base N ⟨"__init__", qual, defArgs st, defBody st, defScope st, [("__class__", cc)], cda⟩ f A outer s H E) [] (startF N (.ref a :: vr) [none]) H { s with heap := h₁, toks := s.toks + (ps.zip us).length } := inv_startN S hr.hd e0 hl r C0 hns kp
  refine ks_codeAny_funcAt ?_
  rw [hbd]
  obtain ⟨pl, hev⟩ := hev (ksEnv qual (defScope st) s.heap.objs.size f (.ref cda) cc)
  refine ks_wpAt_execs_cons (ks_wpAt_Expr_any (ks_wpAt_MethodCall (pl := pl) ?_ hev) (hi _) (hsw _))
  have X1 : K.In h₁ := KX.keeps kp
  obtain ⟨oD, hD1, hD2⟩ : ∃ oD, h₁.get? C = some oD ∧ oD.data = .cls cdD := by
    unfold clsIn at hD
    split at hD
    · rename_i c d cd' sl ho
      cases hD
      exact ⟨_, X1 _ _ ho, rfl⟩
    · cases hD
  obtain ⟨t1, hx⟩ := exo_at I.hok ha
  have hkc : (defScope st).names.lookup ("__class__" : Str) = some .free := S.frk _ List.mem_cons_self
  have har2 : ar.arg ∈ ps := by
    cases ps with
    | nil => cases hself
    | cons x l =>
      have : x = ar.arg := Option.some.inj hself
      rw [this]
      exact List.mem_cons_self
  have hka : (defScope st).names.lookup ar.arg = some .local := S.par _ har2
  have hv : (fun y => (ps.zip us).reverse.lookup y) ar.arg = some (.ref a) := by
    cases r with
    | @cons _ u0 _ ur ra rw' =>
      obtain rfl : u0 = Value.ref a := ra
      have nd : ps.Nodup := by
        have q := S.nd.sublist (List.take_sublist (ps.length + 1) N)
        have p2 : N.take (ps.length + 1) = ps ++ (["__class__"] : List Str) := S.pre
        rw [p2] at q
        exact (List.nodup_append.mp q).1
      exact zip_look (i := 0) nd (by rw [← hself]; cases ps <;> rfl) rfl
  obtain ⟨mb, hb1, hb2⟩ := e0.mod.blt
  have bk : ∀ b o, base.get? b = some o → h₁.get? b = some o := fun b o q => kp _ _ (e0.bs b o q).1
  refine ks_wpAt_super_base (env := ksEnv qual (defScope st) s.heap.objs.size f (.ref cda) cc) hks hkc rfl rfl (X1 _ _ lk) rfl har rfl (X1 _ _ hcode) rfl hvs hfile Z.top ?_
  refine ks_loadName_global S.kind hks (loadGlobal_builtin (env := ksEnv qual (defScope st) s.heap.objs.size f (.ref cda) cc) (e0.mod.glob.keeps bk) Z.sup (hb1.keeps bk) ((hb2 _ (by decide)).trans rfl) ⟨rfl, ?_⟩)
  refine wpAny_loadName_free S.kind hkc rfl ⟨_, X1 _ _ hcell, rfl⟩ ?_
  refine wpAny_loadName_local S.kind hka hns hv ?_
  refine ks_wpAny_isType_cls hD1 hD2 ⟨rfl, ?_⟩
  refine ks_wpAny_call_super hD1 hD2 hx rfl (fun c q => by cases q) (looks_mroIn X1 Z.me) (fun h' hso k => ?_)
  have I2 := I.kept (t' := s.toks + (ps.zip us).length) k
  have X2 : K.In h' := X1.keeps k
  have J : InstAt h' a _ C none := ⟨k _ _ hx, rfl, rfl, trivial⟩
  have hve := Z.ve
  unfold ks_superIn at hve
  rw [hD] at hve
  refine kxs_getMethod kxs_ValueError hso (looks_opaque X2 Z.any) (l₀ := cdD.mro) (fun A Q E s k q => wpAny_bind ((looks_clsIn X2 hD) A _ E s k (wpAny_pure q))) rfl X2 hve (J.type.andThen (looks_subIn X2 Z.sub)) (ks_ne X2 J hD) rfl ?_
  have k3 : ∀ b o, h'.get? b = some o → (h'.push (kxs_mw "ValueError.__init__" a)).get? b = some o := fun b o q => Heap.get?_push_of_some _ q
  have I3 := I2.kept (t' := s.toks + (ps.zip us).length + 1) k3
  have I4 : Inv (ncx CX P w K mg base N ⟨"__init__", qual, defArgs st, defBody st, defScope st, [("__class__", cc)], cda⟩ f A outer s H E) [(h'.objs.size, kxs_mw "ValueError.__init__" a)] _ H _ := I3.pins_of fun p hp => by
    rw [List.mem_singleton.mp hp]
    exact ⟨Heap.get?_push_at rfl rfl, I2.hok.fresh (Nat.le_refl _), (Nat.ne_of_lt I2.lt).symm, I2.nofs (Nat.le_refl _), fun v z => by cases z⟩
  have hpa : PA (ncx CX P w K mg base N ⟨"__init__", qual, defArgs st, defBody st, defScope st, [("__class__", cc)], cda⟩ f A outer s H E) [e] _ := pa_cons hte pa_nil (hs := he _)
  have hrun := hpa.run p3 _ _ _ H (fun vs H1 => vs.length = 1 ∧ H1 a = some (exo a C none) ∧ t { nx := fun _ H' => Q .non H', rt := Q } (startF N (.ref a :: vr) [none]) H1) I4 hq
  rw [he] at hrun ⊢
  refine kxs_callWith (i := "ValueError.__init__") (x := a) rfl (evalArgs_plain (wpAny_mono hrun (fun us2 s1 hs => ?_) fun _ _ q => q))
  obtain ⟨vs2, H1, I5, rv2, hv1, ha1, hq1⟩ := hs
  obtain ⟨hu, _⟩ := I5.pin _ (List.mem_append_right _ List.mem_cons_self)
  refine ⟨hu, ?_⟩
  obtain ⟨t2, hx2⟩ := exo_at I5.hok ha1
  obtain ⟨nm, q, N2, bs, bm, sn, sub, ab, col, dd, k0, k1, k2, k3', k5, hC, hbm⟩ := T.cls
  obtain ⟨hh, g, d, tk, os⟩ := s1
  have hz : us2.length ≤ sizeLine := by
    have q2 : vs2.length = us2.length := rv2.length
    rw [← q2, hv1]
    decide
  refine wpAny_call (codeAny_of_tree ?_)
  show wpAny _ _ (callAny (.ref h'.objs.size) ⟨us2, []⟩) _ _ _
  simp only [callAny]
  refine wpAny_bind (wpAny_load hu ?_)
  have isM : (kxs_mw "ValueError.__init__" a).cls = .type "method-wrapper" := rfl
  rw [isM]
  refine KFB.if_so (by decide) ?_
  refine wpAny_bind (check_bound_init F.excBase_ValueError.toExcCallFacts (I5.kIn _ _ hC) hx2 rfl ?_)
  refine wpAny_bind (wpAny_pure (wpAny_pure ?_))
  refine ⟨plainId_quiet F.excBase_ValueError.init.plain _, codeAny_builtin F.excBase_ValueError.initEntry ?_⟩
  refine exc_init_tree (cls := .ref C) (t0 := t2) (dv := none) (c2 := .none) (c3 := .none) (b4 := .bool false) hx2 hz fun h2 kk hx3 _ => ?_
  have J6 := I5.write (t' := tk) (x := a) (e := a) (o := exo a C none) (by rw [ha1]; exact True.intro) (.inl rfl) kk ⟨_, hx3⟩ (exo_ok hx3)
  have eu : upd H1 a (exo a C none) = H1 := by
    funext b
    by_cases hb : b = a
    · subst hb
      rw [upd_same, ha1]
    · rw [upd_ne hb]
  rw [eu] at J6
  have J7 : Inv (ncx CX P w K mg base N ⟨"__init__", qual, defArgs st, defBody st, defScope st, [("__class__", cc)], cda⟩ f A outer s H E) [] (startF N (.ref a :: vr) [none]) H1 ⟨h2, g, d, tk, os⟩ := J6.pins_of fun p hp => by cases hp
  show PySem.wpAt _ _ _ (execs rest _) _ _ _
  refine wpAt_of_wpAny (wpAny_mono (ht.run [] _ _ H1 _ J7 hq1) (fun fl s' hs => ?_) fun _ _ z => z)
  exact match fl, hs with
    | .ret _, ⟨v, _, Hz, Jz, rz, z⟩ => ⟨v, Hz, Jz.os, Jz.bare, Jz.base, Jz.hok, rz, z⟩
    | .next, ⟨_, Hz, Jz, z⟩ => ⟨.non, Hz, Jz.os, Jz.bare, Jz.base, Jz.hok, rfl, z⟩
    | .brk, ⟨_, _, _, z⟩ => z.elim
    | .cont, ⟨_, _, _, z⟩ => z.elim
end


end Rf
namespace Rf
open PySem PySem.Spec PyProof.Rows L2
/-! ### the program's own exceptions -/
/-- a class with such an __init__ -/
structure InitAt (P : Program) (K : PySem.W.Frag) (mg : Str → Option Value) (x : Str) (C f cc cda : Addr) (fd : FuncData) (qual : Str) (st : Stmt) (ps : List Str) : Prop where
  Z : SupAt P K mg C f cc cda fd qual st
  T : OexC K C
  iC : PySem.W.findIn K (.ref C) "__init__" = some (some (.ref f))
  tI : PySem.W.typeIn K (.ref f) = some (.type "function")
  b : Binds K fd ps []
  gC : mg x = some (.ref C)
/-- a class without one -/
structure OwnAt (K : PySem.W.Frag) (mg : Str → Option Value) (x : Str) (C : Addr) : Prop where
  q : PySem.W.excIn K C [.type "ValueError", .type "Exception", .type "BaseException", .type "object"] "ValueError.__new__" = true
  gC : mg x = some (.ref C)
  kC : PySem.W.keepIn K (.ref C) = true
  eC : PySem.W.subIn K (.ref C) (.type "BaseException") = some true
  tC : PySem.W.typeIn K (.ref C) = some (.type "type")
theorem num_len {n : Int} (h0 : 0 ≤ n) (h1 : n < 1000) : (Str.ofString (toString n)).length ≤ 3 := PyProof.Rows.toString_length_le h0 (by decide) (by omega)
theorem num_log {n : Int} (h0 : 0 ≤ n) (h1 : n < 1000) : n.natAbs.log2 < 1920 := by
  have h : n.natAbs < 2 ^ 10 := by omega
  rcases Nat.eq_zero_or_pos n.natAbs with e | e
  · rw [e]
    decide
  · exact Nat.lt_of_lt_of_le ((Nat.log2_lt (by omega)).mpr h) (by decide)
theorem app_len (a b : Str) : (a ++ b).length = a.length + b.length := by
  rw [TL.len_tl, TL.len_tl, TL.len_tl, TL.tl_append, List.length_append]
/-- BadBook(at, why) -/
def spBB (C : Addr) : Sp := fun vs H Q _ => ∃ (a : Addr) (n : Int) (y : Str), vs = [.ref a, .int n, .str y] ∧ H a = some (exo a C none) ∧ 0 ≤ n ∧ n < 1000 ∧ y.length ≤ 20 ∧
  ∀ d H', H d = none → d ≠ a → H' a = some (exo a C (some d)) → H' d = some (exd d [("why", .str y), ("at", .int n)]) → (∀ b, b ≠ a → b ≠ d → H' b = H b) → Q .non H'
/-- NoMove(number), BadText(row) -/
def spOne (C : Addr) (fl : Str) : Sp := fun vs H Q _ => ∃ (a : Addr) (n : Int), vs = [.ref a, .int n] ∧ H a = some (exo a C none) ∧ 0 ≤ n ∧ n < 1000 ∧
  ∀ d H', H d = none → d ≠ a → H' a = some (exo a C (some d)) → H' d = some (exd d [(fl, .int n)]) → (∀ b, b ≠ a → b ≠ d → H' b = H b) → Q .non H'
theorem exc_end {H1 H2 : Hp} {a d : Addr} {o : HO} (na : H1 a = none) (hb : ∀ b, b ≠ a → b ≠ d → H2 b = H1 b) (nd : d ≠ a) : upd (del H2 a) d o = upd H1 d o := by
  funext b
  by_cases e : b = d
  · subst e
    rw [upd_same, upd_same]
  · rw [upd_ne e, upd_ne e]
    by_cases e2 : b = a
    · subst e2
      rw [del_same, na]
    · rw [del_ne e2, hb b e2 e]
/-- what raising BadBook wants -/
theorem raise_bb {C : Addr} {H : Hp} {Q : XK} {n : Int} {y : Str} (h0 : 0 ≤ n) (h1 : n < 1000) (hy : y.length ≤ 20) (k : ∀ d, H d = none → Q (.ref C) (some d) (upd H d (.xd [("why", .str y), ("at", .int n)]))) :
    [V.int n, .str y].length ≤ 1000 ∧ ∀ a, H a = none → spBB C (.ref a :: ([V.int n, .str y] ++ [])) (upd H a (exo a C none)) (fun v H2 => v = .non ∧ ∃ (d : Addr) (fs : List (Str × V)), H2 a = some (exo a C (some d)) ∧ H2 d = some (exd d fs) ∧ H d = none ∧ Q (.ref C) (some d) (upd (del H2 a) d (.xd fs))) (fun _ _ _ => False) := by
  refine ⟨by show 2 ≤ 1000; decide, fun a na => ⟨a, n, y, rfl, upd_same, h0, h1, hy, fun d H' nd da ha hd hb => ⟨rfl, d, _, ha, hd, ?_, ?_⟩⟩⟩
  · rw [upd_ne da] at nd
    exact nd
  · rw [upd_ne da] at nd
    rw [exc_end na (fun b e1 e2 => by rw [hb b e1 e2, upd_ne e1]) da]
    exact k d nd
theorem raise_one {C : Addr} {H : Hp} {Q : XK} {n : Int} {fl : Str} (h0 : 0 ≤ n) (h1 : n < 1000) (k : ∀ d, H d = none → Q (.ref C) (some d) (upd H d (.xd [(fl, .int n)]))) :
    [V.int n].length ≤ 1000 ∧ ∀ a, H a = none → spOne C fl (.ref a :: ([V.int n] ++ [])) (upd H a (exo a C none)) (fun v H2 => v = .non ∧ ∃ (d : Addr) (fs : List (Str × V)), H2 a = some (exo a C (some d)) ∧ H2 d = some (exd d fs) ∧ H d = none ∧ Q (.ref C) (some d) (upd (del H2 a) d (.xd fs))) (fun _ _ _ => False) := by
  refine ⟨by show 1 ≤ 1000; decide, fun a na => ⟨a, n, rfl, upd_same, h0, h1, fun d H' nd da ha hd hb => ⟨rfl, d, _, ha, hd, ?_, ?_⟩⟩⟩
  · rw [upd_ne da] at nd
    exact nd
  · rw [upd_ne da] at nd
    rw [exc_end na (fun b e1 e2 => by rw [hb b e1 e2, upd_ne e1]) da]
    exact k d nd
section
variable {P : Program} {w : World} {K : PySem.W.Frag} {mg : Str → Option Value} {base : Heap} {C f cc cda : Addr} {fd : FuncData}
theorem scx_bbinit : NdefX.NScope ["self", "at", "why", "__class__"] ["self", "at", "why"] ["__class__"] (defScope s_bbinit) := NdefX.nscope_by (by decide +kernel)
theorem ok_bbinit (D : InitAt P K mg "BadBook" C f cc cda fd "BadBook.__init__" s_bbinit ["self", "at", "why"]) (hat : PySem.W.findIn K (.ref C) "at" = some none) (hwhy : PySem.W.findIn K (.ref C) "why" = some none) : FnOk P w K mg base CX0 1 f fd ["self", "at", "why"] (spBB C) := by
  refine ok_super (k := 0) D.Z scx_bbinit D.T rfl rfl rfl rfl (fun vs H Q E h => ?_) (fun A outer s H vs Q E hr h => ?_) (fun env => ⟨_, rfl⟩) (fun L => by rfl) (fun env => by rfl)
  · obtain ⟨a, n, y, rfl, _⟩ := h
    rfl
  · obtain ⟨a, n, y, rfl, ha, h0, h1, hy, k⟩ := h
    refine ⟨a, [.int n, .str y], _, _, rfl, ha, pe_joined (PJ.cons pe_str (PJ.cons (pe_fmt (pv 2)) (PJ.cons pe_str (PJ.cons (pe_fmt (pv 1)) PJ.nil)))), pss_cons (ps_ost (pv 0) (pv 1)) (pss_one (ps_ost (pv 0) (pv 2))), ?_⟩
    have l1 := num_len h0 h1
    refine ⟨_, rfl, ?_, _, rfl, .inl ⟨y, rfl, sz_of (by omega), _, rfl, ?_, _, rfl, ?_, _, rfl, .inr ⟨n, rfl, num_log h0 h1, _, rfl, ?_, rfl, ha, ?_⟩⟩⟩
    · exact (by decide +kernel : ((Str.empty : Str) ++ ("no book: " : Str)).length ≤ sizeLine)
    · rw [app_len]
      have : ((Str.empty : Str) ++ ("no book: " : Str)).length = 9 := by decide +kernel
      rw [this]
      exact sz_of (by omega)
    · rw [app_len, app_len]
      have : ((Str.empty : Str) ++ ("no book: " : Str)).length = 9 := by decide +kernel
      have e2 : (" at " : Str).length = 4 := by decide +kernel
      rw [this, e2]
      exact sz_of (by omega)
    · rw [app_len, app_len, app_len]
      have : ((Str.empty : Str) ++ ("no book: " : Str)).length = 9 := by decide +kernel
      have e2 : (" at " : Str).length = 4 := by decide +kernel
      rw [this, e2]
      exact sz_of (by omega)
    · refine ⟨_, rfl, _, rfl, a, C, rfl, D.T, hat, .inl ⟨ha, fun d nd da => ?_⟩⟩
      refine ⟨_, rfl, _, rfl, a, C, rfl, D.T, hwhy, .inr ⟨d, [("at", .int n)], upd_same, by rw [upd_ne da, upd_same], by show 1 ≤ 900; decide, ?_⟩⟩
      refine k d _ nd da ?_ upd_same (fun b e1 e2 => ?_)
      · rw [upd_ne da.symm, upd_same]
      · rw [upd_ne e2, upd_ne e1, upd_ne e2]
theorem scx_nminit : NdefX.NScope ["self", "number", "__class__"] ["self", "number"] ["__class__"] (defScope s_nminit) := NdefX.nscope_by (by decide +kernel)
theorem ok_nminit (D : InitAt P K mg "NoMove" C f cc cda fd "NoMove.__init__" s_nminit ["self", "number"]) (hat : PySem.W.findIn K (.ref C) "number" = some none) : FnOk P w K mg base CX0 1 f fd ["self", "number"] (spOne C "number") := by
  refine ok_super (k := 0) D.Z scx_nminit D.T rfl rfl rfl rfl (fun vs H Q E h => ?_) (fun A outer s H vs Q E hr h => ?_) (fun env => ⟨_, rfl⟩) (fun L => by rfl) (fun env => by rfl)
  · obtain ⟨a, n, rfl, _⟩ := h
    rfl
  · obtain ⟨a, n, rfl, ha, h0, h1, k⟩ := h
    refine ⟨a, [.int n], _, _, rfl, ha, pe_joined (PJ.cons pe_str (PJ.cons (pe_fmt (pv 1)) (PJ.cons pe_str PJ.nil))), pss_one (ps_ost (pv 0) (pv 1)), ?_⟩
    have l1 := num_len h0 h1
    have e1 : ((Str.empty : Str) ++ ("move " : Str)).length = 5 := by decide +kernel
    have e2 : (" doesn't fit" : Str).length = 12 := by decide +kernel
    refine ⟨_, rfl, by rw [e1]; exact sz_of (by decide), _, rfl, .inr ⟨n, rfl, num_log h0 h1, _, rfl, by rw [app_len, e1]; exact sz_of (by omega), _, rfl, by rw [app_len, app_len, e1, e2]; exact sz_of (by omega), rfl, ha, ?_⟩⟩
    refine ⟨_, rfl, _, rfl, a, C, rfl, D.T, hat, .inl ⟨ha, fun d nd da => ?_⟩⟩
    exact k d _ nd da upd_same (by rw [upd_ne da, upd_same]) (fun b e1 e2 => by rw [upd_ne e1, upd_ne e2])
theorem scx_btinit : NdefX.NScope ["self", "row", "__class__"] ["self", "row"] ["__class__"] (defScope s_btinit) := NdefX.nscope_by (by decide +kernel)
theorem ok_btinit (D : InitAt P K mg "BadText" C f cc cda fd "BadText.__init__" s_btinit ["self", "row"]) (hat : PySem.W.findIn K (.ref C) "row" = some none) : FnOk P w K mg base CX0 1 f fd ["self", "row"] (spOne C "row") := by
  refine ok_super (k := 0) D.Z scx_btinit D.T rfl rfl rfl rfl (fun vs H Q E h => ?_) (fun A outer s H vs Q E hr h => ?_) (fun env => ⟨_, rfl⟩) (fun L => by rfl) (fun env => by rfl)
  · obtain ⟨a, n, rfl, _⟩ := h
    rfl
  · obtain ⟨a, n, rfl, ha, h0, h1, k⟩ := h
    refine ⟨a, [.int n], _, _, rfl, ha, pe_joined (PJ.cons pe_str (PJ.cons (pe_fmt (pv 1)) (PJ.cons pe_str PJ.nil))), pss_one (ps_ost (pv 0) (pv 1)), ?_⟩
    have l1 := num_len h0 h1
    have e1 : ((Str.empty : Str) ++ ("row " : Str)).length = 4 := by decide +kernel
    have e2 : (" isn't so" : Str).length = 9 := by decide +kernel
    refine ⟨_, rfl, by rw [e1]; exact sz_of (by decide), _, rfl, .inr ⟨n, rfl, num_log h0 h1, _, rfl, by rw [app_len, e1]; exact sz_of (by omega), _, rfl, by rw [app_len, app_len, e1, e2]; exact sz_of (by omega), rfl, ha, ?_⟩⟩
    refine ⟨_, rfl, _, rfl, a, C, rfl, D.T, hat, .inl ⟨ha, fun d nd da => ?_⟩⟩
    exact k d _ nd da upd_same (by rw [upd_ne da, upd_same]) (fun b e1 e2 => by rw [upd_ne e1, upd_ne e2])
end


end Rf
namespace Rf
open PySem PySem.Spec PyProof.Rows L2
/-! ### a book as it stands in the heap: tuples within tuples -/
/-- the tuples at ts are the claims qs -/
def ClmsAt (K : PySem.W.Frag) (H : Hp) (ts : List Addr) (qs : List Clm) : Prop := ts.length = qs.length ∧ ∀ (i : Nat) (t : Addr) (q : Clm), ts[i]? = some t → qs[i]? = some q → SqT K H t [.int q.d, .int q.c, .int q.a, .int q.r]
structure BookAt (K : PySem.W.Frag) (H : Hp) (b ca cl : Addr) (ts : List Addr) (B : Bk) : Prop where
  hb : SqT K H b [.ref ca, .ref cl]
  hca : SqT K H ca (B.cash.map V.int)
  hcl : SqT K H cl (ts.map V.ref)
  hq : ClmsAt K H ts B.claims
theorem Same.tup {K : PySem.W.Frag} {H H' : Hp} {a : Addr} {xs : List V} (e : Same H H') (h : SqT K H a xs) : SqT K H' a xs := by
  rcases h with (h | ⟨o, h⟩) | h
  · exact .inl (.inl (e _ _ h))
  · exact .inl (.inr ⟨o, e _ _ h⟩)
  · exact .inr h
theorem BookAt.same {K : PySem.W.Frag} {H H' : Hp} {b ca cl : Addr} {ts : List Addr} {B : Bk} (A : BookAt K H b ca cl ts B) (s : Same H H') : BookAt K H' b ca cl ts B :=
  ⟨Same.tup s A.hb, Same.tup s A.hca, Same.tup s A.hcl, A.hq.1, fun i t q h1 h2 => Same.tup s (A.hq.2 i t q h1 h2)⟩
theorem ClmsAt.same {K : PySem.W.Frag} {H H' : Hp} {ts : List Addr} {qs : List Clm} (A : ClmsAt K H ts qs) (s : Same H H') : ClmsAt K H' ts qs := ⟨A.1, fun i t q h1 h2 => Same.tup s (A.2 i t q h1 h2)⟩
theorem BookAt.get {K : PySem.W.Frag} {H : Hp} {b ca cl : Addr} {ts : List Addr} {B : Bk} (A : BookAt K H b ca cl ts B) {k : Nat} (h : k < B.claims.length) : ∃ t, ts[k]? = some t ∧ SqT K H t [.int (B.clm k).d, .int (B.clm k).c, .int (B.clm k).a, .int (B.clm k).r] := by
  have hk : k < ts.length := by rw [A.hq.1]; exact h
  exact ⟨ts[k], List.getElem?_eq_getElem hk, A.hq.2 k _ _ (List.getElem?_eq_getElem hk) (Bk.clm_get h)⟩
section
variable {K : PySem.W.Frag} {te : TE} {tz : TS} {D : Ends} {σ : L2.St} {H : Hp}
/-- x, y = a pair -/
theorem sq_tup2 {i j : Nat} {a : Addr} {x y : V} (h : ∀ Q : VK, Q (.ref a) H → te σ H Q) (hq : SqT K H a [x, y]) (k : tz D ((σ.set i (some x)).set j (some y)) H) : tSeq (tAsg te (gTup K 2 (gCons (gName i) (gCons (gName j) gNil)))) tz D σ H :=
  h _ ⟨a, [x, y], rfl, hq, rfl, x, [y], rfl, y, [], rfl, rfl, k⟩
theorem sq_tup4 {i j l m : Nat} {a : Addr} {x y z w : V} (h : ∀ Q : VK, Q (.ref a) H → te σ H Q) (hq : SqT K H a [x, y, z, w]) (k : tz D ((((σ.set i (some x)).set j (some y)).set l (some z)).set m (some w)) H) : tSeq (tAsg te (gTup K 4 (gCons (gName i) (gCons (gName j) (gCons (gName l) (gCons (gName m) gNil)))))) tz D σ H :=
  h _ ⟨a, [x, y, z, w], rfl, hq, rfl, x, [y, z, w], rfl, y, [z, w], rfl, z, [w], rfl, w, [], rfl, rfl, k⟩
end
theorem map_ref_get {ts : List Addr} {i : Nat} {x : V} (h : (ts.map V.ref)[i]? = some x) : ∃ t, x = .ref t ∧ ts[i]? = some t := by
  rw [List.getElem?_map] at h
  cases e : ts[i]? with
  | none => rw [e] at h; cases h
  | some t => rw [e] at h; exact ⟨t, (Option.some.inj h).symm, rfl⟩
theorem map_int_get {l : List Int} {i : Nat} {x : V} (h : (l.map V.int)[i]? = some x) : x = .int (g l i) ∧ i < l.length := by
  have hi : i < l.length := by
    have := (List.getElem?_eq_some_iff.mp h).1
    rw [List.length_map] at this
    exact this
  rw [List.getElem?_map, g_get hi] at h
  exact ⟨(Option.some.inj h).symm, hi⟩


end Rf
namespace Rf
open PySem PySem.Spec PyProof.Rows L2
/-! ### in an except suite: isinstance of the caught one; calls of functions out of a list -/
/-- isinstance(e, c), e what the suite holds, with a dict or without; c a class or a tuple of classes -/
def rIsX (K : PySem.W.Frag) (a : Addr) (cls : Value) (d : Option Addr) : List V → Hp → VK → Prop := fun xs H Q => ∃ (C : Addr) (c : V) (b : Bool), cls = .ref C ∧ xs = [.ref a, c] ∧ ExcC K C ∧ (d = none ∨ ∃ dd fs, d = some dd ∧ H dd = some (.xd fs)) ∧
  ((∃ cv, (∀ u, RelV c u → u = cv) ∧ PySem.W.kitOne K (.ref C) cv = some b) ∨ (∃ (t : Addr) (cs : List Addr), c = .ref t ∧ H t = some (.tup (cs.map V.ref)) ∧ PySem.W.kitAny K (.ref C) (cs.map Value.ref) = some b)) ∧ Q (.bl b) H
theorem vals_refs : ∀ {cs : List Addr} {us : List Value}, Vals (cs.map V.ref) us → us = cs.map Value.ref
  | [], _, .nil => rfl
  | c :: cs, u :: us, .cons r t => by
    have e : u = Value.ref c := r
    rw [e, vals_refs t]
    rfl
theorem call_isX {X : Cx} {a : Addr} {cls : Value} {d : Option Addr} {oe : Obj} {pn : List (Addr × Obj)} (hz : Zc cls d oe) (hf : ∃ vs, oe.data = .fields vs) : CallR (X.suite a ((a, oe) :: pn)) (.builtin "isinstance") (rIsX X.K a cls d) := by
  intro pins s σ H xs us Q I r h
  obtain ⟨C, c, b, rfl, rfl, T, hd, hc, q⟩ := h
  cases r with
  | cons rx rr =>
    cases rr with
    | cons rt rr =>
      cases rr
      cases rx
      obtain ⟨hget, _⟩ := I.pin (a, oe) (List.mem_append.mpr (.inl List.mem_cons_self))
      obtain ⟨vs, hv⟩ := hf
      have J : ∃ od, PySem.W.InstAt s.heap a oe C od := by
        obtain ⟨oc, od, oda, osl⟩ := oe
        obtain ⟨h1, h2⟩ := hz
        dsimp only at h1 h2 hv
        subst h1 h2 hv
        rcases hd with rfl | ⟨dd, fs, rfl, ed⟩
        · exact ⟨none, hget, rfl, rfl, trivial⟩
        · have hx : ObjOk X.prog X.w H s.heap dd (.xd fs) := I.hok dd _ ed
          obtain ⟨mA, hns, hr⟩ := hx
          obtain ⟨o, es, ep, ho, _⟩ := hns
          exact ⟨some o, hget, rfl, rfl, ho⟩
      obtain ⟨od, J⟩ := J
      have hcl : (PySem.W.clsIn X.K C).isSome = true := by
        obtain ⟨cd, hc2, _⟩ := PySem.W.any_some T.hd
        rw [hc2]
        rfl
      have Z : PySem.W.KitX X.K (.ref a) (.ref C) (fun h => PySem.W.InstAt h a oe C od) := PySem.W.kitx_exc hcl T.hg T.hk T.hs T.ha T.hn T.ht T.hm
      rcases hc with ⟨cv, hcv, e⟩ | ⟨t, cs, rfl, ht, e⟩
      · have ec := hcv _ rt
        subst ec
        exact PySem.W.kia_one Z I.kIn J e (fun z => nomatch z) fun tk => ⟨.bl b, H, I.kept (t' := tk) fun _ _ z => z, rfl, q⟩
      · cases rt
        obtain ⟨its, rv, ⟨⟨c1, d1, dt1, sl1⟩, ho, hc1, n, hdt⟩, hlen⟩ := I.tuple (st_of ht)
        dsimp only at hc1 hdt
        subst hc1 hdt
        have ei := vals_refs rv
        exact PySem.W.kia_tup (its := its) Z I.kIn J ho (by rw [ei]; exact e) (fun z => nomatch z) fun tk => ⟨.bl b, H, I.kept (t' := tk) fun _ _ z => z, rfl, q⟩
/-- a function that stands somewhere, with its promise -/
def HeldX (P : Program) (w : World) (K : PySem.W.Frag) (mg : Str → Option Value) (base : Heap) (k : Nat) (f : Addr) (sp : Sp) : Prop := ∃ (fd : FuncData) (ps : List Str), FnOk P w K mg base (L2.CX P w) k f fd ps sp ∧ PySem.W.keepIn K (.ref f) = true ∧ Binds K fd ps []
def tCallE (P : Program) (w : World) (K : PySem.W.Frag) (mg : Str → Option Value) (base : Heap) (k : Nat) (sp : Sp) (W : WX) (tf : TE) (t : TA) : TE := fun σ H Q => tf σ H fun y H1 => ∃ f, y = .ref f ∧ HeldX P w K mg base k f sp ∧ t σ H1 fun vs H2 => sp vs H2 Q (WE W σ)
theorem pe_callE {X : Cx} {k : Nat} {sp : Sp} {W : WX} {fe e : Expr} {es : List Expr} {tf : TE} {t : TA} {pos : Pos} (hf : PE X fe tf) (hr : Room k X.A) (tk : Takes X W) (ha : PA X (e :: es) t)
    (ht : eval (.Call fe (e :: es) [] pos) X.env = (do callWith pos (← eval fe X.env) [] (backTo pos (starEach (e :: es) X.env)) (backToKw pos (keywordEach [] X.env))) := by rfl)
    (he : starEach (e :: es) X.env = (false, eval e X.env) :: starEach es X.env := by rfl) (hpl : (backTo pos (starEach es X.env)).any (·.1) = false := by rfl) : PE X (.Call fe (e :: es) [] pos) (tCallE X.prog X.w X.K X.mg X.base k sp W tf t) := by
  refine ⟨fun pins s σ H Q I h => ?_⟩
  refine Call_ (thn (hf.run pins s σ H _ I h) fun u s1 ⟨y, H1, I1, ry, f, ey, hh, q⟩ => ?_) ht
  subst ey
  obtain rfl : u = Value.ref f := ry
  obtain ⟨fd, ps, F, hk, hb⟩ := hh
  refine PySem.W.callWith_K (h₀ := X.base) I1.ok.mod.kin hk (thn (ha.run pos pins s1 σ H1 _ I1 q) fun us s2 ⟨vs, H2, I2, r, q2⟩ => ⟨I2.kIn, ?_⟩) he hpl
  exact run_fnS (E := WE W) F hr hb (passAt tk σ) I2 r q2
/-- a class of the text -/
structure ClsIs (mg : Str → Option Value) (x : Str) (C : Addr) : Prop where
  gC : mg x = some (.ref C)
/-- pe_bm whose frag is told apart from the reading's -/
theorem pe_bmS {K : PySem.W.Frag} {X : Cx} {o e : Expr} {es : List Expr} {to : TE} {t : TA} {name : Str} {apos cpos : Pos} {T id : String} {r : V → List V → Hp → VK → Prop} (pa : PlainAttrs T) (slot : Slot T name id) (hty : typeOf (.builtin id) = pure (.type "method_descriptor"))
    (hm : MtR X id r) (ho : PE X o to) (ha : PA X (e :: es) t) (hK : X.K = K := by rfl)
    (hbase : attributeBase o name X.env (eval o X.env) = eval o X.env := by rfl)
    (hfew : ((backTo cpos (starEach (e :: es) X.env)).all (fun x => !x.1) && (backToKw cpos (keywordEach [] X.env)).all (fun x => x.1.isSome)
      && decide ((e :: es).length + ([] : List Keyword).length + (if ([] : List Keyword).isEmpty then 0 else 1) < 30)) = true := by rfl)
    (hline : (apos.endLine == cpos.line) = true := by rfl) (hs : starEach (e :: es) X.env = (false, eval e X.env) :: starEach es X.env := by rfl) (hplain : (backTo cpos (starEach es X.env)).any (·.1) = false := by rfl) :
    PE X (.Call (.Attribute o name apos) (e :: es) [] cpos) (tBM K T r to t) := by
  subst hK
  exact pe_bm pa slot hty hm ho ha hbase hfew hline hs hplain


end Rf
namespace Rf
open PySem PySem.Spec PyProof.Rows L2
/-! ### the law's own books -/
theorem tup_off {K : PySem.W.Frag} {H H' : Hp} {h c a : Addr} {xs : List V} (R : RngAt H h c) (e : Off (isHC h c) H H') (q : SqT K H a xs) : SqT K H' a xs := by
  obtain ⟨ne, x, p, cells, h1, h2, _⟩ := R
  have n : ∀ o, H a = some o → (∀ ys, o ≠ .lst ys) → ¬ isHC h c a := fun o ho hno z => by
    rcases z with z | z
    · rw [z, h1] at ho
      exact hno _ (Option.some.inj ho).symm
    · rw [z, h2] at ho
      exact hno _ (Option.some.inj ho).symm
  rcases q with (q | ⟨o, q⟩) | q
  · exact .inl (.inl (e _ _ q (n _ q (fun _ z => nomatch z))))
  · exact .inl (.inr ⟨o, e _ _ q (n _ q (fun _ z => nomatch z))⟩)
  · exact .inr q
theorem Fr.clms {K : PySem.W.Frag} {H H' : Hp} {h c : Addr} {ts : List Addr} {qs : List Clm} (R : RngAt H h c) (e : Fr h c H H') (A : ClmsAt K H ts qs) : ClmsAt K H' ts qs := ⟨A.1, fun i t q h1 h2 => tup_off R e.off (A.2 i t q h1 h2)⟩
theorem Fr.book {K : PySem.W.Frag} {H H' : Hp} {h c b ca cl : Addr} {ts : List Addr} {B : Bk} (R : RngAt H h c) (e : Fr h c H H') (A : BookAt K H b ca cl ts B) : BookAt K H' b ca cl ts B :=
  ⟨tup_off R e.off A.hb, tup_off R e.off A.hca, tup_off R e.off A.hcl, Fr.clms R e A.hq⟩
theorem ClmsAt.app {K : PySem.W.Frag} {H : Hp} {ts : List Addr} {qs : List Clm} {t : Addr} {q : Clm} (A : ClmsAt K H ts qs) (h : SqT K H t [.int q.d, .int q.c, .int q.a, .int q.r]) : ClmsAt K H (ts ++ [t]) (qs ++ [q]) := by
  refine ⟨by rw [List.length_append, List.length_append, A.1]; rfl, fun i u p h1 h2 => ?_⟩
  by_cases hi : i < ts.length
  · rw [List.getElem?_append_left hi] at h1
    rw [List.getElem?_append_left (by rw [← A.1]; exact hi)] at h2
    exact A.2 i u p h1 h2
  · have e : i = ts.length := by
      have := (List.getElem?_eq_some_iff.mp h1).1
      rw [List.length_append] at this
      have : i < ts.length + 1 := this
      omega
    subst e
    rw [List.getElem?_append_right (Nat.le_refl _), Nat.sub_self] at h1
    rw [List.getElem?_append_right (by rw [A.1]; exact Nat.le_refl _), A.1, Nat.sub_self] at h2
    cases h1
    cases h2
    exact h
theorem ClmsAt.put {K : PySem.W.Frag} {H : Hp} {ts : List Addr} {qs : List Clm} {p : Addr} {o : HO} {xs : List V} (A : ClmsAt K H ts qs) (hp : H p = some (.lst xs)) : ClmsAt K (upd H p o) ts qs := by
  refine ⟨A.1, fun i t q h1 h2 => ?_⟩
  rcases A.2 i t q h1 h2 with (z | ⟨u, z⟩) | z
  · exact .inl (.inl (by rw [upd_ne (ne_of z hp (fun z => nomatch z))]; exact z))
  · exact .inl (.inr ⟨u, by rw [upd_ne (ne_of z hp (fun z => nomatch z))]; exact z⟩)
  · exact .inr z
/-- a book stands where a list is written -/
theorem BookAt.put {K : PySem.W.Frag} {H : Hp} {b ca cl p : Addr} {ts : List Addr} {B : Bk} {o : HO} {ys : List V} (A : BookAt K H b ca cl ts B) (hp : H p = some (.lst ys)) : BookAt K (L2.upd H p o) b ca cl ts B := by
  have q : ∀ (a : Addr) (xs : List V), SqT K H a xs → SqT K (L2.upd H p o) a xs := fun a xs z => by
    rcases z with (z | ⟨u, z⟩) | z
    · exact .inl (.inl (by rw [upd_ne (ne_of z hp (fun z => nomatch z))]; exact z))
    · exact .inl (.inr ⟨u, by rw [upd_ne (ne_of z hp (fun z => nomatch z))]; exact z⟩)
    · exact .inr z
  exact ⟨q _ _ A.hb, q _ _ A.hca, q _ _ A.hcl, A.hq.put hp⟩
/-- the other house: never the debtor -/
theorem other_house {d r n : Int} (d0 : 0 ≤ d) (d1 : d < n) (r0 : 0 ≤ r) (r1 : r < n - 1) : 0 ≤ (d + 1 + r) % n ∧ (d + 1 + r) % n < n ∧ d ≠ (d + 1 + r) % n := by
  have hn : 0 < n := by omega
  refine ⟨Int.emod_nonneg _ (by omega), Int.emod_lt_of_pos _ hn, ?_⟩
  by_cases h : d + 1 + r < n
  · rw [Int.emod_eq_of_lt (by omega) h]
    omega
  · have e : d + 1 + r = (d + 1 + r - n) + n * 1 := by omega
    rw [e, Int.add_mul_emod_self_left, Int.emod_eq_of_lt (by omega) (by omega)]
    omega
def spLBook (K : PySem.W.Frag) : Sp := fun vs H Q _ => ∃ (h c : Addr) (nh nc wd : Int), vs = [.ref h, .int nh, .int nc, .int wd] ∧ RngAt H h c ∧ 1 ≤ nh ∧ nh ≤ 8 ∧ 0 ≤ nc ∧ nc ≤ 24 ∧ 1 ≤ wd ∧ wd ≤ 999 ∧
  ∀ b ca cl ts B H', Good B → (B.cash.length : Int) ≤ nh → (B.claims.length : Int) ≤ nc → (∀ x ∈ B.cash, x ≤ max 20 wd) → (∀ q ∈ B.claims, q.a ≤ max 20 wd) → H b = none → Fr h c H H' → BookAt K H' b ca cl ts B → Q (.ref b) H'
section
variable {P : Program} {w : World} {K : PySem.W.Frag} {mg : Str → Option Value} {base : Heap}
theorem sc_lbook : FnScope ["_law_h", "_law_houses", "_law_claims", "_law_wide", "_law_many", "_law_most", "_law_ranks", "_law_k", "_law_cash", "_law_rows", "_law_debtor", "_law_creditor"] ["_law_h", "_law_houses", "_law_claims", "_law_wide"] (defScope s_lbook) := ⟨rfl, rfl, rfl, by decide +kernel, rfl, by decide +kernel, by decide +kernel⟩
/- 0:_law_h 1:_law_houses 2:_law_claims 3:_law_wide 4:_law_many 5:_law_most 6:_law_ranks 7:_law_k 8:_law_cash 9:_law_rows 10:_law_debtor 11:_law_creditor -/
theorem ok_lbook {f : Addr} {fd : FuncData} (D : DefAt K mg "_law_book" s_lbook ["_law_h", "_law_houses", "_law_claims", "_law_wide"] f fd) (m_max : mg "max" = none) (m_len : mg "len" = none) (m_range : mg "range" = none) (m_tuple : mg "tuple" = none) (m_int : mg "int" = none)
    {f1 : Addr} {fd1 : FuncData} (D_next : DefAt K mg "_law_next" s_next ["_law_h", "_law_many"] f1 fd1) : FnOk P w K mg base CX0 2 f fd ["_law_h", "_law_houses", "_law_claims", "_law_wide"] (spLBook K) := by
  have G_next : FnOk P w K mg base CX0 1 f1 fd1 ["_law_h", "_law_many"] spNext := ok_next D_next m_max m_len
  refine D.F.ok sc_lbook (fun vs H Q E h => ?_) (fun cdv A outer s H vs Q E hr h => ?_)
  · obtain ⟨h, c, nh, nc, wd, rfl, _⟩ := h
    rfl
  · obtain ⟨h, c, nh, nc, wd, rfl, R, nh0, nh1, nc0, nc1, wd0, wd1, k⟩ := h
    refine ⟨_, pss_cons (ps_set (i := 4) sc_lbook.nd rfl (.inl rfl) (pe_op op_add pe_int (pe_call G_next (hr.mono (by decide)) (by rfl) D_next.g D_next.F.kp D_next.b .nil pass0 (pa_cons (pv 0) (pa_cons (pv 1) pa_nil)))))
        (pss_cons (ps_set (i := 5) sc_lbook.nd rfl (.inr rfl) (pe_ix (r := rIxL K) ix_list (pe_lst (pa_cons pe_int (pa_cons pe_int (pa_cons (pv 3) pa_nil)))) (pe_call G_next (hr.mono (by decide)) (by rfl) D_next.g D_next.F.kp D_next.b .nil pass0 (pa_cons (pv 0) (pa_cons pe_int pa_nil))) (fun _ _ => rfl)))
        (pss_cons (ps_set (i := 6) sc_lbook.nd rfl (.inl rfl) (pe_ix (r := rIxL K) ix_list (pe_lst (pa_cons pe_int (pa_cons pe_int (pa_cons pe_int pa_nil)))) (pe_call G_next (hr.mono (by decide)) (by rfl) D_next.g D_next.F.kp D_next.b .nil pass0 (pa_cons (pv 0) (pa_cons pe_int pa_nil))) (fun _ _ => rfl)))
        (pss_cons (ps_set (i := 8) sc_lbook.nd rfl (.inl rfl) (pe_callTy (r := rTupleOf K) call_tupleOf (by rfl) m_tuple (by decide +kernel) (pa_cons (pe_lc (own := [("_law_k", 7)]) (g := gName 7) (tt := tYes) (by rfl) sc_lbook.nd (pi_range1 (by rfl) m_range (pa_cons (pv 4) pa_nil)) (blkOk_by (own := [("_law_k", 7)]) (N := ["_law_h", "_law_houses", "_law_claims", "_law_wide", "_law_many", "_law_most", "_law_ranks", "_law_k", "_law_cash", "_law_rows", "_law_debtor", "_law_creditor"]) (sc := defScope s_lbook) (by decide +kernel)) (fun _ _ _ _ _ => (pg_name (i := 7) sc_lbook.nd rfl (.inl rfl))) (fun _ _ _ _ _ => pts_nil) (fun _ _ _ _ _ => (pe_op op_mul (pe_call G_next (hr.mono (by decide)) (by rfl) D_next.g D_next.F.kp D_next.b .nil pass0 (pa_cons (pv 0) (pa_cons (pe_op op_add (pv 5) pe_int) pa_nil))) (pe_callTy call_int1 (by rfl) m_int (by decide +kernel) (pa_cons (pe_cmpR op_gt (pe_call G_next (hr.mono (by decide)) (by rfl) D_next.g D_next.F.kp D_next.b .nil pass0 (pa_cons (pv 0) (pa_cons pe_int pa_nil))) pe_int (nomark _)) pa_nil))))) pa_nil)))
        (pss_cons (ps_set (i := 9) sc_lbook.nd rfl (.inl rfl) (pe_lst pa_nil))
        (pss_cons (ps_for PassesOwn.never rfl (pi_range1 (by rfl) m_range (pa_cons (pe_op op_mul (pe_call G_next (hr.mono (by decide)) (by rfl) D_next.g D_next.F.kp D_next.b .nil pass0 (pa_cons (pv 0) (pa_cons (pe_op op_add (pv 2) pe_int) pa_nil))) (pe_callTy call_int1 (by rfl) m_int (by decide +kernel) (pa_cons (pe_cmpR op_gt (pv 4) pe_int (nomark _)) pa_nil))) pa_nil)) (pg_name (i := 7) sc_lbook.nd rfl (.inl rfl)) (pss_cons (ps_set (i := 10) sc_lbook.nd rfl (.inl rfl) (pe_call G_next (hr.mono (by decide)) (by rfl) D_next.g D_next.F.kp D_next.b .nil pass0 (pa_cons (pv 0) (pa_cons (pv 4) pa_nil))))
          (pss_cons (ps_set (i := 11) sc_lbook.nd rfl (.inl rfl) (pe_op op_mod (pe_op op_add (pe_op op_add (pv 10) pe_int) (pe_call G_next (hr.mono (by decide)) (by rfl) D_next.g D_next.F.kp D_next.b .nil pass0 (pa_cons (pv 0) (pa_cons (pe_op op_sub (pv 4) pe_int) pa_nil)))) (pv 4)))
          (pss_one (ps_expr (pe_bm PySem.F.plainAttrs_list PySem.F.slot_list_append PySem.F.type_list_append mt_append (pv 9) (pa_cons (pe_tup (pa_cons (pv 10) (pa_cons (pv 11) (pa_cons (pe_op op_add pe_int (pe_call G_next (hr.mono (by decide)) (by rfl) D_next.g D_next.F.kp D_next.b .nil pass0 (pa_cons (pv 0) (pa_cons (pv 5) pa_nil)))) (pa_cons (pe_op op_add pe_int (pe_call G_next (hr.mono (by decide)) (by rfl) D_next.g D_next.F.kp D_next.b .nil pass0 (pa_cons (pv 0) (pa_cons (pv 6) pa_nil)))) pa_nil))))) pa_nil)))))))
        (pss_one (ps_ret (pe_tup (pa_cons (pv 8) (pa_cons (pe_callTy (r := rTupleOf K) call_tupleOf (by rfl) m_tuple (by decide +kernel) (pa_cons (pv 9) pa_nil)) pa_nil)))))))))), ?_⟩
    -- many
    refine sq_set (fun v H1 => Fr h c H H1 ∧ ∃ n : Int, v = .int n ∧ 1 ≤ n ∧ n ≤ nh) (fun Q k => ⟨_, rfl, _, rfl, h, c, nh, rfl, R, by omega, by omega, fun r H1 r0 r1 R1 o1 => ⟨_, _, rfl, rfl, k _ _ ⟨⟨o1, R1⟩, _, rfl, by omega, by omega⟩⟩⟩) (fun v H1 hv => ?_)
    obtain ⟨F1, n, rfl, n0, n1⟩ := hv
    -- most
    refine sq_set (fun v H2 => Fr h c H H2 ∧ ∃ m : Int, v = .int m ∧ 1 ≤ m ∧ m ≤ max 20 wd ∧ m ≤ 999) (fun Q k => ?_) (fun v H2 hv => ?_)
    · refine ⟨_, rfl, by show 3 ≤ sizeLine; decide, fun l nl => ⟨_, rfl, h, c, 3, rfl, F1.rng.same (Same.new nl), by decide, by decide, fun r H2 r0 r1 R2 o2 => ?_⟩⟩
      have F2 : Fr h c H H2 := (F1.same (Same.new nl)).trans ⟨o2, R2⟩
      have hl := o2 l _ upd_same (F1.rng.fresh nl)
      have : r = 0 ∨ r = 1 ∨ r = 2 := by omega
      rcases this with rfl | rfl | rfl
      · exact ⟨l, _, _, _, rfl, rfl, sq_of hl, atI_nat (j := 0) rfl, k _ _ ⟨F2, 4, rfl, by omega, by omega, by omega⟩⟩
      · exact ⟨l, _, _, _, rfl, rfl, sq_of hl, atI_nat (j := 1) rfl, k _ _ ⟨F2, 20, rfl, by omega, by omega, by omega⟩⟩
      · exact ⟨l, _, _, _, rfl, rfl, sq_of hl, atI_nat (j := 2) rfl, k _ _ ⟨F2, wd, rfl, by omega, by omega, by omega⟩⟩
    obtain ⟨F2, m, rfl, m0, m1, m2⟩ := hv
    -- ranks
    refine sq_set (fun v H3 => Fr h c H H3 ∧ ∃ q : Int, v = .int q ∧ 1 ≤ q ∧ q ≤ 9) (fun Q k => ?_) (fun v H3 hv => ?_)
    · refine ⟨by show 3 ≤ sizeLine; decide, fun l nl => ⟨_, rfl, h, c, 3, rfl, F2.rng.same (Same.new nl), by decide, by decide, fun r H3 r0 r1 R3 o3 => ?_⟩⟩
      have F3 : Fr h c H H3 := (F2.same (Same.new nl)).trans ⟨o3, R3⟩
      have hl := o3 l _ upd_same (F2.rng.fresh nl)
      have : r = 0 ∨ r = 1 ∨ r = 2 := by omega
      rcases this with rfl | rfl | rfl
      · exact ⟨l, _, _, _, rfl, rfl, sq_of hl, atI_nat (j := 0) rfl, k _ _ ⟨F3, 1, rfl, by omega, by omega⟩⟩
      · exact ⟨l, _, _, _, rfl, rfl, sq_of hl, atI_nat (j := 1) rfl, k _ _ ⟨F3, 3, rfl, by omega, by omega⟩⟩
      · exact ⟨l, _, _, _, rfl, rfl, sq_of hl, atI_nat (j := 2) rfl, k _ _ ⟨F3, 9, rfl, by omega, by omega⟩⟩
    obtain ⟨F3, q, rfl, q0, q1⟩ := hv
    -- cash
    refine sq_set (fun v H4 => Fr h c H H4 ∧ ∃ (ca : Addr) (cash : List Int), v = .ref ca ∧ SqT K H4 ca (cash.map V.int) ∧ (cash.length : Int) = n ∧ ∀ x ∈ cash, 0 ≤ x ∧ x ≤ m) (fun Q k => ?_) (fun v H4 hv => ?_)
    · refine ⟨_, rfl, n, rfl, by omega, by omega, fun d nd => ?_⟩
      have nd0 := F3.free nd
      have nhd := F3.rng.fresh nd
      refine lc_range (lo := 0) (n := n.toNat) (fun i H' => Fr h c H H' ∧ ∃ cash : List Int, H' d = some (.lst (cash.map V.int)) ∧ cash.length = i ∧ ∀ x ∈ cash, 0 ≤ x ∧ x ≤ m) ⟨F3.new nd, [], upd_same, rfl, fun x hx => nomatch hx⟩ (fun i H' hi hP => ?_) (fun H' hP => ?_)
      · obtain ⟨F4, cash, hd, hl, hb⟩ := hP
        refine ⟨rfl, _, rfl, _, rfl, _, _, rfl, rfl, h, c, _, rfl, F4.rng, by omega, by omega, fun r H5 r0 r1 R5 o5 => ?_⟩
        refine ⟨_, rfl, h, c, 3, rfl, R5, by decide, by decide, fun r2 H6 r20 r21 R6 o6 => ⟨_, _, rfl, rfl, .inr ⟨_, rfl, _, _, rfl, rfl, .inl ⟨by omega, by omega⟩, ?_⟩⟩⟩
        have F6 : Fr h c H H6 := (F4.trans ⟨o5, R5⟩).trans ⟨o6, R6⟩
        have hd6 := o6 d _ (o5 d _ hd nhd) nhd
        refine ⟨_, hd6, ?_, F6.mut nd0 nhd, cash ++ [r * (if decide (0 < r2) = true then 1 else 0)], ?_, ?_, fun x hx => ?_⟩
        · rw [List.length_map]
          exact sz_lt (by omega)
        · rw [upd_same, List.map_append]
          rfl
        · rw [List.length_append, hl]
          rfl
        · rcases List.mem_append.mp hx with hx | hx
          · exact hb x hx
          · rw [List.mem_singleton.mp hx]
            split <;> omega
      · obtain ⟨F4, cash, hd, hl, hb⟩ := hP
        refine ⟨d, _, rfl, .inl ⟨sq_of hd, fun ca nca => k _ _ ⟨F4.new nca, ca, cash, rfl, st_of upd_same, by omega, hb⟩⟩⟩
    obtain ⟨F4, ca, cash, rfl, hca, hcn, hcb⟩ := hv
    -- rows
    refine sq_new (.lst []) (fun Q k => ⟨Nat.zero_le _, fun p np => k p _ np (Same.new np) upd_same⟩) (fun rw0 H5 nrw s5 hrw => ?_)
    have F5 := F4.same s5
    have hca5 := Same.tup s5 hca
    have nrw0 := F4.free nrw
    have nhrw := F4.rng.fresh nrw
    refine sq_forRx (fun z H6 => Fr h c H5 H6 ∧ 0 ≤ z ∧ z ≤ nc ∧ (0 < z → 1 < n)) (fun Q k => ?_) (fun z H6 hz => by have := hz.2; omega)
      (fun z i σ' H6 => Fr h c H4 H6 ∧ z ≤ nc ∧ (0 < z → 1 < n) ∧ (∃ (ts : List Addr) (qs : List Clm), H6 rw0 = some (.lst (ts.map V.ref)) ∧ ClmsAt K H6 ts qs ∧ qs.length = i ∧ (∀ q' ∈ qs, GoodC n q' ∧ q'.a ≤ m)) ∧
        ∃ y9 y10 y11, σ' = [some (.ref h), some (.int nh), some (.int nc), some (.int wd), some (.int n), some (.int m), some (.int q), y9, some (.ref ca), some (.ref rw0), y10, y11])
      (fun z H6 hz => ⟨((Fr.refl F4.rng).same s5).trans hz.1, hz.2.2.1, hz.2.2.2, ⟨[], [], hz.1.off rw0 _ hrw nhrw, ⟨rfl, fun i t p h1 => by cases h1⟩, rfl, fun p hp => nomatch hp⟩, _, _, _, rfl⟩) (fun z i σ' H6 hi hP => ?_) (fun z σ' H6 hP => ?_)
    · refine ⟨_, rfl, _, rfl, _, _, rfl, rfl, h, c, _, rfl, F5.rng, by omega, by omega, fun r H6 r0 r1 R6 o6 => ?_⟩
      refine ⟨_, rfl, _, _, rfl, rfl, .inr ⟨_, rfl, _, _, rfl, rfl, .inl ⟨by omega, by omega⟩, k _ _ ⟨⟨o6, R6⟩, ?_, ?_, ?_⟩⟩⟩
      · split <;> omega
      · split <;> omega
      · by_cases hn : 1 < n
        · exact fun _ => hn
        · rw [decide_eq_false hn]
          intro hh
          simp at hh
    · obtain ⟨F6, hz, hz2, ⟨ts, qs, hr6, hq6, hql, hqg⟩, y9, y10, y11, rfl⟩ := hP
      have hn : 1 < n := hz2 (by omega)
      -- debtor
      refine sq_set (fun v H7 => Fr h c H6 H7 ∧ ∃ d : Int, v = .int d ∧ 0 ≤ d ∧ d < n) (fun Q k => ⟨_, rfl, _, rfl, h, c, n, rfl, F6.rng, by omega, by omega, fun r H7 r0 r1 R7 o7 => k _ _ ⟨⟨o7, R7⟩, r, rfl, r0, r1⟩⟩) (fun v H7 hv => ?_)
      obtain ⟨F7, d, rfl, d0, d1⟩ := hv
      -- creditor
      refine sq_set (fun v H8 => Fr h c H6 H8 ∧ ∃ e : Int, v = .int e ∧ 0 ≤ e ∧ e < n ∧ d ≠ e) (fun Q k => ?_) (fun v H8 hv => ?_)
      · refine ⟨_, rfl, _, _, rfl, rfl, _, rfl, _, rfl, _, _, rfl, rfl, h, c, _, rfl, F7.rng, by omega, by omega, fun r H8 r0 r1 R8 o8 => ⟨_, _, rfl, rfl, _, rfl, _, _, rfl, rfl, by omega, ?_⟩⟩
        exact k _ _ ⟨F7.trans ⟨o8, R8⟩, _, rfl, other_house d0 d1 r0 r1⟩
      obtain ⟨F8, e, rfl, e0, e1, e2⟩ := hv
      -- the row
      have hr8 := F8.off rw0 _ hr6 nhrw
      refine ⟨_, rfl, .inl ⟨rfl, _, sq_of hr8⟩, _, rfl, _, rfl, _, rfl, _, rfl, h, c, m, rfl, F8.rng, by omega, by omega, fun a H9 a0 a1 R9 o9 => ⟨_, _, rfl, rfl, _, rfl, _, rfl, h, c, q, rfl, R9, by omega, by omega, fun rk H10 k0 k1 R10 o10 => ⟨_, _, rfl, rfl, by show 4 ≤ sizeLine; decide, fun t nt => ?_⟩⟩⟩
      have F10 : Fr h c H6 H10 := (F8.trans ⟨o9, R9⟩).trans ⟨o10, R10⟩
      have hr10 := F10.off rw0 _ hr6 nhrw
      have s11 : Same H10 (upd H10 t (.tup [.int d, .int e, .int (1 + a), .int (1 + rk)])) := Same.new nt
      have hr11 := s11 _ _ hr10
      have hq11 := (Fr.clms F6.rng F10 hq6).same s11
      have ht11 : SqT K (upd H10 t (.tup [.int d, .int e, .int (1 + a), .int (1 + rk)])) t [.int (Clm.mk d e (1 + a) (1 + rk)).d, .int (Clm.mk d e (1 + a) (1 + rk)).c, .int (Clm.mk d e (1 + a) (1 + rk)).a, .int (Clm.mk d e (1 + a) (1 + rk)).r] := st_of upd_same
      have F11 := F10.same s11
      refine ⟨rw0, _, _, rfl, rfl, hr11, ?_, ?_⟩
      · rw [List.length_map, hq6.1]
        exact sz_lt (by omega)
      · refine ⟨?_, hz, hz2, ⟨ts ++ [t], qs ++ [⟨d, e, 1 + a, 1 + rk⟩], ?_, (hq11.app ht11).put hr11, ?_, fun q' hq' => ?_⟩, _, _, _, rfl⟩
        · exact (F6.trans F11).mut nrw nhrw
        · rw [upd_same, List.map_append]
          rfl
        · rw [List.length_append, hql]
          rfl
        · rcases List.mem_append.mp hq' with hq' | hq'
          · exact hqg q' hq'
          · rw [List.mem_singleton.mp hq']
            exact ⟨⟨d0, d1, e0, e1, e2, by show 1 ≤ 1 + a; omega, by show 1 + a ≤ 999; omega, by show 1 ≤ 1 + rk; omega, by show 1 + rk ≤ 9; omega⟩, by show 1 + a ≤ m; omega⟩
    · obtain ⟨F6, hz, hz2, ⟨ts, qs, hr6, hq6, hql, hqg⟩, y9, y10, y11, rfl⟩ := hP
      have R4 := F4.rng
      have hca6 := tup_off R4 F6.off hca
      refine ⟨_, rfl, _, rfl, rw0, _, rfl, .inl ⟨sq_of hr6, fun cl ncl => ⟨by show 2 ≤ sizeLine; decide, fun b nb => ?_⟩⟩⟩
      have F7 : Fr h c H (upd (upd H6 cl (.tup (ts.map V.ref))) b (.tup [.ref ca, .ref cl])) := ((F4.trans F6).new ncl).new nb
      have s7 : Same H6 (upd H6 cl (.tup (ts.map V.ref))) := Same.new ncl
      have s8 : Same (upd H6 cl (.tup (ts.map V.ref))) (upd (upd H6 cl (.tup (ts.map V.ref))) b (.tup [.ref ca, .ref cl])) := Same.new nb
      refine k b ca cl ts ⟨cash, qs⟩ _ ⟨?_, ?_, fun x hx => ?_, ?_, fun q' hq' => ?_⟩ ?_ ?_ (fun x hx => ?_) (fun q' hq' => ?_) ?_ F7 ⟨st_of upd_same, Same.tup (s7.trans s8) hca6, st_of (s8 _ _ upd_same), hq6.same (s7.trans s8)⟩
      · show 1 ≤ cash.length
        omega
      · show cash.length ≤ 8
        omega
      · have := hcb x hx
        omega
      · show qs.length ≤ 24
        omega
      · show GoodC (cash.length : Int) q'
        rw [hcn]
        exact (hqg q' hq').1
      · show (cash.length : Int) ≤ nh
        omega
      · show (qs.length : Int) ≤ nc
        omega
      · have := hcb x hx
        omega
      · have := (hqg q' hq').2
        omega
      · exact ((F4.trans F6).new ncl).free nb
end


end Rf
namespace Rf
open PySem PySem.Spec PyProof.Rows L2
/-! ### the law's own sharing -/
def idx : Option Nat → Int
  | none => -1
  | some k => (k : Int)
/-- numbers from 0 to a million -/
def Bnd (l : List Int) : Prop := ∀ x ∈ l, 0 ≤ x ∧ x ≤ 1000000
theorem Bnd.g {l : List Int} (h : Bnd l) {i : Nat} (hi : i < l.length) : 0 ≤ g l i ∧ g l i ≤ 1000000 := h _ (g_mem hi)
theorem cmul_of {i j : Int} (h : 0 ≤ i ∧ i ≤ 1000000) : CMul i j := .inl ⟨by omega, by omega⟩
theorem fu_skip {a p : List Int} {i : Nat} (h : ¬ g p i < g a i) : firstUp a p (i + 1) = firstUp a p i := by
  conv => lhs; unfold firstUp
  cases e : firstUp a p i with
  | none => simp only [if_neg h]
  | some f => simp only [if_neg (fun z => h (And.left z))]
theorem fu_first {a p : List Int} {i : Nat} (h : g p i < g a i) (e : firstUp a p i = none) : firstUp a p (i + 1) = some i := by
  unfold firstUp
  rw [e]
  simp only [if_pos h]
theorem fu_less {a p : List Int} {i f : Nat} (h : g p i < g a i) (e : firstUp a p i = some f) (h2 : g p i * g a f < g p f * g a i) : firstUp a p (i + 1) = some i := by
  unfold firstUp
  rw [e]
  simp only [if_pos (And.intro h h2)]
theorem fu_keep {a p : List Int} {i f : Nat} (e : firstUp a p i = some f) (h2 : ¬ g p i * g a f < g p f * g a i) : firstUp a p (i + 1) = some f := by
  unfold firstUp
  rw [e]
  simp only [if_neg (fun z => h2 (And.right z))]
theorem fu_lt {a p : List Int} : ∀ {n f : Nat}, firstUp a p n = some f → f < n
  | 0, f, h => by cases h
  | k + 1, f, h => by
    unfold firstUp at h
    cases e : firstUp a p k with
    | none =>
      rw [e] at h
      simp only at h
      split at h <;> cases h
      exact Nat.lt_succ_self _
    | some f' =>
      rw [e] at h
      have := fu_lt e
      simp only at h
      split at h <;> cases h <;> omega
/-- two lists of like length and their ints -/
structure Two (K : PySem.W.Frag) (H : Hp) (a p : Addr) (as ps : List Int) : Prop where
  ha : SqL K H a (as.map V.int)
  hp : SqL K H p (ps.map V.int)
  len : ps.length = as.length
  small : as.length ≤ 1000
  ba : Bnd as
  bp : Bnd ps
theorem Two.same {K : PySem.W.Frag} {H H' : Hp} {a p : Addr} {as ps : List Int} (T : Two K H a p as ps) (s : Same H H') : Two K H' a p as ps := ⟨s.seq T.ha, s.seq T.hp, T.len, T.small, T.ba, T.bp⟩
theorem bnd_valid {a p : List Int} (B : Bnd a) (W : Valid a p) : Bnd p := fun x hx => by
  obtain ⟨i, hi, rfl⟩ := mem_g hx
  have hi' : i < a.length := W.len ▸ hi
  have h1 := W.lo i hi'
  have h2 := W.hi i hi'
  have h3 := B.g hi'
  omega
theorem shareN_ok {a : List Int} (pos : AllPos a) (n : Nat) (h : (n : Int) ≤ a.sum) : Valid a (shareN a n) ∧ (shareN a n).sum = n := by
  have z := zeros_sum a
  obtain ⟨W, s⟩ := steps_ok pos (valid_zeros pos) n (by rw [z]; omega)
  refine ⟨W, ?_⟩
  show (steps a n (zeros a)).sum = n
  rw [s, z]
  omega
theorem shareN_next {a : List Int} (pos : AllPos a) (n : Nat) (h : (n : Int) < a.sum) : ∃ f, firstUp a (shareN a n) a.length = some f ∧ f < a.length ∧ shareN a (n + 1) = (shareN a n).set f (g (shareN a n) f + 1) := by
  obtain ⟨W, s⟩ := shareN_ok pos n (by omega)
  obtain ⟨f, e, F⟩ := exists_first W (by rw [s]; exact h) pos
  exact ⟨f, e, F.lt, nextS_of e⟩
theorem bnd_sum : ∀ {l : List Int}, Bnd l → l.sum ≤ 1000000 * l.length
  | [], _ => by simp
  | x :: r, h => by
    have h1 := h x List.mem_cons_self
    have h2 := bnd_sum (l := r) fun y hy => h y (List.mem_cons_of_mem _ hy)
    rw [List.sum_cons, List.length_cons]
    omega
/-- amounts as the sharing takes them -/
structure Amts (as : List Int) : Prop where
  pos : AllPos as
  bnd : Bnd as
  small : as.length ≤ 1000
theorem Amts.sum_le {as : List Int} (h : Amts as) : as.sum ≤ 1000000000 := by
  have := bnd_sum h.bnd
  have := h.small
  omega
theorem Amts.sum_nn {as : List Int} (h : Amts as) : 0 ≤ as.sum := h.pos.sum_nn
theorem min_if (c s : Int) : (if s < c then s else c) = min c s := by
  by_cases h : s < c
  · rw [if_pos h, Int.min_eq_right (by omega)]
  · rw [if_neg h, Int.min_eq_left (by omega)]
theorem rep_zeros (as : List Int) (n : Int) (h : n = (as.length : Int)) : (List.replicate n.toNat [V.int 0]).flatten = (zeros as).map V.int := by
  rw [h, Int.toNat_natCast, List.flatten_replicate_singleton]
  unfold zeros
  rw [List.map_replicate]


end Rf
namespace Rf
open PySem PySem.Spec PyProof.Rows L2
/-- the list found is due: both of whole numbers -/
def spAre (K : PySem.W.Frag) : Sp := fun vs H Q _ => ∃ (a b : Addr) (xs ys : List Int), vs = [.ref a, .ref b] ∧ H a = some (.lst (xs.map V.int)) ∧ SqL K H b (ys.map V.int) ∧ ys.length ≤ 1000 ∧ Q (.bl (decide (xs = ys))) H
section
variable {P : Program} {w : World} {K : PySem.W.Frag} {mg : Str → Option Value} {base : Heap}
theorem sc_are : FnScope ["_law_found", "_law_due", "_law_k"] ["_law_found", "_law_due"] (defScope s_are) := ⟨rfl, rfl, rfl, by decide +kernel, rfl, by decide +kernel, by decide +kernel⟩
/- 0:_law_found 1:_law_due 2:_law_k -/
theorem ok_are {f : Addr} {fd : FuncData} (D : DefAt K mg "_law_are" s_are ["_law_found", "_law_due"] f fd) (m_range : mg "range" = none) (m_len : mg "len" = none) (m_isinstance : mg "isinstance" = none) (m_list : mg "list" = none) (m_bool : mg "bool" = none) (m_int : mg "int" = none) : FnOk P w K mg base CX0 1 f fd ["_law_found", "_law_due"] (spAre K) := by
  refine D.F.ok sc_are (fun vs H Q E h => ?_) (fun cdv A outer s H vs Q E hr h => ?_)
  · obtain ⟨a, b, xs, ys, rfl, _⟩ := h
    rfl
  · obtain ⟨a, b, xs, ys, rfl, ha, hb, hsm, k⟩ := h
    have lx : (xs.map V.int).length = xs.length := List.length_map _
    have ly : (ys.map V.int).length = ys.length := List.length_map _
    refine ⟨_, pss_cons (ps_if (PW.pt (pw_or (pt_not (pt_val (pe_callB (r := rIsi K) call_isi (by rfl) m_isinstance (by decide +kernel) (pa_cons (pv 0) (pa_cons (pe_bltn (v := .ty "list") (by rfl) m_list (by decide +kernel) rfl) pa_nil))))) (pw_or1 (pt_cmpR op_ne (pe_callB (r := rLen K) call_len (by rfl) m_len (by decide +kernel) (pa_cons (pv 0) pa_nil)) (pe_callB (r := rLen K) call_len (by rfl) m_len (by decide +kernel) (pa_cons (pv 1) pa_nil)) (nomark _))))) (pss_one (ps_ret pe_bl)) pss_nil)
        (pss_cons (ps_for PassesOwn.never rfl (pi_range1 (by rfl) m_range (pa_cons (pe_callB (r := rLen K) call_len (by rfl) m_len (by decide +kernel) (pa_cons (pv 1) pa_nil)) pa_nil)) (pg_name (i := 2) sc_are.nd rfl (.inl rfl)) (pss_one (ps_if (PW.pt (pw_or (pt_val (pe_callB (r := rIsi K) call_isi (by rfl) m_isinstance (by decide +kernel) (pa_cons (pe_ix (r := rIxL K) ix_list (pv 0) (pv 2) (fun _ _ => rfl)) (pa_cons (pe_bltn (v := .ty "bool") (by rfl) m_bool (by decide +kernel) rfl) pa_nil)))) (pw_or (pt_not (pt_val (pe_callB (r := rIsi K) call_isi (by rfl) m_isinstance (by decide +kernel) (pa_cons (pe_ix (r := rIxL K) ix_list (pv 0) (pv 2) (fun _ _ => rfl)) (pa_cons (pe_bltn (v := .ty "int") (by rfl) m_int (by decide +kernel) rfl) pa_nil))))) (pw_or1 (pt_cmpR op_ne (pe_ix (r := rIxL K) ix_list (pv 0) (pv 2) (fun _ _ => rfl)) (pe_ix (r := rIxL K) ix_list (pv 1) (pv 2) (fun _ _ => rfl)) (nomark _)))))) (pss_one (ps_ret pe_bl)) pss_nil)))
        (pss_one (ps_ret pe_bl))), ?_⟩
    refine sq_whenP (p := xs.length ≠ ys.length) (fun Q k => ?_) (fun hne => ?_) (fun hle => ?_)
    · refine ⟨_, rfl, _, _, .type "list", .type "list", true, rfl, .ty _, .base (.lst ha), kit_ty (by decide +kernel), _, rfl, iteF ?_⟩
      refine ⟨_, rfl, a, _, rfl, .inl (sq_of ha), _, rfl, b, _, rfl, .inl hb, rfl, _, rfl, ?_⟩
      have e : (!decide (V.int ((xs.map V.int).length : Int) = V.int ((ys.map V.int).length : Int))) = decide (xs.length ≠ ys.length) := by
        rw [dec_int, lx, ly]
        by_cases h : xs.length = ys.length
        · rw [h]; simp
        · rw [decide_eq_true (show xs.length ≠ ys.length from h)]
          have : ¬ ((xs.length : Int) = (ys.length : Int)) := by omega
          simp [this]
      rw [e]
      exact k
    · have e : decide (xs = ys) = false := decide_eq_false fun z => hne (by rw [z])
      rw [e] at k
      exact k
    · have hl : xs.length = ys.length := Classical.byContradiction hle
      refine sq_forR (ys.length : Int) (fun Q k => ⟨_, rfl, b, _, rfl, .inl hb, by rw [ly]; exact k⟩) (by omega)
        (fun i σ' H' => H' = H ∧ (∀ j, j < i → g xs j = g ys j) ∧ ∃ y, σ' = [some (.ref a), some (.ref b), y]) ⟨rfl, fun j hj => absurd hj (Nat.not_lt_zero _), none, rfl⟩ (fun i σ' H' hi hP => ?_) (fun σ' H' hP => ?_)
      · obtain ⟨rfl, he, y, rfl⟩ := hP
        have hi2 : i < ys.length := by omega
        have hi1 : i < xs.length := by omega
        refine if_ifP (p := g xs i ≠ g ys i) (fun Q k => ?_) (fun hne => ?_) (fun heq => ?_)
        · refine ⟨_, rfl, _, rfl, a, _, _, _, rfl, rfl, sq_of ha, atI_g rfl hi1, _, _, .type "int", .type "bool", false, rfl, .ty _, .base (.int _), kit_ty (by decide +kernel), _, rfl, iteF ?_⟩
          refine ⟨_, rfl, _, rfl, a, _, _, _, rfl, rfl, sq_of ha, atI_g rfl hi1, _, _, .type "int", .type "int", true, rfl, .ty _, .base (.int _), kit_ty (by decide +kernel), _, rfl, iteF ?_⟩
          refine ⟨_, rfl, _, rfl, a, _, _, _, rfl, rfl, sq_of ha, atI_g rfl hi1, _, rfl, _, rfl, b, _, _, _, rfl, rfl, hb, atI_g rfl hi2, rfl, _, rfl, ?_⟩
          have e : (!decide (V.int (g xs i) = V.int (g ys i))) = decide (g xs i ≠ g ys i) := by
            rw [dec_int]
            by_cases h : g xs i = g ys i
            · rw [h]; simp
            · simp [h]
          rw [e]
          exact k
        · have e : decide (xs = ys) = false := decide_eq_false fun z => hne (by rw [z])
          rw [e] at k
          exact k
        · refine sq_nx ⟨rfl, fun j hj => ?_, _, rfl⟩
          by_cases h : j < i
          · exact he j h
          · have : j = i := by omega
            subst this
            exact Classical.byContradiction heq
      · obtain ⟨rfl, he, y, rfl⟩ := hP
        have e : decide (xs = ys) = true := decide_eq_true (ext_g hl fun i hi => he i (by omega))
        rw [e] at k
        exact k
end


end Rf
namespace Rf
open PySem PySem.Spec PyProof.Rows L2
/-! ### what the program's clearings promise -/
def spBest (K : PySem.W.Frag) : Sp := fun vs H Q _ => ∃ (b ca cl : Addr) (ts : List Addr) (B : Bk), vs = [.ref b] ∧ BookAt K H b ca cl ts B ∧ Good B ∧ ∀ p H', H p = none → Same H H' → H' p = some (.lst ((bestOf B).map V.int)) → Q (.ref p) H'
def spWorst (K : PySem.W.Frag) : Sp := fun vs H Q _ => ∃ (b ca cl : Addr) (ts : List Addr) (B : Bk), vs = [.ref b] ∧ BookAt K H b ca cl ts B ∧ Good B ∧ ∀ p H', H p = none → Same H H' → H' p = some (.lst ((worstOf B).map V.int)) → Q (.ref p) H'
def spIsClr (K : PySem.W.Frag) : Sp := fun vs H Q _ => ∃ (b ca cl : Addr) (ts : List Addr) (B : Bk) (p : Addr) (P : List Int), vs = [.ref b, .ref p] ∧ BookAt K H b ca cl ts B ∧ Good B ∧ SqL K H p (P.map V.int) ∧ Pay B P ∧ ∀ H', Same H H' → Q (.bl (decide (behind B (houses B) P = P))) H'
def spLeft (K : PySem.W.Frag) : Sp := fun vs H Q _ => ∃ (b ca cl : Addr) (ts : List Addr) (B : Bk) (p : Addr) (P : List Int), vs = [.ref b, .ref p] ∧ BookAt K H b ca cl ts B ∧ Good B ∧ SqL K H p (P.map V.int) ∧ Pay B P ∧ ∀ q H', H q = none → Same H H' → H' q = some (.lst ((leftOf B P).map V.int)) → Q (.ref q) H'
theorem rgV_houses (B : Bk) : rgV 0 (B.cash.length : Int) = (houses B).map V.int := by
  unfold rgV houses
  rw [List.map_map, Int.sub_zero, Int.toNat_natCast]
  apply List.map_congr_left
  intro k _
  show V.int (0 + (k : Int)) = V.int (k : Int)
  rw [Int.zero_add]
theorem rgOk_len {n : Nat} (h : n ≤ 1000) : RgOk 0 (n : Int) := RgOk.of_le (by decide) (by omega) (by decide) (by omega)
theorem inV_ints {x : Int} {l : List Int} : inV (.int x) (l.map V.int) = decide (x ∈ l) := by
  unfold inV
  rw [List.any_map]
  by_cases h : x ∈ l
  · rw [decide_eq_true h]
    refine List.any_eq_true.mpr ⟨x, h, ?_⟩
    show (x == x) = true
    simp
  · rw [decide_eq_false h]
    refine List.any_eq_false.mpr fun y hy => ?_
    show ¬ (y == x) = true
    intro z
    have e : y = x := by simpa using z
    exact h (e ▸ hy)
theorem flat_ints (l : List Int) : (l.map V.int).all flatV = true := by
  rw [List.all_map]
  exact List.all_eq_true.mpr fun _ _ => rfl
theorem houses_len (B : Bk) : (houses B).length = B.cash.length := by
  unfold houses
  rw [List.length_map, List.length_range]
theorem houses_in (B : Bk) : ∀ x ∈ houses B, 0 ≤ x ∧ x < B.cash.length := fun _ h => mem_houses.mp h
/-- the law's list of all amounts -/
theorem allP_take {B : Bk} {j : Nat} (h : j < B.claims.length) : (allP B).take (j + 1) = (allP B).take j ++ [(B.clm j).a] := by
  have e : (allP B)[j]? = some (B.clm j).a := by
    unfold allP
    rw [List.getElem?_map, Bk.clm_get h]
    rfl
  rw [List.take_add_one, e]
  rfl
/-- the draws' start -/
theorem rng_start {H : Hp} {h c : Addr} {ns : List Int} {n : Int} (nc : H c = none) (nh : (upd H c (.lst (ns.map V.int))) h = none) (hns : ns.length ≤ 63) (n0 : 0 ≤ n) (n1 : n < 2147483647) : RngAt (upd (upd H c (.lst (ns.map V.int))) h (.lst [.int n, .ref c, .int 0])) h c := by
  have nhc : h ≠ c := fun z => by rw [z, upd_same] at nh; cases nh
  exact ⟨nhc, n, 0, ns, upd_same, by rw [upd_ne nhc.symm, upd_same], n0, n1, by decide, hns⟩


end Rf
namespace Rf
open PySem PySem.Spec PyProof.Rows L2
/-! ### the program's books, where they are books -/
structure Lims (mg : Str → Option Value) : Prop where
  houses : ∃ t, mg "MOST_HOUSES" = some (.int 8 t)
  cash : ∃ t, mg "MOST_CASH" = some (.int 999 t)
  claims : ∃ t, mg "MOST_CLAIMS" = some (.int 24 t)
  amount : ∃ t, mg "MOST_AMOUNT" = some (.int 999 t)
  rank : ∃ t, mg "MOST_RANK" = some (.int 9 t)
def spWrong (K : PySem.W.Frag) : Sp := fun vs H Q _ => ∃ (t : Addr) (n : Int) (q : Clm), vs = [.ref t, .int n] ∧ SqT K H t [.int q.d, .int q.c, .int q.a, .int q.r] ∧ GoodC n q ∧ Q .non H
def spNeed (K : PySem.W.Frag) : Sp := fun vs H Q _ => ∃ (b ca cl : Addr) (ts : List Addr) (B : Bk), vs = [.ref b] ∧ BookAt K H b ca cl ts B ∧ Good B ∧ ∀ H', Same H H' → Q .non H'
def spNeedHs (K : PySem.W.Frag) : Sp := fun vs H Q _ => ∃ (b ca cl : Addr) (ts : List Addr) (B : Bk) (l : Addr) (xs : List Int), vs = [.ref b, .ref l] ∧ BookAt K H b ca cl ts B ∧ Good B ∧ SqL K H l (xs.map V.int) ∧ (∀ x ∈ xs, 0 ≤ x ∧ x < B.cash.length) ∧ ∀ H', Same H H' → Q .non H'
def spNeedH (K : PySem.W.Frag) : Sp := fun vs H Q _ => ∃ (b ca cl : Addr) (ts : List Addr) (B : Bk) (x : Int), vs = [.ref b, .int x] ∧ BookAt K H b ca cl ts B ∧ Good B ∧ 0 ≤ x ∧ x < B.cash.length ∧ ∀ H', Same H H' → Q .non H'
section
variable {P : Program} {w : World} {K : PySem.W.Frag} {mg : Str → Option Value} {base : Heap}
theorem sc_wrong : FnScope ["claim", "houses", "debtor", "creditor", "amount", "rank"] ["claim", "houses"] (defScope s_wrong) := ⟨rfl, rfl, rfl, by decide +kernel, rfl, by decide +kernel, by decide +kernel⟩
/- 0:claim 1:houses 2:debtor 3:creditor 4:amount 5:rank -/
theorem ok_wrong {f : Addr} {fd : FuncData} (D : DefAt K mg "_wrong_in_claim" s_wrong ["claim", "houses"] f fd) (L : Lims mg) : FnOk P w K mg base CX0 1 f fd ["claim", "houses"] (spWrong K) := by
  obtain ⟨t1, m_MOST_AMOUNT⟩ := L.amount
  obtain ⟨t2, m_MOST_RANK⟩ := L.rank
  refine D.F.ok sc_wrong (fun vs H Q E h => ?_) (fun cdv A outer s H vs Q E hr h => ?_)
  · obtain ⟨t, n, q, rfl, _⟩ := h
    rfl
  · obtain ⟨t, n, q, rfl, ht, Gc, k⟩ := h
    have ne : decide (V.int q.d = V.int q.c) = false := decide_eq_false fun z => Gc.ne (V.int.inj z)
    refine ⟨_, pss_cons (ps_asg (pv 0) (pg_tup rfl (pgs_cons (pg_name (i := 2) sc_wrong.nd rfl (.inl rfl)) (pgs_cons (pg_name (i := 3) sc_wrong.nd rfl (.inl rfl)) (pgs_cons (pg_name (i := 4) sc_wrong.nd rfl (.inl rfl)) (pgs_cons (pg_name (i := 5) sc_wrong.nd rfl (.inl rfl)) pgs_nil))))))
        (pss_cons (ps_if (PW.pt (pw_or (pt_not (PW.pt (pw_and (pt_chain op_le op_lt pe_int (pv 2) (pv 1)) (pw_and1 (pt_chain op_le op_lt pe_int (pv 3) (pv 1)))))) (pw_or1 (pt_cmpR op_eq (pv 2) (pv 3) (nomark _))))) (pss_one (ps_ret pe_str)) pss_nil)
        (pss_cons (ps_if (pt_not (pt_chain op_le op_le pe_int (pv 4) (pe_glob (v := .int 999) (by rfl) m_MOST_AMOUNT ⟨_, rfl⟩))) (pss_one (ps_ret pe_str)) pss_nil)
        (pss_cons (ps_if (pt_not (pt_chain op_le op_le pe_int (pv 5) (pe_glob (v := .int 9) (by rfl) m_MOST_RANK ⟨_, rfl⟩))) (pss_one (ps_ret pe_str)) pss_nil)
        (pss_one (ps_ret pe_non))))), ?_⟩
    refine sq_tup4 (fun Q k => ⟨_, rfl, k⟩) ht ?_
    refine sq_no (fun H' => H' = H) (fun Q k => ?_) (fun H' e => ?_)
    · refine ⟨_, rfl, _, _, rfl, rfl, true, dec_t Gc.d0, iteT ⟨_, rfl, _, _, rfl, rfl, true, dec_t Gc.d1, iteT ?_⟩⟩
      refine ⟨_, rfl, _, _, rfl, rfl, true, dec_t Gc.c0, iteT ⟨_, rfl, _, _, rfl, rfl, true, dec_t Gc.c1, iteF ?_⟩⟩
      refine ⟨_, rfl, _, rfl, rfl, ?_⟩
      rw [ne]
      exact ⟨_, rfl, k H rfl⟩
    subst e
    refine sq_no (fun H1 => H1 = H') (fun Q k => ?_) (fun H1 e => ?_)
    · exact ⟨_, rfl, _, _, rfl, rfl, true, dec_t Gc.a0, iteT ⟨_, _, rfl, rfl, true, dec_t Gc.a1, k H' rfl⟩⟩
    subst e
    refine sq_no (fun H2 => H2 = H1) (fun Q k => ?_) (fun H2 e => ?_)
    · exact ⟨_, rfl, _, _, rfl, rfl, true, dec_t Gc.r0, iteT ⟨_, _, rfl, rfl, true, dec_t Gc.r1, k H1 rfl⟩⟩
    subst e
    exact k
theorem sc_need : FnScope ["book", "cash", "claims", "houses", "house", "coins", "number", "claim", "wrong"] ["book"] (defScope s_need) := ⟨rfl, rfl, rfl, by decide +kernel, rfl, by decide +kernel, by decide +kernel⟩
/- 0:book 1:cash 2:claims 3:houses 4:house 5:coins 6:number 7:claim 8:wrong -/
theorem ok_need {f : Addr} {fd : FuncData} (D : DefAt K mg "need_book" s_need ["book"] f fd) (L : Lims mg) (m_len : mg "len" = none) (m_enumerate : mg "enumerate" = none)
    {f1 : Addr} {fd1 : FuncData} (D_wrong : DefAt K mg "_wrong_in_claim" s_wrong ["claim", "houses"] f1 fd1) : FnOk P w K mg base CX0 2 f fd ["book"] (spNeed K) := by
  have G_wrong : FnOk P w K mg base CX0 1 f1 fd1 ["claim", "houses"] (spWrong K) := ok_wrong D_wrong L
  obtain ⟨t1, m_MOST_HOUSES⟩ := L.houses
  obtain ⟨t2, m_MOST_CASH⟩ := L.cash
  obtain ⟨t3, m_MOST_CLAIMS⟩ := L.claims
  refine D.F.ok sc_need (fun vs H Q E h => ?_) (fun cdv A outer s H vs Q E hr h => ?_)
  · obtain ⟨b, ca, cl, ts, B, rfl, _⟩ := h
    rfl
  · obtain ⟨b, ca, cl, ts, B, rfl, A, G, k⟩ := h
    have lc : (B.cash.map V.int).length = B.cash.length := List.length_map _
    have lq : (ts.map V.ref).length = B.claims.length := by rw [List.length_map, A.hq.1]
    have n0 := G.n0
    have n1 := G.n1
    have m1 := G.m1
    refine ⟨_, pss_cons (ps_asg (pv 0) (pg_tup rfl (pgs_cons (pg_name (i := 1) sc_need.nd rfl (.inl rfl)) (pgs_cons (pg_name (i := 2) sc_need.nd rfl (.inl rfl)) pgs_nil))))
        (pss_cons (ps_set (i := 3) sc_need.nd rfl (.inl rfl) (pe_callB (r := rLen K) call_len (by rfl) m_len (by decide +kernel) (pa_cons (pv 1) pa_nil)))
        (pss_cons (ps_if (pt_not (pt_chain op_le op_le pe_int (pv 3) (pe_glob (v := .int 8) (by rfl) m_MOST_HOUSES ⟨_, rfl⟩))) (pss_one ps_never) pss_nil)
        (pss_cons (ps_for PassesOwn.never rfl (pi_enumT (by rfl) m_enumerate (pa_cons (pv 1) pa_nil)) (pg_tup rfl (pgs_cons (pg_name (i := 4) sc_need.nd rfl (.inl rfl)) (pgs_cons (pg_name (i := 5) sc_need.nd rfl (.inl rfl)) pgs_nil))) (pss_one (ps_if (pt_not (pt_chain op_le op_le pe_int (pv 5) (pe_glob (v := .int 999) (by rfl) m_MOST_CASH ⟨_, rfl⟩))) (pss_one ps_never) pss_nil)))
        (pss_cons (ps_if (pt_cmpR op_gt (pe_callB (r := rLen K) call_len (by rfl) m_len (by decide +kernel) (pa_cons (pv 2) pa_nil)) (pe_glob (v := .int 24) (by rfl) m_MOST_CLAIMS ⟨_, rfl⟩) (nomark _)) (pss_one ps_never) pss_nil)
        (pss_one (ps_for PassesOwn.never rfl (pi_enumT (by rfl) m_enumerate (pa_cons (pv 2) pa_nil)) (pg_tup rfl (pgs_cons (pg_name (i := 6) sc_need.nd rfl (.inl rfl)) (pgs_cons (pg_name (i := 7) sc_need.nd rfl (.inl rfl)) pgs_nil))) (pss_cons (ps_set (i := 8) sc_need.nd rfl (.inl rfl) (pe_call G_wrong (hr.mono (by decide)) (by rfl) D_wrong.g D_wrong.F.kp D_wrong.b .nil pass0 (pa_cons (pv 7) (pa_cons (pv 3) pa_nil))))
          (pss_one (ps_if (pt_cmpR op_notN (pv 8) pe_non (nomark _)) (pss_one ps_never) pss_nil))))))))), ?_⟩
    refine sq_tup2 (fun Q k => ⟨_, rfl, k⟩) A.hb ?_
    refine sq_val (.int (B.cash.length : Int)) (fun Q k => ⟨_, rfl, ca, _, rfl, .inr A.hca, by rw [lc]; exact k⟩) ?_
    refine sq_no (fun H' => H' = H) (fun Q k => ?_) (fun H' e => ?_)
    · exact ⟨_, rfl, _, _, rfl, rfl, true, dec_t (show (1 : Int) ≤ (B.cash.length : Int) by omega), iteT ⟨_, _, rfl, rfl, true, dec_t (show (B.cash.length : Int) ≤ 8 by omega), k H rfl⟩⟩
    subst e
    refine sq_forET (xs := B.cash.map V.int) (fun Q k => ⟨_, rfl, k⟩) A.hca
      (fun i σ' H1 => Same H' H1 ∧ ∃ y5 y6 y7 y8 y9, σ' = [some (.ref b), some (.ref ca), some (.ref cl), some (.int (B.cash.length : Int)), y5, y6, y7, y8, y9]) ⟨Same.refl _, none, none, none, none, none, rfl⟩ (fun i σ' H1 _ hP => Same.tup hP.1 A.hca) (fun i x U σ' H1 hx hP hU => ?_) (fun σ' H1 hP => ?_)
    · obtain ⟨s1, y5, y6, y7, y8, y9, rfl⟩ := hP
      obtain ⟨rfl, hi⟩ := map_int_get hx
      have gx := G.cash _ (g_mem hi)
      refine ⟨U, _, rfl, st_of upd_same, rfl, _, _, rfl, _, _, rfl, rfl, ?_⟩
      refine ⟨_, rfl, _, _, rfl, rfl, true, dec_t gx.1, iteT ⟨_, _, rfl, rfl, true, dec_t gx.2, iteF ?_⟩⟩
      exact ⟨s1.trans (Same.new hU), _, _, _, _, _, rfl⟩
    obtain ⟨s1, y5, y6, y7, y8, y9, rfl⟩ := hP
    have A1 := A.same s1
    refine sq_no (fun H2 => H2 = H1) (fun Q k => ?_) (fun H2 e => ?_)
    · refine ⟨_, rfl, cl, _, rfl, .inr A1.hcl, _, _, rfl, rfl, false, ?_, k H1 rfl⟩
      rw [lq]
      exact dec_f (show ¬ ((24 : Int) < (B.claims.length : Int)) by omega)
    subst e
    refine last_for ?_
    refine sq_forET (xs := ts.map V.ref) (fun Q k => ⟨_, rfl, k⟩) A1.hcl
      (fun i σ' H3 => Same H' H3 ∧ ∃ y5 y6 y7 y8 y9, σ' = [some (.ref b), some (.ref ca), some (.ref cl), some (.int (B.cash.length : Int)), y5, y6, y7, y8, y9]) ⟨s1, _, _, _, _, _, rfl⟩ (fun i σ' H3 _ hP => Same.tup hP.1 A.hcl) (fun i x U σ' H3 hx hP hU => ?_) (fun σ' H3 hP => ?_)
    · obtain ⟨s3, y5, y6, y7, y8, y9, rfl⟩ := hP
      obtain ⟨t, rfl, ht⟩ := map_ref_get hx
      have hi : i < B.claims.length := by
        rw [← A.hq.1]
        exact (List.getElem?_eq_some_iff.mp ht).1
      have hq := A.hq.2 i t _ ht (Bk.clm_get hi)
      have s4 := s3.trans (Same.new hU (o := .tup [.int (i : Int), .ref t]))
      refine ⟨U, _, rfl, st_of upd_same, rfl, _, _, rfl, _, _, rfl, rfl, ?_⟩
      refine sq_val .non (fun Q k => ⟨_, rfl, _, rfl, t, _, B.clm i, rfl, Same.tup s4 hq, G.clm hi, k⟩) ?_
      exact ⟨_, rfl, rfl, _, rfl, iteF ⟨s4, _, _, _, _, _, rfl⟩⟩
    · exact k H3 hP.1
end


end Rf
namespace Rf
open PySem PySem.Spec PyProof.Rows L2
/-! ### what a house pays, as the program reckons it -/
/-- the tuples at ts are the pairs L -/
def PrsAt (H : Hp) (ts : List Addr) (L : List (Nat × Int)) : Prop := ts.length = L.length ∧ ∀ (i : Nat) (t : Addr) (x : Nat × Int), ts[i]? = some t → L[i]? = some x → H t = some (.tup [.int (x.1 : Int), .int x.2])
theorem PrsAt.same {H H' : Hp} {ts : List Addr} {L : List (Nat × Int)} (A : PrsAt H ts L) (s : Same H H') : PrsAt H' ts L := ⟨A.1, fun i t x h1 h2 => s _ _ (A.2 i t x h1 h2)⟩
theorem PrsAt.nil (H : Hp) : PrsAt H [] [] := ⟨rfl, fun i t x h => by cases h⟩
theorem PrsAt.app {H : Hp} {ts us : List Addr} {L M : List (Nat × Int)} (A : PrsAt H ts L) (C : PrsAt H us M) : PrsAt H (ts ++ us) (L ++ M) := by
  refine ⟨by rw [List.length_append, List.length_append, A.1, C.1], fun i t x h1 h2 => ?_⟩
  by_cases hi : i < ts.length
  · rw [List.getElem?_append_left hi] at h1
    rw [List.getElem?_append_left (by rw [← A.1]; exact hi)] at h2
    exact A.2 i t x h1 h2
  · rw [List.getElem?_append_right (by omega)] at h1
    rw [List.getElem?_append_right (by rw [← A.1]; omega), ← A.1] at h2
    exact C.2 _ t x h1 h2
theorem PrsAt.one {H : Hp} {t : Addr} {k : Nat} {c : Int} (h : H t = some (.tup [.int (k : Int), .int c])) : PrsAt H [t] [(k, c)] := by
  refine ⟨rfl, fun i u x h1 h2 => ?_⟩
  match i, h1, h2 with
  | 0, h1, h2 =>
    cases h1
    cases h2
    exact h
  | n + 1, h1, _ => cases h1
theorem PrsAt.get {H : Hp} {ts : List Addr} {L : List (Nat × Int)} (A : PrsAt H ts L) {i : Nat} {t : Addr} (h : ts[i]? = some t) : ∃ x, L[i]? = some x ∧ H t = some (.tup [.int (x.1 : Int), .int x.2]) := by
  have hi : i < L.length := by
    rw [← A.1]
    exact (List.getElem?_eq_some_iff.mp h).1
  exact ⟨L[i], List.getElem?_eq_getElem hi, A.2 i t _ h (List.getElem?_eq_getElem hi)⟩
/-- pairs written anew: an object that holds no tuple -/
theorem PrsAt.put {H : Hp} {ts : List Addr} {L : List (Nat × Int)} {p : Addr} {o u : HO} (A : PrsAt H ts L) (hp : H p = some u) (hu : ∀ xs, u ≠ .tup xs) : PrsAt (upd H p o) ts L := by
  refine ⟨A.1, fun i t x h1 h2 => ?_⟩
  have h := A.2 i t x h1 h2
  have n : t ≠ p := ne_of h hp (fun z => hu _ z.symm)
  rw [upd_ne n]
  exact h
def rkP (B : Bk) (h r : Int) (i : Nat) : List (Nat × Int) := (rankUp B h r i).map fun k => (k, amt B k)
theorem rankUp_succ (B : Bk) (h r : Int) (i : Nat) : rankUp B h r (i + 1) = rankUp B h r i ++ (if (B.clm i).d = h ∧ (B.clm i).r = r then [i] else []) := by
  unfold rankUp
  rw [range_filter_succ]
  congr 1
  by_cases e : (B.clm i).d = h ∧ (B.clm i).r = r
  · rw [if_pos e, if_pos (by rw [decide_eq_true e.1, decide_eq_true e.2]; rfl)]
  · rw [if_neg e]
    by_cases e1 : (B.clm i).d = h
    · have e2 : ¬ (B.clm i).r = r := fun z => e ⟨e1, z⟩
      rw [if_neg (by rw [decide_eq_false e2, Bool.and_false]; decide)]
    · rw [if_neg (by rw [decide_eq_false e1, Bool.false_and]; decide)]
theorem valV_ranks {L : Int → Addr} {r : Int} : ∀ {rs : List Int}, valV (rs.map fun r => ((Sum.inl r : Key), V.ref (L r))) (Sum.inl r) = if r ∈ rs then some (V.ref (L r)) else none
  | [] => rfl
  | x :: rs => by
    rw [List.map_cons]
    by_cases e : x = r
    · subst e
      rw [valV_pos (by rfl), if_pos List.mem_cons_self]
    · rw [valV_neg (fun z => e (Sum.inl.inj z)), valV_ranks (rs := rs)]
      by_cases h : r ∈ rs
      · rw [if_pos h, if_pos (List.mem_cons_of_mem _ h)]
      · rw [if_neg h, if_neg (fun z => by
          rcases List.mem_cons.mp z with q | q
          · exact e q.symm
          · exact h q)]
/-- numbers, as they stand in a list -/
def numV (l : List Nat) : List V := l.map fun k : Nat => V.int (k : Int)
def amoV (B : Bk) (l : List Nat) : List V := (l.map (amt B)).map V.int
theorem numV_app (l : List Nat) (i : Nat) : numV (l ++ [i]) = numV l ++ [.int (i : Int)] := by
  unfold numV
  rw [List.map_append]
  rfl
theorem amoV_app (B : Bk) (l : List Nat) (i : Nat) : amoV B (l ++ [i]) = amoV B l ++ [.int (amt B i)] := by
  unfold amoV
  rw [List.map_append, List.map_append]
  rfl
theorem numV_len (l : List Nat) : (numV l).length = l.length := List.length_map _
theorem amoV_len (B : Bk) (l : List Nat) : (amoV B l).length = l.length := by
  unfold amoV
  rw [List.length_map, List.length_map]
/-- the dict of ranks: pairs of lists, of the claims C -/
structure RkH (H0 H : Hp) (d : Addr) (B : Bk) (rs : List Int) (T N M : Int → Addr) (C : Int → List Nat) : Prop where
  dic : H d = some (.dK (rs.map fun r => ((Sum.inl r : Key), V.ref (T r))))
  nd : rs.Nodup
  injN : ∀ r, r ∈ rs → ∀ r', r' ∈ rs → N r = N r' → r = r'
  injM : ∀ r, r ∈ rs → ∀ r', r' ∈ rs → M r = M r' → r = r'
  ne : ∀ r, r ∈ rs → ∀ r', r' ∈ rs → N r ≠ M r'
  frd : H0 d = none
  frT : ∀ r, r ∈ rs → H0 (T r) = none
  frN : ∀ r, r ∈ rs → H0 (N r) = none
  frM : ∀ r, r ∈ rs → H0 (M r) = none
  tup : ∀ r, r ∈ rs → H (T r) = some (.tup [.ref (N r), .ref (M r)])
  num : ∀ r, r ∈ rs → H (N r) = some (.lst (numV (C r)))
  amo : ∀ r, r ∈ rs → H (M r) = some (.lst (amoV B (C r)))
theorem RkH.same {H0 H H' : Hp} {d : Addr} {B : Bk} {rs : List Int} {T N M : Int → Addr} {C : Int → List Nat} (R : RkH H0 H d B rs T N M C) (s : Same H H') : RkH H0 H' d B rs T N M C :=
  ⟨s _ _ R.dic, R.nd, R.injN, R.injM, R.ne, R.frd, R.frT, R.frN, R.frM, fun r h => s _ _ (R.tup r h), fun r h => s _ _ (R.num r h), fun r h => s _ _ (R.amo r h)⟩
theorem RkH.congr {H0 H : Hp} {d : Addr} {B : Bk} {rs : List Int} {T N M : Int → Addr} {C C' : Int → List Nat} (R : RkH H0 H d B rs T N M C) (e : ∀ r, r ∈ rs → C r = C' r) : RkH H0 H d B rs T N M C' :=
  ⟨R.dic, R.nd, R.injN, R.injM, R.ne, R.frd, R.frT, R.frN, R.frM, R.tup, fun r h => by rw [← e r h]; exact R.num r h, fun r h => by rw [← e r h]; exact R.amo r h⟩
/-- one more number and amount for a rank that is there -/
theorem RkH.app {H0 H : Hp} {d : Addr} {B : Bk} {rs : List Int} {T N M : Int → Addr} {C : Int → List Nat} (R : RkH H0 H d B rs T N M C) {r : Int} (hr : r ∈ rs) (i : Nat) :
    RkH H0 (upd (upd H (N r) (.lst (numV (C r) ++ [.int (i : Int)]))) (M r) (.lst (amoV B (C r) ++ [.int (amt B i)]))) d B rs T N M (fun r' => if r' = r then C r ++ [i] else C r') := by
  have hN := R.num r hr
  have hM := R.amo r hr
  have nm := R.ne r hr r hr
  refine ⟨?_, R.nd, R.injN, R.injM, R.ne, R.frd, R.frT, R.frN, R.frM, fun r' h => ?_, fun r' h => ?_, fun r' h => ?_⟩
  · rw [upd_ne (ne_of R.dic hM (fun z => nomatch z)), upd_ne (ne_of R.dic hN (fun z => nomatch z))]
    exact R.dic
  · rw [upd_ne (ne_of (R.tup r' h) hM (fun z => nomatch z)), upd_ne (ne_of (R.tup r' h) hN (fun z => nomatch z))]
    exact R.tup r' h
  · rw [upd_ne (R.ne r' h r hr)]
    by_cases e : r' = r
    · subst e
      rw [upd_same, if_pos rfl, numV_app]
    · rw [upd_ne (fun z => e (R.injN r' h r hr z)), if_neg e]
      exact R.num r' h
  · by_cases e : r' = r
    · subst e
      rw [upd_same, if_pos rfl, amoV_app]
    · rw [upd_ne (fun z => e (R.injM r' h r hr z)), upd_ne (fun z => R.ne r hr r' h z.symm), if_neg e]
      exact R.amo r' h
/-- a rank's first lists -/
theorem RkH.add {H0 H Hc : Hp} {d t l1 l2 : Addr} {B : Bk} {rs : List Int} {T N M : Int → Addr} {C : Int → List Nat} (R : RkH H0 H d B rs T N M C) (s0 : Same H0 H) (s : Same H Hc) {r : Int} (hr : ¬ r ∈ rs) (n1 : H l1 = none) (n2 : H l2 = none) (nt : H t = none)
    (ht : Hc t = some (.tup [.ref l1, .ref l2])) (h1 : Hc l1 = some (.lst [])) (h2 : Hc l2 = some (.lst [])) (ne : l1 ≠ l2) :
    RkH H0 (upd Hc d (.dK (rs.map (fun r => ((Sum.inl r : Key), V.ref (T r))) ++ [(Sum.inl r, V.ref t)]))) d B (rs ++ [r]) (fun r' => if r' = r then t else T r') (fun r' => if r' = r then l1 else N r') (fun r' => if r' = r then l2 else M r') (fun r' => if r' = r then [] else C r') := by
  have fr : ∀ a, H a = none → H0 a = none := fun a h => s0.free h
  have mem : ∀ {r'}, r' ∈ rs ++ [r] → r' ≠ r → r' ∈ rs := fun {r'} h e => by
    rcases List.mem_append.mp h with q | q
    · exact q
    · exact absurd (List.mem_singleton.mp q) e
  have nN : ∀ r', r' ∈ rs → N r' ≠ l1 ∧ N r' ≠ l2 := fun r' h => ⟨ne_of_none (R.num r' h) n1, ne_of_none (R.num r' h) n2⟩
  have nM : ∀ r', r' ∈ rs → M r' ≠ l1 ∧ M r' ≠ l2 := fun r' h => ⟨ne_of_none (R.amo r' h) n1, ne_of_none (R.amo r' h) n2⟩
  have hd := s _ _ R.dic
  have neq : ∀ r', r' ∈ rs → ¬ r' = r := fun r' h z => hr (z ▸ h)
  refine ⟨?_, ?_, fun a ha b hb z => ?_, fun a ha b hb z => ?_, fun a ha b hb => ?_, R.frd, fun a ha => ?_, fun a ha => ?_, fun a ha => ?_, fun a ha => ?_, fun a ha => ?_, fun a ha => ?_⟩
  · rw [upd_same, List.map_append]
    congr 3
    · exact List.map_congr_left fun r' h => by rw [if_neg (neq r' h)]
    · show _ = [((Sum.inl r : Key), V.ref (if r = r then t else T r))]
      rw [if_pos rfl]
  · refine List.nodup_append.mpr ⟨R.nd, by simp, fun a ha b hb z => ?_⟩
    rw [List.mem_singleton.mp hb] at z
    exact hr (z ▸ ha)
  · by_cases c1 : a = r <;> by_cases c2 : b = r
    · rw [c1, c2]
    · rw [if_pos c1, if_neg c2] at z
      exact absurd z.symm (nN b (mem hb c2)).1
    · rw [if_neg c1, if_pos c2] at z
      exact absurd z (nN a (mem ha c1)).1
    · rw [if_neg c1, if_neg c2] at z
      exact R.injN a (mem ha c1) b (mem hb c2) z
  · by_cases c1 : a = r <;> by_cases c2 : b = r
    · rw [c1, c2]
    · rw [if_pos c1, if_neg c2] at z
      exact absurd z.symm (nM b (mem hb c2)).2
    · rw [if_neg c1, if_pos c2] at z
      exact absurd z (nM a (mem ha c1)).2
    · rw [if_neg c1, if_neg c2] at z
      exact R.injM a (mem ha c1) b (mem hb c2) z
  · by_cases c1 : a = r <;> by_cases c2 : b = r
    · rw [if_pos c1, if_pos c2]
      exact ne
    · rw [if_pos c1, if_neg c2]
      exact (nM b (mem hb c2)).1.symm
    · rw [if_neg c1, if_pos c2]
      exact (nN a (mem ha c1)).2
    · rw [if_neg c1, if_neg c2]
      exact R.ne a (mem ha c1) b (mem hb c2)
  · by_cases c : a = r
    · rw [if_pos c]; exact fr _ nt
    · rw [if_neg c]; exact R.frT a (mem ha c)
  · by_cases c : a = r
    · rw [if_pos c]; exact fr _ n1
    · rw [if_neg c]; exact R.frN a (mem ha c)
  · by_cases c : a = r
    · rw [if_pos c]; exact fr _ n2
    · rw [if_neg c]; exact R.frM a (mem ha c)
  · by_cases c : a = r
    · rw [if_pos c, if_pos c, if_pos c, upd_ne (ne_of ht hd (fun z => nomatch z))]
      exact ht
    · rw [if_neg c, if_neg c, if_neg c]
      have q := s _ _ (R.tup a (mem ha c))
      rw [upd_ne (ne_of q hd (fun z => nomatch z))]
      exact q
  · by_cases c : a = r
    · rw [if_pos c, if_pos c, upd_ne (ne_of h1 hd (fun z => nomatch z)), h1]
      rfl
    · rw [if_neg c, if_neg c]
      have q := s _ _ (R.num a (mem ha c))
      rw [upd_ne (ne_of q hd (fun z => nomatch z))]
      exact q
  · by_cases c : a = r
    · rw [if_pos c, if_pos c, upd_ne (ne_of h2 hd (fun z => nomatch z)), h2]
      rfl
    · rw [if_neg c, if_neg c]
      have q := s _ _ (R.amo a (mem ha c))
      rw [upd_ne (ne_of q hd (fun z => nomatch z))]
      exact q
theorem upd_comm {H : Hp} {a b : Addr} {o u : HO} (h : a ≠ b) : upd (upd H a o) b u = upd (upd H b u) a o := by
  funext c
  by_cases h1 : c = a
  · subst h1
    rw [upd_ne h, upd_same, upd_same]
  · by_cases h2 : c = b
    · subst h2
      rw [upd_same, upd_ne h1, upd_same]
    · rw [upd_ne h2, upd_ne h1, upd_ne h1, upd_ne h2]
/-- the ranks that are there, rising -/
def present (B : Bk) (h : Int) : List Int := ranks9.filter fun r => !(ofRank B h r).isEmpty
theorem present_mem {B : Bk} (G : Good B) {h r : Int} : r ∈ present B h ↔ ofRank B h r ≠ [] := by
  unfold present
  rw [List.mem_filter]
  constructor
  · rintro ⟨_, h2⟩ z
    rw [z] at h2
    simp at h2
  · intro h2
    obtain ⟨k, hk⟩ := List.exists_mem_of_ne_nil _ h2
    have q := mem_rankUp.mp hk
    refine ⟨?_, by cases e : ofRank B h r with | nil => exact absurd e h2 | cons _ _ => rfl⟩
    rw [← q.2.2]
    exact ranks9_mem G q.1
theorem lt_of_le_nodup {l : List Int} (h : l.Pairwise (· ≤ ·)) (hn : l.Nodup) : l.Pairwise (· < ·) := by
  refine List.Pairwise.imp₂ (fun a b h1 h2 => ?_) h hn
  have h3 : a ≠ b := h2
  omega
theorem present_eq {B : Bk} (G : Good B) {h : Int} {rs ys : List Int} (nd : rs.Nodup) (hm : ∀ r, r ∈ rs ↔ ofRank B h r ≠ []) (hp : ys.Perm rs) (hs : ys.Pairwise (· ≤ ·)) : ys = present B h := by
  refine sorted_ext (f := id) (lt_of_le_nodup hs (hp.nodup_iff.mpr nd)) ?_ fun r => (hp.mem_iff.trans (hm r)).trans (present_mem G).symm
  exact (show ranks9.Pairwise (· < ·) by decide).sublist List.filter_sublist
theorem present_len (B : Bk) (h : Int) : (present B h).length ≤ 9 := List.length_filter_le _ _
/-- the pair at a reference -/
def pairAt (H : Hp) : V → Int × Int
  | .ref t => match H t with
    | some (.tup [.int a, .int b]) => (a, b)
    | _ => (0, 0)
  | _ => (0, 0)
theorem pairAt_of {H : Hp} {t : Addr} {a b : Int} (h : H t = some (.tup [.int a, .int b])) : pairAt H (.ref t) = (a, b) := by
  simp only [pairAt, h]
theorem lex_fst {a b : Int × Int} (h : SrtO.lexB b a = false) (hn : a.1 ≠ b.1) : a.1 < b.1 := by
  have q := SrtO.lexB_no.mp h
  omega
theorem list_refs {ys : List V} (h : ∀ y ∈ ys, ∃ t, y = V.ref t) : ∃ ts : List Addr, ys = ts.map V.ref := by
  induction ys with
  | nil => exact ⟨[], rfl⟩
  | cons y r ih =>
    obtain ⟨t, e⟩ := h y List.mem_cons_self
    obtain ⟨ts, e2⟩ := ih fun z hz => h z (List.mem_cons_of_mem _ hz)
    exact ⟨t :: ts, by rw [e, e2]; rfl⟩
theorem ref_perm {ts us : List Addr} (h : (us.map V.ref).Perm (ts.map V.ref)) : us.Perm ts := by
  have f : ∀ l : List Addr, (l.map V.ref).filterMap (fun v => match v with | V.ref t => some t | _ => none) = l := fun l => by
    induction l with
    | nil => rfl
    | cons x r ih =>
      rw [List.map_cons, List.filterMap_cons]
      simp only [ih]
  have := h.filterMap (fun v => match v with | V.ref t => some t | _ => none)
  rw [f, f] at this
  exact this
/-- tuples in another arrangement are pairs in another arrangement -/
theorem prs_perm {H : Hp} {ts : List Addr} {L : List (Nat × Int)} (A : PrsAt H ts L) {us : List Addr} (h : us.Perm ts) : ∃ M : List (Nat × Int), M.Perm L ∧ PrsAt H us M := by
  have e : ∃ f : Addr → Nat × Int, L = ts.map f ∧ ∀ t ∈ ts, H t = some (.tup [.int ((f t).1 : Int), .int (f t).2]) := by
    refine ⟨fun t => ((pairAt H (.ref t)).1.toNat, (pairAt H (.ref t)).2), ?_, fun t ht => ?_⟩
    · apply List.ext_getElem?
      intro i
      rw [List.getElem?_map]
      by_cases hi : i < ts.length
      · have h1 := List.getElem?_eq_getElem hi
        have hj : i < L.length := by rw [← A.1]; exact hi
        have h2 := List.getElem?_eq_getElem hj
        rw [h1, h2]
        have q := pairAt_of (A.2 i _ _ h1 h2)
        show some L[i] = some ((pairAt H (.ref ts[i])).1.toNat, (pairAt H (.ref ts[i])).2)
        rw [q]
        rfl
      · rw [List.getElem?_eq_none (by rw [← A.1]; omega), List.getElem?_eq_none (by omega)]
        rfl
    · obtain ⟨i, hi, e⟩ := List.mem_iff_getElem.mp ht
      have h1 : ts[i]? = some t := by rw [List.getElem?_eq_getElem hi, e]
      obtain ⟨x, _, h2⟩ := A.get h1
      have q := pairAt_of h2
      show H t = some (.tup [.int ((pairAt H (V.ref t)).1.toNat : Int), .int (pairAt H (V.ref t)).2])
      rw [q]
      exact h2
  obtain ⟨f, e1, e2⟩ := e
  refine ⟨us.map f, by rw [e1]; exact h.map f, by rw [List.length_map], fun i t x h1 h2 => ?_⟩
  rw [List.getElem?_map, h1] at h2
  cases h2
  exact e2 t (h.mem_iff.mp (List.mem_of_getElem? h1))

theorem sq_aug {te : TE} {tz : TS} {D : Ends} {σ : L2.St} {H : Hp} {i : Nat} {f : Int → Int → Int} {a b : Int} (hx : σ[i]? = some (some (.int a))) (h : ∀ Q : VK, Q (.int b) H → te σ H Q) (k : tz D (σ.set i (some (.int (f a b)))) H) : tSeq (tAug i te (ipI f)) tz D σ H :=
  ⟨.int a, hx, h _ ⟨a, b, rfl, rfl, k⟩⟩
/-- debts by rank, as they stand -/
structure DbtAt (H0 H : Hp) (p : Addr) (B : Bk) (x : Int) : Prop where
  frp : H0 p = none
  at_ : ∃ (us : List Addr) (N M : Nat → Addr), H p = some (.lst (us.map V.ref)) ∧ us.length = (present B x).length ∧
    ∀ j t, us[j]? = some t → H0 t = none ∧ H0 (N j) = none ∧ H0 (M j) = none ∧ H t = some (.tup [.ref (N j), .ref (M j)]) ∧ H (N j) = some (.lst (numV (ofRank B x (g (present B x) j)))) ∧ H (M j) = some (.lst (amoV B (ofRank B x (g (present B x) j))))
theorem DbtAt.off {S : Addr → Prop} {H0 H H' : Hp} {p : Addr} {B : Bk} {x : Int} (A : DbtAt H0 H p B x) (e : Off S H H') (hS : ∀ a, S a → H0 a ≠ none) : DbtAt H0 H' p B x := by
  have k : ∀ a o, H0 a = none → H a = some o → H' a = some o := fun a o h1 h2 => e a o h2 fun z => hS a z h1
  obtain ⟨us, N, M, h1, h2, h3⟩ := A.at_
  refine ⟨A.frp, us, N, M, k _ _ A.frp h1, h2, fun j t ht => ?_⟩
  obtain ⟨a1, a2, a3, a4, a5, a6⟩ := h3 j t ht
  exact ⟨a1, a2, a3, k _ _ a1 a4, k _ _ a2 a5, k _ _ a3 a6⟩
theorem DbtAt.same {H0 H H' : Hp} {p : Addr} {B : Bk} {x : Int} (A : DbtAt H0 H p B x) (e : Same H H') : DbtAt H0 H' p B x := A.off (S := fun _ => False) (fun b o h _ => e b o h) fun _ z => z.elim
theorem DbtAt.less {H0 H1 H : Hp} {p : Addr} {B : Bk} {x : Int} (A : DbtAt H1 H p B x) (e : ∀ a, H1 a = none → H0 a = none) : DbtAt H0 H p B x := by
  obtain ⟨us, N, M, h1, h2, h3⟩ := A.at_
  refine ⟨e _ A.frp, us, N, M, h1, h2, fun j t ht => ?_⟩
  obtain ⟨a1, a2, a3, a4, a5, a6⟩ := h3 j t ht
  exact ⟨e _ a1, e _ a2, e _ a3, a4, a5, a6⟩
/-- the claims of a book alone -/
structure ClmG (B : Bk) : Prop where
  cl : ∀ q ∈ B.claims, GoodC (B.cash.length : Int) q
  m1 : B.claims.length ≤ 24
def spDebts (K : PySem.W.Frag) : Sp := fun vs H Q _ => ∃ (cl : Addr) (ts : List Addr) (B : Bk) (x : Int), vs = [.ref cl, .int x] ∧ SqT K H cl (ts.map V.ref) ∧ ClmsAt K H ts B.claims ∧ Good B ∧ ∀ p H', Same H H' → DbtAt H H' p B x → Q (.ref p) H'
def spPaidW (K : PySem.W.Frag) : Sp := fun vs H Q _ => ∃ (H0 : Hp) (p : Addr) (B : Bk) (x m : Int), vs = [.ref p, .int m] ∧ DbtAt H0 H p B x ∧ Good B ∧ ∀ q us H', H q = none → Same H H' → H' q = some (.lst (us.map V.ref)) → PrsAt H' us (payFrom B x ranks9 m) → Q (.ref q) H'
def spPaidBy (K : PySem.W.Frag) : Sp := fun vs H Q _ => ∃ (b ca cl : Addr) (ts : List Addr) (B : Bk) (x m : Int), vs = [.ref b, .int x, .int m] ∧ BookAt K H b ca cl ts B ∧ Good B ∧ 0 ≤ x ∧ x < B.cash.length ∧
  ∀ p us H', H p = none → Same H H' → H' p = some (.lst (us.map V.ref)) → PrsAt H' us (payList B x m) → Q (.ref p) H'


end Rf
namespace Rf
open PySem PySem.Spec PyProof.Rows L2
/-! ### the program's order -/
/-- the dict of who pays on -/
def OnwD (B : Bk) (ns : List Nat) (kvs : List (Key × V)) : Prop := ∀ x : Int, valV kvs (.inl x) = (onw B ns x).map fun k => V.int (k : Int)
theorem onw_snoc (B : Bk) (ns : List Nat) (k : Nat) (x : Int) : onw B (ns ++ [k]) x = if (B.clm k).d = x then some k else onw B ns x := by
  unfold onw
  rw [List.filter_append]
  by_cases e : (B.clm k).d = x
  · rw [if_pos e, List.filter_cons, if_pos (decide_eq_true e), List.filter_nil, List.getLast?_concat]
  · rw [if_neg e, List.filter_cons, if_neg (by rw [decide_eq_false e]; decide), List.filter_nil, List.append_nil]
theorem OnwD.put {B : Bk} {ns : List Nat} {kvs : List (Key × V)} (A : OnwD B ns kvs) (k : Nat) : OnwD B (ns ++ [k]) (putK kvs (.inl (B.clm k).d) (.int (k : Int))) := fun x => by
  rw [valV_put, onw_snoc]
  by_cases e : (B.clm k).d = x
  · subst e
    rw [if_pos rfl, if_pos rfl]
    rfl
  · rw [if_neg (fun z => e (Sum.inl.inj z).symm), if_neg e]
    exact A x
def MvAt (H : Hp) (u : Addr) : Mv → Prop
  | .pay k c => H u = some (.tup [.str "pay", .int (k : Int), .int c])
  | .ring ks c => ∃ t, H u = some (.tup [.str "ring", .ref t, .int c]) ∧ H t = some (.tup (numV ks))
theorem MvAt.same {H H' : Hp} {u : Addr} {m : Mv} (A : MvAt H u m) (s : Same H H') : MvAt H' u m := by
  cases m with
  | pay k c => exact s _ _ A
  | ring ks c =>
    obtain ⟨t, a, b⟩ := A
    exact ⟨t, s _ _ a, s _ _ b⟩
theorem MvAt.put {H : Hp} {u : Addr} {m : Mv} {p : Addr} {o : HO} {ys : List V} (A : MvAt H u m) (hp : H p = some (.lst ys)) : MvAt (upd H p o) u m := by
  cases m with
  | pay k c =>
    show (upd H p o) u = _
    rw [upd_ne (ne_of A hp (fun z => nomatch z))]
    exact A
  | ring ks c =>
    obtain ⟨t, a, b⟩ := A
    refine ⟨t, ?_, ?_⟩
    · rw [upd_ne (ne_of a hp (fun z => nomatch z))]
      exact a
    · rw [upd_ne (ne_of b hp (fun z => nomatch z))]
      exact b
def MvsAt (H : Hp) (us : List Addr) (ms : List Mv) : Prop := us.length = ms.length ∧ ∀ (i : Nat) (u : Addr) (m : Mv), us[i]? = some u → ms[i]? = some m → MvAt H u m
theorem MvsAt.same {H H' : Hp} {us : List Addr} {ms : List Mv} (A : MvsAt H us ms) (s : Same H H') : MvsAt H' us ms := ⟨A.1, fun i u m h1 h2 => (A.2 i u m h1 h2).same s⟩
theorem MvsAt.put {H : Hp} {us : List Addr} {ms : List Mv} {p : Addr} {o : HO} {ys : List V} (A : MvsAt H us ms) (hp : H p = some (.lst ys)) : MvsAt (upd H p o) us ms := ⟨A.1, fun i u m h1 h2 => (A.2 i u m h1 h2).put hp⟩
theorem MvsAt.nil (H : Hp) : MvsAt H [] [] := ⟨rfl, fun i u m h => by cases h⟩
theorem MvsAt.app {H : Hp} {us vs : List Addr} {L M : List Mv} (A : MvsAt H us L) (C : MvsAt H vs M) : MvsAt H (us ++ vs) (L ++ M) := by
  refine ⟨by rw [List.length_append, List.length_append, A.1, C.1], fun i t x h1 h2 => ?_⟩
  by_cases hi : i < us.length
  · rw [List.getElem?_append_left hi] at h1
    rw [List.getElem?_append_left (by rw [← A.1]; exact hi)] at h2
    exact A.2 i t x h1 h2
  · rw [List.getElem?_append_right (by omega)] at h1
    rw [List.getElem?_append_right (by rw [← A.1]; omega), ← A.1] at h2
    exact C.2 _ t x h1 h2
theorem MvsAt.one {H : Hp} {u : Addr} {m : Mv} (h : MvAt H u m) : MvsAt H [u] [m] := by
  refine ⟨rfl, fun i v x h1 h2 => ?_⟩
  match i, h1, h2 with
  | 0, h1, h2 =>
    cases h1
    cases h2
    exact h
  | n + 1, h1, _ => cases h1
theorem MvsAt.get {H : Hp} {us : List Addr} {L : List Mv} (A : MvsAt H us L) {i : Nat} {u : Addr} (h : us[i]? = some u) : ∃ m, L[i]? = some m ∧ MvAt H u m := by
  have hi : i < L.length := by
    rw [← A.1]
    exact (List.getElem?_eq_some_iff.mp h).1
  exact ⟨L[i], List.getElem?_eq_getElem hi, A.2 i u _ h (List.getElem?_eq_getElem hi)⟩
theorem numV_get {l : List Nat} {j : Nat} {x : V} (h : (numV l)[j]? = some x) : ∃ k, l[j]? = some k ∧ x = .int (k : Int) := by
  unfold numV at h
  rw [List.getElem?_map] at h
  cases e : l[j]? with
  | none => rw [e] at h; cases h
  | some k => rw [e] at h; exact ⟨k, rfl, (Option.some.inj h).symm⟩
theorem numV_ints (l : List Nat) : numV l = (l.map fun k : Nat => (k : Int)).map V.int := by
  unfold numV
  rw [List.map_map]
  rfl
theorem nums_inj {l m : List Nat} : (l.map fun k : Nat => (k : Int)) = m.map (fun k : Nat => (k : Int)) ↔ l = m := List.map_inj_right fun a b z => by exact Int.ofNat.inj z
theorem idx_first {x : Int} : ∀ {l : List Int} {m : Nat}, m < l.idxOf x → l[m]? ≠ some x
  | [], _, h => absurd h (Nat.not_lt_zero _)
  | a :: l, m, h => by
    rw [List.idxOf_cons] at h
    by_cases e : (a == x) = true
    · rw [e] at h
      exact absurd h (Nat.not_lt_zero _)
    · have e' : (a == x) = false := by simpa using e
      rw [e'] at h
      cases m with
      | zero => exact fun z => e (by rw [show a = x from Option.some.inj z]; exact beq_self_eq_true x)
      | succ m => exact idx_first (l := l) (Nat.lt_of_succ_lt_succ h)
theorem cut_drop {l : List Nat} {i : Nat} (h : i < l.length) : cutV (numV l) (some (i : Int)) none = numV (l.drop i) := by
  unfold cutV
  rw [HT.sIx_nat, HT.sIx_none, numV_len, Nat.min_eq_left (Nat.le_of_lt h), List.take_of_length_le (by rw [List.length_drop, numV_len]; exact Nat.le_refl _)]
  unfold numV
  rw [List.map_drop]
structure ClAt (K : PySem.W.Frag) (H : Hp) (cl : Addr) (ts : List Addr) (B : Bk) : Prop where
  t : SqT K H cl (ts.map V.ref)
  q : ClmsAt K H ts B.claims
theorem ClAt.same {K : PySem.W.Frag} {H H' : Hp} {cl : Addr} {ts : List Addr} {B : Bk} (A : ClAt K H cl ts B) (s : Same H H') : ClAt K H' cl ts B := ⟨Same.tup s A.t, A.q.same s⟩
theorem ClAt.get {K : PySem.W.Frag} {H : Hp} {cl : Addr} {ts : List Addr} {B : Bk} (A : ClAt K H cl ts B) {k : Nat} (hk : k < B.claims.length) : ∃ t, atI (ts.map V.ref) (k : Int) = some (.ref t) ∧ SqT K H t [.int (B.clm k).d, .int (B.clm k).c, .int (B.clm k).a, .int (B.clm k).r] := by
  have h1 : k < ts.length := by rw [A.q.1]; exact hk
  refine ⟨ts[k], atI_nat (j := k) ?_, A.q.2 k _ _ (List.getElem?_eq_getElem h1) (Bk.clm_get hk)⟩
  rw [List.getElem?_map, List.getElem?_eq_getElem h1]
  rfl
def spWayRound (K : PySem.W.Frag) : Sp := fun vs H Q _ => ∃ (cl d : Addr) (ts : List Addr) (B : Bk) (ns : List Nat) (n : Nat) (kvs : List (Key × V)), vs = [.ref cl, .ref d, .int (n : Int)] ∧ ClAt K H cl ts B ∧ Good B ∧ H d = some (.dK kvs) ∧ OnwD B ns kvs ∧ (∀ k ∈ ns, k < B.claims.length) ∧ keptOf B ns = ns ∧ n ∈ ns ∧
  ∀ q H', H q = none → Same H H' → H' q = some (.lst (numV (wayGo B ns (B.cash.length + 1) [n] (B.clm n).c))) → Q (.ref q) H'
def spRingIn (K : PySem.W.Frag) : Sp := fun vs H Q _ => ∃ (cl p : Addr) (ts : List Addr) (B : Bk) (P : List Int), vs = [.ref cl, .ref p] ∧ ClAt K H cl ts B ∧ Good B ∧ SqL K H p (P.map V.int) ∧ P.length = B.claims.length ∧
  ∀ q H', H q = none → Same H H' → H' q = some (.lst (numV (ringIn B (P.length + 1) (numbersOf P)))) → Q (.ref q) H'
def numsUp (P : List Int) (i : Nat) : List Nat := (List.range i).filter fun k => decide (0 < g P k)
theorem numsUp_succ (P : List Int) (i : Nat) : numsUp P (i + 1) = numsUp P i ++ (if 0 < g P i then [i] else []) := by
  unfold numsUp
  rw [range_filter_succ]
  by_cases e : 0 < g P i
  · rw [if_pos e, if_pos (decide_eq_true e)]
  · rw [if_neg e, if_neg (by rw [decide_eq_false e]; decide)]
theorem numsUp_len (P : List Int) (i : Nat) : (numsUp P i).length ≤ i := by
  unfold numsUp
  have := List.length_filter_le (fun k => decide (0 < g P k)) (List.range i)
  rw [List.length_range] at this
  exact this
section
variable {P : Program} {w : World} {K : PySem.W.Frag} {mg : Str → Option Value} {base : Heap}
end


end Rf
namespace Rf
open PySem PySem.Spec PyProof.Rows L2
/-! ### the program's playing of moves that fit -/
def tLenSetT (K : PySem.W.Frag) (ta : TE) : TE := fun σ H Q => ta σ H fun x H1 => ∃ (l : Addr) (ns : List Int), x = .ref l ∧ SqT K H1 l (ns.map V.int) ∧ ns.Nodup ∧ ns.length ≤ 4000 ∧ Q (.int (ns.length : Nat)) H1
theorem pe_lenSetT {X : Cx} {a : Expr} {ta : TE} {p p2 q pos : Pos} (hc : X.calm = true) (hg : Gl X "len") (hm : X.mg "len" = none) (hg2 : Gl X "set") (hm2 : X.mg "set" = none) (ha : PE X a ta)
    (na : starEach [a] X.env = (false, eval a X.env) :: starEach [] X.env := by rfl) : PE X (.Call (.Name "len" p) [.Call (.Name "set" p2) [a] [] q] [] pos) (tLenSetT X.K ta) := by
  refine ⟨fun pins s σ H Q I h => ?_⟩
  refine Call_ (ld_blt I hg hm boot_len ?_)
  refine PyProof.Rows.callWith_builtin1 (PyProof.Rows.args_cons ?_ rfl) rfl rfl
  refine Call_ (ld_blt I hg2 hm2 boot_set ?_)
  refine PyProof.Rows.callWith_type1 (PyProof.Rows.args_cons (thn (ha.run pins s σ H _ I h) fun v s1 ⟨x, H1, I1, r1, q1⟩ => PyProof.Rows.args_nil ?_) na) na rfl
  obtain ⟨l, ns, rfl, hq, hnd, hl, q1⟩ := q1
  cases r1
  obtain ⟨its, r, pl, hz⟩ := I1.tuple hq
  refine call_set_tupI ns (I1.ok.hd hc) pl (by simpa using RZ.intsAre_vals r) (by unfold scanBound; omega) fun h' tk c hS hcn hk => ?_
  refine PyProof.Rows.args_nil ?_
  obtain ⟨o, es, ep, t, ho, hex, hd, _, hnk, hmem, hsz, hf, hn, _⟩ := hS
  have e : es.size = ns.length := by
    have q1 := nodup_sub_len hnk hnd fun x hx => of_decide_eq_true ((hmem x).mpr hx)
    have q2 := nodup_sub_len hnd hnk fun x hx => (hmem x).mp (decide_eq_true hx)
    rw [List.length_map, Array.length_toList] at q1 q2
    exact Nat.le_antisymm q1 q2
  have I2 : Inv X pins σ H1 { s1 with heap := h', toks := tk } := I1.kept fun b o e => hk b o e
  exact call_len_set ho hex hd hf (by rw [e]; omega) ⟨.int ns.length, H1, I2.tok _, ⟨_, by rw [e]⟩, q1⟩
theorem ring_next {B : Bk} {ks : List Nat} (R : IsRing B ks) {i : Nat} {a b : Nat} (ha : ks[i]? = some a) (hb : ks[i + 1]? = some b) : (B.clm a).c = (B.clm b).d := by
  have h1 : (csOf B ks)[i]? = some (B.clm a).c := by
    unfold csOf
    rw [List.getElem?_map, ha]
    rfl
  have hi : i + 1 < ks.length := (List.getElem?_eq_some_iff.mp hb).1
  rw [R.turn, List.getElem?_append_left (by rw [List.length_drop, dsOf_len]; omega), List.getElem?_drop] at h1
  have h2 : (dsOf B ks)[1 + i]? = some (B.clm b).d := by
    unfold dsOf
    rw [List.getElem?_map, Nat.add_comm, hb]
    rfl
  rw [h2] at h1
  exact (Option.some.inj h1).symm
theorem ring_last {B : Bk} {ks : List Nat} (R : IsRing B ks) : ∃ ini a b, ks = ini ++ [a] ∧ ks[0]? = some b ∧ (B.clm a).c = (B.clm b).d := by
  have hne : ks ≠ [] := fun z => by have := R.two; rw [z] at this; exact absurd this (by decide)
  obtain ⟨b, l, hb⟩ := List.exists_cons_of_ne_nil hne
  obtain ⟨ini, a, ha⟩ : ∃ ini a, ks = ini ++ [a] := ⟨ks.dropLast, ks.getLast hne, (List.dropLast_concat_getLast hne).symm⟩
  refine ⟨ini, a, b, ha, by rw [hb]; rfl, ?_⟩
  have t := R.turn
  have e1 : csOf B ks = csOf B ini ++ [(B.clm a).c] := by rw [ha]; exact List.map_append
  have e2 : (dsOf B ks).take 1 = [(B.clm b).d] := by rw [hb]; rfl
  rw [e1, e2] at t
  exact (List.cons.inj ((List.append_inj' t rfl).2)).1
theorem ring_short {B : Bk} {ks : List Nat} (R : IsRing B ks) (h : ∀ k ∈ ks, k < B.claims.length) : ks.length ≤ B.claims.length := by
  have q := nodup_sub_len (l := ks.map fun k : Nat => (k : Int)) (m := (List.range B.claims.length).map fun k : Nat => (k : Int)) (List.pairwise_map.mpr (R.nd.imp fun h z => h (Int.ofNat.inj z))) (List.pairwise_map.mpr (List.nodup_range.imp fun h z => h (Int.ofNat.inj z))) fun x hx => by
    obtain ⟨k, hk, rfl⟩ := List.mem_map.mp hx
    exact List.mem_map_of_mem (f := fun k : Nat => (k : Int)) (List.mem_range.mpr (h k hk))
  rw [List.length_map, List.length_map, List.length_range] at q
  exact q
def spAreOwed (K : PySem.W.Frag) : Sp := fun vs H Q _ => ∃ (cl p t : Addr) (ts : List Addr) (B : Bk) (P : List Int) (ks : List Nat) (c : Int), vs = [.ref cl, .ref p, .ref t, .int c] ∧ ClAt K H cl ts B ∧ SqL K H p (P.map V.int) ∧ P.length = B.claims.length ∧ B.claims.length ≤ 24 ∧ SqT K H t (numV ks) ∧ 1 ≤ c ∧ (∀ k ∈ ks, k < B.claims.length ∧ g P k + c ≤ amt B k) ∧ Q (.bl true) H
def spIsRing (K : PySem.W.Frag) : Sp := fun vs H Q _ => ∃ (cl t : Addr) (ts : List Addr) (B : Bk) (ks : List Nat), vs = [.ref cl, .ref t] ∧ ClAt K H cl ts B ∧ B.claims.length ≤ 24 ∧ SqT K H t (numV ks) ∧ (∀ k ∈ ks, k < B.claims.length) ∧ IsRing B ks ∧ Q (.bl true) H
def spFits (K : PySem.W.Frag) : Sp := fun vs H Q _ => ∃ (cl p he u : Addr) (ts : List Addr) (B : Bk) (P : List Int) (m : Mv), vs = [.ref cl, .ref p, .ref he, .ref u] ∧ ClAt K H cl ts B ∧ Good B ∧ SqL K H p (P.map V.int) ∧ P.length = B.claims.length ∧ SqL K H he ((leftOf B P).map V.int) ∧ MvAt H u m ∧ Fits B P m ∧ ∀ H', Same H H' → Q (.bl true) H'
def spMakeMv (K : PySem.W.Frag) : Sp := fun vs H Q _ => ∃ (cl p he u : Addr) (ts : List Addr) (B : Bk) (P : List Int) (m : Mv), vs = [.ref cl, .ref p, .ref he, .ref u] ∧ ClAt K H cl ts B ∧ Good B ∧ H p = some (.lst (P.map V.int)) ∧ P.length = B.claims.length ∧ H he = some (.lst ((leftOf B P).map V.int)) ∧ p ≠ he ∧ MvAt H u m ∧ Fits B P m ∧
  ∀ H', Off (fun a => a = p ∨ a = he) H H' → H' p = some (.lst ((doMv P m).map V.int)) → H' he = some (.lst ((leftOf B (doMv P m)).map V.int)) → Q .non H'
def spPlayed (K : PySem.W.Frag) : Sp := fun vs H Q _ => ∃ (b ca cl : Addr) (ts : List Addr) (B : Bk) (l : Addr) (us : List Addr) (ms : List Mv), vs = [.ref b, .ref l] ∧ BookAt K H b ca cl ts B ∧ Good B ∧ SqL K H l (us.map V.ref) ∧ MvsAt H us ms ∧ AllFit B (noneP B) ms ∧
  ∀ t p he H', Same H H' → H t = none → H p = none → H he = none → H' t = some (.tup [.ref p, .ref he]) → H' p = some (.lst ((playedOf (noneP B) ms).map V.int)) → H' he = some (.lst ((leftOf B (playedOf (noneP B) ms)).map V.int)) → Q (.ref t) H'


end Rf
namespace Rf
open PySem PySem.Spec PyProof.Rows L2
/-! ### the program's playing, move by move -/
theorem str_ne {a b : Str} (h : a ≠ b) : decide (V.str a = V.str b) = false := decide_eq_false fun z => h (V.str.inj z)
theorem str_eq (a : Str) : decide (V.str a = V.str a) = true := decide_eq_true rfl
theorem pay_ring : ("pay" : Str) ≠ ("ring" : Str) := by decide +kernel
section
variable {P : Program} {w : World} {K : PySem.W.Frag} {mg : Str → Option Value} {base : Heap}
theorem sc_makemv : FnScope ["claims", "payments", "held", "move", "word", "what", "coins", "number", "debtor", "creditor", "_"] ["claims", "payments", "held", "move"] (defScope s_makemv) := ⟨rfl, rfl, rfl, by decide +kernel, rfl, by decide +kernel, by decide +kernel⟩
/- 0:claims 1:payments 2:held 3:move 4:word 5:what 6:coins 7:number 8:debtor 9:creditor 10:_ -/
theorem ok_makemv {f : Addr} {fd : FuncData} (D : DefAt K mg "_make_move" s_makemv ["claims", "payments", "held", "move"] f fd) : FnOk P w K mg base CX0 1 f fd ["claims", "payments", "held", "move"] (spMakeMv K) := by
  refine D.F.ok sc_makemv (fun vs H Q E h => ?_) (fun cdv A outer s H vs Q E hr h => ?_)
  · obtain ⟨cl, p, he, u, ts, B, P, m, rfl, _⟩ := h
    rfl
  · obtain ⟨cl, p, he, u, ts, B, P, m, rfl, A, G, hp, hl, hhe, ne, hu, F, k⟩ := h
    refine ⟨_, pss_cons (ps_asg (pv 3) (pg_tup rfl (pgs_cons (pg_name (i := 4) sc_makemv.nd rfl (.inl rfl)) (pgs_cons (pg_name (i := 5) sc_makemv.nd rfl (.inl rfl)) (pgs_cons (pg_name (i := 6) sc_makemv.nd rfl (.inl rfl)) pgs_nil)))))
        (pss_one (ps_if (pt_cmpR op_eq (pv 4) pe_str (nomark _)) (pss_one (ps_for PassesOwn.never rfl (pi_tup (pv 5)) (pg_name (i := 7) sc_makemv.nd rfl (.inl rfl)) (pss_one (ps_augS (pv 1) (pv 7) get_list (pv 6) ip_add set_list)))) (pss_cons (ps_asg (pe_ix (r := rIxT K) ix_tup (pv 0) (pv 5) (fun _ _ => rfl)) (pg_tup rfl (pgs_cons (pg_name (i := 8) sc_makemv.nd rfl (.inl rfl)) (pgs_cons (pg_name (i := 9) sc_makemv.nd rfl (.inl rfl)) (pgs_cons (pg_name (i := 10) sc_makemv.nd rfl (.inl rfl)) (pgs_cons (pg_name (i := 10) sc_makemv.nd rfl (.inl rfl)) pgs_nil))))))
          (pss_cons (ps_augS (pv 1) (pv 5) get_list (pv 6) ip_add set_list)
          (pss_cons (ps_augS (pv 2) (pv 8) get_list (pv 6) ip_sub set_list)
          (pss_one (ps_augS (pv 2) (pv 9) get_list (pv 6) ip_add set_list))))))), ?_⟩
    cases m with
    | pay k' c =>
      have hu' : H u = some (.tup [.str "pay", .int (k' : Int), .int c]) := hu
      refine ⟨_, rfl, u, _, rfl, st_of hu', rfl, _, _, rfl, _, _, rfl, _, _, rfl, rfl, ?_⟩
      dsimp only
      obtain ⟨hkl, hka⟩ := F.owed k' List.mem_cons_self
      have gc := G.clm hkl
      obtain ⟨x, ex, hx⟩ := nat_of gc.d0 gc.d1
      obtain ⟨y, ey, hy⟩ := nat_of gc.c0 gc.c1
      refine if_ifP (p := False) (fun Q k => ⟨_, rfl, rfl, _, rfl, ?_⟩) (fun z => z.elim) (fun _ => ?_)
      · rw [str_ne pay_ring]
        exact k
      obtain ⟨t, hat, htq⟩ := A.get hkl
      refine ⟨_, rfl, _, rfl, cl, _, _, _, rfl, rfl, A.t, hat, t, _, rfl, htq, rfl, _, _, rfl, _, _, rfl, _, _, rfl, _, _, rfl, rfl, ?_⟩
      have hkp : k' < P.length := by rw [hl]; exact hkl
      refine ⟨_, rfl, _, rfl, p, _, _, _, rfl, rfl, sq_of hp, atI_g rfl hkp, _, rfl, _, _, rfl, rfl, p, _, _, k', rfl, rfl, hp, ixN_nat rfl (by rw [List.length_map]; exact hkp), ?_⟩
      rw [map_set]
      have hhe2 : (upd H p (.lst ((P.set k' (g P k' + c)).map V.int))) he = some (.lst ((leftOf B P).map V.int)) := by rw [upd_ne ne.symm]; exact hhe
      have hll : x < (leftOf B P).length := by rw [leftOf_len]; exact hx
      refine ⟨_, rfl, _, rfl, he, _, _, _, rfl, rfl, sq_of hhe2, atI_g ex hll, _, rfl, _, _, rfl, rfl, he, _, _, x, rfl, rfl, hhe2, ixN_nat ex (by rw [List.length_map]; exact hll), ?_⟩
      rw [map_set]
      have hly : y < ((leftOf B P).set x (g (leftOf B P) x - c)).length := by rw [List.length_set, leftOf_len]; exact hy
      refine ⟨_, rfl, _, rfl, he, _, _, _, rfl, rfl, sq_of upd_same, atI_g ey hly, _, rfl, _, _, rfl, rfl, he, _, _, y, rfl, rfl, upd_same, ixN_nat ey (by rw [List.length_map]; exact hly), ?_⟩
      rw [map_set, ← left_set G hl hkl ex ey hx hy]
      refine k _ (fun b o h n => ?_) ?_ upd_same
      · rw [upd_ne (fun z => n (.inr z)), upd_ne (fun z => n (.inr z)), upd_ne (fun z => n (.inl z))]
        exact h
      · rw [upd_ne ne, upd_ne ne, upd_same]
        rfl
    | ring ks c =>
      obtain ⟨t, hu', ht⟩ := hu
      refine ⟨_, rfl, u, _, rfl, st_of hu', rfl, _, _, rfl, _, _, rfl, _, _, rfl, rfl, ?_⟩
      dsimp only
      refine if_ifP (p := True) (fun Q k => ⟨_, rfl, rfl, _, rfl, ?_⟩) (fun _ => ?_) (fun z => absurd True.intro z)
      · rw [str_eq]
        exact k
      refine last_for ?_
      have hoff : ∀ {Hx : Hp}, Off (fun a => a = p ∨ a = he) H Hx → Hx t = some (.tup (numV ks)) := fun {Hx} o => o t _ ht fun z => by
        rcases z with z | z
        · rw [z, hp] at ht; cases ht
        · rw [z, hhe] at ht; cases ht
      refine sq_forT (a := t) (xs := numV ks) (fun Q k => ⟨_, rfl, k⟩) (st_of ht)
        (fun i σ' H1 => Off (fun a => a = p ∨ a = he) H H1 ∧ H1 p = some (.lst ((addR P (ks.take i) c).map V.int)) ∧ H1 he = some (.lst ((leftOf B P).map V.int)) ∧ ∃ y7 y8 y9 y10, σ' = [some (.ref cl), some (.ref p), some (.ref he), some (.ref u), some (.str "ring"), some (.ref t), some (.int c), y7, y8, y9, y10])
        ⟨Off.refl, hp, hhe, _, _, _, _, rfl⟩ (fun i σ' H1 _ hW => st_of (hoff hW.1)) (fun i z σ' H1 hz hW => ?_) (fun σ' H1 hW => ?_)
      · obtain ⟨o1, hp1, hhe1, y7, y8, y9, y10, rfl⟩ := hW
        obtain ⟨k', hk', rfl⟩ := numV_get hz
        have hkl : k' < (addR P (ks.take i) c).length := by rw [addR_len, hl]; exact (F.owed k' (List.mem_of_getElem? hk')).1
        refine ⟨_, rfl, _, rfl, p, _, _, _, rfl, rfl, sq_of hp1, atI_g rfl hkl, _, rfl, _, _, rfl, rfl, p, _, _, k', rfl, rfl, hp1, ixN_nat rfl (by rw [List.length_map]; exact hkl), ?_⟩
        rw [map_set]
        have e : (addR P (ks.take i) c).set k' (g (addR P (ks.take i) c) k' + c) = addR P (ks.take (i + 1)) c := by
          unfold addR
          rw [List.take_add_one, hk', List.foldl_append]
          rfl
        rw [e]
        exact ⟨fun b o h n => by rw [upd_ne (fun z => n (.inl z))]; exact o1 b o h n, upd_same, by rw [upd_ne ne.symm]; exact hhe1, _, _, _, _, rfl⟩
      · obtain ⟨o1, hp1, hhe1, y7, y8, y9, y10, rfl⟩ := hW
        rw [numV_len, List.take_length] at hp1
        refine k _ o1 hp1 ?_
        rw [hhe1]
        show _ = some (HO.lst ((leftOf B (addR P ks c)).map V.int))
        rw [left_ring (F.ring ks c rfl) hl fun k hk => (F.owed k hk).1]
end


end Rf
namespace Rf
open PySem PySem.Spec PyProof.Rows L2
/-! ### list.count of flat items -/
section
variable {X : Cx}
def rCount (K : PySem.W.Frag) : V → List V → Hp → VK → Prop := fun x xs H Q => ∃ (a : Addr) (ys : List V) (y : V), x = V.ref a ∧ xs = [y] ∧ SqL K H a ys ∧ flatV y = true ∧ ys.all flatV = true ∧ Q (.int ((ys.countP fun z => eqV z y : Nat) : Int)) H
theorem count_vals {y : V} {uy : Value} : ∀ {ys : List V} {us : List Value}, Vals ys us → ys.all flatV = true → us.countP (eqU y) = ys.countP fun z => eqV z y
  | _, _, .nil, _ => rfl
  | z :: ys, u :: us, .cons r t, f => by
    rw [List.all_cons, Bool.and_eq_true] at f
    have ih := count_vals (y := y) (uy := uy) t f.2
    rw [List.countP_cons, List.countP_cons, ih, eqU_of r f.1]
theorem mt_countF : MtR X "list.count" (rCount X.K) := by
  intro pins s σ H x xs v us Q I rx rxs h
  obtain ⟨a, ys, y, rfl, rfl, hs, fy, fys, q⟩ := h
  cases rx
  cases rxs with
  | cons ry rt =>
    rename_i uy ut
    cases rt
    obtain ⟨its, rv, ⟨⟨cls, dd, data, sl⟩, n, ho, hc, hdn, hd⟩, hlen⟩ := I.list hs
    simp only at hc hd
    subst hc hd
    refine call_meets PySem.F.slot_list_count ⟨_, ho, rfl⟩ PySem.F.entry_list_count (PySem.F.args_list_count_2 _ _)
      (SeqAt.list_countAt a its.toArray n dd sl uy (eqU y)) ⟨ho, fun u' hu' => mem_eqAt ry fy rv fys u' (by simpa using hu'), ?_⟩
    exact ⟨.int ((ys.countP fun z => eqV z y : Nat) : Int), H, I.tok _, ⟨_, by rw [← count_vals (uy := uy) rv fys]⟩, q⟩
end


end Rf
namespace Rf
open PySem PySem.Spec PyProof.Rows L2
/-! ### moves as data; list.count of flat items -/
def dMv : Mv → PyData
  | .pay k c => .tuple [.str "pay", .int (k : Int), .int c]
  | .ring ks c => .tuple [.str "ring", .tuple ((ks.map fun k : Nat => (k : Int)).map .int), .int c]
def dMvs (ms : List Mv) : PyData := .list (ms.map dMv)
theorem dp_mv {K : PySem.W.Frag} {H : Hp} {u : Addr} {m : Mv} (A : MvAt H u m) : Dp K H (.ref u) (dMv m) := by
  cases m with
  | pay k c => exact .tup (st_of (show H u = some (.tup [.str "pay", .int (k : Int), .int c]) from A)) (.cons (.str _) (.cons (.int _) (.cons (.int _) .nil)))
  | ring ks c =>
    obtain ⟨t, h1, h2⟩ := A
    rw [numV_ints] at h2
    exact .tup (st_of h1) (.cons (.str _) (.cons (.tup (st_of h2) dpAll_ints) (.cons (.int _) .nil)))
theorem dpAll_mvs {K : PySem.W.Frag} {H : Hp} : ∀ {us : List Addr} {ms : List Mv}, MvsAt H us ms → DpAll K H (us.map V.ref) (ms.map dMv)
  | [], [], _ => .nil
  | [], _ :: _, A => absurd A.1 (by simp)
  | _ :: _, [], A => absurd A.1 (by simp)
  | u :: us, m :: ms, A => .cons (dp_mv (A.2 0 u m rfl rfl)) (dpAll_mvs ⟨Nat.succ.inj A.1, fun i v x h1 h2 => A.2 (i + 1) v x h1 h2⟩)
theorem ok_pay : PyData.strOk ("pay" : Str) = true := by decide +kernel
theorem ok_ring : PyData.strOk ("ring" : Str) = true := by decide +kernel
theorem lay_mv (m : Mv) : (dMv m).canLay0 = true ∧ (dMv m).depth ≤ 2 := by
  cases m with
  | pay k c => exact ⟨by simp [dMv, PyData.canLay0, PyData.canLayAll0, ok_pay], by simp [dMv, PyData.depth, PyData.depthAll]⟩
  | ring ks c =>
    have h1 : PyData.canLayAll0 ((ks.map fun k : Nat => (k : Int)).map .int) = true := canLayAll_clean _ (cleanAll_of fun x hx => (cl_ints x hx).c)
    have h2 : PyData.depthAll ((ks.map fun k : Nat => (k : Int)).map .int) ≤ 0 := depthAll_le _ fun x hx => (cl_ints x hx).d
    refine ⟨?_, ?_⟩
    · unfold dMv
      simp [PyData.canLay0, PyData.canLayAll0, ok_ring]
      simpa using h1
    · unfold dMv PyData.depth
      refine Nat.succ_le_succ (depthAll_le _ fun x hx => ?_)
      simp at hx
      rcases hx with rfl | rfl | rfl
      · simp [PyData.depth]
      · unfold PyData.depth
        have h2' := h2
        simp only [List.map_map] at h2'
        exact Nat.succ_le_succ h2'
      · simp [PyData.depth]
theorem lay_all {ds : List PyData} {n : Nat} (h : ∀ d ∈ ds, d.canLay0 = true ∧ d.depth ≤ n) : (PyData.list ds).canLay0 = true ∧ (PyData.list ds).depth ≤ n + 1 := by
  refine ⟨?_, ?_⟩
  · unfold PyData.canLay0
    induction ds with
    | nil => simp [PyData.canLayAll0]
    | cons d ds ih =>
      unfold PyData.canLayAll0
      rw [(h d List.mem_cons_self).1, ih fun x hx => h x (List.mem_cons_of_mem _ hx)]
      rfl
  · unfold PyData.depth
    exact Nat.succ_le_succ (depthAll_le _ fun x hx => (h x hx).2)
theorem lay_shaped {d : PyData} {n : Nat} (h : d.canLay0 = true ∧ d.depth ≤ n) (hn : n ≤ 64) : SeqAt.shaped d = true := by
  unfold SeqAt.shaped
  rw [h.1, decide_eq_true (Nat.le_trans h.2 hn)]
  rfl
theorem lay_mvs (ms : List Mv) : (dMvs ms).canLay0 = true ∧ (dMvs ms).depth ≤ 3 := lay_all fun d hd => by
  obtain ⟨m, _, rfl⟩ := List.mem_map.mp hd
  exact lay_mv m
/-- the words of an order -/
def wordsV (a b : Nat) : List V := List.replicate a (.str "pay") ++ List.replicate b (.str "ring")
def wordsD (a b : Nat) : List PyData := List.replicate a (.str "pay") ++ List.replicate b (.str "ring")
theorem lay_words (a b : Nat) : (PyData.list (wordsD a b)).canLay0 = true ∧ (PyData.list (wordsD a b)).depth ≤ 1 := lay_all fun d hd => by
  rcases List.mem_append.mp hd with h | h
  · rw [List.eq_of_mem_replicate h]
    exact ⟨by simp [PyData.canLay0, ok_pay, ok_ring], by simp [PyData.depth]⟩
  · rw [List.eq_of_mem_replicate h]
    exact ⟨by simp [PyData.canLay0, ok_pay, ok_ring], by simp [PyData.depth]⟩
theorem dpAll_app {K : PySem.W.Frag} {H : Hp} : ∀ {xs ys : List V} {ds es : List PyData}, DpAll K H xs ds → DpAll K H ys es → DpAll K H (xs ++ ys) (ds ++ es)
  | _, _, _, _, .nil, h => h
  | _, _, _, _, .cons a t, h => .cons a (dpAll_app t h)
theorem dpAll_rep {K : PySem.W.Frag} {H : Hp} (x : Str) : ∀ n : Nat, DpAll K H (List.replicate n (.str x)) (List.replicate n (.str x))
  | 0 => .nil
  | n + 1 => .cons (.str x) (dpAll_rep x n)
theorem dpAll_words {K : PySem.W.Frag} {H : Hp} (a b : Nat) : DpAll K H (wordsV a b) (wordsD a b) := dpAll_app (dpAll_rep _ _) (dpAll_rep _ _)
theorem words_flat (a b : Nat) : (wordsV a b).all flatV = true := List.all_eq_true.mpr fun x hx => by
  rcases List.mem_append.mp hx with h | h
  · rw [List.eq_of_mem_replicate h]; rfl
  · rw [List.eq_of_mem_replicate h]; rfl
theorem words_pay (a b : Nat) : (wordsV a b).countP (fun z => eqV z (.str "pay")) = a := by
  unfold wordsV
  rw [List.countP_append, List.countP_replicate, List.countP_replicate]
  have e1 : eqV (.str "pay") (.str "pay") = true := beq_self_eq_true ("pay" : Str)
  have e2 : eqV (.str "ring") (.str "pay") = false := by decide +kernel
  rw [e1, e2]
  simp
theorem words_ring (a b : Nat) : (wordsV a b).countP (fun z => eqV z (.str "ring")) = b := by
  unfold wordsV
  rw [List.countP_append, List.countP_replicate, List.countP_replicate]
  have e1 : eqV (.str "ring") (.str "ring") = true := beq_self_eq_true ("ring" : Str)
  have e2 : eqV (.str "pay") (.str "ring") = false := by decide +kernel
  rw [e1, e2]
  simp
theorem order_words (B : Bk) : (orderOf B).map (fun m => V.str m.word) = wordsV (paysOf B (ringsOf B).2).length (ringsOf B).1.length := by
  unfold orderOf wordsV
  rw [List.map_append, List.map_map, List.map_map]
  congr 1
  · exact List.map_eq_replicate_iff.mpr fun k _ => rfl
  · exact List.map_eq_replicate_iff.mpr fun k _ => rfl
theorem rep_flat {α : Type} (x : α) (n : Nat) : (List.replicate n [x]).flatten = List.replicate n x := List.flatten_replicate_singleton
def dTwo (P L : List Int) : PyData := .tuple [dInts P, dInts L]
theorem cl_two (P L : List Int) : Cl 2 (dTwo P L) := cl_tup fun x hx => by
  simp at hx
  rcases hx with rfl | rfl
  · exact cl_dInts
  · exact cl_dInts
theorem dp_two {K : PySem.W.Frag} {H : Hp} {t p l : Addr} {P L : List Int} (ht : H t = some (.tup [.ref p, .ref l])) (hp : H p = some (.lst (P.map V.int))) (hl : H l = some (.lst (L.map V.int))) : Dp K H (.ref t) (dTwo P L) :=
  .tup (st_of ht) (.cons (dp_ints (sq_of hp)) (.cons (dp_ints (sq_of hl)) .nil))


end Rf
namespace Rf
open PySem PySem.Spec PyProof.Rows L2
/-! ### tuples cut and joined -/
theorem slA_of {K : PySem.W.Frag} {H : Hp} {a : Addr} {xs : List V} {lo hi : Option Int} {Q : VK} (h : SqT K H a xs) (k : ∀ p H', Same H H' → SqT K H' p (cutV xs lo hi) → Q (.ref p) H') : rSlA K (.ref a) lo hi H Q := by
  refine ⟨a, xs, rfl, h, fun e => k a H (fun _ _ z => z) ?_, fun _ p np => k p _ (Same.new np) (st_of upd_same)⟩
  have e2 : cutV xs lo hi = xs := by
    unfold cutV
    rw [e.1, e.2, List.drop_zero, Nat.sub_zero, List.take_length]
  rw [e2]
  exact h
theorem catA_of {K : PySem.W.Frag} {H : Hp} {a b : Addr} {xs ys : List V} {Q : VK} (h1 : SqT K H a xs) (h2 : SqT K H b ys) (hl : xs.length + ys.length ≤ sizeLine) (k : ∀ p H', Same H H' → SqT K H' p (xs ++ ys) → Q (.ref p) H') : rCatA K (.ref a) (.ref b) H Q := by
  refine ⟨a, b, xs, ys, rfl, rfl, h1, h2, hl, fun e => k b H (fun _ _ z => z) ?_, fun _ e => k a H (fun _ _ z => z) ?_, fun _ _ p np => k p _ (Same.new np) (st_of upd_same)⟩
  · rw [e]
    exact h2
  · rw [e, List.append_nil]
    exact h1
theorem cut_front {l : List Int} {j : Nat} (h : j < l.length) : cutV (l.map V.int) none (some (j : Int)) = (l.take j).map V.int := by
  unfold cutV
  rw [List.length_map]
  have e1 : HT.sIx l.length 0 none = 0 := rfl
  have e2 : HT.sIx l.length l.length (some (j : Int)) = j := by
    rw [HT.sIx_nat]
    omega
  rw [e1, e2, List.drop_zero, Nat.sub_zero, List.map_take]
theorem cut_rest {l : List Int} {j : Nat} (h : j < l.length) : cutV (l.map V.int) (some ((j : Int) + 1)) none = (l.drop (j + 1)).map V.int := by
  unfold cutV
  rw [List.length_map]
  have e1 : HT.sIx l.length 0 (some ((j : Int) + 1)) = j + 1 := by
    show HT.sIx l.length 0 (some ((j + 1 : Nat) : Int)) = j + 1
    rw [HT.sIx_nat]
    omega
  have e2 : HT.sIx l.length l.length none = l.length := rfl
  rw [e1, e2, List.take_of_length_le (by rw [List.length_drop, List.length_map]; exact Nat.le_refl _), List.map_drop]
theorem set_parts {l : List Int} {j : Nat} {c : Int} (h : j < l.length) : l.take j ++ [c] ++ l.drop (j + 1) = l.set j c := by
  rw [List.set_eq_take_append_cons_drop, if_pos h, List.append_assoc]
  rfl
/-- the book where a house has other coins -/
def withC (B : Bk) (x : Int) (c : Int) : Bk := ⟨B.cash.set x.toNat c, B.claims⟩
theorem withC_good {B : Bk} (G : Good B) {x c : Int} (c0 : 0 ≤ c) (c1 : c ≤ 999) : Good (withC B x c) := by
  have hl : (withC B x c).cash.length = B.cash.length := List.length_set ..
  refine ⟨by rw [hl]; exact G.n0, by rw [hl]; exact G.n1, fun y hy => ?_, G.m1, fun q hq => by rw [hl]; exact G.claims q hq⟩
  rcases List.mem_or_eq_of_mem_set hy with h | h
  · exact Good.cash G y h
  · rw [h]
    exact ⟨c0, by omega⟩
theorem withC_cash {B : Bk} {x c : Int} (h : ∀ y ∈ B.cash, 0 ≤ y ∧ y ≤ 999) (c0 : 0 ≤ c) (c1 : c ≤ 999) : ∀ y ∈ (withC B x c).cash, 0 ≤ y ∧ y ≤ 999 := fun y hy => by
  rcases List.mem_or_eq_of_mem_set hy with h2 | h2
  · exact h y h2
  · rw [h2]
    exact ⟨c0, c1⟩
theorem cutV_take {l : List V} {j : Nat} (h : j ≤ l.length) : cutV l none (some (j : Int)) = l.take j := by
  unfold cutV
  rw [HT.sIx_nat, HT.sIx_none, List.drop_zero, Nat.sub_zero, Nat.min_eq_left h]
theorem cutV_drop {l : List V} {j : Nat} (h : j ≤ l.length) : cutV l (some (j : Int)) none = l.drop j := by
  unfold cutV
  rw [HT.sIx_nat, HT.sIx_none, Nat.min_eq_left h, List.take_of_length_le (by rw [List.length_drop]; exact Nat.le_refl _)]


end Rf
namespace Rf
open PySem PySem.Spec PyProof.Rows L2
/-! ### the weaving of two books, as the law does it: lists that are written -/
def upTo (n i : Nat) : List Int := ((List.range n).drop i).map fun k : Nat => (k : Int)
theorem upTo_len (n i : Nat) : (upTo n i).length = n - i := by
  unfold upTo
  rw [List.length_map, List.length_drop, List.length_range]
theorem upTo_cons {n i : Nat} (h : i < n) : upTo n i = (i : Int) :: upTo n (i + 1) := by
  unfold upTo
  rw [List.drop_eq_getElem_cons (by rw [List.length_range]; exact h), List.map_cons, List.getElem_range]
theorem upTo_nil {n i : Nat} (h : upTo n i = []) : n ≤ i := by
  have := upTo_len n i
  rw [h] at this
  have e : ([] : List Int).length = 0 := rfl
  omega
theorem upTo_ne {n i : Nat} (h : upTo n i ≠ []) : i < n := Nat.lt_of_not_le fun z => h (List.eq_nil_of_length_eq_zero (by rw [upTo_len]; omega))
theorem rgV_up (n : Nat) : rgV 0 (n : Int) = (upTo n 0).map V.int := by
  unfold rgV upTo
  rw [List.map_map, Int.sub_zero, Int.toNat_natCast, List.drop_zero]
  apply List.map_congr_left
  intro k _
  show V.int (0 + (k : Int)) = V.int (k : Int)
  rw [Int.zero_add]
theorem pop0 {α : Type} {x : α} {l : List α} : PySem.seqIndex? 0 (x :: l).length = some 0 := by
  rw [seqIndex_of (by decide) (by rw [List.length_cons]; omega)]
  rfl
/-- pairs, each a tuple of its own -/
def SidesAt (H : Hp) (us : List Addr) (S : List (Int × Nat)) : Prop := us.length = S.length ∧ ∀ (i : Nat) (t : Addr) (p : Int × Nat), us[i]? = some t → S[i]? = some p → H t = some (.tup [.int p.1, .int (p.2 : Int)])
theorem SidesAt.same {H H' : Hp} {us : List Addr} {S : List (Int × Nat)} (A : SidesAt H us S) (s : Same H H') : SidesAt H' us S := ⟨A.1, fun i t r h1 h2 => s _ _ (A.2 i t r h1 h2)⟩
theorem SidesAt.put {H : Hp} {us : List Addr} {S : List (Int × Nat)} {p : Addr} {o : HO} {xs : List V} (A : SidesAt H us S) (hp : H p = some (.lst xs)) : SidesAt (L2.upd H p o) us S := ⟨A.1, fun i t r h1 h2 => by
  have z := A.2 i t r h1 h2
  rw [upd_ne (ne_of z hp (fun z => nomatch z))]
  exact z⟩
theorem SidesAt.app {H : Hp} {us : List Addr} {S : List (Int × Nat)} {t : Addr} {p : Int × Nat} (A : SidesAt H us S) (h : H t = some (.tup [.int p.1, .int (p.2 : Int)])) : SidesAt H (us ++ [t]) (S ++ [p]) := by
  refine ⟨by rw [List.length_append, List.length_append, A.1]; rfl, fun i u q h1 h2 => ?_⟩
  by_cases hi : i < us.length
  · rw [List.getElem?_append_left hi] at h1
    rw [List.getElem?_append_left (by rw [← A.1]; exact hi)] at h2
    exact A.2 i u q h1 h2
  · have e : i = us.length := by
      have := (List.getElem?_eq_some_iff.mp h1).1
      rw [List.length_append] at this
      have : i < us.length + 1 := this
      omega
    subst e
    rw [List.getElem?_append_right (Nat.le_refl _), Nat.sub_self] at h1
    rw [List.getElem?_append_right (by rw [A.1]; exact Nat.le_refl _), A.1, Nat.sub_self] at h2
    cases h1
    cases h2
    exact h
theorem SidesAt.off {H H' : Hp} {h c : Addr} {us : List Addr} {S : List (Int × Nat)} (A : SidesAt H us S) (R : RngAt H h c) (F : Fr h c H H') : SidesAt H' us S := ⟨A.1, fun i t r h1 h2 => by
  have z := A.2 i t r h1 h2
  refine F.off _ _ z fun n => ?_
  obtain ⟨ne, x, p, cells, e1, e2, _⟩ := R
  rcases n with n | n
  · rw [n, e1] at z; cases z
  · rw [n, e2] at z; cases z⟩
section
variable {ta : TA} {te : TE} {tz t u tu : TS} {c : TT} {D : Ends} {σ : L2.St} {H : Hp}
/-- x, y = two expressions -/
theorem sq_parP {i j : Nat} (R : V → V → Hp → Prop) (h : ∀ Q : List V → Hp → Prop, (∀ v w H', R v w H' → Q [v, w] H') → ta σ H Q) (k : ∀ v w H', R v w H' → tz D ((σ.set i (some v)).set j (some w)) H') : tSeq (tPar i j ta) tz D σ H := h _ fun v w H' r => ⟨v, w, rfl, k v w H' r⟩
/-- a block's last if, its answer open -/
theorem if_ifB (R : Bool → Hp → Prop) (h : ∀ Q : Bool → Hp → Prop, (∀ b H', R b H' → Q b H') → c σ H Q) (k1 : ∀ H', R true H' → t D σ H') (k2 : ∀ H', R false H' → u D σ H') : tIfS c t u D σ H := by
  refine h _ fun b H' r => ?_
  cases b with
  | true => exact iteT (k1 H' r)
  | false => exact iteF (k2 H' r)
/-- the last row of a block: an if (no else) whose word is False -/
theorem last_no (R : Hp → Prop) (h : ∀ Q : Bool → Hp → Prop, (∀ H', R H' → Q false H') → c σ H Q) (k : ∀ H', R H' → D.nx σ H') : tIfS c t tNext D σ H := h _ fun H' r => iteF (k H' r)
/-- for x in a tuple that is made -/
theorem sq_forTN {K : PySem.W.Frag} {tl : TE} {g : TG} {xs : List V} (h : ∀ Q : VK, (∀ p H', H p = none → Same H H' → H' p = some (.tup xs) → Q (.ref p) H') → tl σ H Q) (Pv : Addr → Nat → L2.St → Hp → Prop)
    (h0 : ∀ p H', H p = none → Same H H' → H' p = some (.tup xs) → Pv p 0 σ H') (hl : ∀ p i σ' H', i ≤ xs.length → Pv p i σ' H' → SqT K H' p xs)
    (hs : ∀ p i x σ' H', xs[i]? = some x → Pv p i σ' H' → g x σ' H' fun σ2 H2 => tu { D with nx := Pv p (i + 1), ct := Pv p (i + 1), bk := tz D } σ2 H2) (hd : ∀ p σ' H', Pv p xs.length σ' H' → tz D σ' H') : tSeq (tFor (iTup K tl) g tu) tz D σ H :=
  h _ fun p H' np s hp => ⟨p, rfl, ⟨xs, st_of hp⟩, for_tup (D := { D with nx := tz D }) (Pv p) (h0 p H' np s hp) (hl p) (hs p) (hd p)⟩
end


end Rf
namespace Rf
open PySem PySem.Spec PyProof.Rows L2
/-! ### moves that need not fit: mathematics -/
def upN (ks : List Nat) : List Int := ks.map fun k : Nat => (k : Int)
inductive IMv where
  | pay : Int → Int → IMv
  | ring : List Int → Int → IMv
def IMv.nums : IMv → List Int
  | .pay k _ => [k]
  | .ring ks _ => ks
def IMv.coins : IMv → Int
  | .pay _ c => c
  | .ring _ c => c
def IMv.word : IMv → Str
  | .pay _ _ => "pay"
  | .ring _ _ => "ring"
def Mv.up : Mv → IMv
  | .pay k c => .pay (k : Int) c
  | .ring ks c => .ring (upN ks) c
def FitsI (B : Bk) (P : List Int) (m : IMv) : Prop := ∃ m' : Mv, m'.up = m ∧ Fits B P m'
theorem up_inj {m m' : Mv} (h : m.up = m'.up) : m = m' := by
  cases m with
  | pay k c =>
    cases m' with
    | pay k' c' =>
      have e := IMv.pay.inj h
      rw [Int.ofNat.inj e.1, e.2]
    | ring ks' c' => cases h
  | ring ks c =>
    cases m' with
    | pay k' c' => cases h
    | ring ks' c' =>
      have e := IMv.ring.inj h
      have e1 : ks = ks' := nums_inj.mp e.1
      rw [e1, e.2]
def InB (B : Bk) (ks : List Int) : Prop := ∀ k ∈ ks, 0 ≤ k ∧ k < (B.claims.length : Int)
instance (B : Bk) (ks : List Int) : Decidable (InB B ks) := inferInstanceAs (Decidable (∀ k ∈ ks, _))
def OwedI (B : Bk) (P : List Int) (ks : List Int) (c : Int) : Prop := 1 ≤ c ∧ ∀ k ∈ ks, (0 ≤ k ∧ k < (B.claims.length : Int)) ∧ g P k.toNat + c ≤ amt B k.toNat
instance (B : Bk) (P : List Int) (ks : List Int) (c : Int) : Decidable (OwedI B P ks c) := inferInstanceAs (Decidable (_ ∧ _))
theorem toN_up {ks : List Int} {n : Int} (h : ∀ k ∈ ks, 0 ≤ k ∧ k < n) : upN (ks.map Int.toNat) = ks := by
  unfold upN
  rw [List.map_map]
  have e : ks.map ((fun k : Nat => (k : Int)) ∘ Int.toNat) = ks.map id := List.map_congr_left fun k hk => Int.toNat_of_nonneg (h k hk).1
  rw [e, List.map_id]
theorem up_toN (ks : List Nat) : (upN ks).map Int.toNat = ks := by
  unfold upN
  rw [List.map_map]
  have e : ks.map (Int.toNat ∘ fun k : Nat => (k : Int)) = ks.map id := List.map_congr_left fun k _ => Int.toNat_natCast k
  rw [e, List.map_id]
theorem fitsI_pay {B : Bk} {P : List Int} {k c : Int} : FitsI B P (.pay k c) ↔ OwedI B P [k] c ∧ c ≤ g (leftOf B P) (B.clm k.toNat).d.toNat := by
  constructor
  · rintro ⟨m', e, F⟩
    cases m' with
    | pay k' c' =>
      have e2 := IMv.pay.inj e
      obtain ⟨e3, e4⟩ := e2
      subst e3 e4
      have o := F.owed k' List.mem_cons_self
      refine ⟨⟨F.one, fun x hx => ?_⟩, by rw [Int.toNat_natCast]; exact F.pay k' c' rfl⟩
      rw [List.mem_singleton.mp hx, Int.toNat_natCast]
      exact ⟨⟨by omega, by omega⟩, o.2⟩
    | ring ks' c' => cases e
  · rintro ⟨⟨h1, h2⟩, h3⟩
    obtain ⟨⟨k0, k1⟩, h4⟩ := h2 k List.mem_cons_self
    refine ⟨.pay k.toNat c, ?_, h1, fun x hx => ?_, (fun k' c' e => ?_), (fun ks' c' e => by cases e)⟩
    · show IMv.pay _ _ = _
      rw [Int.toNat_of_nonneg k0]
    · rw [List.mem_singleton.mp hx]
      exact ⟨by omega, h4⟩
    · cases e
      exact h3
theorem fitsI_ring {B : Bk} {P : List Int} {ks : List Int} {c : Int} : FitsI B P (.ring ks c) ↔ OwedI B P ks c ∧ IsRing B (ks.map Int.toNat) := by
  constructor
  · rintro ⟨m', e, F⟩
    cases m' with
    | pay k' c' => cases e
    | ring ks' c' =>
      have e2 := IMv.ring.inj e
      obtain ⟨e3, e4⟩ := e2
      subst e3 e4
      refine ⟨⟨F.one, fun x hx => ?_⟩, by rw [up_toN]; exact F.ring ks' c' rfl⟩
      obtain ⟨k, hk, rfl⟩ := List.mem_map.mp hx
      have o := F.owed k hk
      rw [Int.toNat_natCast]
      exact ⟨⟨by omega, by omega⟩, o.2⟩
  · rintro ⟨⟨h1, h2⟩, h3⟩
    refine ⟨.ring (ks.map Int.toNat) c, ?_, h1, fun x hx => ?_, (fun k' c' e => by cases e), fun ks' c' e => ?_⟩
    · show IMv.ring _ _ = _
      rw [toN_up fun k hk => (h2 k hk).1]
    · obtain ⟨k, hk, rfl⟩ := List.mem_map.mp hx
      have o := h2 k hk
      exact ⟨by omega, o.2⟩
    · cases e
      exact h3
/-! rings, claim by claim -/
def lastC (B : Bk) : Int → List Nat → Int
  | x, [] => x
  | _, k :: ks => lastC B (B.clm k).c ks
def Leads (B : Bk) : Int → List Nat → Prop
  | _, [] => True
  | x, k :: ks => (B.clm k).d = x ∧ Leads B (B.clm k).c ks
theorem leads_app {B : Bk} : ∀ {a b : List Nat} {x : Int}, Leads B x (a ++ b) ↔ Leads B x a ∧ Leads B (lastC B x a) b
  | [], _, _ => ⟨fun h => ⟨True.intro, h⟩, fun h => h.2⟩
  | k :: a, b, x => by
    show ((B.clm k).d = x ∧ Leads B (B.clm k).c (a ++ b)) ↔ ((B.clm k).d = x ∧ Leads B (B.clm k).c a) ∧ Leads B (lastC B (B.clm k).c a) b
    rw [leads_app (a := a), and_assoc]
theorem lastC_app {B : Bk} : ∀ {a : List Nat} {k : Nat} {x : Int}, lastC B x (a ++ [k]) = (B.clm k).c
  | [], _, _ => rfl
  | j :: a, k, x => lastC_app (a := a) (k := k) (x := (B.clm j).c)
theorem leads_cons {B : Bk} : ∀ {ks : List Nat} {x y : Int}, (x :: csOf B ks = dsOf B ks ++ [y]) ↔ Leads B x ks ∧ y = lastC B x ks
  | [], x, y => by
    show [x] = [y] ↔ True ∧ y = x
    simp [eq_comm]
  | k :: ks, x, y => by
    show x :: (B.clm k).c :: csOf B ks = (B.clm k).d :: (dsOf B ks ++ [y]) ↔ ((B.clm k).d = x ∧ Leads B (B.clm k).c ks) ∧ y = lastC B (B.clm k).c ks
    rw [List.cons.injEq, leads_cons (ks := ks), and_assoc]
    exact ⟨fun ⟨a, b⟩ => ⟨a.symm, b⟩, fun ⟨a, b⟩ => ⟨a.symm, b⟩⟩
theorem ring_leads {B : Bk} {ks ini : List Nat} {a : Nat} (h : ks = ini ++ [a]) : IsRing B ks ↔ 2 ≤ ks.length ∧ ks.Nodup ∧ Leads B (B.clm a).c ks := by
  have key : csOf B ks = (dsOf B ks).drop 1 ++ (dsOf B ks).take 1 ↔ Leads B (B.clm a).c ks := by
    cases ks with
    | nil =>
      have := congrArg List.length h
      simp at this
    | cons k r =>
      have e : lastC B (B.clm k).c r = (B.clm a).c := by
        have : lastC B 0 (k :: r) = (B.clm a).c := by
          rw [h]
          exact lastC_app
        exact this
      show (B.clm k).c :: csOf B r = dsOf B r ++ [(B.clm k).d] ↔ (B.clm k).d = (B.clm a).c ∧ Leads B (B.clm k).c r
      rw [leads_cons, e]
      exact ⟨fun ⟨x, y⟩ => ⟨y, x⟩, fun ⟨x, y⟩ => ⟨y, x⟩⟩
  exact ⟨fun R => ⟨R.two, R.nd, key.mp R.turn⟩, fun ⟨x, y, z⟩ => ⟨x, y, key.mpr z⟩⟩
/-! how far moves fit -/
theorem fit_far (B : Bk) : ∀ (ms : List IMv) (P : List Int), ∃ fs : List Mv, AllFit B P fs ∧ ms.take fs.length = fs.map Mv.up ∧ fs.length ≤ ms.length ∧ (fs.length = ms.length ∨ ∃ m, ms[fs.length]? = some m ∧ ¬ FitsI B (playedOf P fs) m)
  | [], P => ⟨[], True.intro, rfl, Nat.le_refl _, .inl rfl⟩
  | m :: ms, P => by
    by_cases h : FitsI B P m
    · obtain ⟨m', rfl, F⟩ := h
      obtain ⟨fs, h1, h2, h3, h4⟩ := fit_far B ms (doMv P m')
      refine ⟨m' :: fs, ⟨F, h1⟩, ?_, Nat.succ_le_succ h3, ?_⟩
      · show m'.up :: ms.take fs.length = _
        rw [h2]
        rfl
      · rcases h4 with h4 | ⟨x, h4, h5⟩
        · exact .inl (congrArg Nat.succ h4)
        · exact .inr ⟨x, h4, h5⟩
    · exact ⟨[], True.intro, rfl, Nat.zero_le _, .inr ⟨m, rfl, h⟩⟩
/-- fs: what of the moves is done, all of them or up to one that doesn't fit -/
structure Far (B : Bk) (ms : List IMv) (fs : List Mv) : Prop where
  fit : AllFit B (noneP B) fs
  up : ms.take fs.length = fs.map Mv.up
  le : fs.length ≤ ms.length
  stop : fs.length = ms.length ∨ ∃ m, ms[fs.length]? = some m ∧ ¬ FitsI B (playedOf (noneP B) fs) m
theorem far_of (B : Bk) (ms : List IMv) : ∃ fs, Far B ms fs := by
  obtain ⟨fs, a, b, c, d⟩ := fit_far B ms (noneP B)
  exact ⟨fs, a, b, c, d⟩
theorem Far.at {B : Bk} {ms : List IMv} {fs : List Mv} (F : Far B ms fs) {i : Nat} {m : Mv} (h : fs[i]? = some m) : ms[i]? = some m.up := by
  have hi := (List.getElem?_eq_some_iff.mp h).1
  have e : (ms.take fs.length)[i]? = (fs.map Mv.up)[i]? := by rw [F.up]
  rw [List.getElem?_take, if_pos hi, List.getElem?_map, h] at e
  exact e
theorem Far.all {B : Bk} {ms : List IMv} {fs : List Mv} (F : Far B ms fs) (h : fs.length = ms.length) : ms = fs.map Mv.up := by
  have e := F.up
  rw [h, List.take_length] at e
  exact e
/-! numbers in a row, distinct or not -/
theorem dedup_eq (A : List Int) (x : Int) : PyProof.Rows.step_dedup A x = if A.any (· == x) = true then A else A ++ [x] := rfl
theorem firstMet_len {ns : List Int} : ∀ {i : Nat}, i ≤ ns.length → (PyProof.Rows.firstMet (fun j => ns.getD j 0) i).length ≤ i ∧ ((PyProof.Rows.firstMet (fun j => ns.getD j 0) i).length = i → PyProof.Rows.firstMet (fun j => ns.getD j 0) i = ns.take i ∧ (ns.take i).Nodup)
  | 0, _ => ⟨Nat.le_refl _, fun _ => ⟨rfl, List.nodup_nil⟩⟩
  | i + 1, h => by
    have hlt : i < ns.length := h
    have ih := firstMet_len (ns := ns) (i := i) (Nat.le_of_lt hlt)
    have e1 : ns.getD i 0 = ns[i] := by
      rw [List.getD_eq_getElem?_getD, List.getElem?_eq_getElem hlt] <;> rfl
    have e2 : ns.take (i + 1) = ns.take i ++ [ns[i]] := by
      rw [List.take_add_one, List.getElem?_eq_getElem hlt] <;> rfl
    rw [PyProof.Rows.firstMet_succ, dedup_eq]
    by_cases c : (PyProof.Rows.firstMet (fun j => ns.getD j 0) i).any (· == ns.getD i 0) = true
    · rw [if_pos c]
      exact ⟨by omega, fun e => by omega⟩
    · rw [if_neg c, List.length_append]
      refine ⟨by show _ + 1 ≤ _; omega, fun e => ?_⟩
      have e3 : (PyProof.Rows.firstMet (fun j => ns.getD j 0) i).length = i := by
        have : (PyProof.Rows.firstMet (fun j => ns.getD j 0) i).length + 1 = i + 1 := e
        omega
      obtain ⟨e4, e5⟩ := ih.2 e3
      rw [e4, e1, ← e2]
      refine ⟨rfl, ?_⟩
      rw [e2]
      refine List.nodup_append.mpr ⟨e5, List.nodup_cons.mpr ⟨List.not_mem_nil, List.nodup_nil⟩, fun x hx y hy e => ?_⟩
      rw [List.mem_singleton.mp hy] at e
      subst e
      rw [e4, e1] at c
      exact c (List.any_eq_true.mpr ⟨_, hx, beq_self_eq_true _⟩)
theorem few_if_twice : ∀ {ns : List Int}, ¬ ns.Nodup → ∃ m : List Int, (∀ x ∈ ns, x ∈ m) ∧ m.length < ns.length
  | [], h => absurd List.nodup_nil h
  | x :: ns, h => by
    by_cases c : x ∈ ns
    · exact ⟨ns, fun y hy => by
        rcases List.mem_cons.mp hy with e | e
        · rw [e]
          exact c
        · exact e, Nat.lt_succ_self _⟩
    · have h2 : ¬ ns.Nodup := fun z => h (List.nodup_cons.mpr ⟨c, z⟩)
      obtain ⟨m, a, b⟩ := few_if_twice h2
      refine ⟨x :: m, fun y hy => ?_, Nat.succ_lt_succ b⟩
      rcases List.mem_cons.mp hy with e | e
      · rw [e]
        exact List.mem_cons_self
      · exact List.mem_cons_of_mem _ (a y e)


end Rf
namespace Rf
open PySem PySem.Spec PyProof.Rows L2
/-! ### moves that need not fit: the program -/
theorem sub_len : ∀ {l m : List Int}, l.Nodup → (∀ x ∈ l, x ∈ m) → l.length ≤ m.length
  | [], _, _, _ => Nat.zero_le _
  | x :: l, m, hl, h => by
    obtain ⟨h1, h2⟩ := List.nodup_cons.mp hl
    have hx := h x List.mem_cons_self
    have q := sub_len (m := m.erase x) h2 fun y hy => (List.mem_erase_of_ne fun e => h1 (by rw [← e]; exact hy)).mpr (h y (List.mem_cons_of_mem _ hy))
    have e := List.length_erase_of_mem hx
    have p : 0 < m.length := List.length_pos_of_mem hx
    show l.length + 1 ≤ m.length
    omega
/-- how many unlike numbers: all of them, or fewer -/
def DistN (ns : List Int) (n : Nat) : Prop := n ≤ ns.length ∧ (n = ns.length ↔ ns.Nodup)
def tLenSetTG (K : PySem.W.Frag) (ta : TE) : TE := fun σ H Q => ta σ H fun x H1 => ∃ (l : Addr) (ns : List Int), x = .ref l ∧ SqT K H1 l (ns.map V.int) ∧ ns.length ≤ 4000 ∧ ∀ n : Nat, DistN ns n → Q (.int n) H1
theorem pe_lenSetTG {X : Cx} {a : Expr} {ta : TE} {p p2 q pos : Pos} (hc : X.calm = true) (hg : Gl X "len") (hm : X.mg "len" = none) (hg2 : Gl X "set") (hm2 : X.mg "set" = none) (ha : PE X a ta)
    (na : starEach [a] X.env = (false, eval a X.env) :: starEach [] X.env := by rfl) : PE X (.Call (.Name "len" p) [.Call (.Name "set" p2) [a] [] q] [] pos) (tLenSetTG X.K ta) := by
  refine ⟨fun pins s σ H Q I h => ?_⟩
  refine Call_ (ld_blt I hg hm boot_len ?_)
  refine PyProof.Rows.callWith_builtin1 (PyProof.Rows.args_cons ?_ rfl) rfl rfl
  refine Call_ (ld_blt I hg2 hm2 boot_set ?_)
  refine PyProof.Rows.callWith_type1 (PyProof.Rows.args_cons (thn (ha.run pins s σ H _ I h) fun v s1 ⟨x, H1, I1, r1, q1⟩ => PyProof.Rows.args_nil ?_) na) na rfl
  obtain ⟨l, ns, rfl, hq, hl, q1⟩ := q1
  cases r1
  obtain ⟨its, r, pl, hz⟩ := I1.tuple hq
  refine call_set_tupI ns (I1.ok.hd hc) pl (by simpa using RZ.intsAre_vals r) (by unfold scanBound; omega) fun h' tk c hS hcn hk => ?_
  refine PyProof.Rows.args_nil ?_
  obtain ⟨o, es, ep, t, ho, hex, hd, _, hnk, hmem, hsz, hf, hn, _⟩ := hS
  have e : DistN ns es.size := by
    have q1 := fun (m : List Int) (hm : ∀ x ∈ ns, x ∈ m) => sub_len hnk (m := m) fun x hx => hm x (of_decide_eq_true ((hmem x).mpr hx))
    simp only [List.length_map, Array.length_toList] at q1
    refine ⟨q1 ns fun x hx => hx, fun e => ?_, fun hnd => ?_⟩
    · exact Classical.byContradiction fun z => by
        obtain ⟨m, a, b⟩ := few_if_twice z
        have := q1 m a
        omega
    · have q2 := sub_len hnd fun x hx => (hmem x).mp (decide_eq_true hx)
      rw [List.length_map, Array.length_toList] at q2
      exact Nat.le_antisymm (q1 ns fun x hx => hx) q2
  have I2 : Inv X pins σ H1 { s1 with heap := h', toks := tk } := I1.kept fun b o e => hk b o e
  exact call_len_set ho hex hd hf (by have := e.1; omega) ⟨.int es.size, H1, I2.tok _, ⟨_, rfl⟩, q1 _ e⟩
/-- len(set(a list of numbers)) -/
def tLenSetLG (K : PySem.W.Frag) (ta : TE) : TE := fun σ H Q => ta σ H fun x H1 => ∃ (l : Addr) (ns : List Int), x = .ref l ∧ SqL K H1 l (ns.map V.int) ∧ ns.length ≤ 4000 ∧ ∀ n : Nat, DistN ns n → Q (.int n) H1
theorem pe_lenSetLG {X : Cx} {a : Expr} {ta : TE} {p p2 q pos : Pos} (hc : X.calm = true) (hg : Gl X "len") (hm : X.mg "len" = none) (hg2 : Gl X "set") (hm2 : X.mg "set" = none) (ha : PE X a ta)
    (na : starEach [a] X.env = (false, eval a X.env) :: starEach [] X.env := by rfl) : PE X (.Call (.Name "len" p) [.Call (.Name "set" p2) [a] [] q] [] pos) (tLenSetLG X.K ta) := by
  refine ⟨fun pins s σ H Q I h => ?_⟩
  refine Call_ (ld_blt I hg hm boot_len ?_)
  refine PyProof.Rows.callWith_builtin1 (PyProof.Rows.args_cons ?_ rfl) rfl rfl
  refine Call_ (ld_blt I hg2 hm2 boot_set ?_)
  refine PyProof.Rows.callWith_type1 (PyProof.Rows.args_cons (thn (ha.run pins s σ H _ I h) fun v s1 ⟨x, H1, I1, r1, q1⟩ => PyProof.Rows.args_nil ?_) na) na rfl
  obtain ⟨l, ns, rfl, hq, hl, q1⟩ := q1
  cases r1
  obtain ⟨its, r, pl, hz⟩ := I1.list hq
  have hlen : its.toArray.size = ns.length := by rw [List.size_toArray, ← r.length, List.length_map]
  refine call_set_list (I1.ok.hd hc) pl.isList (by simpa using RZ.intsAre_vals r) (by rw [hlen]; unfold scanBound; omega) fun h' tk hS hk => ?_
  refine PyProof.Rows.args_nil ?_
  rw [hlen] at hS
  obtain ⟨o, es, ep, t, ho, hex, hd, _, _, _, hf, hn⟩ := hS
  have I2 : Inv X pins σ H1 { s1 with heap := h', toks := tk } := I1.kept fun b o e => hk b o (Heap.lt_size e) e
  have f := firstMet_len (ns := ns) (Nat.le_refl _)
  rw [List.take_length] at f
  have e : DistN ns es.size := by
    rw [hn]
    refine ⟨f.1, fun e => (f.2 e).2, fun hnd => ?_⟩
    rw [RZ.firstMet_nodup hnd ns.length (Nat.le_refl _), List.take_length]
  exact call_len_set ho hex hd hf (by have := e.1; omega) ⟨.int es.size, H1, I2.tok _, ⟨_, rfl⟩, q1 _ e⟩
/-! where moves stand -/
def MvIAt (H : Hp) (u : Addr) : IMv → Prop
  | .pay k c => H u = some (.tup [.str "pay", .int k, .int c])
  | .ring ks c => ∃ t, H u = some (.tup [.str "ring", .ref t, .int c]) ∧ H t = some (.tup (ks.map V.int))
theorem MvIAt.same {H H' : Hp} {u : Addr} {m : IMv} (A : MvIAt H u m) (s : Same H H') : MvIAt H' u m := by
  cases m with
  | pay k c => exact s _ _ A
  | ring ks c =>
    obtain ⟨t, a, b⟩ := A
    exact ⟨t, s _ _ a, s _ _ b⟩
theorem MvIAt.off {H H' : Hp} {S : Addr → Prop} {u : Addr} {m : IMv} (A : MvIAt H u m) (o : Off S H H') (hS : ∀ a, S a → ∀ xs, H a ≠ some (.tup xs)) : MvIAt H' u m := by
  cases m with
  | pay k c => exact o _ _ A fun z => hS u z _ A
  | ring ks c =>
    obtain ⟨t, a, b⟩ := A
    exact ⟨t, o _ _ a fun z => hS u z _ a, o _ _ b fun z => hS t z _ b⟩
theorem MvIAt.down {H : Hp} {u : Addr} {m : Mv} (A : MvIAt H u m.up) : MvAt H u m := by
  cases m with
  | pay k c => exact A
  | ring ks c =>
    obtain ⟨t, a, b⟩ := A
    exact ⟨t, a, by rw [numV_ints]; exact b⟩
theorem mvI_tup {H : Hp} {u : Addr} {m : IMv} (A : MvIAt H u m) : ∃ x, H u = some (.tup [.str m.word, x, .int m.coins]) := by
  cases m with
  | pay k c => exact ⟨_, A⟩
  | ring ks c =>
    obtain ⟨t, h, _⟩ := A
    exact ⟨_, h⟩
def MvsIAt (H : Hp) (us : List Addr) (ms : List IMv) : Prop := us.length = ms.length ∧ ∀ (i : Nat) (u : Addr) (m : IMv), us[i]? = some u → ms[i]? = some m → MvIAt H u m
theorem MvsIAt.same {H H' : Hp} {us : List Addr} {ms : List IMv} (A : MvsIAt H us ms) (s : Same H H') : MvsIAt H' us ms := ⟨A.1, fun i u m h1 h2 => (A.2 i u m h1 h2).same s⟩
theorem MvsIAt.off {H H' : Hp} {S : Addr → Prop} {us : List Addr} {ms : List IMv} (A : MvsIAt H us ms) (o : Off S H H') (hS : ∀ a, S a → ∀ xs, H a ≠ some (.tup xs)) : MvsIAt H' us ms := ⟨A.1, fun i u m h1 h2 => (A.2 i u m h1 h2).off o hS⟩
theorem MvsIAt.app {H : Hp} {us : List Addr} {ms : List IMv} {u : Addr} {m : IMv} (A : MvsIAt H us ms) (h : MvIAt H u m) : MvsIAt H (us ++ [u]) (ms ++ [m]) := by
  refine ⟨by rw [List.length_append, List.length_append, A.1]; rfl, fun i t q h1 h2 => ?_⟩
  by_cases hi : i < us.length
  · rw [List.getElem?_append_left hi] at h1
    rw [List.getElem?_append_left (by rw [← A.1]; exact hi)] at h2
    exact A.2 i t q h1 h2
  · have e : i = us.length := by
      have := (List.getElem?_eq_some_iff.mp h1).1
      rw [List.length_append] at this
      have : i < us.length + 1 := this
      omega
    subst e
    rw [List.getElem?_append_right (Nat.le_refl _), Nat.sub_self] at h1
    rw [List.getElem?_append_right (by rw [A.1]; exact Nat.le_refl _), A.1, Nat.sub_self] at h2
    cases h1
    cases h2
    exact h
theorem hc_tup {H : Hp} {h c : Addr} (R : RngAt H h c) : ∀ a, isHC h c a → ∀ xs, H a ≠ some (.tup xs) := fun a ha xs e => by
  obtain ⟨ne, x, p, cells, h1, h2, _⟩ := R
  rcases ha with z | z
  · rw [z, h1] at e; cases e
  · rw [z, h2] at e; cases e
/-! contracts: both ways -/
def spAreOwedI (K : PySem.W.Frag) : Sp := fun vs H Q _ => ∃ (cl p t : Addr) (ts : List Addr) (B : Bk) (P : List Int) (ks : List Int) (c : Int), vs = [.ref cl, .ref p, .ref t, .int c] ∧ ClAt K H cl ts B ∧ SqL K H p (P.map V.int) ∧ P.length = B.claims.length ∧ B.claims.length ≤ 24 ∧ SqT K H t (ks.map V.int) ∧ Q (.bl (decide (OwedI B P ks c))) H
def spIsRingI (K : PySem.W.Frag) : Sp := fun vs H Q _ => ∃ (cl t : Addr) (ts : List Addr) (B : Bk) (ks : List Nat), vs = [.ref cl, .ref t] ∧ ClAt K H cl ts B ∧ B.claims.length ≤ 24 ∧ SqT K H t (numV ks) ∧ ks.length ≤ 1000 ∧ (∀ k ∈ ks, k < B.claims.length) ∧ (IsRing B ks → Q (.bl true) H) ∧ (¬ IsRing B ks → Q (.bl false) H)
def spFitsI (K : PySem.W.Frag) : Sp := fun vs H Q _ => ∃ (cl p he u : Addr) (ts : List Addr) (B : Bk) (P : List Int) (m : IMv), vs = [.ref cl, .ref p, .ref he, .ref u] ∧ ClAt K H cl ts B ∧ Good B ∧ SqL K H p (P.map V.int) ∧ P.length = B.claims.length ∧ SqL K H he ((leftOf B P).map V.int) ∧ MvIAt H u m ∧ m.nums.length ≤ 1000 ∧ (FitsI B P m → ∀ H', Same H H' → Q (.bl true) H') ∧ (¬ FitsI B P m → ∀ H', Same H H' → Q (.bl false) H')
theorem owedI_take {B : Bk} {P ks : List Int} {c : Int} {i : Nat} {k : Int} (h : OwedI B P (ks.take i) c) (hk : ks[i]? = some k) (h2 : (0 ≤ k ∧ k < (B.claims.length : Int)) ∧ g P k.toNat + c ≤ amt B k.toNat) : OwedI B P (ks.take (i + 1)) c := by
  refine ⟨h.1, fun x hx => ?_⟩
  rw [List.take_add_one, hk] at hx
  rcases List.mem_append.mp hx with e | e
  · exact h.2 x e
  · have e2 : x ∈ [k] := e
    rw [List.mem_singleton.mp e2]
    exact h2
section
variable {P : Program} {w : World} {K : PySem.W.Frag} {mg : Str → Option Value} {base : Heap}
theorem sc_areowed : FnScope ["claims", "payments", "numbers", "coins", "number", "_", "amount"] ["claims", "payments", "numbers", "coins"] (defScope s_areowed) := ⟨rfl, rfl, rfl, by decide +kernel, rfl, by decide +kernel, by decide +kernel⟩
theorem ok_areowedI {f : Addr} {fd : FuncData} (D : DefAt K mg "_are_owed" s_areowed ["claims", "payments", "numbers", "coins"] f fd) (m_len : mg "len" = none) : FnOk P w K mg base CX0 1 f fd ["claims", "payments", "numbers", "coins"] (spAreOwedI K) := by
  refine D.F.ok sc_areowed (fun vs H Q E h => ?_) (fun cdv A outer s H vs Q E hr h => ?_)
  · obtain ⟨cl, p, t, ts, B, P, ks, c, rfl, _⟩ := h
    rfl
  · obtain ⟨cl, p, t, ts, B, P, ks, c, rfl, A, hp, hl, m1, ht, k⟩ := h
    have lq : (ts.map V.ref).length = B.claims.length := by rw [List.length_map, A.q.1]
    refine ⟨_, pss_cons (ps_if (pt_cmpR op_lt (pv 3) pe_int (nomark _)) (pss_one (ps_ret pe_bl)) pss_nil)
        (pss_cons (ps_for PassesOwn.never rfl (pi_tup (pv 2)) (pg_name (i := 4) sc_areowed.nd rfl (.inl rfl)) (pss_cons (ps_if (pt_not (pt_chain op_le op_lt pe_int (pv 4) (pe_callB (r := rLen K) call_len (by rfl) m_len (by decide +kernel) (pa_cons (pv 0) pa_nil)))) (pss_one (ps_ret pe_bl)) pss_nil)
          (pss_cons (ps_asg (pe_ix (r := rIxT K) ix_tup (pv 0) (pv 4) (fun _ _ => rfl)) (pg_tup rfl (pgs_cons (pg_name (i := 5) sc_areowed.nd rfl (.inl rfl)) (pgs_cons (pg_name (i := 5) sc_areowed.nd rfl (.inl rfl)) (pgs_cons (pg_name (i := 6) sc_areowed.nd rfl (.inl rfl)) (pgs_cons (pg_name (i := 5) sc_areowed.nd rfl (.inl rfl)) pgs_nil))))))
          (pss_one (ps_if (pt_cmpR op_gt (pv 3) (pe_op op_sub (pv 6) (pe_ix (r := rIxL K) ix_list (pv 1) (pv 4) (fun _ _ => rfl))) (nomark _)) (pss_one (ps_ret pe_bl)) pss_nil)))))
        (pss_one (ps_ret pe_bl))), ?_⟩
    refine sq_whenP (p := c < 1) (fun Q k => ⟨_, rfl, _, _, rfl, rfl, _, rfl, k⟩) (fun c1 => ?_) (fun c1 => ?_)
    · rw [decide_eq_false (fun z : OwedI B P ks c => by have := z.1; omega)] at k
      exact k
    refine sq_forT (a := t) (xs := ks.map V.int) (fun Q k => ⟨_, rfl, k⟩) ht
      (fun i σ' H1 => H1 = H ∧ OwedI B P (ks.take i) c ∧ ∃ y4 y5 y6, σ' = [some (.ref cl), some (.ref p), some (.ref t), some (.int c), y4, y5, y6]) ⟨rfl, ⟨by omega, fun x hx => by cases hx⟩, _, _, _, rfl⟩ (fun i σ' H1 _ hW => by rw [hW.1]; exact ht) (fun i z σ' H1 hz hW => ?_) (fun σ' H1 hW => ?_)
    · obtain ⟨rfl, hO, y4, y5, y6, rfl⟩ := hW
      obtain ⟨k', hk', rfl⟩ : ∃ k', ks[i]? = some k' ∧ z = .int k' := by
        rw [List.getElem?_map] at hz
        cases e : ks[i]? with
        | none => rw [e] at hz; cases hz
        | some k' => rw [e] at hz; exact ⟨k', rfl, (Option.some.inj hz).symm⟩
      have hbad : ¬ ((0 ≤ k' ∧ k' < (B.claims.length : Int)) ∧ g P k'.toNat + c ≤ amt B k'.toNat) → Q (.bl false) H1 := fun n => by
        rw [decide_eq_false (fun z : OwedI B P ks c => n (z.2 k' (List.mem_of_getElem? hk')))] at k
        exact k
      refine sq_whenP (p := ¬ (0 ≤ k' ∧ k' < (B.claims.length : Int))) (fun Q k => ?_) (fun c2 => hbad fun z => c2 z.1) (fun c2 => ?_)
      · rw [decide_not] at k
        by_cases c2 : 0 ≤ k'
        · refine ⟨_, rfl, _, _, rfl, rfl, true, dec_t c2, iteT ⟨_, rfl, cl, _, rfl, .inr A.t, _, _, rfl, rfl, _, rfl, ?_⟩⟩
          rw [lq, decide_eq_decide.mpr (show (k' < (B.claims.length : Int)) ↔ (0 ≤ k' ∧ k' < (B.claims.length : Int)) from ⟨fun z => ⟨c2, z⟩, fun z => z.2⟩)]
          exact k
        · rw [decide_eq_false (fun z : 0 ≤ k' ∧ k' < (B.claims.length : Int) => c2 z.1)] at k
          exact ⟨_, rfl, _, _, rfl, rfl, false, dec_f c2, iteF ⟨_, rfl, k⟩⟩
      have c3 : 0 ≤ k' ∧ k' < (B.claims.length : Int) := Classical.byContradiction c2
      obtain ⟨n, rfl⟩ := Int.eq_ofNat_of_zero_le c3.1
      have hkl : n < B.claims.length := by omega
      obtain ⟨u, hat, htq⟩ := A.get hkl
      refine ⟨_, rfl, _, rfl, cl, _, _, _, rfl, rfl, A.t, hat, u, _, rfl, htq, rfl, _, _, rfl, _, _, rfl, _, _, rfl, _, _, rfl, rfl, ?_⟩
      dsimp only
      refine if_ifP (p := c > amt B n - g P n) (fun Q k => ⟨_, rfl, _, rfl, _, rfl, _, rfl, p, _, _, _, rfl, rfl, hp, atI_g rfl (by rw [hl]; exact hkl), _, _, rfl, rfl, _, _, rfl, rfl, _, rfl, k⟩) (fun hm => hbad fun z => ?_) (fun hm => ⟨rfl, owedI_take hO hk' ⟨c3, ?_⟩, _, _, _, rfl⟩)
      · have := z.2
        rw [Int.toNat_natCast] at this
        omega
      · rw [Int.toNat_natCast]
        omega
    · obtain ⟨rfl, hO, _⟩ := hW
      rw [List.length_map, List.take_length] at hO
      rw [decide_eq_true hO] at k
      exact k
theorem sc_isring : FnScope ["claims", "numbers", "_", "house", "number", "debtor", "creditor"] ["claims", "numbers"] (defScope s_isring) := ⟨rfl, rfl, rfl, by decide +kernel, rfl, by decide +kernel, by decide +kernel⟩
theorem ok_isringI {f : Addr} {fd : FuncData} (D : DefAt K mg "_is_ring" s_isring ["claims", "numbers"] f fd) (m_len : mg "len" = none) (m_set : mg "set" = none) : FnOk P w K mg base CX0 1 f fd ["claims", "numbers"] (spIsRingI K) := by
  refine D.F.ok sc_isring (fun vs H Q E h => ?_) (fun cdv A outer s H vs Q E hr h => ?_)
  · obtain ⟨cl, t, ts, B, ks, rfl, _⟩ := h
    rfl
  · obtain ⟨cl, t, ts, B, ks, rfl, A, m1, ht, hks, hk, k1, k0⟩ := h
    have hln : (upN ks).length = ks.length := List.length_map _
    have hnd : (upN ks).Nodup ↔ ks.Nodup := ⟨fun z => (List.pairwise_map.mp z).imp fun h e => h (congrArg Int.ofNat e), fun z => List.pairwise_map.mpr (z.imp fun h e => h (Int.ofNat.inj e))⟩
    refine ⟨_, pss_cons (ps_if (PW.pt (pw_or (pt_cmpR op_lt (pe_callB (r := rLen K) call_len (by rfl) m_len (by decide +kernel) (pa_cons (pv 1) pa_nil)) pe_int (nomark _)) (pw_or1 (pt_cmpR op_lt (pe_lenSetTG rfl (by rfl) m_len (by rfl) m_set (pv 1)) (pe_callB (r := rLen K) call_len (by rfl) m_len (by decide +kernel) (pa_cons (pv 1) pa_nil)) (nomark _))))) (pss_one (ps_ret pe_bl)) pss_nil)
        (pss_cons (ps_asg (pe_ix (r := rIxT K) ix_tup (pv 0) (pe_ix (r := rIxT K) ix_tup (pv 1) (pe_un un_neg pe_int) (fun _ _ => rfl)) (fun _ _ => rfl)) (pg_tup rfl (pgs_cons (pg_name (i := 2) sc_isring.nd rfl (.inl rfl)) (pgs_cons (pg_name (i := 3) sc_isring.nd rfl (.inl rfl)) (pgs_cons (pg_name (i := 2) sc_isring.nd rfl (.inl rfl)) (pgs_cons (pg_name (i := 2) sc_isring.nd rfl (.inl rfl)) pgs_nil))))))
        (pss_cons (ps_for PassesOwn.never rfl (pi_tup (pv 1)) (pg_name (i := 4) sc_isring.nd rfl (.inl rfl)) (pss_cons (ps_asg (pe_ix (r := rIxT K) ix_tup (pv 0) (pv 4) (fun _ _ => rfl)) (pg_tup rfl (pgs_cons (pg_name (i := 5) sc_isring.nd rfl (.inl rfl)) (pgs_cons (pg_name (i := 6) sc_isring.nd rfl (.inl rfl)) (pgs_cons (pg_name (i := 2) sc_isring.nd rfl (.inl rfl)) (pgs_cons (pg_name (i := 2) sc_isring.nd rfl (.inl rfl)) pgs_nil))))))
          (pss_cons (ps_if (pt_cmpR op_ne (pv 5) (pv 3) (nomark _)) (pss_one (ps_ret pe_bl)) pss_nil)
          (pss_one (ps_set (i := 3) sc_isring.nd rfl (.inl rfl) (pv 6))))))
        (pss_one (ps_ret pe_bl)))), ?_⟩
    refine sq_if (fun b H' => H' = H ∧ (b = false → 2 ≤ ks.length ∧ ks.Nodup) ∧ (b = true → ¬ (2 ≤ ks.length ∧ ks.Nodup))) (fun Q k => ?_) (fun H' h => ?_) (fun H' h => ?_)
    · by_cases c : ks.length < 2
      · exact ⟨_, rfl, t, _, rfl, .inr ht, _, _, rfl, rfl, true, dec_t (by rw [numV_len]; omega), iteT (k _ _ ⟨rfl, fun z => absurd z (by decide), fun _ z => by omega⟩)⟩
      · refine ⟨_, rfl, t, _, rfl, .inr ht, _, _, rfl, rfl, false, dec_f (by rw [numV_len]; omega), iteF ⟨_, rfl, t, upN ks, rfl, by rw [numV_ints] at ht; exact ht, by omega, fun n hn => ⟨_, rfl, t, _, rfl, .inr ht, _, _, rfl, rfl, _, rfl, k _ _ ⟨rfl, fun z => ?_, fun z y => ?_⟩⟩⟩⟩
        · have z1 := of_decide_eq_false z
          rw [numV_len] at z1
          have z2 := hn.1
          rw [hln] at z2
          exact ⟨by omega, hnd.mp (hn.2.mp (by rw [hln]; omega))⟩
        · have z1 := of_decide_eq_true z
          rw [numV_len] at z1
          have z2 := hn.2.mpr (hnd.mpr y.2)
          rw [hln] at z2
          omega
    · exact h.1 ▸ k0 fun R => h.2.2 rfl ⟨R.two, R.nd⟩
    obtain ⟨rfl, h2, _⟩ := h
    obtain ⟨two, nd⟩ := h2 rfl
    have hne : ks ≠ [] := fun z => by rw [z] at two; exact absurd two (by decide)
    obtain ⟨ini, a, hks'⟩ : ∃ ini a, ks = ini ++ [a] := ⟨ks.dropLast, ks.getLast hne, (List.dropLast_concat_getLast hne).symm⟩
    have hal := hk a (by rw [hks']; exact List.mem_append_right _ List.mem_cons_self)
    have key := ring_leads (B := B) hks'
    obtain ⟨u, hat, htq⟩ := A.get hal
    refine ⟨_, rfl, _, rfl, _, rfl, t, _, _, .int (a : Int), rfl, rfl, ht, ?_, cl, _, _, _, rfl, rfl, A.t, hat, u, _, rfl, htq, rfl, _, _, rfl, _, _, rfl, _, _, rfl, _, _, rfl, rfl, ?_⟩
    · rw [hks', numV_app]
      exact atI_last _ _
    dsimp only
    refine sq_forT (a := t) (xs := numV ks) (fun Q k => ⟨_, rfl, k⟩) ht
      (fun i σ' H1 => H1 = H' ∧ Leads B (B.clm a).c (ks.take i) ∧ ∃ hh, hh = lastC B (B.clm a).c (ks.take i) ∧ ∃ y2 y4 y5 y6, σ' = [some (.ref cl), some (.ref t), y2, some (.int hh), y4, y5, y6]) ⟨rfl, True.intro, _, rfl, _, _, _, _, rfl⟩ (fun i σ' H1 _ hW => by rw [hW.1]; exact ht) (fun i z σ' H1 hz hW => ?_) (fun σ' H1 hW => ?_)
    · obtain ⟨rfl, hd, hh, ehh, y2, y4, y5, y6, rfl⟩ := hW
      obtain ⟨k', hk', rfl⟩ := numV_get hz
      have hkl := hk k' (List.mem_of_getElem? hk')
      obtain ⟨u, hat, htq⟩ := A.get hkl
      have et : ks.take (i + 1) = ks.take i ++ [k'] := by
        rw [List.take_add_one, hk']
        rfl
      refine ⟨_, rfl, _, rfl, cl, _, _, _, rfl, rfl, A.t, hat, u, _, rfl, htq, rfl, _, _, rfl, _, _, rfl, _, _, rfl, _, _, rfl, rfl, ?_⟩
      dsimp only
      refine sq_whenP (p := ¬ ((B.clm k').d = hh)) (fun Q k => ⟨_, rfl, _, rfl, rfl, _, rfl, by rw [dec_vint, ← decide_not]; exact k⟩) (fun c => ?_) (fun c => ?_)
      · refine k0 fun R => c ?_
        rw [ehh]
        have q := (key.mp R).2.2
        have e : ks = ks.take (i + 1) ++ ks.drop (i + 1) := (List.take_append_drop _ _).symm
        rw [e, et, leads_app, leads_app] at q
        exact q.1.2.1
      · refine ⟨_, rfl, rfl, ?_, (B.clm k').c, by rw [et, lastC_app], _, _, _, _, rfl⟩
        rw [et, leads_app, ← ehh]
        exact ⟨hd, Classical.byContradiction c, True.intro⟩
    · obtain ⟨rfl, hd, _⟩ := hW
      rw [numV_len, List.take_length] at hd
      exact k1 (key.mpr ⟨two, nd, hd⟩)
theorem sc_fits : FnScope ["claims", "payments", "held", "move", "word", "what", "coins", "debtor", "_"] ["claims", "payments", "held", "move"] (defScope s_fits) := ⟨rfl, rfl, rfl, by decide +kernel, rfl, by decide +kernel, by decide +kernel⟩
theorem ok_fitsI {f : Addr} {fd : FuncData} (D : DefAt K mg "_fits" s_fits ["claims", "payments", "held", "move"] f fd) (m_len : mg "len" = none) (m_set : mg "set" = none)
    {f1 : Addr} {fd1 : FuncData} (D_areowed : DefAt K mg "_are_owed" s_areowed ["claims", "payments", "numbers", "coins"] f1 fd1)
    {f2 : Addr} {fd2 : FuncData} (D_isring : DefAt K mg "_is_ring" s_isring ["claims", "numbers"] f2 fd2) : FnOk P w K mg base CX0 2 f fd ["claims", "payments", "held", "move"] (spFitsI K) := by
  have G_areowed : FnOk P w K mg base CX0 1 f1 fd1 ["claims", "payments", "numbers", "coins"] (spAreOwedI K) := ok_areowedI D_areowed m_len
  have G_isring : FnOk P w K mg base CX0 1 f2 fd2 ["claims", "numbers"] (spIsRingI K) := ok_isringI D_isring m_len m_set
  refine D.F.ok sc_fits (fun vs H Q E h => ?_) (fun cdv A outer s H vs Q E hr h => ?_)
  · obtain ⟨cl, p, he, u, ts, B, P, m, rfl, _⟩ := h
    rfl
  · obtain ⟨cl, p, he, u, ts, B, P, m, rfl, A, G, hp, hl, hhe, hu, hml, k1, k0⟩ := h
    refine ⟨_, pss_cons (ps_asg (pv 3) (pg_tup rfl (pgs_cons (pg_name (i := 4) sc_fits.nd rfl (.inl rfl)) (pgs_cons (pg_name (i := 5) sc_fits.nd rfl (.inl rfl)) (pgs_cons (pg_name (i := 6) sc_fits.nd rfl (.inl rfl)) pgs_nil)))))
        (pss_cons (ps_if (pt_cmpR op_eq (pv 4) pe_str (nomark _)) (pss_one (ps_ret (pe_and (pe_call G_areowed (hr.mono (by decide)) (by rfl) D_areowed.g D_areowed.F.kp D_areowed.b .nil pass0 (pa_cons (pv 0) (pa_cons (pv 1) (pa_cons (pv 5) (pa_cons (pv 6) pa_nil))))) (pe_one (pe_call G_isring (hr.mono (by decide)) (by rfl) D_isring.g D_isring.F.kp D_isring.b .nil pass0 (pa_cons (pv 0) (pa_cons (pv 5) pa_nil))))))) pss_nil)
        (pss_cons (ps_if (PW.pt (pw_and (pt_cmpR op_eq (pv 4) pe_str (nomark _)) (pw_and1 (pt_val (pe_call G_areowed (hr.mono (by decide)) (by rfl) D_areowed.g D_areowed.F.kp D_areowed.b .nil pass0 (pa_cons (pv 0) (pa_cons (pv 1) (pa_cons (pe_tup (pa_cons (pv 5) pa_nil)) (pa_cons (pv 6) pa_nil))))))))) (pss_cons (ps_asg (pe_ix (r := rIxT K) ix_tup (pv 0) (pv 5) (fun _ _ => rfl)) (pg_tup rfl (pgs_cons (pg_name (i := 7) sc_fits.nd rfl (.inl rfl)) (pgs_cons (pg_name (i := 8) sc_fits.nd rfl (.inl rfl)) (pgs_cons (pg_name (i := 8) sc_fits.nd rfl (.inl rfl)) (pgs_cons (pg_name (i := 8) sc_fits.nd rfl (.inl rfl)) pgs_nil))))))
          (pss_one (ps_ret (pe_cmpR op_le (pv 6) (pe_ix (r := rIxL K) ix_list (pv 2) (pv 7) (fun _ _ => rfl)) (nomark _))))) pss_nil)
        (pss_one (ps_ret pe_bl)))), ?_⟩
    cases m with
    | pay k' c =>
      have hu' : H u = some (.tup [.str "pay", .int k', .int c]) := hu
      rw [fitsI_pay] at k1 k0
      refine ⟨_, rfl, u, _, rfl, st_of hu', rfl, _, _, rfl, _, _, rfl, _, _, rfl, rfl, ?_⟩
      dsimp only
      refine sq_no (fun H' => H' = H) (fun Q k => ⟨_, rfl, rfl, _, rfl, ?_⟩) (fun H' e => ?_)
      · rw [str_ne pay_ring]
        exact k _ rfl
      subst e
      refine sq_if (fun b H1 => b = decide (OwedI B P [k'] c) ∧ Same H' H1) (fun Q k => ⟨_, rfl, rfl, _, rfl, ?_⟩) (fun H1 h1 => ?_) (fun H1 h1 => ?_)
      · rw [str_eq]
        exact iteT ⟨_, rfl, _, rfl, _, rfl, by show 1 ≤ sizeLine; decide, fun t nt => ⟨_, rfl, cl, p, t, ts, B, P, [k'], c, rfl, A.same (Same.new nt), (Same.new nt).seq hp, hl, G.m1, st_of upd_same, _, rfl, k _ _ ⟨rfl, Same.new nt⟩⟩⟩
      · obtain ⟨ho, s1⟩ := h1
        have hO := of_decide_eq_true ho.symm
        obtain ⟨⟨q0, q1⟩, q2⟩ := hO.2 k' List.mem_cons_self
        obtain ⟨n, rfl⟩ := Int.eq_ofNat_of_zero_le q0
        have hkl : n < B.claims.length := by omega
        rw [Int.toNat_natCast] at k1 k0
        have gc := G.clm hkl
        obtain ⟨x, ex, hx⟩ := nat_of gc.d0 gc.d1
        have e2 : (B.clm n).d.toNat = x := by omega
        rw [e2] at k1 k0
        obtain ⟨t, hat, htq⟩ := (A.same s1).get hkl
        refine ⟨_, rfl, _, rfl, cl, _, _, _, rfl, rfl, (A.same s1).t, hat, t, _, rfl, htq, rfl, _, _, rfl, _, _, rfl, _, _, rfl, _, _, rfl, rfl, ?_⟩
        refine ⟨_, rfl, _, rfl, _, rfl, he, _, _, _, rfl, rfl, s1.seq hhe, atI_g ex (by rw [leftOf_len]; exact hx), _, _, rfl, rfl, ?_⟩
        show Q (V.bl (decide (c ≤ g (leftOf B P) x))) H1
        by_cases c2 : c ≤ g (leftOf B P) x
        · rw [decide_eq_true c2]
          exact k1 ⟨hO, c2⟩ _ s1
        · rw [decide_eq_false c2]
          exact k0 (fun z => c2 z.2) _ s1
      · obtain ⟨ho, s1⟩ := h1
        exact k0 (fun z => of_decide_eq_false ho.symm z.1) _ s1
    | ring ks c =>
      obtain ⟨t, hu', ht⟩ := hu
      rw [fitsI_ring] at k1 k0
      refine ⟨_, rfl, u, _, rfl, st_of hu', rfl, _, _, rfl, _, _, rfl, _, _, rfl, rfl, ?_⟩
      dsimp only
      refine sq_if (fun b H1 => b = true ∧ H1 = H) (fun Q k => ⟨_, rfl, rfl, _, rfl, ?_⟩) (fun H1 h1 => ?_) (fun H1 h1 => ?_)
      · rw [str_eq]
        exact k _ _ ⟨rfl, rfl⟩
      · obtain ⟨_, rfl⟩ := h1
        refine ⟨_, rfl, _, rfl, _, rfl, _, rfl, cl, p, t, ts, B, P, ks, c, rfl, A, hp, hl, G.m1, st_of ht, ?_⟩
        by_cases hO : OwedI B P ks c
        · rw [decide_eq_true hO]
          have eN : upN (ks.map Int.toNat) = ks := toN_up fun k hk => (hO.2 k hk).1
          refine ⟨_, rfl, iteT ⟨_, rfl, _, rfl, cl, t, ts, B, ks.map Int.toNat, rfl, A, G.m1, ?_, by rw [List.length_map]; exact hml, fun k hk => ?_, fun R => k1 ⟨hO, R⟩ _ (Same.refl _), fun R => k0 (fun z => R z.2) _ (Same.refl _)⟩⟩
          · rw [numV_ints]
            show SqT K H1 t ((upN (ks.map Int.toNat)).map V.int)
            rw [eN]
            exact st_of ht
          · obtain ⟨x, hx, rfl⟩ := List.mem_map.mp hk
            have := (hO.2 x hx).1
            omega
        · rw [decide_eq_false hO]
          exact ⟨_, rfl, iteF (k0 (fun z => hO z.1) _ (Same.refl _))⟩
      · cases h1.1
end


end Rf
namespace Rf
open PySem PySem.Spec PyProof.Rows L2
/-! ### the program's playing of any moves -/
/-- what is handed to a player of moves, and how far they fit -/
def PlayIn (K : PySem.W.Frag) (vs : List V) (H : Hp) (b ca cl : Addr) (ts : List Addr) (B : Bk) (l : Addr) (us : List Addr) (ms : List IMv) (fs : List Mv) (rest : Prop) : Prop := vs = [.ref b, .ref l] ∧ BookAt K H b ca cl ts B ∧ Good B ∧ SqL K H l (us.map V.ref) ∧ MvsIAt H us ms ∧ ms.length ≤ 500 ∧ (∀ m ∈ ms, m.nums.length ≤ 1000) ∧ Far B ms fs ∧ rest
/-- all is played: what is told -/
def Told (H : Hp) (B : Bk) (fs : List Mv) (Q : VK) : Prop := ∀ t p he H', Same H H' → H t = none → H p = none → H he = none → H' t = some (.tup [.ref p, .ref he]) → H' p = some (.lst ((playedOf (noneP B) fs).map V.int)) → H' he = some (.lst ((leftOf B (playedOf (noneP B) fs)).map V.int)) → Q (.ref t) H'
def spPlayedI (K : PySem.W.Frag) (C : Addr) : Sp := fun vs H Q E => ∃ b ca cl ts B l us ms fs, PlayIn K vs H b ca cl ts B l us ms fs ((fs.length = ms.length ∧ Told H B fs Q) ∨ (fs.length < ms.length ∧ ∀ d H', Same H H' → H d = none → H' d = some (.xd [("number", .int (fs.length : Int))]) → E (.ref C) (some d) H'))
def spPlayed0 (K : PySem.W.Frag) : Sp := fun vs H Q _ => ∃ b ca cl ts B l us ms fs, PlayIn K vs H b ca cl ts B l us ms fs (fs.length = ms.length ∧ Told H B fs Q)
section
variable {P : Program} {w : World} {K : PySem.W.Frag} {mg : Str → Option Value} {base : Heap}
theorem sc_played : FnScope ["book", "moves", "cash", "claims", "payments", "held", "number", "move"] ["book", "moves"] (defScope s_played) := ⟨rfl, rfl, rfl, by decide +kernel, rfl, by decide +kernel, by decide +kernel⟩
/- 0:book 1:moves 2:cash 3:claims 4:payments 5:held 6:number 7:move -/
theorem ok_playedI {f : Addr} {fd : FuncData} (D : DefAt K mg "played" s_played ["book", "moves"] f fd) (m_len : mg "len" = none) (m_enumerate : mg "enumerate" = none) (m_list : mg "list" = none) (m_set : mg "set" = none) (L : Lims mg)
    {f0 : Addr} {fd0 : FuncData} (D_wrong : DefAt K mg "_wrong_in_claim" s_wrong ["claim", "houses"] f0 fd0)
    {f5 : Addr} {fd5 : FuncData} (D_need : DefAt K mg "need_book" s_need ["book"] f5 fd5)
    {f1 : Addr} {fd1 : FuncData} (D_areowed : DefAt K mg "_are_owed" s_areowed ["claims", "payments", "numbers", "coins"] f1 fd1)
    {f2 : Addr} {fd2 : FuncData} (D_isring : DefAt K mg "_is_ring" s_isring ["claims", "numbers"] f2 fd2)
    {f3 : Addr} {fd3 : FuncData} (D_fits : DefAt K mg "_fits" s_fits ["claims", "payments", "held", "move"] f3 fd3)
    {f4 : Addr} {fd4 : FuncData} (D_makemv : DefAt K mg "_make_move" s_makemv ["claims", "payments", "held", "move"] f4 fd4)
    {C fi cc cda : Addr} {fdi : FuncData} (X_NoMove : InitAt P K mg "NoMove" C fi cc cda fdi "NoMove.__init__" s_nminit ["self", "number"]) (hnum : PySem.W.findIn K (.ref C) "number" = some none) : FnOk P w K mg base (L2.CX P w) 5 f fd ["book", "moves"] (spPlayedI K C) := by
  have G_need := ok_need (P := P) (w := w) (base := base) D_need L m_len m_enumerate D_wrong
  have G_fits : FnOk P w K mg base CX0 2 f3 fd3 ["claims", "payments", "held", "move"] (spFitsI K) := ok_fitsI D_fits m_len m_set D_areowed D_isring
  have G_makemv : FnOk P w K mg base CX0 1 f4 fd4 ["claims", "payments", "held", "move"] (spMakeMv K) := ok_makemv D_makemv
  have G_nminit : FnOk P w K mg base CX0 1 fi fdi ["self", "number"] (spOne C "number") := ok_nminit X_NoMove hnum
  refine D.F.okX sc_played (fun vs H Q E h => ?_) (fun cdv A outer s H vs Q E hr h => ?_)
  · obtain ⟨b, ca, cl, ts, B, l, us, ms, fs, rfl, _⟩ := h
    rfl
  · obtain ⟨b, ca, cl, ts, B, l, us, ms, fs, rfl, A, G, hl, hus, hml, hnl, hfar, h⟩ := h
    have m1 := G.m1
    have lq : (ts.map V.ref).length = B.claims.length := by rw [List.length_map, A.hq.1]
    refine ⟨_, pss_cons (ps_expr (pe_call G_need (hr.mono (by decide)) (by rfl) D_need.g D_need.F.kp D_need.b .nil pass0 (pa_cons (pv 0) pa_nil)))
        (pss_cons (ps_asg (pv 0) (pg_tup rfl (pgs_cons (pg_name (i := 2) sc_played.nd rfl (.inl rfl)) (pgs_cons (pg_name (i := 3) sc_played.nd rfl (.inl rfl)) pgs_nil))))
        (pss_cons (ps_set (i := 4) sc_played.nd rfl (.inl rfl) (pe_op op_rep (pe_lst (pa_cons pe_int pa_nil)) (pe_callB (r := rLen K) call_len (by rfl) m_len (by decide +kernel) (pa_cons (pv 3) pa_nil))))
        (pss_cons (ps_set (i := 5) sc_played.nd rfl (.inl rfl) (pe_callTy (r := rListOf K) call_listOf (by rfl) m_list (by decide +kernel) (pa_cons (pv 2) pa_nil)))
        (pss_cons (ps_for (passes_of rfl) rfl (pi_enum (by rfl) m_enumerate (pa_cons (pv 1) pa_nil)) (pg_tup rfl (pgs_cons (pg_name (i := 6) sc_played.nd rfl (.inl rfl)) (pgs_cons (pg_name (i := 7) sc_played.nd rfl (.inl rfl)) pgs_nil))) (pss_cons (ps_if (pt_not (pt_val (pe_call G_fits (hr.mono (by decide)) (by rfl) D_fits.g D_fits.F.kp D_fits.b .nil pass0 (pa_cons (pv 3) (pa_cons (pv 4) (pa_cons (pv 5) (pa_cons (pv 7) pa_nil))))))) (pss_one (ps_raise rfl (takes_of rfl rfl rfl rfl) (pmk_oex X_NoMove.T X_NoMove.iC X_NoMove.tI G_nminit (hr.mono (by decide)) X_NoMove.b .nil pass0 (by rfl) X_NoMove.gC (pa_cons (pv 6) pa_nil)))) pss_nil)
          (pss_one (ps_expr (pe_call G_makemv (hr.mono (by decide)) (by rfl) D_makemv.g D_makemv.F.kp D_makemv.b .nil pass0 (pa_cons (pv 3) (pa_cons (pv 4) (pa_cons (pv 5) (pa_cons (pv 7) pa_nil)))))))))
        (pss_one (ps_ret (pe_tup (pa_cons (pv 4) (pa_cons (pv 5) pa_nil))))))))), ?_⟩
    refine sq_drop (fun H1 => Same H H1) (fun Q k => ⟨_, rfl, b, ca, cl, ts, B, rfl, A, G, fun H1 s1 => k _ H1 s1⟩) (fun H1 s1 => ?_)
    have A1 := A.same s1
    refine sq_tup2 (fun Q k => ⟨_, rfl, k⟩) A1.hb ?_
    refine sq_new (.lst ((noneP B).map V.int)) (fun Q k => ?_) (fun p H2 np' s2 hp => ?_)
    · refine ⟨(by show 1 ≤ sizeLine; decide), fun z nz => ⟨_, rfl, cl, _, rfl, .inr ((A1.same (Same.new nz)).hcl), z, _, [.int 0], rfl, rfl, upd_same, by rw [lq]; omega, by rw [lq]; omega, by rw [lq]; show 1 * _ ≤ sizeLine; exact sz_of (by omega), fun p np => ?_⟩⟩
      have e : (List.replicate ((ts.map V.ref).length : Int).toNat [V.int 0]).flatten = (noneP B).map V.int := by
        rw [lq]
        unfold noneP
        rw [Int.toNat_natCast, List.map_replicate]
        generalize B.claims.length = n
        induction n with
        | zero => rfl
        | succ n ih => rw [List.replicate_succ, List.flatten_cons, ih]; rfl
      rw [e]
      exact k p _ ((Same.new nz).free np) ((Same.new nz).trans (Same.new np)) upd_same
    have np := s1.free np'
    have A2 := A1.same s2
    refine sq_new (.lst ((leftOf B (noneP B)).map V.int)) (fun Q k => ⟨_, rfl, ca, _, rfl, .inr A2.hca, fun q nq => k q _ nq (Same.new nq) (by rw [upd_same, left_none])⟩) (fun he H3 nhe' s3 hhe => ?_)
    have nhe := (s1.trans s2).free nhe'
    have ne : p ≠ he := ne_of_none hp nhe'
    have s03 := (s1.trans s2).trans s3
    refine sq_forE (a := l) (xs := us.map V.ref) (fun Q k => ⟨_, rfl, k⟩) (s03.seq hl)
      (fun i σ' H' => Same H H' ∧ i ≤ fs.length ∧ H' p = some (.lst ((playedOf (noneP B) (fs.take i)).map V.int)) ∧ H' he = some (.lst ((leftOf B (playedOf (noneP B) (fs.take i))).map V.int)) ∧ ∃ y6 y7, σ' = [some (.ref b), some (.ref l), some (.ref ca), some (.ref cl), some (.ref p), some (.ref he), y6, y7])
      ⟨s03, Nat.zero_le _, s3 _ _ hp, hhe, _, _, rfl⟩ (fun i σ' H' _ hW => hW.1.seq hl) (fun i z T σ' H' hz hW nT => ?_) (fun σ' H' hW => ?_)
    · obtain ⟨s4, hif, hp4, hhe4, y6, y7, rfl⟩ := hW
      obtain ⟨u, rfl, hu⟩ := map_ref_get hz
      have him : i < ms.length := by
        rw [← hus.1]
        exact (List.getElem?_eq_some_iff.mp hu).1
      obtain ⟨m, hm⟩ : ∃ m, ms[i]? = some m := ⟨_, List.getElem?_eq_getElem him⟩
      have hum := (hus.same s4).2 i u m hu hm
      have hmn := hnl m (List.mem_of_getElem? hm)
      have hPl : (playedOf (noneP B) (fs.take i)).length = B.claims.length := by rw [played_len, noneP_len]
      have s5 : Same H' (upd H' T (.tup [.int (i : Int), .ref u])) := Same.new nT
      have hT5 : (upd H' T (.tup [.int (i : Int), .ref u])) T = some (.tup [.int (i : Int), .ref u]) := upd_same
      generalize upd H' T (.tup [.int (i : Int), .ref u]) = H5 at s5 hT5 ⊢
      have s45 := s4.trans s5
      have A5 := A.same s45
      refine ⟨T, _, rfl, st_of hT5, rfl, _, _, rfl, _, _, rfl, rfl, ?_⟩
      dsimp only
      by_cases c : i < fs.length
      · have hf : fs[i]? = some fs[i] := List.getElem?_eq_getElem c
        obtain ⟨F, hnext⟩ := allFit_at hfar.fit hf
        have em := hfar.at hf
        rw [hm] at em
        have em := Option.some.inj em
        generalize fs[i] = m' at *
        subst em
        generalize playedOf (noneP B) (fs.take i) = Pi at *
        refine sq_no (fun H6 => Same H5 H6) (fun Q k => ⟨_, rfl, _, rfl, _, rfl, _, rfl, cl, p, he, u, ts, B, Pi, m'.up, rfl, ⟨A5.hcl, A5.hq⟩, G, sq_of (s5 _ _ hp4), hPl, sq_of (s5 _ _ hhe4), hum.same s5, hmn, fun _ H6 s6 => ⟨_, rfl, k _ s6⟩, fun n => absurd ⟨m', rfl, F⟩ n⟩) (fun H6 s6 => ?_)
        have s46 := s45.trans s6
        have A6 := A.same s46
        refine ⟨_, rfl, _, rfl, _, rfl, _, rfl, cl, p, he, u, ts, B, Pi, m', rfl, ⟨A6.hcl, A6.hq⟩, G, s6 _ _ (s5 _ _ hp4), hPl, s6 _ _ (s5 _ _ hhe4), ne, ((hum.down.same s5).same s6), F, fun H7 o7 hp7 hhe7 => ⟨fun a o h => o7 _ _ (s46 _ _ h) fun z => ?_, c, ?_, ?_, _, _, rfl⟩⟩
        · rcases z with z | z
          · rw [z, np] at h; cases h
          · rw [z, nhe] at h; cases h
        · rw [hp7, hnext]
        · rw [hhe7, hnext]
      · have ei : i = fs.length := by omega
        subst ei
        rw [List.take_length] at hp4 hhe4 hPl
        rcases hfar.stop with e | ⟨m2, e1, e2⟩
        · omega
        rw [hm] at e1
        cases e1
        rcases h with ⟨e, _⟩ | ⟨_, k⟩
        · omega
        refine sq_if (fun b H6 => b = true ∧ Same H5 H6) (fun Q k => ⟨_, rfl, _, rfl, _, rfl, _, rfl, cl, p, he, u, ts, B, playedOf (noneP B) fs, m, rfl, ⟨A5.hcl, A5.hq⟩, G, sq_of (s5 _ _ hp4), hPl, sq_of (s5 _ _ hhe4), hum.same s5, hmn, fun n => absurd n e2, fun _ H6 s6 => ⟨_, rfl, k _ _ ⟨rfl, s6⟩⟩⟩) (fun H6 h6 => ?_) (fun H6 h6 => ?_)
        · have s46 := s45.trans h6.2
          exact ⟨_, rfl, raise_one (by omega) (by omega) fun d nd => k d _ (s46.trans (Same.new nd)) (s46.free nd) upd_same⟩
        · cases h6.1
    · obtain ⟨s4, hif, hp4, hhe4, y6, y7, rfl⟩ := hW
      have hle := hfar.le
      rw [List.length_map, hus.1] at hif hp4 hhe4
      rw [List.take_of_length_le (l := fs) (i := ms.length) (by omega)] at hp4 hhe4
      rcases h with ⟨_, k⟩ | ⟨e, _⟩
      · refine ⟨_, rfl, _, rfl, by show 2 ≤ sizeLine; decide, fun t nt => ?_⟩
        exact k t p he _ (s4.trans (Same.new nt)) (s4.free nt) np nhe upd_same ((Same.new nt) _ _ hp4) ((Same.new nt) _ _ hhe4)
      · omega
theorem ok_played0 {f : Addr} {fd : FuncData} (D : DefAt K mg "played" s_played ["book", "moves"] f fd) (m_len : mg "len" = none) (m_enumerate : mg "enumerate" = none) (m_list : mg "list" = none) (m_set : mg "set" = none) (L : Lims mg)
    {f0 : Addr} {fd0 : FuncData} (D_wrong : DefAt K mg "_wrong_in_claim" s_wrong ["claim", "houses"] f0 fd0)
    {f5 : Addr} {fd5 : FuncData} (D_need : DefAt K mg "need_book" s_need ["book"] f5 fd5)
    {f1 : Addr} {fd1 : FuncData} (D_areowed : DefAt K mg "_are_owed" s_areowed ["claims", "payments", "numbers", "coins"] f1 fd1)
    {f2 : Addr} {fd2 : FuncData} (D_isring : DefAt K mg "_is_ring" s_isring ["claims", "numbers"] f2 fd2)
    {f3 : Addr} {fd3 : FuncData} (D_fits : DefAt K mg "_fits" s_fits ["claims", "payments", "held", "move"] f3 fd3)
    {f4 : Addr} {fd4 : FuncData} (D_makemv : DefAt K mg "_make_move" s_makemv ["claims", "payments", "held", "move"] f4 fd4) : FnOk P w K mg base CX0 5 f fd ["book", "moves"] (spPlayed0 K) := by
  have G_need := ok_need (P := P) (w := w) (base := base) D_need L m_len m_enumerate D_wrong
  have G_fits : FnOk P w K mg base CX0 2 f3 fd3 ["claims", "payments", "held", "move"] (spFitsI K) := ok_fitsI D_fits m_len m_set D_areowed D_isring
  have G_makemv : FnOk P w K mg base CX0 1 f4 fd4 ["claims", "payments", "held", "move"] (spMakeMv K) := ok_makemv D_makemv
  refine D.F.ok sc_played (fun vs H Q E h => ?_) (fun cdv A outer s H vs Q E hr h => ?_)
  · obtain ⟨b, ca, cl, ts, B, l, us, ms, fs, rfl, _⟩ := h
    rfl
  · obtain ⟨b, ca, cl, ts, B, l, us, ms, fs, rfl, A, G, hl, hus, hml, hnl, hfar, h⟩ := h
    have m1 := G.m1
    have lq : (ts.map V.ref).length = B.claims.length := by rw [List.length_map, A.hq.1]
    refine ⟨_, pss_cons (ps_expr (pe_call G_need (hr.mono (by decide)) (by rfl) D_need.g D_need.F.kp D_need.b .nil pass0 (pa_cons (pv 0) pa_nil)))
        (pss_cons (ps_asg (pv 0) (pg_tup rfl (pgs_cons (pg_name (i := 2) sc_played.nd rfl (.inl rfl)) (pgs_cons (pg_name (i := 3) sc_played.nd rfl (.inl rfl)) pgs_nil))))
        (pss_cons (ps_set (i := 4) sc_played.nd rfl (.inl rfl) (pe_op op_rep (pe_lst (pa_cons pe_int pa_nil)) (pe_callB (r := rLen K) call_len (by rfl) m_len (by decide +kernel) (pa_cons (pv 3) pa_nil))))
        (pss_cons (ps_set (i := 5) sc_played.nd rfl (.inl rfl) (pe_callTy (r := rListOf K) call_listOf (by rfl) m_list (by decide +kernel) (pa_cons (pv 2) pa_nil)))
        (pss_cons (ps_for PassesOwn.never rfl (pi_enum (by rfl) m_enumerate (pa_cons (pv 1) pa_nil)) (pg_tup rfl (pgs_cons (pg_name (i := 6) sc_played.nd rfl (.inl rfl)) (pgs_cons (pg_name (i := 7) sc_played.nd rfl (.inl rfl)) pgs_nil))) (pss_cons (ps_if (pt_not (pt_val (pe_call G_fits (hr.mono (by decide)) (by rfl) D_fits.g D_fits.F.kp D_fits.b .nil pass0 (pa_cons (pv 3) (pa_cons (pv 4) (pa_cons (pv 5) (pa_cons (pv 7) pa_nil))))))) (pss_one ps_never) pss_nil)
          (pss_one (ps_expr (pe_call G_makemv (hr.mono (by decide)) (by rfl) D_makemv.g D_makemv.F.kp D_makemv.b .nil pass0 (pa_cons (pv 3) (pa_cons (pv 4) (pa_cons (pv 5) (pa_cons (pv 7) pa_nil)))))))))
        (pss_one (ps_ret (pe_tup (pa_cons (pv 4) (pa_cons (pv 5) pa_nil))))))))), ?_⟩
    refine sq_drop (fun H1 => Same H H1) (fun Q k => ⟨_, rfl, b, ca, cl, ts, B, rfl, A, G, fun H1 s1 => k _ H1 s1⟩) (fun H1 s1 => ?_)
    have A1 := A.same s1
    refine sq_tup2 (fun Q k => ⟨_, rfl, k⟩) A1.hb ?_
    refine sq_new (.lst ((noneP B).map V.int)) (fun Q k => ?_) (fun p H2 np' s2 hp => ?_)
    · refine ⟨(by show 1 ≤ sizeLine; decide), fun z nz => ⟨_, rfl, cl, _, rfl, .inr ((A1.same (Same.new nz)).hcl), z, _, [.int 0], rfl, rfl, upd_same, by rw [lq]; omega, by rw [lq]; omega, by rw [lq]; show 1 * _ ≤ sizeLine; exact sz_of (by omega), fun p np => ?_⟩⟩
      have e : (List.replicate ((ts.map V.ref).length : Int).toNat [V.int 0]).flatten = (noneP B).map V.int := by
        rw [lq]
        unfold noneP
        rw [Int.toNat_natCast, List.map_replicate]
        generalize B.claims.length = n
        induction n with
        | zero => rfl
        | succ n ih => rw [List.replicate_succ, List.flatten_cons, ih]; rfl
      rw [e]
      exact k p _ ((Same.new nz).free np) ((Same.new nz).trans (Same.new np)) upd_same
    have np := s1.free np'
    have A2 := A1.same s2
    refine sq_new (.lst ((leftOf B (noneP B)).map V.int)) (fun Q k => ⟨_, rfl, ca, _, rfl, .inr A2.hca, fun q nq => k q _ nq (Same.new nq) (by rw [upd_same, left_none])⟩) (fun he H3 nhe' s3 hhe => ?_)
    have nhe := (s1.trans s2).free nhe'
    have ne : p ≠ he := ne_of_none hp nhe'
    have s03 := (s1.trans s2).trans s3
    refine sq_forE (a := l) (xs := us.map V.ref) (fun Q k => ⟨_, rfl, k⟩) (s03.seq hl)
      (fun i σ' H' => Same H H' ∧ i ≤ fs.length ∧ H' p = some (.lst ((playedOf (noneP B) (fs.take i)).map V.int)) ∧ H' he = some (.lst ((leftOf B (playedOf (noneP B) (fs.take i))).map V.int)) ∧ ∃ y6 y7, σ' = [some (.ref b), some (.ref l), some (.ref ca), some (.ref cl), some (.ref p), some (.ref he), y6, y7])
      ⟨s03, Nat.zero_le _, s3 _ _ hp, hhe, _, _, rfl⟩ (fun i σ' H' _ hW => hW.1.seq hl) (fun i z T σ' H' hz hW nT => ?_) (fun σ' H' hW => ?_)
    · obtain ⟨s4, hif, hp4, hhe4, y6, y7, rfl⟩ := hW
      obtain ⟨u, rfl, hu⟩ := map_ref_get hz
      have him : i < ms.length := by
        rw [← hus.1]
        exact (List.getElem?_eq_some_iff.mp hu).1
      obtain ⟨m, hm⟩ : ∃ m, ms[i]? = some m := ⟨_, List.getElem?_eq_getElem him⟩
      have hum := (hus.same s4).2 i u m hu hm
      have hmn := hnl m (List.mem_of_getElem? hm)
      have hPl : (playedOf (noneP B) (fs.take i)).length = B.claims.length := by rw [played_len, noneP_len]
      have s5 : Same H' (upd H' T (.tup [.int (i : Int), .ref u])) := Same.new nT
      have hT5 : (upd H' T (.tup [.int (i : Int), .ref u])) T = some (.tup [.int (i : Int), .ref u]) := upd_same
      generalize upd H' T (.tup [.int (i : Int), .ref u]) = H5 at s5 hT5 ⊢
      have s45 := s4.trans s5
      have A5 := A.same s45
      refine ⟨T, _, rfl, st_of hT5, rfl, _, _, rfl, _, _, rfl, rfl, ?_⟩
      dsimp only
      by_cases c : i < fs.length
      · have hf : fs[i]? = some fs[i] := List.getElem?_eq_getElem c
        obtain ⟨F, hnext⟩ := allFit_at hfar.fit hf
        have em := hfar.at hf
        rw [hm] at em
        have em := Option.some.inj em
        generalize fs[i] = m' at *
        subst em
        generalize playedOf (noneP B) (fs.take i) = Pi at *
        refine sq_no (fun H6 => Same H5 H6) (fun Q k => ⟨_, rfl, _, rfl, _, rfl, _, rfl, cl, p, he, u, ts, B, Pi, m'.up, rfl, ⟨A5.hcl, A5.hq⟩, G, sq_of (s5 _ _ hp4), hPl, sq_of (s5 _ _ hhe4), hum.same s5, hmn, fun _ H6 s6 => ⟨_, rfl, k _ s6⟩, fun n => absurd ⟨m', rfl, F⟩ n⟩) (fun H6 s6 => ?_)
        have s46 := s45.trans s6
        have A6 := A.same s46
        refine ⟨_, rfl, _, rfl, _, rfl, _, rfl, cl, p, he, u, ts, B, Pi, m', rfl, ⟨A6.hcl, A6.hq⟩, G, s6 _ _ (s5 _ _ hp4), hPl, s6 _ _ (s5 _ _ hhe4), ne, ((hum.down.same s5).same s6), F, fun H7 o7 hp7 hhe7 => ⟨fun a o h => o7 _ _ (s46 _ _ h) fun z => ?_, c, ?_, ?_, _, _, rfl⟩⟩
        · rcases z with z | z
          · rw [z, np] at h; cases h
          · rw [z, nhe] at h; cases h
        · rw [hp7, hnext]
        · rw [hhe7, hnext]
      · have e := h.1
        omega
    · obtain ⟨s4, hif, hp4, hhe4, y6, y7, rfl⟩ := hW
      have hle := hfar.le
      rw [List.length_map, hus.1] at hif hp4 hhe4
      rw [List.take_of_length_le (l := fs) (i := ms.length) (by omega)] at hp4 hhe4
      refine ⟨_, rfl, _, rfl, by show 2 ≤ sizeLine; decide, fun t nt => ?_⟩
      exact h.2 t p he _ (s4.trans (Same.new nt)) (s4.free nt) np nhe upd_same ((Same.new nt) _ _ hp4) ((Same.new nt) _ _ hhe4)
end


end Rf
namespace Rf
open PySem PySem.Spec PyProof.Rows L2
/-! ### any moves as the law looks at them -/
section
variable {t tz : TS} {c : TT} {D : Ends} {σ : L2.St} {H : Hp}
theorem sq_when (R : Bool → Hp → Prop) (h : ∀ Q : Bool → Hp → Prop, (∀ b H', R b H' → Q b H') → c σ H Q) (k1 : ∀ H', R true H' → t { D with nx := tz D } σ H') (k2 : ∀ H', R false H' → tz D σ H') : tSeq (tIfS c t tNext) tz D σ H := sq_if R h k1 k2
end
theorem cut_take1 {l : List Nat} : cutV (numV l) none (some 1) = numV (l.take 1) := by
  unfold cutV
  have e : HT.sIx (numV l).length (numV l).length (some 1) = min 1 (numV l).length := HT.sIx_nat _ _ 1
  rw [e, HT.sIx_none, List.drop_zero, Nat.sub_zero, numV_len]
  unfold numV
  rw [← List.map_take]
  congr 1
  cases l with
  | nil => rfl
  | cons a l => rw [Nat.min_eq_left (by show 1 ≤ l.length + 1; omega)]
theorem numV_app2 (l m : List Nat) : numV (l ++ m) = numV l ++ numV m := by
  unfold numV
  rw [List.map_append]
theorem filt_next {α : Type} {l : List α} {q : α → Bool} {i : Nat} {k : α} (h : l[i]? = some k) : (l.take (i + 1)).filter q = (l.take i).filter q ++ (if q k = true then [k] else []) := by
  rw [List.take_add_one, h, List.filter_append]
  congr 1
  by_cases c : q k = true
  · rw [if_pos c]
    simp [c]
  · rw [if_neg c]
    simp [c]
theorem filt_none {α : Type} {l : List α} {q : α → Bool} : l.filter q = [] ↔ ∀ x ∈ l, ¬ q x = true := List.filter_eq_nil_iff
theorem filt_len {α : Type} {l : List α} {q : α → Bool} {i n : Nat} (h : l.length ≤ n) : ((l.take i).filter q).length ≤ n := Nat.le_trans (List.length_filter_le _ _) (by rw [List.length_take]; omega)
def spLFitsI (K : PySem.W.Frag) : Sp := fun vs H Q _ => ∃ (b ca cl p he u : Addr) (ts : List Addr) (B : Bk) (P : List Int) (m : IMv), vs = [.ref b, .ref p, .ref he, .ref u] ∧ BookAt K H b ca cl ts B ∧ Good B ∧ SqL K H p (P.map V.int) ∧ P.length = B.claims.length ∧ SqL K H he ((leftOf B P).map V.int) ∧ MvIAt H u m ∧ m.nums.length ≤ 1000 ∧ (FitsI B P m → ∀ H', Same H H' → Q (.bl true) H') ∧ (¬ FitsI B P m → ∀ H', Same H H' → Q (.bl false) H')
theorem fits_owed {B : Bk} {P : List Int} {m : IMv} (h : FitsI B P m) : OwedI B P m.nums m.coins := by
  cases m with
  | pay k c => exact (fitsI_pay.mp h).1
  | ring ks c => exact (fitsI_ring.mp h).1
section
variable {P : Program} {w : World} {K : PySem.W.Frag} {mg : Str → Option Value} {base : Heap}
theorem sc_lfits : FnScope ["_law_book_here", "_law_paid", "_law_held", "_law_move_here", "_law_numbers", "_law_turned", "_law_k"] ["_law_book_here", "_law_paid", "_law_held", "_law_move_here"] (defScope s_lfits) := ⟨rfl, rfl, rfl, by decide +kernel, rfl, by decide +kernel, by decide +kernel⟩
/- 0:_law_book_here 1:_law_paid 2:_law_held 3:_law_move_here 4:_law_numbers 5:_law_turned 6:_law_k -/
theorem ok_lfitsI {f : Addr} {fd : FuncData} (D : DefAt K mg "_law_fits" s_lfits ["_law_book_here", "_law_paid", "_law_held", "_law_move_here"] f fd) (m_len : mg "len" = none) (m_set : mg "set" = none) (m_range : mg "range" = none) (m_list : mg "list" = none) : FnOk P w K mg base CX0 1 f fd ["_law_book_here", "_law_paid", "_law_held", "_law_move_here"] (spLFitsI K) := by
  refine D.F.ok sc_lfits (fun vs H Q E h => ?_) (fun cdv A outer s H vs Q E hr h => ?_)
  · obtain ⟨b, ca, cl, p, he, u, ts, B, P, m, rfl, _⟩ := h
    rfl
  · obtain ⟨b, ca, cl, p, he, u, ts, B, P, m, rfl, A, G, hp, hl, hhe, hu, hml, k1, k0⟩ := h
    have m1 := G.m1
    obtain ⟨xx, hux⟩ := mvI_tup hu
    refine ⟨_, pss_cons (ps_set (i := 4) sc_lfits.nd rfl (.inr rfl) (pe_ifExp (pt_cmpR op_eq (pe_ix (r := rIxT K) ix_tup (pv 3) pe_int (fun _ _ => rfl)) pe_str (nomark _)) (pe_lst (pa_cons (pe_ix (r := rIxT K) ix_tup (pv 3) pe_int (fun _ _ => rfl)) pa_nil)) (pe_callTy (r := rListOf K) call_listOf (by rfl) m_list (by decide +kernel) (pa_cons (pe_ix (r := rIxT K) ix_tup (pv 3) pe_int (fun _ _ => rfl)) pa_nil))))
        (pss_cons (ps_if (PW.pt (pw_or (pt_cmpR (op_neD hr.units) (pe_lc (own := [("_law_k", 6)]) (g := gName 6) (by rfl) sc_lfits.nd (pi_list (pv 4)) (blkOk_by (own := [("_law_k", 6)]) (N := ["_law_book_here", "_law_paid", "_law_held", "_law_move_here", "_law_numbers", "_law_turned", "_law_k"]) (sc := defScope s_lfits) (by decide +kernel)) (fun _ _ _ _ _ => (pg_name (i := 6) sc_lfits.nd rfl (.inl rfl))) (fun _ _ _ _ _ => (pts_one (pt_not (pt_chain op_le op_lt pe_int (pv 6) (pe_callB (r := rLen K) call_len (by rfl) m_len (by decide +kernel) (pa_cons (pv 1) pa_nil)))))) (fun _ _ _ _ _ => (pv 6))) (pe_lst pa_nil) (nomark _)) (pw_or1 (pt_cmpR op_lt (pe_ix (r := rIxT K) ix_tup (pv 3) pe_int (fun _ _ => rfl)) pe_int (nomark _))))) (pss_one (ps_ret pe_bl)) pss_nil)
        (pss_cons (ps_if (pt_cmpR (op_neD hr.units) (pe_lc (own := [("_law_k", 6)]) (g := gName 6) (by rfl) sc_lfits.nd (pi_list (pv 4)) (blkOk_by (own := [("_law_k", 6)]) (N := ["_law_book_here", "_law_paid", "_law_held", "_law_move_here", "_law_numbers", "_law_turned", "_law_k"]) (sc := defScope s_lfits) (by decide +kernel)) (fun _ _ _ _ _ => (pg_name (i := 6) sc_lfits.nd rfl (.inl rfl))) (fun _ _ _ _ _ => (pts_one (pt_cmpR op_gt (pe_op op_add (pe_ix (r := rIxL K) ix_list (pv 1) (pv 6) (fun _ _ => rfl)) (pe_ix (r := rIxT K) ix_tup (pv 3) pe_int (fun _ _ => rfl))) (pe_ix (r := rIxT K) ix_tup (pe_ix (r := rIxT K) ix_tup (pe_ix (r := rIxT K) ix_tup (pv 0) pe_int (fun _ _ => rfl)) (pv 6) (fun _ _ => rfl)) pe_int (fun _ _ => rfl)) (nomark _)))) (fun _ _ _ _ _ => (pv 6))) (pe_lst pa_nil) (nomark _)) (pss_one (ps_ret pe_bl)) pss_nil)
        (pss_cons (ps_if (pt_cmpR op_eq (pe_ix (r := rIxT K) ix_tup (pv 3) pe_int (fun _ _ => rfl)) pe_str (nomark _)) (pss_one (ps_ret (pe_cmpR op_ge (pe_ix (r := rIxL K) ix_list (pv 2) (pe_ix (r := rIxT K) ix_tup (pe_ix (r := rIxT K) ix_tup (pe_ix (r := rIxT K) ix_tup (pv 0) pe_int (fun _ _ => rfl)) (pe_ix (r := rIxT K) ix_tup (pv 3) pe_int (fun _ _ => rfl)) (fun _ _ => rfl)) pe_int (fun _ _ => rfl)) (fun _ _ => rfl)) (pe_ix (r := rIxT K) ix_tup (pv 3) pe_int (fun _ _ => rfl)) (nomark _)))) pss_nil)
        (pss_cons (ps_if (PW.pt (pw_or (pt_cmpR op_lt (pe_callB (r := rLen K) call_len (by rfl) m_len (by decide +kernel) (pa_cons (pv 4) pa_nil)) pe_int (nomark _)) (pw_or1 (pt_cmpR op_ne (pe_lenSetLG rfl (by rfl) m_len (by rfl) m_set (pv 4)) (pe_callB (r := rLen K) call_len (by rfl) m_len (by decide +kernel) (pa_cons (pv 4) pa_nil)) (nomark _))))) (pss_one (ps_ret pe_bl)) pss_nil)
        (pss_cons (ps_set (i := 5) sc_lfits.nd rfl (.inr rfl) (pe_op op_cat (pe_slice sl_list (pv 4) (po_some pe_int) po_none) (pe_slice sl_list (pv 4) po_none (po_some pe_int))))
        (pss_one (ps_ret (pe_cmpR (op_eqD hr.units) (pe_lc (own := [("_law_k", 6)]) (g := gName 6) (by rfl) sc_lfits.nd (pi_range1 (by rfl) m_range (pa_cons (pe_callB (r := rLen K) call_len (by rfl) m_len (by decide +kernel) (pa_cons (pv 4) pa_nil)) pa_nil)) (blkOk_by (own := [("_law_k", 6)]) (N := ["_law_book_here", "_law_paid", "_law_held", "_law_move_here", "_law_numbers", "_law_turned", "_law_k"]) (sc := defScope s_lfits) (by decide +kernel)) (fun _ _ _ _ _ => (pg_name (i := 6) sc_lfits.nd rfl (.inl rfl))) (fun _ _ _ _ _ => (pts_one (pt_cmpR op_ne (pe_ix (r := rIxT K) ix_tup (pe_ix (r := rIxT K) ix_tup (pe_ix (r := rIxT K) ix_tup (pv 0) pe_int (fun _ _ => rfl)) (pe_ix (r := rIxL K) ix_list (pv 4) (pv 6) (fun _ _ => rfl)) (fun _ _ => rfl)) pe_int (fun _ _ => rfl)) (pe_ix (r := rIxT K) ix_tup (pe_ix (r := rIxT K) ix_tup (pe_ix (r := rIxT K) ix_tup (pv 0) pe_int (fun _ _ => rfl)) (pe_ix (r := rIxL K) ix_list (pv 5) (pv 6) (fun _ _ => rfl)) (fun _ _ => rfl)) pe_int (fun _ _ => rfl)) (nomark _)))) (fun _ _ _ _ _ => (pv 6))) (pe_lst pa_nil) (nomark _))))))))), ?_⟩
    refine sq_new (.lst (m.nums.map V.int)) (fun Q k => ?_) (fun nl H1 nnl s1 hn1 => ?_)
    · cases m with
      | pay k' c =>
        have hu' : H u = some (.tup [.str "pay", .int k', .int c]) := hu
        refine ⟨_, rfl, u, _, 0, _, rfl, rfl, st_of hu', atI_nat (j := 0) rfl, rfl, _, rfl, ?_⟩
        rw [str_eq]
        exact iteT ⟨_, rfl, u, _, 1, _, rfl, rfl, st_of hu', atI_nat (j := 1) rfl, by show 1 ≤ sizeLine; decide, fun q nq => k q _ nq (Same.new nq) upd_same⟩
      | ring ks c =>
        obtain ⟨t, hu', ht⟩ := hu
        refine ⟨_, rfl, u, _, 0, _, rfl, rfl, st_of hu', atI_nat (j := 0) rfl, rfl, _, rfl, ?_⟩
        rw [str_ne pay_ring.symm]
        exact iteF ⟨_, rfl, u, _, 1, _, rfl, rfl, st_of hu', atI_nat (j := 1) rfl, t, _, rfl, .inr (st_of ht), fun q nq => k q _ nq (Same.new nq) upd_same⟩
    have A1 := A.same s1
    -- numbers of claims, and coins
    refine sq_when (fun b H2 => Same H1 H2 ∧ (b = false → InB B m.nums ∧ 1 ≤ m.coins) ∧ (b = true → ¬ (InB B m.nums ∧ 1 ≤ m.coins))) (fun Q k => ?_) (fun H2 h2 => ?_) (fun H2 h2 => ?_)
    · refine ⟨_, rfl, nl, rfl, ⟨_, sq_of hn1⟩, fun d nd => ?_⟩
      refine lc_list (xs := m.nums.map V.int) (fun i H' => Same H1 H' ∧ H' d = some (.lst (((m.nums.take i).filter fun k => !decide (0 ≤ k ∧ k < (B.claims.length : Int))).map V.int))) ⟨Same.new nd, upd_same⟩ (fun i H' _ hP => sq_of (hP.1 _ _ hn1)) (fun i z H' hz hP => ?_) (fun H' hP => ?_)
      · obtain ⟨s2, hd⟩ := hP
        obtain ⟨k', hk', rfl⟩ : ∃ k', m.nums[i]? = some k' ∧ z = .int k' := by
          rw [List.getElem?_map] at hz
          cases e : m.nums[i]? with
          | none => rw [e] at hz; cases hz
          | some k' => rw [e] at hz; exact ⟨k', rfl, (Option.some.inj hz).symm⟩
        have fl := filt_len (q := fun k : Int => !decide (0 ≤ k ∧ k < (B.claims.length : Int))) (i := i) hml
        have fin : ∀ b : Bool, b = (!decide (0 ≤ k' ∧ k' < (B.claims.length : Int))) → (b = true → ∃ xs, H' d = some (.lst xs) ∧ xs.length < sizeLine ∧ Same H1 (upd H' d (.lst (xs ++ [V.int k']))) ∧ (upd H' d (.lst (xs ++ [V.int k']))) d = some (.lst (((m.nums.take (i + 1)).filter fun k => !decide (0 ≤ k ∧ k < (B.claims.length : Int))).map V.int))) ∧ (b = false → Same H1 H' ∧ H' d = some (.lst (((m.nums.take (i + 1)).filter fun k => !decide (0 ≤ k ∧ k < (B.claims.length : Int))).map V.int))) := fun b e => by
          refine ⟨fun eb => ⟨_, hd, ?_, Same.mut s2 nd, ?_⟩, fun eb => ⟨s2, ?_⟩⟩
          · rw [List.length_map]
            exact sz_lt (by omega)
          · rw [upd_same, filt_next hk', if_pos (by rw [← e]; exact eb), List.map_append]
            rfl
          · rw [filt_next hk', if_neg (by rw [← e, eb]; decide), List.append_nil]
            exact hd
        by_cases c0 : 0 ≤ k'
        · by_cases c1 : k' < (B.claims.length : Int)
          · have q := (fin false (by rw [decide_eq_true ⟨c0, c1⟩]; rfl)).2 rfl
            exact ⟨rfl, _, rfl, _, _, rfl, rfl, true, dec_t c0, iteT ⟨_, rfl, p, _, rfl, .inl ((s1.trans s2).seq hp), _, _, rfl, rfl, true, by rw [List.length_map, hl]; exact dec_t c1, iteF q⟩⟩
          · obtain ⟨xs, q1, q2, q3, q4⟩ := (fin true (by rw [decide_eq_false (fun z => c1 z.2)]; rfl)).1 rfl
            exact ⟨rfl, _, rfl, _, _, rfl, rfl, true, dec_t c0, iteT ⟨_, rfl, p, _, rfl, .inl ((s1.trans s2).seq hp), _, _, rfl, rfl, false, by rw [List.length_map, hl]; exact dec_f c1, iteT ⟨_, rfl, xs, q1, q2, q3, q4⟩⟩⟩
        · obtain ⟨xs, q1, q2, q3, q4⟩ := (fin true (by rw [decide_eq_false (fun z => c0 z.1)]; rfl)).1 rfl
          exact ⟨rfl, _, rfl, _, _, rfl, rfl, false, dec_f c0, iteF ⟨_, rfl, iteT ⟨_, rfl, xs, q1, q2, q3, q4⟩⟩⟩
      · obtain ⟨s2, hd⟩ := hP
        rw [List.length_map, List.take_length] at hd
        have hin : (m.nums.filter fun k => !decide (0 ≤ k ∧ k < (B.claims.length : Int))) = [] ↔ InB B m.nums := by
          rw [filt_none]
          exact ⟨fun z x hx => by simpa using z x hx, fun z x hx => by simpa using z x hx⟩
        refine ⟨Nat.zero_le _, fun l nl' => ⟨dInts _, dInts [], dp_ints (sq_of (Same.new nl' _ _ hd)), dp_ints (l := []) (sq_of upd_same), sh_ints, sh_ints, _, by rw [eqv_ints], ?_⟩⟩
        have s3 := s2.trans (Same.new (o := .lst []) nl')
        by_cases c : InB B m.nums
        · rw [decide_eq_true (hin.mpr c)]
          refine iteF ⟨_, rfl, u, _, 2, _, rfl, rfl, st_of (s3 _ _ (s1 _ _ hux)), atI_nat (j := 2) rfl, _, _, rfl, rfl, _, rfl, k _ _ ⟨s3, fun e => ⟨c, ?_⟩, fun e z => ?_⟩⟩
          · have := of_decide_eq_false e
            omega
          · have := of_decide_eq_true e
            omega
        · rw [decide_eq_false (fun z => c (hin.mp z))]
          exact iteT (k _ _ ⟨s3, fun e => absurd e (by decide), fun _ z => c z.1⟩)
    · exact k0 (fun F => h2.2.2 rfl ⟨fun x hx => ((fits_owed F).2 x hx).1, (fits_owed F).1⟩) _ (s1.trans h2.1)
    obtain ⟨s2, hok, _⟩ := h2
    obtain ⟨hin, c1⟩ := hok rfl
    have s12 := s1.trans s2
    have A2 := A.same s12
    -- what is owed
    refine sq_when (fun b H3 => Same H2 H3 ∧ (b = false → OwedI B P m.nums m.coins) ∧ (b = true → ¬ OwedI B P m.nums m.coins)) (fun Q k => ?_) (fun H3 h3 => ?_) (fun H3 h3 => ?_)
    · refine ⟨_, rfl, nl, rfl, ⟨_, sq_of (s2 _ _ hn1)⟩, fun d nd => ?_⟩
      refine lc_list (xs := m.nums.map V.int) (fun i H' => Same H2 H' ∧ H' d = some (.lst (((m.nums.take i).filter fun k => decide (g P k.toNat + m.coins > amt B k.toNat)).map V.int))) ⟨Same.new nd, upd_same⟩ (fun i H' _ hP => sq_of (hP.1 _ _ (s2 _ _ hn1))) (fun i z H' hz hP => ?_) (fun H' hP => ?_)
      · obtain ⟨s3, hd⟩ := hP
        obtain ⟨k', hk', rfl⟩ : ∃ k', m.nums[i]? = some k' ∧ z = .int k' := by
          rw [List.getElem?_map] at hz
          cases e : m.nums[i]? with
          | none => rw [e] at hz; cases hz
          | some k' => rw [e] at hz; exact ⟨k', rfl, (Option.some.inj hz).symm⟩
        have hk2 := hin k' (List.mem_of_getElem? hk')
        obtain ⟨n, rfl⟩ := Int.eq_ofNat_of_zero_le hk2.1
        have hkl : n < B.claims.length := by omega
        have fl := filt_len (q := fun k : Int => decide (g P k.toNat + m.coins > amt B k.toNat)) (i := i) hml
        have A3 := A2.same s3
        obtain ⟨t, hat, htq⟩ := (show ClAt K H' cl ts B from ⟨A3.hcl, A3.hq⟩).get hkl
        refine ⟨rfl, _, rfl, _, rfl, p, _, _, _, rfl, rfl, (s12.trans s3).seq hp, atI_g rfl (by rw [hl]; exact hkl), _, rfl, u, _, 2, _, rfl, rfl, st_of ((s12.trans s3) _ _ hux), atI_nat (j := 2) rfl, _, _, rfl, rfl, _, rfl, b, _, 1, _, rfl, rfl, A3.hb, atI_nat (j := 1) rfl, _, rfl, cl, _, _, _, rfl, rfl, A3.hcl, hat, t, _, 2, _, rfl, rfl, htq, atI_nat (j := 2) rfl, _, _, rfl, rfl, _, rfl, ?_⟩
        by_cases c : g P n + m.coins > amt B n
        · rw [decide_eq_true (show g P n + m.coins > (B.clm n).a from c)]
          refine iteT ⟨_, rfl, _, hd, ?_, Same.mut s3 nd, ?_⟩
          · rw [List.length_map]
            exact sz_lt (by omega)
          · rw [upd_same, filt_next hk', if_pos (by rw [Int.toNat_natCast]; exact decide_eq_true c), List.map_append]
            rfl
        · rw [decide_eq_false (show ¬ g P n + m.coins > (B.clm n).a from c)]
          refine iteF ⟨s3, ?_⟩
          rw [filt_next hk', if_neg (by rw [Int.toNat_natCast, decide_eq_false c]; decide), List.append_nil]
          exact hd
      · obtain ⟨s3, hd⟩ := hP
        rw [List.length_map, List.take_length] at hd
        have hO : (m.nums.filter fun k => decide (g P k.toNat + m.coins > amt B k.toNat)) = [] ↔ OwedI B P m.nums m.coins := by
          rw [filt_none]
          refine ⟨fun z => ⟨c1, fun x hx => ⟨hin x hx, ?_⟩⟩, fun z x hx => ?_⟩
          · have := z x hx
            rw [decide_eq_true_iff] at this
            omega
          · have := (z.2 x hx).2
            rw [decide_eq_true_iff]
            omega
        refine ⟨Nat.zero_le _, fun l nl' => ⟨dInts _, dInts [], dp_ints (sq_of (Same.new nl' _ _ hd)), dp_ints (l := []) (sq_of upd_same), sh_ints, sh_ints, ?_⟩⟩
        rw [eqv_ints, decide_eq_decide.mpr hO]
        have s3' := s3.trans (Same.new (o := .lst []) nl')
        by_cases c : OwedI B P m.nums m.coins
        · rw [decide_eq_true c]
          exact ⟨_, rfl, k _ _ ⟨s3', fun _ => c, fun e => absurd e (by decide)⟩⟩
        · rw [decide_eq_false c]
          exact ⟨_, rfl, k _ _ ⟨s3', fun e => absurd e (by decide), fun _ => c⟩⟩
    · exact k0 (fun F => h3.2.2 rfl (fits_owed F)) _ (s12.trans h3.1)
    obtain ⟨s3, hok, _⟩ := h3
    have hO := hok rfl
    clear hok
    have s13 := s12.trans s3
    have A3 := A.same s13
    have hn3 := s3 _ _ (s2 _ _ hn1)
    cases m with
    | pay k' c =>
      have hu3 : H3 u = some (.tup [.str "pay", .int k', .int c]) := s13 _ _ hu
      have hk2 := hin k' List.mem_cons_self
      obtain ⟨n, rfl⟩ := Int.eq_ofNat_of_zero_le hk2.1
      have hkl : n < B.claims.length := by omega
      rw [fitsI_pay, Int.toNat_natCast] at k1 k0
      have gc := G.clm hkl
      obtain ⟨x, ex, hx⟩ := nat_of gc.d0 gc.d1
      have e2 : (B.clm n).d.toNat = x := by omega
      rw [e2] at k1 k0
      obtain ⟨t, hat, htq⟩ := (show ClAt K H3 cl ts B from ⟨A3.hcl, A3.hq⟩).get hkl
      refine sq_if (fun b H1 => b = true ∧ H1 = H3) (fun Q k => ⟨_, rfl, u, _, 0, _, rfl, rfl, st_of hu3, atI_nat (j := 0) rfl, rfl, _, rfl, ?_⟩) (fun H4 h4 => ?_) (fun H4 h4 => ?_)
      · rw [str_eq]
        exact k _ _ ⟨rfl, rfl⟩
      · obtain ⟨_, rfl⟩ := h4
        refine ⟨_, rfl, _, rfl, b, _, 1, _, rfl, rfl, A3.hb, atI_nat (j := 1) rfl, _, rfl, u, _, 1, _, rfl, rfl, st_of hu3, atI_nat (j := 1) rfl, cl, _, _, _, rfl, rfl, A3.hcl, hat, t, _, 0, _, rfl, rfl, htq, atI_nat (j := 0) rfl, he, _, _, _, rfl, rfl, s13.seq hhe, atI_g ex (by rw [leftOf_len]; exact hx), _, rfl, u, _, 2, _, rfl, rfl, st_of hu3, atI_nat (j := 2) rfl, _, _, rfl, rfl, ?_⟩
        show Q (V.bl (decide (g (leftOf B P) x ≥ c))) H4
        by_cases c2 : c ≤ g (leftOf B P) x
        · rw [decide_eq_true (show g (leftOf B P) x ≥ c from c2)]
          exact k1 ⟨hO, c2⟩ _ s13
        · rw [decide_eq_false (show ¬ g (leftOf B P) x ≥ c from c2)]
          exact k0 (fun z => c2 z.2) _ s13
      · cases h4.1
    | ring kz c =>
      have eN : upN (kz.map Int.toNat) = kz := toN_up fun k hk => hin k hk
      have hin2 : ∀ k ∈ kz.map Int.toNat, k < B.claims.length := fun k hk => by
        obtain ⟨x, hx, rfl⟩ := List.mem_map.mp hk
        have := hin x hx
        omega
      rw [fitsI_ring] at k1 k0
      have hml2 : (kz.map Int.toNat).length ≤ 1000 := by rw [List.length_map]; exact hml
      have hn3 : H3 nl = some (.lst (numV (kz.map Int.toNat))) := by
        rw [numV_ints]
        show _ = some (HO.lst ((upN (kz.map Int.toNat)).map V.int))
        rw [eN]
        exact hn3
      generalize kz.map Int.toNat = ks at *
      have hln : (upN ks).length = ks.length := List.length_map _
      have hnd : (upN ks).Nodup ↔ ks.Nodup := ⟨fun z => (List.pairwise_map.mp z).imp fun h e => h (congrArg Int.ofNat e), fun z => List.pairwise_map.mpr (z.imp fun h e => h (Int.ofNat.inj e))⟩
      refine sq_no (fun H1 => H1 = H3) (fun Q k => ⟨_, rfl, u, _, 0, _, rfl, rfl, st_of (s13 _ _ hux), atI_nat (j := 0) rfl, rfl, _, rfl, ?_⟩) (fun H4 e => ?_)
      · show Q (decide (V.str "ring" = V.str "pay")) H3
        rw [str_ne pay_ring.symm]
        exact k _ rfl
      subst e
      refine sq_when (fun b H' => H' = H4 ∧ (b = false → 2 ≤ ks.length ∧ ks.Nodup) ∧ (b = true → ¬ (2 ≤ ks.length ∧ ks.Nodup))) (fun Q k => ?_) (fun H' h => ?_) (fun H' h => ?_)
      · by_cases c : ks.length < 2
        · exact ⟨_, rfl, nl, _, rfl, .inl (sq_of hn3), _, _, rfl, rfl, true, dec_t (by rw [numV_len]; omega), iteT (k _ _ ⟨rfl, fun z => absurd z (by decide), fun _ z => by omega⟩)⟩
        · refine ⟨_, rfl, nl, _, rfl, .inl (sq_of hn3), _, _, rfl, rfl, false, dec_f (by rw [numV_len]; omega), iteF ⟨_, rfl, nl, upN ks, rfl, by rw [numV_ints] at hn3; exact sq_of hn3, by omega, fun n hn => ⟨_, rfl, nl, _, rfl, .inl (sq_of hn3), rfl, _, rfl, k _ _ ⟨rfl, fun z => ?_, fun z y => ?_⟩⟩⟩⟩
          · rw [dec_vint, numV_len] at z
            have z1 : (n : Int) = (ks.length : Int) := by simpa using z
            exact ⟨by omega, hnd.mp (hn.2.mp (by rw [hln]; omega))⟩
          · rw [dec_vint, numV_len] at z
            have z1 : ¬ (n : Int) = (ks.length : Int) := by simpa using z
            have z2 := hn.2.mpr (hnd.mpr y.2)
            rw [hln] at z2
            omega
      · exact k0 (fun R => h.2.2 rfl ⟨R.2.two, R.2.nd⟩) _ (by rw [h.1]; exact s13)
      obtain ⟨rfl, h2, _⟩ := h
      obtain ⟨two, nd⟩ := h2 rfl
      have hd1 : cutV (numV ks) (some 1) none = numV (ks.drop 1) := cut_drop (i := 1) (by omega)
      refine sq_new (.lst (numV (ks.drop 1 ++ ks.take 1))) (fun Q k => ⟨_, rfl, _, rfl, nl, _, rfl, sq_of hn3, fun d1 n1 => ⟨_, rfl, _, rfl, nl, _, rfl, sq_of ((Same.new n1) _ _ hn3), fun d2 n2 => ⟨d1, d2, _, _, rfl, rfl, (Same.new n2) _ _ upd_same, upd_same, ?_, fun q nq => ?_⟩⟩⟩) (fun tu H6 ntu s6 htu => ?_)
      · rw [hd1, cut_take1, numV_len, numV_len, List.length_drop, List.length_take]
        exact sz_of (by omega)
      · exact k q _ (((Same.new n1).trans (Same.new n2)).free nq) (((Same.new n1).trans (Same.new n2)).trans (Same.new nq)) (by rw [upd_same, hd1, cut_take1, numV_app2])
      have s16 := s13.trans s6
      have A6 := A.same s16
      have hn6 := s6 _ _ hn3
      have ltu : (ks.drop 1 ++ ks.take 1).length = ks.length := by rw [List.length_append, List.length_drop, List.length_take]; omega
      have hmem : ∀ k ∈ ks.drop 1 ++ ks.take 1, k ∈ ks := fun k hk => by
        rcases List.mem_append.mp hk with z | z
        · exact List.mem_of_mem_drop z
        · exact List.mem_of_mem_take z
      have key : IsRing B ks ↔ csOf B ks = dsOf B (ks.drop 1 ++ ks.take 1) := by
        have e : dsOf B (ks.drop 1 ++ ks.take 1) = (dsOf B ks).drop 1 ++ (dsOf B ks).take 1 := by
          unfold dsOf
          rw [List.map_append, List.map_drop, List.map_take]
        rw [e]
        exact ⟨fun R => R.turn, fun z => ⟨two, nd, z⟩⟩
      generalize hT : ks.drop 1 ++ ks.take 1 = tk at *
      refine ⟨_, rfl, nl, _, rfl, .inl (sq_of hn6), (ks.length : Int), by rw [numV_len], by omega, by omega, fun d nd' => ?_⟩
      refine lc_range (lo := 0) (n := (ks.length : Int).toNat) (fun i H' => Same H6 H' ∧ H' d = some (.lst ((((List.range ks.length).take i).filter fun j => !decide (g (csOf B ks) j = g (dsOf B tk) j)).map fun j : Nat => V.int (j : Int)))) ⟨Same.new nd', upd_same⟩ (fun i H' hi hP => ?_) (fun H' hP => ?_)
      · obtain ⟨s7, hd⟩ := hP
        have hi' : i < ks.length := by omega
        have e0 : (0 : Int) + (i : Int) = (i : Int) := Int.zero_add _
        rw [e0]
        have hil : i < tk.length := by omega
        have ha : ks[i]? = some ks[i] := List.getElem?_eq_getElem hi'
        have hb : tk[i]? = some tk[i] := List.getElem?_eq_getElem hil
        have hal := hin2 ks[i] (List.mem_of_getElem? ha)
        have hbl := hin2 tk[i] (hmem _ (List.mem_of_getElem? hb))
        have ga : g (csOf B ks) i = (B.clm ks[i]).c := Option.some.inj ((g_get (by show i < (ks.map _).length; rw [List.length_map]; exact hi')).symm.trans (by show (ks.map _)[i]? = _; rw [List.getElem?_map, ha]; rfl))
        have gb : g (dsOf B tk) i = (B.clm tk[i]).d := Option.some.inj ((g_get (by rw [dsOf_len]; exact hil)).symm.trans (by show (tk.map _)[i]? = _; rw [List.getElem?_map, hb]; rfl))
        have hr : (List.range ks.length)[i]? = some i := List.getElem?_range hi'
        generalize ks[i] = a at *
        generalize tk[i] = b' at *
        have A7 := A6.same s7
        obtain ⟨t1, hat1, htq1⟩ := (show ClAt K H' cl ts B from ⟨A7.hcl, A7.hq⟩).get hal
        obtain ⟨t2, hat2, htq2⟩ := (show ClAt K H' cl ts B from ⟨A7.hcl, A7.hq⟩).get hbl
        have ia : atI (numV ks) (i : Int) = some (.int (a : Int)) := atI_nat (j := i) (by unfold numV; rw [List.getElem?_map, ha]; rfl)
        have ib : atI (numV tk) (i : Int) = some (.int (b' : Int)) := atI_nat (j := i) (by unfold numV; rw [List.getElem?_map, hb]; rfl)
        refine ⟨rfl, _, rfl, b, _, 1, _, rfl, rfl, A7.hb, atI_nat (j := 1) rfl, _, rfl, _, rfl, nl, _, _, _, rfl, rfl, sq_of (s7 _ _ hn6), ia, cl, _, _, _, rfl, rfl, A7.hcl, hat1, t1, _, 1, _, rfl, rfl, htq1, atI_nat (j := 1) rfl, _, rfl, b, _, 1, _, rfl, rfl, A7.hb, atI_nat (j := 1) rfl, _, rfl, _, rfl, tu, _, _, _, rfl, rfl, sq_of (s7 _ _ htu), ib, cl, _, _, _, rfl, rfl, A7.hcl, hat2, t2, _, 0, _, rfl, rfl, htq2, atI_nat (j := 0) rfl, rfl, _, rfl, ?_⟩
        rw [dec_vint, ← ga, ← gb]
        have fl := filt_len (l := List.range ks.length) (q := fun j : Nat => !decide (g (csOf B ks) j = g (dsOf B tk) j)) (i := i) (n := 1000) (by rw [List.length_range]; exact hml2)
        by_cases c : g (csOf B ks) i = g (dsOf B tk) i
        · rw [decide_eq_true c]
          refine iteF ⟨s7, ?_⟩
          rw [filt_next hr, if_neg (by rw [decide_eq_true c]; decide), List.append_nil]
          exact hd
        · rw [decide_eq_false c]
          refine iteT ⟨_, rfl, _, hd, ?_, Same.mut s7 nd', ?_⟩
          · rw [List.length_map]
            exact sz_lt (by omega)
          · rw [upd_same, filt_next hr, if_pos (by rw [decide_eq_false c]; rfl), List.map_append]
            rfl
      · obtain ⟨s7, hd⟩ := hP
        have e5 : (((List.range ks.length).take (ks.length : Int).toNat).filter fun j => !decide (g (csOf B ks) j = g (dsOf B tk) j)).map (fun j : Nat => V.int (j : Int)) = (((List.range ks.length).filter fun j => !decide (g (csOf B ks) j = g (dsOf B tk) j)).map fun j : Nat => (j : Int)).map V.int := by
          rw [Int.toNat_natCast, List.take_of_length_le (by rw [List.length_range]; exact Nat.le_refl _), List.map_map]
          rfl
        rw [e5] at hd
        have key2 : (((List.range ks.length).filter fun j => !decide (g (csOf B ks) j = g (dsOf B tk) j)).map fun j : Nat => (j : Int)) = [] ↔ IsRing B ks := by
          rw [key, List.map_eq_nil_iff, filt_none]
          refine ⟨fun z => ext_g (by rw [dsOf_len, ltu]; exact List.length_map _) fun j hj => ?_, fun z j hj => by rw [z]; simp⟩
          have := z j (List.mem_range.mpr (by have e : (csOf B ks).length = ks.length := List.length_map _; omega))
          simpa using this
        refine ⟨Nat.zero_le _, fun l nl' => ⟨dInts _, dInts [], dp_ints (sq_of (Same.new nl' _ _ hd)), dp_ints (l := []) (sq_of upd_same), sh_ints, sh_ints, ?_⟩⟩
        rw [eqv_ints]
        have s17 := s16.trans (s7.trans (Same.new (o := .lst []) nl'))
        by_cases c : IsRing B ks
        · rw [decide_eq_true (key2.mpr c)]
          exact k1 ⟨hO, c⟩ _ s17
        · rw [decide_eq_false (fun z => c (key2.mp z))]
          exact k0 (fun z => c z.2) _ s17
end


end Rf
namespace Rf
open PySem PySem.Spec PyProof.Rows L2
theorem mv_tup {H : Hp} {u : Addr} {m : Mv} (A : MvAt H u m) : ∃ x, H u = some (.tup [.str m.word, x, .int m.coins]) := by
  cases m with
  | pay k c => exact ⟨_, A⟩
  | ring ks c =>
    obtain ⟨t, h, _⟩ := A
    exact ⟨_, h⟩
def spLPlayedI (K : PySem.W.Frag) : Sp := fun vs H Q _ => ∃ b ca cl ts B l us ms fs, PlayIn K vs H b ca cl ts B l us ms fs ((fs.length = ms.length ∧ Told H B fs Q) ∨ (fs.length < ms.length ∧ ∀ H', Same H H' → Q (.int (fs.length : Int)) H'))
section
variable {P : Program} {w : World} {K : PySem.W.Frag} {mg : Str → Option Value} {base : Heap}
theorem sc_lplayed : FnScope ["_law_book_here", "_law_moves", "_law_paid", "_law_held", "_law_at", "_law_move_here", "_law_numbers", "_law_k", "_law_debtor", "_law_creditor", "_law_amount", "_law_rank"] ["_law_book_here", "_law_moves"] (defScope s_lplayed) := ⟨rfl, rfl, rfl, by decide +kernel, rfl, by decide +kernel, by decide +kernel⟩
/- 0:_law_book_here 1:_law_moves 2:_law_paid 3:_law_held 4:_law_at 5:_law_move_here 6:_law_numbers 7:_law_k 8:_law_debtor 9:_law_creditor 10:_law_amount 11:_law_rank -/
theorem ok_lplayedI {f : Addr} {fd : FuncData} (D : DefAt K mg "_law_played" s_lplayed ["_law_book_here", "_law_moves"] f fd) (m_len : mg "len" = none) (m_set : mg "set" = none) (m_range : mg "range" = none) (m_list : mg "list" = none)
    {f1 : Addr} {fd1 : FuncData} (D_lfits : DefAt K mg "_law_fits" s_lfits ["_law_book_here", "_law_paid", "_law_held", "_law_move_here"] f1 fd1) : FnOk P w K mg base CX0 2 f fd ["_law_book_here", "_law_moves"] (spLPlayedI K) := by
  have G_lfits : FnOk P w K mg base CX0 1 f1 fd1 ["_law_book_here", "_law_paid", "_law_held", "_law_move_here"] (spLFitsI K) := ok_lfitsI D_lfits m_len m_set m_range m_list
  refine D.F.ok sc_lplayed (fun vs H Q E h => ?_) (fun cdv A outer s H vs Q E hr h => ?_)
  · obtain ⟨b, ca, cl, ts, B, l, us, ms, fs, rfl, _⟩ := h
    rfl
  · obtain ⟨b, ca, cl, ts, B, l, us, ms, fs, rfl, A, G, hl, hus, hml, hnl, hfar, h⟩ := h
    have m1 := G.m1
    have lq : (ts.map V.ref).length = B.claims.length := by rw [List.length_map, A.hq.1]
    refine ⟨_, pss_cons (ps_set (i := 2) sc_lplayed.nd rfl (.inl rfl) (pe_op op_rep (pe_lst (pa_cons pe_int pa_nil)) (pe_callB (r := rLen K) call_len (by rfl) m_len (by decide +kernel) (pa_cons (pe_ix (r := rIxT K) ix_tup (pv 0) pe_int (fun _ _ => rfl)) pa_nil))))
        (pss_cons (ps_set (i := 3) sc_lplayed.nd rfl (.inl rfl) (pe_callTy (r := rListOf K) call_listOf (by rfl) m_list (by decide +kernel) (pa_cons (pe_ix (r := rIxT K) ix_tup (pv 0) pe_int (fun _ _ => rfl)) pa_nil)))
        (pss_cons (ps_for PassesOwn.never rfl (pi_range1 (by rfl) m_range (pa_cons (pe_callB (r := rLen K) call_len (by rfl) m_len (by decide +kernel) (pa_cons (pv 1) pa_nil)) pa_nil)) (pg_name (i := 4) sc_lplayed.nd rfl (.inl rfl)) (pss_cons (ps_set (i := 5) sc_lplayed.nd rfl (.inl rfl) (pe_ix (r := rIxL K) ix_list (pv 1) (pv 4) (fun _ _ => rfl)))
          (pss_cons (ps_if (pt_not (pt_val (pe_call G_lfits (hr.mono (by decide)) (by rfl) D_lfits.g D_lfits.F.kp D_lfits.b .nil pass0 (pa_cons (pv 0) (pa_cons (pv 2) (pa_cons (pv 3) (pa_cons (pv 5) pa_nil))))))) (pss_one (ps_ret (pv 4))) pss_nil)
          (pss_cons (ps_set (i := 6) sc_lplayed.nd rfl (.inl rfl) (pe_ifExp (pt_cmpR op_eq (pe_ix (r := rIxT K) ix_tup (pv 5) pe_int (fun _ _ => rfl)) pe_str (nomark _)) (pe_lst (pa_cons (pe_ix (r := rIxT K) ix_tup (pv 5) pe_int (fun _ _ => rfl)) pa_nil)) (pe_callTy (r := rListOf K) call_listOf (by rfl) m_list (by decide +kernel) (pa_cons (pe_ix (r := rIxT K) ix_tup (pv 5) pe_int (fun _ _ => rfl)) pa_nil))))
          (pss_cons (ps_for PassesOwn.never rfl (pi_list (pv 6)) (pg_name (i := 7) sc_lplayed.nd rfl (.inl rfl)) (pss_one (ps_asg (pe_op op_add (pe_ix (r := rIxL K) ix_list (pv 2) (pv 7) (fun _ _ => rfl)) (pe_ix (r := rIxT K) ix_tup (pv 5) pe_int (fun _ _ => rfl))) (pg_sub (pv 2) (pv 7) set_list))))
          (pss_one (ps_if (pt_cmpR op_eq (pe_ix (r := rIxT K) ix_tup (pv 5) pe_int (fun _ _ => rfl)) pe_str (nomark _)) (pss_cons (ps_asg (pe_ix (r := rIxT K) ix_tup (pe_ix (r := rIxT K) ix_tup (pv 0) pe_int (fun _ _ => rfl)) (pe_ix (r := rIxT K) ix_tup (pv 5) pe_int (fun _ _ => rfl)) (fun _ _ => rfl)) (pg_tup rfl (pgs_cons (pg_name (i := 8) sc_lplayed.nd rfl (.inl rfl)) (pgs_cons (pg_name (i := 9) sc_lplayed.nd rfl (.inl rfl)) (pgs_cons (pg_name (i := 10) sc_lplayed.nd rfl (.inl rfl)) (pgs_cons (pg_name (i := 11) sc_lplayed.nd rfl (.inl rfl)) pgs_nil))))))
            (pss_cons (ps_asg (pe_op op_sub (pe_ix (r := rIxL K) ix_list (pv 3) (pv 8) (fun _ _ => rfl)) (pe_ix (r := rIxT K) ix_tup (pv 5) pe_int (fun _ _ => rfl))) (pg_sub (pv 3) (pv 8) set_list))
            (pss_one (ps_asg (pe_op op_add (pe_ix (r := rIxL K) ix_list (pv 3) (pv 9) (fun _ _ => rfl)) (pe_ix (r := rIxT K) ix_tup (pv 5) pe_int (fun _ _ => rfl))) (pg_sub (pv 3) (pv 9) set_list))))) pss_nil)))))))
        (pss_one (ps_ret (pe_tup (pa_cons (pv 2) (pa_cons (pv 3) pa_nil))))))), ?_⟩
    refine sq_new (.lst ((noneP B).map V.int)) (fun Q k => ?_) (fun p H2 np s2 hp => ?_)
    · refine ⟨(by show 1 ≤ sizeLine; decide), fun z nz => ⟨_, rfl, b, _, 1, _, rfl, rfl, (A.same (Same.new nz)).hb, atI_nat (j := 1) rfl, cl, _, rfl, .inr ((A.same (Same.new nz)).hcl), z, _, [.int 0], rfl, rfl, upd_same, by rw [lq]; omega, by rw [lq]; omega, by rw [lq]; show 1 * _ ≤ sizeLine; exact sz_of (by omega), fun p np => ?_⟩⟩
      have e : (List.replicate ((ts.map V.ref).length : Int).toNat [V.int 0]).flatten = (noneP B).map V.int := by
        rw [lq]
        unfold noneP
        rw [Int.toNat_natCast, List.map_replicate]
        generalize B.claims.length = n
        induction n with
        | zero => rfl
        | succ n ih => rw [List.replicate_succ, List.flatten_cons, ih]; rfl
      rw [e]
      exact k p _ ((Same.new nz).free np) ((Same.new nz).trans (Same.new np)) upd_same
    have A2 := A.same s2
    refine sq_new (.lst ((leftOf B (noneP B)).map V.int)) (fun Q k => ⟨_, rfl, b, _, 0, _, rfl, rfl, A2.hb, atI_nat (j := 0) rfl, ca, _, rfl, .inr A2.hca, fun q nq => k q _ nq (Same.new nq) (by rw [upd_same, left_none])⟩) (fun he H3 nhe' s3 hhe => ?_)
    have nhe := s2.free nhe'
    have ne : p ≠ he := ne_of_none hp nhe'
    have s03 := s2.trans s3
    refine sq_forR (ms.length : Int) (fun Q k => ⟨_, rfl, l, _, rfl, .inl (s03.seq hl), by rw [List.length_map, hus.1]; exact k⟩) (by omega)
      (fun i σ' H' => Same H H' ∧ i ≤ fs.length ∧ H' p = some (.lst ((playedOf (noneP B) (fs.take i)).map V.int)) ∧ H' he = some (.lst ((leftOf B (playedOf (noneP B) (fs.take i))).map V.int)) ∧ ∃ y4 y5 y6 y7 y8 y9 y10 y11, σ' = [some (.ref b), some (.ref l), some (.ref p), some (.ref he), y4, y5, y6, y7, y8, y9, y10, y11])
      ⟨s03, Nat.zero_le _, s3 _ _ hp, hhe, _, _, _, _, _, _, _, _, rfl⟩ (fun i σ' H' hi hW => ?_) (fun σ' H' hW => ?_)
    · obtain ⟨s4, hif, hp4, hhe4, y4, y5, y6, y7, y8, y9, y10, y11, rfl⟩ := hW
      have hi' : i < us.length := by rw [hus.1]; omega
      have hu : us[i]? = some us[i] := List.getElem?_eq_getElem hi'
      have him : i < ms.length := by omega
      obtain ⟨mi, hm⟩ : ∃ m, ms[i]? = some m := ⟨_, List.getElem?_eq_getElem him⟩
      have humi0 := hus.2 i us[i] mi hu hm
      have humi := humi0.same s4
      have hmn := hnl mi (List.mem_of_getElem? hm)
      have hat : atI (us.map V.ref) (i : Int) = some (.ref us[i]) := atI_nat (j := i) (by rw [List.getElem?_map, hu]; rfl)
      generalize us[i] = u at *
      have hPl : (playedOf (noneP B) (fs.take i)).length = B.claims.length := by rw [played_len, noneP_len]
      have A4 := A.same s4
      refine sq_val (.ref u) (fun Q k => ⟨_, rfl, _, rfl, l, _, _, _, rfl, rfl, s4.seq hl, hat, k⟩) ?_
      by_cases cn : ¬ i < fs.length
      · have ei : i = fs.length := by omega
        subst ei
        rw [List.take_length] at hp4 hhe4 hPl
        rcases hfar.stop with e | ⟨m2, e1, e2⟩
        · omega
        rw [hm] at e1
        cases e1
        rcases h with ⟨e, _⟩ | ⟨_, k⟩
        · omega
        refine sq_if (fun b H6 => b = true ∧ Same H' H6) (fun Q k => ⟨_, rfl, _, rfl, _, rfl, _, rfl, b, ca, cl, p, he, u, ts, B, playedOf (noneP B) fs, mi, rfl, A4, G, sq_of hp4, hPl, sq_of hhe4, humi, hmn, fun n => absurd n e2, fun _ H6 s6 => ⟨_, rfl, k _ _ ⟨rfl, s6⟩⟩⟩) (fun H6 h6 => ?_) (fun H6 h6 => ?_)
        · exact ⟨_, rfl, k _ (s4.trans h6.2)⟩
        · cases h6.1
      have cc : i < fs.length := Classical.byContradiction cn
      have hf : fs[i]? = some fs[i] := List.getElem?_eq_getElem cc
      obtain ⟨F, hnext⟩ := allFit_at hfar.fit hf
      have em := hfar.at hf
      rw [hm] at em
      have em := Option.some.inj em
      generalize fs[i] = m at *
      subst em
      rw [hnext]
      generalize playedOf (noneP B) (fs.take i) = Pi at *
      have hum0 : MvAt H u m := humi0.down
      have hum : MvAt H' u m := humi.down
      obtain ⟨xx, hux0⟩ := mv_tup hum0
      have hux := s4 _ _ hux0
      refine sq_no (fun H6 => Same H' H6) (fun Q k => ⟨_, rfl, _, rfl, _, rfl, _, rfl, b, ca, cl, p, he, u, ts, B, Pi, m.up, rfl, A4, G, sq_of hp4, hPl, sq_of hhe4, humi, hmn, fun _ H6 s6 => ⟨_, rfl, k _ s6⟩, fun n => absurd ⟨m, rfl, F⟩ n⟩) (fun H6 s6 => ?_)
      have s46 := s4.trans s6
      have A6 := A.same s46
      have hum6 := hum.same s6
      have hp6 := s6 _ _ hp4
      have hhe6 := s6 _ _ hhe4
      have hux6 := s6 _ _ hux
      refine sq_new (.lst (numV m.nums)) (fun Q k => ?_) (fun nl H7 nnl s7 hn7 => ?_)
      · cases m with
        | pay k' c =>
          have hu' : H6 u = some (.tup [.str "pay", .int (k' : Int), .int c]) := hum6
          refine ⟨_, rfl, u, _, 0, _, rfl, rfl, st_of hu', atI_nat (j := 0) rfl, rfl, _, rfl, ?_⟩
          rw [str_eq]
          exact iteT ⟨_, rfl, u, _, 1, _, rfl, rfl, st_of hu', atI_nat (j := 1) rfl, by show 1 ≤ sizeLine; decide, fun q nq => k q _ nq (Same.new nq) upd_same⟩
        | ring ks c =>
          obtain ⟨t, hu', ht⟩ := hum6
          refine ⟨_, rfl, u, _, 0, _, rfl, rfl, st_of hu', atI_nat (j := 0) rfl, rfl, _, rfl, ?_⟩
          rw [str_ne pay_ring.symm]
          exact iteF ⟨_, rfl, u, _, 1, _, rfl, rfl, st_of hu', atI_nat (j := 1) rfl, t, _, rfl, .inr (st_of ht), fun q nq => k q _ nq (Same.new nq) upd_same⟩
      have s47 := s46.trans s7
      have hp7 := s7 _ _ hp6
      have hhe7 := s7 _ _ hhe6
      have nlp : nl ≠ p := (ne_of_none hp6 nnl).symm
      refine sq_forL (a := nl) (xs := numV m.nums) (fun Q k => ⟨_, rfl, k⟩) (sq_of hn7)
        (fun j σ' H8 => Same H H8 ∧ H8 p = some (.lst ((addR Pi (m.nums.take j) m.coins).map V.int)) ∧ H8 he = some (.lst ((leftOf B Pi).map V.int)) ∧ H8 nl = some (.lst (numV m.nums)) ∧ ∃ y7, σ' = [some (.ref b), some (.ref l), some (.ref p), some (.ref he), some (.int (i : Int)), some (.ref u), some (.ref nl), y7, y8, y9, y10, y11])
        ⟨s47, hp7, hhe7, hn7, _, rfl⟩ (fun j σ' H8 _ hP => sq_of hP.2.2.2.1) (fun j z σ' H8 hz hP => ?_) (fun σ' H8 hP => ?_)
      · obtain ⟨s8, hp8, hhe8, hn8, y7, rfl⟩ := hP
        obtain ⟨k', hk', rfl⟩ := numV_get hz
        have hkl : k' < (addR Pi (m.nums.take j) m.coins).length := by rw [addR_len, hPl]; exact (F.owed k' (List.mem_of_getElem? hk')).1
        have hu8 : H8 u = some (.tup [.str m.word, xx, .int m.coins]) := s8 _ _ hux0
        refine ⟨_, rfl, _, rfl, p, _, _, _, rfl, rfl, sq_of hp8, atI_g rfl hkl, _, rfl, u, _, 2, _, rfl, rfl, st_of hu8, atI_nat (j := 2) rfl, _, _, rfl, rfl, _, rfl, _, rfl, p, _, _, k', rfl, rfl, hp8, ixN_nat rfl (by rw [List.length_map]; exact hkl), ?_⟩
        rw [map_set]
        have e : (addR Pi (m.nums.take j) m.coins).set k' (g (addR Pi (m.nums.take j) m.coins) k' + m.coins) = addR Pi (m.nums.take (j + 1)) m.coins := by
          unfold addR
          rw [List.take_add_one, hk', List.foldl_append]
          rfl
        rw [e]
        exact ⟨Same.mut s8 np, upd_same, by rw [upd_ne ne.symm]; exact hhe8, by rw [upd_ne nlp]; exact hn8, _, rfl⟩
      · obtain ⟨s8, hp8, hhe8, hn8, y7, rfl⟩ := hP
        rw [numV_len, List.take_length] at hp8
        have hp8 : H8 p = some (.lst ((doMv Pi m).map V.int)) := hp8
        have A8 := A.same s8
        cases m with
        | pay k' c =>
          have hu8 : H8 u = some (.tup [.str "pay", .int (k' : Int), .int c]) := s8 _ _ hum0
          obtain ⟨hkl, hka⟩ := F.owed k' List.mem_cons_self
          have gc := G.clm hkl
          obtain ⟨x, ex, hx⟩ := nat_of gc.d0 gc.d1
          obtain ⟨y, ey, hy⟩ := nat_of gc.c0 gc.c1
          obtain ⟨t, hat, htq⟩ := (show ClAt K H8 cl ts B from ⟨A8.hcl, A8.hq⟩).get hkl
          refine ⟨_, rfl, u, _, 0, _, rfl, rfl, st_of hu8, atI_nat (j := 0) rfl, rfl, _, rfl, ?_⟩
          rw [str_eq]
          refine iteT ?_
          refine ⟨_, rfl, b, _, 1, _, rfl, rfl, A8.hb, atI_nat (j := 1) rfl, _, rfl, u, _, 1, _, rfl, rfl, st_of hu8, atI_nat (j := 1) rfl, cl, _, _, _, rfl, rfl, A8.hcl, hat, t, _, rfl, htq, rfl, _, _, rfl, _, _, rfl, _, _, rfl, _, _, rfl, rfl, ?_⟩
          have hll : x < (leftOf B Pi).length := by rw [leftOf_len]; exact hx
          refine ⟨_, rfl, _, rfl, he, _, _, _, rfl, rfl, sq_of hhe8, atI_g ex hll, _, rfl, u, _, 2, _, rfl, rfl, st_of hu8, atI_nat (j := 2) rfl, _, _, rfl, rfl, _, rfl, _, rfl, he, _, _, x, rfl, rfl, hhe8, ixN_nat ex (by rw [List.length_map]; exact hll), ?_⟩
          rw [map_set]
          have hly : y < ((leftOf B Pi).set x (g (leftOf B Pi) x - c)).length := by rw [List.length_set, leftOf_len]; exact hy
          have hu9 : (upd H8 he (.lst (((leftOf B Pi).set x (g (leftOf B Pi) x - c)).map V.int))) u = some (.tup [.str "pay", .int (k' : Int), .int c]) := by rw [upd_ne (ne_of hu8 hhe8 (fun z => nomatch z))]; exact hu8
          refine ⟨_, rfl, _, rfl, he, _, _, _, rfl, rfl, sq_of upd_same, atI_g ey hly, _, rfl, u, _, 2, _, rfl, rfl, st_of hu9, atI_nat (j := 2) rfl, _, _, rfl, rfl, _, rfl, _, rfl, he, _, _, y, rfl, rfl, upd_same, ixN_nat ey (by rw [List.length_map]; exact hly), ?_⟩
          rw [map_set, ← left_set G hPl hkl ex ey hx hy]
          exact ⟨Same.mut (Same.mut s8 nhe) nhe, cc, by rw [upd_ne ne, upd_ne ne]; exact hp8, upd_same, _, _, _, _, _, _, _, _, rfl⟩
        | ring ks c =>
          have hu8 : H8 u = some (.tup [.str "ring", xx, .int c]) := s8 _ _ hux0
          refine ⟨_, rfl, u, _, 0, _, rfl, rfl, st_of hu8, atI_nat (j := 0) rfl, rfl, _, rfl, ?_⟩
          rw [str_ne pay_ring.symm]
          refine iteF ⟨s8, cc, hp8, ?_, _, _, _, _, _, _, _, _, rfl⟩
          rw [hhe8]
          show _ = some (HO.lst ((leftOf B (addR Pi ks c)).map V.int))
          rw [left_ring (F.ring ks c rfl) hPl fun k hk => (F.owed k hk).1]
    · obtain ⟨s4, hif, hp4, hhe4, y4, y5, y6, y7, y8, y9, y10, y11, rfl⟩ := hW
      have hle := hfar.le
      rw [Int.toNat_natCast] at hif hp4 hhe4
      rw [List.take_of_length_le (l := fs) (i := ms.length) (by omega)] at hp4 hhe4
      rcases h with ⟨_, k⟩ | ⟨e, _⟩
      · refine ⟨_, rfl, _, rfl, by show 2 ≤ sizeLine; decide, fun t nt => ?_⟩
        exact k t p he _ (s4.trans (Same.new nt)) (s4.free nt) np nhe upd_same ((Same.new nt) _ _ hp4) ((Same.new nt) _ _ hhe4)
      · omega
end


end Rf
namespace Rf
open PySem PySem.Spec PyProof.Rows L2
/-! ### the law's moves -/
def spLRing (K : PySem.W.Frag) : Sp := fun vs H Q _ => ∃ (h c b ca cl : Addr) (ts : List Addr) (B : Bk), vs = [.ref h, .ref b] ∧ RngAt H h c ∧ BookAt K H b ca cl ts B ∧ Good B ∧ 1 ≤ B.claims.length ∧
  ∀ (t : Addr) (ks : List Int) (H' : Hp), Fr h c H H' → ks.length ≤ 9 → H' t = some (.tup (ks.map V.int)) → Q (.ref t) H'
def spLMove (K : PySem.W.Frag) : Sp := fun vs H Q _ => ∃ (h c b ca cl : Addr) (ts : List Addr) (B : Bk), vs = [.ref h, .ref b] ∧ RngAt H h c ∧ BookAt K H b ca cl ts B ∧ Good B ∧
  ∀ (u : Addr) (m : IMv) (H' : Hp), Fr h c H H' → m.nums.length ≤ 20 → MvIAt H' u m → Q (.ref u) H'
theorem slL_upA {K : PySem.W.Frag} {σ : L2.St} {H : Hp} {a : Addr} {xs : List V} {lo : Option Int} {Q : VK} (h : H a = some (.lst xs)) (k : ∀ p H', H p = none → Same H H' → H' p = some (.lst (cutV xs lo none)) → Q (.ref p) H') : tNoPart σ H fun u H3 => rSlL K (.ref a) lo u H3 Q := ⟨a, xs, rfl, sq_of h, fun p np => k p _ np (Same.new np) upd_same⟩
section
variable {P : Program} {w : World} {K : PySem.W.Frag} {mg : Str → Option Value} {base : Heap}
theorem sc_lring : FnScope ["_law_h", "_law_book_here", "_law_way", "_law_turn", "_law_at", "_law_starts", "_law_some", "_law_k"] ["_law_h", "_law_book_here"] (defScope s_lring) := ⟨rfl, rfl, rfl, by decide +kernel, rfl, by decide +kernel, by decide +kernel⟩
/- 0:_law_h 1:_law_book_here 2:_law_way 3:_law_turn 4:_law_at 5:_law_starts 6:_law_some 7:_law_k -/
theorem ok_lring {f : Addr} {fd : FuncData} (D : DefAt K mg "_law_ring" s_lring ["_law_h", "_law_book_here"] f fd) (m_len : mg "len" = none) (m_range : mg "range" = none) (m_tuple : mg "tuple" = none)
    {f1 : Addr} {fd1 : FuncData} (D_next : DefAt K mg "_law_next" s_next ["_law_h", "_law_many"] f1 fd1) (G_next : FnOk P w K mg base CX0 1 f1 fd1 ["_law_h", "_law_many"] spNext) : FnOk P w K mg base CX0 2 f fd ["_law_h", "_law_book_here"] (spLRing K) := by
  refine D.F.ok sc_lring (fun vs H Q E h => ?_) (fun cdv A outer s H vs Q E hr h => ?_)
  · obtain ⟨h, c, b, ca, cl, ts, B, rfl, _⟩ := h
    rfl
  · obtain ⟨h, c, b, ca, cl, ts, B, rfl, R, A, G, hn, k⟩ := h
    have m1 := G.m1
    have lq : (ts.map V.ref).length = B.claims.length := by rw [List.length_map, A.hq.1]
    refine ⟨_, pss_cons (ps_set (i := 2) sc_lring.nd rfl (.inr rfl) (pe_lst (pa_cons (pe_call G_next (hr.mono (by decide)) (by rfl) D_next.g D_next.F.kp D_next.b .nil pass0 (pa_cons (pv 0) (pa_cons (pe_callB (r := rLen K) call_len (by rfl) m_len (by decide +kernel) (pa_cons (pe_ix (r := rIxT K) ix_tup (pv 1) pe_int (fun _ _ => rfl)) pa_nil)) pa_nil))) pa_nil)))
        (pss_cons (ps_for PassesOwn.never rfl (pi_range1 (by rfl) m_range (pa_cons pe_int pa_nil)) (pg_name (i := 3) sc_lring.nd rfl (.inl rfl)) (pss_cons (ps_set (i := 4) sc_lring.nd rfl (.inr rfl) (pe_ix (r := rIxT K) ix_tup (pe_ix (r := rIxT K) ix_tup (pe_ix (r := rIxT K) ix_tup (pv 1) pe_int (fun _ _ => rfl)) (pe_ix (r := rIxL K) ix_list (pv 2) (pe_un un_neg pe_int) (fun _ _ => rfl)) (fun _ _ => rfl)) pe_int (fun _ _ => rfl)))
          (pss_cons (ps_setLc (i := 5) (own := [("_law_k", 7)]) (g := gName 7) (by rfl) sc_lring.nd rfl rfl (sw_true rfl rfl rfl (by decide +kernel)) (pi_range1 (by rfl) m_range (pa_cons (pe_callB (r := rLen K) call_len (by rfl) m_len (by decide +kernel) (pa_cons (pv 2) pa_nil)) pa_nil)) (blkOk_by (own := [("_law_k", 7)]) (N := ["_law_h", "_law_book_here", "_law_way", "_law_turn", "_law_at", "_law_starts", "_law_some", "_law_k"]) (sc := defScope s_lring) (by decide +kernel)) (fun _ _ _ _ _ => (pg_name (i := 7) sc_lring.nd rfl (.inl rfl))) (fun _ _ _ _ _ => (pts_one (pt_cmpR op_eq (pe_ix (r := rIxT K) ix_tup (pe_ix (r := rIxT K) ix_tup (pe_ix (r := rIxT K) ix_tup (pv 1) pe_int (fun _ _ => rfl)) (pe_ix (r := rIxL K) ix_list (pv 2) (pv 7) (fun _ _ => rfl)) (fun _ _ => rfl)) pe_int (fun _ _ => rfl)) (pv 4) (nomark _)))) (fun _ _ _ _ _ => (pv 7)))
          (pss_cons (ps_if (pt_cmpR (op_neD hr.units) (pv 5) (pe_lst pa_nil) (nomark _)) (pss_one (ps_ret (pe_callTy (r := rTupleOf K) call_tupleOf (by rfl) m_tuple (by decide +kernel) (pa_cons (pe_slice sl_list (pv 2) (po_some (pe_ix (r := rIxL K) ix_list (pv 5) pe_int (fun _ _ => rfl))) po_none) pa_nil)))) pss_nil)
          (pss_cons (ps_setLc (i := 6) (own := [("_law_k", 7)]) (g := gName 7) (by rfl) sc_lring.nd rfl rfl (sw_true rfl rfl rfl (by decide +kernel)) (pi_range1 (by rfl) m_range (pa_cons (pe_callB (r := rLen K) call_len (by rfl) m_len (by decide +kernel) (pa_cons (pe_ix (r := rIxT K) ix_tup (pv 1) pe_int (fun _ _ => rfl)) pa_nil)) pa_nil)) (blkOk_by (own := [("_law_k", 7)]) (N := ["_law_h", "_law_book_here", "_law_way", "_law_turn", "_law_at", "_law_starts", "_law_some", "_law_k"]) (sc := defScope s_lring) (by decide +kernel)) (fun _ _ _ _ _ => (pg_name (i := 7) sc_lring.nd rfl (.inl rfl))) (fun _ _ _ _ _ => (pts_one (pt_cmpR op_eq (pe_ix (r := rIxT K) ix_tup (pe_ix (r := rIxT K) ix_tup (pe_ix (r := rIxT K) ix_tup (pv 1) pe_int (fun _ _ => rfl)) (pv 7) (fun _ _ => rfl)) pe_int (fun _ _ => rfl)) (pv 4) (nomark _)))) (fun _ _ _ _ _ => (pv 7)))
          (pss_cons (ps_if (pt_cmpR (op_eqD hr.units) (pv 6) (pe_lst pa_nil) (nomark _)) (pss_one (ps_ret (pe_callTy (r := rTupleOf K) call_tupleOf (by rfl) m_tuple (by decide +kernel) (pa_cons (pv 2) pa_nil)))) pss_nil)
          (pss_one (ps_expr (pe_bm PySem.F.plainAttrs_list PySem.F.slot_list_append PySem.F.type_list_append mt_append (pv 2) (pa_cons (pe_ix (r := rIxL K) ix_list (pv 6) (pe_call G_next (hr.mono (by decide)) (by rfl) D_next.g D_next.F.kp D_next.b .nil pass0 (pa_cons (pv 0) (pa_cons (pe_callB (r := rLen K) call_len (by rfl) m_len (by decide +kernel) (pa_cons (pv 6) pa_nil)) pa_nil))) (fun _ _ => rfl)) pa_nil))))))))))
        (pss_one (ps_ret (pe_callTy (r := rTupleOf K) call_tupleOf (by rfl) m_tuple (by decide +kernel) (pa_cons (pv 2) pa_nil))))), ?_⟩
    refine sq_set (fun v H1 => Fr h c H H1 ∧ ∃ (wa : Addr) (n : Nat), v = .ref wa ∧ ¬ isHC h c wa ∧ n < B.claims.length ∧ H wa = none ∧ H1 wa = some (.lst (numV [n]))) (fun Q k => ⟨_, rfl, _, rfl, b, _, 1, _, rfl, rfl, A.hb, atI_nat (j := 1) rfl, cl, _, rfl, .inr A.hcl, h, c, _, rfl, R, by rw [lq]; omega, by rw [lq]; omega, fun r H1 r0 r1 R1 o1 => ⟨by show 1 ≤ sizeLine; decide, fun wa nwa => ?_⟩⟩) (fun v H1 hv => ?_)
    · rw [lq] at r1
      obtain ⟨n, rfl⟩ := Int.eq_ofNat_of_zero_le r0
      have F1 : Fr h c H H1 := ⟨o1, R1⟩
      exact k _ _ ⟨F1.new nwa, wa, n, rfl, R1.fresh nwa, by omega, F1.free nwa, upd_same⟩
    obtain ⟨F1, wa, n, rfl, hwf, hnn, nwa, hwa⟩ := hv
    refine sq_norm [some (.ref h), some (.ref b), some (.ref wa), none, none, none, none, none] rfl ?_
    refine sq_forR 8 (fun Q k => k) (by decide)
      (fun i σ' H' => Fr h c H H' ∧ i ≤ 8 ∧ (∃ way : List Nat, H' wa = some (.lst (numV way)) ∧ way.length = i + 1 ∧ ∀ x ∈ way, x < B.claims.length) ∧ ∃ y3 y4 y5 y6, σ' = [some (.ref h), some (.ref b), some (.ref wa), y3, y4, y5, y6, none])
      ⟨F1, by decide, ⟨[n], hwa, rfl, fun x hx => by rw [List.mem_singleton.mp hx]; exact hnn⟩, none, none, none, none, rfl⟩ (fun i σ' H' hi hP => ?_) (fun σ' H' hP => ?_)
    · obtain ⟨F2, _, ⟨way, hway, hwl, hwr⟩, y3, y4, y5, y6, rfl⟩ := hP
      have hi8 : i < 8 := by omega
      have A2 := Fr.book R F2 A
      have hne : way ≠ [] := fun z => by rw [z] at hwl; cases hwl
      obtain ⟨ini, a, hini⟩ : ∃ ini a, way = ini ++ [a] := ⟨way.dropLast, way.getLast hne, (List.dropLast_concat_getLast hne).symm⟩
      have hal := hwr a (by rw [hini]; exact List.mem_append_right _ List.mem_cons_self)
      obtain ⟨ta, hata, htqa⟩ := (show ClAt K H' cl ts B from ⟨A2.hcl, A2.hq⟩).get hal
      refine sq_val (.int (B.clm a).c) (fun Q k => ⟨_, rfl, b, _, 1, _, rfl, rfl, A2.hb, atI_nat (j := 1) rfl, _, rfl, _, rfl, wa, _, _, .int (a : Int), rfl, rfl, sq_of hway, by rw [hini, numV_app]; exact atI_last _ _, cl, _, _, _, rfl, rfl, A2.hcl, hata, ta, _, 1, _, rfl, rfl, htqa, atI_nat (j := 1) rfl, k⟩) ?_
      -- where the way has been
      refine sq_set (fun v H3 => Same H' H3 ∧ ∃ (d : Addr) (S : List Nat), v = .ref d ∧ H3 d = some (.lst (numV S)) ∧ S.length ≤ i + 1 ∧ ∀ x ∈ S, x < way.length) (fun Q k => ?_) (fun v H3 hv => ?_)
      · refine ⟨_, rfl, wa, _, rfl, .inl (sq_of hway), ((numV way).length : Int), rfl, by rw [numV_len]; omega, by rw [numV_len]; omega, fun d nd => ?_⟩
        refine lc_range (lo := 0) (n := ((numV way).length : Int).toNat) (fun j H3 => Same H' H3 ∧ ∃ S : List Nat, H3 d = some (.lst (numV S)) ∧ S.length ≤ j ∧ ∀ x ∈ S, x < way.length) ⟨Same.new nd, [], upd_same, Nat.le_refl _, fun x hx => nomatch hx⟩ (fun j H3 hj hP => ?_) (fun H3 hP => ?_)
        · obtain ⟨s3, S, hd, hS, hSr⟩ := hP
          have e0 : (0 : Int) + (j : Int) = (j : Int) := Int.zero_add _
          rw [e0]
          have hjl : j < way.length := by rw [numV_len, Int.toNat_natCast] at hj; exact hj
          have hx : way[j]? = some way[j] := List.getElem?_eq_getElem hjl
          have hxl := hwr _ (List.mem_of_getElem? hx)
          generalize way[j] = x at *
          have A3 := A2.same s3
          obtain ⟨tx, hatx, htqx⟩ := (show ClAt K H3 cl ts B from ⟨A3.hcl, A3.hq⟩).get hxl
          refine ⟨rfl, _, rfl, b, _, 1, _, rfl, rfl, A3.hb, atI_nat (j := 1) rfl, _, rfl, _, rfl, wa, _, _, .int (x : Int), rfl, rfl, sq_of (s3 _ _ hway), atI_nat (j := j) (by unfold numV; rw [List.getElem?_map, hx]; rfl), cl, _, _, _, rfl, rfl, A3.hcl, hatx, tx, _, 0, _, rfl, rfl, htqx, atI_nat (j := 0) rfl, _, rfl, rfl, _, rfl, ?_⟩
          by_cases c : V.int (B.clm x).d = V.int (B.clm a).c
          · rw [decide_eq_true c]
            refine iteT ⟨_, rfl, _, hd, ?_, Same.mut s3 nd, S ++ [j], ?_, ?_, fun y hy => ?_⟩
            · rw [numV_len]
              exact sz_lt (by omega)
            · rw [upd_same, numV_app]
            · rw [List.length_append]
              exact Nat.succ_le_succ hS
            · rcases List.mem_append.mp hy with e | e
              · exact hSr y e
              · rw [List.mem_singleton.mp e]
                exact hjl
          · rw [decide_eq_false c]
            exact iteF ⟨s3, S, hd, Nat.le_succ_of_le hS, hSr⟩
        · obtain ⟨s3, S, hd, hS, hSr⟩ := hP
          rw [numV_len, Int.toNat_natCast, hwl] at hS
          exact k _ _ ⟨s3, d, S, rfl, hd, hS, hSr⟩
      obtain ⟨s3, d, S, rfl, hd, hS, hSr⟩ := hv
      have F3 := F2.same s3
      have hw3 := s3 _ _ hway
      refine sq_when (fun b H4 => Same H3 H4 ∧ (b = true → S ≠ [])) (fun Q k => ⟨_, rfl, Nat.zero_le _, fun l nl => ⟨dInts (upN S), dInts [], dp_ints (sq_of (Same.new nl _ _ (by rw [hd, numV_ints]; rfl))), dp_ints (l := []) (sq_of upd_same), sh_ints, sh_ints, _, rfl, ?_⟩⟩) (fun H4 h4 => ?_) (fun H4 h4 => ?_)
      · rw [eqv_ints]
        refine k _ _ ⟨Same.new nl, fun e z => ?_⟩
        rw [z] at e
        exact absurd e (by decide)
      · obtain ⟨s4, hne4⟩ := h4
        obtain ⟨s0, S', eS⟩ := List.exists_cons_of_ne_nil (hne4 rfl)
        subst eS
        have h0 := hSr s0 List.mem_cons_self
        refine ⟨_, rfl, _, rfl, d, _, 0, .int (s0 : Int), rfl, rfl, sq_of (s4 _ _ hd), atI_nat (j := 0) rfl, (s0 : Int), rfl, slL_upA (s4 _ _ hw3) fun p H5 np s5 hp => ⟨p, _, rfl, .inl ⟨sq_of hp, fun t nt => ?_⟩⟩⟩
        rw [cut_drop h0, numV_ints]
        refine k t (upN (way.drop s0)) _ ((F3.same s4).same (s5.trans (Same.new nt))) ?_ upd_same
        unfold upN
        rw [List.length_map, List.length_drop]
        omega
      obtain ⟨s4, _⟩ := h4
      have F4 := F3.same s4
      have hw4 := s4 _ _ hw3
      have A4 := (A2.same s3).same s4
      -- whither it may go
      refine sq_set (fun v H5 => Same H4 H5 ∧ ∃ (d : Addr) (S : List Nat), v = .ref d ∧ H4 d = none ∧ H5 d = some (.lst (numV S)) ∧ S.length ≤ 24 ∧ ∀ x ∈ S, x < B.claims.length) (fun Q k => ?_) (fun v H5 hv => ?_)
      · refine ⟨_, rfl, b, _, 1, _, rfl, rfl, A4.hb, atI_nat (j := 1) rfl, cl, _, rfl, .inr A4.hcl, ((ts.map V.ref).length : Int), rfl, by rw [lq]; omega, by rw [lq]; omega, fun d nd => ?_⟩
        refine lc_range (lo := 0) (n := ((ts.map V.ref).length : Int).toNat) (fun j H3 => Same H4 H3 ∧ ∃ S : List Nat, H3 d = some (.lst (numV S)) ∧ S.length ≤ j ∧ ∀ x ∈ S, x < B.claims.length) ⟨Same.new nd, [], upd_same, Nat.le_refl _, fun x hx => nomatch hx⟩ (fun j H3 hj hP => ?_) (fun H3 hP => ?_)
        · obtain ⟨s3, S, hd, hS, hSr⟩ := hP
          have e0 : (0 : Int) + (j : Int) = (j : Int) := Int.zero_add _
          rw [e0]
          have hjl : j < B.claims.length := by rw [lq, Int.toNat_natCast] at hj; exact hj
          have A3 := A4.same s3
          obtain ⟨tx, hatx, htqx⟩ := (show ClAt K H3 cl ts B from ⟨A3.hcl, A3.hq⟩).get hjl
          refine ⟨rfl, _, rfl, b, _, 1, _, rfl, rfl, A3.hb, atI_nat (j := 1) rfl, _, rfl, cl, _, _, _, rfl, rfl, A3.hcl, hatx, tx, _, 0, _, rfl, rfl, htqx, atI_nat (j := 0) rfl, _, rfl, rfl, _, rfl, ?_⟩
          by_cases c : V.int (B.clm j).d = V.int (B.clm a).c
          · rw [decide_eq_true c]
            refine iteT ⟨_, rfl, _, hd, ?_, Same.mut s3 nd, S ++ [j], ?_, ?_, fun y hy => ?_⟩
            · rw [numV_len]
              exact sz_lt (by omega)
            · rw [upd_same, numV_app]
            · rw [List.length_append]
              exact Nat.succ_le_succ hS
            · rcases List.mem_append.mp hy with e | e
              · exact hSr y e
              · rw [List.mem_singleton.mp e]
                exact hjl
          · rw [decide_eq_false c]
            exact iteF ⟨s3, S, hd, Nat.le_succ_of_le hS, hSr⟩
        · obtain ⟨s3, S, hd, hS, hSr⟩ := hP
          rw [lq, Int.toNat_natCast] at hS
          exact k _ _ ⟨s3, d, S, rfl, nd, hd, Nat.le_trans hS m1, hSr⟩
      obtain ⟨s5, e, S2, rfl, ne5, he, hS2, hSr2⟩ := hv
      have F5 := F4.same s5
      have hef := F4.rng.fresh ne5
      have hw5 := s5 _ _ hw4
      refine sq_when (fun b H6 => Same H5 H6 ∧ (b = false → S2 ≠ [])) (fun Q k => ⟨_, rfl, Nat.zero_le _, fun l nl => ⟨dInts (upN S2), dInts [], dp_ints (sq_of (Same.new nl _ _ (by rw [he, numV_ints]; rfl))), dp_ints (l := []) (sq_of upd_same), sh_ints, sh_ints, _, rfl, ?_⟩⟩) (fun H6 h6 => ?_) (fun H6 h6 => ?_)
      · rw [eqv_ints]
        refine k _ _ ⟨Same.new nl, fun e z => ?_⟩
        rw [z] at e
        exact absurd e (by decide)
      · obtain ⟨s6, _⟩ := h6
        refine ⟨_, rfl, wa, _, rfl, .inl ⟨sq_of (s6 _ _ hw5), fun t nt => ?_⟩⟩
        rw [numV_ints]
        refine k t (upN way) _ ((F5.same s6).same (Same.new nt)) ?_ upd_same
        unfold upN
        rw [List.length_map]
        omega
      obtain ⟨s6, hne6⟩ := h6
      have F6 := F5.same s6
      have hpos : 0 < S2.length := List.length_pos_iff.mpr (hne6 rfl)
      have hw6 := s6 _ _ hw5
      have he6 := s6 _ _ he
      refine ⟨_, rfl, .inl ⟨rfl, _, sq_of hw6⟩, _, rfl, _, rfl, _, rfl, e, _, rfl, .inl (sq_of he6), h, c, _, rfl, F6.rng, by rw [numV_len]; omega, by rw [numV_len]; omega, fun r H7 r0 r1 R7 o7 => ?_⟩
      obtain ⟨j, rfl⟩ := Int.eq_ofNat_of_zero_le r0
      rw [numV_len] at r1
      have hjl : j < S2.length := by omega
      have hx : S2[j]? = some S2[j] := List.getElem?_eq_getElem hjl
      have hxl := hSr2 _ (List.mem_of_getElem? hx)
      generalize S2[j] = x at *
      have F7 : Fr h c H6 H7 := ⟨o7, R7⟩
      have hw7 := F7.get hw6 hwf
      refine ⟨e, _, (j : Int), .int (x : Int), rfl, rfl, sq_of (F7.get he6 hef), atI_nat (j := j) (by unfold numV; rw [List.getElem?_map, hx]; rfl), wa, _, _, rfl, rfl, hw7, ?_, (F6.trans F7).mut nwa hwf, hi8, ⟨way ++ [x], ?_, ?_, fun y hy => ?_⟩, _, _, _, _, rfl⟩
      · rw [numV_len]
        exact sz_lt (by omega)
      · rw [upd_same, numV_app]
      · rw [List.length_append, hwl]
        rfl
      · rcases List.mem_append.mp hy with e | e
        · exact hwr y e
        · rw [List.mem_singleton.mp e]
          exact hxl
    · obtain ⟨F2, _, ⟨way, hway, hwl, hwr⟩, y3, y4, y5, y6, rfl⟩ := hP
      refine ⟨_, rfl, wa, _, rfl, .inl ⟨sq_of hway, fun t nt => ?_⟩⟩
      rw [numV_ints]
      refine k t (upN way) _ (F2.new nt) ?_ upd_same
      unfold upN
      rw [List.length_map, hwl]
      decide
end


end Rf
namespace Rf
open PySem PySem.Spec PyProof.Rows L2
theorem Fr.tup {H H' : Hp} {h c p : Addr} {xs : List V} (R : RngAt H h c) (F : Fr h c H H') (e : H p = some (.tup xs)) : H' p = some (.tup xs) := F.off _ _ e fun z => hc_tup R p z _ e
section
variable {P : Program} {w : World} {K : PySem.W.Frag} {mg : Str → Option Value} {base : Heap}
theorem catH_of {H : Hp} {a b : Addr} {xs ys : List V} {Q : VK} (h1 : H a = some (.tup xs)) (h2 : H b = some (.tup ys)) (hl : xs.length + ys.length ≤ sizeLine) (k : ∀ p H', Same H H' → H' p = some (.tup (xs ++ ys)) → Q (.ref p) H') : rCatA K (.ref a) (.ref b) H Q := by
  refine ⟨a, b, xs, ys, rfl, rfl, st_of h1, st_of h2, hl, fun e => k b H (fun _ _ z => z) ?_, fun _ e => k a H (fun _ _ z => z) ?_, fun _ _ p np => k p _ (Same.new np) upd_same⟩
  · rw [e]
    exact h2
  · rw [e, List.append_nil]
    exact h1
theorem sc_lmove : FnScope ["_law_h", "_law_book_here", "_law_many", "_law_way", "_law_coins", "_law_ring_here", "_law_k"] ["_law_h", "_law_book_here"] (defScope s_lmove) := ⟨rfl, rfl, rfl, by decide +kernel, rfl, by decide +kernel, by decide +kernel⟩
/- 0:_law_h 1:_law_book_here 2:_law_many 3:_law_way 4:_law_coins 5:_law_ring_here 6:_law_k -/
theorem ok_lmove {f : Addr} {fd : FuncData} (D : DefAt K mg "_law_move" s_lmove ["_law_h", "_law_book_here"] f fd) (m_len : mg "len" = none) (m_range : mg "range" = none) (m_tuple : mg "tuple" = none)
    {f1 : Addr} {fd1 : FuncData} (D_next : DefAt K mg "_law_next" s_next ["_law_h", "_law_many"] f1 fd1) (G_next : FnOk P w K mg base CX0 1 f1 fd1 ["_law_h", "_law_many"] spNext)
    {f2 : Addr} {fd2 : FuncData} (D_lring : DefAt K mg "_law_ring" s_lring ["_law_h", "_law_book_here"] f2 fd2) (G_lring : FnOk P w K mg base CX0 2 f2 fd2 ["_law_h", "_law_book_here"] (spLRing K)) : FnOk P w K mg base CX0 3 f fd ["_law_h", "_law_book_here"] (spLMove K) := by
  refine D.F.ok sc_lmove (fun vs H Q E h => ?_) (fun cdv A outer s H vs Q E hr h => ?_)
  · obtain ⟨h, c, b, ca, cl, ts, B, rfl, _⟩ := h
    rfl
  · obtain ⟨h, c, b, ca, cl, ts, B, rfl, R, A, G, k⟩ := h
    have m1 := G.m1
    have lq : (ts.map V.ref).length = B.claims.length := by rw [List.length_map, A.hq.1]
    refine ⟨_, pss_cons (ps_set (i := 2) sc_lmove.nd rfl (.inr rfl) (pe_callB (r := rLen K) call_len (by rfl) m_len (by decide +kernel) (pa_cons (pe_ix (r := rIxT K) ix_tup (pv 1) pe_int (fun _ _ => rfl)) pa_nil)))
        (pss_cons (ps_set (i := 3) sc_lmove.nd rfl (.inl rfl) (pe_call G_next (hr.mono (by decide)) (by rfl) D_next.g D_next.F.kp D_next.b .nil pass0 (pa_cons (pv 0) (pa_cons pe_int pa_nil))))
        (pss_cons (ps_set (i := 4) sc_lmove.nd rfl (.inl rfl) (pe_ix (r := rIxL K) ix_list (pe_lst (pa_cons pe_int (pa_cons (pe_op op_add pe_int (pe_call G_next (hr.mono (by decide)) (by rfl) D_next.g D_next.F.kp D_next.b .nil pass0 (pa_cons (pv 0) (pa_cons pe_int pa_nil)))) (pa_cons (pe_op op_add pe_int (pe_call G_next (hr.mono (by decide)) (by rfl) D_next.g D_next.F.kp D_next.b .nil pass0 (pa_cons (pv 0) (pa_cons pe_int pa_nil)))) pa_nil)))) (pe_call G_next (hr.mono (by decide)) (by rfl) D_next.g D_next.F.kp D_next.b .nil pass0 (pa_cons (pv 0) (pa_cons pe_int pa_nil))) (fun _ _ => rfl)))
        (pss_cons (ps_if (PW.pt (pw_or (pt_cmpR op_eq (pv 3) pe_int (nomark _)) (pw_or1 (pt_cmpR op_eq (pv 2) pe_int (nomark _))))) (pss_one (ps_ret (pe_ix (r := rIxL K) ix_list (pe_lst (pa_cons (pe_tup (pa_cons pe_str (pa_cons (pe_op op_add (pv 2) (pe_call G_next (hr.mono (by decide)) (by rfl) D_next.g D_next.F.kp D_next.b .nil pass0 (pa_cons (pv 0) (pa_cons pe_int pa_nil)))) (pa_cons pe_int pa_nil)))) (pa_cons (pe_tup (pa_cons pe_str (pa_cons (pe_un un_neg pe_int) (pa_cons pe_int pa_nil)))) (pa_cons (pe_tup (pa_cons pe_str (pa_cons (pe_tup pa_nil) (pa_cons pe_int pa_nil)))) pa_nil)))) (pe_call G_next (hr.mono (by decide)) (by rfl) D_next.g D_next.F.kp D_next.b .nil pass0 (pa_cons (pv 0) (pa_cons pe_int pa_nil))) (fun _ _ => rfl)))) pss_nil)
        (pss_cons (ps_if (pt_cmpR op_eq (pv 3) pe_int (nomark _)) (pss_one (ps_ret (pe_tup (pa_cons pe_str (pa_cons (pe_call G_next (hr.mono (by decide)) (by rfl) D_next.g D_next.F.kp D_next.b .nil pass0 (pa_cons (pv 0) (pa_cons (pv 2) pa_nil))) (pa_cons (pe_op op_sub pe_int (pe_call G_next (hr.mono (by decide)) (by rfl) D_next.g D_next.F.kp D_next.b .nil pass0 (pa_cons (pv 0) (pa_cons pe_int pa_nil)))) pa_nil)))))) pss_nil)
        (pss_cons (ps_if (pt_cmpR op_lt (pv 3) pe_int (nomark _)) (pss_one (ps_ret (pe_tup (pa_cons pe_str (pa_cons (pe_call G_next (hr.mono (by decide)) (by rfl) D_next.g D_next.F.kp D_next.b .nil pass0 (pa_cons (pv 0) (pa_cons (pv 2) pa_nil))) (pa_cons (pv 4) pa_nil)))))) pss_nil)
        (pss_cons (ps_if (pt_cmpR op_eq (pv 3) pe_int (nomark _)) (pss_one (ps_ret (pe_tup (pa_cons pe_str (pa_cons (pe_callTy (r := rTupleOf K) call_tupleOf (by rfl) m_tuple (by decide +kernel) (pa_cons (pe_lc (own := [("_law_k", 6)]) (g := gName 6) (tt := tYes) (by rfl) sc_lmove.nd (pi_range1 (by rfl) m_range (pa_cons (pe_call G_next (hr.mono (by decide)) (by rfl) D_next.g D_next.F.kp D_next.b .nil pass0 (pa_cons (pv 0) (pa_cons pe_int pa_nil))) pa_nil)) (blkOk_by (own := [("_law_k", 6)]) (N := ["_law_h", "_law_book_here", "_law_many", "_law_way", "_law_coins", "_law_ring_here", "_law_k"]) (sc := defScope s_lmove) (by decide +kernel)) (fun _ _ _ _ _ => (pg_name (i := 6) sc_lmove.nd rfl (.inl rfl))) (fun _ _ _ _ _ => pts_nil) (fun _ _ _ _ _ => (pe_call G_next (hr.mono (by decide)) (by rfl) D_next.g D_next.F.kp D_next.b .nil pass0 (pa_cons (pv 0) (pa_cons (pe_op op_add (pv 2) pe_int) pa_nil))))) pa_nil)) (pa_cons (pv 4) pa_nil)))))) pss_nil)
        (pss_cons (ps_set (i := 5) sc_lmove.nd rfl (.inl rfl) (pe_call G_lring (hr.mono (by decide)) (by rfl) D_lring.g D_lring.F.kp D_lring.b .nil pass0 (pa_cons (pv 0) (pa_cons (pv 1) pa_nil))))
        (pss_one (ps_ret (pe_tup (pa_cons pe_str (pa_cons (pe_ifExp (pt_cmpR op_eq (pv 3) pe_int (nomark _)) (pe_op (r := rCatA K) op_catA (pv 5) (pv 5)) (pv 5)) (pa_cons (pv 4) pa_nil))))))))))))), ?_⟩
    refine sq_val (.int (B.claims.length : Int)) (fun Q k => ⟨_, rfl, b, _, 1, _, rfl, rfl, A.hb, atI_nat (j := 1) rfl, cl, _, rfl, .inr A.hcl, by rw [lq]; exact k⟩) ?_
    refine sq_set (fun v H1 => Fr h c H H1 ∧ ∃ way : Int, v = .int way) (fun Q k => ⟨_, rfl, h, c, 12, rfl, R, by decide, by decide, fun r H1 r0 r1 R1 o1 => k _ _ ⟨⟨o1, R1⟩, r, rfl⟩⟩) (fun v H1 hv => ?_)
    obtain ⟨F1, way, rfl⟩ := hv
    refine sq_set (fun v H2 => Fr h c H H2 ∧ ∃ coins : Int, v = .int coins) (fun Q k => ⟨_, rfl, h, c, 4, rfl, F1.rng, by decide, by decide, fun r1 H2 r10 r11 R2 o2 => ⟨_, _, rfl, rfl, _, rfl, h, c, 60, rfl, R2, by decide, by decide, fun r2 H3 r20 r21 R3 o3 => ⟨_, _, rfl, rfl, by show 3 ≤ sizeLine; decide, fun l nl => ⟨_, rfl, h, c, 3, rfl, R3.same (Same.new nl), by decide, by decide, fun r3 H4 r30 r31 R4 o4 => ?_⟩⟩⟩⟩) (fun v H2 hv => ?_)
    · obtain ⟨j, rfl⟩ := Int.eq_ofNat_of_zero_le r30
      have F4 := (((F1.trans ⟨o2, R2⟩).trans ⟨o3, R3⟩).new (p := l) (o := .lst [.int 1, .int (1 + r1), .int (1 + r2)]) nl).trans ⟨o4, R4⟩
      have hl := (show Fr h c (upd H3 l (.lst [.int 1, .int (1 + r1), .int (1 + r2)])) H4 from ⟨o4, R4⟩).get upd_same (R3.fresh nl)
      exact ⟨l, _, (j : Int), _, rfl, rfl, sq_of hl, atI_g (l := [1, 1 + r1, 1 + r2]) rfl (by show j < 3; omega), k _ _ ⟨F4, _, rfl⟩⟩
    obtain ⟨F2, coins, rfl⟩ := hv
    have A2 := Fr.book R F2 A
    refine sq_norm [some (.ref h), some (.ref b), some (.int (B.claims.length : Int)), some (.int way), some (.int coins), none, none] rfl ?_
    -- numbers that there aren't
    refine sq_when (fun b H3 => H3 = H2 ∧ (b = false → 1 ≤ B.claims.length)) (fun Q k => ?_) (fun H3 h3 => ?_) (fun H3 h3 => ?_)
    · refine ⟨_, rfl, rfl, _, rfl, ?_⟩
      rw [dec_vint]
      by_cases c0 : way = 0
      · rw [decide_eq_true c0]
        exact iteT (k _ _ ⟨rfl, fun e => absurd e (by decide)⟩)
      · rw [decide_eq_false c0]
        refine iteF ⟨_, rfl, rfl, _, rfl, k _ _ ⟨rfl, fun e => ?_⟩⟩
        rw [dec_vint] at e
        have := of_decide_eq_false e
        omega
    · obtain ⟨rfl, _⟩ := h3
      refine ⟨_, rfl, _, rfl, h, c, 3, rfl, F2.rng, by decide, by decide, fun r H4 r0 r1 R4 o4 => ⟨_, _, rfl, rfl, by show 3 ≤ sizeLine; decide, fun t1 nt1 => ⟨1, rfl, by show 3 ≤ sizeLine; decide, fun t2 nt2 => ⟨Nat.zero_le _, fun t0 nt0 => ⟨by show 3 ≤ sizeLine; decide, fun t3 nt3 => ⟨by show 3 ≤ sizeLine; decide, fun l nl => ⟨_, rfl, h, c, 3, rfl, ((((R4.same (Same.new nt1)).same (Same.new nt2)).same (Same.new nt0)).same (Same.new nt3)).same (Same.new nl), by decide, by decide, fun r2 H5 r20 r21 R5 o5 => ?_⟩⟩⟩⟩⟩⟩⟩
      obtain ⟨j, rfl⟩ := Int.eq_ofNat_of_zero_le r20
      have Ra := (((R4.same (Same.new (o := .tup [.str "pay", .int ((B.claims.length : Int) + r), .int 1]) nt1)).same (Same.new (o := .tup [.str "pay", .int (-1), .int 1]) nt2)).same (Same.new (o := .tup []) nt0)).same (Same.new (o := .tup [.str "ring", .ref t0, .int 1]) nt3)
      have nf := Ra.fresh nl
      have F4 : Fr h c H H4 := F2.trans ⟨o4, R4⟩
      have F5 := (((((F4.new nt1).new nt2).new nt0).new nt3).new nl).trans ⟨o5, R5⟩
      have hl := o5 l _ upd_same nf
      have Rl := Ra.same (Same.new (o := .lst [.ref t1, .ref t2, .ref t3]) nl)
      have Fl : Fr h c (upd (upd (upd (upd (upd H4 t1 (.tup [.str "pay", .int ((B.claims.length : Int) + r), .int 1])) t2 (.tup [.str "pay", .int (-1), .int 1])) t0 (.tup [])) t3 (.tup [.str "ring", .ref t0, .int 1])) l (.lst [.ref t1, .ref t2, .ref t3])) H5 := ⟨o5, R5⟩
      have g1 := Fr.tup Rl Fl (Same.new nl _ _ (Same.new nt3 _ _ (Same.new nt0 _ _ (Same.new nt2 _ _ (upd_same (H := H4) (a := t1))))))
      have g2 := Fr.tup Rl Fl (Same.new nl _ _ (Same.new nt3 _ _ (Same.new nt0 _ _ (upd_same (a := t2)))))
      have g0 := Fr.tup Rl Fl (Same.new nl _ _ (Same.new nt3 _ _ (upd_same (a := t0))))
      have g3 := Fr.tup Rl Fl (Same.new nl _ _ (upd_same (a := t3)))
      have hj : j = 0 ∨ j = 1 ∨ j = 2 := by omega
      rcases hj with rfl | rfl | rfl
      · exact ⟨l, _, _, _, rfl, rfl, sq_of hl, atI_nat (j := 0) rfl, k t1 (.pay ((B.claims.length : Int) + r) 1) _ F5 (by show 1 ≤ 20; decide) g1⟩
      · exact ⟨l, _, _, _, rfl, rfl, sq_of hl, atI_nat (j := 1) rfl, k t2 (.pay (-1) 1) _ F5 (by show 1 ≤ 20; decide) g2⟩
      · exact ⟨l, _, _, _, rfl, rfl, sq_of hl, atI_nat (j := 2) rfl, k t3 (.ring [] 1) _ F5 (by show 0 ≤ 20; decide) ⟨t0, g3, g0⟩⟩
    obtain ⟨rfl, hn⟩ := h3
    have hn := hn rfl
    -- no coins
    refine sq_whenP (p := way = 1) (fun Q k => ⟨_, rfl, rfl, _, rfl, by rw [dec_vint]; exact k⟩) (fun _ => ?_) (fun _ => ?_)
    · exact ⟨_, rfl, _, rfl, h, c, _, rfl, F2.rng, by omega, by omega, fun r H4 r0 r1 R4 o4 => ⟨_, rfl, h, c, 3, rfl, R4, by decide, by decide, fun r2 H5 r20 r21 R5 o5 => ⟨_, _, rfl, rfl, by show 3 ≤ sizeLine; decide, fun t nt => k t (.pay r (0 - r2)) _ (((F2.trans ⟨o4, R4⟩).trans ⟨o5, R5⟩).new nt) (by show 1 ≤ 20; decide) upd_same⟩⟩⟩
    refine sq_whenP (p := way < 7) (fun Q k => ⟨_, rfl, _, _, rfl, rfl, _, rfl, k⟩) (fun _ => ?_) (fun _ => ?_)
    · exact ⟨_, rfl, _, rfl, h, c, _, rfl, F2.rng, by omega, by omega, fun r H4 r0 r1 R4 o4 => ⟨_, rfl, by show 3 ≤ sizeLine; decide, fun t nt => k t (.pay r coins) _ ((F2.trans ⟨o4, R4⟩).new nt) (by show 1 ≤ 20; decide) upd_same⟩⟩
    -- any row of claims
    refine sq_whenP (p := way = 7) (fun Q k => ⟨_, rfl, rfl, _, rfl, by rw [dec_vint]; exact k⟩) (fun _ => ?_) (fun _ => ?_)
    · refine ⟨_, rfl, h, c, 4, rfl, F2.rng, by decide, by decide, fun n H4 n0' n1' R4 o4 => ⟨n, rfl, by omega, by omega, fun d nd => ?_⟩⟩
      have F4 := F2.trans ⟨o4, R4⟩
      have nd0 := F4.free nd
      have nhd := R4.fresh nd
      refine lc_range (lo := 0) (n := n.toNat) (fun i H' => Fr h c H H' ∧ ∃ ks : List Int, H' d = some (.lst (ks.map V.int)) ∧ ks.length = i) ⟨F4.new nd, [], upd_same, rfl⟩ (fun i H' hi hP => ?_) (fun H' hP => ?_)
      · obtain ⟨F5, ks, hd, hl⟩ := hP
        refine ⟨rfl, _, rfl, _, rfl, _, _, rfl, rfl, h, c, _, rfl, F5.rng, by omega, by omega, fun r H6 r0 r1 R6 o6 => ⟨_, o6 d _ hd nhd, ?_, (F5.trans ⟨o6, R6⟩).mut nd0 nhd, ks ++ [r], ?_, ?_⟩⟩
        · rw [List.length_map]
          exact sz_lt (by omega)
        · rw [upd_same, List.map_append]
          rfl
        · rw [List.length_append, hl]
          rfl
      · obtain ⟨F5, ks, hd, hl⟩ := hP
        refine ⟨d, _, rfl, .inl ⟨sq_of hd, fun t nt => ⟨_, rfl, by show 3 ≤ sizeLine; decide, fun u nu => k u (.ring ks coins) _ ((F5.new nt).new nu) ?_ ⟨t, upd_same, Same.new nu _ _ upd_same⟩⟩⟩⟩
        show ks.length ≤ 20
        omega
    -- a ring that is found
    refine sq_set (fun v H4 => Fr h c H H4 ∧ ∃ (t : Addr) (ks : List Int), v = .ref t ∧ ks.length ≤ 9 ∧ H4 t = some (.tup (ks.map V.int))) (fun Q k => ⟨_, rfl, _, rfl, h, c, b, ca, cl, ts, B, rfl, F2.rng, A2, G, hn, fun t ks H4 F4 hl ht => k _ _ ⟨F2.trans F4, t, ks, rfl, hl, ht⟩⟩) (fun v H4 hv => ?_)
    obtain ⟨F4, t, ks, rfl, hl, ht⟩ := hv
    refine ⟨_, rfl, rfl, _, rfl, ?_⟩
    rw [dec_vint]
    by_cases c8 : way = 8
    · rw [decide_eq_true c8]
      refine iteT ⟨_, rfl, _, rfl, catH_of ht ht (by rw [List.length_map]; exact sz_of (by omega)) fun t2 H5 s5 ht2 => ⟨_, rfl, by show 3 ≤ sizeLine; decide, fun u nu => k u (.ring (ks ++ ks) coins) _ ((F4.same s5).new nu) ?_ ⟨t2, upd_same, ?_⟩⟩⟩
      · show (ks ++ ks).length ≤ 20
        rw [List.length_append]
        omega
      · rw [Same.new nu _ _ ht2, List.map_append]
    · rw [decide_eq_false c8]
      exact iteF ⟨_, rfl, _, rfl, by show 3 ≤ sizeLine; decide, fun u nu => k u (.ring ks coins) _ (F4.new nu) (by show ks.length ≤ 20; omega) ⟨t, upd_same, Same.new nu _ _ ht⟩⟩
end


end Rf
namespace Rf
open PySem PySem.Spec PyProof.Rows L2
/-! ### what the program answers, in the law's words -/
section
variable {P : Program} {w : World} {K : PySem.W.Frag} {mg : Str → Option Value} {base : Heap} {C : Addr}
theorem sc_told : FnScope ["_law_book_here", "_law_moves", "e"] ["_law_book_here", "_law_moves"] (defScope s_told) := ⟨rfl, rfl, rfl, by decide +kernel, rfl, by decide +kernel, by decide +kernel⟩
/- 0:_law_book_here 1:_law_moves 2:e -/
theorem ok_told {f : Addr} {fd : FuncData} (D : DefAt K mg "_law_told" s_told ["_law_book_here", "_law_moves"] f fd) {f1 : Addr} {fd1 : FuncData} (D_played : DefAt K mg "played" s_played ["book", "moves"] f1 fd1) (GX_played : FnOk P w K mg base (L2.CX P w) 5 f1 fd1 ["book", "moves"] (spPlayedI K C))
    {C1 C2 C3 C4 CF : Addr} (X_NoMove : ClsIs mg "NoMove" C) (X_FallError : ClsIs mg "FallError" CF) (X_BadBook : ClsIs mg "BadBook" C1) (X_BadPayments : ClsIs mg "BadPayments" C2) (X_BadText : ClsIs mg "BadText" C3) (X_NoHouse : ClsIs mg "NoHouse" C4)
    (m_isinstance : mg "isinstance" = none) (m_ValueError : mg "ValueError" = none) (m_bool : mg "bool" = none)
    (TX : XfC K C) (N_number : PySem.W.findIn K (.ref C) "number" = some none) (TC : ExcC K C) (hex : PySem.W.exmOne K (.ref C) (.ref CF) = some true)
    (hk1 : PySem.W.kitAny K (.ref C) [.ref C1, .ref C2, .ref C3, .ref C4] = some false) (hk2 : PySem.W.kitOne K (.ref C) (.type "ValueError") = some true) (hk3 : PySem.W.kitOne K (.ref C) (.ref C) = some true) : FnOk P w K mg base CX0 8 f fd ["_law_book_here", "_law_moves"] (spLPlayedI K) := by
  refine D.F.ok sc_told (fun vs H Q E h => ?_) (fun cdv A outer s H vs Q E hr h => ?_)
  · obtain ⟨b, ca, cl, ts, B, l, us, ms, fs, rfl, _⟩ := h
    rfl
  · obtain ⟨b, ca, cl, ts, B, l, us, ms, fs, rfl, A, G, hl, hus, hml, hnl, hfar, h⟩ := h
    refine ⟨_, pss_one (ps_try_as (i := 2) rfl rfl sc_told.nd rfl rfl ⟨rfl, by decide, .inl X_FallError.gC⟩ takes0
      (fun W pn xe tk _ => (pss_one (ps_ret (pe_callS GX_played (hr.mono (by decide)) (by rfl) D_played.g D_played.F.kp D_played.b (fun σ => passAt tk σ) (pa_cons (pv 0) (pa_cons (pv 1) pa_nil))))))
      (fun a oe cls d pn hz hf => (pss_cons (ps_if (PW.pt (pw_or (pt_val (pe_callB (r := rIsX K a cls d) (call_isX hz hf) (by rfl) m_isinstance (by decide +kernel) (pa_cons (pv 2) (pa_cons (pe_tup (pa_cons (pe_glob (v := .ref _) (by rfl) X_BadBook.gC rfl) (pa_cons (pe_glob (v := .ref _) (by rfl) X_BadPayments.gC rfl) (pa_cons (pe_glob (v := .ref _) (by rfl) X_BadText.gC rfl) (pa_cons (pe_glob (v := .ref _) (by rfl) X_NoHouse.gC rfl) pa_nil))))) pa_nil)))) (pw_or1 (pt_not (pt_val (pe_callB (r := rIsX K a cls d) (call_isX hz hf) (by rfl) m_isinstance (by decide +kernel) (pa_cons (pv 2) (pa_cons (pe_bltn (v := .ty "ValueError") (by rfl) m_ValueError (by decide +kernel) rfl) pa_nil)))))))) (pss_one (ps_ret (pe_un un_neg pe_int))) pss_nil)
            (pss_one (ps_ret (pe_ifExp (PW.pt (pw_and (pt_val (pe_callB (r := rIsX K a cls d) (call_isX hz hf) (by rfl) m_isinstance (by decide +kernel) (pa_cons (pv 2) (pa_cons (pe_glob (v := .ref _) (by rfl) X_NoMove.gC rfl) pa_nil)))) (pw_and1 (pt_not (pt_val (pe_callB (r := rIsi _) call_isi (by rfl) m_isinstance (by decide +kernel) (pa_cons (pe_xf TX N_number hz hf (pv 2)) (pa_cons (pe_bltn (v := .ty "bool") (by rfl) m_bool (by decide +kernel) rfl) pa_nil)))))))) (pe_xf TX N_number hz hf (pv 2)) (pe_un un_neg pe_int))))))), ?_⟩
    refine ⟨_, rfl, _, rfl, b, ca, cl, ts, B, l, us, ms, fs, rfl, A, G, hl, hus, hml, hnl, hfar, ?_⟩
    rcases h with ⟨e, k⟩ | ⟨e, k⟩
    · exact .inl ⟨e, k⟩
    · refine .inr ⟨e, fun d H1 s1 nd hd => ⟨true, hex, fun _ a0 na => ?_, fun q => nomatch q⟩⟩
      refine sq_no (fun H2 => Same H1 H2) (fun Q k => ?_) (fun H2 s2 => ?_)
      · refine ⟨_, rfl, by show 4 ≤ sizeLine; decide, fun t nt => ?_⟩
        have s3 : Same H1 (upd H1 t (.tup [.ref C1, .ref C2, .ref C3, .ref C4])) := Same.new nt
        refine ⟨C, .ref t, false, rfl, rfl, TC, .inr ⟨d, _, rfl, s3 _ _ hd⟩, .inr ⟨t, [C1, C2, C3, C4], rfl, upd_same, hk1⟩, _, rfl, iteF ?_⟩
        exact ⟨_, rfl, C, .ty "ValueError", true, rfl, rfl, TC, .inr ⟨d, _, rfl, s3 _ _ hd⟩, .inl ⟨.type "ValueError", fun u r => r, hk2⟩, _, rfl, k _ s3⟩
      have hd2 := s2 _ _ hd
      exact ⟨_, rfl, C, .ref C, true, rfl, rfl, TC, .inr ⟨d, _, rfl, hd2⟩, .inl ⟨.ref C, fun u r => r, hk3⟩, _, rfl, iteT ⟨_, rfl, rfl, rfl, d, _, _, rfl, hd2, rfl, _, _, .type "int", .type "bool", false, rfl, .ty _, .base (.int _), kit_ty (by decide +kernel), _, rfl, iteT ⟨_, rfl, rfl, rfl, d, _, _, rfl, hd2, rfl, k _ (s1.trans s2)⟩⟩⟩
end


end Rf
namespace Rf
open PySem PySem.Spec PyProof.Rows L2
/-! ### the law's great rings -/
def spLGood : Sp := fun vs H Q _ => ∃ (h c : Addr), vs = [.ref h] ∧ RngAt H h c ∧ ∀ H', Fr h c H H' → Q (.bl true) H'
theorem rep_zero : ∀ n : Nat, (List.replicate n [V.int 0]).flatten = (List.replicate n (0 : Int)).map V.int
  | 0 => rfl
  | n + 1 => by
    rw [List.replicate_succ, List.replicate_succ, List.flatten_cons, rep_zero n]
    rfl
theorem Fr.mvs {H H' : Hp} {h c : Addr} {us : List Addr} {ms : List IMv} (R : RngAt H h c) (F : Fr h c H H') (A : MvsIAt H us ms) : MvsIAt H' us ms := A.off F.off (hc_tup R)
section
variable {P : Program} {w : World} {K : PySem.W.Frag} {mg : Str → Option Value} {base : Heap}
theorem sc_lgood : FnScope ["_law_h", "_law_many", "_law_rows", "_law_ring_here", "_law_at", "_law_way", "_law_start", "_law_moves", "_law_book_here", "_law_k"] ["_law_h"] (defScope s_lgood) := ⟨rfl, rfl, rfl, by decide +kernel, rfl, by decide +kernel, by decide +kernel⟩
/- 0:_law_h 1:_law_many 2:_law_rows 3:_law_ring_here 4:_law_at 5:_law_way 6:_law_start 7:_law_moves 8:_law_book_here 9:_law_k -/
theorem ok_lgood {f : Addr} {fd : FuncData} (D : DefAt K mg "_law_round_good" s_lgood ["_law_h"] f fd) (m_len : mg "len" = none) (m_range : mg "range" = none) (m_tuple : mg "tuple" = none) (m_list : mg "list" = none)
    {f1 : Addr} {fd1 : FuncData} (D_next : DefAt K mg "_law_next" s_next ["_law_h", "_law_many"] f1 fd1) (G_next : FnOk P w K mg base CX0 1 f1 fd1 ["_law_h", "_law_many"] spNext)
    {f2 : Addr} {fd2 : FuncData} (D_told : DefAt K mg "_law_told" s_told ["_law_book_here", "_law_moves"] f2 fd2) (G_told : FnOk P w K mg base CX0 8 f2 fd2 ["_law_book_here", "_law_moves"] (spLPlayedI K))
    {f3 : Addr} {fd3 : FuncData} (D_lplayed : DefAt K mg "_law_played" s_lplayed ["_law_book_here", "_law_moves"] f3 fd3) (G_lplayed : FnOk P w K mg base CX0 2 f3 fd3 ["_law_book_here", "_law_moves"] (spLPlayedI K)) : FnOk P w K mg base CX0 9 f fd ["_law_h"] spLGood := by
  refine D.F.ok sc_lgood (fun vs H Q E h => ?_) (fun cdv A outer s H vs Q E hr h => ?_)
  · obtain ⟨h, c, rfl, _⟩ := h
    rfl
  · obtain ⟨h, c, rfl, R, k⟩ := h
    refine ⟨_, pss_cons (ps_set (i := 1) sc_lgood.nd rfl (.inr rfl) (pe_op op_add pe_int (pe_call G_next (hr.mono (by decide)) (by rfl) D_next.g D_next.F.kp D_next.b .nil pass0 (pa_cons (pv 0) (pa_cons pe_int pa_nil)))))
        (pss_cons (ps_setLc (i := 2) (own := [("_law_k", 9)]) (g := gName 9) (tt := tYes) (by rfl) sc_lgood.nd rfl rfl (sw_true rfl rfl rfl (by decide +kernel)) (pi_range1 (by rfl) m_range (pa_cons (pv 1) pa_nil)) (blkOk_by (own := [("_law_k", 9)]) (N := ["_law_h", "_law_many", "_law_rows", "_law_ring_here", "_law_at", "_law_way", "_law_start", "_law_moves", "_law_book_here", "_law_k"]) (sc := defScope s_lgood) (by decide +kernel)) (fun _ _ _ _ _ => (pg_name (i := 9) sc_lgood.nd rfl (.inl rfl))) (fun _ _ _ _ _ => pts_nil) (fun _ _ _ _ _ => (pe_tup (pa_cons (pv 9) (pa_cons (pe_op op_mod (pe_op op_add (pv 9) pe_int) (pv 1)) (pa_cons (pe_op op_add pe_int (pe_call G_next (hr.mono (by decide)) (by rfl) D_next.g D_next.F.kp D_next.b .nil pass0 (pa_cons (pv 0) (pa_cons pe_int pa_nil)))) (pa_cons pe_int pa_nil)))))))
        (pss_cons (ps_set (i := 2) sc_lgood.nd rfl (.inl rfl) (pe_op op_cat (pv 2) (pe_lc (own := [("_law_k", 9)]) (g := gName 9) (tt := tYes) (by rfl) sc_lgood.nd (pi_range1 (by rfl) m_range (pa_cons (pv 1) pa_nil)) (blkOk_by (own := [("_law_k", 9)]) (N := ["_law_h", "_law_many", "_law_rows", "_law_ring_here", "_law_at", "_law_way", "_law_start", "_law_moves", "_law_book_here", "_law_k"]) (sc := defScope s_lgood) (by decide +kernel)) (fun _ _ _ _ _ => (pg_name (i := 9) sc_lgood.nd rfl (.inl rfl))) (fun _ _ _ _ _ => pts_nil) (fun _ _ _ _ _ => (pe_tup (pa_cons (pe_op op_mod (pe_op op_add (pv 9) pe_int) (pv 1)) (pa_cons (pv 9) (pa_cons (pe_op op_add pe_int (pe_call G_next (hr.mono (by decide)) (by rfl) D_next.g D_next.F.kp D_next.b .nil pass0 (pa_cons (pv 0) (pa_cons pe_int pa_nil)))) (pa_cons pe_int pa_nil)))))))))
        (pss_cons (ps_set (i := 3) sc_lgood.nd rfl (.inl rfl) (pe_listRg rfl (by rfl) m_list (prg_1 (by rfl) m_range (pv 1))))
        (pss_cons (ps_set (i := 4) sc_lgood.nd rfl (.inl rfl) (pe_call G_next (hr.mono (by decide)) (by rfl) D_next.g D_next.F.kp D_next.b .nil pass0 (pa_cons (pv 0) (pa_cons (pv 1) pa_nil))))
        (pss_cons (ps_set (i := 5) sc_lgood.nd rfl (.inl rfl) (pe_call G_next (hr.mono (by decide)) (by rfl) D_next.g D_next.F.kp D_next.b .nil pass0 (pa_cons (pv 0) (pa_cons pe_int pa_nil))))
        (Evl.pss_cut (ps_if (pt_cmpR op_eq (pv 5) pe_int (nomark _)) (pss_one (ps_asg (pe_call G_next (hr.mono (by decide)) (by rfl) D_next.g D_next.F.kp D_next.b .nil pass0 (pa_cons (pv 0) (pa_cons (pe_op op_mul pe_int (pv 1)) pa_nil))) (pg_sub (pv 3) (pv 4) set_list))) pss_nil)
        (Evl.pss_cut (ps_if (pt_cmpR op_eq (pv 5) pe_int (nomark _)) (pss_one (ps_set (i := 3) sc_lgood.nd rfl (.inl rfl) (pe_op op_cat (pe_op op_cat (pe_slice sl_list (pv 3) po_none (po_some (pe_op op_add (pv 4) pe_int))) (pe_lst (pa_cons (pe_op op_add (pv 1) (pv 4)) (pa_cons (pv 4) pa_nil)))) (pe_slice sl_list (pv 3) (po_some (pe_op op_add (pv 4) pe_int)) po_none)))) pss_nil)
        (pss_cons (ps_set (i := 6) sc_lgood.nd rfl (.inl rfl) (pe_call G_next (hr.mono (by decide)) (by rfl) D_next.g D_next.F.kp D_next.b .nil pass0 (pa_cons (pv 0) (pa_cons (pe_callB (r := rLen K) call_len (by rfl) m_len (by decide +kernel) (pa_cons (pv 3) pa_nil)) pa_nil))))
        (pss_cons (ps_set (i := 7) sc_lgood.nd rfl (.inl rfl) (pe_lst (pa_cons (pe_tup (pa_cons pe_str (pa_cons (pe_callTy (r := rTupleOf K) call_tupleOf (by rfl) m_tuple (by decide +kernel) (pa_cons (pe_op op_cat (pe_slice sl_list (pv 3) (po_some (pv 6)) po_none) (pe_slice sl_list (pv 3) po_none (po_some (pv 6)))) pa_nil)) (pa_cons (pe_op op_add pe_int (pe_call G_next (hr.mono (by decide)) (by rfl) D_next.g D_next.F.kp D_next.b .nil pass0 (pa_cons (pv 0) (pa_cons pe_int pa_nil)))) pa_nil)))) pa_nil)))
        (pss_cons (ps_set (i := 8) sc_lgood.nd rfl (.inl rfl) (pe_tup (pa_cons (pe_op op_repT (pe_tup (pa_cons pe_int pa_nil)) (pv 1)) (pa_cons (pe_callTy (r := rTupleOf K) call_tupleOf (by rfl) m_tuple (by decide +kernel) (pa_cons (pv 2) pa_nil)) pa_nil))))
        (pss_one (ps_ret (pe_cmpR (op_eqD hr.units) (pe_call G_told (hr.mono (by decide)) (by rfl) D_told.g D_told.F.kp D_told.b .nil pass0 (pa_cons (pv 8) (pa_cons (pv 7) pa_nil))) (pe_call G_lplayed (hr.mono (by decide)) (by rfl) D_lplayed.g D_lplayed.F.kp D_lplayed.b .nil pass0 (pa_cons (pv 8) (pa_cons (pv 7) pa_nil))) (nomark _)))))))))))))), ?_⟩
    refine sq_set (fun v H1 => Fr h c H H1 ∧ ∃ n : Nat, v = .int (n : Int) ∧ 3 ≤ n ∧ n ≤ 8) (fun Q k => ⟨_, rfl, h, c, 6, rfl, R, by decide, by decide, fun r H1 r0 r1 R1 o1 => ⟨_, _, rfl, rfl, k _ _ ⟨⟨o1, R1⟩, (3 + r).toNat, congrArg V.int (by omega), by omega, by omega⟩⟩⟩) (fun v H1 hv => ?_)
    obtain ⟨F1, n, rfl, n3, n8⟩ := hv
    -- the rows
    refine sq_set (fun v H2 => Fr h c H H2 ∧ ∃ (rw : Addr) (ts : List Addr) (qs : List Clm), v = .ref rw ∧ ¬ isHC h c rw ∧ H2 rw = some (.lst (ts.map V.ref)) ∧ ClmsAt K H2 ts qs ∧ qs.length = n ∧ ∀ q ∈ qs, GoodC (n : Int) q) (fun Q k => ?_) (fun v H2 hv => ?_)
    · refine ⟨_, rfl, (n : Int), rfl, by omega, by omega, fun d nd => ?_⟩
      have nd0 := F1.free nd
      have nhd := F1.rng.fresh nd
      refine lc_range (lo := 0) (n := (n : Int).toNat) (fun i H' => Fr h c H H' ∧ ∃ (ts : List Addr) (qs : List Clm), H' d = some (.lst (ts.map V.ref)) ∧ ClmsAt K H' ts qs ∧ qs.length = i ∧ ∀ q ∈ qs, GoodC (n : Int) q) ⟨F1.new nd, [], [], upd_same, ⟨rfl, fun i t p h1 => by cases h1⟩, rfl, fun q hq => nomatch hq⟩ (fun i H' hi hP => ?_) (fun H' hP => ?_)
      · obtain ⟨F2, ts, qs, hd, hts, hl, hq⟩ := hP
        have hi' : i < n := by rw [Int.toNat_natCast] at hi; exact hi
        have e0 : (0 : Int) + (i : Int) = (i : Int) := Int.zero_add _
        rw [e0]
        have oh := other_house (d := (i : Int)) (r := 0) (n := (n : Int)) (by omega) (by omega) (by omega) (by omega)
        rw [Int.add_zero] at oh
        refine ⟨rfl, _, rfl, _, rfl, _, _, rfl, rfl, _, rfl, _, _, rfl, rfl, (by omega : (0 : Int) < (n : Int)), _, rfl, h, c, 30, rfl, F2.rng, by decide, by decide, fun r H3 r0 r1 R3 o3 => ⟨_, _, rfl, rfl, by show 4 ≤ sizeLine; decide, fun t nt => ?_⟩⟩
        have F3 : Fr h c H' H3 := ⟨o3, R3⟩
        have hd3 := F3.get hd nhd
        refine ⟨_, Same.new nt _ _ hd3, ?_, ((F2.trans F3).new nt).mut nd0 nhd, ts ++ [t], qs ++ [⟨(i : Int), ((i : Int) + 1) % (n : Int), 2 + r, 1⟩], ?_, (((Fr.clms F2.rng F3 hts).same (Same.new nt)).app (st_of upd_same)).put (Same.new nt _ _ hd3), ?_, fun q hq' => ?_⟩
        · rw [List.length_map, hts.1]
          exact sz_lt (by omega)
        · rw [upd_same, List.map_append]
          rfl
        · rw [List.length_append, hl]
          rfl
        · rcases List.mem_append.mp hq' with e | e
          · exact hq q e
          · rw [List.mem_singleton.mp e]
            exact ⟨by show (0 : Int) ≤ (i : Int); omega, by show (i : Int) < (n : Int); omega, oh.1, oh.2.1, oh.2.2, by show 1 ≤ 2 + r; omega, by show 2 + r ≤ 999; omega, by show (1 : Int) ≤ 1; decide, by show (1 : Int) ≤ 9; decide⟩
      · obtain ⟨F2, ts, qs, hd, hts, hl, hq⟩ := hP
        rw [Int.toNat_natCast] at hl
        exact k _ _ ⟨F2, d, ts, qs, rfl, nhd, hd, hts, hl, hq⟩
    obtain ⟨F2, rw1, ts1, qs1, rfl, nh1, hrw1, hts1, hl1, hq1⟩ := hv
    refine sq_set (fun v H3 => Fr h c H H3 ∧ ∃ (rw : Addr) (ts : List Addr) (qs : List Clm), v = .ref rw ∧ ¬ isHC h c rw ∧ H3 rw = some (.lst (ts.map V.ref)) ∧ ClmsAt K H3 ts qs ∧ qs.length = 2 * n ∧ ∀ q ∈ qs, GoodC (n : Int) q) (fun Q k => ?_) (fun v H3 hv => ?_)
    · refine ⟨_, rfl, _, rfl, (n : Int), rfl, by omega, by omega, fun d nd => ?_⟩
      have nd0 := F2.free nd
      have nhd := F2.rng.fresh nd
      refine lc_range (lo := 0) (n := (n : Int).toNat) (fun i H' => Fr h c H2 H' ∧ ∃ (ts : List Addr) (qs : List Clm), H' d = some (.lst (ts.map V.ref)) ∧ ClmsAt K H' ts qs ∧ qs.length = i ∧ ∀ q ∈ qs, GoodC (n : Int) q) ⟨(Fr.refl F2.rng).new nd, [], [], upd_same, ⟨rfl, fun i t p h1 => by cases h1⟩, rfl, fun q hq => nomatch hq⟩ (fun i H' hi hP => ?_) (fun H' hP => ?_)
      · obtain ⟨F3, ts, qs, hd, hts, hl, hq⟩ := hP
        have hi' : i < n := by rw [Int.toNat_natCast] at hi; exact hi
        have e0 : (0 : Int) + (i : Int) = (i : Int) := Int.zero_add _
        rw [e0]
        have oh := other_house (d := (i : Int)) (r := 0) (n := (n : Int)) (by omega) (by omega) (by omega) (by omega)
        rw [Int.add_zero] at oh
        refine ⟨rfl, _, rfl, _, _, rfl, rfl, _, rfl, _, _, rfl, rfl, (by omega : (0 : Int) < (n : Int)), _, rfl, _, rfl, h, c, 30, rfl, F3.rng, by decide, by decide, fun r H4 r0 r1 R4 o4 => ⟨_, _, rfl, rfl, by show 4 ≤ sizeLine; decide, fun t nt => ?_⟩⟩
        have F4 : Fr h c H' H4 := ⟨o4, R4⟩
        have hd4 := F4.get hd nhd
        refine ⟨_, Same.new nt _ _ hd4, ?_, ((F3.trans F4).new nt).mut nd nhd, ts ++ [t], qs ++ [⟨((i : Int) + 1) % (n : Int), (i : Int), 2 + r, 1⟩], ?_, (((Fr.clms F3.rng F4 hts).same (Same.new nt)).app (st_of upd_same)).put (Same.new nt _ _ hd4), ?_, fun q hq' => ?_⟩
        · rw [List.length_map, hts.1]
          exact sz_lt (by omega)
        · rw [upd_same, List.map_append]
          rfl
        · rw [List.length_append, hl]
          rfl
        · rcases List.mem_append.mp hq' with e | e
          · exact hq q e
          · rw [List.mem_singleton.mp e]
            exact ⟨oh.1, oh.2.1, by show (0 : Int) ≤ (i : Int); omega, by show (i : Int) < (n : Int); omega, fun z => oh.2.2 z.symm, by show 1 ≤ 2 + r; omega, by show 2 + r ≤ 999; omega, by show (1 : Int) ≤ 1; decide, by show (1 : Int) ≤ 9; decide⟩
      · obtain ⟨F3, ts, qs, hd, hts, hl, hq⟩ := hP
        rw [Int.toNat_natCast] at hl
        have hrw3 := F3.get hrw1 nh1
        refine ⟨rw1, d, _, _, rfl, rfl, hrw3, hd, ?_, fun p np => k _ _ ⟨(F2.trans F3).new np, p, ts1 ++ ts, qs1 ++ qs, rfl, F3.rng.fresh np, by rw [upd_same, List.map_append], ?_, ?_, fun q hq' => ?_⟩⟩
        · rw [List.length_map, List.length_map, hts1.1, hts.1]
          exact sz_of (by omega)
        · have a1 := (Fr.clms F2.rng F3 hts1).same (Same.new (o := .lst (ts1.map V.ref ++ ts.map V.ref)) np)
          have a2 := hts.same (Same.new (o := .lst (ts1.map V.ref ++ ts.map V.ref)) np)
          refine ⟨by rw [List.length_append, List.length_append, a1.1, a2.1], fun i t q h1 h2 => ?_⟩
          by_cases hi : i < ts1.length
          · rw [List.getElem?_append_left hi] at h1
            rw [List.getElem?_append_left (by rw [← a1.1]; exact hi)] at h2
            exact a1.2 i t q h1 h2
          · rw [List.getElem?_append_right (by omega)] at h1
            rw [List.getElem?_append_right (by rw [← a1.1]; omega), ← a1.1] at h2
            exact a2.2 _ t q h1 h2
        · rw [List.length_append, hl1, hl]
          omega
        · rcases List.mem_append.mp hq' with e | e
          · exact hq1 q e
          · exact hq q e
    obtain ⟨F3, rw2, ts, qs, rfl, nh2, hrw2, hts, hlq, hq⟩ := hv
    -- the ring's claims
    refine sq_set (fun v H4 => Same H3 H4 ∧ ∃ (rg : Addr) (ks : List Int), v = .ref rg ∧ H3 rg = none ∧ H4 rg = some (.lst (ks.map V.int)) ∧ ks.length = n) (fun Q k => ⟨_, rfl, _, rfl, rgOk_len (n := n) (by omega), fun y ny => k _ _ ⟨Same.new ny, y, upTo n 0, rfl, ny, by rw [upd_same, rgV_up], by rw [upTo_len]; rfl⟩⟩) (fun v H4 hv => ?_)
    obtain ⟨s4, rg, ks, rfl, nrg, hrg, hkl⟩ := hv
    have F4 := F3.same s4
    have nhr := F3.rng.fresh nrg
    refine sq_set (fun v H5 => Fr h c H4 H5 ∧ ∃ a : Nat, v = .int (a : Int) ∧ a < n) (fun Q k => ⟨_, rfl, _, rfl, h, c, (n : Int), rfl, F4.rng, by omega, by omega, fun r H5 r0 r1 R5 o5 => k _ _ ⟨⟨o5, R5⟩, r.toNat, congrArg V.int (by omega), by omega⟩⟩) (fun v H5 hv => ?_)
    obtain ⟨F5, at_, rfl, hat⟩ := hv
    refine sq_set (fun v H6 => Fr h c H4 H6 ∧ ∃ y : Int, v = .int y) (fun Q k => ⟨_, rfl, h, c, 4, rfl, F5.rng, by decide, by decide, fun r H6 r0 r1 R6 o6 => k _ _ ⟨F5.trans ⟨o6, R6⟩, r, rfl⟩⟩) (fun v H6 hv => ?_)
    obtain ⟨F6, way, rfl⟩ := hv
    have hrg6 := F6.get hrg nhr
    have G6 := F4.trans F6
    have hrw6 := (Fr.trans ((Fr.refl F3.rng).same s4) F6).get hrw2 nh2
    have hts6 := Fr.clms F3.rng (Fr.trans ((Fr.refl F3.rng).same s4) F6) hts
    have nrg0 := F3.free nrg
    refine sq_norm [some (.ref h), some (.int (n : Int)), some (.ref rw2), some (.ref rg), some (.int (at_ : Int)), some (.int way), none, none, none, none] rfl ?_
    refine sq_cut (fun σ' H7 => ∃ (rg : Addr) (ks : List Int), σ' = [some (.ref h), some (.int (n : Int)), some (.ref rw2), some (.ref rg), some (.int (at_ : Int)), some (.int way), none, none, none, none] ∧ Fr h c H H7 ∧ H7 rg = some (.lst (ks.map V.int)) ∧ ¬ isHC h c rg ∧ ks.length = n ∧ H7 rw2 = some (.lst (ts.map V.ref)) ∧ ClmsAt K H7 ts qs) ?_ (fun σ' H7 hM => ?_)
    · refine if_ifP (p := way = 1) (fun Q k => ⟨_, rfl, rfl, _, rfl, by rw [dec_vint]; exact k⟩) (fun _ => ?_) (fun _ => ⟨rg, ks, rfl, G6, hrg6, nhr, hkl, hrw6, hts6⟩)
      refine ⟨_, rfl, _, rfl, _, _, rfl, rfl, .inl ⟨by decide, by decide⟩, h, c, _, rfl, F6.rng, by omega, by omega, fun r H7 r0 r1 R7 o7 => ?_⟩
      have F7 : Fr h c H6 H7 := ⟨o7, R7⟩
      have hrg7 := F7.get hrg6 nhr
      refine ⟨_, rfl, _, rfl, rg, _, _, at_, rfl, rfl, hrg7, ixN_nat rfl (by rw [List.length_map]; omega), ?_⟩
      rw [map_set]
      have hne : rw2 ≠ rg := fun z => by
        rw [z, nrg] at hrw2
        cases hrw2
      exact ⟨rg, ks.set at_ r, rfl, (G6.trans F7).mut nrg0 nhr, upd_same, nhr, by rw [List.length_set]; exact hkl, by rw [upd_ne hne]; exact F7.get hrw6 nh2, (Fr.clms F6.rng F7 hts6).put hrg7⟩
    clear hrg6 hrw6 hts6 G6 nhr nrg0 hkl hrg F4 F5 F6 nrg s4
    obtain ⟨rg, ks, rfl, F7, hrg, nhr, hkl, hrw7, hts7⟩ := hM
    refine sq_cut (fun σ' H8 => ∃ (rg : Addr) (ks : List Int), σ' = [some (.ref h), some (.int (n : Int)), some (.ref rw2), some (.ref rg), some (.int (at_ : Int)), some (.int way), none, none, none, none] ∧ Fr h c H H8 ∧ H8 rg = some (.lst (ks.map V.int)) ∧ ¬ isHC h c rg ∧ 1 ≤ ks.length ∧ ks.length ≤ 20 ∧ H8 rw2 = some (.lst (ts.map V.ref)) ∧ ClmsAt K H8 ts qs) ?_ (fun σ' H8 hM => ?_)
    · refine if_ifP (p := way = 2) (fun Q k => ⟨_, rfl, rfl, _, rfl, by rw [dec_vint]; exact k⟩) (fun _ => ?_) (fun _ => ⟨rg, ks, rfl, F7, hrg, nhr, by omega, by omega, hrw7, hts7⟩)
      have e1 : ((at_ : Int) + 1) = ((at_ + 1 : Nat) : Int) := by omega
      have hkv : (ks.map V.int).length = n := by rw [List.length_map, hkl]
      refine last_set (fun v H8 => Same H7 H8 ∧ ∃ (r : Addr) (kz : List Int), v = .ref r ∧ H7 r = none ∧ H8 r = some (.lst (kz.map V.int)) ∧ 1 ≤ kz.length ∧ kz.length ≤ 20) (fun Q k => ⟨_, rfl, _, rfl, _, _, rfl, rfl, (at_ : Int) + 1, rfl, rg, _, rfl, sq_of hrg, fun p1 np1 => ⟨_, rfl, _, rfl, _, _, rfl, rfl, _, rfl, by show 2 ≤ sizeLine; decide, fun p2 np2 => ⟨p1, p2, _, _, rfl, rfl, Same.new np2 _ _ upd_same, upd_same, ?_, fun p3 np3 => ⟨_, rfl, _, rfl, _, _, rfl, rfl, (at_ : Int) + 1, rfl, slL_upA (Same.new np3 _ _ (Same.new np2 _ _ (Same.new np1 _ _ hrg))) fun p4 H8 np4 s8 hp4 => ⟨p3, p4, _, _, rfl, rfl, s8 _ _ upd_same, hp4, ?_, fun p5 np5 => ?_⟩⟩⟩⟩⟩) (fun v H8 hv => ?_)
      · rw [e1, cutV_take (by rw [hkv]; omega), List.length_take, hkv]
        exact sz_of (by show _ + 2 ≤ _; omega)
      · rw [e1, cutV_take (by rw [hkv]; omega), cutV_drop (by rw [hkv]; omega), List.length_append, List.length_take, List.length_drop, hkv]
        exact sz_of (by show _ + 2 + _ ≤ _; omega)
      · have sx : Same H7 (upd H8 p5 (.lst (cutV (ks.map V.int) none (some ((at_ : Int) + 1)) ++ [.int ((n : Int) + (at_ : Int)), .int (at_ : Int)] ++ cutV (ks.map V.int) (some ((at_ : Int) + 1)) none))) := ((((Same.new np1).trans (Same.new np2)).trans (Same.new np3)).trans s8).trans (Same.new np5)
        refine k _ _ ⟨sx, p5, ks.take (at_ + 1) ++ [(n : Int) + (at_ : Int), (at_ : Int)] ++ ks.drop (at_ + 1), rfl, ((((Same.new np1).trans (Same.new np2)).trans (Same.new np3)).trans s8).free np5, ?_, ?_, ?_⟩
        · rw [upd_same, e1, cutV_take (by rw [hkv]; omega), cutV_drop (by rw [hkv]; omega), List.map_append, List.map_append, List.map_take, List.map_drop]
          rfl
        · rw [List.length_append, List.length_append]
          show 1 ≤ _ + 2 + _
          omega
        · rw [List.length_append, List.length_append, List.length_take, List.length_drop]
          show _ + 2 + _ ≤ 20
          omega
      · obtain ⟨s8, r, kz, rfl, nr, hr8, k1, k2⟩ := hv
        exact ⟨r, kz, rfl, F7.same s8, hr8, F7.rng.fresh nr, k1, k2, s8 _ _ hrw7, hts7.same s8⟩
    clear hrg nhr hkl hrw7 hts7 F7 hrw2 hts
    obtain ⟨rg, ks, rfl, F8, hrg, nhr, kl1, kl2, hrw8, hts8⟩ := hM
    -- the move
    refine sq_set (fun v H9 => Fr h c H8 H9 ∧ ∃ a : Nat, v = .int (a : Int) ∧ a < ks.length) (fun Q k => ⟨_, rfl, _, rfl, rg, _, rfl, .inl (sq_of hrg), h, c, _, rfl, F8.rng, by rw [List.length_map]; omega, by rw [List.length_map]; omega, fun r H9 r0 r1 R9 o9 => k _ _ ⟨⟨o9, R9⟩, r.toNat, congrArg V.int (by omega), by rw [List.length_map] at r1; omega⟩⟩) (fun v H9 hv => ?_)
    obtain ⟨F9, st, rfl, hst⟩ := hv
    have hrg9 := F9.get hrg nhr
    have hrw9 := F9.get hrw8 nh2
    have hts9 := Fr.clms F8.rng F9 hts8
    have hkv : (ks.map V.int).length = ks.length := List.length_map _
    refine sq_set (fun v Ha => Fr h c H9 Ha ∧ ∃ (l u : Addr) (m : IMv), v = .ref l ∧ ¬ isHC h c l ∧ Ha l = some (.lst [.ref u]) ∧ MvIAt Ha u m ∧ m.nums.length ≤ 1000) (fun Q k => ⟨_, rfl, _, rfl, (st : Int), rfl, slL_upA hrg9 fun p1 Hb np1 sb hp1 => ⟨_, rfl, _, rfl, (st : Int), rfl, rg, _, rfl, sq_of (sb _ _ hrg9), fun p2 np2 => ⟨p1, p2, _, _, rfl, rfl, Same.new np2 _ _ hp1, upd_same, ?_, fun p3 np3 => ⟨p3, _, rfl, .inl ⟨sq_of upd_same, fun t nt => ⟨_, rfl, h, c, 2, rfl, (((F9.rng.same sb).same (Same.new np2)).same (Same.new np3)).same (Same.new nt), by decide, by decide, fun r Hc r0 r1 Rc oc => ⟨_, _, rfl, rfl, by show 3 ≤ sizeLine; decide, fun u nu => ⟨by show 1 ≤ sizeLine; decide, fun l nl => ?_⟩⟩⟩⟩⟩⟩⟩⟩) (fun v Ha hv => ?_)
    · rw [cutV_drop (by rw [hkv]; omega), cutV_take (by rw [hkv]; omega), List.length_drop, List.length_take, hkv]
      exact sz_of (by omega)
    · have Rt := (((F9.rng.same sb).same (Same.new (o := .lst (cutV (ks.map V.int) none (some (st : Int)))) np2)).same (Same.new (o := .lst (cutV (ks.map V.int) (some (st : Int)) none ++ cutV (ks.map V.int) none (some (st : Int)))) np3)).same (Same.new (o := .tup (cutV (ks.map V.int) (some (st : Int)) none ++ cutV (ks.map V.int) none (some (st : Int)))) nt)
      have Fc : Fr h c _ Hc := ⟨oc, Rc⟩
      have ht := Fr.tup Rt Fc upd_same
      have Fa := Fr.new (o := .lst [.ref u]) (Fr.new (o := .tup [.str "ring", .ref t, .int (1 + r)]) ((((((Fr.refl F9.rng).same sb).new np2).new np3).new nt).trans Fc) nu) nl
      refine k _ _ ⟨Fa, l, u, .ring (ks.drop st ++ ks.take st) (1 + r), rfl, (Rc.same (Same.new nu)).fresh nl, upd_same, ⟨t, Same.new nl _ _ upd_same, ?_⟩, ?_⟩
      · rw [Same.new nl _ _ (Same.new nu _ _ ht), cutV_drop (by rw [hkv]; omega), cutV_take (by rw [hkv]; omega), List.map_append, List.map_drop, List.map_take]
      · show (ks.drop st ++ ks.take st).length ≤ 1000
        rw [List.length_append, List.length_drop, List.length_take]
        omega
    obtain ⟨Fa, l, u, m, rfl, nhl, hl, hu, hm⟩ := hv
    have hrwa := Fa.get hrw9 nh2
    have htsa := Fr.clms F9.rng Fa hts9
    -- the book
    refine sq_set (fun v Hb => Same Ha Hb ∧ ∃ (b ca cl : Addr), v = .ref b ∧ BookAt K Hb b ca cl ts ⟨List.replicate n 0, qs⟩) (fun Q k => ⟨by show 1 ≤ sizeLine; decide, fun z nz => ⟨_, rfl, z, (n : Int), [.int 0], rfl, rfl, st_of upd_same, by simp, by omega, by omega, by show 1 ≤ 1000; decide, fun ca nca => ⟨_, rfl, rw2, _, rfl, .inl ⟨sq_of (Same.new nca _ _ (Same.new nz _ _ hrwa)), fun cl ncl => ⟨by show 2 ≤ sizeLine; decide, fun b nb => ?_⟩⟩⟩⟩⟩) (fun v Hb hv => ?_)
    · have sx := (((Same.new (o := .tup [.int 0]) nz).trans (Same.new (o := .tup (List.replicate (n : Int).toNat [V.int 0]).flatten) nca)).trans (Same.new (o := .tup (ts.map V.ref)) ncl)).trans (Same.new (o := .tup [.ref ca, .ref cl]) nb)
      have ez : (List.replicate (n : Int).toNat [V.int 0]).flatten = (List.replicate n (0 : Int)).map V.int := by
        rw [Int.toNat_natCast, rep_zero]
      refine k _ _ ⟨sx, b, ca, cl, rfl, st_of upd_same, st_of ?_, st_of (Same.new nb _ _ upd_same), htsa.same sx⟩
      rw [Same.new nb _ _ (Same.new ncl _ _ upd_same), ez]
    obtain ⟨sb, b, ca, cl, rfl, Ab⟩ := hv
    have GB : Good ⟨List.replicate n 0, qs⟩ := ⟨by show 1 ≤ (List.replicate n (0 : Int)).length; rw [List.length_replicate]; omega, by show (List.replicate n (0 : Int)).length ≤ 8; rw [List.length_replicate]; omega, fun x hx => by rw [List.eq_of_mem_replicate hx]; decide, by show qs.length ≤ 24; omega, fun q hq' => by
      show GoodC ((List.replicate n (0 : Int)).length : Int) q
      rw [List.length_replicate]
      exact hq q hq'⟩
    obtain ⟨fs, hfar⟩ := far_of ⟨List.replicate n 0, qs⟩ [m]
    have hus : MvsIAt Hb [u] [m] := ⟨rfl, fun i u' m' h1 h2 => by
      match i, h1, h2 with
      | 0, h1, h2 =>
        cases h1
        cases h2
        exact hu.same sb⟩
    have hlb := sb _ _ hl
    have Fz := (F8.trans (F9.trans Fa)).same sb
    refine ⟨_, rfl, _, rfl, b, ca, cl, ts, ⟨List.replicate n 0, qs⟩, l, [u], [m], fs, rfl, Ab, GB, sq_of hlb, hus, by show 1 ≤ 500; decide, fun m' hm' => by rw [List.mem_singleton.mp hm']; exact hm, hfar, ?_⟩
    by_cases hall : fs.length = [m].length
    · refine .inl ⟨hall, fun t p he Hc sc nt np nhe ht hp hhe => ⟨_, rfl, _, rfl, b, ca, cl, ts, ⟨List.replicate n 0, qs⟩, l, [u], [m], fs, rfl, Ab.same sc, GB, sq_of (sc _ _ hlb), hus.same sc, by show 1 ≤ 500; decide, fun m' hm' => by rw [List.mem_singleton.mp hm']; exact hm, hfar, .inl ⟨hall, fun t2 p2 he2 Hd sd _ _ _ ht2 hp2 hhe2 => ⟨dTwo _ _, dTwo _ _, dp_two (sd _ _ ht) (sd _ _ hp) (sd _ _ hhe), dp_two ht2 hp2 hhe2, (cl_two _ _).shaped (by decide), (cl_two _ _).shaped (by decide), ?_⟩⟩⟩⟩
      rw [eqv_self (cl_two _ _)]
      exact k _ (Fz.same (sc.trans sd))
    · have hlt : fs.length < [m].length := Nat.lt_of_le_of_ne hfar.le hall
      refine .inr ⟨hlt, fun Hc sc => ⟨_, rfl, _, rfl, b, ca, cl, ts, ⟨List.replicate n 0, qs⟩, l, [u], [m], fs, rfl, Ab.same sc, GB, sq_of (sc _ _ hlb), hus.same sc, by show 1 ≤ 500; decide, fun m' hm' => by rw [List.mem_singleton.mp hm']; exact hm, hfar, .inr ⟨hlt, fun Hd sd => ⟨.int (fs.length : Int), .int (fs.length : Int), .int _, .int _, (cl_int (i := (fs.length : Int))).shaped (by decide), (cl_int (i := (fs.length : Int))).shaped (by decide), ?_⟩⟩⟩⟩
      rw [eqv_self (cl_int (i := (fs.length : Int)))]
      exact k _ (Fz.same (sc.trans sd))
end


end Rf
namespace Rf
open PySem PySem.Spec PyProof.Rows L2
def spLaw (K : PySem.W.Frag) : Sp := fun vs H Q _ => ∃ (a : Addr) (ns : List Int), vs = [.ref a] ∧ SqL K H a (ns.map V.int) ∧ ns.length ≤ 63 ∧ ∀ H', Q (.bl true) H'
/-! ### any moves as data -/
def dMvI : IMv → PyData
  | .pay k c => .tuple [.str "pay", .int k, .int c]
  | .ring ks c => .tuple [.str "ring", .tuple (ks.map .int), .int c]
def dMvsI (ms : List IMv) : PyData := .list (ms.map dMvI)
theorem dp_mvI {K : PySem.W.Frag} {H : Hp} {u : Addr} {m : IMv} (A : MvIAt H u m) : Dp K H (.ref u) (dMvI m) := by
  cases m with
  | pay k c => exact .tup (st_of (show H u = some (.tup [.str "pay", .int k, .int c]) from A)) (.cons (.str _) (.cons (.int _) (.cons (.int _) .nil)))
  | ring ks c =>
    obtain ⟨t, h1, h2⟩ := A
    exact .tup (st_of h1) (.cons (.str _) (.cons (.tup (st_of h2) dpAll_ints) (.cons (.int _) .nil)))
theorem dpAll_mvsI {K : PySem.W.Frag} {H : Hp} : ∀ {us : List Addr} {ms : List IMv}, MvsIAt H us ms → DpAll K H (us.map V.ref) (ms.map dMvI)
  | [], [], _ => .nil
  | [], _ :: _, A => absurd A.1 (by simp)
  | _ :: _, [], A => absurd A.1 (by simp)
  | u :: us, m :: ms, A => .cons (dp_mvI (A.2 0 u m rfl rfl)) (dpAll_mvsI ⟨Nat.succ.inj A.1, fun i v x h1 h2 => A.2 (i + 1) v x h1 h2⟩)
theorem lay_mvI (m : IMv) : (dMvI m).canLay0 = true ∧ (dMvI m).depth ≤ 2 := by
  cases m with
  | pay k c => exact ⟨by simp [dMvI, PyData.canLay0, PyData.canLayAll0, ok_pay], by simp [dMvI, PyData.depth, PyData.depthAll]⟩
  | ring ks c =>
    have h1 : PyData.canLayAll0 (ks.map .int) = true := canLayAll_clean _ (cleanAll_of fun x hx => (cl_ints x hx).c)
    have h2 : PyData.depthAll (ks.map .int) ≤ 0 := depthAll_le _ fun x hx => (cl_ints x hx).d
    refine ⟨?_, ?_⟩
    · unfold dMvI
      simp [PyData.canLay0, PyData.canLayAll0, ok_ring]
      exact h1
    · unfold dMvI PyData.depth
      refine Nat.succ_le_succ (depthAll_le _ fun x hx => ?_)
      simp at hx
      rcases hx with rfl | rfl | rfl
      · simp [PyData.depth]
      · unfold PyData.depth
        exact Nat.succ_le_succ h2
      · simp [PyData.depth]
theorem lay_mvsI (ms : List IMv) : (dMvsI ms).canLay0 = true ∧ (dMvsI ms).depth ≤ 3 := lay_all fun d hd => by
  obtain ⟨m, _, rfl⟩ := List.mem_map.mp hd
  exact lay_mvI m
section
variable {P : Program} {w : World} {K : PySem.W.Frag} {mg : Str → Option Value} {base : Heap}
theorem sc_law : FnScope ["_law_script", "_law_h", "_law_book_here", "_law_moves", "_law_turn", "_law_move_here", "_law_due", "_law_handed", "_law_found"] ["_law_script"] (defScope s_law) := ⟨rfl, rfl, rfl, by decide +kernel, rfl, by decide +kernel, by decide +kernel⟩
/- 0:_law_script 1:_law_h 2:_law_book_here 3:_law_moves 4:_law_turn 5:_law_move_here 6:_law_due 7:_law_handed 8:_law_found -/
theorem law_body {f : Addr} {fd : FuncData} (D : DefAt K mg "law" s_law ["_law_script"] f fd) (m_range : mg "range" = none) (m_list : mg "list" = none) (m_isinstance : mg "isinstance" = none) (m_int : mg "int" = none) (m_tuple : mg "tuple" = none)
    {f1 : Addr} {fd1 : FuncData} (D_next : DefAt K mg "_law_next" s_next ["_law_h", "_law_many"] f1 fd1) (G_next : FnOk P w K mg base CX0 1 f1 fd1 ["_law_h", "_law_many"] spNext)
    {f2 : Addr} {fd2 : FuncData} (D_lbook : DefAt K mg "_law_book" s_lbook ["_law_h", "_law_houses", "_law_claims", "_law_wide"] f2 fd2) (G_lbook : FnOk P w K mg base CX0 2 f2 fd2 ["_law_h", "_law_houses", "_law_claims", "_law_wide"] (spLBook K))
    {f3 : Addr} {fd3 : FuncData} (D_lgood : DefAt K mg "_law_round_good" s_lgood ["_law_h"] f3 fd3) (G_lgood : FnOk P w K mg base CX0 9 f3 fd3 ["_law_h"] spLGood)
    {f4 : Addr} {fd4 : FuncData} (D_lmove : DefAt K mg "_law_move" s_lmove ["_law_h", "_law_book_here"] f4 fd4) (G_lmove : FnOk P w K mg base CX0 3 f4 fd4 ["_law_h", "_law_book_here"] (spLMove K))
    {f5 : Addr} {fd5 : FuncData} (D_lplayed : DefAt K mg "_law_played" s_lplayed ["_law_book_here", "_law_moves"] f5 fd5) (G_lplayed : FnOk P w K mg base CX0 2 f5 fd5 ["_law_book_here", "_law_moves"] (spLPlayedI K))
    {f6 : Addr} {fd6 : FuncData} (D_told : DefAt K mg "_law_told" s_told ["_law_book_here", "_law_moves"] f6 fd6) (G_told : FnOk P w K mg base CX0 8 f6 fd6 ["_law_book_here", "_law_moves"] (spLPlayedI K))
    {f7 : Addr} {fd7 : FuncData} (D_are : DefAt K mg "_law_are" s_are ["_law_found", "_law_due"] f7 fd7) (G_are : FnOk P w K mg base CX0 1 f7 fd7 ["_law_found", "_law_due"] (spAre K))
    {f8 : Addr} {fd8 : FuncData} (D_played : DefAt K mg "played" s_played ["book", "moves"] f8 fd8) (G_played : FnOk P w K mg base CX0 5 f8 fd8 ["book", "moves"] (spPlayed0 K)) : FnOk P w K mg base CX0 21 f fd ["_law_script"] (spLaw K) := by
  refine D.F.ok sc_law (fun vs H Q E h => ?_) (fun cdv A outer s H vs Q E hr h => ?_)
  · obtain ⟨a, ns, rfl, _⟩ := h
    rfl
  · obtain ⟨a, ns, rfl, ha, hns, k⟩ := h
    refine ⟨_, pss_cons (ps_set (i := 1) sc_law.nd rfl (.inl rfl) (pe_lst (pa_cons pe_int (pa_cons (pe_callTy (r := rListOf K) call_listOf (by rfl) m_list (by decide +kernel) (pa_cons (pv 0) pa_nil)) (pa_cons pe_int pa_nil)))))
        (pss_cons (ps_if (pt_not (pt_val (pe_call G_lgood (hr.mono (by decide)) (by rfl) D_lgood.g D_lgood.F.kp D_lgood.b .nil pass0 (pa_cons (pv 1) pa_nil)))) (pss_one (ps_ret pe_bl)) pss_nil)
        (pss_cons (ps_set (i := 2) sc_law.nd rfl (.inl rfl) (pe_call G_lbook (hr.mono (by decide)) (by rfl) D_lbook.g D_lbook.F.kp D_lbook.b .nil pass0 (pa_cons (pv 1) (pa_cons pe_int (pa_cons pe_int (pa_cons (pe_ix (r := rIxL K) ix_list (pe_lst (pa_cons pe_int (pa_cons pe_int pa_nil))) (pe_call G_next (hr.mono (by decide)) (by rfl) D_next.g D_next.F.kp D_next.b .nil pass0 (pa_cons (pv 1) (pa_cons pe_int pa_nil))) (fun _ _ => rfl)) pa_nil))))))
        (pss_cons (ps_set (i := 3) sc_law.nd rfl (.inl rfl) (pe_lst pa_nil))
        (pss_cons (ps_for PassesOwn.never rfl (pi_range1 (by rfl) m_range (pa_cons pe_int pa_nil)) (pg_name (i := 4) sc_law.nd rfl (.inl rfl)) (pss_cons (ps_set (i := 5) sc_law.nd rfl (.inl rfl) (pe_call G_lmove (hr.mono (by decide)) (by rfl) D_lmove.g D_lmove.F.kp D_lmove.b .nil pass0 (pa_cons (pv 1) (pa_cons (pv 2) pa_nil))))
          (pss_one (ps_if (PW.pt (pw_or (pt_not (pt_val (pe_callB (r := rIsi K) call_isi (by rfl) m_isinstance (by decide +kernel) (pa_cons (pe_call G_lplayed (hr.mono (by decide)) (by rfl) D_lplayed.g D_lplayed.F.kp D_lplayed.b .nil pass0 (pa_cons (pv 2) (pa_cons (pe_op op_cat (pv 3) (pe_lst (pa_cons (pv 5) pa_nil))) pa_nil))) (pa_cons (pe_bltn (v := .ty "int") (by rfl) m_int (by decide +kernel) rfl) pa_nil))))) (pw_or1 (pt_cmpR op_eq (pe_call G_next (hr.mono (by decide)) (by rfl) D_next.g D_next.F.kp D_next.b .nil pass0 (pa_cons (pv 1) (pa_cons pe_int pa_nil))) pe_int (nomark _))))) (pss_one (ps_expr (pe_bm PySem.F.plainAttrs_list PySem.F.slot_list_append PySem.F.type_list_append mt_append (pv 3) (pa_cons (pv 5) pa_nil)))) pss_nil))))
        (pss_cons (ps_set (i := 6) sc_law.nd rfl (.inl rfl) (pe_call G_lplayed (hr.mono (by decide)) (by rfl) D_lplayed.g D_lplayed.F.kp D_lplayed.b .nil pass0 (pa_cons (pv 2) (pa_cons (pv 3) pa_nil))))
        (pss_cons (ps_set (i := 7) sc_law.nd rfl (.inl rfl) (pe_callTy (r := rListOf K) call_listOf (by rfl) m_list (by decide +kernel) (pa_cons (pv 3) pa_nil)))
        (pss_cons (ps_set (i := 8) sc_law.nd rfl (.inl rfl) (pe_call G_told (hr.mono (by decide)) (by rfl) D_told.g D_told.F.kp D_told.b .nil pass0 (pa_cons (pv 2) (pa_cons (pv 7) pa_nil))))
        (pss_cons (ps_if (PW.pt (pw_or (pt_cmpR (op_neD hr.units) (pv 7) (pv 3) (nomark _)) (pw_or1 (pt_cmpR op_ne (pe_callB (r := rIsi K) call_isi (by rfl) m_isinstance (by decide +kernel) (pa_cons (pv 6) (pa_cons (pe_bltn (v := .ty "int") (by rfl) m_int (by decide +kernel) rfl) pa_nil))) (pe_callB (r := rIsi K) call_isi (by rfl) m_isinstance (by decide +kernel) (pa_cons (pv 8) (pa_cons (pe_bltn (v := .ty "int") (by rfl) m_int (by decide +kernel) rfl) pa_nil))) (nomark _))))) (pss_one (ps_ret pe_bl)) pss_nil)
        (pss_cons (ps_if (pt_val (pe_callB (r := rIsi K) call_isi (by rfl) m_isinstance (by decide +kernel) (pa_cons (pv 6) (pa_cons (pe_bltn (v := .ty "int") (by rfl) m_int (by decide +kernel) rfl) pa_nil)))) (pss_one (ps_ret (pe_cmpR op_eq (pv 8) (pv 6) (nomark _)))) pss_nil)
        (pss_cons (ps_if (PW.pt (pw_or (pt_not (pt_val (pe_callB (r := rIsi K) call_isi (by rfl) m_isinstance (by decide +kernel) (pa_cons (pv 8) (pa_cons (pe_bltn (v := .ty "tuple") (by rfl) m_tuple (by decide +kernel) rfl) pa_nil))))) (pw_or (pt_not (pt_val (pe_call G_are (hr.mono (by decide)) (by rfl) D_are.g D_are.F.kp D_are.b .nil pass0 (pa_cons (pe_ix (r := rIxT K) ix_tup (pv 8) pe_int (fun _ _ => rfl)) (pa_cons (pe_ix (r := rIxT K) ix_tup (pv 6) pe_int (fun _ _ => rfl)) pa_nil))))) (pw_or1 (pt_not (pt_val (pe_call G_are (hr.mono (by decide)) (by rfl) D_are.g D_are.F.kp D_are.b .nil pass0 (pa_cons (pe_ix (r := rIxT K) ix_tup (pv 8) pe_int (fun _ _ => rfl)) (pa_cons (pe_ix (r := rIxT K) ix_tup (pv 6) pe_int (fun _ _ => rfl)) pa_nil))))))))) (pss_one (ps_ret pe_bl)) pss_nil)
        (pss_cons (ps_expr (pe_bm PySem.F.plainAttrs_list PySem.F.slot_list_append PySem.F.type_list_append mt_append (pe_ix (r := rIxT K) ix_tup (pv 8) pe_int (fun _ _ => rfl)) (pa_cons pe_int pa_nil)))
        (pss_cons (ps_expr (pe_bm PySem.F.plainAttrs_list PySem.F.slot_list_append PySem.F.type_list_append mt_append (pe_ix (r := rIxT K) ix_tup (pv 8) pe_int (fun _ _ => rfl)) (pa_cons pe_int pa_nil)))
        (pss_one (ps_ret (pe_cmpR (op_eqD hr.units) (pe_call G_played (hr.mono (by decide)) (by rfl) D_played.g D_played.F.kp D_played.b .nil pass0 (pa_cons (pv 2) (pa_cons (pv 3) pa_nil))) (pv 6) (nomark _)))))))))))))))), ?_⟩
    refine sq_set (fun v H1 => ∃ h c, v = .ref h ∧ RngAt H1 h c) (fun Q k => ⟨_, rfl, a, _, rfl, .inl ha, fun c nc => ⟨by show 3 ≤ sizeLine; decide, fun h nh => k _ _ ⟨h, c, rfl, rng_start nc nh hns (by decide) (by decide)⟩⟩⟩) (fun v H1 hv => ?_)
    obtain ⟨h, c, rfl, R⟩ := hv
    refine sq_no (fun H2 => Fr h c H1 H2) (fun Q k => ⟨_, rfl, h, c, rfl, R, fun H2 F2 => ⟨_, rfl, k _ F2⟩⟩) (fun H2 F2 => ?_)
    refine sq_set (fun v H3 => ∃ b ca cl ts B, v = .ref b ∧ Good B ∧ RngAt H3 h c ∧ BookAt K H3 b ca cl ts B) (fun Q k => ⟨_, rfl, by show 2 ≤ sizeLine; decide, fun l nl => ⟨_, rfl, h, c, 2, rfl, F2.rng.same (Same.new nl), by decide, by decide, fun r H3 r0 r1 R3 o3 => ?_⟩⟩) (fun v H3 hv => ?_)
    · obtain ⟨j, rfl⟩ := Int.eq_ofNat_of_zero_le r0
      have hl := (show Fr h c (upd H2 l (.lst [.int 40, .int 999])) H3 from ⟨o3, R3⟩).get upd_same (F2.rng.fresh nl)
      have hj : j = 0 ∨ j = 1 := by omega
      rcases hj with rfl | rfl
      · exact ⟨l, _, _, _, rfl, rfl, sq_of hl, atI_nat (j := 0) rfl, h, c, 6, 12, 40, rfl, R3, by decide, by decide, by decide, by decide, by decide, by decide, fun b ca cl ts B H' G _ _ _ _ _ F A => k _ _ ⟨b, ca, cl, ts, B, rfl, G, F.rng, A⟩⟩
      · exact ⟨l, _, _, _, rfl, rfl, sq_of hl, atI_nat (j := 1) rfl, h, c, 6, 12, 999, rfl, R3, by decide, by decide, by decide, by decide, by decide, by decide, fun b ca cl ts B H' G _ _ _ _ _ F A => k _ _ ⟨b, ca, cl, ts, B, rfl, G, F.rng, A⟩⟩
    obtain ⟨b, ca, cl, ts, B, rfl, G, R3, A3⟩ := hv
    clear F2 R
    refine sq_set (fun v H4 => Same H3 H4 ∧ ∃ mo, v = .ref mo ∧ H3 mo = none ∧ H4 mo = some (.lst [])) (fun Q k => ⟨Nat.zero_le _, fun mo nmo => k _ _ ⟨Same.new nmo, mo, rfl, nmo, upd_same⟩⟩) (fun v H4 hv => ?_)
    obtain ⟨s4, mo, rfl, nmo, hmo⟩ := hv
    have nhm := R3.fresh nmo
    refine sq_norm [some (.ref a), some (.ref h), some (.ref b), some (.ref mo), none, none, none, none, none] rfl ?_
    refine sq_forR 10 (fun Q k => k) (by decide)
      (fun i σ' H' => Fr h c H3 H' ∧ i ≤ 10 ∧ (∃ (us : List Addr) (ms : List IMv), H' mo = some (.lst (us.map V.ref)) ∧ MvsIAt H' us ms ∧ us.length ≤ i ∧ ∀ m ∈ ms, m.nums.length ≤ 1000) ∧ ∃ y4 y5, σ' = [some (.ref a), some (.ref h), some (.ref b), some (.ref mo), y4, y5, none, none, none])
      ⟨(Fr.refl R3).same s4, by decide, ⟨[], [], hmo, ⟨rfl, fun i u m h => by cases h⟩, Nat.le_refl _, fun m hm => nomatch hm⟩, none, none, rfl⟩ (fun i σ' H' hi hP => ?_) (fun σ' H' hP => ?_)
    · obtain ⟨F5, _, ⟨us, ms, hmo5, hus, hul, hnl⟩, y4, y5, rfl⟩ := hP
      have hi10 : i < 10 := by omega
      have A5 := Fr.book R3 F5 A3
      refine sq_set (fun v H6 => Fr h c H' H6 ∧ ∃ (u : Addr) (m : IMv), v = .ref u ∧ m.nums.length ≤ 20 ∧ MvIAt H6 u m) (fun Q k => ⟨_, rfl, _, rfl, h, c, b, ca, cl, ts, B, rfl, F5.rng, A5, G, fun u m H6 F6 hm hu => k _ _ ⟨F6, u, m, rfl, hm, hu⟩⟩) (fun v H6 hv => ?_)
      obtain ⟨F6, u, m, rfl, hm, hu⟩ := hv
      have hmo6 := F6.get hmo5 nhm
      have hus6 := Fr.mvs F5.rng F6 hus
      have A6 := Fr.book F5.rng F6 A5
      have hlm : ms.length ≤ 9 := by rw [← hus.1]; omega
      refine if_ifB (fun b H7 => Fr h c H6 H7) (fun Q k => ⟨_, rfl, _, rfl, _, rfl, by show 1 ≤ sizeLine; decide, fun p1 np1 => ⟨mo, p1, _, _, rfl, rfl, Same.new np1 _ _ hmo6, upd_same, ?_, fun p2 np2 => ?_⟩⟩) (fun H7 F7 => ?_) (fun H7 F7 => ?_)
      · rw [List.length_map]
        exact sz_of (by show _ + 1 ≤ _; omega)
      · have sx : Same H6 (upd (upd H6 p1 (.lst [.ref u])) p2 (.lst (us.map V.ref ++ [.ref u]))) := (Same.new np1).trans (Same.new np2)
        obtain ⟨fs, hfar⟩ := far_of B (ms ++ [m])
        refine ⟨b, ca, cl, ts, B, p2, us ++ [u], ms ++ [m], fs, rfl, A6.same sx, G, sq_of (by rw [upd_same, List.map_append]; rfl), (hus6.same sx).app (hu.same sx), ?_, fun m' hm' => ?_, hfar, ?_⟩
        · rw [List.length_append]
          show _ + 1 ≤ 500
          omega
        · rcases List.mem_append.mp hm' with e | e
          · exact hnl m' e
          · rw [List.mem_singleton.mp e]
            omega
        · by_cases hall : fs.length = (ms ++ [m]).length
          · exact .inl ⟨hall, fun t p he H8 s8 _ _ _ ht _ _ => ⟨_, _, .type "tuple", .type "int", false, rfl, .ty _, .base (.tup ht), kit_ty (by decide +kernel), _, rfl, iteT (k _ _ (((Fr.refl F6.rng).same sx).same s8))⟩⟩
          · exact .inr ⟨Nat.lt_of_le_of_ne hfar.le hall, fun H8 s8 => ⟨_, _, .type "int", .type "int", true, rfl, .ty _, .base (.int _), kit_ty (by decide +kernel), _, rfl, iteF ⟨_, rfl, h, c, 9, rfl, (F6.rng.same sx).same s8, by decide, by decide, fun r H9 r0 r1 R9 o9 => ⟨rfl, _, rfl, k _ _ ((((Fr.refl F6.rng).same sx).same s8).trans ⟨o9, R9⟩)⟩⟩⟩⟩
      · have hmo7 := F7.get hmo6 nhm
        have hus7 := Fr.mvs F6.rng F7 hus6
        have hu7 := hu.off F7.off (hc_tup F6.rng)
        have Fn : Fr h c H3 (upd H7 mo (.lst (us.map V.ref ++ [.ref u]))) := ((F5.trans F6).trans F7).mut nmo nhm
        refine ⟨_, rfl, .inl ⟨rfl, _, sq_of hmo7⟩, _, rfl, mo, _, _, rfl, rfl, hmo7, ?_, Fn, hi10, ⟨us ++ [u], ms ++ [m], by rw [upd_same, List.map_append]; rfl, (hus7.app hu7).off (S := fun a => a = mo) (fun a o e n => by rw [upd_ne n]; exact e) (fun a e xs z => by rw [e, hmo7] at z; cases z), ?_, fun m' hm' => ?_⟩, _, _, rfl⟩
        · rw [List.length_map]
          exact sz_lt (by omega)
        · rw [List.length_append]
          exact Nat.succ_le_succ hul
        · rcases List.mem_append.mp hm' with e | e
          · exact hnl m' e
          · rw [List.mem_singleton.mp e]
            omega
      · exact ⟨(F5.trans F6).trans F7, hi10, ⟨us, ms, F7.get hmo6 nhm, Fr.mvs F6.rng F7 hus6, Nat.le_succ_of_le hul, hnl⟩, _, _, rfl⟩
    obtain ⟨F5, _, ⟨us, ms, hmo5, hus, hul, hnl⟩, y4, y5, rfl⟩ := hP
    have A5 := Fr.book R3 F5 A3
    have hlm : ms.length ≤ 10 := by rw [← hus.1]; exact hul
    obtain ⟨fs, hfar⟩ := far_of B ms
    have shm : SeqAt.shaped (dMvsI ms) = true := lay_shaped (lay_mvsI ms) (by decide)
    by_cases hall : fs.length = ms.length
    · -- all fit
      refine sq_set (fun v H6 => Same H' H6 ∧ ∃ t p he, v = .ref t ∧ H6 t = some (.tup [.ref p, .ref he]) ∧ H6 p = some (.lst ((playedOf (noneP B) fs).map V.int)) ∧ H6 he = some (.lst ((leftOf B (playedOf (noneP B) fs)).map V.int))) (fun Q k => ⟨_, rfl, _, rfl, b, ca, cl, ts, B, mo, us, ms, fs, rfl, A5, G, sq_of hmo5, hus, by omega, hnl, hfar, .inl ⟨hall, fun t p he H6 s6 _ _ _ ht hp hhe => k _ _ ⟨s6, t, p, he, rfl, ht, hp, hhe⟩⟩⟩) (fun v H6 hv => ?_)
      obtain ⟨s6, t, p, he, rfl, ht, hp, hhe⟩ := hv
      have hmo6 := s6 _ _ hmo5
      refine sq_new (.lst (us.map V.ref)) (fun Q k => ⟨_, rfl, mo, _, rfl, .inl (sq_of hmo6), fun l nl => k l _ nl (Same.new nl) upd_same⟩) (fun l H7 nl s7 hl => ?_)
      have hus7 := (hus.same s6).same s7
      refine sq_set (fun v H8 => Same H7 H8 ∧ ∃ t2 p2 he2, v = .ref t2 ∧ H7 p2 = none ∧ H7 he2 = none ∧ H8 t2 = some (.tup [.ref p2, .ref he2]) ∧ H8 p2 = some (.lst ((playedOf (noneP B) fs).map V.int)) ∧ H8 he2 = some (.lst ((leftOf B (playedOf (noneP B) fs)).map V.int))) (fun Q k => ⟨_, rfl, _, rfl, b, ca, cl, ts, B, l, us, ms, fs, rfl, (A5.same s6).same s7, G, sq_of hl, hus7, by omega, hnl, hfar, .inl ⟨hall, fun t2 p2 he2 H8 s8 _ n2 n3 ht2 hp2 hhe2 => k _ _ ⟨s8, t2, p2, he2, rfl, n2, n3, ht2, hp2, hhe2⟩⟩⟩) (fun v H8 hv => ?_)
      obtain ⟨s8, t2, p2, he2, rfl, np2, nhe2, ht2, hp2, hhe2⟩ := hv
      have s68 := s7.trans s8
      have ht8 := s68 _ _ ht
      have hp8 := s68 _ _ hp
      have hhe8 := s68 _ _ hhe
      have hus8 := hus7.same s8
      refine sq_no (fun H9 => H9 = H8) (fun Q k => ⟨_, rfl, _, rfl, dMvsI ms, dMvsI ms, .lst (sq_of (s8 _ _ hl)) (dpAll_mvsI hus8), .lst (sq_of (s68 _ _ hmo6)) (dpAll_mvsI hus8), shm, shm, false, by rw [SeqAt.eqv_refl _ (lay_mvsI ms).1]; rfl, iteF ⟨_, rfl, _, _, .type "tuple", .type "int", false, rfl, .ty _, .base (.tup ht8), kit_ty (by decide +kernel), _, rfl, _, _, .type "tuple", .type "int", false, rfl, .ty _, .base (.tup ht2), kit_ty (by decide +kernel), rfl, _, rfl, k _ rfl⟩⟩) (fun H9 e => ?_)
      subst e
      refine sq_no (fun Ha => Ha = H9) (fun Q k => ⟨_, rfl, _, _, .type "tuple", .type "int", false, rfl, .ty _, .base (.tup ht8), kit_ty (by decide +kernel), _, rfl, k _ rfl⟩) (fun Ha e => ?_)
      subst e
      refine sq_no (fun Hb => Hb = Ha) (fun Q k => ⟨_, rfl, _, _, .type "tuple", .type "tuple", true, rfl, .ty _, .base (.tup ht2), kit_ty (by decide +kernel), _, rfl, iteF ⟨_, rfl, t2, _, 0, _, rfl, rfl, st_of ht2, atI_nat (j := 0) rfl, _, rfl, t, _, 0, _, rfl, rfl, st_of ht8, atI_nat (j := 0) rfl, p2, p, _, _, rfl, hp2, sq_of hp8, ?_, ?_⟩⟩) (fun Hb e => ?_)
      · rw [played_len, noneP_len]
        have := G.m1
        omega
      · rw [decide_eq_true rfl]
        refine ⟨_, rfl, iteF ⟨_, rfl, t2, _, 1, _, rfl, rfl, st_of ht2, atI_nat (j := 1) rfl, _, rfl, t, _, 1, _, rfl, rfl, st_of ht8, atI_nat (j := 1) rfl, he2, he, _, _, rfl, hhe2, sq_of hhe8, ?_, ?_⟩⟩
        · rw [leftOf_len]
          have := G.n1
          omega
        · rw [decide_eq_true rfl]
          exact ⟨_, rfl, k _ rfl⟩
      subst e
      have ne1 : p ≠ p2 := ne_of_none (s7 _ _ hp) np2
      have ne2 : he ≠ p2 := ne_of_none (s7 _ _ hhe) np2
      have ne3 : p ≠ he2 := ne_of_none (s7 _ _ hp) nhe2
      have ne4 : he ≠ he2 := ne_of_none (s7 _ _ hhe) nhe2
      have A9 := ((A5.same s6).same s7).same s8
      have hmo9 := s68 _ _ hmo6
      have nm2 : mo ≠ p2 := ne_of_none (s7 _ _ hmo6) np2
      have nm3 : mo ≠ he2 := ne_of_none (s7 _ _ hmo6) nhe2
      refine sq_drop (fun Hc => Hc = upd Hb p2 (.lst ((playedOf (noneP B) fs).map V.int ++ [.int 0]))) (fun Q k => ⟨_, rfl, t2, _, 0, _, rfl, rfl, st_of ht2, atI_nat (j := 0) rfl, .inl ⟨rfl, _, sq_of hp2⟩, p2, _, _, rfl, rfl, hp2, ?_, k _ _ rfl⟩) (fun Hc e => ?_)
      · rw [List.length_map, played_len, noneP_len]
        have := G.m1
        exact sz_lt (by omega)
      subst e
      have nht : t2 ≠ p2 := ne_of ht2 hp2 (fun z => nomatch z)
      have ht2c : (upd Hb p2 (.lst ((playedOf (noneP B) fs).map V.int ++ [.int 0]))) t2 = some (.tup [.ref p2, .ref he2]) := by rw [upd_ne nht]; exact ht2
      have hq : ∃ xs, (upd Hb p2 (.lst ((playedOf (noneP B) fs).map V.int ++ [.int 0]))) he2 = some (.lst xs) ∧ xs.length ≤ 100 := by
        by_cases e : he2 = p2
        · rw [e, upd_same]
          refine ⟨_, rfl, ?_⟩
          rw [List.length_append, List.length_map, played_len, noneP_len]
          have := G.m1
          show _ + 1 ≤ 100
          omega
        · rw [upd_ne e]
          refine ⟨_, hhe2, ?_⟩
          rw [List.length_map, leftOf_len]
          have := G.n1
          omega
      obtain ⟨xs, hq1, hq2⟩ := hq
      refine sq_drop (fun Hd => Hd = upd (upd Hb p2 (.lst ((playedOf (noneP B) fs).map V.int ++ [.int 0]))) he2 (.lst (xs ++ [.int 0]))) (fun Q k => ⟨_, rfl, t2, _, 1, _, rfl, rfl, st_of ht2c, atI_nat (j := 1) rfl, .inl ⟨rfl, _, sq_of hq1⟩, he2, _, _, rfl, rfl, hq1, sz_lt (by omega), k _ _ rfl⟩) (fun Hd e => ?_)
      have keep : ∀ a o, Hb a = some o → a ≠ p2 → a ≠ he2 → Hd a = some o := fun a o e1 e2 e3 => by
        rw [e, upd_ne e3, upd_ne e2]
        exact e1
      have Ad : BookAt K Hd b ca cl ts B := by
        rw [e]
        exact (A9.put hp2).put hq1
      have hmd := keep _ _ hmo9 nm2 nm3
      have husd : MvsIAt Hd us ms := by
        refine hus8.off (S := fun a => a = p2 ∨ a = he2) (fun a o e1 n => keep a o e1 (fun z => n (.inl z)) (fun z => n (.inr z))) (fun a e1 ys z => ?_)
        rcases e1 with e1 | e1
        · rw [e1, hp2] at z; cases z
        · rw [e1, hhe2] at z; cases z
      have htd : Hd t = some (.tup [.ref p, .ref he]) := keep _ _ ht8 (ne_of ht8 hp2 (fun z => nomatch z)) (ne_of ht8 hhe2 (fun z => nomatch z))
      refine ⟨_, rfl, _, rfl, b, ca, cl, ts, B, mo, us, ms, fs, rfl, Ad, G, sq_of hmd, husd, by omega, hnl, hfar, hall, fun t3 p3 he3 He se _ _ _ ht3 hp3 hhe3 => ⟨_, rfl, dTwo _ _, dTwo _ _, dp_two ht3 hp3 hhe3, dp_two (se _ _ htd) (se _ _ (keep _ _ hp8 ne1 ne3)) (se _ _ (keep _ _ hhe8 ne2 ne4)), (cl_two _ _).shaped (by decide), (cl_two _ _).shaped (by decide), ?_⟩⟩
      rw [eqv_self (cl_two _ _)]
      exact k _
    · -- one doesn't fit
      have hlt : fs.length < ms.length := Nat.lt_of_le_of_ne hfar.le hall
      refine sq_set (fun v H6 => Same H' H6 ∧ v = .int (fs.length : Int)) (fun Q k => ⟨_, rfl, _, rfl, b, ca, cl, ts, B, mo, us, ms, fs, rfl, A5, G, sq_of hmo5, hus, by omega, hnl, hfar, .inr ⟨hlt, fun H6 s6 => k _ _ ⟨s6, rfl⟩⟩⟩) (fun v H6 hv => ?_)
      obtain ⟨s6, rfl⟩ := hv
      have hmo6 := s6 _ _ hmo5
      refine sq_new (.lst (us.map V.ref)) (fun Q k => ⟨_, rfl, mo, _, rfl, .inl (sq_of hmo6), fun l nl => k l _ nl (Same.new nl) upd_same⟩) (fun l H7 nl s7 hl => ?_)
      have hus7 := (hus.same s6).same s7
      refine sq_set (fun v H8 => Same H7 H8 ∧ v = .int (fs.length : Int)) (fun Q k => ⟨_, rfl, _, rfl, b, ca, cl, ts, B, l, us, ms, fs, rfl, (A5.same s6).same s7, G, sq_of hl, hus7, by omega, hnl, hfar, .inr ⟨hlt, fun H8 s8 => k _ _ ⟨s8, rfl⟩⟩⟩) (fun v H8 hv => ?_)
      obtain ⟨s8, rfl⟩ := hv
      have hus8 := hus7.same s8
      refine sq_no (fun H9 => H9 = H8) (fun Q k => ⟨_, rfl, _, rfl, dMvsI ms, dMvsI ms, .lst (sq_of (s8 _ _ hl)) (dpAll_mvsI hus8), .lst (sq_of ((s7.trans s8) _ _ hmo6)) (dpAll_mvsI hus8), shm, shm, false, by rw [SeqAt.eqv_refl _ (lay_mvsI ms).1]; rfl, iteF ⟨_, rfl, _, _, .type "int", .type "int", true, rfl, .ty _, .base (.int _), kit_ty (by decide +kernel), _, rfl, _, _, .type "int", .type "int", true, rfl, .ty _, .base (.int _), kit_ty (by decide +kernel), rfl, _, rfl, k _ rfl⟩⟩) (fun H9 e => ?_)
      subst e
      refine sq_if (fun b Ha => b = true ∧ Ha = H9) (fun Q k => ⟨_, rfl, _, _, .type "int", .type "int", true, rfl, .ty _, .base (.int _), kit_ty (by decide +kernel), _, rfl, k _ _ ⟨rfl, rfl⟩⟩) (fun Ha ea => ?_) (fun Ha ea => ?_)
      · refine ⟨_, rfl, _, rfl, rfl, ?_⟩
        rw [decide_eq_true rfl]
        exact k _
      · cases ea.1
end


end Rf
namespace Rf
open PySem PySem.Spec PyProof.Rows L2
section
variable {P : Program} {w : World} {K : PySem.W.Frag} {mg : Str → Option Value} {base : Heap}
theorem ok_law {f : Addr} {fd : FuncData} (D : DefAt K mg "law" s_law ["_law_script"] f fd) (L : Lims mg) (m_range : mg "range" = none) (m_len : mg "len" = none) (m_max : mg "max" = none) (m_list : mg "list" = none) (m_enumerate : mg "enumerate" = none) (m_isinstance : mg "isinstance" = none) (m_bool : mg "bool" = none) (m_int : mg "int" = none) (m_tuple : mg "tuple" = none) (m_set : mg "set" = none) (m_ValueError : mg "ValueError" = none) 
    {C_FallError : Addr} (X_FallError : OwnAt K mg "FallError" C_FallError) 
    {C_BadBook fi_BadBook cc_BadBook ca_BadBook : Addr} {fdi_BadBook : FuncData} (X_BadBook : InitAt P K mg "BadBook" C_BadBook fi_BadBook cc_BadBook ca_BadBook fdi_BadBook "BadBook.__init__" s_bbinit ["self", "at", "why"]) 
    {C_NoHouse : Addr} (X_NoHouse : OwnAt K mg "NoHouse" C_NoHouse) 
    {C_BadPayments : Addr} (X_BadPayments : OwnAt K mg "BadPayments" C_BadPayments) 
    {C_NoMove fi_NoMove cc_NoMove ca_NoMove : Addr} {fdi_NoMove : FuncData} (X_NoMove : InitAt P K mg "NoMove" C_NoMove fi_NoMove cc_NoMove ca_NoMove fdi_NoMove "NoMove.__init__" s_nminit ["self", "number"]) 
    {C_BadText fi_BadText cc_BadText ca_BadText : Addr} {fdi_BadText : FuncData} (X_BadText : InitAt P K mg "BadText" C_BadText fi_BadText cc_BadText ca_BadText fdi_BadText "BadText.__init__" s_btinit ["self", "row"]) (N_number : PySem.W.findIn K (.ref C_NoMove) "number" = some none) (xga : PySem.W.findIn K (.ref C_NoMove) "__getattribute__" = some (some (.builtin "BaseException.__getattribute__"))) (xgt : PySem.W.findIn K (.ref C_NoMove) "__getattr__" = some none) (xhd : PySem.W.hasDictIn K C_NoMove = true) (xcl : PySem.W.findIn K (.ref C_NoMove) "__class__" = some (some (.builtin "object.__class__"))) (xmo : PySem.W.mroIn K C_NoMove (.type "object") = some true) (xsb : PySem.W.subIn K (.ref C_NoMove) (.ref C_FallError) = some true) (xsp : PySem.W.specialIn K (.builtin "object.__class__") "__get__" = some (some (.builtin "getset_descriptor.__get__"))) (xtk : PySem.W.takesIn K (.builtin "object.__class__") = some true) (xfd : PySem.W.hasDictIn K C_FallError = true) (hk1 : PySem.W.kitAny K (.ref C_NoMove) [.ref C_BadBook, .ref C_BadPayments, .ref C_BadText, .ref C_NoHouse] = some false) (hk2 : PySem.W.kitOne K (.ref C_NoMove) (.type "ValueError") = some true) (hk3 : PySem.W.kitOne K (.ref C_NoMove) (.ref C_NoMove) = some true) 
    {g0 : Addr} {gd0 : FuncData} (D_need : DefAt K mg "need_book" s_need ["book"] g0 gd0) 
    {g1 : Addr} {gd1 : FuncData} (D_wrong : DefAt K mg "_wrong_in_claim" s_wrong ["claim", "houses"] g1 gd1) 
    {g2 : Addr} {gd2 : FuncData} (D_played : DefAt K mg "played" s_played ["book", "moves"] g2 gd2) 
    {g3 : Addr} {gd3 : FuncData} (D_fits : DefAt K mg "_fits" s_fits ["claims", "payments", "held", "move"] g3 gd3) 
    {g4 : Addr} {gd4 : FuncData} (D_areowed : DefAt K mg "_are_owed" s_areowed ["claims", "payments", "numbers", "coins"] g4 gd4) 
    {g5 : Addr} {gd5 : FuncData} (D_isring : DefAt K mg "_is_ring" s_isring ["claims", "numbers"] g5 gd5) 
    {g6 : Addr} {gd6 : FuncData} (D_makemv : DefAt K mg "_make_move" s_makemv ["claims", "payments", "held", "move"] g6 gd6) 
    {g7 : Addr} {gd7 : FuncData} (D_next : DefAt K mg "_law_next" s_next ["_law_h", "_law_many"] g7 gd7) 
    {g8 : Addr} {gd8 : FuncData} (D_lbook : DefAt K mg "_law_book" s_lbook ["_law_h", "_law_houses", "_law_claims", "_law_wide"] g8 gd8) 
    {g9 : Addr} {gd9 : FuncData} (D_lfits : DefAt K mg "_law_fits" s_lfits ["_law_book_here", "_law_paid", "_law_held", "_law_move_here"] g9 gd9) 
    {g10 : Addr} {gd10 : FuncData} (D_lplayed : DefAt K mg "_law_played" s_lplayed ["_law_book_here", "_law_moves"] g10 gd10) 
    {g11 : Addr} {gd11 : FuncData} (D_are : DefAt K mg "_law_are" s_are ["_law_found", "_law_due"] g11 gd11) 
    {g12 : Addr} {gd12 : FuncData} (D_lring : DefAt K mg "_law_ring" s_lring ["_law_h", "_law_book_here"] g12 gd12) 
    {g13 : Addr} {gd13 : FuncData} (D_lmove : DefAt K mg "_law_move" s_lmove ["_law_h", "_law_book_here"] g13 gd13) 
    {g14 : Addr} {gd14 : FuncData} (D_told : DefAt K mg "_law_told" s_told ["_law_book_here", "_law_moves"] g14 gd14) 
    {g15 : Addr} {gd15 : FuncData} (D_lgood : DefAt K mg "_law_round_good" s_lgood ["_law_h"] g15 gd15) : FnOk P w K mg base CX0 21 f fd ["_law_script"] (spLaw K) := by
  have G_next := ok_next (P := P) (w := w) (base := base) D_next m_max m_len
  have GX_played := ok_playedI (P := P) (w := w) (base := base) D_played m_len m_enumerate m_list m_set L D_wrong D_need D_areowed D_isring D_fits D_makemv X_NoMove N_number
  have G_played := ok_played0 (P := P) (w := w) (base := base) D_played m_len m_enumerate m_list m_set L D_wrong D_need D_areowed D_isring D_fits D_makemv
  have TX : XfC K C_NoMove := ⟨xga, xgt, X_NoMove.T.exC, xhd⟩
  have TC : ExcC K C_NoMove := ⟨xga, xgt, X_NoMove.T.exC, xhd, xcl, xsp, xtk, xmo⟩
  have G_told := ok_told (P := P) (w := w) (base := base) D_told D_played GX_played ⟨X_NoMove.gC⟩ ⟨X_FallError.gC⟩ ⟨X_BadBook.gC⟩ ⟨X_BadPayments.gC⟩ ⟨X_BadText.gC⟩ ⟨X_NoHouse.gC⟩ m_isinstance m_ValueError m_bool TX N_number TC (PySem.W.exm_ref X_FallError.eC xfd X_FallError.tC xsb) hk1 hk2 hk3
  have G_lplayed := ok_lplayedI (P := P) (w := w) (base := base) D_lplayed m_len m_set m_range m_list D_lfits
  have G_lring := ok_lring (P := P) (w := w) (base := base) D_lring m_len m_range m_tuple D_next G_next
  have G_lmove := ok_lmove (P := P) (w := w) (base := base) D_lmove m_len m_range m_tuple D_next G_next D_lring G_lring
  have G_lgood := ok_lgood (P := P) (w := w) (base := base) D_lgood m_len m_range m_tuple m_list D_next G_next D_told G_told D_lplayed G_lplayed
  exact law_body D m_range m_list m_isinstance m_int m_tuple D_next G_next D_lbook (ok_lbook D_lbook m_max m_len m_range m_tuple m_int D_next) D_lgood G_lgood D_lmove G_lmove D_lplayed G_lplayed D_told G_told D_are (ok_are D_are m_range m_len m_isinstance m_list m_bool m_int) D_played G_played
end


end Rf
namespace Rf
open PySem PySem.Spec PyProof.Rows L2
/-! ### what the top has written; the law's own head -/
theorem all_mk {l : PySem.W.OpenLaw} {w : World} {K : PySem.W.Frag} {h : Heap} {mg : Str → Option Value} {fa f1 f2 f3 f4 f5 f6 f7 f8 f9 f10 f11 f12 f13 f14 f15 f16 f17 : Addr} (X : K.In h) (G : h.Ns mainGlobals mg) (hfa : mg "law" = some (.ref fa))
    {od1 an1 od2 an2 od3 an3 od4 an4 od5 an5 od6 an6 od7 an7 od8 an8 od9 an9 od10 an10 od11 an11 od12 an12 od13 an13 od14 an14 od15 an15 od16 an16 od17 an17 : Option Addr} {sl1 sl2 sl3 sl4 sl5 sl6 sl7 sl8 sl9 sl10 sl11 sl12 sl13 sl14 sl15 sl16 sl17 : Array (Option Value)}
    {oc1 kV1 dc1 pm1 cd1 ct1 oc2 kV2 dc2 pm2 cd2 ct2 oc3 kV3 dc3 pm3 cd3 ct3 oc4 kV4 dc4 pm4 cd4 ct4 oc5 kV5 dc5 pm5 cd5 ct5 oc6 kV6 dc6 pm6 cd6 ct6 oc7 kV7 dc7 pm7 cd7 ct7 oc8 kV8 dc8 pm8 cd8 ct8 oc9 kV9 dc9 pm9 cd9 ct9 oc10 kV10 dc10 pm10 cd10 ct10 oc11 kV11 dc11 pm11 cd11 ct11 oc12 kV12 dc12 pm12 cd12 ct12 oc13 kV13 dc13 pm13 cd13 ct13 oc14 kV14 dc14 pm14 cd14 ct14 oc15 kV15 dc15 pm15 cd15 ct15 oc16 kV16 dc16 pm16 cd16 ct16 oc17 kV17 dc17 pm17 cd17 ct17 : Value}
    {C_FallError : Addr} (eg0 : PySem.W.nsIn K mainGlobals "FallError" = some (some (.ref C_FallError)))
    (ek0 : PySem.W.keepIn K (.ref C_FallError) = true) (es0 : PySem.W.subIn K (.ref C_FallError) (.type "BaseException") = some true) (et0 : PySem.W.typeIn K (.ref C_FallError) = some (.type "type"))
    (ex0 : PySem.W.excIn K C_FallError [.type "ValueError", .type "Exception", .type "BaseException", .type "object"] "ValueError.__new__" = true)
    {C_BadBook : Addr} (eg1 : PySem.W.nsIn K mainGlobals "BadBook" = some (some (.ref C_BadBook)))
    (ek1 : PySem.W.keepIn K (.ref C_BadBook) = true) (es1 : PySem.W.subIn K (.ref C_BadBook) (.type "BaseException") = some true) (et1 : PySem.W.typeIn K (.ref C_BadBook) = some (.type "type"))
    {nm1 qn1 : Str} {N1 : Addr} {bs1 bm1 : List Value} {sn1 : List Str} {sub1 : List Value} {ab1 : Bool} {col1 : Option Bool} {dd1 : Option Addr} {m01 m11 m21 m31 m51 : Option Value}
    (ex1 : K.lookup C_BadBook = some (excClassObj nm1 qn1 C_BadBook N1 bs1 bm1 true sn1 sub1 ab1 col1 dd1 m01 m11 m21 m31 m51 "ValueError.__new__")) (eb1 : PySem.HandSPX.refsVE bm1 = true)
    (ea1 : PySem.W.findIn K (.ref C_BadBook) "__setattr__" = some (some (.builtin "object.__setattr__")))
    {xf1 xc1 xd1 : Addr} (ei1 : PySem.W.findIn K (.ref C_BadBook) "__init__" = some (some (.ref xf1))) (ey1 : PySem.W.typeIn K (.ref xf1) = some (.type "function"))
    {xo1 xk1 xdc1 xpm1 xct1 : Value} {xod1 xan1 : Option Addr} {xsl1 : Array (Option Value)} (el1 : K.lookup xf1 = some ⟨xo1, xod1, .func (PySem.W.ksFn "__init__" "BadBook.__init__" (defArgs s_bbinit) (defBody s_bbinit) (defScope s_bbinit) .none xk1 xdc1 xpm1 xan1 (.ref xd1) xct1 xc1), xsl1⟩)
    (ej1 : PySem.W.codeIn K (.ref xd1) "BadBook.__init__" = true) {yc1 : Value} {yd1 : Option Addr} {yv1 : Array Value} {ys1 : Array (Option Value)} {yf1 : Str} {yt1 : Tok} (eo1 : K.lookup xd1 = some ⟨yc1, yd1, .fields yv1, ys1⟩) (ep1 : yv1[2]? = some (.str yf1 yt1)) (eq1 : ((l.prog.main.file : Str) == yf1) = true)
    {zc1 : Value} {zd1 : Option Addr} {zs1 : Array (Option Value)} (er1 : K.lookup xc1 = some ⟨zc1, zd1, .cell (some (.ref C_BadBook)), zs1⟩) (eu1 : PySem.W.isClsIn K C_BadBook = true) (ev1 : PySem.W.mroIn K C_BadBook (.ref C_BadBook) = some true)
    (ew1 : PySem.W.ks_superIn K C_BadBook C_BadBook "__init__" = some (some (.builtin "ValueError.__init__"))) (ez1 : PySem.W.subIn K (.ref C_BadBook) (.type "ValueError") = some true)
    {C_NoHouse : Addr} (eg2 : PySem.W.nsIn K mainGlobals "NoHouse" = some (some (.ref C_NoHouse)))
    (ek2 : PySem.W.keepIn K (.ref C_NoHouse) = true) (es2 : PySem.W.subIn K (.ref C_NoHouse) (.type "BaseException") = some true) (et2 : PySem.W.typeIn K (.ref C_NoHouse) = some (.type "type"))
    (ex2 : PySem.W.excIn K C_NoHouse [.type "ValueError", .type "Exception", .type "BaseException", .type "object"] "ValueError.__new__" = true)
    {C_BadPayments : Addr} (eg3 : PySem.W.nsIn K mainGlobals "BadPayments" = some (some (.ref C_BadPayments)))
    (ek3 : PySem.W.keepIn K (.ref C_BadPayments) = true) (es3 : PySem.W.subIn K (.ref C_BadPayments) (.type "BaseException") = some true) (et3 : PySem.W.typeIn K (.ref C_BadPayments) = some (.type "type"))
    (ex3 : PySem.W.excIn K C_BadPayments [.type "ValueError", .type "Exception", .type "BaseException", .type "object"] "ValueError.__new__" = true)
    {C_NoMove : Addr} (eg4 : PySem.W.nsIn K mainGlobals "NoMove" = some (some (.ref C_NoMove)))
    (ek4 : PySem.W.keepIn K (.ref C_NoMove) = true) (es4 : PySem.W.subIn K (.ref C_NoMove) (.type "BaseException") = some true) (et4 : PySem.W.typeIn K (.ref C_NoMove) = some (.type "type"))
    {nm4 qn4 : Str} {N4 : Addr} {bs4 bm4 : List Value} {sn4 : List Str} {sub4 : List Value} {ab4 : Bool} {col4 : Option Bool} {dd4 : Option Addr} {m04 m14 m24 m34 m54 : Option Value}
    (ex4 : K.lookup C_NoMove = some (excClassObj nm4 qn4 C_NoMove N4 bs4 bm4 true sn4 sub4 ab4 col4 dd4 m04 m14 m24 m34 m54 "ValueError.__new__")) (eb4 : PySem.HandSPX.refsVE bm4 = true)
    (ea4 : PySem.W.findIn K (.ref C_NoMove) "__setattr__" = some (some (.builtin "object.__setattr__")))
    {xf4 xc4 xd4 : Addr} (ei4 : PySem.W.findIn K (.ref C_NoMove) "__init__" = some (some (.ref xf4))) (ey4 : PySem.W.typeIn K (.ref xf4) = some (.type "function"))
    {xo4 xk4 xdc4 xpm4 xct4 : Value} {xod4 xan4 : Option Addr} {xsl4 : Array (Option Value)} (el4 : K.lookup xf4 = some ⟨xo4, xod4, .func (PySem.W.ksFn "__init__" "NoMove.__init__" (defArgs s_nminit) (defBody s_nminit) (defScope s_nminit) .none xk4 xdc4 xpm4 xan4 (.ref xd4) xct4 xc4), xsl4⟩)
    (ej4 : PySem.W.codeIn K (.ref xd4) "NoMove.__init__" = true) {yc4 : Value} {yd4 : Option Addr} {yv4 : Array Value} {ys4 : Array (Option Value)} {yf4 : Str} {yt4 : Tok} (eo4 : K.lookup xd4 = some ⟨yc4, yd4, .fields yv4, ys4⟩) (ep4 : yv4[2]? = some (.str yf4 yt4)) (eq4 : ((l.prog.main.file : Str) == yf4) = true)
    {zc4 : Value} {zd4 : Option Addr} {zs4 : Array (Option Value)} (er4 : K.lookup xc4 = some ⟨zc4, zd4, .cell (some (.ref C_NoMove)), zs4⟩) (eu4 : PySem.W.isClsIn K C_NoMove = true) (ev4 : PySem.W.mroIn K C_NoMove (.ref C_NoMove) = some true)
    (ew4 : PySem.W.ks_superIn K C_NoMove C_NoMove "__init__" = some (some (.builtin "ValueError.__init__"))) (ez4 : PySem.W.subIn K (.ref C_NoMove) (.type "ValueError") = some true)
    {C_BadText : Addr} (eg5 : PySem.W.nsIn K mainGlobals "BadText" = some (some (.ref C_BadText)))
    (ek5 : PySem.W.keepIn K (.ref C_BadText) = true) (es5 : PySem.W.subIn K (.ref C_BadText) (.type "BaseException") = some true) (et5 : PySem.W.typeIn K (.ref C_BadText) = some (.type "type"))
    {nm5 qn5 : Str} {N5 : Addr} {bs5 bm5 : List Value} {sn5 : List Str} {sub5 : List Value} {ab5 : Bool} {col5 : Option Bool} {dd5 : Option Addr} {m05 m15 m25 m35 m55 : Option Value}
    (ex5 : K.lookup C_BadText = some (excClassObj nm5 qn5 C_BadText N5 bs5 bm5 true sn5 sub5 ab5 col5 dd5 m05 m15 m25 m35 m55 "ValueError.__new__")) (eb5 : PySem.HandSPX.refsVE bm5 = true)
    (ea5 : PySem.W.findIn K (.ref C_BadText) "__setattr__" = some (some (.builtin "object.__setattr__")))
    {xf5 xc5 xd5 : Addr} (ei5 : PySem.W.findIn K (.ref C_BadText) "__init__" = some (some (.ref xf5))) (ey5 : PySem.W.typeIn K (.ref xf5) = some (.type "function"))
    {xo5 xk5 xdc5 xpm5 xct5 : Value} {xod5 xan5 : Option Addr} {xsl5 : Array (Option Value)} (el5 : K.lookup xf5 = some ⟨xo5, xod5, .func (PySem.W.ksFn "__init__" "BadText.__init__" (defArgs s_btinit) (defBody s_btinit) (defScope s_btinit) .none xk5 xdc5 xpm5 xan5 (.ref xd5) xct5 xc5), xsl5⟩)
    (ej5 : PySem.W.codeIn K (.ref xd5) "BadText.__init__" = true) {yc5 : Value} {yd5 : Option Addr} {yv5 : Array Value} {ys5 : Array (Option Value)} {yf5 : Str} {yt5 : Tok} (eo5 : K.lookup xd5 = some ⟨yc5, yd5, .fields yv5, ys5⟩) (ep5 : yv5[2]? = some (.str yf5 yt5)) (eq5 : ((l.prog.main.file : Str) == yf5) = true)
    {zc5 : Value} {zd5 : Option Addr} {zs5 : Array (Option Value)} (er5 : K.lookup xc5 = some ⟨zc5, zd5, .cell (some (.ref C_BadText)), zs5⟩) (eu5 : PySem.W.isClsIn K C_BadText = true) (ev5 : PySem.W.mroIn K C_BadText (.ref C_BadText) = some true)
    (ew5 : PySem.W.ks_superIn K C_BadText C_BadText "__init__" = some (some (.builtin "ValueError.__init__"))) (ez5 : PySem.W.subIn K (.ref C_BadText) (.type "ValueError") = some true)
    (esup : PySem.W.nsIn K mainGlobals "super" = some none) (etop : (l.prog.main.scope.names.lookup ("super" : Str)).isSome = false) (eany : PySem.W.nsIn K PySem.cStatics "thirdparty.any" = some none)
    (N_number : PySem.W.findIn K (.ref C_NoMove) "number" = some none)
    (xga : PySem.W.findIn K (.ref C_NoMove) "__getattribute__" = some (some (.builtin "BaseException.__getattribute__")))
    (xgt : PySem.W.findIn K (.ref C_NoMove) "__getattr__" = some none)
    (xhd : PySem.W.hasDictIn K C_NoMove = true)
    (xcl : PySem.W.findIn K (.ref C_NoMove) "__class__" = some (some (.builtin "object.__class__")))
    (xmo : PySem.W.mroIn K C_NoMove (.type "object") = some true)
    (xsb : PySem.W.subIn K (.ref C_NoMove) (.ref C_FallError) = some true)
    (xsp : PySem.W.specialIn K (.builtin "object.__class__") "__get__" = some (some (.builtin "getset_descriptor.__get__")))
    (xtk : PySem.W.takesIn K (.builtin "object.__class__") = some true)
    (xfd : PySem.W.hasDictIn K C_FallError = true)
    (hk1 : PySem.W.kitAny K (.ref C_NoMove) [.ref C_BadBook, .ref C_BadPayments, .ref C_BadText, .ref C_NoHouse] = some false)
    (hk2 : PySem.W.kitOne K (.ref C_NoMove) (.type "ValueError") = some true)
    (hk3 : PySem.W.kitOne K (.ref C_NoMove) (.ref C_NoMove) = some true)
    (a1 : PySem.W.nsIn K mainGlobals "need_book" = some (some (.ref f1))) (l1 : K.lookup f1 = some ⟨oc1, od1, .func (PySem.W.fnOf "need_book" "need_book" (defArgs s_need) (defBody s_need) (defScope s_need) .none kV1 dc1 pm1 an1 cd1 ct1), sl1⟩) (c1 : PySem.W.codeIn K cd1 "need_book" = true) (k1 : PySem.W.keepIn K (.ref f1) = true)
    (a2 : PySem.W.nsIn K mainGlobals "_wrong_in_claim" = some (some (.ref f2))) (l2 : K.lookup f2 = some ⟨oc2, od2, .func (PySem.W.fnOf "_wrong_in_claim" "_wrong_in_claim" (defArgs s_wrong) (defBody s_wrong) (defScope s_wrong) .none kV2 dc2 pm2 an2 cd2 ct2), sl2⟩) (c2 : PySem.W.codeIn K cd2 "_wrong_in_claim" = true) (k2 : PySem.W.keepIn K (.ref f2) = true)
    (a3 : PySem.W.nsIn K mainGlobals "played" = some (some (.ref f3))) (l3 : K.lookup f3 = some ⟨oc3, od3, .func (PySem.W.fnOf "played" "played" (defArgs s_played) (defBody s_played) (defScope s_played) .none kV3 dc3 pm3 an3 cd3 ct3), sl3⟩) (c3 : PySem.W.codeIn K cd3 "played" = true) (k3 : PySem.W.keepIn K (.ref f3) = true)
    (a4 : PySem.W.nsIn K mainGlobals "_fits" = some (some (.ref f4))) (l4 : K.lookup f4 = some ⟨oc4, od4, .func (PySem.W.fnOf "_fits" "_fits" (defArgs s_fits) (defBody s_fits) (defScope s_fits) .none kV4 dc4 pm4 an4 cd4 ct4), sl4⟩) (c4 : PySem.W.codeIn K cd4 "_fits" = true) (k4 : PySem.W.keepIn K (.ref f4) = true)
    (a5 : PySem.W.nsIn K mainGlobals "_are_owed" = some (some (.ref f5))) (l5 : K.lookup f5 = some ⟨oc5, od5, .func (PySem.W.fnOf "_are_owed" "_are_owed" (defArgs s_areowed) (defBody s_areowed) (defScope s_areowed) .none kV5 dc5 pm5 an5 cd5 ct5), sl5⟩) (c5 : PySem.W.codeIn K cd5 "_are_owed" = true) (k5 : PySem.W.keepIn K (.ref f5) = true)
    (a6 : PySem.W.nsIn K mainGlobals "_is_ring" = some (some (.ref f6))) (l6 : K.lookup f6 = some ⟨oc6, od6, .func (PySem.W.fnOf "_is_ring" "_is_ring" (defArgs s_isring) (defBody s_isring) (defScope s_isring) .none kV6 dc6 pm6 an6 cd6 ct6), sl6⟩) (c6 : PySem.W.codeIn K cd6 "_is_ring" = true) (k6 : PySem.W.keepIn K (.ref f6) = true)
    (a7 : PySem.W.nsIn K mainGlobals "_make_move" = some (some (.ref f7))) (l7 : K.lookup f7 = some ⟨oc7, od7, .func (PySem.W.fnOf "_make_move" "_make_move" (defArgs s_makemv) (defBody s_makemv) (defScope s_makemv) .none kV7 dc7 pm7 an7 cd7 ct7), sl7⟩) (c7 : PySem.W.codeIn K cd7 "_make_move" = true) (k7 : PySem.W.keepIn K (.ref f7) = true)
    (a8 : PySem.W.nsIn K mainGlobals "_law_next" = some (some (.ref f8))) (l8 : K.lookup f8 = some ⟨oc8, od8, .func (PySem.W.fnOf "_law_next" "_law_next" (defArgs s_next) (defBody s_next) (defScope s_next) .none kV8 dc8 pm8 an8 cd8 ct8), sl8⟩) (c8 : PySem.W.codeIn K cd8 "_law_next" = true) (k8 : PySem.W.keepIn K (.ref f8) = true)
    (a9 : PySem.W.nsIn K mainGlobals "_law_book" = some (some (.ref f9))) (l9 : K.lookup f9 = some ⟨oc9, od9, .func (PySem.W.fnOf "_law_book" "_law_book" (defArgs s_lbook) (defBody s_lbook) (defScope s_lbook) .none kV9 dc9 pm9 an9 cd9 ct9), sl9⟩) (c9 : PySem.W.codeIn K cd9 "_law_book" = true) (k9 : PySem.W.keepIn K (.ref f9) = true)
    (a10 : PySem.W.nsIn K mainGlobals "_law_fits" = some (some (.ref f10))) (l10 : K.lookup f10 = some ⟨oc10, od10, .func (PySem.W.fnOf "_law_fits" "_law_fits" (defArgs s_lfits) (defBody s_lfits) (defScope s_lfits) .none kV10 dc10 pm10 an10 cd10 ct10), sl10⟩) (c10 : PySem.W.codeIn K cd10 "_law_fits" = true) (k10 : PySem.W.keepIn K (.ref f10) = true)
    (a11 : PySem.W.nsIn K mainGlobals "_law_played" = some (some (.ref f11))) (l11 : K.lookup f11 = some ⟨oc11, od11, .func (PySem.W.fnOf "_law_played" "_law_played" (defArgs s_lplayed) (defBody s_lplayed) (defScope s_lplayed) .none kV11 dc11 pm11 an11 cd11 ct11), sl11⟩) (c11 : PySem.W.codeIn K cd11 "_law_played" = true) (k11 : PySem.W.keepIn K (.ref f11) = true)
    (a12 : PySem.W.nsIn K mainGlobals "_law_are" = some (some (.ref f12))) (l12 : K.lookup f12 = some ⟨oc12, od12, .func (PySem.W.fnOf "_law_are" "_law_are" (defArgs s_are) (defBody s_are) (defScope s_are) .none kV12 dc12 pm12 an12 cd12 ct12), sl12⟩) (c12 : PySem.W.codeIn K cd12 "_law_are" = true) (k12 : PySem.W.keepIn K (.ref f12) = true)
    (a13 : PySem.W.nsIn K mainGlobals "_law_ring" = some (some (.ref f13))) (l13 : K.lookup f13 = some ⟨oc13, od13, .func (PySem.W.fnOf "_law_ring" "_law_ring" (defArgs s_lring) (defBody s_lring) (defScope s_lring) .none kV13 dc13 pm13 an13 cd13 ct13), sl13⟩) (c13 : PySem.W.codeIn K cd13 "_law_ring" = true) (k13 : PySem.W.keepIn K (.ref f13) = true)
    (a14 : PySem.W.nsIn K mainGlobals "_law_move" = some (some (.ref f14))) (l14 : K.lookup f14 = some ⟨oc14, od14, .func (PySem.W.fnOf "_law_move" "_law_move" (defArgs s_lmove) (defBody s_lmove) (defScope s_lmove) .none kV14 dc14 pm14 an14 cd14 ct14), sl14⟩) (c14 : PySem.W.codeIn K cd14 "_law_move" = true) (k14 : PySem.W.keepIn K (.ref f14) = true)
    (a15 : PySem.W.nsIn K mainGlobals "_law_told" = some (some (.ref f15))) (l15 : K.lookup f15 = some ⟨oc15, od15, .func (PySem.W.fnOf "_law_told" "_law_told" (defArgs s_told) (defBody s_told) (defScope s_told) .none kV15 dc15 pm15 an15 cd15 ct15), sl15⟩) (c15 : PySem.W.codeIn K cd15 "_law_told" = true) (k15 : PySem.W.keepIn K (.ref f15) = true)
    (a16 : PySem.W.nsIn K mainGlobals "_law_round_good" = some (some (.ref f16))) (l16 : K.lookup f16 = some ⟨oc16, od16, .func (PySem.W.fnOf "_law_round_good" "_law_round_good" (defArgs s_lgood) (defBody s_lgood) (defScope s_lgood) .none kV16 dc16 pm16 an16 cd16 ct16), sl16⟩) (c16 : PySem.W.codeIn K cd16 "_law_round_good" = true) (k16 : PySem.W.keepIn K (.ref f16) = true)
    (a17 : PySem.W.nsIn K mainGlobals "law" = some (some (.ref f17))) (l17 : K.lookup f17 = some ⟨oc17, od17, .func (PySem.W.fnOf "law" "law" (defArgs s_law) (defBody s_law) (defScope s_law) .none kV17 dc17 pm17 an17 cd17 ct17), sl17⟩) (c17 : PySem.W.codeIn K cd17 "law" = true) (k17 : PySem.W.keepIn K (.ref f17) = true)
    (z1 : PySem.W.nsIn K mainGlobals "range" = some none)
    (z2 : PySem.W.nsIn K mainGlobals "len" = some none)
    (z3 : PySem.W.nsIn K mainGlobals "max" = some none)
    (z4 : PySem.W.nsIn K mainGlobals "list" = some none)
    (z5 : PySem.W.nsIn K mainGlobals "enumerate" = some none)
    (z6 : PySem.W.nsIn K mainGlobals "isinstance" = some none)
    (z7 : PySem.W.nsIn K mainGlobals "bool" = some none)
    (z8 : PySem.W.nsIn K mainGlobals "int" = some none)
    (z9 : PySem.W.nsIn K mainGlobals "tuple" = some none)
    (z10 : PySem.W.nsIn K mainGlobals "set" = some none)
    (z11 : PySem.W.nsIn K mainGlobals "ValueError" = some none)
    {tk1 : Tok} (g1 : PySem.W.nsIn K mainGlobals "MOST_HOUSES" = some (some (.int 8 tk1)))
    {tk2 : Tok} (g2 : PySem.W.nsIn K mainGlobals "MOST_CASH" = some (some (.int 999 tk2)))
    {tk3 : Tok} (g3 : PySem.W.nsIn K mainGlobals "MOST_CLAIMS" = some (some (.int 24 tk3)))
    {tk4 : Tok} (g4 : PySem.W.nsIn K mainGlobals "MOST_AMOUNT" = some (some (.int 999 tk4)))
    {tk5 : Tok} (g5 : PySem.W.nsIn K mainGlobals "MOST_RANK" = some (some (.int 9 tk5)))
    : ∃ fd : FuncData, (∀ (s : Shared) (v : Value), BindsTo s fd ⟨[v], []⟩ [("_law_script", v)]) ∧ ∀ base : Heap, K.In base → base.Ns mainGlobals mg → FnOk l.prog w K mg base CX0 21 fa fd ["_law_script"] (spLaw K) := by
  have e := hfa.symm.trans (PySem.W.mg_of X G a17)
  cases e
  have F1 := fun_mk (st := s_need) l1 c1 k1
  have D_need : DefAt K mg "need_book" s_need ["book"] _ _ := ⟨F1, F1.binds (ps := ["book"]) fun _ _ _ _ _ _ us hl => match us, hl with | [_], _ => rfl, PySem.W.mg_of X G a1⟩
  have F2 := fun_mk (st := s_wrong) l2 c2 k2
  have D_wrong : DefAt K mg "_wrong_in_claim" s_wrong ["claim", "houses"] _ _ := ⟨F2, F2.binds (ps := ["claim", "houses"]) fun _ _ _ _ _ _ us hl => match us, hl with | [_, _], _ => rfl, PySem.W.mg_of X G a2⟩
  have F3 := fun_mk (st := s_played) l3 c3 k3
  have D_played : DefAt K mg "played" s_played ["book", "moves"] _ _ := ⟨F3, F3.binds (ps := ["book", "moves"]) fun _ _ _ _ _ _ us hl => match us, hl with | [_, _], _ => rfl, PySem.W.mg_of X G a3⟩
  have F4 := fun_mk (st := s_fits) l4 c4 k4
  have D_fits : DefAt K mg "_fits" s_fits ["claims", "payments", "held", "move"] _ _ := ⟨F4, F4.binds (ps := ["claims", "payments", "held", "move"]) fun _ _ _ _ _ _ us hl => match us, hl with | [_, _, _, _], _ => rfl, PySem.W.mg_of X G a4⟩
  have F5 := fun_mk (st := s_areowed) l5 c5 k5
  have D_areowed : DefAt K mg "_are_owed" s_areowed ["claims", "payments", "numbers", "coins"] _ _ := ⟨F5, F5.binds (ps := ["claims", "payments", "numbers", "coins"]) fun _ _ _ _ _ _ us hl => match us, hl with | [_, _, _, _], _ => rfl, PySem.W.mg_of X G a5⟩
  have F6 := fun_mk (st := s_isring) l6 c6 k6
  have D_isring : DefAt K mg "_is_ring" s_isring ["claims", "numbers"] _ _ := ⟨F6, F6.binds (ps := ["claims", "numbers"]) fun _ _ _ _ _ _ us hl => match us, hl with | [_, _], _ => rfl, PySem.W.mg_of X G a6⟩
  have F7 := fun_mk (st := s_makemv) l7 c7 k7
  have D_makemv : DefAt K mg "_make_move" s_makemv ["claims", "payments", "held", "move"] _ _ := ⟨F7, F7.binds (ps := ["claims", "payments", "held", "move"]) fun _ _ _ _ _ _ us hl => match us, hl with | [_, _, _, _], _ => rfl, PySem.W.mg_of X G a7⟩
  have F8 := fun_mk (st := s_next) l8 c8 k8
  have D_next : DefAt K mg "_law_next" s_next ["_law_h", "_law_many"] _ _ := ⟨F8, F8.binds (ps := ["_law_h", "_law_many"]) fun _ _ _ _ _ _ us hl => match us, hl with | [_, _], _ => rfl, PySem.W.mg_of X G a8⟩
  have F9 := fun_mk (st := s_lbook) l9 c9 k9
  have D_lbook : DefAt K mg "_law_book" s_lbook ["_law_h", "_law_houses", "_law_claims", "_law_wide"] _ _ := ⟨F9, F9.binds (ps := ["_law_h", "_law_houses", "_law_claims", "_law_wide"]) fun _ _ _ _ _ _ us hl => match us, hl with | [_, _, _, _], _ => rfl, PySem.W.mg_of X G a9⟩
  have F10 := fun_mk (st := s_lfits) l10 c10 k10
  have D_lfits : DefAt K mg "_law_fits" s_lfits ["_law_book_here", "_law_paid", "_law_held", "_law_move_here"] _ _ := ⟨F10, F10.binds (ps := ["_law_book_here", "_law_paid", "_law_held", "_law_move_here"]) fun _ _ _ _ _ _ us hl => match us, hl with | [_, _, _, _], _ => rfl, PySem.W.mg_of X G a10⟩
  have F11 := fun_mk (st := s_lplayed) l11 c11 k11
  have D_lplayed : DefAt K mg "_law_played" s_lplayed ["_law_book_here", "_law_moves"] _ _ := ⟨F11, F11.binds (ps := ["_law_book_here", "_law_moves"]) fun _ _ _ _ _ _ us hl => match us, hl with | [_, _], _ => rfl, PySem.W.mg_of X G a11⟩
  have F12 := fun_mk (st := s_are) l12 c12 k12
  have D_are : DefAt K mg "_law_are" s_are ["_law_found", "_law_due"] _ _ := ⟨F12, F12.binds (ps := ["_law_found", "_law_due"]) fun _ _ _ _ _ _ us hl => match us, hl with | [_, _], _ => rfl, PySem.W.mg_of X G a12⟩
  have F13 := fun_mk (st := s_lring) l13 c13 k13
  have D_lring : DefAt K mg "_law_ring" s_lring ["_law_h", "_law_book_here"] _ _ := ⟨F13, F13.binds (ps := ["_law_h", "_law_book_here"]) fun _ _ _ _ _ _ us hl => match us, hl with | [_, _], _ => rfl, PySem.W.mg_of X G a13⟩
  have F14 := fun_mk (st := s_lmove) l14 c14 k14
  have D_lmove : DefAt K mg "_law_move" s_lmove ["_law_h", "_law_book_here"] _ _ := ⟨F14, F14.binds (ps := ["_law_h", "_law_book_here"]) fun _ _ _ _ _ _ us hl => match us, hl with | [_, _], _ => rfl, PySem.W.mg_of X G a14⟩
  have F15 := fun_mk (st := s_told) l15 c15 k15
  have D_told : DefAt K mg "_law_told" s_told ["_law_book_here", "_law_moves"] _ _ := ⟨F15, F15.binds (ps := ["_law_book_here", "_law_moves"]) fun _ _ _ _ _ _ us hl => match us, hl with | [_, _], _ => rfl, PySem.W.mg_of X G a15⟩
  have F16 := fun_mk (st := s_lgood) l16 c16 k16
  have D_lgood : DefAt K mg "_law_round_good" s_lgood ["_law_h"] _ _ := ⟨F16, F16.binds (ps := ["_law_h"]) fun _ _ _ _ _ _ us hl => match us, hl with | [_], _ => rfl, PySem.W.mg_of X G a16⟩
  have F17 := fun_mk (st := s_law) l17 c17 k17
  have D_law : DefAt K mg "law" s_law ["_law_script"] _ _ := ⟨F17, F17.binds (ps := ["_law_script"]) fun _ _ _ _ _ _ us hl => match us, hl with | [_], _ => rfl, PySem.W.mg_of X G a17⟩
  have m_range : mg "range" = none := PySem.W.mg_none_of X G z1
  have m_len : mg "len" = none := PySem.W.mg_none_of X G z2
  have m_max : mg "max" = none := PySem.W.mg_none_of X G z3
  have m_list : mg "list" = none := PySem.W.mg_none_of X G z4
  have m_enumerate : mg "enumerate" = none := PySem.W.mg_none_of X G z5
  have m_isinstance : mg "isinstance" = none := PySem.W.mg_none_of X G z6
  have m_bool : mg "bool" = none := PySem.W.mg_none_of X G z7
  have m_int : mg "int" = none := PySem.W.mg_none_of X G z8
  have m_tuple : mg "tuple" = none := PySem.W.mg_none_of X G z9
  have m_set : mg "set" = none := PySem.W.mg_none_of X G z10
  have m_ValueError : mg "ValueError" = none := PySem.W.mg_none_of X G z11
  have L : Lims mg := ⟨⟨_, PySem.W.mg_of X G g1⟩, ⟨_, PySem.W.mg_of X G g2⟩, ⟨_, PySem.W.mg_of X G g3⟩, ⟨_, PySem.W.mg_of X G g4⟩, ⟨_, PySem.W.mg_of X G g5⟩⟩
  have esup2 : mg "super" = none := PySem.W.mg_none_of X G esup
  have X_FallError : OwnAt K mg "FallError" C_FallError := ⟨ex0, PySem.W.mg_of X G eg0, ek0, es0, et0⟩
  have X_BadBook : InitAt l.prog K mg "BadBook" C_BadBook xf1 xc1 xd1 _ "BadBook.__init__" s_bbinit ["self", "at", "why"] := ⟨⟨⟨_, _, _, _, _, _, _, _, rfl, el1⟩, ej1, ⟨_, _, _, _, _, _, eo1, ep1, eq1⟩, ⟨_, _, _, er1⟩, Option.isSome_iff_exists.mp eu1, ev1, esup2, etop, ew1, ez1, eany⟩, ⟨⟨_, _, _, _, _, _, _, _, _, _, _, _, _, _, _, ex1, eb1⟩, ea1, es1, et1, ek1⟩, ei1, ey1, .all fun us hl => match us, hl with | [_, _, _], _ => rfl, PySem.W.mg_of X G eg1⟩
  have X_NoHouse : OwnAt K mg "NoHouse" C_NoHouse := ⟨ex2, PySem.W.mg_of X G eg2, ek2, es2, et2⟩
  have X_BadPayments : OwnAt K mg "BadPayments" C_BadPayments := ⟨ex3, PySem.W.mg_of X G eg3, ek3, es3, et3⟩
  have X_NoMove : InitAt l.prog K mg "NoMove" C_NoMove xf4 xc4 xd4 _ "NoMove.__init__" s_nminit ["self", "number"] := ⟨⟨⟨_, _, _, _, _, _, _, _, rfl, el4⟩, ej4, ⟨_, _, _, _, _, _, eo4, ep4, eq4⟩, ⟨_, _, _, er4⟩, Option.isSome_iff_exists.mp eu4, ev4, esup2, etop, ew4, ez4, eany⟩, ⟨⟨_, _, _, _, _, _, _, _, _, _, _, _, _, _, _, ex4, eb4⟩, ea4, es4, et4, ek4⟩, ei4, ey4, .all fun us hl => match us, hl with | [_, _], _ => rfl, PySem.W.mg_of X G eg4⟩
  have X_BadText : InitAt l.prog K mg "BadText" C_BadText xf5 xc5 xd5 _ "BadText.__init__" s_btinit ["self", "row"] := ⟨⟨⟨_, _, _, _, _, _, _, _, rfl, el5⟩, ej5, ⟨_, _, _, _, _, _, eo5, ep5, eq5⟩, ⟨_, _, _, er5⟩, Option.isSome_iff_exists.mp eu5, ev5, esup2, etop, ew5, ez5, eany⟩, ⟨⟨_, _, _, _, _, _, _, _, _, _, _, _, _, _, _, ex5, eb5⟩, ea5, es5, et5, ek5⟩, ei5, ey5, .all fun us hl => match us, hl with | [_, _], _ => rfl, PySem.W.mg_of X G eg5⟩
  exact ⟨PySem.W.fnOf "law" "law" (defArgs s_law) (defBody s_law) (defScope s_law) .none kV17 dc17 pm17 an17 cd17 ct17, fun s v => .of_eq rfl, fun base _ _ => ok_law (D := D_law) (X_FallError := X_FallError) (X_BadBook := X_BadBook) (X_NoHouse := X_NoHouse) (X_BadPayments := X_BadPayments) (X_NoMove := X_NoMove) (X_BadText := X_BadText) (N_number := N_number) (xga := xga) (xgt := xgt) (xhd := xhd) (xcl := xcl) (xmo := xmo) (xsb := xsb) (xsp := xsp) (xtk := xtk) (xfd := xfd) (hk1 := hk1) (hk2 := hk2) (hk3 := hk3) (L := L) (m_range := m_range) (m_len := m_len) (m_max := m_max) (m_list := m_list) (m_enumerate := m_enumerate) (m_isinstance := m_isinstance) (m_bool := m_bool) (m_int := m_int) (m_tuple := m_tuple) (m_set := m_set) (m_ValueError := m_ValueError) (D_need := D_need) (D_wrong := D_wrong) (D_played := D_played) (D_fits := D_fits) (D_areowed := D_areowed) (D_isring := D_isring) (D_makemv := D_makemv) (D_next := D_next) (D_lbook := D_lbook) (D_lfits := D_lfits) (D_lplayed := D_lplayed) (D_are := D_are) (D_lring := D_lring) (D_lmove := D_lmove) (D_told := D_told) (D_lgood := D_lgood)⟩
end Rf
open PySem PySem.W PyProof.Rows
set_option maxRecDepth 100000 in
set_option maxHeartbeats 0 in
theorem PySem.Challenge.cw_rankfall_k12_moves_played_holds : PySem.Challenge.rw_rankfall_k12_moves_played.Holds := by
  w_on; o_law; k_head; (case hw => w_witness2)
  k_fill
  refine L2.walk_of (l := PySem.Challenge.rw_rankfall_k12_moves_played) (n := 63) (k := 21) (x := "_law_script") (CX := fun _ => L2.CX0) (sp := fun w => Rf.spLaw _) rfl (by decide) rfl ⟨rfl, by decide, by decide⟩ (fun w h Y => PySem.W.kIn_of Y) ?F (fun _ _ a ns hl _ hS => ⟨a, ns, rfl, hS, hl, fun _ => rfl⟩) (fun _ _ _ _ _ h => h)
  case F =>
    intro w mg fa h KX G hmg
    refine' Rf.all_mk KX G hmg ?eg0 ?ek0 ?es0 ?et0 ?ex0 ?eg1 ?ek1 ?es1 ?et1 ?ex1 ?eb1 ?ea1 ?ei1 ?ey1 ?el1 ?ej1 ?eo1 ?ep1 ?eq1 ?er1 ?eu1 ?ev1 ?ew1 ?ez1 ?eg2 ?ek2 ?es2 ?et2 ?ex2 ?eg3 ?ek3 ?es3 ?et3 ?ex3 ?eg4 ?ek4 ?es4 ?et4 ?ex4 ?eb4 ?ea4 ?ei4 ?ey4 ?el4 ?ej4 ?eo4 ?ep4 ?eq4 ?er4 ?eu4 ?ev4 ?ew4 ?ez4 ?eg5 ?ek5 ?es5 ?et5 ?ex5 ?eb5 ?ea5 ?ei5 ?ey5 ?el5 ?ej5 ?eo5 ?ep5 ?eq5 ?er5 ?eu5 ?ev5 ?ew5 ?ez5 ?esup ?etop ?eany ?N_number ?xga ?xgt ?xhd ?xcl ?xmo ?xsb ?xsp ?xtk ?xfd ?hk1 ?hk2 ?hk3 ?a1 ?l1 ?c1 ?k1 ?a2 ?l2 ?c2 ?k2 ?a3 ?l3 ?c3 ?k3 ?a4 ?l4 ?c4 ?k4 ?a5 ?l5 ?c5 ?k5 ?a6 ?l6 ?c6 ?k6 ?a7 ?l7 ?c7 ?k7 ?a8 ?l8 ?c8 ?k8 ?a9 ?l9 ?c9 ?k9 ?a10 ?l10 ?c10 ?k10 ?a11 ?l11 ?c11 ?k11 ?a12 ?l12 ?c12 ?k12 ?a13 ?l13 ?c13 ?k13 ?a14 ?l14 ?c14 ?k14 ?a15 ?l15 ?c15 ?k15 ?a16 ?l16 ?c16 ?k16 ?a17 ?l17 ?c17 ?k17 ?z1 ?z2 ?z3 ?z4 ?z5 ?z6 ?z7 ?z8 ?z9 ?z10 ?z11 ?g1 ?g2 ?g3 ?g4 ?g5
    (case eg0 => first | k_is | k_exc | ks_is | kit_is | rfl | decide +kernel)
    (case ek0 => first | k_is | k_exc | ks_is | kit_is | rfl | decide +kernel)
    (case es0 => first | k_is | k_exc | ks_is | kit_is | rfl | decide +kernel)
    (case et0 => first | k_is | k_exc | ks_is | kit_is | rfl | decide +kernel)
    (case ex0 => first | k_is | k_exc | ks_is | kit_is | rfl | decide +kernel)
    (case eg1 => first | k_is | k_exc | ks_is | kit_is | rfl | decide +kernel)
    (case ek1 => first | k_is | k_exc | ks_is | kit_is | rfl | decide +kernel)
    (case es1 => first | k_is | k_exc | ks_is | kit_is | rfl | decide +kernel)
    (case et1 => first | k_is | k_exc | ks_is | kit_is | rfl | decide +kernel)
    (case ex1 => first | k_is | k_exc | ks_is | kit_is | rfl | decide +kernel)
    (case eb1 => first | k_is | k_exc | ks_is | kit_is | rfl | decide +kernel)
    (case ea1 => first | k_is | k_exc | ks_is | kit_is | rfl | decide +kernel)
    (case ei1 => first | k_is | k_exc | ks_is | kit_is | rfl | decide +kernel)
    (case ey1 => first | k_is | k_exc | ks_is | kit_is | rfl | decide +kernel)
    (case el1 => first | k_is | k_exc | ks_is | kit_is | rfl | decide +kernel)
    (case ej1 => first | k_is | k_exc | ks_is | kit_is | rfl | decide +kernel)
    (case eo1 => first | k_is | k_exc | ks_is | kit_is | rfl | decide +kernel)
    (case ep1 => first | k_is | k_exc | ks_is | kit_is | rfl | decide +kernel)
    (case eq1 => first | k_is | k_exc | ks_is | kit_is | rfl | decide +kernel)
    (case er1 => first | k_is | k_exc | ks_is | kit_is | rfl | decide +kernel)
    (case eu1 => first | k_is | k_exc | ks_is | kit_is | rfl | decide +kernel)
    (case ev1 => first | k_is | k_exc | ks_is | kit_is | rfl | decide +kernel)
    (case ew1 => first | k_is | k_exc | ks_is | kit_is | rfl | decide +kernel)
    (case ez1 => first | k_is | k_exc | ks_is | kit_is | rfl | decide +kernel)
    (case eg2 => first | k_is | k_exc | ks_is | kit_is | rfl | decide +kernel)
    (case ek2 => first | k_is | k_exc | ks_is | kit_is | rfl | decide +kernel)
    (case es2 => first | k_is | k_exc | ks_is | kit_is | rfl | decide +kernel)
    (case et2 => first | k_is | k_exc | ks_is | kit_is | rfl | decide +kernel)
    (case ex2 => first | k_is | k_exc | ks_is | kit_is | rfl | decide +kernel)
    (case eg3 => first | k_is | k_exc | ks_is | kit_is | rfl | decide +kernel)
    (case ek3 => first | k_is | k_exc | ks_is | kit_is | rfl | decide +kernel)
    (case es3 => first | k_is | k_exc | ks_is | kit_is | rfl | decide +kernel)
    (case et3 => first | k_is | k_exc | ks_is | kit_is | rfl | decide +kernel)
    (case ex3 => first | k_is | k_exc | ks_is | kit_is | rfl | decide +kernel)
    (case eg4 => first | k_is | k_exc | ks_is | kit_is | rfl | decide +kernel)
    (case ek4 => first | k_is | k_exc | ks_is | kit_is | rfl | decide +kernel)
    (case es4 => first | k_is | k_exc | ks_is | kit_is | rfl | decide +kernel)
    (case et4 => first | k_is | k_exc | ks_is | kit_is | rfl | decide +kernel)
    (case ex4 => first | k_is | k_exc | ks_is | kit_is | rfl | decide +kernel)
    (case eb4 => first | k_is | k_exc | ks_is | kit_is | rfl | decide +kernel)
    (case ea4 => first | k_is | k_exc | ks_is | kit_is | rfl | decide +kernel)
    (case ei4 => first | k_is | k_exc | ks_is | kit_is | rfl | decide +kernel)
    (case ey4 => first | k_is | k_exc | ks_is | kit_is | rfl | decide +kernel)
    (case el4 => first | k_is | k_exc | ks_is | kit_is | rfl | decide +kernel)
    (case ej4 => first | k_is | k_exc | ks_is | kit_is | rfl | decide +kernel)
    (case eo4 => first | k_is | k_exc | ks_is | kit_is | rfl | decide +kernel)
    (case ep4 => first | k_is | k_exc | ks_is | kit_is | rfl | decide +kernel)
    (case eq4 => first | k_is | k_exc | ks_is | kit_is | rfl | decide +kernel)
    (case er4 => first | k_is | k_exc | ks_is | kit_is | rfl | decide +kernel)
    (case eu4 => first | k_is | k_exc | ks_is | kit_is | rfl | decide +kernel)
    (case ev4 => first | k_is | k_exc | ks_is | kit_is | rfl | decide +kernel)
    (case ew4 => first | k_is | k_exc | ks_is | kit_is | rfl | decide +kernel)
    (case ez4 => first | k_is | k_exc | ks_is | kit_is | rfl | decide +kernel)
    (case eg5 => first | k_is | k_exc | ks_is | kit_is | rfl | decide +kernel)
    (case ek5 => first | k_is | k_exc | ks_is | kit_is | rfl | decide +kernel)
    (case es5 => first | k_is | k_exc | ks_is | kit_is | rfl | decide +kernel)
    (case et5 => first | k_is | k_exc | ks_is | kit_is | rfl | decide +kernel)
    (case ex5 => first | k_is | k_exc | ks_is | kit_is | rfl | decide +kernel)
    (case eb5 => first | k_is | k_exc | ks_is | kit_is | rfl | decide +kernel)
    (case ea5 => first | k_is | k_exc | ks_is | kit_is | rfl | decide +kernel)
    (case ei5 => first | k_is | k_exc | ks_is | kit_is | rfl | decide +kernel)
    (case ey5 => first | k_is | k_exc | ks_is | kit_is | rfl | decide +kernel)
    (case el5 => first | k_is | k_exc | ks_is | kit_is | rfl | decide +kernel)
    (case ej5 => first | k_is | k_exc | ks_is | kit_is | rfl | decide +kernel)
    (case eo5 => first | k_is | k_exc | ks_is | kit_is | rfl | decide +kernel)
    (case ep5 => first | k_is | k_exc | ks_is | kit_is | rfl | decide +kernel)
    (case eq5 => first | k_is | k_exc | ks_is | kit_is | rfl | decide +kernel)
    (case er5 => first | k_is | k_exc | ks_is | kit_is | rfl | decide +kernel)
    (case eu5 => first | k_is | k_exc | ks_is | kit_is | rfl | decide +kernel)
    (case ev5 => first | k_is | k_exc | ks_is | kit_is | rfl | decide +kernel)
    (case ew5 => first | k_is | k_exc | ks_is | kit_is | rfl | decide +kernel)
    (case ez5 => first | k_is | k_exc | ks_is | kit_is | rfl | decide +kernel)
    (case esup => first | k_is | k_exc | ks_is | kit_is | rfl | decide +kernel)
    (case etop => first | k_is | k_exc | ks_is | kit_is | rfl | decide +kernel)
    (case eany => first | k_is | k_exc | ks_is | kit_is | rfl | decide +kernel)
    (case N_number => first | k_is | k_exc | ks_is | kit_is | rfl | decide +kernel)
    (case xga => first | k_is | k_exc | ks_is | kit_is | rfl | decide +kernel)
    (case xgt => first | k_is | k_exc | ks_is | kit_is | rfl | decide +kernel)
    (case xhd => first | k_is | k_exc | ks_is | kit_is | rfl | decide +kernel)
    (case xcl => first | k_is | k_exc | ks_is | kit_is | rfl | decide +kernel)
    (case xmo => first | k_is | k_exc | ks_is | kit_is | rfl | decide +kernel)
    (case xsb => first | k_is | k_exc | ks_is | kit_is | rfl | decide +kernel)
    (case xsp => first | k_is | k_exc | ks_is | kit_is | rfl | decide +kernel)
    (case xtk => first | k_is | k_exc | ks_is | kit_is | rfl | decide +kernel)
    (case xfd => first | k_is | k_exc | ks_is | kit_is | rfl | decide +kernel)
    (case hk1 => first | k_is | k_exc | ks_is | kit_is | rfl | decide +kernel)
    (case hk2 => first | k_is | k_exc | ks_is | kit_is | rfl | decide +kernel)
    (case hk3 => first | k_is | k_exc | ks_is | kit_is | rfl | decide +kernel)
    (case a1 => k_is)
    (case l1 => k_is)
    (case c1 => k_is)
    (case k1 => k_is)
    (case a2 => k_is)
    (case l2 => k_is)
    (case c2 => k_is)
    (case k2 => k_is)
    (case a3 => k_is)
    (case l3 => k_is)
    (case c3 => k_is)
    (case k3 => k_is)
    (case a4 => k_is)
    (case l4 => k_is)
    (case c4 => k_is)
    (case k4 => k_is)
    (case a5 => k_is)
    (case l5 => k_is)
    (case c5 => k_is)
    (case k5 => k_is)
    (case a6 => k_is)
    (case l6 => k_is)
    (case c6 => k_is)
    (case k6 => k_is)
    (case a7 => k_is)
    (case l7 => k_is)
    (case c7 => k_is)
    (case k7 => k_is)
    (case a8 => k_is)
    (case l8 => k_is)
    (case c8 => k_is)
    (case k8 => k_is)
    (case a9 => k_is)
    (case l9 => k_is)
    (case c9 => k_is)
    (case k9 => k_is)
    (case a10 => k_is)
    (case l10 => k_is)
    (case c10 => k_is)
    (case k10 => k_is)
    (case a11 => k_is)
    (case l11 => k_is)
    (case c11 => k_is)
    (case k11 => k_is)
    (case a12 => k_is)
    (case l12 => k_is)
    (case c12 => k_is)
    (case k12 => k_is)
    (case a13 => k_is)
    (case l13 => k_is)
    (case c13 => k_is)
    (case k13 => k_is)
    (case a14 => k_is)
    (case l14 => k_is)
    (case c14 => k_is)
    (case k14 => k_is)
    (case a15 => k_is)
    (case l15 => k_is)
    (case c15 => k_is)
    (case k15 => k_is)
    (case a16 => k_is)
    (case l16 => k_is)
    (case c16 => k_is)
    (case k16 => k_is)
    (case a17 => k_is)
    (case l17 => k_is)
    (case c17 => k_is)
    (case k17 => k_is)
    (case z1 => k_is)
    (case z2 => k_is)
    (case z3 => k_is)
    (case z4 => k_is)
    (case z5 => k_is)
    (case z6 => k_is)
    (case z7 => k_is)
    (case z8 => k_is)
    (case z9 => k_is)
    (case z10 => k_is)
    (case z11 => k_is)
    (case g1 => k_is)
    (case g2 => k_is)
    (case g3 => k_is)
    (case g4 => k_is)
    (case g5 => k_is)


